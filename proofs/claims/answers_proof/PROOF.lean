import PyProof.Rows.All
import Wide.All
import OpenK.AllK
import Wide.FinOn
import PyProof.EqAt
import PyProof.EqKinds
import PyProof.TupleCall
import KE.BitLaws
import Open.SpecLaws
import KE.OsHead
import KE.OsGo
import VbsoaaNeutral
import PyVbsoaa
import PyWideLaws
import PyProof.DictRoadsH
import PyProof.WalkLemmas
import PyProof.Walk
import PyProof.MinMaxWalk
import PyProof.WalksMore
import PyProof.DictTruth
import KE.KDictLaws
import PyProof.WalkInts
import KE.KMinKey
import PyProof.Rows.TupIn
import KE.KEqDict
import KE.KDictSum
import PyProof.ZipIter
import PyProof.Rows.TupIter
import PyProof.Rows.TupAdd
import PyProof.ListMulRoad
import PySem.Challenge.RW_ordersatonce_s01_answers
set_option Elab.async false
set_option linter.all false
set_option maxRecDepth 100000
set_option maxHeartbeats 4000000
section
namespace L2
open PySem PySem.Spec PyProof.Rows
abbrev Key:=Sum Int Str
def mj:Key→Value→Bool
 |.inl k,v=>Value.isInt k v
 |.inr x,v=>Value.isStrOf x v
def cS(w:World):Key→Int
 |.inl k=>hashInt k
 |.inr x=>hashStr w x
theorem dh:∀{k:Key}{v:Value},mj k v=true→(∃i t,k=Sum.inl i∧v=Value.int i t)∨(∃x t,k=Sum.inr x∧v=Value.str x t)
 |.inl i,v,h=>by
  obtain⟨t,e⟩:=Value.isInt_shape (k:=i) (v:=v) h;exact .inl ⟨i,t,rfl,e⟩
 |.inr x,v,h=>by
  obtain⟨t,e⟩:=Value.isStrOf_shape (x:=x) (v:=v) h;exact .inr ⟨x,t,rfl,e⟩
theorem aI(i:Int)(t:Tok):mj (.inl i) (.int i t)=true:=by simp[mj,Value.isInt]
theorem iM(x:Str)(t:Tok):mj (.inr x) (.str x t)=true:=by simp[mj,Value.isStrOf]
theorem ahJ(a b:Int):decide ((Sum.inl a:Key)=Sum.inl b)=(a==b):=by
 by_cases e:a=b
 ·subst e;simp
 ·have h:¬(Sum.inl a:Key)=Sum.inl b:=fun q=>e (Sum.inl.inj q);rw[decide_eq_false h];exact(beq_eq_false_iff_ne.mpr e).symm
theorem ahK(a b:Str):decide ((Sum.inr a:Key)=Sum.inr b)=decide (a=b):=by
 by_cases e:a=b
 ·subst e;simp
 ·have h:¬(Sum.inr a:Key)=Sum.inr b:=fun q=>e (Sum.inr.inj q);rw[decide_eq_false h,decide_eq_false e]
theorem ahL(a:Int)(b:Str):decide ((Sum.inl a:Key)=Sum.inr b)=false:=decide_eq_false (fun q=>nomatch q)
theorem ahM(a:Str)(b:Int):decide ((Sum.inr a:Key)=Sum.inl b)=false:=decide_eq_false (fun q=>nomatch q)
def aO(prog:Program)(w:World):PySem.KeyKind prog w Key where
 is:=mj
 hash:=cS w
 inj:=fun v a b ha hb=>by
  rcases dh ha with⟨i,t,rfl,rfl⟩|⟨x,t,rfl,rfl⟩
  ·rcases dh hb with⟨j,u,rfl,e⟩|⟨y,u,rfl,e⟩
   ·injection e with e1 _;rw[e1]
   ·exact nomatch e
  ·rcases dh hb with⟨j,u,rfl,e⟩|⟨y,u,rfl,e⟩
   ·exact nomatch e
   ·injection e with e1 _;rw[e1]
 byValue:=fun k v h=>by
  rcases dh h with⟨i,t,rfl,rfl⟩|⟨x,t,rfl,rfl⟩<;>rfl
 pyHash:=fun hv h=>by
  rcases dh hv with⟨i,t,rfl,rfl⟩|⟨x,t,rfl,rfl⟩
  ·exact wpAny_pyHash_int h
  ·exact wpAny_pyHash_str h
 eqBool:=fun hu hv h=>by
  rcases dh hu with⟨i,t,rfl,rfl⟩|⟨x,t,rfl,rfl⟩
  ·rcases dh hv with⟨j,u,rfl,rfl⟩|⟨y,u,rfl,rfl⟩
   ·rw[ahJ] at h;exact wpAny_eqBool_int h
   ·rw[ahL] at h;exact SeqAt.EqAt.int_str i t y u _ _ _ _ h
  ·rcases dh hv with⟨j,u,rfl,rfl⟩|⟨y,u,rfl,rfl⟩
   ·rw[ahM] at h;exact SeqAt.EqAt.str_int x t j u _ _ _ _ h
   ·rw[ahK] at h;exact wpAny_eqBool_str h
 «strs»:=fun k x t v h=>by
  rcases dh h with⟨i,u,rfl,e⟩|⟨y,u,rfl,e⟩
  ·exact nomatch e
  ·injection e with e1 _
   subst e1;cases v<;>rfl
theorem Uj(prog:Program)(w:World)(i:Int)(t:Tok):(aO prog w).is (.inl i) (.int i t)=true:=aI i t
theorem Uk(prog:Program)(w:World)(x:Str)(t:Tok):(aO prog w).is (.inr x) (.str x t)=true:=iM x t
end L2
namespace L2
open PySem PySem.Spec PyProof.Rows
inductive V where
 |non|bl (b:Bool)|int (i:Int)|str (x:Str)|byt (b:Array UInt8)|flt (b:UInt64)|ref (a:Addr)|ty (n:String)
 deriving DecidableEq
def RelV:V→Value→Prop
 |.non,u=>u=Value.none
 |.bl b,u=>u=Value.bool b
 |.int i,u=>∃t,u=Value.int i t
 |.str x,u=>∃t,u=Value.str x t
 |.byt b,u=>∃t,u=Value.bytes b t
 |.flt b,u=>∃t,u=Value.float b t
 |.ref a,u=>u=Value.ref a
 |.ty n,u=>u=Value.type n
abbrev Vals:List V→List Value→Prop:=Paired RelV
theorem Vals.length{xs:List V}{us:List Value}(r:Vals xs us):xs.length=us.length:=Paired.length r
theorem Vals.get:∀{xs:List V}{us:List Value}{i:Nat}{x:V},Vals xs us→xs[i]?=some x→∃u,us[i]?=some u∧RelV x u
 |_,_,_,_,.nil,e=>by simp at e
 |_,_,0,_,.cons r _,e=>by simp at e;subst e;exact⟨_,rfl,r⟩
 |_,_,i+1,x,.cons _ t,e=>by
  obtain⟨u,h1,h2⟩:=Vals.get (i:=i) (x:=x) t (by simpa using e);exact⟨u,by simpa using h1,h2⟩
theorem Vals.append:∀{xs ys:List V}{us ws:List Value},Vals xs us→Vals ys ws→Vals (xs++ys) (us++ws)
 |_,_,_,_,.nil,s=>s
 |_,_,_,_,.cons r t,s=>.cons r (Vals.append t s)
theorem Vals.take:∀{xs:List V}{us:List Value}(n:Nat),Vals xs us→Vals (xs.take n) (us.take n)
 |_,_,0,_=>.nil
 |_,_,_+1,.nil=>.nil
 |_,_,n+1,.cons r t=>.cons r (Vals.take n t)
theorem Vals.drop:∀{xs:List V}{us:List Value}(n:Nat),Vals xs us→Vals (xs.drop n) (us.drop n)
 |_,_,0,r=>r
 |_,_,_+1,.nil=>.nil
 |_,_,n+1,.cons _ t=>Vals.drop n t
def oZ:Option V→Option Value→Prop
 |some v,some u=>RelV v u
 |none,none=>True
 |_,_=>False
def KV{κ:Type}:List (κ×V)→List (κ×Value)→Prop:=Paired fun(p:κ×V)(q:κ×Value)=>p.1=q.1∧RelV p.2 q.2
def kV:Key→V
 |.inl i=>.int i
 |.inr x=>.str x
inductive HO where
 |lst (xs:List V)
 |tup (xs:List V)
 |dK (kvs:List (Key×V))|dT (kvs:List (List Key×V))
 |set (S:Int→Bool) (n:Nat)
 |ins (C dx:Addr) (fs:List (Str×V))
 |own (x:Addr)
 |xd (fs:List (Str×V))
 |met (f x:Addr)
 |rng (lo hi:Int)
 |frz (o:Obj) (u:HO)
 |tbl (ps:Array Value)
 |ext (φ:Heap→Prop)
abbrev Hp:=Addr→Option HO
def upd(H:Hp)(a:Addr)(o:HO):Hp:=fun b=>if b=a then some o else H b
theorem ae{H:Hp}{a:Addr}{o:HO}:upd H a o a=some o:=by unfold upd;rw[if_pos rfl]
theorem ab{H:Hp}{a b:Addr}{o:HO}(h:b≠a):upd H a o b=H b:=by unfold upd;rw[if_neg h]
theorem aK{H:Hp}{a b:Addr}{o u:HO}(h:H a=some o)(h':H b=some u)(d:o≠u):a≠b:=by
 intro e;subst e;rw[h] at h';exact d (Option.some.inj h')
theorem ai{H:Hp}{a b:Addr}{o:HO}(h:H a=some o)(h':H b=none):a≠b:=by
 intro e;subst e;rw[h] at h';cases h'
section
variable(P:Program)(w:World)
def cO(H:Hp)(h:Heap)(a:Addr):HO→Prop
 |.lst xs=>xs.length≤sizeLine∧∃(its:List Value)(n:Nat),Vals xs its∧h.get? a=some {cls:=.type "list",data:=.seq its.toArray n}
 |.tup xs=>xs.length≤sizeLine∧∃its:List Value,Vals xs its∧IsTup h a its.toArray
 |.dK kvs=>kvs.length≤sizeLine∧(a==sysModules)=false∧∃vs,KV kvs vs∧h.DictOf (aO P w) a vs
 |.dT kvs=>kvs.length≤sizeLine∧(a==sysModules)=false∧∃xs:List (List Key×Addr×Value),
   Paired (fun(p:List Key×V)(q:List Key×Addr×Value)=>p.1=q.1∧H q.2.1=some (.tup (p.1.map kV))∧RelV p.2 q.2.2) kvs xs∧
   ∃o es ep,h.get? a=some o∧o.ExactDict∧o.data=.dict es ep∧es.toList=xs.map (entryOfKey (tupleKind (aO P w)))∧(xs.map (·.1)).Nodup
 |.set S n=>h.SetOf (intKind P w) a S n
 |.ins C dx fs=>H dx=some (.own a)∧fs.length≤1000∧dx≠a∧h.get? a=some (PySem.W.instObj C dx)∧
   ∃mA,h.Ns1 dx mA∧(∀f,oZ (fs.lookup f) (mA f))∧PySem.Within mA (fs.map (·.1))
 |.own _=>∃o,h.get? a=some o
 |.xd fs=>∃mA,h.Ns1 a mA∧∀f,oZ (fs.lookup f) (mA f)
 |.rng lo hi=>∃t u v,h.get? a=some {cls:=.type "range",data:=.fields #[.int lo t,.int hi u,.int 1 v]}
 |.frz o u=>h.get? a=some o∧cO H h a u
 |.tbl ps=>h.get? a=some {cls:=.none,data:=.fields ps}
 |.met f x=>h.get? a=some (PySem.W.methodObj (.ref f) (.ref x))
 |.ext φ=>φ h∧(∃o,h.get? a=some o)∧∀h1 h2:Heap,φ h1→(∀o,h1.get? a=some o→h2.get? a=some o)→φ h2
def HOk(H:Hp)(h:Heap):Prop:=∀a o,H a=some o→cO P w H h a o
end
section
variable{P:Program}{w:World}{H H':Hp}{h h':Heap}{a:Addr}{o:HO}
theorem cO.lt(x:cO P w H h a o):a<h.objs.size:=by
 cases o with
 |lst xs=>obtain⟨_,_,_,_,e⟩:=x;exact Heap.lt_size e
 |tup xs=>obtain⟨_,_,_,p⟩:=x;exact p.lt
 |dK kvs=>obtain⟨_,_,_,_,o,_,_,e,_⟩:=x;exact Heap.lt_size e
 |dT kvs=>obtain⟨_,_,_,_,o,_,_,e,_⟩:=x;exact Heap.lt_size e
 |set S n=>obtain⟨o,_,_,_,e,_⟩:=x;exact Heap.lt_size e
 |ins C dx fs=>obtain⟨_,_,_,e,_⟩:=x;exact Heap.lt_size e
 |own y=>obtain⟨_,e⟩:=x;exact Heap.lt_size e
 |xd fs=>obtain⟨_,⟨_,_,_,e,_⟩,_⟩:=x;exact Heap.lt_size e
 |rng lo hi=>obtain⟨_,_,_,e⟩:=x;exact Heap.lt_size e
 |frz ob u=>obtain⟨e,_⟩:=x;exact Heap.lt_size e
 |tbl ps=>exact Heap.lt_size (show h.get? a=some _ from x)
 |met f y=>exact Heap.lt_size (show h.get? a=some _ from x)
 |ext φ=>obtain⟨_,⟨_,e⟩,_⟩:=x;exact Heap.lt_size e
theorem Paired.ahN{α β:Type}{F G:α→β→Prop}:∀{l₁:List α}{l₂:List β},Paired F l₁ l₂→(∀a b,F a b→G a b)→Paired G l₁ l₂
 |_,_,.nil,_=>.nil
 |_,_,.cons r t,f=>.cons (f _ _ r) (Paired.ahN t f)
theorem cO.stay(x:cO P w H h a o)(k:∀b u,(b=a∨H b=some (.own a))→h.get? b=some u→h'.get? b=some u)
  (ho:∀b,H b=some (.own a)→H' b=some (.own a)) (ht:∀b xs,H b=some (.tup xs)→H' b=some (.tup xs)):cO P w H' h' a o:=by
 induction o with
 |lst xs=>obtain⟨z,its,n,r,e⟩:=x;exact⟨z,its,n,r,k _ _ (.inl rfl) e⟩
 |tup xs=>obtain⟨z,its,r,ob,e,c⟩:=x;exact⟨z,its,r,ob,k _ _ (.inl rfl) e,c⟩
 |dK kvs=>obtain⟨z,y,vs,r,ob,es,ep,e,c⟩:=x;exact⟨z,y,vs,r,ob,es,ep,k _ _ (.inl rfl) e,c⟩
 |dT kvs=>
  obtain⟨z,y,xs,r,ob,es,ep,e,c⟩:=x;exact⟨z,y,xs,Paired.ahN r fun p q z=>⟨z.1,ht _ _ z.2.1,z.2.2⟩,ob,es,ep,k _ _ (.inl rfl) e,c⟩
 |set S n=>obtain⟨ob,es,ep,t,e,c⟩:=x;exact⟨ob,es,ep,t,k _ _ (.inl rfl) e,c⟩
 |ins C dx fs=>
  obtain⟨d,z,ne,e,mA,⟨od,es,ep,e2,c⟩,r⟩:=x;exact⟨ho _ d,z,ne,k _ _ (.inl rfl) e,mA,⟨od,es,ep,k _ _ (.inr d) e2,c⟩,r⟩
 |own y=>obtain⟨ob,e⟩:=x;exact⟨ob,k _ _ (.inl rfl) e⟩
 |xd fs=>obtain⟨mA,⟨od,es,ep,e,c⟩,r⟩:=x;exact⟨mA,⟨od,es,ep,k _ _ (.inl rfl) e,c⟩,r⟩
 |rng lo hi=>obtain⟨t,u,v,e⟩:=x;exact⟨t,u,v,k _ _ (.inl rfl) e⟩
 |frz ob u ih=>obtain⟨e,q⟩:=x;exact⟨k _ _ (.inl rfl) e,ih q⟩
 |tbl ps=>
  have e:h.get? a=some {cls:=.none,data:=.fields ps}:=x;show h'.get? a=some {cls:=.none,data:=.fields ps};exact k a _ (.inl rfl) e
 |met f y=>
  have e:h.get? a=some (PySem.W.methodObj (.ref f) (.ref y)):=x;show h'.get? a=some (PySem.W.methodObj (.ref f) (.ref y));exact k a _ (.inl rfl) e
 |ext φ=>obtain⟨p,⟨o,e⟩,st⟩:=x;exact⟨st _ _ p fun o q=>k _ _ (.inl rfl) q,⟨o,k _ _ (.inl rfl) e⟩,st⟩
theorem HOk.lt(x:HOk P w H h)(e:H a=some o):a<h.objs.size:=(x a o e).lt
theorem HOk.fresh(x:HOk P w H h)(e:h.objs.size≤a):H a=none:=by
 cases q:H a with
 |none=>rfl
 |some u=>exact absurd (Nat.lt_of_lt_of_le (x.lt q) e) (Nat.lt_irrefl _)
theorem HOk.kept(x:HOk P w H h)(k:∀b u,h.get? b=some u→h'.get? b=some u):HOk P w H h':=fun a o e=>
 (x a o e).stay (fun b u _ q=>k b u q) (fun _ q=>q) fun _ _ q=>q
theorem HOk.laid(x:HOk P w H h)(k:∀b u,h.get? b=some u→h'.get? b=some u)(hp:h.objs.size≤a)(new:cO P w (upd H a o) h' a o):HOk P w (upd H a o) h':=fun b u e=>by
 have hn:=x.fresh hp;by_cases hb:b=a
 ·subst hb;rw[ae] at e;cases e;exact new
 ·rw[ab hb] at e;exact(x b u e).stay (fun c v _ q=>k c v q) (fun c q=>by rw[ab (ai q hn)];exact q) fun c xs q=>by rw[ab (ai q hn)];exact q
end
def Rd(H:Hp)(a:Addr)(u:HO):Prop:=H a=some u∨∃o,H a=some (.frz o u)
theorem Rd.ok{P:Program}{w:World}{H:Hp}{h:Heap}{a:Addr}{u:HO}(r:Rd H a u)(x:HOk P w H h):cO P w H h a u:=by
 rcases r with r|⟨o,r⟩
 ·exact x a u r
 ·obtain⟨_,q⟩:=x a _ r;exact q
def Mut:Option HO→Prop
 |some (.lst _)=>True
 |some (.dK _)=>True
 |some (.dT _)=>True
 |some (.set _ _)=>True
 |some (.ins _ _ _)=>True
 |some (.ext _)=>True
 |_=>False
section
variable{P:Program}{w:World}{H:Hp}{h h':Heap}{x e:Addr}{o':HO}
theorem HOk.write(ok:HOk P w H h)(mu:Mut (H x))(he:e=x∨H e=some (.own x))(k:∀b u,b≠e→h.get? b=some u→h'.get? b=some u)(heo:∃u,h'.get? e=some u)
  (new:cO P w (upd H x o') h' x o'):HOk P w (upd H x o') h':=fun b u q=>by
 have akb:∀c y,H c=some (.own y)→c≠x:=fun c y r z=>by subst z;rw[r] at mu;exact mu
 have amy:∀c xs,H c=some (.tup xs)→c≠x:=fun c xs r z=>by subst z;rw[r] at mu;exact mu
 by_cases hb:b=x
 ·subst hb;rw[ae] at q;cases q;exact new
 ·rw[ab hb] at q;by_cases hbe:b=e
  ·have q':H b=some (.own x):=by
    rcases he with z|z
    ·exact absurd (hbe.trans z) hb
    ·rw[hbe];exact z
   rw[q] at q';cases q';obtain⟨v,hv⟩:=heo;exact⟨v,by rw[hbe];exact hv⟩
  ·refine(ok b u q).stay (fun c v hc r=>k c v ?_ r) (fun c r=>by rw[ab (akb c b r)];exact r) fun c xs r=>by rw[ab (amy c xs r)];exact r
   rcases hc with rfl|hc
   ·exact hbe
   ·rintro rfl;rcases he with z|z
    ·exact akb c b hc z
    ·rw[hc] at z;cases z;exact hb rfl
end
structure Un(fs ex:List Addr)(H H':Hp)(h h':Heap):Prop where
 keep:∀b o,h.get? b=some o→H b=none→b∉fs→b∉ex→h'.get? b=some o
 slot:∀b o,h.get? b=some o→H b=none→b∈fs→b∉ex→∃sl,h'.get? b=some {o with slots:=sl}
 free:∀b o,h.get? b=some o→H b=none→b∉ex→H' b=none
 there:∀b o,h.get? b=some o→b∉ex→∃o',h'.get? b=some o'
 tups:∀b xs,H b=some (.tup xs)→H' b=some (.tup xs)
 Jd:∀b o u,H b=some (.frz o u)→H' b=some (.frz o u)
 Ql:∀b ps,H b=some (.tbl ps)→∃more,H' b=some (.tbl (ps++more))
section
variable{fs fs' ex ex':List Addr}{H H1 H2:Hp}{h h1 h2 h':Heap}{a x e:Addr}{o:HO}
theorem Un.any(u:Un fs ex H H1 h h1){b:Addr}{ob:Obj}(q:h.get? b=some ob)(n:H b=none)(hx:b∉ex):∃sl,h1.get? b=some {ob with slots:=sl}:=by
 by_cases hb:b∈fs
 ·exact u.slot b ob q n hb hx
 ·exact⟨ob.slots,u.keep b ob q n hb hx⟩
theorem Un.kept(k:∀b u,h.get? b=some u→h'.get? b=some u):Un fs ex H H h h':=
 ⟨fun b ob q _ _ _=>k b ob q,fun b ob q _ _ _=>⟨ob.slots,k b ob q⟩,fun _ _ _ n _=>n,fun b ob q _=>⟨ob,k b ob q⟩,fun _ _ q=>q,fun _ _ _ q=>q,fun _ ps q=>⟨#[],by rw[q];simp⟩⟩
theorem Un.refl:Un fs ex H H h h:=Un.kept fun _ _ q=>q
theorem Un.laid(k:∀b u,h.get? b=some u→h'.get? b=some u)(hp:h.objs.size≤a)(hn:H a=none):Un fs ex H (upd H a o) h h' where
 keep:=fun b u q _ _ _=>k b u q
 slot:=fun b u q _ _ _=>⟨u.slots,k b u q⟩
 free:=fun b u q n _=>by rw[ab (Nat.ne_of_lt (Nat.lt_of_lt_of_le (Heap.lt_size q) hp))];exact n
 there:=fun b u q _=>⟨u,k b u q⟩
 tups:=fun b xs q=>by rw[ab (ai q hn)];exact q
 Jd:=fun b u xs q=>by rw[ab (ai q hn)];exact q
 Ql:=fun b ps q=>⟨#[],by rw[ab (ai q hn),q];simp⟩
theorem Un.write(mu:Mut (H x))(he:e=x∨H e=some (.own x))(k:∀b u,b≠e→h.get? b=some u→h'.get? b=some u)(heo:∃u,h'.get? e=some u):Un fs ex H (upd H x o) h h':=by
 have hx:∀b,H b=none→b≠x:=fun b n z=>by subst z;rw[n] at mu;exact mu
 have hb:∀b,H b=none→b≠e:=fun b n z=>by
  subst z;rcases he with r|r
  ·exact hx b n r
  ·rw[n] at r;cases r
 have hm:∀b u,H b=some u→¬Mut (some u)→b≠x:=fun b u q nm z=>by subst z;rw[q] at mu;exact nm mu
 refine⟨fun b u q n _ _=>k b u (hb b n) q,fun b u q n _ _=>⟨u.slots,k b u (hb b n) q⟩,fun b u q n _=>by rw[ab (hx b n)];exact n,fun b u q _=>?_,
  fun b xs q=>by rw[ab (hm b _ q fun z=>z)];exact q,fun b u xs q=>by rw[ab (hm b _ q fun z=>z)];exact q,fun b ps q=>⟨#[],by rw[ab (hm b _ q fun z=>z),q];simp⟩⟩
 by_cases hbe:b=e
 ·subst hbe;exact heo
 ·exact⟨u,k b u hbe q⟩
end
def trk(h:Heap)(H:Hp):List Addr:=(List.range h.objs.size).filter fun a=>(H a).isSome
def Qm(h:Heap)(H:Hp):Heap:=PySem.W.hideAll h (trk h H)
theorem aaU(h:Heap)(H:Hp):(Qm h H).objs.size=h.objs.size:=PySem.W.hideAll_size _ _
theorem ac4{h:Heap}{H:Hp}{b:Addr}{o:Obj}(e:h.get? b=some o)(n:H b=none):(Qm h H).get? b=some o:=
 PySem.W.hideAll_get _ e fun hm=>by
  have q:(H b).isSome=true:=(List.mem_filter.mp hm).2;rw[n] at q;simp at q
theorem afK{h:Heap}{H:Hp}{b:Addr}{o:Obj}(e:(Qm h H).get? b=some o):h.get? b=some o∧H b=none:=by
 have e':h.get? b=some o:=PySem.W.of_hideAll (trk h H) e;refine⟨e',?_⟩;cases q:H b with
 |none=>rfl
 |some x=>
  have hm:b∈trk h H:=List.mem_filter.mpr ⟨List.mem_range.mpr (Heap.lt_size e'),by simp[q]⟩;have z:(Qm h H).get? b=none:=PySem.W.hideAll_none (trk h H) hm;rw[z] at e;cases e
end L2
namespace L2
open PySem PySem.Spec PyProof.Rows
structure Mod(K:PySem.W.Frag)(mg:Str→Option Value)(base:Heap):Prop where
 kin:K.In base
 glob:base.Ns mainGlobals mg
 blt:∃mb,base.Ns builtinsNs mb∧∀x:Str,x≠"__name__"→mb x=bootBuiltins x
 nolimit:base.NoLimit
structure Cx where
 prog:Program
 w:World
 K:PySem.W.Frag
 mg:Str→Option Value
 base:Heap
 A:Around
 N:List Str
 s_0:Shared
 H_0:Hp
 env:Env
 outer:List Env
 stack:List Env
 ex:List Addr
 fn:Str→Bool
 calm:Bool
 pn:List (Addr×Obj)
 xe:Value→Shared→Prop
def frs(l:List Env):List Addr:=l.filterMap (·.frame)
abbrev Cx.fs(X:Cx):List Addr:=frs X.outer
def Vis(sc:Scope)(x:Str):Prop:=sc.names.lookup x=some .local∨sc.names.lookup x=some .cell∨sc.names.lookup x=some .free
def Loc(sc:Scope)(x:Str):Prop:=sc.names.lookup x=some .local∨sc.names.lookup x=some .cell
def Look(env:Env)(h:Heap)(m:Str→Option Value)(x:Str)(u:Value):Prop:=
 (env.kindOf x=some .local∧m x=some u)∨((env.kindOf x=some .cell∨env.kindOf x=some .free)∧∃c,env.cells.lookup x=some c∧h.IsCell c (some u))
structure Cx.Ok(X:Cx):Prop where
 mod:Mod X.K X.mg X.base
 kind:X.env.scope.kind=.function
 glob:X.env.globals=mainGlobals
 blt:X.env.builtins=builtinsNs
 above:X.s_0.heap.objs.size≤X.env.locals
 inj:∀x y c,X.env.cells.lookup x=some c→X.env.cells.lookup y=some c→x=y
 has:∀x,(X.env.kindOf x=some .cell∨X.env.kindOf x=some .free)→∃c,X.env.cells.lookup x=some c
 cab:∀x c,X.fn x=true→X.env.cells.lookup x=some c→X.s_0.heap.objs.size≤c
 hd:X.calm=true→X.A.handled=none
 frames:X.A.frames=some X.stack
 stk:X.stack=X.outer∨(X.stack=X.env::X.outer∧X.env.frame=some X.env.locals)
 exf:∀b∈X.ex,b≠X.env.locals∧∀x c,X.env.cells.lookup x=some c→c≠b
 bs:∀b o,X.base.get? b=some o→X.s_0.heap.get? b=some o∧X.H_0 b=none
 bsz:X.base.objs.size≤X.s_0.heap.objs.size
 ac5:∀b o,X.base.get? b=some o→b∉X.ex
 ac6:∀b∈X.ex,b∉X.fs
 Hg:X.s_0.heap.FunFrames X.base X.outer
 frf:∀b∈X.fs,X.H_0 b=none
structure Inv(X:Cx)(pins:List (Addr×Obj))(σ:List (Option V))(H:Hp)(s:Shared):Prop where
 ok:X.Ok
 os:s.os=X.s_0.os
 bare:AllBare s.gens
 base:Un X.fs X.ex X.H_0 H X.s_0.heap s.heap
 loc:∃m,s.heap.Ns X.env.locals m∧∀(i:Nat)(x:Str)(v:V),X.N[i]?=some x→σ[i]?=some (some v)→Vis X.env.scope x→∃u,RelV v u∧Look X.env s.heap m x u
 cell:∀x c,X.env.cells.lookup x=some c→∃v,s.heap.IsCell c v
 free:H X.env.locals=none
 pH:∀x c,X.env.cells.lookup x=some c→H c=none
 pin:∀p∈X.pn++pins,s.heap.get? p.1=some p.2∧H p.1=none∧p.1≠X.env.locals∧p.1∉X.fs∧∀v,p.2.data≠.cell v
 hok:HOk X.prog X.w H s.heap
 len:σ.length=X.N.length
section
variable{X:Cx}{pins:List (Addr×Obj)}{σ:List (Option V)}{H H':Hp}{s:Shared}{h':Heap}
theorem Cx.Ok.amz(ok:X.Ok){b:Addr}{o:Obj}(e:X.base.get? b=some o):b∉X.fs:=fun hb=>by
 have:=(ok.Hg.mem hb).1;rw[e] at this;cases this
theorem Inv.bs(I:Inv X pins σ H s):∀b o,X.base.get? b=some o→s.heap.get? b=some o∧H b=none:=fun b o e=>
 ⟨I.base.keep b o (I.ok.bs b o e).1 (I.ok.bs b o e).2 (I.ok.amz e) (I.ok.ac5 b o e),I.base.free b o (I.ok.bs b o e).1 (I.ok.bs b o e).2 (I.ok.ac5 b o e)⟩
theorem Inv.bk(I:Inv X pins σ H s):∀b o,X.base.get? b=some o→s.heap.get? b=some o:=fun b o e=>(I.bs b o e).1
theorem Inv.mod(I:Inv X pins σ H s):Mod X.K X.mg X.base:=I.ok.mod
theorem Inv.kIn(I:Inv X pins σ H s):X.K.In s.heap:=I.ok.mod.kin.keeps I.bk
theorem Inv.fr(I:Inv X pins σ H s):∃m,Fr X.base X.env.locals s.heap m:=
 let ⟨m,hn,_⟩:=I.loc
 ⟨m,hn,I.bk,Nat.le_trans I.ok.bsz I.ok.above⟩
theorem Inv.lt(I:Inv X pins σ H s):X.env.locals<s.heap.objs.size:=let ⟨_,hn,_⟩:=I.loc;hn.lt
theorem Inv.sz(I:Inv X pins σ H s):X.s_0.heap.objs.size≤s.heap.objs.size:=Nat.le_trans I.ok.above (Nat.le_of_lt I.lt)
theorem Inv.amA(I:Inv X pins σ H s){a:Addr}(h:s.heap.objs.size≤a):a∉X.fs:=fun hb=>by
 obtain⟨_,o,ho,_⟩:=I.ok.Hg.mem hb;exact absurd (Nat.lt_of_lt_of_le (Heap.lt_size ho) (Nat.le_trans I.sz h)) (Nat.lt_irrefl _)
theorem Inv.cne(I:Inv X pins σ H s):∀x c,X.env.cells.lookup x=some c→c≠X.env.locals:=fun x c e z=>by
 obtain⟨v,o,ho,hd⟩:=I.cell x c e;obtain⟨m,⟨o',es,ep,ho',hd',_⟩,_⟩:=I.loc;rw[z,ho'] at ho;cases ho;rw[hd'] at hd;cases hd
theorem Inv.Hg(I:Inv X pins σ H s):s.heap.FunFrames X.base X.outer:=by
 have all:∀(l:List Env),(∀b∈frs l,b∈X.fs)→X.s_0.heap.FunFrames X.base l→s.heap.FunFrames X.base l:=by
  intro l
  induction l with
  |nil=>intro _ _;trivial
  |cons env r ih=>
   intro hs hl;obtain⟨hk,⟨L,o,hf,hn,ho,hd⟩,hr⟩:=hl;have hL:L∈X.fs:=hs L (by unfold frs;rw[List.filterMap_cons,hf];exact List.mem_cons_self);obtain⟨sl,e⟩:=I.base.slot L o ho (I.ok.frf L hL) hL fun z=>I.ok.ac6 L z hL;exact⟨hk,⟨L,_,hf,hn,e,hd⟩,ih (fun b hb=>hs b (by unfold frs;rw[List.filterMap_cons,hf];exact List.mem_cons_of_mem _ hb)) hr⟩
 exact all X.outer (fun _ hb=>hb) I.ok.Hg
theorem Inv.stack(I:Inv X pins σ H s):s.heap.FunFrames X.base X.stack:=by
 rcases I.ok.stk with e|⟨e,hf⟩
 ·rw[e];exact I.Hg
 ·rw[e];obtain⟨m,hn,_⟩:=I.loc;refine .cons (by rw[I.ok.kind];decide) hf hn ?_ I.Hg;exact Heap.get?_none_of_le (Nat.le_trans I.ok.bsz I.ok.above)
theorem Inv.X3(I:Inv X pins σ H s):∀b∈frs X.stack,b∈X.env.locals::X.fs:=fun b hb=>by
 rcases I.ok.stk with e|⟨e,hf⟩
 ·rw[e] at hb;exact List.mem_cons_of_mem _ hb
 ·rw[e] at hb;unfold frs at hb;rw[List.filterMap_cons,hf] at hb;exact hb
theorem Inv.ZN(I:Inv X pins σ H s):∀b∈frs X.stack,H b=none:=fun b hb=>by
 rcases List.mem_cons.mp (I.X3 b hb) with e|hb
 ·rw[e];exact I.free
 ·obtain⟨_,o,ho,_⟩:=I.ok.Hg.mem hb;exact I.base.free b o ho (I.ok.frf b hb) fun z=>I.ok.ac6 b z hb
theorem Inv.step{g':Array GenState}{t':Nat}{d':Drawn}{ch:List Addr}(I:Inv X pins σ H s)
  (hch:∀b∈ch,(b∈X.ex∨X.s_0.heap.objs.size≤b)∧b≠X.env.locals∧(∀x c,X.env.cells.lookup x=some c→c≠b)∧∀p∈X.pn++pins,p.1≠b)
  (keep:∀b o,b≠X.env.locals→b∉X.fs→b∉ch→s.heap.get? b=some o→H b=none→h'.get? b=some o)
  (slot:∀b o,b≠X.env.locals→b∈X.fs→b∉ch→s.heap.get? b=some o→H b=none→∃sl,h'.get? b=some {o with slots:=sl}) (free:∀b o,b∉ch→s.heap.get? b=some o→H b=none→H' b=none)
  (there:∀b o,b∉ch→s.heap.get? b=some o→∃o',h'.get? b=some o')
  (tups:∀b xs,H b=some (.tup xs)→H' b=some (.tup xs)) (Jd:∀b o u,H b=some (.frz o u)→H' b=some (.frz o u)) (Ql:∀b ps,H b=some (.tbl ps)→∃more,H' b=some (.tbl (ps++more)))
  (ns:∀m,s.heap.Ns X.env.locals m→h'.Ns X.env.locals m) (hok:HOk X.prog X.w H' h') (hg:AllBare g'):
  Inv X pins σ H' {s with heap:=h',gens:=g',drawn:=d',toks:=t'}:=by
 have neL:∀b o,X.s_0.heap.get? b=some o→b≠X.env.locals:=fun b o e=>Nat.ne_of_lt (Nat.lt_of_lt_of_le (Heap.lt_size e) I.ok.above);have neC:∀b o,X.s_0.heap.get? b=some o→b∉X.ex→b∉ch:=fun b o e hx hb=>by
  rcases (hch b hb).1 with z|z
  ·exact hx z
  ·exact absurd (Nat.lt_of_lt_of_le (Heap.lt_size e) z) (Nat.lt_irrefl _)
 have cellK:∀x c,X.env.cells.lookup x=some c→∀v,s.heap.IsCell c v→h'.IsCell c v:=fun x c e v ⟨o,ho,hd⟩=>by
  have nch:c∉ch:=fun z=>(hch c z).2.2.1 x c e rfl;by_cases hc:c∈X.fs
  ·obtain⟨sl,q⟩:=slot c o (I.cne x c e) hc nch ho (I.pH x c e);exact⟨_,q,hd⟩
  ·exact⟨o,keep c o (I.cne x c e) hc nch ho (I.pH x c e),hd⟩
 refine⟨I.ok,I.os,hg,⟨fun b o e n hb hx=>?_,fun b o e n hb hx=>?_,fun b o e n hx=>?_,fun b o e hx=>?_,fun b xs e=>tups b xs (I.base.tups b xs e),fun b o xs e=>Jd b o xs (I.base.Jd b o xs e),fun b ps e=>?_⟩,?_,fun x c e=>?_,?_,fun x c e=>?_,fun p hp=>?_,hok,I.len⟩
 ·exact keep b o (neL b o e) hb (neC b o e hx) (I.base.keep b o e n hb hx) (I.base.free b o e n hx)
 ·obtain⟨sl,e1⟩:=I.base.slot b o e n hb hx;obtain⟨sl',e2⟩:=slot b _ (neL b o e) hb (neC b o e hx) e1 (I.base.free b o e n hx);exact⟨sl',e2⟩
 ·obtain⟨o',e1⟩:=I.base.there b o e hx;exact free b o' (neC b o e hx) e1 (I.base.free b o e n hx)
 ·obtain⟨o',e1⟩:=I.base.there b o e hx;exact there b o' (neC b o e hx) e1
 ·obtain⟨m1,e1⟩:=I.base.Ql b ps e;obtain⟨m2,e2⟩:=Ql b _ e1;exact⟨m1++m2,by rw[e2,Array.append_assoc]⟩
 ·obtain⟨m,hn,hl⟩:=I.loc;refine⟨m,ns m hn,fun i x v e1 e2 e3=>?_⟩;obtain⟨u,r,l⟩:=hl i x v e1 e2 e3;refine⟨u,r,?_⟩;rcases l with l|⟨k,c,e,z⟩
  ·exact .inl l
  ·exact .inr ⟨k,c,e,cellK x c e _ z⟩
 ·obtain⟨v,z⟩:=I.cell x c e;exact⟨v,cellK x c e v z⟩
 ·obtain⟨m,⟨o,_,_,ho,_⟩,_⟩:=I.loc;exact free _ o (fun z=>(hch _ z).2.1 rfl) ho I.free
 ·obtain⟨v,o,ho,hd⟩:=I.cell x c e;exact free c o (fun z=>(hch c z).2.2.1 x c e rfl) ho (I.pH x c e)
 ·obtain⟨e,n,ne,nf,d⟩:=I.pin p hp;have nch:p.1∉ch:=fun z=>(hch p.1 z).2.2.2 p hp rfl;exact⟨keep p.1 p.2 ne nf nch e n,free p.1 p.2 nch e n,ne,nf,d⟩
theorem Inv.un{t':Nat}(I:Inv X pins σ H s)(u:Un X.fs [] H H' s.heap h')(hok:HOk X.prog X.w H' h'):Inv X pins σ H' {s with heap:=h',toks:=t'}:=by
 obtain⟨m,⟨o,es,ep,ho,r⟩,_⟩:=id I.loc;obtain⟨sl,hL⟩:=u.any ho I.free (by simp);exact I.step (g':=s.gens) (d':=s.drawn) (ch:=[]) (fun _ z=>nomatch z) (fun b o _ hb _ e n=>u.keep b o e n hb (by simp)) (fun b o _ hb _ e n=>u.slot b o e n hb (by simp)) (fun b o _ e n=>u.free b o e n (by simp)) (fun b o _ e=>u.there b o e (by simp)) u.tups u.Jd u.Ql (fun m' hm=>by
  obtain⟨o',es',ep',ho',r'⟩:=hm;rw[ho] at ho';cases ho';exact⟨_,es',ep',hL,r'⟩) hok I.bare
theorem Inv.call{g':Array GenState}{t':Nat}{d':Drawn}{ch:List Addr}(I:Inv X pins σ H s)(u:Un (frs X.stack) ch H H' s.heap h')(hok:HOk X.prog X.w H' h')(hg:AllBare g')
  (hch:∀b∈ch,(b∈X.ex∨X.s_0.heap.objs.size≤b)∧b≠X.env.locals∧(∀x c,X.env.cells.lookup x=some c→c≠b)∧∀p∈X.pn++pins,p.1≠b):
  Inv X pins σ H' {s with heap:=h',gens:=g',drawn:=d',toks:=t'}:=by
 obtain⟨m,⟨o,es,ep,ho,r⟩,_⟩:=id I.loc;obtain⟨sl,hL⟩:=u.any ho I.free fun z=>(hch _ z).2.1 rfl;exact I.step (ch:=ch) hch (fun b o hL hb hc e n=>u.keep b o e n (fun z=>(List.mem_cons.mp (I.X3 b z)).elim hL hb) hc) (fun b o _ _ hc e n=>u.any e n hc) (fun b o hc e n=>u.free b o e n hc) (fun b o hc e=>u.there b o e hc) u.tups u.Jd u.Ql (fun m' hm=>by
  obtain⟨o',es',ep',ho',r'⟩:=hm;rw[ho] at ho';cases ho';exact⟨_,es',ep',hL,r'⟩) hok hg
theorem Inv.turned{t':Nat}{it:Addr}(I:Inv X pins σ H s)(k:∀b o,b≠it→s.heap.get? b=some o→h'.get? b=some o)(hn:H it=none)(hL:it≠X.env.locals)
  (h1:it∈X.ex∨X.s_0.heap.objs.size≤it) (h2:∀x c,X.env.cells.lookup x=some c→c≠it) (h3:∀p∈X.pn++pins,p.1≠it):Inv X pins σ H {s with heap:=h',toks:=t'}:=by
 have nit:∀b u,H b=some u→b≠it:=fun b u e z=>by rw[z,hn] at e;cases e
 refine I.step (g':=s.gens) (d':=s.drawn) (ch:=[it]) (fun b hb=>?_) (fun b o _ _ hc e _=>k b o (fun z=>hc (by simp[z])) e) (fun b o _ _ hc e _=>⟨o.slots,k b o (fun z=>hc (by simp[z])) e⟩) (fun _ _ _ _ n=>n)
  (fun b o hc e=>⟨o,k b o (fun z=>hc (by simp[z])) e⟩) (fun _ _ e=>e) (fun _ _ _ e=>e) (fun b ps e=>⟨#[],by rw[e];simp⟩) (fun m hm=>?_) (fun b u e=>?_) I.bare
 ·have e:b=it:=by simpa using hb
  subst e;exact⟨h1,hL,h2,h3⟩
 ·obtain⟨o,es,ep,ho,r⟩:=hm;exact⟨o,es,ep,k _ o (Ne.symm hL) ho,r⟩
 ·refine(I.hok b u e).stay (fun c v hc q=>k c v ?_ q) (fun _ q=>q) fun _ _ q=>q;rcases hc with z|z
  ·rw[z];exact nit b u e
  ·exact nit c _ z
theorem Inv.tok(I:Inv X pins σ H s)(t:Nat):Inv X pins σ H {s with toks:=t}:=I.un (h':=s.heap) (t':=t) Un.refl I.hok
theorem Inv.kept{t':Nat}(I:Inv X pins σ H s)(k:∀b u,s.heap.get? b=some u→h'.get? b=some u):Inv X pins σ H {s with heap:=h',toks:=t'}:=I.un (Un.kept k) (I.hok.kept k)
theorem Inv.laid{a:Addr}{o:HO}{t':Nat}(I:Inv X pins σ H s)(k:∀b u,s.heap.get? b=some u→h'.get? b=some u)(hp:s.heap.objs.size≤a)(new:cO X.prog X.w (upd H a o) h' a o):
  Inv X pins σ (upd H a o) {s with heap:=h',toks:=t'}:=I.un (Un.laid k hp (I.hok.fresh hp)) (I.hok.laid k hp new)
theorem Inv.write{x e:Addr}{o:HO}{t':Nat}(I:Inv X pins σ H s)(mu:Mut (H x))(he:e=x∨H e=some (.own x))(k:∀b u,b≠e→s.heap.get? b=some u→h'.get? b=some u)(heo:∃u,h'.get? e=some u)
  (new:cO X.prog X.w (upd H x o) h' x o):Inv X pins σ (upd H x o) {s with heap:=h',toks:=t'}:=I.un (Un.write mu he k heo) (I.hok.write mu he k heo new)
theorem Inv.weak{σ':List (Option V)}(I:Inv X pins σ H s)(hl:σ'.length=σ.length)(w:∀(i:Nat) v,σ'[i]?=some (some v)→σ[i]?=some (some v)):Inv X pins σ' H s:=
 ⟨I.ok,I.os,I.bare,I.base,let ⟨m,hn,hl'⟩:=I.loc;⟨m,hn,fun i x v e1 e2 e3=>hl' i x v e1 (w i v e2) e3⟩,I.cell,I.free,I.pH,I.pin,I.hok,hl.trans I.len⟩
theorem Inv.ZO{ag9:List (Addr×Obj)}(I:Inv X pins σ H s)(h:∀p∈ag9,s.heap.get? p.1=some p.2∧H p.1=none∧p.1≠X.env.locals∧p.1∉X.fs∧∀v,p.2.data≠.cell v):Inv X ag9 σ H s:=
 ⟨I.ok,I.os,I.bare,I.base,I.loc,I.cell,I.free,I.pH,fun p hp=>(List.mem_append.mp hp).elim (fun z=>I.pin p (List.mem_append_left _ z)) (h p),I.hok,I.len⟩
theorem Je{N:List Str}(hN:N.Nodup){i j:Nat}{x:Str}(a:N[i]?=some x)(b:N[j]?=some x):i=j:=by
 obtain⟨h1,e1⟩:=List.getElem?_eq_some_iff.mp a;obtain⟨h2,e2⟩:=List.getElem?_eq_some_iff.mp b;exact(List.getElem_inj hN).mp (e1.trans e2.symm)
theorem O5{M:Model}{A:Around}{E:Value→Shared→Prop}{i:Nat}{x:Str}{v:V}{u:Value}{Q:Unit→Shared→Prop}(I:Inv X pins σ H s)(hN:X.N.Nodup)(hi:X.N[i]?=some x)(hx:Loc X.env.scope x)(r:RelV v u)
  (h:∀s',Inv X pins (σ.set i (some v)) H s'→(∃a,Heap.SameBut a s.heap s'.heap∧(a=X.env.locals∨X.env.cells.lookup x=some a))→Q () s') (hf:X.fn x=true∨X.env.scope.names.lookup x=some .local:=by first|exact .inl rfl|exact .inr rfl|assumption):wpAny M A (storeName X.env x u) Q E s:=by
 obtain⟨m,hn,hl⟩:=id I.loc;have hcls:(X.env.scope.kind==.class||(X.env.scope.kind==.module&&X.env.locals !=X.env.globals))=false:=by rw[I.ok.kind];rfl
 have hiσ:i<σ.length:=by rw[I.len];exact(List.getElem?_eq_some_iff.mp hi).1
 have cne:=I.cne;have tracked:∀{a:Addr}{h':Heap},(∃o,s.heap.get? a=some o∧H a=none)→Heap.SameBut a s.heap h'→HOk X.prog X.w H h':=fun{a h'} ha hs b ob e=>by
  obtain⟨_,_,hfree⟩:=ha;refine(I.hok b ob e).stay (fun c w' hc q=>(hs.2 c ?_).trans q) (fun _ q=>q) fun _ _ q=>q;rintro rfl;rcases hc with rfl|hc
  ·rw[hfree] at e;cases e
  ·rw[hfree] at hc;cases hc
 rcases hx with hk|hk
 ·refine wpAny_storeName_local hk hn (fun h' hn' hs=>?_) hcls;obtain⟨oL,_,_,hoL,_⟩:=id hn;refine h _ ⟨I.ok,I.os,I.bare,⟨fun b o e n hb hx=>?_,fun b o e n hb hx=>?_,I.base.free,fun b o e hx=>?_,I.base.tups,I.base.Jd,I.base.Ql⟩,⟨_,hn',fun j y v' e1 e2 e3=>?_⟩,fun y c e=>?_,I.free,I.pH,fun p hp=>?_,tracked ⟨oL,hoL,I.free⟩ hs,by simpa using I.len⟩ ⟨_,hs,.inl rfl⟩
  ·exact(hs.2 b (Nat.ne_of_lt (Nat.lt_of_lt_of_le (Heap.lt_size e) I.ok.above))).trans (I.base.keep b o e n hb hx)
  ·obtain⟨sl,e1⟩:=I.base.slot b o e n hb hx;exact⟨sl,(hs.2 b (Nat.ne_of_lt (Nat.lt_of_lt_of_le (Heap.lt_size e) I.ok.above))).trans e1⟩
  ·obtain⟨o',e1⟩:=I.base.there b o e hx;exact⟨o',(hs.2 b (Nat.ne_of_lt (Nat.lt_of_lt_of_le (Heap.lt_size e) I.ok.above))).trans e1⟩
  ·by_cases hj:j=i
   ·subst hj;rw[hi] at e1;cases e1;rw[List.getElem?_set_self hiσ] at e2;cases e2;exact⟨u,r,.inl ⟨hk,by simp⟩⟩
   ·rw[List.getElem?_set_ne (Ne.symm hj)] at e2;obtain⟨u',r',q⟩:=hl j y v' e1 e2 e3;refine⟨u',r',?_⟩;rcases q with⟨k,e⟩|⟨k,c,e,z⟩
    ·refine .inl ⟨k,?_⟩;have:y≠x:=fun e=>hj (Je hN e1 (e▸hi));simp[this,e]
    ·exact .inr ⟨k,c,e,z.sameBut hs (cne y c e)⟩
  ·obtain⟨w',z⟩:=I.cell y c e;exact⟨w',z.sameBut hs (cne y c e)⟩
  ·obtain⟨e,n,ne,nf,d⟩:=I.pin p hp;exact⟨(hs.2 p.1 ne).trans e,n,ne,nf,d⟩
 ·have hfn:X.fn x=true:=by
   rcases hf with z|z
   ·exact z
   ·rw[z] at hk;cases hk
  obtain⟨c,hc⟩:=I.ok.has x (.inl hk);obtain⟨w',z⟩:=I.cell x c hc;refine wpAny_storeName_cell I.ok.kind hk hc z (fun h' hc' hs=>?_);obtain⟨oc,hoc,amB⟩:=id z;refine h {s with heap:=h'} ⟨I.ok,I.os,I.bare,⟨fun b o e n hb hx=>?_,fun b o e n hb hx=>?_,I.base.free,fun b o e hx=>?_,I.base.tups,I.base.Jd,I.base.Ql⟩,⟨m,hn.sameBut hs (Ne.symm (cne x c hc)),fun j y v' e1 e2 e3=>?_⟩,fun y c' e=>?_,I.free,I.pH,fun p hp=>?_,tracked ⟨oc,hoc,I.pH x c hc⟩ hs,by simpa using I.len⟩ ⟨c,hs,.inr hc⟩
  ·exact(hs.2 b (Nat.ne_of_lt (Nat.lt_of_lt_of_le (Heap.lt_size e) (I.ok.cab x c hfn hc)))).trans (I.base.keep b o e n hb hx)
  ·obtain⟨sl,e1⟩:=I.base.slot b o e n hb hx;exact⟨sl,(hs.2 b (Nat.ne_of_lt (Nat.lt_of_lt_of_le (Heap.lt_size e) (I.ok.cab x c hfn hc)))).trans e1⟩
  ·obtain⟨o',e1⟩:=I.base.there b o e hx;exact⟨o',(hs.2 b (Nat.ne_of_lt (Nat.lt_of_lt_of_le (Heap.lt_size e) (I.ok.cab x c hfn hc)))).trans e1⟩
  ·by_cases hj:j=i
   ·subst hj;rw[hi] at e1;cases e1;rw[List.getElem?_set_self hiσ] at e2;cases e2;exact⟨u,r,.inr ⟨.inl hk,c,hc,hc'⟩⟩
   ·rw[List.getElem?_set_ne (Ne.symm hj)] at e2;obtain⟨u',r',q⟩:=hl j y v' e1 e2 e3;refine⟨u',r',?_⟩;rcases q with q|⟨k,c',e,z'⟩
    ·exact .inl q
    ·refine .inr ⟨k,c',e,z'.sameBut hs ?_⟩;rintro rfl;exact hj (Je hN e1 (I.ok.inj _ _ _ e hc▸hi))
  ·by_cases hcc:c'=c
   ·subst hcc;exact⟨_,hc'⟩
   ·obtain⟨w2,z2⟩:=I.cell y c' e;exact⟨w2,z2.sameBut hs hcc⟩
  ·obtain⟨e,n,ne,nf,d⟩:=I.pin p hp;refine⟨(hs.2 p.1 ?_).trans e,n,ne,nf,d⟩;intro q;rw[q,hoc] at e;have q':oc=p.2:=Option.some.inj e;exact d w' (by rw[←q'];exact amB)
theorem Jf{M:Model}{A:Around}{E:Value→Shared→Prop}{i:Nat}{x:Str}{v:V}{u:Value}{Q:Unit→Shared→Prop}(I:Inv X pins σ H s)(hN:X.N.Nodup)(hi:X.N[i]?=some x)(hx:Loc X.env.scope x)(r:RelV v u)
  (h:∀s',Inv X pins (σ.set i (some v)) H s'→Q () s') (hf:X.fn x=true∨X.env.scope.names.lookup x=some .local:=by first|exact .inl rfl|exact .inr rfl|assumption):wpAny M A (storeName X.env x u) Q E s:=
 O5 I hN hi hx r (fun s' I' _=>h s' I') hf
theorem Inv.call'{s':Shared}{ch:List Addr}(I:Inv X pins σ H s)(ho:s'.os=s.os)(u:Un (frs X.stack) ch H H' s.heap s'.heap)(hok:HOk X.prog X.w H' s'.heap)(hg:AllBare s'.gens)
  (hch:∀b∈ch,(b∈X.ex∨X.s_0.heap.objs.size≤b)∧b≠X.env.locals∧(∀x c,X.env.cells.lookup x=some c→c≠b)∧∀p∈X.pn++pins,p.1≠b):Inv X pins σ H' s':=by
 obtain⟨h',g',d',t',o'⟩:=s';have e:o'=s.os:=ho;subst e;exact I.call (g':=g') (t':=t') (d':=d') u hok hg hch
end
abbrev XK:=Value→Option Addr→Hp→Prop
abbrev St:=List (Option V)
abbrev VK:=V→Hp→Prop
abbrev TE:=St→Hp→VK→Prop
abbrev TT:=St→Hp→(Bool→Hp→Prop)→Prop
abbrev TA:=St→Hp→(List V→Hp→Prop)→Prop
structure Ends where
 nx:St→Hp→Prop
 rt:VK
 bk:St→Hp→Prop:=fun _ _=>False
 ct:St→Hp→Prop:=fun _ _=>False
abbrev TS:=Ends→St→Hp→Prop
def EP(X:Cx)(pins:List (Addr×Obj))(σ:St)(Q:VK)(u:Value)(s':Shared):Prop:=∃v H',Inv X pins σ H' s'∧RelV v u∧Q v H'
def TP(X:Cx)(pins:List (Addr×Obj))(σ:St)(Q:Bool→Hp→Prop)(b:Bool)(s':Shared):Prop:=∃H',Inv X pins σ H' s'∧Q b H'
def AP(X:Cx)(pins:List (Addr×Obj))(σ:St)(Q:List V→Hp→Prop)(us:List Value)(s':Shared):Prop:=∃vs H',Inv X pins σ H' s'∧Vals vs us∧Q vs H'
def SP(X:Cx)(pins:List (Addr×Obj))(D:Ends)(f:Flow)(s':Shared):Prop:=
 match f with
 |.next=>∃σ' H',Inv X pins σ' H' s'∧D.nx σ' H'
 |.brk=>∃σ' H',Inv X pins σ' H' s'∧D.bk σ' H'
 |.cont=>∃σ' H',Inv X pins σ' H' s'∧D.ct σ' H'
 |.ret u=>∃v σ' H',Inv X pins σ' H' s'∧RelV v u∧D.rt v H'
def PE(X:Cx)(e:Expr)(t:TE):Prop:=
 ∀(pins:List (Addr×Obj))(s:Shared)(σ:St)(H:Hp)(Q:VK),Inv X pins σ H s→t σ H Q→wpAny (model X.prog X.w) X.A (eval e X.env) (EP X pins σ Q) X.xe s
def PT(X:Cx)(e:Expr)(t:TT):Prop:=
 ∀(pins:List (Addr×Obj))(s:Shared)(σ:St)(H:Hp)(Q:Bool→Hp→Prop),Inv X pins σ H s→t σ H Q→wpAny (model X.prog X.w) X.A (isTrue e X.env (eval e X.env)) (TP X pins σ Q) X.xe s
def PW(X:Cx)(e:Expr)(t:TT):Prop:=
 ∀(whole:Sem Value)(pins:List (Addr×Obj))(s:Shared)(σ:St)(H:Hp)(Q:Bool→Hp→Prop),Inv X pins σ H s→t σ H Q→wpAny (model X.prog X.w) X.A (isTrue e X.env whole) (TP X pins σ Q) X.xe s
theorem PW.pt{X:Cx}{e:Expr}{t:TT}(h:PW X e t):PT X e t:=h _
def PA(X:Cx)(es:List Expr)(t:TA):Prop:=
 ∀(pos:Pos)(pins:List (Addr×Obj))(s:Shared)(σ:St)(H:Hp)(Q:List V→Hp→Prop),Inv X pins σ H s→t σ H Q→wpAny (model X.prog X.w) X.A (spliced (backTo pos (starEach es X.env))) (AP X pins σ Q) X.xe s
def PS(X:Cx)(st:Stmt)(t:TS):Prop:=
 ∀(pins:List (Addr×Obj))(s:Shared)(σ:St)(H:Hp)(D:Ends),Inv X pins σ H s→t D σ H→wpAny (model X.prog X.w) X.A (exec st X.env) (SP X pins D) X.xe s
def PSs(X:Cx)(st:List Stmt)(t:TS):Prop:=
 ∀(pins:List (Addr×Obj))(s:Shared)(σ:St)(H:Hp)(D:Ends),Inv X pins σ H s→t D σ H→wpAny (model X.prog X.w) X.A (execs st X.env) (SP X pins D) X.xe s
theorem thn{α:Type}{t:Sem α}{Q Q':α→Shared→Prop}{M:Model}{A:Around}{E:Value→Shared→Prop}{s:Shared}(h:wpAny M A t Q E s)(hQ:∀a s,Q a s→Q' a s):wpAny M A t Q' E s:=wpAny_mono h hQ fun _ _ x=>x
end L2
namespace L2
open PySem PySem.Spec PyProof.Rows
section
variable{X:Cx}
theorem bin{a b:Expr}{ta tb:TE}(ha:PE X a ta)(hb:PE X b tb){pins:List (Addr×Obj)}{s:Shared}{σ:St}{H:Hp}{R:V→V→Hp→Prop}(I:Inv X pins σ H s)(h:ta σ H fun x H1=>tb σ H1 fun y H2=>R x y H2)
  {α:Type} {Q:α→Shared→Prop} {f:Value→Value→Sem α}
  (hf:∀v u s2 x y H2,Inv X pins σ H2 s2→RelV x v→RelV y u→R x y H2→wpAny (model X.prog X.w) X.A (f v u) Q X.xe s2):
  wpAny (model X.prog X.w) X.A (eval a X.env) (fun v s₁=>wpAny (model X.prog X.w) X.A (eval b X.env) (fun u s₂=>wpAny (model X.prog X.w) X.A (f v u) Q X.xe s₂) X.xe s₁) X.xe s:=by
 refine thn (ha pins s σ H _ I h) fun v s1 ⟨x,H1,I1,r1,q1⟩=>?_;refine thn (hb pins s1 σ H1 _ I1 q1) fun u s2 ⟨y,H2,I2,r2,q2⟩=>?_;exact hf v u s2 x y H2 I2 r1 r2 q2
def i8(i:Nat):TE:=fun σ H Q=>∃v,σ[i]?=some (some v)∧Q v H
def tC(v:V):TE:=fun _ H Q=>Q v H
theorem ahO{i:Nat}{x:Str}{pos:Pos}(hN:X.N[i]?=some x)(hv:Vis X.env.scope x)(hd:(x==("__debug__":Str))=false:=by decide)(hcd:(x==("__classdict__":Str))=false:=by decide):PE X (.Name x pos) (i8 i):=by
 intro pins s σ H Q I h;obtain⟨v,e,h⟩:=h;obtain⟨m,hn,hl⟩:=I.loc;obtain⟨u,r,l⟩:=hl i x v hN e hv;have fin:EP X pins σ Q u s:=⟨v,H,I,r,h⟩
 rcases l with⟨hk,hm⟩|⟨hk,c,hc,hcell⟩
 ·exact wpAny_Name (wpAny_loadName_local I.ok.kind hk hn hm fin) hd
 ·rcases hk with hk|hk
  ·exact wpAny_Name (wpAny_loadName_cell I.ok.kind hk hc hcell fin) hd
  ·exact wpAny_Name (wpAny_loadName_free I.ok.kind hk hc hcell fin hcd) hd
theorem aq{i j pos}:PE X (.Constant (.int i) j pos) (tC (.int i)):=fun _ _ _ H _ I h=>wpAny_Constant_int ⟨.int i,H,I.tok _,⟨_,rfl⟩,h⟩
theorem sM{b j pos}:PE X (.Constant (.bool b) j pos) (tC (.bl b)):=fun _ _ _ H _ I h=>Constant_bool ⟨.bl b,H,I,rfl,h⟩
theorem ac7{x j pos}:PE X (.Constant (.str x) j pos) (tC (.str x)):=fun _ _ _ H _ I h=>Calls.Constant_str ⟨.str x,H,I.tok _,⟨_,rfl⟩,h⟩
def Gl(X:Cx)(x:Str):Prop:=X.env.kindOf x=some .globalImplicit
theorem IS{E:Value→Shared→Prop}{pins:List (Addr×Obj)}{s:Shared}{σ:St}{H:Hp}{x:Str}{u:Value}{pos:Pos}{Q:Value→Shared→Prop}(I:Inv X pins σ H s)(hg:Gl X x)(hm:X.mg x=some u)(h:Q u s)
  (hd:(x==("__debug__":Str))=false:=by decide):wpAny (model X.prog X.w) X.A (eval (.Name x pos) X.env) Q E s:=
 Calls.Name_function_global I.ok.kind hg (Calls.loadGlobal_global (by rw[I.ok.glob];exact I.mod.glob.keeps I.bk) hm h) hd
theorem Jg{E:Value→Shared→Prop}{pins:List (Addr×Obj)}{s:Shared}{σ:St}{H:Hp}{x:Str}{u:Value}{pos:Pos}{Q:Value→Shared→Prop}(I:Inv X pins σ H s)(hg:Gl X x)(hm:X.mg x=none)(hv:bootBuiltins x=some u)(h:Q u s)
  (hn:x≠"__name__":=by decide) (hd:(x==("__debug__":Str))=false:=by decide):wpAny (model X.prog X.w) X.A (eval (.Name x pos) X.env) Q E s:=by
 obtain⟨mb,h1,h2⟩:=I.mod.blt;exact Calls.Name_function_global I.ok.kind hg (Calls.loadGlobal_builtin (by rw[I.ok.glob];exact I.mod.glob.keeps I.bk) hm (by rw[I.ok.blt];exact h1.keeps I.bk) ((h2 x hn).trans hv) h) hd
theorem aX{x:Str}{v:V}{u:Value}{pos:Pos}(hg:Gl X x)(hm:X.mg x=some u)(r:RelV v u)(hd:(x==("__debug__":Str))=false:=by decide):PE X (.Name x pos) (tC v):=
 fun _ _ _ H _ I h=>IS I hg hm ⟨v,H,I,r,h⟩ hd
variable{a b:Expr}{ta tb:TE}{pos:Pos}
def PC(X:Cx)(op:CmpOp)(a b:Expr)(t:TE):Prop:=
 ∀(pins:List (Addr×Obj))(s:Shared)(σ:St)(H:Hp)(Q:VK),Inv X pins σ H s→t σ H Q→
  wpAny (model X.prog X.w) X.A (eval a X.env) (fun v s₁=>wpAny (model X.prog X.w) X.A (eval b X.env) (fun u s₂=>wpAny (model X.prog X.w) X.A (compareOp op v u) (EP X pins σ Q) X.xe s₂) X.xe s₁) X.xe s
def tB(t:TE):TT:=fun σ H Q=>t σ H fun x H1=>∃c,x=.bl c∧Q c H1
theorem qS{op:CmpOp}{t:TE}(h:PC X op a b t)(h1:behindInMarks op b=false:=by first|exact ac8 _ (by decide) (by decide)|rfl):PE X (.Compare a [op] [b] pos) t:=fun pins s σ H Q I hw=>wpAny_Compare1 (h pins s σ H Q I hw) h1
theorem gZ{op:CmpOp}{t:TE}(h:PC X op a b t)(h1:behindInMarks op b=false:=by first|exact ac8 _ (by decide) (by decide)|rfl):PT X (.Compare a [op] [b] pos) (tB t):=by
 intro pins s σ H Q I hw;refine wpAny_isTrue_Compare1 (thn (h pins s σ H _ I hw) fun v s1 h1=>thn h1 fun u s2 h2=>thn h2 fun c s3 ⟨x,H1,I1,r1,q1⟩=>?_) h1;obtain⟨d,rfl,q⟩:=q1;cases r1;exact wpAny_truthy_bool ⟨H1,I1,q⟩
theorem bY{e:Expr}{t:TE}(h:PE X e t)(he:∀whole,isTrue e X.env whole=(do let v←whole;standAt e.pos;holding [v] (truthy v)):=by intro _;rfl):PT X e (tB t):=by
 intro pins s σ H Q I hw;refine isTrue_plain (thn (h pins s σ H _ I hw) fun v s1 ⟨x,H1,I1,r1,q1⟩=>?_) (he _);obtain⟨d,rfl,q⟩:=q1;cases r1;exact wpAny_truthy_bool ⟨H1,I1,q⟩
variable{tA tB':TT}{rest:List Expr}
def afL(t u:TT):TT:=fun σ H Q=>t σ H fun c H1=>if c=true then u σ H1 Q else Q false H1
def tOr(t u:TT):TT:=fun σ H Q=>t σ H fun c H1=>if c=true then Q true H1 else u σ H1 Q
def amC(t:TT):TT:=fun σ H Q=>t σ H fun c H1=>Q (!c) H1
theorem i9(ha:PT X a tA):PW X (.BoolOp .And [a] pos) tA:=by
 intro wh pins s σ H Q I h;refine isTrue_and (thn (ha pins s σ H Q I h) fun c s1 e=>?_);cases c with
 |true=>exact isTrue_and_nil e
 |false=>exact e
theorem X4(ha:PT X a tA):PW X (.BoolOp .Or [a] pos) tA:=by
 intro wh pins s σ H Q I h;refine isTrue_or (thn (ha pins s σ H Q I h) fun c s1 e=>?_);cases c with
 |false=>exact isTrue_or_nil e
 |true=>exact e
theorem jQ(ha:PT X a tA)(hb:PW X (.BoolOp .And (b::rest) pos) tB'):PW X (.BoolOp .And (a::b::rest) pos) (afL tA tB'):=by
 intro wh pins s σ H Q I h;refine isTrue_and (thn (ha pins s σ H _ I h) fun c s1 ⟨H1,I1,q1⟩=>?_);cases c with
 |true=>exact hb wh pins s1 σ H1 Q I1 q1
 |false=>exact⟨H1,I1,q1⟩
theorem ac9(ha:PT X a tA)(hb:PW X (.BoolOp .Or (b::rest) pos) tB'):PW X (.BoolOp .Or (a::b::rest) pos) (tOr tA tB'):=by
 intro wh pins s σ H Q I h;refine isTrue_or (thn (ha pins s σ H _ I h) fun c s1 ⟨H1,I1,q1⟩=>?_);cases c with
 |true=>exact⟨H1,I1,q1⟩
 |false=>exact hb wh pins s1 σ H1 Q I1 q1
theorem uE(ha:PT X a tA):PT X (.UnaryOp .Not a pos) (amC tA):=by
 intro pins s σ H Q I h;exact isTrue_not (ha pins s σ H (fun c H1=>Q (!c) H1) I h)
def aha(ta tb:TE):TE:=fun σ H Q=>ta σ H fun x H1=>∃c,x=.bl c∧if c=true then tb σ H1 Q else Q (.bl false) H1
def amD(ta tb:TE):TE:=fun σ H Q=>ta σ H fun x H1=>∃c,x=.bl c∧if c=true then Q (.bl true) H1 else tb σ H1 Q
def akc(ta:TE):TE:=fun σ H Q=>ta σ H fun x H1=>∃c,x=.bl c∧Q (.bl (!c)) H1
theorem mn{op}{t:TE}(h:PE X a t):PE X (.BoolOp op [a] pos) t:=fun pins s σ H Q I hw=>BoolOp_one (h pins s σ H Q I hw)
theorem o6(ha:PE X a ta)(hb:PE X (.BoolOp .And (b::rest) pos) tb):PE X (.BoolOp .And (a::b::rest) pos) (aha ta tb):=by
 intro pins s σ H Q I h;refine BoolOp_and (thn (ha pins s σ H _ I h) fun v s1 ⟨x,H1,I1,r1,q1⟩=>?_);obtain⟨c,rfl,q1⟩:=q1;cases r1;refine wpAny_truthy_bool ?_;cases c with
 |true=>exact hb pins s1 σ H1 Q I1 q1
 |false=>exact⟨.bl false,H1,I1,rfl,q1⟩
theorem ZP(ha:PE X a ta)(hb:PE X (.BoolOp .Or (b::rest) pos) tb):PE X (.BoolOp .Or (a::b::rest) pos) (amD ta tb):=by
 intro pins s σ H Q I h;refine BoolOp_or (thn (ha pins s σ H _ I h) fun v s1 ⟨x,H1,I1,r1,q1⟩=>?_);obtain⟨c,rfl,q1⟩:=q1;cases r1;refine wpAny_truthy_bool ?_;cases c with
 |false=>exact hb pins s1 σ H1 Q I1 q1
 |true=>exact⟨.bl true,H1,I1,rfl,q1⟩
theorem Qn(ha:PE X a ta):PE X (.UnaryOp .Not a pos) (akc ta):=by
 intro pins s σ H Q I h;refine UnaryOp_ (thn (ha pins s σ H _ I h) fun v s1 ⟨x,H1,I1,r1,q1⟩=>?_);obtain⟨c,rfl,q1⟩:=q1;cases r1;exact not_of (wpAny_truthy_bool ⟨.bl (!c),H1,I1,rfl,q1⟩)
def tIf(t:TT)(ta tb:TE):TE:=fun σ H Q=>t σ H fun c H1=>if c=true then ta σ H1 Q else tb σ H1 Q
theorem mq{c:Expr}(hc:PT X c tA)(ha:PE X a ta)(hb:PE X b tb):PE X (.IfExp c a b pos) (tIf tA ta tb):=by
 intro pins s σ H Q I h;refine wpAny_IfExp (thn (hc pins s σ H _ I h) fun d s1 ⟨H1,I1,q1⟩=>?_);cases d with
 |true=>exact ha pins s1 σ H1 Q I1 q1
 |false=>exact hb pins s1 σ H1 Q I1 q1
end
end L2
namespace L2
open PySem PySem.Spec PyProof.Rows
def SqL(K:PySem.W.Frag)(H:Hp)(a:Addr)(xs:List V):Prop:=
 Rd H a (.lst xs)∨
  ∃(o:Obj)(its:Array Value)(n:Nat),K.lookup a=some o∧o.cls=.type "list"∧o.dict=none∧o.data=.seq its n∧its.size≤sizeLine∧Vals xs its.toList
def SqT(K:PySem.W.Frag)(H:Hp)(a:Addr)(xs:List V):Prop:=
 Rd H a (.tup xs)∨
  ∃(o:Obj)(its:Array Value)(n:Nat),K.lookup a=some o∧o.cls=.type "tuple"∧o.data=.seq its n∧its.size≤sizeLine∧Vals xs its.toList
def amE:Value→Option V
 |.none=>some .non
 |.bool b=>some (.bl b)
 |.int i _=>some (.int i)
 |.str x _=>some (.str x)
 |.bytes b _=>some (.byt b)
 |.float b _=>some (.flt b)
 |.ref a=>some (.ref a)
 |.type n=>some (.ty n)
 |_=>none
theorem RelV.abs{x:V}{u:Value}(r:RelV x u):amE u=some x:=by
 cases x with
 |non=>cases r;rfl
 |bl _=>cases r;rfl
 |int _=>obtain⟨t,rfl⟩:=r;rfl
 |str _=>obtain⟨t,rfl⟩:=r;rfl
 |byt _=>obtain⟨t,rfl⟩:=r;rfl
 |flt _=>obtain⟨t,rfl⟩:=r;rfl
 |ref _=>cases r;rfl
 |ty _=>cases r;rfl
theorem RelV.inj{x y:V}{u:Value}(r:RelV x u)(q:RelV y u):x=y:=Option.some.inj (r.abs.symm.trans q.abs)
theorem Vals.inj:∀{xs ys:List V}{us:List Value},Vals xs us→Vals ys us→xs=ys
 |_,_,_,.nil,.nil=>rfl
 |_,_,_,.cons r t,.cons r' t'=>by rw[r.inj r',Vals.inj t t']
section
variable{X:Cx}{pins:List (Addr×Obj)}{σ:St}{H:Hp}{s:Shared}{a:Addr}{xs ys:List V}
theorem SqL.of{K:PySem.W.Frag}(h:H a=some (.lst xs)):SqL K H a xs:=.inl (.inl h)
theorem SqT.of{K:PySem.W.Frag}(h:H a=some (.tup xs)):SqT K H a xs:=.inl (.inl h)
theorem Inv.list(I:Inv X pins σ H s)(h:SqL X.K H a xs):∃its:List Value,Vals xs its∧PlainL s.heap a its.toArray∧xs.length≤sizeLine:=by
 rcases h with h|⟨o,its,n,hk,hc,hd,hs,hz,r⟩
 ·obtain⟨z,its,n,r,e⟩:=h.ok I.hok;exact⟨its,r,⟨_,n,e,rfl,rfl,rfl⟩,z⟩
 ·refine⟨its.toList,r,⟨o,n,I.kIn a o hk,hc,hd,by simpa using hs⟩,?_⟩;have e:=r.length;simp only[Array.length_toList] at e;omega
theorem Inv.tuple(I:Inv X pins σ H s)(h:SqT X.K H a xs):∃its:List Value,Vals xs its∧IsTup s.heap a its.toArray∧xs.length≤sizeLine:=by
 rcases h with h|⟨o,its,n,hk,hc,hs,hz,r⟩
 ·obtain⟨z,its,r,p⟩:=h.ok I.hok;exact⟨its,r,p,z⟩
 ·refine⟨its.toList,r,⟨o,I.kIn a o hk,hc,n,by simpa using hs⟩,?_⟩;have e:=r.length;simp only[Array.length_toList] at e;omega
theorem Inv.Ul(I:Inv X pins σ H s)(h:SqL X.K H a xs)(h':SqL X.K H a ys):xs=ys:=by
 obtain⟨its,r,⟨o,n,e,_,_,d⟩,_⟩:=I.list h;obtain⟨its',r',⟨o',n',e',_,_,d'⟩,_⟩:=I.list h';rw[e] at e';cases e';rw[d] at d';injection d' with d1 _
 have:its=its':=by simpa using congrArg Array.toList d1
 subst this;exact r.inj r'
theorem Inv.aaV(I:Inv X pins σ H s)(h:SqT X.K H a xs)(h':SqT X.K H a ys):xs=ys:=by
 obtain⟨its,r,⟨o,e,_,n,d⟩,_⟩:=I.tuple h;obtain⟨its',r',⟨o',e',_,n',d'⟩,_⟩:=I.tuple h';rw[e] at e';cases e';rw[d] at d';injection d' with d1 _
 have:its=its':=by simpa using congrArg Array.toList d1
 subst this;exact r.inj r'
end
abbrev Cx.wish(X:Cx)(E:Value→Shared→Prop):Cx:={X with xe:=E}
abbrev Cx.nox(X:Cx):Cx:=X.wish fun _ _=>False
theorem Cx.Ok.wish{X:Cx}(ok:X.Ok)(E:Value→Shared→Prop):(X.wish E).Ok:=
 ⟨ok.mod,ok.kind,ok.glob,ok.blt,ok.above,ok.inj,ok.has,ok.cab,ok.hd,ok.frames,ok.stk,ok.exf,ok.bs,ok.bsz,ok.ac5,ok.ac6,ok.Hg,ok.frf⟩
theorem Cx.Ok.uF{X:Cx}{E:Value→Shared→Prop}(ok:(X.wish E).Ok):X.Ok:=
 ⟨ok.mod,ok.kind,ok.glob,ok.blt,ok.above,ok.inj,ok.has,ok.cab,ok.hd,ok.frames,ok.stk,ok.exf,ok.bs,ok.bsz,ok.ac5,ok.ac6,ok.Hg,ok.frf⟩
section
variable{X:Cx}{pins:List (Addr×Obj)}{σ:St}{H:Hp}{s:Shared}{E:Value→Shared→Prop}
theorem Inv.wish(I:Inv X pins σ H s)(E:Value→Shared→Prop):Inv (X.wish E) pins σ H s:=⟨I.ok.wish E,I.os,I.bare,I.base,I.loc,I.cell,I.free,I.pH,I.pin,I.hok,I.len⟩
theorem Inv.uF(I:Inv (X.wish E) pins σ H s):Inv X pins σ H s:=⟨I.ok.uF,I.os,I.bare,I.base,I.loc,I.cell,I.free,I.pH,I.pin,I.hok,I.len⟩
theorem SP.uF{D:Ends}{f:Flow}{s':Shared}(h:SP (X.wish E) pins D f s'):SP X pins D f s':=by
 cases f with
 |next=>obtain⟨σ',H',I,q⟩:=h;exact⟨σ',H',I.uF,q⟩
 |brk=>obtain⟨σ',H',I,q⟩:=h;exact⟨σ',H',I.uF,q⟩
 |cont=>obtain⟨σ',H',I,q⟩:=h;exact⟨σ',H',I.uF,q⟩
 |ret u=>obtain⟨v,σ',H',I,r,q⟩:=h;exact⟨v,σ',H',I.uF,r,q⟩
theorem PSs.nox{st:List Stmt}{t:TS}(h:PSs X.nox st t):PSs X st t:=fun pins s σ H D I hw=>
 wpAny_mono (h pins s σ H D (I.wish _) hw) (fun _ _ q=>q.uF) fun _ _ z=>False.elim z
end
section
variable{X:Cx}{st:Stmt}{rest:List Stmt}{t u:TS}{e:Expr}{te:TE}{pos:Pos}
def Um:TS:=fun D σ H=>D.nx σ H
def ada(t u:TS):TS:=fun D σ H=>t {D with nx:=u D} σ H
theorem aP:PSs X [] Um:=fun _ _ σ H _ I h=>wpAny_execs_nil ⟨σ,H,I,h⟩
theorem af(h1:PS X st t)(h2:PSs X rest u):PSs X (st::rest) (ada t u):=by
 intro pins s σ H D I h;refine wpAny_execs_cons (thn (h1 pins s σ H {D with nx:=u D} I h) fun f s1 q=>?_);cases f with
 |next=>
  obtain⟨σ',H',I',q⟩:=q;exact h2 pins s1 σ' H' D I' q
 |ret v=>exact q
 |brk=>exact q
 |cont=>exact q
theorem aj(h1:PS X st t):PSs X [st] t:=by
 intro pins s σ H D I h;refine wpAny_execs_cons (thn (h1 pins s σ H D I h) fun f s1 q=>?_);cases f with
 |next=>exact wpAny_execs_nil q
 |ret v=>exact q
 |brk=>exact q
 |cont=>exact q
theorem Inv.quiet{pins:List (Addr×Obj)}{σ:St}{H:Hp}{s:Shared}(I:Inv X pins σ H s):interactive X.env=false:=by simp[interactive,I.ok.kind]
def adb(te:TE):TS:=fun D σ H=>te σ H fun _ H1=>D.nx σ H1
theorem fo(he:PE X e te)(hs:swapsWith e none pos.line X.env=pure false:=by rfl):PS X (.Expr e pos) (adb te):=by
 intro pins s σ H D I h;exact wpAny_Expr_any (thn (he pins s σ H _ I h) fun v s1 ⟨x,H1,I1,r1,q1⟩=>⟨σ,H1,I1,q1⟩) I.quiet hs
def X5(te:TE):TS:=fun D σ H=>te σ H D.rt
theorem au(he:PE X e te):PS X (.Return (some e) pos) (X5 te):=by
 intro pins s σ H D I h;exact wpAny_Return_some (thn (he pins s σ H _ I h) fun v s1 ⟨x,H1,I1,r1,q1⟩=>⟨x,σ,H1,I1,r1,q1⟩)
def ade(c:TT)(t u:TS):TS:=fun D σ H=>c σ H fun b H1=>if b=true then t D σ H1 else u D σ H1
theorem bJ{c:Expr}{a b:List Stmt}{tc:TT}(hc:PT X c tc)(ha:PSs X a t)(hb:PSs X b u):PS X (.If c a b pos) (ade tc t u):=by
 intro pins s σ H D I h;refine wpAny_If (thn (hc pins s σ H _ I h) fun d s1 ⟨H1,I1,q1⟩=>?_);cases d with
 |true=>exact ha pins s1 σ H1 D I1 q1
 |false=>exact hb pins s1 σ H1 D I1 q1
end
abbrev TG:=V→St→Hp→(St→Hp→Prop)→Prop
abbrev TGs:=List V→St→Hp→(St→Hp→Prop)→Prop
def PG(X:Cx)(target:Expr)(t:TG):Prop:=
 ∀(pins:List (Addr×Obj))(s:Shared)(σ:St)(H:Hp)(v:V)(u:Value)(Q:St→Hp→Prop),Inv X pins σ H s→RelV v u→t v σ H Q→
  wpAny (model X.prog X.w) X.A (assign target X.env u) (fun _ s'=>∃σ' H',Inv X pins σ' H' s'∧Q σ' H') X.xe s
def PGs(X:Cx)(ts:List Expr)(t:TGs):Prop:=
 ∀(pins:List (Addr×Obj))(s:Shared)(σ:St)(H:Hp)(vs:List V)(us:List Value)(Q:St→Hp→Prop),Inv X pins σ H s→Vals vs us→t vs σ H Q→
  wpAny (model X.prog X.w) X.A (assignInOrder ((assignEach ts X.env).map (·.2)) us) (fun _ s'=>∃σ' H',Inv X pins σ' H' s'∧Q σ' H') X.xe s
abbrev TIp:=V→V→Hp→VK→Prop
def PIp(X:Cx)(op:Operator)(t:TIp):Prop:=
 ∀(pins:List (Addr×Obj))(s:Shared)(σ:St)(H:Hp)(x y:V)(v u:Value)(Q:VK),Inv X pins σ H s→RelV x v→RelV y u→t x y H Q→
  wpAny (model X.prog X.w) X.A (inplaceOp op v u) (EP X pins σ Q) X.xe s
section
variable{X:Cx}{pos:Pos}
def Uo(i:Nat):TG:=fun v σ H Q=>Q (σ.set i (some v)) H
theorem bX{i:Nat}{x:Str}(hN:X.N.Nodup)(hi:X.N[i]?=some x)(hx:Loc X.env.scope x)(hf:X.fn x=true∨X.env.scope.names.lookup x=some .local:=by first|exact .inl rfl|exact .inr rfl|assumption):PG X (.Name x pos) (Uo i):=by
 intro pins s σ H v u Q I r h;exact wpAny_assign_Name (Jf I hN hi hx r (fun s' I'=>⟨_,H,I',h⟩) hf)
def amF:TGs:=fun vs σ H Q=>vs=[]∧Q σ H
def akd(t:TG)(u:TGs):TGs:=fun vs σ H Q=>∃v r,vs=v::r∧t v σ H fun σ' H'=>u r σ' H' Q
theorem ZQ:PGs X [] amF:=by
 intro pins s σ H vs us Q I r h;obtain⟨e,h⟩:=h;subst e;cases r;exact assignInOrder_nil ⟨σ,H,I,h⟩
theorem AM{e:Expr}{es:List Expr}{t:TG}{u:TGs}(h1:PG X e t)(h2:PGs X es u)
  (hs:(assignEach (e::es) X.env).map (·.2)=assign e X.env::(assignEach es X.env).map (·.2):=by rfl):PGs X (e::es) (akd t u):=by
 intro pins s σ H vs us Q I r h;obtain⟨v,vr,e1,h⟩:=h;subst e1;cases r with
 |cons r rr=>
  rw[hs];refine assignInOrder_cons (thn (h1 pins s σ H _ _ _ I r h) fun _ s1 ⟨σ1,H1,I1,q1⟩=>?_);exact h2 pins s1 σ1 H1 _ _ Q I1 rr q1
def amG(K:PySem.W.Frag)(n:Nat)(t:TGs):TG:=fun v σ H Q=>∃a xs,v=.ref a∧SqT K H a xs∧xs.length=n∧t xs σ H Q
theorem adf{es:List Expr}{k:Nat}{t:TGs}{n:Nat}(hc:X.calm=true)(h:PGs X es t)
  (hn:(assignEach es X.env).length=n:=by rfl) (hst:(assignEach es X.env).findIdx? (·.1)=none:=by rfl):PG X (.Tuple es k pos) (amG X.K n t):=by
 intro pins s σ H v u Q I r hw;obtain⟨a,xs,e1,hq,hl,hw⟩:=hw;subst e1;cases r;obtain⟨its,rv,ht,hz⟩:=I.tuple hq;refine assign_Tuple_tuple (I.ok.hd hc) ht (by simp[hn,←hl,rv.length]) hst fun h' hx=>?_;have I1:Inv X pins σ H {s with heap:=h'}:=I.kept (t':=s.toks) fun b o e=>hx b o (Nat.ne_of_lt (Heap.lt_size e)) e;exact h pins _ σ H xs _ Q I1 (by simpa using rv) hw
def ahP(te:TE)(g:TG):TS:=fun D σ H=>te σ H fun x H1=>g x σ H1 D.nx
theorem aG{i:Nat}{x:Str}{e:Expr}{te:TE}{pos':Pos}(hN:X.N.Nodup)(hi:X.N[i]?=some x)(hx:Loc X.env.scope x)(he:PE X e te)(hs:swapsWith e (some (.Name x pos')) pos.line X.env=pure false:=by rfl)(hf:X.fn x=true∨X.env.scope.names.lookup x=some .local:=by first|exact .inl rfl|exact .inr rfl|assumption):
  PS X (.Assign [.Name x pos'] e pos) (ahP te (Uo i)):=by
 intro pins s σ H D I h;refine wpAny_Assign_Name (thn (he pins s σ H _ I h) fun v s1 ⟨y,H1,I1,r1,q1⟩=>?_) hs;exact Jf I1 hN hi hx r1 (fun s2 I2=>⟨_,H1,I2,q1⟩) hf
def amH(i:Nat)(te:TE)(ti:TIp):TS:=fun D σ H=>∃x,σ[i]?=some (some x)∧te σ H fun y H1=>ti x y H1 fun z H2=>D.nx (σ.set i (some z)) H2
theorem ahQ{i:Nat}{x:Str}{e:Expr}{te:TE}{op:Operator}{ti:TIp}{pos':Pos}(hN:X.N.Nodup)(hi:X.N[i]?=some x)(hx:Loc X.env.scope x)(he:PE X e te)(ho:PIp X op ti)(hf:X.fn x=true∨X.env.scope.names.lookup x=some .local:=by first|exact .inl rfl|exact .inr rfl|assumption):
  PS X (.AugAssign (.Name x pos') op e pos) (amH i te ti):=by
 intro pins s σ H D I h;obtain⟨v,e1,h⟩:=h;obtain⟨m,hn,hl⟩:=I.loc;have vis:Vis X.env.scope x:=by rcases hx with k|k;exact .inl k;exact .inr (.inl k)
 obtain⟨u,r,l⟩:=hl i x v hi e1 vis;refine wpAny_AugAssign_Name ?_;have go:wpAny (model X.prog X.w) X.A (eval e X.env) (fun w s₂=>wpAny (model X.prog X.w) X.A (inplaceOp op u w) (fun r s₃=>wpAny (model X.prog X.w) X.A (storeName X.env x r) (fun _=>SP X pins D .next) X.xe s₃) X.xe s₂) X.xe s:=by
  refine thn (he pins s σ H _ I h) fun w s1 ⟨y,H1,I1,r1,q1⟩=>?_;refine thn (ho pins s1 σ H1 v y u w _ I1 r r1 q1) fun z s2 ⟨zv,H2,I2,r2,q2⟩=>?_;exact Jf I2 hN hi hx r2 (fun s3 I3=>⟨_,H2,I3,q2⟩) hf
 rcases l with⟨hk,hm⟩|⟨hk,c,hc,hcell⟩
 ·exact wpAny_loadName_local I.ok.kind hk hn hm go
 ·rcases hk with hk|hk
  ·exact wpAny_loadName_cell I.ok.kind hk hc hcell go
  ·rcases hx with k|k
   ·have:X.env.scope.names.lookup x=some .free:=hk;rw[k] at this;cases this
   ·have:X.env.scope.names.lookup x=some .free:=hk;rw[k] at this;cases this
def ipI(f:Int→Int→Int):TIp:=fun x y H Q=>∃i j,x=.int i∧y=.int j∧Q (.int (f i j)) H
theorem ahR:PIp X .Add (ipI fun i j=>i+j):=by
 intro pins s σ H x y v u Q I r1 r2 h;obtain⟨i,j,e1,e2,q⟩:=h;subst e1;subst e2;obtain⟨t,rfl⟩:=r1;obtain⟨t',rfl⟩:=r2;exact iadd_int ⟨.int _,H,I.tok _,⟨_,rfl⟩,q⟩
end
section
variable{X:Cx}{pos:Pos}
def ahS(c:TT)(tb:TS):TS:=fun D σ H=>∃W:Nat→St→Hp→Prop,(∃m,W m σ H)∧∀m σ H,W m σ H→
 c σ H fun b H1=>if b=true then∃N:St→Hp→Prop,(∀σ' H',N σ' H'→∃m',m'<m∧W m' σ' H')∧tb {D with nx:=N,ct:=N,bk:=D.nx} σ H1 else D.nx σ H1
theorem AN{c:Expr}{body:List Stmt}{tc:TT}{tb:TS}(hp:PassesOwn (model X.prog X.w) X.A X.env X.xe)(hc:PT X c tc)(hb:PSs X body tb):PS X (.While c body [] pos) (ahS tc tb):=by
 intro pins s σ H D I h;obtain⟨W,⟨m0,w0⟩,turn⟩:=h;refine wpAny_While (codeAny_whileLoop (fun n s'=>∃σ' H',Inv X pins σ' H' s'∧W n σ' H') ?_ m0 ⟨σ,H,I,w0⟩);rintro n s1 ⟨σ1,H1,I1,w1⟩;refine wpAny_passesOwn hp (thn (hc pins s1 σ1 H1 _ I1 (turn n σ1 H1 w1)) fun b s2 ⟨H2,I2,q2⟩=>?_);cases b with
 |true=>
  obtain⟨N,hN,q2⟩:=q2;rw[if_pos rfl];refine wpAny_passesOwn hp (thn (hb pins s2 σ1 H2 _ I2 q2) fun f s3 q3=>?_);cases f with
  |next=>
   obtain⟨σ3,H3,I3,n3⟩:=q3;obtain⟨m',hm,w3⟩:=hN σ3 H3 n3;exact⟨m',hm,σ3,H3,I3,w3⟩
  |cont=>
   obtain⟨σ3,H3,I3,n3⟩:=q3;obtain⟨m',hm,w3⟩:=hN σ3 H3 n3;exact⟨m',hm,σ3,H3,I3,w3⟩
  |brk=>exact q3
  |ret v=>exact q3
 |false=>
  rw[if_neg Bool.false_ne_true];exact wpAny_execs_nil ⟨σ1,H2,I2,q2⟩
end
structure It where
 go:Nat→Hp→Prop
 yld:Nat→Hp→V→Hp→Prop
 stop:Nat→Hp→Prop
def DH(X:Cx)(pins:List (Addr×Obj))(H:Hp)(b:Addr):Prop:=
 H b=none∧b≠X.env.locals∧b∉X.fs∧(b∈X.ex∨X.s_0.heap.objs.size≤b)∧(∀x c,X.env.cells.lookup x=some c→c≠b)∧∀p∈X.pn++pins,p.1≠b
theorem Inv.adg{X:Cx}{pins:List (Addr×Obj)}{σ:St}{H H':Hp}{s:Shared}{b:Addr}(I:Inv X pins σ H s)(hb:s.heap.objs.size≤b)(hn:H' b=none):DH X pins H' b:=by
 refine⟨hn,Nat.ne_of_gt (Nat.lt_of_lt_of_le I.lt hb),I.amA hb,.inr (Nat.le_trans I.sz hb),fun x c e z=>?_,fun p hp z=>?_⟩
 ·obtain⟨v,q⟩:=I.cell x c e;exact absurd (Nat.lt_of_lt_of_le q.lt (by rw[z];exact hb)) (Nat.lt_irrefl _)
 ·exact absurd (Nat.lt_of_lt_of_le (Heap.lt_size (I.pin p hp).1) (by rw[z];exact hb)) (Nat.lt_irrefl _)
structure Turn(P:Program)(w:World)(K:PySem.W.Frag)(tg:Expr)(J:It)(fp:List Addr)(it:Addr)(tn:Nat→Heap→Prop):Prop where
 mem:it∈fp
 obj:∀i h,tn i h→∀b∈fp,∃o,h.get? b=some o∧∀v,o.data≠.cell v
 keep:∀i h h',tn i h→(∀b∈fp,∀o,h.get? b=some o→h'.get? b=some o)→tn i h'
 item:∀(X:Cx),X.prog=P→X.w=w→X.K=K→X.calm=true→∀(i:Nat)(pins:List (Addr×Obj))(s:Shared)(σ:St)(H:Hp)(E:Value→Shared→Prop),Inv X pins σ H s→(∀b∈fp,DH X pins H b)→tn i s.heap→J.go i H→
  wpAny (model P w) X.A (pyNext (.ref it)) (fun r s1=>∃u,r=some u∧
   wpAny (model P w) X.A (letOwnedTupleGo tg (.ref it) u) (fun _ s2=>∃x H',Inv X pins σ H' s2∧RelV x u∧J.yld i H x H'∧tn (i+1) s2.heap∧∀b∈fp,H' b=none) E s1) E s
 done:∀(X:Cx),X.prog=P→X.w=w→X.K=K→X.calm=true→∀(i:Nat)(pins:List (Addr×Obj))(s:Shared)(σ:St)(H:Hp)(E:Value→Shared→Prop),Inv X pins σ H s→(∀b∈fp,DH X pins H b)→tn i s.heap→J.stop i H→
  wpAny (model P w) X.A (pyNext (.ref it)) (fun r s1=>r=none∧Inv X pins σ H s1) E s
 self:∀(A:Around)(i:Nat)(s:Shared)(Q:Value→Shared→Prop)(E:Value→Shared→Prop),tn i s.heap→Q (.ref it) s→wpAny (model P w) A (pyIter (.ref it)) Q E s
abbrev TI:=St→Hp→(It→Hp→Prop)→Prop
def PIE(X:Cx)(pins:List (Addr×Obj))(σ:St)(tg:Expr)(R:It→Hp→Prop)(itv:Value)(s2:Shared):Prop:=
 ∃(it:Addr)(fp:List Addr)(tn:Nat→Heap→Prop)(J:It)(H':Hp),itv=.ref it∧Inv X pins σ H' s2∧Turn X.prog X.w X.K tg J fp it tn∧tn 0 s2.heap∧(∀b∈fp,DH X pins H' b)∧R J H'
def PI(X:Cx)(tg iter:Expr)(wi:TI):Prop:=
 ∀(pins:List (Addr×Obj))(s:Shared)(σ:St)(H:Hp)(R:It→Hp→Prop),Inv X pins σ H s→wi σ H R→
  wpAny (model X.prog X.w) X.A (eval iter X.env) (fun v s1=>wpAny (model X.prog X.w) X.A (pyIter v) (PIE X pins σ tg R) X.xe s1) X.xe s
theorem Up {M : Model} {A : Around} {E : Value → Shared → Prop} {s : Shared} {tg : Expr} {it : Addr} {u : Value} {o : Obj} {n : String} {vs : Array Value} {Q : Unit → Shared → Prop} (ho : s.heap.get? it = some o) (hc : o.cls = .type n) (hd : o.data = .fields vs)
    (hn : ["enumerate", "zip", "dict_itemiterator", "dict_reverseitemiterator", "odict_iterator", "itertools.zip_longest", "itertools.pairwise"].contains n = false) (hQ : Q () s) : wpAny M A (letOwnedTupleGo tg (.ref it) u) Q E s := by
  unfold letOwnedTupleGo
  cases tg <;> first
    | exact wpAny_pure hQ
    | (cases u <;> first
        | exact wpAny_pure hQ
        | (refine wpAny_bind (wpAny_load ho ?_)
           rw [hc, hd]
           show wpAny M A (if (["enumerate", "zip", "dict_itemiterator", "dict_reverseitemiterator", "odict_iterator", "itertools.zip_longest", "itertools.pairwise"].contains n && vs[0]? == some (rawInt _)) = true then _ else _) Q E s
           rw [if_neg (by intro h; rw [hn, Bool.false_and] at h; cases h)]
           exact wpAny_pure hQ))
def Itl(K:PySem.W.Frag)(a:Addr):It:=
 ⟨fun i H=>∃xs x,SqL K H a xs∧xs[i]?=some x,fun i H x H'=>H'=H∧∀xs,SqL K H a xs→xs[i]?=some x,fun i H=>∃xs,SqL K H a xs∧xs.length≤i⟩
def Itr(lo:Int)(n:Nat):It:=⟨fun i _=>i<n,fun i H x H'=>H'=H∧x=.int (lo+i),fun i _=>n≤i⟩
theorem aaW{P:Program}{w:World}{K:PySem.W.Frag}{tg:Expr}(a it:Addr):Turn P w K tg (Itl K a) [it] it (fun i h=>h.IsListIter it a i) where
 mem:=by simp
 obj:=fun i h st b hb=>by
  have e:b=it:=by simpa using hb
  subst e;obtain⟨o,e,c,d⟩:=st;exact⟨o,e,fun v z=>by rw[d] at z;cases z⟩
 keep:=fun i h h' st k=>st.at fun o e=>k it (by simp) o e
 item:=by
  intro X hP hw hK hc i pins s σ H E I hf st hg;subst hP hw hK;obtain⟨xs,x,hq,hx⟩:=hg;obtain⟨its,rv,p,hz⟩:=I.list hq;obtain⟨u,hu,ru⟩:=rv.get hx;obtain⟨f0,f1,f2,f3,f4,f5⟩:=hf it (by simp);refine wpAny_pyNext_list_item st p.isList (x:=u) (by simpa using hu) fun h' st' sb=>?_;have I1:Inv X pins σ H {s with heap:=h'}:=I.turned (t':=s.toks) (fun b o hb e=>(sb.2 b hb).trans e) f0 f1 f3 f4 f5;obtain⟨o,e,c,d⟩:=id st';exact⟨u,rfl,Up (s:={s with heap:=h'}) e c d (by decide) ⟨x,H,I1,ru,⟨rfl,fun ys hy=>by rw[I.Ul hy hq];exact hx⟩,st',fun b hb=>(hf b hb).1⟩⟩
 done:=by
  intro X hP hw hK hc i pins s σ H E I hf st hg;subst hP hw hK;obtain⟨xs,hq,hx⟩:=hg;obtain⟨its,rv,p,hz⟩:=I.list hq;obtain⟨f0,f1,f2,f3,f4,f5⟩:=hf it (by simp);have hl:=rv.length;exact wpAny_pyNext_list_end (I.ok.hd hc) st p.isList (by simp;omega) fun h' eb=>⟨rfl,I.turned (t':=s.toks) (fun b o hb e=>eb b o hb e) f0 f1 f3 f4 f5⟩
 self:=fun _ _ _ _ _ st h=>wpAny_pyIter_listiter st h
theorem X6{P:Program}{w:World}{K:PySem.W.Frag}{tg:Expr}(it:Addr)(lo:Int)(n:Nat):Turn P w K tg (Itr lo n) [it] it (fun i h=>IsRangeIter h it (lo+(i:Nat)*1) ((n:Int) - (i:Nat)) 1) where
 mem:=by simp
 obj:=fun i h st b hb=>by
  have e:b=it:=by simpa using hb
  subst e;exact⟨_,st,fun v z=>by
   have z':Data.fields _=Data.cell v:=z;cases z'⟩
 keep:=fun i h h' st k=>k it (by simp) _ st
 item:=by
  intro X hP hw hK hc i pins s σ H E I hf st hg;subst hP hw hK;obtain⟨f0,f1,f2,f3,f4,f5⟩:=hf it (by simp);have W:=Walks.range (prog:=X.prog) (w:=X.w) (I.ok.hd hc) it lo 1 n;refine W.item i s _ _ hg st fun v h' tk hv st' kk=>?_;obtain⟨t,rfl⟩:=hv;have I1:Inv X pins σ H {s with heap:=h',toks:=tk}:=I.turned (fun b o hb e=>kk b o (by simpa using hb) e) f0 f1 f3 f4 f5;refine⟨_,rfl,Up (s:={s with heap:=h',toks:=tk}) (n:="range_iterator") st' rfl rfl (by decide) ⟨.int (lo+i),H,I1,⟨t,?_⟩,⟨rfl,rfl⟩,st',fun b hb=>(hf b hb).1⟩⟩;rw[Int.mul_one]
 done:=by
  intro X hP hw hK hc i pins s σ H E I hf st hg;subst hP hw hK;obtain⟨f0,f1,f2,f3,f4,f5⟩:=hf it (by simp);exact wpAny_pyNext_range_end (I.ok.hd hc) st (by have:n≤i:=hg;omega) fun h' eb=>⟨rfl,I.turned (t':=s.toks) (fun b o hb e=>eb b o hb e) f0 f1 f3 f4 f5⟩
 self:=fun _ _ _ _ _ st h=>wpAny_pyIter_rangeiter st h
end L2
namespace L2
open PySem PySem.Spec PyProof.Rows
section
variable{X:Cx}{tg:Expr}
def ake(K:PySem.W.Frag)(tl:TE):TI:=fun σ H R=>tl σ H fun x H1=>∃a,x=.ref a∧(∃xs,SqL K H1 a xs)∧R (Itl K a) H1
theorem ja{l:Expr}{tl:TE}(hl:PE X l tl):PI X tg l (ake X.K tl):=by
 intro pins s σ H R I h;refine thn (hl pins s σ H _ I h) fun v s1 ⟨x,H1,I1,r1,q1⟩=>?_;obtain⟨a,e,⟨xs,hq⟩,q⟩:=q1;subst e;cases r1;obtain⟨its,rv,p,hz⟩:=I1.list hq;refine wpAny_pyIter_list p.isList ?_;refine⟨s1.heap.objs.size,[s1.heap.objs.size],_,_,H1,rfl,I1.kept (t':=s1.toks) fun b o e=>Heap.get?_push_of_some _ e,aaW a _,⟨_,Heap.get?_push_size _ rfl,rfl,rfl⟩,fun b hb=>?_,q⟩;have e:b=s1.heap.objs.size:=by simpa using hb
 subst e;exact I1.adg (Nat.le_refl _) (I1.hok.fresh (Nat.le_refl _))
theorem adh{pins:List (Addr×Obj)}{σ:St}{H:Hp}{s:Shared}{R:It→Hp→Prop}{E:Value→Shared→Prop}{lo hi:Int}{t u v:Tok}{tk:Nat}(I:Inv X pins σ H s)(h1: -(2 ^ 62)≤lo)(h2:lo<2 ^ 62)(h3: -(2 ^ 62)≤hi)(h4:hi<2 ^ 62)
  (q:R (Itr lo (hi - lo).toNat) H):wpAny (model X.prog X.w) X.A (pyIter (.ref s.heap.objs.size)) (PIE X pins σ tg R) E {s with heap:=s.heap.push {cls:=.type "range",data:=.fields #[.int lo t,.int hi u,.int 1 v]},toks:=tk}:=by
 refine wpAny_pyIter_range (IsRange.new ..) (small_one h1 h2 h3 h4) ?_;have I1:Inv X pins σ H {s with heap:=s.heap.push {cls:=.type "range",data:=.fields #[.int lo t,.int hi u,.int 1 v]},toks:=tk}:=I.kept fun b o e=>Heap.get?_push_of_some _ e;refine⟨(s.heap.push {cls:=.type "range",data:=.fields #[.int lo t,.int hi u,.int 1 v]}).objs.size,[(s.heap.push {cls:=.type "range",data:=.fields #[.int lo t,.int hi u,.int 1 v]}).objs.size],_,_,H,rfl,
  I1.kept (t':=tk) fun b o e=>Heap.get?_push_of_some _ e,X6 _ lo (hi - lo).toNat,?_,fun b hb=>?_,q⟩
 ·have e1:lo+((0:Nat):Int)*1=lo:=by simp
  have e2:(((hi - lo).toNat:Nat):Int) - ((0:Nat):Int)=Builtin.Range.rangeSize lo hi 1:=by rw[rangeSize_one];split<;>omega
  show IsRangeIter _ _ (lo+((0:Nat):Int)*1) ((((hi - lo).toNat:Nat):Int) - ((0:Nat):Int)) 1;rw[e1,e2];exact Heap.get?_push_size _ rfl
 ·have e:b=(s.heap.push {cls:=.type "range",data:=.fields #[.int lo t,.int hi u,.int 1 v]}).objs.size:=by simpa using hb
  subst e;exact I1.adg (Nat.le_refl _) (I1.hok.fresh (Nat.le_refl _))
def akf(ta:TA):TI:=fun σ H R=>ta σ H fun vs H1=>∃j:Int,vs=[.int j]∧ -(2 ^ 62)≤j∧j<2 ^ 62∧R (Itr 0 j.toNat) H1
theorem aaX{a:Expr}{ta:TA}{p pos:Pos}(hg:Gl X "range")(hm:X.mg "range"=none)(ha:PA X [a] ta)(hs:starEach [a] X.env=[(false,eval a X.env)]:=by rfl):PI X tg (.Call (.Name "range" p) [a] [] pos) (akf ta):=by
 intro pins s σ H R I h;refine Call_ (Jg I hg hm boot_range (PyProof.Rows.callWith_type1 (thn (ha pos pins s σ H _ I h) fun us s1 ⟨vs,H1,I1,r1,q1⟩=>?_) hs rfl));obtain⟨j,e,q1,q2,q⟩:=q1;subst e;cases r1 with
 |cons r rr=>
  cases rr;obtain⟨t,rfl⟩:=r;exact call_range_1 (adh I1 (by omega) (by omega) q1 q2 (by simpa using q))
def amI(wi:TI)(g:TG)(tb:TS):TS:=fun D σ H=>wi σ H fun J H1=>∃W:Nat→Nat→St→Hp→Prop,(∃m,W 0 m σ H1)∧∀i m σ H,W i m σ H→
 (J.stop i H∧D.nx σ H)∨(J.go i H∧∃N:St→Hp→Prop,(∀σ' H',N σ' H'→∃m',m'<m∧W (i+1) m' σ' H')∧∀x H',J.yld i H x H'→g x σ H' fun σ2 H2=>tb {D with nx:=N,ct:=N,bk:=D.nx} σ2 H2)
def Jh(fp:List Addr)(h:Heap):List (Addr×Obj):=fp.filterMap fun b=>(h.get? b).map fun o=>(b,o)
theorem ze{fp:List Addr}{h:Heap}{b:Addr}{o:Obj}(hb:b∈fp)(e:h.get? b=some o):(b,o)∈Jh fp h:=List.mem_filterMap.mpr ⟨b,hb,by rw[e];rfl⟩
theorem aaY{fp:List Addr}{h:Heap}{p:Addr×Obj}(hp:p∈Jh fp h):p.1∈fp∧h.get? p.1=some p.2:=by
 obtain⟨b,hb,e⟩:=List.mem_filterMap.mp hp;cases q:h.get? b with
 |none=>rw[q] at e;cases e
 |some o=>
  rw[q] at e;have e':(b,o)=p:=Option.some.inj e;subst e';exact⟨hb,q⟩
theorem Inv.pinned{pins:List (Addr×Obj)}{σ:St}{H:Hp}{s:Shared}{fp:List Addr}(I:Inv X pins σ H s)(hf:∀b∈fp,DH X pins H b)(ho:∀b∈fp,∃o,s.heap.get? b=some o∧∀v,o.data≠.cell v):Inv X (pins++Jh fp s.heap) σ H s:=
 I.ZO fun p hp=>(List.mem_append.mp hp).elim (fun z=>I.pin p (List.mem_append_right _ z)) fun z=>by
  obtain⟨hb,e⟩:=aaY z;obtain⟨f0,f1,f2,_⟩:=hf p.1 hb;obtain⟨o,e',d⟩:=ho p.1 hb;rw[e] at e';cases e';exact⟨e,f0,f1,f2,d⟩
theorem Inv.AO{pins pl:List (Addr×Obj)}{σ:St}{H:Hp}{s:Shared}(I:Inv X (pins++pl) σ H s):Inv X pins σ H s:=I.ZO fun p hp=>I.pin p (List.mem_append_right _ (List.mem_append_left _ hp))
theorem mr{iter:Expr}{body:List Stmt}{wi:TI}{g:TG}{tb:TS}{pos:Pos}(hp:PassesOwn (model X.prog X.w) X.A X.env X.xe)(hc:X.calm=true)(hi:PI X tg iter wi)(hg:PG X tg g)(hb:PSs X body tb)
  (hs:∀x,foldedSetIterable iter X.env x=pure x:=by intro _;rfl):PS X (.For tg iter body [] pos) (amI wi g tb):=by
 intro pins s σ H D I h;refine wpAny_For (thn (hi pins s σ H _ I h) fun v s1 h1=>thn h1 fun itv s2 h2=>?_) hs;obtain⟨it,fp,tn,J,H2,e,I2,T,st2,f2,W,⟨m0,w0⟩,turn⟩:=h2;subst e;have stat:∀{H':Hp},(∀b∈fp,H' b=none)→∀b∈fp,DH X pins H' b:=fun hn b hb=>⟨hn b hb,(f2 b hb).2⟩
 refine codeAny_forLoop_any (fun n s'=>∃i σ' H',Inv X pins σ' H' s'∧tn i s'.heap∧(∀b∈fp,H' b=none)∧W i n σ' H') ?_ m0 ⟨0,σ,H2,I2,st2,fun b hb=>(f2 b hb).1,w0⟩;rintro n s3 ⟨i,σ3,H3,I3,st3,fr3,w3⟩;rcases turn i n σ3 H3 w3 with⟨stop,qn⟩|⟨go,N,hN,step⟩
 ·refine wpAny_passesOwn hp (thn (T.done X rfl rfl rfl hc i pins s3 σ3 H3 X.xe I3 (stat fr3) st3 stop) fun r s4 ⟨hr,I4⟩=>?_);subst hr;exact wpAny_execs_nil ⟨σ3,H3,I4,qn⟩
 ·refine wpAny_passesOwn hp (thn (T.item X rfl rfl rfl hc i pins s3 σ3 H3 X.xe I3 (stat fr3) st3 go) fun r s4 ⟨u,hr,h4⟩=>?_);subst hr;refine wpAny_passesOwn hp (thn h4 fun _ s5 ⟨x,H5,I5,r5,y5,st5,fr5⟩=>?_);have I5':=I5.pinned (stat fr5) (T.obj _ _ st5);refine wpAny_passesOwn hp (thn (hg _ s5 σ3 H5 x u _ I5' r5 (step x H5 y5)) fun _ s6 ⟨σ6,H6,I6,q6⟩=>?_);refine wpAny_passesOwn hp (thn (hb _ s6 σ6 H6 _ I6 q6) fun f s7 q7=>?_);have again:∀{σ7:St}{H7:Hp},Inv X (pins++Jh fp s5.heap) σ7 H7 s7→N σ7 H7→∃m,m<n∧∃i σ' H',Inv X pins σ' H' s7∧tn i s7.heap∧(∀b∈fp,H' b=none)∧W i m σ' H':=fun{σ7 H7} I7 n7=>by
   obtain⟨m',hm,w7⟩:=hN σ7 H7 n7;refine⟨m',hm,i+1,σ7,H7,I7.AO,T.keep _ _ _ st5 fun b hb o e=>(I7.pin (b,o) (List.mem_append_right _ (List.mem_append_right _ (ze hb e)))).1,fun b hb=>?_,w7⟩;obtain⟨o,e,d⟩:=T.obj _ _ st5 b hb;exact(I7.pin (b,o) (List.mem_append_right _ (List.mem_append_right _ (ze hb e)))).2.1
  cases f with
  |next=>obtain⟨σ7,H7,I7,n7⟩:=q7;exact again I7 n7
  |cont=>obtain⟨σ7,H7,I7,n7⟩:=q7;exact again I7 n7
  |brk=>obtain⟨σ7,H7,I7,q7⟩:=q7;exact⟨σ7,H7,I7.AO,q7⟩
  |ret v=>obtain⟨x7,σ7,H7,I7,r7,q7⟩:=q7;exact⟨x7,σ7,H7,I7.AO,r7,q7⟩
end
end L2
namespace L2
open PySem PySem.Spec PyProof.Rows
abbrev R2:=V→V→Hp→VK→Prop
def OpR(X:Cx)(f:Value→Value→Sem Value)(r:R2):Prop:=
 ∀(pins:List (Addr×Obj))(s:Shared)(σ:St)(H:Hp)(x y:V)(v u:Value)(Q:VK),Inv X pins σ H s→RelV x v→RelV y u→r x y H Q→
  wpAny (model X.prog X.w) X.A (f v u) (EP X pins σ Q) X.xe s
def UnR(X:Cx)(f:Value→Sem Value)(r:V→Hp→VK→Prop):Prop:=
 ∀(pins:List (Addr×Obj))(s:Shared)(σ:St)(H:Hp)(x:V)(v:Value)(Q:VK),Inv X pins σ H s→RelV x v→r x H Q→
  wpAny (model X.prog X.w) X.A (f v) (EP X pins σ Q) X.xe s
def iN(X:Cx)(f:Value)(r:List V→Hp→VK→Prop):Prop:=
 ∀(pins:List (Addr×Obj))(s:Shared)(σ:St)(H:Hp)(xs:List V)(us:List Value)(Q:VK),Inv X pins σ H s→Vals xs us→r xs H Q→
  wpAny (model X.prog X.w) X.A (call f us) (EP X pins σ Q) X.xe s
def amJ(X:Cx)(r:V→Hp→(Bool→Hp→Prop)→Prop):Prop:=
 ∀(pins:List (Addr×Obj))(s:Shared)(σ:St)(H:Hp)(x:V)(v:Value)(Q:Bool→Hp→Prop),Inv X pins σ H s→RelV x v→r x H Q→
  wpAny (model X.prog X.w) X.A (truthy v) (TP X pins σ Q) X.xe s
def tOp(r:R2)(ta tb:TE):TE:=fun σ H Q=>ta σ H fun x H1=>tb σ H1 fun y H2=>r x y H2 Q
def tUn(r:V→Hp→VK→Prop)(ta:TE):TE:=fun σ H Q=>ta σ H fun x H1=>r x H1 Q
def rI0(g:Int→Int→V):R2:=fun x y H Q=>∃i j,x=.int i∧y=.int j∧Q (g i j) H
def rU(g:Int→V):V→Hp→VK→Prop:=fun x H Q=>∃i,x=.int i∧Q (g i) H
section
variable{X:Cx}{a b c:Expr}{ta tb tc:TE}{pos:Pos}
theorem ahT(ha:PE X a ta)(hb:PE X b tb){pins:List (Addr×Obj)}{s:Shared}{σ:St}{H:Hp}{R:V→V→Hp→Prop}(I:Inv X pins σ H s)
  (h:ta σ H fun x H1=>tb σ H1 fun y H2=>R x y H2) {Q:Value→Shared→Prop} {f:Value→Value→Sem Value}
  (hf:∀v u s2 x y H2,Inv X pins σ H2 s2→RelV x v→RelV y u→R x y H2→wpAny (model X.prog X.w) X.A (f v u) Q X.xe s2):
  wpAny (model X.prog X.w) X.A (eval a X.env) (fun v s₁=>wpAny (model X.prog X.w) X.A (eval b X.env) (fun u s₂=>wpAny (model X.prog X.w) X.A (f v u) Q X.xe s₂) X.xe s₁) X.xe s:=by
 refine thn (ha pins s σ H _ I h) fun v s1 ⟨x,H1,I1,r1,q1⟩=>?_;refine thn (hb pins s1 σ H1 _ I1 q1) fun u s2 ⟨y,H2,I2,r2,q2⟩=>?_;exact hf v u s2 x y H2 I2 r1 r2 q2
theorem fQ{op:Operator}{r:R2}(ho:OpR X (binaryOp op) r)(ha:PE X a ta)(hb:PE X b tb):PE X (.BinOp a op b pos) (tOp r ta tb):=by
 intro pins s σ H Q I h;exact wpAny_BinOp (ahT ha hb I h fun v u s2 x y H2 I2 rx ry q=>ho pins s2 σ H2 x y v u Q I2 rx ry q)
theorem nL{op:UnaryOp}{r:V→Hp→VK→Prop}(ho:UnR X (unaryOp op) r)(ha:PE X a ta):PE X (.UnaryOp op a pos) (tUn r ta):=by
 intro pins s σ H Q I h;exact UnaryOp_ (thn (ha pins s σ H _ I h) fun v s1 ⟨x,H1,I1,r1,q1⟩=>ho pins s1 σ H1 x v Q I1 r1 q1)
theorem akg{f:Value→Value→Sem Value}{g:Int→Int→Int}
  (rule:∀(i j:Int)(t u:Tok)(s:Shared)(Q:Value→Shared→Prop)(E:Value→Shared→Prop),Q (.int (g i j) s.toks) {s with toks:=s.toks+1}→wpAny (model X.prog X.w) X.A (f (.int i t) (.int j u)) Q E s):
  OpR X f (rI0 fun i j=>.int (g i j)):=by
 intro pins s σ H x y v u Q I rx ry h;obtain⟨i,j,rfl,rfl,q⟩:=h;obtain⟨t,rfl⟩:=rx;obtain⟨t',rfl⟩:=ry;exact rule i j t t' s _ _ ⟨.int (g i j),H,I.tok _,⟨_,rfl⟩,q⟩
theorem ahU{f:Value→Value→Sem Value}{g:Int→Int→Bool}
  (rule:∀(i j:Int)(t u:Tok)(s:Shared)(Q:Value→Shared→Prop)(E:Value→Shared→Prop),Q (.bool (g i j)) s→wpAny (model X.prog X.w) X.A (f (.int i t) (.int j u)) Q E s):
  OpR X f (rI0 fun i j=>.bl (g i j)):=by
 intro pins s σ H x y v u Q I rx ry h;obtain⟨i,j,rfl,rfl,q⟩:=h;obtain⟨t,rfl⟩:=rx;obtain⟨t',rfl⟩:=ry;exact rule i j t t' s _ _ ⟨.bl (g i j),H,I,rfl,q⟩
theorem qT:OpR X (binaryOp .Add) (rI0 fun i j=>.int (i+j)):=akg fun _ _ _ _ _ _ _ q=>add_int q
theorem Qo:OpR X (binaryOp .Sub) (rI0 fun i j=>.int (i - j)):=akg fun _ _ _ _ _ _ _ q=>sub_int q
theorem unI{f:Value→Sem Value}{g:Int→Int}
  (rule:∀(i:Int)(t:Tok)(s:Shared)(Q:Value→Shared→Prop)(E:Value→Shared→Prop),Q (.int (g i) s.toks) {s with toks:=s.toks+1}→wpAny (model X.prog X.w) X.A (f (.int i t)) Q E s):
  UnR X f (rU fun i=>.int (g i)):=by
 intro pins s σ H x v Q I rx h;obtain⟨i,rfl,q⟩:=h;obtain⟨t,rfl⟩:=rx;exact rule i t s _ _ ⟨.int (g i),H,I.tok _,⟨_,rfl⟩,q⟩
theorem jb:UnR X (unaryOp .USub) (rU fun i=>.int (-i)):=unI fun _ _ _ _ _ q=>neg_int q
end
def afM:V→V→Bool
 |.non,.non=>true|.non,.int _=>true|.int _,.non=>true|.non,.bl _=>true|.bl _,.non=>true|.non,.str _=>true|.str _,.non=>true
 |.int _,.int _=>true|.bl _,.bl _=>true|.str _,.str _=>true|.byt _,.byt _=>true
 |.int _,.str _=>true|.str _,.int _=>true|.bl _,.str _=>true|.str _,.bl _=>true
 |_,_=>false
def rEq:R2:=fun x y H Q=>afM x y=true∧Q (.bl (decide (x=y))) H
def rNe:R2:=fun x y H Q=>afM x y=true∧Q (.bl (!decide (x=y))) H
theorem ZR{i j:Int}:decide (V.int i=V.int j)=(i==j):=by
 rw[Bool.eq_iff_iff];simp
theorem adi{i j:Bool}:decide (V.bl i=V.bl j)=(i==j):=by
 rw[Bool.eq_iff_iff];simp
theorem ZS{i j:Str}:decide (V.str i=V.str j)=(i==j):=by
 rw[Bool.eq_iff_iff];simp
theorem ZT{i j:Array UInt8}:decide (V.byt i=V.byt j)=(i.toList==j.toList):=by
 rw[Bool.eq_iff_iff];cases i;cases j;simp
section
variable{X:Cx}{a b c:Expr}{ta tb tc:TE}{pos:Pos}
theorem cv{pins:List (Addr×Obj)}{σ:St}{H:Hp}{s:Shared}{Q:VK}{k k':Bool}(I:Inv X pins σ H s)(q:Q (.bl k) H)(e:k=k'):EP X pins σ Q (.bool k') s:=by
 subst e;exact⟨.bl k,H,I,rfl,q⟩
theorem fb:OpR X (compareOp .Eq) rEq:=by
 intro pins s σ H x y v u Q I rx ry h;obtain⟨hs,q⟩:=h;cases x with
 |non=>
  cases rx;cases y with
  |non=>cases ry;exact PySem.EqNone.eq_none_none (cv I q (by simp))
  |bl j=>cases ry;exact PySem.EqNone.eq_none_bool (cv I q (by simp))
  |int j=>obtain⟨t',rfl⟩:=ry;exact PySem.EqNone.eq_none_int (cv I q (by simp))
  |str j=>obtain⟨t',rfl⟩:=ry;exact PySem.EqNone.eq_none_str (cv I q (by simp))
  |_=>exact absurd (show false=true from hs) Bool.false_ne_true
 |bl i=>
  cases rx;cases y with
  |non=>cases ry;exact PySem.EqNone.eq_bool_none (cv I q (by simp))
  |bl j=>cases ry;exact eq_bool (cv I q adi)
  |str j=>obtain⟨t',rfl⟩:=ry;exact PySem.EqMixed.eq_bool_str (cv I q (by simp))
  |_=>exact absurd (show false=true from hs) Bool.false_ne_true
 |int i=>
  obtain⟨t,rfl⟩:=rx;cases y with
  |non=>cases ry;exact PySem.EqNone.eq_int_none (cv I q (by simp))
  |int j=>obtain⟨t',rfl⟩:=ry;exact eq_int (cv I q ZR)
  |str j=>obtain⟨t',rfl⟩:=ry;exact PySem.EqMixed.eq_int_str (cv I q (by simp))
  |_=>exact absurd (show false=true from hs) Bool.false_ne_true
 |str i=>
  obtain⟨t,rfl⟩:=rx;cases y with
  |non=>cases ry;exact PySem.EqNone.eq_str_none (cv I q (by simp))
  |bl j=>cases ry;exact PySem.EqMixed.eq_str_bool (cv I q (by simp))
  |int j=>obtain⟨t',rfl⟩:=ry;exact PySem.EqMixed.eq_str_int (cv I q (by simp))
  |str j=>obtain⟨t',rfl⟩:=ry;exact eq_str (cv I q ZS)
  |_=>exact absurd (show false=true from hs) Bool.false_ne_true
 |byt i=>
  obtain⟨t,rfl⟩:=rx;cases y with
  |byt j=>obtain⟨t',rfl⟩:=ry;exact PySem.W.eq_bytes (cv I q ZT)
  |_=>exact absurd (show false=true from hs) Bool.false_ne_true
 |_=>cases y<;>exact absurd (show false=true from hs) Bool.false_ne_true
theorem sN:OpR X (compareOp .NotEq) rNe:=by
 intro pins s σ H x y v u Q I rx ry h;obtain⟨hs,q⟩:=h;cases x with
 |non=>
  cases rx;cases y with
  |non=>cases ry;exact PySem.EqNone.ne_none_none (cv I q (by simp))
  |bl j=>cases ry;exact PySem.EqNone.ne_none_bool (cv I q (by simp))
  |int j=>obtain⟨t',rfl⟩:=ry;exact PySem.EqNone.ne_none_int (cv I q (by simp))
  |str j=>obtain⟨t',rfl⟩:=ry;exact PySem.EqNone.ne_none_str (cv I q (by simp))
  |_=>exact absurd (show false=true from hs) Bool.false_ne_true
 |bl i=>
  cases rx;cases y with
  |non=>cases ry;exact PySem.EqNone.ne_bool_none (cv I q (by simp))
  |bl j=>cases ry;exact ne_bool (cv I q (congrArg not adi))
  |str j=>obtain⟨t',rfl⟩:=ry;exact PySem.EqMixed.ne_bool_str (cv I q (by simp))
  |_=>exact absurd (show false=true from hs) Bool.false_ne_true
 |int i=>
  obtain⟨t,rfl⟩:=rx;cases y with
  |non=>cases ry;exact PySem.EqNone.ne_int_none (cv I q (by simp))
  |int j=>obtain⟨t',rfl⟩:=ry;exact ne_int (cv I q (congrArg not ZR))
  |str j=>obtain⟨t',rfl⟩:=ry;exact PySem.EqMixed.ne_int_str (cv I q (by simp))
  |_=>exact absurd (show false=true from hs) Bool.false_ne_true
 |str i=>
  obtain⟨t,rfl⟩:=rx;cases y with
  |non=>cases ry;exact PySem.EqNone.ne_str_none (cv I q (by simp))
  |bl j=>cases ry;exact PySem.EqMixed.ne_str_bool (cv I q (by simp))
  |int j=>obtain⟨t',rfl⟩:=ry;exact PySem.EqMixed.ne_str_int (cv I q (by simp))
  |str j=>obtain⟨t',rfl⟩:=ry;exact ne_str (cv I q (congrArg not ZS))
  |_=>exact absurd (show false=true from hs) Bool.false_ne_true
 |byt i=>
  obtain⟨t,rfl⟩:=rx;cases y with
  |byt j=>obtain⟨t',rfl⟩:=ry;exact PySem.W.ne_bytes (cv I q (congrArg not ZT))
  |_=>exact absurd (show false=true from hs) Bool.false_ne_true
 |_=>cases y<;>exact absurd (show false=true from hs) Bool.false_ne_true
theorem adj:OpR X (compareOp .Lt) (rI0 fun i j=>.bl (decide (i<j))):=ahU fun _ _ _ _ _ _ _ q=>lt_int q
theorem ahb:OpR X (compareOp .LtE) (rI0 fun i j=>.bl (decide (i≤j))):=ahU fun _ _ _ _ _ _ _ q=>le_int q
theorem ZU:OpR X (compareOp .Gt) (rI0 fun i j=>.bl (decide (j<i))):=ahU fun _ _ _ _ _ _ _ q=>gt_int q
theorem a0(b:Expr){op:CmpOp}(h:op≠.In:=by decide)(h2:op≠.NotIn:=by decide):behindInMarks op b=false:=by
 have e1:(op==CmpOp.In)=false:=by cases op<;>first|rfl|exact absurd rfl h
 have e2:(op==CmpOp.NotIn)=false:=by cases op<;>first|rfl|exact absurd rfl h2
 cases b<;>simp[behindInMarks,e1,e2]
theorem dJ{op:CmpOp}{r:R2}(ho:OpR X (compareOp op) r)(ha:PE X a ta)(hb:PE X b tb)(hm:behindInMarks op b=false):PE X (.Compare a [op] [b] pos) (tOp r ta tb):=by
 intro pins s σ H Q I h;exact wpAny_Compare1 (ahT ha hb I h fun v u s2 x y H2 I2 rx ry q=>ho pins s2 σ H2 x y v u Q I2 rx ry q) hm
def Fm(t:TE):TT:=fun σ H Q=>t σ H fun x H'=>∃k,x=.bl k∧Q k H'
theorem bh{op:CmpOp}{r:R2}(ho:OpR X (compareOp op) r)(ha:PE X a ta)(hb:PE X b tb)(hm:behindInMarks op b=false):PT X (.Compare a [op] [b] pos) (Fm (tOp r ta tb)):=by
 intro pins s σ H Q I h;refine wpAny_isTrue_Compare1 (thn (ha pins s σ H _ I h) fun v s1 ⟨x,H1,I1,r1,q1⟩=>thn (hb pins s1 σ H1 _ I1 q1) fun u s2 ⟨y,H2,I2,r2,q2⟩=>
  thn (ho pins s2 σ H2 x y v u _ I2 r1 r2 q2) fun c s3 ⟨z,H3,I3,r3,k,e,q3⟩=>?_) hm
 subst e;cases r3;exact wpAny_truthy_bool ⟨H3,I3,q3⟩
def ahV(K:PySem.W.Frag)(x:V)(H:Hp)(k:Bool):Prop:=
 match x with
 |.non=>k=false
 |.bl b=>k=b
 |.int i=>k=(i !=0)
 |.str y=>y.length≤sizeLine∧k=((y.length:Int) !=0)
 |.byt y=>y.size≤sizeLine∧k=((y.size:Int) !=0)
 |.ref p=>(∃xs,SqL K H p xs∧k=!xs.isEmpty)∨(∃xs,SqT K H p xs∧k=!xs.isEmpty)∨∃kvs,H p=some (.dK kvs)∧k=!kvs.isEmpty
 |_=>False
theorem X7{κ:Type}{kvs:List (κ×V)}{vs:List (κ×Value)}(r:KV kvs vs):(!vs.isEmpty)=!kvs.isEmpty:=by
 cases r<;>rfl
theorem Ji{xs:List V}{its:List Value}(r:Vals xs its):(!its.toArray.isEmpty)=!xs.isEmpty:=by
 cases r<;>simp
theorem Qp:(sizeLine:Nat)<2 ^ 63:=by rw[sizeLine_eq];decide
theorem ahW:amJ X (fun x H Q=>∃k,ahV X.K x H k∧Q k H):=by
 intro pins s σ H x v Q I rx h;obtain⟨k,e,q⟩:=h;have hl:=Qp;have hs:sizeLine=16777216:=sizeLine_eq;cases x with
 |non=>
  cases rx;have e':k=false:=e;subst e';exact truthy_none ⟨H,I,q⟩
 |bl b=>
  cases rx;have e':k=b:=e;subst e';exact wpAny_truthy_bool ⟨H,I,q⟩
 |int i=>
  obtain⟨t,rfl⟩:=rx;have e':k=(i !=0):=e;subst e';exact PySem.P.truthy_int ⟨H,I,q⟩
 |str y=>
  obtain⟨t,rfl⟩:=rx;obtain⟨hy,e'⟩:y.length≤sizeLine∧k=((y.length:Int) !=0):=e;subst e';exact PySem.P.truthy_str (by omega) ⟨H,I.tok _,q⟩
 |byt y=>
  obtain⟨t,rfl⟩:=rx;obtain⟨hy,e'⟩:y.size≤sizeLine∧k=((y.size:Int) !=0):=e;subst e';exact PySem.W.truthy_bytes (by omega) ⟨H,I.tok _,q⟩
 |ref p=>
  cases rx;have e':(∃xs,SqL X.K H p xs∧k=!xs.isEmpty)∨(∃xs,SqT X.K H p xs∧k=!xs.isEmpty)∨∃kvs,H p=some (.dK kvs)∧k=!kvs.isEmpty:=e;rcases e' with⟨xs,hx,e'⟩|⟨xs,hx,e'⟩|⟨kvs,hx,e'⟩
  ·subst e';obtain⟨its,r,pl,hz⟩:=I.list hx;have hlen:=r.length;exact wpAny_truthy_list pl.isList (by simp only[List.size_toArray];omega) ⟨H,I.tok _,by rw[Ji r];exact q⟩
  ·subst e';obtain⟨its,r,pl,hz⟩:=I.tuple hx;have hlen:=r.length;exact truthy_tuple pl (by simp only[List.size_toArray];omega) ⟨H,I.tok _,by rw[Ji r];exact q⟩
  ·subst e';obtain⟨hz,hS,vs,r,m⟩:kvs.length≤sizeLine∧(p==sysModules)=false∧∃vs,KV kvs vs∧s.heap.DictOf (aO X.prog X.w) p vs:=I.hok p _ hx;have hlen:kvs.length=vs.length:=Paired.length r;exact wpAny_truthy_dict hS m (by omega) ⟨H,I.tok _,by rw[X7 r];exact q⟩
 |_=>exact(show False from e).elim
theorem adk(ha:PE X a ta)(he:∀whole,isTrue a X.env whole=(do let v←whole;standAt a.pos;holding [v] (truthy v))):
  PT X a (fun σ H Q=>ta σ H fun x H'=>∃k,ahV X.K x H' k∧Q k H'):=by
 intro pins s σ H Q I h;exact isTrue_plain (thn (ha pins s σ H _ I h) fun v s1 ⟨x,H1,I1,r1,q1⟩=>ahW pins s1 σ H1 x v Q I1 r1 q1) (he _)
theorem vals1{x:V}{us:List Value}(r:Vals [x] us):∃u,us=[u]∧RelV x u:=by
 cases r with
 |cons r1 r2=>cases r2;exact⟨_,rfl,r1⟩
theorem vals2{x y:V}{us:List Value}(r:Vals [x,y] us):∃u w',us=[u,w']∧RelV x u∧RelV y w':=by
 cases r with
 |cons r1 r2=>
  cases r2 with
  |cons r3 r4=>cases r4;exact⟨_,_,rfl,r1,r3⟩
theorem aaZ(hc:X.calm=true):iN X (.builtin "max") (fun xs H Q=>∃i j,xs=[.int i,.int j]∧Q (.int (if j>i then j else i)) H):=by
 intro pins s σ H xs us Q I r h;obtain⟨i,j,rfl,q⟩:=h;obtain⟨u,w',rfl,⟨t,rfl⟩,⟨t',rfl⟩⟩:=vals2 r;refine max_two_ints (I.ok.hd hc) fun h' tk k=>⟨_,H,I.kept k,?_,q⟩
 by_cases hj:j>i
 ·rw[if_pos hj,if_pos hj];exact⟨_,rfl⟩
 ·rw[if_neg hj,if_neg hj];exact⟨_,rfl⟩
theorem aa0(hc:X.calm=true):iN X (.builtin "min") (fun xs H Q=>∃i j,xs=[.int i,.int j]∧Q (.int (if j<i then j else i)) H):=by
 intro pins s σ H xs us Q I r h;obtain⟨i,j,rfl,q⟩:=h;obtain⟨u,w',rfl,⟨t,rfl⟩,⟨t',rfl⟩⟩:=vals2 r;refine min_two_ints (I.ok.hd hc) fun h' tk k=>⟨_,H,I.kept k,?_,q⟩
 by_cases hj:j<i
 ·rw[if_pos hj,if_pos hj];exact⟨_,rfl⟩
 ·rw[if_neg hj,if_neg hj];exact⟨_,rfl⟩
end
end L2
namespace L2
open PySem PySem.Spec PyProof.Rows
structure X8(h:Heap)(x dx C:Addr)(mA:Str→Option Value):Prop where
 obj:h.get? x=some (PySem.W.instObj C dx)
 ns:h.Ns1 dx mA
 ne:dx≠x
theorem aa1{h:Heap}{dx:Addr}{mA:Str→Option Value}(n:h.Ns1 dx mA):∃od,h.get? dx=some od∧∀name,PySem.W.lookIn name od=some (mA name):=by
 obtain⟨o,es,ep,ho,hd,hk,_,hm⟩:=n;refine⟨o,ho,fun name=>?_⟩;have e:=hm name;unfold nsFind findBy at e;rw[←Array.find?_toList] at e;unfold PySem.W.lookIn;rw[hd];dsimp only;split
 ·rename_i y q;rw[q] at e;exact congrArg some e
 ·rename_i q;rw[q] at e;have a:es.toList.any (·.refKey)=false:=by
   rw[List.any_eq_false];intro y hy;obtain⟨z,t,hkey⟩:=hk y (Array.mem_toList_iff.mp hy);simp[DictEntry.refKey,hkey]
  have a':¬es.toList.any (·.refKey)=true:=by rw[a];exact Bool.false_ne_true
  rw[if_neg a'];exact congrArg some e
theorem X8.look{h:Heap}{x dx C:Addr}{mA:Str→Option Value}(I:X8 h x dx C mA):∃od,PySem.W.InstAt h x (PySem.W.instObj C dx) C (some od)∧∀name,PySem.W.lookIn name od=some (mA name):=
 let ⟨od,ho,hl⟩:=aa1 I.ns
 ⟨od,⟨I.obj,rfl,rfl,ho⟩,hl⟩
section
variable{prog:Program}{w:World}{A:Around}{E:Value→Shared→Prop}{s:Shared}{K:PySem.W.Frag}{x dx C f:Addr}{mA:Str→Option Value}{name:Str}{v:Value}
theorem get_map{expr:Bool}{Q:Value→Shared→Prop}(X:K.In s.heap)(I:X8 s.heap x dx C mA)(hg:PySem.W.plainGet K C name=true)(hh:PySem.W.hasDictIn K C=true)
  (ha:PySem.W.findIn K (.ref C) name=some none) (hv:mA name=some v) (hv':PySem.W.handedIn v=true) (h:Q v {s with toks:=s.toks+1}):
  wpAny (model prog w) A (getAttr (.ref x) name expr) Q E s:=by
 obtain⟨od,J,hl⟩:=I.look;exact PySem.W.get_value X J (PySem.W.plainGet_of hg).1 (PySem.W.findObj_own hh ha rfl (by rw[hl,hv])) hv' h
theorem adl{pl:Sem Bool}{Q:Value×List Value→Shared→Prop}(X:K.In s.heap)(I:X8 s.heap x dx C mA)(hg:PySem.W.plainGet K C name=true)
  (hf:PySem.W.findIn K (.ref C) name=some (some (.ref f))) (ht:PySem.W.isFn K (.ref f)=true) (hv:mA name=none) (h:Q (.ref f,[.ref x]) s):
  wpAny (model prog w) A (getMethod (.ref x) name pl) Q E s:=by
 obtain⟨od,J,hl⟩:=I.look;exact PySem.W.method_fn X J (PySem.W.plainGet_of hg).1 (PySem.W.plainGet_of hg).2 hf (beq_iff_eq.mp ht) (by show (PySem.W.lookIn name od).map (·.isSome)=some false;rw[hl,hv];rfl) h
theorem afN{ns:List Str}{Q:Unit→Shared→Prop}(X:K.In s.heap)(I:X8 s.heap x dx C mA)
  (hs:PySem.W.findIn K (.ref C) "__setattr__"=some (some (.builtin "object.__setattr__"))) (hp:PySem.W.plainOver K C=true) (ht:PySem.W.takerIn K C name=some none) (hh:PySem.W.hasDictIn K C=true)
  (hw:PySem.Within mA ns) (hsz:ns.length≤sizeLine)
  (h:∀h',X8 h' x dx C (fun y=>if y=name then some v else mA y)→Heap.SameBut dx s.heap h'→Q () {s with heap:=h',toks:=s.toks+2}):
  wpAny (model prog w) A (setAttr (.ref x) name v) Q E s:=by
 obtain⟨od,J,hl⟩:=I.look;refine PySem.W.set_plain X J hs (PySem.W.osa_open (s:={s with toks:=s.toks+1}) (r:=none) X J hp ht fun b=>?_);obtain⟨cd,hc,hd'⟩:=PySem.W.any_some hh;have hx:s.heap.get? x=some ⟨.ref C,some dx,.plain, #[]⟩:=I.obj;refine wpAny_bind (wpAny_pure (wpAny_bind (wpAny_bind (wpAny_loadPart hx (wpAny_bind (PySem.W.Looks.here (s:={s with toks:=s.toks+1}) (PySem.W.looks_clsIn X hc) ?_))))));rw[hd'];refine wpAny_pure (a:=some dx) (wpAny_bind (wpAny_pure (wpAny_bind ?_)));refine wpAny_nsSet1 (s:={s with toks:=s.toks+1}) I.ns fun h' hn2 hs2=>?_;obtain⟨oD,esD,epD,hoD,hdD,hcD⟩:=hn2.count (PySem.Within.cons name v hw);refine wpAny_bind (wpAny_lookBehind hoD (by rw[hdD];exact pastItsLine_dict (Nat.le_trans hcD (by rw[List.length_cons];omega))) ?_);exact wpAny_pure (h _ ⟨(hs2.2 _ (Ne.symm I.ne)).trans I.obj,hn2,I.ne⟩ hs2)
theorem adm{R:Result→Shared→Prop}{vs:List Value}{kw:List (Str×Value)}(X:K.In s.heap)(hm:PySem.W.makesIn K C=true)
  (hi:PySem.W.findIn K (.ref C) "__init__"=some (some (.ref f))) (hf:PySem.W.typeIn K (.ref f)=some (.type "function"))
  (h:codeAny (model prog w) (A.under (.builtin "type.__call__" ⟨.ref C::vs,kw⟩)) (.call (.ref f) ⟨.ref (s.heap.objs.size+1)::vs,kw⟩) (PySem.W.InitBack (s.heap.objs.size+1) R)
   {s with heap:=(s.heap.push PySem.W.emptyDict).push (PySem.W.instObj C s.heap.objs.size)}):
  codeAny (model prog w) A (.call (.ref C) ⟨vs,kw⟩) R s:=by
 obtain⟨hh,g,d,t,os⟩:=s;exact PySem.W.make_core (PySem.W.makes_of X hm) (PySem.W.looks_findIn X hi) (fun self=>PySem.W.bind_fn X self hf) (.inl rfl) h
end
def bx(f:Str)(v:V):List (Str×V)→List (Str×V)
 |[]=>[(f,v)]
 |(g,x)::r=>if g=f then(g,v)::r else(g,x)::bx f v r
theorem Fo(f g:Str)(v:V):∀fs:List (Str×V),(bx f v fs).lookup g=if g=f then some v else fs.lookup g
 |[]=>by
  show List.lookup g [(f,v)]=_;by_cases h:g=f
  ·have hb:(g==f)=true:=beq_iff_eq.mpr h;simp only[List.lookup,hb,if_pos h]
  ·have hb:(g==f)=false:=beq_eq_false_iff_ne.mpr h;simp only[List.lookup,hb,if_neg h]
 |(k,x)::r=>by
  have ih:=Fo f g v r;rw[show bx f v ((k,x)::r)=(if k=f then(k,v)::r else(k,x)::bx f v r) from rfl];by_cases hk:k=f
  ·rw[if_pos hk];by_cases h:g=k
   ·have hb:(g==k)=true:=beq_iff_eq.mpr h;simp only[List.lookup,hb,if_pos (h.trans hk)]
   ·have hb:(g==k)=false:=beq_eq_false_iff_ne.mpr h;simp only[List.lookup,hb,if_neg (fun e:g=f=>h (e.trans hk.symm))]
  ·rw[if_neg hk];by_cases h:g=k
   ·have hb:(g==k)=true:=beq_iff_eq.mpr h;simp only[List.lookup,hb,if_neg (fun e:g=f=>hk (h.symm.trans e))]
   ·have hb:(g==k)=false:=beq_eq_false_iff_ne.mpr h;simp only[List.lookup,hb];exact ih
theorem DI(f:Str)(v:V):∀fs:List (Str×V),f∈(bx f v fs).map (·.1)∧∀g,g∈fs.map (·.1)→g∈(bx f v fs).map (·.1)
 |[]=>⟨by simp[bx],fun g h=>by simp at h⟩
 |(k,x)::r=>by
  obtain⟨i1,i2⟩:=DI f v r;rw[show bx f v ((k,x)::r)=(if k=f then(k,v)::r else(k,x)::bx f v r) from rfl];by_cases hk:k=f
  ·rw[if_pos hk];subst hk;exact⟨by simp,fun g h=>by simpa using h⟩
  ·rw[if_neg hk];refine⟨?_,fun g h=>?_⟩
   ·rw[List.map_cons];exact List.mem_cons_of_mem _ i1
   ·rw[List.map_cons] at h⊢;rcases List.mem_cons.mp h with e|e
    ·exact List.mem_cons.mpr (.inl e)
    ·exact List.mem_cons_of_mem _ (i2 g e)
theorem uG(f:Str)(v:V):∀fs:List (Str×V),(bx f v fs).length≤fs.length+1
 |[]=>by simp[bx]
 |(k,x)::r=>by
  have ih:=uG f v r;rw[show bx f v ((k,x)::r)=(if k=f then(k,v)::r else(k,x)::bx f v r) from rfl];by_cases hk:k=f
  ·rw[if_pos hk,List.length_cons,List.length_cons];omega
  ·rw[if_neg hk,List.length_cons,List.length_cons];omega
theorem oZ.some_of{v:V}{o:Option Value}(r:oZ (some v) o):∃u,o=some u∧RelV v u:=by
 cases o with
 |none=>exact(show False from r).elim
 |some u=>exact⟨u,rfl,r⟩
theorem oZ.none_of{o:Option Value}(r:oZ none o):o=none:=by
 cases o with
 |none=>rfl
 |some u=>exact(show False from r).elim
theorem aa2{v:V}{u:Value}(r:RelV v u):PySem.W.handedIn u=true:=by
 cases v with
 |non=>cases (show u=Value.none from r);rfl
 |bl b=>cases (show u=Value.bool b from r);rfl
 |int i=>obtain⟨t,e⟩:=(show∃t,u=Value.int i t from r);cases e;rfl
 |str x=>obtain⟨t,e⟩:=(show∃t,u=Value.str x t from r);cases e;rfl
 |byt b=>obtain⟨t,e⟩:=(show∃t,u=Value.bytes b t from r);cases e;rfl
 |flt b=>obtain⟨t,e⟩:=(show∃t,u=Value.float b t from r);cases e;rfl
 |ref a=>cases (show u=Value.ref a from r);rfl
 |ty n=>cases (show u=Value.type n from r);rfl
section
variable{P:Program}{w:World}{H H':Hp}{h h':Heap}{a C dx:Addr}{fs fs':List (Str×V)}
theorem Qq(hok:HOk P w H h)(e:H a=some (.ins C dx fs)):∃mA,X8 h a dx C mA∧(∀f,oZ (fs.lookup f) (mA f))∧PySem.Within mA (fs.map (·.1))∧fs.length≤1000∧H dx=some (.own a):=by
 obtain⟨d,z,ne,ob,mA,n,r,q⟩:=(show cO P w H h a (.ins C dx fs) from hok a _ e)
 exact⟨mA,⟨ob,n,ne⟩,r,q,z,d⟩
end
structure Cls(K:PySem.W.Frag)(C:Addr):Prop where
 pg:PySem.W.plainGet K C Str.empty=true
 hd:PySem.W.hasDictIn K C=true
 po:PySem.W.plainOver K C=true
 sa:PySem.W.findIn K (.ref C) "__setattr__"=some (some (.builtin "object.__setattr__"))
theorem Cls.get{K:PySem.W.Frag}{C:Addr}(c:Cls K C)(f:Str):PySem.W.plainGet K C f=true:=c.pg
def dC(K:PySem.W.Frag)(C:Addr)(f:Str):Prop:=PySem.W.findIn K (.ref C) f=some none
theorem dC.taker{K:PySem.W.Frag}{C:Addr}{f:Str}(n:dC K C f):PySem.W.takerIn K C f=some none:=by
 unfold PySem.W.takerIn;rw[show PySem.W.findIn K (.ref C) f=some none from n];rfl
structure Meth(K:PySem.W.Frag)(C:Addr)(m:Str)(f:Addr):Prop where
 at_:PySem.W.findIn K (.ref C) m=some (some (.ref f))
 fn:PySem.W.isFn K (.ref f)=true
 kp:PySem.W.keepIn K (.ref f)=true
section
variable{X:Cx}{pins:List (Addr×Obj)}{σ:St}{H:Hp}{s:Shared}{a C dx:Addr}{fs:List (Str×V)}{f:Str}{v:V}{A:Around}{E:Value→Shared→Prop}
theorem X9{b:Bool}{Q:Value→Shared→Prop}(I:Inv X pins σ H s)(e:H a=some (.ins C dx fs))(c:Cls X.K C)(n:dC X.K C f)(l:fs.lookup f=some v)
  (h:∀u s',Inv X pins σ H s'→RelV v u→Q u s'):wpAny (model X.prog X.w) A (getAttr (.ref a) f b) Q E s:=by
 obtain⟨mA,O,r,_,_,_⟩:=Qq I.hok e;obtain⟨u,hu,ru⟩:=oZ.some_of (v:=v) (o:=mA f) (by rw[←l];exact r f);exact get_map I.kIn O (c.get f) c.hd n hu (aa2 ru) (h u _ (I.tok _) ru)
theorem zh{m:Str}{g:Addr}{pl:Sem Bool}{Q:Value×List Value→Shared→Prop}(I:Inv X pins σ H s)(e:H a=some (.ins C dx fs))(c:Cls X.K C)(k:Meth X.K C m g)(l:fs.lookup m=none)
  (h:Q (.ref g,[.ref a]) s):wpAny (model X.prog X.w) A (getMethod (.ref a) m pl) Q E s:=by
 obtain⟨mA,O,r,_,_,_⟩:=Qq I.hok e;have hn:mA m=none:=oZ.none_of (by rw[←l];exact r m);exact adl I.kIn O (c.get m) k.at_ k.fn hn h
theorem Ya{y:V}{u:Value}{Q:Unit→Shared→Prop}(I:Inv X pins σ H s)(e:H a=some (.ins C dx fs))(c:Cls X.K C)(n:dC X.K C f)(hl:fs.length<1000)(ry:RelV y u)
  (h:∀s',Inv X pins σ (upd H a (.ins C dx (bx f y fs))) s'→Q () s'):wpAny (model X.prog X.w) A (setAttr (.ref a) f u) Q E s:=by
 obtain⟨mA,O,r,wi,_,ho⟩:=Qq I.hok e;have hz:(fs.map (·.1)).length≤sizeLine:=by rw[List.length_map,sizeLine_eq];omega
 refine afN I.kIn O c.sa c.po n.taker c.hd wi hz fun h' O' sb=>h _ ?_;have hd:∃o,h'.get? dx=some o:=let ⟨o,_,_,e',_⟩:=O'.ns;⟨o,e'⟩
 refine I.write (x:=a) (e:=dx) (by rw[e];exact True.intro) (.inr ho) (fun b q hb z=>(sb.2 b hb).trans z) hd ?_;refine⟨by rw[ab O.ne];exact ho,?_,O.ne,O'.obj,_,O'.ns,fun g=>?_,fun g hg=>?_⟩
 ·have:=uG f y fs;omega
 ·show oZ ((bx f y fs).lookup g) (if g=f then some u else mA g);rw[Fo];by_cases q:g=f
  ·rw[if_pos q,if_pos q];exact ry
  ·rw[if_neg q,if_neg q];exact r g
 ·by_cases q:g=f
  ·rw[q];exact(DI f y fs).1
  ·refine(DI f y fs).2 g (wi g fun z=>hg ?_);show (if g=f then some u else mA g)=none;rw[if_neg q];exact z
theorem Inv.made(I:Inv X pins σ H s):Inv X pins σ (upd (upd H s.heap.objs.size (.own (s.heap.objs.size+1))) (s.heap.objs.size+1) (.ins C s.heap.objs.size []))
  {s with heap:=(s.heap.push PySem.W.emptyDict).push (PySem.W.instObj C s.heap.objs.size)}:=by
 have e1:(s.heap.push PySem.W.emptyDict).get? s.heap.objs.size=some PySem.W.emptyDict:=Heap.get?_push_size s.heap rfl;have e2:((s.heap.push PySem.W.emptyDict).push (PySem.W.instObj C s.heap.objs.size)).get? (s.heap.objs.size+1)=some (PySem.W.instObj C s.heap.objs.size):=by
  have:=Heap.get?_push_size (s.heap.push PySem.W.emptyDict) (o:=PySem.W.instObj C s.heap.objs.size) rfl
  rwa [Heap.size_push] at this
 have e3:(s.heap.push PySem.W.emptyDict).Ns s.heap.objs.size (fun _=>none):=⟨PySem.W.emptyDict, #[],_,e1,rfl,(fun e he=>absurd he (by simp)),fun _=>rfl⟩
 have I1:=I.laid (a:=s.heap.objs.size) (o:=.own (s.heap.objs.size+1)) (h':=s.heap.push PySem.W.emptyDict) (t':=s.toks) (fun b u q=>Heap.get?_push_of_some _ q) (Nat.le_refl _) ⟨_,e1⟩;refine I1.laid (a:=s.heap.objs.size+1) (o:=.ins C s.heap.objs.size []) (t':=s.toks) (fun b u q=>Heap.get?_push_of_some _ q) (Nat.le_of_eq (Heap.size_push _ _)) ?_;have ne:s.heap.objs.size≠s.heap.objs.size+1:=Nat.ne_of_lt (Nat.lt_succ_self _);refine⟨by rw[ab ne,ae],Nat.zero_le _,ne,e2,fun _=>none,(Heap.Ns1.of_empty e3).at fun o q=>Heap.get?_push_of_some _ q,fun _=>True.intro,fun y hy=>absurd rfl hy⟩
theorem afO{prog:Program}{w:World}{env:Env}{e:Expr}{f:Str}{pos:Pos}{s:Shared}{Q:Value→Shared→Prop}(hb:attributeBase e f env (eval e env)=eval e env)
  (h:wpAny (model prog w) A (eval e env) (fun o s₁=>wpAny (model prog w) A (getAttr o f true) Q E s₁) E s):wpAny (model prog w) A (eval (.Attribute e f pos) env) Q E s:=
 Attribute_any_ h (by rw[arm_eval_Attribute,hb])
end
def aa3(K:PySem.W.Frag)(ta:TE)(f:Str):TE:=fun σ H Q=>ta σ H fun x H1=>∃a C dx fs v,x=.ref a∧H1 a=some (.ins C dx fs)∧Cls K C∧dC K C f∧fs.lookup f=some v∧Q v H1
def amK(K:PySem.W.Frag)(ta tv:TE)(f:Str):TS:=fun D σ H=>tv σ H fun y H1=>ta σ H1 fun x H2=>∃a C dx fs,x=.ref a∧H2 a=some (.ins C dx fs)∧Cls K C∧dC K C f∧fs.length<1000∧
 D.nx σ (upd H2 a (.ins C dx (bx f y fs)))
section
variable{X:Cx}{o e value:Expr}{f:Str}{pos pos' tpos:Pos}{ta tv:TE}
theorem ay(he:PE X e ta)(hb:attributeBase e f X.env (eval e X.env)=eval e X.env):PE X (.Attribute e f pos) (aa3 X.K ta f):=by
 intro pins s σ H Q I h;refine afO hb (thn (he pins s σ H _ I h) fun u s1 ⟨x,H1,I1,rx,a,C,dx,fs,v,ex,ea,c,n,l,q⟩=>?_);subst ex;obtain rfl:u=Value.ref a:=rx;exact X9 I1 ea c n l fun u' s2 I2 ru=>⟨v,H1,I2,ru,q⟩
theorem fq(ha:PE X o ta)(hv:PE X value tv)(hs:swapsWith value (some (.Attribute o f pos')) pos.line X.env=pure false):PS X (.Assign [.Attribute o f pos'] value pos) (amK X.K ta tv f):=by
 intro pins s σ H D I h;refine plainObj_wpAny_Assign_Attribute (thn (hv pins s σ H _ I h) fun u s1 ⟨y,H1,I1,ry,q⟩=>thn (ha pins s1 σ H1 _ I1 q) fun ov s2 ⟨x,H2,I2,rx,a,C,dx,fs,ex,ea,c,n,l,q2⟩=>?_) hs;subst ex;obtain rfl:ov=Value.ref a:=rx;exact Ya I2 ea c n l ry fun s3 I3=>⟨σ,_,I3,q2⟩
theorem ahc{pl:Sem Bool}{m:Str}{apos:Pos}{args:List Expr}{pins:List (Addr×Obj)}{s:Shared}{σ:St}{H:Hp}{Q:Value→Shared→Prop}{te:TE}(he:PE X e te)(I:Inv X pins σ H s)
  (h:te σ H fun x H1=>∃a C dx fs g,x=.ref a∧H1 a=some (.ins C dx fs)∧Cls X.K C∧Meth X.K C m g∧fs.lookup m=none∧
   ∀s1,Inv X pins σ H1 s1→wpAny (model X.prog X.w) X.A (callWith pos (.ref g) [.ref a] (backTo pos (starEach args X.env)) (backToKw pos (keywordEach [] X.env))) Q X.xe s1)
  (ht:eval (.Call (.Attribute e m apos) args [] pos) X.env=(do
   let ov←eval e X.env
   standAt apos.atName
   let (f,first)←holding [ov] (getMethod ov m pl)
   callWith pos f first (backTo pos (starEach args X.env)) (backToKw pos (keywordEach [] X.env)))):
  wpAny (model X.prog X.w) X.A (eval (.Call (.Attribute e m apos) args [] pos) X.env) Q X.xe s:=by
 refine PySem.W.methodCall_KW (pl:=pl) (thn (he pins s σ H _ I h) fun u s1 ⟨x,H1,I1,rx,a,C,dx,fs,g,ex,ea,c,k,l,q⟩=>?_) ht;subst ex;obtain rfl:u=Value.ref a:=rx;exact zh I1 ea c k l (q s1 I1)
end
end L2
namespace L2
open PySem PySem.Spec PyProof.Rows
structure jc(k:Nat)(A:Around):Prop where
 hd:A.handled=none
 dp:A.depth+3*k+5<recursionLimit
 un:A.units+16*k+200<cLine
theorem jc.mono{j k:Nat}{A:Around}(r:jc k A)(h:j≤k):jc j A:=⟨r.hd,by have:=r.dp;omega,by have:=r.un;omega⟩
theorem jc.deeper{k:Nat}{A:Around}(r:jc (k+1) A)(env:Env):jc k (A.deeper env):=
 ⟨r.hd,by have:=r.dp;show A.depth+1+3*k+5<_;omega,by have:=r.un;show A.units+3+16*k+200<_;omega⟩
theorem Yb{A:Around}{C:Addr}{us:List Value}{kw:List (Str×Value)}:(A.under (.builtin "type.__call__" ⟨.ref C::us,kw⟩)).depth=A.depth+1:=by
 first|rfl|simp[Around.under,Code.weight,Code.isCreation,Code.isGuard,Code.isCaller,Code.frames,Code.isFrame,guardIds]
theorem Yc{A:Around}{C:Addr}{us:List Value}{kw:List (Str×Value)}:(A.under (.builtin "type.__call__" ⟨.ref C::us,kw⟩)).units=A.units+1:=by
 first|rfl|simp[Around.under,Code.cUnits,Code.frames,Code.isFrame]
theorem jc.make{k:Nat}{A:Around}(r:jc (k+1) A)(C:Addr)(us:List Value)(kw:List (Str×Value)):jc k (A.under (.builtin "type.__call__" ⟨.ref C::us,kw⟩)):=
 ⟨r.hd,by have:=r.dp;rw[Yb];omega,by have:=r.un;rw[Yc];omega⟩
theorem jc.depth{k:Nat}{A:Around}(r:jc k A):A.depth<recursionLimit:=by have:=r.dp;omega
theorem jc.units{k:Nat}{A:Around}(r:jc k A):A.units+64<cLine:=by have:=r.un;omega
def Hh:TA:=fun _ H Q=>Q [] H
def uH(ta:TE)(tr:TA):TA:=fun σ H Q=>ta σ H fun x H1=>tr σ H1 fun xs H2=>Q (x::xs) H2
section
variable{X:Cx}{e:Expr}{es:List Expr}{te:TE}{t:TA}{pos:Pos}
theorem ah:PA X [] Hh:=fun _ _ _ _ H Q I h=>Calls.spliced_nil ⟨[],H,I,.nil,h⟩
theorem aa(ha:PE X e te)(hr:PA X es t)(hs:starEach (e::es) X.env=(false,eval e X.env)::starEach es X.env:=by rfl):PA X (e::es) (uH te t):=by
 intro pos pins s σ H Q I h;rw[hs];show wpAny _ _ (spliced ((false,eval e X.env)::backTo pos (starEach es X.env))) _ _ s;refine Calls.spliced_cons (thn (ha pins s σ H _ I h) fun u s1 ⟨x,H1,I1,r1,q1⟩=>?_);exact thn (hr pos pins s1 σ H1 _ I1 q1) fun us s2 ⟨xs,H2,I2,r2,q2⟩=>⟨x::xs,H2,I2,.cons r1 r2,q2⟩
def akh(t:TA):TE:=fun σ H Q=>t σ H fun xs H1=>xs.length≤sizeLine∧∀p,H1 p=none→Q (.ref p) (upd H1 p (.tup xs))
def ahX(t:TA):TE:=fun σ H Q=>t σ H fun xs H1=>xs.length≤sizeLine∧∀p,H1 p=none→Q (.ref p) (upd H1 p (.lst xs))
theorem fW{x1}(h:PA X es t):PE X (.Tuple es x1 pos) (akh t):=by
 intro pins s σ H Q I hq;refine wpAny_Tuple_spliced (thn (h pos pins s σ H _ I hq) fun us s1 ⟨xs,H1,I1,r,z,q⟩=>⟨by rw[←r.length];exact z,?_⟩);have hf:H1 s1.heap.objs.size=none:=I1.hok.fresh (Nat.le_refl _);refine⟨.ref s1.heap.objs.size,upd H1 s1.heap.objs.size (.tup xs),I1.laid (t':=s1.toks) (fun b u e=>Heap.get?_push_of_some _ e) (Nat.le_refl _) ?_,rfl,q _ hf⟩;exact⟨z,us,r,⟨_,Heap.get?_push_size _ rfl,rfl,_,rfl⟩⟩
theorem bf(h:PA X es t):PE X (.List es pos) (ahX t):=by
 intro pins s σ H Q I hq;refine wpAny_List_spliced (thn (h pos pins s σ H _ I hq) fun us s1 ⟨xs,H1,I1,r,z,q⟩=>⟨by rw[←r.length];exact z,?_⟩);have hf:H1 s1.heap.objs.size=none:=I1.hok.fresh (Nat.le_refl _);refine⟨.ref s1.heap.objs.size,upd H1 s1.heap.objs.size (.lst xs),I1.laid (t':=s1.toks) (fun b u e=>Heap.get?_push_of_some _ e) (Nat.le_refl _) ?_,rfl,q _ hf⟩;exact⟨z,us,0,r,Heap.get?_push_size _ rfl⟩
end
abbrev Sp:=List V→Hp→VK→XK→Prop
abbrev CXT:=List Env→Hp→Shared→XK→Value→Shared→Prop
structure Yd(P:Program)(w:World)(K:PySem.W.Frag)(mg:Str→Option Value)(base:Heap)(A:Around)(outer:List Env)(s:Shared)(H:Hp):Prop where
 frames:A.frames=some outer
 mod:Mod K mg base
 bs:∀b o,base.get? b=some o→s.heap.get? b=some o∧H b=none
 bsz:base.objs.size≤s.heap.objs.size
 Hg:s.heap.FunFrames base outer
 frf:∀b∈frs outer,H b=none
 hok:HOk P w H s.heap
 bare:AllBare s.gens
def CE(outer:List Env)(P:Program)(w:World)(H:Hp)(s:Shared)(Q:VK)(u:Value)(s':Shared):Prop:=
 ∃v H',s'.os=s.os∧AllBare s'.gens∧Un (frs outer) [] H H' s.heap s'.heap∧HOk P w H' s'.heap∧RelV v u∧Q v H'
def CR(CX:CXT)(outer:List Env)(P:Program)(w:World)(H:Hp)(s:Shared)(Q:VK)(E:XK)(r:Result)(s':Shared):Prop:=
 match r with
 |.ok (.ret u)=>CE outer P w H s Q u s'
 |.ok _=>False
 |.error e=>CX outer H s E e s'
structure aY(P:Program)(w:World)(K:PySem.W.Frag)(mg:Str→Option Value)(base:Heap)(CX:CXT)(k:Nat)(f:Addr)(fd:FuncData)(ps:List Str)(sp:Sp):Prop where
 len:∀vs H Q E,sp vs H Q E→vs.length=ps.length
 run:∀(A:Around)(outer:List Env)(s:Shared)(H:Hp)(args:Args)(us:List Value)(vs:List V)(Q:VK)(E:XK),jc k A→Yd P w K mg base A outer s H→BindsTo s fd args (ps.zip us)→Vals vs us→sp vs H Q E→
  codeAny (model P w) A (.call (.ref f) args) (CR CX outer P w H s Q E) s
theorem aY.mono{P:Program}{w:World}{K:PySem.W.Frag}{mg:Str→Option Value}{base:Heap}{CX:CXT}{j k:Nat}{f:Addr}{fd:FuncData}{ps:List Str}{sp:Sp}(F:aY P w K mg base CX j f fd ps sp)(h:j≤k):
  aY P w K mg base CX k f fd ps sp:=⟨F.len,fun A outer s H args us vs Q E hr=>F.run A outer s H args us vs Q E (hr.mono h)⟩
theorem Yd.make{P:Program}{w:World}{K:PySem.W.Frag}{mg:Str→Option Value}{base:Heap}{A:Around}{outer:List Env}{s:Shared}{H:Hp}(e:Yd P w K mg base A outer s H)(C:Addr)(us:List Value)(kw:List (Str×Value)):
  Yd P w K mg base (A.under (.builtin "type.__call__" ⟨.ref C::us,kw⟩)) outer s H:=⟨by first|exact e.frames|(simpa [Around.under,Code.envs,Code.isFrame,pushEnvs] using e.frames),e.mod,e.bs,e.bsz,e.Hg,e.frf,e.hok,e.bare⟩
section
variable{X:Cx}{pins:List (Addr×Obj)}{σ:St}{H:Hp}{s s':Shared}
theorem Inv.env0(I:Inv X pins σ H s):Yd X.prog X.w X.K X.mg X.base X.A X.stack s H:=
 ⟨I.ok.frames,I.ok.mod,I.bs,Nat.le_trans I.ok.bsz I.sz,I.stack,I.ZN,I.hok,I.bare⟩
theorem Inv.after{Q:VK}{u:Value}(I:Inv X pins σ H s)(h:CE X.stack X.prog X.w H s Q u s'):EP X pins σ Q u s':=by
 obtain⟨v,H',os,bare,un,hok,r,q⟩:=h;obtain⟨hh,g,d,t,os'⟩:=s';obtain rfl:os'=s.os:=os;exact⟨v,H',I.call (h':=hh) (g':=g) (d':=d) (t':=t) (ch:=[]) un hok bare (fun b z=>absurd z (by simp)),r,q⟩
end
def aki(sp:Sp)(dvs:List V)(E:XK)(t:TA):TE:=fun σ H Q=>t σ H fun vs H1=>sp (vs++dvs) H1 Q E
def adn(C:Addr)(m:Str)(sp:Sp)(dvs:List V)(E:XK)(ta:TE)(t:TA):TE:=fun σ H Q=>ta σ H fun x H1=>∃a dx fs,x=.ref a∧H1 a=some (.ins C dx fs)∧fs.lookup m=none∧
 t σ H1 fun vs H2=>sp (x::(vs++dvs)) H2 Q E
def ahd(C:Addr)(sp:Sp)(dvs:List V)(E:XK)(t:TA):TE:=fun σ H Q=>t σ H fun vs H1=>∀x dx,H1 x=none→H1 dx=none→dx≠x→
 sp (.ref x::(vs++dvs)) (upd (upd H1 dx (.own x)) x (.ins C dx [])) (fun v H2=>v=.non∧Q (.ref x) H2) E
def Binds(K:PySem.W.Frag)(fd:FuncData)(ps:List Str)(ds:List Value):Prop:=
 ∀(s:Shared)(us:List Value),K.In s.heap→(us++ds).length=ps.length→BindsTo s fd ⟨us,[]⟩ (ps.zip (us++ds))
theorem Binds.all{K:PySem.W.Frag}{fd:FuncData}{ps:List Str}(h:∀us:List Value,us.length=ps.length→bindArgs fd ⟨us,[]⟩=pure (ps.zip us)):Binds K fd ps []:=fun s us _ hl=>by
 rw[List.append_nil] at hl⊢;exact .of_eq (h us hl)
def Passes(CX:CXT)(X:Cx)(E:XK):Prop:=∀(pins:List (Addr×Obj))(σ:St)(H:Hp)(s:Shared)(e:Value)(s':Shared),Inv X pins σ H s→CX X.stack H s E e s'→X.xe e s'
section
variable{X:Cx}{CX:CXT}{k:Nat}{f C:Addr}{fd:FuncData}{ps:List Str}{sp:Sp}{dvs:List V}{ds:List Value}{E:XK}{x m:Str}{p pos apos:Pos}{e o:Expr}{es:List Expr}{ta:TE}{t:TA}
theorem Qr{pins:List (Addr×Obj)}{σ:St}{H:Hp}{s:Shared}{Q:VK}{us:List Value}{vs:List V}(F:aY X.prog X.w X.K X.mg X.base CX k f fd ps sp)(hr:jc k X.A)(hb:Binds X.K fd ps ds)(hd:Vals dvs ds)(hx:Passes CX X E)
  (I:Inv X pins σ H s) (r:Vals vs us) (h:sp (vs++dvs) H Q E):wpAny (model X.prog X.w) X.A (call (.ref f) us) (EP X pins σ Q) X.xe s:=by
 have r2:Vals (vs++dvs) (us++ds):=r.append hd;have hl:(us++ds).length=ps.length:=by rw[←r2.length];exact F.len _ _ _ _ h
 refine wpAny_call (codeAny_mono (F.run X.A X.stack s H ⟨us,[]⟩ (us++ds) (vs++dvs) Q E hr I.env0 (hb s us I.kIn hl) r2 h) fun r s' hq=>?_);cases r with
 |error e=>exact hx pins σ H s e s' I hq
 |ok fl=>
  cases fl with
  |ret u=>exact I.after hq
  |next=>exact False.elim hq
  |brk=>exact False.elim hq
  |cont=>exact False.elim hq
theorem aH(F:aY X.prog X.w X.K X.mg X.base CX k f fd ps sp)(hr:jc k X.A)(hg:Gl X x)(hm:X.mg x=some (.ref f))(hk:PySem.W.keepIn X.K (.ref f)=true)(hb:Binds X.K fd ps ds)(hd:Vals dvs ds)(hx:Passes CX X E)
  (ha:PA X (e::es) t) (hdb:(x==("__debug__":Str))=false:=by decide) (he:starEach (e::es) X.env=(false,eval e X.env)::starEach es X.env:=by rfl) (hpl:(backTo pos (starEach es X.env)).any (·.1)=false:=by rfl):
  PE X (.Call (.Name x p) (e::es) [] pos) (aki sp dvs E t):=by
 intro pins s σ H Q I h;refine wpAny_Call_Name_kw (IS I hg hm ?_ hdb);refine PySem.W.callWith_K (h₀:=X.base) I.ok.mod.kin hk (thn (ha pos pins s σ H _ I h) fun us s1 ⟨vs,H1,I1,r,q⟩=>⟨I1.kIn,?_⟩) he hpl;exact Qr F hr hb hd hx I1 r q
theorem aT{pl:Sem Bool}(he:PE X o ta)(c:Cls X.K C)(hm:Meth X.K C m f)(F:aY X.prog X.w X.K X.mg X.base CX k f fd ps sp)(hr:jc k X.A)(hb:Binds X.K fd ps ds)(hd:Vals dvs ds)(hx:Passes CX X E)(ha:PA X (e::es) t)
  (hst:starEach (e::es) X.env=(false,eval e X.env)::starEach es X.env:=by rfl) (hpl:(backTo pos (starEach es X.env)).any (·.1)=false:=by rfl)
  (ht:eval (.Call (.Attribute o m apos) (e::es) [] pos) X.env=(do
   let ov←eval o X.env
   standAt apos.atName
   let (f,first)←holding [ov] (getMethod ov m pl)
   callWith pos f first (backTo pos (starEach (e::es) X.env)) (backToKw pos (keywordEach [] X.env))):=by rfl):
  PE X (.Call (.Attribute o m apos) (e::es) [] pos) (adn C m sp dvs E ta t):=by
 intro pins s σ H Q I h;refine PySem.W.methodCall_KW (pl:=pl) (thn (he pins s σ H _ I h) fun u s1 ⟨x,H1,I1,rx,a,dx,fs,ex,ea,l,q⟩=>?_) ht;subst ex;obtain rfl:u=Value.ref a:=rx;refine zh I1 ea c hm l ?_;refine PySem.W.callWith_K (first:=[.ref a]) (h₀:=X.base) I.ok.mod.kin hm.kp (thn (ha pos pins s1 σ H1 _ I1 q) fun us s2 ⟨vs,H2,I2,r,q2⟩=>⟨I2.kIn,?_⟩) hst hpl;exact Qr (us:=.ref a::us) (vs:=.ref a::vs) F hr hb hd hx I2 (.cons rfl r) q2
theorem uI{pl:Sem Bool}(he:PE X o ta)(c:Cls X.K C)(hm:Meth X.K C m f)(F:aY X.prog X.w X.K X.mg X.base CX k f fd ps sp)(hr:jc k X.A)(hb:Binds X.K fd ps ds)(hd:Vals dvs ds)(hx:Passes CX X E)
  (ht:eval (.Call (.Attribute o m apos) [] [] pos) X.env=(do
   let ov←eval o X.env
   standAt apos.atName
   let (f,first)←holding [ov] (getMethod ov m pl)
   callWith pos f first (backTo pos (starEach [] X.env)) (backToKw pos (keywordEach [] X.env))):=by rfl):
  PE X (.Call (.Attribute o m apos) [] [] pos) (adn C m sp dvs E ta Hh):=by
 intro pins s σ H Q I h;refine PySem.W.methodCall_KW (pl:=pl) (thn (he pins s σ H _ I h) fun u s1 ⟨x,H1,I1,rx,a,dx,fs,ex,ea,l,q⟩=>?_) ht;subst ex;obtain rfl:u=Value.ref a:=rx;refine zh I1 ea c hm l ?_;exact PySem.W.callWith_K0 (first:=[.ref a]) I1.kIn hm.kp (Qr (us:=[.ref a]) (vs:=[.ref a]) F hr hb hd hx I1 (.cons rfl .nil) q)
structure Mk(K:PySem.W.Frag)(C f:Addr):Prop where
 makes:PySem.W.makesIn K C=true
 init:PySem.W.findIn K (.ref C) "__init__"=some (some (.ref f))
 fn:PySem.W.isFn K (.ref f)=true
 kp:PySem.W.keepIn K (.ref C)=true
theorem Uq{pins:List (Addr×Obj)}{σ:St}{H:Hp}{s:Shared}{Q:VK}{us:List Value}{vs:List V}(M:Mk X.K C f)(F:aY X.prog X.w X.K X.mg X.base CX k f fd ps sp)(hr:jc (k+1) X.A)(hb:Binds X.K fd ps ds)(hd:Vals dvs ds)
  (hx:Passes CX X E) (I:Inv X pins σ H s) (r:Vals vs us)
  (h:∀x dx,H x=none→H dx=none→dx≠x→sp (.ref x::(vs++dvs)) (upd (upd H dx (.own x)) x (.ins C dx [])) (fun v H2=>v=.non∧Q (.ref x) H2) E):
  wpAny (model X.prog X.w) X.A (call (.ref C) us) (EP X pins σ Q) X.xe s:=by
 have hq:=h (s.heap.objs.size+1) s.heap.objs.size (I.hok.fresh (Nat.le_succ _)) (I.hok.fresh (Nat.le_refl _)) (Nat.ne_of_lt (Nat.lt_succ_self _));have I2:=Inv.made (C:=C) I;have r2:Vals (V.ref (s.heap.objs.size+1)::(vs++dvs)) (Value.ref (s.heap.objs.size+1)::(us++ds)):=.cons rfl (r.append hd);have hl:(Value.ref (s.heap.objs.size+1)::us++ds).length=ps.length:=by
  have e:=r2.length;rw[F.len _ _ _ _ hq] at e;exact e.symm
 refine wpAny_call (adm (f:=f) I.kIn M.makes M.init (beq_iff_eq.mp M.fn) (codeAny_mono (F.run _ X.stack _ _ ⟨Value.ref (s.heap.objs.size+1)::us,[]⟩ (Value.ref (s.heap.objs.size+1)::(us++ds)) _ _ E (hr.make C us [])
  (I2.env0.make C us []) (hb _ (Value.ref (s.heap.objs.size+1)::us) I2.kIn hl) r2 hq) fun r s' hq'=>?_))
 cases r with
 |error e=>exact hx pins σ _ _ e s' I2 hq'
 |ok fl=>
  cases fl with
  |ret u=>
   obtain⟨v,H',I3,rv,ev,q3⟩:=I2.after hq';subst ev;exact⟨rv,⟨V.ref (s.heap.objs.size+1),H',I3,rfl,q3⟩⟩
  |next=>exact False.elim hq'
  |brk=>exact False.elim hq'
  |cont=>exact False.elim hq'
theorem gC(M:Mk X.K C f)(F:aY X.prog X.w X.K X.mg X.base CX k f fd ps sp)(hr:jc (k+1) X.A)(hg:Gl X x)(hm:X.mg x=some (.ref C))(hb:Binds X.K fd ps ds)(hd:Vals dvs ds)(hx:Passes CX X E)
  (ha:PA X (e::es) t) (hdb:(x==("__debug__":Str))=false:=by decide) (he:starEach (e::es) X.env=(false,eval e X.env)::starEach es X.env:=by rfl) (hpl:(backTo pos (starEach es X.env)).any (·.1)=false:=by rfl):
  PE X (.Call (.Name x p) (e::es) [] pos) (ahd C sp dvs E t):=by
 intro pins s σ H Q I h;refine wpAny_Call_Name_kw (IS I hg hm ?_ hdb);refine PySem.W.callWith_K (h₀:=X.base) I.ok.mod.kin M.kp (thn (ha pos pins s σ H _ I h) fun us s1 ⟨vs,H1,I1,r,q⟩=>⟨I1.kIn,?_⟩) he hpl;exact Uq M F hr hb hd hx I1 r q
theorem ado(M:Mk X.K C f)(F:aY X.prog X.w X.K X.mg X.base CX k f fd ps sp)(hr:jc (k+1) X.A)(hg:Gl X x)(hm:X.mg x=some (.ref C))(hb:Binds X.K fd ps ds)(hd:Vals dvs ds)(hx:Passes CX X E)
  (hdb:(x==("__debug__":Str))=false:=by decide):PE X (.Call (.Name x p) [] [] pos) (ahd C sp dvs E Hh):=by
 intro pins s σ H Q I h;refine wpAny_Call_Name_kw (IS I hg hm ?_ hdb);exact PySem.W.callWith_K0 I.kIn M.kp (Uq (us:=[]) M F hr hb hd hx I .nil h)
end
def PK(X:Cx)(kws:List Keyword)(t:TA):Prop:=
 ∀(pos:Pos)(pins:List (Addr×Obj))(s:Shared)(σ:St)(H:Hp)(Q:List V→Hp→Prop),Inv X pins σ H s→t σ H Q→wpAny (model X.prog X.w) X.A (evalAll ((backToKw pos (keywordEach kws X.env)).map (·.2))) (AP X pins σ Q) X.xe s
section
variable{X:Cx}{CX:CXT}{k:Nat}{f C:Addr}{fd:FuncData}{ps ks:List Str}{sp:Sp}{E:XK}{x m:Str}{p pos apos Ye:Pos}{e o:Expr}{es:List Expr}{kws:List Keyword}{te ta:TE}{t tk:TA}{nm:Option Str}
theorem ahY:PK X [] Hh:=fun _ _ _ _ H Q I h=>wpAny_evalAll_nil ⟨[],H,I,.nil,h⟩
theorem afP(ha:PE X e te)(hr:PK X kws t):PK X (⟨nm,e,Ye⟩::kws) (uH te t):=by
 intro pos pins s σ H Q I h;show wpAny _ _ (evalAll ((do let v←eval e X.env;standAt pos;pure v)::(backToKw pos (keywordEach kws X.env)).map (·.2))) _ _ s;refine wpAny_evalAll_cons (wpAny_bind (thn (ha pins s σ H _ I h) fun u s1 ⟨x,H1,I1,r1,q1⟩=>wpAny_bind (wpAny_standAt (wpAny_pure ?_))));exact thn (hr pos pins s1 σ H1 _ I1 q1) fun us s2 ⟨xs,H2,I2,r2,q2⟩=>⟨x::xs,H2,I2,.cons r1 r2,q2⟩
end
structure ax(N P:List Str)(sc:Scope):Prop where
 kind:sc.kind=.function
 co:sc.isCoroutine=false
 gen:sc.isGenerator=false
 nd:N.Nodup
 pre:N.take P.length=P
 par:∀x∈P,sc.names.lookup x=some .local∨sc.names.lookup x=some .cell
 ahZ:∀y∈sc.names,y.2≠.free
theorem O6{kindOf:Str→Option NameKind}{x:Str}:∀{binds:List (Str×Value)}{m:Str→Option Value},(∀v,(x,v)∉binds)→bindL kindOf binds m x=m x
 |[],_,_=>rfl
 |(n,v)::r,m,h=>by
  unfold bindL;rw[O6 fun w hw=>h w (List.mem_cons_of_mem _ hw)];split
  ·have:x≠n:=by rintro rfl;exact h v List.mem_cons_self
   simp[this]
  ·rfl
theorem O7{kindOf:Str→Option NameKind}{x:Str}:∀{binds:List (Str×Value)}{m:Str→Option Value},(∀v,(x,v)∉binds)→bindC kindOf binds m x=m x
 |[],_,_=>rfl
 |(n,v)::r,m,h=>by
  unfold bindC;rw[O7 fun w hw=>h w (List.mem_cons_of_mem _ hw)];split
  ·rfl
  ·have:x≠n:=by rintro rfl;exact h v List.mem_cons_self
   simp[this]
theorem O8{kindOf:Str→Option NameKind}{x:Str}{v:Value}:∀{P:List Str}{vs:List Value}{i:Nat}{m:Str→Option Value},P.Nodup→P[i]?=some x→vs[i]?=some v→kindOf x=some .local→
  bindL kindOf (P.zip vs) m x=some v
 |[],_,_,_,_,h,_,_=>by simp at h
 |_::_,[],_,_,_,_,h,_=>by simp at h
 |p::P,w::vs,0,m,nd,h1,h2,hk=>by
  simp at h1 h2;subst h1;subst h2;show bindL kindOf ((p,w)::P.zip vs) m p=_;unfold bindL;rw[O6 fun v hv=>(List.nodup_cons.mp nd).1 (List.of_mem_zip hv).1,if_pos hk];simp
 |p::P,w::vs,i+1,m,nd,h1,h2,hk=>by
  show bindL kindOf ((p,w)::P.zip vs) m x=_;unfold bindL;exact O8 (i:=i) (List.nodup_cons.mp nd).2 (by simpa using h1) (by simpa using h2) hk
theorem O9{kindOf:Str→Option NameKind}{x:Str}{v:Value}:∀{P:List Str}{vs:List Value}{i:Nat}{m:Str→Option Value},P.Nodup→P[i]?=some x→vs[i]?=some v→kindOf x≠some .local→
  bindC kindOf (P.zip vs) m x=some v
 |[],_,_,_,_,h,_,_=>by simp at h
 |_::_,[],_,_,_,_,h,_=>by simp at h
 |p::P,w::vs,0,m,nd,h1,h2,hk=>by
  simp at h1 h2;subst h1;subst h2;show bindC kindOf ((p,w)::P.zip vs) m p=_;unfold bindC;rw[O7 fun v hv=>(List.nodup_cons.mp nd).1 (List.of_mem_zip hv).1,if_neg hk];simp
 |p::P,w::vs,i+1,m,nd,h1,h2,hk=>by
  show bindC kindOf ((p,w)::P.zip vs) m x=_;unfold bindC;exact O9 (i:=i) (List.nodup_cons.mp nd).2 (by simpa using h1) (by simpa using h2) hk
def start(N:List Str)(vs:List V):St:=vs.map some++List.replicate (N.length - vs.length) none
def aa4(CX:CXT)(P:Program)(w:World)(K:PySem.W.Frag)(mg:Str→Option Value)(base:Heap)(N:List Str)(qual:Str)(scope:Scope)(f:Addr)(cd:Value)(A:Around)(outer:List Env)(s:Shared)(H:Hp)(E:XK):Cx where
 prog:=P
 w:=w
 K:=K
 mg:=mg
 base:=base
 A:=A.deeper (envOfC qual scope s.heap.objs.size f cd)
 N:=N
 s_0:=s
 H_0:=H
 env:=envOfC qual scope s.heap.objs.size f cd
 outer:=outer
 stack:=envOfC qual scope s.heap.objs.size f cd::outer
 ex:=[]
 calm:=true
 fn:=fun _=>true
 pn:=[]
 xe:=fun e s'=>wpAny (model P w) (A.deeper (envOfC qual scope s.heap.objs.size f cd)) (leaving (envOfC qual scope s.heap.objs.size f cd) e) (fun _ s''=>CX outer H s E e s'') (fun e' s''=>CX outer H s E e' s'') s'
theorem Ur{sc:Scope}{n:Nat}{x:Str}(h:sc.names.lookup x=some .cell):∃c,(cellsFrom n sc.names []).lookup x=some c:=by
 have q:=PySem.W.cellsFrom_some sc.names n [] (.inl h);exact Option.isSome_iff_exists.mp q
theorem aa5{CX:CXT}{P:Program}{w:World}{K:PySem.W.Frag}{mg:Str→Option Value}{base:Heap}{N ps:List Str}{qual:Str}{scope:Scope}{f:Addr}{cd:Value}{A:Around}{outer:List Env}{s s1:Shared}{H:Hp}{E:XK}{us:List Value}{vs:List V}
  (S:ax N ps scope) (hd:A.handled=none) (e0:Yd P w K mg base A outer s H) (hl:vs.length=ps.length) (r:Vals vs us)
  (x:InCallC s s.heap.objs.size (bindL (envOfC qual scope s.heap.objs.size f cd).kindOf (ps.zip us) fun _=>none) (cellsFrom (s.heap.objs.size+1) scope.names []) (bindC (envOfC qual scope s.heap.objs.size f cd).kindOf (ps.zip us) fun _=>none) s1):
  Inv (aa4 CX P w K mg base N qual scope f cd A outer s H E) [] (start N vs) H s1:=by
 have hpl:ps.length≤N.length:=by have:=congrArg List.length S.pre;rw[List.length_take] at this;omega
 obtain⟨h1,tk,rfl,hk⟩:=x.done;have noA:∀b:Addr,b∉(aa4 CX P w K mg base N qual scope f cd A outer s H E).ex:=fun b z=>absurd (show b∈([]:List Addr) from z) (by simp);refine⟨⟨e0.mod,S.kind,rfl,rfl,Nat.le_refl _,fun y z c h1 h2=>?_,fun y hy=>?_,fun y c _ h=>?_,fun _=>hd,Around.frames_deeper e0.frames,.inr ⟨rfl,rfl⟩,fun b z=>absurd z (noA b),e0.bs,e0.bsz,fun b _ _=>noA b,fun b z=>absurd z (noA b),e0.Hg,e0.frf⟩,
  rfl,e0.bare,Un.kept hk,⟨_,x.toInCall.ns,fun i y v h1 h2 h3=>?_⟩,fun y c h=>⟨_,x.cell y c h⟩,e0.hok.fresh (Nat.le_refl _),fun y c h=>?_,fun p hp=>absurd (show p∈([]:List (Addr×Obj)) from hp) (by simp),e0.hok.kept hk,?_⟩
 ·exact name_of_addr x.apart (PySem.mem_of_lookup h1) (PySem.mem_of_lookup h2)
 ·have hy:scope.names.lookup y=some .cell∨scope.names.lookup y=some .free:=hy;rcases hy with hy|hy
  ·exact Ur hy
  ·exact absurd rfl (S.ahZ _ (PySem.mem_of_lookup hy))
 ·exact Nat.le_of_lt (x.above y c (PySem.mem_of_lookup h))
 ·have hi:i<vs.length:=by
   unfold start at h2;by_cases hi:i<vs.length
   ·exact hi
   ·rw[List.getElem?_append_right (by simpa using hi)] at h2;rw[List.getElem?_replicate] at h2;split at h2<;>cases h2
  have ha:vs[i]?=some v:=by
   unfold start at h2;rw[List.getElem?_append_left (by simpa using hi),List.getElem?_map] at h2;cases e:vs[i]? with
   |none=>rw[e] at h2;cases h2
   |some a=>rw[e] at h2;cases h2;rfl
  obtain⟨u,hu,rv⟩:=r.get ha;have hp:ps[i]?=some y:=by
   rw[←S.pre,List.getElem?_take_of_lt (by omega)];exact h1
  have ndP:ps.Nodup:=by rw[←S.pre];exact S.nd.sublist (List.take_sublist _ _)
  refine⟨u,rv,?_⟩;rcases S.par y (List.mem_of_getElem? hp) with k|k
  ·exact .inl ⟨k,O8 ndP hp hu k⟩
  ·obtain⟨c,e⟩:=Ur (n:=s.heap.objs.size+1) k;refine .inr ⟨.inl k,c,e,?_⟩;have q:=x.cell y c e;rw[O9 ndP hp hu (by show scope.names.lookup y≠_;rw[k];decide)] at q;exact q
 ·exact e0.hok.fresh (Nat.le_of_lt (x.above y c (PySem.mem_of_lookup h)))
 ·unfold start;show _=N.length;rw[List.length_append,List.length_map,List.length_replicate];omega
theorem akj{CX:CXT}{P:Program}{w:World}{K:PySem.W.Frag}{mg:Str→Option Value}{base:Heap}{k:Nat}{f:Addr}{name qual:Str}{params:Arguments}{body:List Stmt}{scope:Scope}{dV kV doc pm cdv ct oc:Value}{an od:Option Addr}
  {osl:Array (Option Value)} {N ps:List Str} {sp:Sp} (lk:K.lookup f=some ⟨oc,od,.func (PySem.W.fnOf name qual params body scope dV kV doc pm an cdv ct),osl⟩) (hcd:PySem.W.codeIn K cdv qual=true) (S:ax N ps scope)
  (len:∀vs H Q E,sp vs H Q E→vs.length=ps.length)
  (hbody:∀(A:Around)(outer:List Env)(s:Shared)(H:Hp)(vs:List V)(Q:VK)(E:XK),jc k (A.deeper (envOfC qual scope s.heap.objs.size f cdv))→sp vs H Q E→
   ∃t,PSs (aa4 CX P w K mg base N qual scope f cdv A outer s H E) body t∧t {nx:=fun _ H'=>Q .non H',rt:=Q} (start N vs) H):
  aY P w K mg base CX (k+1) f (PySem.W.fnOf name qual params body scope dV kV doc pm an cdv ct) ps sp:=by
 refine⟨len,fun A outer s H args us vs Q E hr e0 hb r hsp=>?_⟩;have hl:=len _ _ _ _ hsp;have KX:K.In s.heap:=e0.mod.kin.keeps fun b o e=>(e0.bs b o e).1;have lim:s.heap.NoLimit:=e0.mod.nolimit.keeps fun b o e=>(e0.bs b o e).1;have hkind:∀y∈ps.zip us,scope.names.lookup y.1=some .local∨(scope.names.lookup y.1=some .cell∧((cellsFrom (s.heap.objs.size+1) scope.names []).lookup y.1).isSome=true):=fun⟨n,v⟩ hy=>by
  rcases S.par n (List.of_mem_zip hy).1 with q|q
  ·exact .inl q
  ·exact .inr ⟨q,PySem.W.cellsFrom_some _ _ _ (.inl q)⟩
 refine codeAny_call_function hr.depth (KX _ _ lk) rfl S.co S.gen rfl (PySem.W.codeRec_of KX hcd) (hb _ _ _ _ ?_);refine wpAny_newFunctionEnv_cells S.kind hkind fun env he s1 x=>?_;subst he;refine⟨lim.keeps x.toInCall.keep,codeAny_func ?_⟩;obtain⟨t,ht,hq⟩:=hbody A outer s H vs Q E (hr.deeper _) hsp;have I:Inv (aa4 CX P w K mg base N qual scope f cdv A outer s H E) [] (start N vs) H s1:=aa5 S hr.hd e0 hl r x;refine wpAny_mono (ht [] s1 (start N vs) H _ I hq) (fun fl s' hs=>?_) fun e s' hs=>hs;have fin:∀{σ':St}{H':Hp}{v:V}{u:Value},Inv (aa4 CX P w K mg base N qual scope f cdv A outer s H E) [] σ' H' s'→RelV v u→Q v H'→CE outer P w H s Q u s':=
  fun{σ' H' v u} J rv q=>⟨v,H',J.os,J.bare,J.base,J.hok,rv,q⟩
 cases fl with
 |ret u=>
  obtain⟨v,σ',H',J,rv,q⟩:=hs;exact fin J rv q
 |next=>
  obtain⟨σ',H',J,q⟩:=hs;exact fin (v:=V.non) (u:=Value.none) J rfl q
 |brk=>
  obtain⟨_,_,_,q⟩:=hs;exact False.elim q
 |cont=>
  obtain⟨_,_,_,q⟩:=hs;exact False.elim q
end L2
namespace L2
open PySem PySem.Spec PyProof.Rows
section
variable{X:Cx}{x:Str}{p pos:Pos}{e:Expr}{es:List Expr}{t:TA}{id T:String}{r:List V→Hp→VK→Prop}
def tCB(r:List V→Hp→VK→Prop)(t:TA):TE:=fun σ H Q=>t σ H fun vs H1=>r vs H1 Q
theorem aV(hc:iN X (.builtin id) r)(hg:Gl X x)(hm:X.mg x=none)(hv:bootBuiltins x=some (.builtin id))(ha:PA X (e::es) t)(hn:x≠"__name__":=by decide)(hdb:(x==("__debug__":Str))=false:=by decide)
  (he:starEach (e::es) X.env=(false,eval e X.env)::starEach es X.env:=by rfl) (hpl:(backTo pos (starEach es X.env)).any (·.1)=false:=by rfl):PE X (.Call (.Name x p) (e::es) [] pos) (tCB r t):=by
 intro pins s σ H Q I h;refine wpAny_Call_Name_kw (Jg I hg hm hv ?_ hn hdb);exact PyProof.Rows.callWith_builtin1 (thn (ha pos pins s σ H _ I h) fun us s1 ⟨vs,H1,I1,r1,q1⟩=>hc pins s1 σ H1 vs us Q I1 r1 q1) he hpl
theorem Pa(hc:iN X (.type T) r)(hg:Gl X x)(hm:X.mg x=none)(hv:bootBuiltins x=some (.type T))(ha:PA X (e::es) t)(hn:x≠"__name__":=by decide)(hdb:(x==("__debug__":Str))=false:=by decide)
  (he:starEach (e::es) X.env=(false,eval e X.env)::starEach es X.env:=by rfl) (hpl:(backTo pos (starEach es X.env)).any (·.1)=false:=by rfl):PE X (.Call (.Name x p) (e::es) [] pos) (tCB r t):=by
 intro pins s σ H Q I h;refine wpAny_Call_Name_kw (Jg I hg hm hv ?_ hn hdb);exact PyProof.Rows.callWith_type1 (thn (ha pos pins s σ H _ I h) fun us s1 ⟨vs,H1,I1,r1,q1⟩=>hc pins s1 σ H1 vs us Q I1 r1 q1) he hpl
end
end L2
namespace HT
open PySem PyProof.Rows
def lexLt:List Int→List Int→Bool
 |[],[]=>false
 |[],_::_=>true
 |_::_,[]=>false
 |x::xs,y::ys=>if x=y then lexLt xs ys else decide (x<y)
theorem Jj(x y:Int)(xs ys:List Int):lexLt (x::xs) (y::ys)=if x=y then lexLt xs ys else decide (x<y):=rfl
theorem yg:lexLt [] []=false:=rfl
theorem uJ(y:Int)(ys:List Int):lexLt [] (y::ys)=true:=rfl
theorem uK(x:Int)(xs:List Int):lexLt (x::xs) []=false:=rfl
theorem Us(A:Around)(s:Shared)(a:Int)(t:Tok)(c:Int)(u:Tok):∃e,SeqAt.EqAt A s (.int a t) (.int c u) e∧(e=true↔a=c):=
 ⟨(a==c),SeqAt.EqAt.int_int a t c u,by simp⟩
theorem adp(A:Around)(s:Shared)(a:Int)(t:Tok)(c:Int)(u:Tok)(prog:Program)(w:World)(E:Value→Shared→Prop)(Q:Value→Shared→Prop)(h:Q (.bool (decide (a<c))) s):
  wpAny (model prog w) A (richCompare .Lt (.int a t) (.int c u)) Q E s:=
 (PyProof.Rows.lt_int h:wpAny (model prog w) A (compareOp .Lt (.int a t) (.int c u)) Q E s)
section
open PySem.SeqAt
open PySem.AutoSeq1 (wpAny_loadPart')
open PySem.MeetsSeq PySem.MeetsSeq2 PySem.MeetsSeq3
theorem ME(l b:Addr)(items items2:Array Value)(n n2:Nat)(dd dd2:Option Addr)(sl sl2:Array (Option Value))(ns ms:List Int)(hi:IntsAre items.toList ns)(hj:IntsAre items2.toList ms):
  Meets (Builtin.«tuple.__lt__» ⟨[.ref l,.ref b],[]⟩)
   (fun _ R s=>s.heap.get? l=some {cls:=.type "tuple",dict:=dd,data:=.seq items n,slots:=sl}∧s.heap.get? b=some {cls:=.type "tuple",dict:=dd2,data:=.seq items2 n2,slots:=sl2}∧
    R (.ok (.ret (.bool (lexLt ns ms)))) s):=
 .of_wp fun prog w A R s h=>by
  obtain⟨hp,g,d,tk,os⟩:=s;obtain⟨hl,hb,h⟩:=h;have f2:=AutoSeq1.sub_tuple_tuple;have z1:items.size=ns.length:=by rw[←hi.length];simp
  have z2:items2.size=ms.length:=by rw[←hj.length];simp
  wp_walk using wpAny_loadPart' hl,wpAny_loadPart' hb,wpAny_forIn_list _ (fun rest b s'=>b.1=none∧s'=⟨hp,g,d,tk,os⟩∧∃(vs ws:List Value)(ns' ms':List Int),rest=vs.zip ws∧
   IntsAre vs ns'∧IntsAre ws ms'∧ns'.length+items2.size=ms'.length+items.size∧R (.ok (.ret (.bool (lexLt ns' ms')))) ⟨hp,g,d,tk,os⟩) _
  case turn=>
   rintro⟨y,x⟩ rest b s' ⟨hb',rfl,vs,ws,ns',ms',hz,hvi,hwi,hlen,hR⟩;cases hvi with
   |nil=>rw[List.zip_nil_left] at hz;cases hz
   |cons a t ah0=>
    cases hwi with
    |nil=>rw[List.zip_nil_right] at hz;cases hz
    |cons c u ah1=>
     rw[List.zip_cons_cons] at hz;injection hz with hyx hrest
     injection hyx with hy hx
     subst hy hx;rw[Jj] at hR;simp only[List.length_cons] at hlen;obtain⟨e,he,adq⟩:=Us A.in1 ⟨hp,g,d,tk,os⟩ a t c u;refine wpAny_bind (he prog w _ _ ?_);cases e with
     |true=>
      rw[if_pos (adq.mp rfl)] at hR
      wp_walk
      exact⟨rfl,rfl,_,_,_,_,hrest,ah0,ah1,by omega,hR⟩
     |false=>
      rw[if_neg (fun q=>absurd (adq.mpr q) Bool.false_ne_true)] at hR;have hri:=adp A.in1 ⟨hp,g,d,tk,os⟩ a t c u prog w
      wp_walk using hri
      exact⟨_,rfl,by simpa using hR⟩
  case fin=>
   rintro⟨b1,b2⟩ s' ⟨hb',rfl,vs,ws,ns',ms',hz,hvi,hwi,hlen,hR⟩;simp only at hb';subst hb';have hv:lexLt ns' ms'=decide (items.size<items2.size):=by
    cases hvi with
    |nil=>
     cases hwi with
     |nil=>
      simp only[List.length_nil] at hlen;rw[yg];exact(decide_eq_false (by omega)).symm
     |cons c u hw=>
      simp only[List.length_nil,List.length_cons] at hlen;rw[uJ];exact(decide_eq_true (by omega)).symm
    |cons a t hv=>
     cases hwi with
     |nil=>
      simp only[List.length_nil,List.length_cons] at hlen;rw[uK];exact(decide_eq_false (by omega)).symm
     |cons c u hw=>
      rw[List.zip_cons_cons] at hz;cases hz
   rw[hv] at hR
   wp_walk
   exact⟨_,rfl,by simpa [Builtin.Tuple.tupleCompareSizes] using hR⟩
  case h=>
   exact⟨rfl,rfl,items.toList,items2.toList,ns,ms,rfl,hi,hj,by omega,h⟩
end
section
variable{prog:Program}{w:World}{A:Around}{E:Value→Shared→Prop}{s:Shared}
theorem Yf{l b:Addr}{items items2:Array Value}{ns ms:List Int}{Q:Value→Shared→Prop}(hl:IsTup s.heap l items)(hb:IsTup s.heap b items2)(hi:IntsAre items.toList ns)(hj:IntsAre items2.toList ms)
  (hu:A.units<cLine) (h:Q (.bool (lexLt ns ms)) s):wpAny (model prog w) A (compareOp .Lt (.ref l) (.ref b)) Q E s:=by
 obtain⟨⟨cls,dd,data,sl⟩,ho,hc,n,hd⟩:=id hl;obtain⟨⟨cls2,dd2,data2,sl2⟩,ho2,hc2,n2,hd2⟩:=id hb;simp only at hc hd hc2 hd2;subst hc hd hc2 hd2;exact richCompare_meets_room (op:=.Lt) ⟨_,ho,rfl⟩ ⟨_,ho2,rfl⟩ PySem.F.slot_tuple_lt PySem.F.entry_tuple_lt (PySem.F.args_tuple_lt_2 _ _) (ME l b items items2 n n2 dd dd2 sl sl2 ns ms hi hj)
  ⟨ho,ho2,show Value.bool (lexLt ns ms)≠Value.notImplemented∧Q (.bool (lexLt ns ms)) s from⟨(fun x=>nomatch x),h⟩⟩ hu
theorem afQ{t b:Addr}{vs ws:List Value}{Q:Value→Shared→Prop}(ht:IsTup s.heap t vs.toArray)(hb:IsTup s.heap b ws.toArray)(hv:vs≠[])
  (h1:ws=[]→Q (.ref t) s) (h2:ws≠[]→Q (.ref s.heap.objs.size) {s with heap:=s.heap.push {cls:=.type "tuple",data:=.seq (vs++ws).toArray}})
  (hsz:vs.length+ws.length≤sizeLine):wpAny (model prog w) A (binaryOp .Add (.ref t) (.ref b)) Q E s:=by
 obtain⟨⟨cls,dd,data,sl⟩,ho,hc,n,hd⟩:=id ht;obtain⟨⟨cls2,dd2,data2,sl2⟩,ho2,hc2,n2,hd2⟩:=id hb;simp only at hc hd hc2 hd2;subst hc hd hc2 hd2;have e:vs.toArray++ws.toArray=(vs++ws).toArray:=by simp
 by_cases hw:ws=[]
 ·exact concat_meets ⟨_,ho,rfl⟩ ⟨_,ho2,rfl⟩ noFill_tuple_add seq_tuple_add PySem.F.slot_tuple_add PySem.F.entry_tuple_add (PySem.F.args_tuple_add_2 _ _)
   (tuple_addW1 t b vs.toArray ws.toArray n n2 dd dd2 sl sl2 (by simpa using hv) (by simp[hw])) ⟨ho,ho2,h1 hw⟩
 ·refine concat_meets ⟨_,ho,rfl⟩ ⟨_,ho2,rfl⟩ noFill_tuple_add seq_tuple_add PySem.F.slot_tuple_add PySem.F.entry_tuple_add (PySem.F.args_tuple_add_2 _ _)
   (tuple_addW2 t b vs.toArray ws.toArray n n2 dd dd2 sl sl2 (by simpa using hv) (by simpa using hw) (by rw[List.size_toArray,List.size_toArray];exact hsz)) ⟨ho,ho2,?_⟩
  rw[e];exact h2 hw
def sIx(n d:Nat):Option Int→Nat
 |none=>d
 |some v=>if v<0 then(v+(n:Int)).toNat else min v.toNat n
theorem ads(n d:Nat):sIx n d none=d:=rfl
theorem Qs(n d k:Nat):sIx n d (some (k:Int))=min k n:=by
 show (if(k:Int)<0 then((k:Int)+(n:Int)).toNat else min (k:Int).toNat n)=min k n;rw[if_neg (by omega),Int.toNat_natCast]
end
end HT
namespace L2
open PySem PySem.Spec PyProof.Rows
abbrev TO:=St→Hp→(Option Int→Hp→Prop)→Prop
def PO(X:Cx)(e:Option Expr)(t:TO):Prop:=
 ∀(pins:List (Addr×Obj))(s:Shared)(σ:St)(H:Hp)(Q:Option Int→Hp→Prop),Inv X pins σ H s→t σ H Q→
  wpAny (model X.prog X.w) X.A (evalPart e X.env) (fun u s'=>∃o H',Inv X pins σ H' s'∧IsPart u o∧Q o H') X.xe s
def afR:TO:=fun _ H Q=>Q none H
def akk(t:TE):TO:=fun σ H Q=>t σ H fun x H1=>∃i,x=.int i∧Q (some i) H1
section
variable{X:Cx}{e:Expr}{te:TE}{lo hi:Option Expr}{tl th:TO}{pos p2:Pos}
theorem ZV:PO X none afR:=by
 intro pins s σ H Q I h;rw[evalPart_none];exact wpAny_pure ⟨none,H,I,.none,h⟩
theorem IT(h:PE X e te):PO X (some e) (akk te):=by
 intro pins s σ H Q I hw;rw[evalPart_some];refine thn (h pins s σ H _ I hw) fun u s1 ⟨x,H1,I1,r1,q1⟩=>?_;obtain⟨i,rfl,q⟩:=q1;obtain⟨t,rfl⟩:=r1;exact⟨some i,H1,I1,.int i t,q⟩
def SlR(X:Cx)(r:V→Option Int→Option Int→Hp→VK→Prop):Prop:=
 ∀(pins:List (Addr×Obj))(s:Shared)(σ:St)(H:Hp)(x:V)(v vl vu:Value)(lo hi:Option Int)(sl:Addr)(Q:VK),Inv X pins σ H s→RelV x v→s.heap.IsSliceOf sl vl vu .none→IsPart vl lo→IsPart vu hi→r x lo hi H Q→
  ∃T id,typeLookup (.type T) "__getitem__"=pure (some (.builtin id))∧s.TypeIs v T∧wpAny (model X.prog X.w) X.A (getItem v (.ref sl)) (EP X pins σ Q) X.xe s
def tSl(r:V→Option Int→Option Int→Hp→VK→Prop)(te:TE)(tl th:TO):TE:=fun σ H Q=>te σ H fun x H1=>tl σ H1 fun l H2=>th σ H2 fun u H3=>r x l u H3 Q
theorem Jk{r:V→Option Int→Option Int→Hp→VK→Prop}(hr:SlR X r)(he:PE X e te)(hl:PO X lo tl)(hu:PO X hi th):PE X (.Subscript e (.Slice lo hi none p2) pos) (tSl r te tl th):=by
 intro pins s σ H Q I h;refine Subscript_ (thn (he pins s σ H _ I h) fun v s1 ⟨x,H1,I1,r1,q1⟩=>?_);refine wpAny_Slice (thn (hl pins s1 σ H1 _ I1 q1) fun vl s2 ⟨l,H2,I2,pl,q2⟩=>thn (hu pins s2 σ H2 _ I2 q2) fun vu s3 ⟨u,H3,I3,pu,q3⟩=>?_);rw[evalPart_none];refine wpAny_pure ?_;have I4:Inv X pins σ H3 {s3 with heap:=s3.heap.push {cls:=.type "slice",data:=.fields #[vl,vu,.none]}}:=I3.kept (t':=s3.toks) fun b ob q=>Heap.get?_push_of_some _ q;obtain⟨T,id,hT,ht,hg⟩:=hr pins {s3 with heap:=s3.heap.push {cls:=.type "slice",data:=.fields #[vl,vu,.none]}} σ H3 x v vl vu l u s3.heap.objs.size Q I4 r1 (Heap.IsSliceOf.new ..) pl pu q3;show wpAny (model X.prog X.w) X.A (subscriptTail e (.Slice lo hi none p2) v (.ref s3.heap.objs.size)) (EP X pins σ Q) X.xe {s3 with heap:=s3.heap.push {cls:=.type "slice",data:=.fields #[vl,vu,.none]}};exact tail_any (ops:=[.ref s3.heap.objs.size,v]) ht hT hg (by with_unfolding_all rfl)
def MF(xs:List V)(lo hi:Option Int):List V:=(xs.drop (HT.sIx xs.length 0 lo)).take (HT.sIx xs.length xs.length hi - HT.sIx xs.length 0 lo)
theorem Ut(xs:List V)(lo hi:Option Int):(MF xs lo hi).length≤xs.length:=by
 unfold MF;rw[List.length_take,List.length_drop];omega
def akl(K:PySem.W.Frag):R2:=fun x y H Q=>∃a b xs ys,x=.ref a∧y=.ref b∧SqT K H a xs∧SqT K H b ys∧xs≠[]∧xs.length+ys.length≤sizeLine∧
 (ys=[]→Q (.ref a) H)∧(ys≠[]→∀p,H p=none→Q (.ref p) (upd H p (.tup (xs++ys))))
theorem Vals.AQ{xs:List V}{us:List Value}(r:Vals xs us):us=[]↔xs=[]:=by
 cases r with
 |nil=>simp
 |cons _ _=>simp
theorem afS:OpR X (binaryOp .Add) (akl X.K):=by
 intro pins s σ H x y v u Q I rx ry h;obtain⟨a,b,xs,ys,rfl,rfl,ha,hb,hx,hz,q1,q2⟩:=h;cases rx;cases ry;obtain⟨its,r1,p1,_⟩:=I.tuple ha;obtain⟨its2,r2,p2,_⟩:=I.tuple hb;refine HT.afQ p1 p2 (fun z=>hx (r1.AQ.mp z)) (fun z=>⟨.ref a,H,I,rfl,q1 (r2.AQ.mp z)⟩) (fun z=>?_) (by rw[←r1.length,←r2.length];exact hz);refine⟨.ref s.heap.objs.size,_,I.laid (t':=s.toks) (o:=.tup (xs++ys)) (fun b ob q=>Heap.get?_push_of_some _ q) (Nat.le_refl _) ?_,rfl,q2 (fun w=>z (r2.AQ.mpr w)) _ (I.hok.fresh (Nat.le_refl _))⟩;exact⟨by rw[List.length_append];exact hz,_,r1.append r2,IsTup.new _ _⟩
end
end L2
namespace L2
open PySem PySem.Spec PyProof.Rows
def ixN(n:Nat)(i:Int):Option Nat:=if 0≤i then(if i<n then some i.toNat else none) else if -(n:Int)≤i then some (i+n).toNat else none
def atI{α:Type}(xs:List α)(i:Int):Option α:=(ixN xs.length i).bind fun j=>xs[j]?
theorem afT{n:Nat}{i:Int}{j:Nat}(h:ixN n i=some j):seqIndex? i n=some j∧j<n∧ -(n:Int)≤i∧i<n:=by
 unfold ixN at h;by_cases h0:0≤i
 ·rw[if_pos h0] at h;by_cases h1:i<n
  ·rw[if_pos h1] at h;have e:i.toNat=j:=Option.some.inj h;exact⟨by rw[seqIndex_of h0 h1,e],by omega,by omega,h1⟩
  ·rw[if_neg h1] at h;cases h
 ·rw[if_neg h0] at h;by_cases h1: -(n:Int)≤i
  ·rw[if_pos h1] at h;have e:(i+n).toNat=j:=Option.some.inj h;exact⟨by rw[seqIndex_neg (by omega) h1,e],by omega,h1,by omega⟩
  ·rw[if_neg h1] at h;cases h
theorem ZW{α:Type}{xs:List α}{i:Int}{v:α}(h:atI xs i=some v):∃j,seqIndex? i xs.length=some j∧xs[j]?=some v∧j<xs.length∧ -(xs.length:Int)≤i∧i<xs.length:=by
 unfold atI at h;cases e:ixN xs.length i with
 |none=>rw[e] at h;cases h
 |some j=>
  rw[e] at h;obtain⟨h1,h2,h3,h4⟩:=afT e;exact⟨j,h1,h,h2,h3,h4⟩
theorem nM{α:Type}{xs:List α}{j:Nat}{v:α}(h:xs[j]?=some v):atI xs (j:Int)=some v:=by
 have hj:j<xs.length:=(List.getElem?_eq_some_iff.mp h).1;have e:ixN xs.length (j:Int)=some j:=by
  unfold ixN;rw[if_pos (by omega),if_pos (by omega)];simp
 unfold atI;rw[e];exact h
def afU(b:Expr):Prop:=∀o i,subscripted b false o i=operate [o,i] (getItem o i)
def IxR(X:Cx)(r:R2):Prop:=
 ∀(value slice:Expr)(pins:List (Addr×Obj))(s:Shared)(σ:St)(H:Hp)(x y:V)(v u:Value)(Q:VK),Inv X pins σ H s→RelV x v→RelV y u→r x y H Q→
  subscripted slice false v u=operate [v,u] (getItem v u)→wpAny (model X.prog X.w) X.A (subscriptTail value slice v u) (EP X pins σ Q) X.xe s
def MtR(X:Cx)(id:String)(r:V→List V→Hp→VK→Prop):Prop:=
 ∀(pins:List (Addr×Obj))(s:Shared)(σ:St)(H:Hp)(x:V)(xs:List V)(v:Value)(us:List Value)(Q:VK),Inv X pins σ H s→RelV x v→Vals xs us→r x xs H Q→
  wpAny (model X.prog X.w) X.A (call (.builtin id) (v::us)) (EP X pins σ Q) X.xe s
section
variable{X:Cx}{a b:Expr}{ta tb:TE}{pos:Pos}
theorem bK{r:R2}(hr:IxR X r)(ha:PE X a ta)(hb:PE X b tb)(hs:afU b):PE X (.Subscript a b pos) (tOp r ta tb):=by
 intro pins s σ H Q I h;exact Subscript_ (ahT ha hb I h fun v u s2 x y H2 I2 rx ry q=>hr a b pins s2 σ H2 x y v u Q I2 rx ry q (hs _ _))
def amL(K:PySem.W.Frag):R2:=fun x y H Q=>∃p xs i v,x=.ref p∧y=.int i∧SqL K H p xs∧atI xs i=some v∧Q v H
def ah2(K:PySem.W.Frag):R2:=fun x y H Q=>∃p xs i v,x=.ref p∧y=.int i∧SqT K H p xs∧atI xs i=some v∧Q v H
theorem Qt:IxR X (amL X.K):=by
 intro value slice pins s σ H x y v u Q I rx ry h hs;obtain⟨p,xs,i,z,rfl,rfl,hq,he,q⟩:=h;cases rx;obtain⟨t,rfl⟩:=ry;obtain⟨its,r,pl,hz⟩:=I.list hq;obtain⟨j,h1,h2,h3,h4,h5⟩:=ZW he;obtain⟨w,ew,rw'⟩:=r.get h2;have hl:=r.length;have hn:=Qp;have fin:EP X pins σ Q w s:=⟨z,H,I,rw',q⟩
 by_cases h0:0≤i
 ·have hj:i.toNat=j:=by
   rw[seqIndex_of h0 h5] at h1;exact Option.some.inj h1
  exact item_listR pl.isList h0 (by omega) (by rw[hj];simpa using ew) fin hs
 ·have hj:(i+(its.toArray.size:Int)).toNat=j:=by
   rw[seqIndex_neg (by omega) h4] at h1;rw[List.size_toArray,←hl];exact Option.some.inj h1
  exact subscriptTail_builtinR (x:=w) pl.isList.typeIs slot_list_getitem.lookup
   (wpAny_getItem_list_neg (Q:=fun r s'=>r=w∧EP X pins σ Q r s') pl.isList (by omega) (by rw[List.size_toArray]<;>omega) (by omega) (by rw[hj];simpa using ew) ⟨rfl,fin⟩) hs
theorem dH:IxR X (ah2 X.K):=by
 intro value slice pins s σ H x y v u Q I rx ry h hs;obtain⟨p,xs,i,z,rfl,rfl,hq,he,q⟩:=h;cases rx;obtain⟨t,rfl⟩:=ry;obtain⟨its,r,pl,hz⟩:=I.tuple hq;obtain⟨j,h1,h2,h3,h4,h5⟩:=ZW he;obtain⟨w,ew,rw'⟩:=r.get h2;have hl:=r.length;have hn:=Qp;have fin:EP X pins σ Q w s:=⟨z,H,I,rw',q⟩
 exact subscriptTail_builtinR (x:=w) pl.typeIs slot_tuple_getitem.lookup
  (getItem_tuple (j:=j) (Q:=fun r s'=>r=w∧EP X pins σ Q r s') pl (by omega) (by omega) (by rw[List.size_toArray,←hl];exact h1) (by simpa using ew) ⟨rfl,fin⟩) hs
theorem Qu(lo hi:Option Int)(n:Nat):(sliceBounds lo hi none n).1=((HT.sIx n 0 lo:Nat):Int)∧(sliceBounds lo hi none n).2.1=((HT.sIx n n hi:Nat):Int)∧(sliceBounds lo hi none n).2.2=1:=by
 refine⟨?_,?_,rfl⟩
 ·cases lo with
  |none=>simp[sliceBounds,HT.sIx]
  |some i=>
   simp only[sliceBounds,HT.sIx,Option.getD_none,show (1:Int)>0 by decide,if_true];by_cases h:i<0
   ·simp only[h,if_true]<;>omega
   ·simp only[h,if_false]<;>omega
 ·cases hi with
  |none=>simp[sliceBounds,HT.sIx]
  |some i=>
   simp only[sliceBounds,HT.sIx,Option.getD_none,show (1:Int)>0 by decide,if_true];by_cases h:i<0
   ·simp only[h,if_true]<;>omega
   ·simp only[h,if_false]<;>omega
theorem MG(its:List Value)(lo hi:Option Int):slicePick its.toArray lo hi none=((its.drop (HT.sIx its.length 0 lo)).take (HT.sIx its.length its.length hi - HT.sIx its.length 0 lo)).toArray:=by
 obtain⟨h1,h2,h3⟩:=Qu lo hi its.toArray.size;unfold slicePick;rw[h1,h2,h3];simp only[sliceRange_one,pick_run,List.size_toArray]<;>rfl
def amM(K:PySem.W.Frag):V→Option Int→Option Int→Hp→VK→Prop:=fun x lo hi H Q=>∃a xs,x=.ref a∧SqL K H a xs∧∀p,H p=none→Q (.ref p) (upd H p (.lst (MF xs lo hi)))
theorem Qv:SlR X (amM X.K):=by
 intro pins s σ H x v vl vu lo hi sl Q I rx hs pl pu h;obtain⟨a,xs,rfl,hx,q⟩:=h;cases rx;obtain⟨its,r,ht,hz⟩:=I.list hx;have hlen:=r.length;refine⟨"list",_,slot_list_getitem.lookup,ht.isList.typeIs,?_⟩;refine wpAny_getItem_list_slice ht.isList hs pl pu .none (by simp) ?_ (by rw[List.size_toArray]<;>omega);rw[MG,←hlen];refine⟨.ref s.heap.objs.size,_,I.laid (t':=s.toks) (o:=.lst (MF xs lo hi)) (fun b ob q=>Heap.get?_push_of_some _ q) (Nat.le_refl _) ?_,rfl,q _ (I.hok.fresh (Nat.le_refl _))⟩;exact⟨Nat.le_trans (Ut xs lo hi) hz,_,0,(r.drop (HT.sIx xs.length 0 lo)).take (HT.sIx xs.length xs.length hi - HT.sIx xs.length 0 lo),Heap.get?_push_size _ rfl⟩
def AR:V→Bool
 |.non=>true
 |.bl _=>true
 |.int _=>true
 |.str _=>true
 |_=>false
def eqV:V→V→Bool
 |.non,.non=>true
 |.bl a,.bl b=>a==b
 |.bl a,.int b=>(if a then 1 else 0)==b
 |.int a,.bl b=>a==(if b then 1 else 0)
 |.int a,.int b=>a==b
 |.str a,.str b=>a==b
 |_,_=>false
theorem ah3{A:Around}{s:Shared}{y x:V}{u v:Value}(ry:RelV y u)(rx:RelV x v)(fy:AR y=true)(fx:AR x=true):SeqAt.EqAt A s u v (eqV y x):=by
 cases y with
 |non=>
  cases ry;cases x with
  |non=>cases rx;exact SeqAt.EqAt.same _
  |bl b=>cases rx;exact SeqAt.EqAt.none_bool b
  |int b=>obtain⟨t,rfl⟩:=rx;exact SeqAt.EqAt.none_int b t
  |str b=>obtain⟨t,rfl⟩:=rx;exact SeqAt.EqAt.none_str b t
  |_=>exact absurd (show false=true from fx) Bool.false_ne_true
 |bl a=>
  cases ry;cases x with
  |non=>cases rx;exact SeqAt.EqAt.bool_none a
  |bl b=>cases rx;exact SeqAt.EqAt.bool_bool a b
  |int b=>obtain⟨t,rfl⟩:=rx;exact SeqAt.EqAt.bool_int a b t
  |str b=>obtain⟨t,rfl⟩:=rx;exact SeqAt.EqAt.bool_str a b t
  |_=>exact absurd (show false=true from fx) Bool.false_ne_true
 |int a=>
  obtain⟨t',rfl⟩:=ry;cases x with
  |non=>cases rx;exact SeqAt.EqAt.int_none a t'
  |bl b=>cases rx;exact SeqAt.EqAt.int_bool a t' b
  |int b=>obtain⟨t,rfl⟩:=rx;exact SeqAt.EqAt.int_int a t' b t
  |str b=>obtain⟨t,rfl⟩:=rx;exact SeqAt.EqAt.int_str a t' b t
  |_=>exact absurd (show false=true from fx) Bool.false_ne_true
 |str a=>
  obtain⟨t',rfl⟩:=ry;cases x with
  |non=>cases rx;exact SeqAt.EqAt.str_none a t'
  |bl b=>cases rx;exact SeqAt.EqAt.str_bool a t' b
  |int b=>obtain⟨t,rfl⟩:=rx;exact SeqAt.EqAt.str_int a t' b t
  |str b=>obtain⟨t,rfl⟩:=rx;exact SeqAt.EqAt.str_str a t' b t
  |_=>exact absurd (show false=true from fx) Bool.false_ne_true
 |_=>exact absurd (show false=true from fy) Bool.false_ne_true
def eqU(x:V)(u:Value):Bool:=match u with
 |.none=>eqV .non x
 |.bool b=>eqV (.bl b) x
 |.int i _=>eqV (.int i) x
 |.str z _=>eqV (.str z) x
 |_=>false
theorem adt{x y:V}{u:Value}(r:RelV y u)(f:AR y=true):eqU x u=eqV y x:=by
 cases y with
 |non=>cases r;rfl
 |bl b=>cases r;rfl
 |int i=>obtain⟨t,rfl⟩:=r;rfl
 |str z=>obtain⟨t,rfl⟩:=r;rfl
 |_=>exact absurd (show false=true from f) Bool.false_ne_true
theorem AS{x:V}:∀{xs:List V}{us:List Value},Vals xs us→xs.all AR=true→us.any (eqU x)=xs.any fun y=>eqV y x
 |_,_,.nil,_=>rfl
 |y::xs,u::us,.cons r t,f=>by
  rw[List.all_cons,Bool.and_eq_true] at f;rw[List.any_cons,List.any_cons,adt r f.1,AS t f.2]
theorem uL{A:Around}{s:Shared}{x:V}{v:Value}(rx:RelV x v)(fx:AR x=true):∀{xs:List V}{us:List Value},Vals xs us→xs.all AR=true→∀u∈us,SeqAt.EqAt A s u v (eqU x u)
 |_,_,.nil,_=>fun u hu=>by cases hu
 |y::xs,u::us,.cons r t,f=>fun u' hu=>by
  rw[List.all_cons,Bool.and_eq_true] at f;rcases List.mem_cons.mp hu with rfl|hu
  ·rw[adt r f.1];exact ah3 r rx f.1 fx
  ·exact uL rx fx t f.2 u' hu
def inV(x:V)(xs:List V):Bool:=xs.any fun y=>eqV y x
def rIn(K:PySem.W.Frag)(neg:Bool):R2:=fun x y H Q=>∃p xs,y=.ref p∧(SqL K H p xs∨SqT K H p xs)∧AR x=true∧xs.all AR=true∧Q (.bl (if neg then !inV x xs else inV x xs)) H
theorem aa6:OpR X (compareOp .In) (rIn X.K false):=by
 intro pins s σ H x y v u Q I rx ry h;obtain⟨p,xs,rfl,hq,fx,fs,q⟩:=h;cases ry;rcases hq with hq|hq
 ·obtain⟨its,r,pl,hz⟩:=I.list hq;refine SeqAt.in_listAt (eqU x) pl.isList (fun w hw=>uL rx fx r fs w (by simpa using hw)) ⟨.bl _,H,I,rfl,?_⟩;rw[show its.toArray.any (eqU x)=its.any (eqU x) by simp,AS r fs];exact q
 ·obtain⟨its,r,pl,hz⟩:=I.tuple hq;refine SeqAt.in_tupleAt (eqU x) pl (fun w hw=>uL rx fx r fs w (by simpa using hw)) ⟨.bl _,H,I,rfl,?_⟩;rw[show its.toArray.any (eqU x)=its.any (eqU x) by simp,AS r fs];exact q
theorem Qw:OpR X (compareOp .NotIn) (rIn X.K true):=by
 intro pins s σ H x y v u Q I rx ry h;obtain⟨p,xs,rfl,hq,fx,fs,q⟩:=h;cases ry;rcases hq with hq|hq
 ·obtain⟨its,r,pl,hz⟩:=I.list hq;refine SeqAt.notIn_listAt (eqU x) pl.isList (fun w hw=>uL rx fx r fs w (by simpa using hw)) ⟨.bl _,H,I,rfl,?_⟩;rw[show its.toArray.any (eqU x)=its.any (eqU x) by simp,AS r fs];exact q
 ·obtain⟨its,r,pl,hz⟩:=I.tuple hq;refine SeqAt.notIn_tupleAt (eqU x) pl (fun w hw=>uL rx fx r fs w (by simpa using hw)) ⟨.bl _,H,I,rfl,?_⟩;rw[show its.toArray.any (eqU x)=its.any (eqU x) by simp,AS r fs];exact q
theorem qU:iN X (.builtin "len") (fun xs H Q=>∃p ys,xs=[.ref p]∧(SqL X.K H p ys∨SqT X.K H p ys)∧Q (.int ys.length) H):=by
 intro pins s σ H xs us Q I r h;obtain⟨p,ys,rfl,hq,q⟩:=h;obtain⟨u,rfl,rx⟩:=vals1 r;cases rx;have hn:=Qp;rcases hq with hq|hq
 ·obtain⟨its,r',pl,hz⟩:=I.list hq;have hlen:=r'.length;exact Calls.call_len_list pl.isList (by simp only[List.size_toArray]<;>omega) ⟨.int ys.length,H,I.tok _,⟨s.toks+1,by rw[List.size_toArray,hlen]⟩,q⟩
 ·obtain⟨its,r',pl,hz⟩:=I.tuple hq;have hlen:=r'.length;exact len_tuple pl (by simp only[List.size_toArray]<;>omega) ⟨.int ys.length,H,I.tok _,⟨s.toks+1,by rw[List.size_toArray,hlen]⟩,q⟩
theorem Qx:iN X (.type "list") (fun xs H Q=>∃p ys,xs=[.ref p]∧(SqL X.K H p ys∨SqT X.K H p ys)∧∀l,H l=none→Q (.ref l) (upd H l (.lst ys))):=by
 intro pins s σ H xs us Q I r h;obtain⟨p,ys,rfl,hq,q⟩:=h;obtain⟨u,rfl,rx⟩:=vals1 r;cases rx;have fin:∀(its:List Value),Vals ys its→ys.length≤sizeLine→∀(h':Heap)(c':Nat),(∀b o',s.heap.get? b=some o'→h'.get? b=some o')→
   h'.get? s.heap.objs.size=some {cls:=.type "list",dict:=none,data:=.seq its.toArray c',slots:= #[]}→EP X pins σ Q (.ref s.heap.objs.size) {s with heap:=h'}:=fun its r' hz h' c' kp e=>
  ⟨.ref s.heap.objs.size,_,I.laid (t':=s.toks) kp (Nat.le_refl _) (show cO X.prog X.w _ h' _ (.lst ys) from⟨hz,its,c',r',e⟩),rfl,q _ (I.hok.fresh (Nat.le_refl _))⟩
 rcases hq with hq|hq
 ·obtain⟨its,r',pl,hz⟩:=I.list hq;have hlen:=r'.length;obtain⟨o,ho,hc,n,hd⟩:=pl.isList;exact call_list_seq p (.inl rfl) ho hc hd (fun h' c' kp e=>fin its r' hz h' c' kp e) (by simp only[List.size_toArray]<;>omega)
 ·obtain⟨its,r',pl,hz⟩:=I.tuple hq;have hlen:=r'.length;obtain⟨o,ho,hc,n,hd⟩:=pl;exact call_list_seq p (.inr rfl) ho hc hd (fun h' c' kp e=>fin its r' hz h' c' kp e) (by simp only[List.size_toArray]<;>omega)
theorem MH:iN X (.type "tuple") (fun xs H Q=>∃p ys,xs=[.ref p]∧((SqL X.K H p ys∧∀l,H l=none→Q (.ref l) (upd H l (.tup ys)))∨(SqT X.K H p ys∧Q (.ref p) H))):=by
 intro pins s σ H xs us Q I r h;obtain⟨p,ys,rfl,h⟩:=h;obtain⟨u,rfl,rx⟩:=vals1 r;cases rx;rcases h with⟨hq,q⟩|⟨hq,q⟩
 ·obtain⟨its,r',pl,hz⟩:=I.list hq;have hlen:=r'.length;refine call_tuple_list pl.isList (fun h' kp=>?_) (by simp only[List.size_toArray]<;>omega);have I1:Inv X pins σ H {s with heap:=h'}:=I.kept (t':=s.toks) kp;have I2:Inv X pins σ (upd H h'.objs.size (.tup ys)) {s with heap:=h'.push {cls:=.type "tuple",data:=.seq its.toArray}}:=
   I1.laid (t':=s.toks) (fun b o e=>Heap.get?_push_of_some _ e) (Nat.le_refl _) (show cO X.prog X.w _ _ _ (.tup ys) from⟨hz,its,r',IsTup.new _ _⟩)
  exact⟨.ref h'.objs.size,_,I2,rfl,q _ (I1.hok.fresh (Nat.le_refl _))⟩
 ·obtain⟨its,r',pl,hz⟩:=I.tuple hq;exact call_tuple_same pl ⟨.ref p,H,I,rfl,q⟩
def tyV(K:PySem.W.Frag)(T:String)(x:V)(H:Hp):Prop:=match x with
 |.str _=>T="str"
 |.int _=>T="int"
 |.ref p=>(T="list"∧∃xs,SqL K H p xs)∨(T="tuple"∧∃o,K.lookup p=some o∧o.cls=.type "tuple"∧o.dict=none)∨
   (T="dict"∧((∃kvs,H p=some (.dK kvs))∨∃kvs,H p=some (.dT kvs)))∨(T="set"∧∃S n,H p=some (.set S n))
 |_=>False
theorem ah4{pins:List (Addr×Obj)}{σ:St}{H:Hp}{s:Shared}{T:String}{x:V}{v:Value}(I:Inv X pins σ H s)(r:RelV x v)(ty:tyV X.K T x H):
  s.TypeIs v T∧∀a,v=.ref a→∃ob,s.heap.get? a=some ob∧ob.dict=none:=by
 cases x with
 |str z=>
  obtain⟨t,rfl⟩:=r;cases (show T="str" from ty);exact⟨typeIs_str s z t,fun _ e=>nomatch e⟩
 |int i=>
  obtain⟨t,rfl⟩:=r;cases (show T="int" from ty);exact⟨typeIs_int s i t,fun _ e=>nomatch e⟩
 |ref p=>
  cases r;rcases ty with⟨rfl,xs,hq⟩|⟨rfl,o,hk,hc,hd⟩|⟨rfl,hk⟩|⟨rfl,S,n,hk⟩
  ·obtain⟨its,_,pl,_⟩:=I.list hq;refine⟨pl.isList.typeIs,fun a e=>?_⟩;cases e;obtain⟨o,n,e,c,hd,_⟩:=pl;exact⟨o,e,hd⟩
  ·refine⟨⟨o,I.kIn p o hk,hc⟩,fun a e=>?_⟩;cases e;exact⟨o,I.kIn _ o hk,hd⟩
  ·have z:∃o,s.heap.get? p=some o∧o.ExactDict:=by
    rcases hk with⟨kvs,hk⟩|⟨kvs,hk⟩
    ·obtain⟨_,_,_,_,o,_,_,e,ex,_⟩:=I.hok p _ hk;exact⟨o,e,ex⟩
    ·obtain⟨_,_,_,_,o,_,_,e,ex,_⟩:=I.hok p _ hk;exact⟨o,e,ex⟩
   obtain⟨o,e,ex⟩:=z;refine⟨⟨o,e,ex.1⟩,fun a e2=>?_⟩;cases e2;exact⟨o,e,ex.2.1⟩
  ·obtain⟨o,_,_,_,e,ex,_⟩:=I.hok p _ hk;refine⟨⟨o,e,ex.1⟩,fun a e2=>?_⟩;cases e2;exact⟨o,e,ex.2.1⟩
 |_=>exact False.elim ty
def tBM(K:PySem.W.Frag)(T:String)(r:V→List V→Hp→VK→Prop)(to:TE)(t:TA):TE:=fun σ H Q=>to σ H fun x H1=>tyV K T x H1∧t σ H1 fun xs H2=>r x xs H2 Q
variable{o e:Expr}{es:List Expr}{to:TE}{t:TA}{name:Str}{apos cpos:Pos}{T id:String}{r:V→List V→Hp→VK→Prop}
theorem uM(pa:PlainAttrs T)(slot:Slot T name id)(hty:typeOf (.builtin id)=pure (.type "method_descriptor"))(hm:MtR X id r)(ho:PE X o to)(ha:PA X (e::es) t)
  (hbase:attributeBase o name X.env (eval o X.env)=eval o X.env:=by rfl)
  (hfew:((backTo cpos (starEach (e::es) X.env)).all (fun x=>!x.1)&&(backToKw cpos (keywordEach [] X.env)).all (fun x=>x.1.isSome)
   &&decide ((e::es).length+([]:List Keyword).length+(if([]:List Keyword).isEmpty then 0 else 1)<30))=true:=by rfl)
  (hline:(apos.endLine==cpos.line)=true:=by rfl) (hs:starEach (e::es) X.env=(false,eval e X.env)::starEach es X.env:=by rfl) (hplain:(backTo cpos (starEach es X.env)).any (·.1)=false:=by rfl):
  PE X (.Call (.Attribute o name apos) (e::es) [] cpos) (tBM X.K T r to t):=by
 intro pins s σ H Q I h;refine wpAny_Call_method_late hbase hfew hline rfl (thn (ho pins s σ H _ I h) fun v s1 ⟨x,H1,I1,r1,ty,q1⟩=>?_);obtain⟨h1,h2⟩:=ah4 I1 r1 ty;refine⟨T,id,pa,slot,hty,h1,h2,?_⟩;have hA:=ha cpos pins s1 σ H1 _ I1 q1;rw[hs] at hA⊢;refine Calls.callWith_builtin (by show (false||(backTo cpos (starEach es X.env)).any (·.1))=false;rw[hplain]<;>rfl) (Calls.evalArgs_plain ?_);exact thn hA fun us s2 ⟨vs,H2,I2,r2,q2⟩=>hm pins s2 σ H2 x vs v us Q I2 r1 r2 q2
end
end L2
namespace L2
open PySem PySem.Spec PyProof.Rows
def MtM(X:Cx)(id:String)(r:V→List V→Hp→VK→Prop):Prop:=
 ∀(pins:List (Addr×Obj))(s:Shared)(σ:St)(H:Hp)(x:V)(xs:List V)(v:Value)(us:List Value)(Q:VK),Inv X pins σ H s→RelV x v→Vals xs us→r x xs H Q→
  wpAny (model X.prog X.w) X.A (call (.builtin id) (v::us)) (EP X pins σ Q) X.xe s
theorem Vals.one:∀{x:V}{us:List Value},Vals [x] us→∃u,us=[u]∧RelV x u
 |_,_,.cons r .nil=>⟨_,rfl,r⟩
theorem Vals.rep{xs:List V}{us:List Value}(h:Vals xs us):∀k:Nat,Vals (List.replicate k xs).flatten (List.replicate k us).flatten
 |0=>.nil
 |k+1=>by
  rw[List.replicate_succ,List.replicate_succ,List.flatten_cons,List.flatten_cons];exact Vals.append h (Vals.rep h k)
theorem foldl_rep(its:List Value):∀(k:Nat)(acc:List Value),
  List.foldl (fun x1 x2=>x1++x2) acc.toArray (List.replicate k its.toArray)=(acc++(List.replicate k its).flatten).toArray
 |0,acc=>by simp
 |k+1,acc=>by
  have e:acc.toArray++its.toArray=(acc++its).toArray:=by simp
  have e2:(acc++its)++(List.replicate k its).flatten=acc++(List.replicate (k+1) its).flatten:=by
   rw[List.replicate_succ,List.flatten_cons,List.append_assoc]
  rw[←e2,←foldl_rep its k (acc++its),←e,List.replicate_succ,List.foldl_cons]
section
variable{X:Cx}{pins:List (Addr×Obj)}{σ:St}{H:Hp}{s:Shared}{l b:Addr}{xs ys zs:List V}
theorem Inv.akm{its its':List Value}{n:Nat}{f:Array Value→Array Value}{t':Nat}(I:Inv X pins σ H s)(hH:H l=some (.lst xs))
  (e:s.heap.get? l=some {cls:=.type "list",data:=.seq its.toArray n}) (hf:f its.toArray=its'.toArray) (hv:Vals ys its') (hz:ys.length≤sizeLine):
  Inv X pins σ (upd H l (.lst ys)) {s with heap:=s.heap.update l (Obj.mapSeq f),toks:=t'}:=by
 have q:=PySem.IsL.update e f;rw[hf] at q;refine I.write (x:=l) (e:=l) (by rw[hH];exact trivial) (.inl rfl) (fun b' u hb hu=>(Heap.get?_update_other s.heap (Obj.mapSeq f) (Ne.symm hb)).trans hu) ⟨_,q⟩ ?_;exact⟨hz,its',_,hv,q⟩
theorem Inv.akn{its:List Value}{t':Nat}(I:Inv X pins σ H s)(hv:Vals ys its)(hz:ys.length≤sizeLine):
  Inv X pins σ (upd H s.heap.objs.size (.lst ys)) {s with heap:=s.heap.push {cls:=.type "list",data:=.seq its.toArray},toks:=t'}:=
 I.laid (fun _ _ q=>Heap.get?_push_of_some _ q) (Nat.le_refl _) ⟨hz,its,0,hv,Heap.get?_push_size _ rfl⟩
theorem Inv.fresh(I:Inv X pins σ H s):H s.heap.objs.size=none:=I.hok.fresh (Nat.le_refl _)
theorem Inv.aa7(I:Inv X pins σ H s)(hH:H l=some (.lst xs)):xs.length≤sizeLine∧∃(its:List Value)(n:Nat),Vals xs its∧xs.length=its.length∧s.heap.get? l=some {cls:=.type "list",data:=.seq its.toArray n}:=by
 obtain⟨z,its,n,r,e⟩:=I.hok l _ hH;exact⟨z,its,n,r,r.length,e⟩
theorem Uu{n:Nat}(h:n≤sizeLine):Builtin.List.listTooLong n=false:=by
 unfold Builtin.List.listTooLong;exact decide_eq_false (by omega)
end
section
variable{X:Cx}
def Qy:V→List V→Hp→VK→Prop:=fun x vs H Q=>∃l xs y,x=.ref l∧vs=[y]∧H l=some (.lst xs)∧xs.length<sizeLine∧Q .non (upd H l (.lst (xs++[y])))
theorem jR:MtM X "list.append" Qy:=by
 intro pins s σ H x vs v us Q I rx rv h;obtain⟨l,xs,y,rfl,rfl,hH,hz,q⟩:=h;cases rx;obtain⟨u,rfl,ru⟩:=rv.one;obtain⟨z,its,n,r,hl,e⟩:=I.aa7 hH;refine call_meets F.slot_list_append ⟨_,e,rfl⟩ F.entry_list_append (F.args_list_append_2 _ _) (PySem.list_append l its.toArray n u (by rw[List.size_toArray];omega)) ⟨e,?_⟩;refine⟨.non,_,I.akm (its':=its++[u]) hH e (by simp) (r.append (.cons ru .nil)) ?_,rfl,q⟩;rw[List.length_append,List.length_singleton];omega
def afV:V→List V→Hp→VK→Prop:=fun x vs H Q=>∃l b xs zs,x=.ref l∧vs=[.ref b]∧H l=some (.lst xs)∧H b=some (.lst zs)∧xs.length+zs.length≤sizeLine∧Q .non (upd H l (.lst (xs++zs)))
theorem xm:MtM X "list.extend" afV:=by
 intro pins s σ H x vs v us Q I rx rv h;obtain⟨l,b,xs,zs,rfl,rfl,hH,hB,hz,q⟩:=h;cases rx;obtain⟨u,rfl,ru⟩:=rv.one;cases ru;obtain⟨z,its,n,r,hl,e⟩:=I.aa7 hH;obtain⟨z2,its2,n2,r2,hl2,e2⟩:=I.aa7 hB;have hsz:its.toArray.size+its2.toArray.size≤sizeLine:=by rw[List.size_toArray,List.size_toArray];omega
 have adu:¬(!its.toArray.isEmpty&&Builtin.List.listTooLong (its.toArray.size+its2.toArray.size))=true:=by
  rw[Uu hsz,Bool.and_false];exact Bool.false_ne_true
 refine call_meets F.slot_list_extend ⟨_,e,rfl⟩ F.entry_list_extend (F.args_list_extend_2 _ _)
  (AutoSeq1.list_extend_list_list_0 l its.toArray n b its2.toArray n2 adu (by rw[List.size_toArray];omega) (by omega)) ⟨e,e2,?_⟩
 refine⟨.non,_,I.akm (its':=its++its2) hH e (by simp) (r.append r2) ?_,rfl,q⟩;rw[List.length_append];omega
def amN:R2:=fun x y H Q=>∃l b xs zs,x=.ref l∧y=.ref b∧H l=some (.lst xs)∧H b=some (.lst zs)∧xs.length+zs.length≤sizeLine∧∀p,H p=none→Q (.ref p) (upd H p (.lst (xs++zs)))
theorem uN:OpR X (binaryOp .Add) amN:=by
 intro pins s σ H x y v u Q I rx ry h;obtain⟨l,b,xs,zs,rfl,rfl,hH,hB,hz,q⟩:=h;cases rx;cases ry;obtain⟨z,its,n,r,hl,e⟩:=I.aa7 hH;obtain⟨z2,its2,n2,r2,hl2,e2⟩:=I.aa7 hB;refine PySem.P.add_list e e2 ?_ (by rw[List.size_toArray,List.size_toArray];omega);have ea:its.toArray++its2.toArray=(its++its2).toArray:=by simp
 rw[ea];exact⟨.ref _,_,I.akn (t':=s.toks) (r.append r2) (by rw[List.length_append];omega),rfl,q _ I.fresh⟩
def amO:R2:=fun x y H Q=>∃l k xs,x=.ref l∧y=.int k∧H l=some (.lst xs)∧ -(2 ^ 63)≤k∧k<2 ^ 63∧xs.length*k.toNat≤sizeLine∧
 ∀p,H p=none→Q (.ref p) (upd H p (.lst (List.replicate k.toNat xs).flatten))
theorem len_rep{α:Type}(xs:List α)(k:Nat):(List.replicate k xs).flatten.length=k*xs.length:=by
 induction k with
 |zero=>simp
 |succ k ih=>rw[List.replicate_succ,List.flatten_cons,List.length_append,ih,Nat.succ_mul,Nat.add_comm]
theorem ah5:OpR X (binaryOp .Mult) amO:=by
 intro pins s σ H x y v u Q I rx ry h;obtain⟨l,k,xs,rfl,rfl,hH,h1,h2,hz,q⟩:=h;cases rx;obtain⟨t,rfl⟩:=ry;obtain⟨z,its,n,r,hl,e⟩:=I.aa7 hH;have hlen:its.toArray.size*k.toNat≤sizeLine:=by rw[List.size_toArray,←hl];exact hz
 have amP:¬its.toArray.size*k.toNat>(2 ^ 63 - 1)/8:=by
  have:(sizeLine:Nat)≤(2 ^ 63 - 1)/8:=by decide
  omega
 have hfit:¬(!Builtin.List.listFitsIndex k)=true:=by
  rw[fitsIndex_both h1 h2];exact Bool.false_ne_true
 have adu:¬Builtin.List.listTooLong (its.toArray.size*k.toNat)=true:=by
  rw[Uu hlen];exact Bool.false_ne_true
 have hnew:List.foldl (fun x1 x2=>x1++x2) #[] (List.replicate (if its.toArray.isEmpty=true then 0 else k.toNat) its.toArray)=(List.replicate k.toNat its).flatten.toArray:=by
  have f0:∀m:Nat,List.foldl (fun x1 x2=>x1++x2) #[] (List.replicate m its.toArray)=(List.replicate m its).flatten.toArray:=fun m=>by
   have:=foldl_rep its m [];rw[List.nil_append] at this;exact this
  rw[f0];cases its with
  |nil=>simp
  |cons a r'=>rw[if_neg (by simp)]
 refine wpAny_binaryOp_repeat_ref (T:="list") (U:="int") (by decide) ⟨_,e,rfl⟩ (fun s'=>typeIs_int s' k t) noFill_list_mul F.fills_int_mul F.slot_int_rmul repeat_list F.slot_int_index.lookup
  (call_meets F.slot_int_rmul (typeIs_int s k t) F.entry_int_rmul (F.args_int_rmul_2 _ _) (int___rmul___int_list k t l its.toArray n)
   ⟨e,rfl,⟨_,e,rfl⟩,call_meets F.slot_list_mul ⟨_,e,rfl⟩ F.entry_list_mul (F.args_list_mul_2 _ _) (AutoListH.list___mul___list_int_3 l its.toArray n k t hfit amP adu) ⟨e,?_⟩⟩)
 rw[hnew];exact⟨.ref _,_,I.akn (t':=s.toks) (r.rep k.toNat) (by rw[len_rep,Nat.mul_comm];exact hz),rfl,q _ I.fresh⟩
end
end L2
namespace L2
open PySem PySem.Spec PyProof.Rows
theorem Vals.ints:∀{ns:List Int}{us:List Value},Vals (ns.map V.int) us→IntsAre us ns
 |[],us,h=>by
  rw[List.map_nil] at h;cases h;exact IntsAre.nil
 |n::ns,us,h=>by
  rw[List.map_cons] at h;cases h with
  |cons r t=>
   obtain⟨k,rfl⟩:=r;exact IntsAre.cons n k (Vals.ints t)
theorem qV:∀{us:List Value}{ns:List Int},IntsAre us ns→Vals (ns.map V.int) us
 |_,_,.nil=>by rw[List.map_nil];exact Paired.nil
 |_,_,.cons n t h=>by rw[List.map_cons];exact Paired.cons (show RelV (V.int n) (Value.int n t) from⟨t,rfl⟩) (qV h)
theorem Vals.bls:∀{bs:List Bool}{us:List Value},Vals (bs.map V.bl) us→us=bs.map Value.bool
 |[],us,h=>by
  rw[List.map_nil] at h;cases h;rfl
 |b::bs,us,h=>by
  rw[List.map_cons] at h;cases h with
  |cons r t=>
   cases r;rw[Vals.bls t,List.map_cons]
theorem Vals.aa8{a:Addr}{us:List Value}(r:Vals [V.ref a] us):us=[Value.ref a]:=by
 cases r with
 |cons r t=>
  cases t;cases r;rfl
section
variable{prog:Program}{w:World}{A:Around}{E:Value→Shared→Prop}{s:Shared}{l:Addr}{its:List Value}{ns:List Int}{Q:Value→Shared→Prop}
theorem afW(hh:A.handled=none)(hl:s.heap.IsList l its.toArray)(hi:IntsAre its ns)
  (h:∀h' tk t',(∀b o,s.heap.get? b=some o→h'.get? b=some o)→Q (.int ns.sum t') {s with heap:=h',toks:=tk}):wpAny (model prog w) A (call (.builtin "sum") [.ref l]) Q E s:=by
 obtain⟨xs,e⟩:=hi.allInts.items;have hn:numsOf (intItems xs).toList=ns:=by rw[←e];exact hi.numsOf
 rw[nums_intItems] at hn;rw[e] at hl;refine PySem.sum_intListG hh hl fun h' tk t' hk=>?_;have:=h h' tk t' hk;rw[preSum_eq,List.take_of_length_le (by simp),hn];exact this
theorem amw(hh:A.handled=none)(hl:s.heap.IsList l its.toArray)(hi:IntsAre its ns)(hne:0<ns.length)
  (h:∀h' tk M t',(∀b o,s.heap.get? b=some o→h'.get? b=some o)→M∈ns→(∀a,a∈ns→a≤M)→Q (.int M t') {s with heap:=h',toks:=tk}):wpAny (model prog w) A (call (.builtin "max") [.ref l]) Q E s:=by
 obtain⟨xs,e⟩:=hi.allInts.items;have hn:numsOf (intItems xs).toList=ns:=by rw[←e];exact hi.numsOf
 rw[nums_intItems] at hn;subst hn;rw[e] at hl;have hsz:0<xs.size:=by simpa using hne
 refine PySem.max_intList hh hl hsz fun v h' tk hv hk=>?_;obtain⟨t,rfl⟩:=intItems_at hv;obtain⟨h1,h2⟩:=argBest_gt (numAt xs) (xs.size - 1);refine h h' tk _ t hk ?_ fun a ha=>?_
 ·rw[numAt_eq];exact PySem.getD_mem (by rw[List.length_map,Array.length_toList];omega)
 ·obtain⟨j,hj,rfl⟩:=mem_getD ha;rw[List.length_map,Array.length_toList] at hj;rw[←numAt_eq];exact h2 j (by omega)
theorem afX(hh:A.handled=none)(hl:s.heap.IsList l its.toArray)(hi:IntsAre its ns)(hne:0<ns.length)
  (h:∀h' tk M t',(∀b o,s.heap.get? b=some o→h'.get? b=some o)→M∈ns→(∀a,a∈ns→M≤a)→Q (.int M t') {s with heap:=h',toks:=tk}):wpAny (model prog w) A (call (.builtin "min") [.ref l]) Q E s:=by
 obtain⟨xs,e⟩:=hi.allInts.items;have hn:numsOf (intItems xs).toList=ns:=by rw[←e];exact hi.numsOf
 rw[nums_intItems] at hn;subst hn;rw[e] at hl;have hsz:0<xs.size:=by simpa using hne
 refine PySem.min_intList hh hl hsz fun v h' tk hv hk=>?_;obtain⟨t,rfl⟩:=intItems_at hv;obtain⟨h1,h2⟩:=argBest_lt (numAt xs) (xs.size - 1);refine h h' tk _ t hk ?_ fun a ha=>?_
 ·rw[numAt_eq];exact PySem.getD_mem (by rw[List.length_map,Array.length_toList];omega)
 ·obtain⟨j,hj,rfl⟩:=mem_getD ha;rw[List.length_map,Array.length_toList] at hj;rw[←numAt_eq];exact h2 j (by omega)
end
section
variable{X:Cx}
def amQ(K:PySem.W.Frag):List V→Hp→VK→Prop:=fun vs H Q=>∃(a:Addr)(ns:List Int),vs=[V.ref a]∧SqL K H a (ns.map V.int)∧Q (.int ns.sum) H
def ako(K:PySem.W.Frag):List V→Hp→VK→Prop:=fun vs H Q=>∃(a:Addr)(ns:List Int),vs=[V.ref a]∧SqL K H a (ns.map V.int)∧0<ns.length∧∀m,m∈ns→(∀y,y∈ns→m≤y)→Q (.int m) H
theorem ah6(hc:X.calm=true):iN X (.builtin "sum") (amQ X.K):=by
 intro pins s σ H vs us Q I r h;obtain⟨a,ns,rfl,hs,q⟩:=h;obtain⟨its,rv,hl,_⟩:=I.list hs;rw[Vals.aa8 r];exact afW (I.ok.hd hc) hl.isList rv.ints fun h' tk t' hk=>⟨.int _,H,I.kept hk,⟨_,rfl⟩,q⟩
theorem ah7(hc:X.calm=true):iN X (.builtin "min") (ako X.K):=by
 intro pins s σ H vs us Q I r h;obtain⟨a,ns,rfl,hs,hne,q⟩:=h;obtain⟨its,rv,hl,_⟩:=I.list hs;rw[Vals.aa8 r];exact afX (I.ok.hd hc) hl.isList rv.ints hne fun h' tk m t' hk h1 h2=>⟨.int _,H,I.kept hk,⟨_,rfl⟩,q m h1 h2⟩
def afY(K:PySem.W.Frag):List V→Hp→VK→Prop:=fun vs H Q=>∃(a:Addr)(ns:List Int),vs=[V.ref a]∧SqL K H a (ns.map V.int)∧ns.length<64∧
 ∀(ns':List Int)(p:Addr),ns'.Perm ns→ns'.Pairwise (·≤·)→H p=none→Q (.ref p) (upd H p (.lst (ns'.map V.int)))
theorem IU{n:Nat}(h:n<64):n≤sizeLine:=by rw[sizeLine_eq];omega
theorem aa9:iN X (.builtin "sorted") (afY X.K):=by
 intro pins s σ H vs us Q I r h;obtain⟨a,ns,rfl,hs,h64,q⟩:=h;obtain⟨its,rv,hl,_⟩:=I.list hs;rw[Vals.aa8 r];have hi:=rv.ints;refine PyProof.Rows.sorted_ints hl.isList hi (by rw[hi.length];exact h64) fun out ns' h1 h2 h3=>?_;obtain⟨ep,he'⟩:=PyProof.Rows.sortedAll_at s.heap its out;have hlen:(ns'.map V.int).length≤sizeLine:=by rw[List.length_map,h2.length_eq];exact IU h64
 exact⟨.ref _,upd H (s.heap.objs.size+1) (.lst (ns'.map V.int)),I.laid (t':=s.toks) (fun _ _=>PyProof.Rows.sortedAll_old) (Nat.le_succ _) ⟨hlen,out.toList,ep,qV h1,he'⟩,rfl,q ns' _ h2 h3 (I.hok.fresh (Nat.le_succ _))⟩
end
theorem adv{prog:Program}{w:World}{A:Around}{E:Value→Shared→Prop}{s:Shared}{l:Addr}{items:Array Value}{Q:Value→Shared→Prop}(hl:s.heap.IsList l items)
  (h:∀s₂:Shared,s₂={s with heap:=s.heap.push {cls:=.type "list_iterator",data:=.fields #[.ref l,.int 0 0]}}→
   (s₂.heap.IsListIter s.heap.objs.size l 0∧s₂.heap.IsList l items)→l≠s.heap.objs.size→Q (.ref s.heap.objs.size) s₂):wpAny (model prog w) A (pyIter (.ref l)) Q E s:=by
 have hlt:l<s.heap.objs.size:=by obtain⟨_,e,_⟩:=hl;exact Heap.lt_size e
 exact wpAny_pyIter_list hl (h _ rfl ⟨⟨_,Heap.get?_push_size _ rfl,rfl,rfl⟩,hl.push _⟩ (Nat.ne_of_lt hlt))
theorem Uv{prog:Program}{w:World}{A:Around}{bs:List Bool}{its:List Value}(e:its=bs.map Value.bool):
  TruthOf prog w A (fun i v=>its.toArray[i]?=some v) (fun i=>bs.getD i false):=fun i v s Q E hv hq=>by
 have hv':its[i]?=some v:=by simpa using hv
 rw[e,List.getElem?_map] at hv';obtain⟨b,hb,rfl⟩:=Option.map_eq_some_iff.mp hv';have hg:bs.getD i false=b:=by rw[List.getD_eq_getElem?_getD,hb]<;>rfl
 have hq':Q (bs.getD i false) s:=hq;rw[hg] at hq';exact wpAny_truthy_bool hq'
theorem any_range:∀bs:List Bool,(List.range bs.length).any (fun i=>bs.getD i false)=bs.any id
 |[]=>rfl
 |b::bs=>by
  rw[List.length_cons,List.range_succ_eq_map,List.any_cons,List.any_map,List.any_cons,←any_range bs]
  all_goals rfl
section
variable{X:Cx}
def amR(K:PySem.W.Frag):List V→Hp→VK→Prop:=fun vs H Q=>∃(a:Addr)(bs:List Bool),vs=[V.ref a]∧SqL K H a (bs.map V.bl)∧Q (.bl (bs.any id)) H
theorem Yg(hc:X.calm=true):iN X (.builtin "any") (amR X.K):=by
 intro pins s σ H vs us Q I r h;obtain⟨a,bs,rfl,hs,q⟩:=h;obtain⟨its,rv,hl,_⟩:=I.list hs;rw[Vals.aa8 r];have hb:=rv.bls;refine call_any_walk (adv hl.isList fun s₂ e2 st hne=>?_);subst e2;refine⟨_,_,_,_,_,_,_,rfl,Walks.list (A:=X.A.in1) (I.ok.hd hc) _ a hne its.toArray,st,Uv hb,fun h' tk hk=>?_⟩;refine⟨.bl _,H,I.kept fun b o eo=>hk b o (fun hmem=>?_) (Heap.get?_push_of_some _ eo),?_,q⟩
 ·rcases List.mem_cons.mp hmem with e1|hmem
  ·exact absurd (e1▸Heap.lt_size eo) (Nat.lt_irrefl _)
  ·cases hmem
 ·show Value.bool _=Value.bool _;rw[←any_range,hb,List.size_toArray,List.length_map]
end
end L2
namespace L2
open PySem PySem.Spec PyProof.Rows
abbrev adw(h:Heap)(c:Addr)(v:Option Value):Prop:=h.IsCell c v
def amS(scope sc:Scope):Scope:=
 {scope with names:=scope.names.map fun(n,k)=>if(k==.free&&sc.kind==.function&&sc.names.lookup n==some .cell) then(n,.cell) else(n,k)}
def cG(cells:List (Str×Addr)):List (Str×NameKind)→List (Str×Addr)→List (Str×Addr)
 |[],acc=>acc
 |(n,k)::r,acc=>if k==.free then cG cells r ((n,(cells.lookup n).getD 0)::acc) else cG cells r acc
theorem AU(env:Env)(f:Str×NameKind→List (Str×Addr)→Sem (ForInStep (List (Str×Addr))))
  (hf:∀n k c,f (n,k) c=if k==.free then(do let a←cellOf env n;pure (.yield ((n,a)::c))) else pure (.yield c)):
  ∀(names:List (Str×NameKind))(acc:List (Str×Addr)),(∀y∈names,y.2=.free→∃c,env.cells.lookup y.1=some c)→forIn names acc f=pure (cG env.cells names acc)
 |[],acc,_=>by rw[List.forIn_nil];rfl
 |(n,k)::r,acc,h=>by
  rw[List.forIn_cons,hf];have ih:=fun acc=>AU env f hf r acc fun y hy=>h y (List.mem_cons_of_mem _ hy);unfold cG;by_cases hk:(k==NameKind.free)=true
  ·rw[if_pos hk,if_pos hk];obtain⟨c,hc⟩:=h (n,k) List.mem_cons_self (by simpa using hk);have e:cellOf env n=pure c:=by unfold cellOf;rw[hc]
   rw[e];have e2:(env.cells.lookup n).getD 0=c:=by rw[hc];rfl
   rw[e2];exact ih _
  ·rw[if_neg hk,if_neg hk];exact ih _
theorem Yh{scope:Scope}{env:Env}(h:∀y∈scope.names,y.2=.free→∃c,env.cells.lookup y.1=some c):closureFor scope env=pure (cG env.cells scope.names []):=by
 simp only[closureFor];rw[AU env _ (fun n k c=>rfl) scope.names [] h];rfl
theorem mem_lookup{α:Type}:∀{l:List (Str×α)}{n:Str}{c:α},(n,c)∈l→∃c',l.lookup n=some c'
 |(k,v)::r,n,c,h=>by
  rw[List.lookup_cons];cases hb:n==k with
  |true=>exact⟨_,rfl⟩
  |false=>
   rcases List.mem_cons.mp h with e|h
   ·cases e;simp at hb
   ·exact mem_lookup h
theorem nN{cells:List (Str×Addr)}:∀{names:List (Str×NameKind)}{acc:List (Str×Addr)}{n:Str}{c:Addr},(n,c)∈cG cells names acc→(n,c)∈acc∨((n,.free)∈names∧c=(cells.lookup n).getD 0)
 |[],_,_,_,h=>.inl h
 |(m,k)::r,acc,n,c,h=>by
  unfold cG at h;split at h
  ·rename_i hk;have hk:k=.free:=by simpa using hk
   rcases nN h with h|⟨h1,h2⟩
   ·rcases List.mem_cons.mp h with e|h
    ·cases e;exact .inr ⟨hk▸List.mem_cons_self,rfl⟩
    ·exact .inl h
   ·exact .inr ⟨List.mem_cons_of_mem _ h1,h2⟩
  ·rcases nN h with h|⟨h1,h2⟩
   ·exact .inl h
   ·exact .inr ⟨List.mem_cons_of_mem _ h1,h2⟩
theorem uO{cells:List (Str×Addr)}:∀{names:List (Str×NameKind)}{acc:List (Str×Addr)}{p:Str×Addr},p∈acc→p∈cG cells names acc
 |[],_,_,h=>h
 |(m,k)::r,acc,p,h=>by
  unfold cG;split
  ·exact uO (List.mem_cons_of_mem _ h)
  ·exact uO h
theorem uP{cells:List (Str×Addr)}:∀{names:List (Str×NameKind)}{acc:List (Str×Addr)}{n:Str},(n,.free)∈names→(n,(cells.lookup n).getD 0)∈cG cells names acc
 |(m,k)::r,acc,n,h=>by
  unfold cG;rcases List.mem_cons.mp h with e|h
  ·cases e;exact uO List.mem_cons_self
  ·split
   ·exact uP h
   ·exact uP h
theorem pI:∀{names:List (Str×NameKind)}{h:Heap}{acc:List (Str×Addr)}{x:Str}{c:Addr},(x,c)∈cellsFrom h.objs.size names acc→
  (x,c)∈acc∨((x,.cell)∈names∧h.objs.size≤c∧adw (pushCells h names) c none)
 |[],_,_,_,_,h=>.inl h
 |(n,k)::r,h,acc,x,c,hm=>by
  unfold cellsFrom at hm;unfold pushCells;split at hm
  ·rename_i hk;rw[if_pos hk];have hk:k=.cell:=by simpa using hk
   rw[←Heap.size_push h {cls:=.type "cell",data:=.cell none}] at hm;rcases pI hm with hm|⟨h1,h2,h3⟩
   ·rcases List.mem_cons.mp hm with e|hm
    ·cases e;exact .inr ⟨hk▸List.mem_cons_self,Nat.le_refl _,_,pushCells_keeps r _ _ _ (Heap.get?_push_size _ rfl),rfl⟩
    ·exact .inl hm
   ·rw[Heap.size_push] at h2;exact .inr ⟨List.mem_cons_of_mem _ h1,Nat.le_of_succ_le h2,h3⟩
  ·rename_i hk;rw[if_neg hk];rcases pI hm with hm|⟨h1,h2,h3⟩
   ·exact .inl hm
   ·exact .inr ⟨List.mem_cons_of_mem _ h1,h2,h3⟩
theorem xn:∀{names:List (Str×NameKind)}{n:Nat}{acc:List (Str×Addr)}{p:Str×Addr},p∈acc→p∈cellsFrom n names acc
 |[],_,_,_,h=>h
 |(m,k)::r,n,acc,p,h=>by
  unfold cellsFrom;split
  ·exact xn (List.mem_cons_of_mem _ h)
  ·exact xn h
theorem DJ:∀{names:List (Str×NameKind)}{n:Nat}{acc:List (Str×Addr)}{x:Str},(x,.cell)∈names→∃c,(x,c)∈cellsFrom n names acc
 |(m,k)::r,n,acc,x,h=>by
  unfold cellsFrom;rcases List.mem_cons.mp h with e|h
  ·cases e;exact⟨n,xn List.mem_cons_self⟩
  ·split
   ·exact DJ h
   ·exact DJ h
theorem DK:∀{names:List (Str×NameKind)}{h:Heap}{acc:List (Str×Addr)}{x y:Str}{c:Addr},(∀p∈acc,p.2<h.objs.size)→(∀x y c,(x,c)∈acc→(y,c)∈acc→x=y)→
  (x,c)∈cellsFrom h.objs.size names acc→(y,c)∈cellsFrom h.objs.size names acc→x=y
 |[],_,_,_,_,_,_,hi,h1,h2=>hi _ _ _ h1 h2
 |(n,k)::r,h,acc,x,y,c,hl,hi,h1,h2=>by
  unfold cellsFrom at h1 h2;split at h1
  ·rename_i hk;rw[if_pos hk] at h2;rw[←Heap.size_push h {cls:=.type "cell",data:=.cell none}] at h1 h2;refine DK (h:=h.push _) (fun p hp=>?_) (fun x y c a b=>?_) h1 h2
   ·rw[Heap.size_push];rcases List.mem_cons.mp hp with rfl|hp
    ·exact Nat.lt_succ_self _
    ·exact Nat.lt_succ_of_lt (hl p hp)
   ·rcases List.mem_cons.mp a with e|a<;>rcases List.mem_cons.mp b with e'|b
    ·cases e;cases e';rfl
    ·cases e;exact absurd (hl _ b) (Nat.lt_irrefl _)
    ·cases e';exact absurd (hl _ a) (Nat.lt_irrefl _)
    ·exact hi _ _ _ a b
  ·rename_i hk;rw[if_neg hk] at h2;exact DK hl hi h1 h2
theorem Uw{M:Model}{A:Around}{E:Value→Shared→Prop}{s:Shared}{scope:Scope}{globals:Addr}{closure:List (Str×Addr)}{qual:Str}{func:Option Addr}{code:Value}{around:Env}{builtins:Addr}{Q:Env→Shared→Prop}
  (h:Q (newEnv scope s.heap.objs.size globals (cellsFrom (s.heap.objs.size+1) scope.names closure) qual func code (some around) builtins)
   {s with heap:=pushCells (s.heap.push {cls:=.type "dict",data:=.dict #[]}) scope.names}):
  wpAny M A (newFunctionEnv scope globals closure [] qual func code (some around) builtins) Q E s:=by
 simp only[newFunctionEnv,Option.isSome_some,if_true];refine wpAny_bind (wpAny_alloc ?_);refine wpAny_bind (wpAny_layCells _ (fun n k c=>rfl) scope.names closure _ _ ?_);rw[show ({s with heap:=s.heap.push {cls:=.type "dict",data:=.dict #[]}}:Shared).heap.objs.size=s.heap.objs.size+1 from Heap.size_push ..];rw[List.forIn_nil];exact wpAny_bind (wpAny_pure (wpAny_pure h))
theorem uQ{sc:Scope}:∀{names:List (Str×NameKind)}{x:Str}{k:NameKind},
  (names.map fun(n,k)=>if(k==NameKind.free&&sc.kind==.function&&sc.names.lookup n==some .cell) then(n,NameKind.cell) else(n,k)).lookup x=some k→
  ∃k',names.lookup x=some k'∧(k=k'∨(k'=.free∧k=.cell))
 |[],_,_,h=>by simp at h
 |(n,k₀)::r,x,k,h=>by
  have ih:= @uQ sc r x k;have h':List.lookup x ((if(k₀==NameKind.free&&sc.kind==.function&&sc.names.lookup n==some .cell)=true then(n,NameKind.cell) else(n,k₀))::(r.map _))=some k:=h;cases hx:x==n with
  |true=>
   simp only[List.lookup_cons,hx];by_cases hc:(k₀==NameKind.free&&sc.kind==.function&&sc.names.lookup n==some .cell)=true
   ·rw[if_pos hc] at h';simp only[List.lookup_cons,hx] at h';cases h';simp only[Bool.and_eq_true,beq_iff_eq] at hc;exact⟨k₀,rfl,.inr ⟨hc.1.1,rfl⟩⟩
   ·rw[if_neg hc] at h';simp only[List.lookup_cons,hx] at h';cases h';exact⟨_,rfl,.inl rfl⟩
  |false=>
   simp only[List.lookup_cons,hx];by_cases hc:(k₀==NameKind.free&&sc.kind==.function&&sc.names.lookup n==some .cell)=true
   ·rw[if_pos hc] at h';simp only[List.lookup_cons,hx] at h';exact ih h'
   ·rw[if_neg hc] at h';simp only[List.lookup_cons,hx] at h';exact ih h'
structure ku(N:List Str)(sc scope:Scope)(own:List (Str×Nat)):Prop where
 kind:scope.kind=.function
 uniq:∀y∈scope.names,scope.names.lookup y.1=some y.2
 ix:∀p∈own,N[p.2]?=some p.1
 free:∀y∈scope.names,y.2=.free→sc.names.lookup y.1=some .cell∨sc.names.lookup y.1=some .free
 own:∀y∈scope.names,y.2=.local∨y.2=.cell→y.1∈own.map (·.1)∨y.1∉N
def wipe(σ:St):List Nat→St
 |[]=>σ
 |v::vs=>(wipe σ vs).set v none
theorem uR(σ:St):∀vs:List Nat,(wipe σ vs).length=σ.length
 |[]=>rfl
 |v::vs=>by unfold wipe;rw[List.length_set,uR σ vs]
theorem DL{σ:St}{i:Nat}{x:V}:∀{vs:List Nat},(wipe σ vs)[i]?=some (some x)→σ[i]?=some (some x)∧i∉vs
 |[],h=>⟨h,by simp⟩
 |v::vs,h=>by
  unfold wipe at h;by_cases hi:v=i
  ·subst hi;by_cases hv:v<(wipe σ vs).length
   ·rw[List.getElem?_set_self hv] at h;cases h
   ·rw[List.getElem?_eq_none (by simpa using hv)] at h;cases h
  ·rw[List.getElem?_set_ne hi] at h;obtain⟨h1,h2⟩:=DL h;exact⟨h1,by simp only[List.mem_cons,not_or];exact⟨fun e=>hi e.symm,h2⟩⟩
abbrev Cx.blk(X:Cx)(s:Shared)(H:Hp)(scope:Scope)(cenv:Env)(fp:List Addr):Cx:={X with s_0:=s,H_0:=H,env:=cenv,outer:=X.stack,ex:=fp,fn:=fun x=>scope.names.lookup x==some .cell,pn:=[],xe:=fun _ _=>False}
section
variable{X:Cx}{pins:List (Addr×Obj)}{σ:St}{H:Hp}{s:Shared}
theorem Ux{scope:Scope}{own:List (Str×Nat)}{fp:List Addr}(I:Inv X pins σ H s)(ok:ku X.N X.env.scope scope own)(hN:X.N.Nodup)(hfp:∀b∈fp,DH X pins H b∧b<s.heap.objs.size):
  Inv (X.blk s H scope (compEnvC scope (cellsFrom (s.heap.objs.size+1) scope.names (cG X.env.cells scope.names [])) s.heap.objs.size X.env) fp) [] (wipe σ (own.map (·.2))) H {s with heap:=pushCells (s.heap.push {cls:=.type "dict",data:=.dict #[]}) scope.names}:=by
 have hfree:∀y∈scope.names,y.2=.free→∃c,X.env.cells.lookup y.1=some c:=fun y hy e=>by
  rcases ok.free y hy e with k|k
  ·exact I.ok.has _ (.inl k)
  ·exact I.ok.has _ (.inr k)
 generalize Uy:compEnvC scope (cellsFrom (s.heap.objs.size+1) scope.names (cG X.env.cells scope.names [])) s.heap.objs.size X.env=cenv;have kp:∀b o,s.heap.get? b=some o→(pushCells (s.heap.push {cls:=.type "dict",data:=.dict #[]}) scope.names).get? b=some o:=fun b o e=>pushCells_keeps _ _ _ _ (Heap.get?_push_of_some _ e);have hL:cenv.locals=s.heap.objs.size:=by rw[←Uy];rfl
 have hcl:cenv.cells=cellsFrom (s.heap.objs.size+1) scope.names (cG X.env.cells scope.names []):=by rw[←Uy];rfl
 have hsc:cenv.scope=amS scope X.env.scope:=by rw[←Uy];rfl
 rw[←Heap.size_push s.heap {cls:=.type "dict",data:=.dict #[]}] at hcl;have cm:∀{y c},(y,c)∈cG X.env.cells scope.names []→X.env.cells.lookup y=some c∧c<s.heap.objs.size:=fun{y c} hm=>by
  rcases nN hm with hm|⟨h1,rfl⟩
  ·cases hm
  ·obtain⟨c,hc⟩:=hfree _ h1 rfl;rw[hc];obtain⟨w,z⟩:=I.cell _ _ hc;exact⟨rfl,z.lt⟩
 have mem:∀{y c},cenv.cells.lookup y=some c→(X.env.cells.lookup y=some c∧c<s.heap.objs.size)∨(s.heap.objs.size+1≤c∧adw (pushCells (s.heap.push {cls:=.type "dict",data:=.dict #[]}) scope.names) c none):=fun{y c} e=>by
  rw[hcl] at e;rcases pI (PySem.mem_of_lookup e) with hm|⟨_,h2,h3⟩
  ·exact .inl (cm hm)
  ·rw[Heap.size_push] at h2;exact .inr ⟨h2,h3⟩
 have look:∀{y},scope.names.lookup y=some .free→∃c,cenv.cells.lookup y=some c∧X.env.cells.lookup y=some c:=fun{y} hl=>by
  have hy:(y,NameKind.free)∈scope.names:=PySem.mem_of_lookup hl;obtain⟨c',e'⟩:=mem_lookup (xn (names:=scope.names) (n:=(s.heap.push {cls:=.type "dict",data:=.dict #[]}).objs.size) (uP (cells:=X.env.cells) (acc:=[]) hy));rw[←hcl] at e';refine⟨c',e',?_⟩;rw[hcl] at e';rcases pI (PySem.mem_of_lookup e') with hm|⟨h1,_,_⟩
  ·exact(cm hm).1
  ·have:=ok.uniq _ h1;rw[hl] at this;cases this
 have okB:(X.blk s H scope cenv fp).Ok:=by
  refine⟨I.ok.mod,by show cenv.scope.kind=_;rw[hsc];exact ok.kind,by show cenv.globals=_;rw[←Uy];exact I.ok.glob,by show cenv.builtins=_;rw[←Uy];exact I.ok.blt,by show s.heap.objs.size≤cenv.locals;rw[hL];exact Nat.le_refl _,
   fun y z c e1 e2=>?_,fun y hy=>?_,fun y c z e=>?_,I.ok.hd,I.ok.frames,.inl rfl,fun b hb=>⟨?_,fun y c e z=>?_⟩,I.bs,Nat.le_trans I.ok.bsz I.sz,fun b o e hb=>?_,fun b hb z=>?_,I.stack,I.ZN⟩
  ·have e1:cenv.cells.lookup y=some c:=e1;have e2:cenv.cells.lookup z=some c:=e2;rw[hcl] at e1 e2;refine DK (fun p hp=>?_) (fun y z c a b=>I.ok.inj y z c (cm a).1 (cm b).1) (PySem.mem_of_lookup e1) (PySem.mem_of_lookup e2);rw[Heap.size_push];exact Nat.lt_succ_of_lt (cm (y:=p.1) (c:=p.2) hp).2
  ·show∃c,cenv.cells.lookup y=some c;have key:∀k,cenv.kindOf y=some k→(k=.cell∨k=.free)→∃c,cenv.cells.lookup y=some c:=fun k hk hk'=>by
    unfold Env.kindOf at hk;rw[hsc] at hk;obtain⟨k',e,r⟩:=uQ hk;have:k'=.cell∨k'=.free:=by
     rcases r with rfl|⟨rfl,_⟩
     ·exact hk'
     ·exact .inr rfl
    rcases this with rfl|rfl
    ·obtain⟨c,hm⟩:=DJ (n:=(s.heap.push {cls:=.type "dict",data:=.dict #[]}).objs.size) (acc:=cG X.env.cells scope.names []) (PySem.mem_of_lookup e);obtain⟨c',e'⟩:=mem_lookup hm;exact⟨c',by rw[hcl];exact e'⟩
    ·obtain⟨c,h1,_⟩:=look e;exact⟨c,h1⟩
   rcases hy with hy|hy
   ·exact key _ hy (.inl rfl)
   ·exact key _ hy (.inr rfl)
  ·have z:(scope.names.lookup y==some NameKind.cell)=true:=z;have z:scope.names.lookup y=some .cell:=by simpa using z
   have e:cenv.cells.lookup y=some c:=e;rw[hcl] at e;rcases pI (PySem.mem_of_lookup e) with hm|⟨_,h2,_⟩
   ·rcases nN hm with hm|⟨h1,_⟩
    ·cases hm
    ·have q:=ok.uniq _ h1;rw[z] at q;cases q
   ·rw[Heap.size_push] at h2;exact Nat.le_of_succ_le h2
  ·show b≠cenv.locals;rw[hL];exact Nat.ne_of_lt (hfp b hb).2
  ·have e:cenv.cells.lookup y=some c:=e;rcases mem e with⟨h1,_⟩|⟨h1,_⟩
   ·exact(hfp b hb).1.2.2.2.2.1 y c h1 z
   ·have h2:s.heap.objs.size+1≤b:=by rw[←z];exact h1
    exact absurd (Nat.lt_of_lt_of_le (hfp b hb).2 (Nat.le_of_succ_le h2)) (Nat.lt_irrefl _)
  ·rcases (hfp b hb).1.2.2.2.1 with z|z
   ·exact I.ok.ac5 b o e z
   ·exact absurd (Nat.lt_of_lt_of_le (Heap.lt_size e) (Nat.le_trans I.ok.bsz z)) (Nat.lt_irrefl _)
  ·rcases List.mem_cons.mp (I.X3 b z) with z|z
   ·exact(hfp b hb).1.2.1 z
   ·exact(hfp b hb).1.2.2.1 z
 refine⟨okB,rfl,I.bare,Un.kept kp,⟨fun _=>none,?_,fun i y av e1 e2 e3=>?_⟩,fun y c e=>?_,?_,fun y c e=>?_,fun p hp=>?_,I.hok.kept kp,by rw[uR];exact I.len⟩
 ·show Heap.Ns _ cenv.locals _;rw[hL];exact Heap.Ns.keeps (Heap.Ns.new ..) fun b o e=>pushCells_keeps _ _ _ _ e
 ·obtain⟨e2,hne⟩:=DL e2;have hfr:scope.names.lookup y=some .free∧(cenv.kindOf y=some .cell∨cenv.kindOf y=some .free):=by
   have key:∀k,cenv.scope.names.lookup y=some k→k=.local∨k=.cell∨k=.free→scope.names.lookup y=some .free∧(cenv.kindOf y=some .cell∨cenv.kindOf y=some .free):=fun k hk hk'=>by
    have hk0:=hk;rw[hsc] at hk;obtain⟨k',e,r⟩:=uQ hk;have no:¬(k'=.local∨k'=.cell):=fun hh=>by
     rcases ok.own _ (PySem.mem_of_lookup e) hh with e'|e'
     ·obtain⟨p,hp,hpy⟩:=List.mem_map.mp e';have e3:=ok.ix p hp;have:p.1=y:=hpy;rw[this] at e3;exact hne (List.mem_map.mpr ⟨p,hp,Je hN e3 e1⟩)
     ·exact e' (List.mem_of_getElem? e1)
    rcases r with rfl|⟨rfl,rfl⟩
    ·rcases hk' with rfl|rfl|rfl
     ·exact absurd (.inl rfl) no
     ·exact absurd (.inr rfl) no
     ·exact⟨e,.inr hk0⟩
    ·exact⟨e,.inl hk0⟩
   have e3:Vis cenv.scope y:=e3;rcases e3 with e3|e3|e3
   ·exact key _ e3 (.inl rfl)
   ·exact key _ e3 (.inr (.inl rfl))
   ·exact key _ e3 (.inr (.inr rfl))
  obtain⟨m,hn,hl⟩:=I.loc;have amT:Vis X.env.scope y:=(ok.free _ (PySem.mem_of_lookup hfr.1) rfl).elim (fun k=>.inr (.inl k)) (fun k=>.inr (.inr k));obtain⟨w,r,q⟩:=hl i y av e1 e2 amT;refine⟨w,r,.inr ⟨hfr.2,?_⟩⟩;obtain⟨c,h1,h2⟩:=look hfr.1;rcases q with⟨k,_⟩|⟨_,c',e',z⟩
  ·have k:X.env.scope.names.lookup y=some .local:=k;rcases ok.free _ (PySem.mem_of_lookup hfr.1) rfl with k'|k'<;>rw[show X.env.scope.names.lookup y=_ from k'] at k<;>cases k
  ·rw[h2] at e';cases e';exact⟨c,h1,z.keeps kp⟩
 ·have e:cenv.cells.lookup y=some c:=e;rcases mem e with⟨h1,_⟩|⟨_,z⟩
  ·obtain⟨w,z⟩:=I.cell y c h1;exact⟨w,z.keeps kp⟩
  ·exact⟨_,z⟩
 ·show H cenv.locals=none;rw[hL];exact I.hok.fresh (Nat.le_refl _)
 ·have e:cenv.cells.lookup y=some c:=e;rcases mem e with⟨h1,_⟩|⟨h1,_⟩
  ·exact I.pH y c h1
  ·exact I.hok.fresh (Nat.le_of_succ_le h1)
 ·exact absurd (show p∈([]:List (Addr×Obj))++[] from hp) (by simp)
theorem ah8{E:Value→Shared→Prop}{D:Addr}{xs:List V}{y:V}{v:Value}{Q:Value→Shared→Prop}(I:Inv X pins σ H s)(hD:H D=some (.lst xs))(hz:xs.length<sizeLine)(r:RelV y v)
  (h:∀s',Inv X pins σ (upd H D (.lst (xs++[y]))) s'→Q .none s'):wpAny (model X.prog X.w) X.A (call (.builtin "list.append") [.ref D,v]) Q E s:=by
 obtain⟨hz',its,n,ri,e⟩:=I.hok D _ hD;have hl:=ri.length;refine append_at (hsz:=by rw[List.size_toArray];omega) e fun h' sb ho'=>?_;refine h {s with heap:=h'} (I.write (t':=s.toks) (by rw[hD];trivial) (.inl rfl) (fun b u hb q=>(sb.2 b hb).trans q) ⟨_,ho'⟩ ⟨by rw[List.length_append];exact hz,its++[v],n+1,ri.append (.cons r .nil),?_⟩);rw[ho'];simp
def PTs(X:Cx)(ifs:List Expr)(t:TT):Prop:=
 ∀(pins:List (Addr×Obj))(s:Shared)(σ:St)(H:Hp)(Q:Bool→Hp→Prop),Inv X pins σ H s→t σ H Q→
  wpAny (model X.prog X.w) X.A (forIn ifs true fun c r=>if r=true then do let ok←isTrue c X.env (eval c X.env);pure (ForInStep.yield ok) else pure (ForInStep.yield r)) (TP X pins σ Q) X.xe s
def amU:TT:=fun _ H Q=>Q true H
theorem IV:PTs X [] amU:=fun _ _ _ H _ I h=>wpAny_tests_nil ⟨H,I,h⟩
theorem lS{c:Expr}{t:TT}(h:PT X c t):PTs X [c] t:=fun pins s σ H Q I hw=>wpAny_tests_one (h pins s σ H Q I hw)
end
theorem aba{α:Type}{t:Sem α}{Q Q':α→Shared→Prop}{M:Model}{A:Around}{E:Value→Shared→Prop}{s:Shared}(h:wpAny M A t Q (fun _ _=>False) s)(hQ:∀a s,Q a s→Q' a s):wpAny M A t Q' E s:=wpAny_mono h hQ fun _ _ z=>False.elim z
theorem Qz{prog:Program}{w:World}{A:Around}{R:Result→Shared→Prop}{s:Shared}{elt target iter:Expr}{ifs:List Expr}{scope:Scope}{pos:Pos}{it acc:Value}{env:Env}(I:Nat→Shared→Prop)
  (turn:∀n s,I n s→wpAny (model prog w) A (pyNext it) (fun r s₁=>match r with
   |none=>R (.ok .next) s₁
   |some v=>wpAny (model prog w) A (letOwnedTupleGo target it v) (fun _ s₁'=>wpAny (model prog w) A (assign target env v) (fun _ s₂=>
     wpAny (model prog w) A (forIn ifs true fun c r=>if r=true then do let ok←isTrue c env (eval c env);pure (ForInStep.yield ok) else pure (ForInStep.yield r)) (fun ok s₃=>
      if ok=true then wpAny (model prog w) A (eval elt env) (fun x s₄=>
       wpAny (model prog w) A (call (.builtin "list.append") [acc,x]) (fun _ s₅=>∃m,m<n∧I m s₅) (notedBy (model prog w) A env fun e s'=>R (.error e) s') s₄) (notedBy (model prog w) A env fun e s'=>R (.error e) s') s₃
      else∃m,m<n∧I m s₃) (notedBy (model prog w) A env fun e s'=>R (.error e) s') s₂) (notedBy (model prog w) A env fun e s'=>R (.error e) s') s₁') (notedBy (model prog w) A env fun e s'=>R (.error e) s') s₁) (notedBy (model prog w) A env fun e s'=>R (.error e) s') s)
  (n:Nat) (h:I n s):
  codeAny (model prog w) A (.compLoop (.ListComp elt [⟨target,iter,ifs,0⟩] scope pos) 0 it acc env) R s:=by
 refine codeAny_loop rfl I (fun n s hI=>?_) n h;show wpAny _ A ((compTurn (.ListComp elt [⟨target,iter,ifs,0⟩] scope pos) 0 it acc env).onRaise (fun x=>do noteFrame x env;theTreesLotGoes x)) _ _ s;refine wpAny_noted ?_;rw[compTurn_list];refine wpAny_bind (wpAny_standAt (wpAny_bind (wpAny_mono (turn n s hI) (fun r s₁ h₁=>?_) fun _ _ h'=>h')));cases r with
 |none=>exact wpAny_pure h₁
 |some v=>
  refine wpAny_bind (wpAny_mono h₁ (fun _ s₁' h₁'=>?_) fun _ _ h'=>h');refine wpAny_bind (wpAny_mono h₁' (fun _ s₂ h₂=>wpAny_bind (wpAny_mono h₂ (fun ok s₃ h₃=>?_) fun _ _ h'=>h')) fun _ _ h'=>h');cases ok with
  |false=>exact wpAny_pure ⟨rfl,h₃⟩
  |true=>
   exact wpAny_bind (wpAny_bind (wpAny_mono h₃ (fun x s₄ h₄=>wpAny_bind (wpAny_mono h₄ (fun _ s₅ h₅=>wpAny_pure (wpAny_pure ⟨rfl,h₅⟩)) fun _ _ h'=>h')) fun _ _ h'=>h'))
section
variable{X:Cx}
def tLc(wi:TI)(g:TG)(tt:TT)(te:TE)(vs:List Nat):TE:=fun σ H Q=>wi σ H fun J H1=>∀D,H1 D=none→∃W:Nat→Nat→Hp→Prop,(∃m,W 0 m (upd H1 D (.lst [])))∧∀i m H,W i m H→
 (J.stop i H∧Q (.ref D) H)∨(J.go i H∧∃Nx:Hp→Prop,(∀H',Nx H'→∃m',m'<m∧W (i+1) m' H')∧∀x H',J.yld i H x H'→g x (wipe σ vs) H' fun σ2 H2=>wipe σ2 vs=wipe σ vs∧tt σ2 H2 fun b H3=>
  if b=true then te σ2 H3 fun y H4=>∃acc,H4 D=some (.lst acc)∧acc.length<sizeLine∧Nx (upd H4 D (.lst (acc++[y]))) else Nx H3)
theorem ZX{pins:List (Addr×Obj)}{s:Shared}{σ:St}{H:Hp}{Q:VK}{elt tg iter:Expr}{ifs:List Expr}{scope:Scope}{own:List (Str×Nat)}{pos pos':Pos}{wi:TI}{g:TG}{tt:TT}{te:TE}{use:Option (Value→Sem Unit)}{Qf:Value→Shared→Prop}
  (hc:X.calm=true) (hN:X.N.Nodup) (I:Inv X pins σ H s) (hi:PI X tg iter wi) (ok:ku X.N X.env.scope scope own)
  (hg:∀(s:Shared)(H:Hp)(C:Addr)(cl:List (Str×Addr))(fp:List Addr),PG (X.blk s H scope (compEnvC scope cl C X.env) fp) tg g) (ht:∀(s:Shared)(H:Hp)(C:Addr)(cl:List (Str×Addr))(fp:List Addr),PTs (X.blk s H scope (compEnvC scope cl C X.env) fp) ifs tt)
  (he:∀(s:Shared)(H:Hp)(C:Addr)(cl:List (Str×Addr))(fp:List Addr),PE (X.blk s H scope (compEnvC scope cl C X.env) fp) elt te) (hs:∀x,foldedSetIterable iter X.env x=pure x)
  (h:tLc wi g tt te (own.map (·.2)) σ H Q)
  (hRR:∀D C s' m H',Inv X pins σ H' s'→Q (.ref D) H'→s'.heap.Ns C m→DH X pins H' C→compPost (model X.prog X.w) X.A X.xe use Qf (.ref D) C (.ok .next) s'):
  wpAny (model X.prog X.w) X.A (comprehension (.ListComp elt [⟨tg,iter,ifs,0⟩] scope pos) scope X.env pos' (newList []) false (eval iter X.env) use) Qf X.xe s:=by
 have hfree:∀y∈scope.names,y.2=.free→∃c,X.env.cells.lookup y.1=some c:=fun y hy e=>by
  rcases ok.free y hy e with k|k
  ·exact I.ok.has _ (.inl k)
  ·exact I.ok.has _ (.inr k)
 refine wpAny_comprehension_free (use:=use) rfl hs (Yh hfree) ok.kind (fun y hy e=>by rw[ok.uniq y hy,e])
  (thn (hi pins s σ H _ I h) fun xv s1 hx=>thn hx fun itv s2 h2=>?_)
 obtain⟨it,fp,tn,J,H2,e,I2,T,st2,f2,q⟩:=h2;subst e;refine wpAny_newObj_type (Uw ?_) (by show 0≤sizeLine;decide);generalize hD:s2.heap.objs.size=D;have hDn:H2 D=none:=I2.hok.fresh (Nat.le_of_eq hD);obtain⟨W,⟨m0,w0⟩,turn⟩:=q D hDn;generalize hs3:({s2 with heap:=s2.heap.push {cls:=.type "list",data:=.seq ([]:List Value).toArray}}:Shared)=s3;have I3:Inv X pins σ (upd H2 D (.lst [])) s3:=by
  rw[←hs3];refine I2.laid (t':=s2.toks) (fun b o e=>Heap.get?_push_of_some _ e) (Nat.le_of_eq hD) ⟨Nat.zero_le _,[],0,.nil,?_⟩;rw[←hD];exact Heap.get?_push_size _ rfl
 have h3:s3.heap=s2.heap.push {cls:=.type "list",data:=.seq ([]:List Value).toArray}:=by rw[←hs3]
 have sz:∀b∈fp,b<s2.heap.objs.size:=fun b hb=>by
  obtain⟨o,e,_⟩:=T.obj _ _ st2 b hb;exact Heap.lt_size e
 have f3:∀b∈fp,DH X pins (upd H2 D (.lst [])) b∧b<s3.heap.objs.size:=fun b hb=>by
  have hlt:=sz b hb;refine⟨⟨?_,(f2 b hb).2⟩,by rw[h3,Heap.size_push];exact Nat.lt_succ_of_lt hlt⟩;rw[ab (by rw[←hD];exact Nat.ne_of_lt hlt)];exact(f2 b hb).1
 have st3:tn 0 s3.heap:=T.keep _ _ _ st2 fun b _ o e=>by rw[h3];exact Heap.get?_push_of_some _ e
 have I4:=Ux I3 ok hN f3;have pg:=hg s3 (upd H2 D (.lst [])) s3.heap.objs.size (cellsFrom (s3.heap.objs.size+1) scope.names (cG X.env.cells scope.names [])) fp;have pt:=ht s3 (upd H2 D (.lst [])) s3.heap.objs.size (cellsFrom (s3.heap.objs.size+1) scope.names (cG X.env.cells scope.names [])) fp;have pe:=he s3 (upd H2 D (.lst [])) s3.heap.objs.size (cellsFrom (s3.heap.objs.size+1) scope.names (cG X.env.cells scope.names [])) fp;show codeAny _ _ (.compStart (.ListComp elt [⟨tg,iter,ifs,0⟩] scope pos) 0 (.ref it) (.ref D) (compEnvC scope (cellsFrom (s3.heap.objs.size+1) scope.names (cG X.env.cells scope.names [])) s3.heap.objs.size X.env)) (compPost (model X.prog X.w) X.A X.xe use Qf (.ref D) s3.heap.objs.size) {s3 with heap:=pushCells (s3.heap.push {cls:=.type "dict",data:=.dict #[]}) scope.names};have nfp:∀b∈fp,(upd H2 D (.lst [])) b=none:=fun b hb=>(f3 b hb).1.1;generalize hce:compEnvC scope (cellsFrom (s3.heap.objs.size+1) scope.names (cG X.env.cells scope.names [])) s3.heap.objs.size X.env=ce at I4 pg pt pe⊢;have cL:ce.locals=s3.heap.objs.size:=by subst hce;rfl
 generalize hH3:upd H2 D (.lst [])=H3 at I3 I4 pg pt pe w0 nfp f3;generalize hs4:({s3 with heap:=pushCells (s3.heap.push {cls:=.type "dict",data:=.dict #[]}) scope.names}:Shared)=s4 at I4⊢;have st4:tn 0 s4.heap:=T.keep _ _ _ st3 fun b _ o e=>by rw[←hs4];exact pushCells_keeps _ _ _ _ (Heap.get?_push_of_some _ e)
 have stat:∀{σ':St}{H':Hp}{s':Shared},Inv (X.blk s3 H3 scope ce fp) [] σ' H' s'→(∀b∈fp,H' b=none)→∀b∈fp,DH (X.blk s3 H3 scope ce fp) [] H' b:=fun{σ' H' s'} I' hn b hb=>
  ⟨hn b hb,(I'.ok.exf b hb).1,I'.ok.ac6 b hb,.inl hb,fun x c e=>(I'.ok.exf b hb).2 x c e,fun p hp=>absurd (show p∈([]:List (Addr×Obj))++[] from hp) (by simp)⟩
 have loop:codeAny (model X.prog X.w) X.A (.compLoop (.ListComp elt [⟨tg,iter,ifs,0⟩] scope pos) 0 (.ref it) (.ref D) ce) (compPost (model X.prog X.w) X.A X.xe use Qf (.ref D) s3.heap.objs.size) s4:=by
  refine Qz (fun n s'=>∃i H',Inv (X.blk s3 H3 scope ce fp) [] (wipe σ (own.map (·.2))) H' s'∧tn i s'.heap∧(∀b∈fp,H' b=none)∧W i n H') ?_ m0 ⟨0,H3,I4,st4,nfp,w0⟩;rintro n s5 ⟨i,H5,I5,st5,n5,w5⟩;rcases turn i n H5 w5 with⟨stop,qq⟩|⟨go,Nx,hNx,step⟩
  ·have td:=T.done (X.blk s3 H3 scope ce fp) rfl rfl rfl hc i [] s5 _ H5 (fun _ _=>False) I5 (stat I5 n5) st5 stop;refine aba td fun r s6 ⟨hr,I6⟩=>?_;subst hr;have I7:Inv X pins σ H5 s6:=I3.call' (ch:=fp) I6.os I6.base I6.hok I6.bare fun b hb=>⟨(f3 b hb).1.2.2.2.1,(f3 b hb).1.2.1,(f3 b hb).1.2.2.2.2.1,(f3 b hb).1.2.2.2.2.2⟩
   have nC:H5 s3.heap.objs.size=none:=by
    have z:H5 ce.locals=none:=I6.free;rw[cL] at z;exact z
   obtain⟨m,hn,_⟩:=I6.loc;have hn:s6.heap.Ns ce.locals m:=hn;rw[cL] at hn;exact hRR D s3.heap.objs.size s6 m H5 I7 qq hn (I3.adg (Nat.le_refl _) nC)
  ·have ti:=T.item (X.blk s3 H3 scope ce fp) rfl rfl rfl hc i [] s5 _ H5 (fun _ _=>False) I5 (stat I5 n5) st5 go;refine aba ti fun r s6 ⟨u,hr,h6⟩=>?_;subst hr;refine aba h6 fun _ s7 ⟨x,H7,I7,r7,y7,st7,n7⟩=>?_;have I7':=I7.pinned (stat I7 n7) (T.obj _ _ st7);refine aba (pg _ s7 _ H7 x u _ I7' r7 (step x H7 y7)) fun _ s8 ⟨σ8,H8,I8,hw8,q8⟩=>?_;refine aba (pt _ s8 σ8 H8 _ I8 q8) fun b s9 ⟨H9,I9,q9⟩=>?_;have fin:∀{s':Shared}{H':Hp},Inv (X.blk s3 H3 scope ce fp) ([]++Jh fp s7.heap) σ8 H' s'→Nx H'→∃m,m<n∧∃i H',Inv (X.blk s3 H3 scope ce fp) [] (wipe σ (own.map (·.2))) H' s'∧tn i s'.heap∧(∀b∈fp,H' b=none)∧W i m H':=fun{s' H'} I' nx=>by
    obtain⟨m',hm,w'⟩:=hNx H' nx;have akp:∀b∈fp,∀o,s7.heap.get? b=some o→s'.heap.get? b=some o∧H' b=none:=fun b hb o e=>
     let z:=I'.pin (b,o) (List.mem_append_right _ (List.mem_append_right _ (ze hb e)))
     ⟨z.1,z.2.1⟩
    have hl:(wipe σ (own.map (·.2))).length=σ8.length:=by rw[←hw8,uR]
    refine⟨m',hm,i+1,H',(I'.AO (pins:=[])).weak hl (fun j v e=>?_),T.keep _ _ _ st7 fun b hb o e=>(akp b hb o e).1,fun b hb=>?_,w'⟩
    ·rw[←hw8] at e;exact(DL e).1
    ·obtain⟨o,e,_⟩:=T.obj _ _ st7 b hb;exact(akp b hb o e).2
   cases b with
   |false=>
    simp only[Bool.false_eq_true,if_false] at q9⊢;exact fin I9 q9
   |true=>
    simp only[if_true] at q9⊢;refine aba (pe _ s9 σ8 H9 _ I9 q9) fun z s10 ⟨yv,H10,I10,r10,acc,amV,amW,nx⟩=>?_;exact ah8 (X:=X.blk s3 H3 scope ce fp) I10 amV amW r10 fun s11 I11=>fin I11 nx
 exact codeAny_compStart_list loop (T.self X.A 0 _ _ _ st4 loop)
theorem sO{elt tg iter:Expr}{ifs:List Expr}{scope:Scope}{own:List (Str×Nat)}{pos:Pos}{wi:TI}{g:TG}{tt:TT}{te:TE}(hc:X.calm=true)(hN:X.N.Nodup)(hi:PI X tg iter wi)(ok:ku X.N X.env.scope scope own)
  (hg:∀(s:Shared)(H:Hp)(C:Addr)(cl:List (Str×Addr))(fp:List Addr),PG (X.blk s H scope (compEnvC scope cl C X.env) fp) tg g) (ht:∀(s:Shared)(H:Hp)(C:Addr)(cl:List (Str×Addr))(fp:List Addr),PTs (X.blk s H scope (compEnvC scope cl C X.env) fp) ifs tt)
  (he:∀(s:Shared)(H:Hp)(C:Addr)(cl:List (Str×Addr))(fp:List Addr),PE (X.blk s H scope (compEnvC scope cl C X.env) fp) elt te) (hs:∀x,foldedSetIterable iter X.env x=pure x:=by intro _;rfl):
  PE X (.ListComp elt [⟨tg,iter,ifs,0⟩] scope pos) (tLc wi g tt te (own.map (·.2))):=by
 intro pins s σ H Q I h;rw[eval_ListComp];refine ZX hc hN I hi ok hg ht he hs h fun D C s' m H' I' q hn f=>⟨m,hn,fun h'' sb=>?_⟩
 obtain⟨f0,f1,f2,f3,f4,f5⟩:=f;exact⟨.ref D,H',I'.turned (t':=s'.toks) (fun b o hb e=>(sb.2 b hb).trans e) f0 f1 f3 f4 f5,rfl,q⟩
theorem adx{i:Nat}{y:Str}{py:Pos}{elt tg iter:Expr}{ifs:List Expr}{scope:Scope}{own:List (Str×Nat)}{pos spos:Pos}{wi:TI}{g:TG}{tt:TT}{te:TE}(hc:X.calm=true)(hN:X.N.Nodup)(hy:X.N[i]?=some y)(hyl:X.env.scope.names.lookup y=some .local)
  (hsw:swapsWith (.ListComp elt [⟨tg,iter,ifs,0⟩] scope pos) (some (.Name y py)) spos.line X.env=pure true) (hi:PI X tg iter wi) (ok:ku X.N X.env.scope scope own)
  (hg:∀(s:Shared)(H:Hp)(C:Addr)(cl:List (Str×Addr))(fp:List Addr),PG (X.blk s H scope (compEnvC scope cl C X.env) fp) tg g) (ht:∀(s:Shared)(H:Hp)(C:Addr)(cl:List (Str×Addr))(fp:List Addr),PTs (X.blk s H scope (compEnvC scope cl C X.env) fp) ifs tt)
  (he:∀(s:Shared)(H:Hp)(C:Addr)(cl:List (Str×Addr))(fp:List Addr),PE (X.blk s H scope (compEnvC scope cl C X.env) fp) elt te) (hs:∀x,foldedSetIterable iter X.env x=pure x:=by intro _;rfl):
  PS X (.Assign [.Name y py] (.ListComp elt [⟨tg,iter,ifs,0⟩] scope pos) spos) (ahP (tLc wi g tt te (own.map (·.2))) (Uo i)):=by
 intro pins s σ H D I h;rw[exec_Assign_Name_used _ _ _ _ hsw];refine wpAny_bind (wpAny_standAt (wpAny_bind ?_));show wpAny _ X.A (do let _←comprehension (.ListComp elt [⟨tg,iter,ifs,0⟩] scope pos) scope X.env (firstIterPos [⟨tg,iter,ifs,0⟩] pos) (newList []) false (eval iter X.env) (some (assign (.Name y py) X.env))) _ _ s;have h:tLc wi g tt te (own.map (·.2)) σ H (fun x H1=>Uo i x σ H1 D.nx):=h;refine wpAny_bind (thn (ZX (Qf:=fun _ s'=>SP X pins D .next s') hc hN I hi ok hg ht he hs h fun L C s' m H' I' q hn f=>?_) fun _ s' hq=>wpAny_pure (wpAny_pure hq));show wpAny _ _ (assign (.Name y py) X.env (.ref L)) _ _ _;refine wpAny_assign_Name (O5 (v:=V.ref L) I' hN hy (.inl hyl) rfl (fun s2 I2 ⟨a,sb,ha⟩=>?_) (.inr hyl));obtain⟨f0,f1,f2,f3,f4,f5⟩:=f;have haC:C≠a:=by
  rcases ha with z|z
  ·rw[z];exact f1
  ·exact fun e=>f4 y a z e.symm
 refine⟨m,hn.sameBut sb haC,fun h3 sb3=>?_⟩;exact⟨_,H',I2.turned (t':=s2.toks) (fun b o hb e=>(sb3.2 b hb).trans e) f0 f1 f3 f4 f5,q⟩
theorem afZ{elt:Expr}{gs:List Comprehension}{scope:Scope}{pos py:Pos}{y:Str}{l:Nat}{env:Env}(hk:env.scope.kind=.function)(hy:env.scope.names.lookup y=some .local)(hl:(py.line==pos.line)=true)
  (ha:(scope.names.any fun(n,k)=>n==y&&(k==.local||k==.cell))=false):swapsWith (.ListComp elt gs scope pos) (some (.Name y py)) l env=pure true:=by
 have ky:env.kindOf y=some .local:=hy;have hb:env.blockKind=.function:=by unfold Env.blockKind;rw[hk];rfl
 unfold swapsWith;simp only[hb,ky,ha,Expr.pos,hl];rfl
end
end L2
namespace L2
open PySem PySem.Spec PyProof.Rows
section
variable{κ:Type}[DecidableEq κ]
def aR(kvs:List (κ×V))(k:κ):Option V:=(kvs.find? fun kv=>decide (kv.1=k)).map (·.2)
def putK(kvs:List (κ×V))(k:κ)(v:V):List (κ×V):=
 if(kvs.any fun kv=>decide (kv.1=k))=true then kvs.map (fun kv=>if kv.1=k then(kv.1,v) else kv) else kvs++[(k,v)]
def kx(kvs:List (κ×V))(k:κ):List (κ×V):=kvs.filter fun kv=>decide (kv.1≠k)
theorem fF{p:κ×V}{r:List (κ×V)}{k:κ}(e:p.1=k):aR (p::r) k=some p.2:=by simp[aR,List.find?_cons,e]
theorem dD{p:κ×V}{r:List (κ×V)}{k:κ}(e:¬p.1=k):aR (p::r) k=aR r k:=by simp[aR,List.find?_cons,e]
theorem kz(k:κ):∀kvs:List (κ×V),(kvs.any fun kv=>decide (kv.1=k))=(aR kvs k).isSome
 |[]=>rfl
 |p::r=>by
  rw[List.any_cons];by_cases e:p.1=k
  ·simp only[fF e,decide_eq_true e,Bool.true_or,Option.isSome_some]
  ·rw[dD e,decide_eq_false e,Bool.false_or];exact kz k r
theorem uS(kvs:List (κ×V))(k:κ)(v:V):(putK kvs k v).length≤kvs.length+1:=by
 unfold putK;split
 ·rw[List.length_map];omega
 ·rw[List.length_append,List.length_cons,List.length_nil];omega
theorem mw{kvs:List (κ×V)}{k:κ}(v:V)(h:aR kvs k=none):putK kvs k v=kvs++[(k,v)]:=by
 unfold putK;rw[kz,h];exact if_neg (by decide)
theorem oZ.l9{o:Option V}{u:Option Value}(r:oZ o u):o.isSome=u.isSome:=by
 cases o with
 |none=>cases u with
  |none=>rfl
  |some _=>exact(show False from r).elim
 |some _=>cases u with
  |none=>exact(show False from r).elim
  |some _=>rfl
theorem oZ.getD{o:Option V}{u:Option Value}{d:V}{d':Value}(r:oZ o u)(rd:RelV d d'):RelV (o.getD d) (u.getD d'):=by
 cases o with
 |none=>cases u with
  |none=>exact rd
  |some _=>exact(show False from r).elim
 |some _=>cases u with
  |none=>exact(show False from r).elim
  |some _=>exact r
theorem KV.val{kvs:List (κ×V)}{vs:List (κ×Value)}(r:KV kvs vs)(k:κ):oZ (aR kvs k) (valueAt vs k):=by
 unfold KV at r
 induction r with
 |nil=>exact True.intro
 | @cons p q ps qs h t ih=>
  obtain⟨h1,h2⟩:=h;by_cases e:p.1=k
  ·have e':q.1=k:=h1.symm.trans e;have b:valueAt (q::qs) k=some q.2:=by simp[valueAt,List.find?_cons,e']
   rw[fF e,b];exact h2
  ·have e':¬q.1=k:=fun z=>e (h1.trans z);have b:valueAt (q::qs) k=valueAt qs k:=by simp[valueAt,List.find?_cons,e']
   rw[dD e,b];exact ih
theorem KV.any{kvs:List (κ×V)}{vs:List (κ×Value)}(r:KV kvs vs)(k:κ):(kvs.any fun kv=>decide (kv.1=k))=vs.any fun kv=>decide (kv.1=k):=by
 unfold KV at r
 induction r with
 |nil=>rfl
 |cons h t ih=>rw[List.any_cons,List.any_cons,ih,h.1]
theorem KV.repl{kvs:List (κ×V)}{vs:List (κ×Value)}(r:KV kvs vs)(k:κ){y:V}{u:Value}(ry:RelV y u):
  KV (kvs.map fun kv=>if kv.1=k then(kv.1,y) else kv) (vs.map fun kv=>if kv.1=k then(kv.1,u) else kv):=by
 unfold KV at r⊢
 induction r with
 |nil=>exact .nil
 | @cons p q ps qs h t ih=>
  rw[List.map_cons,List.map_cons];refine .cons ?_ ih;obtain⟨h1,h2⟩:=h;by_cases e:p.1=k
  ·rw[if_pos e,if_pos (h1.symm.trans e)];exact⟨h1,ry⟩
  ·rw[if_neg e,if_neg (fun z=>e (h1.trans z))];exact⟨h1,h2⟩
theorem KV.put{kvs:List (κ×V)}{vs:List (κ×Value)}(r:KV kvs vs)(k:κ){y:V}{u:Value}(ry:RelV y u):KV (putK kvs k y) (stored vs k u):=by
 unfold putK stored;rw[r.any k];by_cases e:(vs.any fun kv=>decide (kv.1=k))=true
 ·rw[if_pos e,if_pos e];exact r.repl k ry
 ·rw[if_neg e,if_neg e];exact Paired.snoc r ⟨rfl,ry⟩
theorem KV.drop{kvs:List (κ×V)}{vs:List (κ×Value)}(r:KV kvs vs)(k:κ):KV (kx kvs k) (without vs k):=by
 unfold KV at r⊢;unfold kx without
 induction r with
 |nil=>exact .nil
 | @cons p q ps qs h t ih=>
  obtain⟨h1,h2⟩:=h;rw[List.filter_cons,List.filter_cons];by_cases e:p.1=k
  ·have a:¬decide (p.1≠k)=true:=by simp[e]
   have b:¬decide (q.1≠k)=true:=by simp[h1.symm.trans e]
   rw[if_neg a,if_neg b];exact ih
  ·have e':¬q.1=k:=fun z=>e (h1.trans z);have a:decide (p.1≠k)=true:=by simp[e]
   have b:decide (q.1≠k)=true:=by simp[e']
   rw[if_pos a,if_pos b];exact .cons ⟨h1,h2⟩ ih
theorem KV.keys{kvs:List (κ×V)}{vs:List (κ×Value)}(r:KV kvs vs):kvs.map (·.1)=vs.map (·.1):=by
 unfold KV at r
 induction r with
 |nil=>rfl
 |cons h t ih=>rw[List.map_cons,List.map_cons,ih,h.1]
theorem KV.length{kvs:List (κ×V)}{vs:List (κ×Value)}(r:KV kvs vs):kvs.length=vs.length:=Paired.length r
theorem Uz(kvs:List (κ×V))(k:κ):(kx kvs k).length≤kvs.length:=List.length_filter_le _ _
end
theorem uT{P:Program}{w:World}{k:Key}{u:Value}(r:RelV (kV k) u):(aO P w).is k u=true:=by
 cases k with
 |inl i=>obtain⟨t,e⟩:=(show∃t,u=Value.int i t from r);subst e;exact Uj P w i t
 |inr x=>obtain⟨t,e⟩:=(show∃t,u=Value.str x t from r);subst e;exact Uk P w x t
theorem ah9{a b:Key}(e:kV a=kV b):a=b:=by
 cases a with
 |inl i=>cases b with
  |inl j=>have e':V.int i=V.int j:=e;injection e' with e';rw[e']
  |inr y=>exact nomatch (show V.int i=V.str y from e)
 |inr x=>cases b with
  |inl j=>exact nomatch (show V.str x=V.int j from e)
  |inr y=>have e':V.str x=V.str y:=e;injection e' with e';rw[e']
theorem ZY:∀{a b:List Key},a.map kV=b.map kV→a=b
 |[],[],_=>rfl
 |[],_::_,e=>by simp at e
 |_::_,[],e=>by simp at e
 |x::xs,y::ys,e=>by
  rw[List.map_cons,List.map_cons] at e;injection e with e1 e2
  rw[ah9 e1,ZY e2]
theorem xo{P:Program}{w:World}:∀{ks:List Key}{us:List Value},Vals (ks.map kV) us→ItemsAre (aO P w) ks us
 |[],_,r=>by rw[List.map_nil] at r;cases r;exact .nil
 |k::ks,_,r=>by
  rw[List.map_cons] at r;cases r with
  |cons h t=>exact .cons (uT h) (xo t)
abbrev KT(H:Hp):List (List Key×V)→List (List Key×Addr×Value)→Prop:=Paired fun p q=>p.1=q.1∧H q.2.1=some (.tup (p.1.map kV))∧RelV p.2 q.2.2
theorem KT.val{H:Hp}{kvs:List (List Key×V)}{xs:List (List Key×Addr×Value)}(r:KT H kvs xs)(k:List Key):oZ (aR kvs k) ((atKey xs k).map (·.2)):=by
 induction r with
 |nil=>exact True.intro
 | @cons p q ps qs h t ih=>
  obtain⟨h1,_,h2⟩:=h;by_cases e:p.1=k
  ·have e':q.1=k:=h1.symm.trans e;have b:atKey (q::qs) k=some q.2:=by simp[atKey,List.find?_cons,e']
   rw[fF e,b];exact h2
  ·have e':¬q.1=k:=fun z=>e (h1.trans z);have b:atKey (q::qs) k=atKey qs k:=by simp[atKey,List.find?_cons,e']
   rw[dD e,b];exact ih
theorem KT.repl{H:Hp}{kvs:List (List Key×V)}{xs:List (List Key×Addr×Value)}(r:KT H kvs xs)(k:List Key){y:V}{u:Value}(ry:RelV y u):
  KT H (kvs.map fun kv=>if kv.1=k then(kv.1,y) else kv) (xs.map (putAt k u)):=by
 induction r with
 |nil=>exact .nil
 | @cons p q ps qs h t ih=>
  rw[List.map_cons,List.map_cons];refine .cons ?_ ih;obtain⟨h1,h2,h3⟩:=h;unfold putAt;by_cases e:p.1=k
  ·rw[if_pos e,if_pos (h1.symm.trans e)];exact⟨h1,h2,ry⟩
  ·rw[if_neg e,if_neg (fun z=>e (h1.trans z))];exact⟨h1,h2,h3⟩
theorem KT.put{H:Hp}{kvs:List (List Key×V)}{xs:List (List Key×Addr×Value)}(r:KT H kvs xs)(k:List Key){b:Addr}{y:V}{u:Value}(hb:H b=some (.tup (k.map kV)))(ry:RelV y u):
  KT H (putK kvs k y) (storedH xs k b u):=by
 have e:(kvs.any fun kv=>decide (kv.1=k))=(atKey xs k).isSome:=by
  rw[kz,(r.val k).l9,Option.isSome_map]
 unfold putK storedH;rw[e];by_cases q:(atKey xs k).isSome=true
 ·rw[if_pos q,if_pos q];exact r.repl k ry
 ·rw[if_neg q,if_neg q];exact Paired.snoc r ⟨rfl,hb,ry⟩
theorem KT.keeps{H H':Hp}{kvs:List (List Key×V)}{xs:List (List Key×Addr×Value)}(r:KT H kvs xs)(ht:∀b ys,H b=some (.tup ys)→H' b=some (.tup ys)):KT H' kvs xs:=
 Paired.ahN r fun _ _ z=>⟨z.1,ht _ _ z.2.1,z.2.2⟩
section
variable{P:Program}{w:World}{H:Hp}{h:Heap}{a:Addr}
theorem ahe{u:HO}(ok:HOk P w H h)(e:Rd H a u):cO P w H h a u:=e.ok ok
theorem nO{kvs:List (Key×V)}(ok:HOk P w H h)(e:Rd H a (.dK kvs)):kvs.length≤sizeLine∧(a==sysModules)=false∧∃vs,KV kvs vs∧h.DictOf (aO P w) a vs:=
 show cO P w H h a (.dK kvs) from ahe ok e
theorem ZZ{kvs:List (Key×V)}(ok:HOk P w H h)(e:H a=some (.dK kvs)):kvs.length≤sizeLine∧(a==sysModules)=false∧∃vs,KV kvs vs∧h.DictOf (aO P w) a vs:=nO ok (.inl e)
theorem qW{ks:List Key}(ok:HOk P w H h)(e:H a=some (.tup (ks.map kV))):(tupleKind (aO P w)).is h ks a:=by
 obtain⟨_,its,r,o,h1,h2,n,h3⟩:=(show cO P w H h a (.tup (ks.map kV)) from ok a _ e)
 exact⟨o,its.toArray,n,h1,h2,h3,by simpa using xo r⟩
theorem Fp{kvs:List (List Key×V)}(ok:HOk P w H h)(e:Rd H a (.dT kvs)):kvs.length≤sizeLine∧(a==sysModules)=false∧
  ∃xs,KT H kvs xs∧h.DictOfH (tupleKind (aO P w)) a xs:=by
 obtain⟨z,y,xs,r,o,es,ep,h1,h2,h3,h4,h5⟩:=(show cO P w H h a (.dT kvs) from ahe ok e)
 refine⟨z,y,xs,r,o,es,ep,h1,h2,h3,h4,fun x hx=>?_,h5⟩;have all:∀{l:List (List Key×V)}{m:List (List Key×Addr×Value)},KT H l m→∀x∈m,(tupleKind (aO P w)).is h x.1 x.2.1:=by
  intro l m q
  induction q with
  |nil=>intro x hx;exact nomatch hx
  | @cons p q ps qs hq t ih=>
   intro x hx;rcases List.mem_cons.mp hx with e|hx
   ·subst e;exact qW ok (by rw[←hq.1];exact hq.2.1)
   ·exact ih x hx
 exact all r x hx
theorem ahf{kvs:List (List Key×V)}(ok:HOk P w H h)(e:H a=some (.dT kvs)):kvs.length≤sizeLine∧(a==sysModules)=false∧
  ∃xs,KT H kvs xs∧h.DictOfH (tupleKind (aO P w)) a xs:=Fp ok (.inl e)
end
def kC(H:Hp)(a:Addr)(y:V)(r:Option V):Prop:=
 (∃kvs k,Rd H a (.dK kvs)∧y=kV k∧r=aR kvs k)∨∃kvs k b,Rd H a (.dT kvs)∧y=.ref b∧H b=some (.tup (k.map kV))∧r=aR kvs k
def uU(H:Hp)(a:Addr)(y v:V)(H':Hp):Prop:=
 (∃kvs k,H a=some (.dK kvs)∧y=kV k∧kvs.length<sizeLine∧H'=upd H a (.dK (putK kvs k v)))∨
 ∃kvs k b,H a=some (.dT kvs)∧y=.ref b∧H b=some (.tup (k.map kV))∧kvs.length<sizeLine∧H'=upd H a (.dT (putK kvs k v))
theorem kC.k{H:Hp}{a:Addr}{kvs:List (Key×V)}{k:Key}(e:H a=some (.dK kvs)):kC H a (kV k) (aR kvs k):=.inl ⟨kvs,k,.inl e,rfl,rfl⟩
theorem kC.t{H:Hp}{a b:Addr}{kvs:List (List Key×V)}{k:List Key}(e:H a=some (.dT kvs))(eb:H b=some (.tup (k.map kV))):kC H a (.ref b) (aR kvs k):=.inr ⟨kvs,k,b,.inl e,rfl,eb,rfl⟩
theorem uU.k{H:Hp}{a:Addr}{kvs:List (Key×V)}{k:Key}{v:V}(e:H a=some (.dK kvs))(hl:kvs.length<sizeLine):uU H a (kV k) v (upd H a (.dK (putK kvs k v))):=.inl ⟨kvs,k,e,rfl,hl,rfl⟩
theorem uU.t{H:Hp}{a b:Addr}{kvs:List (List Key×V)}{k:List Key}{v:V}(e:H a=some (.dT kvs))(eb:H b=some (.tup (k.map kV)))(hl:kvs.length<sizeLine):
  uU H a (.ref b) v (upd H a (.dT (putK kvs k v))):=.inr ⟨kvs,k,b,e,rfl,eb,hl,rfl⟩
section
variable{X:Cx}{pins:List (Addr×Obj)}{σ:St}{H:Hp}{s:Shared}{a:Addr}{y v:V}{u r:Value}{o:Option V}{A:Around}{E:Value→Shared→Prop}
theorem Inv.big(I:Inv X pins σ H s):sysModules<s.heap.objs.size:=by
 have h:mainGlobals<s.heap.objs.size:=(I.mod.glob.keeps I.bk).lt;exact Nat.lt_trans (by decide) h
theorem Pb{Q:Value→Shared→Prop}(hu:A.units+1<cLine)(I:Inv X pins σ H s)(g:kC H a y (some v))(ry:RelV y u)(h:∀w' s',Inv X pins σ H s'→RelV v w'→Q w' s'):
  wpAny (model X.prog X.w) A (getItem (.ref a) u) Q E s:=by
 rcases g with⟨kvs,k,e,ey,l⟩|⟨kvs,k,b,e,ey,eb,l⟩
 ·subst ey;obtain⟨z,hd,vs,rel,dd⟩:=nO I.hok e;obtain⟨w',hw,rw'⟩:=oZ.some_of (v:=v) (o:=valueAt vs k) (by rw[l];exact rel.val k);exact wpAny_getItem_of (uT ry) dd.mapOf hw (h w' _ (I.tok _) rw')
 ·subst ey;cases (show u=Value.ref b from ry);obtain⟨z,hd,xs,rel,dd⟩:=Fp I.hok e;obtain⟨w',hw,rw'⟩:=oZ.some_of (v:=v) (o:=(atKey xs k).map (·.2)) (by rw[l];exact rel.val k);obtain⟨p,hp,hp2⟩:=Option.map_eq_some_iff.mp hw;refine wpAny_getItem_heap (tupleKind_room_in1 hu) (qW I.hok eb) dd hp ?_;rw[hp2];exact h w' _ (I.tok _) rw'
theorem aia{Q:Value→Shared→Prop}(hu:A.units+1<cLine)(I:Inv X pins σ H s)(g:kC H a y o)(ry:RelV y u)(h:∀s',Inv X pins σ H s'→Q (.bool o.isSome) s'):
  wpAny (model X.prog X.w) A (compareOp .In u (.ref a)) Q E s:=by
 rcases g with⟨kvs,k,e,ey,l⟩|⟨kvs,k,b,e,ey,eb,l⟩
 ·subst ey;obtain⟨z,hd,vs,rel,dd⟩:=nO I.hok e;refine wpAny_in_of (uT ry) hd dd.mapOf ?_;rw[←(rel.val k).l9,←l];exact h _ (I.tok _)
 ·subst ey;cases (show u=Value.ref b from ry);obtain⟨z,hd,xs,rel,dd⟩:=Fp I.hok e;refine wpAny_in_heap (tupleKind_room_in1 hu) (qW I.hok eb) hd dd ?_;have q:=(rel.val k).l9;rw[Option.isSome_map] at q;rw[←q,←l];exact h _ (I.tok _)
theorem Z0{Q:Value→Shared→Prop}(hu:A.units+1<cLine)(I:Inv X pins σ H s)(g:kC H a y o)(ry:RelV y u)(h:∀s',Inv X pins σ H s'→Q (.bool (!o.isSome)) s'):
  wpAny (model X.prog X.w) A (compareOp .NotIn u (.ref a)) Q E s:=by
 rcases g with⟨kvs,k,e,ey,l⟩|⟨kvs,k,b,e,ey,eb,l⟩
 ·subst ey;obtain⟨z,hd,vs,rel,dd⟩:=nO I.hok e;refine wpAny_notIn_of (uT ry) hd dd.mapOf ?_;rw[←(rel.val k).l9,←l];exact h _ (I.tok _)
 ·subst ey;cases (show u=Value.ref b from ry);obtain⟨z,hd,xs,rel,dd⟩:=Fp I.hok e;refine wpAny_notIn_heap (tupleKind_room_in1 hu) (qW I.hok eb) hd dd ?_;have q:=(rel.val k).l9;rw[Option.isSome_map] at q;rw[←q,←l];exact h _ (I.tok _)
theorem qX{h':Heap}{t':Nat}{ob:HO}(I:Inv X pins σ H s)(mu:Mut (H a))(hs:Heap.SameBut a s.heap h')(he:∃q,h'.get? a=some q)(new:cO X.prog X.w (upd H a ob) h' a ob):
  Inv X pins σ (upd H a ob) {s with heap:=h',toks:=t'}:=
 I.write (x:=a) (e:=a) mu (.inl rfl) (fun b q hb z=>(hs.2 b hb).trans z) he new
theorem QA{P:Program}{w:World}{H':Hp}{h':Heap}{kvs:List (Key×V)}{vs:List (Key×Value)}(z:kvs.length≤sizeLine)(hd:(a==sysModules)=false)(rel:KV kvs vs)(dd:h'.DictOf (aO P w) a vs):
  cO P w H' h' a (.dK kvs):=⟨z,hd,vs,rel,dd⟩
theorem Pc{H':Hp}{Q:Unit→Shared→Prop}(hu:A.units+1<cLine)(I:Inv X pins σ H s)(g:uU H a y v H')(ry:RelV y u)(rv:RelV v r)(h:∀s',Inv X pins σ H' s'→Q () s'):
  wpAny (model X.prog X.w) A (setItem (.ref a) u r) Q E s:=by
 rcases g with⟨kvs,k,e,ey,l,eH⟩|⟨kvs,k,b,e,ey,eb,l,eH⟩
 ·subst ey eH;obtain⟨z,hd,vs,rel,dd⟩:=ZZ I.hok e;have hz:vs.length≤sizeLine:=by rw[←rel.length];exact z
  have hl:(putK kvs k v).length≤sizeLine:=by have:=uS kvs k v;omega
  refine wpAny_setItem_pairs (hsz:=hz) (uT ry) dd fun h' dd' hs=>h _ ?_;have he:∃q,h'.get? a=some q:=let ⟨q,_,_,hq,_⟩:=dd';⟨q,hq⟩
  exact qX I (by rw[e];exact True.intro) hs he (QA hl hd (rel.put k rv) dd')
 ·subst ey eH;cases (show u=Value.ref b from ry);obtain⟨z,hd,xs,rel,dd⟩:=ahf I.hok e;have hz:xs.length≤sizeLine:=by rw[←Paired.length rel];exact z
  have hl:(putK kvs k v).length≤sizeLine:=by have:=uS kvs k v;omega
  refine wpAny_setItem_heap (hsz:=hz) (tupleKind_room_in1 hu) (qW I.hok eb) dd fun h' dd' hs=>h _ ?_;obtain⟨q,es,ep,hq,h2,h3,h4,_,h5⟩:=dd';refine qX I (by rw[e];exact True.intro) hs ⟨q,hq⟩ ⟨hl,hd,_,(rel.put k eb rv).keeps fun c ys ec=>?_,q,es,ep,hq,h2,h3,h4,h5⟩;rw[ab (aK ec e (fun z=>nomatch z))];exact ec
end
section
variable{X:Cx}{pins:List (Addr×Obj)}{σ:St}{H:Hp}{s:Shared}{a:Addr}{kvs:List (Key×V)}{k:Key}{u:Value}{A:Around}{E:Value→Shared→Prop}
theorem aj9{Q:Unit→Shared→Prop}(I:Inv X pins σ H s)(e:H a=some (.dK kvs))(ry:RelV (kV k) u)(l:(aR kvs k).isSome=true)(h:∀s',Inv X pins σ (upd H a (.dK (kx kvs k))) s'→Q () s'):
  wpAny (model X.prog X.w) A (delItem (.ref a) u) Q E s:=by
 obtain⟨z,hd,vs,rel,dd⟩:=ZZ I.hok e;refine wpAny_delItem_slot dd.typeIs (by decide) PySem.F.slot_dict_delitem
  (call_meetsIn PySem.F.slot_dict_delitem dd.typeIs PySem.F.entry_dict_delitem (PySem.F.args_dict_delitem_2 _ _) (meets_dict_delitem_pairs (aO X.prog X.w) a (uT ry)) ⟨vs,dd,by rw[←rel.length];exact z,by rw[←(rel.val k).l9];exact l,fun h' dd' hs=>h _ ?_⟩)
 have he:∃q,h'.get? a=some q:=let ⟨q,_,_,hq,_⟩:=dd';⟨q,hq⟩
 exact qX I (by rw[e];exact True.intro) hs he (QA (Nat.le_trans (Uz kvs k) z) hd (rel.drop k) dd')
theorem akq{v:V}{more:List Value}{Q:Value→Shared→Prop}(I:Inv X pins σ H s)(e:H a=some (.dK kvs))(ry:RelV (kV k) u)(l:aR kvs k=some v)(hm:more=[]∨∃x,more=[x])
  (h:∀w' s',Inv X pins σ (upd H a (.dK (kx kvs k))) s'→RelV v w'→Q w' s'):wpAny (model X.prog X.w) A (call (.builtin "dict.pop") (.ref a::u::more)) Q E s:=by
 obtain⟨z,hd,vs,rel,dd⟩:=ZZ I.hok e;obtain⟨w',hw,rw'⟩:=oZ.some_of (v:=v) (o:=valueAt vs k) (by rw[←l];exact rel.val k);have hp:(keyPart u).isSome=true:=by
  cases k with
  |inl i=>obtain⟨t,q⟩:=(show∃t,u=Value.int i t from ry);subst q;rfl
  |inr x=>obtain⟨t,q⟩:=(show∃t,u=Value.str x t from ry);subst q;rfl
 have ha:argsOk "dict.pop" ⟨.ref a::u::more,[]⟩:=by
  rcases hm with q|⟨x,q⟩
  ·subst q;exact PySem.F.args_dict_pop_2 _ _
  ·subst q;exact PySem.F.args_dict_pop_3 _ _ _
 refine call_meetsIn PySem.F.slot_dict_pop dd.typeIs PySem.F.entry_dict_pop ha (meets_dict_pop_there (aO X.prog X.w) a (uT ry) more hm hp)
  ⟨vs,w',dd,by rw[←rel.length];exact z,hw,fun h' dd' hs=>h w' _ ?_ rw'⟩
 have he:∃q,h'.get? a=some q:=let ⟨q,_,_,hq,_⟩:=dd';⟨q,hq⟩
 exact qX I (by rw[e];exact True.intro) hs he (QA (Nat.le_trans (Uz kvs k) z) hd (rel.drop k) dd')
theorem ahg{Q:Value→Shared→Prop}(I:Inv X pins σ H s)(e:Rd H a (.dK kvs))(h:∀t s',Inv X pins σ H s'→Q (.int kvs.length t) s'):wpAny (model X.prog X.w) A (call (.builtin "len") [.ref a]) Q E s:=by
 obtain⟨z,hd,vs,rel,dd⟩:=nO I.hok e;refine call_len_dict hd dd (by rw[←rel.length];rw[sizeLine_eq] at z;omega) ?_;rw[←rel.length];exact h _ _ (I.tok _)
end
def af0(i:Expr):Prop:=∀ov iv,subscripted i false ov iv=operate [ov,iv] (getItem ov iv)
theorem QB{prog:Program}{w:World}{A:Around}{E:Value→Shared→Prop}{s:Shared}{env:Env}{value slice:Expr}{pos:Pos}{T id:String}{Q:Value→Shared→Prop}
  (hl:typeLookup (.type T) "__getitem__"=pure (some (.builtin id))) (hs:af0 slice)
  (h:wpAny (model prog w) A (eval value env) (fun o s₁=>wpAny (model prog w) A (eval slice env) (fun i s₂=>s₂.TypeIs o T∧wpAny (model prog w) A (getItem o i) Q E s₂) E s₁) E s):
  wpAny (model prog w) A (eval (.Subscript value slice pos) env) Q E s:=by
 refine Subscript_ (wpAny_mono h (fun o s₁ h₁=>wpAny_mono h₁ (fun i s₂ h₂=>?_) fun _ _ x=>x) fun _ _ x=>x);obtain⟨hT,h₂⟩:=h₂;unfold subscriptTail;refine wpAny_bind ?_;rw[getitemInPython_of_ne hT.not_modules];refine wpAny_bind (wpAny_specialOf hT hl ?_);have fin:wpAny (model prog w) A (subscripted slice false o i) (fun r s₃=>wpAny (model prog w) A (letTemporaryGo value o r>>=fun _=>pure r) Q E s₃) E s₂:=by
  rw[hs o i];exact wpAny_operating (wpAny_mono h₂ (fun r s₃ h₃=>wpAny_bind (wpAny_letTemporaryGo (wpAny_pure h₃))) fun _ _ x=>x)
 first
  |exact wpAny_pure (wpAny_bind fin)
  |exact wpAny_bind (wpAny_pure (wpAny_bind fin))
  |exact wpAny_bind fin
theorem Fq{X:Cx}{pins:List (Addr×Obj)}{σ:St}{H:Hp}{s:Shared}{a:Addr}{y:V}{o:Option V}(I:Inv X pins σ H s)(g:kC H a y o):s.TypeIs (.ref a) "dict":=by
 rcases g with⟨kvs,k,e,_,_⟩|⟨kvs,k,b,e,_,_,_⟩
 ·obtain⟨_,_,vs,_,dd⟩:=nO I.hok e;exact dd.typeIs
 ·obtain⟨_,_,xs,_,dd⟩:=Fp I.hok e;exact dd.typeIs
def akr(td ty:TE):TE:=fun σ H Q=>td σ H fun x H1=>ty σ H1 fun y H2=>∃a v,x=.ref a∧kC H2 a y (some v)∧Q v H2
def amX(ty td:TE):TE:=fun σ H Q=>ty σ H fun y H1=>td σ H1 fun x H2=>∃a o,x=.ref a∧kC H2 a y o∧Q (.bl o.isSome) H2
def af1(ty td:TE):TE:=fun σ H Q=>ty σ H fun y H1=>td σ H1 fun x H2=>∃a o,x=.ref a∧kC H2 a y o∧Q (.bl (!o.isSome)) H2
def ahh(td ty tv:TE):TS:=fun D σ H=>tv σ H fun v H1=>td σ H1 fun x H2=>ty σ H2 fun y H3=>∃a H4,x=.ref a∧uU H3 a y v H4∧D.nx σ H4
section
variable{X:Cx}{o i e value:Expr}{pos pos' tpos:Pos}{td ty tv:TE}
theorem bQ(hu:X.A.units+1<cLine)(ho:PE X o td)(hi:PE X i ty)(hs:af0 i):PE X (.Subscript o i pos) (akr td ty):=by
 intro pins s σ H Q I h;refine QB PySem.F.slot_dict_getitem.lookup hs (thn (ho pins s σ H _ I h) fun u s1 ⟨x,H1,I1,rx,q1⟩=>thn (hi pins s1 σ H1 _ I1 q1) fun iv s2 ⟨y,H2,I2,ry,a,v,ex,g,q2⟩=>?_);subst ex;obtain rfl:u=Value.ref a:=rx;exact⟨Fq I2 g,Pb hu I2 g ry fun w' s3 I3 rw'=>⟨v,H2,I3,rw',q2⟩⟩
theorem k6(hu:X.A.units+1<cLine)(hi:PE X i ty)(ho:PE X o td):PC X .In i o (amX ty td):=by
 intro pins s σ H Q I h;refine thn (hi pins s σ H _ I h) fun iv s1 ⟨y,H1,I1,ry,q1⟩=>thn (ho pins s1 σ H1 _ I1 q1) fun u s2 ⟨x,H2,I2,rx,a,ov,ex,g,q2⟩=>?_;subst ex;obtain rfl:u=Value.ref a:=rx;exact aia hu I2 g ry fun s3 I3=>⟨.bl ov.isSome,H2,I3,rfl,q2⟩
theorem iO(hu:X.A.units+1<cLine)(hi:PE X i ty)(ho:PE X o td):PC X .NotIn i o (af1 ty td):=by
 intro pins s σ H Q I h;refine thn (hi pins s σ H _ I h) fun iv s1 ⟨y,H1,I1,ry,q1⟩=>thn (ho pins s1 σ H1 _ I1 q1) fun u s2 ⟨x,H2,I2,rx,a,ov,ex,g,q2⟩=>?_;subst ex;obtain rfl:u=Value.ref a:=rx;exact Z0 hu I2 g ry fun s3 I3=>⟨.bl (!ov.isSome),H2,I3,rfl,q2⟩
theorem lT(hu:X.A.units+1<cLine)(ho:PE X o td)(hi:PE X i ty)(hv:PE X value tv)(hs:swapsWith value (some (.Subscript o i pos')) pos.line X.env=pure false):
  PS X (.Assign [.Subscript o i pos'] value pos) (ahh td ty tv):=by
 intro pins s σ H D I h;refine wpAny_Assign_Subscript (thn (hv pins s σ H _ I h) fun r s1 ⟨v,H1,I1,rv,q1⟩=>thn (ho pins s1 σ H1 _ I1 q1) fun u s2 ⟨x,H2,I2,rx,q2⟩=>thn (hi pins s2 σ H2 _ I2 q2) fun iv s3 ⟨y,H3,I3,ry,a,H4,ex,g,q3⟩=>?_) hs;subst ex;obtain rfl:u=Value.ref a:=rx;exact Pc hu I3 g ry rv fun s4 I4=>⟨σ,H4,I4,q3⟩
end
theorem ady{P:Program}{w:World}{H:Hp}(h:Heap)(hb:sysModules<h.objs.size):cO P w H (h.push {cls:=.type "dict",data:=.dict #[]}) h.objs.size (.dK []):=
 ⟨Nat.zero_le _,beq_eq_false_iff_ne.mpr (Ne.symm (Nat.ne_of_lt hb)),[],.nil,Heap.DictOf.new h⟩
theorem adz{P:Program}{w:World}{H:Hp}(h:Heap)(hb:sysModules<h.objs.size):cO P w H (h.push {cls:=.type "dict",data:=.dict #[]}) h.objs.size (.dT []):=
 ⟨Nat.zero_le _,beq_eq_false_iff_ne.mpr (Ne.symm (Nat.ne_of_lt hb)),[],.nil,_, #[],0,Heap.get?_push_size _ rfl,⟨rfl,rfl,rfl⟩,rfl,rfl,List.nodup_nil⟩
def aib:TE:=fun _ H Q=>∀p,H p=none→Q (.ref p) (upd H p (.dK []))
def aic:TE:=fun _ H Q=>∀p,H p=none→Q (.ref p) (upd H p (.dT []))
section
variable{X:Cx}{pos:Pos}
theorem fG:PE X (.Dict [] [] pos) aib:=fun pins s σ H Q I h=>
 wpAny_Dict_empty ⟨.ref s.heap.objs.size,_,I.laid (a:=s.heap.objs.size) (o:=.dK []) (t':=s.toks) (fun _ _ q=>Heap.get?_push_of_some _ q) (Nat.le_refl _) (ady s.heap I.big),rfl,h _ (I.hok.fresh (Nat.le_refl _))⟩
theorem adA:PE X (.Dict [] [] pos) aic:=fun pins s σ H Q I h=>
 wpAny_Dict_empty ⟨.ref s.heap.objs.size,_,I.laid (a:=s.heap.objs.size) (o:=.dT []) (t':=s.toks) (fun _ _ q=>Heap.get?_push_of_some _ q) (Nat.le_refl _) (adz s.heap I.big),rfl,h _ (I.hok.fresh (Nat.le_refl _))⟩
end
structure M1(X:Cx)(o:Expr)(m:Str)(apos:Pos)(e:Expr)(cpos:Pos):Prop where
 base:attributeBase o m X.env (eval o X.env)=eval o X.env
 few:((backTo cpos (starEach [e] X.env)).all (fun x=>!x.1)&&(backToKw cpos (keywordEach [] X.env)).all (fun x=>x.1.isSome)
  &&decide (([e]:List Expr).length+([]:List Keyword).length+(if([]:List Keyword).isEmpty then 0 else 1)<30))=true
 line:(apos.endLine==cpos.line)=true
 trees:backTo cpos (starEach [e] X.env)=[(false,eval e X.env)]
structure M2(X:Cx)(o:Expr)(m:Str)(apos:Pos)(e f:Expr)(cpos:Pos):Prop where
 base:attributeBase o m X.env (eval o X.env)=eval o X.env
 few:((backTo cpos (starEach [e,f] X.env)).all (fun x=>!x.1)&&(backToKw cpos (keywordEach [] X.env)).all (fun x=>x.1.isSome)
  &&decide (([e,f]:List Expr).length+([]:List Keyword).length+(if([]:List Keyword).isEmpty then 0 else 1)<30))=true
 line:(apos.endLine==cpos.line)=true
 trees:backTo cpos (starEach [e,f] X.env)=[(false,eval e X.env),(false,eval f X.env)]
def IsD(H:Hp)(a:Addr):Prop:=(∃kvs,Rd H a (.dK kvs))∨∃kvs,Rd H a (.dT kvs)
theorem QC{X:Cx}{pins:List (Addr×Obj)}{σ:St}{H:Hp}{s:Shared}{a:Addr}(I:Inv X pins σ H s)(d:IsD H a):
  s.TypeIs (.ref a) "dict"∧(∀b,Value.ref a=.ref b→∃ob,s.heap.get? b=some ob∧ob.dict=none)∧(a==sysModules)=false:=by
 rcases d with⟨kvs,e⟩|⟨kvs,e⟩
 ·obtain⟨_,hd,vs,_,dd⟩:=nO I.hok e;refine⟨dd.typeIs,fun b q=>?_,hd⟩;cases q;obtain⟨ob,_,_,h1,h2,_⟩:=dd;exact⟨ob,h1,h2.2.1⟩
 ·obtain⟨_,hd,xs,_,dd⟩:=Fp I.hok e;refine⟨dd.typeIs,fun b q=>?_,hd⟩;cases q;obtain⟨ob,_,_,h1,h2,_⟩:=dd;exact⟨ob,h1,h2.2.1⟩
section
variable{X:Cx}{pins:List (Addr×Obj)}{σ:St}{H:Hp}{s:Shared}{a:Addr}{y d:V}{u r:Value}{o:Option V}{A:Around}{E:Value→Shared→Prop}
theorem aie{Q:Value→Shared→Prop}(hu:A.units+1<cLine)(I:Inv X pins σ H s)(g:kC H a y o)(ry:RelV y u)(h:∀w' s',Inv X pins σ H s'→RelV (o.getD .non) w'→Q w' s'):
  wpAny (model X.prog X.w) A (call (.builtin "dict.get") [.ref a,u]) Q E s:=by
 rcases g with⟨kvs,k,e,ey,l⟩|⟨kvs,k,b,e,ey,eb,l⟩
 ·subst ey;obtain⟨z,hd,vs,rel,dd⟩:=nO I.hok e;refine call_meetsIn PySem.F.slot_dict_get dd.typeIs PySem.F.entry_dict_get (PySem.F.args_dict_get_2 _ _) (meets_dict_get (aO X.prog X.w) a (uT ry) hd) ⟨_,dd.mapOf,h _ _ (I.tok _) ?_⟩;rw[l];exact(rel.val k).getD rfl
 ·subst ey;cases (show u=Value.ref b from ry);obtain⟨z,hd,xs,rel,dd⟩:=Fp I.hok e;refine call_meetsIn PySem.F.slot_dict_get dd.typeIs PySem.F.entry_dict_get (PySem.F.args_dict_get_2 _ _) (meetsH_dict_get (tupleKind (aO X.prog X.w)) a b hd) ⟨tupleKind_room_in1 hu,k,xs,qW I.hok eb,dd,h _ _ (I.tok _) ?_⟩;rw[l];exact(rel.val k).getD rfl
theorem aif{Q:Value→Shared→Prop}(hu:A.units+1<cLine)(I:Inv X pins σ H s)(g:kC H a y o)(ry:RelV y u)(rd:RelV d r)(h:∀w' s',Inv X pins σ H s'→RelV (o.getD d) w'→Q w' s'):
  wpAny (model X.prog X.w) A (call (.builtin "dict.get") [.ref a,u,r]) Q E s:=by
 rcases g with⟨kvs,k,e,ey,l⟩|⟨kvs,k,b,e,ey,eb,l⟩
 ·subst ey;obtain⟨z,hd,vs,rel,dd⟩:=nO I.hok e;refine call_meetsIn PySem.F.slot_dict_get dd.typeIs PySem.F.entry_dict_get (PySem.F.args_dict_get_3 _ _ _) (meets_dict_get_default (aO X.prog X.w) a (uT ry) hd r) ⟨_,dd.mapOf,h _ _ (I.tok _) ?_⟩;rw[l];exact(rel.val k).getD rd
 ·subst ey;cases (show u=Value.ref b from ry);obtain⟨z,hd,xs,rel,dd⟩:=Fp I.hok e;refine call_meetsIn PySem.F.slot_dict_get dd.typeIs PySem.F.entry_dict_get (PySem.F.args_dict_get_3 _ _ _) (meetsH_dict_get_default (tupleKind (aO X.prog X.w)) a b hd r) ⟨tupleKind_room_in1 hu,k,xs,qW I.hok eb,dd,h _ _ (I.tok _) ?_⟩;rw[l];exact(rel.val k).getD rd
end
def aih(td ty:TE):TE:=fun σ H Q=>td σ H fun x H1=>∃a,x=.ref a∧IsD H1 a∧ty σ H1 fun y H2=>∃o,kC H2 a y o∧Q (o.getD .non) H2
def aii(td ty tx:TE):TE:=fun σ H Q=>td σ H fun x H1=>∃a,x=.ref a∧IsD H1 a∧ty σ H1 fun y H2=>tx σ H2 fun z H3=>∃o,kC H3 a y o∧Q (o.getD z) H3
def aij(td ty:TE):TE:=fun σ H Q=>td σ H fun x H1=>∃a,x=.ref a∧IsD H1 a∧ty σ H1 fun y H2=>∃kvs k v,H2 a=some (.dK kvs)∧y=kV k∧aR kvs k=some v∧Q v (upd H2 a (.dK (kx kvs k)))
section
variable{X:Cx}{o e f:Expr}{apos cpos:Pos}{td ty tx:TE}
theorem UA(hu:X.A.units+1<cLine)(ho:PE X o td)(he:PE X e ty)(m:M1 X o "get" apos e cpos):PE X (.Call (.Attribute o "get" apos) [e] [] cpos) (aih td ty):=by
 intro pins s σ H Q I h;refine wpAny_Call_method m.base m.few m.line PySem.F.plainAttrs_dict PySem.F.slot_dict_get PySem.F.type_dict_get (thn (ho pins s σ H _ I h) fun u s1 ⟨x,H1,I1,rx,a,ex,d,q1⟩=>?_);subst ex;obtain rfl:u=Value.ref a:=rx;obtain⟨t1,t2,_⟩:=QC I1 d;refine⟨t1,t2,?_⟩;rw[m.trees];refine Calls.callWith_builtin rfl (Calls.evalArgs_plain (Calls.spliced_cons (thn (he pins s1 σ H1 _ I1 q1) fun iv s2 ⟨y,H2,I2,ry,ov,g,q2⟩=>Calls.spliced_nil ?_)));exact aie hu I2 g ry fun w' s3 I3 rw'=>⟨_,H2,I3,rw',q2⟩
theorem UB(hu:X.A.units+1<cLine)(ho:PE X o td)(he:PE X e ty)(hf:PE X f tx)(m:M2 X o "get" apos e f cpos):PE X (.Call (.Attribute o "get" apos) [e,f] [] cpos) (aii td ty tx):=by
 intro pins s σ H Q I h;refine wpAny_Call_method m.base m.few m.line PySem.F.plainAttrs_dict PySem.F.slot_dict_get PySem.F.type_dict_get (thn (ho pins s σ H _ I h) fun u s1 ⟨x,H1,I1,rx,a,ex,d,q1⟩=>?_);subst ex;obtain rfl:u=Value.ref a:=rx;obtain⟨t1,t2,_⟩:=QC I1 d;refine⟨t1,t2,?_⟩;rw[m.trees];refine Calls.callWith_builtin rfl (Calls.evalArgs_plain (Calls.spliced_cons (thn (he pins s1 σ H1 _ I1 q1) fun iv s2 ⟨y,H2,I2,ry,q2⟩=>
  Calls.spliced_cons (thn (hf pins s2 σ H2 _ I2 q2) fun fv s3 ⟨z,H3,I3,rz,ov,g,q3⟩=>Calls.spliced_nil ?_))))
 exact aif hu I3 g ry rz fun w' s4 I4 rw'=>⟨_,H3,I4,rw',q3⟩
theorem adB(ho:PE X o td)(he:PE X e ty)(m:M1 X o "pop" apos e cpos):PE X (.Call (.Attribute o "pop" apos) [e] [] cpos) (aij td ty):=by
 intro pins s σ H Q I h;refine wpAny_Call_method m.base m.few m.line PySem.F.plainAttrs_dict PySem.F.slot_dict_pop PySem.F.type_dict_pop (thn (ho pins s σ H _ I h) fun u s1 ⟨x,H1,I1,rx,a,ex,d,q1⟩=>?_);subst ex;obtain rfl:u=Value.ref a:=rx;obtain⟨t1,t2,_⟩:=QC I1 d;refine⟨t1,t2,?_⟩;rw[m.trees];refine Calls.callWith_builtin rfl (Calls.evalArgs_plain (Calls.spliced_cons (thn (he pins s1 σ H1 _ I1 q1) fun iv s2 ⟨y,H2,I2,ry,kvs,k,v,ea,ey,l,q2⟩=>Calls.spliced_nil ?_)));subst ey;exact akq I2 ea ry l (.inl rfl) fun w' s3 I3 rw'=>⟨v,_,I3,rw',q2⟩
end
end L2
namespace L2
open PySem PySem.Spec PyProof.Rows
section
variable{X:Cx}
theorem Z1:∀{ps:List Addr}{us:List Value},Vals (ps.map V.ref) us→us=ps.map Value.ref
 |[],us,r=>by
  rw[List.map_nil] at r;cases r;rfl
 |p::ps,us,r=>by
  rw[List.map_cons] at r;cases r with
  |cons h t=>
   cases h;rw[List.map_cons,←Z1 t]
end
end L2
namespace L2
open PySem PySem.Spec PyProof.Rows
section
variable{X:Cx}{pins:List (Addr×Obj)}{σ:St}{H:Hp}{s:Shared}{h':Heap}
theorem Inv.af2{t':Nat}{ch:List Addr}(I:Inv X pins σ H s)(k:∀b o,b∉ch→s.heap.get? b=some o→h'.get? b=some o)(hf:∀b∈ch,DH X pins H b):Inv X pins σ H {s with heap:=h',toks:=t'}:=by
 have nit:∀b u,H b=some u→b∉ch:=fun b u e z=>by
  have q:=(hf b z).1;rw[q] at e;cases e
 refine I.step (g':=s.gens) (d':=s.drawn) (ch:=ch) (fun b hb=>⟨(hf b hb).2.2.2.1,(hf b hb).2.1,(hf b hb).2.2.2.2.1,(hf b hb).2.2.2.2.2⟩) (fun b o _ _ hc e _=>k b o hc e) (fun b o _ _ hc e _=>⟨o.slots,k b o hc e⟩)
  (fun _ _ _ _ n=>n) (fun b o hc e=>⟨o,k b o hc e⟩) (fun _ _ e=>e) (fun _ _ _ e=>e) (fun b ps e=>⟨#[],by rw[e];simp⟩) (fun m hm=>?_) (fun b u e=>?_) I.bare
 ·obtain⟨o,es,ep,ho,r⟩:=hm;exact⟨o,es,ep,k _ o (fun z=>(hf _ z).2.1 rfl) ho,r⟩
 ·refine(I.hok b u e).stay (fun c v hc q=>k c v ?_ q) (fun _ q=>q) fun _ _ q=>q;rcases hc with z|z
  ·rw[z];exact nit b u e
  ·exact nit c _ z
theorem Inv.Pd{t':Nat}{ch:List Addr}{T:Addr}{ob:HO}(I:Inv X pins σ H s)(k:∀b o,b∉ch→s.heap.get? b=some o→h'.get? b=some o)(hf:∀b∈ch,DH X pins H b)(hT:s.heap.objs.size≤T)
  (new:cO X.prog X.w (upd H T ob) h' T ob):Inv X pins σ (upd H T ob) {s with heap:=h',toks:=t'}:=by
 have hn:H T=none:=I.hok.fresh hT;have nit:∀b u,H b=some u→b∉ch:=fun b u e z=>by
  have q:=(hf b z).1;rw[q] at e;cases e
 refine I.step (g':=s.gens) (d':=s.drawn) (ch:=ch) (fun b hb=>⟨(hf b hb).2.2.2.1,(hf b hb).2.1,(hf b hb).2.2.2.2.1,(hf b hb).2.2.2.2.2⟩) (fun b o _ _ hc e _=>k b o hc e) (fun b o _ _ hc e _=>⟨o.slots,k b o hc e⟩)
  (fun b o _ e n=>?_) (fun b o hc e=>⟨o,k b o hc e⟩) (fun b xs e=>?_) (fun b o u e=>?_) (fun b ps e=>⟨#[],?_⟩) (fun m hm=>?_) (fun b u e=>?_) I.bare
 ·rw[ab (Nat.ne_of_lt (Nat.lt_of_lt_of_le (Heap.lt_size e) hT))];exact n
 ·rw[ab (ai e hn)];exact e
 ·rw[ab (ai e hn)];exact e
 ·rw[ab (ai e hn),e];simp
 ·obtain⟨o,es,ep,ho,r⟩:=hm;exact⟨o,es,ep,k _ o (fun z=>(hf _ z).2.1 rfl) ho,r⟩
 ·by_cases hb:b=T
  ·subst hb;rw[ae] at e;cases e;exact new
  ·rw[ab hb] at e;refine(I.hok b u e).stay (fun c v hc q=>k c v ?_ q) (fun c q=>by rw[ab (ai q hn)];exact q) fun c xs q=>by rw[ab (ai q hn)];exact q
   rcases hc with z|z
   ·rw[z];exact nit b u e
   ·exact nit c _ z
theorem Inv.lock{d:Addr}{u:HO}(I:Inv X pins σ H s)(h:H d=some u)(mu:Mut (some u)):∃od,Inv X pins σ (upd H d (.frz od u)) s:=by
 have x:=I.hok d u h;have ex:∃od,s.heap.get? d=some od:=by
  cases u with
  |lst xs=>obtain⟨_,_,_,_,e⟩:=x;exact⟨_,e⟩
  |dK kvs=>obtain⟨_,_,_,_,o,_,_,e,_⟩:=x;exact⟨o,e⟩
  |dT kvs=>obtain⟨_,_,_,_,o,_,_,e,_⟩:=x;exact⟨o,e⟩
  |set S n=>obtain⟨o,_,_,_,e,_⟩:=x;exact⟨o,e⟩
  |ins C dx fs=>obtain⟨_,_,_,e,_⟩:=x;exact⟨_,e⟩
  |ext φ=>obtain⟨_,⟨_,e⟩,_⟩:=x;exact⟨_,e⟩
  |_=>exact False.elim mu
 obtain⟨od,e⟩:=ex;have new:cO X.prog X.w (upd H d (.frz od u)) s.heap d (.frz od u):=by
  refine⟨e,x.stay (fun b v _ q=>q) (fun b q=>?_) fun b xs q=>?_⟩
  ·rw[ab (fun z=>by rw[z,h] at q;cases q;exact mu)];exact q
  ·rw[ab (fun z=>by rw[z,h] at q;cases q;exact mu)];exact q
 exact⟨od,I.write (x:=d) (e:=d) (t':=s.toks) (h':=s.heap) (by rw[h];exact mu) (.inl rfl) (fun b v _ q=>q) ⟨od,e⟩ new⟩
theorem Inv.UC{d:Addr}{u:HO}(I:Inv X pins σ H s)(h:H d=some u)(mu:Mut (some u)):∀o' u',X.H_0 d≠some (.frz o' u'):=fun o' u' e=>by
 have q:=I.base.Jd d o' u' e;rw[h] at q;cases q;exact mu
theorem Inv.unlock{d:Addr}{od:Obj}{u:HO}(I:Inv X pins σ H s)(h:H d=some (.frz od u))(hn:∀o' u',X.H_0 d≠some (.frz o' u')):Inv X pins σ (upd H d u) s:=by
 have neH:∀b o,H b=some o→(∀o' u',o≠.frz o' u')→b≠d:=fun b o e hne z=>by
  rw[z,h] at e;cases e;exact hne _ _ rfl
 have neN:∀b,H b=none→b≠d:=fun b e z=>by rw[z,h] at e;cases e
 refine⟨I.ok,I.os,I.bare,⟨I.base.keep,I.base.slot,fun b o e n hx=>?_,I.base.there,fun b xs e=>?_,fun b o x e=>?_,fun b ps e=>?_⟩,I.loc,I.cell,?_,fun x c e=>?_,fun p hp=>?_,fun b o e=>?_,I.len⟩
 ·rw[ab (neN b (I.base.free b o e n hx))];exact I.base.free b o e n hx
 ·have q:=I.base.tups b xs e;rw[ab (neH b _ q (fun _ _ z=>nomatch z))];exact q
 ·have q:=I.base.Jd b o x e;rw[ab (fun z=>by rw[z] at e;exact hn _ _ e)];exact q
 ·obtain⟨m,q⟩:=I.base.Ql b ps e;exact⟨m,by rw[ab (neH b _ q (fun _ _ z=>nomatch z))];exact q⟩
 ·rw[ab (neN _ I.free)];exact I.free
 ·rw[ab (neN c (I.pH x c e))];exact I.pH x c e
 ·obtain⟨e,n,r⟩:=I.pin p hp;exact⟨e,by rw[ab (neN _ n)];exact n,r⟩
 ·by_cases hb:b=d
  ·rw[hb,ae] at e;cases e;rw[hb];obtain⟨_,x⟩:=I.hok d _ h;exact x.stay (fun c v _ q=>q) (fun c q=>by rw[ab (neH c _ q (fun _ _ z=>nomatch z))];exact q) fun c xs q=>by rw[ab (neH c _ q (fun _ _ z=>nomatch z))];exact q
  ·rw[ab hb] at e;exact(I.hok b o e).stay (fun c v _ q=>q) (fun c q=>by rw[ab (neH c _ q (fun _ _ z=>nomatch z))];exact q) fun c xs q=>by rw[ab (neH c _ q (fun _ _ z=>nomatch z))];exact q
end
def aks(t:TS):TS:=fun D σ H=>∃d u,H d=some u∧Mut (some u)∧∀od,t ⟨fun σ' H'=>H' d=some (.frz od u)∧D.nx σ' (upd H' d u),fun v H'=>H' d=some (.frz od u)∧D.rt v (upd H' d u),fun σ' H'=>H' d=some (.frz od u)∧D.bk σ' (upd H' d u),fun σ' H'=>H' d=some (.frz od u)∧D.ct σ' (upd H' d u)⟩ σ (upd H d (.frz od u))
def aik(t:TE):TE:=fun σ H Q=>∃d u,H d=some u∧Mut (some u)∧∀od,t σ (upd H d (.frz od u)) fun v H'=>H' d=some (.frz od u)∧Q v (upd H' d u)
section
variable{X:Cx}
theorem nP{st:Stmt}{t:TS}(h:PS X st t):PS X st (aks t):=by
 intro pins s σ H D I hw;obtain⟨d,u,hd,mu,hw⟩:=hw;obtain⟨od,I1⟩:=I.lock hd mu;refine thn (h pins s σ _ _ I1 (hw od)) fun f s1 q=>?_;cases f with
 |next=>obtain⟨σ',H',I2,e,q⟩:=q;exact⟨σ',_,I2.unlock e (I.UC hd mu),q⟩
 |brk=>obtain⟨σ',H',I2,e,q⟩:=q;exact⟨σ',_,I2.unlock e (I.UC hd mu),q⟩
 |cont=>obtain⟨σ',H',I2,e,q⟩:=q;exact⟨σ',_,I2.unlock e (I.UC hd mu),q⟩
 |ret v=>obtain⟨x,σ',H',I2,r,e,q⟩:=q;exact⟨x,σ',_,I2.unlock e (I.UC hd mu),r,q⟩
theorem Z2{e:Expr}{t:TE}(h:PE X e t):PE X e (aik t):=by
 intro pins s σ H Q I hw;obtain⟨d,u,hd,mu,hw⟩:=hw;obtain⟨od,I1⟩:=I.lock hd mu;refine thn (h pins s σ _ _ I1 (hw od)) fun v s1 ⟨x,H1,I2,r,e2,q⟩=>?_;exact⟨x,_,I2.unlock e2 (I.UC hd mu),r,q⟩
theorem QD{tg:Expr}{pins:List (Addr×Obj)}{σ:St}{H:Hp}{s:Shared}{R:It→Hp→Prop}{J:It}{tn:Nat→Heap→Prop}{tk:Nat}(I:Inv X pins σ H s)(o:Obj)
  (T:Turn X.prog X.w X.K tg J [s.heap.objs.size] s.heap.objs.size tn) (st:tn 0 (s.heap.push o)) (q:R J H):PIE X pins σ tg R (.ref s.heap.objs.size) {s with heap:=s.heap.push o,toks:=tk}:=by
 refine⟨s.heap.objs.size,[s.heap.objs.size],tn,J,H,rfl,I.kept fun b ob e=>Heap.get?_push_of_some _ e,T,st,fun b hb=>?_,q⟩;have e:b=s.heap.objs.size:=by simpa using hb
 subst e;exact I.adg (Nat.le_refl _) (I.hok.fresh (Nat.le_refl _))
end
section
variable{prog:Program}{w:World}{A:Around}{E:Value→Shared→Prop}{s:Shared}
theorem Pe{d:Addr}{o:Obj}{es:Array DictEntry}{ep:Nat}{Q:Value→Shared→Prop}(hd:(d==sysModules)=false)(ho:s.heap.get? d=some o)(hc:o.ExactDict)(hdat:o.data=.dict es ep)
  (hQ:Q (.ref s.heap.objs.size) {s with heap:=s.heap.push {cls:=.type "dict_keyiterator",data:=.fields #[.ref d,.int 0 0,.int es.size 0,.int ep 0]}}):
  wpAny (model prog w) A (pyIter (.ref d)) Q E s:=by
 have hT:s.TypeIs (.ref d) "dict":=⟨o,ho,hc.1⟩
 refine wpAny_pyIter_slot hT F.slot_dict_iter (wpAny_call_entry F.slot_dict_iter hT F.entry_dict_iter ?_ (F.args_dict_iter_1 _));unfold Builtin.«dict.__iter__»;refine wpAny_bind ?_;unfold Builtin.Dict.dictSlotNone;refine wpAny_bind (wpAny_notOrdered_dict hT ?_);show wpAny _ _ (pure (Value.ref d)) _ _ s;refine wpAny_pure ?_;show wpAny _ _ (Builtin.Dict.showsAll d>>=_) _ _ s;unfold Builtin.Dict.showsAll;rw[if_neg (by rw[hd];exact Bool.false_ne_true)];refine wpAny_bind (wpAny_pure ?_);refine wpAny_bind (wpAny_dictEntries ho hdat ?_);refine wpAny_bind (wpAny_dictEpoch ho hdat ?_);refine wpAny_bind (wpAny_newObj_type (wpAny_pure ⟨_,rfl,"dict_keyiterator",_,⟨_,Heap.get?_push_size _ rfl,rfl⟩,F.slot_dict_keyiterator_next.lookup,?_⟩))
 simpa [rawInt] using hQ
theorem MI{it d:Addr}{i n ep:Nat}{od:Obj}{es:Array DictEntry}{en:DictEntry}{Q:Option Value→Shared→Prop}(hit:s.heap.IsKeyIter it d i n ep)(hod:s.heap.get? d=some od)(hdd:od.data=.dict es ep)
  (hsz:es.size=n) (hx:es[i]?=some en) (hQ:∀h',h'.IsKeyIter it d (i+1) n ep→Heap.SameBut it s.heap h'→Q (some en.key) {s with heap:=h'}):wpAny (model prog w) A (pyNext (.ref it)) Q E s:=by
 obtain⟨o,ho,hc,hd⟩:=id hit;unfold pyNext;refine wpAny_bind (wpAny_attempt (wpAny_callSpecial?_slot (name:=Str.ofString "__next__") hit.typeIs F.slot_dict_keyiterator_next
  (wpAny_call_entry F.slot_dict_keyiterator_next hit.typeIs F.entry_dict_keyiterator_next ?_ (F.args_dict_keyiterator_next_1 _))))
 refine wpAny_bind (wpAny_pure ?_);refine wpAny_bind ?_;refine wpAny_bind ?_
 first|refine wpAny_bind (wpAny_typeNameOfWhole_keyiter hit.typeIs (wpAny_pure ?_))|refine wpAny_bind (wpAny_typeNameOf_keyiter hit.typeIs (wpAny_pure ?_))
 refine wpAny_bind (wpAny_fieldsOf ho hd ?_);have hown:Builtin.Dict_items.ownsTuple "dict_keyiterator"=false:=by decide
 simp only[hown,Bool.false_eq_true,if_false];show wpAny _ _ (if(Value.ref d==Value.none)=true then _ else _) _ _ s;rw[if_neg (show¬((Value.ref d==Value.none)=true) from Bool.false_ne_true)];refine wpAny_bind (wpAny_pure ?_);refine wpAny_bind (wpAny_dictEntries hod hdd ?_);rw[if_neg (by rw[hsz];simp)];refine wpAny_bind (wpAny_pure ?_);refine wpAny_bind (wpAny_dictEpoch hod hdd ?_);rw[if_neg (by simp)];refine wpAny_pure ?_;obtain⟨hlt',hen⟩:=Array.getElem?_eq_some_iff.mp hx;simp only[show¬((i:Int)<0) from by omega,if_false,Int.toNat_natCast,Array.getElem?_eq_getElem hlt'];refine wpAny_bind ?_
 first|refine wpAny_bind (wpAny_typeNameOfWhole_keyiter hit.typeIs (wpAny_pure ?_))|refine wpAny_bind (wpAny_typeNameOf_keyiter hit.typeIs (wpAny_pure ?_))
 refine wpAny_bind (wpAny_isOneOf_keyiter hit.typeIs ?_);show wpAny _ _ (setField (.ref it) 1 (rawInt ((i:Int)+1))>>=_) _ _ s;refine wpAny_bind (wpAny_setField ho hd (by simp) ?_);have hit':(s.heap.update it (Obj.mapFields (·.setIfInBounds 1 (rawInt ((i:Int)+1))))).IsKeyIter it d (i+1) n ep:=
  ⟨_,Heap.get?_update_self _ ho (Obj.isFreed_of_fields (Obj.data_mapFields hd _)),(Obj.cls_mapFields ..).trans hc,by rw[Obj.data_mapFields hd];simp[rawInt]⟩
 refine wpAny_bind (wpAny_holding ?_);refine wpAny_bind (wpAny_isOneOf_keyiter (s:={s with heap:=s.heap.update it (Obj.mapFields (·.setIfInBounds 1 (rawInt ((i:Int)+1))))}) hit'.typeIs ?_);show wpAny _ _ (pure es[i].key) _ _ _;rw[hen];exact wpAny_pure (wpAny_pure ⟨_,rfl,wpAny_pure (hQ _ hit' (Heap.SameBut.update ..))⟩)
theorem AV{it d:Addr}{i n ep:Nat}{od:Obj}{es:Array DictEntry}{Q:Option Value→Shared→Prop}(hh:A.handled=none)(hit:s.heap.IsKeyIter it d i n ep)(hod:s.heap.get? d=some od)(hdd:od.data=.dict es ep)
  (hsz:es.size=n) (hge:n≤i) (hQ:∀h',Heap.ExtBut it s.heap h'→Q none {s with heap:=h'}):wpAny (model prog w) A (pyNext (.ref it)) Q E s:=by
 obtain⟨o,ho,hc,hd⟩:=id hit;unfold pyNext;refine wpAny_bind (wpAny_attempt (wpAny_callSpecial?_slot (name:=Str.ofString "__next__") hit.typeIs F.slot_dict_keyiterator_next
  (wpAny_call_entry F.slot_dict_keyiterator_next hit.typeIs F.entry_dict_keyiterator_next ?_ (F.args_dict_keyiterator_next_1 _))))
 refine wpAny_bind (wpAny_pure ?_);refine wpAny_bind ?_;refine wpAny_bind ?_
 first|refine wpAny_bind (wpAny_typeNameOfWhole_keyiter hit.typeIs (wpAny_pure ?_))|refine wpAny_bind (wpAny_typeNameOf_keyiter hit.typeIs (wpAny_pure ?_))
 refine wpAny_bind (wpAny_fieldsOf ho hd ?_);have hown:Builtin.Dict_items.ownsTuple "dict_keyiterator"=false:=by decide
 simp only[hown,Bool.false_eq_true,if_false];show wpAny _ _ (if(Value.ref d==Value.none)=true then _ else _) _ _ s;rw[if_neg (show¬((Value.ref d==Value.none)=true) from Bool.false_ne_true)];refine wpAny_bind (wpAny_pure ?_);refine wpAny_bind (wpAny_dictEntries hod hdd ?_);rw[if_neg (by rw[hsz];simp)];refine wpAny_bind (wpAny_pure ?_);refine wpAny_bind (wpAny_dictEpoch hod hdd ?_);rw[if_neg (by simp)];refine wpAny_pure ?_;have hge':es.size≤i:=by rw[hsz];exact hge
 simp only[show¬((i:Int)<0) from by omega,if_false,Int.toNat_natCast,Array.getElem?_eq_none hge'];refine wpAny_bind ?_
 first|refine wpAny_bind (wpAny_typeNameOfWhole_keyiter hit.typeIs (wpAny_pure ?_))|refine wpAny_bind (wpAny_typeNameOf_keyiter hit.typeIs (wpAny_pure ?_))
 show wpAny _ _ (setField (.ref it) 0 .none>>=_) _ _ s;refine wpAny_bind (wpAny_setField ho hd (by simp) ?_);show wpAny _ _ (newExc (.type "StopIteration") []>>=_) _ _ _;refine wpAny_bind ?_;simp only[newExc,newTuple];refine wpAny_bind (wpAny_newObj_type ?_ (by size_fits));refine wpAny_bind (m:=firstArgMember _ _) (wpAny_of_eq (a:=Value.none) (by first|rfl|(simp only[firstArgMember];rfl)) ?_);refine wpAny_newObj_type ?_ (by size_fits);simp only[raiseNew];refine wpAny_bind (wpAny_handled ?_);rw[show A.in1.handled=none from hh];refine wpAny_bind (wpAny_pure (wpAny_throw ?_));refine wpAny_bind (wpAny_isInstance (T:="StopIteration") (b:=true) ⟨_,Heap.get?_push_size _ rfl,rfl⟩ isSubtype_stop ?_);exact wpAny_pure (hQ _ (((Heap.SameBut.update ..).extBut.push _).push _))
end
theorem Yi{κ:Type}{kvs:List (κ×V)}{vs:List (κ×Value)}(h:KV kvs vs):∀{i:Nat}{k:κ}{v:V},kvs[i]?=some (k,v)→∃u,vs[i]?=some (k,u)∧RelV v u:=by
 unfold KV at h
 induction h with
 |nil=>intro i k v e;simp at e
 | @cons a b l₁ l₂ r t ih=>
  intro i k v e;cases i with
  |zero=>
   simp only[List.getElem?_cons_zero,Option.some.injEq] at e;subst e;refine⟨b.2,?_,r.2⟩;simp only[List.getElem?_cons_zero];exact congrArg some (Prod.ext r.1.symm rfl)
  |succ j=>
   simp only[List.getElem?_cons_succ] at e⊢;exact ih e
theorem qY{α β:Type}{G:α→β→Prop}{l₁:List α}{l₂:List β}(h:Paired G l₁ l₂):∀{i:Nat}{a:α},l₁[i]?=some a→∃b,l₂[i]?=some b∧G a b:=by
 induction h with
 |nil=>intro i a e;simp at e
 | @cons a b l₁ l₂ r t ih=>
  intro i a' e;cases i with
  |zero=>
   simp only[List.getElem?_cons_zero,Option.some.injEq] at e;subst e;exact⟨b,rfl,r⟩
  |succ j=>
   simp only[List.getElem?_cons_succ] at e⊢;exact ih e
theorem UD{k:Key}{u:Value}(h:mj k u=true):RelV (kV k) u:=by
 rcases dh h with⟨i,t,rfl,rfl⟩|⟨x,t,rfl,rfl⟩
 ·exact⟨t,rfl⟩
 ·exact⟨t,rfl⟩
section
variable{X:Cx}{pins:List (Addr×Obj)}{σ:St}{H:Hp}{s:Shared}{d:Addr}{o:Obj}
theorem Inv.QE{kvs:List (Key×V)}(I:Inv X pins σ H s)(h:H d=some (.frz o (.dK kvs))):
  (d==sysModules)=false∧s.heap.get? d=some o∧o.ExactDict∧∃(es:Array DictEntry)(ep:Nat)(vs:List (Key×Value)),o.data=.dict es ep∧es.size=kvs.length∧KV kvs vs∧s.heap.DictAt (aO X.prog X.w) d vs ep:=by
 obtain⟨hd,z,hs,vs,kv,o',es,ep,ho,hx,hdt,r⟩:=I.hok d _ h;rw[hd] at ho;cases ho;refine⟨hs,hd,hx,es,ep,vs,hdt,?_,kv,o,es,hd,hx,hdt,r⟩;have l1:=r.2.1.length;have l2:kvs.length=vs.length:=Paired.length kv;rw[Array.length_toList] at l1;omega
theorem Inv.ail{kvs:List (List Key×V)}(I:Inv X pins σ H s)(h:H d=some (.frz o (.dT kvs))):
  (d==sysModules)=false∧s.heap.get? d=some o∧o.ExactDict∧∃(es:Array DictEntry)(ep:Nat),o.data=.dict es ep∧es.size=kvs.length∧
   ∀(i:Nat)(k:List Key)(v:V),kvs[i]?=some (k,v)→∃(en:DictEntry)(q:Addr),es[i]?=some en∧en.key=.ref q∧H q=some (.tup (k.map kV)):=by
 obtain⟨hd,z,hs,xs,pr,o',es,ep,ho,hx,hdt,he,_⟩:=I.hok d _ h;rw[hd] at ho;cases ho;refine⟨hs,hd,hx,es,ep,hdt,?_,fun i k v e=>?_⟩
 ·have l1:es.size=xs.length:=size_of_entries he;have l2:kvs.length=xs.length:=Paired.length pr;omega
 ·obtain⟨b,hb,e1,e2,_⟩:=qY pr e;have q:=entry_at he i;rw[hb] at q;exact⟨_,b.2.1,q,rfl,e2⟩
end
def Itk(d:Addr)(o:Obj)(kvs:List (Key×V)):It:=
 ⟨fun i H=>H d=some (.frz o (.dK kvs))∧i<kvs.length,fun i H x H'=>H'=H∧∃k v,kvs[i]?=some (k,v)∧x=kV k,fun i H=>H d=some (.frz o (.dK kvs))∧kvs.length≤i⟩
def akt(d:Addr)(o:Obj)(kvs:List (List Key×V)):It:=
 ⟨fun i H=>H d=some (.frz o (.dT kvs))∧i<kvs.length,fun i H x H'=>H'=H∧∃(k:List Key)(v:V)(q:Addr),kvs[i]?=some (k,v)∧x=.ref q∧H q=some (.tup (k.map kV)),fun i H=>H d=some (.frz o (.dT kvs))∧kvs.length≤i⟩
def Itd(d:Addr)(o:Obj)(kvs:List (Key×V)):It:=
 ⟨fun i H=>H d=some (.frz o (.dK kvs))∧i<kvs.length,fun i H x H'=>H'=H∧∃k,kvs[i]?=some (k,x),fun i H=>H d=some (.frz o (.dK kvs))∧kvs.length≤i⟩
def Iti(d:Addr)(o:Obj)(kvs:List (Key×V)):It:=
 ⟨fun i H=>H d=some (.frz o (.dK kvs))∧i<kvs.length,fun i H x H'=>∃T k v,kvs[i]?=some (k,v)∧x=.ref T∧H T=none∧H'=upd H T (.tup [kV k,v]),fun i H=>H d=some (.frz o (.dK kvs))∧kvs.length≤i⟩
theorem nQ{o:Obj}{es es':Array DictEntry}{ep ep':Nat}(h:o.data=.dict es ep)(h':o.data=.dict es' ep'):es'=es∧ep'=ep:=by
 rw[h] at h';cases h';exact⟨rfl,rfl⟩
section
variable{P:Program}{w:World}{K:PySem.W.Frag}{tg:Expr}{d:Addr}{o:Obj}{es:Array DictEntry}{ep:Nat}
theorem abb{kvs:List (Key×V)}(it:Addr)(hod:o.data=.dict es ep):Turn P w K tg (Itk d o kvs) [it] it (fun i h=>h.IsKeyIter it d i kvs.length ep) where
 mem:=by simp
 obj:=fun i h st b hb=>by
  have e:b=it:=by simpa using hb
  subst e;obtain⟨oi,e,c,dd⟩:=st;exact⟨oi,e,fun v z=>by rw[dd] at z;cases z⟩
 keep:=fun i h h' st k=>st.at fun oi e=>k it (by simp) oi e
 item:=by
  intro X hP hw hK hc i pins s σ H E I hf st hg;subst hP hw hK;obtain⟨hd,hi⟩:=hg;obtain⟨f0,f1,f2,f3,f4,f5⟩:=hf it (by simp);obtain⟨hs,hgd,hx,es',ep',vs,hdt,hsz,kv,hm⟩:=I.QE hd;obtain⟨rfl,rfl⟩:=nQ hod hdt;obtain⟨⟨k,v⟩,hkv⟩:∃p,kvs[i]?=some p:=⟨kvs[i],List.getElem?_eq_getElem hi⟩
  obtain⟨u,hu,ru⟩:=Yi kv hkv;have hl:kvs.length=vs.length:=Paired.length kv;rw[hl] at st;refine wpAny_pyNext_dict_item st hm hu fun key h' hkey st' sb=>?_;have I1:Inv X pins σ H {s with heap:=h'}:=I.turned (t':=s.toks) (fun b ob hb e=>(sb.2 b hb).trans e) f0 f1 f3 f4 f5;obtain⟨oi,e,c,dd⟩:=id st';refine⟨key,rfl,Up (s:={s with heap:=h'}) e c dd (by decide) ⟨kV k,H,I1,UD (show mj k key=true from hkey),⟨rfl,k,v,hkv,rfl⟩,?_,fun b hb=>(hf b hb).1⟩⟩;show h'.IsKeyIter it d (i+1) kvs.length _;rw[hl];exact st'
 done:=by
  intro X hP hw hK hc i pins s σ H E I hf st hg;subst hP hw hK;obtain⟨hd,hi⟩:=hg;obtain⟨f0,f1,f2,f3,f4,f5⟩:=hf it (by simp);obtain⟨hs,hgd,hx,es',ep',vs,hdt,hsz,kv,hm⟩:=I.QE hd;obtain⟨rfl,rfl⟩:=nQ hod hdt;exact AV (I.ok.hd hc) st hgd hdt hsz hi fun h' eb=>⟨rfl,I.turned (t':=s.toks) (fun b ob hb e=>eb b ob hb e) f0 f1 f3 f4 f5⟩
 self:=fun A i s Q E st h=>wpAny_pyIter_keyiter st h
theorem Yj{kvs:List (List Key×V)}(it:Addr)(hod:o.data=.dict es ep):Turn P w K tg (akt d o kvs) [it] it (fun i h=>h.IsKeyIter it d i kvs.length ep) where
 mem:=by simp
 obj:=fun i h st b hb=>by
  have e:b=it:=by simpa using hb
  subst e;obtain⟨oi,e,c,dd⟩:=st;exact⟨oi,e,fun v z=>by rw[dd] at z;cases z⟩
 keep:=fun i h h' st k=>st.at fun oi e=>k it (by simp) oi e
 item:=by
  intro X hP hw hK hc i pins s σ H E I hf st hg;subst hP hw hK;obtain⟨hd,hi⟩:=hg;obtain⟨f0,f1,f2,f3,f4,f5⟩:=hf it (by simp);obtain⟨hs,hgd,hx,es',ep',hdt,hsz,ent⟩:=I.ail hd;obtain⟨rfl,rfl⟩:=nQ hod hdt;obtain⟨⟨k,v⟩,hkv⟩:∃p,kvs[i]?=some p:=⟨kvs[i],List.getElem?_eq_getElem hi⟩
  obtain⟨en,q,hen,hkey,hq⟩:=ent i k v hkv;refine MI st hgd hdt hsz hen fun h' st' sb=>?_;have I1:Inv X pins σ H {s with heap:=h'}:=I.turned (t':=s.toks) (fun b ob hb e=>(sb.2 b hb).trans e) f0 f1 f3 f4 f5;obtain⟨oi,e,c,dd⟩:=id st';exact⟨en.key,rfl,Up (s:={s with heap:=h'}) e c dd (by decide) ⟨.ref q,H,I1,hkey,⟨rfl,k,v,q,hkv,rfl,hq⟩,st',fun b hb=>(hf b hb).1⟩⟩
 done:=by
  intro X hP hw hK hc i pins s σ H E I hf st hg;subst hP hw hK;obtain⟨hd,hi⟩:=hg;obtain⟨f0,f1,f2,f3,f4,f5⟩:=hf it (by simp);obtain⟨hs,hgd,hx,es',ep',hdt,hsz,ent⟩:=I.ail hd;obtain⟨rfl,rfl⟩:=nQ hod hdt;exact AV (I.ok.hd hc) st hgd hdt hsz hi fun h' eb=>⟨rfl,I.turned (t':=s.toks) (fun b ob hb e=>eb b ob hb e) f0 f1 f3 f4 f5⟩
 self:=fun A i s Q E st h=>by
  refine wpAny_pyIter_slot st.typeIs F.slot_dict_keyiterator_iter (wpAny_call_entry F.slot_dict_keyiterator_iter st.typeIs F.entry_dict_keyiterator_iter ?_ (F.args_dict_keyiterator_iter_1 _));show wpAny _ _ (ret (.ref it)) _ _ s;exact wpAny_pure ⟨_,rfl,"dict_keyiterator",_,st.typeIs,F.slot_dict_keyiterator_next.lookup,h⟩
theorem abc{kvs:List (Key×V)}(it:Addr)(hod:o.data=.dict es ep):Turn P w K tg (Itd d o kvs) [it] it (fun i h=>h.IsValIter it d i kvs.length ep) where
 mem:=by simp
 obj:=fun i h st b hb=>by
  have e:b=it:=by simpa using hb
  subst e;obtain⟨oi,e,c,dd⟩:=st;exact⟨oi,e,fun v z=>by rw[dd] at z;cases z⟩
 keep:=fun i h h' st k=>st.at fun oi e=>k it (by simp) oi e
 item:=by
  intro X hP hw hK hc i pins s σ H E I hf st hg;subst hP hw hK;obtain⟨hd,hi⟩:=hg;obtain⟨f0,f1,f2,f3,f4,f5⟩:=hf it (by simp);obtain⟨hs,hgd,hx,es',ep',vs,hdt,hsz,kv,hm⟩:=I.QE hd;obtain⟨rfl,rfl⟩:=nQ hod hdt;obtain⟨⟨k,v⟩,hkv⟩:∃p,kvs[i]?=some p:=⟨kvs[i],List.getElem?_eq_getElem hi⟩
  obtain⟨u,hu,ru⟩:=Yi kv hkv;have hl:kvs.length=vs.length:=Paired.length kv;rw[hl] at st;refine wpAny_pyNext_values_item st hm hu fun h' st' sb=>?_;have I1:Inv X pins σ H {s with heap:=h'}:=I.turned (t':=s.toks) (fun b ob hb e=>(sb.2 b hb).trans e) f0 f1 f3 f4 f5;obtain⟨oi,e,c,dd⟩:=id st';refine⟨u,rfl,Up (s:={s with heap:=h'}) e c dd (by decide) ⟨v,H,I1,ru,⟨rfl,k,hkv⟩,?_,fun b hb=>(hf b hb).1⟩⟩;show h'.IsValIter it d (i+1) kvs.length _;rw[hl];exact st'
 done:=by
  intro X hP hw hK hc i pins s σ H E I hf st hg;subst hP hw hK;obtain⟨hd,hi⟩:=hg;obtain⟨f0,f1,f2,f3,f4,f5⟩:=hf it (by simp);obtain⟨hs,hgd,hx,es',ep',vs,hdt,hsz,kv,hm⟩:=I.QE hd;obtain⟨rfl,rfl⟩:=nQ hod hdt;have hl:kvs.length=vs.length:=Paired.length kv;rw[hl] at st;exact wpAny_pyNext_values_end (I.ok.hd hc) st hm (List.getElem?_eq_none (by omega)) fun h' eb=>⟨rfl,I.turned (t':=s.toks) (fun b ob hb e=>eb b ob hb e) f0 f1 f3 f4 f5⟩
 self:=fun A i s Q E st h=>wpAny_pyIter_valiter st h
theorem Yk{kvs:List (Key×V)}{elts:List Expr}{kk:Nat}{tpos:Pos}(it:Addr)(hod:o.data=.dict es ep):
  Turn P w K (.Tuple elts kk tpos) (Iti d o kvs) [it] it (fun i h=>∃ok ov,IsItemIter h it d i kvs.length ep ok ov) where
 mem:=by simp
 obj:=fun i h st b hb=>by
  have e:b=it:=by simpa using hb
  subst e;obtain⟨ok,ov,e⟩:=st;exact⟨_,e,fun v z=>nomatch z⟩
 keep:=fun i h h' st k=>let ⟨ok,ov,e⟩:=st;⟨ok,ov,k it (by simp) _ e⟩
 item:=by
  intro X hP hw hK hc i pins s σ H E I hf st hg;subst hP hw hK;obtain⟨hd,hi⟩:=hg;obtain⟨hs,hgd,hx,es',ep',vs,hdt,hsz,kv,hm⟩:=I.QE hd;obtain⟨rfl,rfl⟩:=nQ hod hdt;obtain⟨⟨k,v⟩,hkv⟩:∃p,kvs[i]?=some p:=⟨kvs[i],List.getElem?_eq_getElem hi⟩
  obtain⟨u,hu,ru⟩:=Yi kv hkv;have hl:kvs.length=vs.length:=Paired.length kv;obtain⟨ok,ov,he⟩:=st;rw[hl] at he;have hlt:it<s.heap.objs.size:=Heap.lt_size he;refine wpAny_pyNext_items_item he hm hu fun key h' hkey ho hT hz hk=>?_;refine⟨_,rfl,wpAny_letOwnedTupleGo_items (s:={s with heap:=h'}) ho fun h'' he' sb=>?_⟩;have hT2:h''.get? s.heap.objs.size=some {cls:=.type "tuple",data:=.seq #[key,u]}:=(sb.2 _ (Nat.ne_of_gt hlt)).trans hT;have new:cO X.prog X.w (upd H s.heap.objs.size (.tup [kV k,v])) h'' s.heap.objs.size (.tup [kV k,v]):=
   ⟨by show 2≤sizeLine;decide,[key,u],.cons (UD (show mj k key=true from hkey)) (.cons ru .nil),⟨_,hT2,rfl,_,rfl⟩⟩
  have I1:Inv X pins σ (upd H s.heap.objs.size (.tup [kV k,v])) {s with heap:=h''}:=
   I.Pd (t':=s.toks) (ch:=[it]) (fun b ob hb e=>(sb.2 b (by simpa using hb)).trans (hk b ob (by simpa using hb) e)) hf (Nat.le_refl _) new
  refine⟨.ref s.heap.objs.size,_,I1,rfl,⟨_,k,v,hkv,rfl,I.hok.fresh (Nat.le_refl _),rfl⟩,⟨key,u,?_⟩,fun b hb=>?_⟩
  ·rw[hl];exact he'
  ·have e:b=it:=by simpa using hb
   rw[e,ab (Nat.ne_of_lt hlt)];exact(hf it (by simp)).1
 done:=by
  intro X hP hw hK hc i pins s σ H E I hf st hg;subst hP hw hK;obtain⟨hd,hi⟩:=hg;obtain⟨f0,f1,f2,f3,f4,f5⟩:=hf it (by simp);obtain⟨hs,hgd,hx,es',ep',vs,hdt,hsz,kv,hm⟩:=I.QE hd;obtain⟨rfl,rfl⟩:=nQ hod hdt;have hl:kvs.length=vs.length:=Paired.length kv;obtain⟨ok,ov,he⟩:=st;rw[hl] at he;exact wpAny_pyNext_items_end (I.ok.hd hc) he hm (List.getElem?_eq_none (by omega)) fun h' eb=>⟨rfl,I.turned (t':=s.toks) (fun b ob hb e=>eb b ob hb e) f0 f1 f3 f4 f5⟩
 self:=fun A i s Q E st h=>let ⟨_,_,e⟩:=st;PySem.W.kcp_self e h
end
def aku(td:TE):TI:=fun σ H R=>td σ H fun x H1=>∃d o,x=.ref d∧((∃kvs,H1 d=some (.frz o (.dK kvs))∧R (Itk d o kvs) H1)∨∃kvs,H1 d=some (.frz o (.dT kvs))∧R (akt d o kvs) H1)
def akv(td:TE):TI:=fun σ H R=>td σ H fun x H1=>∃d o kvs,x=.ref d∧H1 d=some (.frz o (.dK kvs))∧R (Itd d o kvs) H1
def aim(td:TE):TI:=fun σ H R=>td σ H fun x H1=>∃d o kvs,x=.ref d∧H1 d=some (.frz o (.dK kvs))∧R (Iti d o kvs) H1
section
variable{X:Cx}{tg e:Expr}{td:TE}{apos cpos:Pos}
theorem lU(he:PE X e td):PI X tg e (aku td):=by
 intro pins s σ H R I h;refine thn (he pins s σ H _ I h) fun u s1 ⟨x,H1,I1,rx,d,o,ex,q⟩=>?_;subst ex;obtain rfl:u=Value.ref d:=rx;rcases q with⟨kvs,hd,q⟩|⟨kvs,hd,q⟩
 ·obtain⟨hs,hgd,hx,es,ep,vs,hdt,hsz,kv,hm⟩:=I1.QE hd;refine Pe hs hgd hx hdt (QD (tk:=s1.toks) I1 _ (abb _ hdt) ⟨_,Heap.get?_push_size _ rfl,rfl,?_⟩ q);rw[hsz]<;>rfl
 ·obtain⟨hs,hgd,hx,es,ep,hdt,hsz,ent⟩:=I1.ail hd;refine Pe hs hgd hx hdt (QD (tk:=s1.toks) I1 _ (Yj _ hdt) ⟨_,Heap.get?_push_size _ rfl,rfl,?_⟩ q);rw[hsz]<;>rfl
theorem abd(he:PE X e td)(hbase:attributeBase e "values" X.env (eval e X.env)=eval e X.env:=by rfl)(hline:(apos.endLine==cpos.line)=true:=by rfl):PI X tg (.Call (.Attribute e "values" apos) [] [] cpos) (akv td):=by
 intro pins s σ H R I h;refine wpAny_Call_method (T:="dict") (id:="dict.values") hbase rfl hline F.plainAttrs_dict F.slot_dict_values F.type_dict_values (thn (he pins s σ H _ I h) fun u s1 ⟨x,H1,I1,rx,d,o,kvs,ex,hd,q⟩=>?_);subst ex;obtain rfl:u=Value.ref d:=rx;obtain⟨hs,hgd,hx,es,ep,vs,hdt,hsz,kv,hm⟩:=I1.QE hd;have hl:kvs.length=vs.length:=Paired.length kv;refine⟨hm.dictOf.typeIs,hm.dictOf.mapOf.noDict,?_⟩;have I2:Inv X pins σ H1 {s1 with heap:=s1.heap.push {cls:=.type "dict_values",data:=.fields #[.ref d]}}:=I1.kept (t':=s1.toks) fun b ob q=>Heap.get?_push_of_some _ q;have fin:wpAny (model X.prog X.w) X.A (pyIter (.ref s1.heap.objs.size)) (PIE X pins σ tg R) X.xe {s1 with heap:=s1.heap.push {cls:=.type "dict_values",data:=.fields #[.ref d]}}:=by
  refine wpAny_pyIter_values (d:=d) (knd:=aO X.prog X.w) ⟨_,Heap.get?_push_size _ rfl,rfl,rfl⟩ (hm.push _) (QD (tk:=s1.toks) I2 _ (abc _ hdt) ⟨_,Heap.get?_push_size _ rfl,rfl,?_⟩ q);rw[hl]<;>rfl
 show wpAny _ _ (callWith cpos (.builtin "dict.values") [.ref d] [] []) _ X.xe s1;exact method_meetsIn F.slot_dict_values F.entry_dict_values rfl (PySem.evalArgs_none ⟨rfl,hm.dictOf.typeIs,F.args_dict_values_1 _,_,meets_dict_values (aO X.prog X.w) d hs,⟨vs,hm.dictOf⟩,fin⟩)
theorem adC{elts:List Expr}{kk:Nat}{tpos:Pos}(he:PE X e td)(hbase:attributeBase e "items" X.env (eval e X.env)=eval e X.env:=by rfl)(hline:(apos.endLine==cpos.line)=true:=by rfl):
  PI X (.Tuple elts kk tpos) (.Call (.Attribute e "items" apos) [] [] cpos) (aim td):=by
 intro pins s σ H R I h;refine wpAny_Call_method (T:="dict") (id:="dict.items") hbase rfl hline F.plainAttrs_dict F.slot_dict_items F.type_dict_items (thn (he pins s σ H _ I h) fun u s1 ⟨x,H1,I1,rx,d,o,kvs,ex,hd,q⟩=>?_);subst ex;obtain rfl:u=Value.ref d:=rx;obtain⟨hs,hgd,hx,es,ep,vs,hdt,hsz,kv,hm⟩:=I1.QE hd;have hl:kvs.length=vs.length:=Paired.length kv;refine⟨hm.dictOf.typeIs,hm.dictOf.mapOf.noDict,?_⟩;have I2:Inv X pins σ H1 {s1 with heap:=s1.heap.push {cls:=.type "dict_items",data:=.fields #[.ref d]}}:=I1.kept (t':=s1.toks) fun b ob q=>Heap.get?_push_of_some _ q;have fin:wpAny (model X.prog X.w) X.A (pyIter (.ref s1.heap.objs.size)) (PIE X pins σ (.Tuple elts kk tpos) R) X.xe {s1 with heap:=s1.heap.push {cls:=.type "dict_items",data:=.fields #[.ref d]}}:=by
  refine wpAny_pyIter_items (d:=d) (knd:=aO X.prog X.w) ⟨_,Heap.get?_push_size _ rfl,rfl,rfl⟩ (hm.push _) (QD (tk:=s1.toks) I2 _ (Yk _ hdt) ⟨.none,.none,?_⟩ q);rw[hl];exact Heap.get?_push_size _ rfl
 show wpAny _ _ (callWith cpos (.builtin "dict.items") [.ref d] [] []) _ X.xe s1;exact method_meetsIn F.slot_dict_items F.entry_dict_items rfl (PySem.evalArgs_none ⟨rfl,hm.dictOf.typeIs,F.args_dict_items_1 _,_,meets_dict_items (aO X.prog X.w) d hs,⟨vs,hm.dictOf⟩,fin⟩)
end
theorem abe:bootBuiltins "zip"=some (.type "zip"):=by decide+kernel
end L2
namespace L2
open PySem PySem.Spec PyProof.Rows
def inClass(s:Stmt)(j:Nat):Stmt:=match s with
 |.ClassDef _ _ _ body _ _ _ _ _ _ _=>body.getD j (.Pass ⟨0,0,0,0⟩)
 |_=>.Pass ⟨0,0,0,0⟩
def kj(s:Stmt):Arguments:=match s with
 |.FunctionDef _ a _ _ _ _ _ _ _ _=>a
 |_=>{posonlyargs:=[],args:=[],vararg:=none,kwonlyargs:=[],kw_defaults:=[],kwarg:=none,defaults:=[]}
def jd(s:Stmt):List Stmt:=match s with
 |.FunctionDef _ _ b _ _ _ _ _ _ _=>b
 |_=>[]
def ao(s:Stmt):Scope:=match s with
 |.FunctionDef _ _ _ _ _ _ sc _ _ _=>sc
 |_=>{kind:=.function,names:=[],isGenerator:=false,isCoroutine:=false}
abbrev CX0:CXT:=fun _ _ _ _ _ _=>False
abbrev E0:XK:=fun _ _ _=>False
theorem aC{X:Cx}:Passes CX0 X E0:=fun _ _ _ _ _ _ _ h=>h.elim
structure Fun(K:PySem.W.Frag)(x qual:Str)(st:Stmt)(f:Addr)(fd:FuncData):Prop where
 ex:∃(oc:Value)(od:Option Addr)(kV doc pm:Value)(an:Option Addr)(cdv ct:Value)(osl:Array (Option Value)),
  fd=PySem.W.fnOf x qual (kj st) (jd st) (ao st) .none kV doc pm an cdv ct∧K.lookup f=some ⟨oc,od,.func fd,osl⟩∧PySem.W.codeIn K cdv qual=true
 kp:PySem.W.keepIn K (.ref f)=true
section
variable{P:Program}{w:World}{K:PySem.W.Frag}{mg:Str→Option Value}{base:Heap}
theorem Fun.ok{x qual:Str}{st:Stmt}{f:Addr}{fd:FuncData}{N ps:List Str}{k:Nat}{sp:Sp}(F:Fun K x qual st f fd)(S:ax N ps (ao st))(len:∀vs H Q E,sp vs H Q E→vs.length=ps.length)
  (hbody:∀(cdv:Value)(A:Around)(outer:List Env)(s:Shared)(H:Hp)(vs:List V)(Q:VK)(E:XK),jc k (A.deeper (envOfC qual (ao st) s.heap.objs.size f cdv))→sp vs H Q E→
   ∃t,PSs (aa4 CX0 P w K mg base N qual (ao st) f cdv A outer s H E).nox (jd st) t∧t {nx:=fun _ H'=>Q .non H',rt:=Q} (start N vs) H):aY P w K mg base CX0 (k+1) f fd ps sp:=by
 obtain⟨oc,od,kV,doc,pm,an,cdv,ct,osl,rfl,lk,hcd⟩:=F.ex;refine akj lk hcd S len fun A outer s H vs Q E hr hsp=>?_;obtain⟨t,h,q⟩:=hbody cdv A outer s H vs Q E hr hsp;exact⟨t,h.nox,q⟩
theorem Fun.binds{x qual:Str}{st:Stmt}{f:Addr}{fd:FuncData}{ps:List Str}(F:Fun K x qual st f fd)
  (h:∀(kV doc pm:Value)(an:Option Addr)(cdv ct:Value)(us:List Value),us.length=ps.length→bindArgs (PySem.W.fnOf x qual (kj st) (jd st) (ao st) .none kV doc pm an cdv ct) ⟨us,[]⟩=pure (ps.zip us)):Binds K fd ps []:=by
 obtain⟨oc,od,kV,doc,pm,an,cdv,ct,osl,rfl,lk,hcd⟩:=F.ex;exact .all (h kV doc pm an cdv ct)
theorem ak{x qual:Str}{st:Stmt}{f:Addr}{oc:Value}{od an:Option Addr}{osl:Array (Option Value)}{kV doc pm cdv ct:Value}(l:K.lookup f=some ⟨oc,od,.func (PySem.W.fnOf x qual (kj st) (jd st) (ao st) .none kV doc pm an cdv ct),osl⟩)
  (c:PySem.W.codeIn K cdv qual=true) (k:PySem.W.keepIn K (.ref f)=true):Fun K x qual st f (PySem.W.fnOf x qual (kj st) (jd st) (ao st) .none kV doc pm an cdv ct):=⟨⟨oc,od,kV,doc,pm,an,cdv,ct,osl,rfl,l,c⟩,k⟩
end
theorem bE{A:Around}{k:Nat}(hr:jc k A):A.units+1<cLine:=Nat.lt_of_le_of_lt (Nat.add_le_add_left (by decide:1≤64) _) hr.units
theorem aB{n:Nat}(h:n≤1000):n<sizeLine:=Nat.lt_of_le_of_lt h (by decide)
section
variable{X:Cx}
theorem pv(i:Nat){x:Str}{pos:Pos}(hN:X.N[i]?=some x:=by rfl)(hv:Vis X.env.scope x:=by first|exact Or.inl rfl|exact Or.inr (Or.inl rfl)|exact Or.inr (Or.inr rfl))(hd:(x==("__debug__":Str))=false:=by decide)
  (hcd:(x==("__classdict__":Str))=false:=by decide):PE X (.Name x pos) (i8 i):=ahO hN hv hd hcd
theorem DM:iN X (.builtin "len") (fun xs H Q=>∃a kvs,xs=[V.ref a]∧H a=some (.dK kvs)∧Q (.int kvs.length) H):=by
 intro pins s σ H xs us Q I r h;obtain⟨a,kvs,rfl,ha,q⟩:=h;obtain⟨u,rfl,ru⟩:=vals1 r;cases ru;exact ahg I (.inl ha) fun t s' I'=>⟨.int kvs.length,H,I',⟨t,rfl⟩,q⟩
end
theorem aS{A B:Prop}(h:B):if false=true then A else B:=by
 rw[if_neg Bool.false_ne_true];exact h
theorem bq{A B:Prop}(h:A):if true=true then A else B:=by
 rw[if_pos rfl];exact h
theorem DN{c A B:Prop}[Decidable c](h1:c→A)(h2:¬c→B):if c then A else B:=by
 by_cases h:c
 ·rw[if_pos h];exact h1 h
 ·rw[if_neg h];exact h2 h
def aF(H H':Hp):Prop:=∀b o,H b=some o→H' b=some o
theorem aF.trans{H H1 H2:Hp}(a:aF H H1)(b:aF H1 H2):aF H H2:=fun c o h=>b c o (a c o h)
theorem aF.free{H H':Hp}(e:aF H H'){l:Addr}(h:H' l=Option.none):H l=Option.none:=by
 cases q:H l with
 |none=>rfl
 |some o=>
  rw[e l o q] at h;cases h
theorem aF.seq{K:PySem.W.Frag}{H H':Hp}{a:Addr}{xs:List V}(e:aF H H')(h:SqL K H a xs):SqL K H' a xs:=by
 rcases h with(h|⟨o,h⟩)|h
 ·exact .inl (.inl (e _ _ h))
 ·exact .inl (.inr ⟨o,e _ _ h⟩)
 ·exact .inr h
section
variable{κ:Type}[DecidableEq κ]
theorem UE{kvs:List (κ×V)}{k:κ}(h:aR kvs k=none):¬k∈kvs.map (·.1):=by
 intro m;obtain⟨p,hp,e⟩:=List.mem_map.mp m;have q:(kvs.any fun kv=>decide (kv.1=k))=true:=List.any_eq_true.mpr ⟨p,hp,decide_eq_true e⟩;rw[kz,h] at q;exact absurd q (by simp)
theorem xq:∀{l:List κ}{k:κ},l.Nodup→¬k∈l→(l++[k]).Nodup
 |[],k,_,_=>by simp
 |a::r,k,h,hk=>by
  obtain⟨h1,h2⟩:=List.nodup_cons.mp h;show (a::(r++[k])).Nodup;refine List.nodup_cons.mpr ⟨fun m=>?_,xq h2 fun m=>hk (List.mem_cons.mpr (Or.inr m))⟩;rcases List.mem_append.mp m with q|q
  ·exact h1 q
  ·exact hk (List.mem_cons.mpr (Or.inl (List.mem_singleton.mp q).symm))
theorem abf{p:κ×V}{r:List (κ×V)}{k:κ}(e:p.1=k):kx (p::r) k=kx r k:=by
 unfold kx;rw[List.filter_cons,if_neg (by simp[e])]
theorem abg{p:κ×V}{r:List (κ×V)}{k:κ}(e:¬p.1=k):kx (p::r) k=p::kx r k:=by
 unfold kx;rw[List.filter_cons,if_pos (by simp[e])]
end
theorem ahi{α:Type}{l:List α}(hN:l.Nodup){i j:Nat}{x:α}(a:l[i]?=some x)(b:l[j]?=some x):i=j:=by
 obtain⟨h1,e1⟩:=List.getElem?_eq_some_iff.mp a;obtain⟨h2,e2⟩:=List.getElem?_eq_some_iff.mp b;exact(List.getElem_inj hN).mp (e1.trans e2.symm)
theorem aF.made{H H1:Hp}{x dx C:Addr}(nx:H x=Option.none)(nd:H dx=Option.none)(k:∀b o,(upd (upd H dx (.own x)) x (.ins C dx [])) b=some o→b≠x→H1 b=some o):aF H H1:=fun b o e=>
 k b o (by rw[ab (ai e nx),ab (ai e nd)];exact e) (ai e nx)
end L2
end
section
section
namespace L2
open PySem PySem.Spec PyProof.Rows
open PySem.W (WData Codec OpenSpec Well WellAll ReadsW ReadsAllW)
mutual
inductive Dw(K:PySem.W.Frag)(H:Hp):V→WData→Prop
 |non:Dw K H .non .none
 |bl (b:Bool):Dw K H (.bl b) (.bool b)
 |int (i:Int):Dw K H (.int i) (.int i)
 |str (x:Str):Dw K H (.str x) (.str x)
 |byt (b:Array UInt8):Dw K H (.byt b) (.bytes b.toList)
 |lst {a:Addr} {xs:List V} {ds:List WData}:SqL K H a xs→sP K H xs ds→Dw K H (.ref a) (.list ds)
 |tup {a:Addr} {xs:List V} {ds:List WData}:SqT K H a xs→sP K H xs ds→Dw K H (.ref a) (.tuple ds)
inductive sP(K:PySem.W.Frag)(H:Hp):List V→List WData→Prop
 |nil:sP K H [] []
 |cons {v:V} {vs:List V} {d:WData} {ds:List WData}:Dw K H v d→sP K H vs ds→sP K H (v::vs) (d::ds)
end
theorem Z3{K:PySem.W.Frag}{H:Hp}:∀ns:List Int,sP K H (ns.map V.int) (ns.map WData.int)
 |[]=>.nil
 |n::r=>.cons (.int n) (Z3 r)
theorem Z4{K:PySem.W.Frag}{H:Hp}:∀(ns:List Int)(xs:List V),sP K H xs (ns.map WData.int)→xs=ns.map V.int
 |[],xs,h=>by
  cases h;rfl
 |n::r,xs,h=>by
  cases h with
  |cons h1 h2=>
   cases h1;rw[Z4 r _ h2]<;>rfl
section
variable{P:Program}{w:World}{K:PySem.W.Frag}{H:Hp}{h:Heap}{R:PySem.W.WRecords}{cl:Str→Option Addr}
theorem ain{a:Addr}{xs:List V}(hok:HOk P w H h)(KX:K.In h)(q:SqL K H a xs):∃(its:List Value)(o:Obj)(n:Nat),Vals xs its∧h.get? a=some o∧o.cls=.type "list"∧o.data=.seq its.toArray n:=by
 rcases q with q|⟨o,its,n,e,hc,_,hd,_,hv⟩
 ·obtain⟨_,its,n,hv,e⟩:=(show cO P w H h a (.lst xs) from q.ok hok)
  exact⟨its,_,n,hv,e,rfl,rfl⟩
 ·exact⟨its.toList,o,n,hv,KX _ _ e,hc,by simp[hd]⟩
theorem aio{a:Addr}{xs:List V}(hok:HOk P w H h)(KX:K.In h)(q:SqT K H a xs):∃(its:List Value)(o:Obj)(n:Nat),Vals xs its∧h.get? a=some o∧o.cls=.type "tuple"∧o.data=.seq its.toArray n:=by
 rcases q with q|⟨o,its,n,e,hc,hd,_,hv⟩
 ·obtain⟨_,its,hv,o,e,hc,n,hd⟩:=(show cO P w H h a (.tup xs) from q.ok hok)
  exact⟨its,o,n,hv,e,hc,hd⟩
 ·exact⟨its.toList,o,n,hv,KX _ _ e,hc,by simp[hd]⟩
mutual
theorem Dw.reads(hok:HOk P w H h)(KX:K.In h):∀(d:WData)(v:V)(u:Value),Dw K H v d→RelV v u→∃as,ReadsW R cl h u d as
 |.none,_,_,x,r=>by
  cases x;cases r;exact⟨_,ReadsW.none⟩
 |.bool b,_,_,x,r=>by
  cases x;cases r;exact⟨_,ReadsW.bool b⟩
 |.int i,_,_,x,r=>by
  cases x;obtain⟨t,rfl⟩:=r;exact⟨_,ReadsW.int i t⟩
 |.str s,_,_,x,r=>by
  cases x;obtain⟨t,rfl⟩:=r;exact⟨_,ReadsW.str s t⟩
 |.bytes b,_,_,x,r=>by
  cases x;obtain⟨t,rfl⟩:=r;exact⟨_,ReadsW.bytes _ t⟩
 |.list ds,_,_,x,r=>by
  cases x with
  |lst hs ha=>
   cases r;obtain⟨its,o,n,rv,ho,hc,hd⟩:=ain hok KX hs;obtain⟨as,hr⟩:=Dw.readsAll hok KX ds _ its ha rv;exact⟨_,ReadsW.list ho hc hd hr⟩
 |.tuple ds,_,_,x,r=>by
  cases x with
  |tup hs ha=>
   cases r;obtain⟨its,o,n,rv,ho,hc,hd⟩:=aio hok KX hs;obtain⟨as,hr⟩:=Dw.readsAll hok KX ds _ its ha rv;exact⟨_,ReadsW.tuple ho hc hd hr⟩
 |.float _,_,_,x,_=>by cases x
 |.dict _,_,_,x,_=>by cases x
 |.bytearray _,_,_,x,_=>by cases x
 |.set _,_,_,x,_=>by cases x
 |.frozenset _,_,_,x,_=>by cases x
 |.obj _ _,_,_,x,_=>by cases x
theorem Dw.readsAll(hok:HOk P w H h)(KX:K.In h):∀(ds:List WData)(vs:List V)(us:List Value),sP K H vs ds→Vals vs us→∃as,ReadsAllW R cl h us ds as
 |[],_,_,x,r=>by
  cases x;cases r;exact⟨_,ReadsAllW.nil⟩
 |d::ds,_,_,x,r=>by
  cases x with
  |cons h1 h2=>
   cases r with
   |cons r1 r2=>
    obtain⟨as,q1⟩:=Dw.reads hok KX d _ _ h1 r1;obtain⟨bs,q2⟩:=Dw.readsAll hok KX ds _ _ h2 r2;exact⟨_,ReadsAllW.cons q1 q2⟩
end
end
mutual
def plW:WData→Bool
 |.none=>true
 |.bool _=>true
 |.int _=>true
 |.str _=>true
 |.bytes _=>true
 |.list xs=>Hi xs
 |.tuple xs=>Hi xs
 |_=>false
def Hi:List WData→Bool
 |[]=>true
 |x::r=>plW x&&Hi r
end
theorem UG{α:Type}{f:α→WData}(h:∀a,plW (f a)=true):∀l:List α,Hi (l.map f)=true
 |[]=>rfl
 |x::r=>by
  show (plW (f x)&&Hi (r.map f))=true;rw[h x,UG h r]<;>rfl
theorem uV:∀(c:Codec)(a:c.denote),plW (c.enc a)=true
 |.unit,_=>rfl
 |.bool,_=>rfl
 |.int _ _,_=>rfl
 |.nat _ _,_=>rfl
 |.u8,_=>rfl
 |.bytes _ _,_=>rfl
 |.text _ _ _ _,_=>rfl
 |.list _ _ c,a=>UG (fun x=>uV c x) a
 |.pair c d,a=>by
  show (plW (c.enc a.1)&&(plW (d.enc a.2)&&true))=true;rw[uV c a.1,uV d a.2]<;>rfl
 |.triple c d e,a=>by
  show (plW (c.enc a.1)&&(plW (d.enc a.2.1)&&(plW (e.enc a.2.2)&&true)))=true;rw[uV c a.1,uV d a.2.1,uV e a.2.2]<;>rfl
 |.option c,none=>rfl
 |.option c,some x=>uV c x
theorem Pf:∀(cs:List Codec)(a:Codec.denoteAll cs),Hi (Codec.encAll cs a)=true
 |[],_=>rfl
 |c::cs,a=>by
  show (plW (c.enc a.1)&&Hi (Codec.encAll cs a.2))=true;rw[uV c a.1,Pf cs a.2]<;>rfl
theorem zk:∀{xs:List WData}{d:WData},d∈xs→d.weight≤WData.weightAll xs
 |[],d,h=>absurd h (by simp)
 |x::r,d,h=>by
  show d.weight≤x.weight+1+WData.weightAll r;rcases List.mem_cons.mp h with e|m
  ·rw[e];omega
  ·have z:=zk m;omega
def toV:Value→V
 |.none=>.non
 |.bool b=>.bl b
 |.int i _=>.int i
 |.str x _=>.str x
 |.bytes b _=>.byt b
 |.ref a=>.ref a
 |_=>.non
def OkU(A:List Addr):Value→Prop
 |.none=>True
 |.bool _=>True
 |.int _ _=>True
 |.str _ _=>True
 |.bytes _ _=>True
 |.ref a=>a∈A
 |_=>False
theorem OkU.mono{A B:List Addr}(h:∀a∈A,a∈B):∀{u:Value},OkU A u→OkU B u:=fun{u} x=>by
 cases u with
 |ref a=>exact h a x
 |none=>trivial
 |bool b=>trivial
 |int i t=>trivial
 |str s t=>trivial
 |bytes b t=>trivial
 |_=>exact False.elim x
theorem adD{A:List Addr}{u:Value}(x:OkU A u):RelV (toV u) u:=by
 cases u with
 |ref a=>rfl
 |none=>rfl
 |bool b=>rfl
 |int i t=>exact⟨t,rfl⟩
 |str s t=>exact⟨t,rfl⟩
 |bytes b t=>exact⟨t,rfl⟩
 |_=>exact False.elim x
theorem pJ{A:List Addr}:∀{vs:List Value},(∀u∈vs,OkU A u)→Vals (vs.map toV) vs
 |[],_=>.nil
 |u::r,h=>.cons (adD (h u (List.mem_cons_self ..))) (pJ fun x hx=>h x (List.mem_cons_of_mem _ hx))
def sQ(h:Heap)(A:List Addr)(a:Addr):Prop:=∃vs:List Value,vs.length≤sizeLine∧(∀u∈vs,OkU A u)∧
 (h.get? a=some {cls:=.type "list",data:=.seq vs.toArray}∨h.get? a=some {cls:=.type "tuple",data:=.seq vs.toArray})
theorem sQ.mono{h:Heap}{A B:List Addr}{a:Addr}(k:∀a∈A,a∈B)(x:sQ h A a):sQ h B a:=by
 obtain⟨vs,h1,h2,h3⟩:=x;exact⟨vs,h1,fun u hu=>(h2 u hu).mono k,h3⟩
theorem nR{P:Params}{h:Heap}:∀{vs:List Value}{ds:List WData},WellAll P h vs ds→vs.length=ds.length
 |_,_,.nil=>rfl
 |_,_,.cons _ b=>by
  show _+1=_+1;rw[nR b]
theorem Pg{P:Params}{h:Heap}{v:Value}{ds:List WData}(x:Well P h v (.list ds)):∃(a:Addr)(vs:List Value),v=.ref a∧h.get? a=some {cls:=.type "list",data:=.seq vs.toArray}∧WellAll P h vs ds:=by
 cases x with
 |list ho hall=>exact⟨_,_,rfl,ho,hall⟩
theorem Jl{P:Params}{h:Heap}{v:Value}{ds:List WData}(x:Well P h v (.tuple ds)):∃(a:Addr)(vs:List Value),v=.ref a∧h.get? a=some {cls:=.type "tuple",data:=.seq vs.toArray}∧WellAll P h vs ds:=by
 cases x with
 |tuple ho hall=>exact⟨_,_,rfl,ho,hall⟩
theorem Ph{P:Params}{h:Heap}{us:List Value}{d:WData}{ds:List WData}(x:WellAll P h us (d::ds)):∃(v:Value)(vs:List Value),us=v::vs∧Well P h v d∧WellAll P h vs ds:=by
 cases x with
 |cons a b=>exact⟨_,_,rfl,a,b⟩
theorem Z5{n:Nat}(h:n≤1048576):n≤sizeLine:=Nat.le_trans h (by decide)
section
variable{P:Params}{h:Heap}
mutual
theorem adE:∀(d:WData)(v:Value),Well P h v d→plW d=true→d.weight≤1048576→∃A:List Addr,OkU A v∧∀a∈A,sQ h A a
 |.none,_,x,_,_=>by
  cases x;exact⟨[],trivial,fun a m=>absurd m (by simp)⟩
 |.bool b,_,x,_,_=>by
  cases x;exact⟨[],trivial,fun a m=>absurd m (by simp)⟩
 |.int i,_,x,_,_=>by
  cases x;exact⟨[],trivial,fun a m=>absurd m (by simp)⟩
 |.str s,_,x,_,_=>by
  cases x;exact⟨[],trivial,fun a m=>absurd m (by simp)⟩
 |.bytes b,_,x,_,_=>by
  cases x;exact⟨[],trivial,fun a m=>absurd m (by simp)⟩
 |.list ds,_,x,p,z=>by
  obtain⟨a,vs,rfl,ho,hall⟩:=Pg x;have z2:WData.weightAll ds≤1048576:=z;obtain⟨A,h1,h2⟩:=AW ds _ hall p fun d hd=>Nat.le_trans (zk hd) z2;have k:∀b∈A,b∈a::A:=fun b hb=>List.mem_cons_of_mem _ hb;refine⟨a::A,List.mem_cons_self ..,fun b hb=>?_⟩;rcases List.mem_cons.mp hb with e|m
  ·rw[e];exact⟨vs,Z5 (by rw[nR hall];exact Nat.le_trans (PySem.W.length_le_weightAllW ds) z2),fun u hu=>(h1 u hu).mono k,.inl ho⟩
  ·exact(h2 b m).mono k
 |.tuple ds,_,x,p,z=>by
  obtain⟨a,vs,rfl,ho,hall⟩:=Jl x;have z2:WData.weightAll ds≤1048576:=z;obtain⟨A,h1,h2⟩:=AW ds _ hall p fun d hd=>Nat.le_trans (zk hd) z2;have k:∀b∈A,b∈a::A:=fun b hb=>List.mem_cons_of_mem _ hb;refine⟨a::A,List.mem_cons_self ..,fun b hb=>?_⟩;rcases List.mem_cons.mp hb with e|m
  ·rw[e];exact⟨vs,Z5 (by rw[nR hall];exact Nat.le_trans (PySem.W.length_le_weightAllW ds) z2),fun u hu=>(h1 u hu).mono k,.inr ho⟩
  ·exact(h2 b m).mono k
 |.float _,_,_,p,_=>Bool.noConfusion (show false=true from p)
 |.dict _,_,_,p,_=>Bool.noConfusion (show false=true from p)
 |.bytearray _,_,_,p,_=>Bool.noConfusion (show false=true from p)
 |.set _,_,_,p,_=>Bool.noConfusion (show false=true from p)
 |.frozenset _,_,_,p,_=>Bool.noConfusion (show false=true from p)
 |.obj _ _,_,_,p,_=>Bool.noConfusion (show false=true from p)
theorem AW:∀(ds:List WData)(vs:List Value),WellAll P h vs ds→Hi ds=true→(∀d∈ds,d.weight≤1048576)→∃A:List Addr,(∀u∈vs,OkU A u)∧∀a∈A,sQ h A a
 |[],_,x,_,_=>by
  cases x;exact⟨[],fun u m=>absurd m (by simp),fun a m=>absurd m (by simp)⟩
 |d::ds,_,x,p,z=>by
  obtain⟨v,vs,rfl,x1,x2⟩:=Ph x;have q:plW d=true∧Hi ds=true:=Bool.and_eq_true_iff.mp p;obtain⟨A,a1,a2⟩:=adE d v x1 q.1 (z d (List.mem_cons_self ..));obtain⟨B,b1,b2⟩:=AW ds vs x2 q.2 fun e he=>z e (List.mem_cons_of_mem _ he);have kA:∀b∈A,b∈A++B:=fun b hb=>List.mem_append.mpr (.inl hb);have kB:∀b∈B,b∈A++B:=fun b hb=>List.mem_append.mpr (.inr hb);refine⟨A++B,fun u hu=>?_,fun b hb=>?_⟩
  ·rcases List.mem_cons.mp hu with e|m
   ·rw[e];exact a1.mono kA
   ·exact(b1 u m).mono kB
  ·rcases List.mem_append.mp hb with m|m
   ·exact(a2 b m).mono kA
   ·exact(b2 b m).mono kB
end
end
def af3(o:Obj):Option HO:=match o.data with
 |.seq vs _=>if(o.cls==Value.type "list")=true then some (.frz o (.lst (vs.toList.map toV))) else some (.frz o (.tup (vs.toList.map toV)))
 |_=>none
def qZ(K:PySem.W.Frag)(h:Heap)(A:List Addr):Hp:=fun b=>if b∈A then(if(K.lookup b).isNone=true then(h.get? b).bind af3 else none) else none
def UH(H:Hp):Prop:=∀b,H b=none∨∃o u,H b=some (.frz o u)
theorem UI(vs:List Value):af3 {cls:=.type "list",data:=.seq vs.toArray}=some (.frz {cls:=.type "list",data:=.seq vs.toArray} (.lst (vs.map toV))):=by
 show (if(Value.type "list"==Value.type "list")=true then some (HO.frz {cls:=.type "list",data:=.seq vs.toArray} (.lst (vs.toArray.toList.map toV))) else some (HO.frz {cls:=.type "list",data:=.seq vs.toArray} (.tup (vs.toArray.toList.map toV))))=_;rw[if_pos (beq_self_eq_true _)]
theorem UJ(vs:List Value):af3 {cls:=.type "tuple",data:=.seq vs.toArray}=some (.frz {cls:=.type "tuple",data:=.seq vs.toArray} (.tup (vs.map toV))):=by
 show (if(Value.type "tuple"==Value.type "list")=true then some (HO.frz {cls:=.type "tuple",data:=.seq vs.toArray} (.lst (vs.toArray.toList.map toV))) else some (HO.frz {cls:=.type "tuple",data:=.seq vs.toArray} (.tup (vs.toArray.toList.map toV))))=_;rw[if_neg (by decide)]
section
variable{P:Program}{w:World}{K:PySem.W.Frag}{h:Heap}{A:List Addr}
theorem IW{b:Addr}{o:Obj}(hb:b∈A)(hk:K.lookup b=none)(e:h.get? b=some o):qZ K h A b=af3 o:=by
 unfold qZ;rw[if_pos hb,hk,if_pos (show (none:Option Obj).isNone=true from rfl),e]<;>rfl
theorem af4{b:Addr}{u:HO}(q:qZ K h A b=some u):b∈A∧K.lookup b=none:=by
 unfold qZ at q;by_cases hb:b∈A
 ·rw[if_pos hb] at q;cases hk:K.lookup b with
  |none=>exact⟨hb,rfl⟩
  |some o=>
   rw[hk,if_neg (by simp)] at q;cases q
 ·rw[if_neg hb] at q;cases q
theorem IX (ar : ∀ a ∈ A, sQ h A a) {b : Addr} {u : HO} (q : qZ K h A b = some u) : K.lookup b = none ∧ ∃ vs : List Value, vs.length ≤ sizeLine ∧ (∀ u ∈ vs, OkU A u) ∧
    ((h.get? b = some { cls := .type "list", data := .seq vs.toArray } ∧ u = .frz { cls := .type "list", data := .seq vs.toArray } (.lst (vs.map toV))) ∨
     (h.get? b = some { cls := .type "tuple", data := .seq vs.toArray } ∧ u = .frz { cls := .type "tuple", data := .seq vs.toArray } (.tup (vs.map toV)))) := by
  obtain ⟨hb, hk⟩ := af4 q
  obtain ⟨vs, h1, h2, h3⟩ := ar b hb
  refine ⟨hk, vs, h1, h2, ?_⟩
  rcases h3 with e | e
  · rw [IW hb hk e, UI] at q
    exact .inl ⟨e, (Option.some.inj q).symm⟩
  · rw [IW hb hk e, UJ] at q
    exact .inr ⟨e, (Option.some.inj q).symm⟩
theorem abh(ar:∀a∈A,sQ h A a):UH (qZ K h A):=fun b=>by
 cases q:qZ K h A b with
 |none=>exact .inl rfl
 |some u=>
  obtain⟨_,vs,_,_,⟨_,e⟩|⟨_,e⟩⟩:=IX ar q
  ·exact .inr ⟨_,_,by rw[e]⟩
  ·exact .inr ⟨_,_,by rw[e]⟩
theorem af5(ar:∀a∈A,sQ h A a):HOk P w (qZ K h A) h:=fun b u q=>by
 obtain⟨_,vs,h1,h2,⟨e,rfl⟩|⟨e,rfl⟩⟩:=IX ar q
 ·exact⟨e,by rw[List.length_map];exact h1,vs,_,pJ h2,e⟩
 ·exact⟨e,by rw[List.length_map];exact h1,vs,pJ h2,_,e,rfl,_,rfl⟩
theorem IY{c c':Value}{vs us:List Value}(e:(some {cls:=c,data:=.seq vs.toArray}:Option Obj)=some {cls:=c',data:=.seq us.toArray}):c=c'∧vs=us:=by
 have e1:=Option.some.inj e;have e2:c=c':=congrArg Obj.cls e1;have e3:Data.seq vs.toArray=Data.seq us.toArray:=congrArg Obj.data e1;injection e3 with e4
 refine⟨e2,?_⟩;have e5:=congrArg Array.toList e4
 simpa using e5
theorem amY(KX:K.In h)(ar:∀a∈A,sQ h A a){a:Addr}{vs:List Value}(ha:a∈A)(e:h.get? a=some {cls:=.type "list",data:=.seq vs.toArray}):(∀u∈vs,OkU A u)∧SqL K (qZ K h A) a (vs.map toV):=by
 obtain⟨us,h1,h2,h3⟩:=ar a ha;have hu:us=vs:=by
  rcases h3 with q|q
  ·rw[e] at q;exact(IY q).2.symm
  ·rw[e] at q;exact absurd (Value.type.inj (IY q).1) (by decide)
 subst hu;refine⟨h2,?_⟩;cases hk:K.lookup a with
 |none=>exact .inl (.inr ⟨_,by rw[IW ha hk e,UI]⟩)
 |some o=>
  have e2:=KX a o hk;rw[e] at e2;obtain rfl:=Option.some.inj e2;exact .inr ⟨_,us.toArray,_,hk,rfl,rfl,rfl,by rw[List.size_toArray];exact h1,by simpa using pJ h2⟩
theorem amZ(KX:K.In h)(ar:∀a∈A,sQ h A a){a:Addr}{vs:List Value}(ha:a∈A)(e:h.get? a=some {cls:=.type "tuple",data:=.seq vs.toArray}):(∀u∈vs,OkU A u)∧SqT K (qZ K h A) a (vs.map toV):=by
 obtain⟨us,h1,h2,h3⟩:=ar a ha;have hu:us=vs:=by
  rcases h3 with q|q
  ·rw[e] at q;exact absurd (Value.type.inj (IY q).1) (by decide)
  ·rw[e] at q;exact(IY q).2.symm
 subst hu;refine⟨h2,?_⟩;cases hk:K.lookup a with
 |none=>exact .inl (.inr ⟨_,by rw[IW ha hk e,UJ]⟩)
 |some o=>
  have e2:=KX a o hk;rw[e] at e2;obtain rfl:=Option.some.inj e2;exact .inr ⟨_,us.toArray,_,hk,rfl,rfl,by rw[List.size_toArray];exact h1,by simpa using pJ h2⟩
mutual
theorem aip{Pm:Params}(KX:K.In h)(ar:∀a∈A,sQ h A a):∀(d:WData)(v:Value),Well Pm h v d→plW d=true→OkU A v→Dw K (qZ K h A) (toV v) d
 |.none,_,x,_,_=>by
  cases x;exact .non
 |.bool b,_,x,_,_=>by
  cases x;exact .bl b
 |.int i,_,x,_,_=>by
  cases x;exact .int i
 |.str s,_,x,_,_=>by
  cases x;exact .str s
 |.bytes b,_,x,_,_=>by
  cases x;have z:=Dw.byt (K:=K) (H:=qZ K h A) b.toArray;exact z
 |.list ds,_,x,p,hu=>by
  obtain⟨a,vs,rfl,ho,hall⟩:=Pg x;obtain⟨h2,hs⟩:=amY KX ar hu ho;exact .lst hs (QF KX ar ds _ hall p h2)
 |.tuple ds,_,x,p,hu=>by
  obtain⟨a,vs,rfl,ho,hall⟩:=Jl x;obtain⟨h2,hs⟩:=amZ KX ar hu ho;exact .tup hs (QF KX ar ds _ hall p h2)
 |.float _,_,_,p,_=>Bool.noConfusion (show false=true from p)
 |.dict _,_,_,p,_=>Bool.noConfusion (show false=true from p)
 |.bytearray _,_,_,p,_=>Bool.noConfusion (show false=true from p)
 |.set _,_,_,p,_=>Bool.noConfusion (show false=true from p)
 |.frozenset _,_,_,p,_=>Bool.noConfusion (show false=true from p)
 |.obj _ _,_,_,p,_=>Bool.noConfusion (show false=true from p)
theorem QF{Pm:Params}(KX:K.In h)(ar:∀a∈A,sQ h A a):∀(ds:List WData)(vs:List Value),WellAll Pm h vs ds→Hi ds=true→(∀u∈vs,OkU A u)→sP K (qZ K h A) (vs.map toV) ds
 |[],_,x,_,_=>by
  cases x;exact .nil
 |d::ds,_,x,p,hu=>by
  obtain⟨v,vs,rfl,x1,x2⟩:=Ph x;have q:plW d=true∧Hi ds=true:=Bool.and_eq_true_iff.mp p;exact .cons (aip KX ar d v x1 q.1 (hu _ (List.mem_cons_self ..))) (QF KX ar ds vs x2 q.2 fun u m=>hu u (List.mem_cons_of_mem _ m))
end
end
theorem abi{P:Program}{w:World}{K:PySem.W.Frag}{mg mb:Str→Option Value}{CX:CXT}{k:Nat}{fa:Addr}{fd:FuncData}{ps:List Str}{sp:Sp}{s₁:Shared}{vals:List Value}{ds:List WData}{R:PySem.W.WRecords}{cl:Str→Option Addr}{d0:WData}
  (KX:K.In s₁.heap) (hns:s₁.heap.Ns mainGlobals mg) (hb:s₁.heap.Ns builtinsNs mb) (hbb:∀x:Str,x≠"__name__"→mb x=bootBuiltins x) (hlim:s₁.heap.NoLimit) (hg:s₁.gens= #[])
  (hwl:WellAll w.params s₁.heap vals ds) (hpl:Hi ds=true) (hwt:∀d∈ds,d.weight≤1048576) (hr:jc k callerA)
  (F:∀base:Heap,K.In base→base.Ns mainGlobals mg→aY P w K mg base CX k fa fd ps sp) (hbind:∀(s:Shared)(us:List Value),us.length=ps.length→BindsTo s fd ⟨us,[]⟩ (ps.zip us)) (hlen:ds.length=ps.length)
  (hsp:∀(H:Hp)(xs:List V),UH H→sP K H xs ds→sp xs H (fun v H'=>Dw K H' v d0) fun _ _ _=>False)
  (hCX:∀H e s',CX [] H s₁ (fun _ _ _=>False) e s'→False):
  codeAny (model P w) callerA (.call (.ref fa) ⟨vals,[]⟩) (fun r s'=>∃u as,r=.ok (.ret u)∧ReadsW R cl s'.heap u d0 as∧OldK s₁.heap s'.heap∧s'.os=s₁.os∧AllBare s'.gens) s₁:=by
 obtain⟨A,ho,ar⟩:=AW ds vals hwl hpl hwt;have hO:UH (qZ K s₁.heap A):=abh ar;have hok:HOk P w (qZ K s₁.heap A) s₁.heap:=af5 ar;have hS:=QF KX ar ds vals hwl hpl ho;have hV:=pJ ho;have hK:∀b u,qZ K s₁.heap A b=some u→K.lookup b=none:=fun b u q=>(IX ar q).1;have noA:∀{b:Addr}{o:Obj}{es:Array DictEntry}{ep:Nat},s₁.heap.get? b=some o→o.data=.dict es ep→qZ K s₁.heap A b=none:=fun{b o es ep} e d=>by
  cases q:qZ K s₁.heap A b with
  |none=>rfl
  |some u=>
   obtain⟨_,vs,_,_,⟨e2,_⟩|⟨e2,_⟩⟩:=IX ar q
   ·rw[e2] at e;cases e;have d':Data.seq vs.toArray _=Data.dict es ep:=d;cases d'
   ·rw[e2] at e;cases e;have d':Data.seq vs.toArray _=Data.dict es ep:=d;cases d'
 generalize qZ K s₁.heap A=H at hO hok hS hK noA;have Z6:∀{b:Addr}{o:Obj},s₁.heap.get? b=some o→H b=none→(Qm s₁.heap H).get? b=some o:=fun e n=>ac4 e n;have nsK:∀{b:Addr}{m:Str→Option Value},s₁.heap.Ns b m→(Qm s₁.heap H).Ns b m:=fun{b m} ⟨o,es,ep,e,d,r⟩=>⟨o,es,ep,Z6 e (noA e d),d,r⟩
 have nK:∀b o,K.lookup b=some o→H b=none:=fun b o e=>by
  cases q:H b with
  |none=>rfl
  |some u=>
   rw[hK b u q] at e;cases e
 have hKb:K.In (Qm s₁.heap H):=fun b o e=>Z6 (KX b o e) (nK b o e);have hM:Mod K mg (Qm s₁.heap H):=⟨hKb,nsK hns,⟨mb,nsK hb,hbb⟩,let ⟨mc,h1,h2⟩:=hlim;⟨mc,nsK h1,h2⟩⟩
 have e0:Yd P w K mg (Qm s₁.heap H) callerA [] s₁ H:=⟨rfl,hM,fun b o e=>afK e,Nat.le_of_eq (aaU _ _),trivial,fun b hb=>absurd (show b∈([]:List Addr) from hb) (by simp),hok,.of_eq hg⟩
 have hl:vals.length=ps.length:=by rw[nR hwl];exact hlen
 refine codeAny_mono ((F _ hKb (nsK hns)).run callerA [] s₁ H ⟨vals,[]⟩ vals (vals.map toV) _ _ hr e0 (hbind s₁ vals hl) hV (hsp H _ hO hS)) fun r s' x=>?_;cases r with
 |error e=>exact(hCX H e s' x).elim
 |ok fl=>
  cases fl with
  |next=>exact False.elim x
  |brk=>exact False.elim x
  |cont=>exact False.elim x
  |ret u=>
   obtain⟨v,H',os,bare,un,hok',r',q⟩:=x;have kept:∀b o,s₁.heap.get? b=some o→s'.heap.get? b=some o:=fun b o e=>by
    cases q2:H b with
    |none=>exact un.keep b o e q2 (by intro z;exact absurd (show b∈([]:List Addr) from z) (by simp)) (by simp)
    |some u2=>
     rcases hO b with z|⟨ob,u3,z⟩
     ·rw[q2] at z;cases z
     ·have z2:=un.Jd b ob _ z;obtain⟨e1,_⟩:=hok b _ z;obtain⟨e2,_⟩:=hok' b _ z2;rw[e] at e1;cases e1;exact e2
   have KX':K.In s'.heap:=fun b o e=>kept b o (KX b o e);obtain⟨as,hrd⟩:=Dw.reads (R:=R) (cl:=cl) hok' KX' d0 v u q r';exact⟨u,as,rfl,hrd,OldK.of_keep kept,os,bare⟩
theorem Jm{ds:List WData}(h:WData.layableAll ds=true):∀d∈ds,d.weight≤1048576:=fun d hd=>
 (PySem.W.layableW_iff.mp (List.all_eq_true.mp h d hd)).2.2
theorem Jn:∀(cs:List Codec)(a:Codec.denoteAll cs),(Codec.encAll cs a).length=cs.length
 |[],_=>rfl
 |c::cs,a=>by
  show (Codec.encAll cs a.2).length+1=cs.length+1;rw[Jn cs a.2]
theorem abj{r:OpenSpec}{k:Nat}{q:Program}{loose:List Str}{XP:(Str→Option Value)→Heap→Prop}{YP:World→Heap→Prop}{d:DefRec}{K:Params→PySem.W.Frag}{CX:World→CXT}{ps:List Str}{sp:World→Sp}
  (adF:r.wellSaid=true) (hdf:d.params.defaults=[]) (hlen:r.args.length=ps.length) (hr:jc k callerA)
  (hY:∀(w:World)(h:Heap),YP w h→(K w.params).In h)
  (F:∀(w:World)(mg:Str→Option Value)(fa:Addr)(h:Heap),YP w h→(K w.params).In h→h.Ns mainGlobals mg→mg d.name=some (.ref fa)→
   ∃fd:FuncData,(∀(s:Shared)(us:List Value),us.length=ps.length→BindsTo s fd ⟨us,[]⟩ (ps.zip us))∧
    ∀base:Heap,(K w.params).In base→base.Ns mainGlobals mg→aY r.prog w (K w.params) mg base (CX w) k fa fd ps (sp w))
  (hsp:∀(w:World)(H:Hp)(xs:List V)(a:Codec.denoteAll r.args),UH H→Codec.withinAll r.args a=true→Codec.app r.args r.asked a=true→sP (K w.params) H xs (Codec.encAll r.args a)→
   sp w xs H (fun v H'=>Dw (K w.params) H' v (r.ret.enc (Codec.app r.args r.f a))) fun _ _ _=>False)
  (hCX:∀(w:World)(H:Hp)(s:Shared)(e:Value)(s':Shared),CX w [] H s (fun _ _ _=>False) e s'→False):
  PySem.W.WalkOS q loose XP YP r d [] (fun f vs=>PySem.call f vs):=by
 intro w s_0 s₁ mg mb G Y fa o pm cd doc dV kV ho hd hcd hD hmg hg args vals as hpre hlay hrd hwl hlo;obtain⟨a,e1,e2⟩:=PySem.W.os_pre_some hpre;obtain⟨e3,hwi⟩:=Codec.encAll_of_decAll r.args args a e1;subst e3;have KX:=hY w _ Y;obtain⟨fd,hb,hF⟩:=F w mg fa _ Y KX G.T.g hmg;refine PySem.W.enter_call (codeAny_mono (abi (R:=[]) (cl:=classAt s_0.heap) (d0:=r.ret.enc (Codec.app r.args r.f a)) KX G.T.g G.T.b G.T.builtins G.T.nolimit hg hwl (Pf _ _) (Jm hlay) hr hF hb (by rw[Jn];exact hlen)
  (fun H xs hO hS=>hsp w H xs a hO hwi e2 hS) fun H e s'=>hCX w H s₁ e s') fun r' s' hq=>?_)
 obtain⟨u,as',rfl,h1,h2,h3,h4⟩:=hq;exact⟨.inl ⟨u,_,as',rfl,fun _=>rfl,h1,(OpenSpec.post_iff adF hwi _ _).mpr rfl,fun z=>Bool.noConfusion (show false=true from z)⟩,h2,h3,h4⟩
theorem Yl{r:OpenSpec}{k:Nat}{q:Program}{loose:List Str}{XP:(Str→Option Value)→Heap→Prop}{YP:World→Heap→Prop}{d:DefRec}{K:Params→PySem.W.Frag}{CX:CXT}{ps:List Str}{sp:PySem.W.Frag→Sp}
  (adF:r.wellSaid=true) (hdf:d.params.defaults=[]) (hlen:r.args.length=ps.length) (hr:jc k callerA)
  (hY:∀(w:World)(h:Heap),YP w h→(K w.params).In h)
  (F:∀(w:World)(mg:Str→Option Value)(fa:Addr)(h:Heap),YP w h→(K w.params).In h→h.Ns mainGlobals mg→mg d.name=some (.ref fa)→
   ∃fd:FuncData,(∀(s:Shared)(us:List Value),us.length=ps.length→BindsTo s fd ⟨us,[]⟩ (ps.zip us))∧
    ∀base:Heap,(K w.params).In base→base.Ns mainGlobals mg→aY r.prog w (K w.params) mg base CX k fa fd ps (sp (K w.params)))
  (hsp:∀(K:PySem.W.Frag)(H:Hp)(xs:List V)(a:Codec.denoteAll r.args),UH H→Codec.withinAll r.args a=true→Codec.app r.args r.asked a=true→sP K H xs (Codec.encAll r.args a)→
   sp K xs H (fun v H'=>Dw K H' v (r.ret.enc (Codec.app r.args r.f a))) fun _ _ _=>False)
  (hCX:∀(H:Hp)(s:Shared)(e:Value)(s':Shared),CX [] H s (fun _ _ _=>False) e s'→False):
  PySem.W.WalkOS q loose XP YP r d [] (fun f vs=>PySem.call f vs):=
 abj (K:=K) (CX:=fun _=>CX) (sp:=fun w=>sp (K w.params)) adF hdf hlen hr hY F (fun w H xs a h1 h2 h3 h4=>hsp (K w.params) H xs a h1 h2 h3 h4) fun _ H s e s'=>hCX H s e s'
end L2
end
end
section
namespace My
open Vbsoaa
theorem Jo(l:List (Nat×Nat))(x y:Nat):linked l x y=l.any fun k=>decide (min k.1 k.2=min x y∧max k.1 k.2=max x y):=by
 unfold linked;congr 1;funext k;obtain⟨a,b⟩:=k;rw[Bool.eq_iff_iff];simp only[Bool.or_eq_true,Bool.and_eq_true,beq_iff_eq,decide_eq_true_eq];omega
theorem aka{p s q t:Nat}(hs:s<4)(ht:t<4)(h:place p s=place q t):p=q∧s=t:=by
 unfold place at h;omega
def Z7(p:Int)(ns:List Int):List Int:=p::(ns.length:Int)::(ns++[0])
theorem Pj(p:Int)(ns:List Int):PyWide.put1 [p::ns]=Z7 p ns:=by
 have h:=PyWide.put1_append p ns [] [];rw[List.append_nil] at h;rw[h];simp[PyFlat.putRow,PyFlat.putRows,Z7]
end My
end
section
namespace My
open Vbsoaa
abbrev step1(t:Table)(c:List (List Int)):Table×List Int:=VbsoaaNeutral.step t c
def run(t:Table):List (List (List Int))→Table
 |[]=>t
 |c::r=>run (step1 t c).1 r
theorem AX(c:List (List Int)):∀(cs:List (List (List Int)))(t:Table),run t (cs++[c])=(step1 (run t cs) c).1
 |[],t=>rfl
 |x::r,t=>AX c r _
theorem uW(c:List (List Int)):∀(cs:List (List (List Int)))(t:Table),PyFlat.played VbsoaaNeutral.step t (cs++[c])=PyFlat.played VbsoaaNeutral.step t cs++[(step1 (run t cs) c).2]
 |[],t=>rfl
 |x::r,t=>by
  show _::PyFlat.played VbsoaaNeutral.step _ (r++[c])=_::(PyFlat.played VbsoaaNeutral.step _ r++_);rw[uW c r];rfl
theorem Pk(l:List (List Int))(x:List Int):PyFlat.told (l++[x])=PyFlat.told l++((x.length:Int)::x):=by
 unfold PyFlat.told;rw[List.flatMap_append];simp
theorem Fs(l m:List (List Int)):PyFlat.told (l++m)=PyFlat.told l++PyFlat.told m:=by
 unfold PyFlat.told;rw[List.flatMap_append]
structure Wf(t:Table):Prop where
 kinds:t.board.kinds.length≤40
 kind:∀k∈t.board.kinds,k≤2
 land:t.board.land.length≤300
 sea:t.board.sea.length≤300
 men:t.men.length≤24
 sR:(t.men.map (·.prov)).Nodup
 prov:∀m∈t.men,m.prov<t.board.kinds.length
 shore:∀m∈t.men,m.shore≤3
 water:∀p∈t.water,p∈t.men.map (·.prov)
 wnd:t.water.Nodup
theorem UK:Wf start:=⟨by decide,fun k h=>(by cases h),by decide,by decide,by decide,by decide,fun m h=>(by cases h),fun m h=>(by cases h),fun p h=>(by cases h),by decide⟩
theorem Jp{ms:Men}{p:Nat}(h:(manAt ms p).isSome=true→False):p∉ms.map (·.prov):=by
 intro hm;obtain⟨m,hm,e⟩:=List.mem_map.mp hm;apply h;unfold manAt;rw[List.find?_isSome];exact⟨m,hm,by simp[e]⟩
theorem ba{ms:Men}(f:Man→Bool)(h:(ms.map (·.prov)).Nodup):((ms.filter f).map (·.prov)).Nodup:=
 List.Nodup.sublist (List.Sublist.map _ List.filter_sublist) h
theorem mx{t:Table}(W:Wf t)(p:Nat)(o:Order):Wf (ordered t p o):=by
 have e:(ordered t p o).men.map (·.prov)=t.men.map (·.prov):=by
  unfold ordered;rw[List.map_map];congr 1;funext m;simp only[Function.comp];split<;>rfl
 have mem:∀m∈(ordered t p o).men,∃m'∈t.men,m.prov=m'.prov∧m.shore=m'.shore:=by
  intro m hm;obtain⟨m',hm',e'⟩:=List.mem_map.mp hm;refine⟨m',hm',?_⟩;rw[←e'];split<;>exact⟨rfl,rfl⟩
 refine⟨W.kinds,W.kind,W.land,W.sea,?_,by rw[e];exact W.sR,fun m hm=>?_,fun m hm=>?_,fun q hq=>by rw[e];exact W.water q hq,W.wnd⟩
 ·show (t.men.map _).length≤24;rw[List.length_map];exact W.men
 ·obtain⟨m',h',e1,_⟩:=mem m hm;rw[e1];exact W.prov m' h'
 ·obtain⟨m',h',_,e2⟩:=mem m hm;rw[e2];exact W.shore m' h'
theorem adG{t:Table}(W:Wf t){k:Nat}(hk:k≤2)(hl:t.board.kinds.length<40):Wf {t with board:={t.board with kinds:=t.board.kinds++[k]}}:=by
 refine⟨?_,?_,W.land,W.sea,W.men,W.sR,?_,W.shore,W.water,W.wnd⟩
 ·show (t.board.kinds++[k]).length≤40;rw[List.length_append];simp;omega
 ·intro x hx;rcases List.mem_append.mp hx with h|h
  ·exact W.kind x h
  ·rw[List.mem_singleton.mp h];exact hk
 ·intro m hm;show m.prov<(t.board.kinds++[k]).length;rw[List.length_append];have:=W.prov m hm;omega
theorem af6(t:Table)(c:Call)(W:Wf t):Wf (Vbsoaa.step t c).1:=by
 cases c with
 |clear=>exact UK
 |province k=>
  unfold Vbsoaa.step;dsimp only;split
  ·exact W
  ·split
   ·exact W
   ·rename_i h1 h2;have h1':within k 0 2=true:=by simpa using h1
    unfold within at h1';rw[Bool.and_eq_true,decide_eq_true_eq,decide_eq_true_eq] at h1';refine adG W (by omega) ?_;unfold PROVINCES at h2;omega
 |land p q=>
  unfold Vbsoaa.step;dsimp only
  repeat' split
  all_goals first|exact W|skip
  rename_i h;unfold LINKS at h;exact⟨W.kinds,W.kind,by show (t.board.land++_).length≤300;rw[List.length_append];simp;omega,W.sea,W.men,W.sR,W.prov,W.shore,W.water,W.wnd⟩
 |sea p s q u=>
  unfold Vbsoaa.step;dsimp only
  repeat' split
  all_goals first|exact W|skip
  rename_i h;unfold LINKS at h;exact⟨W.kinds,W.kind,W.land,by show (t.board.sea++_).length≤300;rw[List.length_append];simp;omega,W.men,W.sR,W.prov,W.shore,W.water,W.wnd⟩
 |man pw f p s=>
  unfold Vbsoaa.step;dsimp only
  repeat' split
  all_goals first|exact W|skip
  rename_i h1 h2 h3 h4;have h1':(within pw 0 6&&(within f 0 1&&(isProv t p&&within s 0 3)))=true:=by simpa using h1
  simp only[Bool.and_eq_true] at h1';obtain⟨_,_,hp,hs⟩:=h1';unfold isProv within at hp;unfold within at hs;simp only[Bool.and_eq_true,decide_eq_true_eq] at hp hs;unfold MEN at h4;have hn:=Jp h3;refine⟨W.kinds,W.kind,W.land,W.sea,?_,?_,?_,?_,?_,W.wnd⟩
  ·show (t.men++_).length≤24;rw[List.length_append];simp;omega
  ·show ((t.men++_).map _).Nodup;rw[List.map_append,List.nodup_append];refine⟨W.sR,by simp,fun x hx y hy e=>?_⟩;simp at hy;subst hy;rw[e] at hx;exact hn hx
  ·intro m hm;rcases List.mem_append.mp hm with h|h
   ·exact W.prov m h
   ·rw[List.mem_singleton.mp h];show p.toNat<t.board.kinds.length;omega
  ·intro m hm;rcases List.mem_append.mp hm with h|h
   ·exact W.shore m h
   ·rw[List.mem_singleton.mp h];show s.toNat≤3;omega
  ·intro x hx;show x∈(t.men++_).map _;rw[List.map_append];exact List.mem_append_left _ (W.water x hx)
 |gone p=>
  unfold Vbsoaa.step;dsimp only
  repeat' split
  all_goals first|exact W|skip
  refine⟨W.kinds,W.kind,W.land,W.sea,?_,ba _ W.sR,fun m hm=>W.prov m (List.mem_filter.mp hm).1,fun m hm=>W.shore m (List.mem_filter.mp hm).1,?_,W.wnd.filter _⟩
  ·exact Nat.le_trans (List.length_filter_le _ _) W.men
  ·intro x hx;obtain⟨h1,h2⟩:=List.mem_filter.mp hx;obtain⟨m,hm,e⟩:=List.mem_map.mp (W.water x h1);refine List.mem_map.mpr ⟨m,List.mem_filter.mpr ⟨hm,?_⟩,e⟩;rw[e];exact h2
 |hold p=>
  unfold Vbsoaa.step;dsimp only
  repeat' split
  all_goals first|exact W|exact mx W _ _
 |move p q u x=>
  unfold Vbsoaa.step;dsimp only
  repeat' split
  all_goals first|exact W|exact mx W _ _
 |stay p q=>
  unfold Vbsoaa.step;dsimp only
  repeat' split
  all_goals first|exact W|exact mx W _ _
 |aid p a q=>
  unfold Vbsoaa.step;dsimp only
  repeat' split
  all_goals first|exact W|exact mx W _ _
 |carry p a q=>
  unfold Vbsoaa.step;dsimp only
  repeat' split
  all_goals first|exact W|exact mx W _ _
 |water p x=>
  unfold Vbsoaa.step;dsimp only;split
  ·exact W
  ·split
   ·exact W
   ·rename_i h1 h2;have hm:isMan t p=true:=by simpa using h2
    unfold isMan at hm;rw[Bool.and_eq_true] at hm;have hin:p.toNat∈t.men.map (·.prov):=by
     obtain⟨m,hm⟩:=Option.isSome_iff_exists.mp hm.2;unfold manAt at hm;have e:=List.find?_some hm;exact List.mem_map.mpr ⟨m,List.mem_of_find?_eq_some hm,by simpa using e⟩
    refine⟨W.kinds,W.kind,W.land,W.sea,W.men,W.sR,W.prov,W.shore,?_,?_⟩
    ·intro y hy;rcases List.mem_append.mp hy with h|h
     ·exact W.water y (List.mem_filter.mp h).1
     ·split at h
      ·rw[List.mem_singleton.mp h];exact hin
      ·cases h
    ·show (t.water.filter _++_).Nodup;rw[List.nodup_append];refine⟨W.wnd.filter _,?_,fun y hy z hz e=>?_⟩
     ·split<;>simp
     ·split at hz
      ·rw[List.mem_singleton.mp hz] at e;have:=(List.mem_filter.mp hy).2;rw[e] at this;simp at this
      ·cases hz
 |order p=>
  unfold Vbsoaa.step;dsimp only;split
  ·exact W
  ·split<;>exact W
 |strengths p s=>
  unfold Vbsoaa.step;dsimp only;split
  ·exact W
  ·split<;>exact W
 |cuts s=>unfold Vbsoaa.step;dsimp only;split<;>exact W
 |agrees s=>unfold Vbsoaa.step;dsimp only;split<;>exact W
 |most=>exact W
 |least=>exact W
 |rings=>exact W
 |then_ s=>unfold Vbsoaa.step;dsimp only;split<;>exact W
 |ways s=>unfold Vbsoaa.step;dsimp only;split<;>exact W
 |counts=>exact W
 |wrong=>exact W
end My
end
section
namespace My
open Vbsoaa
theorem aW{p:Int}{ns:List Int}(h:VbsoaaNeutral.asked1 [p::ns]=true):
  (p=0∧ns=[])∨(p=1∧∃k,ns=[k])∨(p=2∧∃x y,ns=[x,y])∨(p=3∧∃x y z u,ns=[x,y,z,u])∨(p=4∧∃x y z u,ns=[x,y,z,u])∨(p=5∧∃x,ns=[x])∨(p=6∧∃x,ns=[x])∨
  (p=7∧∃x y z u,ns=[x,y,z,u])∨(p=8∧∃x y,ns=[x,y])∨(p=9∧∃x y z,ns=[x,y,z])∨(p=10∧∃x y z,ns=[x,y,z])∨(p=11∧∃x y,ns=[x,y])∨(p=12∧∃x,ns=[x])∨
  (p=13∧∃x l,ns=x::l∧l.length≤98)∨(p=14∧ns.length≤99)∨(p=15∧ns.length≤99)∨(p=16∧ns=[])∨(p=17∧ns=[])∨(p=18∧ns=[])∨(p=19∧ns.length≤99)∨(p=20∧ns.length≤99)∨(p=21∧ns=[]):=by
 rcases p with n|n
 ·rcases n with _|_|_|_|_|_|_|_|_|_|_|_|_|_|_|_|_|_|_|_|_|_|n
  ·rcases ns with _|⟨e,r⟩
   ·exact .inl ⟨rfl,rfl⟩
   ·exact Bool.noConfusion (show false=true from h)
  ·rcases ns with _|⟨a,_|⟨e,r⟩⟩
   ·exact Bool.noConfusion (show false=true from h)
   ·exact .inr (.inl ⟨rfl,a,rfl⟩)
   ·exact Bool.noConfusion (show false=true from h)
  ·rcases ns with _|⟨a,_|⟨b,_|⟨e,r⟩⟩⟩
   ·exact Bool.noConfusion (show false=true from h)
   ·exact Bool.noConfusion (show false=true from h)
   ·exact .inr (.inr (.inl ⟨rfl,a,b,rfl⟩))
   ·exact Bool.noConfusion (show false=true from h)
  ·rcases ns with _|⟨a,_|⟨b,_|⟨c,_|⟨d,_|⟨e,r⟩⟩⟩⟩⟩
   ·exact Bool.noConfusion (show false=true from h)
   ·exact Bool.noConfusion (show false=true from h)
   ·exact Bool.noConfusion (show false=true from h)
   ·exact Bool.noConfusion (show false=true from h)
   ·exact .inr (.inr (.inr (.inl ⟨rfl,a,b,c,d,rfl⟩)))
   ·exact Bool.noConfusion (show false=true from h)
  ·rcases ns with _|⟨a,_|⟨b,_|⟨c,_|⟨d,_|⟨e,r⟩⟩⟩⟩⟩
   ·exact Bool.noConfusion (show false=true from h)
   ·exact Bool.noConfusion (show false=true from h)
   ·exact Bool.noConfusion (show false=true from h)
   ·exact Bool.noConfusion (show false=true from h)
   ·exact .inr (.inr (.inr (.inr (.inl ⟨rfl,a,b,c,d,rfl⟩))))
   ·exact Bool.noConfusion (show false=true from h)
  ·rcases ns with _|⟨a,_|⟨e,r⟩⟩
   ·exact Bool.noConfusion (show false=true from h)
   ·exact .inr (.inr (.inr (.inr (.inr (.inl ⟨rfl,a,rfl⟩)))))
   ·exact Bool.noConfusion (show false=true from h)
  ·rcases ns with _|⟨a,_|⟨e,r⟩⟩
   ·exact Bool.noConfusion (show false=true from h)
   ·exact .inr (.inr (.inr (.inr (.inr (.inr (.inl ⟨rfl,a,rfl⟩))))))
   ·exact Bool.noConfusion (show false=true from h)
  ·rcases ns with _|⟨a,_|⟨b,_|⟨c,_|⟨d,_|⟨e,r⟩⟩⟩⟩⟩
   ·exact Bool.noConfusion (show false=true from h)
   ·exact Bool.noConfusion (show false=true from h)
   ·exact Bool.noConfusion (show false=true from h)
   ·exact Bool.noConfusion (show false=true from h)
   ·exact .inr (.inr (.inr (.inr (.inr (.inr (.inr (.inl ⟨rfl,a,b,c,d,rfl⟩)))))))
   ·exact Bool.noConfusion (show false=true from h)
  ·rcases ns with _|⟨a,_|⟨b,_|⟨e,r⟩⟩⟩
   ·exact Bool.noConfusion (show false=true from h)
   ·exact Bool.noConfusion (show false=true from h)
   ·exact .inr (.inr (.inr (.inr (.inr (.inr (.inr (.inr (.inl ⟨rfl,a,b,rfl⟩))))))))
   ·exact Bool.noConfusion (show false=true from h)
  ·rcases ns with _|⟨a,_|⟨b,_|⟨c,_|⟨e,r⟩⟩⟩⟩
   ·exact Bool.noConfusion (show false=true from h)
   ·exact Bool.noConfusion (show false=true from h)
   ·exact Bool.noConfusion (show false=true from h)
   ·exact .inr (.inr (.inr (.inr (.inr (.inr (.inr (.inr (.inr (.inl ⟨rfl,a,b,c,rfl⟩)))))))))
   ·exact Bool.noConfusion (show false=true from h)
  ·rcases ns with _|⟨a,_|⟨b,_|⟨c,_|⟨e,r⟩⟩⟩⟩
   ·exact Bool.noConfusion (show false=true from h)
   ·exact Bool.noConfusion (show false=true from h)
   ·exact Bool.noConfusion (show false=true from h)
   ·exact .inr (.inr (.inr (.inr (.inr (.inr (.inr (.inr (.inr (.inr (.inl ⟨rfl,a,b,c,rfl⟩))))))))))
   ·exact Bool.noConfusion (show false=true from h)
  ·rcases ns with _|⟨a,_|⟨b,_|⟨e,r⟩⟩⟩
   ·exact Bool.noConfusion (show false=true from h)
   ·exact Bool.noConfusion (show false=true from h)
   ·exact .inr (.inr (.inr (.inr (.inr (.inr (.inr (.inr (.inr (.inr (.inr (.inl ⟨rfl,a,b,rfl⟩)))))))))))
   ·exact Bool.noConfusion (show false=true from h)
  ·rcases ns with _|⟨a,_|⟨e,r⟩⟩
   ·exact Bool.noConfusion (show false=true from h)
   ·exact .inr (.inr (.inr (.inr (.inr (.inr (.inr (.inr (.inr (.inr (.inr (.inr (.inl ⟨rfl,a,rfl⟩))))))))))))
   ·exact Bool.noConfusion (show false=true from h)
  ·rcases ns with _|⟨a,l⟩
   ·exact Bool.noConfusion (show false=true from h)
   ·have h2:(VbsoaaNeutral.whole60 a&&(decide (l.length≤98)&&l.all VbsoaaNeutral.whole60))=true:=h;exact .inr (.inr (.inr (.inr (.inr (.inr (.inr (.inr (.inr (.inr (.inr (.inr (.inr (.inl ⟨rfl,a,l,rfl,of_decide_eq_true (Bool.and_eq_true_iff.mp (Bool.and_eq_true_iff.mp h2).2).1⟩)))))))))))))
  ·have h2:(decide (ns.length≤99)&&ns.all VbsoaaNeutral.whole60)=true:=h;exact .inr (.inr (.inr (.inr (.inr (.inr (.inr (.inr (.inr (.inr (.inr (.inr (.inr (.inr (.inl ⟨rfl,of_decide_eq_true (Bool.and_eq_true_iff.mp h2).1⟩))))))))))))))
  ·have h2:(decide (ns.length≤99)&&ns.all VbsoaaNeutral.whole60)=true:=h;exact .inr (.inr (.inr (.inr (.inr (.inr (.inr (.inr (.inr (.inr (.inr (.inr (.inr (.inr (.inr (.inl ⟨rfl,of_decide_eq_true (Bool.and_eq_true_iff.mp h2).1⟩)))))))))))))))
  ·rcases ns with _|⟨e,r⟩
   ·exact .inr (.inr (.inr (.inr (.inr (.inr (.inr (.inr (.inr (.inr (.inr (.inr (.inr (.inr (.inr (.inr (.inl ⟨rfl,rfl⟩))))))))))))))))
   ·exact Bool.noConfusion (show false=true from h)
  ·rcases ns with _|⟨e,r⟩
   ·exact .inr (.inr (.inr (.inr (.inr (.inr (.inr (.inr (.inr (.inr (.inr (.inr (.inr (.inr (.inr (.inr (.inr (.inl ⟨rfl,rfl⟩)))))))))))))))))
   ·exact Bool.noConfusion (show false=true from h)
  ·rcases ns with _|⟨e,r⟩
   ·exact .inr (.inr (.inr (.inr (.inr (.inr (.inr (.inr (.inr (.inr (.inr (.inr (.inr (.inr (.inr (.inr (.inr (.inr (.inl ⟨rfl,rfl⟩))))))))))))))))))
   ·exact Bool.noConfusion (show false=true from h)
  ·have h2:(decide (ns.length≤99)&&ns.all VbsoaaNeutral.whole60)=true:=h;exact .inr (.inr (.inr (.inr (.inr (.inr (.inr (.inr (.inr (.inr (.inr (.inr (.inr (.inr (.inr (.inr (.inr (.inr (.inr (.inl ⟨rfl,of_decide_eq_true (Bool.and_eq_true_iff.mp h2).1⟩)))))))))))))))))))
  ·have h2:(decide (ns.length≤99)&&ns.all VbsoaaNeutral.whole60)=true:=h;exact .inr (.inr (.inr (.inr (.inr (.inr (.inr (.inr (.inr (.inr (.inr (.inr (.inr (.inr (.inr (.inr (.inr (.inr (.inr (.inr (.inl ⟨rfl,of_decide_eq_true (Bool.and_eq_true_iff.mp h2).1⟩))))))))))))))))))))
  ·rcases ns with _|⟨e,r⟩
   ·exact .inr (.inr (.inr (.inr (.inr (.inr (.inr (.inr (.inr (.inr (.inr (.inr (.inr (.inr (.inr (.inr (.inr (.inr (.inr (.inr (.inr (⟨rfl,rfl⟩)))))))))))))))))))))
   ·exact Bool.noConfusion (show false=true from h)
  ·exact Bool.noConfusion (show false=true from h)
 ·exact Bool.noConfusion (show false=true from h)
theorem QG{c:List (List Int)}(h:VbsoaaNeutral.asked1 c=true):∃p ns,c=[p::ns]∧ns.length≤99:=by
 rcases c with _|⟨x,_|⟨y,r⟩⟩
 ·exact Bool.noConfusion (show false=true from h)
 ·rcases x with _|⟨p,ns⟩
  ·exact Bool.noConfusion (show false=true from h)
  ·refine⟨p,ns,rfl,?_⟩;rcases aW h with⟨_,rfl⟩|⟨_,k,rfl⟩|⟨_,x,y,rfl⟩|⟨_,x,y,z,u,rfl⟩|⟨_,x,y,z,u,rfl⟩|⟨_,x,rfl⟩|⟨_,x,rfl⟩|⟨_,x,y,z,u,rfl⟩|⟨_,x,y,rfl⟩|⟨_,x,y,z,rfl⟩|⟨_,x,y,z,rfl⟩|⟨_,x,y,rfl⟩|⟨_,x,rfl⟩|⟨_,x,l,rfl,hl⟩|⟨_,hl⟩|⟨_,hl⟩|⟨_,rfl⟩|⟨_,rfl⟩|⟨_,rfl⟩|⟨_,hl⟩|⟨_,hl⟩|⟨_,rfl⟩
   all_goals first|assumption|exact Nat.le_of_ble_eq_true rfl|exact Nat.succ_le_succ hl
 ·rcases x with _|⟨p,x⟩
  ·exact Bool.noConfusion (show false=true from h)
  ·rcases p with n|n
   ·rcases n with _|_|_|_|_|_|_|_|_|_|_|_|_|_|_|_|_|_|_|_|_|_|n
    iterate 22 (first|exact Bool.noConfusion (show false=true from h)|(rcases x with _|⟨a,x⟩<;>first|exact Bool.noConfusion (show false=true from h)|(rcases x with _|⟨b,x⟩<;>first|exact Bool.noConfusion (show false=true from h)|(rcases x with _|⟨c,x⟩<;>first|exact Bool.noConfusion (show false=true from h)|(rcases x with _|⟨d,x⟩<;>first|exact Bool.noConfusion (show false=true from h)|(rcases x with _|⟨e,x⟩<;>exact Bool.noConfusion (show false=true from h)))))))
    exact Bool.noConfusion (show false=true from h)
   ·exact Bool.noConfusion (show false=true from h)
theorem sh0{ns:List Int}(h:VbsoaaNeutral.asked1 [0::ns]=true):ns=[]:=by have:=aW h;simpa using this
theorem sh1{ns:List Int}(h:VbsoaaNeutral.asked1 [1::ns]=true):∃k,ns=[k]:=by have:=aW h;simpa using this
theorem sh2{ns:List Int}(h:VbsoaaNeutral.asked1 [2::ns]=true):∃x y,ns=[x,y]:=by have:=aW h;simpa using this
theorem sh3{ns:List Int}(h:VbsoaaNeutral.asked1 [3::ns]=true):∃x y z u,ns=[x,y,z,u]:=by have:=aW h;simpa using this
theorem sh4{ns:List Int}(h:VbsoaaNeutral.asked1 [4::ns]=true):∃x y z u,ns=[x,y,z,u]:=by have:=aW h;simpa using this
theorem sh5{ns:List Int}(h:VbsoaaNeutral.asked1 [5::ns]=true):∃x,ns=[x]:=by have:=aW h;simpa using this
theorem sh6{ns:List Int}(h:VbsoaaNeutral.asked1 [6::ns]=true):∃x,ns=[x]:=by have:=aW h;simpa using this
theorem sh7{ns:List Int}(h:VbsoaaNeutral.asked1 [7::ns]=true):∃x y z u,ns=[x,y,z,u]:=by have:=aW h;simpa using this
theorem sh8{ns:List Int}(h:VbsoaaNeutral.asked1 [8::ns]=true):∃x y,ns=[x,y]:=by have:=aW h;simpa using this
theorem sh9{ns:List Int}(h:VbsoaaNeutral.asked1 [9::ns]=true):∃x y z,ns=[x,y,z]:=by have:=aW h;simpa using this
theorem am0{ns:List Int}(h:VbsoaaNeutral.asked1 [10::ns]=true):∃x y z,ns=[x,y,z]:=by have:=aW h;simpa using this
theorem eE{x hi:Int}(h:within x 0 hi=true):∃n:Nat,x=n∧(n:Int)≤hi:=by
 unfold within at h;rw[Bool.and_eq_true,decide_eq_true_eq,decide_eq_true_eq] at h;exact⟨x.toNat,by omega,by omega⟩
theorem cX{t:Table}{x:Int}(h:isProv t x=true):∃n:Nat,x=n∧n<t.board.kinds.length:=by
 obtain⟨n,e,h⟩:=eE (show within x 0 ((t.board.kinds.length:Int) - 1)=true from h);exact⟨n,e,by omega⟩
theorem nS{t:Table}{n:Nat}(h:n<t.board.kinds.length):t.board.kinds[n]?=some (kind t.board n):=by
 unfold kind;rw[List.getD_eq_getElem?_getD,List.getElem?_eq_getElem h];rfl
end My
end
section
namespace My
open Vbsoaa
def UL(n:Nat):Order→Prop
 |.hold=>True
 |.move p t _=>p<n∧t≤3
 |.stay p=>p<n
 |.aid p q=>p<n∧q<n
 |.carry p q=>p<n∧q<n
structure Wg(t:Table):Prop where
 land:∀k∈t.board.land,k.1≠k.2∧k.1<t.board.kinds.length∧k.2<t.board.kinds.length∧kind t.board k.1≠1∧kind t.board k.2≠1
 sea:∀k∈t.board.sea,k.1/4≠k.2/4
 army:∀m∈t.men,m.fleet=false→kind t.board m.prov≠1
 ord:∀m∈t.men,UL t.board.kinds.length m.order
theorem UM:Wg start:=⟨fun k h=>(by cases h),fun k h=>(by cases h),fun k h=>(by cases h),fun k h=>(by cases h)⟩
theorem Jq{b:Board}{k p:Nat}(h:p<b.kinds.length):kind {b with kinds:=b.kinds++[k]} p=kind b p:=by
 unfold kind;rw[List.getD_eq_getElem?_getD,List.getD_eq_getElem?_getD,List.getElem?_append_left h]
theorem UL.mono{n m:Nat}(h:n≤m):∀{o:Order},UL n o→UL m o
 |.hold,_=>True.intro
 |.move p t _,q=>⟨Nat.lt_of_lt_of_le q.1 h,q.2⟩
 |.stay p,q=>Nat.lt_of_lt_of_le q h
 |.aid p q,z=>⟨Nat.lt_of_lt_of_le z.1 h,Nat.lt_of_lt_of_le z.2 h⟩
 |.carry p q,z=>⟨Nat.lt_of_lt_of_le z.1 h,Nat.lt_of_lt_of_le z.2 h⟩
theorem my{t:Table}(G:Wg t)(p:Nat){o:Order}(h:UL t.board.kinds.length o):Wg (ordered t p o):=by
 refine⟨G.land,G.sea,fun m hm hf=>?_,fun m hm=>?_⟩
 ·obtain⟨m',hm',e⟩:=List.mem_map.mp hm;subst e;split at hf
  ·rw[if_pos (by assumption)];exact G.army m' hm' hf
  ·rw[if_neg (by assumption)];exact G.army m' hm' hf
 ·obtain⟨m',hm',e⟩:=List.mem_map.mp hm;subst e;split
  ·exact h
  ·exact G.ord m' hm'
theorem xr{t:Table}{p:Int}(h:isProv t p=true):p.toNat<t.board.kinds.length:=by
 obtain⟨n,rfl,hn⟩:=cX h;exact hn
theorem af7(t:Table)(c:Call)(W:Wf t)(G:Wg t):Wg (Vbsoaa.step t c).1:=by
 cases c with
 |clear=>exact UM
 |province k=>
  unfold Vbsoaa.step;dsimp only
  repeat' split
  all_goals first|exact G|skip
  refine⟨fun x hx=>?_,G.sea,fun m hm hf=>?_,fun m hm=>?_⟩
  ·obtain⟨h1,h2,h3,h4,h5⟩:=G.land x hx;refine⟨h1,?_,?_,?_,?_⟩
   ·show x.1<(t.board.kinds++[k.toNat]).length;rw[List.length_append];omega
   ·show x.2<(t.board.kinds++[k.toNat]).length;rw[List.length_append];omega
   ·rw[Jq h2];exact h4
   ·rw[Jq h3];exact h5
  ·rw[Jq (W.prov m hm)];exact G.army m hm hf
  ·refine(G.ord m hm).mono ?_;show _≤(t.board.kinds++[k.toNat]).length;rw[List.length_append];omega
 |land p q=>
  unfold Vbsoaa.step;dsimp only
  repeat' split
  all_goals first|exact G|skip
  rename_i h1 h2 h3 h4;have h1':(isProv t p&&isProv t q)=true:=by simpa using h1
  rw[Bool.and_eq_true] at h1';refine⟨fun x hx=>?_,G.sea,G.army,G.ord⟩;rcases List.mem_append.mp hx with h|h
  ·exact G.land x h
  ·rw[List.mem_singleton.mp h];obtain⟨a,rfl,ha⟩:=cX h1'.1;obtain⟨b,rfl,hb⟩:=cX h1'.2;refine⟨fun e=>h2 (.inl (by have:a=b:=e;rw[this])),ha,hb,fun e=>h2 (.inr (.inl e)),fun e=>h2 (.inr (.inr e))⟩
 |sea p s q u=>
  unfold Vbsoaa.step;dsimp only
  repeat' split
  all_goals first|exact G|skip
  rename_i h1 h2 h3 h4;have h1':(isProv t p&&(isProv t q&&(within s 0 3&&within u 0 3)))=true:=by simpa using h1
  simp only[Bool.and_eq_true] at h1';refine⟨G.land,fun x hx=>?_,G.army,G.ord⟩;rcases List.mem_append.mp hx with h|h
  ·exact G.sea x h
  ·rw[List.mem_singleton.mp h];obtain⟨a,rfl,ha⟩:=cX h1'.1;obtain⟨b,rfl,hb⟩:=cX h1'.2.1;obtain⟨c,rfl,hc⟩:=eE h1'.2.2.1;obtain⟨d,rfl,hd⟩:=eE h1'.2.2.2;intro e;apply h2
   left
   have e':(4*a+c)/4=(4*b+d)/4:=e;have:a=b:=by omega
   rw[this]
 |man pw f p s=>
  unfold Vbsoaa.step;dsimp only
  repeat' split
  all_goals first|exact G|skip
  rename_i h1 h2 h3 h4;have h1':(within pw 0 6&&(within f 0 1&&(isProv t p&&within s 0 3)))=true:=by simpa using h1
  simp only[Bool.and_eq_true] at h1';obtain⟨_,hf,_,_⟩:=h1';obtain⟨f,rfl,hf⟩:=eE hf;refine⟨G.land,G.sea,fun m hm hfl=>?_,fun m hm=>?_⟩
  ·rcases List.mem_append.mp hm with h|h
   ·exact G.army m h hfl
   ·rw[List.mem_singleton.mp h] at hfl⊢;intro e;apply h2
    left
    have:f=0:=by
     have z:((f:Int)==1)=false:=hfl;rw[beq_eq_false_iff_ne] at z;omega
    exact⟨by rw[this];rfl,.inl e⟩
  ·rcases List.mem_append.mp hm with h|h
   ·exact G.ord m h
   ·rw[List.mem_singleton.mp h];exact True.intro
 |gone p=>
  unfold Vbsoaa.step;dsimp only
  repeat' split
  all_goals first|exact G|skip
  exact⟨G.land,G.sea,fun m hm=>G.army m (List.mem_filter.mp hm).1,fun m hm=>G.ord m (List.mem_filter.mp hm).1⟩
 |hold p=>
  unfold Vbsoaa.step;dsimp only
  repeat' split
  all_goals first|exact G|exact my G _ True.intro
 |move p q u x=>
  unfold Vbsoaa.step;dsimp only
  repeat' split
  all_goals first|exact G|skip
  rename_i h1 h2;have h1':(isProv t p&&(isProv t q&&(within u 0 3&&within x 0 1)))=true:=by simpa using h1
  simp only[Bool.and_eq_true] at h1';obtain⟨c,rfl,hc⟩:=eE h1'.2.2.1;exact my G _ ⟨xr h1'.2.1,by omega⟩
 |stay p q=>
  unfold Vbsoaa.step;dsimp only
  repeat' split
  all_goals first|exact G|skip
  rename_i h1 h2;have h1':(isProv t p&&isProv t q)=true:=by simpa using h1
  rw[Bool.and_eq_true] at h1';exact my G _ (xr h1'.2)
 |aid p a q=>
  unfold Vbsoaa.step;dsimp only
  repeat' split
  all_goals first|exact G|skip
  rename_i h1 h2;have h1':(isProv t p&&(isProv t a&&isProv t q))=true:=by simpa using h1
  simp only[Bool.and_eq_true] at h1';exact my G _ ⟨xr h1'.2.1,xr h1'.2.2⟩
 |carry p a q=>
  unfold Vbsoaa.step;dsimp only
  repeat' split
  all_goals first|exact G|skip
  rename_i h1 h2;have h1':(isProv t p&&(isProv t a&&isProv t q))=true:=by simpa using h1
  simp only[Bool.and_eq_true] at h1';exact my G _ ⟨xr h1'.2.1,xr h1'.2.2⟩
 |water p x=>
  unfold Vbsoaa.step;dsimp only
  repeat' split
  all_goals first|exact G|exact⟨G.land,G.sea,G.army,G.ord⟩
 |order p=>
  unfold Vbsoaa.step;dsimp only;split
  ·exact G
  ·split<;>exact G
 |strengths p s=>
  unfold Vbsoaa.step;dsimp only;split
  ·exact G
  ·split<;>exact G
 |cuts s=>unfold Vbsoaa.step;dsimp only;split<;>exact G
 |agrees s=>unfold Vbsoaa.step;dsimp only;split<;>exact G
 |most=>exact G
 |least=>exact G
 |rings=>exact G
 |then_ s=>unfold Vbsoaa.step;dsimp only;split<;>exact G
 |ways s=>unfold Vbsoaa.step;dsimp only;split<;>exact G
 |counts=>exact G
 |wrong=>exact G
def Ft(l:List (Nat×Nat))(x q:Nat):Bool:=[0,1,2,3].any fun t=>linked l x (place q t)
def g7(b:Board)(m:Man)(q:Nat):Bool:=if m.fleet=true then Ft b.sea (place m.prov m.shore) q else linked b.land m.prov q
theorem Fu{t:Table}(G:Wg t){p q:Nat}(h:linked t.board.land p q=true):p≠q∧kind t.board q≠1:=by
 unfold linked at h;obtain⟨k,hk,e⟩:=List.any_eq_true.mp h;obtain⟨h1,_,_,h4,h5⟩:=G.land k hk;simp only[Bool.or_eq_true,Bool.and_eq_true,beq_iff_eq] at e;rcases e with⟨e1,e2⟩|⟨e1,e2⟩
 ·rw[←e1,←e2];exact⟨h1,h5⟩
 ·rw[←e1,←e2];exact⟨Ne.symm h1,h4⟩
theorem Jr{t:Table}(G:Wg t){x y:Nat}(h:linked t.board.sea x y=true):x/4≠y/4:=by
 unfold linked at h;obtain⟨k,hk,e⟩:=List.any_eq_true.mp h;have h1:=G.sea k hk;simp only[Bool.or_eq_true,Bool.and_eq_true,beq_iff_eq] at e;rcases e with⟨e1,e2⟩|⟨e1,e2⟩
 ·rw[←e1,←e2];exact h1
 ·rw[←e1,←e2];exact Ne.symm h1
theorem xt{p s:Nat}(h:s≤3):place p s/4=p:=by unfold place;omega
theorem Js{t:Table}(G:Wg t)(m:Man)(q:Nat):reaches t.board m q=g7 t.board m q:=by
 unfold reaches g7;cases m.fleet with
 |true=>rfl
 |false=>
  simp only[Bool.false_eq_true,if_false];cases e:linked t.board.land m.prov q with
  |false=>rw[Bool.and_false]
  |true=>
   have:=(Fu G e).2;rw[Bool.and_true]
   simpa using this
theorem Jt{t:Table}(G:Wg t){m:Man}(hs:m.shore≤3){q:Nat}(h:g7 t.board m q=true):q≠m.prov:=by
 unfold g7 at h;cases e:m.fleet with
 |true=>
  rw[e,if_pos rfl] at h;unfold Ft at h;obtain⟨u,hu,z⟩:=List.any_eq_true.mp h;have:=Jr G z;rw[xt hs,xt (by simp at hu;omega)] at this;exact Ne.symm this
 |false=>
  rw[e,if_neg (by decide)] at h;exact Ne.symm (Fu G h).1
theorem abk{t:Table}(G:Wg t){m:Man}(hs:m.shore≤3)(hf:m.fleet=true){q u:Nat}{x:Bool}(hu:u≤3)(ho:m.order=.move q u x):
  counts t.board m=if x=false∧linked t.board.sea (place m.prov m.shore) (place q u)=true then .move q u false else .hold:=by
 unfold counts;rw[ho];simp only[hf,if_true];by_cases c:x=false∧linked t.board.sea (place m.prov m.shore) (place q u)=true
 ·have:=Jr G c.2;rw[xt hs,xt hu] at this;rw[if_pos c,if_pos ⟨c.1,c.2,Ne.symm this⟩]
 ·rw[if_neg c,if_neg (fun z=>c ⟨z.1,z.2.1⟩)]
theorem adH{t:Table}(G:Wg t){m:Man}(hs:m.shore≤3)(hf:m.fleet=false){q u:Nat}{x:Bool}(ho:m.order=.move q u x):
  counts t.board m=if x=false∧g7 t.board m q=true then .move q 0 false else if q≠m.prov∧kind t.board m.prov=2∧kind t.board q=2 then .move q 0 true else .hold:=by
 unfold counts;rw[ho];simp only[hf,Bool.false_eq_true,if_false];rw[Js G];by_cases c:x=false∧g7 t.board m q=true
 ·rw[if_pos c,if_pos ⟨c.1,c.2,Jt G hs c.2⟩]
 ·rw[if_neg c,if_neg (fun z=>c ⟨z.1,z.2.1⟩)];by_cases d:q≠m.prov∧kind t.board m.prov=2∧kind t.board q=2
  ·rw[if_pos d,if_pos ⟨d.2.1,d.2.2,d.1⟩]
  ·rw[if_neg d,if_neg (fun z=>d ⟨z.2.2,z.1,z.2.1⟩)]
theorem adI{t:Table}(G:Wg t){m:Man}(hs:m.shore≤3){q:Nat}(ho:m.order=.stay q):counts t.board m=if g7 t.board m q=true then .stay q else .hold:=by
 unfold counts;rw[ho];simp only;rw[Js G];by_cases c:g7 t.board m q=true
 ·rw[if_pos c,if_pos ⟨Jt G hs c,c⟩]
 ·rw[if_neg c,if_neg (fun z=>c z.2)]
theorem af8{t:Table}(G:Wg t){m:Man}(hs:m.shore≤3){b q:Nat}(ho:m.order=.aid b q):counts t.board m=if b≠m.prov∧b≠q∧g7 t.board m q=true then .aid b q else .hold:=by
 unfold counts;rw[ho];simp only;rw[Js G];by_cases c:b≠m.prov∧b≠q∧g7 t.board m q=true
 ·rw[if_pos c,if_pos ⟨c.1,Jt G hs c.2.2,c.2.1,c.2.2⟩]
 ·rw[if_neg c,if_neg (fun z=>c ⟨z.1,z.2.2.1,z.2.2.2⟩)]
theorem abl{t:Table}(G:Wg t){m:Man}(hm:m∈t.men){b q:Nat}(ho:m.order=.carry b q):counts t.board m=if kind t.board m.prov=1∧b≠q then .carry b q else .hold:=by
 unfold counts;rw[ho];simp only;by_cases c:kind t.board m.prov=1∧b≠q
 ·have f:m.fleet=true:=by
   cases e:m.fleet with
   |true=>rfl
   |false=>exact absurd c.1 (G.army m hm e)
  rw[if_pos c,if_pos ⟨f,c.1,c.2⟩]
 ·rw[if_neg c,if_neg (fun z=>c ⟨z.2.1,z.2.2⟩)]
theorem adJ{b:Board}{m:Man}(ho:m.order=.hold):counts b m=.hold:=by
 unfold counts;rw[ho]
end My
end
section
namespace My
open Vbsoaa
inductive Nm where
 |prov
 |kind
 |shore
 |power
 |fleet
 |water
 |way
def Nm.top(t:Table):Nm→Int
 |.prov=>(t.board.kinds.length:Int) - 1
 |.kind=>2
 |.shore=>3
 |.power=>6
 |.fleet=>1
 |.water=>1
 |.way=>1
def QH:Int→List Nm
 |1=>[.kind]
 |2=>[.prov,.prov]
 |3=>[.prov,.shore,.prov,.shore]
 |4=>[.power,.fleet,.prov,.shore]
 |5=>[.prov]
 |6=>[.prov]
 |7=>[.prov,.prov,.shore,.water]
 |8=>[.prov,.prov]
 |9=>[.prov,.prov,.prov]
 |10=>[.prov,.prov,.prov]
 |11=>[.prov,.way]
 |12=>[.prov]
 |13=>[.prov]
 |_=>[]
def okN(t:Table)(x:Nm×Int):Bool:=within x.2 0 (x.1.top t)
def bhd(p:Int)(ns:List Int):Nat:=ns.length - (QH p).length
def nmL(p:Int)(ns:List Int):List Nm:=QH p++List.replicate (bhd p ns) .prov
def inR(t:Table)(p:Int)(ns:List Int):Bool:=decide (bhd p ns≤24)&&((nmL p ns).zip ns).all (okN t)
theorem ma(t:Table):∀l:List Int,((List.replicate l.length Nm.prov).zip l).all (okN t)=l.all (isProv t)
 |[]=>rfl
 |x::r=>by
  show (okN t (.prov,x)&&((List.replicate r.length Nm.prov).zip r).all (okN t))=(isProv t x&&r.all (isProv t));rw[ma t r];rfl
theorem adK{p:Int}{ns:List Int}(h:VbsoaaNeutral.asked1 [p::ns]=true):0≤p∧p≤21∧(QH p).length≤ns.length∧ns.length≤99:=by
 rcases aW h with⟨rfl,rfl⟩|⟨rfl,k,rfl⟩|⟨rfl,x,y,rfl⟩|⟨rfl,x,y,z,u,rfl⟩|⟨rfl,x,y,z,u,rfl⟩|⟨rfl,x,rfl⟩|⟨rfl,x,rfl⟩|⟨rfl,x,y,z,u,rfl⟩|⟨rfl,x,y,rfl⟩|⟨rfl,x,y,z,rfl⟩|⟨rfl,x,y,z,rfl⟩|⟨rfl,x,y,rfl⟩|⟨rfl,x,rfl⟩|⟨rfl,x,l,rfl,hl⟩|⟨rfl,hl⟩|⟨rfl,hl⟩|⟨rfl,rfl⟩|⟨rfl,rfl⟩|⟨rfl,rfl⟩|⟨rfl,hl⟩|⟨rfl,hl⟩|⟨rfl,rfl⟩
 all_goals (refine⟨by decide,by decide,?_,?_⟩<;>first|(show _≤_;decide)|exact Nat.zero_le _|assumption|(simp[QH];done)|(simp[QH];omega))
theorem af9{p:Int}{ns:List Int}(h:(QH p).length≤ns.length):(nmL p ns).length=ns.length:=by
 unfold nmL bhd;rw[List.length_append,List.length_replicate];omega
end My
end
section
namespace L2
open PySem
section
variable{prog:Program}{w:World}{κ:Type}[DecidableEq κ]{knd:KeyKind prog w κ}{A:Around}{E:Value→Shared→Prop}{s:Shared}{k:List κ×List κ}{a:Addr}
def nT(knd:KeyKind prog w κ)(h:Heap)(k:List κ×List κ)(a:Addr):Prop:=
 ∃x y n d sl,h.get? a=some {cls:=.type "tuple",dict:=d,data:=.seq #[.ref x,.ref y] n,slots:=sl}∧IsTupleKey knd h k.1 x∧IsTupleKey knd h k.2 y
theorem nT.ty(z:nT knd s.heap k a):s.TypeIs (.ref a) "tuple":=by
 obtain⟨x,y,n,d,sl,ho,_⟩:=z;exact⟨_,ho,rfl⟩
def AY(knd:KeyKind prog w κ)(k:List κ×List κ):Int:=Builtin.Tuple.tupleHashOf [tupleKeyHash knd k.1,tupleKeyHash knd k.2]
theorem abm{Q:Value→Shared→Prop}(hu:A.units+1<cLine)(z:nT knd s.heap k a)
  (h:Q (.int (AY knd k) (s.toks+(k.1.length+1)+(k.2.length+1))) {s with toks:=s.toks+(k.1.length+1)+(k.2.length+1)+1}):wpAny (model prog w) A (call (.builtin "tuple.__hash__") [.ref a]) Q E s:=by
 have hT:=z.ty;obtain⟨x,y,n,d,sl,ho,hx,hy⟩:=z;refine wpAny_call_entry F.slot_tuple_hash hT F.entry_tuple_hash ?_ (F.args_tuple_hash_1 _);have two:wpAny (model prog w) A.in1 (forIn [Value.ref x,Value.ref y] #[] (fun v (b:Array Int)=>do let h←PySem.pyHash v;pure (.yield (b.push h))))
   (fun r s'=>r= #[tupleKeyHash knd k.1,tupleKeyHash knd k.2]∧s'={s with toks:=s.toks+(k.1.length+1)+(k.2.length+1)}) E s:=by
  simp only[List.forIn_cons,List.forIn_nil,bind_assoc,pure_bind];refine wpAny_bind (wpAny_pyHash_tuple hu hx ?_);exact wpAny_bind (wpAny_pyHash_tuple hu hy (wpAny_pure ⟨rfl,rfl⟩))
 refine wpAny_bind (m:=slotArgs "__hash__" 0 ⟨[.ref a],[]⟩) (wpAny_pure ?_);refine wpAny_bind (wpAny_tupleItemsOf ho rfl (wpAny_bind ?_));rw[←Array.forIn_toList];refine wpAny_mono two (fun r s' z=>?_) (fun _ _ z=>z);obtain⟨rfl,rfl⟩:=z
 wp_walk
 exact⟨_,rfl,h⟩
theorem adL{Q:Int→Shared→Prop}(hu:A.units+1<cLine)(z:nT knd s.heap k a)(h:Q (reduceHash (AY knd k)) {s with toks:=s.toks+(k.1.length+1+(k.2.length+1)+1)}):wpAny (model prog w) A (PySem.pyHash (.ref a)) Q E s:=by
 have hT:=z.ty;have hl:=F.slot_tuple_hash.lookup;have nb:(some (Value.builtin "tuple.__hash__")==some Value.none)=false:=beq_builtin_none _;have room:∀{Q':Unit→Shared→Prop},Q' () s→wpAny (model prog w) A (cRoomFor "hash" [.ref a]) Q' E s:=fun q=>wpAny_cRoomFor_or (.inr (Nat.lt_of_succ_lt hu)) q;unfold PySem.pyHash pyHashByItsType;refine wpAny_bind (room ?_);have red:wpAny (model prog w) A (pyHashByItsType.reduced (AY knd k)) Q E {s with toks:=s.toks+(k.1.length+1)+(k.2.length+1)+1}:=by
  have h':Q (reduceHash (AY knd k)) {s with toks:=s.toks+(k.1.length+1)+(k.2.length+1)+1}:=by
   have e:s.toks+(k.1.length+1)+(k.2.length+1)+1=s.toks+(k.1.length+1+(k.2.length+1)+1):=by omega
   rw[e];exact h
  unfold pyHashByItsType.reduced;unfold reduceHash at h';split at h'<;>rename_i c
  ·exact wpAny_ite_true (decide_eq_true c) (wpAny_pure h')
  ·exact wpAny_ite_false (decide_eq_false c) (wpAny_bind (wpAny_rule (wpAny_pure h')))
 wp_walk using (wpAny_callSpecialIfBoundUnlessNone?_slot hT F.slot_tuple_hash),(abm hu z)
 exact red
theorem UN{k':List κ×List κ}{b:Addr}{Q:Value→Shared→Prop}(hu:A.units+1<cLine)(z:nT knd s.heap k a)(z':nT knd s.heap k' b)(h:Q (.bool (decide (k=k'))) s):
  wpAny (model prog w) A (call (.builtin "tuple.__eq__") [.ref a,.ref b]) Q E s:=by
 have hT:=z.ty;have hT':=z'.ty;obtain⟨x,y,n,d,sl,ho,hx,hy⟩:=z;obtain⟨x',y',n',d',sl',ho',hx',hy'⟩:=z';refine wpAny_call_entry F.slot_tuple_eq hT F.entry_tuple_eq ?_ (F.args_tuple_eq_2 _ _);unfold Builtin.«tuple.__eq__»;have sub:=isSubtype_tuple_tuple;have e1:∀{b:Bool}{Q':Bool→Shared→Prop},b=decide (k.1=k'.1)→Q' b s→wpAny (model prog w) A.in1 (PySem.eqBool (.ref x) (.ref x')) Q' E s:=fun e q=>wpAny_eqBool_tuple hu hx hx' (by rw[←e];exact q);have e2:∀{b:Bool}{Q':Bool→Shared→Prop},b=decide (k.2=k'.2)→Q' b s→wpAny (model prog w) A.in1 (PySem.eqBool (.ref y) (.ref y')) Q' E s:=fun e q=>wpAny_eqBool_tuple hu hy hy' (by rw[←e];exact q);have ek:(k=k')↔(k.1=k'.1∧k.2=k'.2):=Prod.ext_iff;by_cases c1:k.1=k'.1
 ·by_cases c2:k.2=k'.2
  ·wp_walk using (wpAny_tupleItemsOf ho rfl),(wpAny_tupleItemsOf ho' rfl),(e1 (decide_eq_true c1).symm),(e2 (decide_eq_true c2).symm)
   rw[decide_eq_true (ek.mpr ⟨c1,c2⟩)] at h;exact⟨_,rfl,h⟩
  ·wp_walk using (wpAny_tupleItemsOf ho rfl),(wpAny_tupleItemsOf ho' rfl),(e1 (decide_eq_true c1).symm),(e2 (decide_eq_false c2).symm)
   rw[decide_eq_false (fun e=>c2 (ek.mp e).2)] at h;exact⟨_,rfl,h⟩
 ·wp_walk using (wpAny_tupleItemsOf ho rfl),(wpAny_tupleItemsOf ho' rfl),(e1 (decide_eq_false c1).symm)
  rw[decide_eq_false (fun e=>c1 (ek.mp e).1)] at h;exact⟨_,rfl,h⟩
theorem nT.inj{h:Heap}{k':List κ×List κ}(z:nT knd h k a)(z':nT knd h k' a):k=k':=by
 obtain⟨x,y,n,d,sl,ho,hx,hy⟩:=z;obtain⟨x',y',n',d',sl',ho',hx',hy'⟩:=z';rw[ho] at ho';cases ho';exact Prod.ext (hx.inj hx') (hy.inj hy')
theorem aiq{k':List κ×List κ}{b:Addr}{Q:Bool→Shared→Prop}(hu:A.units+1<cLine)(z:nT knd s.heap k a)(z':nT knd s.heap k' b)(h:Q (decide (k=k')) s):
  wpAny (model prog w) A (PySem.eqBool (.ref a) (.ref b)) Q E s:=by
 unfold PySem.eqBool;by_cases e:a=b
 ·subst e;rw[z.inj z',decide_eq_true rfl] at h;have r:(Value.ref a==Value.ref a)=true:=beq_self_eq_true _
  wp_walk
  exact h
 ·have r:(Value.ref a==Value.ref b)=false:=by
   rw[beq_eq_false_iff_ne];exact fun q=>e (by injection q)
  have c:wpAny (model prog w) A (richCompare .Eq (.ref a) (.ref b)) (fun v s'=>v=.bool (decide (k=k'))∧s'=s) E s:=
   wpAny_richCompare_same_room (op:=.Eq) z.ty z'.ty F.slot_tuple_eq (UN hu z z' ⟨(fun q=>nomatch q),rfl,rfl⟩) (Nat.lt_of_succ_lt hu)
  have c':=fun Q' q=>wpAny_mono (Q':=Q') c q (fun _ _ q=>q)
  wp_walk using (c' _)
  rintro v s' ⟨rfl,rfl⟩;exact wpAny_truthy_bool h
theorem Pl {n : Nat} : ∀ (l : List Value), (∀ v ∈ l, carriedByValue v = true) → wpAny (model prog w) A (forIn l ((none, ()) : Option Bool × Unit) fun y (_ : Option Bool × Unit) => do
      if !(← eqIsQuiet n y) then pure (ForInStep.done (some false, ())) else pure (ForInStep.yield (none, ()))) (fun r s' => r = (none, ()) ∧ s' = s) E s
  | [], _ => by
    rw [List.forIn_nil]
    exact wpAny_pure ⟨rfl, rfl⟩
  | v :: l, h => by
    rw [List.forIn_cons, eqIsQuiet_byValue n (h v List.mem_cons_self)]
    simp only [pure_bind, Bool.not_true, Bool.false_eq_true, if_false]
    exact Pl l fun u hu => h u (List.mem_cons_of_mem _ hu)
theorem Pn{n:Nat}{ks:List κ}{x:Addr}{Q:Bool→Shared→Prop}(z:IsTupleKey knd s.heap ks x)(h:Q true s):wpAny (model prog w) A (eqIsQuiet (n+1) (.ref x)) Q E s:=by
 have hT:=z.typeIs;obtain⟨o,its,m,ho,_,hd,hi⟩:=z;have sub:=isSubtype_tuple_tuple;have row:=Pl (n:=n) (A:=A) (E:=E) (s:=s) (prog:=prog) (w:=w) its.toList hi.byValue;have all:∀Q':Option Bool×Unit→Shared→Prop,(∀a s',a=(none,())∧s'=s→Q' a s')→wpAny (model prog w) A (forIn ((some its).getD #[]) ((none,()):Option Bool×Unit) fun y (_:Option Bool×Unit)=>do
   if !(←eqIsQuiet n y) then pure (ForInStep.done (some false,())) else pure (ForInStep.yield (none,()))) Q' E s:=by
  intro Q' q;rw[Option.getD_some,←Array.forIn_toList];exact wpAny_mono row q (fun _ _ q=>q)
 unfold eqIsQuiet;refine wpAny_bind (wpAny_specialOf (name:="__eq__") hT F.slot_tuple_eq.lookup ?_)
 wp_walk using (wpAny_seqItems ho hd),(all _)
 rintro r s' ⟨rfl,rfl⟩;exact wpAny_pure h
theorem abn{Q:Bool→Shared→Prop}(z:nT knd s.heap k a)(h:Q true s):wpAny (model prog w) A (eqIsQuiet 8 (.ref a)) Q E s:=by
 have hT:=z.ty;obtain⟨x,y,n,d,sl,ho,hx,hy⟩:=z;have sub:=isSubtype_tuple_tuple;have all:∀Q':Option Bool×Unit→Shared→Prop,Q' (none,()) s→wpAny (model prog w) A (forIn ((some #[Value.ref x,Value.ref y]).getD #[]) ((none,()):Option Bool×Unit) fun y (_:Option Bool×Unit)=>do
   if !(←eqIsQuiet 7 y) then pure (ForInStep.done (some false,())) else pure (ForInStep.yield (none,()))) Q' E s:=by
  intro Q' q;rw[Option.getD_some,←Array.forIn_toList];simp only[List.forIn_cons,List.forIn_nil,bind_assoc];refine wpAny_bind (Pn hx ?_);simp only[pure_bind,Bool.not_true,Bool.false_eq_true,if_false,bind_assoc];refine wpAny_bind (Pn hy ?_);simp only[pure_bind,Bool.not_true,Bool.false_eq_true,if_false];exact wpAny_pure q
 unfold eqIsQuiet;refine wpAny_bind (wpAny_specialOf (name:="__eq__") hT F.slot_tuple_eq.lookup ?_)
 wp_walk using (wpAny_seqItems ho rfl),(all _)
 exact h
def nU(knd:KeyKind prog w κ):HeapKind prog w (List κ×List κ) where
 is:=nT knd
 hash:=fun k=>reduceHash (AY knd k)
 draws:=fun k=>k.1.length+1+(k.2.length+1)+1
 room:=fun A=>A.units+1<cLine
 inj:=nT.inj
 keeps:=by
  intro h h' k a d o es ep ⟨x,y,n,dd,sl,ho,hx,hy⟩ hd he hs;refine⟨x,y,n,dd,sl,?_,hx.keeps hd he hs,hy.keeps hd he hs⟩;rw[hs.2 a ?_]
  ·exact ho
  ·rintro rfl;rw[ho] at hd;cases hd;cases he
 pyHash:=adL
 eqBool:=aiq
 quiet:=abn
end
end L2
end
section
namespace L2
open PySem
def scan(bt:Nat→Nat→Bool):Nat→Nat→Nat→Nat
 |b,_,0=>b
 |b,i,m+1=>scan bt (if bt i b then i else b) (i+1) m
section
variable{prog:Program}{w:World}{A:Around}{R:Result→Shared→Prop}{I S:Addr}{fp wr:List Addr}{n:Nat}{P:Nat→Value→Prop}{St:Nat→Heap→Prop}{kw:List (Str×Value)}{bt:Nat→Nat→Bool}{Ok:Heap→Prop}
def But(wr:List Addr)(S:Addr)(h h':Heap):Prop:=∀b o,b∉wr→b≠S→h.get? b=some o→h'.get? b=some o
theorem But.trans{h h1 h2:Heap}(x:But wr S h h1)(y:But wr S h1 h2):But wr S h h2:=fun b o hb hs e=>y b o hb hs (x b o hb hs e)
theorem But.upd{h h1:Heap}{f:Obj→Obj}(x:But wr S h h1):But wr S h (h1.update S f):=fun b o hb hs e=>(Heap.get?_update_other _ _ (Ne.symm hs)).trans (x b o hb hs e)
structure Cmp(prog:Program)(w:World)(A:Around)(op:CmpOp)(P:Nat→Value→Prop)(bt:Nat→Nat→Bool)(wr:List Addr)(S:Addr)(Ok:Heap→Prop):Prop where
 cmp:∀{i j:Nat}{x y:Value}{s:Shared}{Q:Value→Shared→Prop}{E:Value→Shared→Prop},j<i→P i x→P j y→Ok s.heap→Q (.bool (bt i j)) s→wpAny (model prog w) A (richCompare op x y) Q E s
 but:∀{h h':Heap},Ok h→But wr S h h'→Ok h'
theorem QI{args:Args}{s:Shared}(h:wpAny (model prog w) A.in1 (Builtin.«max.loop» args) (fun fin s'=>match fin with|.done f=>R (.ok f) s'|.again c'=>c'.quiet=true∧codeAny (model prog w) A c' R s') (fun e s'=>R (.error e) s') s):
  codeAny (model prog w) A (.builtin "max.loop" args) R s:=codeAny_builtin F.entry_max_loop (by rw[Around.under_plainId F.plain_max_loop];exact h)
theorem adM(W:Walks prog w A.in1 I fp wr n P St)(C:Cmp prog w A.in1 .Gt P bt wr S Ok)(hS:S∉fp):∀(m i b c:Nat)(x:Value)(s:Shared),i+m=n→b<i→St i s.heap→P b x→Ok s.heap→
  s.heap.get? S=some {cls:=.type "list",data:=.seq #[x,x] c}→
  (∀v h' tk,P (scan bt b i m) v→But wr S s.heap h'→R (.ok (.ret v)) {s with heap:=h',toks:=tk})→
  codeAny (model prog w) A (.builtin "max.loop" ⟨[.ref I,.none,.ref S],kw⟩) R s:=by
 intro m;have nw:S∉wr:=fun h=>hS (W.sub _ h);have nm:(toString "max"++toString ".loop":String)="max.loop":=by decide
 induction m with
 |zero=>
  intro i b c x s hi lt st hx ok hs k;refine QI ?_;refine wpAny_bind (m:=seqItems? (.ref S)) (wpAny_seqItems hs rfl (wpAny_bind (m:=tryCatch (pyNext (.ref I)) _) (wpAny_tryCatch (W.done s _ _ (by rw[←hi];exact st) fun h' tk kp=>?_))));have hs':=kp S _ nw hs
  wp_walk using (wpAny_updateSeq hs' rfl)
  exact k x _ tk hx (But.upd fun b' o hb _ e=>kp b' o hb e)
 |succ m ih=>
  intro i b c x s hi lt st hx ok hs k;refine QI ?_;refine wpAny_bind (m:=seqItems? (.ref S)) (wpAny_seqItems hs rfl (wpAny_bind (m:=tryCatch (pyNext (.ref I)) _) (wpAny_tryCatch (W.item i s _ _ (by omega) st fun y h' tk hy st' kp=>?_))));have hs':=kp S _ nw hs;have bu:But wr S s.heap h':=fun b' o hb _ e=>kp b' o hb e;have ok':Ok h':=C.but ok bu;have cmp:∀{Q:Value→Shared→Prop}{E:Value→Shared→Prop},Q (.bool (bt i b)) {s with heap:=h',toks:=tk}→wpAny (model prog w) A.in1 (richCompare .Gt y x) Q E {s with heap:=h',toks:=tk}:=fun q=>C.cmp lt hy hx ok' q;unfold scan at k;cases e:bt i b with
  |true=>
   rw[e] at cmp k
   wp_walk
   refine(wpAny_tryCatch ?_:wpAny _ _ (tryCatch _ _) _ _ _)
   wp_walk using cmp,wpAny_truthy_bool,(wpAny_updateSeq hs' rfl)
   rw[nm];have g:=Heap.get?_update_self (Obj.mapSeq fun _=> #[y,y]) hs' rfl;refine⟨plainId_quiet F.plain_max_loop _,ih (i+1) i _ y _ (by omega) (by omega) ?_ hy ?_ g fun v h2 tk2 hv b2=>?_⟩
   ·exact W.frame _ _ _ st' fun b' hb o e=>(Heap.get?_update_other _ _ (fun z:S=b'=>hS (by rw[z];exact hb))).trans e
   ·exact C.but ok (But.upd bu)
   ·exact k v h2 tk2 hv ((But.upd bu).trans b2)
  |false=>
   rw[e] at cmp k
   wp_walk
   refine(wpAny_tryCatch ?_:wpAny _ _ (tryCatch _ _) _ _ _)
   wp_walk using cmp,wpAny_truthy_bool,(wpAny_updateSeq hs' rfl)
   rw[nm];exact⟨plainId_quiet F.plain_max_loop _,ih (i+1) b c x _ (by omega) (by omega) st' hx ok' hs' fun v h2 tk2 hv b2=>k v h2 tk2 hv (bu.trans b2)⟩
theorem Z8(W:Walks prog w A.in1 I fp wr (n+1) P St)(C:Cmp prog w A.in1 .Gt P bt wr S Ok)(hS:S∉fp){s:Shared}{c:Nat}(st:St 0 s.heap)(ok:Ok s.heap)(hs:s.heap.get? S=some {cls:=.type "list",data:=.seq #[] c})
  (k:∀v h' tk,P (scan bt 0 1 n) v→But wr S s.heap h'→R (.ok (.ret v)) {s with heap:=h',toks:=tk}):codeAny (model prog w) A (.builtin "max.loop" ⟨[.ref I,.none,.ref S],kw⟩) R s:=by
 have nw:S∉wr:=fun h=>hS (W.sub _ h);have nm:(toString "max"++toString ".loop":String)="max.loop":=by decide
 refine QI ?_;refine wpAny_bind (m:=seqItems? (.ref S)) (wpAny_seqItems hs rfl (wpAny_bind (m:=tryCatch (pyNext (.ref I)) _) (wpAny_tryCatch (W.item 0 s _ _ (by omega) st fun y h' tk hy st' kp=>?_))));have hs':=kp S _ nw hs;have bu:But wr S s.heap h':=fun b' o hb _ e=>kp b' o hb e
 wp_walk using (wpAny_updateSeq hs' rfl)
 rw[nm];have g:=Heap.get?_update_self (Obj.mapSeq fun _=> #[y,y]) hs' rfl;refine⟨plainId_quiet F.plain_max_loop _,adM W C hS n 1 0 _ y _ (by omega) (by omega) ?_ hy ?_ g fun v h2 tk2 hv b2=>?_⟩
 ·exact W.frame _ _ _ st' fun b' hb o e=>(Heap.get?_update_other _ _ (fun z:S=b'=>hS (by rw[z];exact hb))).trans e
 ·exact C.but ok (But.upd bu)
 ·exact k v h2 tk2 hv ((But.upd bu).trans b2)
theorem Ym{args:Args}{s:Shared}(h:wpAny (model prog w) A.in1 (Builtin.«min.loop» args) (fun fin s'=>match fin with|.done f=>R (.ok f) s'|.again c'=>c'.quiet=true∧codeAny (model prog w) A c' R s') (fun e s'=>R (.error e) s') s):
  codeAny (model prog w) A (.builtin "min.loop" args) R s:=codeAny_builtin F.entry_min_loop (by rw[Around.under_plainId F.plain_min_loop];exact h)
theorem adN(W:Walks prog w A.in1 I fp wr n P St)(C:Cmp prog w A.in1 .Lt P bt wr S Ok)(hS:S∉fp):∀(m i b c:Nat)(x:Value)(s:Shared),i+m=n→b<i→St i s.heap→P b x→Ok s.heap→
  s.heap.get? S=some {cls:=.type "list",data:=.seq #[x,x] c}→
  (∀v h' tk,P (scan bt b i m) v→But wr S s.heap h'→R (.ok (.ret v)) {s with heap:=h',toks:=tk})→
  codeAny (model prog w) A (.builtin "min.loop" ⟨[.ref I,.none,.ref S],kw⟩) R s:=by
 intro m;have nw:S∉wr:=fun h=>hS (W.sub _ h);have nm:(toString "min"++toString ".loop":String)="min.loop":=by decide
 induction m with
 |zero=>
  intro i b c x s hi lt st hx ok hs k;refine Ym ?_;refine wpAny_bind (m:=seqItems? (.ref S)) (wpAny_seqItems hs rfl (wpAny_bind (m:=tryCatch (pyNext (.ref I)) _) (wpAny_tryCatch (W.done s _ _ (by rw[←hi];exact st) fun h' tk kp=>?_))));have hs':=kp S _ nw hs
  wp_walk using (wpAny_updateSeq hs' rfl)
  exact k x _ tk hx (But.upd fun b' o hb _ e=>kp b' o hb e)
 |succ m ih=>
  intro i b c x s hi lt st hx ok hs k;refine Ym ?_;refine wpAny_bind (m:=seqItems? (.ref S)) (wpAny_seqItems hs rfl (wpAny_bind (m:=tryCatch (pyNext (.ref I)) _) (wpAny_tryCatch (W.item i s _ _ (by omega) st fun y h' tk hy st' kp=>?_))));have hs':=kp S _ nw hs;have bu:But wr S s.heap h':=fun b' o hb _ e=>kp b' o hb e;have ok':Ok h':=C.but ok bu;have cmp:∀{Q:Value→Shared→Prop}{E:Value→Shared→Prop},Q (.bool (bt i b)) {s with heap:=h',toks:=tk}→wpAny (model prog w) A.in1 (richCompare .Lt y x) Q E {s with heap:=h',toks:=tk}:=fun q=>C.cmp lt hy hx ok' q;unfold scan at k;cases e:bt i b with
  |true=>
   rw[e] at cmp k
   wp_walk
   refine(wpAny_tryCatch ?_:wpAny _ _ (tryCatch _ _) _ _ _)
   wp_walk using cmp,wpAny_truthy_bool,(wpAny_updateSeq hs' rfl)
   rw[nm];have g:=Heap.get?_update_self (Obj.mapSeq fun _=> #[y,y]) hs' rfl;refine⟨plainId_quiet F.plain_min_loop _,ih (i+1) i _ y _ (by omega) (by omega) ?_ hy ?_ g fun v h2 tk2 hv b2=>?_⟩
   ·exact W.frame _ _ _ st' fun b' hb o e=>(Heap.get?_update_other _ _ (fun z:S=b'=>hS (by rw[z];exact hb))).trans e
   ·exact C.but ok (But.upd bu)
   ·exact k v h2 tk2 hv ((But.upd bu).trans b2)
  |false=>
   rw[e] at cmp k
   wp_walk
   refine(wpAny_tryCatch ?_:wpAny _ _ (tryCatch _ _) _ _ _)
   wp_walk using cmp,wpAny_truthy_bool,(wpAny_updateSeq hs' rfl)
   rw[nm];exact⟨plainId_quiet F.plain_min_loop _,ih (i+1) b c x _ (by omega) (by omega) st' hx ok' hs' fun v h2 tk2 hv b2=>k v h2 tk2 hv (bu.trans b2)⟩
theorem aga(W:Walks prog w A.in1 I fp wr (n+1) P St)(C:Cmp prog w A.in1 .Lt P bt wr S Ok)(hS:S∉fp){s:Shared}{c:Nat}(st:St 0 s.heap)(ok:Ok s.heap)(hs:s.heap.get? S=some {cls:=.type "list",data:=.seq #[] c})
  (k:∀v h' tk,P (scan bt 0 1 n) v→But wr S s.heap h'→R (.ok (.ret v)) {s with heap:=h',toks:=tk}):codeAny (model prog w) A (.builtin "min.loop" ⟨[.ref I,.none,.ref S],kw⟩) R s:=by
 have nw:S∉wr:=fun h=>hS (W.sub _ h);have nm:(toString "min"++toString ".loop":String)="min.loop":=by decide
 refine Ym ?_;refine wpAny_bind (m:=seqItems? (.ref S)) (wpAny_seqItems hs rfl (wpAny_bind (m:=tryCatch (pyNext (.ref I)) _) (wpAny_tryCatch (W.item 0 s _ _ (by omega) st fun y h' tk hy st' kp=>?_))));have hs':=kp S _ nw hs;have bu:But wr S s.heap h':=fun b' o hb _ e=>kp b' o hb e
 wp_walk using (wpAny_updateSeq hs' rfl)
 rw[nm];have g:=Heap.get?_update_self (Obj.mapSeq fun _=> #[y,y]) hs' rfl;refine⟨plainId_quiet F.plain_min_loop _,adN W C hS n 1 0 _ y _ (by omega) (by omega) ?_ hy ?_ g fun v h2 tk2 hv b2=>?_⟩
 ·exact W.frame _ _ _ st' fun b' hb o e=>(Heap.get?_update_other _ _ (fun z:S=b'=>hS (by rw[z];exact hb))).trans e
 ·exact C.but ok (But.upd bu)
 ·exact k v h2 tk2 hv ((But.upd bu).trans b2)
theorem max_two{x y:Value}{c:Bool}{s:Shared}{E:Value→Shared→Prop}{Q:Value→Shared→Prop}(hh:A.handled=none)
  (cmp:∀{s':Shared}{Q':Value→Shared→Prop}{E':Value→Shared→Prop},(∀d o,s.heap.get? d=some o→s'.heap.get? d=some o)→Q' (.bool c) s'→wpAny (model prog w) A.in1 (richCompare .Gt y x) Q' E' s')
  (h:∀h' tk,(∀d o,s.heap.get? d=some o→h'.get? d=some o)→Q (if c then y else x) {s with heap:=h',toks:=tk}):wpAny (model prog w) A (call (.builtin "max") [x,y]) Q E s:=by
 have nm:(toString "max"++toString ".loop":String)="max.loop":=by decide
 have one:(s.heap.push {cls:=.type "tuple",data:=.seq #[x,y]}).IsTuple s.heap.objs.size #[x,y]:=⟨_,Heap.get?_push_size _ rfl,rfl,0,rfl⟩
 refine call_function_tree F.kind_max F.plain_max F.entry_max (F.args_max2 _ _) (wpAny_bind (m:=Builtin.Builtins.bindParams "max" ["key","default"] 0 ⟨[],[]⟩) (wpAny_pure (wpAny_bind (m:=newTuple [x,y]) (wpAny_newObj_type (wpAny_bind (wpAny_pyIter_tuple one (wpAny_bind (wpAny_newObj_type ?_))))))));rw[nm];refine wpAny_pure ⟨plainId_quiet F.plain_max_loop _,?_⟩;generalize hn:s.heap.objs.size=n at one;have z1:(s.heap.push {cls:=.type "tuple",data:=.seq #[x,y]}).objs.size=n+1:=by rw[Heap.size_push,hn]
 have z2:((s.heap.push {cls:=.type "tuple",data:=.seq #[x,y]}).push {cls:=.type "tuple_iterator",data:=.fields #[.ref n,.int 0 0]}).objs.size=n+2:=by rw[Heap.size_push,z1]
 have lt:∀{d o},s.heap.get? d=some o→d<n:=fun e=>by rw[←hn];exact Heap.lt_size e
 have old:∀d o,s.heap.get? d=some o→(((s.heap.push {cls:=.type "tuple",data:=.seq #[x,y]}).push {cls:=.type "tuple_iterator",data:=.fields #[.ref n,.int 0 0]}).push {cls:=.type "list",data:=.seq #[]}).get? d=some o:=
  fun d o e=>Heap.get?_push_of_some _ (Heap.get?_push_of_some _ (Heap.get?_push_of_some _ e))
 have W:=Walks.tuple (prog:=prog) (w:=w) (A:=A.in1) hh (n+1) n (Nat.ne_of_lt (Nat.lt_succ_self n)) #[x,y];have C:Cmp prog w A.in1 .Gt (fun i v=> #[x,y][i]?=some v) (fun _ _=>c) [n+1] (n+2) (fun h=>∀d o,s.heap.get? d=some o→h.get? d=some o):=by
  refine⟨fun{i j u v s' Q' E'} hij hi hj ok q=>?_,fun{h h'} ok b d o e=>b d o (fun z=>?_) (fun z=>?_) (ok d o e)⟩
  ·have h1:i<2:=(Array.getElem?_eq_some_iff.mp hi).1;obtain rfl:i=1:=by omega
   obtain rfl:j=0:=by omega
   cases hi;cases hj;exact cmp ok q
  ·exact absurd (List.mem_singleton.mp z) (Nat.ne_of_lt (Nat.lt_succ_of_lt (lt e)))
  ·exact absurd z (Nat.ne_of_lt (Nat.lt_succ_of_lt (Nat.lt_succ_of_lt (lt e))))
 rw[z2,z1];refine Z8 (n:=1) W C (by simp) (c:=0) ⟨⟨_,Heap.get?_push_of_some _ (by rw[←z1];exact Heap.get?_push_size _ rfl),rfl,rfl⟩,(one.push _).push _⟩ old (by rw[←z2];exact Heap.get?_push_size _ rfl) fun v h' tk hv bu=>?_;have e:v=if c then y else x:=by
  cases c
  ·cases hv;rfl
  ·cases hv;rfl
 rw[e];refine h h' tk fun d o q=>bu d o (fun z=>?_) (fun z=>?_) (old d o q)
 ·exact absurd (List.mem_singleton.mp z) (Nat.ne_of_lt (Nat.lt_succ_of_lt (lt q)))
 ·exact absurd z (Nat.ne_of_lt (Nat.lt_succ_of_lt (Nat.lt_succ_of_lt (lt q))))
theorem min_two{x y:Value}{c:Bool}{s:Shared}{E:Value→Shared→Prop}{Q:Value→Shared→Prop}(hh:A.handled=none)
  (cmp:∀{s':Shared}{Q':Value→Shared→Prop}{E':Value→Shared→Prop},(∀d o,s.heap.get? d=some o→s'.heap.get? d=some o)→Q' (.bool c) s'→wpAny (model prog w) A.in1 (richCompare .Lt y x) Q' E' s')
  (h:∀h' tk,(∀d o,s.heap.get? d=some o→h'.get? d=some o)→Q (if c then y else x) {s with heap:=h',toks:=tk}):wpAny (model prog w) A (call (.builtin "min") [x,y]) Q E s:=by
 have nm:(toString "min"++toString ".loop":String)="min.loop":=by decide
 have one:(s.heap.push {cls:=.type "tuple",data:=.seq #[x,y]}).IsTuple s.heap.objs.size #[x,y]:=⟨_,Heap.get?_push_size _ rfl,rfl,0,rfl⟩
 refine call_function_tree F.kind_min F.plain_min F.entry_min (F.args_min2 _ _) (wpAny_bind (m:=Builtin.Builtins.bindParams "min" ["key","default"] 0 ⟨[],[]⟩) (wpAny_pure (wpAny_bind (m:=newTuple [x,y]) (wpAny_newObj_type (wpAny_bind (wpAny_pyIter_tuple one (wpAny_bind (wpAny_newObj_type ?_))))))));rw[nm];refine wpAny_pure ⟨plainId_quiet F.plain_min_loop _,?_⟩;generalize hn:s.heap.objs.size=n at one;have z1:(s.heap.push {cls:=.type "tuple",data:=.seq #[x,y]}).objs.size=n+1:=by rw[Heap.size_push,hn]
 have z2:((s.heap.push {cls:=.type "tuple",data:=.seq #[x,y]}).push {cls:=.type "tuple_iterator",data:=.fields #[.ref n,.int 0 0]}).objs.size=n+2:=by rw[Heap.size_push,z1]
 have lt:∀{d o},s.heap.get? d=some o→d<n:=fun e=>by rw[←hn];exact Heap.lt_size e
 have old:∀d o,s.heap.get? d=some o→(((s.heap.push {cls:=.type "tuple",data:=.seq #[x,y]}).push {cls:=.type "tuple_iterator",data:=.fields #[.ref n,.int 0 0]}).push {cls:=.type "list",data:=.seq #[]}).get? d=some o:=
  fun d o e=>Heap.get?_push_of_some _ (Heap.get?_push_of_some _ (Heap.get?_push_of_some _ e))
 have W:=Walks.tuple (prog:=prog) (w:=w) (A:=A.in1) hh (n+1) n (Nat.ne_of_lt (Nat.lt_succ_self n)) #[x,y];have C:Cmp prog w A.in1 .Lt (fun i v=> #[x,y][i]?=some v) (fun _ _=>c) [n+1] (n+2) (fun h=>∀d o,s.heap.get? d=some o→h.get? d=some o):=by
  refine⟨fun{i j u v s' Q' E'} hij hi hj ok q=>?_,fun{h h'} ok b d o e=>b d o (fun z=>?_) (fun z=>?_) (ok d o e)⟩
  ·have h1:i<2:=(Array.getElem?_eq_some_iff.mp hi).1;obtain rfl:i=1:=by omega
   obtain rfl:j=0:=by omega
   cases hi;cases hj;exact cmp ok q
  ·exact absurd (List.mem_singleton.mp z) (Nat.ne_of_lt (Nat.lt_succ_of_lt (lt e)))
  ·exact absurd z (Nat.ne_of_lt (Nat.lt_succ_of_lt (Nat.lt_succ_of_lt (lt e))))
 rw[z2,z1];refine aga (n:=1) W C (by simp) (c:=0) ⟨⟨_,Heap.get?_push_of_some _ (by rw[←z1];exact Heap.get?_push_size _ rfl),rfl,rfl⟩,(one.push _).push _⟩ old (by rw[←z2];exact Heap.get?_push_size _ rfl) fun v h' tk hv bu=>?_;have e:v=if c then y else x:=by
  cases c
  ·cases hv;rfl
  ·cases hv;rfl
 rw[e];refine h h' tk fun d o q=>bu d o (fun z=>?_) (fun z=>?_) (old d o q)
 ·exact absurd (List.mem_singleton.mp z) (Nat.ne_of_lt (Nat.lt_succ_of_lt (lt q)))
 ·exact absurd z (Nat.ne_of_lt (Nat.lt_succ_of_lt (Nat.lt_succ_of_lt (lt q))))
end
end L2
end
section
namespace L2
open PySem
section
variable{prog:Program}{w:World}{A:Around}{E:Value→Shared→Prop}{s:Shared}{d:Addr}{o:Obj}{es:Array DictEntry}{ep:Nat}
theorem AZ {Q : Value → Shared → Prop} (nd : (d == sysModules) = false) (h1 : s.heap.get? d = some o) (h2 : o.ExactDict) (h3 : o.data = .dict es ep) (hz : es.size ≤ sizeLine) (h : ∀ t t', Q (.int es.size t) { s with toks := t' }) :
    wpAny (model prog w) A (call (.builtin "len") [.ref d]) Q E s := by
  have hT : s.TypeIs (.ref d) "dict" := ⟨o, h1, h2.1⟩
  have small : (es.size : Int) < 2 ^ 63 := by have : sizeLine < 2 ^ 63 := by decide
                                              omega
  have size : wpAny (model prog w) A.in1 (call (.builtin "dict.__len__") [.ref d]) (fun v s' => ∃ t t', v = .int es.size t ∧ s' = { s with toks := t' }) E s := by
    refine wpAny_call_entry F.slot_dict_len hT F.entry_dict_len ?_ (F.args_dict_len_1 _)
    unfold Builtin.«dict.__len__»
    wp_walk using (wpAny_pendingCount_other nd)
    rw [h3]
    wp_walk using (wpAny_pendingCount_other nd)
    exact ⟨_, rfl, s.toks, _, by simp, rfl⟩
  have size' := fun Q' q => wpAny_mono (Q' := Q') size q (fun _ _ z => z)
  refine Calls.call_function_entry kind_len plain_len entry_len (args_len1 (.ref d)) ?_
  refine wpAny_bind (m := oneArg "len" ⟨[.ref d], []⟩) (wpAny_pure (wpAny_bind (wpAny_callSpecial?_slot hT F.slot_dict_len (size' _ ?_))))
  rintro v s' ⟨t, t', rfl, rfl⟩
  have n1 : ¬ ((es.size : Int) < 0) := by omega
  have n2 : ¬ ((es.size : Int) ≥ 2 ^ 63) := by omega
  wp_walk
  refine wpAny_ite_false (decide_eq_false n2) ?_
  wp_walk
  exact ⟨_, rfl, h _ _⟩
end
end L2
end
section
namespace L2
open PySem PySem.Spec PyProof.Rows
def MD(w:World)(K:PySem.W.Frag)(a:Addr)(kvs:List (Key×V)):Prop:=
 (a==sysModules)=false∧∃(o:Obj)(es:Array DictEntry)(ep:Nat),K.lookup a=some o∧o.ExactDict∧o.data=.dict es ep∧
  Paired (fun(e:DictEntry)(p:Key×V)=>mj p.1 e.key=true∧e.hash=cS w p.1∧RelV p.2 e.val) es.toList kvs
theorem UO{P:Program}{w:World}:∀{es:List DictEntry}{kvs:List (Key×V)},Paired (fun(e:DictEntry)(p:Key×V)=>mj p.1 e.key=true∧e.hash=cS w p.1∧RelV p.2 e.val) es kvs→
  ∃vs:List (Key×Value),KV kvs vs∧Pairs (aO P w) es vs∧∀e∈es,∃k,(aO P w).is k e.key=true∧e.hash=(aO P w).hash k
 |_,_,.nil=>⟨[],.nil,.nil,fun e he=>by cases he⟩
 |_,_,.cons (a:=e) (b:=p) ⟨h1,h2,h3⟩ t=>by
  obtain⟨vs,k1,k2,k3⟩:=UO (P:=P) t;refine⟨(p.1,e.val)::vs,.cons ⟨rfl,h3⟩ k1,.cons h1 rfl k2,fun e' he=>?_⟩;rcases List.mem_cons.mp he with q|q
  ·subst q;exact⟨p.1,h1,h2⟩
  ·exact k3 e' q
theorem MD.mapOf{X:Cx}{pins:List (Addr×Obj)}{σ:St}{H:Hp}{s:Shared}{a:Addr}{kvs:List (Key×V)}(I:Inv X pins σ H s)(m:MD X.w X.K a kvs):
  ∃vs,KV kvs vs∧s.heap.MapOf (aO X.prog X.w) a (valueAt vs):=by
 obtain⟨_,o,es,ep,l,hc,hd,pr⟩:=m;obtain⟨vs,k1,k2,k3⟩:=UO (P:=X.prog) pr;refine⟨vs,k1,o,es,ep,I.kIn _ _ l,hc,hd,fun e he=>k3 e (Array.mem_def.mp he),fun k=>?_⟩;rw[←k2.find k];obtain⟨l⟩:=es;simp[findBy]
def air(w:World)(K:PySem.W.Frag)(td ty:TE):TE:=fun σ H Q=>td σ H fun x H1=>ty σ H1 fun y H2=>∃a kvs k v,x=.ref a∧MD w K a kvs∧y=kV k∧aR kvs k=some v∧Q v H2
theorem uX{X:Cx}{o i:Expr}{pos:Pos}{td ty:TE}(ho:PE X o td)(hi:PE X i ty)(hs:af0 i):PE X (.Subscript o i pos) (air X.w X.K td ty):=by
 intro pins s σ H Q I h;refine QB PySem.F.slot_dict_getitem.lookup hs (thn (ho pins s σ H _ I h) fun u s1 ⟨x,H1,I1,rx,q1⟩=>thn (hi pins s1 σ H1 _ I1 q1) fun iv s2 ⟨y,H2,I2,ry,a,kvs,k,v,ex,m,ey,g,q2⟩=>?_);subst ex ey;obtain rfl:u=Value.ref a:=rx;obtain⟨vs,rel,mo⟩:=m.mapOf I2;obtain⟨w',hw,rw'⟩:=oZ.some_of (v:=v) (o:=valueAt vs k) (by rw[←g];exact rel.val k);exact⟨mo.typeIs,wpAny_getItem_of (uT ry) mo hw ⟨v,H2,I2.tok _,rw',q2⟩⟩
def ais(X:Cx)(k:Nat)(tf:TE)(t:TA):TE:=fun σ H Q=>tf σ H fun v H0=>∃f,v=.ref f∧PySem.W.keepIn X.K (.ref f)=true∧
 t σ H0 fun vs H1=>∃fd ps sp,aY X.prog X.w X.K X.mg X.base CX0 k f fd ps sp∧Binds X.K fd ps []∧sp vs H1 Q E0
theorem Ju{X:Cx}{k:Nat}{x:Str}{p pos:Pos}{e:Expr}{es:List Expr}{tf:TE}{t:TA}(hf:PE X (.Name x p) tf)(ha:PA X (e::es) t)(hr:jc k X.A)
  (he:starEach (e::es) X.env=(false,eval e X.env)::starEach es X.env:=by rfl) (hpl:(backTo pos (starEach es X.env)).any (·.1)=false:=by rfl):
  PE X (.Call (.Name x p) (e::es) [] pos) (ais X k tf t):=by
 intro pins s σ H Q I h;refine wpAny_Call_Name_kw (thn (hf pins s σ H _ I h) fun u s0 ⟨v,H0,I0,rv,f,ev,hk,q0⟩=>?_);subst ev;obtain rfl:u=Value.ref f:=rv;refine PySem.W.callWith_K (h₀:=X.base) I0.ok.mod.kin hk (thn (ha pos pins s0 σ H0 _ I0 q0) fun us s1 ⟨vs,H1,I1,r,fd,ps,sp,F,hb,q⟩=>⟨I1.kIn,?_⟩) he hpl;exact Qr (dvs:=[]) (ds:=[]) F hr hb .nil aC I1 r (by rw[List.append_nil];exact q)
end L2
namespace HT
open PySem PyProof.Rows
theorem adO(A:Around)(s:Shared)(a:Int)(t:Tok)(c:Int)(u:Tok)(prog:Program)(w:World)(E:Value→Shared→Prop)(Q:Value→Shared→Prop)(h:Q (.bool (decide (c<a))) s):
  wpAny (model prog w) A (richCompare .Gt (.int a t) (.int c u)) Q E s:=
 (PyProof.Rows.gt_int h:wpAny (model prog w) A (compareOp .Gt (.int a t) (.int c u)) Q E s)
section
open PySem.SeqAt
open PySem.AutoSeq1 (wpAny_loadPart')
open PySem.MeetsSeq PySem.MeetsSeq2 PySem.MeetsSeq3
theorem MJ(l b:Addr)(items items2:Array Value)(n n2:Nat)(dd dd2:Option Addr)(sl sl2:Array (Option Value))(ns ms:List Int)(hi:IntsAre items.toList ns)(hj:IntsAre items2.toList ms):
  Meets (Builtin.«tuple.__gt__» ⟨[.ref l,.ref b],[]⟩)
   (fun _ R s=>s.heap.get? l=some {cls:=.type "tuple",dict:=dd,data:=.seq items n,slots:=sl}∧s.heap.get? b=some {cls:=.type "tuple",dict:=dd2,data:=.seq items2 n2,slots:=sl2}∧
    R (.ok (.ret (.bool (lexLt ms ns)))) s):=
 .of_wp fun prog w A R s h=>by
  obtain⟨hp,g,d,tk,os⟩:=s;obtain⟨hl,hb,h⟩:=h;have f2:=AutoSeq1.sub_tuple_tuple;have z1:items.size=ns.length:=by rw[←hi.length];simp
  have z2:items2.size=ms.length:=by rw[←hj.length];simp
  wp_walk using wpAny_loadPart' hl,wpAny_loadPart' hb,wpAny_forIn_list _ (fun rest b s'=>b.1=none∧s'=⟨hp,g,d,tk,os⟩∧∃(vs ws:List Value)(ns' ms':List Int),rest=vs.zip ws∧
   IntsAre vs ns'∧IntsAre ws ms'∧ns'.length+items2.size=ms'.length+items.size∧R (.ok (.ret (.bool (lexLt ms' ns')))) ⟨hp,g,d,tk,os⟩) _
  case turn=>
   rintro⟨y,x⟩ rest b s' ⟨hb',rfl,vs,ws,ns',ms',hz,hvi,hwi,hlen,hR⟩;cases hvi with
   |nil=>rw[List.zip_nil_left] at hz;cases hz
   |cons a t ah0=>
    cases hwi with
    |nil=>rw[List.zip_nil_right] at hz;cases hz
    |cons c u ah1=>
     rw[List.zip_cons_cons] at hz;injection hz with hyx hrest
     injection hyx with hy hx
     subst hy hx;rw[Jj] at hR;simp only[List.length_cons] at hlen;obtain⟨e,he,adq⟩:=Us A.in1 ⟨hp,g,d,tk,os⟩ a t c u;refine wpAny_bind (he prog w _ _ ?_);cases e with
     |true=>
      rw[if_pos (adq.mp rfl).symm] at hR
      wp_walk
      exact⟨rfl,rfl,_,_,_,_,hrest,ah0,ah1,by omega,hR⟩
     |false=>
      rw[if_neg (fun q=>absurd (adq.mpr q.symm) Bool.false_ne_true)] at hR;have hri:=adO A.in1 ⟨hp,g,d,tk,os⟩ a t c u prog w
      wp_walk using hri
      exact⟨_,rfl,by simpa using hR⟩
  case fin=>
   rintro⟨b1,b2⟩ s' ⟨hb',rfl,vs,ws,ns',ms',hz,hvi,hwi,hlen,hR⟩;simp only at hb';subst hb';have hv:lexLt ms' ns'=decide (items2.size<items.size):=by
    cases hvi with
    |nil=>
     cases hwi with
     |nil=>
      simp only[List.length_nil] at hlen;rw[yg];exact(decide_eq_false (by omega)).symm
     |cons c u hw=>
      simp only[List.length_nil,List.length_cons] at hlen;rw[uK];exact(decide_eq_false (by omega)).symm
    |cons a t hv=>
     cases hwi with
     |nil=>
      simp only[List.length_nil,List.length_cons] at hlen;rw[uJ];exact(decide_eq_true (by omega)).symm
     |cons c u hw=>
      rw[List.zip_cons_cons] at hz;cases hz
   rw[hv] at hR
   wp_walk
   exact⟨_,rfl,by simpa [Builtin.Tuple.tupleCompareSizes] using hR⟩
  case h=>
   exact⟨rfl,rfl,items.toList,items2.toList,ns,ms,rfl,hi,hj,by omega,h⟩
end
section
variable{prog:Program}{w:World}{A:Around}{E:Value→Shared→Prop}{s:Shared}
theorem Yn{l b:Addr}{items items2:Array Value}{ns ms:List Int}{Q:Value→Shared→Prop}(hl:IsTup s.heap l items)(hb:IsTup s.heap b items2)(hi:IntsAre items.toList ns)(hj:IntsAre items2.toList ms)
  (hu:A.units<cLine) (h:Q (.bool (lexLt ms ns)) s):wpAny (model prog w) A (compareOp .Gt (.ref l) (.ref b)) Q E s:=by
 obtain⟨⟨cls,dd,data,sl⟩,ho,hc,n,hd⟩:=id hl;obtain⟨⟨cls2,dd2,data2,sl2⟩,ho2,hc2,n2,hd2⟩:=id hb;simp only at hc hd hc2 hd2;subst hc hd hc2 hd2;exact richCompare_meets_room (op:=.Gt) ⟨_,ho,rfl⟩ ⟨_,ho2,rfl⟩ PySem.F.slot_tuple_gt PySem.F.entry_tuple_gt (PySem.F.args_tuple_gt_2 _ _) (MJ l b items items2 n n2 dd dd2 sl sl2 ns ms hi hj)
  ⟨ho,ho2,show Value.bool (lexLt ms ns)≠Value.notImplemented∧Q (.bool (lexLt ms ns)) s from⟨(fun x=>nomatch x),h⟩⟩ hu
end
end HT
namespace L2
open PySem PySem.Spec PyProof.Rows
section
variable{X:Cx}
def akw(K:PySem.W.Frag):List V→Hp→VK→Prop:=fun xs H Q=>∃a b ns ms,xs=[.ref a,.ref b]∧SqT K H a (ns.map V.int)∧SqT K H b (ms.map V.int)∧Q (.ref (if HT.lexLt ms ns=true then b else a)) H
def akx(K:PySem.W.Frag):List V→Hp→VK→Prop:=fun xs H Q=>∃a b ns ms,xs=[.ref a,.ref b]∧SqT K H a (ns.map V.int)∧SqT K H b (ms.map V.int)∧Q (.ref (if HT.lexLt ns ms=true then b else a)) H
theorem q5{h h':Heap}{a:Addr}{its:Array Value}(t:IsTup h a its)(k:∀d o,h.get? d=some o→h'.get? d=some o):IsTup h' a its:=by
 obtain⟨o,e,r⟩:=t;exact⟨o,k _ _ e,r⟩
theorem abo(hc:X.calm=true)(hu:X.A.units+1<cLine):iN X (.builtin "min") (akw X.K):=by
 intro pins s σ H xs us Q I r h;obtain⟨a,b,ns,ms,rfl,ha,hb,q⟩:=h;obtain⟨u,w',rfl,ru,rw'⟩:=vals2 r;obtain rfl:u=Value.ref a:=ru;obtain rfl:w'=Value.ref b:=rw';obtain⟨ia,va,ta,_⟩:=I.tuple ha;obtain⟨ib,vb,tb,_⟩:=I.tuple hb;refine min_two (c:=HT.lexLt ms ns) (I.ok.hd hc) (fun{s' Q' E'} k q'=>?_) fun h' tk k=>⟨_,H,I.kept k,?_,q⟩
 ·exact HT.Yf (q5 tb k) (q5 ta k) (by simpa using Vals.ints vb) (by simpa using Vals.ints va) hu q'
 ·cases HT.lexLt ms ns<;>rfl
theorem abp(hc:X.calm=true)(hu:X.A.units+1<cLine):iN X (.builtin "max") (akx X.K):=by
 intro pins s σ H xs us Q I r h;obtain⟨a,b,ns,ms,rfl,ha,hb,q⟩:=h;obtain⟨u,w',rfl,ru,rw'⟩:=vals2 r;obtain rfl:u=Value.ref a:=ru;obtain rfl:w'=Value.ref b:=rw';obtain⟨ia,va,ta,_⟩:=I.tuple ha;obtain⟨ib,vb,tb,_⟩:=I.tuple hb;refine max_two (c:=HT.lexLt ns ms) (I.ok.hd hc) (fun{s' Q' E'} k q'=>?_) fun h' tk k=>⟨_,H,I.kept k,?_,q⟩
 ·exact HT.Yn (q5 tb k) (q5 ta k) (by simpa using Vals.ints vb) (by simpa using Vals.ints va) hu q'
 ·cases HT.lexLt ns ms<;>rfl
end
abbrev ff:=List Key×List Key
def UP(P:Program)(w:World)(xs:List (ff×Addr×Value))(a:Addr):Heap→Prop:=fun h=>
 ∃o es ep,h.get? a=some o∧o.ExactDict∧o.data=.dict es ep∧es.toList=xs.map (entryOfKey (nU (aO P w)))
def MK(H:Hp)(b:Addr)(k:ff):Prop:=∃x y:Addr,H b=some (.tup [.ref x,.ref y])∧H x=some (.tup (k.1.map kV))∧H y=some (.tup (k.2.map kV))
def Hj(P:Program)(w:World)(H:Hp)(a:Addr)(kvs:List (ff×V)):Prop:=
 (a==sysModules)=false∧kvs.length≤sizeLine∧(kvs.map (·.1)).Nodup∧∃xs,H a=some (.ext (UP P w xs a))∧
  Paired (fun(p:ff×V)(q:ff×Addr×Value)=>p.1=q.1∧MK H q.2.1 p.1∧RelV p.2 q.2.2) kvs xs
abbrev K2(H:Hp):List (ff×V)→List (ff×Addr×Value)→Prop:=Paired (fun p q=>p.1=q.1∧MK H q.2.1 p.1∧RelV p.2 q.2.2)
theorem QJ{P:Program}{w:World}{H:Hp}{h:Heap}{b:Addr}{k:ff}(ok:HOk P w H h)(e:MK H b k):(nU (aO P w)).is h k b:=by
 obtain⟨x,y,e1,e2,e3⟩:=e;obtain⟨_,its,r,o,h1,h2,n,h3⟩:=(show cO P w H h b (.tup [.ref x,.ref y]) from ok b _ e1)
 obtain⟨u,v,rfl,ru,rv⟩:=vals2 r;cases ru;cases rv;obtain⟨oc,od,data,sl⟩:=o;simp only at h2 h3;subst h2 h3;exact⟨x,y,n,od,sl,h1,qW ok e2,qW ok e3⟩
theorem K2.keys{H:Hp}:∀{kvs:List (ff×V)}{xs:List (ff×Addr×Value)},K2 H kvs xs→kvs.map (·.1)=xs.map (·.1)
 |_,_,.nil=>rfl
 |_,_,.cons h t=>by rw[List.map_cons,List.map_cons,h.1,K2.keys t]
theorem K2.QK{H:Hp}(k:ff):∀{kvs:List (ff×V)}{xs:List (ff×Addr×Value)},K2 H kvs xs→(aR kvs k).isSome=(atKey xs k).isSome
 |_,_,.nil=>rfl
 |_,_,.cons (a:=p) (b:=q) h t=>by
  have ih:=K2.QK k t;by_cases e:p.1=k
  ·rw[fF e];have e2:q.1=k:=h.1.symm.trans e;simp[atKey,List.find?_cons,e2]
  ·rw[dD e,ih];have e2:¬q.1=k:=fun z=>e (h.1.trans z);simp[atKey,List.find?_cons,e2]
theorem K2.Z9{P:Program}{w:World}{H:Hp}{h:Heap}(ok:HOk P w H h):∀{kvs:List (ff×V)}{xs:List (ff×Addr×Value)},K2 H kvs xs→∀x∈xs,(nU (aO P w)).is h x.1 x.2.1
 |_,_,.nil=>fun x hx=>by cases hx
 |_,_,.cons (a:=p) (b:=q) e t=>fun x hx=>by
  rcases List.mem_cons.mp hx with z|z
  ·subst z;rw[←e.1];exact QJ ok e.2.1
  ·exact K2.Z9 ok t x z
theorem MK.same{H H':Hp}{b:Addr}{k:ff}(e:MK H b k)(ht:∀b xs,H b=some (.tup xs)→H' b=some (.tup xs)):MK H' b k:=by
 obtain⟨x,y,e1,e2,e3⟩:=e;exact⟨x,y,ht _ _ e1,ht _ _ e2,ht _ _ e3⟩
theorem K2.same{H H':Hp}(ht:∀b xs,H b=some (.tup xs)→H' b=some (.tup xs)):∀{kvs:List (ff×V)}{xs:List (ff×Addr×Value)},K2 H kvs xs→K2 H' kvs xs
 |_,_,.nil=>.nil
 |_,_,.cons e t=>.cons ⟨e.1,e.2.1.same ht,e.2.2⟩ (K2.same ht t)
theorem K2.snoc{H:Hp}{kvs:List (ff×V)}{xs:List (ff×Addr×Value)}(r:K2 H kvs xs){k:ff}{b:Addr}{v:V}{u:Value}(e:MK H b k)(ru:RelV v u):K2 H (kvs++[(k,v)]) (xs++[(k,b,u)]):=
 Paired.snoc r ⟨rfl,e,ru⟩
theorem adP{P:Program}{w:World}{H:Hp}{h:Heap}{a:Addr}{kvs:List (ff×V)}(ok:HOk P w H h)(d:Hj P w H a kvs):
  ∃xs,H a=some (.ext (UP P w xs a))∧K2 H kvs xs∧h.DictOfH (nU (aO P w)) a xs:=by
 obtain⟨h0,hl,nd,xs,e,r⟩:=d;obtain⟨⟨o,es,ep,q1,q2,q3,q4⟩,_,_⟩:=(show cO P w H h a (.ext (UP P w xs a)) from ok a _ e)
 exact⟨xs,e,r,o,es,ep,q1,q2,q3,q4,K2.Z9 ok r,by rw[←K2.keys r];exact nd⟩
theorem ahj{P:Program}{w:World}{H:Hp}{h:Heap}{a:Addr}{xs:List (ff×Addr×Value)}(d:h.DictOfH (nU (aO P w)) a xs):cO P w H h a (.ext (UP P w xs a)):=by
 obtain⟨o,es,ep,q1,q2,q3,q4,_⟩:=d;exact⟨⟨o,es,ep,q1,q2,q3,q4⟩,⟨o,q1⟩,fun h1 h2 ⟨o,es,ep,q1,q2⟩ k=>⟨o,es,ep,k _ q1,q2⟩⟩
def DGX(P:Program)(w:World)(H:Hp)(a:Addr)(y:V)(o:Bool):Prop:=
 (∃r,kC H a y r∧o=r.isSome)∨∃kvs kss b,Hj P w H a kvs∧y=.ref b∧MK H b kss∧o=(aR kvs kss).isSome
def DLX(P:Program)(w:World)(H:Hp)(a:Addr)(n:Nat):Prop:=
 (∃kvs,H a=some (.dK kvs)∧n=kvs.length)∨(∃kvs,H a=some (.dT kvs)∧n=kvs.length)∨∃kvs,Hj P w H a kvs∧n=kvs.length
def DPX(P:Program)(w:World)(H:Hp)(a:Addr)(y v:V)(Q:Hp→Prop):Prop:=
 (∃H',uU H a y v H'∧Q H')∨∃kvs kss b,Hj P w H a kvs∧y=.ref b∧MK H b kss∧kvs.length<sizeLine∧aR kvs kss=none∧
  ∀o,Hj P w (upd H a o) a (kvs++[(kss,v)])→Q (upd H a o)
section
variable{X:Cx}{o i value:Expr}{pos pos':Pos}{td ty tv:TE}{pins:List (Addr×Obj)}{σ:St}{H:Hp}{s:Shared}{a:Addr}{y v:V}{u r:Value}{A:Around}{E:Value→Shared→Prop}
theorem aky{k:Bool}{Q:Value→Shared→Prop}(hu:A.units+2<cLine)(I:Inv X pins σ H s)(g:DGX X.prog X.w H a y k)(ry:RelV y u)(h:∀s',Inv X pins σ H s'→Q (.bool k) s'):
  wpAny (model X.prog X.w) A (compareOp .In u (.ref a)) Q E s:=by
 rcases g with⟨r,g,e⟩|⟨kvs,kss,b,d,ey,ek,e⟩
 ·subst e;exact aia (Nat.lt_of_succ_lt hu) I g ry h
 ·subst ey;cases (show u=Value.ref b from ry);obtain⟨xs,_,rel,dd⟩:=adP I.hok d;refine wpAny_in_heap (knd:=nU (aO X.prog X.w)) (by exact hu) (QJ I.hok ek) d.1 dd ?_;rw[←K2.QK kss rel,←e];exact h _ (I.tok _)
theorem ait{Q:Hp→Prop}(hu:A.units+2<cLine)(I:Inv X pins σ H s)(g:DPX X.prog X.w H a y v Q)(ry:RelV y u)(rv:RelV v r){Q':Unit→Shared→Prop}(h:∀H' s',Inv X pins σ H' s'→Q H'→Q' () s'):
  wpAny (model X.prog X.w) A (setItem (.ref a) u r) Q' E s:=by
 rcases g with⟨H',g,q⟩|⟨kvs,kss,b,d,ey,ek,hl,hn,q⟩
 ·exact Pc (Nat.lt_of_succ_lt hu) I g ry rv fun s' I'=>h H' s' I' q
 ·subst ey;cases (show u=Value.ref b from ry);obtain⟨xs,hH,rel,dd⟩:=adP I.hok d;have hz:xs.length≤sizeLine:=by rw[←Paired.length rel];exact d.2.1
  have hat:atKey xs kss=none:=by
   have e:=K2.QK kss rel;rw[hn] at e;cases z:atKey xs kss with
   |none=>rfl
   |some _=>rw[z] at e;cases e
  refine wpAny_setItem_heap (hsz:=hz) (knd:=nU (aO X.prog X.w)) (by exact hu) (QJ I.hok ek) dd fun h' dd' hs=>?_;have he:∃q,h'.get? a=some q:=let ⟨q,_,_,hq,_⟩:=dd';⟨q,hq⟩
  have I':=qX (t':=s.toks+(nU (aO X.prog X.w)).draws kss) I (by rw[hH];exact True.intro) hs he (ahj dd');refine h _ _ I' (q _ ⟨d.1,by rw[List.length_append];exact hl,?_,_,ae,?_⟩)
  ·rw[List.map_append];exact xq d.2.2.1 (UE hn)
  ·rw[storedH_new hat];refine K2.same (H:=H) (fun c ys ec=>?_) (K2.snoc rel ek rv);rw[ab (aK ec hH (fun z=>nomatch z))];exact ec
theorem aiu{n:Nat}{Q:Value→Shared→Prop}(I:Inv X pins σ H s)(g:DLX X.prog X.w H a n)(h:∀t s',Inv X pins σ H s'→Q (.int n t) s'):wpAny (model X.prog X.w) A (call (.builtin "len") [.ref a]) Q E s:=by
 rcases g with⟨kvs,e,en⟩|⟨kvs,e,en⟩|⟨kvs,d,en⟩
 ·subst en;exact ahg I (.inl e) h
 ·subst en;obtain⟨z,hd,xs,rel,o,es,ep,h1,h2,h3,h4,_⟩:=ahf I.hok e;have hs:es.size=kvs.length:=by rw[size_of_entries h4,←Paired.length rel]
  refine AZ hd h1 h2 h3 (by rw[hs];exact z) fun t t'=>?_;rw[hs];exact h _ _ (I.tok _)
 ·subst en;obtain⟨xs,_,rel,o,es,ep,h1,h2,h3,h4,_⟩:=adP I.hok d;have hs:es.size=kvs.length:=by rw[size_of_entries h4,←Paired.length rel]
  refine AZ d.1 h1 h2 h3 (by rw[hs];exact d.2.1) fun t t'=>?_;rw[hs];exact h _ _ (I.tok _)
def akz(X:Cx)(ty td:TE):TE:=fun σ H Q=>ty σ H fun y H1=>td σ H1 fun x H2=>∃a k,x=.ref a∧DGX X.prog X.w H2 a y k∧Q (.bl k) H2
def aiv(X:Cx)(td ty tv:TE):TS:=fun D σ H=>tv σ H fun v H1=>td σ H1 fun x H2=>ty σ H2 fun y H3=>∃a,x=.ref a∧DPX X.prog X.w H3 a y v (D.nx σ)
theorem aaa(hu:X.A.units+2<cLine)(hi:PE X i ty)(ho:PE X o td):PC X .In i o (akz X ty td):=by
 intro pins s σ H Q I h;refine thn (hi pins s σ H _ I h) fun iv s1 ⟨y,H1,I1,ry,q1⟩=>thn (ho pins s1 σ H1 _ I1 q1) fun u s2 ⟨x,H2,I2,rx,a,k,ex,g,q2⟩=>?_;subst ex;obtain rfl:u=Value.ref a:=rx;exact aky hu I2 g ry fun s3 I3=>⟨.bl k,H2,I3,rfl,q2⟩
theorem adQ(hu:X.A.units+2<cLine)(ho:PE X o td)(hi:PE X i ty)(hv:PE X value tv)(hs:swapsWith value (some (.Subscript o i pos')) pos.line X.env=pure false):
  PS X (.Assign [.Subscript o i pos'] value pos) (aiv X td ty tv):=by
 intro pins s σ H D I h;refine wpAny_Assign_Subscript (thn (hv pins s σ H _ I h) fun r s1 ⟨v,H1,I1,rv,q1⟩=>thn (ho pins s1 σ H1 _ I1 q1) fun u s2 ⟨x,H2,I2,rx,q2⟩=>thn (hi pins s2 σ H2 _ I2 q2) fun iv s3 ⟨y,H3,I3,ry,a,ex,g⟩=>?_) hs;subst ex;obtain rfl:u=Value.ref a:=rx;exact ait hu I3 g ry rv fun H4 s4 I4 q=>⟨σ,H4,I4,q⟩
theorem xu:iN X (.builtin "len") (fun xs H Q=>∃a n,xs=[V.ref a]∧DLX X.prog X.w H a n∧Q (.int n) H):=by
 intro pins s σ H xs us Q I r h;obtain⟨a,n,rfl,g,q⟩:=h;obtain⟨u,rfl,ru⟩:=vals1 r;cases ru;exact aiu I g fun t s' I'=>⟨.int n,H,I',⟨t,rfl⟩,q⟩
def aiw(X:Cx):TE:=fun _ H Q=>∀p o,H p=none→Hj X.prog X.w (upd H p o) p []→Q (.ref p) (upd H p o)
theorem adR:PE X (.Dict [] [] pos) (aiw X):=fun pins s σ H Q I h=>
 wpAny_Dict_empty ⟨.ref s.heap.objs.size,_,I.laid (a:=s.heap.objs.size) (o:=.ext (UP X.prog X.w [] s.heap.objs.size)) (t':=s.toks) (fun _ _ q=>Heap.get?_push_of_some _ q) (Nat.le_refl _)
   (ahj (Heap.DictOfH.new s.heap)),rfl,
  h _ _ (I.hok.fresh (Nat.le_refl _)) ⟨beq_eq_false_iff_ne.mpr (Ne.symm (Nat.ne_of_lt I.big)),Nat.zero_le _,List.nodup_nil,[],ae,.nil⟩⟩
end
end L2
end
section
namespace L2
open PySem PySem.Spec PyProof.Rows
theorem IxR.imp{X:Cx}{r r':R2}(h:IxR X r)(i:∀x y H Q,r' x y H Q→r x y H Q):IxR X r':=fun value slice pins s σ H x y v u Q I rx ry q e=>h value slice pins s σ H x y v u Q I rx ry (i _ _ _ _ q) e
theorem iN.imp{X:Cx}{f:Value}{r r':List V→Hp→VK→Prop}(h:iN X f r)(i:∀xs H Q,r' xs H Q→r xs H Q):iN X f r':=fun pins s σ H xs us Q I rv q=>h pins s σ H xs us Q I rv (i _ _ _ q)
def aix:R2:=fun x y H Q=>∃p xs i v,x=.ref p∧y=.int i∧H p=some (.lst xs)∧atI xs i=some v∧Q v H
theorem bL{X:Cx}:IxR X aix:=Qt.imp fun x y H Q ⟨p,xs,i,v,e1,e2,h,e3,q⟩=>⟨p,xs,i,v,e1,e2,SqL.of h,e3,q⟩
def ahk:List V→Hp→VK→Prop:=fun vs H Q=>∃p xs,vs=[.ref p]∧H p=some (.lst xs)∧Q (.int xs.length) H
theorem cE{X:Cx}:iN X (.builtin "len") ahk:=qU.imp fun vs H Q ⟨p,xs,e,h,q⟩=>⟨p,xs,e,.inl (SqL.of h),q⟩
def akA(x y:V)(H:Hp)(Q:VK):Prop:=∃a kvs i v,x=.ref a∧y=.int i∧H a=some (.dK kvs)∧aR kvs (.inl i)=some v∧Q v H
def am1(x y:V)(H:Hp)(Q:VK):Prop:=∃a kvs i,x=.ref a∧y=.int i∧H a=some (.dK kvs)∧Q (.bl (aR kvs (.inl i)).isSome) H
def agb(x y:V)(H:Hp)(Q:VK):Prop:=∃a kvs i,x=.ref a∧y=.int i∧H a=some (.dK kvs)∧Q (.bl (!(aR kvs (.inl i)).isSome)) H
section
variable{X:Cx}{o i:Expr}{pos:Pos}{td ty:TE}
def aiy(td ty:TE):TE:=fun σ H Q=>td σ H fun x H1=>ty σ H1 fun y H2=>akA x y H2 Q
def akB(ty td:TE):TE:=fun σ H Q=>ty σ H fun y H1=>td σ H1 fun x H2=>am1 x y H2 Q
def adS(ty td:TE):TE:=fun σ H Q=>ty σ H fun y H1=>td σ H1 fun x H2=>agb x y H2 Q
theorem adT(hu:X.A.units+1<cLine)(ho:PE X o td)(hi:PE X i ty)(hs:af0 i):PE X (.Subscript o i pos) (aiy td ty):=by
 intro pins s σ H Q I h;refine QB PySem.F.slot_dict_getitem.lookup hs (thn (ho pins s σ H _ I h) fun u s1 ⟨x,H1,I1,rx,q1⟩=>thn (hi pins s1 σ H1 _ I1 q1) fun iv s2 ⟨y,H2,I2,ry,a,kvs,j,v,ex,ey,g,l,q2⟩=>?_);subst ex ey;obtain rfl:u=Value.ref a:=rx;have g':kC H2 a (kV (.inl j)) (some v):=.inl ⟨kvs,.inl j,.inl g,rfl,l.symm⟩;exact⟨Fq I2 g',Pb hu I2 g' ry fun w' s3 I3 rw'=>⟨v,H2,I3,rw',q2⟩⟩
theorem agc(hu:X.A.units+1<cLine)(hi:PE X i ty)(ho:PE X o td):PC X .In i o (akB ty td):=by
 intro pins s σ H Q I h;refine thn (hi pins s σ H _ I h) fun iv s1 ⟨y,H1,I1,ry,q1⟩=>thn (ho pins s1 σ H1 _ I1 q1) fun u s2 ⟨x,H2,I2,rx,a,kvs,j,ex,ey,g,q2⟩=>?_;subst ex ey;obtain rfl:u=Value.ref a:=rx;exact aia hu I2 (kC.k (k:=.inl j) g) ry fun s3 I3=>⟨.bl _,H2,I3,rfl,q2⟩
theorem Jv(hu:X.A.units+1<cLine)(hi:PE X i ty)(ho:PE X o td):PC X .NotIn i o (adS ty td):=by
 intro pins s σ H Q I h;refine thn (hi pins s σ H _ I h) fun iv s1 ⟨y,H1,I1,ry,q1⟩=>thn (ho pins s1 σ H1 _ I1 q1) fun u s2 ⟨x,H2,I2,rx,a,kvs,j,ex,ey,g,q2⟩=>?_;subst ex ey;obtain rfl:u=Value.ref a:=rx;exact Z0 hu I2 (kC.k (k:=.inl j) g) ry fun s3 I3=>⟨.bl _,H2,I3,rfl,q2⟩
end
end L2
end
section
namespace L2
open PySem PySem.Spec PyProof.Rows
def zm(J:It)(xs:List V)(G:Hp→Prop):Prop:=∀i H,G H→(i<xs.length→J.go i H)∧(xs.length≤i→J.stop i H)∧(i<xs.length→∀x H',J.yld i H x H'→H'=H∧xs[i]?=some x)
theorem eW{K:PySem.W.Frag}{a:Addr}{xs:List V}:zm (Itl K a) xs (fun H=>SqL K H a xs):=fun i H h=>
 ⟨fun hi=>⟨xs,xs[i],h,List.getElem?_eq_getElem hi⟩,fun hi=>⟨xs,h,hi⟩,fun _ x H' ⟨e,y⟩=>⟨e,y xs h⟩⟩
theorem Yo{lo:Int}{n:Nat}{G:Hp→Prop}:zm (Itr lo n) ((List.range n).map fun i=>.int (lo+(i:Nat))) G:=fun i H _=>by
 refine⟨fun hi=>?_,fun hi=>?_,fun hi x H' ⟨e,y⟩=>⟨e,?_⟩⟩
 ·rw[List.length_map,List.length_range] at hi;exact hi
 ·rw[List.length_map,List.length_range] at hi;exact hi
 ·rw[List.length_map,List.length_range] at hi;rw[List.getElem?_map,List.getElem?_range hi,y];rfl
theorem gD{d:Addr}{o:Obj}{kvs:List (Key×V)}:zm (Itk d o kvs) (kvs.map fun k=>kV k.1) (fun H=>H d=some (.frz o (.dK kvs))):=fun i H h=>by
 refine⟨fun hi=>⟨h,by rw[List.length_map] at hi;exact hi⟩,fun hi=>⟨h,by rw[List.length_map] at hi;exact hi⟩,fun _ x H' ⟨e,k,v,q,y⟩=>⟨e,?_⟩⟩;rw[List.getElem?_map,q,y];rfl
theorem abq{d:Addr}{o:Obj}{kvs:List (Key×V)}:zm (Itd d o kvs) (kvs.map fun k=>k.2) (fun H=>H d=some (.frz o (.dK kvs))):=fun i H h=>by
 refine⟨fun hi=>⟨h,by rw[List.length_map] at hi;exact hi⟩,fun hi=>⟨h,by rw[List.length_map] at hi;exact hi⟩,fun _ x H' ⟨e,k,q⟩=>⟨e,?_⟩⟩;rw[List.getElem?_map,q];rfl
theorem je{J:It}{xs:List V}{G:Hp→Prop}{g:TG}{tb:TS}{D:Ends}{σ:St}{H:Hp}(R:zm J xs G)(Pv:Nat→St→Hp→Prop)(h0:Pv 0 σ H)(hG:∀i σ H,Pv i σ H→G H)
  (hs:∀i x σ H,xs[i]?=some x→Pv i σ H→g x σ H fun σ2 H2=>tb {D with nx:=Pv (i+1),ct:=Pv (i+1),bk:=D.nx} σ2 H2) (hd:∀σ H,Pv xs.length σ H→D.nx σ H):
  ∃W:Nat→Nat→St→Hp→Prop,(∃m,W 0 m σ H)∧∀i m σ H,W i m σ H→
   (J.stop i H∧D.nx σ H)∨(J.go i H∧∃N:St→Hp→Prop,(∀σ' H',N σ' H'→∃m',m'<m∧W (i+1) m' σ' H')∧∀x H',J.yld i H x H'→g x σ H' fun σ2 H2=>tb {D with nx:=N,ct:=N,bk:=D.nx} σ2 H2):=by
 refine⟨fun i m σ H=>m+i=xs.length∧Pv i σ H,⟨xs.length,rfl,h0⟩,fun i m σ H ⟨hm,p⟩=>?_⟩;obtain⟨r1,r2,r3⟩:=R i H (hG i σ H p);cases m with
 |zero=>
  have e:i=xs.length:=by omega
  exact .inl ⟨r2 (by omega),by subst e;exact hd σ H p⟩
 |succ m=>
  refine .inr ⟨r1 (by omega),Pv (i+1),fun σ' H' p'=>⟨m,by omega,by omega,p'⟩,fun x H' y=>?_⟩;obtain⟨e,q⟩:=r3 (by omega) x H' y;subst e;exact hs i x σ _ q p
theorem agd{J:It}{xs:List V}{G:Hp→Prop}{g:TG}{tt:TT}{te:TE}{vs:List Nat}{σ:St}{H1:Hp}{D:Addr}{Qd:Hp→Prop}(R:zm J xs G)(Pv:Nat→Hp→Prop)(h0:Pv 0 (upd H1 D (.lst [])))(hG:∀i H,Pv i H→G H)
  (hs:∀i x H,xs[i]?=some x→Pv i H→g x (wipe σ vs) H fun σ2 H2=>wipe σ2 vs=wipe σ vs∧tt σ2 H2 fun b H3=>
   if b=true then te σ2 H3 fun y H4=>∃acc,H4 D=some (.lst acc)∧acc.length<sizeLine∧Pv (i+1) (upd H4 D (.lst (acc++[y]))) else Pv (i+1) H3) (hd:∀H,Pv xs.length H→Qd H):
  ∃W:Nat→Nat→Hp→Prop,(∃m,W 0 m (upd H1 D (.lst [])))∧∀i m H,W i m H→
   (J.stop i H∧Qd H)∨(J.go i H∧∃Nx:Hp→Prop,(∀H',Nx H'→∃m',m'<m∧W (i+1) m' H')∧∀x H',J.yld i H x H'→g x (wipe σ vs) H' fun σ2 H2=>wipe σ2 vs=wipe σ vs∧tt σ2 H2 fun b H3=>
    if b=true then te σ2 H3 fun y H4=>∃acc,H4 D=some (.lst acc)∧acc.length<sizeLine∧Nx (upd H4 D (.lst (acc++[y]))) else Nx H3):=by
 refine⟨fun i m H=>m+i=xs.length∧Pv i H,⟨xs.length,rfl,h0⟩,fun i m H ⟨hm,p⟩=>?_⟩;obtain⟨r1,r2,r3⟩:=R i H (hG i H p);cases m with
 |zero=>
  have e:i=xs.length:=by omega
  exact .inl ⟨r2 (by omega),by subst e;exact hd H p⟩
 |succ m=>
  refine .inr ⟨r1 (by omega),Pv (i+1),fun H' p'=>⟨m,by omega,by omega,p'⟩,fun x H' y=>?_⟩;obtain⟨e,q⟩:=r3 (by omega) x H' y;subst e;exact hs i x _ q p
def akC(H H':Hp):Prop:=∀b xs,H b=some (.tup xs)→H' b=some (.tup xs)
theorem xw{α β:Type}{R S:α→β→Prop}(h:∀a b,R a b→S a b):∀{xs:List α}{ys:List β},Paired R xs ys→Paired S xs ys
 |_,_,.nil=>.nil
 |_,_,.cons r t=>.cons (h _ _ r) (xw h t)
theorem gE{J:It}{xs:List V}{G:Hp→Prop}{g:TG}{tt:TT}{te:TE}{vs:List Nat}{σ:St}{H1:Hp}{D:Addr}{Qd:Hp→Prop}(R:zm J xs G)(hG:∀H,aF H1 H→G H)(hn:H1 D=none)(pf:V→Bool)(F:V→V→Hp→Prop)
  (hF:∀x y H H',F x y H→akC H H'→F x y H') (hz:xs.length<sizeLine)
  (hs:∀(i:Nat)(x:V)(H:Hp),xs[i]?=some x→aF H1 H→∀(N:Hp→Prop)(Y:V→Hp→Prop),(∀H',aF H H'→pf x=false→N H')→(∀y H',aF H H'→pf x=true→F x y H'→Y y H')→
   g x (wipe σ vs) H fun σ2 H2=>wipe σ2 vs=wipe σ vs∧tt σ2 H2 fun b H3=>if b=true then te σ2 H3 Y else N H3)
  (hd:∀H ys,aF H1 H→H D=some (.lst ys)→Paired (fun x y=>F x y H) (xs.filter pf) ys→Qd H):
  ∃W:Nat→Nat→Hp→Prop,(∃m,W 0 m (upd H1 D (.lst [])))∧∀i m H,W i m H→
   (J.stop i H∧Qd H)∨(J.go i H∧∃Nx:Hp→Prop,(∀H',Nx H'→∃m',m'<m∧W (i+1) m' H')∧∀x H',J.yld i H x H'→g x (wipe σ vs) H' fun σ2 H2=>wipe σ2 vs=wipe σ vs∧tt σ2 H2 fun b H3=>
    if b=true then te σ2 H3 fun y H4=>∃acc,H4 D=some (.lst acc)∧acc.length<sizeLine∧Nx (upd H4 D (.lst (acc++[y]))) else Nx H3):=by
 refine agd R (fun i H=>i≤xs.length∧aF H1 H∧∃ys,H D=some (.lst ys)∧Paired (fun x y=>F x y H) ((xs.take i).filter pf) ys) ⟨Nat.zero_le _,fun b o e=>?_,[],ae,.nil⟩ (fun i H p=>hG H p.2.1) (fun i x H hx p=>?_) (fun H p=>?_)
 ·rw[ab (ai e hn)];exact e
 ·obtain⟨hi,sm,ys,hD,pr⟩:=p;have hlt:i<xs.length:=(List.getElem?_eq_some_iff.mp hx).1;have et:xs.take (i+1)=xs.take i++[x]:=by rw[List.take_add_one,hx];rfl
  refine hs i x H hx sm _ _ (fun H' s' e=>?_) (fun y H' s' e f=>?_)
  ·refine⟨hlt,sm.trans s',ys,s' _ _ hD,?_⟩;rw[et,List.filter_append,List.filter_cons,if_neg (by rw[e];decide),List.filter_nil,List.append_nil];exact xw (fun a b r=>hF a b H H' r fun c zs e=>s' c _ e) pr
  ·have tp:akC H' (upd H' D (.lst (ys++[y]))):=fun c zs e=>by rw[ab (aK e (s' _ _ hD) (fun z=>nomatch z))];exact e
   have hl:ys.length≤i:=by
    rw[←Paired.length pr];exact Nat.le_trans (List.length_filter_le _ _) (by rw[List.length_take];omega)
   refine⟨ys,s' _ _ hD,by omega,hlt,fun b o q=>?_,ys++[y],ae,?_⟩
   ·rw[ab (ai q hn)];exact s' _ _ (sm _ _ q)
   ·rw[et,List.filter_append,List.filter_cons,if_pos e,List.filter_nil];exact Paired.snoc (xw (fun a b r=>hF a b H' _ (hF a b H H' r fun c zs e=>s' c _ e) tp) pr) (hF _ _ _ _ f tp)
 ·obtain⟨_,sm,ys,hD,pr⟩:=p;rw[List.take_length] at pr;exact hd H ys sm hD pr
theorem rf{α β:Type}{f:α→β}:∀{xs:List α}{ys:List β},Paired (fun x y=>y=f x) xs ys→ys=xs.map f
 |_,_,.nil=>rfl
 |_,_,.cons r t=>by rw[List.map_cons,r,rf t]
end L2
end
section
namespace L2
open PySem
section
variable{prog:Program}{w:World}{κ:Type}[DecidableEq κ]{knd:HeapKind prog w κ}{A:Around}{E:Value→Shared→Prop}{s:Shared}{d a:Addr}{k:κ}{xs:List (κ×Addr×Value)}
theorem grown{h:Heap}{o:Obj}{es:Array DictEntry}{ep:Nat}{v:Value}(key:knd.is h k a)(ho:h.get? d=some o)(hc:o.ExactDict)(hd:o.data=.dict es ep)(he:es.toList=xs.map (entryOfKey knd))(hi:∀x∈xs,knd.is h x.1 x.2.1)
  (hn:(xs.map (·.1)).Nodup) (no:k∉xs.map (·.1)):(h.update d (Obj.mapDictKeys fun z=>z.push ⟨knd.hash k,.ref a,v⟩)).DictOfH knd d (xs++[(k,a,v)]):=by
 have sb:=Heap.SameBut.update (h:=h) (a:=d) (f:=Obj.mapDictKeys fun z=>z.push ⟨knd.hash k,.ref a,v⟩);refine⟨_,es.push ⟨knd.hash k,.ref a,v⟩,ep+1,Heap.get?_update_self _ ho (Obj.isFreed_of_dict (Obj.data_mapDictKeys hd _)),hc.mapDictKeys _,Obj.data_mapDictKeys hd _,?_,fun x hx=>?_,?_⟩
 ·rw[Array.toList_push,he,List.map_append];rfl
 ·have hx':x∈xs∨x=(k,a,v):=by simpa using hx
  rcases hx' with z|z
  ·exact knd.keeps (hi x z) ho hd sb
  ·rw[z];exact knd.keeps key ho hd sb
 ·have e:(xs++[(k,a,v)]).map (·.1)=xs.map (·.1)++[k]:=by simp
  rw[e];exact List.nodup_append.mpr ⟨hn,List.nodup_cons.mpr ⟨by simp,List.nodup_nil⟩,fun x hx y hy=>by rw[List.mem_singleton.mp hy];exact fun z=>no (z▸hx)⟩
theorem Hk{v:Value}{Q:Value→Shared→Prop}(nd:(d==sysModules)=false)(hu:knd.room A.in1)(key:knd.is s.heap k a)(hm:s.heap.DictOfH knd d xs)(hz:xs.length≤sizeLine)
  (h1:∀p,atKey xs k=some p→∀t,Q p.2 {s with toks:=t}) (h2:atKey xs k=none→∀h' t,h'.DictOfH knd d (xs++[(k,a,v)])→Heap.SameBut d s.heap h'→Q v {s with heap:=h',toks:=t}):
  wpAny (model prog w) A (call (.builtin "dict.setdefault") [.ref d,.ref a,v]) Q E s:=by
 have hT:=hm.typeIs;obtain⟨o,es,ep,ho,hc,hd,he,hi,hn⟩:=hm;have found:=fun Q' q1 q2=>wpAny_dictFind_heap (Q:=Q') (E:=E) (s:={s with toks:=s.toks+knd.draws k}) hu key ho hd he hi hn q1 q2;refine wpAny_call_entry F.slot_dict_setdefault hT F.entry_dict_setdefault ?_ (F.args_dict_setdefault_3 _ _ _);unfold Builtin.«dict.setdefault» Builtin.Dict.keyAndDefault;refine wpAny_bind (wpAny_bind (wpAny_notOrdered_dict hT (wpAny_pure ?_)));refine wpAny_ite_false (decide_eq_false (by rw[nd];exact Bool.false_ne_true)) ?_;unfold dictSetDefault;refine wpAny_bind (wpAny_holding (wpAny_bind (knd.pyHash hu key (wpAny_bind (found _ ?_ ?_)))))
 ·intro no
  wp_walk using (wpAny_updateDictKeys (hz:=by have e:=size_of_entries he;omega) (s:={s with toks:=s.toks+knd.draws k}) ho hd)
  exact⟨_,rfl,h2 (atKey_none_of_get no) _ _ (grown key ho hc hd he hi hn (not_mem_keys_of_get no)) (Heap.SameBut.update ..)⟩
 ·intro j p hj;refine wpAny_bind (wpAny_dictEntries (s:=⟨s.heap,s.gens,s.drawn,s.toks+knd.draws k,s.os⟩) ho hd ?_);rw[entry_at he j,hj]
  wp_walk
  exact⟨_,rfl,h1 p (atKey_of_get hn hj) _⟩
end
end L2
end
section
namespace L2
open PySem PySem.Spec PyProof.Rows
def Po(P:Program)(w:World)(xs:List (List Key×Addr×Value))(a:Addr):Heap→Prop:=fun h=>
 ∃o es ep,h.get? a=some o∧o.ExactDict∧o.data=.dict es ep∧es.toList=xs.map (entryOfKey (tupleKind (aO P w)))
abbrev KQ(K:PySem.W.Frag)(H:Hp):List (List Key×V)→List (List Key×Addr×Value)→Prop:=Paired (fun p q=>p.1=q.1∧SqT K H q.2.1 (p.1.map kV)∧RelV p.2 q.2.2)
def rg(P:Program)(w:World)(K:PySem.W.Frag)(H:Hp)(a:Addr)(kvs:List (List Key×V)):Prop:=
 (a==sysModules)=false∧kvs.length≤sizeLine∧(kvs.map (·.1)).Nodup∧∃xs,H a=some (.ext (Po P w xs a))∧KQ K H kvs xs
theorem KQ.keys{K:PySem.W.Frag}{H:Hp}:∀{kvs:List (List Key×V)}{xs:List (List Key×Addr×Value)},KQ K H kvs xs→kvs.map (·.1)=xs.map (·.1)
 |_,_,.nil=>rfl
 |_,_,.cons h t=>by rw[List.map_cons,List.map_cons,h.1,KQ.keys t]
theorem KQ.val{K:PySem.W.Frag}{H:Hp}(k:List Key):∀{kvs:List (List Key×V)}{xs:List (List Key×Addr×Value)},KQ K H kvs xs→oZ (aR kvs k) ((atKey xs k).map (·.2))
 |_,_,.nil=>True.intro
 |_,_,.cons (a:=p) (b:=q) h t=>by
  by_cases e:p.1=k
  ·rw[fF e];have e2:q.1=k:=h.1.symm.trans e;simp only[atKey,List.find?_cons,e2,decide_true,Option.map_some];exact h.2.2
  ·rw[dD e];have e2:¬q.1=k:=fun z=>e (h.1.trans z);have ih:=KQ.val k t;simp only[atKey,List.find?_cons,e2,decide_false] at ih⊢;exact ih
theorem KQ.same{K:PySem.W.Frag}{H H':Hp}(ht:∀b xs,SqT K H b xs→SqT K H' b xs):∀{kvs:List (List Key×V)}{xs:List (List Key×Addr×Value)},KQ K H kvs xs→KQ K H' kvs xs
 |_,_,.nil=>.nil
 |_,_,.cons e t=>.cons ⟨e.1,ht _ _ e.2.1,e.2.2⟩ (KQ.same ht t)
section
variable{X:Cx}{pins:List (Addr×Obj)}{σ:St}{H:Hp}{s:Shared}{a:Addr}{A:Around}{E:Value→Shared→Prop}
theorem QL{b:Addr}{ks:List Key}(I:Inv X pins σ H s)(h:SqT X.K H b (ks.map kV)):(tupleKind (aO X.prog X.w)).is s.heap ks b:=by
 obtain⟨its,r,⟨o,h1,h2,n,h3⟩,_⟩:=I.tuple h;exact⟨o,its.toArray,n,h1,h2,h3,by simpa using xo r⟩
theorem KQ.mem(I:Inv X pins σ H s):∀{kvs:List (List Key×V)}{xs:List (List Key×Addr×Value)},KQ X.K H kvs xs→∀x∈xs,(tupleKind (aO X.prog X.w)).is s.heap x.1 x.2.1
 |_,_,.nil=>fun x hx=>by cases hx
 |_,_,.cons (a:=p) (b:=q) e t=>fun x hx=>by
  rcases List.mem_cons.mp hx with z|z
  ·subst z;rw[←e.1];exact QL I e.2.1
  ·exact KQ.mem I t x z
theorem adU{kvs:List (List Key×V)}(I:Inv X pins σ H s)(d:rg X.prog X.w X.K H a kvs):∃xs,H a=some (.ext (Po X.prog X.w xs a))∧KQ X.K H kvs xs∧s.heap.DictOfH (tupleKind (aO X.prog X.w)) a xs:=by
 obtain⟨h0,hl,nd,xs,e,r⟩:=d;obtain⟨⟨o,es,ep,q1,q2,q3,q4⟩,_,_⟩:=(show cO X.prog X.w H s.heap a (.ext (Po X.prog X.w xs a)) from I.hok a _ e)
 exact⟨xs,e,r,o,es,ep,q1,q2,q3,q4,KQ.mem I r,by rw[←KQ.keys r];exact nd⟩
theorem ahl{P:Program}{w:World}{H:Hp}{h:Heap}{xs:List (List Key×Addr×Value)}(d:h.DictOfH (tupleKind (aO P w)) a xs):cO P w H h a (.ext (Po P w xs a)):=by
 obtain⟨o,es,ep,q1,q2,q3,q4,_⟩:=d;exact⟨⟨o,es,ep,q1,q2,q3,q4⟩,⟨o,q1⟩,fun h1 h2 ⟨o,es,ep,q1,q2⟩ k=>⟨o,es,ep,k _ q1,q2⟩⟩
theorem aab{kvs:List (List Key×V)}(I:Inv X pins σ H s)(d:rg X.prog X.w X.K H a kvs):s.TypeIs (.ref a) "dict"∧∀b,Value.ref a=.ref b→∃ob,s.heap.get? b=some ob∧ob.dict=none:=by
 obtain⟨xs,_,_,dd⟩:=adU I d;refine⟨dd.typeIs,fun b e=>?_⟩;cases e;obtain⟨o,_,_,h1,h2,_⟩:=dd;exact⟨o,h1,h2.2.1⟩
end
section
variable{X:Cx}{o e f:Expr}{apos cpos pos:Pos}{td ty tx:TE}
def aiz(X:Cx):TE:=fun _ H Q=>∀p o,H p=none→rg X.prog X.w X.K (upd H p o) p []→Q (.ref p) (upd H p o)
theorem adV:PE X (.Dict [] [] pos) (aiz X):=fun pins s σ H Q I h=>
 wpAny_Dict_empty ⟨.ref s.heap.objs.size,_,I.laid (a:=s.heap.objs.size) (o:=.ext (Po X.prog X.w [] s.heap.objs.size)) (t':=s.toks) (fun _ _ q=>Heap.get?_push_of_some _ q) (Nat.le_refl _)
   (ahl (Heap.DictOfH.new s.heap)),rfl,
  h _ _ (I.hok.fresh (Nat.le_refl _)) ⟨beq_eq_false_iff_ne.mpr (Ne.symm (Nat.ne_of_lt I.big)),Nat.zero_le _,List.nodup_nil,[],ae,.nil⟩⟩
def aiA(X:Cx)(td ty tx:TE):TE:=fun σ H Q=>td σ H fun x H1=>∃a kvs,x=.ref a∧rg X.prog X.w X.K H1 a kvs∧ty σ H1 fun y H2=>tx σ H2 fun z H3=>∃kvs ks b,rg X.prog X.w X.K H3 a kvs∧y=.ref b∧SqT X.K H3 b (ks.map kV)∧Q ((aR kvs ks).getD z) H3
theorem UQ(hu:X.A.units+1<cLine)(ho:PE X o td)(he:PE X e ty)(hf:PE X f tx)(m:M2 X o "get" apos e f cpos):PE X (.Call (.Attribute o "get" apos) [e,f] [] cpos) (aiA X td ty tx):=by
 intro pins s σ H Q I h;refine wpAny_Call_method m.base m.few m.line PySem.F.plainAttrs_dict PySem.F.slot_dict_get PySem.F.type_dict_get (thn (ho pins s σ H _ I h) fun u s1 ⟨x,H1,I1,rx,a,kvs,ex,d,q1⟩=>?_);subst ex;obtain rfl:u=Value.ref a:=rx;refine⟨(aab I1 d).1,(aab I1 d).2,?_⟩;rw[m.trees];refine Calls.callWith_builtin rfl (Calls.evalArgs_plain (Calls.spliced_cons (thn (he pins s1 σ H1 _ I1 q1) fun iv s2 ⟨y,H2,I2,ry,q2⟩=>
  Calls.spliced_cons (thn (hf pins s2 σ H2 _ I2 q2) fun fv s3 ⟨z,H3,I3,rz,kvs,ks,b,d3,ey,hk,q3⟩=>Calls.spliced_nil ?_))))
 subst ey;cases (show iv=Value.ref b from ry);obtain⟨xs,_,rel,dd⟩:=adU I3 d3;exact call_meetsIn PySem.F.slot_dict_get dd.typeIs PySem.F.entry_dict_get (PySem.F.args_dict_get_3 _ _ _) (meetsH_dict_get_default (tupleKind (aO X.prog X.w)) a b d3.1 fv) ⟨tupleKind_room_in1 hu,ks,xs,QL I3 hk,dd,⟨_,H3,I3.tok _,(rel.val ks).getD rz,q3⟩⟩
def aiB(X:Cx)(td ty tx:TE):TE:=fun σ H Q=>td σ H fun x H1=>∃a kvs,x=.ref a∧rg X.prog X.w X.K H1 a kvs∧ty σ H1 fun y H2=>tx σ H2 fun z H3=>∃kvs ks b,rg X.prog X.w X.K H3 a kvs∧y=.ref b∧SqT X.K H3 b (ks.map kV)∧kvs.length<sizeLine∧
 (∀v,aR kvs ks=some v→Q v H3)∧(aR kvs ks=none→∀o,rg X.prog X.w X.K (upd H3 a o) a (kvs++[(ks,z)])→Q z (upd H3 a o))
theorem adW(hu:X.A.units+1<cLine)(ho:PE X o td)(he:PE X e ty)(hf:PE X f tx)(m:M2 X o "setdefault" apos e f cpos):PE X (.Call (.Attribute o "setdefault" apos) [e,f] [] cpos) (aiB X td ty tx):=by
 intro pins s σ H Q I h;refine wpAny_Call_method m.base m.few m.line PySem.F.plainAttrs_dict PySem.F.slot_dict_setdefault PySem.F.type_dict_setdefault (thn (ho pins s σ H _ I h) fun u s1 ⟨x,H1,I1,rx,a,kvs,ex,d,q1⟩=>?_);subst ex;obtain rfl:u=Value.ref a:=rx;refine⟨(aab I1 d).1,(aab I1 d).2,?_⟩;rw[m.trees];refine Calls.callWith_builtin rfl (Calls.evalArgs_plain (Calls.spliced_cons (thn (he pins s1 σ H1 _ I1 q1) fun iv s2 ⟨y,H2,I2,ry,q2⟩=>
  Calls.spliced_cons (thn (hf pins s2 σ H2 _ I2 q2) fun fv s3 ⟨z,H3,I3,rz,kvs,ks,b,d3,ey,hk,hl,q3,q4⟩=>Calls.spliced_nil ?_))))
 subst ey;cases (show iv=Value.ref b from ry);obtain⟨xs,hH,rel,dd⟩:=adU I3 d3;have len:kvs.length=xs.length:=Paired.length rel;refine Hk (knd:=tupleKind (aO X.prog X.w)) d3.1 (tupleKind_room_in1 hu) (QL I3 hk) dd (by omega) (fun p hp t=>?_) (fun hp h' t dd' sb=>?_)
 ·have r:=rel.val ks;rw[hp] at r;cases hv:aR kvs ks with
  |none=>rw[hv] at r;cases r
  |some v=>
   rw[hv] at r;exact⟨v,H3,I3.tok _,r,q3 v hv⟩
 ·have r:=rel.val ks;rw[hp] at r;have hv:aR kvs ks=none:=by
   cases hv:aR kvs ks with
   |none=>rfl
   |some v=>rw[hv] at r;cases r
  have he:∃q,h'.get? a=some q:=let ⟨q,_,_,hq,_⟩:=dd';⟨q,hq⟩
  have I4:=qX (t':=t) I3 (by rw[hH];exact True.intro) sb he (ahl dd');refine⟨z,_,I4,rz,q4 hv _ ⟨d3.1,by rw[List.length_append];exact hl,?_,_,ae,?_⟩⟩
  ·rw[List.map_append];exact xq d3.2.2.1 (UE hv)
  ·have ht:∀c ys,SqT X.K H3 c ys→SqT X.K (upd H3 a (.ext (Po X.prog X.w (xs++[(ks,b,fv)]) a))) c ys:=fun c ys q=>by
    rcases q with(q|⟨z,q⟩)|q
    ·exact .inl (.inl (by rw[ab (aK q hH (fun z=>nomatch z))];exact q))
    ·exact .inl (.inr ⟨z,by rw[ab (aK q hH (fun z=>nomatch z))];exact q⟩)
    ·exact .inr q
   exact KQ.same ht (Paired.snoc rel ⟨rfl,hk,rz⟩)
def adX(td ty tx:TE):TE:=fun σ H Q=>td σ H fun x H1=>∃a,x=.ref a∧IsD H1 a∧ty σ H1 fun y H2=>tx σ H2 fun z H3=>∃kvs k,H3 a=some (.dK kvs)∧y=kV k∧kvs.length<sizeLine∧
 (∀v,aR kvs k=some v→Q v H3)∧(aR kvs k=none→Q z (upd H3 a (.dK (putK kvs k z))))
theorem adY(ho:PE X o td)(he:PE X e ty)(hf:PE X f tx)(m:M2 X o "setdefault" apos e f cpos):PE X (.Call (.Attribute o "setdefault" apos) [e,f] [] cpos) (adX td ty tx):=by
 intro pins s σ H Q I h;refine wpAny_Call_method m.base m.few m.line PySem.F.plainAttrs_dict PySem.F.slot_dict_setdefault PySem.F.type_dict_setdefault (thn (ho pins s σ H _ I h) fun u s1 ⟨x,H1,I1,rx,a,ex,d,q1⟩=>?_);subst ex;obtain rfl:u=Value.ref a:=rx;obtain⟨t1,t2,_⟩:=QC I1 d;refine⟨t1,t2,?_⟩;rw[m.trees];refine Calls.callWith_builtin rfl (Calls.evalArgs_plain (Calls.spliced_cons (thn (he pins s1 σ H1 _ I1 q1) fun iv s2 ⟨y,H2,I2,ry,q2⟩=>
  Calls.spliced_cons (thn (hf pins s2 σ H2 _ I2 q2) fun fv s3 ⟨z,H3,I3,rz,kvs,k,e3,ey,hl,q3,q4⟩=>Calls.spliced_nil ?_))))
 subst ey;obtain⟨hz,hd,vs,rel,dd⟩:=ZZ I3.hok e3;have len:vs.length≤sizeLine:=by rw[←rel.length];exact hz
 refine call_meetsIn PySem.F.slot_dict_setdefault dd.typeIs PySem.F.entry_dict_setdefault (PySem.F.args_dict_setdefault_3 _ _ _) (kt_meets_setdefault (aO X.prog X.w) a (uT ry) hd fv) ⟨vs,dd,len,fun v hv=>?_,fun hv h' dd' sb=>?_⟩
 ·have r:=rel.val k;rw[hv] at r;cases hv':aR kvs k with
  |none=>rw[hv'] at r;cases r
  |some v'=>
   rw[hv'] at r;exact⟨v',H3,I3.tok _,r,q3 v' hv'⟩
 ·have r:=rel.val k;rw[hv] at r;have hv':aR kvs k=none:=by
   cases hv':aR kvs k with
   |none=>rfl
   |some v=>rw[hv'] at r;cases r
  have he:∃q,h'.get? a=some q:=let ⟨q,_,_,hq,_⟩:=dd';⟨q,hq⟩
  have hl2:(putK kvs k z).length≤sizeLine:=by have:=uS kvs k z;omega
  exact⟨z,_,qX (t':=s3.toks+1) I3 (by rw[e3];exact True.intro) sb he (QA hl2 hd (rel.put k rz) dd'),rz,q4 hv'⟩
end
end L2
end
section
namespace L2
open PySem PyProof.Rows
theorem Jw(val:Nat→Int):∀(m b i:Nat),b<i→(∀j,j<i→val j≤val b)→scan (fun i j=>decide (val i>val j)) b i m<i+m∧∀j,j<i+m→val j≤val (scan (fun i j=>decide (val i>val j)) b i m)
 |0,b,i,hb,h=>⟨hb,h⟩
 |m+1,b,i,hb,h=>by
  unfold scan;by_cases c:val i>val b
  ·rw[if_pos (decide_eq_true c),show i+(m+1)=(i+1)+m by omega];refine Jw val m i (i+1) (by omega) fun j hj=>?_;by_cases e:j=i
   ·rw[e];exact Int.le_refl _
   ·have:=h j (by omega);omega
  ·rw[if_neg (fun z=>c (of_decide_eq_true z)),show i+(m+1)=(i+1)+m by omega];refine Jw val m b (i+1) (by omega) fun j hj=>?_;by_cases e:j=i
   ·rw[e];omega
   ·exact h j (by omega)
theorem aac:∀{its:List Value}{ns:List Int}{i:Nat}{v:Value},IntsAre its ns→its[i]?=some v→∃t,v=.int (ns.getD i 0) t
 |_,_,0,_,.cons n t r,h=>by cases h;exact⟨t,rfl⟩
 |_,_,i+1,_,.cons n t r,h=>by
  rw[List.getElem?_cons_succ] at h;rw[List.getD_cons_succ];exact aac r h
theorem getD_in{ns:List Int}{i:Nat}(h:i<ns.length):ns.getD i 0∈ns:=by
 rw[List.getD_eq_getElem?_getD,List.getElem?_eq_getElem h];exact List.getElem_mem h
theorem age{ns:List Int}{x:Int}(h:x∈ns):∃i,i<ns.length∧ns.getD i 0=x:=by
 obtain⟨i,hi,e⟩:=List.getElem_of_mem h;exact⟨i,hi,by rw[List.getD_eq_getElem?_getD,List.getElem?_eq_getElem hi];exact e⟩
section
variable{prog:Program}{w:World}{A:Around}{E:Value→Shared→Prop}{s:Shared}{l:Addr}{its:List Value}{ns:List Int}{Q:Value→Shared→Prop}{d:Value}
theorem abr(x v:Value):argsOk "max" ⟨[x],[("default",v)]⟩:=by unfold argsOk;kernel_rfl
theorem adZ{R:Result→Shared→Prop}{I S:Addr}{fp wr:List Addr}{P:Nat→Value→Prop}{St:Nat→Heap→Prop}{c:Nat}{nm:Str}(W:Walks prog w A.in1 I fp wr 0 P St)(st:St 0 s.heap)(hs:s.heap.get? S=some {cls:=.type "list",data:=.seq #[] c})
  (k:∀h' tk,But wr S s.heap h'→R (.ok (.ret d)) {s with heap:=h',toks:=tk}):codeAny (model prog w) A (.builtin "max.loop" ⟨[.ref I,.none,.ref S],[(nm,d)]⟩) R s:=by
 refine QI ?_;refine wpAny_bind (m:=seqItems? (.ref S)) (wpAny_seqItems hs rfl (wpAny_bind (m:=tryCatch (pyNext (.ref I)) _) (wpAny_tryCatch (W.done s _ _ st fun h' tk kp=>?_))))
 wp_walk
 exact k _ _ fun b o hb _ e=>kp b o hb e
theorem UR(hh:A.handled=none)(hl:s.heap.IsList l its.toArray)(hi:IntsAre its ns)
  (h:∀h' tk,(∀b o,s.heap.get? b=some o→h'.get? b=some o)→(ns=[]→Q d {s with heap:=h',toks:=tk})∧∀M t,M∈ns→(∀x∈ns,x≤M)→Q (.int M t) {s with heap:=h',toks:=tk}):
  wpAny (model prog w) A (call (.builtin "max") [.ref l] [("default",d)]) Q E s:=by
 have nm:(toString "max"++toString ".loop":String)="max.loop":=by decide
 refine PyProof.Rows.kmk_tree F.kind_max F.plain_max F.entry_max (abr _ _) (wpAny_bind (m:=Builtin.Builtins.bindParams "max" ["key","default"] 0 ⟨[],[("default",d)]⟩) (wpAny_of_eq (show Builtin.Builtins.bindParams "max" ["key","default"] 0 ⟨[],[("default",d)]⟩=pure [none,some d] from rfl) (wpAny_bind (wpAny_pure (wpAny_bind (wpAny_pyIter_list hl (wpAny_bind (wpAny_newObj_type ?_))))))));rw[nm];refine wpAny_pure ⟨plainId_quiet F.plain_max_loop _,?_⟩;generalize hn:s.heap.objs.size=n;have z1:(s.heap.push {cls:=.type "list_iterator",data:=.fields #[.ref l,.int 0 0]}).objs.size=n+1:=by rw[Heap.size_push,hn]
 have lt:∀{d o},s.heap.get? d=some o→d<n:=fun e=>by rw[←hn];exact Heap.lt_size e
 have old:∀d o,s.heap.get? d=some o→((s.heap.push {cls:=.type "list_iterator",data:=.fields #[.ref l,.int 0 0]}).push {cls:=.type "list",data:=.seq #[]}).get? d=some o:=fun d o e=>Heap.get?_push_of_some _ (Heap.get?_push_of_some _ e);have hln:l<n:=by
  obtain⟨o,e,_⟩:=hl;exact lt e
 have W:=Walks.list (prog:=prog) (w:=w) (A:=A.in1) hh n l (Nat.ne_of_lt hln) its.toArray;have st:((s.heap.push {cls:=.type "list_iterator",data:=.fields #[.ref l,.int 0 0]}).push {cls:=.type "list",data:=.seq #[]}).IsListIter n l 0∧((s.heap.push {cls:=.type "list_iterator",data:=.fields #[.ref l,.int 0 0]}).push {cls:=.type "list",data:=.seq #[]}).IsList l its.toArray:=
  ⟨⟨_,Heap.get?_push_of_some _ (by rw[←hn];exact Heap.get?_push_size _ rfl),rfl,rfl⟩,(hl.push _).push _⟩
 have kept:∀{h':Heap},But [n] (n+1) ((s.heap.push {cls:=.type "list_iterator",data:=.fields #[.ref l,.int 0 0]}).push {cls:=.type "list",data:=.seq #[]}) h'→∀b o,s.heap.get? b=some o→h'.get? b=some o:=fun bu b o e=>
  bu b o (fun z=>absurd (List.mem_singleton.mp z) (Nat.ne_of_lt (lt e))) (fun z=>absurd z (Nat.ne_of_lt (Nat.lt_succ_of_lt (lt e)))) (old b o e)
 have hs:((s.heap.push {cls:=.type "list_iterator",data:=.fields #[.ref l,.int 0 0]}).push {cls:=.type "list",data:=.seq #[]}).get? (n+1)=some {cls:=.type "list",data:=.seq #[]}:=by rw[←z1];exact Heap.get?_push_size _ rfl
 rw[z1];have len:its.length=ns.length:=hi.length;cases z:ns with
 |nil=>
  have zi:its.toArray.size=0:=by rw[z] at len;simpa using len
  rw[zi] at W;exact adZ W st hs fun h' tk bu=>((h h' tk (kept bu)).1 z)
 |cons x r=>
  have zi:its.toArray.size=r.length+1:=by rw[z] at len;simpa using len
  rw[zi] at W;have at_:∀(i:Nat)(v:Value),its.toArray[i]?=some v→∃t,v=Value.int (ns.getD i 0) t:=fun i v q=>aac hi (by rw[List.getElem?_toArray] at q;exact q)
  have C:Cmp prog w A.in1 .Gt (fun i v=>its.toArray[i]?=some v) (fun i j=>decide (ns.getD i 0>ns.getD j 0)) [n] (n+1) (fun _=>True):=
   ⟨fun{i j u v s' Q' E'} _ hi hj _ q=>CmpOf.ints_gt (fun i=>ns.getD i 0) at_ i j u v s' Q' E' hi hj q,fun _ _=>True.intro⟩
  refine Z8 W C (by simp;exact fun e=>absurd e.symm (Nat.ne_of_lt (Nat.lt_succ_of_lt hln))) st True.intro hs fun v h' tk hv bu=>?_;obtain⟨t,rfl⟩:=at_ _ v hv
  obtain⟨t1,t2⟩:=Jw (fun i=>ns.getD i 0) r.length 0 1 (by omega) (fun j hj=>by rw[show j=0 by omega];exact Int.le_refl _);have hlen:ns.length=1+r.length:=by rw[z];simp;omega
  refine(h h' tk (kept bu)).2 _ t ?_ fun y hy=>?_
  ·exact getD_in (by omega)
  ·obtain⟨j,hj,e⟩:=age hy;rw[←e];exact t2 j (by omega)
end
end L2
end
section
namespace L2
open PySem PySem.Spec PyProof.Rows
def setOf(ks:List Key):List (Key×V):=ks.map fun k=>(k,.bl true)
def kD(ks ls:List Key):Bool:=ks.length==ls.length&&ks.all fun k=>ls.any fun l=>decide (l=k)
theorem abt{A:Around}{s:Shared}:SeqAt.EqAt A s (.bool true) (.bool true) true:=fun prog w E Q q=>by
 unfold eqBool
 wp_walk
 exact q
theorem IZ{ks:List Key}:∀{vs:List (Key×Value)},KV (setOf ks) vs→vs=ks.map fun k=>(k,.bool true):=by
 induction ks with
 |nil=>intro vs r;cases r;rfl
 |cons k ks ih=>
  intro vs r;cases r with
  |cons h t=>
   obtain⟨e1,e2⟩:=h;rw[List.map_cons,←ih t];rename_i q _;obtain⟨q1,q2⟩:=q;have e1:k=q1:=e1;have e2:q2=.bool true:=e2;rw[←e1,e2]
theorem DO{A:Around}{s:Shared}(ls:List Key):∀ks:List Key,PySem.W.KeqHits A s (ls.map fun k=>(k,Value.bool true)) (ks.map fun k=>(k,Value.bool true)) (ks.all fun k=>ls.any fun l=>decide (l=k))
 |[]=>.nil
 |k::ks=>by
  have va:valueAt (ls.map fun k=>(k,Value.bool true)) k=if(ls.any fun l=>decide (l=k)) then some (.bool true) else none:=by
   induction ls with
   |nil=>rfl
   |cons l ls ih=>
    unfold valueAt at ih⊢;rw[List.map_cons,List.find?_cons,List.any_cons];by_cases e:l=k
    ·subst e;simp
    ·simp only[e,decide_false,Bool.false_or];exact ih
  rw[List.map_cons,List.all_cons];cases c:ls.any fun l=>decide (l=k) with
  |false=>rw[c] at va;exact .miss va
  |true=>rw[c] at va;exact .hit va abt (DO ls ks)
section
variable{X:Cx}
def akD(neg:Bool):R2:=fun x y H Q=>∃a b ks ls,x=.ref a∧y=.ref b∧Rd H a (.dK (setOf ks))∧Rd H b (.dK (setOf ls))∧Q (.bl (if neg then !kD ks ls else kD ks ls)) H
theorem aiC(hu:X.A.units<cLine):OpR X (compareOp .Eq) (akD false):=by
 intro pins s σ H x y v u Q I rx ry h;obtain⟨a,b,ks,ls,rfl,rfl,ha,hb,q⟩:=h;cases rx;cases ry;obtain⟨_,na,va,ra,da⟩:=nO I.hok ha;obtain⟨_,nb,vb,rb,db⟩:=nO I.hok hb;obtain rfl:=IZ ra;obtain rfl:=IZ rb;refine PySem.W.keq_eq na nb da db hu (fun _=>DO ls ks) ⟨.bl _,H,I,rfl,?_⟩;rw[List.length_map,List.length_map];exact q
theorem aiD(hu:X.A.units<cLine):OpR X (compareOp .NotEq) (akD true):=by
 intro pins s σ H x y v u Q I rx ry h;obtain⟨a,b,ks,ls,rfl,rfl,ha,hb,q⟩:=h;cases rx;cases ry;obtain⟨_,na,va,ra,da⟩:=nO I.hok ha;obtain⟨_,nb,vb,rb,db⟩:=nO I.hok hb;obtain rfl:=IZ ra;obtain rfl:=IZ rb;refine PySem.W.keq_ne na nb da db hu (fun _=>DO ls ks) ⟨.bl _,H,I,rfl,?_⟩;rw[List.length_map,List.length_map];exact q
def akE(K:PySem.W.Frag)(vs zs:List V)(H:Hp)(Q:VK):Prop:=∃(a:Addr)(ns:List Int)(z:Int),vs=[.ref a]∧zs=[.int z]∧SqL K H a (ns.map V.int)∧(ns=[]→Q (.int z) H)∧∀m,m∈ns→(∀y∈ns,y≤m)→Q (.int m) H
def akF(K:PySem.W.Frag)(t tk:TA):TE:=fun σ H Q=>t σ H fun vs H1=>tk σ H1 fun zs H2=>akE K vs zs H2 Q
theorem agf{p pos Ye:Pos}{e d:Expr}{t tk:TA}(hc:X.calm=true)(hg:Gl X "max")(hm:X.mg "max"=none)(hv:bootBuiltins "max"=some (.builtin "max"))(ha:PA X [e] t)(hk:PK X [⟨some "default",d,Ye⟩] tk)
  (he:backTo pos (starEach [e] X.env)=(false,eval e X.env)::backTo pos (starEach [] X.env):=by rfl) (hpl:(backTo pos (starEach [e] X.env)).any (·.1)=false:=by rfl)
  (hall:(backToKw pos (keywordEach [⟨some "default",d,Ye⟩] X.env)).all (·.1.isSome)=true:=by rfl) (hkw:(backToKw pos (keywordEach [⟨some "default",d,Ye⟩] X.env)).any (·.1.isNone)=false:=by rfl)
  (hks:(backToKw pos (keywordEach [⟨some "default",d,Ye⟩] X.env)).filterMap (·.1)=[("default":Str)]:=by rfl):
  PE X (.Call (.Name "max" p) [e] [⟨some "default",d,Ye⟩] pos) (akF X.K t tk):=by
 intro pins s σ H Q I h;refine wpAny_Call_Name_kw (Jg I hg hm hv ?_ (by decide) (by decide));refine callWith_kw (thn (ha pos pins s σ H _ I h) fun us s1 ⟨vs,H1,I1,r1,q1⟩=>thn (hk pos pins s1 σ H1 _ I1 q1) fun ws s2 ⟨zs,H2,I2,rz,a,ns,z,ev,ez,hl,qn,qm⟩=>?_) he hpl hall hkw;subst ev ez;rw[hks];obtain⟨w',rfl,t',rfl⟩:=vals1 rz;rw[Vals.aa8 r1];obtain⟨its,rv,il,_⟩:=I2.list hl;refine UR (I2.ok.hd hc) il.isList rv.ints fun h' tk kp=>⟨fun e=>⟨.int z,H2,I2.kept kp,⟨_,rfl⟩,qn e⟩,fun M t hM hall=>⟨.int M,H2,I2.kept kp,⟨_,rfl⟩,qm M hM hall⟩⟩
def ad0:List V→Hp→VK→Prop:=fun vs H Q=>∃(a:Addr)(kvs:List (Key×V))(ns:List Int),vs=[V.ref a]∧Rd H a (.dK kvs)∧kvs.map (·.1)=ns.map Sum.inl∧ns.length<64∧
 ∀(ns':List Int)(p:Addr),ns'.Perm ns→ns'.Pairwise (·≤·)→H p=none→Q (.ref p) (upd H p (.lst (ns'.map V.int)))
theorem ints_of{P:Program}{w:World}:∀{ns:List Int}{us:List Value},(∀(i:Nat)(v:Value),us[i]?=some v→∃n,ns[i]?=some n∧(aO P w).is (.inl n) v=true)→us.length=ns.length→IntsAre us ns
 |[],[],_,_=>.nil
 |n::ns,u::us,h,hl=>by
  obtain⟨n',e,k⟩:=h 0 u rfl;cases e;obtain⟨t,rfl⟩:=Value.isInt_shape (k:=n) (v:=u) k;exact .cons n t (ints_of (fun i v q=>h (i+1) v q) (by simpa using hl))
theorem Yp(hc:X.calm=true):iN X (.builtin "sorted") ad0:=by
 intro pins s σ H vs us Q I r h;obtain⟨a,kvs,ns,rfl,ha,hk,h64,q⟩:=h;rw[Vals.aa8 r];obtain⟨_,na,va,ra,da⟩:=nO I.hok ha;obtain⟨ep,dat⟩:=da.dictAt;have ek:va.map (·.1)=ns.map Sum.inl:=by rw[←hk];exact(KV.keys ra).symm
 have len:va.length=ns.length:=by have:=congrArg List.length ek;simpa using this
 refine Calls.call_function_entry kind_sorted plain_sorted entry_sorted (args_sorted1 (.ref a)) ?_;unfold Builtin.«sorted»;refine wpAny_bind (m:=checkCount "sorted" 1 1 _) (wpAny_pure (wpAny_bind (PySem.W.kdu_collect (A:=X.A.in1) (PySem.W.kdl_dict na) (I.ok.hd hc) dat (by rw[len];exact IU h64) fun h' tk acc kp hacc=>?_)));have la:acc.toList.length=ns.length:=by rw[Array.length_toList,hacc.1,len]
 have hi:IntsAre acc.toList ns:=ints_of (P:=X.prog) (w:=X.w) (fun i v qv=>by
  obtain⟨k,x,e,hk⟩:=hacc.2 i v (by rw[←Array.getElem?_toList];exact qv);have e2:(va.map (·.1))[i]?=some k:=by rw[List.getElem?_map,e];rfl
  rw[ek,List.getElem?_map] at e2;cases z:ns[i]? with
  |none=>rw[z] at e2;cases e2
  |some n=>rw[z] at e2;cases e2;exact⟨n,rfl,hk⟩) la
 refine wpAny_bind (wpAny_newList ?_ (by rw[la];exact IU h64));have ho:(h'.push {cls:=.type "list",data:=.seq acc.toList.toArray}).get? h'.objs.size=some (seqObj "list" acc.toList.toArray 0):=Heap.get?_push_size _ rfl;refine wpAny_bind (wpAny_holding (wpAny_call_entry slot_list_sort ⟨_,ho,rfl⟩ entry_list_sort (list_sort_tree ho hi (by rw[la];exact h64) fun out ns' h1 h2 h3=>⟨.none,rfl,wpAny_pure ⟨_,rfl,?_⟩⟩) (args_list_sort _)));obtain⟨ep',he'⟩:=sortedHeap_at (vs:=acc.toList) (out:=out) ho;have hlen:(ns'.map V.int).length≤sizeLine:=by rw[List.length_map,h2.length_eq];exact IU h64
 have I':=I.kept (t':=tk) kp;refine⟨.ref h'.objs.size,upd H h'.objs.size (.lst (ns'.map V.int)),I'.laid (t':=tk) (fun b o e=>?_) (Nat.le_refl _) ⟨hlen,out.toList,ep',qV h1,he'⟩,rfl,q ns' _ h2 h3 (I'.hok.fresh (Nat.le_refl _))⟩;have e:h'.get? b=some o:=e;have lt:b<h'.objs.size:=Heap.lt_size e;rw[sortedHeap_old (Nat.ne_of_lt lt) (by rw[Heap.size_push];exact Nat.lt_succ_of_lt lt)];exact Heap.get?_push_of_some _ e
open Classical in
theorem abu(hu:X.A.units+1<cLine):OpR X (compareOp .NotIn) (fun x y H Q=>∃p bs kss b ks,x=.ref b∧y=.ref p∧SqL X.K H p (bs.map V.ref)∧Paired (fun c (ls:List Key)=>H c=some (.tup (ls.map kV))) bs kss∧H b=some (.tup (ks.map kV))∧
  Q (.bl (!kss.any fun ls=>decide (ls=ks))) H):=by
 intro pins s σ H x y v u Q I rx ry h;obtain⟨p,bs,kss,b,ks,rfl,rfl,hp,pr,hb,q⟩:=h;cases rx;cases ry;obtain⟨its,r,pl,hz⟩:=I.list hp;have key:∀(P:Program)(w:World)(c:Addr)(ls:List Key),H c=some (.tup (ls.map kV))→IsTupleKey (aO P w) s.heap ls c:=fun P w c ls e=>by
  obtain⟨_,us,r',o,h1,h2,n,h3⟩:=(show cO X.prog X.w H s.heap c (.tup (ls.map kV)) from I.hok c _ e)
  exact⟨o,us.toArray,n,h1,h2,h3,by simpa using xo r'⟩
 have am2:=Z1 r;subst am2;have same:∀(c:Addr)(ls:List Key),H c=some (.tup (ls.map kV))→((∃c',Value.ref c=.ref c'∧H c'=some (.tup (ks.map kV)))↔ls=ks):=fun c ls e=>by
  constructor
  ·rintro⟨c',e1,e2⟩;cases e1;rw[e] at e2;injection e2 with e2
   injection e2 with e2
   exact ZY e2
  ·rintro rfl;exact⟨c,rfl,e⟩
 have each:∀{cs:List Addr}{lss:List (List Key)},Paired (fun c (ls:List Key)=>H c=some (.tup (ls.map kV))) cs lss→((cs.map Value.ref).any fun v=>decide (∃c,v=.ref c∧H c=some (.tup (ks.map kV))))=lss.any fun ls=>decide (ls=ks):=by
  intro cs lss pr
  induction pr with
  |nil=>rfl
  |cons e t ih=>
   rw[List.map_cons,List.any_cons,List.any_cons,ih];congr 1;exact decide_eq_decide.mpr (same _ _ e)
 refine SeqAt.notIn_listAt (fun v=>decide (∃c,v=.ref c∧H c=some (.tup (ks.map kV)))) pl.isList (fun v hv=>?_) ⟨.bl _,H,I,rfl,?_⟩
 ·have hv:v∈bs.map Value.ref:=by simpa using hv
  obtain⟨c,hc,rfl⟩:=List.mem_map.mp hv;have hit:∀{cs:List Addr}{lss:List (List Key)},Paired (fun c (ls:List Key)=>H c=some (.tup (ls.map kV))) cs lss→c∈cs→∃ls:List Key,H c=some (.tup (ls.map kV)):=by
   intro cs lss pr
   induction pr with
   |nil=>intro h;cases h
   |cons e t ih=>
    intro h;rcases List.mem_cons.mp h with z|z
    ·subst z;exact⟨_,e⟩
    ·exact ih z
  obtain⟨ls,e⟩:=hit pr hc;intro prog w E Q q;refine wpAny_eqBool_tuple (knd:=aO prog w) (by exact hu) (key prog w c ls e) (key prog w b ks hb) ?_;rw[show decide (ls=ks)=decide (∃c',Value.ref c=.ref c'∧H c'=some (.tup (ks.map kV))) from(decide_eq_decide.mpr (same c ls e)).symm];exact q
 ·rw[show ((bs.map Value.ref).toArray.any fun v=>decide (∃c,v=.ref c∧H c=some (.tup (ks.map kV))))=(bs.map Value.ref).any fun v=>decide (∃c,v=.ref c∧H c=some (.tup (ks.map kV))) by simp,each pr];exact q
end
end L2
end
section
namespace L2
open PySem PySem.Spec PyProof.Rows
theorem A0{X:Cx}{e:Expr}{f:Str}{pos:Pos}{ta:TE}(K:PySem.W.Frag)(he:PE X e ta)(hb:attributeBase e f X.env (eval e X.env)=eval e X.env)(hK:X.K=K:=by rfl):PE X (.Attribute e f pos) (aa3 K ta f):=by
 subst hK;exact ay he hb
def agg(K:PySem.W.Frag):R2:=fun x y H Q=>∃p bs kss b ks,x=.ref b∧y=.ref p∧SqL K H p (bs.map V.ref)∧Paired (fun c (ls:List Key)=>H c=some (.tup (ls.map kV))) bs kss∧H b=some (.tup (ks.map kV))∧
  Q (.bl (!kss.any fun ls=>decide (ls=ks))) H
theorem Yq{X:Cx}(K:PySem.W.Frag)(hu:X.A.units+1<cLine)(hK:X.K=K:=by rfl):OpR X (compareOp .NotIn) (agg K):=by
 subst hK;exact abu hu
end L2
end
section
namespace L2
open PySem PySem.Spec PyProof.Rows
def aiE(t:TE):TE:=fun σ H Q=>t σ H fun v H1=>∃d u,H1 d=some u∧Mut (some u)∧∀od,Q v (upd H1 d (.frz od u))
theorem ad1{X:Cx}{e:Expr}{t:TE}(h:PE X e t):PE X e (aiE t):=by
 intro pins s σ H Q I hw;refine thn (h pins s σ H _ I hw) fun v s1 ⟨x,H1,I1,r,d,u,hd,mu,q⟩=>?_;obtain⟨od,I2⟩:=I1.lock hd mu;exact⟨x,_,I2,r,q od⟩
end L2
end
section
namespace L2
open PySem PySem.Spec PyProof.Rows
section
variable{prog:Program}{w:World}{A:Around}{E:Value→Shared→Prop}{s:Shared}
def Pp(i:Addr)(S S':Heap→Prop)(x:Value):Prop:=∀(prog:Program)(w:World)(A:Around)(E:Value→Shared→Prop)(s:Shared)(Q:Value→Shared→Prop),S s.heap→
 (∀h',S' h'→Heap.SameBut i s.heap h'→Q x {s with heap:=h'})→wpAny (model prog w) A (Builtin.SmallTypes.nextOf (.ref i)) Q E s
def abv(i:Addr)(S:Heap→Prop):Prop:=∀(prog:Program)(w:World)(A:Around)(E:Value→Shared→Prop)(s:Shared)(Q:Value→Shared→Prop),A.handled=none→S s.heap→
 (∀h' e,Heap.ExtBut i s.heap h'→(∃o,h'.get? e=some o∧o.cls=.type "StopIteration")→E (.ref e) {s with heap:=h'})→wpAny (model prog w) A (Builtin.SmallTypes.nextOf (.ref i)) Q E s
theorem abw{i l:Addr}{k:Nat}{ys:Array Value}{y:Value}(hl:l≠i)(hy:ys[k]?=some y):Pp i (fun h=>h.IsListIter i l k∧h.IsList l ys) (fun h=>h.IsListIter i l (k+1)) y:=
 fun prog w A E s Q hs hQ=>wpAny_nextOf_list_item hs.1 hs.2 hy hQ
theorem ad2{i l:Addr}{k:Nat}{ys:Array Value}(hy:ys[k]?=none):abv i (fun h=>h.IsListIter i l k∧h.IsList l ys):=
 fun prog w A E s Q hh hs hE=>wpAny_nextOf_list_end hh hs.1 hs.2 hy hE
theorem US{i t:Addr}{k:Nat}{xs:Array Value}{x:Value}(hx:xs[k]?=some x):Pp i (fun h=>IsTupIter h i t k∧IsTup h t xs) (fun h=>IsTupIter h i t (k+1)) x:=by
 intro prog w A E s Q hs hQ;obtain⟨⟨⟨c1,d1,b1,l1⟩,ho,hc,hd⟩,⟨c2,d2,b2,l2⟩,hot,hc2,n,hdt⟩:=id hs;have ty:=hs.1.typeIs;simp only at hc hd hc2 hdt;subst hc hd hc2 hdt;unfold Builtin.SmallTypes.nextOf;refine wpAny_bind (wpAny_callSpecial?_slot (name:=Str.ofString "__next__") ty slot_tupleiter_next (wpAny_call_entry slot_tupleiter_next ty entry_tupleiter_next ?_ (args_tupleiter_next _)))
 wp_walk using wpAny_loadPart' ho,wpAny_loadPart' hot
 rw[show ((k:Int).toNat)=k from rfl,hx];refine wpAny_bind (wpAny_setField ho rfl (by simp) ?_);refine wpAny_pure ⟨x,rfl,wpAny_pure (hQ _ ⟨_,Heap.get?_update_self _ ho rfl,rfl,rfl⟩ (Heap.SameBut.update ..))⟩
theorem agh{i t:Addr}{k:Nat}{xs:Array Value}(hx:xs[k]?=none):abv i (fun h=>IsTupIter h i t k∧IsTup h t xs):=by
 intro prog w A E s Q hh hs hE;obtain⟨⟨⟨c1,d1,b1,l1⟩,ho,hc,hd⟩,⟨c2,d2,b2,l2⟩,hot,hc2,n,hdt⟩:=id hs;have ty:=hs.1.typeIs;simp only at hc hd hc2 hdt;subst hc hd hc2 hdt;unfold Builtin.SmallTypes.nextOf;refine wpAny_bind (wpAny_callSpecial?_slot (name:=Str.ofString "__next__") ty slot_tupleiter_next (wpAny_call_entry slot_tupleiter_next ty entry_tupleiter_next ?_ (args_tupleiter_next _)));have hh1:A.in1.handled=none:=hh
 wp_walk using wpAny_loadPart' ho,wpAny_loadPart' hot
 rw[show ((k:Int).toNat)=k from rfl,hx];refine wpAny_bind (wpAny_rule (wpAny_bind (wpAny_setField ho rfl (by simp) ?_)));have sb:=Heap.SameBut.update (a:=i) s.heap (f:=Obj.mapFields fun vs=>vs.setIfInBounds 0 Value.none)
 wp_walk
 unfold raiseNew
 wp_walk
 exact hE _ _ ((sb.extBut.push _).push _) ⟨_,Heap.get?_push_size _ rfl,rfl⟩
def Holds(fp:List Addr)(S:Heap→Prop):Prop:=∀h h',S h→(∀c∈fp,∀o,h.get? c=some o→h'.get? c=some o)→S h'
theorem Holds.but{f:List Addr}{S:Heap→Prop}(k:Holds f S){h h':Heap}{c:Addr}(n:c∉f)(e:Heap.ExtBut c h h')(x:S h):S h':=k h h' x fun b hb o q=>e b o (fun z=>n (z▸hb)) q
theorem abx{z p q i j:Addr}{a b x y:Value}{S S' R R':Heap→Prop}{f g:List Addr}{Q:Value→Shared→Prop}(d1:Pp i S S' x)(d2:Pp j R R' y)
  (kS:Holds f S) (kS':Holds f S') (kR:Holds g R) (kR':Holds g R') (zf:z∉f) (zg:z∉g) (qf:q∉f) (qg:q∉g) (jf:j∉f) (ig:i∉g) (qz:q≠z) (qi:q≠i) (qj:q≠j) (zi:z≠i) (zj:z≠j)
  (oz:IsZip s.heap z p q .none) (op:IsPair s.heap p (.ref i) (.ref j)) (oq:IsPair s.heap q a b) (hS:S s.heap) (hR:R s.heap)
  (fin:∀h',IsZip h' z p q (rawInt s.heap.objs.size)→IsPair h' q x y→S' h'→R' h'→IsPair h' s.heap.objs.size x y→h'.objs.size=s.heap.objs.size+1→
   (∀c o,c≠z→c≠q→c≠i→c≠j→s.heap.get? c=some o→h'.get? c=some o)→Q (.ref s.heap.objs.size) {s with heap:=h'}):
  wpAny (model prog w) A (Builtin.«zip.__next__» ⟨[.ref z],[]⟩) (fun fin s'=>∃v,fin=.done (.ret v)∧Q v s') E s:=by
 change wpAny (model prog w) A (field (.ref z) 2>>=_) _ E s;refine wpAny_bind (wpAny_field oz rfl (x:=.bool false) rfl ?_);change wpAny (model prog w) A (field (.ref z) 3>>=_) _ E s;refine wpAny_bind (wpAny_field oz rfl (x:=.ref p) rfl (wpAny_bind (wpAny_seqItems op rfl ?_)));change wpAny (model prog w) A (Builtin.SmallTypes.ownedTupleIsFree (.ref z)>>=_) _ E s;unfold Builtin.SmallTypes.ownedTupleIsFree;refine wpAny_bind (wpAny_bind (wpAny_field oz rfl (x:=.none) rfl (wpAny_pure ?_)));simp only[if_pos];refine wpAny_bind (wpAny_rule (wpAny_bind (wpAny_field oz rfl (x:=.ref q) rfl ?_)));refine wpAny_bind (wpAny_setField_rec oz (by simp) fun u oz1 b1=>wpAny_bind ?_);have oz1:IsZip u z p q .ellipsis:=oz1;simp only[List.zipIdx_cons,List.zipIdx_nil,List.forIn_cons,List.forIn_nil];refine wpAny_bind (wpAny_bind (wpAny_onRaise ?_));change wpAny (model prog w) A (Builtin.SmallTypes.nextOf (.ref i)>>=_) _ _ _;refine wpAny_bind (d1 prog w A _ _ _ (kS.but zf b1.extBut hS) fun u2 s2 b2=>wpAny_pure ?_);have oq2:IsPair u2 q a b:=b2.extBut _ _ qi (b1.extBut _ _ qz oq);refine wpAny_bind (wpAny_seqItems oq2 rfl (wpAny_bind (wpAny_updateSeq_pair oq2 fun u3 oq3 b3=>wpAny_bind (wpAny_letGo (wpAny_pure ?_)))));have oq3:IsPair u3 q x b:=oq3;refine wpAny_bind (wpAny_bind (wpAny_onRaise ?_));change wpAny (model prog w) A (Builtin.SmallTypes.nextOf (.ref j)>>=_) _ _ _;refine wpAny_bind (d2 prog w A _ _ _ (kR.but qg b3.extBut (kR.but ig b2.extBut (kR.but zg b1.extBut hR))) fun u4 r4 b4=>wpAny_pure ?_);have oq4:IsPair u4 q x b:=b4.extBut _ _ qj oq3;refine wpAny_bind (wpAny_seqItems oq4 rfl (wpAny_bind (wpAny_updateSeq_pair oq4 fun u5 oq5 b5=>wpAny_bind (wpAny_letGo (wpAny_pure (wpAny_pure ?_))))));have oq5:IsPair u5 q x y:=oq5;refine wpAny_bind (wpAny_seqItems oq5 rfl (wpAny_bind (wpAny_newTuple ?_)));have am3:∀c o,c≠z→c≠q→c≠i→c≠j→s.heap.get? c=some o→u5.get? c=some o:=fun c o n1 n2 n3 n4 e=>b5.extBut _ _ n2 (b4.extBut _ _ n4 (b3.extBut _ _ n2 (b2.extBut _ _ n3 (b1.extBut _ _ n1 e))));have sz:u5.objs.size=s.heap.objs.size:=by rw[b5.1,b4.1,b3.1,b2.1,b1.1]
 have oz5:IsZip u5 z p q .ellipsis:=b5.extBut _ _ (Ne.symm qz) (b4.extBut _ _ zj (b3.extBut _ _ (Ne.symm qz) (b2.extBut _ _ zi oz1)));have s5:S' u5:=kS'.but qf b5.extBut (kS'.but jf b4.extBut (kS'.but qf b3.extBut s2));have r5:R' u5:=kR'.but qg b5.extBut r4;have zl:z<u5.objs.size:=Heap.lt_size oz5;change wpAny (model prog w) A (Builtin.SmallTypes.ownedTupleHandOut (.ref z) (.ref u5.objs.size)>>=_) _ _ _;unfold Builtin.SmallTypes.ownedTupleHandOut;have oz6:IsZip (u5.push {cls:=.type "tuple",data:=.seq #[x,y]}) z p q .ellipsis:=Heap.get?_push_of_some _ oz5;refine wpAny_bind (wpAny_bind (wpAny_setField_rec oz6 (by simp) fun u7 oz7 b7=>?_));have oz7:IsZip u7 z p q (rawInt u5.objs.size):=oz7;refine wpAny_setField_rec oz7 (by simp) fun u8 oz8 b8=>wpAny_pure ⟨_,rfl,?_⟩;have oz8:IsZip u8 z p q (rawInt u5.objs.size):=oz8;have agi:∀c o,c≠z→u5.get? c=some o→u8.get? c=some o:=fun c o n e=>b8.extBut _ _ n (b7.extBut _ _ n (Heap.get?_push_of_some _ e));have akG:IsPair u8 u5.objs.size x y:=b8.extBut _ _ (Nat.ne_of_gt zl) (b7.extBut _ _ (Nat.ne_of_gt zl) (Heap.get?_push_size _ rfl));have sz8:u8.objs.size=u5.objs.size+1:=by rw[b8.1,b7.1,Heap.size_push]
 rw[sz] at oz8 akG sz8⊢;exact fin u8 oz8 (agi _ _ qz oq5) (kS' _ _ s5 fun c hc o e=>agi c o (fun n=>zf (n▸hc)) e) (kR' _ _ r5 fun c hc o e=>agi c o (fun n=>zg (n▸hc)) e) akG sz8 fun c o n1 n2 n3 n4 e=>agi c o n1 (am3 c o n1 n2 n3 n4 e)
theorem ad3{z p q i j:Addr}{a b:Value}{S S' R:Heap→Prop}{f g:List Addr}{Q:Fin→Shared→Prop}(hh:A.handled=none)(d:abv i S∨∃x,Pp i S S' x∧abv j R)
  (kS:Holds f S) (kR:Holds g R) (zf:z∉f) (zg:z∉g) (qg:q∉g) (ig:i∉g) (qz:q≠z) (qi:q≠i) (zi:z≠i) (zj:z≠j)
  (oz:IsZip s.heap z p q .none) (op:IsPair s.heap p (.ref i) (.ref j)) (oq:IsPair s.heap q a b) (hS:S s.heap) (hR:R s.heap)
  (fin:∀h' e,(∀c o,c≠z→c≠q→c≠i→c≠j→s.heap.get? c=some o→h'.get? c=some o)→(∃o,h'.get? e=some o∧o.cls=.type "StopIteration")→E (.ref e) {s with heap:=h'}):
  wpAny (model prog w) A (Builtin.«zip.__next__» ⟨[.ref z],[]⟩) Q E s:=by
 change wpAny (model prog w) A (field (.ref z) 2>>=_) _ E s;refine wpAny_bind (wpAny_field oz rfl (x:=.bool false) rfl ?_);change wpAny (model prog w) A (field (.ref z) 3>>=_) _ E s;refine wpAny_bind (wpAny_field oz rfl (x:=.ref p) rfl (wpAny_bind (wpAny_seqItems op rfl ?_)));change wpAny (model prog w) A (Builtin.SmallTypes.ownedTupleIsFree (.ref z)>>=_) _ E s;unfold Builtin.SmallTypes.ownedTupleIsFree;refine wpAny_bind (wpAny_bind (wpAny_field oz rfl (x:=.none) rfl (wpAny_pure ?_)));simp only[if_pos];refine wpAny_bind (wpAny_rule (wpAny_bind (wpAny_field oz rfl (x:=.ref q) rfl ?_)));refine wpAny_bind (wpAny_setField_rec oz (by simp) fun u oz1 b1=>wpAny_bind ?_);have oz1:IsZip u z p q .ellipsis:=oz1;simp only[List.zipIdx_cons,List.zipIdx_nil,List.forIn_cons,List.forIn_nil];have hS1:=kS.but zf b1.extBut hS;have out:∀(v v':Heap)(e:Addr)(oe:Obj),IsZip v z p q .ellipsis→v.get? e=some oe→oe.cls=.type "StopIteration"→e≠z:=fun v v' e oe o1 o2 o3 n=>by
  rw[n] at o2;rw[o1] at o2;cases o2;simp at o3
 refine wpAny_bind (wpAny_bind (wpAny_onRaise ?_));change wpAny (model prog w) A (Builtin.SmallTypes.nextOf (.ref i)>>=_) _ _ _;rcases d with d|⟨x,d1,d2⟩
 ·refine wpAny_bind (d prog w A _ _ _ hh hS1 fun u2 e b2 he=>?_);obtain⟨oe,e1,e2⟩:=he;have oz2:IsZip u2 z p q .ellipsis:=b2 _ _ zi oz1;refine wpAny_setField_rec oz2 (by simp) fun u3 _ b3=>fin u3 e (fun c o n1 _ n3 _ h=>b3.extBut _ _ n1 (b2 _ _ n3 (b1.extBut _ _ n1 h))) ⟨oe,b3.extBut _ _ (out u2 u2 e oe oz2 e1 e2) e1,e2⟩
 ·refine wpAny_bind (d1 prog w A _ _ _ hS1 fun u2 s2 b2=>wpAny_pure ?_);have oq2:IsPair u2 q a b:=b2.extBut _ _ qi (b1.extBut _ _ qz oq);refine wpAny_bind (wpAny_seqItems oq2 rfl (wpAny_bind (wpAny_updateSeq_pair oq2 fun u3 oq3 b3=>wpAny_bind (wpAny_letGo (wpAny_pure ?_)))));refine wpAny_bind (wpAny_bind (wpAny_onRaise ?_));change wpAny (model prog w) A (Builtin.SmallTypes.nextOf (.ref j)>>=_) _ _ _;refine wpAny_bind (d2 prog w A _ _ _ hh (kR.but qg b3.extBut (kR.but ig b2.extBut (kR.but zg b1.extBut hR))) fun u4 e b4 he=>?_);obtain⟨oe,e1,e2⟩:=he;have oz4:IsZip u4 z p q .ellipsis:=b4 _ _ zj (b3.extBut _ _ (Ne.symm qz) (b2.extBut _ _ zi oz1));refine wpAny_setField_rec oz4 (by simp) fun u5 _ b5=>fin u5 e (fun c o n1 n2 n3 n4 h=>b5.extBut _ _ n1 (b4 _ _ n4 (b3.extBut _ _ n2 (b2.extBut _ _ n3 (b1.extBut _ _ n1 h))))) ⟨oe,b5.extBut _ _ (out u4 u4 e oe oz4 e1 e2) e1,e2⟩
end
end L2
end
section
namespace L2
open PySem PySem.Spec PyProof.Rows
section
variable{prog:Program}{w:World}{A:Around}{E:Value→Shared→Prop}{s:Shared}
theorem Pq{i t:Addr}{k:Nat}{xs:Array Value}:Holds [i,t] (fun h=>IsTupIter h i t k∧IsTup h t xs):=fun h h' x e=>by
 obtain⟨⟨o,h1,r1⟩,o2,h2,r2⟩:=x;exact⟨⟨o,e i (by simp) _ h1,r1⟩,o2,e t (by simp) _ h2,r2⟩
theorem Yr{i t:Addr}{k:Nat}:Holds [i,t] (fun h=>IsTupIter h i t k):=fun h h' x e=>by
 obtain⟨o,h1,r1⟩:=x;exact⟨o,e i (by simp) _ h1,r1⟩
theorem Pr{i l:Addr}{k:Nat}{xs:Array Value}:Holds [i,l] (fun h=>h.IsListIter i l k∧h.IsList l xs):=fun h h' x e=>⟨x.1.at fun o q=>e i (by simp) o q,x.2.at fun o q=>e l (by simp) o q⟩
theorem Ys{i l:Addr}{k:Nat}:Holds [i,l] (fun h=>h.IsListIter i l k):=fun h h' x e=>x.at fun o q=>e i (by simp) o q
theorem out2{a b c:Addr}(h1:a≠b)(h2:a≠c):a∉[b,c]:=by simp[h1,h2]
theorem Yt{z p q i j t l:Addr}{k1 k2:Nat}{xs ys:Array Value}{x y a b:Value}{Q:Option Value→Shared→Prop}(D:ZipApart z p q i j t l)
  (oz:IsZip s.heap z p q .none) (op:IsPair s.heap p (.ref i) (.ref j)) (oq:IsPair s.heap q a b) (h1:IsTupIter s.heap i t k1) (h2:s.heap.IsListIter j l k2) (ht:IsTup s.heap t xs) (hl:s.heap.IsList l ys) (hx:xs[k1]?=some x) (hy:ys[k2]?=some y)
  (fin:∀h',IsZip h' z p q (rawInt s.heap.objs.size)→IsPair h' q x y→IsTupIter h' i t (k1+1)→h'.IsListIter j l (k2+1)→IsPair h' s.heap.objs.size x y→h'.objs.size=s.heap.objs.size+1→
   (∀c o,c≠z→c≠q→c≠i→c≠j→s.heap.get? c=some o→h'.get? c=some o)→Q (some (.ref s.heap.objs.size)) {s with heap:=h'}):
  wpAny (model prog w) A (pyNext (.ref z)) Q E s:=by
 have ty:s.TypeIs (.ref z) "zip":=⟨_,oz,rfl⟩
 unfold pyNext;refine wpAny_bind (wpAny_attempt (wpAny_callSpecial?_slot (name:=Str.ofString "__next__") ty F.slot_zip_next (wpAny_call_entry F.slot_zip_next ty F.entry_zip_next
  (abx (US hx) (abw D.l2i2 hy) Pq Yr Pr Ys (out2 D.i1z.symm D.l1z.symm) (out2 D.i2z.symm D.l2z.symm) (out2 D.TOi1 D.l1TO.symm) (out2 D.TOi2 D.l2TO.symm) (out2 D.i12.symm D.l1i2.symm) (out2 D.i12 D.l2i1.symm) D.TOz D.TOi1 D.TOi2 D.i1z.symm D.i2z.symm oz op oq ⟨h1,ht⟩ ⟨h2,hl⟩
   fun h' a1 a2 a3 a4 a5 a6 a7=>wpAny_pure (fin h' a1 a2 a3 a4 a5 a6 a7)) (F.args_zip_next_1 _))))
theorem aby{z p q i j t l:Addr}{k1 k2:Nat}{xs ys:Array Value}{a b:Value}{Q:Option Value→Shared→Prop}(hh:A.handled=none)(D:ZipApart z p q i j t l)
  (oz:IsZip s.heap z p q .none) (op:IsPair s.heap p (.ref i) (.ref j)) (oq:IsPair s.heap q a b) (h1:IsTupIter s.heap i t k1) (h2:s.heap.IsListIter j l k2) (ht:IsTup s.heap t xs) (hl:s.heap.IsList l ys) (he:xs[k1]?=none∨ys[k2]?=none)
  (fin:∀h',(∀c o,c≠z→c≠q→c≠i→c≠j→s.heap.get? c=some o→h'.get? c=some o)→Q none {s with heap:=h'}):wpAny (model prog w) A (pyNext (.ref z)) Q E s:=by
 have ty:s.TypeIs (.ref z) "zip":=⟨_,oz,rfl⟩
 have d:abv i (fun h=>IsTupIter h i t k1∧IsTup h t xs)∨∃x,Pp i (fun h=>IsTupIter h i t k1∧IsTup h t xs) (fun h=>IsTupIter h i t (k1+1)) x∧abv j (fun h=>h.IsListIter j l k2∧h.IsList l ys):=by
  cases hx:xs[k1]? with
  |none=>exact .inl (agh hx)
  |some x=>
   rw[hx] at he;rcases he with he|he
   ·cases he
   ·exact .inr ⟨x,US hx,ad2 he⟩
 unfold pyNext;refine wpAny_bind (wpAny_attempt (wpAny_callSpecial?_slot (name:=Str.ofString "__next__") ty F.slot_zip_next (wpAny_call_entry F.slot_zip_next ty F.entry_zip_next
  (ad3 (A:=A.in1) hh d Pq Pr (out2 D.i1z.symm D.l1z.symm) (out2 D.i2z.symm D.l2z.symm) (out2 D.TOi2 D.l2TO.symm) (out2 D.i12 D.l2i1.symm) D.TOz D.TOi1 D.i1z.symm D.i2z.symm oz op oq ⟨h1,ht⟩ ⟨h2,hl⟩ fun h' e kp se=>?_) (F.args_zip_next_1 _))))
 obtain⟨o,ho,hc⟩:=se;exact wpAny_bind (wpAny_isInstance (T:="StopIteration") (b:=true) ⟨o,ho,hc⟩ isSubtype_stop (wpAny_pure (fin _ kp)))
abbrev uH1(h:Heap)(t:Addr):Heap:=h.push {cls:=.type "tuple_iterator",data:=.fields #[.ref t,.int 0 0]}
abbrev uH2(h:Heap)(t l:Addr):Heap:=(uH1 h t).push {cls:=.type "list_iterator",data:=.fields #[.ref l,.int 0 0]}
abbrev uH3(h:Heap)(t l:Addr):Heap:=(uH2 h t l).push {cls:=.type "tuple",data:=.seq #[.ref h.objs.size,.ref (uH1 h t).objs.size]}
abbrev uH4(h:Heap)(t l:Addr):Heap:=(uH3 h t l).push {cls:=.type "tuple",data:=.seq #[.none,.none]}
abbrev uH5(h:Heap)(t l:Addr):Heap:=(uH4 h t l).push {cls:=.type "zip",data:=.fields #[.none,.bool false,.bool false,.ref (uH2 h t l).objs.size,.ref (uH3 h t l).objs.size]}
theorem abz(t l:Addr)(xs ys:Array Value):Meets (Builtin.«zip.__new__» ⟨[.type "zip",.ref t,.ref l],[]⟩) (fun _ R s=>IsTup s.heap t xs∧s.heap.IsList l ys∧R (.ok (.ret (.ref (uH4 s.heap t l).objs.size))) {s with heap:=uH5 s.heap t l}):=
 .of_wp fun prog w A R s h=>by
  obtain⟨hp,g,d,tk,os⟩:=s;obtain⟨ht,hl,h⟩:=h;have sub:=sub_zip;have jt:IsTup (Shared.heap ⟨hp,g,d,tk,os⟩) t xs:=ht;have jl:Heap.IsList (Shared.heap ⟨uH1 hp t,g,d,tk,os⟩) l ys:=Heap.IsList.push hl _
  wp_walk using iter_tuple jt,wpAny_pyIter_list jl
  exact⟨_,rfl,h⟩
theorem abA{t l:Addr}{xs ys:Array Value}{Q:Value→Shared→Prop}(ht:IsTup s.heap t xs)(hl:s.heap.IsList l ys)
  (fin:∀h',IsZip h' (s.heap.objs.size+4) (s.heap.objs.size+2) (s.heap.objs.size+3) .none→IsPair h' (s.heap.objs.size+2) (.ref s.heap.objs.size) (.ref (s.heap.objs.size+1))→IsPair h' (s.heap.objs.size+3) .none .none→
   IsTupIter h' s.heap.objs.size t 0→h'.IsListIter (s.heap.objs.size+1) l 0→(∀c o,s.heap.get? c=some o→h'.get? c=some o)→Q (.ref (s.heap.objs.size+4)) {s with heap:=h'}):
  wpAny (model prog w) A (call (.type "zip") [.ref t,.ref l]) Q E s:=by
 refine callType_new F.called_zip (by decide) (F.typeCall_zip_2 _ _) (F.newCall_zip_2 _ _) (fun obj=>F.args_object_init_3 obj _ _) F.entry_zip_new (abz t l xs ys) ⟨ht,hl,?_⟩;have z1:(uH1 s.heap t).objs.size=s.heap.objs.size+1:=Heap.size_push ..;have z2:(uH2 s.heap t l).objs.size=s.heap.objs.size+2:=(Heap.size_push ..).trans (by rw[z1]);have z3:(uH3 s.heap t l).objs.size=s.heap.objs.size+3:=(Heap.size_push ..).trans (by rw[z2]);have z4:(uH4 s.heap t l).objs.size=s.heap.objs.size+4:=(Heap.size_push ..).trans (by rw[z3]);have up:∀{h:Heap}{o:Obj}{c:Addr}{o':Obj},h.get? c=some o'→(h.push o).get? c=some o':=fun q=>Heap.get?_push_of_some _ q;have k5:(uH5 s.heap t l).get? (uH4 s.heap t l).objs.size=some _:=Heap.get?_push_size _ rfl;have k4:(uH5 s.heap t l).get? (uH3 s.heap t l).objs.size=some _:=up (Heap.get?_push_size _ rfl);have k3:(uH5 s.heap t l).get? (uH2 s.heap t l).objs.size=some _:=up (up (Heap.get?_push_size _ rfl));have k2:(uH5 s.heap t l).get? (uH1 s.heap t).objs.size=some _:=up (up (up (Heap.get?_push_size _ rfl)));have k1:(uH5 s.heap t l).get? s.heap.objs.size=some _:=up (up (up (up (Heap.get?_push_size _ rfl))));show _∧_;rw[z2,z3,z4] at k5;rw[z3] at k4;rw[z1,z2] at k3;rw[z1] at k2;rw[z4];exact⟨⟨_,k5,rfl⟩,fin _ k5 k3 k4 ⟨_,k1,rfl,rfl⟩ ⟨_,k2,rfl,rfl⟩ fun c o q=>up (up (up (up (up q))))⟩
end
end L2
end
section
namespace L2
open PySem PySem.Spec PyProof.Rows
theorem ad4(l:Addr)(xs:Array Value)(n:Nat)(d:Option Addr)(sl:Array (Option Value))(u:Tok):
  Meets (Builtin.«tuple.__mul__» ⟨[.ref l,.int 1 u],[]⟩) (fun _ R s=>s.heap.get? l=some {cls:=.type "tuple",dict:=d,data:=.seq xs n,slots:=sl}∧R (.ok (.ret (.ref l))) s):=
 .of_wp fun prog w A R s h=>by
  obtain⟨hp,g,d,tk,os⟩:=s;obtain⟨hl,h⟩:=h
  wp_walk
  exact⟨_,rfl,h⟩
theorem abB(l:Addr)(xs:Array Value)(n:Nat)(d:Option Addr)(sl:Array (Option Value))(u:Tok)(hx:¬xs.isEmpty=true):
  Meets (Builtin.«tuple.__mul__» ⟨[.ref l,.int 0 u],[]⟩) (fun _ R s=>s.heap.get? l=some {cls:=.type "tuple",dict:=d,data:=.seq xs n,slots:=sl}∧R (.ok (.ret (.ref s.heap.objs.size))) {s with heap:=s.heap.push {cls:=.type "tuple",data:=.seq #[]},toks:=s.toks}):=
 .of_wp fun prog w A R s h=>by
  obtain⟨hp,g,d,tk,os⟩:=s;obtain⟨hl,h⟩:=h;have hx0:(xs.isEmpty||(0:Int)==1)=false:=by simp[hx]
  wp_walk
  exact⟨_,rfl,h⟩
theorem abC(l:Addr)(xs:Array Value)(n:Nat)(d:Option Addr)(sl:Array (Option Value))(k:Int)(u:Tok)(hx:¬xs.isEmpty=true)(h2:2≤k)(h3:k<2 ^ 63)(hz:xs.size*k.toNat≤sizeLine):
  Meets (Builtin.«tuple.__mul__» ⟨[.ref l,.int k u],[]⟩) (fun _ R s=>s.heap.get? l=some {cls:=.type "tuple",dict:=d,data:=.seq xs n,slots:=sl}∧R (.ok (.ret (.ref s.heap.objs.size))) {s with heap:=s.heap.push {cls:=.type "tuple",data:=.seq (List.foldl (fun x1 x2=>x1++x2) #[] (List.replicate k.toNat xs))},toks:=s.toks}):=
 .of_wp fun prog w A R s h=>by
  obtain⟨hp,g,d,tk,os⟩:=s;obtain⟨hl,h⟩:=h;have e:((xs.size:Nat):Int)*k=((xs.size*k.toNat:Nat):Int):=by
   have:k=((k.toNat:Nat):Int):=by omega
   conv=>lhs;rw[this]
   exact(Int.natCast_mul _ _).symm
  have big:(sizeLine:Nat)≤(2 ^ 63 - 1)/8:=by decide
  have c1:(decide (k< -2 ^ 63)||decide (k≥2 ^ 63))=false:=by
   rw[Bool.or_eq_false_iff];exact⟨decide_eq_false (by omega),decide_eq_false (by omega)⟩
  have c2:(xs.isEmpty||k==1)=false:=by
   rw[Bool.or_eq_false_iff];exact⟨by simpa using hx,beq_false_of_ne (by omega)⟩
  have c3:(decide (k≤0)||xs.isEmpty)=false:=by
   rw[Bool.or_eq_false_iff];exact⟨decide_eq_false (by omega),by simpa using hx⟩
  have c6:(List.foldl (fun x1 x2=>x1++x2) #[] (List.replicate k.toNat xs)).size≤sizeLine:=by
   have f:=foldl_rep xs.toList k.toNat [];rw[List.nil_append] at f;have f2:List.foldl (fun x1 x2=>x1++x2) #[] (List.replicate k.toNat xs)=(List.replicate k.toNat xs.toList).flatten.toArray:=f;rw[f2,List.size_toArray,len_rep,Array.length_toList,Nat.mul_comm];exact hz
  have c4:¬((xs.size:Nat):Int)*k>(2 ^ 63 - 1)/8:=by rw[e];omega
  have c5:Builtin.Tuple.tupleTooMany (((xs.size:Nat):Int)*k)=false:=by
   unfold Builtin.Tuple.tupleTooMany;rw[e];exact decide_eq_false (by omega)
  wp_walk
  refine wpAny_ite_false (by rw[c1];rfl) ?_
  wp_walk
  refine wpAny_ite_false (by rw[c2];rfl) ?_
  wp_walk
  refine wpAny_ite_false (by rw[c3];rfl) ?_
  wp_walk
  refine wpAny_ite_false (decide_eq_false c4) ?_
  wp_walk
  refine wpAny_ite_false (by rw[c5];rfl) ?_
  wp_walk
  exact⟨_,rfl,h⟩
theorem akH(a:Int)(t:Tok)(l:Addr)(xs:Array Value)(n:Nat)(d:Option Addr)(sl:Array (Option Value)):
  Meets (Builtin.«int.__rmul__» ⟨[.int a t,.ref l],[]⟩) (fun _ R s=>s.heap.get? l=some {cls:=.type "tuple",dict:=d,data:=.seq xs n,slots:=sl}∧R (.ok (.ret Value.notImplemented)) s):=
 .of_wp fun prog w A R s h=>by
  obtain⟨hp,g,d,tk,os⟩:=s;obtain⟨hl,h⟩:=h
  wp_walk
  exact⟨_,rfl,h⟩
theorem QM:fillsNumberSlot (.type "tuple") "mul"=pure false:=
 PySem.fillsNumberSlot_seq (r:=some (.builtin "tuple.__rmul__")) PySem.F.slot_tuple_mul.lookup (by decide+kernel) PySem.F.slot_tuple_rmul.lookup (by decide+kernel)
theorem ML:seqRepeat? (.type "tuple")=pure (some (.builtin "tuple.__mul__")):=by
 have h1:=PySem.seqSlot_of (T:="tuple") (name:="__mul__") PySem.F.slot_tuple_mul.lookup (by decide+kernel);have h2:=PySem.seqSlot_of (T:="tuple") (name:="__rmul__") PySem.F.slot_tuple_rmul.lookup (by decide+kernel);unfold seqRepeat?;rw[h1,h2];rfl
section
variable{X:Cx}
theorem SqT.same{K:PySem.W.Frag}{H H':Hp}{a:Addr}{xs:List V}(e:aF H H')(h:SqT K H a xs):SqT K H' a xs:=by
 rcases h with(h|⟨o,h⟩)|h
 ·exact .inl (.inl (e _ _ h))
 ·exact .inl (.inr ⟨o,e _ _ h⟩)
 ·exact .inr h
theorem Jx{H:Hp}{p:Addr}{o:HO}(h:H p=none):aF H (upd H p o):=fun b u e=>by rw[ab (ai e h)];exact e
def akI(K:PySem.W.Frag):R2:=fun x y H Q=>∃(a:Addr)(k:Nat)(xs:List V),x=.ref a∧y=.int k∧SqT K H a xs∧xs≠[]∧xs.length*k≤sizeLine∧∀p H',aF H H'→SqT K H' p (List.replicate k xs).flatten→Q (.ref p) H'
theorem agj:OpR X (binaryOp .Mult) (akI X.K):=by
 intro pins s σ H x y v u Q I rx ry h;obtain⟨a,k,xs,rfl,rfl,ha,hx,hz,q⟩:=h;cases rx;obtain⟨t,rfl⟩:=ry;obtain⟨its,r,p,_⟩:=I.tuple ha;obtain⟨⟨c,dd,data,sl⟩,ho,hc,n,hd⟩:=id p;simp only at hc hd;subst hc hd;have hne:¬its.toArray.isEmpty=true:=by
  have:its≠[]:=fun e=>hx (r.AQ.mp e)
  simpa using this
 have hl:its.length=xs.length:=r.length.symm;refine wpAny_binaryOp_repeat_ref (T:="tuple") (U:="int") (by decide) ⟨_,ho,rfl⟩ (fun s'=>typeIs_int s' k t) QM PySem.F.fills_int_mul PySem.F.slot_int_rmul ML PySem.F.slot_int_index.lookup
  (call_meets PySem.F.slot_int_rmul (typeIs_int s k t) PySem.F.entry_int_rmul (PySem.F.args_int_rmul_2 _ _) (akH k t a its.toArray n dd sl) ⟨ho,rfl,⟨_,ho,rfl⟩,?_⟩)
 have small:(sizeLine:Nat)<2 ^ 63:=by decide
 have kle:k≤sizeLine:=by
  have:1≤xs.length:=by cases xs with|nil=>exact absurd rfl hx|cons _ _=>simp
  calc k=1*k:=(Nat.one_mul k).symm
   _≤xs.length*k:=Nat.mul_le_mul_right _ this
   _≤sizeLine:=hz
 match k,t with
 |0,t=>
  refine call_meets PySem.F.slot_tuple_mul ⟨_,ho,rfl⟩ PySem.F.entry_tuple_mul (PySem.F.args_tuple_mul_2 _ _) (abB a its.toArray n dd sl t hne) ⟨ho,?_⟩;have new:H s.heap.objs.size=none:=I.hok.fresh (Nat.le_refl _);refine⟨.ref s.heap.objs.size,_,I.laid (t':=s.toks) (o:=.tup []) (fun b ob q=>Heap.get?_push_of_some _ q) (Nat.le_refl _) ⟨Nat.zero_le _,[],.nil,IsTup.new _ _⟩,rfl,q _ _ (Jx new) (SqT.of ae)⟩
 |1,t=>
  refine call_meets PySem.F.slot_tuple_mul ⟨_,ho,rfl⟩ PySem.F.entry_tuple_mul (PySem.F.args_tuple_mul_2 _ _) (ad4 a its.toArray n dd sl t) ⟨ho,?_⟩;refine⟨.ref a,H,I,rfl,q _ _ (fun _ _ e=>e) ?_⟩;have e:(List.replicate 1 xs).flatten=xs:=by simp
  rw[e];exact ha
 |k+2,t=>
  refine call_meets PySem.F.slot_tuple_mul ⟨_,ho,rfl⟩ PySem.F.entry_tuple_mul (PySem.F.args_tuple_mul_2 _ _) (abC a its.toArray n dd sl ((k+2:Nat):Int) t hne (by omega) (by omega) (by rw[List.size_toArray,hl];exact hz)) ⟨ho,?_⟩;have new:H s.heap.objs.size=none:=I.hok.fresh (Nat.le_refl _);have e:List.foldl (fun x1 x2=>x1++x2) #[] (List.replicate ((k+2:Nat):Int).toNat its.toArray)=(List.replicate (k+2) its).flatten.toArray:=by
   have:=foldl_rep its (k+2) [];rw[List.nil_append] at this;exact this
  rw[e];refine⟨.ref s.heap.objs.size,_,I.laid (t':=s.toks) (o:=.tup (List.replicate (k+2) xs).flatten) (fun b ob q=>Heap.get?_push_of_some _ q) (Nat.le_refl _) ⟨by rw[len_rep,Nat.mul_comm];exact hz,_,r.rep (k+2),IsTup.new _ _⟩,rfl,q _ _ (Jx new) (SqT.of ae)⟩
def akJ(K:PySem.W.Frag):R2:=fun x y H Q=>∃(a b:Addr)(xs ys:List V),x=.ref a∧y=.ref b∧SqT K H a xs∧SqT K H b ys∧xs.length+ys.length≤sizeLine∧∀p H',aF H H'→SqT K H' p (xs++ys)→Q (.ref p) H'
theorem agk:OpR X (binaryOp .Add) (akJ X.K):=by
 intro pins s σ H x y v u Q I rx ry h;obtain⟨a,b,xs,ys,rfl,rfl,ha,hb,hz,q⟩:=h;by_cases hx:xs=[]
 ·subst hx;cases rx;cases ry;obtain⟨its,r1,p1,_⟩:=I.tuple ha;obtain⟨its2,r2,p2,_⟩:=I.tuple hb;have e:its=[]:=r1.AQ.mpr rfl;subst e;obtain⟨⟨c,dd,data,sl⟩,ho,hc,n,hd⟩:=id p1;obtain⟨⟨c2,dd2,data2,sl2⟩,ho2,hc2,n2,hd2⟩:=id p2;simp only at hc hd hc2 hd2;subst hc hd hc2 hd2;exact concat_meets ⟨_,ho,rfl⟩ ⟨_,ho2,rfl⟩ noFill_tuple_add seq_tuple_add PySem.F.slot_tuple_add PySem.F.entry_tuple_add (PySem.F.args_tuple_add_2 _ _)
   (tuple_addW0 a b _ _ n n2 dd dd2 sl sl2 (by simp)) ⟨ho,ho2,.ref b,H,I,rfl,q _ _ (fun _ _ e=>e) hb⟩
 ·refine afS pins s σ H _ _ v u Q I rx ry ⟨a,b,xs,ys,rfl,rfl,ha,hb,hx,hz,fun e=>?_,fun e p hp=>q _ _ (Jx hp) (SqT.of ae)⟩;exact q _ _ (fun _ _ e=>e) (by rw[e,List.append_nil];exact ha)
def Itu(K:PySem.W.Frag)(t l:Addr):It where
 go:=fun i H=>∃(xs ys:List V),SqT K H t xs∧SqL K H l ys∧i<xs.length∧i<ys.length
 yld:=fun i H v H'=>∃(n:Addr)(x y:V),H n=none∧v=.ref n∧H'=upd H n (.tup [x,y])∧(∀xs,SqT K H t xs→xs[i]?=some x)∧(∀ys,SqL K H l ys→ys[i]?=some y)
 stop:=fun i H=>∃(xs ys:List V),SqT K H t xs∧SqL K H l ys∧(xs.length≤i∨ys.length≤i)
structure Zst(z p q i j t l:Addr)(k:Nat)(h:Heap):Prop where
 oz:IsZip h z p q .none
 op:IsPair h p (.ref i) (.ref j)
 oq:∃a b,IsPair h q a b
 oi:IsTupIter h i t k
 oj:h.IsListIter j l k
theorem five{z p q i j c:Addr}(h:c∈[z,p,q,i,j]):c=z∨c=p∨c=q∨c=i∨c=j:=by simpa using h
theorem aad{z p q i j c:Addr}(h:c∉[z,p,q,i,j]):c≠z∧c≠q∧c≠i∧c≠j:=by
 simp only[List.mem_cons,List.not_mem_nil,or_false,not_or] at h;exact⟨h.1,h.2.2.1,h.2.2.2.1,h.2.2.2.2⟩
theorem Zst.obj{z p q i j t l:Addr}{k:Nat}{h:Heap}(Z:Zst z p q i j t l k h):∀c∈[z,p,q,i,j],∃o,h.get? c=some o∧∀v,o.data≠.cell v:=fun c hc=>by
 obtain⟨a,b,oq⟩:=Z.oq;obtain⟨o1,e1,_,d1⟩:=Z.oi;obtain⟨o2,e2,_,d2⟩:=Z.oj;rcases five hc with rfl|rfl|rfl|rfl|rfl
 ·exact⟨_,Z.oz,fun v e=>nomatch e⟩
 ·exact⟨_,Z.op,fun v e=>nomatch e⟩
 ·exact⟨_,oq,fun v e=>nomatch e⟩
 ·exact⟨o1,e1,fun v e=>by rw[d1] at e;cases e⟩
 ·exact⟨o2,e2,fun v e=>by rw[d2] at e;cases e⟩
theorem abD{P:Program}{w:World}{K:PySem.W.Frag}{elts:List Expr}{kk:Nat}{tpos:Pos}{z p q i j t l:Addr}(D:ZipApart z p q i j t l):Turn P w K (.Tuple elts kk tpos) (Itu K t l) [z,p,q,i,j] z (Zst z p q i j t l) where
 mem:=List.mem_cons_self
 obj:=fun _ _ Z=>Z.obj
 keep:=fun k h h' Z up=>by
  obtain⟨a,b,oq⟩:=Z.oq;obtain⟨o1,e1,r1⟩:=Z.oi;exact⟨up z (by simp) _ Z.oz,up p (by simp) _ Z.op,⟨a,b,up q (by simp) _ oq⟩,⟨o1,up i (by simp) _ e1,r1⟩,Z.oj.at fun o e=>up j (by simp) o e⟩
 item:=by
  intro X eP ew eK hc k pins s σ H E I hf Z hg;subst eP ew eK;obtain⟨xs,ys,hx,hy,lx,ly⟩:=hg;obtain⟨a,b,oq⟩:=Z.oq;obtain⟨us,r1,p1,_⟩:=I.tuple hx;obtain⟨vs,r2,p2,_⟩:=I.list hy;obtain⟨u,hu,ru⟩:=r1.get (List.getElem?_eq_getElem lx);obtain⟨v,hv,rv⟩:=r2.get (List.getElem?_eq_getElem ly);refine Yt D Z.oz Z.op oq Z.oi Z.oj p1 p2.isList (x:=u) (y:=v) (by simpa using hu) (by simpa using hv) fun h1 z1 q1 i1 j1 n1 _ up=>⟨_,rfl,wpAny_letOwnedTupleGo_zip (s:={s with heap:=h1}) z1 fun h2 z2 sb=>?_⟩
  have zlt:∀c∈[z,p,q,i,j],c<s.heap.objs.size:=fun c hc=>by
   obtain⟨o,e,_⟩:=Z.obj c hc;exact Heap.lt_size e
  have zn:s.heap.objs.size≠z:=Nat.ne_of_gt (zlt z (by simp));have n2:h2.get? s.heap.objs.size=some {cls:=.type "tuple",data:=.seq #[u,v]}:=(sb.2 _ zn).trans n1;have ok2:cO X.prog X.w (upd H s.heap.objs.size (.tup [xs[k],ys[k]])) h2 s.heap.objs.size (.tup [xs[k],ys[k]]):=⟨by show 2≤sizeLine;decide,[u,v],.cons ru (.cons rv .nil),⟨_,n2,rfl,_,rfl⟩⟩
  have I2:=I.Pd (t':=s.toks) (ch:=[z,p,q,i,j]) (h':=h2) (fun c o nc e=>by
   obtain⟨c1,c2,c3,c4⟩:=aad nc;exact(sb.2 c c1).trans (up c o c1 c2 c3 c4 e)) hf (Nat.le_refl _) ok2
  refine⟨.ref s.heap.objs.size,_,I2,rfl,⟨_,_,_,I.hok.fresh (Nat.le_refl _),rfl,rfl,fun xs' h'=>?_,fun ys' h'=>?_⟩,⟨z2,?_,⟨u,v,(sb.2 _ D.TOz).trans q1⟩,?_,j1.at fun o e=>(sb.2 _ D.i2z).trans e⟩,fun c hc=>?_⟩
  ·rw[I.aaV h' hx];exact List.getElem?_eq_getElem lx
  ·rw[I.Ul h' hy];exact List.getElem?_eq_getElem ly
  ·exact(sb.2 _ D.TIz).trans (up _ _ D.TIz D.TITO D.TIi1 D.TIi2 Z.op)
  ·obtain⟨o1,e1,r⟩:=i1;exact⟨o1,(sb.2 _ D.i1z).trans e1,r⟩
  ·rw[ab (Nat.ne_of_lt (zlt c hc))];exact(hf c hc).1
 done:=by
  intro X eP ew eK hc k pins s σ H E I hf Z hg;subst eP ew eK;obtain⟨xs,ys,hx,hy,hend⟩:=hg;obtain⟨a,b,oq⟩:=Z.oq;obtain⟨us,r1,p1,_⟩:=I.tuple hx;obtain⟨vs,r2,p2,_⟩:=I.list hy;have l1:=r1.length;have l2:=r2.length;refine aby (I.ok.hd hc) D Z.oz Z.op oq Z.oi Z.oj p1 p2.isList ?_ fun h' up=>⟨rfl,I.af2 (t':=s.toks) (ch:=[z,p,q,i,j]) (fun c o nc e=>?_) hf⟩
  ·rcases hend with e|e
   ·exact .inl (by simp;omega)
   ·exact .inr (by simp;omega)
  ·obtain⟨c1,c2,c3,c4⟩:=aad nc;exact up c o c1 c2 c3 c4 e
 self:=fun A k s Q E Z h=>wpAny_pyIter_zip Z.oz h
def akK(K:PySem.W.Frag)(ta:TA):TI:=fun σ H R=>ta σ H fun vs H1=>∃(t l:Addr)(xs ys:List V),vs=[.ref t,.ref l]∧SqT K H1 t xs∧SqL K H1 l ys∧R (Itu K t l) H1
theorem agl{e e2:Expr}{ta:TA}{p pos tpos:Pos}{elts:List Expr}{kk:Nat}(hg:Gl X "zip")(hm:X.mg "zip"=none)(ha:PA X [e,e2] ta)
  (hs:starEach [e,e2] X.env=(false,eval e X.env)::starEach [e2] X.env:=by rfl) (hpl:(backTo pos (starEach [e2] X.env)).any (·.1)=false:=by rfl):PI X (.Tuple elts kk tpos) (.Call (.Name "zip" p) [e,e2] [] pos) (akK X.K ta):=by
 intro pins s σ H R I h;refine Call_ (Jg I hg hm abe (PyProof.Rows.callWith_type1 (thn (ha pos pins s σ H _ I h) fun us s1 ⟨vs,H1,I1,rel,q1⟩=>?_) hs hpl));obtain⟨t,l,xs,ys,rfl,hx,hy,q⟩:=q1;rcases rel with _|⟨ra,rel⟩;rcases rel with _|⟨rb,rel⟩;cases rel;cases ra;cases rb;obtain⟨us,r1,p1,_⟩:=I1.tuple hx;obtain⟨vs,r2,p2,_⟩:=I1.list hy;have lt1:t<s1.heap.objs.size:=by obtain⟨o,e,_⟩:=p1;exact Heap.lt_size e
 have lt2:l<s1.heap.objs.size:=p2.lt;refine abA p1 p2.isList fun h' oz op oq oi oj up=>wpAny_pyIter_zip oz ?_;have I2:Inv X pins σ H1 {s1 with heap:=h'}:=I1.kept (t':=s1.toks) up;generalize hn:s1.heap.objs.size=n at*;have fr:∀c∈[n+4,n+2,n+3,n,n+1],DH X pins H1 c:=fun c hc=>by
  have le:s1.heap.objs.size≤c:=by
   rw[hn];rcases five hc with e|e|e|e|e
   all_goals (rw[e];first|exact Nat.le_add_right _ _|exact Nat.le_refl _)
  exact I1.adg le (I1.hok.fresh le)
 exact⟨n+4,[n+4,n+2,n+3,n,n+1],Zst (n+4) (n+2) (n+3) n (n+1) t l,Itu X.K t l,H1,rfl,I2,abD (PySem.W.ktu_apart n t l lt1 lt2),⟨oz,op,⟨_,_,oq⟩,oi,oj⟩,fr,q⟩
end
theorem ad5{K:PySem.W.Frag}{t l:Addr}{xs ys:List V}{g:TG}{tb:TS}{D:Ends}{σ:St}{H:Hp}(hlen:xs.length=ys.length)(Pv:Nat→St→Hp→Prop)(h0:Pv 0 σ H)(hG:∀i σ H,Pv i σ H→SqT K H t xs∧SqL K H l ys)
  (hs:∀i x y n σ H,xs[i]?=some x→ys[i]?=some y→H n=none→Pv i σ H→g (.ref n) σ (upd H n (.tup [x,y])) fun σ2 H2=>tb {D with nx:=Pv (i+1),ct:=Pv (i+1),bk:=D.nx} σ2 H2) (hd:∀σ H,Pv xs.length σ H→D.nx σ H):
  ∃W:Nat→Nat→St→Hp→Prop,(∃m,W 0 m σ H)∧∀i m σ H,W i m σ H→
   ((Itu K t l).stop i H∧D.nx σ H)∨((Itu K t l).go i H∧∃N:St→Hp→Prop,(∀σ' H',N σ' H'→∃m',m'<m∧W (i+1) m' σ' H')∧∀x H',(Itu K t l).yld i H x H'→g x σ H' fun σ2 H2=>tb {D with nx:=N,ct:=N,bk:=D.nx} σ2 H2):=by
 refine⟨fun i m σ H=>m+i=xs.length∧Pv i σ H,⟨xs.length,rfl,h0⟩,fun i m σ H ⟨hm,pv⟩=>?_⟩;obtain⟨hx,hy⟩:=hG i σ H pv;cases m with
 |zero=>
  have e:i=xs.length:=by omega
  exact .inl ⟨⟨xs,ys,hx,hy,.inl (by omega)⟩,by subst e;exact hd σ H pv⟩
 |succ m=>
  refine .inr ⟨⟨xs,ys,hx,hy,by omega,by omega⟩,Pv (i+1),fun σ' H' p'=>⟨m,by omega,by omega,p'⟩,fun v H' yl=>?_⟩;obtain⟨n,x,y,hn,rfl,rfl,e1,e2⟩:=yl;exact hs i x y n σ H (e1 xs hx) (e2 ys hy) hn pv
end L2
end
section
namespace My
open PySem PySem.Spec PyProof.Rows L2
open Vbsoaa (Man Order Table orderNums bit linked place)
structure Pt where
 k:Addr
 l:Addr
 s:Addr
 u:Addr
 m:List Addr
def tfs(d:Pt):List (Str×V):=[("kinds",.ref d.k),("land_links",.ref d.l),("sea_links",.ref d.s),("units",.ref d.u)]
def ufs(m:Man)(o:Addr)(way:Bool):List (Str×V):=[("power",.int m.power),("fleet",.int (bit m.fleet)),("shore",.int m.shore),("order",.ref o),("way",.int (bit way))]
def nV(n:Nat):V:=.int n
def nK(n:Nat):Key:=.inl n
def plK(x:Nat):List Key:=[nK (x/4),nK (x % 4)]
def fR(x y:Nat):List Key:=[nK (min x y),nK (max x y)]
def mz(x y:Nat):ff:=(plK (min x y),plK (max x y))
def nW(l:List (Nat×Nat)):List (List Key×V):=l.map fun k=>(fR k.1 k.2,.bl true)
def Hl(l:List (Nat×Nat)):List (ff×V):=l.map fun k=>(mz k.1 k.2,.bl true)
theorem iw{a b:Nat}(h:nK a=nK b):a=b:=by
 unfold nK at h;injection h with h
 exact Int.ofNat.inj h
theorem UT{x y a b:Nat}:fR x y=fR a b↔min x y=min a b∧max x y=max a b:=by
 unfold fR;constructor
 ·intro h;injection h with h1 h2
  injection h2 with h2 _
  exact⟨iw h1,iw h2⟩
 ·rintro⟨h1,h2⟩;rw[h1,h2]
theorem QN{x y:Nat}(h:plK x=plK y):x=y:=by
 unfold plK at h;injection h with h1 h2
 injection h2 with h2 _
 have:=iw h1;have:=iw h2;omega
theorem Yu{x y a b:Nat}:mz x y=mz a b↔min x y=min a b∧max x y=max a b:=by
 unfold mz;constructor
 ·intro h;injection h with h1 h2
  exact⟨QN h1,QN h2⟩
 ·rintro⟨h1,h2⟩;rw[h1,h2]
theorem zo(l:List (Nat×Nat))(x y:Nat):(aR (nW l) (fR x y)).isSome=linked l x y:=by
 rw[←kz,Jo];unfold nW;rw[List.any_map];congr 1;funext k;show decide (fR k.1 k.2=fR x y)=_;exact decide_eq_decide.mpr UT
theorem DP(l:List (Nat×Nat))(x y:Nat):(aR (Hl l) (mz x y)).isSome=linked l x y:=by
 rw[←kz,Jo];unfold Hl;rw[List.any_map];congr 1;funext k;show decide (mz k.1 k.2=mz x y)=_;exact decide_eq_decide.mpr Yu
def jS(K:PySem.W.Frag)(CU:Addr)(H:Hp)(b:Addr)(m:Man)(way:Bool):Prop:=
 ∃dx o,H b=some (.ins CU dx (ufs m o way))∧SqT K H o ((orderNums m.order).map V.int)
def aD(ms:List Man)(as:List Addr):List (Key×V):=(ms.zip as).map fun p=>(nK p.1.prov,.ref p.2)
structure TableAt(P:Program)(w:World)(K:PySem.W.Frag)(CT CU:Addr)(H:Hp)(ta:Addr)(d:Pt)(t:Table):Prop where
 tab:∃dx,H ta=some (.ins CT dx (tfs d))
 kinds:H d.k=some (.lst (t.board.kinds.map nV))
 land:H d.l=some (.dT (nW t.board.land))
 sea:Hj P w H d.s (Hl t.board.sea)
 units:H d.u=some (.dK (aD t.men d.m))
 len:d.m.length=t.men.length
 nd:d.m.Nodup
 at_:∀(i:Nat)(m:Man)(b:Addr),t.men[i]?=some m→d.m[i]?=some b→jS K CU H b m (t.water.contains m.prov)
def foot(ta:Addr)(d:Pt):List Addr:=ta::d.k::d.l::d.s::d.u::d.m
theorem jS.same{K:PySem.W.Frag}{CU:Addr}{H H':Hp}{b:Addr}{m:Man}{y:Bool}(u:jS K CU H b m y)(hb:∀o,H b=some o→H' b=some o)(ht:∀b xs,H b=some (.tup xs)→H' b=some (.tup xs))(hf:∀b o u,H b=some (.frz o u)→H' b=some (.frz o u)):jS K CU H' b m y:=by
 obtain⟨dx,o,h1,h2⟩:=u;refine⟨dx,o,hb _ h1,?_⟩;rcases h2 with(h|⟨z,h⟩)|h
 ·exact .inl (.inl (ht _ _ h))
 ·exact .inl (.inr ⟨z,hf _ _ _ h⟩)
 ·exact .inr h
section
variable{P:Program}{w:World}{K:PySem.W.Frag}{CT CU:Addr}{H H':Hp}{ta:Addr}{d:Pt}{t:Table}
theorem TableAt.there(T:TableAt P w K CT CU H ta d t){b:Addr}(hb:b∈foot ta d):∃o,H b=some o:=by
 unfold foot at hb;simp only[List.mem_cons] at hb;rcases hb with h|h|h|h|h|h
 ·obtain⟨dx,e⟩:=T.tab;rw[h];exact⟨_,e⟩
 ·rw[h];exact⟨_,T.kinds⟩
 ·rw[h];exact⟨_,T.land⟩
 ·obtain⟨_,_,_,xs,e,_⟩:=T.sea;rw[h];exact⟨_,e⟩
 ·rw[h];exact⟨_,T.units⟩
 ·obtain⟨i,hi⟩:=List.mem_iff_getElem?.mp h;have hl:i<t.men.length:=by rw[←T.len];exact(List.getElem?_eq_some_iff.mp hi).1
  obtain⟨_,_,e,_⟩:=T.at_ i t.men[i] b (List.getElem?_eq_getElem hl) hi
  exact⟨_,e⟩
theorem TableAt.same(T:TableAt P w K CT CU H ta d t)(h:∀b∈foot ta d,∀o,H b=some o→H' b=some o)(ht:∀b xs,H b=some (.tup xs)→H' b=some (.tup xs))(hf:∀b o u,H b=some (.frz o u)→H' b=some (.frz o u)):TableAt P w K CT CU H' ta d t:=by
 refine⟨?_,h _ (by simp[foot]) _ T.kinds,h _ (by simp[foot]) _ T.land,?_,h _ (by simp[foot]) _ T.units,T.len,T.nd,fun i m b hm hb=>(T.at_ i m b hm hb).same (h b (by simp[foot,List.mem_of_getElem? hb])) ht hf⟩
 ·obtain⟨dx,e⟩:=T.tab;exact⟨dx,h _ (by simp[foot]) _ e⟩
 ·obtain⟨h1,h2,h3,xs,e,r⟩:=T.sea;exact⟨h1,h2,h3,xs,h _ (by simp[foot]) _ e,K2.same ht r⟩
theorem TableAt.sameAll(T:TableAt P w K CT CU H ta d t)(h:aF H H'):TableAt P w K CT CU H' ta d t:=T.same (fun b _ o e=>h b o e) (fun b xs e=>h b _ e) (fun b o u e=>h b _ e)
theorem aw{p:Addr}{o:HO}(hp:H p=none):aF H (L2.upd H p o):=fun b u e=>by rw[ab (ai e hp)];exact e
theorem TableAt.upd{p:Addr}{o:HO}(T:TableAt P w K CT CU H ta d t)(hp:H p=none):TableAt P w K CT CU (L2.upd H p o) ta d t:=T.sameAll (aw hp)
end
section
variable{P:Program}{w:World}{K:PySem.W.Frag}{CT CU:Addr}{H H':Hp}{ta:Addr}{d:Pt}{t:Table}
theorem TableAt.agm(T:TableAt P w K CT CU H ta d t):∃φ,H d.s=some (.ext φ):=by
 obtain⟨_,_,_,xs,e,_⟩:=T.sea;exact⟨_,e⟩
theorem TableAt.pK(T:TableAt P w K CT CU H ta d t){b:Addr}(hb:b∈d.m):∃dx fs,H b=some (.ins CU dx fs):=by
 obtain⟨i,hi⟩:=List.mem_iff_getElem?.mp hb;have hl:i<t.men.length:=by rw[←T.len];exact(List.getElem?_eq_some_iff.mp hi).1
 obtain⟨_,_,e,_⟩:=T.at_ i t.men[i] b (List.getElem?_eq_getElem hl) hi
 exact⟨_,_,e⟩
theorem TableAt.agn(T:TableAt P w K CT CU H ta d t)(n:Nat):TableAt P w K CT CU (L2.upd H d.k (.lst ((t.board.kinds++[n]).map nV))) ta d {t with board:={t.board with kinds:=t.board.kinds++[n]}}:=by
 have hk:=T.kinds;obtain⟨dx,htab⟩:=T.tab;have tup:∀b xs,H b=some (.tup xs)→L2.upd H d.k (.lst ((t.board.kinds++[n]).map nV)) b=some (.tup xs):=fun b xs e=>by rw[ab (aK e hk (fun z=>nomatch z))];exact e
 have frz:∀b o u,H b=some (.frz o u)→L2.upd H d.k (.lst ((t.board.kinds++[n]).map nV)) b=some (.frz o u):=fun b o u e=>by rw[ab (aK e hk (fun z=>nomatch z))];exact e
 refine⟨⟨dx,by rw[ab (aK htab hk (fun z=>nomatch z))];exact htab⟩,ae,by rw[ab (aK T.land hk (fun z=>nomatch z))];exact T.land,?_,by rw[ab (aK T.units hk (fun z=>nomatch z))];exact T.units,T.len,T.nd,fun i m b hm hb=>(T.at_ i m b hm hb).same (fun o e=>?_) tup frz⟩
 ·obtain⟨h1,h2,h3,xs,e,r⟩:=T.sea;exact⟨h1,h2,h3,xs,by rw[ab (aK e hk (fun z=>nomatch z))];exact e,K2.same tup r⟩
 ·obtain⟨_,_,e'⟩:=T.pK (List.mem_of_getElem? hb);rw[ab (aK e' hk (fun z=>nomatch z))];exact e
theorem TableAt.ago(T:TableAt P w K CT CU H ta d t)(x y:Nat):TableAt P w K CT CU (L2.upd H d.l (.dT (nW (t.board.land++[(x,y)])))) ta d {t with board:={t.board with land:=t.board.land++[(x,y)]}}:=by
 have hk:=T.land;obtain⟨dx,htab⟩:=T.tab;have tup:∀b xs,H b=some (.tup xs)→L2.upd H d.l (.dT (nW (t.board.land++[(x,y)]))) b=some (.tup xs):=fun b xs e=>by rw[ab (aK e hk (fun z=>nomatch z))];exact e
 have frz:∀b o u,H b=some (.frz o u)→L2.upd H d.l (.dT (nW (t.board.land++[(x,y)]))) b=some (.frz o u):=fun b o u e=>by rw[ab (aK e hk (fun z=>nomatch z))];exact e
 refine⟨⟨dx,by rw[ab (aK htab hk (fun z=>nomatch z))];exact htab⟩,by rw[ab (aK T.kinds hk (fun z=>nomatch z))];exact T.kinds,ae,?_,by rw[ab (aK T.units hk (fun z=>nomatch z))];exact T.units,T.len,T.nd,fun i m b hm hb=>(T.at_ i m b hm hb).same (fun o e=>?_) tup frz⟩
 ·obtain⟨h1,h2,h3,xs,e,r⟩:=T.sea;exact⟨h1,h2,h3,xs,by rw[ab (aK e hk (fun z=>nomatch z))];exact e,K2.same tup r⟩
 ·obtain⟨_,_,e'⟩:=T.pK (List.mem_of_getElem? hb);rw[ab (aK e' hk (fun z=>nomatch z))];exact e
theorem TableAt.aiF(T:TableAt P w K CT CU H ta d t)(x y:Nat){o:HO}(hD:Hj P w (L2.upd H d.s o) d.s (Hl (t.board.sea++[(x,y)]))):TableAt P w K CT CU (L2.upd H d.s o) ta d {t with board:={t.board with sea:=t.board.sea++[(x,y)]}}:=by
 obtain⟨φ,hk⟩:=T.agm;obtain⟨dx,htab⟩:=T.tab;have tup:∀b xs,H b=some (.tup xs)→L2.upd H d.s o b=some (.tup xs):=fun b xs e=>by rw[ab (aK e hk (fun z=>nomatch z))];exact e
 have frz:∀b o' u,H b=some (.frz o' u)→L2.upd H d.s o b=some (.frz o' u):=fun b o' u e=>by rw[ab (aK e hk (fun z=>nomatch z))];exact e
 refine⟨⟨dx,by rw[ab (aK htab hk (fun z=>nomatch z))];exact htab⟩,by rw[ab (aK T.kinds hk (fun z=>nomatch z))];exact T.kinds,by rw[ab (aK T.land hk (fun z=>nomatch z))];exact T.land,hD,by rw[ab (aK T.units hk (fun z=>nomatch z))];exact T.units,T.len,T.nd,fun i m b hm hb=>(T.at_ i m b hm hb).same (fun o' e=>?_) tup frz⟩;obtain⟨_,_,e'⟩:=T.pK (List.mem_of_getElem? hb);rw[ab (aK e' hk (fun z=>nomatch z))];exact e
end
structure Fra(ta:Addr)(d d':Pt)(H H':Hp):Prop where
 keep:∀b o,H b=some o→b∉foot ta d→H' b=some o
 new:∀b∈foot ta d',b∈foot ta d∨H b=none
 more:∀b,H' b=none→H b=none
theorem Fra.refl{ta:Addr}{d:Pt}{H:Hp}:Fra ta d d H H:=⟨fun _ _ e _=>e,fun _ h=>.inl h,fun _ h=>h⟩
theorem Fra.write{ta b:Addr}{d:Pt}{H:Hp}{o:HO}(hb:b∈foot ta d):Fra ta d d H (L2.upd H b o):=by
 refine⟨fun c u e hc=>?_,fun _ h=>.inl h,fun c h=>?_⟩
 ·rw[ab (fun z=>hc (by rw[z];exact hb))];exact e
 ·by_cases e:c=b
  ·rw[e,ae] at h;cases h
  ·rw[ab e] at h;exact h
theorem Fra.same{ta:Addr}{d:Pt}{H H':Hp}(s:aF H H'):Fra ta d d H H':=⟨fun b o e _=>s b o e,fun _ h=>.inl h,fun _ h=>s.free h⟩
theorem Fra.trans{ta:Addr}{d d1 d2:Pt}{H H1 H2:Hp}(f:Fra ta d d1 H H1)(g:Fra ta d1 d2 H1 H2):Fra ta d d2 H H2:=by
 refine⟨fun b o e hb=>g.keep b o (f.keep b o e hb) (fun h=>?_),fun b hb=>?_,fun b h=>f.more b (g.more b h)⟩
 ·rcases f.new b h with q|q
  ·exact hb q
  ·rw[q] at e;cases e
 ·rcases g.new b hb with q|q
  ·exact f.new b q
  ·exact .inr (f.more b q)
theorem Fra.upd{ta:Addr}{d d1:Pt}{H H1:Hp}{r:Addr}{o:HO}(f:Fra ta d d1 H H1)(hr:H1 r=none):Fra ta d d1 H (L2.upd H1 r o):=f.trans (Fra.same (aw hr))
end My
end
section
namespace My
open PySem PySem.Spec PyProof.Rows L2
open Vbsoaa (Man Men Order Table orderNums bit linked place manAt ordered)
theorem fg(m:Man)(ms:List Man)(b:Addr)(as:List Addr):aD (m::ms) (b::as)=(nK m.prov,.ref b)::aD ms as:=rfl
theorem jT(m:Man)(ms:List Man)(p:Nat):manAt (m::ms) p=if m.prov=p then some m else manAt ms p:=by
 unfold manAt;rw[List.find?_cons];by_cases h:m.prov=p
 ·rw[if_pos h,show (m.prov==p)=true from by simp[h]]
 ·rw[if_neg h,show (m.prov==p)=false from by simp[h]]
theorem fX{p:Nat}{m:Man}:∀{ms:List Man}{as:List Addr},as.length=ms.length→manAt ms p=some m→∃(i:Nat)(b:Addr),ms[i]?=some m∧as[i]?=some b∧aR (aD ms as) (nK p)=some (.ref b)∧m.prov=p
 |[],_,_,h=>by cases h
 |x::ms,[],hl,_=>by cases hl
 |x::ms,c::as,hl,h=>by
  rw[jT] at h;by_cases e:x.prov=p
  ·rw[if_pos e] at h;cases h;exact⟨0,c,rfl,rfl,by rw[fg,fF (by rw[e])],e⟩
  ·rw[if_neg e] at h;obtain⟨i,b,h1,h2,h3,h4⟩:=fX (Nat.succ.inj hl) h;exact⟨i+1,b,h1,h2,by rw[fg,dD (fun z=>e (iw z))];exact h3,h4⟩
theorem zr{p:Nat}:∀{ms:List Man}{as:List Addr},as.length=ms.length→manAt ms p=none→aR (aD ms as) (nK p)=none
 |[],as,_,_=>by unfold aD;rw[List.zip_nil_left];rfl
 |x::ms,[],hl,_=>by cases hl
 |x::ms,c::as,hl,h=>by
  rw[jT] at h;by_cases e:x.prov=p
  ·rw[if_pos e] at h;cases h
  ·rw[if_neg e] at h;rw[fg,dD (fun z=>e (iw z))];exact zr (Nat.succ.inj hl) h
theorem dM{p:Nat}{ms:List Man}{as:List Addr}(hl:as.length=ms.length):(aR (aD ms as) (nK p)).isSome=(manAt ms p).isSome:=by
 cases h:manAt ms p with
 |none=>rw[zr hl h];rfl
 |some m=>
  obtain⟨i,b,_,_,h3,_⟩:=fX hl h;rw[h3];rfl
theorem UU{ms:List Man}{as:List Addr}(hl:as.length=ms.length)(m:Man)(b:Addr):aD (ms++[m]) (as++[b])=aD ms as++[(nK m.prov,.ref b)]:=by
 unfold aD;rw[List.zip_append hl.symm,List.map_append];rfl
theorem mB{ms:List Man}{as:List Addr}(hl:as.length=ms.length):(aD ms as).length=ms.length:=by
 unfold aD;rw[List.length_map,List.length_zip,hl,Nat.min_self]
def jg(p:Nat):List Man→List Addr→List Addr
 |m::ms,b::as=>if m.prov=p then jg p ms as else b::jg p ms as
 |_,_=>[]
theorem Pu{p:Nat}:∀{ms:List Man}{as:List Addr},as.length=ms.length→(jg p ms as).length=(ms.filter fun m=>m.prov !=p).length
 |[],as,_=>by simp[jg]
 |x::ms,[],hl=>by cases hl
 |x::ms,c::as,hl=>by
  have ih:=Pu (p:=p) (Nat.succ.inj hl);by_cases e:x.prov=p
  ·simp[jg,e,ih]
  ·simp[jg,e,ih]
theorem Jy{p:Nat}:∀{ms:List Man}{as:List Addr},as.length=ms.length→aD (ms.filter fun m=>m.prov !=p) (jg p ms as)=kx (aD ms as) (nK p)
 |[],as,_=>by simp[jg,aD,kx]
 |x::ms,[],hl=>by cases hl
 |x::ms,c::as,hl=>by
  have ih:=Jy (p:=p) (Nat.succ.inj hl);by_cases e:x.prov=p
  ·rw[fg,abf (by rw[e])];simp only[jg,if_pos e];rw[List.filter_cons_of_neg (by simp[e])];exact ih
  ·rw[fg,abg (fun z=>e (iw z))];simp only[jg,if_neg e];rw[List.filter_cons_of_pos (by simp[e]),fg,ih]
theorem xx{p:Nat}:∀{ms:List Man}{as:List Addr},(jg p ms as).Sublist as
 |[],as=>by simp[jg]
 |x::ms,[]=>by simp[jg]
 |x::ms,c::as=>by
  by_cases e:x.prov=p
  ·simp only[jg,if_pos e];exact(xx).cons _
  ·simp only[jg,if_neg e];exact(xx).cons_cons _
theorem Jz{p:Nat}:∀{ms:List Man}{as:List Addr}{i:Nat}{m:Man}{b:Addr},as.length=ms.length→(ms.filter fun m=>m.prov !=p)[i]?=some m→(jg p ms as)[i]?=some b→∃j:Nat,ms[j]?=some m∧as[j]?=some b∧m.prov≠p
 |[],as,i,m,b,_,h,_=>by simp at h
 |x::ms,[],i,m,b,hl,_,_=>by cases hl
 |x::ms,c::as,i,m,b,hl,h1,h2=>by
  by_cases e:x.prov=p
  ·rw[List.filter_cons_of_neg (by simp[e])] at h1;simp only[jg,if_pos e] at h2;obtain⟨j,q1,q2,q3⟩:=Jz (Nat.succ.inj hl) h1 h2;exact⟨j+1,q1,q2,q3⟩
  ·rw[List.filter_cons_of_pos (by simp[e])] at h1;simp only[jg,if_neg e] at h2;cases i with
   |zero=>
    cases h1;cases h2;exact⟨0,rfl,rfl,e⟩
   |succ i=>
    obtain⟨j,q1,q2,q3⟩:=Jz (i:=i) (Nat.succ.inj hl) h1 h2;exact⟨j+1,q1,q2,q3⟩
section
variable{P:Program}{w:World}{K:PySem.W.Frag}{CT CU:Addr}{H H':Hp}{ta:Addr}{d:Pt}{t:Table}
theorem TableAt.unit(T:TableAt P w K CT CU H ta d t){p:Nat}{m:Man}(h:manAt t.men p=some m):∃(i:Nat)(b:Addr),t.men[i]?=some m∧d.m[i]?=some b∧aR (aD t.men d.m) (nK p)=some (.ref b)∧m.prov=p∧jS K CU H b m (t.water.contains m.prov):=by
 obtain⟨i,b,h1,h2,h3,h4⟩:=fX T.len h;exact⟨i,b,h1,h2,h3,h4,T.at_ i m b h1 h2⟩
theorem TableAt.ad6(T:TableAt P w K CT CU H ta d t)(p:Nat):TableAt P w K CT CU (L2.upd H d.u (.dK (kx (aD t.men d.m) (nK p)))) ta {d with m:=jg p t.men d.m} {t with men:=t.men.filter (fun m=>m.prov !=p),water:=t.water.filter fun x=>x !=p}:=by
 have hk:=T.units;obtain⟨dx,htab⟩:=T.tab;have tup:∀b xs,H b=some (.tup xs)→L2.upd H d.u (.dK (kx (aD t.men d.m) (nK p))) b=some (.tup xs):=fun b xs e=>by rw[ab (aK e hk (fun z=>nomatch z))];exact e
 have frz:∀b o u,H b=some (.frz o u)→L2.upd H d.u (.dK (kx (aD t.men d.m) (nK p))) b=some (.frz o u):=fun b o u e=>by rw[ab (aK e hk (fun z=>nomatch z))];exact e
 refine⟨⟨dx,by rw[ab (aK htab hk (fun z=>nomatch z))];exact htab⟩,by rw[ab (aK T.kinds hk (fun z=>nomatch z))];exact T.kinds,by rw[ab (aK T.land hk (fun z=>nomatch z))];exact T.land,?_,?_,Pu T.len,T.nd.sublist xx,fun i m b hm hb=>?_⟩
 ·obtain⟨h1,h2,h3,xs,e,r⟩:=T.sea;exact⟨h1,h2,h3,xs,by rw[ab (aK e hk (fun z=>nomatch z))];exact e,K2.same tup r⟩
 ·show L2.upd H d.u _ d.u=_;rw[ae,Jy T.len]
 ·obtain⟨j,q1,q2,q3⟩:=Jz T.len hm hb;have u:=T.at_ j m b q1 q2
  have ew:(t.water.filter fun x=>x !=p).contains m.prov=t.water.contains m.prov:=by
   rw[Bool.eq_iff_iff];simp[q3]
  show jS K CU _ b m ((t.water.filter fun x=>x !=p).contains m.prov);rw[ew];refine u.same (fun o e=>?_) tup frz;obtain⟨_,_,e'⟩:=T.pK (List.mem_of_getElem? q2);rw[ab (aK e' hk (fun z=>nomatch z))];exact e
end
end My
end
section
namespace My
open PySem PySem.Spec PyProof.Rows L2
open Vbsoaa (Man Men Order Table orderNums bit linked place manAt ordered)
section
variable{P:Program}{w:World}{K:PySem.W.Frag}{CT CU:Addr}{H H':Hp}{ta:Addr}{d:Pt}{t:Table}
theorem TableAt.agp(T:TableAt P w K CT CU H ta d t){m:Man}{b:Addr}(hb:b∉d.m)(hu:jS K CU H b m false)(hw:t.water.contains m.prov=false):
  TableAt P w K CT CU (L2.upd H d.u (.dK (aD (t.men++[m]) (d.m++[b])))) ta {d with m:=d.m++[b]} {t with men:=t.men++[m]}:=by
 have hk:=T.units;obtain⟨dx,htab⟩:=T.tab;have tup:∀c xs,H c=some (.tup xs)→L2.upd H d.u (.dK (aD (t.men++[m]) (d.m++[b]))) c=some (.tup xs):=fun c xs e=>by rw[ab (aK e hk (fun z=>nomatch z))];exact e
 have frz:∀c o u,H c=some (.frz o u)→L2.upd H d.u (.dK (aD (t.men++[m]) (d.m++[b]))) c=some (.frz o u):=fun c o u e=>by rw[ab (aK e hk (fun z=>nomatch z))];exact e
 refine⟨⟨dx,by rw[ab (aK htab hk (fun z=>nomatch z))];exact htab⟩,by rw[ab (aK T.kinds hk (fun z=>nomatch z))];exact T.kinds,by rw[ab (aK T.land hk (fun z=>nomatch z))];exact T.land,?_,ae,?_,xq T.nd hb,fun i m' c hm hc=>?_⟩
 ·obtain⟨h1,h2,h3,xs,e,r⟩:=T.sea;exact⟨h1,h2,h3,xs,by rw[ab (aK e hk (fun z=>nomatch z))];exact e,K2.same tup r⟩
 ·show (d.m++[b]).length=(t.men++[m]).length;rw[List.length_append,List.length_append,T.len];rfl
 ·have hm':(t.men++[m])[i]?=some m':=hm;have hc':(d.m++[b])[i]?=some c:=hc;by_cases hi:i<t.men.length
  ·rw[List.getElem?_append_left hi] at hm';rw[List.getElem?_append_left (by rw[T.len];exact hi)] at hc';refine(T.at_ i m' c hm' hc').same (fun o e=>?_) tup frz;obtain⟨_,_,e'⟩:=T.pK (List.mem_of_getElem? hc');rw[ab (aK e' hk (fun z=>nomatch z))];exact e
  ·rw[List.getElem?_append_right (by omega)] at hm';rw[List.getElem?_append_right (by rw[T.len];omega)] at hc';have ei:i - t.men.length=0:=by
    have:=(List.getElem?_eq_some_iff.mp hm').1;simp at this;omega
   rw[ei] at hm';rw[T.len,ei] at hc';cases hm';cases hc';show jS K CU _ b m (t.water.contains m.prov);rw[hw];refine hu.same (fun o e=>?_) tup frz;obtain⟨_,_,e',_⟩:=hu;rw[ab (aK e' hk (fun z=>nomatch z))];exact e
theorem JA(f:Man→Man)(hf:∀m,(f m).prov=m.prov):∀(ms:List Man)(as:List Addr),aD (ms.map f) as=aD ms as
 |[],as=>rfl
 |x::ms,[]=>by unfold aD;rw[List.zip_nil_right,List.zip_nil_right]
 |x::ms,c::as=>by rw[List.map_cons,fg,fg,hf,JA f hf ms as]
theorem ad7{ms:List Man}(h:(ms.map (·.prov)).Nodup){i j:Nat}{m m':Man}(hi:ms[i]?=some m)(hj:ms[j]?=some m')(e:m.prov=m'.prov):i=j:=by
 have h1:(ms.map (·.prov))[i]?=some m.prov:=by rw[List.getElem?_map,hi];rfl
 have h2:(ms.map (·.prov))[j]?=some m.prov:=by rw[List.getElem?_map,hj,e];rfl
 exact ahi h h1 h2
theorem TableAt.aae(T:TableAt P w K CT CU H ta d t)(W:Wf t){i:Nat}{m:Man}{b dx:Addr}{fs:List (Str×V)}(h1:t.men[i]?=some m)(h2:d.m[i]?=some b)(hb:H b=some (.ins CU dx fs))(f:Man→Man)(wt:List Nat){fs':List (Str×V)}{o:Addr}
  (hf:∀x,(f x).prov=x.prov) (hn:∀x,x.prov≠m.prov→f x=x) (hfs:fs'=ufs (f m) o (wt.contains m.prov)) (hw:∀x,x≠m.prov→wt.contains x=t.water.contains x) (ho:SqT K H o ((orderNums (f m).order).map V.int)):
  TableAt P w K CT CU (L2.upd H b (.ins CU dx fs')) ta d {t with men:=t.men.map f,water:=wt}:=by
 obtain⟨tx,htab⟩:=T.tab;have tup:∀c xs,H c=some (.tup xs)→L2.upd H b (.ins CU dx fs') c=some (.tup xs):=fun c xs e=>by rw[ab (aK e hb (fun z=>nomatch z))];exact e
 have frz:∀c o u,H c=some (.frz o u)→L2.upd H b (.ins CU dx fs') c=some (.frz o u):=fun c o u e=>by rw[ab (aK e hb (fun z=>nomatch z))];exact e
 have hub:=T.at_ i m b h1 h2
 have nt:ta≠b:=fun z=>by
  obtain⟨dx',o',hu',_⟩:=hub;rw[←z,htab] at hu';injection hu' with hu'
  injection hu' with _ _ hu'
  unfold tfs ufs at hu';injection hu' with q _
  injection q with q _
  exact absurd q (by decide)
 refine⟨⟨tx,by rw[ab nt];exact htab⟩,by rw[ab (aK T.kinds hb (fun z=>nomatch z))];exact T.kinds,by rw[ab (aK T.land hb (fun z=>nomatch z))];exact T.land,?_,?_,?_,T.nd,fun j m' c hm hc=>?_⟩
 ·obtain⟨g1,g2,g3,xs,e,r⟩:=T.sea;exact⟨g1,g2,g3,xs,by rw[ab (aK e hb (fun z=>nomatch z))];exact e,K2.same tup r⟩
 ·show L2.upd H b _ d.u=some (.dK (aD (t.men.map f) d.m));rw[JA f hf,ab (aK T.units hb (fun z=>nomatch z))];exact T.units
 ·show d.m.length=(t.men.map f).length;rw[List.length_map];exact T.len
 ·have hm':(t.men.map f)[j]?=some m':=hm;rw[List.getElem?_map] at hm';obtain⟨x,hx,ex⟩:=Option.map_eq_some_iff.mp hm';subst ex;show jS K CU _ c (f x) (wt.contains (f x).prov);rw[hf];by_cases e:j=i
  ·subst e;rw[h1] at hx;cases hx;rw[h2] at hc;cases hc;refine⟨dx,o,by rw[ae,hfs],?_⟩;rcases ho with(h|⟨z,h⟩)|h
   ·exact .inl (.inl (tup _ _ h))
   ·exact .inl (.inr ⟨z,frz _ _ _ h⟩)
   ·exact .inr h
  ·have np:x.prov≠m.prov:=fun z=>e (ad7 W.sR hx h1 z);rw[hn x np,hw _ np];have nc:c≠b:=fun z=>e (ahi T.nd hc (by rw[z];exact h2));exact(T.at_ j x c hx hc).same (fun o e=>by rw[ab nc];exact e) tup frz
end
end My
end
section
namespace My
open PySem PySem.Spec L2
open Vbsoaa (Man Men Order Table orderNums goal into manAt)
def cH(ms:Men)(ns:List Int):List Nat:=(ms.filter fun m=>decide (orderNums m.order=ns)).map (·.prov)
def di(ms:Men)(q:Nat):List Nat:=(into ms q).map (·.prov)
def aZ(ms:Men):List (Key×V):=ms.filterMap fun m=>(goal m).map fun q=>(nK m.prov,nV q)
def g8(ms:Men)(as:List Addr):List (Key×V):=(ms.zip as).map fun p=>(nK p.1.prov,.ref p.2)
def iK(ns:List Int):List Key:=ns.map Sum.inl
def mC{κ:Type}[DecidableEq κ]{α:Type}(H:Hp)(kvs:List (κ×V))(key:α→κ)(due:α→List Nat):Prop:=
 ∀x:α,(aR kvs (key x)=none∧due x=[])∨∃l,aR kvs (key x)=some (.ref l)∧H l=some (.lst ((due x).map nV))
def Apart{κ:Type}[DecidableEq κ](kvs:List (κ×V)):Prop:=∀k k' l,aR kvs k=some (.ref l)→aR kvs k'=some (.ref l)→k=k'
theorem lV(ms:Men)(m:Man)(ns:List Int):cH (ms++[m]) ns=cH ms ns++if orderNums m.order=ns then[m.prov] else[]:=by
 unfold cH;rw[List.filter_append,List.map_append];by_cases h:orderNums m.order=ns
 ·simp[h]
 ·simp[h]
theorem mD(ms:Men)(m:Man)(q:Nat):di (ms++[m]) q=di ms q++if goal m=some q then[m.prov] else[]:=by
 unfold di into;rw[List.filter_append,List.map_append];by_cases h:goal m=some q
 ·simp[h]
 ·simp[h]
theorem JB(ms:Men)(m:Man):aZ (ms++[m])=aZ ms++(match goal m with|some q=>[(nK m.prov,nV q)]|none=>[]):=by
 unfold aZ;rw[List.filterMap_append];cases h:goal m with
 |none=>simp[h]
 |some q=>simp[h]
theorem mf{κ:Type}[DecidableEq κ](kvs:List (κ×V))(k x:κ)(v:V)(h:aR kvs k=none):aR (kvs++[(k,v)]) x=if x=k then some v else aR kvs x:=by
 induction kvs with
 |nil=>
  by_cases e:x=k
  ·subst e;rw[if_pos rfl];exact fF rfl
  ·rw[if_neg e];exact dD (fun z=>e z.symm)
 |cons y ys ih=>
  by_cases e0:y.1=k
  ·rw[fF e0] at h;cases h
  ·rw[dD e0] at h;rw[List.cons_append];by_cases e:y.1=x
   ·rw[fF e,fF e,if_neg (fun z=>e0 (e.trans z))]
   ·rw[dD e,dD e];exact ih h
section
variable{κ:Type}[DecidableEq κ]{α:Type}{H:Hp}{kvs:List (κ×V)}{key:α→κ}{due MM:α→List Nat}
theorem mC.old(S:mC H kvs key due)(ap:Apart kvs)(inj:∀x y,key x=key y→x=y){x:α}{p:Nat}{l:Addr}(hv:aR kvs (key x)=some (.ref l))(h1:MM x=due x++[p])(h2:∀y,y≠x→MM y=due y):
  H l=some (.lst ((due x).map nV))∧mC (upd H l (.lst ((due x).map nV++[nV p]))) kvs key MM:=by
 have hl:H l=some (.lst ((due x).map nV)):=by
  rcases S x with⟨z,_⟩|⟨l',e,q⟩
  ·rw[z] at hv;cases hv
  ·rw[e] at hv;cases hv;exact q
 refine⟨hl,fun y=>?_⟩;by_cases e:y=x
 ·subst e
  right
  exact⟨l,hv,by rw[ae,h1,List.map_append];rfl⟩
 ·rw[h2 y e];rcases S y with z|⟨l',e',q⟩
  ·exact .inl z
  ·right
   refine⟨l',e',?_⟩;rw[ab (fun z=>e (inj _ _ (ap _ _ _ e' (by rw[z];exact hv))))];exact q
theorem mC.new(S:mC H kvs key due)(inj:∀x y,key x=key y→x=y){x:α}{p:Nat}{l:Addr}(hv:aR kvs (key x)=none)(nl:∀k,aR kvs k≠some (.ref l))(h1:MM x=due x++[p])(h2:∀y,y≠x→MM y=due y):
  mC (upd H l (.lst ([]++[nV p]))) (kvs++[(key x,.ref l)]) key MM:=fun y=>by
 have d0:due x=[]:=by
  rcases S x with⟨_,z⟩|⟨l',e,_⟩
  ·exact z
  ·rw[e] at hv;cases hv
 rw[mf _ _ _ _ hv];by_cases e:y=x
 ·subst e
  right
  exact⟨l,if_pos rfl,by rw[ae,h1,d0];rfl⟩
 ·rw[if_neg (fun z=>e (inj _ _ z)),h2 y e];rcases S y with z|⟨l',e',q⟩
  ·exact .inl z
  ·right
   refine⟨l',e',?_⟩;rw[ab (fun z=>nl _ (by rw[←z];exact e'))];exact q
theorem Apart.new(ap:Apart kvs){k:κ}{l:Addr}(hv:aR kvs k=none)(nl:∀k,aR kvs k≠some (.ref l)):Apart (kvs++[(k,.ref l)]):=fun x y c hx hy=>by
 rw[mf _ _ _ _ hv] at hx hy;by_cases e1:x=k
 ·by_cases e2:y=k
  ·rw[e1,e2]
  ·rw[if_pos e1] at hx;rw[if_neg e2] at hy;cases hx;exact absurd hy (nl y)
 ·rw[if_neg e1] at hx;by_cases e2:y=k
  ·rw[if_pos e2] at hy;cases hy;exact absurd hx (nl x)
  ·rw[if_neg e2] at hy;exact ap x y c hx hy
theorem mC.same{H':Hp}(S:mC H kvs key due)(h:∀l xs k,aR kvs k=some (.ref l)→H l=some (.lst xs)→H' l=some (.lst xs)):mC H' kvs key due:=fun x=>by
 rcases S x with z|⟨l,e,q⟩
 ·exact .inl z
 ·exact .inr ⟨l,e,h l _ _ e q⟩
end
end My
end
section
namespace My
open PySem PySem.Spec L2
open Vbsoaa (Man Men Order Table goal into manAt movers)
def bZ(l:List Nat):List (Key×V):=setOf (l.map nK)
theorem Pw(l:List Nat)(p:Nat):(aR (bZ l) (nK p)).isSome=l.contains p:=by
 rw[←kz];unfold bZ setOf;rw[List.map_map,List.any_map]
 induction l with
 |nil=>rfl
 |cons x r ih=>
  rw[List.any_cons,List.contains_cons,ih];congr 1;show decide (nK x=nK p)=(p==x);by_cases e:x=p
  ·subst e;simp
  ·rw[decide_eq_false (fun z=>e (iw z)),beq_eq_false_iff_ne.mpr (Ne.symm e)]
theorem pL(l:List Nat):(bZ l).length=l.length:=by unfold bZ setOf;simp
theorem JC(l:List Nat)(p:Nat):putK (bZ l) (nK p) (.bl true)=bZ (if l.contains p then l else l++[p]):=by
 have e:=Pw l p;cases c:l.contains p with
 |false=>
  rw[c] at e;have:aR (bZ l) (nK p)=none:=by cases z:aR (bZ l) (nK p) with|none=>rfl|some _=>rw[z] at e;cases e
  rw[mw _ this];unfold bZ setOf;simp
 |true=>
  rw[c] at e;rw[if_pos rfl];unfold putK;rw[if_pos (by rw[kz];exact e)];unfold bZ setOf;rw[List.map_map,List.map_map,List.map_map];apply List.map_congr_left;intro x _;show (if nK x=nK p then(nK x,V.bl true) else(nK x,V.bl true))=(nK x,V.bl true);split<;>rfl
def mvB(ms:Men)(p:Nat):Bool:=((manAt ms p).bind goal).isSome
theorem contains_iff{l:List Nat}{p:Nat}:l.contains p=true↔p∈l:=List.contains_iff_mem
def eX(ms:Men):List Nat→List Nat→List Nat
 |acc,[]=>acc
 |acc,p::r=>eX ms (if mvB ms p then(if acc.contains p then acc else acc++[p]) else acc) r
theorem zt(ms:Men)(p:Nat):∀(r acc:List Nat),eX ms acc (r++[p])=(if mvB ms p then(if(eX ms acc r).contains p then eX ms acc r else eX ms acc r++[p]) else eX ms acc r)
 |[],acc=>rfl
 |x::r,acc=>zt ms p r _
theorem DQ(ms:Men):∀(r acc:List Nat),(eX ms acc r).length≤acc.length+r.length
 |[],acc=>by simp[eX]
 |x::r,acc=>by
  have h:=DQ ms r (if mvB ms x then(if acc.contains x then acc else acc++[x]) else acc);have h2:(if mvB ms x then(if acc.contains x then acc else acc++[x]) else acc).length≤acc.length+1:=by
   split
   ·split
    ·omega
    ·simp
   ·omega
  show (eX ms _ r).length≤_;rw[List.length_cons];omega
theorem uY(ms:Men):∀(r acc:List Nat),acc.Nodup→(eX ms acc r).Nodup∧∀p,p∈eX ms acc r↔(p∈acc∨(p∈r∧mvB ms p=true))
 |[],acc,nd=>⟨nd,fun p=>by simp[eX]⟩
 |x::r,acc,nd=>by
  have nd':(if mvB ms x then(if acc.contains x then acc else acc++[x]) else acc).Nodup:=by
   split
   ·split
    ·exact nd
    ·rename_i h;exact xq nd (fun z=>h (contains_iff.mpr z))
   ·exact nd
  obtain⟨h1,h2⟩:=uY ms r _ nd';refine⟨h1,fun p=>?_⟩;show p∈eX ms _ r↔_;rw[h2];by_cases c:mvB ms x=true
  ·rw[if_pos c];by_cases e:acc.contains x=true
   ·rw[if_pos e];have:=contains_iff.mp e;constructor
    ·rintro(h|⟨h,g⟩)
     ·exact .inl h
     ·exact .inr ⟨List.mem_cons_of_mem _ h,g⟩
    ·rintro(h|⟨h,g⟩)
     ·exact .inl h
     ·rcases List.mem_cons.mp h with z|z
      ·subst z;exact .inl this
      ·exact .inr ⟨z,g⟩
   ·rw[if_neg e];constructor
    ·rintro(h|⟨h,g⟩)
     ·rcases List.mem_append.mp h with z|z
      ·exact .inl z
      ·rw[List.mem_singleton.mp z];exact .inr ⟨List.mem_cons_self,c⟩
     ·exact .inr ⟨List.mem_cons_of_mem _ h,g⟩
    ·rintro(h|⟨h,g⟩)
     ·exact .inl (List.mem_append_left _ h)
     ·rcases List.mem_cons.mp h with z|z
      ·subst z;exact .inl (List.mem_append_right _ (List.mem_singleton.mpr rfl))
      ·exact .inr ⟨z,g⟩
  ·rw[if_neg c];constructor
   ·rintro(h|⟨h,g⟩)
    ·exact .inl h
    ·exact .inr ⟨List.mem_cons_of_mem _ h,g⟩
   ·rintro(h|⟨h,g⟩)
    ·exact .inl h
    ·rcases List.mem_cons.mp h with z|z
     ·subst z;exact absurd g c
     ·exact .inr ⟨z,g⟩
end My
end
section
namespace My
open Vbsoaa
theorem aaf{ms:List Man}{p:Nat}{m:Man}(h:manAt ms p=some m):m∈ms∧m.prov=p:=by
 unfold Vbsoaa.manAt at h;exact⟨List.mem_of_find?_eq_some h,by simpa using List.find?_some h⟩
def Sub(ms:Men)(s s':List Nat):Prop:=∀p,mvB ms p=true→s.contains p=true→s'.contains p=true
section
variable{ms:Men}{w c s s':List Nat}{m x:Man}{p q:Nat}
theorem ad8(h:manAt ms q=some x)(g:(goal x).isSome=true):mvB ms x.prov=true:=by
 unfold mvB;rw[(aaf h).2,h,Option.bind_some];exact g
theorem abE(S:Sub ms s s')(h:manAt ms q=some x)(l:left_ s x=true):left_ s' x=true:=by
 unfold left_ at l⊢;rw[Bool.and_eq_true] at l⊢;exact⟨l.1,S _ (ad8 h l.1) l.2⟩
theorem aiG(ms:Men)(w c:List Nat)(m:Man)(p n:Nat):((helpers ms w c m p).filter fun y=>y.power !=n).length≤(helpers ms w c m p).length:=List.length_filter_le _ _
theorem uZ(S:Sub ms s s'):attack ms w c s m p≤attack ms w c s' m p:=by
 unfold attack;split
 ·exact Nat.le_refl _
 ·cases e:manAt ms p with
  |none=>exact Nat.le_refl _
  |some x=>
   dsimp only;have le:=aiG ms w c m p x.power;by_cases c1:left_ s x=true∧headOn m x=false
   ·rw[if_pos c1,if_pos ⟨abE S e c1.1,c1.2⟩];exact Nat.le_refl _
   ·rw[if_neg c1];by_cases c2:left_ s' x=true∧headOn m x=false
    ·rw[if_pos c2];split
     ·omega
     ·omega
    ·rw[if_neg c2];exact Nat.le_refl _
theorem xy(S:Sub ms s s'):hold ms w c s' p≤hold ms w c s p:=by
 unfold hold;cases e:manAt ms p with
 |none=>exact Nat.le_refl _
 |some x=>
  dsimp only;by_cases g:(goal x).isSome=true
  ·rw[if_pos g,if_pos g];by_cases c1:s.contains x.prov=true
   ·rw[if_pos c1,if_pos (S _ (ad8 e g) c1)];exact Nat.le_refl _
   ·rw[if_neg c1];split<;>omega
  ·rw[if_neg g,if_neg g];exact Nat.le_refl _
theorem DR(S:Sub ms s s'):wall ms w c s' m p≤wall ms w c s m p:=by
 unfold wall;cases e:manAt ms p with
 |none=>exact xy S
 |some x=>
  dsimp only;split
  ·exact Nat.le_refl _
  ·exact xy S
theorem abF(h:headOn m x=true):(goal x).isSome=true:=by
 unfold headOn at h;simp only[Bool.and_eq_true,beq_iff_eq] at h;rw[h.2.1];rfl
theorem rh(S:Sub ms s s'):prevent ms w c s' m p≤prevent ms w c s m p:=by
 unfold prevent;split
 ·exact Nat.le_refl _
 ·cases e:manAt ms p with
  |none=>exact Nat.le_refl _
  |some x=>
   dsimp only;by_cases c1:headOn m x=true∧s.contains x.prov=true
   ·rw[if_pos c1,if_pos ⟨c1.1,S _ (ad8 e (abF c1.1)) c1.2⟩];exact Nat.le_refl _
   ·rw[if_neg c1];split<;>omega
theorem DS(S:Sub ms s s')(h:goes ms w c s m=true):goes ms w c s' m=true:=by
 unfold goes at h⊢;cases e:goal m with
 |none=>rw[e] at h;cases h
 |some q=>
  rw[e] at h;have h:(way w m&&(decide (wall ms w c s m q<attack ms w c s m q)&&(into ms q).all fun x=>x.prov==m.prov||decide (prevent ms w c s x q<attack ms w c s m q)))=true:=h;show (way w m&&(decide (wall ms w c s' m q<attack ms w c s' m q)&&(into ms q).all fun x=>x.prov==m.prov||decide (prevent ms w c s' x q<attack ms w c s' m q)))=true;rw[Bool.and_eq_true,Bool.and_eq_true,decide_eq_true_eq,List.all_eq_true] at h⊢;have a1:attack ms w c s m q≤attack ms w c s' m q:=uZ S;have a2:wall ms w c s' m q≤wall ms w c s m q:=DR S;refine⟨h.1,by omega,fun x hx=>?_⟩;have:=h.2.2 x hx;rw[Bool.or_eq_true,decide_eq_true_eq] at this⊢;have a3:prevent ms w c s' x q≤prevent ms w c s x q:=rh S;rcases this with z|z
  ·exact .inl z
  ·exact .inr (by omega)
theorem JD(S:Sub ms s s')(h:p∈round ms w c s):p∈round ms w c s':=by
 unfold round at h⊢;obtain⟨m,hm,e⟩:=List.mem_map.mp h;obtain⟨h1,h2⟩:=List.mem_filter.mp hm;exact List.mem_map.mpr ⟨m,List.mem_filter.mpr ⟨h1,DS S h2⟩,e⟩
def Alike(ms:Men)(s s':List Nat):Prop:=∀p,mvB ms p=true→(s.contains p=s'.contains p)
theorem Alike.sub(h:Alike ms s s'):Sub ms s s':=fun p hp e=>by rw[←h p hp];exact e
theorem Alike.symm(h:Alike ms s s'):Alike ms s' s:=fun p hp=>(h p hp).symm
theorem Alike.of(h:∀p,p∈s↔p∈s'):Alike ms s s':=fun p _=>by rw[Bool.eq_iff_iff,contains_iff,contains_iff];exact h p
theorem zx(h:Alike ms s s'):goes ms w c s m=goes ms w c s' m:=by
 rw[Bool.eq_iff_iff];exact⟨DS h.sub,DS h.symm.sub⟩
theorem Fv(h:Alike ms s s'):round ms w c s=round ms w c s':=by
 unfold round;congr 1;apply List.filter_congr;intro m _;exact zx h
end
def tl(ms:Men)(w c:List Nat)(s:List Nat):Nat→List Nat
 |0=>s
 |k+1=>round ms w c (tl ms w c s k)
theorem DT(ms:Men)(w c:List Nat):∀(n:Nat)(s:List Nat),rounds ms w c n s=tl ms w c s n
 |0,s=>rfl
 |n+1,s=>by
  have shift:∀k,tl ms w c (round ms w c s) k=tl ms w c s (k+1):=fun k=>by
   induction k with
   |zero=>rfl
   |succ k ih=>show round ms w c (tl ms w c (round ms w c s) k)=_;rw[ih];rfl
  show rounds ms w c n (round ms w c s)=_;rw[DT ms w c n,shift]
theorem aag{ms:Men}{w c s:List Nat}{k:Nat}(h:∀p,p∈tl ms w c s (k+1)↔p∈tl ms w c s k):∀j,∀p,p∈tl ms w c s (k+j)↔p∈tl ms w c s k
 |0=>fun p=>Iff.rfl
 |j+1=>fun p=>by
  have ih:=aag h j;show p∈round ms w c (tl ms w c s (k+j))↔_;rw[Fv (Alike.of ih)];exact h p
theorem A1{ms:Men}(nd:(ms.map (·.prov)).Nodup){w c s:List Nat}{p:Nat}(h:p∈round ms w c s):p∈(movers ms).map (·.prov):=by
 unfold round at h;obtain⟨m,hm,e⟩:=List.mem_map.mp h;exact List.mem_map.mpr ⟨m,(List.mem_filter.mp hm).1,e⟩
theorem pM{ms:Men}(nd:(ms.map (·.prov)).Nodup)(w c s:List Nat):(round ms w c s).Nodup:=by
 unfold round movers;exact ba _ (ba _ nd)
theorem nX:∀{L M:List Nat},L.Nodup→(∀x∈L,x∈M)→L.length≤M.length
 |[],M,_,_=>Nat.zero_le _
 |x::L,M,nd,h=>by
  rw[List.nodup_cons] at nd;have hx:=h x List.mem_cons_self;have:=nX (M:=M.erase x) nd.2 (fun y hy=>by
   refine(List.mem_erase_of_ne (fun e=>nd.1 (by rw[←e];exact hy))).mpr (h y (List.mem_cons_of_mem _ hy)))
  rw[List.length_erase_of_mem hx] at this;have:0<M.length:=List.length_pos_of_mem hx;rw[List.length_cons];omega
theorem aah{L M:List Nat}(nd:L.Nodup)(h:∀x∈L,x∈M){y:Nat}(hy:y∈M)(ny:y∉L):L.length<M.length:=by
 have:=nX (L:=y::L) (M:=M) (List.nodup_cons.mpr ⟨ny,nd⟩) (fun x hx=>by
  rcases List.mem_cons.mp hx with z|z
  ·rw[z];exact hy
  ·exact h x z)
 rw[List.length_cons] at this;omega
theorem aai{L M:List Nat}(n1:L.Nodup)(h:∀x∈L,x∈M)(hl:L.length=M.length):∀p,p∈L↔p∈M:=fun p=>by
 refine⟨h p,fun hp=>?_⟩;by_cases c:p∈L
 ·exact c
 ·have:=aah n1 h hp c;omega
open L2 in
theorem same_iff{L M:List Nat}(n1:L.Nodup)(n2:M.Nodup):kD (L.map nK) (M.map nK)=true↔∀p,p∈L↔p∈M:=by
 unfold kD;rw[Bool.and_eq_true,beq_iff_eq,List.length_map,List.length_map,List.all_eq_true];have key:(∀k∈L.map nK,((M.map nK).any fun l=>decide (l=k))=true)↔∀x∈L,x∈M:=by
  constructor
  ·intro h x hx;have:=h (nK x) (List.mem_map.mpr ⟨x,hx,rfl⟩);obtain⟨k,hk,e⟩:=List.any_eq_true.mp this;obtain⟨y,hy,rfl⟩:=List.mem_map.mp hk;rw[←iw (of_decide_eq_true e)];exact hy
  ·intro h k hk;obtain⟨x,hx,rfl⟩:=List.mem_map.mp hk;exact List.any_eq_true.mpr ⟨nK x,List.mem_map.mpr ⟨x,h x hx,rfl⟩,by simp⟩
 rw[key];constructor
 ·rintro⟨hl,h⟩;exact aai n1 h hl
 ·intro h;refine⟨?_,fun x hx=>(h x).mp hx⟩;have a1:=nX n1 (fun x hx=>(h x).mp hx);have a2:=nX n2 (fun x hx=>(h x).mpr hx);omega
structure Chain(ms:Men)(w c s:List Nat)(Ch:Nat→Prop):Prop where
 zero:Ch 0
 succ:∀k,Ch k→¬(∀p,p∈tl ms w c s (k+1)↔p∈tl ms w c s k)→Ch (k+1)
 top:∀k,Ch k→k≤ms.length
theorem Chain.end_{ms:Men}{w c s:List Nat}{Ch:Nat→Prop}(C:Chain ms w c s Ch){k:Nat}(h:Ch k)(e:∀p,p∈tl ms w c s (k+1)↔p∈tl ms w c s k):∀p,p∈tl ms w c s k↔p∈rounds ms w c ms.length s:=fun p=>by
 rw[DT];have:=aag e (ms.length - k) p;rw[show k+(ms.length - k)=ms.length by have:=C.top k h;omega] at this;exact this.symm
section
variable{ms:Men}{w c:List Nat}
theorem pN(ms:Men):((movers ms).map (·.prov)).length≤ms.length:=by unfold movers;rw[List.length_map];exact List.length_filter_le _ _
theorem ad9{s s':List Nat}(h:∀p∈s,p∈s'):Sub ms s s':=fun p _ e=>contains_iff.mpr (h p (contains_iff.mp e))
theorem Yv(nd:(ms.map (·.prov)).Nodup){s:List Nat}(n0:s.Nodup)(hs:∀p,p∈s↔p∈(movers ms).map (·.prov)):Chain ms w c s (fun k=>(∀p∈tl ms w c s (k+1),p∈tl ms w c s k)∧(tl ms w c s k).Nodup∧k+(tl ms w c s k).length≤ms.length):=by
 refine⟨⟨fun p h=>(hs p).mpr (A1 nd h),n0,?_⟩,fun k ⟨h1,h2,h3⟩ ne=>⟨fun p hp=>JD (ad9 h1) hp,pM nd _ _ _,?_⟩,fun k ⟨_,_,h⟩=>by omega⟩
 ·have a1:=nX n0 (fun x hx=>(hs x).mp hx);have a2:=pN ms;show 0+s.length≤_;omega
 ·have ex:∃y,y∈tl ms w c s k∧y∉tl ms w c s (k+1):=by
   refine Classical.byContradiction fun hc=>ne fun p=>⟨h1 p,fun hp=>Classical.byContradiction fun hn=>hc ⟨p,hp,hn⟩⟩
  obtain⟨y,hy,ny⟩:=ex;have:=aah (pM nd w c (tl ms w c s k)) h1 hy ny;show k+1+(round ms w c (tl ms w c s k)).length≤_;omega
theorem aea(nd:(ms.map (·.prov)).Nodup):Chain ms w c [] (fun k=>(∀p∈tl ms w c [] k,p∈tl ms w c [] (k+1))∧(tl ms w c [] k).Nodup∧(∀p∈tl ms w c [] k,p∈(movers ms).map (·.prov))∧k≤(tl ms w c [] k).length):=by
 refine⟨⟨(fun p h=>by cases h),List.nodup_nil,(fun p h=>by cases h),Nat.le_refl _⟩,fun k ⟨h1,h2,h3,h4⟩ ne=>⟨fun p hp=>JD (ad9 h1) hp,pM nd _ _ _,fun p hp=>A1 nd hp,?_⟩,fun k ⟨_,h2,h3,h4⟩=>?_⟩
 ·have ex:∃y,y∈tl ms w c [] (k+1)∧y∉tl ms w c [] k:=by
   refine Classical.byContradiction fun hc=>ne fun p=>⟨fun hp=>Classical.byContradiction fun hn=>hc ⟨p,hp,hn⟩,h1 p⟩
  obtain⟨y,hy,ny⟩:=ex;have:=aah h2 h1 hy ny;show k+1≤(tl ms w c [] (k+1)).length;omega
 ·have:=nX h2 h3;have:=pN ms;omega
theorem nY(nd:(ms.map (·.prov)).Nodup)(p:Nat):mvB ms p=true↔p∈(movers ms).map (·.prov):=by
 unfold mvB movers;constructor
 ·intro h;cases e:manAt ms p with
  |none=>rw[e] at h;cases h
  |some m=>
   rw[e,Option.bind_some] at h;obtain⟨h1,h2⟩:=aaf e;exact List.mem_map.mpr ⟨m,List.mem_filter.mpr ⟨h1,h⟩,h2⟩
 ·intro h;obtain⟨m,hm,e⟩:=List.mem_map.mp h;obtain⟨h1,h2⟩:=List.mem_filter.mp hm;have:manAt ms p=some m:=by
   rw[←e];clear h hm e h2
   induction ms with
   |nil=>cases h1
   |cons x r ih=>
    rw[List.map_cons,List.nodup_cons] at nd;unfold manAt;rw[List.find?_cons];rcases List.mem_cons.mp h1 with z|z
    ·rw[z];simp
    ·have ne:(x.prov==m.prov)=false:=by
      rw[beq_eq_false_iff_ne];intro q;exact nd.1 (by rw[q];exact List.mem_map.mpr ⟨m,z,rfl⟩)
     rw[ne];exact ih nd.2 z
  rw[this,Option.bind_some];exact h2
theorem aeb(nd:(ms.map (·.prov)).Nodup){x y:Man}(hx:x∈ms)(hy:y∈ms)(e:x.prov=y.prov):x=y:=by
 obtain⟨i,hi,ei⟩:=List.getElem_of_mem hx;obtain⟨j,hj,ej⟩:=List.getElem_of_mem hy;have q1:(ms.map (·.prov))[i]?=some x.prov:=by rw[List.getElem?_map,List.getElem?_eq_getElem hi,ei];rfl
 have q2:(ms.map (·.prov))[j]?=some x.prov:=by rw[List.getElem?_map,List.getElem?_eq_getElem hj,ej,e];rfl
 have:=(List.getElem?_inj (by rw[List.length_map];exact hi) nd).mp (q1.trans q2.symm);subst this;rw[←ei,←ej]
theorem Yw(nd:(ms.map (·.prov)).Nodup){l:List Nat}(n1:l.Nodup)(mv:∀p∈l,mvB ms p=true):(∀p,p∈round ms w l l↔p∈l)↔agrees ms w l=true:=by
 unfold agrees;rw[List.all_eq_true];have inr:∀m∈movers ms,(m.prov∈round ms w l l↔goes ms w l l m=true):=fun m hm=>by
  unfold round;constructor
  ·intro h;obtain⟨x,hx,e⟩:=List.mem_map.mp h;obtain⟨h1,h2⟩:=List.mem_filter.mp hx;have h1':x∈ms:=(List.mem_filter.mp h1).1;have hm':m∈ms:=(List.mem_filter.mp hm).1;have:x=m:=by
    exact aeb nd h1' hm' e
   rw[←this];exact h2
  ·intro h;exact List.mem_map.mpr ⟨m,List.mem_filter.mpr ⟨hm,h⟩,rfl⟩
 constructor
 ·intro h m hm;rw[beq_iff_eq,Bool.eq_iff_iff,contains_iff,←h m.prov,inr m hm]
 ·intro h p;constructor
  ·intro hp;have hmv:=A1 nd hp;obtain⟨m,hm,rfl⟩:=List.mem_map.mp hmv;have:=h m hm;rw[beq_iff_eq,Bool.eq_iff_iff,contains_iff] at this;exact this.mpr ((inr m hm).mp hp)
  ·intro hp;obtain⟨m,hm,rfl⟩:=List.mem_map.mp ((nY nd p).mp (mv p hp));have:=h m hm;rw[beq_iff_eq,Bool.eq_iff_iff,contains_iff] at this;exact(inr m hm).mpr (this.mp hp)
end
end My
end
section
namespace My
open Vbsoaa
def gl(ms:Men)(p:Nat):Option Nat:=(manAt ms p).bind goal
def Way(ms:Men)(e:Nat):List Nat→Prop
 |[]=>False
 |[q]=>gl ms q=some e
 |q::r::t=>gl ms q=some r∧Way ms e (r::t)
theorem cw(ms:Men)(op:List Nat)(p n q:Nat):ringFrom ms op p (n+1) q=if op.contains q=false then[] else match gl ms q with
  |none=>[]
  |some r=>if r=p then[q] else match ringFrom ms op p n r with
   |[]=>[]
   |l=>q::l:=rfl
section
variable{ms:Men}{op:List Nat}{p:Nat}
theorem UW:∀(row:List Nat)(e m:Nat),Way ms e row→(∀q∈row,op.contains q=true)→(∀q∈row.tail,q≠p)→∀q0,row.head?=some q0→
  ringFrom ms op p (m+row.length) q0=if e=p then row else match ringFrom ms op p m e with
   |[]=>[]
   |l=>row++l
 |[],e,m,h,_,_,q0,h0=>by cases h0
 |[q],e,m,h,ho,_,q0,h0=>by
  cases h0;have h:gl ms q=some e:=h;show ringFrom ms op p (m+1) q=_;rw[cw,if_neg (by rw[ho q List.mem_cons_self];decide),h];by_cases c:e=p
  ·simp[c]
  ·simp only[c,if_false];cases ringFrom ms op p m e<;>rfl
 |q::r::t,e,m,h,ho,hp,q0,h0=>by
  cases h0;obtain⟨h1,h2⟩:=h;have ih:=UW (r::t) e m h2 (fun x hx=>ho x (List.mem_cons_of_mem _ hx)) (fun x hx=>hp x (List.mem_of_mem_tail hx)) r rfl;have nr:r≠p:=hp r List.mem_cons_self;show ringFrom ms op p (m+(r::t).length+1) q=_;rw[cw,if_neg (by rw[ho q List.mem_cons_self];decide),h1];simp only[nr,if_false];rw[ih];by_cases c:e=p
  ·simp[c]
  ·simp only[c,if_false];cases ringFrom ms op p m e<;>rfl
theorem JE{C:List Nat}(hc:∀q∈C,∃r,gl ms q=some r∧r∈C)(np:p∉C):∀(m q:Nat),q∈C→ringFrom ms op p m q=[]
 |0,q,_=>rfl
 |m+1,q,h=>by
  rw[cw];split
  ·rfl
  ·obtain⟨r,hr,hm⟩:=hc q h;rw[hr];have:r≠p:=fun e=>np (by rw[←e];exact hm);simp only[this,if_false];rw[JE hc np m r hm]
theorem aec{e m:Nat}(h:op.contains e=false):ringFrom ms op p m e=[]:=by
 cases m with
 |zero=>rfl
 |succ m=>rw[cw,if_pos h]
theorem UX{e e':Nat}:∀{row:List Nat},Way ms e row→gl ms e=some e'→Way ms e' (row++[e])
 |[],h,_=>h.elim
 |[q],h,g=>⟨h,g⟩
 |q::r::t,h,g=>⟨h.1,UX (row:=r::t) h.2 g⟩
theorem UY{e:Nat}:∀{row:List Nat},Way ms e row→∀x∈row,∃C:List Nat,(∀y∈C,y∈row)∧C.head?=some x∧Way ms e C∧∃B,row=B++C
 |[],h,_,_=>h.elim
 |[q],h,x,hx=>by
  rw[List.mem_singleton.mp hx];exact⟨[q],fun y hy=>hy,rfl,h,[],rfl⟩
 |q::r::t,h,x,hx=>by
  rcases List.mem_cons.mp hx with z|z
  ·subst z;exact⟨_,fun y hy=>hy,rfl,h,[],rfl⟩
  ·obtain⟨C,h1,h2,h3,B,h4⟩:=UY (row:=r::t) h.2 x z;exact⟨C,fun y hy=>List.mem_cons_of_mem _ (h1 y hy),h2,h3,q::B,by rw[h4];rfl⟩
theorem UZ{e:Nat}:∀{C:List Nat},Way ms e C→∀q∈C,∃r,gl ms q=some r∧(r∈C∨r=e)
 |[],h,_,_=>h.elim
 |[q],h,x,hx=>by
  rw[List.mem_singleton.mp hx];exact⟨e,h,.inr rfl⟩
 |q::r::t,h,x,hx=>by
  rcases List.mem_cons.mp hx with z|z
  ·subst z;exact⟨r,h.1,.inl (List.mem_cons_of_mem _ List.mem_cons_self)⟩
  ·obtain⟨r',h1,h2⟩:=UZ (C:=r::t) h.2 x z;exact⟨r',h1,h2.imp (List.mem_cons_of_mem _) id⟩
theorem aed{row:List Nat}{e n:Nat}(hw:Way ms e row)(h0:row.head?=some p)(nd:row.Nodup)(ho:∀q∈row,op.contains q=true)(hn:row.length≤n)(hend:op.contains e=false∨e∈row):
  ringFrom ms op p n p=if e=p then row else[]:=by
 cases row with
 |nil=>cases h0
 |cons x t=>
  cases h0;have hp:∀q∈t,q≠p:=fun q hq e=>by
   rw[List.nodup_cons] at nd;exact nd.1 (by rw[←e];exact hq)
  have:=UW (op:=op) (p:=p) (p::t) e (n - (p::t).length) hw ho hp p rfl;rw[show n - (p::t).length+(p::t).length=n by omega] at this;rw[this];by_cases c:e=p
  ·rw[if_pos c,if_pos c]
  ·rw[if_neg c,if_neg c];have z:ringFrom ms op p (n - (p::t).length) e=[]:=by
    rcases hend with h|h
    ·exact aec h
    ·obtain⟨C,h1,h2,h3,B,h4⟩:=UY hw e h;have eC:e∈C:=by
      cases C with
      |nil=>cases h2
      |cons y C=>cases h2;exact List.mem_cons_self
     have nC:p∉C:=by
      intro hpC;cases B with
      |nil=>
       have h4:p::t=C:=h4;rw[←h4] at h2;cases h2;exact c rfl
      |cons b B=>
       have h4:p::t=b::(B++C):=h4;cases h4;rw[List.nodup_cons] at nd;exact nd.1 (List.mem_append_right _ hpC)
     refine JE (fun q hq=>?_) nC _ e eC;obtain⟨r,hr,h5⟩:=UZ h3 q hq;refine⟨r,hr,?_⟩;rcases h5 with h5|h5
     ·exact h5
     ·rw[h5];exact eC
   rw[z]
end
end My
end
section
namespace My
open Vbsoaa
def pO(ms:Men)(w:List Nat):List Nat:=(most ms w).filter fun p=>!(least ms w).contains p
def okR:List Nat→Bool
 |[]=>false
 |p::t=>t.all fun q=>decide (p<q)
section
variable{ms:Men}{op op':List Nat}{p:Nat}{w:List Nat}
theorem JF(h:∀q,q∈op↔q∈op'):∀n q,ringFrom ms op p n q=ringFrom ms op' p n q
 |0,q=>rfl
 |n+1,q=>by
  have e:op.contains q=op'.contains q:=by rw[Bool.eq_iff_iff,contains_iff,contains_iff];exact h q
  rw[cw,cw,e];split
  ·rfl
  ·cases gl ms q with
   |none=>rfl
   |some r=>simp only[JF h n r]
theorem abG:∀{n q:Nat}{x:Nat}{l:List Nat},ringFrom ms op p n q=x::l→x=q
 |0,q,x,l,h=>by cases h
 |n+1,q,x,l,h=>by
  rw[cw] at h;split at h
  ·cases h
  ·cases e:gl ms q with
   |none=>rw[e] at h;cases h
   |some r=>
    rw[e] at h;by_cases c:r=p
    ·simp only[c,if_true] at h;cases h;rfl
    ·simp only[c,if_false] at h;cases z:ringFrom ms op p n r with
     |nil=>rw[z] at h;cases h
     |cons y l'=>rw[z] at h;cases h;rfl
theorem U0:∀{n q x:Nat},x∈ringFrom ms op p n q→x=q∨x≠p
 |0,q,x,h=>by cases h
 |n+1,q,x,h=>by
  rw[cw] at h;split at h
  ·cases h
  ·cases e:gl ms q with
   |none=>rw[e] at h;cases h
   |some r=>
    rw[e] at h;by_cases c:r=p
    ·simp only[c,if_true] at h;exact .inl (List.mem_singleton.mp h)
    ·simp only[c,if_false] at h;cases z:ringFrom ms op p n r with
     |nil=>rw[z] at h;cases h
     |cons y l'=>
      rw[z] at h;rcases List.mem_cons.mp h with k|k
      ·exact .inl k
      ·right
       have:=U0 (n:=n) (q:=r) (x:=x) (by rw[z];exact k);rcases this with k'|k'
       ·rw[k'];exact c
       ·exact k'
theorem abH{n:Nat}{l:List Nat}{x:Nat}(h:ringFrom ms op p n p=x::l):p∉l:=by
 cases n with
 |zero=>cases h
 |succ n=>
  rw[cw] at h;split at h
  ·cases h
  ·cases e:gl ms p with
   |none=>rw[e] at h;cases h
   |some r=>
    rw[e] at h;by_cases c:r=p
    ·simp only[c,if_true] at h;cases h;exact(fun z=>by cases z)
    ·simp only[c,if_false] at h;cases z:ringFrom ms op p n r with
     |nil=>rw[z] at h;cases h
     |cons y l'=>
      rw[z] at h;cases h;intro k;have:=U0 (n:=n) (q:=r) (x:=p) (by rw[z];exact k);rcases this with k'|k'
      ·exact c k'.symm
      ·exact k' rfl
theorem agq{n:Nat}{M:Nat}(hne:ringFrom ms op p n p≠[])(h1:M∈ringFrom ms op p n p)(h2:∀y∈ringFrom ms op p n p,M≤y):okR (ringFrom ms op p n p)=decide (p=M):=by
 cases z:ringFrom ms op p n p with
 |nil=>exact absurd z hne
 |cons x l=>
  have hx:=abG z;have ht:=abH z;subst hx;rw[z] at h1 h2;show l.all _=_;rw[Bool.eq_iff_iff,List.all_eq_true,decide_eq_true_eq];constructor
  ·intro h;rcases List.mem_cons.mp h1 with k|k
   ·exact k.symm
   ·have a1:=of_decide_eq_true (h M k);have a2:=h2 x List.mem_cons_self;omega
  ·intro e y hy;have:=h2 y (List.mem_cons_of_mem _ hy);refine decide_eq_true ?_;have ne:y≠x:=fun q=>ht (by rw[←q];exact hy);omega
theorem agr(nd:(ms.map (·.prov)).Nodup)(w c:List Nat):∀k,∃g:Man→Bool,tl ms w c ((movers ms).map (·.prov)) k=(ms.filter g).map (·.prov)
 |0=>⟨_,rfl⟩
 |k+1=>⟨fun m=>goes ms w c (tl ms w c ((movers ms).map (·.prov)) k) m&&(goal m).isSome,by
  show round ms w c _=_;unfold round movers;rw[List.filter_filter]⟩
theorem aee(nd:(ms.map (·.prov)).Nodup)(g:Man→Bool){x:Man}(hx:x∈ms):((ms.filter g).map (·.prov)).contains x.prov=g x:=by
 rw[Bool.eq_iff_iff,contains_iff];constructor
 ·intro h;obtain⟨y,hy,e⟩:=List.mem_map.mp h;obtain⟨h1,h2⟩:=List.mem_filter.mp hy;rw[aeb nd hx h1 e.symm];exact h2
 ·intro h;exact List.mem_map.mpr ⟨x,List.mem_filter.mpr ⟨hx,h⟩,rfl⟩
theorem abI(nd:(ms.map (·.prov)).Nodup)(g:Man→Bool):(ms.filter g).map (·.prov)=(ms.map (·.prov)).filter fun p=>((ms.filter g).map (·.prov)).contains p:=by
 rw[List.filter_map];congr 1;apply List.filter_congr;intro x hx;exact(aee nd g hx).symm
theorem Px(nd:(ms.map (·.prov)).Nodup)(w:List Nat):pO ms w=(ms.map (·.prov)).filter fun p=>(pO ms w).contains p:=by
 obtain⟨g,e⟩:=agr nd w (firsts ms w) ms.length;have em:most ms w=(ms.filter g).map (·.prov):=by unfold most;rw[DT,e]
 have eo:pO ms w=(ms.filter fun m=>!(least ms w).contains m.prov&&g m).map (·.prov):=by
  unfold pO;rw[em,List.filter_map,List.filter_filter];rfl
 rw[eo];exact abI nd _
theorem u0(c:Nat→Bool)(f:Nat→List Nat):∀l:List Nat,((l.filter c).map f).filter okR=(l.map fun p=>if c p then f p else[]).filter okR
 |[]=>rfl
 |x::l=>by
  rw[List.filter_cons,List.map_cons,List.filter_cons];cases e:c x with
  |true=>simp only[if_true];rw[List.map_cons,List.filter_cons,u0 c f l]
  |false=>
   simp only[Bool.false_eq_true,if_false];rw[u0 c f l];rfl
theorem U1(nd:(ms.map (·.prov)).Nodup){L:List Nat}(hL:∀p,p∈L↔p∈pO ms w):Vbsoaa.rings ms w=((ms.map (·.prov)).map fun p=>if L.contains p then ringFrom ms L p ms.length p else[]).filter okR:=by
 have e1:Vbsoaa.rings ms w=((pO ms w).map fun p=>ringFrom ms (pO ms w) p ms.length p).filter okR:=by
  show (((most ms w).filter fun p=>!(least ms w).contains p).map fun p=>ringFrom ms ((most ms w).filter fun p=>!(least ms w).contains p) p ms.length p).filter _=_;congr 1
 rw[e1,Px nd w];rw[u0];congr 1;apply List.map_congr_left;intro p _;have ec:L.contains p=(pO ms w).contains p:=by rw[Bool.eq_iff_iff,contains_iff,contains_iff];exact hL p
 rw[←Px nd w,ec];split
 ·exact(JF hL _ _).symm
 ·rfl
end
end My
end
section
namespace My
open Vbsoaa
def plc(x:Man):Nat:=place x.prov x.shore
inductive Rch(b:Board)(l:Men)(p:Nat):Man→Prop
 |base {x:Man}:x∈l→beside b x p=true→Rch b l p x
 |step {x y:Man}:Rch b l p y→x∈l→linked b.sea (plc y) (plc x)=true→Rch b l p x
theorem Fw(l:List (Nat×Nat))(x y:Nat):linked l x y=linked l y x:=by
 unfold linked;congr 1;funext k;exact Bool.or_comm _ _
section
variable{b:Board}{l:Men}{p:Nat}
theorem Rch.mem{x:Man}(h:Rch b l p x):x∈l:=by cases h<;>assumption
def grow(b:Board)(l r:Men):Men:=l.filter fun x=>!(r.any fun y=>y.prov==x.prov)&&r.any fun y=>meets b x y
theorem u6(n:Nat)(r:Men):spread b l (n+1) r=spread b l n (r++grow b l r):=rfl
theorem A2:∀(n:Nat)(r:Men),(∀x∈r,Rch b l p x)→∀x∈spread b l n r,Rch b l p x
 |0,r,h=>h
 |n+1,r,h=>by
  rw[u6];refine A2 n _ fun x hx=>?_;rcases List.mem_append.mp hx with z|z
  ·exact h x z
  ·obtain⟨h1,h2⟩:=List.mem_filter.mp z;rw[Bool.and_eq_true] at h2;obtain⟨y,hy,e⟩:=List.any_eq_true.mp h2.2;refine .step (h y hy) h1 ?_;rw[Fw];exact e
theorem JG:∀(n:Nat)(r:Men),∀x∈r,x∈spread b l n r
 |0,r,x,h=>h
 |n+1,r,x,h=>by
  rw[u6];exact JG n _ x (List.mem_append_left _ h)
theorem Rch.closed{r:Men}(h0:∀x∈l,beside b x p=true→x∈r)(hc:∀y∈r,∀x∈l,linked b.sea (plc y) (plc x)=true→x∈r){x:Man}(h:Rch b l p x):x∈r:=by
 induction h with
 |base h1 h2=>exact h0 _ h1 h2
 |step _ h1 h2 ih=>exact hc _ ih _ h1 h2
theorem xA(nd:(l.map (·.prov)).Nodup){x y:Man}(hx:x∈l)(hy:y∈l)(e:x.prov=y.prov):x=y:=aeb nd hx hy e
theorem ags(nd:(l.map (·.prov)).Nodup){r:Men}(rn:(r.map (·.prov)).Nodup)(hr:∀x∈r,x∈l)(hl:l.length≤r.length){x:Man}(hx:x∈l):x∈r:=by
 have sub:∀q∈r.map (·.prov),q∈l.map (·.prov):=fun q hq=>by
  obtain⟨y,hy,rfl⟩:=List.mem_map.mp hq;exact List.mem_map.mpr ⟨y,hr y hy,rfl⟩
 have len:(r.map (·.prov)).length=(l.map (·.prov)).length:=by
  have:=nX rn sub;rw[List.length_map,List.length_map] at this⊢;omega
 have:=(aai rn sub len x.prov).mpr (List.mem_map.mpr ⟨x,hx,rfl⟩);obtain⟨y,hy,e⟩:=List.mem_map.mp this;rw[←xA nd (hr y hy) hx e];exact hy
theorem agt{r:Men}{x:Man}(h:(!(r.any fun y=>y.prov==x.prov))=true):x.prov∉r.map (·.prov):=by
 intro hm;obtain⟨y,hy,e⟩:=List.mem_map.mp hm;rw[Bool.not_eq_true',List.any_eq_false] at h;exact h y hy (by rw[beq_iff_eq];exact e)
theorem agu(nd:(l.map (·.prov)).Nodup){r:Men}(rn:(r.map (·.prov)).Nodup):((r++grow b l r).map (·.prov)).Nodup:=by
 rw[List.map_append];refine List.nodup_append.mpr ⟨rn,ba _ nd,fun x hx y hy e=>?_⟩;obtain⟨z,hz,rfl⟩:=List.mem_map.mp hy;have h2:=(List.mem_filter.mp hz).2;rw[Bool.and_eq_true] at h2;exact agt h2.1 (by rw[←e];exact hx)
theorem JH(nd:(l.map (·.prov)).Nodup):∀(n:Nat)(r:Men),(r.map (·.prov)).Nodup→(∀x∈r,x∈l)→(∀x∈l,beside b x p=true→x∈r)→l.length≤n+r.length→∀x,Rch b l p x→x∈spread b l n r
 |0,r,rn,hr,h0,hl,x,h=>ags nd rn hr (by omega) h.mem
 |n+1,r,rn,hr,h0,hl,x,h=>by
  cases e:grow b l r with
  |nil=>
   refine JG _ _ x (Rch.closed h0 (fun y hy z hz lk=>?_) h);refine Classical.byContradiction fun hn=>?_;have:z∈grow b l r:=by
    refine List.mem_filter.mpr ⟨hz,?_⟩;rw[Bool.and_eq_true];refine⟨?_,List.any_eq_true.mpr ⟨y,hy,by show linked b.sea (plc z) (plc y)=true;rw[Fw];exact lk⟩⟩;rw[Bool.not_eq_true',List.any_eq_false];intro u hu q;rw[beq_iff_eq] at q;exact hn (by rw[←xA nd (hr u hu) hz q];exact hu)
   rw[e] at this;cases this
  |cons g gs=>
   rw[u6];refine JH nd n _ (agu nd rn) (fun y hy=>?_) (fun y hy hb=>List.mem_append_left _ (h0 y hy hb)) ?_ x h
   ·rcases List.mem_append.mp hy with z|z
    ·exact hr y z
    ·exact(List.mem_filter.mp z).1
   ·rw[List.length_append,e,List.length_cons];omega
theorem abJ{ms:Men}{abK:List Nat}{p q:Nat}(nd:(ms.map (·.prov)).Nodup):chain b ms abK p q=true↔∃x,Rch b (carriers ms abK p q) p x∧beside b x q=true:=by
 have ndl:((carriers ms abK p q).map (·.prov)).Nodup:=by unfold carriers;exact ba _ nd
 show ((spread b (carriers ms abK p q) (carriers ms abK p q).length ((carriers ms abK p q).filter fun x=>beside b x p)).any fun x=>beside b x q)=true↔_;rw[List.any_eq_true];constructor
 ·rintro⟨x,hx,e⟩;exact⟨x,A2 (p:=p) _ _ (fun y hy=>.base (List.mem_filter.mp hy).1 (List.mem_filter.mp hy).2) x hx,e⟩
 ·rintro⟨x,hx,e⟩;exact⟨x,JH ndl _ _ (ba _ ndl) (fun y hy=>(List.mem_filter.mp hy).1) (fun y hy hb=>List.mem_filter.mpr ⟨hy,hb⟩) (by omega) x hx,e⟩
end
end My
end
section
namespace My
open Vbsoaa
section
variable{ms:Men}{w c c' s s':List Nat}{m:Man}{p:Nat}
theorem QO(nd:(ms.map (·.prov)).Nodup){x:Man}(hx:x∈ms)(g:(goal x).isSome=true):mvB ms x.prov=true:=by
 rw[nY nd];exact List.mem_map.mpr ⟨x,List.mem_filter.mpr ⟨hx,g⟩,rfl⟩
theorem Py{x:Man}(hx:x∈into ms p):x∈ms∧(goal x).isSome=true:=by
 unfold into at hx;obtain⟨h1,h2⟩:=List.mem_filter.mp hx;rw[beq_iff_eq] at h2;exact⟨h1,by rw[h2];rfl⟩
theorem zy{α:Type}{f g:α→Bool}:∀{l:List α},(∀x∈l,f x=g x)→l.any f=l.any g
 |[],_=>rfl
 |x::l,h=>by rw[List.any_cons,List.any_cons,h x List.mem_cons_self,zy fun y hy=>h y (List.mem_cons_of_mem _ hy)]
theorem JI{α:Type}{f g:α→Bool}:∀{l:List α},(∀x∈l,f x=g x)→l.all f=l.all g
 |[],_=>rfl
 |x::l,h=>by rw[List.all_cons,List.all_cons,h x List.mem_cons_self,JI fun y hy=>h y (List.mem_cons_of_mem _ hy)]
theorem DU(nd:(ms.map (·.prov)).Nodup)(h:Alike ms c c'):cut ms w c=cut ms w c':=by
 funext m;unfold cut;apply zy;intro x hx;obtain⟨h1,h2⟩:=Py hx;rw[h _ (QO nd h1 h2)]
section
variable(e:cut ms w c=cut ms w c')
include e
theorem DV:helpers ms w c=helpers ms w c':=by funext m p;unfold helpers;rw[e]
theorem abL:stayers ms w c=stayers ms w c':=by funext m;unfold stayers;rw[e]
theorem U2:attack ms w c=attack ms w c':=by funext s m p;unfold attack;rw[DV e]
theorem Pz:prevent ms w c=prevent ms w c':=by funext s m p;unfold prevent;rw[DV e]
theorem aef:hold ms w c=hold ms w c':=by funext s p;unfold hold;rw[abL e]
theorem aeg:wall ms w c=wall ms w c':=by funext s m p;unfold wall defend;rw[DV e,aef e]
theorem aeh:goes ms w c=goes ms w c':=by funext s m;unfold goes;rw[aeg e,U2 e,Pz e]
end
theorem aei(h:Alike ms s s'):attack ms w c s m p=attack ms w c s' m p:=Nat.le_antisymm (uZ h.sub) (uZ h.symm.sub)
theorem aej(h:Alike ms s s'):hold ms w c s p=hold ms w c s' p:=Nat.le_antisymm (xy h.symm.sub) (xy h.sub)
theorem aiH(h:Alike ms s s'):wall ms w c s m p=wall ms w c s' m p:=Nat.le_antisymm (DR h.symm.sub) (DR h.sub)
theorem PB(h:Alike ms s s'):prevent ms w c s m p=prevent ms w c s' m p:=Nat.le_antisymm (rh h.symm.sub) (rh h.sub)
theorem Ho(nd:(ms.map (·.prov)).Nodup)(h:Alike ms s s'):strengthsOf ms w s m=strengthsOf ms w s' m:=by
 have e:=DU (w:=w) nd h;unfold strengthsOf;rw[U2 e,aeg e,Pz e,aef e,aeh e];cases goal m with
 |none=>rw[aej h]
 |some p=>
  have e2:(fun(n:Nat)(x:Man)=>max n (prevent ms w s' s x p))=fun n x=>max n (prevent ms w s' s' x p):=by funext n x;rw[PB h]
  simp only[e2,aei h,aiH h,PB h,aej h,zx h]
theorem QP(nd:(ms.map (·.prov)).Nodup)(h:Alike ms s s'):agrees ms w s=agrees ms w s':=by
 have e:=DU (w:=w) nd h;unfold agrees;apply JI;intro m hm;obtain⟨h1,h2⟩:=List.mem_filter.mp hm;rw[h _ (QO nd h1 h2),aeh e,zx h]
theorem JJ(nd:(ms.map (·.prov)).Nodup)(h:Alike ms s s')(hm:m∈ms):left_ s m=left_ s' m:=by
 unfold left_;cases g:(goal m).isSome with
 |false=>rfl
 |true=>rw[h _ (QO nd hm g)]
theorem A3(nd:(ms.map (·.prov)).Nodup)(h:Alike ms s s')(hm:m∈ms):driven ms s m=driven ms s' m:=by
 unfold driven;rw[JJ nd h hm];congr 1;apply zy;intro x hx;obtain⟨h1,h2⟩:=Py hx;rw[h _ (QO nd h1 h2)]
theorem Yx(nd:(ms.map (·.prov)).Nodup)(h:Alike ms s s')(hm:m∈ms):then_ ms s m=then_ ms s' m:=by
 unfold then_;rw[JJ nd h hm,A3 nd h hm]
theorem abM(nd:(ms.map (·.prov)).Nodup)(h:Alike ms s s'):out ms s=out ms s':=by
 unfold out;congr 1;apply List.filter_congr;intro x hx;rw[A3 nd h hx]
theorem Yy(nd:(ms.map (·.prov)).Nodup)(h:Alike ms s s')(b:Board):ways b ms s=ways b ms s':=by
 unfold ways;rw[abM nd h]
theorem mE(ks:List Nat):Alike ms ks (eX ms [] ks):=fun p hp=>by
 have h:=(uY ms ks [] List.nodup_nil).2 p;rw[Bool.eq_iff_iff,contains_iff,contains_iff,h];constructor
 ·intro z;exact .inr ⟨z,hp⟩
 ·rintro(z|z)
  ·cases z
  ·exact z.1
theorem agv(ks:List Nat):(eX ms [] ks).Nodup:=(uY ms ks [] List.nodup_nil).1
theorem Ja(ks:List Nat):∀p∈eX ms [] ks,mvB ms p=true:=fun p hp=>by
 rcases ((uY ms ks [] List.nodup_nil).2 p).mp hp with z|z
 ·cases z
 ·exact z.2
end
theorem U3(x:Nat):∀l:List Nat,l.Pairwise (·<·)→(putIn x l).Pairwise (·<·)∧∀p,p∈putIn x l↔p=x∨p∈l
 |[],_=>⟨by simp[putIn],fun p=>by simp[putIn]⟩
 |y::l,h=>by
  obtain⟨h1,h2⟩:=List.pairwise_cons.mp h;obtain⟨i1,i2⟩:=U3 x l h2;unfold putIn;by_cases c:x<y
  ·rw[if_pos c];refine⟨List.pairwise_cons.mpr ⟨fun z hz=>?_,h⟩,fun p=>List.mem_cons⟩;rcases List.mem_cons.mp hz with e|e
   ·omega
   ·have:=h1 z e;omega
  ·rw[if_neg c];by_cases c2:x=y
   ·rw[if_pos c2];refine⟨h,fun p=>?_⟩;subst c2;rw[List.mem_cons];constructor
    ·exact .inr
    ·rintro(z|z)
     ·exact .inl z
     ·exact z
   ·rw[if_neg c2];refine⟨List.pairwise_cons.mpr ⟨fun z hz=>?_,i1⟩,fun p=>?_⟩
    ·rcases (i2 z).mp hz with e|e
     ·omega
     ·exact h1 z e
    ·rw[List.mem_cons,i2,List.mem_cons];constructor
     ·rintro(z|z|z)
      ·exact .inr (.inl z)
      ·exact .inl z
      ·exact .inr (.inr z)
     ·rintro(z|z|z)
      ·exact .inr (.inl z)
      ·exact .inl z
      ·exact .inr (.inr z)
theorem abN(l:List Nat):(Vbsoaa.sorted l).Pairwise (·<·)∧∀p,p∈Vbsoaa.sorted l↔p∈l:=by
 have go:∀(l a:List Nat),a.Pairwise (·<·)→(l.foldl (fun a x=>putIn x a) a).Pairwise (·<·)∧∀p,p∈l.foldl (fun a x=>putIn x a) a↔p∈a∨p∈l:=by
  intro l
  induction l with
  |nil=>intro a h;exact⟨h,fun p=>by simp⟩
  |cons x l ih=>
   intro a h;obtain⟨h1,h2⟩:=U3 x a h;obtain⟨g1,g2⟩:=ih _ h1;refine⟨g1,fun p=>?_⟩;rw[List.foldl_cons,g2,h2,List.mem_cons];constructor
   ·rintro((z|z)|z)
    ·exact .inr (.inl z)
    ·exact .inl z
    ·exact .inr (.inr z)
   ·rintro(z|z|z)
    ·exact .inl (.inr z)
    ·exact .inl (.inl z)
    ·exact .inr z
 obtain⟨h1,h2⟩:=go l [] .nil;exact⟨h1,fun p=>by rw[show p∈Vbsoaa.sorted l↔_ from h2 p];simp⟩
theorem aek:∀{L M:List Nat},L.Pairwise (·<·)→M.Pairwise (·<·)→(∀p,p∈L↔p∈M)→L=M
 |[],[],_,_,_=>rfl
 |[],y::M,_,_,h=>by have:=(h y).mpr List.mem_cons_self;cases this
 |x::L,[],_,_,h=>by have:=(h x).mp List.mem_cons_self;cases this
 |x::L,y::M,h1,h2,h=>by
  obtain⟨a1,a2⟩:=List.pairwise_cons.mp h1;obtain⟨b1,b2⟩:=List.pairwise_cons.mp h2;have e:x=y:=by
   have q1:=(h x).mp List.mem_cons_self;have q2:=(h y).mpr List.mem_cons_self;rcases List.mem_cons.mp q1 with z|z
   ·exact z
   ·rcases List.mem_cons.mp q2 with u|u
    ·exact u.symm
    ·have:=b1 x z;have:=a1 y u;omega
  subst e;rw[aek a2 b2 fun p=>?_];constructor
  ·intro hp;rcases List.mem_cons.mp ((h p).mp (List.mem_cons_of_mem _ hp)) with z|z
   ·have:=a1 p hp;omega
   ·exact z
  ·intro hp;rcases List.mem_cons.mp ((h p).mpr (List.mem_cons_of_mem _ hp)) with z|z
   ·have:=b1 p hp;omega
   ·exact z
theorem U4{L M:List Nat}(n1:L.Nodup)(n2:M.Nodup)(h:∀p,p∈L↔p∈M):L.length=M.length:=Nat.le_antisymm (nX n1 fun x hx=>(h x).mp hx) (nX n2 fun x hx=>(h x).mpr hx)
theorem QQ{L M:List Nat}{ns:List Int}(n1:L.Nodup)(n2:M.Nodup)(h:∀p,p∈L↔p∈M)(pm:ns.Perm (L.map fun(n:Nat)=>(n:Int)))(pw:ns.Pairwise (·≤·)):row M=(L.length:Int)::ns:=by
 unfold row;rw[U4 n1 n2 h];congr 1;obtain⟨s1,s2⟩:=abN M;have nn:ns=(ns.map Int.toNat).map fun(n:Nat)=>(n:Int):=by
  rw[List.map_map]
  conv=>lhs;rw[←List.map_id ns]
  apply List.map_congr_left;intro z hz;obtain⟨n,_,rfl⟩:=List.mem_map.mp (pm.mem_iff.mp hz);rfl
 unfold nums;rw[nn];congr 1;have pm2:(ns.map Int.toNat).Perm L:=by
  have:=pm.map Int.toNat;rw[List.map_map] at this;have e:(Int.toNat∘fun(n:Nat)=>(n:Int))=id:=rfl;rw[e,List.map_id] at this;exact this
 refine aek s1 ?_ fun p=>by rw[s2,←h,pm2.mem_iff]
 have nd:(ns.map Int.toNat).Nodup:=pm2.nodup_iff.mpr n1;have le:(ns.map Int.toNat).Pairwise (·≤·):=List.Pairwise.map _ (fun a b (q:a≤b)=>by omega) pw;exact List.Pairwise.imp₂ (fun a b (h1:a≤b) (h2:a≠b)=>by omega) le nd
theorem DW{ms:Men}(nd:(ms.map (·.prov)).Nodup)(w c:List Nat):∀(n:Nat)(s:List Nat),s.Nodup→(rounds ms w c n s).Nodup
 |0,s,h=>h
 |n+1,s,_=>DW nd w c n _ (pM nd w c s)
theorem agw(ms:Men)(m:Man)(h:apt ms m=true):(match m.order with|.stay _=>true|.aid _ _=>true|_=>false)=true:=by
 unfold apt at h;cases e:m.order<;>rw[e] at h<;>first|rfl|cases h
theorem ael{ms:Men}(nd:(ms.map (·.prov)).Nodup){w:List Nat}(wn:w.Nodup)(hw:∀p∈w,p∈ms.map (·.prov)):(ms.filter fun m=>w.contains m.prov).length=w.length:=by
 have e:(ms.filter fun m=>w.contains m.prov).length=((ms.filter fun m=>w.contains m.prov).map (·.prov)).length:=by rw[List.length_map]
 rw[e];refine U4 (ba _ nd) wn fun p=>?_;rw[List.mem_map];constructor
 ·rintro⟨m,hm,rfl⟩;exact contains_iff.mp (List.mem_filter.mp hm).2
 ·intro h;obtain⟨m,hm,e⟩:=List.mem_map.mp (hw p h);exact⟨m,List.mem_filter.mpr ⟨hm,by rw[e];exact contains_iff.mpr h⟩,e⟩
end My
end
section
namespace My
open PySem PySem.Spec PyProof.Rows L2
theorem aI{i:Int}{t:Tok}:mj (.inl i) (.int i t)=true:=by simp[mj,Value.isInt]
theorem iM{x:Str}{t:Tok}:mj (.inr x) (.str x t)=true:=by simp[mj,Value.isStrOf]
theorem c8:bootBuiltins "len"=some (.builtin "len"):=by decide+kernel
theorem Yz:bootBuiltins "min"=some (.builtin "min"):=by decide+kernel
theorem YA:bootBuiltins "max"=some (.builtin "max"):=by decide+kernel
theorem aiI:bootBuiltins "sum"=some (.builtin "sum"):=by decide+kernel
theorem YB:bootBuiltins "any"=some (.builtin "any"):=by decide+kernel
theorem PD:bootBuiltins "sorted"=some (.builtin "sorted"):=by decide+kernel
theorem agx:bootBuiltins "list"=some (.type "list"):=by decide+kernel
theorem aem:bootBuiltins "tuple"=some (.type "tuple"):=by decide+kernel
theorem scm{N P:List Str}{sc:Scope}(h1:sc.kind=.function:=by rfl)(h2:sc.isCoroutine=false:=by rfl)(h3:sc.isGenerator=false:=by rfl)(h4:N.Nodup:=by decide+kernel)(h5:N.take P.length=P:=by rfl)(h6:∀x∈P,sc.names.lookup x=some .local∨sc.names.lookup x=some .cell:=by decide+kernel)(h7:∀y∈sc.names,y.2≠.free:=by decide+kernel):ax N P sc:=⟨h1,h2,h3,h4,h5,h6,h7⟩
def top(i:Nat):Stmt:=PySem.Challenge.pw_ordersatonce_s01_answers.main.body.getD i (.Pass ⟨0,0,0,0⟩)
abbrev u9:Stmt:=top 2
abbrev rj:Stmt:=top 3
abbrev vc:Stmt:=top 4
abbrev dN:Stmt:=top 5
abbrev vd:Stmt:=inClass (top 15) 0
abbrev rk:Stmt:=inClass (top 16) 0
abbrev rm:Stmt:=inClass (top 16) 1
abbrev o7:Stmt:=top 22
abbrev mF:Stmt:=top 23
abbrev zA:Stmt:=top 24
abbrev zB:Stmt:=top 25
abbrev ve:Stmt:=top 26
abbrev zC:Stmt:=top 27
abbrev vf:Stmt:=top 28
abbrev zD:Stmt:=top 29
abbrev vg:Stmt:=top 30
abbrev aen:Stmt:=top 32
abbrev zE:Stmt:=top 37
abbrev zF:Stmt:=top 38
abbrev zG:Stmt:=top 43
abbrev vh:Stmt:=top 44
abbrev lW:Stmt:=top 46
abbrev o8:Stmt:=top 47
abbrev ij:Stmt:=top 48
abbrev ro:Stmt:=top 49
abbrev ik:Stmt:=top 50
abbrev rq:Stmt:=top 52
abbrev A4:Stmt:=top 53
abbrev mG:Stmt:=top 54
abbrev DX:Stmt:=top 56
abbrev mH:Stmt:=top 57
abbrev rA:Stmt:=top 58
abbrev vi:Stmt:=top 59
abbrev mI:Stmt:=top 60
abbrev mJ:Stmt:=top 61
abbrev o9:Stmt:=top 62
abbrev k7:Stmt:=top 63
abbrev k8:Stmt:=top 65
abbrev rB:Stmt:=inClass (top 67) 0
abbrev k9:Stmt:=inClass (top 67) 1
abbrev jU:Stmt:=inClass (top 67) 2
abbrev mK:Stmt:=inClass (top 67) 3
abbrev jV:Stmt:=inClass (top 67) 4
abbrev vj:Stmt:=inClass (top 67) 5
abbrev jW:Stmt:=inClass (top 67) 6
abbrev lb:Stmt:=inClass (top 67) 7
abbrev fY:Stmt:=inClass (top 67) 8
abbrev DY:Stmt:=top 68
abbrev jX:Stmt:=inClass (top 70) 0
abbrev fS:Stmt:=inClass (top 70) 1
abbrev g9:Stmt:=inClass (top 70) 2
abbrev ft:Stmt:=inClass (top 70) 3
abbrev fu:Stmt:=inClass (top 70) 4
abbrev jh:Stmt:=inClass (top 70) 5
abbrev hC:Stmt:=inClass (top 70) 6
abbrev jY:Stmt:=inClass (top 70) 7
abbrev dO:Stmt:=inClass (top 70) 8
abbrev jZ:Stmt:=inClass (top 70) 9
abbrev ji:Stmt:=inClass (top 70) 10
abbrev JK:Stmt:=top 72
abbrev JL:Stmt:=top 73
abbrev iy:Stmt:=top 74
abbrev DZ:Stmt:=top 75
abbrev YC:Stmt:=top 76
abbrev QR:Stmt:=top 77
abbrev vk:Stmt:=top 78
abbrev rC:Stmt:=top 79
abbrev QS:Stmt:=top 80
abbrev JM:Stmt:=top 82
abbrev vm:Stmt:=top 83
abbrev lg:Stmt:=top 84
abbrev rD:Stmt:=top 85
abbrev rE:Stmt:=top 86
abbrev zH:Stmt:=top 87
abbrev vn:Stmt:=top 88
abbrev vo:Stmt:=top 89
abbrev rF:Stmt:=top 90
abbrev zI:Stmt:=top 91
abbrev lX:Stmt:=top 92
abbrev aeo:Stmt:=top 94
abbrev JN:Stmt:=top 98
abbrev D0:Stmt:=top 99
theorem A5:ax ["one","other"] ["one","other"] (ao u9):=scm
theorem MN:ax ["table","p","q"] ["table","p","q"] (ao rj):=scm
theorem QT:ax ["table","place","other"] ["table","place","other"] (ao vc):=scm
theorem fL:ax ["table","place","q","t"] ["table","place","q"] (ao dN):=scm
theorem QU:ax ["self","power","fleet","shore"] ["self","power","fleet","shore"] (ao vd):=scm
theorem MO:ax ["self"] ["self"] (ao rk):=scm
theorem MP:ax ["self"] ["self"] (ao rm):=scm
theorem JO:ax ["table","numbers"] ["table","numbers"] (ao o7):=scm
theorem sS:ax ["table","numbers","count"] ["table","numbers"] (ao mF):=scm
theorem U5:ax ["links","link","most"] ["links","link","most"] (ao zA):=scm
theorem U6:ax ["table","p","q","barred"] ["table","p","q","barred"] (ao zB):=scm
theorem rG:ax ["table","numbers","p","q"] ["table","numbers"] (ao ve):=scm
theorem nZ:ax ["table","numbers","p","q","link"] ["table","numbers"] (ao zC):=scm
theorem QV:ax ["fleet","kind","shore"] ["fleet","kind","shore"] (ao vf):=scm
theorem n6:ax ["table","numbers","fleet","p","shore"] ["table","numbers"] (ao zD):=scm
theorem A6:ax ["table","numbers","p"] ["table","numbers"] (ao vg):=scm
theorem aep:ax ["table","place","numbers","doer"] ["table","place","numbers"] (ao aen):=scm
theorem U7:ax ["table","name"] ["table","name"] (ao zE):=scm
theorem kE:ax ["table","place","numbers","names","behind","name","number"] ["table","place","numbers"] (ao zF):=scm
theorem Fy:ax ["place","numbers","row"] ["place","numbers"] (ao zG):=scm
theorem rH:ax ["table","place","numbers","p","unit"] ["table","place","numbers"] (ao vh):=scm
theorem pb:ax ["field","told","p","comer"] ["field","told","p"] (ao lW):=scm
theorem JP:ax ["field","told","p"] ["field","told","p"] (ao o8):=scm
theorem cz:ax ["table","places","p","q","reached","at","here","place"] ["table","places","p","q"] (ao ij):=scm
theorem n8:ax ["field","told","p","fleets","fleet"] ["field","told","p"] (ao ro):=scm
theorem fZ:ax ["table","field","told","carried","p"] ["table","field","told"] (ao ik):=scm
theorem yh:ax ["field","told","comer","p","order"] ["field","told","comer","p"] (ao rq):=scm
theorem D1:ax ["field","told","p","comer"] ["field","told","p"] (ao A4):=scm
theorem lh:ax ["field","told","cut","p"] ["field","told"] (ao mG):=scm
theorem JQ:ax ["table","p","q","unit"] ["table","p","q"] (ao DX):=scm
theorem Hq:ax ["table","p","order"] ["table","p","order"] (ao mH):=scm
theorem pd:ax ["table","p","order","q","t"] ["table","p","order"] (ao rA):=scm
theorem A7:ax ["table","p","order","q"] ["table","p","order"] (ao vi):=scm
theorem Hr:ax ["table","p","order"] ["table","p","order"] (ao mI):=scm
theorem Hs:ax ["table","p","order"] ["table","p","order"] (ao mJ):=scm
theorem mL:ax ["table","p","order","a","q"] ["table","p","order"] (ao o9):=scm
theorem D2:ax ["table","p","order"] ["table","p","order"] (ao k7):=scm
theorem j0:ax ["table","p","order","counted"] ["table","p"] (ao k8):=scm
theorem yi:ax ["self","table","p"] ["self","table"] (ao rB):=scm
theorem pP:ax ["self","p","order","q"] ["self","p","order"] (ao k9):=scm
theorem A8:ax ["self","p"] ["self","p"] (ao jU):=scm
theorem Ht:ax ["self","p"] ["self","p"] (ao mK):=scm
theorem A9:ax ["self","p"] ["self","p"] (ao jV):=scm
theorem Ba:ax ["self","p","order"] ["self","p"] (ao vj):=scm
theorem Bb:ax ["self","p"] ["self","p"] (ao jW):=scm
theorem D3:ax ["self","p"] ["self","p"] (ao lb):=scm
theorem jL:ax ["self","p","q"] ["self","p"] (ao fY):=scm
theorem j2:ax ["field","provinces","told","p"] ["field","provinces"] (ao DY):=scm
theorem Bc:ax ["self","field","told","cut"] ["self","field","told","cut"] (ao jX):=scm
theorem iz:ax ["self","order","p"] ["self","order"] (ao fS):=scm
theorem vp:ax ["self","p"] ["self","p"] (ao g9):=scm
theorem iP:ax ["self","p","q"] ["self","p"] (ao ft):=scm
theorem cY:ax ["self","p","field","power","helper"] ["self","p"] (ao fu):=scm
theorem mM:ax ["self","p","field"] ["self","p"] (ao jh):=scm
theorem vq:ax ["self","p"] ["self","p"] (ao hC):=scm
theorem n9:ax ["self","p","q"] ["self","p"] (ao jY):=scm
theorem dF:ax ["self","p","comers","comer"] ["self","p"] (ao dO):=scm
theorem oh:ax ["self","p","attack"] ["self","p"] (ao jZ):=scm
theorem iA:ax ["self","found","p"] ["self"] (ao ji):=scm
theorem abO:ax ["field","told"] ["field","told"] (ao JK):=scm
theorem abP:ax ["field","told"] ["field","told"] (ao JL):=scm
theorem cZ:ax ["field","reckoning","found","p","q"] ["field"] (ao iy):=scm
theorem mN:ax ["field","told","cut","going"] ["field","told"] (ao DZ):=scm
theorem agy:ax ["field"] ["field"] (ao YC):=scm
theorem aeq:ax ["field"] ["field"] (ao QR):=scm
theorem lY:ax ["free","p","row","at"] ["free","p"] (ao vk):=scm
theorem kl:ax ["field","fewest","free","p"] ["field"] (ao rC):=scm
theorem vt:ax ["field","free","found","p","row"] ["field"] (ao QS):=scm
theorem PF:ax ["provinces"] ["provinces"] (ao JM):=scm
theorem jj:ax ["table","numbers","p","unit","field","apt"] ["table","numbers"] (ao vm):=scm
theorem dz:ax ["table","numbers","p","field","reckoning","goes","strengths"] ["table","numbers"] (ao lg):=scm
theorem kF:ax ["table","numbers","field","cut","p"] ["table","numbers"] (ao rD):=scm
theorem yj:ax ["table","numbers","field"] ["table","numbers"] (ao rE):=scm
theorem U8:ax ["table","numbers"] ["table","numbers"] (ao zH):=scm
theorem QW:ax ["table","numbers"] ["table","numbers"] (ao vn):=scm
theorem lZ:ax ["table","numbers","found","told","ring"] ["table","numbers"] (ao vo):=scm
theorem ip:ax ["table","numbers","field","goers","told","p"] ["table","numbers"] (ao rF):=scm
theorem Fz:ax ["table","numbers","field"] ["table","numbers"] (ao zI):=scm
theorem km:ax ["table","numbers","ways","unit"] ["table","numbers"] (ao lX):=scm
theorem aer:ax ["table","place","numbers","asker"] ["table","place","numbers"] (ao aeo):=scm
theorem abQ:ax ["table","place","numbers"] ["table","place","numbers"] (ao JN):=scm
theorem f6:ax ["calls","table","told","at","first","behind","row"] ["calls"] (ao D0):=scm
set_option genInjectivity false in
set_option genSizeOf false in
set_option genSizeOfSpec false in
structure Adr where
 (dP dQ fh bB dR c9 de cx b9 f7 f9 dj eF fi eG dk FC gb gd gf fj dS dm dn gg dq dU kG cP iQ cb dW fk cc cg cy bN cC df cp bR cA bS dX bT cq bj gF bU bF br a8 bD bG bw bV bp bW bH kH kI bM iR vv om fm dY ot jk dr bO eI cI eJ dt du cJ eL cK FD kJ dI a9 aU aJ az iB jm eY iS iT iU iV iW iX iY iZ i0 i3 gG gH gI gJ gK gM gN gO gP gQ gR gS cu cT gh:Addr)
 (ou rI vw gi vx rJ rK ph mO zJ zK vy zL vz zM vA aes zN zO zP vB rM pj pk zQ pq rN JR mP D4 mQ rO vC mR mS px lj lp rP lq j3 mT j4 vD j5 lr gj xC j6 jn hJ fw iC jo hU j7 gm j8 jq JS JT iD D5 YD QX vE rQ QY Bd vF lu zR rR zS vG vH rS zT rT aet JU pQ:FuncData)
 (U9 aeu ahm aaj aev aew ahn aak pR ow pS Be yk ym vI aho yn vJ:Value)
structure Txt(w:World)(K:W.Frag)(mg:Str→Option Value)(a:Adr):Prop where
 kK:mg "both_ways"=some (.ref a.dP)
 gn:Fun K "both_ways" "both_ways" u9 a.dP a.ou
 kL:Binds K a.ou ["one","other"] []
 Bf:mg "land_joins"=some (.ref a.dQ)
 rV:Fun K "land_joins" "land_joins" rj a.dQ a.rI
 Bg:Binds K a.rI ["table","p","q"] []
 ox:mg "sea_joins"=some (.ref a.fh)
 kM:Fun K "sea_joins" "sea_joins" vc a.fh a.vw
 oy:Binds K a.vw ["table","place","other"] []
 dZ:mg "sea_joins_province"=some (.ref a.bB)
 cQ:Fun K "sea_joins_province" "sea_joins_province" dN a.bB a.gi
 d7:Binds K a.gi ["table","place","q"] []
 FE:Fun K "__init__" "Unit.__init__" vd a.dR a.vx
 FF:Binds K a.vx ["self","power","fleet","shore"] []
 Bh:Fun K "__init__" "Table.__init__" rk a.c9 a.rJ
 Bi:Binds K a.rJ ["self"] []
 pz:Meth K a.aU "wipe" a.de
 Bj:Fun K "wipe" "Table.wipe" rm a.de a.rK
 rW:Binds K a.rK ["self"] []
 MQ:mg "clear_table"=some (.ref a.cx)
 pA:Fun K "clear_table" "clear_table" o7 a.cx a.ph
 yo:Binds K a.ph ["table","numbers"] []
 JV:mg "add_province"=some (.ref a.b9)
 mU:Fun K "add_province" "add_province" mF a.b9 a.mO
 vK:Binds K a.mO ["table","numbers"] []
 zU:mg "add_link"=some (.ref a.f7)
 rX:Fun K "add_link" "add_link" zA a.f7 a.zJ
 zV:Binds K a.zJ ["links","link","most"] []
 zW:mg "can_join"=some (.ref a.f9)
 rY:Fun K "can_join" "can_join" zB a.f9 a.zK
 zX:Binds K a.zK ["table","p","q","barred"] []
 Va:mg "join_land"=some (.ref a.dj)
 vL:Fun K "join_land" "join_land" ve a.dj a.vy
 FG:Binds K a.vy ["table","numbers"] []
 YE:mg "join_sea"=some (.ref a.eF)
 zY:Fun K "join_sea" "join_sea" zC a.eF a.zL
 JW:Binds K a.zL ["table","numbers"] []
 FH:mg "can_stand"=some (.ref a.fi)
 vM:Fun K "can_stand" "can_stand" vf a.fi a.vz
 FI:Binds K a.vz ["fleet","kind","shore"] []
 YF:mg "set_unit"=some (.ref a.eG)
 zZ:Fun K "set_unit" "set_unit" zD a.eG a.zM
 JX:Binds K a.zM ["table","numbers"] []
 Vb:mg "take_unit"=some (.ref a.dk)
 vN:Fun K "take_unit" "take_unit" vg a.dk a.vA
 FJ:Binds K a.vA ["table","numbers"] []
 ahp:mg "lay"=some (.ref a.FC)
 aex:Fun K "lay" "lay" aen a.FC a.aes
 ahq:Binds K a.aes ["table","place","numbers"] []
 JY:mg "greatest"=some (.ref a.gb)
 z0:Fun K "greatest" "greatest" zE a.gb a.zN
 JZ:Binds K a.zN ["table","name"] []
 J0:mg "in_range"=some (.ref a.gd)
 z5:Fun K "in_range" "in_range" zF a.gd a.zO
 J1:Binds K a.zO ["table","place","numbers"] []
 J2:mg "as_order"=some (.ref a.gf)
 z6:Fun K "as_order" "as_order" zG a.gf a.zP
 J3:Binds K a.zP ["place","numbers"] []
 FK:mg "tell_unit"=some (.ref a.fj)
 vO:Fun K "tell_unit" "tell_unit" vh a.fj a.vB
 FN:Binds K a.vB ["table","place","numbers"] []
 rZ:mg "driven_out"=some (.ref a.dS)
 l5:Fun K "driven_out" "driven_out" lW a.dS a.rM
 r8:Binds K a.rM ["field","told","p"] []
 yp:mg "whereabouts"=some (.ref a.dm)
 pB:Fun K "whereabouts" "whereabouts" o8 a.dm a.pj
 yq:Binds K a.pj ["field","told","p"] []
 yr:mg "chain_leads"=some (.ref a.dn)
 pC:Fun K "chain_leads" "chain_leads" ij a.dn a.pk
 yt:Binds K a.pk ["table","places","p","q"] []
 J4:mg "carriers"=some (.ref a.gg)
 z7:Fun K "carriers" "carriers" ro a.gg a.zQ
 J5:Binds K a.zQ ["field","told","p"] []
 yu:mg "ways_behind"=some (.ref a.dq)
 pD:Fun K "ways_behind" "ways_behind" ik a.dq a.pq
 yw:Binds K a.pq ["table","field","told"] []
 Bk:mg "comer_cuts"=some (.ref a.dU)
 sd:Fun K "comer_cuts" "comer_cuts" rq a.dU a.rN
 Bl:Binds K a.rN ["field","told","comer","p"] []
 Vc:mg "is_cut"=some (.ref a.kG)
 J6:Fun K "is_cut" "is_cut" A4 a.kG a.JR
 Vd:Binds K a.JR ["field","told","p"] []
 jr:mg "cut_supports"=some (.ref a.cP)
 gp:Fun K "cut_supports" "cut_supports" mG a.cP a.mP
 js:Binds K a.mP ["field","told"] []
 xD:mg "reaches"=some (.ref a.iQ)
 pT:Fun K "reaches" "reaches" DX a.iQ a.D4
 xE:Binds K a.D4 ["table","p","q"] []
 J7:mg "counted_hold"=some (.ref a.cb)
 mV:Fun K "counted_hold" "counted_hold" mH a.cb a.mQ
 vP:Binds K a.mQ ["table","p","order"] []
 Bm:mg "fleet_move"=some (.ref a.dW)
 sf:Fun K "fleet_move" "fleet_move" rA a.dW a.rO
 Bn:Binds K a.rO ["table","p","order"] []
 FO:mg "army_move"=some (.ref a.fk)
 vQ:Fun K "army_move" "army_move" vi a.fk a.vC
 FP:Binds K a.vC ["table","p","order"] []
 J8:mg "counted_move"=some (.ref a.cc)
 mW:Fun K "counted_move" "counted_move" mI a.cc a.mR
 vR:Binds K a.mR ["table","p","order"] []
 J9:mg "counted_stay"=some (.ref a.cg)
 mX:Fun K "counted_stay" "counted_stay" mJ a.cg a.mS
 vS:Binds K a.mS ["table","p","order"] []
 MR:mg "counted_aid"=some (.ref a.cy)
 pE:Fun K "counted_aid" "counted_aid" o9 a.cy a.px
 yx:Binds K a.px ["table","p","order"] []
 Hu:mg "counted_carry"=some (.ref a.bN)
 lz:Fun K "counted_carry" "counted_carry" k7 a.bN a.lj
 sU:Binds K a.lj ["table","p","order"] []
 sV:mg "counted_order"=some (.ref a.cC)
 lA:Fun K "counted_order" "counted_order" k8 a.cC a.lp
 sW:Binds K a.lp ["table","p"] []
 Bo:Fun K "__init__" "Field.__init__" rB a.df a.rP
 cM:Binds K a.rP ["self","table"] []
 pU:Meth K a.aJ "take_in" a.cp
 sX:Fun K "take_in" "Field.take_in" k9 a.cp a.lq
 sY:Binds K a.lq ["self","p","order"] []
 cU:Meth K a.aJ "power_of" a.bR
 pV:Fun K "power_of" "Field.power_of" jU a.bR a.j3
 dA:Binds K a.j3 ["self","p"] []
 fH:Meth K a.aJ "stands" a.cA
 vT:Fun K "stands" "Field.stands" mK a.cA a.mT
 gr:Binds K a.mT ["self","p"] []
 oA:Meth K a.aJ "supports" a.bS
 pW:Fun K "supports" "Field.supports" jV a.bS a.j4
 pX:Binds K a.j4 ["self","p"] []
 sg:Meth K a.aJ "apt" a.dX
 FQ:Fun K "apt" "Field.apt" vj a.dX a.vD
 vU:Binds K a.vD ["self","p"] []
 d8:Meth K a.aJ "by_water" a.bT
 pY:Fun K "by_water" "Field.by_water" jW a.bT a.j5
 eZ:Binds K a.j5 ["self","p"] []
 gT:Meth K a.aJ "has_way" a.cq
 sZ:Fun K "has_way" "Field.has_way" lb a.cq a.lr
 ir:Binds K a.lr ["self","p"] []
 dG:Meth K a.aJ "head_to_head" a.bj
 kN:Fun K "head_to_head" "Field.head_to_head" fY a.bj a.gj
 d9:Binds K a.gj ["self","p"] []
 j9:mg "telling"=some (.ref a.gF)
 gU:Fun K "telling" "telling" DY a.gF a.xC
 ka:Binds K a.xC ["field","provinces"] []
 pZ:Fun K "__init__" "Reckoning.__init__" jX a.bU a.j6
 gV:Binds K a.j6 ["self","field","told","cut"] []
 iE:Meth K a.az "uncut" a.bF
 oB:Fun K "uncut" "Reckoning.uncut" fS a.bF a.jn
 ju:Binds K a.jn ["self","order"] []
 cR:Meth K a.az "helpers" a.br
 lI:Fun K "helpers" "Reckoning.helpers" g9 a.br a.hJ
 c7:Binds K a.hJ ["self","p"] []
 i4:Meth K a.az "finds_room" a.a8
 jv:Fun K "finds_room" "Reckoning.finds_room" ft a.a8 a.fw
 jw:Binds K a.fw ["self","p"] []
 hX:Meth K a.az "attack" a.bD
 mY:Fun K "attack" "Reckoning.attack" fu a.bD a.iC
 iF:Binds K a.iC ["self","p"] []
 iG:Meth K a.az "keeps" a.bG
 oC:Fun K "keeps" "Reckoning.keeps" jh a.bG a.jo
 jx:Binds K a.jo ["self","p"] []
 ed:Meth K a.az "holding" a.bw
 lJ:Fun K "holding" "Reckoning.holding" hC a.bw a.hU
 eV:Binds K a.hU ["self","p"] []
 jy:Meth K a.az "wall" a.bV
 p3:Fun K "wall" "Reckoning.wall" jY a.bV a.j7
 kb:Binds K a.j7 ["self","p"] []
 fM:Meth K a.az "greatest" a.bp
 kO:Fun K "greatest" "Reckoning.greatest" dO a.bp a.gm
 gu:Binds K a.gm ["self","p"] []
 fT:Meth K a.az "goes" a.bW
 p4:Fun K "goes" "Reckoning.goes" jZ a.bW a.j8
 gW:Binds K a.j8 ["self","p"] []
 fz:Meth K a.az "going" a.bH
 oE:Fun K "going" "Reckoning.going" ji a.bH a.jq
 fU:Binds K a.jq ["self"] []
 Bp:mg "reckon"=some (.ref a.kH)
 vV:Fun K "reckon" "reckon" JK a.kH a.JS
 Bq:Binds K a.JS ["field","told"] []
 Ve:mg "agrees"=some (.ref a.kI)
 Ka:Fun K "agrees" "agrees" JL a.kI a.JT
 Vf:Binds K a.JT ["field","told"] []
 mZ:mg "worked_out_first"=some (.ref a.bM)
 iH:Fun K "worked_out_first" "worked_out_first" iy a.bM a.iD
 m8:Binds K a.iD ["field"] []
 D6:mg "settled"=some (.ref a.iR)
 xF:Fun K "settled" "settled" DZ a.iR a.D5
 D7:Binds K a.D5 ["field","told"] []
 YG:mg "most"=some (.ref a.vv)
 QZ:Fun K "most" "most" YC a.vv a.YD
 YH:Binds K a.YD ["field"] []
 Q0:mg "least"=some (.ref a.om)
 Jb:Fun K "least" "least" QR a.om a.QX
 Q1:Binds K a.QX ["field"] []
 FR:mg "ring_from"=some (.ref a.fm)
 vW:Fun K "ring_from" "ring_from" vk a.fm a.vE
 FT:Binds K a.vE ["free","p"] []
 Br:mg "free_moves"=some (.ref a.dY)
 si:Fun K "free_moves" "free_moves" rC a.dY a.rQ
 Bs:Binds K a.rQ ["field"] []
 aal:mg "rings"=some (.ref a.ot)
 Q2:Fun K "rings" "rings" QS a.ot a.QY
 aam:Binds K a.QY ["field"] []
 vX:mg "listed"=some (.ref a.jk)
 m9:Fun K "listed" "listed" JM a.jk a.Bd
 vY:Binds K a.Bd ["provinces"] []
 Vg:mg "ask_order"=some (.ref a.dr)
 vZ:Fun K "ask_order" "ask_order" vm a.dr a.vF
 FU:Binds K a.vF ["table","numbers"] []
 Hv:mg "ask_strengths"=some (.ref a.bO)
 lB:Fun K "ask_strengths" "ask_strengths" lg a.bO a.lu
 tj:Binds K a.lu ["table","numbers"] []
 YI:mg "ask_cuts"=some (.ref a.eI)
 z8:Fun K "ask_cuts" "ask_cuts" rD a.eI a.zR
 Kb:Binds K a.zR ["table","numbers"] []
 Q3:mg "ask_agrees"=some (.ref a.cI)
 sj:Fun K "ask_agrees" "ask_agrees" rE a.cI a.rR
 Bt:Binds K a.rR ["table","numbers"] []
 YJ:mg "ask_most"=some (.ref a.eJ)
 z9:Fun K "ask_most" "ask_most" zH a.eJ a.zS
 Kc:Binds K a.zS ["table","numbers"] []
 Vh:mg "ask_least"=some (.ref a.dt)
 v3:Fun K "ask_least" "ask_least" vn a.dt a.vG
 FV:Binds K a.vG ["table","numbers"] []
 Vi:mg "ask_rings"=some (.ref a.du)
 v5:Fun K "ask_rings" "ask_rings" vo a.du a.vH
 FW:Binds K a.vH ["table","numbers"] []
 Q4:mg "ask_behind"=some (.ref a.cJ)
 so:Fun K "ask_behind" "ask_behind" rF a.cJ a.rS
 Bu:Binds K a.rS ["table","numbers"] []
 YK:mg "ask_ways"=some (.ref a.eL)
 Aa:Fun K "ask_ways" "ask_ways" zI a.eL a.zT
 Kd:Binds K a.zT ["table","numbers"] []
 Q5:mg "ask_counts"=some (.ref a.cK)
 sr:Fun K "ask_counts" "ask_counts" lX a.cK a.rT
 Bv:Binds K a.rT ["table","numbers"] []
 ahr:mg "ask"=some (.ref a.FD)
 aey:Fun K "ask" "ask" aeo a.FD a.aet
 ahs:Binds K a.aet ["table","place","numbers"] []
 Vj:mg "answer"=some (.ref a.kJ)
 Ke:Fun K "answer" "answer" JN a.kJ a.JU
 Vk:Binds K a.JU ["table","place","numbers"] []
 abR:mg "answers"=some (.ref a.dI)
 D8:Fun K "answers" "answers" D0 a.dI a.pQ
 abS:Binds K a.pQ ["calls"] []
 aez:mg "Unit"=some (.ref a.a9)
 eN:Cls K a.a9
 Jc:Mk K a.a9 a.dR
 l6:dC K a.a9 "power"
 jz:dC K a.a9 "fleet"
 gX:dC K a.a9 "shore"
 l7:dC K a.a9 "order"
 kc:dC K a.a9 "way"
 aan:mg "Table"=some (.ref a.aU)
 aQ:Cls K a.aU
 Bw:Mk K a.aU a.c9
 bP:dC K a.aU "kinds"
 dE:dC K a.aU "land_links"
 eh:dC K a.aU "sea_links"
 aL:dC K a.aU "units"
 kn:mg "Field"=some (.ref a.aJ)
 aE:Cls K a.aJ
 fI:Mk K a.aJ a.df
 dv:dC K a.aJ "units"
 cj:dC K a.aJ "orders"
 iq:dC K a.aJ "given"
 aM:dC K a.aJ "goals"
 e7:dC K a.aJ "coming"
 oF:mg "Reckoning"=some (.ref a.az)
 aA:Cls K a.az
 gY:Mk K a.az a.bU
 aN:dC K a.az "field"
 e8:dC K a.az "told"
 lC:dC K a.az "cut"
 aao:mg "min"=none
 aap:mg "max"=none
 aaq:mg "any"=none
 aar:mg "range"=none
 fJ:mg "len"=none
 aht:mg "zip"=none
 aas:mg "tuple"=none
 Kf:mg "sorted"=none
 aeA:mg "list"=none
 ahu:mg "sum"=none
 Vl:mg "SHORES"=some a.U9
 Vm:RelV (.int 4) a.U9
 YL:mg "LAND"=some a.aeu
 YM:RelV (.int 0) a.aeu
 aat:mg "SEA"=some a.ahm
 aau:RelV (.int 1) a.ahm
 Q6:mg "COAST"=some a.aaj
 Q7:RelV (.int 2) a.aaj
 Kg:mg "MOVE"=some a.aev
 Kh:RelV (.int 1) a.aev
 Ki:mg "STAY"=some a.aew
 Kj:RelV (.int 2) a.aew
 aav:mg "AID"=some a.ahn
 aaw:RelV (.int 3) a.ahn
 aax:mg "CARRY"=some a.aak
 aay:RelV (.int 4) a.aak
 jA:∀H:Hp,SqT K H a.iB [.int 0,.int 0,.int 0,.int 0]
 v7:mg "HOLD"=some (.ref a.iB)
 v8:RelV (.ref a.iB) (.ref a.iB)
 p5:mg "MOST_PROVINCES"=some a.pR
 p6:RelV (.int 40) a.pR
 oG:mg "MOST_LAND_LINKS"=some a.ow
 oH:RelV (.int 300) a.ow
 p7:mg "MOST_SEA_LINKS"=some a.pS
 p8:RelV (.int 300) a.pS
 Bx:mg "MOST_UNITS"=some a.Be
 By:RelV (.int 24) a.Be
 su:MD w K a.jm [(.inl 0,.ref a.cx),(.inl 1,.ref a.b9),(.inl 2,.ref a.dj),(.inl 3,.ref a.eF),(.inl 4,.ref a.eG),(.inl 5,.ref a.dk)]
 aaz:mg "DOERS"=some (.ref a.jm)
 aaA:RelV (.ref a.jm) (.ref a.jm)
 FX:∀H:Hp,SqT K H a.iS []
 FY:∀H:Hp,SqT K H a.iT [.str "kind"]
 FZ:∀H:Hp,SqT K H a.iU [.str "province",.str "province"]
 F5:∀H:Hp,SqT K H a.iV [.str "province",.str "shore",.str "province",.str "shore"]
 F6:∀H:Hp,SqT K H a.iW [.str "power",.str "fleet",.str "province",.str "shore"]
 F7:∀H:Hp,SqT K H a.iX [.str "province"]
 F8:∀H:Hp,SqT K H a.iY [.str "province"]
 F9:∀H:Hp,SqT K H a.iZ [.str "province",.str "province",.str "shore",.str "water"]
 Ga:∀H:Hp,SqT K H a.i0 [.str "province",.str "province"]
 Gb:∀H:Hp,SqT K H a.i3 [.str "province",.str "province",.str "province"]
 Bz:∀H:Hp,SqT K H a.gG [.str "province",.str "province",.str "province"]
 BA:∀H:Hp,SqT K H a.gH [.str "province",.str "way"]
 BB:∀H:Hp,SqT K H a.gI [.str "province"]
 BC:∀H:Hp,SqT K H a.gJ [.str "province"]
 BD:∀H:Hp,SqT K H a.gK []
 BE:∀H:Hp,SqT K H a.gM []
 BF:∀H:Hp,SqT K H a.gN []
 BG:∀H:Hp,SqT K H a.gO []
 BH:∀H:Hp,SqT K H a.gP []
 BI:∀H:Hp,SqT K H a.gQ []
 BJ:∀H:Hp,SqT K H a.gR []
 BK:∀H:Hp,SqT K H a.gS []
 bA:MD w K a.eY [(.inl 0,.ref a.iS),(.inl 1,.ref a.iT),(.inl 2,.ref a.iU),(.inl 3,.ref a.iV),(.inl 4,.ref a.iW),(.inl 5,.ref a.iX),(.inl 6,.ref a.iY),(.inl 7,.ref a.iZ),(.inl 8,.ref a.i0),(.inl 9,.ref a.i3),(.inl 10,.ref a.gG),(.inl 11,.ref a.gH),(.inl 12,.ref a.gI),(.inl 13,.ref a.gJ),(.inl 14,.ref a.gK),(.inl 15,.ref a.gM),(.inl 16,.ref a.gN),(.inl 17,.ref a.gO),(.inl 18,.ref a.gP),(.inl 19,.ref a.gQ),(.inl 20,.ref a.gR),(.inl 21,.ref a.gS)]
 PH:mg "NUMBERS"=some (.ref a.eY)
 PJ:RelV (.ref a.eY) (.ref a.eY)
 iI:MD w K a.cu [(.inr "kind",.int 2),(.inr "shore",.int 3),(.inr "power",.int 6),(.inr "fleet",.int 1),(.inr "water",.int 1),(.inr "way",.int 1)]
 Kk:mg "GREATEST"=some (.ref a.cu)
 Kl:RelV (.ref a.cu) (.ref a.cu)
 yy:mg "MOST_BEHIND"=some a.yk
 yz:RelV (.int 24) a.yk
 yA:mg "FIRST_ORDER"=some a.ym
 yB:RelV (.int 6) a.ym
 v9:mg "ORDER_LENGTH"=some a.vI
 wa:RelV (.int 4) a.vI
 ahv:mg "WAY"=some a.aho
 ahw:RelV (.int 11) a.aho
 mh:MD w K a.cT [(.inl 0,.ref a.cb),(.inl 1,.ref a.cc),(.inl 2,.ref a.cg),(.inl 3,.ref a.cy),(.inl 4,.ref a.bN)]
 PL:mg "COUNTED"=some (.ref a.cT)
 PM:RelV (.ref a.cT) (.ref a.cT)
 gv:MD w K a.gh [(.inl 12,.ref a.dr),(.inl 13,.ref a.bO),(.inl 14,.ref a.eI),(.inl 15,.ref a.cI),(.inl 16,.ref a.eJ),(.inl 17,.ref a.dt),(.inl 18,.ref a.du),(.inl 19,.ref a.cJ),(.inl 20,.ref a.eL),(.inl 21,.ref a.cK)]
 Vn:mg "ASKERS"=some (.ref a.gh)
 Vo:RelV (.ref a.gh) (.ref a.gh)
 yC:mg "LAST_LAYING"=some a.yn
 yD:RelV (.int 5) a.yn
 wb:mg "LAST_TELLING"=some a.vJ
 wc:RelV (.int 11) a.vJ
abbrev fD(x q:Str)(s:Stmt)(kV dc pm:Value)(an:Option Addr)(cd ct:Value):FuncData:=W.fnOf x q (kj s) (jd s) (ao s) .none kV dc pm an cd ct
abbrev fO(x q:Str)(s:Stmt)(oc:Value)(od:Option Addr)(kV dc pm:Value)(an:Option Addr)(cd ct:Value)(sl:Array (Option Value)):Option Obj:=some ⟨oc,od,.func (W.fnOf x q (kj s) (jd s) (ao s) .none kV dc pm an cd ct),sl⟩
theorem MS{K:W.Frag}{x qual:Str}{st:Stmt}{f:Addr}{fd:FuncData}{ps:List Str}(F:Fun K x qual st f fd)(h:∀(kV doc pm:Value)(an:Option Addr)(cdv ct x0:Value),bindArgs (W.fnOf x qual (kj st) (jd st) (ao st) .none kV doc pm an cdv ct) ⟨[x0],[]⟩=pure (ps.zip [x0]))(hp:ps.length=1:=by rfl):Binds K fd ps []:=
 F.binds fun a b c d e g us hl=>match us,hp▸hl with|[x0],_=>h a b c d e g x0
theorem eO{K:W.Frag}{x qual:Str}{st:Stmt}{f:Addr}{fd:FuncData}{ps:List Str}(F:Fun K x qual st f fd)(h:∀(kV doc pm:Value)(an:Option Addr)(cdv ct x0 x1:Value),bindArgs (W.fnOf x qual (kj st) (jd st) (ao st) .none kV doc pm an cdv ct) ⟨[x0,x1],[]⟩=pure (ps.zip [x0,x1]))(hp:ps.length=2:=by rfl):Binds K fd ps []:=
 F.binds fun a b c d e g us hl=>match us,hp▸hl with|[x0,x1],_=>h a b c d e g x0 x1
theorem l8{K:W.Frag}{x qual:Str}{st:Stmt}{f:Addr}{fd:FuncData}{ps:List Str}(F:Fun K x qual st f fd)(h:∀(kV doc pm:Value)(an:Option Addr)(cdv ct x0 x1 x2:Value),bindArgs (W.fnOf x qual (kj st) (jd st) (ao st) .none kV doc pm an cdv ct) ⟨[x0,x1,x2],[]⟩=pure (ps.zip [x0,x1,x2]))(hp:ps.length=3:=by rfl):Binds K fd ps []:=
 F.binds fun a b c d e g us hl=>match us,hp▸hl with|[x0,x1,x2],_=>h a b c d e g x0 x1 x2
theorem aeB{K:W.Frag}{x qual:Str}{st:Stmt}{f:Addr}{fd:FuncData}{ps:List Str}(F:Fun K x qual st f fd)(h:∀(kV doc pm:Value)(an:Option Addr)(cdv ct x0 x1 x2 x3:Value),bindArgs (W.fnOf x qual (kj st) (jd st) (ao st) .none kV doc pm an cdv ct) ⟨[x0,x1,x2,x3],[]⟩=pure (ps.zip [x0,x1,x2,x3]))(hp:ps.length=4:=by rfl):Binds K fd ps []:=
 F.binds fun a b c d e g us hl=>match us,hp▸hl with|[x0,x1,x2,x3],_=>h a b c d e g x0 x1 x2 x3
theorem aiJ{w:World}{K:W.Frag}{h:Heap}{mg:Str→Option Value}{fa:Addr}(X:K.In h)(G:h.Ns mainGlobals mg)(hfa:mg "answers"=some (.ref fa))
  {a9 aU aJ az dP dQ fh bB dR c9 de cx b9 f7 f9 dj eF fi eG dk FC gb gd gf fj dS dm dn gg dq dU kG cP iQ cb dW fk cc cg cy bN cC df cp bR cA bS dX bT cq bj gF bU bF br a8 bD bG bw bV bp bW bH kH kI bM iR vv om fm dY ot jk dr bO eI cI eJ dt du cJ eL cK FD kJ dI iB jm eY iS iT iU iV iW iX iY iZ i0 i3 gG gH gI gJ gK gM gN gO gP gQ gR gS cu cT gh:Addr}
  {Q8 Q9 Ra Rb BL Rc MT MU MV MW yE MX Rf Rg Rh Ri BM Rj tV tW tX tY jM tZ Rk Rl Rm Rn BN Ro MY MZ M0 M3 yF M4 M5 M6 M7 M8 yG M9 Km Kn Ko Kp wd Kq Hw Hx Hy Hz tm HA Vp Vq Vr Vs Gd Vt Vu Vv Vw Vx Ge Vy Rp Rq Rr Rt BO Ru Vz VA VB VC Gf VD Rv Rw Rx Ry BP Rz VE VF VG VH Gg VI RA RB RC RD BQ RE aiK aiL aiM aiN aeC aiO VJ VL VM VN Gh VO VP VQ VR VS Gi VT VU VV VW VX Gj VY RF RG RH RI BR RJ Na Nb Nc Nd yH Nf Kr Ks Kt Ku we Kv Kw Kx Ky Kz wg KA VZ V0 V1 V2 Gk V3 KC KD KG KH wj KI Ng Nh Ni Nj yI Nk abT abU abV abW PN abX HB HC HD HE tq HF YN YO YQ YR KJ YS HG HH HI HJ tw HK Nl Nn Np Nq yJ Nr RK RM RN RO BS RP HL HM HN HP tD HQ HR HS HU HV tE HW KL KN KO KP wk KR D9 Ea Eb Ec p9 Ed Ee Ef Eg Eh qa Ei Nt Nu Nv Nw yK Ny Ej Ek El Em qb En BU BV BW BX oI BY HX HY HZ Ia tF Ib BZ B0 B1 B2 oJ B3 RQ RR RT RU B4 RV B5 B6 B7 B8 oK B9 Eo Ep Er Es qc Et ua ub uc ue jN uf YT YU YV YW KS YX Ca Cb Cc Cd oM Ce Ab Ac Ad Ae nh Af wm wo wq wu kP wx qd qe qh qk i5 ql xI xJ xK xM lK xN Ag Ah Ai Aj ni Ak wy wz wA wB kQ wC Cf Cg Ci Cj oN Ck uh ui uj um jO uq Cm Cn Co Cp oO Cq Al Am An Ao nj Ap abY abZ ab0 ab1 PQ ab2 ab3 ab4 ab5 ab6 PR ab7 xO xP xQ xR lL xS YY YZ Y0 Y1 KU Y2 agz agA agB agC aaB agD aeD aeE aeF aeG V4 aeH RW RX RY RZ Cr R8 Nz NA NB NC yL ND aeI aeJ aeK aeL V5 aeM ab8 ab9 aca acb PU acd Sa Sb Sd Se Cs Sf Eu Ew Ex Ey qo Ez V6 V7 V8 V9 Gm Wa NF NG NH NI yM NJ Wb Wc Wd We Gn Wh Sg Sh Si Sj Ct Sk Sl Sm Sn So Cu Sq NK NL NM NN yN NO Wi Wj Wk Wl Gp Wm NP NQ NR NS yO NT aiP aiQ aiR aiS aeN aiT ace acf acg ach PV aci Y3 Y4 Y5 Y6 KW Y7:Value}
  {Sr Ss NU NV Su Sv ur uu Sw Sx NW NX NY NZ KY KZ Ic Ie Wn Wo Wq Wr Sy Sz Ws Wt SA SD Wu Wv SE SF aiU aiV Ww Wx Wy Wz WA WB SG SH N0 N1 K0 K1 K3 K4 WC WD K5 K6 N2 N3 acj ack Ig Ih Y8 Y9 Ii Ij N4 N5 SI SJ Ik Il Im Io K7 K8 EA EB EC ED N6 N7 EE EF Cv Cw Ip Iq Cy Cz SK SM CA CB EG EH uv uw Za Zb CC CD Aq Ar wD wF qp qr xT xU As Au wG wH CF CG uy uz CH CI Av Aw acm acn aco acp xV xW Zc Zd agE agF aeO aeP SN SO N8 N9 aeQ aeR acq acr SQ SR EI EJ WE WG Oa Ob WH WI SS SU SV SW Oc Od WJ WK Oe Of aiW aiX acs acu Ze Zf:Option Addr}
  {SX Og SY uA S1 Oh Oi K9 Ir WL WM S2 WN S3 WO S4 aiY WQ WR WS S5 Oj La Lb WT Lc Ol acv Iu Zg Iv Om S6 Iw Iy Ld EK EL Oo EM CJ Iz CK S7 CL EN uB Zh CM Ax wI qt xX Ay wJ CN uC CO Az acw acx xY Zi agG aeS S8 Oq aeT acy S9 EO WU Ot WV Ta Tb Ou WW Ov aiZ acz Zj:Array (Option Value)}
  {t1 t2 t3 t4 t5 t6 t7 t8 t9 t10 t11 t12 t16 t17 t18 t19 t21 t23 t25 t27 t29 t31 t34 t39 t40 t45 t46 t47 t52 t53 t54 t55 t56 t61 t62 t63 t64 t65 t70 t71 t76 t77 t82 t83 t84 t85 t86 t91 t92 t93 t98 t99 am4 am5 am6 am7 am8 am9 ana anb anc ane anf ang anh ani anj ank anl anm ano anp anq anr ant anu anv anw anx anz anA anB anC anD anE akL akM akN akO anF anG anH anI anJ anK anL anM anN anO anP anQ anR anS anT akP akQ:Tok}
  {akR akS akT akU anU anV anW anY anZ an0 n13 an1 an2 n144 an3 an4 an5 n164 an6 n35 n41 n48 n57 n66 n72 n78 n87 n94:Nat}
  {akV akW akX akY akZ ak0 an7 ak1 ak2 ak3 ak4 ak5 ak6 ak7 an8 an9 aoa aob aoc aod aoe aof aog:Option Addr}
  {ak8 ak9 ala alb alc ald ale alf aoh alg alh ali alj alk aoi aoj aok aol aom aon aoo aop aoq:Array (Option Value)}
  {alm aln alo alp alq alr als alu alv alw alx aly alz alA alB alC alD alE alF alG h20 alH alI alJ alK alL alM alN alO alP alQ h22 alR alS alT h24 h26 h28 h30 h33 h38 h44 h51 h60 h69 h75 h81 h90 h97:Int}
  (ai0:W.nsIn K mainGlobals "Unit"=some (some (.ref a9)))
  (agH:W.plainGet K a9 Str.empty=true)
  (agI:W.hasDictIn K a9=true)
  (agJ:W.plainOver K a9=true)
  (agK:W.findIn K (.ref a9) "__setattr__"=some (some (.builtin "object.__setattr__")))
  (Jc:W.makesIn K a9=true)
  (agL:W.keepIn K (.ref a9)=true)
  (Ow:W.findIn K (.ref a9) "power"=some none)
  (Ox:W.findIn K (.ref a9) "fleet"=some none)
  (Oy:W.findIn K (.ref a9) "shore"=some none)
  (Oz:W.findIn K (.ref a9) "order"=some none)
  (WX:W.findIn K (.ref a9) "way"=some none)
  (agM:W.nsIn K mainGlobals "Table"=some (some (.ref aU)))
  (aeU:W.plainGet K aU Str.empty=true)
  (aeV:W.hasDictIn K aU=true)
  (aeW:W.plainOver K aU=true)
  (aeX:W.findIn K (.ref aU) "__setattr__"=some (some (.builtin "object.__setattr__")))
  (Bw:W.makesIn K aU=true)
  (aeY:W.keepIn K (.ref aU)=true)
  (Le:W.findIn K (.ref aU) "kinds"=some none)
  (xZ:W.findIn K (.ref aU) "land_links"=some none)
  (AA:W.findIn K (.ref aU) "sea_links"=some none)
  (Lf:W.findIn K (.ref aU) "units"=some none)
  (agN:W.nsIn K mainGlobals "Field"=some (some (.ref aJ)))
  (aeZ:W.plainGet K aJ Str.empty=true)
  (ae0:W.hasDictIn K aJ=true)
  (ae1:W.plainOver K aJ=true)
  (ae2:W.findIn K (.ref aJ) "__setattr__"=some (some (.builtin "object.__setattr__")))
  (fI:W.makesIn K aJ=true)
  (ae3:W.keepIn K (.ref aJ)=true)
  (Lg:W.findIn K (.ref aJ) "units"=some none)
  (IA:W.findIn K (.ref aJ) "orders"=some none)
  (Lh:W.findIn K (.ref aJ) "given"=some none)
  (Li:W.findIn K (.ref aJ) "goals"=some none)
  (IB:W.findIn K (.ref aJ) "coming"=some none)
  (WY:W.nsIn K mainGlobals "Reckoning"=some (some (.ref az)))
  (Tc:W.plainGet K az Str.empty=true)
  (Td:W.hasDictIn K az=true)
  (Te:W.plainOver K az=true)
  (Tf:W.findIn K (.ref az) "__setattr__"=some (some (.builtin "object.__setattr__")))
  (gY:W.makesIn K az=true)
  (Tg:W.keepIn K (.ref az)=true)
  (AB:W.findIn K (.ref az) "field"=some none)
  (CP:W.findIn K (.ref az) "told"=some none)
  (ER:W.findIn K (.ref az) "cut"=some none)
  (ai1:W.nsIn K mainGlobals "min"=some none)
  (ai2:W.nsIn K mainGlobals "max"=some none)
  (ai3:W.nsIn K mainGlobals "any"=some none)
  (ae4:W.nsIn K mainGlobals "range"=some none)
  (ai4:W.nsIn K mainGlobals "len"=some none)
  (ai5:W.nsIn K mainGlobals "zip"=some none)
  (ae5:W.nsIn K mainGlobals "tuple"=some none)
  (acA:W.nsIn K mainGlobals "sorted"=some none)
  (agO:W.nsIn K mainGlobals "list"=some none)
  (ai6:W.nsIn K mainGlobals "sum"=some none)
  (WZ:W.nsIn K mainGlobals "both_ways"=some (some (.ref dP)))
  (Gq:K.lookup dP=fO "both_ways" "both_ways" u9 Q8 Sr Q9 Ra Rb Ss BL Rc SX)
  (Gr:W.codeIn K BL "both_ways"=true)
  (Gs:W.keepIn K (.ref dP)=true)
  (Th:W.nsIn K mainGlobals "land_joins"=some (some (.ref dQ)))
  (CQ:K.lookup dQ=fO "land_joins" "land_joins" rj MT NU MU MV MW NV yE MX Og)
  (CS:W.codeIn K yE "land_joins"=true)
  (CV:W.keepIn K (.ref dQ)=true)
  (W0:W.nsIn K mainGlobals "sea_joins"=some (some (.ref fh)))
  (Gu:K.lookup fh=fO "sea_joins" "sea_joins" vc Rf Su Rg Rh Ri Sv BM Rj SY)
  (Gv:W.codeIn K BM "sea_joins"=true)
  (Gw:W.keepIn K (.ref fh)=true)
  (wK:W.nsIn K mainGlobals "sea_joins_province"=some (some (.ref bB)))
  (kT:K.lookup bB=fO "sea_joins_province" "sea_joins_province" dN tV ur tW tX tY uu jM tZ uA)
  (kU:W.codeIn K jM "sea_joins_province"=true)
  (kW:W.keepIn K (.ref bB)=true)
  (W2:W.findIn K (.ref a9) "__init__"=some (some (.ref dR)))
  (W3:W.isFn K (.ref dR)=true)
  (Gx:K.lookup dR=fO "__init__" "Unit.__init__" vd Rk Sw Rl Rm Rn Sx BN Ro S1)
  (Gy:W.codeIn K BN "Unit.__init__"=true)
  (Gz:W.keepIn K (.ref dR)=true)
  (Ti:W.findIn K (.ref aU) "__init__"=some (some (.ref c9)))
  (Tj:W.isFn K (.ref c9)=true)
  (CW:K.lookup c9=fO "__init__" "Table.__init__" rk MY NW MZ M0 M3 NX yF M4 Oh)
  (CY:W.codeIn K yF "Table.__init__"=true)
  (CZ:W.keepIn K (.ref c9)=true)
  (To:W.findIn K (.ref aU) "wipe"=some (some (.ref de)))
  (Tp:W.isFn K (.ref de)=true)
  (C0:K.lookup de=fO "wipe" "Table.wipe" rm M5 NY M6 M7 M8 NZ yG M9 Oi)
  (C1:W.codeIn K yG "Table.wipe"=true)
  (sv:W.keepIn K (.ref de)=true)
  (OA:W.nsIn K mainGlobals "clear_table"=some (some (.ref cx)))
  (yP:K.lookup cx=fO "clear_table" "clear_table" o7 Km KY Kn Ko Kp KZ wd Kq K9)
  (yQ:W.codeIn K wd "clear_table"=true)
  (yR:W.keepIn K (.ref cx)=true)
  (Lj:W.nsIn K mainGlobals "add_province"=some (some (.ref b9)))
  (wL:K.lookup b9=fO "add_province" "add_province" mF Hw Ic Hx Hy Hz Ie tm HA Ir)
  (wM:W.codeIn K tm "add_province"=true)
  (wN:W.keepIn K (.ref b9)=true)
  (Zk:W.nsIn K mainGlobals "add_link"=some (some (.ref f7)))
  (Lk:K.lookup f7=fO "add_link" "add_link" zA Vp Wn Vq Vr Vs Wo Gd Vt WL)
  (Ll:W.codeIn K Gd "add_link"=true)
  (Lm:W.keepIn K (.ref f7)=true)
  (Zl:W.nsIn K mainGlobals "can_join"=some (some (.ref f9)))
  (Ln:K.lookup f9=fO "can_join" "can_join" zB Vu Wq Vv Vw Vx Wr Ge Vy WM)
  (Lo:W.codeIn K Ge "can_join"=true)
  (Lq:W.keepIn K (.ref f9)=true)
  (W4:W.nsIn K mainGlobals "join_land"=some (some (.ref dj)))
  (GA:K.lookup dj=fO "join_land" "join_land" ve Rp Sy Rq Rr Rt Sz BO Ru S2)
  (GB:W.codeIn K BO "join_land"=true)
  (GC:W.keepIn K (.ref dj)=true)
  (Zm:W.nsIn K mainGlobals "join_sea"=some (some (.ref eF)))
  (Lr:K.lookup eF=fO "join_sea" "join_sea" zC Vz Ws VA VB VC Wt Gf VD WN)
  (Ls:W.codeIn K Gf "join_sea"=true)
  (Lu:W.keepIn K (.ref eF)=true)
  (W5:W.nsIn K mainGlobals "can_stand"=some (some (.ref fi)))
  (GD:K.lookup fi=fO "can_stand" "can_stand" vf Rv SA Rw Rx Ry SD BP Rz S3)
  (GF:W.codeIn K BP "can_stand"=true)
  (GG:W.keepIn K (.ref fi)=true)
  (Zn:W.nsIn K mainGlobals "set_unit"=some (some (.ref eG)))
  (Lv:K.lookup eG=fO "set_unit" "set_unit" zD VE Wu VF VG VH Wv Gg VI WO)
  (Lw:W.codeIn K Gg "set_unit"=true)
  (Lx:W.keepIn K (.ref eG)=true)
  (W6:W.nsIn K mainGlobals "take_unit"=some (some (.ref dk)))
  (GH:K.lookup dk=fO "take_unit" "take_unit" vg RA SE RB RC RD SF BQ RE S4)
  (GI:W.codeIn K BQ "take_unit"=true)
  (GJ:W.keepIn K (.ref dk)=true)
  (alU:W.nsIn K mainGlobals "lay"=some (some (.ref FC)))
  (ahx:K.lookup FC=fO "lay" "lay" aen aiK aiU aiL aiM aiN aiV aeC aiO aiY)
  (ahy:W.codeIn K aeC "lay"=true)
  (ahz:W.keepIn K (.ref FC)=true)
  (Zo:W.nsIn K mainGlobals "greatest"=some (some (.ref gb)))
  (Ly:K.lookup gb=fO "greatest" "greatest" zE VJ Ww VL VM VN Wx Gh VO WQ)
  (Lz:W.codeIn K Gh "greatest"=true)
  (LA:W.keepIn K (.ref gb)=true)
  (Zp:W.nsIn K mainGlobals "in_range"=some (some (.ref gd)))
  (LB:K.lookup gd=fO "in_range" "in_range" zF VP Wy VQ VR VS Wz Gi VT WR)
  (LC:W.codeIn K Gi "in_range"=true)
  (LD:W.keepIn K (.ref gd)=true)
  (Zq:W.nsIn K mainGlobals "as_order"=some (some (.ref gf)))
  (LF:K.lookup gf=fO "as_order" "as_order" zG VU WA VV VW VX WB Gj VY WS)
  (LG:W.codeIn K Gj "as_order"=true)
  (LH:W.keepIn K (.ref gf)=true)
  (W7:W.nsIn K mainGlobals "tell_unit"=some (some (.ref fj)))
  (GK:K.lookup fj=fO "tell_unit" "tell_unit" vh RF SG RG RH RI SH BR RJ S5)
  (GL:W.codeIn K BR "tell_unit"=true)
  (GN:W.keepIn K (.ref fj)=true)
  (Tq:W.nsIn K mainGlobals "driven_out"=some (some (.ref dS)))
  (C2:K.lookup dS=fO "driven_out" "driven_out" lW Na N0 Nb Nc Nd N1 yH Nf Oj)
  (C3:W.codeIn K yH "driven_out"=true)
  (C4:W.keepIn K (.ref dS)=true)
  (OB:W.nsIn K mainGlobals "whereabouts"=some (some (.ref dm)))
  (yS:K.lookup dm=fO "whereabouts" "whereabouts" o8 Kr K0 Ks Kt Ku K1 we Kv La)
  (yT:W.codeIn K we "whereabouts"=true)
  (yU:W.keepIn K (.ref dm)=true)
  (OC:W.nsIn K mainGlobals "chain_leads"=some (some (.ref dn)))
  (yV:K.lookup dn=fO "chain_leads" "chain_leads" ij Kw K3 Kx Ky Kz K4 wg KA Lb)
  (yW:W.codeIn K wg "chain_leads"=true)
  (yX:W.keepIn K (.ref dn)=true)
  (Zr:W.nsIn K mainGlobals "carriers"=some (some (.ref gg)))
  (LI:K.lookup gg=fO "carriers" "carriers" ro VZ WC V0 V1 V2 WD Gk V3 WT)
  (LJ:W.codeIn K Gk "carriers"=true)
  (LK:W.keepIn K (.ref gg)=true)
  (OD:W.nsIn K mainGlobals "ways_behind"=some (some (.ref dq)))
  (yY:K.lookup dq=fO "ways_behind" "ways_behind" ik KC K5 KD KG KH K6 wj KI Lc)
  (yZ:W.codeIn K wj "ways_behind"=true)
  (y3:W.keepIn K (.ref dq)=true)
  (Tr:W.nsIn K mainGlobals "comer_cuts"=some (some (.ref dU)))
  (C5:K.lookup dU=fO "comer_cuts" "comer_cuts" rq Ng N2 Nh Ni Nj N3 yI Nk Ol)
  (C6:W.codeIn K yI "comer_cuts"=true)
  (C7:W.keepIn K (.ref dU)=true)
  (ae6:W.nsIn K mainGlobals "is_cut"=some (some (.ref kG)))
  (W8:K.lookup kG=fO "is_cut" "is_cut" A4 abT acj abU abV abW ack PN abX acv)
  (W9:W.codeIn K PN "is_cut"=true)
  (Xa:W.keepIn K (.ref kG)=true)
  (LM:W.nsIn K mainGlobals "cut_supports"=some (some (.ref cP)))
  (wO:K.lookup cP=fO "cut_supports" "cut_supports" mG HB Ig HC HD HE Ih tq HF Iu)
  (wQ:W.codeIn K tq "cut_supports"=true)
  (wR:W.keepIn K (.ref cP)=true)
  (acB:W.nsIn K mainGlobals "reaches"=some (some (.ref iQ)))
  (PX:K.lookup iQ=fO "reaches" "reaches" DX YN Y8 YO YQ YR Y9 KJ YS Zg)
  (PY:W.codeIn K KJ "reaches"=true)
  (PZ:W.keepIn K (.ref iQ)=true)
  (LN:W.nsIn K mainGlobals "counted_hold"=some (some (.ref cb)))
  (wU:K.lookup cb=fO "counted_hold" "counted_hold" mH HG Ii HH HI HJ Ij tw HK Iv)
  (wV:W.codeIn K tw "counted_hold"=true)
  (wW:W.keepIn K (.ref cb)=true)
  (Ts:W.nsIn K mainGlobals "fleet_move"=some (some (.ref dW)))
  (C8:K.lookup dW=fO "fleet_move" "fleet_move" rA Nl N4 Nn Np Nq N5 yJ Nr Om)
  (C9:W.codeIn K yJ "fleet_move"=true)
  (Dc:W.keepIn K (.ref dW)=true)
  (Xb:W.nsIn K mainGlobals "army_move"=some (some (.ref fk)))
  (GO:K.lookup fk=fO "army_move" "army_move" vi RK SI RM RN RO SJ BS RP S6)
  (GP:W.codeIn K BS "army_move"=true)
  (GQ:W.keepIn K (.ref fk)=true)
  (LO:W.nsIn K mainGlobals "counted_move"=some (some (.ref cc)))
  (wX:K.lookup cc=fO "counted_move" "counted_move" mI HL Ik HM HN HP Il tD HQ Iw)
  (wY:W.codeIn K tD "counted_move"=true)
  (wZ:W.keepIn K (.ref cc)=true)
  (LP:W.nsIn K mainGlobals "counted_stay"=some (some (.ref cg)))
  (w4:K.lookup cg=fO "counted_stay" "counted_stay" mJ HR Im HS HU HV Io tE HW Iy)
  (w6:W.codeIn K tE "counted_stay"=true)
  (w8:W.keepIn K (.ref cg)=true)
  (OE:W.nsIn K mainGlobals "counted_aid"=some (some (.ref cy)))
  (y4:K.lookup cy=fO "counted_aid" "counted_aid" o9 KL K7 KN KO KP K8 wk KR Ld)
  (y6:W.codeIn K wk "counted_aid"=true)
  (y8:W.keepIn K (.ref cy)=true)
  (IC:W.nsIn K mainGlobals "counted_carry"=some (some (.ref bN)))
  (tG:K.lookup bN=fO "counted_carry" "counted_carry" k7 D9 EA Ea Eb Ec EB p9 Ed EK)
  (tH:W.codeIn K p9 "counted_carry"=true)
  (tI:W.keepIn K (.ref bN)=true)
  (ID:W.nsIn K mainGlobals "counted_order"=some (some (.ref cC)))
  (tJ:K.lookup cC=fO "counted_order" "counted_order" k8 Ee EC Ef Eg Eh ED qa Ei EL)
  (tK:W.codeIn K qa "counted_order"=true)
  (tM:W.keepIn K (.ref cC)=true)
  (Tt:W.findIn K (.ref aJ) "__init__"=some (some (.ref df)))
  (Tu:W.isFn K (.ref df)=true)
  (Dd:K.lookup df=fO "__init__" "Field.__init__" rB Nt N6 Nu Nv Nw N7 yK Ny Oo)
  (De:W.codeIn K yK "Field.__init__"=true)
  (Df:W.keepIn K (.ref df)=true)
  (IE:W.findIn K (.ref aJ) "take_in"=some (some (.ref cp)))
  (IF:W.isFn K (.ref cp)=true)
  (tN:K.lookup cp=fO "take_in" "Field.take_in" k9 Ej EE Ek El Em EF qb En EM)
  (tO:W.codeIn K qb "Field.take_in"=true)
  (lD:W.keepIn K (.ref cp)=true)
  (ES:W.findIn K (.ref aJ) "power_of"=some (some (.ref bR)))
  (ET:W.isFn K (.ref bR)=true)
  (qu:K.lookup bR=fO "power_of" "Field.power_of" jU BU Cv BV BW BX Cw oI BY CJ)
  (qw:W.codeIn K oI "Field.power_of"=true)
  (kd:W.keepIn K (.ref bR)=true)
  (LQ:W.findIn K (.ref aJ) "stands"=some (some (.ref cA)))
  (LR:W.isFn K (.ref cA)=true)
  (w9:K.lookup cA=fO "stands" "Field.stands" mK HX Ip HY HZ Ia Iq tF Ib Iz)
  (xa:W.codeIn K tF "Field.stands"=true)
  (nk:W.keepIn K (.ref cA)=true)
  (EU:W.findIn K (.ref aJ) "supports"=some (some (.ref bS)))
  (EV:W.isFn K (.ref bS)=true)
  (qx:K.lookup bS=fO "supports" "Field.supports" jV BZ Cy B0 B1 B2 Cz oJ B3 CK)
  (qy:W.codeIn K oJ "Field.supports"=true)
  (ke:W.keepIn K (.ref bS)=true)
  (Xc:W.findIn K (.ref aJ) "apt"=some (some (.ref dX)))
  (Xd:W.isFn K (.ref dX)=true)
  (GR:K.lookup dX=fO "apt" "Field.apt" vj RQ SK RR RT RU SM B4 RV S7)
  (GS:W.codeIn K B4 "Field.apt"=true)
  (xb:W.keepIn K (.ref dX)=true)
  (EW:W.findIn K (.ref aJ) "by_water"=some (some (.ref bT)))
  (EX:W.isFn K (.ref bT)=true)
  (qA:K.lookup bT=fO "by_water" "Field.by_water" jW B5 CA B6 B7 B8 CB oK B9 CL)
  (qB:W.codeIn K oK "Field.by_water"=true)
  (kf:W.keepIn K (.ref bT)=true)
  (IG:W.findIn K (.ref aJ) "has_way"=some (some (.ref cq)))
  (IH:W.isFn K (.ref cq)=true)
  (tP:K.lookup cq=fO "has_way" "Field.has_way" lb Eo EG Ep Er Es EH qc Et EN)
  (tQ:W.codeIn K qc "Field.has_way"=true)
  (lE:W.keepIn K (.ref cq)=true)
  (xc:W.findIn K (.ref aJ) "head_to_head"=some (some (.ref bj)))
  (xf:W.isFn K (.ref bj)=true)
  (kX:K.lookup bj=fO "head_to_head" "Field.head_to_head" fY ua uv ub uc ue uw jN uf uB)
  (kY:W.codeIn K jN "Field.head_to_head"=true)
  (gw:W.keepIn K (.ref bj)=true)
  (acC:W.nsIn K mainGlobals "telling"=some (some (.ref gF)))
  (P0:K.lookup gF=fO "telling" "telling" DY YT Za YU YV YW Zb KS YX Zh)
  (P1:W.codeIn K KS "telling"=true)
  (P2:W.keepIn K (.ref gF)=true)
  (EY:W.findIn K (.ref az) "__init__"=some (some (.ref bU)))
  (EZ:W.isFn K (.ref bU)=true)
  (qC:K.lookup bU=fO "__init__" "Reckoning.__init__" jX Ca CC Cb Cc Cd CD oM Ce CM)
  (qD:W.codeIn K oM "Reckoning.__init__"=true)
  (qE:W.keepIn K (.ref bU)=true)
  (Dg:W.findIn K (.ref az) "uncut"=some (some (.ref bF)))
  (Dh:W.isFn K (.ref bF)=true)
  (oP:K.lookup bF=fO "uncut" "Reckoning.uncut" fS Ab Aq Ac Ad Ae Ar nh Af Ax)
  (oQ:W.codeIn K nh "Reckoning.uncut"=true)
  (jB:W.keepIn K (.ref bF)=true)
  (ya:W.findIn K (.ref az) "helpers"=some (some (.ref br)))
  (yb:W.isFn K (.ref br)=true)
  (lM:K.lookup br=fO "helpers" "Reckoning.helpers" g9 wm wD wo wq wu wF kP wx wI)
  (lN:W.codeIn K kP "Reckoning.helpers"=true)
  (hZ:W.keepIn K (.ref br)=true)
  (sC:W.findIn K (.ref az) "finds_room"=some (some (.ref a8)))
  (sD:W.isFn K (.ref a8)=true)
  (jC:K.lookup a8=fO "finds_room" "Reckoning.finds_room" ft qd qp qe qh qk qr i5 ql qt)
  (jD:W.codeIn K i5 "Reckoning.finds_room"=true)
  (fA:W.keepIn K (.ref a8)=true)
  (AD:W.findIn K (.ref az) "attack"=some (some (.ref bD)))
  (AE:W.isFn K (.ref bD)=true)
  (nv:K.lookup bD=fO "attack" "Reckoning.attack" fu xI xT xJ xK xM xU lK xN xX)
  (nA:W.codeIn K lK "Reckoning.attack"=true)
  (iJ:W.keepIn K (.ref bD)=true)
  (Di:W.findIn K (.ref az) "keeps"=some (some (.ref bG)))
  (Dj:W.isFn K (.ref bG)=true)
  (oR:K.lookup bG=fO "keeps" "Reckoning.keeps" jh Ag As Ah Ai Aj Au ni Ak Ay)
  (oS:W.codeIn K ni "Reckoning.keeps"=true)
  (jE:W.keepIn K (.ref bG)=true)
  (yc:W.findIn K (.ref az) "holding"=some (some (.ref bw)))
  (yd:W.isFn K (.ref bw)=true)
  (lO:K.lookup bw=fO "holding" "Reckoning.holding" hC wy wG wz wA wB wH kQ wC wJ)
  (lP:W.codeIn K kQ "Reckoning.holding"=true)
  (ic:W.keepIn K (.ref bw)=true)
  (E1:W.findIn K (.ref az) "wall"=some (some (.ref bV)))
  (E2:W.isFn K (.ref bV)=true)
  (qF:K.lookup bV=fO "wall" "Reckoning.wall" jY Cf CF Cg Ci Cj CG oN Ck CN)
  (qG:W.codeIn K oN "Reckoning.wall"=true)
  (kg:W.keepIn K (.ref bV)=true)
  (xg:W.findIn K (.ref az) "greatest"=some (some (.ref bp)))
  (xh:W.isFn K (.ref bp)=true)
  (kZ:K.lookup bp=fO "greatest" "Reckoning.greatest" dO uh uy ui uj um uz jO uq uC)
  (k0:W.codeIn K jO "Reckoning.greatest"=true)
  (gy:W.keepIn K (.ref bp)=true)
  (E3:W.findIn K (.ref az) "goes"=some (some (.ref bW)))
  (E4:W.isFn K (.ref bW)=true)
  (qH:K.lookup bW=fO "goes" "Reckoning.goes" jZ Cm CH Cn Co Cp CI oO Cq CO)
  (qI:W.codeIn K oO "Reckoning.goes"=true)
  (kh:W.keepIn K (.ref bW)=true)
  (Dk:W.findIn K (.ref az) "going"=some (some (.ref bH)))
  (Dl:W.isFn K (.ref bH)=true)
  (oT:K.lookup bH=fO "going" "Reckoning.going" ji Al Av Am An Ao Aw nj Ap Az)
  (oU:W.codeIn K nj "Reckoning.going"=true)
  (jF:W.keepIn K (.ref bH)=true)
  (ae7:W.nsIn K mainGlobals "reckon"=some (some (.ref kH)))
  (Xe:K.lookup kH=fO "reckon" "reckon" JK abY acm abZ ab0 ab1 acn PQ ab2 acw)
  (Xf:W.codeIn K PQ "reckon"=true)
  (Xg:W.keepIn K (.ref kH)=true)
  (ae8:W.nsIn K mainGlobals "agrees"=some (some (.ref kI)))
  (Xh:K.lookup kI=fO "agrees" "agrees" JL ab3 aco ab4 ab5 ab6 acp PR ab7 acx)
  (Xi:W.codeIn K PR "agrees"=true)
  (Xj:W.keepIn K (.ref kI)=true)
  (AF:W.nsIn K mainGlobals "worked_out_first"=some (some (.ref bM)))
  (nB:K.lookup bM=fO "worked_out_first" "worked_out_first" iy xO xV xP xQ xR xW lL xS xY)
  (nE:W.codeIn K lL "worked_out_first"=true)
  (nF:W.keepIn K (.ref bM)=true)
  (acD:W.nsIn K mainGlobals "settled"=some (some (.ref iR)))
  (P4:K.lookup iR=fO "settled" "settled" DZ YY Zc YZ Y0 Y1 Zd KU Y2 Zi)
  (P5:W.codeIn K KU "settled"=true)
  (P6:W.keepIn K (.ref iR)=true)
  (ai7:W.nsIn K mainGlobals "most"=some (some (.ref vv)))
  (ae9:K.lookup vv=fO "most" "most" YC agz agE agA agB agC agF aaB agD agG)
  (afa:W.codeIn K aaB "most"=true)
  (afb:W.keepIn K (.ref vv)=true)
  (agP:W.nsIn K mainGlobals "least"=some (some (.ref om)))
  (aaC:K.lookup om=fO "least" "least" QR aeD aeO aeE aeF aeG aeP V4 aeH aeS)
  (aaD:W.codeIn K V4 "least"=true)
  (aaE:W.keepIn K (.ref om)=true)
  (Xk:W.nsIn K mainGlobals "ring_from"=some (some (.ref fm)))
  (GU:K.lookup fm=fO "ring_from" "ring_from" vk RW SN RX RY RZ SO Cr R8 S8)
  (GV:W.codeIn K Cr "ring_from"=true)
  (GW:W.keepIn K (.ref fm)=true)
  (Tv:W.nsIn K mainGlobals "free_moves"=some (some (.ref dY)))
  (Dm:K.lookup dY=fO "free_moves" "free_moves" rC Nz N8 NA NB NC N9 yL ND Oq)
  (Dn:W.codeIn K yL "free_moves"=true)
  (Dp:W.keepIn K (.ref dY)=true)
  (agQ:W.nsIn K mainGlobals "rings"=some (some (.ref ot)))
  (aaF:K.lookup ot=fO "rings" "rings" QS aeI aeQ aeJ aeK aeL aeR V5 aeM aeT)
  (aaG:W.codeIn K V5 "rings"=true)
  (aaH:W.keepIn K (.ref ot)=true)
  (afc:W.nsIn K mainGlobals "listed"=some (some (.ref jk)))
  (Xl:K.lookup jk=fO "listed" "listed" JM ab8 acq ab9 aca acb acr PU acd acy)
  (Xm:W.codeIn K PU "listed"=true)
  (Xn:W.keepIn K (.ref jk)=true)
  (Xo:W.nsIn K mainGlobals "ask_order"=some (some (.ref dr)))
  (GX:K.lookup dr=fO "ask_order" "ask_order" vm Sa SQ Sb Sd Se SR Cs Sf S9)
  (GY:W.codeIn K Cs "ask_order"=true)
  (GZ:W.keepIn K (.ref dr)=true)
  (II:W.nsIn K mainGlobals "ask_strengths"=some (some (.ref bO)))
  (tR:K.lookup bO=fO "ask_strengths" "ask_strengths" lg Eu EI Ew Ex Ey EJ qo Ez EO)
  (tS:W.codeIn K qo "ask_strengths"=true)
  (tT:W.keepIn K (.ref bO)=true)
  (Zs:W.nsIn K mainGlobals "ask_cuts"=some (some (.ref eI)))
  (LS:K.lookup eI=fO "ask_cuts" "ask_cuts" rD V6 WE V7 V8 V9 WG Gm Wa WU)
  (LU:W.codeIn K Gm "ask_cuts"=true)
  (LV:W.keepIn K (.ref eI)=true)
  (Tw:W.nsIn K mainGlobals "ask_agrees"=some (some (.ref cI)))
  (Dq:K.lookup cI=fO "ask_agrees" "ask_agrees" rE NF Oa NG NH NI Ob yM NJ Ot)
  (Dr:W.codeIn K yM "ask_agrees"=true)
  (Ds:W.keepIn K (.ref cI)=true)
  (Zt:W.nsIn K mainGlobals "ask_most"=some (some (.ref eJ)))
  (LW:K.lookup eJ=fO "ask_most" "ask_most" zH Wb WH Wc Wd We WI Gn Wh WV)
  (LX:W.codeIn K Gn "ask_most"=true)
  (LY:W.keepIn K (.ref eJ)=true)
  (Xp:W.nsIn K mainGlobals "ask_least"=some (some (.ref dt)))
  (G0:K.lookup dt=fO "ask_least" "ask_least" vn Sg SS Sh Si Sj SU Ct Sk Ta)
  (G1:W.codeIn K Ct "ask_least"=true)
  (G2:W.keepIn K (.ref dt)=true)
  (Xq:W.nsIn K mainGlobals "ask_rings"=some (some (.ref du)))
  (G3:K.lookup du=fO "ask_rings" "ask_rings" vo Sl SV Sm Sn So SW Cu Sq Tb)
  (G4:W.codeIn K Cu "ask_rings"=true)
  (G5:W.keepIn K (.ref du)=true)
  (Tx:W.nsIn K mainGlobals "ask_behind"=some (some (.ref cJ)))
  (Dt:K.lookup cJ=fO "ask_behind" "ask_behind" rF NK Oc NL NM NN Od yN NO Ou)
  (Du:W.codeIn K yN "ask_behind"=true)
  (Dv:W.keepIn K (.ref cJ)=true)
  (Zu:W.nsIn K mainGlobals "ask_ways"=some (some (.ref eL)))
  (LZ:K.lookup eL=fO "ask_ways" "ask_ways" zI Wi WJ Wj Wk Wl WK Gp Wm WW)
  (L0:W.codeIn K Gp "ask_ways"=true)
  (L1:W.keepIn K (.ref eL)=true)
  (Tz:W.nsIn K mainGlobals "ask_counts"=some (some (.ref cK)))
  (Dx:K.lookup cK=fO "ask_counts" "ask_counts" lX NP Oe NQ NR NS Of yO NT Ov)
  (Dy:W.codeIn K yO "ask_counts"=true)
  (Dz:W.keepIn K (.ref cK)=true)
  (alV:W.nsIn K mainGlobals "ask"=some (some (.ref FD)))
  (ahA:K.lookup FD=fO "ask" "ask" aeo aiP aiW aiQ aiR aiS aiX aeN aiT aiZ)
  (ahB:W.codeIn K aeN "ask"=true)
  (ahC:W.keepIn K (.ref FD)=true)
  (afd:W.nsIn K mainGlobals "answer"=some (some (.ref kJ)))
  (Xr:K.lookup kJ=fO "answer" "answer" JN ace acs acf acg ach acu PV aci acz)
  (Xs:W.codeIn K PV "answer"=true)
  (Xt:W.keepIn K (.ref kJ)=true)
  (P7:W.nsIn K mainGlobals "answers"=some (some (.ref dI)))
  (P8:K.lookup dI=fO "answers" "answers" D0 Y3 Ze Y4 Y5 Y6 Zf KW Y7 Zj)
  (P9:W.codeIn K KW "answers"=true)
  (Qa:W.keepIn K (.ref dI)=true)
  (L3:W.nsIn K mainGlobals "LAST_TELLING"=some (some (.int 11 akQ)))
  (OF:W.nsIn K mainGlobals "LAST_LAYING"=some (some (.int 5 akP)))
  (afe:W.nsIn K mainGlobals "ASKERS"=some (some (.ref gh)))
  (acE:W.nsIn K mainGlobals "COUNTED"=some (some (.ref cT)))
  (alW:W.nsIn K mainGlobals "WAY"=some (some (.int 11 akO)))
  (L4:W.nsIn K mainGlobals "ORDER_LENGTH"=some (some (.int 4 akN)))
  (OG:W.nsIn K mainGlobals "FIRST_ORDER"=some (some (.int 6 akM)))
  (OH:W.nsIn K mainGlobals "MOST_BEHIND"=some (some (.int 24 akL)))
  (Zv:W.nsIn K mainGlobals "GREATEST"=some (some (.ref cu)))
  (acF:W.nsIn K mainGlobals "NUMBERS"=some (some (.ref eY)))
  (agR:W.nsIn K mainGlobals "DOERS"=some (some (.ref jm)))
  (TB:W.nsIn K mainGlobals "MOST_UNITS"=some (some (.int 24 t19)))
  (E5:W.nsIn K mainGlobals "MOST_SEA_LINKS"=some (some (.int 300 t18)))
  (DA:W.nsIn K mainGlobals "MOST_LAND_LINKS"=some (some (.int 300 t17)))
  (E6:W.nsIn K mainGlobals "MOST_PROVINCES"=some (some (.int 40 t16)))
  (ai8:W.nsIn K mainGlobals "HOLD"=some (some (.ref iB)))
  (agS:W.nsIn K mainGlobals "CARRY"=some (some (.int 4 t8)))
  (alX:W.nsIn K mainGlobals "AID"=some (some (.int 3 t7)))
  (ai9:W.nsIn K mainGlobals "STAY"=some (some (.int 2 t6)))
  (aja:W.nsIn K mainGlobals "MOVE"=some (some (.int 1 t5)))
  (agT:W.nsIn K mainGlobals "COAST"=some (some (.int 2 t4)))
  (alY:W.nsIn K mainGlobals "SEA"=some (some (.int 1 t3)))
  (ajb:W.nsIn K mainGlobals "LAND"=some (some (.int 0 t2)))
  (aff:W.nsIn K mainGlobals "SHORES"=some (some (.int 4 t1)))
  (afg:K.lookup iB=some ⟨.type "tuple",an7,.seq #[.int 0 t9,.int 0 t10,.int 0 t11,.int 0 t12] n13,aoh⟩)
  (acG:K.lookup jm=some ⟨.type "dict",none,.dict #[⟨h20,.int 0 t21,.ref cx⟩,⟨h22,.int 1 t23,.ref b9⟩,⟨h24,.int 2 t25,.ref dj⟩,⟨h26,.int 3 t27,.ref eF⟩,⟨h28,.int 4 t29,.ref eG⟩,⟨h30,.int 5 t31,.ref dk⟩] anU, #[]⟩)
  (alZ:h20=cS w (.inl 0))
  (al0:h22=cS w (.inl 1))
  (al1:h24=cS w (.inl 2))
  (al2:h26=cS w (.inl 3))
  (al3:h28=cS w (.inl 4))
  (al4:h30=cS w (.inl 5))
  (acH:(jm==sysModules)=false)
  (Xu:K.lookup eY=some ⟨.type "dict",none,.dict #[⟨h33,.int 0 t34,.ref iS⟩,⟨h38,.int 1 t39,.ref iT⟩,⟨h44,.int 2 t45,.ref iU⟩,⟨h51,.int 3 t52,.ref iV⟩,⟨h60,.int 4 t61,.ref iW⟩,⟨h69,.int 5 t70,.ref iX⟩,⟨h75,.int 6 t76,.ref iY⟩,⟨h81,.int 7 t82,.ref iZ⟩,⟨h90,.int 8 t91,.ref i0⟩,⟨h97,.int 9 t98,.ref i3⟩,⟨alm,.int 10 am6,.ref gG⟩,⟨aln,.int 11 ana,.ref gH⟩,⟨alo,.int 12 ane,.ref gI⟩,⟨alp,.int 13 ang,.ref gJ⟩,⟨alq,.int 14 ani,.ref gK⟩,⟨alr,.int 15 anj,.ref gM⟩,⟨als,.int 16 ank,.ref gN⟩,⟨alu,.int 17 anl,.ref gO⟩,⟨alv,.int 18 anm,.ref gP⟩,⟨alw,.int 19 ano,.ref gQ⟩,⟨alx,.int 20 anp,.ref gR⟩,⟨aly,.int 21 anq,.ref gS⟩] akR, #[]⟩)
  (OI:K.lookup iS=some ⟨.type "tuple",an8,.seq #[] n35,aoi⟩)
  (OJ:K.lookup iT=some ⟨.type "tuple",an9,.seq #[.str "kind" t40] n41,aoj⟩)
  (OK:K.lookup iU=some ⟨.type "tuple",aoa,.seq #[.str "province" t46,.str "province" t47] n48,aok⟩)
  (OL:K.lookup iV=some ⟨.type "tuple",aob,.seq #[.str "province" t53,.str "shore" t54,.str "province" t55,.str "shore" t56] n57,aol⟩)
  (OM:K.lookup iW=some ⟨.type "tuple",aoc,.seq #[.str "power" t62,.str "fleet" t63,.str "province" t64,.str "shore" t65] n66,aom⟩)
  (ON:K.lookup iX=some ⟨.type "tuple",aod,.seq #[.str "province" t71] n72,aon⟩)
  (OO:K.lookup iY=some ⟨.type "tuple",aoe,.seq #[.str "province" t77] n78,aoo⟩)
  (OP:K.lookup iZ=some ⟨.type "tuple",aof,.seq #[.str "province" t83,.str "province" t84,.str "shore" t85,.str "water" t86] n87,aop⟩)
  (OQ:K.lookup i0=some ⟨.type "tuple",aog,.seq #[.str "province" t92,.str "province" t93] n94,aoq⟩)
  (OR:K.lookup i3=some ⟨.type "tuple",akV,.seq #[.str "province" t99,.str "province" am4,.str "province" am5] anV,ak8⟩)
  (L5:K.lookup gG=some ⟨.type "tuple",akW,.seq #[.str "province" am7,.str "province" am8,.str "province" am9] anW,ak9⟩)
  (L6:K.lookup gH=some ⟨.type "tuple",akX,.seq #[.str "province" anb,.str "way" anc] anY,ala⟩)
  (L7:K.lookup gI=some ⟨.type "tuple",akY,.seq #[.str "province" anf] anZ,alb⟩)
  (L8:K.lookup gJ=some ⟨.type "tuple",akZ,.seq #[.str "province" anh] an0,alc⟩)
  (L9:K.lookup gK=some ⟨.type "tuple",ak0,.seq #[] an1,ald⟩)
  (Ma:K.lookup gM=some ⟨.type "tuple",ak1,.seq #[] an2,ale⟩)
  (Mb:K.lookup gN=some ⟨.type "tuple",ak2,.seq #[] n144,alf⟩)
  (Mc:K.lookup gO=some ⟨.type "tuple",ak3,.seq #[] an3,alg⟩)
  (Md:K.lookup gP=some ⟨.type "tuple",ak4,.seq #[] an4,alh⟩)
  (Me:K.lookup gQ=some ⟨.type "tuple",ak5,.seq #[] an5,ali⟩)
  (Mf:K.lookup gR=some ⟨.type "tuple",ak6,.seq #[] n164,alj⟩)
  (Mg:K.lookup gS=some ⟨.type "tuple",ak7,.seq #[] an6,alk⟩)
  (al5:h33=cS w (.inl 0))
  (al6:h38=cS w (.inl 1))
  (al7:h44=cS w (.inl 2))
  (al8:h51=cS w (.inl 3))
  (al9:h60=cS w (.inl 4))
  (ama:h69=cS w (.inl 5))
  (amb:h75=cS w (.inl 6))
  (amc:h81=cS w (.inl 7))
  (amd:h90=cS w (.inl 8))
  (ame:h97=cS w (.inl 9))
  (ajc:alm=cS w (.inl 10))
  (ajd:aln=cS w (.inl 11))
  (aje:alo=cS w (.inl 12))
  (ajf:alp=cS w (.inl 13))
  (ajg:alq=cS w (.inl 14))
  (ajh:alr=cS w (.inl 15))
  (aji:als=cS w (.inl 16))
  (ajj:alu=cS w (.inl 17))
  (ajk:alv=cS w (.inl 18))
  (ajl:alw=cS w (.inl 19))
  (ajm:alx=cS w (.inl 20))
  (ajn:aly=cS w (.inl 21))
  (Xv:(eY==sysModules)=false)
  (TC:K.lookup cu=some ⟨.type "dict",none,.dict #[⟨alz,.str "kind" anr,.int 2 ant⟩,⟨alA,.str "shore" anu,.int 3 anv⟩,⟨alB,.str "power" anw,.int 6 anx⟩,⟨alC,.str "fleet" anz,.int 1 anA⟩,⟨alD,.str "water" anB,.int 1 anC⟩,⟨alE,.str "way" anD,.int 1 anE⟩] akS, #[]⟩)
  (ajo:alz=cS w (.inr "kind"))
  (ajp:alA=cS w (.inr "shore"))
  (ajq:alB=cS w (.inr "power"))
  (ajr:alC=cS w (.inr "fleet"))
  (ajs:alD=cS w (.inr "water"))
  (ajt:alE=cS w (.inr "way"))
  (TF:(cu==sysModules)=false)
  (Xw:K.lookup cT=some ⟨.type "dict",none,.dict #[⟨alF,.int 0 anF,.ref cb⟩,⟨alG,.int 1 anG,.ref cc⟩,⟨alH,.int 2 anH,.ref cg⟩,⟨alI,.int 3 anI,.ref cy⟩,⟨alJ,.int 4 anJ,.ref bN⟩] akT, #[]⟩)
  (aju:alF=cS w (.inl 0))
  (ajv:alG=cS w (.inl 1))
  (ajw:alH=cS w (.inl 2))
  (ajx:alI=cS w (.inl 3))
  (ajy:alJ=cS w (.inl 4))
  (Xx:(cT==sysModules)=false)
  (Zw:K.lookup gh=some ⟨.type "dict",none,.dict #[⟨alK,.int 12 anK,.ref dr⟩,⟨alL,.int 13 anL,.ref bO⟩,⟨alM,.int 14 anM,.ref eI⟩,⟨alN,.int 15 anN,.ref cI⟩,⟨alO,.int 16 anO,.ref eJ⟩,⟨alP,.int 17 anP,.ref dt⟩,⟨alQ,.int 18 anQ,.ref du⟩,⟨alR,.int 19 anR,.ref cJ⟩,⟨alS,.int 20 anS,.ref eL⟩,⟨alT,.int 21 anT,.ref cK⟩] akU, #[]⟩)
  (ajz:alK=cS w (.inl 12))
  (ajA:alL=cS w (.inl 13))
  (ajB:alM=cS w (.inl 14))
  (ajC:alN=cS w (.inl 15))
  (ajD:alO=cS w (.inl 16))
  (ajE:alP=cS w (.inl 17))
  (ajF:alQ=cS w (.inl 18))
  (ajG:alR=cS w (.inl 19))
  (ajH:alS=cS w (.inl 20))
  (ajI:alT=cS w (.inl 21))
  (Zx:(gh==sysModules)=false)
  :∃a:Adr,a.dI=fa∧Txt w K mg a:=by
 have e:=hfa.symm.trans (W.mg_of X G P7);have e2:dI=fa:=by injection (Option.some.inj e.symm)
 exact⟨⟨dP,dQ,fh,bB,dR,c9,de,cx,b9,f7,f9,dj,eF,fi,eG,dk,FC,gb,gd,gf,fj,dS,dm,dn,gg,dq,dU,kG,cP,iQ,cb,dW,fk,cc,cg,cy,bN,cC,df,cp,bR,cA,bS,dX,bT,cq,bj,gF,bU,bF,br,a8,bD,bG,bw,bV,bp,bW,bH,kH,kI,bM,iR,vv,om,fm,dY,ot,jk,dr,bO,eI,cI,eJ,dt,du,cJ,eL,cK,FD,kJ,dI,a9,aU,aJ,az,iB,jm,eY,iS,iT,iU,iV,iW,iX,iY,iZ,i0,i3,gG,gH,gI,gJ,gK,gM,gN,gO,gP,gQ,gR,gS,cu,cT,gh,_,_,_,_,_,_,_,_,_,_,_,_,_,_,_,_,_,_,_,_,_,_,_,_,_,_,_,_,_,_,_,_,_,_,_,_,_,_,_,_,_,_,_,_,_,_,_,_,_,_,_,_,_,_,_,_,_,_,_,_,_,_,_,_,_,_,_,_,_,_,_,_,_,_,_,_,_,_,_,_,_,_,.int 4 t1,.int 0 t2,.int 1 t3,.int 2 t4,.int 1 t5,.int 2 t6,.int 3 t7,.int 4 t8,.int 40 t16,.int 300 t17,.int 300 t18,.int 24 t19,.int 24 akL,.int 6 akM,.int 4 akN,.int 11 akO,.int 5 akP,.int 11 akQ⟩,e2,{
  kK:=W.mg_of X G WZ,
  gn:=ak Gq Gr Gs,
  kL:=eO (ak Gq Gr Gs) (by intros;rfl),
  Bf:=W.mg_of X G Th,
  rV:=ak CQ CS CV,
  Bg:=l8 (ak CQ CS CV) (by intros;rfl),
  ox:=W.mg_of X G W0,
  kM:=ak Gu Gv Gw,
  oy:=l8 (ak Gu Gv Gw) (by intros;rfl),
  dZ:=W.mg_of X G wK,
  cQ:=ak kT kU kW,
  d7:=l8 (ak kT kU kW) (by intros;rfl),
  FE:=ak Gx Gy Gz,
  FF:=aeB (ak Gx Gy Gz) (by intros;rfl),
  Bh:=ak CW CY CZ,
  Bi:=MS (ak CW CY CZ) (by intros;rfl),
  pz:=⟨To,Tp,sv⟩,
  Bj:=ak C0 C1 sv,
  rW:=MS (ak C0 C1 sv) (by intros;rfl),
  MQ:=W.mg_of X G OA,
  pA:=ak yP yQ yR,
  yo:=eO (ak yP yQ yR) (by intros;rfl),
  JV:=W.mg_of X G Lj,
  mU:=ak wL wM wN,
  vK:=eO (ak wL wM wN) (by intros;rfl),
  zU:=W.mg_of X G Zk,
  rX:=ak Lk Ll Lm,
  zV:=l8 (ak Lk Ll Lm) (by intros;rfl),
  zW:=W.mg_of X G Zl,
  rY:=ak Ln Lo Lq,
  zX:=aeB (ak Ln Lo Lq) (by intros;rfl),
  Va:=W.mg_of X G W4,
  vL:=ak GA GB GC,
  FG:=eO (ak GA GB GC) (by intros;rfl),
  YE:=W.mg_of X G Zm,
  zY:=ak Lr Ls Lu,
  JW:=eO (ak Lr Ls Lu) (by intros;rfl),
  FH:=W.mg_of X G W5,
  vM:=ak GD GF GG,
  FI:=l8 (ak GD GF GG) (by intros;rfl),
  YF:=W.mg_of X G Zn,
  zZ:=ak Lv Lw Lx,
  JX:=eO (ak Lv Lw Lx) (by intros;rfl),
  Vb:=W.mg_of X G W6,
  vN:=ak GH GI GJ,
  FJ:=eO (ak GH GI GJ) (by intros;rfl),
  ahp:=W.mg_of X G alU,
  aex:=ak ahx ahy ahz,
  ahq:=l8 (ak ahx ahy ahz) (by intros;rfl),
  JY:=W.mg_of X G Zo,
  z0:=ak Ly Lz LA,
  JZ:=eO (ak Ly Lz LA) (by intros;rfl),
  J0:=W.mg_of X G Zp,
  z5:=ak LB LC LD,
  J1:=l8 (ak LB LC LD) (by intros;rfl),
  J2:=W.mg_of X G Zq,
  z6:=ak LF LG LH,
  J3:=eO (ak LF LG LH) (by intros;rfl),
  FK:=W.mg_of X G W7,
  vO:=ak GK GL GN,
  FN:=l8 (ak GK GL GN) (by intros;rfl),
  rZ:=W.mg_of X G Tq,
  l5:=ak C2 C3 C4,
  r8:=l8 (ak C2 C3 C4) (by intros;rfl),
  yp:=W.mg_of X G OB,
  pB:=ak yS yT yU,
  yq:=l8 (ak yS yT yU) (by intros;rfl),
  yr:=W.mg_of X G OC,
  pC:=ak yV yW yX,
  yt:=aeB (ak yV yW yX) (by intros;rfl),
  J4:=W.mg_of X G Zr,
  z7:=ak LI LJ LK,
  J5:=l8 (ak LI LJ LK) (by intros;rfl),
  yu:=W.mg_of X G OD,
  pD:=ak yY yZ y3,
  yw:=l8 (ak yY yZ y3) (by intros;rfl),
  Bk:=W.mg_of X G Tr,
  sd:=ak C5 C6 C7,
  Bl:=aeB (ak C5 C6 C7) (by intros;rfl),
  Vc:=W.mg_of X G ae6,
  J6:=ak W8 W9 Xa,
  Vd:=l8 (ak W8 W9 Xa) (by intros;rfl),
  jr:=W.mg_of X G LM,
  gp:=ak wO wQ wR,
  js:=eO (ak wO wQ wR) (by intros;rfl),
  xD:=W.mg_of X G acB,
  pT:=ak PX PY PZ,
  xE:=l8 (ak PX PY PZ) (by intros;rfl),
  J7:=W.mg_of X G LN,
  mV:=ak wU wV wW,
  vP:=l8 (ak wU wV wW) (by intros;rfl),
  Bm:=W.mg_of X G Ts,
  sf:=ak C8 C9 Dc,
  Bn:=l8 (ak C8 C9 Dc) (by intros;rfl),
  FO:=W.mg_of X G Xb,
  vQ:=ak GO GP GQ,
  FP:=l8 (ak GO GP GQ) (by intros;rfl),
  J8:=W.mg_of X G LO,
  mW:=ak wX wY wZ,
  vR:=l8 (ak wX wY wZ) (by intros;rfl),
  J9:=W.mg_of X G LP,
  mX:=ak w4 w6 w8,
  vS:=l8 (ak w4 w6 w8) (by intros;rfl),
  MR:=W.mg_of X G OE,
  pE:=ak y4 y6 y8,
  yx:=l8 (ak y4 y6 y8) (by intros;rfl),
  Hu:=W.mg_of X G IC,
  lz:=ak tG tH tI,
  sU:=l8 (ak tG tH tI) (by intros;rfl),
  sV:=W.mg_of X G ID,
  lA:=ak tJ tK tM,
  sW:=eO (ak tJ tK tM) (by intros;rfl),
  Bo:=ak Dd De Df,
  cM:=eO (ak Dd De Df) (by intros;rfl),
  pU:=⟨IE,IF,lD⟩,
  sX:=ak tN tO lD,
  sY:=l8 (ak tN tO lD) (by intros;rfl),
  cU:=⟨ES,ET,kd⟩,
  pV:=ak qu qw kd,
  dA:=eO (ak qu qw kd) (by intros;rfl),
  fH:=⟨LQ,LR,nk⟩,
  vT:=ak w9 xa nk,
  gr:=eO (ak w9 xa nk) (by intros;rfl),
  oA:=⟨EU,EV,ke⟩,
  pW:=ak qx qy ke,
  pX:=eO (ak qx qy ke) (by intros;rfl),
  sg:=⟨Xc,Xd,xb⟩,
  FQ:=ak GR GS xb,
  vU:=eO (ak GR GS xb) (by intros;rfl),
  d8:=⟨EW,EX,kf⟩,
  pY:=ak qA qB kf,
  eZ:=eO (ak qA qB kf) (by intros;rfl),
  gT:=⟨IG,IH,lE⟩,
  sZ:=ak tP tQ lE,
  ir:=eO (ak tP tQ lE) (by intros;rfl),
  dG:=⟨xc,xf,gw⟩,
  kN:=ak kX kY gw,
  d9:=eO (ak kX kY gw) (by intros;rfl),
  j9:=W.mg_of X G acC,
  gU:=ak P0 P1 P2,
  ka:=eO (ak P0 P1 P2) (by intros;rfl),
  pZ:=ak qC qD qE,
  gV:=aeB (ak qC qD qE) (by intros;rfl),
  iE:=⟨Dg,Dh,jB⟩,
  oB:=ak oP oQ jB,
  ju:=eO (ak oP oQ jB) (by intros;rfl),
  cR:=⟨ya,yb,hZ⟩,
  lI:=ak lM lN hZ,
  c7:=eO (ak lM lN hZ) (by intros;rfl),
  i4:=⟨sC,sD,fA⟩,
  jv:=ak jC jD fA,
  jw:=eO (ak jC jD fA) (by intros;rfl),
  hX:=⟨AD,AE,iJ⟩,
  mY:=ak nv nA iJ,
  iF:=eO (ak nv nA iJ) (by intros;rfl),
  iG:=⟨Di,Dj,jE⟩,
  oC:=ak oR oS jE,
  jx:=eO (ak oR oS jE) (by intros;rfl),
  ed:=⟨yc,yd,ic⟩,
  lJ:=ak lO lP ic,
  eV:=eO (ak lO lP ic) (by intros;rfl),
  jy:=⟨E1,E2,kg⟩,
  p3:=ak qF qG kg,
  kb:=eO (ak qF qG kg) (by intros;rfl),
  fM:=⟨xg,xh,gy⟩,
  kO:=ak kZ k0 gy,
  gu:=eO (ak kZ k0 gy) (by intros;rfl),
  fT:=⟨E3,E4,kh⟩,
  p4:=ak qH qI kh,
  gW:=eO (ak qH qI kh) (by intros;rfl),
  fz:=⟨Dk,Dl,jF⟩,
  oE:=ak oT oU jF,
  fU:=MS (ak oT oU jF) (by intros;rfl),
  Bp:=W.mg_of X G ae7,
  vV:=ak Xe Xf Xg,
  Bq:=eO (ak Xe Xf Xg) (by intros;rfl),
  Ve:=W.mg_of X G ae8,
  Ka:=ak Xh Xi Xj,
  Vf:=eO (ak Xh Xi Xj) (by intros;rfl),
  mZ:=W.mg_of X G AF,
  iH:=ak nB nE nF,
  m8:=MS (ak nB nE nF) (by intros;rfl),
  D6:=W.mg_of X G acD,
  xF:=ak P4 P5 P6,
  D7:=eO (ak P4 P5 P6) (by intros;rfl),
  YG:=W.mg_of X G ai7,
  QZ:=ak ae9 afa afb,
  YH:=MS (ak ae9 afa afb) (by intros;rfl),
  Q0:=W.mg_of X G agP,
  Jb:=ak aaC aaD aaE,
  Q1:=MS (ak aaC aaD aaE) (by intros;rfl),
  FR:=W.mg_of X G Xk,
  vW:=ak GU GV GW,
  FT:=eO (ak GU GV GW) (by intros;rfl),
  Br:=W.mg_of X G Tv,
  si:=ak Dm Dn Dp,
  Bs:=MS (ak Dm Dn Dp) (by intros;rfl),
  aal:=W.mg_of X G agQ,
  Q2:=ak aaF aaG aaH,
  aam:=MS (ak aaF aaG aaH) (by intros;rfl),
  vX:=W.mg_of X G afc,
  m9:=ak Xl Xm Xn,
  vY:=MS (ak Xl Xm Xn) (by intros;rfl),
  Vg:=W.mg_of X G Xo,
  vZ:=ak GX GY GZ,
  FU:=eO (ak GX GY GZ) (by intros;rfl),
  Hv:=W.mg_of X G II,
  lB:=ak tR tS tT,
  tj:=eO (ak tR tS tT) (by intros;rfl),
  YI:=W.mg_of X G Zs,
  z8:=ak LS LU LV,
  Kb:=eO (ak LS LU LV) (by intros;rfl),
  Q3:=W.mg_of X G Tw,
  sj:=ak Dq Dr Ds,
  Bt:=eO (ak Dq Dr Ds) (by intros;rfl),
  YJ:=W.mg_of X G Zt,
  z9:=ak LW LX LY,
  Kc:=eO (ak LW LX LY) (by intros;rfl),
  Vh:=W.mg_of X G Xp,
  v3:=ak G0 G1 G2,
  FV:=eO (ak G0 G1 G2) (by intros;rfl),
  Vi:=W.mg_of X G Xq,
  v5:=ak G3 G4 G5,
  FW:=eO (ak G3 G4 G5) (by intros;rfl),
  Q4:=W.mg_of X G Tx,
  so:=ak Dt Du Dv,
  Bu:=eO (ak Dt Du Dv) (by intros;rfl),
  YK:=W.mg_of X G Zu,
  Aa:=ak LZ L0 L1,
  Kd:=eO (ak LZ L0 L1) (by intros;rfl),
  Q5:=W.mg_of X G Tz,
  sr:=ak Dx Dy Dz,
  Bv:=eO (ak Dx Dy Dz) (by intros;rfl),
  ahr:=W.mg_of X G alV,
  aey:=ak ahA ahB ahC,
  ahs:=l8 (ak ahA ahB ahC) (by intros;rfl),
  Vj:=W.mg_of X G afd,
  Ke:=ak Xr Xs Xt,
  Vk:=l8 (ak Xr Xs Xt) (by intros;rfl),
  abR:=W.mg_of X G P7,
  D8:=ak P8 P9 Qa,
  abS:=MS (ak P8 P9 Qa) (by intros;rfl),
  aez:=W.mg_of X G ai0,
  eN:=⟨agH,agI,agJ,agK⟩,
  Jc:=⟨Jc,W2,W3,agL⟩,
  l6:=Ow,
  jz:=Ox,
  gX:=Oy,
  l7:=Oz,
  kc:=WX,
  aan:=W.mg_of X G agM,
  aQ:=⟨aeU,aeV,aeW,aeX⟩,
  Bw:=⟨Bw,Ti,Tj,aeY⟩,
  bP:=Le,
  dE:=xZ,
  eh:=AA,
  aL:=Lf,
  kn:=W.mg_of X G agN,
  aE:=⟨aeZ,ae0,ae1,ae2⟩,
  fI:=⟨fI,Tt,Tu,ae3⟩,
  dv:=Lg,
  cj:=IA,
  iq:=Lh,
  aM:=Li,
  e7:=IB,
  oF:=W.mg_of X G WY,
  aA:=⟨Tc,Td,Te,Tf⟩,
  gY:=⟨gY,EY,EZ,Tg⟩,
  aN:=AB,
  e8:=CP,
  lC:=ER,
  aao:=W.mg_none_of X G ai1,
  aap:=W.mg_none_of X G ai2,
  aaq:=W.mg_none_of X G ai3,
  aar:=W.mg_none_of X G ae4,
  fJ:=W.mg_none_of X G ai4,
  aht:=W.mg_none_of X G ai5,
  aas:=W.mg_none_of X G ae5,
  Kf:=W.mg_none_of X G acA,
  aeA:=W.mg_none_of X G agO,
  ahu:=W.mg_none_of X G ai6,
  Vl:=W.mg_of X G aff,
  Vm:=⟨_,rfl⟩,
  YL:=W.mg_of X G ajb,
  YM:=⟨_,rfl⟩,
  aat:=W.mg_of X G alY,
  aau:=⟨_,rfl⟩,
  Q6:=W.mg_of X G agT,
  Q7:=⟨_,rfl⟩,
  Kg:=W.mg_of X G aja,
  Kh:=⟨_,rfl⟩,
  Ki:=W.mg_of X G ai9,
  Kj:=⟨_,rfl⟩,
  aav:=W.mg_of X G alX,
  aaw:=⟨_,rfl⟩,
  aax:=W.mg_of X G agS,
  aay:=⟨_,rfl⟩,
  jA:=fun H=>.inr ⟨_,_,_,afg,rfl,rfl,(by show 4≤sizeLine;decide),(.cons ⟨_,rfl⟩ (.cons ⟨_,rfl⟩ (.cons ⟨_,rfl⟩ (.cons ⟨_,rfl⟩ .nil))))⟩,
  v7:=W.mg_of X G ai8,
  v8:=rfl,
  p5:=W.mg_of X G E6,
  p6:=⟨_,rfl⟩,
  oG:=W.mg_of X G DA,
  oH:=⟨_,rfl⟩,
  p7:=W.mg_of X G E5,
  p8:=⟨_,rfl⟩,
  Bx:=W.mg_of X G TB,
  By:=⟨_,rfl⟩,
  su:=⟨acH,_,_,_,acG,⟨rfl,rfl,rfl⟩,rfl,(.cons ⟨aI,alZ,rfl⟩ (.cons ⟨aI,al0,rfl⟩ (.cons ⟨aI,al1,rfl⟩ (.cons ⟨aI,al2,rfl⟩ (.cons ⟨aI,al3,rfl⟩ (.cons ⟨aI,al4,rfl⟩ .nil))))))⟩,
  aaz:=W.mg_of X G agR,
  aaA:=rfl,
  FX:=fun H=>.inr ⟨_,_,_,OI,rfl,rfl,(by show 0≤sizeLine;decide),.nil⟩,
  FY:=fun H=>.inr ⟨_,_,_,OJ,rfl,rfl,(by show 1≤sizeLine;decide),(.cons ⟨_,rfl⟩ .nil)⟩,
  FZ:=fun H=>.inr ⟨_,_,_,OK,rfl,rfl,(by show 2≤sizeLine;decide),(.cons ⟨_,rfl⟩ (.cons ⟨_,rfl⟩ .nil))⟩,
  F5:=fun H=>.inr ⟨_,_,_,OL,rfl,rfl,(by show 4≤sizeLine;decide),(.cons ⟨_,rfl⟩ (.cons ⟨_,rfl⟩ (.cons ⟨_,rfl⟩ (.cons ⟨_,rfl⟩ .nil))))⟩,
  F6:=fun H=>.inr ⟨_,_,_,OM,rfl,rfl,(by show 4≤sizeLine;decide),(.cons ⟨_,rfl⟩ (.cons ⟨_,rfl⟩ (.cons ⟨_,rfl⟩ (.cons ⟨_,rfl⟩ .nil))))⟩,
  F7:=fun H=>.inr ⟨_,_,_,ON,rfl,rfl,(by show 1≤sizeLine;decide),(.cons ⟨_,rfl⟩ .nil)⟩,
  F8:=fun H=>.inr ⟨_,_,_,OO,rfl,rfl,(by show 1≤sizeLine;decide),(.cons ⟨_,rfl⟩ .nil)⟩,
  F9:=fun H=>.inr ⟨_,_,_,OP,rfl,rfl,(by show 4≤sizeLine;decide),(.cons ⟨_,rfl⟩ (.cons ⟨_,rfl⟩ (.cons ⟨_,rfl⟩ (.cons ⟨_,rfl⟩ .nil))))⟩,
  Ga:=fun H=>.inr ⟨_,_,_,OQ,rfl,rfl,(by show 2≤sizeLine;decide),(.cons ⟨_,rfl⟩ (.cons ⟨_,rfl⟩ .nil))⟩,
  Gb:=fun H=>.inr ⟨_,_,_,OR,rfl,rfl,(by show 3≤sizeLine;decide),(.cons ⟨_,rfl⟩ (.cons ⟨_,rfl⟩ (.cons ⟨_,rfl⟩ .nil)))⟩,
  Bz:=fun H=>.inr ⟨_,_,_,L5,rfl,rfl,(by show 3≤sizeLine;decide),(.cons ⟨_,rfl⟩ (.cons ⟨_,rfl⟩ (.cons ⟨_,rfl⟩ .nil)))⟩,
  BA:=fun H=>.inr ⟨_,_,_,L6,rfl,rfl,(by show 2≤sizeLine;decide),(.cons ⟨_,rfl⟩ (.cons ⟨_,rfl⟩ .nil))⟩,
  BB:=fun H=>.inr ⟨_,_,_,L7,rfl,rfl,(by show 1≤sizeLine;decide),(.cons ⟨_,rfl⟩ .nil)⟩,
  BC:=fun H=>.inr ⟨_,_,_,L8,rfl,rfl,(by show 1≤sizeLine;decide),(.cons ⟨_,rfl⟩ .nil)⟩,
  BD:=fun H=>.inr ⟨_,_,_,L9,rfl,rfl,(by show 0≤sizeLine;decide),.nil⟩,
  BE:=fun H=>.inr ⟨_,_,_,Ma,rfl,rfl,(by show 0≤sizeLine;decide),.nil⟩,
  BF:=fun H=>.inr ⟨_,_,_,Mb,rfl,rfl,(by show 0≤sizeLine;decide),.nil⟩,
  BG:=fun H=>.inr ⟨_,_,_,Mc,rfl,rfl,(by show 0≤sizeLine;decide),.nil⟩,
  BH:=fun H=>.inr ⟨_,_,_,Md,rfl,rfl,(by show 0≤sizeLine;decide),.nil⟩,
  BI:=fun H=>.inr ⟨_,_,_,Me,rfl,rfl,(by show 0≤sizeLine;decide),.nil⟩,
  BJ:=fun H=>.inr ⟨_,_,_,Mf,rfl,rfl,(by show 0≤sizeLine;decide),.nil⟩,
  BK:=fun H=>.inr ⟨_,_,_,Mg,rfl,rfl,(by show 0≤sizeLine;decide),.nil⟩,
  bA:=⟨Xv,_,_,_,Xu,⟨rfl,rfl,rfl⟩,rfl,(.cons ⟨aI,al5,rfl⟩ (.cons ⟨aI,al6,rfl⟩ (.cons ⟨aI,al7,rfl⟩ (.cons ⟨aI,al8,rfl⟩ (.cons ⟨aI,al9,rfl⟩ (.cons ⟨aI,ama,rfl⟩ (.cons ⟨aI,amb,rfl⟩ (.cons ⟨aI,amc,rfl⟩ (.cons ⟨aI,amd,rfl⟩ (.cons ⟨aI,ame,rfl⟩ (.cons ⟨aI,ajc,rfl⟩ (.cons ⟨aI,ajd,rfl⟩ (.cons ⟨aI,aje,rfl⟩ (.cons ⟨aI,ajf,rfl⟩ (.cons ⟨aI,ajg,rfl⟩ (.cons ⟨aI,ajh,rfl⟩ (.cons ⟨aI,aji,rfl⟩ (.cons ⟨aI,ajj,rfl⟩ (.cons ⟨aI,ajk,rfl⟩ (.cons ⟨aI,ajl,rfl⟩ (.cons ⟨aI,ajm,rfl⟩ (.cons ⟨aI,ajn,rfl⟩ .nil))))))))))))))))))))))⟩,
  PH:=W.mg_of X G acF,
  PJ:=rfl,
  iI:=⟨TF,_,_,_,TC,⟨rfl,rfl,rfl⟩,rfl,(.cons ⟨iM,ajo,⟨_,rfl⟩⟩ (.cons ⟨iM,ajp,⟨_,rfl⟩⟩ (.cons ⟨iM,ajq,⟨_,rfl⟩⟩ (.cons ⟨iM,ajr,⟨_,rfl⟩⟩ (.cons ⟨iM,ajs,⟨_,rfl⟩⟩ (.cons ⟨iM,ajt,⟨_,rfl⟩⟩ .nil))))))⟩,
  Kk:=W.mg_of X G Zv,
  Kl:=rfl,
  yy:=W.mg_of X G OH,
  yz:=⟨_,rfl⟩,
  yA:=W.mg_of X G OG,
  yB:=⟨_,rfl⟩,
  v9:=W.mg_of X G L4,
  wa:=⟨_,rfl⟩,
  ahv:=W.mg_of X G alW,
  ahw:=⟨_,rfl⟩,
  mh:=⟨Xx,_,_,_,Xw,⟨rfl,rfl,rfl⟩,rfl,(.cons ⟨aI,aju,rfl⟩ (.cons ⟨aI,ajv,rfl⟩ (.cons ⟨aI,ajw,rfl⟩ (.cons ⟨aI,ajx,rfl⟩ (.cons ⟨aI,ajy,rfl⟩ .nil)))))⟩,
  PL:=W.mg_of X G acE,
  PM:=rfl,
  gv:=⟨Zx,_,_,_,Zw,⟨rfl,rfl,rfl⟩,rfl,(.cons ⟨aI,ajz,rfl⟩ (.cons ⟨aI,ajA,rfl⟩ (.cons ⟨aI,ajB,rfl⟩ (.cons ⟨aI,ajC,rfl⟩ (.cons ⟨aI,ajD,rfl⟩ (.cons ⟨aI,ajE,rfl⟩ (.cons ⟨aI,ajF,rfl⟩ (.cons ⟨aI,ajG,rfl⟩ (.cons ⟨aI,ajH,rfl⟩ (.cons ⟨aI,ajI,rfl⟩ .nil))))))))))⟩,
  Vn:=W.mg_of X G afe,
  Vo:=rfl,
  yC:=W.mg_of X G OF,
  yD:=⟨_,rfl⟩,
  wb:=W.mg_of X G L3,
  wc:=⟨_,rfl⟩}⟩
theorem fin{P:Program}{w:World}{K:W.Frag}{mg:Str→Option Value}{fa:Addr}{k:Nat}{sp:Sp}(h:∃a:Adr,a.dI=fa∧Txt w K mg a)
  (ok:∀a base,Txt w K mg a→aY P w K mg base CX0 k a.dI a.pQ ["calls"] sp):
  ∃fd:FuncData,(∀(s:Shared)(us:List Value),us.length=(["calls"]:List Str).length→BindsTo s fd ⟨us,[]⟩ ((["calls"]:List Str).zip us))∧∀base:Heap,K.In base→base.Ns mainGlobals mg→aY P w K mg base CX0 k fa fd ["calls"] sp:=by
 obtain⟨a,e,T⟩:=h;subst e;refine⟨a.pQ,?_,fun base _ _=>ok a base T⟩;obtain⟨oc,od,kV,doc,pm,an,cdv,ct,osl,e,_⟩:=T.D8.ex;rw[e];exact fun s us hu=>match us,hu with|[_],_=>.of_eq rfl
end My
end
section
namespace My
open PySem PySem.Spec PyProof.Rows L2
open Vbsoaa (Man Order Table orderNums bit linked place)
theorem ko{H:Hp}{x:Addr}{o o':HO}:upd (upd H x o) x o'=upd H x o':=by
 funext b;unfold upd;split<;>rfl
theorem eA{H:Hp}{x p:Addr}{o:HO}(h:upd H x o p=Option.none):p≠x∧H p=Option.none:=by
 by_cases e:p=x
 ·rw[e,ae] at h;cases h
 ·rw[ab e] at h;exact⟨e,h⟩
theorem acI{P:Program}{w:World}{H H':Hp}{b:Addr}{kvs:List (ff×V)}(d:Hj P w H b kvs)(h:∀o,H b=some o→H' b=some o)(ht:∀b xs,H b=some (.tup xs)→H' b=some (.tup xs)):Hj P w H' b kvs:=by
 obtain⟨h1,h2,h3,xs,e,r⟩:=d;exact⟨h1,h2,h3,xs,h _ e,K2.same ht r⟩
section
variable{P:Program}{w:World}{K:PySem.W.Frag}{mg:Str→Option Value}{base:Heap}{a:Adr}
theorem fK(d:Pt):(tfs d).lookup ("kinds":Str)=some (.ref d.k):=by unfold tfs;rfl
theorem Xy(d:Pt):(tfs d).lookup ("land_links":Str)=some (.ref d.l):=by unfold tfs;rfl
theorem aaI(d:Pt):(tfs d).lookup ("sea_links":Str)=some (.ref d.s):=by unfold tfs;rfl
theorem bC(d:Pt):(tfs d).lookup ("units":Str)=some (.ref d.u):=by unfold tfs;rfl
def OS(P:Program)(w:World)(K:PySem.W.Frag)(a:Adr):Sp:=fun vs H Q _=>∃(x dx:Addr)(fs:List (Str×V)),vs=[.ref x]∧H x=some (.ins a.aU dx fs)∧(fs=[]∨∃d,fs=tfs d)∧
 ∀(H':Hp)(d:Pt),TableAt P w K a.aU a.a9 H' x d Vbsoaa.start→(∀b o,H b=some o→b≠x→H' b=some o)→(∀b∈foot x d,b=x∨H b=none)→Q .non H'
theorem agU{fs:List (Str×V)}(h:fs=[]∨∃d,fs=tfs d)(k l s u:Addr):bx "units" (.ref u) (bx "sea_links" (.ref s) (bx "land_links" (.ref l) (bx "kinds" (.ref k) fs)))=tfs ⟨k,l,s,u,[]⟩:=by
 rcases h with rfl|⟨d,rfl⟩
 ·rfl
 ·rfl
theorem qJ(f:Str)(v:V)(fs:List (Str×V))(n:Nat)(h:fs.length≤n):(bx f v fs).length≤n+1:=Nat.le_trans (uG f v fs) (by omega)
theorem y9(T:Txt w K mg a):aY P w K mg base CX0 1 a.de a.rK ["self"] (OS P w K a):=by
 refine T.Bj.ok MP (fun vs H Q E h=>?_) (fun cdv A outer s H vs Q E hr h=>?_)
 ·obtain⟨x,dx,fs,rfl,_⟩:=h;rfl
 ·obtain⟨x,dx,fs,rfl,hx,hfs,q⟩:=h;have hl:fs.length≤4:=by rcases hfs with rfl|⟨d,rfl⟩;exact Nat.zero_le _;exact Nat.le_refl _
  refine⟨_,(af (fq (pv 0) (bf ah) rfl)
   (af (fq (pv 0) adA rfl)
   (af (fq (pv 0) adR rfl)
   (aj (fq (pv 0) fG rfl))))),?_⟩
  refine⟨Nat.zero_le _,fun k hk=>⟨_,rfl,x,_,dx,fs,rfl,(by rw[ab (ai hx hk)];exact hx),T.aQ,T.bP,(by omega),?_⟩⟩;intro l hl';refine⟨_,rfl,x,_,dx,_,rfl,(by rw[ab (ai ae hl')];exact ae),T.aQ,T.dE,Nat.lt_of_le_of_lt (qJ _ _ _ 4 hl) (by decide),?_⟩;intro ss os hs' hD;refine⟨_,rfl,x,_,dx,_,rfl,(by rw[ab (ai ae hs')];exact ae),T.aQ,T.eh,Nat.lt_of_le_of_lt (qJ _ _ _ 5 (qJ _ _ _ 4 hl)) (by decide),?_⟩;intro u hu';refine⟨_,rfl,x,_,dx,_,rfl,(by rw[ab (ai ae hu')];exact ae),T.aQ,T.aL,Nat.lt_of_le_of_lt (qJ _ _ _ 6 (qJ _ _ _ 5 (qJ _ _ _ 4 hl))) (by decide),?_⟩;obtain⟨lx,hl1⟩:=eA hl';obtain⟨lk,hl2⟩:=eA hl1;obtain⟨sx,hs1⟩:=eA hs';obtain⟨sl,hs2⟩:=eA hs1;obtain⟨_,hs3⟩:=eA hs2;obtain⟨sk,hs4⟩:=eA hs3;obtain⟨ux,hu1⟩:=eA hu';obtain⟨us,hu2⟩:=eA hu1;obtain⟨_,hu3⟩:=eA hu2;obtain⟨ul,hu4⟩:=eA hu3;obtain⟨_,hu5⟩:=eA hu4;obtain⟨uk,hu6⟩:=eA hu5;have xk:k≠x:=(ai hx hk).symm;refine q _ ⟨k,l,ss,u,[]⟩ ⟨⟨dx,?_⟩,?_,?_,?_,?_,rfl,List.nodup_nil,fun i m b h=>by simp[Vbsoaa.start] at h⟩ ?_ ?_
  ·rw[ae,agU hfs]
  ·show upd _ _ _ k=some (.lst []);rw[ab xk,ab uk.symm,ab xk,ab sk.symm,ab xk,ab lk.symm,ab xk,ae]
  ·show upd _ _ _ l=some (.dT []);rw[ab lx,ab ul.symm,ab lx,ab sl.symm,ab lx,ae]
  ·show Hj P w _ ss [];refine acI hD (fun o e=>?_) (fun b xs e=>?_)
   ·rw[ab sx,ab us.symm,ab sx];exact e
   ·have nb:b≠x:=fun z=>by rw[z,ab sx.symm,ae] at e;cases e
    have nu:b≠u:=fun z=>by rw[z,ab us,hu2] at e;cases e
    rw[ab nb,ab nu,ab nb];exact e
  ·show upd _ _ _ u=some (.dK []);rw[ab ux,ae]
  ·intro b o e nb;have bk:b≠k:=ai e hk;have bl:b≠l:=ai e hl2;have bs:b≠ss:=ai e hs4;have bu:b≠u:=ai e hu6;rw[ab nb,ab bu,ab nb,ab bs,ab nb,ab bl,ab nb,ab bk];exact e
  ·intro b hb;simp only[foot,List.mem_cons,List.not_mem_nil,or_false] at hb;rcases hb with h|h|h|h|h
   ·exact .inl h
   ·rw[h];exact .inr hk
   ·rw[h];exact .inr hl2
   ·rw[h];exact .inr hs4
   ·rw[h];exact .inr hu6
def OT(P:Program)(w:World)(K:PySem.W.Frag)(a:Adr):Sp:=fun vs H Q _=>∃(x dx:Addr),vs=[.ref x]∧H x=some (.ins a.aU dx [])∧
 ∀(H':Hp)(d:Pt),TableAt P w K a.aU a.a9 H' x d Vbsoaa.start→(∀b o,H b=some o→b≠x→H' b=some o)→(∀b∈foot x d,b=x∨H b=none)→Q .non H'
theorem OU(T:Txt w K mg a):aY P w K mg base CX0 2 a.c9 a.rJ ["self"] (OT P w K a):=by
 refine T.Bh.ok MO (fun vs H Q E h=>?_) (fun cdv A outer s H vs Q E hr h=>?_)
 ·obtain⟨x,dx,rfl,_⟩:=h;rfl
 ·obtain⟨x,dx,rfl,hx,q⟩:=h;refine⟨_,(aj (fo (uI (pv 0) T.aQ T.pz (y9 T) (hr.mono (by decide)) T.rW .nil aC))),?_⟩;exact⟨_,rfl,x,dx,_,rfl,hx,rfl,x,dx,[],rfl,hx,.inl rfl,q⟩
end
end My
end
section
namespace My
open PySem PySem.Spec PyProof.Rows L2
open Vbsoaa (Man Order Table orderNums bit linked place within isProv areProvs)
def rng(t:Table):List Int→Bool
 |[1,k]=>within k 0 2
 |[2,p,q]=>isProv t p&&isProv t q
 |[3,p,s,q,u]=>isProv t p&&(isProv t q&&(within s 0 3&&within u 0 3))
 |[4,pw,f,p,s]=>within pw 0 6&&(within f 0 1&&(isProv t p&&within s 0 3))
 |[5,p]=>isProv t p
 |[6,p]=>isProv t p
 |[7,p,q,u,x]=>isProv t p&&(isProv t q&&(within u 0 3&&within x 0 1))
 |[8,p,q]=>isProv t p&&isProv t q
 |[9,p,b,q]=>isProv t p&&(isProv t b&&isProv t q)
 |[10,p,b,q]=>isProv t p&&(isProv t b&&isProv t q)
 |[11,p,x]=>isProv t p&&within x 0 1
 |[12,p]=>isProv t p
 |13::p::l=>isProv t p&&areProvs t l
 |14::l=>areProvs t l
 |15::l=>areProvs t l
 |19::l=>areProvs t l
 |20::l=>areProvs t l
 |_=>true
section
variable{P:Program}{w:World}{K:PySem.W.Frag}{mg:Str→Option Value}{base:Heap}{a:Adr}
def Aft(P:Program)(w:World)(K:PySem.W.Frag)(a:Adr)(H:Hp)(ta:Addr)(d:Pt)(t:Table)(c:List Int)(Q:VK):Prop:=
 ∀(H':Hp)(d':Pt)(r:Addr),TableAt P w K a.aU a.a9 H' ta d' (step1 t [c]).1→H' r=some (.lst ((step1 t [c]).2.map V.int))→H r=none→r∉foot ta d'→Fra ta d d' H H'→Q (.ref r) H'
theorem TableAt.ahD{CT CU:Addr}{H:Hp}{ta:Addr}{d:Pt}{t:Table}(T:TableAt P w K CT CU H ta d t){r:Addr}(hr:H r=none):r∉foot ta d:=fun hm=>by
 obtain⟨z,hz⟩:=T.there hm;rw[hz] at hr;cases hr
theorem Aft.fin{H H1:Hp}{ta:Addr}{d d1:Pt}{t t1:Table}{c ans:List Int}{Q:VK}(k:Aft P w K a H ta d t c Q)(e:step1 t [c]=(t1,ans))(hT:TableAt P w K a.aU a.a9 H1 ta d1 t1)(fra:Fra ta d d1 H H1){r:Addr}{xs:List V}(hr:H1 r=none)(hx:xs=ans.map V.int):Q (.ref r) (upd H1 r (.lst xs)):=by
 refine k _ d1 r ?_ ?_ (fra.more r hr) (hT.ahD hr) (fra.upd hr)
 ·rw[e];exact hT.upd hr
 ·rw[e,ae,hx]
def Zy(P:Program)(w:World)(K:PySem.W.Frag)(a:Adr)(place:Int):Sp:=fun vs H Q _=>∃(ta l:Addr)(d:Pt)(t:Table)(ns:List Int),vs=[.ref ta,.ref l]∧
 TableAt P w K a.aU a.a9 H ta d t∧Wf t∧H l=some (.lst (ns.map V.int))∧l∉foot ta d∧VbsoaaNeutral.asked1 [place::ns]=true∧rng t (place::ns)=true∧Aft P w K a H ta d t (place::ns) Q
theorem lF:1≤sizeLine:=by decide
theorem qK:2≤sizeLine:=by decide
theorem Mh(T:Txt w K mg a):aY P w K mg base CX0 2 a.cx a.ph ["table","numbers"] (Zy P w K a 0):=by
 refine T.pA.ok JO (fun vs H Q E h=>?_) (fun cdv A outer s H vs Q E hr h=>?_)
 ·obtain⟨ta,l,d,t,ns,rfl,_⟩:=h;rfl
 ·obtain⟨ta,l,d,t,ns,rfl,hT,W,hl,nl,cF,ie,k⟩:=h;obtain⟨dx,htab⟩:=hT.tab;obtain rfl:=sh0 cF;refine⟨_,(af (fo (uI (pv 0) T.aQ T.pz (y9 T) (hr.mono (by decide)) T.rW .nil aC))
   (aj (au (bf (aa aq ah))))),?_⟩
  refine⟨_,rfl,ta,dx,_,rfl,htab,rfl,ta,dx,_,rfl,htab,.inr ⟨d,rfl⟩,fun H1 d1 hT1 hk hn=>?_⟩;refine⟨lF,fun r hr=>?_⟩;refine k.fin (t1:=Vbsoaa.start) (ans:=[0]) rfl hT1 ⟨fun b o e hb=>hk b o e (fun z=>hb (by rw[z];simp[foot])),fun b hb=>?_,fun b hb=>?_⟩ hr rfl
  ·rcases hn b hb with q|q
   ·exact .inl (by rw[q];simp[foot])
   ·exact .inr q
  ·cases z:H b with
   |none=>rfl
   |some o=>
    have nb:b≠ta:=fun e=>by
     obtain⟨dx1,h1⟩:=hT1.tab;rw[e,h1] at hb;cases hb
    rw[hk b o z nb] at hb;cases hb
theorem IJ(T:Txt w K mg a):aY P w K mg base CX0 1 a.b9 a.mO ["table","numbers"] (Zy P w K a 1):=by
 refine T.mU.ok sS (fun vs H Q E h=>?_) (fun cdv A outer s H vs Q E hr h=>?_)
 ·obtain⟨ta,l,d,t,ns,rfl,_⟩:=h;rfl
 ·obtain⟨ta,l,d,t,ns,rfl,hT,W,hl,nl,cF,ie,k⟩:=h;obtain⟨dx,htab⟩:=hT.tab;obtain⟨z,rfl⟩:=sh1 cF;have hz:within z 0 2=true:=ie;refine⟨_,(af (aG (i:=2) sS.nd rfl (Or.inl rfl) (aV cE rfl T.fJ c8 (aa (ay (pv 0) rfl) ah)))
   (af (bJ (bh fb (pv 2) (aX rfl T.p5 T.p6) (a0 _)) (aj (au (bf (aa (nL jb aq) ah)))) aP)
   (af (fo (uM PySem.F.plainAttrs_list PySem.F.slot_list_append PySem.F.type_list_append jR (ay (pv 0) rfl) (aa (bK bL (pv 1) aq (fun _ _=>rfl)) ah)))
   (aj (au (bf (aa aq (aa (pv 2) ah)))))))),?_⟩
  refine⟨_,rfl,ta,_,dx,_,_,rfl,htab,T.aQ,T.bP,fK d,d.k,_,rfl,hT.kinds,?_⟩;refine⟨_,rfl,rfl,_,rfl,?_⟩;have hs:Vbsoaa.step t (.province z)=if Vbsoaa.PROVINCES≤t.board.kinds.length then(t,[-2]) else({t with board:={t.board with kinds:=t.board.kinds++[z.toNat]}},[0,(t.board.kinds.length:Int)]):=by
   show (if within z 0 2=false then _ else _)=_;rw[hz,if_neg (by decide)]
  refine DN (fun h=>?_) (fun h=>?_)
  ·refine⟨_,rfl,lF,fun r hr=>?_⟩;have h1:=of_decide_eq_true h;injection h1 with h1
   rw[List.length_map] at h1;refine k.fin (t1:=t) (ans:=[-2]) ?_ hT .refl hr rfl;show Vbsoaa.step t (.province z)=_;rw[hs,if_pos (by unfold Vbsoaa.PROVINCES;omega)]
  ·have h1:t.board.kinds.length≠40:=fun e=>h (decide_eq_true (by rw[List.length_map,e];rfl));have aoL:=W.kinds;refine⟨_,rfl,ta,_,dx,_,_,rfl,htab,T.aQ,T.bP,fK d,.inl ⟨rfl,_,SqL.of hT.kinds⟩,_,rfl,l,_,0,.int z,rfl,rfl,hl,rfl,d.k,_,_,rfl,rfl,hT.kinds,aB (by rw[List.length_map];omega),?_⟩;refine⟨_,rfl,qK,fun r hr=>?_⟩;have hz2:0≤z∧z≤2:=by
    unfold Vbsoaa.within at hz;rw[Bool.and_eq_true,decide_eq_true_eq,decide_eq_true_eq] at hz;exact hz
   have ez:V.int z=nV z.toNat:=by unfold nV;rw[Int.toNat_of_nonneg hz2.1]
   have e1:t.board.kinds.map nV++[V.int z]=(t.board.kinds++[z.toNat]).map nV:=by rw[ez,List.map_append];rfl
   rw[e1] at hr⊢;refine k.fin (t1:={t with board:={t.board with kinds:=t.board.kinds++[z.toNat]}}) (ans:=[0,(t.board.kinds.length:Int)]) ?_ (hT.agn _) (.write (by simp[foot])) hr (by rw[List.length_map];rfl);show Vbsoaa.step t (.province z)=_;rw[hs,if_neg (by unfold Vbsoaa.PROVINCES;omega)]
end
end My
end
section
namespace My
open PySem PySem.Spec PyProof.Rows L2
open Vbsoaa (Man Order Table orderNums bit linked place within isProv areProvs)
section
variable{P:Program}{w:World}{K:PySem.W.Frag}{mg:Str→Option Value}{base:Heap}{a:Adr}
theorem afh{A:Around}{k:Nat}(hr:jc k A):A.units+2<cLine:=Nat.lt_of_le_of_lt (Nat.add_le_add_left (by decide:2≤64) _) hr.units
theorem E7{ks:List Nat}{p k:Nat}(h:ks[p]?=some k):atI (ks.map nV) (p:Int)=some (.int k):=nM (by rw[List.getElem?_map,h];rfl)
theorem vne{i j:Int}:(!decide (V.int i=V.int j))=decide (i≠j):=by
 by_cases h:i=j
 ·subst h;simp
 ·rw[decide_eq_false (fun z=>h (by injection z)),decide_eq_true h];rfl
def Xz(a:Adr):Sp:=fun vs H Q _=>∃(t dx:Addr)(d:Pt)(ks:List Nat)(p q kp kq:Nat)(b:Int),vs=[.ref t,.int p,.int q,.int b]∧H t=some (.ins a.aU dx (tfs d))∧H d.k=some (.lst (ks.map nV))∧
 ks[p]?=some kp∧ks[q]?=some kq∧Q (.bl (decide ((p:Int)≠q)&&(decide ((kp:Int)≠b)&&decide ((kq:Int)≠b)))) H
theorem G6(T:Txt w K mg a):aY P w K mg base CX0 1 a.f9 a.zK ["table","p","q","barred"] (Xz a):=by
 refine T.rY.ok U6 (fun vs H Q E h=>?_) (fun cdv A outer s H vs Q E hr h=>?_)
 ·obtain⟨t,dx,d,ks,p,q,kp,kq,b,rfl,_⟩:=h;rfl
 ·obtain⟨t,dx,d,ks,p,q,kp,kq,b,rfl,ht,hk,hp,hq,k⟩:=h;refine⟨_,(aj (au (o6 (dJ sN (pv 1) (pv 2) (a0 _)) (o6 (dJ sN (bK bL (ay (pv 0) rfl) (pv 1) (fun _ _=>rfl)) (pv 3) (a0 _)) (mn (dJ sN (bK bL (ay (pv 0) rfl) (pv 2) (fun _ _=>rfl)) (pv 3) (a0 _))))))),?_⟩;refine⟨_,rfl,_,rfl,rfl,_,rfl,?_⟩;rw[vne];cases e1:decide ((p:Int)≠q) with
  |false=>exact aS (by rw[e1] at k;exact k)
  |true=>
   refine bq ⟨_,rfl,t,_,dx,_,_,rfl,ht,T.aQ,T.bP,fK d,_,rfl,d.k,_,_,_,rfl,rfl,hk,E7 hp,_,rfl,rfl,_,rfl,?_⟩;rw[vne];cases e2:decide ((kp:Int)≠b) with
   |false=>exact aS (by rw[e1,e2] at k;exact k)
   |true=>
    refine bq ⟨_,rfl,t,_,dx,_,_,rfl,ht,T.aQ,T.bP,fK d,_,rfl,d.k,_,_,_,rfl,rfl,hk,E7 hq,_,rfl,rfl,?_⟩;rw[vne];rw[e1,e2] at k;exact k
def acJ:Sp:=fun vs H Q _=>∃(x y:Nat),vs=[.int x,.int y]∧∀p,H p=none→Q (.ref p) (upd H p (.tup ((fR x y).map kV)))
theorem amf(x y:Nat):(if(y:Int)<x then(y:Int) else x)=((min x y:Nat):Int):=by split<;>omega
theorem amg(x y:Nat):(if(y:Int)>x then(y:Int) else x)=((max x y:Nat):Int):=by split<;>omega
theorem Qb(T:Txt w K mg a):aY P w K mg base CX0 1 a.dP a.ou ["one","other"] acJ:=by
 refine T.gn.ok A5 (fun vs H Q E h=>?_) (fun cdv A outer s H vs Q E hr h=>?_)
 ·obtain⟨x,y,rfl,_⟩:=h;rfl
 ·obtain⟨x,y,rfl,q⟩:=h;refine⟨_,(aj (au (fW (aa (aV (aa0 rfl) rfl T.aao Yz (aa (pv 0) (aa (pv 1) ah))) (aa (aV (aaZ rfl) rfl T.aap YA (aa (pv 0) (aa (pv 1) ah))) ah))))),?_⟩;refine⟨_,rfl,_,rfl,_,_,rfl,_,rfl,_,rfl,_,_,rfl,qK,fun p hp=>?_⟩;rw[amf,amg];exact q p hp
theorem Qc(x y:Nat):HT.lexLt [((x/4:Nat):Int),((x % 4:Nat):Int)] [((y/4:Nat):Int),((y % 4:Nat):Int)]=decide (x<y):=by
 simp only[HT.lexLt];rw[Bool.eq_iff_iff];split
 ·split<;>simp<;>omega
 ·simp;omega
def acK:Sp:=fun vs H Q _=>∃(b1 b2:Addr)(x y:Nat),vs=[.ref b1,.ref b2]∧H b1=some (.tup ((plK x).map kV))∧H b2=some (.tup ((plK y).map kV))∧
 ∀p o,H p=none→MK (upd H p o) p (mz x y)→Q (.ref p) (upd H p o)
theorem Qe(T:Txt w K mg a):aY P w K mg base CX0 1 a.dP a.ou ["one","other"] acK:=by
 refine T.gn.ok A5 (fun vs H Q E h=>?_) (fun cdv A outer s H vs Q E hr h=>?_)
 ·obtain⟨b1,b2,x,y,rfl,_⟩:=h;rfl
 ·obtain⟨b1,b2,x,y,rfl,h1,h2,q⟩:=h;have hu:=bE hr;refine⟨_,(aj (au (fW (aa (aV (abo rfl hu) rfl T.aao Yz (aa (pv 0) (aa (pv 1) ah))) (aa (aV (abp rfl hu) rfl T.aap YA (aa (pv 0) (aa (pv 1) ah))) ah))))),?_⟩;refine⟨_,rfl,_,rfl,b1,b2,[((x/4:Nat):Int),((x % 4:Nat):Int)],[((y/4:Nat):Int),((y % 4:Nat):Int)],rfl,SqT.of h1,SqT.of h2,_,rfl,_,rfl,b1,b2,[((x/4:Nat):Int),((x % 4:Nat):Int)],[((y/4:Nat):Int),((y % 4:Nat):Int)],rfl,SqT.of h1,SqT.of h2,qK,fun p hp=>?_⟩;refine q p _ hp ⟨_,_,ae,?_⟩;rw[Qc,Qc];generalize HO.tup _=O;have n1:=ai h1 hp;have n2:=ai h2 hp;unfold mz;refine⟨?_,?_⟩
  ·by_cases e:y<x
   ·rw[if_pos (decide_eq_true e),show min x y=y by omega,ab n2];exact h2
   ·rw[if_neg (fun z=>e (of_decide_eq_true z)),show min x y=x by omega,ab n1];exact h1
  ·by_cases e:x<y
   ·rw[if_pos (decide_eq_true e),show max x y=y by omega,ab n2];exact h2
   ·rw[if_neg (fun z=>e (of_decide_eq_true z)),show max x y=x by omega,ab n1];exact h1
end
end My
end
section
namespace My
open PySem PySem.Spec PyProof.Rows L2
open Vbsoaa (Man Order Table orderNums bit linked place within isProv areProvs)
section
variable{P:Program}{w:World}{K:PySem.W.Frag}{mg:Str→Option Value}{base:Heap}{a:Adr}
def XA(P:Program)(w:World):Sp:=fun vs H Q _=>∃(lk:Addr)(y:V)(k:Bool)(n m:Nat),vs=[.ref lk,y,.int m]∧DGX P w H lk y k∧DLX P w H lk n∧
 (k=true→∀r,H r=none→Q (.ref r) (upd H r (.lst [.int (-4)])))∧(k=false→n=m→∀r,H r=none→Q (.ref r) (upd H r (.lst [.int (-2)])))∧
 (k=false→n≠m→DPX P w H lk y (.bl true) fun H'=>∀r,H' r=none→Q (.ref r) (upd H' r (.lst [.int 0])))
theorem afi{H:Hp}{lk:Addr}{y v:V}{Q Q':Hp→Prop}(d:DPX P w H lk y v Q)(h:∀H',Q H'→Q' H'):DPX P w H lk y v Q':=by
 rcases d with⟨H',d,q⟩|⟨kvs,kss,b,d1,d2,d3,d4,d5,d6⟩
 ·exact .inl ⟨H',d,h _ q⟩
 ·exact .inr ⟨kvs,kss,b,d1,d2,d3,d4,d5,fun o ho=>h _ (d6 o ho)⟩
theorem G7(T:Txt w K mg a):aY P w K mg base CX0 1 a.f7 a.zJ ["links","link","most"] (XA P w):=by
 refine T.rX.ok U5 (fun vs H Q E h=>?_) (fun cdv A outer s H vs Q E hr h=>?_)
 ·obtain⟨lk,y,k,n,m,rfl,_⟩:=h;rfl
 ·obtain⟨lk,y,k,n,m,rfl,hg,hn,q1,q2,q3⟩:=h;have hu:=bE hr;have hu2:=afh hr;refine⟨_,(af (bJ (gZ (aaa hu2 (pv 1) (pv 0))) (aj (au (bf (aa (nL jb aq) ah)))) aP)
   (af (bJ (bh fb (aV xu rfl T.fJ c8 (aa (pv 0) ah)) (pv 2) (a0 _)) (aj (au (bf (aa (nL jb aq) ah)))) aP)
   (af (adQ hu2 (pv 0) (pv 1) sM rfl)
   (aj (au (bf (aa aq ah))))))),?_⟩
  refine⟨_,rfl,_,rfl,lk,k,rfl,hg,_,rfl,?_⟩;cases k with
  |true=>exact bq ⟨_,rfl,lF,q1 rfl⟩
  |false=>
   refine aS ?_;refine⟨_,rfl,lk,n,rfl,hn,_,rfl,rfl,_,rfl,?_⟩;by_cases e:n=m
   ·subst e;rw[decide_eq_true rfl];exact bq ⟨_,rfl,lF,q2 rfl rfl⟩
   ·have e2:¬V.int (n:Int)=V.int (m:Int):=fun z=>e (by injection z with z;exact Int.ofNat.inj z);rw[decide_eq_false e2];refine aS ?_;refine⟨_,rfl,_,rfl,lk,rfl,afi (q3 rfl e) fun H1 h=>?_⟩;exact⟨lF,h⟩
theorem Zz(l:List (Nat×Nat))(x y:Nat):nW (l++[(x,y)])=nW l++[(fR x y,.bl true)]:=by unfold nW;rw[List.map_append];rfl
theorem acL(l:List (Nat×Nat))(x y:Nat):Hl (l++[(x,y)])=Hl l++[(mz x y,.bl true)]:=by unfold Hl;rw[List.map_append];rfl
theorem DB{α:Type}{o:Option α}(h:o.isSome=false):o=none:=by cases o with|none=>rfl|some _=>cases h
theorem Aft.fin2{H H1:Hp}{ta:Addr}{d d1:Pt}{t t1:Table}{c ans:List Int}{Q:VK}(k:Aft P w K a H ta d t c Q)(e:step1 t [c]=(t1,ans))(hT:TableAt P w K a.aU a.a9 H1 ta d1 t1)(fra:Fra ta d d1 H H1){xs:List V}(hx:xs=ans.map V.int):∀r,H1 r=none→Q (.ref r) (upd H1 r (.lst xs)):=fun r hr=>k.fin e hT fra hr hx
theorem TH(T:Txt w K mg a):aY P w K mg base CX0 2 a.dj a.vy ["table","numbers"] (Zy P w K a 2):=by
 refine T.vL.ok rG (fun vs H Q E h=>?_) (fun cdv A outer s H vs Q E hr h=>?_)
 ·obtain⟨ta,l,d,t,ns,rfl,_⟩:=h;rfl
 ·obtain⟨ta,l,d,t,ns,rfl,hT,W,hl,nl,cF,ie,k⟩:=h;obtain⟨dx,htab⟩:=hT.tab;obtain⟨zp,zq,rfl⟩:=sh2 cF;have hr2:(isProv t zp&&isProv t zq)=true:=ie;rw[Bool.and_eq_true] at hr2;obtain⟨p,rfl,hp⟩:=cX hr2.1;obtain⟨q,rfl,hq⟩:=cX hr2.2;have kp:=nS hp;have kq:=nS hq;refine⟨_,(af (aG (i:=2) rG.nd rfl (Or.inl rfl) (bK bL (pv 1) aq (fun _ _=>rfl)))
   (af (aG (i:=3) rG.nd rfl (Or.inl rfl) (bK bL (pv 1) aq (fun _ _=>rfl)))
   (af (bJ (uE (bY (aH (G6 T) (hr.mono (by decide)) rfl T.zW T.rY.kp T.zX .nil aC (aa (pv 0) (aa (pv 2) (aa (pv 3) (aa (aX rfl T.aat T.aau) ah))))))) (aj (au (bf (aa (nL jb aq) ah)))) aP)
   (aj (au (aH (G7 T) (hr.mono (by decide)) rfl T.zU T.rX.kp T.zV .nil aC (aa (ay (pv 0) rfl) (aa (aH (Qb T) (hr.mono (by decide)) rfl T.kK T.gn.kp T.kL .nil aC (aa (pv 2) (aa (pv 3) ah))) (aa (aX rfl T.oG T.oH) ah))))))))),?_⟩
  have hs:Vbsoaa.step t (.land p q)=if(p:Int)=q∨Vbsoaa.kind t.board p=1∨Vbsoaa.kind t.board q=1 then(t,[-3]) else if linked t.board.land p q=true then(t,[-4]) else if Vbsoaa.LINKS≤t.board.land.length then(t,[-2]) else
    ({t with board:={t.board with land:=t.board.land++[(p,q)]}},[0]):=by
   show (if(isProv t p&&isProv t q)=false then _ else _)=_;rw[hr2.1,hr2.2,if_neg (by decide)];rfl
  refine⟨_,rfl,l,_,0,.int p,rfl,rfl,hl,rfl,?_⟩;refine⟨_,rfl,l,_,1,.int q,rfl,rfl,hl,rfl,?_⟩;refine⟨_,rfl,_,rfl,_,rfl,ta,dx,d,t.board.kinds,p,q,_,_,1,rfl,htab,hT.kinds,kp,kq,_,rfl,?_⟩;refine DN (fun h=>?_) (fun h=>?_)
  ·refine⟨_,rfl,lF,fun r hr=>?_⟩;refine k.fin (t1:=t) (ans:=[-3]) ?_ hT .refl hr rfl;show Vbsoaa.step t (.land p q)=_;rw[hs,if_pos ?_];simp at h;omega
  ·have hj:¬((p:Int)=q∨Vbsoaa.kind t.board p=1∨Vbsoaa.kind t.board q=1):=by
    simp at h;omega
   have hs2:=hs;rw[if_neg hj] at hs2;refine⟨_,rfl,ta,_,dx,_,_,rfl,htab,T.aQ,T.dE,Xy d,_,rfl,_,rfl,p,q,rfl,fun b hb=>?_⟩;have sm:aF H (upd H b (.tup ((fR p q).map kV))):=aw hb;have hT1:=hT.sameAll sm;refine⟨d.l,.ref b,linked t.board.land p q,t.board.land.length,300,rfl,.inl ⟨_,kC.t (k:=fR p q) hT1.land ae,(zo _ _ _).symm⟩,.inr (.inl ⟨_,hT1.land,by unfold nW;rw[List.length_map]⟩),?_,?_,?_⟩
   ·intro e;refine k.fin2 (t1:=t) (ans:=[-4]) ?_ hT1 (.same sm) rfl;show Vbsoaa.step t (.land p q)=_;rw[hs2,if_pos e]
   ·intro e en;refine k.fin2 (t1:=t) (ans:=[-2]) ?_ hT1 (.same sm) rfl;show Vbsoaa.step t (.land p q)=_;rw[hs2,if_neg (by rw[e];decide),if_pos (by unfold Vbsoaa.LINKS;omega)]
   ·intro e en;have hW:=W.land;have hv:aR (nW t.board.land) (fR p q)=none:=DB (by rw[zo];exact e);refine .inl ⟨_,uU.t (k:=fR p q) hT1.land ae (by unfold nW;rw[List.length_map];exact aB (by omega)),?_⟩;rw[mw _ hv,←Zz];refine k.fin2 (t1:={t with board:={t.board with land:=t.board.land++[(p,q)]}}) (ans:=[0]) ?_ (hT1.ago p q) ((Fra.same sm).trans (.write (by simp[foot]))) rfl;show Vbsoaa.step t (.land p q)=_;rw[hs2,if_neg (by rw[e];decide),if_neg (by unfold Vbsoaa.LINKS;omega)]
theorem XB(T:Txt w K mg a):aY P w K mg base CX0 2 a.eF a.zL ["table","numbers"] (Zy P w K a 3):=by
 refine T.zY.ok nZ (fun vs H Q E h=>?_) (fun cdv A outer s H vs Q E hr h=>?_)
 ·obtain⟨ta,l,d,t,ns,rfl,_⟩:=h;rfl
 ·obtain⟨ta,l,d,t,ns,rfl,hT,W,hl,nl,cF,ie,k⟩:=h;obtain⟨dx,htab⟩:=hT.tab;obtain⟨zp,zs,zq,zu,rfl⟩:=sh3 cF;have hr2:(isProv t zp&&(isProv t zq&&(within zs 0 3&&within zu 0 3)))=true:=ie;simp only[Bool.and_eq_true] at hr2;obtain⟨h1,h2,h3,h4⟩:=hr2;obtain⟨p,rfl,hp⟩:=cX h1;obtain⟨q,rfl,hq⟩:=cX h2;obtain⟨s1,rfl,hs1⟩:=eE h3;obtain⟨u1,rfl,hu1⟩:=eE h4;have kp:=nS hp;have kq:=nS hq;refine⟨_,(af (aG (i:=2) nZ.nd rfl (Or.inl rfl) (bK bL (pv 1) aq (fun _ _=>rfl)))
   (af (aG (i:=3) nZ.nd rfl (Or.inl rfl) (bK bL (pv 1) aq (fun _ _=>rfl)))
   (af (bJ (uE (bY (aH (G6 T) (hr.mono (by decide)) rfl T.zW T.rY.kp T.zX .nil aC (aa (pv 0) (aa (pv 2) (aa (pv 3) (aa (aX rfl T.YL T.YM) ah))))))) (aj (au (bf (aa (nL jb aq) ah)))) aP)
   (af (aG (i:=4) nZ.nd rfl (Or.inl rfl) (aH (Qe T) (hr.mono (by decide)) rfl T.kK T.gn.kp T.kL .nil aC (aa (fW (aa (pv 2) (aa (bK bL (pv 1) aq (fun _ _=>rfl)) ah))) (aa (fW (aa (pv 3) (aa (bK bL (pv 1) aq (fun _ _=>rfl)) ah))) ah))))
   (aj (au (aH (G7 T) (hr.mono (by decide)) rfl T.zU T.rX.kp T.zV .nil aC (aa (ay (pv 0) rfl) (aa (pv 4) (aa (aX rfl T.p7 T.p8) ah)))))))))),?_⟩
  have hs:Vbsoaa.step t (.sea p s1 q u1)=if(p:Int)=q∨Vbsoaa.kind t.board p=0∨Vbsoaa.kind t.board q=0 then(t,[-3]) else if linked t.board.sea (place p s1) (place q u1)=true then(t,[-4]) else if Vbsoaa.LINKS≤t.board.sea.length then(t,[-2]) else
    ({t with board:={t.board with sea:=t.board.sea++[(place p s1,place q u1)]}},[0]):=by
   show (if(isProv t p&&(isProv t q&&(within s1 0 3&&within u1 0 3)))=false then _ else _)=_;rw[h1,h2,h3,h4,if_neg (by decide)];rfl
  have ep:∀(x s:Nat),s≤3→(plK (place x s)).map kV=[V.int x,V.int s]:=fun x s h=>by
   unfold plK place nK;rw[show (4*x+s)/4=x by omega,show (4*x+s) % 4=s by omega];rfl
  refine⟨_,rfl,l,_,0,.int p,rfl,rfl,hl,rfl,?_⟩;refine⟨_,rfl,l,_,2,.int q,rfl,rfl,hl,rfl,?_⟩;refine⟨_,rfl,_,rfl,_,rfl,ta,dx,d,t.board.kinds,p,q,_,_,0,rfl,htab,hT.kinds,kp,kq,_,rfl,?_⟩;refine DN (fun h=>?_) (fun h=>?_)
  ·refine⟨_,rfl,lF,fun r hr=>?_⟩;refine k.fin (t1:=t) (ans:=[-3]) ?_ hT .refl hr rfl;show Vbsoaa.step t (.sea p s1 q u1)=_;rw[hs,if_pos ?_];simp at h;omega
  ·have hj:¬((p:Int)=q∨Vbsoaa.kind t.board p=0∨Vbsoaa.kind t.board q=0):=by
    simp at h;omega
   have hs2:=hs;rw[if_neg hj] at hs2;refine⟨_,rfl,_,rfl,l,_,1,.int s1,rfl,rfl,hl,rfl,qK,fun b1 hb1=>?_⟩;have m1:aF H (upd H b1 (.tup [.int p,.int s1])):=aw hb1;refine⟨_,rfl,_,rfl,l,_,3,.int u1,rfl,rfl,m1 _ _ hl,rfl,qK,fun b2 hb2=>?_⟩;have m2:aF (upd H b1 (.tup [.int p,.int s1])) (upd (upd H b1 (.tup [.int p,.int s1])) b2 (.tup [.int q,.int u1])):=aw hb2;refine⟨b1,b2,place p s1,place q u1,rfl,by rw[ep p s1 (by omega)];exact m2 _ _ ae,by rw[ep q u1 (by omega)];exact ae,fun b o hb hK=>?_⟩;have m3:aF _ (upd (upd (upd H b1 (.tup [.int p,.int s1])) b2 (.tup [.int q,.int u1])) b o):=aw hb;have sm:aF H (upd (upd (upd H b1 (.tup [.int p,.int s1])) b2 (.tup [.int q,.int u1])) b o):=(m1.trans m2).trans m3;generalize upd (upd (upd H b1 (.tup [.int p,.int s1])) b2 (.tup [.int q,.int u1])) b o=H1 at sm hK⊢;have hT1:=hT.sameAll sm;refine⟨_,rfl,ta,_,dx,_,_,rfl,sm _ _ htab,T.aQ,T.eh,aaI d,_,rfl,?_⟩;refine⟨d.s,.ref b,linked t.board.sea (place p s1) (place q u1),t.board.sea.length,300,rfl,.inr ⟨_,_,b,hT1.sea,rfl,hK,(DP _ _ _).symm⟩,.inr (.inr ⟨_,hT1.sea,by unfold Hl;rw[List.length_map]⟩),?_,?_,?_⟩
   ·intro e;refine k.fin2 (t1:=t) (ans:=[-4]) ?_ hT1 (.same sm) rfl;show Vbsoaa.step t (.sea p s1 q u1)=_;rw[hs2,if_pos e]
   ·intro e en;refine k.fin2 (t1:=t) (ans:=[-2]) ?_ hT1 (.same sm) rfl;show Vbsoaa.step t (.sea p s1 q u1)=_;rw[hs2,if_neg (by rw[e];decide),if_pos (by unfold Vbsoaa.LINKS;omega)]
   ·intro e en;have hW:=W.sea;have hv:aR (Hl t.board.sea) (mz (place p s1) (place q u1))=none:=DB (by rw[DP];exact e);refine .inr ⟨_,_,b,hT1.sea,rfl,hK,by unfold Hl;rw[List.length_map];exact aB (by omega),hv,fun o2 hD=>?_⟩;rw[←acL] at hD;refine k.fin2 (t1:={t with board:={t.board with sea:=t.board.sea++[(place p s1,place q u1)]}}) (ans:=[0]) ?_ (hT1.aiF _ _ hD) ((Fra.same sm).trans (.write (by simp[foot]))) rfl;show Vbsoaa.step t (.sea p s1 q u1)=_;rw[hs2,if_neg (by rw[e];decide),if_neg (by unfold Vbsoaa.LINKS;omega)]
end
end My
end
section
namespace My
open PySem PySem.Spec PyProof.Rows L2
open Vbsoaa (Man Order Table orderNums bit linked place within isProv areProvs manAt isMan)
section
variable{P:Program}{w:World}{K:PySem.W.Frag}{mg:Str→Option Value}{base:Heap}{a:Adr}
def TJ:Sp:=fun vs H Q _=>∃f k s:Int,vs=[.int f,.int k,.int s]∧Q (.bl (if f=1 then decide (k≠0) else(decide (k≠1)&&decide (s=0)))) H
theorem TK(T:Txt w K mg a):aY P w K mg base CX0 1 a.fi a.vz ["fleet","kind","shore"] TJ:=by
 refine T.vM.ok QV (fun vs H Q E h=>?_) (fun cdv A outer s H vs Q E hr h=>?_)
 ·obtain⟨f,k,s,rfl,_⟩:=h;rfl
 ·obtain⟨f,k,s,rfl,q⟩:=h;refine⟨_,(af (bJ (bh fb (pv 0) aq (a0 _)) (aj (au (dJ sN (pv 1) (aX rfl T.YL T.YM) (a0 _)))) aP)
   (aj (au (o6 (dJ sN (pv 1) (aX rfl T.aat T.aau) (a0 _)) (mn (dJ fb (pv 2) aq (a0 _))))))),?_⟩
  simp[ada,ade,Fm,tOp,rEq,rNe,i8,tC,X5,aha,Um,L2.start,afM];by_cases h1:f=1<;>by_cases h2:k=1<;>simp_all
def TM(a:Adr):Sp:=fun vs H Q _=>∃(x dx:Addr)(p f s:Int),vs=[.ref x,.int p,.int f,.int s]∧H x=some (.ins a.a9 dx [])∧
 Q .non (upd H x (.ins a.a9 dx [("power",.int p),("fleet",.int f),("shore",.int s),("order",.ref a.iB),("way",.int 0)]))
theorem TN(T:Txt w K mg a):aY P w K mg base CX0 1 a.dR a.vx ["self","power","fleet","shore"] (TM a):=by
 refine T.FE.ok QU (fun vs H Q E h=>?_) (fun cdv A outer s H vs Q E hr h=>?_)
 ·obtain⟨x,dx,p,f,s,rfl,_⟩:=h;rfl
 ·obtain⟨x,dx,p,f,s,rfl,hx,q⟩:=h;refine⟨_,(af (fq (pv 0) (pv 1) rfl)
   (af (fq (pv 0) (pv 2) rfl)
   (af (fq (pv 0) (pv 3) rfl)
   (af (fq (pv 0) (aX rfl T.v7 T.v8) rfl)
   (aj (fq (pv 0) aq rfl)))))),?_⟩
  refine⟨_,rfl,_,rfl,x,_,dx,_,rfl,hx,T.eN,T.l6,(by decide),?_⟩;refine⟨_,rfl,_,rfl,x,_,dx,_,rfl,ae,T.eN,T.jz,(by show 1<1000;decide),?_⟩;refine⟨_,rfl,_,rfl,x,_,dx,_,rfl,ae,T.eN,T.gX,(by show 2<1000;decide),?_⟩;refine⟨_,rfl,x,_,dx,_,rfl,ae,T.eN,T.l7,(by show 3<1000;decide),?_⟩;refine⟨_,rfl,x,_,dx,_,rfl,ae,T.eN,T.kc,(by show 4<1000;decide),?_⟩;rw[ko,ko,ko,ko];exact q
theorem XC(T:Txt w K mg a):aY P w K mg base CX0 3 a.eG a.zM ["table","numbers"] (Zy P w K a 4):=by
 refine T.zZ.ok n6 (fun vs H Q E h=>?_) (fun cdv A outer s H vs Q E hr h=>?_)
 ·obtain⟨ta,l,d,t,ns,rfl,_⟩:=h;rfl
 ·obtain⟨ta,l,d,t,ns,rfl,hT,W,hl,nl,cF,ie,k⟩:=h;obtain⟨dx,htab⟩:=hT.tab;obtain⟨zw,zf,zp,zs,rfl⟩:=sh4 cF;have hr2:(within zw 0 6&&(within zf 0 1&&(isProv t zp&&within zs 0 3)))=true:=ie;simp only[Bool.and_eq_true] at hr2;obtain⟨h1,h2,h3,h4⟩:=hr2;obtain⟨pw,rfl,hpw⟩:=eE h1;obtain⟨f,rfl,hf⟩:=eE h2;obtain⟨p,rfl,hp⟩:=cX h3;obtain⟨sh,rfl,hsh⟩:=eE h4;have kp:=nS hp;have hu:=bE hr;refine⟨_,(af (aG (i:=2) n6.nd rfl (Or.inl rfl) (bK bL (pv 1) aq (fun _ _=>rfl)))
   (af (aG (i:=3) n6.nd rfl (Or.inl rfl) (bK bL (pv 1) aq (fun _ _=>rfl)))
   (af (aG (i:=4) n6.nd rfl (Or.inl rfl) (bK bL (pv 1) aq (fun _ _=>rfl)))
   (af (bJ (uE (bY (aH (TK T) (hr.mono (by decide)) rfl T.FH T.vM.kp T.FI .nil aC (aa (pv 2) (aa (bK bL (ay (pv 0) rfl) (pv 3) (fun _ _=>rfl)) (aa (pv 4) ah)))))) (aj (au (bf (aa (nL jb aq) ah)))) aP)
   (af (bJ (gZ (agc hu (pv 3) (ay (pv 0) rfl))) (aj (au (bf (aa (nL jb aq) ah)))) aP)
   (af (bJ (bh fb (aV DM rfl T.fJ c8 (aa (ay (pv 0) rfl) ah)) (aX rfl T.Bx T.By) (a0 _)) (aj (au (bf (aa (nL jb aq) ah)))) aP)
   (af (lT hu (ay (pv 0) rfl) (pv 3) (gC T.Jc (TN T) (hr.mono (by decide)) rfl T.aez T.FF .nil aC (aa (bK bL (pv 1) aq (fun _ _=>rfl)) (aa (pv 2) (aa (pv 4) ah)))) rfl)
   (aj (au (bf (aa aq ah))))))))))),?_⟩
  have hs:Vbsoaa.step t (.man pw f p sh)=if((f:Int)=0∧(Vbsoaa.kind t.board p=1∨(sh:Int)≠0))∨((f:Int)=1∧Vbsoaa.kind t.board p=0) then(t,[-3]) else if(manAt t.men p).isSome=true then(t,[-4]) else if Vbsoaa.MEN≤t.men.length then(t,[-2]) else
    ({t with men:=t.men++[{power:=pw,fleet:=(f:Int)==1,prov:=p,shore:=sh}]},[0]):=by
   show (if(within pw 0 6&&(within f 0 1&&(isProv t p&&within sh 0 3)))=false then _ else _)=_;rw[h1,h2,h3,h4,if_neg (by decide)];rfl
  refine⟨_,rfl,l,_,1,.int f,rfl,rfl,hl,rfl,?_⟩;refine⟨_,rfl,l,_,2,.int p,rfl,rfl,hl,rfl,?_⟩;refine⟨_,rfl,l,_,3,.int sh,rfl,rfl,hl,rfl,?_⟩;refine⟨_,rfl,_,rfl,ta,_,dx,_,_,rfl,htab,T.aQ,T.bP,fK d,_,rfl,d.k,_,_,_,rfl,rfl,hT.kinds,E7 kp,_,rfl,_,_,_,rfl,_,rfl,?_⟩;have hf2:f=0∨f=1:=by omega
  refine DN (fun h=>?_) (fun h=>?_)
  ·refine⟨_,rfl,lF,fun r hr=>?_⟩;refine k.fin (t1:=t) (ans:=[-3]) ?_ hT .refl hr rfl;show Vbsoaa.step t (.man pw f p sh)=_;rw[hs,if_pos ?_];rcases hf2 with rfl|rfl
   ·simp at h;omega
   ·simp at h;omega
  ·have hj:¬(((f:Int)=0∧(Vbsoaa.kind t.board p=1∨(sh:Int)≠0))∨((f:Int)=1∧Vbsoaa.kind t.board p=0)):=by
    rcases hf2 with rfl|rfl
    ·simp at h;omega
    ·simp at h;omega
   have hs2:=hs;rw[if_neg hj] at hs2;refine⟨_,rfl,_,rfl,ta,_,dx,_,_,rfl,htab,T.aQ,T.aL,bC d,d.u,_,_,rfl,rfl,hT.units,_,rfl,?_⟩;have eU:(aR (aD t.men d.m) (.inl (p:Int))).isSome=(manAt t.men p).isSome:=dM hT.len;rw[eU];refine DN (fun e=>?_) (fun e=>?_)
   ·refine⟨_,rfl,lF,fun r hr=>?_⟩;refine k.fin (t1:=t) (ans:=[-4]) ?_ hT .refl hr rfl;show Vbsoaa.step t (.man pw f p sh)=_;rw[hs2,if_pos e]
   ·rw[if_neg e] at hs2;refine⟨_,rfl,ta,_,dx,_,_,rfl,htab,T.aQ,T.aL,bC d,d.u,_,rfl,hT.units,rfl,_,rfl,?_⟩;rw[mB hT.len];have hW:=W.men;refine DN (fun e4=>?_) (fun e4=>?_)
    ·refine⟨_,rfl,lF,fun r hr=>?_⟩;have e5:=of_decide_eq_true e4;injection e5 with e5
     refine k.fin (t1:=t) (ans:=[-2]) ?_ hT .refl hr rfl;show Vbsoaa.step t (.man pw f p sh)=_;rw[hs2,if_pos (by unfold Vbsoaa.MEN;omega)]
    ·have e5:t.men.length≠24:=fun z=>e4 (decide_eq_true (by rw[z];rfl));rw[if_neg (by unfold Vbsoaa.MEN;omega)] at hs2;refine⟨_,rfl,l,_,0,.int pw,rfl,rfl,hl,rfl,_,rfl,_,rfl,fun x ux nx nux nex=>?_⟩;refine⟨x,ux,pw,f,sh,rfl,ae,rfl,?_⟩;rw[ko];have sm:aF H (upd (upd H ux (.own x)) x (.ins a.a9 ux [("power",.int pw),("fleet",.int f),("shore",.int sh),("order",.ref a.iB),("way",.int 0)])):=fun b o eb=>by
      rw[ab (ai eb nx),ab (ai eb nux)];exact eb
     have hx1:upd (upd H ux (.own x)) x (.ins a.a9 ux [("power",.int pw),("fleet",.int f),("shore",.int sh),("order",.ref a.iB),("way",.int 0)]) x=some (.ins a.a9 ux [("power",.int pw),("fleet",.int f),("shore",.int sh),("order",.ref a.iB),("way",.int 0)]):=ae;generalize upd (upd H ux (.own x)) x (.ins a.a9 ux [("power",.int pw),("fleet",.int f),("shore",.int sh),("order",.ref a.iB),("way",.int 0)])=H1 at sm hx1⊢;have hT1:=hT.sameAll sm;have hv:aR (aD t.men d.m) (nK p)=none:=zr hT.len (by
      cases z:manAt t.men p with
      |none=>rfl
      |some _=>rw[z] at e;exact absurd rfl e)
     have ef:V.int (f:Int)=V.int (bit ((f:Int)==1)):=by rcases hf2 with rfl|rfl<;>rfl
     have hx2:jS K a.a9 H1 x {power:=pw,fleet:=(f:Int)==1,prov:=p,shore:=sh} false:=⟨ux,a.iB,by rw[hx1,ef];rfl,T.jA H1⟩
     have hnm:x∉d.m:=fun hm=>by
      obtain⟨_,_,e'⟩:=hT.pK hm;rw[e'] at nx;cases nx
     have hw:t.water.contains p=false:=by
      cases z:t.water.contains p with
      |false=>rfl
      |true=>
       have hm:=W.water p (List.contains_iff_mem.mp z);exact absurd hm (Jp e)
     refine⟨_,rfl,ta,_,dx,_,_,rfl,sm _ _ htab,T.aQ,T.aL,bC d,_,rfl,d.u,_,rfl,uU.k (k:=nK p) hT1.units (by rw[mB hT.len];exact aB (by omega)),?_⟩;rw[mw _ hv];have eK:aD t.men d.m++[(nK p,V.ref x)]=aD (t.men++[{power:=pw,fleet:=(f:Int)==1,prov:=p,shore:=sh}]) (d.m++[x]):=(UU hT.len {power:=pw,fleet:=(f:Int)==1,prov:=p,shore:=sh} x).symm;rw[eK];refine⟨lF,k.fin2 (t1:={t with men:=t.men++[{power:=pw,fleet:=(f:Int)==1,prov:=p,shore:=sh}]}) (ans:=[0]) hs2 (hT1.agp hnm hx2 hw) ⟨fun b o eb hb=>?_,fun b hb=>?_,fun b hb=>?_⟩ rfl⟩
     ·rw[ab (fun z=>hb (by rw[z];simp[foot]))];exact sm _ _ eb
     ·simp only[foot,List.mem_cons,List.mem_append,List.not_mem_nil,or_false] at hb⊢;rcases hb with h|h|h|h|h|h|h
      ·exact .inl (.inl h)
      ·exact .inl (.inr (.inl h))
      ·exact .inl (.inr (.inr (.inl h)))
      ·exact .inl (.inr (.inr (.inr (.inl h))))
      ·exact .inl (.inr (.inr (.inr (.inr (.inl h)))))
      ·exact .inl (.inr (.inr (.inr (.inr (.inr h)))))
      ·rw[h];exact .inr nx
     ·exact sm.free (eA hb).2
theorem TQ(T:Txt w K mg a):aY P w K mg base CX0 1 a.dk a.vA ["table","numbers"] (Zy P w K a 5):=by
 refine T.vN.ok A6 (fun vs H Q E h=>?_) (fun cdv A outer s H vs Q E hr h=>?_)
 ·obtain⟨ta,l,d,t,ns,rfl,_⟩:=h;rfl
 ·obtain⟨ta,l,d,t,ns,rfl,hT,W,hl,nl,cF,ie,k⟩:=h;obtain⟨dx,htab⟩:=hT.tab;obtain⟨zp,rfl⟩:=sh5 cF;have h1:isProv t zp=true:=ie;obtain⟨p,rfl,hp⟩:=cX h1;have hu:=bE hr;refine⟨_,(af (aG (i:=2) A6.nd rfl (Or.inl rfl) (bK bL (pv 1) aq (fun _ _=>rfl)))
   (af (bJ (gZ (Jv hu (pv 2) (ay (pv 0) rfl))) (aj (au (bf (aa (nL jb aq) ah)))) aP)
   (af (fo (adB (ay (pv 0) rfl) (pv 2) ⟨rfl,rfl,rfl,rfl⟩))
   (aj (au (bf (aa aq ah))))))),?_⟩
  have hs:Vbsoaa.step t (.gone p)=if isMan t p=false then(t,[-5]) else({t with men:=t.men.filter (fun m=>m.prov !=p),water:=t.water.filter fun x=>x !=p},[0]):=by
   show (if isProv t p=false then _ else _)=_;rw[h1,if_neg (by decide)];rfl
  have eM:isMan t p=(manAt t.men p).isSome:=by
   unfold isMan;rw[h1];rfl
  refine⟨_,rfl,l,_,0,.int p,rfl,rfl,hl,rfl,?_⟩;refine⟨_,rfl,_,rfl,ta,_,dx,_,_,rfl,htab,T.aQ,T.aL,bC d,d.u,_,_,rfl,rfl,hT.units,_,rfl,?_⟩;have eU:(aR (aD t.men d.m) (.inl (p:Int))).isSome=(manAt t.men p).isSome:=dM hT.len;rw[eU,←eM];cases e:isMan t p with
  |false=>
   refine bq ⟨_,rfl,lF,fun r hr=>?_⟩;refine k.fin (t1:=t) (ans:=[-5]) ?_ hT .refl hr rfl;show Vbsoaa.step t (.gone p)=_;rw[hs,if_pos e]
  |true=>
   refine aS ?_;obtain⟨m,hm⟩:=Option.isSome_iff_exists.mp (by rw[←eM];exact e);obtain⟨i,b,_,_,hv,_⟩:=fX hT.len hm;refine⟨_,rfl,ta,_,dx,_,_,rfl,htab,T.aQ,T.aL,bC d,d.u,rfl,.inl ⟨_,.inl hT.units⟩,_,rfl,_,nK p,_,hT.units,rfl,hv,?_⟩;refine⟨lF,k.fin2 (t1:={t with men:=t.men.filter (fun m=>m.prov !=p),water:=t.water.filter fun x=>x !=p}) (ans:=[0]) ?_ (hT.ad6 p) ⟨fun b o eb hb=>?_,fun b hb=>?_,fun b hb=>(eA hb).2⟩ rfl⟩
   ·show Vbsoaa.step t (.gone p)=_;rw[hs,if_neg (by rw[e];decide)]
   ·rw[ab (fun z=>hb (by rw[z];simp[foot]))];exact eb
   ·left
    simp only[foot,List.mem_cons] at hb⊢;rcases hb with h|h|h|h|h|h
    ·exact .inl h
    ·exact .inr (.inl h)
    ·exact .inr (.inr (.inl h))
    ·exact .inr (.inr (.inr (.inl h)))
    ·exact .inr (.inr (.inr (.inr (.inl h))))
    ·exact .inr (.inr (.inr (.inr (.inr (xx.subset h)))))
end
end My
end
section
namespace My
open PySem PySem.Spec PyProof.Rows L2
open Vbsoaa (Man Order Table orderNums bit linked place manAt)
structure nG(P:Program)(w:World)(K:PySem.W.Frag)(a:Adr)(H:Hp)(ta:Addr)(d:Pt)(t:Table):Prop where
 tab:∃dx,H ta=some (.ins a.aU dx (tfs d))
 kinds:H d.k=some (.lst (t.board.kinds.map nV))
 land:H d.l=some (.dT (nW t.board.land))
 sea:Hj P w H d.s (Hl t.board.sea)
 units:Rd H d.u (.dK (aD t.men d.m))
 len:d.m.length=t.men.length
 at_:∀(i:Nat)(m:Man)(b:Addr),t.men[i]?=some m→d.m[i]?=some b→jS K a.a9 H b m (t.water.contains m.prov)
section
variable{P:Program}{w:World}{K:PySem.W.Frag}{mg:Str→Option Value}{base:Heap}{a:Adr}{H H':Hp}{ta:Addr}{d:Pt}{t:Table}
theorem TableAt.rd(T:TableAt P w K a.aU a.a9 H ta d t):nG P w K a H ta d t:=⟨T.tab,T.kinds,T.land,T.sea,.inl T.units,T.len,T.at_⟩
theorem cD{b:Addr}{u:HO}(h:Rd H b u)(s:aF H H'):Rd H' b u:=by
 rcases h with h|⟨o,h⟩
 ·exact .inl (s _ _ h)
 ·exact .inr ⟨o,s _ _ h⟩
theorem nH{b:Addr}{xs:List V}(h:SqT K H b xs)(s:aF H H'):SqT K H' b xs:=by
 rcases h with(h|⟨z,h⟩)|h
 ·exact .inl (.inl (s _ _ h))
 ·exact .inl (.inr ⟨z,s _ _ h⟩)
 ·exact .inr h
theorem nG.same(T:nG P w K a H ta d t)(s:aF H H'):nG P w K a H' ta d t:=by
 obtain⟨⟨dx,e⟩,h2,h3,⟨g1,g2,g3,xs,g4,g5⟩,h5,h6,h7⟩:=T;exact⟨⟨dx,s _ _ e⟩,s _ _ h2,s _ _ h3,⟨g1,g2,g3,xs,s _ _ g4,K2.same (fun b xs e=>s b _ e) g5⟩,cD h5 s,h6,fun i m b h1 h2=>(h7 i m b h1 h2).same (fun o e=>s _ _ e) (fun b xs e=>s _ _ e) (fun b o u e=>s _ _ e)⟩
theorem nG.lock{b:Addr}{kvs:List (Key×V)}{o:Obj}(T:nG P w K a H ta d t)(hb:H b=some (.dK kvs)):nG P w K a (upd H b (.frz o (.dK kvs))) ta d t:=by
 obtain⟨⟨dx,e⟩,h2,h3,⟨g1,g2,g3,xs,g4,g5⟩,h5,h6,h7⟩:=T;have tup:∀c ys,H c=some (.tup ys)→upd H b (.frz o (.dK kvs)) c=some (.tup ys):=fun c ys e=>by rw[ab (aK e hb (fun z=>nomatch z))];exact e
 refine⟨⟨dx,by rw[ab (aK e hb (fun z=>nomatch z))];exact e⟩,by rw[ab (aK h2 hb (fun z=>nomatch z))];exact h2,by rw[ab (aK h3 hb (fun z=>nomatch z))];exact h3,⟨g1,g2,g3,xs,by rw[ab (aK g4 hb (fun z=>nomatch z))];exact g4,K2.same tup g5⟩,?_,h6,fun i m c h1 h2=>(h7 i m c h1 h2).same (fun o' e'=>?_) tup (fun c o u e=>?_)⟩
 ·by_cases z:d.u=b
  ·rw[z] at h5⊢;rcases h5 with h5|⟨o',h5⟩
   ·rw[hb] at h5;cases h5;exact .inr ⟨o,ae⟩
   ·rw[hb] at h5;cases h5
  ·unfold Rd;rw[ab z];exact h5
 ·obtain⟨_,_,q,_⟩:=h7 i m c h1 h2;rw[ab (aK q hb (fun z=>nomatch z))];exact e'
 ·rw[ab (aK e hb (fun z=>nomatch z))];exact e
theorem nG.unit(T:nG P w K a H ta d t){p:Nat}{m:Man}(h:manAt t.men p=some m):∃b,aR (aD t.men d.m) (nK p)=some (.ref b)∧m.prov=p∧jS K a.a9 H b m (t.water.contains p):=by
 obtain⟨i,b,h1,h2,hv,hp⟩:=fX T.len h;subst hp;exact⟨b,hv,rfl,T.at_ i m b h1 h2⟩
theorem aF.lk{b:Addr}{u:HO}{o:Obj}(hb:H b=some u)(s:aF (upd H b (.frz o u)) H'):aF H (upd H' b u):=fun c v e=>by
 by_cases z:c=b
 ·subst z;rw[hb] at e;cases e;exact ae
 ·rw[ab z];exact s c v (by rw[ab z];exact e)
theorem acM{p s:Nat}(h:s<4):plK (place p s)=[nK p,nK s]:=by
 unfold plK place;rw[show (4*p+s)/4=p by omega,show (4*p+s) % 4=s by omega]
theorem afj{p s:Nat}(h:s<4):(plK (place p s)).map kV=[.int p,.int s]:=by rw[acM h];rfl
def OV(P:Program)(w:World)(K:PySem.W.Frag)(a:Adr):Sp:=fun vs H Q _=>∃(ta:Addr)(d:Pt)(t:Table)(p q:Nat),vs=[.ref ta,.int p,.int q]∧nG P w K a H ta d t∧∀H',aF H H'→Q (.bl (linked t.board.land p q)) H'
theorem OW(T:Txt w K mg a):aY P w K mg base CX0 2 a.dQ a.rI ["table","p","q"] (OV P w K a):=by
 refine T.rV.ok MN (fun vs H Q E h=>?_) (fun cdv A outer s H vs Q E hr h=>?_)
 ·obtain⟨ta,d,t,p,q,rfl,_⟩:=h;rfl
 ·obtain⟨ta,d,t,p,q,rfl,hT,k⟩:=h;have hu:=bE hr;refine⟨_,(aj (au (qS (k6 hu (aH (Qb T) (hr.mono (by decide)) rfl T.kK T.gn.kp T.kL .nil aC (aa (pv 1) (aa (pv 2) ah))) (ay (pv 0) rfl))))),?_⟩;refine⟨_,rfl,_,rfl,p,q,rfl,fun b hb=>?_⟩;have sm:=aw (o:=.tup ((fR p q).map kV)) hb;obtain⟨dx,htab⟩:=(hT.same sm).tab;refine⟨_,rfl,ta,_,dx,_,_,rfl,htab,T.aQ,T.dE,rfl,d.l,_,rfl,kC.t (hT.same sm).land ae,?_⟩;rw[zo];exact k _ sm
def TR(P:Program)(w:World)(K:PySem.W.Frag)(a:Adr):Sp:=fun vs H Q _=>∃(ta:Addr)(d:Pt)(t:Table)(b1 b2:Addr)(x y:Nat),vs=[.ref ta,.ref b1,.ref b2]∧nG P w K a H ta d t∧
 H b1=some (.tup ((plK x).map kV))∧H b2=some (.tup ((plK y).map kV))∧∀H',aF H H'→Q (.bl (linked t.board.sea x y)) H'
theorem sE(T:Txt w K mg a):aY P w K mg base CX0 2 a.fh a.vw ["table","place","other"] (TR P w K a):=by
 refine T.kM.ok QT (fun vs H Q E h=>?_) (fun cdv A outer s H vs Q E hr h=>?_)
 ·obtain⟨ta,d,t,b1,b2,x,y,rfl,_⟩:=h;rfl
 ·obtain⟨ta,d,t,b1,b2,x,y,rfl,hT,h1,h2,k⟩:=h;have hu2:=afh hr;refine⟨_,(aj (au (qS (aaa hu2 (aH (Qe T) (hr.mono (by decide)) rfl T.kK T.gn.kp T.kL .nil aC (aa (pv 1) (aa (pv 2) ah))) (ay (pv 0) rfl))))),?_⟩;refine⟨_,rfl,_,rfl,b1,b2,x,y,rfl,h1,h2,fun b o hb hk=>?_⟩;have sm:=aw (o:=o) hb;obtain⟨dx,htab⟩:=(hT.same sm).tab;refine⟨_,rfl,ta,_,dx,_,_,rfl,htab,T.aQ,T.eh,rfl,d.s,_,rfl,.inr ⟨_,_,b,(hT.same sm).sea,rfl,hk,rfl⟩,?_⟩;rw[DP];exact k _ sm
end
end My
end
section
namespace My
open PySem PySem.Spec PyProof.Rows L2
open Vbsoaa (Man Order Table orderNums bit linked place manAt)
section
variable{P:Program}{w:World}{K:PySem.W.Frag}{mg:Str→Option Value}{base:Heap}{a:Adr}{H H':Hp}{ta:Addr}{d:Pt}{t:Table}
def aor(l:List (Nat×Nat))(x q:Nat):V→V
 |.int i=>.bl (linked l x (place q i.toNat))
 |v=>v
def uD(P:Program)(w:World)(K:PySem.W.Frag)(a:Adr):Sp:=fun vs H Q _=>∃(ta:Addr)(d:Pt)(t:Table)(b1:Addr)(x q:Nat),vs=[.ref ta,.ref b1,.int q]∧nG P w K a H ta d t∧
 H b1=some (.tup ((plK x).map kV))∧∀H',aF H H'→Q (.bl (Ft t.board.sea x q)) H'
theorem fN(T:Txt w K mg a):aY P w K mg base CX0 3 a.bB a.gi ["table","place","q"] (uD P w K a):=by
 refine T.cQ.ok fL (fun vs H Q E h=>?_) (fun cdv A outer s H vs Q E hr h=>?_)
 ·obtain⟨ta,d,t,b1,x,q,rfl,_⟩:=h;rfl
 ·obtain⟨ta,d,t,b1,x,q,rfl,hT,h1,k⟩:=h;refine⟨_,(aj (au (aV (Yg rfl) rfl T.aaq YB (aa (sO (own:=[("t",3)]) rfl fL.nd (aaX rfl T.aar (aa (aX rfl T.Vl T.Vm) ah)) (show ku ["table","place","q","t"] (ao dN) _ [("t",3)] from⟨rfl,by decide+kernel,by decide+kernel,by decide+kernel,by decide+kernel⟩) (fun _ _ _ _ _=>(bX (i:=3) fL.nd rfl (Or.inl rfl))) (fun _ _ _ _ _=>IV) (fun _ _ _ _ _=>(aH (sE (P:=P) (base:=base) T) (hr.mono (show 2≤2 by decide)) rfl T.ox T.kM.kp T.oy .nil aC (aa (pv 0) (aa (pv 1) (aa (fW (aa (pv 2) (aa (pv 3) ah))) ah)))))) ah)))),?_⟩;refine⟨4,rfl,by decide,by decide,fun D hD=>?_⟩;refine gE (Yo (lo:=0) (n:=4) (G:=fun _=>True)) (fun _ _=>True.intro) hD (fun _=>true) (fun v y _=>y=aor t.board.sea x q v) (fun _ _ _ _ h _=>h) (by decide) (fun i v H1 hx sm N Y hN hY=>?_) (fun H1 ys sm hy pr=>?_)
  ·have hi:i<4:=by
    have:=(List.getElem?_eq_some_iff.mp hx).1;rw[List.length_map,List.length_range] at this;exact this
   have hv:v=.int i:=by
    rw[List.getElem?_map,List.getElem?_range hi] at hx;cases hx;show V.int (0+(i:Int))=_;rw[Int.zero_add]
   subst hv;refine⟨rfl,_,rfl,_,rfl,_,rfl,_,rfl,qK,fun b hb=>?_⟩;have s1:=aw (o:=.tup [V.int q,V.int i]) hb;exact⟨ta,d,t,b1,b,x,place q i,rfl,(hT.same sm).same s1,s1 _ _ (sm _ _ h1),by rw[afj hi];exact ae,fun H2 s2=>hY _ _ (s1.trans s2) rfl rfl⟩
  ·have e:ys=[.bl (linked t.board.sea x (place q 0)),.bl (linked t.board.sea x (place q 1)),.bl (linked t.board.sea x (place q 2)),.bl (linked t.board.sea x (place q 3))]:=rf pr;subst e;exact⟨D,[_,_,_,_],rfl,SqL.of hy,k _ sm⟩
def ZA(P:Program)(w:World)(K:PySem.W.Frag)(a:Adr):Sp:=fun vs H Q _=>∃(ta:Addr)(d:Pt)(t:Table)(p q:Nat)(m:Man),vs=[.ref ta,.int p,.int q]∧nG P w K a H ta d t∧manAt t.men p=some m∧m.shore<4∧
 ∀H',aF H H'→Q (.bl (g7 t.board m q)) H'
theorem TU(b:Bool):decide (V.int (bit b)=V.int 1)=b:=by cases b<;>decide
theorem AG(T:Txt w K mg a):aY P w K mg base CX0 4 a.iQ a.D4 ["table","p","q"] (ZA P w K a):=by
 refine T.pT.ok JQ (fun vs H Q E h=>?_) (fun cdv A outer s H vs Q E hr h=>?_)
 ·obtain⟨ta,d,t,p,q,m,rfl,_⟩:=h;rfl
 ·obtain⟨ta,d,t,p,q,m,rfl,hT,hm,hs,k⟩:=h;have hu:=bE hr;obtain⟨b,hv,hp,ux,o,hb,ho⟩:=hT.unit hm;obtain⟨dx,htab⟩:=hT.tab;refine⟨_,(af (aG (i:=3) JQ.nd rfl (Or.inl rfl) (bQ hu (ay (pv 0) rfl) (pv 1) (fun _ _=>rfl)))
   (af (bJ (bh fb (ay (pv 3) rfl) aq (a0 _)) (aj (au (aH (fN T) (hr.mono (by decide)) rfl T.dZ T.cQ.kp T.d7 .nil aC (aa (pv 0) (aa (fW (aa (pv 1) (aa (ay (pv 3) rfl) ah))) (aa (pv 2) ah)))))) aP)
   (aj (au (aH (OW T) (hr.mono (by decide)) rfl T.Bf T.rV.kp T.Bg .nil aC (aa (pv 0) (aa (pv 1) (aa (pv 2) ah)))))))),?_⟩
  refine⟨_,rfl,ta,_,dx,_,_,rfl,htab,T.aQ,T.aL,bC d,_,rfl,d.u,_,rfl,.inl ⟨_,nK p,hT.units,rfl,hv.symm⟩,?_⟩;refine⟨_,rfl,b,_,ux,_,_,rfl,hb,T.eN,T.jz,rfl,rfl,_,rfl,?_⟩;rw[TU];unfold g7 at k;cases e:m.fleet with
  |true=>
   rw[e] at k;refine bq ⟨_,rfl,_,rfl,_,rfl,b,_,ux,_,_,rfl,hb,T.eN,T.gX,rfl,qK,fun c hc=>?_⟩;have s1:=aw (o:=.tup [V.int p,V.int m.shore]) hc;exact⟨_,rfl,ta,d,t,c,place p m.shore,q,rfl,hT.same s1,by rw[afj hs];exact ae,fun H2 s2=>by subst hp;exact k _ (s1.trans s2)⟩
  |false=>
   rw[e] at k;exact aS ⟨_,rfl,_,rfl,_,rfl,ta,d,t,p,q,rfl,hT,fun H2 s2=>by subst hp;exact k _ s2⟩
end
end My
end
section
namespace My
open PySem PySem.Spec PyProof.Rows L2
open Vbsoaa (Man Order Table orderNums bit linked place manAt kind counts)
section
variable{P:Program}{w:World}{K:PySem.W.Frag}{mg:Str→Option Value}{base:Heap}{a:Adr}{H H':Hp}{ta:Addr}{d:Pt}{t:Table}
def AH(P:Program)(w:World)(K:PySem.W.Frag)(a:Adr)(ok:Man→Prop):Sp:=fun vs H Q _=>∃(ta:Addr)(d:Pt)(t:Table)(p:Nat)(m:Man)(o:Addr),vs=[.ref ta,.int p,.ref o]∧nG P w K a H ta d t∧Wf t∧Wg t∧
 manAt t.men p=some m∧SqT K H o ((orderNums m.order).map V.int)∧ok m∧∀H' r,aF H H'→SqT K H' r ((orderNums (counts t.board m)).map V.int)→Q (.ref r) H'
theorem aB.le{n:Nat}(h:n≤1000):n≤sizeLine:=Nat.le_of_lt (aB h)
theorem eQ{ms:List Man}{p:Nat}{m:Man}(h:manAt ms p=some m):m∈ms∧m.prov=p:=by
 unfold Vbsoaa.manAt at h;exact⟨List.mem_of_find?_eq_some h,by simpa using List.find?_some h⟩
theorem bb{ns:List Int}{i:Nat}{n:Int}(h:ns[i]?=some n):atI (ns.map V.int) (i:Int)=some (.int n):=nM (by rw[List.getElem?_map,h];rfl)
theorem aF.dw{H:Hp}:aF H H:=fun _ _ e=>e
theorem TV{i j:Int}:decide (V.int i=V.int j)=decide (i=j):=by
 by_cases h:i=j
 ·subst h;simp
 ·rw[decide_eq_false (fun z=>h (by injection z)),decide_eq_false h]
theorem IK(T:Txt w K mg a):aY P w K mg base CX0 1 a.cb a.mQ ["table","p","order"] (AH P w K a fun m=>m.order=.hold):=by
 refine T.mV.ok Hq (fun vs H Q E h=>?_) (fun cdv A outer s H vs Q E hr h=>?_)
 ·obtain⟨ta,d,t,p,m,o,rfl,_⟩:=h;rfl
 ·obtain⟨ta,d,t,p,m,o,rfl,hT,W,G,hm,ho,hk,k⟩:=h;refine⟨_,(aj (au (aX rfl T.v7 T.v8))),?_⟩;refine k _ _ aF.dw ?_;rw[adJ hk];exact T.jA _
theorem E8(T:Txt w K mg a):aY P w K mg base CX0 1 a.bN a.lj ["table","p","order"] (AH P w K a fun m=>∃b q,m.order=.carry b q):=by
 refine T.lz.ok D2 (fun vs H Q E h=>?_) (fun cdv A outer s H vs Q E hr h=>?_)
 ·obtain⟨ta,d,t,p,m,o,rfl,_⟩:=h;rfl
 ·obtain⟨ta,d,t,p,m,o,rfl,hT,W,G,hm,ho,⟨b,q,hk⟩,k⟩:=h;obtain⟨mi,mp⟩:=eQ hm;subst mp;obtain⟨dx,htab⟩:=hT.tab;have kp:=nS (W.prov m mi);rw[abl G mi hk] at k;rw[hk] at ho;refine⟨_,(af (bJ (PW.pt (jQ (bh fb (bK bL (ay (pv 0) rfl) (pv 1) (fun _ _=>rfl)) (aX rfl T.aat T.aau) (a0 _)) (i9 (bh sN (bK dH (pv 2) aq (fun _ _=>rfl)) (bK dH (pv 2) aq (fun _ _=>rfl)) (a0 _))))) (aj (au (pv 2))) aP)
   (aj (au (aX rfl T.v7 T.v8)))),?_⟩
  refine⟨_,rfl,ta,_,dx,_,_,rfl,htab,T.aQ,T.bP,fK d,_,rfl,d.k,_,_,_,rfl,rfl,hT.kinds,E7 kp,rfl,_,rfl,?_⟩;rw[TV];by_cases c1:kind t.board m.prov=1
  ·rw[decide_eq_true (by rw[c1];rfl)];refine bq ⟨_,rfl,o,_,1,_,rfl,rfl,ho,bb (i:=1) rfl,_,rfl,o,_,2,_,rfl,rfl,ho,bb (i:=2) rfl,rfl,_,rfl,?_⟩;rw[vne];by_cases c2:b=q
   ·rw[show decide ((b:Int)≠(q:Int))=false from decide_eq_false (by omega)];rw[if_neg (fun z=>z.2 c2)] at k;exact aS (k _ _ aF.dw (T.jA _))
   ·rw[show decide ((b:Int)≠(q:Int))=true from decide_eq_true (by omega)];rw[if_pos ⟨c1,c2⟩] at k;exact bq ⟨_,rfl,k _ _ aF.dw ho⟩
  ·rw[show decide ((kind t.board m.prov:Int)=1)=false from decide_eq_false (by omega)];rw[if_neg (fun z=>c1 z.1)] at k;exact aS (aS (k _ _ aF.dw (T.jA _)))
theorem IL(T:Txt w K mg a):aY P w K mg base CX0 5 a.cg a.mS ["table","p","order"] (AH P w K a fun m=>∃q,m.order=.stay q):=by
 refine T.mX.ok Hs (fun vs H Q E h=>?_) (fun cdv A outer s H vs Q E hr h=>?_)
 ·obtain⟨ta,d,t,p,m,o,rfl,_⟩:=h;rfl
 ·obtain⟨ta,d,t,p,m,o,rfl,hT,W,G,hm,ho,⟨q,hk⟩,k⟩:=h;obtain⟨mi,mp⟩:=eQ hm;have hs:=W.shore m mi;rw[adI G hs hk] at k;rw[hk] at ho;refine⟨_,(af (bJ (bY (aH (AG T) (hr.mono (by decide)) rfl T.xD T.pT.kp T.xE .nil aC (aa (pv 0) (aa (pv 1) (aa (bK dH (pv 2) aq (fun _ _=>rfl)) ah))))) (aj (au (pv 2))) aP)
   (aj (au (aX rfl T.v7 T.v8)))),?_⟩
  refine⟨_,rfl,_,rfl,_,rfl,o,_,1,_,rfl,rfl,ho,bb (i:=1) rfl,ta,d,t,p,q,m,rfl,hT,hm,by omega,fun H1 s1=>⟨_,rfl,?_⟩⟩;cases e:g7 t.board m q with
  |true=>rw[if_pos e] at k;exact bq ⟨_,rfl,k _ _ s1 (nH ho s1)⟩
  |false=>rw[if_neg (by rw[e];decide)] at k;exact aS (k _ _ s1 (T.jA _))
theorem Mi(T:Txt w K mg a):aY P w K mg base CX0 5 a.cy a.px ["table","p","order"] (AH P w K a fun m=>∃b q,m.order=.aid b q):=by
 refine T.pE.ok mL (fun vs H Q E h=>?_) (fun cdv A outer s H vs Q E hr h=>?_)
 ·obtain⟨ta,d,t,p,m,o,rfl,_⟩:=h;rfl
 ·obtain⟨ta,d,t,p,m,o,rfl,hT,W,G,hm,ho,⟨b,q,hk⟩,k⟩:=h;obtain⟨mi,mp⟩:=eQ hm;subst mp;have hs:=W.shore m mi;rw[af8 G hs hk] at k;rw[hk] at ho;refine⟨_,(af (aG (i:=3) mL.nd rfl (Or.inl rfl) (bK dH (pv 2) aq (fun _ _=>rfl)))
   (af (aG (i:=4) mL.nd rfl (Or.inl rfl) (bK dH (pv 2) aq (fun _ _=>rfl)))
   (af (bJ (PW.pt (jQ (bh sN (pv 3) (pv 1) (a0 _)) (jQ (bh sN (pv 3) (pv 4) (a0 _)) (i9 (bY (aH (AG T) (hr.mono (by decide)) rfl T.xD T.pT.kp T.xE .nil aC (aa (pv 0) (aa (pv 1) (aa (pv 4) ah))))))))) (aj (au (pv 2))) aP)
   (aj (au (aX rfl T.v7 T.v8)))))),?_⟩
  refine⟨_,rfl,o,_,1,_,rfl,rfl,ho,bb (i:=1) rfl,?_⟩;refine⟨_,rfl,o,_,2,_,rfl,rfl,ho,bb (i:=2) rfl,?_⟩;refine⟨_,rfl,_,rfl,rfl,_,rfl,?_⟩;rw[vne];by_cases c1:b=m.prov
  ·rw[show decide ((b:Int)≠(m.prov:Int))=false from decide_eq_false (by omega)];rw[if_neg (fun z=>z.1 c1)] at k;exact aS (aS (k _ _ aF.dw (T.jA _)))
  ·rw[show decide ((b:Int)≠(m.prov:Int))=true from decide_eq_true (by omega)];refine bq ⟨_,rfl,_,rfl,rfl,_,rfl,?_⟩;rw[vne];by_cases c2:b=q
   ·rw[show decide ((b:Int)≠(q:Int))=false from decide_eq_false (by omega)];rw[if_neg (fun z=>z.2.1 c2)] at k;exact aS (aS (k _ _ aF.dw (T.jA _)))
   ·rw[show decide ((b:Int)≠(q:Int))=true from decide_eq_true (by omega)];refine bq ⟨_,rfl,_,rfl,_,rfl,ta,d,t,m.prov,q,m,rfl,hT,hm,by omega,fun H1 s1=>⟨_,rfl,?_⟩⟩;cases e:g7 t.board m q with
    |true=>rw[if_pos ⟨c1,c2,e⟩] at k;exact bq ⟨_,rfl,k _ _ s1 (nH ho s1)⟩
    |false=>rw[if_neg (fun z=>by rw[e] at z;exact absurd z.2.2 (by decide))] at k;exact aS (k _ _ s1 (T.jA _))
theorem OX(T:Txt w K mg a):aY P w K mg base CX0 3 a.dW a.rO ["table","p","order"] (AH P w K a fun m=>m.fleet=true∧∃q u x,u≤3∧m.order=.move q u x):=by
 refine T.sf.ok pd (fun vs H Q E h=>?_) (fun cdv A outer s H vs Q E hr h=>?_)
 ·obtain⟨ta,d,t,p,m,o,rfl,_⟩:=h;rfl
 ·obtain⟨ta,d,t,p,m,o,rfl,hT,W,G,hm,ho,⟨hf,q,u,x,hu3,hk⟩,k⟩:=h;have hu:=bE hr;obtain⟨mi,mp⟩:=eQ hm;have hs:=W.shore m mi;obtain⟨b,hv,_,ux,oo,hb,_⟩:=hT.unit hm;obtain⟨dx,htab⟩:=hT.tab;subst mp;rw[abk G hs hf hu3 hk] at k;rw[hk] at ho;refine⟨_,(af (aG (i:=3) pd.nd rfl (Or.inl rfl) (bK dH (pv 2) aq (fun _ _=>rfl)))
   (af (aG (i:=4) pd.nd rfl (Or.inl rfl) (bK dH (pv 2) aq (fun _ _=>rfl)))
   (af (bJ (PW.pt (jQ (bh fb (bK dH (pv 2) aq (fun _ _=>rfl)) aq (a0 _)) (i9 (bY (aH (sE T) (hr.mono (by decide)) rfl T.ox T.kM.kp T.oy .nil aC (aa (pv 0) (aa (fW (aa (pv 1) (aa (ay (bQ hu (ay (pv 0) rfl) (pv 1) (fun _ _=>rfl)) rfl) ah))) (aa (fW (aa (pv 3) (aa (pv 4) ah))) ah)))))))) (aj (au (fW (aa (aX rfl T.Kg T.Kh) (aa (pv 3) (aa (pv 4) (aa aq ah))))))) aP)
   (aj (au (aX rfl T.v7 T.v8)))))),?_⟩
  refine⟨_,rfl,o,_,1,_,rfl,rfl,ho,bb (i:=1) rfl,?_⟩;refine⟨_,rfl,o,_,2,_,rfl,rfl,ho,bb (i:=2) rfl,?_⟩;refine⟨_,rfl,o,_,3,_,rfl,rfl,ho,bb (i:=3) rfl,rfl,_,rfl,?_⟩;cases x with
  |true=>
   rw[if_neg (fun z=>absurd z.1 (by decide))] at k;exact aS (aS (k _ _ aF.dw (T.jA _)))
  |false=>
   refine bq ⟨_,rfl,_,rfl,_,rfl,ta,_,dx,_,_,rfl,htab,T.aQ,T.aL,bC d,_,rfl,d.u,_,rfl,.inl ⟨_,nK m.prov,hT.units,rfl,hv.symm⟩,b,_,ux,_,_,rfl,hb,T.eN,T.gX,rfl,qK,fun c hc=>?_⟩;have s1:=aw (o:=.tup [V.int m.prov,V.int m.shore]) hc;refine⟨_,rfl,_,rfl,qK,fun c2 hc2=>?_⟩;have s2:=aw (o:=.tup [V.int q,V.int u]) hc2;refine⟨ta,d,t,c,c2,place m.prov m.shore,place q u,rfl,(hT.same s1).same s2,by rw[afj (by omega)];exact s2 _ _ ae,by rw[afj (by omega)];exact ae,fun H1 s3=>⟨_,rfl,?_⟩⟩;have sm:=(s1.trans s2).trans s3;cases e:linked t.board.sea (place m.prov m.shore) (place q u) with
   |true=>
    rw[if_pos ⟨rfl,e⟩] at k;exact bq ⟨_,rfl,_,rfl,aB.le (by simp),fun c3 hc3=>k _ _ (sm.trans (aw hc3)) (SqT.of ae)⟩
   |false=>
    rw[if_neg (fun z=>by rw[e] at z;exact absurd z.2 (by decide))] at k;exact aS (k _ _ sm (T.jA _))
end
end My
end
section
namespace My
open PySem PySem.Spec PyProof.Rows L2
open Vbsoaa (Man Order Table orderNums bit linked place manAt kind counts)
section
variable{P:Program}{w:World}{K:PySem.W.Frag}{mg:Str→Option Value}{base:Heap}{a:Adr}{H H':Hp}{ta:Addr}{d:Pt}{t:Table}
theorem TX(T:Txt w K mg a):aY P w K mg base CX0 5 a.fk a.vC ["table","p","order"] (AH P w K a fun m=>m.fleet=false∧∃q u x,m.order=.move q u x):=by
 refine T.vQ.ok A7 (fun vs H Q E h=>?_) (fun cdv A outer s H vs Q E hr h=>?_)
 ·obtain⟨ta,d,t,p,m,o,rfl,_⟩:=h;rfl
 ·obtain⟨ta,d,t,p,m,o,rfl,hT,W,G,hm,ho,⟨hf,q,u,x,hk⟩,k⟩:=h;obtain⟨mi,mp⟩:=eQ hm;have hs:=W.shore m mi;subst mp;have hq:q<t.board.kinds.length:=by
   have:=G.ord m mi;rw[hk] at this;exact this.1
  have kp:=nS (W.prov m mi);have kq:=nS hq;rw[adH G hs hf hk] at k;rw[hk] at ho;refine⟨_,(af (aG (i:=3) A7.nd rfl (Or.inl rfl) (bK dH (pv 2) aq (fun _ _=>rfl)))
   (af (bJ (PW.pt (jQ (bh fb (bK dH (pv 2) aq (fun _ _=>rfl)) aq (a0 _)) (i9 (bY (aH (AG T) (hr.mono (by decide)) rfl T.xD T.pT.kp T.xE .nil aC (aa (pv 0) (aa (pv 1) (aa (pv 3) ah)))))))) (aj (au (fW (aa (aX rfl T.Kg T.Kh) (aa (pv 3) (aa aq (aa aq ah))))))) aP)
   (af (bJ (PW.pt (jQ (bh sN (pv 3) (pv 1) (a0 _)) (jQ (bh fb (bK bL (ay (pv 0) rfl) (pv 1) (fun _ _=>rfl)) (aX rfl T.Q6 T.Q7) (a0 _)) (i9 (bh fb (bK bL (ay (pv 0) rfl) (pv 3) (fun _ _=>rfl)) (aX rfl T.Q6 T.Q7) (a0 _)))))) (aj (au (fW (aa (aX rfl T.Kg T.Kh) (aa (pv 3) (aa aq (aa aq ah))))))) aP)
   (aj (au (aX rfl T.v7 T.v8)))))),?_⟩
  refine⟨_,rfl,o,_,1,_,rfl,rfl,ho,bb (i:=1) rfl,?_⟩;refine⟨_,rfl,o,_,3,_,rfl,rfl,ho,bb (i:=3) rfl,rfl,_,rfl,?_⟩;have second:∀(H1:Hp),aF H H1→¬(x=false∧g7 t.board m q=true)→(ada (ade (afL (Fm (tOp rNe (i8 3) (i8 1))) (afL (Fm (tOp rEq (tOp aix (aa3 K (i8 0) "kinds") (i8 1)) (tC (.int 2)))) (Fm (tOp rEq (tOp aix (aa3 K (i8 0) "kinds") (i8 3)) (tC (.int 2)))))) (X5 (akh (uH (tC (.int 1)) (uH (i8 3) (uH (tC (.int 0)) (uH (tC (.int 1)) Hh)))))) Um) (X5 (tC (.ref a.iB)))) {nx:=fun _ H'=>Q .non H',rt:=Q} (L2.start ["table","p","order","q"] [.ref ta,.int m.prov,.ref o,.int q]) H1:=by
   intro H1 s1 nc;rw[if_neg nc] at k;have hT1:=hT.same s1;obtain⟨dx,htab⟩:=hT1.tab;refine⟨_,rfl,_,rfl,rfl,_,rfl,?_⟩;rw[vne];by_cases c1:q=m.prov
   ·rw[show decide ((q:Int)≠(m.prov:Int))=false from decide_eq_false (by omega)];rw[if_neg (fun z=>z.1 c1)] at k;exact aS (aS (k _ _ s1 (T.jA _)))
   ·rw[show decide ((q:Int)≠(m.prov:Int))=true from decide_eq_true (by omega)];refine bq ⟨_,rfl,ta,_,dx,_,_,rfl,htab,T.aQ,T.bP,fK d,_,rfl,d.k,_,_,_,rfl,rfl,hT1.kinds,E7 kp,rfl,_,rfl,?_⟩;rw[TV];by_cases c2:kind t.board m.prov=2
    ·rw[show decide ((kind t.board m.prov:Int)=2)=true from decide_eq_true (by omega)];refine bq ⟨_,rfl,ta,_,dx,_,_,rfl,htab,T.aQ,T.bP,fK d,_,rfl,d.k,_,_,_,rfl,rfl,hT1.kinds,E7 kq,rfl,_,rfl,?_⟩;rw[TV];by_cases c3:kind t.board q=2
     ·rw[show decide ((kind t.board q:Int)=2)=true from decide_eq_true (by omega)];rw[if_pos ⟨c1,c2,c3⟩] at k;exact bq ⟨_,rfl,aB.le (by simp),fun c hc=>k _ _ (s1.trans (aw hc)) (SqT.of ae)⟩
     ·rw[show decide ((kind t.board q:Int)=2)=false from decide_eq_false (by omega)];rw[if_neg (fun z=>c3 z.2.2)] at k;exact aS (k _ _ s1 (T.jA _))
    ·rw[show decide ((kind t.board m.prov:Int)=2)=false from decide_eq_false (by omega)];rw[if_neg (fun z=>c2 z.2.1)] at k;exact aS (aS (k _ _ s1 (T.jA _)))
  cases x with
  |true=>exact aS (aS (second H aF.dw (fun z=>absurd z.1 (by decide))))
  |false=>
   refine bq ⟨_,rfl,_,rfl,_,rfl,ta,d,t,m.prov,q,m,rfl,hT,hm,by omega,fun H1 s1=>⟨_,rfl,?_⟩⟩;cases e:g7 t.board m q with
   |true=>
    rw[if_pos ⟨rfl,e⟩] at k;exact bq ⟨_,rfl,aB.le (by simp),fun c hc=>k _ _ (s1.trans (aw hc)) (SqT.of ae)⟩
   |false=>exact aS (second H1 s1 (fun z=>by rw[e] at z;exact absurd z.2 (by decide)))
theorem IM(T:Txt w K mg a):aY P w K mg base CX0 6 a.cc a.mR ["table","p","order"] (AH P w K a fun m=>∃q u x,m.order=.move q u x):=by
 refine T.mW.ok Hr (fun vs H Q E h=>?_) (fun cdv A outer s H vs Q E hr h=>?_)
 ·obtain⟨ta,d,t,p,m,o,rfl,_⟩:=h;rfl
 ·obtain⟨ta,d,t,p,m,o,rfl,hT,W,G,hm,ho,⟨q,u,x,hk⟩,k⟩:=h;have hu:=bE hr;obtain⟨mi,mp⟩:=eQ hm;obtain⟨b,hv,_,ux,oo,hb,_⟩:=hT.unit hm;obtain⟨dx,htab⟩:=hT.tab;have hu3:u≤3:=by
   have:=G.ord m mi;rw[hk] at this;exact this.2
  refine⟨_,(af (bJ (bh fb (ay (bQ hu (ay (pv 0) rfl) (pv 1) (fun _ _=>rfl)) rfl) aq (a0 _)) (aj (au (aH (OX T) (hr.mono (by decide)) rfl T.Bm T.sf.kp T.Bn .nil aC (aa (pv 0) (aa (pv 1) (aa (pv 2) ah)))))) aP)
   (aj (au (aH (TX T) (hr.mono (by decide)) rfl T.FO T.vQ.kp T.FP .nil aC (aa (pv 0) (aa (pv 1) (aa (pv 2) ah))))))),?_⟩
  refine⟨_,rfl,ta,_,dx,_,_,rfl,htab,T.aQ,T.aL,bC d,_,rfl,d.u,_,rfl,.inl ⟨_,nK p,hT.units,rfl,hv.symm⟩,b,_,ux,_,_,rfl,hb,T.eN,T.jz,rfl,rfl,_,rfl,?_⟩;rw[TU];cases e:m.fleet with
  |true=>exact bq ⟨_,rfl,_,rfl,_,rfl,ta,d,t,p,m,o,rfl,hT,W,G,hm,ho,⟨e,q,u,x,hu3,hk⟩,k⟩
  |false=>exact aS ⟨_,rfl,_,rfl,_,rfl,ta,d,t,p,m,o,rfl,hT,W,G,hm,ho,⟨e,q,u,x,hk⟩,k⟩
def E9(P:Program)(w:World)(K:PySem.W.Frag)(a:Adr):Sp:=fun vs H Q _=>∃(ta:Addr)(d:Pt)(t:Table)(p:Nat)(m:Man),vs=[.ref ta,.int p]∧nG P w K a H ta d t∧Wf t∧Wg t∧
 manAt t.men p=some m∧∀H' r,aF H H'→SqT K H' r ((orderNums (counts t.board m)).map V.int)→Q (.ref r) H'
theorem Fb(T:Txt w K mg a):aY P w K mg base CX0 7 a.cC a.lp ["table","p"] (E9 P w K a):=by
 refine T.lA.ok j0 (fun vs H Q E h=>?_) (fun cdv A outer s H vs Q E hr h=>?_)
 ·obtain⟨ta,d,t,p,m,rfl,_⟩:=h;rfl
 ·obtain⟨ta,d,t,p,m,rfl,hT,W,G,hm,k⟩:=h;have hu:=bE hr;obtain⟨b,hv,_,ux,oo,hb,ho⟩:=hT.unit hm;obtain⟨dx,htab⟩:=hT.tab;refine⟨_,(af (aG (i:=2) j0.nd rfl (Or.inl rfl) (ay (bQ hu (ay (pv 0) rfl) (pv 1) (fun _ _=>rfl)) rfl))
   (af (aG (i:=3) j0.nd rfl (Or.inl rfl) (uX (aX rfl T.PL T.PM) (bK dH (pv 2) aq (fun _ _=>rfl)) (fun _ _=>rfl)))
   (aj (au (Ju (pv 3) (aa (pv 0) (aa (pv 1) (aa (pv 2) ah))) hr))))),?_⟩
  refine⟨_,rfl,ta,_,dx,_,_,rfl,htab,T.aQ,T.aL,bC d,_,rfl,d.u,_,rfl,.inl ⟨_,nK p,hT.units,rfl,hv.symm⟩,b,_,ux,_,_,rfl,hb,T.eN,T.l7,rfl,?_⟩;cases e:m.order with
  |hold=>
   exact⟨_,rfl,oo,_,0,.int 0,rfl,rfl,ho,(by rw[e];exact bb (i:=0) rfl),a.cT,_,.inl 0,_,rfl,T.mh,rfl,rfl,_,rfl,_,rfl,T.mV.kp,_,rfl,_,rfl,_,rfl,_,_,_,(IK T).mono (by decide),T.vP,ta,d,t,p,m,oo,rfl,hT,W,G,hm,ho,e,k⟩
  |move q u x=>
   exact⟨_,rfl,oo,_,0,.int 1,rfl,rfl,ho,(by rw[e];exact bb (i:=0) rfl),a.cT,_,.inl 1,_,rfl,T.mh,rfl,rfl,_,rfl,_,rfl,T.mW.kp,_,rfl,_,rfl,_,rfl,_,_,_,(IM T).mono (by decide),T.vR,ta,d,t,p,m,oo,rfl,hT,W,G,hm,ho,⟨q,u,x,e⟩,k⟩
  |stay q=>
   exact⟨_,rfl,oo,_,0,.int 2,rfl,rfl,ho,(by rw[e];exact bb (i:=0) rfl),a.cT,_,.inl 2,_,rfl,T.mh,rfl,rfl,_,rfl,_,rfl,T.mX.kp,_,rfl,_,rfl,_,rfl,_,_,_,(IL T).mono (by decide),T.vS,ta,d,t,p,m,oo,rfl,hT,W,G,hm,ho,⟨q,e⟩,k⟩
  |aid b' q=>
   exact⟨_,rfl,oo,_,0,.int 3,rfl,rfl,ho,(by rw[e];exact bb (i:=0) rfl),a.cT,_,.inl 3,_,rfl,T.mh,rfl,rfl,_,rfl,_,rfl,T.pE.kp,_,rfl,_,rfl,_,rfl,_,_,_,(Mi T).mono (by decide),T.yx,ta,d,t,p,m,oo,rfl,hT,W,G,hm,ho,⟨b',q,e⟩,k⟩
  |carry b' q=>
   exact⟨_,rfl,oo,_,0,.int 4,rfl,rfl,ho,(by rw[e];exact bb (i:=0) rfl),a.cT,_,.inl 4,_,rfl,T.mh,rfl,rfl,_,rfl,_,rfl,T.lz.kp,_,rfl,_,rfl,_,rfl,_,_,_,(E8 T).mono (by decide),T.sU,ta,d,t,p,m,oo,rfl,hT,W,G,hm,ho,⟨b',q,e⟩,k⟩
end
end My
end
section
namespace My
open PySem PySem.Spec PyProof.Rows L2
open Vbsoaa (Man Men Order Table orderNums bit linked place manAt kind counts goal into eff)
structure FPt where
 o:Addr
 oa:List Addr
 g:Addr
 gk:List (List Key×V)
 go:Addr
 co:Addr
 ck:List (Key×V)
def ffs(ud:Addr)(fp:FPt):List (Str×V):=[("units",.ref ud),("orders",.ref fp.o),("given",.ref fp.g),("goals",.ref fp.go),("coming",.ref fp.co)]
section
variable{P:Program}{w:World}{K:PySem.W.Frag}{H H':Hp}{b c:Addr}{v:HO}
def TY(H:Hp)(c:Addr):Prop:=∀u,H c=some u→(∀xs,u≠.tup xs)∧∀o x,u≠.frz o x
theorem DC(h:H c=none):TY H c:=fun u e=>by rw[h] at e;cases e
theorem xG{kvs:List (Key×V)}(h:H c=some (.dK kvs)):TY H c:=fun u e=>by
 rw[h] at e;cases e;exact⟨(fun _ z=>nomatch z),(fun _ _ z=>nomatch z)⟩
theorem qL{xs:List V}(h:H c=some (.lst xs)):TY H c:=fun u e=>by
 rw[h] at e;cases e;exact⟨(fun _ z=>nomatch z),(fun _ _ z=>nomatch z)⟩
theorem XD{φ:Heap→Prop}(h:H c=some (.ext φ)):TY H c:=fun u e=>by
 rw[h] at e;cases e;exact⟨(fun _ z=>nomatch z),(fun _ _ z=>nomatch z)⟩
theorem kr{xs:List V}(h:SqT K H b xs)(s:TY H c):SqT K (upd H c v) b xs:=by
 rcases h with(h|⟨z,h⟩)|h
 ·exact .inl (.inl (by rw[ab (fun e=>(s _ (by rw[←e];exact h)).1 _ rfl)];exact h))
 ·exact .inl (.inr ⟨z,by rw[ab (fun e=>(s _ (by rw[←e];exact h)).2 _ _ rfl)];exact h⟩)
 ·exact .inr h
theorem pF{g:Addr}{gk:List (List Key×V)}(h:rg P w K H g gk)(ne:c≠g)(s:TY H c):rg P w K (upd H c v) g gk:=by
 obtain⟨h1,h2,h3,xs,h4,h5⟩:=h;exact⟨h1,h2,h3,xs,by rw[ab (Ne.symm ne)];exact h4,KQ.same (fun b ys q=>kr q s) h5⟩
theorem aaJ{g:Addr}{gk:List (List Key×V)}(h:rg P w K H g gk)(s:aF H H'):rg P w K H' g gk:=by
 obtain⟨h1,h2,h3,xs,h4,h5⟩:=h;exact⟨h1,h2,h3,xs,s _ _ h4,KQ.same (fun b ys q=>nH q s) h5⟩
theorem lG{g:Addr}{gk:List (List Key×V)}(h:rg P w K H g gk):∃φ,H g=some (.ext φ):=by
 obtain⟨_,_,_,xs,h4,_⟩:=h;exact⟨_,h4⟩
structure acN(K:PySem.W.Frag)(H:Hp)(fp:FPt)(ms:Men):Prop where
 at_:H fp.o=some (.dK (g8 ms fp.oa))
 len:fp.oa.length=ms.length
 each:∀(i:Nat)(m:Man)(b:Addr),ms[i]?=some m→fp.oa[i]?=some b→SqT K H b ((orderNums m.order).map V.int)
structure TZ(P:Program)(w:World)(K:PySem.W.Frag)(B H:Hp)(fp:FPt)(ms:Men):Prop where
 at_:rg P w K H fp.g fp.gk
 ok:mC H fp.gk iK (cH ms)
 ap:Apart fp.gk
 new:∀k l,aR fp.gk k=some (.ref l)→B l=none∧∃xs,H l=some (.lst xs)
 len:fp.gk.length≤ms.length
structure T1(B H:Hp)(fp:FPt)(ms:Men):Prop where
 at_:H fp.co=some (.dK fp.ck)
 ok:mC H fp.ck nK (di ms)
 ap:Apart fp.ck
 new:∀k l,aR fp.ck k=some (.ref l)→B l=none∧∃xs,H l=some (.lst xs)
 len:fp.ck.length≤ms.length
structure Bld(P:Program)(w:World)(K:PySem.W.Frag)(a:Adr)(B H:Hp)(f dx ud:Addr)(fp:FPt)(m1 m2 m3 m4:Men):Prop where
 ins:H f=some (.ins a.aJ dx (ffs ud fp))
 ord:acN K H fp m1
 giv:TZ P w K B H fp m2
 goa:H fp.go=some (.dK (aZ m3))
 com:T1 B H fp m4
 dis:∀k q l,aR fp.gk k=some (.ref l)→aR fp.ck q≠some (.ref l)
 n1:fp.o≠fp.go
 n2:fp.o≠fp.co
 n3:fp.go≠fp.co
 new:B fp.o=none∧B fp.g=none∧B fp.go=none∧B fp.co=none
 keep:∀b o,B b=some o→b≠f→H b=some o
variable{a:Adr}{B:Hp}{f dx ud:Addr}{fp:FPt}{m1 m2 m3 m4:Men}
theorem jG(h:∀b o,B b=some o→b≠f→H b=some o)(hc:B c=none):∀b o,B b=some o→b≠f→upd H c v b=some o:=fun b o e ne=>by rw[ab (ai e hc)];exact h b o e ne
theorem acN.upd(x:acN K H fp m1)(ne:c≠fp.o)(s:TY H c):acN K (L2.upd H c v) fp m1:=⟨by rw[ab (Ne.symm ne)];exact x.at_,x.len,fun i m b h1 h2=>kr (x.each i m b h1 h2) s⟩
theorem TZ.upd(x:TZ P w K B H fp m2)(ne:c≠fp.g)(nl:∀k,aR fp.gk k≠some (.ref c))(s:TY H c):TZ P w K B (L2.upd H c v) fp m2:=
 ⟨pF x.at_ ne s,x.ok.same (fun l xs k e q=>by rw[ab (fun z=>nl k (by rw[←z];exact e))];exact q),x.ap,fun k l e=>⟨(x.new k l e).1,by rw[ab (fun z=>nl k (by rw[←z];exact e))];exact(x.new k l e).2⟩,x.len⟩
theorem T1.upd(x:T1 B H fp m4)(ne:c≠fp.co)(nl:∀k,aR fp.ck k≠some (.ref c)):T1 B (L2.upd H c v) fp m4:=
 ⟨by rw[ab (Ne.symm ne)];exact x.at_,x.ok.same (fun l xs k e q=>by rw[ab (fun z=>nl k (by rw[←z];exact e))];exact q),x.ap,fun k l e=>⟨(x.new k l e).1,by rw[ab (fun z=>nl k (by rw[←z];exact e))];exact(x.new k l e).2⟩,x.len⟩
theorem TZ.nl(x:TZ P w K B H fp m2){u:HO}(h:H c=some u)(hu:∀xs,u≠.lst xs):∀k,aR fp.gk k≠some (.ref c):=fun k e=>by
 obtain⟨_,xs,q⟩:=x.new k c e;rw[h] at q;cases q;exact hu xs rfl
theorem T1.nl(x:T1 B H fp m4){u:HO}(h:H c=some u)(hu:∀xs,u≠.lst xs):∀k,aR fp.ck k≠some (.ref c):=fun k e=>by
 obtain⟨_,xs,q⟩:=x.new k c e;rw[h] at q;cases q;exact hu xs rfl
theorem TZ.nn(x:TZ P w K B H fp m2)(h:H c=none):∀k,aR fp.gk k≠some (.ref c):=fun k e=>by
 obtain⟨_,xs,q⟩:=x.new k c e;rw[h] at q;cases q
theorem T1.nn(x:T1 B H fp m4)(h:H c=none):∀k,aR fp.ck k≠some (.ref c):=fun k e=>by
 obtain⟨_,xs,q⟩:=x.new k c e;rw[h] at q;cases q
theorem Bld.fresh(x:Bld P w K a B H f dx ud fp m1 m2 m3 m4)(hc:H c=none)(bc:B c=none):Bld P w K a B (upd H c v) f dx ud fp m1 m2 m3 m4:=by
 have s:=DC hc;obtain⟨φ,hg⟩:=lG x.giv.at_
 exact⟨by rw[ab (ai x.ins hc)];exact x.ins,x.ord.upd (Ne.symm (ai x.ord.at_ hc)) s,x.giv.upd (Ne.symm (ai hg hc)) (x.giv.nn hc) s,by rw[ab (ai x.goa hc)];exact x.goa,
  x.com.upd (Ne.symm (ai x.com.at_ hc)) (x.com.nn hc),x.dis,x.n1,x.n2,x.n3,x.new,jG x.keep bc⟩
theorem Bld.ajJ(x:Bld P w K a B H f dx ud fp m1 m2 m3 m4){m:Man}{b:Addr}(hb:SqT K H b ((orderNums m.order).map V.int)):
  Bld P w K a B (upd H fp.o (.dK (g8 m1 fp.oa++[(nK m.prov,.ref b)]))) f dx ud {fp with oa:=fp.oa++[b]} (m1++[m]) m2 m3 m4:=by
 have s:=xG x.ord.at_
 obtain⟨φ,hg⟩:=lG x.giv.at_
 have ng:fp.o≠fp.g:=fun z=>by have:=x.ord.at_;rw[z,hg] at this;cases this
 have e:g8 m1 fp.oa++[(nK m.prov,.ref b)]=g8 (m1++[m]) (fp.oa++[b]):=by
  unfold g8;rw[List.zip_append x.ord.len.symm,List.map_append];rfl
 rw[e];have q1:=x.giv.upd (v:=.dK (g8 (m1++[m]) (fp.oa++[b]))) ng (x.giv.nl x.ord.at_ (fun _ z=>nomatch z)) s;have q2:=x.com.upd (v:=.dK (g8 (m1++[m]) (fp.oa++[b]))) x.n2 (x.com.nl x.ord.at_ (fun _ z=>nomatch z));refine⟨by rw[ab (aK x.ins x.ord.at_ (fun z=>nomatch z))];exact x.ins,⟨ae,by simp[x.ord.len],fun i m' b' h1 h2=>?_⟩,⟨q1.at_,q1.ok,q1.ap,q1.new,q1.len⟩,by rw[ab (Ne.symm x.n1)];exact x.goa,
  ⟨q2.at_,q2.ok,q2.ap,q2.new,q2.len⟩,x.dis,x.n1,x.n2,x.n3,x.new,jG x.keep x.new.1⟩
 refine kr ?_ s;by_cases hi:i<m1.length
 ·rw[List.getElem?_append_left hi] at h1;rw[List.getElem?_append_left (by rw[x.ord.len];exact hi)] at h2;exact x.ord.each i m' b' h1 h2
 ·rw[List.getElem?_append_right (by omega)] at h1;rw[List.getElem?_append_right (by rw[x.ord.len];omega),x.ord.len] at h2;have z:i - m1.length=0:=by
   have:=(List.getElem?_eq_some_iff.mp h1).1;simp at this;exact this
  rw[z] at h1 h2;cases h1;cases h2;exact hb
theorem Bld.agV(x:Bld P w K a B H f dx ud fp m1 m2 m3 m4){m:Man}{q:Nat}(hq:goal m=some q):
  Bld P w K a B (upd H fp.go (.dK (aZ m3++[(nK m.prov,nV q)]))) f dx ud fp m1 m2 (m3++[m]) m4:=by
 have s:=xG x.goa;obtain⟨φ,hg⟩:=lG x.giv.at_
 have ng:fp.go≠fp.g:=fun z=>by have:=x.goa;rw[z,hg] at this;cases this
 have e:aZ m3++[(nK m.prov,nV q)]=aZ (m3++[m]):=by rw[JB,hq]
 rw[e];exact⟨by rw[ab (aK x.ins x.goa (fun z=>nomatch z))];exact x.ins,x.ord.upd (Ne.symm x.n1) s,x.giv.upd ng (x.giv.nl x.goa (fun _ z=>nomatch z)) s,ae,
  x.com.upd x.n3 (x.com.nl x.goa (fun _ z=>nomatch z)),x.dis,x.n1,x.n2,x.n3,x.new,jG x.keep x.new.2.2.1⟩
theorem afk{x y:List Int}(h:iK x=iK y):x=y:=by
 unfold iK at h;exact(List.map_inj_right (fun a b e=>by injection e)).mp h
theorem Bld.ajK(x:Bld P w K a B H f dx ud fp m1 m2 m3 m4){m:Man}{l:Addr}(hv:aR fp.gk (iK (orderNums m.order))=some (.ref l)):
  H l=some (.lst ((cH m2 (orderNums m.order)).map nV))∧Bld P w K a B (upd H l (.lst ((cH m2 (orderNums m.order)).map nV++[nV m.prov]))) f dx ud fp m1 (m2++[m]) m3 m4:=by
 obtain⟨hl,sh⟩:=x.giv.ok.old x.giv.ap (fun _ _=>afk) (MM:=cH (m2++[m])) (p:=m.prov) hv (by rw[lV,if_pos rfl]) (fun y hy=>by rw[lV,if_neg (Ne.symm hy),List.append_nil]);refine⟨hl,?_⟩;have s:=qL hl;obtain⟨φ,hg⟩:=lG x.giv.at_
 have nc:∀q,aR fp.ck q≠some (.ref l):=fun q=>x.dis _ q l hv;refine⟨by rw[ab (aK x.ins hl (fun z=>nomatch z))];exact x.ins,x.ord.upd (Ne.symm (aK x.ord.at_ hl (fun z=>nomatch z))) s,⟨pF x.giv.at_ (Ne.symm (aK hg hl (fun z=>nomatch z))) s,sh,x.giv.ap,fun k c e=>⟨(x.giv.new k c e).1,?_⟩,by rw[List.length_append];have:=x.giv.len;omega⟩,by rw[ab (aK x.goa hl (fun z=>nomatch z))];exact x.goa,
  x.com.upd (Ne.symm (aK x.com.at_ hl (fun z=>nomatch z))) nc,x.dis,x.n1,x.n2,x.n3,x.new,jG x.keep (x.giv.new _ _ hv).1⟩
 by_cases z:c=l
 ·subst z;exact⟨_,ae⟩
 ·rw[ab z];exact(x.giv.new k c e).2
theorem Bld.ajL(x:Bld P w K a B H f dx ud fp m1 m2 m3 m4){m:Man}{z:Addr}{o:HO}(hv:aR fp.gk (iK (orderNums m.order))=none)(hz:H z=none)(bz:B z=none)
  (hD:rg P w K (upd (upd H z (.lst [])) fp.g o) fp.g (fp.gk++[(iK (orderNums m.order),.ref z)])):
  upd (upd H z (.lst [])) fp.g o z=some (.lst [])∧Bld P w K a B (upd (upd (upd H z (.lst [])) fp.g o) z (.lst ([]++[nV m.prov]))) f dx ud {fp with gk:=fp.gk++[(iK (orderNums m.order),.ref z)]} m1 (m2++[m]) m3 m4:=by
 have x1:=x.fresh (v:=.lst []) hz bz;obtain⟨φ,hg⟩:=lG x.giv.at_
 have hg1:upd H z (.lst []) fp.g=some (.ext φ):=by rw[ab (ai hg hz)];exact hg
 have zg:z≠fp.g:=Ne.symm (ai hg hz);have h0:upd (upd H z (.lst [])) fp.g o z=some (.lst []):=by rw[ab zg];exact ae
 refine⟨h0,?_⟩;have s1:=XD hg1;have s2:=qL h0;have sh:mC (upd (upd H z (.lst [])) fp.g o) fp.gk iK (cH m2):=x1.giv.ok.same fun l xs k e q=>by rw[ab (fun w=>x1.giv.nl hg1 (fun _ w=>nomatch w) k (by rw[←w];exact e))];exact q
 have nz:∀k,aR fp.gk k≠some (.ref z):=x.giv.nn hz;have nzc:∀k,aR fp.ck k≠some (.ref z):=x.com.nn hz;have sh':=sh.new (fun _ _=>afk) (MM:=cH (m2++[m])) (p:=m.prov) (l:=z) hv nz (by rw[lV,if_pos rfl]) (fun y hy=>by rw[lV,if_neg (Ne.symm hy),List.append_nil]);have ajM:acN K (upd (upd (upd H z (.lst [])) fp.g o) z (.lst ([]++[nV m.prov]))) {fp with gk:=fp.gk++[(iK (orderNums m.order),.ref z)]} m1:=by
  have q:=(x1.ord.upd (v:=o) (Ne.symm (aK x1.ord.at_ hg1 (fun z=>nomatch z))) s1).upd (v:=.lst ([]++[nV m.prov])) (c:=z) (Ne.symm (ai x.ord.at_ hz)) s2;exact⟨q.at_,q.len,q.each⟩
 have aos:T1 B (upd (upd (upd H z (.lst [])) fp.g o) z (.lst ([]++[nV m.prov]))) {fp with gk:=fp.gk++[(iK (orderNums m.order),.ref z)]} m4:=by
  have q:=(x1.com.upd (v:=o) (Ne.symm (aK x1.com.at_ hg1 (fun z=>nomatch z))) (x1.com.nl hg1 (fun _ z=>nomatch z))).upd (v:=.lst ([]++[nV m.prov])) (c:=z) (Ne.symm (ai x.com.at_ hz)) nzc;exact⟨q.at_,q.ok,q.ap,q.new,q.len⟩
 refine⟨?_,ajM,⟨pF hD zg s2,sh',x.giv.ap.new hv nz,fun k c e=>?_,by rw[List.length_append,List.length_append];have:=x.giv.len;simp;omega⟩,?_,aos,fun k q l e e2=>?_,x.n1,x.n2,x.n3,x.new,jG (jG x1.keep x.new.2.1) bz⟩
 ·show _=some (HO.ins a.aJ dx (ffs ud fp));rw[ab (ai x.ins hz),ab (aK x1.ins hg1 (fun z=>nomatch z)),ab (ai x.ins hz)];exact x.ins
 ·rw[mf _ _ _ _ hv] at e;by_cases q:k=iK (orderNums m.order)
  ·rw[if_pos q] at e;cases e;exact⟨bz,_,ae⟩
  ·rw[if_neg q] at e;obtain⟨h1,xs,h2⟩:=x1.giv.new k c e;refine⟨h1,xs,?_⟩;rw[ab (fun w=>nz k (by rw[←w];exact e)),ab (aK h2 hg1 (fun w=>nomatch w))];exact h2
 ·rw[ab (ai x.goa hz),ab (aK x1.goa hg1 (fun z=>nomatch z))];exact x1.goa
 ·rw[mf _ _ _ _ hv] at e;by_cases w:k=iK (orderNums m.order)
  ·rw[if_pos w] at e;cases e;exact nzc q e2
  ·rw[if_neg w] at e;exact x.dis k q l e e2
theorem Bld.ajN(x:Bld P w K a B H f dx ud fp m1 m2 m3 m4){m:Man}{q:Nat}{l:Addr}(hq:goal m=some q)(hv:aR fp.ck (nK q)=some (.ref l)):
  H l=some (.lst ((di m4 q).map nV))∧Bld P w K a B (upd H l (.lst ((di m4 q).map nV++[nV m.prov]))) f dx ud fp m1 m2 m3 (m4++[m]):=by
 obtain⟨hl,sh⟩:=x.com.ok.old x.com.ap (fun _ _=>iw) (MM:=di (m4++[m])) (p:=m.prov) hv (by rw[mD,if_pos hq]) (fun y hy=>by rw[mD,if_neg (fun z=>hy (by rw[hq] at z;injection z with z;exact z.symm)),List.append_nil]);refine⟨hl,?_⟩;have s:=qL hl;obtain⟨φ,hg⟩:=lG x.giv.at_
 have ng:∀k,aR fp.gk k≠some (.ref l):=fun k e=>x.dis k _ l e hv;refine⟨by rw[ab (aK x.ins hl (fun z=>nomatch z))];exact x.ins,x.ord.upd (Ne.symm (aK x.ord.at_ hl (fun z=>nomatch z))) s,x.giv.upd (Ne.symm (aK hg hl (fun z=>nomatch z))) ng s,by rw[ab (aK x.goa hl (fun z=>nomatch z))];exact x.goa,
  ⟨by rw[ab (aK x.com.at_ hl (fun z=>nomatch z))];exact x.com.at_,sh,x.com.ap,fun k c e=>⟨(x.com.new k c e).1,?_⟩,by rw[List.length_append];have:=x.com.len;omega⟩,x.dis,x.n1,x.n2,x.n3,x.new,jG x.keep (x.com.new _ _ hv).1⟩
 by_cases z:c=l
 ·subst z;exact⟨_,ae⟩
 ·rw[ab z];exact(x.com.new k c e).2
theorem Bld.ajO(x:Bld P w K a B H f dx ud fp m1 m2 m3 m4){m:Man}{q:Nat}{z:Addr}(hq:goal m=some q)(hv:aR fp.ck (nK q)=none)(hz:H z=none)(bz:B z=none):
  upd (upd H z (.lst [])) fp.co (.dK (fp.ck++[(nK q,.ref z)])) z=some (.lst [])∧Bld P w K a B (upd (upd (upd H z (.lst [])) fp.co (.dK (fp.ck++[(nK q,.ref z)]))) z (.lst ([]++[nV m.prov]))) f dx ud {fp with ck:=fp.ck++[(nK q,.ref z)]} m1 m2 m3 (m4++[m]):=by
 have x1:=x.fresh (v:=.lst []) hz bz;have hc:=x1.com.at_
 have zc:z≠fp.co:=Ne.symm (ai x.com.at_ hz);have h0:upd (upd H z (.lst [])) fp.co (.dK (fp.ck++[(nK q,.ref z)])) z=some (.lst []):=by rw[ab zc];exact ae
 refine⟨h0,?_⟩;have s1:=xG hc;have s2:=qL h0;obtain⟨φ,hg⟩:=lG x.giv.at_
 obtain⟨φ1,hg1⟩:=lG x1.giv.at_
 have sh:mC (upd (upd H z (.lst [])) fp.co (.dK (fp.ck++[(nK q,.ref z)]))) fp.ck nK (di m4):=x1.com.ok.same fun l xs k e q=>by rw[ab (fun w=>x1.com.nl hc (fun _ w=>nomatch w) k (by rw[←w];exact e))];exact q
 have nz:∀k,aR fp.ck k≠some (.ref z):=x.com.nn hz;have nzg:∀k,aR fp.gk k≠some (.ref z):=x.giv.nn hz;have sh':=sh.new (fun _ _=>iw) (MM:=di (m4++[m])) (p:=m.prov) (l:=z) hv nz (by rw[mD,if_pos hq]) (fun y hy=>by rw[mD,if_neg (fun z=>hy (by rw[hq] at z;injection z with z;exact z.symm)),List.append_nil]);have ajM:acN K (upd (upd (upd H z (.lst [])) fp.co (.dK (fp.ck++[(nK q,.ref z)]))) z (.lst ([]++[nV m.prov]))) {fp with ck:=fp.ck++[(nK q,.ref z)]} m1:=by
  have q:=(x1.ord.upd (v:=.dK (fp.ck++[(nK q,.ref z)])) (c:=fp.co) (Ne.symm x.n2) s1).upd (v:=.lst ([]++[nV m.prov])) (c:=z) (Ne.symm (ai x.ord.at_ hz)) s2;exact⟨q.at_,q.len,q.each⟩
 have aot:TZ P w K B (upd (upd (upd H z (.lst [])) fp.co (.dK (fp.ck++[(nK q,.ref z)]))) z (.lst ([]++[nV m.prov]))) {fp with ck:=fp.ck++[(nK q,.ref z)]} m2:=by
  have q:=(x1.giv.upd (v:=.dK (fp.ck++[(nK q,.ref z)])) (c:=fp.co) (aK hc hg1 (fun z=>nomatch z)) (x1.giv.nl hc (fun _ z=>nomatch z)) s1).upd (v:=.lst ([]++[nV m.prov])) (c:=z) (Ne.symm (ai hg hz)) nzg s2;exact⟨q.at_,q.ok,q.ap,q.new,q.len⟩
 refine⟨?_,ajM,aot,?_,⟨by rw[ab (Ne.symm zc),ae],sh',x.com.ap.new hv nz,fun k c e=>?_,by rw[List.length_append,List.length_append];have:=x.com.len;simp;omega⟩,fun k q' l e e2=>?_,x.n1,x.n2,x.n3,x.new,jG (jG x1.keep x.new.2.2.2) bz⟩
 ·show _=some (HO.ins a.aJ dx (ffs ud fp));rw[ab (ai x.ins hz),ab (aK x1.ins hc (fun z=>nomatch z)),ab (ai x.ins hz)];exact x.ins
 ·rw[ab (ai x.goa hz),ab x.n3];exact x1.goa
 ·rw[mf _ _ _ _ hv] at e;by_cases w:k=nK q
  ·rw[if_pos w] at e;cases e;exact⟨bz,_,ae⟩
  ·rw[if_neg w] at e;obtain⟨h1,xs,h2⟩:=x1.com.new k c e;refine⟨h1,xs,?_⟩;rw[ab (fun w=>nz k (by rw[←w];exact e)),ab (aK h2 hc (fun w=>nomatch w))];exact h2
 ·rw[mf _ _ _ _ hv] at e2;by_cases w:q'=nK q
  ·rw[if_pos w] at e2;cases e2;exact nzg k e
  ·rw[if_neg w] at e2;exact x.dis k q' l e e2
end
end My
end
section
namespace My
open PySem PySem.Spec PyProof.Rows L2
open Vbsoaa (Man Men Order Table orderNums bit linked place manAt kind counts goal into eff)
section
variable{P:Program}{w:World}{K:PySem.W.Frag}{mg:Str→Option Value}{base:Heap}{a:Adr}{H H' B:Hp}{f dx ud:Addr}{fp:FPt}{m1 m2 m3 m4:Men}
theorem Bld.back(x:Bld P w K a B H f dx ud fp m1 m2 m3 m4){b:Addr}(h:H b=none):B b=none:=by
 cases e:B b with
 |none=>rfl
 |some o=>
  by_cases z:b=f
  ·rw[z,x.ins] at h;cases h
  ·rw[x.keep b o e z] at h;cases h
theorem Bld.still(x:Bld P w K a B H f dx ud fp m1 m2 m3 m4){m:Man}(h:goal m=none):Bld P w K a B H f dx ud fp m1 m2 (m3++[m]) (m4++[m]):=by
 refine⟨x.ins,x.ord,x.giv,?_,⟨x.com.at_,fun q=>?_,x.com.ap,x.com.new,by rw[List.length_append];have:=x.com.len;omega⟩,x.dis,x.n1,x.n2,x.n3,x.new,x.keep⟩
 ·rw[JB,h,List.append_nil];exact x.goa
 ·rw[mD,if_neg (by rw[h];exact fun z=>nomatch z),List.append_nil];exact x.com.ok q
theorem G8(ud:Addr)(fp:FPt):(ffs ud fp).lookup ("orders":Str)=some (.ref fp.o):=by unfold ffs;rfl
theorem afl(ud:Addr)(fp:FPt):(ffs ud fp).lookup ("given":Str)=some (.ref fp.g):=by unfold ffs;rfl
theorem eS(ud:Addr)(fp:FPt):(ffs ud fp).lookup ("goals":Str)=some (.ref fp.go):=by unfold ffs;rfl
theorem T2(ud:Addr)(fp:FPt):(ffs ud fp).lookup ("coming":Str)=some (.ref fp.co):=by unfold ffs;rfl
theorem Qg(ud:Addr)(fp:FPt):(ffs ud fp).lookup ("units":Str)=some (.ref ud):=by unfold ffs;rfl
def ZC(P:Program)(w:World)(K:PySem.W.Frag)(a:Adr):Sp:=fun vs H Q _=>∃(B:Hp)(f dx ud:Addr)(fp:FPt)(pre:Men)(m:Man)(b:Addr),vs=[.ref f,.int m.prov,.ref b]∧Bld P w K a B H f dx ud fp pre pre pre pre∧
 SqT K H b ((orderNums m.order).map V.int)∧aR (g8 pre fp.oa) (nK m.prov)=none∧aR (aZ pre) (nK m.prov)=none∧pre.length≤100∧
 ∀H' fp',Bld P w K a B H' f dx ud fp' (pre++[m]) (pre++[m]) (pre++[m]) (pre++[m])→Q .non H'
theorem acO(ms:Men):(aZ ms).length≤ms.length:=List.length_filterMap_le _ _
theorem ajP(ns:List Int):(iK ns).map kV=ns.map V.int:=by unfold iK;rw[List.map_map];rfl
theorem Fc(T:Txt w K mg a):aY P w K mg base CX0 1 a.cp a.lq ["self","p","order"] (ZC P w K a):=by
 refine T.sX.ok pP (fun vs H Q E h=>?_) (fun cdv A outer s H vs Q E hr h=>?_)
 ·obtain⟨B,f,dx,ud,fp,pre,m,b,rfl,_⟩:=h;rfl
 ·obtain⟨B,f,dx,ud,fp,pre,m,b,rfl,x,hb,v1,v2,hl,k⟩:=h;have hu:=bE hr;refine⟨_,(af (lT hu (ay (pv 0) rfl) (pv 1) (pv 2) rfl)
   (af (fo (uM PySem.F.plainAttrs_list PySem.F.slot_list_append PySem.F.type_list_append jR (adW hu (ay (pv 0) rfl) (pv 2) (bf ah) ⟨rfl,rfl,rfl,rfl⟩) (aa (pv 1) ah)))
   (aj (bJ (bh fb (bK dH (pv 2) aq (fun _ _=>rfl)) (aX rfl T.Kg T.Kh) (a0 _)) (af (aG (i:=3) pP.nd rfl (Or.inl rfl) (bK dH (pv 2) aq (fun _ _=>rfl)))
   (af (lT hu (ay (pv 0) rfl) (pv 1) (pv 3) rfl)
   (aj (fo (uM PySem.F.plainAttrs_list PySem.F.slot_list_append PySem.F.type_list_append jR (adY (ay (pv 0) rfl) (pv 3) (bf ah) ⟨rfl,rfl,rfl,rfl⟩) (aa (pv 1) ah)))))) aP)))),?_⟩
  have ol:(g8 pre fp.oa).length≤100:=by unfold g8;rw[List.length_map,List.length_zip];omega
  refine⟨_,rfl,_,rfl,f,_,dx,_,_,rfl,x.ins,T.aE,T.cj,G8 ud fp,_,rfl,fp.o,_,rfl,uU.k (k:=nK m.prov) x.ord.at_ (aB (by omega)),?_⟩;rw[mw _ v1];have x1:=x.ajJ hb;have hb1:SqT K (upd H fp.o (.dK (g8 pre fp.oa++[(nK m.prov,.ref b)]))) b ((orderNums m.order).map V.int):=kr hb (xG x.ord.at_);generalize upd H fp.o (.dK (g8 pre fp.oa++[(nK m.prov,.ref b)]))=H1 at x1 hb1⊢;generalize hfp:({fp with oa:=fp.oa++[b]}:FPt)=fp1 at x1;have rest:∀(H2:Hp)(fp2:FPt),Bld P w K a B H2 f dx ud fp2 (pre++[m]) (pre++[m]) pre pre→SqT K H2 b ((orderNums m.order).map V.int)→aR (aZ pre) (nK m.prov)=none→
    (ade (Fm (tOp rEq (tOp (ah2 K) (i8 2) (tC (.int 0))) (tC (.int 1)))) (ada (ahP (tOp (ah2 K) (i8 2) (tC (.int 1))) (Uo 3)) (ada (ahh (aa3 K (i8 0) "goals") (i8 1) (i8 3)) (adb (tBM K "list" Qy (adX (aa3 K (i8 0) "coming") (i8 3) (ahX Hh)) (uH (i8 1) Hh))))) Um)
     {nx:=fun _ H'=>Q .non H',rt:=Q} (L2.start ["self","p","order","q"] [.ref f,.int m.prov,.ref b]) H2:=by
   intro H2 fp2 y hb2 v2;have gl:=acO pre;have cl:=y.com.len;cases e:m.order with
   |move q u x=>
    have gq:goal m=some q:=by unfold Vbsoaa.goal;rw[e]
    refine⟨_,rfl,b,_,0,.int 1,rfl,rfl,hb2,(by rw[e];exact bb (i:=0) rfl),rfl,_,rfl,bq ?_⟩;refine⟨_,rfl,b,_,1,.int q,rfl,rfl,hb2,(by rw[e];exact bb (i:=1) rfl),?_⟩;refine⟨_,rfl,_,rfl,f,_,dx,_,_,rfl,y.ins,T.aE,T.aM,eS ud fp2,_,rfl,fp2.go,_,rfl,uU.k (k:=nK m.prov) y.goa (aB (by omega)),?_⟩;rw[mw _ v2];have y1:=y.agV (m:=m) gq;have e1:V.int (q:Int)=nV q:=rfl;rw[e1];generalize upd H2 fp2.go (.dK (aZ pre++[(nK m.prov,nV q)]))=H3 at y1⊢;refine⟨_,rfl,f,_,dx,_,_,rfl,y1.ins,T.aE,T.e7,T2 ud fp2,fp2.co,rfl,.inl ⟨_,.inl y1.com.at_⟩,_,rfl,(by decide),fun z hz=>?_⟩;have hc3:upd H3 z (.lst []) fp2.co=some (.dK fp2.ck):=by rw[ab (ai y1.com.at_ hz)];exact y1.com.at_
    refine⟨fp2.ck,nK q,hc3,rfl,aB (by omega),fun v hv=>?_,fun hv=>?_⟩
    ·rcases y1.com.ok q with⟨zz,_⟩|⟨l,hv',_⟩
     ·rw[zz] at hv;cases hv
     ·rw[hv'] at hv;cases hv;obtain⟨hl,y2⟩:=(y1.fresh (v:=.lst []) hz (y1.back hz)).ajN (m:=m) gq hv';have ll:(di pre q).length≤pre.length:=by unfold di Vbsoaa.into;rw[List.length_map];exact List.length_filter_le _ _
      exact⟨.inl ⟨rfl,_,SqL.of hl⟩,_,rfl,l,_,_,rfl,rfl,hl,aB (by rw[List.length_map];omega),k _ _ y2⟩
    ·rw[mw _ hv];obtain⟨hl,y2⟩:=y1.ajO (m:=m) gq hv hz (y1.back hz);exact⟨.inl ⟨rfl,_,SqL.of hl⟩,_,rfl,z,_,_,rfl,rfl,hl,(by decide),k _ _ y2⟩
   |hold=>
    have gq:goal m=none:=by unfold Vbsoaa.goal;rw[e]
    exact⟨_,rfl,b,_,0,.int 0,rfl,rfl,hb2,(by rw[e];exact bb (i:=0) rfl),rfl,_,rfl,aS (k _ _ (y.still gq))⟩
   |stay q=>
    have gq:goal m=none:=by unfold Vbsoaa.goal;rw[e]
    exact⟨_,rfl,b,_,0,.int 2,rfl,rfl,hb2,(by rw[e];exact bb (i:=0) rfl),rfl,_,rfl,aS (k _ _ (y.still gq))⟩
   |aid c q=>
    have gq:goal m=none:=by unfold Vbsoaa.goal;rw[e]
    exact⟨_,rfl,b,_,0,.int 3,rfl,rfl,hb2,(by rw[e];exact bb (i:=0) rfl),rfl,_,rfl,aS (k _ _ (y.still gq))⟩
   |carry c q=>
    have gq:goal m=none:=by unfold Vbsoaa.goal;rw[e]
    exact⟨_,rfl,b,_,0,.int 4,rfl,rfl,hb2,(by rw[e];exact bb (i:=0) rfl),rfl,_,rfl,aS (k _ _ (y.still gq))⟩
  have gl:=x1.giv.len;refine⟨_,rfl,f,_,dx,_,_,rfl,x1.ins,T.aE,T.iq,afl ud fp1,fp1.g,_,rfl,x1.giv.at_,_,rfl,(by decide),fun z hz=>?_⟩;have x2:=x1.fresh (v:=.lst []) hz (x1.back hz);have hb2:SqT K (upd H1 z (.lst [])) b ((orderNums m.order).map V.int):=kr hb1 (DC hz);refine⟨fp1.gk,iK (orderNums m.order),b,x2.giv.at_,rfl,by rw[ajP];exact hb2,aB (by omega),fun v hv=>?_,fun hv o hD=>?_⟩
  ·rcases x2.giv.ok (orderNums m.order) with⟨zz,_⟩|⟨l,hv',_⟩
   ·rw[zz] at hv;cases hv
   ·rw[hv'] at hv;cases hv;obtain⟨hl,y2⟩:=x2.ajK (m:=m) hv';have ll:(cH pre (orderNums m.order)).length≤pre.length:=by unfold cH;rw[List.length_map];exact List.length_filter_le _ _
    exact⟨.inl ⟨rfl,_,SqL.of hl⟩,_,rfl,l,_,_,rfl,rfl,hl,aB (by rw[List.length_map];omega),rest _ _ y2 (kr hb2 (qL hl)) v2⟩
  ·obtain⟨hl,y2⟩:=x1.ajL (m:=m) hv hz (x1.back hz) hD;obtain⟨φ,hg⟩:=lG x2.giv.at_
   exact⟨.inl ⟨rfl,_,SqL.of hl⟩,_,rfl,z,_,_,rfl,rfl,hl,(by decide),rest _ _ y2 (kr (kr hb2 (XD hg)) (qL hl)) v2⟩
end
end My
end
section
namespace My
open PySem PySem.Spec PyProof.Rows L2
open Vbsoaa (Man Men Order Table orderNums bit linked place manAt kind counts goal into eff)
structure cW(P:Program)(w:World)(K:PySem.W.Frag)(a:Adr)(H:Hp)(f:Addr)(d:Pt)(fp:FPt)(t:Table):Prop where
 ins:∃dx,H f=some (.ins a.aJ dx (ffs d.u fp))
 units:Rd H d.u (.dK (aD t.men d.m))
 agW:d.m.length=t.men.length
 uat:∀(i:Nat)(m:Man)(b:Addr),t.men[i]?=some m→d.m[i]?=some b→jS K a.a9 H b m (t.water.contains m.prov)
 acP:Rd H fp.o (.dK (g8 (eff t) fp.oa))
 agX:fp.oa.length=(eff t).length
 oat:∀(i:Nat)(m:Man)(b:Addr),(eff t)[i]?=some m→fp.oa[i]?=some b→SqT K H b ((orderNums m.order).map V.int)
 given:rg P w K H fp.g fp.gk
 gok:mC H fp.gk iK (cH (eff t))
 goals:Rd H fp.go (.dK (aZ (eff t)))
 com:H fp.co=some (.dK fp.ck)
 cok:mC H fp.ck nK (di (eff t))
structure Fx(H:Hp)(d:Pt)(fp:FPt)(t:Table):Prop where
 o:H fp.o=some (.dK (g8 (eff t) fp.oa))
 go:H fp.go=some (.dK (aZ (eff t)))
 u:H d.u=some (.dK (aD t.men d.m))
 no:fp.o≠fp.co
 ngo:fp.go≠fp.co
 nu:d.u≠fp.co
theorem Fx.same{H H':Hp}{d:Pt}{fp:FPt}{t:Table}(x:Fx H d fp t)(s:aF H H'):Fx H' d fp t:=⟨s _ _ x.o,s _ _ x.go,s _ _ x.u,x.no,x.ngo,x.nu⟩
section
variable{P:Program}{w:World}{K:PySem.W.Frag}{mg:Str→Option Value}{base:Heap}{a:Adr}{H H' B:Hp}{f dx ud ta:Addr}{d:Pt}{t:Table}{fp:FPt}{m1 m2 m3 m4:Men}
theorem Bld.same(x:Bld P w K a B H f dx ud fp m1 m2 m3 m4)(s:aF H H'):Bld P w K a B H' f dx ud fp m1 m2 m3 m4:=
 ⟨s _ _ x.ins,⟨s _ _ x.ord.at_,x.ord.len,fun i m b h1 h2=>nH (x.ord.each i m b h1 h2) s⟩,⟨aaJ x.giv.at_ s,x.giv.ok.same fun l xs k _ e=>s _ _ e,x.giv.ap,fun k l e=>⟨(x.giv.new k l e).1,let ⟨xs,q⟩:=(x.giv.new k l e).2;⟨xs,s _ _ q⟩⟩,x.giv.len⟩,s _ _ x.goa,
  ⟨s _ _ x.com.at_,x.com.ok.same fun l xs k _ e=>s _ _ e,x.com.ap,fun k l e=>⟨(x.com.new k l e).1,let ⟨xs,q⟩:=(x.com.new k l e).2;⟨xs,s _ _ q⟩⟩,x.com.len⟩,x.dis,x.n1,x.n2,x.n3,x.new,fun b o e ne=>s _ _ (x.keep b o e ne)⟩
theorem nG.but(T:nG P w K a B ta d t){C:Addr}(hf:B f=some (.ins C dx []))(k:∀b o,B b=some o→b≠f→H b=some o):nG P w K a H ta d t:=by
 obtain⟨⟨tx,e⟩,h2,h3,⟨g1,g2,g3,xs,g4,g5⟩,h5,h6,h7⟩:=T;have tup:∀c ys,B c=some (.tup ys)→H c=some (.tup ys):=fun c ys e=>k _ _ e (aK e hf (fun z=>nomatch z));have frz:∀c o u,B c=some (.frz o u)→H c=some (.frz o u):=fun c o u e=>k _ _ e (aK e hf (fun z=>nomatch z));refine⟨⟨tx,k _ _ e (aK e hf (fun z=>by injection z with _ _ z;exact nomatch z))⟩,k _ _ h2 (aK h2 hf (fun z=>nomatch z)),k _ _ h3 (aK h3 hf (fun z=>nomatch z)),⟨g1,g2,g3,xs,k _ _ g4 (aK g4 hf (fun z=>nomatch z)),K2.same tup g5⟩,?_,h6,fun i m c h1 h2=>(h7 i m c h1 h2).same (fun o e=>?_) tup frz⟩
 ·rcases h5 with h5|⟨o,h5⟩
  ·exact .inl (k _ _ h5 (aK h5 hf (fun z=>nomatch z)))
  ·exact .inr ⟨o,frz _ _ _ h5⟩
 ·obtain⟨_,_,q,_⟩:=h7 i m c h1 h2;exact k _ _ e (aK q hf (fun z=>by injection z with _ _ z;exact nomatch z))
theorem ajQ{i:Nat}{m:Man}(h:t.men[i]?=some m):(eff t)[i]?=some {m with order:=counts t.board m}:=by
 unfold Vbsoaa.eff Vbsoaa.settled;rw[List.getElem?_map,h];rfl
theorem DD:(eff t).map (·.prov)=t.men.map (·.prov):=by
 unfold Vbsoaa.eff Vbsoaa.settled;rw[List.map_map];rfl
theorem dg:(eff t).length=t.men.length:=by unfold Vbsoaa.eff Vbsoaa.settled;rw[List.length_map]
theorem Qh{p:Nat}:∀{ms:Men}{as:List Addr},p∉ms.map (·.prov)→aR (g8 ms as) (nK p)=none
 |[],_,_=>rfl
 |m::ms,[],_=>rfl
 |m::ms,b::as,h=>by
  rw[List.map_cons,List.mem_cons,not_or] at h;show aR ((nK m.prov,V.ref b)::g8 ms as) (nK p)=none;rw[dD (fun z=>h.1 (iw z).symm)];exact Qh h.2
theorem sF{p:Nat}:∀{ms:Men},p∉ms.map (·.prov)→aR (aZ ms) (nK p)=none
 |[],_=>rfl
 |m::ms,h=>by
  rw[List.map_cons,List.mem_cons,not_or] at h;unfold aZ;rw[List.filterMap_cons];cases e:goal m with
  |none=>exact sF h.2
  |some q=>
   show aR ((nK m.prov,nV q)::aZ ms) (nK p)=none;rw[dD (fun z=>h.1 (iw z).symm)];exact sF h.2
theorem xi{ms:Men}{i:Nat}{m:Man}(nd:(ms.map (·.prov)).Nodup)(h:ms[i]?=some m):m.prov∉(ms.take i).map (·.prov):=by
 intro hm;obtain⟨m',h1,h2⟩:=List.mem_map.mp hm;obtain⟨j,hj,e⟩:=List.getElem_of_mem h1;rw[List.length_take] at hj;have hi:=(List.getElem?_eq_some_iff.mp h).1;rw[List.getElem_take] at e;have q1:(ms.map (·.prov))[j]?=some m.prov:=by rw[List.getElem?_map,List.getElem?_eq_getElem (by omega),e];exact congrArg some h2
 have q2:(ms.map (·.prov))[i]?=some m.prov:=by rw[List.getElem?_map,h];rfl
 have:=(List.getElem?_inj (by rw[List.length_map];omega) nd).mp (q1.trans q2.symm);omega
theorem Mj{H:Hp}{c C dx:Addr}{fs:List (Str×V)}(h:H c=some (.ins C dx fs)):TY H c:=fun u e=>by
 rw[h] at e;cases e;exact⟨(fun _ z=>nomatch z),(fun _ _ z=>nomatch z)⟩
theorem Ml{C p:Addr}{fs:List (Str×V)}{v:HO}(h:H f=some (.ins C dx fs))(hp:H p=none):upd H p v f=some (.ins C dx fs):=by rw[ab (ai h hp)];exact h
theorem aaK{C p:Addr}{fs fs':List (Str×V)}{v:HO}(h:H f=some (.ins C dx fs))(hp:H p=none):upd (upd H p v) f (.ins C dx fs') f=some (.ins C dx fs')∧upd (upd H p v) f (.ins C dx fs') p=some v∧∀c u,H c=some u→c≠f→upd (upd H p v) f (.ins C dx fs') c=some u:=
 ⟨ae,by rw[ab (Ne.symm (ai h hp)),ae],fun c u e ne=>by rw[ab ne,ab (ai e hp)];exact e⟩
theorem aaL{C C' p:Addr}{fs fs':List (Str×V)}{dx':Addr}(k:∀b u,B b=some u→b≠f→H b=some u)(hf:B f=some (.ins C dx fs))(h:H f=some (.ins C' dx' fs'))(hp:H p=none):B p=none:=by
 cases e:B p with
 |none=>rfl
 |some u=>
  by_cases z:p=f
  ·rw[z,h] at hp;cases hp
  ·rw[k p u e z] at hp;cases hp
theorem cB{ms:Men}{m:Man}(nd:(ms.map (·.prov)).Nodup)(h:m∈ms):manAt ms m.prov=some m:=by
 induction ms with
 |nil=>cases h
 |cons x r ih=>
  rw[List.map_cons,List.nodup_cons] at nd;rw[jT];rcases List.mem_cons.mp h with z|z
  ·rw[if_pos (by rw[z]),z]
  ·rw[if_neg (fun e=>nd.1 (by rw[e];exact List.mem_map.mpr ⟨m,z,rfl⟩))];exact ih nd.2 z
def za(P:Program)(w:World)(K:PySem.W.Frag)(a:Adr):Sp:=fun vs H Q _=>∃(f dx ta:Addr)(d:Pt)(t:Table),vs=[.ref f,.ref ta]∧H f=some (.ins a.aJ dx [])∧nG P w K a H ta d t∧H d.u=some (.dK (aD t.men d.m))∧Wf t∧Wg t∧
 ∀H' fp,cW P w K a H' f d fp t→Fx H' d fp t→(∀b o,H b=some o→b≠f→H' b=some o)→Q .non H'
theorem cN(T:Txt w K mg a):aY P w K mg base CX0 8 a.df a.rP ["self","table"] (za P w K a):=by
 refine T.Bo.ok yi (fun vs H Q E h=>?_) (fun cdv A outer s H vs Q E hr h=>?_)
 ·obtain⟨f,dx,ta,d,t,rfl,_⟩:=h;rfl
 ·obtain⟨f,dx,ta,d,t,rfl,hf,hT,hun,W,G,k⟩:=h;have hu:=bE hr;obtain⟨tx,htab⟩:=hT.tab;have nt:ta≠f:=aK htab hf (fun z=>by injection z with _ _ z;exact nomatch z);refine⟨_,(af (fq (pv 0) (ay (pv 1) rfl) rfl)
   (af (fq (pv 0) fG rfl)
   (af (fq (pv 0) adV rfl)
   (af (fq (pv 0) fG rfl)
   (af (fq (pv 0) fG rfl)
   (aj (nP (mr PassesOwn.never rfl (lU (ay (pv 1) rfl)) (bX (i:=2) yi.nd rfl (Or.inl rfl)) (aj (fo (aT (pv 0) T.aE T.pU (Fc T) (hr.mono (by decide)) T.sY .nil aC (aa (pv 2) (aa (aH (Fb T) (hr.mono (by decide)) rfl T.sV T.lA.kp T.sW .nil aC (aa (pv 1) (aa (pv 2) ah))) ah))))))))))))),?_⟩
  refine⟨_,rfl,ta,_,tx,_,_,rfl,htab,T.aQ,T.aL,bC d,_,rfl,f,_,dx,_,rfl,hf,T.aE,T.dv,(by decide),?_⟩;have afm:∀b u,H b=some u→b≠f→upd H f (.ins a.aJ dx (bx "units" (.ref d.u) [])) b=some u:=fun b u e ne=>by rw[ab ne];exact e
  have f1:upd H f (.ins a.aJ dx (bx "units" (.ref d.u) [])) f=some (.ins a.aJ dx (bx "units" (.ref d.u) [])):=ae;have XE:∀b,upd H f (.ins a.aJ dx (bx "units" (.ref d.u) [])) b=none→H b=none:=fun b hb=>aaL afm hf f1 hb;generalize upd H f (.ins a.aJ dx (bx "units" (.ref d.u) []))=H1 at afm f1 XE⊢;refine fun o ho=>⟨_,rfl,f,_,dx,_,rfl,Ml f1 ho,T.aE,T.cj,(by show 1<1000;decide),?_⟩
  obtain⟨f2,o2,afn⟩:=aaK (v:=.dK []) (fs':=bx "orders" (.ref o) (bx "units" (.ref d.u) [])) f1 ho;have bo:=XE o ho;have aaM:∀b,upd (upd H1 o (.dK [])) f (.ins a.aJ dx (bx "orders" (.ref o) (bx "units" (.ref d.u) []))) b=none→H1 b=none:=fun b hb=>aaL afn f1 f2 hb;generalize upd (upd H1 o (.dK [])) f (.ins a.aJ dx (bx "orders" (.ref o) (bx "units" (.ref d.u) [])))=H2 at f2 o2 afn aaM⊢;refine fun g og hg hD=>⟨_,rfl,f,_,dx,_,rfl,Ml f2 hg,T.aE,T.iq,(by show 2<1000;decide),?_⟩
  obtain⟨f3,g3,aaN⟩:=aaK (v:=og) (fs':=bx "given" (.ref g) (bx "orders" (.ref o) (bx "units" (.ref d.u) []))) f2 hg;have bg:=XE g (aaM g hg);have no:o≠f:=aK o2 f2 (fun z=>nomatch z);have og2:o≠g:=ai o2 hg;have hD3:rg P w K (upd (upd H2 g og) f (.ins a.aJ dx (bx "given" (.ref g) (bx "orders" (.ref o) (bx "units" (.ref d.u) []))))) g []:=pF hD (Ne.symm (fun z=>by rw[z] at hg;rw[f2] at hg;cases hg)) (Mj (Ml f2 hg));have afo:∀b,upd (upd H2 g og) f (.ins a.aJ dx (bx "given" (.ref g) (bx "orders" (.ref o) (bx "units" (.ref d.u) [])))) b=none→H2 b=none:=fun b hb=>aaL aaN f2 f3 hb;have o3:=aaN o _ o2 no;generalize upd (upd H2 g og) f (.ins a.aJ dx (bx "given" (.ref g) (bx "orders" (.ref o) (bx "units" (.ref d.u) []))))=H3 at f3 g3 aaN hD3 afo o3⊢;refine fun go hgo=>⟨_,rfl,f,_,dx,_,rfl,Ml f3 hgo,T.aE,T.aM,(by show 3<1000;decide),?_⟩
  obtain⟨f4,go4,aaO⟩:=aaK (v:=.dK []) (fs':=bx "goals" (.ref go) (bx "given" (.ref g) (bx "orders" (.ref o) (bx "units" (.ref d.u) [])))) f3 hgo;have bgo:=XE go (aaM go (afo go hgo));have nog:o≠go:=ai o3 hgo;obtain⟨φ3,hx3⟩:=lG hD3;have hD4:rg P w K (upd (upd H3 go (.dK [])) f (.ins a.aJ dx (bx "goals" (.ref go) (bx "given" (.ref g) (bx "orders" (.ref o) (bx "units" (.ref d.u) [])))))) g []:=
   pF (pF hD3 (Ne.symm (ai hx3 hgo)) (DC hgo)) (Ne.symm (aK hx3 f3 (fun z=>nomatch z))) (Mj (Ml f3 hgo))
  have ahE:∀b,upd (upd H3 go (.dK [])) f (.ins a.aJ dx (bx "goals" (.ref go) (bx "given" (.ref g) (bx "orders" (.ref o) (bx "units" (.ref d.u) []))))) b=none→H3 b=none:=fun b hb=>aaL aaO f3 f4 hb;have o4:=aaO o _ o3 no;generalize upd (upd H3 go (.dK [])) f (.ins a.aJ dx (bx "goals" (.ref go) (bx "given" (.ref g) (bx "orders" (.ref o) (bx "units" (.ref d.u) [])))))=H4 at f4 go4 aaO hD4 ahE o4⊢;refine fun co hco=>⟨_,rfl,f,_,dx,_,rfl,Ml f4 hco,T.aE,T.e7,(by show 4<1000;decide),?_⟩
  obtain⟨f5,co5,afp⟩:=aaK (v:=.dK []) (fs':=bx "coming" (.ref co) (bx "goals" (.ref go) (bx "given" (.ref g) (bx "orders" (.ref o) (bx "units" (.ref d.u) []))))) f4 hco;have bco:=XE co (aaM co (afo co (ahE co hco)));have ngo:go≠f:=aK go4 f4 (fun z=>nomatch z);have noc:o≠co:=ai o4 hco;have ngc:go≠co:=ai go4 hco;obtain⟨φ4,hx4⟩:=lG hD4;have hD5:rg P w K (upd (upd H4 co (.dK [])) f (.ins a.aJ dx (bx "coming" (.ref co) (bx "goals" (.ref go) (bx "given" (.ref g) (bx "orders" (.ref o) (bx "units" (.ref d.u) []))))))) g []:=
   pF (pF hD4 (Ne.symm (ai hx4 hco)) (DC hco)) (Ne.symm (aK hx4 f4 (fun z=>nomatch z))) (Mj (Ml f4 hco))
  have o5:=afp o _ o4 no;have go5:=afp go _ go4 ngo;have afq:∀b u,H b=some u→b≠f→upd (upd H4 co (.dK [])) f (.ins a.aJ dx (bx "coming" (.ref co) (bx "goals" (.ref go) (bx "given" (.ref g) (bx "orders" (.ref o) (bx "units" (.ref d.u) [])))))) b=some u:=
   fun b u e ne=>afp b u (aaO b u (aaN b u (afn b u (afm b u e ne) ne) ne) ne) ne
  generalize upd (upd H4 co (.dK [])) f (.ins a.aJ dx (bx "coming" (.ref co) (bx "goals" (.ref go) (bx "given" (.ref g) (bx "orders" (.ref o) (bx "units" (.ref d.u) []))))))=H5 at f5 co5 afq hD5 o5 go5⊢;have nu:d.u≠f:=aK hun hf (fun z=>nomatch z);have hu5:=afq _ _ hun nu;refine⟨d.u,_,hu5,True.intro,fun od=>?_⟩;have uo:d.u≠o:=ai hun bo;have ug:d.u≠g:=ai hun bg;have ugo:d.u≠go:=ai hun bgo;have uco:d.u≠co:=ai hun bco;have hTB:nG P w K a (upd H d.u (.frz od (.dK (aD t.men d.m)))) ta d t:=hT.lock hun;have fB:upd H d.u (.frz od (.dK (aD t.men d.m))) f=some (.ins a.aJ dx []):=by rw[ab (Ne.symm nu)];exact hf
  have x0:Bld P w K a (upd H d.u (.frz od (.dK (aD t.men d.m)))) (upd H5 d.u (.frz od (.dK (aD t.men d.m)))) f dx d.u ⟨o,[],g,[],go,co,[]⟩ [] [] [] []:=by
   refine⟨by rw[ab (Ne.symm nu)];exact f5,⟨by rw[ab (Ne.symm uo)];exact o5,rfl,(fun i m b h1 h2=>nomatch h1)⟩,⟨pF hD5 ug (xG hu5),fun x=>.inl ⟨rfl,rfl⟩,(fun k k' l e=>nomatch e),(fun k l e=>nomatch e),Nat.le_refl _⟩,by rw[ab (Ne.symm ugo)];exact go5,
    ⟨by rw[ab (Ne.symm uco)];exact co5,fun x=>.inl ⟨rfl,rfl⟩,(fun k k' l e=>nomatch e),(fun k l e=>nomatch e),Nat.le_refl _⟩,(fun k q l e=>nomatch e),nog,noc,ngc,?_,fun b u e ne=>?_⟩
   ·rw[ab (Ne.symm uo),ab (Ne.symm ug),ab (Ne.symm ugo),ab (Ne.symm uco)];exact⟨bo,bg,bgo,bco⟩
   ·by_cases z:b=d.u
    ·subst z;rw[ae] at e⊢;exact e
    ·rw[ab z] at e⊢;exact afq b u e ne
  have tB:upd H d.u (.frz od (.dK (aD t.men d.m))) ta=some (.ins a.aU tx (tfs d)):=by rw[ab (aK htab hun (fun z=>nomatch z))];exact htab
  have dB:upd H d.u (.frz od (.dK (aD t.men d.m))) d.u=some (.frz od (.dK (aD t.men d.m))):=ae;generalize hB:upd H d.u (.frz od (.dK (aD t.men d.m)))=B at hTB fB x0 tB dB;generalize upd H5 d.u (.frz od (.dK (aD t.men d.m)))=H6 at x0⊢;refine⟨_,rfl,ta,_,tx,_,_,rfl,x0.keep _ _ tB nt,T.aQ,T.aL,bC d,d.u,od,rfl,.inl ⟨_,x0.keep _ _ dB nu,?_⟩⟩;refine je gD (fun i σ H'=>(∃pv,σ=[some (.ref f),some (.ref ta),pv])∧∃fp,Bld P w K a B H' f dx d.u fp ((eff t).take i) ((eff t).take i) ((eff t).take i) ((eff t).take i)) ⟨⟨_,rfl⟩,_,x0⟩ (fun i σ H' p=>p.2.elim fun fp x=>x.keep _ _ dB nu) (fun i v σ H' hv p=>?_) (fun σ H' p=>?_)
  ·obtain⟨⟨pv,rfl⟩,fp,x⟩:=p;rw[List.getElem?_map] at hv;obtain⟨⟨ky,vl⟩,hk,rfl⟩:=Option.map_eq_some_iff.mp hv;unfold aD at hk;rw[List.getElem?_map] at hk;obtain⟨⟨m,b0⟩,hmb,e0⟩:=Option.map_eq_some_iff.mp hk;cases e0;have hm:t.men[i]?=some m:=by
    have:=List.getElem?_zip_eq_some.mp hmb;exact this.1
   have mi:=List.mem_of_getElem? hm;have hm':=ajQ hm;have mt:manAt t.men m.prov=some m:=cB W.sR mi;have hl:i≤24:=by
    have:=(List.getElem?_eq_some_iff.mp hm).1;have:=W.men;omega
   have nd:((eff t).map (·.prov)).Nodup:=by rw[DD];exact W.sR
   refine⟨_,rfl,f,dx,_,rfl,x.ins,rfl,_,rfl,_,rfl,_,rfl,ta,d,t,m.prov,m,rfl,hTB.but fB x.keep,W,G,mt,fun H7 r s7 hr7=>?_⟩;refine⟨B,f,dx,d.u,fp,(eff t).take i,{m with order:=counts t.board m},r,rfl,x.same s7,hr7,Qh (xi nd hm'),sF (xi nd hm'),by rw[List.length_take];omega,fun H8 fp8 x8=>⟨⟨_,rfl⟩,fp8,?_⟩⟩;have e:(eff t).take (i+1)=(eff t).take i++[{m with order:=counts t.board m}]:=by rw[List.take_add_one,hm'];rfl
   rw[e];exact x8
  ·obtain⟨⟨pv,rfl⟩,fp,x⟩:=p;have e:(eff t).take ((aD t.men d.m).map fun k=>kV k.1).length=eff t:=by
    rw[List.length_map,mB hT.len,←dg];exact List.take_length
   rw[e] at x;refine⟨x.keep _ _ dB nu,?_⟩;have x9:=x.same (H':=H') aF.dw;have uo':fp.o≠d.u:=fun z=>by have:=x.new.1;rw[z,dB] at this;cases this
   have ug':fp.g≠d.u:=fun z=>by have:=x.new.2.1;rw[z,dB] at this;cases this
   have amh:fp.go≠d.u:=fun z=>by have:=x.new.2.2.1;rw[z,dB] at this;cases this
   have ami:fp.co≠d.u:=fun z=>by have:=x.new.2.2.2;rw[z,dB] at this;cases this
   have hTf:nG P w K a H' ta d t:=hTB.but fB x.keep;have gl:∀k l,aR fp.gk k=some (.ref l)→l≠d.u:=fun k l e z=>by have:=(x.giv.new k l e).1;rw[z,dB] at this;cases this
   have cl:∀k l,aR fp.ck k=some (.ref l)→l≠d.u:=fun k l e z=>by have:=(x.com.new k l e).1;rw[z,dB] at this;cases this
   have hfz:H' d.u=some (.frz od (.dK (aD t.men d.m))):=x.keep _ _ dB nu;have sq:∀{b:Addr}{xs:List V},SqT K H' b xs→SqT K (upd H' d.u (.dK (aD t.men d.m))) b xs:=fun{b xs} q=>by
    rcases q with(q|⟨z,q⟩)|q
    ·exact .inl (.inl (by rw[ab (aK q hfz (fun z=>nomatch z))];exact q))
    ·refine .inl (.inr ⟨z,?_⟩);rw[ab (fun e=>by rw[e,hfz] at q;injection q with q;injection q with _ q;exact nomatch q)];exact q
    ·exact .inr q
   refine k _ fp ⟨⟨dx,by rw[ab (Ne.symm nu)];exact x.ins⟩,.inl ae,hT.len,fun i m b h1 h2=>?_,.inl (by rw[ab uo'];exact x.ord.at_),x.ord.len,fun i m b h1 h2=>sq (x.ord.each i m b h1 h2),?_,x.giv.ok.same (fun l xs k e q=>by rw[ab (gl k l e)];exact q),.inl (by rw[ab amh];exact x.goa),by rw[ab ami];exact x.com.at_,x.com.ok.same (fun l xs k e q=>by rw[ab (cl k l e)];exact q)⟩ ⟨by rw[ab uo'];exact x.ord.at_,by rw[ab amh];exact x.goa,ae,x.n2,x.n3,Ne.symm ami⟩ (fun b u e ne=>?_)
   ·obtain⟨ux,oo,q1,q2⟩:=hTf.at_ i m b h1 h2
    exact⟨ux,oo,by rw[ab (aK q1 hfz (fun z=>nomatch z))];exact q1,sq q2⟩
   ·obtain⟨h1,h2,h3,xs,h4,h5⟩:=x.giv.at_
    exact⟨h1,h2,h3,xs,by rw[ab ug'];exact h4,KQ.same (fun b ys q=>sq q) h5⟩
   ·by_cases z:b=d.u
    ·subst z;rw[hun] at e;cases e;exact ae
    ·rw[ab z];exact x.keep b u (by rw[←hB,ab z];exact e) ne
end
end My
end
section
namespace My
open PySem PySem.Spec PyProof.Rows L2
open Vbsoaa (Man Men Order Table orderNums bit linked place manAt kind counts goal into eff byWater way headOn stays apt)
section
variable{P:Program}{w:World}{K:PySem.W.Frag}{mg:Str→Option Value}{base:Heap}{a:Adr}{H H' B:Hp}{f dx ud ta:Addr}{d:Pt}{t:Table}{fp:FPt}
theorem i6(p:Nat):manAt (eff t) p=(manAt t.men p).map fun m=>{m with order:=counts t.board m}:=by
 unfold Vbsoaa.eff Vbsoaa.settled
 induction t.men with
 |nil=>rfl
 |cons m r ih=>
  rw[List.map_cons,jT,jT];by_cases e:m.prov=p
  ·rw[if_pos e,if_pos e];rfl
  ·rw[if_neg e,if_neg e];exact ih
theorem bI(W:Wf t):((eff t).map (·.prov)).Nodup:=by rw[DD];exact W.sR
theorem amx(ms:Men)(as:List Addr):g8 ms as=aD ms as:=rfl
theorem qM{ms:Men}(nd:(ms.map (·.prov)).Nodup)(p:Nat):aR (aZ ms) (nK p)=((manAt ms p).bind goal).map nV:=by
 induction ms with
 |nil=>rfl
 |cons m r ih=>
  rw[List.map_cons,List.nodup_cons] at nd;rw[jT];unfold aZ;rw[List.filterMap_cons];by_cases e:m.prov=p
  ·rw[if_pos e];cases z:goal m with
   |none=>
    show aR (aZ r) (nK p)=((some m).bind goal).map nV;rw[Option.bind_some,z];exact sF (by rw[←e];exact nd.1)
   |some q=>
    show aR ((nK m.prov,nV q)::aZ r) (nK p)=((some m).bind goal).map nV;rw[fF (by rw[e]),Option.bind_some,z];rfl
  ·rw[if_neg e,←ih nd.2];cases z:goal m with
   |none=>rfl
   |some q=>exact dD (fun y=>e (iw y))
theorem cW.unit(F:cW P w K a H f d fp t){p:Nat}{m:Man}(h:manAt (eff t) p=some m):∃b dx o,aR (aD t.men d.m) (nK p)=some (.ref b)∧m.prov=p∧H b=some (.ins a.a9 dx (ufs m o (t.water.contains p))):=by
 rw[i6] at h;obtain⟨m0,h0,rfl⟩:=Option.map_eq_some_iff.mp h;obtain⟨i,b,h1,h2,hv,hp⟩:=fX F.agW h0;subst hp;obtain⟨dx,o,q,_⟩:=F.uat i m0 b h1 h2;exact⟨b,dx,o,hv,rfl,q⟩
theorem cW.order(F:cW P w K a H f d fp t){p:Nat}{m:Man}(h:manAt (eff t) p=some m):∃b,aR (g8 (eff t) fp.oa) (nK p)=some (.ref b)∧m.prov=p∧SqT K H b ((orderNums m.order).map V.int):=by
 obtain⟨i,b,h1,h2,hv,hp⟩:=fX F.agX h;exact⟨b,hv,hp,F.oat i m b h1 h2⟩
theorem cW.same(F:cW P w K a H f d fp t)(s:aF H H'):cW P w K a H' f d fp t:=by
 obtain⟨⟨dx,h1⟩,h2,h3,h4,h5,h6,h7,h8,h9,h10,h11,h12⟩:=F;exact⟨⟨dx,s _ _ h1⟩,cD h2 s,h3,fun i m b e1 e2=>(h4 i m b e1 e2).same (fun o e=>s _ _ e) (fun b xs e=>s _ _ e) (fun b o u e=>s _ _ e),cD h5 s,h6,fun i m b e1 e2=>nH (h7 i m b e1 e2) s,aaJ h8 s,h9.same fun l xs k _ e=>s _ _ e,cD h10 s,s _ _ h11,h12.same fun l xs k _ e=>s _ _ e⟩
theorem oV{b c:Addr}{u:HO}{kvs:List (Key×V)}{o:Obj}(h:Rd H b u)(hu:∀o x,u≠.frz o x)(hc:H c=some (.dK kvs)):Rd (upd H c (.frz o (.dK kvs))) b u:=by
 by_cases z:b=c
 ·subst z;rcases h with h|⟨o',h⟩
  ·rw[hc] at h;cases h;exact .inr ⟨o,ae⟩
  ·rw[hc] at h;cases h
 ·unfold Rd;rw[ab z];exact h
theorem cW.lock{c:Addr}{kvs:List (Key×V)}{o:Obj}(F:cW P w K a H f d fp t)(hc:H c=some (.dK kvs))(nc:c≠fp.co):cW P w K a (upd H c (.frz o (.dK kvs))) f d fp t:=by
 obtain⟨⟨dx,h1⟩,h2,h3,h4,h5,h6,h7,h8,h9,h10,h11,h12⟩:=F;have s:=xG hc;refine⟨⟨dx,by rw[ab (aK h1 hc (fun z=>nomatch z))];exact h1⟩,oV h2 (fun _ _ z=>nomatch z) hc,h3,fun i m b e1 e2=>?_,oV h5 (fun _ _ z=>nomatch z) hc,h6,fun i m b e1 e2=>kr (h7 i m b e1 e2) s,pF h8 ?_ s,h9.same fun l xs k _ e=>?_,oV h10 (fun _ _ z=>nomatch z) hc,by rw[ab (Ne.symm nc)];exact h11,h12.same fun l xs k _ e=>?_⟩
 ·obtain⟨ux,oo,q1,q2⟩:=h4 i m b e1 e2;exact⟨ux,oo,by rw[ab (aK q1 hc (fun z=>nomatch z))];exact q1,kr q2 s⟩
 ·obtain⟨φ,hg⟩:=lG h8;exact aK hc hg (fun z=>nomatch z)
 ·rw[ab (aK e hc (fun z=>nomatch z))];exact e
 ·rw[ab (aK e hc (fun z=>nomatch z))];exact e
theorem afr(F:cW P w K a H f d fp t)(p:Nat):(aR (g8 (eff t) fp.oa) (nK p)).isSome=(manAt (eff t) p).isSome:=dM F.agX
abbrev FA(P:Program)(w:World)(K:PySem.W.Frag)(a:Adr)(H:Hp)(f:Addr)(d:Pt)(fp:FPt)(t:Table):Prop:=cW P w K a H f d fp t∧Wf t
def aaP(P:Program)(w:World)(K:PySem.W.Frag)(a:Adr)(val:Table→Man→V):Sp:=fun vs H Q _=>∃(f:Addr)(d:Pt)(fp:FPt)(t:Table)(p:Nat)(m:Man),vs=[.ref f,.int p]∧FA P w K a H f d fp t∧manAt (eff t) p=some m∧Q (val t m) H
theorem eB(T:Txt w K mg a):aY P w K mg base CX0 1 a.bR a.j3 ["self","p"] (aaP P w K a fun _ m=>.int m.power):=by
 refine T.pV.ok A8 (fun vs H Q E h=>?_) (fun cdv A outer s H vs Q E hr h=>?_)
 ·obtain⟨f,d,fp,t,p,m,rfl,_⟩:=h;rfl
 ·obtain⟨f,d,fp,t,p,m,rfl,⟨F,W⟩,hm,k⟩:=h;have hu:=bE hr;obtain⟨dx,hf⟩:=F.ins;obtain⟨b,ux,oo,hv,hp,hb⟩:=F.unit hm;refine⟨_,(aj (au (ay (bQ hu (ay (pv 0) rfl) (pv 1) (fun _ _=>rfl)) rfl))),?_⟩;exact⟨_,rfl,f,_,dx,_,_,rfl,hf,T.aE,T.dv,Qg d.u fp,_,rfl,d.u,_,rfl,.inl ⟨_,nK p,F.units,rfl,hv.symm⟩,b,_,ux,_,_,rfl,hb,T.eN,T.l6,rfl,k⟩
def acQ(P:Program)(w:World)(K:PySem.W.Frag)(a:Adr):Sp:=fun vs H Q _=>∃(f:Addr)(d:Pt)(fp:FPt)(t:Table)(p:Nat),vs=[.ref f,.int p]∧FA P w K a H f d fp t∧Q (.bl (stays (eff t) p)) H
theorem afs(ms:Men)(p:Nat):stays ms p=((manAt ms p).isSome&&!((manAt ms p).bind goal).isSome):=by
 unfold Vbsoaa.stays;cases manAt ms p with
 |none=>rfl
 |some m=>cases h:goal m<;>simp[h]
theorem sG{α β:Type}(f:α→β)(o:Option α):(o.map f).isSome=o.isSome:=by cases o<;>rfl
theorem iu(T:Txt w K mg a):aY P w K mg base CX0 1 a.cA a.mT ["self","p"] (acQ P w K a):=by
 refine T.vT.ok Ht (fun vs H Q E h=>?_) (fun cdv A outer s H vs Q E hr h=>?_)
 ·obtain⟨f,d,fp,t,p,rfl,_⟩:=h;rfl
 ·obtain⟨f,d,fp,t,p,rfl,⟨F,W⟩,k⟩:=h;have hu:=bE hr;obtain⟨dx,hf⟩:=F.ins;refine⟨_,(aj (au (o6 (qS (k6 hu (pv 1) (ay (pv 0) rfl))) (mn (qS (iO hu (pv 1) (ay (pv 0) rfl))))))),?_⟩;refine⟨_,rfl,_,rfl,f,_,dx,_,_,rfl,hf,T.aE,T.cj,G8 d.u fp,fp.o,_,rfl,.inl ⟨_,nK p,F.acP,rfl,rfl⟩,_,rfl,?_⟩;rw[afr F];rw[afs] at k;cases e:(manAt (eff t) p).isSome with
  |false=>rw[e] at k;exact aS k
  |true=>
   rw[e,Bool.true_and] at k;refine bq ⟨_,rfl,_,rfl,f,_,dx,_,_,rfl,hf,T.aE,T.aM,eS d.u fp,fp.go,_,rfl,.inl ⟨_,nK p,F.goals,rfl,rfl⟩,?_⟩;rw[qM (bI W),sG];exact k
theorem amj(m:Man):(orderNums m.order)[3]?=some (bit (byWater m)):=by
 unfold Vbsoaa.byWater;cases m.order<;>rfl
theorem fV(T:Txt w K mg a):aY P w K mg base CX0 1 a.bT a.j5 ["self","p"] (aaP P w K a fun _ m=>.bl (byWater m)):=by
 refine T.pY.ok Bb (fun vs H Q E h=>?_) (fun cdv A outer s H vs Q E hr h=>?_)
 ·obtain⟨f,d,fp,t,p,m,rfl,_⟩:=h;rfl
 ·obtain⟨f,d,fp,t,p,m,rfl,⟨F,W⟩,hm,k⟩:=h;have hu:=bE hr;obtain⟨dx,hf⟩:=F.ins;obtain⟨b,hv,hp,ho⟩:=F.order hm;refine⟨_,(aj (au (dJ fb (bK dH (bQ hu (ay (pv 0) rfl) (pv 1) (fun _ _=>rfl)) aq (fun _ _=>rfl)) aq (a0 _)))),?_⟩;refine⟨_,rfl,f,_,dx,_,_,rfl,hf,T.aE,T.cj,G8 d.u fp,_,rfl,fp.o,_,rfl,.inl ⟨_,nK p,F.acP,rfl,hv.symm⟩,b,_,3,_,rfl,rfl,ho,bb (i:=3) (amj m),rfl,?_⟩;rw[TU];exact k
theorem ki(T:Txt w K mg a):aY P w K mg base CX0 2 a.cq a.lr ["self","p"] (aaP P w K a fun t m=>.bl (way t.water m)):=by
 refine T.sZ.ok D3 (fun vs H Q E h=>?_) (fun cdv A outer s H vs Q E hr h=>?_)
 ·obtain⟨f,d,fp,t,p,m,rfl,_⟩:=h;rfl
 ·obtain⟨f,d,fp,t,p,m,rfl,⟨F,W⟩,hm,k⟩:=h;have hu:=bE hr;obtain⟨dx,hf⟩:=F.ins;obtain⟨b,ux,oo,hv,hp,hb⟩:=F.unit hm;refine⟨_,(aj (au (ZP (Qn (aT (pv 0) T.aE T.d8 (fV T) (hr.mono (by decide)) T.eZ .nil aC (aa (pv 1) ah))) (mn (dJ fb (ay (bQ hu (ay (pv 0) rfl) (pv 1) (fun _ _=>rfl)) rfl) aq (a0 _)))))),?_⟩;refine⟨_,rfl,f,dx,_,rfl,hf,rfl,_,rfl,f,d,fp,t,p,m,rfl,⟨F,W⟩,hm,_,rfl,_,rfl,?_⟩;have k:Q (.bl (way t.water m)) H:=k;unfold Vbsoaa.way at k;cases e:byWater m with
  |false=>rw[e] at k;exact bq k
  |true=>
   rw[e,Bool.not_true,Bool.false_or] at k;refine aS ⟨_,rfl,f,_,dx,_,_,rfl,hf,T.aE,T.dv,Qg d.u fp,_,rfl,d.u,_,rfl,.inl ⟨_,nK p,F.units,rfl,hv.symm⟩,b,_,ux,_,_,rfl,hb,T.eN,T.kc,rfl,rfl,?_⟩;rw[TU,←hp];exact k
theorem agY(x y:Option Nat):(x==y)=decide (x=y):=by
 rw[Bool.eq_iff_iff,beq_iff_eq,decide_eq_true_eq]
def h2h(ms:Men)(m:Man)(q:Nat):Bool:=match manAt ms q with
 |some x=>headOn m x
 |none=>false
theorem ajR{ms:Men}{m:Man}{q:Nat}(h:goal m=some q):h2h ms m q=(decide (((manAt ms q).bind goal)=some m.prov)&&(!byWater m&&match manAt ms q with|some x=>!byWater x|none=>false)):=by
 unfold h2h;cases e:manAt ms q with
 |none=>simp
 |some x=>
  have ex:x.prov=q:=(eQ e).2;show headOn m x=_;unfold Vbsoaa.headOn;rw[h,ex,beq_self_eq_true,Bool.true_and,Option.bind_some];congr 1;exact agY _ _
theorem Fd(F:cW P w K a H f d fp t)(W:Wf t)(q:Nat):kC H fp.go (.int q) (((manAt (eff t) q).bind goal).map nV):=.inl ⟨_,nK q,F.goals,rfl,(qM (bI W) q).symm⟩
theorem T3(o:Option Nat)(p:Nat):afM ((o.map nV).getD .non) (.int p)=true∧decide (((o.map nV).getD .non)=V.int p)=decide (o=some p):=by
 cases o with
 |none=>exact⟨rfl,by simp⟩
 |some q=>
  refine⟨rfl,?_⟩;show decide (V.int (q:Int)=V.int p)=_;rw[TV];by_cases e:q=p
  ·subst e;simp
  ·rw[decide_eq_false (by omega),decide_eq_false (fun z=>e (by injection z))]
def sI(P:Program)(w:World)(K:PySem.W.Frag)(a:Adr):Sp:=fun vs H Q _=>∃(f:Addr)(d:Pt)(fp:FPt)(t:Table)(p q:Nat)(m:Man),vs=[.ref f,.int p]∧FA P w K a H f d fp t∧manAt (eff t) p=some m∧goal m=some q∧Q (.bl (h2h (eff t) m q)) H
theorem fP(T:Txt w K mg a):aY P w K mg base CX0 2 a.bj a.gj ["self","p"] (sI P w K a):=by
 refine T.kN.ok jL (fun vs H Q E h=>?_) (fun cdv A outer s H vs Q E hr h=>?_)
 ·obtain⟨f,d,fp,t,p,q,m,rfl,_⟩:=h;rfl
 ·obtain⟨f,d,fp,t,p,q,m,rfl,⟨F,W⟩,hm,hq,k⟩:=h;have hu:=bE hr;obtain⟨dx,hf⟩:=F.ins;have mp:=(eQ hm).2;have hg:aR (aZ (eff t)) (nK p)=some (nV q):=by rw[qM (bI W),hm,Option.bind_some,hq];rfl
  rw[ajR hq,mp] at k;refine⟨_,(af (aG (i:=2) jL.nd rfl (Or.inl rfl) (bQ hu (ay (pv 0) rfl) (pv 1) (fun _ _=>rfl)))
   (aj (au (o6 (dJ fb (UA hu (ay (pv 0) rfl) (pv 2) ⟨rfl,rfl,rfl,rfl⟩) (pv 1) (a0 _)) (o6 (Qn (aT (pv 0) T.aE T.d8 (fV T) (hr.mono (by decide)) T.eZ .nil aC (aa (pv 1) ah))) (mn (Qn (aT (pv 0) T.aE T.d8 (fV T) (hr.mono (by decide)) T.eZ .nil aC (aa (pv 2) ah))))))))),?_⟩
  refine⟨_,rfl,f,_,dx,_,_,rfl,hf,T.aE,T.aM,eS d.u fp,_,rfl,fp.go,_,rfl,.inl ⟨_,nK p,F.goals,rfl,hg.symm⟩,?_⟩;refine⟨_,rfl,f,_,dx,_,_,rfl,hf,T.aE,T.aM,eS d.u fp,fp.go,rfl,.inl ⟨_,F.goals⟩,_,rfl,_,Fd F W q,_,rfl,(T3 _ p).1,_,rfl,?_⟩;rw[(T3 _ p).2];cases e1:decide (((manAt (eff t) q).bind goal)=some p) with
  |false=>rw[e1] at k;exact aS k
  |true=>
   rw[e1,Bool.true_and] at k;refine bq ⟨_,rfl,f,dx,_,rfl,hf,rfl,_,rfl,f,d,fp,t,p,m,rfl,⟨F,W⟩,hm,_,rfl,_,rfl,?_⟩;cases e2:byWater m with
   |true=>rw[e2] at k;exact aS k
   |false=>
    rw[e2,Bool.not_false,Bool.true_and] at k;cases e3:manAt (eff t) q with
    |none=>rw[e3] at e1;exact absurd e1 (by simp)
    |some x=>
     rw[e3] at k;exact bq ⟨_,rfl,f,dx,_,rfl,hf,rfl,_,rfl,f,d,fp,t,q,x,rfl,⟨F,W⟩,e3,_,rfl,k⟩
def oW:Order→Bool
 |.stay _=>true
 |.aid _ _=>true
 |_=>false
def AI(P:Program)(w:World)(K:PySem.W.Frag)(a:Adr):Sp:=fun vs H Q _=>∃(f:Addr)(d:Pt)(fp:FPt)(t:Table)(p:Nat)(m:Man),vs=[.ref f,.int p]∧FA P w K a H f d fp t∧manAt (eff t) p=some m∧∀H',aF H H'→Q (.bl (oW m.order)) H'
theorem DE(T:Txt w K mg a):aY P w K mg base CX0 1 a.bS a.j4 ["self","p"] (AI P w K a):=by
 refine T.pW.ok A9 (fun vs H Q E h=>?_) (fun cdv A outer s H vs Q E hr h=>?_)
 ·obtain⟨f,d,fp,t,p,m,rfl,_⟩:=h;rfl
 ·obtain⟨f,d,fp,t,p,m,rfl,⟨F,W⟩,hm,k⟩:=h;have hu:=bE hr;obtain⟨dx,hf⟩:=F.ins;obtain⟨b,hv,hp,ho⟩:=F.order hm;refine⟨_,(aj (au (dJ aa6 (bK dH (bQ hu (ay (pv 0) rfl) (pv 1) (fun _ _=>rfl)) aq (fun _ _=>rfl)) (fW (aa (aX rfl T.Ki T.Kj) (aa (aX rfl T.aav T.aaw) ah))) (by with_unfolding_all rfl)))),?_⟩;obtain⟨n,h0,h1⟩:∃n:Int,(orderNums m.order)[0]?=some n∧decide (n=2∨n=3)=oW m.order:=by cases m.order<;>exact⟨_,rfl,rfl⟩
  refine⟨_,rfl,f,_,dx,_,_,rfl,hf,T.aE,T.cj,G8 d.u fp,_,rfl,fp.o,_,rfl,.inl ⟨_,nK p,F.acP,rfl,hv.symm⟩,b,_,0,.int n,rfl,rfl,ho,bb (i:=0) h0,qK,fun c hc=>⟨c,_,rfl,.inr (SqT.of ae),rfl,rfl,?_⟩⟩;have q:=k _ (aw (o:=.tup [V.int 2,V.int 3]) hc);rw[←h1] at q;have e:inV (.int n) [.int 2,.int 3]=decide (n=2∨n=3):=by
   show ((2:Int)==n||((3:Int)==n||false))=_;rw[Bool.or_false,Bool.eq_iff_iff];simp only[Bool.or_eq_true,beq_iff_eq,decide_eq_true_eq];omega
  show Q (.bl (inV (.int n) [.int 2,.int 3])) _;rw[e];exact q
theorem DF(T:Txt w K mg a):aY P w K mg base CX0 2 a.dX a.vD ["self","p"] (aaP P w K a fun t m=>.bl (apt (eff t) m)):=by
 refine T.FQ.ok Ba (fun vs H Q E h=>?_) (fun cdv A outer s H vs Q E hr h=>?_)
 ·obtain⟨f,d,fp,t,p,m,rfl,_⟩:=h;rfl
 ·obtain⟨f,d,fp,t,p,m,rfl,⟨F,W⟩,hm,k⟩:=h;have hu:=bE hr;obtain⟨dx,hf⟩:=F.ins;obtain⟨b,hv,hp,ho⟩:=F.order hm;have k:Q (.bl (apt (eff t) m)) H:=k;unfold Vbsoaa.apt at k;refine⟨_,(af (aG (i:=2) Ba.nd rfl (Or.inl rfl) (bQ hu (ay (pv 0) rfl) (pv 1) (fun _ _=>rfl)))
   (af (bJ (bh fb (bK dH (pv 2) aq (fun _ _=>rfl)) (aX rfl T.Ki T.Kj) (a0 _)) (aj (au (aT (pv 0) T.aE T.fH (iu T) (hr.mono (by decide)) T.gr .nil aC (aa (bK dH (pv 2) aq (fun _ _=>rfl)) ah)))) aP)
   (aj (au (o6 (dJ fb (bK dH (pv 2) aq (fun _ _=>rfl)) (aX rfl T.aav T.aaw) (a0 _)) (mn (dJ fb (UA hu (ay (pv 0) rfl) (bK dH (pv 2) aq (fun _ _=>rfl)) ⟨rfl,rfl,rfl,rfl⟩) (bK dH (pv 2) aq (fun _ _=>rfl)) (a0 _)))))))),?_⟩
  refine⟨_,rfl,f,_,dx,_,_,rfl,hf,T.aE,T.cj,G8 d.u fp,_,rfl,fp.o,_,rfl,.inl ⟨_,nK p,F.acP,rfl,hv.symm⟩,?_⟩;cases e:m.order with
  |hold=>
   rw[e] at k ho;exact⟨_,rfl,b,_,0,_,rfl,rfl,ho,bb (i:=0) rfl,rfl,_,rfl,aS ⟨_,rfl,b,_,0,_,rfl,rfl,ho,bb (i:=0) rfl,rfl,_,rfl,aS k⟩⟩
  |move q u x=>
   rw[e] at k ho;exact⟨_,rfl,b,_,0,_,rfl,rfl,ho,bb (i:=0) rfl,rfl,_,rfl,aS ⟨_,rfl,b,_,0,_,rfl,rfl,ho,bb (i:=0) rfl,rfl,_,rfl,aS k⟩⟩
  |carry c q=>
   rw[e] at k ho;exact⟨_,rfl,b,_,0,_,rfl,rfl,ho,bb (i:=0) rfl,rfl,_,rfl,aS ⟨_,rfl,b,_,0,_,rfl,rfl,ho,bb (i:=0) rfl,rfl,_,rfl,aS k⟩⟩
  |stay q=>
   rw[e] at k ho;exact⟨_,rfl,b,_,0,_,rfl,rfl,ho,bb (i:=0) rfl,rfl,_,rfl,bq ⟨_,rfl,f,dx,_,rfl,hf,rfl,_,rfl,b,_,1,_,rfl,rfl,ho,bb (i:=1) rfl,f,d,fp,t,q,rfl,⟨F,W⟩,k⟩⟩
  |aid c q=>
   rw[e] at k ho;refine⟨_,rfl,b,_,0,_,rfl,rfl,ho,bb (i:=0) rfl,rfl,_,rfl,aS ⟨_,rfl,b,_,0,_,rfl,rfl,ho,bb (i:=0) rfl,rfl,_,rfl,bq ⟨_,rfl,f,_,dx,_,_,rfl,hf,T.aE,T.aM,eS d.u fp,fp.go,rfl,.inl ⟨_,F.goals⟩,_,rfl,b,_,1,_,rfl,rfl,ho,bb (i:=1) rfl,_,Fd F W c,_,rfl,b,_,2,_,rfl,rfl,ho,bb (i:=2) rfl,(T3 _ q).1,?_⟩⟩⟩;rw[(T3 _ q).2];have ee:decide (((manAt (eff t) c).bind goal)=some q)=((manAt (eff t) c).any fun x=>goal x==some q):=by
    cases manAt (eff t) c with
    |none=>simp
    |some x=>
     show decide (goal x=some q)=(goal x==some q);cases goal x with
     |none=>simp
     |some z=>by_cases y:z=q<;>simp[y]
   rw[ee];exact k
end
end My
end
section
namespace My
open PySem PySem.Spec PyProof.Rows L2
open Vbsoaa (Man Men Order Table orderNums bit linked place manAt kind counts goal into eff byWater way headOn stays apt against cut movers)
section
variable{P:Program}{w:World}{K:PySem.W.Frag}{mg:Str→Option Value}{base:Heap}{a:Adr}{H H' B:Hp}{f dx ud ta:Addr}{d:Pt}{t:Table}{fp:FPt}
theorem XF(F:cW P w K a H f d fp t)(W:Wf t)(p:Nat):kC H fp.go (.int p) (((manAt (eff t) p).bind goal).map nV):=Fd F W p
def ahF(ms:Men)(H:Hp)(ns:List Nat)(Q:VK):Prop:=∀H' r,aF H H'→H r=none→H' r=some (.dK (bZ (eX ms [] ns)))→Q (.ref r) H'
def OY(P:Program)(w:World)(K:PySem.W.Frag)(a:Adr):Sp:=fun vs H Q _=>∃(f l:Addr)(d:Pt)(fp:FPt)(t:Table)(ns:List Nat),vs=[.ref f,.ref l]∧FA P w K a H f d fp t∧H l=some (.lst (ns.map nV))∧ns.length≤100∧ahF (eff t) H ns Q
theorem jH(T:Txt w K mg a):aY P w K mg base CX0 1 a.gF a.xC ["field","provinces"] (OY P w K a):=by
 refine T.gU.ok j2 (fun vs H Q E h=>?_) (fun cdv A outer s H vs Q E hr h=>?_)
 ·obtain⟨f,l,d,fp,t,ns,rfl,_⟩:=h;rfl
 ·obtain⟨f,l,d,fp,t,ns,rfl,⟨F,W⟩,hl,hn,k⟩:=h;have hu:=bE hr;obtain⟨dx,hf⟩:=F.ins;refine⟨_,(af (aG (i:=2) j2.nd rfl (Or.inl rfl) fG)
   (af (mr PassesOwn.never rfl (ja (pv 1)) (bX (i:=3) j2.nd rfl (Or.inl rfl)) (aj (bJ (gZ (k6 hu (pv 3) (ay (pv 0) rfl))) (aj (lT hu (pv 2) (pv 3) sM rfl)) aP)))
   (aj (au (pv 2))))),?_⟩
  refine fun r hr'=>?_;have s0:=aw (o:=.dK []) hr';refine⟨_,rfl,l,rfl,⟨_,SqL.of (s0 _ _ hl)⟩,?_⟩;refine je eW (fun i σ H'=>i≤ns.length∧(∃pv,σ=[some (.ref f),some (.ref l),some (.ref r),pv])∧aF H H'∧H' r=some (.dK (bZ (eX (eff t) [] (ns.take i))))) ⟨Nat.zero_le _,⟨_,rfl⟩,s0,ae⟩ (fun i σ H' p=>SqL.of (p.2.2.1 _ _ hl)) (fun i v σ H' hv p=>?_) (fun σ H' p=>?_)
  ·obtain⟨hi,⟨pv,rfl⟩,sm,hr2⟩:=p;rw[List.getElem?_map] at hv;obtain⟨p,hp,rfl⟩:=Option.map_eq_some_iff.mp hv;have hlt:i<ns.length:=(List.getElem?_eq_some_iff.mp hp).1;have et:ns.take (i+1)=ns.take i++[p]:=by rw[List.take_add_one,hp];rfl
   have e2:=zt (eff t) p (ns.take i) [];rw[←et] at e2;have F1:=F.same sm;refine⟨_,rfl,_,rfl,f,_,dx,_,_,rfl,sm _ _ hf,T.aE,T.aM,eS d.u fp,fp.go,_,rfl,XF F1 W p,_,rfl,?_⟩;rw[sG];have len:(eX (eff t) [] (ns.take i)).length≤i:=by
    have:=DQ (eff t) (ns.take i) [];rw[List.length_take] at this;simp at this;omega
   cases c:((manAt (eff t) p).bind goal).isSome with
   |false=>
    have cm:mvB (eff t) p=false:=c;rw[cm,if_neg (by decide)] at e2;exact aS ⟨hlt,⟨_,rfl⟩,sm,by rw[e2];exact hr2⟩
   |true=>
    have cm:mvB (eff t) p=true:=c;rw[cm,if_pos rfl] at e2;refine bq ⟨_,rfl,_,rfl,r,_,rfl,uU.k (k:=nK p) hr2 (by rw[pL];exact aB (by omega)),hlt,⟨_,rfl⟩,fun b o e=>?_,?_⟩
    ·rw[ab (ai e hr')];exact sm _ _ e
    ·rw[ae,JC,e2]
  ·obtain⟨_,⟨pv,rfl⟩,sm,hr2⟩:=p;rw[List.length_map,List.take_length] at hr2;exact⟨_,rfl,k _ _ sm hr' hr2⟩
def gz(ms:Men):List Nat:=(movers ms).map (·.prov)
theorem fC(ms:Men):(aZ ms).map (fun k=>kV k.1)=(gz ms).map nV:=by
 unfold aZ gz Vbsoaa.movers
 induction ms with
 |nil=>rfl
 |cons m r ih=>
  rw[List.filterMap_cons,List.filter_cons];cases e:goal m with
  |none=>exact ih
  |some q=>exact congrArg (List.cons (nV m.prov)) ih
theorem Mm(ms:Men):(gz ms).length≤ms.length:=by unfold gz Vbsoaa.movers;rw[List.length_map];exact List.length_filter_le _ _
def OZ(P:Program)(w:World)(K:PySem.W.Frag)(a:Adr):Sp:=fun vs H Q _=>∃(f:Addr)(d:Pt)(fp:FPt)(t:Table),vs=[.ref f,.ref fp.go]∧FA P w K a H f d fp t∧Fx H d fp t∧ahF (eff t) H (gz (eff t)) Q
theorem T4(T:Txt w K mg a):aY P w K mg base CX0 1 a.gF a.xC ["field","provinces"] (OZ P w K a):=by
 refine T.gU.ok j2 (fun vs H Q E h=>?_) (fun cdv A outer s H vs Q E hr h=>?_)
 ·obtain⟨f,d,fp,t,rfl,_⟩:=h;rfl
 ·obtain⟨f,d,fp,t,rfl,⟨F,W⟩,fx,k⟩:=h;have ngc:=fx.ngo;have hgo:=fx.go;have hu:=bE hr;obtain⟨dx,hf⟩:=F.ins;generalize hns:gz (eff t)=ns at k;have hn:ns.length≤24:=by rw[←hns];have:=Mm (eff t);have:=W.men;rw[←dg] at this;omega
  refine⟨_,(af (aG (i:=2) j2.nd rfl (Or.inl rfl) fG)
   (af (nP (mr PassesOwn.never rfl (lU (pv 1)) (bX (i:=3) j2.nd rfl (Or.inl rfl)) (aj (bJ (gZ (k6 hu (pv 3) (ay (pv 0) rfl))) (aj (lT hu (pv 2) (pv 3) sM rfl)) aP))))
   (aj (au (pv 2))))),?_⟩
  refine fun r hr'=>?_;have s0:=aw (o:=.dK []) hr';have ngr:fp.go≠r:=ai hgo hr';refine⟨fp.go,_,s0 _ _ hgo,True.intro,fun od=>?_⟩;have F0:cW P w K a (upd (upd H r (.dK [])) fp.go (.frz od (.dK (aZ (eff t))))) f d fp t:=(F.same s0).lock (s0 _ _ hgo) ngc;have g0:upd (upd H r (.dK [])) fp.go (.frz od (.dK (aZ (eff t)))) fp.go=some (.frz od (.dK (aZ (eff t)))):=ae;have r0:upd (upd H r (.dK [])) fp.go (.frz od (.dK (aZ (eff t)))) r=some (.dK []):=by rw[ab (Ne.symm ngr)];exact ae
  refine⟨_,rfl,fp.go,od,rfl,.inl ⟨_,g0,?_⟩⟩;refine je gD (fun i σ H'=>i≤ns.length∧(∃pv,σ=[some (.ref f),some (.ref fp.go),some (.ref r),pv])∧(∀b o,upd H fp.go (.frz od (.dK (aZ (eff t)))) b=some o→H' b=some o)∧H' r=some (.dK (bZ (eX (eff t) [] (ns.take i))))) ⟨Nat.zero_le _,⟨_,rfl⟩,fun b o e=>?_,r0⟩ (fun i σ H' p=>p.2.2.1 _ _ ae) (fun i v σ H' hv p=>?_) (fun σ H' p=>?_)
  ·by_cases z:b=fp.go
   ·subst z;rw[ae] at e⊢;exact e
   ·rw[ab z] at e⊢;rw[ab (ai e hr')];exact e
  ·obtain⟨hi,⟨pv,rfl⟩,sm,hr2⟩:=p;rw[fC,hns,List.getElem?_map] at hv;obtain⟨p,hp,rfl⟩:=Option.map_eq_some_iff.mp hv;have hlt:i<ns.length:=(List.getElem?_eq_some_iff.mp hp).1;have et:ns.take (i+1)=ns.take i++[p]:=by rw[List.take_add_one,hp];rfl
   have e2:=zt (eff t) p (ns.take i) [];rw[←et] at e2;have FL:cW P w K a (upd H fp.go (.frz od (.dK (aZ (eff t))))) f d fp t:=F.lock hgo ngc;have F1:=FL.same sm;obtain⟨dx1,hf1⟩:=F1.ins;refine⟨_,rfl,_,rfl,f,_,dx1,_,_,rfl,hf1,T.aE,T.aM,eS d.u fp,fp.go,_,rfl,XF F1 W p,_,rfl,?_⟩;rw[sG];have len:(eX (eff t) [] (ns.take i)).length≤i:=by
    have:=DQ (eff t) (ns.take i) [];rw[List.length_take] at this;simp at this;omega
   cases c:((manAt (eff t) p).bind goal).isSome with
   |false=>
    have cm:mvB (eff t) p=false:=c;rw[cm,if_neg (by decide)] at e2;exact aS ⟨hlt,⟨_,rfl⟩,sm,by rw[e2];exact hr2⟩
   |true=>
    have cm:mvB (eff t) p=true:=c;rw[cm,if_pos rfl] at e2;refine bq ⟨_,rfl,_,rfl,r,_,rfl,uU.k (k:=nK p) hr2 (by rw[pL];exact aB (by omega)),hlt,⟨_,rfl⟩,fun b o e=>?_,?_⟩
    ·rw[ab (fun z=>by rw[z,ab (Ne.symm ngr),hr'] at e;cases e)];exact sm _ _ e
    ·rw[ae,JC,e2]
  ·obtain⟨_,⟨pv,rfl⟩,sm,hr2⟩:=p;rw[fC,hns,List.length_map,List.take_length] at hr2;refine⟨sm _ _ ae,_,rfl,k _ _ (aF.lk hgo sm) hr' ?_⟩;rw[ab (Ne.symm ngr)];exact hr2
theorem AJ{α:Type}{f g:α→Bool}:∀{l:List α},(∀x∈l,f x=g x)→l.any f=l.any g
 |[],_=>rfl
 |x::l,h=>by rw[List.any_cons,List.any_cons,h x List.mem_cons_self,AJ fun y hy=>h y (List.mem_cons_of_mem _ hy)]
def G9(w c:List Nat)(m x:Man):Bool:=x.power !=m.power&&(way w x&&(against m !=some x.prov||c.contains x.prov))
theorem ajS(ms:Men)(w c:List Nat)(m:Man):cut ms w c m=(into ms m.prov).any (G9 w c m):=rfl
theorem sJ{l:List Nat}{c:Addr}(h:Rd H c (.dK (bZ l)))(p:Nat):∃o,kC H c (.int p) o∧o.isSome=l.contains p:=⟨_,.inl ⟨_,nK p,h,rfl,rfl⟩,Pw l p⟩
def Mn(P:Program)(w:World)(K:PySem.W.Frag)(a:Adr):Sp:=fun vs H Q _=>∃(f c:Addr)(d:Pt)(fp:FPt)(t:Table)(p q:Nat)(m x:Man)(l:List Nat),vs=[.ref f,.ref c,.int q,.int p]∧FA P w K a H f d fp t∧Rd H c (.dK (bZ l))∧
  manAt (eff t) p=some m∧manAt (eff t) q=some x∧oW m.order=true∧Q (.bl (G9 t.water l m x)) H
theorem O0(T:Txt w K mg a):aY P w K mg base CX0 3 a.dU a.rN ["field","told","comer","p"] (Mn P w K a):=by
 refine T.sd.ok yh (fun vs H Q E h=>?_) (fun cdv A outer s H vs Q E hr h=>?_)
 ·obtain⟨f,c,d,fp,t,p,q,m,x,l,rfl,_⟩:=h;rfl
 ·obtain⟨f,c,d,fp,t,p,q,m,x,l,rfl,⟨F,W⟩,hc,hm,hx,hs,k⟩:=h;have hu:=bE hr;obtain⟨dx,hf⟩:=F.ins;obtain⟨b,hv,hp,ho⟩:=F.order hm;have hq:=(eQ hx).2;unfold G9 at k;refine⟨_,(af (bJ (PW.pt (ac9 (bh fb (aT (pv 0) T.aE T.cU (eB T) (hr.mono (by decide)) T.dA .nil aC (aa (pv 2) ah)) (aT (pv 0) T.aE T.cU (eB T) (hr.mono (by decide)) T.dA .nil aC (aa (pv 3) ah)) (a0 _)) (X4 (uE (bY (aT (pv 0) T.aE T.gT (ki T) (hr.mono (by decide)) T.ir .nil aC (aa (pv 2) ah))))))) (aj (au sM)) aP)
   (af (aG (i:=4) yh.nd rfl (Or.inl rfl) (bQ hu (ay (pv 0) rfl) (pv 3) (fun _ _=>rfl)))
   (aj (au (ZP (dJ fb (bK dH (pv 4) aq (fun _ _=>rfl)) (aX rfl T.Ki T.Kj) (a0 _)) (ZP (dJ sN (pv 2) (bK dH (pv 4) aq (fun _ _=>rfl)) (a0 _)) (mn (qS (k6 hu (pv 2) (pv 1)))))))))),?_⟩
  refine⟨_,rfl,f,dx,_,rfl,hf,rfl,_,rfl,f,d,fp,t,q,x,rfl,⟨F,W⟩,hx,_,rfl,f,dx,_,rfl,hf,rfl,_,rfl,f,d,fp,t,p,m,rfl,⟨F,W⟩,hm,rfl,_,rfl,?_⟩;rw[TV];by_cases c1:x.power=m.power
  ·rw[show decide ((x.power:Int)=(m.power:Int))=true from decide_eq_true (by omega)];rw[show (x.power !=m.power)=false by simp[c1],Bool.false_and] at k;exact bq (bq k)
  ·rw[show decide ((x.power:Int)=(m.power:Int))=false from decide_eq_false (by omega)];rw[show (x.power !=m.power)=true by simpa using c1,Bool.true_and] at k;refine aS ⟨_,rfl,f,dx,_,rfl,hf,rfl,_,rfl,f,d,fp,t,q,x,rfl,⟨F,W⟩,hx,_,rfl,?_⟩;cases e2:way t.water x with
   |false=>
    rw[e2,Bool.false_and] at k;exact bq k
   |true=>
    rw[e2,Bool.true_and] at k;refine aS ⟨_,rfl,f,_,dx,_,_,rfl,hf,T.aE,T.cj,G8 d.u fp,_,rfl,fp.o,_,rfl,.inl ⟨_,nK p,F.acP,rfl,hv.symm⟩,?_⟩;cases eo:m.order with
    |stay z=>
     rw[eo] at ho;have ag:(against m !=some x.prov)=true:=by unfold Vbsoaa.against;rw[eo];rfl
     rw[ag,Bool.true_or] at k;exact⟨_,rfl,b,_,0,_,rfl,rfl,ho,bb (i:=0) rfl,rfl,_,rfl,bq k⟩
    |aid z y=>
     rw[eo] at ho;refine⟨_,rfl,b,_,0,_,rfl,rfl,ho,bb (i:=0) rfl,rfl,_,rfl,aS ⟨_,rfl,_,rfl,b,_,2,_,rfl,rfl,ho,bb (i:=2) rfl,rfl,_,rfl,?_⟩⟩;rw[vne];have ag:(against m !=some x.prov)=decide ((q:Int)≠(y:Int)):=by
      unfold Vbsoaa.against;rw[eo,hq];by_cases z:q=y
      ·subst z;simp
      ·rw[decide_eq_true (by omega)];simp;exact Ne.symm z
     rw[ag,hq] at k;cases e3:decide ((q:Int)≠(y:Int)) with
     |true=>rw[e3,Bool.true_or] at k;exact bq k
     |false=>
      rw[e3,Bool.false_or] at k;obtain⟨oo,g,ge⟩:=sJ hc q;refine aS ⟨_,rfl,_,rfl,c,oo,rfl,g,?_⟩;rw[ge];exact k
    |hold=>rw[eo] at hs;cases hs
    |move _ _ _=>rw[eo] at hs;cases hs
    |carry _ _=>rw[eo] at hs;cases hs
theorem Mo{ms:Men}{p:Nat}{x:Man}(h:x∈into ms p):x∈ms:=by
 unfold Vbsoaa.into at h;exact(List.mem_filter.mp h).1
theorem XG{ms:Men}(nd:(ms.map (·.prov)).Nodup){p q:Nat}(h:q∈di ms p):∃x,x∈into ms p∧manAt ms q=some x:=by
 unfold di at h;obtain⟨x,hx,rfl⟩:=List.mem_map.mp h;exact⟨x,hx,cB nd (Mo hx)⟩
theorem XH(F:cW P w K a H f d fp t)(p:Nat){z:Addr}(hz:H z=some (.lst [])):∃o c,kC H fp.co (.int p) o∧o.getD (.ref z)=.ref c∧H c=some (.lst ((di (eff t) p).map nV)):=by
 rcases F.cok p with⟨e,e2⟩|⟨c,e,hc⟩
 ·exact⟨none,z,.inl ⟨_,nK p,.inl F.com,rfl,e.symm⟩,rfl,by rw[e2];exact hz⟩
 ·exact⟨some (.ref c),c,.inl ⟨_,nK p,.inl F.com,rfl,e.symm⟩,rfl,hc⟩
theorem Fe(ms:Men)(q:Nat):(di ms q).length≤ms.length:=by unfold di Vbsoaa.into;rw[List.length_map];exact List.length_filter_le _ _
def ZD(P:Program)(w:World)(K:PySem.W.Frag)(a:Adr):Sp:=fun vs H Q _=>∃(f c:Addr)(d:Pt)(fp:FPt)(t:Table)(p:Nat)(m:Man)(l:List Nat),vs=[.ref f,.ref c,.int p]∧FA P w K a H f d fp t∧Rd H c (.dK (bZ l))∧
  manAt (eff t) p=some m∧oW m.order=true∧∀H',aF H H'→Q (.bl (cut (eff t) t.water l m)) H'
theorem acR(T:Txt w K mg a):aY P w K mg base CX0 4 a.kG a.JR ["field","told","p"] (ZD P w K a):=by
 refine T.J6.ok D1 (fun vs H Q E h=>?_) (fun cdv A outer s H vs Q E hr h=>?_)
 ·obtain⟨f,c,d,fp,t,p,m,l,rfl,_⟩:=h;rfl
 ·obtain⟨f,c,d,fp,t,p,m,l,rfl,⟨F,W⟩,hc,hm,hs,k⟩:=h;have hu:=bE hr;obtain⟨dx,hf⟩:=F.ins;have mp:=(eQ hm).2;have el:=Fe (eff t) p;have e24:(eff t).length≤24:=by rw[dg];exact W.men
  refine⟨_,(aj (au (aV (Yg rfl) rfl T.aaq YB (aa (sO (own:=[("comer",3)]) rfl D1.nd (ja (UB hu (ay (pv 0) rfl) (pv 2) (bf ah) ⟨rfl,rfl,rfl,rfl⟩)) (show ku ["field","told","p","comer"] (ao A4) _ [("comer",3)] from⟨rfl,by decide+kernel,by decide+kernel,by decide+kernel,by decide+kernel⟩) (fun _ _ _ _ _=>(bX (i:=3) D1.nd rfl (Or.inl rfl))) (fun _ _ _ _ _=>IV) (fun _ _ _ _ _=>(aH (O0 (P:=P) (base:=base) T) (hr.mono (show 3≤3 by decide)) rfl T.Bk T.sd.kp T.Bl .nil aC (aa (pv 0) (aa (pv 1) (aa (pv 3) (aa (pv 2) ah))))))) ah)))),?_⟩;refine⟨_,rfl,f,_,dx,_,_,rfl,hf,T.aE,T.e7,T2 d.u fp,fp.co,rfl,.inl ⟨_,.inl F.com⟩,_,rfl,(by decide),fun z hz=>?_⟩;have s0:=aw (o:=.lst []) hz;have F0:=F.same s0;obtain⟨o,lc,g,ge,hl⟩:=XH F0 p (z:=z) ae;refine⟨o,g,lc,ge,⟨_,SqL.of hl⟩,fun D hD=>?_⟩;generalize upd H z (.lst [])=H0 at s0 F0 hl hD g⊢;refine gE eW (fun H1 s1=>SqL.of (s1 _ _ hl)) hD (fun _=>true) (fun v y _=>∃q x,v=.int (q:Nat)∧manAt (eff t) q=some x∧y=.bl (G9 t.water l m x)) (fun _ _ _ _ h _=>h) (by rw[List.length_map];exact aB (by omega)) (fun i v H1 hx s1 N Y hN hY=>?_) (fun H1 ys s1 hy pr=>?_)
  ·rw[List.getElem?_map] at hx;obtain⟨q,hq,rfl⟩:=Option.map_eq_some_iff.mp hx;obtain⟨x,_,hmx⟩:=XG (bI W) (List.mem_of_getElem? hq);exact⟨rfl,_,rfl,_,rfl,_,rfl,_,rfl,f,c,d,fp,t,p,q,m,x,l,rfl,⟨F0.same s1,W⟩,cD (cD hc s0) s1,hm,hmx,hs,hY _ _ aF.dw rfl ⟨q,x,rfl,hmx,rfl⟩⟩
  ·have key:∀{qs:List Nat}{zs:List V},(∀q∈qs,q∈di (eff t) p)→Paired (fun v y=>∃q x,v=.int (q:Nat)∧manAt (eff t) q=some x∧y=V.bl (G9 t.water l m x)) (qs.map nV) zs→∃bs:List Bool,zs=bs.map V.bl∧bs.any id=qs.any fun q=>(manAt (eff t) q).any (G9 t.water l m):=by
    intro qs
    induction qs with
    |nil=>intro zs _ pr;cases pr;exact⟨[],rfl,rfl⟩
    |cons q qs ih=>
     intro zs hin pr;cases pr with
     |cons r pr=>
      obtain⟨q',x,e1,hx,e2⟩:=r;have e1:q=q':=by unfold nV at e1;injection e1 with e1;exact Int.ofNat.inj e1
      obtain⟨bs,hb1,hb2⟩:=ih (fun y hy=>hin y (List.mem_cons_of_mem _ hy)) pr;refine⟨G9 t.water l m x::bs,by rw[List.map_cons,←hb1,e2],?_⟩;rw[List.any_cons,List.any_cons,hb2,e1,hx];rfl
   have pr':Paired (fun v y=>∃q x,v=.int (q:Nat)∧manAt (eff t) q=some x∧y=V.bl (G9 t.water l m x)) ((di (eff t) p).map nV) ys:=by
    have:((di (eff t) p).map nV).filter (fun _=>true)=(di (eff t) p).map nV:=List.filter_eq_self.mpr (fun _ _=>rfl);rw[this] at pr;exact pr
   obtain⟨bs,hb1,hb2⟩:=key (fun q h=>h) pr';rw[hb1] at hy;refine⟨D,bs,rfl,SqL.of hy,?_⟩;have e:bs.any id=cut (eff t) t.water l m:=by
    rw[hb2,ajS,mp];unfold di;rw[List.any_map];apply AJ;intro x hx;show (manAt (eff t) x.prov).any _=_;rw[cB (bI W) (Mo hx)];rfl
   rw[e];exact k _ (s0.trans s1)
def qN(ms:Men)(w c:List Nat):List Nat:=(ms.filter fun m=>oW m.order&&cut ms w c m).map (·.prov)
theorem xH{ms:Men}{as:List Addr}(h:as.length=ms.length):(g8 ms as).map (fun k=>kV k.1)=(ms.map (·.prov)).map nV:=by
 unfold g8;rw[List.map_map,List.map_map];have e:ms.map (nV∘fun m=>m.prov)=((ms.zip as).map Prod.fst).map (nV∘fun m=>m.prov):=by rw[List.map_fst_zip (by omega)]
 rw[e,List.map_map];rfl
theorem Mp{l:List Nat}{p:Nat}(h:p∉l):putK (bZ l) (nK p) (.bl true)=bZ (l++[p]):=by
 rw[JC,if_neg (fun z=>h (contains_iff.mp z))]
theorem Mq{ms:Men}{g:Man→Bool}{p:Nat}(h:p∈(ms.filter g).map (·.prov)):p∈ms.map (·.prov):=by
 obtain⟨m,hm,e⟩:=List.mem_map.mp h;exact List.mem_map.mpr ⟨m,(List.mem_filter.mp hm).1,e⟩
def Ff(P:Program)(w:World)(K:PySem.W.Frag)(a:Adr):Sp:=fun vs H Q _=>∃(f c:Addr)(d:Pt)(fp:FPt)(t:Table)(l:List Nat),vs=[.ref f,.ref c]∧FA P w K a H f d fp t∧Fx H d fp t∧Rd H c (.dK (bZ l))∧
  ∀H' r,aF H H'→H r=none→H' r=some (.dK (bZ (qN (eff t) t.water l)))→Q (.ref r) H'
theorem lH(T:Txt w K mg a):aY P w K mg base CX0 5 a.cP a.mP ["field","told"] (Ff P w K a):=by
 refine T.gp.ok lh (fun vs H Q E h=>?_) (fun cdv A outer s H vs Q E hr h=>?_)
 ·obtain⟨f,c,d,fp,t,l,rfl,_⟩:=h;rfl
 ·obtain⟨f,c,d,fp,t,l,rfl,⟨F,W⟩,fx,hc,k⟩:=h;have hu:=bE hr;have ngc:=fx.no;have hgo:=fx.o;have e24:(eff t).length≤24:=by rw[dg];exact W.men
  refine⟨_,(af (aG (i:=2) lh.nd rfl (Or.inl rfl) fG)
   (af (nP (mr PassesOwn.never rfl (lU (ay (pv 0) rfl)) (bX (i:=3) lh.nd rfl (Or.inl rfl)) (aj (bJ (PW.pt (jQ (bY (aT (pv 0) T.aE T.oA (DE T) (hr.mono (by decide)) T.pX .nil aC (aa (pv 3) ah))) (i9 (bY (aH (acR T) (hr.mono (by decide)) rfl T.Vc T.J6.kp T.Vd .nil aC (aa (pv 0) (aa (pv 1) (aa (pv 3) ah)))))))) (aj (lT hu (pv 2) (pv 3) sM rfl)) aP))))
   (aj (au (pv 2))))),?_⟩
  refine fun r hr'=>?_;have s0:=aw (o:=.dK []) hr';have ngr:fp.o≠r:=ai hgo hr';refine⟨fp.o,_,s0 _ _ hgo,True.intro,fun od=>?_⟩;have FL:cW P w K a (upd H fp.o (.frz od (.dK (g8 (eff t) fp.oa)))) f d fp t:=F.lock hgo ngc;have hcL:Rd (upd H fp.o (.frz od (.dK (g8 (eff t) fp.oa)))) c (.dK (bZ l)):=oV hc (fun _ _ z=>nomatch z) hgo;have g0:upd (upd H r (.dK [])) fp.o (.frz od (.dK (g8 (eff t) fp.oa))) fp.o=some (.frz od (.dK (g8 (eff t) fp.oa))):=ae;have r0:upd (upd H r (.dK [])) fp.o (.frz od (.dK (g8 (eff t) fp.oa))) r=some (.dK []):=by rw[ab (Ne.symm ngr)];exact ae
  have sL:aF (upd H fp.o (.frz od (.dK (g8 (eff t) fp.oa)))) (upd (upd H r (.dK [])) fp.o (.frz od (.dK (g8 (eff t) fp.oa)))):=fun b o e=>by
   by_cases z:b=fp.o
   ·subst z;rw[ae] at e⊢;exact e
   ·rw[ab z] at e⊢;rw[ab (ai e hr')];exact e
  have rL:upd H fp.o (.frz od (.dK (g8 (eff t) fp.oa))) r=none:=by rw[ab (Ne.symm ngr)];exact hr'
  have gL:upd H fp.o (.frz od (.dK (g8 (eff t) fp.oa))) fp.o=some (.frz od (.dK (g8 (eff t) fp.oa))):=ae;generalize hB:upd H fp.o (.frz od (.dK (g8 (eff t) fp.oa)))=B at FL hcL sL rL gL;generalize upd (upd H r (.dK [])) fp.o (.frz od (.dK (g8 (eff t) fp.oa)))=H1 at g0 r0 sL⊢;obtain⟨dx,hf⟩:=FL.ins;refine⟨_,rfl,f,_,dx,_,_,rfl,sL _ _ hf,T.aE,T.cj,G8 d.u fp,fp.o,od,rfl,.inl ⟨_,g0,?_⟩⟩;refine je gD (fun i σ H'=>i≤(eff t).length∧(∃pv,σ=[some (.ref f),some (.ref c),some (.ref r),pv])∧aF B H'∧H' r=some (.dK (bZ ((((eff t).take i).filter fun m=>oW m.order&&cut (eff t) t.water l m).map (·.prov))))) ⟨Nat.zero_le _,⟨_,rfl⟩,sL,r0⟩ (fun i σ H' p=>p.2.2.1 _ _ gL) (fun i v σ H' hv p=>?_) (fun σ H' p=>?_)
  ·obtain⟨hi,⟨pv,rfl⟩,sm,hr2⟩:=p;rw[xH F.agX,List.getElem?_map,List.getElem?_map] at hv;obtain⟨p,hp,rfl⟩:=Option.map_eq_some_iff.mp hv;obtain⟨m,hm,rfl⟩:=Option.map_eq_some_iff.mp hp;have hlt:i<(eff t).length:=(List.getElem?_eq_some_iff.mp hm).1;have et:(eff t).take (i+1)=(eff t).take i++[m]:=by rw[List.take_add_one,hm];rfl
   have hma:manAt (eff t) m.prov=some m:=cB (bI W) (List.mem_of_getElem? hm);have F1:=FL.same sm;obtain⟨dx1,hf1⟩:=F1.ins;have nw:=xi (bI W) hm;have len:((((eff t).take i).filter fun m=>oW m.order&&cut (eff t) t.water l m).map (·.prov)).length≤24:=by
    rw[List.length_map];have:=List.length_filter_le (fun m=>oW m.order&&cut (eff t) t.water l m) ((eff t).take i);rw[List.length_take] at this;omega
   refine⟨_,rfl,f,dx1,_,rfl,hf1,rfl,_,rfl,f,d,fp,t,m.prov,m,rfl,⟨F1,W⟩,hma,fun H2 s2=>⟨_,rfl,?_⟩⟩;rw[et,List.filter_append,List.map_append];cases e1:oW m.order with
   |false=>
    refine aS (aS ⟨hlt,⟨_,rfl⟩,sm.trans s2,?_⟩);rw[List.filter_cons,e1]
    simpa using s2 _ _ hr2
   |true=>
    refine bq ⟨_,rfl,_,rfl,_,rfl,f,c,d,fp,t,m.prov,m,l,rfl,⟨F1.same s2,W⟩,cD (cD hcL sm) s2,hma,e1,fun H3 s3=>⟨_,rfl,?_⟩⟩;have s23:=s2.trans s3;cases e2:cut (eff t) t.water l m with
    |false=>
     refine aS ⟨hlt,⟨_,rfl⟩,sm.trans s23,?_⟩;rw[List.filter_cons,e1,e2]
     simpa using s23 _ _ hr2
    |true=>
     refine bq ⟨_,rfl,_,rfl,r,_,rfl,uU.k (k:=nK m.prov) (s23 _ _ hr2) (by rw[pL];exact aB (by omega)),hlt,⟨_,rfl⟩,fun b o e=>?_,?_⟩
     ·rw[ab (ai e rL)];exact s23 _ _ (sm _ _ e)
     ·rw[ae,Mp (fun z=>nw (Mq z)),List.filter_cons,e1,e2];rfl
  ·obtain⟨_,⟨pv,rfl⟩,sm,hr2⟩:=p;rw[xH F.agX,List.length_map,List.length_map,List.take_length] at hr2;refine⟨sm _ _ gL,_,rfl,k _ _ (aF.lk hgo (by rw[hB];exact sm)) hr' ?_⟩;rw[ab (Ne.symm ngr)];exact hr2
end
end My
end
section
namespace My
open PySem PySem.Spec PyProof.Rows L2
open Vbsoaa (Man Men Order Table orderNums bit manAt goal into eff byWater way headOn stays cut isAid isStay left_)
structure RPt where
 f:Addr
 tl:Addr
 ct:Addr
 d:Pt
 fp:FPt
 l:List Nat
 c:List Nat
def rfs(rp:RPt):List (Str×V):=[("field",.ref rp.f),("told",.ref rp.tl),("cut",.ref rp.ct)]
structure RkR(P:Program)(w:World)(K:PySem.W.Frag)(a:Adr)(H:Hp)(r:Addr)(rp:RPt)(t:Table):Prop where
 ins:∃dx,H r=some (.ins a.az dx (rfs rp))
 fld:cW P w K a H rp.f rp.d rp.fp t
 told:Rd H rp.tl (.dK (bZ rp.l))
 cuts:Rd H rp.ct (.dK (bZ (qN (eff t) t.water rp.c)))
 mv:∀p∈rp.l,mvB (eff t) p=true
 wf:Wf t
section
variable{P:Program}{w:World}{K:PySem.W.Frag}{mg:Str→Option Value}{base:Heap}{a:Adr}{H H' B:Hp}{r:Addr}{rp:RPt}{t:Table}
theorem RkR.same(R:RkR P w K a H r rp t)(s:aF H H'):RkR P w K a H' r rp t:=⟨let ⟨dx,h⟩:=R.ins;⟨dx,s _ _ h⟩,R.fld.same s,cD R.told s,cD R.cuts s,R.mv,R.wf⟩
def AK(P:Program)(w:World)(K:PySem.W.Frag)(a:Adr):Sp:=fun vs H Q _=>∃(x dx:Addr)(rp:RPt),vs=[.ref x,.ref rp.f,.ref rp.tl,.ref rp.ct]∧H x=some (.ins a.az dx [])∧Q .non (upd H x (.ins a.az dx (rfs rp)))
theorem jI(T:Txt w K mg a):aY P w K mg base CX0 1 a.bU a.j6 ["self","field","told","cut"] (AK P w K a):=by
 refine T.pZ.ok Bc (fun vs H Q E h=>?_) (fun cdv A outer s H vs Q E hr h=>?_)
 ·obtain⟨x,dx,rp,rfl,_⟩:=h;rfl
 ·obtain⟨x,dx,rp,rfl,hx,q⟩:=h;refine⟨_,(af (fq (pv 0) (pv 1) rfl)
   (af (fq (pv 0) (pv 2) rfl)
   (aj (fq (pv 0) (pv 3) rfl)))),?_⟩
  refine⟨_,rfl,_,rfl,x,_,dx,_,rfl,hx,T.aA,T.aN,(by decide),?_⟩;refine⟨_,rfl,_,rfl,x,_,dx,_,rfl,ae,T.aA,T.e8,(by show 1<1000;decide),?_⟩;refine⟨_,rfl,_,rfl,x,_,dx,_,rfl,ae,T.aA,T.lC,(by show 2<1000;decide),?_⟩;rw[ko,ko];exact q
def XI(ms:Men)(w c:List Nat)(ns:List Int):List Nat:=(cH ms ns).filter fun p=>!(qN ms w c).contains p
theorem oX(rp:RPt):(rfs rp).lookup ("field":Str)=some (.ref rp.f):=by unfold rfs;rfl
theorem aft(rp:RPt):(rfs rp).lookup ("told":Str)=some (.ref rp.tl):=by unfold rfs;rfl
theorem amk(rp:RPt):(rfs rp).lookup ("cut":Str)=some (.ref rp.ct):=by unfold rfs;rfl
theorem Ha(ms:Men)(ns:List Int):(cH ms ns).length≤ms.length:=by unfold cH;rw[List.length_map];exact List.length_filter_le _ _
theorem eT(l:List Nat)(g:Nat→Bool)(pf:V→Bool)(h:∀n,pf (nV n)=g n):(l.map nV).filter pf=(l.filter g).map nV:=by
 induction l with
 |nil=>rfl
 |cons x r ih=>
  rw[List.map_cons,List.filter_cons,List.filter_cons,h];cases g x with
  |true=>rw[if_pos rfl,if_pos rfl,List.map_cons,ih]
  |false=>rw[if_neg (by decide),if_neg (by decide),ih]
theorem i7:∀{xs ys:List V},Paired (fun x y=>y=x) xs ys→ys=xs
 |_,_,.nil=>rfl
 |_,_,.cons r t=>by rw[r,i7 t]
def onN(g:Nat→Bool):V→Bool
 |.int i=>g i.toNat
 |_=>false
theorem gA(g:Nat→Bool)(n:Nat):onN g (nV n)=g n:=rfl
def ye(P:Program)(w:World)(K:PySem.W.Frag)(a:Adr):Sp:=fun vs H Q _=>∃(r o:Addr)(rp:RPt)(t:Table)(ns:List Int),vs=[.ref r,.ref o]∧RkR P w K a H r rp t∧SqT K H o (ns.map V.int)∧
  ∀H' l,aF H H'→H' l=some (.lst ((XI (eff t) t.water rp.c ns).map nV))→Q (.ref l) H'
theorem nI(T:Txt w K mg a):aY P w K mg base CX0 1 a.bF a.jn ["self","order"] (ye P w K a):=by
 refine T.oB.ok iz (fun vs H Q E h=>?_) (fun cdv A outer s H vs Q E hr h=>?_)
 ·obtain⟨r,o,rp,t,ns,rfl,_⟩:=h;rfl
 ·obtain⟨r,o,rp,t,ns,rfl,R,ho,k⟩:=h;have hu:=bE hr;obtain⟨dx,hi⟩:=R.ins;obtain⟨fx,hf⟩:=R.fld.ins;have e24:(eff t).length≤24:=by rw[dg];exact R.wf.men
  have el:=Ha (eff t) ns;refine⟨_,(aj (au (sO (own:=[("p",2)]) rfl iz.nd (ja (UQ hu (ay (ay (pv 0) rfl) rfl) (pv 1) (bf ah) ⟨rfl,rfl,rfl,rfl⟩)) (show ku ["self","order","p"] (ao fS) _ [("p",2)] from⟨rfl,by decide+kernel,by decide+kernel,by decide+kernel,by decide+kernel⟩) (fun _ _ _ _ _=>(bX (i:=2) iz.nd rfl (Or.inl rfl))) (by intro _ _ _ _ _;exact(lS (gZ (iO hu (pv 2) (A0 K (pv 0) rfl))))) (by intro _ _ _ _ _;exact(pv 2))))),?_⟩;refine⟨_,rfl,r,_,dx,_,_,rfl,hi,T.aA,T.aN,oX rp,rp.f,_,fx,_,_,rfl,hf,T.aE,T.iq,afl _ _,rp.fp.g,_,rfl,R.fld.given,_,rfl,(by decide),fun z hz=>?_⟩;have s0:=aw (o:=.lst []) hz;have R0:=R.same s0;obtain⟨lc,ge,hl⟩:∃lc,(aR rp.fp.gk (iK ns)).getD (.ref z)=.ref lc∧upd H z (.lst []) lc=some (.lst ((cH (eff t) ns).map nV)):=by
   rcases R0.fld.gok ns with⟨e,e2⟩|⟨c,e,hc⟩
   ·exact⟨z,by rw[e];rfl,by rw[e2];exact ae⟩
   ·exact⟨c,by rw[e];rfl,hc⟩
  refine⟨rp.fp.gk,iK ns,o,R0.fld.given,rfl,by rw[ajP];exact nH ho s0,lc,ge,⟨_,SqL.of hl⟩,fun D hD=>?_⟩;generalize upd H z (.lst [])=H0 at s0 R0 hl hD⊢;refine gE eW (fun H1 s1=>SqL.of (s1 _ _ hl)) hD (onN fun p=>!(qN (eff t) t.water rp.c).contains p) (fun x y _=>y=x) (fun _ _ _ _ h _=>h) (by rw[List.length_map];exact aB (by omega)) (fun i v H1 hx s1 N Y hN hY=>?_) (fun H1 ys s1 hy pr=>?_)
  ·rw[List.getElem?_map] at hx;obtain⟨q,hq,rfl⟩:=Option.map_eq_some_iff.mp hx;have R1:=R0.same s1;obtain⟨dx1,hi1⟩:=R1.ins;obtain⟨oo,g,gs⟩:=sJ R1.cuts q;refine⟨rfl,_,rfl,_,rfl,r,_,dx1,_,_,rfl,hi1,T.aA,T.lC,amk rp,rp.ct,oo,rfl,g,_,rfl,?_⟩;rw[gs];cases e:(qN (eff t) t.water rp.c).contains q with
   |true=>exact aS (hN _ aF.dw (by rw[gA,e];rfl))
   |false=>exact bq ⟨_,rfl,hY _ _ aF.dw (by rw[gA,e];rfl) rfl⟩
  ·have e:=i7 pr;rw[eT _ _ _ (gA _)] at e;rw[e] at hy;exact k _ _ (s0.trans s1) hy
end
end My
end
section
namespace My
open PySem PySem.Spec PyProof.Rows L2
open Vbsoaa (Man Men Order Table orderNums bit manAt goal into eff byWater way headOn stays cut isAid isStay left_ helpers stayers attack prevent hold wall goes defend)
section
variable{P:Program}{w:World}{K:PySem.W.Frag}{mg:Str→Option Value}{base:Heap}{a:Adr}{H H' B:Hp}{r:Addr}{rp:RPt}{t:Table}
theorem uniq{ms:Men}(nd:(ms.map (·.prov)).Nodup){x y:Man}(hx:x∈ms)(hy:y∈ms)(e:x.prov=y.prov):x=y:=by
 have h1:=cB nd hx;have h2:=cB nd hy;rw[e,h2] at h1;exact(Option.some.inj h1).symm
theorem aaQ{ms:Men}(nd:(ms.map (·.prov)).Nodup)(g:Man→Bool){x:Man}(hx:x∈ms):((ms.filter g).map (·.prov)).contains x.prov=g x:=by
 rw[Bool.eq_iff_iff,contains_iff];constructor
 ·intro h;obtain⟨y,hy,e⟩:=List.mem_map.mp h;obtain⟨h1,h2⟩:=List.mem_filter.mp hy;rw[uniq nd hx h1 e.symm];exact h2
 ·intro h;exact List.mem_map.mpr ⟨x,List.mem_filter.mpr ⟨hx,h⟩,rfl⟩
theorem free_eq{ms:Men}(nd:(ms.map (·.prov)).Nodup)(w c:List Nat)(ns:List Int)(g:Order→Bool)(h:∀o,decide (orderNums o=ns)=g o)(hs:∀o,g o=true→oW o=true):XI ms w c ns=(ms.filter fun x=>g x.order&&!cut ms w c x).map (·.prov):=by
 unfold XI cH;rw[List.filter_map,List.filter_filter];congr 1;apply List.filter_congr;intro x hx;show (!(qN ms w c).contains x.prov&&decide (orderNums x.order=ns))=_;unfold qN;rw[aaQ nd _ hx,h,Bool.and_comm];cases e:g x.order with
 |false=>rfl
 |true=>simp[hs _ e]
theorem afu(b q:Nat)(o:Order):decide (orderNums o=[3,(b:Int),(q:Int),0])=isAid b q o:=by
 cases o with
 |aid x y=>
  show decide ([3,(x:Int),(y:Int),0]=[3,(b:Int),(q:Int),0])=(x==b&&y==q);rw[Bool.eq_iff_iff];simp only[decide_eq_true_eq,Bool.and_eq_true,beq_iff_eq,List.cons.injEq,true_and,and_true];omega
 |hold=>exact decide_eq_false (by intro z;injection z with z;omega)
 |move _ _ _=>exact decide_eq_false (by intro z;injection z with z;omega)
 |stay _=>exact decide_eq_false (by intro z;injection z with z;omega)
 |carry _ _=>exact decide_eq_false (by intro z;injection z with z;omega)
theorem acS(b:Nat)(o:Order):decide (orderNums o=[2,(b:Int),0,0])=isStay b o:=by
 cases o with
 |stay x=>
  show decide ([2,(x:Int),0,0]=[2,(b:Int),0,0])=(x==b);rw[Bool.eq_iff_iff];simp only[decide_eq_true_eq,beq_iff_eq,List.cons.injEq,true_and,and_true];omega
 |hold=>exact decide_eq_false (by intro z;injection z with z;omega)
 |move _ _ _=>exact decide_eq_false (by intro z;injection z with z;omega)
 |aid _ _=>exact decide_eq_false (by intro z;injection z with z;omega)
 |carry _ _=>exact decide_eq_false (by intro z;injection z with z;omega)
def hL(ms:Men)(w c:List Nat)(m:Man)(q:Nat):List Nat:=(helpers ms w c m q).map (·.prov)
theorem afv{ms:Men}(nd:(ms.map (·.prov)).Nodup)(w c:List Nat)(m:Man)(q:Nat):XI ms w c [3,(m.prov:Int),(q:Int),0]=hL ms w c m q:=
 free_eq nd w c _ (isAid m.prov q) (afu _ _) (fun o h=>by cases o<;>first|rfl|cases h)
theorem acT{ms:Men}(nd:(ms.map (·.prov)).Nodup)(w c:List Nat)(m:Man):XI ms w c [2,(m.prov:Int),0,0]=(stayers ms w c m).map (·.prov):=
 free_eq nd w c _ (isStay m.prov) (acS _) (fun o h=>by cases o<;>first|rfl|cases h)
def acU(P:Program)(w:World)(K:PySem.W.Frag)(a:Adr)(val:RPt→Table→Man→Nat→V):Sp:=fun vs H Q _=>∃(r:Addr)(rp:RPt)(t:Table)(p q:Nat)(m:Man),vs=[.ref r,.int p]∧RkR P w K a H r rp t∧manAt (eff t) p=some m∧goal m=some q∧∀H',aF H H'→Q (val rp t m q) H'
theorem jJ(W:Wf t){p q:Nat}{m:Man}(hm:manAt (eff t) p=some m)(hq:goal m=some q):aR (aZ (eff t)) (nK p)=some (nV q):=by rw[qM (bI W),hm,Option.bind_some,hq];rfl
def Mr(P:Program)(w:World)(K:PySem.W.Frag)(a:Adr):Sp:=fun vs H Q _=>∃(r:Addr)(rp:RPt)(t:Table)(p q:Nat)(m:Man),vs=[.ref r,.int p]∧RkR P w K a H r rp t∧manAt (eff t) p=some m∧goal m=some q∧
  ∀H' l,aF H H'→H' l=some (.lst ((hL (eff t) t.water rp.c m q).map nV))→Q (.ref l) H'
theorem eD(T:Txt w K mg a):aY P w K mg base CX0 2 a.br a.hJ ["self","p"] (Mr P w K a):=by
 refine T.lI.ok vp (fun vs H Q E h=>?_) (fun cdv A outer s H vs Q E hr h=>?_)
 ·obtain⟨r,rp,t,p,q,m,rfl,_⟩:=h;rfl
 ·obtain⟨r,rp,t,p,q,m,rfl,R,hm,hq,k⟩:=h;have hu:=bE hr;obtain⟨dx,hi⟩:=R.ins;obtain⟨fx,hf⟩:=R.fld.ins;have mp:=(eQ hm).2;refine⟨_,(aj (au (aT (pv 0) T.aA T.iE (nI T) (hr.mono (by decide)) T.ju .nil aC (aa (fW (aa (aX rfl T.aav T.aaw) (aa (pv 1) (aa (bQ hu (ay (ay (pv 0) rfl) rfl) (pv 1) (fun _ _=>rfl)) (aa aq ah))))) ah)))),?_⟩;refine⟨_,rfl,r,dx,_,rfl,hi,rfl,_,rfl,_,rfl,r,_,dx,_,_,rfl,hi,T.aA,T.aN,oX rp,rp.f,_,fx,_,_,rfl,hf,T.aE,T.aM,eS _ _,_,rfl,rp.fp.go,_,rfl,.inl ⟨_,nK p,R.fld.goals,rfl,(jJ R.wf hm hq).symm⟩,aB.le (by simp),fun c hc=>?_⟩;have s0:=aw (o:=.tup [V.int 3,V.int p,nV q,V.int 0]) hc;refine⟨r,c,rp,t,[3,(p:Int),(q:Int),0],rfl,R.same s0,SqT.of ae,fun H1 l s1 hl=>k _ _ (s0.trans s1) ?_⟩;subst mp;rw[afv (bI R.wf)] at hl;exact hl
theorem XJ(F:cW P w K a H rp.f rp.d rp.fp t)(q:Nat):∃o,kC H rp.d.u (.int q) o∧o.isSome=(manAt (eff t) q).isSome:=
 ⟨_,.inl ⟨_,nK q,F.units,rfl,rfl⟩,by rw[dM F.agW,i6,sG]⟩
def zb(ms:Men)(l:List Nat)(m:Man)(q:Nat):Bool:=match manAt ms q with
 |none=>true
 |some x=>left_ l x&&!headOn m x
theorem Fg{ms:Men}{l:List Nat}(mv:∀p∈l,mvB ms p=true){q:Nat}{x:Man}(h:manAt ms q=some x):l.contains q=left_ l x:=by
 unfold Vbsoaa.left_;rw[(eQ h).2];cases e:l.contains q with
 |false=>rw[Bool.and_false]
 |true=>
  have:=mv q (contains_iff.mp e);unfold mvB at this;rw[h,Option.bind_some] at this;rw[this];rfl
theorem qO(T:Txt w K mg a):aY P w K mg base CX0 3 a.a8 a.fw ["self","p"] (acU P w K a fun rp t m q=>.bl (zb (eff t) rp.l m q)):=by
 refine T.jv.ok iP (fun vs H Q E h=>?_) (fun cdv A outer s H vs Q E hr h=>?_)
 ·obtain⟨r,rp,t,p,q,m,rfl,_⟩:=h;rfl
 ·obtain⟨r,rp,t,p,q,m,rfl,R,hm,hq,k⟩:=h;have hu:=bE hr;obtain⟨dx,hi⟩:=R.ins;obtain⟨fx,hf⟩:=R.fld.ins;have k:Q (.bl (zb (eff t) rp.l m q)) H:=k H aF.dw;refine⟨_,(af (aG (i:=2) iP.nd rfl (Or.inl rfl) (bQ hu (ay (ay (pv 0) rfl) rfl) (pv 1) (fun _ _=>rfl)))
   (aj (au (ZP (qS (iO hu (pv 2) (ay (ay (pv 0) rfl) rfl))) (mn (o6 (qS (k6 hu (pv 2) (ay (pv 0) rfl))) (mn (Qn (aT (ay (pv 0) rfl) T.aE T.dG (fP T) (hr.mono (by decide)) T.d9 .nil aC (aa (pv 1) ah)))))))))),?_⟩
  refine⟨_,rfl,r,_,dx,_,_,rfl,hi,T.aA,T.aN,oX rp,rp.f,_,fx,_,_,rfl,hf,T.aE,T.aM,eS _ _,_,rfl,rp.fp.go,_,rfl,.inl ⟨_,nK p,R.fld.goals,rfl,(jJ R.wf hm hq).symm⟩,?_⟩;obtain⟨o,g,ge⟩:=XJ R.fld q;refine⟨_,rfl,_,rfl,r,_,dx,_,_,rfl,hi,T.aA,T.aN,oX rp,rp.f,_,fx,_,_,rfl,hf,T.aE,T.dv,Qg _ _,rp.d.u,o,rfl,g,_,rfl,?_⟩;rw[ge];unfold zb at k;cases e:manAt (eff t) q with
  |none=>rw[e] at k;exact bq k
  |some x=>
   have k:Q (.bl (left_ rp.l x&&!headOn m x)) H:=by rw[e] at k;exact k
   obtain⟨o2,g2,ge2⟩:=sJ R.told q;refine aS ⟨_,rfl,_,rfl,r,_,dx,_,_,rfl,hi,T.aA,T.e8,aft rp,rp.tl,o2,rfl,g2,_,rfl,?_⟩;rw[ge2,Fg R.mv e];cases e2:left_ rp.l x with
   |false=>rw[e2] at k;exact aS k
   |true=>
    rw[e2,Bool.true_and] at k;refine bq ⟨_,rfl,r,_,dx,_,_,rfl,hi,T.aA,T.aN,oX rp,rp.f,fx,_,rfl,hf,rfl,_,rfl,rp.f,rp.d,rp.fp,t,p,q,m,rfl,⟨R.fld,R.wf⟩,hm,hq,_,rfl,?_⟩;unfold h2h;rw[e];exact k
theorem afw{ms:Men}{w c:List Nat}{m:Man}{q:Nat}{x:Man}(h:x∈helpers ms w c m q):x∈ms:=by
 unfold Vbsoaa.helpers at h;exact(List.mem_filter.mp h).1
theorem ajT{ms:Men}(nd:(ms.map (·.prov)).Nodup)(w c:List Nat)(m:Man)(q n:Nat):((hL ms w c m q).filter fun p=>(manAt ms p).any fun y=>y.power !=n).length=((helpers ms w c m q).filter fun y=>y.power !=n).length:=by
 unfold hL;rw[List.filter_map,List.length_map];congr 1;apply List.filter_congr;intro y hy;show (manAt ms y.prov).any _=_;rw[cB nd (afw hy)];rfl
theorem T5(ms:Men)(w c:List Nat)(m:Man)(q:Nat):(hL ms w c m q).length=(helpers ms w c m q).length:=by unfold hL;rw[List.length_map]
theorem aml(ms:Men)(w c:List Nat)(m:Man)(q:Nat):(hL ms w c m q).length≤ms.length:=by rw[T5];unfold Vbsoaa.helpers;exact List.length_filter_le _ _
theorem DG{ms:Men}{w c s:List Nat}{m:Man}{q:Nat}(h:way w m=false):attack ms w c s m q=0:=by unfold Vbsoaa.attack;rw[if_pos h]
theorem XM{ms:Men}{w c s:List Nat}{m:Man}{q:Nat}(h:way w m=true)(hr:zb ms s m q=true):attack ms w c s m q=1+(hL ms w c m q).length:=by
 unfold Vbsoaa.attack;rw[if_neg (by rw[h];decide),T5];unfold zb at hr;cases e:manAt ms q with
 |none=>rfl
 |some x=>
  rw[e] at hr;have hr:(left_ s x&&!headOn m x)=true:=hr;rw[Bool.and_eq_true,Bool.not_eq_true'] at hr;show (if left_ s x=true∧headOn m x=false then _ else _)=_;rw[if_pos hr]
theorem Ms{ms:Men}{w c s:List Nat}{m x:Man}{q:Nat}(h:way w m=true)(hr:zb ms s m q=false)(e:manAt ms q=some x):attack ms w c s m q=if x.power=m.power then 0 else 1+((helpers ms w c m q).filter fun y=>y.power !=x.power).length:=by
 unfold Vbsoaa.attack;rw[if_neg (by rw[h];decide),e];unfold zb at hr;rw[e] at hr;have hr:(left_ s x&&!headOn m x)=false:=hr;show (if left_ s x=true∧headOn m x=false then _ else _)=_;rw[if_neg (fun z=>by rw[z.1,z.2] at hr;cases hr)]
theorem acV{ms:Men}{s:List Nat}{m:Man}{q:Nat}(hr:zb ms s m q=false):∃x,manAt ms q=some x:=by
 unfold zb at hr;cases e:manAt ms q with
 |none=>rw[e] at hr;cases hr
 |some x=>exact⟨x,rfl⟩
theorem one_add(n:Nat):V.int (1+(n:Int))=.int ((1+n:Nat):Int):=by rw[Int.natCast_add];rfl
theorem lQ(T:Txt w K mg a):aY P w K mg base CX0 4 a.bD a.iC ["self","p"] (acU P w K a fun rp t m q=>.int (attack (eff t) t.water rp.c rp.l m q:Nat)):=by
 refine T.mY.ok cY (fun vs H Q E h=>?_) (fun cdv A outer s H vs Q E hr h=>?_)
 ·obtain⟨r,rp,t,p,q,m,rfl,_⟩:=h;rfl
 ·obtain⟨r,rp,t,p,q,m,rfl,R,hm,hq,k⟩:=h;have hu:=bE hr;obtain⟨dx,hi⟩:=R.ins;obtain⟨fx,hf⟩:=R.fld.ins;have e24:(eff t).length≤24:=by rw[dg];exact R.wf.men
  have hle:=aml (eff t) t.water rp.c m q;have k:∀H',aF H H'→Q (.int (attack (eff t) t.water rp.c rp.l m q:Nat)) H':=k;refine⟨_,(af (aG (i:=2) cY.nd rfl (Or.inr rfl) (ay (pv 0) rfl))
   (af (bJ (uE (bY (aT (pv 2) T.aE T.gT (ki T) (hr.mono (by decide)) T.ir .nil aC (aa (pv 1) ah)))) (aj (au aq)) aP)
   (af (bJ (bY (aT (pv 0) T.aA T.i4 (qO T) (hr.mono (by decide)) T.jw .nil aC (aa (pv 1) ah))) (aj (au (fQ qT aq (aV cE rfl T.fJ c8 (aa (aT (pv 0) T.aA T.cR (eD T) (hr.mono (by decide)) T.c7 .nil aC (aa (pv 1) ah)) ah))))) aP)
   (af (aG (i:=3) cY.nd rfl (Or.inr rfl) (aT (pv 2) T.aE T.cU (eB T) (hr.mono (by decide)) T.dA .nil aC (aa (bQ hu (ay (pv 2) rfl) (pv 1) (fun _ _=>rfl)) ah)))
   (af (bJ (bh fb (pv 3) (aT (pv 2) T.aE T.cU (eB T) (hr.mono (by decide)) T.dA .nil aC (aa (pv 1) ah)) (a0 _)) (aj (au aq)) aP)
   (aj (au (fQ qT aq (aV cE rfl T.fJ c8 (aa (sO (own:=[("helper",4)]) rfl cY.nd (ja (aT (pv 0) T.aA T.cR (eD T) (hr.mono (by decide)) T.c7 .nil aC (aa (pv 1) ah))) (show ku ["self","p","field","power","helper"] (ao fu) _ [("helper",4)] from⟨rfl,by decide+kernel,by decide+kernel,by decide+kernel,by decide+kernel⟩) (fun _ _ _ _ _=>(bX (i:=4) cY.nd rfl (Or.inl rfl))) (by intro _ _ _ _ _;exact(lS (bh sN (aT (pv 2) T.aE T.cU (eB (P:=P) (base:=base) T) (hr.mono (show 1≤3 by decide)) T.dA .nil aC (aa (pv 4) ah)) (pv 3) (a0 _)))) (by intro _ _ _ _ _;exact(pv 4))) ah)))))))))),?_⟩
  refine⟨_,rfl,r,_,dx,_,_,rfl,hi,T.aA,T.aN,oX rp,?_⟩;refine⟨_,rfl,rp.f,fx,_,rfl,hf,rfl,_,rfl,rp.f,rp.d,rp.fp,t,p,m,rfl,⟨R.fld,R.wf⟩,hm,_,rfl,?_⟩;cases e1:way t.water m with
  |false=>
   refine bq ?_;have:=k H aF.dw;rw[DG e1] at this;exact this
  |true=>
   refine aS ⟨_,rfl,r,dx,_,rfl,hi,rfl,_,rfl,r,rp,t,p,q,m,rfl,R,hm,hq,fun H1 s1=>⟨_,rfl,?_⟩⟩;have R1:=R.same s1;cases e2:zb (eff t) rp.l m q with
   |true=>
    refine bq ⟨_,rfl,r,dx,_,rfl,s1 _ _ hi,rfl,_,rfl,r,rp,t,p,q,m,rfl,R1,hm,hq,fun H2 l s2 hl=>⟨l,_,rfl,hl,_,_,rfl,rfl,?_⟩⟩;have:=k H2 (s1.trans s2);rw[XM e1 e2] at this;rw[List.length_map];rw[←one_add] at this;exact this
   |false=>
    obtain⟨x,hx⟩:=acV e2;refine aS ⟨_,rfl,rp.f,fx,_,rfl,s1 _ _ hf,rfl,_,rfl,rp.f,_,fx,_,_,rfl,s1 _ _ hf,T.aE,T.aM,eS _ _,_,rfl,rp.fp.go,_,rfl,.inl ⟨_,nK p,R1.fld.goals,rfl,(jJ R.wf hm hq).symm⟩,rp.f,rp.d,rp.fp,t,q,x,rfl,⟨R1.fld,R.wf⟩,hx,?_⟩;refine⟨_,rfl,_,rfl,rp.f,fx,_,rfl,s1 _ _ hf,rfl,_,rfl,rp.f,rp.d,rp.fp,t,p,m,rfl,⟨R1.fld,R.wf⟩,hm,rfl,_,rfl,?_⟩;rw[TV];by_cases c1:x.power=m.power
    ·rw[show decide ((x.power:Int)=(m.power:Int))=true from decide_eq_true (by omega)];refine bq ?_;have:=k H1 s1;rw[Ms e1 e2 hx,if_pos c1] at this;exact this
    ·rw[show decide ((x.power:Int)=(m.power:Int))=false from decide_eq_false (by omega)];refine aS ⟨_,rfl,r,dx,_,rfl,s1 _ _ hi,rfl,_,rfl,r,rp,t,p,q,m,rfl,R1,hm,hq,fun H2 l s2 hl=>⟨l,rfl,⟨_,SqL.of hl⟩,fun D hD=>?_⟩⟩;have R2:=R1.same s2;refine gE eW (fun H3 s3=>SqL.of (s3 _ _ hl)) hD (onN fun p=>(manAt (eff t) p).any fun y=>y.power !=x.power) (fun x y _=>y=x) (fun _ _ _ _ h _=>h) (by rw[List.length_map];exact aB (by omega)) (fun i v H3 hv s3 N Y hN hY=>?_) (fun H3 ys s3 hy pr=>?_)
     ·rw[List.getElem?_map] at hv;obtain⟨n,hn,rfl⟩:=Option.map_eq_some_iff.mp hv;obtain⟨y,hy1,hy2⟩:=List.mem_map.mp (List.mem_of_getElem? hn);have hmy:manAt (eff t) n=some y:=by rw[←hy2];exact cB (bI R.wf) (afw hy1)
      have R3:=R2.same s3;obtain⟨fx3,hf3⟩:=R3.fld.ins;refine⟨rfl,_,rfl,rp.f,fx3,_,rfl,hf3,rfl,_,rfl,rp.f,rp.d,rp.fp,t,n,y,rfl,⟨R3.fld,R.wf⟩,hmy,_,rfl,rfl,_,rfl,?_⟩;rw[vne];by_cases c2:y.power=x.power
      ·rw[show decide ((y.power:Int)≠(x.power:Int))=false from decide_eq_false (by omega)];exact aS (hN _ aF.dw (by rw[gA,hmy];simp[c2]))
      ·rw[show decide ((y.power:Int)≠(x.power:Int))=true from decide_eq_true (by omega)];exact bq ⟨_,rfl,hY _ _ aF.dw (by rw[gA,hmy];simpa using c2) rfl⟩
     ·have e:=i7 pr;rw[eT _ _ _ (gA _)] at e;rw[e] at hy;refine⟨D,_,rfl,hy,_,_,rfl,rfl,?_⟩;have:=k H3 ((s1.trans s2).trans s3);rw[Ms e1 e2 hx,if_neg c1,←ajT (bI R.wf),←one_add] at this;rw[List.length_map];exact this
theorem ZE(ms:Men)(w c s:List Nat)(m:Man)(q:Nat):prevent ms w c s m q=if way w m=false then 0 else if(h2h ms m q&&s.contains q)=true then 0 else 1+(hL ms w c m q).length:=by
 unfold Vbsoaa.prevent h2h;by_cases c1:way w m=false
 ·rw[if_pos c1,if_pos c1]
 ·rw[if_neg c1,if_neg c1,T5];cases e:manAt ms q with
  |none=>rfl
  |some x=>
   show (if headOn m x=true∧s.contains x.prov=true then _ else _)=if(headOn m x&&s.contains q)=true then _ else _
   rw[(eQ e).2];cases headOn m x<;>cases s.contains q<;>rfl
theorem nJ(T:Txt w K mg a):aY P w K mg base CX0 3 a.bG a.jo ["self","p"] (acU P w K a fun rp t m q=>.int (prevent (eff t) t.water rp.c rp.l m q:Nat)):=by
 refine T.oC.ok mM (fun vs H Q E h=>?_) (fun cdv A outer s H vs Q E hr h=>?_)
 ·obtain⟨r,rp,t,p,q,m,rfl,_⟩:=h;rfl
 ·obtain⟨r,rp,t,p,q,m,rfl,R,hm,hq,k⟩:=h;have hu:=bE hr;obtain⟨dx,hi⟩:=R.ins;obtain⟨fx,hf⟩:=R.fld.ins;have k:∀H',aF H H'→Q (.int (prevent (eff t) t.water rp.c rp.l m q:Nat)) H':=k;rw[ZE] at k;refine⟨_,(af (aG (i:=2) mM.nd rfl (Or.inl rfl) (ay (pv 0) rfl))
   (af (bJ (PW.pt (ac9 (uE (bY (aT (pv 2) T.aE T.gT (ki T) (hr.mono (by decide)) T.ir .nil aC (aa (pv 1) ah)))) (X4 (PW.pt (jQ (bY (aT (pv 2) T.aE T.dG (fP T) (hr.mono (by decide)) T.d9 .nil aC (aa (pv 1) ah))) (i9 (gZ (k6 hu (bQ hu (ay (pv 2) rfl) (pv 1) (fun _ _=>rfl)) (ay (pv 0) rfl))))))))) (aj (au aq)) aP)
   (aj (au (fQ qT aq (aV cE rfl T.fJ c8 (aa (aT (pv 0) T.aA T.cR (eD T) (hr.mono (by decide)) T.c7 .nil aC (aa (pv 1) ah)) ah))))))),?_⟩
  refine⟨_,rfl,r,_,dx,_,_,rfl,hi,T.aA,T.aN,oX rp,?_⟩;refine⟨_,rfl,rp.f,fx,_,rfl,hf,rfl,_,rfl,rp.f,rp.d,rp.fp,t,p,m,rfl,⟨R.fld,R.wf⟩,hm,_,rfl,?_⟩;cases e1:way t.water m with
  |false=>rw[if_pos e1] at k;exact bq (bq (k H aF.dw))
  |true=>
   rw[if_neg (by rw[e1];decide)] at k;refine aS ⟨_,rfl,rp.f,fx,_,rfl,hf,rfl,_,rfl,rp.f,rp.d,rp.fp,t,p,q,m,rfl,⟨R.fld,R.wf⟩,hm,hq,_,rfl,?_⟩;have last:¬((h2h (eff t) m q&&rp.l.contains q)=true)→X5 (tOp (rI0 fun i j=>.int (i+j)) (tC (.int 1)) (tCB ahk (uH (adn a.az "helpers" (Mr P w K a) [] E0 (i8 0) (uH (i8 1) Hh)) Hh))) {nx:=fun _ H'=>Q .non H',rt:=Q} [some (.ref r),some (.int p),some (.ref rp.f)] H:=by
    intro nc;rw[if_neg nc] at k;refine⟨_,rfl,r,dx,_,rfl,hi,rfl,_,rfl,r,rp,t,p,q,m,rfl,R,hm,hq,fun H2 l s2 hl=>⟨l,_,rfl,hl,_,_,rfl,rfl,?_⟩⟩;have:=k H2 s2;rw[List.length_map];rw[←one_add] at this;exact this
   cases e2:h2h (eff t) m q with
   |false=>exact aS (aS (last (by rw[e2,Bool.false_and];decide)))
   |true=>
    obtain⟨o2,g2,ge2⟩:=sJ R.told q;refine bq ⟨_,rfl,rp.f,_,fx,_,_,rfl,hf,T.aE,T.aM,eS _ _,_,rfl,rp.fp.go,_,rfl,.inl ⟨_,nK p,R.fld.goals,rfl,(jJ R.wf hm hq).symm⟩,_,rfl,r,_,dx,_,_,rfl,hi,T.aA,T.e8,aft rp,rp.tl,o2,rfl,g2,_,rfl,?_⟩;rw[ge2];cases e3:rp.l.contains q with
    |true=>rw[if_pos (by rw[e2,e3];rfl)] at k;exact bq (k H aF.dw)
    |false=>exact aS (last (by rw[e2,e3];decide))
end
end My
end
section
namespace My
open PySem PySem.Spec PyProof.Rows L2
open Vbsoaa (Man Men Order Table orderNums bit manAt goal into eff byWater way headOn stays cut isAid isStay left_ helpers stayers attack prevent hold wall goes defend movers round)
section
variable{P:Program}{w:World}{K:PySem.W.Frag}{mg:Str→Option Value}{base:Heap}{a:Adr}{H H' B:Hp}{r:Addr}{rp:RPt}{t:Table}
def ZF(P:Program)(w:World)(K:PySem.W.Frag)(a:Adr):Sp:=fun vs H Q _=>∃(r:Addr)(rp:RPt)(t:Table)(p:Nat),vs=[.ref r,.int p]∧RkR P w K a H r rp t∧∀H',aF H H'→Q (.int (hold (eff t) t.water rp.c rp.l p:Nat)) H'
theorem gB(T:Txt w K mg a):aY P w K mg base CX0 2 a.bw a.hU ["self","p"] (ZF P w K a):=by
 refine T.lJ.ok vq (fun vs H Q E h=>?_) (fun cdv A outer s H vs Q E hr h=>?_)
 ·obtain⟨r,rp,t,p,rfl,_⟩:=h;rfl
 ·obtain⟨r,rp,t,p,rfl,R,k⟩:=h;have hu:=bE hr;obtain⟨dx,hi⟩:=R.ins;obtain⟨fx,hf⟩:=R.fld.ins;unfold Vbsoaa.hold at k;refine⟨_,(af (bJ (gZ (iO hu (pv 1) (ay (ay (pv 0) rfl) rfl))) (aj (au aq)) aP)
   (af (bJ (bY (aT (ay (pv 0) rfl) T.aE T.fH (iu T) (hr.mono (by decide)) T.gr .nil aC (aa (pv 1) ah))) (aj (au (fQ qT aq (aV cE rfl T.fJ c8 (aa (aT (pv 0) T.aA T.iE (nI T) (hr.mono (by decide)) T.ju .nil aC (aa (fW (aa (aX rfl T.Ki T.Kj) (aa (pv 1) (aa aq (aa aq ah))))) ah)) ah))))) aP)
   (aj (au (mq (gZ (k6 hu (pv 1) (ay (pv 0) rfl))) aq aq))))),?_⟩
  obtain⟨o,g,ge⟩:=XJ R.fld p;refine⟨_,rfl,_,rfl,r,_,dx,_,_,rfl,hi,T.aA,T.aN,oX rp,rp.f,_,fx,_,_,rfl,hf,T.aE,T.dv,Qg _ _,rp.d.u,o,rfl,g,_,rfl,?_⟩;rw[ge];cases e:manAt (eff t) p with
  |none=>rw[e] at k;exact bq (k H aF.dw)
  |some x=>
   have k:∀H',aF H H'→Q (.int ((if(goal x).isSome=true then(if rp.l.contains x.prov=true then 0 else 1) else 1+(stayers (eff t) t.water rp.c x).length:Nat):Int)) H':=by rw[e] at k;exact k
   have xp:=(eQ e).2;refine aS ⟨_,rfl,r,_,dx,_,_,rfl,hi,T.aA,T.aN,oX rp,rp.f,fx,_,rfl,hf,rfl,_,rfl,rp.f,rp.d,rp.fp,t,p,rfl,⟨R.fld,R.wf⟩,_,rfl,?_⟩;have es:stays (eff t) p=(goal x).isNone:=by unfold Vbsoaa.stays;rw[e];rfl
   rw[es];cases eg:goal x with
   |none=>
    rw[eg] at k;have k:∀H',aF H H'→Q (.int ((1+(stayers (eff t) t.water rp.c x).length:Nat):Int)) H':=k;refine bq ⟨_,rfl,r,dx,_,rfl,hi,rfl,_,rfl,aB.le (by simp),fun c hc=>?_⟩;have s0:=aw (o:=.tup [V.int 2,V.int p,V.int 0,V.int 0]) hc;refine⟨r,c,rp,t,[2,(p:Int),0,0],rfl,R.same s0,SqT.of ae,fun H1 l s1 hl=>⟨l,_,rfl,hl,_,_,rfl,rfl,?_⟩⟩;have:=k H1 (s0.trans s1);rw[←xp,acT (bI R.wf),List.length_map,List.length_map];rw[←one_add] at this;exact this
   |some q=>
    rw[eg] at k;have k:∀H',aF H H'→Q (.int ((if rp.l.contains x.prov=true then 0 else 1:Nat):Int)) H':=k;obtain⟨o2,g2,ge2⟩:=sJ R.told p;refine aS ⟨_,rfl,_,rfl,r,_,dx,_,_,rfl,hi,T.aA,T.e8,aft rp,rp.tl,o2,rfl,g2,_,rfl,?_⟩;rw[ge2];rw[xp] at k;cases e3:rp.l.contains p with
    |true=>rw[e3] at k;exact bq (k H aF.dw)
    |false=>rw[e3] at k;exact aS (k H aF.dw)
theorem agZ(ms:Men)(w c s:List Nat)(m:Man)(q:Nat):wall ms w c s m q=match manAt ms q with
  |some x=>if headOn m x=true then 1+(hL ms w c x m.prov).length else hold ms w c s q
  |none=>hold ms w c s q:=by
 unfold Vbsoaa.wall Vbsoaa.defend;cases manAt ms q with
 |none=>rfl
 |some x=>simp only[T5]
theorem oY(T:Txt w K mg a):aY P w K mg base CX0 3 a.bV a.j7 ["self","p"] (acU P w K a fun rp t m q=>.int (wall (eff t) t.water rp.c rp.l m q:Nat)):=by
 refine T.p3.ok n9 (fun vs H Q E h=>?_) (fun cdv A outer s H vs Q E hr h=>?_)
 ·obtain⟨r,rp,t,p,q,m,rfl,_⟩:=h;rfl
 ·obtain⟨r,rp,t,p,q,m,rfl,R,hm,hq,k⟩:=h;have hu:=bE hr;obtain⟨dx,hi⟩:=R.ins;obtain⟨fx,hf⟩:=R.fld.ins;have k:∀H',aF H H'→Q (.int (wall (eff t) t.water rp.c rp.l m q:Nat)) H':=k;rw[agZ] at k;refine⟨_,(af (aG (i:=2) n9.nd rfl (Or.inl rfl) (bQ hu (ay (ay (pv 0) rfl) rfl) (pv 1) (fun _ _=>rfl)))
   (af (bJ (bY (aT (ay (pv 0) rfl) T.aE T.dG (fP T) (hr.mono (by decide)) T.d9 .nil aC (aa (pv 1) ah))) (aj (au (fQ qT aq (aV cE rfl T.fJ c8 (aa (aT (pv 0) T.aA T.cR (eD T) (hr.mono (by decide)) T.c7 .nil aC (aa (pv 2) ah)) ah))))) aP)
   (aj (au (aT (pv 0) T.aA T.ed (gB T) (hr.mono (by decide)) T.eV .nil aC (aa (pv 2) ah)))))),?_⟩
  refine⟨_,rfl,r,_,dx,_,_,rfl,hi,T.aA,T.aN,oX rp,rp.f,_,fx,_,_,rfl,hf,T.aE,T.aM,eS _ _,_,rfl,rp.fp.go,_,rfl,.inl ⟨_,nK p,R.fld.goals,rfl,(jJ R.wf hm hq).symm⟩,?_⟩;refine⟨_,rfl,r,_,dx,_,_,rfl,hi,T.aA,T.aN,oX rp,rp.f,fx,_,rfl,hf,rfl,_,rfl,rp.f,rp.d,rp.fp,t,p,q,m,rfl,⟨R.fld,R.wf⟩,hm,hq,_,rfl,?_⟩;unfold h2h;cases e:manAt (eff t) q with
  |none=>
   have k:∀H',aF H H'→Q (.int (hold (eff t) t.water rp.c rp.l q:Nat)) H':=by rw[e] at k;exact k
   exact aS ⟨_,rfl,r,dx,_,rfl,hi,rfl,_,rfl,r,rp,t,q,rfl,R,k⟩
  |some x=>
   have k:∀H',aF H H'→Q (.int ((if headOn m x=true then 1+(hL (eff t) t.water rp.c x m.prov).length else hold (eff t) t.water rp.c rp.l q:Nat):Int)) H':=by rw[e] at k;exact k
   show (if headOn m x=true then _ else _);cases e2:headOn m x with
   |false=>
    rw[e2,if_neg (by decide)] at k;exact aS ⟨_,rfl,r,dx,_,rfl,hi,rfl,_,rfl,r,rp,t,q,rfl,R,k⟩
   |true=>
    rw[e2,if_pos rfl] at k;have gx:goal x=some m.prov:=by
     unfold Vbsoaa.headOn at e2;simp only[Bool.and_eq_true,beq_iff_eq] at e2;exact e2.2.1
    refine bq ⟨_,rfl,r,dx,_,rfl,hi,rfl,_,rfl,r,rp,t,q,m.prov,x,rfl,R,e,gx,fun H2 l s2 hl=>⟨l,_,rfl,hl,_,_,rfl,rfl,?_⟩⟩;have:=k H2 s2;rw[List.length_map];rw[←one_add] at this;exact this
def ZG(ms:Men)(w c s:List Nat)(m:Man)(q:Nat):List Nat:=((into ms q).filter fun x=>x.prov !=m.prov).map fun x=>prevent ms w c s x q
def Fh(ms:Men)(w c s:List Nat)(m:Man)(q:Nat):Nat:=((into ms q).filter fun x=>x.prov !=m.prov).foldl (fun n x=>max n (prevent ms w c s x q)) 0
theorem foldl_max(f:Man→Nat):∀(l:List Man)(n:Nat),n≤l.foldl (fun n x=>max n (f x)) n∧(∀x∈l,f x≤l.foldl (fun n x=>max n (f x)) n)∧(l.foldl (fun n x=>max n (f x)) n=n∨∃x∈l,l.foldl (fun n x=>max n (f x)) n=f x)
 |[],n=>⟨Nat.le_refl _,(fun x h=>by cases h),.inl rfl⟩
 |y::l,n=>by
  obtain⟨h1,h2,h3⟩:=foldl_max f l (max n (f y));refine⟨Nat.le_trans (Nat.le_max_left _ _) h1,fun x hx=>?_,?_⟩
  ·rcases List.mem_cons.mp hx with z|z
   ·subst z;exact Nat.le_trans (Nat.le_max_right _ _) h1
   ·exact h2 x z
  ·rcases h3 with h3|⟨x,hx,h3⟩
   ·rw[List.foldl_cons,h3];by_cases c:n≤f y
    ·exact .inr ⟨y,List.mem_cons_self,Nat.max_eq_right c⟩
    ·exact .inl (Nat.max_eq_left (by omega))
   ·exact .inr ⟨x,List.mem_cons_of_mem _ hx,h3⟩
theorem ag0{ms:Men}{w c s:List Nat}{m:Man}{q M:Nat}(h1:M∈ZG ms w c s m q)(h2:∀y∈ZG ms w c s m q,y≤M):M=Fh ms w c s m q:=by
 obtain⟨g1,g2,g3⟩:=foldl_max (fun x=>prevent ms w c s x q) ((into ms q).filter fun x=>x.prov !=m.prov) 0;obtain⟨x,hx,rfl⟩:=List.mem_map.mp h1;have a1:=g2 x hx;unfold Fh;rcases g3 with g3|⟨y,hy,g3⟩
 ·omega
 ·have:=h2 _ (List.mem_map.mpr ⟨y,hy,rfl⟩);omega
theorem ag1{ms:Men}{w c s:List Nat}{m:Man}{q:Nat}(h:ZG ms w c s m q=[]):Fh ms w c s m q=0:=by
 unfold ZG at h;unfold Fh;rw[List.map_eq_nil_iff.mp h];rfl
theorem jP(T:Txt w K mg a):aY P w K mg base CX0 4 a.bp a.gm ["self","p"] (acU P w K a fun rp t m q=>.int (Fh (eff t) t.water rp.c rp.l m q:Nat)):=by
 refine T.kO.ok dF (fun vs H Q E h=>?_) (fun cdv A outer s H vs Q E hr h=>?_)
 ·obtain⟨r,rp,t,p,q,m,rfl,_⟩:=h;rfl
 ·obtain⟨r,rp,t,p,q,m,rfl,R,hm,hq,k⟩:=h;have hu:=bE hr;obtain⟨dx,hi⟩:=R.ins;obtain⟨fx,hf⟩:=R.fld.ins;have mi:=eQ hm;have e24:(eff t).length≤24:=by rw[dg];exact R.wf.men
  have el:=Fe (eff t) q;have k:∀H',aF H H'→Q (.int (Fh (eff t) t.water rp.c rp.l m q:Nat)) H':=k;refine⟨_,(af (aG (i:=2) dF.nd rfl (Or.inl rfl) (bQ hu (ay (ay (pv 0) rfl) rfl) (bQ hu (ay (ay (pv 0) rfl) rfl) (pv 1) (fun _ _=>rfl)) (fun _ _=>rfl)))
   (aj (au (agf rfl rfl T.aap YA (aa (sO (own:=[("comer",3)]) rfl dF.nd (ja (pv 2)) (show ku ["self","p","comers","comer"] (ao dO) _ [("comer",3)] from⟨rfl,by decide+kernel,by decide+kernel,by decide+kernel,by decide+kernel⟩) (fun _ _ _ _ _=>(bX (i:=3) dF.nd rfl (Or.inl rfl))) (by intro _ _ _ _ _;exact(lS (bh sN (pv 3) (pv 1) (a0 _)))) (by intro _ _ _ _ _;exact(aT (pv 0) T.aA T.iG (nJ (P:=P) (base:=base) T) (hr.mono (show 3≤3 by decide)) T.jx .nil aC (aa (pv 3) ah)))) ah) (afP aq ahY))))),?_⟩
  have there:p∈di (eff t) q:=by
   unfold di Vbsoaa.into;refine List.mem_map.mpr ⟨m,List.mem_filter.mpr ⟨mi.1,?_⟩,mi.2⟩;rw[hq];exact beq_self_eq_true _
  obtain⟨lc,hv,hl⟩:∃lc,aR rp.fp.ck (nK q)=some (.ref lc)∧H lc=some (.lst ((di (eff t) q).map nV)):=by
   rcases R.fld.cok q with⟨_,e⟩|z
   ·rw[e] at there;cases there
   ·exact z
  refine⟨_,rfl,r,_,dx,_,_,rfl,hi,T.aA,T.aN,oX rp,rp.f,_,fx,_,_,rfl,hf,T.aE,T.e7,T2 _ _,_,rfl,r,_,dx,_,_,rfl,hi,T.aA,T.aN,oX rp,rp.f,_,fx,_,_,rfl,hf,T.aE,T.aM,eS _ _,_,rfl,rp.fp.go,_,rfl,.inl ⟨_,nK p,R.fld.goals,rfl,(jJ R.wf hm hq).symm⟩,rp.fp.co,_,rfl,.inl ⟨_,nK q,.inl R.fld.com,rfl,hv.symm⟩,?_⟩;refine⟨_,rfl,lc,rfl,⟨_,SqL.of hl⟩,fun D hD=>?_⟩;refine gE eW (fun H1 s1=>SqL.of (s1 _ _ hl)) hD (onN fun n=>n !=p) (fun v y _=>∃n x,v=.int (n:Nat)∧manAt (eff t) n=some x∧y=.int (prevent (eff t) t.water rp.c rp.l x q:Nat)) (fun _ _ _ _ h _=>h) (by rw[List.length_map];exact aB (by omega)) (fun i v H1 hx s1 N Y hN hY=>?_) (fun H1 ys s1 hy pr=>?_)
  ·rw[List.getElem?_map] at hx;obtain⟨n,hn,rfl⟩:=Option.map_eq_some_iff.mp hx;obtain⟨x,hxi,hmx⟩:=XG (bI R.wf) (List.mem_of_getElem? hn);have gx:goal x=some q:=by
    unfold Vbsoaa.into at hxi
    simpa using (List.mem_filter.mp hxi).2
   have R1:=R.same s1;refine⟨rfl,_,rfl,_,rfl,rfl,_,rfl,?_⟩;rw[show (!decide (nV n=V.int p))=decide ((n:Int)≠(p:Int)) from vne];by_cases c:n=p
   ·rw[show decide ((n:Int)≠(p:Int))=false from decide_eq_false (by omega)];exact aS (hN _ aF.dw (by rw[gA];simp[c]))
   ·rw[show decide ((n:Int)≠(p:Int))=true from decide_eq_true (by omega)];refine bq ⟨_,rfl,r,dx,_,rfl,s1 _ _ hi,rfl,_,rfl,r,rp,t,n,q,x,rfl,R1,hmx,gx,fun H2 s2=>hY _ _ s2 (by rw[gA];simpa using c) ⟨n,x,rfl,hmx,rfl⟩⟩
  ·rw[eT _ _ _ (gA _)] at pr;have key:∀{qs:List Man}{zs:List V},(∀x∈qs,x∈eff t)→Paired (fun v y=>∃n x,v=.int (n:Nat)∧manAt (eff t) n=some x∧y=V.int (prevent (eff t) t.water rp.c rp.l x q:Nat)) ((qs.map (·.prov)).map nV) zs→zs=(qs.map fun x=>prevent (eff t) t.water rp.c rp.l x q).map nV:=by
    intro qs
    induction qs with
    |nil=>intro zs _ pr;cases pr;rfl
    |cons x0 qs ih=>
     intro zs hin pr;cases pr with
     |cons rr pr=>
      obtain⟨n,x,e1,hx,e2⟩:=rr;have e1:x0.prov=n:=by unfold nV at e1;injection e1 with e1;exact Int.ofNat.inj e1
      have e3:=cB (bI R.wf) (hin x0 List.mem_cons_self);rw[e1,hx] at e3;cases e3;rw[ih (fun y hy=>hin y (List.mem_cons_of_mem _ hy)) pr,e2];rfl
   have ef:(di (eff t) q).filter (fun n=>n !=p)=((into (eff t) q).filter fun x=>x.prov !=m.prov).map (·.prov):=by
    unfold di;rw[List.filter_map,mi.2];rfl
   rw[ef] at pr;have e:=key (fun x hx=>Mo (List.mem_filter.mp hx).1) pr;have e:ys=(ZG (eff t) t.water rp.c rp.l m q).map nV:=e;rw[e] at hy;have em:(ZG (eff t) t.water rp.c rp.l m q).map nV=((ZG (eff t) t.water rp.c rp.l m q).map fun(n:Nat)=>(n:Int)).map V.int:=by rw[List.map_map];rfl
   rw[em] at hy;refine⟨D,_,0,rfl,rfl,SqL.of hy,fun z=>?_,fun M hM hall=>?_⟩
   ·have:=k H1 s1;rw[ag1 (List.map_eq_nil_iff.mp z)] at this;exact this
   ·obtain⟨M',hM',rfl⟩:=List.mem_map.mp hM;have:=k H1 s1;rw[←ag0 hM' (fun y hy=>by have:=hall (y:Int) (List.mem_map.mpr ⟨y,hy,rfl⟩);omega)] at this;exact this
end
end My
end
section
namespace My
open PySem PySem.Spec PyProof.Rows L2
open Vbsoaa (Man Men Order Table orderNums bit manAt goal into eff byWater way headOn stays cut isAid isStay left_ helpers stayers attack prevent hold wall goes defend movers round firsts)
section
variable{P:Program}{w:World}{K:PySem.W.Frag}{mg:Str→Option Value}{base:Heap}{a:Adr}{H H' B:Hp}{r:Addr}{rp:RPt}{t:Table}
theorem ag2{ms:Men}{w c s:List Nat}{m:Man}{q:Nat}(hq:goal m=some q):goes ms w c s m=(decide (wall ms w c s m q<attack ms w c s m q)&&decide (Fh ms w c s m q<attack ms w c s m q)):=by
 unfold Vbsoaa.goes;rw[hq];show (way w m&&(decide (wall ms w c s m q<attack ms w c s m q)&&(into ms q).all fun x=>x.prov==m.prov||decide (prevent ms w c s x q<attack ms w c s m q)))=_;cases e:way w m with
 |false=>
  have:attack ms w c s m q=0:=DG e;rw[this];simp
 |true=>
  rw[Bool.true_and];cases e1:decide (wall ms w c s m q<attack ms w c s m q) with
  |false=>rfl
  |true=>
   rw[Bool.true_and,Bool.true_and];have pos:=of_decide_eq_true e1;obtain⟨g1,g2,g3⟩:=foldl_max (fun x=>prevent ms w c s x q) ((into ms q).filter fun x=>x.prov !=m.prov) 0;rw[Bool.eq_iff_iff,List.all_eq_true,decide_eq_true_eq];constructor
   ·intro h;show Fh ms w c s m q<_;unfold Fh;rcases g3 with g3|⟨y,hy,g3⟩
    ·omega
    ·have h1:=List.mem_filter.mp hy;have:=h y h1.1;rw[Bool.or_eq_true,beq_iff_eq,decide_eq_true_eq] at this;rcases this with z|z
     ·have:=h1.2;simp[z] at this
     ·omega
   ·intro h x hx;rw[Bool.or_eq_true,beq_iff_eq,decide_eq_true_eq];by_cases z:x.prov=m.prov
    ·exact .inl z
    ·right
     have:=g2 x (List.mem_filter.mpr ⟨hx,by simpa using z⟩);unfold Fh at h;omega
theorem jK(T:Txt w K mg a):aY P w K mg base CX0 5 a.bW a.j8 ["self","p"] (acU P w K a fun rp t m q=>.bl (goes (eff t) t.water rp.c rp.l m)):=by
 refine T.p4.ok oh (fun vs H Q E h=>?_) (fun cdv A outer s H vs Q E hr h=>?_)
 ·obtain⟨r,rp,t,p,q,m,rfl,_⟩:=h;rfl
 ·obtain⟨r,rp,t,p,q,m,rfl,R,hm,hq,k⟩:=h;obtain⟨dx,hi⟩:=R.ins;have k:∀H',aF H H'→Q (.bl (goes (eff t) t.water rp.c rp.l m)) H':=k;rw[ag2 hq] at k;refine⟨_,(af (aG (i:=2) oh.nd rfl (Or.inl rfl) (aT (pv 0) T.aA T.hX (lQ T) (hr.mono (by decide)) T.iF .nil aC (aa (pv 1) ah)))
   (aj (au (o6 (dJ ZU (pv 2) (aT (pv 0) T.aA T.jy (oY T) (hr.mono (by decide)) T.kb .nil aC (aa (pv 1) ah)) (a0 _)) (mn (dJ ZU (pv 2) (aT (pv 0) T.aA T.fM (jP T) (hr.mono (by decide)) T.gu .nil aC (aa (pv 1) ah)) (a0 _))))))),?_⟩
  refine⟨_,rfl,r,dx,_,rfl,hi,rfl,_,rfl,r,rp,t,p,q,m,rfl,R,hm,hq,fun H1 s1=>?_⟩;refine⟨_,rfl,_,rfl,r,dx,_,rfl,s1 _ _ hi,rfl,_,rfl,r,rp,t,p,q,m,rfl,R.same s1,hm,hq,fun H2 s2=>⟨_,_,rfl,rfl,_,rfl,?_⟩⟩;have s12:=s1.trans s2;have ci:∀x y:Nat,decide ((x:Int)<(y:Int))=decide (x<y):=fun x y=>decide_eq_decide.mpr (by omega);rw[ci];cases e:decide (wall (eff t) t.water rp.c rp.l m q<attack (eff t) t.water rp.c rp.l m q) with
  |false=>rw[e] at k;exact aS (k _ s12)
  |true=>
   rw[e,Bool.true_and] at k;refine bq ⟨_,rfl,_,rfl,r,dx,_,rfl,s12 _ _ hi,rfl,_,rfl,r,rp,t,p,q,m,rfl,R.same s12,hm,hq,fun H3 s3=>⟨_,_,rfl,rfl,?_⟩⟩;have:=k _ (s12.trans s3);rw[←ci] at this;exact this
theorem RkR.lock{c:Addr}{kvs:List (Key×V)}{o:Obj}(R:RkR P w K a H r rp t)(hc:H c=some (.dK kvs))(nc:c≠rp.fp.co):RkR P w K a (upd H c (.frz o (.dK kvs))) r rp t:=by
 obtain⟨dx,hi⟩:=R.ins;exact⟨⟨dx,by rw[ab (aK hi hc (fun z=>nomatch z))];exact hi⟩,R.fld.lock hc nc,oV R.told (fun _ _ z=>nomatch z) hc,oV R.cuts (fun _ _ z=>nomatch z) hc,R.mv,R.wf⟩
theorem Qi{ms:Men}(nd:(ms.map (·.prov)).Nodup){i:Nat}{m:Man}(h:(movers ms)[i]?=some m):manAt ms m.prov=some m∧∃q,goal m=some q:=by
 have hm:=List.mem_of_getElem? h;unfold Vbsoaa.movers at hm;obtain⟨h1,h2⟩:=List.mem_filter.mp hm;exact⟨cB nd h1,Option.isSome_iff_exists.mp h2⟩
theorem Qj{ms:Men}(nd:(ms.map (·.prov)).Nodup):((movers ms).map (·.prov)).Nodup:=ba _ nd
theorem Mt(ms:Men):(movers ms).length≤ms.length:=by unfold Vbsoaa.movers;exact List.length_filter_le _ _
def afx(P:Program)(w:World)(K:PySem.W.Frag)(a:Adr):Sp:=fun vs H Q _=>∃(r:Addr)(rp:RPt)(t:Table),vs=[.ref r]∧RkR P w K a H r rp t∧Fx H rp.d rp.fp t∧∀H' x,aF H H'→H x=none→H' x=some (.dK (bZ (round (eff t) t.water rp.c rp.l)))→Q (.ref x) H'
theorem iL(T:Txt w K mg a):aY P w K mg base CX0 6 a.bH a.jq ["self"] (afx P w K a):=by
 refine T.oE.ok iA (fun vs H Q E h=>?_) (fun cdv A outer s H vs Q E hr h=>?_)
 ·obtain⟨r,rp,t,rfl,_⟩:=h;rfl
 ·obtain⟨r,rp,t,rfl,R,fx,k⟩:=h;have hu:=bE hr;have hgo:=fx.go;have W:=R.wf;have e24:(movers (eff t)).length≤24:=by have:=Mt (eff t);rw[dg] at this;have:=W.men;omega
  refine⟨_,(af (aG (i:=1) iA.nd rfl (Or.inl rfl) fG)
   (af (nP (mr PassesOwn.never rfl (lU (ay (ay (pv 0) rfl) rfl)) (bX (i:=2) iA.nd rfl (Or.inl rfl)) (aj (bJ (bY (aT (pv 0) T.aA T.fT (jK T) (hr.mono (by decide)) T.gW .nil aC (aa (pv 2) ah))) (aj (lT hu (pv 1) (pv 2) sM rfl)) aP))))
   (aj (au (pv 1))))),?_⟩
  refine fun x hx=>?_;have s0:=aw (o:=.dK []) hx;have ngx:rp.fp.go≠x:=ai hgo hx;refine⟨rp.fp.go,_,s0 _ _ hgo,True.intro,fun od=>?_⟩;have RL:RkR P w K a (upd H rp.fp.go (.frz od (.dK (aZ (eff t))))) r rp t:=R.lock hgo fx.ngo;have g0:upd (upd H x (.dK [])) rp.fp.go (.frz od (.dK (aZ (eff t)))) rp.fp.go=some (.frz od (.dK (aZ (eff t)))):=ae;have x0:upd (upd H x (.dK [])) rp.fp.go (.frz od (.dK (aZ (eff t)))) x=some (.dK []):=by rw[ab (Ne.symm ngx)];exact ae
  have sL:aF (upd H rp.fp.go (.frz od (.dK (aZ (eff t))))) (upd (upd H x (.dK [])) rp.fp.go (.frz od (.dK (aZ (eff t))))):=fun b o e=>by
   by_cases z:b=rp.fp.go
   ·subst z;rw[ae] at e⊢;exact e
   ·rw[ab z] at e⊢;rw[ab (ai e hx)];exact e
  have xL:upd H rp.fp.go (.frz od (.dK (aZ (eff t)))) x=none:=by rw[ab (Ne.symm ngx)];exact hx
  have gL:upd H rp.fp.go (.frz od (.dK (aZ (eff t)))) rp.fp.go=some (.frz od (.dK (aZ (eff t)))):=ae;generalize hB:upd H rp.fp.go (.frz od (.dK (aZ (eff t))))=B at RL sL xL gL;generalize upd (upd H x (.dK [])) rp.fp.go (.frz od (.dK (aZ (eff t))))=H1 at g0 x0 sL⊢;obtain⟨dx,hi⟩:=RL.ins;obtain⟨fx',hf⟩:=RL.fld.ins;refine⟨_,rfl,r,_,dx,_,_,rfl,sL _ _ hi,T.aA,T.aN,oX rp,rp.f,_,fx',_,_,rfl,sL _ _ hf,T.aE,T.aM,eS _ _,rp.fp.go,od,rfl,.inl ⟨_,g0,?_⟩⟩;refine je gD (fun i σ H'=>i≤(movers (eff t)).length∧(∃pv,σ=[some (.ref r),some (.ref x),pv])∧aF B H'∧H' x=some (.dK (bZ ((((movers (eff t)).take i).filter (goes (eff t) t.water rp.c rp.l)).map (·.prov))))) ⟨Nat.zero_le _,⟨_,rfl⟩,sL,x0⟩ (fun i σ H' p=>p.2.2.1 _ _ gL) (fun i v σ H' hv p=>?_) (fun σ H' p=>?_)
  ·obtain⟨hi',⟨pv,rfl⟩,sm,hx2⟩:=p;rw[fC] at hv;unfold gz at hv;rw[List.getElem?_map,List.getElem?_map] at hv;obtain⟨p,hp,rfl⟩:=Option.map_eq_some_iff.mp hv;obtain⟨m,hm,rfl⟩:=Option.map_eq_some_iff.mp hp;have hlt:i<(movers (eff t)).length:=(List.getElem?_eq_some_iff.mp hm).1;have et:(movers (eff t)).take (i+1)=(movers (eff t)).take i++[m]:=by rw[List.take_add_one,hm];rfl
   obtain⟨hma,q,hq⟩:=Qi (bI W) hm;have R1:=RL.same sm;have nw:=xi (Qj (bI W)) hm;have len:((((movers (eff t)).take i).filter (goes (eff t) t.water rp.c rp.l)).map (·.prov)).length≤24:=by
    rw[List.length_map];have:=List.length_filter_le (goes (eff t) t.water rp.c rp.l) ((movers (eff t)).take i);rw[List.length_take] at this;omega
   refine⟨_,rfl,r,dx,_,rfl,sm _ _ hi,rfl,_,rfl,r,rp,t,m.prov,q,m,rfl,R1,hma,hq,fun H2 s2=>⟨_,rfl,?_⟩⟩;rw[et,List.filter_append,List.map_append];cases e1:goes (eff t) t.water rp.c rp.l m with
   |false=>
    refine aS ⟨hlt,⟨_,rfl⟩,sm.trans s2,?_⟩;rw[List.filter_cons,e1]
    simpa using s2 _ _ hx2
   |true=>
    refine bq ⟨_,rfl,_,rfl,x,_,rfl,uU.k (k:=nK m.prov) (s2 _ _ hx2) (by rw[pL];exact aB (by omega)),hlt,⟨_,rfl⟩,fun b o e=>?_,?_⟩
    ·rw[ab (ai e xL)];exact s2 _ _ (sm _ _ e)
    ·rw[ae,Mp (fun z=>nw (Mq z)),List.filter_cons,e1];rfl
  ·obtain⟨_,⟨pv,rfl⟩,sm,hx2⟩:=p;have el:((aZ (eff t)).map fun k=>kV k.1).length=(movers (eff t)).length:=by rw[fC,List.length_map];unfold gz;rw[List.length_map]
   rw[el,List.take_length] at hx2;refine⟨sm _ _ gL,_,rfl,k _ _ (aF.lk hgo (by rw[hB];exact sm)) hx ?_⟩;rw[ab (Ne.symm ngx)];exact hx2
theorem T6{x dx:Addr}{rp:RPt}(F:cW P w K a H rp.f rp.d rp.fp t)(W:Wf t)(hl:Rd H rp.tl (.dK (bZ rp.l)))(hc:Rd H rp.ct (.dK (bZ (qN (eff t) t.water rp.c))))(mv:∀p∈rp.l,mvB (eff t) p=true)(nx:H x=none)(ndx:H dx=none)(ne:dx≠x):
  aF H (upd (upd H dx (.own x)) x (.ins a.az dx (rfs rp)))∧RkR P w K a (upd (upd H dx (.own x)) x (.ins a.az dx (rfs rp))) x rp t:=by
 have s:aF H (upd (upd H dx (.own x)) x (.ins a.az dx (rfs rp))):=fun b o e=>by rw[ab (ai e nx),ab (ai e ndx)];exact e
 exact⟨s,⟨dx,ae⟩,F.same s,cD hl s,cD hc s,mv,W⟩
end
end My
end
section
namespace L2
open PySem PySem.Spec PyProof.Rows
theorem acW{d:Addr}{o:Obj}{kvs:List (Key×V)}{g:TG}{tb:TS}{D:Ends}{σ:St}{H:Hp}(Pv:Nat→St→Hp→Prop)(h0:Pv 0 σ H)(hG:∀i σ H,Pv i σ H→H d=some (.frz o (.dK kvs)))
  (hs:∀i k v T σ H,kvs[i]?=some (k,v)→Pv i σ H→H T=none→g (.ref T) σ (upd H T (.tup [kV k,v])) fun σ2 H2=>tb {D with nx:=Pv (i+1),ct:=Pv (i+1),bk:=D.nx} σ2 H2) (hd:∀σ H,Pv kvs.length σ H→D.nx σ H):
  ∃W:Nat→Nat→St→Hp→Prop,(∃m,W 0 m σ H)∧∀i m σ H,W i m σ H→
   ((Iti d o kvs).stop i H∧D.nx σ H)∨((Iti d o kvs).go i H∧∃N:St→Hp→Prop,(∀σ' H',N σ' H'→∃m',m'<m∧W (i+1) m' σ' H')∧∀x H',(Iti d o kvs).yld i H x H'→g x σ H' fun σ2 H2=>tb {D with nx:=N,ct:=N,bk:=D.nx} σ2 H2):=by
 refine⟨fun i m σ H=>m+i=kvs.length∧Pv i σ H,⟨kvs.length,rfl,h0⟩,fun i m σ H ⟨hm,p⟩=>?_⟩;have hf:=hG i σ H p;cases m with
 |zero=>
  have e:i=kvs.length:=by omega
  exact .inl ⟨⟨hf,by omega⟩,by subst e;exact hd σ H p⟩
 |succ m=>
  refine .inr ⟨⟨hf,by omega⟩,Pv (i+1),fun σ' H' p'=>⟨m,by omega,by omega,p'⟩,fun x H' y=>?_⟩;obtain⟨T,k,v,hk,e1,hT,e2⟩:=y;subst e1 e2;exact hs i k v T σ H hk p hT
end L2
namespace My
open PySem PySem.Spec PyProof.Rows L2
open Vbsoaa (Man Men Order Table manAt goal into eff stays goes movers round firsts rounds)
section
variable{P:Program}{w:World}{K:PySem.W.Frag}{mg:Str→Option Value}{base:Heap}{a:Adr}{H H' B:Hp}{r:Addr}{rp:RPt}{t:Table}
def acX(P:Program)(w:World)(K:PySem.W.Frag)(a:Adr):Sp:=fun vs H Q _=>∃(f c:Addr)(d:Pt)(fp:FPt)(t:Table)(l:List Nat),vs=[.ref f,.ref c]∧FA P w K a H f d fp t∧Fx H d fp t∧Rd H c (.dK (bZ l))∧(∀p∈l,mvB (eff t) p=true)∧
 ∀H' x ct,aF H H'→RkR P w K a H' x ⟨f,c,ct,d,fp,l,l⟩ t→Q (.ref x) H'
theorem Fi(T:Txt w K mg a):aY P w K mg base CX0 6 a.kH a.JS ["field","told"] (acX P w K a):=by
 refine T.vV.ok abO (fun vs H Q E h=>?_) (fun cdv A outer s H vs Q E hr h=>?_)
 ·obtain⟨f,c,d,fp,t,l,rfl,_⟩:=h;rfl
 ·obtain⟨f,c,d,fp,t,l,rfl,⟨F,W⟩,fx,hc,mv,k⟩:=h;refine⟨_,(aj (au (gC T.gY (jI T) (hr.mono (by decide)) rfl T.oF T.gV .nil aC (aa (pv 0) (aa (pv 1) (aa (aH (lH T) (hr.mono (by decide)) rfl T.jr T.gp.kp T.js .nil aC (aa (pv 0) (aa (pv 1) ah))) ah)))))),?_⟩;refine⟨_,rfl,_,rfl,_,rfl,_,rfl,f,c,d,fp,t,l,rfl,⟨F,W⟩,fx,hc,fun H1 ct s1 hn hct=>?_⟩;refine fun x dx nx ndx ne=>⟨x,dx,⟨f,c,ct,d,fp,l,l⟩,rfl,ae,rfl,?_⟩
  rw[ko];obtain⟨s2,R⟩:=T6 (rp:=⟨f,c,ct,d,fp,l,l⟩) (F.same s1) W (cD hc s1) (.inl hct) mv nx ndx ne;exact k _ _ ct (s1.trans s2) R
def ZH(P:Program)(w:World)(K:PySem.W.Frag)(a:Adr):Sp:=fun vs H Q _=>∃(f c:Addr)(d:Pt)(fp:FPt)(t:Table)(l:List Nat),vs=[.ref f,.ref c]∧FA P w K a H f d fp t∧Fx H d fp t∧Rd H c (.dK (bZ l))∧(∀p∈l,mvB (eff t) p=true)∧l.Nodup∧
  ∀H',aF H H'→Q (.bl (Vbsoaa.agrees (eff t) t.water l)) H'
theorem acY(T:Txt w K mg a):aY P w K mg base CX0 7 a.kI a.JT ["field","told"] (ZH P w K a):=by
 refine T.Ka.ok abP (fun vs H Q E h=>?_) (fun cdv A outer s H vs Q E hr h=>?_)
 ·obtain⟨f,c,d,fp,t,l,rfl,_⟩:=h;rfl
 ·obtain⟨f,c,d,fp,t,l,rfl,⟨F,W⟩,fx,hc,mv,nd,k⟩:=h;have huT:=Nat.lt_of_succ_lt (bE hr);refine⟨_,(aj (au (dJ (aiC huT) (uI (aH (Fi T) (hr.mono (by decide)) rfl T.Bp T.vV.kp T.Bq .nil aC (aa (pv 0) (aa (pv 1) ah))) T.aA T.fz (iL T) (hr.mono (by decide)) T.fU .nil aC) (pv 1) (a0 _)))),?_⟩;refine⟨_,rfl,_,rfl,f,c,d,fp,t,l,rfl,⟨F,W⟩,fx,hc,mv,fun H1 x ct s1 R=>?_⟩;obtain⟨dx,hi⟩:=R.ins;refine⟨x,dx,_,rfl,hi,rfl,x,_,t,rfl,R,fx.same s1,fun H2 y s2 ny hy=>?_⟩;have s12:=s1.trans s2;refine⟨_,rfl,y,c,(round (eff t) t.water l l).map nK,l.map nK,rfl,rfl,.inl hy,cD hc s12,?_⟩;have e:kD ((round (eff t) t.water l l).map nK) (l.map nK)=Vbsoaa.agrees (eff t) t.water l:=by
   rw[Bool.eq_iff_iff,same_iff (pM (bI W) _ _ _) nd,Yw (bI W) nd mv]
  show Q (.bl (kD _ _)) H2;rw[e];exact k _ s12
theorem afy{ms:Men}{i:Nat}{m:Man}(h:(movers ms)[i]?=some m):∃q,goal m=some q∧(aZ ms)[i]?=some (nK m.prov,nV q):=by
 unfold aZ
 induction ms generalizing i with
 |nil=>cases h
 |cons x r ih=>
  unfold Vbsoaa.movers at h;rw[List.filter_cons] at h;rw[List.filterMap_cons];cases e:goal x with
  |none=>
   rw[e] at h;exact ih h
  |some q=>
   rw[e] at h;have h:(x::movers r)[i]?=some m:=h;cases i with
   |zero=>cases h;exact⟨q,e,rfl⟩
   |succ i=>exact ih h
def xj(P:Program)(w:World)(K:PySem.W.Frag)(a:Adr):Sp:=fun vs H Q _=>∃(f:Addr)(d:Pt)(fp:FPt)(t:Table),vs=[.ref f]∧FA P w K a H f d fp t∧Fx H d fp t∧
  ∀H' x,aF H H'→H' x=some (.dK (bZ (firsts (eff t) t.water)))→Q (.ref x) H'
theorem yf(T:Txt w K mg a):aY P w K mg base CX0 7 a.bM a.iD ["field"] (xj P w K a):=by
 refine T.iH.ok cZ (fun vs H Q E h=>?_) (fun cdv A outer s H vs Q E hr h=>?_)
 ·obtain⟨f,d,fp,t,rfl,_⟩:=h;rfl
 ·obtain⟨f,d,fp,t,rfl,⟨F,W⟩,fx,k⟩:=h;have hu:=bE hr;have e24:(movers (eff t)).length≤24:=by have:=Mt (eff t);rw[dg] at this;have:=W.men;omega
  refine⟨_,(af (aG (i:=1) cZ.nd rfl (Or.inl rfl) (aH (Fi T) (hr.mono (by decide)) rfl T.Bp T.vV.kp T.Bq .nil aC (aa (pv 0) (aa fG ah))))
   (af (aG (i:=2) cZ.nd rfl (Or.inl rfl) fG)
   (af (nP (mr PassesOwn.never rfl (adC (ay (pv 0) rfl)) (adf rfl (AM (bX (i:=3) cZ.nd rfl (Or.inl rfl)) (AM (bX (i:=4) cZ.nd rfl (Or.inl rfl)) ZQ))) (aj (bJ (PW.pt (jQ (bY (aT (pv 0) T.aE T.fH (iu T) (hr.mono (by decide)) T.gr .nil aC (aa (pv 4) ah))) (i9 (bY (aT (pv 1) T.aA T.fT (jK T) (hr.mono (by decide)) T.gW .nil aC (aa (pv 3) ah)))))) (aj (lT hu (pv 2) (pv 3) sM rfl)) aP))))
   (aj (au (pv 2)))))),?_⟩
  refine⟨_,rfl,fun c hc=>?_⟩;have s0:=aw (o:=.dK []) hc;refine⟨f,c,d,fp,t,[],rfl,⟨F.same s0,W⟩,fx.same s0,.inl ae,(fun p h=>by cases h),fun H1 rr ct s1 R=>?_⟩;generalize upd H c (.dK [])=H0 at s0 s1;have s01:=s0.trans s1;refine fun x hx=>?_;have s2:=aw (o:=.dK []) hx;have fx1:=fx.same s01;have hgo:=fx1.go;have ngx:fp.go≠x:=ai hgo hx;refine⟨fp.go,_,s2 _ _ hgo,True.intro,fun od=>?_⟩;have RL:RkR P w K a (upd H1 fp.go (.frz od (.dK (aZ (eff t))))) rr ⟨f,c,ct,d,fp,[],[]⟩ t:=R.lock hgo fx.ngo;have g0:upd (upd H1 x (.dK [])) fp.go (.frz od (.dK (aZ (eff t)))) fp.go=some (.frz od (.dK (aZ (eff t)))):=ae;have x0:upd (upd H1 x (.dK [])) fp.go (.frz od (.dK (aZ (eff t)))) x=some (.dK []):=by rw[ab (Ne.symm ngx)];exact ae
  have sL:aF (upd H1 fp.go (.frz od (.dK (aZ (eff t))))) (upd (upd H1 x (.dK [])) fp.go (.frz od (.dK (aZ (eff t))))):=fun b o e=>by
   by_cases z:b=fp.go
   ·subst z;rw[ae] at e⊢;exact e
   ·rw[ab z] at e⊢;rw[ab (ai e hx)];exact e
  have xL:upd H1 fp.go (.frz od (.dK (aZ (eff t)))) x=none:=by rw[ab (Ne.symm ngx)];exact hx
  have gL:upd H1 fp.go (.frz od (.dK (aZ (eff t)))) fp.go=some (.frz od (.dK (aZ (eff t)))):=ae;generalize hB:upd H1 fp.go (.frz od (.dK (aZ (eff t))))=B at RL sL xL gL;generalize upd (upd H1 x (.dK [])) fp.go (.frz od (.dK (aZ (eff t))))=H2 at g0 x0 sL⊢;obtain⟨dx,hi⟩:=RL.ins;obtain⟨fx',hf⟩:=RL.fld.ins;refine⟨_,rfl,f,_,fx',_,_,rfl,sL _ _ hf,T.aE,T.aM,eS _ _,fp.go,od,_,rfl,g0,?_⟩;refine acW (fun i σ H'=>i≤(movers (eff t)).length∧(∃p q,σ=[some (.ref f),some (.ref rr),some (.ref x),p,q])∧aF B H'∧H' x=some (.dK (bZ ((((movers (eff t)).take i).filter fun m=>(goal m).any (stays (eff t))&&goes (eff t) t.water [] [] m).map (·.prov))))) ⟨Nat.zero_le _,⟨_,_,rfl⟩,sL,x0⟩ (fun i σ H' p=>p.2.2.1 _ _ gL) (fun i ky v Tn σ H' hv p hT=>?_) (fun σ H' p=>?_)
  ·obtain⟨hi',⟨p0,q0,rfl⟩,sm,hx2⟩:=p;have hlt:i<(movers (eff t)).length:=by
    have:=(List.getElem?_eq_some_iff.mp hv).1;have el:(aZ (eff t)).length=(movers (eff t)).length:=by have:=congrArg List.length (fC (eff t));rw[List.length_map,List.length_map] at this;rw[this];unfold gz;rw[List.length_map]
    omega
   obtain⟨m,hm⟩:∃m,(movers (eff t))[i]?=some m:=⟨_,List.getElem?_eq_getElem hlt⟩
   obtain⟨q,hq,hg⟩:=afy hm;rw[hg] at hv;cases hv;have et:(movers (eff t)).take (i+1)=(movers (eff t)).take i++[m]:=by rw[List.take_add_one,hm];rfl
   obtain⟨hma,_⟩:=Qi (bI W) hm;have sT:=aw (o:=.tup [kV (nK m.prov),nV q]) hT;have smT:=sm.trans sT;have R1:=RL.same smT;have nw:=xi (Qj (bI W)) hm;have len:((((movers (eff t)).take i).filter fun m=>(goal m).any (stays (eff t))&&goes (eff t) t.water [] [] m).map (·.prov)).length≤24:=by
    rw[List.length_map];have:=List.length_filter_le (fun m=>(goal m).any (stays (eff t))&&goes (eff t) t.water [] [] m) ((movers (eff t)).take i);rw[List.length_take] at this;omega
   refine⟨Tn,_,rfl,SqT.of ae,rfl,_,_,rfl,_,_,rfl,rfl,?_⟩;refine⟨_,rfl,f,fx',_,rfl,smT _ _ hf,rfl,_,rfl,f,d,fp,t,q,rfl,⟨R1.fld,W⟩,_,rfl,?_⟩;rw[et,List.filter_append,List.map_append];have ga:(goal m).any (stays (eff t))=stays (eff t) q:=by rw[hq];rfl
   cases e1:stays (eff t) q with
   |false=>
    refine aS (aS ⟨hlt,⟨_,_,rfl⟩,smT,?_⟩);rw[List.filter_cons,ga,e1]
    simpa using sT _ _ hx2
   |true=>
    refine bq ⟨_,rfl,rr,dx,_,rfl,smT _ _ hi,rfl,_,rfl,rr,_,t,m.prov,q,m,rfl,R1,hma,hq,fun H3 s3=>⟨_,rfl,?_⟩⟩;have sT3:=sT.trans s3;cases e2:goes (eff t) t.water [] [] m with
    |false=>
     refine aS ⟨hlt,⟨_,_,rfl⟩,sm.trans sT3,?_⟩;rw[List.filter_cons,ga,e1,e2]
     simpa using sT3 _ _ hx2
    |true=>
     refine bq ⟨_,rfl,_,rfl,x,_,rfl,uU.k (k:=nK m.prov) (sT3 _ _ hx2) (by rw[pL];exact aB (by omega)),hlt,⟨_,_,rfl⟩,fun b o e=>?_,?_⟩
     ·rw[ab (ai e xL)];exact sT3 _ _ (sm _ _ e)
     ·rw[ae,Mp (fun z=>nw (Mq z)),List.filter_cons,ga,e1,e2];rfl
  ·obtain⟨_,⟨p0,q0,rfl⟩,sm,hx2⟩:=p;have el:(aZ (eff t)).length=(movers (eff t)).length:=by have:=congrArg List.length (fC (eff t));rw[List.length_map,List.length_map] at this;rw[this];unfold gz;rw[List.length_map]
   rw[el,List.take_length] at hx2;refine⟨sm _ _ gL,_,rfl,k _ _ (s01.trans (aF.lk hgo (by rw[hB];exact sm))) ?_⟩;rw[ab (Ne.symm ngx)];exact hx2
end
end My
end
section
namespace My
open PySem PySem.Spec PyProof.Rows L2
open Vbsoaa (Man Men Order Table manAt goal into eff stays goes movers round firsts rounds)
section
variable{P:Program}{w:World}{K:PySem.W.Frag}{mg:Str→Option Value}{base:Heap}{a:Adr}{H H' B:Hp}{r:Addr}{rp:RPt}{t:Table}
def amm(ms:Men)(w l:List Nat)(c:Addr)(H:Hp)(Q:VK):Prop:=∀H' x L,aF H H'→(x=c∨H x=none)→H' x=some (.dK (bZ L))→L.Nodup→(∀p∈L,mvB ms p=true)→(∀p,p∈L↔p∈rounds ms w (firsts ms w) ms.length l)→Q (.ref x) H'
theorem ahG{ms:Men}(nd:(ms.map (·.prov)).Nodup){w c l:List Nat}(n0:l.Nodup):∀k,(tl ms w c l k).Nodup
 |0=>n0
 |k+1=>pM nd _ _ _
theorem ahH{ms:Men}(nd:(ms.map (·.prov)).Nodup){w c l:List Nat}(m0:∀p∈l,mvB ms p=true):∀k,∀p∈tl ms w c l k,mvB ms p=true
 |0=>m0
 |k+1=>fun p hp=>(nY nd p).mpr (A1 nd hp)
def XN(P:Program)(w:World)(K:PySem.W.Frag)(a:Adr):Sp:=fun vs H Q _=>∃(f c:Addr)(d:Pt)(fp:FPt)(t:Table)(l:List Nat)(Ch:Nat→Prop),vs=[.ref f,.ref c]∧FA P w K a H f d fp t∧Fx H d fp t∧H c=some (.dK (bZ l))∧(∀p∈l,mvB (eff t) p=true)∧l.Nodup∧
  Chain (eff t) t.water (firsts (eff t) t.water) l Ch∧amm (eff t) t.water l c H Q
theorem Mu(T:Txt w K mg a):aY P w K mg base CX0 8 a.iR a.D5 ["field","told"] (XN P w K a):=by
 refine T.xF.ok mN (fun vs H Q E h=>?_) (fun cdv A outer s H vs Q E hr h=>?_)
 ·obtain⟨f,c,d,fp,t,l,Ch,rfl,_⟩:=h;rfl
 ·obtain⟨f,c,d,fp,t,l,Ch,rfl,⟨F,W⟩,fx,hc,mv,nd,C,k⟩:=h;have huT:=Nat.lt_of_succ_lt (bE hr);have ndm:=bI W;generalize hfc:firsts (eff t) t.water=fc at C;refine⟨_,(af (aG (i:=2) mN.nd rfl (Or.inl rfl) (aH (lH T) (hr.mono (by decide)) rfl T.jr T.gp.kp T.js .nil aC (aa (pv 0) (aa (aH (yf T) (hr.mono (by decide)) rfl T.mZ T.iH.kp T.m8 .nil aC (aa (pv 0) ah)) ah))))
   (af (aG (i:=3) mN.nd rfl (Or.inl rfl) (uI (gC T.gY (jI T) (hr.mono (by decide)) rfl T.oF T.gV .nil aC (aa (pv 0) (aa (pv 1) (aa (pv 2) ah)))) T.aA T.fz (iL T) (hr.mono (by decide)) T.fU .nil aC))
   (af (AN PassesOwn.never (bh (aiD huT) (pv 3) (pv 1) (a0 _)) (af (aG (i:=1) mN.nd rfl (Or.inl rfl) (pv 3))
   (aj (aG (i:=3) mN.nd rfl (Or.inl rfl) (uI (gC T.gY (jI T) (hr.mono (by decide)) rfl T.oF T.gV .nil aC (aa (pv 0) (aa (pv 1) (aa (pv 2) ah)))) T.aA T.fz (iL T) (hr.mono (by decide)) T.fU .nil aC)))))
   (aj (au (pv 1)))))),?_⟩
  refine⟨_,rfl,_,rfl,f,d,fp,t,rfl,⟨F,W⟩,fx,fun H1 x s1 hx=>?_⟩;rw[hfc] at hx;refine⟨f,x,d,fp,t,fc,rfl,⟨F.same s1,W⟩,fx.same s1,.inl hx,fun H2 ct s2 nct hct=>?_⟩;have s12:=s1.trans s2;refine⟨_,rfl,_,rfl,_,rfl,fun y dy ny ndy ney=>⟨y,dy,⟨f,c,ct,d,fp,l,fc⟩,rfl,ae,rfl,?_⟩⟩;rw[ko];obtain⟨s3,R3⟩:=T6 (rp:=⟨f,c,ct,d,fp,l,fc⟩) (a:=a) (F.same s12) W (.inl (s12 _ _ hc)) (.inl hct) mv ny ndy ney;have s13:=s12.trans s3;refine⟨y,dy,_,rfl,ae,rfl,y,_,t,rfl,R3,fx.same s13,fun H3 g0 s4 ng hg=>?_⟩;have s14:=s13.trans s4;have aou:H3 ct=some (.dK (bZ (qN (eff t) t.water fc))):=s4 _ _ (s3 _ _ hct);have hg:H3 g0=some (.dK (bZ (tl (eff t) t.water fc l 1))):=hg;generalize hS:tl (eff t) t.water fc l=S at C hg;have S0:S 0=l:=by rw[←hS];rfl
  refine⟨fun m σ Hn=>∃kk tc gc,m+kk=(eff t).length∧Ch kk∧((tc=c∨H tc=none)∧H gc=none)∧σ=[some (.ref f),some (.ref tc),some (.ref ct),some (.ref gc)]∧aF H3 Hn∧Hn tc=some (.dK (bZ (S kk)))∧Hn gc=some (.dK (bZ (S (kk+1)))),⟨(eff t).length,0,c,g0,rfl,C.zero,⟨.inl rfl,s13.free ng⟩,rfl,aF.dw,by rw[S0];exact s14 _ _ hc,hg⟩,?_⟩;rintro m σ Hn ⟨kk,tc,gc,hmk,hch,⟨nt1,nt2⟩,rfl,sn,htc,hgc⟩;refine⟨_,rfl,_,rfl,gc,tc,(S (kk+1)).map nK,(S kk).map nK,rfl,rfl,.inl hgc,.inl htc,_,rfl,?_⟩;have n1:(S (kk+1)).Nodup:=by rw[←hS];exact ahG ndm nd _
  have n2:(S kk).Nodup:=by rw[←hS];exact ahG ndm nd _
  have m1:∀p∈S (kk+1),mvB (eff t) p=true:=by rw[←hS];exact ahH ndm mv _
  have m2:∀p∈S kk,mvB (eff t) p=true:=by rw[←hS];exact ahH ndm mv _
  have s1n:=s14.trans sn;show if(!kD ((S (kk+1)).map nK) ((S kk).map nK))=true then _ else _
  cases e:kD ((S (kk+1)).map nK) ((S kk).map nK) with
  |true=>
   refine aS ⟨_,rfl,k _ _ (S kk) s1n nt1 htc n2 m2 ?_⟩;have q:=(same_iff n1 n2).mp e;rw[hfc];rw[←hS] at q⊢;exact C.end_ hch q
  |false=>
   have nq:¬(∀p,p∈S (kk+1)↔p∈S kk):=fun z=>by rw[(same_iff n1 n2).mpr z] at e;cases e
   have amn:=C.succ kk hch (by rw[hS];exact nq);have top:=C.top _ amn;refine bq ⟨fun σ' H'=>∃m',m'<m∧∃kk tc gc,m'+kk=(eff t).length∧Ch kk∧((tc=c∨H tc=none)∧H gc=none)∧σ'=[some (.ref f),some (.ref tc),some (.ref ct),some (.ref gc)]∧aF H3 H'∧H' tc=some (.dK (bZ (S kk)))∧H' gc=some (.dK (bZ (S (kk+1)))),fun σ' H' z=>z,?_⟩;refine⟨_,rfl,?_⟩;refine⟨_,rfl,_,rfl,_,rfl,fun y2 dy2 ny2 aov aow=>⟨y2,dy2,⟨f,gc,ct,d,fp,S (kk+1),fc⟩,rfl,ae,rfl,?_⟩⟩;rw[ko];obtain⟨s5,R5⟩:=T6 (rp:=⟨f,gc,ct,d,fp,S (kk+1),fc⟩) (a:=a) (F.same s1n) W (.inl hgc) (.inl (sn _ _ aou)) m1 ny2 aov aow;refine⟨y2,dy2,_,rfl,ae,rfl,y2,_,t,rfl,R5,(fx.same s1n).same s5,fun H6 g6 s6 ng6 hg6=>?_⟩;refine⟨m - 1,by omega,kk+1,gc,g6,by omega,amn,⟨.inr nt2,(s1n.trans s5).free ng6⟩,rfl,sn.trans (s5.trans s6),s6 _ _ (s5 _ _ hgc),?_⟩;rw[←hS] at hg6⊢;exact hg6
def aaR(P:Program)(w:World)(K:PySem.W.Frag)(a:Adr)(s:Men→List Nat):Sp:=fun vs H Q _=>∃(f:Addr)(d:Pt)(fp:FPt)(t:Table),vs=[.ref f]∧FA P w K a H f d fp t∧Fx H d fp t∧∀H' x L,aF H H'→H x=none→H' x=some (.dK (bZ L))→L.Nodup→(∀p∈L,mvB (eff t) p=true)→(∀p,p∈L↔p∈rounds (eff t) t.water (firsts (eff t) t.water) (eff t).length (s (eff t)))→Q (.ref x) H'
theorem XO(T:Txt w K mg a):aY P w K mg base CX0 9 a.om a.QX ["field"] (aaR P w K a fun _=>[]):=by
 refine T.Jb.ok aeq (fun vs H Q E h=>?_) (fun cdv A outer s H vs Q E hr h=>?_)
 ·obtain⟨f,d,fp,t,rfl,_⟩:=h;rfl
 ·obtain⟨f,d,fp,t,rfl,⟨F,W⟩,fx,k⟩:=h;refine⟨_,(aj (au (aH (Mu T) (hr.mono (by decide)) rfl T.D6 T.xF.kp T.D7 .nil aC (aa (pv 0) (aa fG ah))))),?_⟩;refine⟨_,rfl,fun c hc=>?_⟩;have s0:=aw (o:=.dK []) hc;exact⟨f,c,d,fp,t,[],_,rfl,⟨F.same s0,W⟩,fx.same s0,ae,(fun p h=>by cases h),List.nodup_nil,aea (bI W),fun H1 x L s1 nx=>k _ _ _ (s0.trans s1) (nx.elim (fun z=>by rw[z];exact hc) s0.free)⟩
theorem T7{ms:Men}{w c s s':List Nat}(h:∀p,p∈s↔p∈s'):∀n p,p∈rounds ms w c n s↔p∈rounds ms w c n s'
 |0,p=>h p
 |n+1,p=>by
  show p∈rounds ms w c n (round ms w c s)↔p∈rounds ms w c n (round ms w c s');rw[Fv (Alike.of h)]
theorem aaS(T:Txt w K mg a):aY P w K mg base CX0 9 a.vv a.YD ["field"] (aaR P w K a fun ms=>(movers ms).map (·.prov)):=by
 refine T.QZ.ok agy (fun vs H Q E h=>?_) (fun cdv A outer s H vs Q E hr h=>?_)
 ·obtain⟨f,d,fp,t,rfl,_⟩:=h;rfl
 ·obtain⟨f,d,fp,t,rfl,⟨F,W⟩,fx,k⟩:=h;obtain⟨dx,hf⟩:=F.ins;have nd:=bI W;refine⟨_,(aj (au (aH (Mu T) (hr.mono (by decide)) rfl T.D6 T.xF.kp T.D7 .nil aC (aa (pv 0) (aa (aH (T4 T) (hr.mono (by decide)) rfl T.j9 T.gU.kp T.ka .nil aC (aa (pv 0) (aa (ay (pv 0) rfl) ah))) ah))))),?_⟩;refine⟨_,rfl,_,rfl,_,rfl,f,_,dx,_,_,rfl,hf,T.aE,T.aM,eS _ _,f,d,fp,t,rfl,⟨F,W⟩,fx,fun H1 c s1 nc hc=>?_⟩;obtain⟨n1,n2⟩:=uY (eff t) (gz (eff t)) [] List.nodup_nil;have n2:∀p,p∈eX (eff t) [] (gz (eff t))↔p∈(movers (eff t)).map (·.prov):=fun p=>by
   rw[n2 p];constructor
   ·rintro(h|h)
    ·cases h
    ·exact h.1
   ·intro h;exact .inr ⟨h,(nY nd p).mpr h⟩
  exact⟨f,c,d,fp,t,_,_,rfl,⟨F.same s1,W⟩,fx.same s1,hc,fun p hp=>(nY nd p).mpr ((n2 p).mp hp),n1,Yv nd n1 n2,fun H2 x L s2 nx hx l1 l2 l3=>k _ _ L (s1.trans s2) (nx.elim (fun z=>by rw[z];exact nc) s1.free) hx l1 l2 fun p=>(l3 p).trans (T7 n2 _ p)⟩
end
end My
end
section
namespace My
open PySem PySem.Spec PyProof.Rows L2
open Vbsoaa (Man Men Order Table manAt goal into eff stays goes movers round firsts rounds ringFrom)
def lR(ms:Men)(L:List Nat):List (Key×V):=L.filterMap fun p=>(gl ms p).map fun q=>(nK p,nV q)
theorem qP{ms:Men}{L:List Nat}(p:Nat):aR (lR ms L) (nK p)=if p∈L then(gl ms p).map nV else none:=by
 unfold lR
 induction L with
 |nil=>rfl
 |cons x r ih=>
  rw[List.filterMap_cons];by_cases e:x=p
  ·subst e;rw[if_pos List.mem_cons_self];cases h:gl ms x with
   |none=>
    show aR (List.filterMap _ r) (nK x)=none;rw[ih,h];split<;>rfl
   |some q=>exact fF rfl
  ·have e2:(p∈x::r)↔p∈r:=by
    rw[List.mem_cons];exact⟨fun h=>h.elim (fun z=>absurd z.symm e) id,.inr⟩
   have:(if p∈x::r then(gl ms p).map nV else none)=if p∈r then(gl ms p).map nV else none:=by
    by_cases c:p∈r
    ·rw[if_pos c,if_pos (e2.mpr c)]
    ·rw[if_neg c,if_neg (fun z=>c (e2.mp z))]
   rw[this,←ih];cases h:gl ms x with
   |none=>rfl
   |some q=>exact dD (fun y=>e (iw y))
theorem acZ(ms:Men)(L:List Nat):(lR ms L).length≤L.length:=List.length_filterMap_le _ _
section
variable{P:Program}{w:World}{K:PySem.W.Frag}{mg:Str→Option Value}{base:Heap}{a:Adr}{H H' B:Hp}{r:Addr}{rp:RPt}{t:Table}
theorem ajU(l:List Nat)(p:Nat):inV (nV p) (l.map nV)=l.contains p:=by
 unfold inV;rw[List.any_map]
 induction l with
 |nil=>rfl
 |cons x r ih=>
  rw[List.any_cons,List.contains_cons,ih];congr 1;show ((x:Int)==(p:Int))=(p==x);rw[Bool.eq_iff_iff,beq_iff_eq,beq_iff_eq];omega
theorem ag3(l:List Nat):(l.map nV).all AR=true:=by
 rw[List.all_eq_true];intro v hv;obtain⟨n,_,rfl⟩:=List.mem_map.mp hv;rfl
def T8:Sp:=fun vs H Q _=>∃(x:Addr)(ms:Men)(L:List Nat)(p:Nat),vs=[.ref x,.int p]∧Rd H x (.dK (lR ms L))∧L.Nodup∧L.length≤ms.length∧ms.length≤24∧p∈L∧(∀q∈L,∃y,gl ms q=some y)∧
 ∀H' l,aF H H'→H l=none→H' l=some (.lst ((ringFrom ms L p ms.length p).map nV))→Q (.ref l) H'
theorem T9(T:Txt w K mg a):aY P w K mg base CX0 1 a.fm a.vE ["free","p"] T8:=by
 refine T.vW.ok lY (fun vs H Q E h=>?_) (fun cdv A outer s H vs Q E hr h=>?_)
 ·obtain⟨x,ms,L,p,rfl,_⟩:=h;rfl
 ·obtain⟨x,ms,L,p,rfl,hx,nd,hL,h24,hp,hg,k⟩:=h;have hu:=bE hr;obtain⟨y,hy⟩:=hg p hp;refine⟨_,(af (aG (i:=2) lY.nd rfl (Or.inl rfl) (bf (aa (pv 1) ah)))
   (af (aG (i:=3) lY.nd rfl (Or.inl rfl) (bQ hu (pv 0) (pv 1) (fun _ _=>rfl)))
   (af (AN PassesOwn.never (PW.pt (jQ (gZ (k6 hu (pv 3) (pv 0))) (i9 (bh Qw (pv 3) (pv 2) (by with_unfolding_all rfl))))) (af (fo (uM PySem.F.plainAttrs_list PySem.F.slot_list_append PySem.F.type_list_append jR (pv 2) (aa (pv 3) ah)))
   (aj (aG (i:=3) lY.nd rfl (Or.inl rfl) (bQ hu (pv 0) (pv 3) (fun _ _=>rfl))))))
   (aj (au (mq (bh fb (pv 3) (pv 1) (a0 _)) (pv 2) (bf ah))))))),?_⟩
  refine⟨_,rfl,lF,fun l hl=>?_⟩;have s0:=aw (o:=.lst [V.int p]) hl;refine⟨_,rfl,_,rfl,x,nV y,rfl,.inl ⟨_,nK p,cD hx s0,rfl,by rw[qP,if_pos hp,hy];rfl⟩,?_⟩;refine⟨fun m σ Hn=>∃row at_,m+row.length=L.length∧σ=[some (.ref x),some (.int p),some (.ref l),some (nV at_)]∧aF H Hn∧Hn l=some (.lst (row.map nV))∧Way ms at_ row∧row.head?=some p∧row.Nodup∧∀q∈row,q∈L,⟨L.length - 1,[p],y,?_,rfl,s0,ae,hy,rfl,by simp,fun q hq=>by rw[List.mem_singleton.mp hq];exact hp⟩,?_⟩
  ·have:0<L.length:=List.length_pos_of_mem hp;simp;omega
  rintro m σ Hn ⟨row,at_,hm,rfl,sn,hl2,hw,h0,rnd,rin⟩;have rl:=nX rnd rin;have fin:¬(at_∈L∧at_∉row)→ringFrom ms L p ms.length p=if at_=p then row else[]:=fun nc=>by
   refine aed hw h0 rnd (fun q hq=>contains_iff.mpr (rin q hq)) (by omega) ?_;by_cases c:at_∈L
   ·exact .inr (Classical.byContradiction fun z=>nc ⟨c,z⟩)
   ·left
    cases z:L.contains at_ with
    |false=>rfl
    |true=>exact absurd (contains_iff.mp z) c
  have last:¬(at_∈L∧at_∉row)→X5 (tIf (Fm (tOp rEq (i8 3) (i8 1))) (i8 2) (ahX Hh)) {nx:=fun _ H'=>Q .non H',rt:=Q} [some (.ref x),some (.int p),some (.ref l),some (nV at_)] Hn:=by
   intro nc;have e:=fin nc;refine⟨_,rfl,_,rfl,rfl,_,rfl,?_⟩;rw[show decide (nV at_=V.int p)=decide ((at_:Int)=(p:Int)) from TV];by_cases c:at_=p
   ·rw[show decide ((at_:Int)=(p:Int))=true from decide_eq_true (by omega)];rw[if_pos c] at e;exact bq ⟨_,rfl,k _ _ sn hl (by rw[e];exact hl2)⟩
   ·rw[show decide ((at_:Int)=(p:Int))=false from decide_eq_false (by omega)];rw[if_neg c] at e;refine aS ⟨(by decide),fun z hz=>?_⟩;exact k _ _ (sn.trans (aw hz)) (sn.free hz) (by rw[e];exact ae)
  have hx2:=cD hx sn;refine⟨_,rfl,_,rfl,x,_,rfl,.inl ⟨_,nK at_,hx2,rfl,rfl⟩,_,rfl,?_⟩;rw[qP];by_cases c1:at_∈L
  ·obtain⟨z,hz⟩:=hg at_ c1
   rw[if_pos c1,hz];refine bq ⟨_,rfl,_,rfl,l,_,rfl,.inl (SqL.of hl2),rfl,ag3 row,_,rfl,?_⟩;show if(!inV (nV at_) (row.map nV))=true then _ else _
   rw[ajU];by_cases c2:at_∈row
   ·rw[contains_iff.mpr c2];exact aS (last (fun q=>q.2 c2))
   ·have e2:row.contains at_=false:=by cases q:row.contains at_ with|false=>rfl|true=>exact absurd (contains_iff.mp q) c2
    rw[e2];have lt:=aah rnd rin c1 c2;refine bq ⟨fun σ' H'=>∃m',m'<m∧∃row at_,m'+row.length=L.length∧σ'=[some (.ref x),some (.int p),some (.ref l),some (nV at_)]∧aF H H'∧H' l=some (.lst (row.map nV))∧Way ms at_ row∧row.head?=some p∧row.Nodup∧∀q∈row,q∈L,fun σ' H' z=>z,?_⟩;refine⟨_,rfl,.inl ⟨rfl,_,SqL.of hl2⟩,_,rfl,l,_,_,rfl,rfl,hl2,aB (by rw[List.length_map];omega),?_⟩;have s3:aF H (upd Hn l (.lst (row.map nV++[nV at_]))):=fun b o e=>by rw[ab (ai e hl)];exact sn _ _ e
    refine⟨_,rfl,_,rfl,x,nV z,rfl,.inl ⟨_,nK at_,cD hx s3,rfl,by rw[qP,if_pos c1,hz];rfl⟩,?_⟩;refine⟨m - 1,by omega,row++[at_],z,by rw[List.length_append];simp;omega,rfl,s3,by rw[ae,List.map_append];rfl,UX hw hz,?_,xq rnd c2,fun q hq=>?_⟩
    ·cases row with
     |nil=>cases h0
     |cons b row=>exact h0
    ·rcases List.mem_append.mp hq with h|h
     ·exact rin q h
     ·rw[List.mem_singleton.mp h];exact c1
  ·rw[if_neg c1];exact aS (aS (last (fun q=>c1 q.1)))
end
end My
end
section
namespace My
open PySem PySem.Spec PyProof.Rows L2
open Vbsoaa (Man Men Order Table manAt goal into eff stays goes movers round firsts rounds ringFrom)
section
variable{P:Program}{w:World}{K:PySem.W.Frag}{mg:Str→Option Value}{base:Heap}{a:Adr}{H H' B:Hp}{r:Addr}{rp:RPt}{t:Table}
theorem qQ(l:List Nat):(bZ l).map (fun k=>kV k.1)=l.map nV:=by
 unfold bZ setOf;rw[List.map_map,List.map_map];rfl
theorem ZI{ms:Men}{L:List Nat}{p q:Nat}(h:gl ms p=some q):lR ms (L++[p])=lR ms L++[(nK p,nV q)]:=by
 unfold lR;rw[List.filterMap_append];simp[h]
def Mv(P:Program)(w:World)(K:PySem.W.Frag)(a:Adr):Sp:=fun vs H Q _=>∃(f:Addr)(d:Pt)(fp:FPt)(t:Table),vs=[.ref f]∧FA P w K a H f d fp t∧Fx H d fp t∧
  ∀H' x L,aF H H'→H' x=some (.dK (lR (eff t) L))→L.Nodup→(∀p,p∈L↔p∈pO (eff t) t.water)→(∀p∈L,mvB (eff t) p=true)→Q (.ref x) H'
theorem O1(T:Txt w K mg a):aY P w K mg base CX0 10 a.dY a.rQ ["field"] (Mv P w K a):=by
 refine T.si.ok kl (fun vs H Q E h=>?_) (fun cdv A outer s H vs Q E hr h=>?_)
 ·obtain⟨f,d,fp,t,rfl,_⟩:=h;rfl
 ·obtain⟨f,d,fp,t,rfl,⟨F,W⟩,fx,k⟩:=h;have hu:=bE hr;have nd:=bI W;refine⟨_,(af (aG (i:=1) kl.nd rfl (Or.inl rfl) (aH (XO T) (hr.mono (by decide)) rfl T.Q0 T.Jb.kp T.Q1 .nil aC (aa (pv 0) ah)))
   (af (aG (i:=2) kl.nd rfl (Or.inl rfl) fG)
   (af (mr PassesOwn.never rfl (lU (ad1 (aH (aaS T) (hr.mono (by decide)) rfl T.YG T.QZ.kp T.YH .nil aC (aa (pv 0) ah)))) (bX (i:=3) kl.nd rfl (Or.inl rfl)) (aj (bJ (gZ (iO hu (pv 3) (pv 1))) (aj (lT hu (pv 2) (pv 3) (bQ hu (ay (pv 0) rfl) (pv 3) (fun _ _=>rfl)) rfl)) aP)))
   (aj (au (pv 2)))))),?_⟩
  refine⟨_,rfl,f,d,fp,t,rfl,⟨F,W⟩,fx,fun H1 fe Fl s1 nfe hfe fnd fmv fin=>?_⟩;refine fun x hx=>?_;have s2:=aw (o:=.dK []) hx;have s02:=s1.trans s2;refine⟨_,rfl,f,d,fp,t,rfl,⟨F.same s02,W⟩,fx.same s02,fun H3 me M s3 nme hme mnd mmv min=>?_⟩;have x3:H3 x=some (.dK []):=s3 _ _ ae;have s03:=s02.trans s3;have fe3:H3 fe=some (.dK (bZ Fl)):=s3 _ _ (s2 _ _ hfe);have amo:H1 me=none:=s2.free nme;have nmx:me≠x:=fun z=>by rw[z,ae] at nme;cases nme
  have nmf:me≠fe:=fun z=>by rw[z,hfe] at amo;cases amo
  have F3:=F.same s03;have nco:me≠fp.co:=fun z=>by have:=(F.same s02).com;rw[←z,nme] at this;cases this
  refine⟨me,_,hme,True.intro,fun od=>⟨me,od,rfl,.inl ⟨_,ae,?_⟩⟩⟩;have FL:cW P w K a (upd H3 me (.frz od (.dK (bZ M)))) f d fp t:=F3.lock hme nco;have feL:upd H3 me (.frz od (.dK (bZ M))) fe=some (.dK (bZ Fl)):=by rw[ab (Ne.symm nmf)];exact fe3
  have sL:aF H (upd H3 me (.frz od (.dK (bZ M)))):=fun b o e=>by rw[ab (ai e (s02.free nme))];exact s03 _ _ e
  have xL:upd H3 me (.frz od (.dK (bZ M))) x=some (.dK []):=by rw[ab (Ne.symm nmx)];exact x3
  have gL:upd H3 me (.frz od (.dK (bZ M))) me=some (.frz od (.dK (bZ M))):=ae;have nxH:H x=none:=s1.free hx;have nfx:fe≠x:=ai hfe hx;generalize upd H3 me (.frz od (.dK (bZ M)))=H4 at FL feL sL xL gL;have M24:M.length≤24:=by
   have a1:=nX mnd (fun p hp=>(nY nd p).mp (mmv p hp));have a2:=pN (eff t);rw[dg] at a2;have:=W.men;omega
  refine je gD (fun i σ Hn=>i≤M.length∧(∃pv,σ=[some (.ref f),some (.ref fe),some (.ref x),pv])∧(∀b o,H4 b=some o→b≠x→Hn b=some o)∧Hn x=some (.dK (lR (eff t) ((M.take i).filter fun p=>!Fl.contains p)))) ⟨Nat.zero_le _,⟨_,rfl⟩,fun b o e _=>e,xL⟩ (fun i σ Hn p=>p.2.2.1 _ _ gL nmx) (fun i v σ Hn hv p=>?_) (fun σ Hn p=>?_)
  ·obtain⟨hi,⟨pv,rfl⟩,sm,hx2⟩:=p;rw[qQ,List.getElem?_map] at hv;obtain⟨p,hp,rfl⟩:=Option.map_eq_some_iff.mp hv;have hlt:i<M.length:=(List.getElem?_eq_some_iff.mp hp).1;have et:M.take (i+1)=M.take i++[p]:=by rw[List.take_add_one,hp];rfl
   obtain⟨oo,g,ge⟩:=sJ (.inl (sm _ _ feL nfx)) p;have ge:oo.isSome=Fl.contains p:=ge;refine⟨_,rfl,_,rfl,fe,oo,rfl,g,_,rfl,?_⟩;rw[ge,et,List.filter_append];cases c:Fl.contains p with
   |true=>
    refine aS ⟨hlt,⟨_,rfl⟩,sm,?_⟩;rw[List.filter_cons,c]
    simpa using hx2
   |false=>
    obtain⟨q,hq⟩:=Option.isSome_iff_exists.mp (mmv p (List.mem_of_getElem? hp));have hgv:aR (aZ (eff t)) (nK p)=some (nV q):=by rw[qM nd,hq];rfl
    obtain⟨fx',hf⟩:=FL.ins;have aox:f≠x:=aK hf xL (fun z=>nomatch z);have ngx:fp.go≠x:=fun z=>by
     rcases F.goals with h|⟨o,h⟩
     ·rw[z,nxH] at h;cases h
     ·rw[z,nxH] at h;cases h
    have hgo:Rd Hn fp.go (.dK (aZ (eff t))):=by
     rcases FL.goals with h|⟨o,h⟩
     ·exact .inl (sm _ _ h ngx)
     ·exact .inr ⟨o,sm _ _ h ngx⟩
    have np:p∉(M.take i).filter fun p=>!Fl.contains p:=fun z=>by
     have h1:=(List.mem_filter.mp z).1;obtain⟨j,hj,e⟩:=List.getElem_of_mem h1;rw[List.length_take] at hj;rw[List.getElem_take] at e;have q1:M[j]?=some p:=by rw[List.getElem?_eq_getElem (by omega),e]
     have:=(List.getElem?_inj (by omega) mnd).mp (q1.trans hp.symm);omega
    have hfree:aR (lR (eff t) ((M.take i).filter fun p=>!Fl.contains p)) (nK p)=none:=by rw[qP,if_neg np]
    have len:(lR (eff t) ((M.take i).filter fun p=>!Fl.contains p)).length≤24:=by
     have a1:=acZ (eff t) ((M.take i).filter fun p=>!Fl.contains p);have a2:=List.length_filter_le (fun p=>!Fl.contains p) (M.take i);rw[List.length_take] at a2;omega
    refine bq ⟨_,rfl,f,_,fx',_,_,rfl,sm _ _ hf aox,T.aE,T.aM,eS _ _,_,rfl,fp.go,_,rfl,.inl ⟨_,nK p,hgo,rfl,hgv.symm⟩,_,rfl,_,rfl,x,_,rfl,uU.k (k:=nK p) hx2 (aB (by omega)),hlt,⟨_,rfl⟩,fun b o e ne=>?_,?_⟩
    ·rw[ab ne];exact sm _ _ e ne
    ·rw[ae,mw _ hfree,List.filter_cons,c];show some (HO.dK (lR (eff t) ((M.take i).filter fun p=>!Fl.contains p)++[(nK p,nV q)]))=some (HO.dK (lR (eff t) ((M.take i).filter (fun p=>!Fl.contains p)++[p])));rw[ZI hq]
  ·obtain⟨_,⟨pv,rfl⟩,sm,hx2⟩:=p;rw[qQ,List.length_map,List.take_length] at hx2;refine⟨_,rfl,k _ _ (M.filter fun p=>!Fl.contains p) (fun b o e=>sm _ _ (sL _ _ e) (ai e nxH)) hx2 (mnd.filter _) (fun p=>?_) (fun p hp=>mmv p (List.mem_filter.mp hp).1)⟩;rw[List.mem_filter,min p];unfold pO;rw[List.mem_filter];have e2:Fl.contains p=(Vbsoaa.least (eff t) t.water).contains p:=by
    rw[Bool.eq_iff_iff,contains_iff,contains_iff];exact fin p
   rw[e2];exact Iff.rfl
end
end My
end
section
namespace My
open PySem PySem.Spec PyProof.Rows L2
open Vbsoaa (Man Men Order Table manAt goal into eff stays goes movers round firsts rounds ringFrom)
section
variable{P:Program}{w:World}{K:PySem.W.Frag}{mg:Str→Option Value}{base:Heap}{a:Adr}{H H' B:Hp}{r:Addr}{rp:RPt}{t:Table}
abbrev Lists(H:Hp):List Addr→List (List Nat)→Prop:=Paired fun b (row:List Nat)=>H b=some (.lst (row.map nV))
theorem Lists.same{H H':Hp}{bs:List Addr}{rows:List (List Nat)}(h:Lists H bs rows)(s:aF H H'):Lists H' bs rows:=xw (fun b row e=>s _ _ e) h
def cV(ms:Men)(L:List Nat)(p:Nat):List Nat:=if L.contains p then ringFrom ms L p ms.length p else[]
theorem XQ(ms:Men)(L:List Nat)(p:Nat):∀n q,(ringFrom ms L p n q).length≤n
 |0,q=>Nat.le_refl _
 |n+1,q=>by
  rw[cw];split
  ·exact Nat.zero_le _
  ·cases gl ms q with
   |none=>exact Nat.zero_le _
   |some r=>
    have ih:=XQ ms L p n r;by_cases c:r=p
    ·simp[c]
    ·simp only[c,if_false];cases z:ringFrom ms L p n r with
     |nil=>exact Nat.zero_le _
     |cons y l=>rw[z] at ih;show (l.length+1)+1≤n+1;rw[List.length_cons] at ih;omega
def afz(P:Program)(w:World)(K:PySem.W.Frag)(a:Adr):Sp:=fun vs H Q _=>∃(f:Addr)(d:Pt)(fp:FPt)(t:Table),vs=[.ref f]∧FA P w K a H f d fp t∧Fx H d fp t∧
 ∀H' x bs,aF H H'→H x=none→H' x=some (.lst (bs.map V.ref))→Lists H' bs (Vbsoaa.rings (eff t) t.water)→Q (.ref x) H'
theorem afA(T:Txt w K mg a):aY P w K mg base CX0 11 a.ot a.QY ["field"] (afz P w K a):=by
 refine T.Q2.ok vt (fun vs H Q E h=>?_) (fun cdv A outer s H vs Q E hr h=>?_)
 ·obtain⟨f,d,fp,t,rfl,_⟩:=h;rfl
 ·obtain⟨f,d,fp,t,rfl,⟨F,W⟩,fx,k⟩:=h;have hu:=bE hr;have nd:=bI W;have e24:(eff t).length≤24:=by rw[dg];exact W.men
  refine⟨_,(af (aG (i:=1) vt.nd rfl (Or.inl rfl) (aH (O1 T) (hr.mono (by decide)) rfl T.Br T.si.kp T.Bs .nil aC (aa (pv 0) ah)))
   (af (aG (i:=2) vt.nd rfl (Or.inl rfl) (bf ah))
   (af (nP (mr PassesOwn.never rfl (lU (ay (pv 0) rfl)) (bX (i:=3) vt.nd rfl (Or.inl rfl)) (af (aG (i:=4) vt.nd rfl (Or.inl rfl) (mq (gZ (k6 hu (pv 3) (pv 1))) (aH (T9 T) (hr.mono (by decide)) rfl T.FR T.vW.kp T.FT .nil aC (aa (pv 1) (aa (pv 3) ah))) (bf ah)))
   (aj (bJ (PW.pt (jQ (adk (pv 4) (fun _=>rfl)) (i9 (bh fb (pv 3) (aV (ah7 rfl) rfl T.aao Yz (aa (pv 4) ah)) (a0 _))))) (aj (fo (uM PySem.F.plainAttrs_list PySem.F.slot_list_append PySem.F.type_list_append jR (pv 2) (aa (pv 4) ah)))) aP)))))
   (aj (au (pv 2)))))),?_⟩
  refine⟨_,rfl,f,d,fp,t,rfl,⟨F,W⟩,fx,fun H1 fr L s1 hfr lnd lin lmv=>?_⟩;have L24:L.length≤(eff t).length:=by
   have a1:=nX lnd (fun p hp=>(nY nd p).mp (lmv p hp));have a2:=pN (eff t);omega
  refine⟨(by decide),fun x hx=>?_⟩;have nxH:H x=none:=s1.free hx;have s2:=aw (o:=.lst []) hx;have s02:=s1.trans s2;have fx2:=fx.same s02;have F2:=F.same s02;have fr2:upd H1 x (.lst []) fr=some (.dK (lR (eff t) L)):=s2 _ _ hfr;have x2:upd H1 x (.lst []) x=some (.lst []):=ae;generalize upd H1 x (.lst [])=H2 at s2 s02 fx2 F2 fr2 x2⊢;have hun:=fx2.u;refine⟨d.u,_,hun,True.intro,fun od=>?_⟩;have FL:cW P w K a (upd H2 d.u (.frz od (.dK (aD t.men d.m)))) f d fp t:=F2.lock hun fx.nu;have frL:Rd (upd H2 d.u (.frz od (.dK (aD t.men d.m)))) fr (.dK (lR (eff t) L)):=oV (.inl fr2) (fun _ _ z=>nomatch z) hun;have gL:upd H2 d.u (.frz od (.dK (aD t.men d.m))) d.u=some (.frz od (.dK (aD t.men d.m))):=ae;have nux:d.u≠x:=aK hun x2 (fun z=>nomatch z);have xL:upd H2 d.u (.frz od (.dK (aD t.men d.m))) x=some (.lst []):=by rw[ab (Ne.symm nux)];exact x2
  generalize hB:upd H2 d.u (.frz od (.dK (aD t.men d.m)))=B at FL frL gL xL;obtain⟨dx,hf⟩:=FL.ins;refine⟨_,rfl,f,_,dx,_,_,rfl,hf,T.aE,T.dv,Qg _ _,d.u,od,rfl,.inl ⟨_,gL,?_⟩⟩;have keys:(aD t.men d.m).map (fun k=>kV k.1)=((eff t).map (·.prov)).map nV:=by
   rw[DD];exact xH F.agW
  have amq:fr≠x:=ai hfr hx;refine je gD (fun i σ Hn=>i≤(eff t).length∧(∃pv rv,σ=[some (.ref f),some (.ref fr),some (.ref x),pv,rv])∧(∀b o,B b=some o→b≠x→Hn b=some o)∧∃bs,Hn x=some (.lst (bs.map V.ref))∧(∀b∈bs,b≠x)∧Lists Hn bs (((((eff t).take i).map (·.prov)).map (cV (eff t) L)).filter okR)) ⟨Nat.zero_le _,⟨_,_,rfl⟩,fun b o e _=>e,[],xL,(fun b h=>by cases h),.nil⟩ (fun i σ Hn p=>p.2.2.1 _ _ gL nux) (fun i v σ Hn hv p=>?_) (fun σ Hn p=>?_)
  ·obtain⟨hi,⟨pv,rv,rfl⟩,sm,bs,hx3,hbs,hls⟩:=p;rw[keys,List.getElem?_map,List.getElem?_map] at hv;obtain⟨p,hp,rfl⟩:=Option.map_eq_some_iff.mp hv;obtain⟨m,hm,rfl⟩:=Option.map_eq_some_iff.mp hp;have hlt:i<(eff t).length:=(List.getElem?_eq_some_iff.mp hm).1;have et:(eff t).take (i+1)=(eff t).take i++[m]:=by rw[List.take_add_one,hm];rfl
   have er:((((eff t).take (i+1)).map (·.prov)).map (cV (eff t) L)).filter okR=((((eff t).take i).map (·.prov)).map (cV (eff t) L)).filter okR++(if okR (cV (eff t) L m.prov) then[cV (eff t) L m.prov] else[]):=by
    rw[et,List.map_append,List.map_append,List.filter_append];congr 1;show List.filter okR [cV (eff t) L m.prov]=_;rw[List.filter_cons];rfl
   have frn:Rd Hn fr (.dK (lR (eff t) L)):=by
    rcases frL with h|⟨o,h⟩
    ·exact .inl (sm _ _ h amq)
    ·exact .inr ⟨o,sm _ _ h amq⟩
   have aoM:bs.length≤24:=by
    have a1:=Paired.length hls;have a2:=List.length_filter_le okR ((((eff t).take i).map (·.prov)).map (cV (eff t) L));rw[List.length_map,List.length_map,List.length_take] at a2;omega
   have rest:∀(Hm:Hp)(rw_:Addr),aF Hn Hm→rw_≠x→Hm rw_=some (.lst ((cV (eff t) L m.prov).map nV))→
     (ade (afL (fun σ H Q=>i8 4 σ H fun x H'=>∃k,ahV K x H' k∧Q k H') (Fm (tOp rEq (i8 3) (tCB (ako K) (uH (i8 4) Hh))))) (adb (tBM K "list" Qy (i8 2) (uH (i8 4) Hh))) Um)
      {nx:=fun σ Hn=>i+1≤(eff t).length∧(∃pv rv,σ=[some (.ref f),some (.ref fr),some (.ref x),pv,rv])∧(∀b o,B b=some o→b≠x→Hn b=some o)∧∃bs,Hn x=some (.lst (bs.map V.ref))∧(∀b∈bs,b≠x)∧Lists Hn bs (((((eff t).take (i+1)).map (·.prov)).map (cV (eff t) L)).filter okR),rt:=fun v Hn=>Hn d.u=some (.frz od (.dK (aD t.men d.m)))∧Q v (upd Hn d.u (.dK (aD t.men d.m))),bk:=fun σ Hn=>Hn d.u=some (.frz od (.dK (aD t.men d.m)))∧X5 (i8 2) {nx:=fun _ H'=>Q .non H',rt:=Q} σ (upd Hn d.u (.dK (aD t.men d.m))),ct:=fun σ Hn=>i+1≤(eff t).length∧(∃pv rv,σ=[some (.ref f),some (.ref fr),some (.ref x),pv,rv])∧(∀b o,B b=some o→b≠x→Hn b=some o)∧∃bs,Hn x=some (.lst (bs.map V.ref))∧(∀b∈bs,b≠x)∧Lists Hn bs (((((eff t).take (i+1)).map (·.prov)).map (cV (eff t) L)).filter okR)}
      [some (.ref f),some (.ref fr),some (.ref x),some (nV m.prov),some (.ref rw_)] Hm:=by
    intro Hm rw_ sm2 nrx hrw;have hx4:=sm2 _ _ hx3;have ajV:=hls.same sm2;have keep:∀b o,B b=some o→b≠x→Hm b=some o:=fun b o e ne=>sm2 _ _ (sm _ _ e ne);rw[er];refine⟨_,rfl,_,.inl ⟨_,SqL.of hrw,rfl⟩,?_⟩;cases ez:(cV (eff t) L m.prov) with
    |nil=>
     refine aS (aS ⟨hlt,⟨_,_,rfl⟩,keep,bs,hx4,hbs,?_⟩);show Lists Hm bs (_++[]);rw[List.append_nil];exact ajV
    |cons y0 l0=>
     rw[←ez];have hc:L.contains m.prov=true:=by
      cases c:L.contains m.prov with
      |true=>rfl
      |false=>unfold cV at ez;rw[c] at ez;cases ez
     have eR:cV (eff t) L m.prov=ringFrom (eff t) L m.prov (eff t).length m.prov:=by unfold cV;rw[hc];rfl
     have ne0:ringFrom (eff t) L m.prov (eff t).length m.prov≠[]:=by rw[←eR,ez];exact fun z=>nomatch z
     have em:(cV (eff t) L m.prov).map nV=((cV (eff t) L m.prov).map fun(n:Nat)=>(n:Int)).map V.int:=by rw[List.map_map];rfl
     rw[em] at hrw;have emp:(!((cV (eff t) L m.prov).map nV).isEmpty)=true:=by rw[ez];rfl
     rw[emp];refine bq ⟨_,rfl,_,rfl,rw_,_,rfl,SqL.of hrw,by rw[ez];simp,fun M hM hall=>⟨rfl,_,rfl,?_⟩⟩;obtain⟨M,hM',rfl⟩:=List.mem_map.mp hM;have hall':∀y∈cV (eff t) L m.prov,M≤y:=fun y hy=>by have:=hall (y:Int) (List.mem_map.mpr ⟨y,hy,rfl⟩);omega
     have ok:=agq (ms:=eff t) (op:=L) (p:=m.prov) (n:=(eff t).length) (M:=M) ne0 (by rw[←eR];exact hM') (by rw[←eR];exact hall');rw[←eR] at ok;rw[show decide (nV m.prov=V.int (M:Int))=decide ((m.prov:Int)=(M:Int)) from TV,ok];by_cases c:m.prov=M
     ·rw[show decide ((m.prov:Int)=(M:Int))=true from decide_eq_true (by omega),decide_eq_true c];rw[←em] at hrw;refine bq ⟨_,rfl,.inl ⟨rfl,_,SqL.of hx4⟩,_,rfl,x,_,_,rfl,rfl,hx4,aB (by rw[List.length_map];omega),hlt,⟨_,_,rfl⟩,fun b o e ne=>by rw[ab ne];exact keep b o e ne,bs++[rw_],?_,?_,?_⟩
      ·rw[ae,List.map_append];rfl
      ·intro b hb;rcases List.mem_append.mp hb with h|h
       ·exact hbs b h
       ·rw[List.mem_singleton.mp h];exact nrx
      ·have up:∀{cs:List Addr}{rws:List (List Nat)},(∀b∈cs,b≠x)→Lists Hm cs rws→Lists (upd Hm x (.lst (bs.map V.ref++[V.ref rw_]))) cs rws:=by
        intro cs rws hne pr
        induction pr with
        |nil=>exact .nil
        |cons e t ih=>exact .cons (by rw[ab (hne _ List.mem_cons_self)];exact e) (ih fun b hb=>hne b (List.mem_cons_of_mem _ hb))
       exact Paired.snoc (up hbs ajV) (by rw[ab nrx];exact hrw)
     ·rw[show decide ((m.prov:Int)=(M:Int))=false from decide_eq_false (by omega),decide_eq_false c];refine aS ⟨hlt,⟨_,_,rfl⟩,keep,bs,hx4,hbs,?_⟩;show Lists Hm bs (_++[]);rw[List.append_nil];exact ajV
   refine⟨_,rfl,_,rfl,fr,_,rfl,.inl ⟨_,nK m.prov,frn,rfl,rfl⟩,_,rfl,?_⟩;rw[qP];by_cases c:m.prov∈L
   ·have hmv:=lmv _ c;obtain⟨q,hq⟩:=Option.isSome_iff_exists.mp hmv;have hq:gl (eff t) m.prov=some q:=hq;rw[if_pos c,hq];refine bq ⟨_,rfl,_,rfl,fr,eff t,L,m.prov,rfl,frn,lnd,L24,e24,c,fun q hq=>Option.isSome_iff_exists.mp (lmv q hq),fun Hm l sm2 nl hl=>?_⟩;exact rest Hm l sm2 (fun z=>by rw[z,hx3] at nl;cases nl) (by unfold cV;rw[contains_iff.mpr c];exact hl)
   ·rw[if_neg c];refine aS ⟨(by decide),fun l hl=>rest _ l (aw hl) (fun z=>by rw[z,hx3] at hl;cases hl) ?_⟩;have cf:L.contains m.prov=false:=by cases q:L.contains m.prov with|false=>rfl|true=>exact absurd (contains_iff.mp q) c
    unfold cV;rw[cf];exact ae
  ·obtain⟨_,⟨pv,rv,rfl⟩,sm,bs,hx3,hbs,hls⟩:=p;have el:((aD t.men d.m).map fun k=>kV k.1).length=(eff t).length:=by rw[keys,List.length_map,List.length_map]
   rw[el,List.take_length] at hls;have hgn:=sm _ _ gL nux;refine⟨hgn,_,rfl,k _ x bs (fun b o e=>?_) nxH (by rw[ab (Ne.symm nux)];exact hx3) ?_⟩
   ·by_cases z:b=d.u
    ·subst z;rw[fx.u] at e;cases e;exact ae
    ·rw[ab z];refine sm _ _ ?_ (ai e nxH);rw[←hB,ab z];exact s02 _ _ e
   ·rw[U1 nd lin];refine xw (fun b row e=>?_) hls;rw[ab (aK e hgn (fun z=>nomatch z))];exact e
end
end My
end
section
namespace My
open PySem PySem.Spec PyProof.Rows L2
open Vbsoaa (Man Men Order Table orderNums manAt goal into eff movers left_ driven then_ isCarry)
section
variable{P:Program}{w:World}{K:PySem.W.Frag}{mg:Str→Option Value}{base:Heap}{a:Adr}{H H' B:Hp}{r f:Addr}{d:Pt}{fp:FPt}{t:Table}
def amr(P:Program)(w:World)(K:PySem.W.Frag)(a:Adr)(val:List Nat→Table→Man→V):Sp:=fun vs H Q _=>∃(f c:Addr)(d:Pt)(fp:FPt)(t:Table)(p:Nat)(m:Man)(l:List Nat),vs=[.ref f,.ref c,.int p]∧FA P w K a H f d fp t∧Rd H c (.dK (bZ l))∧(∀p∈l,mvB (eff t) p=true)∧
  manAt (eff t) p=some m∧∀H',aF H H'→Q (val l t m) H'
def isL(l:List Nat):V→V
 |.int i=>.bl (l.contains i.toNat)
 |v=>v
theorem zd(T:Txt w K mg a):aY P w K mg base CX0 1 a.dS a.rM ["field","told","p"] (amr P w K a fun l t m=>.bl (driven (eff t) l m)):=by
 refine T.l5.ok pb (fun vs H Q E h=>?_) (fun cdv A outer s H vs Q E hr h=>?_)
 ·obtain⟨f,c,d,fp,t,p,m,l,rfl,_⟩:=h;rfl
 ·obtain⟨f,c,d,fp,t,p,m,l,rfl,⟨F,W⟩,hc,mv,hm,k⟩:=h;have k:∀H',aF H H'→Q (.bl (driven (eff t) l m)) H':=k;have hu:=bE hr;obtain⟨dx,hf⟩:=F.ins;have mp:=(eQ hm).2;have el:=Fe (eff t) p;have e24:(eff t).length≤24:=by rw[dg];exact W.men
  unfold Vbsoaa.driven at k;obtain⟨o2,g2,ge2⟩:=sJ hc p;refine⟨_,(aj (au (o6 (qS (iO hu (pv 2) (pv 1))) (mn (aV (Yg rfl) rfl T.aaq YB (aa (sO (own:=[("comer",3)]) rfl pb.nd (ja (UB hu (ay (pv 0) rfl) (pv 2) (bf ah) ⟨rfl,rfl,rfl,rfl⟩)) (show ku ["field","told","p","comer"] (ao lW) _ [("comer",3)] from⟨rfl,by decide+kernel,by decide+kernel,by decide+kernel,by decide+kernel⟩) (fun _ _ _ _ _=>(bX (i:=3) pb.nd rfl (Or.inl rfl))) (by intro _ _ _ _ _;exact IV) (by intro _ _ _ _ _;exact(qS (k6 hu (pv 3) (pv 1))))) ah)))))),?_⟩;refine⟨_,rfl,_,rfl,c,o2,rfl,g2,_,rfl,?_⟩;rw[ge2,Fg mv hm];cases e2:left_ l m with
  |true=>rw[e2] at k;exact aS (k H aF.dw)
  |false=>
   rw[e2,Bool.not_false,Bool.true_and] at k;refine bq ⟨_,rfl,f,_,dx,_,_,rfl,hf,T.aE,T.e7,T2 d.u fp,fp.co,rfl,.inl ⟨_,.inl F.com⟩,_,rfl,(by decide),fun z hz=>?_⟩;have s0:=aw (o:=.lst []) hz;have F0:=F.same s0;obtain⟨o,lc,g,ge,hl⟩:=XH F0 p (z:=z) ae;refine⟨o,g,lc,ge,⟨_,SqL.of hl⟩,fun D hD=>?_⟩;generalize upd H z (.lst [])=H0 at s0 F0 hl hD g⊢;refine gE eW (fun H1 s1=>SqL.of (s1 _ _ hl)) hD (fun _=>true) (fun v y _=>y=isL l v) (fun _ _ _ _ h _=>h) (by rw[List.length_map];exact aB (by omega)) (fun i v H1 hx s1 N Y hN hY=>?_) (fun H1 ys s1 hy pr=>?_)
   ·rw[List.getElem?_map] at hx;obtain⟨q,hq,rfl⟩:=Option.map_eq_some_iff.mp hx;obtain⟨o3,g3,ge3⟩:=sJ (cD (cD hc s0) s1) q;refine⟨rfl,_,rfl,_,rfl,c,o3,rfl,g3,?_⟩;rw[ge3];exact hY _ _ aF.dw rfl rfl
   ·have e:=rf pr;have e1:((di (eff t) p).map nV).filter (fun _=>true)=(di (eff t) p).map nV:=List.filter_eq_self.mpr (fun _ _=>rfl);rw[e1,List.map_map] at e;have e2:ys=((di (eff t) p).map fun q=>l.contains q).map V.bl:=by rw[e,List.map_map];rfl
    rw[e2] at hy;refine⟨D,_,rfl,SqL.of hy,?_⟩;have e3:((di (eff t) p).map fun q=>l.contains q).any id=(into (eff t) m.prov).any fun x=>l.contains x.prov:=by
     rw[List.any_map,mp];unfold di;rw[List.any_map];rfl
    rw[e3];exact k _ (s0.trans s1)
def Hb(ms:Men)(l:List Nat)(m:Man):Int:=match then_ ms l m with
 |none=> -1
 |some p=>(p:Int)
theorem Mw(T:Txt w K mg a):aY P w K mg base CX0 2 a.dm a.pj ["field","told","p"] (amr P w K a fun l t m=>.int (Hb (eff t) l m)):=by
 refine T.pB.ok JP (fun vs H Q E h=>?_) (fun cdv A outer s H vs Q E hr h=>?_)
 ·obtain⟨f,c,d,fp,t,p,m,l,rfl,_⟩:=h;rfl
 ·obtain⟨f,c,d,fp,t,p,m,l,rfl,⟨F,W⟩,hc,mv,hm,k⟩:=h;have k:∀H',aF H H'→Q (.int (Hb (eff t) l m)) H':=k;have hu:=bE hr;obtain⟨dx,hf⟩:=F.ins;have mp:=(eQ hm).2;unfold Hb Vbsoaa.then_ at k;obtain⟨o2,g2,ge2⟩:=sJ hc p;refine⟨_,(af (bJ (gZ (k6 hu (pv 2) (pv 1))) (aj (au (bQ hu (ay (pv 0) rfl) (pv 2) (fun _ _=>rfl)))) aP)
   (aj (au (mq (bY (aH (zd T) (hr.mono (by decide)) rfl T.rZ T.l5.kp T.r8 .nil aC (aa (pv 0) (aa (pv 1) (aa (pv 2) ah))))) (nL jb aq) (pv 2))))),?_⟩
  refine⟨_,rfl,_,rfl,c,o2,rfl,g2,_,rfl,?_⟩;rw[ge2,Fg mv hm];cases e2:left_ l m with
  |true=>
   have gs:(goal m).isSome=true:=by unfold Vbsoaa.left_ at e2;rw[Bool.and_eq_true] at e2;exact e2.1
   obtain⟨q,hq⟩:=Option.isSome_iff_exists.mp gs;rw[e2,hq] at k;exact bq ⟨_,rfl,f,_,dx,_,_,rfl,hf,T.aE,T.aM,eS d.u fp,_,rfl,fp.go,_,rfl,.inl ⟨_,nK p,F.goals,rfl,(jJ W hm hq).symm⟩,k H aF.dw⟩
  |false=>
   rw[e2] at k;refine aS ⟨_,rfl,_,rfl,_,rfl,f,c,d,fp,t,p,m,l,rfl,⟨F,W⟩,hc,mv,hm,fun H1 s1=>⟨_,rfl,?_⟩⟩;cases e3:driven (eff t) l m with
   |true=>rw[e3] at k;exact bq ⟨_,rfl,k _ s1⟩
   |false=>rw[e3,mp] at k;exact aS ⟨_,rfl,k _ s1⟩
theorem ZJ(b q:Nat)(o:Order):decide (orderNums o=[4,(b:Int),(q:Int),0])=isCarry b q o:=by
 cases o with
 |carry x y=>
  show decide ([4,(x:Int),(y:Int),0]=[4,(b:Int),(q:Int),0])=(x==b&&y==q);rw[Bool.eq_iff_iff];simp only[decide_eq_true_eq,Bool.and_eq_true,beq_iff_eq,List.cons.injEq,true_and,and_true];omega
 |hold=>exact decide_eq_false (by intro z;injection z with z;omega)
 |move _ _ _=>exact decide_eq_false (by intro z;injection z with z;omega)
 |stay _=>exact decide_eq_false (by intro z;injection z with z;omega)
 |aid _ _=>exact decide_eq_false (by intro z;injection z with z;omega)
theorem ajW{ms:Men}(nd:(ms.map (·.prov)).Nodup)(l:List Nat){x:Man}(hx:x∈ms):(Vbsoaa.out ms l).contains x.prov=driven ms l x:=aaQ nd _ hx
abbrev Places(H:Hp):List Addr→Men→Prop:=Paired fun b (x:Man)=>H b=some (.tup ((plK (plc x)).map kV))
theorem Places.same{H H':Hp}{bs:List Addr}{ms:Men}(h:Places H bs ms)(s:aF H H'):Places H' bs ms:=xw (fun b row e=>s _ _ e) h
def Ua(P:Program)(w:World)(K:PySem.W.Frag)(a:Adr):Sp:=fun vs H Q _=>∃(f c:Addr)(d:Pt)(fp:FPt)(t:Table)(p q:Nat)(m:Man)(l:List Nat),vs=[.ref f,.ref c,.int p]∧FA P w K a H f d fp t∧Rd H c (.dK (bZ l))∧(∀p∈l,mvB (eff t) p=true)∧
  manAt (eff t) p=some m∧goal m=some q∧∀H' x bs,aF H H'→H' x=some (.lst (bs.map V.ref))→Places H' bs (Vbsoaa.carriers (eff t) (Vbsoaa.out (eff t) l) p q)→Q (.ref x) H'
theorem XR(T:Txt w K mg a):aY P w K mg base CX0 2 a.gg a.zQ ["field","told","p"] (Ua P w K a):=by
 refine T.z7.ok n8 (fun vs H Q E h=>?_) (fun cdv A outer s H vs Q E hr h=>?_)
 ·obtain⟨f,c,d,fp,t,p,q,m,l,rfl,_⟩:=h;rfl
 ·obtain⟨f,c,d,fp,t,p,q,m,l,rfl,⟨F,W⟩,hc,mv,hm,hq,k⟩:=h;have hu:=bE hr;obtain⟨dx,hf⟩:=F.ins;have e24:(eff t).length≤24:=by rw[dg];exact W.men
  have el:=Ha (eff t) [4,(p:Int),(q:Int),0];refine⟨_,(af (aG (i:=3) n8.nd rfl (Or.inl rfl) (UQ hu (ay (pv 0) rfl) (fW (aa (aX rfl T.aax T.aay) (aa (pv 2) (aa (bQ hu (ay (pv 0) rfl) (pv 2) (fun _ _=>rfl)) (aa aq ah))))) (bf ah) ⟨rfl,rfl,rfl,rfl⟩))
   (aj (au (sO (own:=[("fleet",4)]) rfl n8.nd (ja (pv 3)) (show ku ["field","told","p","fleets","fleet"] (ao ro) _ [("fleet",4)] from⟨rfl,by decide+kernel,by decide+kernel,by decide+kernel,by decide+kernel⟩) (fun _ _ _ _ _=>(bX (i:=4) n8.nd rfl (Or.inl rfl))) (by intro _ _ _ _ _;exact(lS (uE (bY (aH (zd (P:=P) (base:=base) T) (hr.mono (show 1≤1 by decide)) rfl T.rZ T.l5.kp T.r8 .nil aC (aa (pv 0) (aa (pv 1) (aa (pv 4) ah)))))))) (by intro _ _ _ _ _;exact(fW (aa (pv 4) (aa (A0 K (bQ hu (A0 K (pv 0) rfl) (pv 4) (fun _ _=>rfl)) rfl) ah)))))))),?_⟩
  refine⟨_,rfl,f,_,dx,_,_,rfl,hf,T.aE,T.iq,afl _ _,fp.g,_,rfl,F.given,_,rfl,_,rfl,f,_,dx,_,_,rfl,hf,T.aE,T.aM,eS _ _,_,rfl,fp.go,_,rfl,.inl ⟨_,nK p,F.goals,rfl,(jJ W hm hq).symm⟩,aB.le (by simp),fun y hy=>?_⟩;have sy:=aw (o:=.tup [V.int 4,V.int p,nV q,V.int 0]) hy;have ajX:upd H y (.tup [V.int 4,V.int p,nV q,V.int 0]) y=some (.tup [V.int 4,V.int p,nV q,V.int 0]):=ae;refine⟨(by decide),fun z hz=>?_⟩;have s0:=sy.trans (aw (o:=.lst []) hz);have F0:=F.same s0;have ajX:=aw (o:=.lst []) hz _ _ ajX;generalize hns:[4,(p:Int),(q:Int),0]=ns at el;obtain⟨lc,ge,hl⟩:∃lc,(aR fp.gk (iK ns)).getD (.ref z)=.ref lc∧upd (upd H y (.tup [V.int 4,V.int p,nV q,V.int 0])) z (.lst []) lc=some (.lst ((cH (eff t) ns).map nV)):=by
   rcases F0.gok ns with⟨e,e2⟩|⟨c,e,hc⟩
   ·exact⟨z,by rw[e];rfl,by rw[e2];exact ae⟩
   ·exact⟨c,by rw[e];rfl,hc⟩
  refine⟨fp.gk,iK ns,y,F0.given,rfl,by rw[ajP,←hns];exact SqT.of ajX,?_⟩;generalize upd (upd H y (.tup [V.int 4,V.int p,nV q,V.int 0])) z (.lst [])=H0 at s0 F0 hl⊢;refine⟨_,rfl,lc,ge,⟨_,SqL.of hl⟩,fun D hD=>?_⟩;have nd:=bI W;refine gE eW (fun H1 s1=>SqL.of (s1 _ _ hl)) hD (onN fun p=>(manAt (eff t) p).any fun x=>!driven (eff t) l x) (fun v y H=>∃x b,v=nV x.prov∧manAt (eff t) x.prov=some x∧y=.ref b∧H b=some (.tup ((plK (plc x)).map kV))) (fun x y H1 H2 h tu=>?_) (by rw[List.length_map];exact aB (by omega)) (fun i v H1 hx s1 N Y hN hY=>?_) (fun H1 ys s1 hy pr=>?_)
  ·obtain⟨x,b,h1,h2,h3,h4⟩:=h;exact⟨x,b,h1,h2,h3,tu _ _ h4⟩
  ·rw[List.getElem?_map] at hx;obtain⟨p',hp',rfl⟩:=Option.map_eq_some_iff.mp hx;clear hx;obtain⟨x,hx,rfl⟩:∃x,x∈eff t∧x.prov=p':=by
    have:=List.mem_of_getElem? hp';unfold cH at this;obtain⟨x,h1,h2⟩:=List.mem_map.mp this;exact⟨x,(List.mem_filter.mp h1).1,h2⟩
   have hmx:=cB nd hx;have F1:=F0.same s1;refine⟨rfl,_,rfl,_,rfl,_,rfl,f,c,d,fp,t,x.prov,x,l,rfl,⟨F1,W⟩,cD hc (s0.trans s1),mv,hmx,fun H2 s2=>⟨_,rfl,?_⟩⟩;have ep:(onN fun p=>(manAt (eff t) p).any fun x=>!driven (eff t) l x) (nV x.prov)=!driven (eff t) l x:=by rw[gA,hmx];rfl
   have F2:=F1.same s2;obtain⟨dx2,hf2⟩:=F2.ins;obtain⟨b,ux,oo,hv,hpx,hb⟩:=F2.unit hmx;cases e:driven (eff t) l x with
   |true=>exact aS (hN _ s2 (by rw[ep,e];rfl))
   |false=>
    have hsh:x.shore<4:=by
     have h9:=hmx;rw[i6] at h9;obtain⟨m0,h0,rfl⟩:=Option.map_eq_some_iff.mp h9;have:=W.shore m0 (eQ h0).1;show m0.shore<4;omega
    refine bq ⟨_,rfl,_,rfl,f,_,dx2,_,_,rfl,hf2,T.aE,T.dv,Qg _ _,_,rfl,d.u,_,rfl,.inl ⟨_,nK x.prov,F2.units,rfl,hv.symm⟩,b,_,ux,_,_,rfl,hb,T.eN,T.gX,rfl,qK,fun g hg=>?_⟩;refine hY _ _ (s2.trans (aw hg)) (by rw[ep,e];rfl) ⟨x,g,rfl,hmx,rfl,?_⟩;rw[ae];unfold plc;rw[afj hsh];rfl
  ·have el2:((cH (eff t) ns).map nV).filter (onN fun p=>(manAt (eff t) p).any fun x=>!driven (eff t) l x)=(Vbsoaa.carriers (eff t) (Vbsoaa.out (eff t) l) p q).map fun x=>nV x.prov:=by
    rw[eT _ _ _ (gA _)];unfold cH Vbsoaa.carriers;rw[List.filter_map,List.map_map,List.filter_filter];have:(nV∘fun x:Man=>x.prov)=fun x=>nV x.prov:=rfl;rw[this];congr 1;apply List.filter_congr;intro x hx;rw[ajW nd l hx,←hns,←ZJ,Bool.and_comm];congr 1;show (manAt (eff t) x.prov).any _=_;rw[cB nd hx];rfl
   rw[el2] at pr;have hsub:∀x∈Vbsoaa.carriers (eff t) (Vbsoaa.out (eff t) l) p q,x∈eff t:=fun x hx=>by unfold Vbsoaa.carriers at hx;exact(List.mem_filter.mp hx).1
   generalize Vbsoaa.carriers (eff t) (Vbsoaa.out (eff t) l) p q=cs at pr hsub k;have key:∀{cs:Men}{zs:List V},(∀x∈cs,x∈eff t)→Paired (fun v y=>∃x b,v=nV x.prov∧manAt (eff t) x.prov=some x∧y=V.ref b∧H1 b=some (.tup ((plK (plc x)).map kV))) (cs.map fun x=>nV x.prov) zs→∃bs:List Addr,zs=bs.map V.ref∧Places H1 bs cs:=by
    intro cs
    induction cs with
    |nil=>intro zs _ pr;cases pr;exact⟨[],rfl,.nil⟩
    |cons x cs ih=>
     intro zs hin pr;cases pr with
     |cons r pr=>
      obtain⟨x',b,e1,h2,e3,h4⟩:=r;have e1:x.prov=x'.prov:=by unfold nV at e1;injection e1 with e1;exact Int.ofNat.inj e1
      rw[←e1,cB nd (hin x List.mem_cons_self)] at h2;cases h2;obtain⟨bs,hb1,hb2⟩:=ih (fun y hy=>hin y (List.mem_cons_of_mem _ hy)) pr;exact⟨b::bs,by rw[List.map_cons,←hb1,e3],.cons h4 hb2⟩
   obtain⟨bs,hb1,hb2⟩:=key hsub pr;rw[hb1] at hy;exact k _ _ bs (s0.trans s1) hy hb2
end
end My
end
section
namespace My
open PySem PySem.Spec PyProof.Rows L2
open Vbsoaa (Man Men Order Table orderNums manAt goal into eff movers left_ driven then_ isCarry beside linked byWater chain)
section
variable{P:Program}{w:World}{K:PySem.W.Frag}{mg:Str→Option Value}{base:Heap}{a:Adr}{H H' B:Hp}{r f:Addr}{d:Pt}{fp:FPt}{t:Table}
def atP(H:Hp)(g:Nat→Bool):V→Bool
 |.ref b=>match H b with
  |some (.tup [.int i,.int j])=>g (4*i.toNat+j.toNat)
  |_=>false
 |_=>false
theorem Ub{H:Hp}{b:Addr}{n:Nat}(h:H b=some (.tup ((plK n).map kV)))(g:Nat→Bool):atP H g (.ref b)=g n:=by
 have h:H b=some (.tup [.int ((n/4:Nat):Int),.int ((n % 4:Nat):Int)]):=h;unfold atP;simp only[h];congr 1;show 4*((n/4:Nat):Int).toNat+((n % 4:Nat):Int).toNat=n;rw[Int.toNat_natCast,Int.toNat_natCast];omega
theorem pG{H:Hp}(g:Nat→Bool):∀{bs:List Addr}{ms:Men},Places H bs ms→∃cs,(bs.map V.ref).filter (atP H g)=cs.map V.ref∧Places H cs (ms.filter fun x=>g (plc x))
 |[],[],.nil=>⟨[],rfl,.nil⟩
 |b::bs,m::ms,.cons h r=>by
  obtain⟨cs,e,pr⟩:=pG g r;rw[List.map_cons,List.filter_cons,List.filter_cons,Ub h];cases c:g (plc m) with
  |true=>exact⟨b::cs,by rw[if_pos rfl,e];rfl,.cons h pr⟩
  |false=>exact⟨cs,by rw[if_neg (by decide),e],pr⟩
theorem Hc{H:Hp}:∀{bs:List Addr}{ms:Men},Places H bs ms→Paired (fun c (ls:List Key)=>H c=some (.tup (ls.map kV))) bs (ms.map fun x=>plK (plc x))
 |[],[],.nil=>.nil
 |b::bs,m::ms,.cons h r=>.cons h (Hc r)
theorem Mx{H:Hp}:∀{bs cs:List Addr}{ms ns:Men},Places H bs ms→Places H cs ns→Places H (bs++cs) (ms++ns)
 |[],_,[],_,.nil,q=>q
 |b::bs,cs,m::ms,ns,.cons h r,q=>.cons h (Mx r q)
theorem ac0{H:Hp}{bs:List Addr}{ms:Men}(h:Places H bs ms){i:Nat}{m:Man}(e:ms[i]?=some m):∃b,bs[i]?=some b∧H b=some (.tup ((plK (plc m)).map kV)):=by
 induction h generalizing i with
 |nil=>cases e
 |cons q t ih=>
  cases i with
  |zero=>cases e;exact⟨_,rfl,q⟩
  |succ i=>exact ih e
theorem afB{x y:Man}(hx:x.shore≤3)(hy:y.shore≤3)(h:plc x=plc y):x.prov=y.prov:=by
 unfold plc Vbsoaa.place at h;omega
def IP(P:Program)(w:World)(K:PySem.W.Frag)(a:Adr):Sp:=fun vs H Q _=>∃(ta x:Addr)(d:Pt)(t:Table)(bs:List Addr)(ms:Men)(p q:Nat),vs=[.ref ta,.ref x,.int p,.int q]∧nG P w K a H ta d t∧H x=some (.lst (bs.map V.ref))∧Places H bs ms∧(ms.map (·.prov)).Nodup∧(∀m∈ms,m.shore≤3)∧ms.length≤24∧
  ∀H' b,aF H H'→(b=true↔∃y,Rch t.board ms p y∧beside t.board y q=true)→Q (.bl b) H'
theorem Mz(T:Txt w K mg a):aY P w K mg base CX0 4 a.dn a.pk ["table","places","p","q"] (IP P w K a):=by
 refine T.pC.ok cz (fun vs H Q E h=>?_) (fun cdv A outer s H vs Q E hr h=>?_)
 ·obtain⟨ta,x,d,t,bs,ms,p,q,rfl,_⟩:=h;rfl
 ·obtain⟨ta,x,d,t,bs,ms,p,q,rfl,hT,hx,pl,nd,sh,l24,k⟩:=h;have hu:=bE hr;refine⟨_,(af (aG (i:=4) cz.nd rfl (Or.inr rfl) (sO (own:=[("place",7)]) rfl cz.nd (ja (pv 1)) (show ku ["table","places","p","q","reached","at","here","place"] (ao ij) _ [("place",7)] from⟨rfl,by decide+kernel,by decide+kernel,by decide+kernel,by decide+kernel⟩) (fun _ _ _ _ _=>(bX (i:=7) cz.nd rfl (Or.inl rfl))) (by intro _ _ _ _ _;exact(lS (bY (aH (fN (P:=P) (base:=base) T) (hr.mono (show 3≤3 by decide)) rfl T.dZ T.cQ.kp T.d7 .nil aC (aa (pv 0) (aa (pv 7) (aa (pv 2) ah))))))) (by intro _ _ _ _ _;exact(pv 7))))
   (af (aG (i:=5) cz.nd rfl (Or.inl rfl) aq)
   (af (AN PassesOwn.never (bh adj (pv 5) (aV cE rfl T.fJ c8 (aa (pv 4) ah)) (a0 _)) (af (aG (i:=6) cz.nd rfl (Or.inr rfl) (bK bL (pv 4) (pv 5) (fun _ _=>rfl)))
   (af (bJ (bY (aH (fN T) (hr.mono (by decide)) rfl T.dZ T.cQ.kp T.d7 .nil aC (aa (pv 0) (aa (pv 6) (aa (pv 3) ah))))) (aj (au sM)) aP)
   (af (fo (uM PySem.F.plainAttrs_list PySem.F.slot_list_extend PySem.F.type_list_extend xm (pv 4) (aa (sO (own:=[("place",7)]) rfl cz.nd (ja (pv 1)) (show ku ["table","places","p","q","reached","at","here","place"] (ao ij) _ [("place",7)] from⟨rfl,by decide+kernel,by decide+kernel,by decide+kernel,by decide+kernel⟩) (fun _ _ _ _ _=>(bX (i:=7) cz.nd rfl (Or.inl rfl))) (by intro _ _ _ _ _;exact(lS (PW.pt (jQ (bh (Yq K hu) (pv 7) (pv 4) (by with_unfolding_all rfl)) (i9 (bY (aH (sE (P:=P) (base:=base) T) (hr.mono (show 2≤3 by decide)) rfl T.ox T.kM.kp T.oy .nil aC (aa (pv 0) (aa (pv 6) (aa (pv 7) ah)))))))))) (by intro _ _ _ _ _;exact(pv 7))) ah)))
   (aj (ahQ (i:=5) cz.nd rfl (Or.inl rfl) aq ahR))))))
   (aj (au sM))))),?_⟩
  refine⟨_,rfl,x,rfl,⟨_,SqL.of hx⟩,fun D hD=>?_⟩;have bl:bs.length=ms.length:=Paired.length pl;refine gE eW (fun H1 s1=>SqL.of (s1 _ _ hx)) hD (atP H fun n=>Ft t.board.sea n p) (fun v y _=>y=v) (fun _ _ _ _ h _=>h) (by rw[List.length_map];exact aB (by omega)) (fun i v H1 hv s1 N Y hN hY=>?_) (fun H1 ys s1 hy pr=>?_)
  ·rw[List.getElem?_map] at hv;obtain⟨b,hb,rfl⟩:=Option.map_eq_some_iff.mp hv;obtain⟨m,_,hbm⟩:=qY pl hb;refine⟨rfl,_,rfl,_,rfl,_,rfl,ta,d,t,b,plc m,p,rfl,hT.same s1,s1 _ _ hbm,fun H2 s2=>⟨_,rfl,?_⟩⟩;cases e:Ft t.board.sea (plc m) p with
   |true=>exact bq ⟨_,rfl,hY _ _ s2 (by rw[Ub hbm];exact e) rfl⟩
   |false=>exact aS (hN _ s2 (by rw[Ub hbm];exact e))
  ·obtain⟨c0,e0,pl0⟩:=pG (fun n=>Ft t.board.sea n p) pl;rw[i7 pr,e0] at hy;have ajY:∀y,y∈(ms.filter fun x=>Ft t.board.sea (plc x) p)↔y∈ms∧beside t.board y p=true:=fun y=>List.mem_filter;refine⟨fun m σ Hn=>∃at_ cs rs hv pv,m+at_=ms.length∧at_≤rs.length∧σ=[some (.ref ta),some (.ref x),some (.int p),some (.int q),some (.ref D),some (.int (at_:Nat)),hv,pv]∧aF H Hn∧Hn D=some (.lst (cs.map V.ref))∧Places H cs rs∧(rs.map (·.prov)).Nodup∧(∀y∈rs,Rch t.board ms p y)∧(∀y∈ms,beside t.board y p=true→y∈rs)∧∀y∈rs.take at_,beside t.board y q=false∧∀z∈ms,linked t.board.sea (plc y) (plc z)=true→z∈rs,
    ⟨ms.length,0,c0,_,_,_,rfl,Nat.zero_le _,rfl,s1,hy,pl0,ba _ nd,fun y hy=>.base ((ajY y).mp hy).1 ((ajY y).mp hy).2,fun y hy hb=>(ajY y).mpr ⟨hy,hb⟩,fun y hy=>by cases hy⟩,?_⟩
   rintro m σ Hn ⟨at_,cs,rs,hv,pv,hm,hat,rfl,sn,hDn,plr,rnd,rch,r0,rt⟩;have cl:cs.length=rs.length:=Paired.length plr;have rin:∀y∈rs,y∈ms:=fun y hy=>(rch y hy).mem;have rl:rs.length≤ms.length:=by
    have:=nX rnd (fun z hz=>by
     obtain⟨y,hy,rfl⟩:=List.mem_map.mp hz;exact List.mem_map.mpr ⟨y,rin y hy,rfl⟩:∀z∈rs.map (·.prov),z∈ms.map (·.prov))
    rw[List.length_map,List.length_map] at this;exact this
   refine⟨_,rfl,_,rfl,D,_,rfl,hDn,_,_,rfl,rfl,_,rfl,?_⟩;rw[List.length_map,cl];by_cases c:at_<rs.length
   ·rw[show decide ((at_:Int)<(rs.length:Nat))=true from decide_eq_true (by omega)];obtain⟨here,hh⟩:∃here,rs[at_]?=some here:=⟨_,List.getElem?_eq_getElem c⟩
    obtain⟨hb,hhb,hht⟩:=ac0 plr hh;have hin:=List.mem_of_getElem? hh;refine bq ⟨fun σ' H'=>∃m',m'<m∧∃at_ cs rs hv pv,m'+at_=ms.length∧at_≤rs.length∧σ'=[some (.ref ta),some (.ref x),some (.int p),some (.int q),some (.ref D),some (.int (at_:Nat)),hv,pv]∧aF H H'∧H' D=some (.lst (cs.map V.ref))∧Places H cs rs∧(rs.map (·.prov)).Nodup∧(∀y∈rs,Rch t.board ms p y)∧(∀y∈ms,beside t.board y p=true→y∈rs)∧∀y∈rs.take at_,beside t.board y q=false∧∀z∈ms,linked t.board.sea (plc y) (plc z)=true→z∈rs,fun σ' H' z=>z,?_⟩;refine⟨_,rfl,_,rfl,D,_,_,_,rfl,rfl,hDn,nM (by rw[List.getElem?_map,hhb];rfl),?_⟩;refine⟨_,rfl,_,rfl,_,rfl,ta,d,t,hb,plc here,q,rfl,hT.same sn,sn _ _ hht,fun H2 s2=>⟨_,rfl,?_⟩⟩;have s02:=sn.trans s2;have hD2:=s2 _ _ hDn;cases eb:Ft t.board.sea (plc here) q with
    |true=>exact bq (k _ true s02 ⟨fun _=>⟨here,rch _ hin,eb⟩,fun _=>rfl⟩)
    |false=>
     refine aS ⟨_,rfl,.inl ⟨rfl,_,SqL.of hD2⟩,_,rfl,x,rfl,⟨_,SqL.of (s02 _ _ hx)⟩,fun E hE=>?_⟩;refine gE eW (fun H3 s3=>SqL.of (s3 _ _ (s02 _ _ hx))) hE (atP H fun n=>!(rs.any fun y=>decide (plc y=n))&&linked t.board.sea (plc here) n) (fun v y _=>y=v) (fun _ _ _ _ h _=>h) (by rw[List.length_map];exact aB (by omega)) (fun i v H3 hv s3 N Y hN hY=>?_) (fun H3 ys s3 hy pr=>?_)
     ·rw[List.getElem?_map] at hv;obtain⟨b,hbb,rfl⟩:=Option.map_eq_some_iff.mp hv;obtain⟨z,_,hbz⟩:=qY pl hbb;have s03:=s02.trans s3;have ep:=Ub hbz (fun n=>!(rs.any fun y=>decide (plc y=n))&&linked t.board.sea (plc here) n);have ea:((rs.map fun x=>plK (plc x)).any fun ls=>decide (ls=plK (plc z)))=rs.any fun y=>decide (plc y=plc z):=by
       rw[List.any_map];apply AJ;intro y _;show decide (plK (plc y)=plK (plc z))=_;by_cases e:plc y=plc z
       ·rw[e];simp
       ·rw[decide_eq_false e,decide_eq_false (fun h=>e (QN h))]
      refine⟨rfl,_,rfl,_,rfl,D,cs,rs.map fun x=>plK (plc x),b,plK (plc z),rfl,rfl,SqL.of (s3 _ _ hD2),Hc (plr.same s03),s03 _ _ hbz,_,rfl,?_⟩;rw[ea];cases e1:rs.any fun y=>decide (plc y=plc z) with
      |true=>exact aS (aS (hN _ aF.dw (by rw[ep,e1];rfl)))
      |false=>
       refine bq ⟨_,rfl,_,rfl,_,rfl,ta,d,t,hb,b,plc here,plc z,rfl,hT.same s03,s03 _ _ hht,s03 _ _ hbz,fun H4 s4=>⟨_,rfl,?_⟩⟩;cases e2:linked t.board.sea (plc here) (plc z) with
       |true=>exact bq ⟨_,rfl,hY _ _ s4 (by rw[ep,e1,e2];rfl) rfl⟩
       |false=>exact aS (hN _ s4 (by rw[ep,e1,e2];rfl))
     ·obtain⟨c1,e1,pl1⟩:=pG (fun n=>!(rs.any fun y=>decide (plc y=n))&&linked t.board.sea (plc here) n) pl;rw[i7 pr,e1] at hy;generalize hg:(ms.filter fun x=>!(rs.any fun y=>decide (plc y=plc x))&&linked t.board.sea (plc here) (plc x))=gs at pl1;have ajZ:∀z,z∈gs↔z∈ms∧(rs.any fun y=>decide (plc y=plc z))=false∧linked t.board.sea (plc here) (plc z)=true:=fun z=>by
       rw[←hg,List.mem_filter,Bool.and_eq_true,Bool.not_eq_true']
      have gl_:gs.length≤ms.length:=by rw[←hg];exact List.length_filter_le _ _
      have cl1:c1.length=gs.length:=Paired.length pl1;refine⟨D,E,_,_,rfl,rfl,s3 _ _ hD2,hy,by rw[List.length_map,List.length_map];exact aB.le (by omega),?_⟩;refine⟨_,rfl,_,_,rfl,rfl,m - 1,by omega,at_+1,cs++c1,rs++gs,_,_,by omega,by rw[List.length_append];omega,rfl,fun b o e=>?_,?_,Mx plr pl1,?_,?_,?_,?_⟩
      ·rw[ab (ai e hD)];exact s3 _ _ (s02 _ _ e)
      ·rw[ae,List.map_append]
      ·rw[List.map_append];refine List.nodup_append.mpr ⟨rnd,by rw[←hg];exact ba _ nd,fun u hu v hv e=>?_⟩;obtain⟨y,hy1,rfl⟩:=List.mem_map.mp hu;obtain⟨z,hz1,rfl⟩:=List.mem_map.mp hv;have hz2:=(ajZ z).mp hz1;have:=xA nd (rin y hy1) hz2.1 e;subst this;have:=List.any_eq_false.mp hz2.2.1 y hy1;exact this (by simp)
      ·intro y hy1;rcases List.mem_append.mp hy1 with h|h
       ·exact rch y h
       ·have h2:=(ajZ y).mp h;exact .step (rch here hin) h2.1 h2.2.2
      ·intro y h1 h2;exact List.mem_append_left _ (r0 y h1 h2)
      ·intro y hy1;rw[List.take_append_of_le_length (by omega),List.take_add_one,hh] at hy1;rcases List.mem_append.mp hy1 with h|h
       ·exact⟨(rt y h).1,fun z hz lk=>List.mem_append_left _ ((rt y h).2 z hz lk)⟩
       ·have:y=here:=by simpa using h
        subst this;refine⟨eb,fun z hz lk=>?_⟩;cases e9:rs.any fun y=>decide (plc y=plc z) with
        |false=>exact List.mem_append_right _ ((ajZ z).mpr ⟨hz,e9,lk⟩)
        |true=>
         obtain⟨u,hu,eu⟩:=List.any_eq_true.mp e9;have:=afB (sh u (rin u hu)) (sh z hz) (of_decide_eq_true eu);rw[←xA nd (rin u hu) hz this];exact List.mem_append_left _ hu
   ·rw[show decide ((at_:Int)<(rs.length:Nat))=false from decide_eq_false (by omega)];refine aS (k _ false sn ⟨(by intro z;cases z),fun⟨y,hy1,hy2⟩=>?_⟩);have et:rs.take at_=rs:=List.take_of_length_le (by omega)
    rw[et] at rt;have:=Rch.closed (r:=rs) r0 (fun y hy z hz lk=>(rt y hy).2 z hz lk) hy1;rw[(rt y this).1] at hy2;cases hy2
def IQ(P:Program)(w:World)(K:PySem.W.Frag)(a:Adr):Sp:=fun vs H Q _=>∃(ta f c:Addr)(d:Pt)(fp:FPt)(t:Table)(l:List Nat),vs=[.ref ta,.ref f,.ref c]∧nG P w K a H ta d t∧FA P w K a H f d fp t∧Fx H d fp t∧Rd H c (.dK (bZ l))∧(∀p∈l,mvB (eff t) p=true)∧
  ∀H' x,aF H H'→H' x=some (.lst ((Vbsoaa.ways t.board (eff t) l).map nV))→Q (.ref x) H'
theorem MA(T:Txt w K mg a):aY P w K mg base CX0 5 a.dq a.pq ["table","field","told"] (IQ P w K a):=by
 refine T.pD.ok fZ (fun vs H Q E h=>?_) (fun cdv A outer s H vs Q E hr h=>?_)
 ·obtain⟨ta,f,c,d,fp,t,l,rfl,_⟩:=h;rfl
 ·obtain⟨ta,f,c,d,fp,t,l,rfl,hT,⟨F,W⟩,fx,hc,mv,k⟩:=h;have hu:=bE hr;have nd:=bI W;have e24:(eff t).length≤24:=by rw[dg];exact W.men
  have ml:=Mm (eff t);have shr:∀m∈eff t,m.shore≤3:=fun x hx=>by
   have h9:=cB nd hx;rw[i6] at h9;obtain⟨m0,h0,rfl⟩:=Option.map_eq_some_iff.mp h9;exact W.shore m0 (eQ h0).1
  refine⟨_,(af (nP (adx (i:=3) (own:=[("p",4)]) rfl fZ.nd rfl rfl (afZ rfl rfl rfl (by decide+kernel)) (lU (ay (pv 1) rfl)) (show ku ["table","field","told","carried","p"] (ao ik) _ [("p",4)] from⟨rfl,by decide+kernel,by decide+kernel,by decide+kernel,by decide+kernel⟩) (fun _ _ _ _ _=>(bX (i:=4) fZ.nd rfl (Or.inl rfl))) (by intro _ _ _ _ _;exact(lS (bY (aT (pv 1) T.aE T.d8 (fV (P:=P) (base:=base) T) (hr.mono (show 1≤4 by decide)) T.eZ .nil aC (aa (pv 4) ah))))) (by intro _ _ _ _ _;exact(pv 4))))
   (aj (au (sO (own:=[("p",4)]) rfl fZ.nd (ja (pv 3)) (show ku ["table","field","told","carried","p"] (ao ik) _ [("p",4)] from⟨rfl,by decide+kernel,by decide+kernel,by decide+kernel,by decide+kernel⟩) (fun _ _ _ _ _=>(bX (i:=4) fZ.nd rfl (Or.inl rfl))) (by intro _ _ _ _ _;exact(lS (bY (aH (Mz (P:=P) (base:=base) T) (hr.mono (show 4≤4 by decide)) rfl T.yr T.pC.kp T.yt .nil aC (aa (pv 0) (aa (aH (XR (P:=P) (base:=base) T) (hr.mono (show 2≤4 by decide)) rfl T.J4 T.z7.kp T.J5 .nil aC (aa (pv 1) (aa (pv 2) (aa (pv 4) ah)))) (aa (pv 4) (aa (bQ hu (A0 K (pv 1) rfl) (pv 4) (fun _ _=>rfl)) ah)))))))) (by intro _ _ _ _ _;exact(pv 4)))))),?_⟩
  refine⟨fp.go,_,fx.go,True.intro,fun od=>?_⟩;have FL:=F.lock (o:=od) fx.go fx.ngo;have gL:upd H fp.go (.frz od (.dK (aZ (eff t)))) fp.go=some (.frz od (.dK (aZ (eff t)))):=ae;have bk:∀H',aF (upd H fp.go (.frz od (.dK (aZ (eff t))))) H'→aF H (upd H' fp.go (.dK (aZ (eff t)))):=fun H' s=>aF.lk fx.go s;generalize upd H fp.go (.frz od (.dK (aZ (eff t))))=B at FL gL bk⊢;obtain⟨dx,hf⟩:=FL.ins;refine⟨_,rfl,f,_,dx,_,_,rfl,hf,T.aE,T.aM,eS _ _,fp.go,od,rfl,.inl ⟨_,gL,fun D hD=>?_⟩⟩;have mvm:∀p∈gz (eff t),∃m q,m∈movers (eff t)∧m.prov=p∧manAt (eff t) p=some m∧goal m=some q:=fun p hp=>by
   unfold gz at hp;obtain⟨m,hm,rfl⟩:=List.mem_map.mp hp;have h2:=List.mem_filter.mp hm;obtain⟨q,hq⟩:=Option.isSome_iff_exists.mp h2.2;exact⟨m,q,hm,rfl,cB nd h2.1,hq⟩
  refine gE gD (fun H1 s1=>s1 _ _ gL) hD (onN fun p=>(manAt (eff t) p).any byWater) (fun v y _=>y=v) (fun _ _ _ _ h _=>h) (by rw[fC,List.length_map];exact aB (by omega)) (fun i v H1 hv s1 N Y hN hY=>?_) (fun H1 ys s1 hy pr=>?_)
  ·rw[fC,List.getElem?_map] at hv;obtain⟨p,hp,rfl⟩:=Option.map_eq_some_iff.mp hv;obtain⟨m,q,_,_,hm,hq⟩:=mvm p (List.mem_of_getElem? hp);have F1:=FL.same s1;obtain⟨dx1,hf1⟩:=F1.ins;have ep:(onN fun p=>(manAt (eff t) p).any byWater) (nV p)=byWater m:=by rw[gA,hm];rfl
   refine⟨rfl,_,rfl,f,dx1,_,rfl,hf1,rfl,_,rfl,f,d,fp,t,p,m,rfl,⟨F1,W⟩,hm,_,rfl,?_⟩;cases e:byWater m with
   |true=>exact bq ⟨_,rfl,hY _ _ aF.dw (by rw[ep,e]) rfl⟩
   |false=>exact aS (hN _ aF.dw (by rw[ep,e]))
  ·rw[i7 pr,fC,eT _ _ _ (gA _)] at hy;refine⟨s1 _ _ gL,?_⟩;have sH:=bk _ s1;have nD:D≠fp.go:=fun z=>by rw[z,gL] at hD;cases hD
   have hy:upd H1 fp.go (.dK (aZ (eff t))) D=some (.lst (((gz (eff t)).filter fun p=>(manAt (eff t) p).any byWater).map nV)):=by rw[ab nD];exact hy
   generalize upd H1 fp.go (.dK (aZ (eff t)))=H2 at sH hy⊢;have cl:=List.length_filter_le (fun p=>(manAt (eff t) p).any byWater) (gz (eff t));refine⟨_,rfl,D,rfl,⟨_,SqL.of hy⟩,fun E hE=>?_⟩;refine gE eW (fun H3 s3=>SqL.of (s3 _ _ hy)) hE (onN fun p=>(manAt (eff t) p).any fun m=>(goal m).any fun q=>chain t.board (eff t) (Vbsoaa.out (eff t) l) p q) (fun v y _=>y=v) (fun _ _ _ _ h _=>h) (by rw[List.length_map];exact aB (by omega)) (fun i v H3 hv s3 N Y hN hY=>?_) (fun H3 ys s3 hy3 pr=>?_)
   ·rw[List.getElem?_map] at hv;obtain⟨p,hp,rfl⟩:=Option.map_eq_some_iff.mp hv;obtain⟨m,q,_,mp,hm,hq⟩:=mvm p (List.mem_filter.mp (List.mem_of_getElem? hp)).1;have s03:=sH.trans s3;have F3:=F.same s03;have ep:(onN fun p=>(manAt (eff t) p).any fun m=>(goal m).any fun q=>chain t.board (eff t) (Vbsoaa.out (eff t) l) p q) (nV p)=chain t.board (eff t) (Vbsoaa.out (eff t) l) p q:=by rw[gA,hm];show (goal m).any _=_;rw[hq];rfl
    refine⟨rfl,_,rfl,_,rfl,_,rfl,_,rfl,f,c,d,fp,t,p,q,m,l,rfl,⟨F3,W⟩,cD hc s03,mv,hm,hq,fun H4 x bs s4 hx pl=>?_⟩;have F4:=F3.same s4;obtain⟨dx4,hf4⟩:=F4.ins;refine⟨_,rfl,_,rfl,f,_,dx4,_,_,rfl,hf4,T.aE,T.aM,eS _ _,_,rfl,fp.go,_,rfl,.inl ⟨_,nK p,F4.goals,rfl,(jJ W hm hq).symm⟩,?_⟩;have sub:∀x∈Vbsoaa.carriers (eff t) (Vbsoaa.out (eff t) l) p q,x∈eff t:=fun x hx=>by unfold Vbsoaa.carriers at hx;exact(List.mem_filter.mp hx).1
    refine⟨ta,x,d,t,bs,_,p,q,rfl,hT.same (s03.trans s4),hx,pl,by unfold Vbsoaa.carriers;exact ba _ nd,fun m hm=>shr m (sub m hm),?_,fun H5 b s5 hb=>?_⟩
    ·unfold Vbsoaa.carriers;have:=List.length_filter_le (fun x:Man=>isCarry p q x.order&&!(Vbsoaa.out (eff t) l).contains x.prov) (eff t);omega
    ·have eb:b=chain t.board (eff t) (Vbsoaa.out (eff t) l) p q:=by
      rw[Bool.eq_iff_iff,hb,abJ nd]
     refine⟨_,rfl,?_⟩;rw[eb];cases e:chain t.board (eff t) (Vbsoaa.out (eff t) l) p q with
     |true=>exact bq ⟨_,rfl,hY _ _ (s4.trans s5) (by rw[ep,e]) rfl⟩
     |false=>exact aS (hN _ (s4.trans s5) (by rw[ep,e]))
   ·rw[i7 pr,eT _ _ _ (gA _)] at hy3;refine k _ _ (sH.trans s3) ?_;rw[hy3];congr 3;unfold Vbsoaa.ways gz;rw[List.filter_map,List.filter_map,List.filter_filter];congr 1;apply List.filter_congr;intro m hm;have hma:=cB nd (List.mem_filter.mp hm).1;show ((manAt (eff t) m.prov).any _&&(manAt (eff t) m.prov).any _)=_;rw[hma,Bool.and_comm];rfl
end
end My
end
section
namespace My
open PySem PySem.Spec PyProof.Rows L2
open Vbsoaa (Man Men Order Table orderNums manAt goal into eff movers isProv areProvs nats row)
section
variable{P:Program}{w:World}{K:PySem.W.Frag}{mg:Str→Option Value}{base:Heap}{a:Adr}{H H' B:Hp}{r f:Addr}{d:Pt}{fp:FPt}{t:Table}
abbrev toI(L:List Nat):List Int:=L.map fun(n:Nat)=>(n:Int)
theorem MB(L:List Nat):L.map nV=(toI L).map V.int:=by rw[List.map_map];rfl
def ahI(L:List Nat)(H:Hp)(Q:VK):Prop:=∀H' r ns,aF H H'→H r=none→ns.Perm (toI L)→ns.Pairwise (·≤·)→H' r=some (.lst ((0::(L.length:Int)::ns).map V.int))→Q (.ref r) H'
def Uc(P:Program)(w:World)(K:PySem.W.Frag)(a:Adr):Sp:=fun vs H Q _=>∃(x:Addr)(L:List Nat),vs=[.ref x]∧H x=some (.lst (L.map nV))∧L.length<60∧ahI L H Q
theorem Hd(T:Txt w K mg a):aY P w K mg base CX0 1 a.jk a.Bd ["provinces"] (Uc P w K a):=by
 refine T.m9.ok PF (fun vs H Q E h=>?_) (fun cdv A outer s H vs Q E hr h=>?_)
 ·obtain⟨x,L,rfl,_⟩:=h;rfl
 ·obtain⟨x,L,rfl,hx,hL,k⟩:=h;have hx':=hx;rw[MB] at hx';refine⟨_,(aj (au (fQ uN (bf (aa aq (aa (aV cE rfl T.fJ c8 (aa (pv 0) ah)) ah))) (aV aa9 rfl T.Kf PD (aa (pv 0) ah))))),?_⟩;refine⟨_,rfl,x,_,rfl,hx,qK,fun b hb=>?_⟩;rw[List.length_map];have s1:=aw (o:=.lst [V.int 0,V.int (L.length:Nat)]) hb;refine⟨_,rfl,x,toI L,rfl,SqL.of (s1 _ _ hx'),by rw[List.length_map];omega,fun ns c pm pw hc=>?_⟩;have s2:=aw (o:=.lst (ns.map V.int)) hc;have nl:ns.length=L.length:=by rw[pm.length_eq,List.length_map]
  refine⟨b,c,_,_,rfl,rfl,s2 _ _ ae,ae,by rw[List.length_map];exact aB.le (by simp;omega),fun r hr=>?_⟩;exact k _ _ ns ((s1.trans s2).trans (aw hr)) ((s1.trans s2).free hr) pm pw ae
def Ud(P:Program)(w:World)(K:PySem.W.Frag)(a:Adr):Sp:=fun vs H Q _=>∃(x:Addr)(L:List Nat),vs=[.ref x]∧H x=some (.dK (bZ L))∧L.length<60∧ahI L H Q
theorem He(T:Txt w K mg a):aY P w K mg base CX0 1 a.jk a.Bd ["provinces"] (Ud P w K a):=by
 refine T.m9.ok PF (fun vs H Q E h=>?_) (fun cdv A outer s H vs Q E hr h=>?_)
 ·obtain⟨x,L,rfl,_⟩:=h;rfl
 ·obtain⟨x,L,rfl,hx,hL,k⟩:=h;refine⟨_,(aj (au (fQ uN (bf (aa aq (aa (aV DM rfl T.fJ c8 (aa (pv 0) ah)) ah))) (aV (Yp rfl) rfl T.Kf PD (aa (pv 0) ah))))),?_⟩;refine⟨_,rfl,x,_,rfl,hx,qK,fun b hb=>?_⟩;rw[pL];have s1:=aw (o:=.lst [V.int 0,V.int (L.length:Nat)]) hb;have ek:(bZ L).map (·.1)=(toI L).map Sum.inl:=by unfold bZ setOf;rw[List.map_map,List.map_map,List.map_map];rfl
  refine⟨_,rfl,x,_,toI L,rfl,.inl (s1 _ _ hx),ek,by rw[List.length_map];omega,fun ns c pm pw hc=>?_⟩;have s2:=aw (o:=.lst (ns.map V.int)) hc;have nl:ns.length=L.length:=by rw[pm.length_eq,List.length_map]
  refine⟨b,c,_,_,rfl,rfl,s2 _ _ ae,ae,by rw[List.length_map];exact aB.le (by simp;omega),fun r hr=>?_⟩;exact k _ _ ns ((s1.trans s2).trans (aw hr)) ((s1.trans s2).free hr) pm pw ae
def xl(P:Program)(w:World)(K:PySem.W.Frag)(a:Adr)(place:Int):Sp:=fun vs H Q _=>∃(ta l:Addr)(d:Pt)(t:Table)(ns:List Int),vs=[.ref ta,.ref l]∧
 TableAt P w K a.aU a.a9 H ta d t∧Wf t∧Wg t∧H l=some (.lst (ns.map V.int))∧VbsoaaNeutral.asked1 [place::ns]=true∧rng t (place::ns)=true∧
 ∀H' r,aF H H'→H r=none→H' r=some (.lst ((step1 t [place::ns]).2.map V.int))→Q (.ref r) H'
theorem aoy{ns:List Int}(h:VbsoaaNeutral.asked1 [16::ns]=true):ns=[]:=by have:=aW h;simpa using this
theorem aoz{ns:List Int}(h:VbsoaaNeutral.asked1 [17::ns]=true):ns=[]:=by have:=aW h;simpa using this
theorem aoA{ns:List Int}(h:VbsoaaNeutral.asked1 [18::ns]=true):ns=[]:=by have:=aW h;simpa using this
theorem aoB{ns:List Int}(h:VbsoaaNeutral.asked1 [21::ns]=true):ns=[]:=by have:=aW h;simpa using this
theorem aoC{ns:List Int}(h:VbsoaaNeutral.asked1 [12::ns]=true):∃x,ns=[x]:=by have:=aW h;simpa using this
theorem aoD{ns:List Int}(h:VbsoaaNeutral.asked1 [11::ns]=true):∃x y,ns=[x,y]:=by have:=aW h;simpa using this
theorem aoE{ns:List Int}(h:VbsoaaNeutral.asked1 [13::ns]=true):∃x l,ns=x::l:=by
 have:=aW h;simp at this;obtain⟨x,l,e,_⟩:=this;exact⟨x,l,e⟩
theorem L24{L:List Nat}(W:Wf t)(nd:L.Nodup)(mv:∀p∈L,mvB (eff t) p=true):L.length≤24:=by
 have a1:=nX nd (fun p hp=>(nY (bI W) p).mp (mv p hp));have a2:=pN (eff t);have a3:=W.men;rw[←dg] at a3;omega
theorem fE{ta f dx:Addr}(hT:TableAt P w K a.aU a.a9 H ta d t)(W:Wf t)(G:Wg t)(nf:H f=none)(ndx:H dx=none){Q:VK}{E:XK}(k:∀H' fp,FA P w K a H' f d fp t→Fx H' d fp t→aF H H'→Q .non H'):
  za P w K a [.ref f,.ref ta] (upd (upd H dx (.own f)) f (.ins a.aJ dx [])) Q E:=by
 have s0:aF H (upd (upd H dx (.own f)) f (.ins a.aJ dx [])):=fun b o e=>by rw[ab (ai e nf),ab (ai e ndx)];exact e
 exact⟨f,dx,ta,d,t,rfl,ae,(hT.sameAll s0).rd,s0 _ _ hT.units,W,G,fun H' fp F fx kp=>k H' fp ⟨F,W⟩ fx (aF.made nf ndx kp)⟩
theorem XS(T:Txt w K mg a):aY P w K mg base CX0 10 a.eJ a.zS ["table","numbers"] (xl P w K a 16):=by
 refine T.z9.ok U8 (fun vs H Q E h=>?_) (fun cdv A outer s H vs Q E hr h=>?_)
 ·obtain⟨ta,l,d,t,ns,rfl,_⟩:=h;rfl
 ·obtain⟨ta,l,d,t,ns,rfl,hT,W,G,hl,cF,ie,k⟩:=h;obtain rfl:=aoy cF;have nd:=bI W;refine⟨_,(aj (au (aH (He T) (hr.mono (by decide)) rfl T.vX T.m9.kp T.vY .nil aC (aa (aH (aaS T) (hr.mono (by decide)) rfl T.YG T.QZ.kp T.YH .nil aC (aa (gC T.fI (cN T) (hr.mono (by decide)) rfl T.kn T.cM .nil aC (aa (pv 0) ah)) ah)) ah)))),?_⟩;refine⟨_,rfl,fun f dx nf ndx ne=>fE hT W G nf ndx fun H1 fp F1 fx1 s1=>⟨rfl,?_⟩⟩;refine⟨f,d,fp,t,rfl,F1,fx1,fun H2 x L s2 nx hx lnd mv hL=>?_⟩;refine⟨x,L,rfl,hx,by have:=L24 W lnd mv;omega,fun H3 r ns s3 hr pm pw hr3=>?_⟩;refine k _ _ ((s1.trans s2).trans s3) ((s1.trans s2).free hr) ?_;show H3 r=some (.lst ((0::row (Vbsoaa.most (eff t) t.water)).map V.int));have e:=QQ (M:=Vbsoaa.most (eff t) t.water) lnd (DW nd _ _ _ _ (List.Nodup.sublist (List.Sublist.map _ List.filter_sublist) nd)) hL pm pw;rw[e];exact hr3
theorem Ue(T:Txt w K mg a):aY P w K mg base CX0 10 a.dt a.vG ["table","numbers"] (xl P w K a 17):=by
 refine T.v3.ok QW (fun vs H Q E h=>?_) (fun cdv A outer s H vs Q E hr h=>?_)
 ·obtain⟨ta,l,d,t,ns,rfl,_⟩:=h;rfl
 ·obtain⟨ta,l,d,t,ns,rfl,hT,W,G,hl,cF,ie,k⟩:=h;obtain rfl:=aoz cF;have nd:=bI W;refine⟨_,(aj (au (aH (He T) (hr.mono (by decide)) rfl T.vX T.m9.kp T.vY .nil aC (aa (aH (XO T) (hr.mono (by decide)) rfl T.Q0 T.Jb.kp T.Q1 .nil aC (aa (gC T.fI (cN T) (hr.mono (by decide)) rfl T.kn T.cM .nil aC (aa (pv 0) ah)) ah)) ah)))),?_⟩;refine⟨_,rfl,fun f dx nf ndx ne=>fE hT W G nf ndx fun H1 fp F1 fx1 s1=>⟨rfl,?_⟩⟩;refine⟨f,d,fp,t,rfl,F1,fx1,fun H2 x L s2 nx hx lnd mv hL=>?_⟩;refine⟨x,L,rfl,hx,by have:=L24 W lnd mv;omega,fun H3 r ns s3 hr pm pw hr3=>?_⟩;refine k _ _ ((s1.trans s2).trans s3) ((s1.trans s2).free hr) ?_;show H3 r=some (.lst ((0::row (Vbsoaa.least (eff t) t.water)).map V.int));have e:=QQ (M:=Vbsoaa.least (eff t) t.water) lnd (DW nd _ _ _ _ List.nodup_nil) hL pm pw;rw[e];exact hr3
theorem qR{ns:List Int}(h:areProvs t ns=true):ns=toI (nats ns)∧(nats ns).length≤24∧ns.length≤24:=by
 unfold Vbsoaa.areProvs at h;rw[Bool.and_eq_true,decide_eq_true_eq,List.all_eq_true] at h;refine⟨?_,by unfold Vbsoaa.nats;rw[List.length_map];exact h.1,h.1⟩;unfold toI Vbsoaa.nats;rw[List.map_map]
 conv=>lhs;rw[←List.map_id ns]
 apply List.map_congr_left;intro z hz;obtain⟨n,rfl,_⟩:=cX (h.2 z hz);rfl
theorem O2(T:Txt w K mg a):aY P w K mg base CX0 10 a.cI a.rR ["table","numbers"] (xl P w K a 15):=by
 refine T.sj.ok yj (fun vs H Q E h=>?_) (fun cdv A outer s H vs Q E hr h=>?_)
 ·obtain⟨ta,l,d,t,ns,rfl,_⟩:=h;rfl
 ·obtain⟨ta,l,d,t,ns,rfl,hT,W,G,hl,cF,ie,k⟩:=h;have hp:areProvs t ns=true:=ie;obtain⟨en,hk,_⟩:=qR hp;have nd:=bI W;have hs:(step1 t [15::ns]).2=[0,Vbsoaa.bit (Vbsoaa.agrees (eff t) t.water (nats ns))]:=by
   show (if areProvs t ns=false then _ else _:Table×List Int).2=_;rw[hp];rfl
  rw[hs,QP nd (mE (nats ns))] at k;rw[en,←MB] at hl;refine⟨_,(af (aG (i:=2) yj.nd rfl (Or.inl rfl) (gC T.fI (cN T) (hr.mono (by decide)) rfl T.kn T.cM .nil aC (aa (pv 0) ah)))
   (aj (au (bf (aa aq (aa (mq (bY (aH (acY T) (hr.mono (by decide)) rfl T.Ve T.Ka.kp T.Vf .nil aC (aa (pv 2) (aa (aH (jH T) (hr.mono (by decide)) rfl T.j9 T.gU.kp T.ka .nil aC (aa (pv 2) (aa (pv 1) ah))) ah)))) aq aq) ah)))))),?_⟩
  refine⟨_,rfl,fun f dx nf ndx ne=>fE hT W G nf ndx fun H1 fp F1 fx1 s1=>⟨rfl,?_⟩⟩;refine⟨_,rfl,_,rfl,_,rfl,f,l,d,fp,t,nats ns,rfl,F1,s1 _ _ hl,by omega,fun H2 c s2 nc hc=>?_⟩;have F2:FA P w K a H2 f d fp t:=⟨F1.1.same s2,W⟩
  refine⟨f,c,d,fp,t,_,rfl,F2,fx1.same s2,.inl hc,Ja _,agv _,fun H3 s3=>⟨_,rfl,?_⟩⟩;have s03:=(s1.trans s2).trans s3;cases e:Vbsoaa.agrees (eff t) t.water (eX (eff t) [] (nats ns)) with
  |true=>rw[e] at k;exact bq ⟨qK,fun r hr=>k _ _ (s03.trans (aw hr)) (s03.free hr) ae⟩
  |false=>rw[e] at k;exact aS ⟨qK,fun r hr=>k _ _ (s03.trans (aw hr)) (s03.free hr) ae⟩
theorem ag4{ms:Men}(nd:(ms.map (·.prov)).Nodup)(b:Vbsoaa.Board)(s:List Nat):(Vbsoaa.ways b ms s).Nodup∧(Vbsoaa.ways b ms s).length≤ms.length:=by
 unfold Vbsoaa.ways Vbsoaa.movers;rw[List.filter_filter];exact⟨ba _ nd,by rw[List.length_map];exact List.length_filter_le _ _⟩
theorem XT(T:Txt w K mg a):aY P w K mg base CX0 10 a.eL a.zT ["table","numbers"] (xl P w K a 20):=by
 refine T.Aa.ok Fz (fun vs H Q E h=>?_) (fun cdv A outer s H vs Q E hr h=>?_)
 ·obtain⟨ta,l,d,t,ns,rfl,_⟩:=h;rfl
 ·obtain⟨ta,l,d,t,ns,rfl,hT,W,G,hl,cF,ie,k⟩:=h;have hp:areProvs t ns=true:=ie;obtain⟨en,hk,_⟩:=qR hp;have nd:=bI W;have hs:(step1 t [20::ns]).2=0::row (Vbsoaa.ways t.board (eff t) (nats ns)):=by
   show (if areProvs t ns=false then _ else _:Table×List Int).2=_;rw[hp];rfl
  rw[hs,Yy nd (mE (nats ns))] at k;rw[en,←MB] at hl;have e24:(eff t).length≤24:=by rw[dg];exact W.men
  refine⟨_,(af (aG (i:=2) Fz.nd rfl (Or.inl rfl) (gC T.fI (cN T) (hr.mono (by decide)) rfl T.kn T.cM .nil aC (aa (pv 0) ah)))
   (aj (au (aH (Hd T) (hr.mono (by decide)) rfl T.vX T.m9.kp T.vY .nil aC (aa (aH (MA T) (hr.mono (by decide)) rfl T.yu T.pD.kp T.yw .nil aC (aa (pv 0) (aa (pv 2) (aa (aH (jH T) (hr.mono (by decide)) rfl T.j9 T.gU.kp T.ka .nil aC (aa (pv 2) (aa (pv 1) ah))) ah)))) ah))))),?_⟩
  refine⟨_,rfl,fun f dx nf ndx ne=>fE hT W G nf ndx fun H1 fp F1 fx1 s1=>⟨rfl,?_⟩⟩;refine⟨_,rfl,_,rfl,_,rfl,_,rfl,f,l,d,fp,t,nats ns,rfl,F1,s1 _ _ hl,by omega,fun H2 c s2 nc hc=>?_⟩;have F2:FA P w K a H2 f d fp t:=⟨F1.1.same s2,W⟩
  refine⟨ta,f,c,d,fp,t,_,rfl,(hT.sameAll (s1.trans s2)).rd,F2,fx1.same s2,.inl hc,Ja _,fun H3 x s3 hx=>?_⟩;have wn:=ag4 nd t.board (eX (eff t) [] (nats ns));have s03:=(s1.trans s2).trans s3;refine⟨x,_,rfl,hx,by omega,fun H4 r ns s4 hr pm pw hr4=>?_⟩;refine k _ _ (s03.trans s4) (s03.free hr) ?_;rw[QQ wn.1 wn.1 (fun _=>Iff.rfl) pm pw];exact hr4
theorem XU(T:Txt w K mg a):aY P w K mg base CX0 10 a.eI a.zR ["table","numbers"] (xl P w K a 14):=by
 refine T.z8.ok kF (fun vs H Q E h=>?_) (fun cdv A outer s H vs Q E hr h=>?_)
 ·obtain⟨ta,l,d,t,ns,rfl,_⟩:=h;rfl
 ·obtain⟨ta,l,d,t,ns,rfl,hT,W,G,hl,cF,ie,k⟩:=h;have hp:areProvs t ns=true:=ie;obtain⟨en,hk,_⟩:=qR hp;have nd:=bI W;have hs:(step1 t [14::ns]).2=0::row (((eff t).filter fun m=>Vbsoaa.apt (eff t) m&&Vbsoaa.cut (eff t) t.water (nats ns) m).map fun m=>m.prov):=by
   show (if areProvs t ns=false then _ else _:Table×List Int).2=_;rw[hp];rfl
  rw[hs,DU nd (mE (nats ns))] at k;rw[en,←MB] at hl;have e24:(eff t).length≤24:=by rw[dg];exact W.men
  refine⟨_,(af (aG (i:=2) kF.nd rfl (Or.inr rfl) (gC T.fI (cN T) (hr.mono (by decide)) rfl T.kn T.cM .nil aC (aa (pv 0) ah)))
   (af (aG (i:=3) kF.nd rfl (Or.inl rfl) (aH (lH T) (hr.mono (by decide)) rfl T.jr T.gp.kp T.js .nil aC (aa (pv 2) (aa (aH (jH T) (hr.mono (by decide)) rfl T.j9 T.gU.kp T.ka .nil aC (aa (pv 2) (aa (pv 1) ah))) ah))))
   (aj (au (aH (Hd T) (hr.mono (by decide)) rfl T.vX T.m9.kp T.vY .nil aC (aa (Z2 (sO (own:=[("p",4)]) rfl kF.nd (lU (pv 3)) (show ku ["table","numbers","field","cut","p"] (ao rD) _ [("p",4)] from⟨rfl,by decide+kernel,by decide+kernel,by decide+kernel,by decide+kernel⟩) (fun _ _ _ _ _=>(bX (i:=4) kF.nd rfl (Or.inl rfl))) (by intro _ _ _ _ _;exact(lS (bY (aT (pv 2) T.aE T.sg (DF (P:=P) (base:=base) T) (hr.mono (show 2≤9 by decide)) T.vU .nil aC (aa (pv 4) ah))))) (by intro _ _ _ _ _;exact(pv 4)))) ah)))))),?_⟩
  refine⟨_,rfl,fun f dx nf ndx ne=>fE hT W G nf ndx fun H1 fp F1 fx1 s1=>⟨rfl,?_⟩⟩;refine⟨_,rfl,_,rfl,_,rfl,f,l,d,fp,t,nats ns,rfl,F1,s1 _ _ hl,by omega,fun H2 c s2 nc hc=>?_⟩;have F2:FA P w K a H2 f d fp t:=⟨F1.1.same s2,W⟩
  refine⟨f,c,d,fp,t,_,rfl,F2,fx1.same s2,.inl hc,fun H3 x s3 nx hx=>?_⟩;have s03:=(s1.trans s2).trans s3;generalize hLL:eX (eff t) [] (nats ns)=LL at k hx;have F3:=F2.1.same s3;have fx3:=(fx1.same s2).same s3;have nco:x≠fp.co:=fun z=>by rw[z,F2.1.com] at nx;cases nx
  have len:(qN (eff t) t.water LL).length≤(eff t).length:=by unfold qN;rw[List.length_map];exact List.length_filter_le _ _
  refine⟨x,_,hx,True.intro,fun od=>?_⟩;have FL:=F3.lock (o:=od) hx nco;have gL:upd H3 x (.frz od (.dK (bZ (qN (eff t) t.water LL)))) x=some (.frz od (.dK (bZ (qN (eff t) t.water LL)))):=ae;have bk:∀H',aF (upd H3 x (.frz od (.dK (bZ (qN (eff t) t.water LL))))) H'→aF H3 (upd H' x (.dK (bZ (qN (eff t) t.water LL)))):=fun H' s=>aF.lk hx s;generalize upd H3 x (.frz od (.dK (bZ (qN (eff t) t.water LL))))=B at FL gL bk⊢;refine⟨_,rfl,x,od,rfl,.inl ⟨_,gL,fun D hD=>?_⟩⟩;refine gE gD (fun H1 s1=>s1 _ _ gL) hD (onN fun p=>(manAt (eff t) p).any fun m=>Vbsoaa.apt (eff t) m) (fun v y _=>y=v) (fun _ _ _ _ h _=>h) (by rw[qQ,List.length_map];exact aB (by omega)) (fun i v H4 hv s4 N Y hN hY=>?_) (fun H4 ys s4 hy pr=>?_)
  ·rw[qQ,List.getElem?_map] at hv;obtain⟨p,hp,rfl⟩:=Option.map_eq_some_iff.mp hv;obtain⟨m,hm,rfl⟩:∃m,m∈eff t∧m.prov=p:=by
    have:=List.mem_of_getElem? hp;unfold qN at this;obtain⟨m,h1,h2⟩:=List.mem_map.mp this;exact⟨m,(List.mem_filter.mp h1).1,h2⟩
   have hma:=cB nd hm;have F4:=FL.same s4;obtain⟨dx4,hf4⟩:=F4.ins;have ep:(onN fun p=>(manAt (eff t) p).any fun m=>Vbsoaa.apt (eff t) m) (nV m.prov)=Vbsoaa.apt (eff t) m:=by rw[gA,hma];rfl
   refine⟨rfl,_,rfl,f,dx4,_,rfl,hf4,rfl,_,rfl,f,d,fp,t,m.prov,m,rfl,⟨F4,W⟩,hma,_,rfl,?_⟩;cases e:Vbsoaa.apt (eff t) m with
   |true=>exact bq ⟨_,rfl,hY _ _ aF.dw (by rw[ep,e]) rfl⟩
   |false=>exact aS (hN _ aF.dw (by rw[ep,e]))
  ·rw[i7 pr,qQ,eT _ _ _ (gA _)] at hy;refine⟨s4 _ _ gL,?_⟩;have sH:=bk _ s4;have nD:D≠x:=fun z=>by rw[z,gL] at hD;cases hD
   have ef:(qN (eff t) t.water LL).filter (fun p=>(manAt (eff t) p).any fun m=>Vbsoaa.apt (eff t) m)=((eff t).filter fun m=>Vbsoaa.apt (eff t) m&&Vbsoaa.cut (eff t) t.water LL m).map fun m=>m.prov:=by
    unfold qN;rw[List.filter_map,List.filter_filter];congr 1;apply List.filter_congr;intro m hm;show ((manAt (eff t) m.prov).any _&&(oW m.order&&Vbsoaa.cut (eff t) t.water LL m))=_;rw[cB nd hm];show (Vbsoaa.apt (eff t) m&&(oW m.order&&Vbsoaa.cut (eff t) t.water LL m))=_;cases e:Vbsoaa.apt (eff t) m with
    |false=>rfl
    |true=>
     have:oW m.order=true:=by
      have:=agw (eff t) m e;unfold oW;cases eo:m.order<;>rw[eo] at this<;>first|rfl|cases this
     rw[this];rfl
   rw[ef] at hy;have hy2:upd H4 x (.dK (bZ (qN (eff t) t.water LL))) D=some (.lst ((((eff t).filter fun m=>Vbsoaa.apt (eff t) m&&Vbsoaa.cut (eff t) t.water LL m).map fun m=>m.prov).map nV)):=by rw[ab nD];exact hy
   have l2:(((eff t).filter fun m=>Vbsoaa.apt (eff t) m&&Vbsoaa.cut (eff t) t.water LL m).map fun m=>m.prov).length≤(eff t).length:=by rw[List.length_map];exact List.length_filter_le _ _
   refine⟨D,_,rfl,hy2,by omega,fun H5 r ns s5 hr pm pw hr5=>?_⟩;have n2:(((eff t).filter fun m=>Vbsoaa.apt (eff t) m&&Vbsoaa.cut (eff t) t.water LL m).map fun m=>m.prov).Nodup:=ba _ nd;refine k _ _ ((s03.trans sH).trans s5) ((s03.trans sH).free hr) ?_;rw[QQ n2 n2 (fun _=>Iff.rfl) pm pw];exact hr5
end
end My
end
section
namespace My
open PySem PySem.Spec PyProof.Rows L2
open Vbsoaa (Man Men Order Table orderNums manAt goal into eff movers isProv areProvs nats row bit apt counts attack wall prevent hold goes strengthsOf stays nums)
section
variable{P:Program}{w:World}{K:PySem.W.Frag}{mg:Str→Option Value}{base:Heap}{a:Adr}{H H' B:Hp}{r f:Addr}{d:Pt}{fp:FPt}{t:Table}
theorem ams(xs:List V):MF xs (some 1) none=xs.drop 1:=by
 unfold MF;rw[show (some (1:Int))=some ((1:Nat):Int) from rfl,HT.Qs,HT.ads];cases xs with
 |nil=>rfl
 |cons x r=>
  have e:min 1 (x::r).length=1:=by simp
  rw[e];simp
theorem Ug(T:Txt w K mg a):aY P w K mg base CX0 10 a.dr a.vF ["table","numbers"] (xl P w K a 12):=by
 refine T.vZ.ok jj (fun vs H Q E h=>?_) (fun cdv A outer s H vs Q E hr h=>?_)
 ·obtain⟨ta,l,d,t,ns,rfl,_⟩:=h;rfl
 ·obtain⟨ta,l,d,t,ns,rfl,hT,W,G,hl,cF,ie,k⟩:=h;obtain⟨z,rfl⟩:=aoC cF;have hz:isProv t z=true:=ie;obtain⟨p,rfl,hp⟩:=cX hz;have hu:=bE hr;obtain⟨dx,htab⟩:=hT.tab;have hs:(step1 t [[12,(p:Int)]]).2=match manAt (eff t) p with
    |none=>[-5]
    |some m=>[0,(m.power:Int),bit m.fleet,(m.shore:Int)]++(orderNums m.order++[bit (apt (eff t) m),bit (t.water.contains m.prov)]):=by
   show (if isProv t p=false then _ else match manAt (eff t) p with|none=>_|some m=>_:Table×List Int).2=_;rw[hz,if_neg (by decide)];cases manAt (eff t) p<;>rfl
  rw[hs] at k;refine⟨_,(af (aG (i:=2) jj.nd rfl (Or.inl rfl) (bK bL (pv 1) aq (fun _ _=>rfl)))
   (af (bJ (gZ (iO hu (pv 2) (ay (pv 0) rfl))) (aj (au (bf (aa (nL jb aq) ah)))) aP)
   (af (aG (i:=3) jj.nd rfl (Or.inl rfl) (bQ hu (ay (pv 0) rfl) (pv 2) (fun _ _=>rfl)))
   (af (aG (i:=4) jj.nd rfl (Or.inl rfl) (gC T.fI (cN T) (hr.mono (by decide)) rfl T.kn T.cM .nil aC (aa (pv 0) ah)))
   (af (aG (i:=5) jj.nd rfl (Or.inl rfl) (mq (bY (aT (pv 4) T.aE T.sg (DF T) (hr.mono (by decide)) T.vU .nil aC (aa (pv 2) ah))) aq aq))
   (aj (au (fQ uN (fQ uN (bf (aa aq (aa (ay (pv 3) rfl) (aa (ay (pv 3) rfl) (aa (ay (pv 3) rfl) ah))))) (Pa Qx rfl T.aeA agx (aa (bQ hu (ay (pv 4) rfl) (pv 2) (fun _ _=>rfl)) ah))) (bf (aa (pv 5) (aa (ay (pv 3) rfl) ah))))))))))),?_⟩
  refine⟨_,rfl,l,_,0,.int p,rfl,rfl,hl,rfl,?_⟩;refine⟨_,rfl,_,rfl,ta,_,dx,_,_,rfl,htab,T.aQ,T.aL,bC d,d.u,_,rfl,.inl ⟨_,nK p,.inl hT.units,rfl,rfl⟩,_,rfl,?_⟩;rw[dM hT.len];cases e:manAt t.men p with
  |none=>
   rw[i6,e] at k;exact bq ⟨_,rfl,lF,fun r hr=>k _ _ (aw hr) hr ae⟩
  |some m0=>
   have hm:manAt (eff t) p=some {m0 with order:=counts t.board m0}:=by rw[i6,e];rfl
   rw[hm] at k;generalize hmm:({m0 with order:=counts t.board m0}:Man)=m at hm k;have mp:=(eQ hm).2;refine aS ?_;obtain⟨i,b,g1,g2,hv,hmp⟩:=fX hT.len e;refine⟨_,rfl,ta,_,dx,_,_,rfl,htab,T.aQ,T.aL,bC d,_,rfl,d.u,_,rfl,.inl ⟨_,nK p,.inl hT.units,rfl,hv.symm⟩,?_⟩;refine⟨_,rfl,fun f dxf nf ndx ne=>fE hT W G nf ndx fun H1 fp F1 fx1 s1=>⟨rfl,?_⟩⟩;obtain⟨fx',hf⟩:=F1.1.ins;obtain⟨b',ux,oo,hv',_,hb⟩:=F1.1.unit hm;rw[hv] at hv';cases hv';obtain⟨ob,hvo,_,ho⟩:=F1.1.order hm;refine⟨_,rfl,f,fx',_,rfl,hf,rfl,_,rfl,f,d,fp,t,p,m,rfl,F1,hm,_,rfl,?_⟩;have k:∀H' r,aF H H'→H r=none→H' r=some (.lst (([0,(m.power:Int),bit m.fleet,(m.shore:Int)]++(orderNums m.order++[bit (apt (eff t) m),bit (t.water.contains m.prov)])).map V.int))→Q (.ref r) H':=k;rw[mp] at k;cases ea:apt (eff t) m
   all_goals
    rw[ea] at k
    first
     |refine bq ?_
     |refine aS ?_
    refine⟨_,rfl,b,_,ux,_,_,rfl,hb,T.eN,T.l6,rfl,_,rfl,b,_,ux,_,_,rfl,hb,T.eN,T.jz,rfl,_,rfl,b,_,ux,_,_,rfl,hb,T.eN,T.gX,rfl,aB.le (by simp),fun c1 h1=>?_⟩;have q1:=aw (o:=.lst [V.int 0,V.int m.power,V.int (bit m.fleet),V.int m.shore]) h1;have F2:=F1.1.same q1;obtain⟨fx2,hf2⟩:=F2.ins;refine⟨_,rfl,f,_,fx2,_,_,rfl,hf2,T.aE,T.cj,G8 _ _,_,rfl,fp.o,_,rfl,.inl ⟨_,nK p,F2.acP,rfl,hvo.symm⟩,ob,_,rfl,.inr (nH ho q1),fun c2 h2=>?_⟩;have q2:=aw (o:=.lst ((orderNums m.order).map V.int)) h2;have l4:(orderNums m.order).length=4:=by cases m.order<;>rfl
    refine⟨c1,c2,_,_,rfl,rfl,q2 _ _ ae,ae,by rw[List.length_map,l4];exact aB.le (by simp),fun c3 h3=>?_⟩;have q3:=aw (o:=.lst ([V.int 0,V.int m.power,V.int (bit m.fleet),V.int m.shore]++(orderNums m.order).map V.int)) h3;have q13:=(q1.trans q2).trans q3;refine⟨_,rfl,_,rfl,b,_,ux,_,_,rfl,q13 _ _ hb,T.eN,T.kc,rfl,qK,fun c4 h4=>?_⟩;have q4:=fun(o:HO)=>aw (o:=o) h4;refine⟨c3,c4,_,_,rfl,rfl,q4 _ _ _ ae,ae,by rw[List.length_append,List.length_map,l4];exact aB.le (by simp),fun r hr=>?_⟩;have s9:=fun(o:HO)=>s1.trans (q13.trans (q4 o));refine k _ _ ((s9 _).trans (aw hr)) ((s9 _).free hr) ?_;rw[ae];simp[bit]
theorem Fj(T:Txt w K mg a):aY P w K mg base CX0 10 a.bO a.lu ["table","numbers"] (xl P w K a 13):=by
 refine T.lB.ok dz (fun vs H Q E h=>?_) (fun cdv A outer s H vs Q E hr h=>?_)
 ·obtain⟨ta,l,d,t,ns,rfl,_⟩:=h;rfl
 ·obtain⟨ta,l,d,t,ns,rfl,hT,W,G,hl,cF,ie,k⟩:=h;obtain⟨z,ns,rfl⟩:=aoE cF;have hzs:(isProv t z&&areProvs t ns)=true:=ie;have aoF:=hzs;rw[Bool.and_eq_true] at hzs;obtain⟨hz,hps⟩:=hzs;obtain⟨p,rfl,hp⟩:=cX hz;obtain⟨en,hk,_⟩:=qR hps;have hu:=bE hr;have nd:=bI W;obtain⟨dx,htab⟩:=hT.tab;have hs:(step1 t [13::(p:Int)::ns]).2=match manAt (eff t) p with
    |none=>[-5]
    |some m=>0::strengthsOf (eff t) t.water (nats ns) m:=by
   show (if(isProv t p&&areProvs t ns)=false then _ else match manAt (eff t) p with|none=>_|some m=>_:Table×List Int).2=_;rw[aoF,if_neg (by decide)];cases manAt (eff t) p<;>rfl
  rw[hs] at k;refine⟨_,(af (aG (i:=2) dz.nd rfl (Or.inl rfl) (bK bL (pv 1) aq (fun _ _=>rfl)))
   (af (bJ (gZ (iO hu (pv 2) (ay (pv 0) rfl))) (aj (au (bf (aa (nL jb aq) ah)))) aP)
   (af (aG (i:=3) dz.nd rfl (Or.inl rfl) (gC T.fI (cN T) (hr.mono (by decide)) rfl T.kn T.cM .nil aC (aa (pv 0) ah)))
   (af (aG (i:=4) dz.nd rfl (Or.inl rfl) (aH (Fi T) (hr.mono (by decide)) rfl T.Bp T.vV.kp T.Bq .nil aC (aa (pv 3) (aa (aH (jH T) (hr.mono (by decide)) rfl T.j9 T.gU.kp T.ka .nil aC (aa (pv 3) (aa (Jk Qv (pv 1) (IT aq) ZV) ah))) ah))))
   (af (bJ (bY (aT (pv 3) T.aE T.fH (iu T) (hr.mono (by decide)) T.gr .nil aC (aa (pv 2) ah))) (aj (au (bf (aa aq (aa aq (aa aq (aa aq (aa aq (aa (aT (pv 4) T.aA T.ed (gB T) (hr.mono (by decide)) T.eV .nil aC (aa (pv 2) ah)) (aa aq ah)))))))))) aP)
   (af (aG (i:=5) dz.nd rfl (Or.inl rfl) (mq (bY (aT (pv 4) T.aA T.fT (jK T) (hr.mono (by decide)) T.gW .nil aC (aa (pv 2) ah))) aq aq))
   (af (aG (i:=6) dz.nd rfl (Or.inl rfl) (bf (aa (aT (pv 4) T.aA T.hX (lQ T) (hr.mono (by decide)) T.iF .nil aC (aa (pv 2) ah)) (aa (aT (pv 4) T.aA T.jy (oY T) (hr.mono (by decide)) T.kb .nil aC (aa (pv 2) ah)) (aa (aT (pv 4) T.aA T.fM (jP T) (hr.mono (by decide)) T.gu .nil aC (aa (pv 2) ah)) (aa (aT (pv 4) T.aA T.iG (nJ T) (hr.mono (by decide)) T.jx .nil aC (aa (pv 2) ah)) ah))))))
   (aj (au (fQ uN (fQ uN (bf (aa aq ah)) (pv 6)) (bf (aa (aT (pv 4) T.aA T.ed (gB T) (hr.mono (by decide)) T.eV .nil aC (aa (pv 2) ah)) (aa (pv 5) ah))))))))))))),?_⟩
  refine⟨_,rfl,l,_,0,.int p,rfl,rfl,hl,nM (j:=0) rfl,?_⟩;refine⟨_,rfl,_,rfl,ta,_,dx,_,_,rfl,htab,T.aQ,T.aL,bC d,d.u,_,rfl,.inl ⟨_,nK p,.inl hT.units,rfl,rfl⟩,_,rfl,?_⟩;rw[dM hT.len];cases e:manAt t.men p with
  |none=>
   rw[i6,e] at k;exact bq ⟨_,rfl,lF,fun r hr=>k _ _ (aw hr) hr ae⟩
  |some m0=>
   have hm:manAt (eff t) p=some {m0 with order:=counts t.board m0}:=by rw[i6,e];rfl
   rw[hm] at k;generalize hmm:({m0 with order:=counts t.board m0}:Man)=m at hm k;have mp:=(eQ hm).2;have k:∀H' r,aF H H'→H r=none→H' r=some (.lst ((0::strengthsOf (eff t) t.water (nats ns) m).map V.int))→Q (.ref r) H':=k;rw[Ho nd (mE (nats ns))] at k;generalize hLL:eX (eff t) [] (nats ns)=LL at k;refine aS ?_;refine⟨_,rfl,fun f dxf nf ndx ne=>fE hT W G nf ndx fun H1 fp F1 fx1 s1=>⟨rfl,?_⟩⟩;refine⟨_,rfl,_,rfl,_,rfl,_,rfl,l,_,rfl,SqL.of (s1 _ _ hl),fun b2 hb2=>?_⟩;rw[ams];have e1:(((p:Int)::ns).map V.int).drop 1=(nats ns).map nV:=by
    rw[List.map_cons,List.drop_one,List.tail_cons,MB,←en]
   rw[e1];have hb2:H1 b2=none:=hb2;have q1:=aw (o:=.lst ((nats ns).map nV)) hb2;refine⟨f,b2,d,fp,t,nats ns,rfl,⟨F1.1.same q1,W⟩,ae,by omega,fun H2 c s2 nc hc=>?_⟩;have q2:=q1.trans s2;rw[hLL] at hc;have mv:∀p∈LL,mvB (eff t) p=true:=by rw[←hLL];exact Ja _
   refine⟨f,c,d,fp,t,LL,rfl,⟨F1.1.same q2,W⟩,fx1.same q2,.inl hc,mv,fun H3 x ct s3 R=>?_⟩;have F3:=F1.1.same (q2.trans s3);obtain⟨fx3,hf3⟩:=F3.ins;obtain⟨rx,hx⟩:=R.ins;have s03:=s1.trans (q2.trans s3);generalize upd H1 b2 (.lst ((nats ns).map nV))=H1' at q1 s2 q2 nc;refine⟨_,rfl,f,fx3,_,rfl,hf3,rfl,_,rfl,f,d,fp,t,p,rfl,⟨F3,W⟩,_,rfl,?_⟩;have es:stays (eff t) p=(goal m).isNone:=by unfold Vbsoaa.stays;rw[hm];rfl
   rw[es];unfold Vbsoaa.strengthsOf at k;cases eg:goal m with
   |none=>
    rw[eg] at k;have k:∀H' r,aF H H'→H r=none→H' r=some (.lst ([0,0,0,0,0,(hold (eff t) t.water LL LL m.prov:Int),0].map V.int))→Q (.ref r) H':=k;rw[mp] at k;refine bq ⟨_,rfl,x,rx,_,rfl,hx,rfl,_,rfl,x,_,t,p,rfl,R,fun H4 s4=>⟨aB.le (by simp),fun r hr=>?_⟩⟩;exact k _ _ ((s03.trans s4).trans (aw hr)) ((s03.trans s4).free hr) ae
   |some q=>
    rw[eg] at k;have k:∀H' r,aF H H'→H r=none→H' r=some (.lst ((0::(nums [attack (eff t) t.water LL LL m q,wall (eff t) t.water LL LL m q,Fh (eff t) t.water LL LL m q,prevent (eff t) t.water LL LL m q,hold (eff t) t.water LL LL m.prov]++[bit (goes (eff t) t.water LL LL m)])).map V.int))→Q (.ref r) H':=k;rw[mp] at k;refine aS ⟨_,rfl,x,rx,_,rfl,hx,rfl,_,rfl,x,_,t,p,q,m,rfl,R,hm,eg,fun H4 s4=>⟨_,rfl,?_⟩⟩;cases ea:goes (eff t) t.water LL LL m
    all_goals
     rw[ea] at k
     first
      |refine bq ?_
      |refine aS ?_
     have R4:=R.same s4;obtain⟨r4,h4⟩:=R4.ins;refine⟨_,rfl,x,r4,_,rfl,h4,rfl,_,rfl,x,_,t,p,q,m,rfl,R4,hm,eg,fun H5 s5=>?_⟩;have R5:=R4.same s5;obtain⟨r5,h5⟩:=R5.ins;refine⟨_,rfl,x,r5,_,rfl,h5,rfl,_,rfl,x,_,t,p,q,m,rfl,R5,hm,eg,fun H6 s6=>?_⟩;have R6:=R5.same s6;obtain⟨r6,h6⟩:=R6.ins;refine⟨_,rfl,x,r6,_,rfl,h6,rfl,_,rfl,x,_,t,p,q,m,rfl,R6,hm,eg,fun H7 s7=>?_⟩;have R7:=R6.same s7;obtain⟨r7,h7⟩:=R7.ins;refine⟨_,rfl,x,r7,_,rfl,h7,rfl,_,rfl,x,_,t,p,q,m,rfl,R7,hm,eg,fun H8 s8=>⟨aB.le (by simp),fun c1 h1=>?_⟩⟩;have u1:=aw (o:=.lst [V.int (attack (eff t) t.water LL LL m q:Nat),V.int (wall (eff t) t.water LL LL m q:Nat),V.int (Fh (eff t) t.water LL LL m q:Nat),V.int (prevent (eff t) t.water LL LL m q:Nat)]) h1;refine⟨lF,fun c2 h2=>?_⟩;have u2:=aw (o:=.lst [V.int 0]) h2;refine⟨_,rfl,c2,c1,_,_,rfl,rfl,ae,u2 _ _ ae,aB.le (by simp),fun c3 h3=>?_⟩;have u3:=aw (o:=.lst ([V.int 0]++[V.int (attack (eff t) t.water LL LL m q:Nat),V.int (wall (eff t) t.water LL LL m q:Nat),V.int (Fh (eff t) t.water LL LL m q:Nat),V.int (prevent (eff t) t.water LL LL m q:Nat)])) h3;have R9:=R7.same (s8.trans (u1.trans (u2.trans u3)));obtain⟨r9,h9⟩:=R9.ins;refine⟨_,rfl,x,r9,_,rfl,h9,rfl,_,rfl,x,_,t,p,rfl,R9,fun H9 s9=>⟨_,rfl,qK,fun c4 h4=>?_⟩⟩;have u4:=fun(o:HO)=>aw (o:=o) h4;refine⟨c3,c4,_,_,rfl,rfl,u4 _ _ _ (s9 _ _ ae),ae,aB.le (by simp),fun r hr=>?_⟩;have sA:=fun(o:HO)=>s03.trans (s4.trans (s5.trans (s6.trans (s7.trans (s8.trans (u1.trans (u2.trans (u3.trans (s9.trans (u4 o))))))))));exact k _ _ ((sA _).trans (aw hr)) ((sA _).free hr) ae
end
end My
end
section
namespace My
open PySem PySem.Spec PyProof.Rows L2
open Vbsoaa (Man Men Order Table orderNums manAt goal into eff movers isProv areProvs nats row bit nums)
section
variable{P:Program}{w:World}{K:PySem.W.Frag}{mg:Str→Option Value}{base:Heap}{a:Adr}{H H' B:Hp}{r f:Addr}{d:Pt}{fp:FPt}{t:Table}
def ac1(ms:Men)(LL:List Nat)(m:Man):List Int:=[(m.prov:Int),Hb ms LL m]
theorem amt(ms:Men)(g:Man→List Int)(h:∀m,(g m).length=2):(ms.flatMap g).length=2*ms.length:=by
 induction ms with
 |nil=>rfl
 |cons m r ih=>rw[List.flatMap_cons,List.length_append,ih,h,List.length_cons];omega
theorem O3(T:Txt w K mg a):aY P w K mg base CX0 10 a.cJ a.rS ["table","numbers"] (xl P w K a 19):=by
 refine T.so.ok ip (fun vs H Q E h=>?_) (fun cdv A outer s H vs Q E hr h=>?_)
 ·obtain⟨ta,l,d,t,ns,rfl,_⟩:=h;rfl
 ·obtain⟨ta,l,d,t,ns,rfl,hT,W,G,hl,cF,ie,k⟩:=h;have hp:areProvs t ns=true:=ie;obtain⟨en,hk,_⟩:=qR hp;have nd:=bI W;have hu:=bE hr;have e24:(eff t).length≤24:=by rw[dg];exact W.men
  generalize hLL:eX (eff t) [] (nats ns)=LL;have mv:∀p∈LL,mvB (eff t) p=true:=by rw[←hLL];exact Ja _
  have hs:(step1 t [19::ns]).2=0::(t.men.length:Int)::(eff t).flatMap (ac1 (eff t) LL):=by
   show (if areProvs t ns=false then _ else _:Table×List Int).2=_;rw[hp,if_neg (by decide)];show 0::(t.men.length:Int)::(eff t).flatMap (fun m=>[(m.prov:Int),Hb (eff t) (nats ns) m])=_;have:∀ms:Men,(∀m∈ms,m∈eff t)→ms.flatMap (fun m=>[(m.prov:Int),Hb (eff t) (nats ns) m])=ms.flatMap (ac1 (eff t) LL):=by
    intro ms
    induction ms with
    |nil=>intro _;rfl
    |cons m r ih=>
     intro h;rw[List.flatMap_cons,List.flatMap_cons,ih fun x hx=>h x (List.mem_cons_of_mem _ hx)];congr 1;unfold ac1 Hb;rw[←hLL,Yx nd (mE (nats ns)) (h m List.mem_cons_self)]
   rw[this _ fun m h=>h]
  rw[hs] at k;rw[en,←MB] at hl;refine⟨_,(af (aG (i:=2) ip.nd rfl (Or.inl rfl) (gC T.fI (cN T) (hr.mono (by decide)) rfl T.kn T.cM .nil aC (aa (pv 0) ah)))
   (af (aG (i:=3) ip.nd rfl (Or.inl rfl) (aH (jH T) (hr.mono (by decide)) rfl T.j9 T.gU.kp T.ka .nil aC (aa (pv 2) (aa (pv 1) ah))))
   (af (aG (i:=4) ip.nd rfl (Or.inl rfl) (bf (aa aq (aa (aV DM rfl T.fJ c8 (aa (ay (pv 0) rfl) ah)) ah))))
   (af (nP (mr PassesOwn.never rfl (lU (ay (pv 0) rfl)) (bX (i:=5) ip.nd rfl (Or.inl rfl)) (aj (fo (uM PySem.F.plainAttrs_list PySem.F.slot_list_extend PySem.F.type_list_extend xm (pv 4) (aa (bf (aa (pv 5) (aa (aH (Mw T) (hr.mono (by decide)) rfl T.yp T.pB.kp T.yq .nil aC (aa (pv 2) (aa (pv 3) (aa (pv 5) ah)))) ah))) ah))))))
   (aj (au (pv 4))))))),?_⟩
  refine⟨_,rfl,fun f dx nf ndx ne=>fE hT W G nf ndx fun H1 fp F1 fx1 s1=>⟨rfl,?_⟩⟩;refine⟨_,rfl,_,rfl,f,l,d,fp,t,nats ns,rfl,F1,s1 _ _ hl,by omega,fun H2 c s2 nc hc=>?_⟩;rw[hLL] at hc;have F2:=F1.1.same s2;have fx2:=fx1.same s2;have s02:=s1.trans s2;have hT2:=hT.sameAll s02;obtain⟨dx2,Hf⟩:=hT2.tab;refine⟨_,rfl,ta,_,dx2,_,_,rfl,Hf,T.aQ,T.aL,bC d,d.u,_,rfl,hT2.units,qK,fun x hx=>?_⟩;rw[mB hT2.len];have s3:=aw (o:=.lst [V.int 0,V.int (t.men.length:Nat)]) hx;have nxH:H x=none:=s02.free hx;have hun:=fx2.u;have nux:d.u≠x:=ai hun hx;refine⟨d.u,_,s3 _ _ hun,True.intro,fun od=>?_⟩;have FL:cW P w K a (upd H2 d.u (.frz od (.dK (aD t.men d.m)))) f d fp t:=F2.lock hun fx2.nu;have cL:Rd (upd H2 d.u (.frz od (.dK (aD t.men d.m)))) c (.dK (bZ LL)):=oV (.inl hc) (fun _ _ z=>nomatch z) hun;have gL:upd H2 d.u (.frz od (.dK (aD t.men d.m))) d.u=some (.frz od (.dK (aD t.men d.m))):=ae;have tL:upd H2 d.u (.frz od (.dK (aD t.men d.m))) ta=some (.ins a.aU dx2 (tfs d)):=by rw[ab (aK Hf hun (fun z=>nomatch z))];exact Hf
  have xB:upd H2 d.u (.frz od (.dK (aD t.men d.m))) x=none:=by rw[ab (Ne.symm nux)];exact hx
  have xL:upd (upd H2 x (.lst [V.int 0,V.int (t.men.length:Nat)])) d.u (.frz od (.dK (aD t.men d.m))) x=some (.lst [V.int 0,V.int (t.men.length:Nat)]):=by rw[ab (Ne.symm nux)];exact ae
  have sL:aF (upd H2 d.u (.frz od (.dK (aD t.men d.m)))) (upd (upd H2 x (.lst [V.int 0,V.int (t.men.length:Nat)])) d.u (.frz od (.dK (aD t.men d.m)))):=fun b o e=>by
   by_cases z:b=d.u
   ·subst z;rw[ae] at e⊢;exact e
   ·rw[ab z] at e⊢;rw[ab (ai e hx)];exact e
  have bk:∀H',aF (upd H2 d.u (.frz od (.dK (aD t.men d.m)))) H'→aF H2 (upd H' d.u (.dK (aD t.men d.m))):=fun H' s=>aF.lk hun s;generalize upd H2 d.u (.frz od (.dK (aD t.men d.m)))=B at FL cL gL tL xB sL bk;generalize upd (upd H2 x (.lst [V.int 0,V.int (t.men.length:Nat)])) d.u (.frz od (.dK (aD t.men d.m)))=H3 at xL sL⊢;refine⟨_,rfl,ta,_,dx2,_,_,rfl,sL _ _ tL,T.aQ,T.aL,bC d,d.u,od,rfl,.inl ⟨_,sL _ _ gL,?_⟩⟩;have keys:(aD t.men d.m).map (fun k=>kV k.1)=((eff t).map (·.prov)).map nV:=by
   rw[DD];exact xH F2.agW
  refine je gD (fun i σ Hn=>i≤(eff t).length∧(∃pv,σ=[some (.ref ta),some (.ref l),some (.ref f),some (.ref c),some (.ref x),pv])∧aF B Hn∧Hn x=some (.lst ((0::(t.men.length:Int)::((eff t).take i).flatMap (ac1 (eff t) LL)).map V.int))) ⟨Nat.zero_le _,⟨_,rfl⟩,sL,xL⟩ (fun i σ Hn p=>p.2.2.1 _ _ gL) (fun i v σ Hn hv p=>?_) (fun σ Hn p=>?_)
  ·obtain⟨hi,⟨pv,rfl⟩,sm,hxn⟩:=p;rw[keys,List.getElem?_map,List.getElem?_map] at hv;obtain⟨p,hp,rfl⟩:=Option.map_eq_some_iff.mp hv;obtain⟨m,hm,rfl⟩:=Option.map_eq_some_iff.mp hp;have hlt:i<(eff t).length:=(List.getElem?_eq_some_iff.mp hm).1;have et:(eff t).take (i+1)=(eff t).take i++[m]:=by rw[List.take_add_one,hm];rfl
   have hma:=cB nd (List.mem_of_getElem? hm);have Fn:=FL.same sm;have cn:=cD cL sm;refine⟨_,rfl,.inl ⟨rfl,_,SqL.of hxn⟩,_,rfl,_,rfl,_,rfl,_,rfl,f,c,d,fp,t,m.prov,m,LL,rfl,⟨Fn,W⟩,cn,mv,hma,fun H5 s5=>⟨qK,fun y hy=>?_⟩⟩;have s6:=aw (o:=.lst [nV m.prov,V.int (Hb (eff t) LL m)]) hy;have fl:(((eff t).take i).flatMap (ac1 (eff t) LL)).length≤48:=by
    rw[amt _ _ (fun _=>rfl),List.length_take];omega
   refine⟨x,y,_,_,rfl,rfl,s6 _ _ (s5 _ _ hxn),ae,by rw[List.length_map,List.length_cons,List.length_cons];exact aB.le (by show _+1+1+2≤1000;omega),hlt,⟨_,rfl⟩,fun b o e=>?_,?_⟩
   ·rw[ab (ai e xB)];exact s6 _ _ (s5 _ _ (sm _ _ e))
   ·rw[ae,et,List.flatMap_append];simp[ac1,nV]
  ·obtain⟨_,⟨pv,rfl⟩,sm,hxn⟩:=p;have el:((aD t.men d.m).map fun k=>kV k.1).length=(eff t).length:=by rw[keys,List.length_map,List.length_map]
   rw[el,List.take_length] at hxn;exact⟨sm _ _ gL,_,rfl,k _ x (s02.trans (bk _ sm)) nxH (by rw[ab (Ne.symm nux)];exact hxn)⟩
def aoG(B:Hp)(n:Str):V→V
 |.ref b=>match B b with
  |some (.ins _ _ fs)=>(fs.lookup n).getD .non
  |_=>.non
 |v=>v
theorem afC(ms:Men)(g:Man→Bool):(ms.map fun m=>bit (g m)).sum=((ms.filter g).length:Int):=by
 induction ms with
 |nil=>rfl
 |cons m r ih=>
  rw[List.map_cons,List.sum_cons,ih,List.filter_cons];cases g m with
  |true=>rw[if_pos rfl,List.length_cons];show (1:Int)+_=_;omega
  |false=>rw[if_neg (by decide)];show (0:Int)+_=_;omega
theorem O4(T:Txt w K mg a):aY P w K mg base CX0 1 a.cK a.rT ["table","numbers"] (xl P w K a 21):=by
 refine T.sr.ok km (fun vs H Q E h=>?_) (fun cdv A outer s H vs Q E hr h=>?_)
 ·obtain⟨ta,l,d,t,ns,rfl,_⟩:=h;rfl
 ·obtain⟨ta,l,d,t,ns,rfl,hT,W,G,hl,cF,ie,k⟩:=h;obtain rfl:=aoB cF;have hun:=hT.units;have m24:=W.men;refine⟨_,(af (aG (i:=2) km.nd rfl (Or.inl rfl) (aV (ah6 rfl) rfl T.ahu aiI (aa (Z2 (sO (own:=[("unit",3)]) rfl km.nd (abd (ay (pv 0) rfl)) (show ku ["table","numbers","ways","unit"] (ao lX) _ [("unit",3)] from⟨rfl,by decide+kernel,by decide+kernel,by decide+kernel,by decide+kernel⟩) (fun _ _ _ _ _=>(bX (i:=3) km.nd rfl (Or.inl rfl))) (by intro _ _ _ _ _;exact IV) (by intro _ _ _ _ _;exact(A0 K (pv 3) rfl)))) ah)))
   (aj (au (bf (aa aq (aa (aV cE rfl T.fJ c8 (aa (ay (pv 0) rfl) ah)) (aa (aV xu rfl T.fJ c8 (aa (ay (pv 0) rfl) ah)) (aa (aV xu rfl T.fJ c8 (aa (ay (pv 0) rfl) ah)) (aa (aV xu rfl T.fJ c8 (aa (ay (pv 0) rfl) ah)) (aa (pv 2) ah)))))))))),?_⟩
  refine⟨d.u,_,hun,True.intro,fun od=>?_⟩;have TL:=hT.rd.lock (o:=od) hun;have gL:upd H d.u (.frz od (.dK (aD t.men d.m))) d.u=some (.frz od (.dK (aD t.men d.m))):=ae;have bk:∀H',aF (upd H d.u (.frz od (.dK (aD t.men d.m)))) H'→aF H (upd H' d.u (.dK (aD t.men d.m))):=fun H' s=>aF.lk hun s;generalize upd H d.u (.frz od (.dK (aD t.men d.m)))=B at TL gL bk⊢;obtain⟨dx,htab⟩:=TL.tab;refine⟨_,rfl,ta,_,dx,_,_,rfl,htab,T.aQ,T.aL,bC d,d.u,od,_,rfl,gL,fun D hD=>?_⟩;have vals:(aD t.men d.m).map (fun k=>k.2)=d.m.map V.ref:=by
   unfold aD;rw[List.map_map];have e:d.m.map V.ref=((t.men.zip d.m).map Prod.snd).map V.ref:=by rw[List.map_snd_zip (by have:=hT.len;omega)]
   rw[e,List.map_map];rfl
  have each:∀i b,d.m[i]?=some b→∃m dx o,t.men[i]?=some m∧B b=some (.ins a.a9 dx (ufs m o (t.water.contains m.prov))):=fun i b hb=>by
   have hlt:i<t.men.length:=by rw[←hT.len];exact(List.getElem?_eq_some_iff.mp hb).1
   obtain⟨dx,o,q,_⟩:=TL.at_ i _ b (List.getElem?_eq_getElem hlt) hb
   exact⟨_,dx,o,List.getElem?_eq_getElem hlt,q⟩
  refine gE abq (fun H1 s1=>s1 _ _ gL) hD (fun _=>true) (fun v y _=>y=aoG B "way" v) (fun _ _ _ _ h _=>h) (by rw[vals,List.length_map,hT.len];exact aB (by omega)) (fun i v H1 hv s1 N Y hN hY=>?_) (fun H1 ys s1 hy pr=>?_)
  ·rw[vals,List.getElem?_map] at hv;obtain⟨b,hb,rfl⟩:=Option.map_eq_some_iff.mp hv;obtain⟨m,ux,o,hm,q⟩:=each i b hb;refine⟨rfl,?_⟩;refine⟨_,rfl,b,_,ux,_,_,rfl,s1 _ _ q,T.eN,T.kc,rfl,hY _ _ aF.dw rfl ?_⟩;show _=(match B b with|some (.ins _ _ fs)=>_|_=>_:V);rw[q];rfl
  ·have e1:((aD t.men d.m).map (fun k=>k.2)).filter (fun _=>true)=d.m.map V.ref:=by rw[vals];exact List.filter_eq_self.mpr (fun _ _=>rfl)
   have e:=rf pr;rw[e1,List.map_map] at e;have e2:ys=(t.men.map fun m=>bit (t.water.contains m.prov)).map V.int:=by
    rw[e,List.map_map];apply List.ext_getElem?;intro i;rw[List.getElem?_map,List.getElem?_map];cases hb:d.m[i]? with
    |none=>
     have:t.men[i]?=none:=by rw[List.getElem?_eq_none_iff] at hb⊢;rw[←hT.len];exact hb
     rw[this];rfl
    |some b=>
     obtain⟨m,ux,o,hm,q⟩:=each i b hb;rw[hm];show some (match B b with|some (.ins _ _ fs)=>_|_=>_:V)=_;rw[q];rfl
   rw[e2] at hy;refine⟨s1 _ _ gL,?_⟩;have sH:=bk _ s1;have nD:D≠d.u:=fun z=>by rw[z,gL] at hD;cases hD
   have hy2:upd H1 d.u (.dK (aD t.men d.m)) D=some (.lst ((t.men.map fun m=>bit (t.water.contains m.prov)).map V.int)):=by rw[ab nD];exact hy
   generalize upd H1 d.u (.dK (aD t.men d.m))=H2 at sH hy2⊢;have hT2:=hT.sameAll sH;obtain⟨dx2,Hf⟩:=hT2.tab;refine⟨D,_,rfl,SqL.of hy2,?_⟩;rw[afC,ael W.sR W.wnd W.water];refine⟨_,rfl,ta,_,dx2,_,_,rfl,Hf,T.aQ,T.bP,fK d,d.k,_,rfl,hT2.kinds,?_⟩;refine⟨_,rfl,ta,_,dx2,_,_,rfl,Hf,T.aQ,T.dE,Xy d,d.l,_,rfl,.inr (.inl ⟨_,hT2.land,rfl⟩),?_⟩;refine⟨_,rfl,ta,_,dx2,_,_,rfl,Hf,T.aQ,T.eh,aaI d,d.s,_,rfl,.inr (.inr ⟨_,hT2.sea,rfl⟩),?_⟩;refine⟨_,rfl,ta,_,dx2,_,_,rfl,Hf,T.aQ,T.aL,bC d,d.u,_,rfl,.inl ⟨_,hT2.units,rfl⟩,?_⟩;refine⟨_,rfl,aB.le (by simp),fun r hr=>k _ r (sH.trans (aw hr)) (sH.free hr) ?_⟩;rw[ae,mB hT.len];unfold nW Hl;rw[List.length_map,List.length_map,List.length_map];rfl
def Qk(r:List Nat):List Int:=(r.length:Int)::nums r
theorem ag5(rs:List (List Nat))(h:∀r∈rs,r.length≤24):(rs.flatMap Qk).length≤25*rs.length:=by
 induction rs with
 |nil=>exact Nat.le_refl _
 |cons r rs ih=>
  rw[List.flatMap_cons,List.length_append,List.length_cons];have h1:=ih fun x hx=>h x (List.mem_cons_of_mem _ hx);have h2:=h r List.mem_cons_self;have h3:(Qk r).length=r.length+1:=by unfold Qk Vbsoaa.nums;rw[List.length_cons,List.length_map]
  omega
theorem XW{ms:Men}(nd:(ms.map (·.prov)).Nodup)(w:List Nat):(Vbsoaa.rings ms w).length≤ms.length∧∀r∈Vbsoaa.rings ms w,r.length≤ms.length:=by
 rw[U1 nd (L:=pO ms w) (fun _=>Iff.rfl)];constructor
 ·have:=List.length_filter_le okR ((ms.map (·.prov)).map fun p=>if(pO ms w).contains p then Vbsoaa.ringFrom ms (pO ms w) p ms.length p else[]);rw[List.length_map,List.length_map] at this;exact this
 ·intro r hr;obtain⟨p,_,rfl⟩:=List.mem_map.mp (List.mem_filter.mp hr).1;show (if _ then _ else _:List Nat).length≤_;split
  ·exact XQ _ _ _ _ _
  ·exact Nat.zero_le _
theorem Uh(T:Txt w K mg a):aY P w K mg base CX0 12 a.du a.vH ["table","numbers"] (xl P w K a 18):=by
 refine T.v5.ok lZ (fun vs H Q E h=>?_) (fun cdv A outer s H vs Q E hr h=>?_)
 ·obtain⟨ta,l,d,t,ns,rfl,_⟩:=h;rfl
 ·obtain⟨ta,l,d,t,ns,rfl,hT,W,G,hl,cF,ie,k⟩:=h;obtain rfl:=aoA cF;have nd:=bI W;have e24:(eff t).length≤24:=by rw[dg];exact W.men
  obtain⟨rl,re⟩:=XW nd t.water;have hs:(step1 t [[18]]).2=0::((Vbsoaa.rings (eff t) t.water).length:Int)::(Vbsoaa.rings (eff t) t.water).flatMap Qk:=rfl;rw[hs] at k;refine⟨_,(af (aG (i:=2) lZ.nd rfl (Or.inl rfl) (aH (afA T) (hr.mono (by decide)) rfl T.aal T.Q2.kp T.aam .nil aC (aa (gC T.fI (cN T) (hr.mono (by decide)) rfl T.kn T.cM .nil aC (aa (pv 0) ah)) ah)))
   (af (aG (i:=3) lZ.nd rfl (Or.inl rfl) (bf (aa aq (aa (aV cE rfl T.fJ c8 (aa (pv 2) ah)) ah))))
   (af (mr PassesOwn.never rfl (ja (pv 2)) (bX (i:=4) lZ.nd rfl (Or.inl rfl)) (af (fo (uM PySem.F.plainAttrs_list PySem.F.slot_list_append PySem.F.type_list_append jR (pv 3) (aa (aV cE rfl T.fJ c8 (aa (pv 4) ah)) ah)))
   (aj (fo (uM PySem.F.plainAttrs_list PySem.F.slot_list_extend PySem.F.type_list_extend xm (pv 3) (aa (pv 4) ah))))))
   (aj (au (pv 3)))))),?_⟩
  refine⟨_,rfl,fun f dx nf ndx ne=>fE hT W G nf ndx fun H1 fp F1 fx1 s1=>⟨rfl,?_⟩⟩;refine⟨f,d,fp,t,rfl,F1,fx1,fun H2 x bs s2 nx hx hls=>?_⟩;generalize Vbsoaa.rings (eff t) t.water=RS at k hls rl re;have bl:bs.length=RS.length:=Paired.length hls;have s02:=s1.trans s2;refine⟨_,rfl,x,_,rfl,hx,qK,fun y hy=>?_⟩;rw[List.length_map,bl];have nyH:H y=none:=s02.free hy;have s3:=aw (o:=.lst [V.int 0,V.int (RS.length:Nat)]) hy;have hy3:upd H2 y (.lst [V.int 0,V.int (RS.length:Nat)]) y=some (.lst [V.int 0,V.int (RS.length:Nat)]):=ae;generalize upd H2 y (.lst [V.int 0,V.int (RS.length:Nat)])=H3 at s3 hy3⊢;refine⟨_,rfl,x,rfl,⟨_,SqL.of (s3 _ _ hx)⟩,?_⟩;refine je eW (fun i σ Hn=>i≤RS.length∧(∃rv,σ=[some (.ref ta),some (.ref l),some (.ref x),some (.ref y),rv])∧aF H2 Hn∧Hn y=some (.lst ((0::(RS.length:Int)::(RS.take i).flatMap Qk).map V.int))) ⟨Nat.zero_le _,⟨_,rfl⟩,s3,hy3⟩ (fun i σ Hn p=>SqL.of (p.2.2.1 _ _ hx)) (fun i v σ Hn hv p=>?_) (fun σ Hn p=>?_)
  ·obtain⟨hi,⟨rv,rfl⟩,sm,hyn⟩:=p;rw[List.getElem?_map] at hv;obtain⟨b,hb,rfl⟩:=Option.map_eq_some_iff.mp hv;obtain⟨row,hrow,hbr⟩:=qY hls hb;have hlt:i<RS.length:=(List.getElem?_eq_some_iff.mp hrow).1;have et:RS.take (i+1)=RS.take i++[row]:=by rw[List.take_add_one,hrow];rfl
   have nby:b≠y:=ai hbr hy;have hbn:=sm _ _ hbr;have rr:=re row (List.mem_of_getElem? hrow);have fl:=ag5 (RS.take i) (fun r hr=>Nat.le_trans (re r (List.mem_of_mem_take hr)) e24);rw[List.length_take] at fl;refine⟨_,rfl,.inl ⟨rfl,_,SqL.of hyn⟩,_,rfl,b,_,rfl,hbn,y,_,_,rfl,rfl,hyn,aB (by rw[List.length_map];show _+1+1≤1000;omega),?_⟩;rw[List.length_map];refine⟨_,rfl,.inl ⟨rfl,_,SqL.of ae⟩,_,rfl,y,b,_,_,rfl,rfl,ae,by rw[ab nby];exact hbn,aB.le (by rw[List.length_append,List.length_map,List.length_map];show (_+1+1+1)+_≤1000;omega),hlt,⟨_,rfl⟩,fun c o e=>?_,?_⟩
   ·rw[ab (ai e hy),ab (ai e hy)];exact sm _ _ e
   ·rw[ae,et,List.flatMap_append,MB];simp[Qk,Vbsoaa.nums]
  ·obtain⟨_,⟨rv,rfl⟩,sm,hyn⟩:=p;rw[List.length_map,bl,List.take_length] at hyn;exact⟨_,rfl,k _ y (s02.trans sm) nyH hyn⟩
end
end My
end
section
namespace My
open PySem PySem.Spec PyProof.Rows L2
open Vbsoaa (Man Men Order Table)
section
variable{P:Program}{w:World}{K:PySem.W.Frag}{mg:Str→Option Value}{base:Heap}{a:Adr}{H H' B:Hp}{r f:Addr}{d:Pt}{fp:FPt}{t:Table}
theorem aj0(T:Txt w K mg a){p:Int}(h1:12≤p)(h2:p≤21):∃kvs f fd,MD w K a.gh kvs∧aR kvs (.inl p)=some (.ref f)∧PySem.W.keepIn K (.ref f)=true∧aY P w K mg base CX0 16 f fd ["table","numbers"] (xl P w K a p)∧Binds K fd ["table","numbers"] []:=by
 obtain⟨n,rfl⟩:∃n:Nat,p=((n+12:Nat):Int):=⟨(p - 12).toNat,by omega⟩
 rcases n with _|_|_|_|_|_|_|_|_|_|n
 ·exact⟨_,_,_,T.gv,rfl,T.vZ.kp,(Ug T).mono (by decide),T.FU⟩
 ·exact⟨_,_,_,T.gv,rfl,T.lB.kp,(Fj T).mono (by decide),T.tj⟩
 ·exact⟨_,_,_,T.gv,rfl,T.z8.kp,(XU T).mono (by decide),T.Kb⟩
 ·exact⟨_,_,_,T.gv,rfl,T.sj.kp,(O2 T).mono (by decide),T.Bt⟩
 ·exact⟨_,_,_,T.gv,rfl,T.z9.kp,(XS T).mono (by decide),T.Kc⟩
 ·exact⟨_,_,_,T.gv,rfl,T.v3.kp,(Ue T).mono (by decide),T.FV⟩
 ·exact⟨_,_,_,T.gv,rfl,T.v5.kp,(Uh T).mono (by decide),T.FW⟩
 ·exact⟨_,_,_,T.gv,rfl,T.so.kp,(O3 T).mono (by decide),T.Bu⟩
 ·exact⟨_,_,_,T.gv,rfl,T.Aa.kp,(XT T).mono (by decide),T.Kd⟩
 ·exact⟨_,_,_,T.gv,rfl,T.sr.kp,(O4 T).mono (by decide),T.Bv⟩
 ·exact absurd h2 (by omega)
def ag6(P:Program)(w:World)(K:PySem.W.Frag)(a:Adr):Sp:=fun vs H Q _=>∃(ta l:Addr)(d:Pt)(t:Table)(p:Int)(ns:List Int),vs=[.ref ta,.int p,.ref l]∧12≤p∧p≤21∧
  TableAt P w K a.aU a.a9 H ta d t∧Wf t∧Wg t∧H l=some (.lst (ns.map V.int))∧VbsoaaNeutral.asked1 [p::ns]=true∧rng t (p::ns)=true∧
  ∀H' r,aF H H'→H r=none→H' r=some (.lst ((step1 t [p::ns]).2.map V.int))→Q (.ref r) H'
theorem aj1(T:Txt w K mg a):aY P w K mg base CX0 17 a.FD a.aet ["table","place","numbers"] (ag6 P w K a):=by
 refine T.aey.ok aer (fun vs H Q E h=>?_) (fun cdv A outer s H vs Q E hr h=>?_)
 ·obtain⟨ta,l,d,t,p,ns,rfl,_⟩:=h;rfl
 ·obtain⟨ta,l,d,t,p,ns,rfl,hlo,hhi,hT,W,G,hl,cF,ie,k⟩:=h;have hu:=bE hr;refine⟨_,(af (aG (i:=3) aer.nd rfl (Or.inl rfl) (uX (aX rfl T.Vn T.Vo) (pv 1) (fun _ _=>rfl)))
   (aj (au (Ju (pv 3) (aa (pv 0) (aa (pv 2) ah)) hr)))),?_⟩
  obtain⟨kvs,f,fd,h1,h2,h3,h4,h5⟩:=aj0 (P:=P) (base:=base) T hlo hhi;exact⟨_,rfl,a.gh,kvs,.inl p,.ref f,rfl,h1,rfl,h2,_,rfl,f,rfl,h3,_,rfl,_,rfl,_,_,_,h4,h5,ta,l,d,t,ns,rfl,hT,W,G,hl,cF,ie,k⟩
end
end My
end
section
namespace My
open PySem PySem.Spec PyProof.Rows L2
open Vbsoaa (Man Order Table orderNums bit linked place within isProv areProvs manAt isMan ordered)
section
variable{P:Program}{w:World}{K:PySem.W.Frag}{mg:Str→Option Value}{base:Heap}{a:Adr}
def Caller(P:Program)(w:World)(K:PySem.W.Frag)(a:Adr)(lo hi:Int):Sp:=fun vs H Q _=>∃(ta l:Addr)(d:Pt)(t:Table)(p:Int)(ns:List Int),vs=[.ref ta,.int p,.ref l]∧lo≤p∧p≤hi∧
 TableAt P w K a.aU a.a9 H ta d t∧Wf t∧H l=some (.lst (ns.map V.int))∧l∉foot ta d∧VbsoaaNeutral.asked1 [p::ns]=true∧rng t (p::ns)=true∧Aft P w K a H ta d t (p::ns) Q
theorem aj2(T:Txt w K mg a){p:Int}(h1:0≤p)(h2:p≤5):∃kvs f fd,MD w K a.jm kvs∧aR kvs (.inl p)=some (.ref f)∧PySem.W.keepIn K (.ref f)=true∧aY P w K mg base CX0 3 f fd ["table","numbers"] (Zy P w K a p)∧Binds K fd ["table","numbers"] []:=by
 obtain⟨n,rfl⟩:=Int.eq_ofNat_of_zero_le h1;rcases n with _|_|_|_|_|_|n
 ·exact⟨_,_,_,T.su,rfl,T.pA.kp,(Mh T).mono (by decide),T.yo⟩
 ·exact⟨_,_,_,T.su,rfl,T.mU.kp,(IJ T).mono (by decide),T.vK⟩
 ·exact⟨_,_,_,T.su,rfl,T.vL.kp,(TH T).mono (by decide),T.FG⟩
 ·exact⟨_,_,_,T.su,rfl,T.zY.kp,(XB T).mono (by decide),T.JW⟩
 ·exact⟨_,_,_,T.su,rfl,T.zZ.kp,(XC T).mono (by decide),T.JX⟩
 ·exact⟨_,_,_,T.su,rfl,T.vN.kp,(TQ T).mono (by decide),T.FJ⟩
 ·exact absurd h2 (by omega)
theorem aj3(T:Txt w K mg a):aY P w K mg base CX0 4 a.FC a.aes ["table","place","numbers"] (Caller P w K a 0 5):=by
 refine T.aex.ok aep (fun vs H Q E h=>?_) (fun cdv A outer s H vs Q E hr h=>?_)
 ·obtain⟨ta,l,d,t,p,ns,rfl,_⟩:=h;rfl
 ·obtain⟨ta,l,d,t,p,ns,rfl,hlo,hhi,hT,W,hl,nl,cF,ie,k⟩:=h;have hu:=bE hr;refine⟨_,(af (aG (i:=3) aep.nd rfl (Or.inl rfl) (uX (aX rfl T.aaz T.aaA) (pv 1) (fun _ _=>rfl)))
   (aj (au (Ju (pv 3) (aa (pv 0) (aa (pv 2) ah)) hr)))),?_⟩
  obtain⟨kvs,f,fd,h1,h2,h3,h4,h5⟩:=aj2 (P:=P) (base:=base) T hlo hhi;exact⟨_,rfl,a.jm,kvs,.inl p,.ref f,rfl,h1,rfl,h2,_,rfl,f,rfl,h3,_,rfl,_,rfl,_,_,_,h4,h5,ta,l,d,t,ns,rfl,hT,W,hl,nl,cF,ie,k⟩
def four(p:Int)(ns:List Int):List Int:=[p - 6]++ns.tail++List.replicate (4 - (1+ns.tail.length)) 0
def XX:Sp:=fun vs H Q _=>∃(l:Addr)(p:Int)(ns:List Int),vs=[.int p,.ref l]∧H l=some (.lst (ns.map V.int))∧ns.length≤4∧∀(H':Hp)(o:Addr),aF H H'→H o=none→H' o=some (.tup ((four p ns).map V.int))→Q (.ref o) H'
theorem XY(T:Txt w K mg a):aY P w K mg base CX0 1 a.gf a.zP ["place","numbers"] XX:=by
 refine T.z6.ok Fy (fun vs H Q E h=>?_) (fun cdv A outer s H vs Q E hr h=>?_)
 ·obtain⟨l,p,ns,rfl,_⟩:=h;rfl
 ·obtain⟨l,p,ns,rfl,hl,hn,q⟩:=h;refine⟨_,(af (aG (i:=2) Fy.nd rfl (Or.inl rfl) (fQ uN (bf (aa (fQ Qo (pv 0) (aX rfl T.yA T.yB)) ah)) (Jk Qv (pv 1) (IT aq) ZV)))
   (aj (au (Pa MH rfl T.aas aem (aa (fQ uN (pv 2) (fQ ah5 (bf (aa aq ah)) (fQ Qo (aX rfl T.v9 T.wa) (aV cE rfl T.fJ c8 (aa (pv 2) ah))))) ah))))),?_⟩
  refine⟨_,rfl,_,_,rfl,rfl,lF,fun b1 hb1=>?_⟩;have m1:aF H (upd H b1 (.lst [.int (p - 6)])):=aw hb1;refine⟨_,rfl,_,rfl,l,_,rfl,SqL.of (m1 _ _ hl),fun b2 hb2=>?_⟩;rw[ams];have e1:(ns.map V.int).drop 1=ns.tail.map V.int:=by cases ns<;>rfl
  rw[e1];have aoH:upd H b1 (.lst [.int (p - 6)]) b2=Option.none:=hb2;have m2:aF (upd H b1 (.lst [.int (p - 6)])) (upd (upd H b1 (.lst [.int (p - 6)])) b2 (.lst (ns.tail.map V.int))):=aw aoH;have ht:ns.tail.length≤3:=by rw[List.length_tail];omega
  refine⟨b1,b2,_,_,rfl,rfl,m2 _ _ ae,ae,aB.le (by simp;omega),fun b3 hb3=>?_⟩;have m3:=aw (o:=.lst ([V.int (p - 6)]++ns.tail.map V.int)) hb3;refine⟨_,rfl,lF,fun b4 hb4=>?_⟩;have m4:=aw (o:=.lst [V.int 0]) hb4;refine⟨_,rfl,b3,_,rfl,m4 _ _ ae,_,_,rfl,rfl,?_⟩;have el:([V.int (p - 6)]++ns.tail.map V.int).length=1+ns.tail.length:=by simp;omega
  rw[el];have ek:((4:Int) - ((1+ns.tail.length:Nat):Int)).toNat=4 - (1+ns.tail.length):=by omega
  refine⟨b4,_,_,rfl,rfl,ae,by omega,by omega,?_,fun b5 hb5=>?_⟩
  ·rw[ek];exact aB.le (by simp;omega)
  ·rw[ek];have er:(List.replicate (4 - (1+ns.tail.length)) [V.int 0]).flatten=(List.replicate (4 - (1+ns.tail.length)) (0:Int)).map V.int:=by
    generalize 4 - (1+ns.tail.length)=z
    induction z with
    |zero=>rfl
    |succ z ih=>rw[List.replicate_succ,List.replicate_succ,List.flatten_cons,ih];rfl
   rw[er];have m5:=aw (o:=.lst ((List.replicate (4 - (1+ns.tail.length)) (0:Int)).map V.int)) hb5;refine⟨b3,b5,_,_,rfl,rfl,m5 _ _ (m4 _ _ ae),ae,aB.le (by simp;omega),fun b6 hb6=>?_⟩;have ef:[V.int (p - 6)]++ns.tail.map V.int++(List.replicate (4 - (1+ns.tail.length)) (0:Int)).map V.int=(four p ns).map V.int:=by unfold four;simp
   rw[ef];have m6:=aw (o:=.lst ((four p ns).map V.int)) hb6;refine⟨b6,_,rfl,.inl ⟨SqL.of ae,fun b7 hb7=>?_⟩⟩;have m7:=aw (o:=.tup ((four p ns).map V.int)) hb7;have mm:=((((m1.trans m2).trans m3).trans m4).trans m5).trans m6;exact q _ b7 (mm.trans m7) (mm.free hb7) ae
def orderOf:List Int→Order
 |[6,_]=>.hold
 |[7,_,q,u,x]=>.move q.toNat u.toNat (x==1)
 |[8,_,q]=>.stay q.toNat
 |[9,_,b,q]=>.aid b.toNat q.toNat
 |[10,_,b,q]=>.carry b.toNat q.toNat
 |_=>.hold
theorem wn{x lo hi:Int}(h:within x lo hi=true):lo≤x∧x≤hi:=by
 unfold Vbsoaa.within at h;rw[Bool.and_eq_true,decide_eq_true_eq,decide_eq_true_eq] at h;exact h
theorem pn{t:Table}{x:Int}(h:isProv t x=true):0≤x:=(wn (show within x 0 ((t.board.kinds.length:Int) - 1)=true from h)).1
theorem ZK{t:Table}{p:Int}{ns:List Int}(lo:6≤p)(hi:p≤10)(cF:VbsoaaNeutral.asked1 [p::ns]=true)(hr:rng t (p::ns)=true):
  ∃(z:Int)(r:List Int),ns=z::r∧ns.length≤4∧isProv t z=true∧orderNums (orderOf (p::ns))=four p ns∧
   step1 t [p::ns]=if isMan t z=false then(t,[-5]) else(ordered t z.toNat (orderOf (p::ns)),[0]):=by
 have hp:p=6∨p=7∨p=8∨p=9∨p=10:=by omega
 rcases hp with rfl|rfl|rfl|rfl|rfl
 ·obtain⟨z,rfl⟩:=sh6 cF;have h1:isProv t z=true:=hr;refine⟨z,[],rfl,by simp,h1,rfl,?_⟩;show (if isProv t z=false then _ else _)=_;rw[h1,if_neg (by decide)];rfl
 ·obtain⟨z,q,u,x,rfl⟩:=sh7 cF;have h1:(isProv t z&&(isProv t q&&(within u 0 3&&within x 0 1)))=true:=hr;have h2:=h1;simp only[Bool.and_eq_true] at h2;obtain⟨a1,a2,a3,a4⟩:=h2;have b2:=pn a2;have b3:=wn a3;have b4:=wn a4;refine⟨z,[q,u,x],rfl,by simp,a1,?_,?_⟩
  ·have hx:x=0∨x=1:=by omega
   show [1,((q.toNat:Nat):Int),((u.toNat:Nat):Int),bit (x==1)]=[7 - 6,q,u,x];rw[Int.toNat_of_nonneg b2,Int.toNat_of_nonneg b3.1];rcases hx with rfl|rfl<;>rfl
  ·show (if(isProv t z&&(isProv t q&&(within u 0 3&&within x 0 1)))=false then _ else _)=_;rw[h1,if_neg (by decide)];rfl
 ·obtain⟨z,q,rfl⟩:=sh8 cF;have h1:(isProv t z&&isProv t q)=true:=hr;have h2:=h1;simp only[Bool.and_eq_true] at h2;have b2:=pn h2.2;refine⟨z,[q],rfl,by simp,h2.1,?_,?_⟩
  ·show [2,((q.toNat:Nat):Int),0,0]=[8 - 6,q,0,0];rw[Int.toNat_of_nonneg b2];rfl
  ·show (if(isProv t z&&isProv t q)=false then _ else _)=_;rw[h1,if_neg (by decide)];rfl
 ·obtain⟨z,b,q,rfl⟩:=sh9 cF;have h1:(isProv t z&&(isProv t b&&isProv t q))=true:=hr;have h2:=h1;simp only[Bool.and_eq_true] at h2;have b1:=pn h2.2.1;have b2:=pn h2.2.2;refine⟨z,[b,q],rfl,by simp,h2.1,?_,?_⟩
  ·show [3,((b.toNat:Nat):Int),((q.toNat:Nat):Int),0]=[9 - 6,b,q,0];rw[Int.toNat_of_nonneg b1,Int.toNat_of_nonneg b2];rfl
  ·show (if(isProv t z&&(isProv t b&&isProv t q))=false then _ else _)=_;rw[h1,if_neg (by decide)];rfl
 ·obtain⟨z,b,q,rfl⟩:=am0 cF;have h1:(isProv t z&&(isProv t b&&isProv t q))=true:=hr;have h2:=h1;simp only[Bool.and_eq_true] at h2;have b1:=pn h2.2.1;have b2:=pn h2.2.2;refine⟨z,[b,q],rfl,by simp,h2.1,?_,?_⟩
  ·show [4,((b.toNat:Nat):Int),((q.toNat:Nat):Int),0]=[10 - 6,b,q,0];rw[Int.toNat_of_nonneg b1,Int.toNat_of_nonneg b2];rfl
  ·show (if(isProv t z&&(isProv t b&&isProv t q))=false then _ else _)=_;rw[h1,if_neg (by decide)];rfl
def tU(t:Table)(p:Nat)(x:Int):List Nat:=t.water.filter (fun y=>y !=p)++(if x=1 then[p] else[])
theorem aj4(t:Table)(p:Nat){x:Int}(h0:0≤x)(h1:x≤1):x=bit ((tU t p x).contains p):=by
 have hx:x=0∨x=1:=by omega
 have nf:p∉t.water.filter (fun y=>y !=p):=fun h=>by have:=(List.mem_filter.mp h).2;simp at this
 rcases hx with rfl|rfl
 ·have:(tU t p 0).contains p=false:=by
   cases c:(tU t p 0).contains p with
   |false=>rfl
   |true=>
    have:=contains_iff.mp c;unfold tU at this;rw[if_neg (by decide),List.append_nil] at this;exact absurd this nf
  rw[this];rfl
 ·have:(tU t p 1).contains p=true:=contains_iff.mpr (by unfold tU;rw[if_pos rfl];exact List.mem_append_right _ List.mem_cons_self);rw[this];rfl
theorem afD(t:Table)(p:Nat)(x:Int){y:Nat}(h:y≠p):(tU t p x).contains y=t.water.contains y:=by
 rw[Bool.eq_iff_iff,contains_iff,contains_iff];unfold tU;rw[List.mem_append,List.mem_filter];constructor
 ·rintro(z|z)
  ·exact z.1
  ·split at z
   ·exact absurd (List.mem_singleton.mp z) h
   ·cases z
 ·intro z;exact .inl ⟨z,by simpa using h⟩
theorem Ui(T:Txt w K mg a):aY P w K mg base CX0 2 a.fj a.vB ["table","place","numbers"] (Caller P w K a 6 11):=by
 refine T.vO.ok rH (fun vs H Q E h=>?_) (fun cdv A outer s H vs Q E hr h=>?_)
 ·obtain⟨ta,l,d,t,p,ns,rfl,_⟩:=h;rfl
 ·obtain⟨ta,l,d,t,pl,ns,rfl,hlo,hhi,hT,W,hl,nl,cF,ie,k⟩:=h;obtain⟨dx,htab⟩:=hT.tab;have hu:=bE hr;refine⟨_,(af (aG (i:=3) rH.nd rfl (Or.inl rfl) (bK bL (pv 2) aq (fun _ _=>rfl)))
   (af (bJ (gZ (Jv hu (pv 3) (ay (pv 0) rfl))) (aj (au (bf (aa (nL jb aq) ah)))) aP)
   (af (aG (i:=4) rH.nd rfl (Or.inl rfl) (adT hu (ay (pv 0) rfl) (pv 3) (fun _ _=>rfl)))
   (af (bJ (bh fb (pv 1) (aX rfl T.ahv T.ahw) (a0 _)) (aj (fq (pv 4) (bK bL (pv 2) aq (fun _ _=>rfl)) rfl)) (aj (fq (pv 4) (aH (XY T) (hr.mono (by decide)) rfl T.J2 T.z6.kp T.J3 .nil aC (aa (pv 1) (aa (pv 2) ah))) rfl)))
   (aj (au (bf (aa aq ah)))))))),?_⟩
  by_cases e11:pl=11
  ·subst e11;obtain⟨z,x,rfl⟩:=aoD cF;have hzx:(isProv t z&&within x 0 1)=true:=ie;have aoI:=hzx;rw[Bool.and_eq_true] at hzx;obtain⟨hz,hx⟩:=hzx;obtain⟨p,rfl,hp⟩:=cX hz;have hx:=wn hx;have eM:isMan t p=(manAt t.men p).isSome:=by
    unfold isMan;rw[hz];rfl
   have hs:step1 t [[11,(p:Int),x]]=if isMan t p=false then(t,[-5]) else({t with water:=tU t p x},[0]):=by
    show (if(isProv t p&&within x 0 1)=false then _ else _)=_;rw[aoI,if_neg (by decide)];rfl
   refine⟨_,rfl,l,_,0,.int p,rfl,rfl,hl,nM (j:=0) rfl,?_⟩;refine⟨_,rfl,_,rfl,ta,_,dx,_,_,rfl,htab,T.aQ,T.aL,bC d,d.u,_,_,rfl,rfl,hT.units,_,rfl,?_⟩;have eU:(aR (aD t.men d.m) (.inl (p:Int))).isSome=(manAt t.men p).isSome:=dM hT.len;rw[eU,←eM];cases e:isMan t p with
   |false=>
    refine bq ⟨_,rfl,lF,fun r hr=>?_⟩;refine k.fin (t1:=t) (ans:=[-5]) ?_ hT .refl hr rfl;rw[hs,if_pos e]
   |true=>
    refine aS ?_;obtain⟨m,hm⟩:=Option.isSome_iff_exists.mp (by rw[←eM];exact e);obtain⟨i,b,g1,g2,hv,hmp,ux,o0,hb,ho⟩:=hT.unit hm;refine⟨_,rfl,ta,_,dx,_,_,rfl,htab,T.aQ,T.aL,bC d,_,rfl,d.u,_,_,_,rfl,rfl,hT.units,hv,?_⟩;refine⟨_,rfl,rfl,_,rfl,bq ⟨_,rfl,l,_,1,.int x,rfl,rfl,hl,nM (j:=1) rfl,_,rfl,b,_,ux,_,rfl,hb,T.eN,T.kc,(by show 5<1000;decide),?_⟩⟩;have hTn:=hT.aae W g1 g2 hb (fun x=>x) (tU t p x) (fs':=bx "way" (.int x) (ufs m o0 (t.water.contains m.prov))) (o:=o0)
     (fun x=>rfl) (fun x hx=>rfl) (by rw[hmp,show bx "way" (.int x) (ufs m o0 (t.water.contains p))=ufs m o0 ((tU t p x).contains p) by(conv=>lhs;rw[aj4 t p hx.1 hx.2]);rfl]) (fun y hy=>afD t p x (by rw[←hmp];exact hy)) ho
    refine⟨lF,k.fin2 (t1:={t with water:=tU t p x}) (ans:=[0]) ?_ (by rw[List.map_id'] at hTn;exact hTn) (.write (by simp[foot,List.mem_of_getElem? g2])) rfl⟩;rw[hs,if_neg (by rw[e];decide)]
  ·obtain⟨z,r,ens,hn4,hz,hord,hs⟩:=ZK hlo (by omega) cF ie;obtain⟨p,rfl,hp⟩:=cX hz;have eM:isMan t p=(manAt t.men p).isSome:=by
    unfold isMan;rw[hz];rfl
   refine⟨_,rfl,l,_,0,.int p,rfl,rfl,hl,by rw[ens];exact nM (j:=0) rfl,?_⟩;refine⟨_,rfl,_,rfl,ta,_,dx,_,_,rfl,htab,T.aQ,T.aL,bC d,d.u,_,_,rfl,rfl,hT.units,_,rfl,?_⟩;have eU:(aR (aD t.men d.m) (.inl (p:Int))).isSome=(manAt t.men p).isSome:=dM hT.len;rw[eU,←eM];cases e:isMan t p with
   |false=>
    refine bq ⟨_,rfl,lF,fun r hr=>?_⟩;refine k.fin (t1:=t) (ans:=[-5]) ?_ hT .refl hr rfl;rw[hs,if_pos e]
   |true=>
    refine aS ?_;obtain⟨m,hm⟩:=Option.isSome_iff_exists.mp (by rw[←eM];exact e);obtain⟨i,b,g1,g2,hv,hmp,ux,o0,hb,ho⟩:=hT.unit hm;refine⟨_,rfl,ta,_,dx,_,_,rfl,htab,T.aQ,T.aL,bC d,_,rfl,d.u,_,_,_,rfl,rfl,hT.units,hv,?_⟩;refine⟨_,rfl,rfl,_,rfl,?_⟩;rw[TV,decide_eq_false e11];refine aS ⟨_,rfl,_,rfl,l,pl,ns,rfl,hl,hn4,fun H1 o sm no ho1=>?_⟩;have hT1:=hT.sameAll sm;refine⟨_,rfl,b,_,ux,_,rfl,sm _ _ hb,T.eN,T.l7,(by show 5<1000;decide),?_⟩;have hTn:=hT1.aae W g1 g2 (sm _ _ hb) (fun x=>if x.prov=p then {x with order:=orderOf (pl::ns)} else x) t.water (fs':=bx "order" (.ref o) (ufs m o0 (t.water.contains m.prov))) (o:=o)
     (fun x=>by split<;>rfl) (fun x hx=>if_neg (fun z=>hx (z.trans hmp.symm))) (by rw[if_pos hmp];rfl) (fun _ _=>rfl) (by rw[if_pos hmp];show SqT K H1 o ((orderNums (orderOf (pl::ns))).map V.int);rw[hord];exact SqT.of ho1)
    refine⟨lF,k.fin2 (t1:=ordered t p (orderOf (pl::ns))) (ans:=[0]) ?_ hTn ((Fra.same sm).trans (.write (by simp[foot,List.mem_of_getElem? g2]))) rfl⟩;rw[hs,if_neg (by rw[e];decide)];rfl
end
end My
end
section
namespace My
open PySem PySem.Spec PyProof.Rows L2
open Vbsoaa (Man Order Table orderNums bit linked place within isProv areProvs)
theorem ag7{t:Table}{p:Int}{ns:List Int}(h:VbsoaaNeutral.asked1 [p::ns]=true):rng t (p::ns)=inR t p ns:=by
 have flip:∀a b c:Bool,(a&&(b&&c))=(b&&(a&&c)):=by decide
 rcases aW h with⟨rfl,rfl⟩|⟨rfl,k,rfl⟩|⟨rfl,x,y,rfl⟩|⟨rfl,x,y,z,u,rfl⟩|⟨rfl,x,y,z,u,rfl⟩|⟨rfl,x,rfl⟩|⟨rfl,x,rfl⟩|⟨rfl,x,y,z,u,rfl⟩|⟨rfl,x,y,rfl⟩|⟨rfl,x,y,z,rfl⟩|⟨rfl,x,y,z,rfl⟩|⟨rfl,x,y,rfl⟩|⟨rfl,x,rfl⟩|⟨rfl,x,l,rfl,hl⟩|⟨rfl,hl⟩|⟨rfl,hl⟩|⟨rfl,rfl⟩|⟨rfl,rfl⟩|⟨rfl,rfl⟩|⟨rfl,hl⟩|⟨rfl,hl⟩|⟨rfl,rfl⟩
 ·rfl
 ·show within k 0 2=(true&&(within k 0 2&&true));simp
 ·show (isProv t x&&isProv t y)=(true&&(isProv t x&&(isProv t y&&true)));simp
 ·show (isProv t x&&(isProv t z&&(within y 0 3&&within u 0 3)))=(true&&(isProv t x&&(within y 0 3&&(isProv t z&&(within u 0 3&&true)))));simp[flip]
 ·show (within x 0 6&&(within y 0 1&&(isProv t z&&within u 0 3)))=(true&&(within x 0 6&&(within y 0 1&&(isProv t z&&(within u 0 3&&true)))));simp
 ·show isProv t x=(true&&(isProv t x&&true));simp
 ·show isProv t x=(true&&(isProv t x&&true));simp
 ·show (isProv t x&&(isProv t y&&(within z 0 3&&within u 0 1)))=(true&&(isProv t x&&(isProv t y&&(within z 0 3&&(within u 0 1&&true)))));simp
 ·show (isProv t x&&isProv t y)=(true&&(isProv t x&&(isProv t y&&true)));simp
 ·show (isProv t x&&(isProv t y&&isProv t z))=(true&&(isProv t x&&(isProv t y&&(isProv t z&&true))));simp
 ·show (isProv t x&&(isProv t y&&isProv t z))=(true&&(isProv t x&&(isProv t y&&(isProv t z&&true))));simp
 ·show (isProv t x&&within y 0 1)=(true&&(isProv t x&&(within y 0 1&&true)));simp
 ·show isProv t x=(true&&(isProv t x&&true));simp
 ·show (isProv t x&&(decide (l.length≤24)&&l.all (isProv t)))=(decide (l.length≤24)&&(isProv t x&&((List.replicate l.length Nm.prov).zip l).all (okN t)));rw[ma,flip]
 ·show (decide (ns.length≤24)&&ns.all (isProv t))=(decide (ns.length≤24)&&((List.replicate ns.length Nm.prov).zip ns).all (okN t));rw[ma]
 ·show (decide (ns.length≤24)&&ns.all (isProv t))=(decide (ns.length≤24)&&((List.replicate ns.length Nm.prov).zip ns).all (okN t));rw[ma]
 ·rfl
 ·rfl
 ·rfl
 ·show (decide (ns.length≤24)&&ns.all (isProv t))=(decide (ns.length≤24)&&((List.replicate ns.length Nm.prov).zip ns).all (okN t));rw[ma]
 ·show (decide (ns.length≤24)&&ns.all (isProv t))=(decide (ns.length≤24)&&((List.replicate ns.length Nm.prov).zip ns).all (okN t));rw[ma]
 ·rfl
theorem aj5{t:Table}{p:Int}{ns:List Int}(h:VbsoaaNeutral.asked1 [p::ns]=true)(hr:rng t (p::ns)=false):step1 t [p::ns]=(t,[-1]):=by
 have pick:∀{b:Bool}{x y:Table×List Int},b=false→(if b=false then x else y)=x:=fun h=>if_pos h;rcases aW h with⟨rfl,rfl⟩|⟨rfl,k,rfl⟩|⟨rfl,x,y,rfl⟩|⟨rfl,x,y,z,u,rfl⟩|⟨rfl,x,y,z,u,rfl⟩|⟨rfl,x,rfl⟩|⟨rfl,x,rfl⟩|⟨rfl,x,y,z,u,rfl⟩|⟨rfl,x,y,rfl⟩|⟨rfl,x,y,z,rfl⟩|⟨rfl,x,y,z,rfl⟩|⟨rfl,x,y,rfl⟩|⟨rfl,x,rfl⟩|⟨rfl,x,l,rfl,hl⟩|⟨rfl,hl⟩|⟨rfl,hl⟩|⟨rfl,rfl⟩|⟨rfl,rfl⟩|⟨rfl,rfl⟩|⟨rfl,hl⟩|⟨rfl,hl⟩|⟨rfl,rfl⟩
 all_goals first|exact pick hr|cases hr
theorem afE{t:Table}{p:Int}{ns:List Int}(h:VbsoaaNeutral.asked1 [p::ns]=true)(hp:12≤p):(step1 t [p::ns]).1=t:=by
 have e2:∀{c:Prop} [Decidable c] {x y:Table×List Int},x.1=t→y.1=t→(if c then x else y).1=t:=fun h1 h2=>by split<;>assumption
 rcases aW h with⟨rfl,rfl⟩|⟨rfl,k,rfl⟩|⟨rfl,x,y,rfl⟩|⟨rfl,x,y,z,u,rfl⟩|⟨rfl,x,y,z,u,rfl⟩|⟨rfl,x,rfl⟩|⟨rfl,x,rfl⟩|⟨rfl,x,y,z,u,rfl⟩|⟨rfl,x,y,rfl⟩|⟨rfl,x,y,z,rfl⟩|⟨rfl,x,y,z,rfl⟩|⟨rfl,x,y,rfl⟩|⟨rfl,x,rfl⟩|⟨rfl,x,l,rfl,hl⟩|⟨rfl,hl⟩|⟨rfl,hl⟩|⟨rfl,rfl⟩|⟨rfl,rfl⟩|⟨rfl,rfl⟩|⟨rfl,hl⟩|⟨rfl,hl⟩|⟨rfl,rfl⟩
 iterate 12 (exact absurd hp (by decide))
 ·refine e2 rfl ?_;split<;>rfl
 ·refine e2 rfl ?_;split<;>rfl
 ·exact e2 rfl rfl
 ·exact e2 rfl rfl
 ·rfl
 ·rfl
 ·rfl
 ·exact e2 rfl rfl
 ·exact e2 rfl rfl
 ·rfl
def Nm.str:Nm→Str
 |.prov=>"province"
 |.kind=>"kind"
 |.shore=>"shore"
 |.power=>"power"
 |.fleet=>"fleet"
 |.water=>"water"
 |.way=>"way"
def Nm.v(n:Nm):V:=.str n.str
section
variable{P:Program}{w:World}{K:PySem.W.Frag}{mg:Str→Option Value}{base:Heap}{a:Adr}
theorem ZL(T:Txt w K mg a){p:Int}(h0:0≤p)(h1:p≤21):∃kvs o,MD w K a.eY kvs∧aR kvs (.inl p)=some (.ref o)∧∀H,SqT K H o ((QH p).map Nm.v):=by
 obtain⟨n,rfl⟩:=Int.eq_ofNat_of_zero_le h0;rcases n with _|_|_|_|_|_|_|_|_|_|_|_|_|_|_|_|_|_|_|_|_|_|n
 ·exact⟨_,_,T.bA,rfl,T.FX⟩
 ·exact⟨_,_,T.bA,rfl,T.FY⟩
 ·exact⟨_,_,T.bA,rfl,T.FZ⟩
 ·exact⟨_,_,T.bA,rfl,T.F5⟩
 ·exact⟨_,_,T.bA,rfl,T.F6⟩
 ·exact⟨_,_,T.bA,rfl,T.F7⟩
 ·exact⟨_,_,T.bA,rfl,T.F8⟩
 ·exact⟨_,_,T.bA,rfl,T.F9⟩
 ·exact⟨_,_,T.bA,rfl,T.Ga⟩
 ·exact⟨_,_,T.bA,rfl,T.Gb⟩
 ·exact⟨_,_,T.bA,rfl,T.Bz⟩
 ·exact⟨_,_,T.bA,rfl,T.BA⟩
 ·exact⟨_,_,T.bA,rfl,T.BB⟩
 ·exact⟨_,_,T.bA,rfl,T.BC⟩
 ·exact⟨_,_,T.bA,rfl,T.BD⟩
 ·exact⟨_,_,T.bA,rfl,T.BE⟩
 ·exact⟨_,_,T.bA,rfl,T.BF⟩
 ·exact⟨_,_,T.bA,rfl,T.BG⟩
 ·exact⟨_,_,T.bA,rfl,T.BH⟩
 ·exact⟨_,_,T.bA,rfl,T.BI⟩
 ·exact⟨_,_,T.bA,rfl,T.BJ⟩
 ·exact⟨_,_,T.bA,rfl,T.BK⟩
 ·exact absurd h1 (by omega)
def XZ(a:Adr):Sp:=fun vs H Q _=>∃(ta dx:Addr)(d:Pt)(t:Table)(n:Nm),vs=[.ref ta,n.v]∧H ta=some (.ins a.aU dx (tfs d))∧H d.k=some (.lst (t.board.kinds.map nV))∧Q (.int (n.top t)) H
theorem X0(T:Txt w K mg a):aY P w K mg base CX0 1 a.gb a.zN ["table","name"] (XZ a):=by
 refine T.z0.ok U7 (fun vs H Q E h=>?_) (fun cdv A outer s H vs Q E hr h=>?_)
 ·obtain⟨ta,dx,d,t,n,rfl,_⟩:=h;rfl
 ·obtain⟨ta,dx,d,t,n,rfl,hta,hk,q⟩:=h;refine⟨_,(af (bJ (bh fb (pv 1) ac7 (a0 _)) (aj (au (fQ Qo (aV cE rfl T.fJ c8 (aa (ay (pv 0) rfl) ah)) aq))) aP)
   (aj (au (uX (aX rfl T.Kk T.Kl) (pv 1) (fun _ _=>rfl))))),?_⟩
  cases n with
  |prov=>
   refine⟨_,rfl,rfl,_,rfl,bq ⟨_,rfl,ta,_,dx,_,_,rfl,hta,T.aQ,T.bP,fK d,d.k,_,rfl,hk,_,_,rfl,rfl,?_⟩⟩;rw[List.length_map];exact q
  |kind=>exact⟨_,rfl,rfl,_,rfl,aS ⟨_,rfl,a.cu,_,.inr "kind",_,rfl,T.iI,rfl,rfl,q⟩⟩
  |shore=>exact⟨_,rfl,rfl,_,rfl,aS ⟨_,rfl,a.cu,_,.inr "shore",_,rfl,T.iI,rfl,rfl,q⟩⟩
  |power=>exact⟨_,rfl,rfl,_,rfl,aS ⟨_,rfl,a.cu,_,.inr "power",_,rfl,T.iI,rfl,rfl,q⟩⟩
  |fleet=>exact⟨_,rfl,rfl,_,rfl,aS ⟨_,rfl,a.cu,_,.inr "fleet",_,rfl,T.iI,rfl,rfl,q⟩⟩
  |water=>exact⟨_,rfl,rfl,_,rfl,aS ⟨_,rfl,a.cu,_,.inr "water",_,rfl,T.iI,rfl,rfl,q⟩⟩
  |way=>exact⟨_,rfl,rfl,_,rfl,aS ⟨_,rfl,a.cu,_,.inr "way",_,rfl,T.iI,rfl,rfl,q⟩⟩
end
end My
end
section
namespace My
open PySem PySem.Spec PyProof.Rows L2
open Vbsoaa (Man Order Table orderNums bit linked place within isProv areProvs)
section
variable{P:Program}{w:World}{K:PySem.W.Frag}{mg:Str→Option Value}{base:Heap}{a:Adr}
theorem aj6{p:Int}{ns:List Int}{i:Nat}{n:Nm}{z:Int}(h1:(nmL p ns)[i]?=some n)(h2:ns[i]?=some z):((nmL p ns).zip ns)[i]?=some (n,z):=by
 rw[List.getElem?_zip_eq_some];exact⟨h1,h2⟩
theorem afF{α:Type}{f:α→Bool}{l:List α}{i:Nat}{x:α}(h:l[i]?=some x):(l.take (i+1)).all f=((l.take i).all f&&f x):=by
 rw[List.take_add_one,h,List.all_append];simp
theorem aaT{α:Type}{f:α→Bool}{l:List α}{i:Nat}{x:α}(h:l[i]?=some x)(hx:f x=false):l.all f=false:=by
 cases e:l.all f with
 |false=>rfl
 |true=>
  have:=List.all_eq_true.mp e x (List.mem_of_getElem? h);rw[hx] at this;cases this
def X1(P:Program)(w:World)(K:PySem.W.Frag)(a:Adr):Sp:=fun vs H Q _=>∃(ta l:Addr)(d:Pt)(t:Table)(p:Int)(ns:List Int),vs=[.ref ta,.int p,.ref l]∧
 TableAt P w K a.aU a.a9 H ta d t∧H l=some (.lst (ns.map V.int))∧VbsoaaNeutral.asked1 [p::ns]=true∧∀H',aF H H'→Q (.bl (rng t (p::ns))) H'
theorem X2(T:Txt w K mg a):aY P w K mg base CX0 2 a.gd a.zO ["table","place","numbers"] (X1 P w K a):=by
 refine T.z5.ok kE (fun vs H Q E h=>?_) (fun cdv A outer s H vs Q E hr h=>?_)
 ·obtain⟨ta,l,d,t,p,ns,rfl,_⟩:=h;rfl
 ·obtain⟨ta,l,d,t,p,ns,rfl,hT,hl,cF,k⟩:=h;obtain⟨dx,htab⟩:=hT.tab;obtain⟨h0,h21,hle,h99⟩:=adK cF;obtain⟨kvs,o,md,hv,hq⟩:=ZL T h0 h21;rw[ag7 cF] at k;have hu:=bE hr;refine⟨_,(af (aG (i:=3) kE.nd rfl (Or.inl rfl) (uX (aX rfl T.PH T.PJ) (pv 1) (fun _ _=>rfl)))
   (af (aG (i:=4) kE.nd rfl (Or.inl rfl) (fQ Qo (aV cE rfl T.fJ c8 (aa (pv 2) ah)) (aV qU rfl T.fJ c8 (aa (pv 3) ah))))
   (af (bJ (bh ZU (pv 4) (aX rfl T.yy T.yz) (a0 _)) (aj (au sM)) aP)
   (af (mr PassesOwn.never rfl (agl rfl T.aht (aa (fQ agk (pv 3) (fQ agj (fW (aa ac7 ah)) (pv 4))) (aa (pv 2) ah))) (adf rfl (AM (bX (i:=5) kE.nd rfl (Or.inl rfl)) (AM (bX (i:=6) kE.nd rfl (Or.inl rfl)) ZQ))) (aj (bJ (PW.pt (ac9 (bh adj (pv 6) aq (a0 _)) (X4 (bh ZU (pv 6) (aH (X0 T) (hr.mono (by decide)) rfl T.JY T.z0.kp T.JZ .nil aC (aa (pv 0) (aa (pv 5) ah))) (a0 _))))) (aj (au sM)) aP)))
   (aj (au sM)))))),?_⟩
  refine⟨_,rfl,a.eY,kvs,.inl p,.ref o,rfl,md,rfl,hv,?_⟩;refine⟨_,rfl,l,_,rfl,hl,_,rfl,o,_,rfl,.inr (hq H),_,_,rfl,rfl,?_⟩;have eb:(((ns.map V.int).length:Nat):Int) - ((((QH p).map Nm.v).length:Nat):Int)=((bhd p ns:Nat):Int):=by
   rw[List.length_map,List.length_map];unfold bhd;omega
  dsimp only;rw[eb];refine⟨_,rfl,_,_,rfl,rfl,_,rfl,DN (fun h=>?_) (fun h=>?_)⟩
  ·have h1:¬bhd p ns≤24:=by have:=of_decide_eq_true h;omega
   have e:inR t p ns=false:=by unfold inR;rw[decide_eq_false h1];rfl
   rw[e] at k;exact k H fun _ _ e=>e
  ·have h1:bhd p ns≤24:=by
    by_cases z:bhd p ns≤24
    ·exact z
    ·exact absurd (decide_eq_true (by omega)) h
   have eR:inR t p ns=((nmL p ns).zip ns).all (okN t):=by unfold inR;rw[decide_eq_true h1];rfl
   rw[eR] at k;have hlen:=af9 hle;refine⟨_,rfl,lF,fun b1 hb1=>?_⟩;have s1:=aw (o:=.tup [V.str "province"]) hb1;refine⟨_,rfl,b1,bhd p ns,_,rfl,rfl,SqT.of ae,(fun z=>nomatch z),(by show 1*bhd p ns≤sizeLine;exact aB.le (by omega)),fun b2 H2 s2 hb2=>?_⟩;have e2:((QH p).map Nm.v)++(List.replicate (bhd p ns) [V.str "province"]).flatten=(nmL p ns).map Nm.v:=by
    unfold nmL;rw[List.map_append,List.map_replicate];congr 1;generalize bhd p ns=n
    induction n with
    |zero=>rfl
    |succ n ih=>rw[List.replicate_succ,List.replicate_succ,List.flatten_cons,ih];rfl
   refine⟨o,b2,_,_,rfl,rfl,hq H2,hb2,?_,fun b3 H3 s3 hb3=>?_⟩
   ·rw[←List.length_append,e2,List.length_map,hlen];exact aB.le (by omega)
   rw[e2] at hb3;have s03:=(s1.trans s2).trans s3;refine⟨_,rfl,b3,l,_,_,rfl,hb3,SqL.of (s03 _ _ hl),?_⟩;refine ad5 (K:=K) (t:=b3) (l:=l) (xs:=(nmL p ns).map Nm.v) (ys:=ns.map V.int) (by rw[List.length_map,List.length_map,hlen])
    (fun i σ H'=>(∃x5 x6,σ=[some (.ref ta),some (.int p),some (.ref l),some (.ref o),some (.int ((bhd p ns:Nat):Int)),x5,x6])∧aF H3 H'∧(((nmL p ns).zip ns).take i).all (okN t)=true)
    ⟨⟨_,_,rfl⟩,fun _ _ e=>e,rfl⟩ (fun i σ H' hp=>⟨hb3.same hp.2.1,SqL.of (hp.2.1 _ _ (s03 _ _ hl))⟩) (fun i x y b σ H' hx hy hb hp=>?_) (fun σ H' hp=>?_)
   ·obtain⟨⟨x5,x6,rfl⟩,sm,acc⟩:=hp;rw[List.getElem?_map] at hx hy;obtain⟨n,hn,rfl⟩:=Option.map_eq_some_iff.mp hx;obtain⟨z,hz,rfl⟩:=Option.map_eq_some_iff.mp hy;have aj7:=aj6 hn hz;have s4:=sm.trans (aw (o:=.tup [n.v,V.int z]) hb);have s04:=s03.trans s4;refine⟨b,_,rfl,SqT.of ae,rfl,_,_,rfl,_,_,rfl,rfl,?_⟩;have lo:∀hneg:z<0,okN t (n,z)=false:=fun hneg=>by
     show (decide (0≤z)&&decide (z≤n.top t))=false;rw[decide_eq_false (by omega)];rfl
    have hi:∀hbig:n.top t<z,okN t (n,z)=false:=fun hbig=>by
     show (decide (0≤z)&&decide (z≤n.top t))=false;rw[decide_eq_false (show¬z≤n.top t by omega),Bool.and_false]
    refine⟨_,rfl,_,_,rfl,rfl,_,rfl,DN (fun hneg=>?_) (fun hneg=>?_)⟩
    ·refine bq ?_;have:=aaT (f:=okN t) aj7 (lo (of_decide_eq_true hneg));rw[this] at k;exact k _ s04
    ·have hpos:0≤z:=by
      by_cases c:0≤z
      ·exact c
      ·exact absurd (decide_eq_true (by omega)) hneg
     refine⟨_,rfl,_,rfl,_,rfl,ta,dx,d,t,n,rfl,s04 _ _ htab,s04 _ _ hT.kinds,_,_,rfl,rfl,_,rfl,DN (fun hbig=>?_) (fun hbig=>?_)⟩
     ·have:=aaT (f:=okN t) aj7 (hi (of_decide_eq_true hbig));rw[this] at k;exact k _ s04
     ·have htop:z≤n.top t:=by
       by_cases c:z≤n.top t
       ·exact c
       ·exact absurd (decide_eq_true (by omega)) hbig
      refine⟨⟨_,_,rfl⟩,s4,?_⟩;rw[afF aj7,acc];show (true&&(decide (0≤z)&&decide (z≤n.top t)))=true;rw[decide_eq_true hpos,decide_eq_true htop];rfl
   ·obtain⟨⟨x5,x6,rfl⟩,sm,acc⟩:=hp;have el:((nmL p ns).zip ns).take ((nmL p ns).map Nm.v).length=(nmL p ns).zip ns:=List.take_of_length_le (by rw[List.length_zip,List.length_map];exact Nat.min_le_left _ _);rw[el] at acc;rw[acc] at k;exact k _ (s03.trans sm)
end
end My
end
section
namespace My
open PySem PySem.Spec PyProof.Rows L2
open Vbsoaa (Man Order Table orderNums bit linked place within isProv areProvs)
section
variable{P:Program}{w:World}{K:PySem.W.Frag}{mg:Str→Option Value}{base:Heap}{a:Adr}
theorem Fra.aj8{ta:Addr}{d:Pt}{H H':Hp}(s:aF H H'):Fra ta d d H H':=⟨fun b o e _=>s b o e,fun _ h=>.inl h,fun _ h=>s.free h⟩
theorem Aft.same{H H1:Hp}{ta:Addr}{d:Pt}{t:Table}{c:List Int}{Q:VK}(k:Aft P w K a H ta d t c Q)(s:aF H H1):Aft P w K a H1 ta d t c Q:=fun H' d' r hT hr hn nf fra=>
 k H' d' r hT hr (s.free hn) nf ⟨fun b o e hb=>fra.keep b o (s b o e) hb,fun b hb=>(fra.new b hb).elim .inl fun z=>.inr (s.free z),fun b hb=>s.free (fra.more b hb)⟩
def ac2(P:Program)(w:World)(K:PySem.W.Frag)(a:Adr):Sp:=fun vs H Q _=>∃(ta l:Addr)(d:Pt)(t:Table)(p:Int)(ns:List Int),vs=[.ref ta,.int p,.ref l]∧
 TableAt P w K a.aU a.a9 H ta d t∧Wf t∧Wg t∧H l=some (.lst (ns.map V.int))∧l∉foot ta d∧VbsoaaNeutral.asked1 [p::ns]=true∧Aft P w K a H ta d t (p::ns) Q
theorem ac3(T:Txt w K mg a):aY P w K mg base CX0 18 a.kJ a.JU ["table","place","numbers"] (ac2 P w K a):=by
 refine T.Ke.ok abQ (fun vs H Q E h=>?_) (fun cdv A outer s H vs Q E hr h=>?_)
 ·obtain⟨ta,l,d,t,p,ns,rfl,_⟩:=h;rfl
 ·obtain⟨ta,l,d,t,p,ns,rfl,hT,W,G,hl,nl,cF,k⟩:=h;obtain⟨h0,h21,_,_⟩:=adK cF;refine⟨_,(af (bJ (uE (bY (aH (X2 T) (hr.mono (by decide)) rfl T.J0 T.z5.kp T.J1 .nil aC (aa (pv 0) (aa (pv 1) (aa (pv 2) ah)))))) (aj (au (bf (aa (nL jb aq) ah)))) aP)
   (af (bJ (bh ahb (pv 1) (aX rfl T.yC T.yD) (a0 _)) (aj (au (aH (aj3 T) (hr.mono (by decide)) rfl T.ahp T.aex.kp T.ahq .nil aC (aa (pv 0) (aa (pv 1) (aa (pv 2) ah)))))) aP)
   (af (bJ (bh ahb (pv 1) (aX rfl T.wb T.wc) (a0 _)) (aj (au (aH (Ui T) (hr.mono (by decide)) rfl T.FK T.vO.kp T.FN .nil aC (aa (pv 0) (aa (pv 1) (aa (pv 2) ah)))))) aP)
   (aj (au (aH (aj1 T) (hr.mono (by decide)) rfl T.ahr T.aey.kp T.ahs .nil aC (aa (pv 0) (aa (pv 1) (aa (pv 2) ah))))))))),?_⟩
  refine⟨_,rfl,_,rfl,_,rfl,ta,l,d,t,p,ns,rfl,hT,hl,cF,fun H1 s1=>⟨_,rfl,?_⟩⟩;have k1:=k.same s1;have hT1:=hT.sameAll s1;cases e:rng t (p::ns) with
  |false=>
   refine bq ⟨_,rfl,lF,fun r hr=>?_⟩;exact k1.fin (t1:=t) (ans:=[-1]) (aj5 cF e) hT1 .refl hr rfl
  |true=>
   refine aS ⟨_,rfl,_,_,rfl,rfl,_,rfl,DN (fun h=>?_) (fun h=>?_)⟩
   ·exact⟨_,rfl,_,rfl,_,rfl,ta,l,d,t,p,ns,rfl,h0,of_decide_eq_true h,hT1,W,s1 _ _ hl,nl,cF,e,k1⟩
   ·have h5:5<p:=by
     by_cases c:5<p
     ·exact c
     ·exact absurd (decide_eq_true (by omega)) h
    refine⟨_,rfl,_,_,rfl,rfl,_,rfl,DN (fun h=>?_) (fun h=>?_)⟩
    ·exact⟨_,rfl,_,rfl,_,rfl,ta,l,d,t,p,ns,rfl,by omega,of_decide_eq_true h,hT1,W,s1 _ _ hl,nl,cF,e,k1⟩
    ·have h11:11<p:=by
      by_cases c:11<p
      ·exact c
      ·exact absurd (decide_eq_true (by omega)) h
     refine⟨_,rfl,_,rfl,_,rfl,ta,l,d,t,p,ns,rfl,by omega,h21,hT1,W,G,s1 _ _ hl,cF,e,fun H2 r s2 hr hr2=>?_⟩;have hT2:=hT1.sameAll s2;exact k1 H2 d r (by rw[afE cF (by omega)];exact hT2) hr2 hr (hT1.ahD hr) (.aj8 s2)
end
end My
end
section
namespace My
open PySem PySem.Spec PyProof.Rows L2
open Vbsoaa (Man Order Table orderNums bit linked place)
section
variable{P:Program}{w:World}{K:PySem.W.Frag}{mg:Str→Option Value}{base:Heap}{a:Adr}
def MC(K:PySem.W.Frag):Sp:=fun vs H Q _=>∃(c:Addr)(ns:List Int),vs=[.ref c]∧SqL K H c (ns.map V.int)∧PyVbsoaa.answers_asked ns=true∧
 ∀(H':Hp)(r:Addr),H' r=some (.lst ((PyVbsoaa.answers ns).map V.int))→Q (.ref r) H'
theorem ag8(x y z:List V):MF (x++y++z) (some (x.length:Int)) (some ((x.length+y.length:Nat):Int))=y:=by
 unfold MF;rw[HT.Qs,HT.Qs];have h1:min x.length (x++y++z).length=x.length:=by simp
 have h2:min (x.length+y.length) (x++y++z).length=x.length+y.length:=by simp
 rw[h1,h2,List.append_assoc,List.drop_left,Nat.add_sub_cancel_left,List.take_left]
theorem afG{ns:List Int}(h:PyVbsoaa.answers_asked ns=true):∃cs,ns=PyWide.put cs∧(∀c∈cs,VbsoaaNeutral.asked1 c=true)∧PyVbsoaa.answers ns=PyFlat.told (PyFlat.played VbsoaaNeutral.step VbsoaaNeutral.start cs)∧(PyVbsoaa.answers ns).length≤10000000:=by
 unfold PyVbsoaa.answers_asked at h;cases e:PyVbsoaa.calls ns with
 |none=>rw[e] at h;cases h
 |some cs=>
  rw[e] at h;simp only[Bool.and_eq_true,VbsoaaNeutral.asked,List.all_eq_true,PyFlat.short,decide_eq_true_eq] at h;refine⟨cs,(PyWide.put_calls _ _ _ e).1,h.1.2.1,?_,h.2⟩;unfold PyVbsoaa.answers;rw[e]
theorem AL:∀(a b:List (List (List Int))),PyWide.put (a++b)=PyWide.put a++PyWide.put b
 |[],b=>rfl
 |c::r,b=>by
  show PyWide.put1 c++PyWide.put (r++b)=(PyWide.put1 c++PyWide.put r)++PyWide.put b;rw[AL r b,List.append_assoc]
def Lp(P:Program)(w:World)(K:PySem.W.Frag)(a:Adr)(c x q:Addr)(cs:List (List (List Int)))(H:Hp)(m:Nat)(σ:L2.St)(H':Hp):Prop:=
 ∃(done rest:List (List (List Int)))(d:Pt)(x4 x5 x6:Option V),m=rest.length∧cs=done++rest∧σ=[some (.ref c),some (.ref x),some (.ref q),some (.int ((PyWide.put done).length:Int)),x4,x5,x6]∧
  aF H H'∧TableAt P w K a.aU a.a9 H' x d (run Vbsoaa.start done)∧(∀b∈foot x d,H b=Option.none)∧H' q=some (.lst ((PyFlat.told (PyFlat.played VbsoaaNeutral.step VbsoaaNeutral.start done)).map V.int))∧H q=Option.none∧q∉foot x d∧Wf (run Vbsoaa.start done)∧Wg (run Vbsoaa.start done)
theorem afH(p:Int)(ns:List Int):(PyWide.put1 [p::ns]).length=ns.length+3:=by
 rw[Pj];simp[Z7]
theorem afI{x z:List Int}{v:Int}:atI ((x++v::z).map V.int) (x.length:Int)=some (.int v):=nM (by simp)
theorem afJ{cs done rest:List (List (List Int))}(e:cs=done++rest)(h:(PyFlat.told (PyFlat.played VbsoaaNeutral.step VbsoaaNeutral.start cs)).length≤10000000):(PyFlat.told (PyFlat.played VbsoaaNeutral.step VbsoaaNeutral.start done)).length≤10000000:=by
 have go:∀(a b:List (List (List Int)))(t:Table),(PyFlat.told (PyFlat.played VbsoaaNeutral.step t a)).length≤(PyFlat.told (PyFlat.played VbsoaaNeutral.step t (a++b))).length:=by
  intro a
  induction a with
  |nil=>intro b t;exact Nat.zero_le _
  |cons c r ih=>
   intro b t;have:=ih b (VbsoaaNeutral.step t c).1;show (PyFlat.told ([_]++_)).length≤(PyFlat.told ([_]++_)).length;rw[Fs,Fs,List.length_append,List.length_append];exact Nat.add_le_add_left this _
 rw[e] at h;exact Nat.le_trans (go _ _ _) h
theorem ZM(T:Txt w K mg a):aY P w K mg base CX0 19 a.dI a.pQ ["calls"] (MC K):=by
 refine T.D8.ok f6 (fun vs H Q E h=>?_) (fun cdv A outer s H vs Q E hr h=>?_)
 ·obtain⟨c,ns,rfl,_⟩:=h;rfl
 ·obtain⟨c,ns,rfl,hS,cF,k⟩:=h;obtain⟨cs,ens,hcs,amu,hsz⟩:=afG cF;have hu:=bE hr;refine⟨_,(af (aG (i:=1) f6.nd rfl (Or.inl rfl) (ado T.Bw (OU T) (hr.mono (by decide)) rfl T.aan T.Bi .nil aC))
   (af (aG (i:=2) f6.nd rfl (Or.inl rfl) (bf ah))
   (af (aG (i:=3) f6.nd rfl (Or.inl rfl) aq)
   (af (AN PassesOwn.never (bh adj (pv 3) (aV qU rfl T.fJ c8 (aa (pv 0) ah)) (a0 _)) (af (aG (i:=4) f6.nd rfl (Or.inl rfl) (fQ qT (pv 3) aq))
   (af (aG (i:=5) f6.nd rfl (Or.inl rfl) (fQ qT (pv 4) (bK Qt (pv 0) (fQ qT (pv 3) aq) (fun _ _=>rfl))))
   (af (aG (i:=6) f6.nd rfl (Or.inl rfl) (aH (ac3 T) (hr.mono (by decide)) rfl T.Vj T.Ke.kp T.Vk .nil aC (aa (pv 1) (aa (bK Qt (pv 0) (pv 3) (fun _ _=>rfl)) (aa (Jk Qv (pv 0) (IT (pv 4)) (IT (pv 5))) ah)))))
   (af (fo (uM PySem.F.plainAttrs_list PySem.F.slot_list_append PySem.F.type_list_append jR (pv 2) (aa (aV cE rfl T.fJ c8 (aa (pv 6) ah)) ah)))
   (af (fo (uM PySem.F.plainAttrs_list PySem.F.slot_list_extend PySem.F.type_list_extend xm (pv 2) (aa (pv 6) ah)))
   (aj (aG (i:=3) f6.nd rfl (Or.inl rfl) (fQ qT (pv 5) aq)))))))))
   (aj (au (pv 2))))))),?_⟩
  intro x dx nx ndx nex;refine⟨x,dx,rfl,ae,fun H1 d hT hk hn=>⟨rfl,?_⟩⟩;have s1:aF H H1:=aF.made nx ndx hk;have f1:∀b∈foot x d,H b=Option.none:=fun b hb=>by
   rcases hn b hb with q|q
   ·rw[q];exact nx
   ·by_cases e:b=x
    ·rw[e];exact nx
    ·rw[ab e] at q;by_cases e2:b=dx
     ·rw[e2];exact ndx
     ·rw[ab e2] at q;exact q
  refine⟨Nat.zero_le _,fun q hq=>?_⟩;have s2:aF H (upd H1 q (.lst [])):=fun b o e=>by rw[ab (ai (s1 _ _ e) hq)];exact s1 _ _ e
  have nq:q∉foot x d:=fun hm=>by
   obtain⟨z,hz⟩:∃o,H1 q=some o:=hT.there hm;rw[hz] at hq;cases hq
  refine⟨Lp P w K a c x q cs H,⟨cs.length,[],cs,d,_,_,_,rfl,rfl,rfl,s2,hT.upd hq,f1,ae,s1.free hq,nq,UK,UM⟩,?_⟩;rintro m σ H2 ⟨done,rest,d2,x4,x5,x6,rfl,ecs,rfl,s3,hT2,f2,hq2,hq0,nq2,W,G⟩;refine⟨_,rfl,_,rfl,c,_,rfl,.inl (s3.seq hS),_,_,rfl,rfl,_,rfl,?_⟩;have hne:ns=PyWide.put done++PyWide.put rest:=by rw[ens,ecs,AL]
  match rest,ecs,hne with
  |[],ecs,hne=>
   refine DN (fun hlt=>?_) (fun hge=>?_)
   ·exfalso;have h1:=of_decide_eq_true hlt;rw[List.length_map,hne] at h1;simp[PyWide.put] at h1
   ·refine⟨_,rfl,k H2 q ?_⟩;rw[List.append_nil] at ecs;rw[hq2,amu,ecs]
  |c0::rest',ecs,hne=>
   obtain⟨p,nums,rfl,hl⟩:=QG (hcs c0 (by rw[ecs];simp));have amv:=hcs [p::nums] (by rw[ecs];simp);have e1:PyWide.put ([p::nums]::rest')=p::((nums.length:Int)::(nums++(0::PyWide.put rest'))):=by
    show PyWide.put1 [p::nums]++PyWide.put rest'=_;rw[Pj];simp[Z7]
   rw[e1] at hne;refine DN (fun hlt=>?_) (fun hge=>?_)
   ·refine⟨fun σ' H'=>∃m',m'<([p::nums]::rest').length∧Lp P w K a c x q cs H m' σ' H',fun _ _ h=>h,?_⟩;have g1:atI (ns.map V.int) (((PyWide.put done).length:Int)+1)=some (.int nums.length):=by
     have e:((PyWide.put done).length:Int)+1=((PyWide.put done++[p]).length:Int):=by simp
     rw[e,hne];have e2:PyWide.put done++p::((nums.length:Int)::(nums++(0::PyWide.put rest')))=(PyWide.put done++[p])++(nums.length:Int)::(nums++(0::PyWide.put rest')):=by simp
     rw[e2];exact afI
    have g0:atI (ns.map V.int) ((PyWide.put done).length:Int)=some (.int p):=by rw[hne];exact afI
    refine⟨_,rfl,_,_,rfl,rfl,?_⟩;refine⟨_,rfl,_,rfl,_,rfl,_,_,rfl,rfl,_,_,_,_,rfl,rfl,s3.seq hS,g1,_,_,rfl,rfl,?_⟩;refine⟨_,rfl,_,rfl,_,rfl,_,_,_,_,rfl,rfl,s3.seq hS,g0,_,rfl,_,rfl,_,rfl,_,rfl,_,rfl,c,_,rfl,s3.seq hS,fun l hl0=>?_⟩;have aoJ:MF (ns.map V.int) (some (((PyWide.put done).length:Int)+2)) (some (((PyWide.put done).length:Int)+2+(nums.length:Int)))=nums.map V.int:=by
     have e2:ns.map V.int=((PyWide.put done++[p,(nums.length:Int)]).map V.int)++nums.map V.int++((0::PyWide.put rest').map V.int):=by rw[hne];simp
     have e3:((PyWide.put done).length:Int)+2=((((PyWide.put done++[p,(nums.length:Int)]).map V.int).length:Nat):Int):=by simp
     have e4:((PyWide.put done).length:Int)+2+(nums.length:Int)=(((((PyWide.put done++[p,(nums.length:Int)]).map V.int).length+(nums.map V.int).length:Nat)):Int):=by simp
     rw[e4,e3,e2];exact ag8 _ _ _
    have s4:aF H2 (upd H2 l (.lst (MF (ns.map V.int) (some (((PyWide.put done).length:Int)+2)) (some (((PyWide.put done).length:Int)+2+(nums.length:Int)))))):=aw hl0;have nl:l∉foot x d2:=fun hm=>by
     obtain⟨z,hz⟩:=hT2.there hm;rw[hz] at hl0;cases hl0
    refine⟨x,l,d2,_,p,nums,rfl,hT2.sameAll s4,W,G,by rw[←aoJ];exact ae,nl,amv,fun H3 d3 r hT3 hr3 nr nrf fra=>?_⟩;have hq3:=fra.keep q _ (s4 _ _ hq2) nq2;have nrq:r≠q:=fun e=>by rw[e,s4 _ _ hq2] at nr;cases nr
    have nq3:q∉foot x d3:=fun hm=>by
     rcases fra.new q hm with h|h
     ·exact nq2 h
     ·rw[s4 _ _ hq2] at h;cases h
    have hbig:(PyFlat.told (PyFlat.played VbsoaaNeutral.step VbsoaaNeutral.start (done++[[p::nums]]))).length≤10000000:=afJ (cs:=cs) (rest:=rest') (by rw[ecs];simp) (by rw[←amu];exact hsz);rw[uW,Pk] at hbig;rw[List.length_append,List.length_cons] at hbig;have aoK:(PyFlat.told (PyFlat.played VbsoaaNeutral.step VbsoaaNeutral.start done)).length+((step1 (run Vbsoaa.start done) [p::nums]).2.length+1)≤10000000:=hbig;have big:(10000000:Nat)<sizeLine:=by decide
    refine⟨_,rfl,.inl ⟨rfl,_,SqL.of hq3⟩,_,rfl,r,_,rfl,hr3,q,_,_,rfl,rfl,hq3,(by rw[List.length_map];exact Nat.lt_of_le_of_lt (by omega) big),?_⟩;refine⟨_,rfl,.inl ⟨rfl,_,SqL.of ae⟩,_,rfl,q,r,_,_,rfl,rfl,ae,(by rw[ab nrq];exact hr3),(by simp only[List.length_append,List.length_map,List.length_cons,List.length_nil];exact Nat.le_of_lt (Nat.lt_of_le_of_lt (by omega) big)),?_⟩;refine⟨_,rfl,_,_,rfl,rfl,?_⟩;refine⟨rest'.length,Nat.lt_succ_self _,done++[[p::nums]],rest',d3,some (.int (((PyWide.put done).length:Int)+2)),some (.int (((PyWide.put done).length:Int)+2+(nums.length:Int))),some (.ref r),rfl,by rw[ecs];simp,?_,?_,?_,?_,?_,hq0,nq3,?_,?_⟩
    ·have e5:((PyWide.put (done++[[p::nums]])).length:Int)=((PyWide.put done).length:Int)+2+(nums.length:Int)+1:=by
      rw[AL];show (((PyWide.put done)++(PyWide.put1 [p::nums]++[])).length:Int)=_;rw[List.append_nil,List.length_append,afH];omega
     rw[e5];rfl
    ·intro b o e;have hb2:=s3 _ _ e;have nbq:b≠q:=fun z=>by rw[z,hq0] at e;cases e
     have nbf:b∉foot x d2:=fun z=>by rw[f2 b z] at e;cases e
     rw[ab nbq,ab nbq];exact fra.keep b o (s4 _ _ hb2) nbf
    ·rw[AX];refine hT3.same (fun b hb o e=>?_) (fun b xs e=>?_) (fun b o u e=>?_)
     ·have nbq:b≠q:=fun z=>nq3 (by rw[←z];exact hb);rw[ab nbq,ab nbq];exact e
     ·have nbq:b≠q:=aK e hq3 (fun z=>nomatch z);rw[ab nbq,ab nbq];exact e
     ·have nbq:b≠q:=aK e hq3 (fun z=>nomatch z);rw[ab nbq,ab nbq];exact e
    ·intro b hb;rcases fra.new b hb with h|h
     ·exact f2 b h
     ·exact s3.free (s4.free h)
    ·rw[ae,uW,Pk];have e6:∀(z:List Int),(z.map V.int).length=z.length:=fun z=>List.length_map _;rw[e6,List.map_append,List.map_cons,List.append_assoc];rfl
    ·rw[AX];exact af6 _ _ W
    ·rw[AX];exact af7 _ _ W G
   ·exfalso;apply hge;rw[List.length_map,hne];apply decide_eq_true;simp;omega
end
end My
end
namespace PySem.W.Fast
def tw4498934607778127226:=0
def tw16800790149693374302:=0
def tw3266542151938298983:=0
def tw5119645206448189323:=0
def tw13373405299718532771:=0
def tw436927886504049754:=0
def tw110701301506847548:=0
def tw1632880975310955352:=0
def tw17820010843630912737:=0
def tw2091958310932048291:=0
def tw7307982408509764827:=0
def tw3425675615313459165:=0
def tw18172187898358403448:=0
def tw7426326475478686201:=0
def tw4786017256335382661:=0
def tw3683456522320401393:=0
def tw16465507870999188937:=0
def tw14256728008980511567:=0
def tw14760943606549647673:=0
def tw6722921064632466943:=0
def tw11641392856879119764:=0
def tw7090787978170409444:=0
def tw8864857841896699493:=0
def tw16702172840053389754:=0
def tw920573557547756508:=0
def tw15970988729943134768:=0
def tw13022070173300110889:=0
def tw17686372819630882673:=0
def tw5725149669801809276:=0
def tw12787884753788064408:=0
def tw4844979954745742696:=0
def tw2580604955294621401:=0
def tw7944273057317083486:=0
def tw17356650440342005499:=0
def tw8383443168909994859:=0
def tw3814298468724354443:=0
def tw6482870454152001423:=0
def tw16580347524719795549:=0
def tw13141651796190653882:=0
def tw13753878405715606816:=0
def tw6746638187860267110:=0
def tw8695373311909208021:=0
def tw16942907319136320039:=0
def tw8362378721997558983:=0
def tw1783498935806274915:=0
def tw6735726658497696126:=0
def tw11530166555593514296:=0
def tw1559232282010290167:=0
def tw9294255881367223228:=0
def tw14859783744060867362:=0
def tw8131505626872023781:=0
def tw6007960590729244693:=0
def tw12788779455053818381:=0
def tw405715057042214939:=0
def tw2355816010146092741:=0
def tw16590803731872900087:=0
def tw17792437727137327347:=0
def tw15869888809184518909:=0
def tw16039903507710648188:=0
def tw10208463999277741090:=0
def tw6862668847538622643:=0
def tw11676954901207573548:=0
def tw18322641598540901452:=0
def tw4545750121671595542:=0
def tw16059386857710317332:=0
def tw916547066255564071:=0
def tw5010763098093738319:=0
def tw9591311597315019005:=0
def tw6679743588627560410:=0
def tw5567657101861178115:=0
def tw16556815119614923910:=0
def tw14634553131610341775:=0
def tw12834744174094541992:=0
def tw16430944917694377729:=0
def tw1419343193188704333:=0
def tw6216364823734918217:=0
def tw12005033044731124514:=0
def tw12320216686653845837:=0
def tw17166984711117125453:=0
def tw13855161523695569722:=0
def tw17964039748353156528:=0
def tw2634598153874668885:=0
def tw9935649413721351678:=0
def tw17045735907768389986:=0
def tw7045563301866497708:=0
def tw10702798726246586770:=0
def tw249412275392755595:=0
def tw6593414807759738249:=0
def tw3532106057846192137:=0
def tw16511053595561933850:=0
def tw2198497209774898042:=0
def tw14720403493955315357:=0
def tw17067970884462695650:=0
def tw17895283687716505969:=0
def tw8192447000952837014:=0
def tw9388003407355992345:=0
def tw2712939903723719384:=0
def tw3444177293900421149:=0
def tw9066807872559011111:=0
def tw3334091130627703063:=0
def tw12701727844821390503:=0
def tw1899613546016101947:=0
def tw16597158707473033205:=0
def tw84385796702381260:=0
def tw13388410751710020750:=0
def tw1497626488100846809:=0
def tw658184054450091385:=0
def tw17161203938068941827:=0
def tw16466751751496519596:=0
def tw10501791154022392512:=0
def tw6608960575281475011:=0
def tw2721922710016609026:=0
def tw18052388086633546588:=0
def tw10611341895159029265:=0
def tw7660777595858593696:=0
def tw17237823179044145072:=0
def tw8504280734707134602:=0
def tw8472147872912017234:=0
def tw6925058474724503751:=0
def tw12061983283740784724:=0
def tw11902873098968569953:=0
def tw2364395454979354915:=0
def tw6381127888630698754:=0
def tw3181016591757707017:=0
def tw2166840691537534962:=0
def tw18051940897583585475:=0
def tw6902114546543937696:=0
def tw5896636256190802844:=0
def tw6876350622739652126:=0
def tw17379571925721270703:=0
def tw9770046918619946453:=0
def tw13201019663045529878:=0
def tw7798094413503925861:=0
def tw14108000169585241773:=0
def tw6436186098956255481:=0
def tw3522479696215441514:=0
def tw9044920749460147429:=0
def tw448935622127674193:=0
def tw15942226875791398739:=0
def tw4640452605508094691:=0
def tw15122241887837125146:=0
def tw17884045204556284374:=0
def tw7545340686310008838:=0
def tw6879747077722452017:=0
def tw7777167060432173219:=0
def tw4929544230598261418:=0
def tw14800146379423789675:=0
def tw17646778401720554040:=0
def tw6667950852648125163:=0
def tw14681826987967286792:=0
def tw3807687609760369968:=0
def tw5610413166623408936:=0
def tw16653278164662959022:=0
def tw2155990987572720457:=0
def tw12329550366679813066:=0
def tw9281040333671843084:=0
def tw11429673384548139991:=0
def tw526825364607896031:=0
def tw9993882776362056035:=0
def tw10751326157145658647:=0
def tw12716074509337992254:=0
def tw3496334658634254486:=0
def tw4333387814201890699:=0
def tw13276860152899934760:=0
def tw16665356728023115877:=0
def tw13118572199324515739:=0
def tw2724692598571936131:=0
def tw18432904578561792424:=0
def tw7758292414752681341:=0
def tw10290781919724549110:=0
def tw16765328968446847905:=0
def tw12357882744381491521:=0
def tw4802967990165716998:=0
def tw7049975839766520712:=0
def tw12169525295202951203:=0
def tw1938549914764697662:=0
def tw17234147966381043886:=0
def tw3218482689477681461:=0
def tw18350423990282960758:=0
def tw9203780211356148208:=0
def tw7691820842463298094:=0
def tw4228084895559568766:=0
def tw13235175613439256926:=0
def tw3623654485082792510:=0
def tw3546026687065241362:=0
def tw13700502553511263999:=0
def tw9570820147004227509:=0
def tw5521676591256569709:=0
def tw5321286704846782793:=0
def tw6899349754797651253:=0
def tw17430794276259433810:=0
def tw7748336315087070385:=0
def tw8711894521076758805:=0
def tw7826898242192325137:=0
def tw14224544515381639546:=0
def tw10237626853081066986:=0
def tw4421664491019148751:=0
def tw10684657366368633535:=0
def tw17747579293518075898:=0
def tw11859906966778434871:=0
def tw1189175843190647053:=0
def tw7856254509030884605:=0
def tw7801128889088930011:=0
def tw862804642319879242:=0
def tw7151651483526433660:=0
def tw13390362081842530919:=0
def tw8107864571456724107:=0
def tw5904077548842725435:=0
def tw2180094177360033737:=0
def tw283342375205537939:=0
def tw11460702996870312515:=0
def tw15168058825880251360:=0
def tw12127927196134530688:=0
end PySem.W.Fast
open PySem PySem.W PyProof.Rows
set_option maxRecDepth 100000 in
set_option maxHeartbeats 0 in
theorem PySem.Challenge.cw_ordersatonce_s01_answers_holds : PySem.Challenge.rw_ordersatonce_s01_answers.Holds := by
  w_on; k_headS; (case hw => exact ⟨[.list [.int 0, .int 0, .int 0]], by decide +kernel, by decide +kernel⟩)
  k_fillS
  refine L2.Yl (r := PySem.Challenge.rw_ordersatonce_s01_answers) (k := 19) (CX := L2.CX0) (ps := ["calls"]) (sp := My.MC) (by decide +kernel) rfl rfl ⟨rfl, by decide, by decide⟩ (fun w h Y => PySem.W.kIn_of Y) ?F ?S (fun _ _ _ _ z => z)
  case F =>
    intro w mg fa h Y KX G hmg
    refine' My.fin (My.aiJ KX G hmg ..) ?_
    all_goals try first | k_is | exact rfl
    exact fun a base T => My.ZM T
  case S =>
    intro K H xs a hO hwi cF hx
    cases hx with
    | cons h1 h2 =>
      cases h2
      cases h1 with
      | lst hs ha =>
        have e := L2.Z4 a.1 _ ha
        subst e
        exact ⟨_, a.1, rfl, hs, cF, fun H' p hp => .lst (L2.SqL.of hp) (L2.Z3 _)⟩
