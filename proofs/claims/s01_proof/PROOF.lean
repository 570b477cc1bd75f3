import PyProof.Rows.All
import Wide.All
import OpenK.AllK
import Wide.FinOn
import PyProof.EqAt
import PyProof.EqKinds
import PyProof.TupleCall
import KE.BitLaws
import Open.SpecLaws
import KE.OsHead
import KE.OsGo
import KE.KDictSum
import PySem.Challenge.RW_keytalk_s01_answers
set_option Elab.async false
set_option linter.all false
set_option maxRecDepth 100000
set_option compiler.extract_closed false
noncomputable section
section
namespace L2
open PySem PySem.Spec PyProof.Rows
noncomputable abbrev Key :=Sum Int Str
noncomputable def EY :Key→Value→Bool
 | .inl k,v=>Value.isInt k v
 | .inr x,v=>Value.isStrOf x v
noncomputable def Vn (w:World):Key→Int
 | .inl k=>hashInt k
 | .inr x=>hashStr w x
theorem eF :∀{k:Key} {v:Value},EY k v=true→(∃i t,k=Sum.inl i∧v=Value.int i t)∨(∃x t,k=Sum.inr x∧v=Value.str x t)
 | .inl i,v,h=>by
  obtain⟨t,e⟩:=Value.isInt_shape (k:=i) (v:=v) h
  exact .inl ⟨i,t,rfl,e⟩
 | .inr x,v,h=>by
  obtain⟨t,e⟩:=Value.isStrOf_shape (x:=x) (v:=v) h
  exact .inr ⟨x,t,rfl,e⟩
theorem NW (i:Int) (t:Tok):EY (.inl i) (.int i t)=true:=by simp[EY,Value.isInt]
theorem NV (x:Str) (t:Tok):EY (.inr x) (.str x t)=true:=by simp[EY,Value.isStrOf]
theorem S9 (a b:Int):decide ((Sum.inl a:Key)=Sum.inl b)=(a==b):=by
 by_cases e:a=b
 ·subst e;simp
 ·have h:¬(Sum.inl a:Key)=Sum.inl b:=fun q=>e (Sum.inl.inj q)
  rw[decide_eq_false h]
  exact (beq_eq_false_iff_ne.mpr e).symm
theorem S6 (a b:Str):decide ((Sum.inr a:Key)=Sum.inr b)=decide (a=b):=by
 by_cases e:a=b
 ·subst e;simp
 ·have h:¬(Sum.inr a:Key)=Sum.inr b:=fun q=>e (Sum.inr.inj q)
  rw[decide_eq_false h,decide_eq_false e]
theorem S8 (a:Int) (b:Str):decide ((Sum.inl a:Key)=Sum.inr b)=false:=decide_eq_false (fun q=>nomatch q)
theorem S7 (a:Str) (b:Int):decide ((Sum.inr a:Key)=Sum.inl b)=false:=decide_eq_false (fun q=>nomatch q)
noncomputable def fZ (prog:Program) (w:World):PySem.KeyKind prog w Key where
 is:=EY
 hash:=Vn w
 inj:=fun v a b ha hb=>by
  rcases eF ha with ⟨i,t,rfl,rfl⟩ | ⟨x,t,rfl,rfl⟩
  ·rcases eF hb with ⟨j,u,rfl,e⟩ | ⟨y,u,rfl,e⟩
   ·injection e with e1 _;rw[e1]
   ·exact nomatch e
  ·rcases eF hb with ⟨j,u,rfl,e⟩ | ⟨y,u,rfl,e⟩
   ·exact nomatch e
   ·injection e with e1 _;rw[e1]
 byValue:=fun k v h=>by
  rcases eF h with ⟨i,t,rfl,rfl⟩ | ⟨x,t,rfl,rfl⟩<;>rfl
 pyHash:=fun hv h=>by
  rcases eF hv with ⟨i,t,rfl,rfl⟩ | ⟨x,t,rfl,rfl⟩
  ·exact wpAny_pyHash_int h
  ·exact wpAny_pyHash_str h
 eqBool:=fun hu hv h=>by
  rcases eF hu with ⟨i,t,rfl,rfl⟩ | ⟨x,t,rfl,rfl⟩
  ·rcases eF hv with ⟨j,u,rfl,rfl⟩ | ⟨y,u,rfl,rfl⟩
   ·rw[S9] at h;exact wpAny_eqBool_int h
   ·rw[S8] at h;exact SeqAt.EqAt.int_str i t y u _ _ _ _ h
  ·rcases eF hv with ⟨j,u,rfl,rfl⟩ | ⟨y,u,rfl,rfl⟩
   ·rw[S7] at h;exact SeqAt.EqAt.str_int x t j u _ _ _ _ h
   ·rw[S6] at h;exact wpAny_eqBool_str h
 «strs»:=fun k x t v h=>by
  rcases eF h with ⟨i,u,rfl,e⟩ | ⟨y,u,rfl,e⟩
  ·exact nomatch e
  ·injection e with e1 _
   subst e1
   cases v<;>rfl
theorem JZ (prog:Program) (w:World) (i:Int) (t:Tok):(fZ prog w).is (.inl i) (.int i t)=true:=NW i t
theorem JY (prog:Program) (w:World) (x:Str) (t:Tok):(fZ prog w).is (.inr x) (.str x t)=true:=NV x t
end L2
namespace L2
open PySem PySem.Spec PyProof.Rows
inductive V where
 | dh | bl (b:Bool) | int (i:Int) | str (x:Str) | IU (b:Array UInt8) | Uy (b:UInt64) | ref (a:Addr) | ty (n:String)
 deriving DecidableEq
noncomputable def RelV :V→Value→Prop
 | .dh,u=>u=Value.none
 | .bl b,u=>u=Value.bool b
 | .int i,u=>∃t,u=Value.int i t
 | .str x,u=>∃t,u=Value.str x t
 | .IU b,u=>∃t,u=Value.bytes b t
 | .Uy b,u=>∃t,u=Value.float b t
 | .ref a,u=>u=Value.ref a
 | .ty n,u=>u=Value.type n
noncomputable abbrev Vals :List V→List Value→Prop:=Paired RelV
theorem Vals.length {xs:List V} {us:List Value} (r:Vals xs us):xs.length=us.length:=Paired.length r
theorem Vals.get :∀{xs:List V} {us:List Value} {i:Nat} {x:V},Vals xs us→xs[i]?=some x→∃u,us[i]?=some u∧RelV x u
 | _,_,_,_,.nil,e=>by simp at e
 | _,_,0,_,.cons r _,e=>by simp at e;subst e;exact⟨_,rfl,r⟩
 | _,_,i+1,x,.cons _ t,e=>by
  obtain⟨u,h1,h2⟩:=Vals.get (i:=i) (x:=x) t (by simpa using e)
  exact⟨u,by simpa using h1,h2⟩
theorem Vals.set {x:V} {u:Value} (r:RelV x u):∀{xs:List V} {us:List Value} (i:Nat),Vals xs us→Vals (xs.set i x) (us.set i u)
 | _,_,_,.nil=>.nil
 | _,_,0,.cons _ t=>.cons r t
 | _,_,i+1,.cons q t=>.cons q (Vals.set r i t)
theorem Vals.append :∀{xs ys:List V} {us ws:List Value},Vals xs us→Vals ys ws→Vals (xs++ys) (us++ws)
 | _,_,_,_,.nil,s=>s
 | _,_,_,_,.cons r t,s=>.cons r (Vals.append t s)
theorem Vals.take :∀{xs:List V} {us:List Value} (n:Nat),Vals xs us→Vals (xs.take n) (us.take n)
 | _,_,0,_=>.nil
 | _,_,_+1,.nil=>.nil
 | _,_,n+1,.cons r t=>.cons r (Vals.take n t)
theorem Vals.drop :∀{xs:List V} {us:List Value} (n:Nat),Vals xs us→Vals (xs.drop n) (us.drop n)
 | _,_,0,r=>r
 | _,_,_+1,.nil=>.nil
 | _,_,n+1,.cons _ t=>Vals.drop n t
noncomputable def ve :Option V→Option Value→Prop
 | some v,some u=>RelV v u
 | none,none=>True
 | _,_=>False
noncomputable def KV {κ:Type}:List (κ×V)→List (κ×Value)→Prop:=Paired fun (p:κ×V) (q:κ×Value)=>p.1=q.1∧RelV p.2 q.2
noncomputable def kV :Key→V
 | .inl i=>.int i
 | .inr x=>.str x
inductive HO where
 | lst (xs:List V)
 | tup (xs:List V)
 | dK (kvs:List (Key×V)) | dT (kvs:List (List Key×V))
 | set (S:Int→Bool) (n:Nat)
 | ins (C dx:Addr) (fs:List (Str×V))
 | own (x:Addr)
 | xd (fs:List (Str×V))
 | met (f x:Addr)
 | U8 (lo hi:Int)
 | IG (o:Obj) (u:HO)
 | Sw (ps:Array Value)
 | ext (φ:Heap→Prop)
noncomputable abbrev Hp :=Addr→Option HO
noncomputable def upd (H:Hp) (a:Addr) (o:HO):Hp:=fun b=>if b=a then some o else H b
theorem ae {H:Hp} {a:Addr} {o:HO}:upd H a o a=some o:=by unfold upd;rw[if_pos rfl]
theorem af {H:Hp} {a b:Addr} {o:HO} (h:b≠a):upd H a o b=H b:=by unfold upd;rw[if_neg h]
theorem oM {H:Hp} {a b:Addr} {o u:HO} (h:H a=some o) (h':H b=some u) (d:o≠u):a≠b:=by
 intro e;subst e;rw[h] at h';exact d (Option.some.inj h')
theorem ao {H:Hp} {a b:Addr} {o:HO} (h:H a=some o) (h':H b=none):a≠b:=by
 intro e;subst e;rw[h] at h';cases h'
section
variable (P:Program) (w:World)
noncomputable def ia (H:Hp) (h:Heap) (a:Addr):HO→Prop
 | .lst xs=>xs.length≤sizeLine∧∃(its:List Value) (n:Nat),Vals xs its∧h.get? a=some { cls:=.type "list",data:=.seq its.toArray n }
 | .tup xs=>xs.length≤sizeLine∧∃its:List Value,Vals xs its∧IsTup h a its.toArray
 | .dK kvs=>kvs.length≤sizeLine∧(a==sysModules)=false∧∃vs,KV kvs vs∧h.DictOf (fZ P w) a vs
 | .dT kvs=>kvs.length≤sizeLine∧(a==sysModules)=false∧∃xs:List (List Key×Addr×Value),
   Paired (fun (p:List Key×V) (q:List Key×Addr×Value)=>p.1=q.1∧H q.2.1=some (.tup (p.1.map kV))∧RelV p.2 q.2.2) kvs xs ∧
   ∃o es ep,h.get? a=some o∧o.ExactDict∧o.data=.dict es ep∧es.toList=xs.map (entryOfKey (tupleKind (fZ P w)))∧(xs.map (·.1)).Nodup
 | .set S n=>h.SetOf (intKind P w) a S n
 | .ins C dx fs=>H dx=some (.own a)∧fs.length≤1000∧dx≠a∧h.get? a=some (PySem.W.instObj C dx) ∧
   ∃mA,h.Ns1 dx mA∧(∀f,ve (fs.lookup f) (mA f))∧PySem.Within mA (fs.map (·.1))
 | .own _=>∃o,h.get? a=some o
 | .xd fs=>∃mA,h.Ns1 a mA∧∀f,ve (fs.lookup f) (mA f)
 | .U8 lo hi=>∃t u v,h.get? a=some { cls:=.type "range",data:=.fields #[.int lo t,.int hi u,.int 1 v] }
 | .IG o u=>h.get? a=some o∧ia H h a u
 | .Sw ps=>h.get? a=some { cls:=.none,data:=.fields ps }
 | .met f x=>h.get? a=some (PySem.W.methodObj (.ref f) (.ref x))
 | .ext φ=>φ h∧(∃o,h.get? a=some o)∧∀h1 h2:Heap,φ h1→(∀o,h1.get? a=some o→h2.get? a=some o)→φ h2
noncomputable def wD (H:Hp) (h:Heap):Prop:=∀a o,H a=some o→ia P w H h a o
end
section
variable {P:Program} {w:World} {H H':Hp} {h h':Heap} {a:Addr} {o:HO}
theorem ia.lt (x:ia P w H h a o):a<h.objs.size:=by
 cases o with
 | lst xs=>obtain⟨_,_,_,_,e⟩:=x;exact Heap.lt_size e
 | tup xs=>obtain⟨_,_,_,p⟩:=x;exact p.lt
 | dK kvs=>obtain⟨_,_,_,_,o,_,_,e,_⟩:=x;exact Heap.lt_size e
 | dT kvs=>obtain⟨_,_,_,_,o,_,_,e,_⟩:=x;exact Heap.lt_size e
 | set S n=>obtain⟨o,_,_,_,e,_⟩:=x;exact Heap.lt_size e
 | ins C dx fs=>obtain⟨_,_,_,e,_⟩:=x;exact Heap.lt_size e
 | own y=>obtain⟨_,e⟩:=x;exact Heap.lt_size e
 | xd fs=>obtain⟨_,⟨_,_,_,e,_⟩,_⟩:=x;exact Heap.lt_size e
 | U8 lo hi=>obtain⟨_,_,_,e⟩:=x;exact Heap.lt_size e
 | IG ob u=>obtain⟨e,_⟩:=x;exact Heap.lt_size e
 | Sw ps=>exact Heap.lt_size (show h.get? a=some _ from x)
 | met f y=>exact Heap.lt_size (show h.get? a=some _ from x)
 | ext φ=>obtain⟨_,⟨_,e⟩,_⟩:=x;exact Heap.lt_size e
theorem Paired.SY {α β:Type} {F G:α→β→Prop}:∀{l₁:List α} {l₂:List β},Paired F l₁ l₂→(∀a b,F a b→G a b)→Paired G l₁ l₂
 | _,_,.nil,_=>.nil
 | _,_,.cons r t,f=>.cons (f _ _ r) (Paired.SY t f)
theorem ia.Le (x:ia P w H h a o) (k:∀b u,(b=a∨H b=some (.own a))→h.get? b=some u→h'.get? b=some u)
  (ho:∀b,H b=some (.own a)→H' b=some (.own a)) (ht:∀b xs,H b=some (.tup xs)→H' b=some (.tup xs)):ia P w H' h' a o:=by
 induction o with
 | lst xs=>obtain⟨z,its,n,r,e⟩:=x;exact⟨z,its,n,r,k _ _ (.inl rfl) e⟩
 | tup xs=>obtain⟨z,its,r,ob,e,c⟩:=x;exact⟨z,its,r,ob,k _ _ (.inl rfl) e,c⟩
 | dK kvs=>obtain⟨z,y,vs,r,ob,es,ep,e,c⟩:=x;exact⟨z,y,vs,r,ob,es,ep,k _ _ (.inl rfl) e,c⟩
 | dT kvs=>
  obtain⟨z,y,xs,r,ob,es,ep,e,c⟩:=x
  exact⟨z,y,xs,Paired.SY r fun p q z=>⟨z.1,ht _ _ z.2.1,z.2.2⟩,ob,es,ep,k _ _ (.inl rfl) e,c⟩
 | set S n=>obtain⟨ob,es,ep,t,e,c⟩:=x;exact⟨ob,es,ep,t,k _ _ (.inl rfl) e,c⟩
 | ins C dx fs=>
  obtain⟨d,z,ne,e,mA,⟨od,es,ep,e2,c⟩,r⟩:=x
  exact⟨ho _ d,z,ne,k _ _ (.inl rfl) e,mA,⟨od,es,ep,k _ _ (.inr d) e2,c⟩,r⟩
 | own y=>obtain⟨ob,e⟩:=x;exact⟨ob,k _ _ (.inl rfl) e⟩
 | xd fs=>obtain⟨mA,⟨od,es,ep,e,c⟩,r⟩:=x;exact⟨mA,⟨od,es,ep,k _ _ (.inl rfl) e,c⟩,r⟩
 | U8 lo hi=>obtain⟨t,u,v,e⟩:=x;exact⟨t,u,v,k _ _ (.inl rfl) e⟩
 | IG ob u ih=>obtain⟨e,q⟩:=x;exact⟨k _ _ (.inl rfl) e,ih q⟩
 | Sw ps=>
  have e:h.get? a=some { cls:=.none,data:=.fields ps }:=x
  show h'.get? a=some { cls:=.none,data:=.fields ps }
  exact k a _ (.inl rfl) e
 | met f y=>
  have e:h.get? a=some (PySem.W.methodObj (.ref f) (.ref y)):=x
  show h'.get? a=some (PySem.W.methodObj (.ref f) (.ref y))
  exact k a _ (.inl rfl) e
 | ext φ=>obtain⟨p,⟨o,e⟩,st⟩:=x;exact⟨st _ _ p fun o q=>k _ _ (.inl rfl) q,⟨o,k _ _ (.inl rfl) e⟩,st⟩
theorem wD.lt (x:wD P w H h) (e:H a=some o):a<h.objs.size:=(x a o e).lt
theorem wD.fresh (x:wD P w H h) (e:h.objs.size≤a):H a=none:=by
 cases q:H a with
 | none=>rfl
 | some u=>exact absurd (Nat.lt_of_lt_of_le (x.lt q) e) (Nat.lt_irrefl _)
theorem wD.kept (x:wD P w H h) (k:∀b u,h.get? b=some u→h'.get? b=some u):wD P w H h':=fun a o e=>
 (x a o e).Le (fun b u _ q=>k b u q) (fun _ q=>q) fun _ _ q=>q
theorem wD.laid (x:wD P w H h) (k:∀b u,h.get? b=some u→h'.get? b=some u) (hp:h.objs.size≤a) (new:ia P w (upd H a o) h' a o):wD P w (upd H a o) h':=fun b u e=>by
 have hn:=x.fresh hp
 by_cases hb:b=a
 ·subst hb;rw[ae] at e;cases e;exact new
 ·rw[af hb] at e
  exact (x b u e).Le (fun c v _ q=>k c v q) (fun c q=>by rw[af (ao q hn)];exact q) fun c xs q=>by rw[af (ao q hn)];exact q
end
noncomputable def Rd (H:Hp) (a:Addr) (u:HO):Prop:=H a=some u∨∃o,H a=some (.IG o u)
theorem Rd.ok {P:Program} {w:World} {H:Hp} {h:Heap} {a:Addr} {u:HO} (r:Rd H a u) (x:wD P w H h):ia P w H h a u:=by
 rcases r with r | ⟨o,r⟩
 ·exact x a u r
 ·obtain⟨_,q⟩:=x a _ r
  exact q
noncomputable def UM :Option HO→Prop
 | some (.lst _)=>True
 | some (.dK _)=>True
 | some (.dT _)=>True
 | some (.set _ _)=>True
 | some (.ins _ _ _)=>True
 | some (.ext _)=>True
 | _=>False
section
variable {P:Program} {w:World} {H:Hp} {h h':Heap} {x e:Addr} {o':HO}
theorem wD.write (ok:wD P w H h) (mu:UM (H x)) (he:e=x∨H e=some (.own x)) (k:∀b u,b≠e→h.get? b=some u→h'.get? b=some u) (heo:∃u,h'.get? e=some u)
  (new:ia P w (upd H x o') h' x o'):wD P w (upd H x o') h':=fun b u q=>by
 have nown:∀c y,H c=some (.own y)→c≠x:=fun c y r z=>by subst z;rw[r] at mu;exact mu
 have ntup:∀c xs,H c=some (.tup xs)→c≠x:=fun c xs r z=>by subst z;rw[r] at mu;exact mu
 by_cases hb:b=x
 ·subst hb;rw[ae] at q;cases q;exact new
 ·rw[af hb] at q
  by_cases hbe:b=e
  ·have q':H b=some (.own x):=by
    rcases he with z | z
    ·exact absurd (hbe.trans z) hb
    ·rw[hbe];exact z
   rw[q] at q';cases q'
   obtain⟨v,hv⟩:=heo
   exact⟨v,by rw[hbe];exact hv⟩
  ·refine (ok b u q).Le (fun c v hc r=>k c v ?_ r) (fun c r=>by rw[af (nown c b r)];exact r) fun c xs r=>by rw[af (ntup c xs r)];exact r
   rcases hc with rfl | hc
   ·exact hbe
   ·rintro rfl
    rcases he with z | z
    ·exact nown c b hc z
    ·rw[hc] at z;cases z;exact hb rfl
end
structure Un (fs ex:List Addr) (H H':Hp) (h h':Heap):Prop where
 keep :∀b o,h.get? b=some o→H b=none→b∉fs→b∉ex→h'.get? b=some o
 slot :∀b o,h.get? b=some o→H b=none→b∈fs→b∉ex→∃sl,h'.get? b=some { o with slots:=sl }
 free :∀b o,h.get? b=some o→H b=none→b∉ex→H' b=none
 there :∀b o,h.get? b=some o→b∉ex→∃o',h'.get? b=some o'
 Jl :∀b xs,H b=some (.tup xs)→H' b=some (.tup xs)
 IF :∀b o u,H b=some (.IG o u)→H' b=some (.IG o u)
 Jo :∀b ps,H b=some (.Sw ps)→∃more,H' b=some (.Sw (ps++more))
section
variable {fs fs' ex ex':List Addr} {H H1 H2:Hp} {h h1 h2 h':Heap} {a x e:Addr} {o:HO}
theorem Un.any (u:Un fs ex H H1 h h1) {b:Addr} {ob:Obj} (q:h.get? b=some ob) (n:H b=none) (hx:b∉ex):∃sl,h1.get? b=some { ob with slots:=sl }:=by
 by_cases hb:b∈fs
 ·exact u.slot b ob q n hb hx
 ·exact⟨ob.slots,u.keep b ob q n hb hx⟩
theorem Un.kept (k:∀b u,h.get? b=some u→h'.get? b=some u):Un fs ex H H h h':=
 ⟨fun b ob q _ _ _=>k b ob q,fun b ob q _ _ _=>⟨ob.slots,k b ob q⟩,fun _ _ _ n _=>n,fun b ob q _=>⟨ob,k b ob q⟩,fun _ _ q=>q,fun _ _ _ q=>q,fun _ ps q=>⟨#[],by rw[q];simp⟩⟩
theorem Un.refl :Un fs ex H H h h:=Un.kept fun _ _ q=>q
theorem Un.laid (k:∀b u,h.get? b=some u→h'.get? b=some u) (hp:h.objs.size≤a) (hn:H a=none):Un fs ex H (upd H a o) h h' where
 keep:=fun b u q _ _ _=>k b u q
 slot:=fun b u q _ _ _=>⟨u.slots,k b u q⟩
 free:=fun b u q n _=>by rw[af (Nat.ne_of_lt (Nat.lt_of_lt_of_le (Heap.lt_size q) hp))];exact n
 there:=fun b u q _=>⟨u,k b u q⟩
 Jl:=fun b xs q=>by rw[af (ao q hn)];exact q
 IF:=fun b u xs q=>by rw[af (ao q hn)];exact q
 Jo:=fun b ps q=>⟨#[],by rw[af (ao q hn),q];simp⟩
theorem Un.write (mu:UM (H x)) (he:e=x∨H e=some (.own x)) (k:∀b u,b≠e→h.get? b=some u→h'.get? b=some u) (heo:∃u,h'.get? e=some u):Un fs ex H (upd H x o) h h':=by
 have hx:∀b,H b=none→b≠x:=fun b n z=>by subst z;rw[n] at mu;exact mu
 have hb:∀b,H b=none→b≠e:=fun b n z=>by
  subst z
  rcases he with r | r
  ·exact hx b n r
  ·rw[n] at r;cases r
 have hm:∀b u,H b=some u→¬UM (some u)→b≠x:=fun b u q nm z=>by subst z;rw[q] at mu;exact nm mu
 refine⟨fun b u q n _ _=>k b u (hb b n) q,fun b u q n _ _=>⟨u.slots,k b u (hb b n) q⟩,fun b u q n _=>by rw[af (hx b n)];exact n,fun b u q _=>?_,
  fun b xs q=>by rw[af (hm b _ q fun z=>z)];exact q,fun b u xs q=>by rw[af (hm b _ q fun z=>z)];exact q,fun b ps q=>⟨#[],by rw[af (hm b _ q fun z=>z),q];simp⟩⟩
 by_cases hbe:b=e
 ·subst hbe;exact heo
 ·exact⟨u,k b u hbe q⟩
end
noncomputable def UT (h:Heap) (H:Hp):List Addr:=(List.range h.objs.size).filter fun a=>(H a).isSome
noncomputable def Iq (h:Heap) (H:Hp):Heap:=PySem.W.hideAll h (UT h H)
theorem N3 (h:Heap) (H:Hp):(Iq h H).objs.size=h.objs.size:=PySem.W.hideAll_size _ _
theorem P7 {h:Heap} {H:Hp} {b:Addr} {o:Obj} (e:h.get? b=some o) (n:H b=none):(Iq h H).get? b=some o:=
 PySem.W.hideAll_get _ e fun hm=>by
  have q:(H b).isSome=true:=(List.mem_filter.mp hm).2
  rw[n] at q;simp at q
theorem Rm {h:Heap} {H:Hp} {b:Addr} {o:Obj} (e:(Iq h H).get? b=some o):h.get? b=some o∧H b=none:=by
 have e':h.get? b=some o:=PySem.W.of_hideAll (UT h H) e
 refine⟨e',?_⟩
 cases q:H b with
 | none=>rfl
 | some x=>
  have hm:b∈UT h H:=List.mem_filter.mpr ⟨List.mem_range.mpr (Heap.lt_size e'),by simp[q]⟩
  have z:(Iq h H).get? b=none:=PySem.W.hideAll_none (UT h H) hm
  rw[z] at e;cases e
end L2
namespace L2
open PySem PySem.Spec PyProof.Rows
structure Mod (K:PySem.W.Frag) (mg:Str→Option Value) (base:Heap):Prop where
 Up :K.In base
 glob :base.Ns mainGlobals mg
 blt :∃mb,base.Ns builtinsNs mb∧∀x:Str,x≠"__name__"→mb x=bootBuiltins x
 nolimit :base.NoLimit
structure Cx where
 prog :Program
 w :World
 K :PySem.W.Frag
 mg :Str→Option Value
 base :Heap
 A :Around
 N :List Str
 GU :Shared
 UP :Hp
 env :Env
 outer :List Env
 stack :List Env
 ex :List Addr
 fn :Str→Bool
 calm :Bool
 pn :List (Addr×Obj)
 xe :Value→Shared→Prop
noncomputable def Qh (l:List Env):List Addr:=l.filterMap (·.frame)
noncomputable abbrev Cx.fs (X:Cx):List Addr:=Qh X.outer
noncomputable def UI (sc:Scope) (x:Str):Prop:=sc.names.lookup x=some .local∨sc.names.lookup x=some .cell∨sc.names.lookup x=some .free
noncomputable def Loc (sc:Scope) (x:Str):Prop:=sc.names.lookup x=some .local∨sc.names.lookup x=some .cell
noncomputable def Look (env:Env) (h:Heap) (m:Str→Option Value) (x:Str) (u:Value):Prop:=
 (env.kindOf x=some .local∧m x=some u)∨((env.kindOf x=some .cell∨env.kindOf x=some .free)∧∃c,env.cells.lookup x=some c∧h.IsCell c (some u))
structure Cx.Ok (X:Cx):Prop where
 mod :Mod X.K X.mg X.base
 kind :X.env.scope.kind=.function
 glob :X.env.globals=mainGlobals
 blt :X.env.builtins=builtinsNs
 above :X.GU.heap.objs.size≤X.env.locals
 inj :∀x y c,X.env.cells.lookup x=some c→X.env.cells.lookup y=some c→x=y
 has :∀x,(X.env.kindOf x=some .cell∨X.env.kindOf x=some .free)→∃c,X.env.cells.lookup x=some c
 UG :∀x c,X.fn x=true→X.env.cells.lookup x=some c→X.GU.heap.objs.size≤c
 hd :X.calm=true→X.A.handled=none
 frames :X.A.frames=some X.stack
 UU :X.stack=X.outer∨(X.stack=X.env::X.outer∧X.env.frame=some X.env.locals)
 U1 :∀b∈X.ex,b≠X.env.locals∧∀x c,X.env.cells.lookup x=some c→c≠b
 bs :∀b o,X.base.get? b=some o→X.GU.heap.get? b=some o∧X.UP b=none
 RL :X.base.objs.size≤X.GU.heap.objs.size
 PK :∀b o,X.base.get? b=some o→b∉X.ex
 Qi :∀b∈X.ex,b∉X.fs
 Dl :X.GU.heap.FunFrames X.base X.outer
 Tf :∀b∈X.fs,X.UP b=none
structure Inv (X:Cx) (pins:List (Addr×Obj)) (σ:List (Option V)) (H:Hp) (s:Shared):Prop where
 ok :X.Ok
 os :s.os=X.GU.os
 bare :AllBare s.gens
 base :Un X.fs X.ex X.UP H X.GU.heap s.heap
 loc :∃m,s.heap.Ns X.env.locals m∧∀(i:Nat) (x:Str) (v:V),X.N[i]?=some x→σ[i]?=some (some v)→UI X.env.scope x→∃u,RelV v u∧Look X.env s.heap m x u
 cell :∀x c,X.env.cells.lookup x=some c→∃v,s.heap.IsCell c v
 free :H X.env.locals=none
 vQ :∀x c,X.env.cells.lookup x=some c→H c=none
 pin :∀p∈X.pn++pins,s.heap.get? p.1=some p.2∧H p.1=none∧p.1≠X.env.locals∧p.1∉X.fs∧∀v,p.2.data≠.cell v
 dN :wD X.prog X.w H s.heap
 len :σ.length=X.N.length
section
variable {X:Cx} {pins:List (Addr×Obj)} {σ:List (Option V)} {H H':Hp} {s:Shared} {h':Heap}
theorem Cx.Ok.Vj (ok:X.Ok) {b:Addr} {o:Obj} (e:X.base.get? b=some o):b∉X.fs:=fun hb=>by
 have:=(ok.Dl.mem hb).1
 rw[e] at this;cases this
theorem Inv.bs (I:Inv X pins σ H s):∀b o,X.base.get? b=some o→s.heap.get? b=some o∧H b=none:=fun b o e=>
 ⟨I.base.keep b o (I.ok.bs b o e).1 (I.ok.bs b o e).2 (I.ok.Vj e) (I.ok.PK b o e),I.base.free b o (I.ok.bs b o e).1 (I.ok.bs b o e).2 (I.ok.PK b o e)⟩
theorem Inv.bk (I:Inv X pins σ H s):∀b o,X.base.get? b=some o→s.heap.get? b=some o:=fun b o e=>(I.bs b o e).1
theorem Inv.mod (I:Inv X pins σ H s):Mod X.K X.mg X.base:=I.ok.mod
theorem Inv.LP (I:Inv X pins σ H s):X.K.In s.heap:=I.ok.mod.Up.keeps I.bk
theorem Inv.lt (I:Inv X pins σ H s):X.env.locals<s.heap.objs.size:=let ⟨_,hn,_⟩:=I.loc;hn.lt
theorem Inv.sz (I:Inv X pins σ H s):X.GU.heap.objs.size≤s.heap.objs.size:=Nat.le_trans I.ok.above (Nat.le_of_lt I.lt)
theorem Inv.Vi (I:Inv X pins σ H s) {a:Addr} (h:s.heap.objs.size≤a):a∉X.fs:=fun hb=>by
 obtain⟨_,o,ho,_⟩:=I.ok.Dl.mem hb
 exact absurd (Nat.lt_of_lt_of_le (Heap.lt_size ho) (Nat.le_trans I.sz h)) (Nat.lt_irrefl _)
theorem Inv.Tr (I:Inv X pins σ H s):∀x c,X.env.cells.lookup x=some c→c≠X.env.locals:=fun x c e z=>by
 obtain⟨v,o,ho,hd⟩:=I.cell x c e
 obtain⟨m,⟨o',es,ep,ho',hd',_⟩,_⟩:=I.loc
 rw[z,ho'] at ho;cases ho;rw[hd'] at hd;cases hd
theorem Inv.Dl (I:Inv X pins σ H s):s.heap.FunFrames X.base X.outer:=by
 have all:∀(l:List Env),(∀b∈Qh l,b∈X.fs)→X.GU.heap.FunFrames X.base l→s.heap.FunFrames X.base l:=by
  intro l
  induction l with
  | nil=>intro _ _;trivial
  | cons env r ih=>
   intro hs hl
   obtain⟨hk,⟨L,o,hf,hn,ho,hd⟩,hr⟩:=hl
   have hL:L∈X.fs:=hs L (by unfold Qh;rw[List.filterMap_cons,hf];exact List.mem_cons_self)
   obtain⟨sl,e⟩:=I.base.slot L o ho (I.ok.Tf L hL) hL fun z=>I.ok.Qi L z hL
   exact⟨hk,⟨L,_,hf,hn,e,hd⟩,ih (fun b hb=>hs b (by unfold Qh;rw[List.filterMap_cons,hf];exact List.mem_cons_of_mem _ hb)) hr⟩
 exact all X.outer (fun _ hb=>hb) I.ok.Dl
theorem Inv.stack (I:Inv X pins σ H s):s.heap.FunFrames X.base X.stack:=by
 rcases I.ok.UU with e | ⟨e,hf⟩
 ·rw[e];exact I.Dl
 ·rw[e]
  obtain⟨m,hn,_⟩:=I.loc
  refine .cons (by rw[I.ok.kind];decide) hf hn ?_ I.Dl
  exact Heap.get?_none_of_le (Nat.le_trans I.ok.RL I.ok.above)
theorem Inv.Ld (I:Inv X pins σ H s):∀b∈Qh X.stack,b∈X.env.locals::X.fs:=fun b hb=>by
 rcases I.ok.UU with e | ⟨e,hf⟩
 ·rw[e] at hb;exact List.mem_cons_of_mem _ hb
 ·rw[e] at hb
  unfold Qh at hb
  rw[List.filterMap_cons,hf] at hb
  exact hb
theorem Inv.Ml (I:Inv X pins σ H s):∀b∈Qh X.stack,H b=none:=fun b hb=>by
 rcases List.mem_cons.mp (I.Ld b hb) with e | hb
 ·rw[e];exact I.free
 ·obtain⟨_,o,ho,_⟩:=I.ok.Dl.mem hb
  exact I.base.free b o ho (I.ok.Tf b hb) fun z=>I.ok.Qi b z hb
theorem Inv.step {g':Array GenState} {t':Nat} {d':Drawn} {ch:List Addr} (I:Inv X pins σ H s)
  (hch:∀b∈ch,(b∈X.ex∨X.GU.heap.objs.size≤b)∧b≠X.env.locals∧(∀x c,X.env.cells.lookup x=some c→c≠b)∧∀p∈X.pn++pins,p.1≠b)
  (keep:∀b o,b≠X.env.locals→b∉X.fs→b∉ch→s.heap.get? b=some o→H b=none→h'.get? b=some o)
  (slot:∀b o,b≠X.env.locals→b∈X.fs→b∉ch→s.heap.get? b=some o→H b=none→∃sl,h'.get? b=some { o with slots:=sl }) (free:∀b o,b∉ch→s.heap.get? b=some o→H b=none→H' b=none)
  (there:∀b o,b∉ch→s.heap.get? b=some o→∃o',h'.get? b=some o')
  (Jl:∀b xs,H b=some (.tup xs)→H' b=some (.tup xs)) (IF:∀b o u,H b=some (.IG o u)→H' b=some (.IG o u)) (Jo:∀b ps,H b=some (.Sw ps)→∃more,H' b=some (.Sw (ps++more)))
  (ns:∀m,s.heap.Ns X.env.locals m→h'.Ns X.env.locals m) (dN:wD X.prog X.w H' h') (hg:AllBare g') :
  Inv X pins σ H' { s with heap:=h',gens:=g',drawn:=d',toks:=t' }:=by
 have neL:∀b o,X.GU.heap.get? b=some o→b≠X.env.locals:=fun b o e=>Nat.ne_of_lt (Nat.lt_of_lt_of_le (Heap.lt_size e) I.ok.above)
 have neC:∀b o,X.GU.heap.get? b=some o→b∉X.ex→b∉ch:=fun b o e hx hb=>by
  rcases (hch b hb).1 with z | z
  ·exact hx z
  ·exact absurd (Nat.lt_of_lt_of_le (Heap.lt_size e) z) (Nat.lt_irrefl _)
 have cellK:∀x c,X.env.cells.lookup x=some c→∀v,s.heap.IsCell c v→h'.IsCell c v:=fun x c e v ⟨o,ho,hd⟩=>by
  have nch:c∉ch:=fun z=>(hch c z).2.2.1 x c e rfl
  by_cases hc:c∈X.fs
  ·obtain⟨sl,q⟩:=slot c o (I.Tr x c e) hc nch ho (I.vQ x c e)
   exact⟨_,q,hd⟩
  ·exact⟨o,keep c o (I.Tr x c e) hc nch ho (I.vQ x c e),hd⟩
 refine⟨I.ok,I.os,hg,⟨fun b o e n hb hx=>?_,fun b o e n hb hx=>?_,fun b o e n hx=>?_,fun b o e hx=>?_,fun b xs e=>Jl b xs (I.base.Jl b xs e),fun b o xs e=>IF b o xs (I.base.IF b o xs e),fun b ps e=>?_⟩,?_,fun x c e=>?_,?_,fun x c e=>?_,fun p hp=>?_,dN,I.len⟩
 ·exact keep b o (neL b o e) hb (neC b o e hx) (I.base.keep b o e n hb hx) (I.base.free b o e n hx)
 ·obtain⟨sl,e1⟩:=I.base.slot b o e n hb hx
  obtain⟨sl',e2⟩:=slot b _ (neL b o e) hb (neC b o e hx) e1 (I.base.free b o e n hx)
  exact⟨sl',e2⟩
 ·obtain⟨o',e1⟩:=I.base.there b o e hx
  exact free b o' (neC b o e hx) e1 (I.base.free b o e n hx)
 ·obtain⟨o',e1⟩:=I.base.there b o e hx
  exact there b o' (neC b o e hx) e1
 ·obtain⟨m1,e1⟩:=I.base.Jo b ps e
  obtain⟨m2,e2⟩:=Jo b _ e1
  exact⟨m1++m2,by rw[e2,Array.append_assoc]⟩
 ·obtain⟨m,hn,hl⟩:=I.loc
  refine⟨m,ns m hn,fun i x v e1 e2 e3=>?_⟩
  obtain⟨u,r,l⟩:=hl i x v e1 e2 e3
  refine⟨u,r,?_⟩
  rcases l with l | ⟨k,c,e,z⟩
  ·exact .inl l
  ·exact .inr ⟨k,c,e,cellK x c e _ z⟩
 ·obtain⟨v,z⟩:=I.cell x c e
  exact⟨v,cellK x c e v z⟩
 ·obtain⟨m,⟨o,_,_,ho,_⟩,_⟩:=I.loc
  exact free _ o (fun z=>(hch _ z).2.1 rfl) ho I.free
 ·obtain⟨v,o,ho,hd⟩:=I.cell x c e
  exact free c o (fun z=>(hch c z).2.2.1 x c e rfl) ho (I.vQ x c e)
 ·obtain⟨e,n,ne,nf,d⟩:=I.pin p hp
  have nch:p.1∉ch:=fun z=>(hch p.1 z).2.2.2 p hp rfl
  exact⟨keep p.1 p.2 ne nf nch e n,free p.1 p.2 nch e n,ne,nf,d⟩
theorem Inv.un {t':Nat} (I:Inv X pins σ H s) (u:Un X.fs [] H H' s.heap h') (dN:wD X.prog X.w H' h'):Inv X pins σ H' { s with heap:=h',toks:=t' }:=by
 obtain⟨m,⟨o,es,ep,ho,r⟩,_⟩:=id I.loc
 obtain⟨sl,hL⟩:=u.any ho I.free (by simp)
 exact I.step (g':=s.gens) (d':=s.drawn) (ch:=[]) (fun _ z=>nomatch z) (fun b o _ hb _ e n=>u.keep b o e n hb (by simp)) (fun b o _ hb _ e n=>u.slot b o e n hb (by simp)) (fun b o _ e n=>u.free b o e n (by simp)) (fun b o _ e=>u.there b o e (by simp)) u.Jl u.IF u.Jo (fun m' hm=>by
  obtain⟨o',es',ep',ho',r'⟩:=hm
  rw[ho] at ho';cases ho'
  exact⟨_,es',ep',hL,r'⟩) dN I.bare
theorem Inv.call {g':Array GenState} {t':Nat} {d':Drawn} {ch:List Addr} (I:Inv X pins σ H s) (u:Un (Qh X.stack) ch H H' s.heap h') (dN:wD X.prog X.w H' h') (hg:AllBare g')
  (hch:∀b∈ch,(b∈X.ex∨X.GU.heap.objs.size≤b)∧b≠X.env.locals∧(∀x c,X.env.cells.lookup x=some c→c≠b)∧∀p∈X.pn++pins,p.1≠b) :
  Inv X pins σ H' { s with heap:=h',gens:=g',drawn:=d',toks:=t' }:=by
 obtain⟨m,⟨o,es,ep,ho,r⟩,_⟩:=id I.loc
 obtain⟨sl,hL⟩:=u.any ho I.free fun z=>(hch _ z).2.1 rfl
 exact I.step (ch:=ch) hch (fun b o hL hb hc e n=>u.keep b o e n (fun z=>(List.mem_cons.mp (I.Ld b z)).elim hL hb) hc) (fun b o _ _ hc e n=>u.any e n hc) (fun b o hc e n=>u.free b o e n hc) (fun b o hc e=>u.there b o e hc) u.Jl u.IF u.Jo (fun m' hm=>by
  obtain⟨o',es',ep',ho',r'⟩:=hm
  rw[ho] at ho';cases ho'
  exact⟨_,es',ep',hL,r'⟩) dN hg
theorem Inv.turned {t':Nat} {it:Addr} (I:Inv X pins σ H s) (k:∀b o,b≠it→s.heap.get? b=some o→h'.get? b=some o) (hn:H it=none) (hL:it≠X.env.locals)
  (h1:it∈X.ex∨X.GU.heap.objs.size≤it) (h2:∀x c,X.env.cells.lookup x=some c→c≠it) (h3:∀p∈X.pn++pins,p.1≠it):Inv X pins σ H { s with heap:=h',toks:=t' }:=by
 have nit:∀b u,H b=some u→b≠it:=fun b u e z=>by rw[z,hn] at e;cases e
 refine I.step (g':=s.gens) (d':=s.drawn) (ch:=[it]) (fun b hb=>?_) (fun b o _ _ hc e _=>k b o (fun z=>hc (by simp[z])) e) (fun b o _ _ hc e _=>⟨o.slots,k b o (fun z=>hc (by simp[z])) e⟩) (fun _ _ _ _ n=>n)
  (fun b o hc e=>⟨o,k b o (fun z=>hc (by simp[z])) e⟩) (fun _ _ e=>e) (fun _ _ _ e=>e) (fun b ps e=>⟨#[],by rw[e];simp⟩) (fun m hm=>?_) (fun b u e=>?_) I.bare
 ·have e:b=it:=by simpa using hb
  subst e
  exact⟨h1,hL,h2,h3⟩
 ·obtain⟨o,es,ep,ho,r⟩:=hm
  exact⟨o,es,ep,k _ o (Ne.symm hL) ho,r⟩
 ·refine (I.dN b u e).Le (fun c v hc q=>k c v ?_ q) (fun _ q=>q) fun _ _ q=>q
  rcases hc with z | z
  ·rw[z];exact nit b u e
  ·exact nit c _ z
theorem Inv.tok (I:Inv X pins σ H s) (t:Nat):Inv X pins σ H { s with toks:=t }:=I.un (h':=s.heap) (t':=t) Un.refl I.dN
theorem Inv.kept {t':Nat} (I:Inv X pins σ H s) (k:∀b u,s.heap.get? b=some u→h'.get? b=some u):Inv X pins σ H { s with heap:=h',toks:=t' }:=I.un (Un.kept k) (I.dN.kept k)
theorem Inv.laid {a:Addr} {o:HO} {t':Nat} (I:Inv X pins σ H s) (k:∀b u,s.heap.get? b=some u→h'.get? b=some u) (hp:s.heap.objs.size≤a) (new:ia X.prog X.w (upd H a o) h' a o) :
  Inv X pins σ (upd H a o) { s with heap:=h',toks:=t' }:=I.un (Un.laid k hp (I.dN.fresh hp)) (I.dN.laid k hp new)
theorem Inv.write {x e:Addr} {o:HO} {t':Nat} (I:Inv X pins σ H s) (mu:UM (H x)) (he:e=x∨H e=some (.own x)) (k:∀b u,b≠e→s.heap.get? b=some u→h'.get? b=some u) (heo:∃u,h'.get? e=some u)
  (new:ia X.prog X.w (upd H x o) h' x o):Inv X pins σ (upd H x o) { s with heap:=h',toks:=t' }:=I.un (Un.write mu he k heo) (I.dN.write mu he k heo new)
theorem Inv.weak {σ':List (Option V)} (I:Inv X pins σ H s) (hl:σ'.length=σ.length) (w:∀(i:Nat) v,σ'[i]?=some (some v)→σ[i]?=some (some v)):Inv X pins σ' H s:=
 ⟨I.ok,I.os,I.bare,I.base,let ⟨m,hn,hl'⟩:=I.loc;⟨m,hn,fun i x v e1 e2 e3=>hl' i x v e1 (w i v e2) e3⟩,I.cell,I.free,I.vQ,I.pin,I.dN,hl.trans I.len⟩
theorem Inv.Ms {pins':List (Addr×Obj)} (I:Inv X pins σ H s) (h:∀p∈pins',s.heap.get? p.1=some p.2∧H p.1=none∧p.1≠X.env.locals∧p.1∉X.fs∧∀v,p.2.data≠.cell v):Inv X pins' σ H s:=
 ⟨I.ok,I.os,I.bare,I.base,I.loc,I.cell,I.free,I.vQ,fun p hp=>(List.mem_append.mp hp).elim (fun z=>I.pin p (List.mem_append_left _ z)) (h p),I.dN,I.len⟩
theorem EK {N:List Str} (hN:N.Nodup) {i j:Nat} {x:Str} (a:N[i]?=some x) (b:N[j]?=some x):i=j:=by
 obtain⟨h1,e1⟩:=List.getElem?_eq_some_iff.mp a
 obtain⟨h2,e2⟩:=List.getElem?_eq_some_iff.mp b
 exact (List.getElem_inj hN).mp (e1.trans e2.symm)
theorem Ng {M:Model} {A:Around} {E:Value→Shared→Prop} {i:Nat} {x:Str} {v:V} {u:Value} {Q:Unit→Shared→Prop} (I:Inv X pins σ H s) (hN:X.N.Nodup) (hi:X.N[i]?=some x) (hx:Loc X.env.scope x) (r:RelV v u)
  (h:∀s',Inv X pins (σ.set i (some v)) H s'→(∃a,Heap.SameBut a s.heap s'.heap∧(a=X.env.locals∨X.env.cells.lookup x=some a))→Q () s') (hf:X.fn x=true∨X.env.scope.names.lookup x=some .local:=by first | exact .inl rfl | exact .inr rfl | assumption):wpAny M A (storeName X.env x u) Q E s:=by
 obtain⟨m,hn,hl⟩:=id I.loc
 have hcls:(X.env.scope.kind==.class || (X.env.scope.kind==.module&&X.env.locals != X.env.globals))=false:=by rw[I.ok.kind];rfl
 have hiσ:i<σ.length:=by rw[I.len];exact (List.getElem?_eq_some_iff.mp hi).1
 have Tr:=I.Tr
 have tracked:∀{a:Addr} {h':Heap},(∃o,s.heap.get? a=some o∧H a=none)→Heap.SameBut a s.heap h'→wD X.prog X.w H h':=fun {a h'} ha hs b ob e=>by
  obtain⟨_,_,hfree⟩:=ha
  refine (I.dN b ob e).Le (fun c w' hc q=>(hs.2 c ?_).trans q) (fun _ q=>q) fun _ _ q=>q
  rintro rfl
  rcases hc with rfl | hc
  ·rw[hfree] at e;cases e
  ·rw[hfree] at hc;cases hc
 rcases hx with hk | hk
 ·refine wpAny_storeName_local hk hn (fun h' hn' hs=>?_) hcls
  obtain⟨oL,_,_,hoL,_⟩:=id hn
  refine h _ ⟨I.ok,I.os,I.bare,⟨fun b o e n hb hx=>?_,fun b o e n hb hx=>?_,I.base.free,fun b o e hx=>?_,I.base.Jl,I.base.IF,I.base.Jo⟩,⟨_,hn',fun j y v' e1 e2 e3=>?_⟩,fun y c e=>?_,I.free,I.vQ,fun p hp=>?_,tracked ⟨oL,hoL,I.free⟩ hs,by simpa using I.len⟩ ⟨_,hs,.inl rfl⟩
  ·exact (hs.2 b (Nat.ne_of_lt (Nat.lt_of_lt_of_le (Heap.lt_size e) I.ok.above))).trans (I.base.keep b o e n hb hx)
  ·obtain⟨sl,e1⟩:=I.base.slot b o e n hb hx
   exact⟨sl,(hs.2 b (Nat.ne_of_lt (Nat.lt_of_lt_of_le (Heap.lt_size e) I.ok.above))).trans e1⟩
  ·obtain⟨o',e1⟩:=I.base.there b o e hx
   exact⟨o',(hs.2 b (Nat.ne_of_lt (Nat.lt_of_lt_of_le (Heap.lt_size e) I.ok.above))).trans e1⟩
  ·by_cases hj:j=i
   ·subst hj
    rw[hi] at e1;cases e1
    rw[List.getElem?_set_self hiσ] at e2
    cases e2
    exact⟨u,r,.inl ⟨hk,by simp⟩⟩
   ·rw[List.getElem?_set_ne (Ne.symm hj)] at e2
    obtain⟨u',r',q⟩:=hl j y v' e1 e2 e3
    refine⟨u',r',?_⟩
    rcases q with ⟨k,e⟩ | ⟨k,c,e,z⟩
    ·refine .inl ⟨k,?_⟩
     have :y≠x:=fun e=>hj (EK hN e1 (e▸hi))
     simp[this,e]
    ·exact .inr ⟨k,c,e,z.sameBut hs (Tr y c e)⟩
  ·obtain⟨w',z⟩:=I.cell y c e
   exact⟨w',z.sameBut hs (Tr y c e)⟩
  ·obtain⟨e,n,ne,nf,d⟩:=I.pin p hp
   exact⟨(hs.2 p.1 ne).trans e,n,ne,nf,d⟩
 ·have hfn:X.fn x=true:=by
   rcases hf with z | z
   ·exact z
   ·rw[z] at hk;cases hk
  obtain⟨c,hc⟩:=I.ok.has x (.inl hk)
  obtain⟨w',z⟩:=I.cell x c hc
  refine wpAny_storeName_cell I.ok.kind hk hc z (fun h' hc' hs=>?_)
  obtain⟨oc,hoc,hocd⟩:=id z
  refine h { s with heap:=h' } ⟨I.ok,I.os,I.bare,⟨fun b o e n hb hx=>?_,fun b o e n hb hx=>?_,I.base.free,fun b o e hx=>?_,I.base.Jl,I.base.IF,I.base.Jo⟩,⟨m,hn.sameBut hs (Ne.symm (Tr x c hc)),fun j y v' e1 e2 e3=>?_⟩,fun y c' e=>?_,I.free,I.vQ,fun p hp=>?_,tracked ⟨oc,hoc,I.vQ x c hc⟩ hs,by simpa using I.len⟩ ⟨c,hs,.inr hc⟩
  ·exact (hs.2 b (Nat.ne_of_lt (Nat.lt_of_lt_of_le (Heap.lt_size e) (I.ok.UG x c hfn hc)))).trans (I.base.keep b o e n hb hx)
  ·obtain⟨sl,e1⟩:=I.base.slot b o e n hb hx
   exact⟨sl,(hs.2 b (Nat.ne_of_lt (Nat.lt_of_lt_of_le (Heap.lt_size e) (I.ok.UG x c hfn hc)))).trans e1⟩
  ·obtain⟨o',e1⟩:=I.base.there b o e hx
   exact⟨o',(hs.2 b (Nat.ne_of_lt (Nat.lt_of_lt_of_le (Heap.lt_size e) (I.ok.UG x c hfn hc)))).trans e1⟩
  ·by_cases hj:j=i
   ·subst hj
    rw[hi] at e1;cases e1
    rw[List.getElem?_set_self hiσ] at e2
    cases e2
    exact⟨u,r,.inr ⟨.inl hk,c,hc,hc'⟩⟩
   ·rw[List.getElem?_set_ne (Ne.symm hj)] at e2
    obtain⟨u',r',q⟩:=hl j y v' e1 e2 e3
    refine⟨u',r',?_⟩
    rcases q with q | ⟨k,c',e,z'⟩
    ·exact .inl q
    ·refine .inr ⟨k,c',e,z'.sameBut hs ?_⟩
     rintro rfl
     exact hj (EK hN e1 (I.ok.inj _ _ _ e hc▸hi))
  ·by_cases hcc:c'=c
   ·subst hcc;exact⟨_,hc'⟩
   ·obtain⟨w2,z2⟩:=I.cell y c' e
    exact⟨w2,z2.sameBut hs hcc⟩
  ·obtain⟨e,n,ne,nf,d⟩:=I.pin p hp
   refine⟨(hs.2 p.1 ?_).trans e,n,ne,nf,d⟩
   intro q
   rw[q,hoc] at e
   have q':oc=p.2:=Option.some.inj e
   exact d w' (by rw[←q'];exact hocd)
theorem Jr {M:Model} {A:Around} {E:Value→Shared→Prop} {i:Nat} {x:Str} {v:V} {u:Value} {Q:Unit→Shared→Prop} (I:Inv X pins σ H s) (hN:X.N.Nodup) (hi:X.N[i]?=some x) (hx:Loc X.env.scope x) (r:RelV v u)
  (h:∀s',Inv X pins (σ.set i (some v)) H s'→Q () s') (hf:X.fn x=true∨X.env.scope.names.lookup x=some .local:=by first | exact .inl rfl | exact .inr rfl | assumption):wpAny M A (storeName X.env x u) Q E s:=
 Ng I hN hi hx r (fun s' I' _=>h s' I') hf
theorem Inv.call' {s':Shared} {ch:List Addr} (I:Inv X pins σ H s) (ho:s'.os=s.os) (u:Un (Qh X.stack) ch H H' s.heap s'.heap) (dN:wD X.prog X.w H' s'.heap) (hg:AllBare s'.gens)
  (hch:∀b∈ch,(b∈X.ex∨X.GU.heap.objs.size≤b)∧b≠X.env.locals∧(∀x c,X.env.cells.lookup x=some c→c≠b)∧∀p∈X.pn++pins,p.1≠b):Inv X pins σ H' s':=by
 obtain⟨h',g',d',t',o'⟩:=s'
 have e:o'=s.os:=ho
 subst e
 exact I.call (g':=g') (t':=t') (d':=d') u dN hg hch
end
noncomputable abbrev XK :=Value→Option Addr→Hp→Prop
noncomputable abbrev St :=List (Option V)
noncomputable abbrev VK :=V→Hp→Prop
noncomputable abbrev TE :=St→Hp→VK→Prop
noncomputable abbrev TT :=St→Hp→(Bool→Hp→Prop)→Prop
noncomputable abbrev TA :=St→Hp→(List V→Hp→Prop)→Prop
structure Ends where
 nx :St→Hp→Prop
 rt :VK
 bk :St→Hp→Prop:=fun _ _=>False
 ct :St→Hp→Prop:=fun _ _=>False
noncomputable abbrev TS :=Ends→St→Hp→Prop
noncomputable def EP (X:Cx) (pins:List (Addr×Obj)) (σ:St) (Q:VK) (u:Value) (s':Shared):Prop:=∃v H',Inv X pins σ H' s'∧RelV v u∧Q v H'
noncomputable def TP (X:Cx) (pins:List (Addr×Obj)) (σ:St) (Q:Bool→Hp→Prop) (b:Bool) (s':Shared):Prop:=∃H',Inv X pins σ H' s'∧Q b H'
noncomputable def AP (X:Cx) (pins:List (Addr×Obj)) (σ:St) (Q:List V→Hp→Prop) (us:List Value) (s':Shared):Prop:=∃vs H',Inv X pins σ H' s'∧Vals vs us∧Q vs H'
noncomputable def SP (X:Cx) (pins:List (Addr×Obj)) (D:Ends) (f:Flow) (s':Shared):Prop:=
 match f with
 | .next=>∃σ' H',Inv X pins σ' H' s'∧D.nx σ' H'
 | .brk=>∃σ' H',Inv X pins σ' H' s'∧D.bk σ' H'
 | .cont=>∃σ' H',Inv X pins σ' H' s'∧D.ct σ' H'
 | .ret u=>∃v σ' H',Inv X pins σ' H' s'∧RelV v u∧D.rt v H'
noncomputable def PE (X:Cx) (e:Expr) (t:TE):Prop:=
 ∀(pins:List (Addr×Obj)) (s:Shared) (σ:St) (H:Hp) (Q:VK),Inv X pins σ H s→t σ H Q→wpAny (model X.prog X.w) X.A (eval e X.env) (EP X pins σ Q) X.xe s
noncomputable def PT (X:Cx) (e:Expr) (t:TT):Prop:=
 ∀(pins:List (Addr×Obj)) (s:Shared) (σ:St) (H:Hp) (Q:Bool→Hp→Prop),Inv X pins σ H s→t σ H Q→wpAny (model X.prog X.w) X.A (isTrue e X.env (eval e X.env)) (TP X pins σ Q) X.xe s
noncomputable def PW (X:Cx) (e:Expr) (t:TT):Prop:=
 ∀(whole:Sem Value) (pins:List (Addr×Obj)) (s:Shared) (σ:St) (H:Hp) (Q:Bool→Hp→Prop),Inv X pins σ H s→t σ H Q→wpAny (model X.prog X.w) X.A (isTrue e X.env whole) (TP X pins σ Q) X.xe s
theorem PW.pt {X:Cx} {e:Expr} {t:TT} (h:PW X e t):PT X e t:=h _
noncomputable def PA (X:Cx) (es:List Expr) (t:TA):Prop:=
 ∀(pos:Pos) (pins:List (Addr×Obj)) (s:Shared) (σ:St) (H:Hp) (Q:List V→Hp→Prop),Inv X pins σ H s→t σ H Q→wpAny (model X.prog X.w) X.A (spliced (backTo pos (starEach es X.env))) (AP X pins σ Q) X.xe s
noncomputable def PS (X:Cx) (st:Stmt) (t:TS):Prop:=
 ∀(pins:List (Addr×Obj)) (s:Shared) (σ:St) (H:Hp) (D:Ends),Inv X pins σ H s→t D σ H→wpAny (model X.prog X.w) X.A (exec st X.env) (SP X pins D) X.xe s
noncomputable def Oz (X:Cx) (st:List Stmt) (t:TS):Prop:=
 ∀(pins:List (Addr×Obj)) (s:Shared) (σ:St) (H:Hp) (D:Ends),Inv X pins σ H s→t D σ H→wpAny (model X.prog X.w) X.A (execs st X.env) (SP X pins D) X.xe s
theorem gr {α:Type} {t:Sem α} {Q Q':α→Shared→Prop} {M:Model} {A:Around} {E:Value→Shared→Prop} {s:Shared} (h:wpAny M A t Q E s) (hQ:∀a s,Q a s→Q' a s):wpAny M A t Q' E s:=wpAny_mono h hQ fun _ _ x=>x
end L2
namespace L2
open PySem PySem.Spec PyProof.Rows
section
variable {X:Cx}
@[reducible] noncomputable def Sy (i:Nat):TE:=fun σ H Q=>∃v,σ[i]?=some (some v)∧Q v H
@[reducible] noncomputable def tC (v:V):TE:=fun _ H Q=>Q v H
theorem SQ {i:Nat} {x:Str} {pos:Pos} (hN:X.N[i]?=some x) (hv:UI X.env.scope x) (hd:(x==("__debug__":Str))=false:=by decide) (hcd:(x==("__classdict__":Str))=false:=by decide):PE X (.Name x pos) (Sy i):=by
 intro pins s σ H Q I h
 obtain⟨v,e,h⟩:=h
 obtain⟨m,hn,hl⟩:=I.loc
 obtain⟨u,r,l⟩:=hl i x v hN e hv
 have fin:EP X pins σ Q u s:=⟨v,H,I,r,h⟩
 rcases l with ⟨hk,hm⟩ | ⟨hk,c,hc,hcell⟩
 ·exact wpAny_Name (wpAny_loadName_local I.ok.kind hk hn hm fin) hd
 ·rcases hk with hk | hk
  ·exact wpAny_Name (wpAny_loadName_cell I.ok.kind hk hc hcell fin) hd
  ·exact wpAny_Name (wpAny_loadName_free I.ok.kind hk hc hcell fin hcd) hd
theorem aH {i j pos}:PE X (.Constant (.int i) j pos) (tC (.int i)):=fun _ _ _ H _ I h=>wpAny_Constant_int ⟨.int i,H,I.tok _,⟨_,rfl⟩,h⟩
theorem CB {b j pos}:PE X (.Constant (.bool b) j pos) (tC (.bl b)):=fun _ _ _ H _ I h=>Constant_bool ⟨.bl b,H,I,rfl,h⟩
theorem Ew {j pos}:PE X (.Constant .none j pos) (tC .dh):=fun _ _ _ H _ I h=>Constant_none ⟨.dh,H,I,rfl,h⟩
theorem yP {x j pos}:PE X (.Constant (.str x) j pos) (tC (.str x)):=fun _ _ _ H _ I h=>Calls.Constant_str ⟨.str x,H,I.tok _,⟨_,rfl⟩,h⟩
noncomputable def Gl (X:Cx) (x:Str):Prop:=X.env.kindOf x=some .globalImplicit
theorem DG {E:Value→Shared→Prop} {pins:List (Addr×Obj)} {s:Shared} {σ:St} {H:Hp} {x:Str} {u:Value} {pos:Pos} {Q:Value→Shared→Prop} (I:Inv X pins σ H s) (hg:Gl X x) (hm:X.mg x=some u) (h:Q u s)
  (hd:(x==("__debug__":Str))=false:=by decide):wpAny (model X.prog X.w) X.A (eval (.Name x pos) X.env) Q E s:=
 Calls.Name_function_global I.ok.kind hg (Calls.loadGlobal_global (by rw[I.ok.glob];exact I.mod.glob.keeps I.bk) hm h) hd
theorem Ik {E:Value→Shared→Prop} {pins:List (Addr×Obj)} {s:Shared} {σ:St} {H:Hp} {x:Str} {u:Value} {pos:Pos} {Q:Value→Shared→Prop} (I:Inv X pins σ H s) (hg:Gl X x) (hm:X.mg x=none) (hv:bootBuiltins x=some u) (h:Q u s)
  (hn:x≠"__name__":=by decide) (hd:(x==("__debug__":Str))=false:=by decide):wpAny (model X.prog X.w) X.A (eval (.Name x pos) X.env) Q E s:=by
 obtain⟨mb,h1,h2⟩:=I.mod.blt
 exact Calls.Name_function_global I.ok.kind hg (Calls.loadGlobal_builtin (by rw[I.ok.glob];exact I.mod.glob.keeps I.bk) hm (by rw[I.ok.blt];exact h1.keeps I.bk) ((h2 x hn).trans hv) h) hd
theorem Mu {x:Str} {v:V} {u:Value} {pos:Pos} (hg:Gl X x) (hm:X.mg x=some u) (r:RelV v u) (hd:(x==("__debug__":Str))=false:=by decide):PE X (.Name x pos) (tC v):=
 fun _ _ _ H _ I h=>DG I hg hm ⟨v,H,I,r,h⟩ hd
variable {a b:Expr} {ta tb:TE} {pos:Pos}
noncomputable def PC (X:Cx) (op:CmpOp) (a b:Expr) (t:TE):Prop:=
 ∀(pins:List (Addr×Obj)) (s:Shared) (σ:St) (H:Hp) (Q:VK),Inv X pins σ H s→t σ H Q →
  wpAny (model X.prog X.w) X.A (eval a X.env) (fun v s₁=>wpAny (model X.prog X.w) X.A (eval b X.env) (fun u s₂=>wpAny (model X.prog X.w) X.A (compareOp op v u) (EP X pins σ Q) X.xe s₂) X.xe s₁) X.xe s
theorem PL (b:Expr) {op:CmpOp} (h:op≠.In) (h2:op≠.NotIn):behindInMarks op b=false:=by
 have e1:(op==CmpOp.In)=false:=by cases op<;>first | rfl | exact absurd rfl h
 have e2:(op==CmpOp.NotIn)=false:=by cases op<;>first | rfl | exact absurd rfl h2
 cases b<;>simp[behindInMarks,e1,e2]
@[reducible] noncomputable def T7 (ta:TE):TE:=fun σ H Q=>ta σ H fun x H1=>Q (.bl (decide (x=.dh))) H1
@[reducible] noncomputable def R3 (ta:TE):TE:=fun σ H Q=>ta σ H fun x H1=>Q (.bl (!decide (x=.dh))) H1
theorem RelV.JT {x:V} {v:Value} (r:RelV x v):(v==Value.none)=decide (x=.dh):=by
 cases x with
 | dh=>cases r;rfl
 | bl _=>cases r;rfl
 | int _=>obtain⟨t,rfl⟩:=r;rfl
 | str _=>obtain⟨t,rfl⟩:=r;rfl
 | IU _=>obtain⟨t,rfl⟩:=r;rfl
 | Uy _=>obtain⟨t,rfl⟩:=r;rfl
 | ref _=>cases r;rfl
 | ty _=>cases r;rfl
theorem Pz {j pos'} (ha:PE X a ta):PC X .Is a (.Constant .none j pos') (T7 ta):=by
 intro pins s σ H Q I h
 refine gr (ha pins s σ H _ I h) fun v s1 ⟨x,H1,I1,r1,q1⟩=>?_
 exact Constant_none (is_none_gen ⟨.bl _,H1,I1,by rw[r1.JT];rfl,q1⟩)
theorem Mv {j pos'} (ha:PE X a ta):PC X .IsNot a (.Constant .none j pos') (R3 ta):=by
 intro pins s σ H Q I h
 refine gr (ha pins s σ H _ I h) fun v s1 ⟨x,H1,I1,r1,q1⟩=>?_
 exact Constant_none (isnot_none_gen ⟨.bl _,H1,I1,by rw[r1.JT];rfl,q1⟩)
@[reducible] noncomputable def tB (t:TE):TT:=fun σ H Q=>t σ H fun x H1=>∃c,x=.bl c∧Q c H1
theorem HQ {op:CmpOp} {t:TE} (h:PC X op a b t) (h1:behindInMarks op b=false:=by first | exact PL _ (by decide) (by decide) | rfl):PT X (.Compare a [op] [b] pos) (tB t):=by
 intro pins s σ H Q I hw
 refine wpAny_isTrue_Compare1 (gr (h pins s σ H _ I hw) fun v s1 h1=>gr h1 fun u s2 h2=>gr h2 fun c s3 ⟨x,H1,I1,r1,q1⟩=>?_) h1
 obtain⟨d,rfl,q⟩:=q1
 cases r1
 exact wpAny_truthy_bool ⟨H1,I1,q⟩
theorem ly {e:Expr} {t:TE} (h:PE X e t) (he:∀whole,isTrue e X.env whole=(do let v ←whole;standAt e.pos;holding [v] (truthy v)):=by intro _;rfl):PT X e (tB t):=by
 intro pins s σ H Q I hw
 refine isTrue_plain (gr (h pins s σ H _ I hw) fun v s1 ⟨x,H1,I1,r1,q1⟩=>?_) (he _)
 obtain⟨d,rfl,q⟩:=q1
 cases r1
 exact wpAny_truthy_bool ⟨H1,I1,q⟩
variable {tA tB':TT} {rest:List Expr}
@[reducible] noncomputable def Ua (t u:TT):TT:=fun σ H Q=>t σ H fun c H1=>if c=true then u σ H1 Q else Q false H1
@[reducible] noncomputable def VB (t u:TT):TT:=fun σ H Q=>t σ H fun c H1=>if c=true then Q true H1 else u σ H1 Q
@[reducible] noncomputable def T4 (t:TT):TT:=fun σ H Q=>t σ H fun c H1=>Q (!c) H1
theorem zY (ha:PT X a tA):PW X (.BoolOp .And [a] pos) tA:=by
 intro wh pins s σ H Q I h
 refine isTrue_and (gr (ha pins s σ H Q I h) fun c s1 e=>?_)
 cases c with
 | true=>exact isTrue_and_nil e
 | false=>exact e
theorem Ls (ha:PT X a tA):PW X (.BoolOp .Or [a] pos) tA:=by
 intro wh pins s σ H Q I h
 refine isTrue_or (gr (ha pins s σ H Q I h) fun c s1 e=>?_)
 cases c with
 | false=>exact isTrue_or_nil e
 | true=>exact e
theorem Es (ha:PT X a tA) (hb:PW X (.BoolOp .And (b::rest) pos) tB'):PW X (.BoolOp .And (a::b::rest) pos) (Ua tA tB'):=by
 intro wh pins s σ H Q I h
 refine isTrue_and (gr (ha pins s σ H _ I h) fun c s1 ⟨H1,I1,q1⟩=>?_)
 cases c with
 | true=>exact hb wh pins s1 σ H1 Q I1 q1
 | false=>exact⟨H1,I1,q1⟩
theorem Mo (ha:PT X a tA) (hb:PW X (.BoolOp .Or (b::rest) pos) tB'):PW X (.BoolOp .Or (a::b::rest) pos) (VB tA tB'):=by
 intro wh pins s σ H Q I h
 refine isTrue_or (gr (ha pins s σ H _ I h) fun c s1 ⟨H1,I1,q1⟩=>?_)
 cases c with
 | true=>exact⟨H1,I1,q1⟩
 | false=>exact hb wh pins s1 σ H1 Q I1 q1
theorem jU (ha:PT X a tA):PT X (.UnaryOp .Not a pos) (T4 tA):=by
 intro pins s σ H Q I h
 exact isTrue_not (ha pins s σ H (fun c H1=>Q (!c) H1) I h)
@[reducible] noncomputable def R9 (ta tb:TE):TE:=fun σ H Q=>ta σ H fun x H1=>∃c,x=.bl c∧if c=true then tb σ H1 Q else Q (.bl false) H1
@[reducible] noncomputable def T2 (ta tb:TE):TE:=fun σ H Q=>ta σ H fun x H1=>∃c,x=.bl c∧if c=true then Q (.bl true) H1 else tb σ H1 Q
@[reducible] noncomputable def R1 (ta:TE):TE:=fun σ H Q=>ta σ H fun x H1=>∃c,x=.bl c∧Q (.bl (!c)) H1
theorem yQ {op} {t:TE} (h:PE X a t):PE X (.BoolOp op [a] pos) t:=fun pins s σ H Q I hw=>BoolOp_one (h pins s σ H Q I hw)
theorem Lx (ha:PE X a ta) (hb:PE X (.BoolOp .And (b::rest) pos) tb):PE X (.BoolOp .And (a::b::rest) pos) (R9 ta tb):=by
 intro pins s σ H Q I h
 refine BoolOp_and (gr (ha pins s σ H _ I h) fun v s1 ⟨x,H1,I1,r1,q1⟩=>?_)
 obtain⟨c,rfl,q1⟩:=q1
 cases r1
 refine wpAny_truthy_bool ?_
 cases c with
 | true=>exact hb pins s1 σ H1 Q I1 q1
 | false=>exact⟨.bl false,H1,I1,rfl,q1⟩
theorem Mt (ha:PE X a ta) (hb:PE X (.BoolOp .Or (b::rest) pos) tb):PE X (.BoolOp .Or (a::b::rest) pos) (T2 ta tb):=by
 intro pins s σ H Q I h
 refine BoolOp_or (gr (ha pins s σ H _ I h) fun v s1 ⟨x,H1,I1,r1,q1⟩=>?_)
 obtain⟨c,rfl,q1⟩:=q1
 cases r1
 refine wpAny_truthy_bool ?_
 cases c with
 | false=>exact hb pins s1 σ H1 Q I1 q1
 | true=>exact⟨.bl true,H1,I1,rfl,q1⟩
theorem SR (ha:PE X a ta):PE X (.UnaryOp .Not a pos) (R1 ta):=by
 intro pins s σ H Q I h
 refine UnaryOp_ (gr (ha pins s σ H _ I h) fun v s1 ⟨x,H1,I1,r1,q1⟩=>?_)
 obtain⟨c,rfl,q1⟩:=q1
 cases r1
 exact not_of (wpAny_truthy_bool ⟨.bl (!c),H1,I1,rfl,q1⟩)
@[reducible] noncomputable def VC (t:TT) (ta tb:TE):TE:=fun σ H Q=>t σ H fun c H1=>if c=true then ta σ H1 Q else tb σ H1 Q
theorem JJ {c:Expr} (hc:PT X c tA) (ha:PE X a ta) (hb:PE X b tb):PE X (.IfExp c a b pos) (VC tA ta tb):=by
 intro pins s σ H Q I h
 refine wpAny_IfExp (gr (hc pins s σ H _ I h) fun d s1 ⟨H1,I1,q1⟩=>?_)
 cases d with
 | true=>exact ha pins s1 σ H1 Q I1 q1
 | false=>exact hb pins s1 σ H1 Q I1 q1
end
end L2
namespace L2
open PySem PySem.Spec PyProof.Rows
noncomputable def aM (K:PySem.W.Frag) (H:Hp) (a:Addr) (xs:List V):Prop:=
 Rd H a (.lst xs) ∨
  ∃(o:Obj) (its:Array Value) (n:Nat),K.lookup a=some o∧o.cls=.type "list"∧o.dict=none∧o.data=.seq its n∧its.size≤sizeLine∧Vals xs its.toList
noncomputable def GH (K:PySem.W.Frag) (H:Hp) (a:Addr) (xs:List V):Prop:=
 Rd H a (.tup xs) ∨
  ∃(o:Obj) (its:Array Value) (n:Nat),K.lookup a=some o∧o.cls=.type "tuple"∧o.data=.seq its n∧its.size≤sizeLine∧Vals xs its.toList
noncomputable def Vs :Value→Option V
 | .none=>some .dh
 | .bool b=>some (.bl b)
 | .int i _=>some (.int i)
 | .str x _=>some (.str x)
 | .bytes b _=>some (.IU b)
 | .float b _=>some (.Uy b)
 | .ref a=>some (.ref a)
 | .type n=>some (.ty n)
 | _=>none
theorem RelV.abs {x:V} {u:Value} (r:RelV x u):Vs u=some x:=by
 cases x with
 | dh=>cases r;rfl
 | bl _=>cases r;rfl
 | int _=>obtain⟨t,rfl⟩:=r;rfl
 | str _=>obtain⟨t,rfl⟩:=r;rfl
 | IU _=>obtain⟨t,rfl⟩:=r;rfl
 | Uy _=>obtain⟨t,rfl⟩:=r;rfl
 | ref _=>cases r;rfl
 | ty _=>cases r;rfl
theorem RelV.inj {x y:V} {u:Value} (r:RelV x u) (q:RelV y u):x=y:=Option.some.inj (r.abs.symm.trans q.abs)
theorem Vals.inj :∀{xs ys:List V} {us:List Value},Vals xs us→Vals ys us→xs=ys
 | _,_,_,.nil,.nil=>rfl
 | _,_,_,.cons r t,.cons r' t'=>by rw[r.inj r',Vals.inj t t']
section
variable {X:Cx} {pins:List (Addr×Obj)} {σ:St} {H:Hp} {s:Shared} {a:Addr} {xs ys:List V}
theorem aM.of {K:PySem.W.Frag} (h:H a=some (.lst xs)):aM K H a xs:=.inl (.inl h)
theorem GH.of {K:PySem.W.Frag} (h:H a=some (.tup xs)):GH K H a xs:=.inl (.inl h)
theorem Inv.list (I:Inv X pins σ H s) (h:aM X.K H a xs):∃its:List Value,Vals xs its∧PlainL s.heap a its.toArray∧xs.length≤sizeLine:=by
 rcases h with h | ⟨o,its,n,hk,hc,hd,hs,hz,r⟩
 ·obtain⟨z,its,n,r,e⟩:=h.ok I.dN
  exact⟨its,r,⟨_,n,e,rfl,rfl,rfl⟩,z⟩
 ·refine⟨its.toList,r,⟨o,n,I.LP a o hk,hc,hd,by simpa using hs⟩,?_⟩
  have e:=r.length
  simp only[Array.length_toList] at e
  omega
theorem Inv.tuple (I:Inv X pins σ H s) (h:GH X.K H a xs):∃its:List Value,Vals xs its∧IsTup s.heap a its.toArray∧xs.length≤sizeLine:=by
 rcases h with h | ⟨o,its,n,hk,hc,hs,hz,r⟩
 ·obtain⟨z,its,r,p⟩:=h.ok I.dN
  exact⟨its,r,p,z⟩
 ·refine⟨its.toList,r,⟨o,I.LP a o hk,hc,n,by simpa using hs⟩,?_⟩
  have e:=r.length
  simp only[Array.length_toList] at e
  omega
theorem Inv.Av (I:Inv X pins σ H s) (h:aM X.K H a xs) (h':aM X.K H a ys):xs=ys:=by
 obtain⟨its,r,⟨o,n,e,_,_,d⟩,_⟩:=I.list h
 obtain⟨its',r',⟨o',n',e',_,_,d'⟩,_⟩:=I.list h'
 rw[e] at e';cases e'
 rw[d] at d'
 injection d' with d1 _
 have :its=its':=by simpa using congrArg Array.toList d1
 subst this
 exact r.inj r'
end
noncomputable abbrev Cx.FO (X:Cx) (E:Value→Shared→Prop):Cx:={ X with xe:=E }
noncomputable abbrev Cx.UZ (X:Cx):Cx:=X.FO fun _ _=>False
theorem Cx.Ok.FO {X:Cx} (ok:X.Ok) (E:Value→Shared→Prop):(X.FO E).Ok:=
 ⟨ok.mod,ok.kind,ok.glob,ok.blt,ok.above,ok.inj,ok.has,ok.UG,ok.hd,ok.frames,ok.UU,ok.U1,ok.bs,ok.RL,ok.PK,ok.Qi,ok.Dl,ok.Tf⟩
theorem Cx.Ok.vi {X:Cx} {E:Value→Shared→Prop} (ok:(X.FO E).Ok):X.Ok:=
 ⟨ok.mod,ok.kind,ok.glob,ok.blt,ok.above,ok.inj,ok.has,ok.UG,ok.hd,ok.frames,ok.UU,ok.U1,ok.bs,ok.RL,ok.PK,ok.Qi,ok.Dl,ok.Tf⟩
section
variable {X:Cx} {pins:List (Addr×Obj)} {σ:St} {H:Hp} {s:Shared} {E:Value→Shared→Prop}
theorem Inv.FO (I:Inv X pins σ H s) (E:Value→Shared→Prop):Inv (X.FO E) pins σ H s:=⟨I.ok.FO E,I.os,I.bare,I.base,I.loc,I.cell,I.free,I.vQ,I.pin,I.dN,I.len⟩
theorem Inv.vi (I:Inv (X.FO E) pins σ H s):Inv X pins σ H s:=⟨I.ok.vi,I.os,I.bare,I.base,I.loc,I.cell,I.free,I.vQ,I.pin,I.dN,I.len⟩
theorem SP.vi {D:Ends} {f:Flow} {s':Shared} (h:SP (X.FO E) pins D f s'):SP X pins D f s':=by
 cases f with
 | next=>obtain⟨σ',H',I,q⟩:=h;exact⟨σ',H',I.vi,q⟩
 | brk=>obtain⟨σ',H',I,q⟩:=h;exact⟨σ',H',I.vi,q⟩
 | cont=>obtain⟨σ',H',I,q⟩:=h;exact⟨σ',H',I.vi,q⟩
 | ret u=>obtain⟨v,σ',H',I,r,q⟩:=h;exact⟨v,σ',H',I.vi,r,q⟩
theorem Oz.UZ {st:List Stmt} {t:TS} (h:Oz X.UZ st t):Oz X st t:=fun pins s σ H D I hw=>
 wpAny_mono (h pins s σ H D (I.FO _) hw) (fun _ _ q=>q.vi) fun _ _ z=>False.elim z
end
section
variable {X:Cx} {st:Stmt} {rest:List Stmt} {t u:TS} {e:Expr} {te:TE} {pos:Pos}
@[reducible] noncomputable def R4 :TS:=fun D σ H=>D.nx σ H
@[reducible] noncomputable def TZ (t u:TS):TS:=fun D σ H=>t { D with nx:=u D } σ H
theorem ay :Oz X [] R4:=fun _ _ σ H _ I h=>wpAny_execs_nil ⟨σ,H,I,h⟩
theorem ab (h1:PS X st t) (h2:Oz X rest u):Oz X (st::rest) (TZ t u):=by
 intro pins s σ H D I h
 refine wpAny_execs_cons (gr (h1 pins s σ H { D with nx:=u D } I h) fun f s1 q=>?_)
 cases f with
 | next=>
  obtain⟨σ',H',I',q⟩:=q
  exact h2 pins s1 σ' H' D I' q
 | ret v=>exact q
 | brk=>exact q
 | cont=>exact q
theorem ag (h1:PS X st t):Oz X [st] t:=by
 intro pins s σ H D I h
 refine wpAny_execs_cons (gr (h1 pins s σ H D I h) fun f s1 q=>?_)
 cases f with
 | next=>exact wpAny_execs_nil q
 | ret v=>exact q
 | brk=>exact q
 | cont=>exact q
@[reducible] noncomputable def O4 :TS:=fun D σ H=>D.bk σ H
theorem Pr :PS X (.Break pos) O4:=fun _ _ σ H _ I h=>wpAny_Break ⟨σ,H,I,h⟩
theorem Inv.quiet {pins:List (Addr×Obj)} {σ:St} {H:Hp} {s:Shared} (I:Inv X pins σ H s):interactive X.env=false:=by simp[interactive,I.ok.kind]
@[reducible] noncomputable def R5 (te:TE):TS:=fun D σ H=>te σ H fun _ H1=>D.nx σ H1
theorem cy (he:PE X e te) (hs:swapsWith e none pos.line X.env=pure false:=by rfl):PS X (.Expr e pos) (R5 te):=by
 intro pins s σ H D I h
 exact wpAny_Expr_any (gr (he pins s σ H _ I h) fun v s1 ⟨x,H1,I1,r1,q1⟩=>⟨σ,H1,I1,q1⟩) I.quiet hs
@[reducible] noncomputable def T1 (te:TE):TS:=fun D σ H=>te σ H D.rt
theorem aq (he:PE X e te):PS X (.Return (some e) pos) (T1 te):=by
 intro pins s σ H D I h
 exact wpAny_Return_some (gr (he pins s σ H _ I h) fun v s1 ⟨x,H1,I1,r1,q1⟩=>⟨x,σ,H1,I1,r1,q1⟩)
@[reducible] noncomputable def T8 (c:TT) (t u:TS):TS:=fun D σ H=>c σ H fun b H1=>if b=true then t D σ H1 else u D σ H1
theorem aT {c:Expr} {a b:List Stmt} {tc:TT} (hc:PT X c tc) (ha:Oz X a t) (hb:Oz X b u):PS X (.If c a b pos) (T8 tc t u):=by
 intro pins s σ H D I h
 refine wpAny_If (gr (hc pins s σ H _ I h) fun d s1 ⟨H1,I1,q1⟩=>?_)
 cases d with
 | true=>exact ha pins s1 σ H1 D I1 q1
 | false=>exact hb pins s1 σ H1 D I1 q1
end
noncomputable abbrev TG :=V→St→Hp→(St→Hp→Prop)→Prop
noncomputable abbrev So :=List V→St→Hp→(St→Hp→Prop)→Prop
noncomputable def PG (X:Cx) (target:Expr) (t:TG):Prop:=
 ∀(pins:List (Addr×Obj)) (s:Shared) (σ:St) (H:Hp) (v:V) (u:Value) (Q:St→Hp→Prop),Inv X pins σ H s→RelV v u→t v σ H Q →
  wpAny (model X.prog X.w) X.A (assign target X.env u) (fun _ s'=>∃σ' H',Inv X pins σ' H' s'∧Q σ' H') X.xe s
noncomputable def UK (X:Cx) (ts:List Expr) (t:So):Prop:=
 ∀(pins:List (Addr×Obj)) (s:Shared) (σ:St) (H:Hp) (vs:List V) (us:List Value) (Q:St→Hp→Prop),Inv X pins σ H s→Vals vs us→t vs σ H Q →
  wpAny (model X.prog X.w) X.A (assignInOrder ((assignEach ts X.env).map (·.2)) us) (fun _ s'=>∃σ' H',Inv X pins σ' H' s'∧Q σ' H') X.xe s
noncomputable abbrev Tz :=V→V→V→Hp→(Hp→Prop)→Prop
noncomputable def UJ (X:Cx) (t:Tz):Prop:=
 ∀(pins:List (Addr×Obj)) (s:Shared) (σ:St) (H:Hp) (o i v:V) (ov iv u:Value) (Q:Hp→Prop),Inv X pins σ H s→RelV o ov→RelV i iv→RelV v u→t o i v H Q →
  wpAny (model X.prog X.w) X.A (setItem ov iv u) (fun _ s'=>∃H',Inv X pins σ H' s'∧Q H') X.xe s
section
variable {X:Cx} {pos:Pos}
@[reducible] noncomputable def Qg (i:Nat):TG:=fun v σ H Q=>Q (σ.set i (some v)) H
theorem bC {i:Nat} {x:Str} (hN:X.N.Nodup) (hi:X.N[i]?=some x) (hx:Loc X.env.scope x) (hf:X.fn x=true∨X.env.scope.names.lookup x=some .local:=by first | exact .inl rfl | exact .inr rfl | assumption):PG X (.Name x pos) (Qg i):=by
 intro pins s σ H v u Q I r h
 exact wpAny_assign_Name (Jr I hN hi hx r (fun s' I'=>⟨_,H,I',h⟩) hf)
@[reducible] noncomputable def Uu :So:=fun vs σ H Q=>vs=[]∧Q σ H
@[reducible] noncomputable def Sj (t:TG) (u:So):So:=fun vs σ H Q=>∃v r,vs=v::r∧t v σ H fun σ' H'=>u r σ' H' Q
theorem wN :UK X [] Uu:=by
 intro pins s σ H vs us Q I r h
 obtain⟨e,h⟩:=h
 subst e
 cases r
 exact assignInOrder_nil ⟨σ,H,I,h⟩
theorem g5 {e:Expr} {es:List Expr} {t:TG} {u:So} (h1:PG X e t) (h2:UK X es u)
  (hs:(assignEach (e::es) X.env).map (·.2)=assign e X.env::(assignEach es X.env).map (·.2):=by rfl):UK X (e::es) (Sj t u):=by
 intro pins s σ H vs us Q I r h
 obtain⟨v,vr,e1,h⟩:=h
 subst e1
 cases r with
 | cons r rr=>
  rw[hs]
  refine assignInOrder_cons (gr (h1 pins s σ H _ _ _ I r h) fun _ s1 ⟨σ1,H1,I1,q1⟩=>?_)
  exact h2 pins s1 σ1 H1 _ _ Q I1 rr q1
@[reducible] noncomputable def Te (K:PySem.W.Frag) (n:Nat) (t:So):TG:=fun v σ H Q=>∃a xs,v=.ref a∧GH K H a xs∧xs.length=n∧t xs σ H Q
theorem SO {es:List Expr} {k:Nat} {t:So} {n:Nat} (hc:X.calm=true) (h:UK X es t)
  (hn:(assignEach es X.env).length=n:=by rfl) (hst:(assignEach es X.env).findIdx? (·.1)=none:=by rfl):PG X (.Tuple es k pos) (Te X.K n t):=by
 intro pins s σ H v u Q I r hw
 obtain⟨a,xs,e1,hq,hl,hw⟩:=hw
 subst e1
 cases r
 obtain⟨its,rv,ht,hz⟩:=I.tuple hq
 refine assign_Tuple_tuple (I.ok.hd hc) ht (by simp[hn,←hl,rv.length]) hst fun h' hx=>?_
 have I1:Inv X pins σ H { s with heap:=h' }:=I.kept (t':=s.toks) fun b o e=>hx b o (Nat.ne_of_lt (Heap.lt_size e)) e
 exact h pins _ σ H xs _ Q I1 (by simpa using rv) hw
@[reducible] noncomputable def Ut (to ti:TE) (t:Tz):TG:=fun v σ H Q=>to σ H fun o H1=>ti σ H1 fun i H2=>t o i v H2 fun H3=>Q σ H3
theorem Pw {o i:Expr} {to ti:TE} {t:Tz} (ho:PE X o to) (hi:PE X i ti) (hs:UJ X t)
  (ha:∀v,assign (.Subscript o i pos) X.env v=(do
   let ov ←holding [v] (eval o X.env)
   let iv ←holding [v,ov] (eval i X.env)
   standAt pos
   holding [v,ov,iv] (setItem ov iv v)
   release [v,ov,iv] []):=by intro _;rfl):PG X (.Subscript o i pos) (Ut to ti t):=by
 intro pins s σ H v u Q I r h
 rw[ha]
 refine wpAny_bind (wpAny_holding (gr (ho pins s σ H _ I h) fun ov s1 ⟨x,H1,I1,r1,q1⟩=>?_))
 refine wpAny_bind (wpAny_holding (gr (hi pins s1 σ H1 _ I1 q1) fun iv s2 ⟨y,H2,I2,r2,q2⟩=>?_))
 refine wpAny_bind (wpAny_standAt (wpAny_bind (wpAny_holding (gr (hs pins s2 σ H2 x y v ov iv u _ I2 r1 r2 r q2) fun _ s3 ⟨H3,I3,q3⟩=>?_))))
 exact wpAny_release ⟨σ,H3,I3,q3⟩
@[reducible] noncomputable def SD (te:TE) (g:TG):TS:=fun D σ H=>te σ H fun x H1=>g x σ H1 D.nx
theorem Pt {tg e:Expr} {te:TE} {g:TG} (he:PE X e te) (hg:PG X tg g) (hs:swapsWithSole [tg] e pos.line X.env=pure false:=by rfl) (hw:swappedStores [tg] e X.env=pure none:=by rfl)
  (h1:(assignEach [tg] X.env).map (·.2)=[assign tg X.env]:=by rfl):PS X (.Assign [tg] e pos) (SD te g):=by
 intro pins s σ H D I h
 refine wpAny_Assign_stores (gr (he pins s σ H _ I h) fun v s1 ⟨x,H1,I1,r1,q1⟩=>?_) hs hw
 rw[h1]
 exact gr (hg pins s1 σ H1 x v _ I1 r1 q1) fun _ s2 q=>q
theorem bb {i:Nat} {x:Str} {e:Expr} {te:TE} {pos':Pos} (hN:X.N.Nodup) (hi:X.N[i]?=some x) (hx:Loc X.env.scope x) (he:PE X e te) (hs:swapsWith e (some (.Name x pos')) pos.line X.env=pure false:=by rfl) (hf:X.fn x=true∨X.env.scope.names.lookup x=some .local:=by first | exact .inl rfl | exact .inr rfl | assumption) :
  PS X (.Assign [.Name x pos'] e pos) (SD te (Qg i)):=by
 intro pins s σ H D I h
 refine wpAny_Assign_Name (gr (he pins s σ H _ I h) fun v s1 ⟨y,H1,I1,r1,q1⟩=>?_) hs
 exact Jr I1 hN hi hx r1 (fun s2 I2=>⟨_,H1,I2,q1⟩) hf
end
section
variable {X:Cx} {pos:Pos}
noncomputable def Sx (c:TT) (tb:TS):TS:=fun D σ H=>∃W:Nat→St→Hp→Prop,(∃m,W m σ H)∧∀m σ H,W m σ H →
 c σ H fun b H1=>if b=true then ∃N:St→Hp→Prop,(∀σ' H',N σ' H'→∃m',m'<m∧W m' σ' H')∧tb { D with nx:=N,ct:=N,bk:=D.nx } σ H1 else D.nx σ H1
theorem JG {c:Expr} {body:List Stmt} {tc:TT} {tb:TS} (hp:PassesOwn (model X.prog X.w) X.A X.env X.xe) (hc:PT X c tc) (hb:Oz X body tb):PS X (.While c body [] pos) (Sx tc tb):=by
 intro pins s σ H D I h
 obtain⟨W,⟨m0,w0⟩,turn⟩:=h
 refine wpAny_While (codeAny_whileLoop (fun n s'=>∃σ' H',Inv X pins σ' H' s'∧W n σ' H') ?_ m0 ⟨σ,H,I,w0⟩)
 rintro n s1 ⟨σ1,H1,I1,w1⟩
 refine wpAny_passesOwn hp (gr (hc pins s1 σ1 H1 _ I1 (turn n σ1 H1 w1)) fun b s2 ⟨H2,I2,q2⟩=>?_)
 cases b with
 | true=>
  obtain⟨N,hN,q2⟩:=q2
  rw[if_pos rfl]
  refine wpAny_passesOwn hp (gr (hb pins s2 σ1 H2 _ I2 q2) fun f s3 q3=>?_)
  cases f with
  | next=>
   obtain⟨σ3,H3,I3,n3⟩:=q3
   obtain⟨m',hm,w3⟩:=hN σ3 H3 n3
   exact⟨m',hm,σ3,H3,I3,w3⟩
  | cont=>
   obtain⟨σ3,H3,I3,n3⟩:=q3
   obtain⟨m',hm,w3⟩:=hN σ3 H3 n3
   exact⟨m',hm,σ3,H3,I3,w3⟩
  | brk=>exact q3
  | ret v=>exact q3
 | false=>
  rw[if_neg Bool.false_ne_true]
  exact wpAny_execs_nil ⟨σ1,H2,I2,q2⟩
end
structure It where
 go :Nat→Hp→Prop
 RX :Nat→Hp→V→Hp→Prop
 stop :Nat→Hp→Prop
noncomputable def Dz (X:Cx) (pins:List (Addr×Obj)) (H:Hp) (b:Addr):Prop:=
 H b=none∧b≠X.env.locals∧b∉X.fs∧(b∈X.ex∨X.GU.heap.objs.size≤b)∧(∀x c,X.env.cells.lookup x=some c→c≠b)∧∀p∈X.pn++pins,p.1≠b
theorem Inv.Oa {X:Cx} {pins:List (Addr×Obj)} {σ:St} {H H':Hp} {s:Shared} {b:Addr} (I:Inv X pins σ H s) (hb:s.heap.objs.size≤b) (hn:H' b=none):Dz X pins H' b:=by
 refine⟨hn,Nat.ne_of_gt (Nat.lt_of_lt_of_le I.lt hb),I.Vi hb,.inr (Nat.le_trans I.sz hb),fun x c e z=>?_,fun p hp z=>?_⟩
 ·obtain⟨v,q⟩:=I.cell x c e
  exact absurd (Nat.lt_of_lt_of_le q.lt (by rw[z];exact hb)) (Nat.lt_irrefl _)
 ·exact absurd (Nat.lt_of_lt_of_le (Heap.lt_size (I.pin p hp).1) (by rw[z];exact hb)) (Nat.lt_irrefl _)
structure Turn (P:Program) (w:World) (K:PySem.W.Frag) (tg:Expr) (J:It) (fp:List Addr) (it:Addr) (tn:Nat→Heap→Prop):Prop where
 mem :it∈fp
 obj :∀i h,tn i h→∀b∈fp,∃o,h.get? b=some o∧∀v,o.data≠.cell v
 keep :∀i h h',tn i h→(∀b∈fp,∀o,h.get? b=some o→h'.get? b=some o)→tn i h'
 item :∀(X:Cx),X.prog=P→X.w=w→X.K=K→X.calm=true→∀(i:Nat) (pins:List (Addr×Obj)) (s:Shared) (σ:St) (H:Hp) (E:Value→Shared→Prop),Inv X pins σ H s→(∀b∈fp,Dz X pins H b)→tn i s.heap→J.go i H →
  wpAny (model P w) X.A (pyNext (.ref it)) (fun r s1=>∃u,r=some u ∧
   wpAny (model P w) X.A (letOwnedTupleGo tg (.ref it) u) (fun _ s2=>∃x H',Inv X pins σ H' s2∧RelV x u∧J.RX i H x H'∧tn (i+1) s2.heap∧∀b∈fp,H' b=none) E s1) E s
 done :∀(X:Cx),X.prog=P→X.w=w→X.K=K→X.calm=true→∀(i:Nat) (pins:List (Addr×Obj)) (s:Shared) (σ:St) (H:Hp) (E:Value→Shared→Prop),Inv X pins σ H s→(∀b∈fp,Dz X pins H b)→tn i s.heap→J.stop i H →
  wpAny (model P w) X.A (pyNext (.ref it)) (fun r s1=>r=none∧Inv X pins σ H s1) E s
 self :∀(A:Around) (i:Nat) (s:Shared) (Q:Value→Shared→Prop) (E:Value→Shared→Prop),tn i s.heap→Q (.ref it) s→wpAny (model P w) A (pyIter (.ref it)) Q E s
noncomputable abbrev TI :=St→Hp→(It→Hp→Prop)→Prop
noncomputable def Vv (X:Cx) (pins:List (Addr×Obj)) (σ:St) (tg:Expr) (R:It→Hp→Prop) (itv:Value) (s2:Shared):Prop:=
 ∃(it:Addr) (fp:List Addr) (tn:Nat→Heap→Prop) (J:It) (H':Hp),itv=.ref it∧Inv X pins σ H' s2∧Turn X.prog X.w X.K tg J fp it tn∧tn 0 s2.heap∧(∀b∈fp,Dz X pins H' b)∧R J H'
noncomputable def PI (X:Cx) (tg iter:Expr) (wi:TI):Prop:=
 ∀(pins:List (Addr×Obj)) (s:Shared) (σ:St) (H:Hp) (R:It→Hp→Prop),Inv X pins σ H s→wi σ H R →
  wpAny (model X.prog X.w) X.A (eval iter X.env) (fun v s1=>wpAny (model X.prog X.w) X.A (pyIter v) (Vv X pins σ tg R) X.xe s1) X.xe s
theorem Qc {M:Model} {A:Around} {E:Value→Shared→Prop} {s:Shared} {tg:Expr} {it:Addr} {u:Value} {o:Obj} {n:String} {vs:Array Value} {Q:Unit→Shared→Prop} (ho:s.heap.get? it=some o) (hc:o.cls=.type n) (hd:o.data=.fields vs)
  (hn:["enumerate","zip","dict_itemiterator","dict_reverseitemiterator","odict_iterator","itertools.zip_longest","itertools.pairwise"].contains n=false) (hQ:Q () s):wpAny M A (letOwnedTupleGo tg (.ref it) u) Q E s:=by
 unfold letOwnedTupleGo
 cases tg<;>first
  | exact wpAny_pure hQ
  | (cases u<;>first
    | exact wpAny_pure hQ
    | (refine wpAny_bind (wpAny_load ho ?_)
       rw[hc,hd]
       show wpAny M A (if (["enumerate","zip","dict_itemiterator","dict_reverseitemiterator","odict_iterator","itertools.zip_longest","itertools.pairwise"].contains n&&vs[0]?==some (rawInt _))=true then _ else _) Q E s
       rw[if_neg (by intro h;rw[hn,Bool.false_and] at h;cases h)]
       exact wpAny_pure hQ))
noncomputable def RT (K:PySem.W.Frag) (a:Addr):It:=
 ⟨fun i H=>∃xs x,aM K H a xs∧xs[i]?=some x,fun i H x H'=>H'=H∧∀xs,aM K H a xs→xs[i]?=some x,fun i H=>∃xs,aM K H a xs∧xs.length≤i⟩
noncomputable def Sr (lo:Int) (n:Nat):It:=⟨fun i _=>i<n,fun i H x H'=>H'=H∧x=.int (lo+i),fun i _=>n≤i⟩
theorem M7 {P:Program} {w:World} {K:PySem.W.Frag} {tg:Expr} (a it:Addr):Turn P w K tg (RT K a) [it] it (fun i h=>h.IsListIter it a i) where
 mem:=by simp
 obj:=fun i h st b hb=>by
  have e:b=it:=by simpa using hb
  subst e
  obtain⟨o,e,c,d⟩:=st
  exact⟨o,e,fun v z=>by rw[d] at z;cases z⟩
 keep:=fun i h h' st k=>st.at fun o e=>k it (by simp) o e
 item:=by
  intro X hP hw hK hc i pins s σ H E I hf st hg
  subst hP hw hK
  obtain⟨xs,x,hq,hx⟩:=hg
  obtain⟨its,rv,p,hz⟩:=I.list hq
  obtain⟨u,hu,ru⟩:=rv.get hx
  obtain⟨f0,f1,f2,f3,f4,f5⟩:=hf it (by simp)
  refine wpAny_pyNext_list_item st p.isList (x:=u) (by simpa using hu) fun h' st' sb=>?_
  have I1:Inv X pins σ H { s with heap:=h' }:=I.turned (t':=s.toks) (fun b o hb e=>(sb.2 b hb).trans e) f0 f1 f3 f4 f5
  obtain⟨o,e,c,d⟩:=id st'
  exact⟨u,rfl,Qc (s:={ s with heap:=h' }) e c d (by decide) ⟨x,H,I1,ru,⟨rfl,fun ys hy=>by rw[I.Av hy hq];exact hx⟩,st',fun b hb=>(hf b hb).1⟩⟩
 done:=by
  intro X hP hw hK hc i pins s σ H E I hf st hg
  subst hP hw hK
  obtain⟨xs,hq,hx⟩:=hg
  obtain⟨its,rv,p,hz⟩:=I.list hq
  obtain⟨f0,f1,f2,f3,f4,f5⟩:=hf it (by simp)
  have hl:=rv.length
  exact wpAny_pyNext_list_end (I.ok.hd hc) st p.isList (by simp;omega) fun h' eb=>⟨rfl,I.turned (t':=s.toks) (fun b o hb e=>eb b o hb e) f0 f1 f3 f4 f5⟩
 self:=fun _ _ _ _ _ st h=>wpAny_pyIter_listiter st h
theorem K9 {P:Program} {w:World} {K:PySem.W.Frag} {tg:Expr} (it:Addr) (lo:Int) (n:Nat):Turn P w K tg (Sr lo n) [it] it (fun i h=>IsRangeIter h it (lo+(i:Nat) * 1) ((n:Int) - (i:Nat)) 1) where
 mem:=by simp
 obj:=fun i h st b hb=>by
  have e:b=it:=by simpa using hb
  subst e
  exact⟨_,st,fun v z=>by
   have z':Data.fields _=Data.cell v:=z
   cases z'⟩
 keep:=fun i h h' st k=>k it (by simp) _ st
 item:=by
  intro X hP hw hK hc i pins s σ H E I hf st hg
  subst hP hw hK
  obtain⟨f0,f1,f2,f3,f4,f5⟩:=hf it (by simp)
  have W:=Walks.range (prog:=X.prog) (w:=X.w) (I.ok.hd hc) it lo 1 n
  refine W.item i s _ _ hg st fun v h' tk hv st' kk=>?_
  obtain⟨t,rfl⟩:=hv
  have I1:Inv X pins σ H { s with heap:=h',toks:=tk }:=I.turned (fun b o hb e=>kk b o (by simpa using hb) e) f0 f1 f3 f4 f5
  refine⟨_,rfl,Qc (s:={ s with heap:=h',toks:=tk }) (n:="range_iterator") st' rfl rfl (by decide) ⟨.int (lo+i),H,I1,⟨t,?_⟩,⟨rfl,rfl⟩,st',fun b hb=>(hf b hb).1⟩⟩
  rw[Int.mul_one]
 done:=by
  intro X hP hw hK hc i pins s σ H E I hf st hg
  subst hP hw hK
  obtain⟨f0,f1,f2,f3,f4,f5⟩:=hf it (by simp)
  exact wpAny_pyNext_range_end (I.ok.hd hc) st (by have:n≤i:=hg;omega) fun h' eb=>⟨rfl,I.turned (t':=s.toks) (fun b o hb e=>eb b o hb e) f0 f1 f3 f4 f5⟩
 self:=fun _ _ _ _ _ st h=>wpAny_pyIter_rangeiter st h
end L2
namespace L2
open PySem PySem.Spec PyProof.Rows
section
variable {X:Cx} {tg:Expr}
noncomputable def P5 (K:PySem.W.Frag) (tl:TE):TI:=fun σ H R=>tl σ H fun x H1=>∃a,x=.ref a∧(∃xs,aM K H1 a xs)∧R (RT K a) H1
theorem dP {l:Expr} {tl:TE} (hl:PE X l tl):PI X tg l (P5 X.K tl):=by
 intro pins s σ H R I h
 refine gr (hl pins s σ H _ I h) fun v s1 ⟨x,H1,I1,r1,q1⟩=>?_
 obtain⟨a,e,⟨xs,hq⟩,q⟩:=q1
 subst e
 cases r1
 obtain⟨its,rv,p,hz⟩:=I1.list hq
 refine wpAny_pyIter_list p.isList ?_
 refine⟨s1.heap.objs.size,[s1.heap.objs.size],_,_,H1,rfl,I1.kept (t':=s1.toks) fun b o e=>Heap.get?_push_of_some _ e,M7 a _,⟨_,Heap.get?_push_size _ rfl,rfl,rfl⟩,fun b hb=>?_,q⟩
 have e:b=s1.heap.objs.size:=by simpa using hb
 subst e
 exact I1.Oa (Nat.le_refl _) (I1.dN.fresh (Nat.le_refl _))
theorem Pe {pins:List (Addr×Obj)} {σ:St} {H:Hp} {s:Shared} {R:It→Hp→Prop} {E:Value→Shared→Prop} {lo hi:Int} {t u v:Tok} {tk:Nat} (I:Inv X pins σ H s) (h1:-(2 ^ 62)≤lo) (h2:lo<2 ^ 62) (h3:-(2 ^ 62)≤hi) (h4:hi<2 ^ 62)
  (q:R (Sr lo (hi - lo).toNat) H):wpAny (model X.prog X.w) X.A (pyIter (.ref s.heap.objs.size)) (Vv X pins σ tg R) E { s with heap:=s.heap.push { cls:=.type "range",data:=.fields #[.int lo t,.int hi u,.int 1 v] },toks:=tk }:=by
 refine wpAny_pyIter_range (IsRange.new ..) (small_one h1 h2 h3 h4) ?_
 have I1:Inv X pins σ H { s with heap:=s.heap.push { cls:=.type "range",data:=.fields #[.int lo t,.int hi u,.int 1 v] },toks:=tk }:=I.kept fun b o e=>Heap.get?_push_of_some _ e
 refine⟨(s.heap.push { cls:=.type "range",data:=.fields #[.int lo t,.int hi u,.int 1 v] }).objs.size,[(s.heap.push { cls:=.type "range",data:=.fields #[.int lo t,.int hi u,.int 1 v] }).objs.size],_,_,H,rfl,
  I1.kept (t':=tk) fun b o e=>Heap.get?_push_of_some _ e,K9 _ lo (hi - lo).toNat,?_,fun b hb=>?_,q⟩
 ·have e1:lo+((0:Nat):Int) * 1=lo:=by simp
  have e2:(((hi - lo).toNat:Nat):Int) - ((0:Nat):Int)=Builtin.Range.rangeSize lo hi 1:=by rw[rangeSize_one];split<;>omega
  show IsRangeIter _ _ (lo+((0:Nat):Int) * 1) ((((hi - lo).toNat:Nat):Int) - ((0:Nat):Int)) 1
  rw[e1,e2]
  exact Heap.get?_push_size _ rfl
 ·have e:b=(s.heap.push { cls:=.type "range",data:=.fields #[.int lo t,.int hi u,.int 1 v] }).objs.size:=by simpa using hb
  subst e
  exact I1.Oa (Nat.le_refl _) (I1.dN.fresh (Nat.le_refl _))
noncomputable def P4 (ta:TA):TI:=fun σ H R=>ta σ H fun vs H1=>∃j:Int,vs=[.int j]∧-(2 ^ 62)≤j∧j<2 ^ 62∧R (Sr 0 j.toNat) H1
theorem GX {a:Expr} {ta:TA} {p pos:Pos} (hg:Gl X "range") (hm:X.mg "range"=none) (ha:PA X [a] ta) (hs:starEach [a] X.env=[(false,eval a X.env)]:=by rfl):PI X tg (.Call (.Name "range" p) [a] [] pos) (P4 ta):=by
 intro pins s σ H R I h
 refine Call_ (Ik I hg hm boot_range (PyProof.Rows.callWith_type1 (gr (ha pos pins s σ H _ I h) fun us s1 ⟨vs,H1,I1,r1,q1⟩=>?_) hs rfl))
 obtain⟨j,e,q1,q2,q⟩:=q1
 subst e
 cases r1 with
 | cons r rr=>
  cases rr
  obtain⟨t,rfl⟩:=r
  exact call_range_1 (Pe I1 (by omega) (by omega) q1 q2 (by simpa using q))
noncomputable def Gf (J:It) (g:TG) (tb:TS) (D:Ends) (σ:L2.St) (H:Hp):Prop:=∃W:Nat→Nat→L2.St→Hp→Prop,(∃m,W 0 m σ H)∧∀i m σ H,W i m σ H →
 (J.stop i H∧D.nx σ H)∨(J.go i H∧∃N:L2.St→Hp→Prop,(∀σ' H',N σ' H'→∃m',m'<m∧W (i+1) m' σ' H')∧∀x H',J.RX i H x H'→g x σ H' fun σ2 H2=>tb { D with nx:=N,ct:=N,bk:=D.nx } σ2 H2)
noncomputable def Nf (wi:TI) (g:TG) (tb:TS):TS:=fun D σ H=>wi σ H fun J H1=>Gf J g tb D σ H1
noncomputable def Eu (fp:List Addr) (h:Heap):List (Addr×Obj):=fp.filterMap fun b=>(h.get? b).map fun o=>(b,o)
theorem yZ {fp:List Addr} {h:Heap} {b:Addr} {o:Obj} (hb:b∈fp) (e:h.get? b=some o):(b,o)∈Eu fp h:=List.mem_filterMap.mpr ⟨b,hb,by rw[e];rfl⟩
theorem NO {fp:List Addr} {h:Heap} {p:Addr×Obj} (hp:p∈Eu fp h):p.1∈fp∧h.get? p.1=some p.2:=by
 obtain⟨b,hb,e⟩:=List.mem_filterMap.mp hp
 cases q:h.get? b with
 | none=>rw[q] at e;cases e
 | some o=>
  rw[q] at e
  have e':(b,o)=p:=Option.some.inj e
  subst e'
  exact⟨hb,q⟩
theorem Inv.pinned {pins:List (Addr×Obj)} {σ:St} {H:Hp} {s:Shared} {fp:List Addr} (I:Inv X pins σ H s) (hf:∀b∈fp,Dz X pins H b) (ho:∀b∈fp,∃o,s.heap.get? b=some o∧∀v,o.data≠.cell v):Inv X (pins++Eu fp s.heap) σ H s:=
 I.Ms fun p hp=>(List.mem_append.mp hp).elim (fun z=>I.pin p (List.mem_append_right _ z)) fun z=>by
  obtain⟨hb,e⟩:=NO z
  obtain⟨f0,f1,f2,_⟩:=hf p.1 hb
  obtain⟨o,e',d⟩:=ho p.1 hb
  rw[e] at e';cases e'
  exact⟨e,f0,f1,f2,d⟩
theorem Inv.zv {pins pl:List (Addr×Obj)} {σ:St} {H:Hp} {s:Shared} (I:Inv X (pins++pl) σ H s):Inv X pins σ H s:=I.Ms fun p hp=>I.pin p (List.mem_append_right _ (List.mem_append_left _ hp))
theorem oq {iter:Expr} {body:List Stmt} {wi:TI} {g:TG} {tb:TS} {pos:Pos} (hp:PassesOwn (model X.prog X.w) X.A X.env X.xe) (hc:X.calm=true) (hi:PI X tg iter wi) (hg:PG X tg g) (hb:Oz X body tb)
  (hs:∀x,foldedSetIterable iter X.env x=pure x:=by intro _;rfl):PS X (.For tg iter body [] pos) (Nf wi g tb):=by
 intro pins s σ H D I h
 refine wpAny_For (gr (hi pins s σ H _ I h) fun v s1 h1=>gr h1 fun itv s2 h2=>?_) hs
 obtain⟨it,fp,tn,J,H2,e,I2,T,st2,f2,W,⟨m0,w0⟩,turn⟩:=h2
 subst e
 have stat:∀{H':Hp},(∀b∈fp,H' b=none)→∀b∈fp,Dz X pins H' b:=fun hn b hb=>⟨hn b hb,(f2 b hb).2⟩
 refine codeAny_forLoop_any (fun n s'=>∃i σ' H',Inv X pins σ' H' s'∧tn i s'.heap∧(∀b∈fp,H' b=none)∧W i n σ' H') ?_ m0 ⟨0,σ,H2,I2,st2,fun b hb=>(f2 b hb).1,w0⟩
 rintro n s3 ⟨i,σ3,H3,I3,st3,fr3,w3⟩
 rcases turn i n σ3 H3 w3 with ⟨stop,qn⟩ | ⟨go,N,hN,step⟩
 ·refine wpAny_passesOwn hp (gr (T.done X rfl rfl rfl hc i pins s3 σ3 H3 X.xe I3 (stat fr3) st3 stop) fun r s4 ⟨hr,I4⟩=>?_)
  subst hr
  exact wpAny_execs_nil ⟨σ3,H3,I4,qn⟩
 ·refine wpAny_passesOwn hp (gr (T.item X rfl rfl rfl hc i pins s3 σ3 H3 X.xe I3 (stat fr3) st3 go) fun r s4 ⟨u,hr,h4⟩=>?_)
  subst hr
  refine wpAny_passesOwn hp (gr h4 fun _ s5 ⟨x,H5,I5,r5,y5,st5,fr5⟩=>?_)
  have I5':=I5.pinned (stat fr5) (T.obj _ _ st5)
  refine wpAny_passesOwn hp (gr (hg _ s5 σ3 H5 x u _ I5' r5 (step x H5 y5)) fun _ s6 ⟨σ6,H6,I6,q6⟩=>?_)
  refine wpAny_passesOwn hp (gr (hb _ s6 σ6 H6 _ I6 q6) fun f s7 q7=>?_)
  have again:∀{σ7:St} {H7:Hp},Inv X (pins++Eu fp s5.heap) σ7 H7 s7→N σ7 H7→∃m,m<n∧∃i σ' H',Inv X pins σ' H' s7∧tn i s7.heap∧(∀b∈fp,H' b=none)∧W i m σ' H':=fun {σ7 H7} I7 n7=>by
   obtain⟨m',hm,w7⟩:=hN σ7 H7 n7
   refine⟨m',hm,i+1,σ7,H7,I7.zv,T.keep _ _ _ st5 fun b hb o e=>(I7.pin (b,o) (List.mem_append_right _ (List.mem_append_right _ (yZ hb e)))).1,fun b hb=>?_,w7⟩
   obtain⟨o,e,d⟩:=T.obj _ _ st5 b hb
   exact (I7.pin (b,o) (List.mem_append_right _ (List.mem_append_right _ (yZ hb e)))).2.1
  cases f with
  | next=>obtain⟨σ7,H7,I7,n7⟩:=q7;exact again I7 n7
  | cont=>obtain⟨σ7,H7,I7,n7⟩:=q7;exact again I7 n7
  | brk=>obtain⟨σ7,H7,I7,q7⟩:=q7;exact⟨σ7,H7,I7.zv,q7⟩
  | ret v=>obtain⟨x7,σ7,H7,I7,r7,q7⟩:=q7;exact⟨x7,σ7,H7,I7.zv,r7,q7⟩
end
end L2
namespace L2
open PySem PySem.Spec PyProof.Rows
noncomputable abbrev R2 :=V→V→Hp→VK→Prop
noncomputable def zp (X:Cx) (f:Value→Value→Sem Value) (r:R2):Prop:=
 ∀(pins:List (Addr×Obj)) (s:Shared) (σ:St) (H:Hp) (x y:V) (v u:Value) (Q:VK),Inv X pins σ H s→RelV x v→RelV y u→r x y H Q →
  wpAny (model X.prog X.w) X.A (f v u) (EP X pins σ Q) X.xe s
noncomputable def Vt (X:Cx) (f:Value→Sem Value) (r:V→Hp→VK→Prop):Prop:=
 ∀(pins:List (Addr×Obj)) (s:Shared) (σ:St) (H:Hp) (x:V) (v:Value) (Q:VK),Inv X pins σ H s→RelV x v→r x H Q →
  wpAny (model X.prog X.w) X.A (f v) (EP X pins σ Q) X.xe s
noncomputable def wF (X:Cx) (f:Value) (r:List V→Hp→VK→Prop):Prop:=
 ∀(pins:List (Addr×Obj)) (s:Shared) (σ:St) (H:Hp) (xs:List V) (us:List Value) (Q:VK),Inv X pins σ H s→Vals xs us→r xs H Q →
  wpAny (model X.prog X.w) X.A (call f us) (EP X pins σ Q) X.xe s
noncomputable def Vu (X:Cx) (r:V→Hp→(Bool→Hp→Prop)→Prop):Prop:=
 ∀(pins:List (Addr×Obj)) (s:Shared) (σ:St) (H:Hp) (x:V) (v:Value) (Q:Bool→Hp→Prop),Inv X pins σ H s→RelV x v→r x H Q →
  wpAny (model X.prog X.w) X.A (truthy v) (TP X pins σ Q) X.xe s
@[reducible] noncomputable def T3 (r:R2) (ta tb:TE):TE:=fun σ H Q=>ta σ H fun x H1=>tb σ H1 fun y H2=>r x y H2 Q
@[reducible] noncomputable def Vz (r:V→Hp→VK→Prop) (ta:TE):TE:=fun σ H Q=>ta σ H fun x H1=>r x H1 Q
@[reducible] noncomputable def rI (C:Int→Int→Prop) (g:Int→Int→V):R2:=fun x y H Q=>∃i j,x=.int i∧y=.int j∧C i j∧Q (g i j) H
@[reducible] noncomputable def Pg (g:Int→Int→V):R2:=fun x y H Q=>∃i j,x=.int i∧y=.int j∧Q (g i j) H
@[reducible] noncomputable def rU (g:Int→V):V→Hp→VK→Prop:=fun x H Q=>∃i,x=.int i∧Q (g i) H
section
variable {X:Cx} {a b c:Expr} {ta tb tc:TE} {pos:Pos}
theorem Tt (ha:PE X a ta) (hb:PE X b tb) {pins:List (Addr×Obj)} {s:Shared} {σ:St} {H:Hp} {R:V→V→Hp→Prop} (I:Inv X pins σ H s)
  (h:ta σ H fun x H1=>tb σ H1 fun y H2=>R x y H2) {Q:Value→Shared→Prop} {f:Value→Value→Sem Value}
  (hf:∀v u s2 x y H2,Inv X pins σ H2 s2→RelV x v→RelV y u→R x y H2→wpAny (model X.prog X.w) X.A (f v u) Q X.xe s2) :
  wpAny (model X.prog X.w) X.A (eval a X.env) (fun v s₁=>wpAny (model X.prog X.w) X.A (eval b X.env) (fun u s₂=>wpAny (model X.prog X.w) X.A (f v u) Q X.xe s₂) X.xe s₁) X.xe s:=by
 refine gr (ha pins s σ H _ I h) fun v s1 ⟨x,H1,I1,r1,q1⟩=>?_
 refine gr (hb pins s1 σ H1 _ I1 q1) fun u s2 ⟨y,H2,I2,r2,q2⟩=>?_
 exact hf v u s2 x y H2 I2 r1 r2 q2
theorem bX {op:Operator} {r:R2} (ho:zp X (binaryOp op) r) (ha:PE X a ta) (hb:PE X b tb):PE X (.BinOp a op b pos) (T3 r ta tb):=by
 intro pins s σ H Q I h
 exact wpAny_BinOp (Tt ha hb I h fun v u s2 x y H2 I2 rx ry q=>ho pins s2 σ H2 x y v u Q I2 rx ry q)
theorem Sh {op:UnaryOp} {r:V→Hp→VK→Prop} (ho:Vt X (unaryOp op) r) (ha:PE X a ta):PE X (.UnaryOp op a pos) (Vz r ta):=by
 intro pins s σ H Q I h
 exact UnaryOp_ (gr (ha pins s σ H _ I h) fun v s1 ⟨x,H1,I1,r1,q1⟩=>ho pins s1 σ H1 x v Q I1 r1 q1)
theorem UX {f:Value→Value→Sem Value} {C:Int→Int→Prop} {g:Int→Int→Int}
  (rule:∀(i j:Int) (t u:Tok) (s:Shared) (Q:Value→Shared→Prop) (E:Value→Shared→Prop),C i j→Q (.int (g i j) s.toks) { s with toks:=s.toks+1 }→wpAny (model X.prog X.w) X.A (f (.int i t) (.int j u)) Q E s) :
  zp X f (rI C fun i j=>.int (g i j)):=by
 intro pins s σ H x y v u Q I rx ry h
 obtain⟨i,j,rfl,rfl,hc,q⟩:=h
 obtain⟨t,rfl⟩:=rx
 obtain⟨t',rfl⟩:=ry
 exact rule i j t t' s _ _ hc ⟨.int (g i j),H,I.tok _,⟨_,rfl⟩,q⟩
theorem Rk {f:Value→Value→Sem Value} {g:Int→Int→Int}
  (rule:∀(i j:Int) (t u:Tok) (s:Shared) (Q:Value→Shared→Prop) (E:Value→Shared→Prop),Q (.int (g i j) s.toks) { s with toks:=s.toks+1 }→wpAny (model X.prog X.w) X.A (f (.int i t) (.int j u)) Q E s) :
  zp X f (Pg fun i j=>.int (g i j)):=by
 intro pins s σ H x y v u Q I rx ry h
 obtain⟨i,j,rfl,rfl,q⟩:=h
 obtain⟨t,rfl⟩:=rx
 obtain⟨t',rfl⟩:=ry
 exact rule i j t t' s _ _ ⟨.int (g i j),H,I.tok _,⟨_,rfl⟩,q⟩
theorem Rl {f:Value→Value→Sem Value} {g:Int→Int→Bool}
  (rule:∀(i j:Int) (t u:Tok) (s:Shared) (Q:Value→Shared→Prop) (E:Value→Shared→Prop),Q (.bool (g i j)) s→wpAny (model X.prog X.w) X.A (f (.int i t) (.int j u)) Q E s) :
  zp X f (Pg fun i j=>.bl (g i j)):=by
 intro pins s σ H x y v u Q I rx ry h
 obtain⟨i,j,rfl,rfl,q⟩:=h
 obtain⟨t,rfl⟩:=rx
 obtain⟨t',rfl⟩:=ry
 exact rule i j t t' s _ _ ⟨.bl (g i j),H,I,rfl,q⟩
noncomputable def Vy (i j:Int):Prop:=0<j∧j<1073741824
noncomputable def Vx (i j:Int):Prop:=0≤j∧j≤1000000∧i.natAbs<2 ^ 64
noncomputable def TJ (i j:Int):Prop:=(-(2 ^ 64)<i∧i<2 ^ 64)∨(-(2 ^ 64)<j∧j<2 ^ 64)
theorem TJ.ok {i j:Int} (h:TJ i j):IntMulOk i j:=by
 rcases h with ⟨h1,h2⟩ | ⟨h1,h2⟩
 ·exact .of_left (intBits_le_64 h1 h2)
 ·exact .of_right (intBits_le_64 h1 h2)
theorem K7 (k:Nat):(0:Int)≤2 ^ k:=by
 rw[two_pow_cast]
 exact Int.natCast_nonneg _
theorem pK :zp X (binaryOp .Add) (Pg fun i j=>.int (i+j)):=Rk fun _ _ _ _ _ _ _ q=>add_int q
theorem tJ :zp X (binaryOp .Sub) (Pg fun i j=>.int (i - j)):=Rk fun _ _ _ _ _ _ _ q=>sub_int q
theorem PD :zp X (binaryOp .Mult) (rI TJ fun i j=>.int (i * j)):=UX fun _ _ _ _ _ _ _ hc q=>mul_int q hc.ok
theorem My :zp X (binaryOp .FloorDiv) (rI Vy fun i j=>.int (i / j)):=UX fun i j _ _ _ _ _ hc q=>by
 have h1:(0:Int)<j:=hc.1
 have h2:j<1073741824:=hc.2
 exact floordiv_int (by omega) (by rw[Int.fdiv_eq_ediv_of_nonneg i (by omega)];exact q) (.inl (PyProof.noPylong_small (by omega)))
theorem HX :zp X (binaryOp .LShift) (rI Vx fun i j=>.int (i * 2 ^ j.toNat)):=UX fun _ _ _ _ _ _ _ hc q=>lshift_int_small hc.1 hc.2.1 hc.2.2 q
theorem HW :zp X (binaryOp .RShift) (rI (fun _ j=>0≤j) fun i j=>.int (i / 2 ^ j.toNat)):=UX fun i j _ _ _ _ _ hc q=>
 rshift_int hc (by rw[Int.fdiv_eq_ediv_of_nonneg i (K7 _)];exact q)
theorem tK :zp X (binaryOp .BitAnd) (Pg fun i j=>.int (Builtin.bitAnd i j)):=Rk fun _ _ _ _ _ _ _ q=>and_int q
theorem Mx :zp X (binaryOp .BitOr) (Pg fun i j=>.int (Builtin.bitOr i j)):=Rk fun _ _ _ _ _ _ _ q=>or_int q
theorem VN {f:Value→Sem Value} {g:Int→Int}
  (rule:∀(i:Int) (t:Tok) (s:Shared) (Q:Value→Shared→Prop) (E:Value→Shared→Prop),Q (.int (g i) s.toks) { s with toks:=s.toks+1 }→wpAny (model X.prog X.w) X.A (f (.int i t)) Q E s) :
  Vt X f (rU fun i=>.int (g i)):=by
 intro pins s σ H x v Q I rx h
 obtain⟨i,rfl,q⟩:=h
 obtain⟨t,rfl⟩:=rx
 exact rule i t s _ _ ⟨.int (g i),H,I.tok _,⟨_,rfl⟩,q⟩
theorem OP :Vt X (unaryOp .USub) (rU fun i=>.int (-i)):=VN fun _ _ _ _ _ q=>neg_int q
end
noncomputable def Uc :V→V→Bool
 | .dh,.dh=>true | .dh,.int _=>true | .int _,.dh=>true | .dh,.bl _=>true | .bl _,.dh=>true | .dh,.str _=>true | .str _,.dh=>true
 | .int _,.int _=>true | .bl _,.bl _=>true | .str _,.str _=>true | .IU _,.IU _=>true
 | .int _,.str _=>true | .str _,.int _=>true | .bl _,.str _=>true | .str _,.bl _=>true
 | _,_=>false
noncomputable def UW :R2:=fun x y H Q=>Uc x y=true∧Q (.bl (decide (x=y))) H
noncomputable def VF :R2:=fun x y H Q=>Uc x y=true∧Q (.bl (!decide (x=y))) H
theorem MR {i j:Int}:decide (V.int i=V.int j)=(i==j):=by
 rw[Bool.eq_iff_iff]
 simp
theorem Ql {i j:Bool}:decide (V.bl i=V.bl j)=(i==j):=by
 rw[Bool.eq_iff_iff]
 simp
theorem MQ {i j:Str}:decide (V.str i=V.str j)=(i==j):=by
 rw[Bool.eq_iff_iff]
 simp
theorem MS {i j:Array UInt8}:decide (V.IU i=V.IU j)=(i.toList==j.toList):=by
 rw[Bool.eq_iff_iff]
 cases i
 cases j
 simp
section
variable {X:Cx} {a b c:Expr} {ta tb tc:TE} {pos:Pos}
theorem cN {pins:List (Addr×Obj)} {σ:St} {H:Hp} {s:Shared} {Q:VK} {k k':Bool} (I:Inv X pins σ H s) (q:Q (.bl k) H) (e:k=k'):EP X pins σ Q (.bool k') s:=by
 subst e
 exact⟨.bl k,H,I,rfl,q⟩
theorem cg :zp X (compareOp .Eq) UW:=by
 intro pins s σ H x y v u Q I rx ry h
 obtain⟨hs,q⟩:=h
 cases x with
 | dh=>
  cases rx
  cases y with
  | dh=>cases ry;exact PySem.EqNone.eq_none_none (cN I q (by simp))
  | bl j=>cases ry;exact PySem.EqNone.eq_none_bool (cN I q (by simp))
  | int j=>obtain⟨t',rfl⟩:=ry;exact PySem.EqNone.eq_none_int (cN I q (by simp))
  | str j=>obtain⟨t',rfl⟩:=ry;exact PySem.EqNone.eq_none_str (cN I q (by simp))
  | _=>exact absurd (show false=true from hs) Bool.false_ne_true
 | bl i=>
  cases rx
  cases y with
  | dh=>cases ry;exact PySem.EqNone.eq_bool_none (cN I q (by simp))
  | bl j=>cases ry;exact eq_bool (cN I q Ql)
  | str j=>obtain⟨t',rfl⟩:=ry;exact PySem.EqMixed.eq_bool_str (cN I q (by simp))
  | _=>exact absurd (show false=true from hs) Bool.false_ne_true
 | int i=>
  obtain⟨t,rfl⟩:=rx
  cases y with
  | dh=>cases ry;exact PySem.EqNone.eq_int_none (cN I q (by simp))
  | int j=>obtain⟨t',rfl⟩:=ry;exact eq_int (cN I q MR)
  | str j=>obtain⟨t',rfl⟩:=ry;exact PySem.EqMixed.eq_int_str (cN I q (by simp))
  | _=>exact absurd (show false=true from hs) Bool.false_ne_true
 | str i=>
  obtain⟨t,rfl⟩:=rx
  cases y with
  | dh=>cases ry;exact PySem.EqNone.eq_str_none (cN I q (by simp))
  | bl j=>cases ry;exact PySem.EqMixed.eq_str_bool (cN I q (by simp))
  | int j=>obtain⟨t',rfl⟩:=ry;exact PySem.EqMixed.eq_str_int (cN I q (by simp))
  | str j=>obtain⟨t',rfl⟩:=ry;exact eq_str (cN I q MQ)
  | _=>exact absurd (show false=true from hs) Bool.false_ne_true
 | IU i=>
  obtain⟨t,rfl⟩:=rx
  cases y with
  | IU j=>obtain⟨t',rfl⟩:=ry;exact PySem.W.eq_bytes (cN I q MS)
  | _=>exact absurd (show false=true from hs) Bool.false_ne_true
 | _=>cases y<;>exact absurd (show false=true from hs) Bool.false_ne_true
theorem CC :zp X (compareOp .NotEq) VF:=by
 intro pins s σ H x y v u Q I rx ry h
 obtain⟨hs,q⟩:=h
 cases x with
 | dh=>
  cases rx
  cases y with
  | dh=>cases ry;exact PySem.EqNone.ne_none_none (cN I q (by simp))
  | bl j=>cases ry;exact PySem.EqNone.ne_none_bool (cN I q (by simp))
  | int j=>obtain⟨t',rfl⟩:=ry;exact PySem.EqNone.ne_none_int (cN I q (by simp))
  | str j=>obtain⟨t',rfl⟩:=ry;exact PySem.EqNone.ne_none_str (cN I q (by simp))
  | _=>exact absurd (show false=true from hs) Bool.false_ne_true
 | bl i=>
  cases rx
  cases y with
  | dh=>cases ry;exact PySem.EqNone.ne_bool_none (cN I q (by simp))
  | bl j=>cases ry;exact ne_bool (cN I q (congrArg not Ql))
  | str j=>obtain⟨t',rfl⟩:=ry;exact PySem.EqMixed.ne_bool_str (cN I q (by simp))
  | _=>exact absurd (show false=true from hs) Bool.false_ne_true
 | int i=>
  obtain⟨t,rfl⟩:=rx
  cases y with
  | dh=>cases ry;exact PySem.EqNone.ne_int_none (cN I q (by simp))
  | int j=>obtain⟨t',rfl⟩:=ry;exact ne_int (cN I q (congrArg not MR))
  | str j=>obtain⟨t',rfl⟩:=ry;exact PySem.EqMixed.ne_int_str (cN I q (by simp))
  | _=>exact absurd (show false=true from hs) Bool.false_ne_true
 | str i=>
  obtain⟨t,rfl⟩:=rx
  cases y with
  | dh=>cases ry;exact PySem.EqNone.ne_str_none (cN I q (by simp))
  | bl j=>cases ry;exact PySem.EqMixed.ne_str_bool (cN I q (by simp))
  | int j=>obtain⟨t',rfl⟩:=ry;exact PySem.EqMixed.ne_str_int (cN I q (by simp))
  | str j=>obtain⟨t',rfl⟩:=ry;exact ne_str (cN I q (congrArg not MQ))
  | _=>exact absurd (show false=true from hs) Bool.false_ne_true
 | IU i=>
  obtain⟨t,rfl⟩:=rx
  cases y with
  | IU j=>obtain⟨t',rfl⟩:=ry;exact PySem.W.ne_bytes (cN I q (congrArg not MS))
  | _=>exact absurd (show false=true from hs) Bool.false_ne_true
 | _=>cases y<;>exact absurd (show false=true from hs) Bool.false_ne_true
theorem JN :zp X (compareOp .Lt) (Pg fun i j=>.bl (decide (i<j))):=Rl fun _ _ _ _ _ _ _ q=>lt_int q
theorem ma :zp X (compareOp .LtE) (Pg fun i j=>.bl (decide (i≤j))):=Rl fun _ _ _ _ _ _ _ q=>le_int q
theorem CD :zp X (compareOp .Gt) (Pg fun i j=>.bl (decide (j<i))):=Rl fun _ _ _ _ _ _ _ q=>gt_int q
theorem pJ :zp X (compareOp .GtE) (Pg fun i j=>.bl (decide (j≤i))):=Rl fun _ _ _ _ _ _ _ q=>ge_int q
theorem aI (b:Expr) {op:CmpOp} (h:op≠.In:=by decide) (h2:op≠.NotIn:=by decide):behindInMarks op b=false:=by
 have e1:(op==CmpOp.In)=false:=by cases op<;>first | rfl | exact absurd rfl h
 have e2:(op==CmpOp.NotIn)=false:=by cases op<;>first | rfl | exact absurd rfl h2
 cases b<;>simp[behindInMarks,e1,e2]
theorem jm {op:CmpOp} {r:R2} (ho:zp X (compareOp op) r) (ha:PE X a ta) (hb:PE X b tb) (hm:behindInMarks op b=false):PE X (.Compare a [op] [b] pos) (T3 r ta tb):=by
 intro pins s σ H Q I h
 exact wpAny_Compare1 (Tt ha hb I h fun v u s2 x y H2 I2 rx ry q=>ho pins s2 σ H2 x y v u Q I2 rx ry q) hm
@[reducible] noncomputable def OU (t:TE):TT:=fun σ H Q=>t σ H fun x H'=>∃k,x=.bl k∧Q k H'
theorem aA {op:CmpOp} {r:R2} (ho:zp X (compareOp op) r) (ha:PE X a ta) (hb:PE X b tb) (hm:behindInMarks op b=false):PT X (.Compare a [op] [b] pos) (OU (T3 r ta tb)):=by
 intro pins s σ H Q I h
 refine wpAny_isTrue_Compare1 (gr (ha pins s σ H _ I h) fun v s1 ⟨x,H1,I1,r1,q1⟩=>gr (hb pins s1 σ H1 _ I1 q1) fun u s2 ⟨y,H2,I2,r2,q2⟩=>
  gr (ho pins s2 σ H2 x y v u _ I2 r1 r2 q2) fun c s3 ⟨z,H3,I3,r3,k,e,q3⟩=>?_) hm
 subst e
 cases r3
 exact wpAny_truthy_bool ⟨H3,I3,q3⟩
@[reducible] noncomputable def Lb (r r':R2) (ta tb tc:TE):TE:=fun σ H Q=>ta σ H fun x H1=>tb σ H1 fun y H2=>r x y H2 fun z H3=>∃k,z=.bl k ∧
 (if k=true then tc σ H3 fun w' H4=>r' y w' H4 Q else Q (.bl false) H3)
theorem Ex {op op':CmpOp} {r r':R2} (ho:zp X (compareOp op) r) (ho':zp X (compareOp op') r') (ha:PE X a ta) (hb:PE X b tb) (hc:PE X c tc)
  (hm:lastMarks [op,op'] [b,c]=false:=by with_unfolding_all rfl):PE X (.Compare a [op,op'] [b,c] pos) (Lb r r' ta tb tc):=by
 intro pins s σ H Q I h
 refine Compare_chain (gr (ha pins s σ H _ I h) fun v s1 ⟨x,H1,I1,r1,q1⟩=>chain_link (gr (hb pins s1 σ H1 _ I1 q1) fun u s2 ⟨y,H2,I2,r2,q2⟩=>
  gr (ho pins s2 σ H2 x y v u _ I2 r1 r2 q2) fun d s3 ⟨z,H3,I3,r3,k,e,q3⟩=>?_)) hm
 subst e
 cases r3
 refine wpAny_truthy_bool ?_
 cases k with
 | false=>exact ite_ff ⟨.bl false,H3,I3,rfl,q3⟩
 | true=>exact ite_tt (chain_last (gr (hc pins s3 σ H3 _ I3 q3) fun w' s4 ⟨z',H4,I4,r4,q4⟩=>ho' pins s4 σ H4 y z' u w' Q I4 r2 r4 q4))
theorem zZ {op op':CmpOp} {r r':R2} (ho:zp X (compareOp op) r) (ho':zp X (compareOp op') r') (ha:PE X a ta) (hb:PE X b tb) (hc:PE X c tc)
  (hm:lastMarks [op,op'] [b,c]=false:=by with_unfolding_all rfl):PT X (.Compare a [op,op'] [b,c] pos) (OU (Lb r r' ta tb tc)):=by
 intro pins s σ H Q I h
 refine isTrue_chain (gr (ha pins s σ H _ I h) fun v s1 ⟨x,H1,I1,r1,q1⟩=>test_link (gr (hb pins s1 σ H1 _ I1 q1) fun u s2 ⟨y,H2,I2,r2,q2⟩=>
  gr (ho pins s2 σ H2 x y v u _ I2 r1 r2 q2) fun d s3 ⟨z,H3,I3,r3,k,e,q3⟩=>?_)) hm
 subst e
 cases r3
 refine wpAny_truthy_bool ?_
 cases k with
 | false=>
  obtain⟨k',e',q'⟩:=q3
  cases e'
  exact ite_ff ⟨H3,I3,q'⟩
 | true=>
  refine ite_tt (test_last (gr (hc pins s3 σ H3 _ I3 q3) fun w' s4 ⟨z',H4,I4,r4,q4⟩=>gr (ho' pins s4 σ H4 y z' u w' _ I4 r2 r4 q4) fun d' s5 ⟨z2,H5,I5,r5,k2,e2,q5⟩=>?_))
  subst e2
  cases r5
  exact wpAny_truthy_bool ⟨H5,I5,q5⟩
noncomputable def Tx (K:PySem.W.Frag) (x:V) (H:Hp) (k:Bool):Prop:=
 match x with
 | .dh=>k=false
 | .bl b=>k=b
 | .int i=>k=(i != 0)
 | .str y=>y.length≤sizeLine∧k=((y.length:Int) != 0)
 | .IU y=>y.size≤sizeLine∧k=((y.size:Int) != 0)
 | .ref p=>(∃xs,aM K H p xs∧k=!xs.isEmpty)∨(∃xs,GH K H p xs∧k=!xs.isEmpty)∨∃kvs,H p=some (.dK kvs)∧k=!kvs.isEmpty
 | _=>False
theorem LR {κ:Type} {kvs:List (κ×V)} {vs:List (κ×Value)} (r:KV kvs vs):(!vs.isEmpty)=!kvs.isEmpty:=by
 cases r<;>rfl
theorem E1 {xs:List V} {its:List Value} (r:Vals xs its):(!its.toArray.isEmpty)=!xs.isEmpty:=by
 cases r<;>simp
theorem EV :(sizeLine:Nat)<2 ^ 63:=by rw[sizeLine_eq];decide
theorem Sv :Vu X (fun x H Q=>∃k,Tx X.K x H k∧Q k H):=by
 intro pins s σ H x v Q I rx h
 obtain⟨k,e,q⟩:=h
 have hl:=EV
 have hs:sizeLine=16777216:=sizeLine_eq
 cases x with
 | dh=>
  cases rx
  have e':k=false:=e
  subst e'
  exact truthy_none ⟨H,I,q⟩
 | bl b=>
  cases rx
  have e':k=b:=e
  subst e'
  exact wpAny_truthy_bool ⟨H,I,q⟩
 | int i=>
  obtain⟨t,rfl⟩:=rx
  have e':k=(i != 0):=e
  subst e'
  exact PySem.P.truthy_int ⟨H,I,q⟩
 | str y=>
  obtain⟨t,rfl⟩:=rx
  obtain⟨hy,e'⟩:y.length≤sizeLine∧k=((y.length:Int) != 0):=e
  subst e'
  exact PySem.P.truthy_str (by omega) ⟨H,I.tok _,q⟩
 | IU y=>
  obtain⟨t,rfl⟩:=rx
  obtain⟨hy,e'⟩:y.size≤sizeLine∧k=((y.size:Int) != 0):=e
  subst e'
  exact PySem.W.truthy_bytes (by omega) ⟨H,I.tok _,q⟩
 | ref p=>
  cases rx
  have e':(∃xs,aM X.K H p xs∧k=!xs.isEmpty)∨(∃xs,GH X.K H p xs∧k=!xs.isEmpty)∨∃kvs,H p=some (.dK kvs)∧k=!kvs.isEmpty:=e
  rcases e' with ⟨xs,hx,e'⟩ | ⟨xs,hx,e'⟩ | ⟨kvs,hx,e'⟩
  ·subst e'
   obtain⟨its,r,pl,hz⟩:=I.list hx
   have hlen:=r.length
   exact wpAny_truthy_list pl.isList (by simp only[List.size_toArray];omega) ⟨H,I.tok _,by rw[E1 r];exact q⟩
  ·subst e'
   obtain⟨its,r,pl,hz⟩:=I.tuple hx
   have hlen:=r.length
   exact truthy_tuple pl (by simp only[List.size_toArray];omega) ⟨H,I.tok _,by rw[E1 r];exact q⟩
  ·subst e'
   obtain⟨hz,hS,vs,r,m⟩:kvs.length≤sizeLine∧(p==sysModules)=false∧∃vs,KV kvs vs∧s.heap.DictOf (fZ X.prog X.w) p vs:=I.dN p _ hx
   have hlen:kvs.length=vs.length:=Paired.length r
   exact wpAny_truthy_dict hS m (by omega) ⟨H,I.tok _,by rw[LR r];exact q⟩
 | _=>exact (show False from e).elim
theorem pI (ha:PE X a ta) (he:∀whole,isTrue a X.env whole=(do let v ←whole;standAt a.pos;holding [v] (truthy v))) :
  PT X a (fun σ H Q=>ta σ H fun x H'=>∃k,Tx X.K x H' k∧Q k H'):=by
 intro pins s σ H Q I h
 exact isTrue_plain (gr (ha pins s σ H _ I h) fun v s1 ⟨x,H1,I1,r1,q1⟩=>Sv pins s1 σ H1 x v Q I1 r1 q1) (he _)
theorem vals1 {x:V} {us:List Value} (r:Vals [x] us):∃u,us=[u]∧RelV x u:=by
 cases r with
 | cons r1 r2=>cases r2;exact⟨_,rfl,r1⟩
theorem vals2 {x y:V} {us:List Value} (r:Vals [x,y] us):∃u w',us=[u,w']∧RelV x u∧RelV y w':=by
 cases r with
 | cons r1 r2=>
  cases r2 with
  | cons r3 r4=>cases r4;exact⟨_,_,rfl,r1,r3⟩
theorem B9 (hc:X.calm=true):wF X (.builtin "max") (fun xs H Q=>∃i j,xs=[.int i,.int j]∧Q (.int (if j > i then j else i)) H):=by
 intro pins s σ H xs us Q I r h
 obtain⟨i,j,rfl,q⟩:=h
 obtain⟨u,w',rfl,⟨t,rfl⟩,⟨t',rfl⟩⟩:=vals2 r
 refine max_two_ints (I.ok.hd hc) fun h' tk k=>⟨_,H,I.kept k,?_,q⟩
 by_cases hj:j > i
 ·rw[if_pos hj,if_pos hj];exact⟨_,rfl⟩
 ·rw[if_neg hj,if_neg hj];exact⟨_,rfl⟩
theorem He (hc:X.calm=true):wF X (.builtin "min") (fun xs H Q=>∃i j,xs=[.int i,.int j]∧Q (.int (if j<i then j else i)) H):=by
 intro pins s σ H xs us Q I r h
 obtain⟨i,j,rfl,q⟩:=h
 obtain⟨u,w',rfl,⟨t,rfl⟩,⟨t',rfl⟩⟩:=vals2 r
 refine min_two_ints (I.ok.hd hc) fun h' tk k=>⟨_,H,I.kept k,?_,q⟩
 by_cases hj:j<i
 ·rw[if_pos hj,if_pos hj];exact⟨_,rfl⟩
 ·rw[if_neg hj,if_neg hj];exact⟨_,rfl⟩
theorem sL :wF X (.builtin "ord") (fun xs H Q=>∃x,xs=[.str x]∧x.length=1∧Q (.int (x.cps.getD 0 0:Nat)) H):=by
 intro pins s σ H xs us Q I r h
 obtain⟨x,rfl,hz,q⟩:=h
 obtain⟨u,rfl,t,rfl⟩:=vals1 r
 exact ord_of_one hz ⟨.int _,H,I.tok _,⟨_,rfl⟩,q⟩
end
end L2
namespace L2
open PySem PySem.Spec PyProof.Rows
structure Mh (h:Heap) (x dx C:Addr) (mA:Str→Option Value):Prop where
 obj :h.get? x=some (PySem.W.instObj C dx)
 ns :h.Ns1 dx mA
 ne :dx≠x
theorem NR {h:Heap} {dx:Addr} {mA:Str→Option Value} (n:h.Ns1 dx mA):∃od,h.get? dx=some od∧∀name,PySem.W.lookIn name od=some (mA name):=by
 obtain⟨o,es,ep,ho,hd,hk,_,hm⟩:=n
 refine⟨o,ho,fun name=>?_⟩
 have e:=hm name
 unfold nsFind findBy at e
 rw[←Array.find?_toList] at e
 unfold PySem.W.lookIn
 rw[hd]
 dsimp only
 split
 ·rename_i y q
  rw[q] at e
  exact congrArg some e
 ·rename_i q
  rw[q] at e
  have a:es.toList.any (·.refKey)=false:=by
   rw[List.any_eq_false]
   intro y hy
   obtain⟨z,t,hkey⟩:=hk y (Array.mem_toList_iff.mp hy)
   simp[DictEntry.refKey,hkey]
  have a':¬es.toList.any (·.refKey)=true:=by rw[a];exact Bool.false_ne_true
  rw[if_neg a']
  exact congrArg some e
theorem Mh.look {h:Heap} {x dx C:Addr} {mA:Str→Option Value} (I:Mh h x dx C mA):∃od,PySem.W.InstAt h x (PySem.W.instObj C dx) C (some od)∧∀name,PySem.W.lookIn name od=some (mA name):=
 let ⟨od,ho,hl⟩:=NR I.ns
 ⟨od,⟨I.obj,rfl,rfl,ho⟩,hl⟩
section
variable {prog:Program} {w:World} {A:Around} {E:Value→Shared→Prop} {s:Shared} {K:PySem.W.Frag} {x dx C f:Addr} {mA:Str→Option Value} {name:Str} {v:Value}
theorem get_map {expr:Bool} {Q:Value→Shared→Prop} (X:K.In s.heap) (I:Mh s.heap x dx C mA) (hg:PySem.W.plainGet K C name=true) (hh:PySem.W.hasDictIn K C=true)
  (ha:PySem.W.findIn K (.ref C) name=some none) (hv:mA name=some v) (hv':PySem.W.handedIn v=true) (h:Q v { s with toks:=s.toks+1 }) :
  wpAny (model prog w) A (getAttr (.ref x) name expr) Q E s:=by
 obtain⟨od,J,hl⟩:=I.look
 exact PySem.W.get_value X J (PySem.W.plainGet_of hg).1 (PySem.W.findObj_own hh ha rfl (by rw[hl,hv])) hv' h
theorem Qd {pl:Sem Bool} {Q:Value×List Value→Shared→Prop} (X:K.In s.heap) (I:Mh s.heap x dx C mA) (hg:PySem.W.plainGet K C name=true)
  (hf:PySem.W.findIn K (.ref C) name=some (some (.ref f))) (ht:PySem.W.isFn K (.ref f)=true) (hv:mA name=none) (h:Q (.ref f,[.ref x]) s) :
  wpAny (model prog w) A (getMethod (.ref x) name pl) Q E s:=by
 obtain⟨od,J,hl⟩:=I.look
 exact PySem.W.method_fn X J (PySem.W.plainGet_of hg).1 (PySem.W.plainGet_of hg).2 hf (beq_iff_eq.mp ht) (by show (PySem.W.lookIn name od).map (·.isSome)=some false;rw[hl,hv];rfl) h
theorem Q3 {ns:List Str} {Q:Unit→Shared→Prop} (X:K.In s.heap) (I:Mh s.heap x dx C mA)
  (hs:PySem.W.findIn K (.ref C) "__setattr__"=some (some (.builtin "object.__setattr__"))) (hp:PySem.W.plainOver K C=true) (ht:PySem.W.takerIn K C name=some none) (hh:PySem.W.hasDictIn K C=true)
  (hw:PySem.Within mA ns) (hsz:ns.length≤sizeLine)
  (h:∀h',Mh h' x dx C (fun y=>if y=name then some v else mA y)→Heap.SameBut dx s.heap h'→Q () { s with heap:=h',toks:=s.toks+2 }) :
  wpAny (model prog w) A (setAttr (.ref x) name v) Q E s:=by
 obtain⟨od,J,hl⟩:=I.look
 refine PySem.W.set_plain X J hs (PySem.W.osa_open (s:={ s with toks:=s.toks+1 }) (r:=none) X J hp ht fun b=>?_)
 obtain⟨cd,hc,hd'⟩:=PySem.W.any_some hh
 have hx:s.heap.get? x=some ⟨.ref C,some dx,.plain,#[]⟩:=I.obj
 refine wpAny_bind (wpAny_pure (wpAny_bind (wpAny_bind (wpAny_loadPart hx (wpAny_bind (PySem.W.Looks.here (s:={ s with toks:=s.toks+1 }) (PySem.W.looks_clsIn X hc) ?_))))))
 rw[hd']
 refine wpAny_pure (a:=some dx) (wpAny_bind (wpAny_pure (wpAny_bind ?_)))
 refine wpAny_nsSet1 (s:={ s with toks:=s.toks+1 }) I.ns fun h' hn2 hs2=>?_
 obtain⟨oD,esD,epD,hoD,hdD,hcD⟩:=hn2.count (PySem.Within.cons name v hw)
 refine wpAny_bind (wpAny_lookBehind hoD (by rw[hdD];exact pastItsLine_dict (Nat.le_trans hcD (by rw[List.length_cons];omega))) ?_)
 exact wpAny_pure (h _ ⟨(hs2.2 _ (Ne.symm I.ne)).trans I.obj,hn2,I.ne⟩ hs2)
theorem PR {R:Result→Shared→Prop} {vs:List Value} {kw:List (Str×Value)} (X:K.In s.heap) (hm:PySem.W.makesIn K C=true)
  (hi:PySem.W.findIn K (.ref C) "__init__"=some (some (.ref f))) (hf:PySem.W.typeIn K (.ref f)=some (.type "function"))
  (h:codeAny (model prog w) (A.under (.builtin "type.__call__" ⟨.ref C::vs,kw⟩)) (.call (.ref f) ⟨.ref (s.heap.objs.size+1)::vs,kw⟩) (PySem.W.InitBack (s.heap.objs.size+1) R)
   { s with heap:=(s.heap.push PySem.W.emptyDict).push (PySem.W.instObj C s.heap.objs.size) }) :
  codeAny (model prog w) A (.call (.ref C) ⟨vs,kw⟩) R s:=by
 obtain⟨hh,g,d,t,os⟩:=s
 exact PySem.W.make_core (PySem.W.makes_of X hm) (PySem.W.looks_findIn X hi) (fun self=>PySem.W.bind_fn X self hf) (.inl rfl) h
end
noncomputable def aF (f:Str) (v:V):List (Str×V)→List (Str×V)
 | []=>[(f,v)]
 | (g,x)::r=>if g=f then (g,v)::r else (g,x)::aF f v r
theorem qD (f g:Str) (v:V):∀fs:List (Str×V),(aF f v fs).lookup g=if g=f then some v else fs.lookup g
 | []=>by
  show List.lookup g [(f,v)]=_
  by_cases h:g=f
  ·have hb:(g==f)=true:=beq_iff_eq.mpr h
   simp only[List.lookup,hb,if_pos h]
  ·have hb:(g==f)=false:=beq_eq_false_iff_ne.mpr h
   simp only[List.lookup,hb,if_neg h]
 | (k,x)::r=>by
  have ih:=qD f g v r
  rw[show aF f v ((k,x)::r)=(if k=f then (k,v)::r else (k,x)::aF f v r) from rfl]
  by_cases hk:k=f
  ·rw[if_pos hk]
   by_cases h:g=k
   ·have hb:(g==k)=true:=beq_iff_eq.mpr h
    simp only[List.lookup,hb,if_pos (h.trans hk)]
   ·have hb:(g==k)=false:=beq_eq_false_iff_ne.mpr h
    simp only[List.lookup,hb,if_neg (fun e:g=f=>h (e.trans hk.symm))]
  ·rw[if_neg hk]
   by_cases h:g=k
   ·have hb:(g==k)=true:=beq_iff_eq.mpr h
    simp only[List.lookup,hb,if_neg (fun e:g=f=>hk (h.symm.trans e))]
   ·have hb:(g==k)=false:=beq_eq_false_iff_ne.mpr h
    simp only[List.lookup,hb]
    exact ih
theorem BM (f:Str) (v:V):∀fs:List (Str×V),f∈(aF f v fs).map (·.1)∧∀g,g∈fs.map (·.1)→g∈(aF f v fs).map (·.1)
 | []=>⟨by simp[aF],fun g h=>by simp at h⟩
 | (k,x)::r=>by
  obtain⟨i1,i2⟩:=BM f v r
  rw[show aF f v ((k,x)::r)=(if k=f then (k,v)::r else (k,x)::aF f v r) from rfl]
  by_cases hk:k=f
  ·rw[if_pos hk]
   subst hk
   exact⟨by simp,fun g h=>by simpa using h⟩
  ·rw[if_neg hk]
   refine⟨?_,fun g h=>?_⟩
   ·rw[List.map_cons]
    exact List.mem_cons_of_mem _ i1
   ·rw[List.map_cons] at h ⊢
    rcases List.mem_cons.mp h with e | e
    ·exact List.mem_cons.mpr (.inl e)
    ·exact List.mem_cons_of_mem _ (i2 g e)
theorem vK (f:Str) (v:V):∀fs:List (Str×V),(aF f v fs).length≤fs.length+1
 | []=>by simp[aF]
 | (k,x)::r=>by
  have ih:=vK f v r
  rw[show aF f v ((k,x)::r)=(if k=f then (k,v)::r else (k,x)::aF f v r) from rfl]
  by_cases hk:k=f
  ·rw[if_pos hk,List.length_cons,List.length_cons];omega
  ·rw[if_neg hk,List.length_cons,List.length_cons];omega
theorem ve.some_of {v:V} {o:Option Value} (r:ve (some v) o):∃u,o=some u∧RelV v u:=by
 cases o with
 | none=>exact (show False from r).elim
 | some u=>exact⟨u,rfl,r⟩
theorem ve.none_of {o:Option Value} (r:ve none o):o=none:=by
 cases o with
 | none=>rfl
 | some u=>exact (show False from r).elim
theorem N4 {v:V} {u:Value} (r:RelV v u):PySem.W.handedIn u=true:=by
 cases v with
 | dh=>cases (show u=Value.none from r);rfl
 | bl b=>cases (show u=Value.bool b from r);rfl
 | int i=>obtain⟨t,e⟩:=(show ∃t,u=Value.int i t from r);cases e;rfl
 | str x=>obtain⟨t,e⟩:=(show ∃t,u=Value.str x t from r);cases e;rfl
 | IU b=>obtain⟨t,e⟩:=(show ∃t,u=Value.bytes b t from r);cases e;rfl
 | Uy b=>obtain⟨t,e⟩:=(show ∃t,u=Value.float b t from r);cases e;rfl
 | ref a=>cases (show u=Value.ref a from r);rfl
 | ty n=>cases (show u=Value.type n from r);rfl
section
variable {P:Program} {w:World} {H H':Hp} {h h':Heap} {a C dx:Addr} {fs fs':List (Str×V)}
theorem Ip (dN:wD P w H h) (e:H a=some (.ins C dx fs)):∃mA,Mh h a dx C mA∧(∀f,ve (fs.lookup f) (mA f))∧PySem.Within mA (fs.map (·.1))∧fs.length≤1000∧H dx=some (.own a):=by
 obtain⟨d,z,ne,ob,mA,n,r,q⟩:=(show ia P w H h a (.ins C dx fs) from dN a _ e)
 exact⟨mA,⟨ob,n,ne⟩,r,q,z,d⟩
end
structure Hv (K:PySem.W.Frag) (C:Addr):Prop where
 pg :PySem.W.plainGet K C Str.empty=true
 hd :PySem.W.hasDictIn K C=true
 po :PySem.W.plainOver K C=true
 sa :PySem.W.findIn K (.ref C) "__setattr__"=some (some (.builtin "object.__setattr__"))
theorem Hv.get {K:PySem.W.Frag} {C:Addr} (c:Hv K C) (f:Str):PySem.W.plainGet K C f=true:=c.pg
noncomputable def aQ (K:PySem.W.Frag) (C:Addr) (f:Str):Prop:=PySem.W.findIn K (.ref C) f=some none
theorem aQ.TX {K:PySem.W.Frag} {C:Addr} {f:Str} (n:aQ K C f):PySem.W.takerIn K C f=some none:=by
 unfold PySem.W.takerIn
 rw[show PySem.W.findIn K (.ref C) f=some none from n]
 rfl
structure Meth (K:PySem.W.Frag) (C:Addr) (m:Str) (f:Addr):Prop where
 at_ :PySem.W.findIn K (.ref C) m=some (some (.ref f))
 fn :PySem.W.isFn K (.ref f)=true
 kp :PySem.W.keepIn K (.ref f)=true
section
variable {X:Cx} {pins:List (Addr×Obj)} {σ:St} {H:Hp} {s:Shared} {a C dx:Addr} {fs:List (Str×V)} {f:Str} {v:V} {A:Around} {E:Value→Shared→Prop}
theorem LY {b:Bool} {Q:Value→Shared→Prop} (I:Inv X pins σ H s) (e:H a=some (.ins C dx fs)) (c:Hv X.K C) (n:aQ X.K C f) (l:fs.lookup f=some v)
  (h:∀u s',Inv X pins σ H s'→RelV v u→Q u s'):wpAny (model X.prog X.w) A (getAttr (.ref a) f b) Q E s:=by
 obtain⟨mA,O,r,_,_,_⟩:=Ip I.dN e
 obtain⟨u,hu,ru⟩:=ve.some_of (v:=v) (o:=mA f) (by rw[←l];exact r f)
 exact get_map I.LP O (c.get f) c.hd n hu (N4 ru) (h u _ (I.tok _) ru)
theorem E5 {m:Str} {g:Addr} {pl:Sem Bool} {Q:Value×List Value→Shared→Prop} (I:Inv X pins σ H s) (e:H a=some (.ins C dx fs)) (c:Hv X.K C) (k:Meth X.K C m g) (l:fs.lookup m=none)
  (h:Q (.ref g,[.ref a]) s):wpAny (model X.prog X.w) A (getMethod (.ref a) m pl) Q E s:=by
 obtain⟨mA,O,r,_,_,_⟩:=Ip I.dN e
 have hn:mA m=none:=ve.none_of (by rw[←l];exact r m)
 exact Qd I.LP O (c.get m) k.at_ k.fn hn h
theorem Ln {y:V} {u:Value} {Q:Unit→Shared→Prop} (I:Inv X pins σ H s) (e:H a=some (.ins C dx fs)) (c:Hv X.K C) (n:aQ X.K C f) (hl:fs.length<1000) (ry:RelV y u)
  (h:∀s',Inv X pins σ (upd H a (.ins C dx (aF f y fs))) s'→Q () s'):wpAny (model X.prog X.w) A (setAttr (.ref a) f u) Q E s:=by
 obtain⟨mA,O,r,wi,_,ho⟩:=Ip I.dN e
 have hz:(fs.map (·.1)).length≤sizeLine:=by rw[List.length_map,sizeLine_eq];omega
 refine Q3 I.LP O c.sa c.po n.TX c.hd wi hz fun h' O' sb=>h _ ?_
 have hd:∃o,h'.get? dx=some o:=let ⟨o,_,_,e',_⟩:=O'.ns;⟨o,e'⟩
 refine I.write (x:=a) (e:=dx) (by rw[e];exact True.intro) (.inr ho) (fun b q hb z=>(sb.2 b hb).trans z) hd ?_
 refine⟨by rw[af O.ne];exact ho,?_,O.ne,O'.obj,_,O'.ns,fun g=>?_,fun g hg=>?_⟩
 ·have:=vK f y fs;omega
 ·show ve ((aF f y fs).lookup g) (if g=f then some u else mA g)
  rw[qD]
  by_cases q:g=f
  ·rw[if_pos q,if_pos q];exact ry
  ·rw[if_neg q,if_neg q];exact r g
 ·by_cases q:g=f
  ·rw[q];exact (BM f y fs).1
  ·refine (BM f y fs).2 g (wi g fun z=>hg ?_)
   show (if g=f then some u else mA g)=none
   rw[if_neg q];exact z
theorem Inv.made (I:Inv X pins σ H s):Inv X pins σ (upd (upd H s.heap.objs.size (.own (s.heap.objs.size+1))) (s.heap.objs.size+1) (.ins C s.heap.objs.size []))
  { s with heap:=(s.heap.push PySem.W.emptyDict).push (PySem.W.instObj C s.heap.objs.size) }:=by
 have e1:(s.heap.push PySem.W.emptyDict).get? s.heap.objs.size=some PySem.W.emptyDict:=Heap.get?_push_size s.heap rfl
 have e2:((s.heap.push PySem.W.emptyDict).push (PySem.W.instObj C s.heap.objs.size)).get? (s.heap.objs.size+1)=some (PySem.W.instObj C s.heap.objs.size):=by
  have:=Heap.get?_push_size (s.heap.push PySem.W.emptyDict) (o:=PySem.W.instObj C s.heap.objs.size) rfl
  rwa [Heap.size_push] at this
 have e3:(s.heap.push PySem.W.emptyDict).Ns s.heap.objs.size (fun _=>none):=⟨PySem.W.emptyDict,#[],_,e1,rfl,(fun e he=>absurd he (by simp)),fun _=>rfl⟩
 have I1:=I.laid (a:=s.heap.objs.size) (o:=.own (s.heap.objs.size+1)) (h':=s.heap.push PySem.W.emptyDict) (t':=s.toks) (fun b u q=>Heap.get?_push_of_some _ q) (Nat.le_refl _) ⟨_,e1⟩
 refine I1.laid (a:=s.heap.objs.size+1) (o:=.ins C s.heap.objs.size []) (t':=s.toks) (fun b u q=>Heap.get?_push_of_some _ q) (Nat.le_of_eq (Heap.size_push _ _)) ?_
 have ne:s.heap.objs.size≠s.heap.objs.size+1:=Nat.ne_of_lt (Nat.lt_succ_self _)
 refine⟨by rw[af ne,ae],Nat.zero_le _,ne,e2,fun _=>none,(Heap.Ns1.of_empty e3).at fun o q=>Heap.get?_push_of_some _ q,fun _=>True.intro,fun y hy=>absurd rfl hy⟩
theorem RN {prog:Program} {w:World} {env:Env} {e:Expr} {f:Str} {pos:Pos} {s:Shared} {Q:Value→Shared→Prop} (hb:attributeBase e f env (eval e env)=eval e env)
  (h:wpAny (model prog w) A (eval e env) (fun o s₁=>wpAny (model prog w) A (getAttr o f true) Q E s₁) E s):wpAny (model prog w) A (eval (.Attribute e f pos) env) Q E s:=
 Attribute_any_ h (by rw[arm_eval_Attribute,hb])
end
@[reducible] noncomputable def Sz (K:PySem.W.Frag) (ta:TE) (f:Str):TE:=fun σ H Q=>ta σ H fun x H1=>∃a C dx fs v,x=.ref a∧H1 a=some (.ins C dx fs)∧Hv K C∧aQ K C f∧fs.lookup f=some v∧Q v H1
@[reducible] noncomputable def Ud (K:PySem.W.Frag) (ta tv:TE) (f:Str):TS:=fun D σ H=>tv σ H fun y H1=>ta σ H1 fun x H2=>∃a C dx fs,x=.ref a∧H2 a=some (.ins C dx fs)∧Hv K C∧aQ K C f∧fs.length<1000 ∧
 D.nx σ (upd H2 a (.ins C dx (aF f y fs)))
section
variable {X:Cx} {o e value:Expr} {f:Str} {pos pos' tpos:Pos} {ta tv:TE}
theorem ak (he:PE X e ta) (hb:attributeBase e f X.env (eval e X.env)=eval e X.env):PE X (.Attribute e f pos) (Sz X.K ta f):=by
 intro pins s σ H Q I h
 refine RN hb (gr (he pins s σ H _ I h) fun u s1 ⟨x,H1,I1,rx,a,C,dx,fs,v,ex,ea,c,n,l,q⟩=>?_)
 subst ex
 obtain rfl:u=Value.ref a:=rx
 exact LY I1 ea c n l fun u' s2 I2 ru=>⟨v,H1,I2,ru,q⟩
theorem bA (ha:PE X o ta) (hv:PE X value tv) (hs:swapsWith value (some (.Attribute o f pos')) pos.line X.env=pure false):PS X (.Assign [.Attribute o f pos'] value pos) (Ud X.K ta tv f):=by
 intro pins s σ H D I h
 refine plainObj_wpAny_Assign_Attribute (gr (hv pins s σ H _ I h) fun u s1 ⟨y,H1,I1,ry,q⟩=>gr (ha pins s1 σ H1 _ I1 q) fun ov s2 ⟨x,H2,I2,rx,a,C,dx,fs,ex,ea,c,n,l,q2⟩=>?_) hs
 subst ex
 obtain rfl:ov=Value.ref a:=rx
 exact Ln I2 ea c n l ry fun s3 I3=>⟨σ,_,I3,q2⟩
end
section
variable {X:Cx} {pins:List (Addr×Obj)} {σ:St} {H:Hp} {s:Shared} {A:Around} {E:Value→Shared→Prop} {Q:Value→Shared→Prop} {c:Value} {b:Bool}
end
end L2
namespace L2
open PySem PySem.Spec PyProof.Rows
structure nh (k:Nat) (A:Around):Prop where
 hd :A.handled=none
 dp :A.depth+3 * k+5<recursionLimit
 un :A.units+16 * k+200<cLine
theorem nh.mono {j k:Nat} {A:Around} (r:nh k A) (h:j≤k):nh j A:=⟨r.hd,by have:=r.dp;omega,by have:=r.un;omega⟩
theorem nh.deeper {k:Nat} {A:Around} (r:nh (k+1) A) (env:Env):nh k (A.deeper env):=
 ⟨r.hd,by have:=r.dp;show A.depth+1+3 * k+5<_;omega,by have:=r.un;show A.units+3+16 * k+200<_;omega⟩
theorem LN {A:Around} {C:Addr} {us:List Value} {kw:List (Str×Value)}:(A.under (.builtin "type.__call__" ⟨.ref C::us,kw⟩)).depth=A.depth+1:=by
 first | rfl | simp[Around.under,Code.weight,Code.isCreation,Code.isGuard,Code.isCaller,Code.frames,Code.isFrame,guardIds]
theorem LM {A:Around} {C:Addr} {us:List Value} {kw:List (Str×Value)}:(A.under (.builtin "type.__call__" ⟨.ref C::us,kw⟩)).units=A.units+1:=by
 first | rfl | simp[Around.under,Code.cUnits,Code.frames,Code.isFrame]
theorem nh.make {k:Nat} {A:Around} (r:nh (k+1) A) (C:Addr) (us:List Value) (kw:List (Str×Value)):nh k (A.under (.builtin "type.__call__" ⟨.ref C::us,kw⟩)):=
 ⟨r.hd,by have:=r.dp;rw[LN];omega,by have:=r.un;rw[LM];omega⟩
theorem nh.depth {k:Nat} {A:Around} (r:nh k A):A.depth<recursionLimit:=by have:=r.dp;omega
theorem nh.units {k:Nat} {A:Around} (r:nh k A):A.units+64<cLine:=by have:=r.un;omega
@[reducible] noncomputable def QU :TA:=fun _ H Q=>Q [] H
@[reducible] noncomputable def R7 (ta:TE) (tr:TA):TA:=fun σ H Q=>ta σ H fun x H1=>tr σ H1 fun xs H2=>Q (x::xs) H2
section
variable {X:Cx} {e:Expr} {es:List Expr} {te:TE} {t:TA} {pos:Pos}
theorem ah :PA X [] QU:=fun _ _ _ _ H Q I h=>Calls.spliced_nil ⟨[],H,I,.nil,h⟩
theorem aa (ha:PE X e te) (hr:PA X es t) (hs:starEach (e::es) X.env=(false,eval e X.env)::starEach es X.env:=by rfl):PA X (e::es) (R7 te t):=by
 intro pos pins s σ H Q I h
 rw[hs]
 show wpAny _ _ (spliced ((false,eval e X.env)::backTo pos (starEach es X.env))) _ _ s
 refine Calls.spliced_cons (gr (ha pins s σ H _ I h) fun u s1 ⟨x,H1,I1,r1,q1⟩=>?_)
 exact gr (hr pos pins s1 σ H1 _ I1 q1) fun us s2 ⟨xs,H2,I2,r2,q2⟩=>⟨x::xs,H2,I2,.cons r1 r2,q2⟩
@[reducible] noncomputable def T5 (t:TA):TE:=fun σ H Q=>t σ H fun xs H1=>xs.length≤sizeLine∧∀p,H1 p=none→Q (.ref p) (upd H1 p (.lst xs))
theorem bB (h:PA X es t):PE X (.List es pos) (T5 t):=by
 intro pins s σ H Q I hq
 refine wpAny_List_spliced (gr (h pos pins s σ H _ I hq) fun us s1 ⟨xs,H1,I1,r,z,q⟩=>⟨by rw[←r.length];exact z,?_⟩)
 have hf:H1 s1.heap.objs.size=none:=I1.dN.fresh (Nat.le_refl _)
 refine⟨.ref s1.heap.objs.size,upd H1 s1.heap.objs.size (.lst xs),I1.laid (t':=s1.toks) (fun b u e=>Heap.get?_push_of_some _ e) (Nat.le_refl _) ?_,rfl,q _ hf⟩
 exact⟨z,us,0,r,Heap.get?_push_size _ rfl⟩
end
noncomputable abbrev Sp :=List V→Hp→VK→XK→Prop
noncomputable abbrev OI :=List Env→Hp→Shared→XK→Value→Shared→Prop
structure Mi (P:Program) (w:World) (K:PySem.W.Frag) (mg:Str→Option Value) (base:Heap) (A:Around) (outer:List Env) (s:Shared) (H:Hp):Prop where
 frames :A.frames=some outer
 mod :Mod K mg base
 bs :∀b o,base.get? b=some o→s.heap.get? b=some o∧H b=none
 RL :base.objs.size≤s.heap.objs.size
 Dl :s.heap.FunFrames base outer
 Tf :∀b∈Qh outer,H b=none
 dN :wD P w H s.heap
 bare :AllBare s.gens
noncomputable def CE (outer:List Env) (P:Program) (w:World) (H:Hp) (s:Shared) (Q:VK) (u:Value) (s':Shared):Prop:=
 ∃v H',s'.os=s.os∧AllBare s'.gens∧Un (Qh outer) [] H H' s.heap s'.heap∧wD P w H' s'.heap∧RelV v u∧Q v H'
noncomputable def CR (CX:OI) (outer:List Env) (P:Program) (w:World) (H:Hp) (s:Shared) (Q:VK) (E:XK) (r:Result) (s':Shared):Prop:=
 match r with
 | .ok (.ret u)=>CE outer P w H s Q u s'
 | .ok _=>False
 | .error e=>CX outer H s E e s'
structure bz (P:Program) (w:World) (K:PySem.W.Frag) (mg:Str→Option Value) (base:Heap) (CX:OI) (k:Nat) (f:Addr) (fd:FuncData) (ps:List Str) (sp:Sp):Prop where
 len :∀vs H Q E,sp vs H Q E→vs.length=ps.length
 run :∀(A:Around) (outer:List Env) (s:Shared) (H:Hp) (args:Args) (us:List Value) (vs:List V) (Q:VK) (E:XK),nh k A→Mi P w K mg base A outer s H→BindsTo s fd args (ps.zip us)→Vals vs us→sp vs H Q E →
  codeAny (model P w) A (.call (.ref f) args) (CR CX outer P w H s Q E) s
theorem Mi.make {P:Program} {w:World} {K:PySem.W.Frag} {mg:Str→Option Value} {base:Heap} {A:Around} {outer:List Env} {s:Shared} {H:Hp} (e:Mi P w K mg base A outer s H) (C:Addr) (us:List Value) (kw:List (Str×Value)) :
  Mi P w K mg base (A.under (.builtin "type.__call__" ⟨.ref C::us,kw⟩)) outer s H:=⟨by first | exact e.frames | (simpa [Around.under,Code.envs,Code.isFrame,pushEnvs] using e.frames),e.mod,e.bs,e.RL,e.Dl,e.Tf,e.dN,e.bare⟩
section
variable {X:Cx} {pins:List (Addr×Obj)} {σ:St} {H:Hp} {s s':Shared}
theorem Inv.UA (I:Inv X pins σ H s):Mi X.prog X.w X.K X.mg X.base X.A X.stack s H:=
 ⟨I.ok.frames,I.ok.mod,I.bs,Nat.le_trans I.ok.RL I.sz,I.stack,I.Ml,I.dN,I.bare⟩
theorem Inv.after {Q:VK} {u:Value} (I:Inv X pins σ H s) (h:CE X.stack X.prog X.w H s Q u s'):EP X pins σ Q u s':=by
 obtain⟨v,H',os,bare,un,dN,r,q⟩:=h
 obtain⟨hh,g,d,t,os'⟩:=s'
 obtain rfl:os'=s.os:=os
 exact⟨v,H',I.call (h':=hh) (g':=g) (d':=d) (t':=t) (ch:=[]) un dN bare (fun b z=>absurd z (by simp)),r,q⟩
end
@[reducible] noncomputable def R8 (sp:Sp) (dvs:List V) (E:XK) (t:TA):TE:=fun σ H Q=>t σ H fun vs H1=>sp (vs++dvs) H1 Q E
@[reducible] noncomputable def OV (C:Addr) (m:Str) (sp:Sp) (dvs:List V) (E:XK) (ta:TE) (t:TA):TE:=fun σ H Q=>ta σ H fun x H1=>∃a dx fs,x=.ref a∧H1 a=some (.ins C dx fs)∧fs.lookup m=none ∧
 t σ H1 fun vs H2=>sp (x::(vs++dvs)) H2 Q E
@[reducible] noncomputable def OW (C:Addr) (sp:Sp) (dvs:List V) (E:XK) (t:TA):TE:=fun σ H Q=>t σ H fun vs H1=>∀x dx,H1 x=none→H1 dx=none→dx≠x →
 sp (.ref x::(vs++dvs)) (upd (upd H1 dx (.own x)) x (.ins C dx [])) (fun v H2=>v=.dh∧Q (.ref x) H2) E
noncomputable def Binds (K:PySem.W.Frag) (fd:FuncData) (ps:List Str) (ds:List Value):Prop:=
 ∀(s:Shared) (us:List Value),K.In s.heap→(us++ds).length=ps.length→BindsTo s fd ⟨us,[]⟩ (ps.zip (us++ds))
theorem Binds.all {K:PySem.W.Frag} {fd:FuncData} {ps:List Str} (h:∀us:List Value,us.length=ps.length→bindArgs fd ⟨us,[]⟩=pure (ps.zip us)):Binds K fd ps []:=fun s us _ hl=>by
 rw[List.append_nil] at hl ⊢
 exact .of_eq (h us hl)
noncomputable def Passes (CX:OI) (X:Cx) (E:XK):Prop:=∀(pins:List (Addr×Obj)) (σ:St) (H:Hp) (s:Shared) (e:Value) (s':Shared),Inv X pins σ H s→CX X.stack H s E e s'→X.xe e s'
section
variable {X:Cx} {CX:OI} {k:Nat} {f C:Addr} {fd:FuncData} {ps:List Str} {sp:Sp} {dvs:List V} {ds:List Value} {E:XK} {x m:Str} {p pos apos:Pos} {e o:Expr} {es:List Expr} {ta:TE} {t:TA}
theorem Lq {pins:List (Addr×Obj)} {σ:St} {H:Hp} {s:Shared} {Q:VK} {us:List Value} {vs:List V} (F:bz X.prog X.w X.K X.mg X.base CX k f fd ps sp) (hr:nh k X.A) (hb:Binds X.K fd ps ds) (hd:Vals dvs ds) (hx:Passes CX X E)
  (I:Inv X pins σ H s) (r:Vals vs us) (h:sp (vs++dvs) H Q E):wpAny (model X.prog X.w) X.A (call (.ref f) us) (EP X pins σ Q) X.xe s:=by
 have r2:Vals (vs++dvs) (us++ds):=r.append hd
 have hl:(us++ds).length=ps.length:=by rw[←r2.length];exact F.len _ _ _ _ h
 refine wpAny_call (codeAny_mono (F.run X.A X.stack s H ⟨us,[]⟩ (us++ds) (vs++dvs) Q E hr I.UA (hb s us I.LP hl) r2 h) fun r s' hq=>?_)
 cases r with
 | error e=>exact hx pins σ H s e s' I hq
 | ok fl=>
  cases fl with
  | ret u=>exact I.after hq
  | next=>exact False.elim hq
  | brk=>exact False.elim hq
  | cont=>exact False.elim hq
theorem aW (F:bz X.prog X.w X.K X.mg X.base CX k f fd ps sp) (hr:nh k X.A) (hg:Gl X x) (hm:X.mg x=some (.ref f)) (hk:PySem.W.keepIn X.K (.ref f)=true) (hb:Binds X.K fd ps ds) (hd:Vals dvs ds) (hx:Passes CX X E)
  (ha:PA X (e::es) t) (hdb:(x==("__debug__":Str))=false:=by decide) (he:starEach (e::es) X.env=(false,eval e X.env)::starEach es X.env:=by rfl) (hpl:(backTo pos (starEach es X.env)).any (·.1)=false:=by rfl) :
  PE X (.Call (.Name x p) (e::es) [] pos) (R8 sp dvs E t):=by
 intro pins s σ H Q I h
 refine wpAny_Call_Name_kw (DG I hg hm ?_ hdb)
 refine PySem.W.callWith_K (h₀:=X.base) I.ok.mod.Up hk (gr (ha pos pins s σ H _ I h) fun us s1 ⟨vs,H1,I1,r,q⟩=>⟨I1.LP,?_⟩) he hpl
 exact Lq F hr hb hd hx I1 r q
theorem cz {pl:Sem Bool} (he:PE X o ta) (c:Hv X.K C) (hm:Meth X.K C m f) (F:bz X.prog X.w X.K X.mg X.base CX k f fd ps sp) (hr:nh k X.A) (hb:Binds X.K fd ps ds) (hd:Vals dvs ds) (hx:Passes CX X E) (ha:PA X (e::es) t)
  (hst:starEach (e::es) X.env=(false,eval e X.env)::starEach es X.env:=by rfl) (hpl:(backTo pos (starEach es X.env)).any (·.1)=false:=by rfl)
  (ht:eval (.Call (.Attribute o m apos) (e::es) [] pos) X.env=(do
   let ov ←eval o X.env
   standAt apos.atName
   let (f,first) ←holding [ov] (getMethod ov m pl)
   callWith pos f first (backTo pos (starEach (e::es) X.env)) (backToKw pos (keywordEach [] X.env))):=by rfl) :
  PE X (.Call (.Attribute o m apos) (e::es) [] pos) (OV C m sp dvs E ta t):=by
 intro pins s σ H Q I h
 refine PySem.W.methodCall_KW (pl:=pl) (gr (he pins s σ H _ I h) fun u s1 ⟨x,H1,I1,rx,a,dx,fs,ex,ea,l,q⟩=>?_) ht
 subst ex
 obtain rfl:u=Value.ref a:=rx
 refine E5 I1 ea c hm l ?_
 refine PySem.W.callWith_K (first:=[.ref a]) (h₀:=X.base) I.ok.mod.Up hm.kp (gr (ha pos pins s1 σ H1 _ I1 q) fun us s2 ⟨vs,H2,I2,r,q2⟩=>⟨I2.LP,?_⟩) hst hpl
 exact Lq (us:=.ref a::us) (vs:=.ref a::vs) F hr hb hd hx I2 (.cons rfl r) q2
theorem j0 {pl:Sem Bool} (he:PE X o ta) (c:Hv X.K C) (hm:Meth X.K C m f) (F:bz X.prog X.w X.K X.mg X.base CX k f fd ps sp) (hr:nh k X.A) (hb:Binds X.K fd ps ds) (hd:Vals dvs ds) (hx:Passes CX X E)
  (ht:eval (.Call (.Attribute o m apos) [] [] pos) X.env=(do
   let ov ←eval o X.env
   standAt apos.atName
   let (f,first) ←holding [ov] (getMethod ov m pl)
   callWith pos f first (backTo pos (starEach [] X.env)) (backToKw pos (keywordEach [] X.env))):=by rfl) :
  PE X (.Call (.Attribute o m apos) [] [] pos) (OV C m sp dvs E ta QU):=by
 intro pins s σ H Q I h
 refine PySem.W.methodCall_KW (pl:=pl) (gr (he pins s σ H _ I h) fun u s1 ⟨x,H1,I1,rx,a,dx,fs,ex,ea,l,q⟩=>?_) ht
 subst ex
 obtain rfl:u=Value.ref a:=rx
 refine E5 I1 ea c hm l ?_
 exact PySem.W.callWith_K0 (first:=[.ref a]) I1.LP hm.kp (Lq (us:=[.ref a]) (vs:=[.ref a]) F hr hb hd hx I1 (.cons rfl .nil) q)
structure Mk (K:PySem.W.Frag) (C f:Addr):Prop where
 makes :PySem.W.makesIn K C=true
 init :PySem.W.findIn K (.ref C) "__init__"=some (some (.ref f))
 fn :PySem.W.isFn K (.ref f)=true
 kp :PySem.W.keepIn K (.ref C)=true
theorem JF {pins:List (Addr×Obj)} {σ:St} {H:Hp} {s:Shared} {Q:VK} {us:List Value} {vs:List V} (M:Mk X.K C f) (F:bz X.prog X.w X.K X.mg X.base CX k f fd ps sp) (hr:nh (k+1) X.A) (hb:Binds X.K fd ps ds) (hd:Vals dvs ds)
  (hx:Passes CX X E) (I:Inv X pins σ H s) (r:Vals vs us)
  (h:∀x dx,H x=none→H dx=none→dx≠x→sp (.ref x::(vs++dvs)) (upd (upd H dx (.own x)) x (.ins C dx [])) (fun v H2=>v=.dh∧Q (.ref x) H2) E) :
  wpAny (model X.prog X.w) X.A (call (.ref C) us) (EP X pins σ Q) X.xe s:=by
 have hq:=h (s.heap.objs.size+1) s.heap.objs.size (I.dN.fresh (Nat.le_succ _)) (I.dN.fresh (Nat.le_refl _)) (Nat.ne_of_lt (Nat.lt_succ_self _))
 have I2:=Inv.made (C:=C) I
 have r2:Vals (V.ref (s.heap.objs.size+1)::(vs++dvs)) (Value.ref (s.heap.objs.size+1)::(us++ds)):=.cons rfl (r.append hd)
 have hl:(Value.ref (s.heap.objs.size+1)::us++ds).length=ps.length:=by
  have e:=r2.length
  rw[F.len _ _ _ _ hq] at e
  exact e.symm
 refine wpAny_call (PR (f:=f) I.LP M.makes M.init (beq_iff_eq.mp M.fn) (codeAny_mono (F.run _ X.stack _ _ ⟨Value.ref (s.heap.objs.size+1)::us,[]⟩ (Value.ref (s.heap.objs.size+1)::(us++ds)) _ _ E (hr.make C us [])
  (I2.UA.make C us []) (hb _ (Value.ref (s.heap.objs.size+1)::us) I2.LP hl) r2 hq) fun r s' hq'=>?_))
 cases r with
 | error e=>exact hx pins σ _ _ e s' I2 hq'
 | ok fl=>
  cases fl with
  | ret u=>
   obtain⟨v,H',I3,rv,ev,q3⟩:=I2.after hq'
   subst ev
   exact⟨rv,⟨V.ref (s.heap.objs.size+1),H',I3,rfl,q3⟩⟩
  | next=>exact False.elim hq'
  | brk=>exact False.elim hq'
  | cont=>exact False.elim hq'
theorem iO (M:Mk X.K C f) (F:bz X.prog X.w X.K X.mg X.base CX k f fd ps sp) (hr:nh (k+1) X.A) (hg:Gl X x) (hm:X.mg x=some (.ref C)) (hb:Binds X.K fd ps ds) (hd:Vals dvs ds) (hx:Passes CX X E)
  (ha:PA X (e::es) t) (hdb:(x==("__debug__":Str))=false:=by decide) (he:starEach (e::es) X.env=(false,eval e X.env)::starEach es X.env:=by rfl) (hpl:(backTo pos (starEach es X.env)).any (·.1)=false:=by rfl) :
  PE X (.Call (.Name x p) (e::es) [] pos) (OW C sp dvs E t):=by
 intro pins s σ H Q I h
 refine wpAny_Call_Name_kw (DG I hg hm ?_ hdb)
 refine PySem.W.callWith_K (h₀:=X.base) I.ok.mod.Up M.kp (gr (ha pos pins s σ H _ I h) fun us s1 ⟨vs,H1,I1,r,q⟩=>⟨I1.LP,?_⟩) he hpl
 exact JF M F hr hb hd hx I1 r q
theorem vB (M:Mk X.K C f) (F:bz X.prog X.w X.K X.mg X.base CX k f fd ps sp) (hr:nh (k+1) X.A) (hg:Gl X x) (hm:X.mg x=some (.ref C)) (hb:Binds X.K fd ps ds) (hd:Vals dvs ds) (hx:Passes CX X E)
  (hdb:(x==("__debug__":Str))=false:=by decide):PE X (.Call (.Name x p) [] [] pos) (OW C sp dvs E QU):=by
 intro pins s σ H Q I h
 refine wpAny_Call_Name_kw (DG I hg hm ?_ hdb)
 exact PySem.W.callWith_K0 I.LP M.kp (JF (us:=[]) M F hr hb hd hx I .nil h)
end
section
variable {X:Cx} {CX:OI} {k:Nat} {f C:Addr} {fd:FuncData} {ps ks:List Str} {sp:Sp} {E:XK} {x m:Str} {p pos apos kpos:Pos} {e o:Expr} {es:List Expr} {kws:List Keyword} {te ta:TE} {t tk:TA} {nm:Option Str}
variable {g:List Value→List Value→List Value} {gV:List V→List V→List V}
end
structure az (N P:List Str) (sc:Scope):Prop where
 kind :sc.kind=.function
 co :sc.isCoroutine=false
 gen :sc.isGenerator=false
 nd :N.Nodup
 pre :N.take P.length=P
 par :∀x∈P,sc.names.lookup x=some .local∨sc.names.lookup x=some .cell
 SW :∀y∈sc.names,y.2≠.free
theorem Hk {kindOf:Str→Option NameKind} {x:Str}:∀{binds:List (Str×Value)} {m:Str→Option Value},(∀v,(x,v)∉binds)→bindL kindOf binds m x=m x
 | [],_,_=>rfl
 | (n,v)::r,m,h=>by
  unfold bindL
  rw[Hk fun w hw=>h w (List.mem_cons_of_mem _ hw)]
  split
  ·have :x≠n:=by rintro rfl;exact h v List.mem_cons_self
   simp[this]
  ·rfl
theorem Hm {kindOf:Str→Option NameKind} {x:Str}:∀{binds:List (Str×Value)} {m:Str→Option Value},(∀v,(x,v)∉binds)→bindC kindOf binds m x=m x
 | [],_,_=>rfl
 | (n,v)::r,m,h=>by
  unfold bindC
  rw[Hm fun w hw=>h w (List.mem_cons_of_mem _ hw)]
  split
  ·rfl
  ·have :x≠n:=by rintro rfl;exact h v List.mem_cons_self
   simp[this]
theorem Hl {kindOf:Str→Option NameKind} {x:Str} {v:Value}:∀{P:List Str} {vs:List Value} {i:Nat} {m:Str→Option Value},P.Nodup→P[i]?=some x→vs[i]?=some v→kindOf x=some .local →
  bindL kindOf (P.zip vs) m x=some v
 | [],_,_,_,_,h,_,_=>by simp at h
 | _ ::_,[],_,_,_,_,h,_=>by simp at h
 | p ::P,w::vs,0,m,nd,h1,h2,hk=>by
  simp at h1 h2;subst h1;subst h2
  show bindL kindOf ((p,w)::P.zip vs) m p=_
  unfold bindL
  rw[Hk fun v hv=>(List.nodup_cons.mp nd).1 (List.of_mem_zip hv).1,if_pos hk]
  simp
 | p ::P,w::vs,i+1,m,nd,h1,h2,hk=>by
  show bindL kindOf ((p,w)::P.zip vs) m x=_
  unfold bindL
  exact Hl (i:=i) (List.nodup_cons.mp nd).2 (by simpa using h1) (by simpa using h2) hk
theorem Hn {kindOf:Str→Option NameKind} {x:Str} {v:Value}:∀{P:List Str} {vs:List Value} {i:Nat} {m:Str→Option Value},P.Nodup→P[i]?=some x→vs[i]?=some v→kindOf x≠some .local →
  bindC kindOf (P.zip vs) m x=some v
 | [],_,_,_,_,h,_,_=>by simp at h
 | _ ::_,[],_,_,_,_,h,_=>by simp at h
 | p ::P,w::vs,0,m,nd,h1,h2,hk=>by
  simp at h1 h2;subst h1;subst h2
  show bindC kindOf ((p,w)::P.zip vs) m p=_
  unfold bindC
  rw[Hm fun v hv=>(List.nodup_cons.mp nd).1 (List.of_mem_zip hv).1,if_neg hk]
  simp
 | p ::P,w::vs,i+1,m,nd,h1,h2,hk=>by
  show bindC kindOf ((p,w)::P.zip vs) m x=_
  unfold bindC
  exact Hn (i:=i) (List.nodup_cons.mp nd).2 (by simpa using h1) (by simpa using h2) hk
noncomputable def start (N:List Str) (vs:List V):St:=vs.map some++List.replicate (N.length - vs.length) none
noncomputable def Of (CX:OI) (P:Program) (w:World) (K:PySem.W.Frag) (mg:Str→Option Value) (base:Heap) (N:List Str) (qual:Str) (scope:Scope) (f:Addr) (cd:Value) (A:Around) (outer:List Env) (s:Shared) (H:Hp) (E:XK):Cx where
 prog:=P
 w:=w
 K:=K
 mg:=mg
 base:=base
 A:=A.deeper (envOfC qual scope s.heap.objs.size f cd)
 N:=N
 GU:=s
 UP:=H
 env:=envOfC qual scope s.heap.objs.size f cd
 outer:=outer
 stack:=envOfC qual scope s.heap.objs.size f cd::outer
 ex:=[]
 calm:=true
 fn:=fun _=>true
 pn:=[]
 xe:=fun e s'=>wpAny (model P w) (A.deeper (envOfC qual scope s.heap.objs.size f cd)) (leaving (envOfC qual scope s.heap.objs.size f cd) e) (fun _ s''=>CX outer H s E e s'') (fun e' s''=>CX outer H s E e' s'') s'
theorem Ky {sc:Scope} {n:Nat} {x:Str} (h:sc.names.lookup x=some .cell):∃c,(cellsFrom n sc.names []).lookup x=some c:=by
 have q:=PySem.W.cellsFrom_some sc.names n [] (.inl h)
 exact Option.isSome_iff_exists.mp q
theorem NZ {CX:OI} {P:Program} {w:World} {K:PySem.W.Frag} {mg:Str→Option Value} {base:Heap} {N ps:List Str} {qual:Str} {scope:Scope} {f:Addr} {cd:Value} {A:Around} {outer:List Env} {s s1:Shared} {H:Hp} {E:XK} {us:List Value} {vs:List V}
  (S:az N ps scope) (hd:A.handled=none) (e0:Mi P w K mg base A outer s H) (hl:vs.length=ps.length) (r:Vals vs us)
  (x:InCallC s s.heap.objs.size (bindL (envOfC qual scope s.heap.objs.size f cd).kindOf (ps.zip us) fun _=>none) (cellsFrom (s.heap.objs.size+1) scope.names []) (bindC (envOfC qual scope s.heap.objs.size f cd).kindOf (ps.zip us) fun _=>none) s1) :
  Inv (Of CX P w K mg base N qual scope f cd A outer s H E) [] (start N vs) H s1:=by
 have hpl:ps.length≤N.length:=by have:=congrArg List.length S.pre;rw[List.length_take] at this;omega
 obtain⟨h1,tk,rfl,hk⟩:=x.done
 have noA:∀b:Addr,b∉(Of CX P w K mg base N qual scope f cd A outer s H E).ex:=fun b z=>absurd (show b∈([]:List Addr) from z) (by simp)
 refine⟨⟨e0.mod,S.kind,rfl,rfl,Nat.le_refl _,fun y z c h1 h2=>?_,fun y hy=>?_,fun y c _ h=>?_,fun _=>hd,Around.frames_deeper e0.frames,.inr ⟨rfl,rfl⟩,fun b z=>absurd z (noA b),e0.bs,e0.RL,fun b _ _=>noA b,fun b z=>absurd z (noA b),e0.Dl,e0.Tf⟩,
  rfl,e0.bare,Un.kept hk,⟨_,x.toInCall.ns,fun i y v h1 h2 h3=>?_⟩,fun y c h=>⟨_,x.cell y c h⟩,e0.dN.fresh (Nat.le_refl _),fun y c h=>?_,fun p hp=>absurd (show p∈([]:List (Addr×Obj)) from hp) (by simp),e0.dN.kept hk,?_⟩
 ·exact name_of_addr x.apart (PySem.mem_of_lookup h1) (PySem.mem_of_lookup h2)
 ·have hy:scope.names.lookup y=some .cell∨scope.names.lookup y=some .free:=hy
  rcases hy with hy | hy
  ·exact Ky hy
  ·exact absurd rfl (S.SW _ (PySem.mem_of_lookup hy))
 ·exact Nat.le_of_lt (x.above y c (PySem.mem_of_lookup h))
 ·have hi:i<vs.length:=by
   unfold start at h2
   by_cases hi:i<vs.length
   ·exact hi
   ·rw[List.getElem?_append_right (by simpa using hi)] at h2
    rw[List.getElem?_replicate] at h2
    split at h2<;>cases h2
  have ha:vs[i]?=some v:=by
   unfold start at h2
   rw[List.getElem?_append_left (by simpa using hi),List.getElem?_map] at h2
   cases e:vs[i]? with
   | none=>rw[e] at h2;cases h2
   | some a=>rw[e] at h2;cases h2;rfl
  obtain⟨u,hu,rv⟩:=r.get ha
  have hp:ps[i]?=some y:=by
   rw[←S.pre,List.getElem?_take_of_lt (by omega)];exact h1
  have ndP:ps.Nodup:=by rw[←S.pre];exact S.nd.sublist (List.take_sublist _ _)
  refine⟨u,rv,?_⟩
  rcases S.par y (List.mem_of_getElem? hp) with k | k
  ·exact .inl ⟨k,Hl ndP hp hu k⟩
  ·obtain⟨c,e⟩:=Ky (n:=s.heap.objs.size+1) k
   refine .inr ⟨.inl k,c,e,?_⟩
   have q:=x.cell y c e
   rw[Hn ndP hp hu (by show scope.names.lookup y≠_;rw[k];decide)] at q
   exact q
 ·exact e0.dN.fresh (Nat.le_of_lt (x.above y c (PySem.mem_of_lookup h)))
 ·unfold start
  show _=N.length
  rw[List.length_append,List.length_map,List.length_replicate]
  omega
theorem Ux {CX:OI} {P:Program} {w:World} {K:PySem.W.Frag} {mg:Str→Option Value} {base:Heap} {k:Nat} {f:Addr} {name qual:Str} {params:Arguments} {body:List Stmt} {scope:Scope} {dV kV doc pm cdv ct oc:Value} {an od:Option Addr}
  {osl:Array (Option Value)} {N ps:List Str} {sp:Sp} (lk:K.lookup f=some ⟨oc,od,.func (PySem.W.fnOf name qual params body scope dV kV doc pm an cdv ct),osl⟩) (hcd:PySem.W.codeIn K cdv qual=true) (S:az N ps scope)
  (len:∀vs H Q E,sp vs H Q E→vs.length=ps.length)
  (hbody:∀(A:Around) (outer:List Env) (s:Shared) (H:Hp) (vs:List V) (Q:VK) (E:XK),nh k (A.deeper (envOfC qual scope s.heap.objs.size f cdv))→sp vs H Q E →
   ∃t,Oz (Of CX P w K mg base N qual scope f cdv A outer s H E) body t∧t { nx:=fun _ H'=>Q .dh H',rt:=Q } (start N vs) H) :
  bz P w K mg base CX (k+1) f (PySem.W.fnOf name qual params body scope dV kV doc pm an cdv ct) ps sp:=by
 refine⟨len,fun A outer s H args us vs Q E hr e0 hb r hsp=>?_⟩
 have hl:=len _ _ _ _ hsp
 have KX:K.In s.heap:=e0.mod.Up.keeps fun b o e=>(e0.bs b o e).1
 have lim:s.heap.NoLimit:=e0.mod.nolimit.keeps fun b o e=>(e0.bs b o e).1
 have hkind:∀y∈ps.zip us,scope.names.lookup y.1=some .local∨(scope.names.lookup y.1=some .cell∧((cellsFrom (s.heap.objs.size+1) scope.names []).lookup y.1).isSome=true):=fun ⟨n,v⟩ hy=>by
  rcases S.par n (List.of_mem_zip hy).1 with q | q
  ·exact .inl q
  ·exact .inr ⟨q,PySem.W.cellsFrom_some _ _ _ (.inl q)⟩
 refine codeAny_call_function hr.depth (KX _ _ lk) rfl S.co S.gen rfl (PySem.W.codeRec_of KX hcd) (hb _ _ _ _ ?_)
 refine wpAny_newFunctionEnv_cells S.kind hkind fun env he s1 x=>?_
 subst he
 refine⟨lim.keeps x.toInCall.keep,codeAny_func ?_⟩
 obtain⟨t,ht,hq⟩:=hbody A outer s H vs Q E (hr.deeper _) hsp
 have I:Inv (Of CX P w K mg base N qual scope f cdv A outer s H E) [] (start N vs) H s1:=NZ S hr.hd e0 hl r x
 refine wpAny_mono (ht [] s1 (start N vs) H _ I hq) (fun fl s' hs=>?_) fun e s' hs=>hs
 have fin:∀{σ':St} {H':Hp} {v:V} {u:Value},Inv (Of CX P w K mg base N qual scope f cdv A outer s H E) [] σ' H' s'→RelV v u→Q v H'→CE outer P w H s Q u s':=
  fun {σ' H' v u} J rv q=>⟨v,H',J.os,J.bare,J.base,J.dN,rv,q⟩
 cases fl with
 | ret u=>
  obtain⟨v,σ',H',J,rv,q⟩:=hs
  exact fin J rv q
 | next=>
  obtain⟨σ',H',J,q⟩:=hs
  exact fin (v:=V.dh) (u:=Value.none) J rfl q
 | brk=>
  obtain⟨_,_,_,q⟩:=hs
  exact False.elim q
 | cont=>
  obtain⟨_,_,_,q⟩:=hs
  exact False.elim q
end L2
namespace L2
open PySem PySem.Spec PyProof.Rows
section
variable {X:Cx} {x:Str} {p pos:Pos} {e:Expr} {es:List Expr} {t:TA} {id T:String} {r:List V→Hp→VK→Prop}
@[reducible] noncomputable def VD (r:List V→Hp→VK→Prop) (t:TA):TE:=fun σ H Q=>t σ H fun vs H1=>r vs H1 Q
theorem aD (hc:wF X (.builtin id) r) (hg:Gl X x) (hm:X.mg x=none) (hv:bootBuiltins x=some (.builtin id)) (ha:PA X (e::es) t) (hn:x≠"__name__":=by decide) (hdb:(x==("__debug__":Str))=false:=by decide)
  (he:starEach (e::es) X.env=(false,eval e X.env)::starEach es X.env:=by rfl) (hpl:(backTo pos (starEach es X.env)).any (·.1)=false:=by rfl):PE X (.Call (.Name x p) (e::es) [] pos) (VD r t):=by
 intro pins s σ H Q I h
 refine wpAny_Call_Name_kw (Ik I hg hm hv ?_ hn hdb)
 exact PyProof.Rows.callWith_builtin1 (gr (ha pos pins s σ H _ I h) fun us s1 ⟨vs,H1,I1,r1,q1⟩=>hc pins s1 σ H1 vs us Q I1 r1 q1) he hpl
end
end L2
namespace HT
open PySem PyProof.Rows
section
open PySem.SeqAt
open PySem.AutoSeq1 (wpAny_loadPart')
open PySem.MeetsSeq PySem.MeetsSeq2 PySem.MeetsSeq3
end
section
variable {prog:Program} {w:World} {A:Around} {E:Value→Shared→Prop} {s:Shared}
noncomputable def HN (n d:Nat):Option Int→Nat
 | none=>d
 | some v=>if v<0 then (v+(n:Int)).toNat else min v.toNat n
theorem O8 (n d:Nat):HN n d none=d:=rfl
theorem HM (n d k:Nat):HN n d (some (k:Int))=min k n:=by
 show (if (k:Int)<0 then ((k:Int)+(n:Int)).toNat else min (k:Int).toNat n)=min k n
 rw[if_neg (by omega),Int.toNat_natCast]
end
end HT
namespace L2
open PySem PySem.Spec PyProof.Rows
noncomputable abbrev TO :=St→Hp→(Option Int→Hp→Prop)→Prop
noncomputable def PO (X:Cx) (e:Option Expr) (t:TO):Prop:=
 ∀(pins:List (Addr×Obj)) (s:Shared) (σ:St) (H:Hp) (Q:Option Int→Hp→Prop),Inv X pins σ H s→t σ H Q →
  wpAny (model X.prog X.w) X.A (evalPart e X.env) (fun u s'=>∃o H',Inv X pins σ H' s'∧IsPart u o∧Q o H') X.xe s
@[reducible] noncomputable def Mj :TO:=fun _ H Q=>Q none H
@[reducible] noncomputable def R0 (t:TE):TO:=fun σ H Q=>t σ H fun x H1=>∃i,x=.int i∧Q (some i) H1
section
variable {X:Cx} {e:Expr} {te:TE} {lo hi:Option Expr} {tl th:TO} {pos p2:Pos}
theorem Rc :PO X none Mj:=by
 intro pins s σ H Q I h
 rw[evalPart_none]
 exact wpAny_pure ⟨none,H,I,.none,h⟩
theorem HR (h:PE X e te):PO X (some e) (R0 te):=by
 intro pins s σ H Q I hw
 rw[evalPart_some]
 refine gr (h pins s σ H _ I hw) fun u s1 ⟨x,H1,I1,r1,q1⟩=>?_
 obtain⟨i,rfl,q⟩:=q1
 obtain⟨t,rfl⟩:=r1
 exact⟨some i,H1,I1,.int i t,q⟩
noncomputable def VL (X:Cx) (r:V→Option Int→Option Int→Hp→VK→Prop):Prop:=
 ∀(pins:List (Addr×Obj)) (s:Shared) (σ:St) (H:Hp) (x:V) (v vl vu:Value) (lo hi:Option Int) (sl:Addr) (Q:VK),Inv X pins σ H s→RelV x v→s.heap.IsSliceOf sl vl vu .none→IsPart vl lo→IsPart vu hi→r x lo hi H Q →
  ∃T id,typeLookup (.type T) "__getitem__"=pure (some (.builtin id))∧s.TypeIs v T∧wpAny (model X.prog X.w) X.A (getItem v (.ref sl)) (EP X pins σ Q) X.xe s
@[reducible] noncomputable def VA (r:V→Option Int→Option Int→Hp→VK→Prop) (te:TE) (tl th:TO):TE:=fun σ H Q=>te σ H fun x H1=>tl σ H1 fun l H2=>th σ H2 fun u H3=>r x l u H3 Q
theorem JI {r:V→Option Int→Option Int→Hp→VK→Prop} (hr:VL X r) (he:PE X e te) (hl:PO X lo tl) (hu:PO X hi th):PE X (.Subscript e (.Slice lo hi none p2) pos) (VA r te tl th):=by
 intro pins s σ H Q I h
 refine Subscript_ (gr (he pins s σ H _ I h) fun v s1 ⟨x,H1,I1,r1,q1⟩=>?_)
 refine wpAny_Slice (gr (hl pins s1 σ H1 _ I1 q1) fun vl s2 ⟨l,H2,I2,pl,q2⟩=>gr (hu pins s2 σ H2 _ I2 q2) fun vu s3 ⟨u,H3,I3,pu,q3⟩=>?_)
 rw[evalPart_none]
 refine wpAny_pure ?_
 have I4:Inv X pins σ H3 { s3 with heap:=s3.heap.push { cls:=.type "slice",data:=.fields #[vl,vu,.none] } }:=I3.kept (t':=s3.toks) fun b ob q=>Heap.get?_push_of_some _ q
 obtain⟨T,id,hT,ht,hg⟩:=hr pins { s3 with heap:=s3.heap.push { cls:=.type "slice",data:=.fields #[vl,vu,.none] } } σ H3 x v vl vu l u s3.heap.objs.size Q I4 r1 (Heap.IsSliceOf.new ..) pl pu q3
 show wpAny (model X.prog X.w) X.A (subscriptTail e (.Slice lo hi none p2) v (.ref s3.heap.objs.size)) (EP X pins σ Q) X.xe { s3 with heap:=s3.heap.push { cls:=.type "slice",data:=.fields #[vl,vu,.none] } }
 exact tail_any (ops:=[.ref s3.heap.objs.size,v]) ht hT hg (by with_unfolding_all rfl)
noncomputable def IQ (xs:List V) (lo hi:Option Int):List V:=(xs.drop (HT.HN xs.length 0 lo)).take (HT.HN xs.length xs.length hi - HT.HN xs.length 0 lo)
theorem Ks (xs:List V) (lo hi:Option Int):(IQ xs lo hi).length≤xs.length:=by
 unfold IQ
 rw[List.length_take,List.length_drop]
 omega
end
end L2
namespace L2
open PySem PySem.Spec PyProof.Rows
noncomputable def PZ (n:Nat) (i:Int):Option Nat:=if 0≤i then (if i<n then some i.toNat else none) else if -(n:Int)≤i then some (i+n).toNat else none
noncomputable def DS {α:Type} (xs:List α) (i:Int):Option α:=(PZ xs.length i).bind fun j=>xs[j]?
theorem MG {n:Nat} {i:Int} {j:Nat} (h:PZ n i=some j):seqIndex? i n=some j∧j<n∧-(n:Int)≤i∧i<n:=by
 unfold PZ at h
 by_cases h0:0≤i
 ·rw[if_pos h0] at h
  by_cases h1:i<n
  ·rw[if_pos h1] at h
   have e:i.toNat=j:=Option.some.inj h
   exact⟨by rw[seqIndex_of h0 h1,e],by omega,by omega,h1⟩
  ·rw[if_neg h1] at h;cases h
 ·rw[if_neg h0] at h
  by_cases h1:-(n:Int)≤i
  ·rw[if_pos h1] at h
   have e:(i+n).toNat=j:=Option.some.inj h
   exact⟨by rw[seqIndex_neg (by omega) h1,e],by omega,h1,by omega⟩
  ·rw[if_neg h1] at h;cases h
theorem MZ {α:Type} {xs:List α} {i:Int} {v:α} (h:DS xs i=some v):∃j,seqIndex? i xs.length=some j∧xs[j]?=some v∧j<xs.length∧-(xs.length:Int)≤i∧i<xs.length:=by
 unfold DS at h
 cases e:PZ xs.length i with
 | none=>rw[e] at h;cases h
 | some j=>
  rw[e] at h
  obtain⟨h1,h2,h3,h4⟩:=MG e
  exact⟨j,h1,h,h2,h3,h4⟩
theorem bt {α:Type} {xs:List α} {j:Nat} {v:α} (h:xs[j]?=some v):DS xs (j:Int)=some v:=by
 have hj:j<xs.length:=(List.getElem?_eq_some_iff.mp h).1
 have e:PZ xs.length (j:Int)=some j:=by
  unfold PZ
  rw[if_pos (by omega),if_pos (by omega)];simp
 unfold DS;rw[e];exact h
theorem KS {α:Type} (xs:List α) (v:α):DS (xs++[v]) (-1)=some v:=by
 have hl:(xs++[v]).length=xs.length+1:=by simp
 have e:PZ (xs++[v]).length (-1)=some xs.length:=by
  unfold PZ
  rw[hl,if_neg (by decide),if_pos (by omega)]
  congr 1
  omega
 unfold DS
 rw[e]
 show (xs++[v])[xs.length]?=some v
 simp
noncomputable def RS (b:Expr):Prop:=∀o i,subscripted b false o i=operate [o,i] (getItem o i)
noncomputable def U7 (X:Cx) (r:R2):Prop:=
 ∀(value slice:Expr) (pins:List (Addr×Obj)) (s:Shared) (σ:St) (H:Hp) (x y:V) (v u:Value) (Q:VK),Inv X pins σ H s→RelV x v→RelV y u→r x y H Q →
  subscripted slice false v u=operate [v,u] (getItem v u)→wpAny (model X.prog X.w) X.A (subscriptTail value slice v u) (EP X pins σ Q) X.xe s
noncomputable def U6 (X:Cx) (id:String) (r:V→List V→Hp→VK→Prop):Prop:=
 ∀(pins:List (Addr×Obj)) (s:Shared) (σ:St) (H:Hp) (x:V) (xs:List V) (v:Value) (us:List Value) (Q:VK),Inv X pins σ H s→RelV x v→Vals xs us→r x xs H Q →
  wpAny (model X.prog X.w) X.A (call (.builtin id) (v::us)) (EP X pins σ Q) X.xe s
section
variable {X:Cx} {a b:Expr} {ta tb:TE} {pos:Pos}
theorem bw {r:R2} (hr:U7 X r) (ha:PE X a ta) (hb:PE X b tb) (hs:RS b):PE X (.Subscript a b pos) (T3 r ta tb):=by
 intro pins s σ H Q I h
 exact Subscript_ (Tt ha hb I h fun v u s2 x y H2 I2 rx ry q=>hr a b pins s2 σ H2 x y v u Q I2 rx ry q (hs _ _))
noncomputable def Ui (K:PySem.W.Frag):R2:=fun x y H Q=>∃p xs i v,x=.ref p∧y=.int i∧aM K H p xs∧DS xs i=some v∧Q v H
noncomputable def Vd (K:PySem.W.Frag):R2:=fun x y H Q=>∃p xs i v,x=.ref p∧y=.int i∧GH K H p xs∧DS xs i=some v∧Q v H
theorem aN :U7 X (Ui X.K):=by
 intro value slice pins s σ H x y v u Q I rx ry h hs
 obtain⟨p,xs,i,z,rfl,rfl,hq,he,q⟩:=h
 cases rx
 obtain⟨t,rfl⟩:=ry
 obtain⟨its,r,pl,hz⟩:=I.list hq
 obtain⟨j,h1,h2,h3,h4,h5⟩:=MZ he
 obtain⟨w,ew,rw'⟩:=r.get h2
 have hl:=r.length
 have hn:=EV
 have fin:EP X pins σ Q w s:=⟨z,H,I,rw',q⟩
 by_cases h0:0≤i
 ·have hj:i.toNat=j:=by
   rw[seqIndex_of h0 h5] at h1
   exact Option.some.inj h1
  exact item_listR pl.isList h0 (by omega) (by rw[hj];simpa using ew) fin hs
 ·have hj:(i+(its.toArray.size:Int)).toNat=j:=by
   rw[seqIndex_neg (by omega) h4] at h1
   rw[List.size_toArray,←hl]
   exact Option.some.inj h1
  exact subscriptTail_builtinR (x:=w) pl.isList.typeIs slot_list_getitem.lookup
   (wpAny_getItem_list_neg (Q:=fun r s'=>r=w∧EP X pins σ Q r s') pl.isList (by omega) (by rw[List.size_toArray]<;>omega) (by omega) (by rw[hj];simpa using ew) ⟨rfl,fin⟩) hs
theorem LQ :U7 X (Vd X.K):=by
 intro value slice pins s σ H x y v u Q I rx ry h hs
 obtain⟨p,xs,i,z,rfl,rfl,hq,he,q⟩:=h
 cases rx
 obtain⟨t,rfl⟩:=ry
 obtain⟨its,r,pl,hz⟩:=I.tuple hq
 obtain⟨j,h1,h2,h3,h4,h5⟩:=MZ he
 obtain⟨w,ew,rw'⟩:=r.get h2
 have hl:=r.length
 have hn:=EV
 have fin:EP X pins σ Q w s:=⟨z,H,I,rw',q⟩
 exact subscriptTail_builtinR (x:=w) pl.typeIs slot_tuple_getitem.lookup
  (getItem_tuple (j:=j) (Q:=fun r s'=>r=w∧EP X pins σ Q r s') pl (by omega) (by omega) (by rw[List.size_toArray,←hl];exact h1) (by simpa using ew) ⟨rfl,fin⟩) hs
theorem LL (its:List Value) (n j:Nat) (u:Value):Obj.mapSeq (·.setIfInBounds j u) { cls:=.type "list",data:=.seq its.toArray n }={ cls:=.type "list",data:=.seq (its.set j u).toArray n }:=by
 simp[Obj.mapSeq]
theorem Inv.lst {pins:List (Addr×Obj)} {σ:St} {H:Hp} {s:Shared} {p:Addr} {xs:List V} (I:Inv X pins σ H s) (h:H p=some (.lst xs)) :
  ∃(its:List Value) (n:Nat),Vals xs its∧s.heap.get? p=some { cls:=.type "list",data:=.seq its.toArray n }∧xs.length≤sizeLine:=by
 obtain⟨z,its,n,r,e⟩:=I.dN p _ h
 exact⟨its,n,r,e,z⟩
theorem Inv.S0 {pins:List (Addr×Obj)} {σ:St} {H:Hp} {s:Shared} {p:Addr} {xs ys:List V} {its its':List Value} {n n':Nat} {f:Obj→Obj} (I:Inv X pins σ H s) (h:H p=some (.lst xs))
  (ho:s.heap.get? p=some { cls:=.type "list",data:=.seq its.toArray n }) (hf:f { cls:=.type "list",data:=.seq its.toArray n }={ cls:=.type "list",data:=.seq its'.toArray n' }) (r:Vals ys its') (hz:ys.length≤sizeLine) (t:Nat) :
  Inv X pins σ (upd H p (.lst ys)) { s with heap:=s.heap.update p f,toks:=t }:=by
 have e:(s.heap.update p f).get? p=some { cls:=.type "list",data:=.seq its'.toArray n' }:=by
  rw[Heap.get?_update_self f ho (by rw[hf]<;>rfl),hf]
 refine I.write (x:=p) (e:=p) (by rw[h];trivial) (.inl rfl) (fun b u hb q=>(Heap.get?_update_other _ _ (Ne.symm hb)).trans q) ⟨_,e⟩ ?_
 exact⟨hz,its',n',r,e⟩
noncomputable def Uh :V→V→V→Hp→(Hp→Prop)→Prop:=fun o i v H Q=>∃p xs k j,o=.ref p∧i=.int k∧H p=some (.lst xs)∧PZ xs.length k=some j∧Q (upd H p (.lst (xs.set j v)))
theorem set_list :UJ X Uh:=by
 intro pins s σ H o i v ov iv u Q I ro ri rv h
 obtain⟨p,xs,k,j,rfl,rfl,hp,hj,q⟩:=h
 cases ro
 obtain⟨t,rfl⟩:=ri
 obtain⟨its,n,r,ho,hz⟩:=I.lst hp
 obtain⟨h1,h2,h3,h4⟩:=MG hj
 have hl:=r.length
 have hn:=EV
 have I':Inv X pins σ (upd H p (.lst (xs.set j v))) { s with heap:=s.heap.update p (Obj.mapSeq (·.setIfInBounds j u)) }:=
  I.S0 hp ho (LL its n j u) (r.set rv j) (by rw[List.length_set];exact hz) s.toks
 by_cases h0:0≤k
 ·have hk:k.toNat=j:=by
   rw[seqIndex_of h0 h4] at h1
   exact Option.some.inj h1
  exact PySem.W.ki_setAt ho h0 (by omega) (by rw[List.size_toArray,←hl];exact h4) (by rw[hk];exact⟨_,I',q⟩)
 ·have hk:(k+(its.toArray.size:Int)).toNat=j:=by
   rw[seqIndex_neg (by omega) h3] at h1
   rw[List.size_toArray,←hl]
   exact Option.some.inj h1
  exact PySem.W.ki_setBack ho (by omega) (by rw[List.size_toArray,←hl];exact h3) (by omega) (by rw[hk];exact⟨_,I',q⟩)
theorem HE (lo hi:Option Int) (n:Nat):(sliceBounds lo hi none n).1=((HT.HN n 0 lo:Nat):Int)∧(sliceBounds lo hi none n).2.1=((HT.HN n n hi:Nat):Int)∧(sliceBounds lo hi none n).2.2=1:=by
 refine⟨?_,?_,rfl⟩
 ·cases lo with
  | none=>simp[sliceBounds,HT.HN]
  | some i=>
   simp only[sliceBounds,HT.HN,Option.getD_none,show (1:Int) > 0 by decide,if_true]
   by_cases h:i<0
   ·simp only[h,if_true]<;>omega
   ·simp only[h,if_false]<;>omega
 ·cases hi with
  | none=>simp[sliceBounds,HT.HN]
  | some i=>
   simp only[sliceBounds,HT.HN,Option.getD_none,show (1:Int) > 0 by decide,if_true]
   by_cases h:i<0
   ·simp only[h,if_true]<;>omega
   ·simp only[h,if_false]<;>omega
theorem FW (its:List Value) (lo hi:Option Int):slicePick its.toArray lo hi none=((its.drop (HT.HN its.length 0 lo)).take (HT.HN its.length its.length hi - HT.HN its.length 0 lo)).toArray:=by
 obtain⟨h1,h2,h3⟩:=HE lo hi its.toArray.size
 unfold slicePick
 rw[h1,h2,h3]
 simp only[sliceRange_one,pick_run,List.size_toArray]<;>rfl
noncomputable def Vb (K:PySem.W.Frag):V→Option Int→Option Int→Hp→VK→Prop:=fun x lo hi H Q=>∃a xs,x=.ref a∧aM K H a xs∧∀p,H p=none→Q (.ref p) (upd H p (.lst (IQ xs lo hi)))
theorem Mm :VL X (Vb X.K):=by
 intro pins s σ H x v vl vu lo hi sl Q I rx hs pl pu h
 obtain⟨a,xs,rfl,hx,q⟩:=h
 cases rx
 obtain⟨its,r,ht,hz⟩:=I.list hx
 have hlen:=r.length
 refine⟨"list",_,slot_list_getitem.lookup,ht.isList.typeIs,?_⟩
 refine wpAny_getItem_list_slice ht.isList hs pl pu .none (by simp) ?_ (by rw[List.size_toArray]<;>omega)
 rw[FW,←hlen]
 refine⟨.ref s.heap.objs.size,_,I.laid (t':=s.toks) (o:=.lst (IQ xs lo hi)) (fun b ob q=>Heap.get?_push_of_some _ q) (Nat.le_refl _) ?_,rfl,q _ (I.dN.fresh (Nat.le_refl _))⟩
 exact⟨Nat.le_trans (Ks xs lo hi) hz,_,0,(r.drop (HT.HN xs.length 0 lo)).take (HT.HN xs.length xs.length hi - HT.HN xs.length 0 lo),Heap.get?_push_size _ rfl⟩
noncomputable def su :V→Bool
 | .dh=>true
 | .bl _=>true
 | .int _=>true
 | .str _=>true
 | _=>false
noncomputable def Oc :V→V→Bool
 | .dh,.dh=>true
 | .bl a,.bl b=>a==b
 | .bl a,.int b=>(if a then 1 else 0)==b
 | .int a,.bl b=>a==(if b then 1 else 0)
 | .int a,.int b=>a==b
 | .str a,.str b=>a==b
 | _,_=>false
theorem Ti {A:Around} {s:Shared} {y x:V} {u v:Value} (ry:RelV y u) (rx:RelV x v) (fy:su y=true) (fx:su x=true):SeqAt.EqAt A s u v (Oc y x):=by
 cases y with
 | dh=>
  cases ry
  cases x with
  | dh=>cases rx;exact SeqAt.EqAt.same _
  | bl b=>cases rx;exact SeqAt.EqAt.none_bool b
  | int b=>obtain⟨t,rfl⟩:=rx;exact SeqAt.EqAt.none_int b t
  | str b=>obtain⟨t,rfl⟩:=rx;exact SeqAt.EqAt.none_str b t
  | _=>exact absurd (show false=true from fx) Bool.false_ne_true
 | bl a=>
  cases ry
  cases x with
  | dh=>cases rx;exact SeqAt.EqAt.bool_none a
  | bl b=>cases rx;exact SeqAt.EqAt.bool_bool a b
  | int b=>obtain⟨t,rfl⟩:=rx;exact SeqAt.EqAt.bool_int a b t
  | str b=>obtain⟨t,rfl⟩:=rx;exact SeqAt.EqAt.bool_str a b t
  | _=>exact absurd (show false=true from fx) Bool.false_ne_true
 | int a=>
  obtain⟨t',rfl⟩:=ry
  cases x with
  | dh=>cases rx;exact SeqAt.EqAt.int_none a t'
  | bl b=>cases rx;exact SeqAt.EqAt.int_bool a t' b
  | int b=>obtain⟨t,rfl⟩:=rx;exact SeqAt.EqAt.int_int a t' b t
  | str b=>obtain⟨t,rfl⟩:=rx;exact SeqAt.EqAt.int_str a t' b t
  | _=>exact absurd (show false=true from fx) Bool.false_ne_true
 | str a=>
  obtain⟨t',rfl⟩:=ry
  cases x with
  | dh=>cases rx;exact SeqAt.EqAt.str_none a t'
  | bl b=>cases rx;exact SeqAt.EqAt.str_bool a t' b
  | int b=>obtain⟨t,rfl⟩:=rx;exact SeqAt.EqAt.str_int a t' b t
  | str b=>obtain⟨t,rfl⟩:=rx;exact SeqAt.EqAt.str_str a t' b t
  | _=>exact absurd (show false=true from fx) Bool.false_ne_true
 | _=>exact absurd (show false=true from fy) Bool.false_ne_true
noncomputable def K4 (x:V) (u:Value):Bool:=match u with
 | .none=>Oc .dh x
 | .bool b=>Oc (.bl b) x
 | .int i _=>Oc (.int i) x
 | .str z _=>Oc (.str z) x
 | _=>false
theorem IL {x y:V} {u:Value} (r:RelV y u) (f:su y=true):K4 x u=Oc y x:=by
 cases y with
 | dh=>cases r;rfl
 | bl b=>cases r;rfl
 | int i=>obtain⟨t,rfl⟩:=r;rfl
 | str z=>obtain⟨t,rfl⟩:=r;rfl
 | _=>exact absurd (show false=true from f) Bool.false_ne_true
theorem Bd {x:V}:∀{xs:List V} {us:List Value},Vals xs us→xs.all su=true→us.any (K4 x)=xs.any fun y=>Oc y x
 | _,_,.nil,_=>rfl
 | y ::xs,u::us,.cons r t,f=>by
  rw[List.all_cons,Bool.and_eq_true] at f
  rw[List.any_cons,List.any_cons,IL r f.1,Bd t f.2]
theorem r9 {A:Around} {s:Shared} {x:V} {v:Value} (rx:RelV x v) (fx:su x=true):∀{xs:List V} {us:List Value},Vals xs us→xs.all su=true→∀u∈us,SeqAt.EqAt A s u v (K4 x u)
 | _,_,.nil,_=>fun u hu=>by cases hu
 | y ::xs,u::us,.cons r t,f=>fun u' hu=>by
  rw[List.all_cons,Bool.and_eq_true] at f
  rcases List.mem_cons.mp hu with rfl | hu
  ·rw[IL r f.1];exact Ti r rx f.1 fx
  ·exact r9 rx fx t f.2 u' hu
noncomputable def K3 (x:V) (xs:List V):Bool:=xs.any fun y=>Oc y x
noncomputable def VG (K:PySem.W.Frag) (neg:Bool):R2:=fun x y H Q=>∃p xs,y=.ref p∧(aM K H p xs∨GH K H p xs)∧su x=true∧xs.all su=true∧Q (.bl (if neg then !K3 x xs else K3 x xs)) H
theorem NK :zp X (compareOp .In) (VG X.K false):=by
 intro pins s σ H x y v u Q I rx ry h
 obtain⟨p,xs,rfl,hq,fx,fs,q⟩:=h
 cases ry
 rcases hq with hq | hq
 ·obtain⟨its,r,pl,hz⟩:=I.list hq
  refine SeqAt.in_listAt (K4 x) pl.isList (fun w hw=>r9 rx fx r fs w (by simpa using hw)) ⟨.bl _,H,I,rfl,?_⟩
  rw[show its.toArray.any (K4 x)=its.any (K4 x) by simp,Bd r fs]
  exact q
 ·obtain⟨its,r,pl,hz⟩:=I.tuple hq
  refine SeqAt.in_tupleAt (K4 x) pl (fun w hw=>r9 rx fx r fs w (by simpa using hw)) ⟨.bl _,H,I,rfl,?_⟩
  rw[show its.toArray.any (K4 x)=its.any (K4 x) by simp,Bd r fs]
  exact q
theorem HY :zp X (compareOp .NotIn) (VG X.K true):=by
 intro pins s σ H x y v u Q I rx ry h
 obtain⟨p,xs,rfl,hq,fx,fs,q⟩:=h
 cases ry
 rcases hq with hq | hq
 ·obtain⟨its,r,pl,hz⟩:=I.list hq
  refine SeqAt.notIn_listAt (K4 x) pl.isList (fun w hw=>r9 rx fx r fs w (by simpa using hw)) ⟨.bl _,H,I,rfl,?_⟩
  rw[show its.toArray.any (K4 x)=its.any (K4 x) by simp,Bd r fs]
  exact q
 ·obtain⟨its,r,pl,hz⟩:=I.tuple hq
  refine SeqAt.notIn_tupleAt (K4 x) pl (fun w hw=>r9 rx fx r fs w (by simpa using hw)) ⟨.bl _,H,I,rfl,?_⟩
  rw[show its.toArray.any (K4 x)=its.any (K4 x) by simp,Bd r fs]
  exact q
theorem aB :wF X (.builtin "len") (fun xs H Q=>∃p ys,xs=[.ref p]∧(aM X.K H p ys∨GH X.K H p ys)∧Q (.int ys.length) H):=by
 intro pins s σ H xs us Q I r h
 obtain⟨p,ys,rfl,hq,q⟩:=h
 obtain⟨u,rfl,rx⟩:=vals1 r
 cases rx
 have hn:=EV
 rcases hq with hq | hq
 ·obtain⟨its,r',pl,hz⟩:=I.list hq
  have hlen:=r'.length
  exact Calls.call_len_list pl.isList (by simp only[List.size_toArray]<;>omega) ⟨.int ys.length,H,I.tok _,⟨s.toks+1,by rw[List.size_toArray,hlen]⟩,q⟩
 ·obtain⟨its,r',pl,hz⟩:=I.tuple hq
  have hlen:=r'.length
  exact len_tuple pl (by simp only[List.size_toArray]<;>omega) ⟨.int ys.length,H,I.tok _,⟨s.toks+1,by rw[List.size_toArray,hlen]⟩,q⟩
noncomputable def US (K:PySem.W.Frag) (T:String) (x:V) (H:Hp):Prop:=match x with
 | .str _=>T="str"
 | .int _=>T="int"
 | .ref p=>(T="list"∧∃xs,aM K H p xs)∨(T="tuple"∧∃o,K.lookup p=some o∧o.cls=.type "tuple"∧o.dict=none) ∨
   (T="dict"∧((∃kvs,H p=some (.dK kvs))∨∃kvs,H p=some (.dT kvs)))∨(T="set"∧∃S n,H p=some (.set S n))
 | _=>False
theorem OQ {pins:List (Addr×Obj)} {σ:St} {H:Hp} {s:Shared} {T:String} {x:V} {v:Value} (I:Inv X pins σ H s) (r:RelV x v) (ty:US X.K T x H) :
  s.TypeIs v T∧∀a,v=.ref a→∃ob,s.heap.get? a=some ob∧ob.dict=none:=by
 cases x with
 | str z=>
  obtain⟨t,rfl⟩:=r
  cases (show T="str" from ty)
  exact⟨typeIs_str s z t,fun _ e=>nomatch e⟩
 | int i=>
  obtain⟨t,rfl⟩:=r
  cases (show T="int" from ty)
  exact⟨typeIs_int s i t,fun _ e=>nomatch e⟩
 | ref p=>
  cases r
  rcases ty with ⟨rfl,xs,hq⟩ | ⟨rfl,o,hk,hc,hd⟩ | ⟨rfl,hk⟩ | ⟨rfl,S,n,hk⟩
  ·obtain⟨its,_,pl,_⟩:=I.list hq
   refine⟨pl.isList.typeIs,fun a e=>?_⟩
   cases e
   obtain⟨o,n,e,c,hd,_⟩:=pl
   exact⟨o,e,hd⟩
  ·refine⟨⟨o,I.LP p o hk,hc⟩,fun a e=>?_⟩
   cases e
   exact⟨o,I.LP _ o hk,hd⟩
  ·have z:∃o,s.heap.get? p=some o∧o.ExactDict:=by
    rcases hk with ⟨kvs,hk⟩ | ⟨kvs,hk⟩
    ·obtain⟨_,_,_,_,o,_,_,e,ex,_⟩:=I.dN p _ hk
     exact⟨o,e,ex⟩
    ·obtain⟨_,_,_,_,o,_,_,e,ex,_⟩:=I.dN p _ hk
     exact⟨o,e,ex⟩
   obtain⟨o,e,ex⟩:=z
   refine⟨⟨o,e,ex.1⟩,fun a e2=>?_⟩
   cases e2
   exact⟨o,e,ex.2.1⟩
  ·obtain⟨o,_,_,_,e,ex,_⟩:=I.dN p _ hk
   refine⟨⟨o,e,ex.1⟩,fun a e2=>?_⟩
   cases e2
   exact⟨o,e,ex.2.1⟩
 | _=>exact False.elim ty
@[reducible] noncomputable def T9 (K:PySem.W.Frag) (T:String) (r:V→List V→Hp→VK→Prop) (to:TE):TE:=fun σ H Q=>to σ H fun x H1=>US K T x H1∧r x [] H1 Q
@[reducible] noncomputable def VE (K:PySem.W.Frag) (T:String) (r:V→List V→Hp→VK→Prop) (to:TE) (t:TA):TE:=fun σ H Q=>to σ H fun x H1=>US K T x H1∧t σ H1 fun xs H2=>r x xs H2 Q
variable {o e:Expr} {es:List Expr} {to:TE} {t:TA} {name:Str} {apos cpos:Pos} {T id:String} {r:V→List V→Hp→VK→Prop}
theorem SS (pa:PlainAttrs T) (slot:Slot T name id) (hty:typeOf (.builtin id)=pure (.type "method_descriptor")) (hm:U6 X id r) (ho:PE X o to)
  (hbase:attributeBase o name X.env (eval o X.env)=eval o X.env:=by rfl) (hline:(apos.endLine==cpos.line)=true:=by rfl):PE X (.Call (.Attribute o name apos) [] [] cpos) (T9 X.K T r to):=by
 intro pins s σ H Q I h
 refine wpAny_Call_method0_late hbase hline (gr (ho pins s σ H _ I h) fun v s1 ⟨x,H1,I1,r1,ty,q1⟩=>?_)
 obtain⟨h1,h2⟩:=OQ I1 r1 ty
 exact⟨T,id,pa,slot,hty,h1,h2,Calls.callWith_builtin rfl (PySem.evalArgs_none (hm pins s1 σ H1 x [] v [] Q I1 r1 .nil q1))⟩
theorem g6 (pa:PlainAttrs T) (slot:Slot T name id) (hty:typeOf (.builtin id)=pure (.type "method_descriptor")) (hm:U6 X id r) (ho:PE X o to) (ha:PA X (e::es) t)
  (hbase:attributeBase o name X.env (eval o X.env)=eval o X.env:=by rfl)
  (hfew:((backTo cpos (starEach (e::es) X.env)).all (fun x=>!x.1)&&(backToKw cpos (keywordEach [] X.env)).all (fun x=>x.1.isSome)
   && decide ((e::es).length+([]:List Keyword).length+(if ([]:List Keyword).isEmpty then 0 else 1)<30))=true:=by rfl)
  (hline:(apos.endLine==cpos.line)=true:=by rfl) (hs:starEach (e::es) X.env=(false,eval e X.env)::starEach es X.env:=by rfl) (hplain:(backTo cpos (starEach es X.env)).any (·.1)=false:=by rfl) :
  PE X (.Call (.Attribute o name apos) (e::es) [] cpos) (VE X.K T r to t):=by
 intro pins s σ H Q I h
 refine wpAny_Call_method_late hbase hfew hline rfl (gr (ho pins s σ H _ I h) fun v s1 ⟨x,H1,I1,r1,ty,q1⟩=>?_)
 obtain⟨h1,h2⟩:=OQ I1 r1 ty
 refine⟨T,id,pa,slot,hty,h1,h2,?_⟩
 have hA:=ha cpos pins s1 σ H1 _ I1 q1
 rw[hs] at hA ⊢
 refine Calls.callWith_builtin (by show (false || (backTo cpos (starEach es X.env)).any (·.1))=false;rw[hplain]<;>rfl) (Calls.evalArgs_plain ?_)
 exact gr hA fun us s2 ⟨vs,H2,I2,r2,q2⟩=>hm pins s2 σ H2 x vs v us Q I2 r1 r2 q2
end
end L2
namespace L2
open PySem PySem.Spec PyProof.Rows
noncomputable def Vw (X:Cx) (id:String) (r:V→List V→Hp→VK→Prop):Prop:=
 ∀(pins:List (Addr×Obj)) (s:Shared) (σ:St) (H:Hp) (x:V) (xs:List V) (v:Value) (us:List Value) (Q:VK),Inv X pins σ H s→RelV x v→Vals xs us→r x xs H Q →
  wpAny (model X.prog X.w) X.A (call (.builtin id) (v::us)) (EP X pins σ Q) X.xe s
theorem Vals.one :∀{x:V} {us:List Value},Vals [x] us→∃u,us=[u]∧RelV x u
 | _,_,.cons r .nil=>⟨_,rfl,r⟩
theorem Vals.zero :∀{us:List Value},Vals [] us→us=[]
 | _,.nil=>rfl
theorem Vals.dropLast {xs:List V} {us:List Value} (h:Vals xs us):Vals xs.dropLast us.dropLast:=by
 induction h with
 | nil=>exact .nil
 | cons r t ih=>
  cases t with
  | nil=>exact .nil
  | cons q t'=>exact .cons r ih
theorem L0 {α:Type} (l:List α):l.eraseIdx (l.length - 1)=l.dropLast:=by
 induction l with
 | nil=>rfl
 | cons a r ih=>
  cases r with
  | nil=>rfl
  | cons b r=>
   have e:(a::b::r).length - 1=((b::r).length - 1)+1:=by
    have h1:(a::b::r).length=r.length+2:=rfl
    have h2:(b::r).length=r.length+1:=rfl
    omega
   rw[e,List.eraseIdx_cons_succ,ih]
   all_goals rfl
section
variable {X:Cx} {pins:List (Addr×Obj)} {σ:St} {H:Hp} {s:Shared} {l b:Addr} {xs ys zs:List V}
theorem Inv.S1 {its its':List Value} {n:Nat} {f:Array Value→Array Value} {t':Nat} (I:Inv X pins σ H s) (hH:H l=some (.lst xs))
  (e:s.heap.get? l=some { cls:=.type "list",data:=.seq its.toArray n }) (hf:f its.toArray=its'.toArray) (hv:Vals ys its') (hz:ys.length≤sizeLine) :
  Inv X pins σ (upd H l (.lst ys)) { s with heap:=s.heap.update l (Obj.mapSeq f),toks:=t' }:=by
 have q:=PySem.IsL.update e f
 rw[hf] at q
 refine I.write (x:=l) (e:=l) (by rw[hH];exact trivial) (.inl rfl) (fun b' u hb hu=>(Heap.get?_update_other s.heap (Obj.mapSeq f) (Ne.symm hb)).trans hu) ⟨_,q⟩ ?_
 exact⟨hz,its',_,hv,q⟩
theorem Inv.Vl {its:List Value} {t':Nat} (I:Inv X pins σ H s) (hv:Vals ys its) (hz:ys.length≤sizeLine) :
  Inv X pins σ (upd H s.heap.objs.size (.lst ys)) { s with heap:=s.heap.push { cls:=.type "list",data:=.seq its.toArray },toks:=t' }:=
 I.laid (fun _ _ q=>Heap.get?_push_of_some _ q) (Nat.le_refl _) ⟨hz,its,0,hv,Heap.get?_push_size _ rfl⟩
theorem Inv.fresh (I:Inv X pins σ H s):H s.heap.objs.size=none:=I.dN.fresh (Nat.le_refl _)
theorem Inv.NQ (I:Inv X pins σ H s) (hH:H l=some (.lst xs)):xs.length≤sizeLine∧∃(its:List Value) (n:Nat),Vals xs its∧xs.length=its.length∧s.heap.get? l=some { cls:=.type "list",data:=.seq its.toArray n }:=by
 obtain⟨z,its,n,r,e⟩:=I.dN l _ hH
 exact⟨z,its,n,r,r.length,e⟩
theorem PJ {n:Nat} (h:n≤sizeLine):Builtin.List.listTooLong n=false:=by
 unfold Builtin.List.listTooLong
 exact decide_eq_false (by omega)
end
section
variable {X:Cx}
noncomputable def Q9 :V→List V→Hp→VK→Prop:=fun x vs H Q=>∃l xs y,x=.ref l∧vs=[y]∧H l=some (.lst xs)∧xs.length<sizeLine∧Q .dh (upd H l (.lst (xs++[y])))
theorem bR :Vw X "list.append" Q9:=by
 intro pins s σ H x vs v us Q I rx rv h
 obtain⟨l,xs,y,rfl,rfl,hH,hz,q⟩:=h
 cases rx
 obtain⟨u,rfl,ru⟩:=rv.one
 obtain⟨z,its,n,r,hl,e⟩:=I.NQ hH
 refine call_meets F.slot_list_append ⟨_,e,rfl⟩ F.entry_list_append (F.args_list_append_2 _ _) (PySem.list_append l its.toArray n u (by rw[List.size_toArray];omega)) ⟨e,?_⟩
 refine⟨.dh,_,I.S1 (its':=its++[u]) hH e (by simp) (r.append (.cons ru .nil)) ?_,rfl,q⟩
 rw[List.length_append,List.length_singleton]
 omega
noncomputable def Q8 :V→List V→Hp→VK→Prop:=fun x vs H Q=>∃l b xs zs,x=.ref l∧vs=[.ref b]∧H l=some (.lst xs)∧H b=some (.lst zs)∧xs.length+zs.length≤sizeLine∧Q .dh (upd H l (.lst (xs++zs)))
theorem G3 :Vw X "list.extend" Q8:=by
 intro pins s σ H x vs v us Q I rx rv h
 obtain⟨l,b,xs,zs,rfl,rfl,hH,hB,hz,q⟩:=h
 cases rx
 obtain⟨u,rfl,ru⟩:=rv.one
 cases ru
 obtain⟨z,its,n,r,hl,e⟩:=I.NQ hH
 obtain⟨z2,its2,n2,r2,hl2,e2⟩:=I.NQ hB
 have hsz:its.toArray.size+its2.toArray.size≤sizeLine:=by rw[List.size_toArray,List.size_toArray];omega
 have hlong:¬(!its.toArray.isEmpty&&Builtin.List.listTooLong (its.toArray.size+its2.toArray.size))=true:=by
  rw[PJ hsz,Bool.and_false]
  exact Bool.false_ne_true
 refine call_meets F.slot_list_extend ⟨_,e,rfl⟩ F.entry_list_extend (F.args_list_extend_2 _ _)
  (AutoSeq1.list_extend_list_list_0 l its.toArray n b its2.toArray n2 hlong (by rw[List.size_toArray];omega) (by omega)) ⟨e,e2,?_⟩
 refine⟨.dh,_,I.S1 (its':=its++its2) hH e (by simp) (r.append r2) ?_,rfl,q⟩
 rw[List.length_append]
 omega
noncomputable def Vc :V→List V→Hp→VK→Prop:=fun x vs H Q=>∃l xs y,x=.ref l∧vs=[]∧H l=some (.lst xs)∧xs[xs.length - 1]?=some y∧Q y (upd H l (.lst xs.dropLast))
theorem SX :Vw X "list.pop" Vc:=by
 intro pins s σ H x vs v us Q I rx rv h
 obtain⟨l,xs,y,rfl,rfl,hH,hy,q⟩:=h
 cases rx
 have hus:=rv.zero
 subst hus
 obtain⟨z,its,n,r,hl,e⟩:=I.NQ hH
 obtain⟨u,hu,ru⟩:=r.get hy
 have hy':its.toArray[its.toArray.size - 1]?=some u:=by
  show its.toArray[its.length - 1]?=some u
  rw[←Array.getElem?_toList,←hl]
  exact hu
 refine call_meets F.slot_list_pop ⟨_,e,rfl⟩ F.entry_list_pop (F.args_list_pop_1 _) (MeetsSeq.list_pop_last l its.toArray n u hy' (by rw[List.size_toArray];omega)) ⟨e,?_⟩
 refine⟨y,_,I.S1 (its':=its.dropLast) hH e ?_ r.dropLast ?_,ru,q⟩
 ·show its.toArray.eraseIdxIfInBounds (its.toArray.size - 1)=its.dropLast.toArray
  rw[List.size_toArray,List.eraseIdxIfInBounds_toArray,L0]
 ·rw[List.length_dropLast]
  omega
noncomputable def Vf :R2:=fun x y H Q=>∃l b xs zs,x=.ref l∧y=.ref b∧H l=some (.lst xs)∧H b=some (.lst zs)∧xs.length+zs.length≤sizeLine∧∀p,H p=none→Q (.ref p) (upd H p (.lst (xs++zs)))
theorem LA :zp X (binaryOp .Add) Vf:=by
 intro pins s σ H x y v u Q I rx ry h
 obtain⟨l,b,xs,zs,rfl,rfl,hH,hB,hz,q⟩:=h
 cases rx
 cases ry
 obtain⟨z,its,n,r,hl,e⟩:=I.NQ hH
 obtain⟨z2,its2,n2,r2,hl2,e2⟩:=I.NQ hB
 refine PySem.P.add_list e e2 ?_ (by rw[List.size_toArray,List.size_toArray];omega)
 have ea:its.toArray++its2.toArray=(its++its2).toArray:=by simp
 rw[ea]
 exact⟨.ref _,_,I.Vl (t':=s.toks) (r.append r2) (by rw[List.length_append];omega),rfl,q _ I.fresh⟩
end
section
variable {prog:Program} {w:World} {A:Around} {E:Value→Shared→Prop} {s:Shared}
set_option maxRecDepth 100000 in
end
section
variable {X:Cx}
end
end L2
namespace L2
open PySem PySem.Spec PyProof.Rows
theorem Vals.ints :∀{ns:List Int} {us:List Value},Vals (ns.map V.int) us→IntsAre us ns
 | [],us,h=>by
  rw[List.map_nil] at h
  cases h
  exact IntsAre.nil
 | n ::ns,us,h=>by
  rw[List.map_cons] at h
  cases h with
  | cons r t=>
   obtain⟨k,rfl⟩:=r
   exact IntsAre.cons n k (Vals.ints t)
theorem sW :∀{us:List Value} {ns:List Int},IntsAre us ns→Vals (ns.map V.int) us
 | _,_,.nil=>by rw[List.map_nil];exact Paired.nil
 | _,_,.cons n t h=>by rw[List.map_cons];exact Paired.cons (show RelV (V.int n) (Value.int n t) from ⟨t,rfl⟩) (sW h)
theorem Vals.VJ :∀{bs:List Bool} {us:List Value},Vals (bs.map V.bl) us→us=bs.map Value.bool
 | [],us,h=>by
  rw[List.map_nil] at h
  cases h
  rfl
 | b ::bs,us,h=>by
  rw[List.map_cons] at h
  cases h with
  | cons r t=>
   cases r
   rw[Vals.VJ t,List.map_cons]
theorem Vals.Q5 {a:Addr} {us:List Value} (r:Vals [V.ref a] us):us=[Value.ref a]:=by
 cases r with
 | cons r t=>
  cases t
  cases r
  rfl
section
variable {prog:Program} {w:World} {A:Around} {E:Value→Shared→Prop} {s:Shared} {l:Addr} {its:List Value} {ns:List Int} {Q:Value→Shared→Prop}
theorem QV (hh:A.handled=none) (hl:s.heap.IsList l its.toArray) (hi:IntsAre its ns)
  (h:∀h' tk t',(∀b o,s.heap.get? b=some o→h'.get? b=some o)→Q (.int ns.sum t') { s with heap:=h',toks:=tk }):wpAny (model prog w) A (call (.builtin "sum") [.ref l]) Q E s:=by
 obtain⟨xs,e⟩:=hi.allInts.items
 have hn:numsOf (intItems xs).toList=ns:=by rw[←e];exact hi.numsOf
 rw[nums_intItems] at hn
 rw[e] at hl
 refine PySem.sum_intListG hh hl fun h' tk t' hk=>?_
 have:=h h' tk t' hk
 rw[preSum_eq,List.take_of_length_le (by simp),hn];exact this
end
section
variable {X:Cx}
noncomputable def Va (K:PySem.W.Frag):List V→Hp→VK→Prop:=fun vs H Q=>∃(a:Addr) (ns:List Int),vs=[V.ref a]∧aM K H a (ns.map V.int)∧Q (.int ns.sum) H
theorem Qn (hc:X.calm=true):wF X (.builtin "sum") (Va X.K):=by
 intro pins s σ H vs us Q I r h
 obtain⟨a,ns,rfl,hs,q⟩:=h
 obtain⟨its,rv,hl,_⟩:=I.list hs
 rw[Vals.Q5 r]
 exact QV (I.ok.hd hc) hl.isList rv.ints fun h' tk t' hk=>⟨.int _,H,I.kept hk,⟨_,rfl⟩,q⟩
noncomputable def Q6 (K:PySem.W.Frag):List V→Hp→VK→Prop:=fun vs H Q=>∃(a:Addr) (ns:List Int),vs=[V.ref a]∧aM K H a (ns.map V.int)∧ns.length<64 ∧
 ∀(ns':List Int) (p:Addr),ns'.Perm ns→ns'.Pairwise (·≤·)→H p=none→Q (.ref p) (upd H p (.lst (ns'.map V.int)))
theorem Q1 {n:Nat} (h:n<64):n≤sizeLine:=by rw[sizeLine_eq];omega
theorem Og :wF X (.builtin "sorted") (Q6 X.K):=by
 intro pins s σ H vs us Q I r h
 obtain⟨a,ns,rfl,hs,h64,q⟩:=h
 obtain⟨its,rv,hl,_⟩:=I.list hs
 rw[Vals.Q5 r]
 have hi:=rv.ints
 refine PyProof.Rows.sorted_ints hl.isList hi (by rw[hi.length];exact h64) fun out ns' h1 h2 h3=>?_
 obtain⟨ep,he'⟩:=PyProof.Rows.sortedAll_at s.heap its out
 have hlen:(ns'.map V.int).length≤sizeLine:=by rw[List.length_map,h2.length_eq];exact Q1 h64
 exact⟨.ref _,upd H (s.heap.objs.size+1) (.lst (ns'.map V.int)),I.laid (t':=s.toks) (fun _ _=>PyProof.Rows.sortedAll_old) (Nat.le_succ _) ⟨hlen,out.toList,ep,sW h1,he'⟩,rfl,q ns' _ h2 h3 (I.dN.fresh (Nat.le_succ _))⟩
end
section
variable {X:Cx}
noncomputable def SK (K:PySem.W.Frag):V→List V→Hp→VK→Prop:=fun x xs H Q=>∃(a:Addr) (ys:List V) (y:V) (j:Nat) (z:V),x=V.ref a∧xs=[y]∧aM K H a ys∧su y=true∧ys.all su=true∧ys[j]?=some z∧Oc z y=true ∧
 (∀(m:Nat) (z':V),m<j→ys[m]?=some z'→Oc z' y=false)∧Q (.int (j:Nat)) H
theorem MO {ys:List V} (f:ys.all su=true) {j:Nat} {z:V} (h:ys[j]?=some z):su z=true:=List.all_eq_true.mp f z (List.mem_of_getElem? h)
theorem PN :U6 X "list.index" (SK X.K):=by
 intro pins s σ H x xs v us Q I rx rxs h
 obtain⟨a,ys,y,j,z,rfl,rfl,hs,fy,fys,hz,hzj,hno,q⟩:=h
 cases rx
 cases rxs with
 | cons ry rt=>
  rename_i uy ut
  cases rt
  obtain⟨its,rv,⟨⟨cls,dd,data,sl⟩,n,ho,hc,hdn,hd⟩,hlen⟩:=I.list hs
  simp only at hc hd
  subst hc hd
  obtain⟨u,hu,ru⟩:=rv.get hz
  obtain⟨hjl,hje⟩:=List.getElem?_eq_some_iff.mp hu
  have hvl:=rv.length
  have hj:j<its.toArray.size:=by simpa using hjl
  have hsl:=sizeLine_eq
  refine call_meets PySem.F.slot_list_index ⟨_,ho,rfl⟩ PySem.F.entry_list_index (PySem.F.args_list_index_2 _ _)
   (SeqAt.list_indexAt a its.toArray n dd sl uy (K4 y) j hj (by omega) ?_ ?_) ⟨ho,fun u' hu'=>r9 ry fy rv fys u' (by simpa using hu'),?_⟩
  ·have e1:its.toArray[j]=u:=by simpa using hje
   rw[e1,IL ru (MO fys hz)]
   exact hzj
  ·intro m hm hmj
   have hml:m<its.length:=by simpa using hm
   have hmy:m<ys.length:=by omega
   have hy':ys[m]?=some ys[m]:=List.getElem?_eq_getElem hmy
   obtain⟨u2,hu2,ru2⟩:=rv.get hy'
   obtain⟨_,hme⟩:=List.getElem?_eq_some_iff.mp hu2
   have e1:its.toArray[m]=u2:=by simpa using hme
   rw[e1,IL ru2 (MO fys hy')]
   exact hno m _ hmj hy'
  ·exact⟨.int (j:Nat),H,I.tok _,⟨_,rfl⟩,q⟩
end
section
variable {X:Cx}
end
theorem P0 {prog:Program} {w:World} {A:Around} {E:Value→Shared→Prop} {s:Shared} {l:Addr} {items:Array Value} {Q:Value→Shared→Prop} (hl:s.heap.IsList l items)
  (h:∀s₂:Shared,s₂={ s with heap:=s.heap.push { cls:=.type "list_iterator",data:=.fields #[.ref l,.int 0 0] } } →
   (s₂.heap.IsListIter s.heap.objs.size l 0∧s₂.heap.IsList l items)→l≠s.heap.objs.size→Q (.ref s.heap.objs.size) s₂):wpAny (model prog w) A (pyIter (.ref l)) Q E s:=by
 have hlt:l<s.heap.objs.size:=by obtain⟨_,e,_⟩:=hl;exact Heap.lt_size e
 exact wpAny_pyIter_list hl (h _ rfl ⟨⟨_,Heap.get?_push_size _ rfl,rfl,rfl⟩,hl.push _⟩ (Nat.ne_of_lt hlt))
theorem Jm {prog:Program} {w:World} {A:Around} {bs:List Bool} {its:List Value} (e:its=bs.map Value.bool) :
  TruthOf prog w A (fun i v=>its.toArray[i]?=some v) (fun i=>bs.getD i false):=fun i v s Q E hv hq=>by
 have hv':its[i]?=some v:=by simpa using hv
 rw[e,List.getElem?_map] at hv'
 obtain⟨b,hb,rfl⟩:=Option.map_eq_some_iff.mp hv'
 have hg:bs.getD i false=b:=by rw[List.getD_eq_getElem?_getD,hb]<;>rfl
 have hq':Q (bs.getD i false) s:=hq
 rw[hg] at hq'
 exact wpAny_truthy_bool hq'
theorem all_range :∀bs:List Bool,(List.range bs.length).all (fun i=>bs.getD i false)=bs.all id
 | []=>rfl
 | b ::bs=>by
  rw[List.length_cons,List.range_succ_eq_map,List.all_cons,List.all_map,List.all_cons,←all_range bs]
  all_goals rfl
section
variable {X:Cx}
noncomputable def Vg (K:PySem.W.Frag):List V→Hp→VK→Prop:=fun vs H Q=>∃(a:Addr) (bs:List Bool),vs=[V.ref a]∧aM K H a (bs.map V.bl)∧Q (.bl (bs.all id)) H
theorem B4 (hc:X.calm=true):wF X (.builtin "all") (Vg X.K):=by
 intro pins s σ H vs us Q I r h
 obtain⟨a,bs,rfl,hs,q⟩:=h
 obtain⟨its,rv,hl,_⟩:=I.list hs
 rw[Vals.Q5 r]
 have hb:=rv.VJ
 refine call_all_walk (P0 hl.isList fun s₂ e2 st hne=>?_)
 subst e2
 refine⟨_,_,_,_,_,_,_,rfl,Walks.list (A:=X.A.in1) (I.ok.hd hc) _ a hne its.toArray,st,Jm hb,fun h' tk hk=>?_⟩
 refine⟨.bl _,H,I.kept fun b o eo=>hk b o (fun hmem=>?_) (Heap.get?_push_of_some _ eo),?_,q⟩
 ·rcases List.mem_cons.mp hmem with e1 | hmem
  ·exact absurd (e1▸Heap.lt_size eo) (Nat.lt_irrefl _)
  ·cases hmem
 ·show Value.bool _=Value.bool _
  rw[←all_range,hb,List.size_toArray,List.length_map]
end
mutual
inductive Dp (K:PySem.W.Frag) (H:Hp):V→PyData→Prop
 | dh :Dp K H .dh .none
 | bl (b:Bool):Dp K H (.bl b) (.bool b)
 | int (i:Int):Dp K H (.int i) (.int i)
 | str (x:Str):Dp K H (.str x) (.str x)
 | lst {a:Addr} {xs:List V} {ds:List PyData}:aM K H a xs→FL K H xs ds→Dp K H (.ref a) (.list ds)
 | tup {a:Addr} {xs:List V} {ds:List PyData}:GH K H a xs→FL K H xs ds→Dp K H (.ref a) (.tuple ds)
inductive FL (K:PySem.W.Frag) (H:Hp):List V→List PyData→Prop
 | nil :FL K H [] []
 | cons {v:V} {vs:List V} {d:PyData} {ds:List PyData}:Dp K H v d→FL K H vs ds→FL K H (v::vs) (d::ds)
end
section
variable {X:Cx} {pins:List (Addr×Obj)} {σ:St} {H:Hp} {s:Shared}
mutual
theorem Dp.reads (I:Inv X pins σ H s):∀(d:PyData) (v:V) (u:Value),Dp X.K H v d→RelV v u→∃as,Reads s.heap u d as
 | .none,_,_,h,r=>by
  cases h
  cases r
  exact⟨_,Reads.none⟩
 | .bool b,_,_,h,r=>by
  cases h
  cases r
  exact⟨_,Reads.bool b⟩
 | .int i,_,_,h,r=>by
  cases h
  obtain⟨t,rfl⟩:=r
  exact⟨_,Reads.int i t⟩
 | .str x,_,_,h,r=>by
  cases h
  obtain⟨t,rfl⟩:=r
  exact⟨_,Reads.str x t⟩
 | .list ds,_,_,h,r=>by
  cases h with
  | lst hs ha=>
   cases r
   obtain⟨its,rv,⟨o,n,ho,hc,_,hd⟩,_⟩:=I.list hs
   obtain⟨as,hr⟩:=Dp.readsAll I ds _ its ha rv
   exact⟨_,Reads.list ho hc hd hr⟩
 | .tuple ds,_,_,h,r=>by
  cases h with
  | tup hs ha=>
   cases r
   obtain⟨its,rv,⟨o,ho,hc,n,hd⟩,_⟩:=I.tuple hs
   obtain⟨as,hr⟩:=Dp.readsAll I ds _ its ha rv
   exact⟨_,Reads.tuple ho hc hd hr⟩
 | .dict _,_,_,h,_=>by cases h
theorem Dp.readsAll (I:Inv X pins σ H s):∀(ds:List PyData) (vs:List V) (us:List Value),FL X.K H vs ds→Vals vs us→∃as,ReadsAll s.heap us ds as
 | [],_,_,h,r=>by
  cases h
  cases r
  exact⟨_,ReadsAll.nil⟩
 | d ::ds,_,_,h,r=>by
  cases h with
  | cons h1 h2=>
   cases r with
   | cons r1 r2=>
    obtain⟨as,q1⟩:=Dp.reads I d _ _ h1 r1
    obtain⟨bs,q2⟩:=Dp.readsAll I ds _ _ h2 r2
    exact⟨_,ReadsAll.cons q1 q2⟩
end
end
section
variable {X:Cx}
noncomputable def Uj (K:PySem.W.Frag):R2:=fun x y H Q=>∃d e,Dp K H x d∧Dp K H y e∧SeqAt.shaped d=true∧SeqAt.shaped e=true∧Q (.bl (PyData.eqv d e)) H
theorem SV (hu:X.A.units+64<cLine):zp X (compareOp .Eq) (Uj X.K):=by
 intro pins s σ H x y v u Q I rx ry h
 obtain⟨d,e,hd,he,sd,se,q⟩:=h
 obtain⟨as,r1⟩:=Dp.reads I d x v hd rx
 obtain⟨bs,r2⟩:=Dp.reads I e y u he ry
 exact SeqAt.compareEq_shaped r1 r2 sd se hu ⟨.bl _,H,I,rfl,q⟩
end
end L2
namespace L2
open PySem PySem.Spec PyProof.Rows
noncomputable abbrev QH (h:Heap) (c:Addr) (v:Option Value):Prop:=h.IsCell c v
noncomputable def U9 (scope sc:Scope):Scope:=
 { scope with names:=scope.names.map fun (n,k)=>if (k==.free&&sc.kind==.function&&sc.names.lookup n==some .cell) then (n,.cell) else (n,k) }
noncomputable def dD (cells:List (Str×Addr)):List (Str×NameKind)→List (Str×Addr)→List (Str×Addr)
 | [],acc=>acc
 | (n,k)::r,acc=>if k==.free then dD cells r ((n,(cells.lookup n).getD 0)::acc) else dD cells r acc
theorem AM (env:Env) (f:Str×NameKind→List (Str×Addr)→Sem (ForInStep (List (Str×Addr))))
  (hf:∀n k c,f (n,k) c=if k==.free then (do let a ←cellOf env n;pure (.yield ((n,a)::c))) else pure (.yield c)) :
  ∀(names:List (Str×NameKind)) (acc:List (Str×Addr)),(∀y∈names,y.2=.free→∃c,env.cells.lookup y.1=some c)→forIn names acc f=pure (dD env.cells names acc)
 | [],acc,_=>by rw[List.forIn_nil];rfl
 | (n,k)::r,acc,h=>by
  rw[List.forIn_cons,hf]
  have ih:=fun acc=>AM env f hf r acc fun y hy=>h y (List.mem_cons_of_mem _ hy)
  unfold dD
  by_cases hk:(k==NameKind.free)=true
  ·rw[if_pos hk,if_pos hk]
   obtain⟨c,hc⟩:=h (n,k) List.mem_cons_self (by simpa using hk)
   have e:cellOf env n=pure c:=by unfold cellOf;rw[hc]
   rw[e]
   have e2:(env.cells.lookup n).getD 0=c:=by rw[hc];rfl
   rw[e2]
   exact ih _
  ·rw[if_neg hk,if_neg hk]
   exact ih _
theorem L6 {scope:Scope} {env:Env} (h:∀y∈scope.names,y.2=.free→∃c,env.cells.lookup y.1=some c):closureFor scope env=pure (dD env.cells scope.names []):=by
 simp only[closureFor]
 rw[AM env _ (fun n k c=>rfl) scope.names [] h]
 rfl
theorem mem_lookup {α:Type}:∀{l:List (Str×α)} {n:Str} {c:α},(n,c)∈l→∃c',l.lookup n=some c'
 | (k,v)::r,n,c,h=>by
  rw[List.lookup_cons]
  cases hb:n==k with
  | true=>exact⟨_,rfl⟩
  | false=>
   rcases List.mem_cons.mp h with e | h
   ·cases e;simp at hb
   ·exact mem_lookup h
theorem qQ {cells:List (Str×Addr)}:∀{names:List (Str×NameKind)} {acc:List (Str×Addr)} {n:Str} {c:Addr},(n,c)∈dD cells names acc→(n,c)∈acc∨((n,.free)∈names∧c=(cells.lookup n).getD 0)
 | [],_,_,_,h=>.inl h
 | (m,k)::r,acc,n,c,h=>by
  unfold dD at h
  split at h
  ·rename_i hk
   have hk:k=.free:=by simpa using hk
   rcases qQ h with h | ⟨h1,h2⟩
   ·rcases List.mem_cons.mp h with e | h
    ·cases e;exact .inr ⟨hk▸List.mem_cons_self,rfl⟩
    ·exact .inl h
   ·exact .inr ⟨List.mem_cons_of_mem _ h1,h2⟩
  ·rcases qQ h with h | ⟨h1,h2⟩
   ·exact .inl h
   ·exact .inr ⟨List.mem_cons_of_mem _ h1,h2⟩
theorem vZ {cells:List (Str×Addr)}:∀{names:List (Str×NameKind)} {acc:List (Str×Addr)} {p:Str×Addr},p∈acc→p∈dD cells names acc
 | [],_,_,h=>h
 | (m,k)::r,acc,p,h=>by
  unfold dD
  split
  ·exact vZ (List.mem_cons_of_mem _ h)
  ·exact vZ h
theorem vY {cells:List (Str×Addr)}:∀{names:List (Str×NameKind)} {acc:List (Str×Addr)} {n:Str},(n,.free)∈names→(n,(cells.lookup n).getD 0)∈dD cells names acc
 | (m,k)::r,acc,n,h=>by
  unfold dD
  rcases List.mem_cons.mp h with e | h
  ·cases e
   exact vZ List.mem_cons_self
  ·split
   ·exact vY h
   ·exact vY h
theorem sJ :∀{names:List (Str×NameKind)} {h:Heap} {acc:List (Str×Addr)} {x:Str} {c:Addr},(x,c)∈cellsFrom h.objs.size names acc →
  (x,c)∈acc∨((x,.cell)∈names∧h.objs.size≤c∧QH (pushCells h names) c none)
 | [],_,_,_,_,h=>.inl h
 | (n,k)::r,h,acc,x,c,hm=>by
  unfold cellsFrom at hm
  unfold pushCells
  split at hm
  ·rename_i hk
   rw[if_pos hk]
   have hk:k=.cell:=by simpa using hk
   rw[←Heap.size_push h { cls:=.type "cell",data:=.cell none }] at hm
   rcases sJ hm with hm | ⟨h1,h2,h3⟩
   ·rcases List.mem_cons.mp hm with e | hm
    ·cases e
     exact .inr ⟨hk▸List.mem_cons_self,Nat.le_refl _,_,pushCells_keeps r _ _ _ (Heap.get?_push_size _ rfl),rfl⟩
    ·exact .inl hm
   ·rw[Heap.size_push] at h2
    exact .inr ⟨List.mem_cons_of_mem _ h1,Nat.le_of_succ_le h2,h3⟩
  ·rename_i hk
   rw[if_neg hk]
   rcases sJ hm with hm | ⟨h1,h2,h3⟩
   ·exact .inl hm
   ·exact .inr ⟨List.mem_cons_of_mem _ h1,h2,h3⟩
theorem xo :∀{names:List (Str×NameKind)} {n:Nat} {acc:List (Str×Addr)} {p:Str×Addr},p∈acc→p∈cellsFrom n names acc
 | [],_,_,_,h=>h
 | (m,k)::r,n,acc,p,h=>by
  unfold cellsFrom
  split
  ·exact xo (List.mem_cons_of_mem _ h)
  ·exact xo h
theorem B7 :∀{names:List (Str×NameKind)} {n:Nat} {acc:List (Str×Addr)} {x:Str},(x,.cell)∈names→∃c,(x,c)∈cellsFrom n names acc
 | (m,k)::r,n,acc,x,h=>by
  unfold cellsFrom
  rcases List.mem_cons.mp h with e | h
  ·cases e
   exact⟨n,xo List.mem_cons_self⟩
  ·split
   ·exact B7 h
   ·exact B7 h
theorem B6 :∀{names:List (Str×NameKind)} {h:Heap} {acc:List (Str×Addr)} {x y:Str} {c:Addr},(∀p∈acc,p.2<h.objs.size)→(∀x y c,(x,c)∈acc→(y,c)∈acc→x=y) →
  (x,c)∈cellsFrom h.objs.size names acc→(y,c)∈cellsFrom h.objs.size names acc→x=y
 | [],_,_,_,_,_,_,hi,h1,h2=>hi _ _ _ h1 h2
 | (n,k)::r,h,acc,x,y,c,hl,hi,h1,h2=>by
  unfold cellsFrom at h1 h2
  split at h1
  ·rename_i hk
   rw[if_pos hk] at h2
   rw[←Heap.size_push h { cls:=.type "cell",data:=.cell none }] at h1 h2
   refine B6 (h:=h.push _) (fun p hp=>?_) (fun x y c a b=>?_) h1 h2
   ·rw[Heap.size_push]
    rcases List.mem_cons.mp hp with rfl | hp
    ·exact Nat.lt_succ_self _
    ·exact Nat.lt_succ_of_lt (hl p hp)
   ·rcases List.mem_cons.mp a with e | a<;>rcases List.mem_cons.mp b with e' | b
    ·cases e;cases e';rfl
    ·cases e;exact absurd (hl _ b) (Nat.lt_irrefl _)
    ·cases e';exact absurd (hl _ a) (Nat.lt_irrefl _)
    ·exact hi _ _ _ a b
  ·rename_i hk
   rw[if_neg hk] at h2
   exact B6 hl hi h1 h2
theorem JW {M:Model} {A:Around} {E:Value→Shared→Prop} {s:Shared} {scope:Scope} {globals:Addr} {closure:List (Str×Addr)} {qual:Str} {func:Option Addr} {code:Value} {around:Env} {builtins:Addr} {Q:Env→Shared→Prop}
  (h:Q (newEnv scope s.heap.objs.size globals (cellsFrom (s.heap.objs.size+1) scope.names closure) qual func code (some around) builtins)
   { s with heap:=pushCells (s.heap.push { cls:=.type "dict",data:=.dict #[] }) scope.names }) :
  wpAny M A (newFunctionEnv scope globals closure [] qual func code (some around) builtins) Q E s:=by
 simp only[newFunctionEnv,Option.isSome_some,if_true]
 refine wpAny_bind (wpAny_alloc ?_)
 refine wpAny_bind (wpAny_layCells _ (fun n k c=>rfl) scope.names closure _ _ ?_)
 rw[show ({ s with heap:=s.heap.push { cls:=.type "dict",data:=.dict #[] } }:Shared).heap.objs.size=s.heap.objs.size+1 from Heap.size_push ..]
 rw[List.forIn_nil]
 exact wpAny_bind (wpAny_pure (wpAny_pure h))
theorem vI {sc:Scope}:∀{names:List (Str×NameKind)} {x:Str} {k:NameKind},
  (names.map fun (n,k)=>if (k==NameKind.free&&sc.kind==.function&&sc.names.lookup n==some .cell) then (n,NameKind.cell) else (n,k)).lookup x=some k →
  ∃k',names.lookup x=some k'∧(k=k'∨(k'=.free∧k=.cell))
 | [],_,_,h=>by simp at h
 | (n,k₀)::r,x,k,h=>by
  have ih:=@vI sc r x k
  have h':List.lookup x ((if (k₀==NameKind.free&&sc.kind==.function&&sc.names.lookup n==some .cell)=true then (n,NameKind.cell) else (n,k₀))::(r.map _))=some k:=h
  cases hx:x==n with
  | true=>
   simp only[List.lookup_cons,hx]
   by_cases hc:(k₀==NameKind.free&&sc.kind==.function&&sc.names.lookup n==some .cell)=true
   ·rw[if_pos hc] at h'
    simp only[List.lookup_cons,hx] at h'
    cases h'
    simp only[Bool.and_eq_true,beq_iff_eq] at hc
    exact⟨k₀,rfl,.inr ⟨hc.1.1,rfl⟩⟩
   ·rw[if_neg hc] at h'
    simp only[List.lookup_cons,hx] at h'
    cases h'
    exact⟨_,rfl,.inl rfl⟩
  | false=>
   simp only[List.lookup_cons,hx]
   by_cases hc:(k₀==NameKind.free&&sc.kind==.function&&sc.names.lookup n==some .cell)=true
   ·rw[if_pos hc] at h'
    simp only[List.lookup_cons,hx] at h'
    exact ih h'
   ·rw[if_neg hc] at h'
    simp only[List.lookup_cons,hx] at h'
    exact ih h'
structure M0 (N:List Str) (sc scope:Scope) (own:List (Str×Nat)):Prop where
 kind :scope.kind=.function
 uniq :∀y∈scope.names,scope.names.lookup y.1=some y.2
 ix :∀p∈own,N[p.2]?=some p.1
 free :∀y∈scope.names,y.2=.free→sc.names.lookup y.1=some .cell∨sc.names.lookup y.1=some .free
 own :∀y∈scope.names,y.2=.local∨y.2=.cell→y.1∈own.map (·.1)∨y.1∉N
noncomputable def wipe (σ:St):List Nat→St
 | []=>σ
 | v ::vs=>(wipe σ vs).set v none
theorem vh (σ:St):∀vs:List Nat,(wipe σ vs).length=σ.length
 | []=>rfl
 | v ::vs=>by unfold wipe;rw[List.length_set,vh σ vs]
theorem Bf {σ:St} {i:Nat} {x:V}:∀{vs:List Nat},(wipe σ vs)[i]?=some (some x)→σ[i]?=some (some x)∧i∉vs
 | [],h=>⟨h,by simp⟩
 | v ::vs,h=>by
  unfold wipe at h
  by_cases hi:v=i
  ·subst hi
   by_cases hv:v<(wipe σ vs).length
   ·rw[List.getElem?_set_self hv] at h;cases h
   ·rw[List.getElem?_eq_none (by simpa using hv)] at h;cases h
  ·rw[List.getElem?_set_ne hi] at h
   obtain⟨h1,h2⟩:=Bf h
   exact⟨h1,by simp only[List.mem_cons,not_or];exact⟨fun e=>hi e.symm,h2⟩⟩
noncomputable abbrev Cx.K5 (X:Cx) (s:Shared) (H:Hp) (scope:Scope) (cenv:Env) (fp:List Addr):Cx:={ X with GU:=s,UP:=H,env:=cenv,outer:=X.stack,ex:=fp,fn:=fun x=>scope.names.lookup x==some .cell,pn:=[],xe:=fun _ _=>False }
section
variable {X:Cx} {pins:List (Addr×Obj)} {σ:St} {H:Hp} {s:Shared}
theorem KA {scope:Scope} {own:List (Str×Nat)} {fp:List Addr} (I:Inv X pins σ H s) (ok:M0 X.N X.env.scope scope own) (hN:X.N.Nodup) (hfp:∀b∈fp,Dz X pins H b∧b<s.heap.objs.size) :
  Inv (X.K5 s H scope (compEnvC scope (cellsFrom (s.heap.objs.size+1) scope.names (dD X.env.cells scope.names [])) s.heap.objs.size X.env) fp) [] (wipe σ (own.map (·.2))) H { s with heap:=pushCells (s.heap.push { cls:=.type "dict",data:=.dict #[] }) scope.names }:=by
 have hfree:∀y∈scope.names,y.2=.free→∃c,X.env.cells.lookup y.1=some c:=fun y hy e=>by
  rcases ok.free y hy e with k | k
  ·exact I.ok.has _ (.inl k)
  ·exact I.ok.has _ (.inr k)
 generalize hcenv:compEnvC scope (cellsFrom (s.heap.objs.size+1) scope.names (dD X.env.cells scope.names [])) s.heap.objs.size X.env=cenv
 have kp:∀b o,s.heap.get? b=some o→(pushCells (s.heap.push { cls:=.type "dict",data:=.dict #[] }) scope.names).get? b=some o:=fun b o e=>pushCells_keeps _ _ _ _ (Heap.get?_push_of_some _ e)
 have hL:cenv.locals=s.heap.objs.size:=by rw[←hcenv];rfl
 have hcl:cenv.cells=cellsFrom (s.heap.objs.size+1) scope.names (dD X.env.cells scope.names []):=by rw[←hcenv];rfl
 have hsc:cenv.scope=U9 scope X.env.scope:=by rw[←hcenv];rfl
 rw[←Heap.size_push s.heap { cls:=.type "dict",data:=.dict #[] }] at hcl
 have cm:∀{y c},(y,c)∈dD X.env.cells scope.names []→X.env.cells.lookup y=some c∧c<s.heap.objs.size:=fun {y c} hm=>by
  rcases qQ hm with hm | ⟨h1,rfl⟩
  ·cases hm
  ·obtain⟨c,hc⟩:=hfree _ h1 rfl
   rw[hc]
   obtain⟨w,z⟩:=I.cell _ _ hc
   exact⟨rfl,z.lt⟩
 have mem:∀{y c},cenv.cells.lookup y=some c→(X.env.cells.lookup y=some c∧c<s.heap.objs.size)∨(s.heap.objs.size+1≤c∧QH (pushCells (s.heap.push { cls:=.type "dict",data:=.dict #[] }) scope.names) c none):=fun {y c} e=>by
  rw[hcl] at e
  rcases sJ (PySem.mem_of_lookup e) with hm | ⟨_,h2,h3⟩
  ·exact .inl (cm hm)
  ·rw[Heap.size_push] at h2;exact .inr ⟨h2,h3⟩
 have look:∀{y},scope.names.lookup y=some .free→∃c,cenv.cells.lookup y=some c∧X.env.cells.lookup y=some c:=fun {y} hl=>by
  have hy:(y,NameKind.free)∈scope.names:=PySem.mem_of_lookup hl
  obtain⟨c',e'⟩:=mem_lookup (xo (names:=scope.names) (n:=(s.heap.push { cls:=.type "dict",data:=.dict #[] }).objs.size) (vY (cells:=X.env.cells) (acc:=[]) hy))
  rw[←hcl] at e'
  refine⟨c',e',?_⟩
  rw[hcl] at e'
  rcases sJ (PySem.mem_of_lookup e') with hm | ⟨h1,_,_⟩
  ·exact (cm hm).1
  ·have:=ok.uniq _ h1
   rw[hl] at this;cases this
 have okB:(X.K5 s H scope cenv fp).Ok:=by
  refine⟨I.ok.mod,by show cenv.scope.kind=_;rw[hsc];exact ok.kind,by show cenv.globals=_;rw[←hcenv];exact I.ok.glob,by show cenv.builtins=_;rw[←hcenv];exact I.ok.blt,by show s.heap.objs.size≤cenv.locals;rw[hL];exact Nat.le_refl _,
   fun y z c e1 e2=>?_,fun y hy=>?_,fun y c z e=>?_,I.ok.hd,I.ok.frames,.inl rfl,fun b hb=>⟨?_,fun y c e z=>?_⟩,I.bs,Nat.le_trans I.ok.RL I.sz,fun b o e hb=>?_,fun b hb z=>?_,I.stack,I.Ml⟩
  ·have e1:cenv.cells.lookup y=some c:=e1
   have e2:cenv.cells.lookup z=some c:=e2
   rw[hcl] at e1 e2
   refine B6 (fun p hp=>?_) (fun y z c a b=>I.ok.inj y z c (cm a).1 (cm b).1) (PySem.mem_of_lookup e1) (PySem.mem_of_lookup e2)
   rw[Heap.size_push]
   exact Nat.lt_succ_of_lt (cm (y:=p.1) (c:=p.2) hp).2
  ·show ∃c,cenv.cells.lookup y=some c
   have key:∀k,cenv.kindOf y=some k→(k=.cell∨k=.free)→∃c,cenv.cells.lookup y=some c:=fun k hk hk'=>by
    unfold Env.kindOf at hk
    rw[hsc] at hk
    obtain⟨k',e,r⟩:=vI hk
    have :k'=.cell∨k'=.free:=by
     rcases r with rfl | ⟨rfl,_⟩
     ·exact hk'
     ·exact .inr rfl
    rcases this with rfl | rfl
    ·obtain⟨c,hm⟩:=B7 (n:=(s.heap.push { cls:=.type "dict",data:=.dict #[] }).objs.size) (acc:=dD X.env.cells scope.names []) (PySem.mem_of_lookup e)
     obtain⟨c',e'⟩:=mem_lookup hm
     exact⟨c',by rw[hcl];exact e'⟩
    ·obtain⟨c,h1,_⟩:=look e
     exact⟨c,h1⟩
   rcases hy with hy | hy
   ·exact key _ hy (.inl rfl)
   ·exact key _ hy (.inr rfl)
  ·have z:(scope.names.lookup y==some NameKind.cell)=true:=z
   have z:scope.names.lookup y=some .cell:=by simpa using z
   have e:cenv.cells.lookup y=some c:=e
   rw[hcl] at e
   rcases sJ (PySem.mem_of_lookup e) with hm | ⟨_,h2,_⟩
   ·rcases qQ hm with hm | ⟨h1,_⟩
    ·cases hm
    ·have q:=ok.uniq _ h1
     rw[z] at q;cases q
   ·rw[Heap.size_push] at h2
    exact Nat.le_of_succ_le h2
  ·show b≠cenv.locals
   rw[hL];exact Nat.ne_of_lt (hfp b hb).2
  ·have e:cenv.cells.lookup y=some c:=e
   rcases mem e with ⟨h1,_⟩ | ⟨h1,_⟩
   ·exact (hfp b hb).1.2.2.2.2.1 y c h1 z
   ·have h2:s.heap.objs.size+1≤b:=by rw[←z];exact h1
    exact absurd (Nat.lt_of_lt_of_le (hfp b hb).2 (Nat.le_of_succ_le h2)) (Nat.lt_irrefl _)
  ·rcases (hfp b hb).1.2.2.2.1 with z | z
   ·exact I.ok.PK b o e z
   ·exact absurd (Nat.lt_of_lt_of_le (Heap.lt_size e) (Nat.le_trans I.ok.RL z)) (Nat.lt_irrefl _)
  ·rcases List.mem_cons.mp (I.Ld b z) with z | z
   ·exact (hfp b hb).1.2.1 z
   ·exact (hfp b hb).1.2.2.1 z
 refine⟨okB,rfl,I.bare,Un.kept kp,⟨fun _=>none,?_,fun i y av e1 e2 e3=>?_⟩,fun y c e=>?_,?_,fun y c e=>?_,fun p hp=>?_,I.dN.kept kp,by rw[vh];exact I.len⟩
 ·show Heap.Ns _ cenv.locals _
  rw[hL]
  exact Heap.Ns.keeps (Heap.Ns.new ..) fun b o e=>pushCells_keeps _ _ _ _ e
 ·obtain⟨e2,hne⟩:=Bf e2
  have hfr:scope.names.lookup y=some .free∧(cenv.kindOf y=some .cell∨cenv.kindOf y=some .free):=by
   have key:∀k,cenv.scope.names.lookup y=some k→k=.local∨k=.cell∨k=.free→scope.names.lookup y=some .free∧(cenv.kindOf y=some .cell∨cenv.kindOf y=some .free):=fun k hk hk'=>by
    have hk0:=hk
    rw[hsc] at hk
    obtain⟨k',e,r⟩:=vI hk
    have no:¬(k'=.local∨k'=.cell):=fun hh=>by
     rcases ok.own _ (PySem.mem_of_lookup e) hh with e' | e'
     ·obtain⟨p,hp,hpy⟩:=List.mem_map.mp e'
      have e3:=ok.ix p hp
      have :p.1=y:=hpy
      rw[this] at e3
      exact hne (List.mem_map.mpr ⟨p,hp,EK hN e3 e1⟩)
     ·exact e' (List.mem_of_getElem? e1)
    rcases r with rfl | ⟨rfl,rfl⟩
    ·rcases hk' with rfl | rfl | rfl
     ·exact absurd (.inl rfl) no
     ·exact absurd (.inr rfl) no
     ·exact⟨e,.inr hk0⟩
    ·exact⟨e,.inl hk0⟩
   have e3:UI cenv.scope y:=e3
   rcases e3 with e3 | e3 | e3
   ·exact key _ e3 (.inl rfl)
   ·exact key _ e3 (.inr (.inl rfl))
   ·exact key _ e3 (.inr (.inr rfl))
  obtain⟨m,hn,hl⟩:=I.loc
  have hvis:UI X.env.scope y:=(ok.free _ (PySem.mem_of_lookup hfr.1) rfl).elim (fun k=>.inr (.inl k)) (fun k=>.inr (.inr k))
  obtain⟨w,r,q⟩:=hl i y av e1 e2 hvis
  refine⟨w,r,.inr ⟨hfr.2,?_⟩⟩
  obtain⟨c,h1,h2⟩:=look hfr.1
  rcases q with ⟨k,_⟩ | ⟨_,c',e',z⟩
  ·have k:X.env.scope.names.lookup y=some .local:=k
   rcases ok.free _ (PySem.mem_of_lookup hfr.1) rfl with k' | k'<;>rw[show X.env.scope.names.lookup y=_ from k'] at k<;>cases k
  ·rw[h2] at e';cases e'
   exact⟨c,h1,z.keeps kp⟩
 ·have e:cenv.cells.lookup y=some c:=e
  rcases mem e with ⟨h1,_⟩ | ⟨_,z⟩
  ·obtain⟨w,z⟩:=I.cell y c h1
   exact⟨w,z.keeps kp⟩
  ·exact⟨_,z⟩
 ·show H cenv.locals=none
  rw[hL];exact I.dN.fresh (Nat.le_refl _)
 ·have e:cenv.cells.lookup y=some c:=e
  rcases mem e with ⟨h1,_⟩ | ⟨h1,_⟩
  ·exact I.vQ y c h1
  ·exact I.dN.fresh (Nat.le_of_succ_le h1)
 ·exact absurd (show p∈([]:List (Addr×Obj))++[] from hp) (by simp)
theorem Tv {E:Value→Shared→Prop} {D:Addr} {xs:List V} {y:V} {v:Value} {Q:Value→Shared→Prop} (I:Inv X pins σ H s) (hD:H D=some (.lst xs)) (hz:xs.length<sizeLine) (r:RelV y v)
  (h:∀s',Inv X pins σ (upd H D (.lst (xs++[y]))) s'→Q .none s'):wpAny (model X.prog X.w) X.A (call (.builtin "list.append") [.ref D,v]) Q E s:=by
 obtain⟨hz',its,n,ri,e⟩:=I.dN D _ hD
 have hl:=ri.length
 refine append_at (hsz:=by rw[List.size_toArray];omega) e fun h' sb ho'=>?_
 refine h { s with heap:=h' } (I.write (t':=s.toks) (by rw[hD];trivial) (.inl rfl) (fun b u hb q=>(sb.2 b hb).trans q) ⟨_,ho'⟩ ⟨by rw[List.length_append];exact hz,its++[v],n+1,ri.append (.cons r .nil),?_⟩)
 rw[ho']
 simp
noncomputable def U5 (X:Cx) (ifs:List Expr) (t:TT):Prop:=
 ∀(pins:List (Addr×Obj)) (s:Shared) (σ:St) (H:Hp) (Q:Bool→Hp→Prop),Inv X pins σ H s→t σ H Q →
  wpAny (model X.prog X.w) X.A (forIn ifs true fun c r=>if r=true then do let ok ←isTrue c X.env (eval c X.env);pure (ForInStep.yield ok) else pure (ForInStep.yield r)) (TP X pins σ Q) X.xe s
@[reducible] noncomputable def TY :TT:=fun _ H Q=>Q true H
theorem jl :U5 X [] TY:=fun _ _ _ H _ I h=>wpAny_tests_nil ⟨H,I,h⟩
theorem DB {c:Expr} {t:TT} (h:PT X c t):U5 X [c] t:=fun pins s σ H Q I hw=>wpAny_tests_one (h pins s σ H Q I hw)
end
theorem Na {α:Type} {t:Sem α} {Q Q':α→Shared→Prop} {M:Model} {A:Around} {E:Value→Shared→Prop} {s:Shared} (h:wpAny M A t Q (fun _ _=>False) s) (hQ:∀a s,Q a s→Q' a s):wpAny M A t Q' E s:=wpAny_mono h hQ fun _ _ z=>False.elim z
theorem IS {prog:Program} {w:World} {A:Around} {R:Result→Shared→Prop} {s:Shared} {elt target iter:Expr} {ifs:List Expr} {scope:Scope} {pos:Pos} {it acc:Value} {env:Env} (I:Nat→Shared→Prop)
  (turn:∀n s,I n s→wpAny (model prog w) A (pyNext it) (fun r s₁=>match r with
   | none=>R (.ok .next) s₁
   | some v=>wpAny (model prog w) A (letOwnedTupleGo target it v) (fun _ s₁'=>wpAny (model prog w) A (assign target env v) (fun _ s₂=>
     wpAny (model prog w) A (forIn ifs true fun c r=>if r=true then do let ok ←isTrue c env (eval c env);pure (ForInStep.yield ok) else pure (ForInStep.yield r)) (fun ok s₃=>
      if ok=true then wpAny (model prog w) A (eval elt env) (fun x s₄=>
       wpAny (model prog w) A (call (.builtin "list.append") [acc,x]) (fun _ s₅=>∃m,m<n∧I m s₅) (notedBy (model prog w) A env fun e s'=>R (.error e) s') s₄) (notedBy (model prog w) A env fun e s'=>R (.error e) s') s₃
      else ∃m,m<n∧I m s₃) (notedBy (model prog w) A env fun e s'=>R (.error e) s') s₂) (notedBy (model prog w) A env fun e s'=>R (.error e) s') s₁') (notedBy (model prog w) A env fun e s'=>R (.error e) s') s₁) (notedBy (model prog w) A env fun e s'=>R (.error e) s') s)
  (n:Nat) (h:I n s) :
  codeAny (model prog w) A (.compLoop (.ListComp elt [⟨target,iter,ifs,0⟩] scope pos) 0 it acc env) R s:=by
 refine codeAny_loop rfl I (fun n s hI=>?_) n h
 show wpAny _ A ((compTurn (.ListComp elt [⟨target,iter,ifs,0⟩] scope pos) 0 it acc env).onRaise (fun x=>do noteFrame x env;theTreesLotGoes x)) _ _ s
 refine wpAny_noted ?_
 rw[compTurn_list]
 refine wpAny_bind (wpAny_standAt (wpAny_bind (wpAny_mono (turn n s hI) (fun r s₁ h₁=>?_) fun _ _ h'=>h')))
 cases r with
 | none=>exact wpAny_pure h₁
 | some v=>
  refine wpAny_bind (wpAny_mono h₁ (fun _ s₁' h₁'=>?_) fun _ _ h'=>h')
  refine wpAny_bind (wpAny_mono h₁' (fun _ s₂ h₂=>wpAny_bind (wpAny_mono h₂ (fun ok s₃ h₃=>?_) fun _ _ h'=>h')) fun _ _ h'=>h')
  cases ok with
  | false=>exact wpAny_pure ⟨rfl,h₃⟩
  | true=>
   exact wpAny_bind (wpAny_bind (wpAny_mono h₃ (fun x s₄ h₄=>wpAny_bind (wpAny_mono h₄ (fun _ s₅ h₅=>wpAny_pure (wpAny_pure ⟨rfl,h₅⟩)) fun _ _ h'=>h')) fun _ _ h'=>h'))
section
variable {X:Cx}
noncomputable def Sf (J:It) (g:TG) (tt:TT) (te:TE) (vs:List Nat) (σ:L2.St) (H:Hp) (Q:VK):Prop:=∀D,H D=none→∃W:Nat→Nat→Hp→Prop,(∃m,W 0 m (upd H D (.lst [])))∧∀i m H,W i m H →
 (J.stop i H∧Q (.ref D) H)∨(J.go i H∧∃Nx:Hp→Prop,(∀H',Nx H'→∃m',m'<m∧W (i+1) m' H')∧∀x H',J.RX i H x H'→g x (wipe σ vs) H' fun σ2 H2=>wipe σ2 vs=wipe σ vs∧tt σ2 H2 fun b H3=>
  if b=true then te σ2 H3 fun y H4=>∃acc,H4 D=some (.lst acc)∧acc.length<sizeLine∧Nx (upd H4 D (.lst (acc++[y]))) else Nx H3)
noncomputable def T6 (wi:TI) (g:TG) (tt:TT) (te:TE) (vs:List Nat):TE:=fun σ H Q=>wi σ H fun J H1=>Sf J g tt te vs σ H1 Q
theorem Rx {pins:List (Addr×Obj)} {s:Shared} {σ:St} {H:Hp} {Q:VK} {elt tg iter:Expr} {ifs:List Expr} {scope:Scope} {own:List (Str×Nat)} {pos pos':Pos} {wi:TI} {g:TG} {tt:TT} {te:TE} {use:Option (Value→Sem Unit)} {Qf:Value→Shared→Prop}
  (hc:X.calm=true) (hN:X.N.Nodup) (I:Inv X pins σ H s) (hi:PI X tg iter wi) (ok:M0 X.N X.env.scope scope own)
  (hg:∀(s:Shared) (H:Hp) (C:Addr) (cl:List (Str×Addr)) (fp:List Addr),PG (X.K5 s H scope (compEnvC scope cl C X.env) fp) tg g) (ht:∀(s:Shared) (H:Hp) (C:Addr) (cl:List (Str×Addr)) (fp:List Addr),U5 (X.K5 s H scope (compEnvC scope cl C X.env) fp) ifs tt)
  (he:∀(s:Shared) (H:Hp) (C:Addr) (cl:List (Str×Addr)) (fp:List Addr),PE (X.K5 s H scope (compEnvC scope cl C X.env) fp) elt te) (hs:∀x,foldedSetIterable iter X.env x=pure x)
  (h:T6 wi g tt te (own.map (·.2)) σ H Q)
  (hRR:∀D C s' m H',Inv X pins σ H' s'→Q (.ref D) H'→s'.heap.Ns C m→Dz X pins H' C→compPost (model X.prog X.w) X.A X.xe use Qf (.ref D) C (.ok .next) s') :
  wpAny (model X.prog X.w) X.A (comprehension (.ListComp elt [⟨tg,iter,ifs,0⟩] scope pos) scope X.env pos' (newList []) false (eval iter X.env) use) Qf X.xe s:=by
 have hfree:∀y∈scope.names,y.2=.free→∃c,X.env.cells.lookup y.1=some c:=fun y hy e=>by
  rcases ok.free y hy e with k | k
  ·exact I.ok.has _ (.inl k)
  ·exact I.ok.has _ (.inr k)
 refine wpAny_comprehension_free (use:=use) rfl hs (L6 hfree) ok.kind (fun y hy e=>by rw[ok.uniq y hy,e])
  (gr (hi pins s σ H _ I h) fun xv s1 hx=>gr hx fun itv s2 h2=>?_)
 obtain⟨it,fp,tn,J,H2,e,I2,T,st2,f2,q⟩:=h2
 subst e
 refine wpAny_newObj_type (JW ?_) (by show 0≤sizeLine;decide)
 generalize hD:s2.heap.objs.size=D
 have hDn:H2 D=none:=I2.dN.fresh (Nat.le_of_eq hD)
 obtain⟨W,⟨m0,w0⟩,turn⟩:=q D hDn
 generalize hs3:({ s2 with heap:=s2.heap.push { cls:=.type "list",data:=.seq ([]:List Value).toArray } }:Shared)=s3
 have I3:Inv X pins σ (upd H2 D (.lst [])) s3:=by
  rw[←hs3]
  refine I2.laid (t':=s2.toks) (fun b o e=>Heap.get?_push_of_some _ e) (Nat.le_of_eq hD) ⟨Nat.zero_le _,[],0,.nil,?_⟩
  rw[←hD]
  exact Heap.get?_push_size _ rfl
 have h3:s3.heap=s2.heap.push { cls:=.type "list",data:=.seq ([]:List Value).toArray }:=by rw[←hs3]
 have sz:∀b∈fp,b<s2.heap.objs.size:=fun b hb=>by
  obtain⟨o,e,_⟩:=T.obj _ _ st2 b hb
  exact Heap.lt_size e
 have f3:∀b∈fp,Dz X pins (upd H2 D (.lst [])) b∧b<s3.heap.objs.size:=fun b hb=>by
  have hlt:=sz b hb
  refine⟨⟨?_,(f2 b hb).2⟩,by rw[h3,Heap.size_push];exact Nat.lt_succ_of_lt hlt⟩
  rw[af (by rw[←hD];exact Nat.ne_of_lt hlt)]
  exact (f2 b hb).1
 have st3:tn 0 s3.heap:=T.keep _ _ _ st2 fun b _ o e=>by rw[h3];exact Heap.get?_push_of_some _ e
 have I4:=KA I3 ok hN f3
 have pg:=hg s3 (upd H2 D (.lst [])) s3.heap.objs.size (cellsFrom (s3.heap.objs.size+1) scope.names (dD X.env.cells scope.names [])) fp
 have pt:=ht s3 (upd H2 D (.lst [])) s3.heap.objs.size (cellsFrom (s3.heap.objs.size+1) scope.names (dD X.env.cells scope.names [])) fp
 have pe:=he s3 (upd H2 D (.lst [])) s3.heap.objs.size (cellsFrom (s3.heap.objs.size+1) scope.names (dD X.env.cells scope.names [])) fp
 show codeAny _ _ (.compStart (.ListComp elt [⟨tg,iter,ifs,0⟩] scope pos) 0 (.ref it) (.ref D) (compEnvC scope (cellsFrom (s3.heap.objs.size+1) scope.names (dD X.env.cells scope.names [])) s3.heap.objs.size X.env)) (compPost (model X.prog X.w) X.A X.xe use Qf (.ref D) s3.heap.objs.size) { s3 with heap:=pushCells (s3.heap.push { cls:=.type "dict",data:=.dict #[] }) scope.names }
 have nfp:∀b∈fp,(upd H2 D (.lst [])) b=none:=fun b hb=>(f3 b hb).1.1
 generalize hce:compEnvC scope (cellsFrom (s3.heap.objs.size+1) scope.names (dD X.env.cells scope.names [])) s3.heap.objs.size X.env=ce at I4 pg pt pe ⊢
 have cL:ce.locals=s3.heap.objs.size:=by subst hce;rfl
 generalize hH3:upd H2 D (.lst [])=H3 at I3 I4 pg pt pe w0 nfp f3
 generalize hs4:({ s3 with heap:=pushCells (s3.heap.push { cls:=.type "dict",data:=.dict #[] }) scope.names }:Shared)=s4 at I4 ⊢
 have st4:tn 0 s4.heap:=T.keep _ _ _ st3 fun b _ o e=>by rw[←hs4];exact pushCells_keeps _ _ _ _ (Heap.get?_push_of_some _ e)
 have stat:∀{σ':St} {H':Hp} {s':Shared},Inv (X.K5 s3 H3 scope ce fp) [] σ' H' s'→(∀b∈fp,H' b=none)→∀b∈fp,Dz (X.K5 s3 H3 scope ce fp) [] H' b:=fun {σ' H' s'} I' hn b hb=>
  ⟨hn b hb,(I'.ok.U1 b hb).1,I'.ok.Qi b hb,.inl hb,fun x c e=>(I'.ok.U1 b hb).2 x c e,fun p hp=>absurd (show p∈([]:List (Addr×Obj))++[] from hp) (by simp)⟩
 have loop:codeAny (model X.prog X.w) X.A (.compLoop (.ListComp elt [⟨tg,iter,ifs,0⟩] scope pos) 0 (.ref it) (.ref D) ce) (compPost (model X.prog X.w) X.A X.xe use Qf (.ref D) s3.heap.objs.size) s4:=by
  refine IS (fun n s'=>∃i H',Inv (X.K5 s3 H3 scope ce fp) [] (wipe σ (own.map (·.2))) H' s'∧tn i s'.heap∧(∀b∈fp,H' b=none)∧W i n H') ?_ m0 ⟨0,H3,I4,st4,nfp,w0⟩
  rintro n s5 ⟨i,H5,I5,st5,n5,w5⟩
  rcases turn i n H5 w5 with ⟨stop,qq⟩ | ⟨go,Nx,hNx,step⟩
  ·have td:=T.done (X.K5 s3 H3 scope ce fp) rfl rfl rfl hc i [] s5 _ H5 (fun _ _=>False) I5 (stat I5 n5) st5 stop
   refine Na td fun r s6 ⟨hr,I6⟩=>?_
   subst hr
   have I7:Inv X pins σ H5 s6:=I3.call' (ch:=fp) I6.os I6.base I6.dN I6.bare fun b hb=>⟨(f3 b hb).1.2.2.2.1,(f3 b hb).1.2.1,(f3 b hb).1.2.2.2.2.1,(f3 b hb).1.2.2.2.2.2⟩
   have nC:H5 s3.heap.objs.size=none:=by
    have z:H5 ce.locals=none:=I6.free
    rw[cL] at z
    exact z
   obtain⟨m,hn,_⟩:=I6.loc
   have hn:s6.heap.Ns ce.locals m:=hn
   rw[cL] at hn
   exact hRR D s3.heap.objs.size s6 m H5 I7 qq hn (I3.Oa (Nat.le_refl _) nC)
  ·have ti:=T.item (X.K5 s3 H3 scope ce fp) rfl rfl rfl hc i [] s5 _ H5 (fun _ _=>False) I5 (stat I5 n5) st5 go
   refine Na ti fun r s6 ⟨u,hr,h6⟩=>?_
   subst hr
   refine Na h6 fun _ s7 ⟨x,H7,I7,r7,y7,st7,n7⟩=>?_
   have I7':=I7.pinned (stat I7 n7) (T.obj _ _ st7)
   refine Na (pg _ s7 _ H7 x u _ I7' r7 (step x H7 y7)) fun _ s8 ⟨σ8,H8,I8,hw8,q8⟩=>?_
   refine Na (pt _ s8 σ8 H8 _ I8 q8) fun b s9 ⟨H9,I9,q9⟩=>?_
   have fin:∀{s':Shared} {H':Hp},Inv (X.K5 s3 H3 scope ce fp) ([]++Eu fp s7.heap) σ8 H' s'→Nx H'→∃m,m<n∧∃i H',Inv (X.K5 s3 H3 scope ce fp) [] (wipe σ (own.map (·.2))) H' s'∧tn i s'.heap∧(∀b∈fp,H' b=none)∧W i m H':=fun {s' H'} I' nx=>by
    obtain⟨m',hm,w'⟩:=hNx H' nx
    have pin':∀b∈fp,∀o,s7.heap.get? b=some o→s'.heap.get? b=some o∧H' b=none:=fun b hb o e=>
     let z:=I'.pin (b,o) (List.mem_append_right _ (List.mem_append_right _ (yZ hb e)))
     ⟨z.1,z.2.1⟩
    have hl:(wipe σ (own.map (·.2))).length=σ8.length:=by rw[←hw8,vh]
    refine⟨m',hm,i+1,H',(I'.zv (pins:=[])).weak hl (fun j v e=>?_),T.keep _ _ _ st7 fun b hb o e=>(pin' b hb o e).1,fun b hb=>?_,w'⟩
    ·rw[←hw8] at e
     exact (Bf e).1
    ·obtain⟨o,e,_⟩:=T.obj _ _ st7 b hb
     exact (pin' b hb o e).2
   cases b with
   | false=>
    simp only[Bool.false_eq_true,if_false] at q9 ⊢
    exact fin I9 q9
   | true=>
    simp only[if_true] at q9 ⊢
    refine Na (pe _ s9 σ8 H9 _ I9 q9) fun z s10 ⟨yv,H10,I10,r10,acc,hD10,hz10,nx⟩=>?_
    exact Tv (X:=X.K5 s3 H3 scope ce fp) I10 hD10 hz10 r10 fun s11 I11=>fin I11 nx
 exact codeAny_compStart_list loop (T.self X.A 0 _ _ _ st4 loop)
theorem nL {elt tg iter:Expr} {ifs:List Expr} {scope:Scope} {own:List (Str×Nat)} {pos:Pos} {wi:TI} {g:TG} {tt:TT} {te:TE} (hc:X.calm=true) (hN:X.N.Nodup) (hi:PI X tg iter wi) (ok:M0 X.N X.env.scope scope own)
  (hg:∀(s:Shared) (H:Hp) (C:Addr) (cl:List (Str×Addr)) (fp:List Addr),PG (X.K5 s H scope (compEnvC scope cl C X.env) fp) tg g) (ht:∀(s:Shared) (H:Hp) (C:Addr) (cl:List (Str×Addr)) (fp:List Addr),U5 (X.K5 s H scope (compEnvC scope cl C X.env) fp) ifs tt)
  (he:∀(s:Shared) (H:Hp) (C:Addr) (cl:List (Str×Addr)) (fp:List Addr),PE (X.K5 s H scope (compEnvC scope cl C X.env) fp) elt te) (hs:∀x,foldedSetIterable iter X.env x=pure x:=by intro _;rfl) :
  PE X (.ListComp elt [⟨tg,iter,ifs,0⟩] scope pos) (T6 wi g tt te (own.map (·.2))):=by
 intro pins s σ H Q I h
 rw[eval_ListComp]
 refine Rx hc hN I hi ok hg ht he hs h fun D C s' m H' I' q hn f=>⟨m,hn,fun h'' sb=>?_⟩
 obtain⟨f0,f1,f2,f3,f4,f5⟩:=f
 exact⟨.ref D,H',I'.turned (t':=s'.toks) (fun b o hb e=>(sb.2 b hb).trans e) f0 f1 f3 f4 f5,rfl,q⟩
end
noncomputable def UH (N:List Str) (sc scope:Scope) (own:List (Str×Nat)):Bool:=
 (match scope.kind with | .function=>true | _=>false)&&(scope.names.all fun y=>decide (scope.names.lookup y.1=some y.2))&&(own.all fun p=>decide (N[p.2]?=some p.1)) &&
  (scope.names.all fun y=>match y.2 with
   | .free=>(match sc.names.lookup y.1 with | some .cell=>true | some .free=>true | _=>false)
   | .local=>decide (y.1∈own.map (·.1)) || decide (y.1∉N)
   | .cell=>decide (y.1∈own.map (·.1)) || decide (y.1∉N)
   | _=>true)
theorem dO {N:List Str} {sc scope:Scope} {own:List (Str×Nat)} (h:UH N sc scope own=true):M0 N sc scope own:=by
 unfold UH at h
 simp only[Bool.and_eq_true,List.all_eq_true,decide_eq_true_eq] at h
 obtain⟨⟨⟨h1,h2⟩,h3⟩,h4⟩:=h
 refine⟨?_,h2,h3,fun y hy e=>?_,fun y hy e=>?_⟩
 ·split at h1
  ·assumption
  ·cases h1
 ·have q:=h4 y hy
  simp only[e] at q
  split at q<;>first | exact .inl (by assumption) | exact .inr (by assumption) | cases q
 ·have q:=h4 y hy
  rcases e with e | e<;>(simp only[e,Bool.or_eq_true,decide_eq_true_eq] at q;exact q)
end L2
namespace L2
open PySem PySem.Spec PyProof.Rows
section
variable {prog:Program} {w:World} {A:Around} {R:Result→Shared→Prop} {s:Shared} {elt t0 i0 t1 i1:Expr} {ifs0 ifs1:List Expr} {scope:Scope} {pos:Pos} {it acc:Value} {env:Env}
end
section
variable {X:Cx}
end
end L2
namespace L2
open PySem PySem.Spec PyProof.Rows
section
variable {κ:Type} [DecidableEq κ]
noncomputable def yx (kvs:List (κ×V)) (k:κ):Option V:=(kvs.find? fun kv=>decide (kv.1=k)).map (·.2)
noncomputable def putK (kvs:List (κ×V)) (k:κ) (v:V):List (κ×V):=
 if (kvs.any fun kv=>decide (kv.1=k))=true then kvs.map (fun kv=>if kv.1=k then (kv.1,v) else kv) else kvs++[(k,v)]
theorem zr {p:κ×V} {r:List (κ×V)} {k:κ} (e:p.1=k):yx (p::r) k=some p.2:=by simp[yx,List.find?_cons,e]
theorem zt {p:κ×V} {r:List (κ×V)} {k:κ} (e:¬p.1=k):yx (p::r) k=yx r k:=by simp[yx,List.find?_cons,e]
theorem zu (k:κ):∀kvs:List (κ×V),(kvs.any fun kv=>decide (kv.1=k))=(yx kvs k).isSome
 | []=>rfl
 | p ::r=>by
  rw[List.any_cons]
  by_cases e:p.1=k
  ·simp only[zr e,decide_eq_true e,Bool.true_or,Option.isSome_some]
  ·rw[zt e,decide_eq_false e,Bool.false_or];exact zu k r
theorem CI (kvs:List (κ×V)) (k:κ) (v:V):(putK kvs k v).length≤kvs.length+1:=by
 unfold putK
 split
 ·rw[List.length_map];omega
 ·rw[List.length_append,List.length_cons,List.length_nil];omega
theorem Pq {kvs:List (κ×V)} {k:κ} (v:V) (h:yx kvs k=none):putK kvs k v=kvs++[(k,v)]:=by
 unfold putK
 rw[zu,h]
 exact if_neg (by decide)
theorem ve.NY {o:Option V} {u:Option Value} (r:ve o u):o.isSome=u.isSome:=by
 cases o with
 | none=>cases u with
  | none=>rfl
  | some _=>exact (show False from r).elim
 | some _=>cases u with
  | none=>exact (show False from r).elim
  | some _=>rfl
theorem ve.getD {o:Option V} {u:Option Value} {d:V} {d':Value} (r:ve o u) (rd:RelV d d'):RelV (o.getD d) (u.getD d'):=by
 cases o with
 | none=>cases u with
  | none=>exact rd
  | some _=>exact (show False from r).elim
 | some _=>cases u with
  | none=>exact (show False from r).elim
  | some _=>exact r
theorem KV.val {kvs:List (κ×V)} {vs:List (κ×Value)} (r:KV kvs vs) (k:κ):ve (yx kvs k) (valueAt vs k):=by
 unfold KV at r
 induction r with
 | nil=>exact True.intro
 | @cons p q ps qs h t ih=>
  obtain⟨h1,h2⟩:=h
  by_cases e:p.1=k
  ·have e':q.1=k:=h1.symm.trans e
   have b:valueAt (q::qs) k=some q.2:=by simp[valueAt,List.find?_cons,e']
   rw[zr e,b];exact h2
  ·have e':¬q.1=k:=fun z=>e (h1.trans z)
   have b:valueAt (q::qs) k=valueAt qs k:=by simp[valueAt,List.find?_cons,e']
   rw[zt e,b];exact ih
theorem KV.any {kvs:List (κ×V)} {vs:List (κ×Value)} (r:KV kvs vs) (k:κ):(kvs.any fun kv=>decide (kv.1=k))=vs.any fun kv=>decide (kv.1=k):=by
 unfold KV at r
 induction r with
 | nil=>rfl
 | cons h t ih=>rw[List.any_cons,List.any_cons,ih,h.1]
theorem KV.SJ {kvs:List (κ×V)} {vs:List (κ×Value)} (r:KV kvs vs) (k:κ) {y:V} {u:Value} (ry:RelV y u) :
  KV (kvs.map fun kv=>if kv.1=k then (kv.1,y) else kv) (vs.map fun kv=>if kv.1=k then (kv.1,u) else kv):=by
 unfold KV at r ⊢
 induction r with
 | nil=>exact .nil
 | @cons p q ps qs h t ih=>
  rw[List.map_cons,List.map_cons]
  refine .cons ?_ ih
  obtain⟨h1,h2⟩:=h
  by_cases e:p.1=k
  ·rw[if_pos e,if_pos (h1.symm.trans e)];exact⟨h1,ry⟩
  ·rw[if_neg e,if_neg (fun z=>e (h1.trans z))];exact⟨h1,h2⟩
theorem KV.put {kvs:List (κ×V)} {vs:List (κ×Value)} (r:KV kvs vs) (k:κ) {y:V} {u:Value} (ry:RelV y u):KV (putK kvs k y) (stored vs k u):=by
 unfold putK stored
 rw[r.any k]
 by_cases e:(vs.any fun kv=>decide (kv.1=k))=true
 ·rw[if_pos e,if_pos e];exact r.SJ k ry
 ·rw[if_neg e,if_neg e];exact Paired.snoc r ⟨rfl,ry⟩
theorem KV.length {kvs:List (κ×V)} {vs:List (κ×Value)} (r:KV kvs vs):kvs.length=vs.length:=Paired.length r
end
theorem MF {P:Program} {w:World} {k:Key} {u:Value} (r:RelV (kV k) u):(fZ P w).is k u=true:=by
 cases k with
 | inl i=>obtain⟨t,e⟩:=(show ∃t,u=Value.int i t from r);subst e;exact JZ P w i t
 | inr x=>obtain⟨t,e⟩:=(show ∃t,u=Value.str x t from r);subst e;exact JY P w x t
theorem G5 {P:Program} {w:World}:∀{ks:List Key} {us:List Value},Vals (ks.map kV) us→ItemsAre (fZ P w) ks us
 | [],_,r=>by rw[List.map_nil] at r;cases r;exact .nil
 | k ::ks,_,r=>by
  rw[List.map_cons] at r
  cases r with
  | cons h t=>exact .cons (MF h) (G5 t)
noncomputable abbrev KT (H:Hp):List (List Key×V)→List (List Key×Addr×Value)→Prop:=Paired fun p q=>p.1=q.1∧H q.2.1=some (.tup (p.1.map kV))∧RelV p.2 q.2.2
theorem KT.val {H:Hp} {kvs:List (List Key×V)} {xs:List (List Key×Addr×Value)} (r:KT H kvs xs) (k:List Key):ve (yx kvs k) ((atKey xs k).map (·.2)):=by
 induction r with
 | nil=>exact True.intro
 | @cons p q ps qs h t ih=>
  obtain⟨h1,_,h2⟩:=h
  by_cases e:p.1=k
  ·have e':q.1=k:=h1.symm.trans e
   have b:atKey (q::qs) k=some q.2:=by simp[atKey,List.find?_cons,e']
   rw[zr e,b];exact h2
  ·have e':¬q.1=k:=fun z=>e (h1.trans z)
   have b:atKey (q::qs) k=atKey qs k:=by simp[atKey,List.find?_cons,e']
   rw[zt e,b];exact ih
theorem KT.SJ {H:Hp} {kvs:List (List Key×V)} {xs:List (List Key×Addr×Value)} (r:KT H kvs xs) (k:List Key) {y:V} {u:Value} (ry:RelV y u) :
  KT H (kvs.map fun kv=>if kv.1=k then (kv.1,y) else kv) (xs.map (putAt k u)):=by
 induction r with
 | nil=>exact .nil
 | @cons p q ps qs h t ih=>
  rw[List.map_cons,List.map_cons]
  refine .cons ?_ ih
  obtain⟨h1,h2,h3⟩:=h
  unfold putAt
  by_cases e:p.1=k
  ·rw[if_pos e,if_pos (h1.symm.trans e)];exact⟨h1,h2,ry⟩
  ·rw[if_neg e,if_neg (fun z=>e (h1.trans z))];exact⟨h1,h2,h3⟩
theorem KT.put {H:Hp} {kvs:List (List Key×V)} {xs:List (List Key×Addr×Value)} (r:KT H kvs xs) (k:List Key) {b:Addr} {y:V} {u:Value} (hb:H b=some (.tup (k.map kV))) (ry:RelV y u) :
  KT H (putK kvs k y) (storedH xs k b u):=by
 have e:(kvs.any fun kv=>decide (kv.1=k))=(atKey xs k).isSome:=by
  rw[zu,(r.val k).NY,Option.isSome_map]
 unfold putK storedH
 rw[e]
 by_cases q:(atKey xs k).isSome=true
 ·rw[if_pos q,if_pos q];exact r.SJ k ry
 ·rw[if_neg q,if_neg q];exact Paired.snoc r ⟨rfl,hb,ry⟩
theorem KT.keeps {H H':Hp} {kvs:List (List Key×V)} {xs:List (List Key×Addr×Value)} (r:KT H kvs xs) (ht:∀b ys,H b=some (.tup ys)→H' b=some (.tup ys)):KT H' kvs xs:=
 Paired.SY r fun _ _ z=>⟨z.1,ht _ _ z.2.1,z.2.2⟩
section
variable {P:Program} {w:World} {H:Hp} {h:Heap} {a:Addr}
theorem Sd {u:HO} (ok:wD P w H h) (e:Rd H a u):ia P w H h a u:=e.ok ok
theorem Fo {kvs:List (Key×V)} (ok:wD P w H h) (e:Rd H a (.dK kvs)):kvs.length≤sizeLine∧(a==sysModules)=false∧∃vs,KV kvs vs∧h.DictOf (fZ P w) a vs:=
 show ia P w H h a (.dK kvs) from Sd ok e
theorem UC {kvs:List (Key×V)} (ok:wD P w H h) (e:H a=some (.dK kvs)):kvs.length≤sizeLine∧(a==sysModules)=false∧∃vs,KV kvs vs∧h.DictOf (fZ P w) a vs:=Fo ok (.inl e)
theorem Il {ks:List Key} (ok:wD P w H h) (e:H a=some (.tup (ks.map kV))):(tupleKind (fZ P w)).is h ks a:=by
 obtain⟨_,its,r,o,h1,h2,n,h3⟩:=(show ia P w H h a (.tup (ks.map kV)) from ok a _ e)
 exact⟨o,its.toArray,n,h1,h2,h3,by simpa using G5 r⟩
theorem Kn {kvs:List (List Key×V)} (ok:wD P w H h) (e:Rd H a (.dT kvs)):kvs.length≤sizeLine∧(a==sysModules)=false ∧
  ∃xs,KT H kvs xs∧h.DictOfH (tupleKind (fZ P w)) a xs:=by
 obtain⟨z,y,xs,r,o,es,ep,h1,h2,h3,h4,h5⟩:=(show ia P w H h a (.dT kvs) from Sd ok e)
 refine⟨z,y,xs,r,o,es,ep,h1,h2,h3,h4,fun x hx=>?_,h5⟩
 have all:∀{l:List (List Key×V)} {m:List (List Key×Addr×Value)},KT H l m→∀x∈m,(tupleKind (fZ P w)).is h x.1 x.2.1:=by
  intro l m q
  induction q with
  | nil=>intro x hx;exact nomatch hx
  | @cons p q ps qs hq t ih=>
   intro x hx
   rcases List.mem_cons.mp hx with e | hx
   ·subst e
    exact Il ok (by rw[←hq.1];exact hq.2.1)
   ·exact ih x hx
 exact all r x hx
theorem UB {kvs:List (List Key×V)} (ok:wD P w H h) (e:H a=some (.dT kvs)):kvs.length≤sizeLine∧(a==sysModules)=false ∧
  ∃xs,KT H kvs xs∧h.DictOfH (tupleKind (fZ P w)) a xs:=Kn ok (.inl e)
end
noncomputable def FN (H:Hp) (a:Addr) (y:V) (r:Option V):Prop:=
 (∃kvs k,Rd H a (.dK kvs)∧y=kV k∧r=yx kvs k)∨∃kvs k b,Rd H a (.dT kvs)∧y=.ref b∧H b=some (.tup (k.map kV))∧r=yx kvs k
noncomputable def QG (H:Hp) (a:Addr) (y v:V) (H':Hp):Prop:=
 (∃kvs k,H a=some (.dK kvs)∧y=kV k∧kvs.length<sizeLine∧H'=upd H a (.dK (putK kvs k v))) ∨
 ∃kvs k b,H a=some (.dT kvs)∧y=.ref b∧H b=some (.tup (k.map kV))∧kvs.length<sizeLine∧H'=upd H a (.dT (putK kvs k v))
theorem FN.k {H:Hp} {a:Addr} {kvs:List (Key×V)} {k:Key} (e:H a=some (.dK kvs)):FN H a (kV k) (yx kvs k):=.inl ⟨kvs,k,.inl e,rfl,rfl⟩
theorem QG.k {H:Hp} {a:Addr} {kvs:List (Key×V)} {k:Key} {v:V} (e:H a=some (.dK kvs)) (hl:kvs.length<sizeLine):QG H a (kV k) v (upd H a (.dK (putK kvs k v))):=.inl ⟨kvs,k,e,rfl,hl,rfl⟩
section
variable {X:Cx} {pins:List (Addr×Obj)} {σ:St} {H:Hp} {s:Shared} {a:Addr} {y v:V} {u r:Value} {o:Option V} {A:Around} {E:Value→Shared→Prop}
theorem Inv.big (I:Inv X pins σ H s):sysModules<s.heap.objs.size:=by
 have h:mainGlobals<s.heap.objs.size:=(I.mod.glob.keeps I.bk).lt
 exact Nat.lt_trans (by decide) h
theorem Oe {Q:Value→Shared→Prop} (hu:A.units+1<cLine) (I:Inv X pins σ H s) (g:FN H a y (some v)) (ry:RelV y u) (h:∀w' s',Inv X pins σ H s'→RelV v w'→Q w' s') :
  wpAny (model X.prog X.w) A (getItem (.ref a) u) Q E s:=by
 rcases g with ⟨kvs,k,e,ey,l⟩ | ⟨kvs,k,b,e,ey,eb,l⟩
 ·subst ey
  obtain⟨z,hd,vs,rel,dd⟩:=Fo I.dN e
  obtain⟨w',hw,rw'⟩:=ve.some_of (v:=v) (o:=valueAt vs k) (by rw[l];exact rel.val k)
  exact wpAny_getItem_of (MF ry) dd.mapOf hw (h w' _ (I.tok _) rw')
 ·subst ey
  cases (show u=Value.ref b from ry)
  obtain⟨z,hd,xs,rel,dd⟩:=Kn I.dN e
  obtain⟨w',hw,rw'⟩:=ve.some_of (v:=v) (o:=(atKey xs k).map (·.2)) (by rw[l];exact rel.val k)
  obtain⟨p,hp,hp2⟩:=Option.map_eq_some_iff.mp hw
  refine wpAny_getItem_heap (tupleKind_room_in1 hu) (Il I.dN eb) dd hp ?_
  rw[hp2]
  exact h w' _ (I.tok _) rw'
theorem MT {h':Heap} {t':Nat} {ob:HO} (I:Inv X pins σ H s) (mu:UM (H a)) (hs:Heap.SameBut a s.heap h') (he:∃q,h'.get? a=some q) (new:ia X.prog X.w (upd H a ob) h' a ob) :
  Inv X pins σ (upd H a ob) { s with heap:=h',toks:=t' }:=
 I.write (x:=a) (e:=a) mu (.inl rfl) (fun b q hb z=>(hs.2 b hb).trans z) he new
theorem Tn {P:Program} {w:World} {H':Hp} {h':Heap} {kvs:List (Key×V)} {vs:List (Key×Value)} (z:kvs.length≤sizeLine) (hd:(a==sysModules)=false) (rel:KV kvs vs) (dd:h'.DictOf (fZ P w) a vs) :
  ia P w H' h' a (.dK kvs):=⟨z,hd,vs,rel,dd⟩
theorem Od {H':Hp} {Q:Unit→Shared→Prop} (hu:A.units+1<cLine) (I:Inv X pins σ H s) (g:QG H a y v H') (ry:RelV y u) (rv:RelV v r) (h:∀s',Inv X pins σ H' s'→Q () s') :
  wpAny (model X.prog X.w) A (setItem (.ref a) u r) Q E s:=by
 rcases g with ⟨kvs,k,e,ey,l,eH⟩ | ⟨kvs,k,b,e,ey,eb,l,eH⟩
 ·subst ey eH
  obtain⟨z,hd,vs,rel,dd⟩:=UC I.dN e
  have hz:vs.length≤sizeLine:=by rw[←rel.length];exact z
  have hl:(putK kvs k v).length≤sizeLine:=by have:=CI kvs k v;omega
  refine wpAny_setItem_pairs (hsz:=hz) (MF ry) dd fun h' dd' hs=>h _ ?_
  have he:∃q,h'.get? a=some q:=let ⟨q,_,_,hq,_⟩:=dd';⟨q,hq⟩
  exact MT I (by rw[e];exact True.intro) hs he (Tn hl hd (rel.put k rv) dd')
 ·subst ey eH
  cases (show u=Value.ref b from ry)
  obtain⟨z,hd,xs,rel,dd⟩:=UB I.dN e
  have hz:xs.length≤sizeLine:=by rw[←Paired.length rel];exact z
  have hl:(putK kvs k v).length≤sizeLine:=by have:=CI kvs k v;omega
  refine wpAny_setItem_heap (hsz:=hz) (tupleKind_room_in1 hu) (Il I.dN eb) dd fun h' dd' hs=>h _ ?_
  obtain⟨q,es,ep,hq,h2,h3,h4,_,h5⟩:=dd'
  refine MT I (by rw[e];exact True.intro) hs ⟨q,hq⟩ ⟨hl,hd,_,(rel.put k eb rv).keeps fun c ys ec=>?_,q,es,ep,hq,h2,h3,h4,h5⟩
  rw[af (oM ec e (fun z=>nomatch z))]
  exact ec
end
section
variable {X:Cx} {pins:List (Addr×Obj)} {σ:St} {H:Hp} {s:Shared} {a:Addr} {kvs:List (Key×V)} {k:Key} {u:Value} {A:Around} {E:Value→Shared→Prop}
theorem UD {Q:Value→Shared→Prop} (I:Inv X pins σ H s) (e:Rd H a (.dK kvs)) (h:∀t s',Inv X pins σ H s'→Q (.int kvs.length t) s'):wpAny (model X.prog X.w) A (call (.builtin "len") [.ref a]) Q E s:=by
 obtain⟨z,hd,vs,rel,dd⟩:=Fo I.dN e
 refine call_len_dict hd dd (by rw[←rel.length];rw[sizeLine_eq] at z;omega) ?_
 rw[←rel.length]
 exact h _ _ (I.tok _)
end
noncomputable def UL (i:Expr):Prop:=∀ov iv,subscripted i false ov iv=operate [ov,iv] (getItem ov iv)
theorem QW {prog:Program} {w:World} {A:Around} {E:Value→Shared→Prop} {s:Shared} {env:Env} {value slice:Expr} {pos:Pos} {T id:String} {Q:Value→Shared→Prop}
  (hl:typeLookup (.type T) "__getitem__"=pure (some (.builtin id))) (hs:UL slice)
  (h:wpAny (model prog w) A (eval value env) (fun o s₁=>wpAny (model prog w) A (eval slice env) (fun i s₂=>s₂.TypeIs o T∧wpAny (model prog w) A (getItem o i) Q E s₂) E s₁) E s) :
  wpAny (model prog w) A (eval (.Subscript value slice pos) env) Q E s:=by
 refine Subscript_ (wpAny_mono h (fun o s₁ h₁=>wpAny_mono h₁ (fun i s₂ h₂=>?_) fun _ _ x=>x) fun _ _ x=>x)
 obtain⟨hT,h₂⟩:=h₂
 unfold subscriptTail
 refine wpAny_bind ?_
 rw[getitemInPython_of_ne hT.not_modules]
 refine wpAny_bind (wpAny_specialOf hT hl ?_)
 have fin:wpAny (model prog w) A (subscripted slice false o i) (fun r s₃=>wpAny (model prog w) A (letTemporaryGo value o r >>= fun _=>pure r) Q E s₃) E s₂:=by
  rw[hs o i]
  exact wpAny_operating (wpAny_mono h₂ (fun r s₃ h₃=>wpAny_bind (wpAny_letTemporaryGo (wpAny_pure h₃))) fun _ _ x=>x)
 first
  | exact wpAny_pure (wpAny_bind fin)
  | exact wpAny_bind (wpAny_pure (wpAny_bind fin))
  | exact wpAny_bind fin
theorem Kq {X:Cx} {pins:List (Addr×Obj)} {σ:St} {H:Hp} {s:Shared} {a:Addr} {y:V} {o:Option V} (I:Inv X pins σ H s) (g:FN H a y o):s.TypeIs (.ref a) "dict":=by
 rcases g with ⟨kvs,k,e,_,_⟩ | ⟨kvs,k,b,e,_,_,_⟩
 ·obtain⟨_,_,vs,_,dd⟩:=Fo I.dN e
  exact dd.typeIs
 ·obtain⟨_,_,xs,_,dd⟩:=Kn I.dN e
  exact dd.typeIs
@[reducible] noncomputable def R6 (td ty:TE):TE:=fun σ H Q=>td σ H fun x H1=>ty σ H1 fun y H2=>∃a v,x=.ref a∧FN H2 a y (some v)∧Q v H2
@[reducible] noncomputable def Sa (td ty tv:TE):TS:=fun D σ H=>tv σ H fun v H1=>td σ H1 fun x H2=>ty σ H2 fun y H3=>∃a H4,x=.ref a∧QG H3 a y v H4∧D.nx σ H4
section
variable {X:Cx} {o i e value:Expr} {pos pos' tpos:Pos} {td ty tv:TE}
theorem HU (hu:X.A.units+1<cLine) (ho:PE X o td) (hi:PE X i ty) (hs:UL i):PE X (.Subscript o i pos) (R6 td ty):=by
 intro pins s σ H Q I h
 refine QW PySem.F.slot_dict_getitem.lookup hs (gr (ho pins s σ H _ I h) fun u s1 ⟨x,H1,I1,rx,q1⟩=>gr (hi pins s1 σ H1 _ I1 q1) fun iv s2 ⟨y,H2,I2,ry,a,v,ex,g,q2⟩=>?_)
 subst ex
 obtain rfl:u=Value.ref a:=rx
 exact⟨Kq I2 g,Oe hu I2 g ry fun w' s3 I3 rw'=>⟨v,H2,I3,rw',q2⟩⟩
theorem Rb (hu:X.A.units+1<cLine) (ho:PE X o td) (hi:PE X i ty) (hv:PE X value tv) (hs:swapsWith value (some (.Subscript o i pos')) pos.line X.env=pure false) :
  PS X (.Assign [.Subscript o i pos'] value pos) (Sa td ty tv):=by
 intro pins s σ H D I h
 refine wpAny_Assign_Subscript (gr (hv pins s σ H _ I h) fun r s1 ⟨v,H1,I1,rv,q1⟩=>gr (ho pins s1 σ H1 _ I1 q1) fun u s2 ⟨x,H2,I2,rx,q2⟩=>gr (hi pins s2 σ H2 _ I2 q2) fun iv s3 ⟨y,H3,I3,ry,a,H4,ex,g,q3⟩=>?_) hs
 subst ex
 obtain rfl:u=Value.ref a:=rx
 exact Od hu I3 g ry rv fun s4 I4=>⟨σ,H4,I4,q3⟩
end
theorem Qk {P:Program} {w:World} {H:Hp} (h:Heap) (hb:sysModules<h.objs.size):ia P w H (h.push { cls:=.type "dict",data:=.dict #[] }) h.objs.size (.dK []):=
 ⟨Nat.zero_le _,beq_eq_false_iff_ne.mpr (Ne.symm (Nat.ne_of_lt hb)),[],.nil,Heap.DictOf.new h⟩
@[reducible] noncomputable def O2 :TE:=fun _ H Q=>∀p,H p=none→Q (.ref p) (upd H p (.dK []))
section
variable {X:Cx} {pos:Pos}
theorem Px :PE X (.Dict [] [] pos) O2:=fun pins s σ H Q I h=>
 wpAny_Dict_empty ⟨.ref s.heap.objs.size,_,I.laid (a:=s.heap.objs.size) (o:=.dK []) (t':=s.toks) (fun _ _ q=>Heap.get?_push_of_some _ q) (Nat.le_refl _) (Qk s.heap I.big),rfl,h _ (I.dN.fresh (Nat.le_refl _))⟩
end
structure M2 (X:Cx) (o:Expr) (m:Str) (apos:Pos) (e f:Expr) (cpos:Pos):Prop where
 base :attributeBase o m X.env (eval o X.env)=eval o X.env
 VP :((backTo cpos (starEach [e,f] X.env)).all (fun x=>!x.1)&&(backToKw cpos (keywordEach [] X.env)).all (fun x=>x.1.isSome)
  && decide (([e,f]:List Expr).length+([]:List Keyword).length+(if ([]:List Keyword).isEmpty then 0 else 1)<30))=true
 line :(apos.endLine==cpos.line)=true
 trees :backTo cpos (starEach [e,f] X.env)=[(false,eval e X.env),(false,eval f X.env)]
noncomputable def VM (H:Hp) (a:Addr):Prop:=(∃kvs,Rd H a (.dK kvs))∨∃kvs,Rd H a (.dT kvs)
theorem Tb {X:Cx} {pins:List (Addr×Obj)} {σ:St} {H:Hp} {s:Shared} {a:Addr} (I:Inv X pins σ H s) (d:VM H a) :
  s.TypeIs (.ref a) "dict"∧(∀b,Value.ref a=.ref b→∃ob,s.heap.get? b=some ob∧ob.dict=none)∧(a==sysModules)=false:=by
 rcases d with ⟨kvs,e⟩ | ⟨kvs,e⟩
 ·obtain⟨_,hd,vs,_,dd⟩:=Fo I.dN e
  refine⟨dd.typeIs,fun b q=>?_,hd⟩
  cases q
  obtain⟨ob,_,_,h1,h2,_⟩:=dd
  exact⟨ob,h1,h2.2.1⟩
 ·obtain⟨_,hd,xs,_,dd⟩:=Kn I.dN e
  refine⟨dd.typeIs,fun b q=>?_,hd⟩
  cases q
  obtain⟨ob,_,_,h1,h2,_⟩:=dd
  exact⟨ob,h1,h2.2.1⟩
section
variable {X:Cx} {pins:List (Addr×Obj)} {σ:St} {H:Hp} {s:Shared} {a:Addr} {y d:V} {u r:Value} {o:Option V} {A:Around} {E:Value→Shared→Prop}
theorem Tq {Q:Value→Shared→Prop} (hu:A.units+1<cLine) (I:Inv X pins σ H s) (g:FN H a y o) (ry:RelV y u) (rd:RelV d r) (h:∀w' s',Inv X pins σ H s'→RelV (o.getD d) w'→Q w' s') :
  wpAny (model X.prog X.w) A (call (.builtin "dict.get") [.ref a,u,r]) Q E s:=by
 rcases g with ⟨kvs,k,e,ey,l⟩ | ⟨kvs,k,b,e,ey,eb,l⟩
 ·subst ey
  obtain⟨z,hd,vs,rel,dd⟩:=Fo I.dN e
  refine call_meetsIn PySem.F.slot_dict_get dd.typeIs PySem.F.entry_dict_get (PySem.F.args_dict_get_3 _ _ _) (meets_dict_get_default (fZ X.prog X.w) a (MF ry) hd r) ⟨_,dd.mapOf,h _ _ (I.tok _) ?_⟩
  rw[l]
  exact (rel.val k).getD rd
 ·subst ey
  cases (show u=Value.ref b from ry)
  obtain⟨z,hd,xs,rel,dd⟩:=Kn I.dN e
  refine call_meetsIn PySem.F.slot_dict_get dd.typeIs PySem.F.entry_dict_get (PySem.F.args_dict_get_3 _ _ _) (meetsH_dict_get_default (tupleKind (fZ X.prog X.w)) a b hd r) ⟨tupleKind_room_in1 hu,k,xs,Il I.dN eb,dd,h _ _ (I.tok _) ?_⟩
  rw[l]
  exact (rel.val k).getD rd
end
@[reducible] noncomputable def O3 (td ty tx:TE):TE:=fun σ H Q=>td σ H fun x H1=>∃a,x=.ref a∧VM H1 a∧ty σ H1 fun y H2=>tx σ H2 fun z H3=>∃o,FN H3 a y o∧Q (o.getD z) H3
section
variable {X:Cx} {o e f:Expr} {apos cpos:Pos} {td ty tx:TE}
theorem Py (hu:X.A.units+1<cLine) (ho:PE X o td) (he:PE X e ty) (hf:PE X f tx) (m:M2 X o "get" apos e f cpos):PE X (.Call (.Attribute o "get" apos) [e,f] [] cpos) (O3 td ty tx):=by
 intro pins s σ H Q I h
 refine wpAny_Call_method m.base m.VP m.line PySem.F.plainAttrs_dict PySem.F.slot_dict_get PySem.F.type_dict_get (gr (ho pins s σ H _ I h) fun u s1 ⟨x,H1,I1,rx,a,ex,d,q1⟩=>?_)
 subst ex
 obtain rfl:u=Value.ref a:=rx
 obtain⟨t1,t2,_⟩:=Tb I1 d
 refine⟨t1,t2,?_⟩
 rw[m.trees]
 refine Calls.callWith_builtin rfl (Calls.evalArgs_plain (Calls.spliced_cons (gr (he pins s1 σ H1 _ I1 q1) fun iv s2 ⟨y,H2,I2,ry,q2⟩=>
  Calls.spliced_cons (gr (hf pins s2 σ H2 _ I2 q2) fun fv s3 ⟨z,H3,I3,rz,ov,g,q3⟩=>Calls.spliced_nil ?_))))
 exact Tq hu I3 g ry rz fun w' s4 I4 rw'=>⟨_,H3,I4,rw',q3⟩
end
section
variable {X:Cx} {pins:List (Addr×Obj)} {σ:St} {H:Hp} {s:Shared} {a:Addr} {kvs:List (Key×V)} {A:Around} {E:Value→Shared→Prop}
end
section
variable {X:Cx} {pins:List (Addr×Obj)} {σ:St} {H:Hp} {s:Shared} {a:Addr} {y:V} {u:Value} {A:Around} {E:Value→Shared→Prop}
end
end L2
namespace L2
open PySem PySem.Spec PyProof.Rows
section
variable {prog:Program} {w:World} {A:Around} {E:Value→Shared→Prop}
end
section
variable {X:Cx}
end
end L2
namespace L2
open PySem PySem.Spec PyProof.Rows
section
variable {X:Cx} {pins:List (Addr×Obj)} {σ:St} {H:Hp} {s:Shared} {h':Heap}
theorem Inv.QT {t':Nat} {ch:List Addr} (I:Inv X pins σ H s) (k:∀b o,b∉ch→s.heap.get? b=some o→h'.get? b=some o) (hf:∀b∈ch,Dz X pins H b):Inv X pins σ H { s with heap:=h',toks:=t' }:=by
 have nit:∀b u,H b=some u→b∉ch:=fun b u e z=>by
  have q:=(hf b z).1
  rw[q] at e;cases e
 refine I.step (g':=s.gens) (d':=s.drawn) (ch:=ch) (fun b hb=>⟨(hf b hb).2.2.2.1,(hf b hb).2.1,(hf b hb).2.2.2.2.1,(hf b hb).2.2.2.2.2⟩) (fun b o _ _ hc e _=>k b o hc e) (fun b o _ _ hc e _=>⟨o.slots,k b o hc e⟩)
  (fun _ _ _ _ n=>n) (fun b o hc e=>⟨o,k b o hc e⟩) (fun _ _ e=>e) (fun _ _ _ e=>e) (fun b ps e=>⟨#[],by rw[e];simp⟩) (fun m hm=>?_) (fun b u e=>?_) I.bare
 ·obtain⟨o,es,ep,ho,r⟩:=hm
  exact⟨o,es,ep,k _ o (fun z=>(hf _ z).2.1 rfl) ho,r⟩
 ·refine (I.dN b u e).Le (fun c v hc q=>k c v ?_ q) (fun _ q=>q) fun _ _ q=>q
  rcases hc with z | z
  ·rw[z];exact nit b u e
  ·exact nit c _ z
theorem Inv.GP {t':Nat} {ch:List Addr} {T:Addr} {ob:HO} (I:Inv X pins σ H s) (k:∀b o,b∉ch→s.heap.get? b=some o→h'.get? b=some o) (hf:∀b∈ch,Dz X pins H b) (hT:s.heap.objs.size≤T)
  (new:ia X.prog X.w (upd H T ob) h' T ob):Inv X pins σ (upd H T ob) { s with heap:=h',toks:=t' }:=by
 have hn:H T=none:=I.dN.fresh hT
 have nit:∀b u,H b=some u→b∉ch:=fun b u e z=>by
  have q:=(hf b z).1
  rw[q] at e;cases e
 refine I.step (g':=s.gens) (d':=s.drawn) (ch:=ch) (fun b hb=>⟨(hf b hb).2.2.2.1,(hf b hb).2.1,(hf b hb).2.2.2.2.1,(hf b hb).2.2.2.2.2⟩) (fun b o _ _ hc e _=>k b o hc e) (fun b o _ _ hc e _=>⟨o.slots,k b o hc e⟩)
  (fun b o _ e n=>?_) (fun b o hc e=>⟨o,k b o hc e⟩) (fun b xs e=>?_) (fun b o u e=>?_) (fun b ps e=>⟨#[],?_⟩) (fun m hm=>?_) (fun b u e=>?_) I.bare
 ·rw[af (Nat.ne_of_lt (Nat.lt_of_lt_of_le (Heap.lt_size e) hT))];exact n
 ·rw[af (ao e hn)];exact e
 ·rw[af (ao e hn)];exact e
 ·rw[af (ao e hn),e];simp
 ·obtain⟨o,es,ep,ho,r⟩:=hm
  exact⟨o,es,ep,k _ o (fun z=>(hf _ z).2.1 rfl) ho,r⟩
 ·by_cases hb:b=T
  ·subst hb
   rw[ae] at e
   cases e
   exact new
  ·rw[af hb] at e
   refine (I.dN b u e).Le (fun c v hc q=>k c v ?_ q) (fun c q=>by rw[af (ao q hn)];exact q) fun c xs q=>by rw[af (ao q hn)];exact q
   rcases hc with z | z
   ·rw[z];exact nit b u e
   ·exact nit c _ z
end
section
variable {X:Cx}
theorem Pu {tg:Expr} {pins:List (Addr×Obj)} {σ:St} {H:Hp} {s:Shared} {R:It→Hp→Prop} {J:It} {tn:Nat→Heap→Prop} {tk:Nat} (I:Inv X pins σ H s) (o:Obj)
  (T:Turn X.prog X.w X.K tg J [s.heap.objs.size] s.heap.objs.size tn) (st:tn 0 (s.heap.push o)) (q:R J H):Vv X pins σ tg R (.ref s.heap.objs.size) { s with heap:=s.heap.push o,toks:=tk }:=by
 refine⟨s.heap.objs.size,[s.heap.objs.size],tn,J,H,rfl,I.kept fun b ob e=>Heap.get?_push_of_some _ e,T,st,fun b hb=>?_,q⟩
 have e:b=s.heap.objs.size:=by simpa using hb
 subst e
 exact I.Oa (Nat.le_refl _) (I.dN.fresh (Nat.le_refl _))
end
section
variable {X:Cx} {tg:Expr}
end
section
variable {X:Cx} {tg:Expr}
end
noncomputable def UO (x:Str):It:=⟨fun i _=>i<x.cps.size,fun i H v H'=>H'=H∧∃c,x.cps[i]?=some c∧v=.str ⟨#[c]⟩,fun i _=>x.cps.size≤i⟩
theorem Jj {P:Program} {w:World} {K:PySem.W.Frag} {tg:Expr} (it:Addr) (x:Str) (t:Tok) (ty:String) (hty:ty="str_ascii_iterator"∨ty="str_iterator") :
  Turn P w K tg (UO x) [it] it (fun i h=>h.IsStrIter it ty x t i) where
 mem:=by simp
 obj:=fun i h st b hb=>by
  have e:b=it:=by simpa using hb
  subst e
  obtain⟨o,e,c,d⟩:=st
  exact⟨o,e,fun v z=>by rw[d] at z;cases z⟩
 keep:=fun i h h' st k=>let ⟨o,ho,r⟩:=st;⟨o,k it (by simp) o ho,r⟩
 item:=by
  intro X hP hw hK hc i pins s σ H E I hf st hg
  subst hP hw hK
  obtain⟨f0,f1,f2,f3,f4,f5⟩:=hf it (by simp)
  have W:Walks X.prog X.w X.A it [it] [it] x.cps.size (SignAt x) (fun i h=>h.IsStrIter it ty x t i):=by
   rcases hty with e | e
   ·rw[e];exact Walks.strAscii (I.ok.hd hc) it x t
   ·rw[e];exact Walks.strWide (I.ok.hd hc) it x t
  have hno:["enumerate","zip","dict_itemiterator","dict_reverseitemiterator","odict_iterator","itertools.zip_longest","itertools.pairwise"].contains ty=false:=by
   rcases hty with e | e
   ·rw[e];decide
   ·rw[e];decide
  refine W.item i s _ _ hg st fun v h' tk hv st' kk=>?_
  obtain⟨c,u,hcx,rfl⟩:=hv
  have I1:Inv X pins σ H { s with heap:=h',toks:=tk }:=I.turned (fun b o hb e=>kk b o (by simpa using hb) e) f0 f1 f3 f4 f5
  obtain⟨oi,e,cc,dd⟩:=id st'
  exact⟨_,rfl,Qc (s:={ s with heap:=h',toks:=tk }) e cc dd hno ⟨.str ⟨#[c]⟩,H,I1,⟨u,rfl⟩,⟨rfl,c,hcx,rfl⟩,st',fun b hb=>(hf b hb).1⟩⟩
 done:=by
  intro X hP hw hK hc i pins s σ H E I hf st hg
  subst hP hw hK
  obtain⟨f0,f1,f2,f3,f4,f5⟩:=hf it (by simp)
  have hx:x.cps[i]?=none:=Array.getElem?_eq_none hg
  rcases hty with e | e
  ·rw[e] at st
   exact wpAny_pyNext_ascii_end (I.ok.hd hc) st hx fun h' eb=>⟨rfl,I.turned (t':=s.toks) (fun b o hb e=>eb b o hb e) f0 f1 f3 f4 f5⟩
  ·rw[e] at st
   exact wpAny_pyNext_wide_end (I.ok.hd hc) st hx fun h' eb=>⟨rfl,I.turned (t':=s.toks) (fun b o hb e=>eb b o hb e) f0 f1 f3 f4 f5⟩
 self:=fun A i s Q E st h=>by
  rcases hty with e | e
  ·rw[e] at st;exact wpAny_pyIter_striter_ascii st h
  ·rw[e] at st;exact wpAny_pyIter_striter_wide st h
noncomputable def Ur (te:TE):TI:=fun σ H R=>te σ H fun v H1=>∃x,v=.str x∧R (UO x) H1
theorem SN {X:Cx} {tg e:Expr} {te:TE} (he:PE X e te):PI X tg e (Ur te):=by
 intro pins s σ H R I h
 refine gr (he pins s σ H _ I h) fun v s1 ⟨y,H1,I1,r1,x,ex,q⟩=>?_
 subst ex
 obtain⟨t,rfl⟩:=r1
 cases ha:x.cps.all (·<128)
 ·exact wpAny_pyIter_wide ha (Pu (tk:=s1.toks) I1 _ (Jj _ x t "str_iterator" (.inr rfl)) ⟨_,Heap.get?_push_size _ rfl,rfl,rfl⟩ q)
 ·exact wpAny_pyIter_ascii ha (Pu (tk:=s1.toks) I1 _ (Jj _ x t "str_ascii_iterator" (.inl rfl)) ⟨_,Heap.get?_push_size _ rfl,rfl,rfl⟩ q)
section
variable {prog:Program} {w:World} {A:Around} {E:Value→Shared→Prop} {s:Shared}
end
theorem Ly {α β:Type} {G:α→β→Prop} {l₁:List α} {l₂:List β} (h:Paired G l₁ l₂):∀{i:Nat} {a:α},l₁[i]?=some a→∃b,l₂[i]?=some b∧G a b:=by
 induction h with
 | nil=>intro i a e;simp at e
 | @cons a b l₁ l₂ r t ih=>
  intro i a' e
  cases i with
  | zero=>
   simp only[List.getElem?_cons_zero,Option.some.injEq] at e
   subst e
   exact⟨b,rfl,r⟩
  | succ j=>
   simp only[List.getElem?_cons_succ] at e ⊢
   exact ih e
section
variable {X:Cx} {pins:List (Addr×Obj)} {σ:St} {H:Hp} {s:Shared} {d:Addr} {o:Obj}
end
section
variable {P:Program} {w:World} {K:PySem.W.Frag} {tg:Expr} {d:Addr} {o:Obj} {es:Array DictEntry} {ep:Nat}
end
section
variable {X:Cx} {tg e:Expr} {td:TE} {apos cpos:Pos}
end
noncomputable def Ss (K:PySem.W.Frag) (a:Addr):It:=
 ⟨fun i H=>∃(xs:List V) (x:V),aM K H a xs∧xs[i]?=some x,fun i H v H'=>∃T x,v=.ref T∧H T=none∧H'=upd H T (.tup [.int (i:Nat),x])∧∀xs,aM K H a xs→xs[i]?=some x,fun i H=>∃xs:List V,aM K H a xs∧xs.length≤i⟩
theorem M8 {P:Program} {w:World} {K:PySem.W.Frag} {elts:List Expr} {kk:Nat} {tpos:Pos} (a e it:Addr) :
  Turn P w K (.Tuple elts kk tpos) (Ss K a) [e,it] e (fun i h=>(∃old,IsEnum h e it ((i:Nat):Int) old)∧h.IsListIter it a i∧e≠it) where
 mem:=by simp
 obj:=fun i h st b hb=>by
  obtain⟨⟨old,he⟩,⟨o,ho,hc,hd⟩,_⟩:=st
  have e':b=e∨b=it:=by simpa using hb
  rcases e' with z | z
  ·rw[z];exact⟨_,he,fun v q=>nomatch q⟩
  ·rw[z];exact⟨o,ho,fun v q=>by rw[hd] at q;cases q⟩
 keep:=fun i h h' st k=>let ⟨⟨old,he⟩,hi,hne⟩:=st;⟨⟨old,k e (by simp) _ he⟩,hi.at fun o q=>k it (by simp) o q,hne⟩
 item:=by
  intro X hP hw hK hc i pins s σ H E I hf st hg
  subst hP hw hK
  obtain⟨⟨old,he⟩,hit,hne⟩:=st
  obtain⟨xs,x,hq,hx⟩:=hg
  obtain⟨its,rv,p,hz⟩:=I.list hq
  obtain⟨u,hu,ru⟩:=rv.get hx
  have hel:e<s.heap.objs.size:=Heap.lt_size he
  have hil:it<s.heap.objs.size:=by obtain⟨_,q,_⟩:=hit;exact Heap.lt_size q
  refine wpAny_pyNext_enum_item he hit p.isList (x:=u) (by simpa using hu) hne fun h' ho hit' hT hsz hk=>?_
  refine⟨_,rfl,wpAny_letOwnedTupleGo_enum (s:={ s with heap:=h',toks:=s.toks+1 }) ho fun h'' he' sb=>?_⟩
  have hT2:h''.get? s.heap.objs.size=some { cls:=.type "tuple",data:=.seq #[.int i s.toks,u] }:=(sb.2 _ (Nat.ne_of_gt hel)).trans hT
  have new:ia X.prog X.w (upd H s.heap.objs.size (.tup [.int (i:Nat),x])) h'' s.heap.objs.size (.tup [.int (i:Nat),x]):=
   ⟨by show 2≤sizeLine;decide,[.int i s.toks,u],.cons ⟨_,rfl⟩ (.cons ru .nil),⟨_,hT2,rfl,_,rfl⟩⟩
  have I1:Inv X pins σ (upd H s.heap.objs.size (.tup [.int (i:Nat),x])) { s with heap:=h'',toks:=s.toks+1 }:=
   I.GP (ch:=[e,it]) (fun b ob hb q=>(sb.2 b (fun z=>hb (by simp[z]))).trans (hk b ob (fun z=>hb (by simp[z])) (fun z=>hb (by simp[z])) q)) hf (Nat.le_refl _) new
  refine⟨.ref s.heap.objs.size,_,I1,rfl,⟨_,x,rfl,I.dN.fresh (Nat.le_refl _),rfl,fun ys hy=>by rw[I.Av hy hq];exact hx⟩,⟨⟨u,?_⟩,hit'.at fun o q=>(sb.2 it (Ne.symm hne)).trans q,hne⟩,fun b hb=>?_⟩
  ·have e1:((i+1:Nat):Int)=(i:Int)+1:=by omega
   rw[e1];exact he'
  ·have hb':b<s.heap.objs.size:=by
    have e':b=e∨b=it:=by simpa using hb
    rcases e' with z | z
    ·rw[z];exact hel
    ·rw[z];exact hil
   rw[af (Nat.ne_of_lt hb')]
   exact (hf b hb).1
 done:=by
  intro X hP hw hK hc i pins s σ H E I hf st hg
  subst hP hw hK
  obtain⟨⟨old,he⟩,hit,hne⟩:=st
  obtain⟨xs,hq,hx⟩:=hg
  obtain⟨its,rv,p,hz⟩:=I.list hq
  obtain⟨f0,f1,f2,f3,f4,f5⟩:=hf it (by simp)
  have hl:=rv.length
  exact wpAny_pyNext_enum_end (I.ok.hd hc) he hit p.isList (by simp;omega) fun h' eb=>⟨rfl,I.turned (t':=s.toks) (fun b o hb q=>eb b o hb q) f0 f1 f3 f4 f5⟩
 self:=fun A i s Q E st h=>let ⟨⟨_,he⟩,_⟩:=st;wpAny_pyIter_enum he h
noncomputable def P6 (K:PySem.W.Frag) (ta:TA):TI:=fun σ H R=>ta σ H fun vs H1=>∃a xs,vs=[.ref a]∧aM K H1 a xs∧R (Ss K a) H1
theorem z0 {X:Cx} {e:Expr} {ta:TA} {p pos tpos:Pos} {elts:List Expr} {kk:Nat} (hg:Gl X "enumerate") (hm:X.mg "enumerate"=none) (ha:PA X [e] ta) (hs:starEach [e] X.env=[(false,eval e X.env)]:=by rfl) :
  PI X (.Tuple elts kk tpos) (.Call (.Name "enumerate" p) [e] [] pos) (P6 X.K ta):=by
 intro pins s σ H R I h
 refine Call_ (Ik I hg hm boot_enumerate (PyProof.Rows.callWith_type1 (gr (ha pos pins s σ H _ I h) fun us s1 ⟨vs,H1,I1,r1,q1⟩=>?_) hs rfl))
 obtain⟨a,xs,ex,hq,q⟩:=q1
 subst ex
 cases r1 with
 | cons r rr=>
  cases rr
  cases r
  obtain⟨its,rv,p',hz⟩:=I1.list hq
  refine call_enumerate_list p'.isList fun h' he hit hsz hk=>wpAny_pyIter_enum he ?_
  have I2:Inv X pins σ H1 { s1 with heap:=h' }:=I1.kept (t':=s1.toks) hk
  refine⟨s1.heap.objs.size+1,[s1.heap.objs.size+1,s1.heap.objs.size],_,_,H1,rfl,I2,M8 a (s1.heap.objs.size+1) s1.heap.objs.size,⟨⟨.none,he⟩,hit,Nat.succ_ne_self _⟩,fun b hb=>?_,q⟩
  have e':b=s1.heap.objs.size+1∨b=s1.heap.objs.size:=by simpa using hb
  have hle:s1.heap.objs.size≤b:=by
   rcases e' with z | z
   ·rw[z];exact Nat.le_add_right _ _
   ·rw[z];exact Nat.le_refl _
  exact I1.Oa hle (I1.dN.fresh hle)
theorem Oo :bootBuiltins "zip"=some (.type "zip"):=by decide +kernel
noncomputable def UN (K:PySem.W.Frag) (a b:Addr):It:=
 ⟨fun i H=>∃(xs ys:List V) (x y:V),aM K H a xs∧aM K H b ys∧xs[i]?=some x∧ys[i]?=some y,
  fun i H v H'=>∃T x y,v=.ref T∧H T=none∧H'=upd H T (.tup [x,y])∧(∀xs,aM K H a xs→xs[i]?=some x)∧∀ys,aM K H b ys→ys[i]?=some y,
  fun i H=>∃xs ys:List V,aM K H a xs∧aM K H b ys∧(xs.length≤i∨ys.length≤i)⟩
theorem OR {P:Program} {w:World} {K:PySem.W.Frag} {elts:List Expr} {kk:Nat} {tpos:Pos} {a b z TI TO i1 i2:Addr} (D:ZipApart z TI TO i1 i2 a b) :
  Turn P w K (.Tuple elts kk tpos) (UN K a b) [z,TI,TO,i1,i2] z (fun i h=>IsZip h z TI TO .none∧IsPair h TI (.ref i1) (.ref i2)∧(∃x y,IsPair h TO x y)∧h.IsListIter i1 a i∧h.IsListIter i2 b i) where
 mem:=by simp
 obj:=fun i h st c hc=>by
  obtain⟨hz,hTI,⟨x,y,hTO⟩,⟨o1,e1,_,d1⟩,⟨o2,e2,_,d2⟩⟩:=st
  have e':c=z∨c=TI∨c=TO∨c=i1∨c=i2:=by simpa using hc
  rcases e' with q | q | q | q | q
  ·rw[q];exact⟨_,hz,fun v q=>nomatch q⟩
  ·rw[q];exact⟨_,hTI,fun v q=>nomatch q⟩
  ·rw[q];exact⟨_,hTO,fun v q=>nomatch q⟩
  ·rw[q];exact⟨o1,e1,fun v q=>by rw[d1] at q;cases q⟩
  ·rw[q];exact⟨o2,e2,fun v q=>by rw[d2] at q;cases q⟩
 keep:=fun i h h' st k=>by
  obtain⟨hz,hTI,⟨x,y,hTO⟩,h1,h2⟩:=st
  exact⟨k z (by simp) _ hz,k TI (by simp) _ hTI,⟨x,y,k TO (by simp) _ hTO⟩,h1.at fun o q=>k i1 (by simp) o q,h2.at fun o q=>k i2 (by simp) o q⟩
 item:=by
  intro X hP hw hK hc i pins s σ H E I hf st hg
  subst hP hw hK
  obtain⟨hz,hTI,⟨x0,y0,hTO⟩,h1,h2⟩:=st
  obtain⟨xs,ys,x,y,hqx,hqy,hx,hy⟩:=hg
  obtain⟨its,rv,p,_⟩:=I.list hqx
  obtain⟨its2,rv2,p2,_⟩:=I.list hqy
  obtain⟨u,hu,ru⟩:=rv.get hx
  obtain⟨u2,hu2,ru2⟩:=rv2.get hy
  have hzl:z<s.heap.objs.size:=Heap.lt_size hz
  refine wpAny_pyNext_zip_item D hz hTI hTO h1 h2 p.isList p2.isList (x:=u) (y:=u2) (by simpa using hu) (by simpa using hu2) fun h' z' TO' h1' h2' hT hsz hk=>?_
  refine⟨_,rfl,wpAny_letOwnedTupleGo_zip (s:={ s with heap:=h' }) z' fun h'' z'' sb=>?_⟩
  have hT2:h''.get? s.heap.objs.size=some { cls:=.type "tuple",data:=.seq #[u,u2] }:=(sb.2 _ (Nat.ne_of_gt hzl)).trans hT
  have new:ia X.prog X.w (upd H s.heap.objs.size (.tup [x,y])) h'' s.heap.objs.size (.tup [x,y]):=
   ⟨by show 2≤sizeLine;decide,[u,u2],.cons ru (.cons ru2 .nil),⟨_,hT2,rfl,_,rfl⟩⟩
  have I1:Inv X pins σ (upd H s.heap.objs.size (.tup [x,y])) { s with heap:=h'' }:=
   I.GP (t':=s.toks) (ch:=[z,TI,TO,i1,i2]) (fun c o hb q=>(sb.2 c (fun q'=>hb (by simp[q']))).trans (hk c o (fun q'=>hb (by simp[q'])) (fun q'=>hb (by simp[q'])) (fun q'=>hb (by simp[q'])) (fun q'=>hb (by simp[q'])) q)) hf (Nat.le_refl _) new
  refine⟨.ref s.heap.objs.size,_,I1,rfl,⟨_,x,y,rfl,I.dN.fresh (Nat.le_refl _),rfl,fun l hl=>by rw[I.Av hl hqx];exact hx,fun l hl=>by rw[I.Av hl hqy];exact hy⟩,⟨z'',?_,⟨u,u2,?_⟩,?_,?_⟩,fun c hcm=>?_⟩
  ·exact (sb.2 _ D.TIz).trans (hk _ _ D.TIz D.TITO D.TIi1 D.TIi2 hTI)
  ·exact (sb.2 _ D.TOz).trans TO'
  ·exact h1'.at fun o q=>(sb.2 _ D.i1z).trans q
  ·exact h2'.at fun o q=>(sb.2 _ D.i2z).trans q
  ·have hlt:c<s.heap.objs.size:=by
    have e':c=z∨c=TI∨c=TO∨c=i1∨c=i2:=by simpa using hcm
    rcases e' with q | q | q | q | q
    ·rw[q];exact hzl
    ·rw[q];exact Heap.lt_size hTI
    ·rw[q];exact Heap.lt_size hTO
    ·rw[q];obtain⟨_,e1,_⟩:=h1;exact Heap.lt_size e1
    ·rw[q];obtain⟨_,e2,_⟩:=h2;exact Heap.lt_size e2
   rw[af (Nat.ne_of_lt hlt)]
   exact (hf c hcm).1
 done:=by
  intro X hP hw hK hc i pins s σ H E I hf st hg
  subst hP hw hK
  obtain⟨hz,hTI,⟨x0,y0,hTO⟩,h1,h2⟩:=st
  obtain⟨xs,ys,hqx,hqy,hend⟩:=hg
  obtain⟨its,rv,p,_⟩:=I.list hqx
  obtain⟨its2,rv2,p2,_⟩:=I.list hqy
  have l1:=rv.length
  have l2:=rv2.length
  have he:its.toArray[i]?=none∨its2.toArray[i]?=none:=by
   rcases hend with q | q
   ·exact .inl (by simp;omega)
   ·exact .inr (by simp;omega)
  exact wpAny_pyNext_zip_end (I.ok.hd hc) D hz hTI hTO h1 h2 p.isList p2.isList he fun h' hk=>⟨rfl,I.QT (t':=s.toks) (ch:=[z,TI,TO,i1,i2]) (fun c o hb q=>
   hk c o (fun q'=>hb (by simp[q'])) (fun q'=>hb (by simp[q'])) (fun q'=>hb (by simp[q'])) (fun q'=>hb (by simp[q'])) q) hf⟩
 self:=fun A i s Q E st h=>wpAny_pyIter_zip st.1 h
noncomputable def Uq (K:PySem.W.Frag) (ta:TA):TI:=fun σ H R=>ta σ H fun vs H1=>∃a b xs ys,vs=[.ref a,.ref b]∧aM K H1 a xs∧aM K H1 b ys∧R (UN K a b) H1
theorem SM {X:Cx} {e e2:Expr} {ta:TA} {p pos tpos:Pos} {elts:List Expr} {kk:Nat} (hg:Gl X "zip") (hm:X.mg "zip"=none) (ha:PA X [e,e2] ta)
  (hs:starEach [e,e2] X.env=(false,eval e X.env)::starEach [e2] X.env:=by rfl) (hpl:(backTo pos (starEach [e2] X.env)).any (·.1)=false:=by rfl) :
  PI X (.Tuple elts kk tpos) (.Call (.Name "zip" p) [e,e2] [] pos) (Uq X.K ta):=by
 intro pins s σ H R I h
 refine Call_ (Ik I hg hm Oo (PyProof.Rows.callWith_type1 (gr (ha pos pins s σ H _ I h) fun us s1 ⟨vs,H1,I1,r1,q1⟩=>?_) hs hpl))
 obtain⟨a,b,xs,ys,ex,hqx,hqy,q⟩:=q1
 subst ex
 cases r1 with
 | cons r rr=>
  cases rr with
  | cons r' rr=>
   cases rr
   cases r
   cases r'
   obtain⟨its,rv,p1,_⟩:=I1.list hqx
   obtain⟨its2,rv2,p2,_⟩:=I1.list hqy
   have la:a<s1.heap.objs.size:=p1.lt
   have lb:b<s1.heap.objs.size:=p2.lt
   refine call_zip_2 p1.isList p2.isList fun h' hz hTI hTO h1 h2 hsz hk=>wpAny_pyIter_zip hz ?_
   have I2:Inv X pins σ H1 { s1 with heap:=h' }:=I1.kept (t':=s1.toks) hk
   refine⟨s1.heap.objs.size+4,[s1.heap.objs.size+4,s1.heap.objs.size+2,s1.heap.objs.size+3,s1.heap.objs.size,s1.heap.objs.size+1],_,_,H1,rfl,I2,OR (PySem.W.ktu_apart s1.heap.objs.size a b la lb),⟨hz,hTI,⟨_,_,hTO⟩,h1,h2⟩,fun c hcm=>?_,q⟩
   have e':c=s1.heap.objs.size+4∨c=s1.heap.objs.size+2∨c=s1.heap.objs.size+3∨c=s1.heap.objs.size∨c=s1.heap.objs.size+1:=by simpa using hcm
   have hle:s1.heap.objs.size≤c:=by
    rcases e' with z | z | z | z | z
    ·rw[z];exact Nat.le_add_right _ _
    ·rw[z];exact Nat.le_add_right _ _
    ·rw[z];exact Nat.le_add_right _ _
    ·rw[z];exact Nat.le_refl _
    ·rw[z];exact Nat.le_add_right _ _
   exact I1.Oa hle (I1.dN.fresh hle)
end L2
section
namespace UR
open PySem PyProof.Rows
theorem Qu {x y:Int} (hx:0≤x) (hy:0≤y):Builtin.bitOr x y=((x.toNat ||| y.toNat:Nat):Int):=by
 have e:=nat_or_add_and x.toNat y.toNat
 rw[bitOr_and,bitAnd_pp hx hy]
 omega
end UR
end
section
namespace TL
open PySem PySem.Builtin PySem.Builtin.Str PySem.StrLaws
end TL
end
namespace L2
open PySem PySem.Spec PyProof.Rows
section
variable {X:Cx} {pins:List (Addr×Obj)} {σ:St} {H:Hp} {s:Shared} {Q:VK}
end
section
variable {X:Cx}
end
section
variable {X:Cx} {o e:Expr} {to te:TE}
end
end L2
namespace L2
open PySem PySem.Spec PyProof.Rows
section
variable {X:Cx}
end
end L2
namespace VQ
open PySem PySem.W PySem.Calls PyProof.Rows
section
variable {prog:Program} {w:World} {A:Around} {E:Value→Shared→Prop} {s:Shared} {K:Frag}
end
end VQ
namespace L2
open PySem PySem.Spec PyProof.Rows
end L2
namespace L2
open PySem PySem.Spec PyProof.Rows
end L2
namespace L2
open PySem PySem.Spec PyProof.Rows
noncomputable def inClass (s:Stmt) (j:Nat):Stmt:=match s with
 | .ClassDef _ _ _ body _ _ _ _ _ _ _=>body.getD j (.Pass ⟨0,0,0,0⟩)
 | _=>.Pass ⟨0,0,0,0⟩
noncomputable def bc (s:Stmt):Arguments:=match s with
 | .FunctionDef _ a _ _ _ _ _ _ _ _=>a
 | _=>{ posonlyargs:=[],args:=[],vararg:=none,kwonlyargs:=[],kw_defaults:=[],kwarg:=none,defaults:=[] }
noncomputable def aZ (s:Stmt):List Stmt:=match s with
 | .FunctionDef _ _ b _ _ _ _ _ _ _=>b
 | _=>[]
noncomputable def ai (s:Stmt):Scope:=match s with
 | .FunctionDef _ _ _ _ _ _ sc _ _ _=>sc
 | _=>{ kind:=.function,names:=[],isGenerator:=false,isCoroutine:=false }
noncomputable abbrev gw :OI:=fun _ _ _ _ _ _=>False
noncomputable abbrev E0 :XK:=fun _ _ _=>False
theorem aK {X:Cx}:Passes gw X E0:=fun _ _ _ _ _ _ _ h=>h.elim
structure gq (K:PySem.W.Frag) (x qual:Str) (st:Stmt) (f:Addr) (fd:FuncData):Prop where
 ex :∃(oc:Value) (od:Option Addr) (kV doc pm:Value) (an:Option Addr) (cdv ct:Value) (osl:Array (Option Value)),
  fd=PySem.W.fnOf x qual (bc st) (aZ st) (ai st) .none kV doc pm an cdv ct∧K.lookup f=some ⟨oc,od,.func fd,osl⟩∧PySem.W.codeIn K cdv qual=true
 kp :PySem.W.keepIn K (.ref f)=true
section
variable {P:Program} {w:World} {K:PySem.W.Frag} {mg:Str→Option Value} {base:Heap}
theorem gq.ok {x qual:Str} {st:Stmt} {f:Addr} {fd:FuncData} {N ps:List Str} {k:Nat} {sp:Sp} (F:gq K x qual st f fd) (S:az N ps (ai st)) (len:∀vs H Q E,sp vs H Q E→vs.length=ps.length)
  (hbody:∀(cdv:Value) (A:Around) (outer:List Env) (s:Shared) (H:Hp) (vs:List V) (Q:VK) (E:XK),nh k (A.deeper (envOfC qual (ai st) s.heap.objs.size f cdv))→sp vs H Q E →
   ∃t,Oz (Of gw P w K mg base N qual (ai st) f cdv A outer s H E).UZ (aZ st) t∧t { nx:=fun _ H'=>Q .dh H',rt:=Q } (start N vs) H):bz P w K mg base gw (k+1) f fd ps sp:=by
 obtain⟨oc,od,kV,doc,pm,an,cdv,ct,osl,rfl,lk,hcd⟩:=F.ex
 refine Ux lk hcd S len fun A outer s H vs Q E hr hsp=>?_
 obtain⟨t,h,q⟩:=hbody cdv A outer s H vs Q E hr hsp
 exact⟨t,h.UZ,q⟩
theorem gq.binds {x qual:Str} {st:Stmt} {f:Addr} {fd:FuncData} {ps:List Str} (F:gq K x qual st f fd)
  (h:∀(kV doc pm:Value) (an:Option Addr) (cdv ct:Value) (us:List Value),us.length=ps.length→bindArgs (PySem.W.fnOf x qual (bc st) (aZ st) (ai st) .none kV doc pm an cdv ct) ⟨us,[]⟩=pure (ps.zip us)):Binds K fd ps []:=by
 obtain⟨oc,od,kV,doc,pm,an,cdv,ct,osl,rfl,lk,hcd⟩:=F.ex
 exact .all (h kV doc pm an cdv ct)
theorem bM {x qual:Str} {st:Stmt} {f:Addr} {oc:Value} {od an:Option Addr} {osl:Array (Option Value)} {kV doc pm cdv ct:Value} (l:K.lookup f=some ⟨oc,od,.func (PySem.W.fnOf x qual (bc st) (aZ st) (ai st) .none kV doc pm an cdv ct),osl⟩)
  (c:PySem.W.codeIn K cdv qual=true) (k:PySem.W.keepIn K (.ref f)=true):gq K x qual st f (PySem.W.fnOf x qual (bc st) (aZ st) (ai st) .none kV doc pm an cdv ct):=⟨⟨oc,od,kV,doc,pm,an,cdv,ct,osl,rfl,l,c⟩,k⟩
end
theorem aY {A:Around} {k:Nat} (hr:nh k A):A.units+1<cLine:=Nat.lt_of_le_of_lt (Nat.add_le_add_left (by decide:1≤64) _) hr.units
section
variable {X:Cx}
theorem pv (i:Nat) {x:Str} {pos:Pos} (hN:X.N[i]?=some x:=by rfl) (hv:UI X.env.scope x:=by first | exact Or.inl rfl | exact Or.inr (Or.inl rfl) | exact Or.inr (Or.inr rfl)) (hd:(x==("__debug__":Str))=false:=by decide)
  (hcd:(x==("__classdict__":Str))=false:=by decide):PE X (.Name x pos) (Sy i):=SQ hN hv hd hcd
theorem Hf :wF X (.builtin "len") (fun xs H Q=>∃a kvs,xs=[V.ref a]∧H a=some (.dK kvs)∧Q (.int kvs.length) H):=by
 intro pins s σ H xs us Q I r h
 obtain⟨a,kvs,rfl,ha,q⟩:=h
 obtain⟨u,rfl,ru⟩:=vals1 r
 cases ru
 exact UD I (.inl ha) fun t s' I'=>⟨.int kvs.length,H,I',⟨t,rfl⟩,q⟩
end
theorem NX {A B:Prop} (h:B):if false=true then A else B:=by
 rw[if_neg Bool.false_ne_true]
 exact h
theorem rA {A B:Prop} (h:A):if true=true then A else B:=by
 rw[if_pos rfl]
 exact h
noncomputable def ax (H H':Hp):Prop:=∀b o,H b=some o→H' b=some o
theorem ax.refl (H:Hp):ax H H:=fun _ _ h=>h
theorem ax.trans {H H1 H2:Hp} (a:ax H H1) (b:ax H1 H2):ax H H2:=fun c o h=>b c o (a c o h)
theorem ax.free {H H':Hp} (e:ax H H') {l:Addr} (h:H' l=Option.none):H l=Option.none:=by
 cases q:H l with
 | none=>rfl
 | some o=>
  rw[e l o q] at h
  cases h
theorem ax.seq {K:PySem.W.Frag} {H H':Hp} {a:Addr} {xs:List V} (e:ax H H') (h:aM K H a xs):aM K H' a xs:=by
 rcases h with (h | ⟨o,h⟩) | h
 ·exact .inl (.inl (e _ _ h))
 ·exact .inl (.inr ⟨o,e _ _ h⟩)
 ·exact .inr h
section
variable {κ:Type} [DecidableEq κ]
theorem DD :∀{l:List κ} {k:κ},l.Nodup→¬k∈l→(l++[k]).Nodup
 | [],k,_,_=>by simp
 | a ::r,k,h,hk=>by
  obtain⟨h1,h2⟩:=List.nodup_cons.mp h
  show (a::(r++[k])).Nodup
  refine List.nodup_cons.mpr ⟨fun m=>?_,DD h2 fun m=>hk (List.mem_cons.mpr (Or.inr m))⟩
  rcases List.mem_append.mp m with q | q
  ·exact h1 q
  ·exact hk (List.mem_cons.mpr (Or.inl (List.mem_singleton.mp q).symm))
end
theorem at_of {xs:List V} {z:Int} {j:Nat} {v:V} (e:z=(j:Int)) (h:xs[j]?=some v):DS xs z=some v:=by
 rw[e]
 exact bt h
theorem Ul {α:Type} {l:List α} (hN:l.Nodup) {i j:Nat} {x:α} (a:l[i]?=some x) (b:l[j]?=some x):i=j:=by
 obtain⟨h1,e1⟩:=List.getElem?_eq_some_iff.mp a
 obtain⟨h2,e2⟩:=List.getElem?_eq_some_iff.mp b
 exact (List.getElem_inj hN).mp (e1.trans e2.symm)
end L2
end
section
section
set_option maxHeartbeats 2000000
namespace L2
open PySem PySem.Spec PyProof.Rows
open PySem.W (WData Codec OpenSpec Well WellAll ReadsW ReadsAllW)
mutual
inductive Dw (K:PySem.W.Frag) (H:Hp):V→WData→Prop
 | dh :Dw K H .dh .none
 | bl (b:Bool):Dw K H (.bl b) (.bool b)
 | int (i:Int):Dw K H (.int i) (.int i)
 | str (x:Str):Dw K H (.str x) (.str x)
 | IU (b:Array UInt8):Dw K H (.IU b) (.bytes b.toList)
 | lst {a:Addr} {xs:List V} {ds:List WData}:aM K H a xs→uX K H xs ds→Dw K H (.ref a) (.list ds)
 | tup {a:Addr} {xs:List V} {ds:List WData}:GH K H a xs→uX K H xs ds→Dw K H (.ref a) (.tuple ds)
inductive uX (K:PySem.W.Frag) (H:Hp):List V→List WData→Prop
 | nil :uX K H [] []
 | cons {v:V} {vs:List V} {d:WData} {ds:List WData}:Dw K H v d→uX K H vs ds→uX K H (v::vs) (d::ds)
end
theorem MP {K:PySem.W.Frag} {H:Hp}:∀ns:List Int,uX K H (ns.map V.int) (ns.map WData.int)
 | []=>.nil
 | n ::r=>.cons (.int n) (MP r)
theorem MI {K:PySem.W.Frag} {H:Hp}:∀(ns:List Int) (xs:List V),uX K H xs (ns.map WData.int)→xs=ns.map V.int
 | [],xs,h=>by
  cases h
  rfl
 | n ::r,xs,h=>by
  cases h with
  | cons h1 h2=>
   cases h1
   rw[MI r _ h2]<;>rfl
section
variable {P:Program} {w:World} {K:PySem.W.Frag} {H:Hp} {h:Heap} {R:PySem.W.WRecords} {cl:Str→Option Addr}
theorem SG {a:Addr} {xs:List V} (dN:wD P w H h) (KX:K.In h) (q:aM K H a xs):∃(its:List Value) (o:Obj) (n:Nat),Vals xs its∧h.get? a=some o∧o.cls=.type "list"∧o.data=.seq its.toArray n:=by
 rcases q with q | ⟨o,its,n,e,hc,_,hd,_,hv⟩
 ·obtain⟨_,its,n,hv,e⟩:=(show ia P w H h a (.lst xs) from q.ok dN)
  exact⟨its,_,n,hv,e,rfl,rfl⟩
 ·exact⟨its.toList,o,n,hv,KX _ _ e,hc,by simp[hd]⟩
theorem SF {a:Addr} {xs:List V} (dN:wD P w H h) (KX:K.In h) (q:GH K H a xs):∃(its:List Value) (o:Obj) (n:Nat),Vals xs its∧h.get? a=some o∧o.cls=.type "tuple"∧o.data=.seq its.toArray n:=by
 rcases q with q | ⟨o,its,n,e,hc,hd,_,hv⟩
 ·obtain⟨_,its,hv,o,e,hc,n,hd⟩:=(show ia P w H h a (.tup xs) from q.ok dN)
  exact⟨its,o,n,hv,e,hc,hd⟩
 ·exact⟨its.toList,o,n,hv,KX _ _ e,hc,by simp[hd]⟩
mutual
theorem Dw.reads (dN:wD P w H h) (KX:K.In h):∀(d:WData) (v:V) (u:Value),Dw K H v d→RelV v u→∃as,ReadsW R cl h u d as
 | .none,_,_,x,r=>by
  cases x
  cases r
  exact⟨_,ReadsW.none⟩
 | .bool b,_,_,x,r=>by
  cases x
  cases r
  exact⟨_,ReadsW.bool b⟩
 | .int i,_,_,x,r=>by
  cases x
  obtain⟨t,rfl⟩:=r
  exact⟨_,ReadsW.int i t⟩
 | .str s,_,_,x,r=>by
  cases x
  obtain⟨t,rfl⟩:=r
  exact⟨_,ReadsW.str s t⟩
 | .bytes b,_,_,x,r=>by
  cases x
  obtain⟨t,rfl⟩:=r
  exact⟨_,ReadsW.bytes _ t⟩
 | .list ds,_,_,x,r=>by
  cases x with
  | lst hs ha=>
   cases r
   obtain⟨its,o,n,rv,ho,hc,hd⟩:=SG dN KX hs
   obtain⟨as,hr⟩:=Dw.readsAll dN KX ds _ its ha rv
   exact⟨_,ReadsW.list ho hc hd hr⟩
 | .tuple ds,_,_,x,r=>by
  cases x with
  | tup hs ha=>
   cases r
   obtain⟨its,o,n,rv,ho,hc,hd⟩:=SF dN KX hs
   obtain⟨as,hr⟩:=Dw.readsAll dN KX ds _ its ha rv
   exact⟨_,ReadsW.tuple ho hc hd hr⟩
 | .float _,_,_,x,_=>by cases x
 | .dict _,_,_,x,_=>by cases x
 | .bytearray _,_,_,x,_=>by cases x
 | .set _,_,_,x,_=>by cases x
 | .frozenset _,_,_,x,_=>by cases x
 | .obj _ _,_,_,x,_=>by cases x
theorem Dw.readsAll (dN:wD P w H h) (KX:K.In h):∀(ds:List WData) (vs:List V) (us:List Value),uX K H vs ds→Vals vs us→∃as,ReadsAllW R cl h us ds as
 | [],_,_,x,r=>by
  cases x
  cases r
  exact⟨_,ReadsAllW.nil⟩
 | d ::ds,_,_,x,r=>by
  cases x with
  | cons h1 h2=>
   cases r with
   | cons r1 r2=>
    obtain⟨as,q1⟩:=Dw.reads dN KX d _ _ h1 r1
    obtain⟨bs,q2⟩:=Dw.readsAll dN KX ds _ _ h2 r2
    exact⟨_,ReadsAllW.cons q1 q2⟩
end
end
mutual
noncomputable def Mr :WData→Bool
 | .none=>true
 | .bool _=>true
 | .int _=>true
 | .str _=>true
 | .bytes _=>true
 | .list xs=>C9 xs
 | .tuple xs=>C9 xs
 | _=>false
noncomputable def C9 :List WData→Bool
 | []=>true
 | x ::r=>Mr x&&C9 r
end
theorem JH {α:Type} {f:α→WData} (h:∀a,Mr (f a)=true):∀l:List α,C9 (l.map f)=true
 | []=>rfl
 | x ::r=>by
  show (Mr (f x)&&C9 (r.map f))=true
  rw[h x,JH h r]<;>rfl
theorem vA :∀(c:Codec) (a:c.denote),Mr (c.enc a)=true
 | .unit,_=>rfl
 | .bool,_=>rfl
 | .int _ _,_=>rfl
 | .nat _ _,_=>rfl
 | .u8,_=>rfl
 | .bytes _ _,_=>rfl
 | .text _ _ _ _,_=>rfl
 | .list _ _ c,a=>JH (fun x=>vA c x) a
 | .pair c d,a=>by
  show (Mr (c.enc a.1)&&(Mr (d.enc a.2)&&true))=true
  rw[vA c a.1,vA d a.2]<;>rfl
 | .triple c d e,a=>by
  show (Mr (c.enc a.1)&&(Mr (d.enc a.2.1)&&(Mr (e.enc a.2.2)&&true)))=true
  rw[vA c a.1,vA d a.2.1,vA e a.2.2]<;>rfl
 | .option c,none=>rfl
 | .option c,some x=>vA c x
theorem GW :∀(cs:List Codec) (a:Codec.denoteAll cs),C9 (Codec.encAll cs a)=true
 | [],_=>rfl
 | c ::cs,a=>by
  show (Mr (c.enc a.1)&&C9 (Codec.encAll cs a.2))=true
  rw[vA c a.1,GW cs a.2]<;>rfl
theorem yw :∀{xs:List WData} {d:WData},d∈xs→d.weight≤WData.weightAll xs
 | [],d,h=>absurd h (by simp)
 | x ::r,d,h=>by
  show d.weight≤x.weight+1+WData.weightAll r
  rcases List.mem_cons.mp h with e | m
  ·rw[e]
   omega
  ·have z:=yw m
   omega
noncomputable def toV :Value→V
 | .none=>.dh
 | .bool b=>.bl b
 | .int i _=>.int i
 | .str x _=>.str x
 | .bytes b _=>.IU b
 | .ref a=>.ref a
 | _=>.dh
noncomputable def OA (A:List Addr):Value→Prop
 | .none=>True
 | .bool _=>True
 | .int _ _=>True
 | .str _ _=>True
 | .bytes _ _=>True
 | .ref a=>a∈A
 | _=>False
theorem OA.mono {A B:List Addr} (h:∀a∈A,a∈B):∀{u:Value},OA A u→OA B u:=fun {u} x=>by
 cases u with
 | ref a=>exact h a x
 | none=>trivial
 | bool b=>trivial
 | int i t=>trivial
 | str s t=>trivial
 | bytes b t=>trivial
 | _=>exact False.elim x
theorem Pd {A:List Addr} {u:Value} (x:OA A u):RelV (toV u) u:=by
 cases u with
 | ref a=>rfl
 | none=>rfl
 | bool b=>rfl
 | int i t=>exact⟨t,rfl⟩
 | str s t=>exact⟨t,rfl⟩
 | bytes b t=>exact⟨t,rfl⟩
 | _=>exact False.elim x
theorem rO {A:List Addr}:∀{vs:List Value},(∀u∈vs,OA A u)→Vals (vs.map toV) vs
 | [],_=>.nil
 | u ::r,h=>.cons (Pd (h u (List.mem_cons_self ..))) (rO fun x hx=>h x (List.mem_cons_of_mem _ hx))
noncomputable def uY (h:Heap) (A:List Addr) (a:Addr):Prop:=∃vs:List Value,vs.length≤sizeLine∧(∀u∈vs,OA A u) ∧
 (h.get? a=some { cls:=.type "list",data:=.seq vs.toArray }∨h.get? a=some { cls:=.type "tuple",data:=.seq vs.toArray })
theorem uY.mono {h:Heap} {A B:List Addr} {a:Addr} (k:∀a∈A,a∈B) (x:uY h A a):uY h B a:=by
 obtain⟨vs,h1,h2,h3⟩:=x
 exact⟨vs,h1,fun u hu=>(h2 u hu).mono k,h3⟩
theorem qm {P:Params} {h:Heap}:∀{vs:List Value} {ds:List WData},WellAll P h vs ds→vs.length=ds.length
 | _,_,.nil=>rfl
 | _,_,.cons _ b=>by
  show _+1=_+1
  rw[qm b]
theorem GL {P:Params} {h:Heap} {v:Value} {ds:List WData} (x:Well P h v (.list ds)):∃(a:Addr) (vs:List Value),v=.ref a∧h.get? a=some { cls:=.type "list",data:=.seq vs.toArray }∧WellAll P h vs ds:=by
 cases x with
 | list ho hall=>exact⟨_,_,rfl,ho,hall⟩
theorem DV {P:Params} {h:Heap} {v:Value} {ds:List WData} (x:Well P h v (.tuple ds)):∃(a:Addr) (vs:List Value),v=.ref a∧h.get? a=some { cls:=.type "tuple",data:=.seq vs.toArray }∧WellAll P h vs ds:=by
 cases x with
 | tuple ho hall=>exact⟨_,_,rfl,ho,hall⟩
theorem GN {P:Params} {h:Heap} {us:List Value} {d:WData} {ds:List WData} (x:WellAll P h us (d::ds)):∃(v:Value) (vs:List Value),us=v::vs∧Well P h v d∧WellAll P h vs ds:=by
 cases x with
 | cons a b=>exact⟨_,_,rfl,a,b⟩
theorem MC {n:Nat} (h:n≤1048576):n≤sizeLine:=Nat.le_trans h (by decide)
section
variable {P:Params} {h:Heap}
mutual
theorem QD :∀(d:WData) (v:Value),Well P h v d→Mr d=true→d.weight≤1048576→∃A:List Addr,OA A v∧∀a∈A,uY h A a
 | .none,_,x,_,_=>by
  cases x
  exact⟨[],trivial,fun a m=>absurd m (by simp)⟩
 | .bool b,_,x,_,_=>by
  cases x
  exact⟨[],trivial,fun a m=>absurd m (by simp)⟩
 | .int i,_,x,_,_=>by
  cases x
  exact⟨[],trivial,fun a m=>absurd m (by simp)⟩
 | .str s,_,x,_,_=>by
  cases x
  exact⟨[],trivial,fun a m=>absurd m (by simp)⟩
 | .bytes b,_,x,_,_=>by
  cases x
  exact⟨[],trivial,fun a m=>absurd m (by simp)⟩
 | .list ds,_,x,p,z=>by
  obtain⟨a,vs,rfl,ho,hall⟩:=GL x
  have z2:WData.weightAll ds≤1048576:=z
  obtain⟨A,h1,h2⟩:=Bb ds _ hall p fun d hd=>Nat.le_trans (yw hd) z2
  have k:∀b∈A,b∈a::A:=fun b hb=>List.mem_cons_of_mem _ hb
  refine⟨a::A,List.mem_cons_self ..,fun b hb=>?_⟩
  rcases List.mem_cons.mp hb with e | m
  ·rw[e]
   exact⟨vs,MC (by rw[qm hall];exact Nat.le_trans (PySem.W.length_le_weightAllW ds) z2),fun u hu=>(h1 u hu).mono k,.inl ho⟩
  ·exact (h2 b m).mono k
 | .tuple ds,_,x,p,z=>by
  obtain⟨a,vs,rfl,ho,hall⟩:=DV x
  have z2:WData.weightAll ds≤1048576:=z
  obtain⟨A,h1,h2⟩:=Bb ds _ hall p fun d hd=>Nat.le_trans (yw hd) z2
  have k:∀b∈A,b∈a::A:=fun b hb=>List.mem_cons_of_mem _ hb
  refine⟨a::A,List.mem_cons_self ..,fun b hb=>?_⟩
  rcases List.mem_cons.mp hb with e | m
  ·rw[e]
   exact⟨vs,MC (by rw[qm hall];exact Nat.le_trans (PySem.W.length_le_weightAllW ds) z2),fun u hu=>(h1 u hu).mono k,.inr ho⟩
  ·exact (h2 b m).mono k
 | .float _,_,_,p,_=>Bool.noConfusion (show false=true from p)
 | .dict _,_,_,p,_=>Bool.noConfusion (show false=true from p)
 | .bytearray _,_,_,p,_=>Bool.noConfusion (show false=true from p)
 | .set _,_,_,p,_=>Bool.noConfusion (show false=true from p)
 | .frozenset _,_,_,p,_=>Bool.noConfusion (show false=true from p)
 | .obj _ _,_,_,p,_=>Bool.noConfusion (show false=true from p)
theorem Bb :∀(ds:List WData) (vs:List Value),WellAll P h vs ds→C9 ds=true→(∀d∈ds,d.weight≤1048576)→∃A:List Addr,(∀u∈vs,OA A u)∧∀a∈A,uY h A a
 | [],_,x,_,_=>by
  cases x
  exact⟨[],fun u m=>absurd m (by simp),fun a m=>absurd m (by simp)⟩
 | d ::ds,_,x,p,z=>by
  obtain⟨v,vs,rfl,x1,x2⟩:=GN x
  have q:Mr d=true∧C9 ds=true:=Bool.and_eq_true_iff.mp p
  obtain⟨A,a1,a2⟩:=QD d v x1 q.1 (z d (List.mem_cons_self ..))
  obtain⟨B,b1,b2⟩:=Bb ds vs x2 q.2 fun e he=>z e (List.mem_cons_of_mem _ he)
  have kA:∀b∈A,b∈A++B:=fun b hb=>List.mem_append.mpr (.inl hb)
  have kB:∀b∈B,b∈A++B:=fun b hb=>List.mem_append.mpr (.inr hb)
  refine⟨A++B,fun u hu=>?_,fun b hb=>?_⟩
  ·rcases List.mem_cons.mp hu with e | m
   ·rw[e]
    exact a1.mono kA
   ·exact (b1 u m).mono kB
  ·rcases List.mem_append.mp hb with m | m
   ·exact (a2 b m).mono kA
   ·exact (b2 b m).mono kB
end
end
noncomputable def Rz (o:Obj):Option HO:=match o.data with
 | .seq vs _=>if (o.cls==Value.type "list")=true then some (.IG o (.lst (vs.toList.map toV))) else some (.IG o (.tup (vs.toList.map toV)))
 | _=>none
noncomputable def uq (K:PySem.W.Frag) (h:Heap) (A:List Addr):Hp:=fun b=>if b∈A then (if (K.lookup b).isNone=true then (h.get? b).bind Rz else none) else none
noncomputable def KW (H:Hp):Prop:=∀b,H b=none∨∃o u,H b=some (.IG o u)
theorem Ka (vs:List Value):Rz { cls:=.type "list",data:=.seq vs.toArray }=some (.IG { cls:=.type "list",data:=.seq vs.toArray } (.lst (vs.map toV))):=by
 show (if (Value.type "list"==Value.type "list")=true then some (HO.IG { cls:=.type "list",data:=.seq vs.toArray } (.lst (vs.toArray.toList.map toV))) else some (HO.IG { cls:=.type "list",data:=.seq vs.toArray } (.tup (vs.toArray.toList.map toV))))=_
 rw[if_pos (beq_self_eq_true _)]
theorem J9 (vs:List Value):Rz { cls:=.type "tuple",data:=.seq vs.toArray }=some (.IG { cls:=.type "tuple",data:=.seq vs.toArray } (.tup (vs.map toV))):=by
 show (if (Value.type "tuple"==Value.type "list")=true then some (HO.IG { cls:=.type "tuple",data:=.seq vs.toArray } (.lst (vs.toArray.toList.map toV))) else some (HO.IG { cls:=.type "tuple",data:=.seq vs.toArray } (.tup (vs.toArray.toList.map toV))))=_
 rw[if_neg (by decide)]
section
variable {P:Program} {w:World} {K:PySem.W.Frag} {h:Heap} {A:List Addr}
theorem DU {b:Addr} {o:Obj} (hb:b∈A) (hk:K.lookup b=none) (e:h.get? b=some o):uq K h A b=Rz o:=by
 unfold uq
 rw[if_pos hb,hk,if_pos (show (none:Option Obj).isNone=true from rfl),e]<;>rfl
theorem Rn {b:Addr} {u:HO} (q:uq K h A b=some u):b∈A∧K.lookup b=none:=by
 unfold uq at q
 by_cases hb:b∈A
 ·rw[if_pos hb] at q
  cases hk:K.lookup b with
  | none=>exact⟨hb,rfl⟩
  | some o=>
   rw[hk,if_neg (by simp)] at q
   cases q
 ·rw[if_neg hb] at q
  cases q
theorem DT (ar:∀a∈A,uY h A a) {b:Addr} {u:HO} (q:uq K h A b=some u):K.lookup b=none∧∃vs:List Value,vs.length≤sizeLine∧(∀u∈vs,OA A u) ∧
  ((h.get? b=some { cls:=.type "list",data:=.seq vs.toArray }∧u=.IG { cls:=.type "list",data:=.seq vs.toArray } (.lst (vs.map toV))) ∨
    (h.get? b=some { cls:=.type "tuple",data:=.seq vs.toArray }∧u=.IG { cls:=.type "tuple",data:=.seq vs.toArray } (.tup (vs.map toV)))):=by
 obtain⟨hb,hk⟩:=Rn q
 obtain⟨vs,h1,h2,h3⟩:=ar b hb
 refine⟨hk,vs,h1,h2,?_⟩
 rcases h3 with e | e
 ·rw[DU hb hk e,Ka] at q
  exact .inl ⟨e,(Option.some.inj q).symm⟩
 ·rw[DU hb hk e,J9] at q
  exact .inr ⟨e,(Option.some.inj q).symm⟩
theorem Ox (ar:∀a∈A,uY h A a):KW (uq K h A):=fun b=>by
 cases q:uq K h A b with
 | none=>exact .inl rfl
 | some u=>
  obtain⟨_,vs,_,_,⟨_,e⟩ | ⟨_,e⟩⟩:=DT ar q
  ·exact .inr ⟨_,_,by rw[e]⟩
  ·exact .inr ⟨_,_,by rw[e]⟩
theorem RP (ar:∀a∈A,uY h A a):wD P w (uq K h A) h:=fun b u q=>by
 obtain⟨_,vs,h1,h2,⟨e,rfl⟩ | ⟨e,rfl⟩⟩:=DT ar q
 ·exact⟨e,by rw[List.length_map];exact h1,vs,_,rO h2,e⟩
 ·exact⟨e,by rw[List.length_map];exact h1,vs,rO h2,_,e,rfl,_,rfl⟩
theorem DA {c c':Value} {vs us:List Value} (e:(some { cls:=c,data:=.seq vs.toArray }:Option Obj)=some { cls:=c',data:=.seq us.toArray }):c=c'∧vs=us:=by
 have e1:=Option.some.inj e
 have e2:c=c':=congrArg Obj.cls e1
 have e3:Data.seq vs.toArray=Data.seq us.toArray:=congrArg Obj.data e1
 injection e3 with e4
 refine⟨e2,?_⟩
 have e5:=congrArg Array.toList e4
 simpa using e5
theorem Vr (KX:K.In h) (ar:∀a∈A,uY h A a) {a:Addr} {vs:List Value} (ha:a∈A) (e:h.get? a=some { cls:=.type "list",data:=.seq vs.toArray }):(∀u∈vs,OA A u)∧aM K (uq K h A) a (vs.map toV):=by
 obtain⟨us,h1,h2,h3⟩:=ar a ha
 have hu:us=vs:=by
  rcases h3 with q | q
  ·rw[e] at q
   exact (DA q).2.symm
  ·rw[e] at q
   exact absurd (Value.type.inj (DA q).1) (by decide)
 subst hu
 refine⟨h2,?_⟩
 cases hk:K.lookup a with
 | none=>exact .inl (.inr ⟨_,by rw[DU ha hk e,Ka]⟩)
 | some o=>
  have e2:=KX a o hk
  rw[e] at e2
  obtain rfl:=Option.some.inj e2
  exact .inr ⟨_,us.toArray,_,hk,rfl,rfl,rfl,by rw[List.size_toArray];exact h1,by simpa using rO h2⟩
theorem Vq (KX:K.In h) (ar:∀a∈A,uY h A a) {a:Addr} {vs:List Value} (ha:a∈A) (e:h.get? a=some { cls:=.type "tuple",data:=.seq vs.toArray }):(∀u∈vs,OA A u)∧GH K (uq K h A) a (vs.map toV):=by
 obtain⟨us,h1,h2,h3⟩:=ar a ha
 have hu:us=vs:=by
  rcases h3 with q | q
  ·rw[e] at q
   exact absurd (Value.type.inj (DA q).1) (by decide)
  ·rw[e] at q
   exact (DA q).2.symm
 subst hu
 refine⟨h2,?_⟩
 cases hk:K.lookup a with
 | none=>exact .inl (.inr ⟨_,by rw[DU ha hk e,J9]⟩)
 | some o=>
  have e2:=KX a o hk
  rw[e] at e2
  obtain rfl:=Option.some.inj e2
  exact .inr ⟨_,us.toArray,_,hk,rfl,rfl,by rw[List.size_toArray];exact h1,by simpa using rO h2⟩
mutual
theorem Tj {Pm:Params} (KX:K.In h) (ar:∀a∈A,uY h A a):∀(d:WData) (v:Value),Well Pm h v d→Mr d=true→OA A v→Dw K (uq K h A) (toV v) d
 | .none,_,x,_,_=>by
  cases x
  exact .dh
 | .bool b,_,x,_,_=>by
  cases x
  exact .bl b
 | .int i,_,x,_,_=>by
  cases x
  exact .int i
 | .str s,_,x,_,_=>by
  cases x
  exact .str s
 | .bytes b,_,x,_,_=>by
  cases x
  have z:=Dw.IU (K:=K) (H:=uq K h A) b.toArray
  exact z
 | .list ds,_,x,p,hu=>by
  obtain⟨a,vs,rfl,ho,hall⟩:=GL x
  obtain⟨h2,hs⟩:=Vr KX ar hu ho
  exact .lst hs (IP KX ar ds _ hall p h2)
 | .tuple ds,_,x,p,hu=>by
  obtain⟨a,vs,rfl,ho,hall⟩:=DV x
  obtain⟨h2,hs⟩:=Vq KX ar hu ho
  exact .tup hs (IP KX ar ds _ hall p h2)
 | .float _,_,_,p,_=>Bool.noConfusion (show false=true from p)
 | .dict _,_,_,p,_=>Bool.noConfusion (show false=true from p)
 | .bytearray _,_,_,p,_=>Bool.noConfusion (show false=true from p)
 | .set _,_,_,p,_=>Bool.noConfusion (show false=true from p)
 | .frozenset _,_,_,p,_=>Bool.noConfusion (show false=true from p)
 | .obj _ _,_,_,p,_=>Bool.noConfusion (show false=true from p)
theorem IP {Pm:Params} (KX:K.In h) (ar:∀a∈A,uY h A a):∀(ds:List WData) (vs:List Value),WellAll Pm h vs ds→C9 ds=true→(∀u∈vs,OA A u)→uX K (uq K h A) (vs.map toV) ds
 | [],_,x,_,_=>by
  cases x
  exact .nil
 | d ::ds,_,x,p,hu=>by
  obtain⟨v,vs,rfl,x1,x2⟩:=GN x
  have q:Mr d=true∧C9 ds=true:=Bool.and_eq_true_iff.mp p
  exact .cons (Tj KX ar d v x1 q.1 (hu _ (List.mem_cons_self ..))) (IP KX ar ds vs x2 q.2 fun u m=>hu u (List.mem_cons_of_mem _ m))
end
end
theorem Nj {P:Program} {w:World} {K:PySem.W.Frag} {mg mb:Str→Option Value} {CX:OI} {k:Nat} {fa:Addr} {fd:FuncData} {ps:List Str} {sp:Sp} {s₁:Shared} {vals:List Value} {ds:List WData} {R:PySem.W.WRecords} {cl:Str→Option Addr} {d0:WData}
  (KX:K.In s₁.heap) (hns:s₁.heap.Ns mainGlobals mg) (hb:s₁.heap.Ns builtinsNs mb) (hbb:∀x:Str,x≠"__name__"→mb x=bootBuiltins x) (hlim:s₁.heap.NoLimit) (hg:s₁.gens=#[])
  (hwl:WellAll w.params s₁.heap vals ds) (hpl:C9 ds=true) (hwt:∀d∈ds,d.weight≤1048576) (hr:nh k callerA)
  (F:∀base:Heap,K.In base→base.Ns mainGlobals mg→bz P w K mg base CX k fa fd ps sp) (hbind:∀(s:Shared) (us:List Value),us.length=ps.length→BindsTo s fd ⟨us,[]⟩ (ps.zip us)) (hlen:ds.length=ps.length)
  (hsp:∀(H:Hp) (xs:List V),KW H→uX K H xs ds→sp xs H (fun v H'=>Dw K H' v d0) fun _ _ _=>False)
  (hCX:∀H e s',CX [] H s₁ (fun _ _ _=>False) e s'→False) :
  codeAny (model P w) callerA (.call (.ref fa) ⟨vals,[]⟩) (fun r s'=>∃u as,r=.ok (.ret u)∧ReadsW R cl s'.heap u d0 as∧OldK s₁.heap s'.heap∧s'.os=s₁.os∧AllBare s'.gens) s₁:=by
 obtain⟨A,ho,ar⟩:=Bb ds vals hwl hpl hwt
 have hO:KW (uq K s₁.heap A):=Ox ar
 have dN:wD P w (uq K s₁.heap A) s₁.heap:=RP ar
 have hS:=IP KX ar ds vals hwl hpl ho
 have hV:=rO ho
 have hK:∀b u,uq K s₁.heap A b=some u→K.lookup b=none:=fun b u q=>(DT ar q).1
 have noA:∀{b:Addr} {o:Obj} {es:Array DictEntry} {ep:Nat},s₁.heap.get? b=some o→o.data=.dict es ep→uq K s₁.heap A b=none:=fun {b o es ep} e d=>by
  cases q:uq K s₁.heap A b with
  | none=>rfl
  | some u=>
   obtain⟨_,vs,_,_,⟨e2,_⟩ | ⟨e2,_⟩⟩:=DT ar q
   ·rw[e2] at e
    cases e
    have d':Data.seq vs.toArray _=Data.dict es ep:=d
    cases d'
   ·rw[e2] at e
    cases e
    have d':Data.seq vs.toArray _=Data.dict es ep:=d
    cases d'
 generalize uq K s₁.heap A=H at hO dN hS hK noA
 have base_of:∀{b:Addr} {o:Obj},s₁.heap.get? b=some o→H b=none→(Iq s₁.heap H).get? b=some o:=fun e n=>P7 e n
 have nsK:∀{b:Addr} {m:Str→Option Value},s₁.heap.Ns b m→(Iq s₁.heap H).Ns b m:=fun {b m} ⟨o,es,ep,e,d,r⟩=>⟨o,es,ep,base_of e (noA e d),d,r⟩
 have nK:∀b o,K.lookup b=some o→H b=none:=fun b o e=>by
  cases q:H b with
  | none=>rfl
  | some u=>
   rw[hK b u q] at e
   cases e
 have hKb:K.In (Iq s₁.heap H):=fun b o e=>base_of (KX b o e) (nK b o e)
 have hM:Mod K mg (Iq s₁.heap H):=⟨hKb,nsK hns,⟨mb,nsK hb,hbb⟩,let ⟨mc,h1,h2⟩:=hlim;⟨mc,nsK h1,h2⟩⟩
 have e0:Mi P w K mg (Iq s₁.heap H) callerA [] s₁ H:=⟨rfl,hM,fun b o e=>Rm e,Nat.le_of_eq (N3 _ _),trivial,fun b hb=>absurd (show b∈([]:List Addr) from hb) (by simp),dN,.of_eq hg⟩
 have hl:vals.length=ps.length:=by rw[qm hwl];exact hlen
 refine codeAny_mono ((F _ hKb (nsK hns)).run callerA [] s₁ H ⟨vals,[]⟩ vals (vals.map toV) _ _ hr e0 (hbind s₁ vals hl) hV (hsp H _ hO hS)) fun r s' x=>?_
 cases r with
 | error e=>exact (hCX H e s' x).elim
 | ok fl=>
  cases fl with
  | next=>exact False.elim x
  | brk=>exact False.elim x
  | cont=>exact False.elim x
  | ret u=>
   obtain⟨v,H',os,bare,un,hok',r',q⟩:=x
   have kept:∀b o,s₁.heap.get? b=some o→s'.heap.get? b=some o:=fun b o e=>by
    cases q2:H b with
    | none=>exact un.keep b o e q2 (by intro z;exact absurd (show b∈([]:List Addr) from z) (by simp)) (by simp)
    | some u2=>
     rcases hO b with z | ⟨ob,u3,z⟩
     ·rw[q2] at z
      cases z
     ·have z2:=un.IF b ob _ z
      obtain⟨e1,_⟩:=dN b _ z
      obtain⟨e2,_⟩:=hok' b _ z2
      rw[e] at e1
      cases e1
      exact e2
   have KX':K.In s'.heap:=fun b o e=>kept b o (KX b o e)
   obtain⟨as,hrd⟩:=Dw.reads (R:=R) (cl:=cl) hok' KX' d0 v u q r'
   exact⟨u,as,rfl,hrd,OldK.of_keep kept,os,bare⟩
theorem EW {ds:List WData} (h:WData.layableAll ds=true):∀d∈ds,d.weight≤1048576:=fun d hd=>
 (PySem.W.layableW_iff.mp (List.all_eq_true.mp h d hd)).2.2
theorem Fn :∀(cs:List Codec) (a:Codec.denoteAll cs),(Codec.encAll cs a).length=cs.length
 | [],_=>rfl
 | c ::cs,a=>by
  show (Codec.encAll cs a.2).length+1=cs.length+1
  rw[Fn cs a.2]
theorem M4 {r:OpenSpec} {k:Nat} {q:Program} {loose:List Str} {XP:(Str→Option Value)→Heap→Prop} {YP:World→Heap→Prop} {d:DefRec} {K:Params→PySem.W.Frag} {CX:World→OI} {ps:List Str} {sp:World→Sp}
  (hwell:r.wellSaid=true) (hdf:d.params.defaults=[]) (hlen:r.args.length=ps.length) (hr:nh k callerA)
  (hY:∀(w:World) (h:Heap),YP w h→(K w.params).In h)
  (F:∀(w:World) (mg:Str→Option Value) (fa:Addr) (h:Heap),YP w h→(K w.params).In h→h.Ns mainGlobals mg→mg d.name=some (.ref fa) →
   ∃fd:FuncData,(∀(s:Shared) (us:List Value),us.length=ps.length→BindsTo s fd ⟨us,[]⟩ (ps.zip us)) ∧
    ∀base:Heap,(K w.params).In base→base.Ns mainGlobals mg→bz r.prog w (K w.params) mg base (CX w) k fa fd ps (sp w))
  (hsp:∀(w:World) (H:Hp) (xs:List V) (a:Codec.denoteAll r.args),KW H→Codec.withinAll r.args a=true→Codec.app r.args r.asked a=true→uX (K w.params) H xs (Codec.encAll r.args a) →
   sp w xs H (fun v H'=>Dw (K w.params) H' v (r.ret.enc (Codec.app r.args r.f a))) fun _ _ _=>False)
  (hCX:∀(w:World) (H:Hp) (s:Shared) (e:Value) (s':Shared),CX w [] H s (fun _ _ _=>False) e s'→False) :
  PySem.W.WalkOS q loose XP YP r d [] (fun f vs=>PySem.call f vs):=by
 intro w GU s₁ mg mb G Y fa o pm cd doc dV kV ho hd hcd hD hmg hg args vals as hpre hlay hrd hwl hlo
 obtain⟨a,e1,e2⟩:=PySem.W.os_pre_some hpre
 obtain⟨e3,hwi⟩:=Codec.encAll_of_decAll r.args args a e1
 subst e3
 have KX:=hY w _ Y
 obtain⟨fd,hb,hF⟩:=F w mg fa _ Y KX G.T.g hmg
 refine PySem.W.enter_call (codeAny_mono (Nj (R:=[]) (cl:=classAt GU.heap) (d0:=r.ret.enc (Codec.app r.args r.f a)) KX G.T.g G.T.b G.T.builtins G.T.nolimit hg hwl (GW _ _) (EW hlay) hr hF hb (by rw[Fn];exact hlen)
  (fun H xs hO hS=>hsp w H xs a hO hwi e2 hS) fun H e s'=>hCX w H s₁ e s') fun r' s' hq=>?_)
 obtain⟨u,as',rfl,h1,h2,h3,h4⟩:=hq
 exact⟨.inl ⟨u,_,as',rfl,fun _=>rfl,h1,(OpenSpec.post_iff hwell hwi _ _).mpr rfl,fun z=>Bool.noConfusion (show false=true from z)⟩,h2,h3,h4⟩
theorem K6 {r:OpenSpec} {k:Nat} {q:Program} {loose:List Str} {XP:(Str→Option Value)→Heap→Prop} {YP:World→Heap→Prop} {d:DefRec} {K:Params→PySem.W.Frag} {CX:OI} {ps:List Str} {sp:PySem.W.Frag→Sp}
  (hwell:r.wellSaid=true) (hdf:d.params.defaults=[]) (hlen:r.args.length=ps.length) (hr:nh k callerA)
  (hY:∀(w:World) (h:Heap),YP w h→(K w.params).In h)
  (F:∀(w:World) (mg:Str→Option Value) (fa:Addr) (h:Heap),YP w h→(K w.params).In h→h.Ns mainGlobals mg→mg d.name=some (.ref fa) →
   ∃fd:FuncData,(∀(s:Shared) (us:List Value),us.length=ps.length→BindsTo s fd ⟨us,[]⟩ (ps.zip us)) ∧
    ∀base:Heap,(K w.params).In base→base.Ns mainGlobals mg→bz r.prog w (K w.params) mg base CX k fa fd ps (sp (K w.params)))
  (hsp:∀(K:PySem.W.Frag) (H:Hp) (xs:List V) (a:Codec.denoteAll r.args),KW H→Codec.withinAll r.args a=true→Codec.app r.args r.asked a=true→uX K H xs (Codec.encAll r.args a) →
   sp K xs H (fun v H'=>Dw K H' v (r.ret.enc (Codec.app r.args r.f a))) fun _ _ _=>False)
  (hCX:∀(H:Hp) (s:Shared) (e:Value) (s':Shared),CX [] H s (fun _ _ _=>False) e s'→False) :
  PySem.W.WalkOS q loose XP YP r d [] (fun f vs=>PySem.call f vs):=
 M4 (K:=K) (CX:=fun _=>CX) (sp:=fun w=>sp (K w.params)) hwell hdf hlen hr hY F (fun w H xs a h1 h2 h3 h4=>hsp (K w.params) H xs a h1 h2 h3 h4) fun _ H s e s'=>hCX H s e s'
end L2
end
end
section
namespace Kt
theorem pH (lo hi:Nat):Kh316.range lo hi=List.range' lo (hi+1 - lo):=by
 unfold Kh316.range
 rw[List.range'_eq_map_range]
theorem mem_range {lo hi u:Nat}:u∈Kh316.range lo hi↔lo≤u∧u≤hi:=by
 rw[pH,List.mem_range'_1]
 omega
theorem wL {lo hi:Nat} (h:hi<lo):Kh316.range lo hi=[]:=by
 rw[pH,show hi+1 - lo=0 by omega]
 rfl
theorem tF (lo hi:Nat):(Kh316.range lo hi).length=hi+1 - lo:=by
 rw[pH,List.length_range']
theorem yb (lo hi:Nat):(Kh316.range lo hi).isEmpty=decide (hi<lo):=by
 by_cases h:hi<lo
 ·rw[wL h,decide_eq_true h]
  rfl
 ·rw[decide_eq_false h,List.isEmpty_eq_false_iff]
  intro e
  have:=tF lo hi
  rw[e] at this
  simp at this
  omega
theorem HP {lo hi lo' hi':Nat} {p:Nat→Bool} (h1:lo≤lo') (h2:hi'≤hi) (h:∀u,lo≤u→u≤hi→(p u=true↔lo'≤u∧u≤hi')) :
  (Kh316.range lo hi).filter p=Kh316.range lo' hi':=by
 by_cases g:lo'≤hi'
 ·have e:Kh316.range lo hi=List.range' lo (lo' - lo)++(List.range' lo' (hi'+1 - lo')++List.range' (hi'+1) (hi - hi')):=by
   rw[pH]
   have a:=List.range'_append_1 (s:=lo') (m:=hi'+1 - lo') (n:=hi - hi')
   rw[show lo'+(hi'+1 - lo')=hi'+1 by omega] at a
   rw[a]
   have b:=List.range'_append_1 (s:=lo) (m:=lo' - lo) (n:=hi'+1 - lo'+(hi - hi'))
   rw[show lo+(lo' - lo)=lo' by omega] at b
   rw[b]
   congr 1
   omega
  rw[e,List.filter_append,List.filter_append,pH]
  have a1:(List.range' lo (lo' - lo)).filter p=[]:=by
   rw[List.filter_eq_nil_iff]
   intro u hu
   rw[List.mem_range'_1] at hu
   rw[h u (by omega) (by omega)]
   omega
  have a2:(List.range' lo' (hi'+1 - lo')).filter p=List.range' lo' (hi'+1 - lo'):=by
   rw[List.filter_eq_self]
   intro u hu
   rw[List.mem_range'_1] at hu
   rw[h u (by omega) (by omega)]
   omega
  have a3:(List.range' (hi'+1) (hi - hi')).filter p=[]:=by
   rw[List.filter_eq_nil_iff]
   intro u hu
   rw[List.mem_range'_1] at hu
   rw[h u (by omega) (by omega)]
   omega
  rw[a1,a2,a3,List.nil_append,List.append_nil]
 ·rw[wL (show hi'<lo' by omega),List.filter_eq_nil_iff]
  intro u hu
  rw[mem_range] at hu
  rw[h u hu.1 hu.2]
  omega
structure U where
 lo :Int
 hi :Int
noncomputable def max2 (i j:Int):Int:=if j > i then j else i
noncomputable def min2 (i j:Int):Int:=if j<i then j else i
noncomputable def divUp (n b:Int):Int:=(n+b - 1) / b
noncomputable def ofLength (u:U) (l k e:Int):U:=⟨max2 u.lo (divUp (l - e) k),min2 u.hi ((l+e) / k)⟩
noncomputable def BJ (u:U) (l k e:Int):U:=⟨max2 u.lo (divUp (l - e) k),u.hi⟩
noncomputable def U.y3 (v:U) (u:Nat):Prop:=v.lo≤(u:Int)∧(u:Int)≤v.hi
noncomputable def U.list (v:U):List Nat:=Kh316.range v.lo.toNat v.hi.toNat
theorem J8 {v:U} {l k e:Int} {u:Nat} (hk:k=1∨k=3):(ofLength v l k e).y3 u↔v.y3 u∧k * u≤l+e∧l≤k * u+e:=by
 unfold ofLength U.y3 max2 min2 divUp
 rcases hk with rfl | rfl<;>(dsimp only;split<;>split<;>omega)
theorem N1 {v:U} {l k e:Int} {u:Nat} (hk:k=1∨k=3):(BJ v l k e).y3 u↔v.y3 u∧l≤k * u+e:=by
 unfold BJ U.y3 max2 divUp
 rcases hk with rfl | rfl<;>(dsimp only;split<;>omega)
structure Sub (v w:U):Prop where
 lo :w.lo≤v.lo
 hi :v.hi≤w.hi
theorem Sub.refl (v:U):Sub v v:=⟨Int.le_refl _,Int.le_refl _⟩
theorem Sub.trans {u v w:U} (a:Sub u v) (b:Sub v w):Sub u w:=⟨Int.le_trans b.lo a.lo,Int.le_trans a.hi b.hi⟩
theorem Hy (v:U) (l k e:Int):Sub (ofLength v l k e) v:=by
 constructor
 ·show v.lo≤max2 v.lo _
  unfold max2
  split<;>omega
 ·show min2 v.hi _≤v.hi
  unfold min2
  split<;>omega
theorem Lc (v:U) (l k e:Int):Sub (BJ v l k e) v:=by
 constructor
 ·show v.lo≤max2 v.lo _
  unfold max2
  split<;>omega
 ·exact Int.le_refl _
noncomputable def overs (e:Int):U→List Nat→List Nat→U
 | v,l::ls,k::ks=>overs e (ofLength v l k e) ls ks
 | v,_,_=>v
theorem wJ (e:Int):∀(ls ks:List Nat) (v:U),Sub (overs e v ls ks) v
 | [],_,v=>by unfold overs;exact Sub.refl v
 | _ ::_,[],v=>by unfold overs;exact Sub.refl v
 | l ::ls,k::ks,v=>by
  unfold overs
  exact (wJ e ls ks _).trans (Hy _ _ _ _)
noncomputable def fC (pat lens:List Nat) (begun:Bool) (lasted:Int) (v:U) (e:Int):U:=
 if pat.length<lens.length then ⟨1,0⟩
 else if begun=true∧lens.length<pat.length then BJ (overs e v lens pat) lasted ((pat.getD lens.length 0:Nat):Int) e else overs e v lens pat
noncomputable def EJ (l:List Nat):Prop:=∀k∈l,k=1∨k=3
theorem Rt {u e l k:Nat} (he:e<u) (hk:k=1∨k=3):(Kh314.mark u e l==k)=true↔k * u≤l+e∧l≤k * u+e:=by
 unfold Kh314.mark
 rcases hk with rfl | rfl<;>(rw[beq_iff_eq];split<;>(try split)<;>omega)
theorem Td {u e l k:Nat} (he:e<u) (hk:k=1∨k=3):(Kh314.gap u e l==k)=true↔k * u≤l+e∧l≤k * u+e:=by
 unfold Kh314.gap
 rcases hk with rfl | rfl<;>(rw[beq_iff_eq];split<;>(try split)<;>(try split)<;>omega)
theorem FI {u e:Nat} (he:e<u):∀(pat lens:List Nat) (m:Bool) (v:U),EJ pat→v.y3 u →
  (Kh316.alike u e m pat lens=true↔¬pat.length<lens.length∧(overs e v lens pat).y3 u)
 | [],[],m,v,_,hv=>by
  unfold Kh316.alike overs
  simp[hv]
 | k ::p,[],m,v,_,hv=>by
  unfold Kh316.alike overs
  simp[hv]
 | [],l::r,m,v,_,_=>by
  unfold Kh316.alike
  simp
 | k ::p,l::r,m,v,h,hv=>by
  have hk:=h k (List.mem_cons_self ..)
  have hp:EJ p:=fun x hx=>h x (List.mem_cons_of_mem _ hx)
  have hk':(k:Int)=1∨(k:Int)=3:=by omega
  have e1:((if m then Kh314.mark u e l else Kh314.gap u e l)==k)=true↔k * u≤l+e∧l≤k * u+e:=by
   cases m
   ·exact Td he hk
   ·exact Rt he hk
  have e2:=J8 (v:=v) (l:=l) (k:=k) (e:=e) (u:=u) hk'
  unfold Kh316.alike overs
  rw[Bool.and_eq_true,e1]
  have e3:(k * u≤l+e∧l≤k * u+e)↔((k:Int) * u≤(l:Int)+e∧(l:Int)≤(k:Int) * u+e):=by
   rcases hk with rfl | rfl<;>omega
  constructor
  ·rintro⟨a,b⟩
   have c:(ofLength v l k e).y3 u:=e2.mpr ⟨hv,e3.mp a⟩
   have d:=(FI he p r (!m) (ofLength v l k e) hp c).mp b
   exact⟨by simp only[List.length_cons];omega,d.2⟩
  ·rintro⟨a,b⟩
   have s:=wJ (e:Int) r p (ofLength v l k e)
   have c:(ofLength v l k e).y3 u:=⟨Int.le_trans s.lo b.1,Int.le_trans b.2 s.hi⟩
   exact⟨e3.mpr (e2.mp c).2,(FI he p r (!m) _ hp c).mpr ⟨by simp only[List.length_cons] at a;omega,b⟩⟩
structure Came (lens:List Nat) (down:Bool) (lasted:Nat):Prop where
 Kk :down=true→lens.length % 2=0
 odd :down=false→lens≠[]→lens.length % 2=1
theorem J0 {u e:Nat} {t lens:List Nat} {down:Bool} {lasted:Nat} (he:e<u) {v:U} (hp:EJ (Kh316.pattern t)) (ho:(Kh316.pattern t).length % 2=1) (hc:Came lens down lasted) (hv:v.y3 u) :
  (Kh316.mayBe u e t ⟨lens,down,lasted⟩=true↔(fC (Kh316.pattern t) lens (down || !lens.isEmpty) lasted v e).y3 u):=by
 generalize hP:Kh316.pattern t=P at *
 unfold Kh316.mayBe
 rw[hP,Bool.and_eq_true,FI he P lens true v hp hv]
 unfold fC
 by_cases h1:P.length<lens.length
 ·rw[if_pos h1]
  constructor
  ·rintro⟨⟨a,_⟩,_⟩
   exact absurd h1 a
  ·intro h
   unfold U.y3 at h
   exact absurd h.1 (by dsimp only at h ⊢;omega)
 ·rw[if_neg h1]
  unfold Kh316.going
  dsimp only
  by_cases h2:lens.length<P.length
  ·have e1:P.drop lens.length=P.getD lens.length 0::P.drop (lens.length+1):=by
    rw[List.drop_eq_getElem_cons h2,List.getD_eq_getElem?_getD,List.getElem?_eq_getElem h2]
    rfl
   rw[e1]
   dsimp only
   have hk:P.getD lens.length 0=1∨P.getD lens.length 0=3:=by
    rw[List.getD_eq_getElem?_getD,List.getElem?_eq_getElem h2]
    exact hp _ (List.getElem_mem h2)
   generalize P.getD lens.length 0=k at *
   have hk':(k:Int)=1∨(k:Int)=3:=by omega
   by_cases h3:(down || !lens.isEmpty)=true
   ·rw[if_pos (show (down || !lens.isEmpty)=true∧lens.length<P.length from ⟨h3,h2⟩),N1 hk']
    have e2:(if down=true then decide (lasted≤k * u+e) else lens.isEmpty || decide (lasted≤k * u+e))=decide (lasted≤k * u+e):=by
     cases down
     ·have :lens.isEmpty=false:=by simpa using h3
      rw[this]
      rfl
     ·rfl
    rw[e2,decide_eq_true_iff]
    have e3:lasted≤k * u+e↔(lasted:Int)≤(k:Int) * u+e:=by rcases hk with rfl | rfl<;>omega
    rw[e3]
    exact⟨fun ⟨⟨_,b⟩,c⟩=>⟨b,c⟩,fun ⟨b,c⟩=>⟨⟨h1,b⟩,c⟩⟩
   ·rw[if_neg (show ¬((down || !lens.isEmpty)=true∧lens.length<P.length) from fun h=>h3 h.1)]
    have e2:(if down=true then decide (lasted≤k * u+e) else lens.isEmpty || decide (lasted≤k * u+e))=true:=by
     cases down
     ·have :lens.isEmpty=true:=by simpa using h3
      rw[this]
      rfl
     ·simp at h3
    rw[e2]
    exact⟨fun ⟨⟨_,b⟩,_⟩=>b,fun b=>⟨⟨h1,b⟩,rfl⟩⟩
  ·rw[if_neg (show ¬((down || !lens.isEmpty)=true∧lens.length<P.length) from fun h=>h2 h.2)]
   have h4:lens.length=P.length:=by omega
   rw[show P.drop lens.length=[] by rw[h4,List.drop_length]]
   dsimp only
   have h5:down=false:=by
    cases down
    ·rfl
    ·have:=hc.Kk rfl
     omega
   rw[h5]
   exact⟨fun ⟨⟨_,b⟩,_⟩=>b,fun b=>⟨⟨h1,b⟩,rfl⟩⟩
theorem wI {pat lens:List Nat} {b:Bool} {lasted:Int} {v:U} {e:Int} (h:¬pat.length<lens.length):Sub (fC pat lens b lasted v e) v:=by
 unfold fC
 rw[if_neg h]
 split
 ·exact (Lc _ _ _ _).trans (wJ _ _ _ _)
 ·exact wJ _ _ _ _
theorem Sl {e:Nat} {t lens:List Nat} {down:Bool} {lasted:Nat} {v:U} (he:(e:Int)<v.lo) (hp:EJ (Kh316.pattern t)) (ho:(Kh316.pattern t).length % 2=1) (hc:Came lens down lasted) :
  v.list.filter (fun u=>Kh316.mayBe u e t ⟨lens,down,lasted⟩)=(fC (Kh316.pattern t) lens (down || !lens.isEmpty) lasted v e).list:=by
 have key:∀u:Nat,v.y3 u→(Kh316.mayBe u e t ⟨lens,down,lasted⟩=true↔(fC (Kh316.pattern t) lens (down || !lens.isEmpty) lasted v e).y3 u):=fun u hu=>J0 (by have:=hu.1;omega) hp ho hc hu
 unfold U.list
 by_cases h:(Kh316.pattern t).length<lens.length
 ·have e1:fC (Kh316.pattern t) lens (down || !lens.isEmpty) lasted v e=⟨1,0⟩:=by
   unfold fC
   rw[if_pos h]
  rw[e1] at key ⊢
  rw[List.filter_eq_nil_iff.mpr]
  ·rfl
  ·intro u hu
   rw[mem_range] at hu
   by_cases g:v.y3 u
   ·rw[key u g]
    unfold U.y3
    dsimp only
    omega
   ·unfold U.y3 at g
    by_cases g2:0≤v.hi
    ·omega
    ·have :Kh314.mark 0 0 0=1:=rfl
     omega
 ·have s:=wI (b:=(down || !lens.isEmpty)) (lasted:=(lasted:Int)) (v:=v) (e:=(e:Int)) h
  generalize fC (Kh316.pattern t) lens (down || !lens.isEmpty) lasted v e=w at *
  have s1:=s.lo
  have s2:=s.hi
  by_cases g2:0≤v.hi
  ·refine HP (by omega) (by omega) fun u h1 h2=>?_
   rw[key u ⟨by omega,by omega⟩]
   unfold U.y3
   by_cases g3:0≤w.hi
   ·omega
   ·omega
  ·rw[wL (show w.hi.toNat<w.lo.toNat by omega),wL (show v.hi.toNat<v.lo.toNat by omega)]
   rfl
end Kt
end
section
namespace Kt
theorem Cv :∀(l:List Nat) (k:Nat),Kh314.spread (l++[k])=if l=[] then [k] else Kh314.spread l++[1,k]
 | [],k=>by simp[Kh314.spread]
 | [a],k=>by simp[Kh314.spread]
 | a ::b::l,k=>by
  have ih:=Cv (b::l) k
  rw[if_neg (by simp)] at ih ⊢
  show a::1::Kh314.spread ((b::l)++[k])=(a::1::Kh314.spread (b::l))++[1,k]
  rw[ih]
  rfl
theorem mi :∀l:List Nat,(Kh314.spread l).length=2 * l.length - 1
 | []=>rfl
 | [a]=>rfl
 | a ::b::l=>by
  show (a::1::Kh314.spread (b::l)).length=_
  have:=mi (b::l)
  simp only[List.length_cons] at this ⊢
  omega
theorem Lf {l:List Nat}:Kh314.spread l=[]↔l=[]:=by
 constructor
 ·intro h
  have:=mi l
  rw[h] at this
  simp at this
  cases l with
  | nil=>rfl
  | cons a r=>simp at this;omega
 ·rintro rfl
  rfl
theorem Bi :∀{l:List Nat},EJ l→EJ (Kh314.spread l)
 | [],_=>fun k hk=>by cases hk
 | [a],h=>h
 | a ::b::l,h=>fun k hk=>by
  have hk':k∈a::1::Kh314.spread (b::l):=hk
  rcases List.mem_cons.mp hk' with rfl | hk'
  ·exact h _ (List.mem_cons_self ..)
  ·rcases List.mem_cons.mp hk' with rfl | hk'
   ·exact .inl rfl
   ·exact Bi (fun x hx=>h x (List.mem_cons_of_mem _ hx)) k hk'
noncomputable def Jg (c:Nat):Prop:=(Kh314.place c).isSome=true
theorem DI {c:Nat}:Jg c↔(65≤c∧c≤90)∨(48≤c∧c≤57):=by
 unfold Jg Kh314.place
 by_cases h:65≤c∧c≤90
 ·rw[if_pos h]
  simp[h]
 ·rw[if_neg h]
  by_cases g:48≤c∧c≤57
  ·rw[if_pos g]
   simp[g]
  ·rw[if_neg g]
   simp[h,g]
theorem Io {c:Nat} (h:Jg c):c≠32:=by
 rcases DI.mp h with h | h<;>omega
theorem Jq :∀i<36,(Kh314.table.getD i [])≠[]∧(Kh314.table.getD i []).length≤5∧∀k∈Kh314.table.getD i [],k=1∨k=3:=by decide
theorem An {c:Nat} (h:Jg c):Kh314.marks c≠[]∧(Kh314.marks c).length≤5∧EJ (Kh314.marks c):=by
 rcases DI.mp h with g | g
 ·have e:Kh314.place c=some (c - 65):=by unfold Kh314.place;rw[if_pos g]
  unfold Kh314.marks
  rw[e]
  exact Jq (c - 65) (by omega)
 ·have e:Kh314.place c=some (c - 48+26):=by
   unfold Kh314.place
   rw[if_neg (by omega),if_pos g]
  unfold Kh314.marks
  rw[e]
  exact Jq (c - 48+26) (by omega)
theorem zQ {c d:Nat} {l:List Nat} (h:d≠32):Kh314.sent (c::d::l)=Kh314.spread (Kh314.marks c)++3::Kh314.sent (d::l):=by
 show (if d=32 then _ else _)=_
 rw[if_neg h]
theorem GS :∀(l:List Nat) (c:Nat),(∀x∈l,Jg x)→Jg c→Kh314.sent (l++[c])=if l=[] then Kh314.spread (Kh314.marks c) else Kh314.sent l++3::Kh314.spread (Kh314.marks c)
 | [],c,_,_=>by simp[Kh314.sent]
 | [a],c,_,hc=>by
  rw[if_neg (by simp)]
  show Kh314.sent [a,c]=_
  rw[zQ (Io hc)]
  rfl
 | a ::b::l,c,h,hc=>by
  have hb:Jg b:=h b (by simp)
  have ih:=GS (b::l) c (fun x hx=>h x (List.mem_cons_of_mem _ hx)) hc
  rw[if_neg (by simp)] at ih ⊢
  show Kh314.sent (a::b::(l++[c]))=_
  rw[zQ (Io hb),zQ (Io hb)]
  rw[show b::(l++[c])=(b::l)++[c] from rfl,ih]
  simp
theorem tf :∀(l:List Nat),l≠[]→(∀x∈l,Jg x)→EJ (Kh314.sent l)∧(Kh314.sent l).length % 2=1∧(Kh314.sent l).length≤10 * l.length
 | [],h,_=>absurd rfl h
 | [a],_,h=>by
  obtain⟨h1,h2,h3⟩:=An (h a (by simp))
  have:=mi (Kh314.marks a)
  have h4:(Kh314.marks a).length≠0:=fun q=>h1 (List.length_eq_zero_iff.mp q)
  refine⟨Bi h3,?_,?_⟩
  ·show (Kh314.spread (Kh314.marks a)).length % 2=1
   omega
  ·show (Kh314.spread (Kh314.marks a)).length≤10 * 1
   omega
 | a ::b::l,_,h=>by
  obtain⟨h1,h2,h3⟩:=An (h a (by simp))
  have:=mi (Kh314.marks a)
  have h4:(Kh314.marks a).length≠0:=fun q=>h1 (List.length_eq_zero_iff.mp q)
  obtain⟨i1,i2,i3⟩:=tf (b::l) (by simp) (fun x hx=>h x (List.mem_cons_of_mem _ hx))
  rw[zQ (Io (h b (by simp)))]
  refine⟨fun k hk=>?_,?_,?_⟩
  ·rcases List.mem_append.mp hk with hk | hk
   ·exact Bi h3 k hk
   ·rcases List.mem_cons.mp hk with rfl | hk
    ·exact .inr rfl
    ·exact i1 k hk
  ·rw[List.length_append,List.length_cons]
   omega
  ·rw[List.length_append,List.length_cons]
   simp only[List.length_cons] at i3 ⊢
   omega
theorem pN {t:List Nat}:Kh316.okWord t=true↔1≤t.length∧t.length≤12∧∀c∈t,Jg c:=by
 unfold Kh316.okWord
 rw[Bool.and_eq_true,Bool.and_eq_true,decide_eq_true_iff,decide_eq_true_iff,List.all_eq_true]
 exact⟨fun ⟨⟨a,b⟩,c⟩=>⟨a,b,c⟩,fun ⟨a,b,c⟩=>⟨⟨a,b⟩,c⟩⟩
theorem ib {t:List Nat} (h:Kh316.okWord t=true):EJ (Kh316.pattern t)∧(Kh316.pattern t).length % 2=1∧(Kh316.pattern t).length≤120:=by
 obtain⟨h1,h2,h3⟩:=pN.mp h
 obtain⟨a,b,c⟩:=tf t (by intro q;rw[q] at h1;simp at h1) h3
 exact⟨a,b,by show (Kh314.sent t).length≤120;omega⟩
theorem Rg {e:Nat} {t lens:List Nat} {down:Bool} {lasted:Nat} {v:U} (he:(e:Int)<v.lo) (hp:EJ (Kh316.pattern t)) (ho:(Kh316.pattern t).length % 2=1) (hc:Came lens down lasted)
  (hne:(fC (Kh316.pattern t) lens (down || !lens.isEmpty) lasted v e).lo≤(fC (Kh316.pattern t) lens (down || !lens.isEmpty) lasted v e).hi) :
  ((v.list.filter (fun u=>Kh316.mayBe u e t ⟨lens,down,lasted⟩)).all fun u=>Kh316.isOver u e t ⟨lens,down,lasted⟩) =
   (decide (lens.length=(Kh316.pattern t).length)&&decide (3 * (fC (Kh316.pattern t) lens (down || !lens.isEmpty) lasted v e).hi+e<lasted)):=by
 have hs:¬(Kh316.pattern t).length<lens.length:=by
  intro q
  unfold fC at hne
  rw[if_pos q] at hne
  exact absurd hne (by decide)
 have s:=wI (b:=(down || !lens.isEmpty)) (lasted:=(lasted:Int)) (v:=v) (e:=(e:Int)) hs
 have hb:=Sl (v:=v) he hp ho hc
 have s1:=s.lo
 have key:∀u:Nat,v.y3 u→(Kh316.mayBe u e t ⟨lens,down,lasted⟩=true↔(fC (Kh316.pattern t) lens (down || !lens.isEmpty) lasted v e).y3 u):=fun u hu=>J0 (by have:=hu.1;omega) hp ho hc hu
 rw[hb]
 have s2:=s.hi
 generalize fC (Kh316.pattern t) lens (down || !lens.isEmpty) lasted v e=w at *
 have m:∀u:Nat,u∈w.list↔w.y3 u:=fun u=>by
  unfold U.list U.y3
  rw[mem_range]
  omega
 rw[Bool.eq_iff_iff,List.all_eq_true,Bool.and_eq_true,decide_eq_true_iff,decide_eq_true_iff]
 constructor
 ·intro h
  have h1:=h w.hi.toNat ((m _).mpr ⟨by omega,by omega⟩)
  unfold Kh316.isOver at h1
  rw[Bool.and_eq_true,Bool.and_eq_true,Bool.and_eq_true,beq_iff_eq,decide_eq_true_iff] at h1
  dsimp only at h1
  exact⟨h1.2.2.1.symm,by have:=h1.2.2.2;omega⟩
 ·rintro⟨h1,h2⟩ u hu
  have hu':=(m u).mp hu
  have h3:down=false:=by
   cases down
   ·rfl
   ·have:=hc.Kk rfl
    omega
  unfold Kh316.isOver
  rw[Bool.and_eq_true,Bool.and_eq_true,Bool.and_eq_true,beq_iff_eq,decide_eq_true_iff]
  refine⟨(key u ⟨Int.le_trans s1 hu'.1,Int.le_trans hu'.2 s2⟩).mpr hu',?_,h1.symm,?_⟩
  ·dsimp only
   rw[h3]
   rfl
  ·dsimp only
   have:=hu'.2
   omega
end Kt
end
section
namespace Kt
open Kh292
structure iS (s:Script):Prop where
 next :∀q,q<s.places.length→∀w∈(at_ s q).ways,∀t,w.2=some t→t<s.places.length
 zM :∀q,q<s.places.length→(at_ s q).ways≠[]
inductive Reach (s:Script) (c:Nat) (l:List (Option Nat)):Option Nat→Prop
 | base {x:Option Nat}:x∈l→Reach s c l x
 | step {q:Nat} {w:Nat×Option Nat}:Reach s c l (some q)→takesPart s c q=false→w∈(at_ s q).ways→Reach s c l w.2
noncomputable def turn (s:Script) (c:Nat) (l:List (Option Nat)):List (Option Nat):=(l++l.flatMap fun x=>match x with
   | some q=>if takesPart s c q then [] else (at_ s q).ways.map Prod.snd
   | none=>[]).eraseDups
theorem qp (s:Script) (c f:Nat) (l:List (Option Nat)):spread s c (f+1) l=spread s c f (turn s c l):=rfl
theorem mem_eraseDups {α:Type} [BEq α] [LawfulBEq α] {a:α} {l:List α}:a∈l.eraseDups↔a∈l:=List.mem_eraseDups
theorem rZ {s:Script} {c:Nat} {l:List (Option Nat)} {x:Option Nat} :
  x∈turn s c l↔x∈l∨∃q,some q∈l∧takesPart s c q=false∧∃w∈(at_ s q).ways,w.2=x:=by
 unfold turn
 rw[mem_eraseDups,List.mem_append,List.mem_flatMap]
 constructor
 ·rintro (h | ⟨y,hy,h⟩)
  ·exact .inl h
  ·cases y with
   | none=>cases h
   | some q=>
    right
    refine⟨q,hy,?_⟩
    dsimp only at h
    by_cases g:takesPart s c q=true
    ·rw[if_pos g] at h
     cases h
    ·rw[if_neg g,List.mem_map] at h
     exact⟨by simpa using g,h⟩
 ·rintro (h | ⟨q,hq,g,w,hw,e⟩)
  ·exact .inl h
  ·refine .inr ⟨some q,hq,?_⟩
   dsimp only
   rw[if_neg (by rw[g];decide),List.mem_map]
   exact⟨w,hw,e⟩
theorem zx {s:Script} {c:Nat} {l0:List (Option Nat)}:∀(f:Nat) (l:List (Option Nat)),(∀x∈l,Reach s c l0 x)→∀x∈spread s c f l,Reach s c l0 x
 | 0,_,h,x,hx=>h x hx
 | f+1,l,h,x,hx=>by
  rw[qp] at hx
  refine zx f (turn s c l) (fun y hy=>?_) x hx
  rcases rZ.mp hy with hy | ⟨q,hq,g,w,hw,rfl⟩
  ·exact h y hy
  ·exact .step (h _ hq) g hw
noncomputable def lY (s:Script) (c:Nat) (l:List (Option Nat)):Prop:=∀q,some q∈l→takesPart s c q=false→∀w∈(at_ s q).ways,w.2∈l
theorem lY.Jk {s:Script} {c:Nat} {l:List (Option Nat)} (h:lY s c l) {x:Option Nat}:x∈turn s c l↔x∈l:=by
 rw[rZ]
 constructor
 ·rintro (h1 | ⟨q,hq,g,w,hw,rfl⟩)
  ·exact h1
  ·exact h q hq g w hw
 ·exact .inl
theorem lY.congr {s:Script} {c:Nat} {l m:List (Option Nat)} (h:lY s c l) (e:∀x,x∈m↔x∈l):lY s c m:=fun q hq g w hw=>(e _).mpr (h q ((e _).mp hq) g w hw)
theorem lY.spread {s:Script} {c:Nat}:∀(f:Nat) (l:List (Option Nat)),lY s c l→lY s c (spread s c f l)
 | 0,_,h=>h
 | f+1,l,h=>by
  rw[qp]
  exact lY.spread f _ (h.congr fun x=>h.Jk)
theorem Cw {s:Script} {c:Nat}:∀(f:Nat) (l:List (Option Nat)) {x:Option Nat},x∈l→x∈spread s c f l
 | 0,_,_,h=>h
 | f+1,l,x,h=>by
  rw[qp]
  exact Cw f _ (rZ.mpr (.inl h))
noncomputable def univ (n:Nat):List (Option Nat):=none::(List.range n).map some
theorem dJ {n:Nat} {x:Option Nat}:x∈univ n↔∀q,x=some q→q<n:=by
 unfold univ
 cases x with
 | none=>simp
 | some q=>simp
noncomputable def has (n:Nat) (l:List (Option Nat)):Nat:=((univ n).filter fun x=>l.contains x).length
theorem Tc (n:Nat) (l:List (Option Nat)):has n l≤n+1:=by
 unfold has
 refine Nat.le_trans (List.length_filter_le _ _) ?_
 unfold univ
 simp
theorem filter_le {α:Type} {p q:α→Bool}:∀(l:List α),(∀x∈l,p x=true→q x=true)→(l.filter p).length≤(l.filter q).length
 | [],_=>Nat.le_refl _
 | a ::l,h=>by
  have ih:=filter_le l fun x hx=>h x (List.mem_cons_of_mem _ hx)
  rw[List.filter_cons,List.filter_cons]
  by_cases g:p a=true
  ·rw[if_pos g,if_pos (h a (List.mem_cons_self ..) g)]
   simp only[List.length_cons]
   omega
  ·rw[if_neg g]
   by_cases g2:q a=true
   ·rw[if_pos g2]
    simp only[List.length_cons]
    omega
   ·rw[if_neg g2]
    exact ih
theorem filter_lt {α:Type} {p q:α→Bool}:∀(l:List α),(∀x∈l,p x=true→q x=true)→(∃x∈l,p x=false∧q x=true)→(l.filter p).length<(l.filter q).length
 | [],_,⟨_,h,_⟩=>by cases h
 | a ::l,h,⟨x,hx,h1,h2⟩=>by
  rw[List.filter_cons,List.filter_cons]
  rcases List.mem_cons.mp hx with rfl | hx
  ·have:=filter_le l fun y hy=>h y (List.mem_cons_of_mem _ hy)
   rw[if_neg (by rw[h1];decide),if_pos h2]
   simp only[List.length_cons]
   omega
  ·have ih:=filter_lt l (fun y hy=>h y (List.mem_cons_of_mem _ hy)) ⟨x,hx,h1,h2⟩
   by_cases g:p a=true
   ·rw[if_pos g,if_pos (h a (List.mem_cons_self ..) g)]
    simp only[List.length_cons]
    omega
   ·rw[if_neg g]
    by_cases g2:q a=true
    ·rw[if_pos g2]
     simp only[List.length_cons]
     omega
    ·rw[if_neg g2]
     exact ih
theorem contains_iff {l:List (Option Nat)} {x:Option Nat}:l.contains x=true↔x∈l:=List.contains_iff_mem
theorem Kb {s:Script} {c:Nat} {l:List (Option Nat)} (W:iS s) (hl:∀x∈l,x∈univ s.places.length) (h:¬lY s c l):has s.places.length l<has s.places.length (turn s c l):=by
 unfold has
 refine filter_lt _ (fun x _ hx=>contains_iff.mpr (rZ.mpr (.inl (contains_iff.mp hx)))) ?_
 apply Classical.byContradiction
 intro hn
 apply h
 intro q hq g w hw
 apply Classical.byContradiction
 intro hx
 refine hn ⟨w.2,?_,?_,?_⟩
 ·rw[dJ]
  intro t e
  exact W.next q (dJ.mp (hl _ hq) q rfl) w hw t e
 ·cases e:l.contains w.2
  ·rfl
  ·exact absurd (contains_iff.mp e) hx
 ·exact contains_iff.mpr (rZ.mpr (.inr ⟨q,hq,g,w,hw,rfl⟩))
theorem M6 {s:Script} {c:Nat} {l:List (Option Nat)} (W:iS s) (hl:∀x∈l,x∈univ s.places.length):∀x∈turn s c l,x∈univ s.places.length:=by
 intro x hx
 rcases rZ.mp hx with hx | ⟨q,hq,g,w,hw,rfl⟩
 ·exact hl x hx
 ·rw[dJ]
  intro t e
  exact W.next q (dJ.mp (hl _ hq) q rfl) w hw t e
theorem xU {s:Script} {c:Nat} (W:iS s):∀(f:Nat) (l:List (Option Nat)),(∀x∈l,x∈univ s.places.length)→s.places.length+1≤has s.places.length l+f→lY s c (spread s c f l)
 | 0,l,hl,h=>by
  show lY s c l
  apply Classical.byContradiction
  intro g
  have:=Kb W hl g
  have:=Tc s.places.length (turn s c l)
  omega
 | f+1,l,hl,h=>by
  rw[qp]
  by_cases g:lY s c l
  ·exact lY.spread f _ (g.congr fun x=>g.Jk)
  ·have:=Kb W hl g
   exact xU W f _ (M6 W hl) (by omega)
theorem yz {s:Script} {c:Nat} (W:iS s) {l:List (Option Nat)} (hl:∀x∈l,x∈univ s.places.length) {x:Option Nat}:x∈spread s c s.places.length l↔Reach s c l x:=by
 constructor
 ·exact zx _ l (fun y hy=>.base hy) x
 ·intro h
  cases hl0:l with
  | nil=>
   exfalso
   subst hl0
   induction h with
   | base h=>cases h
   | step _ _ _ ih=>exact ih
  | cons a r=>
   rw[←hl0]
   have h1:1≤has s.places.length l:=by
    unfold has
    have :a∈(univ s.places.length).filter fun x=>l.contains x:=by
     rw[List.mem_filter]
     exact⟨hl a (by rw[hl0];simp),contains_iff.mpr (by rw[hl0];simp)⟩
    exact List.length_pos_of_mem this
   have C:=xU (c:=c) W s.places.length l hl (by omega)
   induction h with
   | base h=>exact Cw _ _ h
   | step h g hw ih=>exact C _ ih g _ hw
theorem Reach.trans {s:Script} {c:Nat} {l:List (Option Nat)} {x y:Option Nat} (h:Reach s c l x) (g:Reach s c [x] y):Reach s c l y:=by
 induction g with
 | base e=>
  rw[List.mem_singleton] at e
  subst e
  exact h
 | step _ p w ih=>exact .step ih p w
theorem Reach.sub {s:Script} {c:Nat} {l m:List (Option Nat)} {x:Option Nat} (h:Reach s c l x) (e:∀y∈l,y∈m):Reach s c m x:=by
 induction h with
 | base a=>exact .base (e _ a)
 | step _ p w ih=>exact .step ih p w
theorem Reach.one {s:Script} {c:Nat} {l:List (Option Nat)} {x:Option Nat} (h:Reach s c l x):∃y∈l,Reach s c [y] x:=by
 induction h with
 | base a=>exact⟨_,a,.base (by simp)⟩
 | step _ p w ih=>
  obtain⟨y,hy,r⟩:=ih
  exact⟨y,hy,.step r p w⟩
theorem Reach.univ {s:Script} {c:Nat} (W:iS s) {l:List (Option Nat)} (hl:∀x∈l,x∈univ s.places.length) {x:Option Nat} (h:Reach s c l x):x∈Kt.univ s.places.length:=by
 induction h with
 | base a=>exact hl _ a
 | step _ p w ih=>
  rw[dJ]
  intro t e
  exact W.next _ (dJ.mp ih _ rfl) _ w t e
noncomputable def GJ (s:Script) (c q:Nat) (x:Option Nat):Prop:=∃w∈(at_ s q).ways,Reach s c [w.2] x
theorem Reach.split {s:Script} {c q:Nat} {x:Option Nat} (h:Reach s c [some q] x):x=some q∨(takesPart s c q=false∧GJ s c q x):=by
 induction h with
 | base e=>exact .inl (List.mem_singleton.mp e)
 | @step r w a p hw ih=>
  rcases ih with e | ⟨g,v,hv,r⟩
  ·cases e
   exact .inr ⟨p,w,hw,.base (by simp)⟩
  ·exact .inr ⟨g,v,hv,.step r p hw⟩
theorem GJ.reach {s:Script} {c q:Nat} {x:Option Nat} (h:GJ s c q x) (g:takesPart s c q=false):Reach s c [some q] x:=by
 obtain⟨w,hw,r⟩:=h
 exact (Reach.step (.base (by simp)) g hw).trans r
theorem GJ.trans {s:Script} {c q m:Nat} {x:Option Nat} (h:GJ s c q (some m)) (g:takesPart s c m=false) (k:GJ s c m x):GJ s c q x:=by
 obtain⟨w,hw,r⟩:=h
 exact⟨w,hw,r.trans (k.reach g)⟩
inductive Path (s:Script) (c k:Nat):Nat→Option Nat→Prop
 | IM {i:Nat} {w:Nat×Option Nat}:w∈(at_ s i).ways→Path s c k i w.2
 | join {i m:Nat} {x:Option Nat}:Path s c k i (some m)→m<k→takesPart s c m=false→Path s c k m x→Path s c k i x
theorem Path.mono {s:Script} {c k k' i:Nat} {x:Option Nat} (h:Path s c k i x) (e:k≤k'):Path s c k' i x:=by
 induction h with
 | IM w=>exact .IM w
 | join _ a b _ i1 i2=>exact .join i1 (by omega) b i2
theorem o8 {s:Script} {c k i:Nat} {x:Option Nat}:Path s c (k+1) i x↔Path s c k i x∨(takesPart s c k=false∧Path s c k i (some k)∧Path s c k k x):=by
 constructor
 ·intro h
  generalize e:k+1=k' at h
  induction h with
  | IM w=>exact .inl (.IM w)
  | @join i m x _ a b _ i1 i2=>
   by_cases hm:m=k
   ·subst hm
    right
    refine⟨b,?_,?_⟩
    ·rcases i1 with i1 | ⟨_,i1,_⟩<;>exact i1
    ·rcases i2 with i2 | ⟨_,_,i2⟩<;>exact i2
   ·have hm':m<k:=by omega
    rcases i1 with i1 | ⟨p,i1,j1⟩
    ·rcases i2 with i2 | ⟨p,i2,j2⟩
     ·exact .inl (.join i1 hm' b i2)
     ·exact .inr ⟨p,.join i1 hm' b i2,j2⟩
    ·rcases i2 with i2 | ⟨_,i2,j2⟩
     ·exact .inr ⟨p,i1,.join j1 hm' b i2⟩
     ·exact .inr ⟨p,i1,j2⟩
 ·rintro (h | ⟨p,a,b⟩)
  ·exact h.mono (by omega)
  ·exact .join (a.mono (by omega)) (by omega) p (b.mono (by omega))
theorem NI {s:Script} {c k i:Nat} {x:Option Nat} (p:takesPart s c k=true):Path s c (k+1) i x↔Path s c k i x:=by
 rw[o8]
 constructor
 ·rintro (h | ⟨q,_⟩)
  ·exact h
  ·rw[p] at q
   cases q
 ·exact .inl
theorem NH {s:Script} {c i:Nat} {x:Option Nat}:Path s c 0 i x↔∃w∈(at_ s i).ways,w.2=x:=by
 constructor
 ·intro h
  cases h with
  | IM w=>exact⟨_,w,rfl⟩
  | join _ a=>omega
 ·rintro⟨w,hw,rfl⟩
  exact .IM hw
theorem GY {s:Script} {c i:Nat} (W:iS s) (hi:i<s.places.length) {x:Option Nat}:Path s c s.places.length i x↔GJ s c i x:=by
 constructor
 ·intro h
  clear hi
  induction h with
  | IM w=>exact⟨_,w,.base (by simp)⟩
  | join _ _ b _ i1 i2=>exact i1.trans b i2
 ·rintro⟨w,hw,r⟩
  have hu:∀y∈[w.2],y∈univ s.places.length:=by
   intro y hy
   rw[List.mem_singleton] at hy
   subst hy
   rw[dJ]
   exact W.next i hi w hw
  induction r with
  | base e=>
   rw[List.mem_singleton] at e
   subst e
   exact .IM hw
  | @step q v a p hv ih=>exact .join ih (dJ.mp (a.univ W hu) q rfl) p (.IM hv)
end Kt
end
section
namespace Kt
open Kh292
theorem ug {a b:Nat} (h:∀j,a.testBit j=true↔b.testBit j=true):a=b:=Nat.eq_of_testBit_eq fun j=>Bool.eq_iff_iff.mpr (h j)
theorem km {q j:Nat}:(2 ^ q).testBit j=true↔q=j:=by
 rw[Nat.testBit_two_pow]
 simp
theorem Ci {a b j:Nat}:(a ||| b).testBit j=true↔a.testBit j=true∨b.testBit j=true:=by
 rw[Nat.testBit_or,Bool.or_eq_true]
theorem qR {a b j:Nat}:(a &&& b).testBit j=true↔a.testBit j=true∧b.testBit j=true:=by
 rw[Nat.testBit_and,Bool.and_eq_true]
theorem KC {j:Nat}:¬(0:Nat).testBit j=true:=by simp
theorem lW {a:Nat}:a=0↔∀j,¬a.testBit j=true:=by
 constructor
 ·rintro rfl j
  exact KC
 ·intro h
  exact ug fun j=>⟨fun q=>absurd q (h j),fun q=>absurd q KC⟩
theorem Vp {a n j:Nat} (h:a<2 ^ n) (g:a.testBit j=true):j<n:=by
 apply Classical.byContradiction
 intro q
 have:=Nat.testBit_lt_two_pow (x:=a) (i:=j) (Nat.lt_of_lt_of_le h (Nat.pow_le_pow_right (by decide) (by omega)))
 rw[this] at g
 cases g
theorem Lw {x n:Nat} (h:x<2 ^ n):2 ^ n+x=2 ^ n ||| x:=by
 have:=Nat.two_pow_add_eq_or_of_lt h 1
 rwa [Nat.mul_one] at this
noncomputable def tH (l:List Nat):Nat:=(l.map fun q=>2 ^ q).sum
theorem rn (p:Nat→Bool):∀n,tH ((List.range n).filter p)<2 ^ n∧∀j,(tH ((List.range n).filter p)).testBit j=true↔j<n∧p j=true
 | 0=>⟨by show 0<1;decide,fun j=>by simp[tH]⟩
 | n+1=>by
  obtain⟨h1,h2⟩:=rn p n
  rw[List.range_succ,List.filter_append]
  by_cases g:p n=true
  ·have e:tH ((List.range n).filter p++[n].filter p)=2 ^ n ||| tH ((List.range n).filter p):=by
    rw[List.filter_cons,if_pos g,List.filter_nil]
    unfold tH at h1 ⊢
    rw[List.map_append,List.sum_append,←Lw h1]
    simp
    omega
   rw[e]
   refine⟨?_,fun j=>?_⟩
   ·rw[←Lw h1,Nat.pow_succ]
    omega
   ·rw[Ci,km,h2]
    constructor
    ·rintro (rfl | ⟨a,b⟩)
     ·exact⟨by omega,g⟩
     ·exact⟨by omega,b⟩
    ·rintro⟨a,b⟩
     by_cases q:n=j
     ·exact .inl q
     ·exact .inr ⟨by omega,b⟩
  ·rw[List.filter_cons,if_neg g,List.filter_nil,List.append_nil]
   refine⟨by rw[Nat.pow_succ];omega,fun j=>?_⟩
   rw[h2]
   constructor
   ·rintro⟨a,b⟩
    exact⟨by omega,b⟩
   ·rintro⟨a,b⟩
    refine⟨?_,b⟩
    by_cases q:j=n
    ·subst q
     exact absurd b g
    ·omega
noncomputable def bx :Option Nat→Nat
 | some q=>q
 | none=>32
theorem L9 {n:Nat} (hn:n≤32) {x y:Option Nat} (hx:x∈univ n) (hy:y∈univ n) (h:bx x=bx y):x=y:=by
 rw[dJ] at hx hy
 cases x with
 | none=>
  cases y with
  | none=>rfl
  | some r=>
   have:=hy r rfl
   simp only[bx] at h
   omega
 | some q=>
  have:=hx q rfl
  cases y with
  | none=>
   simp only[bx] at h
   omega
  | some r=>
   simp only[bx] at h
   rw[h]
noncomputable def qw :List Nat→Nat
 | []=>0
 | a ::l=>a ||| qw l
theorem xp {j:Nat}:∀{l:List Nat},(qw l).testBit j=true↔∃a∈l,a.testBit j=true
 | []=>by simp[qw]
 | a ::l=>by
  show (a ||| qw l).testBit j=true↔_
  rw[Ci,xp (l:=l)]
  simp
noncomputable def maskOf (x:State):Nat:=qw (x.places.map fun q=>2 ^ q) ||| (if x.over then 2 ^ 32 else 0)
theorem hJ {x:State} {j:Nat}:(maskOf x).testBit j=true↔j∈x.places∨(j=32∧x.over=true):=by
 unfold maskOf
 rw[Ci,xp]
 have e1:(∃a∈x.places.map fun q=>2 ^ q,a.testBit j=true)↔j∈x.places:=by
  constructor
  ·rintro⟨a,ha,hb⟩
   obtain⟨q,hq,rfl⟩:=List.mem_map.mp ha
   rw[km] at hb
   subst hb
   exact hq
  ·intro h
   exact⟨2 ^ j,List.mem_map.mpr ⟨j,h,rfl⟩,km.mpr rfl⟩
 rw[e1]
 cases x.over
 ·simp
 ·rw[if_pos rfl,km]
  constructor
  ·rintro (h | h)
   ·exact .inl h
   ·exact .inr ⟨h.symm,rfl⟩
  ·rintro (h | ⟨h,_⟩)
   ·exact .inl h
   ·exact .inr h.symm
noncomputable def lZ (n:Nat) (x:State):Prop:=∃f:Nat→Bool,x.places=(List.range n).filter f
theorem J1 {n:Nat} (hn:n≤32) {x y:State} (hx:lZ n x) (hy:lZ n y) (h:maskOf x=maskOf y):x=y:=by
 obtain⟨f,hf⟩:=hx
 obtain⟨g,hg⟩:=hy
 have b:∀j,(j∈x.places∨(j=32∧x.over=true))↔(j∈y.places∨(j=32∧y.over=true)):=fun j=>by
  rw[←hJ,←hJ,h]
 have m1:∀j,j∈x.places↔j<n∧f j=true:=fun j=>by rw[hf,List.mem_filter,List.mem_range]
 have m2:∀j,j∈y.places↔j<n∧g j=true:=fun j=>by rw[hg,List.mem_filter,List.mem_range]
 have e1:x.places=y.places:=by
  rw[hf,hg]
  apply List.filter_congr
  intro j hj
  rw[List.mem_range] at hj
  have:=b j
  rw[m1,m2] at this
  rw[Bool.eq_iff_iff]
  constructor
  ·intro q
   rcases this.mp (.inl ⟨hj,q⟩) with z | z
   ·exact z.2
   ·omega
  ·intro q
   rcases this.mpr (.inl ⟨hj,q⟩) with z | z
   ·exact z.2
   ·omega
 have e2:x.over=y.over:=by
  have:=b 32
  rw[m1,m2] at this
  rw[Bool.eq_iff_iff]
  constructor
  ·intro q
   rcases this.mp (.inr ⟨rfl,q⟩) with z | z
   ·omega
   ·exact z.2
  ·intro q
   rcases this.mpr (.inr ⟨rfl,q⟩) with z | z
   ·omega
   ·exact z.2
 cases x
 cases y
 simp only at e1 e2
 rw[e1,e2]
noncomputable def Qv (x:Option Nat):Nat:=2 ^ bx x
noncomputable def ng (p:Place):Nat:=qw (p.ways.map fun w=>Qv w.2)
noncomputable def xR (q:Nat) (g:List Nat):List Nat:=g.map fun b=>if b.testBit q then b ||| g.getD q 0 else b
noncomputable def eG (s:Script) (c:Nat):Nat→List Nat
 | 0=>s.places.map ng
 | k+1=>if takesPart s c k then eG s c k else xR k (eG s c k)
theorem sk (s:Script) (c:Nat):∀k,(eG s c k).length=s.places.length
 | 0=>by simp[eG]
 | k+1=>by
  unfold eG
  split
  ·exact sk s c k
  ·unfold xR
   rw[List.length_map]
   exact sk s c k
theorem I0 {s:Script} {i:Nat} (h:i<s.places.length):at_ s i=s.places[i]:=by
 unfold at_
 rw[List.getD_eq_getElem?_getD,List.getElem?_eq_getElem h]
 rfl
theorem Ma {s:Script} (W:iS s) {i j:Nat} (hi:i<s.places.length):(ng (at_ s i)).testBit j=true↔∃x∈univ s.places.length,bx x=j∧∃w∈(at_ s i).ways,w.2=x:=by
 unfold ng
 rw[xp]
 constructor
 ·rintro⟨a,ha,hb⟩
  obtain⟨w,hw,rfl⟩:=List.mem_map.mp ha
  exact⟨w.2,dJ.mpr fun t e=>W.next i hi w hw t e,km.mp hb,w,hw,rfl⟩
 ·rintro⟨x,_,hj,w,hw,rfl⟩
  exact⟨_,List.mem_map.mpr ⟨w,hw,rfl⟩,km.mpr hj⟩
theorem G6 {s:Script} {c:Nat} (W:iS s) (hn:s.places.length≤32):∀k,k≤s.places.length→∀i,i<s.places.length→∀j,((eG s c k).getD i 0).testBit j=true↔∃x∈univ s.places.length,bx x=j∧Path s c k i x
 | 0,_,i,hi,j=>by
  have e:(eG s c 0).getD i 0=ng (at_ s i):=by
   unfold eG
   rw[List.getD_eq_getElem?_getD,List.getElem?_map,List.getElem?_eq_getElem hi,I0 hi]
   rfl
  rw[e,Ma W hi]
  simp only[NH]
 | k+1,hk,i,hi,j=>by
  have ih:=fun i hi j=>G6 (c:=c) W hn k (by omega) i hi j
  unfold eG
  by_cases g:takesPart s c k=true
  ·rw[if_pos g,ih i hi j]
   simp only[NI g]
  ·rw[if_neg g]
   have g':takesPart s c k=false:=by simpa using g
   have hl:=sk s c k
   have e:(xR k (eG s c k)).getD i 0=if ((eG s c k).getD i 0).testBit k then (eG s c k).getD i 0 ||| (eG s c k).getD k 0 else (eG s c k).getD i 0:=by
    unfold xR
    rw[List.getD_eq_getElem?_getD,List.getElem?_map,List.getElem?_eq_getElem (by omega)]
    rw[List.getD_eq_getElem?_getD (l:=eG s c k) (i:=i),List.getElem?_eq_getElem (by omega)]
    rfl
   have hik:((eG s c k).getD i 0).testBit k=true↔Path s c k i (some k):=by
    rw[ih i hi k]
    constructor
    ·rintro⟨x,hx,hb,hp⟩
     have :x=some k:=L9 hn hx (dJ.mpr fun t e=>by cases e;omega) hb
     rw[this] at hp
     exact hp
    ·intro h
     exact⟨some k,dJ.mpr fun t e=>by cases e;omega,rfl,h⟩
   rw[e]
   by_cases g2:((eG s c k).getD i 0).testBit k=true
   ·rw[if_pos g2,Ci,ih i hi j,ih k (by omega) j]
    have p1:=hik.mp g2
    constructor
    ·rintro (⟨x,hx,hb,hp⟩ | ⟨x,hx,hb,hp⟩)
     ·exact⟨x,hx,hb,o8.mpr (.inl hp)⟩
     ·exact⟨x,hx,hb,o8.mpr (.inr ⟨g',p1,hp⟩)⟩
    ·rintro⟨x,hx,hb,hp⟩
     rcases o8.mp hp with hp | ⟨_,_,hp⟩
     ·exact .inl ⟨x,hx,hb,hp⟩
     ·exact .inr ⟨x,hx,hb,hp⟩
   ·rw[if_neg g2,ih i hi j]
    constructor
    ·rintro⟨x,hx,hb,hp⟩
     exact⟨x,hx,hb,o8.mpr (.inl hp)⟩
    ·rintro⟨x,hx,hb,hp⟩
     rcases o8.mp hp with hp | ⟨_,p1,_⟩
     ·exact⟨x,hx,hb,hp⟩
     ·exact absurd (hik.mpr p1) g2
noncomputable def gone (s:Script) (c q:Nat):Nat:=(eG s c s.places.length).getD q 0
theorem o9 {s:Script} {c:Nat} (W:iS s) (hn:s.places.length≤32) {i j:Nat} (hi:i<s.places.length):(gone s c i).testBit j=true↔∃x∈univ s.places.length,bx x=j∧GJ s c i x:=by
 unfold gone
 rw[G6 W hn _ (Nat.le_refl _) i hi j]
 constructor
 ·rintro⟨x,hx,hb,hp⟩
  exact⟨x,hx,hb,(GY W hi).mp hp⟩
 ·rintro⟨x,hx,hb,hp⟩
  exact⟨x,hx,hb,(GY W hi).mpr hp⟩
noncomputable def jn (s:Script) (c:Nat):Nat:=2 ^ 32+tH ((List.range s.places.length).filter fun q=>takesPart s c q)
theorem MV {s:Script} {c:Nat} (hn:s.places.length≤32) {j:Nat}:(jn s c).testBit j=true↔j=32∨(j<s.places.length∧takesPart s c j=true):=by
 unfold jn
 obtain⟨h1,h2⟩:=rn (fun q=>takesPart s c q) s.places.length
 rw[Lw (Nat.lt_of_lt_of_le h1 (Nat.pow_le_pow_right (by decide) hn)),Ci,km,h2]
 constructor
 ·rintro (h | h)
  ·exact .inl h.symm
  ·exact .inr h
 ·rintro (h | h)
  ·exact .inl h.symm
  ·exact .inr h
noncomputable def vk (s:Script) (c:Nat):Nat:=tH ((List.range s.places.length).filter fun q=>!(jn s c).testBit q&&(gone s c q &&& jn s c==0))
theorem Hh {s:Script} {c:Nat} {j:Nat}:(vk s c).testBit j=true↔j<s.places.length∧(jn s c).testBit j=false∧gone s c j &&& jn s c=0:=by
 unfold vk
 rw[(rn _ _).2,Bool.and_eq_true,beq_iff_eq,Bool.not_eq_true']
noncomputable def gn (s:Script) (c q:Nat):Nat:=
 if (jn s c).testBit q then 2 ^ q
 else if gone s c q &&& vk s c≠0 then (gone s c q &&& jn s c) ||| 2 ^ 32 else gone s c q &&& jn s c
theorem sf {s:Script} {c:Nat} (W:iS s) {l:List (Option Nat)} (hl:∀x∈l,x∈univ s.places.length) {j:Nat} :
  j∈(comesTo s c l).places↔j<s.places.length∧takesPart s c j=true∧Reach s c l (some j):=by
 unfold comesTo
 dsimp only
 rw[List.mem_filter,List.mem_range,Bool.and_eq_true,contains_iff,yz W (fun x hx=>hl x (mem_eraseDups.mp hx))]
 constructor
 ·rintro⟨a,b,d⟩
  exact⟨a,b,d.sub fun y hy=>mem_eraseDups.mp hy⟩
 ·rintro⟨a,b,d⟩
  exact⟨a,b,d.sub fun y hy=>mem_eraseDups.mpr hy⟩
noncomputable def Hu (s:Script) (c q:Nat):Prop:=¬Reach s c [some q] none∧∀t,t<s.places.length→takesPart s c t=true→¬Reach s c [some q] (some t)
theorem G1 {s:Script} {c q:Nat} (W:iS s) (hq:q<s.places.length):never s c q=true↔Hu s c q:=by
 have hl:∀x∈[some q],x∈univ s.places.length:=by
  intro x hx
  rw[List.mem_singleton] at hx
  subst hx
  exact dJ.mpr fun t e=>by cases e;exact hq
 have m:∀x,(spread s c s.places.length [some q]).contains x=true↔Reach s c [some q] x:=fun x=>by rw[contains_iff,yz W hl]
 unfold never Hu
 dsimp only
 rw[Bool.and_eq_true,Bool.not_eq_true',Bool.not_eq_true',←Bool.not_eq_true,←Bool.not_eq_true,m,List.any_eq_true]
 constructor
 ·rintro⟨a,b⟩
  refine⟨a,fun t ht hp r=>b ⟨t,List.mem_range.mpr ht,?_⟩⟩
  rw[Bool.and_eq_true,m]
  exact⟨hp,r⟩
 ·rintro⟨a,b⟩
  refine⟨a,?_⟩
  rintro⟨t,ht,h⟩
  rw[Bool.and_eq_true,m] at h
  exact b t (List.mem_range.mp ht) h.1 h.2
theorem mC {s:Script} {c:Nat} (W:iS s) {l:List (Option Nat)} (hl:∀x∈l,x∈univ s.places.length) :
  (comesTo s c l).over=true↔Reach s c l none∨∃q,q<s.places.length∧Reach s c l (some q)∧Hu s c q:=by
 have m:∀x,(spread s c s.places.length l.eraseDups).contains x=true↔Reach s c l x:=fun x=>by
  rw[contains_iff,yz W (fun x hx=>hl x (mem_eraseDups.mp hx))]
  exact⟨fun d=>d.sub fun y hy=>mem_eraseDups.mp hy,fun d=>d.sub fun y hy=>mem_eraseDups.mpr hy⟩
 unfold comesTo
 dsimp only
 rw[Bool.or_eq_true,m,List.any_eq_true]
 constructor
 ·rintro (h | ⟨q,hq,h⟩)
  ·exact .inl h
  ·rw[Bool.and_eq_true,m] at h
   rw[List.mem_range] at hq
   exact .inr ⟨q,hq,h.1,(G1 W hq).mp h.2⟩
 ·rintro (h | ⟨q,hq,h1,h2⟩)
  ·exact .inl h
  ·refine .inr ⟨q,List.mem_range.mpr hq,?_⟩
   rw[Bool.and_eq_true,m]
   exact⟨h1,(G1 W hq).mpr h2⟩
theorem sX (s:Script) (c:Nat) (l:List (Option Nat)):lZ s.places.length (comesTo s c l):=⟨_,rfl⟩
theorem o7 {n q:Nat} (h:q<n):some q∈univ n:=dJ.mpr fun t e=>by cases e;exact h
theorem OO {n q:Nat} (h:q<n):∀x∈[some q],x∈univ n:=by
 intro x hx
 rw[List.mem_singleton] at hx
 subst hx
 exact o7 h
theorem vj {s:Script} {c q:Nat} (W:iS s) (hn:s.places.length≤32) (hq:q<s.places.length):(vk s c).testBit q=true↔Hu s c q:=by
 rw[Hh]
 have own:=fun j=>MV (s:=s) (c:=c) hn (j:=j)
 constructor
 ·rintro⟨_,h1,h2⟩
  have hp:takesPart s c q=false:=by
   cases e:takesPart s c q
   ·rfl
   ·rw[(own q).mpr (.inr ⟨hq,e⟩)] at h1
    cases h1
  rw[lW] at h2
  have key:∀x∈univ s.places.length,GJ s c q x→¬(jn s c).testBit (bx x)=true:=fun x hx hp ho=>h2 (bx x) (qR.mpr ⟨(o9 W hn hq).mpr ⟨x,hx,rfl,hp⟩,ho⟩)
  refine⟨fun r=>?_,fun t ht hpt r=>?_⟩
  ·rcases r.split with e | ⟨_,r⟩
   ·cases e
   ·exact key none (by simp[univ]) r ((own 32).mpr (.inl rfl))
  ·rcases r.split with e | ⟨_,r⟩
   ·cases e
    rw[hp] at hpt
    cases hpt
   ·exact key (some t) (o7 ht) r ((own t).mpr (.inr ⟨ht,hpt⟩))
 ·rintro⟨h1,h2⟩
  have hp:takesPart s c q=false:=by
   cases e:takesPart s c q
   ·rfl
   ·exact absurd (.base (by simp)) (h2 q hq e)
  refine⟨hq,?_,?_⟩
  ·cases e:(jn s c).testBit q
   ·rfl
   ·rcases (own q).mp e with z | ⟨_,z⟩
    ·omega
    ·rw[hp] at z
     cases z
  ·rw[lW]
   intro j hj
   obtain⟨ha,hb⟩:=qR.mp hj
   obtain⟨x,hx,e,r⟩:=(o9 W hn hq).mp ha
   have r':=r.reach hp
   rw[←e] at hb
   cases x with
   | none=>exact h1 r'
   | some t=>
    have ht:=dJ.mp hx t rfl
    rcases (own (bx (some t))).mp hb with z | ⟨_,z⟩
    ·simp only[bx] at z
     omega
    ·exact h2 t ht z r'
theorem Ku {s:Script} {c q:Nat} (W:iS s) (hn:s.places.length≤32) (hq:q<s.places.length):maskOf (comesTo s c [some q])=gn s c q:=by
 have own:=fun j=>MV (s:=s) (c:=c) hn (j:=j)
 have hl:=OO hq
 apply ug
 intro j
 rw[hJ,sf W hl,mC W hl]
 unfold gn
 by_cases hp:takesPart s c q=true
 ·rw[if_pos ((own q).mpr (.inr ⟨hq,hp⟩)),km]
  have only:∀x,Reach s c [some q] x→x=some q:=fun x r=>by
   rcases r.split with e | ⟨z,_⟩
   ·exact e
   ·rw[hp] at z
    cases z
  constructor
  ·rintro (⟨_,_,r⟩ | ⟨_,r | ⟨t,_,r,n⟩⟩)
   ·have:=only _ r
    cases this
    rfl
   ·have:=only _ r
    cases this
   ·have:=only _ r
    cases this
    exact absurd (.base (by simp)) (n.2 _ hq hp)
  ·rintro rfl
   exact .inl ⟨hq,hp,.base (by simp)⟩
 ·have hp':takesPart s c q=false:=by simpa using hp
  have ho:¬(jn s c).testBit q=true:=by
   rw[own]
   rintro (z | ⟨_,z⟩)
   ·omega
   ·exact hp z
  rw[if_neg ho]
  have hstuck:gone s c q &&& vk s c≠0↔∃t,t<s.places.length∧Reach s c [some q] (some t)∧Hu s c t:=by
   constructor
   ·intro h
    apply Classical.byContradiction
    intro hno
    apply h
    rw[lW]
    intro i hi
    obtain⟨ha,hb⟩:=qR.mp hi
    obtain⟨x,hx,e,r⟩:=(o9 W hn hq).mp ha
    have hi':=(Hh.mp hb).1
    cases x with
    | none=>
     simp only[bx] at e
     omega
    | some t=>
     simp only[bx] at e
     subst e
     exact hno ⟨t,hi',r.reach hp',(vj W hn hi').mp hb⟩
   ·rintro⟨t,ht,r,n⟩ h0
    rw[lW] at h0
    rcases r.split with e | ⟨_,r⟩
    ·cases e
     obtain⟨w,hw⟩:=List.exists_mem_of_ne_nil _ (W.zM q hq)
     have r1:Reach s c [some q] w.2:=.step (.base (by simp)) hp' hw
     cases e2:w.2 with
     | none=>
      rw[e2] at r1
      exact n.1 r1
     | some v=>
      have hv:=W.next q hq w hw v e2
      rw[e2] at r1
      have nv:Hu s c v:=⟨fun a=>n.1 (r1.trans a),fun u hu hpu a=>n.2 u hu hpu (r1.trans a)⟩
      exact h0 v (qR.mpr ⟨(o9 W hn hq).mpr ⟨some v,o7 hv,rfl,w,hw,by rw[e2];exact .base (by simp)⟩,(vj W hn hv).mpr nv⟩)
    ·exact h0 t (qR.mpr ⟨(o9 W hn hq).mpr ⟨some t,o7 ht,rfl,r⟩,(vj W hn ht).mpr n⟩)
  have hgo:(gone s c q &&& jn s c).testBit j=true↔(j<s.places.length∧takesPart s c j=true∧Reach s c [some q] (some j))∨(j=32∧Reach s c [some q] none):=by
   rw[qR,o9 W hn hq,own]
   constructor
   ·rintro⟨⟨x,hx,e,r⟩,h | h⟩
    ·right
     refine⟨h,?_⟩
     have :x=none:=L9 hn hx (by simp[univ]) (by rw[e,h];rfl)
     rw[this] at r
     exact r.reach hp'
    ·left
     refine⟨h.1,h.2,?_⟩
     have :x=some j:=L9 hn hx (o7 h.1) (by rw[e];rfl)
     rw[this] at r
     exact r.reach hp'
   ·rintro (⟨a,b,r⟩ | ⟨e,r⟩)
    ·rcases r.split with z | ⟨_,z⟩
     ·cases z
      exact absurd b hp
     ·exact⟨⟨some j,o7 a,rfl,z⟩,.inr ⟨a,b⟩⟩
    ·rcases r.split with z | ⟨_,z⟩
     ·cases z
     ·exact⟨⟨none,by simp[univ],e.symm,z⟩,.inl e⟩
  by_cases hs:gone s c q &&& vk s c≠0
  ·rw[if_pos hs,Ci,hgo,km]
   have hs':=hstuck.mp hs
   constructor
   ·rintro (h | ⟨h,_⟩)
    ·exact .inl (.inl h)
    ·exact .inr h.symm
   ·rintro ((h | ⟨h,r⟩) | h)
    ·exact .inl h
    ·exact .inr ⟨h,.inl r⟩
    ·exact .inr ⟨h.symm,.inr hs'⟩
  ·rw[if_neg hs,hgo]
   constructor
   ·rintro (h | ⟨h,r | r⟩)
    ·exact .inl h
    ·exact .inr ⟨h,r⟩
    ·exact absurd (hstuck.mpr r) hs
   ·rintro (h | ⟨h,r⟩)
    ·exact .inl h
    ·exact .inr ⟨h,.inl r⟩
noncomputable def zb (s:Script) (c:Nat):Option Nat→Nat
 | none=>2 ^ 32
 | some q=>gn s c q
theorem xn {s:Script} {c:Nat} (W:iS s) (hn:s.places.length≤32) {x:Option Nat} (hx:x∈univ s.places.length):maskOf (comesTo s c [x])=zb s c x:=by
 cases x with
 | some q=>exact Ku W hn (dJ.mp hx q rfl)
 | none=>
  have hl:∀y∈[(none:Option Nat)],y∈univ s.places.length:=by
   intro y hy
   rw[List.mem_singleton] at hy
   subst hy
   exact hx
  have only:∀y,Reach s c [none] y→y=none:=fun y r=>by
   generalize e:[(none:Option Nat)]=l at r
   induction r with
   | base a=>
    subst e
    exact List.mem_singleton.mp a
   | step _ _ _ ih=>exact absurd (ih) (by intro h;cases h)
  apply ug
  intro j
  rw[hJ,sf W hl,mC W hl]
  show _↔(2 ^ 32).testBit j=true
  rw[km]
  constructor
  ·rintro (⟨_,_,r⟩ | ⟨h,_⟩)
   ·have:=only _ r
    cases this
   ·exact h.symm
  ·intro h
   exact .inr ⟨h.symm,.inl (.base (by simp))⟩
theorem Kv {s:Script} {c:Nat} (W:iS s) (hn:s.places.length≤32) {l:List (Option Nat)} (hl:∀x∈l,x∈univ s.places.length):maskOf (comesTo s c l)=qw (l.map (zb s c)):=by
 apply ug
 intro j
 rw[xp,hJ,sf W hl,mC W hl]
 have one:∀x∈l,∀y∈[x],y∈univ s.places.length:=fun x hx y hy=>by
  rw[List.mem_singleton] at hy
  subst hy
  exact hl y hx
 have up:∀{x y},x∈l→Reach s c [x] y→Reach s c l y:=fun hx r=>r.sub fun z hz=>by
  rw[List.mem_singleton] at hz
  subst hz
  exact hx
 constructor
 ·rintro (⟨a,b,r⟩ | ⟨h,r | ⟨t,ht,r,n⟩⟩)
  ·obtain⟨x,hx,r⟩:=r.one
   refine⟨_,List.mem_map.mpr ⟨x,hx,rfl⟩,?_⟩
   rw[←xn W hn (hl x hx),hJ,sf W (one x hx)]
   exact .inl ⟨a,b,r⟩
  ·obtain⟨x,hx,r⟩:=r.one
   refine⟨_,List.mem_map.mpr ⟨x,hx,rfl⟩,?_⟩
   rw[←xn W hn (hl x hx),hJ,mC W (one x hx)]
   exact .inr ⟨h,.inl r⟩
  ·obtain⟨x,hx,r⟩:=r.one
   refine⟨_,List.mem_map.mpr ⟨x,hx,rfl⟩,?_⟩
   rw[←xn W hn (hl x hx),hJ,mC W (one x hx)]
   exact .inr ⟨h,.inr ⟨t,ht,r,n⟩⟩
 ·rintro⟨a,ha,hb⟩
  obtain⟨x,hx,rfl⟩:=List.mem_map.mp ha
  rw[←xn W hn (hl x hx),hJ,sf W (one x hx),mC W (one x hx)] at hb
  rcases hb with ⟨a,b,r⟩ | ⟨h,r | ⟨t,ht,r,n⟩⟩
  ·exact .inl ⟨a,b,up hx r⟩
  ·exact .inr ⟨h,.inl (up hx r)⟩
  ·exact .inr ⟨h,.inr ⟨t,ht,up hx r,n⟩⟩
end Kt
end
section
namespace Kt
open Kh292
theorem FJ {α:Type} [BEq α] (f:Nat→α):∀(ws:List Nat) (l:List α),l.length≤(ws.foldl (fun l w=>if l.contains (f w) then l else l++[f w]) l).length
 | [],_=>Nat.le_refl _
 | w ::ws,l=>by
  rw[List.foldl_cons]
  refine Nat.le_trans ?_ (FJ f ws _)
  split
  ·exact Nat.le_refl _
  ·rw[List.length_append]
   omega
noncomputable def eC (s:Script) (c:Nat) (x:State) (ws:List Nat) (l:List State):List State:=ws.foldl (fun l w=>if l.contains (behind s c x w) then l else l++[behind s c x w]) l
theorem Jc (s:Script) (c:Nat) (x:State):∀(ws:List Nat) (l:List State),l.length≤64→add s c x ws l=if (eC s c x ws l).length≤64 then some (eC s c x ws l) else none
 | [],l,h=>by
  show some l=if l.length≤64 then some l else none
  rw[if_pos h]
 | w ::ws,l,h=>by
  have e:eC s c x (w::ws) l=eC s c x ws (if l.contains (behind s c x w) then l else l++[behind s c x w]):=rfl
  rw[e]
  unfold add
  dsimp only
  by_cases g:l.contains (behind s c x w)=true
  ·rw[if_pos g,if_pos g]
   exact Jc s c x ws l h
  ·rw[if_neg g,if_neg g]
   by_cases g2:64≤l.length
   ·rw[if_pos g2]
    have:=FJ (fun w=>behind s c x w) ws (l++[behind s c x w])
    rw[List.length_append,List.length_singleton] at this
    rw[if_neg (by unfold eC;omega)]
   ·rw[if_neg g2]
    exact Jc s c x ws _ (by rw[List.length_append,List.length_singleton];omega)
noncomputable def Ct (bs:List Nat) (ms:List Nat):List Nat:=bs.foldl (fun l b=>if l.contains b then l else l++[b]) ms
theorem Gx {n:Nat} (hn:n≤32) {l:List State} {y:State} (hl:∀x∈l,lZ n x) (hy:lZ n y):(l.map maskOf).contains (maskOf y)=l.contains y:=by
 rw[Bool.eq_iff_iff,List.contains_iff_mem,List.contains_iff_mem,List.mem_map]
 constructor
 ·rintro⟨x,hx,e⟩
  rw[←J1 hn (hl x hx) hy e]
  exact hx
 ·intro h
  exact⟨y,h,rfl⟩
theorem Jd {s:Script} {c:Nat} {x:State} (hn:s.places.length≤32):∀(ws:List Nat) (l:List State),(∀y∈l,lZ s.places.length y) →
  Ct (ws.map fun w=>maskOf (behind s c x w)) (l.map maskOf)=(eC s c x ws l).map maskOf
 | [],l,_=>rfl
 | w ::ws,l,h=>by
  show Ct (ws.map _) (if (l.map maskOf).contains (maskOf (behind s c x w)) then l.map maskOf else l.map maskOf++[maskOf (behind s c x w)])=(eC s c x ws (if l.contains (behind s c x w) then l else l++[behind s c x w])).map maskOf
  rw[Gx hn h (show lZ s.places.length (behind s c x w) from sX s c _)]
  by_cases g:l.contains (behind s c x w)=true
  ·rw[if_pos g,if_pos g]
   exact Jd hn ws l h
  ·rw[if_neg g,if_neg g]
   have:=Jd (c:=c) (x:=x) hn ws (l++[behind s c x w]) (fun y hy=>by
    rcases List.mem_append.mp hy with hy | hy
    ·exact h y hy
    ·rw[List.mem_singleton] at hy
     subst hy
     exact sX s c _)
   rw[←this]
   congr 1
   rw[List.map_append]
   rfl
theorem Ht {s:Script} {c:Nat} {x:State}:∀(ws:List Nat) (l:List State),(∀y∈l,lZ s.places.length y)→∀y∈eC s c x ws l,lZ s.places.length y
 | [],_,h=>h
 | w ::ws,l,h=>by
  refine Ht ws (if l.contains (behind s c x w) then l else l++[behind s c x w]) fun y hy=>?_
  split at hy
  ·exact h y hy
  ·rcases List.mem_append.mp hy with hy | hy
   ·exact h y hy
   ·rw[List.mem_singleton] at hy
    subst hy
    exact sX s c _
theorem uw {s:Script} {c:Nat} {x:State}:∀(ws:List Nat) (l:List State),∃r,eC s c x ws l=l++r
 | [],l=>⟨[],by simp[eC]⟩
 | w ::ws,l=>by
  obtain⟨r,hr⟩:=uw (s:=s) (c:=c) (x:=x) ws (if l.contains (behind s c x w) then l else l++[behind s c x w])
  have e:eC s c x (w::ws) l=eC s c x ws (if l.contains (behind s c x w) then l else l++[behind s c x w]):=rfl
  rw[e,hr]
  split
  ·exact⟨r,rfl⟩
  ·exact⟨[behind s c x w]++r,by rw[List.append_assoc]⟩
theorem zo {s:Script} {c:Nat} {x:State}:∀(ws:List Nat) (l:List State),∀w∈ws,behind s c x w∈eC s c x ws l
 | [],_,w,h=>by cases h
 | v ::ws,l,w,h=>by
  have e:eC s c x (v::ws) l=eC s c x ws (if l.contains (behind s c x v) then l else l++[behind s c x v]):=rfl
  rw[e]
  rcases List.mem_cons.mp h with rfl | h
  ·obtain⟨r,hr⟩:=uw (s:=s) (c:=c) (x:=x) ws (if l.contains (behind s c x w) then l else l++[behind s c x w])
   rw[hr,List.mem_append]
   left
   by_cases g:l.contains (behind s c x w)=true
   ·rw[if_pos g]
    exact List.contains_iff_mem.mp g
   ·rw[if_neg g]
    simp
  ·exact zo ws _ w h
structure jY (s:Script) (c i:Nat) (l:List State):Prop where
 here :statesOf s c=find s c (65 - i) i l
 le :i≤l.length
 most :l.length≤64
 ok :∀y∈l,lZ s.places.length y
 part :∀y∈l,∀q∈y.places,takesPart s c q=true
 done :∀j,j<i→∀x,l[j]?=some x→∀w∈words s x,behind s c x w∈l
theorem Fq {s:Script} {c:Nat} {l:List (Option Nat)}:∀q∈(comesTo s c l).places,takesPart s c q=true:=by
 intro q hq
 unfold comesTo at hq
 dsimp only at hq
 rw[List.mem_filter,Bool.and_eq_true] at hq
 exact hq.2.1
theorem Kf (s:Script) (c:Nat):jY s c 0 [first s c]:=by
 refine⟨rfl,Nat.zero_le _,by simp,fun y hy=>?_,fun y hy=>?_,fun j hj=>by omega⟩
 ·rw[List.mem_singleton] at hy
  subst hy
  exact sX s c _
 ·rw[List.mem_singleton] at hy
  subst hy
  exact Fq
theorem CY {s:Script} {c:Nat} {x:State}:∀(ws:List Nat) (l:List State),(∀y∈l,∀q∈y.places,takesPart s c q=true)→∀y∈eC s c x ws l,∀q∈y.places,takesPart s c q=true
 | [],_,h=>h
 | w ::ws,l,h=>by
  refine CY ws (if l.contains (behind s c x w) then l else l++[behind s c x w]) fun y hy=>?_
  split at hy
  ·exact h y hy
  ·rcases List.mem_append.mp hy with hy | hy
   ·exact h y hy
   ·rw[List.mem_singleton] at hy
    subst hy
    exact Fq
section
variable {s:Script} {c i:Nat} {l:List State}
theorem jY.end_ (F:jY s c i l) (h:l.length≤i):statesOf s c=.states l:=by
 rw[F.here]
 have :i=l.length:=by have:=F.le;omega
 cases e:65 - i with
 | zero=>rfl
 | succ f=>
  unfold find
  rw[List.getElem?_eq_none_iff.mpr h]
theorem jY.unfold (F:jY s c i l) {x:State} (h:l[i]?=some x):statesOf s c=if fault s c x≠0 then .unclear (fault s c x) else if 16<(words s x).length then .many else match add s c x (words s x) l with
   | none=>.many
   | some m=>find s c (65 - (i+1)) (i+1) m:=by
 rw[F.here]
 have hi:=(List.getElem?_eq_some_iff.mp h).1
 have:=F.most
 have e:65 - i=(65 - (i+1))+1:=by omega
 rw[e]
 show find s c ((65 - (i+1))+1) i l=_
 conv=>lhs;unfold find
 rw[h]
 rfl
theorem jY.unclear (F:jY s c i l) {x:State} (h:l[i]?=some x) (g:fault s c x≠0):statesOf s c=.unclear (fault s c x):=by
 rw[F.unfold h,if_pos g]
theorem jY.QQ (F:jY s c i l) {x:State} (h:l[i]?=some x) (g:¬fault s c x≠0) (k:16<(words s x).length):statesOf s c=.many:=by
 rw[F.unfold h,if_neg g,if_pos k]
theorem jY.many (F:jY s c i l) {x:State} (h:l[i]?=some x) (g:¬fault s c x≠0) (k:¬16<(words s x).length) (m:64<(eC s c x (words s x) l).length):statesOf s c=.many:=by
 rw[F.unfold h,if_neg g,if_neg k,Jc s c x _ l F.most,if_neg (by omega)]
theorem jY.next (F:jY s c i l) {x:State} (h:l[i]?=some x) (g:¬fault s c x≠0) (k:¬16<(words s x).length) (m:(eC s c x (words s x) l).length≤64):jY s c (i+1) (eC s c x (words s x) l):=by
 have hi:=(List.getElem?_eq_some_iff.mp h).1
 obtain⟨r,hr⟩:=uw (s:=s) (c:=c) (x:=x) (words s x) l
 refine⟨?_,?_,m,Ht _ _ F.ok,CY _ _ F.part,fun j hj y hy w hw=>?_⟩
 ·rw[F.unfold h,if_neg g,if_neg k,Jc s c x _ l F.most,if_pos m]
 ·rw[hr,List.length_append]
  omega
 ·have hy':l[j]?=some y:=by
   rw[hr,List.getElem?_append_left (by omega)] at hy
   exact hy
  by_cases q:j=i
  ·subst q
   rw[h] at hy'
   cases hy'
   exact zo _ _ w hw
  ·have:=F.done j (by omega) y hy' w hw
   rw[hr]
   exact List.mem_append_left _ this
end
theorem HD :∀{a b:List Nat},a.Pairwise (·≤·)→b.Pairwise (·≤·)→a.Perm b→a=b
 | [],b,_,_,p=>(List.nil_perm.mp p).symm▸rfl
 | x ::a,[],_,_,p=>by
  have:=p.length_eq
  simp at this
 | x ::a,y::b,ha,hb,p=>by
  have hxy:x=y:=by
   have h1:x∈y::b:=p.subset (List.mem_cons_self ..)
   have h2:y∈x::a:=p.symm.subset (List.mem_cons_self ..)
   rcases List.mem_cons.mp h1 with h1 | h1
   ·exact h1
   ·rcases List.mem_cons.mp h2 with h2 | h2
    ·exact h2.symm
    ·have:=(List.pairwise_cons.mp ha).1 y h2
     have:=(List.pairwise_cons.mp hb).1 x h1
     omega
  subst hxy
  rw[HD (List.pairwise_cons.mp ha).2 (List.pairwise_cons.mp hb).2 (List.perm_cons x |>.mp p)]
theorem oT {a b:List Nat} (ha:a.Nodup) (hb:b.Nodup) (h:∀x,x∈a↔x∈b):a.Perm b:=(List.perm_ext_iff_of_nodup ha hb).mpr h
theorem x9 {a b:List Nat}:sameWords a b=true↔∀x,x∈a↔x∈b:=by
 unfold sameWords
 rw[Bool.and_eq_true,List.all_eq_true,List.all_eq_true]
 constructor
 ·rintro⟨h1,h2⟩ x
  exact⟨fun h=>List.contains_iff_mem.mp (h1 x h),fun h=>List.contains_iff_mem.mp (h2 x h)⟩
 ·intro h
  exact⟨fun x hx=>List.contains_iff_mem.mpr ((h x).mp hx),fun x hx=>List.contains_iff_mem.mpr ((h x).mpr hx)⟩
theorem Jy {a b a' b':List Nat} (na:a.Nodup) (nb:b.Nodup) (pa:a'.Perm a) (pb:b'.Perm b) (sa:a'.Pairwise (·≤·)) (sb:b'.Pairwise (·≤·)):(a'=b')↔sameWords a b=true:=by
 rw[x9]
 constructor
 ·intro e x
  rw[←pa.mem_iff,←pb.mem_iff,e]
 ·intro h
  exact HD sa sb (pa.trans ((oT na nb h).trans pb.symm))
noncomputable def oI (s:Script) (c:Nat) (x:State):Bool:=match x.places with
 | []=>true
 | q ::r=>if x.over then false else if (at_ s q).from_≠c then (q::r).all fun t=>(at_ s t).from_==(at_ s q).from_
  else ((q::r).all fun t=>(at_ s t).to_==(at_ s q).to_)&&(q::r).all fun t=>sameWords (wordsAt s t) (wordsAt s q)
theorem Bg {s:Script} {c q:Nat}:takesPart s c q=true↔(at_ s q).from_=c∨(at_ s q).to_=c:=by
 unfold takesPart
 rw[Bool.or_eq_true,beq_iff_eq,beq_iff_eq]
theorem Em (a:List Nat):sameWords a a=true:=x9.mpr fun _=>Iff.rfl
theorem Qp {s:Script} {c:Nat} {x:State} (hx:∀q∈x.places,takesPart s c q=true) (hd:∀q∈x.places,(at_ s q).from_≠(at_ s q).to_):oI s c x=true↔fault s c x=0:=by
 unfold oI fault
 cases h:x.places with
 | nil=>exact⟨fun _=>rfl,fun _=>rfl⟩
 | cons q r=>
  rw[h] at hx hd
  dsimp only
  cases ho:x.over
  ·rw[if_neg (show ¬false=true by decide),if_neg (show ¬false=true by decide)]
   have hq:=Bg.mp (hx q (List.mem_cons_self ..))
   have nq:=hd q (List.mem_cons_self ..)
   by_cases hf:(at_ s q).from_=c
   ·rw[if_neg (show ¬(at_ s q).from_≠c from fun z=>z hf)]
    have e0:((q::r).all fun t=>(at_ s t).to_==c)=false:=by
     rw[←Bool.not_eq_true,List.all_eq_true]
     intro z
     have:=z q (List.mem_cons_self ..)
     rw[beq_iff_eq] at this
     exact nq (hf.trans this.symm)
    by_cases ha:((q::r).all fun t=>(at_ s t).from_==c)=true
    ·rw[ha,e0,if_neg (by decide),if_pos hf]
     have e1:(((q::r).all fun t=>(at_ s t).to_==(at_ s q).to_)&&(q::r).all fun t=>sameWords (wordsAt s t) (wordsAt s q))=(r.all fun t=>(at_ s t).to_==(at_ s q).to_&&sameWords (wordsAt s t) (wordsAt s q)):=by
      rw[Bool.eq_iff_iff,Bool.and_eq_true,List.all_eq_true,List.all_eq_true,List.all_eq_true]
      constructor
      ·rintro⟨a,b⟩ t ht
       rw[Bool.and_eq_true]
       exact⟨a t (List.mem_cons_of_mem _ ht),b t (List.mem_cons_of_mem _ ht)⟩
      ·intro a
       refine⟨fun t ht=>?_,fun t ht=>?_⟩
       ·rcases List.mem_cons.mp ht with rfl | ht
        ·simp
        ·exact ((Bool.and_eq_true _ _).mp (a t ht)).1
       ·rcases List.mem_cons.mp ht with rfl | ht
        ·exact Em _
        ·exact ((Bool.and_eq_true _ _).mp (a t ht)).2
     rw[e1]
     split
     ·rename_i z
      exact⟨fun _=>rfl,fun _=>z⟩
     ·rename_i z
      exact⟨fun y=>absurd y z,fun y=>by omega⟩
    ·have ha':=ha
     rw[Bool.not_eq_true] at ha'
     rw[ha',e0,if_pos (by decide)]
     refine⟨fun y=>?_,fun y=>by omega⟩
     exfalso
     rw[Bool.and_eq_true] at y
     have z:=y.1
     apply ha
     rw[List.all_eq_true] at z ⊢
     intro t ht
     have z1:=z t ht
     rw[beq_iff_eq] at z1 ⊢
     rcases Bg.mp (hx t ht) with y | y
     ·exact y
     ·exact absurd (hf.trans (y.symm.trans z1)) nq
   ·rw[if_pos (show (at_ s q).from_≠c from hf)]
    have ht:(at_ s q).to_=c:=by
     rcases hq with y | y
     ·exact absurd y hf
     ·exact y
    have e0:((q::r).all fun t=>(at_ s t).from_==c)=false:=by
     rw[←Bool.not_eq_true,List.all_eq_true]
     intro z
     have:=z q (List.mem_cons_self ..)
     rw[beq_iff_eq] at this
     exact hf this
    rw[e0]
    by_cases ha:((q::r).all fun t=>(at_ s t).to_==c)=true
    ·rw[ha,if_neg (by decide),if_neg hf]
     have e1:((q::r).all fun t=>(at_ s t).from_==(at_ s q).from_)=(r.all fun t=>(at_ s t).from_==(at_ s q).from_):=by
      rw[List.all_cons,beq_self_eq_true,Bool.true_and]
     rw[e1]
     split
     ·rename_i z
      exact⟨fun _=>rfl,fun _=>z⟩
     ·rename_i z
      exact⟨fun y=>absurd y z,fun y=>by omega⟩
    ·have ha':=ha
     rw[Bool.not_eq_true] at ha'
     rw[ha',if_pos (by decide)]
     refine⟨fun z=>?_,fun y=>by omega⟩
     exfalso
     apply ha
     rw[List.all_eq_true] at z ⊢
     intro t htt
     have z1:=z t htt
     rw[beq_iff_eq] at z1 ⊢
     rcases Bg.mp (hx t htt) with y | y
     ·exact absurd (z1.symm.trans y) hf
     ·exact y
  ·rw[if_pos rfl,if_pos rfl]
   exact⟨fun y=>(by cases y),fun y=>(by omega)⟩
noncomputable def fD (s:Script) (x:State):List (Nat×Option Nat):=x.places.flatMap fun q=>(at_ s q).ways
theorem wY {s:Script} {x:State} {w:Nat}:w∈words s x↔w<256∧∃v∈fD s x,v.1=w:=by
 unfold words fD
 rw[List.mem_filter,List.mem_range,List.any_eq_true]
 constructor
 ·rintro⟨a,q,hq,h⟩
  unfold wordsAt at h
  obtain⟨v,hv,e⟩:=List.mem_map.mp (List.contains_iff_mem.mp h)
  exact⟨a,v,List.mem_flatMap.mpr ⟨q,hq,hv⟩,e⟩
 ·rintro⟨a,v,hv,e⟩
  obtain⟨q,hq,hv⟩:=List.mem_flatMap.mp hv
  exact⟨a,q,hq,List.contains_iff_mem.mpr (List.mem_map.mpr ⟨v,hv,e⟩)⟩
theorem u4 (p:Nat→Bool) (n:Nat):((List.range n).filter p).Pairwise (·<·):=List.Pairwise.filter _ List.pairwise_lt_range
theorem zq (s:Script) (x:State):(words s x).Pairwise (·<·):=u4 _ _
theorem vg (s:Script) (x:State):(words s x).Nodup:=(zq s x).imp fun h=>Nat.ne_of_lt h
theorem xS {s:Script} {x:State} {ks ks':List Nat} (hb:∀v∈fD s x,v.1<256) (nd:ks.Nodup) (hm:∀w,w∈ks↔∃v∈fD s x,v.1=w) (p:ks'.Perm ks) (so:ks'.Pairwise (·≤·)):ks'=words s x:=by
 refine HD so ((zq s x).imp fun h=>Nat.le_of_lt h) (p.trans (oT nd (vg s x) fun w=>?_))
 rw[hm,wY]
 constructor
 ·rintro⟨v,hv,e⟩
  exact⟨by rw[←e];exact hb v hv,v,hv,e⟩
 ·rintro⟨_,h⟩
  exact h
theorem Ho {s:Script} {c:Nat} {x:State} {w:Nat} (W:iS s) (hn:s.places.length≤32) (hx:∀q∈x.places,q<s.places.length) :
  maskOf (behind s c x w)=qw (((fD s x).filter fun v=>v.1==w).map fun v=>zb s c v.2):=by
 unfold behind fD
 rw[Kv W hn,List.map_map,←List.filter_flatMap]<;>try rfl
 intro y hy
 obtain⟨v,hv,rfl⟩:=List.mem_map.mp hy
 obtain⟨q,hq,hv⟩:=List.mem_flatMap.mp hv
 exact dJ.mpr fun t e=>W.next q (hx q hq) v (List.mem_filter.mp hv).1 t e
theorem qo {n:Nat} {x:State} (h:lZ n x):∀q∈x.places,q<n:=by
 obtain⟨f,hf⟩:=h
 intro q hq
 rw[hf,List.mem_filter,List.mem_range] at hq
 exact hq.1
end Kt
end
section
namespace Kt
open Kh317
structure FK (p n:Nat) (x:Kh292.Place):Prop where
 from_ :x.from_<p
 to_ :x.to_<p
 ne :x.from_≠x.to_
 most :x.ways.length≤4
 nd :(x.ways.map Prod.fst).Nodup
 word :∀w∈x.ways,w.1<n
 next :∀w∈x.ways,∀q,w.2=some q→q≤31
theorem FK.more {p n m:Nat} {x:Kh292.Place} (h:FK p n x) (e:n≤m):FK p m x:=⟨h.from_,h.to_,h.ne,h.most,h.nd,fun w hw=>Nat.lt_of_lt_of_le (h.word w hw) e,h.next⟩
structure Told (a:Abs):Prop where
 p2 :2≤a.p
 p8 :a.p≤8
 lo1 :1≤a.lo
 Gn :a.lo≤a.hi
 hi :a.hi≤4096
 e :a.e<a.lo
 QM :a.words.length≤64
 OC :∀t∈a.words,Kh316.okWord t=true
 NT :a.places.length≤32
 pl :∀x∈a.places,FK a.p a.words.length x
structure GI (a:Abs):Prop where
 ready :a.ready=false
 place :a.place=none
 units :a.units=List.replicate a.p (Kh316.range a.lo a.hi)
 lens :a.lens=[]
 down :a.down=false
 last :a.last=none
 now :a.now=0
 said :a.said=[]
theorem vE {p lo hi e:Nat}:Kh317.okRange p lo hi e=true↔(2≤p∧p≤8)∧1≤lo∧lo≤hi∧hi≤4096∧e<lo:=by
 unfold Kh317.okRange Kh316.okRange
 simp only[Bool.and_eq_true,decide_eq_true_iff]
 exact⟨fun ⟨a,b,c⟩=>⟨⟨a,b⟩,c⟩,fun ⟨⟨a,b⟩,c⟩=>⟨a,b,c⟩⟩
theorem Fy {p lo hi e:Nat} (h:Kh317.okRange p lo hi e=true):Told (begun p lo hi e)∧GI (begun p lo hi e):=by
 obtain⟨⟨h1,h2⟩,h3,h4,h5,h6⟩:=vE.mp h
 exact⟨⟨h1,h2,h3,h4,h5,h6,Nat.zero_le _,fun t ht=>(by cases ht),Nat.zero_le _,fun x hx=>(by cases hx)⟩,⟨rfl,rfl,rfl,rfl,rfl,rfl,rfl,rfl⟩⟩
theorem wA {s:Kh292.Script} {q:Nat} (h:q<s.places.length):Kh292.at_ s q∈s.places:=by
 rw[I0 h]
 exact List.getElem_mem h
noncomputable def gy (a:Abs):Bool:=a.places.isEmpty || a.places.any (fun x=>x.ways.isEmpty || x.ways.any (lost a.places.length))
theorem B5 (a:Abs):closed a=if gy a=true then -61 else match Kh292.check a.script with
 | none=>0
 | some (_,.unclear _)=>-71
 | some _=>-75:=rfl
theorem Jh {a:Abs} (h:gy a=false):a.places≠[]∧iS a.script:=by
 unfold gy at h
 rw[Bool.or_eq_false_iff,List.any_eq_false] at h
 obtain⟨h1,h2⟩:=h
 have key:∀q,q<a.script.places.length→(Kh292.at_ a.script q).ways≠[]∧∀w∈(Kh292.at_ a.script q).ways,lost a.places.length w=false:=fun q hq=>by
  have h3:=h2 _ (wA hq)
  rw[Bool.not_eq_true,Bool.or_eq_false_iff,List.any_eq_false] at h3
  exact⟨by intro e;rw[e] at h3;exact absurd h3.1 (by simp),fun w hw=>by simpa using h3.2 w hw⟩
 refine⟨by intro e;rw[e] at h1;exact absurd h1 (by simp),⟨fun q hq w hw t e=>?_,fun q hq=>(key q hq).1⟩⟩
 have h3:=(key q hq).2 w hw
 unfold lost at h3
 rw[e] at h3
 show t<a.places.length
 simpa using h3
theorem vR {α β:Type} (f:α→β) (p:α×β→Bool):∀(l:List α) (i:Nat),(∀j,j<i→∀x,l[j]?=some x→p (x,f x)=false)→∀x,l[i]?=some x→p (x,f x)=true→(l.map fun c=>(c,f c)).find? p=some (x,f x)
 | [],i,_,x,h,_=>by simp at h
 | a ::l,0,_,x,h,g=>by
  have e:a=x:=Option.some.inj h
  subst e
  rw[List.map_cons,List.find?_cons_of_pos g]
 | a ::l,i+1,hb,x,h,g=>by
  have h0:=hb 0 (by omega) a rfl
  rw[List.map_cons,List.find?_cons_of_neg (by rw[h0];decide)]
  exact vR f p l i (fun j hj y hy=>hb (j+1) (by omega) y hy) x h g
theorem Gw {α β:Type} (f:α→β) (p:α×β→Bool) (l:List α) (h:∀x∈l,p (x,f x)=false):(l.map fun c=>(c,f c)).find? p=none:=by
 rw[List.find?_eq_none]
 intro y hy
 obtain⟨x,hx,rfl⟩:=List.mem_map.mp hy
 rw[h x hx]
 decide
noncomputable def bad :Kh292.Found→Bool
 | .states _=>false
 | _=>true
theorem Kx (s:Kh292.Script):Kh292.check s=((List.range s.p).map fun c=>(c,Kh292.statesOf s c)).find? fun x=>bad x.2:=by
 unfold Kh292.check
 congr 1
theorem Kw {s:Kh292.Script} {i:Nat} (hi:i<s.p) (h:∀j,j<i→∃l,Kh292.statesOf s j=.states l) (g:bad (Kh292.statesOf s i)=true):Kh292.check s=some (i,Kh292.statesOf s i):=by
 rw[Kx]
 refine vR (fun c=>Kh292.statesOf s c) (fun x=>bad x.2) _ i (fun j hj x hx=>?_) i (by rw[List.getElem?_range hi]) g
 have hjp:j<s.p:=by omega
 rw[List.getElem?_range hjp] at hx
 have e:j=x:=Option.some.inj hx
 subst e
 obtain⟨l,hl⟩:=h j hj
 show bad (Kh292.statesOf s j)=false
 rw[hl]
 rfl
theorem L8 {s:Kh292.Script} (h:∀j,j<s.p→∃l,Kh292.statesOf s j=.states l):Kh292.check s=none:=by
 rw[Kx]
 refine Gw (fun c=>Kh292.statesOf s c) (fun x=>bad x.2) _ fun x hx=>?_
 obtain⟨l,hl⟩:=h x (List.mem_range.mp hx)
 show bad (Kh292.statesOf s x)=false
 rw[hl]
 rfl
structure QF (a:Abs) (x:Said) (v:U):Prop where
 place :x.place<a.places.length
 word :x.word<a.words.length
 tick :x.tick<2147483648
 units :x.units=v.list
 lo :(a.lo:Int)≤v.lo
 ne :v.lo≤v.hi
 hi :v.hi≤(a.hi:Int)
structure Sn (a:Abs) (v:U):Prop where
 lo :(a.lo:Int)≤v.lo
 ne :v.lo≤v.hi
 hi :v.hi≤(a.hi:Int)
structure Cu (a:Abs):Prop where
 most :a.lens.length≤160
 len :∀l∈a.lens,l≤1000000
 Kk :a.down=true→a.lens.length % 2=0
 odd :a.down=false→a.lens≠[]→a.lens.length % 2=1
 none_ :a.last=none→a.lens=[]∧a.down=false
 zM :∀t,a.last=some t→(a.down=true∨a.lens≠[])∧t≤a.now
 now :a.now<2147483648
structure Opened (a:Abs) (us ss:List U):Prop where
 ready :a.ready=true
 ne :a.places≠[]
 whole :iS a.script
 parts :∀j,j<a.p→∃l,Kh292.statesOf a.script j=.states l
 place :∀q,a.place=some q→q<a.places.length
 units :a.units=us.map U.list
 Hw :us.length=a.p
 Jf :∀v∈us,Sn a v
 came :Cu a
 yE :a.said.length=ss.length
 Ue :a.said.length≤64
 TM :∀(i:Nat) (x:Said) (v:U),a.said[i]?=some x→ss[i]?=some v→QF a x v
theorem Rp (n:Nat):most n≤1000000:=by
 unfold most
 split<;>omega
theorem U2 {a:Abs} (h:Cu a):Came a.lens a.down (match a.last with | some t=>most (a.now - t) | none=>0):=⟨h.Kk,h.odd⟩
theorem Ak {a:Abs} {us:List U} {c:Nat} {v:U} (h:a.units=us.map U.list) (g:us[c]?=some v):a.mine c=v.list:=by
 unfold Abs.mine
 rw[h,List.getD_eq_getElem?_getD,List.getElem?_map,g]
 rfl
theorem Um {a:Abs} {v:U} (h:Sn a v):(v.list.length:Int)=v.hi - v.lo+1:=by
 have h1:=h.lo
 have h2:=h.ne
 unfold U.list
 rw[tF]
 omega
theorem G4 {a:Abs} {v:U} (h:Sn a v):((v.list.headD 0:Nat):Int)=v.lo:=by
 have h1:=h.lo
 have h2:=h.ne
 unfold U.list
 rw[pH,show v.hi.toNat+1 - v.lo.toNat=(v.hi.toNat - v.lo.toNat)+1 by omega,List.range'_succ]
 show ((v.lo.toNat:Nat):Int)=v.lo
 omega
theorem NS {a:Abs} {v:U} (h:Sn a v):((v.list.getLastD 0:Nat):Int)=v.hi:=by
 have h1:=h.lo
 have h2:=h.ne
 unfold U.list
 rw[pH,show v.hi.toNat+1 - v.lo.toNat=(v.hi.toNat - v.lo.toNat)+1 by omega,List.range'_concat]
 rw[List.getLastD_concat]
 omega
end Kt
end
section
set_option maxHeartbeats 2000000
namespace Kp
open PySem PySem.Spec PyProof.Rows L2
open PySem.W (Codec)
noncomputable def top (i:Nat):Stmt:=PySem.Challenge.pw_keytalk_s01_answers.main.body.getD i (.Pass ⟨0,0,0,0⟩)
noncomputable abbrev iW :Stmt:=inClass (top 20) 0
noncomputable abbrev tw :Stmt:=top 21
noncomputable abbrev Eo :Stmt:=top 22
noncomputable abbrev rb :Stmt:=top 23
noncomputable abbrev fi :Stmt:=top 24
noncomputable abbrev fj :Stmt:=top 25
noncomputable abbrev mn :Stmt:=top 26
noncomputable abbrev qu :Stmt:=top 27
noncomputable abbrev tq :Stmt:=top 28
noncomputable abbrev mm :Stmt:=top 29
noncomputable abbrev oh :Stmt:=top 30
noncomputable abbrev ml :Stmt:=top 31
noncomputable abbrev En :Stmt:=top 32
noncomputable abbrev By :Stmt:=top 33
noncomputable abbrev pF :Stmt:=top 34
noncomputable abbrev rf :Stmt:=top 36
noncomputable abbrev tE :Stmt:=top 37
noncomputable abbrev oo :Stmt:=top 38
noncomputable abbrev rg :Stmt:=top 39
noncomputable abbrev rj :Stmt:=top 40
noncomputable abbrev pG :Stmt:=top 41
noncomputable abbrev jj :Stmt:=top 42
noncomputable abbrev mw :Stmt:=top 43
noncomputable abbrev om :Stmt:=top 44
noncomputable abbrev rh :Stmt:=top 45
noncomputable abbrev gO :Stmt:=inClass (top 53) 0
noncomputable abbrev dj :Stmt:=inClass (top 53) 1
noncomputable abbrev di :Stmt:=inClass (top 53) 2
noncomputable abbrev tD :Stmt:=top 54
noncomputable abbrev lu :Stmt:=top 55
noncomputable abbrev iH :Stmt:=top 56
noncomputable abbrev yO :Stmt:=top 57
noncomputable abbrev vz :Stmt:=top 58
noncomputable abbrev yN :Stmt:=top 59
noncomputable abbrev mj :Stmt:=top 60
noncomputable abbrev pE :Stmt:=top 61
noncomputable abbrev wK :Stmt:=top 66
noncomputable abbrev iY :Stmt:=inClass (top 67) 0
noncomputable abbrev gT :Stmt:=inClass (top 67) 1
noncomputable abbrev gi :Stmt:=inClass (top 67) 2
noncomputable abbrev el :Stmt:=inClass (top 67) 3
noncomputable abbrev og :Stmt:=top 68
noncomputable abbrev Bz :Stmt:=top 69
noncomputable abbrev kC :Stmt:=inClass (top 76) 0
noncomputable abbrev gR :Stmt:=inClass (top 77) 0
noncomputable abbrev oj :Stmt:=top 78
noncomputable abbrev gg :Stmt:=inClass (top 79) 0
noncomputable abbrev cF :Stmt:=inClass (top 79) 1
noncomputable abbrev b9 :Stmt:=inClass (top 79) 2
noncomputable abbrev cb :Stmt:=inClass (top 79) 3
noncomputable abbrev bu :Stmt:=inClass (top 79) 4
noncomputable abbrev cf :Stmt:=inClass (top 79) 5
noncomputable abbrev gP :Stmt:=inClass (top 83) 0
noncomputable abbrev gh :Stmt:=inClass (top 84) 0
noncomputable abbrev gL :Stmt:=inClass (top 85) 0
noncomputable abbrev gf :Stmt:=inClass (top 85) 1
noncomputable abbrev bZ :Stmt:=inClass (top 85) 2
noncomputable abbrev cD :Stmt:=inClass (top 85) 3
noncomputable abbrev ej :Stmt:=inClass (top 85) 4
noncomputable abbrev iU :Stmt:=inClass (top 85) 5
noncomputable abbrev mx :Stmt:=inClass (top 85) 6
noncomputable abbrev b7 :Stmt:=inClass (top 85) 7
noncomputable abbrev da :Stmt:=inClass (top 85) 8
noncomputable abbrev dG :Stmt:=inClass (top 85) 9
noncomputable abbrev cE :Stmt:=inClass (top 85) 10
noncomputable abbrev kD :Stmt:=inClass (top 85) 11
noncomputable abbrev my :Stmt:=inClass (top 85) 12
noncomputable abbrev gQ :Stmt:=inClass (top 85) 13
noncomputable abbrev iV :Stmt:=inClass (top 85) 14
noncomputable abbrev iX :Stmt:=inClass (top 107) 0
noncomputable abbrev gS :Stmt:=inClass (top 107) 1
noncomputable abbrev dq :Stmt:=inClass (top 107) 2
noncomputable abbrev mq :Stmt:=top 108
noncomputable abbrev mr :Stmt:=top 109
noncomputable abbrev mv :Stmt:=top 110
noncomputable abbrev lx :Stmt:=top 111
noncomputable abbrev Ep :Stmt:=top 112
noncomputable abbrev q0 :Stmt:=top 113
noncomputable abbrev BA :Stmt:=top 114
set_option genInjectivity false in
set_option genSizeOf false in
structure Ad where
 fo :Addr
 bg :Addr
 bp :Addr
 eh :Addr
 bh :Addr
 au :Addr
 bY :Addr
 bW :Addr
 aj :Addr
 bo :Addr
 j8 :Addr
 jg :Addr
 hZ :Addr
 kO :Addr
 kY :FuncData
 jA :Addr
 jJ :FuncData
 sy :Addr
 sH :FuncData
 ie :Addr
 iy :FuncData
 dr :Addr
 dy :FuncData
 dt :Addr
 dz :FuncData
 eO :Addr
 eZ :FuncData
 kJ :Addr
 kS :FuncData
 mM :Addr
 mT :FuncData
 mP :Addr
 mW :FuncData
 fH :Addr
 fP :FuncData
 eN :Addr
 eY :FuncData
 sx :Addr
 sG :FuncData
 pd :Addr
 pz :FuncData
 gC :Addr
 gG :FuncData
 ig :Addr
 iz :FuncData
 jC :Addr
 jL :FuncData
 fK :Addr
 fT :FuncData
 ij :Addr
 iA :FuncData
 il :Addr
 iC :FuncData
 gD :Addr
 gH :FuncData
 eT :Addr
 fe :FuncData
 eS :Addr
 fb :FuncData
 fJ :Addr
 fS :FuncData
 ik :Addr
 iB :FuncData
 jD :Addr
 jM :FuncData
 eV :Addr
 fg :FuncData
 eU :Addr
 ff :FuncData
 jB :Addr
 jK :FuncData
 dS :Addr
 dY :FuncData
 cj :Addr
 ck :FuncData
 mO :Addr
 mV :FuncData
 kK :Addr
 kT :FuncData
 mN :Addr
 mU :FuncData
 eM :Addr
 eX :FuncData
 gB :Addr
 gF :FuncData
 pf :Addr
 pA :FuncData
 kQ :Addr
 lg :FuncData
 jI :Addr
 jR :FuncData
 iu :Addr
 iG :FuncData
 fN :Addr
 fW :FuncData
 fF :Addr
 fO :FuncData
 ph :Addr
 pB :FuncData
 mR :Addr
 mY :FuncData
 jG :Addr
 jP :FuncData
 fI :Addr
 fQ :FuncData
 iq :Addr
 iE :FuncData
 dw :Addr
 dC :FuncData
 cX :Addr
 cZ :FuncData
 dW :Addr
 ed :FuncData
 bS :Addr
 bT :FuncData
 dX :Addr
 ef :FuncData
 jE :Addr
 jN :FuncData
 ir :Addr
 iF :FuncData
 kL :Addr
 kU :FuncData
 ip :Addr
 iD :FuncData
 cJ :Addr
 cK :FuncData
 du :Addr
 dA :FuncData
 fL :Addr
 fU :FuncData
 kM :Addr
 kW :FuncData
 pj :Addr
 pC :FuncData
 cW :Addr
 cY :FuncData
 fM :Addr
 fV :FuncData
 gE :Addr
 gI :FuncData
 dv :Addr
 dB :FuncData
 mS :Addr
 mZ :FuncData
 pk :Addr
 pD :FuncData
 jF :Addr
 jO :FuncData
 kN :Addr
 kX :FuncData
 kP :Addr
 kZ :FuncData
 jH :Addr
 jQ :FuncData
 eW :Addr
 fh :FuncData
 eP :Addr
 e7 :FuncData
 eQ :Addr
 e8 :FuncData
 eR :Addr
 e9 :FuncData
 dU :Addr
 dZ :FuncData
 sA :Addr
 sI :FuncData
 ic :Addr
 iw :FuncData
 mQ :Addr
 mX :FuncData
noncomputable def KU (K:PySem.W.Frag) (a:Addr) (xs:List V):Prop:=∃(o:Obj) (its:Array Value) (n:Nat),K.lookup a=some o∧o.cls=.type "tuple"∧o.data=.seq its n∧its.size≤sizeLine∧Vals xs its.toList
structure Txt (K:PySem.W.Frag) (mg:Str→Option Value) (A:Ad):Prop where
 DO :∃t,mg "AGAIN"=some (.int 8 t)
 RB :∃t,mg "AT"=some (.int 7 t)
 IE :∃t,mg "BACK"=some (.int 9 t)
 DN :∃t,mg "BEGIN"=some (.int 0 t)
 E7 :∃t,mg "BUSY"=some (.int (-16) t)
 nJ :mg "DIGIT_SIGNS"=some (.ref A.j8)
 j5 :KU K A.j8 [.str "-----",.str ".----",.str "..---",.str "...--",.str "....-",.str ".....",.str "-....",.str "--...",.str "---..",.str "----."]
 ID :∃t,mg "DOWN"=some (.int 5 t)
 yj :∃t,mg "END"=some (.int 255 t)
 jz :∃t,mg "FEWEST_PARTIES"=some (.int 2 t)
 t4 :∃t,mg "FULL"=some (.int (-28) t)
 hE :∃t,mg "GREATEST_UNIT"=some (.int 4096 t)
 xi :∃t,mg "LENGTHS"=some (.int 16 t)
 xh :∃t,mg "LETTERS"=some (.int 17 t)
 lT :∃t,mg "LETTER_GAP"=some (.int 3 t)
 lS :mg "LETTER_SIGNS"=some (.ref A.jg)
 jc :KU K A.jg [.str ".-",.str "-...",.str "-.-.",.str "-..",.str ".",.str "..-.",.str "--.",.str "....",.str "..",.str ".---",.str "-.-",.str ".-..",.str "--",.str "-.",.str "---",.str ".--.",.str "--.-",.str ".-.",.str "...",.str "-",.str "..-",.str "...-",.str ".--",.str "-..-",.str "-.--",.str "--.."]
 AF :∃t,mg "LIKELY"=some (.int 12 t)
 xg :∃t,mg "LISTENS"=some (.int 2 t)
 IC :∃t,mg "LONG"=some (.int 3 t)
 xf :∃t,mg "LONGEST"=some (.int 1000000 t)
 IB :∃t,mg "MANY"=some (.int 14 t)
 MK :∃t,mg "MAY"=some (.int 11 t)
 lR :∃t,mg "MOST_LENGTHS"=some (.int 160 t)
 lQ :∃t,mg "MOST_LETTERS"=some (.int 12 t)
 lP :∃t,mg "MOST_PARTIES"=some (.int 8 t)
 nI :∃t,mg "MOST_STATES"=some (.int 64 t)
 o4 :∃t,mg "MOST_WORDS"=some (.int 16 t)
 g9 :∃t,mg "NOTHING_THERE"=some (.int (-11) t)
 kl :∃t,mg "NOTHING_TO_DO"=some (.int 0 t)
 qK :∃t,mg "NOT_CLEAR"=some (.int (-71) t)
 tZ :∃t,mg "NOT_OPEN"=some (.int (-6) t)
 qJ :∃t,mg "NOT_WHOLE"=some (.int (-61) t)
 qI :∃t,mg "NOT_YOURS"=some (.int (-1) t)
 mJ :∃t,mg "NO_SUCH"=some (.int (-2) t)
 IA :∃t,mg "OPEN"=some (.int 4 t)
 vP :∃t,mg "OVER"=some (.int 4294967296 t)
 DM :∃t,mg "PLACE"=some (.int 2 t)
 g8 :∃t,mg "PLACES_IN_ALL"=some (.int 32 t)
 Iz :∃t,mg "SAID"=some (.int 13 t)
 xc :∃t,mg "SEVERAL"=some (.int (-33) t)
 AE :∃t,mg "SHORT"=some (.int 1 t)
 AD :∃t,mg "SPEAKS"=some (.int 1 t)
 AB :∃t,mg "STATES"=some (.int 18 t)
 kj :∃t,mg "THINGS_IN_ALL"=some (.int 64 t)
 lO :∃t,mg "TICKS_IN_ALL"=some (.int 2147483648 t)
 pV :∃t,mg "TOO_MANY"=some (.int (-75) t)
 Iy :∃t,mg "TURN"=some (.int 10 t)
 DL :∃t,mg "TWICE"=some (.int (-17) t)
 DK :∃t,mg "UNITS"=some (.int 15 t)
 RA :∃t,mg "UP"=some (.int 6 t)
 MJ :∃t,mg "WAY"=some (.int 3 t)
 iR :∃t,mg "WAYS_OF_A_PLACE"=some (.int 4 t)
 ki :mg "WHOLE_NUMBERS"=some (.ref A.hZ)
 g7 :KU K A.hZ [.int 4,.int 0,.int 2,.int 3,.int 0,.int 2,.int 2,.int 1,.int 0,.int 0,.int 0,.int 0,.int 0,.int 1,.int 0,.int 1,.int 3,.int 1,.int 1,.int 2]
 E6 :∃t,mg "WORD"=some (.int 1 t)
 lN :∃t,mg "WORDS_IN_ALL"=some (.int 64 t)
 fA :∃t,mg "WRONG"=some (.int (-22) t)
 A7 :mg "all"=none
 gM :mg "enumerate"=none
 cw :mg "len"=none
 Hq :mg "max"=none
 KO :mg "min"=none
 A5 :mg "ord"=none
 A4 :mg "range"=none
 sT :mg "sorted"=none
 KJ :mg "sum"=none
 MY :mg "zip"=none
 fo :Hv K A.fo
 ET :mg "Part"=some (.ref A.fo)
 qz :Mk K A.fo A.kO
 gA :aQ K A.fo "refusal"
 jb :aQ K A.fo "rows"
 bg :Hv K A.bg
 Au :mg "Units"=some (.ref A.bg)
 j4 :Mk K A.bg A.jD
 cp :aQ K A.bg "least"
 bQ :aQ K A.bg "greatest"
 bp :Hv K A.bp
 EU :mg "Came"=some (.ref A.bp)
 nt :Mk K A.bp A.kQ
 bO :aQ K A.bp "lengths"
 cq :aQ K A.bp "pressed"
 eE :aQ K A.bp "turned"
 eh :Hv K A.eh
 Si :mg "Way"=some (.ref A.eh)
 EN :Mk K A.eh A.mR
 cR :aQ K A.eh "word"
 cA :aQ K A.eh "behind"
 bh :Hv K A.bh
 MB :mg "Place"=some (.ref A.bh)
 Aj :Mk K A.bh A.jG
 bq :aQ K A.bh "speaker"
 cT :aQ K A.bh "hearer"
 cB :aQ K A.bh "ways"
 au :Hv K A.au
 J3 :mg "Script"=some (.ref A.au)
 wR :Mk K A.au A.iq
 aO :aQ K A.au "parties"
 ja :aQ K A.au "units"
 gz :aQ K A.au "slack"
 br :aQ K A.au "words"
 bV :aQ K A.au "patterns"
 aR :aQ K A.au "places"
 bY :Hv K A.bY
 MA :mg "Thing"=some (.ref A.bY)
 Ai :Mk K A.bY A.jE
 gk :aQ K A.bY "place"
 jq :aQ K A.bY "word"
 lC :aQ K A.bY "tick"
 iZ :aQ K A.bY "former"
 bW :Hv K A.bW
 J4 :mg "Choice"=some (.ref A.bW)
 wV :Mk K A.bW A.ir
 eA :aQ K A.bW "way"
 dH :aQ K A.bW "units"
 aj :Hv K A.aj
 PU :mg "Talk"=some (.ref A.aj)
 DE :Mk K A.aj A.kL
 aG :aQ K A.aj "script"
 bD :aQ K A.aj "here"
 cS :aQ K A.aj "units"
 bK :aQ K A.aj "came"
 fk :aQ K A.aj "now"
 cI :aQ K A.aj "said"
 gU :aQ K A.aj "parts"
 bo :Hv K A.bo
 PV :mg "Desk"=some (.ref A.bo)
 DF :Mk K A.bo A.kP
 bI :aQ K A.bo "script"
 bU :aQ K A.bo "talk"
 Fj :gq K "__init__" "Part.__init__" iW A.kO A.kY
 qd :Binds K A.kY ["self","refusal","rows"] []
 qL :gq K "takes_part" "takes_part" tw A.jA A.jJ
 wm :Binds K A.jJ ["place","party"] []
 lF :mg "takes_part"=some (.ref A.jA)
 IJ :gq K "bit_of" "bit_of" Eo A.sy A.sH
 MW :Binds K A.sH ["behind"] []
 Aq :mg "bit_of"=some (.ref A.sy)
 t8 :gq K "bits_behind" "bits_behind" rb A.ie A.iy
 AY :Binds K A.iy ["place"] []
 nA :mg "bits_behind"=some (.ref A.ie)
 lU :gq K "gone_to_from_all" "gone_to_from_all" fi A.dr A.dy
 qS :Binds K A.dy ["places","party"] []
 gW :mg "gone_to_from_all"=some (.ref A.dr)
 lV :gq K "come_to_from_all" "come_to_from_all" fj A.dt A.dz
 qT :Binds K A.dz ["places","party"] []
 gX :mg "come_to_from_all"=some (.ref A.dt)
 oB :gq K "come_to_behind" "come_to_behind" mn A.eO A.eZ
 uK :Binds K A.eZ ["way","comes"] []
 jt :mg "come_to_behind"=some (.ref A.eO)
 pY :gq K "places_in" "places_in" qu A.kJ A.kS
 uk :Binds K A.kS ["state","places"] []
 kI :mg "places_in"=some (.ref A.kJ)
 xj :gq K "words_at" "words_at" tq A.mM A.mT
 Cg :Binds K A.mT ["place"] []
 pR :mg "words_at"=some (.ref A.mM)
 B1 :gq K "is_clear" "is_clear" mm A.mP A.mW
 Hj :Binds K A.mW ["state","places","party"] []
 tS :mg "is_clear"=some (.ref A.mP)
 pX :gq K "states_behind" "states_behind" oh A.fH A.fP
 wo :Binds K A.fP ["state","places","comes"] []
 ke :mg "states_behind"=some (.ref A.fH)
 oA :gq K "kind_and_other" "kind_and_other" ml A.eN A.eY
 uJ :Binds K A.eY ["state","places","party"] []
 js :mg "kind_and_other"=some (.ref A.eN)
 IH :gq K "row_of" "row_of" En A.sx A.sG
 MU :Binds K A.sG ["state","places","party","behind","states"] []
 Ap :mg "row_of"=some (.ref A.sx)
 E8 :gq K "part_of" "part_of" By A.pd A.pz
 Kz :Binds K A.pz ["places","party"] []
 wZ :mg "part_of"=some (.ref A.pd)
 rE :gq K "parts_of_all" "parts_of_all" pF A.gC A.gG
 yp :Binds K A.gG ["places","parties"] []
 lH :mg "parts_of_all"=some (.ref A.gC)
 t9 :gq K "answer_turn" "answer_turn" rf A.ig A.iz
 AZ :Binds K A.iz ["talk"] []
 nB :mg "answer_turn"=some (.ref A.ig)
 vS :gq K "answer_may" "answer_may" tE A.jC A.jL
 CS :Binds K A.jL ["talk"] []
 oW :mg "answer_may"=some (.ref A.jC)
 p5 :gq K "answer_likely" "answer_likely" oo A.fK A.fT
 wy :Binds K A.fT ["talk"] []
 kh :mg "answer_likely"=some (.ref A.fK)
 ub :gq K "answer_said" "answer_said" rg A.ij A.iA
 A0 :Binds K A.iA ["talk","number"] []
 nD :mg "answer_said"=some (.ref A.ij)
 uf :gq K "answer_many" "answer_many" rj A.il A.iC
 A2 :Binds K A.iC ["talk"] []
 nF :mg "answer_many"=some (.ref A.il)
 rF :gq K "answer_units" "answer_units" pG A.gD A.gH
 yq :Binds K A.gH ["talk","party"] []
 lJ :mg "answer_units"=some (.ref A.gD)
 oH :gq K "answer_lengths" "answer_lengths" jj A.eT A.fe
 uQ :Binds K A.fe ["talk","party","word","room"] []
 jy :mg "answer_lengths"=some (.ref A.eT)
 oG :gq K "answer_letters" "answer_letters" mw A.eS A.fb
 uP :Binds K A.fb ["script","word"] []
 jx :mg "answer_letters"=some (.ref A.eS)
 p0 :gq K "answer_states" "answer_states" om A.fJ A.fS
 wu :Binds K A.fS ["talk","party"] []
 kg :mg "answer_states"=some (.ref A.fJ)
 ue :gq K "answer_part" "answer_part" rh A.ik A.iB
 A1 :Binds K A.iB ["talk","party","number"] []
 nE :mg "answer_part"=some (.ref A.ik)
 CL :gq K "__init__" "Units.__init__" gO A.jD A.jM
 nX :Binds K A.jM ["self","least","greatest"] []
 uG :gq K "any_left" "Units.any_left" dj A.eV A.fg
 uR :Binds K A.fg ["self"] []
 qA :Meth K A.bg "any_left" A.eV
 uF :gq K "how_many" "Units.how_many" di A.eU A.ff
 oK :Binds K A.ff ["self"] []
 lD :Meth K A.bg "how_many" A.eU
 qM :gq K "divided_up" "divided_up" tD A.jB A.jK
 wq :Binds K A.jK ["number","by"] []
 lI :mg "divided_up"=some (.ref A.jB)
 mK :gq K "units_of_length" "units_of_length" lu A.dS A.dY
 sR :Binds K A.dY ["units","length","times","slack"] []
 iP :mg "units_of_length"=some (.ref A.dS)
 je :gq K "units_not_outlasted" "units_not_outlasted" iH A.cj A.ck
 nW :Binds K A.ck ["units","lasted","times","slack"] []
 fw :mg "units_not_outlasted"=some (.ref A.cj)
 xm :gq K "is_digit" "is_digit" yO A.mO A.mV
 Cj :Binds K A.mV ["byte"] []
 pS :mg "is_digit"=some (.ref A.mO)
 za :gq K "is_letter" "is_letter" vz A.kK A.kT
 Fx :Binds K A.kT ["byte"] []
 qC :mg "is_letter"=some (.ref A.kK)
 BY :gq K "signs_of" "signs_of" yN A.mN A.mU
 Hg :Binds K A.mU ["byte"] []
 tR :mg "signs_of"=some (.ref A.mN)
 oz :gq K "sent_of_letter" "sent_of_letter" mj A.eM A.eX
 uI :Binds K A.eX ["byte"] []
 jr :mg "sent_of_letter"=some (.ref A.eM)
 rD :gq K "sent_of_word" "sent_of_word" pE A.gB A.gF
 yo :Binds K A.gF ["letters"] []
 lG :mg "sent_of_word"=some (.ref A.gB)
 Fd :gq K "is_word" "is_word" wK A.pf A.pA
 KG :Binds K A.pA ["letters"] []
 w8 :mg "is_word"=some (.ref A.pf)
 Fm :gq K "__init__" "Came.__init__" iY A.kQ A.lg
 qe :Binds K A.lg ["self"] []
 CQ :gq K "begun" "Came.begun" gT A.jI A.jR
 qX :Binds K A.jR ["self"] []
 ny :Meth K A.bp "begun" A.jI
 AL :gq K "lasted" "Came.lasted" gi A.iu A.iG
 o5 :Binds K A.iG ["self","tick"] []
 lE :Meth K A.bp "lasted" A.iu
 vV :gq K "turn_key" "Came.turn_key" el A.fN A.fW
 wz :Binds K A.fW ["self","tick"] []
 sg :Meth K A.bp "turn_key" A.fN
 pW :gq K "units_of_word" "units_of_word" og A.fF A.fO
 wk :Binds K A.fO ["pattern","came","tick","units","slack"] []
 kd :mg "units_of_word"=some (.ref A.fF)
 Fe :gq K "is_over" "is_over" Bz A.ph A.pB
 KH :Binds K A.pB ["pattern","came","tick","units","slack"] []
 w9 :mg "is_over"=some (.ref A.ph)
 G9 :gq K "__init__" "Way.__init__" kC A.mR A.mY
 Hr :Binds K A.mY ["self","word","behind"] []
 CO :gq K "__init__" "Place.__init__" gR A.jG A.jP
 CV :Binds K A.jP ["self","speaker","hearer"] []
 pZ :gq K "begin_refusal" "begin_refusal" oj A.fI A.fQ
 wt :Binds K A.fQ ["parties","lo","hi","slack"] []
 kf :mg "begin_refusal"=some (.ref A.fI)
 AJ :gq K "__init__" "Script.__init__" gg A.iq A.iE
 A9 :Binds K A.iE ["self","parties","lo","hi","slack"] []
 qP :gq K "tell_word" "Script.tell_word" cF A.dw A.dC
 qW :Binds K A.dC ["self","letters"] []
 oP :Meth K A.au "tell_word" A.dw
 p7 :gq K "tell_place" "Script.tell_place" b9 A.cX A.cZ
 qc :Binds K A.cZ ["self","speaker","hearer"] []
 nR :Meth K A.au "tell_place" A.cX
 sC :gq K "tell_way" "Script.tell_way" cb A.dW A.ed
 sU :Binds K A.ed ["self","q","word","behind"] []
 pP :Meth K A.au "tell_way" A.dW
 kR :gq K "leads_somewhere" "Script.leads_somewhere" bu A.bS A.bT
 lh :Binds K A.bT ["self","place"] []
 jT :Meth K A.au "leads_somewhere" A.bS
 sD :gq K "is_whole" "Script.is_whole" cf A.dX A.ef
 sV :Binds K A.ef ["self"] []
 pQ :Meth K A.au "is_whole" A.dX
 CM :gq K "__init__" "Thing.__init__" gP A.jE A.jN
 CT :Binds K A.jN ["self","place","word","tick","former"] []
 AK :gq K "__init__" "Choice.__init__" gh A.ir A.iF
 Ba :Binds K A.iF ["self","way","units"] []
 Fg :gq K "__init__" "Talk.__init__" gL A.kL A.kU
 FD :Binds K A.kU ["self","script","parts"] []
 AI :gq K "speaks" "Talk.speaks" gf A.ip A.iD
 A8 :Binds K A.iD ["self","party"] []
 vH :Meth K A.aj "speaks" A.ip
 oQ :gq K "is_tick_ahead" "Talk.is_tick_ahead" bZ A.cJ A.cK
 jX :Binds K A.cK ["self","tick"] []
 iJ :Meth K A.aj "is_tick_ahead" A.cJ
 qN :gq K "key_refusal" "Talk.key_refusal" cD A.du A.dA
 qU :Binds K A.dA ["self","party","tick","pressed"] []
 oN :Meth K A.aj "key_refusal" A.du
 vT :gq K "turn_key" "Talk.turn_key" ej A.fL A.fU
 qa :Binds K A.fU ["self","party","tick","pressed"] []
 mE :Meth K A.aj "turn_key" A.fL
 Fh :gq K "down" "Talk.down" iU A.kM A.kW
 FE :Binds K A.kW ["self","party","tick"] []
 Al :Meth K A.aj "down" A.kM
 Ki :gq K "up" "Talk.up" mx A.pj A.pC
 KQ :Binds K A.pC ["self","party","tick"] []
 EO :Meth K A.aj "up" A.pj
 p6 :gq K "units_of_way" "Talk.units_of_way" b7 A.cW A.cY
 p9 :Binds K A.cY ["self","way","tick"] []
 nQ :Meth K A.aj "units_of_way" A.cW
 vU :gq K "all_ways" "Talk.all_ways" da A.fM A.fV
 qb :Binds K A.fV ["self","tick"] []
 mF :Meth K A.aj "all_ways" A.fM
 yk :gq K "choices" "Talk.choices" dG A.gE A.gI
 rK :Binds K A.gI ["self","tick"] []
 ou :Meth K A.aj "choices" A.gE
 qO :gq K "choice_said" "Talk.choice_said" cE A.dv A.dB
 qV :Binds K A.dB ["self","tick"] []
 oO :Meth K A.aj "choice_said" A.dv
 Ha :gq K "say" "Talk.say" kD A.mS A.mZ
 Hs :Binds K A.mZ ["self","choice"] []
 CH :Meth K A.aj "say" A.mS
 Kj :gq K "at" "Talk.at" my A.pk A.pD
 KR :Binds K A.pD ["self","tick"] []
 ER :Meth K A.aj "at" A.pk
 CN :gq K "again" "Talk.again" gQ A.jF A.jO
 CU :Binds K A.jO ["self"] []
 yh :Meth K A.aj "again" A.jF
 Fi :gq K "back" "Talk.back" iV A.kN A.kX
 FF :Binds K A.kX ["self"] []
 Am :Meth K A.aj "back" A.kN
 Fl :gq K "__init__" "Desk.__init__" iX A.kP A.kZ
 FG :Binds K A.kZ ["self"] []
 CP :gq K "begin" "Desk.begin" gS A.jH A.jQ
 CW :Binds K A.jQ ["self","parties","lo","hi","slack"] []
 yi :Meth K A.bo "begin" A.jH
 uH :gq K "open_talk" "Desk.open_talk" dq A.eW A.fh
 uS :Binds K A.fh ["self"] []
 qB :Meth K A.bo "open_talk" A.eW
 oC :gq K "answer_telling" "answer_telling" mq A.eP A.e7
 uL :Binds K A.e7 ["desk","call","numbers"] []
 ju :mg "answer_telling"=some (.ref A.eP)
 oE :gq K "answer_talking" "answer_talking" mr A.eQ A.e8
 uN :Binds K A.e8 ["talk","call","numbers"] []
 jv :mg "answer_talking"=some (.ref A.eQ)
 oF :gq K "answer_of_talk" "answer_of_talk" mv A.eR A.e9
 uO :Binds K A.e9 ["talk","call","numbers"] []
 jw :mg "answer_of_talk"=some (.ref A.eR)
 mL :gq K "answer_of_party" "answer_of_party" lx A.dU A.dZ
 sS :Binds K A.dZ ["talk","call","numbers"] []
 iQ :mg "answer_of_party"=some (.ref A.dU)
 IK :gq K "answer" "answer" Ep A.sA A.sI
 MX :Binds K A.sI ["desk","call","numbers"] []
 As :mg "answer"=some (.ref A.sA)
 t5 :gq K "end_of_call" "end_of_call" q0 A.ic A.iw
 AX :Binds K A.iw ["calls","start"] []
 nz :mg "end_of_call"=some (.ref A.ic)
 Kh :gq K "answers" "answers" BA A.mQ A.mX
 Qy :Binds K A.mX ["calls"] []
 xa :mg "answers"=some (.ref A.mQ)
theorem HJ :az ["self","refusal","rows"] ["self","refusal","rows"] (ai iW):=⟨rfl,rfl,rfl,by decide +kernel,rfl,by decide +kernel,by decide +kernel⟩
theorem FY :az ["place","party"] ["place","party"] (ai tw):=⟨rfl,rfl,rfl,by decide +kernel,rfl,by decide +kernel,by decide +kernel⟩
theorem Np :az ["behind"] ["behind"] (ai Eo):=⟨rfl,rfl,rfl,by decide +kernel,rfl,by decide +kernel,by decide +kernel⟩
theorem lq :az ["place","bits","way"] ["place"] (ai rb):=⟨rfl,rfl,rfl,by decide +kernel,rfl,by decide +kernel,by decide +kernel⟩
theorem bE :az ["places","party","gone","q","between","place","bits"] ["places","party"] (ai fi):=⟨rfl,rfl,rfl,by decide +kernel,rfl,by decide +kernel,by decide +kernel⟩
theorem ba :az ["places","party","gone","own","stuck","comes","q","bits","place"] ["places","party"] (ai fj):=⟨rfl,rfl,rfl,by decide +kernel,rfl,by decide +kernel,by decide +kernel⟩
theorem zR :az ["way","comes"] ["way","comes"] (ai mn):=⟨rfl,rfl,rfl,by decide +kernel,rfl,by decide +kernel,by decide +kernel⟩
theorem oS :az ["state","places","q","place"] ["state","places"] (ai qu):=⟨rfl,rfl,rfl,by decide +kernel,rfl,by decide +kernel,by decide +kernel⟩
theorem vt :az ["place","way"] ["place"] (ai tq):=⟨rfl,rfl,rfl,by decide +kernel,rfl,by decide +kernel,by decide +kernel⟩
theorem eD :az ["state","places","party","inside","first","same_hearer","place"] ["state","places","party"] (ai mm):=⟨rfl,rfl,rfl,by decide +kernel,rfl,by decide +kernel,by decide +kernel⟩
theorem jh :az ["state","places","comes","behind","place","way"] ["state","places","comes"] (ai oh):=⟨rfl,rfl,rfl,by decide +kernel,rfl,by decide +kernel,by decide +kernel⟩
theorem qr :az ["state","places","party","inside"] ["state","places","party"] (ai ml):=⟨rfl,rfl,rfl,by decide +kernel,rfl,by decide +kernel,by decide +kernel⟩
theorem Bu :az ["state","places","party","behind","states","row","word"] ["state","places","party","behind","states"] (ai En):=⟨rfl,rfl,rfl,by decide +kernel,rfl,by decide +kernel,by decide +kernel⟩
theorem ku :az ["places","party","comes","states","rows","state","behind","word"] ["places","party"] (ai By):=⟨rfl,rfl,rfl,by decide +kernel,rfl,by decide +kernel,by decide +kernel⟩
theorem oa :az ["places","parties","parts","party"] ["places","parties"] (ai pF):=⟨rfl,rfl,rfl,by decide +kernel,rfl,by decide +kernel,by decide +kernel⟩
theorem vv :az ["talk","place"] ["talk"] (ai rf):=⟨rfl,rfl,rfl,by decide +kernel,rfl,by decide +kernel,by decide +kernel⟩
theorem ni :az ["talk","choices","answer","choice"] ["talk"] (ai tE):=⟨rfl,rfl,rfl,by decide +kernel,rfl,by decide +kernel,by decide +kernel⟩
theorem rQ :az ["talk","choices"] ["talk"] (ai oo):=⟨rfl,rfl,rfl,by decide +kernel,rfl,by decide +kernel,by decide +kernel⟩
theorem vw :az ["talk","number","thing"] ["talk","number"] (ai rg):=⟨rfl,rfl,rfl,by decide +kernel,rfl,by decide +kernel,by decide +kernel⟩
theorem Eg :az ["talk"] ["talk"] (ai rj):=⟨rfl,rfl,rfl,by decide +kernel,rfl,by decide +kernel,by decide +kernel⟩
theorem uA :az ["talk","party","units"] ["talk","party"] (ai pG):=⟨rfl,rfl,rfl,by decide +kernel,rfl,by decide +kernel,by decide +kernel⟩
theorem fY :az ["talk","party","word","room","pattern","unit","times"] ["talk","party","word","room"] (ai jj):=⟨rfl,rfl,rfl,by decide +kernel,rfl,by decide +kernel,by decide +kernel⟩
theorem qt :az ["script","word","letters"] ["script","word"] (ai mw):=⟨rfl,rfl,rfl,by decide +kernel,rfl,by decide +kernel,by decide +kernel⟩
theorem Bw :az ["talk","party"] ["talk","party"] (ai om):=⟨rfl,rfl,rfl,by decide +kernel,rfl,by decide +kernel,by decide +kernel⟩
theorem vx :az ["talk","party","number","rows"] ["talk","party","number"] (ai rh):=⟨rfl,rfl,rfl,by decide +kernel,rfl,by decide +kernel,by decide +kernel⟩
theorem Ga :az ["self","least","greatest"] ["self","least","greatest"] (ai gO):=⟨rfl,rfl,rfl,by decide +kernel,rfl,by decide +kernel,by decide +kernel⟩
theorem zW :az ["self"] ["self"] (ai dj):=⟨rfl,rfl,rfl,by decide +kernel,rfl,by decide +kernel,by decide +kernel⟩
theorem zV :az ["self"] ["self"] (ai di):=⟨rfl,rfl,rfl,by decide +kernel,rfl,by decide +kernel,by decide +kernel⟩
theorem FZ :az ["number","by"] ["number","by"] (ai tD):=⟨rfl,rfl,rfl,by decide +kernel,rfl,by decide +kernel,by decide +kernel⟩
theorem kr :az ["units","length","times","slack","least","greatest"] ["units","length","times","slack"] (ai lu):=⟨rfl,rfl,rfl,by decide +kernel,rfl,by decide +kernel,by decide +kernel⟩
theorem tj :az ["units","lasted","times","slack"] ["units","lasted","times","slack"] (ai iH):=⟨rfl,rfl,rfl,by decide +kernel,rfl,by decide +kernel,by decide +kernel⟩
theorem JC :az ["byte"] ["byte"] (ai yO):=⟨rfl,rfl,rfl,by decide +kernel,rfl,by decide +kernel,by decide +kernel⟩
theorem HH :az ["byte"] ["byte"] (ai vz):=⟨rfl,rfl,rfl,by decide +kernel,rfl,by decide +kernel,by decide +kernel⟩
theorem JB :az ["byte"] ["byte"] (ai yN):=⟨rfl,rfl,rfl,by decide +kernel,rfl,by decide +kernel,by decide +kernel⟩
theorem lp :az ["byte","sent","sign"] ["byte"] (ai mj):=⟨rfl,rfl,rfl,by decide +kernel,rfl,by decide +kernel,by decide +kernel⟩
theorem nZ :az ["letters","sent","byte"] ["letters"] (ai pE):=⟨rfl,rfl,rfl,by decide +kernel,rfl,by decide +kernel,by decide +kernel⟩
theorem yL :az ["letters","byte"] ["letters"] (ai wK):=⟨rfl,rfl,rfl,by decide +kernel,rfl,by decide +kernel,by decide +kernel⟩
theorem HL :az ["self"] ["self"] (ai iY):=⟨rfl,rfl,rfl,by decide +kernel,rfl,by decide +kernel,by decide +kernel⟩
theorem Ge :az ["self"] ["self"] (ai gT):=⟨rfl,rfl,rfl,by decide +kernel,rfl,by decide +kernel,by decide +kernel⟩
theorem El :az ["self","tick"] ["self","tick"] (ai gi):=⟨rfl,rfl,rfl,by decide +kernel,rfl,by decide +kernel,by decide +kernel⟩
theorem Bx :az ["self","tick"] ["self","tick"] (ai el):=⟨rfl,rfl,rfl,by decide +kernel,rfl,by decide +kernel,by decide +kernel⟩
theorem eL :az ["pattern","came","tick","units","slack","over","length","times"] ["pattern","came","tick","units","slack"] (ai og):=⟨rfl,rfl,rfl,by decide +kernel,rfl,by decide +kernel,by decide +kernel⟩
theorem Lo :az ["pattern","came","tick","units","slack"] ["pattern","came","tick","units","slack"] (ai Bz):=⟨rfl,rfl,rfl,by decide +kernel,rfl,by decide +kernel,by decide +kernel⟩
theorem JD :az ["self","word","behind"] ["self","word","behind"] (ai kC):=⟨rfl,rfl,rfl,by decide +kernel,rfl,by decide +kernel,by decide +kernel⟩
theorem Gd :az ["self","speaker","hearer"] ["self","speaker","hearer"] (ai gR):=⟨rfl,rfl,rfl,by decide +kernel,rfl,by decide +kernel,by decide +kernel⟩
theorem Bv :az ["parties","lo","hi","slack"] ["parties","lo","hi","slack"] (ai oj):=⟨rfl,rfl,rfl,by decide +kernel,rfl,by decide +kernel,by decide +kernel⟩
theorem Ej :az ["self","parties","lo","hi","slack"] ["self","parties","lo","hi","slack"] (ai gg):=⟨rfl,rfl,rfl,by decide +kernel,rfl,by decide +kernel,by decide +kernel⟩
theorem xC :az ["self","letters"] ["self","letters"] (ai cF):=⟨rfl,rfl,rfl,by decide +kernel,rfl,by decide +kernel,by decide +kernel⟩
theorem vy :az ["self","speaker","hearer"] ["self","speaker","hearer"] (ai b9):=⟨rfl,rfl,rfl,by decide +kernel,rfl,by decide +kernel,by decide +kernel⟩
theorem gN :az ["self","q","word","behind","ways","way"] ["self","q","word","behind"] (ai cb):=⟨rfl,rfl,rfl,by decide +kernel,rfl,by decide +kernel,by decide +kernel⟩
theorem fE :az ["self","place","way"] ["self","place"] (ai bu):=⟨rfl,rfl,rfl,by decide +kernel,rfl,by decide +kernel,by decide +kernel⟩
theorem kz :az ["self","place"] ["self"] (ai cf):=⟨rfl,rfl,rfl,by decide +kernel,rfl,by decide +kernel,by decide +kernel⟩
theorem Gb :az ["self","place","word","tick","former"] ["self","place","word","tick","former"] (ai gP):=⟨rfl,rfl,rfl,by decide +kernel,rfl,by decide +kernel,by decide +kernel⟩
theorem Ek :az ["self","way","units"] ["self","way","units"] (ai gh):=⟨rfl,rfl,rfl,by decide +kernel,rfl,by decide +kernel,by decide +kernel⟩
theorem tm :az ["self","script","parts","party"] ["self","script","parts"] (ai gL):=⟨rfl,rfl,rfl,by decide +kernel,rfl,by decide +kernel,by decide +kernel⟩
theorem Eh :az ["self","party"] ["self","party"] (ai gf):=⟨rfl,rfl,rfl,by decide +kernel,rfl,by decide +kernel,by decide +kernel⟩
theorem u1 :az ["self","tick"] ["self","tick"] (ai bZ):=⟨rfl,rfl,rfl,by decide +kernel,rfl,by decide +kernel,by decide +kernel⟩
theorem xB :az ["self","party","tick","pressed"] ["self","party","tick","pressed"] (ai cD):=⟨rfl,rfl,rfl,by decide +kernel,rfl,by decide +kernel,by decide +kernel⟩
theorem rR :az ["self","party","tick","pressed","refusal"] ["self","party","tick","pressed"] (ai ej):=⟨rfl,rfl,rfl,by decide +kernel,rfl,by decide +kernel,by decide +kernel⟩
theorem HI :az ["self","party","tick"] ["self","party","tick"] (ai iU):=⟨rfl,rfl,rfl,by decide +kernel,rfl,by decide +kernel,by decide +kernel⟩
theorem Lp :az ["self","party","tick"] ["self","party","tick"] (ai mx):=⟨rfl,rfl,rfl,by decide +kernel,rfl,by decide +kernel,by decide +kernel⟩
theorem iT :az ["self","way","tick","pattern","mine"] ["self","way","tick"] (ai b7):=⟨rfl,rfl,rfl,by decide +kernel,rfl,by decide +kernel,by decide +kernel⟩
theorem ji :az ["self","tick","ways","way"] ["self","tick"] (ai da):=⟨rfl,rfl,rfl,by decide +kernel,rfl,by decide +kernel,by decide +kernel⟩
theorem oe :az ["self","tick","choice"] ["self","tick"] (ai dG):=⟨rfl,rfl,rfl,by decide +kernel,rfl,by decide +kernel,by decide +kernel⟩
theorem gu :az ["self","tick","choices","choice","pattern"] ["self","tick"] (ai cE):=⟨rfl,rfl,rfl,by decide +kernel,rfl,by decide +kernel,by decide +kernel⟩
theorem CA :az ["self","choice","speaker"] ["self","choice"] (ai kD):=⟨rfl,rfl,rfl,by decide +kernel,rfl,by decide +kernel,by decide +kernel⟩
theorem Ei :az ["self","tick","choice"] ["self","tick"] (ai my):=⟨rfl,rfl,rfl,by decide +kernel,rfl,by decide +kernel,by decide +kernel⟩
theorem xY :az ["self","there_were"] ["self"] (ai gQ):=⟨rfl,rfl,rfl,by decide +kernel,rfl,by decide +kernel,by decide +kernel⟩
theorem zX :az ["self","thing"] ["self"] (ai iV):=⟨rfl,rfl,rfl,by decide +kernel,rfl,by decide +kernel,by decide +kernel⟩
theorem HK :az ["self"] ["self"] (ai iX):=⟨rfl,rfl,rfl,by decide +kernel,rfl,by decide +kernel,by decide +kernel⟩
theorem xZ :az ["self","parties","lo","hi","slack","refusal"] ["self","parties","lo","hi","slack"] (ai gS):=⟨rfl,rfl,rfl,by decide +kernel,rfl,by decide +kernel,by decide +kernel⟩
theorem lr :az ["self","parts","refusal"] ["self"] (ai dq):=⟨rfl,rfl,rfl,by decide +kernel,rfl,by decide +kernel,by decide +kernel⟩
theorem zS :az ["desk","call","numbers"] ["desk","call","numbers"] (ai mq):=⟨rfl,rfl,rfl,by decide +kernel,rfl,by decide +kernel,by decide +kernel⟩
theorem zT :az ["talk","call","numbers"] ["talk","call","numbers"] (ai mr):=⟨rfl,rfl,rfl,by decide +kernel,rfl,by decide +kernel,by decide +kernel⟩
theorem zU :az ["talk","call","numbers"] ["talk","call","numbers"] (ai mv):=⟨rfl,rfl,rfl,by decide +kernel,rfl,by decide +kernel,by decide +kernel⟩
theorem yM :az ["talk","call","numbers"] ["talk","call","numbers"] (ai lx):=⟨rfl,rfl,rfl,by decide +kernel,rfl,by decide +kernel,by decide +kernel⟩
theorem Nq :az ["desk","call","numbers"] ["desk","call","numbers"] (ai Ep):=⟨rfl,rfl,rfl,by decide +kernel,rfl,by decide +kernel,by decide +kernel⟩
theorem Ef :az ["calls","start"] ["calls","start"] (ai q0):=⟨rfl,rfl,rfl,by decide +kernel,rfl,by decide +kernel,by decide +kernel⟩
theorem ky :az ["calls","desk","answered","start","end","numbers"] ["calls"] (ai BA):=⟨rfl,rfl,rfl,by decide +kernel,rfl,by decide +kernel,by decide +kernel⟩
section
variable {K:PySem.W.Frag} {h:Heap} {mg:Str→Option Value}
theorem cC (X:K.In h) (G:h.Ns mainGlobals mg) {x:Str} {st:Stmt} {ps:List Str} {f:Addr} {od an:Option Addr} {sl:Array (Option Value)} {oc kV dc pm cd ct:Value}
  (a:PySem.W.nsIn K mainGlobals x=some (some (.ref f))) (l:K.lookup f=some ⟨oc,od,.func (PySem.W.fnOf x x (bc st) (aZ st) (ai st) .none kV dc pm an cd ct),sl⟩) (c:PySem.W.codeIn K cd x=true) (k:PySem.W.keepIn K (.ref f)=true)
  (hb:∀(kV doc pm:Value) (an:Option Addr) (cdv ct:Value) (us:List Value),us.length=ps.length→bindArgs (PySem.W.fnOf x x (bc st) (aZ st) (ai st) .none kV doc pm an cdv ct) ⟨us,[]⟩=pure (ps.zip us)) :
  ∃f fd,gq K x x st f fd∧Binds K fd ps []∧mg x=some (.ref f):=by
 have F:=bM (st:=st) l c k
 exact⟨_,_,F,F.binds hb,PySem.W.mg_of X G a⟩
@[elab_as_elim] theorem ln1 {p:List Value→Prop} {us:List Value} (h:us.length=1) (f:∀a,p [a]):p us:=match us,h with | [a],_=>f a
@[elab_as_elim] theorem ln2 {p:List Value→Prop} {us:List Value} (h:us.length=2) (f:∀a b,p [a,b]):p us:=match us,h with | [a,b],_=>f a b
@[elab_as_elim] theorem ln3 {p:List Value→Prop} {us:List Value} (h:us.length=3) (f:∀a b c,p [a,b,c]):p us:=match us,h with | [a,b,c],_=>f a b c
@[elab_as_elim] theorem ln4 {p:List Value→Prop} {us:List Value} (h:us.length=4) (f:∀a b c d,p [a,b,c,d]):p us:=match us,h with | [a,b,c,d],_=>f a b c d
@[elab_as_elim] theorem ln5 {p:List Value→Prop} {us:List Value} (h:us.length=5) (f:∀a b c d e,p [a,b,c,d,e]):p us:=match us,h with | [a,b,c,d,e],_=>f a b c d e
structure vf (K:PySem.W.Frag) (C:Addr) (x q:Str) (st:Stmt) (ps:List Str) (f:Addr) (fd:FuncData):Prop where
 fn :gq K x q st f fd
 bd :Binds K fd ps []
 me :Meth K C x f
theorem VH {C:Addr} {x q:Str} {st:Stmt} {ps:List Str} {f:Addr} {od an:Option Addr} {sl:Array (Option Value)} {oc kV dc pm cd ct:Value}
  (a:PySem.W.findIn K (.ref C) x=some (some (.ref f))) (i:PySem.W.isFn K (.ref f)=true) (l:K.lookup f=some ⟨oc,od,.func (PySem.W.fnOf x q (bc st) (aZ st) (ai st) .none kV dc pm an cd ct),sl⟩) (c:PySem.W.codeIn K cd q=true) (k:PySem.W.keepIn K (.ref f)=true)
  (hb:∀(kV doc pm:Value) (an:Option Addr) (cdv ct:Value) (us:List Value),us.length=ps.length→bindArgs (PySem.W.fnOf x q (bc st) (aZ st) (ai st) .none kV doc pm an cdv ct) ⟨us,[]⟩=pure (ps.zip us)) :
  ∃f fd,vf K C x q st ps f fd:=by
 have F:=bM (st:=st) l c k
 exact⟨_,_,F,F.binds hb,⟨a,i,k⟩⟩
structure QK (K:PySem.W.Frag) (mg:Str→Option Value) (x:Str) (C:Addr):Prop where
 cl :Hv K C
 m :mg x=some (.ref C)
 QP :PySem.W.makesIn K C=true
 kc :PySem.W.keepIn K (.ref C)=true
theorem ym (X:K.In h) (G:h.Ns mainGlobals mg) {x:Str} {C:Addr} (a:PySem.W.nsIn K mainGlobals x=some (some (.ref C))) (pg:PySem.W.plainGet K C Str.empty=true) (hd:PySem.W.hasDictIn K C=true) (po:PySem.W.plainOver K C=true)
  (sa:PySem.W.findIn K (.ref C) "__setattr__"=some (some (.builtin "object.__setattr__"))) (mk:PySem.W.makesIn K C=true) (kc:PySem.W.keepIn K (.ref C)=true):QK K mg x C:=⟨⟨pg,hd,po,sa⟩,PySem.W.mg_of X G a,mk,kc⟩
theorem bN (X:K.In h) (G:h.Ns mainGlobals mg) {x:Str} {i:Int} {t:Tok} (a:PySem.W.nsIn K mainGlobals x=some (some (.int i t))):∃t,mg x=some (.int i t):=⟨t,PySem.W.mg_of X G a⟩
theorem Qb (X:K.In h) (G:h.Ns mainGlobals mg) {x:Str} {a:Addr} {xs:List V} {d:Option Addr} {its:Array Value} {n:Nat} {sl:Array (Option Value)} (e:PySem.W.nsIn K mainGlobals x=some (some (.ref a)))
  (l:K.lookup a=some ⟨.type "tuple",d,.seq its n,sl⟩) (z:its.size≤sizeLine) (v:Vals xs its.toList):∃a,mg x=some (.ref a)∧KU K a xs:=⟨a,PySem.W.mg_of X G e,_,its,n,l,rfl,rfl,z,v⟩
end
theorem RH {K:PySem.W.Frag} {h:Heap} {mg:Str→Option Value} (X:K.In h) (G:h.Ns mainGlobals mg) {C:Addr}
  {f0:Addr} {od0 an0:Option Addr} {sl0:Array (Option Value)} {oc0 kV0 dc0 pm0 cd0 ct0:Value}
  (aC:PySem.W.nsIn K mainGlobals "Part"=some (some (.ref C))) (pg:PySem.W.plainGet K C Str.empty=true) (hd:PySem.W.hasDictIn K C=true) (po:PySem.W.plainOver K C=true) (sa:PySem.W.findIn K (.ref C) "__setattr__"=some (some (.builtin "object.__setattr__"))) (mk:PySem.W.makesIn K C=true) (kc:PySem.W.keepIn K (.ref C)=true) (a0:PySem.W.findIn K (.ref C) "__init__"=some (some (.ref f0))) (i0:PySem.W.isFn K (.ref f0)=true) (l0:K.lookup f0=some ⟨oc0,od0,.func (PySem.W.fnOf "__init__" "Part.__init__" (bc iW) (aZ iW) (ai iW) .none kV0 dc0 pm0 an0 cd0 ct0),sl0⟩) (c0:PySem.W.codeIn K cd0 "Part.__init__"=true) (k0:PySem.W.keepIn K (.ref f0)=true) (n0:PySem.W.findIn K (.ref C) "refusal"=some none) (n1:PySem.W.findIn K (.ref C) "rows"=some none) :
  ∃C,∃f0 d0,QK K mg "Part" C∧vf K C "__init__" "Part.__init__" iW ["self","refusal","rows"] f0 d0∧aQ K C "refusal"∧aQ K C "rows":=by
 have F0:=bM (st:=iW) l0 c0 k0
 exact⟨C,_,_,ym X G aC pg hd po sa mk kc,⟨F0,F0.binds (fun _ _ _ _ _ _ us hl=>ln3 hl fun _ _ _=>rfl),⟨a0,i0,k0⟩⟩,n0,n1⟩
theorem Qq {K:PySem.W.Frag} {h:Heap} {mg:Str→Option Value} (X:K.In h) (G:h.Ns mainGlobals mg) {C:Addr}
  {f0:Addr} {od0 an0:Option Addr} {sl0:Array (Option Value)} {oc0 kV0 dc0 pm0 cd0 ct0:Value}
  {f1:Addr} {od1 an1:Option Addr} {sl1:Array (Option Value)} {oc1 kV1 dc1 pm1 cd1 ct1:Value}
  {f2:Addr} {od2 an2:Option Addr} {sl2:Array (Option Value)} {oc2 kV2 dc2 pm2 cd2 ct2:Value}
  (aC:PySem.W.nsIn K mainGlobals "Units"=some (some (.ref C))) (pg:PySem.W.plainGet K C Str.empty=true) (hd:PySem.W.hasDictIn K C=true) (po:PySem.W.plainOver K C=true) (sa:PySem.W.findIn K (.ref C) "__setattr__"=some (some (.builtin "object.__setattr__"))) (mk:PySem.W.makesIn K C=true) (kc:PySem.W.keepIn K (.ref C)=true) (a0:PySem.W.findIn K (.ref C) "__init__"=some (some (.ref f0))) (i0:PySem.W.isFn K (.ref f0)=true) (l0:K.lookup f0=some ⟨oc0,od0,.func (PySem.W.fnOf "__init__" "Units.__init__" (bc gO) (aZ gO) (ai gO) .none kV0 dc0 pm0 an0 cd0 ct0),sl0⟩) (c0:PySem.W.codeIn K cd0 "Units.__init__"=true) (k0:PySem.W.keepIn K (.ref f0)=true) (a1:PySem.W.findIn K (.ref C) "any_left"=some (some (.ref f1))) (i1:PySem.W.isFn K (.ref f1)=true) (l1:K.lookup f1=some ⟨oc1,od1,.func (PySem.W.fnOf "any_left" "Units.any_left" (bc dj) (aZ dj) (ai dj) .none kV1 dc1 pm1 an1 cd1 ct1),sl1⟩) (c1:PySem.W.codeIn K cd1 "Units.any_left"=true) (k1:PySem.W.keepIn K (.ref f1)=true) (a2:PySem.W.findIn K (.ref C) "how_many"=some (some (.ref f2))) (i2:PySem.W.isFn K (.ref f2)=true) (l2:K.lookup f2=some ⟨oc2,od2,.func (PySem.W.fnOf "how_many" "Units.how_many" (bc di) (aZ di) (ai di) .none kV2 dc2 pm2 an2 cd2 ct2),sl2⟩) (c2:PySem.W.codeIn K cd2 "Units.how_many"=true) (k2:PySem.W.keepIn K (.ref f2)=true) (n0:PySem.W.findIn K (.ref C) "least"=some none) (n1:PySem.W.findIn K (.ref C) "greatest"=some none) :
  ∃C,∃f0 d0,∃f1 d1,∃f2 d2,QK K mg "Units" C∧vf K C "__init__" "Units.__init__" gO ["self","least","greatest"] f0 d0∧vf K C "any_left" "Units.any_left" dj ["self"] f1 d1∧vf K C "how_many" "Units.how_many" di ["self"] f2 d2∧aQ K C "least"∧aQ K C "greatest":=by
 have F0:=bM (st:=gO) l0 c0 k0
 have F1:=bM (st:=dj) l1 c1 k1
 have F2:=bM (st:=di) l2 c2 k2
 exact⟨C,_,_,_,_,_,_,ym X G aC pg hd po sa mk kc,⟨F0,F0.binds (fun _ _ _ _ _ _ us hl=>ln3 hl fun _ _ _=>rfl),⟨a0,i0,k0⟩⟩,⟨F1,F1.binds (fun _ _ _ _ _ _ us hl=>ln1 hl fun _=>rfl),⟨a1,i1,k1⟩⟩,⟨F2,F2.binds (fun _ _ _ _ _ _ us hl=>ln1 hl fun _=>rfl),⟨a2,i2,k2⟩⟩,n0,n1⟩
theorem RJ {K:PySem.W.Frag} {h:Heap} {mg:Str→Option Value} (X:K.In h) (G:h.Ns mainGlobals mg) {C:Addr}
  {f0:Addr} {od0 an0:Option Addr} {sl0:Array (Option Value)} {oc0 kV0 dc0 pm0 cd0 ct0:Value}
  {f1:Addr} {od1 an1:Option Addr} {sl1:Array (Option Value)} {oc1 kV1 dc1 pm1 cd1 ct1:Value}
  {f2:Addr} {od2 an2:Option Addr} {sl2:Array (Option Value)} {oc2 kV2 dc2 pm2 cd2 ct2:Value}
  {f3:Addr} {od3 an3:Option Addr} {sl3:Array (Option Value)} {oc3 kV3 dc3 pm3 cd3 ct3:Value}
  (aC:PySem.W.nsIn K mainGlobals "Came"=some (some (.ref C))) (pg:PySem.W.plainGet K C Str.empty=true) (hd:PySem.W.hasDictIn K C=true) (po:PySem.W.plainOver K C=true) (sa:PySem.W.findIn K (.ref C) "__setattr__"=some (some (.builtin "object.__setattr__"))) (mk:PySem.W.makesIn K C=true) (kc:PySem.W.keepIn K (.ref C)=true) (a0:PySem.W.findIn K (.ref C) "__init__"=some (some (.ref f0))) (i0:PySem.W.isFn K (.ref f0)=true) (l0:K.lookup f0=some ⟨oc0,od0,.func (PySem.W.fnOf "__init__" "Came.__init__" (bc iY) (aZ iY) (ai iY) .none kV0 dc0 pm0 an0 cd0 ct0),sl0⟩) (c0:PySem.W.codeIn K cd0 "Came.__init__"=true) (k0:PySem.W.keepIn K (.ref f0)=true) (a1:PySem.W.findIn K (.ref C) "begun"=some (some (.ref f1))) (i1:PySem.W.isFn K (.ref f1)=true) (l1:K.lookup f1=some ⟨oc1,od1,.func (PySem.W.fnOf "begun" "Came.begun" (bc gT) (aZ gT) (ai gT) .none kV1 dc1 pm1 an1 cd1 ct1),sl1⟩) (c1:PySem.W.codeIn K cd1 "Came.begun"=true) (k1:PySem.W.keepIn K (.ref f1)=true) (a2:PySem.W.findIn K (.ref C) "lasted"=some (some (.ref f2))) (i2:PySem.W.isFn K (.ref f2)=true) (l2:K.lookup f2=some ⟨oc2,od2,.func (PySem.W.fnOf "lasted" "Came.lasted" (bc gi) (aZ gi) (ai gi) .none kV2 dc2 pm2 an2 cd2 ct2),sl2⟩) (c2:PySem.W.codeIn K cd2 "Came.lasted"=true) (k2:PySem.W.keepIn K (.ref f2)=true) (a3:PySem.W.findIn K (.ref C) "turn_key"=some (some (.ref f3))) (i3:PySem.W.isFn K (.ref f3)=true) (l3:K.lookup f3=some ⟨oc3,od3,.func (PySem.W.fnOf "turn_key" "Came.turn_key" (bc el) (aZ el) (ai el) .none kV3 dc3 pm3 an3 cd3 ct3),sl3⟩) (c3:PySem.W.codeIn K cd3 "Came.turn_key"=true) (k3:PySem.W.keepIn K (.ref f3)=true) (n0:PySem.W.findIn K (.ref C) "lengths"=some none) (n1:PySem.W.findIn K (.ref C) "pressed"=some none) (n2:PySem.W.findIn K (.ref C) "turned"=some none) :
  ∃C,∃f0 d0,∃f1 d1,∃f2 d2,∃f3 d3,QK K mg "Came" C∧vf K C "__init__" "Came.__init__" iY ["self"] f0 d0∧vf K C "begun" "Came.begun" gT ["self"] f1 d1∧vf K C "lasted" "Came.lasted" gi ["self","tick"] f2 d2∧vf K C "turn_key" "Came.turn_key" el ["self","tick"] f3 d3∧aQ K C "lengths"∧aQ K C "pressed"∧aQ K C "turned":=by
 have F0:=bM (st:=iY) l0 c0 k0
 have F1:=bM (st:=gT) l1 c1 k1
 have F2:=bM (st:=gi) l2 c2 k2
 have F3:=bM (st:=el) l3 c3 k3
 exact⟨C,_,_,_,_,_,_,_,_,ym X G aC pg hd po sa mk kc,⟨F0,F0.binds (fun _ _ _ _ _ _ us hl=>ln1 hl fun _=>rfl),⟨a0,i0,k0⟩⟩,⟨F1,F1.binds (fun _ _ _ _ _ _ us hl=>ln1 hl fun _=>rfl),⟨a1,i1,k1⟩⟩,⟨F2,F2.binds (fun _ _ _ _ _ _ us hl=>ln2 hl fun _ _=>rfl),⟨a2,i2,k2⟩⟩,⟨F3,F3.binds (fun _ _ _ _ _ _ us hl=>ln2 hl fun _ _=>rfl),⟨a3,i3,k3⟩⟩,n0,n1,n2⟩
theorem Ts {K:PySem.W.Frag} {h:Heap} {mg:Str→Option Value} (X:K.In h) (G:h.Ns mainGlobals mg) {C:Addr}
  {f0:Addr} {od0 an0:Option Addr} {sl0:Array (Option Value)} {oc0 kV0 dc0 pm0 cd0 ct0:Value}
  (aC:PySem.W.nsIn K mainGlobals "Way"=some (some (.ref C))) (pg:PySem.W.plainGet K C Str.empty=true) (hd:PySem.W.hasDictIn K C=true) (po:PySem.W.plainOver K C=true) (sa:PySem.W.findIn K (.ref C) "__setattr__"=some (some (.builtin "object.__setattr__"))) (mk:PySem.W.makesIn K C=true) (kc:PySem.W.keepIn K (.ref C)=true) (a0:PySem.W.findIn K (.ref C) "__init__"=some (some (.ref f0))) (i0:PySem.W.isFn K (.ref f0)=true) (l0:K.lookup f0=some ⟨oc0,od0,.func (PySem.W.fnOf "__init__" "Way.__init__" (bc kC) (aZ kC) (ai kC) .none kV0 dc0 pm0 an0 cd0 ct0),sl0⟩) (c0:PySem.W.codeIn K cd0 "Way.__init__"=true) (k0:PySem.W.keepIn K (.ref f0)=true) (n0:PySem.W.findIn K (.ref C) "word"=some none) (n1:PySem.W.findIn K (.ref C) "behind"=some none) :
  ∃C,∃f0 d0,QK K mg "Way" C∧vf K C "__init__" "Way.__init__" kC ["self","word","behind"] f0 d0∧aQ K C "word"∧aQ K C "behind":=by
 have F0:=bM (st:=kC) l0 c0 k0
 exact⟨C,_,_,ym X G aC pg hd po sa mk kc,⟨F0,F0.binds (fun _ _ _ _ _ _ us hl=>ln3 hl fun _ _ _=>rfl),⟨a0,i0,k0⟩⟩,n0,n1⟩
theorem Qs {K:PySem.W.Frag} {h:Heap} {mg:Str→Option Value} (X:K.In h) (G:h.Ns mainGlobals mg) {C:Addr}
  {f0:Addr} {od0 an0:Option Addr} {sl0:Array (Option Value)} {oc0 kV0 dc0 pm0 cd0 ct0:Value}
  (aC:PySem.W.nsIn K mainGlobals "Place"=some (some (.ref C))) (pg:PySem.W.plainGet K C Str.empty=true) (hd:PySem.W.hasDictIn K C=true) (po:PySem.W.plainOver K C=true) (sa:PySem.W.findIn K (.ref C) "__setattr__"=some (some (.builtin "object.__setattr__"))) (mk:PySem.W.makesIn K C=true) (kc:PySem.W.keepIn K (.ref C)=true) (a0:PySem.W.findIn K (.ref C) "__init__"=some (some (.ref f0))) (i0:PySem.W.isFn K (.ref f0)=true) (l0:K.lookup f0=some ⟨oc0,od0,.func (PySem.W.fnOf "__init__" "Place.__init__" (bc gR) (aZ gR) (ai gR) .none kV0 dc0 pm0 an0 cd0 ct0),sl0⟩) (c0:PySem.W.codeIn K cd0 "Place.__init__"=true) (k0:PySem.W.keepIn K (.ref f0)=true) (n0:PySem.W.findIn K (.ref C) "speaker"=some none) (n1:PySem.W.findIn K (.ref C) "hearer"=some none) (n2:PySem.W.findIn K (.ref C) "ways"=some none) :
  ∃C,∃f0 d0,QK K mg "Place" C∧vf K C "__init__" "Place.__init__" gR ["self","speaker","hearer"] f0 d0∧aQ K C "speaker"∧aQ K C "hearer"∧aQ K C "ways":=by
 have F0:=bM (st:=gR) l0 c0 k0
 exact⟨C,_,_,ym X G aC pg hd po sa mk kc,⟨F0,F0.binds (fun _ _ _ _ _ _ us hl=>ln3 hl fun _ _ _=>rfl),⟨a0,i0,k0⟩⟩,n0,n1,n2⟩
theorem Oj {K:PySem.W.Frag} {h:Heap} {mg:Str→Option Value} (X:K.In h) (G:h.Ns mainGlobals mg) {C:Addr}
  {f0:Addr} {od0 an0:Option Addr} {sl0:Array (Option Value)} {oc0 kV0 dc0 pm0 cd0 ct0:Value}
  {f1:Addr} {od1 an1:Option Addr} {sl1:Array (Option Value)} {oc1 kV1 dc1 pm1 cd1 ct1:Value}
  {f2:Addr} {od2 an2:Option Addr} {sl2:Array (Option Value)} {oc2 kV2 dc2 pm2 cd2 ct2:Value}
  {f3:Addr} {od3 an3:Option Addr} {sl3:Array (Option Value)} {oc3 kV3 dc3 pm3 cd3 ct3:Value}
  {f4:Addr} {od4 an4:Option Addr} {sl4:Array (Option Value)} {oc4 kV4 dc4 pm4 cd4 ct4:Value}
  {f5:Addr} {od5 an5:Option Addr} {sl5:Array (Option Value)} {oc5 kV5 dc5 pm5 cd5 ct5:Value}
  (aC:PySem.W.nsIn K mainGlobals "Script"=some (some (.ref C))) (pg:PySem.W.plainGet K C Str.empty=true) (hd:PySem.W.hasDictIn K C=true) (po:PySem.W.plainOver K C=true) (sa:PySem.W.findIn K (.ref C) "__setattr__"=some (some (.builtin "object.__setattr__"))) (mk:PySem.W.makesIn K C=true) (kc:PySem.W.keepIn K (.ref C)=true) (a0:PySem.W.findIn K (.ref C) "__init__"=some (some (.ref f0))) (i0:PySem.W.isFn K (.ref f0)=true) (l0:K.lookup f0=some ⟨oc0,od0,.func (PySem.W.fnOf "__init__" "Script.__init__" (bc gg) (aZ gg) (ai gg) .none kV0 dc0 pm0 an0 cd0 ct0),sl0⟩) (c0:PySem.W.codeIn K cd0 "Script.__init__"=true) (k0:PySem.W.keepIn K (.ref f0)=true) (a1:PySem.W.findIn K (.ref C) "tell_word"=some (some (.ref f1))) (i1:PySem.W.isFn K (.ref f1)=true) (l1:K.lookup f1=some ⟨oc1,od1,.func (PySem.W.fnOf "tell_word" "Script.tell_word" (bc cF) (aZ cF) (ai cF) .none kV1 dc1 pm1 an1 cd1 ct1),sl1⟩) (c1:PySem.W.codeIn K cd1 "Script.tell_word"=true) (k1:PySem.W.keepIn K (.ref f1)=true) (a2:PySem.W.findIn K (.ref C) "tell_place"=some (some (.ref f2))) (i2:PySem.W.isFn K (.ref f2)=true) (l2:K.lookup f2=some ⟨oc2,od2,.func (PySem.W.fnOf "tell_place" "Script.tell_place" (bc b9) (aZ b9) (ai b9) .none kV2 dc2 pm2 an2 cd2 ct2),sl2⟩) (c2:PySem.W.codeIn K cd2 "Script.tell_place"=true) (k2:PySem.W.keepIn K (.ref f2)=true) (a3:PySem.W.findIn K (.ref C) "tell_way"=some (some (.ref f3))) (i3:PySem.W.isFn K (.ref f3)=true) (l3:K.lookup f3=some ⟨oc3,od3,.func (PySem.W.fnOf "tell_way" "Script.tell_way" (bc cb) (aZ cb) (ai cb) .none kV3 dc3 pm3 an3 cd3 ct3),sl3⟩) (c3:PySem.W.codeIn K cd3 "Script.tell_way"=true) (k3:PySem.W.keepIn K (.ref f3)=true) (a4:PySem.W.findIn K (.ref C) "leads_somewhere"=some (some (.ref f4))) (i4:PySem.W.isFn K (.ref f4)=true) (l4:K.lookup f4=some ⟨oc4,od4,.func (PySem.W.fnOf "leads_somewhere" "Script.leads_somewhere" (bc bu) (aZ bu) (ai bu) .none kV4 dc4 pm4 an4 cd4 ct4),sl4⟩) (c4:PySem.W.codeIn K cd4 "Script.leads_somewhere"=true) (k4:PySem.W.keepIn K (.ref f4)=true) (a5:PySem.W.findIn K (.ref C) "is_whole"=some (some (.ref f5))) (i5:PySem.W.isFn K (.ref f5)=true) (l5:K.lookup f5=some ⟨oc5,od5,.func (PySem.W.fnOf "is_whole" "Script.is_whole" (bc cf) (aZ cf) (ai cf) .none kV5 dc5 pm5 an5 cd5 ct5),sl5⟩) (c5:PySem.W.codeIn K cd5 "Script.is_whole"=true) (k5:PySem.W.keepIn K (.ref f5)=true) (n0:PySem.W.findIn K (.ref C) "parties"=some none) (n1:PySem.W.findIn K (.ref C) "units"=some none) (n2:PySem.W.findIn K (.ref C) "slack"=some none) (n3:PySem.W.findIn K (.ref C) "words"=some none) (n4:PySem.W.findIn K (.ref C) "patterns"=some none) (n5:PySem.W.findIn K (.ref C) "places"=some none) :
  ∃C,∃f0 d0,∃f1 d1,∃f2 d2,∃f3 d3,∃f4 d4,∃f5 d5,QK K mg "Script" C∧vf K C "__init__" "Script.__init__" gg ["self","parties","lo","hi","slack"] f0 d0∧vf K C "tell_word" "Script.tell_word" cF ["self","letters"] f1 d1∧vf K C "tell_place" "Script.tell_place" b9 ["self","speaker","hearer"] f2 d2∧vf K C "tell_way" "Script.tell_way" cb ["self","q","word","behind"] f3 d3∧vf K C "leads_somewhere" "Script.leads_somewhere" bu ["self","place"] f4 d4∧vf K C "is_whole" "Script.is_whole" cf ["self"] f5 d5∧aQ K C "parties"∧aQ K C "units"∧aQ K C "slack"∧aQ K C "words"∧aQ K C "patterns"∧aQ K C "places":=by
 have F0:=bM (st:=gg) l0 c0 k0
 have F1:=bM (st:=cF) l1 c1 k1
 have F2:=bM (st:=b9) l2 c2 k2
 have F3:=bM (st:=cb) l3 c3 k3
 have F4:=bM (st:=bu) l4 c4 k4
 have F5:=bM (st:=cf) l5 c5 k5
 exact⟨C,_,_,_,_,_,_,_,_,_,_,_,_,ym X G aC pg hd po sa mk kc,⟨F0,F0.binds (fun _ _ _ _ _ _ us hl=>ln5 hl fun _ _ _ _ _=>rfl),⟨a0,i0,k0⟩⟩,⟨F1,F1.binds (fun _ _ _ _ _ _ us hl=>ln2 hl fun _ _=>rfl),⟨a1,i1,k1⟩⟩,⟨F2,F2.binds (fun _ _ _ _ _ _ us hl=>ln3 hl fun _ _ _=>rfl),⟨a2,i2,k2⟩⟩,⟨F3,F3.binds (fun _ _ _ _ _ _ us hl=>ln4 hl fun _ _ _ _=>rfl),⟨a3,i3,k3⟩⟩,⟨F4,F4.binds (fun _ _ _ _ _ _ us hl=>ln2 hl fun _ _=>rfl),⟨a4,i4,k4⟩⟩,⟨F5,F5.binds (fun _ _ _ _ _ _ us hl=>ln1 hl fun _=>rfl),⟨a5,i5,k5⟩⟩,n0,n1,n2,n3,n4,n5⟩
theorem Qr {K:PySem.W.Frag} {h:Heap} {mg:Str→Option Value} (X:K.In h) (G:h.Ns mainGlobals mg) {C:Addr}
  {f0:Addr} {od0 an0:Option Addr} {sl0:Array (Option Value)} {oc0 kV0 dc0 pm0 cd0 ct0:Value}
  (aC:PySem.W.nsIn K mainGlobals "Thing"=some (some (.ref C))) (pg:PySem.W.plainGet K C Str.empty=true) (hd:PySem.W.hasDictIn K C=true) (po:PySem.W.plainOver K C=true) (sa:PySem.W.findIn K (.ref C) "__setattr__"=some (some (.builtin "object.__setattr__"))) (mk:PySem.W.makesIn K C=true) (kc:PySem.W.keepIn K (.ref C)=true) (a0:PySem.W.findIn K (.ref C) "__init__"=some (some (.ref f0))) (i0:PySem.W.isFn K (.ref f0)=true) (l0:K.lookup f0=some ⟨oc0,od0,.func (PySem.W.fnOf "__init__" "Thing.__init__" (bc gP) (aZ gP) (ai gP) .none kV0 dc0 pm0 an0 cd0 ct0),sl0⟩) (c0:PySem.W.codeIn K cd0 "Thing.__init__"=true) (k0:PySem.W.keepIn K (.ref f0)=true) (n0:PySem.W.findIn K (.ref C) "place"=some none) (n1:PySem.W.findIn K (.ref C) "word"=some none) (n2:PySem.W.findIn K (.ref C) "tick"=some none) (n3:PySem.W.findIn K (.ref C) "former"=some none) :
  ∃C,∃f0 d0,QK K mg "Thing" C∧vf K C "__init__" "Thing.__init__" gP ["self","place","word","tick","former"] f0 d0∧aQ K C "place"∧aQ K C "word"∧aQ K C "tick"∧aQ K C "former":=by
 have F0:=bM (st:=gP) l0 c0 k0
 exact⟨C,_,_,ym X G aC pg hd po sa mk kc,⟨F0,F0.binds (fun _ _ _ _ _ _ us hl=>ln5 hl fun _ _ _ _ _=>rfl),⟨a0,i0,k0⟩⟩,n0,n1,n2,n3⟩
theorem Ol {K:PySem.W.Frag} {h:Heap} {mg:Str→Option Value} (X:K.In h) (G:h.Ns mainGlobals mg) {C:Addr}
  {f0:Addr} {od0 an0:Option Addr} {sl0:Array (Option Value)} {oc0 kV0 dc0 pm0 cd0 ct0:Value}
  (aC:PySem.W.nsIn K mainGlobals "Choice"=some (some (.ref C))) (pg:PySem.W.plainGet K C Str.empty=true) (hd:PySem.W.hasDictIn K C=true) (po:PySem.W.plainOver K C=true) (sa:PySem.W.findIn K (.ref C) "__setattr__"=some (some (.builtin "object.__setattr__"))) (mk:PySem.W.makesIn K C=true) (kc:PySem.W.keepIn K (.ref C)=true) (a0:PySem.W.findIn K (.ref C) "__init__"=some (some (.ref f0))) (i0:PySem.W.isFn K (.ref f0)=true) (l0:K.lookup f0=some ⟨oc0,od0,.func (PySem.W.fnOf "__init__" "Choice.__init__" (bc gh) (aZ gh) (ai gh) .none kV0 dc0 pm0 an0 cd0 ct0),sl0⟩) (c0:PySem.W.codeIn K cd0 "Choice.__init__"=true) (k0:PySem.W.keepIn K (.ref f0)=true) (n0:PySem.W.findIn K (.ref C) "way"=some none) (n1:PySem.W.findIn K (.ref C) "units"=some none) :
  ∃C,∃f0 d0,QK K mg "Choice" C∧vf K C "__init__" "Choice.__init__" gh ["self","way","units"] f0 d0∧aQ K C "way"∧aQ K C "units":=by
 have F0:=bM (st:=gh) l0 c0 k0
 exact⟨C,_,_,ym X G aC pg hd po sa mk kc,⟨F0,F0.binds (fun _ _ _ _ _ _ us hl=>ln3 hl fun _ _ _=>rfl),⟨a0,i0,k0⟩⟩,n0,n1⟩
theorem RG {K:PySem.W.Frag} {h:Heap} {mg:Str→Option Value} (X:K.In h) (G:h.Ns mainGlobals mg) {C:Addr}
  {f0:Addr} {od0 an0:Option Addr} {sl0:Array (Option Value)} {oc0 kV0 dc0 pm0 cd0 ct0:Value}
  {f1:Addr} {od1 an1:Option Addr} {sl1:Array (Option Value)} {oc1 kV1 dc1 pm1 cd1 ct1:Value}
  {f2:Addr} {od2 an2:Option Addr} {sl2:Array (Option Value)} {oc2 kV2 dc2 pm2 cd2 ct2:Value}
  {f3:Addr} {od3 an3:Option Addr} {sl3:Array (Option Value)} {oc3 kV3 dc3 pm3 cd3 ct3:Value}
  {f4:Addr} {od4 an4:Option Addr} {sl4:Array (Option Value)} {oc4 kV4 dc4 pm4 cd4 ct4:Value}
  {f5:Addr} {od5 an5:Option Addr} {sl5:Array (Option Value)} {oc5 kV5 dc5 pm5 cd5 ct5:Value}
  {f6:Addr} {od6 an6:Option Addr} {sl6:Array (Option Value)} {oc6 kV6 dc6 pm6 cd6 ct6:Value}
  {f7:Addr} {od7 an7:Option Addr} {sl7:Array (Option Value)} {oc7 kV7 dc7 pm7 cd7 ct7:Value}
  {f8:Addr} {od8 an8:Option Addr} {sl8:Array (Option Value)} {oc8 kV8 dc8 pm8 cd8 ct8:Value}
  {f9:Addr} {od9 an9:Option Addr} {sl9:Array (Option Value)} {oc9 kV9 dc9 pm9 cd9 ct9:Value}
  {f10:Addr} {od10 an10:Option Addr} {sl10:Array (Option Value)} {oc10 kV10 dc10 pm10 cd10 ct10:Value}
  {f11:Addr} {od11 an11:Option Addr} {sl11:Array (Option Value)} {oc11 kV11 dc11 pm11 cd11 ct11:Value}
  {f12:Addr} {od12 an12:Option Addr} {sl12:Array (Option Value)} {oc12 kV12 dc12 pm12 cd12 ct12:Value}
  {f13:Addr} {od13 an13:Option Addr} {sl13:Array (Option Value)} {oc13 kV13 dc13 pm13 cd13 ct13:Value}
  {f14:Addr} {od14 an14:Option Addr} {sl14:Array (Option Value)} {oc14 kV14 dc14 pm14 cd14 ct14:Value}
  (aC:PySem.W.nsIn K mainGlobals "Talk"=some (some (.ref C))) (pg:PySem.W.plainGet K C Str.empty=true) (hd:PySem.W.hasDictIn K C=true) (po:PySem.W.plainOver K C=true) (sa:PySem.W.findIn K (.ref C) "__setattr__"=some (some (.builtin "object.__setattr__"))) (mk:PySem.W.makesIn K C=true) (kc:PySem.W.keepIn K (.ref C)=true) (a0:PySem.W.findIn K (.ref C) "__init__"=some (some (.ref f0))) (i0:PySem.W.isFn K (.ref f0)=true) (l0:K.lookup f0=some ⟨oc0,od0,.func (PySem.W.fnOf "__init__" "Talk.__init__" (bc gL) (aZ gL) (ai gL) .none kV0 dc0 pm0 an0 cd0 ct0),sl0⟩) (c0:PySem.W.codeIn K cd0 "Talk.__init__"=true) (k0:PySem.W.keepIn K (.ref f0)=true) (a1:PySem.W.findIn K (.ref C) "speaks"=some (some (.ref f1))) (i1:PySem.W.isFn K (.ref f1)=true) (l1:K.lookup f1=some ⟨oc1,od1,.func (PySem.W.fnOf "speaks" "Talk.speaks" (bc gf) (aZ gf) (ai gf) .none kV1 dc1 pm1 an1 cd1 ct1),sl1⟩) (c1:PySem.W.codeIn K cd1 "Talk.speaks"=true) (k1:PySem.W.keepIn K (.ref f1)=true) (a2:PySem.W.findIn K (.ref C) "is_tick_ahead"=some (some (.ref f2))) (i2:PySem.W.isFn K (.ref f2)=true) (l2:K.lookup f2=some ⟨oc2,od2,.func (PySem.W.fnOf "is_tick_ahead" "Talk.is_tick_ahead" (bc bZ) (aZ bZ) (ai bZ) .none kV2 dc2 pm2 an2 cd2 ct2),sl2⟩) (c2:PySem.W.codeIn K cd2 "Talk.is_tick_ahead"=true) (k2:PySem.W.keepIn K (.ref f2)=true) (a3:PySem.W.findIn K (.ref C) "key_refusal"=some (some (.ref f3))) (i3:PySem.W.isFn K (.ref f3)=true) (l3:K.lookup f3=some ⟨oc3,od3,.func (PySem.W.fnOf "key_refusal" "Talk.key_refusal" (bc cD) (aZ cD) (ai cD) .none kV3 dc3 pm3 an3 cd3 ct3),sl3⟩) (c3:PySem.W.codeIn K cd3 "Talk.key_refusal"=true) (k3:PySem.W.keepIn K (.ref f3)=true) (a4:PySem.W.findIn K (.ref C) "turn_key"=some (some (.ref f4))) (i4:PySem.W.isFn K (.ref f4)=true) (l4:K.lookup f4=some ⟨oc4,od4,.func (PySem.W.fnOf "turn_key" "Talk.turn_key" (bc ej) (aZ ej) (ai ej) .none kV4 dc4 pm4 an4 cd4 ct4),sl4⟩) (c4:PySem.W.codeIn K cd4 "Talk.turn_key"=true) (k4:PySem.W.keepIn K (.ref f4)=true) (a5:PySem.W.findIn K (.ref C) "down"=some (some (.ref f5))) (i5:PySem.W.isFn K (.ref f5)=true) (l5:K.lookup f5=some ⟨oc5,od5,.func (PySem.W.fnOf "down" "Talk.down" (bc iU) (aZ iU) (ai iU) .none kV5 dc5 pm5 an5 cd5 ct5),sl5⟩) (c5:PySem.W.codeIn K cd5 "Talk.down"=true) (k5:PySem.W.keepIn K (.ref f5)=true) (a6:PySem.W.findIn K (.ref C) "up"=some (some (.ref f6))) (i6:PySem.W.isFn K (.ref f6)=true) (l6:K.lookup f6=some ⟨oc6,od6,.func (PySem.W.fnOf "up" "Talk.up" (bc mx) (aZ mx) (ai mx) .none kV6 dc6 pm6 an6 cd6 ct6),sl6⟩) (c6:PySem.W.codeIn K cd6 "Talk.up"=true) (k6:PySem.W.keepIn K (.ref f6)=true) (a7:PySem.W.findIn K (.ref C) "units_of_way"=some (some (.ref f7))) (i7:PySem.W.isFn K (.ref f7)=true) (l7:K.lookup f7=some ⟨oc7,od7,.func (PySem.W.fnOf "units_of_way" "Talk.units_of_way" (bc b7) (aZ b7) (ai b7) .none kV7 dc7 pm7 an7 cd7 ct7),sl7⟩) (c7:PySem.W.codeIn K cd7 "Talk.units_of_way"=true) (k7:PySem.W.keepIn K (.ref f7)=true) (a8:PySem.W.findIn K (.ref C) "all_ways"=some (some (.ref f8))) (i8:PySem.W.isFn K (.ref f8)=true) (l8:K.lookup f8=some ⟨oc8,od8,.func (PySem.W.fnOf "all_ways" "Talk.all_ways" (bc da) (aZ da) (ai da) .none kV8 dc8 pm8 an8 cd8 ct8),sl8⟩) (c8:PySem.W.codeIn K cd8 "Talk.all_ways"=true) (k8:PySem.W.keepIn K (.ref f8)=true) (a9:PySem.W.findIn K (.ref C) "choices"=some (some (.ref f9))) (i9:PySem.W.isFn K (.ref f9)=true) (l9:K.lookup f9=some ⟨oc9,od9,.func (PySem.W.fnOf "choices" "Talk.choices" (bc dG) (aZ dG) (ai dG) .none kV9 dc9 pm9 an9 cd9 ct9),sl9⟩) (c9:PySem.W.codeIn K cd9 "Talk.choices"=true) (k9:PySem.W.keepIn K (.ref f9)=true) (a10:PySem.W.findIn K (.ref C) "choice_said"=some (some (.ref f10))) (i10:PySem.W.isFn K (.ref f10)=true) (l10:K.lookup f10=some ⟨oc10,od10,.func (PySem.W.fnOf "choice_said" "Talk.choice_said" (bc cE) (aZ cE) (ai cE) .none kV10 dc10 pm10 an10 cd10 ct10),sl10⟩) (c10:PySem.W.codeIn K cd10 "Talk.choice_said"=true) (k10:PySem.W.keepIn K (.ref f10)=true) (a11:PySem.W.findIn K (.ref C) "say"=some (some (.ref f11))) (i11:PySem.W.isFn K (.ref f11)=true) (l11:K.lookup f11=some ⟨oc11,od11,.func (PySem.W.fnOf "say" "Talk.say" (bc kD) (aZ kD) (ai kD) .none kV11 dc11 pm11 an11 cd11 ct11),sl11⟩) (c11:PySem.W.codeIn K cd11 "Talk.say"=true) (k11:PySem.W.keepIn K (.ref f11)=true) (a12:PySem.W.findIn K (.ref C) "at"=some (some (.ref f12))) (i12:PySem.W.isFn K (.ref f12)=true) (l12:K.lookup f12=some ⟨oc12,od12,.func (PySem.W.fnOf "at" "Talk.at" (bc my) (aZ my) (ai my) .none kV12 dc12 pm12 an12 cd12 ct12),sl12⟩) (c12:PySem.W.codeIn K cd12 "Talk.at"=true) (k12:PySem.W.keepIn K (.ref f12)=true) (a13:PySem.W.findIn K (.ref C) "again"=some (some (.ref f13))) (i13:PySem.W.isFn K (.ref f13)=true) (l13:K.lookup f13=some ⟨oc13,od13,.func (PySem.W.fnOf "again" "Talk.again" (bc gQ) (aZ gQ) (ai gQ) .none kV13 dc13 pm13 an13 cd13 ct13),sl13⟩) (c13:PySem.W.codeIn K cd13 "Talk.again"=true) (k13:PySem.W.keepIn K (.ref f13)=true) (a14:PySem.W.findIn K (.ref C) "back"=some (some (.ref f14))) (i14:PySem.W.isFn K (.ref f14)=true) (l14:K.lookup f14=some ⟨oc14,od14,.func (PySem.W.fnOf "back" "Talk.back" (bc iV) (aZ iV) (ai iV) .none kV14 dc14 pm14 an14 cd14 ct14),sl14⟩) (c14:PySem.W.codeIn K cd14 "Talk.back"=true) (k14:PySem.W.keepIn K (.ref f14)=true) (n0:PySem.W.findIn K (.ref C) "script"=some none) (n1:PySem.W.findIn K (.ref C) "here"=some none) (n2:PySem.W.findIn K (.ref C) "units"=some none) (n3:PySem.W.findIn K (.ref C) "came"=some none) (n4:PySem.W.findIn K (.ref C) "now"=some none) (n5:PySem.W.findIn K (.ref C) "said"=some none) (n6:PySem.W.findIn K (.ref C) "parts"=some none) :
  ∃C,∃f0 d0,∃f1 d1,∃f2 d2,∃f3 d3,∃f4 d4,∃f5 d5,∃f6 d6,∃f7 d7,∃f8 d8,∃f9 d9,∃f10 d10,∃f11 d11,∃f12 d12,∃f13 d13,∃f14 d14,QK K mg "Talk" C∧vf K C "__init__" "Talk.__init__" gL ["self","script","parts"] f0 d0∧vf K C "speaks" "Talk.speaks" gf ["self","party"] f1 d1∧vf K C "is_tick_ahead" "Talk.is_tick_ahead" bZ ["self","tick"] f2 d2∧vf K C "key_refusal" "Talk.key_refusal" cD ["self","party","tick","pressed"] f3 d3∧vf K C "turn_key" "Talk.turn_key" ej ["self","party","tick","pressed"] f4 d4∧vf K C "down" "Talk.down" iU ["self","party","tick"] f5 d5∧vf K C "up" "Talk.up" mx ["self","party","tick"] f6 d6∧vf K C "units_of_way" "Talk.units_of_way" b7 ["self","way","tick"] f7 d7∧vf K C "all_ways" "Talk.all_ways" da ["self","tick"] f8 d8∧vf K C "choices" "Talk.choices" dG ["self","tick"] f9 d9∧vf K C "choice_said" "Talk.choice_said" cE ["self","tick"] f10 d10∧vf K C "say" "Talk.say" kD ["self","choice"] f11 d11∧vf K C "at" "Talk.at" my ["self","tick"] f12 d12∧vf K C "again" "Talk.again" gQ ["self"] f13 d13∧vf K C "back" "Talk.back" iV ["self"] f14 d14∧aQ K C "script"∧aQ K C "here"∧aQ K C "units"∧aQ K C "came"∧aQ K C "now"∧aQ K C "said"∧aQ K C "parts":=by
 have F0:=bM (st:=gL) l0 c0 k0
 have F1:=bM (st:=gf) l1 c1 k1
 have F2:=bM (st:=bZ) l2 c2 k2
 have F3:=bM (st:=cD) l3 c3 k3
 have F4:=bM (st:=ej) l4 c4 k4
 have F5:=bM (st:=iU) l5 c5 k5
 have F6:=bM (st:=mx) l6 c6 k6
 have F7:=bM (st:=b7) l7 c7 k7
 have F8:=bM (st:=da) l8 c8 k8
 have F9:=bM (st:=dG) l9 c9 k9
 have F10:=bM (st:=cE) l10 c10 k10
 have F11:=bM (st:=kD) l11 c11 k11
 have F12:=bM (st:=my) l12 c12 k12
 have F13:=bM (st:=gQ) l13 c13 k13
 have F14:=bM (st:=iV) l14 c14 k14
 exact⟨C,_,_,_,_,_,_,_,_,_,_,_,_,_,_,_,_,_,_,_,_,_,_,_,_,_,_,_,_,_,_,ym X G aC pg hd po sa mk kc,⟨F0,F0.binds (fun _ _ _ _ _ _ us hl=>ln3 hl fun _ _ _=>rfl),⟨a0,i0,k0⟩⟩,⟨F1,F1.binds (fun _ _ _ _ _ _ us hl=>ln2 hl fun _ _=>rfl),⟨a1,i1,k1⟩⟩,⟨F2,F2.binds (fun _ _ _ _ _ _ us hl=>ln2 hl fun _ _=>rfl),⟨a2,i2,k2⟩⟩,⟨F3,F3.binds (fun _ _ _ _ _ _ us hl=>ln4 hl fun _ _ _ _=>rfl),⟨a3,i3,k3⟩⟩,⟨F4,F4.binds (fun _ _ _ _ _ _ us hl=>ln4 hl fun _ _ _ _=>rfl),⟨a4,i4,k4⟩⟩,⟨F5,F5.binds (fun _ _ _ _ _ _ us hl=>ln3 hl fun _ _ _=>rfl),⟨a5,i5,k5⟩⟩,⟨F6,F6.binds (fun _ _ _ _ _ _ us hl=>ln3 hl fun _ _ _=>rfl),⟨a6,i6,k6⟩⟩,⟨F7,F7.binds (fun _ _ _ _ _ _ us hl=>ln3 hl fun _ _ _=>rfl),⟨a7,i7,k7⟩⟩,⟨F8,F8.binds (fun _ _ _ _ _ _ us hl=>ln2 hl fun _ _=>rfl),⟨a8,i8,k8⟩⟩,⟨F9,F9.binds (fun _ _ _ _ _ _ us hl=>ln2 hl fun _ _=>rfl),⟨a9,i9,k9⟩⟩,⟨F10,F10.binds (fun _ _ _ _ _ _ us hl=>ln2 hl fun _ _=>rfl),⟨a10,i10,k10⟩⟩,⟨F11,F11.binds (fun _ _ _ _ _ _ us hl=>ln2 hl fun _ _=>rfl),⟨a11,i11,k11⟩⟩,⟨F12,F12.binds (fun _ _ _ _ _ _ us hl=>ln2 hl fun _ _=>rfl),⟨a12,i12,k12⟩⟩,⟨F13,F13.binds (fun _ _ _ _ _ _ us hl=>ln1 hl fun _=>rfl),⟨a13,i13,k13⟩⟩,⟨F14,F14.binds (fun _ _ _ _ _ _ us hl=>ln1 hl fun _=>rfl),⟨a14,i14,k14⟩⟩,n0,n1,n2,n3,n4,n5,n6⟩
theorem RI {K:PySem.W.Frag} {h:Heap} {mg:Str→Option Value} (X:K.In h) (G:h.Ns mainGlobals mg) {C:Addr}
  {f0:Addr} {od0 an0:Option Addr} {sl0:Array (Option Value)} {oc0 kV0 dc0 pm0 cd0 ct0:Value}
  {f1:Addr} {od1 an1:Option Addr} {sl1:Array (Option Value)} {oc1 kV1 dc1 pm1 cd1 ct1:Value}
  {f2:Addr} {od2 an2:Option Addr} {sl2:Array (Option Value)} {oc2 kV2 dc2 pm2 cd2 ct2:Value}
  (aC:PySem.W.nsIn K mainGlobals "Desk"=some (some (.ref C))) (pg:PySem.W.plainGet K C Str.empty=true) (hd:PySem.W.hasDictIn K C=true) (po:PySem.W.plainOver K C=true) (sa:PySem.W.findIn K (.ref C) "__setattr__"=some (some (.builtin "object.__setattr__"))) (mk:PySem.W.makesIn K C=true) (kc:PySem.W.keepIn K (.ref C)=true) (a0:PySem.W.findIn K (.ref C) "__init__"=some (some (.ref f0))) (i0:PySem.W.isFn K (.ref f0)=true) (l0:K.lookup f0=some ⟨oc0,od0,.func (PySem.W.fnOf "__init__" "Desk.__init__" (bc iX) (aZ iX) (ai iX) .none kV0 dc0 pm0 an0 cd0 ct0),sl0⟩) (c0:PySem.W.codeIn K cd0 "Desk.__init__"=true) (k0:PySem.W.keepIn K (.ref f0)=true) (a1:PySem.W.findIn K (.ref C) "begin"=some (some (.ref f1))) (i1:PySem.W.isFn K (.ref f1)=true) (l1:K.lookup f1=some ⟨oc1,od1,.func (PySem.W.fnOf "begin" "Desk.begin" (bc gS) (aZ gS) (ai gS) .none kV1 dc1 pm1 an1 cd1 ct1),sl1⟩) (c1:PySem.W.codeIn K cd1 "Desk.begin"=true) (k1:PySem.W.keepIn K (.ref f1)=true) (a2:PySem.W.findIn K (.ref C) "open_talk"=some (some (.ref f2))) (i2:PySem.W.isFn K (.ref f2)=true) (l2:K.lookup f2=some ⟨oc2,od2,.func (PySem.W.fnOf "open_talk" "Desk.open_talk" (bc dq) (aZ dq) (ai dq) .none kV2 dc2 pm2 an2 cd2 ct2),sl2⟩) (c2:PySem.W.codeIn K cd2 "Desk.open_talk"=true) (k2:PySem.W.keepIn K (.ref f2)=true) (n0:PySem.W.findIn K (.ref C) "script"=some none) (n1:PySem.W.findIn K (.ref C) "talk"=some none) :
  ∃C,∃f0 d0,∃f1 d1,∃f2 d2,QK K mg "Desk" C∧vf K C "__init__" "Desk.__init__" iX ["self"] f0 d0∧vf K C "begin" "Desk.begin" gS ["self","parties","lo","hi","slack"] f1 d1∧vf K C "open_talk" "Desk.open_talk" dq ["self"] f2 d2∧aQ K C "script"∧aQ K C "talk":=by
 have F0:=bM (st:=iX) l0 c0 k0
 have F1:=bM (st:=gS) l1 c1 k1
 have F2:=bM (st:=dq) l2 c2 k2
 exact⟨C,_,_,_,_,_,_,ym X G aC pg hd po sa mk kc,⟨F0,F0.binds (fun _ _ _ _ _ _ us hl=>ln1 hl fun _=>rfl),⟨a0,i0,k0⟩⟩,⟨F1,F1.binds (fun _ _ _ _ _ _ us hl=>ln5 hl fun _ _ _ _ _=>rfl),⟨a1,i1,k1⟩⟩,⟨F2,F2.binds (fun _ _ _ _ _ _ us hl=>ln1 hl fun _=>rfl),⟨a2,i2,k2⟩⟩,n0,n1⟩
end Kp
end
section
set_option maxHeartbeats 2000000
namespace Kp
open PySem PySem.Spec PyProof.Rows L2
theorem lk_y {x:Str} {v:V} {fs:List (Str×V)}:(aF x v fs).lookup x=some v:=by rw[qD,if_pos rfl]
theorem lk_n {x y:Str} {v:V} {w:Option V} {fs:List (Str×V)} (h:fs.lookup x=w) (n:¬x=y:=by decide +kernel):(aF y v fs).lookup x=w:=by rw[qD,if_neg n];exact h
theorem pf_y {x:Str} {v w:V} {fs:List (Str×V)}:aF x v ((x,w)::fs)=(x,v)::fs:=if_pos rfl
theorem pf_n {x y:Str} {v w:V} {fs gs:List (Str×V)} (h:aF x v fs=gs) (n:¬y=x:=by decide +kernel):aF x v ((y,w)::fs)=(y,w)::gs:=by rw[←h];exact if_neg n
theorem pf_c {x:Str} {v:V} {fs gs ks:List (Str×V)} (h:fs=gs) (g:aF x v gs=ks):aF x v fs=ks:=by rw[h];exact g
theorem pf_0 {x:Str} {v:V}:aF x v []=[(x,v)]:=rfl
variable {a b c d e f g v:V}
noncomputable def iI (a b:V):List (Str×V):=aF "rows" b (aF "refusal" a [])
theorem uV :(iI a b).lookup ("refusal":Str)=some a:=lk_n (lk_y)
theorem uo :(iI a b).lookup ("rows":Str)=some b:=lk_y
theorem Aw :(iI a b)=[(("refusal":Str),a),(("rows":Str),b)]:=pf_c (pf_0) (pf_n (pf_0))
theorem Uz :(iI a b).length<1000:=by rw[Aw];show 2<1000;decide
theorem NC :aF "refusal" v (iI a b)=iI v b:=by rw[Aw,Aw];exact pf_y
theorem QO :aF "rows" v (iI a b)=iI a v:=by rw[Aw,Aw];exact pf_n (pf_y)
noncomputable def bL (a b:V):List (Str×V):=aF "greatest" b (aF "least" a [])
theorem fq :(bL a b).lookup ("least":Str)=some a:=lk_n (lk_y)
theorem ei :(bL a b).lookup ("greatest":Str)=some b:=lk_y
theorem Ag :(bL a b).lookup ("any_left":Str)=none:=lk_n (lk_n (rfl))
theorem qy :(bL a b).lookup ("how_many":Str)=none:=lk_n (lk_n (rfl))
theorem vL :(bL a b)=[(("least":Str),a),(("greatest":Str),b)]:=pf_c (pf_0) (pf_n (pf_0))
theorem TN :(bL a b).length<1000:=by rw[vL];show 2<1000;decide
theorem OE :aF "least" v (bL a b)=bL v b:=by rw[vL,vL];exact pf_y
theorem Lu :aF "greatest" v (bL a b)=bL a v:=by rw[vL,vL];exact pf_n (pf_y)
noncomputable def cH (a b c:V):List (Str×V):=aF "turned" c (aF "pressed" b (aF "lengths" a []))
theorem de :(cH a b c).lookup ("lengths":Str)=some a:=lk_n (lk_n (lk_y))
theorem ko :(cH a b c).lookup ("pressed":Str)=some b:=lk_n (lk_y)
theorem wB :(cH a b c).lookup ("turned":Str)=some c:=lk_y
theorem nr :(cH a b c).lookup ("begun":Str)=none:=lk_n (lk_n (lk_n (rfl)))
theorem lz :(cH a b c).lookup ("lasted":Str)=none:=lk_n (lk_n (lk_n (rfl)))
theorem rY :(cH a b c).lookup ("turn_key":Str)=none:=lk_n (lk_n (lk_n (rfl)))
theorem tT :(cH a b c)=[(("lengths":Str),a),(("pressed":Str),b),(("turned":Str),c)]:=pf_c (pf_c (pf_0) (pf_n (pf_0))) (pf_n (pf_n (pf_0)))
theorem AH :(cH a b c).length<1000:=by rw[tT];show 3<1000;decide
theorem NF :aF "lengths" v (cH a b c)=cH v b c:=by rw[tT,tT];exact pf_y
theorem jk :aF "pressed" v (cH a b c)=cH a v c:=by rw[tT,tT];exact pf_n (pf_y)
theorem uC :aF "turned" v (cH a b c)=cH a b v:=by rw[tT,tT];exact pf_n (pf_n (pf_y))
noncomputable def nO (a b:V):List (Str×V):=aF "behind" b (aF "word" a [])
theorem eI :(nO a b).lookup ("word":Str)=some a:=lk_n (lk_y)
theorem eJ :(nO a b).lookup ("behind":Str)=some b:=lk_y
theorem EZ :(nO a b)=[(("word":Str),a),(("behind":Str),b)]:=pf_c (pf_0) (pf_n (pf_0))
theorem U0 :(nO a b).length<1000:=by rw[EZ];show 2<1000;decide
theorem Ra :aF "word" v (nO a b)=nO v b:=by rw[EZ,EZ];exact pf_y
theorem Ph :aF "behind" v (nO a b)=nO a v:=by rw[EZ,EZ];exact pf_n (pf_y)
noncomputable def cP (a b c:V):List (Str×V):=aF "ways" c (aF "hearer" b (aF "speaker" a []))
theorem bG :(cP a b c).lookup ("speaker":Str)=some a:=lk_n (lk_n (lk_y))
theorem hU :(cP a b c).lookup ("hearer":Str)=some b:=lk_n (lk_y)
theorem eK :(cP a b c).lookup ("ways":Str)=some c:=lk_y
theorem nS :(cP a b c)=[(("speaker":Str),a),(("hearer":Str),b),(("ways":Str),c)]:=pf_c (pf_c (pf_0) (pf_n (pf_0))) (pf_n (pf_n (pf_0)))
theorem TR :(cP a b c).length<1000:=by rw[nS];show 3<1000;decide
theorem Mq :aF "speaker" v (cP a b c)=cP v b c:=by rw[nS,nS];exact pf_y
theorem NB :aF "hearer" v (cP a b c)=cP a v c:=by rw[nS,nS];exact pf_n (pf_y)
theorem Po :aF "ways" v (cP a b c)=cP a b v:=by rw[nS,nS];exact pf_n (pf_n (pf_y))
noncomputable def bj (a b c d e f:V):List (Str×V):=aF "places" f (aF "patterns" e (aF "words" d (aF "slack" c (aF "units" b (aF "parties" a [])))))
theorem aU :(bj a b c d e f).lookup ("parties":Str)=some a:=lk_n (lk_n (lk_n (lk_n (lk_n (lk_y)))))
theorem uT :(bj a b c d e f).lookup ("units":Str)=some b:=lk_n (lk_n (lk_n (lk_n (lk_y))))
theorem uU :(bj a b c d e f).lookup ("slack":Str)=some c:=lk_n (lk_n (lk_n (lk_y)))
theorem bF :(bj a b c d e f).lookup ("words":Str)=some d:=lk_n (lk_n (lk_y))
theorem ft :(bj a b c d e f).lookup ("patterns":Str)=some e:=lk_n (lk_y)
theorem aV :(bj a b c d e f).lookup ("places":Str)=some f:=lk_y
theorem xK :(bj a b c d e f).lookup ("tell_word":Str)=none:=lk_n (lk_n (lk_n (lk_n (lk_n (lk_n (rfl))))))
theorem vG :(bj a b c d e f).lookup ("tell_place":Str)=none:=lk_n (lk_n (lk_n (lk_n (lk_n (lk_n (rfl))))))
theorem yW :(bj a b c d e f).lookup ("tell_way":Str)=none:=lk_n (lk_n (lk_n (lk_n (lk_n (lk_n (rfl))))))
theorem qi :(bj a b c d e f).lookup ("leads_somewhere":Str)=none:=lk_n (lk_n (lk_n (lk_n (lk_n (lk_n (rfl))))))
theorem yX :(bj a b c d e f).lookup ("is_whole":Str)=none:=lk_n (lk_n (lk_n (lk_n (lk_n (lk_n (rfl))))))
theorem dR :(bj a b c d e f)=[(("parties":Str),a),(("units":Str),b),(("slack":Str),c),(("words":Str),d),(("patterns":Str),e),(("places":Str),f)]:=pf_c (pf_c (pf_c (pf_c (pf_c (pf_0) (pf_n (pf_0))) (pf_n (pf_n (pf_0)))) (pf_n (pf_n (pf_n (pf_0))))) (pf_n (pf_n (pf_n (pf_n (pf_0)))))) (pf_n (pf_n (pf_n (pf_n (pf_n (pf_0))))))
theorem Tg :(bj a b c d e f).length<1000:=by rw[dR];show 6<1000;decide
theorem Lv :aF "parties" v (bj a b c d e f)=bj v b c d e f:=by rw[dR,dR];exact pf_y
theorem Nz :aF "units" v (bj a b c d e f)=bj a v c d e f:=by rw[dR,dR];exact pf_n (pf_y)
theorem NA :aF "slack" v (bj a b c d e f)=bj a b v d e f:=by rw[dR,dR];exact pf_n (pf_n (pf_y))
theorem Ny :aF "words" v (bj a b c d e f)=bj a b c v e f:=by rw[dR,dR];exact pf_n (pf_n (pf_n (pf_y)))
theorem K0 :aF "patterns" v (bj a b c d e f)=bj a b c d v f:=by rw[dR,dR];exact pf_n (pf_n (pf_n (pf_n (pf_y))))
theorem Mp :aF "places" v (bj a b c d e f)=bj a b c d e v:=by rw[dR,dR];exact pf_n (pf_n (pf_n (pf_n (pf_n (pf_y)))))
noncomputable def cM (a b c d:V):List (Str×V):=aF "former" d (aF "tick" c (aF "word" b (aF "place" a [])))
theorem qf :(cM a b c d).lookup ("place":Str)=some a:=lk_n (lk_n (lk_n (lk_y)))
theorem yr :(cM a b c d).lookup ("word":Str)=some b:=lk_n (lk_n (lk_y))
theorem GG :(cM a b c d).lookup ("tick":Str)=some c:=lk_n (lk_y)
theorem Dy :(cM a b c d).lookup ("former":Str)=some d:=lk_y
theorem j6 :(cM a b c d)=[(("place":Str),a),(("word":Str),b),(("tick":Str),c),(("former":Str),d)]:=pf_c (pf_c (pf_c (pf_0) (pf_n (pf_0))) (pf_n (pf_n (pf_0)))) (pf_n (pf_n (pf_n (pf_0))))
theorem TQ :(cM a b c d).length<1000:=by rw[j6];show 4<1000;decide
theorem OF :aF "place" v (cM a b c d)=cM v b c d:=by rw[j6,j6];exact pf_y
theorem Pj :aF "word" v (cM a b c d)=cM a v c d:=by rw[j6,j6];exact pf_n (pf_y)
theorem Pk :aF "tick" v (cM a b c d)=cM a b v d:=by rw[j6,j6];exact pf_n (pf_n (pf_y))
theorem Nw :aF "former" v (cM a b c d)=cM a b c v:=by rw[j6,j6];exact pf_n (pf_n (pf_n (pf_y)))
noncomputable def en (a b:V):List (Str×V):=aF "units" b (aF "way" a [])
theorem j7 :(en a b).lookup ("way":Str)=some a:=lk_n (lk_y)
theorem kn :(en a b).lookup ("units":Str)=some b:=lk_y
theorem sj :(en a b)=[(("way":Str),a),(("units":Str),b)]:=pf_c (pf_0) (pf_n (pf_0))
theorem Th :(en a b).length<1000:=by rw[sj];show 2<1000;decide
theorem Pp :aF "way" v (en a b)=en v b:=by rw[sj,sj];exact pf_y
theorem ND :aF "units" v (en a b)=en a v:=by rw[sj,sj];exact pf_n (pf_y)
noncomputable def aP (a b c d e f g:V):List (Str×V):=aF "said" g (aF "now" f (aF "came" e (aF "units" d (aF "here" c (aF "parts" b (aF "script" a []))))))
theorem aJ :(aP a b c d e f g).lookup ("script":Str)=some a:=lk_n (lk_n (lk_n (lk_n (lk_n (lk_n (lk_y))))))
theorem rL :(aP a b c d e f g).lookup ("parts":Str)=some b:=lk_n (lk_n (lk_n (lk_n (lk_n (lk_y)))))
theorem b0 :(aP a b c d e f g).lookup ("here":Str)=some c:=lk_n (lk_n (lk_n (lk_n (lk_y))))
theorem gp :(aP a b c d e f g).lookup ("units":Str)=some d:=lk_n (lk_n (lk_n (lk_y)))
theorem dE :(aP a b c d e f g).lookup ("came":Str)=some e:=lk_n (lk_n (lk_y))
theorem qY :(aP a b c d e f g).lookup ("now":Str)=some f:=lk_n (lk_y)
theorem eB :(aP a b c d e f g).lookup ("said":Str)=some g:=lk_y
theorem EL :(aP a b c d e f g).lookup ("speaks":Str)=none:=lk_n (lk_n (lk_n (lk_n (lk_n (lk_n (lk_n (rfl)))))))
theorem mf :(aP a b c d e f g).lookup ("is_tick_ahead":Str)=none:=lk_n (lk_n (lk_n (lk_n (lk_n (lk_n (lk_n (rfl)))))))
theorem xI :(aP a b c d e f g).lookup ("key_refusal":Str)=none:=lk_n (lk_n (lk_n (lk_n (lk_n (lk_n (lk_n (rfl)))))))
theorem rW :(aP a b c d e f g).lookup ("turn_key":Str)=none:=lk_n (lk_n (lk_n (lk_n (lk_n (lk_n (lk_n (rfl)))))))
theorem Ii :(aP a b c d e f g).lookup ("down":Str)=none:=lk_n (lk_n (lk_n (lk_n (lk_n (lk_n (lk_n (rfl)))))))
theorem LJ :(aP a b c d e f g).lookup ("up":Str)=none:=lk_n (lk_n (lk_n (lk_n (lk_n (lk_n (lk_n (rfl)))))))
theorem vF :(aP a b c d e f g).lookup ("units_of_way":Str)=none:=lk_n (lk_n (lk_n (lk_n (lk_n (lk_n (lk_n (rfl)))))))
theorem rX :(aP a b c d e f g).lookup ("all_ways":Str)=none:=lk_n (lk_n (lk_n (lk_n (lk_n (lk_n (lk_n (rfl)))))))
theorem uE :(aP a b c d e f g).lookup ("choices":Str)=none:=lk_n (lk_n (lk_n (lk_n (lk_n (lk_n (lk_n (rfl)))))))
theorem xJ :(aP a b c d e f g).lookup ("choice_said":Str)=none:=lk_n (lk_n (lk_n (lk_n (lk_n (lk_n (lk_n (rfl)))))))
theorem JV :(aP a b c d e f g).lookup ("say":Str)=none:=lk_n (lk_n (lk_n (lk_n (lk_n (lk_n (lk_n (rfl)))))))
theorem LK :(aP a b c d e f g).lookup ("at":Str)=none:=lk_n (lk_n (lk_n (lk_n (lk_n (lk_n (lk_n (rfl)))))))
theorem Gm :(aP a b c d e f g).lookup ("again":Str)=none:=lk_n (lk_n (lk_n (lk_n (lk_n (lk_n (lk_n (rfl)))))))
theorem Ij :(aP a b c d e f g).lookup ("back":Str)=none:=lk_n (lk_n (lk_n (lk_n (lk_n (lk_n (lk_n (rfl)))))))
theorem fz :(aP a b c d e f g)=[(("script":Str),a),(("parts":Str),b),(("here":Str),c),(("units":Str),d),(("came":Str),e),(("now":Str),f),(("said":Str),g)]:=pf_c (pf_c (pf_c (pf_c (pf_c (pf_c (pf_0) (pf_n (pf_0))) (pf_n (pf_n (pf_0)))) (pf_n (pf_n (pf_n (pf_0))))) (pf_n (pf_n (pf_n (pf_n (pf_0)))))) (pf_n (pf_n (pf_n (pf_n (pf_n (pf_0))))))) (pf_n (pf_n (pf_n (pf_n (pf_n (pf_n (pf_0)))))))
theorem nU :(aP a b c d e f g).length<1000:=by rw[fz];show 7<1000;decide
theorem OG :aF "script" v (aP a b c d e f g)=aP v b c d e f g:=by rw[fz,fz];exact pf_y
theorem Pn :aF "parts" v (aP a b c d e f g)=aP a v c d e f g:=by rw[fz,fz];exact pf_n (pf_y)
theorem yd :aF "here" v (aP a b c d e f g)=aP a b v d e f g:=by rw[fz,fz];exact pf_n (pf_n (pf_y))
theorem Pl :aF "units" v (aP a b c d e f g)=aP a b c v e f g:=by rw[fz,fz];exact pf_n (pf_n (pf_n (pf_y)))
theorem rm :aF "came" v (aP a b c d e f g)=aP a b c d v f g:=by rw[fz,fz];exact pf_n (pf_n (pf_n (pf_n (pf_y))))
theorem tG :aF "now" v (aP a b c d e f g)=aP a b c d e v g:=by rw[fz,fz];exact pf_n (pf_n (pf_n (pf_n (pf_n (pf_y)))))
theorem QN :aF "said" v (aP a b c d e f g)=aP a b c d e f v:=by rw[fz,fz];exact pf_n (pf_n (pf_n (pf_n (pf_n (pf_n (pf_y))))))
noncomputable def cG (a b:V):List (Str×V):=aF "talk" b (aF "script" a [])
theorem cU :(cG a b).lookup ("script":Str)=some a:=lk_n (lk_y)
theorem dF :(cG a b).lookup ("talk":Str)=some b:=lk_y
theorem rq :(cG a b).lookup ("begin":Str)=none:=lk_n (lk_n (rfl))
theorem Ah :(cG a b).lookup ("open_talk":Str)=none:=lk_n (lk_n (rfl))
theorem Ax :(cG a b)=[(("script":Str),a),(("talk":Str),b)]:=pf_c (pf_0) (pf_n (pf_0))
theorem Ff :(cG a b).length<1000:=by rw[Ax];show 2<1000;decide
theorem C8 :aF "script" v (cG a b)=cG v b:=by rw[Ax,Ax];exact pf_y
theorem ye :aF "talk" v (cG a b)=cG a v:=by rw[Ax,Ax];exact pf_n (pf_y)
end Kp
end
section
set_option maxHeartbeats 2000000
namespace Kp
open PySem PySem.Spec PyProof.Rows L2
theorem aX {H:Hp} {p:Addr} {o:HO} (h:H p=none):ax H (upd H p o):=fun b u e=>by rw[af (ao e h)];exact e
noncomputable def rN (H H':Hp):Hp:=fun b=>match H b with
 | none=>H' b
 | some _=>none
theorem cQ {H H':Hp} {b:Addr} {o:HO}:rN H H' b=some o↔H b=none∧H' b=some o:=by
 unfold rN
 cases e:H b with
 | none=>simp
 | some u=>simp
theorem rN.same {H H':Hp}:ax (rN H H') H':=fun b o e=>(cQ.mp e).2
theorem rN.mono {H H1 H2:Hp} (s:ax H1 H2):ax (rN H H1) (rN H H2):=fun b o e=>cQ.mpr ⟨(cQ.mp e).1,s _ _ (cQ.mp e).2⟩
theorem rN.left {H0 H1 H2:Hp} (s:ax H0 H1):ax (rN H1 H2) (rN H0 H2):=fun b o e=>cQ.mpr ⟨s.free (cQ.mp e).1,(cQ.mp e).2⟩
theorem yY {H H':Hp} {p:Addr} {o:HO} (h:H p=none) (h':H' p=some o):rN H H' p=some o:=cQ.mpr ⟨h,h'⟩
theorem Mz {H:Hp} {a b:Addr} {o:HO} (h:H a=some o) (h':H b=none):b≠a:=fun e=>by subst e;rw[h] at h';cases h'
theorem lay {H:Hp} {p:Addr} {o:HO} {R:Hp→Prop} (h:H p=none) (k:∀H',ax H H'→H' p=some o→R H'):R (upd H p o):=k _ (aX h) ae
noncomputable def rM (p:Addr) (H H':Hp):Prop:=∀b o,H b=some o→b≠p→H' b=some o
theorem gd {H:Hp} {p:Addr} {o:HO}:rM p H (upd H p o):=fun b u e hb=>by rw[af hb];exact e
theorem rM.same {H H1 H2:Hp} {p:Addr} (s:ax H H1) (b:rM p H1 H2) (h:H p=none):ax H H2:=fun c o e=>b c o (s c o e) (ao e h)
theorem aL {c:Prop} [Decidable c] {A B:Prop} (h1:c→A) (h2:¬c→B):if decide c=true then A else B:=by
 by_cases h:c
 ·rw[if_pos (decide_eq_true h)];exact h1 h
 ·rw[if_neg (by simpa using h)];exact h2 h
theorem mz {c:Prop} [Decidable c] {A B:Prop} (h1:¬c→A) (h2:c→B):if (!decide c)=true then A else B:=by
 by_cases h:c
 ·rw[if_neg (by simpa using h)];exact h2 h
 ·rw[if_pos (by simpa using h)];exact h1 h
theorem df {b:Bool} {A B:Prop} (h1:b=true→A) (h2:b=false→B):if b=true then A else B:=by
 cases b with
 | true=>exact h1 rfl
 | false=>rw[if_neg Bool.false_ne_true];exact h2 rfl
theorem bJ {H:Hp} {Q:VK} {i j:Int} (q:Q (.bl (decide (i=j))) H):UW (.int i) (.int j) H Q:=⟨rfl,by
 have e:decide (V.int i=V.int j)=decide (i=j):=by
  by_cases h:i=j
  ·subst h;simp
  ·rw[decide_eq_false h,decide_eq_false (fun z=>h (V.int.inj z))]
 rw[e];exact q⟩
theorem yc {H:Hp} {Q:VK} {i j:Int} (q:Q (.bl (!decide (i=j))) H):VF (.int i) (.int j) H Q:=⟨rfl,by
 have e:decide (V.int i=V.int j)=decide (i=j):=by
  by_cases h:i=j
  ·subst h;simp
  ·rw[decide_eq_false h,decide_eq_false (fun z=>h (V.int.inj z))]
 rw[e];exact q⟩
theorem Ug {H:Hp} {Q:VK} {i j:Bool} (q:Q (.bl (decide (i=j))) H):UW (.bl i) (.bl j) H Q:=⟨rfl,by
 have e:decide (V.bl i=V.bl j)=decide (i=j):=by cases i<;>cases j<;>rfl
 rw[e];exact q⟩
theorem Se {H:Hp} {Q:VK} {i j:Str} (q:Q (.bl (decide (i=j))) H):UW (.str i) (.str j) H Q:=⟨rfl,by
 have e:decide (V.str i=V.str j)=decide (i=j):=by
  by_cases h:i=j
  ·subst h;simp
  ·rw[decide_eq_false h,decide_eq_false (fun z=>h (V.str.inj z))]
 rw[e];exact q⟩
section
variable {X:Cx}
theorem aw {x:Str} {i:Int} {pos:Pos} (hg:Gl X x) (hm:∃t,X.mg x=some (.int i t)) (hd:(x==("__debug__":Str))=false:=by decide):PE X (.Name x pos) (tC (.int i)):=by
 obtain⟨t,hm⟩:=hm
 exact Mu hg hm ⟨t,rfl⟩ hd
theorem HS {x:Str} {a:Addr} {pos:Pos} (hg:Gl X x) (hm:X.mg x=some (.ref a)) (hd:(x==("__debug__":Str))=false:=by decide):PE X (.Name x pos) (tC (.ref a)):=Mu hg hm rfl hd
end
theorem wO {X:Cx} {K:PySem.W.Frag} {es:List Expr} {k:Nat} {t:So} {pos:Pos} (n:Nat) (hK:X.K=K) (hc:X.calm=true) (h:UK X es t) (hn:(assignEach es X.env).length=n) (hst:(assignEach es X.env).findIdx? (·.1)=none):PG X (.Tuple es k pos) (Te K n t):=by
 subst hK
 exact SO hc h hn hst
section
variable {X:Cx} {K:PySem.W.Frag}
theorem ka {e:Expr} {f:Str} {pos:Pos} {ta:TE} (hK:X.K=K) (he:PE X e ta) (hb:attributeBase e f X.env (eval e X.env)=eval e X.env):PE X (.Attribute e f pos) (Sz K ta f):=by
 subst hK
 exact ak he hb
theorem PY (hK:X.K=K):U7 X (Ui K):=by
 subst hK
 exact aN
theorem yn (hK:X.K=K):wF X (.builtin "len") (fun xs H Q=>∃p ys,xs=[.ref p]∧(aM K H p ys∨GH K H p ys)∧Q (.int ys.length) H):=by
 subst hK
 exact aB
theorem Rj (hK:X.K=K) (hu:X.A.units+64<cLine):zp X (compareOp .Eq) (Uj K):=by
 subst hK
 exact SV hu
end
@[reducible] noncomputable def GR (g:TG) (tt:TT) (te:TE) (vs:List Nat) (σ:L2.St) (x:V) (H:Hp) (R:Option V→Hp→Prop):Prop:=
 g x (wipe σ vs) H fun σ2 H2=>wipe σ2 vs=wipe σ vs∧tt σ2 H2 fun b H3=>if b=true then te σ2 H3 fun y H4=>R (some y) H4 else R none H3
noncomputable def RZ (D:Addr) (Nx:Hp→Prop) (o:Option V) (H4:Hp):Prop:=match o with
 | some y=>∃acc,H4 D=some (.lst acc)∧acc.length<sizeLine∧Nx (upd H4 D (.lst (acc++[y])))
 | none=>Nx H4
section
variable {K:PySem.W.Frag} {tl:TE} {ta:TA} {g:TG} {tt:TT} {te:TE} {vs:List Nat} {tb:TS}
theorem Nc :Nf (P5 K tl) g tb=fun D σ H=>tl σ H fun x H1=>∃a,x=.ref a∧(∃xs,aM K H1 a xs)∧Gf (RT K a) g tb D σ H1:=rfl
theorem Nd :Nf (P6 K ta) g tb=fun D σ H=>ta σ H fun vs H1=>∃a xs,vs=[.ref a]∧aM K H1 a xs∧Gf (Ss K a) g tb D σ H1:=rfl
theorem O0 :Nf (Uq K ta) g tb=fun D σ H=>ta σ H fun vs H1=>∃a b xs ys,vs=[.ref a,.ref b]∧aM K H1 a xs∧aM K H1 b ys∧Gf (UN K a b) g tb D σ H1:=rfl
theorem O1 :Nf (Ur tl) g tb=fun D σ H=>tl σ H fun v H1=>∃x,v=.str x∧Gf (UO x) g tb D σ H1:=rfl
theorem Nb :Nf (P4 ta) g tb=fun D σ H=>ta σ H fun vs H1=>∃j:Int,vs=[.int j]∧-(2 ^ 62)≤j∧j<2 ^ 62∧Gf (Sr 0 j.toNat) g tb D σ H1:=rfl
theorem OY :T6 (P5 K tl) g tt te vs=fun σ H Q=>tl σ H fun x H1=>∃a,x=.ref a∧(∃xs,aM K H1 a xs)∧Sf (RT K a) g tt te vs σ H1 Q:=rfl
theorem OZ :T6 (P6 K ta) g tt te vs=fun σ H Q=>ta σ H fun ws H1=>∃a xs,ws=[.ref a]∧aM K H1 a xs∧Sf (Ss K a) g tt te vs σ H1 Q:=rfl
theorem OX :T6 (P4 ta) g tt te vs=fun σ H Q=>ta σ H fun ws H1=>∃j:Int,ws=[.int j]∧-(2 ^ 62)≤j∧j<2 ^ 62∧Sf (Sr 0 j.toNat) g tt te vs σ H1 Q:=rfl
end
theorem DP {os:List (Option V)} {o:Option V}:(os++[o]).filterMap id=os.filterMap id++(match o with | some y=>[y] | none=>[]):=by
 rw[List.filterMap_append]
 cases o<;>rfl
theorem LO {J:It} {n:Nat} {Y:Nat→V→Hp→Prop} {Out:Nat→Option V→Hp→Prop} {g:TG} {tt:TT} {te:TE} {vs:List Nat} {σ:L2.St} {H:Hp} {Q:VK} (hn:n<sizeLine)
  (hstop:∀H',ax H H'→J.stop n H') (hgo:∀i H',i<n→ax H H'→J.go i H') (hy:∀i H' x H'',i<n→ax H H'→J.RX i H' x H''→ax H' H''∧Y i x H'')
  (mono:∀i o F F',i<n→ax F F'→Out i o F→Out i o F')
  (ht:∀i x H' R,i<n→ax H H'→Y i x H'→(∀o H'',ax H' H''→Out i o (rN H' H'')→R o H'')→GR g tt te vs σ x H' R)
  (hq:∀(D:Addr) (Hend:Hp) (os:List (Option V)),H D=none→ax H Hend→os.length=n→Hend D=some (.lst (os.filterMap id))→(∀i o,os[i]?=some o→Out i o (rN (upd H D (.lst [])) Hend))→Q (.ref D) Hend) :
  Sf (J) g tt te vs σ H Q:=by
 intro D hD
 refine⟨fun i m Hi=>m=n - i∧i≤n∧∃os:List (Option V),os.length=i∧ax H Hi∧Hi D=some (.lst (os.filterMap id))∧∀j o,os[j]?=some o→Out j o (rN (upd H D (.lst [])) Hi),
  ⟨n,rfl,Nat.zero_le _,[],rfl,aX hD,ae,fun j o e=>by simp at e⟩,?_⟩
 rintro i m Hi ⟨rfl,hi,os,ol,sm,hd,out⟩
 by_cases hlt:i<n
 ·refine .inr ⟨hgo i Hi hlt sm,fun H'=>∃os:List (Option V),os.length=i+1∧ax H H'∧H' D=some (.lst (os.filterMap id))∧∀j o,os[j]?=some o→Out j o (rN (upd H D (.lst [])) H'),
   fun H' p=>⟨n - (i+1),by omega,rfl,hlt,p⟩,fun x H' yl=>?_⟩
  obtain⟨s1,y⟩:=hy i Hi x H' hlt sm yl
  have main:=ht i x H' (RZ D fun H'=>∃os:List (Option V),os.length=i+1∧ax H H'∧H' D=some (.lst (os.filterMap id))∧∀j o,os[j]?=some o→Out j o (rN (upd H D (.lst [])) H')) hlt (sm.trans s1) y ?_
  ·exact main
  intro o H'' s2 ot
  have hd2:H'' D=some (.lst (os.filterMap id)):=s2 _ _ (s1 _ _ hd)
  have s3:ax H H'':=(sm.trans s1).trans s2
  have hDH':H' D=some (.lst (os.filterMap id)):=s1 _ _ hd
  have lenf:(os.filterMap id).length≤os.length:=List.length_filterMap_le _ _
  have old:∀j o,os[j]?=some o→Out j o (rN (upd H D (.lst [])) H''):=fun j o e=>mono j o _ _ (by have:=(List.getElem?_eq_some_iff.mp e).1;omega) (rN.mono (s1.trans s2)) (out j o e)
  have fresh:ax (rN H' H'') (rN (upd H D (.lst [])) H''):=fun b u e=>by
   obtain⟨h1,h2⟩:=cQ.mp e
   refine cQ.mpr ⟨?_,h2⟩
   rw[af (Mz hDH' h1)]
   exact (sm.trans s1).free h1
  have all:∀j o',(os++[o])[j]?=some o'→Out j o' (rN (upd H D (.lst [])) H''):=fun j o' e=>by
   rw[List.getElem?_append] at e
   split at e
   ·exact old j o' e
   ·rename_i hj
    have :j=os.length:=by
     have:=(List.getElem?_eq_some_iff.mp e).1
     simp at this
     omega
    subst this
    simp at e
    subst e
    rw[ol]
    exact mono i o _ _ hlt fresh ot
  cases o with
  | none=>
   refine⟨os++[none],by simp[ol],s3,?_,all⟩
   rw[DP,List.append_nil]
   exact hd2
  | some z=>
   refine⟨_,hd2,by omega,os++[some z],by simp[ol],?_,?_,fun j o' e=>?_⟩
   ·intro b u e
    rw[af (ao e hD)]
    exact s3 _ _ e
   ·rw[DP]
    exact ae
   ·refine mono j o' _ _ (by have:=(List.getElem?_eq_some_iff.mp e).1;simp at this;omega) ?_ (all j o' e)
    intro b u e
    obtain⟨h1,h2⟩:=cQ.mp e
    refine cQ.mpr ⟨h1,?_⟩
    have hb:b≠D:=fun z=>by subst z;rw[ae] at h1;cases h1
    rw[af hb]
    exact h2
 ·have e:i=n:=by omega
  subst e
  exact .inl ⟨hstop Hi sm,hq D Hi os hD sm ol hd out⟩
theorem Ub {K:PySem.W.Frag} {H H':Hp} {a:Addr} {xs:List V} (e:ax H H') (h:aM K H a xs):aM K H' a xs:=e.seq h
theorem BL {K:PySem.W.Frag} {a:Addr} {xs:List V} {Out:Nat→Option V→Hp→Prop} {g:TG} {tt:TT} {te:TE} {vs:List Nat} {σ:L2.St} {H:Hp} {Q:VK} (hn:xs.length<sizeLine) (hl:aM K H a xs)
  (mono:∀i o F F',ax F F'→Out i o F→Out i o F')
  (ht:∀i x H' R,xs[i]?=some x→ax H H'→(∀o H'',ax H' H''→Out i o (rN H' H'')→R o H'')→GR g tt te vs σ x H' R)
  (hq:∀(D:Addr) (Hend:Hp) (os:List (Option V)),H D=none→ax H Hend→os.length=xs.length→Hend D=some (.lst (os.filterMap id))→(∀i o,os[i]?=some o→Out i o (rN (upd H D (.lst [])) Hend))→Q (.ref D) Hend) :
  Sf (RT K a) g tt te vs σ H Q:=
 (LO (J:=RT K a) (n:=xs.length) (Y:=fun i x H'=>xs[i]?=some x) (Out:=Out) hn (fun H' s=>⟨xs,s.seq hl,Nat.le_refl _⟩) (fun i H' hi s=>⟨xs,xs[i],s.seq hl,by simp[hi]⟩)
  (fun i H' x H'' hi s y=>by obtain⟨e,y⟩:=y;subst e;exact⟨ax.refl _,y xs (s.seq hl)⟩) (fun i o F F' _=>mono i o F F') (fun i x H' R hi s y=>ht i x H' R y s) hq)
theorem S5 {K:PySem.W.Frag} {a:Addr} {xs:List V} {Out:Nat→Option V→Hp→Prop} {g:TG} {tt:TT} {te:TE} {vs:List Nat} {σ:L2.St} {H:Hp} {Q:VK} (hn:xs.length<sizeLine) (hl:aM K H a xs)
  (mono:∀i o F F',ax F F'→Out i o F→Out i o F')
  (ht:∀i x T H' R,xs[i]?=some x→ax H H'→H' T=some (.tup [.int (i:Nat),x])→(∀o H'',ax H' H''→Out i o (rN H' H'')→R o H'')→GR g tt te vs σ (.ref T) H' R)
  (hq:∀(D:Addr) (Hend:Hp) (os:List (Option V)),H D=none→ax H Hend→os.length=xs.length→Hend D=some (.lst (os.filterMap id))→(∀i o,os[i]?=some o→Out i o (rN (upd H D (.lst [])) Hend))→Q (.ref D) Hend) :
  Sf (Ss K a) g tt te vs σ H Q:=
 (LO (J:=Ss K a) (n:=xs.length) (Y:=fun i v H'=>∃T x,v=.ref T∧xs[i]?=some x∧H' T=some (.tup [.int (i:Nat),x])) (Out:=Out) hn (fun H' s=>⟨xs,s.seq hl,Nat.le_refl _⟩) (fun i H' hi s=>⟨xs,xs[i],s.seq hl,by simp[hi]⟩)
  (fun i H' x H'' hi s y=>by
   obtain⟨T,x,rfl,hT,rfl,y⟩:=y
   exact⟨aX hT,T,x,rfl,y xs (s.seq hl),ae⟩) (fun i o F F' _=>mono i o F F') (fun i x H' R hi s y=>by
   obtain⟨T,x,rfl,y,hT⟩:=y
   exact ht i x T H' R y s hT) hq)
theorem Vm {n:Nat} {Out:Nat→Option V→Hp→Prop} {g:TG} {tt:TT} {te:TE} {vs:List Nat} {σ:L2.St} {H:Hp} {Q:VK} (hn:n<sizeLine)
  (mono:∀i o F F',ax F F'→Out i o F→Out i o F')
  (ht:∀i H' R,i<n→ax H H'→(∀o H'',ax H' H''→Out i o (rN H' H'')→R o H'')→GR g tt te vs σ (.int (0+(i:Nat))) H' R)
  (hq:∀(D:Addr) (Hend:Hp) (os:List (Option V)),H D=none→ax H Hend→os.length=n→Hend D=some (.lst (os.filterMap id))→(∀i o,os[i]?=some o→Out i o (rN (upd H D (.lst [])) Hend))→Q (.ref D) Hend) :
  Sf (Sr 0 n) g tt te vs σ H Q:=by
 exact LO (J:=Sr 0 n) (n:=n) (Y:=fun i x H'=>x=.int (0+(i:Nat))) (Out:=Out) hn (fun H' s=>Nat.le_refl _) (fun i H' hi s=>hi)
  (fun i H' x H'' hi s y=>by obtain⟨e,y⟩:=y;subst e;exact⟨ax.refl _,y⟩) (fun i o F F' _=>mono i o F F') (fun i x H' R hi s y=>by subst y;exact ht i H' R hi s) hq
theorem gv {n:Nat} {f:Nat→Option V}:∀{os:List (Option V)},os.length=n→(∀i o,os[i]?=some o→o=f i)→os=(List.range n).map f:=by
 intro os hl h
 apply List.ext_getElem?
 intro i
 by_cases hi:i<n
 ·have e:os[i]?=some os[i]:=List.getElem?_eq_getElem (by omega)
  rw[e,h i _ e]
  simp[hi]
 ·rw[List.getElem?_eq_none (by omega),List.getElem?_eq_none (by simp;omega)]
theorem AG {J:It} {n:Nat} {g:TG} {tb:TS} {D:Ends} {σ:L2.St} {H:Hp} (Pv:Nat→L2.St→Hp→Prop) (h0:Pv 0 σ H) (hst:∀σ H,Pv n σ H→J.stop n H) (hgo:∀i σ H,i<n→Pv i σ H→J.go i H)
  (hs:∀i x σ H H',i<n→Pv i σ H→J.RX i H x H'→g x σ H' fun σ2 H2=>tb { D with nx:=Pv (i+1),ct:=Pv (i+1),bk:=D.nx } σ2 H2) (hd:∀σ H,Pv n σ H→D.nx σ H) :
  Gf (J) g tb D σ H:=by
 refine⟨fun i m σ H=>m=n - i∧i≤n∧Pv i σ H,⟨n,by simp,Nat.zero_le _,h0⟩,?_⟩
 rintro i m σ H ⟨rfl,hi,p⟩
 by_cases hlt:i<n
 ·exact .inr ⟨hgo i σ H hlt p,Pv (i+1),fun σ' H' p'=>⟨n - (i+1),by omega,rfl,hlt,p'⟩,fun x H' y=>hs i x σ H H' hlt p y⟩
 ·have e:i=n:=by omega
  subst e
  exact .inl ⟨hst σ H p,hd σ H p⟩
theorem E9 {K:PySem.W.Frag} {a:Addr} {xs:List V} {g:TG} {tb:TS} {D:Ends} {σ:L2.St} {H:Hp} (Pv:Nat→L2.St→Hp→Prop) (h0:Pv 0 σ H) (hl:∀i σ H,Pv i σ H→aM K H a xs)
  (hs:∀i x σ H,xs[i]?=some x→Pv i σ H→g x σ H fun σ2 H2=>tb { D with nx:=Pv (i+1),ct:=Pv (i+1),bk:=D.nx } σ2 H2) (hd:∀σ H,Pv xs.length σ H→D.nx σ H) :
  Gf (RT K a) g tb D σ H:=
 (AG (J:=RT K a) (n:=xs.length) Pv h0 (fun σ H p=>⟨xs,hl _ _ _ p,Nat.le_refl _⟩) (fun i σ H hi p=>⟨xs,xs[i],hl _ _ _ p,by simp[hi]⟩)
  (fun i x σ H H' hi p y=>by obtain⟨e,y⟩:=y;subst e;exact hs i x σ _ (y xs (hl _ _ _ p)) p) hd)
theorem Sk {K:PySem.W.Frag} {a:Addr} {xs:List V} {g:TG} {tb:TS} {D:Ends} {σ:L2.St} {H:Hp} (Pv:Nat→L2.St→Hp→Prop) (h0:Pv 0 σ H) (hl:∀i σ H,Pv i σ H→aM K H a xs)
  (hs:∀i x T σ H H',xs[i]?=some x→Pv i σ H→H T=none→ax H H'→H'=upd H T (.tup [.int (i:Nat),x])→g (.ref T) σ H' fun σ2 H2=>tb { D with nx:=Pv (i+1),ct:=Pv (i+1),bk:=D.nx } σ2 H2) (hd:∀σ H,Pv xs.length σ H→D.nx σ H) :
  Gf (Ss K a) g tb D σ H:=
 (AG (J:=Ss K a) (n:=xs.length) Pv h0 (fun σ H p=>⟨xs,hl _ _ _ p,Nat.le_refl _⟩) (fun i σ H hi p=>⟨xs,xs[i],hl _ _ _ p,by simp[hi]⟩)
  (fun i x σ H H' hi p y=>by
   obtain⟨T,x,rfl,hT,e,y⟩:=y
   exact hs i x T σ H H' (y xs (hl _ _ _ p)) p hT (by rw[e];exact aX hT) e) hd)
theorem Uv {K:PySem.W.Frag} {a b:Addr} {xs ys:List V} {g:TG} {tb:TS} {D:Ends} {σ:L2.St} {H:Hp} (hxy:xs.length≤ys.length) (Pv:Nat→L2.St→Hp→Prop) (h0:Pv 0 σ H) (hl:∀i σ H,Pv i σ H→aM K H a xs∧aM K H b ys)
  (hs:∀i x y T σ H H',xs[i]?=some x→ys[i]?=some y→Pv i σ H→H T=none→ax H H'→H'=upd H T (.tup [x,y])→g (.ref T) σ H' fun σ2 H2=>tb { D with nx:=Pv (i+1),ct:=Pv (i+1),bk:=D.nx } σ2 H2) (hd:∀σ H,Pv xs.length σ H→D.nx σ H) :
  Gf (UN K a b) g tb D σ H:=
 (AG (J:=UN K a b) (n:=xs.length) Pv h0 (fun σ H p=>⟨xs,ys,(hl _ _ _ p).1,(hl _ _ _ p).2,.inl (Nat.le_refl _)⟩) (fun i σ H hi p=>⟨xs,ys,xs[i],ys[i],(hl _ _ _ p).1,(hl _ _ _ p).2,by simp[hi],List.getElem?_eq_getElem _⟩)
  (fun i x σ H H' hi p y=>by
   obtain⟨T,x,z,rfl,hT,e,y1,y2⟩:=y
   exact hs i x z T σ H H' (y1 xs (hl _ _ _ p).1) (y2 ys (hl _ _ _ p).2) p hT (by rw[e];exact aX hT) e) hd)
theorem Uw {x:Str} {g:TG} {tb:TS} {D:Ends} {σ:L2.St} {H:Hp} (Pv:Nat→L2.St→Hp→Prop) (h0:Pv 0 σ H)
  (hs:∀i c σ H,x.cps.toList[i]?=some c→Pv i σ H→g (.str ⟨#[c]⟩) σ H fun σ2 H2=>tb { D with nx:=Pv (i+1),ct:=Pv (i+1),bk:=D.nx } σ2 H2) (hd:∀σ H,Pv x.cps.toList.length σ H→D.nx σ H) :
  Gf (UO x) g tb D σ H:=
 (AG (J:=UO x) (n:=x.cps.size) Pv h0 (fun σ H p=>Nat.le_refl _) (fun i σ H hi p=>hi)
  (fun i v σ H H' hi p y=>by
   obtain⟨e,c,hc,rfl⟩:=y
   subst e
   exact hs i c σ _ (by simpa using hc) p) (fun σ H p=>hd σ H (by simpa using p)))
theorem ez {b:Bool} {A B:Prop} (h1:b=false→A) (h2:b=true→B):if (!b)=true then A else B:=by
 cases b with
 | true=>rw[if_neg (by decide)];exact h2 rfl
 | false=>exact h1 rfl
end Kp
end
section
set_option maxHeartbeats 4000000
namespace Kp
open PySem PySem.Spec PyProof.Rows L2
noncomputable def nats (l:List Nat):List V:=l.map fun (n:Nat)=>V.int (n:Int)
noncomputable def Pf :List V→Hp→VK→Prop:=fun vs H Q=>∃(d:Addr) (kvs:List (Key×V)) (ks:List Int),vs=[V.ref d]∧H d=some (.dK kvs)∧kvs.map (·.1)=ks.map Sum.inl∧ks.length<64 ∧
 ∀(ns':List Int) (p:Addr),ns'.Perm ks→ns'.Pairwise (·≤·)→H p=none→Q (.ref p) (upd H p (.lst (ns'.map V.int)))
theorem Ay {P:Program} {w:World}:∀(vs:List Value) (ks:List Int),vs.length=ks.length→(∀(j:Nat) (v:Value),vs[j]?=some v→∃k:Int,ks[j]?=some k∧EY (Sum.inl k) v=true)→IntsAre vs ks
 | [],[],_,_=>.nil
 | [],_::_,h,_=>by simp at h
 | _ ::_,[],h,_=>by simp at h
 | v ::vs,k::ks,h,g=>by
  obtain⟨k',e,hk⟩:=g 0 v rfl
  have e':k=k':=Option.some.inj e
  subst e'
  rcases eF hk with ⟨i,t,e1,rfl⟩ | ⟨x,t,e1,_⟩
  ·cases e1
   exact .cons k t (Ay (P:=P) (w:=w) vs ks (by simpa using h) fun j v hj=>g (j+1) v hj)
  ·cases e1
theorem UE {prog:Program} {w:World} {A:Around} {E:Value→Shared→Prop} {s:Shared} {T:String} {r d:Addr} {n:Nat} {P:Nat→Value→Prop} {OK:Heap→Prop} {R:List Value→Shared→Prop}
  (K:PySem.W.KdlSrc prog w T r d n P OK) (hh:A.handled=none) (dN:OK s.heap) (hn:n≤sizeLine)
  (h:∀(g:Heap) (tk:Nat) (acc:Array Value),(∀b o,s.heap.get? b=some o→g.get? b=some o)→s.heap.objs.size<g.objs.size→ItemsOf P acc n→R acc.toList { s with heap:=g,toks:=tk }) :
  wpAny (model prog w) A (collect (.ref r)) R E s:=by
 have there:=K.there _ dN
 unfold collect
 refine wpAny_bind ?_
 refine wpAny_runValue (codeAny_builtin entry_proto_collect' ?_)
 rw[Around.under_plainId PySem.F.plain_proto_collect]
 refine (show wpAny (model prog w) A.in1 (do let l ←newList [];again (.builtin "list.__iadd__" ⟨[l,.ref r],[]⟩)) _ _ s from ?_)
 refine wpAny_bind ?_
 refine wpAny_newObj_type ?_
 refine wpAny_pure ⟨plainId_quiet PySem.F.plain_list_iadd _,?_⟩
 refine codeAny_builtin entry_list_iadd' ?_
 rw[Around.under_plainId PySem.F.plain_list_iadd]
 let s1:Shared:={ s with heap:=s.heap.push { cls:=.type "list",data:=.seq ([]:List Value).toArray } }
 have at1:s1.heap.get? s.heap.objs.size=some { cls:=.type "list",data:=.seq #[] }:=Heap.get?_push_size _ rfl
 have run:=PySem.W.kdl_extend (A:=A) (s:=s1)
  (R:=fun (q:Result) (t:Shared)=>∃(g:Heap) (tk:Nat) (acc:Array Value) (c:Nat),q=.ok (.ret (.ref s.heap.objs.size))∧t={ s with heap:=g,toks:=tk } ∧
   (∀b o,s.heap.get? b=some o→g.get? b=some o)∧g.get? s.heap.objs.size=some { cls:=.type "list",dict:=none,data:=.seq acc c,slots:=#[] }∧ItemsOf P acc n)
  K hh (K.keep _ _ dN fun b _ o e=>Heap.get?_push_of_some _ e) s.heap.objs.size (Nat.ne_of_gt there.1) (Nat.ne_of_gt there.2) (.ref s.heap.objs.size) 0 at1
  (fun g tk acc c kp at2 it=>⟨g,tk,acc,c,rfl,rfl,fun b o e=>kp b o (Nat.ne_of_lt (Heap.lt_size e)) (Heap.get?_push_of_some _ e),at2,it⟩) hn
 refine wpAny_mono run (fun fin t x=>?_) fun e t x=>?_
 ·cases fin with
  | done f=>
   obtain⟨g,tk,acc,c,e,rfl,kp,at2,it⟩:=x
   cases e
   refine wpAny_bind (wpAny_load at2 ?_)
   exact wpAny_pure (h g tk acc kp (Heap.lt_size at2) it)
  | again c1=>
   refine⟨x.1,?_⟩
   refine codeAny_mono x.2 fun q t2 y=>?_
   obtain⟨g,tk,acc,c,rfl,rfl,kp,at2,it⟩:=y
   refine wpAny_bind (wpAny_load at2 ?_)
   exact wpAny_pure (h g tk acc kp (Heap.lt_size at2) it)
 ·obtain⟨_,_,_,_,no,_⟩:=x
  cases no
theorem Fp {X:Cx} (hc:X.calm=true):wF X (.builtin "sorted") Pf:=by
 intro pins s σ H vs us Q I r h
 obtain⟨d,kvs,ks,rfl,hd,hks,h64,q⟩:=h
 rw[Vals.Q5 r]
 obtain⟨z,lo,xs,kv,dd⟩:=Fo I.dN (.inl hd)
 obtain⟨ep,hat⟩:=dd.dictAt
 have hxl:kvs.length=xs.length:=KV.length kv
 have hkl:kvs.length=ks.length:=by have:=congrArg List.length hks;simpa using this
 refine Calls.call_function_entry kind_sorted plain_sorted entry_sorted (args_sorted1 _) ?_
 unfold Builtin.«sorted»
 refine wpAny_bind (m:=checkCount "sorted" 1 1 _) (wpAny_pure ?_)
 refine wpAny_bind (UE (A:=X.A.in1) (PySem.W.kdl_dict (knd:=fZ X.prog X.w) (kvs:=xs) (ep:=ep) lo) (I.ok.hd hc) hat (by rw[←hxl];exact z) fun h' tk acc hk hsz hacc=>?_)
 have hl:acc.toList.length=ks.length:=by rw[Array.length_toList,hacc.1,←hxl,hkl]
 have hI:IntsAre acc.toList ks:=Ay (P:=X.prog) (w:=X.w) acc.toList ks hl fun j v hj=>by
  obtain⟨k,x,hx,hi⟩:=hacc.2 j v (by rw[←Array.getElem?_toList];exact hj)
  have hj2:j<kvs.length:=by rw[hxl];exact (List.getElem?_eq_some_iff.mp hx).1
  obtain⟨y,hy,hr⟩:=Ly kv (show kvs[j]?=some kvs[j] from List.getElem?_eq_getElem hj2)
  rw[hx] at hy
  cases hy
  have e1:(kvs.map (·.1))[j]?=some kvs[j].1:=by rw[List.getElem?_map,List.getElem?_eq_getElem hj2];rfl
  rw[hks,List.getElem?_map] at e1
  cases e2:ks[j]? with
  | none=>rw[e2] at e1;cases e1
  | some k'=>
   rw[e2] at e1
   have e3:Sum.inl k'=kvs[j].1:=Option.some.inj e1
   refine⟨k',rfl,?_⟩
   rw[e3,hr.1]
   exact hi
 have h64':acc.toList.length<64:=by rw[hl];exact h64
 refine wpAny_bind (wpAny_newList ?_ (by rw[sizeLine_eq];omega))
 have hoL:(h'.push (seqObj "list" acc.toList.toArray 0)).get? h'.objs.size=some (seqObj "list" acc.toList.toArray 0):=Heap.get?_push_size _ rfl
 show wpAny _ _ _ _ _ { s with heap:=h'.push (seqObj "list" acc.toList.toArray 0),toks:=tk }
 refine wpAny_bind (wpAny_holding (wpAny_call_entry slot_list_sort ⟨_,hoL,rfl⟩ entry_list_sort (list_sort_tree hoL hI h64' fun out ns' a1 a2 a3=>⟨_,rfl,?_⟩) (args_list_sort _)))
 refine wpAny_pure ⟨_,rfl,?_⟩
 obtain⟨ep',he'⟩:=sortedHeap_at (n:=0) (out:=out) hoL
 have hle:s.heap.objs.size≤h'.objs.size:=Nat.le_of_lt hsz
 have hlen:(ns'.map V.int).length≤sizeLine:=by rw[List.length_map,a2.length_eq,sizeLine_eq];omega
 refine⟨.ref _,upd H h'.objs.size (.lst (ns'.map V.int)),I.laid (t':=tk) (fun b u e=>?_) hle ⟨hlen,out.toList,ep',sW a1,he'⟩,rfl,q ns' _ a2 a3 (I.dN.fresh hle)⟩
 have hb:=Heap.lt_size (hk _ _ e)
 rw[sortedHeap_old (Nat.ne_of_lt hb) (by rw[size_push'];exact Nat.lt_succ_of_lt hb)]
 exact Heap.get?_push_of_some _ (hk _ _ e)
noncomputable def TU (H:Hp) (t:List Nat) (u:Value):Bool:=match u with
 | .ref a=>(match H a with
  | some (.lst xs)=>decide (xs=nats t)
  | _=>false)
 | _=>false
theorem DR {K:PySem.W.Frag} {H:Hp}:∀ns:List Nat,FL K H (nats ns) (ns.map fun (n:Nat)=>PyData.int (n:Int))
 | []=>.nil
 | n ::r=>.cons (.int n) (DR r)
theorem lay_ints :∀ns:List Nat,PyData.canLayAll0 (ns.map fun (n:Nat)=>PyData.int (n:Int))=true
 | []=>rfl
 | n ::r=>by
  show (PyData.canLay0 (PyData.int n)&&PyData.canLayAll0 (r.map fun (n:Nat)=>PyData.int (n:Int)))=true
  rw[lay_ints r]
  rfl
theorem Hd :∀ns:List Nat,PyData.depthAll (ns.map fun (n:Nat)=>PyData.int (n:Int))=0
 | []=>rfl
 | n ::r=>by
  show max (PyData.depth (PyData.int n)) (PyData.depthAll (r.map fun (n:Nat)=>PyData.int (n:Int)))=0
  rw[Hd r]
  rfl
noncomputable def vX (t:List Nat):PyData:=.list (t.map fun (n:Nat)=>PyData.int (n:Int))
theorem EX (t:List Nat):(vX t).canLay0=true:=lay_ints t
theorem B3 (t:List Nat):(vX t).depth=1:=by
 show PyData.depthAll _+1=1
 rw[Hd]
theorem Km :∀a b:List Nat,PyData.eqvAll (a.map fun (n:Nat)=>PyData.int (n:Int)) (b.map fun (n:Nat)=>PyData.int (n:Int))=decide (a=b)
 | [],[]=>rfl
 | [],_::_=>rfl
 | _ ::_,[]=>rfl
 | x ::a,y::b=>by
  show ((PyData.eqv (.int x) (.int y))&&PyData.eqvAll (a.map fun (n:Nat)=>PyData.int (n:Int)) (b.map fun (n:Nat)=>PyData.int (n:Int)))=decide (x::a=y::b)
  rw[Km a b]
  show (((x:Int)==(y:Int))&&decide (a=b))=_
  rw[Bool.eq_iff_iff]
  simp
  omega
theorem Kl (a b:List Nat):PyData.eqv (vX a) (vX b)=decide (a=b):=Km a b
theorem PM {a b:List Nat}:nats a=nats b↔a=b:=by
 constructor
 ·intro h
  unfold nats at h
  induction a generalizing b with
  | nil=>cases b with
   | nil=>rfl
   | cons y b=>cases h
  | cons x a ih=>cases b with
   | nil=>cases h
   | cons y b=>
    rw[List.map_cons,List.map_cons] at h
    injection h with h1 h2
    injection h1 with h1
    rw[ih h2]
    congr 1
    omega
 ·intro h
  rw[h]
noncomputable def gK (H:Hp) (ws:List V) (ts:List (List Nat)):Prop:=ws.length=ts.length∧∀(i:Nat) (v:V) (t:List Nat),ws[i]?=some v→ts[i]?=some t→∃a,v=.ref a∧H a=some (.lst (nats t))
section
variable {X:Cx} {pins:List (Addr×Obj)} {σ:L2.St} {H:Hp} {s:Shared}
theorem GV (I:Inv X pins σ H s) {a:Addr} {t:List Nat} (h:H a=some (.lst (nats t))):∃as,Reads s.heap (.ref a) (vX t) as:=Dp.reads I (vX t) (.ref a) (.ref a) (.lst (aM.of h) (DR t)) rfl
theorem Hb (I:Inv X pins σ H s) {a b:Addr} {t u:List Nat} (h:H a=some (.lst (nats t))) (h':H b=some (.lst (nats u))) {A:Around} (hu:A.units+1<cLine):SeqAt.EqAt A s (.ref a) (.ref b) (decide (t=u)):=by
 obtain⟨as,r1⟩:=GV I h
 obtain⟨bs,r2⟩:=GV I h'
 rw[←Kl]
 exact SeqAt.eqAt_reads (vX t) (vX u) A s (.ref a) (.ref b) as bs r1 r2 (EX t) (EX u) (by rw[B3,B3];exact hu)
theorem B2 {a:Addr} {t u:List Nat} (h:H a=some (.lst (nats t))):TU H u (.ref a)=decide (t=u):=by
 show (match H a with
  | some (.lst xs)=>decide (xs=nats u)
  | _=>false)=_
 rw[h]
 exact decide_eq_decide.mpr PM
theorem vJ {ws:List V} {ts:List (List Nat)} (L:gK H ws ts) {its:List Value} (r:Vals ws its) {j:Nat} {u:Value} (h:its[j]?=some u):∃a t,u=.ref a∧ts[j]?=some t∧H a=some (.lst (nats t)):=by
 have hj:j<its.length:=(List.getElem?_eq_some_iff.mp h).1
 have hl:=r.length
 have e1:ws[j]?=some ws[j]:=List.getElem?_eq_getElem (by omega)
 have e2:ts[j]?=some (ts[j]'(by have:=L.1;omega)):=List.getElem?_eq_getElem _
 obtain⟨a,ea,ha⟩:=L.2 j _ _ e1 e2
 obtain⟨u',hu',ru⟩:=r.get e1
 rw[h] at hu'
 cases hu'
 rw[ea] at ru
 exact⟨a,_,ru,e2,ha⟩
end
noncomputable def Ve :R2:=fun x y H Q=>∃(la wl:Addr) (t:List Nat) (ws:List V) (ts:List (List Nat)),x=.ref la∧y=.ref wl∧H la=some (.lst (nats t))∧H wl=some (.lst ws)∧gK H ws ts∧Q (.bl (ts.contains t)) H
theorem Jb {H:Hp} {ts:List (List Nat)} {t:List Nat} {its:List Value} (hl:its.length=ts.length) (h:∀(j:Nat) (u:Value),its[j]?=some u→∃a t',u=.ref a∧ts[j]?=some t'∧H a=some (.lst (nats t'))):its.any (TU H t)=ts.contains t:=by
 rw[Bool.eq_iff_iff,List.any_eq_true,List.contains_iff_mem]
 constructor
 ·rintro⟨u,hu,e⟩
  obtain⟨j,hj⟩:=List.getElem?_of_mem hu
  obtain⟨a,t',rfl,ht,ha⟩:=h j u hj
  rw[B2 ha] at e
  rw[←of_decide_eq_true e]
  exact List.mem_of_getElem? ht
 ·intro m
  obtain⟨j,hj⟩:=List.getElem?_of_mem m
  have hj2:j<its.length:=by have:=(List.getElem?_eq_some_iff.mp hj).1;omega
  have e:its[j]?=some its[j]:=List.getElem?_eq_getElem hj2
  obtain⟨a,t',ea,ht,ha⟩:=h j _ e
  rw[hj] at ht
  cases ht
  refine⟨its[j],List.getElem_mem _,?_⟩
  rw[ea,B2 ha]
  exact decide_eq_true rfl
theorem JO {X:Cx} (hu:X.A.units+64<cLine):zp X (compareOp .In) Ve:=by
 intro pins s σ H x y v u Q I rx ry h
 obtain⟨la,wl,t,ws,ts,rfl,rfl,hla,hwl,L,q⟩:=h
 cases rx
 cases ry
 obtain⟨its,r,pl,hz⟩:=I.list (aM.of hwl)
 have hl:its.length=ts.length:=by rw[←r.length];exact L.1
 refine SeqAt.in_listAt (TU H t) pl.isList (fun w hw=>?_) ⟨.bl _,H,I,rfl,?_⟩
 ·obtain⟨j,hj⟩:=List.getElem?_of_mem (show w∈its by simpa using hw)
  obtain⟨a,t',rfl,ht,ha⟩:=vJ L r hj
  rw[B2 ha]
  exact Hb I ha hla (by show X.A.units+1+1<cLine;omega)
 ·rw[show its.toArray.any (TU H t)=its.any (TU H t) by simp,Jb hl fun j u hj=>vJ L r hj]
  exact q
noncomputable def Q7 :V→List V→Hp→VK→Prop:=fun x xs H Q=>∃(la wl:Addr) (t:List Nat) (ws:List V) (ts:List (List Nat)),x=.ref wl∧xs=[.ref la]∧H la=some (.lst (nats t))∧H wl=some (.lst ws)∧gK H ws ts∧t∈ts∧Q (.int (ts.idxOf t:Nat)) H
theorem P2 :∀{l:List (List Nat)} {i:Nat} {x:List Nat},l[i]?=some x→l.idxOf x≤i
 | [],i,x,h=>by simp at h
 | a ::l,0,x,h=>by
  have e:a=x:=Option.some.inj h
  subst e
  rw[List.idxOf_cons_self]
  exact Nat.le_refl _
 | a ::l,i+1,x,h=>by
  have ih:=P2 (l:=l) (i:=i) (x:=x) (by simpa using h)
  rw[List.idxOf_cons]
  cases a==x<;>simp<;>omega
theorem EM {X:Cx} (hu:X.A.units+64<cLine):U6 X "list.index" Q7:=by
 intro pins s σ H x xs v us Q I rx rxs h
 obtain⟨la,wl,t,ws,ts,rfl,rfl,hla,hwl,L,hm,q⟩:=h
 cases rx
 cases rxs with
 | cons ry rt=>
  rename_i uy ut
  cases rt
  cases ry
  obtain⟨its,rv,⟨⟨cls,dd,data,sl⟩,n,ho,hc,hdn,hd⟩,hlen⟩:=I.list (aM.of (K:=X.K) hwl)
  simp only at hc hd
  subst hc hd
  have hl:its.length=ts.length:=by rw[←rv.length];exact L.1
  have hjt:ts.idxOf t<ts.length:=List.idxOf_lt_length_of_mem hm
  have hj:ts.idxOf t<its.toArray.size:=by rw[List.size_toArray,hl];exact hjt
  have hsl:=sizeLine_eq
  have hw2:=rv.length
  have sml:(ts.idxOf t:Int)<2 ^ 63 - 1:=by omega
  refine call_meets PySem.F.slot_list_index ⟨_,ho,rfl⟩ PySem.F.entry_list_index (PySem.F.args_list_index_2 _ _)
   (SeqAt.list_indexAt wl its.toArray n dd sl (.ref la) (TU H t) (ts.idxOf t) hj sml ?_ ?_) ⟨ho,fun w hw=>?_,?_⟩
  ·have e1:its[ts.idxOf t]?=some (its[ts.idxOf t]'(by omega)):=List.getElem?_eq_getElem _
   obtain⟨a,t',ea,ht,ha⟩:=vJ L rv e1
   have e2:its.toArray[ts.idxOf t]=.ref a:=by simpa using ea
   rw[e2,B2 ha]
   have e3:ts[ts.idxOf t]?=some (ts[ts.idxOf t]):=List.getElem?_eq_getElem hjt
   rw[e3] at ht
   cases ht
   rw[List.getElem_idxOf hjt]
   exact decide_eq_true rfl
  ·intro m hm2 hmj
   have hm3:m<its.length:=by simpa using hm2
   have e1:its[m]?=some its[m]:=List.getElem?_eq_getElem hm3
   obtain⟨a,t',ea,ht,ha⟩:=vJ L rv e1
   have e2:its.toArray[m]=.ref a:=by simpa using ea
   rw[e2,B2 ha]
   refine decide_eq_false fun z=>?_
   subst z
   have hmt:m<ts.length:=by omega
   have e4:ts[m]=t':=by
    rw[List.getElem?_eq_getElem hmt] at ht
    exact Option.some.inj ht
   have hle:=P2 ht
   omega
  ·obtain⟨j,hj⟩:=List.getElem?_of_mem (show w∈its by simpa using hw)
   obtain⟨a,t',rfl,ht,ha⟩:=vJ L rv hj
   rw[B2 ha]
   exact Hb I ha hla (by show X.A.units+1+1<cLine;omega)
  ·exact⟨.int _,H,I.tok _,⟨_,rfl⟩,q⟩
end Kp
end
section
set_option maxHeartbeats 4000000
namespace Kp
open PySem PySem.Spec PyProof.Rows L2
section
theorem ty_list {K:PySem.W.Frag} {H:Hp} {a:Addr} {xs:List V} (h:aM K H a xs):US K "list" (.ref a) H:=.inl ⟨rfl,xs,h⟩
noncomputable def FP (K:PySem.W.Frag) (A:Ad):Sp:=fun vs0 H Q _=>∃(a dx:Addr) (s h:Int) (w:V) (c:Int),vs0=[.ref a,.int c]∧(H a=some (.ins A.bh dx (cP (.int s) (.int h) w)))∧(Q (.bl (decide (c=s) || decide (c=h))) H)
theorem yf {P:Program} {w:World} {K:PySem.W.Frag} {mg:Str→Option Value} {base:Heap} {A:Ad} (T:Txt K mg A):bz P w K mg base gw 1 A.jA A.jJ ["place","party"] (FP K A):=by
 refine T.qL.ok FY (fun vs H Q E h=>?_) (fun cdv Ar outer sh H vs Q E hr h=>?_)
 ·obtain⟨_,_,_,_,_,_,rfl,_⟩:=h
  rfl
 ·obtain⟨a,dx,s,h,w,c,rfl,h1,kk⟩:=h
  have hu:=aY hr
  have hu64:=hr.units
  refine⟨_,(ag (aq (Mt (jm cg (pv 1) (ak (pv 0) rfl) (aI _)) (yQ (jm cg (pv 1) (ak (pv 0) rfl) (aI _)))))),?_⟩
  try dsimp only[Of]
  refine⟨_,rfl,⟨_,rfl,⟨_,_,_,_,_,rfl,by assumption,T.bh,T.bq,bG,(bJ ⟨_,rfl,aL (fun h=>?t1) (fun h=>⟨_,rfl,⟨_,rfl,⟨_,_,_,_,_,rfl,by assumption,T.bh,T.cT,hU,(bJ ?r0)⟩⟩⟩)⟩)⟩⟩⟩
  case t1=>rw[show decide (c=s)=true from decide_eq_true (by assumption)] at kk;exact kk
  case r0=>rw[show decide (c=s)=false from decide_eq_false (by assumption)] at kk;exact kk
noncomputable def Nl (K:PySem.W.Frag) (A:Ad):Sp:=fun vs0 H Q _=>∃(b:Int),vs0=[.int b]∧(0≤b∧b≤1000)∧(Q (.int (if b=255 then 4294967296 else 2 ^ b.toNat)) H)
theorem NM {P:Program} {w:World} {K:PySem.W.Frag} {mg:Str→Option Value} {base:Heap} {A:Ad} (T:Txt K mg A):bz P w K mg base gw 1 A.sy A.sH ["behind"] (Nl K A):=by
 refine T.IJ.ok Np (fun vs H Q E h=>?_) (fun cdv Ar outer sh H vs Q E hr h=>?_)
 ·obtain⟨_,rfl,_⟩:=h
  rfl
 ·obtain⟨b,rfl,hb,kk⟩:=h
  have hu:=aY hr
  have hu64:=hr.units
  refine⟨_,(ab (aT (aA cg (pv 0) (aw rfl T.yj) (aI _)) (ag (aq (aw rfl T.vP))) ay)
   (ag (aq (bX HX aH (pv 0))))),?_⟩
  try dsimp only[Of]
  refine⟨_,rfl,(bJ ⟨_,rfl,(aL (fun h=>?r0) (fun h=>⟨_,rfl,⟨_,_,rfl,rfl,?c2,?r1⟩⟩))⟩)⟩
  case r0=>rw[if_pos (by assumption)] at kk;exact kk
  case c2=>exact⟨hb.1,by omega,by decide⟩
  case r1=>dsimp only;rw[if_neg (by assumption)] at kk;rw[Int.one_mul];exact kk
noncomputable def FQ (K:PySem.W.Frag) (A:Ad):Sp:=fun vs0 H Q _=>∃(n b:Int),vs0=[.int n,.int b]∧(0<b∧b<1073741824)∧(Q (.int ((n+b - 1) / b)) H)
theorem yg {P:Program} {w:World} {K:PySem.W.Frag} {mg:Str→Option Value} {base:Heap} {A:Ad} (T:Txt K mg A):bz P w K mg base gw 1 A.jB A.jK ["number","by"] (FQ K A):=by
 refine T.qM.ok FZ (fun vs H Q E h=>?_) (fun cdv Ar outer sh H vs Q E hr h=>?_)
 ·obtain⟨_,_,rfl,_⟩:=h
  rfl
 ·obtain⟨n,b,rfl,hb,kk⟩:=h
  have hu:=aY hr
  have hu64:=hr.units
  refine⟨_,(ag (aq (bX My (bX tJ (bX pK (pv 0) (pv 1)) aH) (pv 1)))),?_⟩
  try dsimp only[Of]
  refine⟨_,rfl,⟨_,rfl,⟨_,_,rfl,rfl,⟨_,_,rfl,rfl,⟨_,rfl,⟨_,_,rfl,rfl,?c1,?r0⟩⟩⟩⟩⟩⟩
  case c1=>exact hb
  case r0=>exact kk
noncomputable def Jv (K:PySem.W.Frag) (A:Ad):Sp:=fun vs0 H Q _=>∃(b:Int),vs0=[.int b]∧(Q (.bl (decide (48≤b)&&decide (b≤57))) H)
theorem CG {P:Program} {w:World} {K:PySem.W.Frag} {mg:Str→Option Value} {base:Heap} {A:Ad} (T:Txt K mg A):bz P w K mg base gw 1 A.mO A.mV ["byte"] (Jv K A):=by
 refine T.xm.ok JC (fun vs H Q E h=>?_) (fun cdv Ar outer sh H vs Q E hr h=>?_)
 ·obtain⟨_,rfl,_⟩:=h
  rfl
 ·obtain⟨b,rfl,kk⟩:=h
  have hu:=aY hr
  have hu64:=hr.units
  refine⟨_,(ag (aq (Ex ma ma (aD sL (by rfl) T.A5 boot_ord (aa yP ah)) (pv 0) (aD sL (by rfl) T.A5 boot_ord (aa yP ah))))),?_⟩
  try dsimp only[Of]
  refine⟨_,rfl,rfl,⟨_,rfl,⟨_,_,rfl,rfl,_,rfl,aL (fun h=>⟨_,rfl,rfl,⟨_,_,rfl,rfl,?r0⟩⟩) (fun h=>?f1)⟩⟩⟩
  case r0=>
   rw[show decide (48≤b)=true from decide_eq_true (by assumption)] at kk;exact kk
  case f1=>
   rw[show decide (48≤b)=false from decide_eq_false (by assumption)] at kk;exact kk
end
section
theorem len0 :([]:List (Str×V)).length≤0:=Nat.le_refl _
theorem dM {f:Str} {v:V} {fs:List (Str×V)} {n:Nat} (h:fs.length≤n):(aF f v fs).length≤n+1:=Nat.le_trans (vK f v fs) (Nat.succ_le_succ h)
theorem eu {fs:List (Str×V)} {n:Nat} (h:fs.length≤n) (g:n<1000):fs.length<1000:=Nat.lt_of_le_of_lt h g
theorem Ao {C:Addr} {o:List (Str×V)} {sp:Sp} {args:List V} {E:XK} (hs:∀(x dx:Addr) (H':Hp) (Q:VK),H' x=some (.ins C dx [])→(∀H'',H'' x=some (.ins C dx o)→rM x H' H''→Q .dh H'')→sp (.ref x::args) H' Q E) {H:Hp} {R:Addr→Hp→Prop}
  (k:∀(x dx:Addr) (H':Hp),H x=none→ax H H'→H' x=some (.ins C dx o)→R x H') :
  ∀x dx,H x=none→H dx=none→dx≠x→sp (.ref x::args) (upd (upd H dx (.own x)) x (.ins C dx [])) (fun v H2=>v=.dh∧R x H2) E:=fun x dx hx hdx _=>
 hs x dx _ _ ae fun H'' h b=>⟨rfl,k x dx H'' hx (fun c u e=>b c u (by rw[af (ao e hx),af (ao e hdx)];exact e) (ao e hx)) h⟩
noncomputable def sZ (K:PySem.W.Frag) (A:Ad):Sp:=fun vs0 H Q _=>∃(x dx:Addr) (a_refusal a_rows:V),vs0=[.ref x,a_refusal,a_rows]∧(H x=some (.ins A.fo dx []))∧(∀H',H' x=some (.ins A.fo dx (iI a_refusal a_rows))→rM x H H'→Q .dh H')
theorem oU {P:Program} {w:World} {K:PySem.W.Frag} {mg:Str→Option Value} {base:Heap} {A:Ad} (T:Txt K mg A):bz P w K mg base gw 1 A.kO A.kY ["self","refusal","rows"] (sZ K A):=by
 refine T.Fj.ok HJ (fun vs H Q E h=>?_) (fun cdv Ar outer sh H vs Q E hr h=>?_)
 ·obtain⟨_,_,_,_,rfl,_⟩:=h
  rfl
 ·obtain⟨x,dx,a_refusal,a_rows,rfl,h1,kk⟩:=h
  have hu:=aY hr
  have hu64:=hr.units
  refine⟨_,(ab (bA (pv 0) (pv 1) rfl)
   (ag (bA (pv 0) (pv 2) rfl))),?_⟩
  try dsimp only[Of]
  refine⟨_,rfl,⟨_,rfl,_,_,_,_,rfl,h1,T.fo,T.gA,eu len0 (by decide),⟨_,rfl,⟨_,rfl,_,_,_,_,rfl,ae,T.fo,T.jb,eu (dM len0) (by decide),?e⟩⟩⟩⟩
  case e=>exact kk _ ae (fun b u e hb=>by rw[af hb];rw[af hb];exact e)
theorem qz {K:PySem.W.Frag} {A:Ad} {H:Hp} {R:Addr→Hp→Prop} {E:XK} {a_refusal a_rows:V} (k:∀(x dx:Addr) (H':Hp),H x=none→ax H H'→H' x=some (.ins A.fo dx (iI a_refusal a_rows))→R x H') :
  ∀x dx,H x=none→H dx=none→dx≠x→sZ K A (.ref x::([a_refusal,a_rows]:List V)) (upd (upd H dx (.own x)) x (.ins A.fo dx [])) (fun v H2=>v=.dh∧R x H2) E:=
 Ao (fun x dx H' Q h k=>⟨x,dx,_,_,rfl,h,k⟩) k
noncomputable def xV (K:PySem.W.Frag) (A:Ad):Sp:=fun vs0 H Q _=>∃(x dx:Addr) (a_least a_greatest:V),vs0=[.ref x,a_least,a_greatest]∧(H x=some (.ins A.bg dx []))∧(∀H',H' x=some (.ins A.bg dx (bL a_least a_greatest))→rM x H H'→Q .dh H')
theorem nj {P:Program} {w:World} {K:PySem.W.Frag} {mg:Str→Option Value} {base:Heap} {A:Ad} (T:Txt K mg A):bz P w K mg base gw 1 A.jD A.jM ["self","least","greatest"] (xV K A):=by
 refine T.CL.ok Ga (fun vs H Q E h=>?_) (fun cdv Ar outer sh H vs Q E hr h=>?_)
 ·obtain⟨_,_,_,_,rfl,_⟩:=h
  rfl
 ·obtain⟨x,dx,a_least,a_greatest,rfl,h1,kk⟩:=h
  have hu:=aY hr
  have hu64:=hr.units
  refine⟨_,(ab (bA (pv 0) (pv 1) rfl)
   (ag (bA (pv 0) (pv 2) rfl))),?_⟩
  try dsimp only[Of]
  refine⟨_,rfl,⟨_,rfl,_,_,_,_,rfl,h1,T.bg,T.cp,eu len0 (by decide),⟨_,rfl,⟨_,rfl,_,_,_,_,rfl,ae,T.bg,T.bQ,eu (dM len0) (by decide),?e⟩⟩⟩⟩
  case e=>exact kk _ ae (fun b u e hb=>by rw[af hb];rw[af hb];exact e)
theorem j4 {K:PySem.W.Frag} {A:Ad} {H:Hp} {R:Addr→Hp→Prop} {E:XK} {a_least a_greatest:V} (k:∀(x dx:Addr) (H':Hp),H x=none→ax H H'→H' x=some (.ins A.bg dx (bL a_least a_greatest))→R x H') :
  ∀x dx,H x=none→H dx=none→dx≠x→xV K A (.ref x::([a_least,a_greatest]:List V)) (upd (upd H dx (.own x)) x (.ins A.bg dx [])) (fun v H2=>v=.dh∧R x H2) E:=
 Ao (fun x dx H' Q h k=>⟨x,dx,_,_,rfl,h,k⟩) k
noncomputable def Cy (K:PySem.W.Frag) (A:Ad):Sp:=fun vs0 H Q _=>∃(x dx:Addr) (a_word a_behind:V),vs0=[.ref x,a_word,a_behind]∧(H x=some (.ins A.eh dx []))∧(∀H',H' x=some (.ins A.eh dx (nO a_word a_behind))→rM x H H'→Q .dh H')
theorem JR {P:Program} {w:World} {K:PySem.W.Frag} {mg:Str→Option Value} {base:Heap} {A:Ad} (T:Txt K mg A):bz P w K mg base gw 1 A.mR A.mY ["self","word","behind"] (Cy K A):=by
 refine T.G9.ok JD (fun vs H Q E h=>?_) (fun cdv Ar outer sh H vs Q E hr h=>?_)
 ·obtain⟨_,_,_,_,rfl,_⟩:=h
  rfl
 ·obtain⟨x,dx,a_word,a_behind,rfl,h1,kk⟩:=h
  have hu:=aY hr
  have hu64:=hr.units
  refine⟨_,(ab (bA (pv 0) (pv 1) rfl)
   (ag (bA (pv 0) (pv 2) rfl))),?_⟩
  try dsimp only[Of]
  refine⟨_,rfl,⟨_,rfl,_,_,_,_,rfl,h1,T.eh,T.cR,eu len0 (by decide),⟨_,rfl,⟨_,rfl,_,_,_,_,rfl,ae,T.eh,T.cA,eu (dM len0) (by decide),?e⟩⟩⟩⟩
  case e=>exact kk _ ae (fun b u e hb=>by rw[af hb];rw[af hb];exact e)
theorem EN {K:PySem.W.Frag} {A:Ad} {H:Hp} {R:Addr→Hp→Prop} {E:XK} {a_word a_behind:V} (k:∀(x dx:Addr) (H':Hp),H x=none→ax H H'→H' x=some (.ins A.eh dx (nO a_word a_behind))→R x H') :
  ∀x dx,H x=none→H dx=none→dx≠x→Cy K A (.ref x::([a_word,a_behind]:List V)) (upd (upd H dx (.own x)) x (.ins A.eh dx [])) (fun v H2=>v=.dh∧R x H2) E:=
 Ao (fun x dx H' Q h k=>⟨x,dx,_,_,rfl,h,k⟩) k
noncomputable def xW (K:PySem.W.Frag) (A:Ad):Sp:=fun vs0 H Q _=>∃(x dx:Addr) (a_place a_word a_tick a_former:V),vs0=[.ref x,a_place,a_word,a_tick,a_former]∧(H x=some (.ins A.bY dx []))∧(∀H',H' x=some (.ins A.bY dx (cM a_place a_word a_tick a_former))→rM x H H'→Q .dh H')
theorem Gh {P:Program} {w:World} {K:PySem.W.Frag} {mg:Str→Option Value} {base:Heap} {A:Ad} (T:Txt K mg A):bz P w K mg base gw 1 A.jE A.jN ["self","place","word","tick","former"] (xW K A):=by
 refine T.CM.ok Gb (fun vs H Q E h=>?_) (fun cdv Ar outer sh H vs Q E hr h=>?_)
 ·obtain⟨_,_,_,_,_,_,rfl,_⟩:=h
  rfl
 ·obtain⟨x,dx,a_place,a_word,a_tick,a_former,rfl,h1,kk⟩:=h
  have hu:=aY hr
  have hu64:=hr.units
  refine⟨_,(ab (bA (pv 0) (pv 1) rfl)
   (ab (bA (pv 0) (pv 2) rfl)
   (ab (bA (pv 0) (pv 3) rfl)
   (ag (bA (pv 0) (pv 4) rfl))))),?_⟩
  try dsimp only[Of]
  refine⟨_,rfl,⟨_,rfl,_,_,_,_,rfl,h1,T.bY,T.gk,eu len0 (by decide),⟨_,rfl,⟨_,rfl,_,_,_,_,rfl,ae,T.bY,T.jq,eu (dM len0) (by decide),⟨_,rfl,⟨_,rfl,_,_,_,_,rfl,ae,T.bY,T.lC,eu (dM (dM len0)) (by decide),⟨_,rfl,⟨_,rfl,_,_,_,_,rfl,ae,T.bY,T.iZ,eu (dM (dM (dM len0))) (by decide),?e⟩⟩⟩⟩⟩⟩⟩⟩
  case e=>exact kk _ ae (fun b u e hb=>by rw[af hb];rw[af hb];rw[af hb];rw[af hb];exact e)
theorem Ai {K:PySem.W.Frag} {A:Ad} {H:Hp} {R:Addr→Hp→Prop} {E:XK} {a_place a_word a_tick a_former:V} (k:∀(x dx:Addr) (H':Hp),H x=none→ax H H'→H' x=some (.ins A.bY dx (cM a_place a_word a_tick a_former))→R x H') :
  ∀x dx,H x=none→H dx=none→dx≠x→xW K A (.ref x::([a_place,a_word,a_tick,a_former]:List V)) (upd (upd H dx (.own x)) x (.ins A.bY dx [])) (fun v H2=>v=.dh∧R x H2) E:=
 Ao (fun x dx H' Q h k=>⟨x,dx,_,_,_,_,rfl,h,k⟩) k
noncomputable def vp (K:PySem.W.Frag) (A:Ad):Sp:=fun vs0 H Q _=>∃(x dx:Addr) (a_way a_units:V),vs0=[.ref x,a_way,a_units]∧(H x=some (.ins A.bW dx []))∧(∀H',H' x=some (.ins A.bW dx (en a_way a_units))→rM x H H'→Q .dh H')
theorem EI {P:Program} {w:World} {K:PySem.W.Frag} {mg:Str→Option Value} {base:Heap} {A:Ad} (T:Txt K mg A):bz P w K mg base gw 1 A.ir A.iF ["self","way","units"] (vp K A):=by
 refine T.AK.ok Ek (fun vs H Q E h=>?_) (fun cdv Ar outer sh H vs Q E hr h=>?_)
 ·obtain⟨_,_,_,_,rfl,_⟩:=h
  rfl
 ·obtain⟨x,dx,a_way,a_units,rfl,h1,kk⟩:=h
  have hu:=aY hr
  have hu64:=hr.units
  refine⟨_,(ab (bA (pv 0) (pv 1) rfl)
   (ag (bA (pv 0) (pv 2) rfl))),?_⟩
  try dsimp only[Of]
  refine⟨_,rfl,⟨_,rfl,_,_,_,_,rfl,h1,T.bW,T.eA,eu len0 (by decide),⟨_,rfl,⟨_,rfl,_,_,_,_,rfl,ae,T.bW,T.dH,eu (dM len0) (by decide),?e⟩⟩⟩⟩
  case e=>exact kk _ ae (fun b u e hb=>by rw[af hb];rw[af hb];exact e)
theorem wV {K:PySem.W.Frag} {A:Ad} {H:Hp} {R:Addr→Hp→Prop} {E:XK} {a_way a_units:V} (k:∀(x dx:Addr) (H':Hp),H x=none→ax H H'→H' x=some (.ins A.bW dx (en a_way a_units))→R x H') :
  ∀x dx,H x=none→H dx=none→dx≠x→vp K A (.ref x::([a_way,a_units]:List V)) (upd (upd H dx (.own x)) x (.ins A.bW dx [])) (fun v H2=>v=.dh∧R x H2) E:=
 Ao (fun x dx H' Q h k=>⟨x,dx,_,_,rfl,h,k⟩) k
noncomputable def zH (K:PySem.W.Frag) (A:Ad):Sp:=fun vs0 H Q _=>∃(a dx:Addr) (l g:Int),vs0=[.ref a]∧(H a=some (.ins A.bg dx (bL (.int l) (.int g))))∧(Q (.bl (decide (l≤g))) H)
theorem Ac {P:Program} {w:World} {K:PySem.W.Frag} {mg:Str→Option Value} {base:Heap} {A:Ad} (T:Txt K mg A):bz P w K mg base gw 1 A.eV A.fg ["self"] (zH K A):=by
 refine T.uG.ok zW (fun vs H Q E h=>?_) (fun cdv Ar outer sh H vs Q E hr h=>?_)
 ·obtain⟨_,_,_,_,rfl,_⟩:=h
  rfl
 ·obtain⟨a,dx,l,g,rfl,h1,kk⟩:=h
  have hu:=aY hr
  have hu64:=hr.units
  refine⟨_,(ag (aq (jm ma (ak (pv 0) rfl) (ak (pv 0) rfl) (aI _)))),?_⟩
  try dsimp only[Of]
  refine⟨_,rfl,⟨_,_,_,_,_,rfl,by assumption,T.bg,T.cp,fq,⟨_,rfl,⟨_,_,_,_,_,rfl,by assumption,T.bg,T.bQ,ei,⟨_,_,rfl,rfl,?r0⟩⟩⟩⟩⟩
  case r0=>exact kk
noncomputable def zG (K:PySem.W.Frag) (A:Ad):Sp:=fun vs0 H Q _=>∃(a dx:Addr) (l g:Int),vs0=[.ref a]∧(H a=some (.ins A.bg dx (bL (.int l) (.int g))))∧(Q (.int (if 0 > g - l+1 then 0 else g - l+1)) H)
theorem qx {P:Program} {w:World} {K:PySem.W.Frag} {mg:Str→Option Value} {base:Heap} {A:Ad} (T:Txt K mg A):bz P w K mg base gw 1 A.eU A.ff ["self"] (zG K A):=by
 refine T.uF.ok zV (fun vs H Q E h=>?_) (fun cdv Ar outer sh H vs Q E hr h=>?_)
 ·obtain⟨_,_,_,_,rfl,_⟩:=h
  rfl
 ·obtain⟨a,dx,l,g,rfl,h1,kk⟩:=h
  have hu:=aY hr
  have hu64:=hr.units
  refine⟨_,(ag (aq (aD (B9 rfl) (by rfl) T.Hq boot_max (aa (bX pK (bX tJ (ak (pv 0) rfl) (ak (pv 0) rfl)) aH) (aa aH ah))))),?_⟩
  try dsimp only[Of]
  refine⟨_,rfl,⟨_,_,_,_,_,rfl,by assumption,T.bg,T.bQ,ei,⟨_,rfl,⟨_,_,_,_,_,rfl,by assumption,T.bg,T.cp,fq,⟨_,_,rfl,rfl,⟨_,_,rfl,rfl,⟨_,_,rfl,?r0⟩⟩⟩⟩⟩⟩⟩
  case r0=>exact kk
noncomputable def HA (K:PySem.W.Frag) (A:Ad):Sp:=fun vs0 H Q _=>∃(b:Int),vs0=[.int b]∧(Q (.bl (decide (65≤b)&&decide (b≤90))) H)
theorem HZ {P:Program} {w:World} {K:PySem.W.Frag} {mg:Str→Option Value} {base:Heap} {A:Ad} (T:Txt K mg A):bz P w K mg base gw 1 A.kK A.kT ["byte"] (HA K A):=by
 refine T.za.ok HH (fun vs H Q E h=>?_) (fun cdv Ar outer sh H vs Q E hr h=>?_)
 ·obtain⟨_,rfl,_⟩:=h
  rfl
 ·obtain⟨b,rfl,kk⟩:=h
  have hu:=aY hr
  have hu64:=hr.units
  refine⟨_,(ag (aq (Ex ma ma (aD sL (by rfl) T.A5 boot_ord (aa yP ah)) (pv 0) (aD sL (by rfl) T.A5 boot_ord (aa yP ah))))),?_⟩
  try dsimp only[Of]
  refine⟨_,rfl,rfl,⟨_,rfl,⟨_,_,rfl,rfl,_,rfl,aL (fun h=>⟨_,rfl,rfl,⟨_,_,rfl,rfl,?r0⟩⟩) (fun h=>?f1)⟩⟩⟩
  case r0=>
   rw[show decide (65≤b)=true from decide_eq_true (by assumption)] at kk;exact kk
  case f1=>
   rw[show decide (65≤b)=false from decide_eq_false (by assumption)] at kk;exact kk
noncomputable def Bl (K:PySem.W.Frag) (A:Ad):Sp:=fun vs0 H Q _=>∃(p lo hi e:Int),vs0=[.int p,.int lo,.int hi,.int e]∧(Q (.int (if (2≤p∧p≤8)∧(1≤lo∧lo≤4096)∧(lo≤hi∧hi≤4096)∧e<lo then 0 else -22)) H)
theorem BF {P:Program} {w:World} {K:PySem.W.Frag} {mg:Str→Option Value} {base:Heap} {A:Ad} (T:Txt K mg A):bz P w K mg base gw 1 A.fI A.fQ ["parties","lo","hi","slack"] (Bl K A):=by
 refine T.pZ.ok Bv (fun vs H Q E h=>?_) (fun cdv Ar outer sh H vs Q E hr h=>?_)
 ·obtain⟨_,_,_,_,rfl,_⟩:=h
  rfl
 ·obtain⟨p,lo,hi,e,rfl,kk⟩:=h
  have hu:=aY hr
  have hu64:=hr.units
  refine⟨_,(ab (aT (jU (zZ ma ma (aw rfl T.jz) (pv 0) (aw rfl T.lP))) (ag (aq (aw rfl T.fA))) ay)
   (ab (aT (jU (zZ ma ma aH (pv 1) (aw rfl T.hE))) (ag (aq (aw rfl T.fA))) ay)
   (ab (aT (jU (zZ ma ma (pv 1) (pv 2) (aw rfl T.hE))) (ag (aq (aw rfl T.fA))) ay)
   (ab (aT (aA pJ (pv 3) (pv 1) (aI _)) (ag (aq (aw rfl T.fA))) ay)
   (ag (aq aH)))))),?_⟩
  try dsimp only[Of]
  refine⟨_,rfl,⟨_,_,rfl,rfl,_,rfl,aL (fun h=>⟨_,_,rfl,rfl,⟨_,rfl,(ez (fun h=>?r0) (fun h=>⟨_,rfl,⟨_,_,rfl,rfl,_,rfl,aL (fun h=>⟨_,_,rfl,rfl,⟨_,rfl,(ez (fun h=>?r1) (fun h=>⟨_,rfl,⟨_,rfl,⟨_,_,rfl,rfl,_,rfl,aL (fun h=>⟨_,_,rfl,rfl,⟨_,rfl,(ez (fun h=>?r2) (fun h=>⟨_,rfl,⟨_,rfl,⟨_,_,rfl,rfl,⟨_,rfl,(aL (fun h=>?r3) (fun h=>?r4))⟩⟩⟩⟩))⟩⟩) (fun h=>?f5)⟩⟩⟩))⟩⟩) (fun h=>?f6)⟩⟩))⟩⟩) (fun h=>?f7)⟩⟩
  all_goals try refine⟨_,rfl,rA ?_⟩
  all_goals try simp only[decide_eq_true_eq,decide_eq_false_iff_not] at *
  all_goals first
   | (rw[if_pos (by omega)] at kk;exact kk)
   | (rw[if_neg (by omega)] at kk;exact kk)
end
section
theorem aE (l:List Nat):(nats l).length=l.length:=List.length_map _
theorem lB (a b:List Nat):nats (a++b)=nats a++nats b:=List.map_append
theorem tQ {l:List Nat} {i:Nat} {x:Nat} (h:l[i]?=some x):(nats l)[i]?=some (V.int x):=by
 unfold nats
 rw[List.getElem?_map,h]
 rfl
theorem lA {l:List Nat} {i:Nat} {v:V} (h:(nats l)[i]?=some v):∃x,l[i]?=some x∧v=V.int x:=by
 unfold nats at h
 rw[List.getElem?_map] at h
 cases e:l[i]? with
 | none=>rw[e] at h;cases h
 | some x=>rw[e] at h;exact⟨x,rfl,(Option.some.inj h).symm⟩
theorem Ro (l:List Nat):nats l=(l.map fun (n:Nat)=>(n:Int)).map V.int:=by
 unfold nats
 rw[List.map_map]
 rfl
theorem G2 (l:List Nat):(!(nats l).isEmpty)=!l.isEmpty:=by cases l<;>rfl
theorem Bh {K:PySem.W.Frag} {H:Hp} {a:Addr} {xs:List V} (h:KU K a xs):GH K H a xs:=.inr h
theorem take_snoc {α:Type} {l:List α} {i:Nat} {x:α} (h:l[i]?=some x):l.take (i+1)=l.take i++[x]:=by
 rw[List.take_add_one,h]
 rfl
theorem Uo :1000000<sizeLine:=by rw[sizeLine_eq];decide
noncomputable def yA (K:PySem.W.Frag) (A:Ad):Sp:=fun vs0 H Q _=>∃(a dx:Addr) (u:Kt.U) (len k e:Int),vs0=[.ref a,.int len,.int k,.int e]∧(H a=some (.ins A.bg dx (bL (.int u.lo) (.int u.hi))))∧(k=1∨k=3)∧(∀(x dx':Addr) (H':Hp),H x=none→ax H H'→H' x=some (.ins A.bg dx' (bL (.int (Kt.ofLength u len k e).lo) (.int (Kt.ofLength u len k e).hi)))→Q (.ref x) H')
theorem yS {P:Program} {w:World} {K:PySem.W.Frag} {mg:Str→Option Value} {base:Heap} {A:Ad} (T:Txt K mg A):bz P w K mg base gw 3 A.dS A.dY ["units","length","times","slack"] (yA K A):=by
 refine T.mK.ok kr (fun vs H Q E h=>?_) (fun cdv Ar outer sh H vs Q E hr h=>?_)
 ·obtain⟨_,_,_,_,_,_,rfl,_⟩:=h
  rfl
 ·obtain⟨a,dx,u,len,k,e,rfl,h1,hk,kk⟩:=h
  have hu:=aY hr
  have hu64:=hr.units
  refine⟨_,(ab (bb (i:=4) kr.nd rfl (Or.inl rfl) (aW (yg T) (hr.mono (by decide)) rfl T.lI T.qM.kp T.wq .nil aK (aa (bX tJ (pv 1) (pv 3)) (aa (pv 2) ah))))
   (ab (bb (i:=5) kr.nd rfl (Or.inl rfl) (bX My (bX pK (pv 1) (pv 3)) (pv 2)))
   (ag (aq (iO T.j4 (nj T) (hr.mono (by decide)) rfl T.Au T.nX .nil aK (aa (aD (B9 rfl) (by rfl) T.Hq boot_max (aa (ak (pv 0) rfl) (aa (pv 4) ah))) (aa (aD (He rfl) (by rfl) T.KO boot_min (aa (ak (pv 0) rfl) (aa (pv 5) ah))) ah))))))),?_⟩
  try dsimp only[Of]
  refine⟨_,rfl,⟨_,rfl,⟨_,_,rfl,rfl,⟨_,rfl,⟨_,_,rfl,?p2,⟨_,rfl,⟨_,rfl,⟨_,_,rfl,rfl,⟨_,rfl,⟨_,_,rfl,rfl,?c1,⟨_,rfl,⟨_,_,_,_,_,rfl,by assumption,T.bg,T.cp,fq,⟨_,rfl,⟨_,_,rfl,⟨_,rfl,⟨_,_,_,_,_,rfl,by assumption,T.bg,T.bQ,ei,⟨_,rfl,⟨_,_,rfl,?gb⟩⟩⟩⟩⟩⟩⟩⟩⟩⟩⟩⟩⟩⟩⟩⟩⟩⟩
  case p2=>omega
  case c1=>exact⟨by omega,by omega⟩
  case gb=>exact j4 kk
noncomputable def sY (K:PySem.W.Frag) (A:Ad):Sp:=fun vs0 H Q _=>∃(a dx:Addr) (u:Kt.U) (len k e:Int),vs0=[.ref a,.int len,.int k,.int e]∧(H a=some (.ins A.bg dx (bL (.int u.lo) (.int u.hi))))∧(k=1∨k=3)∧(∀(x dx':Addr) (H':Hp),H x=none→ax H H'→H' x=some (.ins A.bg dx' (bL (.int (Kt.BJ u len k e).lo) (.int (Kt.BJ u len k e).hi)))→Q (.ref x) H')
theorem tN {P:Program} {w:World} {K:PySem.W.Frag} {mg:Str→Option Value} {base:Heap} {A:Ad} (T:Txt K mg A):bz P w K mg base gw 3 A.cj A.ck ["units","lasted","times","slack"] (sY K A):=by
 refine T.je.ok tj (fun vs H Q E h=>?_) (fun cdv Ar outer sh H vs Q E hr h=>?_)
 ·obtain⟨_,_,_,_,_,_,rfl,_⟩:=h
  rfl
 ·obtain⟨a,dx,u,len,k,e,rfl,h1,hk,kk⟩:=h
  have hu:=aY hr
  have hu64:=hr.units
  refine⟨_,(ag (aq (iO T.j4 (nj T) (hr.mono (by decide)) rfl T.Au T.nX .nil aK (aa (aD (B9 rfl) (by rfl) T.Hq boot_max (aa (ak (pv 0) rfl) (aa (aW (yg T) (hr.mono (by decide)) rfl T.lI T.qM.kp T.wq .nil aK (aa (bX tJ (pv 1) (pv 3)) (aa (pv 2) ah))) ah))) (aa (ak (pv 0) rfl) ah))))),?_⟩
  try dsimp only[Of]
  refine⟨_,rfl,⟨_,_,_,_,_,rfl,by assumption,T.bg,T.cp,fq,⟨_,rfl,⟨_,rfl,⟨_,_,rfl,rfl,⟨_,rfl,⟨_,_,rfl,?p1,⟨_,_,rfl,⟨_,rfl,⟨_,_,_,_,_,rfl,by assumption,T.bg,T.bQ,ei,?gb⟩⟩⟩⟩⟩⟩⟩⟩⟩⟩
  case p1=>omega
  case gb=>exact j4 kk
noncomputable def RD :List Str:=["-----",".----","..---","...--","....-",".....","-....","--...","---..","----."]
noncomputable def Ru :List Str:=[".-","-...","-.-.","-..",".","..-.","--.","....","..",".---","-.-",".-..","--","-.","---",".--.","--.-",".-.","...","-","..-","...-",".--","-..-","-.--","--.."]
noncomputable def Df (x:Str):List Nat:=x.cps.toList.map fun c=>if c=46 then 1 else 3
theorem To :∀i<10,Df (RD.getD i "")=Kh314.marks (48+i):=by decide +kernel
theorem S3 :∀i<26,Df (Ru.getD i "")=Kh314.marks (65+i):=by decide +kernel
theorem Tp {n:Nat} (h1:48≤n) (h2:n≤57):DS (RD.map V.str) ((n:Int) - 48)=some (V.str (RD.getD (n - 48) "")):=by
 refine at_of (j:=n - 48) (by omega) ?_
 rw[List.getElem?_map,List.getD_eq_getElem?_getD,List.getElem?_eq_getElem (show n - 48<RD.length by show n - 48<10;omega)]
 rfl
theorem S4 {n:Nat} (h1:65≤n) (h2:n≤90):DS (Ru.map V.str) ((n:Int) - 65)=some (V.str (Ru.getD (n - 65) "")):=by
 refine at_of (j:=n - 65) (by omega) ?_
 rw[List.getElem?_map,List.getD_eq_getElem?_getD,List.getElem?_eq_getElem (show n - 65<Ru.length by show n - 65<26;omega)]
 rfl
noncomputable def Ju (K:PySem.W.Frag) (A:Ad):Sp:=fun vs0 H Q _=>∃(n:Nat),vs0=[.int n]∧(Kt.Jg n)∧(∀x:Str,Df x=Kh314.marks n→Q (.str x) H)
theorem JP {P:Program} {w:World} {K:PySem.W.Frag} {mg:Str→Option Value} {base:Heap} {A:Ad} (T:Txt K mg A):bz P w K mg base gw 2 A.mN A.mU ["byte"] (Ju K A):=by
 refine T.BY.ok JB (fun vs H Q E h=>?_) (fun cdv Ar outer sh H vs Q E hr h=>?_)
 ·obtain⟨_,rfl,_⟩:=h
  rfl
 ·obtain⟨n,rfl,hn,kk⟩:=h
  have hu:=aY hr
  have hu64:=hr.units
  refine⟨_,(ab (aT (ly (aW (CG T) (hr.mono (by decide)) rfl T.pS T.xm.kp T.Cj .nil aK (aa (pv 0) ah))) (ag (aq (bw LQ (HS rfl T.nJ) (bX tJ (pv 0) (aD sL (by rfl) T.A5 boot_ord (aa yP ah))) (fun _ _=>rfl)))) ay)
   (ag (aq (bw LQ (HS rfl T.lS) (bX tJ (pv 0) (aD sL (by rfl) T.A5 boot_ord (aa yP ah))) (fun _ _=>rfl))))),?_⟩
  try dsimp only[Of]
  have hn:=Kt.DI.mp hn
  by_cases hd:n≤57
  ·have e1:(decide (48≤(n:Int))&&decide ((n:Int)≤57))=true:=by rw[decide_eq_true (by omega),decide_eq_true (by omega)];rfl
   refine⟨_,rfl,⟨_,rfl,⟨_,rfl,(df (fun h=>⟨_,rfl,⟨_,rfl,rfl,⟨_,_,rfl,rfl,⟨_,_,_,_,rfl,rfl,(Bh T.j5),(Tp (by omega) hd),?r0⟩⟩⟩⟩) (fun h=>⟨_,rfl,⟨_,rfl,rfl,⟨_,_,rfl,rfl,⟨_,_,_,_,rfl,rfl,(Bh T.jc),((absurd h (by rw[e1];decide):DS _ _=some V.dh)),?r3⟩⟩⟩⟩))⟩⟩⟩
   case r0=>
    refine kk _ ?_
    have:=To (n - 48) (by omega)
    rw[show 48+(n - 48)=n by omega] at this
    exact this
   case r3=>rw[e1] at h;cases h
  ·have e1:(decide (48≤(n:Int))&&decide ((n:Int)≤57))=false:=by rw[decide_eq_true (by omega),decide_eq_false (by omega)];rfl
   refine⟨_,rfl,⟨_,rfl,⟨_,rfl,(df (fun h=>⟨_,rfl,⟨_,rfl,rfl,⟨_,_,rfl,rfl,⟨_,_,_,_,rfl,rfl,(Bh T.j5),((absurd h (by rw[e1];decide):DS _ _=some V.dh)),?r0⟩⟩⟩⟩) (fun h=>⟨_,rfl,⟨_,rfl,rfl,⟨_,_,rfl,rfl,⟨_,_,_,_,rfl,rfl,(Bh T.jc),(S4 (by omega) (by omega)),?r3⟩⟩⟩⟩))⟩⟩⟩
   case r0=>rw[e1] at h;cases h
   case r3=>
    refine kk _ ?_
    have:=S3 (n - 65) (by omega)
    rw[show 65+(n - 65)=n by omega] at this
    exact this
theorem zN {c:Nat}:(⟨#[c]⟩:Str)="."↔c=46:=by
 have e:(".":Str)=⟨#[46]⟩:=by decide +kernel
 rw[e]
 constructor
 ·intro h
  have:=congrArg (fun s:Str=>s.cps.toList) h
  simpa using this
 ·intro h
  subst h
  rfl
theorem Js {l:List Nat} {i k:Nat} (h:l[i]?=some k):nats (Kh314.spread (l.take (i+1)))=if (!(nats (Kh314.spread (l.take i))).isEmpty)=true then (nats (Kh314.spread (l.take i))++[V.int 1])++[V.int k] else nats (Kh314.spread (l.take i))++[V.int k]:=by
 rw[take_snoc h,Kt.Cv,G2]
 by_cases e:l.take i=[]
 ·rw[if_pos e,e]
  rfl
 ·rw[if_neg e,if_pos (by
   cases q:Kh314.spread (l.take i) with
   | nil=>exact absurd (Kt.Lf.mp q) e
   | cons a r=>rfl),lB,List.append_assoc]
  rfl
theorem Rq {x:Str} {i c:Nat} (h:x.cps.toList[i]?=some c):(Df x)[i]?=some (if c=46 then 1 else 3):=by
 unfold Df
 rw[List.getElem?_map,h]
 rfl
theorem DY {l:List Nat} {i:Nat} (h:l.length≤5):(nats (Kh314.spread (l.take i))).length+1<sizeLine:=by
 rw[aE,Kt.mi,List.length_take,sizeLine_eq]
 omega
noncomputable def zy (K:PySem.W.Frag) (A:Ad):Sp:=fun vs0 H Q _=>∃(n:Nat),vs0=[.int n]∧(Kt.Jg n)∧(∀(p:Addr) (H':Hp),H p=none→ax H H'→H' p=some (.lst (nats (Kh314.spread (Kh314.marks n))))→Q (.ref p) H')
theorem z4 {P:Program} {w:World} {K:PySem.W.Frag} {mg:Str→Option Value} {base:Heap} {A:Ad} (T:Txt K mg A):bz P w K mg base gw 3 A.eM A.eX ["byte"] (zy K A):=by
 refine T.oz.ok lp (fun vs H Q E h=>?_) (fun cdv Ar outer sh H vs Q E hr h=>?_)
 ·obtain⟨_,rfl,_⟩:=h
  rfl
 ·obtain⟨n,rfl,hn,kk⟩:=h
  have hu:=aY hr
  have hu64:=hr.units
  refine⟨_,(ab (bb (i:=1) lp.nd rfl (Or.inl rfl) (bB ah))
   (ab (oq PassesOwn.never rfl (SN (aW (JP T) (hr.mono (by decide)) rfl T.tR T.BY.kp T.Hg .nil aK (aa (pv 0) ah))) (bC (i:=2) lp.nd rfl (Or.inl rfl) (Or.inl rfl)) (ab (aT (pI (pv 1) (fun _=>rfl)) (ag (cy (g6 PySem.F.plainAttrs_list PySem.F.slot_list_append PySem.F.type_list_append bR (pv 1) (aa (aw rfl T.AE) ah)))) ay)
   (ag (cy (g6 PySem.F.plainAttrs_list PySem.F.slot_list_append PySem.F.type_list_append bR (pv 1) (aa (JJ (aA cg (pv 2) yP (aI _)) (aw rfl T.AE) (aw rfl T.IC)) ah))))))
   (ag (aq (pv 1))))),?_⟩
  try dsimp only[Of]
  refine ?lst4
  case lst4=>
   refine⟨Nat.zero_le _,fun p hp=>?_⟩
   refine⟨_,rfl,?Dq⟩
   case Dq=>
    refine⟨n,rfl,hn,fun x hx=>?_⟩
    have hl5:(Df x).length≤5:=by rw[hx];exact (Kt.An hn).2.1
    refine⟨x,rfl,Uw (fun i σ H'=>∃v,σ=[some (.int n),some (.ref p),v]∧ax H H'∧H' p=some (.lst (nats (Kh314.spread ((Df x).take i))))) ⟨none,rfl,aX hp,ae⟩ ?_ ?_⟩
    ·rintro i c σ H' hc ⟨v,rfl,s1,h1⟩
     have hm:=Rq hc
     have st:=Js hm
     have hz:=DY (i:=i) hl5
     try dsimp only[Of]
     refine⟨_,rfl,⟨_,(.inl ⟨_,aM.of h1,rfl⟩),(df (fun h=>⟨_,rfl,⟨ty_list (aM.of h1),?ur⟩⟩) (fun h=>⟨_,rfl,⟨ty_list (aM.of h1),⟨_,rfl,(Se ⟨_,rfl,(aL (fun h=>?o6) (fun h=>?e_append2))⟩)⟩⟩⟩))⟩⟩
     case ur=>
      rw[if_pos (by assumption)] at st
      refine⟨_,_,_,rfl,rfl,h1,by omega,?_⟩
      refine⟨_,rfl,⟨ty_list (aM.of ae),⟨_,rfl,(Se ⟨_,rfl,(aL (fun h=>?Bc) (fun h=>?e_append0))⟩)⟩⟩⟩
      case Bc=>
       rw[if_pos (zN.mp (by assumption))] at st
       refine⟨_,_,_,rfl,rfl,ae,by rw[List.length_append];exact hz,_,rfl,?_,?_⟩
       ·intro b o e
        rw[af (ao e hp),af (ao e hp)]
        exact s1 _ _ e
       ·rw[ae,st];rfl
      case e_append0=>
       rw[if_neg (fun z=>absurd (zN.mpr z) (by assumption))] at st
       refine⟨_,_,_,rfl,rfl,ae,by rw[List.length_append];exact hz,_,rfl,?_,?_⟩
       ·intro b o e
        rw[af (ao e hp),af (ao e hp)]
        exact s1 _ _ e
       ·rw[ae,st];rfl
     case o6=>
      rw[if_neg (by rw[show (!(nats (Kh314.spread ((Df x).take i))).isEmpty)=false from by assumption];decide),if_pos (zN.mp (by assumption))] at st
      refine⟨_,_,_,rfl,rfl,h1,by omega,_,rfl,?_,?_⟩
      ·intro b o e
       rw[af (ao e hp)]
       exact s1 _ _ e
      ·rw[ae,st];rfl
     case e_append2=>
      rw[if_neg (by rw[show (!(nats (Kh314.spread ((Df x).take i))).isEmpty)=false from by assumption];decide),if_neg (fun z=>absurd (zN.mpr z) (by assumption))] at st
      refine⟨_,_,_,rfl,rfl,h1,by omega,_,rfl,?_,?_⟩
      ·intro b o e
       rw[af (ao e hp)]
       exact s1 _ _ e
      ·rw[ae,st];rfl
    ·rintro σ H' ⟨v,rfl,s1,h1⟩
     try dsimp only[Of]
     refine⟨_,rfl,?r6⟩
     case r6=>
      rw[show (Df x).take x.cps.toList.length=Df x by unfold Df;rw[←List.length_map (f:=fun c=>if c=46 then 1 else 3),List.take_length],hx] at h1
      exact kk p H' hp s1 h1
theorem Nh {t:List Nat} {i c:Nat} (hl:∀x∈t,Kt.Jg x) (h:t[i]?=some c):nats (Kh314.sent (t.take (i+1)))=if (!(nats (Kh314.sent (t.take i))).isEmpty)=true then (nats (Kh314.sent (t.take i))++[V.int 3])++nats (Kh314.spread (Kh314.marks c)) else nats (Kh314.sent (t.take i))++nats (Kh314.spread (Kh314.marks c)):=by
 have hc:Kt.Jg c:=hl c (List.mem_of_getElem? h)
 have ht:∀x∈t.take i,Kt.Jg x:=fun x hx=>hl x (List.mem_of_mem_take hx)
 rw[take_snoc h,Kt.GS _ _ ht hc,G2]
 by_cases e:t.take i=[]
 ·rw[if_pos e,e]
  rfl
 ·rw[if_neg e,if_pos (by
   have:=(Kt.tf _ e ht).2.1
   cases q:Kh314.sent (t.take i) with
   | nil=>rw[q] at this;cases this
   | cons a r=>rfl),lB,List.append_assoc]
  rfl
theorem HG {t:List Nat} {i:Nat} (ht:∀x∈t,Kt.Jg x) (h:t.length≤1000):(nats (Kh314.sent (t.take i))).length+20<sizeLine:=by
 rw[aE,sizeLine_eq]
 by_cases e:t.take i=[]
 ·rw[e];decide
 ·have:=(Kt.tf _ e fun x hx=>ht x (List.mem_of_mem_take hx)).2.2
  have h2:(t.take i).length≤1000:=by rw[List.length_take];omega
  omega
noncomputable def CZ (K:PySem.W.Frag) (A:Ad):Sp:=fun vs0 H Q _=>∃(la:Addr) (t:List Nat),vs0=[.ref la]∧(H la=some (.lst (nats t)))∧(∀x∈t,Kt.Jg x)∧(t.length≤1000)∧(∀(p:Addr) (H':Hp),H p=none→ax H H'→H' p=some (.lst (nats (Kh314.sent t)))→Q (.ref p) H')
theorem Dc {P:Program} {w:World} {K:PySem.W.Frag} {mg:Str→Option Value} {base:Heap} {A:Ad} (T:Txt K mg A):bz P w K mg base gw 4 A.gB A.gF ["letters"] (CZ K A):=by
 refine T.rD.ok nZ (fun vs H Q E h=>?_) (fun cdv Ar outer sh H vs Q E hr h=>?_)
 ·obtain⟨_,_,rfl,_⟩:=h
  rfl
 ·obtain⟨la,t,rfl,hla,ht,hlen,kk⟩:=h
  have hu:=aY hr
  have hu64:=hr.units
  refine⟨_,(ab (bb (i:=1) nZ.nd rfl (Or.inl rfl) (bB ah))
   (ab (oq PassesOwn.never rfl (dP (pv 0)) (bC (i:=2) nZ.nd rfl (Or.inl rfl) (Or.inl rfl)) (ab (aT (pI (pv 1) (fun _=>rfl)) (ag (cy (g6 PySem.F.plainAttrs_list PySem.F.slot_list_append PySem.F.type_list_append bR (pv 1) (aa (aw rfl T.lT) ah)))) ay)
   (ag (cy (g6 PySem.F.plainAttrs_list PySem.F.slot_list_extend PySem.F.type_list_extend G3 (pv 1) (aa (aW (z4 T) (hr.mono (by decide)) rfl T.jr T.oz.kp T.uI .nil aK (aa (pv 2) ah)) ah))))))
   (ag (aq (pv 1))))),?_⟩
  try dsimp only[Of]
  refine ?lst5
  case lst5=>
   refine⟨Nat.zero_le _,fun p hp=>?_⟩
   refine⟨_,rfl,?loop0⟩
   case loop0=>
    refine⟨_,rfl,⟨_,aM.of (aX hp _ _ hla)⟩,E9 (xs:=nats t) (fun i σ H'=>∃v,σ=[some (.ref la),some (.ref p),v]∧ax H H'∧H' p=some (.lst (nats (Kh314.sent (t.take i))))) ⟨none,rfl,aX hp,ae⟩ (fun i σ H' ⟨v,_,s1,_⟩=>aM.of (s1 _ _ hla)) ?_ ?_⟩
    ·rintro i x σ H' hx ⟨v,rfl,s1,h1⟩
     obtain⟨c,hc,rfl⟩:=lA hx
     have st:=Nh ht hc
     have hcL:Kt.Jg c:=ht c (List.mem_of_getElem? hc)
     have hz:=HG (i:=i) ht hlen
     have h10:(nats (Kh314.spread (Kh314.marks c))).length≤10:=by rw[aE,Kt.mi];have:=(Kt.An hcL).2.1;omega
     try dsimp only[Of]
     refine⟨_,rfl,⟨_,(.inl ⟨_,aM.of h1,rfl⟩),(df (fun h=>⟨_,rfl,⟨ty_list (aM.of h1),?o6⟩⟩) (fun h=>⟨_,rfl,⟨ty_list (aM.of h1),⟨_,rfl,?u7⟩⟩⟩))⟩⟩
     case o6=>
      rw[if_pos (by assumption)] at st
      refine⟨_,_,_,rfl,rfl,h1,by omega,?_⟩
      refine⟨_,rfl,⟨ty_list (aM.of ae),⟨_,rfl,?u9⟩⟩⟩
      case u9=>
       refine⟨c,rfl,hcL,fun q H1 hq s2 hq1=>?_⟩
       have hp1:=s2 _ _ ae
       refine⟨_,_,_,_,rfl,rfl,hp1,hq1,by rw[List.length_append];simp only[List.length_cons,List.length_nil];omega,_,rfl,?_,?_⟩
       ·intro b o e
        rw[af (ao e hp)]
        exact s2 _ _ (by rw[af (ao e hp)];exact s1 _ _ e)
       ·rw[ae,st]
     case u7=>
      rw[if_neg (by rw[show (!(nats (Kh314.sent (t.take i))).isEmpty)=false from by assumption];decide)] at st
      refine⟨c,rfl,hcL,fun q H1 hq s2 hq1=>?_⟩
      have hp1:=s2 _ _ h1
      refine⟨_,_,_,_,rfl,rfl,hp1,hq1,by omega,_,rfl,?_,?_⟩
      ·intro b o e
       rw[af (ao e hp)]
       exact s2 _ _ (s1 _ _ e)
      ·rw[ae,st]
    ·rintro σ H' ⟨v,rfl,s1,h1⟩
     try dsimp only[Of]
     refine⟨_,rfl,?r6⟩
     case r6=>
      rw[aE,List.take_length] at h1
      exact kk p H' hp s1 h1
theorem Ry (c:Nat):((decide (48≤(c:Int))&&decide ((c:Int)≤57)) || (decide (65≤(c:Int))&&decide ((c:Int)≤90)))=(Kh314.place c).isSome:=by
 have h:(Kh314.place c).isSome=true↔(65≤c∧c≤90)∨(48≤c∧c≤57):=Kt.DI
 rw[Bool.eq_iff_iff,h]
 simp only[Bool.or_eq_true,Bool.and_eq_true,decide_eq_true_eq]
 omega
theorem Fb {l:List V}:(l.map some).filterMap id=l:=by simp[List.filterMap_map]
theorem BC {α β:Type} (l:List α) (d:α) (f:α→β):(List.range l.length).map (fun i=>f (l.getD i d))=l.map f:=by
 apply List.ext_getElem?
 intro i
 by_cases h:i<l.length
 ·simp[h]
 ·rw[List.getElem?_eq_none (by simp;omega),List.getElem?_eq_none (by simp;omega)]
theorem sr {l:List Nat} (f:Nat→V):((List.range l.length).map fun i=>some (f (l.getD i 0))).filterMap id=l.map f:=by
 rw[show (fun i=>some (f (l.getD i 0)))=some∘fun i=>f (l.getD i 0) from rfl,←List.map_map,Fb,BC l 0 f]
theorem tY {l:List Nat} {i x:Nat} (h:l[i]?=some x):l.getD i 0=x:=by
 rw[List.getD_eq_getElem?_getD,h]
 rfl
noncomputable def Lh (K:PySem.W.Frag) (A:Ad):Sp:=fun vs0 H Q _=>∃(la:Addr) (t:List Nat),vs0=[.ref la]∧(H la=some (.lst (nats t)))∧(∀H',ax H H'→Q (.bl (Kh316.okWord t)) H')
theorem LC {P:Program} {w:World} {K:PySem.W.Frag} {mg:Str→Option Value} {base:Heap} {A:Ad} (T:Txt K mg A):bz P w K mg base gw 2 A.pf A.pA ["letters"] (Lh K A):=by
 refine T.Fd.ok yL (fun vs H Q E h=>?_) (fun cdv Ar outer sh H vs Q E hr h=>?_)
 ·obtain⟨_,_,rfl,_⟩:=h
  rfl
 ·obtain⟨la,t,rfl,hla,kk⟩:=h
  have hu:=aY hr
  have hu64:=hr.units
  refine⟨_,(ab (aT (jU (zZ ma ma aH (aD aB (by rfl) T.cw PySem.boot_len (aa (pv 0) ah)) (aw rfl T.lQ))) (ag (aq CB)) ay)
   (ag (aq (aD (B4 rfl) (by rfl) T.A7 boot_all (aa (nL rfl yL.nd (dP (pv 0)) (own:=[("byte",1)]) (dO (N:=["letters","byte"]) (sc:=ai wK) (by decide +kernel)) (fun _ _ _ _ _=>(bC (i:=1) yL.nd rfl (Or.inl rfl) (Or.inr rfl))) (fun _ _ _ _ _=>jl) (fun _ _ _ _ _=>(Mt (aW (CG T) (hr.mono (by decide)) rfl T.pS T.xm.kp T.Cj .nil aK (aa (pv 1) ah)) (yQ (aW (HZ T) (hr.mono (by decide)) rfl T.qC T.za.kp T.Fx .nil aK (aa (pv 1) ah)))))) ah))))),?_⟩
  try dsimp only[Of]
  refine⟨_,rfl,⟨_,_,rfl,.inl (aM.of hla),⟨_,_,rfl,rfl,_,rfl,aL (fun h=>⟨_,_,rfl,rfl,⟨_,rfl,(ez (fun h=>?r0) (fun h=>⟨_,rfl,?lc0⟩))⟩⟩) (fun h=>?f4)⟩⟩⟩
  case r0=>
   have :Kh316.okWord t=false:=by
    have h1:=‹decide _=false›
    rw[aE] at h1
    have h1:=of_decide_eq_false h1
    unfold Kh316.okWord
    rw[decide_eq_false (show ¬t.length≤12 by omega),Bool.and_false,Bool.false_and]
   rw[←this]
   exact kk H (ax.refl _)
  case f4=>
   refine⟨_,rfl,rA ?_⟩
   have :Kh316.okWord t=false:=by
    have h1:=‹¬_›
    rw[aE] at h1
    unfold Kh316.okWord
    rw[decide_eq_false (show ¬1≤t.length by omega),Bool.false_and,Bool.false_and]
   rw[←this]
   exact kk H (ax.refl _)
  case lc0=>
   have l12:t.length≤12:=by
    have h1:=of_decide_eq_true ‹decide _=true›
    rw[aE] at h1
    omega
   have l1:1≤t.length:=by
    have h1:=‹(1:Int)≤_›
    rw[aE] at h1
    omega
   refine⟨_,rfl,⟨_,aM.of hla⟩,BL (xs:=nats t) (Out:=fun i o _=>o=some (.bl ((Kh314.place (t.getD i 0)).isSome))) (by rw[aE,sizeLine_eq];omega) (aM.of hla) (fun _ _ _ _ _ h=>h) ?_ ?_⟩
   ·intro i x H' R hx s1 hR
    obtain⟨c,hc,rfl⟩:=lA hx
    have hb:=Ry c
    have hgd:=tY hc
    try dsimp only[Of]
    refine⟨rfl,rA ⟨_,rfl,⟨_,rfl,⟨_,rfl,df (fun h=>?t3) (fun h=>⟨_,rfl,⟨_,rfl,?KY⟩⟩)⟩⟩⟩⟩
    case t3=>
     refine hR _ _ (ax.refl _) ?_
     rw[hgd,←hb,h,Bool.true_or]
    case KY=>
     refine hR _ _ (ax.refl _) ?_
     rw[hgd,←hb,h,Bool.false_or]
   ·intro D Hend os hD sE hl hDe hout
    rw[gv hl hout,aE,sr (fun c=>.bl (Kh314.place c).isSome)] at hDe
    refine⟨_,t.map fun c=>(Kh314.place c).isSome,rfl,aM.of (by rw[List.map_map];exact hDe),?_⟩
    have :(t.map fun c=>(Kh314.place c).isSome).all id=Kh316.okWord t:=by
     unfold Kh316.okWord
     rw[decide_eq_true l1,decide_eq_true l12,List.all_map]
     rfl
    rw[this]
    exact kk Hend sE
noncomputable def FV (K:PySem.W.Frag) (A:Ad):Sp:=fun vs0 H Q _=>∃(a dx l:Addr) (pr:Bool) (tu:V) (xs:List V),vs0=[.ref a]∧(H a=some (.ins A.bp dx (cH (.ref l) (.bl pr) tu)))∧(H l=some (.lst xs))∧(Q (.bl (pr || decide (0<xs.length))) H)
theorem rp {P:Program} {w:World} {K:PySem.W.Frag} {mg:Str→Option Value} {base:Heap} {A:Ad} (T:Txt K mg A):bz P w K mg base gw 1 A.jI A.jR ["self"] (FV K A):=by
 refine T.CQ.ok Ge (fun vs H Q E h=>?_) (fun cdv Ar outer sh H vs Q E hr h=>?_)
 ·obtain⟨_,_,_,_,_,_,rfl,_⟩:=h
  rfl
 ·obtain⟨a,dx,l,pr,tu,xs,rfl,h1,h2,kk⟩:=h
  have hu:=aY hr
  have hu64:=hr.units
  refine⟨_,(ag (aq (Mt (ak (pv 0) rfl) (yQ (jm CD (aD aB (by rfl) T.cw PySem.boot_len (aa (ak (pv 0) rfl) ah)) aH (aI _)))))),?_⟩
  try dsimp only[Of]
  refine⟨_,rfl,⟨_,_,_,_,_,rfl,by assumption,T.bp,T.cq,ko,⟨_,rfl,df (fun h=>?t2) (fun h=>⟨_,rfl,⟨_,_,_,_,_,rfl,by assumption,T.bp,T.bO,de,⟨_,_,rfl,.inl (aM.of h2),⟨_,_,rfl,rfl,?r0⟩⟩⟩⟩)⟩⟩⟩
  case t2=>rw[‹pr=true›,Bool.true_or] at kk;exact kk
  case r0=>
   rw[‹pr=false›,Bool.false_or] at kk
   dsimp only
   rw[show decide ((0:Int)<(xs.length:Int))=decide (0<xs.length) from decide_eq_decide.mpr (by omega)]
   exact kk
noncomputable def Ea (K:PySem.W.Frag) (A:Ad):Sp:=fun vs0 H Q _=>∃(a dx:Addr) (l pr:V) (tu t:Int),vs0=[.ref a,.int t]∧(H a=some (.ins A.bp dx (cH l pr (.int tu))))∧(Q (.int (Kt.min2 (t - tu) 1000000)) H)
theorem pL {P:Program} {w:World} {K:PySem.W.Frag} {mg:Str→Option Value} {base:Heap} {A:Ad} (T:Txt K mg A):bz P w K mg base gw 1 A.iu A.iG ["self","tick"] (Ea K A):=by
 refine T.AL.ok El (fun vs H Q E h=>?_) (fun cdv Ar outer sh H vs Q E hr h=>?_)
 ·obtain⟨_,_,_,_,_,_,rfl,_⟩:=h
  rfl
 ·obtain⟨a,dx,l,pr,tu,t,rfl,h1,kk⟩:=h
  have hu:=aY hr
  have hu64:=hr.units
  refine⟨_,(ag (aq (aD (He rfl) (by rfl) T.KO boot_min (aa (bX tJ (pv 1) (ak (pv 0) rfl)) (aa (aw rfl T.xf) ah))))),?_⟩
  try dsimp only[Of]
  refine⟨_,rfl,⟨_,rfl,⟨_,_,_,_,_,rfl,by assumption,T.bp,T.eE,wB,⟨_,_,rfl,rfl,⟨_,_,rfl,?r0⟩⟩⟩⟩⟩
  case r0=>exact kk
end
section
noncomputable def zL (K:PySem.W.Frag) (A:Ad):Sp:=fun vs0 H Q _=>∃(x dx:Addr),vs0=[.ref x]∧(H x=some (.ins A.bp dx []))∧(∀(l:Addr) (H':Hp),H l=none→H' x=some (.ins A.bp dx (cH (.ref l) (.bl false) (.int 0)))→H' l=some (.lst [])→rM x H H'→Q .dh H')
theorem oV {P:Program} {w:World} {K:PySem.W.Frag} {mg:Str→Option Value} {base:Heap} {A:Ad} (T:Txt K mg A):bz P w K mg base gw 1 A.kQ A.lg ["self"] (zL K A):=by
 refine T.Fm.ok HL (fun vs H Q E h=>?_) (fun cdv Ar outer sh H vs Q E hr h=>?_)
 ·obtain⟨_,_,rfl,_⟩:=h
  rfl
 ·obtain⟨x,dx,rfl,h1,kk⟩:=h
  have hu:=aY hr
  have hu64:=hr.units
  refine⟨_,(ab (bA (pv 0) (bB ah) rfl)
   (ab (bA (pv 0) CB rfl)
   (ag (bA (pv 0) aH rfl)))),?_⟩
  try dsimp only[Of]
  refine ?lst3
  case lst3=>
   refine⟨Nat.zero_le _,fun l hl=>?_⟩
   have nlx:l≠x:=Mz h1 hl
   refine⟨_,rfl,?yK⟩
   case yK=>
    refine⟨_,_,_,_,rfl,aX hl _ _ h1,T.bp,T.bO,eu len0 (by decide),?_⟩
    refine⟨_,rfl,?kq⟩
    case kq=>
     refine⟨_,_,_,_,rfl,ae,T.bp,T.cq,eu (dM len0) (by decide),?_⟩
     refine⟨_,rfl,?ll⟩
     case ll=>
      refine⟨_,_,_,_,rfl,ae,T.bp,T.eE,eu (dM (dM len0)) (by decide),?_⟩
      refine kk l _ hl ae ?_ fun b o e hb=>?_
      ·rw[af nlx,af nlx,af nlx,ae]
      ·rw[af hb,af hb,af hb,af (ao e hl)]
       exact e
theorem nt {K:PySem.W.Frag} {A:Ad} {H:Hp} {R:Addr→Hp→Prop} {E:XK} (k:∀(x dx l:Addr) (H':Hp),H x=none→H l=none→x≠l→ax H H'→H' x=some (.ins A.bp dx (cH (.ref l) (.bl false) (.int 0)))→H' l=some (.lst [])→R x H') :
  ∀x dx,H x=none→H dx=none→dx≠x→zL K A (.ref x::([]:List V)) (upd (upd H dx (.own x)) x (.ins A.bp dx [])) (fun v H2=>v=.dh∧R x H2) E:=fun x dx hx hdx nd=>
 ⟨x,dx,rfl,ae,fun l H' hl h1 h2 b=>⟨rfl,by
  have nlx:l≠x:=fun e=>by subst e;rw[ae] at hl;cases hl
  have nld:l≠dx:=fun e=>by subst e;rw[af nd,ae] at hl;cases hl
  refine k x dx l H' hx (by rw[af nlx,af nld] at hl;exact hl) (Ne.symm nlx) (fun c u e=>b c u (by rw[af (ao e hx),af (ao e hdx)];exact e) (ao e hx)) h1 h2⟩⟩
noncomputable def Bq (K:PySem.W.Frag) (A:Ad):Sp:=fun vs0 H Q _=>∃(a dx l:Addr) (pr:Bool) (tu t:Int) (xs:List V),vs0=[.ref a,.int t]∧(H a=some (.ins A.bp dx (cH (.ref l) (.bl pr) (.int tu))))∧(H l=some (.lst xs))∧(xs.length<sizeLine)∧(∀H',H' a=some (.ins A.bp dx (cH (.ref l) (.bl !pr) (.int t)))→H' l=some (.lst (if (pr || decide (0<xs.length))=true then xs++[.int (Kt.min2 (t - tu) 1000000)] else xs))→(∀b o,H b=some o→b≠a→b≠l→H' b=some o)→Q .dh H')
theorem BI {P:Program} {w:World} {K:PySem.W.Frag} {mg:Str→Option Value} {base:Heap} {A:Ad} (T:Txt K mg A):bz P w K mg base gw 2 A.fN A.fW ["self","tick"] (Bq K A):=by
 refine T.vV.ok Bx (fun vs H Q E h=>?_) (fun cdv Ar outer sh H vs Q E hr h=>?_)
 ·obtain⟨_,_,_,_,_,_,_,rfl,_⟩:=h
  rfl
 ·obtain⟨a,dx,l,pr,tu,t,xs,rfl,h1,h2,hz,kk⟩:=h
  have hu:=aY hr
  have hu64:=hr.units
  refine⟨_,(ab (aT (ly (j0 (pv 0) T.bp T.ny (rp T) (hr.mono (by decide)) T.qX .nil aK)) (ag (cy (g6 PySem.F.plainAttrs_list PySem.F.slot_list_append PySem.F.type_list_append bR (ak (pv 0) rfl) (aa (cz (pv 0) T.bp T.lE (pL T) (hr.mono (by decide)) T.o5 .nil aK (aa (pv 1) ah)) ah)))) ay)
   (ab (bA (pv 0) (SR (ak (pv 0) rfl)) rfl)
   (ag (bA (pv 0) (pv 1) rfl)))),?_⟩
  try dsimp only[Of]
  have nal:a≠l:=oM h1 h2 (by intro z;cases z)
  refine⟨_,rfl,⟨_,_,_,rfl,by assumption,nr,⟨_,_,_,_,_,_,rfl,by assumption,by assumption,⟨_,rfl,(df (fun h=>⟨_,rfl,⟨_,_,_,_,_,rfl,by assumption,T.bp,T.bO,de,⟨ty_list (aM.of h2),⟨_,rfl,⟨_,_,_,rfl,by assumption,lz,⟨_,rfl,⟨_,_,_,_,_,_,rfl,by assumption,?o6⟩⟩⟩⟩⟩⟩⟩) (fun h=>⟨_,rfl,⟨_,_,_,_,_,rfl,by assumption,T.bp,T.cq,ko,⟨_,rfl,⟨_,rfl,?yJ⟩⟩⟩⟩))⟩⟩⟩⟩
  case o6=>
   refine⟨_,_,_,rfl,rfl,h2,hz,?_⟩
   have h1':upd H l (.lst (xs++[.int (Kt.min2 (t - tu) 1000000)])) a=some (.ins A.bp dx (cH (.ref l) (.bl pr) (.int tu))):=by rw[af nal];exact h1
   refine⟨_,rfl,⟨_,_,_,_,_,rfl,by assumption,T.bp,T.cq,ko,⟨_,rfl,⟨_,rfl,?kq⟩⟩⟩⟩
   case kq=>
    refine⟨_,_,_,_,rfl,h1',T.bp,T.cq,AH,?_⟩
    refine⟨_,rfl,⟨_,rfl,?ll⟩⟩
    case ll=>
     refine⟨_,_,_,_,rfl,ae,T.bp,T.eE,by rw[jk];exact AH,?_⟩
     rw[jk,uC]
     refine kk _ ae ?_ fun b o e hb hl=>?_
     ·rw[af (Ne.symm nal),af (Ne.symm nal),ae,if_pos (by assumption)]
     ·rw[af hb,af hb,af hl];exact e
  case yJ=>
   refine⟨_,_,_,_,rfl,h1,T.bp,T.cq,AH,?_⟩
   refine⟨_,rfl,⟨_,rfl,?zP⟩⟩
   case zP=>
    refine⟨_,_,_,_,rfl,ae,T.bp,T.eE,by rw[jk];exact AH,?_⟩
    rw[jk,uC]
    refine kk _ ae ?_ fun b o e hb hl=>?_
    ·rw[af (Ne.symm nal),af (Ne.symm nal),if_neg (by rw[‹(pr || _)=false›];decide)];exact h2
    ·rw[af hb,af hb];exact e
theorem Ez (e:Int):∀(ls ks:List Nat) (v:Kt.U) (l k:Nat),ls.length=ks.length→Kt.overs e v (ls++[l]) (ks++[k])=Kt.ofLength (Kt.overs e v ls ks) l k e
 | [],[],v,l,k,_=>by simp[Kt.overs]
 | [],_::_,_,_,_,h=>by simp at h
 | _ ::_,[],_,_,_,h=>by simp at h
 | a ::ls,b::ks,v,l,k,h=>by
  show Kt.overs e (Kt.ofLength v a b e) (ls++[l]) (ks++[k])=_
  rw[Ez e ls ks _ l k (by simpa using h)]
  rfl
theorem Ey (e:Int):∀(ls ks:List Nat) (v:Kt.U),Kt.overs e v ls (ks.take ls.length)=Kt.overs e v ls ks
 | [],ks,v=>by cases ks<;>rfl
 | _ ::_,[],v=>by simp[Kt.overs]
 | a ::ls,b::ks,v=>by
  show Kt.overs e (Kt.ofLength v a b e) ls (ks.take ls.length)=Kt.overs e (Kt.ofLength v a b e) ls ks
  exact Ey e ls ks _
noncomputable def Bj (K:PySem.W.Frag) (A:Ad):Sp:=fun vs0 H Q _=>∃(pa ca AN la ua yy:Addr) (pat lens:List Nat) (pr:Bool) (tu t:Int) (u:Kt.U) (e:Int),vs0=[.ref pa,.ref ca,.int t,.ref ua,.int e]∧(H pa=some (.lst (nats pat)))∧(H ca=some (.ins A.bp AN (cH (.ref la) (.bl pr) (.int tu))))∧(H la=some (.lst (nats lens)))∧(H ua=some (.ins A.bg yy (bL (.int u.lo) (.int u.hi))))∧(Kt.EJ pat)∧(∀(x dx':Addr) (H':Hp),(H x=none∨x=ua)→ax H H'→H' x=some (.ins A.bg dx' (bL (.int (Kt.fC pat lens (pr || decide (0<lens.length)) (Kt.min2 (t - tu) 1000000) u e).lo) (.int (Kt.fC pat lens (pr || decide (0<lens.length)) (Kt.min2 (t - tu) 1000000) u e).hi)))→Q (.ref x) H')
theorem BD {P:Program} {w:World} {K:PySem.W.Frag} {mg:Str→Option Value} {base:Heap} {A:Ad} (T:Txt K mg A):bz P w K mg base gw 4 A.fF A.fO ["pattern","came","tick","units","slack"] (Bj K A):=by
 refine T.pW.ok eL (fun vs H Q E h=>?_) (fun cdv Ar outer sh H vs Q E hr h=>?_)
 ·obtain⟨_,_,_,_,_,_,_,_,_,_,_,_,_,rfl,_⟩:=h
  rfl
 ·obtain⟨pa,ca,AN,la,ua,yy,pat,lens,pr,tu,t,u,e,rfl,hpa,hca,hla,hua,h13,kk⟩:=h
  have hu:=aY hr
  have hu64:=hr.units
  refine⟨_,(ab (bb (i:=5) eL.nd rfl (Or.inl rfl) (aD aB (by rfl) T.cw PySem.boot_len (aa (ak (pv 1) rfl) ah)))
   (ab (aT (aA CD (pv 5) (aD aB (by rfl) T.cw PySem.boot_len (aa (pv 0) ah)) (aI _)) (ag (aq (iO T.j4 (nj T) (hr.mono (by decide)) rfl T.Au T.nX .nil aK (aa aH (aa aH ah))))) ay)
   (ab (oq PassesOwn.never rfl (SM rfl T.MY (aa (ak (pv 1) rfl) (aa (pv 0) ah))) (wO (K:=K) 2 rfl rfl (g5 (bC (i:=6) eL.nd rfl (Or.inl rfl) (Or.inl rfl)) (g5 (bC (i:=7) eL.nd rfl (Or.inl rfl) (Or.inl rfl)) wN)) rfl rfl) (ag (bb (i:=3) eL.nd rfl (Or.inl rfl) (aW (yS T) (hr.mono (by decide)) rfl T.iP T.mK.kp T.sR .nil aK (aa (pv 3) (aa (pv 6) (aa (pv 7) (aa (pv 4) ah))))))))
   (ab (aT (PW.pt (Es (ly (j0 (pv 1) T.bp T.ny (rp T) (hr.mono (by decide)) T.qX .nil aK)) (zY (aA JN (pv 5) (aD aB (by rfl) T.cw PySem.boot_len (aa (pv 0) ah)) (aI _))))) (ag (bb (i:=3) eL.nd rfl (Or.inl rfl) (aW (tN T) (hr.mono (by decide)) rfl T.fw T.je.kp T.nW .nil aK (aa (pv 3) (aa (cz (pv 1) T.bp T.lE (pL T) (hr.mono (by decide)) T.o5 .nil aK (aa (pv 2) ah)) (aa (bw aN (pv 0) (pv 5) (fun _ _=>rfl)) (aa (pv 4) ah))))))) ay)
   (ag (aq (pv 3))))))),?_⟩
  try dsimp only[Of]
  refine⟨_,rfl,⟨_,_,_,_,_,rfl,by assumption,T.bp,T.bO,de,⟨_,_,rfl,.inl (aM.of hla),⟨_,rfl,⟨_,rfl,⟨_,_,rfl,.inl (aM.of hpa),⟨_,_,rfl,rfl,⟨_,rfl,(aL (fun h=>?gb) (fun h=>⟨_,rfl,⟨_,_,_,_,_,rfl,by assumption,T.bp,T.bO,de,⟨_,rfl,?loop0⟩⟩⟩))⟩⟩⟩⟩⟩⟩⟩⟩
  case gb=>
   have hlt:=‹(_:Int)<_›
   rw[aE,aE] at hlt
   have ew:Kt.fC pat lens (pr || decide (0<lens.length)) (Kt.min2 (t - tu) 1000000) u e=⟨1,0⟩:=by unfold Kt.fC;rw[if_pos (by omega)]
   rw[ew] at kk
   exact j4 fun x dx H' nx s1 hx=>kk x dx H' (.inl nx) s1 hx
  case loop0=>
   have hle:=‹¬_›
   rw[aE,aE] at hle
   have hle:lens.length≤pat.length:=by omega
   refine⟨_,_,_,_,rfl,aM.of hla,aM.of hpa,Uv (xs:=nats lens) (ys:=nats pat) (by rw[aE,aE];exact hle) (fun i σ H'=>∃(x dxx:Addr) (v6 v7:Option V),σ=[some (.ref pa),some (.ref ca),some (.int t),some (.ref x),some (.int e),some (.int lens.length),v6,v7]∧ax H H'∧H' x=some (.ins A.bg dxx (bL (.int (Kt.overs e u (lens.take i) (pat.take i)).lo) (.int (Kt.overs e u (lens.take i) (pat.take i)).hi)))∧(H x=none∨x=ua)) ⟨ua,yy,none,none,by rw[aE];rfl,ax.refl _,hua,.inr rfl⟩ (fun i σ H' ⟨_,_,_,_,_,s1,_⟩=>⟨aM.of (s1 _ _ hla),aM.of (s1 _ _ hpa)⟩) ?_ ?_⟩
   ·rintro i xv yv TT σ H1 H2 hx hy ⟨x,dxx,v6,v7,rfl,s1,h1,fx⟩ hT s2 e2
    obtain⟨l,hl,rfl⟩:=lA hx
    obtain⟨k,hk,rfl⟩:=lA hy
    have hT2:H2 TT=some (.tup [.int l,.int k]):=by rw[e2];exact ae
    have h1':=s2 _ _ h1
    try dsimp only[Of]
    refine⟨_,_,rfl,GH.of hT2,rfl,_,_,rfl,_,_,rfl,rfl,?_⟩
    refine⟨_,rfl,⟨_,rfl,⟨_,rfl,⟨_,rfl,?uh⟩⟩⟩⟩
    case uh=>
     refine⟨_,_,_,_,_,_,rfl,h1',?_,fun x' dx' H3 nx s3 h3=>?_⟩
     ·have:=h13 k (List.mem_of_getElem? hk)
      omega
     ·refine⟨x',dx',_,_,rfl,(s1.trans s2).trans s3,?_,.inl ((s1.trans s2).free nx)⟩
      have hil:=(List.getElem?_eq_some_iff.mp hl).1
      rw[take_snoc hl,take_snoc hk,Ez _ _ _ _ _ _ (by rw[List.length_take,List.length_take];omega)]
      exact h3
   ·rintro σ H' ⟨x,dxx,v6,v7,rfl,s1,h1,fx⟩
    rw[aE,List.take_length,Ey] at h1
    have hpa':=s1 _ _ hpa
    have hca':=s1 _ _ hca
    have hla':=s1 _ _ hla
    have eb:(nats lens).length=lens.length:=aE _
    try dsimp only[Of]
    by_cases hlt:lens.length<pat.length
    ·have hat:DS (nats pat) (lens.length:Int)=some (V.int ((pat.getD lens.length 0:Nat):Int)):=bt (tQ (by rw[List.getD_eq_getElem?_getD,List.getElem?_eq_getElem hlt];rfl))
     refine⟨_,rfl,⟨_,_,_,rfl,by assumption,nr,⟨_,_,_,_,_,_,rfl,by assumption,by assumption,⟨_,rfl,(df (fun h=>⟨_,rfl,⟨_,rfl,⟨_,_,rfl,.inl (aM.of hpa'),⟨_,_,rfl,rfl,⟨_,rfl,(df (fun h=>⟨_,rfl,⟨_,rfl,⟨_,_,_,rfl,by assumption,lz,⟨_,rfl,⟨_,_,_,_,_,_,rfl,by assumption,⟨_,rfl,⟨_,rfl,⟨_,_,_,_,rfl,rfl,(aM.of hpa'),(hat),⟨_,rfl,?fm⟩⟩⟩⟩⟩⟩⟩⟩⟩) (fun h=>⟨_,rfl,?r5⟩))⟩⟩⟩⟩⟩) (fun h=>?f7))⟩⟩⟩⟩
     case fm=>
      refine⟨_,_,_,_,_,_,rfl,h1,?_,fun x' dx' H3 nx s3 h3=>?_⟩
      ·have:=h13 (pat.getD lens.length 0) (by rw[List.getD_eq_getElem?_getD,List.getElem?_eq_getElem hlt];exact List.getElem_mem _)
       omega
      ·refine⟨_,rfl,kk x' dx' H3 (.inl (s1.free nx)) (s1.trans s3) ?_⟩
       have hb:=‹(pr || _)=true›
       rw[eb] at hb
       unfold Kt.fC
       rw[if_neg (by omega),if_pos ⟨hb,hlt⟩]
       exact h3
     case r5=>
      have hb:=‹decide _=false›
      rw[aE] at hb
      exact absurd (of_decide_eq_false hb) (by omega)
     case f7=>
      have hb:=‹(pr || _)=false›
      rw[eb] at hb
      refine NX ⟨_,rfl,kk x dxx H' fx s1 ?_⟩
      unfold Kt.fC
      rw[if_neg (by omega),if_neg (by rw[hb];simp)]
      exact h1
    ·have hw:Kt.fC pat lens (pr || decide (0<lens.length)) (Kt.min2 (t - tu) 1000000) u e=Kt.overs e u lens pat:=by
      unfold Kt.fC
      rw[if_neg (by omega),if_neg (by rintro⟨_,h⟩;exact hlt h)]
     rw[hw] at kk
     refine⟨_,rfl,⟨_,_,_,rfl,by assumption,nr,⟨_,_,_,_,_,_,rfl,by assumption,by assumption,⟨_,rfl,(df (fun h=>⟨_,rfl,⟨_,rfl,⟨_,_,rfl,.inl (aM.of hpa'),⟨_,_,rfl,rfl,⟨_,rfl,(df (fun h=>⟨_,rfl,⟨_,rfl,⟨_,_,_,rfl,by assumption,lz,⟨_,rfl,⟨_,_,_,_,_,_,rfl,by assumption,⟨_,rfl,⟨_,rfl,⟨_,_,_,_,rfl,rfl,(aM.of hpa'),((absurd (of_decide_eq_true h) (by rw[aE];omega):DS _ _=some V.dh)),⟨_,rfl,?fm⟩⟩⟩⟩⟩⟩⟩⟩⟩) (fun h=>⟨_,rfl,?r5⟩))⟩⟩⟩⟩⟩) (fun h=>?f7))⟩⟩⟩⟩
     case fm=>
      have hb:=of_decide_eq_true ‹decide _=true›
      rw[aE] at hb
      exact absurd hb (by omega)
     case r5=>exact kk x dxx H' fx s1 h1
     case f7=>exact NX ⟨_,rfl,kk x dxx H' fx s1 h1⟩
noncomputable def Li (K:PySem.W.Frag) (A:Ad):Sp:=fun vs0 H Q _=>∃(pa ca AN la ua yy:Addr) (pat lens:List Nat) (pr:V) (tu t lo hi e:Int),vs0=[.ref pa,.ref ca,.int t,.ref ua,.int e]∧(H pa=some (.lst (nats pat)))∧(H ca=some (.ins A.bp AN (cH (.ref la) pr (.int tu))))∧(H la=some (.lst (nats lens)))∧(H ua=some (.ins A.bg yy (bL (.int lo) (.int hi))))∧(Q (.bl (decide (lens.length=pat.length)&&decide (3 * hi+e<Kt.min2 (t - tu) 1000000))) H)
theorem LD {P:Program} {w:World} {K:PySem.W.Frag} {mg:Str→Option Value} {base:Heap} {A:Ad} (T:Txt K mg A):bz P w K mg base gw 2 A.ph A.pB ["pattern","came","tick","units","slack"] (Li K A):=by
 refine T.Fe.ok Lo (fun vs H Q E h=>?_) (fun cdv Ar outer sh H vs Q E hr h=>?_)
 ·obtain⟨_,_,_,_,_,_,_,_,_,_,_,_,_,_,rfl,_⟩:=h
  rfl
 ·obtain⟨pa,ca,AN,la,ua,yy,pat,lens,pr,tu,t,lo,hi,e,rfl,hpa,hca,hla,hua,kk⟩:=h
  have hu:=aY hr
  have hu64:=hr.units
  refine⟨_,(ab (aT (aA CC (aD aB (by rfl) T.cw PySem.boot_len (aa (ak (pv 1) rfl) ah)) (aD aB (by rfl) T.cw PySem.boot_len (aa (pv 0) ah)) (aI _)) (ag (aq CB)) ay)
   (ag (aq (jm CD (cz (pv 1) T.bp T.lE (pL T) (hr.mono (by decide)) T.o5 .nil aK (aa (pv 2) ah)) (bX pK (bX PD (aw rfl T.lT) (ak (pv 3) rfl)) (pv 4)) (aI _))))),?_⟩
  try dsimp only[Of]
  refine⟨_,rfl,⟨_,_,_,_,_,rfl,by assumption,T.bp,T.bO,de,⟨_,_,rfl,.inl (aM.of hla),⟨_,rfl,⟨_,_,rfl,.inl (aM.of hpa),(yc ⟨_,rfl,(mz (fun h=>?r0) (fun h=>⟨_,rfl,⟨_,_,_,rfl,by assumption,lz,⟨_,rfl,⟨_,_,_,_,_,_,rfl,by assumption,⟨_,rfl,⟨_,_,_,_,_,rfl,by assumption,T.bg,T.bQ,ei,⟨_,_,rfl,rfl,?c2,⟨_,rfl,⟨_,_,rfl,rfl,⟨_,_,rfl,rfl,?r1⟩⟩⟩⟩⟩⟩⟩⟩⟩⟩))⟩)⟩⟩⟩⟩⟩
  case r0=>
   have hn:=‹¬_›
   rw[aE,aE] at hn
   rw[decide_eq_false (by omega),Bool.false_and] at kk
   exact kk
  case c2=>exact .inl ⟨by decide,by decide⟩
  case r1=>
   have hn:=‹((nats lens).length:Int)=_›
   rw[aE,aE] at hn
   rw[decide_eq_true (by omega),Bool.true_and] at kk
   exact kk
end
section
noncomputable def dg {α β:Type} (R:α→β→Prop) (xs:List α) (ys:List β):Prop:=xs.length=ys.length∧∀(i:Nat) (x:α) (y:β),xs[i]?=some x→ys[i]?=some y→R x y
theorem dg.mono {α β:Type} {R R':α→β→Prop} {xs:List α} {ys:List β} (h:dg R xs ys) (g:∀x y,R x y→R' x y):dg R' xs ys:=⟨h.1,fun i x y a b=>g _ _ (h.2 i x y a b)⟩
theorem dg.nil {α β:Type} {R:α→β→Prop}:dg R [] []:=⟨rfl,fun i x y a=>by simp at a⟩
theorem dg.snoc {α β:Type} {R:α→β→Prop} {xs:List α} {ys:List β} {x:α} {y:β} (h:dg R xs ys) (g:R x y):dg R (xs++[x]) (ys++[y]):=by
 refine⟨by simp[h.1],fun i a b ha hb=>?_⟩
 rw[List.getElem?_append] at ha hb
 rw[h.1] at ha
 by_cases hi:i<ys.length
 ·rw[if_pos hi] at ha hb
  exact h.2 i a b ha hb
 ·rw[if_neg hi] at ha hb
  have :i - ys.length=0:=by
   have:=(List.getElem?_eq_some_iff.mp ha).1
   simp at this
   exact this
  rw[this] at ha hb
  simp at ha hb
  rw[←ha,←hb]
  exact g
theorem dg.get {α β:Type} {R:α→β→Prop} {xs:List α} {ys:List β} {i:Nat} {x:α} (h:dg R xs ys) (g:xs[i]?=some x):∃y,ys[i]?=some y∧R x y:=by
 have hi:=(List.getElem?_eq_some_iff.mp g).1
 rw[h.1] at hi
 have e:ys[i]?=some ys[i]:=List.getElem?_eq_getElem hi
 exact⟨_,e,h.2 i x _ g e⟩
theorem dg.get' {α β:Type} {R:α→β→Prop} {xs:List α} {ys:List β} {i:Nat} {y:β} (h:dg R xs ys) (g:ys[i]?=some y):∃x,xs[i]?=some x∧R x y:=by
 have hi:=(List.getElem?_eq_some_iff.mp g).1
 rw[←h.1] at hi
 have e:xs[i]?=some xs[i]:=List.getElem?_eq_getElem hi
 exact⟨_,e,h.2 i _ y e g⟩
noncomputable def xq :Option Nat→Int
 | none=>255
 | some q=>q
noncomputable def uW (A:Ad) (F:Hp) (v:V) (w:Nat×Option Nat):Prop:=∃a dx,v=.ref a∧F a=some (.ins A.eh dx (nO (.int w.1) (.int (xq w.2))))
noncomputable def qZ (A:Ad) (F:Hp) (v:V) (p:Kh292.Place):Prop:=∃a dx wl ws,v=.ref a∧F a=some (.ins A.bh dx (cP (.int p.from_) (.int p.to_) (.ref wl)))∧F wl=some (.lst ws)∧dg (uW A F) ws p.ways
noncomputable def gJ (A:Ad) (F:Hp) (vs:List V) (ps:List Kh292.Place):Prop:=dg (qZ A F) vs ps
theorem uW.same {A:Ad} {F F':Hp} {v:V} {w:Nat×Option Nat} (s:ax F F') (h:uW A F v w):uW A F' v w:=by
 obtain⟨a,dx,e,h⟩:=h
 exact⟨a,dx,e,s _ _ h⟩
theorem qZ.same {A:Ad} {F F':Hp} {v:V} {p:Kh292.Place} (s:ax F F') (h:qZ A F v p):qZ A F' v p:=by
 obtain⟨a,dx,wl,ws,e,h1,h2,h3⟩:=h
 exact⟨a,dx,wl,ws,e,s _ _ h1,s _ _ h2,h3.mono fun _ _ h=>h.same s⟩
theorem gJ.same {A:Ad} {F F':Hp} {vs:List V} {ps:List Kh292.Place} (s:ax F F') (h:gJ A F vs ps):gJ A F' vs ps:=dg.mono h fun _ _ h=>h.same s
noncomputable def VI (cs:List Nat):Option Nat→Int
 | none=>4294967296
 | some q=>((cs.getD q 0:Nat):Int)
theorem yR :∀(l:List Nat) (a:Nat),Kt.qw (l++[a])=Kt.qw l ||| a
 | [],a=>by show a ||| 0=0 ||| a;simp
 | b ::l,a=>by
  show b ||| Kt.qw (l++[a])=(b ||| Kt.qw l) ||| a
  rw[yR l a,Nat.or_assoc]
theorem HV (a b:Nat):Builtin.bitOr (a:Int) (b:Int)=((a ||| b:Nat):Int):=by
 rw[UR.Qu (by omega) (by omega),Int.toNat_natCast,Int.toNat_natCast]
theorem uu (a b:Nat):Builtin.bitAnd (a:Int) (b:Int)=((a &&& b:Nat):Int):=by
 rw[bitAnd_pp (by omega) (by omega),Int.toNat_natCast,Int.toNat_natCast]
theorem DC (k:Nat):(2:Int) ^ k=((2 ^ k:Nat):Int):=two_pow_cast k
theorem um (b q:Nat):(Builtin.bitAnd ((b:Int) / 2 ^ ((q:Nat):Int).toNat) 1=1)↔b.testBit q=true:=by
 rw[bitAnd_m1,Int.toNat_natCast,DC,Nat.testBit_eq_decide_div_mod_eq,decide_eq_true_eq]
 rw[show (b:Int) / ((2 ^ q:Nat):Int)=((b / 2 ^ q:Nat):Int) from (Int.natCast_ediv _ _).symm]
 omega
theorem KD (b q:Nat):(Builtin.bitAnd ((b:Int) / 2 ^ ((q:Nat):Int).toNat) 1=0)↔b.testBit q=false:=by
 rw[bitAnd_m1,Int.toNat_natCast,DC,Nat.testBit_eq_decide_div_mod_eq,decide_eq_false_iff_not]
 rw[show (b:Int) / ((2 ^ q:Nat):Int)=((b / 2 ^ q:Nat):Int) from (Int.natCast_ediv _ _).symm]
 omega
theorem Tu {x:Option Nat} (h:∀q,x=some q→q≤31):(if xq x=255 then (4294967296:Int) else 2 ^ (xq x).toNat)=((Kt.Qv x:Nat):Int):=by
 cases x with
 | none=>rfl
 | some q=>
  have:=h q rfl
  rw[if_neg (by show ¬((q:Int)=255);omega)]
  show (2:Int) ^ ((q:Int)).toNat=((2 ^ q:Nat):Int)
  rw[Int.toNat_natCast,DC]
theorem Qw {x:Option Nat} (h:∀q,x=some q→q≤31):0≤xq x∧xq x≤1000:=by
 cases x with
 | none=>exact⟨by decide,by decide⟩
 | some q=>have:=h q rfl;exact⟨by show (0:Int)≤q;omega,by show (q:Int)≤1000;omega⟩
noncomputable def D0 (K:PySem.W.Frag) (A:Ad):Sp:=fun vs0 H Q _=>∃(v:V) (p:Kh292.Place),vs0=[v]∧(qZ A H v p)∧(∀w∈p.ways,∀q,w.2=some q→q≤31)∧(Q (.int (Kt.ng p:Nat)) H)
theorem EB {P:Program} {w:World} {K:PySem.W.Frag} {mg:Str→Option Value} {base:Heap} {A:Ad} (T:Txt K mg A):bz P w K mg base gw 2 A.ie A.iy ["place"] (D0 K A):=by
 refine T.t8.ok lq (fun vs H Q E h=>?_) (fun cdv Ar outer sh H vs Q E hr h=>?_)
 ·obtain⟨_,_,rfl,_⟩:=h
  rfl
 ·obtain⟨v,p,rfl,hp,h31,kk⟩:=h
  have hu:=aY hr
  have hu64:=hr.units
  refine⟨_,(ab (bb (i:=1) lq.nd rfl (Or.inl rfl) aH)
   (ab (oq PassesOwn.never rfl (dP (ak (pv 0) rfl)) (bC (i:=2) lq.nd rfl (Or.inl rfl) (Or.inl rfl)) (ag (bb (i:=1) lq.nd rfl (Or.inl rfl) (bX Mx (pv 1) (aW (NM T) (hr.mono (by decide)) rfl T.Aq T.IJ.kp T.MW .nil aK (aa (ak (pv 2) rfl) ah))))))
   (ag (aq (pv 1))))),?_⟩
  try dsimp only[Of]
  obtain⟨a,dx,wl,ws,rfl,h1,h2,h3⟩:=hp
  refine⟨_,rfl,⟨_,_,_,_,_,rfl,by assumption,T.bh,T.cB,eK,?loop0⟩⟩
  case loop0=>
   refine⟨_,rfl,⟨_,aM.of h2⟩,E9 (xs:=ws) (fun i σ H'=>∃v,H'=H∧σ=[some (.ref a),some (.int (Kt.qw ((p.ways.take i).map fun w=>Kt.Qv w.2):Nat)),v]) ⟨none,rfl,rfl⟩ (fun i σ H' ⟨_,e,_⟩=>by subst e;exact aM.of h2) ?_ ?_⟩
   ·rintro i x σ H' hx ⟨v,rfl,rfl⟩
    obtain⟨w,hw,wa,wdx,rfl,hwa⟩:=h3.get hx
    have hr:=h31 w (List.mem_of_getElem? hw)
    try dsimp only[Of]
    refine⟨_,rfl,⟨_,rfl,⟨_,_,_,_,_,rfl,by assumption,T.eh,T.cA,eJ,⟨_,rfl,?p1,⟨_,_,rfl,rfl,?NEXT0⟩⟩⟩⟩⟩
    case p1=>exact Qw hr
    case NEXT0=>
     refine⟨some (.ref wa),rfl,?_⟩
     dsimp only
     rw[Tu hr,HV,take_snoc hw,List.map_append,List.map_cons,List.map_nil,yR]
     rfl
   ·rintro σ H' ⟨v,rfl,rfl⟩
    try dsimp only[Of]
    refine⟨_,rfl,?r2⟩
    case r2=>
     rw[h3.1,List.take_length]
     exact kk
noncomputable def zA (K:PySem.W.Frag) (A:Ad):Sp:=fun vs0 H Q _=>∃(v:V) (w:Nat×Option Nat) (cl:Addr) (cs:List Nat),vs0=[v,.ref cl]∧(uW A H v w)∧(H cl=some (.lst (nats cs)))∧(∀q,w.2=some q→q<cs.length∧q≤31)∧(Q (.int (VI cs w.2)) H)
theorem z6 {P:Program} {w:World} {K:PySem.W.Frag} {mg:Str→Option Value} {base:Heap} {A:Ad} (T:Txt K mg A):bz P w K mg base gw 1 A.eO A.eZ ["way","comes"] (zA K A):=by
 refine T.oB.ok zR (fun vs H Q E h=>?_) (fun cdv Ar outer sh H vs Q E hr h=>?_)
 ·obtain⟨_,_,_,_,rfl,_⟩:=h
  rfl
 ·obtain⟨v,w,cl,cs,rfl,hv,hc,hq,kk⟩:=h
  have hu:=aY hr
  have hu64:=hr.units
  refine⟨_,(ab (aT (aA cg (ak (pv 0) rfl) (aw rfl T.yj) (aI _)) (ag (aq (aw rfl T.vP))) ay)
   (ag (aq (bw aN (pv 1) (ak (pv 0) rfl) (fun _ _=>rfl))))),?_⟩
  try dsimp only[Of]
  obtain⟨a,dx,rfl,h1⟩:=hv
  obtain⟨w1,w2⟩:=w
  cases w2 with
  | none=>
   refine⟨_,rfl,⟨_,_,_,_,_,rfl,by assumption,T.eh,T.cA,eJ,(bJ ⟨_,rfl,(aL (fun h=>?r0) (fun h=>⟨_,rfl,⟨_,rfl,⟨_,_,_,_,_,rfl,by assumption,T.eh,T.cA,eJ,⟨_,_,_,_,rfl,rfl,(aM.of hc),((absurd rfl h:DS _ _=some V.dh)),?r1⟩⟩⟩⟩))⟩)⟩⟩
   case r0=>exact kk
   case r1=>exact absurd rfl h
  | some q=>
   obtain⟨q1,q2⟩:=hq q rfl
   refine⟨_,rfl,⟨_,_,_,_,_,rfl,by assumption,T.eh,T.cA,eJ,(bJ ⟨_,rfl,(aL (fun h=>?r0) (fun h=>⟨_,rfl,⟨_,rfl,⟨_,_,_,_,_,rfl,by assumption,T.eh,T.cA,eJ,⟨_,_,_,_,rfl,rfl,(aM.of hc),(bt (tQ (by rw[List.getElem?_eq_getElem q1]))),?r1⟩⟩⟩⟩))⟩)⟩⟩
   case r0=>
    have h:(q:Int)=255:=h
    omega
   case r1=>
    have e:cs.getD q 0=cs[q]:=by rw[List.getD_eq_getElem?_getD,List.getElem?_eq_getElem q1];rfl
    show Q (V.int ((cs[q]:Nat):Int)) H
    rw[←e]
    exact kk
noncomputable def Vo (m:Nat) (vs:List V):List V:=((List.range vs.length).filter fun q=>m.testBit q).map fun q=>vs.getD q .dh
theorem BZ {n:Nat} {b:Nat→Bool} {f:Nat→V}:((List.range n).map fun i=>if b i=true then some (f i) else none).filterMap id=((List.range n).filter b).map f:=by
 induction n with
 | zero=>rfl
 | succ n ih=>
  rw[List.range_succ,List.map_append,List.filterMap_append,ih,List.filter_append,List.map_append]
  congr 1
  by_cases h:b n=true
  ·simp[h]
  ·simp[h]
theorem Iw {l:List V} {i:Nat} {x:V} (h:l[i]?=some x):l.getD i .dh=x:=by
 rw[List.getD_eq_getElem?_getD,h]
 rfl
noncomputable def Hz (K:PySem.W.Frag) (A:Ad):Sp:=fun vs0 H Q _=>∃(m:Nat) (pl:Addr) (vs:List V),vs0=[.int m,.ref pl]∧(H pl=some (.lst vs))∧(vs.length≤32)∧(∀(D:Addr) (H':Hp),H D=none→ax H H'→H' D=some (.lst (Vo m vs))→Q (.ref D) H')
theorem tO {P:Program} {w:World} {K:PySem.W.Frag} {mg:Str→Option Value} {base:Heap} {A:Ad} (T:Txt K mg A):bz P w K mg base gw 1 A.kJ A.kS ["state","places"] (Hz K A):=by
 refine T.pY.ok oS (fun vs H Q E h=>?_) (fun cdv Ar outer sh H vs Q E hr h=>?_)
 ·obtain⟨_,_,_,rfl,_⟩:=h
  rfl
 ·obtain⟨m,pl,vs,rfl,hpl,hn,kk⟩:=h
  have hu:=aY hr
  have hu64:=hr.units
  refine⟨_,(ag (aq (nL rfl oS.nd (z0 rfl T.gM (aa (pv 1) ah)) (own:=[("q",2),("place",3)]) (dO (N:=["state","places","q","place"]) (sc:=ai qu) (by decide +kernel)) (fun _ _ _ _ _=>(wO (K:=K) 2 rfl rfl (g5 (bC (i:=2) oS.nd rfl (Or.inl rfl) (Or.inr rfl)) (g5 (bC (i:=3) oS.nd rfl (Or.inl rfl) (Or.inr rfl)) wN)) rfl rfl)) (fun _ _ _ _ _=>(DB (aA cg (bX tK (bX HW (pv 0) (pv 2)) aH) aH (aI _)))) (fun _ _ _ _ _=>(pv 3))))),?_⟩
  try dsimp only[Of]
  refine⟨_,rfl,?lc0⟩
  case lc0=>
   refine⟨_,_,rfl,aM.of hpl,S5 (xs:=vs) (Out:=fun i o _=>o=if m.testBit i=true then some (vs.getD i .dh) else none) (by rw[sizeLine_eq];omega) (aM.of hpl) (fun _ _ _ _ _ h=>h) ?_ ?_⟩
   ·intro i x TT H' R hx s1 hT hR
    have hgd:=Iw hx
    try dsimp only[Of]
    refine⟨_,_,rfl,GH.of hT,rfl,_,_,rfl,_,_,rfl,rfl,⟨rfl,⟨_,rfl,⟨_,rfl,⟨_,_,rfl,rfl,?c1,⟨_,_,rfl,rfl,(bJ ⟨_,rfl,(aL (fun h=>⟨_,rfl,?KY⟩) (fun h=>?KN))⟩)⟩⟩⟩⟩⟩⟩
    case c1=>show (0:Int)≤(i:Int);omega
    case KY=>
     refine hR _ _ (ax.refl _) ?_
     rw[if_pos ((um m i).mp h),hgd]
    case KN=>
     refine hR _ _ (ax.refl _) ?_
     rw[if_neg (fun z=>h ((um m i).mpr z))]
   ·intro D Hend os hD sE hl hDe hout
    rw[gv hl hout,BZ (b:=fun i=>m.testBit i)] at hDe
    exact kk D Hend hD sE hDe
end
section
theorem FH {s:Kh292.Script} {i:Nat} {p:Kh292.Place} (h:s.places[i]?=some p):Kh292.at_ s i=p:=by
 unfold Kh292.at_
 rw[List.getD_eq_getElem?_getD,h]
 rfl
theorem Jp {s:Kh292.Script} {c i:Nat} {p:Kh292.Place} (h:s.places[i]?=some p):(decide ((c:Int)=(p.from_:Int)) || decide ((c:Int)=(p.to_:Int)))=Kh292.takesPart s c i:=by
 unfold Kh292.takesPart
 rw[FH h,Bool.eq_iff_iff]
 simp only[Bool.or_eq_true,decide_eq_true_eq,beq_iff_eq]
 omega
theorem si {α:Type} {l:List α} {i:Nat} {x:α} (h:l[i]?=some x):i<l.length:=(List.getElem?_eq_some_iff.mp h).1
theorem pO {l:List Nat} {n:Nat} (h:n=l.length):((List.range n).map fun i=>some (V.int ((l.getD i 0:Nat):Int))).filterMap id=nats l:=by
 subst h
 exact sr (l:=l) fun x=>V.int (x:Int)
theorem OL {q:Nat} {g:List Nat} {j b:Nat} (h:g[j]?=some b):(Kt.xR q g).getD j 0=if b.testBit q=true then b ||| g.getD q 0 else b:=by
 unfold Kt.xR
 rw[List.getD_eq_getElem?_getD,List.getElem?_map,h]
 rfl
theorem M1 (q:Nat) (g:List Nat):(Kt.xR q g).length=g.length:=List.length_map _
noncomputable def xr (K:PySem.W.Frag) (A:Ad):Sp:=fun vs0 H Q _=>∃(pl:Addr) (vs:List V) (s:Kh292.Script) (c:Nat),vs0=[.ref pl,.int c]∧(H pl=some (.lst vs))∧(gJ A H vs s.places)∧(s.places.length≤32)∧(∀x∈s.places,∀w∈x.ways,∀q,w.2=some q→q≤31)∧(∀(D:Addr) (H':Hp),H D=none→ax H H'→H' D=some (.lst (nats (Kt.eG s c s.places.length)))→Q (.ref D) H')
theorem xD {P:Program} {w:World} {K:PySem.W.Frag} {mg:Str→Option Value} {base:Heap} {A:Ad} (T:Txt K mg A):bz P w K mg base gw 3 A.dr A.dy ["places","party"] (xr K A):=by
 refine T.lU.ok bE (fun vs H Q E h=>?_) (fun cdv Ar outer sh H vs Q E hr h=>?_)
 ·obtain⟨_,_,_,_,rfl,_⟩:=h
  rfl
 ·obtain⟨pl,vs,s,c,rfl,hpl,hP,hn,h31,kk⟩:=h
  have hu:=aY hr
  have hu64:=hr.units
  refine⟨_,(ab (bb (i:=2) bE.nd rfl (Or.inr rfl) (nL rfl bE.nd (dP (pv 0)) (own:=[("place",5)]) (dO (N:=["places","party","gone","q","between","place","bits"]) (sc:=ai fi) (by decide +kernel)) (fun _ _ _ _ _=>(bC (i:=5) bE.nd rfl (Or.inl rfl) (Or.inr rfl))) (fun _ _ _ _ _=>jl) (fun _ _ _ _ _=>(aW (EB T) (hr.mono (by decide)) rfl T.nA T.t8.kp T.AY .nil aK (aa (pv 5) ah)))))
   (ab (oq PassesOwn.never rfl (z0 rfl T.gM (aa (pv 0) ah)) (wO (K:=K) 2 rfl rfl (g5 (bC (i:=3) bE.nd rfl (Or.inr rfl) (Or.inl rfl)) (g5 (bC (i:=4) bE.nd rfl (Or.inl rfl) (Or.inl rfl)) wN)) rfl rfl) (ag (aT (jU (ly (aW (yf T) (hr.mono (by decide)) rfl T.lF T.qL.kp T.wm .nil aK (aa (pv 4) (aa (pv 1) ah))))) (ag (bb (i:=2) bE.nd rfl (Or.inr rfl) (nL rfl bE.nd (dP (pv 2)) (own:=[("bits",6)]) (dO (N:=["places","party","gone","q","between","place","bits"]) (sc:=ai fi) (by decide +kernel)) (fun _ _ _ _ _=>(bC (i:=6) bE.nd rfl (Or.inl rfl) (Or.inr rfl))) (fun _ _ _ _ _=>jl) (fun _ _ _ _ _=>(JJ (aA cg (bX tK (bX HW (pv 6) (pv 3)) aH) aH (aI _)) (bX Mx (pv 6) (bw (PY (K:=K) rfl) (pv 2) (pv 3) (fun _ _=>rfl))) (pv 6)))))) ay)))
   (ag (aq (pv 2))))),?_⟩
  try dsimp only[Of]
  have hvl:vs.length=s.places.length:=hP.1
  refine⟨_,rfl,?lc2⟩
  case lc2=>
   refine⟨_,rfl,⟨_,aM.of hpl⟩,BL (xs:=vs) (Out:=fun i o _=>o=some (.int (((s.places.map Kt.ng).getD i 0:Nat):Int))) (by rw[sizeLine_eq];omega) (aM.of hpl) (fun _ _ _ _ _ h=>h) ?_ ?_⟩
   ·intro i x H' R hx s1 hR
    obtain⟨p,hp,hpa⟩:=dg.get hP hx
    try dsimp only[Of]
    refine⟨rfl,rA ⟨_,rfl,?zd⟩⟩
    case zd=>
     refine⟨_,_,rfl,hpa.same s1,h31 p (List.mem_of_getElem? hp),hR _ _ (ax.refl _) ?_⟩
     rw[List.getD_eq_getElem?_getD,List.getElem?_map,hp]
     rfl
   ·intro D Hend os hD sE hl hDe hout
    rw[gv hl hout,pO (by rw[List.length_map,hvl])] at hDe
    try dsimp only[Of]
    refine⟨_,rfl,?loop0⟩
    case loop0=>
     refine⟨_,_,rfl,aM.of (sE _ _ hpl),Sk (xs:=vs) (fun i σ H'=>∃(G:Addr) (v3 v4 v5 v6:Option V),σ=[some (.ref pl),some (.int c),some (.ref G),v3,v4,v5,v6]∧ax H H'∧H G=none∧H' G=some (.lst (nats (Kt.eG s c i)))) ⟨D,none,none,none,none,rfl,sE,hD,hDe⟩ (fun i σ H' ⟨_,_,_,_,_,_,s1,_⟩=>aM.of (s1 _ _ hpl)) ?_ ?_⟩
     ·rintro i x TT σ H1 H2 hx ⟨G,v3,v4,v5,v6,rfl,s1,fG,hG⟩ hT s2 e2
      obtain⟨p,hp,pa,pdx,pwl,pws,rfl,hpa,_⟩:=dg.get hP hx
      have hT2:H2 TT=some (.tup [.int (i:Nat),.ref pa]):=by rw[e2];exact ae
      have hpa2:=s2 _ _ (s1 _ _ hpa)
      have hG2:=s2 _ _ hG
      have htk:=Jp (c:=c) hp
      have hi:=si hp
      have hgl:(Kt.eG s c i).length=s.places.length:=Kt.sk s c i
      try dsimp only[Of]
      refine⟨_,_,rfl,GH.of hT2,rfl,_,_,rfl,_,_,rfl,rfl,?_⟩
      refine⟨_,rfl,⟨_,rfl,⟨_,_,_,_,_,_,rfl,by assumption,⟨_,rfl,(ez (fun h=>⟨_,rfl,?lc1⟩) (fun h=>?NEXT4))⟩⟩⟩⟩
      case lc1=>
       rw[htk] at h
       refine⟨_,rfl,⟨_,aM.of hG2⟩,BL (xs:=nats (Kt.eG s c i)) (Out:=fun j o _=>o=some (.int (((Kt.xR i (Kt.eG s c i)).getD j 0:Nat):Int))) (by rw[aE,sizeLine_eq];omega) (aM.of hG2) (fun _ _ _ _ _ h=>h) ?_ ?_⟩
       ·intro j x H3 R hx s3 hR
        obtain⟨b,hb,rfl⟩:=lA hx
        have hw:=OL (q:=i) hb
        have hgi:(Kt.eG s c i)[i]?=some ((Kt.eG s c i).getD i 0):=by rw[List.getD_eq_getElem?_getD,List.getElem?_eq_getElem (by omega)];rfl
        try dsimp only[Of]
        refine⟨rfl,rA ⟨_,rfl,⟨_,rfl,⟨_,_,rfl,rfl,?c3,⟨_,_,rfl,rfl,(bJ ⟨_,rfl,(aL (fun h=>⟨_,rfl,⟨_,rfl,⟨_,rfl,⟨_,_,_,_,rfl,rfl,(aM.of (s3 _ _ hG2)),(bt (tQ hgi)),⟨_,_,rfl,rfl,?KY⟩⟩⟩⟩⟩) (fun h=>⟨_,rfl,?e_KY⟩))⟩)⟩⟩⟩⟩⟩
        case c3=>show (0:Int)≤(i:Int);omega
        case KY=>
         refine hR _ _ (ax.refl _) ?_
         dsimp only
         rw[hw,if_pos ((um b i).mp (by assumption)),HV]
        case e_KY=>
         refine hR _ _ (ax.refl _) ?_
         rw[hw,if_neg (fun z=>absurd ((um b i).mpr z) (by assumption))]
       ·intro D3 H3 os hD3 s3 hl hDe3 hout
        rw[gv hl hout,pO (by rw[aE,M1])] at hDe3
        refine⟨D3,_,_,_,_,rfl,(s1.trans s2).trans s3,(s1.trans s2).free hD3,?_⟩
        rw[hDe3]
        show _=some (HO.lst (nats (if Kh292.takesPart s c i then Kt.eG s c i else Kt.xR i (Kt.eG s c i))))
        rw[h]
        rfl
      case NEXT4=>
       rw[htk] at h
       refine⟨G,_,_,_,_,rfl,s1.trans s2,fG,?_⟩
       rw[hG2]
       show _=some (HO.lst (nats (if Kh292.takesPart s c i then Kt.eG s c i else Kt.xR i (Kt.eG s c i))))
       rw[h]
       rfl
     ·rintro σ H' ⟨G,v3,v4,v5,v6,rfl,s1,fG,hG⟩
      try dsimp only[Of]
      refine⟨_,rfl,?r5⟩
      case r5=>
       rw[hvl] at hG
       exact kk G H' fG s1 hG
theorem Hx :∀l:List Nat,((l.map fun q=>((2 ^ q:Nat):Int)).sum)=((Kt.tH l:Nat):Int)
 | []=>rfl
 | q ::l=>by
  show ((2 ^ q:Nat):Int)+(l.map fun q=>((2 ^ q:Nat):Int)).sum=(((2 ^ q)+(l.map fun q=>2 ^ q).sum:Nat):Int)
  rw[Hx l]
  rw[Int.natCast_add]
  rfl
theorem HF (q:Nat):(1:Int) * 2 ^ ((q:Nat):Int).toNat=((2 ^ q:Nat):Int):=by rw[Int.one_mul,Int.toNat_natCast,DC]
theorem map_getD (f:Nat→Nat) (n i:Nat) (h:i<n):((List.range n).map f).getD i 0=f i:=by
 rw[List.getD_eq_getElem?_getD,List.getElem?_map,List.getElem?_range h]
 rfl
noncomputable def xt (K:PySem.W.Frag) (A:Ad):Sp:=fun vs0 H Q _=>∃(pl:Addr) (vs:List V) (s:Kh292.Script) (c:Nat),vs0=[.ref pl,.int c]∧(H pl=some (.lst vs))∧(gJ A H vs s.places)∧(s.places.length≤32)∧(∀x∈s.places,∀w∈x.ways,∀q,w.2=some q→q≤31)∧(∀(D:Addr) (H':Hp),H D=none→ax H H'→H' D=some (.lst (nats ((List.range s.places.length).map (Kt.gn s c))))→Q (.ref D) H')
theorem xE {P:Program} {w:World} {K:PySem.W.Frag} {mg:Str→Option Value} {base:Heap} {A:Ad} (T:Txt K mg A):bz P w K mg base gw 4 A.dt A.dz ["places","party"] (xt K A):=by
 refine T.lV.ok ba (fun vs H Q E h=>?_) (fun cdv Ar outer sh H vs Q E hr h=>?_)
 ·obtain⟨_,_,_,_,rfl,_⟩:=h
  rfl
 ·obtain⟨pl,vs,s,c,rfl,hpl,hP,hn,h31,kk⟩:=h
  have hu:=aY hr
  have hu64:=hr.units
  refine⟨_,(ab (bb (i:=2) ba.nd rfl (Or.inl rfl) (aW (xD T) (hr.mono (by decide)) rfl T.gW T.lU.kp T.qS .nil aK (aa (pv 0) (aa (pv 1) ah))))
   (ab (bb (i:=3) ba.nd rfl (Or.inr rfl) (bX pK (aw rfl T.vP) (aD (Qn rfl) (by rfl) T.KJ boot_sum (aa (nL rfl ba.nd (z0 rfl T.gM (aa (pv 0) ah)) (own:=[("q",6),("place",8)]) (dO (N:=["places","party","gone","own","stuck","comes","q","bits","place"]) (sc:=ai fj) (by decide +kernel)) (fun _ _ _ _ _=>(wO (K:=K) 2 rfl rfl (g5 (bC (i:=6) ba.nd rfl (Or.inl rfl) (Or.inr rfl)) (g5 (bC (i:=8) ba.nd rfl (Or.inl rfl) (Or.inr rfl)) wN)) rfl rfl)) (fun _ _ _ _ _=>(DB (ly (aW (yf T) (hr.mono (by decide)) rfl T.lF T.qL.kp T.wm .nil aK (aa (pv 8) (aa (pv 1) ah)))))) (fun _ _ _ _ _=>(bX HX aH (pv 6)))) ah))))
   (ab (bb (i:=4) ba.nd rfl (Or.inl rfl) (aD (Qn rfl) (by rfl) T.KJ boot_sum (aa (nL rfl ba.nd (z0 rfl T.gM (aa (pv 2) ah)) (own:=[("q",6),("bits",7)]) (dO (N:=["places","party","gone","own","stuck","comes","q","bits","place"]) (sc:=ai fj) (by decide +kernel)) (fun _ _ _ _ _=>(wO (K:=K) 2 rfl rfl (g5 (bC (i:=6) ba.nd rfl (Or.inl rfl) (Or.inr rfl)) (g5 (bC (i:=7) ba.nd rfl (Or.inl rfl) (Or.inr rfl)) wN)) rfl rfl)) (fun _ _ _ _ _=>(DB (PW.pt (Es (aA cg (bX tK (bX HW (pv 3) (pv 6)) aH) aH (aI _)) (zY (aA cg (bX tK (pv 7) (pv 3)) aH (aI _))))))) (fun _ _ _ _ _=>(bX HX aH (pv 6)))) ah)))
   (ab (bb (i:=5) ba.nd rfl (Or.inl rfl) (bB ah))
   (ab (oq PassesOwn.never rfl (z0 rfl T.gM (aa (pv 2) ah)) (wO (K:=K) 2 rfl rfl (g5 (bC (i:=6) ba.nd rfl (Or.inl rfl) (Or.inl rfl)) (g5 (bC (i:=7) ba.nd rfl (Or.inl rfl) (Or.inl rfl)) wN)) rfl rfl) (ag (aT (aA cg (bX tK (bX HW (pv 3) (pv 6)) aH) aH (aI _)) (ag (cy (g6 PySem.F.plainAttrs_list PySem.F.slot_list_append PySem.F.type_list_append bR (pv 5) (aa (bX HX aH (pv 6)) ah)))) (ag (aT (aA CC (bX tK (pv 7) (pv 4)) aH (aI _)) (ag (cy (g6 PySem.F.plainAttrs_list PySem.F.slot_list_append PySem.F.type_list_append bR (pv 5) (aa (bX Mx (bX tK (pv 7) (pv 3)) (aw rfl T.vP)) ah)))) (ag (cy (g6 PySem.F.plainAttrs_list PySem.F.slot_list_append PySem.F.type_list_append bR (pv 5) (aa (bX tK (pv 7) (pv 3)) ah)))))))))
   (ag (aq (pv 5)))))))),?_⟩
  try dsimp only[TZ,T1,R5,T8,R4,SD,Qg,Sy,tC,T3,Vz,OU,tB,Ua,VB,T4,R9,T2,R1,VC,Lb,Sz,Ud,R7,QU,T5,R8,OV,OW,VD,VE,T9,VA,R0,Mj,Pg,rI,rU,O4,Ut,R6,O3,O2,Sa,TY,R3,T7,Nc,Nd,O0,O1,Nb,OY,OZ,OX,GR,Te,Sj,Uu,List.map_cons,List.map_nil,List.cons_append,List.nil_append,Of]
  have hvl:vs.length=s.places.length:=hP.1
  refine⟨_,rfl,⟨_,rfl,?sO⟩⟩
  case sO=>
   refine⟨_,_,_,_,rfl,hpl,hP,hn,h31,fun G H1 fG s1 hG=>?_⟩
   have hpl1:=s1 _ _ hpl
   have hP1:=hP.same s1
   have hgl:(Kt.eG s c s.places.length).length=s.places.length:=Kt.sk s c _
   refine⟨_,rfl,?lc2⟩
   case lc2=>
    refine⟨_,_,rfl,aM.of hpl1,S5 (xs:=vs) (Out:=fun i o _=>o=if Kh292.takesPart s c i=true then some (.int ((2 ^ i:Nat):Int)) else none) (by rw[sizeLine_eq];omega) (aM.of hpl1) (fun _ _ _ _ _ h=>h) ?_ ?_⟩
    ·intro i x TT H2 R hx s2 hT hR
     obtain⟨p,hp,pa,pdx,pwl,pws,rfl,hpa,_⟩:=dg.get hP1 hx
     have hpa2:=s2 _ _ hpa
     have htk:=Jp (c:=c) hp
     have hi:=si hp
     try dsimp only[TZ,T1,R5,T8,R4,SD,Qg,Sy,tC,T3,Vz,OU,tB,Ua,VB,T4,R9,T2,R1,VC,Lb,Sz,Ud,R7,QU,T5,R8,OV,OW,VD,VE,T9,VA,R0,Mj,Pg,rI,rU,O4,Ut,R6,O3,O2,Sa,TY,R3,T7,Nc,Nd,O0,O1,Nb,OY,OZ,OX,GR,Te,Sj,Uu,List.map_cons,List.map_nil,List.cons_append,List.nil_append,Of]
     refine⟨_,_,rfl,GH.of hT,rfl,_,_,rfl,_,_,rfl,rfl,⟨rfl,⟨_,rfl,⟨_,rfl,⟨_,_,_,_,_,_,rfl,by assumption,⟨_,rfl,(df (fun h=>⟨_,rfl,⟨_,_,rfl,rfl,?c14,?KY⟩⟩) (fun h=>?KN))⟩⟩⟩⟩⟩⟩
     case c14=>exact⟨by omega,by omega,by decide⟩
     case KY=>
      rw[htk] at h
      refine hR _ _ (ax.refl _) ?_
      rw[if_pos h,HF]
     case KN=>
      rw[htk] at h
      refine hR _ _ (ax.refl _) ?_
      rw[if_neg (by rw[h];decide)]
    ·intro D2 H2 os hD2 s2 hl hDe2 hout
     rw[gv hl hout,hvl,BZ (b:=fun i=>Kh292.takesPart s c i)] at hDe2
     have hG2:=s2 _ _ hG
     have hown:(4294967296:Int)+((((List.range s.places.length).filter fun i=>Kh292.takesPart s c i).map fun q=>((2 ^ q:Nat):Int)).sum)=((Kt.jn s c:Nat):Int):=by
      rw[Hx]
      unfold Kt.jn
      rw[Int.natCast_add]
      rfl
     try dsimp only[TZ,T1,R5,T8,R4,SD,Qg,Sy,tC,T3,Vz,OU,tB,Ua,VB,T4,R9,T2,R1,VC,Lb,Sz,Ud,R7,QU,T5,R8,OV,OW,VD,VE,T9,VA,R0,Mj,Pg,rI,rU,O4,Ut,R6,O3,O2,Sa,TY,R3,T7,Nc,Nd,O0,O1,Nb,OY,OZ,OX,GR,Te,Sj,Uu,List.map_cons,List.map_nil,List.cons_append,List.nil_append,Of]
     refine⟨_,(((List.range s.places.length).filter fun i=>Kh292.takesPart s c i).map fun q=>((2 ^ q:Nat):Int)),rfl,(aM.of (by rw[List.map_map];exact hDe2)),⟨_,_,rfl,rfl,⟨_,rfl,?lc1⟩⟩⟩
     case lc1=>
      rw[hown]
      refine⟨_,_,rfl,aM.of hG2,S5 (xs:=nats (Kt.eG s c s.places.length)) (Out:=fun i o _=>o=if (!(Kt.jn s c).testBit i&&(Kt.gone s c i &&& Kt.jn s c==0))=true then some (.int ((2 ^ i:Nat):Int)) else none) (by rw[aE,sizeLine_eq];omega) (aM.of hG2) (fun _ _ _ _ _ h=>h) ?_ ?_⟩
      ·intro i x TT H3 R hx s3 hT hR
       obtain⟨b,hb,rfl⟩:=lA hx
       have hg:Kt.gone s c i=b:=tY hb
       have hi:=si hb
       try dsimp only[TZ,T1,R5,T8,R4,SD,Qg,Sy,tC,T3,Vz,OU,tB,Ua,VB,T4,R9,T2,R1,VC,Lb,Sz,Ud,R7,QU,T5,R8,OV,OW,VD,VE,T9,VA,R0,Mj,Pg,rI,rU,O4,Ut,R6,O3,O2,Sa,TY,R3,T7,Nc,Nd,O0,O1,Nb,OY,OZ,OX,GR,Te,Sj,Uu,List.map_cons,List.map_nil,List.cons_append,List.nil_append,Of]
       refine⟨_,_,rfl,GH.of hT,rfl,_,_,rfl,_,_,rfl,rfl,⟨rfl,⟨_,rfl,⟨_,rfl,⟨_,_,rfl,rfl,?c12,⟨_,_,rfl,rfl,(bJ ⟨_,rfl,(aL (fun h=>⟨_,rfl,⟨_,rfl,⟨_,_,rfl,rfl,(bJ ⟨_,rfl,(df (fun h=>⟨_,rfl,⟨_,_,rfl,rfl,?c10,?KY⟩⟩) (fun h=>?KN))⟩)⟩⟩⟩) (fun h=>?f11))⟩)⟩⟩⟩⟩⟩⟩
       case c12=>show (0:Int)≤(i:Int);omega
       case c10=>exact⟨by omega,by omega,by decide⟩
       case KY=>
        refine hR _ _ (ax.refl _) ?_
        have h1:=(KD (Kt.jn s c) i).mp (by assumption)
        have h2:=of_decide_eq_true h
        rw[uu] at h2
        rw[if_pos (by rw[h1,hg];simp;omega),HF]
       case KN=>
        refine hR _ _ (ax.refl _) ?_
        have h2:=of_decide_eq_false h
        rw[uu] at h2
        rw[if_neg (by rw[hg];simp;intro _;omega)]
       case f11=>
        refine NX (hR _ _ (ax.refl _) ?_)
        have h1:¬(Kt.jn s c).testBit i=false:=fun z=>h ((KD (Kt.jn s c) i).mpr z)
        rw[if_neg (by simp at h1;rw[h1];simp)]
      ·intro D3 H3 os hD3 s3 hl hDe3 hout
       rw[gv hl hout,aE,hgl,BZ (b:=fun i=>!(Kt.jn s c).testBit i&&(Kt.gone s c i &&& Kt.jn s c==0))] at hDe3
       have hstuck:((((List.range s.places.length).filter fun i=>!(Kt.jn s c).testBit i&&(Kt.gone s c i &&& Kt.jn s c==0)).map fun q=>((2 ^ q:Nat):Int)).sum)=((Kt.vk s c:Nat):Int):=by
        rw[Hx]
        rfl
       have hG3:=s3 _ _ hG2
       try dsimp only[TZ,T1,R5,T8,R4,SD,Qg,Sy,tC,T3,Vz,OU,tB,Ua,VB,T4,R9,T2,R1,VC,Lb,Sz,Ud,R7,QU,T5,R8,OV,OW,VD,VE,T9,VA,R0,Mj,Pg,rI,rU,O4,Ut,R6,O3,O2,Sa,TY,R3,T7,Nc,Nd,O0,O1,Nb,OY,OZ,OX,GR,Te,Sj,Uu,List.map_cons,List.map_nil,List.cons_append,List.nil_append,Of]
       refine⟨_,(((List.range s.places.length).filter fun i=>!(Kt.jn s c).testBit i&&(Kt.gone s c i &&& Kt.jn s c==0)).map fun q=>((2 ^ q:Nat):Int)),rfl,(aM.of (by rw[List.map_map];exact hDe3)),?lst3⟩
       case lst3=>
        rw[hstuck]
        refine⟨Nat.zero_le _,fun p hp=>?_⟩
        have hG4:=aX (o:=.lst []) hp _ _ hG3
        refine⟨_,rfl,?loop0⟩
        case loop0=>
         have s13:ax H H3:=(s1.trans s2).trans s3
         refine⟨_,_,rfl,aM.of hG4,Sk (xs:=nats (Kt.eG s c s.places.length)) (fun i σ H'=>∃(v6 v7 v8:Option V),σ=[some (.ref pl),some (.int c),some (.ref G),some (.int (Kt.jn s c:Nat)),some (.int (Kt.vk s c:Nat)),some (.ref p),v6,v7,v8]∧ax H3 H'∧H' p=some (.lst (nats ((List.range i).map (Kt.gn s c))))) ⟨none,none,none,rfl,aX hp,ae⟩ (fun i σ H' ⟨_,_,_,_,s4,_⟩=>aM.of (s4 _ _ hG3)) ?_ ?_⟩
         ·rintro i x TT σ H4 H5 hx ⟨v6,v7,v8,rfl,s4,hp4⟩ hT s5 e5
          obtain⟨b,hb,rfl⟩:=lA hx
          have hg:Kt.gone s c i=b:=tY hb
          have hi:=si hb
          have hT5:H5 TT=some (.tup [.int (i:Nat),.int (b:Nat)]):=by rw[e5];exact ae
          have hp5:=s5 _ _ hp4
          have hlen:(nats ((List.range i).map (Kt.gn s c))).length<sizeLine:=by rw[aE,List.length_map,List.length_range,sizeLine_eq];omega
          have fin:∀z:Nat,Kt.gn s c i=z→nats ((List.range (i+1)).map (Kt.gn s c))=nats ((List.range i).map (Kt.gn s c))++[.int (z:Nat)]:=fun z hz=>by
           rw[List.range_succ,List.map_append,lB,←hz]
           rfl
          have sam:∀o,ax H3 (upd H5 p o):=fun o b u e=>by
           rw[af (ao e hp)]
           exact s5 _ _ (s4 _ _ e)
          try dsimp only[TZ,T1,R5,T8,R4,SD,Qg,Sy,tC,T3,Vz,OU,tB,Ua,VB,T4,R9,T2,R1,VC,Lb,Sz,Ud,R7,QU,T5,R8,OV,OW,VD,VE,T9,VA,R0,Mj,Pg,rI,rU,O4,Ut,R6,O3,O2,Sa,TY,R3,T7,Nc,Nd,O0,O1,Nb,OY,OZ,OX,GR,Te,Sj,Uu,List.map_cons,List.map_nil,List.cons_append,List.nil_append,Of]
          refine⟨_,_,rfl,GH.of hT5,rfl,_,_,rfl,_,_,rfl,rfl,?_⟩
          refine⟨_,rfl,⟨_,rfl,⟨_,_,rfl,rfl,?c7,⟨_,_,rfl,rfl,(bJ ⟨_,rfl,(aL (fun h=>⟨_,rfl,⟨ty_list (aM.of hp5),⟨_,rfl,⟨_,_,rfl,rfl,?c2,?Bc⟩⟩⟩⟩) (fun h=>⟨_,rfl,⟨_,rfl,⟨_,_,rfl,rfl,(yc ⟨_,rfl,(mz (fun h=>⟨_,rfl,⟨ty_list (aM.of hp5),⟨_,rfl,⟨_,rfl,⟨_,_,rfl,rfl,⟨_,_,rfl,rfl,?ur⟩⟩⟩⟩⟩⟩) (fun h=>⟨_,rfl,⟨ty_list (aM.of hp5),⟨_,rfl,⟨_,rfl,⟨_,_,rfl,rfl,?o6⟩⟩⟩⟩⟩))⟩)⟩⟩⟩))⟩)⟩⟩⟩⟩
          case c7=>show (0:Int)≤(i:Int);omega
          case c2=>exact⟨by omega,by omega,by decide⟩
          case Bc=>
           have h1:=(um (Kt.jn s c) i).mp (by assumption)
           refine⟨_,_,_,rfl,rfl,hp5,hlen,_,_,_,rfl,sam _,?_⟩
           rw[ae,fin (2 ^ i) (by unfold Kt.gn;rw[if_pos h1]),HF]
          case ur=>
           have h1:¬(Kt.jn s c).testBit i=true:=fun z=>absurd ((um (Kt.jn s c) i).mpr z) (by assumption)
           have h2:=h
           rw[uu] at h2
           refine⟨_,_,_,rfl,rfl,hp5,hlen,_,_,_,rfl,sam _,?_⟩
           rw[ae,fin (b &&& Kt.jn s c ||| 2 ^ 32) (by unfold Kt.gn;rw[if_neg h1,hg,if_pos (by omega)]),uu,show (4294967296:Int)=((2 ^ 32:Nat):Int) from rfl,HV]
          case o6=>
           have h1:¬(Kt.jn s c).testBit i=true:=fun z=>absurd ((um (Kt.jn s c) i).mpr z) (by assumption)
           have h2:=h
           rw[uu] at h2
           refine⟨_,_,_,rfl,rfl,hp5,hlen,_,_,_,rfl,sam _,?_⟩
           rw[ae,fin (b &&& Kt.jn s c) (by unfold Kt.gn;rw[if_neg h1,hg,if_neg (by omega)]),uu]
         ·rintro σ H' ⟨v6,v7,v8,rfl,s4,hp4⟩
          try dsimp only[TZ,T1,R5,T8,R4,SD,Qg,Sy,tC,T3,Vz,OU,tB,Ua,VB,T4,R9,T2,R1,VC,Lb,Sz,Ud,R7,QU,T5,R8,OV,OW,VD,VE,T9,VA,R0,Mj,Pg,rI,rU,O4,Ut,R6,O3,O2,Sa,TY,R3,T7,Nc,Nd,O0,O1,Nb,OY,OZ,OX,GR,Te,Sj,Uu,List.map_cons,List.map_nil,List.cons_append,List.nil_append,Of]
          refine⟨_,rfl,?r8⟩
          case r8=>
           rw[aE,hgl] at hp4
           exact kk p H' (s13.free hp) (s13.trans s4) hp4
end
section
open Kh292 (State)
theorem Et {n:Nat} {x:State} (hx:Kt.lZ n x) (hn:n≤32):((List.range n).filter fun q=>(Kt.maskOf x).testBit q)=x.places:=by
 obtain⟨f,hf⟩:=hx
 have :∀q∈List.range n,(Kt.maskOf x).testBit q=f q:=fun q hq=>by
  rw[Bool.eq_iff_iff,Kt.hJ,hf,List.mem_filter]
  rw[List.mem_range] at hq ⊢
  constructor
  ·rintro (h | h)
   ·exact h.2
   ·omega
  ·intro h
   exact .inl ⟨hq,h⟩
 rw[hf]
 exact List.filter_congr this
noncomputable def oX (x:State) (vs:List V):List V:=x.places.map fun q=>vs.getD q .dh
theorem LS {x:State} {vs:List V} (hx:Kt.lZ vs.length x) (hn:vs.length≤32):Vo (Kt.maskOf x) vs=oX x vs:=by
 unfold Vo oX
 rw[Et hx hn]
theorem vM (x:State) (vs:List V):(oX x vs).length=x.places.length:=List.length_map _
theorem DJ {x:State} {vs:List V} {i:Nat} {v:V} (h:(oX x vs)[i]?=some v):∃q,x.places[i]?=some q∧v=vs.getD q .dh:=by
 unfold oX at h
 rw[List.getElem?_map] at h
 cases e:x.places[i]? with
 | none=>rw[e] at h;cases h
 | some q=>rw[e] at h;exact⟨q,rfl,(Option.some.inj h).symm⟩
theorem mB {A:Ad} {H:Hp} {vs:List V} {s:Kh292.Script} (hP:gJ A H vs s.places) {q:Nat} (hq:q<s.places.length):qZ A H (vs.getD q .dh) (Kh292.at_ s q):=by
 have e:s.places[q]?=some s.places[q]:=List.getElem?_eq_getElem hq
 obtain⟨v,hv,h⟩:=dg.get' hP e
 rw[Iw hv,FH e]
 exact h
theorem PB {n:Nat} {x:State} (hx:Kt.lZ n x) (hn:n≤32):(Builtin.bitAnd ((Kt.maskOf x:Nat):Int) 4294967296=0)↔x.over=false:=by
 rw[show (4294967296:Int)=((2 ^ 32:Nat):Int) from rfl,uu]
 have h:(Kt.maskOf x &&& 2 ^ 32=0)↔x.over=false:=by
  rw[Kt.lW]
  constructor
  ·intro h
   have:=h 32
   rw[Kt.qR,Kt.km,Kt.hJ] at this
   cases e:x.over with
   | false=>rfl
   | true=>exact absurd ⟨.inr ⟨rfl,e⟩,rfl⟩ this
  ·intro h j
   rw[Kt.qR,Kt.km,Kt.hJ,h]
   rintro⟨a | a,b⟩
   ·have:=Kt.qo hx j a
    omega
   ·cases a.2
 rw[←h]
 omega
theorem tP {ns:List Int} {l:List Nat} (p:ns.Perm (l.map fun (n:Nat)=>(n:Int))) (so:ns.Pairwise (·≤·)):∃l':List Nat,ns=l'.map (fun (n:Nat)=>(n:Int))∧l'.Perm l∧l'.Pairwise (·≤·):=by
 have nn:∀z∈ns,0≤z:=fun z hz=>by
  have:=p.mem_iff.mp hz
  obtain⟨n,_,rfl⟩:=List.mem_map.mp this
  omega
 have e:ns=(ns.map Int.toNat).map fun (n:Nat)=>(n:Int):=by
  rw[List.map_map]
  conv=>lhs;rw[←List.map_id ns]
  apply List.map_congr_left
  intro z hz
  have:=nn z hz
  show z=((z.toNat:Nat):Int)
  omega
 refine⟨ns.map Int.toNat,e,?_,?_⟩
 ·have q:=p.map Int.toNat
  rw[List.map_map] at q
  rw[show (Int.toNat∘fun (n:Nat)=>(n:Int))=id from by funext n;simp] at q
  rw[List.map_id] at q
  exact q
 ·rw[List.pairwise_map]
  refine so.imp_of_mem fun {a b} ha hb h=>?_
  have:=nn a ha
  have:=nn b hb
  omega
theorem wQ (l:List Nat):nats l=(l.map fun (n:Nat)=>(n:Int)).map V.int:=Ro l
noncomputable def Jt (K:PySem.W.Frag) (A:Ad):Sp:=fun vs0 H Q _=>∃(v:V) (p:Kh292.Place),vs0=[v]∧(qZ A H v p)∧(p.ways.length≤4)∧(∀(ws:List Nat) (D:Addr) (H':Hp),H D=none→ax H H'→ws.Perm (p.ways.map Prod.fst)→ws.Pairwise (·≤·)→H' D=some (.lst (nats ws))→Q (.ref D) H')
theorem CF {P:Program} {w:World} {K:PySem.W.Frag} {mg:Str→Option Value} {base:Heap} {A:Ad} (T:Txt K mg A):bz P w K mg base gw 1 A.mM A.mT ["place"] (Jt K A):=by
 refine T.xj.ok vt (fun vs H Q E h=>?_) (fun cdv Ar outer sh H vs Q E hr h=>?_)
 ·obtain⟨_,_,rfl,_⟩:=h
  rfl
 ·obtain⟨v,p,rfl,hp,hm,kk⟩:=h
  have hu:=aY hr
  have hu64:=hr.units
  refine⟨_,(ag (aq (aD Og (by rfl) T.sT boot_sorted (aa (nL rfl vt.nd (dP (ak (pv 0) rfl)) (own:=[("way",1)]) (dO (N:=["place","way"]) (sc:=ai tq) (by decide +kernel)) (fun _ _ _ _ _=>(bC (i:=1) vt.nd rfl (Or.inl rfl) (Or.inr rfl))) (fun _ _ _ _ _=>jl) (fun _ _ _ _ _=>(ka (K:=K) rfl (pv 1) rfl))) ah)))),?_⟩
  try dsimp only[Of]
  obtain⟨a,dx,wl,wv,rfl,h1,h2,h3⟩:=hp
  have hl3:=h3.1
  refine⟨_,rfl,⟨_,_,_,_,_,rfl,by assumption,T.bh,T.cB,eK,?lc0⟩⟩
  case lc0=>
   refine⟨_,rfl,⟨_,aM.of h2⟩,BL (xs:=wv) (Out:=fun i o _=>o=some (.int (((p.ways.map Prod.fst).getD i 0:Nat):Int))) (by rw[sizeLine_eq];omega) (aM.of h2) (fun _ _ _ _ _ h=>h) ?_ ?_⟩
   ·intro i x H' R hx s1 hR
    obtain⟨w,hw,wa,wdx,rfl,hwa⟩:=h3.get hx
    have hwa':=s1 _ _ hwa
    try dsimp only[Of]
    refine⟨rfl,rA ⟨_,rfl,⟨_,_,_,_,_,rfl,by assumption,T.eh,T.cR,eI,?KY⟩⟩⟩
    case KY=>
     refine hR _ _ (ax.refl _) ?_
     rw[List.getD_eq_getElem?_getD,List.getElem?_map,hw]
     rfl
   ·intro D Hend os hD sE hl hDe hout
    rw[gv hl hout,pO (by rw[List.length_map,hl3])] at hDe
    try dsimp only[Of]
    refine ?Q0
    case Q0=>
     refine⟨D,(p.ways.map Prod.fst).map fun (n:Nat)=>(n:Int),rfl,aM.of (by rw[←wQ];exact hDe),by rw[List.length_map,List.length_map];omega,fun ns' p' pe so hp'=>?_⟩
     obtain⟨ws,rfl,pw,sw⟩:=tP pe so
     refine kk ws p' _ (sE.free hp') (sE.trans (aX hp')) pw sw ?_
     rw[ae,wQ]
theorem Cz (t:List Nat):SeqAt.shaped (vX t)=true:=by
 unfold SeqAt.shaped
 rw[EX,B3]
 rfl
theorem eq_int {a b:Nat}:decide (((a:Nat):Int)=((b:Nat):Int))=(a==b):=by
 rw[Bool.eq_iff_iff,decide_eq_true_eq,beq_iff_eq]
 omega
theorem K8 {a b:V}:[a,b].length≤sizeLine:=by rw[sizeLine_eq];show 2≤16777216;decide
theorem getD_mem {l:List Nat} {i q:Nat} (h:l[i]?=some q):q∈l:=List.mem_of_getElem? h
noncomputable def Jw (K:PySem.W.Frag) (A:Ad):Sp:=fun vs0 H Q _=>∃(x:State) (pl:Addr) (vs:List V) (s:Kh292.Script) (c nw:Nat),vs0=[.int (Kt.maskOf x:Nat),.ref pl,.int c]∧(H pl=some (.lst vs))∧(gJ A H vs s.places)∧(s.places.length≤32)∧(∀y∈s.places,Kt.FK s.p nw y)∧(Kt.lZ s.places.length x)∧(∀H',ax H H'→Q (.bl (Kt.oI s c x)) H')
theorem JQ {P:Program} {w:World} {K:PySem.W.Frag} {mg:Str→Option Value} {base:Heap} {A:Ad} (T:Txt K mg A):bz P w K mg base gw 2 A.mP A.mW ["state","places","party"] (Jw K A):=by
 refine T.B1.ok eD (fun vs H Q E h=>?_) (fun cdv Ar outer sh H vs Q E hr h=>?_)
 ·obtain⟨_,_,_,_,_,_,rfl,_⟩:=h
  rfl
 ·obtain⟨x,pl,vs,s,c,nw,rfl,hpl,hP,hn,hOk,hx,kk⟩:=h
  have hu:=aY hr
  have hu64:=hr.units
  refine⟨_,(ab (bb (i:=3) eD.nd rfl (Or.inl rfl) (aW (tO T) (hr.mono (by decide)) rfl T.kI T.pY.kp T.uk .nil aK (aa (pv 0) (aa (pv 1) ah))))
   (ab (aT (jU (pI (pv 3) (fun _=>rfl))) (ag (aq CB)) ay)
   (ab (aT (aA CC (bX tK (pv 0) (aw rfl T.vP)) aH (aI _)) (ag (aq CB)) ay)
   (ab (bb (i:=4) eD.nd rfl (Or.inr rfl) (bw aN (pv 3) aH (fun _ _=>rfl)))
   (ab (aT (aA CC (ak (pv 4) rfl) (pv 2) (aI _)) (ag (aq (aD (B4 rfl) (by rfl) T.A7 boot_all (aa (nL rfl eD.nd (dP (pv 3)) (own:=[("place",6)]) (dO (N:=["state","places","party","inside","first","same_hearer","place"]) (sc:=ai mm) (by decide +kernel)) (fun _ _ _ _ _=>(bC (i:=6) eD.nd rfl (Or.inl rfl) (Or.inr rfl))) (fun _ _ _ _ _=>jl) (fun _ _ _ _ _=>(jm cg (ka (K:=K) rfl (pv 6) rfl) (ka (K:=K) rfl (pv 4) rfl) (aI _)))) ah)))) ay)
   (ab (bb (i:=5) eD.nd rfl (Or.inl rfl) (aD (B4 rfl) (by rfl) T.A7 boot_all (aa (nL rfl eD.nd (dP (pv 3)) (own:=[("place",6)]) (dO (N:=["state","places","party","inside","first","same_hearer","place"]) (sc:=ai mm) (by decide +kernel)) (fun _ _ _ _ _=>(bC (i:=6) eD.nd rfl (Or.inl rfl) (Or.inr rfl))) (fun _ _ _ _ _=>jl) (fun _ _ _ _ _=>(jm cg (ka (K:=K) rfl (pv 6) rfl) (ka (K:=K) rfl (pv 4) rfl) (aI _)))) ah)))
   (ag (aq (Lx (pv 5) (yQ (aD (B4 rfl) (by rfl) T.A7 boot_all (aa (nL rfl eD.nd (dP (pv 3)) (own:=[("place",6)]) (dO (N:=["state","places","party","inside","first","same_hearer","place"]) (sc:=ai mm) (by decide +kernel)) (fun _ _ _ _ _=>(bC (i:=6) eD.nd rfl (Or.inl rfl) (Or.inr rfl))) (fun _ _ _ _ _=>jl) (fun _ _ _ _ _=>(jm (Rj (K:=K) rfl hu64) (aW (CF T) (hr.mono (by decide)) rfl T.pR T.xj.kp T.Cg .nil aK (aa (pv 6) ah)) (aW (CF T) (hr.mono (by decide)) rfl T.pR T.xj.kp T.Cg .nil aK (aa (pv 4) ah)) (aI _)))) ah)))))))))))),?_⟩
  try dsimp only[Of]
  have hvl:vs.length=s.places.length:=hP.1
  have hxv:Kt.lZ vs.length x:=by rw[hvl];exact hx
  have hlt:=Kt.qo hx
  refine⟨_,rfl,⟨_,rfl,?nc⟩⟩
  case nc=>
   refine⟨_,_,_,rfl,hpl,by omega,fun D H1 hD s1 hD1=>?_⟩
   rw[LS hxv (by omega)] at hD1
   have hP1:=hP.same s1
   cases e:x.places with
   | nil=>
    have hcl:Kt.oI s c x=true:=by unfold Kt.oI;rw[e]
    have hi:oX x vs=[]:=by unfold oX;rw[e];rfl
    rw[hi] at hD1
    refine⟨_,rfl,false,.inl ⟨[],aM.of hD1,rfl⟩,rA ?_⟩
    rw[←hcl]
    exact kk H1 s1
   | cons q r=>
    have hq:q<s.places.length:=hlt q (by rw[e];exact List.mem_cons_self)
    obtain⟨pa,pdx,pwl,pws,epa,hpa,hpw,hpws⟩:=mB hP1 hq
    have hi0:(oX x vs)[0]?=some (.ref pa):=by
     unfold oX
     rw[e,←epa]
     rfl
    have hne:(!(oX x vs).isEmpty)=true:=by unfold oX;rw[e];rfl
    have hov:=PB hx hn
    have hil:(oX x vs).length<sizeLine:=by
     rw[vM,sizeLine_eq]
     obtain⟨f,hf⟩:=hx
     have :x.places.length≤s.places.length:=by
      rw[hf]
      exact Nat.le_trans (List.length_filter_le _ _) (by rw[List.length_range];omega)
     omega
    refine⟨_,rfl,⟨_,(.inl ⟨_,aM.of hD1,rfl⟩),(ez (fun h=>?r0) (fun h=>⟨_,rfl,⟨_,_,rfl,rfl,(yc ⟨_,rfl,(mz (fun h=>?r1) (fun h=>⟨_,rfl,⟨_,_,_,_,rfl,rfl,(aM.of hD1),(bt (j:=0) hi0),⟨_,rfl,⟨_,_,_,_,_,rfl,by assumption,T.bh,T.bq,bG,⟨_,rfl,(yc ⟨_,rfl,(mz (fun h=>⟨_,rfl,?lc0⟩) (fun h=>⟨_,rfl,?lc2⟩))⟩)⟩⟩⟩⟩⟩))⟩)⟩⟩))⟩⟩
    case r0=>rw[hne] at h;cases h
    case r1=>
     have hcl:Kt.oI s c x=false:=by
      unfold Kt.oI
      rw[e]
      have :x.over=true:=by
       cases z:x.over with
       | true=>rfl
       | false=>exact absurd (hov.mpr z) h
      simp only[this,if_true]
     rw[←hcl]
     exact kk H1 s1
    case lc0=>
     have hof:x.over=false:=hov.mp (by assumption)
     have hf:¬(Kh292.at_ s q).from_=c:=fun z=>h (by rw[z])
     have hcl:Kt.oI s c x=x.places.all fun t=>(Kh292.at_ s t).from_==(Kh292.at_ s q).from_:=by
      unfold Kt.oI
      rw[e]
      simp only[hof,Bool.false_eq_true,if_false,ne_eq,hf,not_false_eq_true,if_true]
     refine⟨_,rfl,⟨_,aM.of hD1⟩,BL (xs:=oX x vs) (Out:=fun i o _=>o=some (.bl ((Kh292.at_ s (x.places.getD i 0)).from_==(Kh292.at_ s q).from_))) hil (aM.of hD1) (fun _ _ _ _ _ h=>h) ?_ ?_⟩
     ·intro i v H2 R hv s2 hR
      obtain⟨t,ht,rfl⟩:=DJ hv
      obtain⟨ta,tdx,twl,tws,eta,hta,_,_⟩:=mB hP1 (hlt t (getD_mem ht))
      have hta2:=s2 _ _ hta
      have hpa2:=s2 _ _ hpa
      rw[eta]
      try dsimp only[Of]
      refine⟨rfl,rA ⟨_,rfl,⟨_,_,_,_,_,rfl,by assumption,T.bh,T.bq,bG,⟨_,rfl,⟨_,_,_,_,_,rfl,by assumption,T.bh,T.bq,bG,(bJ ?KY)⟩⟩⟩⟩⟩
      case KY=>
       refine hR _ _ (ax.refl _) ?_
       rw[eq_int,tY ht]
     ·intro D2 H2 os hD2 s2 hl hDe hout
      rw[gv hl hout,vM,sr (l:=x.places) fun t=>.bl ((Kh292.at_ s t).from_==(Kh292.at_ s q).from_)] at hDe
      try dsimp only[Of]
      refine⟨_,(x.places.map fun t=>(Kh292.at_ s t).from_==(Kh292.at_ s q).from_),rfl,(aM.of (by rw[List.map_map];exact hDe)),?r2⟩
      case r2=>
       rw[List.all_map,show (id∘fun t=>(Kh292.at_ s t).from_==(Kh292.at_ s q).from_)=fun t=>(Kh292.at_ s t).from_==(Kh292.at_ s q).from_ from rfl,←hcl]
       exact kk H2 (s1.trans s2)
    case lc2=>
     have hof:x.over=false:=hov.mp (by assumption)
     have hf:(Kh292.at_ s q).from_=c:=by omega
     have hcl:Kt.oI s c x=((x.places.all fun t=>(Kh292.at_ s t).to_==(Kh292.at_ s q).to_)&&x.places.all fun t=>Kh292.sameWords (Kh292.wordsAt s t) (Kh292.wordsAt s q)):=by
      unfold Kt.oI
      rw[e]
      simp only[hof,Bool.false_eq_true,if_false,ne_eq,hf,not_true_eq_false]
     refine⟨_,rfl,⟨_,aM.of hD1⟩,BL (xs:=oX x vs) (Out:=fun i o _=>o=some (.bl ((Kh292.at_ s (x.places.getD i 0)).to_==(Kh292.at_ s q).to_))) hil (aM.of hD1) (fun _ _ _ _ _ h=>h) ?_ ?_⟩
     ·intro i v H2 R hv s2 hR
      obtain⟨t,ht,rfl⟩:=DJ hv
      obtain⟨ta,tdx,twl,tws,eta,hta,_,_⟩:=mB hP1 (hlt t (getD_mem ht))
      have hta2:=s2 _ _ hta
      have hpa2:=s2 _ _ hpa
      rw[eta]
      try dsimp only[Of]
      refine⟨rfl,rA ⟨_,rfl,⟨_,_,_,_,_,rfl,by assumption,T.bh,T.cT,hU,⟨_,rfl,⟨_,_,_,_,_,rfl,by assumption,T.bh,T.cT,hU,(bJ ?KY)⟩⟩⟩⟩⟩
      case KY=>
       refine hR _ _ (ax.refl _) ?_
       rw[eq_int,tY ht]
     ·intro D2 H2 os hD2 s2 hl hDe hout
      rw[gv hl hout,vM,sr (l:=x.places) fun t=>.bl ((Kh292.at_ s t).to_==(Kh292.at_ s q).to_)] at hDe
      have hD1':=s2 _ _ hD1
      have hP2:=hP1.same s2
      try dsimp only[Of]
      refine⟨_,(x.places.map fun t=>(Kh292.at_ s t).to_==(Kh292.at_ s q).to_),rfl,(aM.of (by rw[List.map_map];exact hDe)),⟨_,rfl,⟨_,rfl,df (fun h=>⟨_,rfl,?lc1⟩) (fun h=>?f7)⟩⟩⟩
      case f7=>
       rw[List.all_map,show (id∘fun t=>(Kh292.at_ s t).to_==(Kh292.at_ s q).to_)=fun t=>(Kh292.at_ s t).to_==(Kh292.at_ s q).to_ from rfl] at h
       rw[h,Bool.false_and] at hcl
       rw[←hcl]
       exact kk H2 (s1.trans s2)
      case lc1=>
       rw[List.all_map,show (id∘fun t=>(Kh292.at_ s t).to_==(Kh292.at_ s q).to_)=fun t=>(Kh292.at_ s t).to_==(Kh292.at_ s q).to_ from rfl] at h
       rw[h,Bool.true_and] at hcl
       refine⟨_,rfl,⟨_,aM.of hD1'⟩,BL (xs:=oX x vs) (Out:=fun i o _=>o=some (.bl (Kh292.sameWords (Kh292.wordsAt s (x.places.getD i 0)) (Kh292.wordsAt s q)))) hil (aM.of hD1') (fun _ _ _ _ _ h=>h) ?_ ?_⟩
       ·intro i v H3 R hv s3 hR
        obtain⟨t,ht,rfl⟩:=DJ hv
        have htl:=hlt t (getD_mem ht)
        have pt:=(mB hP2 htl).same s3
        have pq:=(mB hP2 hq).same s3
        rw[epa] at pq
        have okt:=hOk _ (Kt.wA htl)
        have okq:=hOk _ (Kt.wA hq)
        try dsimp only[Of]
        refine⟨rfl,rA ⟨_,rfl,?Dm⟩⟩
        case Dm=>
         refine⟨_,_,rfl,pt,okt.most,fun w1 D3 H4 _ s4 pe1 so1 h4=>?_⟩
         refine⟨_,rfl,?Dn⟩
         case Dn=>
          refine⟨_,_,rfl,pq.same s4,okq.most,fun w2 D4 H5 _ s5 pe2 so2 h5=>?_⟩
          refine⟨vX w1,vX w2,.lst (aM.of (s5 _ _ h4)) (DR w1),.lst (aM.of h5) (DR w2),Cz _,Cz _,hR _ _ (s4.trans s5) ?_⟩
          rw[Kl,tY ht]
          have:=Kt.Jy okt.nd okq.nd pe1 pe2 so1 so2
          rw[show decide (w1=w2)=Kh292.sameWords (Kh292.wordsAt s t) (Kh292.wordsAt s q) from by rw[Bool.eq_iff_iff,decide_eq_true_eq];exact this]
       ·intro D3 H3 os3 hD3 s3 hl3 hDe3 hout3
        rw[gv hl3 hout3,vM,sr (l:=x.places) fun t=>.bl (Kh292.sameWords (Kh292.wordsAt s t) (Kh292.wordsAt s q))] at hDe3
        try dsimp only[Of]
        refine⟨_,(x.places.map fun t=>Kh292.sameWords (Kh292.wordsAt s t) (Kh292.wordsAt s q)),rfl,(aM.of (by rw[List.map_map];exact hDe3)),?r4⟩
        case r4=>
         rw[List.all_map,show (id∘fun t=>Kh292.sameWords (Kh292.wordsAt s t) (Kh292.wordsAt s q))=fun t=>Kh292.sameWords (Kh292.wordsAt s t) (Kh292.wordsAt s q) from rfl,←hcl]
         exact kk H3 ((s1.trans s2).trans s3)
noncomputable def zz (K:PySem.W.Frag) (A:Ad):Sp:=fun vs0 H Q _=>∃(x:State) (pl:Addr) (vs:List V) (s:Kh292.Script) (c:Nat),vs0=[.int (Kt.maskOf x:Nat),.ref pl,.int c]∧(H pl=some (.lst vs))∧(gJ A H vs s.places)∧(s.places.length≤32)∧(Kt.lZ s.places.length x)∧(∀(D:Addr) (H':Hp),H D=none→ax H H'→H' D=some (.lst (nats [Kh292.kind s c x,Kh292.other s c x]))→Q (.ref D) H')
theorem z5 {P:Program} {w:World} {K:PySem.W.Frag} {mg:Str→Option Value} {base:Heap} {A:Ad} (T:Txt K mg A):bz P w K mg base gw 2 A.eN A.eY ["state","places","party"] (zz K A):=by
 refine T.oA.ok qr (fun vs H Q E h=>?_) (fun cdv Ar outer sh H vs Q E hr h=>?_)
 ·obtain⟨_,_,_,_,_,rfl,_⟩:=h
  rfl
 ·obtain⟨x,pl,vs,s,c,rfl,hpl,hP,hn,hx,kk⟩:=h
  have hu:=aY hr
  have hu64:=hr.units
  refine⟨_,(ab (bb (i:=3) qr.nd rfl (Or.inl rfl) (aW (tO T) (hr.mono (by decide)) rfl T.kI T.pY.kp T.uk .nil aK (aa (pv 0) (aa (pv 1) ah))))
   (ab (aT (jU (pI (pv 3) (fun _=>rfl))) (ag (aq (bB (aa (aw rfl T.kl) (aa aH ah))))) ay)
   (ab (aT (aA cg (ak (bw aN (pv 3) aH (fun _ _=>rfl)) rfl) (pv 2) (aI _)) (ag (aq (bB (aa (aw rfl T.AD) (aa (ak (bw aN (pv 3) aH (fun _ _=>rfl)) rfl) ah))))) ay)
   (ag (aq (bB (aa (aw rfl T.xg) (aa (ak (bw aN (pv 3) aH (fun _ _=>rfl)) rfl) ah)))))))),?_⟩
  try dsimp only[Of]
  have hvl:vs.length=s.places.length:=hP.1
  have hxv:Kt.lZ vs.length x:=by rw[hvl];exact hx
  have hlt:=Kt.qo hx
  refine⟨_,rfl,⟨_,rfl,?B8⟩⟩
  case B8=>
   refine⟨_,_,_,rfl,hpl,by omega,fun D H1 hD s1 hD1=>?_⟩
   rw[LS hxv (by omega)] at hD1
   have hP1:=hP.same s1
   have fin:∀(a b:Nat),Kh292.kind s c x=a→Kh292.other s c x=b→∀p,H1 p=none→Q (.ref p) (upd H1 p (.lst [.int (a:Nat),.int (b:Nat)])):=fun a b ha hb p hp=>by
    refine kk p _ (s1.free hp) (s1.trans (aX hp)) ?_
    rw[ae,ha,hb]
    rfl
   cases e:x.places with
   | nil=>
    have hi:oX x vs=[]:=by unfold oX;rw[e];rfl
    rw[hi] at hD1
    refine⟨_,rfl,false,.inl ⟨[],aM.of hD1,rfl⟩,rA ?_⟩
    exact⟨K8,fin 0 0 (by unfold Kh292.kind;rw[e]) (by unfold Kh292.other;rw[e])⟩
   | cons q r=>
    have hq:q<s.places.length:=hlt q (by rw[e];exact List.mem_cons_self)
    obtain⟨pa,pdx,pwl,pws,epa,hpa,hpw,hpws⟩:=mB hP1 hq
    have hi0:(oX x vs)[0]?=some (.ref pa):=by
     unfold oX
     rw[e,←epa]
     rfl
    have hne:(!(oX x vs).isEmpty)=true:=by unfold oX;rw[e];rfl
    refine⟨_,rfl,⟨_,(.inl ⟨_,aM.of hD1,rfl⟩),(ez (fun h=>?lst0) (fun h=>⟨_,rfl,⟨_,_,_,_,rfl,rfl,(aM.of hD1),(bt (j:=0) hi0),⟨_,_,_,_,_,rfl,by assumption,T.bh,T.bq,bG,⟨_,rfl,(bJ ⟨_,rfl,(aL (fun h=>⟨_,rfl,⟨_,_,_,_,rfl,rfl,(aM.of hD1),(bt (j:=0) hi0),⟨_,_,_,_,_,rfl,by assumption,T.bh,T.cT,hU,?lst1⟩⟩⟩) (fun h=>⟨_,rfl,⟨_,_,_,_,rfl,rfl,(aM.of hD1),(bt (j:=0) hi0),⟨_,_,_,_,_,rfl,by assumption,T.bh,T.bq,bG,?lst2⟩⟩⟩))⟩)⟩⟩⟩⟩))⟩⟩
    case lst0=>rw[hne] at h;cases h
    case lst1=>
     have hf:(Kh292.at_ s q).from_=c:=by omega
     exact⟨K8,fin 1 _ (by unfold Kh292.kind;rw[e];exact if_pos hf) (by unfold Kh292.other;rw[e];exact if_pos hf)⟩
    case lst2=>
     have hf:¬(Kh292.at_ s q).from_=c:=by omega
     exact⟨K8,fin 2 _ (by unfold Kh292.kind;rw[e];exact if_neg hf) (by unfold Kh292.other;rw[e];exact if_neg hf)⟩
end
section
open Kh292 (State)
noncomputable def bf (s:Kh292.Script) (c:Nat) (done:List (Nat×Option Nat)) (w:Nat):Nat:=Kt.qw ((done.filter fun v=>v.1==w).map fun v=>Kt.zb s c v.2)
theorem IV (s:Kh292.Script) (c:Nat) (done:List (Nat×Option Nat)) (v:Nat×Option Nat) (w:Nat):bf s c (done++[v]) w=if v.1=w then bf s c done w ||| Kt.zb s c v.2 else bf s c done w:=by
 unfold bf
 rw[List.filter_append]
 by_cases h:v.1=w
 ·rw[if_pos h,List.filter_cons,if_pos (by simpa using h),List.filter_nil,List.map_append,List.map_cons,List.map_nil,yR]
 ·rw[if_neg h,List.filter_cons,if_neg (by simpa using h),List.filter_nil,List.append_nil]
theorem RM {s:Kh292.Script} {c:Nat} {done:List (Nat×Option Nat)} {w:Nat} (h:¬∃v∈done,v.1=w):bf s c done w=0:=by
 unfold bf
 rw[List.filter_eq_nil_iff.mpr (fun v hv e=>h ⟨v,hv,by simpa using e⟩)]
 rfl
noncomputable def K2 (F:Nat→Nat) (ks:List Nat):List (Key×V):=ks.map fun (w:Nat)=>((Sum.inl (w:Int):Key),V.int ((F w:Nat):Int))
theorem Im {a b:Nat}:((Sum.inl (a:Int):Key)=Sum.inl (b:Int))↔a=b:=by
 constructor
 ·intro h
  have:=Sum.inl.inj h
  omega
 ·intro h
  rw[h]
theorem wH (F:Nat→Nat) (w:Nat):∀ks:List Nat,yx (K2 F ks) (Sum.inl (w:Int):Key)=if w∈ks then some (V.int ((F w:Nat):Int)) else none
 | []=>rfl
 | k ::ks=>by
  have ih:=wH F w ks
  show yx (((Sum.inl (k:Int):Key),V.int ((F k:Nat):Int))::K2 F ks) _=_
  by_cases h:k=w
  ·subst h
   rw[zr rfl,if_pos List.mem_cons_self]
  ·rw[zt (fun z=>h (Im.mp z)),ih]
   by_cases hm:w∈ks
   ·rw[if_pos hm,if_pos (List.mem_cons_of_mem _ hm)]
   ·rw[if_neg hm,if_neg (fun z=>(List.mem_cons.mp z).elim (fun e=>h e.symm) hm)]
noncomputable def nY (s:Kh292.Script) (c:Nat) (done:List (Nat×Option Nat)) (kvs:List (Key×V)):Prop:=∃ks:List Nat,kvs=K2 (bf s c done) ks∧ks.Nodup∧∀w,w∈ks↔∃v∈done,v.1=w
theorem nY.nil (s:Kh292.Script) (c:Nat):nY s c [] []:=⟨[],rfl,List.nodup_nil,fun w=>by simp⟩
theorem nY.get {s:Kh292.Script} {c:Nat} {done:List (Nat×Option Nat)} {kvs:List (Key×V)} (h:nY s c done kvs) (w:Nat):(yx kvs (Sum.inl (w:Int):Key)).getD (V.int 0)=V.int ((bf s c done w:Nat):Int):=by
 obtain⟨ks,rfl,nd,hm⟩:=h
 rw[wH]
 by_cases e:w∈ks
 ·rw[if_pos e]
  rfl
 ·rw[if_neg e,RM (fun z=>e ((hm w).mpr z))]
  rfl
theorem nY.put {s:Kh292.Script} {c:Nat} {done:List (Nat×Option Nat)} {kvs:List (Key×V)} (h:nY s c done kvs) (v:Nat×Option Nat) :
  nY s c (done++[v]) (putK kvs (Sum.inl (v.1:Int):Key) (V.int ((bf s c done v.1 ||| Kt.zb s c v.2:Nat):Int))):=by
 obtain⟨ks,rfl,nd,hm⟩:=h
 have mem':∀w,(∃u∈done++[v],u.1=w)↔(w∈ks∨v.1=w):=fun w=>by
  rw[hm w]
  constructor
  ·rintro⟨u,hu,e⟩
   rcases List.mem_append.mp hu with hu | hu
   ·exact .inl ⟨u,hu,e⟩
   ·rw[List.mem_singleton.mp hu] at e
    exact .inr e
  ·rintro (⟨u,hu,e⟩ | e)
   ·exact⟨u,List.mem_append_left _ hu,e⟩
   ·exact⟨v,List.mem_append_right _ List.mem_cons_self,e⟩
 have other:∀w∈ks,¬v.1=w→bf s c (done++[v]) w=bf s c done w:=fun w _ e=>by rw[IV,if_neg e]
 by_cases e:v.1∈ks
 ·refine⟨ks,?_,nd,fun w=>?_⟩
  ·unfold putK
   rw[zu,wH,if_pos e,if_pos (show (some (V.int ((bf s c done v.1:Nat):Int))).isSome=true from rfl)]
   unfold K2
   rw[List.map_map]
   apply List.map_congr_left
   intro w hw
   show (if (Sum.inl (w:Int):Key)=Sum.inl (v.1:Int) then _ else _)=_
   by_cases z:v.1=w
   ·subst z
    rw[if_pos rfl,IV,if_pos rfl]
   ·rw[if_neg (fun y=>z (Im.mp y).symm),other w hw z]
  ·rw[mem' w]
   constructor
   ·exact .inl
   ·rintro (h | h)
    ·exact h
    ·rw[←h];exact e
 ·refine⟨ks++[v.1],?_,?_,fun w=>?_⟩
  ·rw[Pq _ (by rw[wH,if_neg e])]
   unfold K2
   rw[List.map_append]
   congr 1
   ·apply List.map_congr_left
    intro w hw
    rw[other w hw (fun z=>e (by rw[z];exact hw))]
   ·rw[List.map_cons,List.map_nil,IV,if_pos rfl]
  ·exact DD nd e
  ·rw[mem' w,List.mem_append,List.mem_singleton]
   constructor
   ·rintro (h | h)
    ·exact .inl h
    ·exact .inr h.symm
   ·rintro (h | h)
    ·exact .inl h
    ·exact .inr h.symm
theorem JU :∀{ks l:List Nat},ks.Nodup→(∀w∈ks,w∈l)→ks.length≤l.length
 | [],l,_,_=>Nat.zero_le _
 | k ::ks,l,nd,h=>by
  obtain⟨h1,h2⟩:=List.nodup_cons.mp nd
  have hk:k∈l:=h k List.mem_cons_self
  have ih:=JU (l:=l.erase k) h2 fun w hw=>(List.mem_erase_of_ne (fun e=>h1 (by rw[←e];exact hw))).mpr (h w (List.mem_cons_of_mem _ hw))
  rw[List.length_erase_of_mem hk] at ih
  have :0<l.length:=List.length_pos_of_mem hk
  rw[List.length_cons]
  omega
theorem nY.len {s:Kh292.Script} {c:Nat} {done:List (Nat×Option Nat)} {kvs:List (Key×V)} (h:nY s c done kvs) (g:done.length≤1000000):kvs.length<sizeLine:=by
 obtain⟨ks,rfl,nd,hm⟩:=h
 unfold K2
 rw[List.length_map,sizeLine_eq]
 have :ks.length≤(done.map Prod.fst).length:=by
  refine JU nd fun w hw=>?_
  obtain⟨v,hv,e⟩:=(hm w).mp hw
  exact List.mem_map.mpr ⟨v,hv,e⟩
 rw[List.length_map] at this
 omega
theorem Oh {s:Kh292.Script} {c:Nat} {w:Nat×Option Nat} (h:∀q,w.2=some q→q<s.places.length):VI ((List.range s.places.length).map (Kt.gn s c)) w.2=((Kt.zb s c w.2:Nat):Int):=by
 obtain⟨w1,w2⟩:=w
 cases w2 with
 | none=>rfl
 | some q=>
  show (((((List.range s.places.length).map (Kt.gn s c)).getD q 0:Nat)):Int)=((Kt.gn s c q:Nat):Int)
  rw[map_getD _ _ _ (h q rfl)]
theorem Ob {s:Kh292.Script} {l:List Nat} {i t:Nat} (h:l[i]?=some t):(l.take (i+1)).flatMap (fun q=>(Kh292.at_ s q).ways)=(l.take i).flatMap (fun q=>(Kh292.at_ s q).ways)++(Kh292.at_ s t).ways:=by
 rw[take_snoc h,List.flatMap_append]
 simp
theorem Kg {s:Kh292.Script} (h:∀q,(Kh292.at_ s q).ways.length≤4):∀l:List Nat,(l.flatMap fun q=>(Kh292.at_ s q).ways).length≤4 * l.length
 | []=>by simp
 | q ::l=>by
  rw[List.flatMap_cons,List.length_append,List.length_cons]
  have:=Kg h l
  have:=h q
  omega
theorem TV {s:Kh292.Script} {nw:Nat} (hOk:∀y∈s.places,Kt.FK s.p nw y) (q:Nat):(Kh292.at_ s q).ways.length≤4:=by
 by_cases h:q<s.places.length
 ·exact (hOk _ (Kt.wA h)).most
 ·unfold Kh292.at_
  rw[List.getD_eq_getElem?_getD,List.getElem?_eq_none (by omega)]
  exact Nat.zero_le _
theorem SE {n:Nat} {x:State} (hx:Kt.lZ n x):x.places.length≤n:=by
 obtain⟨f,hf⟩:=hx
 rw[hf]
 exact Nat.le_trans (List.length_filter_le _ _) (by rw[List.length_range];omega)
noncomputable def Bk (K:PySem.W.Frag) (A:Ad):Sp:=fun vs0 H Q _=>∃(x:State) (pl cl:Addr) (vs:List V) (s:Kh292.Script) (c nw:Nat),vs0=[.int (Kt.maskOf x:Nat),.ref pl,.ref cl]∧(H pl=some (.lst vs))∧(gJ A H vs s.places)∧(s.places.length≤32)∧(∀y∈s.places,Kt.FK s.p nw y)∧(Kt.iS s)∧(H cl=some (.lst (nats ((List.range s.places.length).map (Kt.gn s c)))))∧(Kt.lZ s.places.length x)∧(∀(d:Addr) (kvs:List (Key×V)) (H':Hp),H d=none→ax H H'→H' d=some (.dK kvs)→nY s c (Kt.fD s x) kvs→Q (.ref d) H')
theorem BE {P:Program} {w:World} {K:PySem.W.Frag} {mg:Str→Option Value} {base:Heap} {A:Ad} (T:Txt K mg A):bz P w K mg base gw 2 A.fH A.fP ["state","places","comes"] (Bk K A):=by
 refine T.pX.ok jh (fun vs H Q E h=>?_) (fun cdv Ar outer sh H vs Q E hr h=>?_)
 ·obtain⟨_,_,_,_,_,_,_,rfl,_⟩:=h
  rfl
 ·obtain⟨x,pl,cl,vs,s,c,nw,rfl,hpl,hP,hn,hOk,hW,hcl,hx,kk⟩:=h
  have hu:=aY hr
  have hu64:=hr.units
  refine⟨_,(ab (bb (i:=3) jh.nd rfl (Or.inl rfl) Px)
   (ab (oq PassesOwn.never rfl (dP (aW (tO T) (hr.mono (by decide)) rfl T.kI T.pY.kp T.uk .nil aK (aa (pv 0) (aa (pv 1) ah)))) (bC (i:=4) jh.nd rfl (Or.inl rfl) (Or.inl rfl)) (ag (oq PassesOwn.never rfl (dP (ak (pv 4) rfl)) (bC (i:=5) jh.nd rfl (Or.inl rfl) (Or.inl rfl)) (ag (Rb hu (pv 3) (ak (pv 5) rfl) (bX Mx (Py hu (pv 3) (ak (pv 5) rfl) aH ⟨rfl,rfl,rfl,rfl⟩) (aW (z6 T) (hr.mono (by decide)) rfl T.jt T.oB.kp T.uK .nil aK (aa (pv 5) (aa (pv 2) ah)))) rfl)))))
   (ag (aq (pv 3))))),?_⟩
  try dsimp only[Of]
  have hvl:vs.length=s.places.length:=hP.1
  have hxv:Kt.lZ vs.length x:=by rw[hvl];exact hx
  have hlt:=Kt.qo hx
  have hxl:=SE hx
  refine ?dict3
  case dict3=>
   intro d hd
   have s0:ax H (upd H d (.dK [])):=aX hd
   refine⟨_,rfl,⟨_,rfl,?nc⟩⟩
   case nc=>
    refine⟨_,_,_,rfl,s0 _ _ hpl,by omega,fun D H1 hD s1 hD1=>?_⟩
    rw[LS hxv (by omega)] at hD1
    have hd1:=s1 _ _ ae
    have hDn:D≠d:=fun z=>by rw[z] at hD;rw[ae] at hD;cases hD
    have hDH:H D=none:=s0.free hD
    refine⟨_,rfl,⟨_,aM.of hD1⟩,E9 (xs:=oX x vs) (fun i σ H'=>∃(v4 v5:Option V) (kvs:List (Key×V)),σ=[some (.int (Kt.maskOf x:Nat)),some (.ref pl),some (.ref cl),some (.ref d),v4,v5]∧ax H H'∧H' D=some (.lst (oX x vs))∧H' d=some (.dK kvs)∧nY s c ((x.places.take i).flatMap fun q=>(Kh292.at_ s q).ways) kvs)
     ⟨none,none,[],rfl,s0.trans s1,hD1,hd1,nY.nil s c⟩ (fun i σ H' ⟨_,_,_,_,_,h,_⟩=>aM.of h) ?_ ?_⟩
    ·rintro i v σ H2 hv ⟨v4,v5,kvs,rfl,s2,hD2,hd2,dm⟩
     obtain⟨t,ht,rfl⟩:=DJ hv
     have htl:=hlt t (getD_mem ht)
     obtain⟨ta,tdx,twl,tws,eta,hta,htw,htws⟩:=(mB hP htl).same s2
     have okt:=hOk _ (Kt.wA htl)
     rw[eta]
     try dsimp only[Of]
     refine⟨_,rfl,⟨_,_,_,_,_,rfl,by assumption,T.bh,T.cB,eK,?loop1⟩⟩
     case loop1=>
      refine⟨_,rfl,⟨_,aM.of htw⟩,E9 (xs:=tws) (fun j σ H'=>∃(v5:Option V) (kvs:List (Key×V)),σ=[some (.int (Kt.maskOf x:Nat)),some (.ref pl),some (.ref cl),some (.ref d),some (.ref ta),v5]∧ax H H'∧H' twl=some (.lst tws)∧dg (uW A H') tws (Kh292.at_ s t).ways∧H' D=some (.lst (oX x vs))∧H' d=some (.dK kvs)∧nY s c ((x.places.take i).flatMap (fun q=>(Kh292.at_ s q).ways)++(Kh292.at_ s t).ways.take j) kvs)
       ⟨v5,kvs,rfl,s2,htw,htws,hD2,hd2,by rw[List.take_zero,List.append_nil];exact dm⟩ (fun j σ H' ⟨_,_,_,_,h,_⟩=>aM.of h) ?_ ?_⟩
      ·rintro j v σ H3 hv ⟨v5,kvs,rfl,s3,htw3,htws3,hD3,hd3,dm3⟩
       obtain⟨w,hw,wa,wdx,rfl,hwa⟩:=htws3.get hv
       have hwm:w∈(Kh292.at_ s t).ways:=List.mem_of_getElem? hw
       have hnext:∀q,w.2=some q→q<s.places.length:=hW.next t htl w hwm
       try dsimp only[Of]
       refine⟨_,rfl,_,rfl,.inl ⟨_,.inl hd3⟩,_,rfl,_,_,_,_,_,rfl,hwa,T.eh,T.cR,eI,_,FN.k (k:=(Sum.inl (w.1:Int):Key)) hd3,?_⟩
       rw[dm3.get w.1]
       refine⟨_,rfl,⟨_,rfl,⟨_,_,_,_,rfl,(⟨wa,wdx,rfl,hwa⟩),(s3 _ _ hcl),(fun q hq=>⟨by rw[List.length_map,List.length_range];exact hnext q hq,okt.next w hwm q hq⟩),⟨_,_,rfl,rfl,⟨_,rfl,⟨_,rfl,⟨_,_,_,_,_,rfl,by assumption,T.eh,T.cR,eI,?put0⟩⟩⟩⟩⟩⟩⟩
       case put0=>
        dsimp only
        rw[Oh hnext,HV]
        refine⟨_,_,rfl,QG.k (k:=(Sum.inl (w.1:Int):Key)) hd3 (dm3.len ?_),?_⟩
        ·have h1:=Kg (TV hOk) (x.places.take i)
         rw[List.length_append,List.length_take]
         rw[List.length_take] at h1
         have:=okt.most
         omega
        ·refine⟨_,_,rfl,?_,?_,?_,?_,ae,?_⟩
         ·intro b o e
          rw[af (ao e hd)]
          exact s3 _ _ e
         ·rw[af (oM htw3 hd3 (by intro z;cases z))]
          exact htw3
         ·refine htws3.mono fun a b h=>?_
          obtain⟨ya,ydx,rfl,hy⟩:=h
          exact⟨ya,ydx,rfl,by rw[af (oM hy hd3 (by intro z;cases z))];exact hy⟩
         ·rw[af hDn]
          exact hD3
         ·rw[take_snoc hw,←List.append_assoc]
          exact dm3.put w
      ·rintro σ H3 ⟨v5,kvs,rfl,s3,htw3,htws3,hD3,hd3,dm3⟩
       refine⟨_,_,kvs,rfl,s3,hD3,hd3,?_⟩
       rw[htws3.1,List.take_length] at dm3
       rw[Ob ht]
       exact dm3
    ·rintro σ H2 ⟨v4,v5,kvs,rfl,s2,hD2,hd2,dm⟩
     try dsimp only[Of]
     refine⟨_,rfl,?r5⟩
     case r5=>
      rw[vM,List.take_length] at dm
      exact kk d kvs H2 hd s2 hd2 dm
end
section
open Kh292 (State)
noncomputable def rk (r:Kh292.Row):List Nat:=r.kind::r.other::r.ways.length::r.ways.flatMap fun w=>[w.1,w.2]
theorem J7 (F:Nat→Nat) (ks:List Nat):(K2 F ks).map (·.1)=(ks.map fun (n:Nat)=>(n:Int)).map Sum.inl:=by
 unfold K2
 rw[List.map_map,List.map_map]
 rfl
theorem xk (l:List Nat):(nats l).all su=true:=by
 unfold nats
 rw[List.all_map,List.all_eq_true]
 intro x _
 rfl
theorem DQ (a b:Nat):Oc (V.int (a:Int)) (V.int (b:Int))=decide (a=b):=by
 show ((a:Int)==(b:Int))=_
 rw[Bool.eq_iff_iff,beq_iff_eq,decide_eq_true_eq]
 omega
theorem nT (b:Nat) (l:List Nat):K3 (V.int (b:Int)) (nats l)=l.contains b:=by
 unfold K3 nats
 rw[List.any_map,Bool.eq_iff_iff,List.any_eq_true,List.contains_iff_mem]
 constructor
 ·rintro⟨x,hx,h⟩
  have h:Oc (V.int (x:Int)) (V.int (b:Int))=true:=h
  rw[DQ] at h
  rw[←of_decide_eq_true h]
  exact hx
 ·intro h
  refine⟨b,h,?_⟩
  show Oc (V.int (b:Int)) (V.int (b:Int))=true
  rw[DQ]
  exact decide_eq_true rfl
theorem N2 {l:List Nat} {b m x:Nat} (h:l[m]?=some x) (hm:m<l.idxOf b):¬x=b:=by
 intro e
 subst e
 induction l generalizing m with
 | nil=>simp at h
 | cons a l ih=>
  rw[List.idxOf_cons] at hm
  cases m with
  | zero=>
   have e:a=x:=Option.some.inj h
   subst e
   simp at hm
  | succ m=>
   cases q:(a==x) with
   | true=>rw[q] at hm;simp at hm
   | false=>
    rw[q] at hm
    simp at hm
    exact ih (by simpa using h) hm
theorem J2 {n:Nat} (hn:n≤32) {y:State} (hy:Kt.lZ n y):∀{l:List State},(∀z∈l,Kt.lZ n z)→(l.map Kt.maskOf).idxOf (Kt.maskOf y)=l.idxOf y
 | [],_=>rfl
 | a ::l,h=>by
  rw[List.map_cons,List.idxOf_cons,List.idxOf_cons,J2 hn hy (l:=l) fun z hz=>h z (List.mem_cons_of_mem _ hz)]
  have e:(Kt.maskOf a==Kt.maskOf y)=(a==y):=by
   rw[Bool.eq_iff_iff,beq_iff_eq,beq_iff_eq]
   exact⟨fun z=>Kt.J1 hn (h a List.mem_cons_self) hy z,fun z=>by rw[z]⟩
  rw[e]
theorem O9 {s:Kh292.Script} {c:Nat} {l:List State} {x:State} {ws:List Nat} {i w:Nat} (h:ws[i]?=some w) (f:Nat→Nat):(ws.take (i+1)).flatMap (fun w=>[w,f w])=(ws.take i).flatMap (fun w=>[w,f w])++[w,f w]:=by
 rw[take_snoc h,List.flatMap_append]
 simp
theorem SH (s:Kh292.Script) (c:Nat) (l:List State) (x:State):rk (Kh292.rowOf s c l x)=[Kh292.kind s c x,Kh292.other s c x]++[(Kh292.words s x).length]++(Kh292.words s x).flatMap fun w=>[w,l.idxOf (Kh292.behind s c x w)]:=by
 unfold rk Kh292.rowOf
 simp only[List.length_map,List.flatMap_map,List.cons_append,List.nil_append]
theorem G8 (f:Nat→Nat):∀ws:List Nat,(ws.flatMap fun w=>[w,f w]).length=2 * ws.length
 | []=>rfl
 | w ::ws=>by
  rw[List.flatMap_cons,List.length_append,G8 f ws,List.length_cons]
  simp
  omega
noncomputable def BB (s:Kh292.Script) (c:Nat) (l:List State) (x:State) (i:Nat):List Nat:=[Kh292.kind s c x,Kh292.other s c x]++[(Kh292.words s x).length]++((Kh292.words s x).take i).flatMap fun w=>[w,l.idxOf (Kh292.behind s c x w)]
theorem SI (s:Kh292.Script) (c:Nat) (l:List State) (x:State):BB s c l x 0=[Kh292.kind s c x,Kh292.other s c x]++[(Kh292.words s x).length]:=by
 unfold BB
 simp
theorem Nu {s:Kh292.Script} {c:Nat} {l:List State} {x:State} {i w:Nat} (h:(Kh292.words s x)[i]?=some w):nats (BB s c l x (i+1))=(nats (BB s c l x i)++[V.int (w:Nat)])++[V.int (l.idxOf (Kh292.behind s c x w):Nat)]:=by
 unfold BB
 rw[O9 (s:=s) (c:=c) (l:=l) (x:=x) h fun w=>l.idxOf (Kh292.behind s c x w),←List.append_assoc,lB]
 exact (List.append_assoc _ [V.int (w:Nat)] [V.int (l.idxOf (Kh292.behind s c x w):Nat)]).symm
theorem Pa (s:Kh292.Script) (c:Nat) (l:List State) (x:State) (i:Nat):(nats (BB s c l x i)).length≤3+2 * (Kh292.words s x).length:=by
 unfold BB
 rw[aE,List.length_append,G8 (fun w=>l.idxOf (Kh292.behind s c x w)),List.length_take]
 simp only[List.length_append,List.length_cons,List.length_nil]
 omega
theorem Pb (s:Kh292.Script) (c:Nat) (l:List State) (x:State):BB s c l x (Kh292.words s x).length=rk (Kh292.rowOf s c l x):=by
 rw[SH]
 unfold BB
 rw[List.take_length]
noncomputable def Nk (K:PySem.W.Frag) (A:Ad):Sp:=fun vs0 H Q _=>∃(x:State) (pl d sl:Addr) (vs:List V) (s:Kh292.Script) (c:Nat) (kvs:List (Key×V)) (l:List State),vs0=[.int (Kt.maskOf x:Nat),.ref pl,.int c,.ref d,.ref sl]∧(H pl=some (.lst vs))∧(gJ A H vs s.places)∧(s.places.length≤32)∧(Kt.lZ s.places.length x)∧(H d=some (.dK kvs))∧(nY s c (Kt.fD s x) kvs)∧(∀v∈Kt.fD s x,v.1<256)∧(Kt.iS s)∧((Kh292.words s x).length≤16)∧(H sl=some (.lst (nats (l.map Kt.maskOf))))∧(∀y∈l,Kt.lZ s.places.length y)∧(∀w∈Kh292.words s x,Kh292.behind s c x w∈l)∧(∀(D:Addr) (H':Hp),H D=none→ax H H'→H' D=some (.lst (nats (rk (Kh292.rowOf s c l x))))→Q (.ref D) H')
theorem NL {P:Program} {w:World} {K:PySem.W.Frag} {mg:Str→Option Value} {base:Heap} {A:Ad} (T:Txt K mg A):bz P w K mg base gw 3 A.sx A.sG ["state","places","party","behind","states"] (Nk K A):=by
 refine T.IH.ok Bu (fun vs H Q E h=>?_) (fun cdv Ar outer sh H vs Q E hr h=>?_)
 ·obtain⟨_,_,_,_,_,_,_,_,_,rfl,_⟩:=h
  rfl
 ·obtain⟨x,pl,d,sl,vs,s,c,kvs,l,rfl,hpl,hP,hn,hx,hd,dm,h256,hW,h16,hsl,hl,hb,kk⟩:=h
  have hu:=aY hr
  have hu64:=hr.units
  refine⟨_,(ab (bb (i:=5) Bu.nd rfl (Or.inl rfl) (aW (z5 T) (hr.mono (by decide)) rfl T.js T.oA.kp T.uJ .nil aK (aa (pv 0) (aa (pv 1) (aa (pv 2) ah)))))
   (ab (cy (g6 PySem.F.plainAttrs_list PySem.F.slot_list_append PySem.F.type_list_append bR (pv 5) (aa (aD Hf (by rfl) T.cw PySem.boot_len (aa (pv 3) ah)) ah)))
   (ab (oq PassesOwn.never rfl (dP (aD (Fp rfl) (by rfl) T.sT boot_sorted (aa (pv 3) ah))) (bC (i:=6) Bu.nd rfl (Or.inl rfl) (Or.inl rfl)) (ab (cy (g6 PySem.F.plainAttrs_list PySem.F.slot_list_append PySem.F.type_list_append bR (pv 5) (aa (pv 6) ah)))
   (ag (cy (g6 PySem.F.plainAttrs_list PySem.F.slot_list_append PySem.F.type_list_append bR (pv 5) (aa (g6 PySem.F.plainAttrs_list PySem.F.slot_list_index PySem.F.type_list_index PN (pv 4) (aa (HU hu (pv 3) (pv 6) (fun _ _=>rfl)) ah)) ah))))))
   (ag (aq (pv 5)))))),?_⟩
  try dsimp only[Of]
  obtain⟨ks,rfl,nd,hm⟩:=dm
  have hlt:=Kt.qo hx
  have hbf:∀w,bf s c (Kt.fD s x) w=Kt.maskOf (Kh292.behind s c x w):=fun w=>(Kt.Ho hW hn hlt).symm
  have hkp:ks.Perm (Kh292.words s x):=Kt.oT nd (Kt.vg s x) fun w=>by
   rw[hm,Kt.wY]
   exact⟨fun ⟨v,hv,e⟩=>⟨by rw[←e];exact h256 v hv,v,hv,e⟩,fun h=>h.2⟩
  have hkl:ks.length=(Kh292.words s x).length:=hkp.length_eq
  refine⟨_,rfl,⟨_,rfl,⟨_,rfl,?va⟩⟩⟩
  case va=>
   refine⟨_,_,_,_,_,rfl,hpl,hP,hn,hx,fun R H1 hR s1 hR1=>?_⟩
   have hd1:=s1 _ _ hd
   refine⟨_,rfl,⟨ty_list (aM.of hR1),⟨_,rfl,⟨_,_,rfl,(hd1),?Ja⟩⟩⟩⟩
   case Ja=>
    refine⟨_,_,_,rfl,rfl,hR1,by rw[aE,sizeLine_eq];show 2<16777216;decide,?_⟩
    have hdn:d≠R:=fun z=>by rw[z] at hd;rw[hd] at hR;cases hR
    have hd2:upd H1 R (.lst (nats [Kh292.kind s c x,Kh292.other s c x]++[.int ((K2 (bf s c (Kt.fD s x)) ks).length:Nat)])) d=some (.dK (K2 (bf s c (Kt.fD s x)) ks)):=by rw[af hdn];exact hd1
    refine⟨_,rfl,?QZ⟩
    case QZ=>
     refine⟨d,_,ks.map fun (n:Nat)=>(n:Int),rfl,hd2,J7 _ _,by rw[List.length_map,hkl];omega,fun ns' p pe so hp=>?_⟩
     obtain⟨ws,rfl,pw,sw⟩:=tP pe so
     have hws:ws=Kh292.words s x:=Kt.xS h256 nd hm pw sw
     subst hws
     have s2:ax H (upd H1 R (.lst (nats [Kh292.kind s c x,Kh292.other s c x]++[.int ((K2 (bf s c (Kt.fD s x)) ks).length:Nat)]))):=fun b o e=>by
      rw[af (ao e hR)]
      exact s1 _ _ e
     have hpR:p≠R:=fun z=>by rw[z,ae] at hp;cases hp
     have hpH:H p=none:=s2.free hp
     rw[←wQ]
     have hstart:nats [Kh292.kind s c x,Kh292.other s c x]++[V.int ((K2 (bf s c (Kt.fD s x)) ks).length:Nat)]=nats ([Kh292.kind s c x,Kh292.other s c x]++[(Kh292.words s x).length]):=by
      rw[lB]
      unfold K2
      rw[List.length_map,hkl]
      rfl
     refine ?loop0
     case loop0=>
      refine⟨_,rfl,⟨_,aM.of ae⟩,E9 (xs:=nats (Kh292.words s x)) (fun i σ H'=>∃v6:Option V,σ=[some (.int (Kt.maskOf x:Nat)),some (.ref pl),some (.int c),some (.ref d),some (.ref sl),some (.ref R),v6]∧ax H H'∧H' p=some (.lst (nats (Kh292.words s x)))∧H' R=some (.lst (nats (BB s c l x i))))
       ⟨none,rfl,s2.trans (aX hp),ae,by rw[af (Ne.symm hpR),ae,hstart,SI]⟩ (fun i σ H' ⟨_,_,_,h,_⟩=>aM.of h) ?_ ?_⟩
      ·rintro i v σ H3 hv ⟨v6,rfl,s3,hp3,hR3⟩
       obtain⟨w,hw,rfl⟩:=lA hv
       have hwm:w∈Kh292.words s x:=List.mem_of_getElem? hw
       have hbm:=hb w hwm
       have hws:w∈ks:=hkp.mem_iff.mpr hwm
       have hil:=si hw
       have hlen:(nats (BB s c l x i)).length+1<sizeLine:=by
        have:=Pa s c l x i
        rw[sizeLine_eq]
        omega
       have hidx:=J2 hn (hl _ hbm) hl
       try dsimp only[Of]
       refine⟨_,rfl,⟨ty_list (aM.of hR3),⟨_,rfl,?o6⟩⟩⟩
       case o6=>
        refine⟨_,_,_,rfl,rfl,hR3,by omega,?_⟩
        have hsl3:upd H3 R (.lst (nats (BB s c l x i)++[.int (w:Nat)])) sl=some (.lst (nats (l.map Kt.maskOf))):=by
         rw[af (fun z=>by rw[z] at hsl;rw[hsl] at hR;cases hR)]
         exact s3 _ _ hsl
        have hd3:upd H3 R (.lst (nats (BB s c l x i)++[.int (w:Nat)])) d=some (.dK (K2 (bf s c (Kt.fD s x)) ks)):=by
         rw[af hdn]
         exact s3 _ _ hd
        have hg:=FN.k (k:=(Sum.inl (w:Int):Key)) hd3
        rw[wH,if_pos hws,hbf] at hg
        refine⟨_,rfl,⟨ty_list (aM.of ae),⟨_,rfl,⟨ty_list (aM.of hsl3),⟨_,rfl,⟨_,rfl,⟨_,_,rfl,(hg),?index1⟩⟩⟩⟩⟩⟩⟩
        case index1=>
         refine⟨_,_,_,(l.map Kt.maskOf).idxOf (Kt.maskOf (Kh292.behind s c x w)),V.int ((Kt.maskOf (Kh292.behind s c x w):Nat):Int),rfl,rfl,aM.of hsl3,rfl,xk _,tQ ?_,?_,fun m z hm hz=>?_,?_⟩
         ·have hlt2:(l.map Kt.maskOf).idxOf (Kt.maskOf (Kh292.behind s c x w))<(l.map Kt.maskOf).length:=List.idxOf_lt_length_of_mem (List.mem_map.mpr ⟨_,hbm,rfl⟩)
          rw[List.getElem?_eq_getElem hlt2,List.getElem_idxOf hlt2]
         ·rw[DQ];exact decide_eq_true rfl
         ·obtain⟨y,hy,rfl⟩:=lA hz
          rw[DQ]
          exact decide_eq_false (N2 hy hm)
         ·rw[hidx]
          refine⟨_,_,_,rfl,rfl,ae,by rw[List.length_append];exact hlen,?_⟩
          refine⟨_,rfl,?_,?_,?_⟩
          ·intro b o e
           rw[af (ao e hR),af (ao e hR)]
           exact s3 _ _ e
          ·rw[af hpR,af hpR]
           exact hp3
          ·rw[ae,Nu hw]
      ·rintro σ H3 ⟨v6,rfl,s3,hp3,hR3⟩
       try dsimp only[Of]
       refine⟨_,rfl,?r5⟩
       case r5=>
        rw[aE,Pb] at hR3
        exact kk R H3 hR s3 hR3
end
section
open Kh292 (State)
theorem gK.same {F F':Hp} {ws:List V} {ts:List (List Nat)} (s:ax F F') (h:gK F ws ts):gK F' ws ts:=⟨h.1,fun i v t a b=>by
 obtain⟨x,e,q⟩:=h.2 i v t a b
 exact⟨x,e,s _ _ q⟩⟩
theorem gK.nil {F:Hp}:gK F [] []:=⟨rfl,fun i v t a=>by simp at a⟩
theorem gK.snoc {F:Hp} {ws:List V} {ts:List (List Nat)} {a:Addr} {t:List Nat} (h:gK F ws ts) (g:F a=some (.lst (nats t))):gK F (ws++[.ref a]) (ts++[t]):=
 dg.snoc (R:=fun (v:V) (t:List Nat)=>∃a,v=V.ref a∧F a=some (.lst (nats t))) h ⟨a,rfl,g⟩
noncomputable def Nv :Kh292.Found→Int
 | .states _=>0
 | .unclear _=>-71
 | .many=>-75
noncomputable def Sb (s:Kh292.Script) (c:Nat):Kh292.Found→List (List Nat)
 | .states l=>l.map fun x=>rk (Kh292.rowOf s c l x)
 | _=>[]
noncomputable def uz (A:Ad) (s:Kh292.Script) (c:Nat) (F:Hp) (v:V):Prop:=∃(x dx rl:Addr) (rv:List V),v=.ref x∧F x=some (.ins A.fo dx (iI (.int (Nv (Kh292.statesOf s c))) (.ref rl)))∧F rl=some (.lst rv)∧gK F rv (Sb s c (Kh292.statesOf s c))
theorem uz.same {A:Ad} {s:Kh292.Script} {c:Nat} {F F':Hp} {v:V} (q:ax F F') (h:uz A s c F v):uz A s c F' v:=by
 obtain⟨x,dx,rl,rv,e,h1,h2,h3⟩:=h
 exact⟨x,dx,rl,rv,e,q _ _ h1,q _ _ h2,h3.same q⟩
noncomputable def Off (M:List Addr) (H:Hp):Hp:=fun b=>if b∈M then none else H b
theorem aS {M:List Addr} {H:Hp} {b:Addr} {o:HO}:Off M H b=some o↔b∉M∧H b=some o:=by
 unfold Off
 by_cases h:b∈M
 ·rw[if_pos h]
  exact⟨fun z=>(nomatch z),fun z=>absurd h z.1⟩
 ·rw[if_neg h]
  exact⟨fun z=>⟨h,z⟩,fun z=>z.2⟩
theorem cO {M:List Addr} {H H':Hp} (h:∀b o,b∉M→H b=some o→H' b=some o):ax (Off M H) (Off M H'):=fun b o e=>aS.mpr ⟨(aS.mp e).1,h b o (aS.mp e).1 (aS.mp e).2⟩
theorem Af {M:List Addr} {H H1 H2:Hp} (h:∀b o,b∉M→H1 b=some o→H2 b=some o):ax (Off M (rN H H1)) (Off M (rN H H2)):=cO fun b o hb e=>cQ.mpr ⟨(cQ.mp e).1,h b o hb (cQ.mp e).2⟩
theorem jo {M:List Addr} {H:Hp}:ax (Off M H) H:=fun b o e=>(aS.mp e).2
theorem Nt {s:Kh292.Script} {c:Nat} {l r:List State} {x:State} (h:∀w∈Kh292.words s x,Kh292.behind s c x w∈l):Kh292.rowOf s c (l++r) x=Kh292.rowOf s c l x:=by
 unfold Kh292.rowOf
 congr 1
 apply List.map_congr_left
 intro w hw
 rw[List.idxOf_append,if_pos (h w hw)]
theorem CK {s:Kh292.Script} {c nw:Nat} {x:State} (hx:Kt.lZ s.places.length x) (hp:∀q∈x.places,Kh292.takesPart s c q=true) (hOk:∀y∈s.places,Kt.FK s.p nw y):Kt.oI s c x=true↔Kh292.fault s c x=0:=
 Kt.Qp hp fun q hq=>(hOk _ (Kt.wA (Kt.qo hx q hq))).ne
theorem QR {s:Kh292.Script} {nw:Nat} {x:State} (hx:Kt.lZ s.places.length x) (hOk:∀y∈s.places,Kt.FK s.p nw y) (hnw:nw≤64):∀v∈Kt.fD s x,v.1<256:=fun v hv=>by
 obtain⟨q,hq,hv⟩:=List.mem_flatMap.mp hv
 have:=(hOk _ (Kt.wA (Kt.qo hx q hq))).word v hv
 omega
theorem M3 {s:Kh292.Script} {c:Nat} {x:State} {kvs:List (Key×V)} (dm:nY s c (Kt.fD s x) kvs) (h256:∀v∈Kt.fD s x,v.1<256):kvs.length=(Kh292.words s x).length:=by
 obtain⟨ks,rfl,nd,hm⟩:=dm
 unfold K2
 rw[List.length_map]
 refine (Kt.oT nd (Kt.vg s x) fun w=>?_).length_eq
 rw[hm,Kt.wY]
 exact⟨fun ⟨v,hv,e⟩=>⟨by rw[←e];exact h256 v hv,v,hv,e⟩,fun h=>h.2⟩
theorem Kr {s:Kh292.Script} {c:Nat} {x:State} {kvs:List (Key×V)} (dm:nY s c (Kt.fD s x) kvs) (h256:∀v∈Kt.fD s x,v.1<256) :
  ∃ks:List Int,kvs.map (·.1)=ks.map Sum.inl∧ks.length=kvs.length∧∀ns':List Int,ns'.Perm ks→ns'.Pairwise (·≤·)→ns'.map V.int=nats (Kh292.words s x):=by
 obtain⟨ks,rfl,nd,hm⟩:=dm
 refine⟨ks.map fun (n:Nat)=>(n:Int),J7 _ _,by unfold K2;rw[List.length_map,List.length_map],fun ns' pe so=>?_⟩
 obtain⟨ws,rfl,pw,sw⟩:=tP pe so
 rw[Kt.xS h256 nd hm pw sw,wQ]
theorem RE {s:Kh292.Script} {c:Nat} {x:State} {kvs:List (Key×V)} {H:Hp} {d w:Nat} (dm:nY s c (Kt.fD s x) kvs) (hW:Kt.iS s) (hn:s.places.length≤32) (hx:Kt.lZ s.places.length x) (hw:w∈Kh292.words s x) (hd:H d=some (.dK kvs)) :
  FN H d (V.int (w:Int)) (some (V.int ((Kt.maskOf (Kh292.behind s c x w):Nat):Int))):=by
 obtain⟨ks,rfl,nd,hm⟩:=dm
 have hg:=FN.k (k:=(Sum.inl (w:Int):Key)) hd
 rw[wH,if_pos ((hm w).mpr (Kt.wY.mp hw).2),show bf s c (Kt.fD s x) w=Kt.maskOf (Kh292.behind s c x w) from (Kt.Ho hW hn (Kt.qo hx)).symm] at hg
 exact hg
theorem Oy (bs:List Nat) (b:Nat) (ms:List Nat):Kt.Ct (bs++[b]) ms=if (Kt.Ct bs ms).contains b then Kt.Ct bs ms else Kt.Ct bs ms++[b]:=by
 unfold Kt.Ct
 rw[List.foldl_append]
 rfl
theorem QE (bs ms:List Nat):(Kt.Ct bs ms).length≤ms.length+bs.length:=by
 induction bs generalizing ms with
 | nil=>exact Nat.le_refl _
 | cons b bs ih=>
  show (Kt.Ct bs (if ms.contains b then ms else ms++[b])).length≤_
  have:=ih (if ms.contains b then ms else ms++[b])
  rw[List.length_cons]
  split at this
  ·rename_i h;rw[if_pos h];omega
  ·rename_i h;rw[if_neg h];rw[List.length_append,List.length_singleton] at this;omega
noncomputable def AW (s:Kh292.Script) (c:Nat) (x:State):List Nat:=(Kh292.words s x).map fun w=>Kt.maskOf (Kh292.behind s c x w)
noncomputable def Lg (K:PySem.W.Frag) (A:Ad):Sp:=fun vs0 H Q _=>∃(pl:Addr) (vs:List V) (s:Kh292.Script) (c nw:Nat),vs0=[.ref pl,.int c]∧(H pl=some (.lst vs))∧(gJ A H vs s.places)∧(s.places.length≤32)∧(0<s.places.length)∧(∀y∈s.places,Kt.FK s.p nw y)∧(nw≤64)∧(Kt.iS s)∧(∀(v:V) (H':Hp),ax H H'→uz A s c (rN H H') v→Q v H')
theorem LB {P:Program} {w:World} {K:PySem.W.Frag} {mg:Str→Option Value} {base:Heap} {A:Ad} (T:Txt K mg A):bz P w K mg base gw 5 A.pd A.pz ["places","party"] (Lg K A):=by
 refine T.E8.ok ku (fun vs H Q E h=>?_) (fun cdv Ar outer sh H vs Q E hr h=>?_)
 ·obtain⟨_,_,_,_,_,rfl,_⟩:=h
  rfl
 ·obtain⟨pl,vs,s,c,nw,rfl,hpl,hP,hn,hn0,hOk,hnw,hW,kk⟩:=h
  have hu:=aY hr
  have hu64:=hr.units
  refine⟨_,(ab (bb (i:=2) ku.nd rfl (Or.inl rfl) (aW (xE T) (hr.mono (by decide)) rfl T.gX T.lV.kp T.qT .nil aK (aa (pv 0) (aa (pv 1) ah))))
   (ab (bb (i:=3) ku.nd rfl (Or.inl rfl) (bB (aa (bw aN (pv 2) aH (fun _ _=>rfl)) ah)))
   (ab (bb (i:=4) ku.nd rfl (Or.inl rfl) (bB ah))
   (ab (JG PassesOwn.never (aA JN (aD aB (by rfl) T.cw PySem.boot_len (aa (pv 4) ah)) (aD aB (by rfl) T.cw PySem.boot_len (aa (pv 3) ah)) (aI _)) (ab (bb (i:=5) ku.nd rfl (Or.inl rfl) (bw aN (pv 3) (aD aB (by rfl) T.cw PySem.boot_len (aa (pv 4) ah)) (fun _ _=>rfl)))
   (ab (aT (jU (ly (aW (JQ T) (hr.mono (by decide)) rfl T.tS T.B1.kp T.Hj .nil aK (aa (pv 5) (aa (pv 0) (aa (pv 1) ah)))))) (ag (aq (iO T.qz (oU T) (hr.mono (by decide)) rfl T.ET T.qd .nil aK (aa (aw rfl T.qK) (aa (bB ah) ah))))) ay)
   (ab (bb (i:=6) ku.nd rfl (Or.inl rfl) (aW (BE T) (hr.mono (by decide)) rfl T.ke T.pX.kp T.wo .nil aK (aa (pv 5) (aa (pv 0) (aa (pv 2) ah)))))
   (ab (aT (aA CD (aD Hf (by rfl) T.cw PySem.boot_len (aa (pv 6) ah)) (aw rfl T.o4) (aI _)) (ag (aq (iO T.qz (oU T) (hr.mono (by decide)) rfl T.ET T.qd .nil aK (aa (aw rfl T.pV) (aa (bB ah) ah))))) ay)
   (ab (oq PassesOwn.never rfl (dP (aD (Fp rfl) (by rfl) T.sT boot_sorted (aa (pv 6) ah))) (bC (i:=7) ku.nd rfl (Or.inl rfl) (Or.inl rfl)) (ag (aT (aA HY (HU hu (pv 6) (pv 7) (fun _ _=>rfl)) (pv 3) (by with_unfolding_all rfl)) (ag (cy (g6 PySem.F.plainAttrs_list PySem.F.slot_list_append PySem.F.type_list_append bR (pv 3) (aa (HU hu (pv 6) (pv 7) (fun _ _=>rfl)) ah)))) ay)))
   (ab (aT (aA CD (aD aB (by rfl) T.cw PySem.boot_len (aa (pv 3) ah)) (aw rfl T.nI) (aI _)) (ag (aq (iO T.qz (oU T) (hr.mono (by decide)) rfl T.ET T.qd .nil aK (aa (aw rfl T.pV) (aa (bB ah) ah))))) ay)
   (ag (cy (g6 PySem.F.plainAttrs_list PySem.F.slot_list_append PySem.F.type_list_append bR (pv 4) (aa (aW (NL T) (hr.mono (by decide)) rfl T.Ap T.IH.kp T.MU .nil aK (aa (pv 5) (aa (pv 0) (aa (pv 1) (aa (pv 6) (aa (pv 3) ah)))))) ah)))))))))))
   (ag (aq (iO T.qz (oU T) (hr.mono (by decide)) rfl T.ET T.qd .nil aK (aa aH (aa (pv 4) ah))))))))),?_⟩
  try dsimp only[Of]
  have hvl:vs.length=s.places.length:=hP.1
  have h31:∀x∈s.places,∀w∈x.ways,∀q,w.2=some q→q≤31:=fun x hx=>(hOk x hx).next
  have bad:∀(f:Int) (H1:Hp),ax H H1→Nv (Kh292.statesOf s c)=f→Sb s c (Kh292.statesOf s c)=[]→∀p,H1 p=none→∀{E:XK} (x dx:Addr),upd H1 p (.lst []) x=none→upd H1 p (.lst []) dx=none→dx≠x→sZ K A (.ref x::([.int f,.ref p]:List V)) (upd (upd (upd H1 p (.lst [])) dx (.own x)) x (.ins A.fo dx [])) (fun v H2=>v=.dh∧Q (.ref x) H2) E:=fun f H1 s1 hf hr p hp {E}=>
   qz fun x dx H2 nx s2 hx=>by
    have hpn:x≠p:=fun z=>by rw[z,ae] at nx;cases nx
    have s3:ax H1 (upd H1 p (.lst [])):=aX hp
    refine kk _ _ ((s1.trans s3).trans s2) ⟨x,dx,p,[],rfl,yY ((s1.trans s3).free nx) (by rw[hf];exact hx),yY (s1.free hp) (s2 _ _ ae),by rw[hr];exact gK.nil⟩
  refine⟨_,rfl,⟨_,rfl,?rG⟩⟩
  case rG=>
   refine⟨_,_,_,_,rfl,hpl,hP,hn,h31,fun cl H1 fcl s1 hcl=>?_⟩
   have hcl0:DS (nats ((List.range s.places.length).map (Kt.gn s c))) 0=some (V.int ((Kt.maskOf (Kh292.first s c):Nat):Int)):=by
    refine bt (j:=0) (tQ ?_)
    rw[List.getElem?_map,List.getElem?_range hn0]
    show some (Kt.gn s c 0)=_
    rw[←Kt.Ku hW hn hn0]
    rfl
   refine⟨_,rfl,⟨_,_,_,_,rfl,rfl,(aM.of hcl),(hcl0),?lst14⟩⟩
   case lst14=>
    refine⟨by rw[sizeLine_eq];show 1≤16777216;decide,fun st hst=>?_⟩
    refine⟨by rw[sizeLine_eq];show 0≤16777216;decide,fun rl hrl=>?_⟩
    have hrs:rl≠st:=fun z=>by rw[z,ae] at hrl;cases hrl
    have s2:ax H1 (upd H1 st (.lst [.int ((Kt.maskOf (Kh292.first s c):Nat):Int)])):=aX hst
    have fst:H st=none:=s1.free hst
    have frl:H rl=none:=(s1.trans s2).free hrl
    have hclst:cl≠st:=fun z=>by rw[z] at hcl;rw[hcl] at hst;cases hst
    have hclrl:cl≠rl:=fun z=>by have:=s2 _ _ hcl;rw[z] at this;rw[this] at hrl;cases hrl
    refine⟨fun m σ H'=>∃(i:Nat) (l:List State) (rv:List V) (v5 v6 v7:Option V),m=65 - i∧σ=[some (.ref pl),some (.int c),some (.ref cl),some (.ref st),some (.ref rl),v5,v6,v7]∧ax H H'∧H' cl=some (.lst (nats ((List.range s.places.length).map (Kt.gn s c))))∧H' st=some (.lst (nats (l.map Kt.maskOf)))∧H' rl=some (.lst rv)∧Kt.jY s c i l∧gK (Off [st,rl] (rN H H')) rv ((l.take i).map fun x=>rk (Kh292.rowOf s c l x)),
     ⟨65,0,[Kh292.first s c],[],none,none,none,rfl,rfl,(s1.trans s2).trans (aX hrl),?_,?_,ae,Kt.Kf s c,gK.nil⟩,?_⟩
    ·rw[af hclrl,af hclst];exact hcl
    ·rw[af (Ne.symm hrs),ae];rfl
    rintro m σ H2 ⟨i,l,rv,v5,v6,v7,rfl,rfl,s3,hcl3,hst3,hrl3,F1,L⟩
    have hri:rv.length=i:=by
     rw[L.1,List.length_map,List.length_take]
     have:=F1.le
     omega
    have hml:=F1.most
    try dsimp only[Of]
    refine⟨_,rfl,⟨_,_,rfl,.inl (aM.of hrl3),⟨_,rfl,⟨_,_,rfl,.inl (aM.of hst3),⟨_,_,rfl,rfl,⟨_,rfl,?KT⟩⟩⟩⟩⟩⟩
    case KT=>
     refine aL (fun hlt=>?_) (fun hge=>?_)
     ·rw[aE,List.length_map,hri] at hlt
      have hil:i<l.length:=by omega
      obtain⟨x,hx⟩:∃x,l[i]?=some x:=⟨_,List.getElem?_eq_getElem hil⟩
      have hxo:=F1.ok x (List.mem_of_getElem? hx)
      have hxp:=F1.part x (List.mem_of_getElem? hx)
      have h256:=QR hxo hOk hnw
      have hat:DS (nats (l.map Kt.maskOf)) (rv.length:Int)=some (V.int ((Kt.maskOf x:Nat):Int)):=by
       rw[hri]
       exact bt (tQ (by rw[List.getElem?_map,hx];rfl))
      refine⟨fun σ H'=>∃(l':List State) (rv:List V) (v5 v6 v7:Option V),σ=[some (.ref pl),some (.int c),some (.ref cl),some (.ref st),some (.ref rl),v5,v6,v7]∧ax H H'∧H' cl=some (.lst (nats ((List.range s.places.length).map (Kt.gn s c))))∧H' st=some (.lst (nats (l'.map Kt.maskOf)))∧H' rl=some (.lst rv)∧Kt.jY s c (i+1) l'∧gK (Off [st,rl] (rN H H')) rv ((l'.take (i+1)).map fun x=>rk (Kh292.rowOf s c l' x)),?_,?_⟩
      ·rintro σ' H' ⟨l',rv',w5,w6,w7,rfl,q1,q2,q3,q4,q5,q6⟩
       exact⟨65 - (i+1),by omega,i+1,l',rv',w5,w6,w7,rfl,rfl,q1,q2,q3,q4,q5,q6⟩
      refine⟨_,rfl,⟨_,rfl,⟨_,_,rfl,.inl (aM.of hrl3),⟨_,_,_,_,rfl,rfl,(aM.of hst3),(hat),⟨_,rfl,⟨_,rfl,⟨_,rfl,?Ca⟩⟩⟩⟩⟩⟩⟩
      case Ca=>
       refine⟨x,_,_,_,_,nw,rfl,s3 _ _ hpl,hP.same s3,hn,hOk,hxo,fun H3 s4=>?_⟩
       refine⟨_,rfl,(ez (fun h=>?lst1) (fun h=>⟨_,rfl,⟨_,rfl,⟨_,rfl,?u6⟩⟩⟩))⟩
       case lst1=>
        have hfa:Kh292.fault s c x≠0:=fun z=>by rw[(CK hxo hxp hOk).mpr z] at h;cases h
        have hu:=F1.unclear hx hfa
        exact⟨Nat.zero_le _,fun p hp=>bad (-71) H3 (s3.trans s4) (by rw[hu];rfl) (by rw[hu];rfl) p hp⟩
       case u6=>
        have hfa:¬Kh292.fault s c x≠0:=fun z=>z ((CK hxo hxp hOk).mp h)
        refine⟨x,_,_,_,_,_,nw,rfl,(s3.trans s4) _ _ hpl,hP.same (s3.trans s4),hn,hOk,hW,s4 _ _ hcl3,hxo,fun d kvs H4 fd s5 hd4 dm=>?_⟩
        have hkw:=M3 dm h256
        refine⟨_,rfl,⟨_,_,rfl,(hd4),⟨_,_,rfl,rfl,⟨_,rfl,(aL (fun h=>?lst3) (fun h=>⟨_,rfl,?QY⟩))⟩⟩⟩⟩
        case lst3=>
         have hu:=F1.QQ hx hfa (by omega)
         exact⟨Nat.zero_le _,fun p hp=>bad (-75) H4 ((s3.trans s4).trans s5) (by rw[hu];rfl) (by rw[hu];rfl) p hp⟩
        case QY=>
         have h16:(Kh292.words s x).length≤16:=by omega
         obtain⟨ks,k1,k2,k3⟩:=Kr dm h256
         refine⟨d,kvs,ks,rfl,hd4,k1,by omega,fun ns' p pe so hp=>?_⟩
         rw[k3 ns' pe so]
         have s345:=(s3.trans s4).trans s5
         have hst4:=s5 _ _ (s4 _ _ hst3)
         have hrl4:=s5 _ _ (s4 _ _ hrl3)
         have hcl4:=s5 _ _ (s4 _ _ hcl3)
         have s6:ax H4 (upd H4 p (.lst (nats (Kh292.words s x)))):=aX hp
         have hpst:p≠st:=fun z=>by rw[z] at hp;rw[hp] at hst4;cases hst4
         have hprl:p≠rl:=fun z=>by rw[z] at hp;rw[hp] at hrl4;cases hrl4
         have hdst:d≠st:=oM hd4 hst4 (by intro z;cases z)
         have hdrl:d≠rl:=oM hd4 hrl4 (by intro z;cases z)
         have fdH:H d=none:=(s3.trans s4).free fd
         have L4:gK (Off [st,rl] (rN H H4)) rv ((l.take i).map fun x=>rk (Kh292.rowOf s c l x)):=L.same (Af fun b o _ e=>s5 _ _ (s4 _ _ e))
         have hlm:∀n,(Kt.Ct ((AW s c x).take n) (l.map Kt.maskOf)).length<1000:=fun n=>by
          have:=QE ((AW s c x).take n) (l.map Kt.maskOf)
          unfold AW at this
          rw[List.length_take,List.length_map,List.length_map] at this
          unfold AW
          omega
         refine ?loop1
         case loop1=>
          refine⟨_,rfl,⟨_,aM.of ae⟩,E9 (xs:=nats (Kh292.words s x)) (fun j σ H'=>∃(v7:Option V),σ=[some (.ref pl),some (.int c),some (.ref cl),some (.ref st),some (.ref rl),some (.int (Kt.maskOf x:Nat)),some (.ref d),v7]∧ax H H'∧H' cl=some (.lst (nats ((List.range s.places.length).map (Kt.gn s c))))∧H' p=some (.lst (nats (Kh292.words s x)))∧H' d=some (.dK kvs)∧H' st=some (.lst (nats (Kt.Ct ((AW s c x).take j) (l.map Kt.maskOf))))∧H' rl=some (.lst rv)∧gK (Off [st,rl] (rN H H')) rv ((l.take i).map fun x=>rk (Kh292.rowOf s c l x)))
           ⟨v7,rfl,s345.trans s6,s6 _ _ hcl4,ae,s6 _ _ hd4,s6 _ _ hst4,s6 _ _ hrl4,L4.same (Af fun b o _ e=>s6 _ _ e)⟩ (fun j σ H' ⟨_,_,_,_,h,_⟩=>aM.of h) ?_ ?_⟩
          ·rintro j v σ H5 hv ⟨v7,rfl,t1,tcl,tp,td,tst,trl,tL⟩
           obtain⟨w,hw,rfl⟩:=lA hv
           have hwm:w∈Kh292.words s x:=List.mem_of_getElem? hw
           have hg:=RE dm hW hn hxo hwm td
           have hbs:(AW s c x)[j]?=some (Kt.maskOf (Kh292.behind s c x w)):=by unfold AW;rw[List.getElem?_map,hw];rfl
           have hsn:=Oy ((AW s c x).take j) (Kt.maskOf (Kh292.behind s c x w)) (l.map Kt.maskOf)
           rw[←take_snoc hbs] at hsn
           try dsimp only[Of]
           refine⟨_,rfl,⟨_,rfl,⟨_,_,rfl,(hg),⟨_,rfl,⟨_,_,rfl,.inl (aM.of tst),rfl,(xk _),⟨_,rfl,(df (fun h=>⟨_,rfl,⟨ty_list (aM.of tst),⟨_,rfl,⟨_,rfl,⟨_,_,rfl,(hg),?Ja⟩⟩⟩⟩⟩) (fun h=>?NEXT7))⟩⟩⟩⟩⟩⟩
           case Ja=>
            have h:(!K3 (V.int ((Kt.maskOf (Kh292.behind s c x w):Nat):Int)) (nats (Kt.Ct ((AW s c x).take j) (l.map Kt.maskOf))))=true:=h
            rw[nT,Bool.not_eq_true'] at h
            rw[if_neg (by rw[h];decide)] at hsn
            have:=hlm j
            refine⟨_,_,_,rfl,rfl,tst,by rw[aE,sizeLine_eq];omega,?_⟩
            refine⟨_,rfl,?_,?_,?_,?_,?_,?_,?_⟩
            ·intro b o e
             rw[af (ao e fst)]
             exact t1 _ _ e
            ·rw[af hclst];exact tcl
            ·rw[af hpst];exact tp
            ·rw[af hdst];exact td
            ·rw[ae,hsn,lB];rfl
            ·rw[af hrs];exact trl
            ·exact tL.same (Af fun b o hb e=>by rw[af (fun z=>hb (by rw[z];simp))];exact e)
           case NEXT7=>
            have h:(!K3 (V.int ((Kt.maskOf (Kh292.behind s c x w):Nat):Int)) (nats (Kt.Ct ((AW s c x).take j) (l.map Kt.maskOf))))=false:=h
            rw[nT,Bool.not_eq_false'] at h
            rw[if_pos h] at hsn
            exact⟨_,rfl,t1,tcl,tp,td,by rw[hsn];exact tst,trl,tL⟩
          ·rintro σ H5 ⟨v7,rfl,t1,tcl,tp,td,tst,trl,tL⟩
           have hall:(AW s c x).take (nats (Kh292.words s x)).length=AW s c x:=by
            rw[aE]
            unfold AW
            rw[←List.length_map (f:=fun w=>Kt.maskOf (Kh292.behind s c x w)),List.take_length]
           rw[hall] at tst
           unfold AW at tst
           rw[Kt.Jd hn _ _ F1.ok] at tst
           try dsimp only[Of]
           refine⟨_,rfl,⟨_,_,rfl,.inl (aM.of tst),⟨_,_,rfl,rfl,⟨_,rfl,(aL (fun h=>?lst6) (fun h=>⟨_,rfl,⟨ty_list (aM.of trl),⟨_,rfl,⟨_,rfl,⟨_,rfl,⟨_,rfl,⟨_,rfl,?Gy⟩⟩⟩⟩⟩⟩⟩))⟩⟩⟩⟩
           case lst6=>
            rw[aE,List.length_map] at h
            have hu:=F1.many hx hfa (by omega) (by omega)
            exact⟨Nat.zero_le _,fun p hp=>bad (-75) H5 t1 (by rw[hu];rfl) (by rw[hu];rfl) p hp⟩
           case Gy=>
            rw[aE,List.length_map] at h
            have hm64:(Kt.eC s c x (Kh292.words s x) l).length≤64:=by omega
            have F2:=F1.next hx hfa (by omega) hm64
            have hbm:=Kt.zo (s:=s) (c:=c) (x:=x) (Kh292.words s x) l
            refine⟨x,_,_,_,_,_,_,_,_,rfl,t1 _ _ hpl,hP.same t1,hn,hxo,td,dm,h256,hW,h16,tst,F2.ok,hbm,fun Rw H6 fR s7 hR6=>?_⟩
            have trl6:=s7 _ _ trl
            refine⟨_,_,_,rfl,rfl,trl6,by rw[hri,sizeLine_eq];omega,?_⟩
            obtain⟨r,hr⟩:=Kt.uw (s:=s) (c:=c) (x:=x) (Kh292.words s x) l
            have hRst:Rw≠st:=fun z=>by rw[z] at fR;rw[fR] at tst;cases tst
            have hRrl:Rw≠rl:=fun z=>by rw[z] at fR;rw[fR] at trl;cases trl
            refine⟨Kt.eC s c x (Kh292.words s x) l,rv++[.ref Rw],_,_,_,rfl,?_,?_,?_,ae,F2,?_⟩
            ·intro b o e
             rw[af (ao e frl)]
             exact s7 _ _ (t1 _ _ e)
            ·rw[af hclrl];exact s7 _ _ tcl
            ·rw[af (Ne.symm hrs)];exact s7 _ _ tst
            ·have hx':(Kt.eC s c x (Kh292.words s x) l)[i]?=some x:=by rw[hr,List.getElem?_append_left hil];exact hx
             rw[take_snoc hx',List.map_append]
             have hold:((Kt.eC s c x (Kh292.words s x) l).take i).map (fun y=>rk (Kh292.rowOf s c (Kt.eC s c x (Kh292.words s x) l) y))=(l.take i).map fun y=>rk (Kh292.rowOf s c l y):=by
              rw[hr,List.take_append_of_le_length (by omega)]
              apply List.map_congr_left
              intro y hy
              obtain⟨j,hj⟩:=List.getElem?_of_mem hy
              rw[List.getElem?_take] at hj
              split at hj
              ·rename_i hji
               rw[Nt (F1.done j hji y hj)]
              ·cases hj
             rw[hold]
             refine gK.snoc (tL.same (Af fun b o hb e=>by rw[af (fun z=>hb (by rw[z];simp))];exact s7 _ _ e)) ?_
             refine aS.mpr ⟨by simp[hRst,hRrl],yY (t1.free fR) ?_⟩
             rw[af hRrl]
             exact hR6
     ·rw[aE,List.length_map,hri] at hge
      have hend:=F1.end_ (by omega)
      have hil:i=l.length:=by have:=F1.le;omega
      try dsimp only[Of]
      refine⟨_,rfl,?AV⟩
      case AV=>
       refine qz fun x dx H3 nx s4 hx=>?_
       refine kk _ _ (s3.trans s4) ⟨x,dx,rl,rv,rfl,yY (s3.free nx) (by rw[hend];exact hx),yY frl (s4 _ _ hrl3),?_⟩
       rw[hend]
       show gK _ rv (l.map fun x=>rk (Kh292.rowOf s c l x))
       rw[hil,List.take_length] at L
       exact L.same fun b o e=>(rN.mono s4) _ _ (jo _ _ e)
end
section
theorem IW (f:Kh292.Found):Kt.bad f=true↔¬Nv f=0:=by
 cases f with
 | states l=>exact⟨fun h=>(nomatch h),fun h=>absurd rfl h⟩
 | unclear w=>exact⟨fun _ h=>(nomatch h),fun _=>rfl⟩
 | many=>exact⟨fun _ h=>(nomatch h),fun _=>rfl⟩
theorem PF {f:Kh292.Found} (h:Nv f=0):∃l,f=.states l:=by
 cases f with
 | states l=>exact⟨l,rfl⟩
 | unclear w=>exact nomatch h
 | many=>exact nomatch h
theorem Lr {α:Type} {R:α→Nat→Prop} {xs:List α} {x:α} {i:Nat} (h:dg R xs (List.range i)) (g:R x i):dg R (xs++[x]) (List.range (i+1)):=by
 rw[List.range_succ]
 exact h.snoc g
noncomputable def C0 (K:PySem.W.Frag) (A:Ad):Sp:=fun vs0 H Q _=>∃(pl:Addr) (vs:List V) (s:Kh292.Script) (nw:Nat),vs0=[.ref pl,.int (s.p:Nat)]∧(H pl=some (.lst vs))∧(gJ A H vs s.places)∧(s.places.length≤32)∧(0<s.places.length)∧(∀y∈s.places,Kt.FK s.p nw y)∧(nw≤64)∧(Kt.iS s)∧(1≤s.p∧s.p≤8)∧(∀(D:Addr) (pv:List V) (k:Nat) (H':Hp),H D=none→ax H H'→rN H H' D=some (.lst pv)→dg (fun v c=>uz A s c (rN H H') v) pv (List.range (k+1))→k<s.p→(∀j,j<k→∃l,Kh292.statesOf s j=.states l)→(k+1<s.p→Kt.bad (Kh292.statesOf s k)=true)→Q (.ref D) H')
theorem Dd {P:Program} {w:World} {K:PySem.W.Frag} {mg:Str→Option Value} {base:Heap} {A:Ad} (T:Txt K mg A):bz P w K mg base gw 6 A.gC A.gG ["places","parties"] (C0 K A):=by
 refine T.rE.ok oa (fun vs H Q E h=>?_) (fun cdv Ar outer sh H vs Q E hr h=>?_)
 ·obtain⟨_,_,_,_,rfl,_⟩:=h
  rfl
 ·obtain⟨pl,vs,s,nw,rfl,hpl,hP,hn,hn0,hOk,hnw,hW,hp1,kk⟩:=h
  have hu:=aY hr
  have hu64:=hr.units
  refine⟨_,(ab (bb (i:=2) oa.nd rfl (Or.inl rfl) (bB ah))
   (ab (oq PassesOwn.never rfl (GX rfl T.A4 (aa (pv 1) ah)) (bC (i:=3) oa.nd rfl (Or.inl rfl) (Or.inl rfl)) (ab (cy (g6 PySem.F.plainAttrs_list PySem.F.slot_list_append PySem.F.type_list_append bR (pv 2) (aa (aW (LB T) (hr.mono (by decide)) rfl T.wZ T.E8.kp T.Kz .nil aK (aa (pv 0) (aa (pv 3) ah))) ah)))
   (ag (aT (aA CC (ak (bw aN (pv 2) (Sh OP aH) (fun _ _=>rfl)) rfl) aH (aI _)) (ag Pr) ay))))
   (ag (aq (pv 2))))),?_⟩
  try dsimp only[Of]
  refine ?lst2
  case lst2=>
   refine⟨Nat.zero_le _,fun D hD=>?_⟩
   refine⟨_,rfl,?loop0⟩
   case loop0=>
    refine⟨_,rfl,by omega,by omega,?_⟩
    rw[Int.toNat_natCast]
    refine AG (J:=Sr 0 s.p) (n:=s.p) (fun i σ H'=>∃(v3:Option V) (pv:List V),σ=[some (.ref pl),some (.int (s.p:Nat)),some (.ref D),v3]∧ax H H'∧H' D=some (.lst pv)∧dg (fun v c=>uz A s c (Off [D] (rN H H')) v) pv (List.range i)∧∀j,j<i→∃l,Kh292.statesOf s j=.states l)
     ⟨none,[],rfl,aX hD,ae,dg.nil,fun j hj=>absurd hj (Nat.not_lt_zero _)⟩ (fun σ H' _=>Nat.le_refl _) (fun i σ H' hi _=>hi) ?_ ?_
    ·rintro i xv σ H1 H1' hi ⟨v3,pv,rfl,s1,hD1,L,st⟩ ⟨e1,e2⟩
     subst e1 e2
     have hpvl:pv.length=i:=by rw[L.1,List.length_range]
     try dsimp only[Of]
     refine⟨_,rfl,⟨ty_list (aM.of hD1),⟨_,rfl,⟨_,rfl,?Fs⟩⟩⟩⟩
     case Fs=>
      refine⟨pl,vs,s,i,nw,by rw[Int.zero_add];rfl,s1 _ _ hpl,hP.same s1,hn,hn0,hOk,hnw,hW,fun v H2 s2 pa=>?_⟩
      have hD2:=s2 _ _ hD1
      refine⟨_,_,_,rfl,rfl,hD2,by rw[hpvl,sizeLine_eq];omega,?_⟩
      obtain⟨x,dx,rl,rv,rfl,hx,hrl,hL⟩:=pa
      have hxD:x≠D:=fun z=>by rw[z] at hx;rw[(cQ.mp hx).1] at hD1;cases hD1
      have hx3:upd H2 D (.lst (pv++[.ref x])) x=some (.ins A.fo dx (iI (.int (Nv (Kh292.statesOf s i))) (.ref rl))):=by rw[af hxD];exact (cQ.mp hx).2
      have s3:ax H (upd H2 D (.lst (pv++[.ref x]))):=fun b o e=>by
       rw[af (ao e hD)]
       exact s2 _ _ (s1 _ _ e)
      have nn:ax (rN H1' H2) (Off [D] (rN H (upd H2 D (.lst (pv++[.ref x]))))):=fun b o e=>by
       obtain⟨e1,e2⟩:=cQ.mp e
       have hbD:b≠D:=fun z=>by rw[z] at e1;rw[e1] at hD1;cases hD1
       refine aS.mpr ⟨by simp[hbD],cQ.mpr ⟨s1.free e1,?_⟩⟩
       rw[af hbD]
       exact e2
      have L3:dg (fun v c=>uz A s c (Off [D] (rN H (upd H2 D (.lst (pv++[.ref x]))))) v) (pv++[.ref x]) (List.range (i+1)):=by
       refine Lr (L.mono fun v c h=>h.same (Af fun b o hb e=>?_)) ⟨x,dx,rl,rv,rfl,nn _ _ hx,nn _ _ hrl,hL.same nn⟩
       rw[af (fun z=>hb (by rw[z];simp))]
       exact s2 _ _ e
      refine⟨_,rfl,⟨_,rfl,⟨_,_,_,_,rfl,rfl,(aM.of ae),(KS pv (.ref x)),⟨_,_,_,_,_,rfl,by assumption,T.fo,T.gA,uV,(yc ⟨_,rfl,(mz (fun h=>?brk0) (fun h=>?NEXT1))⟩)⟩⟩⟩⟩
      case brk0=>
       refine⟨_,rfl,?r5⟩
       case r5=>
        exact kk D _ i _ hD s3 (yY hD ae) (L3.mono fun v c h=>h.same jo) hi st (fun _=>(IW _).mpr h)
      case NEXT1=>
       refine⟨_,_,rfl,s3,ae,L3,fun j hj=>?_⟩
       by_cases hji:j=i
       ·rw[hji];exact PF h
       ·exact st j (by omega)
    ·rintro σ H1 ⟨v3,pv,rfl,s1,hD1,L,st⟩
     try dsimp only[Of]
     refine⟨_,rfl,?r5⟩
     case r5=>
      refine kk D pv (s.p - 1) H1 hD s1 (yY hD hD1) ?_ (by omega) (fun j hj=>st j (by omega)) (fun h=>by omega)
      rw[show s.p - 1+1=s.p by omega]
      exact L.mono fun v c h=>h.same jo
end
section
open Kh317 (Abs)
structure SA where
 dx :Addr
 ua :Addr
 yy :Addr
 wl :Addr
 Be :Addr
 tI :Addr
 wv :List V
 pv :List V
 qv :List V
 GK :List Addr
noncomputable def SA.M (z:SA):List Addr:=z.wl::z.Be::z.tI::z.GK
structure U4 (A:Ad) (H F:Hp) (v:V) (wa:Addr) (p:Kh292.Place):Prop where
 ex :∃pa pdx ws,v=.ref pa∧F pa=some (.ins A.bh pdx (cP (.int p.from_) (.int p.to_) (.ref wa)))∧H wa=some (.lst ws)∧dg (uW A F) ws p.ways
structure fB (A:Ad) (H F:Hp) (sa:Addr) (z:SA) (a:Abs):Prop where
 j9 :F sa=some (.ins A.au z.dx (bj (.int a.p) (.ref z.ua) (.int a.e) (.ref z.wl) (.ref z.Be) (.ref z.tI)))
 un :F z.ua=some (.ins A.bg z.yy (bL (.int a.lo) (.int a.hi)))
 wl :H z.wl=some (.lst z.wv)
 ON :gK F z.wv a.words
 Be :H z.Be=some (.lst z.pv)
 NG :gK F z.pv (a.words.map Kh316.pattern)
 tI :H z.tI=some (.lst z.qv)
 ql :z.qv.length=a.places.length
 OB :z.GK.length=a.places.length
 Rf :∀(i:Nat) (v:V) (wa:Addr) (p:Kh292.Place),z.qv[i]?=some v→z.GK[i]?=some wa→a.places[i]?=some p→U4 A H F v wa p
theorem U4.move {A:Ad} {H H' F F':Hp} {v:V} {wa:Addr} {p:Kh292.Place} (h:U4 A H F v wa p) (s:ax F F') (e:∀o,H wa=some o→H' wa=some o):U4 A H' F' v wa p:=by
 obtain⟨pa,pdx,ws,e1,h1,h2,h3⟩:=h.ex
 exact⟨pa,pdx,ws,e1,s _ _ h1,e _ h2,h3.mono fun _ _ h=>h.same s⟩
theorem fB.move {A:Ad} {H H' F F':Hp} {sa:Addr} {z:SA} {a:Abs} (r:fB A H F sa z a) (s:ax F F') (e:∀m∈z.M,∀o,H m=some o→H' m=some o):fB A H' F' sa z a where
 j9:=s _ _ r.j9
 un:=s _ _ r.un
 wl:=e _ (by simp[SA.M]) _ r.wl
 ON:=r.ON.same s
 Be:=e _ (by simp[SA.M]) _ r.Be
 NG:=r.NG.same s
 tI:=e _ (by simp[SA.M]) _ r.tI
 ql:=r.ql
 OB:=r.OB
 Rf:=fun i v wa p h1 h2 h3=>(r.Rf i v wa p h1 h2 h3).move s (e _ (by have:=List.mem_of_getElem? h2;simp[SA.M,this]))
theorem fB.places {A:Ad} {H F:Hp} {sa:Addr} {z:SA} {a:Abs} (r:fB A H F sa z a) (s:ax F H):gJ A H z.qv a.places:=⟨r.ql,fun i v p h1 h2=>by
 have hi:=si h2
 have e:z.GK[i]?=some (z.GK[i]'(by rw[r.OB];exact hi)):=List.getElem?_eq_getElem _
 obtain⟨pa,pdx,ws,e1,q1,q2,q3⟩:=(r.Rf i v _ p h1 e h2).ex
 exact⟨pa,pdx,_,ws,e1,s _ _ q1,q2,q3.mono fun _ _ h=>h.same s⟩⟩
structure cV (A:Ad) (X:List Addr) (H:Hp) (sa:Addr) (z:SA) (a:Abs):Prop where
 r :fB A H (Off (z.M++X) H) sa z a
 nd :z.M.Nodup
 live :∀x∈X,∃o,H x=some o
 apart :∀x∈X,x∉z.M
 told :Kt.Told a
noncomputable def KZ (M:List Addr) (H H':Hp):Prop:=∀b o,H b=some o→b∉M→H' b=some o
theorem KZ.of_same {M:List Addr} {H H':Hp} (s:ax H H'):KZ M H H':=fun b o e _=>s b o e
theorem UY {M:List Addr} {H H':Hp} (h:KZ M H H'):ax (Off M H) (Off M H'):=cO fun b o hb e=>h b o e hb
theorem Uk {M X:List Addr} {H:Hp}:ax (Off (M++X) H) (Off M H):=fun b o e=>aS.mpr ⟨fun h=>(aS.mp e).1 (List.mem_append_left _ h),(aS.mp e).2⟩
theorem cV.same {A:Ad} {X:List Addr} {H H':Hp} {sa:Addr} {z:SA} {a:Abs} (r:cV A X H sa z a) (s:ax H H'):cV A X H' sa z a:=
 ⟨r.r.move (cO fun b o _ e=>s b o e) fun m _ o e=>s m o e,r.nd,fun x hx=>by obtain⟨o,e⟩:=r.live x hx;exact⟨o,s _ _ e⟩,r.apart,r.told⟩
theorem cV.y3 {A:Ad} {X:List Addr} {H:Hp} {sa:Addr} {z:SA} {a:Abs} (r:cV A X H sa z a):H sa=some (.ins A.au z.dx (bj (.int a.p) (.ref z.ua) (.int a.e) (.ref z.wl) (.ref z.Be) (.ref z.tI))):=(aS.mp r.r.j9).2
theorem sq {M X:List Addr} {H:Hp} {b:Addr} (hM:∀m∈M,∃o,H m=some o) (hX:∀x∈X,∃o,H x=some o) (h:H b=none):b∉M++X:=fun hb=>by
 rcases List.mem_append.mp hb with hb | hb
 ·obtain⟨o,e⟩:=hM b hb;rw[e] at h;cases h
 ·obtain⟨o,e⟩:=hX b hb;rw[e] at h;cases h
theorem fB.J5 {A:Ad} {H F:Hp} {sa:Addr} {z:SA} {a:Abs} (r:fB A H F sa z a):∀m∈z.M,∃o,H m=some o:=fun m hm=>by
 rcases List.mem_cons.mp hm with rfl | hm
 ·exact⟨_,r.wl⟩
 rcases List.mem_cons.mp hm with rfl | hm
 ·exact⟨_,r.Be⟩
 rcases List.mem_cons.mp hm with rfl | hm
 ·exact⟨_,r.tI⟩
 obtain⟨i,hi⟩:=List.getElem?_of_mem hm
 have hl:=si hi
 rw[r.OB] at hl
 have e1:a.places[i]?=some a.places[i]:=List.getElem?_eq_getElem hl
 have e2:z.qv[i]?=some (z.qv[i]'(by rw[r.ql];exact hl)):=List.getElem?_eq_getElem _
 obtain⟨pa,pdx,ws,_,_,q,_⟩:=(r.Rf i _ m _ e2 hi e1).ex
 exact⟨_,q⟩
noncomputable def xX (K:PySem.W.Frag) (A:Ad):Sp:=fun vs0 H Q _=>∃(x dx:Addr) (sp he:V),vs0=[.ref x,sp,he]∧(H x=some (.ins A.bh dx []))∧(∀(l:Addr) (H':Hp),H l=none→H' x=some (.ins A.bh dx (cP sp he (.ref l)))→H' l=some (.lst [])→rM x H H'→Q .dh H')
theorem Gj {P:Program} {w:World} {K:PySem.W.Frag} {mg:Str→Option Value} {base:Heap} {A:Ad} (T:Txt K mg A):bz P w K mg base gw 1 A.jG A.jP ["self","speaker","hearer"] (xX K A):=by
 refine T.CO.ok Gd (fun vs H Q E h=>?_) (fun cdv Ar outer sh H vs Q E hr h=>?_)
 ·obtain⟨_,_,_,_,rfl,_⟩:=h
  rfl
 ·obtain⟨x,dx,sp,he,rfl,h1,kk⟩:=h
  have hu:=aY hr
  have hu64:=hr.units
  refine⟨_,(ab (bA (pv 0) (pv 1) rfl)
   (ab (bA (pv 0) (pv 2) rfl)
   (ag (bA (pv 0) (bB ah) rfl)))),?_⟩
  try dsimp only[Of]
  refine⟨_,rfl,⟨_,rfl,?xA⟩⟩
  case xA=>
   refine⟨_,_,_,_,rfl,h1,T.bh,T.bq,eu len0 (by decide),?_⟩
   refine⟨_,rfl,⟨_,rfl,?yI⟩⟩
   case yI=>
    refine⟨_,_,_,_,rfl,ae,T.bh,T.cT,eu (dM len0) (by decide),?_⟩
    refine⟨Nat.zero_le _,fun l hl=>?_⟩
    have nlx:l≠x:=fun e=>by subst e;rw[ae] at hl;cases hl
    refine⟨_,rfl,?Bt⟩
    case Bt=>
     refine⟨_,_,_,_,rfl,aX hl _ _ ae,T.bh,T.cB,eu (dM (dM len0)) (by decide),?_⟩
     refine kk l _ (by rw[af nlx,af nlx] at hl;exact hl) ae ?_ fun b o e hb=>?_
     ·rw[af nlx,ae]
     ·rw[af hb,af (fun z=>by rw[z] at e;rw[af nlx,af nlx] at hl;rw[hl] at e;cases e),af hb,af hb]
      exact e
theorem Aj {K:PySem.W.Frag} {A:Ad} {H:Hp} {R:Addr→Hp→Prop} {E:XK} {sp he:V} (k:∀(x dx l:Addr) (H':Hp),H x=none→H l=none→x≠l→ax H H'→H' x=some (.ins A.bh dx (cP sp he (.ref l)))→H' l=some (.lst [])→R x H') :
  ∀x dx,H x=none→H dx=none→dx≠x→xX K A (.ref x::([sp,he]:List V)) (upd (upd H dx (.own x)) x (.ins A.bh dx [])) (fun v H2=>v=.dh∧R x H2) E:=fun x dx hx hdx nd=>
 ⟨x,dx,sp,he,rfl,ae,fun l H' hl h1 h2 b=>⟨rfl,by
  have nlx:l≠x:=fun e=>by subst e;rw[ae] at hl;cases hl
  have nld:l≠dx:=fun e=>by subst e;rw[af nd,ae] at hl;cases hl
  refine k x dx l H' hx (by rw[af nlx,af nld] at hl;exact hl) (Ne.symm nlx) (fun c u e=>b c u (by rw[af (ao e hx),af (ao e hdx)];exact e) (ao e hx)) h1 h2⟩⟩
noncomputable def vo (K:PySem.W.Frag) (A:Ad):Sp:=fun vs0 H Q _=>∃(x dx:Addr) (p lo hi e:V),vs0=[.ref x,p,lo,hi,e]∧(H x=some (.ins A.au dx []))∧(∀(u yy l1 l2 l3:Addr) (H':Hp),H u=none→H l1=none→H l2=none→H l3=none→l1≠l2→l1≠l3→l2≠l3→u≠l1→u≠l2→u≠l3→H' x=some (.ins A.au dx (bj p (.ref u) e (.ref l1) (.ref l2) (.ref l3)))→H' u=some (.ins A.bg yy (bL lo hi))→H' l1=some (.lst [])→H' l2=some (.lst [])→H' l3=some (.lst [])→rM x H H'→Q .dh H')
theorem EH {P:Program} {w:World} {K:PySem.W.Frag} {mg:Str→Option Value} {base:Heap} {A:Ad} (T:Txt K mg A):bz P w K mg base gw 3 A.iq A.iE ["self","parties","lo","hi","slack"] (vo K A):=by
 refine T.AJ.ok Ej (fun vs H Q E h=>?_) (fun cdv Ar outer sh H vs Q E hr h=>?_)
 ·obtain⟨_,_,_,_,_,_,rfl,_⟩:=h
  rfl
 ·obtain⟨x,dx,p,lo,hi,e,rfl,h1,kk⟩:=h
  have hu:=aY hr
  have hu64:=hr.units
  refine⟨_,(ab (bA (pv 0) (pv 1) rfl)
   (ab (bA (pv 0) (iO T.j4 (nj T) (hr.mono (by decide)) rfl T.Au T.nX .nil aK (aa (pv 2) (aa (pv 3) ah))) rfl)
   (ab (bA (pv 0) (pv 4) rfl)
   (ab (bA (pv 0) (bB ah) rfl)
   (ab (bA (pv 0) (bB ah) rfl)
   (ag (bA (pv 0) (bB ah) rfl))))))),?_⟩
  try dsimp only[Of]
  refine⟨_,rfl,⟨_,rfl,?vq⟩⟩
  case vq=>
   refine⟨_,_,_,_,rfl,h1,T.au,T.aO,eu len0 (by decide),?_⟩
   have b1:=gd (H:=H) (p:=x) (o:=.ins A.au dx (aF "parties" p []))
   have x1:upd H x (.ins A.au dx (aF "parties" p [])) x=some (.ins A.au dx (aF "parties" p [])):=ae
   generalize upd H x (.ins A.au dx (aF "parties" p []))=H1 at *
   refine⟨_,rfl,⟨_,rfl,?AQ⟩⟩
   case AQ=>
    refine j4 fun u yy H2 nu s2 hu2=>?_
    have x2:=s2 _ _ x1
    have nux:u≠x:=fun z=>by rw[z] at nu;rw[nu] at x1;cases x1
    have fu:H u=none:=by
     cases q:H u with
     | none=>rfl
     | some o=>have:=b1 u o q nux;rw[nu] at this;cases this
    refine⟨_,rfl,?yG⟩
    case yG=>
     refine⟨_,_,_,_,rfl,x2,T.au,T.ja,eu (dM len0) (by decide),?_⟩
     refine⟨_,rfl,⟨_,rfl,?yH⟩⟩
     case yH=>
      refine⟨_,_,_,_,rfl,ae,T.au,T.gz,eu (dM (dM len0)) (by decide),?_⟩
      refine⟨Nat.zero_le _,fun l1 hl1=>?_⟩
      have n1x:l1≠x:=fun z=>by rw[z,ae] at hl1;cases hl1
      have hl1':H2 l1=none:=by rw[af n1x,af n1x] at hl1;exact hl1
      refine⟨_,rfl,?yF⟩
      case yF=>
       refine⟨_,_,_,_,rfl,aX hl1 _ _ ae,T.au,T.br,eu (dM (dM (dM len0))) (by decide),?_⟩
       refine⟨Nat.zero_le _,fun l2 hl2=>?_⟩
       have n2x:l2≠x:=fun z=>by rw[z,ae] at hl2;cases hl2
       have n21:l2≠l1:=fun z=>by rw[z,af n1x,ae] at hl2;cases hl2
       have hl2':H2 l2=none:=by rw[af n2x,af n21,af n2x,af n2x] at hl2;exact hl2
       refine⟨_,rfl,?u0⟩
       case u0=>
        refine⟨_,_,_,_,rfl,aX hl2 _ _ ae,T.au,T.bV,eu (dM (dM (dM (dM len0)))) (by decide),?_⟩
        refine⟨Nat.zero_le _,fun l3 hl3=>?_⟩
        have n3x:l3≠x:=fun z=>by rw[z,ae] at hl3;cases hl3
        have n32:l3≠l2:=fun z=>by rw[z,af n2x,ae] at hl3;cases hl3
        have n31:l3≠l1:=fun z=>by rw[z,af n1x,af (Ne.symm n21),af n1x,ae] at hl3;cases hl3
        have hl3':H2 l3=none:=by rw[af n3x,af n32,af n3x,af n31,af n3x,af n3x] at hl3;exact hl3
        refine⟨_,rfl,?xy⟩
        case xy=>
         refine⟨_,_,_,_,rfl,aX hl3 _ _ ae,T.au,T.aR,eu (dM (dM (dM (dM (dM len0))))) (by decide),?_⟩
         have un1:u≠l1:=fun z=>by rw[z] at hu2;rw[hu2] at hl1';cases hl1'
         have un2:u≠l2:=fun z=>by rw[z] at hu2;rw[hu2] at hl2';cases hl2'
         have un3:u≠l3:=fun z=>by rw[z] at hu2;rw[hu2] at hl3';cases hl3'
         have fr:∀l,l≠x→H2 l=none→H l=none:=fun l nlx hl=>by
          cases q:H l with
          | none=>rfl
          | some o=>have:=s2 _ _ (b1 l o q nlx);rw[hl] at this;cases this
         refine kk u yy l1 l2 l3 _ fu (fr l1 n1x hl1') (fr l2 n2x hl2') (fr l3 n3x hl3') (Ne.symm n21) (Ne.symm n31) (Ne.symm n32) un1 un2 un3 ae ?_ ?_ ?_ ?_ fun b o e hb=>?_
         ·rw[af nux,af un3,af nux,af un2,af nux,af un1,af nux,af nux]
          exact hu2
         ·rw[af n1x,af (Ne.symm n31),af n1x,af (Ne.symm n21),af n1x,ae]
         ·rw[af n2x,af (Ne.symm n32),af n2x,ae]
         ·rw[af n3x,ae]
         ·have e2:=s2 _ _ (b1 b o e hb)
          rw[af hb,af (ao e2 hl3'),af hb,af (ao e2 hl2'),af hb,af (ao e2 hl1'),af hb,af hb]
          exact e2
end
section
open Kh317 (Abs)
theorem M9 {a:Abs} (h:Kt.Told a) {t:List Nat} (hw:Kh316.okWord t=true) (hl:a.words.length<64):Kt.Told { a with words:=a.words++[t] }:=
 ⟨h.p2,h.p8,h.lo1,h.Gn,h.hi,h.e,by show (a.words++[t]).length≤64;rw[List.length_append,List.length_singleton];omega,fun u hu=>by
  rcases List.mem_append.mp hu with hu | hu
  ·exact h.OC u hu
  ·rw[List.mem_singleton.mp hu];exact hw,h.NT,fun x hx=>(h.pl x hx).more (by show a.words.length≤(a.words++[t]).length;rw[List.length_append];omega)⟩
theorem La {a:Abs} (h:Kt.Told a) {x y:Nat} (hx:x<a.p) (hy:y<a.p) (hne:x≠y) (hl:a.places.length<32):Kt.Told { a with places:=a.places++[⟨x,y,[]⟩] }:=
 ⟨h.p2,h.p8,h.lo1,h.Gn,h.hi,h.e,h.QM,h.OC,by show (a.places++[_]).length≤32;rw[List.length_append,List.length_singleton];omega,fun u hu=>by
  rcases List.mem_append.mp hu with hu | hu
  ·exact h.pl u hu
  ·rw[List.mem_singleton.mp hu]
   exact⟨hx,hy,hne,Nat.zero_le _,List.nodup_nil,fun w hw=>(nomatch hw),fun w hw=>(nomatch hw)⟩⟩
theorem OS {a:Abs} (h:Kt.Told a) {q w:Nat} {n:Option Nat} {x:Kh292.Place} (hx:a.places[q]?=some x) (hw:w<a.words.length) (hn:∀k,n=some k→k≤31) (hnew:w∉x.ways.map Prod.fst) (h4:x.ways.length<4):Kt.Told { a with places:=a.places.set q { x with ways:=x.ways++[(w,n)] } }:=by
 have hp:=h.pl x (List.mem_of_getElem? hx)
 refine⟨h.p2,h.p8,h.lo1,h.Gn,h.hi,h.e,h.QM,h.OC,by show (a.places.set q _).length≤32;rw[List.length_set];exact h.NT,fun u hu=>?_⟩
 rcases List.mem_or_eq_of_mem_set hu with hu | hu
 ·exact h.pl u hu
 ·rw[hu]
  refine⟨hp.from_,hp.to_,hp.ne,by show (x.ways++[(w,n)]).length≤4;rw[List.length_append,List.length_singleton];omega,?_,fun v hv=>?_,fun v hv=>?_⟩
  ·show ((x.ways++[(w,n)]).map Prod.fst).Nodup
   rw[List.map_append]
   exact DD hp.nd hnew
  ·rcases List.mem_append.mp hv with hv | hv
   ·exact hp.word v hv
   ·rw[List.mem_singleton.mp hv];exact hw
  ·rcases List.mem_append.mp hv with hv | hv
   ·exact hp.next v hv
   ·rw[List.mem_singleton.mp hv];exact hn
theorem Ta {t:List Nat} (h:Kh316.okWord t=true):∀x∈t,Kt.Jg x:=(Kt.pN.mp h).2.2
theorem cV.VO {A:Ad} {X:List Addr} {H:Hp} {sa:Addr} {z:SA} {a:Abs} (r:cV A X H sa z a):gK H z.wv a.words∧gK H z.pv (a.words.map Kh316.pattern):=⟨r.r.ON.same jo,r.r.NG.same jo⟩
theorem Vk {z:SA} (h:z.M.Nodup):z.wl≠z.Be∧z.wl≠z.tI∧z.Be≠z.tI∧z.wl∉z.GK∧z.Be∉z.GK∧z.tI∉z.GK∧z.GK.Nodup:=by
 unfold SA.M at h
 simp only[List.nodup_cons,List.mem_cons,not_or] at h
 exact⟨h.1.1,h.1.2.1,h.2.1.1,h.1.2.2,h.2.1.2,h.2.2.1,h.2.2.2⟩
noncomputable def xx (K:PySem.W.Frag) (A:Ad):Sp:=fun vs0 H Q _=>∃(sa la:Addr) (X:List Addr) (z:SA) (a:Abs) (t:List Nat),vs0=[.ref sa,.ref la]∧(cV A X H sa z a)∧(Off (z.M++X) H la=some (.lst (nats t)))∧(∀(z':SA) (H':Hp),cV A X H' sa z' (Kh317.told a (.word (some t))).1→KZ z.M H H'→Q (.int (Kh317.told a (.word (some t))).2.value) H')
theorem xH {P:Program} {w:World} {K:PySem.W.Frag} {mg:Str→Option Value} {base:Heap} {A:Ad} (T:Txt K mg A):bz P w K mg base gw 5 A.dw A.dC ["self","letters"] (xx K A):=by
 refine T.qP.ok xC (fun vs H Q E h=>?_) (fun cdv Ar outer sh H vs Q E hr h=>?_)
 ·obtain⟨_,_,_,_,_,_,rfl,_⟩:=h
  rfl
 ·obtain⟨sa,la,X,z,a,t,rfl,hS,hla,kk⟩:=h
  have hu:=aY hr
  have hu64:=hr.units
  refine⟨_,(ab (aT (jU (ly (aW (LC T) (hr.mono (by decide)) rfl T.w8 T.Fd.kp T.KG .nil aK (aa (pv 1) ah)))) (ag (aq (aw rfl T.fA))) ay)
   (ab (aT (aA (JO hu64) (pv 1) (ak (pv 0) rfl) (by with_unfolding_all rfl)) (ag (aq (g6 PySem.F.plainAttrs_list PySem.F.slot_list_index PySem.F.type_list_index (EM hu64) (ak (pv 0) rfl) (aa (pv 1) ah)))) ay)
   (ab (aT (aA cg (aD aB (by rfl) T.cw PySem.boot_len (aa (ak (pv 0) rfl) ah)) (aw rfl T.lN) (aI _)) (ag (aq (aw rfl T.t4))) ay)
   (ab (cy (g6 PySem.F.plainAttrs_list PySem.F.slot_list_append PySem.F.type_list_append bR (ak (pv 0) rfl) (aa (pv 1) ah)))
   (ab (cy (g6 PySem.F.plainAttrs_list PySem.F.slot_list_append PySem.F.type_list_append bR (ak (pv 0) rfl) (aa (aW (Dc T) (hr.mono (by decide)) rfl T.lG T.rD.kp T.yo .nil aK (aa (pv 1) ah)) ah)))
   (ag (aq (bX tJ (aD aB (by rfl) T.cw PySem.boot_len (aa (ak (pv 0) rfl) ah)) aH)))))))),?_⟩
  try dsimp only[Of]
  refine⟨_,rfl,?Ft⟩
  case Ft=>
   refine⟨la,t,rfl,(aS.mp hla).2,fun H1 s1=>?_⟩
   have hS1:=hS.same s1
   have hla1:Off (z.M++X) H1 la=some (.lst (nats t)):=(cO fun b o _ e=>s1 b o e) _ _ hla
   have hsa:=hS1.y3
   obtain⟨L1,L2⟩:=hS1.VO
   have hwl:=hS1.r.wl
   have hptl:=hS1.r.Be
   have hwvl:z.wv.length=a.words.length:=L1.1
   have hpvl:z.pv.length=a.words.length:=by rw[L2.1,List.length_map]
   have hw64:=hS.told.QM
   obtain⟨d1,d2,d3,d4,d5,d6,d7⟩:=Vk hS.nd
   refine⟨_,rfl,(ez (fun h=>?r0) (fun h=>⟨_,rfl,⟨_,rfl,⟨_,_,_,_,_,rfl,by assumption,T.au,T.br,bF,?in4⟩⟩⟩))⟩
   case r0=>
    have e:Kh317.told a (.word (some t))=(a,Kh317.say (-22)):=by
     show (if !Kh316.okWord t then _ else _)=_
     rw[h];rfl
    rw[e] at kk
    exact kk z H1 hS1 (KZ.of_same s1)
   case in4=>
    have hw:Kh316.okWord t=true:=h
    refine⟨la,z.wl,t,z.wv,a.words,rfl,rfl,(aS.mp hla1).2,hwl,L1,?_⟩
    refine⟨_,rfl,(df (fun h=>⟨_,rfl,⟨_,_,_,_,_,rfl,by assumption,T.au,T.br,bF,⟨ty_list (aM.of hwl),⟨_,rfl,?index0⟩⟩⟩⟩) (fun h=>⟨_,rfl,⟨_,_,_,_,_,rfl,by assumption,T.au,T.br,bF,⟨_,_,rfl,.inl (aM.of hwl),(bJ ⟨_,rfl,(aL (fun h=>?r3) (fun h=>⟨_,rfl,⟨_,_,_,_,_,rfl,by assumption,T.au,T.br,bF,⟨ty_list (aM.of hwl),⟨_,rfl,?RQ⟩⟩⟩⟩))⟩)⟩⟩⟩))⟩
    case index0=>
     have e:Kh317.told a (.word (some t))=(a,Kh317.say (a.words.idxOf t:Nat)):=by
      show (if !Kh316.okWord t then _ else if a.words.contains t then _ else _)=_
      rw[hw,h];rfl
     rw[e] at kk
     exact⟨la,z.wl,t,z.wv,a.words,rfl,rfl,(aS.mp hla1).2,hwl,L1,List.contains_iff_mem.mp h,kk z H1 hS1 (KZ.of_same s1)⟩
    case r3=>
     have hc:=‹a.words.contains t=false›
     rw[hwvl] at h
     have e:Kh317.told a (.word (some t))=(a,Kh317.say (-28)):=by
      show (if !Kh316.okWord t then _ else if a.words.contains t then _ else if 64≤a.words.length then _ else _)=_
      rw[hw,hc,if_neg (by decide),if_neg (by decide),if_pos (by omega)]
     rw[e] at kk
     exact kk z H1 hS1 (KZ.of_same s1)
    case RQ=>
     have hc:=‹a.words.contains t=false›
     rw[hwvl] at h
     have hlt:a.words.length<64:=by omega
     have e:Kh317.told a (.word (some t))=({ a with words:=a.words++[t] },Kh317.say (a.words.length:Nat)):=by
      show (if !Kh316.okWord t then _ else if a.words.contains t then _ else if 64≤a.words.length then _ else _)=_
      rw[hw,hc,if_neg (by decide),if_neg (by decide),if_neg (by omega)]
     rw[e] at kk
     refine⟨_,_,_,rfl,rfl,hwl,by rw[hwvl,sizeLine_eq];omega,?_⟩
     have c1:rM z.wl H1 (upd H1 z.wl (.lst (z.wv++[.ref la]))):=gd
     have w2:upd H1 z.wl (.lst (z.wv++[.ref la])) z.wl=some (.lst (z.wv++[.ref la])):=ae
     generalize upd H1 z.wl (.lst (z.wv++[.ref la]))=H2 at *
     have hlaM:=(aS.mp hla1).1
     have nlw:la≠z.wl:=fun z1=>hlaM (by rw[z1];simp[SA.M])
     have nsw:sa≠z.wl:=oM hsa hwl (by intro z;cases z)
     have hsa2:=c1 _ _ hsa nsw
     have hptl2:=c1 _ _ hptl (Ne.symm d1)
     refine⟨_,rfl,⟨_,_,_,_,_,rfl,by assumption,T.au,T.bV,ft,⟨ty_list (aM.of hptl2),⟨_,rfl,?xM⟩⟩⟩⟩
     case xM=>
      refine⟨la,t,rfl,c1 _ _ (aS.mp hla1).2 nlw,Ta hw,by have:=(Kt.pN.mp hw).2.1;omega,fun pp H3 fpp s3 hpp=>?_⟩
      have hptl3:=s3 _ _ hptl2
      refine⟨_,_,_,rfl,rfl,hptl3,by rw[hpvl,sizeLine_eq];omega,?_⟩
      have c2:rM z.Be H3 (upd H3 z.Be (.lst (z.pv++[.ref pp]))):=gd
      have p4:upd H3 z.Be (.lst (z.pv++[.ref pp])) z.Be=some (.lst (z.pv++[.ref pp])):=ae
      generalize upd H3 z.Be (.lst (z.pv++[.ref pp]))=H4 at *
      have nsp:sa≠z.Be:=oM hsa hptl (by intro z;cases z)
      have hsa4:=c2 _ _ (s3 _ _ hsa2) nsp
      have w4:=c2 _ _ (s3 _ _ w2) d1
      have npp:pp≠z.Be:=fun z1=>by rw[z1] at fpp;rw[fpp] at hptl2;cases hptl2
      have gen:∀b o,H1 b=some o→b≠z.wl→b≠z.Be→H4 b=some o:=fun b o e h1 h2=>c2 _ _ (s3 _ _ (c1 _ _ e h1)) h2
      have fpp1:H1 pp=none:=by
       cases q:H1 pp with
       | none=>rfl
       | some o=>have:=c1 pp o q (fun z1=>by rw[z1] at fpp;rw[fpp] at w2;cases w2);rw[fpp] at this;cases this
      have sF:ax (Off (z.M++X) H1) (Off (z.M++X) H4):=cO fun b o hb e=>gen b o e (fun z1=>hb (by rw[z1];simp[SA.M])) (fun z1=>hb (by rw[z1];simp[SA.M]))
      refine⟨_,rfl,⟨_,_,_,_,_,rfl,by assumption,T.au,T.br,bF,⟨_,_,rfl,.inl (aM.of w4),⟨_,_,rfl,rfl,?r4⟩⟩⟩⟩
      case r4=>
       rw[List.length_append,hwvl]
       have hv:(((a.words.length+[V.ref la].length:Nat):Int) - 1)=((a.words.length:Nat):Int):=by simp
       dsimp only
       rw[hv]
       have r0:=hS1.r
       refine kk { z with wv:=z.wv++[.ref la],pv:=z.pv++[.ref pp] } H4 ⟨⟨sF _ _ r0.j9,sF _ _ r0.un,w4,?_,p4,?_,gen _ _ r0.tI (Ne.symm d2) (Ne.symm d3),r0.ql,r0.OB,fun i v wa p h1 h2 h3=>?_⟩,hS1.nd,fun x hx=>?_,hS1.apart,M9 hS.told hw hlt⟩ ?_
       ·exact (r0.ON.same sF).snoc (sF _ _ hla1)
       ·show gK _ _ ((a.words++[t]).map Kh316.pattern)
        rw[List.map_append]
        refine (r0.NG.same sF).snoc (aS.mpr ⟨sq r0.J5 hS1.live fpp1,?_⟩)
        exact c2 _ _ hpp npp
       ·have hm:=List.mem_of_getElem? h2
        exact (r0.Rf i v wa p h1 h2 h3).move sF fun o e=>gen _ _ e (fun z1=>d4 (by rw[←z1];exact hm)) (fun z1=>d5 (by rw[←z1];exact hm))
       ·obtain⟨o,e⟩:=hS1.live x hx
        have:=hS1.apart x hx
        exact⟨o,gen _ _ e (fun z1=>this (by rw[z1];simp[SA.M])) (fun z1=>this (by rw[z1];simp[SA.M]))⟩
       ·intro b o e hb
        exact gen _ _ (s1 _ _ e) (fun z1=>hb (by rw[z1];simp[SA.M])) (fun z1=>hb (by rw[z1];simp[SA.M]))
noncomputable def vn (K:PySem.W.Frag) (A:Ad):Sp:=fun vs0 H Q _=>∃(sa:Addr) (X:List Addr) (z:SA) (a:Abs) (x y:Nat),vs0=[.ref sa,.int x,.int y]∧(cV A X H sa z a)∧(∀(z':SA) (H':Hp),cV A X H' sa z' (Kh317.told a (.place x y)).1→KZ z.M H H'→Q (.int (Kh317.told a (.place x y)).2.value) H')
theorem vD {P:Program} {w:World} {K:PySem.W.Frag} {mg:Str→Option Value} {base:Heap} {A:Ad} (T:Txt K mg A):bz P w K mg base gw 3 A.cX A.cZ ["self","speaker","hearer"] (vn K A):=by
 refine T.p7.ok vy (fun vs H Q E h=>?_) (fun cdv Ar outer sh H vs Q E hr h=>?_)
 ·obtain⟨_,_,_,_,_,_,rfl,_⟩:=h
  rfl
 ·obtain⟨sa,X,z,a,x,y,rfl,hS,kk⟩:=h
  have hu:=aY hr
  have hu64:=hr.units
  refine⟨_,(ab (aT (PW.pt (Mo (aA pJ (pv 1) (ak (pv 0) rfl) (aI _)) (Mo (aA pJ (pv 2) (ak (pv 0) rfl) (aI _)) (Ls (aA cg (pv 1) (pv 2) (aI _)))))) (ag (aq (aw rfl T.fA))) ay)
   (ab (aT (aA cg (aD aB (by rfl) T.cw PySem.boot_len (aa (ak (pv 0) rfl) ah)) (aw rfl T.g8) (aI _)) (ag (aq (aw rfl T.t4))) ay)
   (ab (cy (g6 PySem.F.plainAttrs_list PySem.F.slot_list_append PySem.F.type_list_append bR (ak (pv 0) rfl) (aa (iO T.Aj (Gj T) (hr.mono (by decide)) rfl T.MB T.CV .nil aK (aa (pv 1) (aa (pv 2) ah))) ah)))
   (ag (aq (bX tJ (aD aB (by rfl) T.cw PySem.boot_len (aa (ak (pv 0) rfl) ah)) aH)))))),?_⟩
  try dsimp only[Of]
  have hsa:=hS.y3
  have hpcl:=hS.r.tI
  have hql:=hS.r.ql
  obtain⟨d1,d2,d3,d4,d5,d6,d7⟩:=Vk hS.nd
  have wrong:(a.p≤x∨a.p≤y∨x=y)→Q (.int (-22)) H:=fun c=>by
   have e:Kh317.told a (.place x y)=(a,Kh317.say (-22)):=by
    show (if a.p≤x∨a.p≤y∨x=y then _ else _)=_
    rw[if_pos c]
   rw[e] at kk
   exact kk z H hS (KZ.of_same (ax.refl _))
  refine⟨_,rfl,⟨_,rfl,⟨_,_,_,_,_,rfl,by assumption,T.au,T.aO,aU,⟨_,_,rfl,rfl,⟨_,rfl,(aL (fun h=>?t7) (fun h=>⟨_,rfl,⟨_,rfl,⟨_,_,_,_,_,rfl,by assumption,T.au,T.aO,aU,⟨_,_,rfl,rfl,⟨_,rfl,(aL (fun h=>?t6) (fun h=>⟨_,rfl,⟨_,rfl,(bJ ⟨_,rfl,(df (fun h=>?r0) (fun h=>⟨_,rfl,⟨_,_,_,_,_,rfl,by assumption,T.au,T.aR,aV,⟨_,_,rfl,.inl (aM.of hpcl),(bJ ⟨_,rfl,(aL (fun h=>?r1) (fun h=>⟨_,rfl,⟨_,_,_,_,_,rfl,by assumption,T.au,T.aR,aV,⟨ty_list (aM.of hpcl),⟨_,rfl,⟨_,rfl,?AU⟩⟩⟩⟩⟩))⟩)⟩⟩⟩))⟩)⟩⟩))⟩⟩⟩⟩⟩))⟩⟩⟩⟩⟩
  case t7=>exact rA (wrong (by omega))
  case t6=>exact rA (wrong (by omega))
  case r0=>exact wrong (by have:=of_decide_eq_true h;omega)
  case r1=>
   have c:¬(a.p≤x∨a.p≤y∨x=y):=by have:=of_decide_eq_false ‹decide _=false›;omega
   rw[hql] at h
   have e:Kh317.told a (.place x y)=(a,Kh317.say (-28)):=by
    show (if a.p≤x∨a.p≤y∨x=y then _ else if 32≤a.places.length then _ else _)=_
    rw[if_neg c,if_pos (by omega)]
   rw[e] at kk
   exact kk z H hS (KZ.of_same (ax.refl _))
  case AU=>
   have c:¬(a.p≤x∨a.p≤y∨x=y):=by have:=of_decide_eq_false ‹decide _=false›;omega
   rw[hql] at h
   have hl32:=hS.told.NT
   have hlt:a.places.length<32:=by omega
   have e:Kh317.told a (.place x y)=({ a with places:=a.places++[⟨x,y,[]⟩] },Kh317.say (a.places.length:Nat)):=by
    show (if a.p≤x∨a.p≤y∨x=y then _ else if 32≤a.places.length then _ else _)=_
    rw[if_neg c,if_neg (by omega)]
   rw[e] at kk
   refine Aj fun px pdx l H1 npx nl nxl s1 hpx hl=>?_
   have hpcl1:=s1 _ _ hpcl
   refine⟨_,_,_,rfl,rfl,hpcl1,by rw[hql,sizeLine_eq];omega,?_⟩
   have c1:rM z.tI H1 (upd H1 z.tI (.lst (z.qv++[.ref px]))):=gd
   have p2:upd H1 z.tI (.lst (z.qv++[.ref px])) z.tI=some (.lst (z.qv++[.ref px])):=ae
   generalize upd H1 z.tI (.lst (z.qv++[.ref px]))=H2 at *
   have hsa2:=c1 _ _ (s1 _ _ hsa) (oM hsa hpcl (by intro z;cases z))
   have npc:px≠z.tI:=fun z1=>by rw[z1] at npx;rw[npx] at hpcl;cases hpcl
   have nlc:l≠z.tI:=fun z1=>by rw[z1] at nl;rw[nl] at hpcl;cases hpcl
   have gen:∀b o,H b=some o→b≠z.tI→H2 b=some o:=fun b o e h1=>c1 _ _ (s1 _ _ e) h1
   have lM:l∉z.M++X:=sq hS.r.J5 hS.live nl
   have pM:px∉z.M++X:=sq hS.r.J5 hS.live npx
   have memM:∀b,b∈({ z with qv:=z.qv++[.ref px],GK:=z.GK++[l] }:SA).M++X↔(b∈z.M++X∨b=l):=fun b=>by
    simp only[SA.M,List.mem_append,List.mem_cons,List.not_mem_nil,or_false]
    constructor
    ·rintro ((h | h | h | h | h) | h)
     ·exact .inl (.inl (.inl h))
     ·exact .inl (.inl (.inr (.inl h)))
     ·exact .inl (.inl (.inr (.inr (.inl h))))
     ·exact .inl (.inl (.inr (.inr (.inr h))))
     ·exact .inr h
     ·exact .inl (.inr h)
    ·rintro (((h | h | h | h) | h) | h)
     ·exact .inl (.inl h)
     ·exact .inl (.inr (.inl h))
     ·exact .inl (.inr (.inr (.inl h)))
     ·exact .inl (.inr (.inr (.inr (.inl h))))
     ·exact .inr h
     ·exact .inl (.inr (.inr (.inr (.inr h))))
   have sF:ax (Off (z.M++X) H) (Off (({ z with qv:=z.qv++[.ref px],GK:=z.GK++[l] }:SA).M++X) H2):=fun b o e=>by
    obtain⟨e1,e2⟩:=aS.mp e
    refine aS.mpr ⟨fun hb=>?_,gen b o e2 fun z1=>e1 (by rw[z1];simp[SA.M])⟩
    rcases (memM b).mp hb with hb | hb
    ·exact e1 hb
    ·rw[hb,nl] at e2;cases e2
   refine⟨_,rfl,⟨_,_,_,_,_,rfl,by assumption,T.au,T.aR,aV,⟨_,_,rfl,.inl (aM.of p2),⟨_,_,rfl,rfl,?r2⟩⟩⟩⟩
   case r2=>
    rw[List.length_append,hql]
    have hv:(((a.places.length+[V.ref px].length:Nat):Int) - 1)=((a.places.length:Nat):Int):=by simp
    dsimp only
    rw[hv]
    have r0:=hS.r
    refine kk { z with qv:=z.qv++[.ref px],GK:=z.GK++[l] } H2 ⟨⟨sF _ _ r0.j9,sF _ _ r0.un,gen _ _ r0.wl d2,r0.ON.same sF,gen _ _ r0.Be d3,r0.NG.same sF,p2,by simp[r0.ql],by simp[r0.OB],fun i v wa p h1 h2 h3=>?_⟩,?_,fun x hx=>?_,fun x hx hm=>?_,La hS.told (by omega) (by omega) (by omega) hlt⟩ ?_
    ·have h1:(z.qv++[V.ref px])[i]?=some v:=h1
     have h2:(z.GK++[l])[i]?=some wa:=h2
     have h3:(a.places++[⟨x,y,[]⟩])[i]?=some p:=h3
     by_cases hi:i<a.places.length
     ·rw[List.getElem?_append_left (by rw[r0.ql];exact hi)] at h1
      rw[List.getElem?_append_left (by rw[r0.OB];exact hi)] at h2
      rw[List.getElem?_append_left hi] at h3
      have hm:=List.mem_of_getElem? h2
      exact (r0.Rf i v wa p h1 h2 h3).move sF fun o e=>gen _ _ e fun z1=>d6 (by rw[←z1];exact hm)
     ·have hi2:i=a.places.length:=by
       have:=si h3
       rw[List.length_append,List.length_singleton] at this
       omega
      subst hi2
      rw[List.getElem?_append_right (by rw[r0.ql];exact Nat.le_refl _),r0.ql,Nat.sub_self] at h1
      rw[List.getElem?_append_right (by rw[r0.OB];exact Nat.le_refl _),r0.OB,Nat.sub_self] at h2
      rw[List.getElem?_append_right (Nat.le_refl _),Nat.sub_self] at h3
      simp at h1 h2 h3
      subst h1 h2 h3
      refine⟨px,pdx,[],rfl,aS.mpr ⟨fun hb=>?_,c1 _ _ hpx npc⟩,c1 _ _ hl nlc,dg.nil⟩
      rcases (memM px).mp hb with hb | hb
      ·exact pM hb
      ·exact nxl hb
    ·show (z.wl::z.Be::z.tI::(z.GK++[l])).Nodup
     have :(z.M++[l]).Nodup:=DD hS.nd fun hm=>lM (List.mem_append_left _ hm)
     exact this
    ·obtain⟨o,e⟩:=hS.live x hx
     exact⟨o,gen _ _ e fun z1=>hS.apart x hx (by rw[z1];simp[SA.M])⟩
    ·have hm2:x∈z.M∨x=l:=by
      have :x∈z.wl::z.Be::z.tI::(z.GK++[l]):=hm
      simp only[List.mem_cons,List.mem_append,List.not_mem_nil,or_false] at this
      simp only[SA.M,List.mem_cons]
      rcases this with h | h | h | h | h
      ·exact .inl (.inl h)
      ·exact .inl (.inr (.inl h))
      ·exact .inl (.inr (.inr (.inl h)))
      ·exact .inl (.inr (.inr (.inr h)))
      ·exact .inr h
     rcases hm2 with hm2 | hm2
     ·exact hS.apart x hx hm2
     ·exact lM (List.mem_append_right _ (by rw[←hm2];exact hx))
    ·intro b o e hb
     exact gen _ _ e fun z1=>hb (by rw[z1];simp[SA.M])
theorem ML {A:Ad} {F:Hp} {ws:List V} {ways:List (Nat×Option Nat)} (h:dg (uW A F) ws ways):ws.length=(ways.map Prod.fst).length:=by rw[h.1,List.length_map]
noncomputable def yC (K:PySem.W.Frag) (A:Ad):Sp:=fun vs0 H Q _=>∃(sa:Addr) (X:List Addr) (z:SA) (a:Abs) (q w n:Nat),vs0=[.ref sa,.int q,.int w,.int n]∧(cV A X H sa z a)∧(∀(z':SA) (H':Hp),cV A X H' sa z' (Kh317.told a (.way q w n)).1→KZ z.M H H'→Q (.int (Kh317.told a (.way q w n)).2.value) H')
theorem yU {P:Program} {w:World} {K:PySem.W.Frag} {mg:Str→Option Value} {base:Heap} {A:Ad} (T:Txt K mg A):bz P w K mg base gw 3 A.dW A.ed ["self","q","word","behind"] (yC K A):=by
 refine T.sC.ok gN (fun vs H Q E h=>?_) (fun cdv Ar outer sh H vs Q E hr h=>?_)
 ·obtain⟨_,_,_,_,_,_,_,rfl,_⟩:=h
  rfl
 ·obtain⟨sa,X,z,a,q,w,n,rfl,hS,kk⟩:=h
  have hu:=aY hr
  have hu64:=hr.units
  refine⟨_,(ab (aT (aA pJ (pv 1) (aD aB (by rfl) T.cw PySem.boot_len (aa (ak (pv 0) rfl) ah)) (aI _)) (ag (aq (aw rfl T.mJ))) ay)
   (ab (aT (PW.pt (Mo (aA pJ (pv 2) (aD aB (by rfl) T.cw PySem.boot_len (aa (ak (pv 0) rfl) ah)) (aI _)) (Ls (PW.pt (Es (aA pJ (pv 3) (aw rfl T.g8) (aI _)) (zY (aA CC (pv 3) (aw rfl T.yj) (aI _)))))))) (ag (aq (aw rfl T.fA))) ay)
   (ab (bb (i:=4) gN.nd rfl (Or.inl rfl) (ak (bw aN (ak (pv 0) rfl) (pv 1) (fun _ _=>rfl)) rfl))
   (ab (aT (aA NK (pv 2) (nL rfl gN.nd (dP (pv 4)) (own:=[("way",5)]) (dO (N:=["self","q","word","behind","ways","way"]) (sc:=ai cb) (by decide +kernel)) (fun _ _ _ _ _=>(bC (i:=5) gN.nd rfl (Or.inl rfl) (Or.inr rfl))) (fun _ _ _ _ _=>jl) (fun _ _ _ _ _=>(ka (K:=K) rfl (pv 5) rfl))) (by with_unfolding_all rfl)) (ag (aq (aw rfl T.DL))) ay)
   (ab (aT (aA cg (aD aB (by rfl) T.cw PySem.boot_len (aa (pv 4) ah)) (aw rfl T.iR) (aI _)) (ag (aq (aw rfl T.t4))) ay)
   (ab (cy (g6 PySem.F.plainAttrs_list PySem.F.slot_list_append PySem.F.type_list_append bR (pv 4) (aa (iO T.EN (JR T) (hr.mono (by decide)) rfl T.Si T.Hr .nil aK (aa (pv 2) (aa (pv 3) ah))) ah)))
   (ag (aq (aD aB (by rfl) T.cw PySem.boot_len (aa (pv 4) ah)))))))))),?_⟩
  try dsimp only[Of]
  have hsa:=hS.y3
  have hpcl:=hS.r.tI
  have hwl:=hS.r.wl
  have hql:=hS.r.ql
  have hwvl:z.wv.length=a.words.length:=hS.r.ON.1
  obtain⟨d1,d2,d3,d4,d5,d6,d7⟩:=Vk hS.nd
  cases hx:a.places[q]? with
  | none=>
   have hle:a.places.length≤q:=List.getElem?_eq_none_iff.mp hx
   have e:Kh317.told a (.way q w n)=(a,Kh317.say (-2)):=by
    show (match a.places[q]? with | none=>_ | some x=>_)=_
    rw[hx]
   rw[e] at kk
   refine⟨_,rfl,⟨_,rfl,⟨_,_,_,_,_,rfl,hsa,T.au,T.aR,aV,⟨_,_,rfl,.inl (aM.of hpcl),⟨_,_,rfl,rfl,⟨_,rfl,(aL (fun h=>?_) (fun h=>?_))⟩⟩⟩⟩⟩⟩
   ·exact kk z H hS (KZ.of_same (ax.refl _))
   ·rw[hql] at h;omega
  | some p=>
   have hqlt:=si hx
   have eqv:z.qv[q]?=some (z.qv[q]'(by rw[hql];exact hqlt)):=List.getElem?_eq_getElem _
   obtain⟨wa,ewa⟩:∃wa,z.GK[q]?=some wa:=⟨_,List.getElem?_eq_getElem (by rw[hS.r.OB];exact hqlt)⟩
   obtain⟨pa,pdx,ws,epa,hpa,hwa,hws⟩:=(hS.r.Rf q _ wa p eqv ewa hx).ex
   have hpaH:=(aS.mp hpa).2
   have hwam:=List.mem_of_getElem? ewa
   have dN:=hS.told.pl p (List.mem_of_getElem? hx)
   have hmost:=dN.most
   have hat:DS z.qv (q:Int)=some (.ref pa):=bt (by rw[eqv,epa])
   have wrong:(a.words.length≤w∨(31<n∧n≠255))→Q (.int (-22)) H:=fun c=>by
    have e:Kh317.told a (.way q w n)=(a,Kh317.say (-22)):=by
     show (match a.places[q]? with | none=>_ | some x=>if a.words.length≤w∨(31<n∧n≠255) then _ else _)=_
     rw[hx]
     exact if_pos c
    rw[e] at kk
    exact kk z H hS (KZ.of_same (ax.refl _))
   have main:¬(a.words.length≤w∨(31<n∧n≠255))→∃b,V.ref wa=V.ref b∧(∃xs,aM K H b xs)∧True:=fun _=>⟨wa,rfl,⟨_,aM.of hwa⟩,trivial⟩
   have fin:¬(a.words.length≤w∨(31<n∧n≠255))→∀H1,ax H H1→∀(wx wdx:Addr) (H2:Hp),H1 wx=none→ax H1 H2→H2 wx=some (.ins A.eh wdx (nO (.int w) (.int n)))→(p.ways.map Prod.fst).contains w=false→p.ways.length<4→Q (.int ((p.ways.length+1:Nat):Int)) (upd H2 wa (.lst (ws++[.ref wx]))):=fun c H1 s1 wx wdx H2 nwx s2 hwx hnc h4=>by
    have e:Kh317.told a (.way q w n)=({ a with places:=a.places.set q { p with ways:=p.ways++[(w,if n=255 then none else some n)] } },Kh317.say (p.ways.length+1:Nat)):=by
     show (match a.places[q]? with | none=>_ | some x=>if a.words.length≤w∨(31<n∧n≠255) then _ else if (x.ways.map Prod.fst).contains w then _ else if 4≤x.ways.length then _ else _)=_
     rw[hx]
     show (if a.words.length≤w∨(31<n∧n≠255) then _ else if (p.ways.map Prod.fst).contains w then _ else if 4≤p.ways.length then _ else _)=_
     rw[if_neg c,hnc,if_neg (by decide),if_neg (by omega)]
    rw[e] at kk
    have hwa2:=s2 _ _ (s1 _ _ hwa)
    have c1:rM wa H2 (upd H2 wa (.lst (ws++[.ref wx]))):=gd
    have w3:upd H2 wa (.lst (ws++[.ref wx])) wa=some (.lst (ws++[.ref wx])):=ae
    generalize upd H2 wa (.lst (ws++[.ref wx]))=H3 at *
    have gen:∀b o,H b=some o→b≠wa→H3 b=some o:=fun b o e h1=>c1 _ _ (s2 _ _ (s1 _ _ e)) h1
    have nwxH:H wx=none:=s1.free nwx
    have wM:wx∉z.M++X:=sq hS.r.J5 hS.live nwxH
    have hwaM:wa∈z.M:=by simp[SA.M,hwam]
    have sF:ax (Off (z.M++X) H) (Off (z.M++X) H3):=cO fun b o hb e=>gen b o e fun z1=>hb (List.mem_append_left _ (by rw[z1];exact hwaM))
    have bhn:((n:Nat):Int)=xq (if n=255 then none else some n):=by
     by_cases h:n=255
     ·rw[if_pos h,h];rfl
     ·rw[if_neg h];rfl
    have r0:=hS.r
    refine kk z H3 ⟨⟨sF _ _ r0.j9,sF _ _ r0.un,gen _ _ r0.wl (fun z1=>d4 (by rw[z1];exact hwam)),r0.ON.same sF,gen _ _ r0.Be (fun z1=>d5 (by rw[z1];exact hwam)),r0.NG.same sF,gen _ _ r0.tI (fun z1=>d6 (by rw[z1];exact hwam)),by show z.qv.length=(a.places.set q _).length;rw[List.length_set];exact r0.ql,by show z.GK.length=(a.places.set q _).length;rw[List.length_set];exact r0.OB,fun i v wa' p' h1 h2 h3=>?_⟩,hS.nd,fun x hx=>?_,hS.apart,OS hS.told hx (by omega) ?_ ?_ h4⟩ ?_
    ·have h3:(a.places.set q { p with ways:=p.ways++[(w,if n=255 then none else some n)] })[i]?=some p':=h3
     by_cases hiq:i=q
     ·subst hiq
      rw[List.getElem?_set_self hqlt] at h3
      cases h3
      rw[ewa] at h2
      cases h2
      rw[eqv,epa] at h1
      cases h1
      refine⟨pa,pdx,_,rfl,sF _ _ hpa,w3,?_⟩
      refine dg.snoc (hws.mono fun _ _ h=>h.same sF) ⟨wx,wdx,rfl,aS.mpr ⟨wM,?_⟩⟩
      rw[←bhn]
      exact c1 _ _ hwx fun z1=>by rw[z1] at nwxH;rw[nwxH] at hwa;cases hwa
     ·rw[List.getElem?_set_ne (fun z1=>hiq z1.symm)] at h3
      have hne:wa'≠wa:=fun z1=>by
       subst z1
       exact hiq (Ul d7 h2 ewa)
      exact (r0.Rf i v wa' p' h1 h2 h3).move sF fun o e=>gen _ _ e hne
    ·obtain⟨o,e⟩:=hS.live x hx
     exact⟨o,gen _ _ e fun z1=>hS.apart x hx (by rw[z1];exact hwaM)⟩
    ·intro k hk
     by_cases h:n=255
     ·rw[if_pos h] at hk;cases hk
     ·rw[if_neg h] at hk;cases hk;omega
    ·intro hm
     rw[List.contains_iff_mem.mpr hm] at hnc;cases hnc
    ·intro b o e hb
     exact gen _ _ e fun z1=>hb (by rw[z1];exact hwaM)
   have lcg:¬(a.words.length≤w∨(31<n∧n≠255))→True:=fun _=>trivial
   refine⟨_,rfl,⟨_,rfl,⟨_,_,_,_,_,rfl,by assumption,T.au,T.aR,aV,⟨_,_,rfl,.inl (aM.of hpcl),⟨_,_,rfl,rfl,⟨_,rfl,(aL (fun h=>?r0) (fun h=>⟨_,rfl,⟨_,rfl,⟨_,_,_,_,_,rfl,by assumption,T.au,T.br,bF,⟨_,_,rfl,.inl (aM.of hwl),⟨_,_,rfl,rfl,⟨_,rfl,(aL (fun h=>?t13) (fun h=>⟨_,rfl,⟨_,_,rfl,rfl,⟨_,rfl,(aL (fun h=>⟨_,rfl,(yc ⟨_,rfl,(df (fun h=>?r1) (fun h=>⟨_,rfl,⟨_,_,_,_,_,rfl,by assumption,T.au,T.aR,aV,⟨_,rfl,⟨_,_,_,_,rfl,rfl,(aM.of hpcl),(hat),⟨_,_,_,_,_,rfl,by assumption,T.bh,T.cB,eK,⟨_,rfl,⟨_,rfl,?lc0⟩⟩⟩⟩⟩⟩⟩))⟩)⟩) (fun h=>?f12))⟩⟩⟩))⟩⟩⟩⟩⟩⟩))⟩⟩⟩⟩⟩⟩
   case r0=>rw[hql] at h;omega
   case t13=>rw[hwvl] at h;exact rA (wrong (by omega))
   case r1=>exact wrong (by have h1:=h;simp at h1;omega)
   case f12=>
    have c:¬(a.words.length≤w∨(31<n∧n≠255)):=by rw[hwvl] at *;omega
    refine NX ⟨_,rfl,⟨_,_,_,_,_,rfl,by assumption,T.au,T.aR,aV,⟨_,rfl,⟨_,_,_,_,rfl,rfl,aM.of hpcl,hat,⟨_,_,_,_,_,rfl,by assumption,T.bh,T.cB,eK,⟨_,rfl,⟨_,rfl,?lc9⟩⟩⟩⟩⟩⟩⟩
    case lc9=>
     refine⟨_,rfl,⟨_,aM.of hwa⟩,BL (xs:=ws) (Out:=fun i o _=>o=some (.int (((p.ways.map Prod.fst).getD i 0:Nat):Int))) (by rw[hws.1,sizeLine_eq];omega) (aM.of hwa) (fun _ _ _ _ _ h=>h) ?_ ?_⟩
     ·intro i xv H' R hxv s1 hR
      obtain⟨w',hw',wya,wydx,rfl,hwya⟩:=hws.get hxv
      have hwya':=s1 _ _ (aS.mp hwya).2
      try dsimp only[Of]
      refine⟨rfl,rA ⟨_,rfl,⟨_,_,_,_,_,rfl,by assumption,T.eh,T.cR,eI,?KY⟩⟩⟩
      case KY=>
       refine hR _ _ (ax.refl _) ?_
       rw[List.getD_eq_getElem?_getD,List.getElem?_map,hw']
       rfl
     ·intro D Hend os hD sE hl hDe hout
      rw[gv hl hout,pO (ML hws)] at hDe
      have hwaE:=sE _ _ hwa
      try dsimp only[Of]
      refine⟨_,_,rfl,.inl (aM.of hDe),rfl,(xk _),⟨_,rfl,(df (fun h=>?r2) (fun h=>⟨_,rfl,⟨_,_,rfl,.inl (aM.of hwaE),(bJ ⟨_,rfl,(aL (fun h=>?r3) (fun h=>⟨_,rfl,⟨ty_list (aM.of hwaE),⟨_,rfl,⟨_,rfl,?oJ⟩⟩⟩⟩))⟩)⟩⟩))⟩⟩
      case r2=>
       have h:K3 (V.int (w:Int)) (nats (p.ways.map Prod.fst))=true:=h
       rw[nT] at h
       have e:Kh317.told a (.way q w n)=(a,Kh317.say (-17)):=by
        show (match a.places[q]? with | none=>_ | some x=>if a.words.length≤w∨(31<n∧n≠255) then _ else if (x.ways.map Prod.fst).contains w then _ else _)=_
        rw[hx]
        show (if a.words.length≤w∨(31<n∧n≠255) then _ else if (p.ways.map Prod.fst).contains w then _ else _)=_
        rw[if_neg c,if_pos h]
       rw[e] at kk
       exact kk z Hend (hS.same sE) (KZ.of_same sE)
      case r3=>
       have hnc:K3 (V.int (w:Int)) (nats (p.ways.map Prod.fst))=false:=‹K3 _ _=false›
       rw[nT] at hnc
       rw[hws.1] at h
       have e:Kh317.told a (.way q w n)=(a,Kh317.say (-28)):=by
        show (match a.places[q]? with | none=>_ | some x=>if a.words.length≤w∨(31<n∧n≠255) then _ else if (x.ways.map Prod.fst).contains w then _ else if 4≤x.ways.length then _ else _)=_
        rw[hx]
        show (if a.words.length≤w∨(31<n∧n≠255) then _ else if (p.ways.map Prod.fst).contains w then _ else if 4≤p.ways.length then _ else _)=_
        rw[if_neg c,hnc,if_neg (by decide),if_pos (by omega)]
       rw[e] at kk
       exact kk z Hend (hS.same sE) (KZ.of_same sE)
      case oJ=>
       have hnc:K3 (V.int (w:Int)) (nats (p.ways.map Prod.fst))=false:=‹K3 _ _=false›
       rw[nT] at hnc
       rw[hws.1] at h
       refine EN fun wx wdx H2 nwx s2 hwx=>?_
       refine⟨_,_,_,rfl,rfl,s2 _ _ hwaE,by rw[hws.1,sizeLine_eq];omega,?_⟩
       refine⟨_,rfl,⟨_,_,rfl,.inl (aM.of ae),?r4⟩⟩
       case r4=>
        rw[List.length_append,hws.1]
        exact fin c Hend sE wx wdx H2 nwx s2 hwx hnc (by omega)
   case lc0=>
    have c:¬(a.words.length≤w∨(31<n∧n≠255)):=by
     have h1:=h
     simp at h1
     rw[hwvl] at *
     omega
    refine⟨_,rfl,⟨_,aM.of hwa⟩,BL (xs:=ws) (Out:=fun i o _=>o=some (.int (((p.ways.map Prod.fst).getD i 0:Nat):Int))) (by rw[hws.1,sizeLine_eq];omega) (aM.of hwa) (fun _ _ _ _ _ h=>h) ?_ ?_⟩
    ·intro i xv H' R hxv s1 hR
     obtain⟨w',hw',wya,wydx,rfl,hwya⟩:=hws.get hxv
     have hwya':=s1 _ _ (aS.mp hwya).2
     try dsimp only[Of]
     refine⟨rfl,rA ⟨_,rfl,⟨_,_,_,_,_,rfl,by assumption,T.eh,T.cR,eI,?KY⟩⟩⟩
     case KY=>
      refine hR _ _ (ax.refl _) ?_
      rw[List.getD_eq_getElem?_getD,List.getElem?_map,hw']
      rfl
    ·intro D Hend os hD sE hl hDe hout
     rw[gv hl hout,pO (ML hws)] at hDe
     have hwaE:=sE _ _ hwa
     try dsimp only[Of]
     refine⟨_,_,rfl,.inl (aM.of hDe),rfl,(xk _),⟨_,rfl,(df (fun h=>?r2) (fun h=>⟨_,rfl,⟨_,_,rfl,.inl (aM.of hwaE),(bJ ⟨_,rfl,(aL (fun h=>?r3) (fun h=>⟨_,rfl,⟨ty_list (aM.of hwaE),⟨_,rfl,⟨_,rfl,?oJ⟩⟩⟩⟩))⟩)⟩⟩))⟩⟩
     case r2=>
      have h:K3 (V.int (w:Int)) (nats (p.ways.map Prod.fst))=true:=h
      rw[nT] at h
      have e:Kh317.told a (.way q w n)=(a,Kh317.say (-17)):=by
       show (match a.places[q]? with | none=>_ | some x=>if a.words.length≤w∨(31<n∧n≠255) then _ else if (x.ways.map Prod.fst).contains w then _ else _)=_
       rw[hx]
       show (if a.words.length≤w∨(31<n∧n≠255) then _ else if (p.ways.map Prod.fst).contains w then _ else _)=_
       rw[if_neg c,if_pos h]
      rw[e] at kk
      exact kk z Hend (hS.same sE) (KZ.of_same sE)
     case r3=>
      have hnc:K3 (V.int (w:Int)) (nats (p.ways.map Prod.fst))=false:=‹K3 _ _=false›
      rw[nT] at hnc
      rw[hws.1] at h
      have e:Kh317.told a (.way q w n)=(a,Kh317.say (-28)):=by
       show (match a.places[q]? with | none=>_ | some x=>if a.words.length≤w∨(31<n∧n≠255) then _ else if (x.ways.map Prod.fst).contains w then _ else if 4≤x.ways.length then _ else _)=_
       rw[hx]
       show (if a.words.length≤w∨(31<n∧n≠255) then _ else if (p.ways.map Prod.fst).contains w then _ else if 4≤p.ways.length then _ else _)=_
       rw[if_neg c,hnc,if_neg (by decide),if_pos (by omega)]
      rw[e] at kk
      exact kk z Hend (hS.same sE) (KZ.of_same sE)
     case oJ=>
      have hnc:K3 (V.int (w:Int)) (nats (p.ways.map Prod.fst))=false:=‹K3 _ _=false›
      rw[nT] at hnc
      rw[hws.1] at h
      refine EN fun wx wdx H2 nwx s2 hwx=>?_
      refine⟨_,_,_,rfl,rfl,s2 _ _ hwaE,by rw[hws.1,sizeLine_eq];omega,?_⟩
      refine⟨_,rfl,⟨_,_,rfl,.inl (aM.of ae),?r4⟩⟩
      case r4=>
       rw[List.length_append,hws.1]
       exact fin c Hend sE wx wdx H2 nwx s2 hwx hnc (by omega)
theorem rP {K:PySem.W.Frag} {H:Hp} {a:Addr} {xs:List V} (h:aM K H a xs):Tx K (.ref a) H (!xs.isEmpty):=.inl ⟨xs,h,rfl⟩
theorem fB.read {A:Ad} {H F:Hp} {sa:Addr} {z:SA} {a:Abs} (r:fB A H F sa z a) (s:ax F H):fB A H H sa z a:=r.move s fun _ _ _ e=>e
noncomputable def pT (n:Nat) (p:Kh292.Place):Bool:=p.ways.all fun w=>!Kh317.lost n w
theorem PX {n:Nat} {x:Option Nat} {k:Nat} (h:∀q,x=some q→q≤31):(decide (xq x=255) || decide (xq x<((n:Nat):Int)))=!Kh317.lost n (k,x):=by
 cases x with
 | none=>rfl
 | some q=>
  have:=h q rfl
  show (decide ((q:Int)=255) || decide ((q:Int)<(n:Int)))=!decide (n≤q)
  rw[decide_eq_false (by omega),Bool.false_or,Bool.eq_iff_iff]
  simp
noncomputable def qg (K:PySem.W.Frag) (A:Ad):Sp:=fun vs0 H Q _=>∃(sa:Addr) (z:SA) (a:Abs) (v:V) (p:Kh292.Place),vs0=[.ref sa,v]∧(fB A H H sa z a)∧(qZ A H v p)∧(p.ways.length≤4)∧(∀w∈p.ways,∀q,w.2=some q→q≤31)∧(∀H',ax H H'→Q (.bl (pT a.places.length p)) H')
theorem qh {P:Program} {w:World} {K:PySem.W.Frag} {mg:Str→Option Value} {base:Heap} {A:Ad} (T:Txt K mg A):bz P w K mg base gw 1 A.bS A.bT ["self","place"] (qg K A):=by
 refine T.kR.ok fE (fun vs H Q E h=>?_) (fun cdv Ar outer sh H vs Q E hr h=>?_)
 ·obtain⟨_,_,_,_,_,rfl,_⟩:=h
  rfl
 ·obtain⟨sa,z,a,v,p,rfl,hS,hv,hm,h31,kk⟩:=h
  have hu:=aY hr
  have hu64:=hr.units
  refine⟨_,(ag (aq (aD (B4 rfl) (by rfl) T.A7 boot_all (aa (nL rfl fE.nd (dP (ak (pv 1) rfl)) (own:=[("way",2)]) (dO (N:=["self","place","way"]) (sc:=ai bu) (by decide +kernel)) (fun _ _ _ _ _=>(bC (i:=2) fE.nd rfl (Or.inl rfl) (Or.inr rfl))) (fun _ _ _ _ _=>jl) (fun _ _ _ _ _=>(Mt (jm cg (ka (K:=K) rfl (pv 2) rfl) (aw rfl T.yj) (aI _)) (yQ (jm JN (ka (K:=K) rfl (pv 2) rfl) (aD (yn (K:=K) rfl) (by rfl) T.cw PySem.boot_len (aa (ka (K:=K) rfl (pv 0) rfl) ah)) (aI _)))))) ah)))),?_⟩
  try dsimp only[Of]
  obtain⟨pa,pdx,wl,ws,rfl,hpa,hwl,hws⟩:=hv
  have hsa:=hS.j9
  have hpcl:=hS.tI
  have hql:=hS.ql
  refine⟨_,rfl,⟨_,_,_,_,_,rfl,by assumption,T.bh,T.cB,eK,?lc0⟩⟩
  case lc0=>
   refine⟨_,rfl,⟨_,aM.of hwl⟩,BL (xs:=ws) (Out:=fun i o _=>o=some (.bl (!Kh317.lost a.places.length (p.ways.getD i (0,none))))) (by rw[hws.1,sizeLine_eq];omega) (aM.of hwl) (fun _ _ _ _ _ h=>h) ?_ ?_⟩
   ·intro i x H' R hx s1 hR
    obtain⟨w,hw,wa,wdx,rfl,hwa⟩:=hws.get hx
    have hwa':=s1 _ _ hwa
    have hsa':=s1 _ _ hsa
    have hgd:p.ways.getD i (0,none)=w:=by rw[List.getD_eq_getElem?_getD,hw];rfl
    have hl:=PX (n:=a.places.length) (k:=w.1) (h31 w (List.mem_of_getElem? hw))
    try dsimp only[Of]
    refine⟨rfl,rA ⟨_,rfl,⟨_,_,_,_,_,rfl,by assumption,T.eh,T.cA,eJ,(bJ ⟨_,rfl,aL (fun h=>?t3) (fun h=>⟨_,rfl,⟨_,_,_,_,_,rfl,by assumption,T.eh,T.cA,eJ,⟨_,rfl,⟨_,_,_,_,_,rfl,by assumption,T.au,T.aR,aV,⟨_,_,rfl,.inl (aM.of (s1 _ _ hpcl)),⟨_,_,rfl,rfl,?KY⟩⟩⟩⟩⟩⟩)⟩)⟩⟩⟩
    case t3=>
     refine hR _ _ (ax.refl _) ?_
     rw[hgd,←hl,decide_eq_true h,Bool.true_or]
    case KY=>
     refine hR _ _ (ax.refl _) ?_
     rw[hgd,←hl,decide_eq_false h,Bool.false_or,hql]
   ·intro D Hend os hD sE hl hDe hout
    have e:((List.range ws.length).map fun i=>some (V.bl (!Kh317.lost a.places.length (p.ways.getD i (0,none))))).filterMap id=(p.ways.map fun w=>!Kh317.lost a.places.length w).map V.bl:=by
     rw[show (fun i=>some (V.bl (!Kh317.lost a.places.length (p.ways.getD i (0,none)))))=some∘fun i=>V.bl (!Kh317.lost a.places.length (p.ways.getD i (0,none))) from rfl,←List.map_map,Fb,hws.1,List.map_map]
     exact BC p.ways (0,none) (fun w=>V.bl (!Kh317.lost a.places.length w))
    rw[gv hl hout,e] at hDe
    try dsimp only[Of]
    refine⟨_,(p.ways.map fun w=>!Kh317.lost a.places.length w),rfl,(aM.of hDe),?r0⟩
    case r0=>
     rw[List.all_map]
     exact kk Hend sE
noncomputable def yD (K:PySem.W.Frag) (A:Ad):Sp:=fun vs0 H Q _=>∃(sa:Addr) (z:SA) (a:Abs),vs0=[.ref sa]∧(fB A H H sa z a)∧(Kt.Told a)∧(∀H',ax H H'→Q (.bl (!Kt.gy a)) H')
theorem yV {P:Program} {w:World} {K:PySem.W.Frag} {mg:Str→Option Value} {base:Heap} {A:Ad} (T:Txt K mg A):bz P w K mg base gw 2 A.dX A.ef ["self"] (yD K A):=by
 refine T.sD.ok kz (fun vs H Q E h=>?_) (fun cdv Ar outer sh H vs Q E hr h=>?_)
 ·obtain⟨_,_,_,rfl,_⟩:=h
  rfl
 ·obtain⟨sa,z,a,rfl,hS,hT,kk⟩:=h
  have hu:=aY hr
  have hu64:=hr.units
  refine⟨_,(ab (aT (jU (pI (ak (pv 0) rfl) (fun _=>rfl))) (ag (aq CB)) ay)
   (ag (aq (aD (B4 rfl) (by rfl) T.A7 boot_all (aa (nL rfl kz.nd (dP (ak (pv 0) rfl)) (own:=[("place",1)]) (dO (N:=["self","place"]) (sc:=ai cf) (by decide +kernel)) (fun _ _ _ _ _=>(bC (i:=1) kz.nd rfl (Or.inl rfl) (Or.inr rfl))) (fun _ _ _ _ _=>jl) (fun _ _ _ _ _=>(Lx (jm CD (aD (yn (K:=K) rfl) (by rfl) T.cw PySem.boot_len (aa (ka (K:=K) rfl (pv 1) rfl) ah)) aH (aI _)) (yQ (cz (pv 0) T.au T.jT (qh T) (hr.mono (by decide)) T.lh .nil aK (aa (pv 1) ah)))))) ah))))),?_⟩
  try dsimp only[Of]
  have hsa:=hS.j9
  have hpcl:=hS.tI
  have hql:=hS.ql
  have hP:=hS.places (ax.refl _)
  have hl32:=hT.NT
  refine⟨_,rfl,⟨_,_,_,_,_,rfl,by assumption,T.au,T.aR,aV,⟨_,(rP (aM.of hpcl)),(ez (fun h=>?r0) (fun h=>⟨_,rfl,⟨_,_,_,_,_,rfl,by assumption,T.au,T.aR,aV,?lc0⟩⟩))⟩⟩⟩
  case r0=>
   have he:a.places=[]:=by
    have h1:(!z.qv.isEmpty)=false:=h
    cases q:z.qv with
    | nil=>rw[q] at hql;exact List.eq_nil_of_length_eq_zero hql.symm
    | cons x r=>rw[q] at h1;cases h1
   have :Kt.gy a=true:=by unfold Kt.gy;rw[he];rfl
   rw[this] at kk
   exact kk H (ax.refl _)
  case lc0=>
   have he:a.places.isEmpty=false:=by
    have h1:(!z.qv.isEmpty)=true:=h
    cases q:a.places with
    | nil=>rw[q] at hql;rw[List.eq_nil_of_length_eq_zero hql] at h1;cases h1
    | cons x r=>rfl
   have hall:(!Kt.gy a)=a.places.all fun p=>decide (0<p.ways.length)&&pT a.places.length p:=by
    unfold Kt.gy pT
    rw[he,Bool.false_or,List.not_any_eq_all_not]
    congr 1
    funext p
    rw[Bool.not_or,List.not_any_eq_all_not]
    congr 1
    cases p.ways<;>rfl
   refine⟨_,rfl,⟨_,aM.of hpcl⟩,BL (xs:=z.qv) (Out:=fun i o _=>o=some (.bl (decide (0<(Kh292.at_ a.script i).ways.length)&&pT a.places.length (Kh292.at_ a.script i)))) (by rw[hql,sizeLine_eq];omega) (aM.of hpcl) (fun _ _ _ _ _ h=>h) ?_ ?_⟩
   ·intro i x H' R hx s1 hR
    obtain⟨p,hp,hpv⟩:=dg.get hP hx
    have hap:Kh292.at_ a.script i=p:=FH hp
    have dN:=hT.pl p (List.mem_of_getElem? hp)
    have hpv':=hpv.same s1
    obtain⟨pa,pdx,wl,ws,rfl,hpa,hwl,hws⟩:=hpv
    have hpa':=s1 _ _ hpa
    have hsa':=s1 _ _ hsa
    have hlen:((0:Int)<(ws.length:Int))↔0<p.ways.length:=by rw[hws.1];omega
    try dsimp only[Of]
    refine⟨rfl,rA ⟨_,rfl,⟨_,_,_,_,_,rfl,by assumption,T.bh,T.cB,eK,⟨_,_,rfl,.inl (aM.of (s1 _ _ hwl)),⟨_,_,rfl,rfl,⟨_,rfl,aL (fun h=>⟨_,rfl,⟨_,_,_,rfl,by assumption,qi,⟨_,rfl,?nV⟩⟩⟩) (fun h=>?f3)⟩⟩⟩⟩⟩⟩
    case nV=>
     refine⟨sa,z,a,_,p,rfl,hS.move s1 (fun _ _ _ e=>s1 _ _ e),hpv',dN.most,dN.next,fun H2 s2=>hR _ _ s2 ?_⟩
     rw[hap,decide_eq_true (hlen.mp h),Bool.true_and]
    case f3=>
     refine hR _ _ (ax.refl _) ?_
     rw[hap,decide_eq_false (fun z1=>h (hlen.mpr z1)),Bool.false_and]
   ·intro D Hend os hD sE hl hDe hout
    have e:((List.range z.qv.length).map fun i=>some (V.bl (decide (0<(Kh292.at_ a.script i).ways.length)&&pT a.places.length (Kh292.at_ a.script i)))).filterMap id=(a.places.map fun p=>decide (0<p.ways.length)&&pT a.places.length p).map V.bl:=by
     rw[show (fun i=>some (V.bl (decide (0<(Kh292.at_ a.script i).ways.length)&&pT a.places.length (Kh292.at_ a.script i))))=some∘fun i=>V.bl (decide (0<(Kh292.at_ a.script i).ways.length)&&pT a.places.length (Kh292.at_ a.script i)) from rfl,←List.map_map,Fb,hql,List.map_map]
     exact BC a.places ⟨0,0,[]⟩ (fun p=>V.bl (decide (0<p.ways.length)&&pT a.places.length p))
    rw[gv hl hout,e] at hDe
    try dsimp only[Of]
    refine⟨_,(a.places.map fun p=>decide (0<p.ways.length)&&pT a.places.length p),rfl,(aM.of hDe),?r1⟩
    case r1=>
     rw[List.all_map]
     show Q (V.bl (a.places.all fun p=>decide (0<p.ways.length)&&pT a.places.length p)) Hend
     rw[←hall]
     exact kk Hend sE
end
section
open Kh317 (Abs)
noncomputable def K1 (a:Abs) (t:Nat):Nat:=match a.last with
 | some s=>Kh317.most (t - s)
 | none=>0
noncomputable def wU (a:Abs) (t w:Nat) (u:Kt.U):Kt.U:=Kt.fC (Kh316.pattern (a.letters w)) a.lens (a.down || !a.lens.isEmpty) (K1 a t) u a.e
theorem Qx (d:Bool) (l:List Nat):(d || decide (0<l.length))=(d || !l.isEmpty):=by cases l<;>rfl
theorem QS {a:Abs} {t:Nat} {tu:Int} (hC:Kt.Cu a) (ht:a.now≤t) (htu:∀s,a.last=some s→tu=(s:Int)) (w:Nat) (u:Kt.U) :
  Kt.fC (Kh316.pattern (a.letters w)) a.lens (a.down || decide (0<a.lens.length)) (Kt.min2 ((t:Int) - tu) 1000000) u a.e=wU a t w u:=by
 unfold wU K1
 rw[Qx]
 cases h:a.last with
 | none=>
  obtain⟨h1,h2⟩:=hC.none_ h
  rw[h1,h2]
  unfold Kt.fC
  rfl
 | some s=>
  have h1:=(hC.zM s h).2
  rw[htu s h]
  have e:Kt.min2 ((t:Int) - (s:Int)) 1000000=((Kh317.most (t - s):Nat):Int):=by
   unfold Kt.min2 Kh317.most
   by_cases g:1000000<t - s
   ·rw[if_pos g,if_pos (by omega)];rfl
   ·rw[if_neg g,if_neg (by omega)];omega
  rw[e]
theorem J6 {a:Abs} {t:Nat} {tu:Int} (hC:Kt.Cu a) (ht:a.now≤t) (htu:∀s,a.last=some s→tu=(s:Int)) (hb:a.last≠none):Kt.min2 ((t:Int) - tu) 1000000=((K1 a t:Nat):Int):=by
 unfold K1
 cases h:a.last with
 | none=>exact absurd h hb
 | some s=>
  have h1:=(hC.zM s h).2
  rw[htu s h]
  show _=((Kh317.most (t - s):Nat):Int)
  unfold Kt.min2 Kh317.most
  by_cases g:1000000<t - s
  ·rw[if_pos g,if_pos (by omega)];rfl
  ·rw[if_neg g,if_neg (by omega)];omega
noncomputable def dI (a:Abs) (us:List Kt.U):Kt.U:=us.getD a.at_.from_ ⟨0,0⟩
noncomputable def GO (a:Abs) (t:Nat) (us:List Kt.U):List ((Nat×Option Nat)×Kt.U):=a.at_.ways.map fun w=>(w,wU a t w.1 (dI a us))
noncomputable def IT (a:Abs) (t:Nat) (us:List Kt.U):List ((Nat×Option Nat)×Kt.U):=(GO a t us).filter fun c=>decide (c.2.lo≤c.2.hi)
noncomputable def uB (a:Abs) (t:Nat) (us:List Kt.U):Option ((Nat×Option Nat)×Kt.U):=match IT a t us with
 | [c]=>if (decide (a.lens.length=(Kh316.pattern (a.letters c.1.1)).length)&&decide (3 * c.2.hi+(a.e:Int)<(K1 a t:Int)))=true then some c else none
 | _=>none
section
variable {a:Abs} {us ss:List Kt.U} (hO:Kt.Opened a us ss) (hT:Kt.Told a)
include hO hT
theorem jS {q:Nat} (h:a.place=some q):a.at_=Kh292.at_ a.script q∧a.at_∈a.places∧a.places[q]?=some a.at_:=by
 have hq:=hO.place q h
 have e:a.at_=Kh292.at_ a.script q:=by unfold Abs.at_;rw[h]
 refine⟨e,by rw[e];exact Kt.wA (s:=a.script) hq,?_⟩
 rw[e,Kt.I0 (s:=a.script) hq]
 exact List.getElem?_eq_getElem hq
theorem wX {q:Nat} (h:a.place=some q):us[a.at_.from_]?=some (dI a us):=by
 have hp:=hT.pl _ (jS hO hT h).2.1
 have hl:a.at_.from_<us.length:=by rw[hO.Hw];exact hp.from_
 unfold dI
 rw[List.getD_eq_getElem?_getD,List.getElem?_eq_getElem hl]
 rfl
theorem wW {q:Nat} (h:a.place=some q):Kt.Sn a (dI a us):=hO.Jf _ (List.mem_of_getElem? (wX hO hT h))
theorem wG {w:Nat} (h:w<a.words.length):Kh316.okWord (a.letters w)=true:=by
 unfold Abs.letters
 rw[List.getD_eq_getElem?_getD,List.getElem?_eq_getElem h]
 exact hT.OC _ (List.getElem_mem _)
theorem Qt {q t w:Nat} (h:a.place=some q) (hw:w<a.words.length):({ a with now:=t }:Abs).by_ w=(wU a t w (dI a us)).list:=by
 have hu:=wW hO hT h
 obtain⟨p1,p2,p3⟩:=Kt.ib (wG hO hT hw)
 have he:(a.e:Int)<(dI a us).lo:=by have:=hu.lo;have:=hT.e;omega
 have hm:({ a with now:=t }:Abs).mine ({ a with now:=t }:Abs).at_.from_=(dI a us).list:=Kt.Ak (a:={ a with now:=t }) hO.units (show us[a.at_.from_]?=some (dI a us) from wX hO hT h)
 unfold Abs.by_
 rw[hm]
 have hc:Kt.Came a.lens a.down (K1 a t):=⟨hO.came.Kk,hO.came.odd⟩
 have:=Kt.Sl (v:=dI a us) (t:=a.letters w) he p1 p2 hc
 rw[show wU a t w (dI a us)=Kt.fC (Kh316.pattern (a.letters w)) a.lens (a.down || !a.lens.isEmpty) (K1 a t) (dI a us) a.e from rfl,←this]
 rfl
theorem S2 (v:Kt.U) (h1:0≤v.lo):v.list.isEmpty=!decide (v.lo≤v.hi)∨v.hi<0:=by
 by_cases h:v.hi<0
 ·exact .inr h
 ·refine .inl ?_
  unfold Kt.U.list
  rw[Kt.yb,Bool.eq_iff_iff]
  simp
  omega
end
theorem Qj {v:Kt.U} (h:1≤v.lo):(!v.list.isEmpty)=decide (v.lo≤v.hi):=by
 unfold Kt.U.list
 rw[Kt.yb,Bool.eq_iff_iff]
 simp
 omega
theorem RY {a:Abs} {t w:Nat} {u:Kt.U} (h:1≤u.lo):1≤(wU a t w u).lo:=by
 unfold wU
 by_cases g:(Kh316.pattern (a.letters w)).length<a.lens.length
 ·unfold Kt.fC
  rw[if_pos g]
  exact Int.le_refl _
 ·exact Int.le_trans h (Kt.wI g).lo
section
variable {a:Abs} {us ss:List Kt.U} (hO:Kt.Opened a us ss) (hT:Kt.Told a)
include hO hT
theorem JM {q t:Nat} (h:a.place=some q):({ a with now:=t }:Abs).open_=(IT a t us).map Prod.fst:=by
 have hp:=hT.pl _ (jS hO hT h).2.1
 have hu:=wW hO hT h
 have h1:1≤(dI a us).lo:=by have:=hu.lo;have:=hT.lo1;omega
 unfold Abs.open_ IT GO
 rw[List.filter_map,List.map_map]
 have :∀l:List (Nat×Option Nat),(∀w∈l,w.1<a.words.length)→l.filter (fun w=>!(({ a with now:=t }:Abs).by_ w.1).isEmpty)=(l.filter ((fun c:(Nat×Option Nat)×Kt.U=>decide (c.2.lo≤c.2.hi))∘fun w=>(w,wU a t w.1 (dI a us)))).map (Prod.fst∘fun w=>(w,wU a t w.1 (dI a us))):=fun l hl=>by
  rw[show (Prod.fst∘fun w:Nat×Option Nat=>(w,wU a t w.1 (dI a us)))=id from rfl,List.map_id]
  refine List.filter_congr fun w hw=>?_
  rw[Qt hO hT h (hl w hw),Qj (RY h1)]
  rfl
 exact this _ hp.word
theorem Eb {q t:Nat} (h:a.place=some q):({ a with now:=t }:Abs).settled=(uB a t us).map Prod.fst:=by
 have hp:=hT.pl _ (jS hO hT h).2.1
 have hu:=wW hO hT h
 have he:(a.e:Int)<(dI a us).lo:=by have:=hu.lo;have:=hT.e;omega
 unfold Abs.settled uB
 rw[JM hO hT h]
 cases hc:IT a t us with
 | nil=>rfl
 | cons c r=>
  cases r with
  | cons d r=>rfl
  | nil=>
   have hm:c∈IT a t us:=by rw[hc];exact List.mem_cons_self
   unfold IT GO at hm
   obtain⟨hm,hle⟩:=List.mem_filter.mp hm
   obtain⟨w,hw,rfl⟩:=List.mem_map.mp hm
   have hww:=hp.word w hw
   obtain⟨p1,p2,p3⟩:=Kt.ib (wG hO hT hww)
   have hcm:Kt.Came a.lens a.down (K1 a t):=⟨hO.came.Kk,hO.came.odd⟩
   have ov:=Kt.Rg (v:=dI a us) (t:=a.letters w.1) he p1 p2 hcm (of_decide_eq_true hle)
   have hmn:({ a with now:=t }:Abs).mine ({ a with now:=t }:Abs).at_.from_=(dI a us).list:=Kt.Ak (a:={ a with now:=t }) hO.units (show us[a.at_.from_]?=some (dI a us) from wX hO hT h)
   show (if ((({ a with now:=t }:Abs).by_ w.1).all fun u=>Kh316.isOver u a.e (a.letters w.1) ⟨a.lens,a.down,K1 a t⟩) then some w else none)=_
   have e1:((({ a with now:=t }:Abs).by_ w.1).all fun u=>Kh316.isOver u a.e (a.letters w.1) ⟨a.lens,a.down,K1 a t⟩)=(decide (a.lens.length=(Kh316.pattern (a.letters w.1)).length)&&decide (3 * (wU a t w.1 (dI a us)).hi+(a.e:Int)<(K1 a t:Int))):=by
    rw[show wU a t w.1 (dI a us)=Kt.fC (Kh316.pattern (a.letters w.1)) a.lens (a.down || !a.lens.isEmpty) (K1 a t) (dI a us) a.e from rfl,←ov]
    unfold Abs.by_
    rw[hmn]
    rfl
   rw[e1]
   show _=Option.map Prod.fst (if _ then some (w,wU a t w.1 (dI a us)) else none)
   by_cases g:(decide (a.lens.length=(Kh316.pattern (a.letters w.1)).length)&&decide (3 * (wU a t w.1 (dI a us)).hi+(a.e:Int)<(K1 a t:Int)))=true
   ·rw[if_pos g,if_pos g];rfl
   ·rw[if_neg g,if_neg g];rfl
theorem O7 {q t:Nat} {c:(Nat×Option Nat)×Kt.U} (h:a.place=some q) (hs:uB a t us=some c):c.1∈a.at_.ways∧c.2=wU a t c.1.1 (dI a us)∧Kt.Sn a c.2∧({ a with now:=t }:Abs).by_ c.1.1=c.2.list:=by
 have hp:=hT.pl _ (jS hO hT h).2.1
 have hu:=wW hO hT h
 unfold uB at hs
 have hc:c∈IT a t us:=by
  split at hs
  ·rename_i d hd
   split at hs
   ·cases hs;rw[hd];exact List.mem_cons_self
   ·cases hs
  ·cases hs
 unfold IT GO at hc
 obtain⟨hm,hle⟩:=List.mem_filter.mp hc
 obtain⟨w,hw,rfl⟩:=List.mem_map.mp hm
 have hle:=of_decide_eq_true hle
 refine⟨hw,rfl,?_,Qt hO hT h (hp.word w hw)⟩
 have hs2:¬(Kh316.pattern (a.letters w.1)).length<a.lens.length:=fun g=>by
  have :(wU a t w.1 (dI a us))=⟨1,0⟩:=by unfold wU Kt.fC;rw[if_pos g]
  rw[this] at hle
  exact absurd (show (1:Int)≤0 from hle) (by decide)
 have sb:Kt.Sub (wU a t w.1 (dI a us)) (dI a us):=Kt.wI hs2
 exact⟨Int.le_trans hu.lo sb.lo,hle,Int.le_trans sb.hi hu.hi⟩
end
theorem mD {a:Abs} (h:a.place=none):a.at_.ways=[]:=by unfold Abs.at_;rw[h]
theorem oR {a:Abs} (t:Nat) (us:List Kt.U) (h:a.place=none):({ a with now:=t }:Abs).settled=none∧uB a t us=none∧IT a t us=[]∧({ a with now:=t }:Abs).open_=[]:=by
 have e:({ a with now:=t }:Abs).at_.ways=[]:=mD (a:={ a with now:=t }) h
 have e2:IT a t us=[]:=by unfold IT GO;rw[mD h];rfl
 have e3:({ a with now:=t }:Abs).open_=[]:=by unfold Abs.open_;rw[e];rfl
 refine⟨by unfold Abs.settled;rw[e3],by unfold uB;rw[e2],e2,e3⟩
noncomputable def Tw (A:Ad) (F:Hp) (v:V) (u:Kt.U):Prop:=∃x dx,v=.ref x∧F x=some (.ins A.bg dx (bL (.int u.lo) (.int u.hi)))
noncomputable def U3 (A:Ad) (F:Hp) (v:V) (x:Kh317.Said×Kt.U):Prop:=∃t dx uv,v=.ref t∧F t=some (.ins A.bY dx (cM (.int x.1.place) (.int x.1.word) (.int x.1.tick) uv))∧Tw A F uv x.2
noncomputable def OH (A:Ad) (F:Hp) (v:V) (c:(Nat×Option Nat)×Kt.U):Prop:=∃x dx wv uv,v=.ref x∧F x=some (.ins A.bW dx (en wv uv))∧uW A F wv c.1∧Tw A F uv c.2
theorem Tw.same {A:Ad} {F F':Hp} {v:V} {u:Kt.U} (s:ax F F') (h:Tw A F v u):Tw A F' v u:=by
 obtain⟨x,dx,e,h⟩:=h
 exact⟨x,dx,e,s _ _ h⟩
theorem U3.same {A:Ad} {F F':Hp} {v:V} {x:Kh317.Said×Kt.U} (s:ax F F') (h:U3 A F v x):U3 A F' v x:=by
 obtain⟨t,dx,uv,e,h,g⟩:=h
 exact⟨t,dx,uv,e,s _ _ h,g.same s⟩
theorem OH.same {A:Ad} {F F':Hp} {v:V} {c:(Nat×Option Nat)×Kt.U} (s:ax F F') (h:OH A F v c):OH A F' v c:=by
 obtain⟨x,dx,wv,uv,e,h,g,k⟩:=h
 exact⟨x,dx,wv,uv,e,s _ _ h,g.same s,k.same s⟩
structure TA where
 dx :Addr
 sa :Addr
 jZ :Addr
 ul :Addr
 ca :Addr
 AN :Addr
 la :Addr
 sl :Addr
 tu :Int
 uv :List V
 Vh :List V
 sv :List V
noncomputable def TA.cu (y:TA) (ta:Addr):List Addr:=[ta,y.ul,y.sl,y.ca,y.la]
structure mh (A:Ad) (H F:Hp) (ta:Addr) (y:TA) (z:SA) (a:Abs) (us ss:List Kt.U):Prop where
 zw :H ta=some (.ins A.aj y.dx (aP (.ref y.sa) (.ref y.jZ) (.int (xq a.place)) (.ref y.ul) (.ref y.ca) (.int a.now) (.ref y.sl)))
 j9 :fB A F F y.sa z a
 jZ :F y.jZ=some (.lst y.Vh)
 Sg :dg (fun v c=>uz A a.script c F v) y.Vh (List.range a.p)
 ul :H y.ul=some (.lst y.uv)
 OD :dg (Tw A F) y.uv us
 came :H y.ca=some (.ins A.bp y.AN (cH (.ref y.la) (.bl a.down) (.int y.tu)))
 lens :H y.la=some (.lst (nats a.lens))
 Su :∀t,a.last=some t→y.tu=(t:Int)
 sl :H y.sl=some (.lst y.sv)
 said :dg (U3 A F) y.sv (a.said.zip ss)
 j3 :Kt.Opened a us ss
 told :Kt.Told a
structure bH (A:Ad) (X M:List Addr) (H:Hp) (ta:Addr) (y:TA) (z:SA) (a:Abs) (us ss:List Kt.U):Prop where
 r :mh A H (Off M H) ta y z a us ss
 live :∀m∈M,∃o,H m=some o
 cu :∀m∈y.cu ta,m∈M
 nd :(y.cu ta).Nodup
 xs :∀x∈X,x∈M∧x∉y.cu ta
theorem mh.move {A:Ad} {H H' F F':Hp} {ta:Addr} {y:TA} {z:SA} {a:Abs} {us ss:List Kt.U} (r:mh A H F ta y z a us ss) (s:ax F F') (e:∀m∈y.cu ta,∀o,H m=some o→H' m=some o):mh A H' F' ta y z a us ss where
 zw:=e _ (by simp[TA.cu]) _ r.zw
 j9:=r.j9.move s fun _ _ _ h=>s _ _ h
 jZ:=s _ _ r.jZ
 Sg:=r.Sg.mono fun _ _ h=>h.same s
 ul:=e _ (by simp[TA.cu]) _ r.ul
 OD:=r.OD.mono fun _ _ h=>h.same s
 came:=e _ (by simp[TA.cu]) _ r.came
 lens:=e _ (by simp[TA.cu]) _ r.lens
 Su:=r.Su
 sl:=e _ (by simp[TA.cu]) _ r.sl
 said:=r.said.mono fun _ _ h=>h.same s
 j3:=r.j3
 told:=r.told
theorem bH.same {A:Ad} {X M:List Addr} {H H':Hp} {ta:Addr} {y:TA} {z:SA} {a:Abs} {us ss:List Kt.U} (r:bH A X M H ta y z a us ss) (s:ax H H'):bH A X M H' ta y z a us ss:=
 ⟨r.r.move (cO fun b o _ e=>s b o e) fun m _ o e=>s m o e,fun m hm=>by obtain⟨o,e⟩:=r.live m hm;exact⟨o,s _ _ e⟩,r.cu,r.nd,r.xs⟩
theorem G0 {M:List Addr} {H H':Hp} {b:Addr} {o:HO} (live:∀m∈M,∃o,H m=some o) (h:H b=none) (h':H' b=some o):Off M H' b=some o:=aS.mpr ⟨fun hb=>(by obtain⟨o,e⟩:=live b hb;rw[e] at h;cases h),h'⟩
theorem bH.read {A:Ad} {X M:List Addr} {H:Hp} {ta:Addr} {y:TA} {z:SA} {a:Abs} {us ss:List Kt.U} (r:bH A X M H ta y z a us ss):mh A H H ta y z a us ss:=r.r.move jo fun _ _ _ e=>e
theorem mh.here {A:Ad} {H:Hp} {ta:Addr} {y:TA} {z:SA} {a:Abs} {us ss:List Kt.U} (r:mh A H H ta y z a us ss) {q:Nat} (h:a.place=some q):∃pa pdx wl ws,DS z.qv (xq a.place)=some (.ref pa)∧H pa=some (.ins A.bh pdx (cP (.int a.at_.from_) (.int a.at_.to_) (.ref wl)))∧H wl=some (.lst ws)∧dg (uW A H) ws a.at_.ways∧¬xq a.place=255:=by
 have hq:=r.j3.place q h
 have hp:=(jS r.j3 r.told h).2.2
 obtain⟨v,hv,pa,pdx,wl,ws,rfl,h1,h2,h3⟩:=dg.get' (r.j9.places (ax.refl _)) hp
 refine⟨pa,pdx,wl,ws,?_,h1,h2,h3,?_⟩
 ·rw[h];exact bt hv
 ·rw[h]
  have:=r.told.NT
  show ¬((q:Int)=255)
  omega
noncomputable def D9 (K:PySem.W.Frag) (A:Ad):Sp:=fun vs0 H Q _=>∃(ta:Addr) (y:TA) (z:SA) (a:Abs) (us ss:List Kt.U) (c:Nat),vs0=[.ref ta,.int c]∧(mh A H H ta y z a us ss)∧(Q (.bl (Kh317.speaks a c)) H)
theorem EG {P:Program} {w:World} {K:PySem.W.Frag} {mg:Str→Option Value} {base:Heap} {A:Ad} (T:Txt K mg A):bz P w K mg base gw 1 A.ip A.iD ["self","party"] (D9 K A):=by
 refine T.AI.ok Eh (fun vs H Q E h=>?_) (fun cdv Ar outer sh H vs Q E hr h=>?_)
 ·obtain⟨_,_,_,_,_,_,_,rfl,_⟩:=h
  rfl
 ·obtain⟨ta,y,z,a,us,ss,c,rfl,hT,kk⟩:=h
  have hu:=aY hr
  have hu64:=hr.units
  refine⟨_,(ag (aq (Lx (jm CC (ak (pv 0) rfl) (aw rfl T.yj) (aI _)) (yQ (jm cg (ak (bw aN (ak (ak (pv 0) rfl) rfl) (ak (pv 0) rfl) (fun _ _=>rfl)) rfl) (pv 1) (aI _)))))),?_⟩
  try dsimp only[Of]
  have htk:=hT.zw
  have hsa:=hT.j9.j9
  have hpc:=hT.j9.tI
  cases hp:a.place with
  | none=>
   rw[hp] at htk
   have e:Kh317.speaks a c=false:=by unfold Kh317.speaks;rw[hp]
   rw[e] at kk
   exact⟨_,rfl,⟨_,_,_,_,_,rfl,htk,T.aj,T.bD,b0,(yc ⟨_,rfl,mz (fun h=>absurd rfl h) (fun h=>kk)⟩)⟩⟩
  | some q=>
   obtain⟨pa,pdx,wl,ws,hat,hpa,_,_,hne⟩:=hT.here hp
   have e:Kh317.speaks a c=(a.at_.from_==c):=by unfold Kh317.speaks;rw[hp]
   rw[e] at kk
   refine⟨_,rfl,⟨_,_,_,_,_,rfl,by assumption,T.aj,T.bD,b0,(yc ⟨_,rfl,mz (fun h=>⟨_,rfl,⟨_,_,_,_,_,rfl,by assumption,T.aj,T.aG,aJ,⟨_,_,_,_,_,rfl,by assumption,T.au,T.aR,aV,⟨_,rfl,⟨_,_,_,_,_,rfl,by assumption,T.aj,T.bD,b0,⟨_,_,_,_,rfl,rfl,(aM.of hpc),(hat),⟨_,_,_,_,_,rfl,by assumption,T.bh,T.bq,bG,⟨_,rfl,(bJ ?r0)⟩⟩⟩⟩⟩⟩⟩⟩) (fun h=>?f3)⟩)⟩⟩
   case r0=>rw[eq_int];exact kk
   case f3=>exact absurd h hne
noncomputable def uZ (K:PySem.W.Frag) (A:Ad):Sp:=fun vs0 H Q _=>∃(ta dx:Addr) (v1 v2 v3 v4 v5 v6:V) (n t:Nat),vs0=[.ref ta,.int t]∧(H ta=some (.ins A.aj dx (aP v1 v2 v3 v4 v5 (.int n) v6)))∧(Q (.bl (decide (n≤t)&&decide (t<2147483648))) H)
theorem md {P:Program} {w:World} {K:PySem.W.Frag} {mg:Str→Option Value} {base:Heap} {A:Ad} (T:Txt K mg A):bz P w K mg base gw 1 A.cJ A.cK ["self","tick"] (uZ K A):=by
 refine T.oQ.ok u1 (fun vs H Q E h=>?_) (fun cdv Ar outer sh H vs Q E hr h=>?_)
 ·obtain⟨_,_,_,_,_,_,_,_,_,_,rfl,_⟩:=h
  rfl
 ·obtain⟨ta,dx,v1,v2,v3,v4,v5,v6,n,t,rfl,htk,kk⟩:=h
  have hu:=aY hr
  have hu64:=hr.units
  refine⟨_,(ag (aq (Ex ma JN (ak (pv 0) rfl) (pv 1) (aw rfl T.lO)))),?_⟩
  try dsimp only[Of]
  refine⟨_,rfl,⟨_,_,_,_,_,rfl,by assumption,T.aj,T.fk,qY,⟨_,rfl,⟨_,_,rfl,rfl,_,rfl,aL (fun h=>⟨_,_,rfl,rfl,?r0⟩) (fun h=>?f1)⟩⟩⟩⟩
  case r0=>
   rw[decide_eq_true (show n≤t by omega),Bool.true_and] at kk
   dsimp only
   rw[show decide ((t:Int)<2147483648)=decide (t<2147483648) from decide_eq_decide.mpr (by omega)]
   exact kk
  case f1=>
   rw[decide_eq_false (show ¬n≤t by omega),Bool.false_and] at kk
   exact kk
theorem MD (a:Abs) (t:Nat):(decide (a.now≤t)&&decide (t<2147483648))=!Kh317.late a t:=by
 unfold Kh317.late
 rw[Bool.eq_iff_iff]
 simp
theorem Qo {a:Abs} {t:Nat} {tu:Int} (hC:Kt.Cu a) (htu:∀s,a.last=some s→tu=(s:Int)):((a.down || decide (0<a.lens.length))&&decide ((t:Int)≤tu))=Kh317.close a t:=by
 unfold Kh317.close
 cases h:a.last with
 | none=>
  obtain⟨h1,h2⟩:=hC.none_ h
  rw[h1,h2]
  rfl
 | some s=>
  have h1:=(hC.zM s h).1
  rw[htu s h]
  have :(a.down || decide (0<a.lens.length))=true:=by
   rcases h1 with h1 | h1
   ·rw[h1];rfl
   ·cases hl:a.lens with
    | nil=>exact absurd hl h1
    | cons x r=>simp
  rw[this,Bool.true_and]
  show decide ((t:Int)≤(s:Int))=decide (t≤s)
  exact decide_eq_decide.mpr (by omega)
noncomputable def xu (K:PySem.W.Frag) (A:Ad):Sp:=fun vs0 H Q _=>∃(ta:Addr) (y:TA) (z:SA) (a:Abs) (us ss:List Kt.U) (c t:Nat) (d:Bool),vs0=[.ref ta,.int c,.int t,.bl d]∧(mh A H H ta y z a us ss)∧(Q (.int (Kh317.key a d c t).2.value) H)
theorem xF {P:Program} {w:World} {K:PySem.W.Frag} {mg:Str→Option Value} {base:Heap} {A:Ad} (T:Txt K mg A):bz P w K mg base gw 2 A.du A.dA ["self","party","tick","pressed"] (xu K A):=by
 refine T.qN.ok xB (fun vs H Q E h=>?_) (fun cdv Ar outer sh H vs Q E hr h=>?_)
 ·obtain⟨_,_,_,_,_,_,_,_,_,rfl,_⟩:=h
  rfl
 ·obtain⟨ta,y,z,a,us,ss,c,t,d,rfl,hT,kk⟩:=h
  have hu:=aY hr
  have hu64:=hr.units
  refine⟨_,(ab (aT (aA pJ (pv 1) (ak (ak (pv 0) rfl) rfl) (aI _)) (ag (aq (aw rfl T.fA))) ay)
   (ab (aT (jU (ly (cz (pv 0) T.aj T.vH (EG T) (hr.mono (by decide)) T.A8 .nil aK (aa (pv 1) ah)))) (ag (aq (aw rfl T.qI))) ay)
   (ab (aT (jU (ly (cz (pv 0) T.aj T.iJ (md T) (hr.mono (by decide)) T.jX .nil aK (aa (pv 2) ah)))) (ag (aq (aw rfl T.fA))) ay)
   (ab (aT (aA cg (ak (ak (pv 0) rfl) rfl) (pv 3) (aI _)) (ag (aq (aw rfl T.E7))) ay)
   (ab (aT (PW.pt (Es (ly (j0 (ak (pv 0) rfl) T.bp T.ny (rp T) (hr.mono (by decide)) T.qX .nil aK)) (zY (aA ma (pv 2) (ak (ak (pv 0) rfl) rfl) (aI _))))) (ag (aq (aw rfl T.fA))) ay)
   (ab (aT (aA cg (aD aB (by rfl) T.cw PySem.boot_len (aa (ak (ak (pv 0) rfl) rfl) ah)) (aw rfl T.lR) (aI _)) (ag (aq (aw rfl T.t4))) ay)
   (ag (aq aH)))))))),?_⟩
  try dsimp only[Of]
  have htk:=hT.zw
  have hsa:=hT.j9.j9
  have hca:=hT.came
  have hla:=hT.lens
  have hcl:=Qo (t:=t) hT.j3.came hT.Su
  have hmost:=hT.j3.came.most
  have Im:Kh317.key a d c t=if a.p≤c then (a,Kh317.say (-22)) else if !Kh317.speaks a c then (a,Kh317.say (-1)) else if Kh317.late a t then (a,Kh317.say (-22)) else if a.down==d then (a,Kh317.say (-16)) else if Kh317.close a t then (a,Kh317.say (-22)) else if 160≤a.lens.length then (a,Kh317.say (-28)) else (Kh317.goes a d t,Kh317.say 0):=rfl
  rw[Im] at kk
  refine⟨_,rfl,⟨_,rfl,⟨_,_,_,_,_,rfl,by assumption,T.aj,T.aG,aJ,⟨_,_,_,_,_,rfl,by assumption,T.au,T.aO,aU,⟨_,_,rfl,rfl,⟨_,rfl,(aL (fun h=>?r0) (fun h=>⟨_,rfl,⟨_,_,_,rfl,by assumption,EL,⟨_,rfl,?zi⟩⟩⟩))⟩⟩⟩⟩⟩⟩
  case r0=>rw[if_pos (by omega)] at kk;exact kk
  case zi=>
   rw[if_neg (by omega)] at kk
   refine⟨_,_,_,_,_,_,_,rfl,hT,?_⟩
   refine⟨_,rfl,(ez (fun h=>?r1) (fun h=>⟨_,rfl,⟨_,_,_,rfl,by assumption,mf,⟨_,rfl,?qk⟩⟩⟩))⟩
   case r1=>rw[h,if_pos (by decide)] at kk;exact kk
   case qk=>
    rw[h,if_neg (by decide)] at kk
    refine⟨_,_,_,_,_,_,_,_,_,_,rfl,htk,?_⟩
    rw[MD]
    refine⟨_,rfl,(ez (fun h=>?r2) (fun h=>⟨_,rfl,⟨_,_,_,_,_,rfl,by assumption,T.aj,T.bK,dE,⟨_,_,_,_,_,rfl,by assumption,T.bp,T.cq,ko,⟨_,rfl,(Ug ⟨_,rfl,(aL (fun h=>?r3) (fun h=>⟨_,rfl,⟨_,_,_,_,_,rfl,by assumption,T.aj,T.bK,dE,⟨_,_,_,rfl,by assumption,nr,⟨_,_,_,_,_,_,rfl,by assumption,by assumption,⟨_,rfl,(df (fun h=>⟨_,rfl,⟨_,rfl,⟨_,_,_,_,_,rfl,by assumption,T.aj,T.bK,dE,⟨_,_,_,_,_,rfl,by assumption,T.bp,T.eE,wB,⟨_,_,rfl,rfl,⟨_,rfl,(df (fun h=>?r4) (fun h=>⟨_,rfl,⟨_,_,_,_,_,rfl,by assumption,T.aj,T.bK,dE,⟨_,_,_,_,_,rfl,by assumption,T.bp,T.bO,de,⟨_,_,rfl,.inl (aM.of hla),(bJ ⟨_,rfl,(aL (fun h=>?r5) (fun h=>?r6))⟩)⟩⟩⟩⟩))⟩⟩⟩⟩⟩⟩) (fun h=>?f8))⟩⟩⟩⟩⟩))⟩)⟩⟩⟩⟩))⟩
    case r2=>rw[Bool.not_eq_false'] at h;rw[if_pos h] at kk;exact kk
    case r3=>
     have hl:=‹(!Kh317.late a t)=true›
     rw[Bool.not_eq_true'] at hl
     rw[hl,if_neg (by decide),if_pos (by simpa using h)] at kk;exact kk
    case r4=>
     have hl:=‹(!Kh317.late a t)=true›
     rw[Bool.not_eq_true'] at hl
     have hd:=‹¬a.down=d›
     have hb:=‹(a.down || _)=true›
     rw[aE] at hb
     rw[hb,h,Bool.true_and] at hcl
     rw[hl,if_neg (by decide),if_neg (by simpa using hd),if_pos hcl.symm] at kk;exact kk
    case r5=>
     have hl:=‹(!Kh317.late a t)=true›
     rw[Bool.not_eq_true'] at hl
     have hd:=‹¬a.down=d›
     have hb:=‹(a.down || _)=true›
     have ht2:=‹decide _=false›
     rw[aE] at hb h
     rw[hb,ht2,Bool.true_and] at hcl
     rw[hl,if_neg (by decide),if_neg (by simpa using hd),←hcl,if_neg (by decide),if_pos (by omega)] at kk;exact kk
    case r6=>
     have hl:=‹(!Kh317.late a t)=true›
     rw[Bool.not_eq_true'] at hl
     have hd:=‹¬a.down=d›
     have hb:=‹(a.down || _)=true›
     have ht2:=‹decide _=false›
     rw[aE] at hb h
     rw[hb,ht2,Bool.true_and] at hcl
     rw[hl,if_neg (by decide),if_neg (by simpa using hd),←hcl,if_neg (by decide),if_neg (by omega)] at kk;exact kk
    case f8=>
     have hl:=‹(!Kh317.late a t)=true›
     rw[Bool.not_eq_true'] at hl
     have hd:=‹¬a.down=d›
     rw[aE] at h
     rw[h,Bool.false_and] at hcl
     rw[hl,if_neg (by decide),if_neg (by simpa using hd),←hcl,if_neg (by decide)] at kk
     refine NX ⟨_,rfl,⟨_,_,_,_,_,rfl,by assumption,T.aj,T.bK,dE,⟨_,_,_,_,_,rfl,by assumption,T.bp,T.bO,de,⟨_,_,rfl,.inl (aM.of hla),(bJ ⟨_,rfl,(aL (fun h=>?_) (fun h=>?_))⟩)⟩⟩⟩⟩
     ·rw[aE] at h;rw[if_pos (by omega)] at kk;exact kk
     ·rw[aE] at h;rw[if_neg (by omega)] at kk;exact kk
end
section
open Kh317 (Abs)
theorem ME (a:Abs) (d:Bool) (c t:Nat):Kh317.key a d c t=if a.p≤c then (a,Kh317.say (-22)) else if !Kh317.speaks a c then (a,Kh317.say (-1)) else if Kh317.late a t then (a,Kh317.say (-22)) else if a.down==d then (a,Kh317.say (-16)) else if Kh317.close a t then (a,Kh317.say (-22)) else if 160≤a.lens.length then (a,Kh317.say (-28)) else (Kh317.goes a d t,Kh317.say 0):=rfl
theorem M5 {v:Int} {a:Abs} (h:v≠0):((a,Kh317.say v):Abs×Kh317.Ans).2.value≠0:=h
theorem NU (a:Abs) (d:Bool) (c t:Nat):((Kh317.key a d c t).2.value≠0∧(Kh317.key a d c t).1=a)∨(Kh317.key a d c t=(Kh317.goes a d t,Kh317.say 0)∧Kh317.late a t=false∧a.down≠d∧a.lens.length<160):=by
 rw[ME]
 split
 ·exact .inl ⟨M5 (by decide),rfl⟩
 split
 ·exact .inl ⟨M5 (by decide),rfl⟩
 split
 ·exact .inl ⟨M5 (by decide),rfl⟩
 split
 ·exact .inl ⟨M5 (by decide),rfl⟩
 split
 ·exact .inl ⟨M5 (by decide),rfl⟩
 split
 ·exact .inl ⟨M5 (by decide),rfl⟩
 rename_i h1 h2 h3
 exact .inr ⟨rfl,by simpa using ‹¬Kh317.late a t=true›,by simpa using ‹¬(a.down==d)=true›,by omega⟩
theorem Ke {a:Abs} {us ss:List Kt.U} {d:Bool} {t:Nat} (h:Kt.Opened a us ss) (hl:Kh317.late a t=false) (hd:a.down≠d) (h160:a.lens.length<160):Kt.Opened (Kh317.goes a d t) us ss:=by
 have hC:=h.came
 have hl2:a.now≤t∧t<2147483648:=by
  unfold Kh317.late at hl
  simp at hl
  omega
 refine⟨h.ready,h.ne,h.whole,h.parts,h.place,h.units,h.Hw,fun v hv=>⟨(h.Jf v hv).lo,(h.Jf v hv).ne,(h.Jf v hv).hi⟩,?_,h.yE,h.Ue,fun i x v h1 h2=>?_⟩
 ·cases e:a.last with
  | none=>
   obtain⟨n1,n2⟩:=hC.none_ e
   have hlens:(Kh317.goes a d t).lens=[]:=by
    show (match a.last with | some s=>_ | none=>_)=_
    rw[e];exact n1
   have hdt:d=true:=by cases d with | true=>rfl | false=>exact absurd n2 hd
   refine⟨by rw[hlens];exact Nat.zero_le _,by rw[hlens];intro l hl;exact (nomatch hl),fun _=>(by rw[hlens];rfl),fun _ g=>absurd hlens g,fun g=>(nomatch g),fun s g=>?_,hl2.2⟩
   have g:some t=some s:=g
   cases g
   exact⟨.inl hdt,Nat.le_refl _⟩
  | some s=>
   have hlens:(Kh317.goes a d t).lens=a.lens++[Kh317.most (t - s)]:=by
    show (match a.last with | some s=>_ | none=>_)=_
    rw[e]
   have hb:=(hC.zM s e).1
   refine⟨by rw[hlens,List.length_append];exact h160,?_,fun g=>?_,fun g _=>?_,fun g=>(nomatch g),fun s g=>?_,hl2.2⟩
   ·rw[hlens]
    intro l hl
    rcases List.mem_append.mp hl with hl | hl
    ·exact hC.len l hl
    ·rw[List.mem_singleton.mp hl];exact Kt.Rp _
   ·have g:d=true:=g
    have hdn:a.down=false:=by cases q:a.down with | true=>rw[q,g] at hd;exact absurd rfl hd | false=>rfl
    have:=hC.odd hdn (hb.resolve_left (by rw[hdn];decide))
    rw[hlens,List.length_append,List.length_singleton]
    omega
   ·have g:d=false:=g
    have hdn:a.down=true:=by cases q:a.down with | false=>rw[q,g] at hd;exact absurd rfl hd | true=>rfl
    have:=hC.Kk hdn
    rw[hlens,List.length_append,List.length_singleton]
    omega
   ·have g:some t=some s:=g
    cases g
    exact⟨.inr (by rw[hlens];simp),Nat.le_refl _⟩
 ·have:=h.TM i x v h1 h2
  exact⟨this.place,this.word,this.tick,this.units,this.lo,this.ne,this.hi⟩
theorem N9 {a:Abs} (h:Kt.Told a) (d:Bool) (t:Nat):Kt.Told (Kh317.goes a d t):=⟨h.p2,h.p8,h.lo1,h.Gn,h.hi,h.e,h.QM,h.OC,h.NT,h.pl⟩
theorem xl {y:TA} {ta:Addr} (h:(y.cu ta).Nodup):ta≠y.ul∧ta≠y.sl∧ta≠y.ca∧ta≠y.la∧y.ul≠y.sl∧y.ul≠y.ca∧y.ul≠y.la∧y.sl≠y.ca∧y.sl≠y.la∧y.ca≠y.la:=by
 unfold TA.cu at h
 simp only[List.nodup_cons,List.mem_cons,List.not_mem_nil,not_or,or_false] at h
 obtain⟨⟨h1,h2,h3,h4⟩,⟨h5,h6,h7⟩,⟨h8,h9⟩,h10,_⟩:=h
 exact⟨h1,h2,h3,h4,h5,h6,h7,h8,h9,h10⟩
noncomputable def wC (X:List Addr) (H H':Hp):Prop:=∀x∈X,∀o,H x=some o→H' x=some o
theorem fB.of_eq {A:Ad} {H F:Hp} {sa:Addr} {z:SA} {a b:Abs} (r:fB A H F sa z a) (h1:b.p=a.p) (h2:b.lo=a.lo) (h3:b.hi=a.hi) (h4:b.e=a.e) (h5:b.words=a.words) (h6:b.places=a.places):fB A H F sa z b:=
 ⟨by rw[h1,h4];exact r.j9,by rw[h2,h3];exact r.un,r.wl,by rw[h5];exact r.ON,r.Be,by rw[h5];exact r.NG,r.tI,by rw[h6];exact r.ql,by rw[h6];exact r.OB,by rw[h6];exact r.Rf⟩
noncomputable def Bo (K:PySem.W.Frag) (A:Ad):Sp:=fun vs0 H Q _=>∃(ta:Addr) (X M:List Addr) (y:TA) (z:SA) (a:Abs) (us ss:List Kt.U) (c t:Nat) (d:Bool),vs0=[.ref ta,.int c,.int t,.bl d]∧(bH A X M H ta y z a us ss)∧(∀(y':TA) (H':Hp),y'.sa=y.sa→bH A X M H' ta y' z (Kh317.key a d c t).1 us ss→wC X H H'→Q (.int (Kh317.key a d c t).2.value) H')
theorem rT {P:Program} {w:World} {K:PySem.W.Frag} {mg:Str→Option Value} {base:Heap} {A:Ad} (T:Txt K mg A):bz P w K mg base gw 3 A.fL A.fU ["self","party","tick","pressed"] (Bo K A):=by
 refine T.vT.ok rR (fun vs H Q E h=>?_) (fun cdv Ar outer sh H vs Q E hr h=>?_)
 ·obtain⟨_,_,_,_,_,_,_,_,_,_,_,rfl,_⟩:=h
  rfl
 ·obtain⟨ta,X,M,y,z,a,us,ss,c,t,d,rfl,hT,kk⟩:=h
  have hu:=aY hr
  have hu64:=hr.units
  refine⟨_,(ab (bb (i:=4) rR.nd rfl (Or.inl rfl) (cz (pv 0) T.aj T.oN (xF T) (hr.mono (by decide)) T.qU .nil aK (aa (pv 1) (aa (pv 2) (aa (pv 3) ah)))))
   (ab (aT (aA cg (pv 4) aH (aI _)) (ab (cy (cz (ak (pv 0) rfl) T.bp T.sg (BI T) (hr.mono (by decide)) T.wz .nil aK (aa (pv 2) ah)))
   (ag (bA (pv 0) (pv 2) rfl))) ay)
   (ag (aq (pv 4))))),?_⟩
  try dsimp only[Of]
  have htk:=hT.r.zw
  have hca:=hT.r.came
  have hla:=hT.r.lens
  obtain⟨n1,n2,n3,n4,n5,n6,n7,n8,n9,n10⟩:=xl hT.nd
  refine⟨_,rfl,⟨_,_,_,rfl,by assumption,xI,⟨_,rfl,⟨_,rfl,⟨_,rfl,?sP⟩⟩⟩⟩⟩
  case sP=>
   refine⟨_,_,_,_,_,_,_,_,_,rfl,hT.read,?_⟩
   rcases NU a d c t with ⟨k1,k2⟩ | ⟨k1,k2,k3,k4⟩
   ·rw[k2] at kk
    refine⟨_,rfl,(bJ ⟨_,rfl,(aL (fun h=>⟨_,rfl,⟨_,_,_,_,_,rfl,by assumption,T.aj,T.bK,dE,⟨_,_,_,rfl,by assumption,rY,⟨_,rfl,?wj⟩⟩⟩⟩) (fun h=>⟨_,rfl,?r1⟩))⟩)⟩
    case wj=>exact absurd h k1
    case r1=>exact kk y H rfl hT fun x _ o e=>e
   ·rw[k1] at kk ⊢
    have hbg:(a.down || decide (0<(nats a.lens).length))=true↔a.last≠none:=by
     rw[aE]
     cases e:a.last with
     | none=>
      obtain⟨q1,q2⟩:=hT.r.j3.came.none_ e
      rw[q1,q2];simp
     | some s=>
      have q:=(hT.r.j3.came.zM s e).1
      simp only[ne_eq,reduceCtorEq,not_false_eq_true,iff_true,Bool.or_eq_true,decide_eq_true_eq]
      rcases q with q | q
      ·exact .inl q
      ·exact .inr (List.length_pos_iff.mpr q)
    refine⟨_,rfl,(bJ ⟨_,rfl,(aL (fun h=>?_) (fun h=>absurd rfl h))⟩)⟩
    refine⟨_,rfl,⟨_,_,_,_,_,rfl,htk,T.aj,T.bK,dE,⟨_,_,_,rfl,hca,rY,⟨_,rfl,?_⟩⟩⟩⟩
    refine⟨y.ca,y.AN,y.la,a.down,y.tu,t,nats a.lens,rfl,hca,hla,by rw[aE,sizeLine_eq];omega,fun H1 h1 h2 h3=>?_⟩
    have htk1:=h3 _ _ htk n3 n4
    refine⟨_,rfl,⟨_,rfl,?Ee⟩⟩
    case Ee=>
     refine⟨_,_,_,_,rfl,htk1,T.aj,T.fk,nU,?_⟩
     rw[tG]
     refine⟨_,rfl,?r0⟩
     case r0=>
      have gen:∀b o,H b=some o→b≠ta→b≠y.ca→b≠y.la→upd H1 ta (.ins A.aj y.dx (aP (.ref y.sa) (.ref y.jZ) (.int (xq a.place)) (.ref y.ul) (.ref y.ca) (.int t) (.ref y.sl))) b=some o:=fun b o e q1 q2 q3=>by
       rw[af q1]
       exact h3 _ _ e q2 q3
      have sF:ax (Off M H) (Off M (upd H1 ta (.ins A.aj y.dx (aP (.ref y.sa) (.ref y.jZ) (.int (xq a.place)) (.ref y.ul) (.ref y.ca) (.int t) (.ref y.sl))))):=cO fun b o hb e=>gen b o e (fun z1=>hb (by rw[z1];exact hT.cu _ (by simp[TA.cu]))) (fun z1=>hb (by rw[z1];exact hT.cu _ (by simp[TA.cu]))) (fun z1=>hb (by rw[z1];exact hT.cu _ (by simp[TA.cu])))
      have hdn:(!a.down)=d:=by cases q:a.down<;>cases d<;>first | rfl | (rw[q] at k3;exact absurd rfl k3)
      have r0:=hT.r
      have hlens:(if (a.down || decide (0<(nats a.lens).length))=true then nats a.lens++[.int (Kt.min2 (t - y.tu) 1000000)] else nats a.lens)=nats (Kh317.goes a d t).lens:=by
       show _=nats (match a.last with | some s=>a.lens++[Kh317.most (t - s)] | none=>a.lens)
       have hnow:a.now≤t:=by unfold Kh317.late at k2;simp at k2;omega
       cases e:a.last with
       | none=>rw[if_neg (fun q=>hbg.mp q e)]
       | some s=>
        rw[if_pos (hbg.mpr (by rw[e];exact Option.some_ne_none _)),J6 r0.j3.came hnow r0.Su (by rw[e];exact Option.some_ne_none _)]
        show _=nats (a.lens++[Kh317.most (t - s)])
        rw[lB]
        unfold K1
        rw[e]
        rfl
      refine kk { y with tu:=t } _ rfl ⟨⟨ae,(r0.j9.move sF fun _ _ _ e=>sF _ _ e).of_eq rfl rfl rfl rfl rfl rfl,sF _ _ r0.jZ,r0.Sg.mono fun _ _ h=>h.same sF,gen _ _ r0.ul (Ne.symm n1) n6 n7,r0.OD.mono fun _ _ h=>h.same sF,?_,?_,fun s hs=>?_,gen _ _ r0.sl (Ne.symm n2) n8 n9,r0.said.mono fun _ _ h=>h.same sF,Ke r0.j3 k2 k3 k4,N9 r0.told d t⟩,fun m hm=>?_,hT.cu,hT.nd,hT.xs⟩ ?_
      ·rw[af (Ne.symm n3),←hdn];exact h1
      ·rw[af (Ne.symm n4),←hlens];exact h2
      ·have hs:some t=some s:=hs
       cases hs;rfl
      ·obtain⟨o,e⟩:=hT.live m hm
       by_cases q1:m=ta
       ·exact⟨_,by rw[q1];exact ae⟩
       by_cases q2:m=y.ca
       ·exact⟨_,by rw[af q1,q2];exact h1⟩
       by_cases q3:m=y.la
       ·exact⟨_,by rw[af q1,q3];exact h2⟩
       exact⟨o,gen _ _ e q1 q2 q3⟩
      ·intro x hx o e
       have:=(hT.xs x hx).2
       exact gen _ _ e (fun z1=>this (by rw[z1];simp[TA.cu])) (fun z1=>this (by rw[z1];simp[TA.cu])) (fun z1=>this (by rw[z1];simp[TA.cu]))
noncomputable def HB (K:PySem.W.Frag) (A:Ad):Sp:=fun vs0 H Q _=>∃(ta:Addr) (X M:List Addr) (y:TA) (z:SA) (a:Abs) (us ss:List Kt.U) (c t:Nat),vs0=[.ref ta,.int c,.int t]∧(bH A X M H ta y z a us ss)∧(∀(y':TA) (H':Hp),y'.sa=y.sa→bH A X M H' ta y' z (Kh317.key a true c t).1 us ss→wC X H H'→Q (.int (Kh317.key a true c t).2.value) H')
theorem Ib {P:Program} {w:World} {K:PySem.W.Frag} {mg:Str→Option Value} {base:Heap} {A:Ad} (T:Txt K mg A):bz P w K mg base gw 4 A.kM A.kW ["self","party","tick"] (HB K A):=by
 refine T.Fh.ok HI (fun vs H Q E h=>?_) (fun cdv Ar outer sh H vs Q E hr h=>?_)
 ·obtain⟨_,_,_,_,_,_,_,_,_,_,rfl,_⟩:=h
  rfl
 ·obtain⟨ta,X,M,y,z,a,us,ss,c,t,rfl,hT,kk⟩:=h
  have hu:=aY hr
  have hu64:=hr.units
  refine⟨_,(ag (aq (cz (pv 0) T.aj T.mE (rT T) (hr.mono (by decide)) T.qa .nil aK (aa (pv 1) (aa (pv 2) (aa CB ah)))))),?_⟩
  try dsimp only[Of]
  have htk:=hT.r.zw
  refine⟨_,rfl,⟨_,_,_,rfl,by assumption,rW,⟨_,rfl,⟨_,rfl,?jf⟩⟩⟩⟩
  case jf=>exact⟨_,_,_,_,_,_,_,_,_,_,_,rfl,hT,kk⟩
noncomputable def Lk (K:PySem.W.Frag) (A:Ad):Sp:=fun vs0 H Q _=>∃(ta:Addr) (X M:List Addr) (y:TA) (z:SA) (a:Abs) (us ss:List Kt.U) (c t:Nat),vs0=[.ref ta,.int c,.int t]∧(bH A X M H ta y z a us ss)∧(∀(y':TA) (H':Hp),y'.sa=y.sa→bH A X M H' ta y' z (Kh317.key a false c t).1 us ss→wC X H H'→Q (.int (Kh317.key a false c t).2.value) H')
theorem LG {P:Program} {w:World} {K:PySem.W.Frag} {mg:Str→Option Value} {base:Heap} {A:Ad} (T:Txt K mg A):bz P w K mg base gw 4 A.pj A.pC ["self","party","tick"] (Lk K A):=by
 refine T.Ki.ok Lp (fun vs H Q E h=>?_) (fun cdv Ar outer sh H vs Q E hr h=>?_)
 ·obtain⟨_,_,_,_,_,_,_,_,_,_,rfl,_⟩:=h
  rfl
 ·obtain⟨ta,X,M,y,z,a,us,ss,c,t,rfl,hT,kk⟩:=h
  have hu:=aY hr
  have hu64:=hr.units
  refine⟨_,(ag (aq (cz (pv 0) T.aj T.mE (rT T) (hr.mono (by decide)) T.qa .nil aK (aa (pv 1) (aa (pv 2) (aa CB ah)))))),?_⟩
  try dsimp only[Of]
  have htk:=hT.r.zw
  refine⟨_,rfl,⟨_,_,_,rfl,by assumption,rW,⟨_,rfl,⟨_,rfl,?jf⟩⟩⟩⟩
  case jf=>exact⟨_,_,_,_,_,_,_,_,_,_,_,rfl,hT,kk⟩
end
section
open Kh317 (Abs)
noncomputable def vm (K:PySem.W.Frag) (A:Ad):Sp:=fun vs0 H Q _=>∃(ta:Addr) (X M:List Addr) (y:TA) (z:SA) (a:Abs) (us ss:List Kt.U) (v:V) (w:Nat×Option Nat) (t q:Nat),vs0=[.ref ta,v,.int t]∧(bH A X M H ta y z a us ss)∧(a.place=some q)∧(uW A H v w)∧(w.1<a.words.length)∧(a.now≤t)∧(∀(uv:V) (H':Hp),ax H H'→Tw A (Off M H') uv (wU a t w.1 (dI a us))→Q uv H')
theorem vC {P:Program} {w:World} {K:PySem.W.Frag} {mg:Str→Option Value} {base:Heap} {A:Ad} (T:Txt K mg A):bz P w K mg base gw 5 A.cW A.cY ["self","way","tick"] (vm K A):=by
 refine T.p6.ok iT (fun vs H Q E h=>?_) (fun cdv Ar outer sh H vs Q E hr h=>?_)
 ·obtain⟨_,_,_,_,_,_,_,_,_,_,_,_,rfl,_⟩:=h
  rfl
 ·obtain⟨ta,X,M,y,z,a,us,ss,v,w,t,q,rfl,hT,hq,hv,hw,ht,kk⟩:=h
  have hu:=aY hr
  have hu64:=hr.units
  refine⟨_,(ab (bb (i:=3) iT.nd rfl (Or.inl rfl) (bw aN (ak (ak (pv 0) rfl) rfl) (ak (pv 1) rfl) (fun _ _=>rfl)))
   (ab (bb (i:=4) iT.nd rfl (Or.inl rfl) (bw aN (ak (pv 0) rfl) (ak (bw aN (ak (ak (pv 0) rfl) rfl) (ak (pv 0) rfl) (fun _ _=>rfl)) rfl) (fun _ _=>rfl)))
   (ag (aq (aW (BD T) (hr.mono (by decide)) rfl T.kd T.pW.kp T.wk .nil aK (aa (pv 3) (aa (ak (pv 0) rfl) (aa (pv 2) (aa (pv 4) (aa (ak (ak (pv 0) rfl) rfl) ah)))))))))),?_⟩
  try dsimp only[Of]
  have R:=hT.read
  have htk:=R.zw
  have hsa:=R.j9.j9
  have hptl:=R.j9.Be
  have hpcl:=R.j9.tI
  have hul:=R.ul
  have hca:=R.came
  have hla:=R.lens
  obtain⟨wa,wdx,rfl,hwa⟩:=hv
  obtain⟨pa,pdx,wl,ws,hat,hpa,_,_,hne⟩:=R.here hq
  have hpw:(a.words.map Kh316.pattern)[w.1]?=some (Kh316.pattern (a.letters w.1)):=by
   unfold Abs.letters
   rw[List.getElem?_map,List.getD_eq_getElem?_getD,List.getElem?_eq_getElem hw]
   rfl
  have hpvl:w.1<z.pv.length:=by rw[R.j9.NG.1,List.length_map];exact hw
  have epv:z.pv[w.1]?=some z.pv[w.1]:=List.getElem?_eq_getElem hpvl
  obtain⟨ptn,eptn,hptn⟩:=R.j9.NG.2 w.1 _ _ epv hpw
  have hmu:=wX R.j3 R.told hq
  obtain⟨uv,huv,ux,yy,rfl,hux⟩:=hT.r.OD.get' hmu
  have huxH:=(aS.mp hux).2
  obtain⟨p1,p2,p3⟩:=Kt.ib (wG R.j3 R.told hw)
  refine⟨_,rfl,⟨_,_,_,_,_,rfl,by assumption,T.aj,T.aG,aJ,⟨_,_,_,_,_,rfl,by assumption,T.au,T.bV,ft,⟨_,rfl,⟨_,_,_,_,_,rfl,by assumption,T.eh,T.cR,eI,⟨_,_,_,_,rfl,rfl,(aM.of hptl),(bt (by rw[epv,eptn])),⟨_,rfl,⟨_,_,_,_,_,rfl,by assumption,T.aj,T.cS,gp,⟨_,rfl,⟨_,_,_,_,_,rfl,by assumption,T.aj,T.aG,aJ,⟨_,_,_,_,_,rfl,by assumption,T.au,T.aR,aV,⟨_,rfl,⟨_,_,_,_,_,rfl,by assumption,T.aj,T.bD,b0,⟨_,_,_,_,rfl,rfl,(aM.of hpcl),(hat),⟨_,_,_,_,_,rfl,by assumption,T.bh,T.bq,bG,⟨_,_,_,_,rfl,rfl,(aM.of hul),(bt huv),⟨_,rfl,⟨_,rfl,⟨_,_,_,_,_,rfl,by assumption,T.aj,T.bK,dE,⟨_,rfl,⟨_,rfl,⟨_,rfl,⟨_,_,_,_,_,rfl,by assumption,T.aj,T.aG,aJ,⟨_,_,_,_,_,rfl,by assumption,T.au,T.gz,uU,?v9⟩⟩⟩⟩⟩⟩⟩⟩⟩⟩⟩⟩⟩⟩⟩⟩⟩⟩⟩⟩⟩⟩⟩⟩
  case v9=>
   refine⟨ptn,y.ca,y.AN,y.la,ux,yy,_,_,_,y.tu,t,_,a.e,rfl,hptn,hca,hla,huxH,p1,fun x dx' H1 fx s1 hx=>?_⟩
   rw[QS R.j3.came ht R.Su] at hx
   refine kk _ _ s1 ⟨x,dx',rfl,?_⟩
   rcases fx with fx | fx
   ·exact G0 hT.live fx hx
   ·rw[fx] at hx ⊢
    exact aS.mpr ⟨(aS.mp hux).1,hx⟩
theorem Rv {J:It} {n:Nat} {Y:Nat→V→Hp→Prop} {Out:Nat→Option V→Hp→Prop} {g:TG} {tt:TT} {te:TE} {vs:List Nat} {σ:L2.St} {H:Hp} {Q:VK} (hn:n<sizeLine)
  (hstop:∀H',ax H H'→J.stop n H') (hgo:∀i H',i<n→ax H H'→J.go i H') (hy:∀i H' x H'',i<n→ax H H'→J.RX i H' x H''→ax H' H''∧Y i x H'')
  (mono:∀i o F F',i<n→ax F F'→Out i o F→Out i o F')
  (ht:∀D acc i x H' R,H' D=some (.lst acc)→i<n→ax H H'→Y i x H'→(∀o H'',ax H' H''→Out i o (Off [D] H'')→R o H'')→GR g tt te vs σ x H' R)
  (hq:∀(D:Addr) (Hend:Hp) (os:List (Option V)),H D=none→ax H Hend→os.length=n→Hend D=some (.lst (os.filterMap id))→(∀i o,os[i]?=some o→Out i o (Off [D] Hend))→Q (.ref D) Hend):Sf J g tt te vs σ H Q:=by
 intro D hD
 refine⟨fun i m Hi=>m=n - i∧i≤n∧∃os:List (Option V),os.length=i∧ax H Hi∧Hi D=some (.lst (os.filterMap id))∧∀j o,os[j]?=some o→Out j o (Off [D] Hi),
  ⟨n,rfl,Nat.zero_le _,[],rfl,aX hD,ae,fun j o e=>by simp at e⟩,?_⟩
 rintro i m Hi ⟨rfl,hi,os,ol,sm,hd,out⟩
 by_cases hlt:i<n
 ·refine .inr ⟨hgo i Hi hlt sm,fun H'=>∃os:List (Option V),os.length=i+1∧ax H H'∧H' D=some (.lst (os.filterMap id))∧∀j o,os[j]?=some o→Out j o (Off [D] H'),
   fun H' p=>⟨n - (i+1),by omega,rfl,hlt,p⟩,fun x H' yl=>?_⟩
  obtain⟨s1,y⟩:=hy i Hi x H' hlt sm yl
  have main:=ht D _ i x H' (RZ D fun H'=>∃os:List (Option V),os.length=i+1∧ax H H'∧H' D=some (.lst (os.filterMap id))∧∀j o,os[j]?=some o→Out j o (Off [D] H')) (s1 _ _ hd) hlt (sm.trans s1) y ?_
  ·exact main
  intro o H'' s2 ot
  have hd2:H'' D=some (.lst (os.filterMap id)):=s2 _ _ (s1 _ _ hd)
  have s3:ax H H'':=(sm.trans s1).trans s2
  have lenf:(os.filterMap id).length≤os.length:=List.length_filterMap_le _ _
  have all:∀j o',(os++[o])[j]?=some o'→Out j o' (Off [D] H''):=fun j o' e=>by
   rw[List.getElem?_append] at e
   split at e
   ·rename_i hj
    exact mono j o' _ _ (by omega) (cO fun b u _ e=>s2 _ _ (s1 _ _ e)) (out j o' e)
   ·rename_i hj
    have :j=os.length:=by
     have:=(List.getElem?_eq_some_iff.mp e).1
     simp at this
     omega
    subst this
    simp at e
    subst e
    rw[ol]
    exact ot
  cases o with
  | none=>
   refine⟨os++[none],by simp[ol],s3,?_,all⟩
   rw[DP,List.append_nil]
   exact hd2
  | some z=>
   refine⟨_,hd2,by omega,os++[some z],by simp[ol],?_,?_,fun j o' e=>?_⟩
   ·intro b u e
    rw[af (ao e hD)]
    exact s3 _ _ e
   ·rw[DP]
    exact ae
   ·refine mono j o' _ _ (by have:=(List.getElem?_eq_some_iff.mp e).1;simp at this;omega) (cO fun b u hb e=>?_) (all j o' e)
    rw[af (fun z=>hb (by rw[z];simp))]
    exact e
 ·have e:i=n:=by omega
  subst e
  exact .inl ⟨hstop Hi sm,hq D Hi os hD sm ol hd out⟩
theorem Ih {M:List Addr} {H:Hp} {D b C dx:Addr} {acc:List V} {fs:List (Str×V)} (hD:H D=some (.lst acc)) (h:Off M H b=some (.ins C dx fs)):Off M (Off [D] H) b=some (.ins C dx fs):=by
 obtain⟨h1,h2⟩:=aS.mp h
 refine aS.mpr ⟨h1,aS.mpr ⟨fun hb=>?_,h2⟩⟩
 rw[List.mem_singleton.mp hb,hD] at h2
 cases h2
theorem OH.off {A:Ad} {M:List Addr} {H:Hp} {D:Addr} {acc:List V} {v:V} {c:(Nat×Option Nat)×Kt.U} (hD:H D=some (.lst acc)) (h:OH A (Off M H) v c):OH A (Off M (Off [D] H)) v c:=by
 obtain⟨x,dx,wv,uv,e,h,⟨wa,wdx,e2,g⟩,⟨ux,yy,e3,k⟩⟩:=h
 exact⟨x,dx,wv,uv,e,Ih hD h,⟨wa,wdx,e2,Ih hD g⟩,⟨ux,yy,e3,Ih hD k⟩⟩
theorem RR {α β:Type} {R:α→β→Prop} {os:List (Option α)} {ys:List β} (hl:os.length=ys.length) (h:∀(i:Nat) (o:Option α),os[i]?=some o→∃v c,o=some v∧ys[i]?=some c∧R v c):dg R (os.filterMap id) ys:=by
 have e:∃vs:List α,os=vs.map some:=by
  clear hl
  induction os with
  | nil=>exact⟨[],rfl⟩
  | cons o os ih=>
   obtain⟨v,c,e,_⟩:=h 0 o rfl
   have :∃vs:List α,os=vs.map some:=by
    have h2:∀(i:Nat) (o:Option α),os[i]?=some o→∃v,o=some v:=fun i o e=>by
     obtain⟨v,_,e2,_⟩:=h (i+1) o (by simpa using e)
     exact⟨v,e2⟩
    clear ih h
    induction os with
    | nil=>exact⟨[],rfl⟩
    | cons o2 os ih=>
     obtain⟨v2,e2⟩:=h2 0 o2 rfl
     obtain⟨vs,e3⟩:=ih fun i o e=>h2 (i+1) o (by simpa using e)
     exact⟨v2::vs,by rw[e2,e3];rfl⟩
   obtain⟨vs,e3⟩:=this
   exact⟨v::vs,by rw[e,e3];rfl⟩
 obtain⟨vs,rfl⟩:=e
 have e2:(vs.map some).filterMap id=vs:=by simp[List.filterMap_map]
 rw[e2]
 refine⟨by simpa using hl,fun i x y hx hy=>?_⟩
 obtain⟨v,c,q1,q2,q3⟩:=h i (some x) (by rw[List.getElem?_map,hx];rfl)
 cases q1
 rw[hy] at q2
 cases q2
 exact q3
theorem bH.Us {A:Ad} {X M:List Addr} {H:Hp} {ta:Addr} {y:TA} {z:SA} {a:Abs} {us ss:List Kt.U} (r:bH A X M H ta y z a us ss) {q:Nat} (h:a.place=some q):∃pa pdx wl ws,DS z.qv (xq a.place)=some (.ref pa)∧H pa=some (.ins A.bh pdx (cP (.int a.at_.from_) (.int a.at_.to_) (.ref wl)))∧H wl=some (.lst ws)∧dg (uW A (Off M H)) ws a.at_.ways∧¬xq a.place=255:=by
 have hq:=r.r.j3.place q h
 have hp:=(jS r.r.j3 r.r.told h).2.2
 obtain⟨v,hv,pa,pdx,wl,ws,rfl,h1,h2,h3⟩:=dg.get' (r.r.j9.places (ax.refl _)) hp
 refine⟨pa,pdx,wl,ws,?_,jo _ _ h1,jo _ _ h2,h3,?_⟩
 ·rw[h];exact bt hv
 ·rw[h]
  have:=r.r.told.NT
  show ¬((q:Int)=255)
  omega
noncomputable def Bp (K:PySem.W.Frag) (A:Ad):Sp:=fun vs0 H Q _=>∃(ta:Addr) (X M:List Addr) (y:TA) (z:SA) (a:Abs) (us ss:List Kt.U) (t:Nat),vs0=[.ref ta,.int t]∧(bH A X M H ta y z a us ss)∧(a.now≤t)∧(∀(D:Addr) (cv:List V) (H':Hp),H D=none→ax H H'→H' D=some (.lst cv)→dg (OH A (Off M H')) cv (GO a t us)→Q (.ref D) H')
theorem rV {P:Program} {w:World} {K:PySem.W.Frag} {mg:Str→Option Value} {base:Heap} {A:Ad} (T:Txt K mg A):bz P w K mg base gw 6 A.fM A.fV ["self","tick"] (Bp K A):=by
 refine T.vU.ok ji (fun vs H Q E h=>?_) (fun cdv Ar outer sh H vs Q E hr h=>?_)
 ·obtain⟨_,_,_,_,_,_,_,_,_,rfl,_⟩:=h
  rfl
 ·obtain⟨ta,X,M,y,z,a,us,ss,t,rfl,hT,ht,kk⟩:=h
  have hu:=aY hr
  have hu64:=hr.units
  refine⟨_,(ab (aT (aA cg (ak (pv 0) rfl) (aw rfl T.yj) (aI _)) (ag (aq (bB ah))) ay)
   (ab (bb (i:=2) ji.nd rfl (Or.inl rfl) (ak (bw aN (ak (ak (pv 0) rfl) rfl) (ak (pv 0) rfl) (fun _ _=>rfl)) rfl))
   (ag (aq (nL rfl ji.nd (dP (pv 2)) (own:=[("way",3)]) (dO (N:=["self","tick","ways","way"]) (sc:=ai da) (by decide +kernel)) (fun _ _ _ _ _=>(bC (i:=3) ji.nd rfl (Or.inl rfl) (Or.inr rfl))) (fun _ _ _ _ _=>jl) (fun _ _ _ _ _=>(iO T.wV (EI T) (hr.mono (by decide)) rfl T.J4 T.Ba .nil aK (aa (pv 3) (aa (cz (pv 0) T.aj T.nQ (vC T) (hr.mono (by decide)) T.p9 .nil aK (aa (pv 3) (aa (pv 1) ah))) ah))))))))),?_⟩
  try dsimp only[Of]
  have R:=hT.read
  have htk:=R.zw
  have hsa:=R.j9.j9
  have hpcl:=R.j9.tI
  cases hp:a.place with
  | none=>
   rw[hp] at htk
   refine⟨_,rfl,⟨_,_,_,_,_,rfl,htk,T.aj,T.bD,b0,(bJ ⟨_,rfl,(aL (fun h=>?_) (fun h=>absurd rfl h))⟩)⟩⟩
   refine⟨Nat.zero_le _,fun D hD=>?_⟩
   refine kk D [] _ hD (aX hD) ae ?_
   unfold GO
   rw[mD hp]
   exact dg.nil
  | some q=>
   obtain⟨pa,pdx,wl,ws,hat,hpa,hwl,hws,hne⟩:=hT.Us hp
   have dN:=R.told.pl _ (jS R.j3 R.told hp).2.1
   refine⟨_,rfl,⟨_,_,_,_,_,rfl,by assumption,T.aj,T.bD,b0,(bJ ⟨_,rfl,(aL (fun h=>?lst0) (fun h=>⟨_,rfl,⟨_,_,_,_,_,rfl,by assumption,T.aj,T.aG,aJ,⟨_,_,_,_,_,rfl,by assumption,T.au,T.aR,aV,⟨_,rfl,⟨_,_,_,_,_,rfl,by assumption,T.aj,T.bD,b0,⟨_,_,_,_,rfl,rfl,(aM.of hpcl),(hat),⟨_,_,_,_,_,rfl,by assumption,T.bh,T.cB,eK,⟨_,rfl,?lc0⟩⟩⟩⟩⟩⟩⟩⟩))⟩)⟩⟩
   case lst0=>exact absurd h hne
   case lc0=>
    refine⟨_,rfl,⟨_,aM.of hwl⟩,Rv (J:=RT K wl) (n:=ws.length) (Y:=fun i x H'=>ws[i]?=some x) (Out:=fun i o G=>∃v c,o=some v∧(GO a t us)[i]?=some c∧OH A (Off M G) v c) (by rw[hws.1,sizeLine_eq];have:=dN.most;omega) (fun H' s=>⟨ws,s.seq (aM.of hwl),Nat.le_refl _⟩) (fun i H' hi s=>⟨ws,ws[i],s.seq (aM.of hwl),by simp[hi]⟩)
     (fun i H' x H'' hi s yl=>by obtain⟨e,yl⟩:=yl;subst e;exact⟨ax.refl _,yl ws (s.seq (aM.of hwl))⟩) (fun i o F F' _ s h=>by obtain⟨v,c,e1,e2,e3⟩:=h;exact⟨v,c,e1,e2,e3.same (cO fun b o _ e=>s _ _ e)⟩) ?_ ?_⟩
    ·intro D acc i xv H1 Rr hD1 hi s1 hx hR
     obtain⟨w,hw,hwv⟩:=hws.get hx
     have hwm:w∈a.at_.ways:=List.mem_of_getElem? hw
     have htk1:=s1 _ _ htk
     try dsimp only[Of]
     refine⟨rfl,rA ⟨_,rfl,⟨_,rfl,⟨_,_,_,rfl,by assumption,vF,⟨_,rfl,⟨_,rfl,?rH⟩⟩⟩⟩⟩⟩
     case rH=>
      refine⟨ta,X,M,y,z,a,us,ss,xv,w,t,q,rfl,hT.same s1,hp,(hwv.same jo).same s1,dN.word w hwm,ht,fun uv H2 s2 hu=>?_⟩
      refine ?zk
      case zk=>
       refine wV (K:=K) (E:=E0) fun x dx H3 nx s3 hx3=>?_
       refine hR _ _ (s2.trans s3) ⟨_,(w,wU a t w.1 (dI a us)),rfl,?_,OH.off (s3 _ _ (s2 _ _ hD1)) ⟨x,dx,xv,uv,rfl,?_,?_,?_⟩⟩
       ·unfold GO;rw[List.getElem?_map,hw];rfl
       ·exact G0 hT.live ((s1.trans s2).free nx) hx3
       ·exact hwv.same (cO fun b o _ e=>s3 _ _ (s2 _ _ (s1 _ _ e)))
       ·exact hu.same (cO fun b o _ e=>s3 _ _ e)
    ·intro D Hend os hD sE hl hDe hout
     refine kk D _ Hend hD sE hDe (RR (by rw[hl,hws.1];unfold GO;rw[List.length_map]) fun i o e=>?_)
     obtain⟨v,c,e1,e2,e3⟩:=hout i o e
     exact⟨v,c,e1,e2,e3.same (cO fun b o _ e=>jo _ _ e)⟩
noncomputable def JA {β:Type} (p:β→Bool):List V→List β→List V
 | v ::vs,w::ws=>if p w=true then v::JA p vs ws else JA p vs ws
 | _,_=>[]
theorem O6 {β:Type} (p:β→Bool) (d:β):∀(vs:List V) (ws:List β),vs.length=ws.length→((List.range vs.length).map fun i=>if p (ws.getD i d)=true then some (vs.getD i .dh) else none).filterMap id=JA p vs ws
 | [],[],_=>rfl
 | [],_::_,h=>by simp at h
 | _ ::_,[],h=>by simp at h
 | v ::vs,w::ws,h=>by
  have ih:=O6 p d vs ws (by simpa using h)
  rw[List.length_cons,List.range_succ_eq_map,List.map_cons,List.map_map]
  have e:((fun i=>if p ((w::ws).getD i d)=true then some ((v::vs).getD i V.dh) else none)∘Nat.succ)=fun i=>if p (ws.getD i d)=true then some (vs.getD i .dh) else none:=by
   funext i
   simp
  rw[e]
  show (List.filterMap id ((if p w=true then some v else none)::_))=if p w=true then v::JA p vs ws else JA p vs ws
  by_cases hp:p w=true
  ·rw[if_pos hp,if_pos hp]
   show v::List.filterMap id _=_
   rw[ih]
  ·rw[if_neg hp,if_neg hp]
   exact ih
theorem Jz {β:Type} {R:V→β→Prop} (p:β→Bool):∀(vs:List V) (ws:List β),dg R vs ws→dg R (JA p vs ws) (ws.filter p)
 | [],[],_=>dg.nil
 | [],_::_,h=>by have:=h.1;simp at this
 | _ ::_,[],h=>by have:=h.1;simp at this
 | v ::vs,w::ws,h=>by
  have h0:R v w:=h.2 0 v w rfl rfl
  have ht:dg R vs ws:=⟨by simpa using h.1,fun i x y a b=>h.2 (i+1) x y (by simpa using a) (by simpa using b)⟩
  have ih:=Jz p vs ws ht
  show dg R (if p w=true then v::JA p vs ws else JA p vs ws) _
  by_cases hp:p w=true
  ·rw[if_pos hp,List.filter_cons,if_pos hp]
   refine⟨by simp[ih.1],fun i x y a b=>?_⟩
   cases i with
   | zero=>simp at a b;subst a b;exact h0
   | succ i=>exact ih.2 i x y (by simpa using a) (by simpa using b)
  ·rw[if_neg hp,List.filter_cons,if_neg hp]
   exact ih
noncomputable def C2 (K:PySem.W.Frag) (A:Ad):Sp:=fun vs0 H Q _=>∃(ta:Addr) (X M:List Addr) (y:TA) (z:SA) (a:Abs) (us ss:List Kt.U) (t:Nat),vs0=[.ref ta,.int t]∧(bH A X M H ta y z a us ss)∧(a.now≤t)∧(∀(D:Addr) (cv:List V) (H':Hp),H D=none→ax H H'→H' D=some (.lst cv)→dg (OH A (Off M H')) cv (IT a t us)→Q (.ref D) H')
theorem uD {P:Program} {w:World} {K:PySem.W.Frag} {mg:Str→Option Value} {base:Heap} {A:Ad} (T:Txt K mg A):bz P w K mg base gw 7 A.gE A.gI ["self","tick"] (C2 K A):=by
 refine T.yk.ok oe (fun vs H Q E h=>?_) (fun cdv Ar outer sh H vs Q E hr h=>?_)
 ·obtain⟨_,_,_,_,_,_,_,_,_,rfl,_⟩:=h
  rfl
 ·obtain⟨ta,X,M,y,z,a,us,ss,t,rfl,hT,ht,kk⟩:=h
  have hu:=aY hr
  have hu64:=hr.units
  refine⟨_,(ag (aq (nL rfl oe.nd (dP (cz (pv 0) T.aj T.mF (rV T) (hr.mono (by decide)) T.qb .nil aK (aa (pv 1) ah))) (own:=[("choice",2)]) (dO (N:=["self","tick","choice"]) (sc:=ai dG) (by decide +kernel)) (fun _ _ _ _ _=>(bC (i:=2) oe.nd rfl (Or.inl rfl) (Or.inr rfl))) (fun _ _ _ _ _=>(DB (ly (j0 (ka (K:=K) rfl (pv 2) rfl) T.bg T.qA (Ac T) (hr.mono (by decide)) T.uR .nil aK)))) (fun _ _ _ _ _=>(pv 2))))),?_⟩
  try dsimp only[Of]
  have htk:=hT.r.zw
  refine⟨_,rfl,⟨_,_,_,rfl,by assumption,rX,⟨_,rfl,?wg⟩⟩⟩
  case wg=>
   refine⟨_,X,M,y,z,a,us,ss,t,rfl,hT,ht,fun D1 cv1 H1 hD1 s1 hcv1 L=>?_⟩
   have hwl:(GO a t us).length≤4:=by
    unfold GO
    rw[List.length_map]
    cases hp:a.place with
    | none=>rw[mD hp];exact Nat.zero_le _
    | some q=>exact (hT.r.told.pl _ (jS hT.r.j3 hT.r.told hp).2.1).most
   have hl4:cv1.length≤4:=by rw[L.1];exact hwl
   refine ?lc0
   case lc0=>
    refine⟨_,rfl,⟨_,aM.of hcv1⟩,BL (xs:=cv1) (Out:=fun i o _=>o=if decide (((GO a t us).getD i ((0,none),⟨0,0⟩)).2.lo≤((GO a t us).getD i ((0,none),⟨0,0⟩)).2.hi)=true then some (cv1.getD i .dh) else none) (by rw[sizeLine_eq];omega) (aM.of hcv1) (fun _ _ _ _ _ h=>h) ?_ ?_⟩
    ·intro i xv H2 R hx s2 hR
     obtain⟨c,hc,x,dx,wv,uv,rfl,hxx,hwv,⟨ux,yy,rfl,hux⟩⟩:=L.get hx
     have hx2:=s2 _ _ (aS.mp hxx).2
     have hu2:=s2 _ _ (aS.mp hux).2
     have e1:(GO a t us).getD i ((0,none),⟨0,0⟩)=c:=by rw[List.getD_eq_getElem?_getD,hc];rfl
     have e2:=Iw hx
     try dsimp only[Of]
     refine⟨rfl,⟨_,rfl,⟨_,_,_,_,_,rfl,by assumption,T.bW,T.dH,kn,⟨_,_,_,rfl,by assumption,Ag,⟨_,_,_,_,rfl,by assumption,⟨_,rfl,(df (fun h=>⟨_,rfl,?KY⟩) (fun h=>?KN))⟩⟩⟩⟩⟩⟩
     case KY=>
      refine hR _ _ (ax.refl _) ?_
      rw[e1,if_pos h,e2]
     case KN=>
      refine hR _ _ (ax.refl _) ?_
      rw[e1,if_neg (by rw[h];decide)]
    ·intro D Hend os hD sE hl hDe hout
     rw[gv hl hout,O6 (fun c=>decide (c.2.lo≤c.2.hi)) ((0,none),⟨0,0⟩) cv1 (GO a t us) L.1] at hDe
     refine kk D _ Hend (s1.free hD) (s1.trans sE) hDe ?_
     exact (Jz _ _ _ L).mono fun _ _ h=>h.same (cO fun b o _ e=>sE _ _ e)
noncomputable def xw (K:PySem.W.Frag) (A:Ad):Sp:=fun vs0 H Q _=>∃(ta:Addr) (X M:List Addr) (y:TA) (z:SA) (a:Abs) (us ss:List Kt.U) (t:Nat),vs0=[.ref ta,.int t]∧(bH A X M H ta y z a us ss)∧(a.now≤t)∧((uB a t us=none→∀H',ax H H'→Q .dh H')∧∀c,uB a t us=some c→∀(v:V) (H':Hp),ax H H'→OH A (Off M H') v c→Q v H')
theorem xG {P:Program} {w:World} {K:PySem.W.Frag} {mg:Str→Option Value} {base:Heap} {A:Ad} (T:Txt K mg A):bz P w K mg base gw 8 A.dv A.dB ["self","tick"] (xw K A):=by
 refine T.qO.ok gu (fun vs H Q E h=>?_) (fun cdv Ar outer sh H vs Q E hr h=>?_)
 ·obtain⟨_,_,_,_,_,_,_,_,_,rfl,_⟩:=h
  rfl
 ·obtain⟨ta,X,M,y,z,a,us,ss,t,rfl,hT,ht,kk⟩:=h
  have hu:=aY hr
  have hu64:=hr.units
  refine⟨_,(ab (bb (i:=2) gu.nd rfl (Or.inl rfl) (cz (pv 0) T.aj T.ou (uD T) (hr.mono (by decide)) T.rK .nil aK (aa (pv 1) ah)))
   (ab (aT (aA CC (aD aB (by rfl) T.cw PySem.boot_len (aa (pv 2) ah)) aH (aI _)) (ag (aq Ew)) ay)
   (ab (bb (i:=3) gu.nd rfl (Or.inl rfl) (bw aN (pv 2) aH (fun _ _=>rfl)))
   (ab (bb (i:=4) gu.nd rfl (Or.inl rfl) (bw aN (ak (ak (pv 0) rfl) rfl) (ak (ak (pv 3) rfl) rfl) (fun _ _=>rfl)))
   (ab (aT (ly (aW (LD T) (hr.mono (by decide)) rfl T.w9 T.Fe.kp T.KH .nil aK (aa (pv 4) (aa (ak (pv 0) rfl) (aa (pv 1) (aa (ak (pv 3) rfl) (aa (ak (ak (pv 0) rfl) rfl) ah))))))) (ag (aq (pv 3))) ay)
   (ag (aq Ew))))))),?_⟩
  try dsimp only[Of]
  obtain⟨k1,k2⟩:=kk
  have htk:=hT.r.zw
  refine⟨_,rfl,⟨_,_,_,rfl,by assumption,uE,⟨_,rfl,?xQ⟩⟩⟩
  case xQ=>
   refine⟨_,X,M,y,z,a,us,ss,t,rfl,hT,ht,fun D cv H1 hD s1 hcv L=>?_⟩
   have R:=(hT.same s1).read
   have htk1:=R.zw
   have hsa:=R.j9.j9
   have hptl:=R.j9.Be
   have hca:=R.came
   have hla:=R.lens
   by_cases hl1:cv.length=1
   ·obtain⟨v,rfl⟩:∃v,cv=[v]:=by
     match cv,hl1 with
     | [v],_=>exact⟨v,rfl⟩
    obtain⟨c,hc⟩:∃c,IT a t us=[c]:=by
     have:=L.1
     match q:IT a t us,this with
     | [c],_=>exact⟨c,rfl⟩
    have hvc:=L.2 0 v c rfl (by rw[hc];rfl)
    obtain⟨x,dx,wv,uv,rfl,hxx,⟨wa,wdx,rfl,hwa⟩,⟨ux,yy,rfl,hux⟩⟩:=hvc
    have hx2:=(aS.mp hxx).2
    have hwa2:=(aS.mp hwa).2
    have hux2:=(aS.mp hux).2
    have hcm:c∈IT a t us:=by rw[hc];exact List.mem_cons_self
    obtain⟨q,hq⟩:∃q,a.place=some q:=by
     cases e:a.place with
     | none=>rw[(oR t us e).2.2.1] at hc;cases hc
     | some q=>exact⟨q,rfl⟩
    have hcw:c.1.1<a.words.length:=by
     unfold IT GO at hcm
     obtain⟨hm,_⟩:=List.mem_filter.mp hcm
     obtain⟨w,hw,rfl⟩:=List.mem_map.mp hm
     exact (hT.r.told.pl _ (jS hT.r.j3 hT.r.told hq).2.1).word w hw
    have hpw:(a.words.map Kh316.pattern)[c.1.1]?=some (Kh316.pattern (a.letters c.1.1)):=by
     unfold Abs.letters
     rw[List.getElem?_map,List.getD_eq_getElem?_getD,List.getElem?_eq_getElem hcw]
     rfl
    have hpvl:c.1.1<z.pv.length:=by rw[R.j9.NG.1,List.length_map];exact hcw
    have epv:z.pv[c.1.1]?=some z.pv[c.1.1]:=List.getElem?_eq_getElem hpvl
    obtain⟨ptn,eptn,hptn⟩:=R.j9.NG.2 c.1.1 _ _ epv hpw
    have hsd:uB a t us=if (decide (a.lens.length=(Kh316.pattern (a.letters c.1.1)).length)&&decide (3 * c.2.hi+(a.e:Int)<(K1 a t:Int)))=true then some c else none:=by unfold uB;rw[hc]
    have hover:(decide (a.lens.length=(Kh316.pattern (a.letters c.1.1)).length)&&decide (3 * c.2.hi+(a.e:Int)<Kt.min2 ((t:Int) - y.tu) 1000000))=(decide (a.lens.length=(Kh316.pattern (a.letters c.1.1)).length)&&decide (3 * c.2.hi+(a.e:Int)<(K1 a t:Int))):=by
     by_cases e:a.last=none
     ·have h0:=(hT.r.j3.came.none_ e).1
      have:=(Kt.ib (wG hT.r.j3 hT.r.told hcw)).2.1
      rw[decide_eq_false (by rw[h0];intro z1;rw[←z1] at this;cases this),Bool.false_and,Bool.false_and]
     ·rw[J6 hT.r.j3.came ht hT.r.Su e]
    refine⟨_,rfl,⟨_,_,rfl,.inl (aM.of hcv),(yc ⟨_,rfl,(mz (fun h=>?r0) (fun h=>⟨_,rfl,⟨_,_,_,_,rfl,rfl,(aM.of hcv),(bt (j:=0) rfl),⟨_,rfl,⟨_,_,_,_,_,rfl,by assumption,T.aj,T.aG,aJ,⟨_,_,_,_,_,rfl,by assumption,T.au,T.bV,ft,⟨_,rfl,⟨_,_,_,_,_,rfl,by assumption,T.bW,T.eA,j7,⟨_,_,_,_,_,rfl,by assumption,T.eh,T.cR,eI,⟨_,_,_,_,rfl,rfl,(aM.of hptl),(bt (by rw[epv,eptn])),⟨_,rfl,⟨_,rfl,⟨_,_,_,_,_,rfl,by assumption,T.aj,T.bK,dE,⟨_,rfl,⟨_,rfl,⟨_,_,_,_,_,rfl,by assumption,T.bW,T.dH,kn,⟨_,rfl,⟨_,_,_,_,_,rfl,by assumption,T.aj,T.aG,aJ,⟨_,_,_,_,_,rfl,by assumption,T.au,T.gz,uU,?Fu⟩⟩⟩⟩⟩⟩⟩⟩⟩⟩⟩⟩⟩⟩⟩⟩⟩⟩))⟩)⟩⟩
    case r0=>exact absurd rfl h
    case Fu=>
     refine⟨ptn,y.ca,y.AN,y.la,ux,yy,_,_,_,y.tu,t,_,_,a.e,rfl,hptn,hca,hla,hux2,?_⟩
     rw[hover]
     refine⟨_,rfl,(df (fun h=>⟨_,rfl,?r1⟩) (fun h=>?r2))⟩
     case r1=>exact k2 c (by rw[hsd,if_pos h]) _ H1 s1 ⟨x,dx,_,_,rfl,hxx,⟨wa,wdx,rfl,hwa⟩,⟨ux,yy,rfl,hux⟩⟩
     case r2=>exact k1 (by rw[hsd,if_neg (by rw[h];decide)]) H1 s1
   ·have hnone:uB a t us=none:=by
     unfold uB
     have:=L.1
     match q:IT a t us with
     | []=>rfl
     | [c]=>rw[q] at this;exact absurd this hl1
     | c ::d::r=>rfl
    refine⟨_,rfl,⟨_,_,rfl,.inl (aM.of hcv),(yc ⟨_,rfl,(mz (fun h=>?_) (fun h=>?_))⟩)⟩⟩
    ·exact k1 hnone H1 s1
    ·exact absurd (by omega) hl1
end
section
open Kh317 (Abs)
theorem y9 {a:Abs} (hn:a.now<2147483648) {b:Abs} (h1:b.lens=[]) (h2:b.down=false) (h3:b.last=none) (h4:b.now=a.now):Kt.Cu b:=
 ⟨by rw[h1];exact Nat.zero_le _,by rw[h1];intro l hl;exact (nomatch hl),fun g=>(by rw[h2] at g;cases g),fun _ g=>absurd h1 g,fun _=>⟨h1,h2⟩,fun t g=>(by rw[h3] at g;cases g),by rw[h4];exact hn⟩
theorem LI {a:Abs} {us ss:List Kt.U} {t:Nat} (h:Kt.Opened a us ss) (h1:a.now≤t) (h2:t<2147483648):Kt.Opened { a with now:=t } us ss:=
 ⟨h.ready,h.ne,h.whole,h.parts,h.place,h.units,h.Hw,fun v hv=>⟨(h.Jf v hv).lo,(h.Jf v hv).ne,(h.Jf v hv).hi⟩,
  ⟨h.came.most,h.came.len,h.came.Kk,h.came.odd,h.came.none_,fun s hs=>⟨(h.came.zM s hs).1,Nat.le_trans (h.came.zM s hs).2 h1⟩,h2⟩,h.yE,h.Ue,
  fun i x v q1 q2=>by have:=h.TM i x v q1 q2;exact⟨this.place,this.word,this.tick,this.units,this.lo,this.ne,this.hi⟩⟩
theorem PH {a:Abs} (h:Kt.Told a) (t:Nat):Kt.Told { a with now:=t }:=⟨h.p2,h.p8,h.lo1,h.Gn,h.hi,h.e,h.QM,h.OC,h.NT,h.pl⟩
theorem II {a:Abs} {us ss:List Kt.U} (h:Kt.Opened a us ss):Kt.Opened a.fresh us ss:=
 ⟨h.ready,h.ne,h.whole,h.parts,h.place,h.units,h.Hw,fun v hv=>⟨(h.Jf v hv).lo,(h.Jf v hv).ne,(h.Jf v hv).hi⟩,y9 h.came.now rfl rfl rfl rfl,h.yE,h.Ue,
  fun i x v q1 q2=>by have:=h.TM i x v q1 q2;exact⟨this.place,this.word,this.tick,this.units,this.lo,this.ne,this.hi⟩⟩
theorem LZ {a:Abs} (h:Kt.Told a):Kt.Told a.fresh:=⟨h.p2,h.p8,h.lo1,h.Gn,h.hi,h.e,h.QM,h.OC,h.NT,h.pl⟩
theorem Nr {a:Abs} (h:Kt.Told a) (w:Nat×Option Nat):Kt.Told (a.says w):=⟨h.p2,h.p8,h.lo1,h.Gn,h.hi,h.e,h.QM,h.OC,h.NT,h.pl⟩
theorem JE {a:Abs} {us ss:List Kt.U} {w:Nat×Option Nat} {q:Nat} {u:Kt.U} (h:Kt.Opened a us ss) (hT:Kt.Told a) (hq:a.place=some q) (hw:w∈a.at_.ways) (hu:Kt.Sn a u) (hby:a.by_ w.1=u.list) (h64:a.said.length<64) :
  Kt.Opened (a.says w) (us.set a.at_.from_ u) (ss++[dI a us]):=by
 obtain⟨e1,e2,e3⟩:=jS h hT hq
 have hq2:=h.place q hq
 have hpo:=hT.pl _ e2
 have hmu:=wX h hT hq
 refine⟨h.ready,h.ne,h.whole,h.parts,fun k hk=>?_,?_,by rw[List.length_set];exact h.Hw,fun v hv=>?_,y9 h.came.now rfl rfl rfl rfl,?_,?_,fun i x v q1 q2=>?_⟩
 ·have hk:w.2=some k:=hk
  rw[e1] at hw
  exact h.whole.next q hq2 w hw k hk
 ·show a.units.set a.at_.from_ (a.by_ w.1)=_
  rw[h.units,hby,List.map_set]
 ·rcases List.mem_or_eq_of_mem_set hv with hv | hv
  ·exact⟨(h.Jf v hv).lo,(h.Jf v hv).ne,(h.Jf v hv).hi⟩
  ·rw[hv];exact⟨hu.lo,hu.ne,hu.hi⟩
 ·show (a.said++[_]).length=(ss++[_]).length
  rw[List.length_append,List.length_append,h.yE];rfl
 ·show (a.said++[_]).length≤64
  rw[List.length_append,List.length_singleton];omega
 ·have q1:(a.said++[⟨a.place.getD 0,w.1,a.now,a.mine a.at_.from_⟩])[i]?=some x:=q1
  by_cases hi:i<a.said.length
  ·rw[List.getElem?_append_left hi] at q1
   rw[List.getElem?_append_left (by rw[←h.yE];exact hi)] at q2
   have:=h.TM i x v q1 q2
   exact⟨this.place,this.word,this.tick,this.units,this.lo,this.ne,this.hi⟩
  ·have hi2:i=a.said.length:=by
    have:=si q1
    rw[List.length_append,List.length_singleton] at this
    omega
   subst hi2
   rw[List.getElem?_append_right (Nat.le_refl _),Nat.sub_self] at q1
   rw[h.yE,List.getElem?_append_right (Nat.le_refl _),Nat.sub_self] at q2
   simp at q1 q2
   subst q1 q2
   have hmo:=wW h hT hq
   refine⟨?_,hpo.word w hw,h.came.now,Kt.Ak h.units hmu,hmo.lo,hmo.ne,hmo.hi⟩
   show a.place.getD 0<a.places.length
   rw[hq];exact hq2
theorem MH {n j:Nat} (h:j<n):PZ n (j:Int)=some j:=by
 unfold PZ
 rw[if_pos (by omega),if_pos (by omega)]
 simp
theorem dg.set {α β:Type} {R:α→β→Prop} {xs:List α} {ys:List β} {x:α} {y:β} (h:dg R xs ys) (j:Nat) (g:R x y):dg R (xs.set j x) (ys.set j y):=by
 refine⟨by simp[h.1],fun i a b ha hb=>?_⟩
 by_cases hij:j=i
 ·subst hij
  have h1:=si ha
  have h2:=si hb
  rw[List.length_set] at h1 h2
  rw[List.getElem?_set_self h1] at ha
  rw[List.getElem?_set_self h2] at hb
  cases ha;cases hb
  exact g
 ·rw[List.getElem?_set_ne hij] at ha hb
  exact h.2 i a b ha hb
theorem BK {M:List Addr} {H':Hp} {c l:Addr} (live:∀m∈M,∃o,H' m=some o) (hc:∃o,H' c=some o) (hl:∃o,H' l=some o):∀m∈c::l::M,∃o,H' m=some o:=fun m hm=>by
 rcases List.mem_cons.mp hm with rfl | hm
 ·exact hc
 rcases List.mem_cons.mp hm with rfl | hm
 ·exact hl
 exact live m hm
theorem Ig {M:List Addr} {H H':Hp} {c l:Addr} (h:∀b o,b∉M→H b=some o→H' b=some o∧b≠c∧b≠l):ax (Off M H) (Off (c::l::M) H'):=fun b o e=>by
 obtain⟨e1,e2⟩:=aS.mp e
 obtain⟨h1,h2,h3⟩:=h b o e1 e2
 exact aS.mpr ⟨by simp[h2,h3,e1],h1⟩
theorem Fc {y:TA} {ta c l:Addr} (h:(y.cu ta).Nodup) (h1:ta≠c) (h2:ta≠l) (h3:y.ul≠c) (h4:y.ul≠l) (h5:y.sl≠c) (h6:y.sl≠l) (h7:c≠l):[ta,y.ul,y.sl,c,l].Nodup:=by
 obtain⟨n1,n2,n3,n4,n5,n6,n7,n8,n9,n10⟩:=xl h
 simp only[List.nodup_cons,List.mem_cons,List.not_mem_nil,not_or,or_false,not_false_eq_true,List.nodup_nil,and_true]
 exact⟨⟨n1,n2,h1,h2⟩,⟨n5,h3,h4⟩,⟨h5,h6⟩,h7⟩
noncomputable def FT (K:PySem.W.Frag) (A:Ad):Sp:=fun vs0 H Q _=>∃(ta:Addr) (X M:List Addr) (y:TA) (z:SA) (a:Abs) (us ss:List Kt.U),vs0=[.ref ta]∧(bH A X M H ta y z a us ss)∧(∀(M':List Addr) (y':TA) (H':Hp),y'.sa=y.sa→bH A X M' H' ta y' z a.fresh us ss→wC X H H'→Q (.int (a.lens.length:Nat)) H')
theorem Gi {P:Program} {w:World} {K:PySem.W.Frag} {mg:Str→Option Value} {base:Heap} {A:Ad} (T:Txt K mg A):bz P w K mg base gw 3 A.jF A.jO ["self"] (FT K A):=by
 refine T.CN.ok xY (fun vs H Q E h=>?_) (fun cdv Ar outer sh H vs Q E hr h=>?_)
 ·obtain⟨_,_,_,_,_,_,_,_,rfl,_⟩:=h
  rfl
 ·obtain⟨ta,X,M,y,z,a,us,ss,rfl,hT,kk⟩:=h
  have hu:=aY hr
  have hu64:=hr.units
  refine⟨_,(ab (bb (i:=1) xY.nd rfl (Or.inl rfl) (aD aB (by rfl) T.cw PySem.boot_len (aa (ak (ak (pv 0) rfl) rfl) ah)))
   (ab (bA (pv 0) (vB T.nt (oV T) (hr.mono (by decide)) rfl T.EU T.qe .nil aK) rfl)
   (ag (aq (pv 1))))),?_⟩
  try dsimp only[Of]
  have htk:=hT.r.zw
  have hca:=hT.r.came
  have hla:=hT.r.lens
  refine⟨_,rfl,⟨_,_,_,_,_,rfl,by assumption,T.aj,T.bK,dE,⟨_,_,_,_,_,rfl,by assumption,T.bp,T.bO,de,⟨_,_,rfl,.inl (aM.of hla),?Cf⟩⟩⟩⟩
  case Cf=>
   refine nt fun cx AN l H1 ncx nl nxl s1 hcx hl=>?_
   have htk1:=s1 _ _ htk
   refine⟨_,rfl,?gZ⟩
   case gZ=>
    refine⟨_,_,_,_,rfl,htk1,T.aj,T.bK,nU,?_⟩
    rw[rm]
    have c1:rM ta H1 (upd H1 ta (.ins A.aj y.dx (aP (.ref y.sa) (.ref y.jZ) (.int (xq a.place)) (.ref y.ul) (.ref cx) (.int a.now) (.ref y.sl)))):=gd
    have t2:upd H1 ta (.ins A.aj y.dx (aP (.ref y.sa) (.ref y.jZ) (.int (xq a.place)) (.ref y.ul) (.ref cx) (.int a.now) (.ref y.sl))) ta=some (.ins A.aj y.dx (aP (.ref y.sa) (.ref y.jZ) (.int (xq a.place)) (.ref y.ul) (.ref cx) (.int a.now) (.ref y.sl))):=ae
    generalize upd H1 ta (.ins A.aj y.dx (aP (.ref y.sa) (.ref y.jZ) (.int (xq a.place)) (.ref y.ul) (.ref cx) (.int a.now) (.ref y.sl)))=H2 at *
    refine⟨_,rfl,?r0⟩
    case r0=>
     rw[aE]
     obtain⟨n1,n2,n3,n4,n5,n6,n7,n8,n9,n10⟩:=xl hT.nd
     have gen:∀b o,H b=some o→b≠ta→H2 b=some o:=fun b o e q1=>c1 _ _ (s1 _ _ e) q1
     have tM:ta∈M:=hT.cu _ (by simp[TA.cu])
     have nn:∀b o,H b=some o→b≠cx∧b≠l:=fun b o e=>⟨ao e ncx,ao e nl⟩
     have sF:ax (Off M H) (Off (cx::l::M) H2):=Ig fun b o hb e=>⟨gen b o e fun z1=>hb (by rw[z1];exact tM),nn b o e⟩
     have r0:=hT.r
     refine kk (cx::l::M) { y with ca:=cx,AN:=AN,la:=l,tu:=0 } H2 rfl ⟨⟨t2,(r0.j9.move sF fun _ _ _ e=>sF _ _ e).of_eq rfl rfl rfl rfl rfl rfl,sF _ _ r0.jZ,r0.Sg.mono fun _ _ h=>h.same sF,gen _ _ r0.ul (Ne.symm n1),r0.OD.mono fun _ _ h=>h.same sF,c1 _ _ hcx (Ne.symm (nn _ _ htk).1),c1 _ _ hl (Ne.symm (nn _ _ htk).2),fun t g=>(nomatch g),gen _ _ r0.sl (Ne.symm n2),r0.said.mono fun _ _ h=>h.same sF,II r0.j3,LZ r0.told⟩,?_,?_,Fc (y:=y) hT.nd (nn _ _ htk).1 (nn _ _ htk).2 (nn _ _ r0.ul).1 (nn _ _ r0.ul).2 (nn _ _ r0.sl).1 (nn _ _ r0.sl).2 nxl,fun x hx=>?_⟩ ?_
     ·refine BK (fun m hm=>?_) ⟨_,c1 _ _ hcx (Ne.symm (nn _ _ htk).1)⟩ ⟨_,c1 _ _ hl (Ne.symm (nn _ _ htk).2)⟩
      obtain⟨o,e⟩:=hT.live m hm
      by_cases q1:m=ta
      ·exact⟨_,by rw[q1];exact t2⟩
      ·exact⟨o,gen _ _ e q1⟩
     ·intro m hm
      simp only[TA.cu,List.mem_cons,List.not_mem_nil,or_false] at hm
      rcases hm with rfl | rfl | rfl | rfl | rfl
      ·simp[tM]
      ·simp[hT.cu _ (show y.ul∈y.cu ta by simp[TA.cu])]
      ·simp[hT.cu _ (show y.sl∈y.cu ta by simp[TA.cu])]
      ·simp
      ·simp
     ·obtain⟨x1,x2⟩:=hT.xs x hx
      obtain⟨o,e⟩:=hT.live x x1
      obtain⟨p1,p2⟩:=nn _ _ e
      simp only[TA.cu,List.mem_cons,List.not_mem_nil,or_false,not_or] at x2 ⊢
      exact⟨.inr (.inr x1),x2.1,x2.2.1,x2.2.2.1,p1,p2⟩
     ·intro x hx o e
      have:=(hT.xs x hx).2
      exact gen _ _ e fun z1=>this (by rw[z1];simp[TA.cu])
theorem OJ {α β:Type} {xs:List α} {ys:List β} {x:α} {y:β} (h:xs.length=ys.length):(xs++[x]).zip (ys++[y])=xs.zip ys++[(x,y)]:=by
 rw[List.zip_append h]
 rfl
noncomputable def Jx (K:PySem.W.Frag) (A:Ad):Sp:=fun vs0 H Q _=>∃(ta:Addr) (X M:List Addr) (y:TA) (z:SA) (a:Abs) (us ss:List Kt.U) (v:V) (c:(Nat×Option Nat)×Kt.U) (q:Nat),vs0=[.ref ta,v]∧(bH A X M H ta y z a us ss)∧(a.place=some q)∧(OH A (Off M H) v c)∧(c.1∈a.at_.ways)∧(Kt.Sn a c.2)∧(a.by_ c.1.1=c.2.list)∧(a.said.length<64)∧(∀(M':List Addr) (y':TA) (us' ss':List Kt.U) (H':Hp),y'.sa=y.sa→bH A X M' H' ta y' z (a.says c.1) us' ss'→wC X H H'→Q .dh H')
theorem JS {P:Program} {w:World} {K:PySem.W.Frag} {mg:Str→Option Value} {base:Heap} {A:Ad} (T:Txt K mg A):bz P w K mg base gw 3 A.mS A.mZ ["self","choice"] (Jx K A):=by
 refine T.Ha.ok CA (fun vs H Q E h=>?_) (fun cdv Ar outer sh H vs Q E hr h=>?_)
 ·obtain⟨_,_,_,_,_,_,_,_,_,_,_,rfl,_⟩:=h
  rfl
 ·obtain⟨ta,X,M,y,z,a,us,ss,v,c,q,rfl,hT,hq,hv,hcw,hcu,hby,h64,kk⟩:=h
  have hu:=aY hr
  have hu64:=hr.units
  refine⟨_,(ab (bb (i:=2) CA.nd rfl (Or.inl rfl) (ak (bw aN (ak (ak (pv 0) rfl) rfl) (ak (pv 0) rfl) (fun _ _=>rfl)) rfl))
   (ab (cy (g6 PySem.F.plainAttrs_list PySem.F.slot_list_append PySem.F.type_list_append bR (ak (pv 0) rfl) (aa (iO T.Ai (Gh T) (hr.mono (by decide)) rfl T.MA T.CT .nil aK (aa (ak (pv 0) rfl) (aa (ak (ak (pv 1) rfl) rfl) (aa (ak (pv 0) rfl) (aa (bw aN (ak (pv 0) rfl) (pv 2) (fun _ _=>rfl)) ah))))) ah)))
   (ab (Pt (ak (pv 1) rfl) (Pw (ak (pv 0) rfl) (pv 2) set_list))
   (ab (bA (pv 0) (ak (ak (pv 1) rfl) rfl) rfl)
   (ag (bA (pv 0) (vB T.nt (oV T) (hr.mono (by decide)) rfl T.EU T.qe .nil aK) rfl)))))),?_⟩
  try dsimp only[Of]
  have R:=hT.read
  have htk:=R.zw
  have hsa:=R.j9.j9
  have hpcl:=R.j9.tI
  have hul:=R.ul
  have hsl:=R.sl
  obtain⟨pa,pdx,wl,ws,hat,hpa,_,_,hne⟩:=R.here hq
  have hmu:=wX R.j3 R.told hq
  obtain⟨uv,huv,hun⟩:=hT.r.OD.get' hmu
  obtain⟨x,dx,wv,uc,rfl,hxF,⟨wa,wdx,rfl,hwaF⟩,huc⟩:=hv
  have hxx:=(aS.mp hxF).2
  have hwa:=(aS.mp hwaF).2
  obtain⟨n1,n2,n3,n4,n5,n6,n7,n8,n9,n10⟩:=xl hT.nd
  have tM:ta∈M:=hT.cu _ (by simp[TA.cu])
  have uM:y.ul∈M:=hT.cu _ (by simp[TA.cu])
  have sM:y.sl∈M:=hT.cu _ (by simp[TA.cu])
  have hsvl:y.sv.length<sizeLine:=by
   rw[hT.r.said.1,List.length_zip,sizeLine_eq]
   omega
  have hful:a.at_.from_<y.uv.length:=by
   have:=si huv
   exact this
  refine⟨_,rfl,⟨_,_,_,_,_,rfl,by assumption,T.aj,T.aG,aJ,⟨_,_,_,_,_,rfl,by assumption,T.au,T.aR,aV,⟨_,rfl,⟨_,_,_,_,_,rfl,by assumption,T.aj,T.bD,b0,⟨_,_,_,_,rfl,rfl,(aM.of hpcl),(hat),⟨_,_,_,_,_,rfl,by assumption,T.bh,T.bq,bG,⟨_,rfl,⟨_,_,_,_,_,rfl,by assumption,T.aj,T.cI,eB,⟨ty_list (aM.of hsl),⟨_,rfl,⟨_,_,_,_,_,rfl,by assumption,T.aj,T.bD,b0,⟨_,rfl,⟨_,_,_,_,_,rfl,by assumption,T.bW,T.eA,j7,⟨_,_,_,_,_,rfl,by assumption,T.eh,T.cR,eI,⟨_,rfl,⟨_,_,_,_,_,rfl,by assumption,T.aj,T.fk,qY,⟨_,rfl,⟨_,_,_,_,_,rfl,by assumption,T.aj,T.cS,gp,⟨_,rfl,⟨_,_,_,_,rfl,rfl,(aM.of hul),(bt huv),?AR⟩⟩⟩⟩⟩⟩⟩⟩⟩⟩⟩⟩⟩⟩⟩⟩⟩⟩⟩⟩⟩
  case AR=>
   refine Ai fun th thx H1 nth s1 hth=>?_
   refine⟨_,_,_,rfl,rfl,s1 _ _ hsl,hsvl,?_⟩
   have c2:rM y.sl H1 (upd H1 y.sl (.lst (y.sv++[.ref th]))):=gd
   have e2:upd H1 y.sl (.lst (y.sv++[.ref th])) y.sl=some (.lst (y.sv++[.ref th])):=ae
   generalize upd H1 y.sl (.lst (y.sv++[.ref th]))=H2 at *
   have nin:∀b C d fs,H b=some (.ins C d fs)→b≠y.sl∧b≠y.ul:=fun b C d fs e=>⟨oM e hsl (by intro z;cases z),oM e hul (by intro z;cases z)⟩
   have htk2:=c2 _ _ (s1 _ _ htk) n2
   have hxx2:=c2 _ _ (s1 _ _ hxx) (nin _ _ _ _ hxx).1
   have hwa2:=c2 _ _ (s1 _ _ hwa) (nin _ _ _ _ hwa).1
   have hul2:=c2 _ _ (s1 _ _ hul) n5
   refine⟨_,rfl,⟨_,_,_,_,_,rfl,by assumption,T.bW,T.dH,kn,⟨_,rfl,⟨_,_,_,_,_,rfl,by assumption,T.aj,T.cS,gp,⟨_,rfl,?seti3⟩⟩⟩⟩⟩
   case seti3=>
    refine⟨_,_,_,a.at_.from_,rfl,rfl,hul2,MH hful,?_⟩
    have c3:rM y.ul H2 (upd H2 y.ul (.lst (y.uv.set a.at_.from_ uc))):=gd
    have e3:upd H2 y.ul (.lst (y.uv.set a.at_.from_ uc)) y.ul=some (.lst (y.uv.set a.at_.from_ uc)):=ae
    generalize upd H2 y.ul (.lst (y.uv.set a.at_.from_ uc))=H3 at *
    have htk3:=c3 _ _ htk2 n1
    have hxx3:=c3 _ _ hxx2 (nin _ _ _ _ hxx).2
    have hwa3:=c3 _ _ hwa2 (nin _ _ _ _ hwa).2
    refine⟨_,rfl,⟨_,_,_,_,_,rfl,by assumption,T.bW,T.eA,j7,⟨_,_,_,_,_,rfl,by assumption,T.eh,T.cA,eJ,⟨_,rfl,?C6⟩⟩⟩⟩
    case C6=>
     refine⟨_,_,_,_,rfl,htk3,T.aj,T.bD,nU,?_⟩
     rw[yd]
     refine nt fun cx AN l H5 ncx nl nxl s5 hcx hl=>?_
     have htk5:=s5 _ _ ae
     refine⟨_,rfl,?gZ⟩
     case gZ=>
      refine⟨_,_,_,_,rfl,htk5,T.aj,T.bK,nU,?_⟩
      rw[rm]
      have c6:rM ta H5 (upd H5 ta (.ins A.aj y.dx (aP (.ref y.sa) (.ref y.jZ) (.int (xq c.1.2)) (.ref y.ul) (.ref cx) (.int a.now) (.ref y.sl)))):=gd
      have e6:upd H5 ta (.ins A.aj y.dx (aP (.ref y.sa) (.ref y.jZ) (.int (xq c.1.2)) (.ref y.ul) (.ref cx) (.int a.now) (.ref y.sl))) ta=some (.ins A.aj y.dx (aP (.ref y.sa) (.ref y.jZ) (.int (xq c.1.2)) (.ref y.ul) (.ref cx) (.int a.now) (.ref y.sl))):=ae
      generalize upd H5 ta (.ins A.aj y.dx (aP (.ref y.sa) (.ref y.jZ) (.int (xq c.1.2)) (.ref y.ul) (.ref cx) (.int a.now) (.ref y.sl)))=H6 at *
      have g4:∀b o,H3 b=some o→b≠ta→H6 b=some o:=fun b o e q=>c6 _ _ (s5 _ _ (by rw[af q];exact e)) q
      have gen:∀b o,H b=some o→b≠ta→b≠y.sl→b≠y.ul→H6 b=some o:=fun b o e q1 q2 q3=>g4 _ _ (c3 _ _ (c2 _ _ (s1 _ _ e) q2) q3) q1
      have nta:ta≠cx∧ta≠l:=⟨fun z1=>(by rw[←z1,ae] at ncx;cases ncx),fun z1=>(by rw[←z1,ae] at nl;cases nl)⟩
      have nn3:∀b o,H3 b=some o→b≠cx∧b≠l:=fun b o e=>by
       by_cases q:b=ta
       ·rw[q];exact nta
       ·have e2:upd H3 ta (.ins A.aj y.dx (aP (.ref y.sa) (.ref y.jZ) (.int (xq c.1.2)) (.ref y.ul) (.ref y.ca) (.int a.now) (.ref y.sl))) b=some o:=by rw[af q];exact e
        exact⟨ao e2 ncx,ao e2 nl⟩
      have nn:∀b o,H b=some o→b≠cx∧b≠l:=fun b o e=>by
       by_cases q1:b=y.sl
       ·rw[q1];exact nn3 _ _ (c3 _ _ e2 (Ne.symm n5))
       by_cases q2:b=y.ul
       ·rw[q2];exact nn3 _ _ e3
       exact nn3 _ _ (c3 _ _ (c2 _ _ (s1 _ _ e) q1) q2)
      have sF:ax (Off M H) (Off (cx::l::M) H6):=Ig fun b o hb e=>⟨gen b o e (fun z1=>hb (by rw[z1];exact tM)) (fun z1=>hb (by rw[z1];exact sM)) (fun z1=>hb (by rw[z1];exact uM)),nn b o e⟩
      have r0:=hT.r
      have hth6:H6 th=some (.ins A.bY thx (cM (.int (xq a.place)) (.int c.1.1) (.int a.now) uv)):=by
       have q1:th≠y.sl:=fun z1=>by rw[z1] at nth;rw[nth] at hsl;cases hsl
       have q2:th≠y.ul:=fun z1=>by rw[z1] at nth;rw[nth] at hul;cases hul
       have q3:th≠ta:=fun z1=>by rw[z1] at nth;rw[nth] at htk;cases htk
       exact g4 _ _ (c3 _ _ (c2 _ _ hth q1) q2) q3
      have hthF:Off (cx::l::M) H6 th=some (.ins A.bY thx (cM (.int (xq a.place)) (.int c.1.1) (.int a.now) uv)):=by
       refine aS.mpr ⟨?_,hth6⟩
       have q1:th≠y.sl:=fun z1=>by rw[z1] at nth;rw[nth] at hsl;cases hsl
       have q2:th≠y.ul:=fun z1=>by rw[z1] at nth;rw[nth] at hul;cases hul
       have q4:=nn3 _ _ (c3 _ _ (c2 _ _ hth q1) q2)
       have q5:th∉M:=fun hm=>by obtain⟨o,e⟩:=hT.live th hm;rw[nth] at e;cases e
       simp[q4.1,q4.2,q5]
      have hbq:xq a.place=((a.place.getD 0:Nat):Int):=by rw[hq];rfl
      refine kk (cx::l::M) { y with ca:=cx,AN:=AN,la:=l,tu:=0,uv:=y.uv.set a.at_.from_ uc,sv:=y.sv++[.ref th] } (us.set a.at_.from_ c.2) (ss++[dI a us]) H6 rfl ⟨⟨e6,(r0.j9.move sF fun _ _ _ e=>sF _ _ e).of_eq rfl rfl rfl rfl rfl rfl,sF _ _ r0.jZ,r0.Sg.mono fun _ _ h=>h.same sF,g4 _ _ e3 (Ne.symm n1),(r0.OD.mono fun _ _ h=>h.same sF).set _ (huc.same sF),c6 _ _ hcx (Ne.symm nta.1),c6 _ _ hl (Ne.symm nta.2),fun t g=>(nomatch g),g4 _ _ (c3 _ _ e2 (Ne.symm n5)) (Ne.symm n2),?_,JE r0.j3 r0.told hq hcw hcu hby h64,Nr r0.told _⟩,?_,?_,Fc (y:=y) hT.nd nta.1 nta.2 (nn _ _ r0.ul).1 (nn _ _ r0.ul).2 (nn _ _ r0.sl).1 (nn _ _ r0.sl).2 nxl,fun x hx=>?_⟩ ?_
      ·show dg _ (y.sv++[.ref th]) ((a.said++[_]).zip (ss++[_]))
       rw[OJ r0.j3.yE]
       refine (r0.said.mono fun _ _ h=>h.same sF).snoc ⟨th,thx,uv,rfl,?_,hun.same sF⟩
       rw[hbq] at hthF
       exact hthF
      ·refine BK (fun m hm=>?_) ⟨_,c6 _ _ hcx (Ne.symm nta.1)⟩ ⟨_,c6 _ _ hl (Ne.symm nta.2)⟩
       obtain⟨o,e⟩:=hT.live m hm
       by_cases q1:m=ta
       ·exact⟨_,by rw[q1];exact e6⟩
       by_cases q2:m=y.sl
       ·exact⟨_,by rw[q2];exact g4 _ _ (c3 _ _ e2 (Ne.symm n5)) (Ne.symm n2)⟩
       by_cases q3:m=y.ul
       ·exact⟨_,by rw[q3];exact g4 _ _ e3 (Ne.symm n1)⟩
       exact⟨o,gen _ _ e q1 q2 q3⟩
      ·intro m hm
       simp only[TA.cu,List.mem_cons,List.not_mem_nil,or_false] at hm
       rcases hm with rfl | rfl | rfl | rfl | rfl
       ·simp[tM]
       ·simp[uM]
       ·simp[sM]
       ·simp
       ·simp
      ·obtain⟨x1,x2⟩:=hT.xs x hx
       obtain⟨o,e⟩:=hT.live x x1
       obtain⟨p1,p2⟩:=nn _ _ e
       simp only[TA.cu,List.mem_cons,List.not_mem_nil,or_false,not_or] at x2 ⊢
       exact⟨.inr (.inr x1),x2.1,x2.2.1,x2.2.2.1,p1,p2⟩
      ·intro x hx o e
       have:=(hT.xs x hx).2
       exact gen _ _ e (fun z1=>this (by rw[z1];simp[TA.cu])) (fun z1=>this (by rw[z1];simp[TA.cu])) (fun z1=>this (by rw[z1];simp[TA.cu]))
theorem bH.now {A:Ad} {X M:List Addr} {H:Hp} {ta:Addr} {y:TA} {z:SA} {a:Abs} {us ss:List Kt.U} (hT:bH A X M H ta y z a us ss) {t:Nat} (h1:a.now≤t) (h2:t<2147483648) :
  bH A X M (upd H ta (.ins A.aj y.dx (aP (.ref y.sa) (.ref y.jZ) (.int (xq a.place)) (.ref y.ul) (.ref y.ca) (.int t) (.ref y.sl)))) ta y z { a with now:=t } us ss:=by
 have c1:rM ta H (upd H ta (.ins A.aj y.dx (aP (.ref y.sa) (.ref y.jZ) (.int (xq a.place)) (.ref y.ul) (.ref y.ca) (.int t) (.ref y.sl)))):=gd
 have e1:upd H ta (.ins A.aj y.dx (aP (.ref y.sa) (.ref y.jZ) (.int (xq a.place)) (.ref y.ul) (.ref y.ca) (.int t) (.ref y.sl))) ta=some (.ins A.aj y.dx (aP (.ref y.sa) (.ref y.jZ) (.int (xq a.place)) (.ref y.ul) (.ref y.ca) (.int t) (.ref y.sl))):=ae
 generalize upd H ta (.ins A.aj y.dx (aP (.ref y.sa) (.ref y.jZ) (.int (xq a.place)) (.ref y.ul) (.ref y.ca) (.int t) (.ref y.sl)))=H1 at *
 obtain⟨n1,n2,n3,n4,n5,n6,n7,n8,n9,n10⟩:=xl hT.nd
 have tM:ta∈M:=hT.cu _ (by simp[TA.cu])
 have sF:ax (Off M H) (Off M H1):=cO fun b o hb e=>c1 _ _ e fun z1=>hb (by rw[z1];exact tM)
 have r0:=hT.r
 refine⟨⟨e1,(r0.j9.move sF fun _ _ _ e=>sF _ _ e).of_eq rfl rfl rfl rfl rfl rfl,sF _ _ r0.jZ,r0.Sg.mono fun _ _ h=>h.same sF,c1 _ _ r0.ul (Ne.symm n1),r0.OD.mono fun _ _ h=>h.same sF,c1 _ _ r0.came (Ne.symm n3),c1 _ _ r0.lens (Ne.symm n4),r0.Su,c1 _ _ r0.sl (Ne.symm n2),r0.said.mono fun _ _ h=>h.same sF,LI r0.j3 h1 h2,PH r0.told t⟩,fun m hm=>?_,hT.cu,hT.nd,hT.xs⟩
 obtain⟨o,e⟩:=hT.live m hm
 by_cases q1:m=ta
 ·exact⟨_,by rw[q1];exact e1⟩
 ·exact⟨o,c1 _ _ e q1⟩
theorem Sm (a:Abs) (t:Nat):Kh317.talk a (.at_ t)=if Kh317.late a t then (a,Kh317.say (-22)) else (match ({ a with now:=t }:Abs).settled with
  | none=>({ a with now:=t },Kh317.say 0)
  | some w=>if 64≤a.said.length then (a,Kh317.say (-28)) else (({ a with now:=t }:Abs).says w,Kh317.say 1)):=rfl
noncomputable def Ll (K:PySem.W.Frag) (A:Ad):Sp:=fun vs0 H Q _=>∃(ta:Addr) (X M:List Addr) (y:TA) (z:SA) (a:Abs) (us ss:List Kt.U) (t:Nat),vs0=[.ref ta,.int t]∧(bH A X M H ta y z a us ss)∧(∀(M':List Addr) (y':TA) (us' ss':List Kt.U) (H':Hp),y'.sa=y.sa→bH A X M' H' ta y' z (Kh317.talk a (.at_ t)).1 us' ss'→wC X H H'→Q (.int (Kh317.talk a (.at_ t)).2.value) H')
theorem LH {P:Program} {w:World} {K:PySem.W.Frag} {mg:Str→Option Value} {base:Heap} {A:Ad} (T:Txt K mg A):bz P w K mg base gw 9 A.pk A.pD ["self","tick"] (Ll K A):=by
 refine T.Kj.ok Ei (fun vs H Q E h=>?_) (fun cdv Ar outer sh H vs Q E hr h=>?_)
 ·obtain⟨_,_,_,_,_,_,_,_,_,rfl,_⟩:=h
  rfl
 ·obtain⟨ta,X,M,y,z,a,us,ss,t,rfl,hT,kk⟩:=h
  have hu:=aY hr
  have hu64:=hr.units
  refine⟨_,(ab (aT (jU (ly (cz (pv 0) T.aj T.iJ (md T) (hr.mono (by decide)) T.jX .nil aK (aa (pv 1) ah)))) (ag (aq (aw rfl T.fA))) ay)
   (ab (bb (i:=2) Ei.nd rfl (Or.inl rfl) (cz (pv 0) T.aj T.oO (xG T) (hr.mono (by decide)) T.qV .nil aK (aa (pv 1) ah)))
   (ab (aT (PW.pt (Es (HQ (Mv (pv 2))) (zY (aA cg (aD aB (by rfl) T.cw PySem.boot_len (aa (ak (pv 0) rfl) ah)) (aw rfl T.kj) (aI _))))) (ag (aq (aw rfl T.t4))) ay)
   (ab (bA (pv 0) (pv 1) rfl)
   (ab (aT (HQ (Pz (pv 2))) (ag (aq aH)) ay)
   (ab (cy (cz (pv 0) T.aj T.CH (JS T) (hr.mono (by decide)) T.Hs .nil aK (aa (pv 2) ah)))
   (ag (aq aH)))))))),?_⟩
  try dsimp only[Of]
  have htk:=hT.r.zw
  rw[Sm] at kk
  refine⟨_,rfl,⟨_,_,_,rfl,by assumption,mf,⟨_,rfl,?qj⟩⟩⟩
  case qj=>
   refine⟨_,_,_,_,_,_,_,_,_,_,rfl,htk,?_⟩
   rw[MD]
   refine⟨_,rfl,(ez (fun h=>?r0) (fun h=>⟨_,rfl,⟨_,_,_,rfl,by assumption,xJ,⟨_,rfl,?sQ⟩⟩⟩))⟩
   case r0=>
    rw[Bool.not_eq_false'] at h
    rw[if_pos h] at kk
    exact kk M y us ss H rfl hT fun x _ o e=>e
   case sQ=>
    rw[Bool.not_eq_true'] at h
    rw[if_neg (by rw[h];decide)] at kk
    have hl2:a.now≤t∧t<2147483648:=by unfold Kh317.late at h;simp at h;omega
    refine⟨ta,X,M,y,z,a,us,ss,t,rfl,hT,hl2.1,fun hsn H1 s1=>?_,fun c hsc v H1 s1 hvc=>?_⟩
    ·have hT1:=hT.same s1
     have htk1:=hT1.r.zw
     have hset:({ a with now:=t }:Abs).settled=none:=by
      rcases Option.eq_none_or_eq_some a.place with hp | ⟨q,hp⟩
      ·exact (oR t us hp).1
      ·rw[Eb hT.r.j3 hT.r.told hp,hsn];rfl
     rw[hset] at kk
     refine⟨_,rfl,⟨_,rfl,(mz (fun h=>absurd rfl h) (fun h=>?_))⟩⟩
     refine NX ⟨_,rfl,⟨_,rfl,⟨_,_,_,_,rfl,htk1,T.aj,T.fk,nU,?_⟩⟩⟩
     rw[tG]
     refine⟨_,rfl,⟨_,rfl,(aL (fun h=>?_) (fun h=>absurd rfl h))⟩⟩
     refine kk M y us ss _ rfl (hT1.now hl2.1 hl2.2) fun x hx o e=>?_
     rw[af (fun z1=>(hT.xs x hx).2 (by rw[z1];simp[TA.cu]))]
     exact s1 _ _ e
    ·have hT1:=hT.same s1
     have htk1:=hT1.r.zw
     have hsl1:=hT1.r.sl
     obtain⟨q,hq⟩:∃q,a.place=some q:=by
      cases e:a.place with
      | none=>rw[(oR t us e).2.1] at hsc;cases hsc
      | some q=>exact⟨q,rfl⟩
     obtain⟨w1,w2,w3,w4⟩:=O7 hT.r.j3 hT.r.told hq hsc
     have hset:({ a with now:=t }:Abs).settled=some c.1:=by rw[Eb hT.r.j3 hT.r.told hq,hsc];rfl
     rw[hset] at kk
     have hlen:y.sv.length=a.said.length:=by rw[hT.r.said.1,List.length_zip,hT.r.j3.yE,Nat.min_self]
     have hvn:∃x,v=.ref x:=by obtain⟨x,_,_,_,e,_⟩:=hvc;exact⟨x,e⟩
     obtain⟨x,rfl⟩:=hvn
     have h64:=hT.r.j3.Ue
     refine⟨_,rfl,⟨_,rfl,(mz (fun h=>⟨_,rfl,⟨_,_,_,_,_,rfl,by assumption,T.aj,T.cI,eB,⟨_,_,rfl,.inl (aM.of hsl1),(bJ ⟨_,rfl,(df (fun h=>?r1) (fun h=>⟨_,rfl,⟨_,rfl,?Ed⟩⟩))⟩)⟩⟩⟩) (fun h=>?f5))⟩⟩
     case r1=>
      have h:=of_decide_eq_true h
      rw[hlen] at h
      have kk:∀(M':List Addr) (y':TA) (us' ss':List Kt.U) (H':Hp),y'.sa=y.sa→bH A X M' H' ta y' z (if 64≤a.said.length then (a,Kh317.say (-28)) else (({ a with now:=t }:Abs).says c.1,Kh317.say 1)).1 us' ss'→wC X H H'→Q (.int (if 64≤a.said.length then (a,Kh317.say (-28)) else (({ a with now:=t }:Abs).says c.1,Kh317.say 1)).2.value) H':=kk
      rw[if_pos (by omega)] at kk
      exact kk M y us ss H1 rfl hT1 fun x _ o e=>s1 _ _ e
     case Ed=>
      have h:=of_decide_eq_false h
      rw[hlen] at h
      have kk:∀(M':List Addr) (y':TA) (us' ss':List Kt.U) (H':Hp),y'.sa=y.sa→bH A X M' H' ta y' z (if 64≤a.said.length then (a,Kh317.say (-28)) else (({ a with now:=t }:Abs).says c.1,Kh317.say 1)).1 us' ss'→wC X H H'→Q (.int (if 64≤a.said.length then (a,Kh317.say (-28)) else (({ a with now:=t }:Abs).says c.1,Kh317.say 1)).2.value) H':=kk
      rw[if_neg (by omega)] at kk
      refine⟨_,_,_,_,rfl,htk1,T.aj,T.fk,nU,?_⟩
      rw[tG]
      have hT2:=hT1.now hl2.1 hl2.2
      have kx:wC X H (upd H1 ta (.ins A.aj y.dx (aP (.ref y.sa) (.ref y.jZ) (.int (xq a.place)) (.ref y.ul) (.ref y.ca) (.int t) (.ref y.sl)))):=fun x hx o e=>by
       rw[af (fun z1=>(hT.xs x hx).2 (by rw[z1];simp[TA.cu]))]
       exact s1 _ _ e
      have sF:ax (Off M H1) (Off M (upd H1 ta (.ins A.aj y.dx (aP (.ref y.sa) (.ref y.jZ) (.int (xq a.place)) (.ref y.ul) (.ref y.ca) (.int t) (.ref y.sl))))):=cO fun b o hb e=>by
       rw[af (fun z1=>hb (by rw[z1];exact hT.cu _ (by simp[TA.cu])))]
       exact e
      have htk2:=hT2.r.zw
      refine⟨_,rfl,⟨_,rfl,(aL (fun h=>?r2) (fun h=>⟨_,rfl,⟨_,_,_,rfl,by assumption,JV,⟨_,rfl,?Dr⟩⟩⟩))⟩⟩
      case r2=>exact absurd h (by intro z1;cases z1)
      case Dr=>
       refine⟨ta,X,M,y,z,{ a with now:=t },us,ss,_,c,q,rfl,hT2,hq,hvc.same sF,w1,⟨w3.lo,w3.ne,w3.hi⟩,w4,by show a.said.length<64;omega,fun M' y' us' ss' H' ey hT3 kx2=>?_⟩
       exact kk M' y' us' ss' H' ey hT3 fun x hx o e=>kx2 x hx o (kx x hx o e)
     case f5=>exact absurd h (by intro z1;cases z1)
end
section
open Kh317 (Abs)
noncomputable def Qz (a:Abs) (x:Kh317.Said):Abs:={ a.fresh with place:=some x.place,units:=a.units.set (Kh292.at_ a.script x.place).from_ x.units,said:=a.said.dropLast }
theorem back_eq (a:Abs):Kh317.talk a .back=(match a.said.getLast? with
  | none=>(a,Kh317.say (-11))
  | some x=>(Qz a x,Kh317.say (x.word:Nat))):=rfl
theorem vW {α:Type} {l:List α} {i:Nat} {x:α} (h:l.dropLast[i]?=some x):l[i]?=some x:=by
 rw[List.getElem?_dropLast] at h
 split at h
 ·exact h
 ·cases h
theorem KI {a:Abs} {us ss:List Kt.U} {x:Kh317.Said} {v:Kt.U} (h:Kt.Opened a us ss) (hT:Kt.Told a) (hx:Kt.QF a x v):Kt.Opened (Qz a x) (us.set (Kh292.at_ a.script x.place).from_ v) ss.dropLast:=by
 refine⟨h.ready,h.ne,h.whole,h.parts,fun k hk=>?_,?_,by rw[List.length_set];exact h.Hw,fun u hu=>?_,y9 h.came.now rfl rfl rfl rfl,?_,?_,fun i s u q1 q2=>?_⟩
 ·have hk:some x.place=some k:=hk
  cases hk
  exact hx.place
 ·show a.units.set _ x.units=_
  rw[h.units,hx.units,List.map_set]
 ·rcases List.mem_or_eq_of_mem_set hu with hu | hu
  ·exact⟨(h.Jf u hu).lo,(h.Jf u hu).ne,(h.Jf u hu).hi⟩
  ·rw[hu];exact⟨hx.lo,hx.ne,hx.hi⟩
 ·show a.said.dropLast.length=ss.dropLast.length
  rw[List.length_dropLast,List.length_dropLast,h.yE]
 ·show a.said.dropLast.length≤64
  rw[List.length_dropLast];have:=h.Ue;omega
 ·have:=h.TM i s u (vW q1) (vW q2)
  exact⟨this.place,this.word,this.tick,this.units,this.lo,this.ne,this.hi⟩
theorem Oq {a:Abs} (h:Kt.Told a) (x:Kh317.Said):Kt.Told (Qz a x):=⟨h.p2,h.p8,h.lo1,h.Gn,h.hi,h.e,h.QM,h.OC,h.NT,h.pl⟩
noncomputable def HC (K:PySem.W.Frag) (A:Ad):Sp:=fun vs0 H Q _=>∃(ta:Addr) (X M:List Addr) (y:TA) (z:SA) (a:Abs) (us ss:List Kt.U),vs0=[.ref ta]∧(bH A X M H ta y z a us ss)∧(∀(M':List Addr) (y':TA) (us' ss':List Kt.U) (H':Hp),y'.sa=y.sa→bH A X M' H' ta y' z (Kh317.talk a .back).1 us' ss'→wC X H H'→Q (.int (Kh317.talk a .back).2.value) H')
theorem Ic {P:Program} {w:World} {K:PySem.W.Frag} {mg:Str→Option Value} {base:Heap} {A:Ad} (T:Txt K mg A):bz P w K mg base gw 3 A.kN A.kX ["self"] (HC K A):=by
 refine T.Fi.ok zX (fun vs H Q E h=>?_) (fun cdv Ar outer sh H vs Q E hr h=>?_)
 ·obtain⟨_,_,_,_,_,_,_,_,rfl,_⟩:=h
  rfl
 ·obtain⟨ta,X,M,y,z,a,us,ss,rfl,hT,kk⟩:=h
  have hu:=aY hr
  have hu64:=hr.units
  refine⟨_,(ab (aT (jU (pI (ak (pv 0) rfl) (fun _=>rfl))) (ag (aq (aw rfl T.g9))) ay)
   (ab (bb (i:=1) zX.nd rfl (Or.inl rfl) (SS PySem.F.plainAttrs_list PySem.F.slot_list_pop PySem.F.type_list_pop SX (ak (pv 0) rfl)))
   (ab (bA (pv 0) (ak (pv 1) rfl) rfl)
   (ab (Pt (ak (pv 1) rfl) (Pw (ak (pv 0) rfl) (ak (bw aN (ak (ak (pv 0) rfl) rfl) (ak (pv 1) rfl) (fun _ _=>rfl)) rfl) set_list))
   (ab (bA (pv 0) (vB T.nt (oV T) (hr.mono (by decide)) rfl T.EU T.qe .nil aK) rfl)
   (ag (aq (ak (pv 1) rfl)))))))),?_⟩
  try dsimp only[Of]
  have R:=hT.read
  have htk:=R.zw
  have hsa:=R.j9.j9
  have hpcl:=R.j9.tI
  have hul:=R.ul
  have hsl:=R.sl
  obtain⟨n1,n2,n3,n4,n5,n6,n7,n8,n9,n10⟩:=xl hT.nd
  have tM:ta∈M:=hT.cu _ (by simp[TA.cu])
  have uM:y.ul∈M:=hT.cu _ (by simp[TA.cu])
  have sM:y.sl∈M:=hT.cu _ (by simp[TA.cu])
  have hlen:y.sv.length=a.said.length:=by rw[hT.r.said.1,List.length_zip,hT.r.j3.yE,Nat.min_self]
  rw[back_eq] at kk
  by_cases hz:a.said.length=0
  ·have hnil:a.said=[]:=List.eq_nil_of_length_eq_zero hz
   rw[hnil] at kk
   have hsv:y.sv=[]:=List.eq_nil_of_length_eq_zero (by omega)
   refine⟨_,rfl,⟨_,_,_,_,_,rfl,htk,T.aj,T.cI,eB,⟨_,rP (aM.of hsl),(ez (fun h=>?_) (fun h=>?_))⟩⟩⟩
   ·exact kk M y us ss H rfl hT fun x _ o e=>e
   ·rw[hsv] at h;cases h
  ·obtain⟨x,hx⟩:∃x,a.said[a.said.length - 1]?=some x:=⟨_,List.getElem?_eq_getElem (by omega)⟩
   obtain⟨v,hv⟩:∃v,ss[a.said.length - 1]?=some v:=⟨_,List.getElem?_eq_getElem (by have:=hT.r.j3.yE;omega)⟩
   have hgl:a.said.getLast?=some x:=by rw[List.getLast?_eq_getElem?];exact hx
   rw[hgl] at kk
   have hso:=hT.r.j3.TM _ _ _ hx hv
   have hzp:(a.said.zip ss)[a.said.length - 1]?=some (x,v):=List.getElem?_zip_eq_some.mpr ⟨hx,hv⟩
   obtain⟨tv,htv,th,thx,uv,rfl,hthF,hun⟩:=hT.r.said.get' hzp
   have hth:=(aS.mp hthF).2
   have hpx:a.places[x.place]?=some (Kh292.at_ a.script x.place):=by
    rw[Kt.I0 (s:=a.script) hso.place]
    exact List.getElem?_eq_getElem hso.place
   obtain⟨pv,hpv,pa,pdx,wl,ws,rfl,hpa,_,_⟩:=dg.get' (R.j9.places (ax.refl _)) hpx
   have hpo:=hT.r.told.pl _ (List.mem_of_getElem? hpx)
   have hful:(Kh292.at_ a.script x.place).from_<y.uv.length:=by
    rw[hT.r.OD.1,hT.r.j3.Hw];exact hpo.from_
   refine⟨_,rfl,⟨_,_,_,_,_,rfl,by assumption,T.aj,T.cI,eB,⟨_,(rP (aM.of hsl)),(ez (fun h=>?r0) (fun h=>⟨_,rfl,⟨_,_,_,_,_,rfl,by assumption,T.aj,T.cI,eB,⟨ty_list (aM.of hsl),?pop4⟩⟩⟩))⟩⟩⟩
   case r0=>
    have h:(!y.sv.isEmpty)=false:=h
    cases q:y.sv with
    | nil=>rw[q] at hlen;exact absurd hlen.symm hz
    | cons _ _=>rw[q] at h;cases h
   case pop4=>
    refine⟨_,_,_,rfl,rfl,hsl,by rw[hlen];exact htv,?_⟩
    have c1:rM y.sl H (upd H y.sl (.lst y.sv.dropLast)):=gd
    have e1:upd H y.sl (.lst y.sv.dropLast) y.sl=some (.lst y.sv.dropLast):=ae
    generalize upd H y.sl (.lst y.sv.dropLast)=H1 at *
    have nin:∀b C d fs,H b=some (.ins C d fs)→b≠y.sl∧b≠y.ul:=fun b C d fs e=>⟨oM e hsl (by intro z;cases z),oM e hul (by intro z;cases z)⟩
    have htk1:=c1 _ _ htk n2
    have hth1:=c1 _ _ hth (nin _ _ _ _ hth).1
    have hul1:=c1 _ _ hul n5
    refine⟨_,rfl,⟨_,_,_,_,_,rfl,by assumption,T.bY,T.gk,qf,⟨_,rfl,?C5⟩⟩⟩
    case C5=>
     refine⟨_,_,_,_,rfl,htk1,T.aj,T.bD,nU,?_⟩
     rw[yd]
     have c2:rM ta H1 (upd H1 ta (.ins A.aj y.dx (aP (.ref y.sa) (.ref y.jZ) (.int (x.place:Nat)) (.ref y.ul) (.ref y.ca) (.int a.now) (.ref y.sl)))):=gd
     have e2:upd H1 ta (.ins A.aj y.dx (aP (.ref y.sa) (.ref y.jZ) (.int (x.place:Nat)) (.ref y.ul) (.ref y.ca) (.int a.now) (.ref y.sl))) ta=some (.ins A.aj y.dx (aP (.ref y.sa) (.ref y.jZ) (.int (x.place:Nat)) (.ref y.ul) (.ref y.ca) (.int a.now) (.ref y.sl))):=ae
     generalize upd H1 ta (.ins A.aj y.dx (aP (.ref y.sa) (.ref y.jZ) (.int (x.place:Nat)) (.ref y.ul) (.ref y.ca) (.int a.now) (.ref y.sl)))=H2 at *
     have nth:th≠ta:=oM hth htk (by intro z;injection z with z1 z2 z3;rw[j6,fz] at z3;have:=congrArg List.length z3;simp at this)
     have nsa:y.sa≠ta:=oM hsa htk (by intro z;injection z with z1 z2 z3;rw[dR,fz] at z3;have:=congrArg List.length z3;simp at this)
     have npa:pa≠ta:=oM hpa htk (by intro z;injection z with z1 z2 z3;rw[nS,fz] at z3;have:=congrArg List.length z3;simp at this)
     have g2:∀b o,H b=some o→b≠y.sl→b≠ta→H2 b=some o:=fun b o e q1 q2=>c2 _ _ (c1 _ _ e q1) q2
     have hth2:=g2 _ _ hth (nin _ _ _ _ hth).1 nth
     have hsa2:=g2 _ _ hsa (nin _ _ _ _ hsa).1 nsa
     have hpa2:=g2 _ _ hpa (nin _ _ _ _ hpa).1 npa
     have npc:z.tI≠y.sl∧z.tI≠ta:=by
      have hF:=(aS.mp hT.r.j9.tI).1
      exact⟨fun z1=>hF (by rw[z1];exact sM),fun z1=>hF (by rw[z1];exact tM)⟩
     have hpcl2:=g2 _ _ hpcl npc.1 npc.2
     have hul2:=g2 _ _ hul n5 (Ne.symm n1)
     refine⟨_,rfl,⟨_,_,_,_,_,rfl,by assumption,T.bY,T.iZ,Dy,⟨_,rfl,⟨_,_,_,_,_,rfl,by assumption,T.aj,T.cS,gp,⟨_,rfl,⟨_,_,_,_,_,rfl,by assumption,T.aj,T.aG,aJ,⟨_,_,_,_,_,rfl,by assumption,T.au,T.aR,aV,⟨_,rfl,⟨_,_,_,_,_,rfl,by assumption,T.bY,T.gk,qf,⟨_,_,_,_,rfl,rfl,(aM.of hpcl2),(bt hpv),⟨_,_,_,_,_,rfl,by assumption,T.bh,T.bq,bG,?seti2⟩⟩⟩⟩⟩⟩⟩⟩⟩⟩⟩
     case seti2=>
      refine⟨_,_,_,(Kh292.at_ a.script x.place).from_,rfl,rfl,hul2,MH hful,?_⟩
      have c3:rM y.ul H2 (upd H2 y.ul (.lst (y.uv.set (Kh292.at_ a.script x.place).from_ uv))):=gd
      have e3:upd H2 y.ul (.lst (y.uv.set (Kh292.at_ a.script x.place).from_ uv)) y.ul=some (.lst (y.uv.set (Kh292.at_ a.script x.place).from_ uv)):=ae
      generalize upd H2 y.ul (.lst (y.uv.set (Kh292.at_ a.script x.place).from_ uv))=H3 at *
      refine nt fun cx AN l H4 ncx nl nxl s4 hcx hl=>?_
      have htk4:=s4 _ _ (c3 _ _ e2 n1)
      refine⟨_,rfl,?gZ⟩
      case gZ=>
       refine⟨_,_,_,_,rfl,htk4,T.aj,T.bK,nU,?_⟩
       rw[rm]
       have c5:rM ta H4 (upd H4 ta (.ins A.aj y.dx (aP (.ref y.sa) (.ref y.jZ) (.int (x.place:Nat)) (.ref y.ul) (.ref cx) (.int a.now) (.ref y.sl)))):=gd
       have e5:upd H4 ta (.ins A.aj y.dx (aP (.ref y.sa) (.ref y.jZ) (.int (x.place:Nat)) (.ref y.ul) (.ref cx) (.int a.now) (.ref y.sl))) ta=some (.ins A.aj y.dx (aP (.ref y.sa) (.ref y.jZ) (.int (x.place:Nat)) (.ref y.ul) (.ref cx) (.int a.now) (.ref y.sl))):=ae
       generalize upd H4 ta (.ins A.aj y.dx (aP (.ref y.sa) (.ref y.jZ) (.int (x.place:Nat)) (.ref y.ul) (.ref cx) (.int a.now) (.ref y.sl)))=H5 at *
       have g3:∀b o,H3 b=some o→b≠ta→H5 b=some o:=fun b o e q=>c5 _ _ (s4 _ _ e) q
       have gen:∀b o,H b=some o→b≠ta→b≠y.sl→b≠y.ul→H5 b=some o:=fun b o e q1 q2 q3=>g3 _ _ (c3 _ _ (g2 _ _ e q2 q1) q3) q1
       have nn3:∀b o,H3 b=some o→b≠cx∧b≠l:=fun b o e=>⟨ao e ncx,ao e nl⟩
       have nta:=nn3 _ _ (c3 _ _ e2 n1)
       have nn:∀b o,H b=some o→b≠cx∧b≠l:=fun b o e=>by
        by_cases q1:b=y.sl
        ·rw[q1];exact nn3 _ _ (c3 _ _ (c2 _ _ e1 (Ne.symm n2)) (Ne.symm n5))
        by_cases q2:b=y.ul
        ·rw[q2];exact nn3 _ _ e3
        by_cases q3:b=ta
        ·rw[q3];exact nta
        exact nn3 _ _ (c3 _ _ (g2 _ _ e q1 q3) q2)
       have sF:ax (Off M H) (Off (cx::l::M) H5):=Ig fun b o hb e=>⟨gen b o e (fun z1=>hb (by rw[z1];exact tM)) (fun z1=>hb (by rw[z1];exact sM)) (fun z1=>hb (by rw[z1];exact uM)),nn b o e⟩
       have hth5:=gen _ _ hth nth (nin _ _ _ _ hth).1 (nin _ _ _ _ hth).2
       have r0:=hT.r
       refine⟨_,rfl,⟨_,_,_,_,_,rfl,by assumption,T.bY,T.jq,yr,?r1⟩⟩
       case r1=>
        refine kk (cx::l::M) { y with ca:=cx,AN:=AN,la:=l,tu:=0,uv:=y.uv.set (Kh292.at_ a.script x.place).from_ uv,sv:=y.sv.dropLast } (us.set (Kh292.at_ a.script x.place).from_ v) ss.dropLast H5 rfl ⟨⟨e5,(r0.j9.move sF fun _ _ _ e=>sF _ _ e).of_eq rfl rfl rfl rfl rfl rfl,sF _ _ r0.jZ,r0.Sg.mono fun _ _ h=>h.same sF,g3 _ _ e3 (Ne.symm n1),(r0.OD.mono fun _ _ h=>h.same sF).set _ (hun.same sF),c5 _ _ hcx (Ne.symm nta.1),c5 _ _ hl (Ne.symm nta.2),fun t g=>(nomatch g),g3 _ _ (c3 _ _ (c2 _ _ e1 (Ne.symm n2)) (Ne.symm n5)) (Ne.symm n2),?_,KI r0.j3 r0.told hso,Oq r0.told _⟩,?_,?_,Fc (y:=y) hT.nd nta.1 nta.2 (nn _ _ r0.ul).1 (nn _ _ r0.ul).2 (nn _ _ r0.sl).1 (nn _ _ r0.sl).2 nxl,fun x hx=>?_⟩ ?_
        ·show dg _ y.sv.dropLast (a.said.dropLast.zip ss.dropLast)
         refine⟨by rw[List.length_zip,List.length_dropLast,List.length_dropLast,List.length_dropLast,hlen,r0.j3.yE,Nat.min_self],fun i b c hb hc=>?_⟩
         obtain⟨q1,q2⟩:=List.getElem?_zip_eq_some.mp hc
         exact (r0.said.2 i b c (vW hb) (List.getElem?_zip_eq_some.mpr ⟨vW q1,vW q2⟩)).same sF
        ·refine BK (fun m hm=>?_) ⟨_,c5 _ _ hcx (Ne.symm nta.1)⟩ ⟨_,c5 _ _ hl (Ne.symm nta.2)⟩
         obtain⟨o,e⟩:=hT.live m hm
         by_cases q1:m=ta
         ·exact⟨_,by rw[q1];exact e5⟩
         by_cases q2:m=y.sl
         ·exact⟨_,by rw[q2];exact g3 _ _ (c3 _ _ (c2 _ _ e1 (Ne.symm n2)) (Ne.symm n5)) (Ne.symm n2)⟩
         by_cases q3:m=y.ul
         ·exact⟨_,by rw[q3];exact g3 _ _ e3 (Ne.symm n1)⟩
         exact⟨o,gen _ _ e q1 q2 q3⟩
        ·intro m hm
         simp only[TA.cu,List.mem_cons,List.not_mem_nil,or_false] at hm
         rcases hm with rfl | rfl | rfl | rfl | rfl
         ·simp[tM]
         ·simp[uM]
         ·simp[sM]
         ·simp
         ·simp
        ·obtain⟨x1,x2⟩:=hT.xs x hx
         obtain⟨o,e⟩:=hT.live x x1
         obtain⟨p1,p2⟩:=nn _ _ e
         simp only[TA.cu,List.mem_cons,List.not_mem_nil,or_false,not_or] at x2 ⊢
         exact⟨.inr (.inr x1),x2.1,x2.2.1,x2.2.2.1,p1,p2⟩
        ·intro x hx o e
         have:=(hT.xs x hx).2
         exact gen _ _ e (fun z1=>this (by rw[z1];simp[TA.cu])) (fun z1=>this (by rw[z1];simp[TA.cu])) (fun z1=>this (by rw[z1];simp[TA.cu]))
end
section
open Kh317 (Abs)
noncomputable def nN (k:Int) (an:Kh317.Ans):List V:=V.int an.value::nats (Kh317Neutral.shown k an)
theorem rS {k:Int} (h1:¬k=11) (h2:¬k=19) (an:Kh317.Ans):nN k an=V.int an.value::nats an.out:=by
 unfold nN Kh317Neutral.shown
 rw[if_neg h1,if_neg h2]
theorem dQ {k:Int} (v:Int):nN k (Kh317.say v)=[V.int v]:=by
 unfold nN Kh317Neutral.shown Kh317.say
 split
 ·simp[nats]
 ·split
  ·simp[nats]
  ·rfl
theorem gx {a:V}:[a].length≤sizeLine:=by rw[sizeLine_eq];show 1≤16777216;decide
theorem OT {a b c:V}:[a,b,c].length≤sizeLine:=by rw[sizeLine_eq];show 3≤16777216;decide
theorem MM {a b c d:V}:[a,b,c,d].length≤sizeLine:=by rw[sizeLine_eq];show 4≤16777216;decide
theorem gj {H H1:Hp} {Q:VK} {out:List V} (kk:∀(D:Addr) (H':Hp),H D=none→ax H H'→H' D=some (.lst out)→Q (.ref D) H') (s1:ax H H1) (xs:List V) (e:xs=out):∀p,H1 p=none→Q (.ref p) (upd H1 p (.lst xs)):=fun p hp=>kk p _ (s1.free hp) (s1.trans (aX hp)) (by rw[ae,e])
theorem CJ {v:Kt.U} (h:1≤v.lo):(if (0:Int) > v.hi - v.lo+1 then 0 else v.hi - v.lo+1)=((v.list.length:Nat):Int):=by
 unfold Kt.U.list
 rw[Kt.tF]
 split<;>omega
noncomputable def D5 (K:PySem.W.Frag) (A:Ad):Sp:=fun vs0 H Q _=>∃(ta:Addr) (y:TA) (z:SA) (a:Abs) (us ss:List Kt.U),vs0=[.ref ta]∧(mh A H H ta y z a us ss)∧(∀(D:Addr) (H':Hp),H D=none→ax H H'→H' D=some (.lst (nN 10 (Kh317.talk a .turn).2))→Q (.ref D) H')
theorem EC {P:Program} {w:World} {K:PySem.W.Frag} {mg:Str→Option Value} {base:Heap} {A:Ad} (T:Txt K mg A):bz P w K mg base gw 1 A.ig A.iz ["talk"] (D5 K A):=by
 refine T.t9.ok vv (fun vs H Q E h=>?_) (fun cdv Ar outer sh H vs Q E hr h=>?_)
 ·obtain⟨_,_,_,_,_,_,rfl,_⟩:=h
  rfl
 ·obtain⟨ta,y,z,a,us,ss,rfl,hT,kk⟩:=h
  have hu:=aY hr
  have hu64:=hr.units
  refine⟨_,(ab (aT (aA cg (ak (pv 0) rfl) (aw rfl T.yj) (aI _)) (ag (aq (bB (aa aH ah)))) ay)
   (ab (bb (i:=1) vv.nd rfl (Or.inl rfl) (bw aN (ak (ak (pv 0) rfl) rfl) (ak (pv 0) rfl) (fun _ _=>rfl)))
   (ag (aq (bB (aa aH (aa (ak (pv 0) rfl) (aa (ak (pv 1) rfl) (aa (ak (pv 1) rfl) ah))))))))),?_⟩
  try dsimp only[Of]
  have htk:=hT.zw
  have hsa:=hT.j9.j9
  have hpcl:=hT.j9.tI
  have te:(Kh317.talk a .turn).2=(match a.place with | none=>Kh317.say 0 | some q=>⟨1,[q,a.at_.from_,a.at_.to_]⟩):=rfl
  rw[te] at kk
  rcases Option.eq_none_or_eq_some a.place with hp | ⟨q,hp⟩
  ·rw[hp] at htk kk
   refine⟨_,rfl,⟨_,_,_,_,_,rfl,htk,T.aj,T.bD,b0,(bJ ⟨_,rfl,(aL (fun h=>?_) (fun h=>absurd rfl h))⟩)⟩⟩
   exact⟨gx,gj kk (ax.refl _) _ (dQ 0).symm⟩
  ·obtain⟨pa,pdx,wl,ws,hat,hpa,_,_,hne⟩:=hT.here hp
   rw[hp] at kk
   refine⟨_,rfl,⟨_,_,_,_,_,rfl,by assumption,T.aj,T.bD,b0,(bJ ⟨_,rfl,(aL (fun h=>?lst0) (fun h=>⟨_,rfl,⟨_,_,_,_,_,rfl,by assumption,T.aj,T.aG,aJ,⟨_,_,_,_,_,rfl,by assumption,T.au,T.aR,aV,⟨_,rfl,⟨_,_,_,_,_,rfl,by assumption,T.aj,T.bD,b0,⟨_,_,_,_,rfl,rfl,(aM.of hpcl),(hat),⟨_,rfl,⟨_,_,_,_,_,rfl,by assumption,T.aj,T.bD,b0,⟨_,rfl,⟨_,_,_,_,_,rfl,by assumption,T.bh,T.bq,bG,⟨_,rfl,⟨_,_,_,_,_,rfl,by assumption,T.bh,T.cT,hU,?lst1⟩⟩⟩⟩⟩⟩⟩⟩⟩⟩⟩⟩))⟩)⟩⟩
   case lst0=>exact absurd h hne
   case lst1=>
    refine⟨MM,gj kk (ax.refl _) _ ?_⟩
    rw[rS (by decide) (by decide),hp]
    rfl
noncomputable def D6 (K:PySem.W.Frag) (A:Ad):Sp:=fun vs0 H Q _=>∃(ta:Addr) (y:TA) (z:SA) (a:Abs) (us ss:List Kt.U) (k:Nat),vs0=[.ref ta,.int k]∧(mh A H H ta y z a us ss)∧(∀(D:Addr) (H':Hp),H D=none→ax H H'→H' D=some (.lst (nN 13 (Kh317.talk a (.said k)).2))→Q (.ref D) H')
theorem ED {P:Program} {w:World} {K:PySem.W.Frag} {mg:Str→Option Value} {base:Heap} {A:Ad} (T:Txt K mg A):bz P w K mg base gw 1 A.ij A.iA ["talk","number"] (D6 K A):=by
 refine T.ub.ok vw (fun vs H Q E h=>?_) (fun cdv Ar outer sh H vs Q E hr h=>?_)
 ·obtain⟨_,_,_,_,_,_,_,rfl,_⟩:=h
  rfl
 ·obtain⟨ta,y,z,a,us,ss,k,rfl,hT,kk⟩:=h
  have hu:=aY hr
  have hu64:=hr.units
  refine⟨_,(ab (aT (aA pJ (pv 1) (aD aB (by rfl) T.cw PySem.boot_len (aa (ak (pv 0) rfl) ah)) (aI _)) (ag (aq (bB (aa (aw rfl T.mJ) ah)))) ay)
   (ab (bb (i:=2) vw.nd rfl (Or.inl rfl) (bw aN (ak (pv 0) rfl) (pv 1) (fun _ _=>rfl)))
   (ag (aq (bB (aa aH (aa (ak (pv 2) rfl) (aa (ak (pv 2) rfl) (aa (ak (pv 2) rfl) ah))))))))),?_⟩
  try dsimp only[Of]
  have htk:=hT.zw
  have hsl:=hT.sl
  have hlen:y.sv.length=a.said.length:=by rw[hT.said.1,List.length_zip,hT.j3.yE,Nat.min_self]
  have te:(Kh317.talk a (.said k)).2=(match a.said[k]? with | none=>Kh317.say (-2) | some x=>⟨0,[x.place,x.word,x.tick]⟩):=rfl
  rw[te] at kk
  by_cases hk:k<a.said.length
  ·obtain⟨x,hx⟩:∃x,a.said[k]?=some x:=⟨_,List.getElem?_eq_getElem hk⟩
   obtain⟨v,hv⟩:∃v,ss[k]?=some v:=⟨_,List.getElem?_eq_getElem (by have:=hT.j3.yE;omega)⟩
   rw[hx] at kk
   obtain⟨tv,htv,th,thx,uv,rfl,hth,_⟩:=hT.said.get' (List.getElem?_zip_eq_some.mpr ⟨hx,hv⟩:(a.said.zip ss)[k]?=some (x,v))
   refine⟨_,rfl,⟨_,rfl,⟨_,_,_,_,_,rfl,by assumption,T.aj,T.cI,eB,⟨_,_,rfl,.inl (aM.of hsl),⟨_,_,rfl,rfl,⟨_,rfl,(aL (fun h=>?lst0) (fun h=>⟨_,rfl,⟨_,_,_,_,_,rfl,by assumption,T.aj,T.cI,eB,⟨_,rfl,⟨_,_,_,_,rfl,rfl,(aM.of hsl),(bt htv),⟨_,rfl,⟨_,_,_,_,_,rfl,by assumption,T.bY,T.gk,qf,⟨_,rfl,⟨_,_,_,_,_,rfl,by assumption,T.bY,T.jq,yr,⟨_,rfl,⟨_,_,_,_,_,rfl,by assumption,T.bY,T.lC,GG,?lst1⟩⟩⟩⟩⟩⟩⟩⟩⟩⟩))⟩⟩⟩⟩⟩⟩
   case lst0=>rw[hlen] at h;omega
   case lst1=>
    refine⟨MM,gj kk (ax.refl _) _ ?_⟩
    rw[rS (by decide) (by decide)]
    rfl
  ·rw[List.getElem?_eq_none (by omega)] at kk
   refine⟨_,rfl,⟨_,rfl,⟨_,_,_,_,_,rfl,htk,T.aj,T.cI,eB,⟨_,_,rfl,.inl (aM.of hsl),⟨_,_,rfl,rfl,⟨_,rfl,(aL (fun h=>?_) (fun h=>?_))⟩⟩⟩⟩⟩⟩
   ·exact⟨gx,gj kk (ax.refl _) _ (dQ _).symm⟩
   ·rw[hlen] at h;omega
noncomputable def D8 (K:PySem.W.Frag) (A:Ad):Sp:=fun vs0 H Q _=>∃(ta:Addr) (y:TA) (z:SA) (a:Abs) (us ss:List Kt.U),vs0=[.ref ta]∧(mh A H H ta y z a us ss)∧(∀(D:Addr) (H':Hp),H D=none→ax H H'→H' D=some (.lst (nN 14 (Kh317.talk a .many).2))→Q (.ref D) H')
theorem EF {P:Program} {w:World} {K:PySem.W.Frag} {mg:Str→Option Value} {base:Heap} {A:Ad} (T:Txt K mg A):bz P w K mg base gw 1 A.il A.iC ["talk"] (D8 K A):=by
 refine T.uf.ok Eg (fun vs H Q E h=>?_) (fun cdv Ar outer sh H vs Q E hr h=>?_)
 ·obtain⟨_,_,_,_,_,_,rfl,_⟩:=h
  rfl
 ·obtain⟨ta,y,z,a,us,ss,rfl,hT,kk⟩:=h
  have hu:=aY hr
  have hu64:=hr.units
  refine⟨_,(ag (aq (bB (aa (aD aB (by rfl) T.cw PySem.boot_len (aa (ak (pv 0) rfl) ah)) ah)))),?_⟩
  try dsimp only[Of]
  have htk:=hT.zw
  have hsl:=hT.sl
  have hlen:y.sv.length=a.said.length:=by rw[hT.said.1,List.length_zip,hT.j3.yE,Nat.min_self]
  refine⟨_,rfl,⟨_,_,_,_,_,rfl,by assumption,T.aj,T.cI,eB,⟨_,_,rfl,.inl (aM.of hsl),?lst0⟩⟩⟩
  case lst0=>
   refine⟨gx,gj kk (ax.refl _) _ ?_⟩
   rw[hlen]
   exact (dQ _).symm
noncomputable def C1 (K:PySem.W.Frag) (A:Ad):Sp:=fun vs0 H Q _=>∃(ta:Addr) (y:TA) (z:SA) (a:Abs) (us ss:List Kt.U) (c:Nat),vs0=[.ref ta,.int c]∧(mh A H H ta y z a us ss)∧(∀(D:Addr) (H':Hp),H D=none→ax H H'→H' D=some (.lst (nN 15 (Kh317.talk a (.units c)).2))→Q (.ref D) H')
theorem De {P:Program} {w:World} {K:PySem.W.Frag} {mg:Str→Option Value} {base:Heap} {A:Ad} (T:Txt K mg A):bz P w K mg base gw 2 A.gD A.gH ["talk","party"] (C1 K A):=by
 refine T.rF.ok uA (fun vs H Q E h=>?_) (fun cdv Ar outer sh H vs Q E hr h=>?_)
 ·obtain⟨_,_,_,_,_,_,_,rfl,_⟩:=h
  rfl
 ·obtain⟨ta,y,z,a,us,ss,c,rfl,hT,kk⟩:=h
  have hu:=aY hr
  have hu64:=hr.units
  refine⟨_,(ab (aT (aA pJ (pv 1) (ak (ak (pv 0) rfl) rfl) (aI _)) (ag (aq (bB (aa (aw rfl T.fA) ah)))) ay)
   (ab (bb (i:=2) uA.nd rfl (Or.inl rfl) (bw aN (ak (pv 0) rfl) (pv 1) (fun _ _=>rfl)))
   (ag (aq (bB (aa (j0 (pv 2) T.bg T.lD (qx T) (hr.mono (by decide)) T.oK .nil aK) (aa (ak (pv 2) rfl) (aa (ak (pv 2) rfl) ah)))))))),?_⟩
  try dsimp only[Of]
  have htk:=hT.zw
  have hsa:=hT.j9.j9
  have hul:=hT.ul
  have te:(Kh317.talk a (.units c)).2=(if a.p≤c then Kh317.say (-22) else ⟨((a.mine c).length:Nat),[(a.mine c).headD 0,(a.mine c).getLastD 0]⟩):=rfl
  rw[te] at kk
  by_cases hc:c<a.p
  ·rw[if_neg (by omega)] at kk
   obtain⟨u,hu⟩:∃u,us[c]?=some u:=⟨_,List.getElem?_eq_getElem (by rw[hT.j3.Hw];exact hc)⟩
   obtain⟨uv,huv,ux,yy,rfl,hux⟩:=hT.OD.get' hu
   have huo:=hT.j3.Jf u (List.mem_of_getElem? hu)
   have h1:1≤u.lo:=by have:=huo.lo;have:=hT.told.lo1;omega
   rw[Kt.Ak hT.j3.units hu] at kk
   refine⟨_,rfl,⟨_,rfl,⟨_,_,_,_,_,rfl,by assumption,T.aj,T.aG,aJ,⟨_,_,_,_,_,rfl,by assumption,T.au,T.aO,aU,⟨_,_,rfl,rfl,⟨_,rfl,(aL (fun h=>?lst0) (fun h=>⟨_,rfl,⟨_,_,_,_,_,rfl,by assumption,T.aj,T.cS,gp,⟨_,rfl,⟨_,_,_,_,rfl,rfl,(aM.of hul),(bt huv),⟨_,rfl,⟨_,_,_,rfl,by assumption,qy,⟨_,_,_,_,rfl,by assumption,⟨_,rfl,⟨_,_,_,_,_,rfl,by assumption,T.bg,T.cp,fq,⟨_,rfl,⟨_,_,_,_,_,rfl,by assumption,T.bg,T.bQ,ei,?lst1⟩⟩⟩⟩⟩⟩⟩⟩⟩⟩⟩))⟩⟩⟩⟩⟩⟩
   case lst0=>omega
   case lst1=>
    refine⟨OT,gj kk (ax.refl _) _ ?_⟩
    rw[rS (by decide) (by decide),CJ h1]
    show _=[V.int _,V.int ((u.list.headD 0:Nat):Int),V.int ((u.list.getLastD 0:Nat):Int)]
    rw[Kt.G4 huo,Kt.NS huo]
  ·rw[if_pos (by omega)] at kk
   refine⟨_,rfl,⟨_,rfl,⟨_,_,_,_,_,rfl,htk,T.aj,T.aG,aJ,⟨_,_,_,_,_,rfl,hsa,T.au,T.aO,aU,⟨_,_,rfl,rfl,⟨_,rfl,(aL (fun h=>?_) (fun h=>?_))⟩⟩⟩⟩⟩⟩
   ·exact⟨gx,gj kk (ax.refl _) _ (dQ _).symm⟩
   ·omega
noncomputable def zE (K:PySem.W.Frag) (A:Ad):Sp:=fun vs0 H Q _=>∃(sa:Addr) (z:SA) (a:Abs) (w:Nat),vs0=[.ref sa,.int w]∧(fB A H H sa z a)∧(Kt.Told a)∧(∀(D:Addr) (H':Hp),H D=none→ax H H'→H' D=some (.lst (nN 17 (Kh317.step a (.letters w)).2))→Q (.ref D) H')
theorem Aa {P:Program} {w:World} {K:PySem.W.Frag} {mg:Str→Option Value} {base:Heap} {A:Ad} (T:Txt K mg A):bz P w K mg base gw 1 A.eS A.fb ["script","word"] (zE K A):=by
 refine T.oG.ok qt (fun vs H Q E h=>?_) (fun cdv Ar outer sh H vs Q E hr h=>?_)
 ·obtain⟨_,_,_,_,rfl,_⟩:=h
  rfl
 ·obtain⟨sa,z,a,w,rfl,hS,hT,kk⟩:=h
  have hu:=aY hr
  have hu64:=hr.units
  refine⟨_,(ab (aT (aA pJ (pv 1) (aD aB (by rfl) T.cw PySem.boot_len (aa (ak (pv 0) rfl) ah)) (aI _)) (ag (aq (bB (aa (aw rfl T.mJ) ah)))) ay)
   (ab (bb (i:=2) qt.nd rfl (Or.inl rfl) (bw aN (ak (pv 0) rfl) (pv 1) (fun _ _=>rfl)))
   (ag (aq (bX LA (bB (aa (aD aB (by rfl) T.cw PySem.boot_len (aa (pv 2) ah)) ah)) (pv 2)))))),?_⟩
  try dsimp only[Of]
  have hsa:=hS.j9
  have hwl:=hS.wl
  have hlen:z.wv.length=a.words.length:=hS.ON.1
  have te:(Kh317.step a (.letters w)).2=(match a.words[w]? with | none=>Kh317.say (-2) | some t=>⟨(t.length:Nat),t⟩):=rfl
  rw[te] at kk
  by_cases hw:w<a.words.length
  ·obtain⟨t,ht⟩:∃t,a.words[w]?=some t:=⟨_,List.getElem?_eq_getElem hw⟩
   rw[ht] at kk
   have ewv:z.wv[w]?=some (z.wv[w]'(by omega)):=List.getElem?_eq_getElem _
   obtain⟨la,ela,hla⟩:=hS.ON.2 w _ t ewv ht
   have h12:=(Kt.pN.mp (hT.OC t (List.mem_of_getElem? ht))).2.1
   refine⟨_,rfl,⟨_,rfl,⟨_,_,_,_,_,rfl,by assumption,T.au,T.br,bF,⟨_,_,rfl,.inl (aM.of hwl),⟨_,_,rfl,rfl,⟨_,rfl,(aL (fun h=>?lst0) (fun h=>⟨_,rfl,⟨_,_,_,_,_,rfl,by assumption,T.au,T.br,bF,⟨_,rfl,⟨_,_,_,_,rfl,rfl,(aM.of hwl),(bt (by rw[ewv,ela])),⟨_,rfl,⟨_,_,rfl,.inl (aM.of hla),?lst2⟩⟩⟩⟩⟩⟩))⟩⟩⟩⟩⟩⟩
   case lst0=>rw[hlen] at h;omega
   case lst2=>
    refine⟨gx,fun p hp=>?_⟩
    have s1:=aX (H:=H) (o:=.lst [V.int ((nats t).length:Nat)]) hp
    refine⟨_,rfl,?cat1⟩
    case cat1=>
     refine⟨_,_,_,_,rfl,rfl,ae,s1 _ _ hla,by rw[aE,sizeLine_eq];show 1+t.length≤16777216;omega,gj kk s1 _ ?_⟩
     rw[rS (by decide) (by decide),aE]
     rfl
  ·rw[List.getElem?_eq_none (by omega)] at kk
   refine⟨_,rfl,⟨_,rfl,⟨_,_,_,_,_,rfl,hsa,T.au,T.br,bF,⟨_,_,rfl,.inl (aM.of hwl),⟨_,_,rfl,rfl,⟨_,rfl,(aL (fun h=>?_) (fun h=>?_))⟩⟩⟩⟩⟩⟩
   ·exact⟨gx,gj kk (ax.refl _) _ (dQ _).symm⟩
   ·rw[hlen] at h;omega
theorem JK (n:Nat) (l:List Nat):(Kh317.pad n l).take l.length=l:=by
 unfold Kh317.pad
 rw[List.take_append_of_le_length (Nat.le_refl _),List.take_length]
theorem Er (r:Kh292.Row):(rk r).length=3+2 * r.ways.length:=by
 unfold rk
 have :∀l:List (Nat×Nat),(l.flatMap fun w=>[w.1,w.2]).length=2 * l.length:=fun l=>by
  induction l with
  | nil=>rfl
  | cons w l ih=>
   have e:(w::l).length=l.length+1:=rfl
   rw[List.flatMap_cons,List.length_append,ih,e]
   show 2+2 * l.length=2 * (l.length+1)
   omega
 simp only[List.length_cons,this]
 omega
theorem Rh (r:Kh292.Row):nN 19 ⟨0,Kh317.rowNums r⟩=V.int 0::nats (rk r):=by
 unfold nN Kh317Neutral.shown
 rw[if_neg (by decide),if_pos rfl]
 have e1:Kh317.rowNums r=Kh317.pad 35 (rk r):=rfl
 have e2:(Kh317.rowNums r).getD 2 0=r.ways.length:=rfl
 show V.int 0::nats ((Kh317.rowNums r).take (3+2 * (Kh317.rowNums r).getD 2 0))=_
 rw[e2,e1,←Er,JK]
theorem mh.part {A:Ad} {H:Hp} {ta:Addr} {y:TA} {z:SA} {a:Abs} {us ss:List Kt.U} (r:mh A H H ta y z a us ss) {c:Nat} (hc:c<a.p):∃(x dx rl:Addr) (rv:List V),y.Vh[c]?=some (.ref x)∧H x=some (.ins A.fo dx (iI (.int 0) (.ref rl)))∧H rl=some (.lst rv)∧gK H rv ((Kh317.rows a c).map rk):=by
 have hr:(List.range a.p)[c]?=some c:=List.getElem?_range hc
 obtain⟨v,hv,x,dx,rl,rv,rfl,h1,h2,h3⟩:=r.Sg.get' hr
 obtain⟨l,hl⟩:=r.j3.parts c hc
 rw[hl] at h1 h3
 refine⟨x,dx,rl,rv,hv,h1,h2,?_⟩
 unfold Kh317.rows
 rw[hl]
 show gK H rv ((l.map (Kh292.rowOf a.script c l)).map rk)
 rw[List.map_map]
 exact h3
noncomputable def Bm (K:PySem.W.Frag) (A:Ad):Sp:=fun vs0 H Q _=>∃(ta:Addr) (y:TA) (z:SA) (a:Abs) (us ss:List Kt.U) (c:Nat),vs0=[.ref ta,.int c]∧(mh A H H ta y z a us ss)∧(∀(D:Addr) (H':Hp),H D=none→ax H H'→H' D=some (.lst (nN 18 (Kh317.talk a (.states c)).2))→Q (.ref D) H')
theorem BG {P:Program} {w:World} {K:PySem.W.Frag} {mg:Str→Option Value} {base:Heap} {A:Ad} (T:Txt K mg A):bz P w K mg base gw 1 A.fJ A.fS ["talk","party"] (Bm K A):=by
 refine T.p0.ok Bw (fun vs H Q E h=>?_) (fun cdv Ar outer sh H vs Q E hr h=>?_)
 ·obtain⟨_,_,_,_,_,_,_,rfl,_⟩:=h
  rfl
 ·obtain⟨ta,y,z,a,us,ss,c,rfl,hT,kk⟩:=h
  have hu:=aY hr
  have hu64:=hr.units
  refine⟨_,(ab (aT (aA pJ (pv 1) (ak (ak (pv 0) rfl) rfl) (aI _)) (ag (aq (bB (aa (aw rfl T.fA) ah)))) ay)
   (ag (aq (bB (aa (aD aB (by rfl) T.cw PySem.boot_len (aa (ak (bw aN (ak (pv 0) rfl) (pv 1) (fun _ _=>rfl)) rfl) ah)) ah))))),?_⟩
  try dsimp only[Of]
  have htk:=hT.zw
  have hsa:=hT.j9.j9
  have hprl:=hT.jZ
  have te:(Kh317.talk a (.states c)).2=(if a.p≤c then Kh317.say (-22) else Kh317.say ((Kh317.rows a c).length:Nat)):=rfl
  rw[te] at kk
  by_cases hc:c<a.p
  ·rw[if_neg (by omega)] at kk
   obtain⟨x,dx,rl,rv,hv,hx,hrl,L⟩:=hT.part hc
   refine⟨_,rfl,⟨_,rfl,⟨_,_,_,_,_,rfl,by assumption,T.aj,T.aG,aJ,⟨_,_,_,_,_,rfl,by assumption,T.au,T.aO,aU,⟨_,_,rfl,rfl,⟨_,rfl,(aL (fun h=>?lst0) (fun h=>⟨_,rfl,⟨_,_,_,_,_,rfl,by assumption,T.aj,T.gU,rL,⟨_,rfl,⟨_,_,_,_,rfl,rfl,(aM.of hprl),(bt hv),⟨_,_,_,_,_,rfl,by assumption,T.fo,T.jb,uo,⟨_,_,rfl,.inl (aM.of hrl),?lst1⟩⟩⟩⟩⟩⟩))⟩⟩⟩⟩⟩⟩
   case lst0=>omega
   case lst1=>
    refine⟨gx,gj kk (ax.refl _) _ ?_⟩
    rw[L.1,List.length_map]
    exact (dQ _).symm
  ·rw[if_pos (by omega)] at kk
   refine⟨_,rfl,⟨_,rfl,⟨_,_,_,_,_,rfl,htk,T.aj,T.aG,aJ,⟨_,_,_,_,_,rfl,hsa,T.au,T.aO,aU,⟨_,_,rfl,rfl,⟨_,rfl,(aL (fun h=>?_) (fun h=>?_))⟩⟩⟩⟩⟩⟩
   ·exact⟨gx,gj kk (ax.refl _) _ (dQ _).symm⟩
   ·omega
noncomputable def D7 (K:PySem.W.Frag) (A:Ad):Sp:=fun vs0 H Q _=>∃(ta:Addr) (y:TA) (z:SA) (a:Abs) (us ss:List Kt.U) (c i:Nat),vs0=[.ref ta,.int c,.int i]∧(mh A H H ta y z a us ss)∧(∀(D:Addr) (H':Hp),H D=none→ax H H'→H' D=some (.lst (nN 19 (Kh317.talk a (.part c i)).2))→Q (.ref D) H')
theorem EE {P:Program} {w:World} {K:PySem.W.Frag} {mg:Str→Option Value} {base:Heap} {A:Ad} (T:Txt K mg A):bz P w K mg base gw 1 A.ik A.iB ["talk","party","number"] (D7 K A):=by
 refine T.ue.ok vx (fun vs H Q E h=>?_) (fun cdv Ar outer sh H vs Q E hr h=>?_)
 ·obtain⟨_,_,_,_,_,_,_,_,rfl,_⟩:=h
  rfl
 ·obtain⟨ta,y,z,a,us,ss,c,i,rfl,hT,kk⟩:=h
  have hu:=aY hr
  have hu64:=hr.units
  refine⟨_,(ab (aT (aA pJ (pv 1) (ak (ak (pv 0) rfl) rfl) (aI _)) (ag (aq (bB (aa (aw rfl T.fA) ah)))) ay)
   (ab (bb (i:=3) vx.nd rfl (Or.inl rfl) (ak (bw aN (ak (pv 0) rfl) (pv 1) (fun _ _=>rfl)) rfl))
   (ab (aT (aA pJ (pv 2) (aD aB (by rfl) T.cw PySem.boot_len (aa (pv 3) ah)) (aI _)) (ag (aq (bB (aa (aw rfl T.mJ) ah)))) ay)
   (ag (aq (bX LA (bB (aa aH ah)) (bw aN (pv 3) (pv 2) (fun _ _=>rfl)))))))),?_⟩
  try dsimp only[Of]
  have htk:=hT.zw
  have hsa:=hT.j9.j9
  have hprl:=hT.jZ
  have te:(Kh317.talk a (.part c i)).2=(if a.p≤c then Kh317.say (-22) else match (Kh317.rows a c)[i]? with | none=>Kh317.say (-2) | some r=>⟨0,Kh317.rowNums r⟩):=rfl
  rw[te] at kk
  by_cases hc:c<a.p
  ·rw[if_neg (by omega)] at kk
   obtain⟨x,dx,rl,rv,hv,hx,hrl,L⟩:=hT.part hc
   have hlen:rv.length=(Kh317.rows a c).length:=by rw[L.1,List.length_map]
   by_cases hi:i<(Kh317.rows a c).length
   ·obtain⟨r,hr⟩:∃r,(Kh317.rows a c)[i]?=some r:=⟨_,List.getElem?_eq_getElem hi⟩
    rw[hr] at kk
    have erv:rv[i]?=some (rv[i]'(by omega)):=List.getElem?_eq_getElem _
    obtain⟨ra,era,hra⟩:=L.2 i _ (rk r) erv (by rw[List.getElem?_map,hr];rfl)
    have h16:r.ways.length≤256:=by
     have hm:=List.mem_of_getElem? hr
     unfold Kh317.rows at hm
     split at hm
     ·obtain⟨st,_,rfl⟩:=List.mem_map.mp hm
      unfold Kh292.rowOf Kh292.words
      rw[List.length_map]
      exact Nat.le_trans (List.length_filter_le _ _) (by rw[List.length_range];omega)
     ·cases hm
    refine⟨_,rfl,⟨_,rfl,⟨_,_,_,_,_,rfl,by assumption,T.aj,T.aG,aJ,⟨_,_,_,_,_,rfl,by assumption,T.au,T.aO,aU,⟨_,_,rfl,rfl,⟨_,rfl,(aL (fun h=>?lst0) (fun h=>⟨_,rfl,⟨_,_,_,_,_,rfl,by assumption,T.aj,T.gU,rL,⟨_,rfl,⟨_,_,_,_,rfl,rfl,(aM.of hprl),(bt hv),⟨_,_,_,_,_,rfl,by assumption,T.fo,T.jb,uo,⟨_,rfl,⟨_,rfl,⟨_,_,rfl,.inl (aM.of hrl),⟨_,_,rfl,rfl,⟨_,rfl,(aL (fun h=>?lst1) (fun h=>?lst3))⟩⟩⟩⟩⟩⟩⟩⟩⟩⟩))⟩⟩⟩⟩⟩⟩
    case lst0=>omega
    case lst1=>rw[hlen] at h;omega
    case lst3=>
     refine⟨gx,fun p hp=>?_⟩
     have s1:=aX (H:=H) (o:=.lst [V.int 0]) hp
     refine⟨_,rfl,⟨_,rfl,⟨_,_,_,_,rfl,rfl,(aM.of (s1 _ _ hrl)),(bt (by rw[erv,era])),?cat2⟩⟩⟩
     case cat2=>
      refine⟨_,_,_,_,rfl,rfl,ae,s1 _ _ hra,by rw[aE,Er,sizeLine_eq];show 1+(3+2 * r.ways.length)≤16777216;omega,gj kk s1 _ ?_⟩
      rw[Rh]
      rfl
   ·rw[List.getElem?_eq_none (by omega)] at kk
    refine⟨_,rfl,⟨_,rfl,⟨_,_,_,_,_,rfl,by assumption,T.aj,T.aG,aJ,⟨_,_,_,_,_,rfl,by assumption,T.au,T.aO,aU,⟨_,_,rfl,rfl,⟨_,rfl,(aL (fun h=>?_) (fun h=>⟨_,rfl,⟨_,_,_,_,_,rfl,by assumption,T.aj,T.gU,rL,⟨_,rfl,⟨_,_,_,_,rfl,rfl,aM.of hprl,bt hv,⟨_,_,_,_,_,rfl,by assumption,T.fo,T.jb,uo,⟨_,rfl,⟨_,rfl,⟨_,_,rfl,.inl (aM.of hrl),⟨_,_,rfl,rfl,⟨_,rfl,(aL (fun h=>?_) (fun h=>?_))⟩⟩⟩⟩⟩⟩⟩⟩⟩⟩))⟩⟩⟩⟩⟩⟩
    ·omega
    ·exact⟨gx,gj kk (ax.refl _) _ (dQ _).symm⟩
    ·rw[hlen] at h;omega
  ·rw[if_pos (by omega)] at kk
   refine⟨_,rfl,⟨_,rfl,⟨_,_,_,_,_,rfl,htk,T.aj,T.aG,aJ,⟨_,_,_,_,_,rfl,hsa,T.au,T.aO,aU,⟨_,_,rfl,rfl,⟨_,rfl,(aL (fun h=>?_) (fun h=>?_))⟩⟩⟩⟩⟩⟩
   ·exact⟨gx,gj kk (ax.refl _) _ (dQ _).symm⟩
   ·omega
end
section
open Kh317 (Abs)
noncomputable def ES (a:Abs) (i:Nat):List Nat:=(a.at_.ways.take i).flatMap fun w=>[w.1,(a.by_ w.1).length]
theorem B0 (l:List (Nat×Option Nat)) (f:Nat×Option Nat→Nat):(l.flatMap fun w=>[w.1,f w]).length=2 * l.length:=by
 induction l with
 | nil=>rfl
 | cons w l ih=>
  have e:(w::l).length=l.length+1:=rfl
  rw[List.flatMap_cons,List.length_append,ih,e]
  show 2+2 * l.length=2 * (l.length+1)
  omega
theorem PQ (a:Abs) (i:Nat):(ES a i).length≤2 * a.at_.ways.length:=by
 unfold ES
 rw[B0,List.length_take]
 omega
theorem NP {a:Abs} {i:Nat} {w:Nat×Option Nat} (h:a.at_.ways[i]?=some w):ES a (i+1)=ES a i++[w.1]++[(a.by_ w.1).length]:=by
 unfold ES
 rw[List.take_add_one,h,List.flatMap_append]
 simp
theorem Ri (a:Abs):nN 11 (Kh317.talk a .may).2=V.int ((a.at_.ways.length:Nat):Int)::nats (ES a a.at_.ways.length):=by
 have te:(Kh317.talk a .may).2=(match a.place with | none=>Kh317.say 0 | some _=>⟨(a.at_.ways.length:Nat),Kh317.pad 8 (a.at_.ways.flatMap fun w=>[w.1,(a.by_ w.1).length])⟩):=rfl
 rw[te]
 rcases Option.eq_none_or_eq_some a.place with hp | ⟨q,hp⟩
 ·have e:=mD hp
  rw[hp]
  unfold ES
  rw[e]
  exact dQ 0
 ·rw[hp]
  unfold nN Kh317Neutral.shown ES
  rw[if_pos rfl,List.take_length]
  show V.int _::nats ((Kh317.pad 8 (a.at_.ways.flatMap fun w=>[w.1,(a.by_ w.1).length])).take (2 * ((a.at_.ways.length:Nat):Int).toNat))=_
  rw[Int.toNat_natCast,←B0 a.at_.ways (fun w=>(a.by_ w.1).length),JK]
noncomputable def FR (K:PySem.W.Frag) (A:Ad):Sp:=fun vs0 H Q _=>∃(ta:Addr) (X M:List Addr) (y:TA) (z:SA) (a:Abs) (us ss:List Kt.U),vs0=[.ref ta]∧(bH A X M H ta y z a us ss)∧(∀(D:Addr) (H':Hp),H D=none→ax H H'→H' D=some (.lst (nN 11 (Kh317.talk a .may).2))→Q (.ref D) H')
theorem Gg {P:Program} {w:World} {K:PySem.W.Frag} {mg:Str→Option Value} {base:Heap} {A:Ad} (T:Txt K mg A):bz P w K mg base gw 7 A.jC A.jL ["talk"] (FR K A):=by
 refine T.vS.ok ni (fun vs H Q E h=>?_) (fun cdv Ar outer sh H vs Q E hr h=>?_)
 ·obtain⟨_,_,_,_,_,_,_,_,rfl,_⟩:=h
  rfl
 ·obtain⟨ta,X,M,y,z,a,us,ss,rfl,hT,kk⟩:=h
  have hu:=aY hr
  have hu64:=hr.units
  refine⟨_,(ab (bb (i:=1) ni.nd rfl (Or.inl rfl) (cz (pv 0) T.aj T.mF (rV T) (hr.mono (by decide)) T.qb .nil aK (aa (ak (pv 0) rfl) ah)))
   (ab (bb (i:=2) ni.nd rfl (Or.inl rfl) (bB (aa (aD aB (by rfl) T.cw PySem.boot_len (aa (pv 1) ah)) ah)))
   (ab (oq PassesOwn.never rfl (dP (pv 1)) (bC (i:=3) ni.nd rfl (Or.inl rfl) (Or.inl rfl)) (ab (cy (g6 PySem.F.plainAttrs_list PySem.F.slot_list_append PySem.F.type_list_append bR (pv 2) (aa (ak (ak (pv 3) rfl) rfl) ah)))
   (ag (cy (g6 PySem.F.plainAttrs_list PySem.F.slot_list_append PySem.F.type_list_append bR (pv 2) (aa (j0 (ak (pv 3) rfl) T.bg T.lD (qx T) (hr.mono (by decide)) T.oK .nil aK) ah))))))
   (ag (aq (pv 2)))))),?_⟩
  try dsimp only[Of]
  have htk:=hT.r.zw
  have h4:a.at_.ways.length≤4:=by
   rcases Option.eq_none_or_eq_some a.place with hp | ⟨q,hp⟩
   ·rw[mD hp];exact Nat.zero_le _
   ·exact (hT.r.told.pl _ (jS hT.r.j3 hT.r.told hp).2.1).most
  refine⟨_,rfl,⟨_,_,_,rfl,by assumption,rX,⟨_,rfl,⟨_,_,_,_,_,rfl,by assumption,T.aj,T.fk,qY,?we⟩⟩⟩⟩
  case we=>
   refine⟨_,X,M,y,z,a,us,ss,a.now,rfl,hT,Nat.le_refl _,fun D cv H1 hD s1 hcv L=>?_⟩
   have hwl:(GO a a.now us).length=a.at_.ways.length:=by unfold GO;rw[List.length_map]
   have hcl:cv.length=a.at_.ways.length:=by rw[L.1,hwl]
   refine⟨_,rfl,⟨_,_,rfl,.inl (aM.of hcv),?lst2⟩⟩
   case lst2=>
    refine⟨gx,fun p hp=>?_⟩
    have hpD:D≠p:=fun e=>by rw[e,hp] at hcv;cases hcv
    refine⟨_,rfl,?loop0⟩
    case loop0=>
     refine⟨_,rfl,⟨_,aM.of (aX hp _ _ hcv)⟩,E9 (xs:=cv) (fun i σ H'=>∃v:Option V,σ=[some (.ref ta),some (.ref D),some (.ref p),v]∧ax H1 H'∧H' p=some (.lst (V.int ((a.at_.ways.length:Nat):Int)::nats (ES a i))))
      ⟨none,rfl,aX hp,by rw[ae,hcl];rfl⟩ (fun i σ H' ⟨_,_,s,_⟩=>aM.of (s _ _ hcv)) ?_ ?_⟩
     ·rintro i v σ H2 hv ⟨v3,rfl,s2,hp2⟩
      obtain⟨c,hc,hch⟩:=L.get hv
      obtain⟨x,dx,wv,uv,rfl,hxx,⟨wa,wdx,rfl,hwa⟩,⟨ux,yy,rfl,hux⟩⟩:=hch
      have hx1:=(aS.mp hxx).2
      have hwa1:=(aS.mp hwa).2
      have hux1:=(aS.mp hux).2
      have hx2:=s2 _ _ hx1
      have hwa2:=s2 _ _ hwa1
      obtain⟨w,hw,rfl⟩:∃w,a.at_.ways[i]?=some w∧c=(w,wU a a.now w.1 (dI a us)):=by
       unfold GO at hc
       rw[List.getElem?_map] at hc
       cases e:a.at_.ways[i]? with
       | none=>rw[e] at hc;cases hc
       | some w=>rw[e] at hc;cases hc;exact⟨w,rfl,rfl⟩
      obtain⟨q,hq⟩:∃q,a.place=some q:=by
       rcases Option.eq_none_or_eq_some a.place with hp | ⟨q,hp⟩
       ·rw[mD hp] at hw;cases hw
       ·exact⟨q,hp⟩
      have hpl:=hT.r.told.pl _ (jS hT.r.j3 hT.r.told hq).2.1
      have hww:=hpl.word w (List.mem_of_getElem? hw)
      have hby:a.by_ w.1=(wU a a.now w.1 (dI a us)).list:=Qt (t:=a.now) hT.r.j3 hT.r.told hq hww
      have huo:=wW hT.r.j3 hT.r.told hq
      have h1:1≤(wU a a.now w.1 (dI a us)).lo:=RY (by have:=huo.lo;have:=hT.r.told.lo1;omega)
      have hml:=PQ a i
      have hlen:(V.int ((a.at_.ways.length:Nat):Int)::nats (ES a i)).length+1<sizeLine:=by
       rw[List.length_cons,aE,sizeLine_eq];omega
      try dsimp only[Of]
      refine⟨_,rfl,⟨ty_list (aM.of hp2),⟨_,rfl,⟨_,_,_,_,_,rfl,by assumption,T.bW,T.eA,j7,⟨_,_,_,_,_,rfl,by assumption,T.eh,T.cR,eI,?ur⟩⟩⟩⟩⟩
      case ur=>
       refine⟨_,_,_,rfl,rfl,hp2,by omega,?_⟩
       have s3:ax H1 (upd H2 p (.lst (V.int ((a.at_.ways.length:Nat):Int)::nats (ES a i)++[.int (w.1:Nat)]))):=fun b o e=>by
        rw[af (ao e hp)]
        exact s2 _ _ e
       have hx3:=s3 _ _ hx1
       have hux3:=s3 _ _ hux1
       refine⟨_,rfl,⟨ty_list (aM.of ae),⟨_,rfl,⟨_,_,_,_,_,rfl,by assumption,T.bW,T.dH,kn,⟨_,_,_,rfl,by assumption,qy,⟨_,_,_,_,rfl,by assumption,?Bc⟩⟩⟩⟩⟩⟩
       case Bc=>
        refine⟨_,_,_,rfl,rfl,ae,by rw[List.length_append];exact hlen,?_⟩
        refine⟨_,rfl,fun b o e=>?_,?_⟩
        ·rw[af (ao e hp)]
         exact s3 _ _ e
        ·rw[ae,CJ h1,NP hw,hby,lB,lB]
         rfl
     ·rintro σ H2 ⟨v3,rfl,s2,hp2⟩
      try dsimp only[Of]
      refine⟨_,rfl,?r3⟩
      case r3=>
       refine kk p H2 (s1.free hp) (s1.trans s2) ?_
       rw[hp2,Ri,hcl]
noncomputable def Bn (K:PySem.W.Frag) (A:Ad):Sp:=fun vs0 H Q _=>∃(ta:Addr) (X M:List Addr) (y:TA) (z:SA) (a:Abs) (us ss:List Kt.U),vs0=[.ref ta]∧(bH A X M H ta y z a us ss)∧(∀(D:Addr) (H':Hp),H D=none→ax H H'→H' D=some (.lst (nN 12 (Kh317.talk a .likely).2))→Q (.ref D) H')
theorem BH {P:Program} {w:World} {K:PySem.W.Frag} {mg:Str→Option Value} {base:Heap} {A:Ad} (T:Txt K mg A):bz P w K mg base gw 8 A.fK A.fT ["talk"] (Bn K A):=by
 refine T.p5.ok rQ (fun vs H Q E h=>?_) (fun cdv Ar outer sh H vs Q E hr h=>?_)
 ·obtain⟨_,_,_,_,_,_,_,_,rfl,_⟩:=h
  rfl
 ·obtain⟨ta,X,M,y,z,a,us,ss,rfl,hT,kk⟩:=h
  have hu:=aY hr
  have hu64:=hr.units
  refine⟨_,(ab (bb (i:=1) rQ.nd rfl (Or.inl rfl) (cz (pv 0) T.aj T.ou (uD T) (hr.mono (by decide)) T.rK .nil aK (aa (ak (pv 0) rfl) ah)))
   (ab (aT (jU (pI (pv 1) (fun _=>rfl))) (ag (aq (bB (aa (aw rfl T.g9) ah)))) ay)
   (ab (aT (aA CD (aD aB (by rfl) T.cw PySem.boot_len (aa (pv 1) ah)) aH (aI _)) (ag (aq (bB (aa (aw rfl T.xc) ah)))) ay)
   (ag (aq (bB (aa (ak (ak (bw aN (pv 1) aH (fun _ _=>rfl)) rfl) rfl) ah))))))),?_⟩
  try dsimp only[Of]
  have htk:=hT.r.zw
  have te:(Kh317.talk a .likely).2=(match a.open_ with | []=>Kh317.say (-11) | [w]=>Kh317.say (w.1:Nat) | _=>Kh317.say (-33)):=rfl
  have ho:a.open_=(IT a a.now us).map Prod.fst:=by
   rcases Option.eq_none_or_eq_some a.place with hp | ⟨q,hp⟩
   ·have h:=oR a.now us hp
    rw[h.2.2.1]
    exact h.2.2.2
   ·exact JM (t:=a.now) hT.r.j3 hT.r.told hp
  rw[te,ho] at kk
  refine⟨_,rfl,⟨_,_,_,rfl,by assumption,uE,⟨_,rfl,⟨_,_,_,_,_,rfl,by assumption,T.aj,T.fk,qY,?xP⟩⟩⟩⟩
  case xP=>
   refine⟨_,X,M,y,z,a,us,ss,a.now,rfl,hT,Nat.le_refl _,fun D cv H1 hD s1 hcv L=>?_⟩
   match hcu:IT a a.now us,cv,L with
   | [],[],_=>
    rw[hcu] at kk
    refine⟨_,rfl,⟨_,rP (aM.of hcv),(ez (fun h=>?_) (fun h=>absurd h (by decide)))⟩⟩
    exact⟨gx,gj kk s1 _ (dQ _).symm⟩
   | [c],[v],L=>
    rw[hcu] at kk
    have hch:=L.2 0 v c rfl rfl
    obtain⟨x,dx,wv,uv,rfl,hxx,⟨wa,wdx,rfl,hwa⟩,⟨ux,yy,rfl,hux⟩⟩:=hch
    have hx1:=(aS.mp hxx).2
    have hwa1:=(aS.mp hwa).2
    refine⟨_,rfl,⟨_,(rP (aM.of hcv)),(ez (fun h=>?lst0) (fun h=>⟨_,rfl,⟨_,_,rfl,.inl (aM.of hcv),⟨_,_,rfl,rfl,⟨_,rfl,(aL (fun h=>?lst1) (fun h=>⟨_,rfl,⟨_,_,_,_,rfl,rfl,(aM.of hcv),(bt (j:=0) rfl),⟨_,_,_,_,_,rfl,by assumption,T.bW,T.eA,j7,⟨_,_,_,_,_,rfl,by assumption,T.eh,T.cR,eI,?lst2⟩⟩⟩⟩))⟩⟩⟩⟩))⟩⟩
    case lst0=>exact absurd h (by simp)
    case lst1=>exact absurd h (by show ¬((1:Int) > 1);decide)
    case lst2=>exact⟨gx,gj kk s1 _ (dQ _).symm⟩
   | c ::c2::cs,v::v2::vs,_=>
    rw[hcu] at kk
    refine⟨_,rfl,⟨_,rP (aM.of hcv),(ez (fun h=>absurd h (by simp)) (fun h=>⟨_,rfl,⟨_,_,rfl,.inl (aM.of hcv),⟨_,_,rfl,rfl,⟨_,rfl,(aL (fun h=>?_) (fun h=>absurd (show (((v::v2::vs).length:Nat):Int) > 1 by simp only[List.length_cons];omega) h))⟩⟩⟩⟩))⟩⟩
    exact⟨gx,gj kk s1 _ (dQ _).symm⟩
   | [],_::_,L=>exact absurd L.1 (by simp)
   | [_],[],L=>exact absurd L.1 (by simp)
   | [_],_::_::_,L=>exact absurd L.1 (by simp)
   | _ ::_::_,[],L=>exact absurd L.1 (by simp)
   | _ ::_::_,[_],L=>exact absurd L.1 (by simp)
noncomputable def zF (K:PySem.W.Frag) (A:Ad):Sp:=fun vs0 H Q _=>∃(ta:Addr) (y:TA) (z:SA) (a:Abs) (us ss:List Kt.U) (c w room:Nat),vs0=[.ref ta,.int c,.int w,.int room]∧(mh A H H ta y z a us ss)∧(∀(D:Addr) (H':Hp),H D=none→ax H H'→H' D=some (.lst (nN 16 (Kh317.talk a (.lengths c w room)).2))→Q (.ref D) H')
theorem Ab {P:Program} {w:World} {K:PySem.W.Frag} {mg:Str→Option Value} {base:Heap} {A:Ad} (T:Txt K mg A):bz P w K mg base gw 1 A.eT A.fe ["talk","party","word","room"] (zF K A):=by
 refine T.oH.ok fY (fun vs H Q E h=>?_) (fun cdv Ar outer sh H vs Q E hr h=>?_)
 ·obtain⟨_,_,_,_,_,_,_,_,_,rfl,_⟩:=h
  rfl
 ·obtain⟨ta,y,z,a,us,ss,c,w,room,rfl,hT,kk⟩:=h
  have hu:=aY hr
  have hu64:=hr.units
  refine⟨_,(ab (aT (PW.pt (Mo (aA pJ (pv 1) (ak (ak (pv 0) rfl) rfl) (aI _)) (Ls (aA pJ (pv 2) (aD aB (by rfl) T.cw PySem.boot_len (aa (ak (ak (pv 0) rfl) rfl) ah)) (aI _))))) (ag (aq (bB (aa (aw rfl T.fA) ah)))) ay)
   (ab (bb (i:=4) fY.nd rfl (Or.inl rfl) (bw aN (ak (ak (pv 0) rfl) rfl) (pv 2) (fun _ _=>rfl)))
   (ab (aT (aA CD (aD aB (by rfl) T.cw PySem.boot_len (aa (pv 4) ah)) (pv 3) (aI _)) (ag (aq (bB (aa (aw rfl T.t4) ah)))) ay)
   (ab (bb (i:=5) fY.nd rfl (Or.inr rfl) (ak (bw aN (ak (pv 0) rfl) (pv 1) (fun _ _=>rfl)) rfl))
   (ag (aq (bX LA (bB (aa (aD aB (by rfl) T.cw PySem.boot_len (aa (pv 4) ah)) ah)) (nL rfl fY.nd (dP (pv 4)) (own:=[("times",6)]) (dO (N:=["talk","party","word","room","pattern","unit","times"]) (sc:=ai jj) (by decide +kernel)) (fun _ _ _ _ _=>(bC (i:=6) fY.nd rfl (Or.inl rfl) (Or.inr rfl))) (fun _ _ _ _ _=>jl) (fun _ _ _ _ _=>(bX PD (pv 6) (pv 5))))))))))),?_⟩
  try dsimp only[Of]
  have htk:=hT.zw
  have hsa:=hT.j9.j9
  have hul:=hT.ul
  have hwl:=hT.j9.wl
  have hptl:=hT.j9.Be
  have hlen:z.wv.length=a.words.length:=hT.j9.ON.1
  have te:(Kh317.talk a (.lengths c w room)).2=(if a.p≤c∨a.words.length≤w then Kh317.say (-22) else if room<(Kh316.pattern (a.letters w)).length then Kh317.say (-28) else ⟨((Kh316.pattern (a.letters w)).length:Nat),(Kh316.pattern (a.letters w)).map fun k=>k * (a.mine c).headD 0⟩):=rfl
  rw[te] at kk
  by_cases hc:c<a.p
  ·by_cases hw:w<a.words.length
   ·rw[if_neg (by omega)] at kk
    obtain⟨u,hu⟩:∃u,us[c]?=some u:=⟨_,List.getElem?_eq_getElem (by rw[hT.j3.Hw];exact hc)⟩
    obtain⟨uv,huv,ux,yy,rfl,hux⟩:=hT.OD.get' hu
    have huo:=hT.j3.Jf u (List.mem_of_getElem? hu)
    have hhd:=Kt.G4 huo
    rw[Kt.Ak hT.j3.units hu] at kk
    have hpw:(a.words.map Kh316.pattern)[w]?=some (Kh316.pattern (a.letters w)):=by
     unfold Abs.letters
     rw[List.getElem?_map,List.getD_eq_getElem?_getD,List.getElem?_eq_getElem hw]
     rfl
    have hpvl:w<z.pv.length:=by rw[hT.j9.NG.1,List.length_map];exact hw
    have epv:z.pv[w]?=some z.pv[w]:=List.getElem?_eq_getElem hpvl
    obtain⟨ptn,eptn,hptn⟩:=hT.j9.NG.2 w _ _ epv hpw
    obtain⟨p1,p2,p3⟩:=Kt.ib (wG hT.j3 hT.told hw)
    generalize Kh316.pattern (a.letters w)=P at *
    by_cases hr:room<P.length
    ·rw[if_pos hr] at kk
     refine⟨_,rfl,⟨_,rfl,⟨_,_,_,_,_,rfl,by assumption,T.aj,T.aG,aJ,⟨_,_,_,_,_,rfl,by assumption,T.au,T.aO,aU,⟨_,_,rfl,rfl,⟨_,rfl,(aL (fun h=>?t11) (fun h=>⟨_,rfl,⟨_,rfl,⟨_,_,_,_,_,rfl,by assumption,T.aj,T.aG,aJ,⟨_,_,_,_,_,rfl,by assumption,T.au,T.br,bF,⟨_,_,rfl,.inl (aM.of hwl),⟨_,_,rfl,rfl,⟨_,rfl,(df (fun h=>?lst0) (fun h=>⟨_,rfl,⟨_,_,_,_,_,rfl,by assumption,T.aj,T.aG,aJ,⟨_,_,_,_,_,rfl,by assumption,T.au,T.bV,ft,⟨_,rfl,⟨_,_,_,_,rfl,rfl,(aM.of hptl),(bt (by rw[epv,eptn])),⟨_,rfl,⟨_,_,rfl,.inl (aM.of hptn),⟨_,rfl,⟨_,_,rfl,rfl,⟨_,rfl,(aL (fun h=>?lst1) (fun h=>⟨_,rfl,⟨_,_,_,_,_,rfl,by assumption,T.aj,T.cS,gp,⟨_,rfl,⟨_,_,_,_,rfl,rfl,(aM.of hul),(bt huv),⟨_,_,_,_,_,rfl,by assumption,T.bg,T.cp,fq,⟨_,rfl,⟨_,_,rfl,.inl (aM.of hptn),?lst3⟩⟩⟩⟩⟩⟩⟩))⟩⟩⟩⟩⟩⟩⟩⟩⟩⟩))⟩⟩⟩⟩⟩⟩⟩))⟩⟩⟩⟩⟩⟩
     case t11=>omega
     case lst0=>have h:=of_decide_eq_true h;rw[hlen] at h;omega
     case lst1=>exact⟨gx,gj kk (ax.refl _) _ (dQ _).symm⟩
     case lst3=>rw[aE] at *;omega
    ·rw[if_neg hr] at kk
     refine⟨_,rfl,⟨_,rfl,⟨_,_,_,_,_,rfl,by assumption,T.aj,T.aG,aJ,⟨_,_,_,_,_,rfl,by assumption,T.au,T.aO,aU,⟨_,_,rfl,rfl,⟨_,rfl,(aL (fun h=>?t11) (fun h=>⟨_,rfl,⟨_,rfl,⟨_,_,_,_,_,rfl,by assumption,T.aj,T.aG,aJ,⟨_,_,_,_,_,rfl,by assumption,T.au,T.br,bF,⟨_,_,rfl,.inl (aM.of hwl),⟨_,_,rfl,rfl,⟨_,rfl,(df (fun h=>?lst0) (fun h=>⟨_,rfl,⟨_,_,_,_,_,rfl,by assumption,T.aj,T.aG,aJ,⟨_,_,_,_,_,rfl,by assumption,T.au,T.bV,ft,⟨_,rfl,⟨_,_,_,_,rfl,rfl,(aM.of hptl),(bt (by rw[epv,eptn])),⟨_,rfl,⟨_,_,rfl,.inl (aM.of hptn),⟨_,rfl,⟨_,_,rfl,rfl,⟨_,rfl,(aL (fun h=>?lst1) (fun h=>⟨_,rfl,⟨_,_,_,_,_,rfl,by assumption,T.aj,T.cS,gp,⟨_,rfl,⟨_,_,_,_,rfl,rfl,(aM.of hul),(bt huv),⟨_,_,_,_,_,rfl,by assumption,T.bg,T.cp,fq,⟨_,rfl,⟨_,_,rfl,.inl (aM.of hptn),?lst3⟩⟩⟩⟩⟩⟩⟩))⟩⟩⟩⟩⟩⟩⟩⟩⟩⟩))⟩⟩⟩⟩⟩⟩⟩))⟩⟩⟩⟩⟩⟩
     case t11=>omega
     case lst0=>have h:=of_decide_eq_true h;rw[hlen] at h;omega
     case lst1=>rw[aE] at h;omega
     case lst3=>
      refine⟨gx,fun p hp=>?_⟩
      have s1:=aX (H:=H) (o:=.lst [V.int ((nats P).length:Nat)]) hp
      refine⟨_,rfl,?lc0⟩
      case lc0=>
       refine⟨_,rfl,⟨_,aM.of (s1 _ _ hptn)⟩,BL (xs:=nats P) (Out:=fun i o _=>o=some (.int ((P.getD i 0 * u.list.headD 0:Nat):Int))) (by rw[aE,sizeLine_eq];omega) (aM.of (s1 _ _ hptn)) (fun _ _ _ _ _ h=>h) ?_ ?_⟩
       ·intro i x H' R hx s2 hR
        obtain⟨k,hk,rfl⟩:=lA hx
        have hgd:=tY hk
        try dsimp only[Of]
        refine⟨rfl,rA ⟨_,rfl,⟨_,rfl,⟨_,_,rfl,rfl,(.inr (by have:=huo.lo;have:=huo.hi;have:=huo.ne;have:=hT.told.hi;have:=hT.told.lo1;constructor<;>omega)),?KY⟩⟩⟩⟩
        case KY=>
         refine hR _ _ (ax.refl _) ?_
         rw[hgd,Int.natCast_mul,hhd]
       ·intro D Hend os hD sE hl hDe hout
        rw[gv hl hout,aE,sr (l:=P) fun k=>.int ((k * u.list.headD 0:Nat):Int)] at hDe
        try dsimp only[Of]
        refine ?cat2
        case cat2=>
         refine⟨_,_,_,_,rfl,rfl,sE _ _ ae,hDe,by rw[List.length_map,sizeLine_eq];show 1+P.length≤16777216;omega,gj kk (s1.trans sE) _ ?_⟩
         rw[rS (by decide) (by decide),aE]
         show _=V.int _::nats (P.map _)
         unfold nats
         rw[List.map_map]
         rfl
   ·rw[if_pos (by omega)] at kk
    refine⟨_,rfl,⟨_,rfl,⟨_,_,_,_,_,rfl,by assumption,T.aj,T.aG,aJ,⟨_,_,_,_,_,rfl,by assumption,T.au,T.aO,aU,⟨_,_,rfl,rfl,⟨_,rfl,(aL (fun h=>?_) (fun h=>⟨_,rfl,⟨_,rfl,⟨_,_,_,_,_,rfl,by assumption,T.aj,T.aG,aJ,⟨_,_,_,_,_,rfl,by assumption,T.au,T.br,bF,⟨_,_,rfl,.inl (aM.of hwl),⟨_,_,rfl,rfl,⟨_,rfl,(df (fun h=>?_) (fun h=>?_))⟩⟩⟩⟩⟩⟩⟩))⟩⟩⟩⟩⟩⟩
    ·omega
    ·exact⟨gx,gj kk (ax.refl _) _ (dQ _).symm⟩
    ·have h:=of_decide_eq_false h;rw[hlen] at h;omega
  ·rw[if_pos (by omega)] at kk
   refine⟨_,rfl,⟨_,rfl,⟨_,_,_,_,_,rfl,htk,T.aj,T.aG,aJ,⟨_,_,_,_,_,rfl,hsa,T.au,T.aO,aU,⟨_,_,rfl,rfl,⟨_,rfl,(aL (fun h=>?_) (fun h=>?_))⟩⟩⟩⟩⟩⟩
   ·exact⟨gx,gj kk (ax.refl _) _ (dQ _).symm⟩
   ·omega
end
section
open Kh317 (Abs)
theorem rM.set {p:Addr} {H H1:Hp} {o:HO} (b:rM p H H1):rM p H (upd H1 p o):=fun c u e hc=>by rw[af hc];exact b c u e hc
theorem rM.of {p:Addr} {H H1:Hp} (s:ax H H1):rM p H H1:=fun c u e _=>s c u e
theorem rM.trans {p:Addr} {H H1 H2:Hp} (a:rM p H H1) (b:rM p H1 H2):rM p H H2:=fun c u e hc=>b c u (a c u e hc) hc
theorem rM.free {p l:Addr} {H H1:Hp} (b:rM p H H1) (h:H1 l=none) (hl:l≠p):H l=none:=by
 cases q:H l with
 | none=>rfl
 | some o=>have:=b l o q hl;rw[h] at this;cases this
theorem SU {u:V} {os:List (Option V)} {p:Nat} (hl:os.length=p) (h:∀(i:Nat) (o:Option V),os[i]?=some o→o=some u):os.filterMap id=List.replicate p u:=by
 induction os generalizing p with
 | nil=>subst hl;rfl
 | cons o os ih=>
  have h0:=h 0 o rfl
  subst h0
  subst hl
  show u::List.filterMap id os=_
  rw[ih rfl fun i o e=>h (i+1) o (by simpa using e)]
  rfl
noncomputable def zI (K:PySem.W.Frag) (A:Ad):Sp:=fun vs0 H Q _=>∃(x dx sa sdx:Addr) (jZ u e w pt pc:V) (p:Nat),vs0=[.ref x,.ref sa,jZ]∧(H x=some (.ins A.aj dx []))∧(H sa=some (.ins A.au sdx (bj (.int p) u e w pt pc)))∧(p≤8)∧(∀(ul ca AN la sl:Addr) (H':Hp),H ul=none→H ca=none→H la=none→H sl=none→ul≠sl→ul≠ca→ul≠la→sl≠ca→sl≠la→ca≠la→H' x=some (.ins A.aj dx (aP (.ref sa) jZ (.int 0) (.ref ul) (.ref ca) (.int 0) (.ref sl)))→H' ul=some (.lst (List.replicate p u))→H' ca=some (.ins A.bp AN (cH (.ref la) (.bl false) (.int 0)))→H' la=some (.lst [])→H' sl=some (.lst [])→rM x H H'→Q .dh H')
theorem Ia {P:Program} {w:World} {K:PySem.W.Frag} {mg:Str→Option Value} {base:Heap} {A:Ad} (T:Txt K mg A):bz P w K mg base gw 3 A.kL A.kU ["self","script","parts"] (zI K A):=by
 refine T.Fg.ok tm (fun vs H Q E h=>?_) (fun cdv Ar outer sh H vs Q E hr h=>?_)
 ·obtain⟨_,_,_,_,_,_,_,_,_,_,_,rfl,_⟩:=h
  rfl
 ·obtain⟨x,dx,sa,sdx,jZ,u,e,w,pt,pc,p,rfl,h1,hs,hp,kk⟩:=h
  have hu:=aY hr
  have hu64:=hr.units
  refine⟨_,(ab (bA (pv 0) (pv 1) rfl)
   (ab (bA (pv 0) (pv 2) rfl)
   (ab (bA (pv 0) aH rfl)
   (ab (bA (pv 0) (nL rfl tm.nd (GX rfl T.A4 (aa (ak (pv 1) rfl) ah)) (own:=[("party",3)]) (dO (N:=["self","script","parts","party"]) (sc:=ai gL) (by decide +kernel)) (fun _ _ _ _ _=>(bC (i:=3) tm.nd rfl (Or.inl rfl) (Or.inr rfl))) (fun _ _ _ _ _=>jl) (fun _ _ _ _ _=>(ka (K:=K) rfl (pv 1) rfl))) rfl)
   (ab (bA (pv 0) (vB T.nt (oV T) (hr.mono (by decide)) rfl T.EU T.qe .nil aK) rfl)
   (ab (bA (pv 0) aH rfl)
   (ag (bA (pv 0) (bB ah) rfl)))))))),?_⟩
  try dsimp only[Of]
  have nsx:sa≠x:=fun q=>by
   rw[q,h1] at hs
   injection hs with hs
   injection hs with _ _ hs
   have t:(bj (.int p) u e w pt pc).lookup ("units":Str)=some u:=uT
   rw[←hs] at t
   cases t
  refine⟨_,rfl,⟨_,rfl,?zO⟩⟩
  case zO=>
   refine⟨_,_,_,_,rfl,h1,T.aj,T.aG,eu len0 (by decide),?_⟩
   have b1:=gd (H:=H) (p:=x) (o:=.ins A.aj dx (aF "script" (.ref sa) []))
   have x1:upd H x (.ins A.aj dx (aF "script" (.ref sa) [])) x=some (.ins A.aj dx (aF "script" (.ref sa) [])):=ae
   generalize upd H x (.ins A.aj dx (aF "script" (.ref sa) []))=H1 at *
   refine⟨_,rfl,⟨_,rfl,?Bs⟩⟩
   case Bs=>
    refine⟨_,_,_,_,rfl,x1,T.aj,T.gU,eu (dM len0) (by decide),?_⟩
    have b2:=b1.set (o:=.ins A.aj dx (aF "parts" jZ (aF "script" (.ref sa) [])))
    have x2:upd H1 x (.ins A.aj dx (aF "parts" jZ (aF "script" (.ref sa) []))) x=some (.ins A.aj dx (aF "parts" jZ (aF "script" (.ref sa) []))):=ae
    generalize upd H1 x (.ins A.aj dx (aF "parts" jZ (aF "script" (.ref sa) [])))=H2 at *
    refine⟨_,rfl,?C4⟩
    case C4=>
     refine⟨_,_,_,_,rfl,x2,T.aj,T.bD,eu (dM (dM len0)) (by decide),?_⟩
     have b3:=b2.set (o:=.ins A.aj dx (aF "here" (.int 0) (aF "parts" jZ (aF "script" (.ref sa) []))))
     have x3:upd H2 x (.ins A.aj dx (aF "here" (.int 0) (aF "parts" jZ (aF "script" (.ref sa) [])))) x=some (.ins A.aj dx (aF "here" (.int 0) (aF "parts" jZ (aF "script" (.ref sa) [])))):=ae
     generalize upd H2 x (.ins A.aj dx (aF "here" (.int 0) (aF "parts" jZ (aF "script" (.ref sa) []))))=H3 at *
     have hs3:=b3 _ _ hs nsx
     refine⟨_,rfl,⟨_,_,_,_,_,rfl,by assumption,T.au,T.aO,aU,?lc0⟩⟩
     case lc0=>
      refine⟨((p:Nat):Int),rfl,by omega,by omega,?_⟩
      rw[Int.toNat_natCast]
      refine Vm (n:=p) (Out:=fun i o _=>o=some u) (by rw[sizeLine_eq];omega) (fun _ _ _ _ _ h=>h) ?_ ?_
      ·intro i H' R hi s1 hR
       have hs4:=s1 _ _ hs3
       try dsimp only[Of]
       refine⟨rfl,rA ⟨_,rfl,⟨_,_,_,_,_,rfl,by assumption,T.au,T.ja,uT,?KY⟩⟩⟩
       case KY=>exact hR _ _ (ax.refl _) rfl
      ·intro ul H4 os hul s4 hl hul4 hout
       rw[SU hl hout] at hul4
       have x4:=s4 _ _ x3
       have nux:ul≠x:=fun q=>by rw[q,x3] at hul;cases hul
       have fu:H ul=none:=b3.free hul nux
       have b4:rM x H H4:=b3.trans (.of s4)
       try dsimp only[Of]
       refine⟨_,rfl,?Br⟩
       case Br=>
        refine⟨_,_,_,_,rfl,x4,T.aj,T.cS,eu (dM (dM (dM len0))) (by decide),?_⟩
        have c5:=gd (H:=H4) (p:=x) (o:=.ins A.aj dx (aF "units" (.ref ul) (aF "here" (.int 0) (aF "parts" jZ (aF "script" (.ref sa) [])))))
        have x5:upd H4 x (.ins A.aj dx (aF "units" (.ref ul) (aF "here" (.int 0) (aF "parts" jZ (aF "script" (.ref sa) []))))) x=some (.ins A.aj dx (aF "units" (.ref ul) (aF "here" (.int 0) (aF "parts" jZ (aF "script" (.ref sa) []))))):=ae
        generalize upd H4 x (.ins A.aj dx (aF "units" (.ref ul) (aF "here" (.int 0) (aF "parts" jZ (aF "script" (.ref sa) [])))))=H5 at *
        have hul5:=c5 _ _ hul4 nux
        have b5:=b4.trans c5
        refine nt fun ca AN la H6 nca nla nxl s6 hca hla=>?_
        have x6:=s6 _ _ x5
        have ncx:ca≠x:=fun q=>by rw[q,x5] at nca;cases nca
        have nlx:la≠x:=fun q=>by rw[q,x5] at nla;cases nla
        have ncu:ul≠ca:=fun q=>by rw[←q,hul5] at nca;cases nca
        have nlu:ul≠la:=fun q=>by rw[←q,hul5] at nla;cases nla
        have fc:H ca=none:=b5.free nca ncx
        have fl:H la=none:=b5.free nla nlx
        have b6:rM x H H6:=b5.trans (.of s6)
        refine⟨_,rfl,?C7⟩
        case C7=>
         refine⟨_,_,_,_,rfl,x6,T.aj,T.bK,eu (dM (dM (dM (dM len0)))) (by decide),?_⟩
         have c7:=gd (H:=H6) (p:=x) (o:=.ins A.aj dx (aF "came" (.ref ca) (aF "units" (.ref ul) (aF "here" (.int 0) (aF "parts" jZ (aF "script" (.ref sa) []))))))
         have x7:upd H6 x (.ins A.aj dx (aF "came" (.ref ca) (aF "units" (.ref ul) (aF "here" (.int 0) (aF "parts" jZ (aF "script" (.ref sa) [])))))) x=some (.ins A.aj dx (aF "came" (.ref ca) (aF "units" (.ref ul) (aF "here" (.int 0) (aF "parts" jZ (aF "script" (.ref sa) [])))))):=ae
         generalize upd H6 x (.ins A.aj dx (aF "came" (.ref ca) (aF "units" (.ref ul) (aF "here" (.int 0) (aF "parts" jZ (aF "script" (.ref sa) []))))))=H7 at *
         refine⟨_,rfl,?Ec⟩
         case Ec=>
          refine⟨_,_,_,_,rfl,x7,T.aj,T.fk,eu (dM (dM (dM (dM (dM len0))))) (by decide),?_⟩
          have c8:=c7.set (o:=.ins A.aj dx (aF "now" (.int 0) (aF "came" (.ref ca) (aF "units" (.ref ul) (aF "here" (.int 0) (aF "parts" jZ (aF "script" (.ref sa) [])))))))
          have x8:upd H7 x (.ins A.aj dx (aF "now" (.int 0) (aF "came" (.ref ca) (aF "units" (.ref ul) (aF "here" (.int 0) (aF "parts" jZ (aF "script" (.ref sa) []))))))) x=some (.ins A.aj dx (aF "now" (.int 0) (aF "came" (.ref ca) (aF "units" (.ref ul) (aF "here" (.int 0) (aF "parts" jZ (aF "script" (.ref sa) []))))))):=ae
          generalize upd H7 x (.ins A.aj dx (aF "now" (.int 0) (aF "came" (.ref ca) (aF "units" (.ref ul) (aF "here" (.int 0) (aF "parts" jZ (aF "script" (.ref sa) [])))))))=H8 at *
          have hul8:=c8 _ _ (s6 _ _ hul5) nux
          have hca8:=c8 _ _ hca ncx
          have hla8:=c8 _ _ hla nlx
          refine⟨Nat.zero_le _,fun sl hsl=>?_⟩
          have nsx':sl≠x:=fun q=>by rw[q,x8] at hsl;cases hsl
          have n1:ul≠sl:=ao hul8 hsl
          have n2:ca≠sl:=ao hca8 hsl
          have n3:la≠sl:=ao hla8 hsl
          have b8:rM x H H8:=b6.trans c8
          refine⟨_,rfl,?C3⟩
          case C3=>
           refine⟨_,_,_,_,rfl,aX hsl _ _ x8,T.aj,T.cI,eu (dM (dM (dM (dM (dM (dM len0)))))) (by decide),?_⟩
           refine kk ul ca AN la sl _ fu fc fl (b8.free hsl nsx') n1 ncu nlu (Ne.symm n2) (Ne.symm n3) nxl ae ?_ ?_ ?_ ?_ fun b o e hb=>?_
           ·rw[af nux,af n1];exact hul8
           ·rw[af ncx,af n2];exact hca8
           ·rw[af nlx,af n3];exact hla8
           ·rw[af nsx',ae]
           ·rw[af hb]
            exact aX hsl _ _ (b8 _ _ e hb)
theorem DE {K:PySem.W.Frag} {A:Ad} {H:Hp} {R:Addr→Hp→Prop} {E:XK} {sa sdx:Addr} {jZ u e w pt pc:V} {p:Nat} (hs:H sa=some (.ins A.au sdx (bj (.int p) u e w pt pc))) (hp:p≤8)
  (k:∀(x dx ul ca AN la sl:Addr) (H':Hp),H x=none→H ul=none→H ca=none→H la=none→H sl=none→[x,ul,sl,ca,la].Nodup→ax H H'→H' x=some (.ins A.aj dx (aP (.ref sa) jZ (.int 0) (.ref ul) (.ref ca) (.int 0) (.ref sl)))→H' ul=some (.lst (List.replicate p u))→H' ca=some (.ins A.bp AN (cH (.ref la) (.bl false) (.int 0)))→H' la=some (.lst [])→H' sl=some (.lst [])→R x H') :
  ∀x dx,H x=none→H dx=none→dx≠x→zI K A (.ref x::([.ref sa,jZ]:List V)) (upd (upd H dx (.own x)) x (.ins A.aj dx [])) (fun v H2=>v=.dh∧R x H2) E:=fun x dx hx hdx nd=>
 ⟨x,dx,sa,sdx,jZ,u,e,w,pt,pc,p,rfl,ae,by rw[af (ao hs hx),af (ao hs hdx)];exact hs,hp,fun ul ca AN la sl H' f1 f2 f3 f4 n1 n2 n3 n4 n5 n6 h1 h2 h3 h4 h5 b=>⟨rfl,by
  have fr:∀l,(upd (upd H dx (.own x)) x (.ins A.aj dx [])) l=none→l≠x∧H l=none:=fun l hl=>by
   have nlx:l≠x:=fun e=>by subst e;rw[ae] at hl;cases hl
   have nld:l≠dx:=fun e=>by subst e;rw[af nd,ae] at hl;cases hl
   exact⟨nlx,by rw[af nlx,af nld] at hl;exact hl⟩
  refine k x dx ul ca AN la sl H' hx (fr _ f1).2 (fr _ f2).2 (fr _ f3).2 (fr _ f4).2 ?_ (fun c u e=>b c u (by rw[af (ao e hx),af (ao e hdx)];exact e) (ao e hx)) h1 h2 h3 h4 h5
  have m1:=Ne.symm (fr _ f1).1
  have m2:=Ne.symm (fr _ f2).1
  have m3:=Ne.symm (fr _ f3).1
  have m4:=Ne.symm (fr _ f4).1
  simp only[List.nodup_cons,List.mem_cons,List.not_mem_nil,not_or,or_false,List.nodup_nil,and_true,not_false_eq_true]
  exact⟨⟨m1,m4,m2,m3⟩,⟨n1,n2,n3⟩,⟨n4,n5⟩,n6⟩⟩⟩
theorem wR {K:PySem.W.Frag} {A:Ad} {H:Hp} {R:Addr→Hp→Prop} {E:XK} {p lo hi e:V}
  (k:∀(x dx u yy l1 l2 l3:Addr) (H':Hp),H x=none→H u=none→H l1=none→H l2=none→H l3=none→[x,u,l1,l2,l3].Nodup→ax H H'→H' x=some (.ins A.au dx (bj p (.ref u) e (.ref l1) (.ref l2) (.ref l3)))→H' u=some (.ins A.bg yy (bL lo hi))→H' l1=some (.lst [])→H' l2=some (.lst [])→H' l3=some (.lst [])→R x H') :
  ∀x dx,H x=none→H dx=none→dx≠x→vo K A (.ref x::([p,lo,hi,e]:List V)) (upd (upd H dx (.own x)) x (.ins A.au dx [])) (fun v H2=>v=.dh∧R x H2) E:=fun x dx hx hdx nd=>
 ⟨x,dx,p,lo,hi,e,rfl,ae,fun u yy l1 l2 l3 H' f1 f2 f3 f4 n1 n2 n3 n4 n5 n6 h1 h2 h3 h4 h5 b=>⟨rfl,by
  have fr:∀l,(upd (upd H dx (.own x)) x (.ins A.au dx [])) l=none→l≠x∧H l=none:=fun l hl=>by
   have nlx:l≠x:=fun e=>by subst e;rw[ae] at hl;cases hl
   have nld:l≠dx:=fun e=>by subst e;rw[af nd,ae] at hl;cases hl
   exact⟨nlx,by rw[af nlx,af nld] at hl;exact hl⟩
  refine k x dx u yy l1 l2 l3 H' hx (fr _ f1).2 (fr _ f2).2 (fr _ f3).2 (fr _ f4).2 ?_ (fun c u e=>b c u (by rw[af (ao e hx),af (ao e hdx)];exact e) (ao e hx)) h1 h2 h3 h4 h5
  have m1:=Ne.symm (fr _ f1).1
  have m2:=Ne.symm (fr _ f2).1
  have m3:=Ne.symm (fr _ f3).1
  have m4:=Ne.symm (fr _ f4).1
  simp only[List.nodup_cons,List.mem_cons,List.not_mem_nil,not_or,or_false,List.nodup_nil,and_true,not_false_eq_true]
  exact⟨⟨m1,m2,m3,m4⟩,⟨n4,n5,n6⟩,⟨n1,n2⟩,n3⟩⟩⟩
noncomputable def zK (K:PySem.W.Frag) (A:Ad):Sp:=fun vs0 H Q _=>∃(x dx:Addr),vs0=[.ref x]∧(H x=some (.ins A.bo dx []))∧(∀(H':Hp),H' x=some (.ins A.bo dx (cG .dh .dh))→rM x H H'→Q .dh H')
theorem Ie {P:Program} {w:World} {K:PySem.W.Frag} {mg:Str→Option Value} {base:Heap} {A:Ad} (T:Txt K mg A):bz P w K mg base gw 1 A.kP A.kZ ["self"] (zK K A):=by
 refine T.Fl.ok HK (fun vs H Q E h=>?_) (fun cdv Ar outer sh H vs Q E hr h=>?_)
 ·obtain⟨_,_,rfl,_⟩:=h
  rfl
 ·obtain⟨x,dx,rfl,h1,kk⟩:=h
  have hu:=aY hr
  have hu64:=hr.units
  refine⟨_,(ab (bA (pv 0) Ew rfl)
   (ag (bA (pv 0) Ew rfl))),?_⟩
  try dsimp only[Of]
  refine⟨_,rfl,?lj⟩
  case lj=>
   refine⟨_,_,_,_,rfl,h1,T.bo,T.bI,eu len0 (by decide),?_⟩
   refine⟨_,rfl,?g0⟩
   case g0=>
    refine⟨_,_,_,_,rfl,ae,T.bo,T.bU,eu (dM len0) (by decide),?_⟩
    refine kk _ ae fun b o e hb=>?_
    rw[af hb,af hb]
    exact e
theorem DF {K:PySem.W.Frag} {A:Ad} {H:Hp} {R:Addr→Hp→Prop} {E:XK}
  (k:∀(x dx:Addr) (H':Hp),H x=none→ax H H'→H' x=some (.ins A.bo dx (cG .dh .dh))→R x H') :
  ∀x dx,H x=none→H dx=none→dx≠x→zK K A (.ref x::([]:List V)) (upd (upd H dx (.own x)) x (.ins A.bo dx [])) (fun v H2=>v=.dh∧R x H2) E:=fun x dx hx hdx nd=>
 ⟨x,dx,rfl,ae,fun H' h1 b=>⟨rfl,k x dx H' hx (fun c u e=>b c u (by rw[af (ao e hx),af (ao e hdx)];exact e) (ao e hx)) h1⟩⟩
end
section
open Kh317 (Abs)
theorem cV.keep {A:Ad} {X:List Addr} {H H':Hp} {sa:Addr} {z:SA} {a:Abs} (r:cV A X H sa z a) (h:∀b o,H b=some o→b∉X→H' b=some o) (hX:∀x∈X,∃o,H' x=some o):cV A X H' sa z a:=
 ⟨r.r.move (cO fun b o hb e=>h b o e (fun q=>hb (List.mem_append_right _ q))) (fun m hm o e=>h m o e (fun q=>r.apart m q hm)),r.nd,hX,r.apart,r.told⟩
theorem bH.keep {A:Ad} {X M:List Addr} {H H':Hp} {ta:Addr} {y:TA} {z:SA} {a:Abs} {us ss:List Kt.U} (r:bH A X M H ta y z a us ss) (h:∀b o,H b=some o→b∉X→H' b=some o) (hX:∀x∈X,∃o,H' x=some o):bH A X M H' ta y z a us ss:=
 ⟨r.r.move (cO fun b o hb e=>h b o e (fun q=>hb (r.xs b q).1)) (fun m hm o e=>h m o e (fun q=>(r.xs m q).2 hm)),fun m hm=>by
  by_cases q:m∈X
  ·exact hX m q
  ·obtain⟨o,e⟩:=r.live m hm;exact⟨o,h _ _ e q⟩,r.cu,r.nd,r.xs⟩
theorem nP {X:List Addr} {H:Hp} {b:Addr} (hX:∀x∈X,∃o,H x=some o) (h:H b=none):b∉X:=fun q=>by
 obtain⟨o,e⟩:=hX b q;rw[h] at e;cases e
noncomputable def FU (K:PySem.W.Frag) (A:Ad):Sp:=fun vs0 H Q _=>∃(dk ddx:Addr) (X:List Addr) (p lo hi e:Nat) (sv tv:V),vs0=[.ref dk,.int p,.int lo,.int hi,.int e]∧(H dk=some (.ins A.bo ddx (cG sv tv)))∧(dk∈X)∧(∀x∈X,∃o,H x=some o)∧((Kh317.okRange p lo hi e=false→∀H',ax H H'→Q (.int (-22)) H')∧(Kh317.okRange p lo hi e=true→∀(sa:Addr) (z:SA) (H':Hp),H' dk=some (.ins A.bo ddx (cG (.ref sa) .dh))→cV A X H' sa z (Kh317.begun p lo hi e)→rM dk H H'→Q (.int 0) H'))
theorem Gk {P:Program} {w:World} {K:PySem.W.Frag} {mg:Str→Option Value} {base:Heap} {A:Ad} (T:Txt K mg A):bz P w K mg base gw 5 A.jH A.jQ ["self","parties","lo","hi","slack"] (FU K A):=by
 refine T.CP.ok xZ (fun vs H Q E h=>?_) (fun cdv Ar outer sh H vs Q E hr h=>?_)
 ·obtain⟨_,_,_,_,_,_,_,_,_,rfl,_⟩:=h
  rfl
 ·obtain⟨dk,ddx,X,p,lo,hi,e,sv,tv,rfl,hd,hdk,hX,kk⟩:=h
  have hu:=aY hr
  have hu64:=hr.units
  refine⟨_,(ab (bb (i:=5) xZ.nd rfl (Or.inl rfl) (aW (BF T) (hr.mono (by decide)) rfl T.kf T.pZ.kp T.wt .nil aK (aa (pv 1) (aa (pv 2) (aa (pv 3) (aa (pv 4) ah))))))
   (ab (aT (aA cg (pv 5) aH (aI _)) (ab (bA (pv 0) (iO T.wR (EH T) (hr.mono (by decide)) rfl T.J3 T.A9 .nil aK (aa (pv 1) (aa (pv 2) (aa (pv 3) (aa (pv 4) ah))))) rfl)
   (ag (bA (pv 0) Ew rfl))) ay)
   (ag (aq (pv 5))))),?_⟩
  try dsimp only[Of]
  have hb:(if (2≤(p:Int)∧(p:Int)≤8)∧(1≤(lo:Int)∧(lo:Int)≤4096)∧((lo:Int)≤hi∧(hi:Int)≤4096)∧(e:Int)<lo then (0:Int) else -22)=if Kh317.okRange p lo hi e=true then 0 else -22:=by
   by_cases q:Kh317.okRange p lo hi e=true
   ·have:=Kt.vE.mp q
    rw[if_pos q,if_pos (by omega)]
   ·rw[if_neg q,if_neg (fun w=>q (Kt.vE.mpr (by omega)))]
  obtain⟨k1,k2⟩:=kk
  refine⟨_,rfl,⟨_,rfl,⟨_,rfl,⟨_,rfl,?wb⟩⟩⟩⟩
  case wb=>
   refine⟨_,_,_,_,rfl,?_⟩
   rw[hb]
   by_cases q:Kh317.okRange p lo hi e=true
   ·rw[if_pos q]
    refine⟨_,rfl,(bJ ⟨_,rfl,(aL (fun h=>⟨_,rfl,⟨_,rfl,⟨_,rfl,⟨_,rfl,?zj⟩⟩⟩⟩) (fun h=>⟨_,rfl,?r1⟩))⟩)⟩
    case r1=>exact absurd rfl h
    case zj=>
     refine wR fun x dx u yy l1 l2 l3 H1 nx nu n1 n2 n3 nd s1 hx hu h1 h2 h3=>?_
     have hd1:=s1 _ _ hd
     refine⟨_,rfl,?lj⟩
     case lj=>
      refine⟨_,_,_,_,rfl,hd1,T.bo,T.bI,Ff,?_⟩
      rw[C8]
      refine⟨_,rfl,?g0⟩
      case g0=>
       refine⟨_,_,_,_,rfl,ae,T.bo,T.bU,Ff,?_⟩
       rw[ye]
       refine⟨_,rfl,?r0⟩
       case r0=>
        have fx:∀b,H b=none→b∉X:=fun b=>nP hX
        have nk:∀b,H b=none→b≠dk:=fun b hb q=>fx b hb (by rw[q];exact hdk)
        simp only[List.nodup_cons,List.mem_cons,List.not_mem_nil,not_or,or_false,List.nodup_nil,and_true,not_false_eq_true] at nd
        obtain⟨⟨m1,m2,m3,m4⟩,⟨m5,m6,m7⟩,⟨m8,m9⟩,m10⟩:=nd
        refine k2 q x ⟨dx,u,yy,l1,l2,l3,[],[],[],[]⟩ _ ae ⟨⟨aS.mpr ⟨?_,?_⟩,aS.mpr ⟨?_,?_⟩,?_,⟨rfl,fun i _ _ e=>(nomatch e)⟩,?_,⟨rfl,fun i _ _ e=>(nomatch e)⟩,?_,rfl,rfl,fun i _ _ _ e=>(nomatch e)⟩,?_,fun b hb=>?_,fun b hb=>?_,(Kt.Fy q).1⟩ fun b o e hb=>?_
        ·simp only[SA.M,List.mem_append,List.mem_cons,List.not_mem_nil,or_false,not_or]
         exact⟨⟨m2,m3,m4⟩,fx x nx⟩
        ·rw[af (nk x nx),af (nk x nx)];exact hx
        ·simp only[SA.M,List.mem_append,List.mem_cons,List.not_mem_nil,or_false,not_or]
         exact⟨⟨m5,m6,m7⟩,fx u nu⟩
        ·rw[af (nk u nu),af (nk u nu)];exact hu
        ·rw[af (nk l1 n1),af (nk l1 n1)];exact h1
        ·rw[af (nk l2 n2),af (nk l2 n2)];exact h2
        ·rw[af (nk l3 n3),af (nk l3 n3)];exact h3
        ·simp only[SA.M,List.nodup_cons,List.mem_cons,List.not_mem_nil,not_or,or_false,List.nodup_nil,and_true,not_false_eq_true]
         exact⟨⟨m8,m9⟩,m10⟩
        ·by_cases q2:b=dk
         ·exact⟨_,by rw[q2];exact ae⟩
         ·obtain⟨o,e⟩:=hX b hb
          exact⟨o,by rw[af q2,af q2];exact s1 _ _ e⟩
        ·simp only[SA.M,List.mem_cons,List.not_mem_nil,or_false,not_or]
         exact⟨fun q=>fx l1 n1 (by rw[←q];exact hb),fun q=>fx l2 n2 (by rw[←q];exact hb),fun q=>fx l3 n3 (by rw[←q];exact hb)⟩
        ·rw[af hb,af hb]
         exact s1 _ _ e
   ·rw[if_neg q]
    refine⟨_,rfl,(bJ ⟨_,rfl,(aL (fun h=>absurd h (by decide)) (fun h=>⟨_,rfl,?_⟩))⟩)⟩
    exact k1 (by simpa using q) H (ax.refl _)
theorem L7 {a:Abs} {k:Nat} (hw:Kt.gy a=false) (hk:k<a.p) (h:∀j,j<k→∃l,Kh292.statesOf a.script j=.states l) (g:Kt.bad (Kh292.statesOf a.script k)=true):Kh317.closed a=Nv (Kh292.statesOf a.script k):=by
 rw[Kt.B5,if_neg (by rw[hw];decide),Kt.Kw (s:=a.script) hk h g]
 cases e:Kh292.statesOf a.script k with
 | states l=>rw[e] at g;cases g
 | unclear w=>rfl
 | many=>rfl
theorem Oi {a:Abs} (hw:Kt.gy a=false) (h:∀j,j<a.p→∃l,Kh292.statesOf a.script j=.states l):Kh317.closed a=0:=by
 rw[Kt.B5,if_neg (by rw[hw];decide),Kt.L8 (s:=a.script) h]
theorem Pc {α β:Type} {R:α→β→Prop} {x:α} {y:β} (n:Nat) (h:R x y):dg R (List.replicate n x) (List.replicate n y):=⟨by simp,fun i v w h1 h2=>by
 rw[List.getElem?_replicate] at h1 h2
 by_cases q:i<n
 ·rw[if_pos q] at h1 h2
  cases h1
  cases h2
  exact h
 ·rw[if_neg q] at h1
  cases h1⟩
theorem JL {a:Abs} (hT:Kt.Told a) (hS:Kt.GI a) (hw:Kt.gy a=false) (h:∀j,j<a.p→∃l,Kh292.statesOf a.script j=.states l):Kt.Opened { a with ready:=true,place:=some 0 } (List.replicate a.p ⟨a.lo,a.hi⟩) []:=by
 obtain⟨ne,hW⟩:=Kt.Jh hw
 refine⟨rfl,ne,hW,h,fun q e=>?_,?_,List.length_replicate,fun v hv=>?_,⟨?_,?_,fun e=>?_,fun _ e=>?_,fun _=>⟨hS.lens,hS.down⟩,fun t e=>?_,?_⟩,?_,?_,fun i x v e=>?_⟩
 ·cases e;exact List.length_pos_iff.mpr ne
 ·show a.units=_
  rw[hS.units,List.map_replicate]
  rfl
 ·rw[List.eq_of_mem_replicate hv]
  exact⟨Int.le_refl _,by have:=hT.Gn;show (a.lo:Int)≤a.hi;omega,Int.le_refl _⟩
 ·show a.lens.length≤160
  rw[hS.lens];exact Nat.zero_le _
 ·show ∀l∈a.lens,l≤1000000
  rw[hS.lens];intro l hl;cases hl
 ·have e:a.down=true:=e
  rw[hS.down] at e;cases e
 ·exact absurd hS.lens e
 ·have e:a.last=some t:=e
  rw[hS.last] at e;cases e
 ·show a.now<_
  rw[hS.now];decide
 ·show a.said.length=_
  rw[hS.said];rfl
 ·show a.said.length≤_
  rw[hS.said];exact Nat.zero_le _
 ·have e:a.said[i]?=some x:=e
  rw[hS.said] at e;cases e
noncomputable def zJ (K:PySem.W.Frag) (A:Ad):Sp:=fun vs0 H Q _=>∃(dk ddx sa:Addr) (X:List Addr) (z:SA) (a:Abs),vs0=[.ref dk]∧(H dk=some (.ins A.bo ddx (cG (.ref sa) .dh)))∧(dk∈X)∧(cV A X H sa z a)∧(Kt.GI a)∧((Kh317.closed a≠0→∀H',ax H H'→Q (.int (Kh317.closed a)) H')∧(Kh317.closed a=0→∀(M:List Addr) (ta:Addr) (y:TA) (us ss:List Kt.U) (H':Hp),H' dk=some (.ins A.bo ddx (cG (.ref y.sa) (.ref ta)))→bH A X M H' ta y z { a with ready:=true,place:=some 0 } us ss→rM dk H H'→Q (.int 0) H'))
theorem Ae {P:Program} {w:World} {K:PySem.W.Frag} {mg:Str→Option Value} {base:Heap} {A:Ad} (T:Txt K mg A):bz P w K mg base gw 7 A.eW A.fh ["self"] (zJ K A):=by
 refine T.uH.ok lr (fun vs H Q E h=>?_) (fun cdv Ar outer sh H vs Q E hr h=>?_)
 ·obtain⟨_,_,_,_,_,_,rfl,_⟩:=h
  rfl
 ·obtain⟨dk,ddx,sa,X,z,a,rfl,hd,hdk,hS,hSh,kk⟩:=h
  have hu:=aY hr
  have hu64:=hr.units
  refine⟨_,(ab (aT (jU (ly (j0 (ak (pv 0) rfl) T.au T.pQ (yV T) (hr.mono (by decide)) T.sV .nil aK))) (ag (aq (aw rfl T.qJ))) ay)
   (ab (bb (i:=1) lr.nd rfl (Or.inl rfl) (aW (Dd T) (hr.mono (by decide)) rfl T.lH T.rE.kp T.yp .nil aK (aa (ak (ak (pv 0) rfl) rfl) (aa (ak (ak (pv 0) rfl) rfl) ah))))
   (ab (bb (i:=2) lr.nd rfl (Or.inl rfl) (ak (bw aN (pv 1) (Sh OP aH) (fun _ _=>rfl)) rfl))
   (ab (aT (aA cg (pv 2) aH (aI _)) (ag (bA (pv 0) (iO T.DE (Ia T) (hr.mono (by decide)) rfl T.PU T.FD .nil aK (aa (ak (pv 0) rfl) (aa (pv 1) ah))) rfl)) ay)
   (ag (aq (pv 2))))))),?_⟩
  try dsimp only[Of]
  obtain⟨k1,k2⟩:=kk
  have hsa:=hS.y3
  refine⟨_,rfl,⟨_,_,_,_,_,rfl,by assumption,T.bo,T.bI,cU,⟨_,_,_,rfl,by assumption,yX,?uj⟩⟩⟩
  case uj=>
   refine⟨_,z,a,rfl,hS.r.read jo,hS.told,fun H1 s1=>?_⟩
   have hS1:=hS.same s1
   have hsa1:=hS1.y3
   have hd1:=s1 _ _ hd
   refine⟨_,rfl,(ez (fun h=>?r0) (fun h=>⟨_,rfl,⟨_,_,_,_,_,rfl,by assumption,T.bo,T.bI,cU,⟨_,_,_,_,_,rfl,by assumption,T.au,T.aR,aV,⟨_,rfl,⟨_,_,_,_,_,rfl,by assumption,T.bo,T.bI,cU,⟨_,_,_,_,_,rfl,by assumption,T.au,T.aO,aU,?xN⟩⟩⟩⟩⟩⟩))⟩
   case r0=>
    have hw:Kt.gy a=true:=by simpa using h
    have hc:Kh317.closed a=-61:=by rw[Kt.B5,if_pos hw]
    rw[hc] at k1
    exact k1 (by decide) H1 s1
   case xN=>
    have hw:Kt.gy a=false:=by simpa using h
    obtain⟨ne,hW⟩:=Kt.Jh hw
    have hTd:=hS.told
    refine⟨z.tI,z.qv,a.script,a.words.length,rfl,hS1.r.tI,hS1.r.places jo,hTd.NT,List.length_pos_iff.mpr ne,hTd.pl,hTd.QM,hW,⟨by have:=hTd.p2;show 1≤a.p;omega,hTd.p8⟩,fun D pv k H2 hD s2 hDn hprt hk hst hbad=>?_⟩
    obtain⟨pre,v,rfl⟩:∃pre v,pv=pre++[v]:=by
     have :pv≠[]:=fun q=>by have:=hprt.1;rw[q,List.length_range] at this;cases this
     exact⟨pv.dropLast,pv.getLast this,(List.dropLast_concat_getLast this).symm⟩
    have hpl:pre.length=k:=by have:=hprt.1;rw[List.length_range,List.length_append,List.length_singleton] at this;omega
    have hpv:=hprt.2 k v k (by rw[←hpl];simp) (by rw[List.getElem?_range (by omega)])
    obtain⟨px,pdx,rl,rv,rfl,hpx,hrl,_⟩:=hpv
    have hpx2:=(cQ.mp hpx).2
    have hD2:=(cQ.mp hDn).2
    have hd2:=s2 _ _ hd1
    refine⟨_,rfl,⟨_,rfl,⟨_,_,_,_,rfl,rfl,(aM.of hD2),(KS _ _),⟨_,_,_,_,_,rfl,by assumption,T.fo,T.gA,uV,⟨_,rfl,(bJ ⟨_,rfl,(aL (fun h=>⟨_,rfl,⟨_,_,_,_,_,rfl,by assumption,T.bo,T.bI,cU,⟨_,rfl,?Cb⟩⟩⟩) (fun h=>⟨_,rfl,?r2⟩))⟩)⟩⟩⟩⟩⟩
    case r2=>
     have hc:=L7 hw hk hst ((IW _).mpr h)
     rw[hc] at k1
     exact k1 h H2 (s1.trans s2)
    case Cb=>
     have hkp:k+1=a.p:=by
      by_cases q:k+1<a.p
      ·exact absurd h ((IW _).mp (hbad q))
      ·have :k<a.p:=hk
       omega
     have hall:∀j,j<a.p→∃l,Kh292.statesOf a.script j=.states l:=fun j hj=>by
      by_cases q:j<k
      ·exact hst j q
      ·have :j=k:=by omega
       rw[this];exact PF h
     have hS2:=hS1.same s2
     refine DE hS2.y3 hTd.p8 fun x dx ul ca AN la sl H3 nx nul nca nla nsl nd s3 hx hul hca hla hsl=>?_
     have hd3:=s3 _ _ hd2
     refine⟨_,rfl,?g0⟩
     case g0=>
      refine⟨_,_,_,_,rfl,hd3,T.bo,T.bU,Ff,?_⟩
      rw[ye]
      refine⟨_,rfl,?r1⟩
      case r1=>
       rw[h]
       have nM:∀b o,H2 b=some o→b∉X→b∉[x,ul,sl,ca,la]++X:=fun b o e hb q=>by
        rcases List.mem_append.mp q with q | q
        ·simp only[List.mem_cons,List.not_mem_nil,or_false] at q
         rcases q with q | q | q | q | q
         ·exact ao e nx q
         ·exact ao e nul q
         ·exact ao e nsl q
         ·exact ao e nca q
         ·exact ao e nla q
        ·exact hb q
       have g2:∀b o,H2 b=some o→b∉X→Off ([x,ul,sl,ca,la]++X) (upd H3 dk (.ins A.bo ddx (cG (.ref sa) (.ref x)))) b=some o:=fun b o e hb=>by
        refine aS.mpr ⟨nM b o e hb,?_⟩
        rw[af (fun q=>hb (by rw[q];exact hdk))]
        exact s3 _ _ e
       have fX:∀b,H2 b=none→b∉X:=fun b=>nP hS2.live
       have up:∀b o,b∉X→H3 b=some o→upd H3 dk (.ins A.bo ddx (cG (.ref sa) (.ref x))) b=some o:=fun b o hb e=>by
        rw[af (fun q=>hb (by rw[q];exact hdk))]
        exact e
       have sN:ax (rN H1 H2) (Off ([x,ul,sl,ca,la]++X) (upd H3 dk (.ins A.bo ddx (cG (.ref sa) (.ref x))))):=fun b o e=>g2 b o (cQ.mp e).2 (nP hS1.live (cQ.mp e).1)
       have hr:=hS2.r.move (H':=Off ([x,ul,sl,ca,la]++X) (upd H3 dk (.ins A.bo ddx (cG (.ref sa) (.ref x))))) (F':=Off ([x,ul,sl,ca,la]++X) (upd H3 dk (.ins A.bo ddx (cG (.ref sa) (.ref x))))) (fun b o e=>g2 b o (aS.mp e).2 fun q=>(aS.mp e).1 (List.mem_append_right _ q)) (fun m hm o e=>g2 m o e fun q=>hS2.apart m q hm)
       refine k2 (Oi hw hall) ([x,ul,sl,ca,la]++X) x ⟨dx,sa,D,ul,ca,AN,la,sl,0,List.replicate a.p (.ref z.ua),pre++[.ref px],[]⟩ (List.replicate a.p ⟨a.lo,a.hi⟩) [] _ ae ⟨⟨?_,hr.of_eq rfl rfl rfl rfl rfl rfl,sN _ _ hDn,?_,?_,?_,?_,?_,fun t e=>?_,?_,?_,JL hTd hSh hw hall,⟨hTd.p2,hTd.p8,hTd.lo1,hTd.Gn,hTd.hi,hTd.e,hTd.QM,hTd.OC,hTd.NT,hTd.pl⟩⟩,fun m hm=>?_,fun m hm=>List.mem_append_left _ hm,nd,fun b hb=>⟨List.mem_append_right _ hb,fun q=>?_⟩⟩ fun b o e hb=>?_
       ·rw[show ({ a with ready:=true,place:=some 0 }:Abs).now=0 from hSh.now]
        exact up _ _ (fX _ nx) hx
       ·show dg (fun v c=>uz A a.script c _ v) (pre++[V.ref px]) (List.range a.p)
        rw[←hkp]
        exact hprt.mono fun _ _ h=>h.same sN
       ·exact up _ _ (fX _ nul) hul
       ·exact Pc _ ⟨z.ua,z.yy,rfl,hr.un⟩
       ·rw[show ({ a with ready:=true,place:=some 0 }:Abs).down=false from hSh.down]
        exact up _ _ (fX _ nca) hca
       ·rw[show ({ a with ready:=true,place:=some 0 }:Abs).lens=[] from hSh.lens]
        exact up _ _ (fX _ nla) hla
       ·have e:a.last=some t:=e
        rw[hSh.last] at e;cases e
       ·exact up _ _ (fX _ nsl) hsl
       ·rw[show ({ a with ready:=true,place:=some 0 }:Abs).said=[] from hSh.said]
        exact dg.nil
       ·rcases List.mem_append.mp hm with q | q
        ·simp only[List.mem_cons,List.not_mem_nil,or_false] at q
         rcases q with q | q | q | q | q
         ·exact⟨_,by rw[q];exact up _ _ (fX _ nx) hx⟩
         ·exact⟨_,by rw[q];exact up _ _ (fX _ nul) hul⟩
         ·exact⟨_,by rw[q];exact up _ _ (fX _ nsl) hsl⟩
         ·exact⟨_,by rw[q];exact up _ _ (fX _ nca) hca⟩
         ·exact⟨_,by rw[q];exact up _ _ (fX _ nla) hla⟩
        ·by_cases q2:m=dk
         ·exact⟨_,by rw[q2];exact ae⟩
         ·obtain⟨o,e⟩:=hS2.live m q
          exact⟨o,by rw[af q2];exact s3 _ _ e⟩
       ·obtain⟨o,e⟩:=hS2.live b hb
        have q:b∈[x,ul,sl,ca,la]:=q
        simp only[List.mem_cons,List.not_mem_nil,or_false] at q
        rcases q with q | q | q | q | q
        ·exact ao e nx q
        ·exact ao e nul q
        ·exact ao e nsl q
        ·exact ao e nca q
        ·exact ao e nla q
       ·rw[af hb]
        exact s3 _ _ (s2 _ _ (s1 _ _ e))
end
section
open Kh317 (Abs)
noncomputable def bP (k:Nat) (ns:List Nat):Kh317.Call:=match k with
 | 0=>.begin_ (ns.getD 0 0) (ns.getD 1 0) (ns.getD 2 0) (ns.getD 3 0)
 | 1=>.word (some ns.tail)
 | 2=>.place (ns.getD 0 0) (ns.getD 1 0)
 | 3=>.way (ns.getD 0 0) (ns.getD 1 0) (ns.getD 2 0)
 | 4=>.open_
 | 5=>.down (ns.getD 0 0) (ns.getD 1 0)
 | 6=>.up (ns.getD 0 0) (ns.getD 1 0)
 | 7=>.at_ (ns.getD 0 0)
 | 8=>.again
 | 9=>.back
 | 10=>.turn
 | 11=>.may
 | 12=>.likely
 | 13=>.said (ns.getD 0 0)
 | 14=>.many
 | 15=>.units (ns.getD 0 0)
 | 16=>.lengths (ns.getD 0 0) (ns.getD 1 0) (ns.getD 2 0)
 | 17=>.letters (ns.getD 0 0)
 | 18=>.states (ns.getD 0 0)
 | _=>.part (ns.getD 0 0) (ns.getD 1 0)
structure Sq (k:Nat) (ns:List Nat):Prop where
 most :k≤19
 word :k=1→1≤ns.length
 rest :k≠1→ns.length=Kh317Neutral.arity.getD k 9
theorem cn {k:Nat} {ns:List Nat} (hN:Sq k ns) (c j:Nat) (e:(k:Int)=((c:Nat):Int)) (hc:c≠1) (hj:j<Kh317Neutral.arity.getD c 9):DS (nats ns) ((j:Nat):Int)=some (.int (ns.getD j 0:Nat)):=by
 have e:k=c:=by omega
 subst e
 have hl:=hN.rest hc
 refine bt ?_
 refine tQ ?_
 rw[List.getD_eq_getElem?_getD,List.getElem?_eq_getElem (by omega)]
 rfl
theorem Qm {ns:List Nat}:IQ (nats ns) (some 1) none=nats ns.tail:=by
 unfold IQ
 have e:HT.HN (nats ns).length 0 (some 1)=min 1 (nats ns).length:=HT.HM _ _ 1
 rw[e,HT.O8]
 cases ns with
 | nil=>rfl
 | cons x ns=>
  have :min 1 (nats (x::ns)).length=1:=by rw[aE,List.length_cons];omega
  rw[this]
  show (nats ns).take ((nats (x::ns)).length - 1)=nats ns
  rw[aE,List.length_cons,Nat.add_sub_cancel,←aE,List.take_length]
theorem Lz {k:Int} {an:Kh317.Ans} (h:an.out=[]):nN k an=[V.int an.value]:=by
 have e:an=Kh317.say an.value:=by cases an;cases h;rfl
 rw[e]
 exact dQ _
theorem Jn (a:Abs) (c:Kh317.Call):(Kh317.told a c).2.out=[]:=by
 unfold Kh317.told
 split
 ·split
  ·rfl
  ·split
   ·rfl
   ·split
    ·rfl
    ·split<;>rfl
 ·split
  ·rfl
  ·split<;>rfl
 ·split
  ·rfl
  ·split
   ·rfl
   ·split
    ·rfl
    ·split<;>rfl
 ·split<;>rfl
 ·rfl
theorem DH (a:Abs) (d:Bool) (c t:Nat):(Kh317.key a d c t).2.out=[]:=by
 rw[ME]
 split
 ·rfl
 split
 ·rfl
 split
 ·rfl
 split
 ·rfl
 split
 ·rfl
 split<;>rfl
theorem DW {a:Abs} {k:Nat} {ns:List Nat} (h1:5≤k) (h2:k≤9):(Kh317.talk a (bP k ns)).2.out=[]:=by
 have :k=5∨k=6∨k=7∨k=8∨k=9:=by omega
 rcases this with rfl | rfl | rfl | rfl | rfl
 ·exact DH a true _ _
 ·exact DH a false _ _
 ·show (Kh317.talk a (.at_ _)).2.out=[]
  rw[Sm]
  split
  ·rfl
  ·split
   ·rfl
   ·split<;>rfl
 ·rfl
 ·show (Kh317.talk a .back).2.out=[]
  rw[back_eq]
  split<;>rfl
theorem Nn {a:Abs} (h:Kt.GI a) (t:List Nat):Kt.GI (Kh317.told a (.word (some t))).1:=by
 unfold Kh317.told
 dsimp only
 split
 ·exact h
 split
 ·exact h
 split
 ·exact h
 ·exact⟨h.ready,h.place,h.units,h.lens,h.down,h.last,h.now,h.said⟩
theorem Lm {a:Abs} (h:Kt.GI a) (x y:Nat):Kt.GI (Kh317.told a (.place x y)).1:=by
 unfold Kh317.told
 dsimp only
 split
 ·exact h
 split
 ·exact h
 ·exact⟨h.ready,h.place,h.units,h.lens,h.down,h.last,h.now,h.said⟩
theorem O5 {a:Abs} (h:Kt.GI a) (q w n:Nat):Kt.GI (Kh317.told a (.way q w n)).1:=by
 unfold Kh317.told
 dsimp only
 split
 ·exact h
 split
 ·exact h
 split
 ·exact h
 split
 ·exact h
 ·exact⟨h.ready,h.place,h.units,h.lens,h.down,h.last,h.now,h.said⟩
inductive Je (A:Ad) (X:List Addr) (H:Hp) (dk ddx:Addr):Option Abs→Prop
 | off (h:H dk=some (.ins A.bo ddx (cG .dh .dh))):Je A X H dk ddx none
 | FX {a:Abs} {sa:Addr} {z:SA} (h:H dk=some (.ins A.bo ddx (cG (.ref sa) .dh))) (s:cV A X H sa z a) (t:Kt.GI a):Je A X H dk ddx (some a)
 | j3 {a:Abs} {M:List Addr} {ta sa:Addr} {y:TA} {z:SA} {us ss:List Kt.U} (h:H dk=some (.ins A.bo ddx (cG (.ref sa) (.ref ta)))) (e:y.sa=sa) (s:bH A X M H ta y z a us ss):Je A X H dk ddx (some a)
structure kH (A:Ad) (X:List Addr) (H:Hp) (dk:Addr) (o:Option Abs):Prop where
 live :∀x∈X,∃o,H x=some o
 mem :dk∈X
 st :∃ddx,Je A X H dk ddx o
noncomputable def yu (dk:Addr) (X:List Addr) (H H':Hp):Prop:=∀x∈X,x≠dk→∀o,H x=some o→H' x=some o
theorem yu.of {dk:Addr} {X:List Addr} {H H':Hp} (s:ax H H'):yu dk X H H':=fun x _ _ o e=>s x o e
theorem yu.trans {dk:Addr} {X:List Addr} {H H1 H2:Hp} (a:yu dk X H H1) (b:yu dk X H1 H2):yu dk X H H2:=fun x hx n o e=>b x hx n o (a x hx n o e)
theorem kH.keep {A:Ad} {X:List Addr} {H H':Hp} {dk:Addr} {o:Option Abs} (r:kH A X H dk o) (h:∀b u,H b=some u→b∉X→H' b=some u) (hX:∀x∈X,∃u,H' x=some u) (hd:∀u,H dk=some u→H' dk=some u):kH A X H' dk o:=by
 obtain⟨ddx,st⟩:=r.st
 refine⟨hX,r.mem,ddx,?_⟩
 cases st with
 | off q=>exact .off (hd _ q)
 | FX q s t=>exact .FX (hd _ q) (s.keep h hX) t
 | j3 q e s=>exact .j3 (hd _ q) e (s.keep h hX)
theorem kH.same {A:Ad} {X:List Addr} {H H':Hp} {dk:Addr} {o:Option Abs} (r:kH A X H dk o) (s:ax H H'):kH A X H' dk o:=
 r.keep (fun b u e _=>s b u e) (fun x hx=>by obtain⟨u,e⟩:=r.live x hx;exact⟨u,s _ _ e⟩) fun u e=>s _ _ e
noncomputable def zB (K:PySem.W.Frag) (A:Ad):Sp:=fun vs0 H Q _=>∃(dk nl:Addr) (X:List Addr) (a:Abs) (k:Nat) (ns:List Nat),vs0=[.ref dk,.int k,.ref nl]∧(kH A X H dk (some a))∧(H nl=some (.lst (nats ns)))∧(Sq k ns)∧(1≤k∧k≤4)∧(∀(H':Hp),kH A X H' dk (some (Kh317.step a (bP k ns)).1)→yu dk X H H'→Q (.int (Kh317.step a (bP k ns)).2.value) H')
theorem z7 {P:Program} {w:World} {K:PySem.W.Frag} {mg:Str→Option Value} {base:Heap} {A:Ad} (T:Txt K mg A):bz P w K mg base gw 8 A.eP A.e7 ["desk","call","numbers"] (zB K A):=by
 refine T.oC.ok zS (fun vs H Q E h=>?_) (fun cdv Ar outer sh H vs Q E hr h=>?_)
 ·obtain⟨_,_,_,_,_,_,rfl,_⟩:=h
  rfl
 ·obtain⟨dk,nl,X,a,k,ns,rfl,hD,hnl,hN,hk,kk⟩:=h
  have hu:=aY hr
  have hu64:=hr.units
  refine⟨_,(ab (aT (HQ (Mv (ak (pv 0) rfl))) (ag (aq (aw rfl T.E7))) ay)
   (ab (aT (aA cg (pv 1) (aw rfl T.E6) (aI _)) (ag (aq (cz (ak (pv 0) rfl) T.au T.oP (xH T) (hr.mono (by decide)) T.qW .nil aK (aa (JI Mm (pv 2) (HR aH) Rc) ah)))) ay)
   (ab (aT (aA cg (pv 1) (aw rfl T.DM) (aI _)) (ag (aq (cz (ak (pv 0) rfl) T.au T.nR (vD T) (hr.mono (by decide)) T.qc .nil aK (aa (bw aN (pv 2) aH (fun _ _=>rfl)) (aa (bw aN (pv 2) aH (fun _ _=>rfl)) ah))))) ay)
   (ab (aT (aA cg (pv 1) (aw rfl T.MJ) (aI _)) (ag (aq (cz (ak (pv 0) rfl) T.au T.pP (yU T) (hr.mono (by decide)) T.sU .nil aK (aa (bw aN (pv 2) aH (fun _ _=>rfl)) (aa (bw aN (pv 2) aH (fun _ _=>rfl)) (aa (bw aN (pv 2) aH (fun _ _=>rfl)) ah)))))) ay)
   (ag (aq (j0 (pv 0) T.bo T.qB (Ae T) (hr.mono (by decide)) T.uS .nil aK))))))),?_⟩
  try dsimp only[Of]
  obtain⟨ddx,st⟩:=hD.st
  cases st with
  | j3 hd ey s=>
   have hr:=s.r.j3.ready
   have e:Kh317.step a (bP k ns)=(a,Kh317.say (-16)):=by
    have :k=1∨k=2∨k=3∨k=4:=by omega
    rcases this with rfl | rfl | rfl | rfl<;>exact if_pos hr
   rw[e] at kk
   refine⟨_,rfl,⟨_,_,_,_,_,rfl,hd,T.bo,T.bU,dF,⟨_,rfl,(mz (fun h=>?_) (fun h=>(nomatch h)))⟩⟩⟩
   exact kk H hD (.of (ax.refl _))
  | @FX _ sa z hd s t=>
   have hr:¬a.ready=true:=by rw[t.ready];decide
   have hsa:=s.y3
   refine⟨_,rfl,⟨_,_,_,_,_,rfl,by assumption,T.bo,T.bU,dF,⟨_,rfl,(mz (fun h=>?r0) (fun h=>⟨_,rfl,(bJ ⟨_,rfl,(aL (fun h=>⟨_,rfl,⟨_,_,_,_,_,rfl,by assumption,T.bo,T.bI,cU,⟨_,_,_,rfl,by assumption,xK,⟨_,rfl,⟨_,rfl,?sl1⟩⟩⟩⟩⟩) (fun h=>⟨_,rfl,(bJ ⟨_,rfl,(aL (fun h=>⟨_,rfl,⟨_,_,_,_,_,rfl,by assumption,T.bo,T.bI,cU,⟨_,_,_,rfl,by assumption,vG,⟨_,rfl,⟨_,_,_,_,rfl,rfl,(aM.of hnl),(cn hN 2 0 h (by decide) (by decide)),⟨_,rfl,⟨_,_,_,_,rfl,rfl,(aM.of hnl),(cn hN 2 1 h (by decide) (by decide)),?rJ⟩⟩⟩⟩⟩⟩⟩) (fun h=>⟨_,rfl,(bJ ⟨_,rfl,(aL (fun h=>⟨_,rfl,⟨_,_,_,_,_,rfl,by assumption,T.bo,T.bI,cU,⟨_,_,_,rfl,by assumption,yW,⟨_,rfl,⟨_,_,_,_,rfl,rfl,(aM.of hnl),(cn hN 3 0 h (by decide) (by decide)),⟨_,rfl,⟨_,_,_,_,rfl,rfl,(aM.of hnl),(cn hN 3 1 h (by decide) (by decide)),⟨_,rfl,⟨_,_,_,_,rfl,rfl,(aM.of hnl),(cn hN 3 2 h (by decide) (by decide)),?ui⟩⟩⟩⟩⟩⟩⟩⟩⟩) (fun h=>⟨_,rfl,⟨_,_,_,rfl,by assumption,Ah,?vc⟩⟩))⟩)⟩))⟩)⟩))⟩)⟩))⟩⟩⟩
   case r0=>exact absurd rfl h
   case sl1=>
    have hk1:k=1:=by omega
    subst hk1
    refine⟨nl,nats ns,rfl,aM.of hnl,fun p hp=>?_⟩
    rw[Qm]
    have s1:=aX (H:=H) (o:=.lst (nats ns.tail)) hp
    have e:Kh317.step a (bP 1 ns)=Kh317.told a (.word (some ns.tail)):=if_neg hr
    rw[e] at kk
    refine⟨sa,p,X,z,a,ns.tail,rfl,s.same s1,aS.mpr ⟨sq s.r.J5 s.live hp,ae⟩,fun z' H' hS' ch=>?_⟩
    exact kk H' ⟨hS'.live,hD.mem,ddx,.FX (ch _ _ (s1 _ _ hd) (s.apart _ hD.mem)) hS' (Nn t _)⟩ fun x hx _ o e=>ch _ _ (s1 _ _ e) (s.apart _ hx)
   case rJ=>
    have hk1:k=2:=by omega
    subst hk1
    have e:Kh317.step a (bP 2 ns)=Kh317.told a (.place (ns.getD 0 0) (ns.getD 1 0)):=if_neg hr
    rw[e] at kk
    refine⟨sa,X,z,a,_,_,rfl,s,fun z' H' hS' ch=>?_⟩
    exact kk H' ⟨hS'.live,hD.mem,ddx,.FX (ch _ _ hd (s.apart _ hD.mem)) hS' (Lm t _ _)⟩ fun x hx _ o e=>ch _ _ e (s.apart _ hx)
   case ui=>
    have hk1:k=3:=by omega
    subst hk1
    have e:Kh317.step a (bP 3 ns)=Kh317.told a (.way (ns.getD 0 0) (ns.getD 1 0) (ns.getD 2 0)):=if_neg hr
    rw[e] at kk
    refine⟨sa,X,z,a,_,_,_,rfl,s,fun z' H' hS' ch=>?_⟩
    exact kk H' ⟨hS'.live,hD.mem,ddx,.FX (ch _ _ hd (s.apart _ hD.mem)) hS' (O5 t _ _ _)⟩ fun x hx _ o e=>ch _ _ e (s.apart _ hx)
   case vc=>
    have hk1:k=4:=by omega
    subst hk1
    have e:Kh317.step a (bP 4 ns)=(if Kh317.closed a≠0 then (a,Kh317.say (Kh317.closed a)) else ({ a with ready:=true,place:=some 0 },Kh317.say 0)):=if_neg hr
    rw[e] at kk
    refine⟨dk,ddx,sa,X,z,a,rfl,hd,hD.mem,s,t,fun hc H' s'=>?_,fun hc M ta y us ss H' hd' hT' b=>?_⟩
    ·rw[if_pos hc] at kk
     exact kk H' (hD.same s') (.of s')
    ·rw[if_neg (fun q=>q hc)] at kk
     refine kk H' ⟨fun x hx=>?_,hD.mem,ddx,.j3 hd' rfl hT'⟩ fun x hx n o e=>b _ _ e n
     exact hT'.live x (hT'.xs x hx).1
noncomputable def zC (K:PySem.W.Frag) (A:Ad):Sp:=fun vs0 H Q _=>∃(ta nl:Addr) (X M:List Addr) (y:TA) (z:SA) (a:Abs) (us ss:List Kt.U) (k:Nat) (ns:List Nat),vs0=[.ref ta,.int k,.ref nl]∧(bH A X M H ta y z a us ss)∧(H nl=some (.lst (nats ns)))∧(Sq k ns)∧(5≤k∧k≤9)∧(∀(M':List Addr) (y':TA) (us' ss':List Kt.U) (H':Hp),y'.sa=y.sa→bH A X M' H' ta y' z (Kh317.talk a (bP k ns)).1 us' ss'→wC X H H'→Q (.int (Kh317.talk a (bP k ns)).2.value) H')
theorem z8 {P:Program} {w:World} {K:PySem.W.Frag} {mg:Str→Option Value} {base:Heap} {A:Ad} (T:Txt K mg A):bz P w K mg base gw 10 A.eQ A.e8 ["talk","call","numbers"] (zC K A):=by
 refine T.oE.ok zT (fun vs H Q E h=>?_) (fun cdv Ar outer sh H vs Q E hr h=>?_)
 ·obtain⟨_,_,_,_,_,_,_,_,_,_,_,rfl,_⟩:=h
  rfl
 ·obtain⟨ta,nl,X,M,y,z,a,us,ss,k,ns,rfl,hT,hnl,hN,hk,kk⟩:=h
  have hu:=aY hr
  have hu64:=hr.units
  refine⟨_,(ab (aT (aA cg (pv 1) (aw rfl T.ID) (aI _)) (ag (aq (cz (pv 0) T.aj T.Al (Ib T) (hr.mono (by decide)) T.FE .nil aK (aa (bw aN (pv 2) aH (fun _ _=>rfl)) (aa (bw aN (pv 2) aH (fun _ _=>rfl)) ah))))) ay)
   (ab (aT (aA cg (pv 1) (aw rfl T.RA) (aI _)) (ag (aq (cz (pv 0) T.aj T.EO (LG T) (hr.mono (by decide)) T.KQ .nil aK (aa (bw aN (pv 2) aH (fun _ _=>rfl)) (aa (bw aN (pv 2) aH (fun _ _=>rfl)) ah))))) ay)
   (ab (aT (aA cg (pv 1) (aw rfl T.RB) (aI _)) (ag (aq (cz (pv 0) T.aj T.ER (LH T) (hr.mono (by decide)) T.KR .nil aK (aa (bw aN (pv 2) aH (fun _ _=>rfl)) ah)))) ay)
   (ab (aT (aA cg (pv 1) (aw rfl T.DO) (aI _)) (ag (aq (j0 (pv 0) T.aj T.yh (Gi T) (hr.mono (by decide)) T.CU .nil aK))) ay)
   (ag (aq (j0 (pv 0) T.aj T.Am (Ic T) (hr.mono (by decide)) T.FF .nil aK))))))),?_⟩
  try dsimp only[Of]
  have htk:=hT.r.zw
  refine⟨_,rfl,(bJ ⟨_,rfl,(aL (fun h=>⟨_,rfl,⟨_,_,_,rfl,by assumption,Ii,⟨_,rfl,⟨_,_,_,_,rfl,rfl,(aM.of hnl),(cn hN 5 0 h (by decide) (by decide)),⟨_,rfl,⟨_,_,_,_,rfl,rfl,(aM.of hnl),(cn hN 5 1 h (by decide) (by decide)),?Cc⟩⟩⟩⟩⟩⟩) (fun h=>⟨_,rfl,(bJ ⟨_,rfl,(aL (fun h=>⟨_,rfl,⟨_,_,_,rfl,by assumption,LJ,⟨_,rfl,⟨_,_,_,_,rfl,rfl,(aM.of hnl),(cn hN 6 0 h (by decide) (by decide)),⟨_,rfl,⟨_,_,_,_,rfl,rfl,(aM.of hnl),(cn hN 6 1 h (by decide) (by decide)),?Fv⟩⟩⟩⟩⟩⟩) (fun h=>⟨_,rfl,(bJ ⟨_,rfl,(aL (fun h=>⟨_,rfl,⟨_,_,_,rfl,by assumption,LK,⟨_,rfl,⟨_,_,_,_,rfl,rfl,(aM.of hnl),(cn hN 7 0 h (by decide) (by decide)),?Fw⟩⟩⟩⟩) (fun h=>⟨_,rfl,(bJ ⟨_,rfl,(aL (fun h=>⟨_,rfl,⟨_,_,_,rfl,by assumption,Gm,?AS⟩⟩) (fun h=>⟨_,rfl,⟨_,_,_,rfl,by assumption,Ij,?Cd⟩⟩))⟩)⟩))⟩)⟩))⟩)⟩))⟩)⟩
  case Cc=>
   have hk1:k=5:=by omega
   subst hk1
   exact⟨ta,X,M,y,z,a,us,ss,_,_,rfl,hT,fun y' H' ey hT' kx=>kk M y' us ss H' ey hT' kx⟩
  case Fv=>
   have hk1:k=6:=by omega
   subst hk1
   exact⟨ta,X,M,y,z,a,us,ss,_,_,rfl,hT,fun y' H' ey hT' kx=>kk M y' us ss H' ey hT' kx⟩
  case Fw=>
   have hk1:k=7:=by omega
   subst hk1
   exact⟨ta,X,M,y,z,a,us,ss,_,rfl,hT,kk⟩
  case AS=>
   have hk1:k=8:=by omega
   subst hk1
   exact⟨ta,X,M,y,z,a,us,ss,rfl,hT,fun M' y' H' ey hT' kx=>kk M' y' us ss H' ey hT' kx⟩
  case Cd=>
   have hk1:k=9:=by omega
   subst hk1
   exact⟨ta,X,M,y,z,a,us,ss,rfl,hT,kk⟩
noncomputable def zD (K:PySem.W.Frag) (A:Ad):Sp:=fun vs0 H Q _=>∃(ta nl:Addr) (X M:List Addr) (y:TA) (z:SA) (a:Abs) (us ss:List Kt.U) (k:Nat) (ns:List Nat),vs0=[.ref ta,.int k,.ref nl]∧(bH A X M H ta y z a us ss)∧(H nl=some (.lst (nats ns)))∧(Sq k ns)∧(10≤k∧k≤14)∧(∀(D:Addr) (H':Hp),H D=none→ax H H'→H' D=some (.lst (nN k (Kh317.talk a (bP k ns)).2))→Q (.ref D) H')
theorem z9 {P:Program} {w:World} {K:PySem.W.Frag} {mg:Str→Option Value} {base:Heap} {A:Ad} (T:Txt K mg A):bz P w K mg base gw 9 A.eR A.e9 ["talk","call","numbers"] (zD K A):=by
 refine T.oF.ok zU (fun vs H Q E h=>?_) (fun cdv Ar outer sh H vs Q E hr h=>?_)
 ·obtain⟨_,_,_,_,_,_,_,_,_,_,_,rfl,_⟩:=h
  rfl
 ·obtain⟨ta,nl,X,M,y,z,a,us,ss,k,ns,rfl,hT,hnl,hN,hk,kk⟩:=h
  have hu:=aY hr
  have hu64:=hr.units
  refine⟨_,(ab (aT (aA cg (pv 1) (aw rfl T.Iy) (aI _)) (ag (aq (aW (EC T) (hr.mono (by decide)) rfl T.nB T.t9.kp T.AZ .nil aK (aa (pv 0) ah)))) ay)
   (ab (aT (aA cg (pv 1) (aw rfl T.MK) (aI _)) (ag (aq (aW (Gg T) (hr.mono (by decide)) rfl T.oW T.vS.kp T.CS .nil aK (aa (pv 0) ah)))) ay)
   (ab (aT (aA cg (pv 1) (aw rfl T.AF) (aI _)) (ag (aq (aW (BH T) (hr.mono (by decide)) rfl T.kh T.p5.kp T.wy .nil aK (aa (pv 0) ah)))) ay)
   (ab (aT (aA cg (pv 1) (aw rfl T.Iz) (aI _)) (ag (aq (aW (ED T) (hr.mono (by decide)) rfl T.nD T.ub.kp T.A0 .nil aK (aa (pv 0) (aa (bw aN (pv 2) aH (fun _ _=>rfl)) ah))))) ay)
   (ag (aq (aW (EF T) (hr.mono (by decide)) rfl T.nF T.uf.kp T.A2 .nil aK (aa (pv 0) ah)))))))),?_⟩
  try dsimp only[Of]
  refine⟨_,rfl,(bJ ⟨_,rfl,(aL (fun h=>⟨_,rfl,?ze⟩) (fun h=>⟨_,rfl,(bJ ⟨_,rfl,(aL (fun h=>⟨_,rfl,?AO⟩) (fun h=>⟨_,rfl,(bJ ⟨_,rfl,(aL (fun h=>⟨_,rfl,?wd⟩) (fun h=>⟨_,rfl,(bJ ⟨_,rfl,(aL (fun h=>⟨_,rfl,⟨_,rfl,⟨_,_,_,_,rfl,rfl,(aM.of hnl),(cn hN 13 0 h (by decide) (by decide)),?zf⟩⟩⟩) (fun h=>⟨_,rfl,?zh⟩))⟩)⟩))⟩)⟩))⟩)⟩))⟩)⟩
  case ze=>
   have hk1:k=10:=by omega
   subst hk1
   exact⟨ta,y,z,a,us,ss,rfl,hT.read,kk⟩
  case AO=>
   have hk1:k=11:=by omega
   subst hk1
   exact⟨ta,X,M,y,z,a,us,ss,rfl,hT,kk⟩
  case wd=>
   have hk1:k=12:=by omega
   subst hk1
   exact⟨ta,X,M,y,z,a,us,ss,rfl,hT,kk⟩
  case zf=>
   have hk1:k=13:=by omega
   subst hk1
   exact⟨ta,y,z,a,us,ss,_,rfl,hT.read,kk⟩
  case zh=>
   have hk1:k=14:=by omega
   subst hk1
   exact⟨ta,y,z,a,us,ss,rfl,hT.read,kk⟩
noncomputable def yB (K:PySem.W.Frag) (A:Ad):Sp:=fun vs0 H Q _=>∃(ta nl:Addr) (X M:List Addr) (y:TA) (z:SA) (a:Abs) (us ss:List Kt.U) (k:Nat) (ns:List Nat),vs0=[.ref ta,.int k,.ref nl]∧(bH A X M H ta y z a us ss)∧(H nl=some (.lst (nats ns)))∧(Sq k ns)∧(15≤k∧k≠17)∧(∀(D:Addr) (H':Hp),H D=none→ax H H'→H' D=some (.lst (nN k (Kh317.talk a (bP k ns)).2))→Q (.ref D) H')
theorem yT {P:Program} {w:World} {K:PySem.W.Frag} {mg:Str→Option Value} {base:Heap} {A:Ad} (T:Txt K mg A):bz P w K mg base gw 3 A.dU A.dZ ["talk","call","numbers"] (yB K A):=by
 refine T.mL.ok yM (fun vs H Q E h=>?_) (fun cdv Ar outer sh H vs Q E hr h=>?_)
 ·obtain⟨_,_,_,_,_,_,_,_,_,_,_,rfl,_⟩:=h
  rfl
 ·obtain⟨ta,nl,X,M,y,z,a,us,ss,k,ns,rfl,hT,hnl,hN,hk,kk⟩:=h
  have hu:=aY hr
  have hu64:=hr.units
  refine⟨_,(ab (aT (aA cg (pv 1) (aw rfl T.DK) (aI _)) (ag (aq (aW (De T) (hr.mono (by decide)) rfl T.lJ T.rF.kp T.yq .nil aK (aa (pv 0) (aa (bw aN (pv 2) aH (fun _ _=>rfl)) ah))))) ay)
   (ab (aT (aA cg (pv 1) (aw rfl T.xi) (aI _)) (ag (aq (aW (Ab T) (hr.mono (by decide)) rfl T.jy T.oH.kp T.uQ .nil aK (aa (pv 0) (aa (bw aN (pv 2) aH (fun _ _=>rfl)) (aa (bw aN (pv 2) aH (fun _ _=>rfl)) (aa (bw aN (pv 2) aH (fun _ _=>rfl)) ah))))))) ay)
   (ab (aT (aA cg (pv 1) (aw rfl T.AB) (aI _)) (ag (aq (aW (BG T) (hr.mono (by decide)) rfl T.kg T.p0.kp T.wu .nil aK (aa (pv 0) (aa (bw aN (pv 2) aH (fun _ _=>rfl)) ah))))) ay)
   (ag (aq (aW (EE T) (hr.mono (by decide)) rfl T.nE T.ue.kp T.A1 .nil aK (aa (pv 0) (aa (bw aN (pv 2) aH (fun _ _=>rfl)) (aa (bw aN (pv 2) aH (fun _ _=>rfl)) ah))))))))),?_⟩
  try dsimp only[Of]
  have h19:=hN.most
  refine⟨_,rfl,(bJ ⟨_,rfl,(aL (fun h=>⟨_,rfl,⟨_,rfl,⟨_,_,_,_,rfl,rfl,(aM.of hnl),(cn hN 15 0 h (by decide) (by decide)),?xO⟩⟩⟩) (fun h=>⟨_,rfl,(bJ ⟨_,rfl,(aL (fun h=>⟨_,rfl,⟨_,rfl,⟨_,_,_,_,rfl,rfl,(aM.of hnl),(cn hN 16 0 h (by decide) (by decide)),⟨_,rfl,⟨_,_,_,_,rfl,rfl,(aM.of hnl),(cn hN 16 1 h (by decide) (by decide)),⟨_,rfl,⟨_,_,_,_,rfl,rfl,(aM.of hnl),(cn hN 16 2 h (by decide) (by decide)),?vb⟩⟩⟩⟩⟩⟩⟩) (fun h=>⟨_,rfl,(bJ ⟨_,rfl,(aL (fun h=>⟨_,rfl,⟨_,rfl,⟨_,_,_,_,rfl,rfl,(aM.of hnl),(cn hN 18 0 h (by decide) (by decide)),?wc⟩⟩⟩) (fun h=>⟨_,rfl,⟨_,rfl,⟨_,_,_,_,rfl,rfl,(aM.of hnl),(cn hN 19 0 (by omega) (by decide) (by decide)),⟨_,rfl,⟨_,_,_,_,rfl,rfl,(aM.of hnl),(cn hN 19 1 (by omega) (by decide) (by decide)),?zg⟩⟩⟩⟩⟩))⟩)⟩))⟩)⟩))⟩)⟩
  case xO=>
   have hk1:k=15:=by omega
   subst hk1
   exact⟨ta,y,z,a,us,ss,_,rfl,hT.read,kk⟩
  case vb=>
   have hk1:k=16:=by omega
   subst hk1
   exact⟨ta,y,z,a,us,ss,_,_,_,rfl,hT.read,kk⟩
  case wc=>
   have hk1:k=18:=by omega
   subst hk1
   exact⟨ta,y,z,a,us,ss,_,rfl,hT.read,kk⟩
  case zg=>
   have hk1:k=19:=by omega
   subst hk1
   exact⟨ta,y,z,a,us,ss,_,_,rfl,hT.read,kk⟩
theorem Ko (o:Option Abs) (p lo hi e:Nat):Kh317.doing o (.begin_ p lo hi e)=if Kh317.okRange p lo hi e then (some (Kh317.begun p lo hi e),Kh317.say 0) else (o,Kh317.say (-22)):=by
 cases o with
 | none=>rfl
 | some a=>
  show (some (if Kh317.okRange p lo hi e then (Kh317.begun p lo hi e,Kh317.say 0) else (a,Kh317.say (-22))).1,(if Kh317.okRange p lo hi e then (Kh317.begun p lo hi e,Kh317.say 0) else (a,Kh317.say (-22))).2)=_
  split<;>rfl
theorem Ni {a:Abs} {k:Nat} {ns:List Nat} (hr:¬a.ready=true) (h5:5≤k) (h17:k≠17) (h19:k≤19):Kh317.step a (bP k ns)=(a,Kh317.say (-6)):=by
 have :k=5∨k=6∨k=7∨k=8∨k=9∨k=10∨k=11∨k=12∨k=13∨k=14∨k=15∨k=16∨k=18∨k=19:=by omega
 rcases this with rfl | rfl | rfl | rfl | rfl | rfl | rfl | rfl | rfl | rfl | rfl | rfl | rfl | rfl<;>exact if_neg hr
theorem DX {a:Abs} {k:Nat} {ns:List Nat} (hr:a.ready=true) (h5:5≤k) (h17:k≠17) (h19:k≤19):Kh317.step a (bP k ns)=Kh317.talk a (bP k ns):=by
 have :k=5∨k=6∨k=7∨k=8∨k=9∨k=10∨k=11∨k=12∨k=13∨k=14∨k=15∨k=16∨k=18∨k=19:=by omega
 rcases this with rfl | rfl | rfl | rfl | rfl | rfl | rfl | rfl | rfl | rfl | rfl | rfl | rfl | rfl<;>exact if_pos hr
theorem GQ {a:Abs} {k:Nat} {ns:List Nat} (h5:10≤k) (h17:k≠17) (h19:k≤19):(Kh317.talk a (bP k ns)).1=a:=by
 have :k=10∨k=11∨k=12∨k=13∨k=14∨k=15∨k=16∨k=18∨k=19:=by omega
 rcases this with rfl | rfl | rfl | rfl | rfl | rfl | rfl | rfl | rfl<;>rfl
theorem xT {a:Abs} {k:Nat} {ns:List Nat} (h1:1≤k) (h4:k≤4):(Kh317.step a (bP k ns)).2.out=[]:=by
 have :k=1∨k=2∨k=3∨k=4:=by omega
 have g:Kh317.step a (bP k ns)=if a.ready then Kh317.talk a (bP k ns) else Kh317.told a (bP k ns):=by
  rcases this with rfl | rfl | rfl | rfl<;>rfl
 rw[g]
 split
 ·rcases this with rfl | rfl | rfl | rfl<;>rfl
 ·exact Jn _ _
theorem xb {A:Ad} {X:List Addr} {H H1:Hp} {dk:Addr} {o:Option Abs} {k:Int} {an:Kh317.Ans} {Q:VK} (kk:∀(D:Addr) (H':Hp),D∉X→kH A X H' dk o→yu dk X H H'→H' D=some (.lst (nN k an))→Q (.ref D) H') (r:kH A X H1 dk o) (b:yu dk X H H1) {v:Int} (e:nN k an=[.int v]):[V.int v].length≤sizeLine∧∀p,H1 p=none→Q (.ref p) (upd H1 p (.lst [.int v])):=
 ⟨gx,fun p hp=>kk p _ (nP r.live hp) (r.same (aX hp)) (b.trans (.of (aX hp))) (by rw[ae,e])⟩
noncomputable def Nm (K:PySem.W.Frag) (A:Ad):Sp:=fun vs0 H Q _=>∃(dk nl:Addr) (X:List Addr) (o:Option Abs) (k:Nat) (ns:List Nat),vs0=[.ref dk,.int k,.ref nl]∧(kH A X H dk o)∧(H nl=some (.lst (nats ns)))∧(Sq k ns)∧(o=none→k=0)∧(∀(D:Addr) (H':Hp),D∉X→kH A X H' dk (Kh317.doing o (bP k ns)).1→yu dk X H H'→H' D=some (.lst (nN k (Kh317.doing o (bP k ns)).2))→Q (.ref D) H')
theorem NN {P:Program} {w:World} {K:PySem.W.Frag} {mg:Str→Option Value} {base:Heap} {A:Ad} (T:Txt K mg A):bz P w K mg base gw 11 A.sA A.sI ["desk","call","numbers"] (Nm K A):=by
 refine T.IK.ok Nq (fun vs H Q E h=>?_) (fun cdv Ar outer sh H vs Q E hr h=>?_)
 ·obtain⟨_,_,_,_,_,_,rfl,_⟩:=h
  rfl
 ·obtain⟨dk,nl,X,o,k,ns,rfl,hD,hnl,hN,hb,kk⟩:=h
  have hu:=aY hr
  have hu64:=hr.units
  refine⟨_,(ab (aT (aA cg (pv 1) (aw rfl T.DN) (aI _)) (ag (aq (bB (aa (cz (pv 0) T.bo T.yi (Gk T) (hr.mono (by decide)) T.CW .nil aK (aa (bw aN (pv 2) aH (fun _ _=>rfl)) (aa (bw aN (pv 2) aH (fun _ _=>rfl)) (aa (bw aN (pv 2) aH (fun _ _=>rfl)) (aa (bw aN (pv 2) aH (fun _ _=>rfl)) ah))))) ah)))) ay)
   (ab (aT (aA ma (pv 1) (aw rfl T.IA) (aI _)) (ag (aq (bB (aa (aW (z7 T) (hr.mono (by decide)) rfl T.ju T.oC.kp T.uL .nil aK (aa (pv 0) (aa (pv 1) (aa (pv 2) ah)))) ah)))) ay)
   (ab (aT (aA cg (pv 1) (aw rfl T.xh) (aI _)) (ag (aq (aW (Aa T) (hr.mono (by decide)) rfl T.jx T.oG.kp T.uP .nil aK (aa (ak (pv 0) rfl) (aa (bw aN (pv 2) aH (fun _ _=>rfl)) ah))))) ay)
   (ab (aT (HQ (Pz (ak (pv 0) rfl))) (ag (aq (bB (aa (aw rfl T.tZ) ah)))) ay)
   (ab (aT (aA ma (pv 1) (aw rfl T.IE) (aI _)) (ag (aq (bB (aa (aW (z8 T) (hr.mono (by decide)) rfl T.jv T.oE.kp T.uN .nil aK (aa (ak (pv 0) rfl) (aa (pv 1) (aa (pv 2) ah)))) ah)))) ay)
   (ab (aT (aA ma (pv 1) (aw rfl T.IB) (aI _)) (ag (aq (aW (z9 T) (hr.mono (by decide)) rfl T.jw T.oF.kp T.uO .nil aK (aa (ak (pv 0) rfl) (aa (pv 1) (aa (pv 2) ah)))))) ay)
   (ag (aq (aW (yT T) (hr.mono (by decide)) rfl T.iQ T.mL.kp T.sS .nil aK (aa (ak (pv 0) rfl) (aa (pv 1) (aa (pv 2) ah)))))))))))),?_⟩
  try dsimp only[Of]
  have h19:=hN.most
  obtain⟨ddx,st⟩:=hD.st
  by_cases hk0:k=0
  ·subst hk0
   obtain⟨sv,tv,hd⟩:∃sv tv,H dk=some (.ins A.bo ddx (cG sv tv)):=by
    cases st with
    | off q=>exact⟨_,_,q⟩
    | FX q _ _=>exact⟨_,_,q⟩
    | j3 q _ _=>exact⟨_,_,q⟩
   refine⟨_,rfl,(bJ ⟨_,rfl,(aL (fun h=>⟨_,rfl,⟨_,_,_,rfl,hd,rq,⟨_,rfl,⟨_,_,_,_,rfl,rfl,aM.of hnl,cn hN 0 0 h (by decide) (by decide),⟨_,rfl,⟨_,_,_,_,rfl,rfl,aM.of hnl,cn hN 0 1 h (by decide) (by decide),⟨_,rfl,⟨_,_,_,_,rfl,rfl,aM.of hnl,cn hN 0 2 h (by decide) (by decide),⟨_,rfl,⟨_,_,_,_,rfl,rfl,aM.of hnl,cn hN 0 3 h (by decide) (by decide),?_⟩⟩⟩⟩⟩⟩⟩⟩⟩⟩) (fun h=>absurd rfl h))⟩)⟩
   have e:Kh317.doing o (bP 0 ns)=if Kh317.okRange (ns.getD 0 0) (ns.getD 1 0) (ns.getD 2 0) (ns.getD 3 0) then (some (Kh317.begun (ns.getD 0 0) (ns.getD 1 0) (ns.getD 2 0) (ns.getD 3 0)),Kh317.say 0) else (o,Kh317.say (-22)):=Ko _ _ _ _ _
   rw[e] at kk
   refine⟨dk,ddx,X,_,_,_,_,sv,tv,rfl,hd,hD.mem,hD.live,fun hf H' s'=>?_,fun ht sa' z' H' hd' hS' b=>?_⟩
   ·rw[if_neg (by rw[hf];decide)] at kk
    exact xb kk (hD.same s') (.of s') (dQ _)
   ·rw[if_pos ht] at kk
    exact xb kk ⟨hS'.live,hD.mem,ddx,.FX hd' hS' (Kt.Fy ht).2⟩ (fun x hx n o e=>b _ _ e n) (dQ _)
  cases st with
  | off q=>exact absurd (hb rfl) hk0
  | @FX a sa z hd s t=>
   have hr:¬a.ready=true:=by rw[t.ready];decide
   refine⟨_,rfl,(bJ ⟨_,rfl,(aL (fun h=>⟨_,rfl,⟨_,_,_,rfl,by assumption,rq,⟨_,rfl,⟨_,_,_,_,rfl,rfl,(aM.of hnl),(cn hN 0 0 h (by decide) (by decide)),⟨_,rfl,⟨_,_,_,_,rfl,rfl,(aM.of hnl),(cn hN 0 1 h (by decide) (by decide)),⟨_,rfl,⟨_,_,_,_,rfl,rfl,(aM.of hnl),(cn hN 0 2 h (by decide) (by decide)),⟨_,rfl,⟨_,_,_,_,rfl,rfl,(aM.of hnl),(cn hN 0 3 h (by decide) (by decide)),?lX⟩⟩⟩⟩⟩⟩⟩⟩⟩⟩) (fun h=>⟨_,rfl,⟨_,_,rfl,rfl,⟨_,rfl,(aL (fun h=>⟨_,rfl,⟨_,rfl,⟨_,rfl,?iK⟩⟩⟩) (fun h=>⟨_,rfl,(bJ ⟨_,rfl,(aL (fun h=>⟨_,rfl,⟨_,_,_,_,_,rfl,by assumption,T.bo,T.bI,cU,⟨_,rfl,⟨_,_,_,_,rfl,rfl,(aM.of hnl),(cn hN 17 0 h (by decide) (by decide)),?iN⟩⟩⟩⟩) (fun h=>⟨_,rfl,⟨_,_,_,_,_,rfl,by assumption,T.bo,T.bU,dF,⟨_,rfl,(aL (fun h=>?lst5) (fun h=>⟨_,rfl,⟨_,_,rfl,rfl,⟨_,rfl,(aL (fun h=>⟨_,rfl,⟨_,_,_,_,_,rfl,by assumption,T.bo,T.bU,dF,⟨_,rfl,⟨_,rfl,?iL⟩⟩⟩⟩) (fun h=>⟨_,rfl,⟨_,_,rfl,rfl,⟨_,rfl,(aL (fun h=>⟨_,rfl,⟨_,_,_,_,_,rfl,by assumption,T.bo,T.bU,dF,⟨_,rfl,⟨_,rfl,?iM⟩⟩⟩⟩) (fun h=>⟨_,rfl,⟨_,_,_,_,_,rfl,by assumption,T.bo,T.bU,dF,⟨_,rfl,⟨_,rfl,?gY⟩⟩⟩⟩))⟩⟩⟩))⟩⟩⟩))⟩⟩⟩))⟩)⟩))⟩⟩⟩))⟩)⟩
   case lX=>exfalso;omega
   case iK=>
    have h14:1≤k∧k≤4:=by omega
    refine⟨dk,nl,X,a,k,ns,rfl,hD,hnl,hN,h14,fun H' hD' kb=>?_⟩
    exact xb kk hD' kb (Lz (xT h14.1 h14.2))
   case iN=>
    have hk1:k=17:=by omega
    subst hk1
    refine⟨sa,z,a,_,rfl,s.r.read jo,s.told,fun D H' hDn s' hDo=>?_⟩
    exact kk D H' (nP hD.live hDn) (hD.same s') (.of s') hDo
   case lst5=>
    have e:Kh317.doing (some a) (bP k ns)=(some a,Kh317.say (-6)):=by
     show (some (Kh317.step a (bP k ns)).1,(Kh317.step a (bP k ns)).2)=_
     rw[Ni hr (by omega) (by omega) h19]
    rw[e] at kk
    exact xb kk hD (.of (ax.refl _)) (dQ _)
   case iL=>exact absurd rfl ‹¬V.dh=V.dh›
   case iM=>exact absurd rfl ‹¬V.dh=V.dh›
   case gY=>exact absurd rfl ‹¬V.dh=V.dh›
  | @j3 a M ta sa y z us ss hd ey s=>
   have hr:=s.r.j3.ready
   refine⟨_,rfl,(bJ ⟨_,rfl,(aL (fun h=>⟨_,rfl,⟨_,_,_,rfl,by assumption,rq,⟨_,rfl,⟨_,_,_,_,rfl,rfl,(aM.of hnl),(cn hN 0 0 h (by decide) (by decide)),⟨_,rfl,⟨_,_,_,_,rfl,rfl,(aM.of hnl),(cn hN 0 1 h (by decide) (by decide)),⟨_,rfl,⟨_,_,_,_,rfl,rfl,(aM.of hnl),(cn hN 0 2 h (by decide) (by decide)),⟨_,rfl,⟨_,_,_,_,rfl,rfl,(aM.of hnl),(cn hN 0 3 h (by decide) (by decide)),?lX⟩⟩⟩⟩⟩⟩⟩⟩⟩⟩) (fun h=>⟨_,rfl,⟨_,_,rfl,rfl,⟨_,rfl,(aL (fun h=>⟨_,rfl,⟨_,rfl,⟨_,rfl,?iK⟩⟩⟩) (fun h=>⟨_,rfl,(bJ ⟨_,rfl,(aL (fun h=>⟨_,rfl,⟨_,_,_,_,_,rfl,by assumption,T.bo,T.bI,cU,⟨_,rfl,⟨_,_,_,_,rfl,rfl,(aM.of hnl),(cn hN 17 0 h (by decide) (by decide)),?iN⟩⟩⟩⟩) (fun h=>⟨_,rfl,⟨_,_,_,_,_,rfl,by assumption,T.bo,T.bU,dF,⟨_,rfl,(aL (fun h=>?lst5) (fun h=>⟨_,rfl,⟨_,_,rfl,rfl,⟨_,rfl,(aL (fun h=>⟨_,rfl,⟨_,_,_,_,_,rfl,by assumption,T.bo,T.bU,dF,⟨_,rfl,⟨_,rfl,?iL⟩⟩⟩⟩) (fun h=>⟨_,rfl,⟨_,_,rfl,rfl,⟨_,rfl,(aL (fun h=>⟨_,rfl,⟨_,_,_,_,_,rfl,by assumption,T.bo,T.bU,dF,⟨_,rfl,⟨_,rfl,?iM⟩⟩⟩⟩) (fun h=>⟨_,rfl,⟨_,_,_,_,_,rfl,by assumption,T.bo,T.bU,dF,⟨_,rfl,⟨_,rfl,?gY⟩⟩⟩⟩))⟩⟩⟩))⟩⟩⟩))⟩⟩⟩))⟩)⟩))⟩⟩⟩))⟩)⟩
   case lX=>exfalso;omega
   case iK=>
    have h14:1≤k∧k≤4:=by omega
    refine⟨dk,nl,X,a,k,ns,rfl,hD,hnl,hN,h14,fun H' hD' kb=>?_⟩
    exact xb kk hD' kb (Lz (xT h14.1 h14.2))
   case iN=>
    have hk1:k=17:=by omega
    subst hk1
    refine⟨sa,z,a,_,rfl,by rw[←ey];exact s.read.j9,s.r.told,fun D H' hDn s' hDo=>?_⟩
    exact kk D H' (nP hD.live hDn) (hD.same s') (.of s') hDo
   case lst5=>exact nomatch h
   case iL=>
    have h59:5≤k∧k≤9:=by omega
    have e:Kh317.doing (some a) (bP k ns)=(some (Kh317.talk a (bP k ns)).1,(Kh317.talk a (bP k ns)).2):=by
     show (some (Kh317.step a (bP k ns)).1,(Kh317.step a (bP k ns)).2)=_
     rw[DX hr (by omega) (by omega) h19]
    rw[e] at kk
    refine⟨ta,nl,X,M,y,z,a,us,ss,k,ns,rfl,s,hnl,hN,h59,fun M' y' us' ss' H' ey' hT' kx=>?_⟩
    exact xb kk ⟨fun x hx=>hT'.live x (hT'.xs x hx).1,hD.mem,ddx,.j3 (kx _ hD.mem _ hd) (ey'.trans ey) hT'⟩ (fun x hx _ o e=>kx x hx o e) (Lz (DW h59.1 h59.2))
   case iM=>
    have h59:10≤k∧k≤14:=by omega
    have e:Kh317.doing (some a) (bP k ns)=(some a,(Kh317.talk a (bP k ns)).2):=by
     show (some (Kh317.step a (bP k ns)).1,(Kh317.step a (bP k ns)).2)=_
     rw[DX hr (by omega) (by omega) h19,GQ h59.1 (by omega) h19]
    rw[e] at kk
    refine⟨ta,nl,X,M,y,z,a,us,ss,k,ns,rfl,s,hnl,hN,h59,fun D H' hDn s' hDo=>?_⟩
    exact kk D H' (nP hD.live hDn) (hD.same s') (.of s') hDo
   case gY=>
    have h59:15≤k∧k≠17:=by omega
    have e:Kh317.doing (some a) (bP k ns)=(some a,(Kh317.talk a (bP k ns)).2):=by
     show (some (Kh317.step a (bP k ns)).1,(Kh317.step a (bP k ns)).2)=_
     rw[DX hr (by omega) (by omega) h19,GQ (by omega) (by omega) h19]
    rw[e] at kk
    refine⟨ta,nl,X,M,y,z,a,us,ss,k,ns,rfl,s,hnl,hN,h59,fun D H' hDn s' hDo=>?_⟩
    exact kk D H' (nP hD.live hDn) (hD.same s') (.of s') hDo
end
section
open Kh317 (Abs)
noncomputable def yt (k:Int) (an:Kh317.Ans):List Int:=an.value::(Kh317Neutral.shown k an).map Int.ofNat
theorem NJ (k:Int) (an:Kh317.Ans):nN k an=(yt k an).map V.int:=by
 unfold nN yt nats
 rw[List.map_cons,List.map_map]
 rfl
inductive Rest :Nat→Option Abs→List Int→List Int→Prop
 | nil (o:Option Abs):Rest 0 o [] []
 | cons {n:Nat} {o:Option Abs} {k:Nat} {ms:List Nat} {L out:List Int} (hN:Sq k ms) (hw:k=1→ms.headD 0+1=ms.length) (hb:o=none→k=0) (h:Rest n (Kh317.doing o (bP k ms)).1 L out) :
   Rest (n+1) o ((k:Int)::(ms.map Int.ofNat++L)) (((yt k (Kh317.doing o (bP k ms)).2).length:Int)::(yt k (Kh317.doing o (bP k ms)).2++out))
theorem Zpx {α:Type} {c:Prop} [Decidable c] {x y z:Option α} {Q:Prop} (h1:c→x=z→Q) (h2:¬c→y=z→Q):(if c then x else y)=z→Q:=by
 by_cases h:c
 ·rw[if_pos h];exact h1 h
 ·rw[if_neg h];exact h2 h
theorem Zw2 :∀{l:List Int},l.length=2→∃a b,l=[a,b]
 | [a,b],_=>⟨a,b,rfl⟩
theorem Zw3 :∀{l:List Int},l.length=3→∃a b c,l=[a,b,c]
 | [a,b,c],_=>⟨a,b,c,rfl⟩
theorem Zwq {p:Int} {n k:Nat} {l:List Int} {xs:List (List Int)} (h:PyKh317.shape p=some (n,k)) (hl:l.length=n) (hx:xs.length=k):PyKh317.whole ((p::l)::xs)=(p::l)::xs:=by
 have z:∀{l:List Int},l.length=0→l=[]:=fun h=>List.length_eq_zero_iff.mp h
 have y:∀{xs:List (List Int)},xs.length=0→xs=[]:=fun h=>List.length_eq_zero_iff.mp h
 revert h
 unfold PyKh317.shape
 refine Zpx (fun e h=>?_) fun _=>?_
 ·subst e;cases h;rw[y hx]
  match l,hl with
  | [a,b,c,d],_=>rfl
 refine Zpx (fun e h=>?_) fun _=>?_
 ·subst e;cases h;rw[z hl]
  obtain⟨a,rfl⟩:=List.length_eq_one_iff.mp hx
  rfl
 refine Zpx (fun e h=>by subst e;cases h;rw[y hx];obtain⟨a,b,rfl⟩:=Zw2 hl;rfl) fun _=>?_
 refine Zpx (fun e h=>by subst e;cases h;rw[y hx];obtain⟨a,b,c,rfl⟩:=Zw3 hl;rfl) fun _=>?_
 refine Zpx (fun e h=>by subst e;cases h;rw[y hx,z hl];rfl) fun _=>?_
 refine Zpx (fun e h=>by subst e;cases h;rw[y hx];obtain⟨a,b,rfl⟩:=Zw2 hl;rfl) fun _=>?_
 refine Zpx (fun e h=>by subst e;cases h;rw[y hx];obtain⟨a,b,rfl⟩:=Zw2 hl;rfl) fun _=>?_
 refine Zpx (fun e h=>by subst e;cases h;rw[y hx];obtain⟨a,rfl⟩:=List.length_eq_one_iff.mp hl;rfl) fun _=>?_
 refine Zpx (fun e h=>by subst e;cases h;rw[y hx,z hl];rfl) fun _=>?_
 refine Zpx (fun e h=>by subst e;cases h;rw[y hx,z hl];rfl) fun _=>?_
 refine Zpx (fun e h=>by subst e;cases h;rw[y hx,z hl];rfl) fun _=>?_
 refine Zpx (fun e h=>by subst e;cases h;rw[y hx,z hl];rfl) fun _=>?_
 refine Zpx (fun e h=>by subst e;cases h;rw[y hx,z hl];rfl) fun _=>?_
 refine Zpx (fun e h=>by subst e;cases h;rw[y hx];obtain⟨a,rfl⟩:=List.length_eq_one_iff.mp hl;rfl) fun _=>?_
 refine Zpx (fun e h=>by subst e;cases h;rw[y hx,z hl];rfl) fun _=>?_
 refine Zpx (fun e h=>by subst e;cases h;rw[y hx];obtain⟨a,rfl⟩:=List.length_eq_one_iff.mp hl;rfl) fun _=>?_
 refine Zpx (fun e h=>by subst e;cases h;rw[y hx];obtain⟨a,b,c,rfl⟩:=Zw3 hl;rfl) fun _=>?_
 refine Zpx (fun e h=>by subst e;cases h;rw[y hx];obtain⟨a,rfl⟩:=List.length_eq_one_iff.mp hl;rfl) fun _=>?_
 refine Zpx (fun e h=>by subst e;cases h;rw[y hx];obtain⟨a,rfl⟩:=List.length_eq_one_iff.mp hl;rfl) fun _=>?_
 refine Zpx (fun e h=>by subst e;cases h;rw[y hx];obtain⟨a,b,rfl⟩:=Zw2 hl;rfl) fun _=>?_
 ·intro h;cases h
theorem Zrl :∀(k:Nat) (r:List Int) (xs:List (List Int)) (t:List Int),PyFlat.rows k r=some (xs,t)→xs.length=k
 | 0,r,xs,t,h=>by
  have h:some ([],r)=some (xs,t):=h
  cases h;rfl
 | k+1,r,xs,t,h=>by
  have h:(match PyFlat.row r with
   | none=>none
   | some (x,s)=>match PyFlat.rows k s with
    | none=>none
    | some (xs,t)=>some (x::xs,t))=some (xs,t):=h
  cases e:PyFlat.row r with
  | none=>rw[e] at h;cases h
  | some q=>
   rw[e] at h
   have h:(match PyFlat.rows k q.2 with
    | none=>none
    | some (xs,t)=>some (q.1::xs,t))=some (xs,t):=h
   cases e2:PyFlat.rows k q.2 with
   | none=>rw[e2] at h;cases h
   | some u=>
    rw[e2] at h
    cases h
    rw[List.length_cons,Zrl k q.2 u.1 u.2 e2]
theorem Zwc {p:Int} {r t:List Int} {c:List (List Int)} (h:PyFlat.call PyKh317.shape (p::r)=some (c,t)):PyKh317.whole c=c:=by
 have h:(match PyKh317.shape p with
  | none=>none
  | some (n,k)=>if r.length<n then none else match PyFlat.rows k (r.drop n) with
   | none=>none
   | some (xs,t)=>some ((p::r.take n)::xs,t))=some (c,t):=h
 cases hs:PyKh317.shape p with
 | none=>rw[hs] at h;cases h
 | some q=>
  rw[hs] at h
  have h:(if r.length<q.1 then none else match PyFlat.rows q.2 (r.drop q.1) with
   | none=>none
   | some (xs,t)=>some ((p::r.take q.1)::xs,t))=some (c,t):=h
  by_cases hn:r.length<q.1
  ·rw[if_pos hn] at h;cases h
  rw[if_neg hn] at h
  cases e:PyFlat.rows q.2 (r.drop q.1) with
  | none=>rw[e] at h;cases h
  | some u=>
   rw[e] at h
   cases h
   exact Zwq hs (by rw[List.length_take];omega) (Zrl _ _ _ _ e)
theorem OM :∀(f:Nat) (l:List Int) (cs:List (List (List Int))),PyFlat.calls PyKh317.shape f l=some cs→cs.map PyKh317.whole=cs
 | f,[],cs,h=>by
  have e:cs=[]:=by
   cases f<;>(have h:some []=some cs:=h;cases h;rfl)
  subst e
  rfl
 | 0,_::_,cs,h=>by cases h
 | f+1,p::r,cs,h=>by
  have h:(match PyFlat.call PyKh317.shape (p::r) with
   | none=>none
   | some (c,t)=>match PyFlat.calls PyKh317.shape f t with
    | none=>none
    | some cs=>some (c::cs))=some cs:=h
  cases hc:PyFlat.call PyKh317.shape (p::r) with
  | none=>rw[hc] at h;cases h
  | some q=>
   rw[hc] at h
   have h:(match PyFlat.calls PyKh317.shape f q.2 with
    | none=>none
    | some cs=>some (q.1::cs))=some cs:=h
   cases hcs:PyFlat.calls PyKh317.shape f q.2 with
   | none=>rw[hcs] at h;cases h
   | some cs'=>
    rw[hcs] at h
    cases h
    rw[List.map_cons,Zwc hc,OM f q.2 cs' hcs]
theorem P1 {c:Prop} [Decidable c] {x y:Option (Nat×Nat)} {n k:Nat} (h1:c→x=some (n,k)→k=0) (h2:¬c→y=some (n,k)→k=0):(if c then x else y)=some (n,k)→k=0:=by
 by_cases h:c
 ·rw[if_pos h];exact h1 h
 ·rw[if_neg h];exact h2 h
theorem Q2 {p:Int} {n k:Nat} (hp:p≠1) (h:PyKh317.shape p=some (n,k)):k=0:=by
 revert h
 unfold PyKh317.shape
 refine P1 (fun _ h=>by cases h;rfl) fun _=>?_
 refine P1 (fun e _=>absurd e hp) fun _=>?_
 repeat refine P1 (fun _ h=>by cases h;rfl) fun _=>?_
 exact fun h=>(nomatch h)
theorem Mg (p:Int) (l:List Int):Kh317Neutral.asked1 [p::l]=(decide (0≤p)&&(decide (p≤19)&&(p != 1&&(decide (l.length=Kh317Neutral.arity.getD p.toNat 9)&&Kh317Neutral.n32 l)))):=by
 simp only[Kh317Neutral.asked1]
theorem Qe (l:List Int) (j:Nat):(l.map Int.toNat).getD j 0=(l.getD j 0).toNat:=by
 rw[List.getD_eq_getElem?_getD,List.getD_eq_getElem?_getD,List.getElem?_map]
 cases l[j]?<;>rfl
theorem Om {k:Nat} {l:List Int} (h19:k≤19) (h1:k≠1):Kh317Neutral.callOf1 [(k:Int)::l]=bP k (l.map Int.toNat):=by
 refine (Nat.le_or_eq_of_le_succ h19).elim (fun h19=>?_) fun e=>by have e:k=19:=e;subst e;simp only[bP,Qe];rfl
 refine (Nat.le_or_eq_of_le_succ h19).elim (fun h19=>?_) fun e=>by have e:k=18:=e;subst e;simp only[bP,Qe];rfl
 refine (Nat.le_or_eq_of_le_succ h19).elim (fun h19=>?_) fun e=>by have e:k=17:=e;subst e;simp only[bP,Qe];rfl
 refine (Nat.le_or_eq_of_le_succ h19).elim (fun h19=>?_) fun e=>by have e:k=16:=e;subst e;simp only[bP,Qe];rfl
 refine (Nat.le_or_eq_of_le_succ h19).elim (fun h19=>?_) fun e=>by have e:k=15:=e;subst e;simp only[bP,Qe];rfl
 refine (Nat.le_or_eq_of_le_succ h19).elim (fun h19=>?_) fun e=>by have e:k=14:=e;subst e;simp only[bP,Qe];rfl
 refine (Nat.le_or_eq_of_le_succ h19).elim (fun h19=>?_) fun e=>by have e:k=13:=e;subst e;simp only[bP,Qe];rfl
 refine (Nat.le_or_eq_of_le_succ h19).elim (fun h19=>?_) fun e=>by have e:k=12:=e;subst e;simp only[bP,Qe];rfl
 refine (Nat.le_or_eq_of_le_succ h19).elim (fun h19=>?_) fun e=>by have e:k=11:=e;subst e;simp only[bP,Qe];rfl
 refine (Nat.le_or_eq_of_le_succ h19).elim (fun h19=>?_) fun e=>by have e:k=10:=e;subst e;simp only[bP,Qe];rfl
 refine (Nat.le_or_eq_of_le_succ h19).elim (fun h19=>?_) fun e=>by have e:k=9:=e;subst e;simp only[bP,Qe];rfl
 refine (Nat.le_or_eq_of_le_succ h19).elim (fun h19=>?_) fun e=>by have e:k=8:=e;subst e;simp only[bP,Qe];rfl
 refine (Nat.le_or_eq_of_le_succ h19).elim (fun h19=>?_) fun e=>by have e:k=7:=e;subst e;simp only[bP,Qe];rfl
 refine (Nat.le_or_eq_of_le_succ h19).elim (fun h19=>?_) fun e=>by have e:k=6:=e;subst e;simp only[bP,Qe];rfl
 refine (Nat.le_or_eq_of_le_succ h19).elim (fun h19=>?_) fun e=>by have e:k=5:=e;subst e;simp only[bP,Qe];rfl
 refine (Nat.le_or_eq_of_le_succ h19).elim (fun h19=>?_) fun e=>by have e:k=4:=e;subst e;simp only[bP,Qe];rfl
 refine (Nat.le_or_eq_of_le_succ h19).elim (fun h19=>?_) fun e=>by have e:k=3:=e;subst e;simp only[bP,Qe];rfl
 refine (Nat.le_or_eq_of_le_succ h19).elim (fun h19=>?_) fun e=>by have e:k=2:=e;subst e;simp only[bP,Qe];rfl
 refine (Nat.le_or_eq_of_le_succ h19).elim (fun h19=>?_) fun e=>absurd e h1
 have e:=Nat.le_zero.mp h19;subst e;simp only[bP,Qe];rfl
theorem JX {l:List Int} (h:∀x∈l,0≤x):(l.map Int.toNat).map Int.ofNat=l:=by
 rw[List.map_map]
 conv=>rhs;rw[←List.map_id l]
 refine List.map_congr_left fun x hx=>?_
 show ((x.toNat:Nat):Int)=x
 exact Int.toNat_of_nonneg (h x hx)
theorem TK (x:List Int) (xs:List (List Int)):PyFlat.told (x::xs)=(x.length:Int)::(x++PyFlat.told xs):=rfl
theorem QX {s:Option Abs} {c:List (List Int)} {k:Nat} {ms:List Nat} (h1:Kh317Neutral.callOf1 c=bP k ms) (h2:(c.getD 0 []).headD 0=(k:Int)):Kh317Neutral.step s c=((Kh317.doing s (bP k ms)).1,yt k (Kh317.doing s (bP k ms)).2):=by
 unfold Kh317Neutral.step yt
 rw[h1,h2]
noncomputable def MN :Bool×Option Abs→List (List Int)→Bool×Option Abs:=fun (x:Bool×Kh317Neutral.S) c=>(x.1&&(x.2.isSome || (c.getD 0 []).headD 9==0),(Kh317Neutral.step x.2 c).1)
theorem G7 :∀(cs:List (List (List Int))) (b:Bool) (s:Option Abs),(cs.foldl MN (b,s)).1=true→b=true
 | [],b,s,h=>h
 | c ::cs,b,s,h=>by
  have:=G7 cs (b&&(s.isSome || (c.getD 0 []).headD 9==0)) (Kh317Neutral.step s c).1 h
  rw[Bool.and_eq_true] at this
  exact this.1
theorem RK {p:Int} {r t:List Int} {c:List (List Int)} (h:PyFlat.call PyKh317.shape (p::r)=some (c,t)) (ha:Kh317Neutral.asked1 c=true) :
  ∃(k:Nat) (ms:List Nat),p=(k:Int)∧r=ms.map Int.ofNat++t∧Sq k ms∧(k=1→ms.headD 0+1=ms.length)∧Kh317Neutral.callOf1 c=bP k ms∧(c.getD 0 []).headD 0=(k:Int)∧(c.getD 0 []).headD 9=(k:Int):=by
 have h:(match PyKh317.shape p with
  | none=>none
  | some (n,k)=>if r.length<n then none else match PyFlat.rows k (r.drop n) with
   | none=>none
   | some (xs,t)=>some ((p::r.take n)::xs,t))=some (c,t):=h
 cases hs:PyKh317.shape p with
 | none=>rw[hs] at h;cases h
 | some q=>
  obtain⟨n,k⟩:=q
  rw[hs] at h
  have h:(if r.length<n then none else match PyFlat.rows k (r.drop n) with
   | none=>none
   | some (xs,t)=>some ((p::r.take n)::xs,t))=some (c,t):=h
  by_cases hn:r.length<n
  ·rw[if_pos hn] at h;cases h
  rw[if_neg hn] at h
  by_cases hp:p=1
  ·subst hp
   have e:some (0,1)=some (n,k):=hs
   cases e
   have h:(match PyFlat.rows 1 r with
    | none=>none
    | some (xs,t)=>some (((1:Int)::[])::xs,t))=some (c,t):=h
   cases r with
   | nil=>cases h
   | cons m r'=>
    by_cases hm:0≤m∧m.toNat≤r'.length
    ·have er:PyFlat.rows 1 (m::r')=some ([r'.take m.toNat],r'.drop m.toNat):=by
      show (match (if 0≤m∧m.toNat≤r'.length then some (r'.take m.toNat,r'.drop m.toNat) else none) with
       | none=>none
       | some (x,s)=>match PyFlat.rows 0 s with
        | none=>none
        | some (xs,t)=>some (x::xs,t))=_
      rw[if_pos hm]
      rfl
     rw[er] at h
     injection h with h
     injection h with h1 h2
     subst h1 h2
     have ha:Kh317Neutral.okT (r'.take m.toNat)=true:=ha
     unfold Kh317Neutral.okT at ha
     rw[Bool.and_eq_true,List.all_eq_true] at ha
     have hpos:∀x∈r'.take m.toNat,0≤x:=fun x hx=>by
      have:=ha.2 x hx
      unfold Kh317Neutral.natural at this
      rw[Bool.and_eq_true,decide_eq_true_iff] at this
      exact this.1
     refine⟨1,m.toNat::(r'.take m.toNat).map Int.toNat,rfl,?_,⟨by decide,fun _=>by rw[List.length_cons];omega,fun q=>absurd rfl q⟩,fun _=>?_,rfl,rfl,rfl⟩
     ·rw[List.map_cons,JX hpos]
      show m::r'=((m.toNat:Nat):Int)::(r'.take m.toNat++r'.drop m.toNat)
      rw[List.take_append_drop,Int.toNat_of_nonneg hm.1]
     ·rw[List.length_cons,List.length_map,List.length_take,Nat.min_eq_left hm.2]
      rfl
    ·have er:PyFlat.rows 1 (m::r')=none:=by
      show (match (if 0≤m∧m.toNat≤r'.length then some (r'.take m.toNat,r'.drop m.toNat) else none) with
       | none=>none
       | some (x,s)=>match PyFlat.rows 0 s with
        | none=>none
        | some (xs,t)=>some (x::xs,t))=_
      rw[if_neg hm]
     rw[er] at h
     cases h
  ·have ek:=Q2 hp hs
   subst ek
   have h:some ([p::r.take n],r.drop n)=some (c,t):=h
   injection h with h
   injection h with h1 h2
   subst h1 h2
   have ha:(decide (0≤p)&&(decide (p≤19)&&(p != 1&&(decide ((r.take n).length=Kh317Neutral.arity.getD p.toNat 9)&&Kh317Neutral.n32 (r.take n)))))=true:=by rw[←Mg];exact ha
   simp only[Bool.and_eq_true,decide_eq_true_iff] at ha
   obtain⟨h0,h19,_,hl,h32⟩:=ha
   unfold Kh317Neutral.n32 at h32
   rw[List.all_eq_true] at h32
   have hpos:∀x∈r.take n,0≤x:=fun x hx=>by
    have:=h32 x hx
    unfold Kh317Neutral.natural at this
    rw[Bool.and_eq_true,decide_eq_true_iff] at this
    exact this.1
   obtain⟨k,rfl⟩:∃k:Nat,p=(k:Int):=⟨p.toNat,(Int.toNat_of_nonneg h0).symm⟩
   have hk1:k≠1:=fun q=>hp (by rw[q];rfl)
   rw[Int.toNat_natCast] at hl
   refine⟨k,(r.take n).map Int.toNat,rfl,?_,⟨by omega,fun q=>absurd q hk1,fun _=>by rw[List.length_map];exact hl⟩,fun q=>absurd q hk1,Om (by omega) hk1,rfl,rfl⟩
   rw[JX hpos,List.take_append_drop]
theorem Mn :∀(f:Nat) (l:List Int) (cs:List (List (List Int))) (s:Option Abs),PyFlat.calls PyKh317.shape f l=some cs→cs.all Kh317Neutral.asked1=true→(cs.foldl MN (true,s)).1=true→Rest cs.length s l (PyFlat.told (PyFlat.played Kh317Neutral.step s cs))
 | f,[],cs,s,h,_,_=>by
  have e:cs=[]:=by
   cases f<;>(have h:some []=some cs:=h;cases h;rfl)
  subst e
  exact .nil s
 | 0,_::_,cs,s,h,_,_=>by cases h
 | f+1,p::r,cs,s,h,ha,hf=>by
  have h:(match PyFlat.call PyKh317.shape (p::r) with
   | none=>none
   | some (c,t)=>match PyFlat.calls PyKh317.shape f t with
    | none=>none
    | some cs=>some (c::cs))=some cs:=h
  cases hc:PyFlat.call PyKh317.shape (p::r) with
  | none=>rw[hc] at h;cases h
  | some q=>
   obtain⟨c,t⟩:=q
   rw[hc] at h
   have h:(match PyFlat.calls PyKh317.shape f t with
    | none=>none
    | some cs=>some (c::cs))=some cs:=h
   cases hcs:PyFlat.calls PyKh317.shape f t with
   | none=>rw[hcs] at h;cases h
   | some cs'=>
    rw[hcs] at h
    injection h with h
    subst h
    rw[List.all_cons,Bool.and_eq_true] at ha
    obtain⟨k,ms,rfl,rfl,hN,hw,e1,e2,e3⟩:=RK hc ha.1
    have es:=QX (s:=s) e1 e2
    have hf:(cs'.foldl MN (true&&(s.isSome || (c.getD 0 []).headD 9==0),(Kh317Neutral.step s c).1)).1=true:=hf
    have hb:=G7 _ _ _ hf
    rw[hb] at hf
    have ih:=Mn f t cs' (Kh317Neutral.step s c).1 hcs ha.2 hf
    have et:PyFlat.told (PyFlat.played Kh317Neutral.step s (c::cs'))=((Kh317Neutral.step s c).2.length:Int)::((Kh317Neutral.step s c).2++PyFlat.told (PyFlat.played Kh317Neutral.step (Kh317Neutral.step s c).1 cs')):=rfl
    rw[et]
    rw[es] at ih ⊢
    refine .cons hN hw (fun q=>?_) ih
    rw[q,Bool.true_and,e3] at hb
    have hb:((k:Int)==0)=true:=hb
    have:=eq_of_beq hb
    omega
theorem Q4 {l:List Int} (h:PyKh317.answers_asked l=true):∃n,n≤700∧Rest n none l (PyKh317.answers l):=by
 unfold PyKh317.answers_asked at h
 unfold PyKh317.answers
 cases hc:PyKh317.calls l with
 | none=>rw[hc] at h;cases h
 | some cs=>
  rw[hc] at h
  have h:(PyFlat.atMost 700 cs&&Kh317Neutral.asked cs)=true:=h
  unfold PyKh317.calls at hc
  cases hp:PyFlat.calls PyKh317.shape l.length l with
  | none=>rw[hp] at hc;cases hc
  | some cs'=>
   rw[hp] at hc
   have e:cs'=cs:=by
    injection hc with hc
    rw[←hc]
    exact (OM _ _ _ hp).symm
   subst e
   rw[Bool.and_eq_true] at h
   have h2:((decide (cs'.length≤700)&&cs'.all Kh317Neutral.asked1)&&(cs'.foldl MN (true,none)).1)=true:=h.2
   rw[Bool.and_eq_true,Bool.and_eq_true,decide_eq_true_iff] at h2
   exact⟨cs'.length,h2.1.1,Mn _ _ _ _ hp h2.1.2 h2.2⟩
theorem shown_le (k:Int) (an:Kh317.Ans):(Kh317Neutral.shown k an).length≤an.out.length:=by
 unfold Kh317Neutral.shown
 split
 ·exact List.length_take_le' _ _
 split
 ·exact List.length_take_le' _ _
 ·exact Nat.le_refl _
theorem Mw (n:Nat) (l:List Nat):(Kh317.pad n l).length≤n+l.length:=by
 unfold Kh317.pad
 rw[List.length_append,List.length_replicate]
 omega
theorem GZ {a:Abs} (hT:Kt.Told a) (hO:a.ready=true→∃us ss,Kt.Opened a us ss) (c:Kh317.Call):(Kh317.step a c).2.out.length≤600:=by
 have z:∀{l:List Nat},l=[]→l.length≤600:=fun h=>by rw[h];exact Nat.zero_le _
 have sp:∀c,Kh317.step a c=(if a.ready then Kh317.talk a c else Kh317.told a c)→(a.ready=true→(Kh317.talk a c).2.out.length≤600)→(Kh317.step a c).2.out.length≤600:=fun c e h=>by
  rw[e]
  split
  ·exact h ‹_›
  ·exact z (Jn _ _)
 cases c with
 | begin_ p lo hi e=>
  show (if Kh317.okRange p lo hi e then (Kh317.begun p lo hi e,Kh317.say 0) else (a,Kh317.say (-22))).2.out.length≤600
  split<;>exact Nat.zero_le _
 | letters w=>
  show (match a.words[w]? with | none=>Kh317.say (-2) | some t=>⟨(t.length:Nat),t⟩:Kh317.Ans).out.length≤600
  cases e:a.words[w]? with
  | none=>exact Nat.zero_le _
  | some t=>
   have:=(Kt.pN.mp (hT.OC t (List.mem_of_getElem? e))).2.1
   show t.length≤600
   omega
 | word t=>exact sp _ rfl fun _=>Nat.zero_le _
 | place x y=>exact sp _ rfl fun _=>Nat.zero_le _
 | way x y w=>exact sp _ rfl fun _=>Nat.zero_le _
 | open_=>exact sp _ rfl fun _=>Nat.zero_le _
 | down c t=>exact sp _ rfl fun _=>z (DH _ _ _ _)
 | up c t=>exact sp _ rfl fun _=>z (DH _ _ _ _)
 | at_ t=>exact sp _ rfl fun _=>z (DW (k:=7) (ns:=[t]) (by decide) (by decide))
 | again=>exact sp _ rfl fun _=>Nat.zero_le _
 | back=>exact sp _ rfl fun _=>z (DW (k:=9) (ns:=[]) (by decide) (by decide))
 | turn=>
  refine sp _ rfl fun _=>?_
  show (match a.place with | none=>Kh317.say 0 | some q=>⟨1,[q,a.at_.from_,a.at_.to_]⟩:Kh317.Ans).out.length≤600
  split
  ·exact Nat.zero_le _
  ·show 3≤600;decide
 | may=>
  refine sp _ rfl fun hr=>?_
  obtain⟨us,ss,hO⟩:=hO hr
  show (match a.place with | none=>Kh317.say 0 | some _=>⟨(a.at_.ways.length:Nat),Kh317.pad 8 (a.at_.ways.flatMap fun w=>[w.1,(a.by_ w.1).length])⟩:Kh317.Ans).out.length≤600
  split
  ·exact Nat.zero_le _
  ·rename_i q hq
   have h4:=(hT.pl _ (jS hO hT hq).2.1).most
   have h1:=Mw 8 (a.at_.ways.flatMap fun w=>[w.1,(a.by_ w.1).length])
   rw[B0] at h1
   show (Kh317.pad 8 (a.at_.ways.flatMap fun w=>[w.1,(a.by_ w.1).length])).length≤600
   omega
 | likely=>
  refine sp _ rfl fun _=>?_
  show (match a.open_ with | []=>Kh317.say (-11) | [w]=>Kh317.say (w.1:Nat) | _=>Kh317.say (-33):Kh317.Ans).out.length≤600
  split<;>exact Nat.zero_le _
 | said k=>
  refine sp _ rfl fun _=>?_
  show (match a.said[k]? with | none=>Kh317.say (-2) | some x=>⟨0,[x.place,x.word,x.tick]⟩:Kh317.Ans).out.length≤600
  split
  ·exact Nat.zero_le _
  ·show 3≤600;decide
 | many=>exact sp _ rfl fun _=>Nat.zero_le _
 | units c=>
  refine sp _ rfl fun _=>?_
  show (if a.p≤c then Kh317.say (-22) else ⟨((a.mine c).length:Nat),[(a.mine c).headD 0,(a.mine c).getLastD 0]⟩:Kh317.Ans).out.length≤600
  split
  ·exact Nat.zero_le _
  ·show 2≤600;decide
 | lengths c w room=>
  refine sp _ rfl fun hr=>?_
  obtain⟨us,ss,hO⟩:=hO hr
  show (if a.p≤c∨a.words.length≤w then Kh317.say (-22) else if room<(Kh316.pattern (a.letters w)).length then Kh317.say (-28) else ⟨((Kh316.pattern (a.letters w)).length:Nat),(Kh316.pattern (a.letters w)).map fun k=>k * (a.mine c).headD 0⟩:Kh317.Ans).out.length≤600
  split
  ·exact Nat.zero_le _
  ·rename_i hw
   split
   ·exact Nat.zero_le _
   ·have:=(Kt.ib (wG hO hT (w:=w) (by omega))).2.2
    show ((Kh316.pattern (a.letters w)).map fun k=>k * (a.mine c).headD 0).length≤600
    rw[List.length_map]
    omega
 | states c=>
  refine sp _ rfl fun _=>?_
  show (if a.p≤c then Kh317.say (-22) else Kh317.say ((Kh317.rows a c).length:Nat)).out.length≤600
  split<;>exact Nat.zero_le _
 | part c i=>
  refine sp _ rfl fun _=>?_
  show (if a.p≤c then Kh317.say (-22) else match (Kh317.rows a c)[i]? with | none=>Kh317.say (-2) | some r=>⟨0,Kh317.rowNums r⟩).out.length≤600
  split
  ·exact Nat.zero_le _
  ·cases hr:(Kh317.rows a c)[i]? with
   | none=>exact Nat.zero_le _
   | some r=>
    have h16:r.ways.length≤256:=by
     have hm:=List.mem_of_getElem? hr
     unfold Kh317.rows at hm
     split at hm
     ·obtain⟨st,_,rfl⟩:=List.mem_map.mp hm
      unfold Kh292.rowOf Kh292.words
      rw[List.length_map]
      exact Nat.le_trans (List.length_filter_le _ _) (by rw[List.length_range];omega)
     ·cases hm
    show (Kh317.pad 35 (rk r)).length≤600
    have h1:=Mw 35 (rk r)
    rw[Er] at h1
    omega
theorem kH.short {A:Ad} {X:List Addr} {H:Hp} {dk:Addr} {o:Option Abs} (r:kH A X H dk o) (k:Int) (c:Kh317.Call):(yt k (Kh317.doing o c).2).length≤601:=by
 have main:(Kh317.doing o c).2.out.length≤600:=by
  obtain⟨ddx,st⟩:=r.st
  cases st with
  | off q=>
   show (match c with
    | .begin_ p lo hi e=>if Kh317.okRange p lo hi e then (some (Kh317.begun p lo hi e),Kh317.say 0) else (none,Kh317.say (-22))
    | _=>(none,Kh317.say (-22)):Option Abs×Kh317.Ans).2.out.length≤600
   split
   ·split<;>exact Nat.zero_le _
   ·exact Nat.zero_le _
  | FX q s t=>exact GZ s.told (fun h=>by rw[t.ready] at h;cases h) c
  | j3 q e s=>exact GZ s.r.told (fun _=>⟨_,_,s.r.j3⟩) c
 unfold yt
 rw[List.length_cons,List.length_map]
 have:=shown_le k (Kh317.doing o c).2
 omega
end
section
open Kh317 (Abs)
theorem RO {xs:List V} {i:Nat} {v:V} (h:xs[i+1]?=some v):DS xs ((i:Int)+1)=some v:=by
 have:=bt h
 rw[Int.natCast_add] at this
 exact this
theorem Ji {k:Nat} (h:k≤19):DS [V.int 4,.int 0,.int 2,.int 3,.int 0,.int 2,.int 2,.int 1,.int 0,.int 0,.int 0,.int 0,.int 0,.int 1,.int 0,.int 1,.int 3,.int 1,.int 1,.int 2] (k:Int)=some (.int ((Kh317Neutral.arity.getD k 9:Nat):Int)):=by
 refine bt ?_
 have e:=(by decide:∀k<20,([4,0,2,3,0,2,2,1,0,0,0,0,0,1,0,1,3,1,1,2]:List Nat)[k]?=some (Kh317Neutral.arity.getD k 9)) k (Nat.lt_succ_of_le h)
 show (([4,0,2,3,0,2,2,1,0,0,0,0,0,1,0,1,3,1,1,2]:List Nat).map fun n:Nat=>V.int (n:Int))[k]?=_
 rw[List.getElem?_map,e]
 rfl
noncomputable def DZ (K:PySem.W.Frag) (A:Ad):Sp:=fun vs0 H Q _=>∃(a:Addr) (xs:List V) (i k:Nat) (m:Nat),vs0=[.ref a,.int i]∧(aM K H a xs)∧(xs[i]?=some (.int k))∧(k≤19)∧(k=1→xs[i+1]?=some (.int m))∧(Q (.int (if k=1 then ((i+2+m:Nat):Int) else ((i+1+Kh317Neutral.arity.getD k 9:Nat):Int))) H)
theorem EA {P:Program} {w:World} {K:PySem.W.Frag} {mg:Str→Option Value} {base:Heap} {A:Ad} (T:Txt K mg A):bz P w K mg base gw 1 A.ic A.iw ["calls","start"] (DZ K A):=by
 refine T.t5.ok Ef (fun vs H Q E h=>?_) (fun cdv Ar outer sh H vs Q E hr h=>?_)
 ·obtain⟨_,_,_,_,_,rfl,_⟩:=h
  rfl
 ·obtain⟨a,xs,i,k,m,rfl,hs,hk,h19,hw,kk⟩:=h
  have hu:=aY hr
  have hu64:=hr.units
  refine⟨_,(ab (aT (aA cg (bw aN (pv 0) (pv 1) (fun _ _=>rfl)) (aw rfl T.E6) (aI _)) (ag (aq (bX pK (bX pK (pv 1) aH) (bw aN (pv 0) (bX pK (pv 1) aH) (fun _ _=>rfl))))) ay)
   (ag (aq (bX pK (bX pK (pv 1) aH) (bw LQ (HS rfl T.ki) (bw aN (pv 0) (pv 1) (fun _ _=>rfl)) (fun _ _=>rfl)))))),?_⟩
  try dsimp only[Of]
  by_cases hk1:k=1
  ·rw[if_pos hk1] at kk
   refine⟨_,rfl,⟨_,rfl,⟨_,_,_,_,rfl,rfl,(hs),(bt hk),(bJ ⟨_,rfl,(aL (fun h=>⟨_,rfl,⟨_,_,rfl,rfl,⟨_,rfl,⟨_,rfl,⟨_,_,rfl,rfl,⟨_,_,_,_,rfl,rfl,(hs),(RO (hw hk1)),⟨_,_,rfl,rfl,?r0⟩⟩⟩⟩⟩⟩⟩) (fun h=>⟨_,rfl,⟨_,_,rfl,rfl,⟨_,rfl,⟨_,rfl,⟨_,_,_,_,rfl,rfl,(hs),(bt hk),⟨_,_,_,_,rfl,rfl,(Bh T.g7),(Ji h19),⟨_,_,rfl,rfl,?r3⟩⟩⟩⟩⟩⟩⟩))⟩)⟩⟩⟩
   case r0=>
    have e:(i:Int)+2+(m:Int)=((i+2+m:Nat):Int):=by omega
    try dsimp only[TZ,T1,R5,T8,R4,SD,Qg,Sy,tC,T3,Vz,OU,tB,Ua,VB,T4,R9,T2,R1,VC,Lb,Sz,Ud,R7,QU,T5,R8,OV,OW,VD,VE,T9,VA,R0,Mj,Pg,rI,rU,O4,Ut,R6,O3,O2,Sa,TY,R3,T7,Nc,Nd,O0,O1,Nb,OY,OZ,OX,GR,Te,Sj,Uu,List.map_cons,List.map_nil,List.cons_append,List.nil_append,Of]
    rw[e]
    exact kk
   case r3=>omega
  ·rw[if_neg hk1] at kk
   refine⟨_,rfl,⟨_,rfl,⟨_,_,_,_,rfl,rfl,hs,bt hk,(bJ ⟨_,rfl,(aL (fun h=>?_) (fun h=>⟨_,rfl,⟨_,_,rfl,rfl,⟨_,rfl,⟨_,rfl,⟨_,_,_,_,rfl,rfl,hs,bt hk,⟨_,_,_,_,rfl,rfl,Bh T.g7,Ji h19,⟨_,_,rfl,rfl,?_⟩⟩⟩⟩⟩⟩⟩))⟩)⟩⟩⟩
   ·omega
   ·have e:(i:Int)+1+((Kh317Neutral.arity.getD k 9:Nat):Int)=((i+1+Kh317Neutral.arity.getD k 9:Nat):Int):=by omega
    try dsimp only[TZ,T1,R5,T8,R4,SD,Qg,Sy,tC,T3,Vz,OU,tB,Ua,VB,T4,R9,T2,R1,VC,Lb,Sz,Ud,R7,QU,T5,R8,OV,OW,VD,VE,T9,VA,R0,Mj,Pg,rI,rU,O4,Ut,R6,O3,O2,Sa,TY,R3,T7,Nc,Nd,O0,O1,Nb,OY,OZ,OX,GR,Te,Sj,Uu,List.map_cons,List.map_nil,List.cons_append,List.nil_append,Of]
    rw[e]
    exact kk
noncomputable def QL (A:Ad) (H0:Hp) (a dk an:Addr) (X0:List Addr) (ns:List Int) (m:Nat) (σ:L2.St) (Hc:Hp):Prop:=
 ∃(i:Nat) (o:Option Abs) (out dn:List Int) (v4 v5:Option V),σ=[some (.ref a),some (.ref dk),some (.ref an),some (.int (i:Nat)),v4,v5]∧i≤ns.length∧Rest m o (ns.drop i) out∧kH A (dk::an::X0) Hc dk o∧Hc an=some (.lst (dn.map V.int))∧PyKh317.answers ns=dn++out∧dn.length≤602 * (700 - m)∧m≤700∧∀x∈X0,∀u,H0 x=some u→Hc x=some u
theorem RF {xs:List V} {i j:Nat}:IQ xs (some ((i:Int)+1)) (some ((j:Nat):Int))=(xs.drop (min (i+1) xs.length)).take (min j xs.length - min (i+1) xs.length):=by
 unfold IQ
 have e:HT.HN xs.length 0 (some ((i:Int)+1))=min (i+1) xs.length:=by
  have:=HT.HM xs.length 0 (i+1)
  rw[Int.natCast_add] at this
  exact this
 rw[e,HT.HM]
theorem N0 (ms:List Nat):(ms.map Int.ofNat).map V.int=nats ms:=by
 rw[List.map_map]
 rfl
theorem L5 {ns:List Int} {i:Nat} {k:Int} {ms:List Nat} {L:List Int} (h:ns.drop i=k::(ms.map Int.ofNat++L)) (hi:i≤ns.length) :
  ns[i]?=some k∧ns.drop (i+1+ms.length)=L∧i+1+ms.length≤ns.length∧(∀m t,ms=m::t→ns[i+1]?=some (m:Int))∧IQ (ns.map V.int) (some ((i:Int)+1)) (some ((i+1+ms.length:Nat):Int))=nats ms:=by
 have hl:ns.length=i+1+ms.length+L.length:=by
  have:=congrArg List.length h
  rw[List.length_drop,List.length_cons,List.length_append,List.length_map] at this
  omega
 have h1:ns.drop (i+1)=ms.map Int.ofNat++L:=by
  rw[←List.drop_drop,h]
  rfl
 refine⟨?_,?_,by omega,fun m t e=>?_,?_⟩
 ·have :(ns.drop i)[0]?=some k:=by rw[h];rfl
  rw[List.getElem?_drop] at this
  exact this
 ·rw[←List.drop_drop,h1,List.drop_left' (List.length_map _)]
 ·have :(ns.drop (i+1))[0]?=some (m:Int):=by rw[h1,e];rfl
  rw[List.getElem?_drop] at this
  exact this
 ·rw[RF,List.length_map,Nat.min_eq_left (by omega),Nat.min_eq_left (by omega),←List.map_drop,h1,List.map_append,List.take_append_of_le_length (by rw[List.length_map,List.length_map];omega),List.take_of_length_le (by rw[List.length_map,List.length_map];omega),N0]
noncomputable def Lj (K:PySem.W.Frag) (A:Ad):Sp:=fun vs0 H Q _=>∃(a:Addr) (ns:List Int),vs0=[.ref a]∧(aM K H a (ns.map V.int))∧(PyKh317.answers_asked ns=true)∧(∀(H':Hp) (p:Addr),H' p=some (.lst ((PyKh317.answers ns).map V.int))→Q (.ref p) H')
theorem LF {P:Program} {w:World} {K:PySem.W.Frag} {mg:Str→Option Value} {base:Heap} {A:Ad} (T:Txt K mg A):bz P w K mg base gw 12 A.mQ A.mX ["calls"] (Lj K A):=by
 refine T.Kh.ok ky (fun vs H Q E h=>?_) (fun cdv Ar outer sh H vs Q E hr h=>?_)
 ·obtain⟨_,_,rfl,_⟩:=h
  rfl
 ·obtain⟨a,ns,rfl,hs,hask,kk⟩:=h
  have hu:=aY hr
  have hu64:=hr.units
  refine⟨_,(ab (bb (i:=1) ky.nd rfl (Or.inl rfl) (vB T.DF (Ie T) (hr.mono (by decide)) rfl T.PV T.FG .nil aK))
   (ab (bb (i:=2) ky.nd rfl (Or.inl rfl) (bB ah))
   (ab (bb (i:=3) ky.nd rfl (Or.inl rfl) aH)
   (ab (JG PassesOwn.never (aA JN (pv 3) (aD aB (by rfl) T.cw PySem.boot_len (aa (pv 0) ah)) (aI _)) (ab (bb (i:=4) ky.nd rfl (Or.inl rfl) (aW (EA T) (hr.mono (by decide)) rfl T.nz T.t5.kp T.AX .nil aK (aa (pv 0) (aa (pv 3) ah))))
   (ab (bb (i:=5) ky.nd rfl (Or.inl rfl) (aW (NN T) (hr.mono (by decide)) rfl T.As T.IK.kp T.MX .nil aK (aa (pv 1) (aa (bw aN (pv 0) (pv 3) (fun _ _=>rfl)) (aa (JI Mm (pv 0) (HR (bX pK (pv 3) aH)) (HR (pv 4))) ah)))))
   (ab (cy (g6 PySem.F.plainAttrs_list PySem.F.slot_list_append PySem.F.type_list_append bR (pv 2) (aa (aD aB (by rfl) T.cw PySem.boot_len (aa (pv 5) ah)) ah)))
   (ab (cy (g6 PySem.F.plainAttrs_list PySem.F.slot_list_extend PySem.F.type_list_extend G3 (pv 2) (aa (pv 5) ah)))
   (ag (bb (i:=3) ky.nd rfl (Or.inl rfl) (pv 4))))))))
   (ag (aq (pv 2))))))),?_⟩
  try dsimp only[Of]
  obtain⟨n,hn,hR0⟩:=Q4 hask
  obtain⟨X0,hX0l,hcal⟩:∃X0:List Addr,(∀x∈X0,∃o,H x=some o)∧∀H',(∀x∈X0,∀u,H x=some u→H' x=some u)→aM K H' a (ns.map V.int):=by
   cases e:H a with
   | none=>
    refine⟨[],fun x hx=>(nomatch hx),fun H' _=>?_⟩
    rcases hs with (h | ⟨o,h⟩) | h
    ·rw[e] at h;cases h
    ·rw[e] at h;cases h
    ·exact .inr h
   | some u=>
    refine⟨[a],fun x hx=>⟨u,by rw[List.mem_singleton.mp hx];exact e⟩,fun H' g=>?_⟩
    rcases hs with (h | ⟨o,h⟩) | h
    ·exact .inl (.inl (g a (List.mem_singleton.mpr rfl) _ h))
    ·exact .inl (.inr ⟨o,g a (List.mem_singleton.mpr rfl) _ h⟩)
    ·exact .inr h
  refine ?Ce
  case Ce=>
   refine DF fun dk ddx H1 ndk s1 hdk=>?_
   refine⟨Nat.zero_le _,fun an han=>?_⟩
   have nad:dk≠an:=ao hdk han
   have s2:ax H (upd H1 an (.lst [])):=s1.trans (aX han)
   have hXl:∀Hc:Hp,(∃u,Hc dk=some u)→(∃u,Hc an=some u)→(∀x∈X0,∀u,H x=some u→Hc x=some u)→∀x∈dk::an::X0,∃u,Hc x=some u:=fun Hc q1 q2 q3 x hx=>by
    rcases List.mem_cons.mp hx with q | hx
    ·rw[q];exact q1
    rcases List.mem_cons.mp hx with q | hx
    ·rw[q];exact q2
    obtain⟨u,e⟩:=hX0l x hx
    exact⟨u,q3 x hx u e⟩
   have nX0:an∉X0:=fun q=>by
    obtain⟨u,e⟩:=hX0l an q
    rw[s1 _ _ e] at han;cases han
   have dX0:dk∉X0:=fun q=>by
    obtain⟨u,e⟩:=hX0l dk q
    rw[e] at ndk;cases ndk
   have hdk2:upd H1 an (.lst []) dk=some (.ins A.bo ddx (cG .dh .dh)):=by rw[af nad];exact hdk
   refine⟨QL A H a dk an X0 ns,⟨n,0,none,PyKh317.answers ns,[],none,none,rfl,Nat.zero_le _,hR0,⟨hXl _ ⟨_,hdk2⟩ ⟨_,ae⟩ fun x _ u e=>s2 _ _ e,List.mem_cons_self,ddx,.off hdk2⟩,ae,rfl,Nat.zero_le _,hn,fun x _ u e=>s2 _ _ e⟩,?_⟩
   rintro m σ Hc ⟨i,o,out,dn,v4,v5,rfl,hi,hR,hD,han',hans,hlen,hm,hX⟩
   have hs':=hcal Hc hX
   try dsimp only[Of]
   refine⟨_,rfl,⟨_,rfl,⟨_,_,rfl,.inl (hs'),⟨_,_,rfl,rfl,⟨_,rfl,?KT⟩⟩⟩⟩⟩
   case KT=>
    refine aL (fun hlt=>?_) (fun hge=>?_)
    ·rw[List.length_map] at hlt
     generalize hL:ns.drop i=L at hR
     cases hR with
     | nil=>
      have:=congrArg List.length hL
      rw[List.length_drop] at this
      have :ns.length - i=0:=this
      omega
     | @cons m _ k ms L' out' hN hw hb hR'=>
      obtain⟨f1,f2,f3,f4,f5⟩:=L5 hL hi
      refine⟨QL A H a dk an X0 ns m,fun σ' H' h=>⟨m,Nat.lt_succ_self _,h⟩,?_⟩
      have hk:(ns.map V.int)[i]?=some (.int (k:Nat)):=by rw[List.getElem?_map,f1];rfl
      refine⟨_,rfl,⟨_,rfl,?zc⟩⟩
      case zc=>
       refine⟨a,ns.map V.int,i,k,ms.headD 0,rfl,hs',hk,hN.most,fun q=>?_,?_⟩
       ·have:=hN.word q
        cases ms with
        | nil=>cases this
        | cons x t=>rw[List.getElem?_map,f4 x t rfl];rfl
       have ee:(if k=1 then ((i+2+ms.headD 0:Nat):Int) else ((i+1+Kh317Neutral.arity.getD k 9:Nat):Int))=((i+1+ms.length:Nat):Int):=by
        by_cases q:k=1
        ·rw[if_pos q]
         have:=hw q
         omega
        ·rw[if_neg q,hN.rest q]
       rw[ee]
       refine⟨_,rfl,⟨_,rfl,⟨_,rfl,⟨_,_,_,_,rfl,rfl,(hs'),(bt hk),⟨_,rfl,⟨_,rfl,⟨_,_,rfl,rfl,⟨_,rfl,⟨_,rfl,⟨_,rfl,?sl3⟩⟩⟩⟩⟩⟩⟩⟩⟩⟩
       case sl3=>
        refine⟨a,ns.map V.int,rfl,hs',fun nl hnl=>?_⟩
        rw[f5]
        have s3:ax Hc (upd Hc nl (.lst (nats ms))):=aX hnl
        refine⟨dk,nl,dk::an::X0,o,k,ms,rfl,hD.same s3,ae,hN,hb,fun D H3 hDX hD3 kb hDo=>?_⟩
        have han3:=kb an (by simp) (Ne.symm nad) _ (s3 _ _ han')
        have hsh:=hD.short k (bP k ms)
        rw[NJ] at hDo
        have nDa:D≠an:=fun q=>hDX (by rw[q];simp)
        refine⟨_,rfl,⟨ty_list (aM.of han3),⟨_,rfl,⟨_,_,rfl,.inl (aM.of hDo),?ur⟩⟩⟩⟩
        case ur=>
         refine⟨_,_,_,rfl,rfl,han3,by rw[List.length_map,sizeLine_eq];omega,?_⟩
         refine⟨_,rfl,⟨ty_list (aM.of ae),⟨_,rfl,?RC⟩⟩⟩
         case RC=>
          refine⟨_,_,_,_,rfl,rfl,ae,by rw[af nDa];exact hDo,by rw[List.length_append,List.length_map,List.length_map,sizeLine_eq];show dn.length+1+_≤16777216;omega,?_⟩
          refine⟨_,rfl,?NEXT1⟩
          case NEXT1=>
           obtain⟨ud,hud⟩:=hD3.live dk (by simp)
           refine⟨i+1+ms.length,_,out',dn++((yt k (Kh317.doing o (bP k ms)).2).length:Int)::yt k (Kh317.doing o (bP k ms)).2,_,_,rfl,f3,by rw[f2];exact hR',hD3.keep (fun b u e hb=>?_) (hXl _ ⟨ud,?_⟩ ⟨_,ae⟩ ?_) (fun u e=>?_),?_,?_,?_,by omega,?_⟩
           ·have :b≠an:=fun q=>hb (by rw[q];simp)
            rw[af this,af this]
            exact e
           ·rw[af nad,af nad]
            exact hud
           ·intro x hx u e
            have :x≠an:=fun q=>nX0 (by rw[←q];exact hx)
            rw[af this,af this]
            exact kb x (by simp[hx]) (fun q=>dX0 (by rw[←q];exact hx)) _ (s3 _ _ (hX x hx u e))
           ·rw[af nad,af nad]
            exact e
           ·rw[ae,List.length_map,List.map_append,List.map_cons,List.append_assoc]
            rfl
           ·rw[hans,List.append_assoc]
            rfl
           ·rw[List.length_append,List.length_cons]
            omega
           ·intro x hx u e
            have :x≠an:=fun q=>nX0 (by rw[←q];exact hx)
            rw[af this,af this]
            exact kb x (by simp[hx]) (fun q=>dX0 (by rw[←q];exact hx)) _ (s3 _ _ (hX x hx u e))
    ·rw[List.length_map] at hge
     have :i=ns.length:=by omega
     rw[this,List.drop_length] at hR
     cases hR
     try dsimp only[Of]
     refine⟨_,rfl,?r7⟩
     case r7=>
      refine kk Hc an ?_
      rw[han',hans,List.append_nil]
end
end Kp
end
end
namespace PySem.W.Fast
def tw14484350984016277363:=0
def tw6093821295949461864:=0
def tw3589163578341626464:=0
def tw5042069755740751007:=0
def tw15474507610455324387:=0
def tw15468715783147108247:=0
def tw18370782614678604874:=0
def tw17832673996650537055:=0
def tw16488466347073930634:=0
def tw7361671244366127915:=0
def tw16093999293546605455:=0
def tw15364934011987817528:=0
def tw17182112053179386864:=0
def tw3828570714266195133:=0
def tw14168324932586312941:=0
def tw16702074694670508493:=0
def tw686761493344241221:=0
def tw17167973352735127694:=0
def tw17622689653556864805:=0
def tw558022699717194292:=0
def tw367549509416460895:=0
def tw4470065555333943100:=0
def tw1970853091619367007:=0
def tw10000576491265719343:=0
def tw13336242559965302835:=0
def tw7379586072182673362:=0
def tw16555873908542066209:=0
def tw11886754864388781476:=0
def tw15647586148227435645:=0
def tw7359357758508955316:=0
def tw8596696820395802595:=0
def tw8579915931464060618:=0
def tw5041539199264396906:=0
def tw7735391027714408008:=0
def tw15471368816069702290:=0
def tw7645018126744118100:=0
def tw17645667712443375499:=0
def tw18341246023445542505:=0
def tw8092778678096714268:=0
def tw11843014512596650847:=0
def tw8966091183724119664:=0
def tw4120119981062971854:=0
def tw11755894968476165824:=0
def tw12906815741070124161:=0
def tw1183484177320900705:=0
def tw3813000007158303942:=0
def tw4344971878133558548:=0
def tw16887333160711487932:=0
def tw1085623321574731050:=0
def tw3780466320353793223:=0
def tw914351589668804478:=0
def tw11582380996355859590:=0
def tw12999545447648181730:=0
def tw17507132300550596907:=0
def tw7121493914805089570:=0
def tw9011051692224054458:=0
def tw10553857579967153613:=0
def tw10185570670054253990:=0
def tw6383475228610395162:=0
def tw10729396383667528228:=0
def tw490310309046276215:=0
def tw7709698814315346040:=0
def tw14451938315927242517:=0
def tw7398944055360744723:=0
def tw15570745697753244625:=0
def tw2702440148332883993:=0
def tw6133518595072193451:=0
def tw4574998596434399551:=0
def tw159291953978802198:=0
def tw1447366693957800176:=0
def tw15481665507781312533:=0
def tw1708672386880550801:=0
def tw15037947538118211062:=0
def tw940542575971583041:=0
def tw14238640366180032735:=0
def tw2151461451862387567:=0
def tw17304933341858954998:=0
def tw13715937838666836011:=0
def tw13720806549137439205:=0
def tw1426577366395032303:=0
def tw16984921862240184100:=0
def tw13097751831348657977:=0
def tw14644167280248057553:=0
def tw5660751146188225208:=0
def tw10284044246131737958:=0
def tw15268557272129522864:=0
def tw3896534419577186826:=0
def tw7503670107319641690:=0
def tw17446643009107042380:=0
def tw7370406981791183334:=0
def tw16127468880330877328:=0
def tw4234167648749527140:=0
def tw18410854702124109687:=0
def tw516537589580605819:=0
def tw17923778606280350279:=0
def tw731408406214333486:=0
def tw12576792636510625571:=0
def tw144061047408425025:=0
def tw11107282011122475870:=0
def tw11714531656662043260:=0
def tw4351789888009342251:=0
def tw3346306486116733619:=0
def tw6836049593777207886:=0
def tw5234945989094381877:=0
def tw671600906334951914:=0
def tw5952820322860003071:=0
def tw10018187423397635051:=0
def tw12640279671852532623:=0
def tw10946582273840522387:=0
def tw11194312489295316378:=0
def tw14239375965565514068:=0
def tw2489242885861265502:=0
def tw10175252409094765924:=0
def tw16229987421080307333:=0
def tw16985503799555371053:=0
def tw8849791204940459547:=0
def tw11579945246479937133:=0
def tw1093966327073341427:=0
def tw10208260980555399807:=0
def tw10507100381460095344:=0
def tw3553482826112001548:=0
def tw12130054738129565455:=0
def tw2901754403450566588:=0
def tw13896645031732289284:=0
def tw8918837920847451298:=0
def tw4487062040801020203:=0
end PySem.W.Fast
namespace Kp
open PySem PySem.Spec PyProof.Rows L2
open PySem.W (Codec)
def spAns (K:PySem.W.Frag):Sp:=fun vs0 H Q _=>∃(a:Addr) (ns:List Int),vs0=[.ref a]∧(aM K H a (ns.map V.int))∧(PyKh317.answers_asked ns=true)∧(∀(H':Hp) (p:Addr),H' p=some (.lst ((PyKh317.answers ns).map V.int))→Q (.ref p) H')
theorem ok_all {P:Program} {w:World} {K:PySem.W.Frag} {mg:Str→Option Value} {base:Heap} {A:Ad} (T:Txt K mg A):bz P w K mg base gw 12 A.mQ A.mX ["calls"] (spAns K):=LF T
theorem fn_mk2 {K:PySem.W.Frag} {h:Heap} {mg:Str→Option Value} (X:K.In h) (G:h.Ns mainGlobals mg) {x:Str} {st:Stmt} {ps:List Str} {f:Addr} {od an:Option Addr} {sl:Array (Option Value)} {oc kV dc pm cd ct:Value}
  (a:PySem.W.nsIn K mainGlobals x=some (some (.ref f))) (l:K.lookup f=some ⟨oc,od,.func (PySem.W.fnOf x x (bc st) (aZ st) (ai st) .none kV dc pm an cd ct),sl⟩) (c:PySem.W.codeIn K cd x=true) (k:PySem.W.keepIn K (.ref f)=true)
  (hb:∀(kV doc pm:Value) (an:Option Addr) (cdv ct:Value) (us:List Value),us.length=ps.length→bindArgs (PySem.W.fnOf x x (bc st) (aZ st) (ai st) .none kV doc pm an cdv ct) ⟨us,[]⟩=pure (ps.zip us)) :
  ∃f fd,gq K x x st f fd∧Binds K fd ps []∧mg x=some (.ref f)∧∀(s:Shared) (us:List Value),us.length=ps.length→BindsTo s fd ⟨us,[]⟩ (ps.zip us):=by
 have F:=bM (st:=st) l c k
 exact⟨_,_,F,F.binds hb,PySem.W.mg_of X G a,fun s us hu=>.of_eq (hb _ _ _ _ _ _ us hu)⟩
end Kp
open PySem PySem.W PyProof.Rows L2 Kp
set_option maxRecDepth 100000 in
set_option maxHeartbeats 0 in
theorem PySem.Challenge.cw_keytalk_s01_answers_holds : PySem.Challenge.rw_keytalk_s01_answers.Holds := by
 w_on;k_headS;(case hw=>exact⟨[.list []],by decide +kernel,by decide +kernel⟩)
 k_fillS
 refine L2.K6 (r:=PySem.Challenge.rw_keytalk_s01_answers) (k:=12) (CX:=L2.gw) (ps:=["calls"]) (sp:=Kp.spAns) (by decide +kernel) rfl rfl ⟨rfl,by decide,by decide⟩ (fun w h Y=>PySem.W.kIn_of Y) ?F ?S (fun _ _ _ _ z=>z)
 case F=>
  intro w mg fa h Y KX G hmg
  have DO:∃t,mg "AGAIN"=some (.int 8 t):=by
   refine' bN KX G ?a
   (case a=>k_is)
  have RB:∃t,mg "AT"=some (.int 7 t):=by
   refine' bN KX G ?a
   (case a=>k_is)
  have IE:∃t,mg "BACK"=some (.int 9 t):=by
   refine' bN KX G ?a
   (case a=>k_is)
  have DN:∃t,mg "BEGIN"=some (.int 0 t):=by
   refine' bN KX G ?a
   (case a=>k_is)
  have E7:∃t,mg "BUSY"=some (.int (-16) t):=by
   refine' bN KX G ?a
   (case a=>k_is)
  obtain⟨j8,nJ,j5⟩:∃a,mg "DIGIT_SIGNS"=some (.ref a)∧KU _ a [.str "-----",.str ".----",.str "..---",.str "...--",.str "....-",.str ".....",.str "-....",.str "--...",.str "---..",.str "----."]:=by
   refine' Qb KX G ?a ?l ?z ?v
   (case a=>k_is);(case l=>k_is);(case z=>decide)
   (case v=>exact .cons ⟨_,rfl⟩ (.cons ⟨_,rfl⟩ (.cons ⟨_,rfl⟩ (.cons ⟨_,rfl⟩ (.cons ⟨_,rfl⟩ (.cons ⟨_,rfl⟩ (.cons ⟨_,rfl⟩ (.cons ⟨_,rfl⟩ (.cons ⟨_,rfl⟩ (.cons ⟨_,rfl⟩ (.nil)))))))))))
  have ID:∃t,mg "DOWN"=some (.int 5 t):=by
   refine' bN KX G ?a
   (case a=>k_is)
  have yj:∃t,mg "END"=some (.int 255 t):=by
   refine' bN KX G ?a
   (case a=>k_is)
  have jz:∃t,mg "FEWEST_PARTIES"=some (.int 2 t):=by
   refine' bN KX G ?a
   (case a=>k_is)
  have t4:∃t,mg "FULL"=some (.int (-28) t):=by
   refine' bN KX G ?a
   (case a=>k_is)
  have hE:∃t,mg "GREATEST_UNIT"=some (.int 4096 t):=by
   refine' bN KX G ?a
   (case a=>k_is)
  have xi:∃t,mg "LENGTHS"=some (.int 16 t):=by
   refine' bN KX G ?a
   (case a=>k_is)
  have xh:∃t,mg "LETTERS"=some (.int 17 t):=by
   refine' bN KX G ?a
   (case a=>k_is)
  have lT:∃t,mg "LETTER_GAP"=some (.int 3 t):=by
   refine' bN KX G ?a
   (case a=>k_is)
  obtain⟨jg,lS,jc⟩:∃a,mg "LETTER_SIGNS"=some (.ref a)∧KU _ a [.str ".-",.str "-...",.str "-.-.",.str "-..",.str ".",.str "..-.",.str "--.",.str "....",.str "..",.str ".---",.str "-.-",.str ".-..",.str "--",.str "-.",.str "---",.str ".--.",.str "--.-",.str ".-.",.str "...",.str "-",.str "..-",.str "...-",.str ".--",.str "-..-",.str "-.--",.str "--.."]:=by
   refine' Qb KX G ?a ?l ?z ?v
   (case a=>k_is);(case l=>k_is);(case z=>decide)
   (case v=>exact .cons ⟨_,rfl⟩ (.cons ⟨_,rfl⟩ (.cons ⟨_,rfl⟩ (.cons ⟨_,rfl⟩ (.cons ⟨_,rfl⟩ (.cons ⟨_,rfl⟩ (.cons ⟨_,rfl⟩ (.cons ⟨_,rfl⟩ (.cons ⟨_,rfl⟩ (.cons ⟨_,rfl⟩ (.cons ⟨_,rfl⟩ (.cons ⟨_,rfl⟩ (.cons ⟨_,rfl⟩ (.cons ⟨_,rfl⟩ (.cons ⟨_,rfl⟩ (.cons ⟨_,rfl⟩ (.cons ⟨_,rfl⟩ (.cons ⟨_,rfl⟩ (.cons ⟨_,rfl⟩ (.cons ⟨_,rfl⟩ (.cons ⟨_,rfl⟩ (.cons ⟨_,rfl⟩ (.cons ⟨_,rfl⟩ (.cons ⟨_,rfl⟩ (.cons ⟨_,rfl⟩ (.cons ⟨_,rfl⟩ (.nil)))))))))))))))))))))))))))
  have AF:∃t,mg "LIKELY"=some (.int 12 t):=by
   refine' bN KX G ?a
   (case a=>k_is)
  have xg:∃t,mg "LISTENS"=some (.int 2 t):=by
   refine' bN KX G ?a
   (case a=>k_is)
  have IC:∃t,mg "LONG"=some (.int 3 t):=by
   refine' bN KX G ?a
   (case a=>k_is)
  have xf:∃t,mg "LONGEST"=some (.int 1000000 t):=by
   refine' bN KX G ?a
   (case a=>k_is)
  have IB:∃t,mg "MANY"=some (.int 14 t):=by
   refine' bN KX G ?a
   (case a=>k_is)
  have MK:∃t,mg "MAY"=some (.int 11 t):=by
   refine' bN KX G ?a
   (case a=>k_is)
  have lR:∃t,mg "MOST_LENGTHS"=some (.int 160 t):=by
   refine' bN KX G ?a
   (case a=>k_is)
  have lQ:∃t,mg "MOST_LETTERS"=some (.int 12 t):=by
   refine' bN KX G ?a
   (case a=>k_is)
  have lP:∃t,mg "MOST_PARTIES"=some (.int 8 t):=by
   refine' bN KX G ?a
   (case a=>k_is)
  have nI:∃t,mg "MOST_STATES"=some (.int 64 t):=by
   refine' bN KX G ?a
   (case a=>k_is)
  have o4:∃t,mg "MOST_WORDS"=some (.int 16 t):=by
   refine' bN KX G ?a
   (case a=>k_is)
  have g9:∃t,mg "NOTHING_THERE"=some (.int (-11) t):=by
   refine' bN KX G ?a
   (case a=>k_is)
  have kl:∃t,mg "NOTHING_TO_DO"=some (.int 0 t):=by
   refine' bN KX G ?a
   (case a=>k_is)
  have qK:∃t,mg "NOT_CLEAR"=some (.int (-71) t):=by
   refine' bN KX G ?a
   (case a=>k_is)
  have tZ:∃t,mg "NOT_OPEN"=some (.int (-6) t):=by
   refine' bN KX G ?a
   (case a=>k_is)
  have qJ:∃t,mg "NOT_WHOLE"=some (.int (-61) t):=by
   refine' bN KX G ?a
   (case a=>k_is)
  have qI:∃t,mg "NOT_YOURS"=some (.int (-1) t):=by
   refine' bN KX G ?a
   (case a=>k_is)
  have mJ:∃t,mg "NO_SUCH"=some (.int (-2) t):=by
   refine' bN KX G ?a
   (case a=>k_is)
  have IA:∃t,mg "OPEN"=some (.int 4 t):=by
   refine' bN KX G ?a
   (case a=>k_is)
  have vP:∃t,mg "OVER"=some (.int 4294967296 t):=by
   refine' bN KX G ?a
   (case a=>k_is)
  have DM:∃t,mg "PLACE"=some (.int 2 t):=by
   refine' bN KX G ?a
   (case a=>k_is)
  have g8:∃t,mg "PLACES_IN_ALL"=some (.int 32 t):=by
   refine' bN KX G ?a
   (case a=>k_is)
  have Iz:∃t,mg "SAID"=some (.int 13 t):=by
   refine' bN KX G ?a
   (case a=>k_is)
  have xc:∃t,mg "SEVERAL"=some (.int (-33) t):=by
   refine' bN KX G ?a
   (case a=>k_is)
  have AE:∃t,mg "SHORT"=some (.int 1 t):=by
   refine' bN KX G ?a
   (case a=>k_is)
  have AD:∃t,mg "SPEAKS"=some (.int 1 t):=by
   refine' bN KX G ?a
   (case a=>k_is)
  have AB:∃t,mg "STATES"=some (.int 18 t):=by
   refine' bN KX G ?a
   (case a=>k_is)
  have kj:∃t,mg "THINGS_IN_ALL"=some (.int 64 t):=by
   refine' bN KX G ?a
   (case a=>k_is)
  have lO:∃t,mg "TICKS_IN_ALL"=some (.int 2147483648 t):=by
   refine' bN KX G ?a
   (case a=>k_is)
  have pV:∃t,mg "TOO_MANY"=some (.int (-75) t):=by
   refine' bN KX G ?a
   (case a=>k_is)
  have Iy:∃t,mg "TURN"=some (.int 10 t):=by
   refine' bN KX G ?a
   (case a=>k_is)
  have DL:∃t,mg "TWICE"=some (.int (-17) t):=by
   refine' bN KX G ?a
   (case a=>k_is)
  have DK:∃t,mg "UNITS"=some (.int 15 t):=by
   refine' bN KX G ?a
   (case a=>k_is)
  have RA:∃t,mg "UP"=some (.int 6 t):=by
   refine' bN KX G ?a
   (case a=>k_is)
  have MJ:∃t,mg "WAY"=some (.int 3 t):=by
   refine' bN KX G ?a
   (case a=>k_is)
  have iR:∃t,mg "WAYS_OF_A_PLACE"=some (.int 4 t):=by
   refine' bN KX G ?a
   (case a=>k_is)
  obtain⟨hZ,ki,g7⟩:∃a,mg "WHOLE_NUMBERS"=some (.ref a)∧KU _ a [.int 4,.int 0,.int 2,.int 3,.int 0,.int 2,.int 2,.int 1,.int 0,.int 0,.int 0,.int 0,.int 0,.int 1,.int 0,.int 1,.int 3,.int 1,.int 1,.int 2]:=by
   refine' Qb KX G ?a ?l ?z ?v
   (case a=>k_is);(case l=>k_is);(case z=>decide)
   (case v=>exact .cons ⟨_,rfl⟩ (.cons ⟨_,rfl⟩ (.cons ⟨_,rfl⟩ (.cons ⟨_,rfl⟩ (.cons ⟨_,rfl⟩ (.cons ⟨_,rfl⟩ (.cons ⟨_,rfl⟩ (.cons ⟨_,rfl⟩ (.cons ⟨_,rfl⟩ (.cons ⟨_,rfl⟩ (.cons ⟨_,rfl⟩ (.cons ⟨_,rfl⟩ (.cons ⟨_,rfl⟩ (.cons ⟨_,rfl⟩ (.cons ⟨_,rfl⟩ (.cons ⟨_,rfl⟩ (.cons ⟨_,rfl⟩ (.cons ⟨_,rfl⟩ (.cons ⟨_,rfl⟩ (.cons ⟨_,rfl⟩ (.nil)))))))))))))))))))))
  have E6:∃t,mg "WORD"=some (.int 1 t):=by
   refine' bN KX G ?a
   (case a=>k_is)
  have lN:∃t,mg "WORDS_IN_ALL"=some (.int 64 t):=by
   refine' bN KX G ?a
   (case a=>k_is)
  have fA:∃t,mg "WRONG"=some (.int (-22) t):=by
   refine' bN KX G ?a
   (case a=>k_is)
  have A7:mg "all"=none:=by
   refine' PySem.W.mg_none_of KX G ?a
   (case a=>k_is)
  have gM:mg "enumerate"=none:=by
   refine' PySem.W.mg_none_of KX G ?a
   (case a=>k_is)
  have cw:mg "len"=none:=by
   refine' PySem.W.mg_none_of KX G ?a
   (case a=>k_is)
  have Hq:mg "max"=none:=by
   refine' PySem.W.mg_none_of KX G ?a
   (case a=>k_is)
  have KO:mg "min"=none:=by
   refine' PySem.W.mg_none_of KX G ?a
   (case a=>k_is)
  have A5:mg "ord"=none:=by
   refine' PySem.W.mg_none_of KX G ?a
   (case a=>k_is)
  have A4:mg "range"=none:=by
   refine' PySem.W.mg_none_of KX G ?a
   (case a=>k_is)
  have sT:mg "sorted"=none:=by
   refine' PySem.W.mg_none_of KX G ?a
   (case a=>k_is)
  have KJ:mg "sum"=none:=by
   refine' PySem.W.mg_none_of KX G ?a
   (case a=>k_is)
  have MY:mg "zip"=none:=by
   refine' PySem.W.mg_none_of KX G ?a
   (case a=>k_is)
  obtain⟨TC,kO,kY,iI,qF,gA,jb⟩:=by
   refine' RH KX G ?aC ?pg ?hd ?po ?sa ?mk ?kc ?a0 ?i0 ?l0 ?c0 ?k0 ?n0 ?n1
   (case aC=>k_is);(case pg=>k_is);(case hd=>k_is);(case po=>k_is);(case sa=>k_is);(case mk=>k_is);(case kc=>k_is);(case a0=>k_is);(case i0=>k_is);(case l0=>k_is);(case c0=>k_is);(case k0=>k_is);(case n0=>k_is);(case n1=>k_is)
  obtain⟨RU,jD,jM,eV,fg,eU,ff,bL,oY,mH,mG,cp,bQ⟩:=by
   refine' Qq KX G ?aC ?pg ?hd ?po ?sa ?mk ?kc ?a0 ?i0 ?l0 ?c0 ?k0 ?a1 ?i1 ?l1 ?c1 ?k1 ?a2 ?i2 ?l2 ?c2 ?k2 ?n0 ?n1
   (case aC=>k_is);(case pg=>k_is);(case hd=>k_is);(case po=>k_is);(case sa=>k_is);(case mk=>k_is);(case kc=>k_is);(case a0=>k_is);(case i0=>k_is);(case l0=>k_is);(case c0=>k_is);(case k0=>k_is);(case a1=>k_is);(case i1=>k_is);(case l1=>k_is);(case c1=>k_is);(case k1=>k_is);(case a2=>k_is);(case i2=>k_is);(case l2=>k_is);(case c2=>k_is);(case k2=>k_is);(case n0=>k_is);(case n1=>k_is)
  obtain⟨TH,kQ,lg,jI,jR,iu,iG,fN,fW,cH,qH,tX,rC,oy,bO,cq,eE⟩:=by
   refine' RJ KX G ?aC ?pg ?hd ?po ?sa ?mk ?kc ?a0 ?i0 ?l0 ?c0 ?k0 ?a1 ?i1 ?l1 ?c1 ?k1 ?a2 ?i2 ?l2 ?c2 ?k2 ?a3 ?i3 ?l3 ?c3 ?k3 ?n0 ?n1 ?n2
   (case aC=>k_is);(case pg=>k_is);(case hd=>k_is);(case po=>k_is);(case sa=>k_is);(case mk=>k_is);(case kc=>k_is);(case a0=>k_is);(case i0=>k_is);(case l0=>k_is);(case c0=>k_is);(case k0=>k_is);(case a1=>k_is);(case i1=>k_is);(case l1=>k_is);(case c1=>k_is);(case k1=>k_is);(case a2=>k_is);(case i2=>k_is);(case l2=>k_is);(case c2=>k_is);(case k2=>k_is);(case a3=>k_is);(case i3=>k_is);(case l3=>k_is);(case c3=>k_is);(case k3=>k_is);(case n0=>k_is);(case n1=>k_is);(case n2=>k_is)
  obtain⟨UQ,mR,mY,nO,tU,cR,cA⟩:=by
   refine' Ts KX G ?aC ?pg ?hd ?po ?sa ?mk ?kc ?a0 ?i0 ?l0 ?c0 ?k0 ?n0 ?n1
   (case aC=>k_is);(case pg=>k_is);(case hd=>k_is);(case po=>k_is);(case sa=>k_is);(case mk=>k_is);(case kc=>k_is);(case a0=>k_is);(case i0=>k_is);(case l0=>k_is);(case c0=>k_is);(case k0=>k_is);(case n0=>k_is);(case n1=>k_is)
  obtain⟨RW,jG,jP,cP,o3,bq,cT,cB⟩:=by
   refine' Qs KX G ?aC ?pg ?hd ?po ?sa ?mk ?kc ?a0 ?i0 ?l0 ?c0 ?k0 ?n0 ?n1 ?n2
   (case aC=>k_is);(case pg=>k_is);(case hd=>k_is);(case po=>k_is);(case sa=>k_is);(case mk=>k_is);(case kc=>k_is);(case a0=>k_is);(case i0=>k_is);(case l0=>k_is);(case c0=>k_is);(case k0=>k_is);(case n0=>k_is);(case n1=>k_is);(case n2=>k_is)
  obtain⟨QI,iq,iE,dw,dC,cX,cZ,dW,ed,bS,bT,dX,ef,bj,nG,kG,jW,lK,gm,lL,aO,ja,gz,br,bV,aR⟩:=by
   refine' Oj KX G ?aC ?pg ?hd ?po ?sa ?mk ?kc ?a0 ?i0 ?l0 ?c0 ?k0 ?a1 ?i1 ?l1 ?c1 ?k1 ?a2 ?i2 ?l2 ?c2 ?k2 ?a3 ?i3 ?l3 ?c3 ?k3 ?a4 ?i4 ?l4 ?c4 ?k4 ?a5 ?i5 ?l5 ?c5 ?k5 ?n0 ?n1 ?n2 ?n3 ?n4 ?n5
   (case aC=>k_is);(case pg=>k_is);(case hd=>k_is);(case po=>k_is);(case sa=>k_is);(case mk=>k_is);(case kc=>k_is);(case a0=>k_is);(case i0=>k_is);(case l0=>k_is);(case c0=>k_is);(case k0=>k_is);(case a1=>k_is);(case i1=>k_is);(case l1=>k_is);(case c1=>k_is);(case k1=>k_is);(case a2=>k_is);(case i2=>k_is);(case l2=>k_is);(case c2=>k_is);(case k2=>k_is);(case a3=>k_is);(case i3=>k_is);(case l3=>k_is);(case c3=>k_is);(case k3=>k_is);(case a4=>k_is);(case i4=>k_is);(case l4=>k_is);(case c4=>k_is);(case k4=>k_is);(case a5=>k_is);(case i5=>k_is);(case l5=>k_is);(case c5=>k_is);(case k5=>k_is);(case n0=>k_is);(case n1=>k_is);(case n2=>k_is);(case n3=>k_is);(case n4=>k_is);(case n5=>k_is)
  obtain⟨RV,jE,jN,cM,oZ,gk,jq,lC,iZ⟩:=by
   refine' Qr KX G ?aC ?pg ?hd ?po ?sa ?mk ?kc ?a0 ?i0 ?l0 ?c0 ?k0 ?n0 ?n1 ?n2 ?n3
   (case aC=>k_is);(case pg=>k_is);(case hd=>k_is);(case po=>k_is);(case sa=>k_is);(case mk=>k_is);(case kc=>k_is);(case a0=>k_is);(case i0=>k_is);(case l0=>k_is);(case c0=>k_is);(case k0=>k_is);(case n0=>k_is);(case n1=>k_is);(case n2=>k_is);(case n3=>k_is)
  obtain⟨QJ,ir,iF,en,nH,eA,dH⟩:=by
   refine' Ol KX G ?aC ?pg ?hd ?po ?sa ?mk ?kc ?a0 ?i0 ?l0 ?c0 ?k0 ?n0 ?n1
   (case aC=>k_is);(case pg=>k_is);(case hd=>k_is);(case po=>k_is);(case sa=>k_is);(case mk=>k_is);(case kc=>k_is);(case a0=>k_is);(case i0=>k_is);(case l0=>k_is);(case c0=>k_is);(case k0=>k_is);(case n0=>k_is);(case n1=>k_is)
  obtain⟨TB,kL,kU,ip,iD,cJ,cK,du,dA,fL,fU,kM,kW,pj,pC,cW,cY,fM,fV,gE,gI,dv,dB,mS,mZ,pk,pD,jF,jO,kN,kX,aP,qE,rB,jd,kE,ow,vN,BW,jV,ox,pU,kF,y8,BX,tV,vO,aG,bD,cS,bK,fk,cI,gU⟩:=by
   refine' RG KX G ?aC ?pg ?hd ?po ?sa ?mk ?kc ?a0 ?i0 ?l0 ?c0 ?k0 ?a1 ?i1 ?l1 ?c1 ?k1 ?a2 ?i2 ?l2 ?c2 ?k2 ?a3 ?i3 ?l3 ?c3 ?k3 ?a4 ?i4 ?l4 ?c4 ?k4 ?a5 ?i5 ?l5 ?c5 ?k5 ?a6 ?i6 ?l6 ?c6 ?k6 ?a7 ?i7 ?l7 ?c7 ?k7 ?a8 ?i8 ?l8 ?c8 ?k8 ?a9 ?i9 ?l9 ?c9 ?k9 ?a10 ?i10 ?l10 ?c10 ?k10 ?a11 ?i11 ?l11 ?c11 ?k11 ?a12 ?i12 ?l12 ?c12 ?k12 ?a13 ?i13 ?l13 ?c13 ?k13 ?a14 ?i14 ?l14 ?c14 ?k14 ?n0 ?n1 ?n2 ?n3 ?n4 ?n5 ?n6
   (case aC=>k_is);(case pg=>k_is);(case hd=>k_is);(case po=>k_is);(case sa=>k_is);(case mk=>k_is);(case kc=>k_is);(case a0=>k_is);(case i0=>k_is);(case l0=>k_is);(case c0=>k_is);(case k0=>k_is);(case a1=>k_is);(case i1=>k_is);(case l1=>k_is);(case c1=>k_is);(case k1=>k_is);(case a2=>k_is);(case i2=>k_is);(case l2=>k_is);(case c2=>k_is);(case k2=>k_is);(case a3=>k_is);(case i3=>k_is);(case l3=>k_is);(case c3=>k_is);(case k3=>k_is);(case a4=>k_is);(case i4=>k_is);(case l4=>k_is);(case c4=>k_is);(case k4=>k_is);(case a5=>k_is);(case i5=>k_is);(case l5=>k_is);(case c5=>k_is);(case k5=>k_is);(case a6=>k_is);(case i6=>k_is);(case l6=>k_is);(case c6=>k_is);(case k6=>k_is);(case a7=>k_is);(case i7=>k_is);(case l7=>k_is);(case c7=>k_is);(case k7=>k_is);(case a8=>k_is);(case i8=>k_is);(case l8=>k_is);(case c8=>k_is);(case k8=>k_is);(case a9=>k_is);(case i9=>k_is);(case l9=>k_is);(case c9=>k_is);(case k9=>k_is);(case a10=>k_is);(case i10=>k_is);(case l10=>k_is);(case c10=>k_is);(case k10=>k_is);(case a11=>k_is);(case i11=>k_is);(case l11=>k_is);(case c11=>k_is);(case k11=>k_is);(case a12=>k_is);(case i12=>k_is);(case l12=>k_is);(case c12=>k_is);(case k12=>k_is);(case a13=>k_is);(case i13=>k_is);(case l13=>k_is);(case c13=>k_is);(case k13=>k_is);(case a14=>k_is);(case i14=>k_is);(case l14=>k_is);(case c14=>k_is);(case k14=>k_is);(case n0=>k_is);(case n1=>k_is);(case n2=>k_is);(case n3=>k_is);(case n4=>k_is);(case n5=>k_is);(case n6=>k_is)
  obtain⟨TF,kP,kZ,jH,jQ,eW,fh,cG,qG,tW,mI,bI,bU⟩:=by
   refine' RI KX G ?aC ?pg ?hd ?po ?sa ?mk ?kc ?a0 ?i0 ?l0 ?c0 ?k0 ?a1 ?i1 ?l1 ?c1 ?k1 ?a2 ?i2 ?l2 ?c2 ?k2 ?n0 ?n1
   (case aC=>k_is);(case pg=>k_is);(case hd=>k_is);(case po=>k_is);(case sa=>k_is);(case mk=>k_is);(case kc=>k_is);(case a0=>k_is);(case i0=>k_is);(case l0=>k_is);(case c0=>k_is);(case k0=>k_is);(case a1=>k_is);(case i1=>k_is);(case l1=>k_is);(case c1=>k_is);(case k1=>k_is);(case a2=>k_is);(case i2=>k_is);(case l2=>k_is);(case c2=>k_is);(case k2=>k_is);(case n0=>k_is);(case n1=>k_is)
  obtain⟨jA,jJ,Ir,IX,lF⟩:=by
   refine' cC (x:="takes_part") (st:=tw) (ps:=["place","party"]) KX G ?a ?l ?c ?k ?b
   (case a=>k_is);(case l=>k_is);(case c=>k_is);(case k=>k_is);(case b=>exact fun _ _ _ _ _ _ us hl=>ln2 hl fun _ _=>rfl)
  obtain⟨sy,sH,P9,QB,Aq⟩:=by
   refine' cC (x:="bit_of") (st:=Eo) (ps:=["behind"]) KX G ?a ?l ?c ?k ?b
   (case a=>k_is);(case l=>k_is);(case c=>k_is);(case k=>k_is);(case b=>exact fun _ _ _ _ _ _ us hl=>ln1 hl fun _=>rfl)
  obtain⟨ie,iy,Gq,GA,nA⟩:=by
   refine' cC (x:="bits_behind") (st:=rb) (ps:=["place"]) KX G ?a ?l ?c ?k ?b
   (case a=>k_is);(case l=>k_is);(case c=>k_is);(case k=>k_is);(case b=>exact fun _ _ _ _ _ _ us hl=>ln1 hl fun _=>rfl)
  obtain⟨dr,dy,y4,zl,gW⟩:=by
   refine' cC (x:="gone_to_from_all") (st:=fi) (ps:=["places","party"]) KX G ?a ?l ?c ?k ?b
   (case a=>k_is);(case l=>k_is);(case c=>k_is);(case k=>k_is);(case b=>exact fun _ _ _ _ _ _ us hl=>ln2 hl fun _ _=>rfl)
  obtain⟨dt,dz,y6,zm,gX⟩:=by
   refine' cC (x:="come_to_from_all") (st:=fj) (ps:=["places","party"]) KX G ?a ?l ?c ?k ?b
   (case a=>k_is);(case l=>k_is);(case c=>k_is);(case k=>k_is);(case b=>exact fun _ _ _ _ _ _ us hl=>ln2 hl fun _ _=>rfl)
  obtain⟨eO,eZ,BP,Cn,jt⟩:=by
   refine' cC (x:="come_to_behind") (st:=mn) (ps:=["way","comes"]) KX G ?a ?l ?c ?k ?b
   (case a=>k_is);(case l=>k_is);(case c=>k_is);(case k=>k_is);(case b=>exact fun _ _ _ _ _ _ us hl=>ln2 hl fun _ _=>rfl)
  obtain⟨kJ,kS,Kc,KL,kI⟩:=by
   refine' cC (x:="places_in") (st:=qu) (ps:=["state","places"]) KX G ?a ?l ?c ?k ?b
   (case a=>k_is);(case l=>k_is);(case c=>k_is);(case k=>k_is);(case b=>exact fun _ _ _ _ _ _ us hl=>ln2 hl fun _ _=>rfl)
  obtain⟨mM,mT,LU,Mc,pR⟩:=by
   refine' cC (x:="words_at") (st:=tq) (ps:=["place"]) KX G ?a ?l ?c ?k ?b
   (case a=>k_is);(case l=>k_is);(case c=>k_is);(case k=>k_is);(case b=>exact fun _ _ _ _ _ _ us hl=>ln1 hl fun _=>rfl)
  obtain⟨mP,mW,LX,Mf,tS⟩:=by
   refine' cC (x:="is_clear") (st:=mm) (ps:=["state","places","party"]) KX G ?a ?l ?c ?k ?b
   (case a=>k_is);(case l=>k_is);(case c=>k_is);(case k=>k_is);(case b=>exact fun _ _ _ _ _ _ us hl=>ln3 hl fun _ _ _=>rfl)
  obtain⟨fH,fP,Dh,Dt,ke⟩:=by
   refine' cC (x:="states_behind") (st:=oh) (ps:=["state","places","comes"]) KX G ?a ?l ?c ?k ?b
   (case a=>k_is);(case l=>k_is);(case c=>k_is);(case k=>k_is);(case b=>exact fun _ _ _ _ _ _ us hl=>ln3 hl fun _ _ _=>rfl)
  obtain⟨eN,eY,BO,Cm,js⟩:=by
   refine' cC (x:="kind_and_other") (st:=ml) (ps:=["state","places","party"]) KX G ?a ?l ?c ?k ?b
   (case a=>k_is);(case l=>k_is);(case c=>k_is);(case k=>k_is);(case b=>exact fun _ _ _ _ _ _ us hl=>ln3 hl fun _ _ _=>rfl)
  obtain⟨sx,sG,P8,QA,Ap⟩:=by
   refine' cC (x:="row_of") (st:=En) (ps:=["state","places","party","behind","states"]) KX G ?a ?l ?c ?k ?b
   (case a=>k_is);(case l=>k_is);(case c=>k_is);(case k=>k_is);(case b=>exact fun _ _ _ _ _ _ us hl=>ln5 hl fun _ _ _ _ _=>rfl)
  obtain⟨pd,pz,N5,Ot,wZ⟩:=by
   refine' cC (x:="part_of") (st:=By) (ps:=["places","party"]) KX G ?a ?l ?c ?k ?b
   (case a=>k_is);(case l=>k_is);(case c=>k_is);(case k=>k_is);(case b=>exact fun _ _ _ _ _ _ us hl=>ln2 hl fun _ _=>rfl)
  obtain⟨gC,gG,E3,FA,lH⟩:=by
   refine' cC (x:="parts_of_all") (st:=pF) (ps:=["places","parties"]) KX G ?a ?l ?c ?k ?b
   (case a=>k_is);(case l=>k_is);(case c=>k_is);(case k=>k_is);(case b=>exact fun _ _ _ _ _ _ us hl=>ln2 hl fun _ _=>rfl)
  obtain⟨ig,iz,Gr,GB,nB⟩:=by
   refine' cC (x:="answer_turn") (st:=rf) (ps:=["talk"]) KX G ?a ?l ?c ?k ?b
   (case a=>k_is);(case l=>k_is);(case c=>k_is);(case k=>k_is);(case b=>exact fun _ _ _ _ _ _ us hl=>ln1 hl fun _=>rfl)
  obtain⟨jC,jL,Iv,IZ,oW⟩:=by
   refine' cC (x:="answer_may") (st:=tE) (ps:=["talk"]) KX G ?a ?l ?c ?k ?b
   (case a=>k_is);(case l=>k_is);(case c=>k_is);(case k=>k_is);(case b=>exact fun _ _ _ _ _ _ us hl=>ln1 hl fun _=>rfl)
  obtain⟨fK,fT,Dk,Dx,kh⟩:=by
   refine' cC (x:="answer_likely") (st:=oo) (ps:=["talk"]) KX G ?a ?l ?c ?k ?b
   (case a=>k_is);(case l=>k_is);(case c=>k_is);(case k=>k_is);(case b=>exact fun _ _ _ _ _ _ us hl=>ln1 hl fun _=>rfl)
  obtain⟨ij,iA,Gs,GC,nD⟩:=by
   refine' cC (x:="answer_said") (st:=rg) (ps:=["talk","number"]) KX G ?a ?l ?c ?k ?b
   (case a=>k_is);(case l=>k_is);(case c=>k_is);(case k=>k_is);(case b=>exact fun _ _ _ _ _ _ us hl=>ln2 hl fun _ _=>rfl)
  obtain⟨il,iC,Gv,GF,nF⟩:=by
   refine' cC (x:="answer_many") (st:=rj) (ps:=["talk"]) KX G ?a ?l ?c ?k ?b
   (case a=>k_is);(case l=>k_is);(case c=>k_is);(case k=>k_is);(case b=>exact fun _ _ _ _ _ _ us hl=>ln1 hl fun _=>rfl)
  obtain⟨gD,gH,E4,FC,lJ⟩:=by
   refine' cC (x:="answer_units") (st:=pG) (ps:=["talk","party"]) KX G ?a ?l ?c ?k ?b
   (case a=>k_is);(case l=>k_is);(case c=>k_is);(case k=>k_is);(case b=>exact fun _ _ _ _ _ _ us hl=>ln2 hl fun _ _=>rfl)
  obtain⟨eT,fe,BV,Cs,jy⟩:=by
   refine' cC (x:="answer_lengths") (st:=jj) (ps:=["talk","party","word","room"]) KX G ?a ?l ?c ?k ?b
   (case a=>k_is);(case l=>k_is);(case c=>k_is);(case k=>k_is);(case b=>exact fun _ _ _ _ _ _ us hl=>ln4 hl fun _ _ _ _=>rfl)
  obtain⟨eS,fb,BU,Cr,jx⟩:=by
   refine' cC (x:="answer_letters") (st:=mw) (ps:=["script","word"]) KX G ?a ?l ?c ?k ?b
   (case a=>k_is);(case l=>k_is);(case c=>k_is);(case k=>k_is);(case b=>exact fun _ _ _ _ _ _ us hl=>ln2 hl fun _ _=>rfl)
  obtain⟨fJ,fS,Dj,Dv,kg⟩:=by
   refine' cC (x:="answer_states") (st:=om) (ps:=["talk","party"]) KX G ?a ?l ?c ?k ?b
   (case a=>k_is);(case l=>k_is);(case c=>k_is);(case k=>k_is);(case b=>exact fun _ _ _ _ _ _ us hl=>ln2 hl fun _ _=>rfl)
  obtain⟨ik,iB,Gu,GD,nE⟩:=by
   refine' cC (x:="answer_part") (st:=rh) (ps:=["talk","party","number"]) KX G ?a ?l ?c ?k ?b
   (case a=>k_is);(case l=>k_is);(case c=>k_is);(case k=>k_is);(case b=>exact fun _ _ _ _ _ _ us hl=>ln3 hl fun _ _ _=>rfl)
  obtain⟨jB,jK,Iu,IY,lI⟩:=by
   refine' cC (x:="divided_up") (st:=tD) (ps:=["number","by"]) KX G ?a ?l ?c ?k ?b
   (case a=>k_is);(case l=>k_is);(case c=>k_is);(case k=>k_is);(case b=>exact fun _ _ _ _ _ _ us hl=>ln2 hl fun _ _=>rfl)
  obtain⟨dS,dY,Az,A3,iP⟩:=by
   refine' cC (x:="units_of_length") (st:=lu) (ps:=["units","length","times","slack"]) KX G ?a ?l ?c ?k ?b
   (case a=>k_is);(case l=>k_is);(case c=>k_is);(case k=>k_is);(case b=>exact fun _ _ _ _ _ _ us hl=>ln4 hl fun _ _ _ _=>rfl)
  obtain⟨cj,ck,u5,vd,fw⟩:=by
   refine' cC (x:="units_not_outlasted") (st:=iH) (ps:=["units","lasted","times","slack"]) KX G ?a ?l ?c ?k ?b
   (case a=>k_is);(case l=>k_is);(case c=>k_is);(case k=>k_is);(case b=>exact fun _ _ _ _ _ _ us hl=>ln4 hl fun _ _ _ _=>rfl)
  obtain⟨mO,mV,LW,Me,pS⟩:=by
   refine' cC (x:="is_digit") (st:=yO) (ps:=["byte"]) KX G ?a ?l ?c ?k ?b
   (case a=>k_is);(case l=>k_is);(case c=>k_is);(case k=>k_is);(case b=>exact fun _ _ _ _ _ _ us hl=>ln1 hl fun _=>rfl)
  obtain⟨kK,kT,Kd,KP,qC⟩:=by
   refine' cC (x:="is_letter") (st:=vz) (ps:=["byte"]) KX G ?a ?l ?c ?k ?b
   (case a=>k_is);(case l=>k_is);(case c=>k_is);(case k=>k_is);(case b=>exact fun _ _ _ _ _ _ us hl=>ln1 hl fun _=>rfl)
  obtain⟨mN,mU,LV,Md,tR⟩:=by
   refine' cC (x:="signs_of") (st:=yN) (ps:=["byte"]) KX G ?a ?l ?c ?k ?b
   (case a=>k_is);(case l=>k_is);(case c=>k_is);(case k=>k_is);(case b=>exact fun _ _ _ _ _ _ us hl=>ln1 hl fun _=>rfl)
  obtain⟨eM,eX,BN,Ck,jr⟩:=by
   refine' cC (x:="sent_of_letter") (st:=mj) (ps:=["byte"]) KX G ?a ?l ?c ?k ?b
   (case a=>k_is);(case l=>k_is);(case c=>k_is);(case k=>k_is);(case b=>exact fun _ _ _ _ _ _ us hl=>ln1 hl fun _=>rfl)
  obtain⟨gB,gF,E2,Fz,lG⟩:=by
   refine' cC (x:="sent_of_word") (st:=pE) (ps:=["letters"]) KX G ?a ?l ?c ?k ?b
   (case a=>k_is);(case l=>k_is);(case c=>k_is);(case k=>k_is);(case b=>exact fun _ _ _ _ _ _ us hl=>ln1 hl fun _=>rfl)
  obtain⟨pf,pA,N6,Ou,w8⟩:=by
   refine' cC (x:="is_word") (st:=wK) (ps:=["letters"]) KX G ?a ?l ?c ?k ?b
   (case a=>k_is);(case l=>k_is);(case c=>k_is);(case k=>k_is);(case b=>exact fun _ _ _ _ _ _ us hl=>ln1 hl fun _=>rfl)
  obtain⟨fF,fO,Dg,Ds,kd⟩:=by
   refine' cC (x:="units_of_word") (st:=og) (ps:=["pattern","came","tick","units","slack"]) KX G ?a ?l ?c ?k ?b
   (case a=>k_is);(case l=>k_is);(case c=>k_is);(case k=>k_is);(case b=>exact fun _ _ _ _ _ _ us hl=>ln5 hl fun _ _ _ _ _=>rfl)
  obtain⟨ph,pB,N7,Ov,w9⟩:=by
   refine' cC (x:="is_over") (st:=Bz) (ps:=["pattern","came","tick","units","slack"]) KX G ?a ?l ?c ?k ?b
   (case a=>k_is);(case l=>k_is);(case c=>k_is);(case k=>k_is);(case b=>exact fun _ _ _ _ _ _ us hl=>ln5 hl fun _ _ _ _ _=>rfl)
  obtain⟨fI,fQ,Di,Du,kf⟩:=by
   refine' cC (x:="begin_refusal") (st:=oj) (ps:=["parties","lo","hi","slack"]) KX G ?a ?l ?c ?k ?b
   (case a=>k_is);(case l=>k_is);(case c=>k_is);(case k=>k_is);(case b=>exact fun _ _ _ _ _ _ us hl=>ln4 hl fun _ _ _ _=>rfl)
  obtain⟨eP,e7,BQ,Co,ju⟩:=by
   refine' cC (x:="answer_telling") (st:=mq) (ps:=["desk","call","numbers"]) KX G ?a ?l ?c ?k ?b
   (case a=>k_is);(case l=>k_is);(case c=>k_is);(case k=>k_is);(case b=>exact fun _ _ _ _ _ _ us hl=>ln3 hl fun _ _ _=>rfl)
  obtain⟨eQ,e8,BR,Cp,jv⟩:=by
   refine' cC (x:="answer_talking") (st:=mr) (ps:=["talk","call","numbers"]) KX G ?a ?l ?c ?k ?b
   (case a=>k_is);(case l=>k_is);(case c=>k_is);(case k=>k_is);(case b=>exact fun _ _ _ _ _ _ us hl=>ln3 hl fun _ _ _=>rfl)
  obtain⟨eR,e9,BS,Cq,jw⟩:=by
   refine' cC (x:="answer_of_talk") (st:=mv) (ps:=["talk","call","numbers"]) KX G ?a ?l ?c ?k ?b
   (case a=>k_is);(case l=>k_is);(case c=>k_is);(case k=>k_is);(case b=>exact fun _ _ _ _ _ _ us hl=>ln3 hl fun _ _ _=>rfl)
  obtain⟨dU,dZ,AA,A6,iQ⟩:=by
   refine' cC (x:="answer_of_party") (st:=lx) (ps:=["talk","call","numbers"]) KX G ?a ?l ?c ?k ?b
   (case a=>k_is);(case l=>k_is);(case c=>k_is);(case k=>k_is);(case b=>exact fun _ _ _ _ _ _ us hl=>ln3 hl fun _ _ _=>rfl)
  obtain⟨sA,sI,Qa,QC,As⟩:=by
   refine' cC (x:="answer") (st:=Ep) (ps:=["desk","call","numbers"]) KX G ?a ?l ?c ?k ?b
   (case a=>k_is);(case l=>k_is);(case c=>k_is);(case k=>k_is);(case b=>exact fun _ _ _ _ _ _ us hl=>ln3 hl fun _ _ _=>rfl)
  obtain⟨ic,iw,Gp,Gz,nz⟩:=by
   refine' cC (x:="end_of_call") (st:=q0) (ps:=["calls","start"]) KX G ?a ?l ?c ?k ?b
   (case a=>k_is);(case l=>k_is);(case c=>k_is);(case k=>k_is);(case b=>exact fun _ _ _ _ _ _ us hl=>ln2 hl fun _ _=>rfl)
  obtain⟨mQ,mX,N8,Ow,xa,Mb⟩:=by
   refine' fn_mk2 (x:="answers") (st:=BA) (ps:=["calls"]) KX G ?a ?l ?c ?k ?b
   (case a=>k_is);(case l=>k_is);(case c=>k_is);(case k=>k_is);(case b=>exact fun _ _ _ _ _ _ us hl=>ln1 hl fun _=>rfl)
  have T:Txt _ mg ({ fo:=TC,bg:=RU,bp:=TH,eh:=UQ,bh:=RW,au:=QI,bY:=RV,bW:=QJ,aj:=TB,bo:=TF,j8:=j8,jg:=jg,hZ:=hZ,kO:=kO,kY:=kY,jA:=jA,jJ:=jJ,sy:=sy,sH:=sH,ie:=ie,iy:=iy,dr:=dr,dy:=dy,dt:=dt,dz:=dz,eO:=eO,eZ:=eZ,kJ:=kJ,kS:=kS,mM:=mM,mT:=mT,mP:=mP,mW:=mW,fH:=fH,fP:=fP,eN:=eN,eY:=eY,sx:=sx,sG:=sG,pd:=pd,pz:=pz,gC:=gC,gG:=gG,ig:=ig,iz:=iz,jC:=jC,jL:=jL,fK:=fK,fT:=fT,ij:=ij,iA:=iA,il:=il,iC:=iC,gD:=gD,gH:=gH,eT:=eT,fe:=fe,eS:=eS,fb:=fb,fJ:=fJ,fS:=fS,ik:=ik,iB:=iB,jD:=jD,jM:=jM,eV:=eV,fg:=fg,eU:=eU,ff:=ff,jB:=jB,jK:=jK,dS:=dS,dY:=dY,cj:=cj,ck:=ck,mO:=mO,mV:=mV,kK:=kK,kT:=kT,mN:=mN,mU:=mU,eM:=eM,eX:=eX,gB:=gB,gF:=gF,pf:=pf,pA:=pA,kQ:=kQ,lg:=lg,jI:=jI,jR:=jR,iu:=iu,iG:=iG,fN:=fN,fW:=fW,fF:=fF,fO:=fO,ph:=ph,pB:=pB,mR:=mR,mY:=mY,jG:=jG,jP:=jP,fI:=fI,fQ:=fQ,iq:=iq,iE:=iE,dw:=dw,dC:=dC,cX:=cX,cZ:=cZ,dW:=dW,ed:=ed,bS:=bS,bT:=bT,dX:=dX,ef:=ef,jE:=jE,jN:=jN,ir:=ir,iF:=iF,kL:=kL,kU:=kU,ip:=ip,iD:=iD,cJ:=cJ,cK:=cK,du:=du,dA:=dA,fL:=fL,fU:=fU,kM:=kM,kW:=kW,pj:=pj,pC:=pC,cW:=cW,cY:=cY,fM:=fM,fV:=fV,gE:=gE,gI:=gI,dv:=dv,dB:=dB,mS:=mS,mZ:=mZ,pk:=pk,pD:=pD,jF:=jF,jO:=jO,kN:=kN,kX:=kX,kP:=kP,kZ:=kZ,jH:=jH,jQ:=jQ,eW:=eW,fh:=fh,eP:=eP,e7:=e7,eQ:=eQ,e8:=e8,eR:=eR,e9:=e9,dU:=dU,dZ:=dZ,sA:=sA,sI:=sI,ic:=ic,iw:=iw,mQ:=mQ,mX:=mX }:Ad):={ DO:=DO,RB:=RB,IE:=IE,DN:=DN,E7:=E7,nJ:=nJ,j5:=j5,ID:=ID,yj:=yj,jz:=jz,t4:=t4,hE:=hE,xi:=xi,xh:=xh,lT:=lT,lS:=lS,jc:=jc,AF:=AF,xg:=xg,IC:=IC,xf:=xf,IB:=IB,MK:=MK,lR:=lR,lQ:=lQ,lP:=lP,nI:=nI,o4:=o4,g9:=g9,kl:=kl,qK:=qK,tZ:=tZ,qJ:=qJ,qI:=qI,mJ:=mJ,IA:=IA,vP:=vP,DM:=DM,g8:=g8,Iz:=Iz,xc:=xc,AE:=AE,AD:=AD,AB:=AB,kj:=kj,lO:=lO,pV:=pV,Iy:=Iy,DL:=DL,DK:=DK,RA:=RA,MJ:=MJ,iR:=iR,ki:=ki,g7:=g7,E6:=E6,lN:=lN,fA:=fA,A7:=A7,gM:=gM,cw:=cw,Hq:=Hq,KO:=KO,A5:=A5,A4:=A4,sT:=sT,KJ:=KJ,MY:=MY,fo:=iI.cl,ET:=iI.m,qz:=⟨iI.QP,qF.me.at_,qF.me.fn,iI.kc⟩,gA:=gA,jb:=jb,bg:=bL.cl,Au:=bL.m,j4:=⟨bL.QP,oY.me.at_,oY.me.fn,bL.kc⟩,cp:=cp,bQ:=bQ,bp:=cH.cl,EU:=cH.m,nt:=⟨cH.QP,qH.me.at_,qH.me.fn,cH.kc⟩,bO:=bO,cq:=cq,eE:=eE,eh:=nO.cl,Si:=nO.m,EN:=⟨nO.QP,tU.me.at_,tU.me.fn,nO.kc⟩,cR:=cR,cA:=cA,bh:=cP.cl,MB:=cP.m,Aj:=⟨cP.QP,o3.me.at_,o3.me.fn,cP.kc⟩,bq:=bq,cT:=cT,cB:=cB,au:=bj.cl,J3:=bj.m,wR:=⟨bj.QP,nG.me.at_,nG.me.fn,bj.kc⟩,aO:=aO,ja:=ja,gz:=gz,br:=br,bV:=bV,aR:=aR,bY:=cM.cl,MA:=cM.m,Ai:=⟨cM.QP,oZ.me.at_,oZ.me.fn,cM.kc⟩,gk:=gk,jq:=jq,lC:=lC,iZ:=iZ,bW:=en.cl,J4:=en.m,wV:=⟨en.QP,nH.me.at_,nH.me.fn,en.kc⟩,eA:=eA,dH:=dH,aj:=aP.cl,PU:=aP.m,DE:=⟨aP.QP,qE.me.at_,qE.me.fn,aP.kc⟩,aG:=aG,bD:=bD,cS:=cS,bK:=bK,fk:=fk,cI:=cI,gU:=gU,bo:=cG.cl,PV:=cG.m,DF:=⟨cG.QP,qG.me.at_,qG.me.fn,cG.kc⟩,bI:=bI,bU:=bU,Fj:=qF.fn,qd:=qF.bd,qL:=Ir,wm:=IX,lF:=lF,IJ:=P9,MW:=QB,Aq:=Aq,t8:=Gq,AY:=GA,nA:=nA,lU:=y4,qS:=zl,gW:=gW,lV:=y6,qT:=zm,gX:=gX,oB:=BP,uK:=Cn,jt:=jt,pY:=Kc,uk:=KL,kI:=kI,xj:=LU,Cg:=Mc,pR:=pR,B1:=LX,Hj:=Mf,tS:=tS,pX:=Dh,wo:=Dt,ke:=ke,oA:=BO,uJ:=Cm,js:=js,IH:=P8,MU:=QA,Ap:=Ap,E8:=N5,Kz:=Ot,wZ:=wZ,rE:=E3,yp:=FA,lH:=lH,t9:=Gr,AZ:=GB,nB:=nB,vS:=Iv,CS:=IZ,oW:=oW,p5:=Dk,wy:=Dx,kh:=kh,ub:=Gs,A0:=GC,nD:=nD,uf:=Gv,A2:=GF,nF:=nF,rF:=E4,yq:=FC,lJ:=lJ,oH:=BV,uQ:=Cs,jy:=jy,oG:=BU,uP:=Cr,jx:=jx,p0:=Dj,wu:=Dv,kg:=kg,ue:=Gu,A1:=GD,nE:=nE,CL:=oY.fn,nX:=oY.bd,uG:=mH.fn,uR:=mH.bd,qA:=mH.me,uF:=mG.fn,oK:=mG.bd,lD:=mG.me,qM:=Iu,wq:=IY,lI:=lI,mK:=Az,sR:=A3,iP:=iP,je:=u5,nW:=vd,fw:=fw,xm:=LW,Cj:=Me,pS:=pS,za:=Kd,Fx:=KP,qC:=qC,BY:=LV,Hg:=Md,tR:=tR,oz:=BN,uI:=Ck,jr:=jr,rD:=E2,yo:=Fz,lG:=lG,Fd:=N6,KG:=Ou,w8:=w8,Fm:=qH.fn,qe:=qH.bd,CQ:=tX.fn,qX:=tX.bd,ny:=tX.me,AL:=rC.fn,o5:=rC.bd,lE:=rC.me,vV:=oy.fn,wz:=oy.bd,sg:=oy.me,pW:=Dg,wk:=Ds,kd:=kd,Fe:=N7,KH:=Ov,w9:=w9,G9:=tU.fn,Hr:=tU.bd,CO:=o3.fn,CV:=o3.bd,pZ:=Di,wt:=Du,kf:=kf,AJ:=nG.fn,A9:=nG.bd,qP:=kG.fn,qW:=kG.bd,oP:=kG.me,p7:=jW.fn,qc:=jW.bd,nR:=jW.me,sC:=lK.fn,sU:=lK.bd,pP:=lK.me,kR:=gm.fn,lh:=gm.bd,jT:=gm.me,sD:=lL.fn,sV:=lL.bd,pQ:=lL.me,CM:=oZ.fn,CT:=oZ.bd,AK:=nH.fn,Ba:=nH.bd,Fg:=qE.fn,FD:=qE.bd,AI:=rB.fn,A8:=rB.bd,vH:=rB.me,oQ:=jd.fn,jX:=jd.bd,iJ:=jd.me,qN:=kE.fn,qU:=kE.bd,oN:=kE.me,vT:=ow.fn,qa:=ow.bd,mE:=ow.me,Fh:=vN.fn,FE:=vN.bd,Al:=vN.me,Ki:=BW.fn,KQ:=BW.bd,EO:=BW.me,p6:=jV.fn,p9:=jV.bd,nQ:=jV.me,vU:=ox.fn,qb:=ox.bd,mF:=ox.me,yk:=pU.fn,rK:=pU.bd,ou:=pU.me,qO:=kF.fn,qV:=kF.bd,oO:=kF.me,Ha:=y8.fn,Hs:=y8.bd,CH:=y8.me,Kj:=BX.fn,KR:=BX.bd,ER:=BX.me,CN:=tV.fn,CU:=tV.bd,yh:=tV.me,Fi:=vO.fn,FF:=vO.bd,Am:=vO.me,Fl:=qG.fn,FG:=qG.bd,CP:=tW.fn,CW:=tW.bd,yi:=tW.me,uH:=mI.fn,uS:=mI.bd,qB:=mI.me,oC:=BQ,uL:=Co,ju:=ju,oE:=BR,uN:=Cp,jv:=jv,oF:=BS,uO:=Cq,jw:=jw,mL:=AA,sS:=A6,iQ:=iQ,IK:=Qa,MX:=QC,As:=As,t5:=Gp,AX:=Gz,nz:=nz,Kh:=N8,Qy:=Ow,xa:=xa }
  have e:=hmg.symm.trans T.xa
  cases e
  exact⟨_,Mb,fun base _ _=>Kp.ok_all T⟩
 case S=>
  intro K H xs a hO hwi hask hx
  cases hx with
  | cons h1 h2=>
   cases h2
   cases h1 with
   | lst hs ha=>
    have e:=L2.MI a.1 _ ha
    subst e
    exact⟨_,a.1,rfl,hs,hask,fun H' p hp=>.lst (L2.aM.of hp) (L2.MP _)⟩
