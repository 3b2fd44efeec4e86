import PyProof.Rows.All
import Wide.All
import OpenK.AllK
import Wide.FinOn
import Lean
import PyProof.EqAt
import PyProof.EqKinds
import PyProof.TupleCall
import PyProof.NeKinds
import PyProof.SetNew
import PyProof.SetRoads
import PyProof.Rows.SetFrom
import PyProof.CollectStr
import PyProof.ZipIter
import PyProof.Rows.StrNews2
import PyProof.Rows.StrCut
import KE.KRevIter
import PyProof.MaxThree
import PySem.Challenge.RW_nearfind_k52_near
noncomputable section
set_option Elab.async false
set_option linter.all false
set_option maxRecDepth 100000
namespace L2
open PySem PySem.Spec PyProof.Rows
noncomputable abbrev Key:=Sum Int Str
noncomputable def zg7:Key->Value->Bool
 | .inl k,v=>Value.isInt k v
 | .inr x,v=>Value.isStrOf x v
noncomputable def keyH(w:World):Key->Int
 | .inl k=>hashInt k
 | .inr x=>hashStr w x
theorem zaH:∀ {k:Key} {v:Value},zg7 k v=true->(∃ i t,k=Sum.inl i/\v=Value.int i t) \/ (∃ x t,k=Sum.inr x/\v=Value.str x t)
 | .inl i,v,h=>by
  obtain⟨t,e⟩:=Value.isInt_shape (k:=i) (v:=v) h
  exact .inl ⟨i,t,rfl,e⟩
 | .inr x,v,h=>by
  obtain⟨t,e⟩:=Value.isStrOf_shape (x:=x) (v:=v) h
  exact .inr ⟨x,t,rfl,e⟩
theorem keyIs_int(i:Int)(t:Tok):zg7 (.inl i) (.int i t)=true:=by simp[zg7,Value.isInt]
theorem key_ll(a b:Int):decide ((Sum.inl a:Key)=Sum.inl b)=(a == b):=by
 by_cases e:a=b
 ·subst e;simp
 ·have h:¬ (Sum.inl a:Key)=Sum.inl b:=fun q=>e (Sum.inl.inj q)
  rw[decide_eq_false h]
  exact(beq_eq_false_iff_ne.mpr e).symm
theorem key_rr(a b:Str):decide ((Sum.inr a:Key)=Sum.inr b)=decide (a=b):=by
 by_cases e:a=b
 ·subst e;simp
 ·have h:¬ (Sum.inr a:Key)=Sum.inr b:=fun q=>e (Sum.inr.inj q)
  rw[decide_eq_false h,decide_eq_false e]
theorem key_lr(a:Int)(b:Str):decide ((Sum.inl a:Key)=Sum.inr b)=false:=decide_eq_false (fun q=>nomatch q)
theorem key_rl(a:Str)(b:Int):decide ((Sum.inr a:Key)=Sum.inl b)=false:=decide_eq_false (fun q=>nomatch q)
noncomputable def zbK(prog:Program)(w:World):PySem.KeyKind prog w Key where
 is:=zg7
 hash:=keyH w
 inj:=fun v a b ha hb=>by
  rcases zaH ha with ⟨i,t,rfl,rfl⟩ | ⟨x,t,rfl,rfl⟩
  ·rcases zaH hb with ⟨j,u,rfl,e⟩ | ⟨y,u,rfl,e⟩
   ·injection e with e1 _;rw[e1]
   ·exact nomatch e
  ·rcases zaH hb with ⟨j,u,rfl,e⟩ | ⟨y,u,rfl,e⟩
   ·exact nomatch e
   ·injection e with e1 _;rw[e1]
 byValue:=fun k v h=>by
  rcases zaH h with ⟨i,t,rfl,rfl⟩ | ⟨x,t,rfl,rfl⟩ <;> rfl
 pyHash:=fun hv h=>by
  rcases zaH hv with ⟨i,t,rfl,rfl⟩ | ⟨x,t,rfl,rfl⟩
  ·exact wpAny_pyHash_int h
  ·exact wpAny_pyHash_str h
 eqBool:=fun hu hv h=>by
  rcases zaH hu with ⟨i,t,rfl,rfl⟩ | ⟨x,t,rfl,rfl⟩
  ·rcases zaH hv with ⟨j,u,rfl,rfl⟩ | ⟨y,u,rfl,rfl⟩
   ·rw[key_ll] at h;exact wpAny_eqBool_int h
   ·rw[key_lr] at h;exact SeqAt.EqAt.int_str i t y u _ _ _ _ h
  ·rcases zaH hv with ⟨j,u,rfl,rfl⟩ | ⟨y,u,rfl,rfl⟩
   ·rw[key_rl] at h;exact SeqAt.EqAt.str_int x t j u _ _ _ _ h
   ·rw[key_rr] at h;exact wpAny_eqBool_str h
 «strs» :=fun k x t v h=>by
  rcases zaH h with ⟨i,u,rfl,e⟩ | ⟨y,u,rfl,e⟩
  ·exact nomatch e
  ·injection e with e1 _
   subst e1
   cases v <;> rfl
end L2
namespace L2
open PySem PySem.Spec PyProof.Rows
inductive V where
 | non | bl (b:Bool) | int (i:Int) | str (x:Str) | byt (b:Array UInt8) | flt (b:UInt64) | ref (a:Addr) | ty (n:String)
 deriving DecidableEq
noncomputable def RelV:V->Value->Prop
 | .non,u=>u=Value.none
 | .bl b,u=>u=Value.bool b
 | .int i,u=>∃ t,u=Value.int i t
 | .str x,u=>∃ t,u=Value.str x t
 | .byt b,u=>∃ t,u=Value.bytes b t
 | .flt b,u=>∃ t,u=Value.float b t
 | .ref a,u=>u=Value.ref a
 | .ty n,u=>u=Value.type n
noncomputable abbrev Vals:List V->List Value->Prop:=Paired RelV
theorem Vals.length{xs:List V}{us:List Value}(r:Vals xs us):xs.length=us.length:=Paired.length r
theorem Vals.get:∀ {xs:List V} {us:List Value} {i:Nat} {x:V},Vals xs us->xs[i]? = some x->∃ u,us[i]? = some u/\RelV x u
 | _,_,_,_,.nil,e=>by simp at e
 | _,_,0,_,.cons r _,e=>by simp at e;subst e;exact⟨_,rfl,r⟩
 | _,_,i+1,x,.cons _ t,e=>by
  obtain⟨u,h1,h2⟩:=Vals.get (i:=i) (x:=x) t (by simpa using e)
  exact⟨u,by simpa using h1,h2⟩
theorem Vals.set{x:V}{u:Value}(r:RelV x u):∀ {xs:List V} {us:List Value} (i:Nat),Vals xs us->Vals (xs.set i x) (us.set i u)
 | _,_,_,.nil=>.nil
 | _,_,0,.cons _ t=>.cons r t
 | _,_,i+1,.cons q t=>.cons q (Vals.set r i t)
theorem Vals.append:∀ {xs ys:List V} {us ws:List Value},Vals xs us->Vals ys ws->Vals (xs ++ ys) (us ++ ws)
 | _,_,_,_,.nil,s=>s
 | _,_,_,_,.cons r t,s=>.cons r (Vals.append t s)
theorem Vals.take:∀ {xs:List V} {us:List Value} (n:Nat),Vals xs us->Vals (xs.take n) (us.take n)
 | _,_,0,_=>.nil
 | _,_,_+1,.nil=>.nil
 | _,_,n+1,.cons r t=>.cons r (Vals.take n t)
theorem Vals.drop:∀ {xs:List V} {us:List Value} (n:Nat),Vals xs us->Vals (xs.drop n) (us.drop n)
 | _,_,0,r=>r
 | _,_,_+1,.nil=>.nil
 | _,_,n+1,.cons _ t=>Vals.drop n t
noncomputable def RelO:Option V->Option Value->Prop
 | some v,some u=>RelV v u
 | none,none=>True
 | _,_=>False
noncomputable def KV{κ:Type}:List (κ × V)->List (κ × Value)->Prop:=Paired fun(p:κ × V) (q:κ × Value)=>p.1=q.1/\RelV p.2 q.2
noncomputable def kV:Key->V
 | .inl i=>.int i
 | .inr x=>.str x
inductive HO where
  | lst (xs:List V)
  | tup (xs:List V)
  | dK (kvs:List (Key × V)) | dT (kvs:List (List Key × V))
  | set (S:Int->Bool) (n:Nat)
  | ins (C dx:Addr) (fs:List (Str × V))
  | own (x:Addr)
  | xd (fs:List (Str × V))
  | met (f x:Addr)
  | rng (lo hi:Int)
  | frz (o:Obj) (u:HO)
  | tbl (ps:Array Value)
  | ext (φ:Heap->Prop)
noncomputable abbrev Hp:=Addr->Option HO
noncomputable def upd(H:Hp)(a:Addr)(o:HO):Hp:=fun b=>if b=a then some o else H b
theorem zag{H:Hp}{a:Addr}{o:HO}:upd H a o a=some o:=by unfold upd;rw[if_pos rfl]
theorem zaj{H:Hp}{a b:Addr}{o:HO}(h:b ≠ a):upd H a o b=H b:=by unfold upd;rw[if_neg h]
theorem upd_upd{H:Hp}{a:Addr}{o u:HO}:upd (upd H a o) a u=upd H a u:=by
 funext b;unfold upd;split <;> rfl
theorem zaE{H:Hp}{a b:Addr}{o:HO}(h:H a=some o)(h':H b=none):a ≠ b:=by
 intro e;subst e;rw[h] at h';cases h'
section
variable (P:Program)(w:World)
noncomputable def TupN(h:Heap)(a:Addr)(ts:Array Value):Prop:=∃ o,h.get? a=some o/\o.cls=.type "tuple" /\ ∃ n,(o.data,o.dict)=(Data.seq ts n,none)
theorem TupN.is{h:Heap}{a:Addr}{ts:Array Value}(x:TupN h a ts):IsTup h a ts:=let⟨o,e,c,n,d⟩:=x;⟨o,e,c,n,(Prod.mk.inj d).1⟩
theorem TupN.lt{h:Heap}{a:Addr}{ts:Array Value}(x:TupN h a ts):a<h.objs.size:=x.is.lt
theorem TupN.new(h:Heap)(ts:Array Value):TupN (h.push { cls:=.type "tuple",data:=.seq ts}) h.objs.size ts:=⟨_,Heap.get?_push_size _ rfl,rfl,0,rfl⟩
instance {h:Heap}{a:Addr}{ts:Array Value}:Coe (TupN h a ts) (IsTup h a ts):=⟨TupN.is⟩
noncomputable def ObjOk(H:Hp)(h:Heap)(a:Addr):HO->Prop
 | .lst xs=>xs.length<=sizeLine/\∃ (its:List Value) (n:Nat),Vals xs its/\h.get? a=some { cls:=.type "list",data:=.seq its.toArray n}
 | .tup xs=>xs.length<=sizeLine/\∃ its:List Value,Vals xs its/\TupN h a its.toArray
 | .dK kvs=>kvs.length<=sizeLine/\(a == sysModules)=false/\∃ vs,KV kvs vs/\h.DictOf (zbK P w) a vs
 | .dT kvs=>kvs.length<=sizeLine/\(a == sysModules)=false/\∃ xs:List (List Key × Addr × Value),
   Paired (fun(p:List Key × V) (q:List Key × Addr × Value)=>p.1=q.1/\H q.2.1=some (.tup (p.1.map kV))/\RelV p.2 q.2.2) kvs xs /\
   ∃ o es ep,h.get? a=some o/\o.ExactDict/\o.data=.dict es ep/\es.toList=xs.map (entryOfKey (tupleKind (zbK P w)))/\(xs.map (·.1)).Nodup
 | .set S n=>h.SetOf (intKind P w) a S n
 | .ins C dx fs=>H dx=some (.own a)/\fs.length<=1000/\dx ≠ a/\h.get? a=some (PySem.W.instObj C dx) /\
   ∃ mA,h.Ns1 dx mA/\(∀ f,RelO (fs.lookup f) (mA f))/\PySem.Within mA (fs.map (·.1))
 | .own _=>∃ o,h.get? a=some o
 | .xd fs=>∃ mA,h.Ns1 a mA/\∀ f,RelO (fs.lookup f) (mA f)
 | .rng lo hi=>∃ t u v,h.get? a=some { cls:=.type "range",data:=.fields #[.int lo t,.int hi u,.int 1 v]}
 | .frz o u=>h.get? a=some o/\ObjOk H h a u
 | .tbl ps=>h.get? a=some { cls:=.none,data:=.fields ps}
 | .met f x=>h.get? a=some (PySem.W.methodObj (.ref f) (.ref x))
 | .ext φ=>φ h/\(∃ o,h.get? a=some o)/\∀ h1 h2:Heap,φ h1->(∀ o,h1.get? a=some o->h2.get? a=some o)->φ h2
noncomputable def HOk(H:Hp)(h:Heap):Prop:=∀ a o,H a=some o->ObjOk P w H h a o
end
section
variable {P:Program}{w:World}{H H':Hp}{h h':Heap}{a:Addr}{o:HO}
theorem ObjOk.lt(x:ObjOk P w H h a o):a<h.objs.size:=by
 cases o with
 | lst xs=>obtain⟨_,_,_,_,e⟩:=x;exact Heap.lt_size e
 | tup xs=>obtain⟨_,_,_,p⟩:=x;exact p.lt
 | dK kvs=>obtain⟨_,_,_,_,o,_,_,e,_⟩:=x;exact Heap.lt_size e
 | dT kvs=>obtain⟨_,_,_,_,o,_,_,e,_⟩:=x;exact Heap.lt_size e
 | set S n=>obtain⟨o,_,_,_,e,_⟩:=x;exact Heap.lt_size e
 | ins C dx fs=>obtain⟨_,_,_,e,_⟩:=x;exact Heap.lt_size e
 | own y=>obtain⟨_,e⟩:=x;exact Heap.lt_size e
 | xd fs=>obtain⟨_,⟨_,_,_,e,_⟩,_⟩:=x;exact Heap.lt_size e
 | rng lo hi=>obtain⟨_,_,_,e⟩:=x;exact Heap.lt_size e
 | frz ob u=>obtain⟨e,_⟩:=x;exact Heap.lt_size e
 | tbl ps=>exact Heap.lt_size (show h.get? a=some _ from x)
 | met f y=>exact Heap.lt_size (show h.get? a=some _ from x)
 | ext φ=>obtain⟨_,⟨_,e⟩,_⟩:=x;exact Heap.lt_size e
theorem Paired.mapP{α β:Type}{F G:α->β->Prop}:∀ {l₁:List α} {l₂:List β},Paired F l₁ l₂->(∀ a b,F a b->G a b)->Paired G l₁ l₂
 | _,_,.nil,_=>.nil
 | _,_,.cons r t,f=>.cons (f _ _ r) (Paired.mapP t f)
theorem ObjOk.stay(x:ObjOk P w H h a o)(k:∀ b u,(b=a \/ H b=some (.own a))->h.get? b=some u->h'.get? b=some u)
  (ho:∀ b,H b=some (.own a)->H' b=some (.own a)) (ht:∀ b xs,H b=some (.tup xs)->H' b=some (.tup xs)):ObjOk P w H' h' a o:=by
 induction o with
 | lst xs=>obtain⟨z,its,n,r,e⟩:=x;exact⟨z,its,n,r,k _ _ (.inl rfl) e⟩
 | tup xs=>obtain⟨z,its,r,ob,e,c⟩:=x;exact⟨z,its,r,ob,k _ _ (.inl rfl) e,c⟩
 | dK kvs=>obtain⟨z,y,vs,r,ob,es,ep,e,c⟩:=x;exact⟨z,y,vs,r,ob,es,ep,k _ _ (.inl rfl) e,c⟩
 | dT kvs=>
  obtain⟨z,y,xs,r,ob,es,ep,e,c⟩:=x
  exact⟨z,y,xs,Paired.mapP r fun p q z=>⟨z.1,ht _ _ z.2.1,z.2.2⟩,ob,es,ep,k _ _ (.inl rfl) e,c⟩
 | set S n=>obtain⟨ob,es,ep,t,e,c⟩:=x;exact⟨ob,es,ep,t,k _ _ (.inl rfl) e,c⟩
 | ins C dx fs=>
  obtain⟨d,z,ne,e,mA,⟨od,es,ep,e2,c⟩,r⟩:=x
  exact⟨ho _ d,z,ne,k _ _ (.inl rfl) e,mA,⟨od,es,ep,k _ _ (.inr d) e2,c⟩,r⟩
 | own y=>obtain⟨ob,e⟩:=x;exact⟨ob,k _ _ (.inl rfl) e⟩
 | xd fs=>obtain⟨mA,⟨od,es,ep,e,c⟩,r⟩:=x;exact⟨mA,⟨od,es,ep,k _ _ (.inl rfl) e,c⟩,r⟩
 | rng lo hi=>obtain⟨t,u,v,e⟩:=x;exact⟨t,u,v,k _ _ (.inl rfl) e⟩
 | frz ob u ih=>obtain⟨e,q⟩:=x;exact⟨k _ _ (.inl rfl) e,ih q⟩
 | tbl ps=>
  have e:h.get? a=some { cls:=.none,data:=.fields ps}:=x
  show h'.get? a=some { cls:=.none,data:=.fields ps}
  exact k a _ (.inl rfl) e
 | met f y=>
  have e:h.get? a=some (PySem.W.methodObj (.ref f) (.ref y)):=x
  show h'.get? a=some (PySem.W.methodObj (.ref f) (.ref y))
  exact k a _ (.inl rfl) e
 | ext φ=>obtain⟨p,⟨o,e⟩,st⟩:=x;exact⟨st _ _ p fun o q=>k _ _ (.inl rfl) q,⟨o,k _ _ (.inl rfl) e⟩,st⟩
theorem HOk.lt(x:HOk P w H h)(e:H a=some o):a<h.objs.size:=(x a o e).lt
theorem HOk.fresh(x:HOk P w H h)(e:h.objs.size<=a):H a=none:=by
 cases q:H a with
 | none=>rfl
 | some u=>exact absurd (Nat.lt_of_lt_of_le (x.lt q) e) (Nat.lt_irrefl _)
theorem HOk.kept(x:HOk P w H h)(k:∀ b u,h.get? b=some u->h'.get? b=some u):HOk P w H h':=fun a o e=>
 (x a o e).stay (fun b u _ q=>k b u q) (fun _ q=>q) fun _ _ q=>q
theorem HOk.laid(x:HOk P w H h)(k:∀ b u,h.get? b=some u->h'.get? b=some u)(hp:h.objs.size<=a)(new:ObjOk P w (upd H a o) h' a o):HOk P w (upd H a o) h':=fun b u e=>by
 have hn:=x.fresh hp
 by_cases hb:b=a
 ·subst hb;rw[zag] at e;cases e;exact new
 ·rw[zaj hb] at e
  exact(x b u e).stay (fun c v _ q=>k c v q) (fun c q=>by rw[zaj (zaE q hn)];exact q) fun c xs q=>by rw[zaj (zaE q hn)];exact q
end
noncomputable def Rd(H:Hp)(a:Addr)(u:HO):Prop:=H a=some u \/ ∃ o,H a=some (.frz o u)
theorem Rd.of{H:Hp}{a:Addr}{u:HO}(h:H a=some u):Rd H a u:=.inl h
theorem Rd.ok{P:Program}{w:World}{H:Hp}{h:Heap}{a:Addr}{u:HO}(r:Rd H a u)(x:HOk P w H h):ObjOk P w H h a u:=by
 rcases r with r | ⟨o,r⟩
 ·exact x a u r
 ·obtain⟨_,q⟩:=x a _ r
  exact q
noncomputable def Mut:Option HO->Prop
 | some (.lst _)=>True
 | some (.dK _)=>True
 | some (.dT _)=>True
 | some (.set _ _)=>True
 | some (.ins _ _ _)=>True
 | some (.ext _)=>True
 | _=>False
section
variable {P:Program}{w:World}{H:Hp}{h h':Heap}{x e:Addr}{o':HO}
theorem HOk.write(ok:HOk P w H h)(mu:Mut (H x))(he:e=x \/ H e=some (.own x))(k:∀ b u,b ≠ e->h.get? b=some u->h'.get? b=some u)(heo:∃ u,h'.get? e=some u)
  (new:ObjOk P w (upd H x o') h' x o'):HOk P w (upd H x o') h':=fun b u q=>by
 have nown:∀ c y,H c=some (.own y)->c ≠ x:=fun c y r z=>by subst z;rw[r] at mu;exact mu
 have ntup:∀ c xs,H c=some (.tup xs)->c ≠ x:=fun c xs r z=>by subst z;rw[r] at mu;exact mu
 by_cases hb:b=x
 ·subst hb;rw[zag] at q;cases q;exact new
 ·rw[zaj hb] at q
  by_cases hbe:b=e
  ·have q':H b=some (.own x):=by
    rcases he with z | z
    ·exact absurd (hbe.trans z) hb
    ·rw[hbe];exact z
   rw[q] at q';cases q'
   obtain⟨v,hv⟩:=heo
   exact⟨v,by rw[hbe];exact hv⟩
  ·refine(ok b u q).stay (fun c v hc r=>k c v ?_ r) (fun c r=>by rw[zaj (nown c b r)];exact r) fun c xs r=>by rw[zaj (ntup c xs r)];exact r
   rcases hc with rfl | hc
   ·exact hbe
   ·rintro rfl
    rcases he with z | z
    ·exact nown c b hc z
    ·rw[hc] at z;cases z;exact hb rfl
end
structure Un(fs ex:List Addr)(H H':Hp)(h h':Heap):Prop where
 keep:∀ b o,h.get? b=some o->H b=none->b ∉ fs->b ∉ ex->h'.get? b=some o
 slot:∀ b o,h.get? b=some o->H b=none->b ∈ fs->b ∉ ex->∃ sl,h'.get? b=some { o with slots:=sl}
 free:∀ b o,h.get? b=some o->H b=none->b ∉ ex->H' b=none
 there:∀ b o,h.get? b=some o->b ∉ ex->∃ o',h'.get? b=some o'
 tups:∀ b xs,H b=some (.tup xs)->H' b=some (.tup xs)
 frzs:∀ b o u,H b=some (.frz o u)->H' b=some (.frz o u)
 tbls:∀ b ps,H b=some (.tbl ps)->∃ more,H' b=some (.tbl (ps ++ more))
section
variable {fs fs' ex ex':List Addr}{H H1 H2:Hp}{h h1 h2 h':Heap}{a x e:Addr}{o:HO}
theorem Un.any(u:Un fs ex H H1 h h1){b:Addr}{ob:Obj}(q:h.get? b=some ob)(n:H b=none)(hx:b ∉ ex):∃ sl,h1.get? b=some { ob with slots:=sl}:=by
 by_cases hb:b ∈ fs
 ·exact u.slot b ob q n hb hx
 ·exact⟨ob.slots,u.keep b ob q n hb hx⟩
theorem Un.kept(k:∀ b u,h.get? b=some u->h'.get? b=some u):Un fs ex H H h h':=
 ⟨fun b ob q _ _ _=>k b ob q,fun b ob q _ _ _=>⟨ob.slots,k b ob q⟩,fun _ _ _ n _=>n,fun b ob q _=>⟨ob,k b ob q⟩,fun _ _ q=>q,fun _ _ _ q=>q,fun _ ps q=>⟨#[],by rw[q];simp⟩⟩
theorem Un.refl:Un fs ex H H h h:=Un.kept fun _ _ q=>q
theorem Un.laid(k:∀ b u,h.get? b=some u->h'.get? b=some u)(hp:h.objs.size<=a)(hn:H a=none):Un fs ex H (upd H a o) h h' where
 keep:=fun b u q _ _ _=>k b u q
 slot:=fun b u q _ _ _=>⟨u.slots,k b u q⟩
 free:=fun b u q n _=>by rw[zaj (Nat.ne_of_lt (Nat.lt_of_lt_of_le (Heap.lt_size q) hp))];exact n
 there:=fun b u q _=>⟨u,k b u q⟩
 tups:=fun b xs q=>by rw[zaj (zaE q hn)];exact q
 frzs:=fun b u xs q=>by rw[zaj (zaE q hn)];exact q
 tbls:=fun b ps q=>⟨#[],by rw[zaj (zaE q hn),q];simp⟩
theorem Un.write(mu:Mut (H x))(he:e=x \/ H e=some (.own x))(k:∀ b u,b ≠ e->h.get? b=some u->h'.get? b=some u)(heo:∃ u,h'.get? e=some u):Un fs ex H (upd H x o) h h':=by
 have hx:∀ b,H b=none->b ≠ x:=fun b n z=>by subst z;rw[n] at mu;exact mu
 have hb:∀ b,H b=none->b ≠ e:=fun b n z=>by
  subst z
  rcases he with r | r
  ·exact hx b n r
  ·rw[n] at r;cases r
 have hm:∀ b u,H b=some u->¬ Mut (some u)->b ≠ x:=fun b u q nm z=>by subst z;rw[q] at mu;exact nm mu
 refine⟨fun b u q n _ _=>k b u (hb b n) q,fun b u q n _ _=>⟨u.slots,k b u (hb b n) q⟩,fun b u q n _=>by rw[zaj (hx b n)];exact n,fun b u q _=>?_,
  fun b xs q=>by rw[zaj (hm b _ q fun z=>z)];exact q,fun b u xs q=>by rw[zaj (hm b _ q fun z=>z)];exact q,fun b ps q=>⟨#[],by rw[zaj (hm b _ q fun z=>z),q];simp⟩⟩
 by_cases hbe:b=e
 ·subst hbe;exact heo
 ·exact⟨u,k b u hbe q⟩
end
noncomputable def trk(h:Heap)(H:Hp):List Addr:=(List.range h.objs.size).filter fun a=>(H a).isSome
noncomputable def hidT(h:Heap)(H:Hp):Heap:=PySem.W.hideAll h (trk h H)
theorem hidT_size(h:Heap)(H:Hp):(hidT h H).objs.size=h.objs.size:=PySem.W.hideAll_size _ _
theorem hidT_get{h:Heap}{H:Hp}{b:Addr}{o:Obj}(e:h.get? b=some o)(n:H b=none):(hidT h H).get? b=some o:=
 PySem.W.hideAll_get _ e fun hm=>by
  have q:(H b).isSome=true:=(List.mem_filter.mp hm).2
  rw[n] at q;simp at q
theorem of_hidT{h:Heap}{H:Hp}{b:Addr}{o:Obj}(e:(hidT h H).get? b=some o):h.get? b=some o/\H b=none:=by
 have e':h.get? b=some o:=PySem.W.of_hideAll (trk h H) e
 refine⟨e',?_⟩
 cases q:H b with
 | none=>rfl
 | some x=>
  have hm:b ∈ trk h H:=List.mem_filter.mpr ⟨List.mem_range.mpr (Heap.lt_size e'),by simp[q]⟩
  have z:(hidT h H).get? b=none:=PySem.W.hideAll_none (trk h H) hm
  rw[z] at e;cases e
noncomputable def allNews(g h:Heap)(L:Addr):List (Addr × Obj):=(List.range h.objs.size).filterMap fun a=>if a=L \/ (g.get? a).isSome=true then none else (h.get? a).map fun o=>(a,o)
noncomputable def rest(g h:Heap)(L d:Addr):List (Addr × Obj):=(allNews g h L).filter fun p=>decide (p.1 ≠ d)
end L2
namespace L2
open PySem PySem.Spec PyProof.Rows
structure Mod(K:PySem.W.Frag)(mg:Str->Option Value)(base:Heap):Prop where
 kin:K.In base
 glob:base.Ns mainGlobals mg
 blt:∃ mb,base.Ns builtinsNs mb/\∀ x:Str,x ≠ "__name__" -> mb x=bootBuiltins x
 nolimit:base.NoLimit
structure Cx where
 prog:Program
 w:World
 K:PySem.W.Frag
 mg:Str->Option Value
 base:Heap
 A:Around
 N:List Str
 s₀:Shared
 H₀:Hp
 env:Env
 outer:List Env
 stack:List Env
 ex:List Addr
 fn:Str->Bool
 calm:Bool
 pn:List (Addr × Obj)
 xe:Value->Shared->Prop
noncomputable def frs(l:List Env):List Addr:=l.filterMap (·.frame)
noncomputable abbrev Cx.fs(X:Cx):List Addr:=frs X.outer
noncomputable def Vis(sc:Scope)(x:Str):Prop:=sc.names.lookup x=some .local \/ sc.names.lookup x=some .cell \/ sc.names.lookup x=some .free
noncomputable def Loc(sc:Scope)(x:Str):Prop:=sc.names.lookup x=some .local \/ sc.names.lookup x=some .cell
noncomputable def Look(env:Env)(h:Heap)(m:Str->Option Value)(x:Str)(u:Value):Prop:=
 (env.kindOf x=some .local/\m x=some u) \/ ((env.kindOf x=some .cell \/ env.kindOf x=some .free)/\∃ c,env.cells.lookup x=some c/\h.IsCell c (some u))
structure Cx.Ok(X:Cx):Prop where
 mod:Mod X.K X.mg X.base
 kind:X.env.scope.kind=.function
 glob:X.env.globals=mainGlobals
 blt:X.env.builtins=builtinsNs
 above:X.s₀.heap.objs.size<=X.env.locals
 inj:∀ x y c,X.env.cells.lookup x=some c->X.env.cells.lookup y=some c->x=y
 has:∀ x,(X.env.kindOf x=some .cell \/ X.env.kindOf x=some .free)->∃ c,X.env.cells.lookup x=some c
 cab:∀ x c,X.fn x=true->X.env.cells.lookup x=some c->X.s₀.heap.objs.size<=c
 hd:X.calm=true->X.A.handled=none
 frames:X.A.frames=some X.stack
 stk:X.stack=X.outer \/ (X.stack=X.env :: X.outer/\X.env.frame=some X.env.locals)
 exf:∀ b ∈ X.ex,b ≠ X.env.locals/\∀ x c,X.env.cells.lookup x=some c->c ≠ b
 bs:∀ b o,X.base.get? b=some o->X.s₀.heap.get? b=some o/\X.H₀ b=none
 bsz:X.base.objs.size<=X.s₀.heap.objs.size
 noex:∀ b o,X.base.get? b=some o->b ∉ X.ex
 exfs:∀ b ∈ X.ex,b ∉ X.fs
 funs:X.s₀.heap.FunFrames X.base X.outer
 frf:∀ b ∈ X.fs,X.H₀ b=none
structure Inv(X:Cx)(pins:List (Addr × Obj))(σ:List (Option V))(H:Hp)(s:Shared):Prop where
 ok:X.Ok
 os:s.os=X.s₀.os
 bare:AllBare s.gens
 base:Un X.fs X.ex X.H₀ H X.s₀.heap s.heap
 loc:∃ m,s.heap.Ns X.env.locals m/\∀ (i:Nat) (x:Str) (v:V),X.N[i]? = some x->σ[i]? = some (some v)->Vis X.env.scope x->∃ u,RelV v u/\Look X.env s.heap m x u
 cell:∀ x c,X.env.cells.lookup x=some c->∃ v,s.heap.IsCell c v
 free:H X.env.locals=none
 freeC:∀ x c,X.env.cells.lookup x=some c->H c=none
 pin:∀ p ∈ X.pn ++ pins,s.heap.get? p.1=some p.2/\H p.1=none/\p.1 ≠ X.env.locals/\p.1 ∉ X.fs/\∀ v,p.2.data ≠ .cell v
 hok:HOk X.prog X.w H s.heap
 len:σ.length=X.N.length
section
variable {X:Cx}{pins:List (Addr × Obj)}{σ:List (Option V)}{H H':Hp}{s:Shared}{h':Heap}
theorem Cx.Ok.nofr(ok:X.Ok){b:Addr}{o:Obj}(e:X.base.get? b=some o):b ∉ X.fs:=fun hb=>by
 have:=(ok.funs.mem hb).1
 rw[e] at this;cases this
theorem Inv.bs(I:Inv X pins σ H s):∀ b o,X.base.get? b=some o->s.heap.get? b=some o/\H b=none:=fun b o e=>
 ⟨I.base.keep b o (I.ok.bs b o e).1 (I.ok.bs b o e).2 (I.ok.nofr e) (I.ok.noex b o e),I.base.free b o (I.ok.bs b o e).1 (I.ok.bs b o e).2 (I.ok.noex b o e)⟩
theorem Inv.bk(I:Inv X pins σ H s):∀ b o,X.base.get? b=some o->s.heap.get? b=some o:=fun b o e=>(I.bs b o e).1
theorem Inv.mod(I:Inv X pins σ H s):Mod X.K X.mg X.base:=I.ok.mod
theorem Inv.kIn(I:Inv X pins σ H s):X.K.In s.heap:=I.ok.mod.kin.keeps I.bk
theorem Inv.lt(I:Inv X pins σ H s):X.env.locals<s.heap.objs.size:=let⟨_,hn,_⟩:=I.loc;hn.lt
theorem Inv.sz(I:Inv X pins σ H s):X.s₀.heap.objs.size<=s.heap.objs.size:=Nat.le_trans I.ok.above (Nat.le_of_lt I.lt)
theorem Inv.nofs(I:Inv X pins σ H s){a:Addr}(h:s.heap.objs.size<=a):a ∉ X.fs:=fun hb=>by
 obtain⟨_,o,ho,_⟩:=I.ok.funs.mem hb
 exact absurd (Nat.lt_of_lt_of_le (Heap.lt_size ho) (Nat.le_trans I.sz h)) (Nat.lt_irrefl _)
theorem Inv.cne(I:Inv X pins σ H s):∀ x c,X.env.cells.lookup x=some c->c ≠ X.env.locals:=fun x c e z=>by
 obtain⟨v,o,ho,hd⟩:=I.cell x c e
 obtain⟨m,⟨o',es,ep,ho',hd',_⟩,_⟩:=I.loc
 rw[z,ho'] at ho;cases ho;rw[hd'] at hd;cases hd
theorem Inv.funs(I:Inv X pins σ H s):s.heap.FunFrames X.base X.outer:=by
 have all:∀ (l:List Env),(∀ b ∈ frs l,b ∈ X.fs)->X.s₀.heap.FunFrames X.base l->s.heap.FunFrames X.base l:=by
  intro l
  induction l with
  | nil=>intro _ _;trivial
  | cons env r ih=>
   intro hs hl
   obtain⟨hk,⟨L,o,hf,hn,ho,hd⟩,hr⟩:=hl
   have hL:L ∈ X.fs:=hs L (by unfold frs;rw[List.filterMap_cons,hf];exact List.mem_cons_self)
   obtain⟨sl,e⟩:=I.base.slot L o ho (I.ok.frf L hL) hL fun z=>I.ok.exfs L z hL
   exact⟨hk,⟨L,_,hf,hn,e,hd⟩,ih (fun b hb=>hs b (by unfold frs;rw[List.filterMap_cons,hf];exact List.mem_cons_of_mem _ hb)) hr⟩
 exact all X.outer (fun _ hb=>hb) I.ok.funs
theorem Inv.stack(I:Inv X pins σ H s):s.heap.FunFrames X.base X.stack:=by
 rcases I.ok.stk with e | ⟨e,hf⟩
 ·rw[e];exact I.funs
 ·rw[e]
  obtain⟨m,hn,_⟩:=I.loc
  refine .cons (by rw[I.ok.kind];decide) hf hn ?_ I.funs
  exact Heap.get?_none_of_le (Nat.le_trans I.ok.bsz I.ok.above)
theorem Inv.stkSub(I:Inv X pins σ H s):∀ b ∈ frs X.stack,b ∈ X.env.locals :: X.fs:=fun b hb=>by
 rcases I.ok.stk with e | ⟨e,hf⟩
 ·rw[e] at hb;exact List.mem_cons_of_mem _ hb
 ·rw[e] at hb
  unfold frs at hb
  rw[List.filterMap_cons,hf] at hb
  exact hb
theorem Inv.stkFree(I:Inv X pins σ H s):∀ b ∈ frs X.stack,H b=none:=fun b hb=>by
 rcases List.mem_cons.mp (I.stkSub b hb) with e | hb
 ·rw[e];exact I.free
 ·obtain⟨_,o,ho,_⟩:=I.ok.funs.mem hb
  exact I.base.free b o ho (I.ok.frf b hb) fun z=>I.ok.exfs b z hb
theorem Inv.step{g':Array GenState}{t':Nat}{d':Drawn}{ch:List Addr}(I:Inv X pins σ H s)
  (hch:∀ b ∈ ch,(b ∈ X.ex \/ X.s₀.heap.objs.size<=b)/\b ≠ X.env.locals/\(∀ x c,X.env.cells.lookup x=some c->c ≠ b)/\∀ p ∈ X.pn ++ pins,p.1 ≠ b)
  (keep:∀ b o,b ≠ X.env.locals->b ∉ X.fs->b ∉ ch->s.heap.get? b=some o->H b=none->h'.get? b=some o)
  (slot:∀ b o,b ≠ X.env.locals->b ∈ X.fs->b ∉ ch->s.heap.get? b=some o->H b=none->∃ sl,h'.get? b=some { o with slots:=sl}) (free:∀ b o,b ∉ ch->s.heap.get? b=some o->H b=none->H' b=none)
  (there:∀ b o,b ∉ ch->s.heap.get? b=some o->∃ o',h'.get? b=some o')
  (tups:∀ b xs,H b=some (.tup xs)->H' b=some (.tup xs)) (frzs:∀ b o u,H b=some (.frz o u)->H' b=some (.frz o u)) (tbls:∀ b ps,H b=some (.tbl ps)->∃ more,H' b=some (.tbl (ps ++ more)))
  (ns:∀ m,s.heap.Ns X.env.locals m->h'.Ns X.env.locals m) (hok:HOk X.prog X.w H' h') (hg:AllBare g') :
  Inv X pins σ H' { s with heap:=h',gens:=g',drawn:=d',toks:=t'}:=by
 have neL:∀ b o,X.s₀.heap.get? b=some o->b ≠ X.env.locals:=fun b o e=>Nat.ne_of_lt (Nat.lt_of_lt_of_le (Heap.lt_size e) I.ok.above)
 have neC:∀ b o,X.s₀.heap.get? b=some o->b ∉ X.ex->b ∉ ch:=fun b o e hx hb=>by
  rcases (hch b hb).1 with z | z
  ·exact hx z
  ·exact absurd (Nat.lt_of_lt_of_le (Heap.lt_size e) z) (Nat.lt_irrefl _)
 have cellK:∀ x c,X.env.cells.lookup x=some c->∀ v,s.heap.IsCell c v->h'.IsCell c v:=fun x c e v ⟨o,ho,hd⟩=>by
  have nch:c ∉ ch:=fun z=>(hch c z).2.2.1 x c e rfl
  by_cases hc:c ∈ X.fs
  ·obtain⟨sl,q⟩:=slot c o (I.cne x c e) hc nch ho (I.freeC x c e)
   exact⟨_,q,hd⟩
  ·exact⟨o,keep c o (I.cne x c e) hc nch ho (I.freeC x c e),hd⟩
 refine⟨I.ok,I.os,hg,⟨fun b o e n hb hx=>?_,fun b o e n hb hx=>?_,fun b o e n hx=>?_,fun b o e hx=>?_,fun b xs e=>tups b xs (I.base.tups b xs e),fun b o xs e=>frzs b o xs (I.base.frzs b o xs e),fun b ps e=>?_⟩,?_,fun x c e=>?_,?_,fun x c e=>?_,fun p hp=>?_,hok,I.len⟩
 ·exact keep b o (neL b o e) hb (neC b o e hx) (I.base.keep b o e n hb hx) (I.base.free b o e n hx)
 ·obtain⟨sl,e1⟩:=I.base.slot b o e n hb hx
  obtain⟨sl',e2⟩:=slot b _ (neL b o e) hb (neC b o e hx) e1 (I.base.free b o e n hx)
  exact⟨sl',e2⟩
 ·obtain⟨o',e1⟩:=I.base.there b o e hx
  exact free b o' (neC b o e hx) e1 (I.base.free b o e n hx)
 ·obtain⟨o',e1⟩:=I.base.there b o e hx
  exact there b o' (neC b o e hx) e1
 ·obtain⟨m1,e1⟩:=I.base.tbls b ps e
  obtain⟨m2,e2⟩:=tbls b _ e1
  exact⟨m1 ++ m2,by rw[e2,Array.append_assoc]⟩
 ·obtain⟨m,hn,hl⟩:=I.loc
  refine⟨m,ns m hn,fun i x v e1 e2 e3=>?_⟩
  obtain⟨u,r,l⟩:=hl i x v e1 e2 e3
  refine⟨u,r,?_⟩
  rcases l with l | ⟨k,c,e,z⟩
  ·exact .inl l
  ·exact .inr ⟨k,c,e,cellK x c e _ z⟩
 ·obtain⟨v,z⟩:=I.cell x c e
  exact⟨v,cellK x c e v z⟩
 ·obtain⟨m,⟨o,_,_,ho,_⟩,_⟩:=I.loc
  exact free _ o (fun z=>(hch _ z).2.1 rfl) ho I.free
 ·obtain⟨v,o,ho,hd⟩:=I.cell x c e
  exact free c o (fun z=>(hch c z).2.2.1 x c e rfl) ho (I.freeC x c e)
 ·obtain⟨e,n,ne,nf,d⟩:=I.pin p hp
  have nch:p.1 ∉ ch:=fun z=>(hch p.1 z).2.2.2 p hp rfl
  exact⟨keep p.1 p.2 ne nf nch e n,free p.1 p.2 nch e n,ne,nf,d⟩
theorem Inv.un{t':Nat}(I:Inv X pins σ H s)(u:Un X.fs [] H H' s.heap h')(hok:HOk X.prog X.w H' h'):Inv X pins σ H' { s with heap:=h',toks:=t'}:=by
 obtain⟨m,⟨o,es,ep,ho,r⟩,_⟩:=id I.loc
 obtain⟨sl,hL⟩:=u.any ho I.free (by simp)
 exact I.step (g':=s.gens) (d':=s.drawn) (ch:=[]) (fun _ z=>nomatch z) (fun b o _ hb _ e n=>u.keep b o e n hb (by simp)) (fun b o _ hb _ e n=>u.slot b o e n hb (by simp)) (fun b o _ e n=>u.free b o e n (by simp)) (fun b o _ e=>u.there b o e (by simp)) u.tups u.frzs u.tbls (fun m' hm=>by
  obtain⟨o',es',ep',ho',r'⟩:=hm
  rw[ho] at ho';cases ho'
  exact⟨_,es',ep',hL,r'⟩) hok I.bare
theorem Inv.call{g':Array GenState}{t':Nat}{d':Drawn}{ch:List Addr}(I:Inv X pins σ H s)(u:Un (frs X.stack) ch H H' s.heap h')(hok:HOk X.prog X.w H' h')(hg:AllBare g')
  (hch:∀ b ∈ ch,(b ∈ X.ex \/ X.s₀.heap.objs.size<=b)/\b ≠ X.env.locals/\(∀ x c,X.env.cells.lookup x=some c->c ≠ b)/\∀ p ∈ X.pn ++ pins,p.1 ≠ b) :
  Inv X pins σ H' { s with heap:=h',gens:=g',drawn:=d',toks:=t'}:=by
 obtain⟨m,⟨o,es,ep,ho,r⟩,_⟩:=id I.loc
 obtain⟨sl,hL⟩:=u.any ho I.free fun z=>(hch _ z).2.1 rfl
 exact I.step (ch:=ch) hch (fun b o hL hb hc e n=>u.keep b o e n (fun z=>(List.mem_cons.mp (I.stkSub b z)).elim hL hb) hc) (fun b o _ _ hc e n=>u.any e n hc) (fun b o hc e n=>u.free b o e n hc) (fun b o hc e=>u.there b o e hc) u.tups u.frzs u.tbls (fun m' hm=>by
  obtain⟨o',es',ep',ho',r'⟩:=hm
  rw[ho] at ho';cases ho'
  exact⟨_,es',ep',hL,r'⟩) hok hg
theorem Inv.turned{t':Nat}{it:Addr}(I:Inv X pins σ H s)(k:∀ b o,b ≠ it->s.heap.get? b=some o->h'.get? b=some o)(hn:H it=none)(hL:it ≠ X.env.locals)
  (h1:it ∈ X.ex \/ X.s₀.heap.objs.size<=it) (h2:∀ x c,X.env.cells.lookup x=some c->c ≠ it) (h3:∀ p ∈ X.pn ++ pins,p.1 ≠ it):Inv X pins σ H { s with heap:=h',toks:=t'}:=by
 have nit:∀ b u,H b=some u->b ≠ it:=fun b u e z=>by rw[z,hn] at e;cases e
 refine I.step (g':=s.gens) (d':=s.drawn) (ch:=[it]) (fun b hb=>?_) (fun b o _ _ hc e _=>k b o (fun z=>hc (by simp[z])) e) (fun b o _ _ hc e _=>⟨o.slots,k b o (fun z=>hc (by simp[z])) e⟩) (fun _ _ _ _ n=>n)
  (fun b o hc e=>⟨o,k b o (fun z=>hc (by simp[z])) e⟩) (fun _ _ e=>e) (fun _ _ _ e=>e) (fun b ps e=>⟨#[],by rw[e];simp⟩) (fun m hm=>?_) (fun b u e=>?_) I.bare
 ·have e:b=it:=by simpa using hb
  subst e
  exact⟨h1,hL,h2,h3⟩
 ·obtain⟨o,es,ep,ho,r⟩:=hm
  exact⟨o,es,ep,k _ o (Ne.symm hL) ho,r⟩
 ·refine(I.hok b u e).stay (fun c v hc q=>k c v ?_ q) (fun _ q=>q) fun _ _ q=>q
  rcases hc with z | z
  ·rw[z];exact nit b u e
  ·exact nit c _ z
theorem Inv.tok(I:Inv X pins σ H s)(t:Nat):Inv X pins σ H { s with toks:=t}:=I.un (h':=s.heap) (t':=t) Un.refl I.hok
theorem Inv.kept{t':Nat}(I:Inv X pins σ H s)(k:∀ b u,s.heap.get? b=some u->h'.get? b=some u):Inv X pins σ H { s with heap:=h',toks:=t'}:=I.un (Un.kept k) (I.hok.kept k)
theorem Inv.laid{a:Addr}{o:HO}{t':Nat}(I:Inv X pins σ H s)(k:∀ b u,s.heap.get? b=some u->h'.get? b=some u)(hp:s.heap.objs.size<=a)(new:ObjOk X.prog X.w (upd H a o) h' a o) :
  Inv X pins σ (upd H a o) { s with heap:=h',toks:=t'}:=I.un (Un.laid k hp (I.hok.fresh hp)) (I.hok.laid k hp new)
theorem Inv.write{x e:Addr}{o:HO}{t':Nat}(I:Inv X pins σ H s)(mu:Mut (H x))(he:e=x \/ H e=some (.own x))(k:∀ b u,b ≠ e->s.heap.get? b=some u->h'.get? b=some u)(heo:∃ u,h'.get? e=some u)
  (new:ObjOk X.prog X.w (upd H x o) h' x o):Inv X pins σ (upd H x o) { s with heap:=h',toks:=t'}:=I.un (Un.write mu he k heo) (I.hok.write mu he k heo new)
theorem Inv.pins_of{pins':List (Addr × Obj)}(I:Inv X pins σ H s)(h:∀ p ∈ pins',s.heap.get? p.1=some p.2/\H p.1=none/\p.1 ≠ X.env.locals/\p.1 ∉ X.fs/\∀ v,p.2.data ≠ .cell v):Inv X pins' σ H s:=
 ⟨I.ok,I.os,I.bare,I.base,I.loc,I.cell,I.free,I.freeC,fun p hp=>(List.mem_append.mp hp).elim (fun z=>I.pin p (List.mem_append_left _ z)) (h p),I.hok,I.len⟩
theorem zf3{N:List Str}(hN:N.Nodup){i j:Nat}{x:Str}(a:N[i]? = some x)(b:N[j]? = some x):i=j:=by
 obtain⟨h1,e1⟩:=List.getElem?_eq_some_iff.mp a
 obtain⟨h2,e2⟩:=List.getElem?_eq_some_iff.mp b
 exact(List.getElem_inj hN).mp (e1.trans e2.symm)
theorem zfd{M:Model}{A:Around}{E:Value->Shared->Prop}{i:Nat}{x:Str}{v:V}{u:Value}{Q:Unit->Shared->Prop}(I:Inv X pins σ H s)(hN:X.N.Nodup)(hi:X.N[i]? = some x)(hx:Loc X.env.scope x)(r:RelV v u)
  (h:∀ s',Inv X pins (σ.set i (some v)) H s'->(∃ a,Heap.SameBut a s.heap s'.heap/\(a=X.env.locals \/ X.env.cells.lookup x=some a))->Q () s') (hf:X.fn x=true \/ X.env.scope.names.lookup x=some .local:=by first | exact .inl rfl | exact .inr rfl | assumption):wpAny M A (storeName X.env x u) Q E s:=by
 obtain⟨m,hn,hl⟩:=id I.loc
 have hcls:(X.env.scope.kind == .class || (X.env.scope.kind == .module && X.env.locals != X.env.globals))=false:=by rw[I.ok.kind];rfl
 have hiσ:i<σ.length:=by rw[I.len];exact(List.getElem?_eq_some_iff.mp hi).1
 have cne:=I.cne
 have tracked:∀ {a:Addr} {h':Heap},(∃ o,s.heap.get? a=some o/\H a=none)->Heap.SameBut a s.heap h'->HOk X.prog X.w H h':=fun {a h'} ha hs b ob e=>by
  obtain⟨_,_,hfree⟩:=ha
  refine(I.hok b ob e).stay (fun c w' hc q=>(hs.2 c ?_).trans q) (fun _ q=>q) fun _ _ q=>q
  rintro rfl
  rcases hc with rfl | hc
  ·rw[hfree] at e;cases e
  ·rw[hfree] at hc;cases hc
 rcases hx with hk | hk
 ·refine wpAny_storeName_local hk hn (fun h' hn' hs=>?_) hcls
  obtain⟨oL,_,_,hoL,_⟩:=id hn
  refine h _ ⟨I.ok,I.os,I.bare,⟨fun b o e n hb hx=>?_,fun b o e n hb hx=>?_,I.base.free,fun b o e hx=>?_,I.base.tups,I.base.frzs,I.base.tbls⟩,⟨_,hn',fun j y v' e1 e2 e3=>?_⟩,fun y c e=>?_,I.free,I.freeC,fun p hp=>?_,tracked ⟨oL,hoL,I.free⟩ hs,by simpa using I.len⟩ ⟨_,hs,.inl rfl⟩
  ·exact(hs.2 b (Nat.ne_of_lt (Nat.lt_of_lt_of_le (Heap.lt_size e) I.ok.above))).trans (I.base.keep b o e n hb hx)
  ·obtain⟨sl,e1⟩:=I.base.slot b o e n hb hx
   exact⟨sl,(hs.2 b (Nat.ne_of_lt (Nat.lt_of_lt_of_le (Heap.lt_size e) I.ok.above))).trans e1⟩
  ·obtain⟨o',e1⟩:=I.base.there b o e hx
   exact⟨o',(hs.2 b (Nat.ne_of_lt (Nat.lt_of_lt_of_le (Heap.lt_size e) I.ok.above))).trans e1⟩
  ·by_cases hj:j=i
   ·subst hj
    rw[hi] at e1;cases e1
    rw[List.getElem?_set_self hiσ] at e2
    cases e2
    exact⟨u,r,.inl ⟨hk,by simp⟩⟩
   ·rw[List.getElem?_set_ne (Ne.symm hj)] at e2
    obtain⟨u',r',q⟩:=hl j y v' e1 e2 e3
    refine⟨u',r',?_⟩
    rcases q with ⟨k,e⟩ | ⟨k,c,e,z⟩
    ·refine .inl ⟨k,?_⟩
     have:y ≠ x:=fun e=>hj (zf3 hN e1 (e ▸ hi))
     simp[this,e]
    ·exact .inr ⟨k,c,e,z.sameBut hs (cne y c e)⟩
  ·obtain⟨w',z⟩:=I.cell y c e
   exact⟨w',z.sameBut hs (cne y c e)⟩
  ·obtain⟨e,n,ne,nf,d⟩:=I.pin p hp
   exact⟨(hs.2 p.1 ne).trans e,n,ne,nf,d⟩
 ·have hfn:X.fn x=true:=by
   rcases hf with z | z
   ·exact z
   ·rw[z] at hk;cases hk
  obtain⟨c,hc⟩:=I.ok.has x (.inl hk)
  obtain⟨w',z⟩:=I.cell x c hc
  refine wpAny_storeName_cell I.ok.kind hk hc z (fun h' hc' hs=>?_)
  obtain⟨oc,hoc,hocd⟩:=id z
  refine h { s with heap:=h'} ⟨I.ok,I.os,I.bare,⟨fun b o e n hb hx=>?_,fun b o e n hb hx=>?_,I.base.free,fun b o e hx=>?_,I.base.tups,I.base.frzs,I.base.tbls⟩,⟨m,hn.sameBut hs (Ne.symm (cne x c hc)),fun j y v' e1 e2 e3=>?_⟩,fun y c' e=>?_,I.free,I.freeC,fun p hp=>?_,tracked ⟨oc,hoc,I.freeC x c hc⟩ hs,by simpa using I.len⟩ ⟨c,hs,.inr hc⟩
  ·exact(hs.2 b (Nat.ne_of_lt (Nat.lt_of_lt_of_le (Heap.lt_size e) (I.ok.cab x c hfn hc)))).trans (I.base.keep b o e n hb hx)
  ·obtain⟨sl,e1⟩:=I.base.slot b o e n hb hx
   exact⟨sl,(hs.2 b (Nat.ne_of_lt (Nat.lt_of_lt_of_le (Heap.lt_size e) (I.ok.cab x c hfn hc)))).trans e1⟩
  ·obtain⟨o',e1⟩:=I.base.there b o e hx
   exact⟨o',(hs.2 b (Nat.ne_of_lt (Nat.lt_of_lt_of_le (Heap.lt_size e) (I.ok.cab x c hfn hc)))).trans e1⟩
  ·by_cases hj:j=i
   ·subst hj
    rw[hi] at e1;cases e1
    rw[List.getElem?_set_self hiσ] at e2
    cases e2
    exact⟨u,r,.inr ⟨.inl hk,c,hc,hc'⟩⟩
   ·rw[List.getElem?_set_ne (Ne.symm hj)] at e2
    obtain⟨u',r',q⟩:=hl j y v' e1 e2 e3
    refine⟨u',r',?_⟩
    rcases q with q | ⟨k,c',e,z'⟩
    ·exact .inl q
    ·refine .inr ⟨k,c',e,z'.sameBut hs ?_⟩
     rintro rfl
     exact hj (zf3 hN e1 (I.ok.inj _ _ _ e hc ▸ hi))
  ·by_cases hcc:c'=c
   ·subst hcc;exact⟨_,hc'⟩
   ·obtain⟨w2,z2⟩:=I.cell y c' e
    exact⟨w2,z2.sameBut hs hcc⟩
  ·obtain⟨e,n,ne,nf,d⟩:=I.pin p hp
   refine⟨(hs.2 p.1 ?_).trans e,n,ne,nf,d⟩
   intro q
   rw[q,hoc] at e
   have q':oc=p.2:=Option.some.inj e
   exact d w' (by rw[<- q'];exact hocd)
theorem zeA{M:Model}{A:Around}{E:Value->Shared->Prop}{i:Nat}{x:Str}{v:V}{u:Value}{Q:Unit->Shared->Prop}(I:Inv X pins σ H s)(hN:X.N.Nodup)(hi:X.N[i]? = some x)(hx:Loc X.env.scope x)(r:RelV v u)
  (h:∀ s',Inv X pins (σ.set i (some v)) H s'->Q () s') (hf:X.fn x=true \/ X.env.scope.names.lookup x=some .local:=by first | exact .inl rfl | exact .inr rfl | assumption):wpAny M A (storeName X.env x u) Q E s:=
 zfd I hN hi hx r (fun s' I' _=>h s' I') hf
theorem Inv.call'{s':Shared}{ch:List Addr}(I:Inv X pins σ H s)(ho:s'.os=s.os)(u:Un (frs X.stack) ch H H' s.heap s'.heap)(hok:HOk X.prog X.w H' s'.heap)(hg:AllBare s'.gens)
  (hch:∀ b ∈ ch,(b ∈ X.ex \/ X.s₀.heap.objs.size<=b)/\b ≠ X.env.locals/\(∀ x c,X.env.cells.lookup x=some c->c ≠ b)/\∀ p ∈ X.pn ++ pins,p.1 ≠ b):Inv X pins σ H' s':=by
 obtain⟨h',g',d',t',o'⟩:=s'
 have e:o'=s.os:=ho
 subst e
 exact I.call (g':=g') (t':=t') (d':=d') u hok hg hch
end
noncomputable abbrev XK:=Value->Option Addr->Hp->Prop
noncomputable abbrev St:=List (Option V)
noncomputable abbrev VK:=V->Hp->Prop
noncomputable abbrev TE:=St->Hp->VK->Prop
noncomputable abbrev TT:=St->Hp->(Bool->Hp->Prop)->Prop
noncomputable abbrev TA:=St->Hp->(List V->Hp->Prop)->Prop
structure Ends where
 nx:St->Hp->Prop
 rt:VK
 bk:St->Hp->Prop:=fun _ _=>False
 ct:St->Hp->Prop:=fun _ _=>False
noncomputable abbrev TS:=Ends->St->Hp->Prop
noncomputable def EP(X:Cx)(pins:List (Addr × Obj))(σ:St)(Q:VK)(u:Value)(s':Shared):Prop:=∃ v H',Inv X pins σ H' s'/\RelV v u/\Q v H'
noncomputable def TP(X:Cx)(pins:List (Addr × Obj))(σ:St)(Q:Bool->Hp->Prop)(b:Bool)(s':Shared):Prop:=∃ H',Inv X pins σ H' s'/\Q b H'
noncomputable def AP(X:Cx)(pins:List (Addr × Obj))(σ:St)(Q:List V->Hp->Prop)(us:List Value)(s':Shared):Prop:=∃ vs H',Inv X pins σ H' s'/\Vals vs us/\Q vs H'
noncomputable def SP(X:Cx)(pins:List (Addr × Obj))(D:Ends)(f:Flow)(s':Shared):Prop:=
 match f with
 | .next=>∃ σ' H',Inv X pins σ' H' s'/\D.nx σ' H'
 | .brk=>∃ σ' H',Inv X pins σ' H' s'/\D.bk σ' H'
 | .cont=>∃ σ' H',Inv X pins σ' H' s'/\D.ct σ' H'
 | .ret u=>∃ v σ' H',Inv X pins σ' H' s'/\RelV v u/\D.rt v H'
noncomputable def PE(X:Cx)(e:Expr)(t:TE):Prop:=
 ∀ (pins:List (Addr × Obj)) (s:Shared) (σ:St) (H:Hp) (Q:VK),Inv X pins σ H s->t σ H Q->wpAny (model X.prog X.w) X.A (eval e X.env) (EP X pins σ Q) X.xe s
noncomputable def PT(X:Cx)(e:Expr)(t:TT):Prop:=
 ∀ (pins:List (Addr × Obj)) (s:Shared) (σ:St) (H:Hp) (Q:Bool->Hp->Prop),Inv X pins σ H s->t σ H Q->wpAny (model X.prog X.w) X.A (isTrue e X.env (eval e X.env)) (TP X pins σ Q) X.xe s
noncomputable def PW(X:Cx)(e:Expr)(t:TT):Prop:=
 ∀ (whole:Sem Value) (pins:List (Addr × Obj)) (s:Shared) (σ:St) (H:Hp) (Q:Bool->Hp->Prop),Inv X pins σ H s->t σ H Q->wpAny (model X.prog X.w) X.A (isTrue e X.env whole) (TP X pins σ Q) X.xe s
theorem PW.pt{X:Cx}{e:Expr}{t:TT}(h:PW X e t):PT X e t:=h _
noncomputable def PA(X:Cx)(es:List Expr)(t:TA):Prop:=
 ∀ (pos:Pos) (pins:List (Addr × Obj)) (s:Shared) (σ:St) (H:Hp) (Q:List V->Hp->Prop),Inv X pins σ H s->t σ H Q->wpAny (model X.prog X.w) X.A (spliced (backTo pos (starEach es X.env))) (AP X pins σ Q) X.xe s
noncomputable def PS(X:Cx)(st:Stmt)(t:TS):Prop:=
 ∀ (pins:List (Addr × Obj)) (s:Shared) (σ:St) (H:Hp) (D:Ends),Inv X pins σ H s->t D σ H->wpAny (model X.prog X.w) X.A (exec st X.env) (SP X pins D) X.xe s
noncomputable def PSs(X:Cx)(st:List Stmt)(t:TS):Prop:=
 ∀ (pins:List (Addr × Obj)) (s:Shared) (σ:St) (H:Hp) (D:Ends),Inv X pins σ H s->t D σ H->wpAny (model X.prog X.w) X.A (execs st X.env) (SP X pins D) X.xe s
theorem thn{α:Type}{t:Sem α}{Q Q':α->Shared->Prop}{M:Model}{A:Around}{E:Value->Shared->Prop}{s:Shared}(h:wpAny M A t Q E s)(hQ:∀ a s,Q a s->Q' a s):wpAny M A t Q' E s:=wpAny_mono h hQ fun _ _ x=>x
end L2
namespace L2
open PySem PySem.Spec PyProof.Rows
section
variable {X:Cx}
noncomputable def zcN(i:Nat):TE:=fun σ H Q=>∃ v,σ[i]? = some (some v)/\Q v H
noncomputable def tC(v:V):TE:=fun _ H Q=>Q v H
theorem pe_var{i:Nat}{x:Str}{pos:Pos}(hN:X.N[i]? = some x)(hv:Vis X.env.scope x)(hd:(x == ("__debug__" : Str))=false:=by decide)(hcd:(x == ("__classdict__" : Str))=false:=by decide):PE X (.Name x pos) (zcN i):=by
 intro pins s σ H Q I h
 obtain⟨v,e,h⟩:=h
 obtain⟨m,hn,hl⟩:=I.loc
 obtain⟨u,r,l⟩:=hl i x v hN e hv
 have fin:EP X pins σ Q u s:=⟨v,H,I,r,h⟩
 rcases l with ⟨hk,hm⟩ | ⟨hk,c,hc,hcell⟩
 ·exact wpAny_Name (wpAny_loadName_local I.ok.kind hk hn hm fin) hd
 ·rcases hk with hk | hk
  ·exact wpAny_Name (wpAny_loadName_cell I.ok.kind hk hc hcell fin) hd
  ·exact wpAny_Name (wpAny_loadName_free I.ok.kind hk hc hcell fin hcd) hd
theorem pe_int{i j pos}:PE X (.Constant (.int i) j pos) (tC (.int i)):=fun _ _ _ H _ I h=>wpAny_Constant_int ⟨.int i,H,I.tok _,⟨_,rfl⟩,h⟩
theorem pe_bl{b j pos}:PE X (.Constant (.bool b) j pos) (tC (.bl b)):=fun _ _ _ H _ I h=>Constant_bool ⟨.bl b,H,I,rfl,h⟩
theorem pe_non{j pos}:PE X (.Constant .none j pos) (tC .non):=fun _ _ _ H _ I h=>Constant_none ⟨.non,H,I,rfl,h⟩
theorem pe_str{x j pos}:PE X (.Constant (.str x) j pos) (tC (.str x)):=fun _ _ _ H _ I h=>Calls.Constant_str ⟨.str x,H,I.tok _,⟨_,rfl⟩,h⟩
noncomputable def Gl(X:Cx)(x:Str):Prop:=X.env.kindOf x=some .globalImplicit
theorem zeR{E:Value->Shared->Prop}{pins:List (Addr × Obj)}{s:Shared}{σ:St}{H:Hp}{x:Str}{u:Value}{pos:Pos}{Q:Value->Shared->Prop}(I:Inv X pins σ H s)(hg:Gl X x)(hm:X.mg x=some u)(h:Q u s)
  (hd:(x == ("__debug__" : Str))=false:=by decide):wpAny (model X.prog X.w) X.A (eval (.Name x pos) X.env) Q E s:=
 Calls.Name_function_global I.ok.kind hg (Calls.loadGlobal_global (by rw[I.ok.glob];exact I.mod.glob.keeps I.bk) hm h) hd
theorem zcm{E:Value->Shared->Prop}{pins:List (Addr × Obj)}{s:Shared}{σ:St}{H:Hp}{x:Str}{u:Value}{pos:Pos}{Q:Value->Shared->Prop}(I:Inv X pins σ H s)(hg:Gl X x)(hm:X.mg x=none)(hv:bootBuiltins x=some u)(h:Q u s)
  (hn:x ≠ "__name__" :=by decide) (hd:(x == ("__debug__" : Str))=false:=by decide):wpAny (model X.prog X.w) X.A (eval (.Name x pos) X.env) Q E s:=by
 obtain⟨mb,h1,h2⟩:=I.mod.blt
 exact Calls.Name_function_global I.ok.kind hg (Calls.loadGlobal_builtin (by rw[I.ok.glob];exact I.mod.glob.keeps I.bk) hm (by rw[I.ok.blt];exact h1.keeps I.bk) ((h2 x hn).trans hv) h) hd
theorem pe_glob{x:Str}{v:V}{u:Value}{pos:Pos}(hg:Gl X x)(hm:X.mg x=some u)(r:RelV v u)(hd:(x == ("__debug__" : Str))=false:=by decide):PE X (.Name x pos) (tC v):=
 fun _ _ _ H _ I h=>zeR I hg hm ⟨v,H,I,r,h⟩ hd
theorem pe_bltn{x:Str}{v:V}{u:Value}{pos:Pos}(hg:Gl X x)(hm:X.mg x=none)(hv:bootBuiltins x=some u)(r:RelV v u)(hn:x ≠ "__name__" :=by decide)(hd:(x == ("__debug__" : Str))=false:=by decide):PE X (.Name x pos) (tC v):=
 fun _ _ _ H _ I h=>zcm I hg hm hv ⟨v,H,I,r,h⟩ hn hd
variable {a b:Expr}{ta tb:TE}{pos:Pos}
noncomputable def tB(t:TE):TT:=fun σ H Q=>t σ H fun x H1=>∃ c,x=.bl c/\Q c H1
theorem pt_val{e:Expr}{t:TE}(h:PE X e t)(he:∀ whole,isTrue e X.env whole=(do let v <- whole;standAt e.pos;holding [v] (truthy v)):=by intro _;rfl):PT X e (tB t):=by
 intro pins s σ H Q I hw
 refine isTrue_plain (thn (h pins s σ H _ I hw) fun v s1 ⟨x,H1,I1,r1,q1⟩=>?_) (he _)
 obtain⟨d,rfl,q⟩:=q1
 cases r1
 exact wpAny_truthy_bool ⟨H1,I1,q⟩
variable {tA tB':TT}{rest:List Expr}
noncomputable def tAnd(t u:TT):TT:=fun σ H Q=>t σ H fun c H1=>if c=true then u σ H1 Q else Q false H1
noncomputable def tOr(t u:TT):TT:=fun σ H Q=>t σ H fun c H1=>if c=true then Q true H1 else u σ H1 Q
noncomputable def tNot(t:TT):TT:=fun σ H Q=>t σ H fun c H1=>Q (!c) H1
theorem pw_and1(ha:PT X a tA):PW X (.BoolOp .And [a] pos) tA:=by
 intro wh pins s σ H Q I h
 refine isTrue_and (thn (ha pins s σ H Q I h) fun c s1 e=>?_)
 cases c with
 | true=>exact isTrue_and_nil e
 | false=>exact e
theorem pw_or1(ha:PT X a tA):PW X (.BoolOp .Or [a] pos) tA:=by
 intro wh pins s σ H Q I h
 refine isTrue_or (thn (ha pins s σ H Q I h) fun c s1 e=>?_)
 cases c with
 | false=>exact isTrue_or_nil e
 | true=>exact e
theorem pw_and(ha:PT X a tA)(hb:PW X (.BoolOp .And (b :: rest) pos) tB'):PW X (.BoolOp .And (a :: b :: rest) pos) (tAnd tA tB'):=by
 intro wh pins s σ H Q I h
 refine isTrue_and (thn (ha pins s σ H _ I h) fun c s1 ⟨H1,I1,q1⟩=>?_)
 cases c with
 | true=>exact hb wh pins s1 σ H1 Q I1 q1
 | false=>exact⟨H1,I1,q1⟩
theorem pw_or(ha:PT X a tA)(hb:PW X (.BoolOp .Or (b :: rest) pos) tB'):PW X (.BoolOp .Or (a :: b :: rest) pos) (tOr tA tB'):=by
 intro wh pins s σ H Q I h
 refine isTrue_or (thn (ha pins s σ H _ I h) fun c s1 ⟨H1,I1,q1⟩=>?_)
 cases c with
 | true=>exact⟨H1,I1,q1⟩
 | false=>exact hb wh pins s1 σ H1 Q I1 q1
theorem pt_not(ha:PT X a tA):PT X (.UnaryOp .Not a pos) (tNot tA):=by
 intro pins s σ H Q I h
 exact isTrue_not (ha pins s σ H (fun c H1=>Q (!c) H1) I h)
noncomputable def tIf(t:TT)(ta tb:TE):TE:=fun σ H Q=>t σ H fun c H1=>if c=true then ta σ H1 Q else tb σ H1 Q
theorem pe_ifExp{c:Expr}(hc:PT X c tA)(ha:PE X a ta)(hb:PE X b tb):PE X (.IfExp c a b pos) (tIf tA ta tb):=by
 intro pins s σ H Q I h
 refine wpAny_IfExp (thn (hc pins s σ H _ I h) fun d s1 ⟨H1,I1,q1⟩=>?_)
 cases d with
 | true=>exact ha pins s1 σ H1 Q I1 q1
 | false=>exact hb pins s1 σ H1 Q I1 q1
end
end L2
namespace L2
open PySem PySem.Spec PyProof.Rows
noncomputable def SqL(K:PySem.W.Frag)(H:Hp)(a:Addr)(xs:List V):Prop:=
 Rd H a (.lst xs) \/
  ∃ (o:Obj) (its:Array Value) (n:Nat),K.lookup a=some o/\o.cls=.type "list" /\ o.dict=none/\o.data=.seq its n/\its.size<=sizeLine/\Vals xs its.toList
noncomputable def SqT(K:PySem.W.Frag)(H:Hp)(a:Addr)(xs:List V):Prop:=
 Rd H a (.tup xs) \/
  ∃ (o:Obj) (its:Array Value) (n:Nat),K.lookup a=some o/\o.cls=.type "tuple" /\ o.data=.seq its n/\its.size<=sizeLine/\Vals xs its.toList
noncomputable def absV:Value->Option V
 | .none=>some .non
 | .bool b=>some (.bl b)
 | .int i _=>some (.int i)
 | .str x _=>some (.str x)
 | .bytes b _=>some (.byt b)
 | .float b _=>some (.flt b)
 | .ref a=>some (.ref a)
 | .type n=>some (.ty n)
 | _=>none
theorem RelV.abs{x:V}{u:Value}(r:RelV x u):absV u=some x:=by
 cases x with
 | non=>cases r;rfl
 | bl _=>cases r;rfl
 | int _=>obtain⟨t,rfl⟩:=r;rfl
 | str _=>obtain⟨t,rfl⟩:=r;rfl
 | byt _=>obtain⟨t,rfl⟩:=r;rfl
 | flt _=>obtain⟨t,rfl⟩:=r;rfl
 | ref _=>cases r;rfl
 | ty _=>cases r;rfl
theorem RelV.inj{x y:V}{u:Value}(r:RelV x u)(q:RelV y u):x=y:=Option.some.inj (r.abs.symm.trans q.abs)
theorem Vals.inj:∀ {xs ys:List V} {us:List Value},Vals xs us->Vals ys us->xs=ys
 | _,_,_,.nil,.nil=>rfl
 | _,_,_,.cons r t,.cons r' t'=>by rw[r.inj r',Vals.inj t t']
section
variable {X:Cx}{pins:List (Addr × Obj)}{σ:St}{H:Hp}{s:Shared}{a:Addr}{xs ys:List V}
theorem SqL.of{K:PySem.W.Frag}(h:H a=some (.lst xs)):SqL K H a xs:=.inl (.inl h)
theorem SqT.of{K:PySem.W.Frag}(h:H a=some (.tup xs)):SqT K H a xs:=.inl (.inl h)
theorem Inv.list(I:Inv X pins σ H s)(h:SqL X.K H a xs):∃ its:List Value,Vals xs its/\PlainL s.heap a its.toArray/\xs.length<=sizeLine:=by
 rcases h with h | ⟨o,its,n,hk,hc,hd,hs,hz,r⟩
 ·obtain⟨z,its,n,r,e⟩:=h.ok I.hok
  exact⟨its,r,⟨_,n,e,rfl,rfl,rfl⟩,z⟩
 ·refine⟨its.toList,r,⟨o,n,I.kIn a o hk,hc,hd,by simpa using hs⟩,?_⟩
  have e:=r.length
  simp only[Array.length_toList] at e
  lia
theorem Inv.tuple(I:Inv X pins σ H s)(h:SqT X.K H a xs):∃ its:List Value,Vals xs its/\IsTup s.heap a its.toArray/\xs.length<=sizeLine:=by
 rcases h with h | ⟨o,its,n,hk,hc,hs,hz,r⟩
 ·obtain⟨z,its,r,p⟩:=h.ok I.hok
  exact⟨its,r,p,z⟩
 ·refine⟨its.toList,r,⟨o,I.kIn a o hk,hc,n,by simpa using hs⟩,?_⟩
  have e:=r.length
  simp only[Array.length_toList] at e
  lia
theorem Inv.list_inj(I:Inv X pins σ H s)(h:SqL X.K H a xs)(h':SqL X.K H a ys):xs=ys:=by
 obtain⟨its,r,⟨o,n,e,_,_,d⟩,_⟩:=I.list h
 obtain⟨its',r',⟨o',n',e',_,_,d'⟩,_⟩:=I.list h'
 rw[e] at e';cases e'
 rw[d] at d'
 injection d' with d1 _
 have:its=its':=by simpa using congrArg Array.toList d1
 subst this
 exact r.inj r'
theorem Inv.tuple_inj(I:Inv X pins σ H s)(h:SqT X.K H a xs)(h':SqT X.K H a ys):xs=ys:=by
 obtain⟨its,r,⟨o,e,_,n,d⟩,_⟩:=I.tuple h
 obtain⟨its',r',⟨o',e',_,n',d'⟩,_⟩:=I.tuple h'
 rw[e] at e';cases e'
 rw[d] at d'
 injection d' with d1 _
 have:its=its':=by simpa using congrArg Array.toList d1
 subst this
 exact r.inj r'
end
noncomputable abbrev Cx.wish(X:Cx)(E:Value->Shared->Prop):Cx:={ X with xe:=E}
noncomputable abbrev Cx.nox(X:Cx):Cx:=X.wish fun _ _=>False
theorem Cx.Ok.wish{X:Cx}(ok:X.Ok)(E:Value->Shared->Prop):(X.wish E).Ok:=
 ⟨ok.mod,ok.kind,ok.glob,ok.blt,ok.above,ok.inj,ok.has,ok.cab,ok.hd,ok.frames,ok.stk,ok.exf,ok.bs,ok.bsz,ok.noex,ok.exfs,ok.funs,ok.frf⟩
theorem Cx.Ok.unwish{X:Cx}{E:Value->Shared->Prop}(ok:(X.wish E).Ok):X.Ok:=
 ⟨ok.mod,ok.kind,ok.glob,ok.blt,ok.above,ok.inj,ok.has,ok.cab,ok.hd,ok.frames,ok.stk,ok.exf,ok.bs,ok.bsz,ok.noex,ok.exfs,ok.funs,ok.frf⟩
section
variable {X:Cx}{pins:List (Addr × Obj)}{σ:St}{H:Hp}{s:Shared}{E:Value->Shared->Prop}
theorem Inv.wish(I:Inv X pins σ H s)(E:Value->Shared->Prop):Inv (X.wish E) pins σ H s:=⟨I.ok.wish E,I.os,I.bare,I.base,I.loc,I.cell,I.free,I.freeC,I.pin,I.hok,I.len⟩
theorem Inv.unwish(I:Inv (X.wish E) pins σ H s):Inv X pins σ H s:=⟨I.ok.unwish,I.os,I.bare,I.base,I.loc,I.cell,I.free,I.freeC,I.pin,I.hok,I.len⟩
theorem SP.unwish{D:Ends}{f:Flow}{s':Shared}(h:SP (X.wish E) pins D f s'):SP X pins D f s':=by
 cases f with
 | next=>obtain⟨σ',H',I,q⟩:=h;exact⟨σ',H',I.unwish,q⟩
 | brk=>obtain⟨σ',H',I,q⟩:=h;exact⟨σ',H',I.unwish,q⟩
 | cont=>obtain⟨σ',H',I,q⟩:=h;exact⟨σ',H',I.unwish,q⟩
 | ret u=>obtain⟨v,σ',H',I,r,q⟩:=h;exact⟨v,σ',H',I.unwish,r,q⟩
theorem PE.nox{e:Expr}{t:TE}(h:PE X.nox e t):PE X e t:=fun pins s σ H Q I hw=>
 wpAny_mono (h pins s σ H Q (I.wish _) hw) (fun _ _ ⟨v,H',I',r,q⟩=>⟨v,H',I'.unwish,r,q⟩) fun _ _ z=>False.elim z
theorem PT.nox{e:Expr}{t:TT}(h:PT X.nox e t):PT X e t:=fun pins s σ H Q I hw=>
 wpAny_mono (h pins s σ H Q (I.wish _) hw) (fun _ _ ⟨H',I',q⟩=>⟨H',I'.unwish,q⟩) fun _ _ z=>False.elim z
theorem PSs.nox{st:List Stmt}{t:TS}(h:PSs X.nox st t):PSs X st t:=fun pins s σ H D I hw=>
 wpAny_mono (h pins s σ H D (I.wish _) hw) (fun _ _ q=>q.unwish) fun _ _ z=>False.elim z
end
section
variable {X:Cx}{st:Stmt}{rest:List Stmt}{t u:TS}{e:Expr}{te:TE}{pos:Pos}
noncomputable def tNext:TS:=fun D σ H=>D.nx σ H
noncomputable def tSeq(t u:TS):TS:=fun D σ H=>t { D with nx:=u D} σ H
theorem pss_nil:PSs X [] tNext:=fun _ _ σ H _ I h=>wpAny_execs_nil ⟨σ,H,I,h⟩
theorem pss_cons(h1:PS X st t)(h2:PSs X rest u):PSs X (st :: rest) (tSeq t u):=by
 intro pins s σ H D I h
 refine wpAny_execs_cons (thn (h1 pins s σ H { D with nx:=u D} I h) fun f s1 q=>?_)
 cases f with
 | next=>
  obtain⟨σ',H',I',q⟩:=q
  exact h2 pins s1 σ' H' D I' q
 | ret v=>exact q
 | brk=>exact q
 | cont=>exact q
theorem pss_one(h1:PS X st t):PSs X [st] t:=by
 intro pins s σ H D I h
 refine wpAny_execs_cons (thn (h1 pins s σ H D I h) fun f s1 q=>?_)
 cases f with
 | next=>exact wpAny_execs_nil q
 | ret v=>exact q
 | brk=>exact q
 | cont=>exact q
theorem Inv.quiet{pins:List (Addr × Obj)}{σ:St}{H:Hp}{s:Shared}(I:Inv X pins σ H s):interactive X.env=false:=by simp[interactive,I.ok.kind]
noncomputable def tDrop(te:TE):TS:=fun D σ H=>te σ H fun _ H1=>D.nx σ H1
theorem ps_expr(he:PE X e te)(hs:swapsWith e none pos.line X.env=pure false:=by rfl):PS X (.Expr e pos) (tDrop te):=by
 intro pins s σ H D I h
 exact wpAny_Expr_any (thn (he pins s σ H _ I h) fun v s1 ⟨x,H1,I1,r1,q1⟩=>⟨σ,H1,I1,q1⟩) I.quiet hs
noncomputable def tRet(te:TE):TS:=fun D σ H=>te σ H D.rt
theorem ps_ret(he:PE X e te):PS X (.Return (some e) pos) (tRet te):=by
 intro pins s σ H D I h
 exact wpAny_Return_some (thn (he pins s σ H _ I h) fun v s1 ⟨x,H1,I1,r1,q1⟩=>⟨x,σ,H1,I1,r1,q1⟩)
noncomputable def tIfS(c:TT)(t u:TS):TS:=fun D σ H=>c σ H fun b H1=>if b=true then t D σ H1 else u D σ H1
theorem ps_if{c:Expr}{a b:List Stmt}{tc:TT}(hc:PT X c tc)(ha:PSs X a t)(hb:PSs X b u):PS X (.If c a b pos) (tIfS tc t u):=by
 intro pins s σ H D I h
 refine wpAny_If (thn (hc pins s σ H _ I h) fun d s1 ⟨H1,I1,q1⟩=>?_)
 cases d with
 | true=>exact ha pins s1 σ H1 D I1 q1
 | false=>exact hb pins s1 σ H1 D I1 q1
end
noncomputable abbrev TG:=V->St->Hp->(St->Hp->Prop)->Prop
noncomputable abbrev TGs:=List V->St->Hp->(St->Hp->Prop)->Prop
noncomputable def PG(X:Cx)(target:Expr)(t:TG):Prop:=
 ∀ (pins:List (Addr × Obj)) (s:Shared) (σ:St) (H:Hp) (v:V) (u:Value) (Q:St->Hp->Prop),Inv X pins σ H s->RelV v u->t v σ H Q ->
  wpAny (model X.prog X.w) X.A (assign target X.env u) (fun _ s'=>∃ σ' H',Inv X pins σ' H' s'/\Q σ' H') X.xe s
noncomputable def PGs(X:Cx)(ts:List Expr)(t:TGs):Prop:=
 ∀ (pins:List (Addr × Obj)) (s:Shared) (σ:St) (H:Hp) (vs:List V) (us:List Value) (Q:St->Hp->Prop),Inv X pins σ H s->Vals vs us->t vs σ H Q ->
  wpAny (model X.prog X.w) X.A (assignInOrder ((assignEach ts X.env).map (·.2)) us) (fun _ s'=>∃ σ' H',Inv X pins σ' H' s'/\Q σ' H') X.xe s
noncomputable abbrev TSet:=V->V->V->Hp->(Hp->Prop)->Prop
noncomputable def PSet(X:Cx)(t:TSet):Prop:=
 ∀ (pins:List (Addr × Obj)) (s:Shared) (σ:St) (H:Hp) (o i v:V) (ov iv u:Value) (Q:Hp->Prop),Inv X pins σ H s->RelV o ov->RelV i iv->RelV v u->t o i v H Q ->
  wpAny (model X.prog X.w) X.A (setItem ov iv u) (fun _ s'=>∃ H',Inv X pins σ H' s'/\Q H') X.xe s
section
variable {X:Cx}{pos:Pos}
noncomputable def zcI(i:Nat):TG:=fun v σ H Q=>Q (σ.set i (some v)) H
theorem pg_name{i:Nat}{x:Str}(hN:X.N.Nodup)(hi:X.N[i]? = some x)(hx:Loc X.env.scope x)(hf:X.fn x=true \/ X.env.scope.names.lookup x=some .local:=by first | exact .inl rfl | exact .inr rfl | assumption):PG X (.Name x pos) (zcI i):=by
 intro pins s σ H v u Q I r h
 exact wpAny_assign_Name (zeA I hN hi hx r (fun s' I'=>⟨_,H,I',h⟩) hf)
noncomputable def gCons(t:TG)(u:TGs):TGs:=fun vs σ H Q=>∃ v r,vs=v :: r/\t v σ H fun σ' H'=>u r σ' H' Q
theorem pgs_cons{e:Expr}{es:List Expr}{t:TG}{u:TGs}(h1:PG X e t)(h2:PGs X es u)
  (hs:(assignEach (e :: es) X.env).map (·.2)=assign e X.env :: (assignEach es X.env).map (·.2):=by rfl):PGs X (e :: es) (gCons t u):=by
 intro pins s σ H vs us Q I r h
 obtain⟨v,vr,e1,h⟩:=h
 subst e1
 cases r with
 | cons r rr=>
  rw[hs]
  refine assignInOrder_cons (thn (h1 pins s σ H _ _ _ I r h) fun _ s1 ⟨σ1,H1,I1,q1⟩=>?_)
  exact h2 pins s1 σ1 H1 _ _ Q I1 rr q1
noncomputable def gSub(to ti:TE)(t:TSet):TG:=fun v σ H Q=>to σ H fun o H1=>ti σ H1 fun i H2=>t o i v H2 fun H3=>Q σ H3
theorem pg_sub{o i:Expr}{to ti:TE}{t:TSet}(ho:PE X o to)(hi:PE X i ti)(hs:PSet X t)
  (ha:∀ v,assign (.Subscript o i pos) X.env v=(do
   let ov <- holding [v] (eval o X.env)
   let iv <- holding [v,ov] (eval i X.env)
   standAt pos
   holding [v,ov,iv] (setItem ov iv v)
   release [v,ov,iv] []):=by intro _;rfl):PG X (.Subscript o i pos) (gSub to ti t):=by
 intro pins s σ H v u Q I r h
 rw[ha]
 refine wpAny_bind (wpAny_holding (thn (ho pins s σ H _ I h) fun ov s1 ⟨x,H1,I1,r1,q1⟩=>?_))
 refine wpAny_bind (wpAny_holding (thn (hi pins s1 σ H1 _ I1 q1) fun iv s2 ⟨y,H2,I2,r2,q2⟩=>?_))
 refine wpAny_bind (wpAny_standAt (wpAny_bind (wpAny_holding (thn (hs pins s2 σ H2 x y v ov iv u _ I2 r1 r2 r q2) fun _ s3 ⟨H3,I3,q3⟩=>?_))))
 exact wpAny_release ⟨σ,H3,I3,q3⟩
noncomputable def zeU(te:TE)(g:TG):TS:=fun D σ H=>te σ H fun x H1=>g x σ H1 D.nx
theorem ps_asg{tg e:Expr}{te:TE}{g:TG}(he:PE X e te)(hg:PG X tg g)(hs:swapsWithSole [tg] e pos.line X.env=pure false:=by rfl)(hw:swappedStores [tg] e X.env=pure none:=by rfl)
  (h1:(assignEach [tg] X.env).map (·.2)=[assign tg X.env]:=by rfl):PS X (.Assign [tg] e pos) (zeU te g):=by
 intro pins s σ H D I h
 refine wpAny_Assign_stores (thn (he pins s σ H _ I h) fun v s1 ⟨x,H1,I1,r1,q1⟩=>?_) hs hw
 rw[h1]
 exact thn (hg pins s1 σ H1 x v _ I1 r1 q1) fun _ s2 q=>q
theorem ps_set{i:Nat}{x:Str}{e:Expr}{te:TE}{pos':Pos}(hN:X.N.Nodup)(hi:X.N[i]? = some x)(hx:Loc X.env.scope x)(he:PE X e te)(hs:swapsWith e (some (.Name x pos')) pos.line X.env=pure false:=by rfl)(hf:X.fn x=true \/ X.env.scope.names.lookup x=some .local:=by first | exact .inl rfl | exact .inr rfl | assumption) :
  PS X (.Assign [.Name x pos'] e pos) (zeU te (zcI i)):=by
 intro pins s σ H D I h
 refine wpAny_Assign_Name (thn (he pins s σ H _ I h) fun v s1 ⟨y,H1,I1,r1,q1⟩=>?_) hs
 exact zeA I1 hN hi hx r1 (fun s2 I2=>⟨_,H1,I2,q1⟩) hf
end
section
variable {X:Cx}{pos:Pos}
noncomputable def zgC(c:TT)(tb:TS):TS:=fun D σ H=>∃ W:Nat->St->Hp->Prop,(∃ m,W m σ H)/\∀ m σ H,W m σ H ->
 c σ H fun b H1=>if b=true then ∃ N:St->Hp->Prop,(∀ σ' H',N σ' H'->∃ m',m'<m/\W m' σ' H')/\tb { D with nx:=N,ct:=N,bk:=D.nx} σ H1 else D.nx σ H1
theorem ps_while{c:Expr}{body:List Stmt}{tc:TT}{tb:TS}(hp:PassesOwn (model X.prog X.w) X.A X.env X.xe)(hc:PT X c tc)(hb:PSs X body tb):PS X (.While c body [] pos) (zgC tc tb):=by
 intro pins s σ H D I h
 obtain⟨W,⟨m0,w0⟩,turn⟩:=h
 refine wpAny_While (codeAny_whileLoop (fun n s'=>∃ σ' H',Inv X pins σ' H' s'/\W n σ' H') ?_ m0 ⟨σ,H,I,w0⟩)
 rintro n s1 ⟨σ1,H1,I1,w1⟩
 refine wpAny_passesOwn hp (thn (hc pins s1 σ1 H1 _ I1 (turn n σ1 H1 w1)) fun b s2 ⟨H2,I2,q2⟩=>?_)
 cases b with
 | true=>
  obtain⟨N,hN,q2⟩:=q2
  rw[if_pos rfl]
  refine wpAny_passesOwn hp (thn (hb pins s2 σ1 H2 _ I2 q2) fun f s3 q3=>?_)
  cases f with
  | next=>
   obtain⟨σ3,H3,I3,n3⟩:=q3
   obtain⟨m',hm,w3⟩:=hN σ3 H3 n3
   exact⟨m',hm,σ3,H3,I3,w3⟩
  | cont=>
   obtain⟨σ3,H3,I3,n3⟩:=q3
   obtain⟨m',hm,w3⟩:=hN σ3 H3 n3
   exact⟨m',hm,σ3,H3,I3,w3⟩
  | brk=>exact q3
  | ret v=>exact q3
 | false=>
  rw[if_neg Bool.false_ne_true]
  exact wpAny_execs_nil ⟨σ1,H2,I2,q2⟩
end
structure It where
 go:Nat->Hp->Prop
 yld:Nat->Hp->V->Hp->Prop
 stop:Nat->Hp->Prop
noncomputable def zgP(X:Cx)(pins:List (Addr × Obj))(H:Hp)(b:Addr):Prop:=
 H b=none/\b ≠ X.env.locals/\b ∉ X.fs/\(b ∈ X.ex \/ X.s₀.heap.objs.size<=b)/\(∀ x c,X.env.cells.lookup x=some c->c ≠ b)/\∀ p ∈ X.pn ++ pins,p.1 ≠ b
theorem Inv.fpOk{X:Cx}{pins:List (Addr × Obj)}{σ:St}{H H':Hp}{s:Shared}{b:Addr}(I:Inv X pins σ H s)(hb:s.heap.objs.size<=b)(hn:H' b=none):zgP X pins H' b:=by
 refine⟨hn,Nat.ne_of_gt (Nat.lt_of_lt_of_le I.lt hb),I.nofs hb,.inr (Nat.le_trans I.sz hb),fun x c e z=>?_,fun p hp z=>?_⟩
 ·obtain⟨v,q⟩:=I.cell x c e
  exact absurd (Nat.lt_of_lt_of_le q.lt (by rw[z];exact hb)) (Nat.lt_irrefl _)
 ·exact absurd (Nat.lt_of_lt_of_le (Heap.lt_size (I.pin p hp).1) (by rw[z];exact hb)) (Nat.lt_irrefl _)
structure Turn(P:Program)(w:World)(K:PySem.W.Frag)(tg:Expr)(J:It)(fp:List Addr)(it:Addr)(tn:Nat->Heap->Prop):Prop where
 mem:it ∈ fp
 obj:∀ i h,tn i h->∀ b ∈ fp,∃ o,h.get? b=some o/\∀ v,o.data ≠ .cell v
 keep:∀ i h h',tn i h->(∀ b ∈ fp,∀ o,h.get? b=some o->h'.get? b=some o)->tn i h'
 item:∀ (X:Cx),X.prog=P->X.w=w->X.K=K->X.calm=true->∀ (i:Nat) (pins:List (Addr × Obj)) (s:Shared) (σ:St) (H:Hp) (E:Value->Shared->Prop),Inv X pins σ H s->(∀ b ∈ fp,zgP X pins H b)->tn i s.heap->J.go i H ->
  wpAny (model P w) X.A (pyNext (.ref it)) (fun r s1=>∃ u,r=some u /\
   wpAny (model P w) X.A (letOwnedTupleGo tg (.ref it) u) (fun _ s2=>∃ x H',Inv X pins σ H' s2/\RelV x u/\J.yld i H x H'/\tn (i+1) s2.heap/\∀ b ∈ fp,H' b=none) E s1) E s
 done:∀ (X:Cx),X.prog=P->X.w=w->X.K=K->X.calm=true->∀ (i:Nat) (pins:List (Addr × Obj)) (s:Shared) (σ:St) (H:Hp) (E:Value->Shared->Prop),Inv X pins σ H s->(∀ b ∈ fp,zgP X pins H b)->tn i s.heap->J.stop i H ->
  wpAny (model P w) X.A (pyNext (.ref it)) (fun r s1=>r=none/\Inv X pins σ H s1) E s
 self:∀ (A:Around) (i:Nat) (s:Shared) (Q:Value->Shared->Prop) (E:Value->Shared->Prop),tn i s.heap->Q (.ref it) s->wpAny (model P w) A (pyIter (.ref it)) Q E s
noncomputable abbrev TI:=St->Hp->(It->Hp->Prop)->Prop
noncomputable def PIE(X:Cx)(pins:List (Addr × Obj))(σ:St)(tg:Expr)(R:It->Hp->Prop)(itv:Value)(s2:Shared):Prop:=
 ∃ (it:Addr) (fp:List Addr) (tn:Nat->Heap->Prop) (J:It) (H':Hp),itv=.ref it/\Inv X pins σ H' s2/\Turn X.prog X.w X.K tg J fp it tn/\tn 0 s2.heap/\(∀ b ∈ fp,zgP X pins H' b)/\R J H'
noncomputable def PI(X:Cx)(tg iter:Expr)(wi:TI):Prop:=
 ∀ (pins:List (Addr × Obj)) (s:Shared) (σ:St) (H:Hp) (R:It->Hp->Prop),Inv X pins σ H s->wi σ H R ->
  wpAny (model X.prog X.w) X.A (eval iter X.env) (fun v s1=>wpAny (model X.prog X.w) X.A (pyIter v) (PIE X pins σ tg R) X.xe s1) X.xe s
theorem go_of{M:Model}{A:Around}{E:Value->Shared->Prop}{s:Shared}{tg:Expr}{it:Addr}{u:Value}{o:Obj}{n:String}{vs:Array Value}{Q:Unit->Shared->Prop}(ho:s.heap.get? it=some o)(hc:o.cls=.type n)(hd:o.data=.fields vs)
    (hn:["enumerate","zip","dict_itemiterator","dict_reverseitemiterator","odict_iterator","itertools.zip_longest","itertools.pairwise"].contains n=false) (hQ:Q () s):wpAny M A (letOwnedTupleGo tg (.ref it) u) Q E s:=by
  unfold letOwnedTupleGo
  cases tg <;> first
    | exact wpAny_pure hQ
    | (cases u <;> first
        | exact wpAny_pure hQ
        | (refine wpAny_bind (wpAny_load ho ?_)
           rw[hc,hd]
           show wpAny M A (if (["enumerate","zip","dict_itemiterator","dict_reverseitemiterator","odict_iterator","itertools.zip_longest","itertools.pairwise"].contains n && vs[0]? == some (rawInt _))=true then _ else _) Q E s
           rw[if_neg (by intro h;rw[hn,Bool.false_and] at h;cases h)]
           exact wpAny_pure hQ))
noncomputable def Itl(K:PySem.W.Frag)(a:Addr):It:=
 ⟨fun i H=>∃ xs x,SqL K H a xs/\xs[i]? = some x,fun i H x H'=>H'=H/\∀ xs,SqL K H a xs->xs[i]? = some x,fun i H=>∃ xs,SqL K H a xs/\xs.length<=i⟩
noncomputable def Itt(K:PySem.W.Frag)(a:Addr):It:=
 ⟨fun i H=>∃ xs x,SqT K H a xs/\xs[i]? = some x,fun i H x H'=>H'=H/\∀ xs,SqT K H a xs->xs[i]? = some x,fun i H=>∃ xs,SqT K H a xs/\xs.length<=i⟩
noncomputable def Itr(lo:Int)(n:Nat):It:=⟨fun i _=>i<n,fun i H x H'=>H'=H/\x=.int (lo+i),fun i _=>n<=i⟩
theorem ze5{P:Program}{w:World}{K:PySem.W.Frag}{tg:Expr}(a it:Addr):Turn P w K tg (Itl K a) [it] it (fun i h=>h.IsListIter it a i) where
 mem:=by simp
 obj:=fun i h st b hb=>by
  have e:b=it:=by simpa using hb
  subst e
  obtain⟨o,e,c,d⟩:=st
  exact⟨o,e,fun v z=>by rw[d] at z;cases z⟩
 keep:=fun i h h' st k=>st.at fun o e=>k it (by simp) o e
 item:=by
  intro X hP hw hK hc i pins s σ H E I hf st hg
  subst hP hw hK
  obtain⟨xs,x,hq,hx⟩:=hg
  obtain⟨its,rv,p,hz⟩:=I.list hq
  obtain⟨u,hu,ru⟩:=rv.get hx
  obtain⟨f0,f1,f2,f3,f4,f5⟩:=hf it (by simp)
  refine wpAny_pyNext_list_item st p.isList (x:=u) (by simpa using hu) fun h' st' sb=>?_
  have I1:Inv X pins σ H { s with heap:=h'}:=I.turned (t':=s.toks) (fun b o hb e=>(sb.2 b hb).trans e) f0 f1 f3 f4 f5
  obtain⟨o,e,c,d⟩:=id st'
  exact⟨u,rfl,go_of (s:={ s with heap:=h'}) e c d (by decide) ⟨x,H,I1,ru,⟨rfl,fun ys hy=>by rw[I.list_inj hy hq];exact hx⟩,st',fun b hb=>(hf b hb).1⟩⟩
 done:=by
  intro X hP hw hK hc i pins s σ H E I hf st hg
  subst hP hw hK
  obtain⟨xs,hq,hx⟩:=hg
  obtain⟨its,rv,p,hz⟩:=I.list hq
  obtain⟨f0,f1,f2,f3,f4,f5⟩:=hf it (by simp)
  have hl:=rv.length
  exact wpAny_pyNext_list_end (I.ok.hd hc) st p.isList (by simp;lia) fun h' eb=>⟨rfl,I.turned (t':=s.toks) (fun b o hb e=>eb b o hb e) f0 f1 f3 f4 f5⟩
 self:=fun _ _ _ _ _ st h=>wpAny_pyIter_listiter st h
theorem zea{P:Program}{w:World}{K:PySem.W.Frag}{tg:Expr}(a it:Addr):Turn P w K tg (Itt K a) [it] it (fun i h=>h.IsTupleIter it a i) where
 mem:=by simp
 obj:=fun i h st b hb=>by
  have e:b=it:=by simpa using hb
  subst e
  obtain⟨o,e,c,d⟩:=st
  exact⟨o,e,fun v z=>by rw[d] at z;cases z⟩
 keep:=fun i h h' st k=>st.at fun o e=>k it (by simp) o e
 item:=by
  intro X hP hw hK hc i pins s σ H E I hf st hg
  subst hP hw hK
  obtain⟨xs,x,hq,hx⟩:=hg
  obtain⟨its,rv,p,hz⟩:=I.tuple hq
  obtain⟨u,hu,ru⟩:=rv.get hx
  obtain⟨f0,f1,f2,f3,f4,f5⟩:=hf it (by simp)
  refine wpAny_pyNext_tuple_item st (show s.heap.IsTuple a its.toArray from p) (x:=u) (by simpa using hu) fun h' st' sb=>?_
  have I1:Inv X pins σ H { s with heap:=h'}:=I.turned (t':=s.toks) (fun b o hb e=>(sb.2 b hb).trans e) f0 f1 f3 f4 f5
  obtain⟨o,e,c,d⟩:=id st'
  exact⟨u,rfl,go_of (s:={ s with heap:=h'}) e c d (by decide) ⟨x,H,I1,ru,⟨rfl,fun ys hy=>by rw[I.tuple_inj hy hq];exact hx⟩,st',fun b hb=>(hf b hb).1⟩⟩
 done:=by
  intro X hP hw hK hc i pins s σ H E I hf st hg
  subst hP hw hK
  obtain⟨xs,hq,hx⟩:=hg
  obtain⟨its,rv,p,hz⟩:=I.tuple hq
  obtain⟨f0,f1,f2,f3,f4,f5⟩:=hf it (by simp)
  have hl:=rv.length
  exact wpAny_pyNext_tuple_end (I.ok.hd hc) st (show s.heap.IsTuple a its.toArray from p) (by simp;lia) fun h' eb=>⟨rfl,I.turned (t':=s.toks) (fun b o hb e=>eb b o hb e) f0 f1 f3 f4 f5⟩
 self:=fun _ _ _ _ _ st h=>wpAny_pyIter_tupleiter st h
theorem zgW{P:Program}{w:World}{K:PySem.W.Frag}{tg:Expr}(it:Addr)(lo:Int)(n:Nat):Turn P w K tg (Itr lo n) [it] it (fun i h=>IsRangeIter h it (lo+(i:Nat) * 1) ((n:Int) - (i:Nat)) 1) where
 mem:=by simp
 obj:=fun i h st b hb=>by
  have e:b=it:=by simpa using hb
  subst e
  exact⟨_,st,fun v z=>by
   have z':Data.fields _=Data.cell v:=z
   cases z'⟩
 keep:=fun i h h' st k=>k it (by simp) _ st
 item:=by
  intro X hP hw hK hc i pins s σ H E I hf st hg
  subst hP hw hK
  obtain⟨f0,f1,f2,f3,f4,f5⟩:=hf it (by simp)
  have W:=Walks.range (prog:=X.prog) (w:=X.w) (I.ok.hd hc) it lo 1 n
  refine W.item i s _ _ hg st fun v h' tk hv st' kk=>?_
  obtain⟨t,rfl⟩:=hv
  have I1:Inv X pins σ H { s with heap:=h',toks:=tk}:=I.turned (fun b o hb e=>kk b o (by simpa using hb) e) f0 f1 f3 f4 f5
  refine⟨_,rfl,go_of (s:={ s with heap:=h',toks:=tk}) (n:= "range_iterator") st' rfl rfl (by decide) ⟨.int (lo+i),H,I1,⟨t,?_⟩,⟨rfl,rfl⟩,st',fun b hb=>(hf b hb).1⟩⟩
  rw[Int.mul_one]
 done:=by
  intro X hP hw hK hc i pins s σ H E I hf st hg
  subst hP hw hK
  obtain⟨f0,f1,f2,f3,f4,f5⟩:=hf it (by simp)
  exact wpAny_pyNext_range_end (I.ok.hd hc) st (by have:n<=i:=hg;lia) fun h' eb=>⟨rfl,I.turned (t':=s.toks) (fun b o hb e=>eb b o hb e) f0 f1 f3 f4 f5⟩
 self:=fun _ _ _ _ _ st h=>wpAny_pyIter_rangeiter st h
end L2
namespace L2
open PySem PySem.Spec PyProof.Rows
section
variable {X:Cx}{tg:Expr}
noncomputable def iList(K:PySem.W.Frag)(tl:TE):TI:=fun σ H R=>tl σ H fun x H1=>∃ a,x=.ref a/\(∃ xs,SqL K H1 a xs)/\R (Itl K a) H1
noncomputable def iTup(K:PySem.W.Frag)(tl:TE):TI:=fun σ H R=>tl σ H fun x H1=>∃ a,x=.ref a/\(∃ xs,SqT K H1 a xs)/\R (Itt K a) H1
theorem pi_list{l:Expr}{tl:TE}(hl:PE X l tl):PI X tg l (iList X.K tl):=by
 intro pins s σ H R I h
 refine thn (hl pins s σ H _ I h) fun v s1 ⟨x,H1,I1,r1,q1⟩=>?_
 obtain⟨a,e,⟨xs,hq⟩,q⟩:=q1
 subst e
 cases r1
 obtain⟨its,rv,p,hz⟩:=I1.list hq
 refine wpAny_pyIter_list p.isList ?_
 refine⟨s1.heap.objs.size,[s1.heap.objs.size],_,_,H1,rfl,I1.kept (t':=s1.toks) fun b o e=>Heap.get?_push_of_some _ e,ze5 a _,⟨_,Heap.get?_push_size _ rfl,rfl,rfl⟩,fun b hb=>?_,q⟩
 have e:b=s1.heap.objs.size:=by simpa using hb
 subst e
 exact I1.fpOk (Nat.le_refl _) (I1.hok.fresh (Nat.le_refl _))
theorem pi_tup{l:Expr}{tl:TE}(hl:PE X l tl):PI X tg l (iTup X.K tl):=by
 intro pins s σ H R I h
 refine thn (hl pins s σ H _ I h) fun v s1 ⟨x,H1,I1,r1,q1⟩=>?_
 obtain⟨a,e,⟨xs,hq⟩,q⟩:=q1
 subst e
 cases r1
 obtain⟨its,rv,p,hz⟩:=I1.tuple hq
 refine wpAny_pyIter_tuple (show s1.heap.IsTuple a its.toArray from p) ?_
 refine⟨s1.heap.objs.size,[s1.heap.objs.size],_,_,H1,rfl,I1.kept (t':=s1.toks) fun b o e=>Heap.get?_push_of_some _ e,zea a _,⟨_,Heap.get?_push_size _ rfl,rfl,rfl⟩,fun b hb=>?_,q⟩
 have e:b=s1.heap.objs.size:=by simpa using hb
 subst e
 exact I1.fpOk (Nat.le_refl _) (I1.hok.fresh (Nat.le_refl _))
theorem zf9{pins:List (Addr × Obj)}{σ:St}{H:Hp}{s:Shared}{R:It->Hp->Prop}{E:Value->Shared->Prop}{lo hi:Int}{t u v:Tok}{tk:Nat}(I:Inv X pins σ H s)(h1:-(2 ^ 62)<=lo)(h2:lo<2 ^ 62)(h3:-(2 ^ 62)<=hi)(h4:hi<2 ^ 62)
  (q:R (Itr lo (hi - lo).toNat) H):wpAny (model X.prog X.w) X.A (pyIter (.ref s.heap.objs.size)) (PIE X pins σ tg R) E { s with heap:=s.heap.push { cls:=.type "range",data:=.fields #[.int lo t,.int hi u,.int 1 v]},toks:=tk}:=by
 refine wpAny_pyIter_range (IsRange.new ..) (small_one h1 h2 h3 h4) ?_
 have I1:Inv X pins σ H { s with heap:=s.heap.push { cls:=.type "range",data:=.fields #[.int lo t,.int hi u,.int 1 v]},toks:=tk}:=I.kept fun b o e=>Heap.get?_push_of_some _ e
 refine⟨(s.heap.push { cls:=.type "range",data:=.fields #[.int lo t,.int hi u,.int 1 v]}).objs.size,[(s.heap.push { cls:=.type "range",data:=.fields #[.int lo t,.int hi u,.int 1 v]}).objs.size],_,_,H,rfl,
  I1.kept (t':=tk) fun b o e=>Heap.get?_push_of_some _ e,zgW _ lo (hi - lo).toNat,?_,fun b hb=>?_,q⟩
 ·have e1:lo+((0:Nat):Int) * 1=lo:=by simp
  have e2:(((hi - lo).toNat:Nat):Int) - ((0:Nat):Int)=Builtin.Range.rangeSize lo hi 1:=by rw[rangeSize_one];split <;> lia
  show IsRangeIter _ _ (lo+((0:Nat):Int) * 1) ((((hi - lo).toNat:Nat):Int) - ((0:Nat):Int)) 1
  rw[e1,e2]
  exact Heap.get?_push_size _ rfl
 ·have e:b=(s.heap.push { cls:=.type "range",data:=.fields #[.int lo t,.int hi u,.int 1 v]}).objs.size:=by simpa using hb
  subst e
  exact I1.fpOk (Nat.le_refl _) (I1.hok.fresh (Nat.le_refl _))
noncomputable def iRng1(ta:TA):TI:=fun σ H R=>ta σ H fun vs H1=>∃ j:Int,vs=[.int j] /\ -(2 ^ 62)<=j/\j<2 ^ 62/\R (Itr 0 j.toNat) H1
noncomputable def iRng2(ta:TA):TI:=fun σ H R=>ta σ H fun vs H1=>∃ i j:Int,vs=[.int i,.int j]/\(-(2 ^ 62)<=i/\i<2 ^ 62 /\ -(2 ^ 62)<=j/\j<2 ^ 62)/\R (Itr i (j - i).toNat) H1
theorem pi_range1{a:Expr}{ta:TA}{p pos:Pos}(hg:Gl X "range")(hm:X.mg "range" = none)(ha:PA X [a] ta)(hs:starEach [a] X.env=[(false,eval a X.env)]:=by rfl):PI X tg (.Call (.Name "range" p) [a] [] pos) (iRng1 ta):=by
 intro pins s σ H R I h
 refine Call_ (zcm I hg hm boot_range (PyProof.Rows.callWith_type1 (thn (ha pos pins s σ H _ I h) fun us s1 ⟨vs,H1,I1,r1,q1⟩=>?_) hs rfl))
 obtain⟨j,e,q1,q2,q⟩:=q1
 subst e
 cases r1 with
 | cons r rr=>
  cases rr
  obtain⟨t,rfl⟩:=r
  exact call_range_1 (zf9 I1 (by lia) (by lia) q1 q2 (by simpa using q))
theorem pi_range2{a b:Expr}{ta:TA}{p pos:Pos}(hg:Gl X "range")(hm:X.mg "range" = none)(ha:PA X [a,b] ta)(hs:starEach [a,b] X.env=[(false,eval a X.env),(false,eval b X.env)]:=by rfl)(hs2:starEach [b] X.env=[(false,eval b X.env)]:=by rfl) :
  PI X tg (.Call (.Name "range" p) [a,b] [] pos) (iRng2 ta):=by
 intro pins s σ H R I h
 refine Call_ (zcm I hg hm boot_range (PyProof.Rows.callWith_type1 (thn (ha pos pins s σ H _ I h) fun us s1 ⟨vs,H1,I1,r1,q1⟩=>?_) (by rw[hs,hs2]) (by rw[hs2];rfl)))
 obtain⟨i,j,e,⟨q1,q2,q3,q4⟩,q⟩:=q1
 subst e
 cases r1 with
 | cons r rr=>
  cases rr with
  | cons r' rr=>
   cases rr
   obtain⟨t,rfl⟩:=r
   obtain⟨t',rfl⟩:=r'
   exact call_range_2 (zf9 I1 q1 q2 q3 q4 q)
noncomputable def tFor(wi:TI)(g:TG)(tb:TS):TS:=fun D σ H=>wi σ H fun J H1=>∃ W:Nat->Nat->St->Hp->Prop,(∃ m,W 0 m σ H1)/\∀ i m σ H,W i m σ H ->
 (J.stop i H/\D.nx σ H) \/ (J.go i H/\∃ N:St->Hp->Prop,(∀ σ' H',N σ' H'->∃ m',m'<m/\W (i+1) m' σ' H')/\∀ x H',J.yld i H x H'->g x σ H' fun σ2 H2=>tb { D with nx:=N,ct:=N,bk:=D.nx} σ2 H2)
noncomputable def zef(fp:List Addr)(h:Heap):List (Addr × Obj):=fp.filterMap fun b=>(h.get? b).map fun o=>(b,o)
theorem zcH{fp:List Addr}{h:Heap}{b:Addr}{o:Obj}(hb:b ∈ fp)(e:h.get? b=some o):(b,o) ∈ zef fp h:=List.mem_filterMap.mpr ⟨b,hb,by rw[e];rfl⟩
theorem of_pinsAt{fp:List Addr}{h:Heap}{p:Addr × Obj}(hp:p ∈ zef fp h):p.1 ∈ fp/\h.get? p.1=some p.2:=by
 obtain⟨b,hb,e⟩:=List.mem_filterMap.mp hp
 cases q:h.get? b with
 | none=>rw[q] at e;cases e
 | some o=>
  rw[q] at e
  have e':(b,o)=p:=Option.some.inj e
  subst e'
  exact⟨hb,q⟩
theorem Inv.pinned{pins:List (Addr × Obj)}{σ:St}{H:Hp}{s:Shared}{fp:List Addr}(I:Inv X pins σ H s)(hf:∀ b ∈ fp,zgP X pins H b)(ho:∀ b ∈ fp,∃ o,s.heap.get? b=some o/\∀ v,o.data ≠ .cell v):Inv X (pins ++ zef fp s.heap) σ H s:=
 I.pins_of fun p hp=>(List.mem_append.mp hp).elim (fun z=>I.pin p (List.mem_append_right _ z)) fun z=>by
  obtain⟨hb,e⟩:=of_pinsAt z
  obtain⟨f0,f1,f2,_⟩:=hf p.1 hb
  obtain⟨o,e',d⟩:=ho p.1 hb
  rw[e] at e';cases e'
  exact⟨e,f0,f1,f2,d⟩
theorem Inv.unpinned{pins pl:List (Addr × Obj)}{σ:St}{H:Hp}{s:Shared}(I:Inv X (pins ++ pl) σ H s):Inv X pins σ H s:=I.pins_of fun p hp=>I.pin p (List.mem_append_right _ (List.mem_append_left _ hp))
theorem ps_for{iter:Expr}{body:List Stmt}{wi:TI}{g:TG}{tb:TS}{pos:Pos}(hp:PassesOwn (model X.prog X.w) X.A X.env X.xe)(hc:X.calm=true)(hi:PI X tg iter wi)(hg:PG X tg g)(hb:PSs X body tb)
  (hs:∀ x,foldedSetIterable iter X.env x=pure x:=by intro _;rfl):PS X (.For tg iter body [] pos) (tFor wi g tb):=by
 intro pins s σ H D I h
 refine wpAny_For (thn (hi pins s σ H _ I h) fun v s1 h1=>thn h1 fun itv s2 h2=>?_) hs
 obtain⟨it,fp,tn,J,H2,e,I2,T,st2,f2,W,⟨m0,w0⟩,turn⟩:=h2
 subst e
 have stat:∀ {H':Hp},(∀ b ∈ fp,H' b=none)->∀ b ∈ fp,zgP X pins H' b:=fun hn b hb=>⟨hn b hb,(f2 b hb).2⟩
 refine codeAny_forLoop_any (fun n s'=>∃ i σ' H',Inv X pins σ' H' s'/\tn i s'.heap/\(∀ b ∈ fp,H' b=none)/\W i n σ' H') ?_ m0 ⟨0,σ,H2,I2,st2,fun b hb=>(f2 b hb).1,w0⟩
 rintro n s3 ⟨i,σ3,H3,I3,st3,fr3,w3⟩
 rcases turn i n σ3 H3 w3 with ⟨stop,qn⟩ | ⟨go,N,hN,step⟩
 ·refine wpAny_passesOwn hp (thn (T.done X rfl rfl rfl hc i pins s3 σ3 H3 X.xe I3 (stat fr3) st3 stop) fun r s4 ⟨hr,I4⟩=>?_)
  subst hr
  exact wpAny_execs_nil ⟨σ3,H3,I4,qn⟩
 ·refine wpAny_passesOwn hp (thn (T.item X rfl rfl rfl hc i pins s3 σ3 H3 X.xe I3 (stat fr3) st3 go) fun r s4 ⟨u,hr,h4⟩=>?_)
  subst hr
  refine wpAny_passesOwn hp (thn h4 fun _ s5 ⟨x,H5,I5,r5,y5,st5,fr5⟩=>?_)
  have I5':=I5.pinned (stat fr5) (T.obj _ _ st5)
  refine wpAny_passesOwn hp (thn (hg _ s5 σ3 H5 x u _ I5' r5 (step x H5 y5)) fun _ s6 ⟨σ6,H6,I6,q6⟩=>?_)
  refine wpAny_passesOwn hp (thn (hb _ s6 σ6 H6 _ I6 q6) fun f s7 q7=>?_)
  have again:∀ {σ7:St} {H7:Hp},Inv X (pins ++ zef fp s5.heap) σ7 H7 s7->N σ7 H7->∃ m,m<n/\∃ i σ' H',Inv X pins σ' H' s7/\tn i s7.heap/\(∀ b ∈ fp,H' b=none)/\W i m σ' H':=fun {σ7 H7} I7 n7=>by
   obtain⟨m',hm,w7⟩:=hN σ7 H7 n7
   refine⟨m',hm,i+1,σ7,H7,I7.unpinned,T.keep _ _ _ st5 fun b hb o e=>(I7.pin (b,o) (List.mem_append_right _ (List.mem_append_right _ (zcH hb e)))).1,fun b hb=>?_,w7⟩
   obtain⟨o,e,d⟩:=T.obj _ _ st5 b hb
   exact(I7.pin (b,o) (List.mem_append_right _ (List.mem_append_right _ (zcH hb e)))).2.1
  cases f with
  | next=>obtain⟨σ7,H7,I7,n7⟩:=q7;exact again I7 n7
  | cont=>obtain⟨σ7,H7,I7,n7⟩:=q7;exact again I7 n7
  | brk=>obtain⟨σ7,H7,I7,q7⟩:=q7;exact⟨σ7,H7,I7.unpinned,q7⟩
  | ret v=>obtain⟨x7,σ7,H7,I7,r7,q7⟩:=q7;exact⟨x7,σ7,H7,I7.unpinned,r7,q7⟩
end
end L2
namespace L2
open PySem PySem.Spec PyProof.Rows
noncomputable abbrev R2:=V->V->Hp->VK->Prop
noncomputable def OpR(X:Cx)(f:Value->Value->Sem Value)(r:R2):Prop:=
 ∀ (pins:List (Addr × Obj)) (s:Shared) (σ:St) (H:Hp) (x y:V) (v u:Value) (Q:VK),Inv X pins σ H s->RelV x v->RelV y u->r x y H Q ->
  wpAny (model X.prog X.w) X.A (f v u) (EP X pins σ Q) X.xe s
noncomputable def UnR(X:Cx)(f:Value->Sem Value)(r:V->Hp->VK->Prop):Prop:=
 ∀ (pins:List (Addr × Obj)) (s:Shared) (σ:St) (H:Hp) (x:V) (v:Value) (Q:VK),Inv X pins σ H s->RelV x v->r x H Q ->
  wpAny (model X.prog X.w) X.A (f v) (EP X pins σ Q) X.xe s
noncomputable def zcR(X:Cx)(f:Value)(r:List V->Hp->VK->Prop):Prop:=
 ∀ (pins:List (Addr × Obj)) (s:Shared) (σ:St) (H:Hp) (xs:List V) (us:List Value) (Q:VK),Inv X pins σ H s->Vals xs us->r xs H Q ->
  wpAny (model X.prog X.w) X.A (call f us) (EP X pins σ Q) X.xe s
noncomputable def tOp(r:R2)(ta tb:TE):TE:=fun σ H Q=>ta σ H fun x H1=>tb σ H1 fun y H2=>r x y H2 Q
noncomputable def tUn(r:V->Hp->VK->Prop)(ta:TE):TE:=fun σ H Q=>ta σ H fun x H1=>r x H1 Q
noncomputable def rI(C:Int->Int->Prop)(g:Int->Int->V):R2:=fun x y H Q=>∃ i j,x=.int i/\y=.int j/\C i j/\Q (g i j) H
noncomputable def rI0(g:Int->Int->V):R2:=fun x y H Q=>∃ i j,x=.int i/\y=.int j/\Q (g i j) H
noncomputable def rU(g:Int->V):V->Hp->VK->Prop:=fun x H Q=>∃ i,x=.int i/\Q (g i) H
section
variable {X:Cx}{a b c:Expr}{ta tb tc:TE}{pos:Pos}
theorem binT(ha:PE X a ta)(hb:PE X b tb){pins:List (Addr × Obj)}{s:Shared}{σ:St}{H:Hp}{R:V->V->Hp->Prop}(I:Inv X pins σ H s)
  (h:ta σ H fun x H1=>tb σ H1 fun y H2=>R x y H2) {Q:Value->Shared->Prop} {f:Value->Value->Sem Value}
  (hf:∀ v u s2 x y H2,Inv X pins σ H2 s2->RelV x v->RelV y u->R x y H2->wpAny (model X.prog X.w) X.A (f v u) Q X.xe s2) :
  wpAny (model X.prog X.w) X.A (eval a X.env) (fun v s₁=>wpAny (model X.prog X.w) X.A (eval b X.env) (fun u s₂=>wpAny (model X.prog X.w) X.A (f v u) Q X.xe s₂) X.xe s₁) X.xe s:=by
 refine thn (ha pins s σ H _ I h) fun v s1 ⟨x,H1,I1,r1,q1⟩=>?_
 refine thn (hb pins s1 σ H1 _ I1 q1) fun u s2 ⟨y,H2,I2,r2,q2⟩=>?_
 exact hf v u s2 x y H2 I2 r1 r2 q2
theorem pe_op{op:Operator}{r:R2}(ho:OpR X (binaryOp op) r)(ha:PE X a ta)(hb:PE X b tb):PE X (.BinOp a op b pos) (tOp r ta tb):=by
 intro pins s σ H Q I h
 exact wpAny_BinOp (binT ha hb I h fun v u s2 x y H2 I2 rx ry q=>ho pins s2 σ H2 x y v u Q I2 rx ry q)
theorem pe_un{op:UnaryOp}{r:V->Hp->VK->Prop}(ho:UnR X (unaryOp op) r)(ha:PE X a ta):PE X (.UnaryOp op a pos) (tUn r ta):=by
 intro pins s σ H Q I h
 exact UnaryOp_ (thn (ha pins s σ H _ I h) fun v s1 ⟨x,H1,I1,r1,q1⟩=>ho pins s1 σ H1 x v Q I1 r1 q1)
theorem opI{f:Value->Value->Sem Value}{C:Int->Int->Prop}{g:Int->Int->Int}
  (rule:∀ (i j:Int) (t u:Tok) (s:Shared) (Q:Value->Shared->Prop) (E:Value->Shared->Prop),C i j->Q (.int (g i j) s.toks) { s with toks:=s.toks+1}->wpAny (model X.prog X.w) X.A (f (.int i t) (.int j u)) Q E s) :
  OpR X f (rI C fun i j=>.int (g i j)):=by
 intro pins s σ H x y v u Q I rx ry h
 obtain⟨i,j,rfl,rfl,hc,q⟩:=h
 obtain⟨t,rfl⟩:=rx
 obtain⟨t',rfl⟩:=ry
 exact rule i j t t' s _ _ hc ⟨.int (g i j),H,I.tok _,⟨_,rfl⟩,q⟩
theorem opI0{f:Value->Value->Sem Value}{g:Int->Int->Int}
  (rule:∀ (i j:Int) (t u:Tok) (s:Shared) (Q:Value->Shared->Prop) (E:Value->Shared->Prop),Q (.int (g i j) s.toks) { s with toks:=s.toks+1}->wpAny (model X.prog X.w) X.A (f (.int i t) (.int j u)) Q E s) :
  OpR X f (rI0 fun i j=>.int (g i j)):=by
 intro pins s σ H x y v u Q I rx ry h
 obtain⟨i,j,rfl,rfl,q⟩:=h
 obtain⟨t,rfl⟩:=rx
 obtain⟨t',rfl⟩:=ry
 exact rule i j t t' s _ _ ⟨.int (g i j),H,I.tok _,⟨_,rfl⟩,q⟩
theorem opB0{f:Value->Value->Sem Value}{g:Int->Int->Bool}
  (rule:∀ (i j:Int) (t u:Tok) (s:Shared) (Q:Value->Shared->Prop) (E:Value->Shared->Prop),Q (.bool (g i j)) s->wpAny (model X.prog X.w) X.A (f (.int i t) (.int j u)) Q E s) :
  OpR X f (rI0 fun i j=>.bl (g i j)):=by
 intro pins s σ H x y v u Q I rx ry h
 obtain⟨i,j,rfl,rfl,q⟩:=h
 obtain⟨t,rfl⟩:=rx
 obtain⟨t',rfl⟩:=ry
 exact rule i j t t' s _ _ ⟨.bl (g i j),H,I,rfl,q⟩
noncomputable def CDiv(i j:Int):Prop:=0<j/\j<1073741824
noncomputable def CPow(i j:Int):Prop:=0<=j/\j<=1000000/\i.natAbs<2 ^ 64
noncomputable def CMul(i j:Int):Prop:=(-(2 ^ 64)<i/\i<2 ^ 64) \/ (-(2 ^ 64)<j/\j<2 ^ 64)
theorem CMul.ok{i j:Int}(h:CMul i j):IntMulOk i j:=by
 rcases h with ⟨h1,h2⟩ | ⟨h1,h2⟩
 ·exact .of_left (intBits_le_64 h1 h2)
 ·exact .of_right (intBits_le_64 h1 h2)
theorem op_add:OpR X (binaryOp .Add) (rI0 fun i j=>.int (i+j)):=opI0 fun _ _ _ _ _ _ _ q=>add_int q
theorem op_sub:OpR X (binaryOp .Sub) (rI0 fun i j=>.int (i - j)):=opI0 fun _ _ _ _ _ _ _ q=>sub_int q
theorem op_mul:OpR X (binaryOp .Mult) (rI CMul fun i j=>.int (i * j)):=opI fun _ _ _ _ _ _ _ hc q=>mul_int q hc.ok
theorem op_fdiv:OpR X (binaryOp .FloorDiv) (rI CDiv fun i j=>.int (i / j)):=opI fun i j _ _ _ _ _ hc q=>by
 have h1:(0:Int)<j:=hc.1
 have h2:j<1073741824:=hc.2
 exact floordiv_int (by lia) (by rw[Int.fdiv_eq_ediv_of_nonneg i (by lia)];exact q) (.inl (PyProof.noPylong_small (by lia)))
theorem op_mod:OpR X (binaryOp .Mod) (rI (fun _ j=>0<j) fun i j=>.int (i % j)):=opI fun i j _ _ _ _ _ hc q=>by
 have h1:(0:Int)<j:=hc
 exact mod_int' (by lia) (by rw[Int.fmod_eq_emod_of_nonneg i (by lia)];exact q)
theorem op_pow:OpR X (binaryOp .Pow) (rI CPow fun i j=>.int (i ^ j.toNat)):=opI fun _ _ _ _ _ _ _ hc q=>pow_int_small hc.1 hc.2.1 hc.2.2 q
theorem unI{f:Value->Sem Value}{g:Int->Int}
  (rule:∀ (i:Int) (t:Tok) (s:Shared) (Q:Value->Shared->Prop) (E:Value->Shared->Prop),Q (.int (g i) s.toks) { s with toks:=s.toks+1}->wpAny (model X.prog X.w) X.A (f (.int i t)) Q E s) :
  UnR X f (rU fun i=>.int (g i)):=by
 intro pins s σ H x v Q I rx h
 obtain⟨i,rfl,q⟩:=h
 obtain⟨t,rfl⟩:=rx
 exact rule i t s _ _ ⟨.int (g i),H,I.tok _,⟨_,rfl⟩,q⟩
theorem un_neg:UnR X (unaryOp .USub) (rU fun i=>.int (-i)):=unI fun _ _ _ _ _ q=>neg_int q
end
noncomputable def scal:V->V->Bool
 | .non,.non=>true | .non,.int _=>true | .int _,.non=>true | .non,.bl _=>true | .bl _,.non=>true | .non,.str _=>true | .str _,.non=>true
 | .int _,.int _=>true | .bl _,.bl _=>true | .str _,.str _=>true | .byt _,.byt _=>true
 | .int _,.str _=>true | .str _,.int _=>true | .bl _,.str _=>true | .str _,.bl _=>true
 | _,_=>false
noncomputable def rEq:R2:=fun x y H Q=>scal x y=true/\Q (.bl (decide (x=y))) H
noncomputable def rNe:R2:=fun x y H Q=>scal x y=true/\Q (.bl (!decide (x=y))) H
theorem dec_int{i j:Int}:decide (V.int i=V.int j)=(i == j):=by
 rw[Bool.eq_iff_iff]
 simp
theorem dec_bl{i j:Bool}:decide (V.bl i=V.bl j)=(i == j):=by
 rw[Bool.eq_iff_iff]
 simp
theorem dec_str{i j:Str}:decide (V.str i=V.str j)=(i == j):=by
 rw[Bool.eq_iff_iff]
 simp
theorem dec_byt{i j:Array UInt8}:decide (V.byt i=V.byt j)=(i.toList == j.toList):=by
 rw[Bool.eq_iff_iff]
 cases i
 cases j
 simp
section
variable {X:Cx}{a b c:Expr}{ta tb tc:TE}{pos:Pos}
theorem zaA{pins:List (Addr × Obj)}{σ:St}{H:Hp}{s:Shared}{Q:VK}{k k':Bool}(I:Inv X pins σ H s)(q:Q (.bl k) H)(e:k=k'):EP X pins σ Q (.bool k') s:=by
 subst e
 exact⟨.bl k,H,I,rfl,q⟩
theorem op_eq:OpR X (compareOp .Eq) rEq:=by
 intro pins s σ H x y v u Q I rx ry h
 obtain⟨hs,q⟩:=h
 cases x with
 | non=>
  cases rx
  cases y with
  | non=>cases ry;exact PySem.EqNone.eq_none_none (zaA I q (by simp))
  | bl j=>cases ry;exact PySem.EqNone.eq_none_bool (zaA I q (by simp))
  | int j=>obtain⟨t',rfl⟩:=ry;exact PySem.EqNone.eq_none_int (zaA I q (by simp))
  | str j=>obtain⟨t',rfl⟩:=ry;exact PySem.EqNone.eq_none_str (zaA I q (by simp))
  | _=>exact absurd (show false=true from hs) Bool.false_ne_true
 | bl i=>
  cases rx
  cases y with
  | non=>cases ry;exact PySem.EqNone.eq_bool_none (zaA I q (by simp))
  | bl j=>cases ry;exact eq_bool (zaA I q dec_bl)
  | str j=>obtain⟨t',rfl⟩:=ry;exact PySem.EqMixed.eq_bool_str (zaA I q (by simp))
  | _=>exact absurd (show false=true from hs) Bool.false_ne_true
 | int i=>
  obtain⟨t,rfl⟩:=rx
  cases y with
  | non=>cases ry;exact PySem.EqNone.eq_int_none (zaA I q (by simp))
  | int j=>obtain⟨t',rfl⟩:=ry;exact eq_int (zaA I q dec_int)
  | str j=>obtain⟨t',rfl⟩:=ry;exact PySem.EqMixed.eq_int_str (zaA I q (by simp))
  | _=>exact absurd (show false=true from hs) Bool.false_ne_true
 | str i=>
  obtain⟨t,rfl⟩:=rx
  cases y with
  | non=>cases ry;exact PySem.EqNone.eq_str_none (zaA I q (by simp))
  | bl j=>cases ry;exact PySem.EqMixed.eq_str_bool (zaA I q (by simp))
  | int j=>obtain⟨t',rfl⟩:=ry;exact PySem.EqMixed.eq_str_int (zaA I q (by simp))
  | str j=>obtain⟨t',rfl⟩:=ry;exact eq_str (zaA I q dec_str)
  | _=>exact absurd (show false=true from hs) Bool.false_ne_true
 | byt i=>
  obtain⟨t,rfl⟩:=rx
  cases y with
  | byt j=>obtain⟨t',rfl⟩:=ry;exact PySem.W.eq_bytes (zaA I q dec_byt)
  | _=>exact absurd (show false=true from hs) Bool.false_ne_true
 | _=>cases y <;> exact absurd (show false=true from hs) Bool.false_ne_true
theorem op_ne:OpR X (compareOp .NotEq) rNe:=by
 intro pins s σ H x y v u Q I rx ry h
 obtain⟨hs,q⟩:=h
 cases x with
 | non=>
  cases rx
  cases y with
  | non=>cases ry;exact PySem.EqNone.ne_none_none (zaA I q (by simp))
  | bl j=>cases ry;exact PySem.EqNone.ne_none_bool (zaA I q (by simp))
  | int j=>obtain⟨t',rfl⟩:=ry;exact PySem.EqNone.ne_none_int (zaA I q (by simp))
  | str j=>obtain⟨t',rfl⟩:=ry;exact PySem.EqNone.ne_none_str (zaA I q (by simp))
  | _=>exact absurd (show false=true from hs) Bool.false_ne_true
 | bl i=>
  cases rx
  cases y with
  | non=>cases ry;exact PySem.EqNone.ne_bool_none (zaA I q (by simp))
  | bl j=>cases ry;exact ne_bool (zaA I q (congrArg not dec_bl))
  | str j=>obtain⟨t',rfl⟩:=ry;exact PySem.EqMixed.ne_bool_str (zaA I q (by simp))
  | _=>exact absurd (show false=true from hs) Bool.false_ne_true
 | int i=>
  obtain⟨t,rfl⟩:=rx
  cases y with
  | non=>cases ry;exact PySem.EqNone.ne_int_none (zaA I q (by simp))
  | int j=>obtain⟨t',rfl⟩:=ry;exact ne_int (zaA I q (congrArg not dec_int))
  | str j=>obtain⟨t',rfl⟩:=ry;exact PySem.EqMixed.ne_int_str (zaA I q (by simp))
  | _=>exact absurd (show false=true from hs) Bool.false_ne_true
 | str i=>
  obtain⟨t,rfl⟩:=rx
  cases y with
  | non=>cases ry;exact PySem.EqNone.ne_str_none (zaA I q (by simp))
  | bl j=>cases ry;exact PySem.EqMixed.ne_str_bool (zaA I q (by simp))
  | int j=>obtain⟨t',rfl⟩:=ry;exact PySem.EqMixed.ne_str_int (zaA I q (by simp))
  | str j=>obtain⟨t',rfl⟩:=ry;exact ne_str (zaA I q (congrArg not dec_str))
  | _=>exact absurd (show false=true from hs) Bool.false_ne_true
 | byt i=>
  obtain⟨t,rfl⟩:=rx
  cases y with
  | byt j=>obtain⟨t',rfl⟩:=ry;exact PySem.W.ne_bytes (zaA I q (congrArg not dec_byt))
  | _=>exact absurd (show false=true from hs) Bool.false_ne_true
 | _=>cases y <;> exact absurd (show false=true from hs) Bool.false_ne_true
theorem op_lt:OpR X (compareOp .Lt) (rI0 fun i j=>.bl (decide (i<j))):=opB0 fun _ _ _ _ _ _ _ q=>lt_int q
theorem op_le:OpR X (compareOp .LtE) (rI0 fun i j=>.bl (decide (i<=j))):=opB0 fun _ _ _ _ _ _ _ q=>le_int q
theorem op_gt:OpR X (compareOp .Gt) (rI0 fun i j=>.bl (decide (j<i))):=opB0 fun _ _ _ _ _ _ _ q=>gt_int q
theorem op_ge:OpR X (compareOp .GtE) (rI0 fun i j=>.bl (decide (j<=i))):=opB0 fun _ _ _ _ _ _ _ q=>ge_int q
theorem op_in_str:OpR X (compareOp .In) (fun x y H Q=>∃ i j,x=.str i/\y=.str j/\Q (.bl (!(Builtin.Str.occurrences j i 0 j.length 1).isEmpty)) H):=by
 intro pins s σ H x y v u Q I rx ry h
 obtain⟨i,j,rfl,rfl,q⟩:=h
 obtain⟨t,rfl⟩:=rx
 obtain⟨t',rfl⟩:=ry
 exact in_str (zaA I q rfl)
theorem op_isN:OpR X (compareOp .Is) (fun x y H Q=>y=.non/\Q (.bl (decide (x=.non))) H):=by
 intro pins s σ H x y v u Q I rx ry h
 obtain⟨rfl,q⟩:=h
 cases ry
 refine is_none_gen (zaA I q ?_)
 cases x <;> first
  | (cases rx;rfl)
  | (obtain⟨t,rfl⟩:=rx;rfl)
theorem op_notN:OpR X (compareOp .IsNot) (fun x y H Q=>y=.non/\Q (.bl (!decide (x=.non))) H):=by
 intro pins s σ H x y v u Q I rx ry h
 obtain⟨rfl,q⟩:=h
 cases ry
 refine isnot_none_gen (zaA I q ?_)
 cases x <;> first
  | (cases rx;rfl)
  | (obtain⟨t,rfl⟩:=rx;rfl)
theorem ze9:OpR X (compareOp .NotIn) (fun x y H Q=>∃ i j,x=.str i/\y=.str j/\Q (.bl (!(!(Builtin.Str.occurrences j i 0 j.length 1).isEmpty))) H):=by
 intro pins s σ H x y v u Q I rx ry h
 obtain⟨i,j,rfl,rfl,q⟩:=h
 obtain⟨t,rfl⟩:=rx
 obtain⟨t',rfl⟩:=ry
 exact notIn_str (zaA I q rfl)
theorem zbH(b:Expr){op:CmpOp}(h:op ≠ .In:=by decide)(h2:op ≠ .NotIn:=by decide):behindInMarks op b=false:=by
 have e1:(op == CmpOp.In)=false:=by cases op <;> first | rfl | exact absurd rfl h
 have e2:(op == CmpOp.NotIn)=false:=by cases op <;> first | rfl | exact absurd rfl h2
 cases b <;> simp[behindInMarks,e1,e2]
theorem pe_cmpR{op:CmpOp}{r:R2}(ho:OpR X (compareOp op) r)(ha:PE X a ta)(hb:PE X b tb)(hm:behindInMarks op b=false):PE X (.Compare a [op] [b] pos) (tOp r ta tb):=by
 intro pins s σ H Q I h
 exact wpAny_Compare1 (binT ha hb I h fun v u s2 x y H2 I2 rx ry q=>ho pins s2 σ H2 x y v u Q I2 rx ry q) hm
noncomputable def zey(t:TE):TT:=fun σ H Q=>t σ H fun x H'=>∃ k,x=.bl k/\Q k H'
theorem pt_cmpR{op:CmpOp}{r:R2}(ho:OpR X (compareOp op) r)(ha:PE X a ta)(hb:PE X b tb)(hm:behindInMarks op b=false):PT X (.Compare a [op] [b] pos) (zey (tOp r ta tb)):=by
 intro pins s σ H Q I h
 refine wpAny_isTrue_Compare1 (thn (ha pins s σ H _ I h) fun v s1 ⟨x,H1,I1,r1,q1⟩=>thn (hb pins s1 σ H1 _ I1 q1) fun u s2 ⟨y,H2,I2,r2,q2⟩=>
  thn (ho pins s2 σ H2 x y v u _ I2 r1 r2 q2) fun c s3 ⟨z,H3,I3,r3,k,e,q3⟩=>?_) hm
 subst e
 cases r3
 exact wpAny_truthy_bool ⟨H3,I3,q3⟩
theorem zeh:(sizeLine:Nat)<2 ^ 63:=by rw[sizeLine_eq];decide
theorem zgT:OpR X (binaryOp .Add) (fun x y H Q=>∃ i j,x=.str i/\y=.str j/\i.length+j.length<=sizeLine/\Q (.str (i ++ j)) H):=by
 intro pins s σ H x y v u Q I rx ry h
 obtain⟨i,j,rfl,rfl,hz,q⟩:=h
 obtain⟨t,rfl⟩:=rx
 obtain⟨t',rfl⟩:=ry
 exact add_str (fun t' tk=>⟨.str (i ++ j),H,I.tok _,⟨_,rfl⟩,q⟩) hz
theorem zeJ{x:V}{us:List Value}(r:Vals [x] us):∃ u,us=[u]/\RelV x u:=by
 cases r with
 | cons r1 r2=>cases r2;exact⟨_,rfl,r1⟩
theorem vals2{x y:V}{us:List Value}(r:Vals [x,y] us):∃ u w',us=[u,w']/\RelV x u/\RelV y w':=by
 cases r with
 | cons r1 r2=>
  cases r2 with
  | cons r3 r4=>cases r4;exact⟨_,_,rfl,r1,r3⟩
theorem call_abs:zcR X (.builtin "abs") (fun xs H Q=>∃ i,xs=[.int i]/\Q (.int (if i<0 then -i else i)) H):=by
 intro pins s σ H xs us Q I r h
 obtain⟨i,rfl,q⟩:=h
 obtain⟨u,rfl,t,rfl⟩:=zeJ r
 exact call_abs_int fun u tk=>⟨.int (if i<0 then -i else i),H,I.tok _,⟨_,rfl⟩,q⟩
theorem call_int1:zcR X (.type "int") (fun xs H Q=>(∃ i,xs=[.int i]/\Q (.int i) H) \/ ∃ k,xs=[.bl k]/\Q (.int (if k then 1 else 0)) H):=by
 intro pins s σ H xs us Q I r h
 rcases h with ⟨i,rfl,q⟩ | ⟨k,rfl,q⟩
 ·obtain⟨u,rfl,t,rfl⟩:=zeJ r
  exact call_int_int ⟨.int i,H,I,⟨_,rfl⟩,q⟩
 ·obtain⟨u,rfl,r1⟩:=zeJ r
  cases r1
  exact call_int_bool ⟨.int (if k then 1 else 0),H,I.tok _,⟨_,rfl⟩,q⟩
end
end L2
namespace L2
open PySem PySem.Spec PyProof.Rows
structure ObjM(h:Heap)(x dx C:Addr)(mA:Str->Option Value):Prop where
 obj:h.get? x=some (PySem.W.instObj C dx)
 ns:h.Ns1 dx mA
 ne:dx ≠ x
theorem lookIn_ns{h:Heap}{dx:Addr}{mA:Str->Option Value}(n:h.Ns1 dx mA):∃ od,h.get? dx=some od/\∀ name,PySem.W.lookIn name od=some (mA name):=by
 obtain⟨o,es,ep,ho,hd,hk,_,hm⟩:=n
 refine⟨o,ho,fun name=>?_⟩
 have e:=hm name
 unfold nsFind findBy at e
 rw[<- Array.find?_toList] at e
 unfold PySem.W.lookIn
 rw[hd]
 dsimp only
 split
 ·rename_i y q
  rw[q] at e
  exact congrArg some e
 ·rename_i q
  rw[q] at e
  have a:es.toList.any (·.refKey)=false:=by
   rw[List.any_eq_false]
   intro y hy
   obtain⟨z,t,hkey⟩:=hk y (Array.mem_toList_iff.mp hy)
   simp[DictEntry.refKey,hkey]
  have a':¬ es.toList.any (·.refKey)=true:=by rw[a];exact Bool.false_ne_true
  rw[if_neg a']
  exact congrArg some e
theorem ObjM.look{h:Heap}{x dx C:Addr}{mA:Str->Option Value}(I:ObjM h x dx C mA):∃ od,PySem.W.InstAt h x (PySem.W.instObj C dx) C (some od)/\∀ name,PySem.W.lookIn name od=some (mA name):=
 let⟨od,ho,hl⟩:=lookIn_ns I.ns
 ⟨od,⟨I.obj,rfl,rfl,ho⟩,hl⟩
section
variable {prog:Program}{w:World}{A:Around}{E:Value->Shared->Prop}{s:Shared}{K:PySem.W.Frag}{x dx C f:Addr}{mA:Str->Option Value}{name:Str}{v:Value}
theorem get_map{expr:Bool}{Q:Value->Shared->Prop}(X:K.In s.heap)(I:ObjM s.heap x dx C mA)(hg:PySem.W.plainGet K C name=true)(hh:PySem.W.hasDictIn K C=true)
  (ha:PySem.W.findIn K (.ref C) name=some none) (hv:mA name=some v) (hv':PySem.W.handedIn v=true) (h:Q v { s with toks:=s.toks+1}) :
  wpAny (model prog w) A (getAttr (.ref x) name expr) Q E s:=by
 obtain⟨od,J,hl⟩:=I.look
 exact PySem.W.get_value X J (PySem.W.plainGet_of hg).1 (PySem.W.findObj_own hh ha rfl (by rw[hl,hv])) hv' h
theorem get_meth{pl:Sem Bool}{Q:Value × List Value->Shared->Prop}(X:K.In s.heap)(I:ObjM s.heap x dx C mA)(hg:PySem.W.plainGet K C name=true)
  (hf:PySem.W.findIn K (.ref C) name=some (some (.ref f))) (ht:PySem.W.isFn K (.ref f)=true) (hv:mA name=none) (h:Q (.ref f,[.ref x]) s) :
  wpAny (model prog w) A (getMethod (.ref x) name pl) Q E s:=by
 obtain⟨od,J,hl⟩:=I.look
 exact PySem.W.method_fn X J (PySem.W.plainGet_of hg).1 (PySem.W.plainGet_of hg).2 hf (beq_iff_eq.mp ht) (by show(PySem.W.lookIn name od).map (·.isSome)=some false;rw[hl,hv];rfl) h
theorem set_map{ns:List Str}{Q:Unit->Shared->Prop}(X:K.In s.heap)(I:ObjM s.heap x dx C mA)
  (hs:PySem.W.findIn K (.ref C) "__setattr__" = some (some (.builtin "object.__setattr__"))) (hp:PySem.W.plainOver K C=true) (ht:PySem.W.takerIn K C name=some none) (hh:PySem.W.hasDictIn K C=true)
  (hw:PySem.Within mA ns) (hsz:ns.length<=sizeLine)
  (h:∀ h',ObjM h' x dx C (fun y=>if y=name then some v else mA y)->Heap.SameBut dx s.heap h'->Q () { s with heap:=h',toks:=s.toks+2}) :
  wpAny (model prog w) A (setAttr (.ref x) name v) Q E s:=by
 obtain⟨od,J,hl⟩:=I.look
 refine PySem.W.set_plain X J hs (PySem.W.osa_open (s:={ s with toks:=s.toks+1}) (r:=none) X J hp ht fun b=>?_)
 obtain⟨cd,hc,hd'⟩:=PySem.W.any_some hh
 have hx:s.heap.get? x=some ⟨.ref C,some dx,.plain,#[]⟩:=I.obj
 refine wpAny_bind (wpAny_pure (wpAny_bind (wpAny_bind (wpAny_loadPart hx (wpAny_bind (PySem.W.Looks.here (s:={ s with toks:=s.toks+1}) (PySem.W.looks_clsIn X hc) ?_))))))
 rw[hd']
 refine wpAny_pure (a:=some dx) (wpAny_bind (wpAny_pure (wpAny_bind ?_)))
 refine wpAny_nsSet1 (s:={ s with toks:=s.toks+1}) I.ns fun h' hn2 hs2=>?_
 obtain⟨oD,esD,epD,hoD,hdD,hcD⟩:=hn2.count (PySem.Within.cons name v hw)
 refine wpAny_bind (wpAny_lookBehind hoD (by rw[hdD];exact pastItsLine_dict (Nat.le_trans hcD (by rw[List.length_cons];lia))) ?_)
 exact wpAny_pure (h _ ⟨(hs2.2 _ (Ne.symm I.ne)).trans I.obj,hn2,I.ne⟩ hs2)
theorem make_map{R:Result->Shared->Prop}{vs:List Value}{kw:List (Str × Value)}(X:K.In s.heap)(hm:PySem.W.makesIn K C=true)
  (hi:PySem.W.findIn K (.ref C) "__init__" = some (some (.ref f))) (hf:PySem.W.typeIn K (.ref f)=some (.type "function"))
  (h:codeAny (model prog w) (A.under (.builtin "type.__call__" ⟨.ref C :: vs,kw⟩)) (.call (.ref f) ⟨.ref (s.heap.objs.size+1) :: vs,kw⟩) (PySem.W.InitBack (s.heap.objs.size+1) R)
   { s with heap:=(s.heap.push PySem.W.emptyDict).push (PySem.W.instObj C s.heap.objs.size)}) :
  codeAny (model prog w) A (.call (.ref C) ⟨vs,kw⟩) R s:=by
 obtain⟨hh,g,d,t,os⟩:=s
 exact PySem.W.make_core (PySem.W.makes_of X hm) (PySem.W.looks_findIn X hi) (fun self=>PySem.W.bind_fn X self hf) (.inl rfl) h
end
noncomputable def zd4(f:Str)(v:V):List (Str × V)->List (Str × V)
 | []=>[(f,v)]
 | (g,x) :: r=>if g=f then (g,v) :: r else (g,x) :: zd4 f v r
theorem zdR(f g:Str)(v:V):∀ fs:List (Str × V),(zd4 f v fs).lookup g=if g=f then some v else fs.lookup g
 | []=>by
  show List.lookup g [(f,v)]=_
  by_cases h:g=f
  ·have hb:(g == f)=true:=beq_iff_eq.mpr h
   simp only[List.lookup,hb,if_pos h]
  ·have hb:(g == f)=false:=beq_eq_false_iff_ne.mpr h
   simp only[List.lookup,hb,if_neg h]
 | (k,x) :: r=>by
  have ih:=zdR f g v r
  rw[show zd4 f v ((k,x) :: r)=(if k=f then (k,v) :: r else (k,x) :: zd4 f v r) from rfl]
  by_cases hk:k=f
  ·rw[if_pos hk]
   by_cases h:g=k
   ·have hb:(g == k)=true:=beq_iff_eq.mpr h
    simp only[List.lookup,hb,if_pos (h.trans hk)]
   ·have hb:(g == k)=false:=beq_eq_false_iff_ne.mpr h
    simp only[List.lookup,hb,if_neg (fun e:g=f=>h (e.trans hk.symm))]
  ·rw[if_neg hk]
   by_cases h:g=k
   ·have hb:(g == k)=true:=beq_iff_eq.mpr h
    simp only[List.lookup,hb,if_neg (fun e:g=f=>hk (h.symm.trans e))]
   ·have hb:(g == k)=false:=beq_eq_false_iff_ne.mpr h
    simp only[List.lookup,hb]
    exact ih
theorem zdM(f:Str)(v:V):∀ fs:List (Str × V),f ∈ (zd4 f v fs).map (·.1)/\∀ g,g ∈ fs.map (·.1)->g ∈ (zd4 f v fs).map (·.1)
 | []=>⟨by simp[zd4],fun g h=>by simp at h⟩
 | (k,x) :: r=>by
  obtain⟨i1,i2⟩:=zdM f v r
  rw[show zd4 f v ((k,x) :: r)=(if k=f then (k,v) :: r else (k,x) :: zd4 f v r) from rfl]
  by_cases hk:k=f
  ·rw[if_pos hk]
   subst hk
   exact⟨by simp,fun g h=>by simpa using h⟩
  ·rw[if_neg hk]
   refine⟨?_,fun g h=>?_⟩
   ·rw[List.map_cons]
    exact List.mem_cons_of_mem _ i1
   ·rw[List.map_cons] at h ⊢
    rcases List.mem_cons.mp h with e | e
    ·exact List.mem_cons.mpr (.inl e)
    ·exact List.mem_cons_of_mem _ (i2 g e)
theorem zdL(f:Str)(v:V):∀ fs:List (Str × V),(zd4 f v fs).length<=fs.length+1
 | []=>by simp[zd4]
 | (k,x) :: r=>by
  have ih:=zdL f v r
  rw[show zd4 f v ((k,x) :: r)=(if k=f then (k,v) :: r else (k,x) :: zd4 f v r) from rfl]
  by_cases hk:k=f
  ·rw[if_pos hk,List.length_cons,List.length_cons];lia
  ·rw[if_neg hk,List.length_cons,List.length_cons];lia
theorem RelO.some_of{v:V}{o:Option Value}(r:RelO (some v) o):∃ u,o=some u/\RelV v u:=by
 cases o with
 | none=>exact(show False from r).elim
 | some u=>exact⟨u,rfl,r⟩
theorem RelO.none_of{o:Option Value}(r:RelO none o):o=none:=by
 cases o with
 | none=>rfl
 | some u=>exact(show False from r).elim
theorem handed_of{v:V}{u:Value}(r:RelV v u):PySem.W.handedIn u=true:=by
 cases v with
 | non=>cases (show u=Value.none from r);rfl
 | bl b=>cases (show u=Value.bool b from r);rfl
 | int i=>obtain⟨t,e⟩:=(show ∃ t,u=Value.int i t from r);cases e;rfl
 | str x=>obtain⟨t,e⟩:=(show ∃ t,u=Value.str x t from r);cases e;rfl
 | byt b=>obtain⟨t,e⟩:=(show ∃ t,u=Value.bytes b t from r);cases e;rfl
 | flt b=>obtain⟨t,e⟩:=(show ∃ t,u=Value.float b t from r);cases e;rfl
 | ref a=>cases (show u=Value.ref a from r);rfl
 | ty n=>cases (show u=Value.type n from r);rfl
section
variable {P:Program}{w:World}{H H':Hp}{h h':Heap}{a C dx:Addr}{fs fs':List (Str × V)}
theorem zeT(hok:HOk P w H h)(e:H a=some (.ins C dx fs)):∃ mA,ObjM h a dx C mA/\(∀ f,RelO (fs.lookup f) (mA f))/\PySem.Within mA (fs.map (·.1))/\fs.length<=1000/\H dx=some (.own a):=by
 obtain⟨d,z,ne,ob,mA,n,r,q⟩:=(show ObjOk P w H h a (.ins C dx fs) from hok a _ e)
 exact⟨mA,⟨ob,n,ne⟩,r,q,z,d⟩
end
structure Cls(K:PySem.W.Frag)(C:Addr):Prop where
 pg:PySem.W.plainGet K C Str.empty=true
 hd:PySem.W.hasDictIn K C=true
 po:PySem.W.plainOver K C=true
 sa:PySem.W.findIn K (.ref C) "__setattr__" = some (some (.builtin "object.__setattr__"))
theorem Cls.get{K:PySem.W.Frag}{C:Addr}(c:Cls K C)(f:Str):PySem.W.plainGet K C f=true:=c.pg
noncomputable def NoAttr(K:PySem.W.Frag)(C:Addr)(f:Str):Prop:=PySem.W.findIn K (.ref C) f=some none
theorem NoAttr.taker{K:PySem.W.Frag}{C:Addr}{f:Str}(n:NoAttr K C f):PySem.W.takerIn K C f=some none:=by
 unfold PySem.W.takerIn
 rw[show PySem.W.findIn K (.ref C) f=some none from n]
 rfl
structure Con(K:PySem.W.Frag)(C:Addr)(f:Str)(v:V)(u:Value):Prop where
 at_:PySem.W.findIn K (.ref C) f=some (some u)
 rel:RelV v u
 get:PySem.W.specialIn K u "__get__" = some none
 cp:PySem.W.copiedNames.contains f=false
structure Meth(K:PySem.W.Frag)(C:Addr)(m:Str)(f:Addr):Prop where
 at_:PySem.W.findIn K (.ref C) m=some (some (.ref f))
 fn:PySem.W.isFn K (.ref f)=true
 kp:PySem.W.keepIn K (.ref f)=true
section
variable {X:Cx}{pins:List (Addr × Obj)}{σ:St}{H:Hp}{s:Shared}{a C dx:Addr}{fs:List (Str × V)}{f:Str}{v:V}{A:Around}{E:Value->Shared->Prop}
theorem zg3{b:Bool}{Q:Value->Shared->Prop}(I:Inv X pins σ H s)(e:H a=some (.ins C dx fs))(c:Cls X.K C)(n:NoAttr X.K C f)(l:fs.lookup f=some v)
  (h:∀ u s',Inv X pins σ H s'->RelV v u->Q u s'):wpAny (model X.prog X.w) A (getAttr (.ref a) f b) Q E s:=by
 obtain⟨mA,O,r,_,_,_⟩:=zeT I.hok e
 obtain⟨u,hu,ru⟩:=RelO.some_of (v:=v) (o:=mA f) (by rw[<- l];exact r f)
 exact get_map I.kIn O (c.get f) c.hd n hu (handed_of ru) (h u _ (I.tok _) ru)
theorem zgN{m:Str}{g:Addr}{pl:Sem Bool}{Q:Value × List Value->Shared->Prop}(I:Inv X pins σ H s)(e:H a=some (.ins C dx fs))(c:Cls X.K C)(k:Meth X.K C m g)(l:fs.lookup m=none)
  (h:Q (.ref g,[.ref a]) s):wpAny (model X.prog X.w) A (getMethod (.ref a) m pl) Q E s:=by
 obtain⟨mA,O,r,_,_,_⟩:=zeT I.hok e
 have hn:mA m=none:=RelO.none_of (by rw[<- l];exact r m)
 exact get_meth I.kIn O (c.get m) k.at_ k.fn hn h
theorem zgS{y:V}{u:Value}{Q:Unit->Shared->Prop}(I:Inv X pins σ H s)(e:H a=some (.ins C dx fs))(c:Cls X.K C)(n:NoAttr X.K C f)(hl:fs.length<1000)(ry:RelV y u)
  (h:∀ s',Inv X pins σ (upd H a (.ins C dx (zd4 f y fs))) s'->Q () s'):wpAny (model X.prog X.w) A (setAttr (.ref a) f u) Q E s:=by
 obtain⟨mA,O,r,wi,_,ho⟩:=zeT I.hok e
 have hz:(fs.map (·.1)).length<=sizeLine:=by rw[List.length_map,sizeLine_eq];lia
 refine set_map I.kIn O c.sa c.po n.taker c.hd wi hz fun h' O' sb=>h _ ?_
 have hd:∃ o,h'.get? dx=some o:=let⟨o,_,_,e',_⟩:=O'.ns;⟨o,e'⟩
 refine I.write (x:=a) (e:=dx) (by rw[e];exact True.intro) (.inr ho) (fun b q hb z=>(sb.2 b hb).trans z) hd ?_
 refine⟨by rw[zaj O.ne];exact ho,?_,O.ne,O'.obj,_,O'.ns,fun g=>?_,fun g hg=>?_⟩
 ·have:=zdL f y fs;lia
 ·show RelO ((zd4 f y fs).lookup g) (if g=f then some u else mA g)
  rw[zdR]
  by_cases q:g=f
  ·rw[if_pos q,if_pos q];exact ry
  ·rw[if_neg q,if_neg q];exact r g
 ·by_cases q:g=f
  ·rw[q];exact(zdM f y fs).1
  ·refine(zdM f y fs).2 g (wi g fun z=>hg ?_)
   show(if g=f then some u else mA g)=none
   rw[if_neg q];exact z
theorem Inv.made(I:Inv X pins σ H s):Inv X pins σ (upd (upd H s.heap.objs.size (.own (s.heap.objs.size+1))) (s.heap.objs.size+1) (.ins C s.heap.objs.size []))
  { s with heap:=(s.heap.push PySem.W.emptyDict).push (PySem.W.instObj C s.heap.objs.size)}:=by
 have e1:(s.heap.push PySem.W.emptyDict).get? s.heap.objs.size=some PySem.W.emptyDict:=Heap.get?_push_size s.heap rfl
 have e2:((s.heap.push PySem.W.emptyDict).push (PySem.W.instObj C s.heap.objs.size)).get? (s.heap.objs.size+1)=some (PySem.W.instObj C s.heap.objs.size):=by
  have:=Heap.get?_push_size (s.heap.push PySem.W.emptyDict) (o:=PySem.W.instObj C s.heap.objs.size) rfl
  rwa [Heap.size_push] at this
 have e3:(s.heap.push PySem.W.emptyDict).Ns s.heap.objs.size (fun _=>none):=⟨PySem.W.emptyDict,#[],_,e1,rfl,(fun e he=>absurd he (by simp)),fun _=>rfl⟩
 have I1:=I.laid (a:=s.heap.objs.size) (o:=.own (s.heap.objs.size+1)) (h':=s.heap.push PySem.W.emptyDict) (t':=s.toks) (fun b u q=>Heap.get?_push_of_some _ q) (Nat.le_refl _) ⟨_,e1⟩
 refine I1.laid (a:=s.heap.objs.size+1) (o:=.ins C s.heap.objs.size []) (t':=s.toks) (fun b u q=>Heap.get?_push_of_some _ q) (Nat.le_of_eq (Heap.size_push _ _)) ?_
 have ne:s.heap.objs.size ≠ s.heap.objs.size+1:=Nat.ne_of_lt (Nat.lt_succ_self _)
 refine⟨by rw[zaj ne,zag],Nat.zero_le _,ne,e2,fun _=>none,(Heap.Ns1.of_empty e3).at fun o q=>Heap.get?_push_of_some _ q,fun _=>True.intro,fun y hy=>absurd rfl hy⟩
theorem attr_of{prog:Program}{w:World}{env:Env}{e:Expr}{f:Str}{pos:Pos}{s:Shared}{Q:Value->Shared->Prop}(hb:attributeBase e f env (eval e env)=eval e env)
  (h:wpAny (model prog w) A (eval e env) (fun o s₁=>wpAny (model prog w) A (getAttr o f true) Q E s₁) E s):wpAny (model prog w) A (eval (.Attribute e f pos) env) Q E s:=
 Attribute_any_ h (by rw[arm_eval_Attribute,hb])
end
noncomputable def zha(K:PySem.W.Frag)(ta:TE)(f:Str):TE:=fun σ H Q=>ta σ H fun x H1=>∃ a C dx fs v,x=.ref a/\H1 a=some (.ins C dx fs)/\Cls K C/\NoAttr K C f/\fs.lookup f=some v/\Q v H1
noncomputable def sFld(K:PySem.W.Frag)(ta tv:TE)(f:Str):TS:=fun D σ H=>tv σ H fun y H1=>ta σ H1 fun x H2=>∃ a C dx fs,x=.ref a/\H2 a=some (.ins C dx fs)/\Cls K C/\NoAttr K C f/\fs.length<1000 /\
 D.nx σ (upd H2 a (.ins C dx (zd4 f y fs)))
section
variable {X:Cx}{o e value:Expr}{f:Str}{pos pos' tpos:Pos}{ta tv:TE}
theorem zdn(he:PE X e ta)(hb:attributeBase e f X.env (eval e X.env)=eval e X.env):PE X (.Attribute e f pos) (zha X.K ta f):=by
 intro pins s σ H Q I h
 refine attr_of hb (thn (he pins s σ H _ I h) fun u s1 ⟨x,H1,I1,rx,a,C,dx,fs,v,ex,ea,c,n,l,q⟩=>?_)
 subst ex
 obtain rfl:u=Value.ref a:=rx
 exact zg3 I1 ea c n l fun u' s2 I2 ru=>⟨v,H1,I2,ru,q⟩
theorem ps_fld(ha:PE X o ta)(hv:PE X value tv)(hs:swapsWith value (some (.Attribute o f pos')) pos.line X.env=pure false):PS X (.Assign [.Attribute o f pos'] value pos) (sFld X.K ta tv f):=by
 intro pins s σ H D I h
 refine plainObj_wpAny_Assign_Attribute (thn (hv pins s σ H _ I h) fun u s1 ⟨y,H1,I1,ry,q⟩=>thn (ha pins s1 σ H1 _ I1 q) fun ov s2 ⟨x,H2,I2,rx,a,C,dx,fs,ex,ea,c,n,l,q2⟩=>?_) hs
 subst ex
 obtain rfl:ov=Value.ref a:=rx
 exact zgS I2 ea c n l ry fun s3 I3=>⟨σ,_,I3,q2⟩
end
section
variable {X:Cx}{pins:List (Addr × Obj)}{σ:St}{H:Hp}{s:Shared}{A:Around}{E:Value->Shared->Prop}{Q:Value->Shared->Prop}{c:Value}{b:Bool}
inductive TyOf(K:PySem.W.Frag)(H:Hp):V->Value->Prop where
 | non:TyOf K H .non (.type "NoneType")
 | bl (x:Bool):TyOf K H (.bl x) (.type "bool")
 | int (i:Int):TyOf K H (.int i) (.type "int")
 | str (x:Str):TyOf K H (.str x) (.type "str")
 | flt (x:UInt64):TyOf K H (.flt x) (.type "float")
 | lst {a:Addr} {xs:List V} (e:H a=some (.lst xs)):TyOf K H (.ref a) (.type "list")
 | frz {a:Addr} {o:Obj} {xs:List V} (e:H a=some (.frz o (.lst xs))):TyOf K H (.ref a) (.type "list")
 | tup {a:Addr} {xs:List V} (e:H a=some (.tup xs)):TyOf K H (.ref a) (.type "tuple")
 | dK {a:Addr} {kvs:List (Key × V)} (e:Rd H a (.dK kvs)):TyOf K H (.ref a) (.type "dict")
 | dT {a:Addr} {kvs:List (List Key × V)} (e:H a=some (.dT kvs)):TyOf K H (.ref a) (.type "dict")
 | ins {a C dx:Addr} {fs:List (Str × V)} (e:H a=some (.ins C dx fs)) (cl:Cls K C) (ha:PySem.W.findIn K (.ref C) "__class__" = some (some (.builtin "object.__class__")))
   (hn:PySem.W.specialIn K (.builtin "object.__class__") "__get__" = some (some (.builtin "getset_descriptor.__get__"))) (htk:PySem.W.takesIn K (.builtin "object.__class__")=some true)
   (hm:PySem.W.mroIn K C (.type "object")=some true):TyOf K H (.ref a) (.ref C)
theorem isinst_ok{x:V}{u t:Value}(I:Inv X pins σ H s)(rx:RelV x u)(ty:TyOf X.K H x t)(e:PySem.W.kitOne X.K t c=some b)(h:∀ tk,Q (.bool b) { s with toks:=tk}) :
  wpAny (model X.prog X.w) A (call (.builtin "isinstance") [u,c]) Q E s:=by
 cases ty with
 | non=>cases (show u=Value.none from rx);exact PySem.W.kia_one PySem.W.kitx_none I.kIn True.intro e (fun z=>nomatch z) h
 | bl y=>cases (show u=Value.bool y from rx);exact PySem.W.kia_one PySem.W.kitx_bool I.kIn True.intro e (fun z=>nomatch z) h
 | int i=>obtain⟨t,q⟩:=(show ∃ t,u=Value.int i t from rx);cases q;exact PySem.W.kia_one PySem.W.kitx_int I.kIn True.intro e (fun z=>nomatch z) h
 | str y=>obtain⟨t,q⟩:=(show ∃ t,u=Value.str y t from rx);cases q;exact PySem.W.kia_one PySem.W.kitx_str I.kIn True.intro e (fun z=>nomatch z) h
 | flt y=>obtain⟨t,q⟩:=(show ∃ t,u=Value.float y t from rx);cases q;exact PySem.W.kia_one PySem.W.kitx_float I.kIn True.intro e (fun z=>nomatch z) h
 | @lst a xs ea=>
  cases (show u=Value.ref a from rx)
  obtain⟨_,_,n,_,h1⟩:=(show ObjOk X.prog X.w H s.heap a (.lst xs) from I.hok a _ ea)
  exact PySem.W.kia_one PySem.W.kitx_list I.kIn ⟨_,h1,rfl⟩ e (fun z=>nomatch z) h
 | @frz a ob xs ea=>
  cases (show u=Value.ref a from rx)
  obtain⟨_,_,_,n,_,h1⟩:=(show ObjOk X.prog X.w H s.heap a (.frz ob (.lst xs)) from I.hok a _ ea)
  exact PySem.W.kia_one PySem.W.kitx_list I.kIn ⟨_,h1,rfl⟩ e (fun z=>nomatch z) h
 | @tup a xs ea=>
  cases (show u=Value.ref a from rx)
  obtain⟨_,_,_,p⟩:=(show ObjOk X.prog X.w H s.heap a (.tup xs) from I.hok a _ ea)
  obtain⟨o,h1,h2,_⟩:=p
  exact PySem.W.kia_one PySem.W.kitx_tuple I.kIn ⟨o,h1,h2⟩ e (fun z=>nomatch z) h
 | @dK a kvs ea=>
  cases (show u=Value.ref a from rx)
  obtain⟨_,_,vs,_,p⟩:=(show ObjOk X.prog X.w H s.heap a (.dK kvs) from ea.ok I.hok)
  obtain⟨o,es,ep,h1,h2,_⟩:=p
  exact PySem.W.kia_one PySem.W.kitx_dict I.kIn ⟨o,h1,h2.1⟩ e (fun z=>nomatch z) h
 | @dT a kvs ea=>
  cases (show u=Value.ref a from rx)
  obtain⟨_,_,xs,_,o,es,ep,h1,h2,_⟩:=(show ObjOk X.prog X.w H s.heap a (.dT kvs) from I.hok a _ ea)
  exact PySem.W.kia_one PySem.W.kitx_dict I.kIn ⟨o,h1,h2.1⟩ e (fun z=>nomatch z) h
 | @ins a C dx fs ea cl ha hn htk hm=>
  cases (show u=Value.ref a from rx)
  obtain⟨mA,O,_⟩:=zeT I.hok ea
  obtain⟨od,J,_⟩:=O.look
  exact PySem.W.kia_one (PySem.W.kitx_own (cl.get _) cl.hd ha hn htk hm) I.kIn J e (fun z=>nomatch z) h
end
end L2
namespace L2
open PySem PySem.Spec PyProof.Rows
structure Room(k:Nat)(A:Around):Prop where
 hd:A.handled=none
 dp:A.depth+3 * k+5<recursionLimit
 un:A.units+16 * k+200<cLine
theorem Room.mono{j k:Nat}{A:Around}(r:Room k A)(h:j<=k):Room j A:=⟨r.hd,by have:=r.dp;lia,by have:=r.un;lia⟩
theorem Room.deeper{k:Nat}{A:Around}(r:Room (k+1) A)(env:Env):Room k (A.deeper env):=
 ⟨r.hd,by have:=r.dp;show A.depth+1+3 * k+5<_;lia,by have:=r.un;show A.units+3+16 * k+200<_;lia⟩
theorem zhc{A:Around}{C:Addr}{us:List Value}{kw:List (Str × Value)}:(A.under (.builtin "type.__call__" ⟨.ref C :: us,kw⟩)).depth=A.depth+1:=by
 first | rfl | simp[Around.under,Code.weight,Code.isCreation,Code.isGuard,Code.isCaller,Code.frames,Code.isFrame,guardIds]
theorem zgZ{A:Around}{C:Addr}{us:List Value}{kw:List (Str × Value)}:(A.under (.builtin "type.__call__" ⟨.ref C :: us,kw⟩)).units=A.units+1:=by
 first | rfl | simp[Around.under,Code.cUnits,Code.frames,Code.isFrame]
theorem Room.make{k:Nat}{A:Around}(r:Room (k+1) A)(C:Addr)(us:List Value)(kw:List (Str × Value)):Room k (A.under (.builtin "type.__call__" ⟨.ref C :: us,kw⟩)):=
 ⟨r.hd,by have:=r.dp;rw[zhc];lia,by have:=r.un;rw[zgZ];lia⟩
theorem Room.depth{k:Nat}{A:Around}(r:Room k A):A.depth<recursionLimit:=by have:=r.dp;lia
theorem Room.units{k:Nat}{A:Around}(r:Room k A):A.units+64<cLine:=by have:=r.un;lia
noncomputable def tNil:TA:=fun _ H Q=>Q [] H
noncomputable def tCons(ta:TE)(tr:TA):TA:=fun σ H Q=>ta σ H fun x H1=>tr σ H1 fun xs H2=>Q (x :: xs) H2
section
variable {X:Cx}{e:Expr}{es:List Expr}{te:TE}{t:TA}{pos:Pos}
theorem zgv:PA X [] tNil:=fun _ _ _ _ H Q I h=>Calls.spliced_nil ⟨[],H,I,.nil,h⟩
theorem zer(ha:PE X e te)(hr:PA X es t)(hs:starEach (e :: es) X.env=(false,eval e X.env) :: starEach es X.env:=by rfl):PA X (e :: es) (tCons te t):=by
 intro pos pins s σ H Q I h
 rw[hs]
 show wpAny _ _ (spliced ((false,eval e X.env) :: backTo pos (starEach es X.env))) _ _ s
 refine Calls.spliced_cons (thn (ha pins s σ H _ I h) fun u s1 ⟨x,H1,I1,r1,q1⟩=>?_)
 exact thn (hr pos pins s1 σ H1 _ I1 q1) fun us s2 ⟨xs,H2,I2,r2,q2⟩=>⟨x :: xs,H2,I2,.cons r1 r2,q2⟩
noncomputable def tTup(t:TA):TE:=fun σ H Q=>t σ H fun xs H1=>xs.length<=sizeLine/\∀ p,H1 p=none->Q (.ref p) (upd H1 p (.tup xs))
noncomputable def tLst(t:TA):TE:=fun σ H Q=>t σ H fun xs H1=>xs.length<=sizeLine/\∀ p,H1 p=none->Q (.ref p) (upd H1 p (.lst xs))
theorem pe_tup{x1}(h:PA X es t):PE X (.Tuple es x1 pos) (tTup t):=by
 intro pins s σ H Q I hq
 refine wpAny_Tuple_spliced (thn (h pos pins s σ H _ I hq) fun us s1 ⟨xs,H1,I1,r,z,q⟩=>⟨by rw[<- r.length];exact z,?_⟩)
 have hf:H1 s1.heap.objs.size=none:=I1.hok.fresh (Nat.le_refl _)
 refine⟨.ref s1.heap.objs.size,upd H1 s1.heap.objs.size (.tup xs),I1.laid (t':=s1.toks) (fun b u e=>Heap.get?_push_of_some _ e) (Nat.le_refl _) ?_,rfl,q _ hf⟩
 exact⟨z,us,r,⟨_,Heap.get?_push_size _ rfl,rfl,_,rfl⟩⟩
theorem pe_lst(h:PA X es t):PE X (.List es pos) (tLst t):=by
 intro pins s σ H Q I hq
 refine wpAny_List_spliced (thn (h pos pins s σ H _ I hq) fun us s1 ⟨xs,H1,I1,r,z,q⟩=>⟨by rw[<- r.length];exact z,?_⟩)
 have hf:H1 s1.heap.objs.size=none:=I1.hok.fresh (Nat.le_refl _)
 refine⟨.ref s1.heap.objs.size,upd H1 s1.heap.objs.size (.lst xs),I1.laid (t':=s1.toks) (fun b u e=>Heap.get?_push_of_some _ e) (Nat.le_refl _) ?_,rfl,q _ hf⟩
 exact⟨z,us,0,r,Heap.get?_push_size _ rfl⟩
end
noncomputable abbrev Sp:=List V->Hp->VK->XK->Prop
noncomputable abbrev CXT:=List Env->Hp->Shared->XK->Value->Shared->Prop
structure Env0(P:Program)(w:World)(K:PySem.W.Frag)(mg:Str->Option Value)(base:Heap)(A:Around)(outer:List Env)(s:Shared)(H:Hp):Prop where
 frames:A.frames=some outer
 mod:Mod K mg base
 bs:∀ b o,base.get? b=some o->s.heap.get? b=some o/\H b=none
 bsz:base.objs.size<=s.heap.objs.size
 funs:s.heap.FunFrames base outer
 frf:∀ b ∈ frs outer,H b=none
 hok:HOk P w H s.heap
 bare:AllBare s.gens
noncomputable def CE(outer:List Env)(P:Program)(w:World)(H:Hp)(s:Shared)(Q:VK)(u:Value)(s':Shared):Prop:=
 ∃ v H',s'.os=s.os/\AllBare s'.gens/\Un (frs outer) [] H H' s.heap s'.heap/\HOk P w H' s'.heap/\RelV v u/\Q v H'
noncomputable def CR(CX:CXT)(outer:List Env)(P:Program)(w:World)(H:Hp)(s:Shared)(Q:VK)(E:XK)(r:Result)(s':Shared):Prop:=
 match r with
 | .ok (.ret u)=>CE outer P w H s Q u s'
 | .ok _=>False
 | .error e=>CX outer H s E e s'
structure FnOk(P:Program)(w:World)(K:PySem.W.Frag)(mg:Str->Option Value)(base:Heap)(CX:CXT)(k:Nat)(f:Addr)(fd:FuncData)(ps:List Str)(sp:Sp):Prop where
 len:∀ vs H Q E,sp vs H Q E->vs.length=ps.length
 run:∀ (A:Around) (outer:List Env) (s:Shared) (H:Hp) (args:Args) (us:List Value) (vs:List V) (Q:VK) (E:XK),Room k A->Env0 P w K mg base A outer s H->BindsTo s fd args (ps.zip us)->Vals vs us->sp vs H Q E ->
  codeAny (model P w) A (.call (.ref f) args) (CR CX outer P w H s Q E) s
theorem FnOk.imp{P:Program}{w:World}{K:PySem.W.Frag}{mg:Str->Option Value}{base:Heap}{CX:CXT}{k:Nat}{f:Addr}{fd:FuncData}{ps:List Str}{sp sp':Sp}(F:FnOk P w K mg base CX k f fd ps sp)
  (h:∀ vs H Q E,sp' vs H Q E->sp vs H Q E):FnOk P w K mg base CX k f fd ps sp':=
 ⟨fun vs H Q E q=>F.len vs H Q E (h _ _ _ _ q),fun A outer s H args us vs Q E hr he hb hv hs=>F.run A outer s H args us vs Q E hr he hb hv (h _ _ _ _ hs)⟩
theorem Env0.make{P:Program}{w:World}{K:PySem.W.Frag}{mg:Str->Option Value}{base:Heap}{A:Around}{outer:List Env}{s:Shared}{H:Hp}(e:Env0 P w K mg base A outer s H)(C:Addr)(us:List Value)(kw:List (Str × Value)) :
  Env0 P w K mg base (A.under (.builtin "type.__call__" ⟨.ref C :: us,kw⟩)) outer s H:=⟨by first | exact e.frames | (simpa [Around.under,Code.envs,Code.isFrame,pushEnvs] using e.frames),e.mod,e.bs,e.bsz,e.funs,e.frf,e.hok,e.bare⟩
section
variable {X:Cx}{pins:List (Addr × Obj)}{σ:St}{H:Hp}{s s':Shared}
theorem Inv.env0(I:Inv X pins σ H s):Env0 X.prog X.w X.K X.mg X.base X.A X.stack s H:=
 ⟨I.ok.frames,I.ok.mod,I.bs,Nat.le_trans I.ok.bsz I.sz,I.stack,I.stkFree,I.hok,I.bare⟩
theorem Inv.after{Q:VK}{u:Value}(I:Inv X pins σ H s)(h:CE X.stack X.prog X.w H s Q u s'):EP X pins σ Q u s':=by
 obtain⟨v,H',os,bare,un,hok,r,q⟩:=h
 obtain⟨hh,g,d,t,os'⟩:=s'
 obtain rfl:os'=s.os:=os
 exact⟨v,H',I.call (h':=hh) (g':=g) (d':=d) (t':=t) (ch:=[]) un hok bare (fun b z=>absurd z (by simp)),r,q⟩
end
noncomputable def tCall(sp:Sp)(dvs:List V)(E:XK)(t:TA):TE:=fun σ H Q=>t σ H fun vs H1=>sp (vs ++ dvs) H1 Q E
noncomputable def tMeth(C:Addr)(m:Str)(sp:Sp)(dvs:List V)(E:XK)(ta:TE)(t:TA):TE:=fun σ H Q=>ta σ H fun x H1=>∃ a dx fs,x=.ref a/\H1 a=some (.ins C dx fs)/\fs.lookup m=none /\
 t σ H1 fun vs H2=>sp (x :: (vs ++ dvs)) H2 Q E
noncomputable def tMake(C:Addr)(sp:Sp)(dvs:List V)(E:XK)(t:TA):TE:=fun σ H Q=>t σ H fun vs H1=>∀ x dx,H1 x=none->H1 dx=none->dx ≠ x ->
 sp (.ref x :: (vs ++ dvs)) (upd (upd H1 dx (.own x)) x (.ins C dx [])) (fun v H2=>v=.non/\Q (.ref x) H2) E
noncomputable def Binds(K:PySem.W.Frag)(fd:FuncData)(ps:List Str)(ds:List Value):Prop:=
 ∀ (s:Shared) (us:List Value),K.In s.heap->(us ++ ds).length=ps.length->BindsTo s fd ⟨us,[]⟩ (ps.zip (us ++ ds))
theorem Binds.all{K:PySem.W.Frag}{fd:FuncData}{ps:List Str}(h:∀ us:List Value,us.length=ps.length->bindArgs fd ⟨us,[]⟩=pure (ps.zip us)):Binds K fd ps []:=fun s us _ hl=>by
 rw[List.append_nil] at hl ⊢
 exact .of_eq (h us hl)
noncomputable def zbM(CX:CXT)(X:Cx)(E:XK):Prop:=∀ (pins:List (Addr × Obj)) (σ:St) (H:Hp) (s:Shared) (e:Value) (s':Shared),Inv X pins σ H s->CX X.stack H s E e s'->X.xe e s'
section
variable {X:Cx}{CX:CXT}{k:Nat}{f C:Addr}{fd:FuncData}{ps:List Str}{sp:Sp}{dvs:List V}{ds:List Value}{E:XK}{x m:Str}{p pos apos:Pos}{e o:Expr}{es:List Expr}{ta:TE}{t:TA}
theorem run_fn{pins:List (Addr × Obj)}{σ:St}{H:Hp}{s:Shared}{Q:VK}{us:List Value}{vs:List V}(F:FnOk X.prog X.w X.K X.mg X.base CX k f fd ps sp)(hr:Room k X.A)(hb:Binds X.K fd ps ds)(hd:Vals dvs ds)(hx:zbM CX X E)
  (I:Inv X pins σ H s) (r:Vals vs us) (h:sp (vs ++ dvs) H Q E):wpAny (model X.prog X.w) X.A (call (.ref f) us) (EP X pins σ Q) X.xe s:=by
 have r2:Vals (vs ++ dvs) (us ++ ds):=r.append hd
 have hl:(us ++ ds).length=ps.length:=by rw[<- r2.length];exact F.len _ _ _ _ h
 refine wpAny_call (codeAny_mono (F.run X.A X.stack s H ⟨us,[]⟩ (us ++ ds) (vs ++ dvs) Q E hr I.env0 (hb s us I.kIn hl) r2 h) fun r s' hq=>?_)
 cases r with
 | error e=>exact hx pins σ H s e s' I hq
 | ok fl=>
  cases fl with
  | ret u=>exact I.after hq
  | next=>exact False.elim hq
  | brk=>exact False.elim hq
  | cont=>exact False.elim hq
theorem pe_call(F:FnOk X.prog X.w X.K X.mg X.base CX k f fd ps sp)(hr:Room k X.A)(hg:Gl X x)(hm:X.mg x=some (.ref f))(hk:PySem.W.keepIn X.K (.ref f)=true)(hb:Binds X.K fd ps ds)(hd:Vals dvs ds)(hx:zbM CX X E)
  (ha:PA X (e :: es) t) (hdb:(x == ("__debug__" : Str))=false:=by decide) (he:starEach (e :: es) X.env=(false,eval e X.env) :: starEach es X.env:=by rfl) (hpl:(backTo pos (starEach es X.env)).any (·.1)=false:=by rfl) :
  PE X (.Call (.Name x p) (e :: es) [] pos) (tCall sp dvs E t):=by
 intro pins s σ H Q I h
 refine wpAny_Call_Name_kw (zeR I hg hm ?_ hdb)
 refine PySem.W.callWith_K (h₀:=X.base) I.ok.mod.kin hk (thn (ha pos pins s σ H _ I h) fun us s1 ⟨vs,H1,I1,r,q⟩=>⟨I1.kIn,?_⟩) he hpl
 exact run_fn F hr hb hd hx I1 r q
theorem pe_meth{pl:Sem Bool}(he:PE X o ta)(c:Cls X.K C)(hm:Meth X.K C m f)(F:FnOk X.prog X.w X.K X.mg X.base CX k f fd ps sp)(hr:Room k X.A)(hb:Binds X.K fd ps ds)(hd:Vals dvs ds)(hx:zbM CX X E)(ha:PA X (e :: es) t)
  (hst:starEach (e :: es) X.env=(false,eval e X.env) :: starEach es X.env:=by rfl) (hpl:(backTo pos (starEach es X.env)).any (·.1)=false:=by rfl)
  (ht:eval (.Call (.Attribute o m apos) (e :: es) [] pos) X.env=(do
   let ov <- eval o X.env
   standAt apos.atName
   let (f,first) <- holding [ov] (getMethod ov m pl)
   callWith pos f first (backTo pos (starEach (e :: es) X.env)) (backToKw pos (keywordEach [] X.env))):=by rfl) :
  PE X (.Call (.Attribute o m apos) (e :: es) [] pos) (tMeth C m sp dvs E ta t):=by
 intro pins s σ H Q I h
 refine PySem.W.methodCall_KW (pl:=pl) (thn (he pins s σ H _ I h) fun u s1 ⟨x,H1,I1,rx,a,dx,fs,ex,ea,l,q⟩=>?_) ht
 subst ex
 obtain rfl:u=Value.ref a:=rx
 refine zgN I1 ea c hm l ?_
 refine PySem.W.callWith_K (first:=[.ref a]) (h₀:=X.base) I.ok.mod.kin hm.kp (thn (ha pos pins s1 σ H1 _ I1 q) fun us s2 ⟨vs,H2,I2,r,q2⟩=>⟨I2.kIn,?_⟩) hst hpl
 exact run_fn (us:=.ref a :: us) (vs:=.ref a :: vs) F hr hb hd hx I2 (.cons rfl r) q2
structure Mk(K:PySem.W.Frag)(C f:Addr):Prop where
 makes:PySem.W.makesIn K C=true
 init:PySem.W.findIn K (.ref C) "__init__" = some (some (.ref f))
 fn:PySem.W.isFn K (.ref f)=true
 kp:PySem.W.keepIn K (.ref C)=true
theorem zgF{pins:List (Addr × Obj)}{σ:St}{H:Hp}{s:Shared}{Q:VK}{us:List Value}{vs:List V}(M:Mk X.K C f)(F:FnOk X.prog X.w X.K X.mg X.base CX k f fd ps sp)(hr:Room (k+1) X.A)(hb:Binds X.K fd ps ds)(hd:Vals dvs ds)
  (hx:zbM CX X E) (I:Inv X pins σ H s) (r:Vals vs us)
  (h:∀ x dx,H x=none->H dx=none->dx ≠ x->sp (.ref x :: (vs ++ dvs)) (upd (upd H dx (.own x)) x (.ins C dx [])) (fun v H2=>v=.non/\Q (.ref x) H2) E) :
  wpAny (model X.prog X.w) X.A (call (.ref C) us) (EP X pins σ Q) X.xe s:=by
 have hq:=h (s.heap.objs.size+1) s.heap.objs.size (I.hok.fresh (Nat.le_succ _)) (I.hok.fresh (Nat.le_refl _)) (Nat.ne_of_lt (Nat.lt_succ_self _))
 have I2:=Inv.made (C:=C) I
 have r2:Vals (V.ref (s.heap.objs.size+1) :: (vs ++ dvs)) (Value.ref (s.heap.objs.size+1) :: (us ++ ds)):=.cons rfl (r.append hd)
 have hl:(Value.ref (s.heap.objs.size+1) :: us ++ ds).length=ps.length:=by
  have e:=r2.length
  rw[F.len _ _ _ _ hq] at e
  exact e.symm
 refine wpAny_call (make_map (f:=f) I.kIn M.makes M.init (beq_iff_eq.mp M.fn) (codeAny_mono (F.run _ X.stack _ _ ⟨Value.ref (s.heap.objs.size+1) :: us,[]⟩ (Value.ref (s.heap.objs.size+1) :: (us ++ ds)) _ _ E (hr.make C us [])
  (I2.env0.make C us []) (hb _ (Value.ref (s.heap.objs.size+1) :: us) I2.kIn hl) r2 hq) fun r s' hq'=>?_))
 cases r with
 | error e=>exact hx pins σ _ _ e s' I2 hq'
 | ok fl=>
  cases fl with
  | ret u=>
   obtain⟨v,H',I3,rv,ev,q3⟩:=I2.after hq'
   subst ev
   exact⟨rv,⟨V.ref (s.heap.objs.size+1),H',I3,rfl,q3⟩⟩
  | next=>exact False.elim hq'
  | brk=>exact False.elim hq'
  | cont=>exact False.elim hq'
theorem pe_make(M:Mk X.K C f)(F:FnOk X.prog X.w X.K X.mg X.base CX k f fd ps sp)(hr:Room (k+1) X.A)(hg:Gl X x)(hm:X.mg x=some (.ref C))(hb:Binds X.K fd ps ds)(hd:Vals dvs ds)(hx:zbM CX X E)
  (ha:PA X (e :: es) t) (hdb:(x == ("__debug__" : Str))=false:=by decide) (he:starEach (e :: es) X.env=(false,eval e X.env) :: starEach es X.env:=by rfl) (hpl:(backTo pos (starEach es X.env)).any (·.1)=false:=by rfl) :
  PE X (.Call (.Name x p) (e :: es) [] pos) (tMake C sp dvs E t):=by
 intro pins s σ H Q I h
 refine wpAny_Call_Name_kw (zeR I hg hm ?_ hdb)
 refine PySem.W.callWith_K (h₀:=X.base) I.ok.mod.kin M.kp (thn (ha pos pins s σ H _ I h) fun us s1 ⟨vs,H1,I1,r,q⟩=>⟨I1.kIn,?_⟩) he hpl
 exact zgF M F hr hb hd hx I1 r q
theorem pe_make0(M:Mk X.K C f)(F:FnOk X.prog X.w X.K X.mg X.base CX k f fd ps sp)(hr:Room (k+1) X.A)(hg:Gl X x)(hm:X.mg x=some (.ref C))(hb:Binds X.K fd ps ds)(hd:Vals dvs ds)(hx:zbM CX X E)
  (hdb:(x == ("__debug__" : Str))=false:=by decide):PE X (.Call (.Name x p) [] [] pos) (tMake C sp dvs E tNil):=by
 intro pins s σ H Q I h
 refine wpAny_Call_Name_kw (zeR I hg hm ?_ hdb)
 exact PySem.W.callWith_K0 I.kIn M.kp (zgF (us:=[]) M F hr hb hd hx I .nil h)
end
noncomputable def PK(X:Cx)(kws:List Keyword)(t:TA):Prop:=
 ∀ (pos:Pos) (pins:List (Addr × Obj)) (s:Shared) (σ:St) (H:Hp) (Q:List V->Hp->Prop),Inv X pins σ H s->t σ H Q->wpAny (model X.prog X.w) X.A (evalAll ((backToKw pos (keywordEach kws X.env)).map (·.2))) (AP X pins σ Q) X.xe s
section
variable {X:Cx}{CX:CXT}{k:Nat}{f C:Addr}{fd:FuncData}{ps ks:List Str}{sp:Sp}{E:XK}{x m:Str}{p pos apos kpos:Pos}{e o:Expr}{es:List Expr}{kws:List Keyword}{te ta:TE}{t tk:TA}{nm:Option Str}
theorem pk_nil:PK X [] tNil:=fun _ _ _ _ H Q I h=>wpAny_evalAll_nil ⟨[],H,I,.nil,h⟩
theorem pk_cons(ha:PE X e te)(hr:PK X kws t):PK X (⟨nm,e,kpos⟩ :: kws) (tCons te t):=by
 intro pos pins s σ H Q I h
 show wpAny _ _ (evalAll ((do let v <- eval e X.env;standAt pos;pure v) :: (backToKw pos (keywordEach kws X.env)).map (·.2))) _ _ s
 refine wpAny_evalAll_cons (wpAny_bind (thn (ha pins s σ H _ I h) fun u s1 ⟨x,H1,I1,r1,q1⟩=>wpAny_bind (wpAny_standAt (wpAny_pure ?_))))
 exact thn (hr pos pins s1 σ H1 _ I1 q1) fun us s2 ⟨xs,H2,I2,r2,q2⟩=>⟨x :: xs,H2,I2,.cons r1 r2,q2⟩
structure KBinds(K:PySem.W.Frag)(fd:FuncData)(ps ks:List Str)(g:List Value->List Value->List Value)(gV:List V->List V->List V):Prop where
 to:∀ (s:Shared) (us ws:List Value),K.In s.heap->(g us ws).length=ps.length->BindsTo s fd ⟨us,ks.zip ws⟩ (ps.zip (g us ws))
 rel:∀ {vs:List V} {us:List Value} {zs:List V} {ws:List Value},Vals vs us->Vals zs ws->Vals (gV vs zs) (g us ws)
variable {g:List Value->List Value->List Value}{gV:List V->List V->List V}
end
structure FnScope(N P:List Str)(sc:Scope):Prop where
 kind:sc.kind=.function
 co:sc.isCoroutine=false
 gen:sc.isGenerator=false
 nd:N.Nodup
 pre:N.take P.length=P
 par:∀ x ∈ P,sc.names.lookup x=some .local \/ sc.names.lookup x=some .cell
 nofree:∀ y ∈ sc.names,y.2 ≠ .free
theorem zft{kindOf:Str->Option NameKind}{x:Str}:∀ {binds:List (Str × Value)} {m:Str->Option Value},(∀ v,(x,v) ∉ binds)->bindL kindOf binds m x=m x
 | [],_,_=>rfl
 | (n,v) :: r,m,h=>by
  unfold bindL
  rw[zft fun w hw=>h w (List.mem_cons_of_mem _ hw)]
  split
  ·have:x ≠ n:=by rintro rfl;exact h v List.mem_cons_self
   simp[this]
  ·rfl
theorem zfu{kindOf:Str->Option NameKind}{x:Str}:∀ {binds:List (Str × Value)} {m:Str->Option Value},(∀ v,(x,v) ∉ binds)->bindC kindOf binds m x=m x
 | [],_,_=>rfl
 | (n,v) :: r,m,h=>by
  unfold bindC
  rw[zfu fun w hw=>h w (List.mem_cons_of_mem _ hw)]
  split
  ·rfl
  ·have:x ≠ n:=by rintro rfl;exact h v List.mem_cons_self
   simp[this]
theorem zfl{kindOf:Str->Option NameKind}{x:Str}{v:Value}:∀ {P:List Str} {vs:List Value} {i:Nat} {m:Str->Option Value},P.Nodup->P[i]? = some x->vs[i]? = some v->kindOf x=some .local ->
  bindL kindOf (P.zip vs) m x=some v
 | [],_,_,_,_,h,_,_=>by simp at h
 | _ :: _,[],_,_,_,_,h,_=>by simp at h
 | p :: P,w :: vs,0,m,nd,h1,h2,hk=>by
  simp at h1 h2;subst h1;subst h2
  show bindL kindOf ((p,w) :: P.zip vs) m p=_
  unfold bindL
  rw[zft fun v hv=>(List.nodup_cons.mp nd).1 (List.of_mem_zip hv).1,if_pos hk]
  simp
 | p :: P,w :: vs,i+1,m,nd,h1,h2,hk=>by
  show bindL kindOf ((p,w) :: P.zip vs) m x=_
  unfold bindL
  exact zfl (i:=i) (List.nodup_cons.mp nd).2 (by simpa using h1) (by simpa using h2) hk
theorem ze7{kindOf:Str->Option NameKind}{x:Str}{v:Value}:∀ {P:List Str} {vs:List Value} {i:Nat} {m:Str->Option Value},P.Nodup->P[i]? = some x->vs[i]? = some v->kindOf x ≠ some .local ->
  bindC kindOf (P.zip vs) m x=some v
 | [],_,_,_,_,h,_,_=>by simp at h
 | _ :: _,[],_,_,_,_,h,_=>by simp at h
 | p :: P,w :: vs,0,m,nd,h1,h2,hk=>by
  simp at h1 h2;subst h1;subst h2
  show bindC kindOf ((p,w) :: P.zip vs) m p=_
  unfold bindC
  rw[zfu fun v hv=>(List.nodup_cons.mp nd).1 (List.of_mem_zip hv).1,if_neg hk]
  simp
 | p :: P,w :: vs,i+1,m,nd,h1,h2,hk=>by
  show bindC kindOf ((p,w) :: P.zip vs) m x=_
  unfold bindC
  exact ze7 (i:=i) (List.nodup_cons.mp nd).2 (by simpa using h1) (by simpa using h2) hk
noncomputable def start(N:List Str)(vs:List V):St:=vs.map some ++ List.replicate (N.length - vs.length) none
noncomputable def cxOf(CX:CXT)(P:Program)(w:World)(K:PySem.W.Frag)(mg:Str->Option Value)(base:Heap)(N:List Str)(qual:Str)(scope:Scope)(f:Addr)(cd:Value)(A:Around)(outer:List Env)(s:Shared)(H:Hp)(E:XK):Cx where
 prog:=P
 w:=w
 K:=K
 mg:=mg
 base:=base
 A:=A.deeper (envOfC qual scope s.heap.objs.size f cd)
 N:=N
 s₀:=s
 H₀:=H
 env:=envOfC qual scope s.heap.objs.size f cd
 outer:=outer
 stack:=envOfC qual scope s.heap.objs.size f cd :: outer
 ex:=[]
 calm:=true
 fn:=fun _=>true
 pn:=[]
 xe:=fun e s'=>wpAny (model P w) (A.deeper (envOfC qual scope s.heap.objs.size f cd)) (leaving (envOfC qual scope s.heap.objs.size f cd) e) (fun _ s''=>CX outer H s E e s'') (fun e' s''=>CX outer H s E e' s'') s'
theorem zgm{sc:Scope}{n:Nat}{x:Str}(h:sc.names.lookup x=some .cell):∃ c,(cellsFrom n sc.names []).lookup x=some c:=by
 have q:=PySem.W.cellsFrom_some sc.names n [] (.inl h)
 exact Option.isSome_iff_exists.mp q
theorem inv_start{CX:CXT}{P:Program}{w:World}{K:PySem.W.Frag}{mg:Str->Option Value}{base:Heap}{N ps:List Str}{qual:Str}{scope:Scope}{f:Addr}{cd:Value}{A:Around}{outer:List Env}{s s1:Shared}{H:Hp}{E:XK}{us:List Value}{vs:List V}
  (S:FnScope N ps scope) (hd:A.handled=none) (e0:Env0 P w K mg base A outer s H) (hl:vs.length=ps.length) (r:Vals vs us)
  (x:InCallC s s.heap.objs.size (bindL (envOfC qual scope s.heap.objs.size f cd).kindOf (ps.zip us) fun _=>none) (cellsFrom (s.heap.objs.size+1) scope.names []) (bindC (envOfC qual scope s.heap.objs.size f cd).kindOf (ps.zip us) fun _=>none) s1) :
  Inv (cxOf CX P w K mg base N qual scope f cd A outer s H E) [] (start N vs) H s1:=by
 have hpl:ps.length<=N.length:=by have:=congrArg List.length S.pre;rw[List.length_take] at this;lia
 obtain⟨h1,tk,rfl,hk⟩:=x.done
 have noA:∀ b:Addr,b ∉ (cxOf CX P w K mg base N qual scope f cd A outer s H E).ex:=fun b z=>absurd (show b ∈ ([]:List Addr) from z) (by simp)
 refine⟨⟨e0.mod,S.kind,rfl,rfl,Nat.le_refl _,fun y z c h1 h2=>?_,fun y hy=>?_,fun y c _ h=>?_,fun _=>hd,Around.frames_deeper e0.frames,.inr ⟨rfl,rfl⟩,fun b z=>absurd z (noA b),e0.bs,e0.bsz,fun b _ _=>noA b,fun b z=>absurd z (noA b),e0.funs,e0.frf⟩,
  rfl,e0.bare,Un.kept hk,⟨_,x.toInCall.ns,fun i y v h1 h2 h3=>?_⟩,fun y c h=>⟨_,x.cell y c h⟩,e0.hok.fresh (Nat.le_refl _),fun y c h=>?_,fun p hp=>absurd (show p ∈ ([]:List (Addr × Obj)) from hp) (by simp),e0.hok.kept hk,?_⟩
 ·exact name_of_addr x.apart (PySem.mem_of_lookup h1) (PySem.mem_of_lookup h2)
 ·have hy:scope.names.lookup y=some .cell \/ scope.names.lookup y=some .free:=hy
  rcases hy with hy | hy
  ·exact zgm hy
  ·exact absurd rfl (S.nofree _ (PySem.mem_of_lookup hy))
 ·exact Nat.le_of_lt (x.above y c (PySem.mem_of_lookup h))
 ·have hi:i<vs.length:=by
   unfold start at h2
   by_cases hi:i<vs.length
   ·exact hi
   ·rw[List.getElem?_append_right (by simpa using hi)] at h2
    rw[List.getElem?_replicate] at h2
    split at h2 <;> cases h2
  have ha:vs[i]? = some v:=by
   unfold start at h2
   rw[List.getElem?_append_left (by simpa using hi),List.getElem?_map] at h2
   cases e:vs[i]? with
   | none=>rw[e] at h2;cases h2
   | some a=>rw[e] at h2;cases h2;rfl
  obtain⟨u,hu,rv⟩:=r.get ha
  have hp:ps[i]? = some y:=by
   rw[<- S.pre,List.getElem?_take_of_lt (by lia)];exact h1
  have ndP:ps.Nodup:=by rw[<- S.pre];exact S.nd.sublist (List.take_sublist _ _)
  refine⟨u,rv,?_⟩
  rcases S.par y (List.mem_of_getElem? hp) with k | k
  ·exact .inl ⟨k,zfl ndP hp hu k⟩
  ·obtain⟨c,e⟩:=zgm (n:=s.heap.objs.size+1) k
   refine .inr ⟨.inl k,c,e,?_⟩
   have q:=x.cell y c e
   rw[ze7 ndP hp hu (by show scope.names.lookup y ≠ _;rw[k];decide)] at q
   exact q
 ·exact e0.hok.fresh (Nat.le_of_lt (x.above y c (PySem.mem_of_lookup h)))
 ·unfold start
  show _=N.length
  rw[List.length_append,List.length_map,List.length_replicate]
  lia
theorem fn_of{CX:CXT}{P:Program}{w:World}{K:PySem.W.Frag}{mg:Str->Option Value}{base:Heap}{k:Nat}{f:Addr}{name qual:Str}{params:Arguments}{body:List Stmt}{scope:Scope}{dV kV doc pm cdv ct oc:Value}{an od:Option Addr}
  {osl:Array (Option Value)} {N ps:List Str} {sp:Sp} (lk:K.lookup f=some ⟨oc,od,.func (PySem.W.fnOf name qual params body scope dV kV doc pm an cdv ct),osl⟩) (hcd:PySem.W.codeIn K cdv qual=true) (S:FnScope N ps scope)
  (len:∀ vs H Q E,sp vs H Q E->vs.length=ps.length)
  (hbody:∀ (A:Around) (outer:List Env) (s:Shared) (H:Hp) (vs:List V) (Q:VK) (E:XK),Room k (A.deeper (envOfC qual scope s.heap.objs.size f cdv))->sp vs H Q E ->
   ∃ t,PSs (cxOf CX P w K mg base N qual scope f cdv A outer s H E) body t/\t { nx:=fun _ H'=>Q .non H',rt:=Q} (start N vs) H) :
  FnOk P w K mg base CX (k+1) f (PySem.W.fnOf name qual params body scope dV kV doc pm an cdv ct) ps sp:=by
 refine⟨len,fun A outer s H args us vs Q E hr e0 hb r hsp=>?_⟩
 have hl:=len _ _ _ _ hsp
 have KX:K.In s.heap:=e0.mod.kin.keeps fun b o e=>(e0.bs b o e).1
 have lim:s.heap.NoLimit:=e0.mod.nolimit.keeps fun b o e=>(e0.bs b o e).1
 have hkind:∀ y ∈ ps.zip us,scope.names.lookup y.1=some .local \/ (scope.names.lookup y.1=some .cell/\((cellsFrom (s.heap.objs.size+1) scope.names []).lookup y.1).isSome=true):=fun⟨n,v⟩ hy=>by
  rcases S.par n (List.of_mem_zip hy).1 with q | q
  ·exact .inl q
  ·exact .inr ⟨q,PySem.W.cellsFrom_some _ _ _ (.inl q)⟩
 refine codeAny_call_function hr.depth (KX _ _ lk) rfl S.co S.gen rfl (PySem.W.codeRec_of KX hcd) (hb _ _ _ _ ?_)
 refine wpAny_newFunctionEnv_cells S.kind hkind fun env he s1 x=>?_
 subst he
 refine⟨lim.keeps x.toInCall.keep,codeAny_func ?_⟩
 obtain⟨t,ht,hq⟩:=hbody A outer s H vs Q E (hr.deeper _) hsp
 have I:Inv (cxOf CX P w K mg base N qual scope f cdv A outer s H E) [] (start N vs) H s1:=inv_start S hr.hd e0 hl r x
 refine wpAny_mono (ht [] s1 (start N vs) H _ I hq) (fun fl s' hs=>?_) fun e s' hs=>hs
 have fin:∀ {σ':St} {H':Hp} {v:V} {u:Value},Inv (cxOf CX P w K mg base N qual scope f cdv A outer s H E) [] σ' H' s'->RelV v u->Q v H'->CE outer P w H s Q u s':=
  fun {σ' H' v u} J rv q=>⟨v,H',J.os,J.bare,J.base,J.hok,rv,q⟩
 cases fl with
 | ret u=>
  obtain⟨v,σ',H',J,rv,q⟩:=hs
  exact fin J rv q
 | next=>
  obtain⟨σ',H',J,q⟩:=hs
  exact fin (v:=V.non) (u:=Value.none) J rfl q
 | brk=>
  obtain⟨_,_,_,q⟩:=hs
  exact False.elim q
 | cont=>
  obtain⟨_,_,_,q⟩:=hs
  exact False.elim q
end L2
namespace L2
open PySem PySem.Spec PyProof.Rows
section
variable {X:Cx}{x:Str}{p pos:Pos}{e:Expr}{es:List Expr}{t:TA}{id T:String}{r:List V->Hp->VK->Prop}
noncomputable def tCB(r:List V->Hp->VK->Prop)(t:TA):TE:=fun σ H Q=>t σ H fun vs H1=>r vs H1 Q
theorem pe_callB(hc:zcR X (.builtin id) r)(hg:Gl X x)(hm:X.mg x=none)(hv:bootBuiltins x=some (.builtin id))(ha:PA X (e :: es) t)(hn:x ≠ "__name__" :=by decide)(hdb:(x == ("__debug__" : Str))=false:=by decide)
  (he:starEach (e :: es) X.env=(false,eval e X.env) :: starEach es X.env:=by rfl) (hpl:(backTo pos (starEach es X.env)).any (·.1)=false:=by rfl):PE X (.Call (.Name x p) (e :: es) [] pos) (tCB r t):=by
 intro pins s σ H Q I h
 refine wpAny_Call_Name_kw (zcm I hg hm hv ?_ hn hdb)
 exact PyProof.Rows.callWith_builtin1 (thn (ha pos pins s σ H _ I h) fun us s1 ⟨vs,H1,I1,r1,q1⟩=>hc pins s1 σ H1 vs us Q I1 r1 q1) he hpl
theorem pe_callTy(hc:zcR X (.type T) r)(hg:Gl X x)(hm:X.mg x=none)(hv:bootBuiltins x=some (.type T))(ha:PA X (e :: es) t)(hn:x ≠ "__name__" :=by decide)(hdb:(x == ("__debug__" : Str))=false:=by decide)
  (he:starEach (e :: es) X.env=(false,eval e X.env) :: starEach es X.env:=by rfl) (hpl:(backTo pos (starEach es X.env)).any (·.1)=false:=by rfl):PE X (.Call (.Name x p) (e :: es) [] pos) (tCB r t):=by
 intro pins s σ H Q I h
 refine wpAny_Call_Name_kw (zcm I hg hm hv ?_ hn hdb)
 exact PyProof.Rows.callWith_type1 (thn (ha pos pins s σ H _ I h) fun us s1 ⟨vs,H1,I1,r1,q1⟩=>hc pins s1 σ H1 vs us Q I1 r1 q1) he hpl
end
end L2
namespace HT
open PySem PyProof.Rows
section
open PySem.SeqAt
open PySem.AutoSeq1 (wpAny_loadPart')
open PySem.MeetsSeq PySem.MeetsSeq2 PySem.MeetsSeq3
end
section
variable {prog:Program}{w:World}{A:Around}{E:Value->Shared->Prop}{s:Shared}
noncomputable def sIx(n d:Nat):Option Int->Nat
 | none=>d
 | some v=>if v<0 then (v+(n:Int)).toNat else min v.toNat n
theorem sIx_none(n d:Nat):sIx n d none=d:=rfl
theorem sIx_nat(n d k:Nat):sIx n d (some (k:Int))=min k n:=by
 show(if (k:Int)<0 then ((k:Int)+(n:Int)).toNat else min (k:Int).toNat n)=min k n
 rw[if_neg (by lia),Int.toNat_natCast]
theorem sIx_le(n d:Nat)(hd:d<=n)(o:Option Int):sIx n d o<=n:=by
 cases o with
 | none=>exact hd
 | some v=>
  show(if v<0 then (v+(n:Int)).toNat else min v.toNat n)<=n
  by_cases hv:v<0
  ·rw[if_pos hv];lia
  ·rw[if_neg hv];exact Nat.min_le_right _ _
end
end HT
namespace L2
open PySem PySem.Spec PyProof.Rows
noncomputable abbrev TO:=St->Hp->(Option Int->Hp->Prop)->Prop
noncomputable def PO(X:Cx)(e:Option Expr)(t:TO):Prop:=
 ∀ (pins:List (Addr × Obj)) (s:Shared) (σ:St) (H:Hp) (Q:Option Int->Hp->Prop),Inv X pins σ H s->t σ H Q ->
  wpAny (model X.prog X.w) X.A (evalPart e X.env) (fun u s'=>∃ o H',Inv X pins σ H' s'/\IsPart u o/\Q o H') X.xe s
noncomputable def tNoPart:TO:=fun _ H Q=>Q none H
noncomputable def tPart(t:TE):TO:=fun σ H Q=>t σ H fun x H1=>∃ i,x=.int i/\Q (some i) H1
section
variable {X:Cx}{e:Expr}{te:TE}{lo hi:Option Expr}{tl th:TO}{pos p2:Pos}
theorem po_none:PO X none tNoPart:=by
 intro pins s σ H Q I h
 rw[evalPart_none]
 exact wpAny_pure ⟨none,H,I,.none,h⟩
theorem po_some(h:PE X e te):PO X (some e) (tPart te):=by
 intro pins s σ H Q I hw
 rw[evalPart_some]
 refine thn (h pins s σ H _ I hw) fun u s1 ⟨x,H1,I1,r1,q1⟩=>?_
 obtain⟨i,rfl,q⟩:=q1
 obtain⟨t,rfl⟩:=r1
 exact⟨some i,H1,I1,.int i t,q⟩
noncomputable def SlR(X:Cx)(r:V->Option Int->Option Int->Hp->VK->Prop):Prop:=
 ∀ (pins:List (Addr × Obj)) (s:Shared) (σ:St) (H:Hp) (x:V) (v vl vu:Value) (lo hi:Option Int) (sl:Addr) (Q:VK),Inv X pins σ H s->RelV x v->s.heap.IsSliceOf sl vl vu .none->IsPart vl lo->IsPart vu hi->r x lo hi H Q ->
  ∃ T id,typeLookup (.type T) "__getitem__" = pure (some (.builtin id))/\s.TypeIs v T/\wpAny (model X.prog X.w) X.A (getItem v (.ref sl)) (EP X pins σ Q) X.xe s
noncomputable def tSl(r:V->Option Int->Option Int->Hp->VK->Prop)(te:TE)(tl th:TO):TE:=fun σ H Q=>te σ H fun x H1=>tl σ H1 fun l H2=>th σ H2 fun u H3=>r x l u H3 Q
theorem pe_slice{r:V->Option Int->Option Int->Hp->VK->Prop}(hr:SlR X r)(he:PE X e te)(hl:PO X lo tl)(hu:PO X hi th):PE X (.Subscript e (.Slice lo hi none p2) pos) (tSl r te tl th):=by
 intro pins s σ H Q I h
 refine Subscript_ (thn (he pins s σ H _ I h) fun v s1 ⟨x,H1,I1,r1,q1⟩=>?_)
 refine wpAny_Slice (thn (hl pins s1 σ H1 _ I1 q1) fun vl s2 ⟨l,H2,I2,pl,q2⟩=>thn (hu pins s2 σ H2 _ I2 q2) fun vu s3 ⟨u,H3,I3,pu,q3⟩=>?_)
 rw[evalPart_none]
 refine wpAny_pure ?_
 have I4:Inv X pins σ H3 { s3 with heap:=s3.heap.push { cls:=.type "slice",data:=.fields #[vl,vu,.none]}}:=I3.kept (t':=s3.toks) fun b ob q=>Heap.get?_push_of_some _ q
 obtain⟨T,id,hT,ht,hg⟩:=hr pins { s3 with heap:=s3.heap.push { cls:=.type "slice",data:=.fields #[vl,vu,.none]}} σ H3 x v vl vu l u s3.heap.objs.size Q I4 r1 (Heap.IsSliceOf.new ..) pl pu q3
 show wpAny (model X.prog X.w) X.A (subscriptTail e (.Slice lo hi none p2) v (.ref s3.heap.objs.size)) (EP X pins σ Q) X.xe { s3 with heap:=s3.heap.push { cls:=.type "slice",data:=.fields #[vl,vu,.none]}}
 exact tail_any (ops:=[.ref s3.heap.objs.size,v]) ht hT hg (by with_unfolding_all rfl)
noncomputable def cutV(xs:List V)(lo hi:Option Int):List V:=(xs.drop (HT.sIx xs.length 0 lo)).take (HT.sIx xs.length xs.length hi - HT.sIx xs.length 0 lo)
theorem zfV(xs:List V)(lo hi:Option Int):(cutV xs lo hi).length<=xs.length:=by
 unfold cutV
 rw[List.length_take,List.length_drop]
 lia
end
end L2
namespace L2
open PySem PySem.Spec PyProof.Rows
noncomputable def ixN(n:Nat)(i:Int):Option Nat:=if 0<=i then (if i<n then some i.toNat else none) else if -(n:Int)<=i then some (i+n).toNat else none
noncomputable def atI{α:Type}(xs:List α)(i:Int):Option α:=(ixN xs.length i).bind fun j=>xs[j]?
theorem ixN_seq{n:Nat}{i:Int}{j:Nat}(h:ixN n i=some j):seqIndex? i n=some j/\j<n /\ -(n:Int)<=i/\i<n:=by
 unfold ixN at h
 by_cases h0:0<=i
 ·rw[if_pos h0] at h
  by_cases h1:i<n
  ·rw[if_pos h1] at h
   have e:i.toNat=j:=Option.some.inj h
   exact⟨by rw[seqIndex_of h0 h1,e],by lia,by lia,h1⟩
  ·rw[if_neg h1] at h;cases h
 ·rw[if_neg h0] at h
  by_cases h1:-(n:Int)<=i
  ·rw[if_pos h1] at h
   have e:(i+n).toNat=j:=Option.some.inj h
   exact⟨by rw[seqIndex_neg (by lia) h1,e],by lia,h1,by lia⟩
  ·rw[if_neg h1] at h;cases h
theorem zfG{α:Type}{xs:List α}{i:Int}{v:α}(h:atI xs i=some v):∃ j,seqIndex? i xs.length=some j/\xs[j]? = some v/\j<xs.length /\ -(xs.length:Int)<=i/\i<xs.length:=by
 unfold atI at h
 cases e:ixN xs.length i with
 | none=>rw[e] at h;cases h
 | some j=>
  rw[e] at h
  obtain⟨h1,h2,h3,h4⟩:=ixN_seq e
  exact⟨j,h1,h,h2,h3,h4⟩
noncomputable def zfN(b:Expr):Prop:=∀ o i,subscripted b false o i=operate [o,i] (getItem o i)
noncomputable def IxR(X:Cx)(r:R2):Prop:=
 ∀ (value slice:Expr) (pins:List (Addr × Obj)) (s:Shared) (σ:St) (H:Hp) (x y:V) (v u:Value) (Q:VK),Inv X pins σ H s->RelV x v->RelV y u->r x y H Q ->
  subscripted slice false v u=operate [v,u] (getItem v u)->wpAny (model X.prog X.w) X.A (subscriptTail value slice v u) (EP X pins σ Q) X.xe s
noncomputable def MtR(X:Cx)(id:String)(r:V->List V->Hp->VK->Prop):Prop:=
 ∀ (pins:List (Addr × Obj)) (s:Shared) (σ:St) (H:Hp) (x:V) (xs:List V) (v:Value) (us:List Value) (Q:VK),Inv X pins σ H s->RelV x v->Vals xs us->r x xs H Q ->
  wpAny (model X.prog X.w) X.A (call (.builtin id) (v :: us)) (EP X pins σ Q) X.xe s
section
variable {X:Cx}{a b:Expr}{ta tb:TE}{pos:Pos}
theorem pe_ix{r:R2}(hr:IxR X r)(ha:PE X a ta)(hb:PE X b tb)(hs:zfN b):PE X (.Subscript a b pos) (tOp r ta tb):=by
 intro pins s σ H Q I h
 exact Subscript_ (binT ha hb I h fun v u s2 x y H2 I2 rx ry q=>hr a b pins s2 σ H2 x y v u Q I2 rx ry q (hs _ _))
noncomputable def rIxL(K:PySem.W.Frag):R2:=fun x y H Q=>∃ p xs i v,x=.ref p/\y=.int i/\SqL K H p xs/\atI xs i=some v/\Q v H
noncomputable def rIxT(K:PySem.W.Frag):R2:=fun x y H Q=>∃ p xs i v,x=.ref p/\y=.int i/\SqT K H p xs/\atI xs i=some v/\Q v H
noncomputable def rIxS:R2:=fun x y H Q=>∃ z i c,x=.str z/\y=.int i/\z.length<=sizeLine/\atI z.cps.toList i=some c/\Q (.str ⟨#[c]⟩) H
theorem ix_list:IxR X (rIxL X.K):=by
 intro value slice pins s σ H x y v u Q I rx ry h hs
 obtain⟨p,xs,i,z,rfl,rfl,hq,he,q⟩:=h
 cases rx
 obtain⟨t,rfl⟩:=ry
 obtain⟨its,r,pl,hz⟩:=I.list hq
 obtain⟨j,h1,h2,h3,h4,h5⟩:=zfG he
 obtain⟨w,ew,rw'⟩:=r.get h2
 have hl:=r.length
 have hn:=zeh
 have fin:EP X pins σ Q w s:=⟨z,H,I,rw',q⟩
 by_cases h0:0<=i
 ·have hj:i.toNat=j:=by
   rw[seqIndex_of h0 h5] at h1
   exact Option.some.inj h1
  exact item_listR pl.isList h0 (by lia) (by rw[hj];simpa using ew) fin hs
 ·have hj:(i+(its.toArray.size:Int)).toNat=j:=by
   rw[seqIndex_neg (by lia) h4] at h1
   rw[List.size_toArray,<- hl]
   exact Option.some.inj h1
  exact subscriptTail_builtinR (x:=w) pl.isList.typeIs slot_list_getitem.lookup
   (wpAny_getItem_list_neg (Q:=fun r s'=>r=w/\EP X pins σ Q r s') pl.isList (by lia) (by rw[List.size_toArray] <;> lia) (by lia) (by rw[hj];simpa using ew) ⟨rfl,fin⟩) hs
theorem ix_tup:IxR X (rIxT X.K):=by
 intro value slice pins s σ H x y v u Q I rx ry h hs
 obtain⟨p,xs,i,z,rfl,rfl,hq,he,q⟩:=h
 cases rx
 obtain⟨t,rfl⟩:=ry
 obtain⟨its,r,pl,hz⟩:=I.tuple hq
 obtain⟨j,h1,h2,h3,h4,h5⟩:=zfG he
 obtain⟨w,ew,rw'⟩:=r.get h2
 have hl:=r.length
 have hn:=zeh
 have fin:EP X pins σ Q w s:=⟨z,H,I,rw',q⟩
 exact subscriptTail_builtinR (x:=w) pl.typeIs slot_tuple_getitem.lookup
  (getItem_tuple (j:=j) (Q:=fun r s'=>r=w/\EP X pins σ Q r s') pl (by lia) (by lia) (by rw[List.size_toArray,<- hl];exact h1) (by simpa using ew) ⟨rfl,fin⟩) hs
theorem ix_str:IxR X rIxS:=by
 intro value slice pins s σ H x y v u Q I rx ry h hs
 obtain⟨z,i,c,rfl,rfl,hz,he,q⟩:=h
 obtain⟨t,rfl⟩:=rx
 obtain⟨t',rfl⟩:=ry
 obtain⟨j,h1,h2,h3,h4,h5⟩:=zfG he
 have hl:z.cps.toList.length=z.length:=by simp[Str.length]
 rw[hl] at h1 h4 h5
 have hn:=zeh
 exact tail_any (typeIs_str s z t) slot_str_getitem.lookup (getItem_str (c:=c) (by
  have e1:decide (i < -(2 ^ 63:Int))=false:=decide_eq_false (by lia)
  have e2:decide (i ≥ 2 ^ 63)=false:=decide_eq_false (by lia)
  rw[e1,e2,Bool.or_false]) (by rw[h1];simpa using h2) ⟨.str ⟨#[c]⟩,H,I.tok _,⟨_,rfl⟩,q⟩) hs
theorem zgU(its:List Value)(n j:Nat)(u:Value):Obj.mapSeq (·.setIfInBounds j u) { cls:=.type "list",data:=.seq its.toArray n}={ cls:=.type "list",data:=.seq (its.set j u).toArray n}:=by
 simp[Obj.mapSeq]
theorem Inv.lst{pins:List (Addr × Obj)}{σ:St}{H:Hp}{s:Shared}{p:Addr}{xs:List V}(I:Inv X pins σ H s)(h:H p=some (.lst xs)) :
  ∃ (its:List Value) (n:Nat),Vals xs its/\s.heap.get? p=some { cls:=.type "list",data:=.seq its.toArray n}/\xs.length<=sizeLine:=by
 obtain⟨z,its,n,r,e⟩:=I.hok p _ h
 exact⟨its,n,r,e,z⟩
theorem Inv.lstUpd{pins:List (Addr × Obj)}{σ:St}{H:Hp}{s:Shared}{p:Addr}{xs ys:List V}{its its':List Value}{n n':Nat}{f:Obj->Obj}(I:Inv X pins σ H s)(h:H p=some (.lst xs))
  (ho:s.heap.get? p=some { cls:=.type "list",data:=.seq its.toArray n}) (hf:f { cls:=.type "list",data:=.seq its.toArray n}={ cls:=.type "list",data:=.seq its'.toArray n'}) (r:Vals ys its') (hz:ys.length<=sizeLine) (t:Nat) :
  Inv X pins σ (upd H p (.lst ys)) { s with heap:=s.heap.update p f,toks:=t}:=by
 have e:(s.heap.update p f).get? p=some { cls:=.type "list",data:=.seq its'.toArray n'}:=by
  rw[Heap.get?_update_self f ho (by rw[hf] <;> rfl),hf]
 refine I.write (x:=p) (e:=p) (by rw[h];trivial) (.inl rfl) (fun b u hb q=>(Heap.get?_update_other _ _ (Ne.symm hb)).trans q) ⟨_,e⟩ ?_
 exact⟨hz,its',n',r,e⟩
noncomputable def rSetL:V->V->V->Hp->(Hp->Prop)->Prop:=fun o i v H Q=>∃ p xs k j,o=.ref p/\i=.int k/\H p=some (.lst xs)/\ixN xs.length k=some j/\Q (upd H p (.lst (xs.set j v)))
theorem set_list:PSet X rSetL:=by
 intro pins s σ H o i v ov iv u Q I ro ri rv h
 obtain⟨p,xs,k,j,rfl,rfl,hp,hj,q⟩:=h
 cases ro
 obtain⟨t,rfl⟩:=ri
 obtain⟨its,n,r,ho,hz⟩:=I.lst hp
 obtain⟨h1,h2,h3,h4⟩:=ixN_seq hj
 have hl:=r.length
 have hn:=zeh
 have I':Inv X pins σ (upd H p (.lst (xs.set j v))) { s with heap:=s.heap.update p (Obj.mapSeq (·.setIfInBounds j u))}:=
  I.lstUpd hp ho (zgU its n j u) (r.set rv j) (by rw[List.length_set];exact hz) s.toks
 by_cases h0:0<=k
 ·have hk:k.toNat=j:=by
   rw[seqIndex_of h0 h4] at h1
   exact Option.some.inj h1
  exact PySem.W.ki_setAt ho h0 (by lia) (by rw[List.size_toArray,<- hl];exact h4) (by rw[hk];exact⟨_,I',q⟩)
 ·have hk:(k+(its.toArray.size:Int)).toNat=j:=by
   rw[seqIndex_neg (by lia) h3] at h1
   rw[List.size_toArray,<- hl]
   exact Option.some.inj h1
  exact PySem.W.ki_setBack ho (by lia) (by rw[List.size_toArray,<- hl];exact h3) (by lia) (by rw[hk];exact⟨_,I',q⟩)
theorem zfk(lo hi:Option Int)(n:Nat):(sliceBounds lo hi none n).1=((HT.sIx n 0 lo:Nat):Int)/\(sliceBounds lo hi none n).2.1=((HT.sIx n n hi:Nat):Int)/\(sliceBounds lo hi none n).2.2=1:=by
 refine⟨?_,?_,rfl⟩
 ·cases lo with
  | none=>simp[sliceBounds,HT.sIx]
  | some i=>
   simp only[sliceBounds,HT.sIx,Option.getD_none,show(1:Int) > 0 by decide,if_true]
   by_cases h:i<0
   ·simp only[h,if_true] <;> lia
   ·simp only[h,if_false] <;> lia
 ·cases hi with
  | none=>simp[sliceBounds,HT.sIx]
  | some i=>
   simp only[sliceBounds,HT.sIx,Option.getD_none,show(1:Int) > 0 by decide,if_true]
   by_cases h:i<0
   ·simp only[h,if_true] <;> lia
   ·simp only[h,if_false] <;> lia
theorem zeq(its:List Value)(lo hi:Option Int):slicePick its.toArray lo hi none=((its.drop (HT.sIx its.length 0 lo)).take (HT.sIx its.length its.length hi - HT.sIx its.length 0 lo)).toArray:=by
 obtain⟨h1,h2,h3⟩:=zfk lo hi its.toArray.size
 unfold slicePick
 rw[h1,h2,h3]
 simp only[sliceRange_one,pick_run,List.size_toArray] <;> rfl
noncomputable def rSlL(K:PySem.W.Frag):V->Option Int->Option Int->Hp->VK->Prop:=fun x lo hi H Q=>∃ a xs,x=.ref a/\SqL K H a xs/\∀ p,H p=none->Q (.ref p) (upd H p (.lst (cutV xs lo hi)))
theorem sl_list:SlR X (rSlL X.K):=by
 intro pins s σ H x v vl vu lo hi sl Q I rx hs pl pu h
 obtain⟨a,xs,rfl,hx,q⟩:=h
 cases rx
 obtain⟨its,r,ht,hz⟩:=I.list hx
 have hlen:=r.length
 refine⟨"list",_,slot_list_getitem.lookup,ht.isList.typeIs,?_⟩
 refine wpAny_getItem_list_slice ht.isList hs pl pu .none (by simp) ?_ (by rw[List.size_toArray] <;> lia)
 rw[zeq,<- hlen]
 refine⟨.ref s.heap.objs.size,_,I.laid (t':=s.toks) (o:=.lst (cutV xs lo hi)) (fun b ob q=>Heap.get?_push_of_some _ q) (Nat.le_refl _) ?_,rfl,q _ (I.hok.fresh (Nat.le_refl _))⟩
 exact⟨Nat.le_trans (zfV xs lo hi) hz,_,0,(r.drop (HT.sIx xs.length 0 lo)).take (HT.sIx xs.length xs.length hi - HT.sIx xs.length 0 lo),Heap.get?_push_size _ rfl⟩
noncomputable def flatV:V->Bool
 | .non=>true
 | .bl _=>true
 | .int _=>true
 | .str _=>true
 | _=>false
noncomputable def eqV:V->V->Bool
 | .non,.non=>true
 | .bl a,.bl b=>a == b
 | .bl a,.int b=>(if a then 1 else 0) == b
 | .int a,.bl b=>a == (if b then 1 else 0)
 | .int a,.int b=>a == b
 | .str a,.str b=>a == b
 | _,_=>false
theorem eqAt_V{A:Around}{s:Shared}{y x:V}{u v:Value}(ry:RelV y u)(rx:RelV x v)(fy:flatV y=true)(fx:flatV x=true):SeqAt.EqAt A s u v (eqV y x):=by
 cases y with
 | non=>
  cases ry
  cases x with
  | non=>cases rx;exact SeqAt.EqAt.same _
  | bl b=>cases rx;exact SeqAt.EqAt.none_bool b
  | int b=>obtain⟨t,rfl⟩:=rx;exact SeqAt.EqAt.none_int b t
  | str b=>obtain⟨t,rfl⟩:=rx;exact SeqAt.EqAt.none_str b t
  | _=>exact absurd (show false=true from fx) Bool.false_ne_true
 | bl a=>
  cases ry
  cases x with
  | non=>cases rx;exact SeqAt.EqAt.bool_none a
  | bl b=>cases rx;exact SeqAt.EqAt.bool_bool a b
  | int b=>obtain⟨t,rfl⟩:=rx;exact SeqAt.EqAt.bool_int a b t
  | str b=>obtain⟨t,rfl⟩:=rx;exact SeqAt.EqAt.bool_str a b t
  | _=>exact absurd (show false=true from fx) Bool.false_ne_true
 | int a=>
  obtain⟨t',rfl⟩:=ry
  cases x with
  | non=>cases rx;exact SeqAt.EqAt.int_none a t'
  | bl b=>cases rx;exact SeqAt.EqAt.int_bool a t' b
  | int b=>obtain⟨t,rfl⟩:=rx;exact SeqAt.EqAt.int_int a t' b t
  | str b=>obtain⟨t,rfl⟩:=rx;exact SeqAt.EqAt.int_str a t' b t
  | _=>exact absurd (show false=true from fx) Bool.false_ne_true
 | str a=>
  obtain⟨t',rfl⟩:=ry
  cases x with
  | non=>cases rx;exact SeqAt.EqAt.str_none a t'
  | bl b=>cases rx;exact SeqAt.EqAt.str_bool a t' b
  | int b=>obtain⟨t,rfl⟩:=rx;exact SeqAt.EqAt.str_int a t' b t
  | str b=>obtain⟨t,rfl⟩:=rx;exact SeqAt.EqAt.str_str a t' b t
  | _=>exact absurd (show false=true from fx) Bool.false_ne_true
 | _=>exact absurd (show false=true from fy) Bool.false_ne_true
theorem ze1:zcR X (.builtin "len") (fun xs H Q=>∃ p ys,xs=[.ref p]/\(SqL X.K H p ys \/ SqT X.K H p ys)/\Q (.int ys.length) H):=by
 intro pins s σ H xs us Q I r h
 obtain⟨p,ys,rfl,hq,q⟩:=h
 obtain⟨u,rfl,rx⟩:=zeJ r
 cases rx
 have hn:=zeh
 rcases hq with hq | hq
 ·obtain⟨its,r',pl,hz⟩:=I.list hq
  have hlen:=r'.length
  exact Calls.call_len_list pl.isList (by simp only[List.size_toArray] <;> lia) ⟨.int ys.length,H,I.tok _,⟨s.toks+1,by rw[List.size_toArray,hlen]⟩,q⟩
 ·obtain⟨its,r',pl,hz⟩:=I.tuple hq
  have hlen:=r'.length
  exact len_tuple pl (by simp only[List.size_toArray] <;> lia) ⟨.int ys.length,H,I.tok _,⟨s.toks+1,by rw[List.size_toArray,hlen]⟩,q⟩
theorem zeZ:zcR X (.builtin "len") (fun xs H Q=>∃ z,xs=[.str z]/\z.length<=sizeLine/\Q (.int z.length) H):=by
 intro pins s σ H xs us Q I r h
 obtain⟨z,rfl,hz,q⟩:=h
 obtain⟨u,rfl,t,rfl⟩:=zeJ r
 have hn:=zeh
 exact len_str (by lia) ⟨.int z.length,H,I.tok _,⟨_,rfl⟩,q⟩
theorem zfo:zcR X (.type "list") (fun xs H Q=>∃ p ys,xs=[.ref p]/\(SqL X.K H p ys \/ SqT X.K H p ys)/\∀ l,H l=none->Q (.ref l) (upd H l (.lst ys))):=by
 intro pins s σ H xs us Q I r h
 obtain⟨p,ys,rfl,hq,q⟩:=h
 obtain⟨u,rfl,rx⟩:=zeJ r
 cases rx
 have fin:∀ (its:List Value),Vals ys its->ys.length<=sizeLine->∀ (h':Heap) (c':Nat),(∀ b o',s.heap.get? b=some o'->h'.get? b=some o') ->
   h'.get? s.heap.objs.size=some { cls:=.type "list",dict:=none,data:=.seq its.toArray c',slots:=#[]}->EP X pins σ Q (.ref s.heap.objs.size) { s with heap:=h'}:=fun its r' hz h' c' kp e=>
  ⟨.ref s.heap.objs.size,_,I.laid (t':=s.toks) kp (Nat.le_refl _) (show ObjOk X.prog X.w _ h' _ (.lst ys) from ⟨hz,its,c',r',e⟩),rfl,q _ (I.hok.fresh (Nat.le_refl _))⟩
 rcases hq with hq | hq
 ·obtain⟨its,r',pl,hz⟩:=I.list hq
  have hlen:=r'.length
  obtain⟨o,ho,hc,n,hd⟩:=pl.isList
  exact call_list_seq p (.inl rfl) ho hc hd (fun h' c' kp e=>fin its r' hz h' c' kp e) (by simp only[List.size_toArray] <;> lia)
 ·obtain⟨its,r',pl,hz⟩:=I.tuple hq
  have hlen:=r'.length
  obtain⟨o,ho,hc,n,hd⟩:=pl
  exact call_list_seq p (.inr rfl) ho hc hd (fun h' c' kp e=>fin its r' hz h' c' kp e) (by simp only[List.size_toArray] <;> lia)
theorem zeK:zcR X (.type "tuple") (fun xs H Q=>∃ p ys,xs=[.ref p]/\((SqL X.K H p ys/\∀ l,H l=none->Q (.ref l) (upd H l (.tup ys))) \/ (SqT X.K H p ys/\Q (.ref p) H))):=by
 intro pins s σ H xs us Q I r h
 obtain⟨p,ys,rfl,h⟩:=h
 obtain⟨u,rfl,rx⟩:=zeJ r
 cases rx
 rcases h with ⟨hq,q⟩ | ⟨hq,q⟩
 ·obtain⟨its,r',pl,hz⟩:=I.list hq
  have hlen:=r'.length
  refine call_tuple_list pl.isList (fun h' kp=>?_) (by simp only[List.size_toArray] <;> lia)
  have I1:Inv X pins σ H { s with heap:=h'}:=I.kept (t':=s.toks) kp
  have I2:Inv X pins σ (upd H h'.objs.size (.tup ys)) { s with heap:=h'.push { cls:=.type "tuple",data:=.seq its.toArray}}:=
   I1.laid (t':=s.toks) (fun b o e=>Heap.get?_push_of_some _ e) (Nat.le_refl _) (show ObjOk X.prog X.w _ _ _ (.tup ys) from ⟨hz,its,r',TupN.new _ _⟩)
  exact⟨.ref h'.objs.size,_,I2,rfl,q _ (I1.hok.fresh (Nat.le_refl _))⟩
 ·obtain⟨its,r',pl,hz⟩:=I.tuple hq
  exact call_tuple_same pl ⟨.ref p,H,I,rfl,q⟩
noncomputable def tyV(K:PySem.W.Frag)(T:String)(x:V)(H:Hp):Prop:=match x with
 | .str _=>T = "str"
 | .int _=>T = "int"
 | .ref p=>(T = "list" /\ ∃ xs,SqL K H p xs) \/ (T = "tuple" /\ ∃ o,K.lookup p=some o/\o.cls=.type "tuple" /\ o.dict=none) \/
   (T = "dict" /\ ((∃ kvs,Rd H p (.dK kvs)) \/ ∃ kvs,H p=some (.dT kvs))) \/ (T = "set" /\ ∃ S n,H p=some (.set S n))
 | _=>False
theorem tyV_is{pins:List (Addr × Obj)}{σ:St}{H:Hp}{s:Shared}{T:String}{x:V}{v:Value}(I:Inv X pins σ H s)(r:RelV x v)(ty:tyV X.K T x H) :
  s.TypeIs v T/\∀ a,v=.ref a->∃ ob,s.heap.get? a=some ob/\ob.dict=none:=by
 cases x with
 | str z=>
  obtain⟨t,rfl⟩:=r
  cases (show T = "str" from ty)
  exact⟨typeIs_str s z t,fun _ e=>nomatch e⟩
 | int i=>
  obtain⟨t,rfl⟩:=r
  cases (show T = "int" from ty)
  exact⟨typeIs_int s i t,fun _ e=>nomatch e⟩
 | ref p=>
  cases r
  rcases ty with ⟨rfl,xs,hq⟩ | ⟨rfl,o,hk,hc,hd⟩ | ⟨rfl,hk⟩ | ⟨rfl,S,n,hk⟩
  ·obtain⟨its,_,pl,_⟩:=I.list hq
   refine⟨pl.isList.typeIs,fun a e=>?_⟩
   cases e
   obtain⟨o,n,e,c,hd,_⟩:=pl
   exact⟨o,e,hd⟩
  ·refine⟨⟨o,I.kIn p o hk,hc⟩,fun a e=>?_⟩
   cases e
   exact⟨o,I.kIn _ o hk,hd⟩
  ·have z:∃ o,s.heap.get? p=some o/\o.ExactDict:=by
    rcases hk with ⟨kvs,hk⟩ | ⟨kvs,hk⟩
    ·obtain⟨_,_,_,_,o,_,_,e,ex,_⟩:=hk.ok I.hok
     exact⟨o,e,ex⟩
    ·obtain⟨_,_,_,_,o,_,_,e,ex,_⟩:=I.hok p _ hk
     exact⟨o,e,ex⟩
   obtain⟨o,e,ex⟩:=z
   refine⟨⟨o,e,ex.1⟩,fun a e2=>?_⟩
   cases e2
   exact⟨o,e,ex.2.1⟩
  ·obtain⟨o,_,_,_,e,ex,_⟩:=I.hok p _ hk
   refine⟨⟨o,e,ex.1⟩,fun a e2=>?_⟩
   cases e2
   exact⟨o,e,ex.2.1⟩
 | _=>exact False.elim ty
noncomputable def tBM0(K:PySem.W.Frag)(T:String)(r:V->List V->Hp->VK->Prop)(to:TE):TE:=fun σ H Q=>to σ H fun x H1=>tyV K T x H1/\r x [] H1 Q
noncomputable def tBM(K:PySem.W.Frag)(T:String)(r:V->List V->Hp->VK->Prop)(to:TE)(t:TA):TE:=fun σ H Q=>to σ H fun x H1=>tyV K T x H1/\t σ H1 fun xs H2=>r x xs H2 Q
variable {o e:Expr}{es:List Expr}{to:TE}{t:TA}{name:Str}{apos cpos:Pos}{T id:String}{r:V->List V->Hp->VK->Prop}
theorem pe_bm0(pa:PlainAttrs T)(slot:Slot T name id)(hty:typeOf (.builtin id)=pure (.type "method_descriptor"))(hm:MtR X id r)(ho:PE X o to)
  (hbase:attributeBase o name X.env (eval o X.env)=eval o X.env:=by rfl) (hline:(apos.endLine == cpos.line)=true:=by rfl):PE X (.Call (.Attribute o name apos) [] [] cpos) (tBM0 X.K T r to):=by
 intro pins s σ H Q I h
 refine wpAny_Call_method0_late hbase hline (thn (ho pins s σ H _ I h) fun v s1 ⟨x,H1,I1,r1,ty,q1⟩=>?_)
 obtain⟨h1,h2⟩:=tyV_is I1 r1 ty
 exact⟨T,id,pa,slot,hty,h1,h2,Calls.callWith_builtin rfl (PySem.evalArgs_none (hm pins s1 σ H1 x [] v [] Q I1 r1 .nil q1))⟩
theorem pe_bm(pa:PlainAttrs T)(slot:Slot T name id)(hty:typeOf (.builtin id)=pure (.type "method_descriptor"))(hm:MtR X id r)(ho:PE X o to)(ha:PA X (e :: es) t)
  (hbase:attributeBase o name X.env (eval o X.env)=eval o X.env:=by rfl)
  (hfew:((backTo cpos (starEach (e :: es) X.env)).all (fun x=>!x.1) && (backToKw cpos (keywordEach [] X.env)).all (fun x=>x.1.isSome)
   && decide ((e :: es).length+([]:List Keyword).length+(if ([]:List Keyword).isEmpty then 0 else 1)<30))=true:=by rfl)
  (hline:(apos.endLine == cpos.line)=true:=by rfl) (hs:starEach (e :: es) X.env=(false,eval e X.env) :: starEach es X.env:=by rfl) (hplain:(backTo cpos (starEach es X.env)).any (·.1)=false:=by rfl) :
  PE X (.Call (.Attribute o name apos) (e :: es) [] cpos) (tBM X.K T r to t):=by
 intro pins s σ H Q I h
 refine wpAny_Call_method_late hbase hfew hline rfl (thn (ho pins s σ H _ I h) fun v s1 ⟨x,H1,I1,r1,ty,q1⟩=>?_)
 obtain⟨h1,h2⟩:=tyV_is I1 r1 ty
 refine⟨T,id,pa,slot,hty,h1,h2,?_⟩
 have hA:=ha cpos pins s1 σ H1 _ I1 q1
 rw[hs] at hA ⊢
 refine Calls.callWith_builtin (by show(false || (backTo cpos (starEach es X.env)).any (·.1))=false;rw[hplain] <;> rfl) (Calls.evalArgs_plain ?_)
 exact thn hA fun us s2 ⟨vs,H2,I2,r2,q2⟩=>hm pins s2 σ H2 x vs v us Q I2 r1 r2 q2
end
end L2
namespace L2
open PySem PySem.Spec PyProof.Rows
noncomputable def MtM(X:Cx)(id:String)(r:V->List V->Hp->VK->Prop):Prop:=
 ∀ (pins:List (Addr × Obj)) (s:Shared) (σ:St) (H:Hp) (x:V) (xs:List V) (v:Value) (us:List Value) (Q:VK),Inv X pins σ H s->RelV x v->Vals xs us->r x xs H Q ->
  wpAny (model X.prog X.w) X.A (call (.builtin id) (v :: us)) (EP X pins σ Q) X.xe s
theorem Vals.one:∀ {x:V} {us:List Value},Vals [x] us->∃ u,us=[u]/\RelV x u
 | _,_,.cons r .nil=>⟨_,rfl,r⟩
theorem Vals.zero:∀ {us:List Value},Vals [] us->us=[]
 | _,.nil=>rfl
theorem Vals.dropLast{xs:List V}{us:List Value}(h:Vals xs us):Vals xs.dropLast us.dropLast:=by
 induction h with
 | nil=>exact .nil
 | cons r t ih=>
  cases t with
  | nil=>exact .nil
  | cons q t'=>exact .cons r ih
theorem Vals.rep{xs:List V}{us:List Value}(h:Vals xs us):∀ k:Nat,Vals (List.replicate k xs).flatten (List.replicate k us).flatten
 | 0=>.nil
 | k+1=>by
  rw[List.replicate_succ,List.replicate_succ,List.flatten_cons,List.flatten_cons]
  exact Vals.append h (Vals.rep h k)
theorem zgY{α:Type}(l:List α):l.eraseIdx (l.length - 1)=l.dropLast:=by
 induction l with
 | nil=>rfl
 | cons a r ih=>
  cases r with
  | nil=>rfl
  | cons b r=>
   have e:(a :: b :: r).length - 1=((b :: r).length - 1)+1:=by
    have h1:(a :: b :: r).length=r.length+2:=rfl
    have h2:(b :: r).length=r.length+1:=rfl
    lia
   rw[e,List.eraseIdx_cons_succ,ih]
   all_goals rfl
theorem ze6(its:List Value):∀ (k:Nat) (acc:List Value),
  List.foldl (fun x1 x2=>x1 ++ x2) acc.toArray (List.replicate k its.toArray)=(acc ++ (List.replicate k its).flatten).toArray
 | 0,acc=>by simp
 | k+1,acc=>by
  have e:acc.toArray ++ its.toArray=(acc ++ its).toArray:=by simp
  have e2:(acc ++ its) ++ (List.replicate k its).flatten=acc ++ (List.replicate (k+1) its).flatten:=by
   rw[List.replicate_succ,List.flatten_cons,List.append_assoc]
  rw[<- e2,<- ze6 its k (acc ++ its),<- e,List.replicate_succ,List.foldl_cons]
section
variable {X:Cx}{pins:List (Addr × Obj)}{σ:St}{H:Hp}{s:Shared}{l b:Addr}{xs ys zs:List V}
theorem Inv.lset{its its':List Value}{n:Nat}{f:Array Value->Array Value}{t':Nat}(I:Inv X pins σ H s)(hH:H l=some (.lst xs))
  (e:s.heap.get? l=some { cls:=.type "list",data:=.seq its.toArray n}) (hf:f its.toArray=its'.toArray) (hv:Vals ys its') (hz:ys.length<=sizeLine) :
  Inv X pins σ (upd H l (.lst ys)) { s with heap:=s.heap.update l (Obj.mapSeq f),toks:=t'}:=by
 have q:=PySem.IsL.update e f
 rw[hf] at q
 refine I.write (x:=l) (e:=l) (by rw[hH];exact trivial) (.inl rfl) (fun b' u hb hu=>(Heap.get?_update_other s.heap (Obj.mapSeq f) (Ne.symm hb)).trans hu) ⟨_,q⟩ ?_
 exact⟨hz,its',_,hv,q⟩
theorem Inv.lnew{its:List Value}{t':Nat}(I:Inv X pins σ H s)(hv:Vals ys its)(hz:ys.length<=sizeLine) :
  Inv X pins σ (upd H s.heap.objs.size (.lst ys)) { s with heap:=s.heap.push { cls:=.type "list",data:=.seq its.toArray},toks:=t'}:=
 I.laid (fun _ _ q=>Heap.get?_push_of_some _ q) (Nat.le_refl _) ⟨hz,its,0,hv,Heap.get?_push_size _ rfl⟩
theorem Inv.fresh(I:Inv X pins σ H s):H s.heap.objs.size=none:=I.hok.fresh (Nat.le_refl _)
theorem Inv.lstM(I:Inv X pins σ H s)(hH:H l=some (.lst xs)):xs.length<=sizeLine/\∃ (its:List Value) (n:Nat),Vals xs its/\xs.length=its.length/\s.heap.get? l=some { cls:=.type "list",data:=.seq its.toArray n}:=by
 obtain⟨z,its,n,r,e⟩:=I.hok l _ hH
 exact⟨z,its,n,r,r.length,e⟩
theorem zgo{n:Nat}(h:n<=sizeLine):Builtin.List.listTooLong n=false:=by
 unfold Builtin.List.listTooLong
 exact decide_eq_false (by lia)
end
section
variable {X:Cx}
noncomputable def rAppend:V->List V->Hp->VK->Prop:=fun x vs H Q=>∃ l xs y,x=.ref l/\vs=[y]/\H l=some (.lst xs)/\xs.length<sizeLine/\Q .non (upd H l (.lst (xs ++ [y])))
theorem zfh:MtM X "list.append" rAppend:=by
 intro pins s σ H x vs v us Q I rx rv h
 obtain⟨l,xs,y,rfl,rfl,hH,hz,q⟩:=h
 cases rx
 obtain⟨u,rfl,ru⟩:=rv.one
 obtain⟨z,its,n,r,hl,e⟩:=I.lstM hH
 refine call_meets F.slot_list_append ⟨_,e,rfl⟩ F.entry_list_append (F.args_list_append_2 _ _) (PySem.list_append l its.toArray n u (by rw[List.size_toArray];lia)) ⟨e,?_⟩
 refine⟨.non,_,I.lset (its':=its ++ [u]) hH e (by simp) (r.append (.cons ru .nil)) ?_,rfl,q⟩
 rw[List.length_append,List.length_singleton]
 lia
noncomputable def rExtend:V->List V->Hp->VK->Prop:=fun x vs H Q=>∃ l b xs zs,x=.ref l/\vs=[.ref b]/\H l=some (.lst xs)/\H b=some (.lst zs)/\xs.length+zs.length<=sizeLine/\Q .non (upd H l (.lst (xs ++ zs)))
theorem mt_extend:MtM X "list.extend" rExtend:=by
 intro pins s σ H x vs v us Q I rx rv h
 obtain⟨l,b,xs,zs,rfl,rfl,hH,hB,hz,q⟩:=h
 cases rx
 obtain⟨u,rfl,ru⟩:=rv.one
 cases ru
 obtain⟨z,its,n,r,hl,e⟩:=I.lstM hH
 obtain⟨z2,its2,n2,r2,hl2,e2⟩:=I.lstM hB
 have hsz:its.toArray.size+its2.toArray.size<=sizeLine:=by rw[List.size_toArray,List.size_toArray];lia
 have hlong:¬ (!its.toArray.isEmpty && Builtin.List.listTooLong (its.toArray.size+its2.toArray.size))=true:=by
  rw[zgo hsz,Bool.and_false]
  exact Bool.false_ne_true
 refine call_meets F.slot_list_extend ⟨_,e,rfl⟩ F.entry_list_extend (F.args_list_extend_2 _ _)
  (AutoSeq1.list_extend_list_list_0 l its.toArray n b its2.toArray n2 hlong (by rw[List.size_toArray];lia) (by lia)) ⟨e,e2,?_⟩
 refine⟨.non,_,I.lset (its':=its ++ its2) hH e (by simp) (r.append r2) ?_,rfl,q⟩
 rw[List.length_append]
 lia
noncomputable def rPop:V->List V->Hp->VK->Prop:=fun x vs H Q=>∃ l xs y,x=.ref l/\vs=[]/\H l=some (.lst xs)/\xs[xs.length - 1]? = some y/\Q y (upd H l (.lst xs.dropLast))
theorem mt_pop:MtM X "list.pop" rPop:=by
 intro pins s σ H x vs v us Q I rx rv h
 obtain⟨l,xs,y,rfl,rfl,hH,hy,q⟩:=h
 cases rx
 have hus:=rv.zero
 subst hus
 obtain⟨z,its,n,r,hl,e⟩:=I.lstM hH
 obtain⟨u,hu,ru⟩:=r.get hy
 have hy':its.toArray[its.toArray.size - 1]? = some u:=by
  show its.toArray[its.length - 1]? = some u
  rw[<- Array.getElem?_toList,<- hl]
  exact hu
 refine call_meets F.slot_list_pop ⟨_,e,rfl⟩ F.entry_list_pop (F.args_list_pop_1 _) (MeetsSeq.list_pop_last l its.toArray n u hy' (by rw[List.size_toArray];lia)) ⟨e,?_⟩
 refine⟨y,_,I.lset (its':=its.dropLast) hH e ?_ r.dropLast ?_,ru,q⟩
 ·show its.toArray.eraseIdxIfInBounds (its.toArray.size - 1)=its.dropLast.toArray
  rw[List.size_toArray,List.eraseIdxIfInBounds_toArray,zgY]
 ·rw[List.length_dropLast]
  lia
noncomputable def rCat:R2:=fun x y H Q=>∃ l b xs zs,x=.ref l/\y=.ref b/\H l=some (.lst xs)/\H b=some (.lst zs)/\xs.length+zs.length<=sizeLine/\∀ p,H p=none->Q (.ref p) (upd H p (.lst (xs ++ zs)))
theorem op_cat:OpR X (binaryOp .Add) rCat:=by
 intro pins s σ H x y v u Q I rx ry h
 obtain⟨l,b,xs,zs,rfl,rfl,hH,hB,hz,q⟩:=h
 cases rx
 cases ry
 obtain⟨z,its,n,r,hl,e⟩:=I.lstM hH
 obtain⟨z2,its2,n2,r2,hl2,e2⟩:=I.lstM hB
 refine PySem.P.add_list e e2 ?_ (by rw[List.size_toArray,List.size_toArray];lia)
 have ea:its.toArray ++ its2.toArray=(its ++ its2).toArray:=by simp
 rw[ea]
 exact⟨.ref _,_,I.lnew (t':=s.toks) (r.append r2) (by rw[List.length_append];lia),rfl,q _ I.fresh⟩
noncomputable def rRep:R2:=fun x y H Q=>∃ l k xs,x=.ref l/\y=.int k/\H l=some (.lst xs) /\ -(2 ^ 63)<=k/\k<2 ^ 63/\xs.length * k.toNat<=sizeLine /\
 ∀ p,H p=none->Q (.ref p) (upd H p (.lst (List.replicate k.toNat xs).flatten))
theorem len_rep{α:Type}(xs:List α)(k:Nat):(List.replicate k xs).flatten.length=k * xs.length:=by
 induction k with
 | zero=>simp
 | succ k ih=>rw[List.replicate_succ,List.flatten_cons,List.length_append,ih,Nat.succ_mul,Nat.add_comm]
theorem op_rep:OpR X (binaryOp .Mult) rRep:=by
 intro pins s σ H x y v u Q I rx ry h
 obtain⟨l,k,xs,rfl,rfl,hH,h1,h2,hz,q⟩:=h
 cases rx
 obtain⟨t,rfl⟩:=ry
 obtain⟨z,its,n,r,hl,e⟩:=I.lstM hH
 have hlen:its.toArray.size * k.toNat<=sizeLine:=by rw[List.size_toArray,<- hl];exact hz
 have hcap:¬ its.toArray.size * k.toNat > (2 ^ 63 - 1) / 8:=by
  have:(sizeLine:Nat)<=(2 ^ 63 - 1) / 8:=by decide
  lia
 have hfit:¬ (!Builtin.List.listFitsIndex k)=true:=by
  rw[fitsIndex_both h1 h2]
  exact Bool.false_ne_true
 have hlong:¬ Builtin.List.listTooLong (its.toArray.size * k.toNat)=true:=by
  rw[zgo hlen]
  exact Bool.false_ne_true
 have hnew:List.foldl (fun x1 x2=>x1 ++ x2) #[] (List.replicate (if its.toArray.isEmpty=true then 0 else k.toNat) its.toArray)=(List.replicate k.toNat its).flatten.toArray:=by
  have f0:∀ m:Nat,List.foldl (fun x1 x2=>x1 ++ x2) #[] (List.replicate m its.toArray)=(List.replicate m its).flatten.toArray:=fun m=>by
   have:=ze6 its m []
   rw[List.nil_append] at this
   exact this
  rw[f0]
  cases its with
  | nil=>simp
  | cons a r'=>rw[if_neg (by simp)]
 refine wpAny_binaryOp_repeat_ref (T:= "list") (U:= "int") (by decide) ⟨_,e,rfl⟩ (fun s'=>typeIs_int s' k t) noFill_list_mul F.fills_int_mul F.slot_int_rmul repeat_list F.slot_int_index.lookup
  (call_meets F.slot_int_rmul (typeIs_int s k t) F.entry_int_rmul (F.args_int_rmul_2 _ _) (int___rmul___int_list k t l its.toArray n)
   ⟨e,rfl,⟨_,e,rfl⟩,call_meets F.slot_list_mul ⟨_,e,rfl⟩ F.entry_list_mul (F.args_list_mul_2 _ _) (AutoListH.list___mul___list_int_3 l its.toArray n k t hfit hcap hlong) ⟨e,?_⟩⟩)
 rw[hnew]
 exact⟨.ref _,_,I.lnew (t':=s.toks) (r.rep k.toNat) (by rw[len_rep,Nat.mul_comm];exact hz),rfl,q _ I.fresh⟩
end
section
variable {prog:Program}{w:World}{A:Around}{E:Value->Shared->Prop}{s:Shared}
end
section
variable {X:Cx}
end
end L2
namespace Att
open PySem PySem.W PySem.Calls PyProof.Rows
theorem zdS{P:Params}{h:Heap}:∀ (ns:List Int) (vs:List Value),WellAll P h vs (ns.map WData.int)->IntsAre vs ns:=by
 intro ns
 induction ns with
 | nil=>
  intro vs w
  rw[List.map_nil] at w
  cases w
  exact .nil
 | cons n ns ih=>
  intro vs w
  rw[List.map_cons] at w
  cases w with
  | cons a b=>
   cases a
   exact .cons _ _ (ih _ b)
theorem script_of{l:OpenLaw}{n:Nat}(hn:l.most=some n){P:Params}{h:Heap}{args:List WData}{vals:List Value}
  (hpre:l.row.toRowW.claim.pre args=true) (hwl:WellAll P h vals args) :
  ∃ a vs ns,vals=[Value.ref a]/\args=[WData.list (ns.map WData.int)]/\h.get? a=some { cls:=.type "list",data:=.seq vs.toArray}/\IntsAre vs ns/\ns.length<=n:=by
 have hsh:WShape.hasAll [] args [.list .int]=true:=(pre_splitW hpre).1
 have hc:l.pre.holds [] { args:=args}=true:=(pre_splitW hpre).2
 obtain⟨d,r,rfl,h1,h2⟩:=hasAllW_cons hsh
 obtain rfl:=hasAllW_nil h2
 obtain⟨xs,rfl,h3⟩:=hasW_list h1
 obtain⟨ns,rfl⟩:=items_int h3
 have hlen:ns.length<=n:=by
  unfold OpenLaw.pre at hc
  have h4:(WTm.not (.lt (.lit (.int (n:Int))) (.len (.arg 0)))).holds [] { args:=[.list (ns.map .int)]}=true:=by
   have h4:=(holds_andW hc).1
   rw[hn] at h4
   exact h4
  have h5:=condW_of h4 (w_not (w_lt w_lit (w_len_list (w_arg rfl))))
  rw[List.length_map] at h5
  refine Nat.le_of_not_lt fun q=>?_
  have q':(n:Int)<((ns.length:Nat):Int):=by lia
  first
   | (rw[decide_eq_true q'] at h5;exact absurd h5 (by decide))
   | (simp at h5;lia)
 cases hwl with
 | cons w1 w2=>
  cases w2
  cases w1 with
  | list ho hall=>exact⟨_,_,ns,rfl,rfl,ho,zdS ns _ hall,hlen⟩
theorem post_true(l:OpenLaw)(args:List WData):l.row.toRowW.claim.post args (.bool true) args=true:=
 postW_of (r:=l.row.toRowW) (X:=(true == true))
  (show WShape.has [] (.bool true) .bool=true by first | rfl | decide | simp[WShape.has,WShape.arms,WShape.armsAll])
  (show(WTm.eq .res (.lit (.bool true))).value [] { args:=args,res:=some (.bool true),after:=args}=some (.bool (true == true)) from w_eq_bool (w_res rfl) w_lit) rfl
theorem attach_call{l:OpenLaw}{n:Nat}{q:Program}{loose:List Str}{XP:(Str->Option Value)->Heap->Prop}{YP:World->Heap->Prop}{d:DefRec}
  (hn:l.most=some n) (hdf:d.params.defaults=[])
  (call:∀ (w:World) (s₀ s₁:Shared) (mg mb:Str->Option Value) (fa:Addr) (o:Obj) (pm cd doc:Value) (a:Addr) (vs:List Value) (ns:List Int),
   Ground q loose [] XP w s₀ mg mb s₁.heap->YP w s₁.heap ->
   s₁.heap.get? fa=some o->o.data=.func (docDef d.name d.params d.body d.scope pm cd doc)->s₁.heap.CodeRec cd d.name->mg d.name=some (.ref fa) ->
   s₁.heap.get? a=some { cls:=.type "list",data:=.seq vs.toArray}->IntsAre vs ns->ns.length<=n->s₁.gens=#[] ->
   codeAny (model l.prog w) callerA (.call (.ref fa) ⟨[.ref a],[]⟩) (fun r s'=>r=.ok (.ret (.bool true))/\OldK s₁.heap s'.heap/\s'.os=s₁.os/\AllBare s'.gens) s₁) :
  WalkO q loose XP YP l.row.toRowW d [] (fun f vs=>PySem.call f vs):=by
 intro w s₀ s₁ mg mb G Y fa o pm cd doc dV kV ho hd hcd hD hmg hg args vals as hpre hlay hrd hwl hlo
 obtain rfl:dV=.none:=Dflts.none hD hdf
 obtain rfl:kV=.none:=Dflts.noKw hD
 obtain⟨a,vs,ns,rfl,rfl,hobj,hints,hlen⟩:=script_of hn hpre hwl
 refine enter_call (codeAny_mono (call w s₀ s₁ mg mb fa o pm cd doc a vs ns G Y ho (fd_plain hd) hcd hmg hobj hints hlen hg) fun r s' hq=>?_)
 obtain⟨rfl,h2,h3,h4⟩:=hq
 exact⟨.inl ⟨.bool true,.bool true,[],rfl,fun _=>rfl,.bool true,post_true l _,fun _=>⟨List.Pairwise.nil,fun _ hm=>(nomatch hm)⟩⟩,h2,h3,h4⟩
section
variable {prog:Program}{w:World}{A:Around}{E:Value->Shared->Prop}{s:Shared}{K:Frag}
end
end Att
namespace L2
open PySem PySem.Spec PyProof.Rows
theorem zfj:∀ {vs:List Value} {ns:List Int},IntsAre vs ns->Vals (ns.map V.int) vs
 | _,_,.nil=>.nil
 | _,_,.cons n t h=>.cons ⟨t,rfl⟩ (zfj h)
noncomputable def Only(H:Hp):Prop:=∀ b,H b=none \/ ∃ o xs,H b=some (.frz o (.lst xs))
theorem law_call{P:Program}{w:World}{K:PySem.W.Frag}{mg mb:Str->Option Value}{CX:CXT}{k:Nat}{fa a:Addr}{fd:FuncData}{x:Str}{sp:Sp}{s₁:Shared}{vs:List Value}{ns:List Int}
  (KX:K.In s₁.heap) (hns:s₁.heap.Ns mainGlobals mg) (hb:s₁.heap.Ns builtinsNs mb) (hbb:∀ x:Str,x ≠ "__name__" -> mb x=bootBuiltins x) (hlim:s₁.heap.NoLimit) (hg:s₁.gens=#[])
  (ha:s₁.heap.get? a=some { cls:=.type "list",data:=.seq vs.toArray}) (hi:IntsAre vs ns) (hl:ns.length<=sizeLine) (hr:Room k callerA)
  (F:∀ base:Heap,K.In base->base.Ns mainGlobals mg->FnOk P w K mg base CX k fa fd [x] sp) (hbind:∀ (s:Shared) (u:Value),BindsTo s fd ⟨[u],[]⟩ [(x,u)])
  (hsp:∀ H:Hp,Only H->SqL K H a (ns.map V.int)->sp [.ref a] H (fun v _=>v=.bl true) fun _ _ _=>False)
  (hCX:∀ H e s',CX [] H s₁ (fun _ _ _=>False) e s'->False) :
  codeAny (model P w) callerA (.call (.ref fa) ⟨[.ref a],[]⟩) (fun r s'=>r=.ok (.ret (.bool true))/\OldK s₁.heap s'.heap/\s'.os=s₁.os/\AllBare s'.gens) s₁:=by
 have rv:=zfj hi
 have lenV:=hi.length
 have core:∀ H:Hp,Only H->SqL K H a (ns.map V.int)->HOk P w H s₁.heap->(∀ b,H b ≠ none->b=a)->(H a ≠ none->K.lookup a=none) ->
   codeAny (model P w) callerA (.call (.ref fa) ⟨[.ref a],[]⟩) (fun r s'=>r=.ok (.ret (.bool true))/\OldK s₁.heap s'.heap/\s'.os=s₁.os/\AllBare s'.gens) s₁:=by
  intro H hO hS hok hA hK
  have base_of:∀ {b:Addr} {o:Obj},s₁.heap.get? b=some o->H b=none->(hidT s₁.heap H).get? b=some o:=fun e n=>hidT_get e n
  have noA:∀ {b:Addr} {o:Obj} {es:Array DictEntry} {ep:Nat},s₁.heap.get? b=some o->o.data=.dict es ep->H b=none:=fun {b o es ep} e d=>by
   cases q:H b with
   | none=>rfl
   | some u=>
    have e':b=a:=hA b (by rw[q];simp)
    subst e'
    rw[ha] at e;cases e
    have d':Data.seq vs.toArray _=Data.dict es ep:=d
    cases d'
  have nsK:∀ {b:Addr} {m:Str->Option Value},s₁.heap.Ns b m->(hidT s₁.heap H).Ns b m:=fun {b m} ⟨o,es,ep,e,d,r⟩=>⟨o,es,ep,base_of e (noA e d),d,r⟩
  have hKb:K.In (hidT s₁.heap H):=fun b o e=>base_of (KX b o e) (by
   cases q:H b with
   | none=>rfl
   | some u=>
    have e':b=a:=hA b (by rw[q];simp)
    subst e'
    rw[hK (by rw[q];simp)] at e;cases e)
  have hM:Mod K mg (hidT s₁.heap H):=⟨hKb,nsK hns,⟨mb,nsK hb,hbb⟩,let⟨mc,h1,h2⟩:=hlim;⟨mc,nsK h1,h2⟩⟩
  have e0:Env0 P w K mg (hidT s₁.heap H) callerA [] s₁ H:=⟨rfl,hM,fun b o e=>of_hidT e,Nat.le_of_eq (hidT_size _ _),trivial,fun b hb=>absurd (show b ∈ ([]:List Addr) from hb) (by simp),hok,.of_eq hg⟩
  refine codeAny_mono ((F _ hKb (nsK hns)).run callerA [] s₁ H ⟨[.ref a],[]⟩ [.ref a] [.ref a] _ _ hr e0 (hbind s₁ (.ref a)) (.cons rfl .nil) (hsp H hO hS)) fun r s' h=>?_
  cases r with
  | error e=>exact(hCX H e s' h).elim
  | ok fl=>
   cases fl with
   | next=>exact False.elim h
   | brk=>exact False.elim h
   | cont=>exact False.elim h
   | ret u=>
    obtain⟨v,H',os,bare,un,hok',r',q⟩:=h
    have q':v=.bl true:=q
    subst q'
    obtain rfl:u=Value.bool true:=r'
    refine⟨rfl,OldK.of_keep fun b o e=>?_,os,bare⟩
    cases q:H b with
    | none=>exact un.keep b o e q (by intro z;exact absurd (show b ∈ ([]:List Addr) from z) (by simp)) (by simp)
    | some u=>
     rcases hO b with z | ⟨ob,xs,z⟩
     ·rw[q] at z;cases z
     ·have z2:=un.frzs b ob _ z
      obtain⟨e1,_⟩:=hok b _ z
      obtain⟨e2,_⟩:=hok' b _ z2
      rw[e] at e1;cases e1
      exact e2
 cases hk:K.lookup a with
 | some o=>
  have e:=KX a o hk
  rw[ha] at e
  cases e
  refine core (fun _=>none) (fun _=>.inl rfl) (.inr ⟨_,vs.toArray,_,hk,rfl,rfl,rfl,by rw[List.size_toArray,lenV];exact hl,by simpa using rv⟩) (fun b u z=>by have z':(none:Option HO)=some u:=z;cases z') (fun b z=>absurd rfl z) fun z=>absurd rfl z
 | none=>
  refine core (fun b=>if b=a then some (.frz { cls:=.type "list",data:=.seq vs.toArray} (.lst (ns.map V.int))) else none) (fun b=>?_) (.inl (.inr ⟨{ cls:=.type "list",data:=.seq vs.toArray},if_pos rfl⟩)) (fun b u z=>?_) (fun b z=>?_) fun _=>hk
  ·by_cases hb:b=a
   ·exact .inr ⟨_,_,if_pos hb⟩
   ·exact .inl (if_neg hb)
  ·by_cases hb:b=a
   ·have z':=(if_pos hb).symm.trans z
    cases z'
    subst hb
    exact⟨ha,by rw[List.length_map];exact hl,vs,_,rv,ha⟩
   ·have z':=(if_neg hb).symm.trans z
    cases z'
  ·by_cases hb:b=a
   ·exact hb
   ·exact absurd (if_neg hb) z
end L2
namespace L2
open PySem PySem.Spec PyProof.Rows
theorem walk_of{l:PySem.W.OpenLaw}{n k:Nat}{q:Program}{loose:List Str}{XP:(Str->Option Value)->Heap->Prop}{YP:World->Heap->Prop}{d:DefRec}{K:Params->PySem.W.Frag}{CX:World->CXT}{sp:World->Sp}{x:Str}
  (hn:l.most=some n) (hn2:n<=sizeLine) (hdf:d.params.defaults=[]) (hr:Room k callerA)
  (hY:∀ (w:World) (h:Heap),YP w h->(K w.params).In h)
  (F:∀ (w:World) (mg:Str->Option Value) (fa:Addr) (h:Heap),(K w.params).In h->h.Ns mainGlobals mg->mg d.name=some (.ref fa) ->
   ∃ fd:FuncData,(∀ (s:Shared) (u:Value),BindsTo s fd ⟨[u],[]⟩ [(x,u)]) /\
    ∀ base:Heap,(K w.params).In base->base.Ns mainGlobals mg->FnOk l.prog w (K w.params) mg base (CX w) k fa fd [x] (sp w))
  (hsp:∀ (w:World) (H:Hp) (a:Addr) (ns:List Int),ns.length<=n->Only H->SqL (K w.params) H a (ns.map V.int)->sp w [.ref a] H (fun v _=>v=.bl true) fun _ _ _=>False)
  (hCX:∀ (w:World) (H:Hp) (s:Shared) (e:Value) (s':Shared),CX w [] H s (fun _ _ _=>False) e s'->False) :
  PySem.W.WalkO q loose XP YP l.row.toRowW d [] (fun f vs=>PySem.call f vs):=by
 refine Att.attach_call hn hdf fun w s₀ s₁ mg mb fa o pm cd doc a vs ns G Y ho hd hcd hmg hobj hints hlen hg=>?_
 have KX:=hY w _ Y
 obtain⟨fd,hb,hF⟩:=F w mg fa _ KX G.T.g hmg
 exact law_call KX G.T.g G.T.b G.T.builtins G.T.nolimit hg hobj hints (Nat.le_trans hlen hn2) hr hF hb (fun H hO hS=>hsp w H a ns hlen hO hS) fun H e s'=>hCX w H s₁ e s'
end L2
namespace L2
open PySem PySem.Spec PyProof.Rows
noncomputable def zar(s:Stmt):Arguments:=match s with
 | .FunctionDef _ a _ _ _ _ _ _ _ _=>a
 | _=>{ posonlyargs:=[],args:=[],vararg:=none,kwonlyargs:=[],kw_defaults:=[],kwarg:=none,defaults:=[]}
noncomputable def zam(s:Stmt):List Stmt:=match s with
 | .FunctionDef _ _ b _ _ _ _ _ _ _=>b
 | _=>[]
noncomputable def zac(s:Stmt):Scope:=match s with
 | .FunctionDef _ _ _ _ _ _ sc _ _ _=>sc
 | _=>{ kind:=.function,names:=[],isGenerator:=false,isCoroutine:=false}
noncomputable abbrev CX0:CXT:=fun _ _ _ _ _ _=>False
noncomputable abbrev E0:XK:=fun _ _ _=>False
theorem zbf{X:Cx}:zbM CX0 X E0:=fun _ _ _ _ _ _ _ h=>h.elim
structure Fun(K:PySem.W.Frag)(x qual:Str)(st:Stmt)(f:Addr)(fd:FuncData):Prop where
 ex:∃ (oc:Value) (od:Option Addr) (kV doc pm:Value) (an:Option Addr) (cdv ct:Value) (osl:Array (Option Value)),
  fd=PySem.W.fnOf x qual (zar st) (zam st) (zac st) .none kV doc pm an cdv ct/\K.lookup f=some ⟨oc,od,.func fd,osl⟩/\PySem.W.codeIn K cdv qual=true
 kp:PySem.W.keepIn K (.ref f)=true
section
variable {P:Program}{w:World}{K:PySem.W.Frag}{mg:Str->Option Value}{base:Heap}
theorem Fun.binds{x qual:Str}{st:Stmt}{f:Addr}{fd:FuncData}{ps:List Str}(F:Fun K x qual st f fd)
  (h:∀ (kV doc pm:Value) (an:Option Addr) (cdv ct:Value) (us:List Value),us.length=ps.length->bindArgs (PySem.W.fnOf x qual (zar st) (zam st) (zac st) .none kV doc pm an cdv ct) ⟨us,[]⟩=pure (ps.zip us)):Binds K fd ps []:=by
 obtain⟨oc,od,kV,doc,pm,an,cdv,ct,osl,rfl,lk,hcd⟩:=F.ex
 exact .all (h kV doc pm an cdv ct)
theorem zbe{x qual:Str}{st:Stmt}{f:Addr}{oc:Value}{od an:Option Addr}{osl:Array (Option Value)}{kV doc pm cdv ct:Value}(l:K.lookup f=some ⟨oc,od,.func (PySem.W.fnOf x qual (zar st) (zam st) (zac st) .none kV doc pm an cdv ct),osl⟩)
  (c:PySem.W.codeIn K cdv qual=true) (k:PySem.W.keepIn K (.ref f)=true):Fun K x qual st f (PySem.W.fnOf x qual (zar st) (zam st) (zac st) .none kV doc pm an cdv ct):=⟨⟨oc,od,kV,doc,pm,an,cdv,ct,osl,rfl,l,c⟩,k⟩
end
theorem zb1{A:Around}{k:Nat}(hr:Room k A):A.units+1<cLine:=Nat.lt_of_le_of_lt (Nat.add_le_add_left (by decide:1<=64) _) hr.units
theorem small1000{n:Nat}(h:n<=1000):n<sizeLine:=Nat.lt_of_le_of_lt h (by decide)
section
variable {X:Cx}
end
theorem iteF{A B:Prop}(h:B):if false=true then A else B:=by
 rw[if_neg Bool.false_ne_true]
 exact h
theorem iteT{A B:Prop}(h:A):if true=true then A else B:=by
 rw[if_pos rfl]
 exact h
noncomputable def Same(H H':Hp):Prop:=∀ b o,H b=some o->H' b=some o
theorem Same.refl(H:Hp):Same H H:=fun _ _ h=>h
theorem Same.trans{H H1 H2:Hp}(a:Same H H1)(b:Same H1 H2):Same H H2:=fun c o h=>b c o (a c o h)
theorem Same.free{H H':Hp}(e:Same H H'){l:Addr}(h:H' l=Option.none):H l=Option.none:=by
 cases q:H l with
 | none=>rfl
 | some o=>
  rw[e l o q] at h
  cases h
theorem Same.seq{K:PySem.W.Frag}{H H':Hp}{a:Addr}{xs:List V}(e:Same H H')(h:SqL K H a xs):SqL K H' a xs:=by
 rcases h with (h | ⟨o,h⟩) | h
 ·exact .inl (.inl (e _ _ h))
 ·exact .inl (.inr ⟨o,e _ _ h⟩)
 ·exact .inr h
end L2

namespace L2
open PySem PySem.Spec PyProof.Rows
theorem zg1{α β:Type}{l:List α}{f:α->β->Sem (ForInStep β)}(g:β->α->β)(h:∀ x ∈ l,∀ c,f x c=pure (.yield (g c x)))(c:β):forIn l c f=pure (l.foldl g c):=by
 induction l generalizing c with
 | nil=>rfl
 | cons x l ih=>
  rw[List.forIn_cons,h x List.mem_cons_self,pure_bind]
  exact ih (fun y hy=>h y (List.mem_cons_of_mem _ hy)) _
noncomputable def clG(env:Env)(cs:List (Str × Addr))(x:Str × NameKind):List (Str × Addr):=
 if (x.2 == NameKind.free)=true then (match env.cells.lookup x.1 with | some c=>(x.1,c) :: cs | none=>cs) else cs
noncomputable def clOf(env:Env)(names:List (Str × NameKind)):List (Str × Addr):=names.foldl (clG env) []
theorem zg9{scope:Scope}{env:Env}(h:∀ y ∈ scope.names,y.2=.free->∃ c,env.cells.lookup y.1=some c):closureFor scope env=pure (clOf env scope.names):=by
 simp only[closureFor]
 rw[zg1 (clG env) (fun x hx c=>by
  obtain⟨n,k⟩:=x
  cases hk:(k == NameKind.free) with
  | false=>simp only[clG,hk,Bool.false_eq_true,if_false]
  | true=>
   have e:k=.free:=by cases k <;> first | rfl | (exact absurd hk (by decide))
   obtain⟨c0,hc⟩:=h _ hx e
   simp only[clG,hk,if_true,cellOf,hc,pure_bind])]
 rfl
theorem cl_sub{env:Env}:∀ (names:List (Str × NameKind)) (cs:List (Str × Addr)),(∀ y c,cs.lookup y=some c->env.cells.lookup y=some c) ->
  ∀ y c,(names.foldl (clG env) cs).lookup y=some c->env.cells.lookup y=some c
 | [],_,h,y,c,e=>h y c e
 | (n,k) :: r,cs,h,y,c,e=>by
  refine cl_sub r (clG env cs (n,k)) (fun z d hz=>?_) y c e
  unfold clG at hz
  split at hz
  ·cases q:env.cells.lookup n with
   | none=>simp only[q] at hz;exact h z d hz
   | some c0=>
    simp only[q,List.lookup_cons] at hz
    cases hb:z == n with
    | true=>
     simp only[hb] at hz
     cases hz
     have:z=n:=by simpa using hb
     rw[this];exact q
    | false=>simp only[hb] at hz;exact h z d hz
  ·exact h z d hz
theorem cl_has{env:Env}:∀ (names:List (Str × NameKind)) (cs:List (Str × Addr)) (y:Str),(∃ c,env.cells.lookup y=some c)->((∃ c,cs.lookup y=some c) \/ (y,NameKind.free) ∈ names) ->
  ∃ c,(names.foldl (clG env) cs).lookup y=some c
 | [],_,_,_,h=>by
  rcases h with h | h
  ·exact h
  ·cases h
 | (n,k) :: r,cs,y,hc,h=>by
  refine cl_has r (clG env cs (n,k)) y hc ?_
  have keep:(∃ c,cs.lookup y=some c)->∃ c,(clG env cs (n,k)).lookup y=some c:=fun⟨c,e⟩=>by
   unfold clG
   split
   ·cases q:env.cells.lookup n with
    | none=>exact⟨c,e⟩
    | some c0=>
     show ∃ c,List.lookup y ((n,c0) :: cs)=some c
     rw[List.lookup_cons]
     cases y == n with
     | true=>exact⟨c0,rfl⟩
     | false=>exact⟨c,e⟩
   ·exact⟨c,e⟩
  rcases h with h | h
  ·exact .inl (keep h)
  ·rcases List.mem_cons.mp h with h | h
   ·cases h
    left
    obtain⟨c0,q⟩:=hc
    unfold clG
    rw[if_pos (by rfl)]
    show ∃ c,List.lookup n (match env.cells.lookup n with | some c=>(n,c) :: cs | none=>cs)=some c
    rw[q]
    refine⟨c0,?_⟩
    show List.lookup n ((n,c0) :: cs)=some c0
    rw[List.lookup_cons]
    simp
   ·exact .inr h
theorem zdm{env:Env}:∀ {names:List (Str × NameKind)} {x:Str},names.lookup x=some .free ->
  (names.map fun(n,k)=>if (k == NameKind.free && env.scope.kind == .function && env.kindOf n == some .cell) then (n,NameKind.cell) else (n,k)).lookup x=some .cell \/
  (names.map fun(n,k)=>if (k == NameKind.free && env.scope.kind == .function && env.kindOf n == some .cell) then (n,NameKind.cell) else (n,k)).lookup x=some .free
 | [],_,h=>by simp at h
 | (n,k) :: r,x,h=>by
  have ih:=@zdm env r x
  show List.lookup x ((if (k == NameKind.free && env.scope.kind == .function && env.kindOf n == some .cell)=true then (n,NameKind.cell) else (n,k)) :: _)=_ \/ List.lookup x ((if (k == NameKind.free && env.scope.kind == .function && env.kindOf n == some .cell)=true then (n,NameKind.cell) else (n,k)) :: _)=_
  cases hx:x == n with
  | true=>
   simp only[List.lookup_cons,hx] at h
   cases h
   by_cases hc:(NameKind.free == NameKind.free && env.scope.kind == .function && env.kindOf n == some .cell)=true
   ·rw[if_pos hc];left;simp only[List.lookup_cons,hx]
   ·rw[if_neg hc];right;simp only[List.lookup_cons,hx]
  | false=>
   simp only[List.lookup_cons,hx] at h
   by_cases hc:(k == NameKind.free && env.scope.kind == .function && env.kindOf n == some .cell)=true
   ·rw[if_pos hc];simp only[List.lookup_cons,hx];exact ih h
   ·rw[if_neg hc];simp only[List.lookup_cons,hx];exact ih h
theorem zdo{env:Env}:∀ {names:List (Str × NameKind)} {x:Str},(∀ y ∈ names,y.2 ≠ .cell) ->
  ((names.map fun(n,k)=>if (k == NameKind.free && env.scope.kind == .function && env.kindOf n == some .cell) then (n,NameKind.cell) else (n,k)).lookup x=some .cell \/
  (names.map fun(n,k)=>if (k == NameKind.free && env.scope.kind == .function && env.kindOf n == some .cell) then (n,NameKind.cell) else (n,k)).lookup x=some .free)->names.lookup x=some .free
 | [],_,_,h=>by rcases h with h | h <;> simp at h
 | (n,k) :: r,x,hnc,h=>by
  have ih:=@zdo env r x fun y hy=>hnc y (List.mem_cons_of_mem _ hy)
  have h':List.lookup x ((if (k == NameKind.free && env.scope.kind == .function && env.kindOf n == some .cell)=true then (n,NameKind.cell) else (n,k)) :: (r.map fun(n,k)=>if (k == NameKind.free && env.scope.kind == .function && env.kindOf n == some .cell) then (n,NameKind.cell) else (n,k)))=some .cell \/ List.lookup x ((if (k == NameKind.free && env.scope.kind == .function && env.kindOf n == some .cell)=true then (n,NameKind.cell) else (n,k)) :: (r.map fun(n,k)=>if (k == NameKind.free && env.scope.kind == .function && env.kindOf n == some .cell) then (n,NameKind.cell) else (n,k)))=some .free:=h
  rw[List.lookup_cons]
  cases hx:x == n with
  | true=>
   have hk:k=.free:=by
    by_cases hc:(k == NameKind.free && env.scope.kind == .function && env.kindOf n == some .cell)=true
    ·cases k <;> first | rfl | (simp at hc)
    ·rw[if_neg hc] at h'
     simp only[List.lookup_cons,hx] at h'
     rcases h' with h' | h'
     ·exact absurd (Option.some.inj h') (hnc (n,k) List.mem_cons_self)
     ·exact Option.some.inj h'
   rw[hk]
  | false=>
   by_cases hc:(k == NameKind.free && env.scope.kind == .function && env.kindOf n == some .cell)=true
   ·rw[if_pos hc] at h'
    simp only[List.lookup_cons,hx] at h'
    exact ih h'
   ·rw[if_neg hc] at h'
    simp only[List.lookup_cons,hx] at h'
    exact ih h'
structure CompSc(X:Cx)(N:List Str)(fr:List Nat)(x:Str)(scope:Scope):Prop where
 kind:scope.kind=.function
 chk:(scope.names.all fun y=>match y.2 with
  | .cell=>false
  | .local=>scope.names.lookup y.1 == some .local
  | .free=>X.env.scope.names.lookup y.1 == some .cell || X.env.scope.names.lookup y.1 == some .free
  | _=>true)=true
 tg:scope.names.lookup x=some .local
 nd:N.Nodup
 nm:N.map some=some x :: fr.map (fun i=>X.N[i]?)
 nf:(N.tail.all fun y=>scope.names.lookup y == some .free)=true
theorem zbP{o:Option NameKind}{k:NameKind}(h:(o == some k)=true):o=some k:=by
 cases o with
 | none=>cases h
 | some j=>
  have:(j == k)=true:=h
  cases j <;> cases k <;> first | rfl | (exact absurd this (by decide))
section
variable {X:Cx}{N:List Str}{fr:List Nat}{x:Str}{scope:Scope}
theorem CompSc.ncell(S:CompSc X N fr x scope):∀ y ∈ scope.names,y.2 ≠ .cell:=fun y hy e=>by
 have h:=List.all_eq_true.mp S.chk y hy
 obtain⟨n,k⟩:=y
 cases (show k=.cell from e)
 exact absurd h (by simp)
theorem CompSc.loc(S:CompSc X N fr x scope):∀ y ∈ scope.names,y.2=.local->scope.names.lookup y.1=some .local:=fun y hy e=>by
 have h:=List.all_eq_true.mp S.chk y hy
 obtain⟨n,k⟩:=y
 cases (show k=.local from e)
 exact zbP h
theorem CompSc.free(S:CompSc X N fr x scope):∀ y ∈ scope.names,y.2=.free->X.env.kindOf y.1=some .cell \/ X.env.kindOf y.1=some .free:=fun y hy e=>by
 have h:=List.all_eq_true.mp S.chk y hy
 obtain⟨n,k⟩:=y
 cases (show k=.free from e)
 have h':(X.env.scope.names.lookup n == some .cell || X.env.scope.names.lookup n == some .free)=true:=h
 rcases Bool.or_eq_true_iff.mp h' with h' | h'
 ·exact .inl (zbP h')
 ·exact .inr (zbP h')
end
noncomputable def zdG(fr:List Nat)(σ:St):St:=fr.map fun i=>(σ[i]?).join
noncomputable def cxC(X:Cx)(N:List Str)(scope:Scope)(C:Addr)(s₀:Shared)(H₀:Hp)(fp:List Addr):Cx:=
 { X with N:=N,s₀:=s₀,H₀:=H₀,env:=compEnvC scope (clOf X.env scope.names) C X.env,outer:=X.stack,ex:=fp,fn:=fun _=>false,pn:=[],xe:=fun _ _=>False}
noncomputable def PTs(X:Cx)(ifs:List Expr)(t:TT):Prop:=
 ∀ (pins:List (Addr × Obj)) (s:Shared) (σ:St) (H:Hp) (Q:Bool->Hp->Prop),Inv X pins σ H s->t σ H Q ->
  wpAny (model X.prog X.w) X.A (forIn ifs true fun c r=>if r=true then do let ok <- isTrue c X.env (eval c X.env);pure (ForInStep.yield ok) else pure (ForInStep.yield r)) (TP X pins σ Q) X.xe s
noncomputable def tNoIf:TT:=fun _ H Q=>Q true H
theorem pts_nil{X:Cx}:PTs X [] tNoIf:=fun _ _ _ H _ I h=>by
 rw[List.forIn_nil]
 exact wpAny_pure ⟨H,I,h⟩
theorem pts_one{X:Cx}{c:Expr}{t:TT}(h:PT X c t):PTs X [c] t:=fun pins s σ H Q I hw=>by
 rw[List.forIn_cons,if_pos rfl]
 refine wpAny_bind (wpAny_bind (thn (h pins s σ H Q I hw) fun ok s1 q=>wpAny_pure ?_))
 show wpAny _ _ (forIn ([]:List Expr) ok _) _ _ _
 rw[List.forIn_nil]
 exact wpAny_pure q
noncomputable def lcW(fr:List Nat)(tt:TT)(te:TE)(J:It)(σ:St)(H1:Hp)(R:Addr->Hp->Prop):Prop:=
 ∀ a,H1 a=none->∃ W:Nat->Nat->List V->Hp->Prop,(∃ m,W 0 m [] (upd H1 a (.lst [])))/\∀ i m ys H,W i m ys H ->
  (J.stop i H/\R a H) \/ (J.go i H/\∀ x H',J.yld i H x H'->tt (some x :: zdG fr σ) H' fun b H2=>
   if b=true then te (some x :: zdG fr σ) H2 fun y H3=>H3 a=some (.lst ys)/\ys.length<sizeLine/\∃ m',m'<m/\W (i+1) m' (ys ++ [y]) (upd H3 a (.lst (ys ++ [y])))
   else ∃ m',m'<m/\W (i+1) m' ys H2)
noncomputable def tLC(fr:List Nat)(wi:TI)(tt:TT)(te:TE):TE:=fun σ H Q=>wi σ H fun J H1=>lcW fr tt te J σ H1 fun a H2=>Q (.ref a) H2
section
variable {X:Cx}{N:List Str}{fr:List Nat}{x:Str}{scope:Scope}{pins:List (Addr × Obj)}{σ:St}{H:Hp}{s:Shared}
theorem comp_inv(S:CompSc X N fr x scope){fp:List Addr}{h₁:Heap}{tk:Nat}(I:Inv X pins σ H s)(hf:∀ b ∈ fp,zgP X pins H b)(hfo:∀ b ∈ fp,b<s.heap.objs.size)
  (hns:h₁.Ns s.heap.objs.size fun y=>([]:List (Str × Value)).reverse.lookup y) (old:∀ b o,s.heap.get? b=some o->h₁.get? b=some o) :
  Inv (cxC X N scope s.heap.objs.size s H fp) [] (none :: zdG fr σ) H { s with heap:=h₁,toks:=tk}:=by
 have sub:∀ y c,(clOf X.env scope.names).lookup y=some c->X.env.cells.lookup y=some c:=cl_sub scope.names [] (fun _ _ z=>by cases z)
 have has:∀ y,(y,NameKind.free) ∈ scope.names->∃ c,(clOf X.env scope.names).lookup y=some c:=fun y hy=>cl_has scope.names [] y (I.ok.has y (S.free _ hy rfl)) (.inr hy)
 have celK:∀ c v,s.heap.IsCell c v->h₁.IsCell c v:=fun c v ⟨o,ho,hd⟩=>⟨o,old c o ho,hd⟩
 have hlen:N.length=fr.length+1:=by
  have:=congrArg List.length S.nm
  simpa using this
 refine⟨⟨I.ok.mod,S.kind,I.ok.glob,I.ok.blt,Nat.le_refl _,fun y z c h1 h2=>I.ok.inj y z c (sub y c h1) (sub z c h2),fun y hy=>?_,fun y c hy _=>(by cases hy),I.ok.hd,I.ok.frames,.inl rfl,fun b hb=>⟨Nat.ne_of_lt (hfo b hb),fun y c e=>(hf b hb).2.2.2.2.1 y c (sub y c e)⟩,
  I.bs,Nat.le_trans I.ok.bsz I.sz,fun b o e hb=>?_,fun b hb hfs=>?_,I.stack,I.stkFree⟩,rfl,I.bare,Un.kept old,⟨_,hns,fun i y v e1 e2 e3=>?_⟩,fun y c e=>?_,I.hok.fresh (Nat.le_refl _),fun y c e=>I.freeC y c (sub y c e),fun p hp=>absurd (show p ∈ ([]:List (Addr × Obj)) from hp) (by simp),I.hok.kept old,?_⟩
 ·exact has y (PySem.mem_of_lookup (zdo S.ncell hy))
 ·rcases (hf b hb).2.2.2.1 with z | z
  ·exact I.ok.noex b o e z
  ·exact absurd (Nat.lt_of_lt_of_le (Heap.lt_size e) (Nat.le_trans I.ok.bsz z)) (Nat.lt_irrefl _)
 ·rcases List.mem_cons.mp (I.stkSub b hfs) with z | z
  ·exact(hf b hb).2.1 z
  ·exact(hf b hb).2.2.1 z
 ·cases i with
  | zero=>simp at e2
  | succ j=>
   have e1':N[j+1]? = some y:=e1
   have q1:(N.map some)[j+1]? = some (some y):=by rw[List.getElem?_map,e1'];rfl
   rw[S.nm,List.getElem?_cons_succ,List.getElem?_map] at q1
   have e2':(zdG fr σ)[j]? = some (some v):=by simpa using e2
   unfold zdG at e2'
   rw[List.getElem?_map] at e2'
   cases q:fr[j]? with
   | none=>rw[q] at q1;cases q1
   | some i'=>
    rw[q] at q1 e2'
    have n1:X.N[i']? = some y:=Option.some.inj q1
    have n2:(σ[i']?).join=some v:=Option.some.inj e2'
    have n3:σ[i']? = some (some v):=by
     cases q':σ[i']? with
     | none=>rw[q'] at n2;cases n2
     | some o=>rw[q'] at n2;rw[show o=some v from n2]
    have hy:y ∈ N.tail:=by
     have:N.tail[j]? = some y:=by rw[List.getElem?_tail];exact e1'
     exact List.mem_of_getElem? this
    have hfree:scope.names.lookup y=some .free:=zbP (List.all_eq_true.mp S.nf y hy)
    have hk:=S.free _ (PySem.mem_of_lookup hfree) rfl
    obtain⟨m,hn,hl⟩:=I.loc
    obtain⟨u,r,l⟩:=hl i' y v n1 n3 (hk.elim (fun z=>.inr (.inl z)) fun z=>.inr (.inr z))
    refine⟨u,r,.inr ⟨zdm hfree,?_⟩⟩
    rcases l with ⟨k,_⟩ | ⟨k,c,ec,hc⟩
    ·rcases hk with z | z <;> (rw[show X.env.kindOf y=some .local from k] at z;cases z)
    ·obtain⟨c',ec'⟩:=has y (PySem.mem_of_lookup hfree)
     have:c'=c:=Option.some.inj ((sub y c' ec').symm.trans ec)
     rw[this] at ec'
     exact⟨c,ec',celK c _ hc⟩
 ·obtain⟨v,z⟩:=I.cell y c (sub y c e)
  exact⟨v,celK c v z⟩
 ·show(none :: zdG fr σ).length=N.length
  rw[hlen]
  simp[zdG]
theorem zhe{fp:List Addr}{σ':St}{pins':List (Addr × Obj)}{H':Hp}{s':Shared}{C:Addr}(I:Inv X pins σ H s)(hf:∀ b ∈ fp,zgP X pins H b)(J:Inv (cxC X N scope C s H fp) pins' σ' H' s'):Inv X pins σ H' s':=
 Inv.call' (ch:=fp) I J.os J.base J.hok J.bare fun b hb=>⟨(hf b hb).2.2.2.1,(hf b hb).2.1,(hf b hb).2.2.2.2.1,(hf b hb).2.2.2.2.2⟩
end
section
variable {X:Cx}{N:List Str}{fr:List Nat}{x:Str}{scope:Scope}{iter elt:Expr}{ifs:List Expr}{px pos:Pos}{wi:TI}{te:TE}{tt:TT}
theorem comp_core(S:CompSc X N fr x scope)(hc:X.calm=true)
  (ht:∀ (C:Addr) (s₀:Shared) (H₀:Hp) (fp:List Addr),PTs (cxC X N scope C s₀ H₀ fp) ifs tt) (he:∀ (C:Addr) (s₀:Shared) (H₀:Hp) (fp:List Addr),PE (cxC X N scope C s₀ H₀ fp) elt te)
  {pins:List (Addr × Obj)} {σ:St} {H3:Hp} {s3:Shared} {R:Addr->Hp->Prop} {RR:Value->Addr->Result->Shared->Prop} {it D:Addr} {fp:List Addr} {tn:Nat->Heap->Prop} {J:It} {h₁:Heap} {o₁:Obj} {tk:Nat} {W:Nat->Nat->List V->Hp->Prop}
  (I3:Inv X pins σ H3 s3) (T:Turn X.prog X.w X.K (.Name x px) J fp it tn) (st3:tn 0 s3.heap) (hf3:∀ b ∈ fp,zgP X pins H3 b) (hns₁:h₁.Ns s3.heap.objs.size fun y=>([]:List (Str × Value)).reverse.lookup y) (hsb₁:Heap.SameBut s3.heap.objs.size (s3.heap.push o₁) h₁)
  (w0:∃ m,W 0 m [] H3) (turn:∀ i m ys H,W i m ys H ->
   (J.stop i H/\R D H) \/ (J.go i H/\∀ x H',J.yld i H x H'->tt (some x :: zdG fr σ) H' fun b H2=>
    if b=true then te (some x :: zdG fr σ) H2 fun y H3=>H3 D=some (.lst ys)/\ys.length<sizeLine/\∃ m',m'<m/\W (i+1) m' (ys ++ [y]) (upd H3 D (.lst (ys ++ [y])))
    else ∃ m',m'<m/\W (i+1) m' ys H2))
  (hRR:∀ (D C:Addr) (H':Hp) (s':Shared) (m:Str->Option Value),s'.heap.Ns C m->C ≠ X.env.locals->H' C=none->X.s₀.heap.objs.size<=C->(∀ y c,X.env.cells.lookup y=some c->c ≠ C)->(∀ p ∈ X.pn ++ pins,p.1 ≠ C)->Inv X pins σ H' s'->R D H'->RR (.ref D) C (.ok .next) s') :
  codeAny (model X.prog X.w) X.A (.compStart (.ListComp elt [⟨.Name x px,iter,ifs,0⟩] scope pos) 0 (.ref it) (.ref D) (compEnvC scope (clOf X.env scope.names) s3.heap.objs.size X.env)) (RR (.ref D) s3.heap.objs.size) { s3 with heap:=h₁,toks:=tk}:=by
 obtain⟨m0,w0⟩:=w0
 have hfo3:∀ b ∈ fp,b<s3.heap.objs.size:=fun b hb=>by
  obtain⟨o,e,_⟩:=T.obj 0 _ st3 b hb
  exact Heap.lt_size e
 have old:∀ b o,s3.heap.get? b=some o->h₁.get? b=some o:=fun b o e=>hsb₁.extBut b o (Nat.ne_of_lt (Heap.lt_size e)) (Heap.get?_push_of_some _ e)
 have st1:tn 0 h₁:=T.keep 0 s3.heap h₁ st3 fun b hb o e=>old b o e
 have stat:∀ {pins':List (Addr × Obj)} {H':Hp},(∀ b ∈ fp,H' b=none)->(∀ b ∈ fp,∀ p ∈ pins',p.1 ≠ b)->∀ b ∈ fp,zgP (cxC X N scope s3.heap.objs.size s3 H3 fp) pins' H' b:=fun {pins' H'} hn hp b hb=>by
  refine⟨hn b hb,Nat.ne_of_lt (hfo3 b hb),fun z=>?_,.inl hb,fun y c e=>(hf3 b hb).2.2.2.2.1 y c (cl_sub scope.names [] (fun _ _ z=>by cases z) y c e),fun p hp'=>hp b hb p (by simpa [cxC] using hp')⟩
  rcases List.mem_cons.mp (I3.stkSub b z) with z | z
  ·exact(hf3 b hb).2.1 z
  ·exact(hf3 b hb).2.2.1 z
 have loop:∀ s4:Shared,Inv (cxC X N scope s3.heap.objs.size s3 H3 fp) [] (none :: zdG fr σ) H3 s4->tn 0 s4.heap ->
   codeAny (model X.prog X.w) X.A (.compLoop (.ListComp elt [⟨.Name x px,iter,ifs,0⟩] scope pos) 0 (.ref it) (.ref D) (compEnvC scope (clOf X.env scope.names) s3.heap.objs.size X.env)) (RR (.ref D) s3.heap.objs.size) s4:=by
  intro s4 I4 st4
  refine codeAny_compLoop_tests (fun n s'=>∃ i ys H' v0,Inv (cxC X N scope s3.heap.objs.size s3 H3 fp) [] (v0 :: zdG fr σ) H' s'/\tn i s'.heap/\(∀ b ∈ fp,H' b=none)/\W i n ys H') ?_ m0
   ⟨0,[],_,none,I4,st4,fun b hb=>(hf3 b hb).1,w0⟩
  rintro n s5 ⟨i,ys,H5,v0,I5,st5,fr5,w5⟩
  rcases turn i n ys H5 w5 with ⟨stop,qn⟩ | ⟨go,step⟩
  ·refine wpAny_mono (T.done (cxC X N scope s3.heap.objs.size s3 H3 fp) rfl rfl rfl hc i [] s5 _ H5 (fun _ _=>False) I5 (stat fr5 (by simp)) st5 stop) (fun r s6 hr6=>?_) fun _ _ z=>z.elim
   obtain⟨hr,I6⟩:=hr6
   subst hr
   obtain⟨m,hn,_⟩:=id I6.loc
   refine hRR _ _ H5 s6 m hn ?_ I6.free ?_ ?_ ?_ (zhe I3 hf3 I6) qn
   ·exact Nat.ne_of_gt I3.lt
   ·exact I3.sz
   ·intro y c e z
    obtain⟨v,q⟩:=I3.cell y c e
    exact absurd q.lt (by rw[z];exact Nat.lt_irrefl _)
   ·intro p hp z
    exact absurd (Heap.lt_size (I3.pin p hp).1) (by rw[z];exact Nat.lt_irrefl _)
  ·refine wpAny_mono (T.item (cxC X N scope s3.heap.objs.size s3 H3 fp) rfl rfl rfl hc i [] s5 _ H5 (fun _ _=>False) I5 (stat fr5 (by simp)) st5 go) (fun r s6 hr6=>?_) fun _ _ z=>z.elim
   obtain⟨u,hr,h6⟩:=hr6
   subst hr
   show wpAny _ _ (assign (.Name x px) _ u) _ _ s6
   have el:∀ env:Env,(assign (.Name x px) env u)=(letOwnedTupleGo (.Name x px) (.ref it) u >>= fun _=>assign (.Name x px) env u):=fun env=>by
    rw[show letOwnedTupleGo (.Name x px) (.ref it) u=pure () from rfl,pure_bind]
   rw[el]
   refine wpAny_bind (wpAny_mono h6 (fun _ s7 h7=>?_) fun _ _ z=>z.elim)
   obtain⟨y,H7,I7,r7,y7,st7,fr7⟩:=h7
   have I7':=I7.pinned (stat fr7 (by simp)) (T.obj _ _ st7)
   have lx:(relabel scope X.env).names.lookup x=some .local:=lookup_relabel_local S.tg
   have hN0:N[0]? = some x:=by
    have:=congrArg (fun l=>l[0]?) S.nm
    simp only[List.getElem?_map,List.getElem?_cons_zero] at this
    cases q:N[0]? with
    | none=>rw[q] at this;cases this
    | some z=>rw[q] at this;exact Option.some.inj this
   refine wpAny_assign_Name (zeA (i:=0) (v:=y) I7' S.nd hN0 (.inl lx) r7 (fun s8 I8=>?_) (.inr lx))
   have I8':Inv (cxC X N scope s3.heap.objs.size s3 H3 fp) ([] ++ zef fp s7.heap) (some y :: zdG fr σ) H7 s8:=I8
   refine wpAny_mono (ht _ _ _ _ _ s8 _ H7 _ I8' (step y H7 y7)) (fun ok s9 h9=>?_) fun _ _ z=>z.elim
   obtain⟨H9,I9,q9⟩:=h9
   have again:∀ {s':Shared} {H':Hp},Inv (cxC X N scope s3.heap.objs.size s3 H3 fp) ([] ++ zef fp s7.heap) (some y :: zdG fr σ) H' s' ->
     Inv (cxC X N scope s3.heap.objs.size s3 H3 fp) [] (some y :: zdG fr σ) H' s'/\tn (i+1) s'.heap/\∀ b ∈ fp,H' b=none:=fun {s' H'} I'=>by
    refine⟨I'.unpinned,T.keep _ _ _ st7 fun b hb o e=>(I'.pin (b,o) (List.mem_append_right _ (List.mem_append_right _ (zcH hb e)))).1,fun b hb=>?_⟩
    obtain⟨o,e,d⟩:=T.obj _ _ st7 b hb
    exact(I'.pin (b,o) (List.mem_append_right _ (List.mem_append_right _ (zcH hb e)))).2.1
   cases ok with
   | false=>
    rw[if_neg Bool.false_ne_true] at q9 ⊢
    obtain⟨m',hm,w9⟩:=q9
    obtain⟨a1,a2,a3⟩:=again I9
    exact⟨m',hm,i+1,ys,H9,some y,a1,a2,a3,w9⟩
   | true=>
    rw[if_pos rfl] at q9 ⊢
    refine wpAny_mono (he _ _ _ _ _ s9 _ H9 _ I9 q9) (fun zv s10 h10=>?_) fun _ _ z=>z.elim
    obtain⟨z,H10,I10,rz,hz,hlt,m',hm,w10⟩:=h10
    refine wpAny_mono (zfh (X:=cxC X N scope s3.heap.objs.size s3 H3 fp) _ s10 _ H10 (.ref D) [z] (.ref D) [zv] (fun _ H'=>H'=upd H10 D (.lst (ys ++ [z]))) I10 rfl (.cons rz .nil)
     ⟨_,ys,z,rfl,rfl,hz,hlt,rfl⟩) (fun _ s11 h11=>?_) fun _ _ z=>z.elim
    obtain⟨_,H11,I11,_,e11⟩:=h11
    subst e11
    obtain⟨a1,a2,a3⟩:=again I11
    exact⟨m',hm,i+1,ys ++ [z],_,some y,a1,a2,a3,w10⟩
 have I4:=comp_inv S (tk:=tk) I3 hf3 hfo3 hns₁ old
 exact codeAny_compStart_list (loop _ I4 st1) (T.self _ 0 _ _ _ st1 (loop _ I4 st1))
theorem zgt(S:CompSc X N fr x scope)(hc:X.calm=true)
  (ht:∀ (C:Addr) (s₀:Shared) (H₀:Hp) (fp:List Addr),PTs (cxC X N scope C s₀ H₀ fp) ifs tt) (he:∀ (C:Addr) (s₀:Shared) (H₀:Hp) (fp:List Addr),PE (cxC X N scope C s₀ H₀ fp) elt te)
  {pins:List (Addr × Obj)} {σ:St} {H:Hp} {s:Shared} {R:Addr->Hp->Prop} {RR:Value->Addr->Result->Shared->Prop} {it:Addr} {fp:List Addr} {tn:Nat->Heap->Prop} {J:It} {E:Value->Shared->Prop}
  (I:Inv X pins σ H s) (T:Turn X.prog X.w X.K (.Name x px) J fp it tn) (st:tn 0 s.heap) (hf:∀ b ∈ fp,zgP X pins H b) (h:lcW fr tt te J σ H R)
  (hRR:∀ (D C:Addr) (H':Hp) (s':Shared) (m:Str->Option Value),s'.heap.Ns C m->C ≠ X.env.locals->H' C=none->X.s₀.heap.objs.size<=C->(∀ y c,X.env.cells.lookup y=some c->c ≠ C)->(∀ p ∈ X.pn ++ pins,p.1 ≠ C)->Inv X pins σ H' s'->R D H'->RR (.ref D) C (.ok .next) s') :
  wpAny (model X.prog X.w) X.A (newList []) (fun acc s₃=>wpAny (model X.prog X.w) X.A (newFunctionEnv scope X.env.globals (clOf X.env scope.names) [] X.env.qual none .none (some X.env)) (fun cenv s₄=>
   codeAny (model X.prog X.w) X.A (.compStart (.ListComp elt [⟨.Name x px,iter,ifs,0⟩] scope pos) 0 (.ref it) acc { cenv with scope:=relabel scope X.env}) (RR acc cenv.locals) s₄) E s₃) E s:=by
 refine wpAny_newObj_type (wpAny_newFunctionEnv S.ncell (by intro y hy;simp at hy) (fun h₁ hns₁ hsb₁=>?_) S.kind)
 have hD:H s.heap.objs.size=none:=I.hok.fresh (Nat.le_refl _)
 obtain⟨W,w0,turn⟩:=h _ hD
 have I3:Inv X pins σ (upd H s.heap.objs.size (.lst [])) { s with heap:=s.heap.push { cls:=.type "list",dict:=none,data:=.seq ([]:List Value).toArray}}:=
  I.laid (t':=s.toks) (fun b o e=>Heap.get?_push_of_some _ e) (Nat.le_refl _) ⟨Nat.zero_le _,[],_,.nil,Heap.get?_push_size _ rfl⟩
 have hfo:∀ b ∈ fp,b<s.heap.objs.size:=fun b hb=>by
  obtain⟨o,e,_⟩:=T.obj 0 _ st b hb
  exact Heap.lt_size e
 have hf3:∀ b ∈ fp,zgP X pins (upd H s.heap.objs.size (.lst [])) b:=fun b hb=>by
  obtain⟨f0,f1⟩:=hf b hb
  exact⟨by rw[zaj (Nat.ne_of_lt (hfo b hb))];exact f0,f1⟩
 exact comp_core S hc ht he I3 T (T.keep 0 s.heap _ st fun b hb o e=>Heap.get?_push_of_some _ e) hf3 hns₁ hsb₁ w0 turn hRR
theorem CompSc.clos(S:CompSc X N fr x scope){pins:List (Addr × Obj)}{σ:St}{H:Hp}{s:Shared}(I:Inv X pins σ H s):closureFor scope X.env=pure (clOf X.env scope.names):=
 zg9 fun y hy e=>I.ok.has y.1 (S.free y hy e)
theorem pe_lc(S:CompSc X N fr x scope)(hc:X.calm=true)(hi:PI X (.Name x px) iter wi)
  (ht:∀ (C:Addr) (s₀:Shared) (H₀:Hp) (fp:List Addr),PTs (cxC X N scope C s₀ H₀ fp) ifs tt) (he:∀ (C:Addr) (s₀:Shared) (H₀:Hp) (fp:List Addr),PE (cxC X N scope C s₀ H₀ fp) elt te)
  (hs:∀ z,foldedSetIterable iter X.env z=pure z:=by intro _;rfl):PE X (.ListComp elt [⟨.Name x px,iter,ifs,0⟩] scope pos) (tLC fr wi tt te):=by
 intro pins s σ H Q I h
 rw[eval_ListComp]
 refine wpAny_comprehension_free (use:=none) (cl:=clOf X.env scope.names) rfl hs (S.clos I) S.kind S.loc (thn (hi pins s σ H _ I h) fun xv s1 h1=>thn h1 fun itv s2 h2=>?_)
 obtain⟨it,fp,tn,J,H2,e,I2,T,st2,f2,q⟩:=h2
 subst e
 refine zgt (RR:=fun acc C=>compPost (model X.prog X.w) X.A X.xe none (EP X pins σ Q) acc C) S hc ht he I2 T st2 f2 q ?_
 intro D C H' s' m hn c1 c2 c3 c4 c5 I' r
 refine⟨m,hn,fun h' hsb=>⟨.ref D,H',?_,rfl,r⟩⟩
 exact I'.turned (t':=s'.toks) (fun b o hb e=>(hsb.2 b hb).trans e) c2 c1 (.inr c3) c4 c5
theorem ps_setlc{i:Nat}{y:Str}{py spos:Pos}(hN:X.N.Nodup)(hi':X.N[i]? = some y)(hy:Loc X.env.scope y)(S:CompSc X N fr x scope)(hc:X.calm=true)(hi:PI X (.Name x px) iter wi)
  (ht:∀ (C:Addr) (s₀:Shared) (H₀:Hp) (fp:List Addr),PTs (cxC X N scope C s₀ H₀ fp) ifs tt) (he:∀ (C:Addr) (s₀:Shared) (H₀:Hp) (fp:List Addr),PE (cxC X N scope C s₀ H₀ fp) elt te)
  (hsw:swapsWith (.ListComp elt [⟨.Name x px,iter,ifs,0⟩] scope pos) (some (.Name y py)) spos.line X.env=pure true:=by rfl)
  (hs:∀ z,foldedSetIterable iter X.env z=pure z:=by intro _;rfl)
  (hf:X.fn y=true \/ X.env.scope.names.lookup y=some .local:=by first | exact .inl rfl | exact .inr rfl | assumption) :
  PS X (.Assign [.Name y py] (.ListComp elt [⟨.Name x px,iter,ifs,0⟩] scope pos) spos) (zeU (tLC fr wi tt te) (zcI i)):=by
 intro pins s σ H D I h
 rw[exec_Assign_Name_used _ _ _ _ hsw]
 refine wpAny_bind (wpAny_standAt (wpAny_bind ?_))
 show wpAny _ X.A (do let _ <- comprehension (.ListComp elt [⟨.Name x px,iter,ifs,0⟩] scope pos) scope X.env _ (newList []) false (eval iter X.env) (some (assign (.Name y py) X.env))) _ _ s
 refine wpAny_bind (wpAny_mono (wpAny_comprehension_free (use:=some (assign (.Name y py) X.env)) (cl:=clOf X.env scope.names) (Q:=fun _ s'=>SP X pins D .next s') rfl hs (S.clos I) S.kind S.loc
  (thn (hi pins s σ H _ I h) fun xv s1 h1=>thn h1 fun itv s2 h2=>?_)) (fun _ s' hq=>wpAny_pure (wpAny_pure hq)) fun _ _ e=>e)
 obtain⟨it,fp,tn,J,H2,e,I2,T,st2,f2,q⟩:=h2
 subst e
 refine zgt (RR:=fun acc C=>compPost (model X.prog X.w) X.A X.xe (some (assign (.Name y py) X.env)) (fun _ s'=>SP X pins D .next s') acc C) S hc ht he I2 T st2 f2 q ?_
 intro D' C H' s' m hn c1 c2 c3 c4 c5 I' r
 show wpAny _ _ (assign (.Name y py) X.env (.ref D')) _ _ s'
 refine wpAny_assign_Name (zfd (v:=.ref D') I' hN hi' hy rfl (fun s'' I'' hc'=>?_) hf)
 obtain⟨c,hsb,hcc⟩:=hc'
 have hne:C ≠ c:=by
  rcases hcc with z | z
  ·rw[z];exact c1
  ·exact fun e=>c4 y c z e.symm
 refine⟨m,hn.sameBut hsb hne,fun h' hsb'=>⟨_,H',?_,r⟩⟩
 exact I''.turned (t':=s''.toks) (fun b o hb e=>(hsb'.2 b hb).trans e) c2 c1 (.inr c3) c4 c5
end
end L2

namespace L2
open PySem PySem.Spec PyProof.Rows
theorem Same.alloc{H:Hp}{p:Addr}{o:HO}(h:H p=none):Same H (upd H p o):=fun b u e=>by rw[zaj (zaE e h)];exact e
section
variable {X:Cx}
noncomputable def rIsi(K:PySem.W.Frag):List V->Hp->VK->Prop:=fun xs H Q=>∃ x n t b,xs=[x,.ty n]/\TyOf K H x t/\PySem.W.kitOne K t (.type n)=some b/\Q (.bl b) H
theorem call_isi:zcR X (.builtin "isinstance") (rIsi X.K):=by
 intro pins s σ H xs us Q I r h
 obtain⟨x,n,t,b,rfl,ty,e,q⟩:=h
 obtain⟨u,w',rfl,rx,ry⟩:=vals2 r
 cases (show w'=Value.type n from ry)
 exact isinst_ok I rx ty e fun tk=>⟨.bl b,H,I.tok tk,rfl,q⟩
end
theorem pe_gl{X:Cx}{x:Str}{v:V}{pos:Pos}(hg:Gl X x)(h:∃ u,X.mg x=some u/\RelV v u)(hd:(x == ("__debug__" : Str))=false:=by decide):PE X (.Name x pos) (tC v):=by
 obtain⟨u,hm,r⟩:=h
 exact pe_glob hg hm r hd
end L2
namespace HT
open PySem PyProof.Rows
section
variable {prog:Program}{w:World}{A:Around}{E:Value->Shared->Prop}{s:Shared}
end
end HT
namespace L2
open PySem PySem.Spec PyProof.Rows
section
variable {X:Cx}
end
end L2
namespace L2
open PySem PySem.Spec PyProof.Rows
section
variable {X:Cx}{pins:List (Addr × Obj)}{σ:St}{H:Hp}{s:Shared}{pos:Pos}
theorem Inv.big(I:Inv X pins σ H s):sysModules<s.heap.objs.size:=by
 have h:mainGlobals<s.heap.objs.size:=(I.mod.glob.keeps I.bk).lt
 exact Nat.lt_trans (by decide) h
theorem dk_empty{P:Program}{w:World}{H:Hp}(h:Heap)(hb:sysModules<h.objs.size):ObjOk P w H (h.push { cls:=.type "dict",data:=.dict #[]}) h.objs.size (.dK []):=
 ⟨Nat.zero_le _,beq_eq_false_iff_ne.mpr (Ne.symm (Nat.ne_of_lt hb)),[],.nil,Heap.DictOf.new h⟩
noncomputable def tDNewK:TE:=fun _ H Q=>∀ p,H p=none->Q (.ref p) (upd H p (.dK []))
theorem pe_dnewK:PE X (.Dict [] [] pos) tDNewK:=fun pins s σ H Q I h=>
 wpAny_Dict_empty ⟨.ref s.heap.objs.size,_,I.laid (a:=s.heap.objs.size) (o:=.dK []) (t':=s.toks) (fun _ _ q=>Heap.get?_push_of_some _ q) (Nat.le_refl _) (dk_empty s.heap I.big),rfl,h _ (I.hok.fresh (Nat.le_refl _))⟩
end
end L2

namespace L2
open PySem PySem.Spec PyProof.Rows
noncomputable def zak:Expr->Bool
 | .Starred _ _=>false
 | _=>true
theorem zal{e:Expr}{es:List Expr}{env:Env}(h:zak e=true):starEach (e :: es) env=(false,eval e env) :: starEach es env:=by
 cases e <;> first | rfl | (exact absurd h (by decide)) | (cases h)
theorem zb6{env:Env}{pos:Pos}:∀ {es:List Expr},es.all zak=true->(backTo pos (starEach es env)).any (·.1)=false
 | [],_=>rfl
 | e :: es,h=>by
  rw[List.all_cons,Bool.and_eq_true] at h
  rw[zal h.1]
  show(false || (backTo pos (starEach es env)).any (·.1))=false
  rw[zb6 h.2]
  rfl
theorem zgJ{env:Env}{pos:Pos}:∀ {es:List Expr},es.all zak=true->(backTo pos (starEach es env)).all (fun x=>!x.1)=true
 | [],_=>rfl
 | e :: es,h=>by
  rw[List.all_cons,Bool.and_eq_true] at h
  rw[zal h.1]
  show(true && (backTo pos (starEach es env)).all (fun x=>!x.1))=true
  rw[zgJ h.2]
  rfl
section
variable {X:Cx}{e o:Expr}{es:List Expr}{te to:TE}{t:TA}{x:Str}{p pos:Pos}
structure Def(K:PySem.W.Frag)(mg:Str->Option Value)(x:Str)(st:Stmt)(ps:List Str)(f:Addr)(fd:FuncData):Prop where
 fn:Fun K x x st f fd
 mg:mg x=some (.ref f)
 b:Binds K fd ps []
theorem pbm{T id:String}{name:Str}{apos cpos:Pos}{r:V->List V->Hp->VK->Prop}(pa:PlainAttrs T)(slot:Slot T name id)(hty:typeOf (.builtin id)=pure (.type "method_descriptor"))(hm:MtR X id r)(ho:PE X o to)(ha:PA X (e :: es) t)
  (hbase:attributeBase o name X.env (eval o X.env)=eval o X.env:=by rfl) (hl:decide ((e :: es).length+0+0<30)=true:=by rfl) (hline:(apos.endLine == cpos.line)=true:=by rfl)
  (h1:zak e=true:=by rfl) (h2:es.all zak=true:=by rfl):PE X (.Call (.Attribute o name apos) (e :: es) [] cpos) (tBM X.K T r to t):=by
 refine pe_bm pa slot hty hm ho ha hbase ?_ hline (zal h1) (zb6 h2)
 rw[zgJ (es:=e :: es) (by rw[List.all_cons,h1,h2];rfl)]
 exact hl
end
end L2

namespace L2
open PySem PySem.Spec PyProof.Rows
structure WE(X:Cx)(e:Expr)(t:TE):Prop where
 h:PE X e t
structure WT(X:Cx)(e:Expr)(t:TT):Prop where
 h:PT X e t
structure WW(X:Cx)(e:Expr)(t:TT):Prop where
 h:PW X e t
structure WA(X:Cx)(es:List Expr)(t:TA):Prop where
 h:PA X es t
structure WS(X:Cx)(s:Stmt)(t:TS):Prop where
 h:PS X s t
structure WSs(X:Cx)(s:List Stmt)(t:TS):Prop where
 h:PSs X s t
structure WI(X:Cx)(tg e:Expr)(t:TI):Prop where
 h:PI X tg e t
structure WG(X:Cx)(e:Expr)(t:TG):Prop where
 h:PG X e t
structure WGs(X:Cx)(es:List Expr)(t:TGs):Prop where
 h:PGs X es t
structure WO(X:Cx)(e:Option Expr)(t:TO):Prop where
 h:PO X e t
structure WTs(X:Cx)(es:List Expr)(t:TT):Prop where
 h:PTs X es t
section
variable {X:Cx}{a b c e o:Expr}{es rest:List Expr}{pos pos' p p2:Pos}{ta tb tc te to:TE}{tA tB':TT}{t:TA}{x:Str}{r r':R2}
theorem wv(i:Nat)(hN:X.N[i]? = some x:=by rfl)(hv:Vis X.env.scope x:=by first | exact Or.inl rfl | exact Or.inr (Or.inl rfl) | exact Or.inr (Or.inr rfl))(hd:(x == ("__debug__" : Str))=false:=by decide)
  (hcd:(x == ("__classdict__" : Str))=false:=by decide):WE X (.Name x pos) (zcN i):=⟨pe_var hN hv hd hcd⟩
theorem wint{i:Int}{j:Nat}:WE X (.Constant (.int i) j pos) (tC (.int i)):=⟨pe_int⟩
theorem wbl{i:Bool}{j:Nat}:WE X (.Constant (.bool i) j pos) (tC (.bl i)):=⟨pe_bl⟩
theorem wnon{j:Nat}:WE X (.Constant .none j pos) (tC .non):=⟨pe_non⟩
theorem wstr{i:Str}{j:Nat}:WE X (.Constant (.str i) j pos) (tC (.str i)):=⟨pe_str⟩
theorem wgl{v:V}(hg:Gl X x)(h:∃ u,X.mg x=some u/\RelV v u)(hd:(x == ("__debug__" : Str))=false:=by decide):WE X (.Name x pos) (tC v):=⟨pe_gl hg h hd⟩
theorem wbt{n:String}(hg:Gl X x)(hm:X.mg x=none)(hv:bootBuiltins x=some (.type n))(hn:x ≠ "__name__" :=by decide)(hd:(x == ("__debug__" : Str))=false:=by decide):WE X (.Name x pos) (tC (.ty n)):=⟨pe_bltn (v:=.ty n) hg hm hv rfl hn hd⟩
theorem wop{op:Operator}(ho:OpR X (binaryOp op) r)(ha:WE X a ta)(hb:WE X b tb):WE X (.BinOp a op b pos) (tOp r ta tb):=⟨pe_op ho ha.h hb.h⟩
theorem wun{op:UnaryOp}{q:V->Hp->VK->Prop}(ho:UnR X (unaryOp op) q)(ha:WE X a ta):WE X (.UnaryOp op a pos) (tUn q ta):=⟨pe_un ho ha.h⟩
theorem wcmp{op:CmpOp}(ho:OpR X (compareOp op) r)(ha:WE X a ta)(hb:WE X b tb)(hm:behindInMarks op b=false):WE X (.Compare a [op] [b] pos) (tOp r ta tb):=⟨pe_cmpR ho ha.h hb.h hm⟩
theorem wif(hc:WT X c tA)(ha:WE X a ta)(hb:WE X b tb):WE X (.IfExp c a b pos) (tIf tA ta tb):=⟨pe_ifExp hc.h ha.h hb.h⟩
theorem wtup{x1:Nat}(h:WA X es t):WE X (.Tuple es x1 pos) (tTup t):=⟨pe_tup h.h⟩
theorem wlst(h:WA X es t):WE X (.List es pos) (tLst t):=⟨pe_lst h.h⟩
theorem wix{r:R2}(hr:IxR X r)(ha:WE X a ta)(hb:WE X b tb)(hs:zfN b):WE X (.Subscript a b pos) (tOp r ta tb):=⟨pe_ix hr ha.h hb.h hs⟩
theorem wslice{lo hi:Option Expr}{tl th:TO}{r:V->Option Int->Option Int->Hp->VK->Prop}(hr:SlR X r)(he:WE X e te)(hl:WO X lo tl)(hu:WO X hi th):WE X (.Subscript e (.Slice lo hi none p2) pos) (tSl r te tl th):=⟨pe_slice hr he.h hl.h hu.h⟩
theorem wnil:WA X [] tNil:=⟨zgv⟩
theorem wac(ha:WE X e te)(hr:WA X es t)(h:zak e=true:=by rfl):WA X (e :: es) (tCons te t):=⟨zer ha.h hr.h (zal h)⟩
theorem won:WO X none tNoPart:=⟨po_none⟩
theorem wos(h:WE X e te):WO X (some e) (tPart te):=⟨po_some h.h⟩
theorem wcb{id:String}{r:List V->Hp->VK->Prop}(hc:zcR X (.builtin id) r)(hg:Gl X x)(hm:X.mg x=none)(hv:bootBuiltins x=some (.builtin id))(ha:WA X (e :: es) t)(hn:x ≠ "__name__" :=by decide)(hdb:(x == ("__debug__" : Str))=false:=by decide)
  (h1:zak e=true:=by rfl) (h2:es.all zak=true:=by rfl):WE X (.Call (.Name x p) (e :: es) [] pos) (tCB r t):=⟨pe_callB hc hg hm hv ha.h hn hdb (zal h1) (zb6 h2)⟩
theorem wct{T:String}{r:List V->Hp->VK->Prop}(hc:zcR X (.type T) r)(hg:Gl X x)(hm:X.mg x=none)(hv:bootBuiltins x=some (.type T))(ha:WA X (e :: es) t)(hn:x ≠ "__name__" :=by decide)(hdb:(x == ("__debug__" : Str))=false:=by decide)
  (h1:zak e=true:=by rfl) (h2:es.all zak=true:=by rfl):WE X (.Call (.Name x p) (e :: es) [] pos) (tCB r t):=⟨pe_callTy hc hg hm hv ha.h hn hdb (zal h1) (zb6 h2)⟩
theorem wcl{CX:CXT}{k j:Nat}{f:Addr}{fd:FuncData}{ps:List Str}{sp:Sp}{st:Stmt}{E:XK}(F:FnOk X.prog X.w X.K X.mg X.base CX k f fd ps sp)(D:Def X.K X.mg x st ps f fd)(hr:Room j X.A)(hg:Gl X x)(hx:zbM CX X E)
  (ha:WA X (e :: es) t) (hjk:k<=j:=by decide) (hdb:(x == ("__debug__" : Str))=false:=by decide) (h1:zak e=true:=by rfl) (h2:es.all zak=true:=by rfl) :
  WE X (.Call (.Name x p) (e :: es) [] pos) (tCall sp [] E t):=⟨pe_call F (hr.mono hjk) hg D.mg D.fn.kp D.b .nil hx ha.h hdb (zal h1) (zb6 h2)⟩
theorem wbm{T id:String}{name:Str}{apos cpos:Pos}{r:V->List V->Hp->VK->Prop}(pa:PlainAttrs T)(slot:Slot T name id)(hty:typeOf (.builtin id)=pure (.type "method_descriptor"))(hm:MtR X id r)(ho:WE X o to)(ha:WA X (e :: es) t)
  (hbase:attributeBase o name X.env (eval o X.env)=eval o X.env:=by rfl) (hl:decide ((e :: es).length+0+0<30)=true:=by rfl) (hline:(apos.endLine == cpos.line)=true:=by rfl)
  (h1:zak e=true:=by rfl) (h2:es.all zak=true:=by rfl):WE X (.Call (.Attribute o name apos) (e :: es) [] cpos) (tBM X.K T r to t):=⟨pbm pa slot hty hm ho.h ha.h hbase hl hline h1 h2⟩
theorem tcmp{op:CmpOp}(ho:OpR X (compareOp op) r)(ha:WE X a ta)(hb:WE X b tb)(hm:behindInMarks op b=false):WT X (.Compare a [op] [b] pos) (zey (tOp r ta tb)):=⟨pt_cmpR ho ha.h hb.h hm⟩
theorem tand1(ha:WT X a tA):WW X (.BoolOp .And [a] pos) tA:=⟨pw_and1 ha.h⟩
theorem tor1(ha:WT X a tA):WW X (.BoolOp .Or [a] pos) tA:=⟨pw_or1 ha.h⟩
theorem tand(ha:WT X a tA)(hb:WW X (.BoolOp .And (b :: rest) pos) tB'):WW X (.BoolOp .And (a :: b :: rest) pos) (tAnd tA tB'):=⟨pw_and ha.h hb.h⟩
theorem tor(ha:WT X a tA)(hb:WW X (.BoolOp .Or (b :: rest) pos) tB'):WW X (.BoolOp .Or (a :: b :: rest) pos) (tOr tA tB'):=⟨pw_or ha.h hb.h⟩
theorem tw(h:WW X a tA):WT X a tA:=⟨h.h.pt⟩
theorem tnot(ha:WT X a tA):WT X (.UnaryOp .Not a pos) (tNot tA):=⟨pt_not ha.h⟩
theorem tval(h:WE X e te)(he:∀ whole,isTrue e X.env whole=(do let v <- whole;standAt e.pos;holding [v] (truthy v)):=by intro _;rfl):WT X e (tB te):=⟨pt_val h.h he⟩
theorem ifs0:WTs X [] tNoIf:=⟨pts_nil⟩
theorem ifs1(h:WT X c tA):WTs X [c] tA:=⟨pts_one h.h⟩
end
section
variable {X:Cx}{e c tg iter:Expr}{es:List Expr}{pos pos' p:Pos}{te:TE}{tc:TT}{ta:TA}{x:Str}{st:Stmt}{sr body els:List Stmt}{t u tb:TS}{wi:TI}{g:TG}{gs:TGs}
theorem il(h:WE X e te):WI X tg e (iList X.K te):=⟨pi_list h.h⟩
theorem it(h:WE X e te):WI X tg e (iTup X.K te):=⟨pi_tup h.h⟩
theorem ir1(hg:Gl X "range")(hm:X.mg "range" = none)(ha:WA X [e] ta)(h1:zak e=true:=by rfl):WI X tg (.Call (.Name "range" p) [e] [] pos) (iRng1 ta):=⟨pi_range1 hg hm ha.h (zal h1)⟩
theorem ir2{b:Expr}(hg:Gl X "range")(hm:X.mg "range" = none)(ha:WA X [e,b] ta)(h1:zak e=true:=by rfl)(h2:zak b=true:=by rfl):WI X tg (.Call (.Name "range" p) [e,b] [] pos) (iRng2 ta):=⟨pi_range2 hg hm ha.h (by rw[zal h1,zal h2];rfl) (by rw[zal h2];rfl)⟩
theorem gn{i:Nat}(hN:X.N.Nodup)(hi:X.N[i]? = some x)(hx:Loc X.env.scope x)(hf:X.fn x=true \/ X.env.scope.names.lookup x=some .local:=by first | exact .inl rfl | exact .inr rfl | assumption):WG X (.Name x pos) (zcI i):=⟨pg_name hN hi hx hf⟩
theorem gs1(h1:WG X e g)(h2:WGs X es gs)(hs:(assignEach (e :: es) X.env).map (·.2)=assign e X.env :: (assignEach es X.env).map (·.2):=by rfl):WGs X (e :: es) (gCons g gs):=⟨pgs_cons h1.h h2.h hs⟩
theorem s0:WSs X [] tNext:=⟨pss_nil⟩
theorem sc(h1:WS X st t)(h2:WSs X sr u):WSs X (st :: sr) (tSeq t u):=⟨pss_cons h1.h h2.h⟩
theorem s1(h1:WS X st t):WSs X [st] t:=⟨pss_one h1.h⟩
theorem sex(he:WE X e te)(hs:swapsWith e none pos.line X.env=pure false:=by rfl):WS X (.Expr e pos) (tDrop te):=⟨ps_expr he.h hs⟩
theorem sret(he:WE X e te):WS X (.Return (some e) pos) (tRet te):=⟨ps_ret he.h⟩
theorem sif(hc:WT X c tc)(ha:WSs X body t)(hb:WSs X els u):WS X (.If c body els pos) (tIfS tc t u):=⟨ps_if hc.h ha.h hb.h⟩
theorem sset{i:Nat}(hN:X.N.Nodup)(hi:X.N[i]? = some x)(hx:Loc X.env.scope x)(he:WE X e te)(hs:swapsWith e (some (.Name x pos')) pos.line X.env=pure false:=by rfl)(hf:X.fn x=true \/ X.env.scope.names.lookup x=some .local:=by first | exact .inl rfl | exact .inr rfl | assumption) :
  WS X (.Assign [.Name x pos'] e pos) (zeU te (zcI i)):=⟨ps_set hN hi hx he.h hs hf⟩
theorem sasg(he:WE X e te)(hg:WG X tg g)(hs:swapsWithSole [tg] e pos.line X.env=pure false:=by rfl)(hw:swappedStores [tg] e X.env=pure none:=by rfl)(h1:(assignEach [tg] X.env).map (·.2)=[assign tg X.env]:=by rfl):WS X (.Assign [tg] e pos) (zeU te g):=⟨ps_asg he.h hg.h hs hw h1⟩
theorem sfor(hp:PassesOwn (model X.prog X.w) X.A X.env X.xe)(hc:X.calm=true)(hi:WI X tg iter wi)(hg:WG X tg g)(hb:WSs X body tb)(hs:∀ z,foldedSetIterable iter X.env z=pure z:=by intro _;rfl):WS X (.For tg iter body [] pos) (tFor wi g tb):=⟨ps_for hp hc hi.h hg.h hb.h hs⟩
theorem swhile(hp:PassesOwn (model X.prog X.w) X.A X.env X.xe)(hc:WT X c tc)(hb:WSs X body tb):WS X (.While c body [] pos) (zgC tc tb):=⟨ps_while hp hc.h hb.h⟩
end
section
variable {X:Cx}{N:List Str}{fr:List Nat}{x:Str}{scope:Scope}{iter elt:Expr}{ifs:List Expr}{px pos:Pos}{wi:TI}{te:TE}{tt:TT}
theorem wlc(S:CompSc X N fr x scope)(hc:X.calm=true)(hi:WI X (.Name x px) iter wi)
  (ht:∀ (C:Addr) (s₀:Shared) (H₀:Hp) (fp:List Addr),WTs (cxC X N scope C s₀ H₀ fp) ifs tt) (he:∀ (C:Addr) (s₀:Shared) (H₀:Hp) (fp:List Addr),WE (cxC X N scope C s₀ H₀ fp) elt te)
  (hs:∀ z,foldedSetIterable iter X.env z=pure z:=by intro _;rfl):WE X (.ListComp elt [⟨.Name x px,iter,ifs,0⟩] scope pos) (tLC fr wi tt te):=⟨pe_lc S hc hi.h (fun C s₀ H₀ fp=>(ht C s₀ H₀ fp).h) (fun C s₀ H₀ fp=>(he C s₀ H₀ fp).h) hs⟩
theorem ssetlc{i:Nat}{y:Str}{py spos:Pos}(hN:X.N.Nodup)(hi':X.N[i]? = some y)(hy:Loc X.env.scope y)(S:CompSc X N fr x scope)(hc:X.calm=true)(hi:WI X (.Name x px) iter wi)
  (ht:∀ (C:Addr) (s₀:Shared) (H₀:Hp) (fp:List Addr),WTs (cxC X N scope C s₀ H₀ fp) ifs tt) (he:∀ (C:Addr) (s₀:Shared) (H₀:Hp) (fp:List Addr),WE (cxC X N scope C s₀ H₀ fp) elt te)
  (hsw:swapsWith (.ListComp elt [⟨.Name x px,iter,ifs,0⟩] scope pos) (some (.Name y py)) spos.line X.env=pure true:=by rfl)
  (hs:∀ z,foldedSetIterable iter X.env z=pure z:=by intro _;rfl)
  (hf:X.fn y=true \/ X.env.scope.names.lookup y=some .local:=by first | exact .inl rfl | exact .inr rfl | assumption) :
  WS X (.Assign [.Name y py] (.ListComp elt [⟨.Name x px,iter,ifs,0⟩] scope pos) spos) (zeU (tLC fr wi tt te) (zcI i)):=
 ⟨ps_setlc hN hi' hy S hc hi.h (fun C s₀ H₀ fp=>(ht C s₀ H₀ fp).h) (fun C s₀ H₀ fp=>(he C s₀ H₀ fp).h) hsw hs hf⟩
end
end L2

set_option maxRecDepth 100000
set_option maxHeartbeats 4000000
namespace L2
open PySem PySem.Spec PyProof.Rows
noncomputable def knO(l:Addr)(o:Obj):HO:=.ext fun h=>h.get? l=some o
noncomputable def kBk:Value->Key
 | .int i _=>.inl i
 | .str x _=>.inr x
 | _=>.inl 0
theorem kBk_is{k:Key}{v:Value}(h:zg7 k v=true):kBk v=k:=by
 rcases zaH h with ⟨i,t,rfl,rfl⟩ | ⟨x,t,rfl,rfl⟩ <;> rfl
noncomputable def vBk:Value->V
 | .bool b=>.bl b
 | .int i _=>.int i
 | .str x _=>.str x
 | .bytes b _=>.byt b
 | .float b _=>.flt b
 | .ref a=>.ref a
 | .type n=>.ty n
 | _=>.non
theorem vBk_rel{v:V}{u:Value}(h:RelV v u):vBk u=v:=by
 cases v <;> first | (cases h;rfl) | (obtain⟨_,rfl⟩:=h;rfl)
noncomputable def DiD(l:Addr)(o:Obj)(kvs:List (Key × V)):Prop:=(l == sysModules)=false/\kvs.length<=sizeLine /\
 ∃ (P:Program) (w:World) (es:Array DictEntry) (ep:Nat) (us:List (Key × Value)),o.ExactDict/\o.data=.dict es ep/\PySem.KeysOf (zbK P w) es/\Pairs (zbK P w) es.toList us/\(us.map (·.1)).Nodup/\KV kvs us
theorem zfY{kvs:List (Key × V)}{us:List (Key × Value)}(r:KV kvs us):kvs=us.map fun p=>(p.1,vBk p.2):=by
 unfold KV at r
 induction r with
 | nil=>rfl
 | cons h _ ih=>rw[List.map_cons,<- ih,<- h.1,vBk_rel h.2]
theorem zdh{P:Program}{w:World}{es:List DictEntry}{us:List (Key × Value)}(r:Pairs (zbK P w) es us):us=es.map fun e=>(kBk e.key,e.val):=by
 induction r with
 | nil=>rfl
 | cons h1 h2 _ ih=>rw[List.map_cons,<- ih,kBk_is h1,h2]
theorem DiD.inj{l:Addr}{o:Obj}{kvs kvs':List (Key × V)}(h:DiD l o kvs)(h':DiD l o kvs'):kvs=kvs':=by
 obtain⟨_,_,P,w,es,ep,us,_,h1,_,h2,_,h3⟩:=h
 obtain⟨_,_,P',w',es',ep',us',_,h1',_,h2',_,h3'⟩:=h'
 rw[h1] at h1'
 cases h1'
 rw[zfY h3,zfY h3',zdh h2,zdh h2']
theorem knO_inj{l:Addr}{o o':Obj}{kvs:List (Key × V)}(h:knO l o=knO l o')(d:DiD l o kvs):o=o':=by
 obtain⟨_,_,_,_,es,ep,_,_,h1,_⟩:=d
 have g:=Heap.get?_push_size ⟨Array.replicate l o,{}⟩ (o:=o) (by cases o;cases h1;rfl)
 rw[show(⟨Array.replicate l o,{}⟩:Heap).objs.size=l from Array.size_replicate] at g
 have z:=congrFun (HO.ext.inj h) ((⟨Array.replicate l o,{}⟩:Heap).push o)
 exact Option.some.inj (g.symm.trans (z.mp g))
end L2

namespace L3
open PySem PySem.Spec PyProof.Rows L2
inductive D where
 | non | bl (b:Bool) | int (i:Int) | str (x:Str) | tup (l:List D) | lst (l:List D) | dic (ks:List Str) (l:List D) | ins (C:Addr) (ns:List Str) (l:List D) | dcI (ks:List Int) (l:List D)
inductive OT where
 | val (d:D) | lst (l:List D) | ins (c:Str) (ns:List Str) (l:List OT) | dcI (ks:List Int) (l:List OT)
inductive Ent where
 | val (d:D) | own (l:List D) | bor (l:List D) | vw (l:List D) | obj (o:OT) | bt (l:List D)
noncomputable abbrev En:=List (Option Ent)
noncomputable abbrev Sg:=L2.St
mutual
inductive Rep(F:Hp):V->D->Prop
 | non:Rep F .non .non
 | bl (b:Bool):Rep F (.bl b) (.bl b)
 | int (i:Int):Rep F (.int i) (.int i)
 | str (x:Str):Rep F (.str x) (.str x)
 | tup {a:Addr} {vs:List V} {ds:List D}:F a=some (.tup vs)->Reps F vs ds->Rep F (.ref a) (.tup ds)
 | lst {a:Addr} {vs:List V} {ds:List D}:F a=some (.lst vs)->Reps F vs ds->Rep F (.ref a) (.lst ds)
 | dic {a:Addr} {o:Obj} {ks:List Str} {vs:List V} {ds:List D}:F a=some (.frz o (.dK ((ks.map Sum.inr).zip vs)))->ks.length=vs.length->Reps F vs ds->Rep F (.ref a) (.dic ks ds)
 | ins {a C dx:Addr} {ns:List Str} {vs:List V} {ds:List D}:F a=some (.ins C dx (ns.zip vs))->ns.length=vs.length->Reps F vs ds->Rep F (.ref a) (.ins C ns ds)
 | dcI {a:Addr} {o:Obj} {ks:List Int} {vs:List V} {ds:List D}:F a=some (knO a o)->DiD a o ((ks.map Sum.inl).zip vs)->ks.length=vs.length->Reps F vs ds->Rep F (.ref a) (.dcI ks ds)
inductive Reps(F:Hp):List V->List D->Prop
 | nil:Reps F [] []
 | cons {v:V} {d:D} {vs:List V} {ds:List D}:Rep F v d->Reps F vs ds->Reps F (v :: vs) (d :: ds)
end
section
variable {F F':Hp}{v:V}{d:D}{vs ws:List V}{ds es:List D}
theorem Rep.mono(s:Same F F'){v:V}{d:D}(h:Rep F v d):Rep F' v d:=
 Rep.rec (motive_1:=fun v d _=>Rep F' v d) (motive_2:=fun vs ds _=>Reps F' vs ds) .non .bl .int .str (fun e _ ih=>.tup (s _ _ e) ih) (fun e _ ih=>.lst (s _ _ e) ih) (fun e l _ ih=>.dic (s _ _ e) l ih) (fun e l _ ih=>.ins (s _ _ e) l ih) (fun e d l _ ih=>.dcI (s _ _ e) d l ih) .nil (fun _ _ h t=>.cons h t) h
theorem Reps.mono(s:Same F F'){vs:List V}{ds:List D}(h:Reps F vs ds):Reps F' vs ds:=
 Reps.rec (motive_1:=fun v d _=>Rep F' v d) (motive_2:=fun vs ds _=>Reps F' vs ds) .non .bl .int .str (fun e _ ih=>.tup (s _ _ e) ih) (fun e _ ih=>.lst (s _ _ e) ih) (fun e l _ ih=>.dic (s _ _ e) l ih) (fun e l _ ih=>.ins (s _ _ e) l ih) (fun e d l _ ih=>.dcI (s _ _ e) d l ih) .nil (fun _ _ h t=>.cons h t) h
theorem Reps.length:∀ {vs:List V} {ds:List D},Reps F vs ds->vs.length=ds.length
 | _,_,.nil=>rfl
 | _,_,.cons _ r=>by rw[List.length_cons,List.length_cons,Reps.length r]
theorem Reps.get:∀ {vs:List V} {ds:List D} {i:Nat} {d:D},Reps F vs ds->ds[i]? = some d->∃ v,vs[i]? = some v/\Rep F v d
 | _,_,_,_,.nil,e=>by simp at e
 | _,_,0,_,.cons h _,e=>by simp at e;subst e;exact⟨_,rfl,h⟩
 | _,_,i+1,d,.cons _ r,e=>by
  obtain⟨v,h1,h2⟩:=Reps.get (i:=i) (d:=d) r (by simpa using e)
  exact⟨v,by simpa using h1,h2⟩
theorem Reps.append:∀ {vs ws:List V} {ds es:List D},Reps F vs ds->Reps F ws es->Reps F (vs ++ ws) (ds ++ es)
 | _,_,_,_,.nil,s=>s
 | _,_,_,_,.cons h r,s=>.cons h (Reps.append r s)
theorem Reps.take:∀ {vs:List V} {ds:List D} (n:Nat),Reps F vs ds->Reps F (vs.take n) (ds.take n)
 | _,_,0,_=>.nil
 | _,_,_+1,.nil=>.nil
 | _,_,n+1,.cons h r=>.cons h (Reps.take n r)
theorem Reps.drop:∀ {vs:List V} {ds:List D} (n:Nat),Reps F vs ds->Reps F (vs.drop n) (ds.drop n)
 | _,_,0,r=>r
 | _,_,_+1,.nil=>.nil
 | _,_,n+1,.cons _ r=>Reps.drop n r
theorem Reps.set(h:Rep F v d):∀ {vs:List V} {ds:List D} (i:Nat),Reps F vs ds->Reps F (vs.set i v) (ds.set i d)
 | _,_,_,.nil=>.nil
 | _,_,0,.cons _ r=>.cons h r
 | _,_,i+1,.cons q r=>.cons q (Reps.set h i r)
theorem Reps.one(h:Rep F v d):Reps F [v] [d]:=.cons h .nil
theorem Reps.rev:∀ {vs:List V} {ds:List D},Reps F vs ds->Reps F vs.reverse ds.reverse
 | _,_,.nil=>.nil
 | _,_,.cons h r=>by rw[List.reverse_cons,List.reverse_cons];exact(Reps.rev r).append (.one h)
theorem Reps.ints(ns:List Int):Reps F (ns.map V.int) (ns.map D.int):=by
 induction ns with
 | nil=>exact .nil
 | cons n r ih=>exact .cons (.int n) ih
theorem Reps.dropLast(r:Reps F vs ds):Reps F vs.dropLast ds.dropLast:=by
 rw[List.dropLast_eq_take,List.dropLast_eq_take,r.length]
 exact r.take _
end
noncomputable def isT:HO->Bool
 | .tup _=>true
 | _=>false
noncomputable def zb4(K:PySem.W.Frag)(c:Str)(C:Addr):Prop:=PySem.W.nsIn K mainGlobals c=some (some (.ref C))
mutual
inductive TR(K:PySem.W.Frag)(F H:Hp):V->OT->List Addr->Prop
 | val {v:V} {d:D}:Rep F v d->TR K F H v (.val d) []
 | lst {l:Addr} {vs:List V} {ds:List D}:H l=some (.lst vs)->Reps F vs ds->TR K F H (.ref l) (.lst ds) [l]
 | ins {a dx C:Addr} {c:Str} {ns:List Str} {vs:List V} {os:List OT} {A:List Addr}:zb4 K c C->H a=some (.ins C dx (ns.zip vs))->H dx=some (.own a)->ns.length=vs.length->TRs K F H vs os A->TR K F H (.ref a) (.ins c ns os) (a :: dx :: A)
 | dcI {l:Addr} {o:Obj} {ks:List Int} {vs:List V} {os:List OT} {A:List Addr}:H l=some (knO l o)->DiD l o ((ks.map Sum.inl).zip vs)->ks.length=vs.length->TRs K F H vs os A->TR K F H (.ref l) (.dcI ks os) (l :: A)
inductive TRs(K:PySem.W.Frag)(F H:Hp):List V->List OT->List Addr->Prop
 | nil:TRs K F H [] [] []
 | cons {v:V} {o:OT} {vs:List V} {os:List OT} {A A':List Addr}:TR K F H v o A->TRs K F H vs os A'->TRs K F H (v :: vs) (o :: os) (A ++ A')
end
section
variable {K:PySem.W.Frag}{F H F' H':Hp}
theorem TR.move(s:Same F F'){v:V}{o:OT}{A:List Addr}(t:TR K F H v o A):(∀ a ∈ A,H' a=H a)->TR K F' H' v o A:=
 TR.rec (motive_1:=fun v o A _=>(∀ a ∈ A,H' a=H a)->TR K F' H' v o A) (motive_2:=fun vs os A _=>(∀ a ∈ A,H' a=H a)->TRs K F' H' vs os A) (fun r _=>.val (Rep.mono s r)) (fun e r h=>.lst ((h _ List.mem_cons_self).trans e) (r.mono s))
  (fun hc e1 e2 hl _ ih h=>.ins hc ((h _ List.mem_cons_self).trans e1) ((h _ (List.mem_cons_of_mem _ List.mem_cons_self)).trans e2) hl (ih fun a ha=>h a (List.mem_cons_of_mem _ (List.mem_cons_of_mem _ ha))))
  (fun e d l _ ih h=>.dcI ((h _ List.mem_cons_self).trans e) d l (ih fun a ha=>h a (List.mem_cons_of_mem _ ha))) (fun _=>.nil)
  (fun _ _ i1 i2 h=>.cons (i1 fun a ha=>h a (List.mem_append_left _ ha)) (i2 fun a ha=>h a (List.mem_append_right _ ha))) t
theorem TRs.nil_{os:List OT}{A:List Addr}(h:TRs K F H [] os A):os=[]/\A=[]:=by cases h;exact⟨rfl,rfl⟩
theorem TRs.cons_{v:V}{vs:List V}{os:List OT}{A:List Addr}(h:TRs K F H (v :: vs) os A):∃ o os' A1 A2,os=o :: os'/\A=A1 ++ A2/\TR K F H v o A1/\TRs K F H vs os' A2:=by cases h with | cons t ts=>exact⟨_,_,_,_,rfl,rfl,t,ts⟩
theorem TRs.move(s:Same F F'):∀ {vs:List V} {os:List OT} {A:List Addr},TRs K F H vs os A->(∀ a ∈ A,H' a=H a)->TRs K F' H' vs os A:=by
 intro vs
 induction vs with
 | nil=>intro os A t h;obtain⟨rfl,rfl⟩:=t.nil_;exact .nil
 | cons v vs ih=>
  intro os A t h
  obtain⟨o,os',A1,A2,rfl,rfl,t1,t2⟩:=t.cons_
  exact .cons (t1.move s fun a ha=>h a (List.mem_append_left _ ha)) (ih t2 fun a ha=>h a (List.mem_append_right _ ha))
theorem lies1{l:Addr}{u:HO}(e:H l=some u)(hu:isT u=false):∀ a ∈ [l],∃ u,H a=some u/\isT u=false:=fun a h=>by
 cases List.mem_singleton.mp h
 exact⟨u,e,hu⟩
theorem liesC{l:Addr}{u:HO}{A:List Addr}(e:H l=some u)(hu:isT u=false)(h:∀ a ∈ A,∃ u,H a=some u/\isT u=false):∀ a ∈ l :: A,∃ u,H a=some u/\isT u=false:=fun a ha=>
 (List.mem_cons.mp ha).elim (fun z=>⟨u,z ▸ e,hu⟩) (h a)
theorem TR.lies{v:V}{o:OT}{A:List Addr}(t:TR K F H v o A):∀ a ∈ A,∃ u,H a=some u/\isT u=false:=
 TR.rec (motive_1:=fun _ _ A _=>∀ a ∈ A,∃ u,H a=some u/\isT u=false) (motive_2:=fun _ _ A _=>∀ a ∈ A,∃ u,H a=some u/\isT u=false) (fun _ a h=>nomatch h) (fun e _=>lies1 e rfl) (fun _ e1 e2 _ _ ih=>liesC e1 rfl (liesC e2 rfl ih)) (fun e _ _ _ ih=>liesC e rfl ih) (fun a h=>nomatch h)
  (fun _ _ i1 i2 a h=>(List.mem_append.mp h).elim (i1 a) (i2 a)) t
theorem TRs.lies:∀ {vs:List V} {os:List OT} {A:List Addr},TRs K F H vs os A->∀ a ∈ A,∃ u,H a=some u/\isT u=false:=by
 intro vs
 induction vs with
 | nil=>intro os A t a h;obtain⟨rfl,rfl⟩:=t.nil_;cases h
 | cons v vs ih=>
  intro os A t a h
  obtain⟨o,os',A1,A2,rfl,rfl,t1,t2⟩:=t.cons_
  exact(List.mem_append.mp h).elim (t1.lies a) (ih t2 a)
theorem zgG{α:Type}{ns:List α}:∀ {vs ws:List V},ns.length=vs.length->ns.length=ws.length->ns.zip vs=ns.zip ws->vs=ws:=by
 intro vs ws h1 h2 h
 have a:=congrArg (fun l=>l.map Prod.snd) h
 simp only[List.map_snd_zip (Nat.le_of_eq h1.symm),List.map_snd_zip (Nat.le_of_eq h2.symm)] at a
 exact a
theorem TR.det{v:V}{o:OT}{A:List Addr}(t:TR K F H v o A):∀ {A':List Addr},TR K F H v o A'->A=A':=by
 refine TR.rec (motive_1:=fun v o A _=>∀ {A':List Addr},TR K F H v o A'->A=A') (motive_2:=fun vs os A _=>∀ {A':List Addr},TRs K F H vs os A'->A=A') ?_ ?_ ?_ ?_ ?_ ?_ t
 ·intro _ _ _ _ h;cases h;rfl
 ·intro _ _ _ _ _ _ h;cases h;rfl
 ·intro _ _ _ _ _ _ _ _ _ e1 _ hl _ ih _ h
  cases h with
  | ins _ e1' _ hl' t'=>
   have z:=Option.some.inj (e1.symm.trans e1')
   injection z with _ z2 z3
   subst z2
   cases zgG hl hl' z3
   rw[ih t']
 ·intro _ _ _ _ _ _ e d l _ ih _ h
  cases h with
  | dcI e' d' l' t'=>
   cases knO_inj (Option.some.inj (e.symm.trans e')) d
   cases zgG (by rw[List.length_map];exact l) (by rw[List.length_map];exact l') (d.inj d')
   rw[ih t']
 ·intro _ h;exact h.nil_.2.symm
 ·intro _ _ _ _ _ _ _ _ i1 i2 _ h
  obtain⟨_,_,_,_,e,rfl,t1,t2⟩:=h.cons_
  cases e
  rw[i1 t1,i2 t2]
end
structure Bd where
 hp:Hp
 pin:Option V
instance:Coe Bd Hp:=⟨Bd.hp⟩
structure Ex(F H F' H':Hp):Prop where
 ff:Same F F'
 fh:Same F' H'
 hh:Same H H'
 nw:∀ a o,H a=some o->isT o=false->F' a=F a
section
variable {K:PySem.W.Frag}{B:Bd}{F H F' H' F2 H2 H0:Hp}{v:V}{p:Addr}{o:HO}{e:Ent}{σ:Sg}{δ:En}
theorem Ex.refl(h:Same F H):Ex F H F H:=⟨Same.refl F,h,Same.refl H,fun _ _ _ _=>rfl⟩
theorem Ex.trans(a:Ex F H F' H')(b:Ex F' H' F2 H2):Ex F H F2 H2:=⟨a.ff.trans b.ff,b.fh,a.hh.trans b.hh,fun x o e t=>(b.nw x o (a.hh x o e) t).trans (a.nw x o e t)⟩
theorem same_upd2(h:Same F H)(hp:H p=none):Same (upd F p o) (upd H p o):=fun b u e=>by
 by_cases hb:b=p
 ·subst hb;rw[zag] at e ⊢;exact e
 ·rw[zaj hb] at e ⊢;exact h b u e
theorem Ex.alloc(h:Same F H)(hp:H p=none):Ex F H (upd F p o) (upd H p o):=
 ⟨Same.alloc (h.free hp),same_upd2 h hp,Same.alloc hp,fun a u e _=>zaj (zaE e hp)⟩
theorem Ex.lay(h:Same F H)(hp:H p=none):Ex F H F (upd H p o):=⟨Same.refl F,h.trans (Same.alloc hp),Same.alloc hp,fun _ _ _ _=>rfl⟩
theorem Ex.freeze(x:Ex F H F' H')(h0:H p=none)(h1:H' p=some o)(h2:F' p=none):Ex F H (upd F' p o) H':=by
 refine⟨x.ff.trans (Same.alloc h2),fun b u e=>?_,x.hh,fun a u e t=>?_⟩
 ·by_cases hb:b=p
  ·subst hb;rw[zag] at e;cases e;exact h1
  ·rw[zaj hb] at e;exact x.fh b u e
 ·rw[zaj (zaE e h0)];exact x.nw a u e t
noncomputable def RepR(K:PySem.W.Frag)(H0 F H:Hp)(v:V):Ent->Prop
 | .val d=>Rep F v d
 | .own ds=>∃ l vs,v=.ref l/\H0 l=none/\H l=some (.lst vs)/\Reps F vs ds/\F l=none
 | .bor ds=>∃ l vs,v=.ref l/\SqL K H l vs/\Reps F vs ds
 | .vw ds=>∃ l vs,v=.ref l/\H l=some (.lst vs)/\Reps F vs ds
 | .obj o=>(∃ l,v=.ref l)/\∃ A,TR K F H v o A/\A.Nodup/\∀ a ∈ A,F a=none/\H0 a=none
 | .bt ds=>∃ l vs,v=.ref l/\SqT K H l vs/\Reps F vs ds
theorem _root_.L2.Same.seqT{K:PySem.W.Frag}{H H':Hp}{l:Addr}{vs:List V}(s:Same H H')(h:SqT K H l vs):SqT K H' l vs:=by
 rcases h with (h | ⟨o,h⟩) | h
 ·exact .inl (.inl (s _ _ h))
 ·exact .inl (.inr ⟨o,s _ _ h⟩)
 ·exact .inr h
theorem TR.ext{o:OT}{A:List Addr}(r:TR K F H v o A)(x:Ex F H F' H'):TR K F' H' v o A/\∀ a ∈ A,F' a=F a:=
 ⟨r.move x.ff fun a ha=>let⟨_,h1,_⟩:=r.lies a ha;(x.hh _ _ h1).trans h1.symm,fun a ha=>let⟨_,h1,h2⟩:=r.lies a ha;x.nw _ _ h1 h2⟩
theorem RepR.ext(r:RepR K H0 F H v e)(x:Ex F H F' H'):RepR K H0 F' H' v e:=by
 cases e with
 | val d=>exact Rep.mono x.ff r
 | own ds=>
  obtain⟨l,vs,e,h0,h1,rs,h2⟩:=r
  exact⟨l,vs,e,h0,x.hh _ _ h1,rs.mono x.ff,(x.nw _ _ h1 rfl).trans h2⟩
 | bor ds=>obtain⟨l,vs,e,h,rs⟩:=r;exact⟨l,vs,e,x.hh.seq h,rs.mono x.ff⟩
 | vw ds=>obtain⟨l,vs,e,h,rs⟩:=r;exact⟨l,vs,e,x.hh _ _ h,rs.mono x.ff⟩
 | obj o=>obtain⟨z,A,t,n,h⟩:=r;exact⟨z,A,(t.ext x).1,n,fun a ha=>⟨((t.ext x).2 a ha).trans (h a ha).1,(h a ha).2⟩⟩
 | bt ds=>obtain⟨l,vs,e,h,rs⟩:=r;exact⟨l,vs,e,x.hh.seqT h,rs.mono x.ff⟩
theorem RepR.earlier(r:RepR K H F' H' v e)(s:Same H0 H):RepR K H0 F' H' v e:=by
 cases e with
 | own ds=>obtain⟨l,vs,e,h0,z⟩:=r;exact⟨l,vs,e,s.free h0,z⟩
 | obj o=>obtain⟨z,A,t,n,h⟩:=r;exact⟨z,A,t,n,fun a ha=>⟨(h a ha).1,s.free (h a ha).2⟩⟩
 | _=>exact r
noncomputable def RepN(K:PySem.W.Frag)(B F H:Hp)(v:V):Ent->Prop
 | .val d=>Rep F v d
 | .own ds=>∃ l vs,v=.ref l/\H l=some (.lst vs)/\Reps F vs ds/\F l=none/\B l=none
 | .bor ds=>∃ l vs,v=.ref l/\SqL K B l vs/\Reps F vs ds
 | .vw ds=>∃ l vs,v=.ref l/\H l=some (.lst vs)/\Reps F vs ds
 | .obj o=>∃ A,TR K F H v o A/\A.Nodup/\∀ a ∈ A,F a=none/\B a=none
 | .bt ds=>∃ l vs,v=.ref l/\SqT K B l vs/\Reps F vs ds
noncomputable def Ent.lk:Ent->Bool
 | .own _=>true
 | .vw _=>true
 | _=>false
noncomputable def Occ(K:PySem.W.Frag)(F H:Hp)(v:V):Ent->Addr->Prop
 | .own _,a=>v=.ref a
 | .vw _,a=>v=.ref a
 | .obj o,a=>∃ A,TR K F H v o A/\a ∈ A
 | _,_=>False
noncomputable def Ent.isO:Ent->Bool
 | .obj _=>true
 | _=>false
structure RS(K:PySem.W.Frag)(B:Bd)(F H:Hp)(σ:Sg)(δ:En):Prop where
 fh:Same F H
 bh:Same B H
 len:σ.length=δ.length
 ent:∀ (i:Nat) (e:Ent),δ[i]? = some (some e)->∃ v,σ[i]? = some (some v)/\RepN K B F H v e
 ap:∀ (i j:Nat) (l:Addr) (ds:List D) (e:Ent),i ≠ j->δ[i]? = some (some (.own ds))->σ[i]? = some (some (.ref l))->δ[j]? = some (some e)->e.lk=true->σ[j]? ≠ some (some (.ref l))
 ao:∀ (i j:Nat) (e e':Ent) (v w:V) (a:Addr),i ≠ j->δ[i]? = some (some e)->σ[i]? = some (some v)->δ[j]? = some (some e')->σ[j]? = some (some w)->e.isO=true->Occ K F H v e a->Occ K F H w e' a->False
 pn:∀ (v:V) (o:OT),B.pin=some v->δ[0]? = some (some (.obj o))->σ[0]? = some (some v)
theorem RepN.ext(r:RepN K B F H v e)(x:Ex F H F' H'):RepN K B F' H' v e:=by
 cases e with
 | val d=>exact Rep.mono x.ff r
 | own ds=>obtain⟨l,vs,e,h1,rs,h2,h3⟩:=r;exact⟨l,vs,e,x.hh _ _ h1,rs.mono x.ff,(x.nw _ _ h1 rfl).trans h2,h3⟩
 | bor ds=>obtain⟨l,vs,e,h,rs⟩:=r;exact⟨l,vs,e,h,rs.mono x.ff⟩
 | vw ds=>obtain⟨l,vs,e,h,rs⟩:=r;exact⟨l,vs,e,x.hh _ _ h,rs.mono x.ff⟩
 | obj o=>obtain⟨A,t,n,h⟩:=r;exact⟨A,(t.ext x).1,n,fun a ha=>⟨((t.ext x).2 a ha).trans (h a ha).1,(h a ha).2⟩⟩
 | bt ds=>obtain⟨l,vs,e,h,rs⟩:=r;exact⟨l,vs,e,h,rs.mono x.ff⟩
theorem Occ.back{a:Addr}(r:RepN K B F H v e)(m:∀ o A,e=.obj o->TR K F H v o A->TR K F' H' v o A)(h:Occ K F' H' v e a):Occ K F H v e a:=by
 cases e with
 | obj o=>
  obtain⟨A,t,_⟩:=r
  obtain⟨A',t',h'⟩:=h
  rw[t'.det (m o A rfl t)] at h'
  exact⟨A,t,h'⟩
 | _=>exact h
theorem Occ.backX{a:Addr}(r:RepN K B F H v e)(x:Ex F H F' H')(h:Occ K F' H' v e a):Occ K F H v e a:=h.back r fun _ _ _ t=>(t.ext x).1
theorem RepN.lies{a:Addr}(r:RepN K B F H v e)(h:Occ K F H v e a):∃ u,H a=some u:=by
 cases e with
 | own ds=>obtain⟨l,vs,e,h1,_⟩:=r;cases e;cases (show V.ref l=.ref a from h);exact⟨_,h1⟩
 | vw ds=>obtain⟨l,vs,e,h1,_⟩:=r;cases e;cases (show V.ref l=.ref a from h);exact⟨_,h1⟩
 | obj o=>obtain⟨A,t,h'⟩:=h;obtain⟨u,h1,_⟩:=t.lies a h';exact⟨u,h1⟩
 | _=>exact h.elim
theorem RS.occ{i:Nat}{a:Addr}(s:RS K B F H σ δ)(h:δ[i]? = some (some e))(q:σ[i]? = some (some v))(o:Occ K F H v e a):∃ u,H a=some u:=by
 obtain⟨w,h1,h2⟩:=s.ent i e h
 rw[q] at h1
 cases h1
 exact h2.lies o
theorem RS.at{i:Nat}(s:RS K B F H σ δ)(h:δ[i]? = some (some e))(q:σ[i]? = some (some v)):RepN K B F H v e:=by
 obtain⟨w,h1,h2⟩:=s.ent i e h
 rw[q] at h1
 cases h1
 exact h2
theorem RS.ext(s:RS K B F H σ δ)(x:Ex F H F' H'):RS K B F' H' σ δ:=
 ⟨x.fh,s.bh.trans x.hh,s.len,fun i e h=>let⟨v,h1,h2⟩:=s.ent i e h;⟨v,h1,h2.ext x⟩,s.ap,
  fun i j e e' v w a hij h1 h2 h3 h4 h5 h6 h7=>s.ao i j e e' v w a hij h1 h2 h3 h4 h5 (h6.backX (s.at h1 h2) x) (h7.backX (s.at h3 h4) x),s.pn⟩
noncomputable def asV:Ent->Option D
 | .val d=>some d
 | .own ds=>some (.lst ds)
 | _=>none
noncomputable def asL:Ent->Option (List D)
 | .val (.lst ds)=>some ds
 | .own ds=>some ds
 | .bor ds=>some ds
 | .vw ds=>some ds
 | _=>none
theorem RepR.toL{ds:List D}(r:RepR K H0 F H v e)(h:Same F H)(q:asL e=some ds):∃ l vs,v=.ref l/\SqL K H l vs/\Reps F vs ds:=by
 cases e with
 | val d=>
  cases d with
  | lst es=>
   cases q
   cases (show Rep F v (.lst _) from r) with
   | lst e rs=>exact⟨_,_,rfl,SqL.of (h _ _ e),rs⟩
  | _=>cases q
 | own es=>cases q;obtain⟨l,vs,e,_,h1,rs,_⟩:=r;exact⟨l,vs,e,SqL.of h1,rs⟩
 | bor es=>cases q;exact r
 | vw es=>cases q;obtain⟨l,vs,e,h1,rs⟩:=r;exact⟨l,vs,e,SqL.of h1,rs⟩
 | obj o=>cases q
 | bt ds=>cases q
noncomputable def asLt:Ent->Option (List D)
 | .val (.lst ds)=>some ds
 | .own ds=>some ds
 | .vw ds=>some ds
 | _=>none
theorem RepR.toLt{ds:List D}(r:RepR K H0 F H v e)(h:Same F H)(q:asLt e=some ds):∃ l vs,v=.ref l/\H l=some (.lst vs)/\Reps F vs ds:=by
 cases e with
 | val d=>
  cases d with
  | lst es=>
   cases q
   cases (show Rep F v (.lst _) from r) with
   | lst e rs=>exact⟨_,_,rfl,h _ _ e,rs⟩
  | _=>cases q
 | own es=>cases q;obtain⟨l,vs,e,_,h1,rs,_⟩:=r;exact⟨l,vs,e,h1,rs⟩
 | bor es=>cases q
 | vw es=>cases q;exact r
 | obj o=>cases q
 | bt ds=>cases q
end
end L3

namespace L3
open PySem PySem.Spec PyProof.Rows L2
noncomputable abbrev FE:=En->Option Ent
noncomputable abbrev FT:=En->Option Bool
noncomputable abbrev FA:=En->Option (List Ent)
inductive RepRs(K:PySem.W.Frag)(H0 F H:Hp):List V->List Ent->Prop
 | nil:RepRs K H0 F H [] []
 | cons {v:V} {e:Ent} {vs:List V} {es:List Ent}:RepR K H0 F H v e->RepRs K H0 F H vs es->RepRs K H0 F H (v :: vs) (e :: es)
section
variable {K:PySem.W.Frag}{B:Bd}{F H F' H' F2 H2 H0:Hp}
theorem RepRs.earlier(s:Same H0 H):∀ {vs:List V} {es:List Ent},RepRs K H F' H' vs es->RepRs K H0 F' H' vs es
 | _,_,.nil=>.nil
 | _,_,.cons r t=>.cons (r.earlier s) (RepRs.earlier s t)
theorem RepRs.length:∀ {vs:List V} {es:List Ent},RepRs K H0 F H vs es->vs.length=es.length
 | _,_,.nil=>rfl
 | _,_,.cons _ t=>by rw[List.length_cons,List.length_cons,RepRs.length t]
noncomputable def zd2:List Ent->Option (List D)
 | []=>some []
 | e :: es=>(asV e).bind fun d=>(zd2 es).map fun ds=>d :: ds
theorem RepR.frz{v:V}{e:Ent}{d:D}(x:Ex F H F' H')(s:Same F2 F')(r:RepR K H F2 H' v e)(q:asV e=some d):∃ F3,Ex F H F3 H'/\Same F' F3/\Rep F3 v d:=by
 cases e with
 | val d'=>cases q;exact⟨F',x,Same.refl _,Rep.mono s r⟩
 | own ds=>
  cases q
  obtain⟨l,vs,e,h0,h1,rs,h2⟩:=r
  subst e
  cases z:F' l with
  | none=>exact⟨upd F' l (.lst vs),x.freeze h0 h1 z,Same.alloc z,.lst zag (rs.mono (s.trans (Same.alloc z)))⟩
  | some o=>
   have:=x.fh _ _ z
   rw[h1] at this
   cases this
   exact⟨F',x,Same.refl _,.lst z (rs.mono s)⟩
 | _=>cases q
theorem RepRs.frz:∀ {vs:List V} {es:List Ent} {ds:List D} {F':Hp},Ex F H F' H'->Same F2 F'->RepRs K H F2 H' vs es->zd2 es=some ds->∃ F3,Ex F H F3 H'/\Same F' F3/\Reps F3 vs ds
 | _,_,_,F',x,_,.nil,q=>by cases q;exact⟨F',x,Same.refl _,.nil⟩
 | _,e :: es,ds,F',x,s,.cons r t,q=>by
  simp only[zd2] at q
  cases h1:asV e with
  | none=>rw[h1] at q;cases q
  | some d=>
   cases h2:zd2 es with
   | none=>rw[h1,h2] at q;cases q
   | some ds'=>
    rw[h1,h2] at q
    cases q
    obtain⟨F3,x3,s3,r3⟩:=r.frz x s h1
    obtain⟨F4,x4,s4,r4⟩:=RepRs.frz x3 (s.trans s3) t h2
    exact⟨F4,x4,s3.trans s4,.cons (Rep.mono s4 r3) r4⟩
end
noncomputable def SemE(K:PySem.W.Frag)(t:TE)(f:FE):Prop:=∀ (B:Bd) (F H:Hp) (σ:Sg) (δ:En) (r:Ent) (Q:VK),RS K B F H σ δ->f δ=some r->(∀ v F' H',Ex F H F' H'->RepR K H F' H' v r->Q v H')->t σ H Q
noncomputable def SemT(K:PySem.W.Frag)(t:TT)(f:FT):Prop:=∀ (B:Bd) (F H:Hp) (σ:Sg) (δ:En) (b:Bool) (Q:Bool->Hp->Prop),RS K B F H σ δ->f δ=some b->(∀ F' H',Ex F H F' H'->Q b H')->t σ H Q
noncomputable def SemA(K:PySem.W.Frag)(t:TA)(f:FA):Prop:=∀ (B:Bd) (F H:Hp) (σ:Sg) (δ:En) (rs:List Ent) (Q:List V->Hp->Prop),RS K B F H σ δ->f δ=some rs->(∀ vs F' H',Ex F H F' H'->RepRs K H F' H' vs rs->Q vs H')->t σ H Q
structure VE(X:Cx)(e:Expr)(f:FE):Prop where
 h:∃ t,WE X e t/\SemE X.K t f
structure VT(X:Cx)(e:Expr)(f:FT):Prop where
 h:∃ t,WT X e t/\SemT X.K t f
structure VW(X:Cx)(e:Expr)(f:FT):Prop where
 h:∃ t,WW X e t/\SemT X.K t f
structure VA(X:Cx)(es:List Expr)(f:FA):Prop where
 h:∃ t,WA X es t/\SemA X.K t f
structure VTs(X:Cx)(es:List Expr)(f:FT):Prop where
 h:∃ t,WTs X es t/\SemT X.K t f
noncomputable def zab(i:Nat):FE:=fun δ=>match δ[i]? with
 | some (some (.own ds))=>some (.vw ds)
 | some (some (.obj _))=>none
 | some (some e)=>some e
 | _=>none
noncomputable def eC(d:D):FE:=fun _=>some (.val d)
noncomputable def ex1(g:Ent->Option Ent)(fa:FE):FE:=fun δ=>(fa δ).bind g
noncomputable def ex2(g:Ent->Ent->Option Ent)(fa fb:FE):FE:=fun δ=>(fa δ).bind fun x=>(fb δ).bind fun y=>g x y
noncomputable def bOf:Ent->Option Bool
 | .val (.bl b)=>some b
 | _=>none
noncomputable def tOf(fe:FE):FT:=fun δ=>(fe δ).bind bOf
noncomputable def fOr(ft fu:FT):FT:=fun δ=>(ft δ).bind fun b=>if b=true then some true else fu δ
noncomputable def fNot(ft:FT):FT:=fun δ=>(ft δ).map fun b=>!b
noncomputable def zfr:FT:=fun _=>some true
noncomputable def eIf(ft:FT)(fa fb:FE):FE:=fun δ=>(ft δ).bind fun b=>if b=true then fa δ else fb δ
noncomputable def zaf:FA:=fun _=>some []
noncomputable def zaa(fe:FE)(fa:FA):FA:=fun δ=>(fe δ).bind fun x=>(fa δ).map fun xs=>x :: xs
noncomputable def eTup(fa:FA):FE:=fun δ=>(fa δ).bind fun rs=>if rs.length<=1000 then (zd2 rs).map fun ds=>.val (.tup ds) else none
noncomputable def zce(fa:FA):FE:=fun δ=>(fa δ).bind fun rs=>if rs.length<=1000 then (zd2 rs).map fun ds=>.own ds else none
noncomputable def SemR1(K:PySem.W.Frag)(r:V->Hp->VK->Prop)(g:Ent->Option Ent):Prop:=∀ (H0 F H:Hp) (x:V) (e res:Ent) (Q:VK),Same F H->Same H0 H->RepR K H0 F H x e->g e=some res ->
 (∀ v F' H',Ex F H F' H'->RepR K H0 F' H' v res->Q v H')->r x H Q
noncomputable def zg0(K:PySem.W.Frag)(r:R2)(g:Ent->Ent->Option Ent):Prop:=∀ (H0 F H:Hp) (x y:V) (e e' res:Ent) (Q:VK),Same F H->Same H0 H->RepR K H0 F H x e->RepR K H0 F H y e'->g e e'=some res ->
 (∀ v F' H',Ex F H F' H'->RepR K H0 F' H' v res->Q v H')->r x y H Q
noncomputable def SemC(K:PySem.W.Frag)(r:List V->Hp->VK->Prop)(g:List Ent->Option Ent):Prop:=∀ (H0 F H:Hp) (vs:List V) (es:List Ent) (res:Ent) (Q:VK),Same F H->Same H0 H->RepRs K H0 F H vs es->g es=some res ->
 (∀ v F' H',Ex F H F' H'->RepR K H0 F' H' v res->Q v H')->r vs H Q
theorem bind_some{α β:Type}{o:Option α}{f:α->Option β}{b:β}(h:o.bind f=some b):∃ a,o=some a/\f a=some b:=by
 cases o with
 | none=>cases h
 | some a=>exact⟨a,rfl,h⟩
theorem map_some{α β:Type}{o:Option α}{f:α->β}{b:β}(h:o.map f=some b):∃ a,o=some a/\f a=b:=by
 cases o with
 | none=>cases h
 | some a=>exact⟨a,rfl,Option.some.inj h⟩
noncomputable def gif{α:Type}(c:Prop)(a:Option α):Option α:=@ite _ c (Classical.propDecidable c) a none
theorem zae{α:Type}(a:Option α):gif True a=a:=by unfold gif;exact if_pos trivial
theorem gif_pos{α:Type}{c:Prop}{a:Option α}(h:c):gif c a=a:=by unfold gif;exact if_pos h
theorem za0{α:Type}{c:Prop}{o:Option α}{b:α}(h:gif c o=some b):c/\o=some b:=by
 unfold gif at h
 by_cases hc:c
 ·rw[if_pos hc] at h;exact⟨hc,h⟩
 ·rw[if_neg hc] at h;cases h
noncomputable def sz(n:Nat):Prop:=n<=1000000
theorem zbg{n:Nat}(h:n<=1000000):sz n=True:=eq_true h
noncomputable def OpD(X:Cx)(f:Value->Value->Sem Value)(g:Ent->Ent->Option Ent):Prop:=∃ r,OpR X f r/\zg0 X.K r g
noncomputable def UnD(X:Cx)(f:Value->Sem Value)(g:Ent->Option Ent):Prop:=∃ r,UnR X f r/\SemR1 X.K r g
noncomputable def zdO(X:Cx)(f:Value)(g:List Ent->Option Ent):Prop:=∃ r,zcR X f r/\SemC X.K r g
noncomputable def IxD(X:Cx)(g:Ent->Ent->Option Ent):Prop:=∃ r,IxR X r/\zg0 X.K r g
theorem bOf_some{e:Ent}{b:Bool}(h:bOf e=some b):e=.val (.bl b):=by
 cases e with
 | val d=>cases d <;> first | (cases h;rfl) | (cases h)
 | _=>cases h
theorem zgk{F:Hp}{v:V}{b:Bool}(h:Rep F v (.bl b)):v=.bl b:=by cases h;rfl
theorem zaI{F:Hp}{v:V}{i:Int}(h:Rep F v (.int i)):v=.int i:=by cases h;rfl
theorem zb3{F:Hp}{v:V}{i:Str}(h:Rep F v (.str i)):v=.str i:=by cases h;rfl
theorem zfE{F:Hp}{v:V}(h:Rep F v .non):v=.non:=by cases h;rfl
section
variable {X:Cx}{a b c e:Expr}{es rest:List Expr}{pos p:Pos}{fa fb fc:FE}{ft fu:FT}{fs:FA}{x:Str}
theorem vv(i:Nat)(hN:X.N[i]? = some x:=by rfl)(hv:Vis X.env.scope x:=by first | exact Or.inl rfl | exact Or.inr (Or.inl rfl) | exact Or.inr (Or.inr rfl))(hd:(x == ("__debug__" : Str))=false:=by decide)
  (hcd:(x == ("__classdict__" : Str))=false:=by decide):VE X (.Name x pos) (zab i):=by
 refine⟨_,wv i hN hv hd hcd,fun B F H σ δ r Q s q k=>?_⟩
 unfold zab at q
 split at q
 ·rename_i ds e
  cases q
  obtain⟨v,h1,l,vs,e,h2,h3,_⟩:=s.ent i _ e
  exact⟨v,h1,k v F H (Ex.refl s.fh) ⟨l,vs,e,h2,h3⟩⟩
 ·cases q
 ·rename_i ee hne hno e
  cases q
  obtain⟨v,h1,h2⟩:=s.ent i _ e
  refine⟨v,h1,k v F H (Ex.refl s.fh) ?_⟩
  cases r with
  | val d=>exact h2
  | own ds=>exact(hne ds rfl).elim
  | bor ds=>obtain⟨l,vs,e,h,rs⟩:=h2;exact⟨l,vs,e,s.bh.seq h,rs⟩
  | vw ds=>exact h2
  | obj o=>exact(hno o rfl).elim
  | bt ds=>obtain⟨l,vs,e,h,rs⟩:=h2;exact⟨l,vs,e,s.bh.seqT h,rs⟩
 ·cases q
theorem SemE.cst{K:PySem.W.Frag}{v:V}{d:D}(h:∀ F,Rep F v d):SemE K (tC v) (eC d):=fun B F H σ δ r Q s q k=>by
 cases q
 exact k v F H (Ex.refl s.fh) (h F)
theorem zaF{i:Int}{j:Nat}:VE X (.Constant (.int i) j pos) (eC (.int i)):=⟨_,wint,.cst fun _=>.int i⟩
theorem vbl{i:Bool}{j:Nat}:VE X (.Constant (.bool i) j pos) (eC (.bl i)):=⟨_,wbl,.cst fun _=>.bl i⟩
theorem vnon{j:Nat}:VE X (.Constant .none j pos) (eC .non):=⟨_,wnon,.cst fun _=>.non⟩
theorem vstr{i:Str}{j:Nat}:VE X (.Constant (.str i) j pos) (eC (.str i)):=⟨_,wstr,.cst fun _=>.str i⟩
theorem vglI{i:Int}(hg:Gl X x)(h:∃ u,X.mg x=some u/\RelV (.int i) u)(hd:(x == ("__debug__" : Str))=false:=by decide):VE X (.Name x pos) (eC (.int i)):=⟨_,wgl hg h hd,.cst fun _=>.int i⟩
theorem SemE.op{K:PySem.W.Frag}{r:R2}{ta tb:TE}{g:Ent->Ent->Option Ent}(hr:zg0 K r g)(ha:SemE K ta fa)(hb:SemE K tb fb):SemE K (tOp r ta tb) (ex2 g fa fb):=fun B F H σ δ res Q s q k=>by
 obtain⟨ex1,q1,q⟩:=bind_some q
 obtain⟨ex2,q2,q⟩:=bind_some q
 refine ha B F H σ δ ex1 _ s q1 fun v F1 H1 x1 r1=>?_
 refine hb B F1 H1 σ δ ex2 _ (s.ext x1) q2 fun w F2 H2 x2 r2=>?_
 exact hr H F2 H2 v w ex1 ex2 res Q x2.fh (x1.trans x2).hh (r1.ext x2) (r2.earlier x1.hh) q fun v' F' H' x3 r3=>k v' F' H' ((x1.trans x2).trans x3) r3
theorem vop{op:Operator}{g:Ent->Ent->Option Ent}(ho:OpD X (binaryOp op) g)(ha:VE X a fa)(hb:VE X b fb):VE X (.BinOp a op b pos) (ex2 g fa fb):=
 let⟨_,wa,sa⟩:=ha.h;let⟨_,wb,sb⟩:=hb.h;let⟨_,h1,h2⟩:=ho;⟨_,wop h1 wa wb,.op h2 sa sb⟩
theorem vcmp{op:CmpOp}{g:Ent->Ent->Option Ent}(ho:OpD X (compareOp op) g)(ha:VE X a fa)(hb:VE X b fb)(hm:behindInMarks op b=false):VE X (.Compare a [op] [b] pos) (ex2 g fa fb):=
 let⟨_,wa,sa⟩:=ha.h;let⟨_,wb,sb⟩:=hb.h;let⟨_,h1,h2⟩:=ho;⟨_,wcmp h1 wa wb hm,.op h2 sa sb⟩
theorem SemE.test{K:PySem.W.Frag}{ta:TE}(ha:SemE K ta fa):SemT K (tB ta) (tOf fa):=fun B F H σ δ b Q s q k=>by
 obtain⟨e,q1,q⟩:=bind_some q
 cases bOf_some q
 refine ha B F H σ δ _ _ s q1 fun v F1 H1 x1 r1=>?_
 exact⟨b,zgk r1,k F1 H1 x1⟩
theorem tcm{op:CmpOp}{g:Ent->Ent->Option Ent}(ho:OpD X (compareOp op) g)(ha:VE X a fa)(hb:VE X b fb)(hm:behindInMarks op b=false):VT X (.Compare a [op] [b] pos) (tOf (ex2 g fa fb)):=
 let⟨_,wa,sa⟩:=ha.h;let⟨_,wb,sb⟩:=hb.h;let⟨_,h1,h2⟩:=ho;⟨_,tcmp h1 wa wb hm,SemE.test (.op h2 sa sb)⟩
theorem tva(h:VE X e fa)(he:∀ whole,isTrue e X.env whole=(do let v <- whole;standAt e.pos;holding [v] (truthy v)):=by intro _;rfl):VT X e (tOf fa):=
 let⟨_,wa,sa⟩:=h.h;⟨_,tval wa he,SemE.test sa⟩
theorem vun{op:UnaryOp}{g:Ent->Option Ent}(ho:UnD X (unaryOp op) g)(ha:VE X a fa):VE X (.UnaryOp op a pos) (ex1 g fa):=by
 obtain⟨ta,wa,sa⟩:=ha.h
 obtain⟨rr,ho1,ho2⟩:=ho
 refine⟨_,wun ho1 wa,fun B F H σ δ res Q s q k=>?_⟩
 obtain⟨ex1,q1,q⟩:=bind_some q
 exact sa B F H σ δ ex1 _ s q1 fun v F1 H1 x1 r1=>ho2 H F1 H1 v ex1 res Q x1.fh x1.hh r1 q fun v' F' H' x2 r2=>k v' F' H' (x1.trans x2) r2
theorem tor1'(ha:VT X a ft):VW X (.BoolOp .Or [a] pos) ft:=let⟨_,wa,sa⟩:=ha.h;⟨_,tor1 wa,sa⟩
theorem tor'(ha:VT X a ft)(hb:VW X (.BoolOp .Or (b :: rest) pos) fu):VW X (.BoolOp .Or (a :: b :: rest) pos) (fOr ft fu):=by
 obtain⟨ta,wa,sa⟩:=ha.h
 obtain⟨tb,wb,sb⟩:=hb.h
 refine⟨_,tor wa wb,fun B F H σ δ res Q s q k=>?_⟩
 obtain⟨bb,q1,q⟩:=bind_some q
 refine sa B F H σ δ bb _ s q1 fun F1 H1 x1=>?_
 cases bb with
 | false=>exact iteF (sb B F1 H1 σ δ res Q (s.ext x1) q fun F' H' x2=>k F' H' (x1.trans x2))
 | true=>cases q;exact iteT (k F1 H1 x1)
theorem tww(h:VW X a ft):VT X a ft:=let⟨_,wa,sa⟩:=h.h;⟨_,tw wa,sa⟩
theorem tnt(ha:VT X a ft):VT X (.UnaryOp .Not a pos) (fNot ft):=by
 obtain⟨ta,wa,sa⟩:=ha.h
 refine⟨_,tnot wa,fun B F H σ δ res Q s q k=>?_⟩
 obtain⟨bb,q1,q⟩:=map_some q
 cases q
 exact sa B F H σ δ bb _ s q1 fun F1 H1 x1=>k F1 H1 x1
theorem vif(hc:VT X c ft)(ha:VE X a fa)(hb:VE X b fb):VE X (.IfExp c a b pos) (eIf ft fa fb):=by
 obtain⟨tc,wc,sc⟩:=hc.h
 obtain⟨ta,wa,sa⟩:=ha.h
 obtain⟨tb,wb,sb⟩:=hb.h
 refine⟨_,wif wc wa wb,fun B F H σ δ res Q s q k=>?_⟩
 obtain⟨bb,q1,q⟩:=bind_some q
 refine sc B F H σ δ bb _ s q1 fun F1 H1 x1=>?_
 cases bb with
 | true=>exact iteT (sa B F1 H1 σ δ res Q (s.ext x1) q fun v' F' H' x2 r2=>k v' F' H' (x1.trans x2) (r2.earlier x1.hh))
 | false=>exact iteF (sb B F1 H1 σ δ res Q (s.ext x1) q fun v' F' H' x2 r2=>k v' F' H' (x1.trans x2) (r2.earlier x1.hh))
theorem if0:VTs X [] zfr:=⟨_,ifs0,fun B F H σ δ b Q s q k=>by cases q;exact k F H (Ex.refl s.fh)⟩
theorem if1(h:VT X c ft):VTs X [c] ft:=let⟨_,wc,sc⟩:=h.h;⟨_,ifs1 wc,sc⟩
theorem zaT:VA X [] zaf:=⟨_,wnil,fun B F H σ δ rs Q s q k=>by cases q;exact k [] F H (Ex.refl s.fh) .nil⟩
theorem zad(ha:VE X e fa)(hr:VA X es fs)(h:zak e=true:=by rfl):VA X (e :: es) (zaa fa fs):=by
 obtain⟨ta,wa,sa⟩:=ha.h
 obtain⟨tb,wb,sb⟩:=hr.h
 refine⟨_,wac wa wb h,fun B F H σ δ rs Q s q k=>?_⟩
 obtain⟨ex1,q1,q⟩:=bind_some q
 obtain⟨es',q2,q⟩:=map_some q
 cases q
 refine sa B F H σ δ ex1 _ s q1 fun v F1 H1 x1 r1=>?_
 exact sb B F1 H1 σ δ es' _ (s.ext x1) q2 fun vs F2 H2 x2 r2=>k _ F2 H2 (x1.trans x2) (.cons (r1.ext x2) (r2.earlier x1.hh))
theorem zf8{n:Nat}(h:n<=1000):n<=sizeLine:=Nat.le_of_lt (small1000 h)
theorem vtup{x1:Nat}(h:VA X es fs):VE X (.Tuple es x1 pos) (eTup fs):=by
 obtain⟨t,w,sm⟩:=h.h
 refine⟨_,wtup w,fun B F H σ δ res Q s q k=>?_⟩
 obtain⟨rs,q1,q⟩:=bind_some q
 split at q
 ·rename_i hl
  obtain⟨ds,q2,q⟩:=map_some q
  cases q
  refine sm B F H σ δ rs _ s q1 fun vs F1 H1 x1 r1=>⟨by rw[r1.length];exact zf8 hl,fun p hp=>?_⟩
  obtain⟨F2,x2,_,r2⟩:=RepRs.frz x1 (Same.refl _) r1 q2
  exact k _ _ _ (x2.trans (Ex.alloc x2.fh hp)) (.tup zag (r2.mono (Same.alloc (x2.fh.free hp))))
 ·cases q
theorem zfB(h:VA X es fs):VE X (.List es pos) (zce fs):=by
 obtain⟨t,w,sm⟩:=h.h
 refine⟨_,wlst w,fun B F H σ δ res Q s q k=>?_⟩
 obtain⟨rs,q1,q⟩:=bind_some q
 split at q
 ·rename_i hl
  obtain⟨ds,q2,q⟩:=map_some q
  cases q
  refine sm B F H σ δ rs _ s q1 fun vs F1 H1 x1 r1=>⟨by rw[r1.length];exact zf8 hl,fun p hp=>?_⟩
  obtain⟨F2,x2,_,r2⟩:=RepRs.frz x1 (Same.refl _) r1 q2
  exact k _ _ _ (x2.trans (Ex.lay x2.fh hp)) ⟨p,vs,rfl,x2.hh.free hp,zag,r2,x2.fh.free hp⟩
 ·cases q
theorem vix{g:Ent->Ent->Option Ent}(hr:IxD X g)(ha:VE X a fa)(hb:VE X b fb)(hs:zfN b):VE X (.Subscript a b pos) (ex2 g fa fb):=
 let⟨_,wa,sa⟩:=ha.h;let⟨_,wb,sb⟩:=hb.h;let⟨_,h1,h2⟩:=hr;⟨_,wix h1 wa wb hs,.op h2 sa sb⟩
noncomputable def eCB(g:List Ent->Option Ent)(fs:FA):FE:=fun δ=>(fs δ).bind g
theorem SemE.cb{K:PySem.W.Frag}{t:TA}{q:List V->Hp->VK->Prop}{g:List Ent->Option Ent}(hc:SemC K q g)(ha:SemA K t fs):SemE K (tCB q t) (eCB g fs):=fun B F H σ δ res Q s q k=>by
 obtain⟨rs,q1,q⟩:=bind_some q
 exact ha B F H σ δ rs _ s q1 fun vs F1 H1 x1 r1=>hc H F1 H1 vs rs res Q x1.fh x1.hh r1 q fun v' F' H' x2 r2=>k v' F' H' (x1.trans x2) r2
theorem vcb{id:String}{g:List Ent->Option Ent}(hc:zdO X (.builtin id) g)(hg:Gl X x)(hm:X.mg x=none)(hv:bootBuiltins x=some (.builtin id))(ha:VA X (e :: es) fs)(hn:x ≠ "__name__" :=by decide)(hdb:(x == ("__debug__" : Str))=false:=by decide)
  (h1:zak e=true:=by rfl) (h2:es.all zak=true:=by rfl):VE X (.Call (.Name x p) (e :: es) [] pos) (eCB g fs):=
 let⟨_,wa,sa⟩:=ha.h;let⟨_,h3,h4⟩:=hc;⟨_,wcb h3 hg hm hv wa hn hdb h1 h2,.cb h4 sa⟩
theorem vct{T:String}{g:List Ent->Option Ent}(hc:zdO X (.type T) g)(hg:Gl X x)(hm:X.mg x=none)(hv:bootBuiltins x=some (.type T))(ha:VA X (e :: es) fs)(hn:x ≠ "__name__" :=by decide)(hdb:(x == ("__debug__" : Str))=false:=by decide)
  (h1:zak e=true:=by rfl) (h2:es.all zak=true:=by rfl):VE X (.Call (.Name x p) (e :: es) [] pos) (eCB g fs):=
 let⟨_,wa,sa⟩:=ha.h;let⟨_,h3,h4⟩:=hc;⟨_,wct h3 hg hm hv wa hn hdb h1 h2,.cb h4 sa⟩
end
end L3

namespace L3
open PySem PySem.Spec PyProof.Rows L2
inductive Out where
 | nx (δ:En) | rt (r:Ent) (δ:En) | bk (δ:En) | ct (δ:En)
noncomputable abbrev FS:=En->Option Out
structure FX(B F F':Hp):Prop where
 ff:Same F F'
 nw:∀ a o,B a=some o->isT o=false->F' a=F a
section
variable {K:PySem.W.Frag}{B:Bd}{F H F' H' F2 H2 H0:Hp}{σ:Sg}{δ:En}{v:V}{d:D}{e:Ent}{l:Addr}{vs:List V}{ds:List D}{DD:Ends}{out:Out}
theorem FX.refl:FX B F F:=⟨Same.refl F,fun _ _ _ _=>rfl⟩
theorem FX.trans(a:FX B F F')(b:FX B F' F2):FX B F F2:=⟨a.ff.trans b.ff,fun x o e t=>(b.nw x o e t).trans (a.nw x o e t)⟩
theorem FX.of(x:Ex F H F' H')(s:Same B H):FX B F F':=⟨x.ff,fun a o e t=>x.nw a o (s _ _ e) t⟩
noncomputable def EndOk(K:PySem.W.Frag)(B:Bd)(F:Hp)(DD:Ends):Out->Prop
 | .nx δ'=>∀ σ' F' H',RS K B F' H' σ' δ'->FX B F F'->DD.nx σ' H'
 | .rt r δ'=>∀ v σ' F' H',RS K B F' H' σ' δ'->FX B F F'->RepR K B F' H' v r->DD.rt v H'
 | .bk δ'=>∀ σ' F' H',RS K B F' H' σ' δ'->FX B F F'->DD.bk σ' H'
 | .ct δ'=>∀ σ' F' H',RS K B F' H' σ' δ'->FX B F F'->DD.ct σ' H'
theorem EndOk.mono(h:EndOk K B F DD out)(x:FX B F F'):EndOk K B F' DD out:=by
 cases out with
 | nx δ'=>exact fun σ' F2 H2 s y=>h σ' F2 H2 s (x.trans y)
 | rt r δ'=>exact fun v σ' F2 H2 s y z=>h v σ' F2 H2 s (x.trans y) z
 | bk δ'=>exact fun σ' F2 H2 s y=>h σ' F2 H2 s (x.trans y)
 | ct δ'=>exact fun σ' F2 H2 s y=>h σ' F2 H2 s (x.trans y)
theorem RS.put(s:RS K B F H σ δ)(i:Nat)(r:RepN K B F H v e)(hne:e.lk=true->∀ j e',j ≠ i->δ[j]? = some (some e')->e'.lk=true->∀ l,v=.ref l->σ[j]? ≠ some (some (.ref l)))
  (hpn:e.isO=true->0<i \/ (∀ p,B.pin ≠ some p) \/ B.pin=some v) (hno:∀ j e' w a,j ≠ i->δ[j]? = some (some e')->σ[j]? = some (some w)->(e.isO=true \/ e'.isO=true)->Occ K F H v e a->Occ K F H w e' a->False) :
  RS K B F H (σ.set i (some v)) (δ.set i (some e)):=by
 have hl:=s.len
 refine⟨s.fh,s.bh,by simp[hl],fun j e' h=>?_,fun a b l ds e' hab h1 h2 h3 h4 h5=>?_,fun a b e1 e2 v1 v2 ad hab h1 h2 h3 h4 h5 h6 h7=>?_,fun w o hw ho=>?_⟩
 ·rw[List.getElem?_set] at h ⊢
  by_cases hij:i=j
  ·subst hij
   rw[if_pos rfl] at h ⊢
   by_cases hi:i<δ.length
   ·rw[if_pos hi] at h
    cases h
    exact⟨v,by rw[if_pos (by lia)],r⟩
   ·rw[if_neg hi] at h;cases h
  ·rw[if_neg hij] at h ⊢
   exact s.ent j e' h
 ·rw[List.getElem?_set] at h1 h2 h3 h5
  by_cases hia:i=a
  ·subst hia
   rw[if_pos rfl] at h1 h2
   rw[if_neg hab] at h3 h5
   by_cases hi:i<δ.length
   ·rw[if_pos hi] at h1
    rw[if_pos (by lia)] at h2
    cases h1
    cases h2
    exact hne rfl b e' (Ne.symm hab) h3 h4 l rfl h5
   ·rw[if_neg hi] at h1;cases h1
  ·rw[if_neg hia] at h1 h2
   by_cases hib:i=b
   ·subst hib
    rw[if_pos rfl] at h3 h5
    by_cases hi:i<δ.length
    ·rw[if_pos hi] at h3
     rw[if_pos (by lia)] at h5
     cases h3
     cases h5
     exact hne h4 a _ hab h1 rfl l rfl h2
    ·rw[if_neg hi] at h3;cases h3
   ·rw[if_neg hib] at h3 h5
    exact s.ap a b l ds e' hab h1 h2 h3 h4 h5
 ·rw[List.getElem?_set] at h1 h2 h3 h4
  by_cases hia:i=a
  ·subst hia
   rw[if_pos rfl] at h1 h2
   rw[if_neg hab] at h3 h4
   by_cases hi:i<δ.length
   ·rw[if_pos hi] at h1
    rw[if_pos (by lia)] at h2
    cases h1
    cases h2
    exact hno b _ _ ad (Ne.symm hab) h3 h4 (.inl h5) h6 h7
   ·rw[if_neg hi] at h1;cases h1
  ·rw[if_neg hia] at h1 h2
   by_cases hib:i=b
   ·subst hib
    rw[if_pos rfl] at h3 h4
    by_cases hi:i<δ.length
    ·rw[if_pos hi] at h3
     rw[if_pos (by lia)] at h4
     cases h3
     cases h4
     exact hno a _ _ ad hab h1 h2 (.inr h5) h7 h6
    ·rw[if_neg hi] at h3;cases h3
   ·rw[if_neg hib] at h3 h4
    exact s.ao a b e1 e2 v1 v2 ad hab h1 h2 h3 h4 h5 h6 h7
 ·rw[List.getElem?_set] at ho ⊢
  by_cases hi:i=0
  ·subst hi
   rw[if_pos rfl] at ho ⊢
   split at ho
   ·cases ho
    rw[if_pos (by lia)]
    rcases hpn rfl with z | z | z
    ·lia
    ·exact absurd hw (z w)
    ·rw[hw] at z;exact congrArg (fun x=>some x) z.symm
   ·cases ho
  ·rw[if_neg hi] at ho ⊢
   exact s.pn w o hw ho
theorem RS.putV(s:RS K B F H σ δ)(i:Nat)(r:Rep F v d):RS K B F H (σ.set i (some v)) (δ.set i (some (.val d))):=s.put i r (fun h=>by cases h) (fun h=>by cases h) fun _ _ _ _ _ _ _ _ h _=>h
theorem RS.drop(s:RS K B F H σ δ)(i:Nat):RS K B F H σ (δ.set i none):=by
 refine⟨s.fh,s.bh,by simp[s.len],fun j e h=>?_,fun a b l ds e hab h1 h2 h3 h4=>?_,fun a b e1 e2 v1 v2 ad hab h1 h2 h3 h4 h5 h6 h7=>?_,fun w o hw ho=>?_⟩
 ·rw[List.getElem?_set] at h
  split at h
  ·split at h <;> cases h
  ·exact s.ent j e h
 ·rw[List.getElem?_set] at h1 h3
  split at h1
  ·split at h1 <;> cases h1
  ·split at h3
   ·split at h3 <;> cases h3
   ·exact s.ap a b l ds e hab h1 h2 h3 h4
 ·rw[List.getElem?_set] at h1 h3
  split at h1
  ·split at h1 <;> cases h1
  ·split at h3
   ·split at h3 <;> cases h3
   ·exact s.ao a b e1 e2 v1 v2 ad hab h1 h2 h3 h4 h5 h6 h7
 ·rw[List.getElem?_set] at ho
  split at ho
  ·split at ho <;> cases ho
  ·exact s.pn w o hw ho
theorem RS.lies{i:Nat}(s:RS K B F H σ δ)(h:δ[i]? = some (some e))(k:e.lk=true)(q:σ[i]? = some (some (.ref l))):∃ o,H l=some o:=by
 obtain⟨v,h1,h2⟩:=s.ent i e h
 rw[q] at h1
 cases h1
 cases e with
 | own ds=>obtain⟨l',vs,e,h3,_⟩:=h2;cases e;exact⟨_,h3⟩
 | vw ds=>obtain⟨l',vs,e,h3,_⟩:=h2;cases e;exact⟨_,h3⟩
 | _=>cases k
noncomputable def toN:Ent->Option Ent
 | .val d=>some (.val d)
 | .own ds=>some (.own ds)
 | _=>none
theorem RS.putR{e':Ent}(s:RS K B F H σ δ)(x:Ex F H F' H')(i:Nat)(r:RepR K H F' H' v e)(q:toN e=some e'):RS K B F' H' (σ.set i (some v)) (δ.set i (some e')):=by
 cases e with
 | val d=>cases q;exact(s.ext x).putV i r
 | own ds=>
  cases q
  obtain⟨l,vs,e,h0,h1,rs,h2⟩:=r
  refine(s.ext x).put i ⟨l,vs,e,h1,rs,h2,s.bh.free h0⟩ (fun _ j e' _ h3 h4 l' ex2 h5=>?_) (fun z=>by cases z) fun j e' w a _ h3 h4 _ h5 h6=>?_
  ·rw[e] at ex2
   cases ex2
   obtain⟨o,h6⟩:=s.lies h3 h4 h5
   rw[h0] at h6
   cases h6
  ·obtain⟨u,h7⟩:=s.occ h3 h4 (h6.backX (s.at h3 h4) x)
   rw[e] at h5
   cases (show V.ref l=.ref a from h5)
   rw[h0] at h7
   cases h7
 | _=>cases q
theorem RS.putO{o:OT}(s:RS K B F H σ δ)(x:Ex F H F' H')(i:Nat)(h0:0<i)(r:RepR K H F' H' v (.obj o)):RS K B F' H' (σ.set i (some v)) (δ.set i (some (.obj o))):=by
 obtain⟨_,A,t,n,h⟩:=r
 refine(s.ext x).put i ⟨A,t,n,fun a ha=>⟨(h a ha).1,s.bh.free (h a ha).2⟩⟩ (fun z=>by cases z) (fun _=>.inl h0) fun j e' w a _ h3 h4 _ h5 h6=>?_
 obtain⟨u,h7⟩:=s.occ h3 h4 (h6.backX (s.at h3 h4) x)
 obtain⟨A',t',h5⟩:=h5
 rw[t'.det t] at h5
 rw[(h a h5).2] at h7
 cases h7
theorem RS.mut{i:Nat}{ds':List D}{vs':List V}(s:RS K B F H σ δ)(hi:δ[i]? = some (some (.own ds)))(hs:σ[i]? = some (some (.ref l)))(r:Reps F vs' ds'):RS K B F (upd H l (.lst vs')) σ (δ.set i (some (.own ds'))):=by
 obtain⟨v,h1,l',vs,e,h2,h3,h4,h5⟩:=s.ent i _ hi
 rw[hs] at h1
 cases h1
 cases e
 have mv:∀ (j:Nat) (w:V) (o:OT) (A:List Addr),i ≠ j->δ[j]? = some (some (.obj o))->σ[j]? = some (some w)->TR K F H w o A->TR K F (upd H l (.lst vs')) w o A:=fun j w o A hij q q' t=>
  t.move (Same.refl F) fun a ha=>zaj fun z=>by subst z;exact s.ao j i _ _ _ _ a (Ne.symm hij) q q' hi hs rfl ⟨A,t,ha⟩ rfl
 refine⟨fun b o q=>?_,fun b o q=>?_,by simp[s.len],fun j e q=>?_,fun a b l2 es e' hab q1 q2 q3 q4=>?_,fun a b e1 e2 v1 v2 ad hab q1 q2 q3 q4 q5 q6 q7=>?_,fun w o hw ho=>?_⟩
 ·rw[zaj (zaE q h4)];exact s.fh b o q
 ·rw[zaj (zaE q h5)];exact s.bh b o q
 ·rw[List.getElem?_set] at q
  by_cases hij:i=j
  ·subst hij
   rw[if_pos rfl] at q
   split at q
   ·cases q;exact⟨_,hs,l,vs',rfl,zag,r,h4,h5⟩
   ·cases q
  ·rw[if_neg hij] at q
   obtain⟨w,p1,p2⟩:=s.ent j e q
   refine⟨w,p1,?_⟩
   cases e with
   | val d=>exact p2
   | bor ds=>exact p2
   | own es=>
    obtain⟨l2,ws,ex2,p3,p4⟩:=p2
    refine⟨l2,ws,ex2,?_,p4⟩
    rw[zaj (fun z=>s.ap i j l ds _ hij hi hs q rfl (by rw[p1,ex2,z]))]
    exact p3
   | vw es=>
    obtain⟨l2,ws,ex2,p3,p4⟩:=p2
    refine⟨l2,ws,ex2,?_,p4⟩
    rw[zaj (fun z=>s.ap i j l ds _ hij hi hs q rfl (by rw[p1,ex2,z]))]
    exact p3
   | obj o=>
    obtain⟨A,t,n,h⟩:=p2
    exact⟨A,mv j w o A hij q p1 t,n,h⟩
   | bt ds=>exact p2
 ·rw[List.getElem?_set] at q1 q3
  by_cases hia:i=a
  ·subst hia
   rw[if_neg hab] at q3
   exact s.ap i b l2 ds e' hab hi q2 q3 q4
  ·rw[if_neg hia] at q1
   by_cases hib:i=b
   ·subst hib
    exact s.ap a i l2 es _ hab q1 q2 hi rfl
   ·rw[if_neg hib] at q3
    exact s.ap a b l2 es e' hab q1 q2 q3 q4
 ·rw[List.getElem?_set] at q1 q3
  have bk:∀ (j:Nat) (e:Ent) (w:V),i ≠ j->δ[j]? = some (some e)->σ[j]? = some (some w)->Occ K F (upd H l (.lst vs')) w e ad->Occ K F H w e ad:=fun j e w hij z1 z2 z3=>z3.back (s.at z1 z2) fun o A he t=>by
   subst he;exact mv j w o A hij z1 z2 t
  by_cases hia:i=a
  ·subst hia
   rw[if_pos rfl] at q1
   split at q1
   ·cases q1;cases q5
   ·cases q1
  ·rw[if_neg hia] at q1
   by_cases hib:i=b
   ·subst hib
    rw[if_pos rfl] at q3
    split at q3
    ·cases q3
     rw[hs] at q4
     cases q4
     exact s.ao a i e1 _ v1 _ ad hab q1 q2 hi hs q5 (bk a e1 v1 hia q1 q2 q6) q7
    ·cases q3
   ·rw[if_neg hib] at q3
    exact s.ao a b e1 e2 v1 v2 ad hab q1 q2 q3 q4 q5 (bk a e1 v1 hia q1 q2 q6) (bk b e2 v2 hib q3 q4 q7)
 ·rw[List.getElem?_set] at ho
  split at ho
  ·split at ho <;> cases ho
  ·exact s.pn w o hw ho
theorem RS.frz{i:Nat}(s:RS K B F H σ δ)(hi:δ[i]? = some (some (.own ds))):∃ F',FX B F F'/\RS K B F' H σ (δ.set i (some (.val (.lst ds)))):=by
 obtain⟨v,h1,l,vs,e,h2,h3,h4,h5⟩:=s.ent i _ hi
 subst e
 refine⟨upd F l (.lst vs),⟨Same.alloc h4,fun a o e _=>zaj (zaE e h5)⟩,?_⟩
 have sm:Same F (upd F l (.lst vs)):=Same.alloc h4
 refine⟨fun b o q=>?_,s.bh,by simp[s.len],fun j e q=>?_,fun a b l2 es e' hab q1 q2 q3 q4=>?_,fun a b e1 e2 v1 v2 ad hab q1 q2 q3 q4 q5 q6 q7=>?_,fun w o hw ho=>?_⟩
 ·by_cases hb:b=l
  ·subst hb;rw[zag] at q;cases q;exact h2
  ·rw[zaj hb] at q;exact s.fh b o q
 ·rw[List.getElem?_set] at q
  by_cases hij:i=j
  ·subst hij
   rw[if_pos rfl] at q
   split at q
   ·cases q;exact⟨_,h1,.lst zag (h3.mono sm)⟩
   ·cases q
  ·rw[if_neg hij] at q
   obtain⟨w,p1,p2⟩:=s.ent j e q
   refine⟨w,p1,?_⟩
   cases e with
   | val d=>exact Rep.mono sm p2
   | bor es=>obtain⟨l2,ws,ex2,p3,p4⟩:=p2;exact⟨l2,ws,ex2,p3,p4.mono sm⟩
   | own es=>
    obtain⟨l2,ws,ex2,p3,p4,p5,p6⟩:=p2
    refine⟨l2,ws,ex2,p3,p4.mono sm,?_,p6⟩
    rw[zaj (fun z=>s.ap i j l ds _ hij hi h1 q rfl (by rw[p1,ex2,z]))]
    exact p5
   | vw es=>obtain⟨l2,ws,ex2,p3,p4⟩:=p2;exact⟨l2,ws,ex2,p3,p4.mono sm⟩
   | obj o=>
    obtain⟨A,t,n,h⟩:=p2
    refine⟨A,t.move sm fun _ _=>rfl,n,fun a ha=>⟨?_,(h a ha).2⟩⟩
    rw[zaj (fun z=>by subst z;exact s.ao j i _ _ _ _ a (Ne.symm hij) q p1 hi h1 rfl ⟨A,t,ha⟩ rfl)]
    exact(h a ha).1
   | bt es=>obtain⟨l2,ws,ex2,p3,p4⟩:=p2;exact⟨l2,ws,ex2,p3,p4.mono sm⟩
 ·rw[List.getElem?_set] at q1 q3
  by_cases hia:i=a
  ·subst hia
   rw[if_pos rfl] at q1
   split at q1 <;> cases q1
  ·rw[if_neg hia] at q1
   by_cases hib:i=b
   ·subst hib
    rw[if_pos rfl] at q3
    split at q3
    ·cases q3;cases q4
    ·cases q3
   ·rw[if_neg hib] at q3
    exact s.ap a b l2 es e' hab q1 q2 q3 q4
 ·rw[List.getElem?_set] at q1 q3
  by_cases hia:i=a
  ·subst hia
   rw[if_pos rfl] at q1
   split at q1
   ·cases q1;cases q5
   ·cases q1
  ·rw[if_neg hia] at q1
   have b1:=q6.back (s.at q1 q2) fun o A _ t=>t.move sm fun _ _=>rfl
   by_cases hib:i=b
   ·subst hib
    rw[if_pos rfl] at q3
    split at q3
    ·cases q3;exact q7
    ·cases q3
   ·rw[if_neg hib] at q3
    exact s.ao a b e1 e2 v1 v2 ad hab q1 q2 q3 q4 q5 b1 (q7.back (s.at q3 q4) fun o A _ t=>t.move sm fun _ _=>rfl)
 ·rw[List.getElem?_set] at ho
  split at ho
  ·split at ho <;> cases ho
  ·exact s.pn w o hw ho
end
noncomputable def SemS(K:PySem.W.Frag)(t:TS)(f:FS):Prop:=∀ (B:Bd) (F H:Hp) (σ:Sg) (δ:En) (out:Out) (DD:Ends),RS K B F H σ δ->f δ=some out->EndOk K B F DD out->t DD σ H
structure VS(X:Cx)(s:Stmt)(f:FS):Prop where
 h:∃ t,WS X s t/\SemS X.K t f
structure VSs(X:Cx)(s:List Stmt)(f:FS):Prop where
 h:∃ t,WSs X s t/\SemS X.K t f
noncomputable def fNx:FS:=fun δ=>some (.nx δ)
noncomputable def sqO(g:FS):Out->Option Out
 | .nx δ=>g δ
 | o=>some o
noncomputable def zbb(f g:FS):FS:=fun δ=>(f δ).bind (sqO g)
noncomputable def zcp(i:Nat)(fe:FE):FS:=fun δ=>(fe δ).bind fun r=>(toN r).map fun e=>.nx (δ.set i (some e))
noncomputable def fIf(ft:FT)(f g:FS):FS:=fun δ=>(ft δ).bind fun b=>if b=true then f δ else g δ
noncomputable def zb7(fe:FE):FS:=fun δ=>(fe δ).bind fun r=>(toN r).map fun e=>.rt e δ
noncomputable def fRetV(i:Nat):FS:=fun δ=>match δ[i]? with
 | some (some (.own ds))=>some (.rt (.own ds) (δ.set i none))
 | some (some (.val d))=>some (.rt (.val d) δ)
 | _=>none
noncomputable def fFrz(i:Nat)(g:FS):FS:=fun δ=>match δ[i]? with
 | some (some (.own ds))=>g (δ.set i (some (.val (.lst ds))))
 | _=>none
noncomputable def zgV(i:Nat)(fe:FE):FS:=fun δ=>match δ[i]? with
 | some (some (.own ds))=>((fe δ).bind asV).bind fun d=>gif (sz (ds.length+1)) (some (.nx (δ.set i (some (.own (ds ++ [d]))))))
 | _=>none
noncomputable def iOf:Ent->Option Int
 | .val (.int i)=>some i
 | _=>none
theorem zaw{e:Ent}{i:Int}(h:iOf e=some i):e=.val (.int i):=by
 cases e with
 | val d=>cases d <;> first | (cases h;rfl) | (cases h)
 | _=>cases h
noncomputable def fSIx(i:Nat)(fi fe:FE):FS:=fun δ=>match δ[i]? with
 | some (some (.own ds))=>((fe δ).bind asV).bind fun d=>((fi δ).bind iOf).bind fun k=>(ixN ds.length k).map fun j=>.nx (δ.set i (some (.own (ds.set j d))))
 | _=>none
noncomputable abbrev FG:=D->En->Option En
noncomputable def lpO(lp:En->Option Out):Out->Option Out
 | .nx δ=>lp δ
 | .ct δ=>lp δ
 | .bk δ=>some (.nx δ)
 | o=>some o
noncomputable def loop(tg:FG)(f:FS):List D->En->Option Out
 | [],δ=>some (.nx δ)
 | d :: ds,δ=>(tg d δ).bind fun δ1=>(f δ1).bind (lpO (loop tg f ds))
noncomputable abbrev FI:=En->Option (List D)
noncomputable def zeY(fi:FI)(tg:FG)(f:FS):FS:=fun δ=>(fi δ).bind fun ds=>loop tg f ds δ
noncomputable def whl(c:FT)(f:FS):Nat->En->Option Out
 | 0,_=>none
 | n+1,δ=>(c δ).bind fun b=>if b=true then (f δ).bind (lpO (whl c f n)) else some (.nx δ)
noncomputable def gNm(i:Nat):FG:=fun d δ=>some (δ.set i (some (.val d)))
noncomputable abbrev FGs:=List D->En->Option En
noncomputable def SemG(K:PySem.W.Frag)(g:TG)(tg:FG):Prop:=∀ (B:Bd) (F H:Hp) (σ:Sg) (δ δ':En) (v:V) (d:D) (Q:L2.St->Hp->Prop),RS K B F H σ δ->Rep F v d->tg d δ=some δ'->(∀ σ',RS K B F H σ' δ'->Q σ' H)->g v σ H Q
noncomputable def SemGs(K:PySem.W.Frag)(g:TGs)(tg:FGs):Prop:=∀ (B:Bd) (F H:Hp) (σ:Sg) (δ δ':En) (vs:List V) (ds:List D) (Q:L2.St->Hp->Prop),RS K B F H σ δ->Reps F vs ds->tg ds δ=some δ'->(∀ σ',RS K B F H σ' δ'->Q σ' H)->g vs σ H Q
structure VG(X:Cx)(e:Expr)(f:FG):Prop where
 h:∃ t,WG X e t/\SemG X.K t f
structure VGs(X:Cx)(es:List Expr)(f:FGs):Prop where
 h:∃ t,WGs X es t/\SemGs X.K t f
noncomputable def ItOk(B F0:Hp)(J:It)(ds:List D):Prop:=∀ F H,Same F0 F->Same F H->Same B H->J.stop ds.length H/\∀ (i:Nat) (d:D),ds[i]? = some d->J.go i H/\∀ x H',J.yld i H x H'->∃ F',Ex F H F' H'/\Rep F' x d
noncomputable def SemI(K:PySem.W.Frag)(t:TI)(fi:FI):Prop:=∀ (B:Bd) (F H:Hp) (σ:Sg) (δ:En) (ds:List D) (R:It->Hp->Prop),RS K B F H σ δ->fi δ=some ds->(∀ J F' H',Ex F H F' H'->ItOk B F' J ds->R J H')->t σ H R
structure VI(X:Cx)(tg e:Expr)(f:FI):Prop where
 h:∃ t,WI X tg e t/\SemI X.K t f
section
variable {X:Cx}{e c tg iter:Expr}{es:List Expr}{pos pos' p:Pos}{fe fa:FE}{ft:FT}{x:Str}{st:Stmt}{sr body els:List Stmt}{f g:FS}{fi:FI}{tgf:FG}{tgs:FGs}
theorem ss0:VSs X [] fNx:=⟨_,s0,fun B F H σ δ out DD s q k=>by cases q;exact k σ F H s FX.refl⟩
theorem ss1(h:VS X st f):VSs X [st] f:=let⟨_,w,s⟩:=h.h;⟨_,s1 w,s⟩
theorem ssc(h1:VS X st f)(h2:VSs X sr g):VSs X (st :: sr) (zbb f g):=by
 obtain⟨t,w1,m1⟩:=h1.h
 obtain⟨u,w2,m2⟩:=h2.h
 refine⟨_,sc w1 w2,fun B F H σ δ out DD s q k=>?_⟩
 obtain⟨o,q1,q⟩:=bind_some q
 refine m1 B F H σ δ o _ s q1 ?_
 cases o with
 | nx δ'=>exact fun σ' F' H' s' y=>m2 B F' H' σ' δ' out DD s' q (k.mono y)
 | rt r δ'=>cases q;exact k
 | bk δ'=>cases q;exact k
 | ct δ'=>cases q;exact k
theorem sFrz(i:Nat)(h:VSs X sr g):VSs X sr (fFrz i g):=by
 obtain⟨u,w2,m2⟩:=h.h
 refine⟨_,w2,fun B F H σ δ out DD s q k=>?_⟩
 unfold fFrz at q
 split at q
 ·rename_i ds hi
  obtain⟨F',x,s'⟩:=s.frz hi
  exact m2 B F' H σ _ out DD s' q (k.mono x)
 ·cases q
theorem SemE.ret{K:PySem.W.Frag}{t:TE}(m:SemE K t fe):SemS K (tRet t) (zb7 fe):=fun B F H σ δ out DD s q k=>by
 obtain⟨r,q1,q⟩:=bind_some q
 obtain⟨e,q2,q⟩:=map_some q
 cases q
 refine m B F H σ δ r _ s q1 fun v F' H' x z=>k v σ F' H' (s.ext x) (.of x s.bh) ?_
 cases r with
 | val d=>cases q2;exact z
 | own ds=>cases q2;exact RepR.earlier z s.bh
 | _=>cases q2
theorem zdj(he:VE X e fe):VS X (.Return (some e) pos) (zb7 fe):=let⟨_,w,m⟩:=he.h;⟨_,sret w,m.ret⟩
theorem sRetV(i:Nat)(hN:X.N[i]? = some x:=by rfl)(hv:Vis X.env.scope x:=by first | exact Or.inl rfl | exact Or.inr (Or.inl rfl) | exact Or.inr (Or.inr rfl))(hd:(x == ("__debug__" : Str))=false:=by decide)
  (hcd:(x == ("__classdict__" : Str))=false:=by decide):VS X (.Return (some (.Name x p)) pos) (fRetV i):=by
 refine⟨_,sret (wv i hN hv hd hcd),fun B F H σ δ out DD s q k=>?_⟩
 unfold fRetV at q
 split at q
 ·rename_i ds e
  cases q
  obtain⟨v,h1,h2⟩:=s.ent i _ e
  refine⟨v,h1,k v σ F H (s.drop i) .refl ?_⟩
  obtain⟨l,vs,e,h3,h4,h5,h6⟩:=h2
  exact⟨l,vs,e,h6,h3,h4,h5⟩
 ·rename_i d e
  cases q
  obtain⟨v,h1,h2⟩:=s.ent i _ e
  exact⟨v,h1,k v σ F H s .refl h2⟩
 ·cases q
theorem sIf(hc:VT X c ft)(ha:VSs X body f)(hb:VSs X els g):VS X (.If c body els pos) (fIf ft f g):=by
 obtain⟨t,w,m⟩:=hc.h
 obtain⟨t1,w1,m1⟩:=ha.h
 obtain⟨t2,w2,m2⟩:=hb.h
 refine⟨_,sif w w1 w2,fun B F H σ δ out DD s q k=>?_⟩
 obtain⟨b,q1,q⟩:=bind_some q
 refine m B F H σ δ b _ s q1 fun F' H' x=>?_
 cases b with
 | true=>exact iteT (m1 B F' H' σ δ out DD (s.ext x) q (k.mono (.of x s.bh)))
 | false=>exact iteF (m2 B F' H' σ δ out DD (s.ext x) q (k.mono (.of x s.bh)))
theorem SemE.set{K:PySem.W.Frag}{t:TE}(i:Nat)(m:SemE K t fe):SemS K (zeU t (zcI i)) (zcp i fe):=fun B F H σ δ out DD s q k=>by
 obtain⟨r,q1,q⟩:=bind_some q
 obtain⟨e,q2,q⟩:=map_some q
 cases q
 exact m B F H σ δ r _ s q1 fun v F' H' x z=>k _ F' H' (s.putR x i z q2) (.of x s.bh)
theorem zdI{i:Nat}(hN:X.N.Nodup)(hi:X.N[i]? = some x)(hx:Loc X.env.scope x)(he:VE X e fe)(hs:swapsWith e (some (.Name x pos')) pos.line X.env=pure false:=by rfl)(hf:X.fn x=true \/ X.env.scope.names.lookup x=some .local:=by first | exact .inl rfl | exact .inr rfl | assumption) :
  VS X (.Assign [.Name x pos'] e pos) (zcp i fe):=let⟨_,w,m⟩:=he.h;⟨_,sset hN hi hx w hs hf,m.set i⟩
theorem gnm{i:Nat}(hN:X.N.Nodup)(hi:X.N[i]? = some x)(hx:Loc X.env.scope x)(hf:X.fn x=true \/ X.env.scope.names.lookup x=some .local:=by first | exact .inl rfl | exact .inr rfl | assumption):VG X (.Name x pos) (gNm i):=
 ⟨_,gn hN hi hx hf,fun B F H σ δ δ' v d Q s r q k=>by cases q;exact k _ (s.putV i r)⟩
theorem SemS.for{K:PySem.W.Frag}{wi:TI}{g:TG}{tb:TS}(mi:SemI K wi fi)(mg:SemG K g tgf)(mb:SemS K tb f):SemS K (tFor wi g tb) (zeY fi tgf f):=fun B F H σ δ out DD s q k=>by
 obtain⟨ds,q1,q⟩:=bind_some q
 refine mi B F H σ δ ds _ s q1 fun J F1 H1 x1 io=>?_
 have k1:EndOk K B F1 DD out:=k.mono (.of x1 s.bh)
 refine⟨fun i m σ' H'=>m=ds.length - i/\i<=ds.length/\∃ F' δ',RS K B F' H' σ' δ'/\FX B F1 F'/\loop tgf f (ds.drop i) δ'=some out,⟨_,rfl,Nat.zero_le _,F1,δ,s.ext x1,.refl,q⟩,?_⟩
 rintro i m σ' H' ⟨rfl,hi,F',δ',s',y',q'⟩
 obtain⟨hstop,hgo⟩:=io F' H' y'.ff s'.fh s'.bh
 by_cases hlt:i<ds.length
 ·right
  have hd:ds[i]? = some ds[i]:=by simp[hlt]
  obtain⟨g1,g2⟩:=hgo i _ hd
  rw[List.drop_eq_getElem_cons hlt] at q'
  obtain⟨δ1,q2,q'⟩:=bind_some q'
  obtain⟨o,q3,q'⟩:=bind_some q'
  refine⟨g1,fun σ2 H2=>ds.length - (i+1)=ds.length - (i+1)/\i+1<=ds.length/\∃ F' δ',RS K B F' H2 σ2 δ'/\FX B F1 F'/\loop tgf f (ds.drop (i+1)) δ'=some out,fun σ2 H2 hN=>⟨_,by lia,hN⟩,fun v H2 yl=>?_⟩
  obtain⟨F2,x2,r2⟩:=g2 v H2 yl
  refine mg B F2 H2 σ' δ' δ1 v _ _ (s'.ext x2) r2 q2 fun σ3 s3=>?_
  have y2:FX B F1 F2:=y'.trans (.of x2 s'.bh)
  refine mb B F2 H2 σ3 δ1 o _ s3 q3 ?_
  cases o with
  | nx δ2=>exact fun σ4 F4 H4 s4 y4=>⟨rfl,hlt,F4,δ2,s4,y2.trans y4,q'⟩
  | ct δ2=>exact fun σ4 F4 H4 s4 y4=>⟨rfl,hlt,F4,δ2,s4,y2.trans y4,q'⟩
  | bk δ2=>cases q';exact fun σ4 F4 H4 s4 y4=>k1 σ4 F4 H4 s4 (y2.trans y4)
  | rt r δ2=>cases q';exact fun v σ4 F4 H4 s4 y4 z=>k1 v σ4 F4 H4 s4 (y2.trans y4) z
 ·left
  have e:i=ds.length:=by lia
  subst e
  rw[List.drop_length] at q'
  cases q'
  exact⟨hstop,k1 σ' F' H' s' y'⟩
theorem zhg(hi:VI X tg iter fi)(hg:VG X tg tgf)(hb:VSs X body f)(hp:PassesOwn (model X.prog X.w) X.A X.env X.xe:=by exact PassesOwn.never)(hc:X.calm=true:=by rfl)(hs:∀ z,foldedSetIterable iter X.env z=pure z:=by intro _;rfl):VS X (.For tg iter body [] pos) (zeY fi tgf f):=
 let⟨_,wi,mi⟩:=hi.h;let⟨_,wg,mg⟩:=hg.h;let⟨_,wb,mb⟩:=hb.h;⟨_,sfor hp hc wi wg wb hs,.for mi mg mb⟩
theorem sWhl(n:Nat)(hc:VT X c ft)(hb:VSs X body f)(hp:PassesOwn (model X.prog X.w) X.A X.env X.xe:=by exact PassesOwn.never):VS X (.While c body [] pos) (whl ft f n):=by
 obtain⟨tc,wc,mc⟩:=hc.h
 obtain⟨tb,wb,mb⟩:=hb.h
 refine⟨_,swhile hp wc wb,fun B F H σ δ out DD s q k=>?_⟩
 refine⟨fun m σ' H'=>∃ F' δ',RS X.K B F' H' σ' δ'/\FX B F F'/\whl ft f m δ'=some out,⟨n,F,δ,s,.refl,q⟩,?_⟩
 rintro m σ' H' ⟨F',δ',s',y',q'⟩
 cases m with
 | zero=>cases q'
 | succ m=>
  obtain⟨b,q1,q'⟩:=bind_some q'
  refine mc B F' H' σ' δ' b _ s' q1 fun F1 H1 x1=>?_
  have y1:FX B F F1:=y'.trans (.of x1 s'.bh)
  cases b with
  | false=>cases q';exact iteF (k σ' F1 H1 (s'.ext x1) y1)
  | true=>
   refine iteT ?_
   obtain⟨o,q3,q'⟩:=bind_some q'
   refine⟨fun σ2 H2=>∃ F' δ',RS X.K B F' H2 σ2 δ'/\FX B F F'/\whl ft f m δ'=some out,fun σ2 H2 hN=>⟨m,Nat.lt_succ_self m,hN⟩,?_⟩
   refine mb B F1 H1 σ' δ' o _ (s'.ext x1) q3 ?_
   cases o with
   | nx δ2=>exact fun σ4 F4 H4 s4 y4=>⟨F4,δ2,s4,y1.trans y4,q'⟩
   | ct δ2=>exact fun σ4 F4 H4 s4 y4=>⟨F4,δ2,s4,y1.trans y4,q'⟩
   | bk δ2=>cases q';exact fun σ4 F4 H4 s4 y4=>k σ4 F4 H4 s4 (y1.trans y4)
   | rt r δ2=>cases q';exact fun v σ4 F4 H4 s4 y4 z=>k v σ4 F4 H4 s4 (y1.trans y4) z
theorem sApp(i:Nat){apos cpos:Pos}(he:VE X e fe)(hN:X.N[i]? = some x:=by rfl)(hv:Vis X.env.scope x:=by first | exact Or.inl rfl | exact Or.inr (Or.inl rfl) | exact Or.inr (Or.inr rfl))(hd:(x == ("__debug__" : Str))=false:=by decide)(hcd:(x == ("__classdict__" : Str))=false:=by decide)
  (hbase:attributeBase (.Name x p) "append" X.env (eval (.Name x p) X.env)=eval (.Name x p) X.env:=by rfl) (hline:(apos.endLine == cpos.line)=true:=by rfl) (h1:zak e=true:=by rfl)
  (hs:swapsWith (.Call (.Attribute (.Name x p) "append" apos) [e] [] cpos) none pos.line X.env=pure false:=by rfl) :
  VS X (.Expr (.Call (.Attribute (.Name x p) "append" apos) [e] [] cpos) pos) (zgV i fe):=by
 obtain⟨t,w,m⟩:=he.h
 refine⟨_,sex (wbm PySem.F.plainAttrs_list PySem.F.slot_list_append PySem.F.type_list_append zfh (wv i hN hv hd hcd) (wac w wnil h1) hbase rfl hline h1 rfl) hs,fun B F H σ δ out DD s q k=>?_⟩
 unfold zgV at q
 split at q
 ·rename_i ds hi
  obtain⟨d,q1,q⟩:=bind_some q
  obtain⟨r,q2,q3⟩:=bind_some q1
  obtain⟨hl,qz⟩:=za0 q
  cases qz
  obtain⟨v,h1,l,vs,e,h2,h3,h4,h5⟩:=s.ent i _ hi
  subst e
  refine⟨_,h1,.inl ⟨rfl,vs,SqL.of h2⟩,?_⟩
  refine m B F H σ δ r _ s q2 fun y F1 H1 x1 z=>?_
  obtain⟨F2,x2,sm,r2⟩:=RepR.frz x1 (Same.refl _) z q3
  refine⟨l,vs,y,rfl,rfl,x2.hh _ _ h2,?_,?_⟩
  ·rw[h3.length,sizeLine_eq];unfold sz at hl;lia
  ·exact k σ F2 _ ((s.ext x2).mut hi h1 ((h3.mono x2.ff).append (.one r2))) (.of x2 s.bh)
 ·cases q
theorem sSIx(i:Nat){ix:Expr}{fx:FE}{tpos:Pos}(he:VE X e fe)(hx:VE X ix fx)(hN:X.N[i]? = some x:=by rfl)(hv:Vis X.env.scope x:=by first | exact Or.inl rfl | exact Or.inr (Or.inl rfl) | exact Or.inr (Or.inr rfl))(hd:(x == ("__debug__" : Str))=false:=by decide)(hcd:(x == ("__classdict__" : Str))=false:=by decide)
  (hg:∀ {to ti:TE},WE X (.Name x p) to->WE X ix ti->WG X (.Subscript (.Name x p) ix tpos) (gSub to ti rSetL))
  (hs:swapsWithSole [.Subscript (.Name x p) ix tpos] e pos.line X.env=pure false:=by rfl) (hw:swappedStores [.Subscript (.Name x p) ix tpos] e X.env=pure none:=by rfl) (h1:(assignEach [.Subscript (.Name x p) ix tpos] X.env).map (·.2)=[assign (.Subscript (.Name x p) ix tpos) X.env]:=by rfl) :
  VS X (.Assign [.Subscript (.Name x p) ix tpos] e pos) (fSIx i fx fe):=by
 obtain⟨t,w,m⟩:=he.h
 obtain⟨t2,w2,m2⟩:=hx.h
 refine⟨_,sasg w (hg (wv i hN hv hd hcd) w2) hs hw h1,fun B F H σ δ out DD s q k=>?_⟩
 unfold fSIx at q
 split at q
 ·rename_i ds hi
  obtain⟨d,q1,q⟩:=bind_some q
  obtain⟨r,q2,q3⟩:=bind_some q1
  obtain⟨kk,q4,q⟩:=bind_some q
  obtain⟨rk,q5,q6⟩:=bind_some q4
  obtain⟨j,q7,q⟩:=map_some q
  cases q
  cases zaw q6
  obtain⟨v,h1,l,vs,e,h2,h3,h4,h5⟩:=s.ent i _ hi
  subst e
  refine m B F H σ δ r _ s q2 fun y F1 H1 x1 z=>?_
  obtain⟨F2,x2,sm,r2⟩:=RepR.frz x1 (Same.refl _) z q3
  refine⟨_,h1,m2 B F2 H1 σ δ _ _ (s.ext x2) q5 fun yk F3 H3 x3 z3=>?_⟩
  cases zaI z3
  refine⟨l,vs,kk,j,rfl,rfl,x3.hh _ _ (x2.hh _ _ h2),by rw[h3.length];exact q7,?_⟩
  exact k σ F3 _ (((s.ext x2).ext x3).mut hi h1 (((h3.mono x2.ff).mono x3.ff).set (Rep.mono x3.ff r2) j)) (.of (x2.trans x3) s.bh)
 ·cases q
end
noncomputable def capt:Ent->Option Ent
 | .own ds=>some (.vw ds)
 | .obj _=>none
 | e=>some e
noncomputable def cEn(fr:List Nat)(δ:En)(d:D):En:=some (.val d) :: fr.map fun i=>((δ[i]?).join).bind capt
noncomputable def zc2(ft:D->Option Bool)(fe:D->Option Ent):List D->Option (List D)
 | []=>some []
 | d :: ds=>(ft d).bind fun b=>if b=true then ((fe d).bind asV).bind fun y=>(zc2 ft fe ds).map fun ys=>y :: ys else zc2 ft fe ds
noncomputable def eLC(fr:List Nat)(fi:FI)(ft:FT)(fe:FE):FE:=fun δ=>(fi δ).bind fun ds=>(zc2 (fun d=>ft (cEn fr δ d)) (fun d=>fe (cEn fr δ d)) ds).bind fun out=>if out.length<=1000000 then some (.own out) else none
theorem RS.cap{K:PySem.W.Frag}{B:Bd}{F H:Hp}{σ:Sg}{δ:En}{v:V}{d:D}(s:RS K B F H σ δ)(fr:List Nat)(r:Rep F v d):RS K B F H (some v :: zdG fr σ) (cEn fr δ d):=by
 have key:∀ (j:Nat) (e:Ent),(cEn fr δ d)[j+1]? = some (some e)->∃ i e',fr[j]? = some i/\δ[i]? = some (some e')/\capt e'=some e:=fun j e h=>by
  unfold cEn at h
  rw[List.getElem?_cons_succ,List.getElem?_map] at h
  cases q:fr[j]? with
  | none=>rw[q] at h;cases h
  | some i=>
   rw[q] at h
   have h':((δ[i]?).join).bind capt=some e:=Option.some.inj h
   obtain⟨e',h1,h2⟩:=bind_some h'
   refine⟨i,e',rfl,?_,h2⟩
   cases z:δ[i]? with
   | none=>rw[z] at h1;cases h1
   | some o=>rw[z] at h1;rw[show o=some e' from h1]
 refine⟨s.fh,s.bh,by simp[cEn,zdG],fun j e h=>?_,fun a b l ds e hab h1=>?_,fun a b e1 e2 v1 v2 ad hab q1 _ _ _ q5=>?_,fun w o _ ho=>by cases ho⟩
 ·cases j with
  | zero=>cases h;exact⟨v,rfl,r⟩
  | succ j=>
   obtain⟨i,e',h1,h2,h0⟩:=key j e h
   obtain⟨w,h3,h4⟩:=s.ent i e' h2
   refine⟨w,?_,?_⟩
   ·show(zdG fr σ)[j]? = some (some w)
    unfold zdG
    rw[List.getElem?_map,h1]
    show some ((σ[i]?).join)=_
    rw[h3]
    rfl
   ·cases e' with
    | own ds=>cases h0;obtain⟨l,vs,e,h5,h6,_⟩:=h4;exact⟨l,vs,e,h5,h6⟩
    | obj o=>cases o <;> first | (cases h0;obtain⟨A,t,_⟩:=h4;exact⟨A,t⟩) | cases h0
    | _=>cases h0;exact h4
 ·cases a with
  | zero=>cases h1
  | succ a=>
   obtain⟨i,e',_,_,z⟩:=key a _ h1
   cases e' with
   | obj o=>cases o <;> cases z
   | _=>cases z
 ·cases a with
  | zero=>cases q1;cases q5
  | succ a=>
   obtain⟨i,e',_,_,z⟩:=key a _ q1
   cases e' with
   | obj o=>cases o <;> first | (cases z;cases q5) | cases z
   | _=>cases z <;> cases q5
theorem SemE.lc{K:PySem.W.Frag}{fr:List Nat}{wi:TI}{tt:TT}{te:TE}{fi:FI}{ft:FT}{fe:FE}(mi:SemI K wi fi)(mt:SemT K tt ft)(me:SemE K te fe):SemE K (tLC fr wi tt te) (eLC fr fi ft fe):=fun B F H σ δ res Q s q k=>by
 obtain⟨ds,q1,q⟩:=bind_some q
 obtain⟨out,q2,q⟩:=bind_some q
 split at q
 ·rename_i hlen
  cases q
  refine mi B F H σ δ ds _ s q1 fun J F1 H1 x1 io=>?_
  intro a ha
  refine⟨fun i m ys H'=>m=ds.length - i/\i<=ds.length/\∃ F' done rest,Ex F1 H1 F' H'/\F' a=none/\H' a=some (.lst ys)/\Reps F' ys done/\zc2 (fun d=>ft (cEn fr δ d)) (fun d=>fe (cEn fr δ d)) (ds.drop i)=some rest/\out=done ++ rest,
   ⟨_,rfl,Nat.zero_le _,F1,[],out,Ex.lay x1.fh ha,x1.fh.free ha,zag,.nil,q2,rfl⟩,?_⟩
  rintro i m ys H' ⟨rfl,hi,F',dn,rest,x',fa,hH,rs,q',eo⟩
  have s':=(s.ext x1).ext x'
  obtain⟨hstop,hgo⟩:=io F' H' x'.ff x'.fh s'.bh
  by_cases hlt:i<ds.length
  ·right
   have hd:ds[i]? = some ds[i]:=by simp[hlt]
   obtain⟨g1,g2⟩:=hgo i _ hd
   rw[List.drop_eq_getElem_cons hlt] at q'
   obtain⟨b,q3,q'⟩:=bind_some q'
   refine⟨g1,fun v H2 yl=>?_⟩
   obtain⟨F2,x2,r2⟩:=g2 v H2 yl
   have sc:=(s'.ext x2).cap fr r2
   refine mt B F2 H2 _ _ b _ sc q3 fun F3 H3 x3=>?_
   have nn:∀ {Fz Hz:Hp},Ex F' H' Fz Hz->Fz a=none:=fun x=>(x.nw _ _ hH rfl).trans fa
   cases b with
   | false=>
    refine iteF ⟨ds.length - (i+1),by lia,rfl,hlt,F3,dn,rest,(x'.trans x2).trans x3,nn (x2.trans x3),(x2.trans x3).hh _ _ hH,rs.mono (x2.trans x3).ff,q',eo⟩
   | true=>
    refine iteT ?_
    obtain⟨y,q4,q'⟩:=bind_some q'
    obtain⟨r,q5,q6⟩:=bind_some q4
    obtain⟨rest',q7,q'⟩:=map_some q'
    cases q'
    refine me B F3 H3 _ _ r _ (sc.ext x3) q5 fun w F4 H4 x4 z4=>?_
    obtain⟨F5,x5,_,r5⟩:=RepR.frz x4 (Same.refl _) z4 q6
    have xx:Ex F' H' F5 H4:=(x2.trans x3).trans x5
    have hy:ys.length<sizeLine:=by
     rw[rs.length,sizeLine_eq]
     have:out.length=dn.length+(rest'.length+1):=by rw[eo];simp
     lia
    refine⟨xx.hh _ _ hH,hy,ds.length - (i+1),by lia,rfl,hlt,F5,dn ++ [y],rest',?_,nn xx,zag,(rs.mono xx.ff).append (.one r5),q7,by rw[eo];simp⟩
    have xo:=x'.trans xx
    exact⟨xo.ff,fun b o e=>by rw[zaj (zaE e (nn xx))];exact xo.fh b o e,fun b o e=>by rw[zaj (zaE e ha)];exact xo.hh b o e,xo.nw⟩
  ·left
   have e:i=ds.length:=by lia
   subst e
   rw[List.drop_length] at q'
   cases q'
   rw[List.append_nil] at eo
   subst eo
   refine⟨hstop,k _ F' H' (x1.trans x') ⟨a,ys,rfl,x1.hh.free ha,hH,rs,fa⟩⟩
 ·cases q
noncomputable def tD(K:PySem.W.Frag)(f:FE):TE:=fun σ H Q=>∃ B F δ r,RS K B F H σ δ/\f δ=some r/\∀ v F' H',Ex F H F' H'->RepR K H F' H' v r->Q v H'
noncomputable def tDT(K:PySem.W.Frag)(f:FT):TT:=fun σ H Q=>∃ B F δ b,RS K B F H σ δ/\f δ=some b/\∀ F' H',Ex F H F' H'->Q b H'
theorem semE_tD{K:PySem.W.Frag}{f:FE}:SemE K (tD K f) f:=fun B F _ _ δ r _ s q k=>⟨B,F,δ,r,s,q,k⟩
theorem semT_tD{K:PySem.W.Frag}{f:FT}:SemT K (tDT K f) f:=fun B F _ _ δ r _ s q k=>⟨B,F,δ,r,s,q,k⟩
theorem VE.uni{X:Cx}{e:Expr}{f:FE}(h:VE X e f):WE X e (tD X.K f):=
 let⟨_,w,m⟩:=h.h;⟨fun pins s σ H Q I z=>let⟨B,F,δ,r,s',q,k⟩:=z;w.h pins s σ H Q I (m B F H σ δ r Q s' q k)⟩
theorem VTs.uni{X:Cx}{es:List Expr}{f:FT}(h:VTs X es f):WTs X es (tDT X.K f):=
 let⟨_,w,m⟩:=h.h;⟨fun pins s σ H Q I z=>let⟨B,F,δ,r,s',q,k⟩:=z;w.h pins s σ H Q I (m B F H σ δ r Q s' q k)⟩
section
variable {X:Cx}{N:List Str}{fr:List Nat}{x:Str}{scope:Scope}{iter elt:Expr}{ifs:List Expr}{px pos:Pos}{fi:FI}{fe:FE}{ft:FT}
theorem vlc(S:CompSc X N fr x scope)(hi:VI X (.Name x px) iter fi)
  (ht:∀ (C:Addr) (s₀:Shared) (H₀:Hp) (fp:List Addr),VTs (cxC X N scope C s₀ H₀ fp) ifs ft) (he:∀ (C:Addr) (s₀:Shared) (H₀:Hp) (fp:List Addr),VE (cxC X N scope C s₀ H₀ fp) elt fe)
  (hc:X.calm=true:=by rfl) (hs:∀ z,foldedSetIterable iter X.env z=pure z:=by intro _;rfl):VE X (.ListComp elt [⟨.Name x px,iter,ifs,0⟩] scope pos) (eLC fr fi ft fe):=
 let⟨_,w1,m1⟩:=hi.h;⟨_,wlc S hc w1 (fun C s₀ H₀ fp=>(ht C s₀ H₀ fp).uni) (fun C s₀ H₀ fp=>(he C s₀ H₀ fp).uni) hs,.lc m1 semT_tD semE_tD⟩
theorem sSetLC{i:Nat}{y:Str}{py spos:Pos}(hN:X.N.Nodup)(hi':X.N[i]? = some y)(hy:Loc X.env.scope y)(S:CompSc X N fr x scope)(hi:VI X (.Name x px) iter fi)
  (ht:∀ (C:Addr) (s₀:Shared) (H₀:Hp) (fp:List Addr),VTs (cxC X N scope C s₀ H₀ fp) ifs ft) (he:∀ (C:Addr) (s₀:Shared) (H₀:Hp) (fp:List Addr),VE (cxC X N scope C s₀ H₀ fp) elt fe)
  (hc:X.calm=true:=by rfl) (hsw:swapsWith (.ListComp elt [⟨.Name x px,iter,ifs,0⟩] scope pos) (some (.Name y py)) spos.line X.env=pure true:=by rfl)
  (hs:∀ z,foldedSetIterable iter X.env z=pure z:=by intro _;rfl)
  (hf:X.fn y=true \/ X.env.scope.names.lookup y=some .local:=by first | exact .inl rfl | exact .inr rfl | assumption) :
  VS X (.Assign [.Name y py] (.ListComp elt [⟨.Name x px,iter,ifs,0⟩] scope pos) spos) (zcp i (eLC fr fi ft fe)):=
 let⟨_,w1,m1⟩:=hi.h;⟨_,ssetlc hN hi' hy S hc w1 (fun C s₀ H₀ fp=>(ht C s₀ H₀ fp).uni) (fun C s₀ H₀ fp=>(he C s₀ H₀ fp).uni) hsw hs hf,SemE.set i (.lc m1 semT_tD semE_tD)⟩
end
inductive Kd where
 | v | b | t
noncomputable def ArgOk(K:PySem.W.Frag)(F H:Hp)(v:V):Kd->D->Prop
 | .v,d=>Rep F v d
 | .b,.lst ds=>∃ l vs,v=.ref l/\SqL K H l vs/\Reps F vs ds
 | .b,_=>False
 | .t,.tup ds=>∃ l vs,v=.ref l/\SqT K H l vs/\Reps F vs ds
 | .t,_=>False
inductive ArgsOk(K:PySem.W.Frag)(F H:Hp):List Kd->List V->List D->Prop
 | nil:ArgsOk K F H [] [] []
 | cons {k:Kd} {v:V} {d:D} {ks:List Kd} {vs:List V} {ds:List D}:ArgOk K F H v k d->ArgsOk K F H ks vs ds->ArgsOk K F H (k :: ks) (v :: vs) (d :: ds)
noncomputable def spD(K:PySem.W.Frag)(ks:List Kd)(g:List D->Option Ent):Sp:=fun vs H Q _=>∃ F ds r,Same F H/\ArgsOk K F H ks vs ds/\g ds=some r/\∀ v F' H',Ex F H F' H'->RepR K H F' H' v r->Q v H'
noncomputable def asT:Ent->Option (List D)
 | .val (.tup ds)=>some ds
 | .bt ds=>some ds
 | _=>none
theorem RepR.toT{K:PySem.W.Frag}{H0 F H:Hp}{v:V}{e:Ent}{ds:List D}(r:RepR K H0 F H v e)(h:Same F H)(q:asT e=some ds):∃ l vs,v=.ref l/\SqT K H l vs/\Reps F vs ds:=by
 cases e with
 | val d=>
  cases d with
  | tup es=>
   cases q
   cases (show Rep F v (.tup _) from r) with
   | tup e rs=>exact⟨_,_,rfl,SqT.of (h _ _ e),rs⟩
  | _=>cases q
 | bt es=>cases q;exact r
 | _=>cases q
noncomputable def zd5:Kd->Ent->Option D
 | .v,e=>asV e
 | .b,e=>(asL e).map .lst
 | .t,e=>(asT e).map .tup
noncomputable def zbU:List Kd->List Ent->Option (List D)
 | [],[]=>some []
 | k :: ks,e :: es=>(zd5 k e).bind fun d=>(zbU ks es).map fun ds=>d :: ds
 | _,_=>none
section
variable {K:PySem.W.Frag}{F H F' H' F2 H2:Hp}
theorem RepRs.args:∀ {ks:List Kd} {vs:List V} {es:List Ent} {ds:List D} {F':Hp},Ex F H F' H'->Same F2 F'->RepRs K H F2 H' vs es->zbU ks es=some ds->∃ F3,Ex F H F3 H'/\Same F' F3/\ArgsOk K F3 H' ks vs ds
 | [],_,_,_,F',x,_,.nil,q=>by cases q;exact⟨F',x,Same.refl _,.nil⟩
 | _ :: _,_,_,_,_,_,_,.nil,q=>by cases q
 | [],_,_,_,_,_,_,.cons _ _,q=>by cases q
 | k :: ks,_,e :: es,ds,F',x,s,.cons r t,q=>by
  simp only[zbU] at q
  obtain⟨d,q1,q⟩:=bind_some q
  obtain⟨ds',q2,q⟩:=map_some q
  cases q
  cases k with
  | v=>
   obtain⟨F3,x3,s3,r3⟩:=r.frz x s q1
   obtain⟨F4,x4,s4,r4⟩:=RepRs.args x3 (s.trans s3) t q2
   exact⟨F4,x4,s3.trans s4,.cons (Rep.mono s4 r3) r4⟩
  | b=>
   obtain⟨ls,q3,q4⟩:=map_some q1
   cases q4
   obtain⟨F4,x4,s4,r4⟩:=RepRs.args x s t q2
   refine⟨F4,x4,s4,.cons (k:=.b) ?_ r4⟩
   obtain⟨l,vs,e,h1,h2⟩:=RepR.toL r (s.trans x.fh) q3
   exact⟨l,vs,e,h1,h2.mono (s.trans s4)⟩
  | t=>
   obtain⟨ls,q3,q4⟩:=map_some q1
   cases q4
   obtain⟨F4,x4,s4,r4⟩:=RepRs.args x s t q2
   refine⟨F4,x4,s4,.cons (k:=.t) ?_ r4⟩
   obtain⟨l,vs,e,h1,h2⟩:=RepR.toT r (s.trans x.fh) q3
   exact⟨l,vs,e,h1,h2.mono (s.trans s4)⟩
end
noncomputable def za4(ks:List Kd)(g:List D->Option Ent)(fs:FA):FE:=fun δ=>((fs δ).bind (zbU ks)).bind g
section
variable {X:Cx}{es:List Expr}{e:Expr}{fs:FA}{x:Str}{p pos:Pos}{ks:List Kd}{g:List D->Option Ent}
theorem SemE.call{K:PySem.W.Frag}{t:TA}{dvs:List V}{E:XK}(m:SemA K t fs)(hd:dvs=[]):SemE K (tCall (spD K ks g) dvs E t) (za4 ks g fs):=fun B F H σ δ res Q s q k=>by
 subst hd
 obtain⟨ds,q1,q⟩:=bind_some q
 obtain⟨rs,q2,q3⟩:=bind_some q1
 refine m B F H σ δ rs _ s q2 fun vs F1 H1 x1 r1=>?_
 obtain⟨F2,x2,_,a2⟩:=RepRs.args x1 (Same.refl _) r1 q3
 rw[List.append_nil]
 exact⟨F2,ds,res,x2.fh,a2,q,fun v F' H' x3 r3=>k v F' H' (x2.trans x3) (r3.earlier x2.hh)⟩
theorem vcl{CX:CXT}{k j:Nat}{f:Addr}{fd:FuncData}{ps:List Str}{st:Stmt}{E:XK}(F:FnOk X.prog X.w X.K X.mg X.base CX k f fd ps (spD X.K ks g))(D:Def X.K X.mg x st ps f fd)(hr:Room j X.A)(hg:Gl X x)(hx:zbM CX X E)
  (ha:VA X (e :: es) fs) (hjk:k<=j:=by decide) (hdb:(x == ("__debug__" : Str))=false:=by decide) (h1:zak e=true:=by rfl) (h2:es.all zak=true:=by rfl) :
  VE X (.Call (.Name x p) (e :: es) [] pos) (za4 ks g fs):=let⟨_,w,m⟩:=ha.h;⟨_,wcl F D hr hg hx w hjk hdb h1 h2,.call m rfl⟩
end
noncomputable def stN:Kd->D->Option Ent
 | .v,d=>some (.val d)
 | .b,.lst ds=>some (.bor ds)
 | .b,_=>none
 | .t,.tup ds=>some (.bt ds)
 | .t,_=>none
noncomputable def stE:List Kd->List D->Option En
 | [],[]=>some []
 | k :: ks,d :: ds=>(stN k d).bind fun e=>(stE ks ds).map fun es=>some e :: es
 | _,_=>none
noncomputable def zf7:Out->Option Ent
 | .rt r _=>some r
 | .nx _=>some (.val .non)
 | _=>none
noncomputable def zc9(ks:List Kd)(m:Nat)(f:FS)(ds:List D):Option Ent:=(stE ks ds).bind fun es=>(f (es ++ List.replicate m none)).bind zf7
theorem ArgsOk.start{K:PySem.W.Frag}{F H:Hp}:∀ {ks:List Kd} {vs:List V} {ds:List D} {es:En},ArgsOk K F H ks vs ds->stE ks ds=some es->vs.length=es.length/\∀ (i:Nat) (e:Ent),es[i]? = some (some e)->(∃ v,vs[i]? = some v/\RepN K H F H v e)/\e.lk=false/\e.isO=false
 | _,_,_,_,.nil,q=>by cases q;exact⟨rfl,fun i e h=>by simp at h⟩
 | k :: ks,v :: vs,d :: ds,es,.cons a t,q=>by
  simp only[stE] at q
  obtain⟨e0,q1,q⟩:=bind_some q
  obtain⟨es',q2,q⟩:=map_some q
  cases q
  obtain⟨hl,ih⟩:=ArgsOk.start t q2
  refine⟨by simp[hl],fun i e h=>?_⟩
  cases i with
  | succ i=>simpa using ih i e (by simpa using h)
  | zero=>
   have h':e0=e:=by simpa using h
   subst h'
   cases k with
   | v=>cases q1;exact⟨⟨v,rfl,a⟩,rfl,rfl⟩
   | b=>
    cases d with
    | lst ls=>
     cases q1
     obtain⟨l,ws,e,h1,h2⟩:=a
     exact⟨⟨v,rfl,l,ws,e,h1,h2⟩,rfl,rfl⟩
    | _=>cases q1
   | t=>
    cases d with
    | tup ls=>
     cases q1
     obtain⟨l,ws,e,h1,h2⟩:=a
     exact⟨⟨v,rfl,l,ws,e,h1,h2⟩,rfl,rfl⟩
    | _=>cases q1
theorem ArgsOk.length{K:PySem.W.Frag}{F H:Hp}:∀ {ks:List Kd} {vs:List V} {ds:List D},ArgsOk K F H ks vs ds->vs.length=ks.length
 | _,_,_,.nil=>rfl
 | _,_,_,.cons _ t=>by rw[List.length_cons,List.length_cons,ArgsOk.length t]
section
variable {P:Program}{w:World}{K:PySem.W.Frag}{mg:Str->Option Value}{base:Heap}{x qual:Str}{st:Stmt}{f:Addr}{fd:FuncData}{N ps:List Str}{k:Nat}{ks:List Kd}{g:List D->Option Ent}
end
end L3

namespace L3
open PySem PySem.Spec PyProof.Rows L2
noncomputable def pI0(g:Int->Int->D):Ent->Ent->Option Ent:=fun x y=>(iOf x).bind fun i=>(iOf y).map fun j=>.val (g i j)
noncomputable def pI(c:Int->Int->Prop)(g:Int->Int->D):Ent->Ent->Option Ent:=fun x y=>(iOf x).bind fun i=>(iOf y).bind fun j=>gif (c i j) (some (.val (g i j)))
noncomputable def b64(i:Int):Prop:=-18446744073709551616<i/\i<18446744073709551616
theorem zdB{i:Int}(h:-18446744073709551616<i/\i<18446744073709551616):b64 i=True:=eq_true h
noncomputable def psI(j:Int):Prop:=0<j
theorem zbA{j:Int}(h:0<j):psI j=True:=eq_true h
noncomputable def dvI(j:Int):Prop:=0<j/\j<1073741824
theorem zcY{j:Int}(h:0<j/\j<1073741824):dvI j=True:=eq_true h
theorem zem{i:Int}(h:-18446744073709551616<i/\i<18446744073709551616):b64 i:=h
section
variable {K:PySem.W.Frag}
theorem zhf{g':Int->Int->V}{g:Int->Int->D}(h:∀ i j F,Rep F (g' i j) (g i j)):zg0 K (rI0 g') (pI0 g):=fun H0 F H x y e e' res Q fh hh rx ry q k=>by
 obtain⟨i,q1,q⟩:=bind_some q
 obtain⟨j,q2,q⟩:=map_some q
 cases zaw q1
 cases zaw q2
 cases q
 cases zaI rx
 cases zaI ry
 exact⟨i,j,rfl,rfl,k _ F H (Ex.refl fh) (h i j F)⟩
theorem semI{C c:Int->Int->Prop}{g':Int->Int->V}{g:Int->Int->D}(hc:∀ i j,c i j->C i j)(h:∀ i j F,Rep F (g' i j) (g i j)):zg0 K (rI C g') (pI c g):=fun H0 F H x y e e' res Q fh hh rx ry q k=>by
 obtain⟨i,q1,q⟩:=bind_some q
 obtain⟨j,q2,q⟩:=bind_some q
 obtain⟨hij,qz⟩:=za0 q
 cases zaw q1
 cases zaw q2
 cases qz
 cases zaI rx
 cases zaI ry
 exact⟨i,j,rfl,rfl,hc i j hij,k _ F H (Ex.refl fh) (h i j F)⟩
end
noncomputable def zbX:=pI0 fun i j=>.int (i+j)
noncomputable def zgD:=pI0 fun i j=>.int (i - j)
noncomputable def zeB:=pI (fun i j=>b64 i \/ b64 j) fun i j=>.int (i * j)
noncomputable def zbO:=pI (fun _ j=>psI j) fun i j=>.int (i % j)
noncomputable def zd3:=pI (fun _ j=>dvI j) fun i j=>.int (i / j)
noncomputable def gPow:=pI (fun i j=>(0<=j/\j<=1000000)/\i.natAbs<18446744073709551616) fun i j=>.int (i ^ j.toNat)
noncomputable def gLt:=pI0 fun i j=>.bl (decide (i<j))
noncomputable def gLe:=pI0 fun i j=>.bl (decide (i<=j))
noncomputable def gGt:=pI0 fun i j=>.bl (decide (j<i))
noncomputable def gGe:=pI0 fun i j=>.bl (decide (j<=i))
noncomputable def zfS:Ent->Option Ent:=fun x=>(iOf x).map fun i=>.val (.int (-i))
section
variable {X:Cx}
theorem zcc:OpD X (binaryOp .Add) zbX:=⟨_,op_add,zhf fun _ _ _=>.int _⟩
theorem zep:OpD X (binaryOp .Sub) zgD:=⟨_,op_sub,zhf fun _ _ _=>.int _⟩
theorem zfX:OpD X (binaryOp .Mult) zeB:=⟨_,op_mul,semI (fun _ _ h=>h) fun _ _ _=>.int _⟩
theorem zcb:OpD X (binaryOp .Mod) zbO:=⟨_,op_mod,semI (fun _ _ h=>h) fun _ _ _=>.int _⟩
theorem zeX:OpD X (binaryOp .FloorDiv) zd3:=⟨_,op_fdiv,semI (fun _ _ h=>h) fun _ _ _=>.int _⟩
theorem o_pow:OpD X (binaryOp .Pow) gPow:=⟨_,op_pow,semI (fun _ _ h=>⟨h.1.1,h.1.2,h.2⟩) fun _ _ _=>.int _⟩
theorem o_lt:OpD X (compareOp .Lt) gLt:=⟨_,op_lt,zhf fun _ _ _=>.bl _⟩
theorem o_le:OpD X (compareOp .LtE) gLe:=⟨_,op_le,zhf fun _ _ _=>.bl _⟩
theorem o_gt:OpD X (compareOp .Gt) gGt:=⟨_,op_gt,zhf fun _ _ _=>.bl _⟩
theorem o_ge:OpD X (compareOp .GtE) gGe:=⟨_,op_ge,zhf fun _ _ _=>.bl _⟩
theorem ze8:UnD X (unaryOp .USub) zfS:=⟨_,un_neg,fun H0 F H x e res Q fh hh r q k=>by
 obtain⟨i,q1,q⟩:=map_some q
 cases zaw q1
 cases q
 cases zaI r
 exact⟨i,rfl,k _ F H (Ex.refl fh) (.int _)⟩⟩
end
noncomputable def zhi(d d':D):Option Bool:=match d with
 | .non=>(match d' with | .non=>some true | .int _=>some false | .bl _=>some false | .str _=>some false | _=>none)
 | .int i=>(match d' with | .int j=>some (decide (i=j)) | .non=>some false | .str _=>some false | _=>none)
 | .bl i=>(match d' with | .bl j=>some (decide (i=j)) | .non=>some false | .str _=>some false | _=>none)
 | .str i=>(match d' with | .str j=>some (decide (i=j)) | .non=>some false | .int _=>some false | .bl _=>some false | _=>none)
 | _=>none
noncomputable def gEq:Ent->Ent->Option Ent
 | .val d,.val d'=>(zhi d d').map fun b=>.val (.bl b)
 | _,_=>none
noncomputable def gNe:Ent->Ent->Option Ent
 | .val d,.val d'=>(zhi d d').map fun b=>.val (.bl (!b))
 | _,_=>none
theorem scEq_ok{F:Hp}{x y:V}{d d':D}{b:Bool}(rx:Rep F x d)(ry:Rep F y d')(q:zhi d d'=some b):scal x y=true/\decide (x=y)=b:=by
 cases rx <;> first | (cases q;done) | (cases ry <;> first | (cases q;done) | (cases q;exact⟨rfl,by simp⟩))
noncomputable def isN:Ent->Bool
 | .val .non=>true
 | _=>false
noncomputable def gIsN:Ent->Ent->Option Ent
 | x,.val .non=>some (.val (.bl (isN x)))
 | _,_=>none
noncomputable def gNoN:Ent->Ent->Option Ent
 | x,.val .non=>some (.val (.bl (!isN x)))
 | _,_=>none
theorem isN_ok{K:PySem.W.Frag}{H0 F H:Hp}{x:V}{e:Ent}(r:RepR K H0 F H x e):decide (x=.non)=isN e:=by
 cases e with
 | val d=>cases r <;> simp[isN]
 | own ds=>obtain⟨l,vs,e,_⟩:=r;subst e;simp[isN]
 | bor ds=>obtain⟨l,vs,e,_⟩:=r;subst e;simp[isN]
 | vw ds=>obtain⟨l,vs,e,_⟩:=r;subst e;simp[isN]
 | bt ds=>obtain⟨l,vs,e,_⟩:=r;subst e;simp[isN]
 | obj o=>obtain⟨⟨l,e⟩,_⟩:=r;subst e;simp[isN]
noncomputable def sOf:Ent->Option Str
 | .val (.str i)=>some i
 | _=>none
theorem zbB{e:Ent}{i:Str}(h:sOf e=some i):e=.val (.str i):=by
 cases e with
 | val d=>cases d <;> first | (cases h;rfl) | (cases h)
 | _=>cases h
noncomputable def inS(i j:Str):Bool:=!(Builtin.Str.occurrences j i 0 j.length 1).isEmpty
noncomputable def gInS:Ent->Ent->Option Ent:=fun x y=>(sOf x).bind fun i=>(sOf y).map fun j=>.val (.bl (inS i j))
noncomputable def gNiS:Ent->Ent->Option Ent:=fun x y=>(sOf x).bind fun i=>(sOf y).map fun j=>.val (.bl (!inS i j))
noncomputable def gAddS:Ent->Ent->Option Ent:=fun x y=>(sOf x).bind fun i=>(sOf y).bind fun j=>gif (sz (i.length+j.length)) (some (.val (.str (i ++ j))))
theorem zcV{n:Nat}(h:n<=1000000):n<=sizeLine:=by rw[sizeLine_eq];lia
section
variable {X:Cx}
theorem o_eq:OpD X (compareOp .Eq) gEq:=⟨_,op_eq,fun H0 F H x y e e' res Q fh hh rx ry q k=>by
 cases e with
 | val d=>
  cases e' with
  | val d'=>
   obtain⟨b,q1,q⟩:=map_some q
   cases q
   obtain⟨h1,h2⟩:=scEq_ok rx ry q1
   exact⟨h1,by rw[h2];exact k _ F H (Ex.refl fh) (.bl _)⟩
  | _=>cases q
 | _=>cases q⟩
theorem o_ne:OpD X (compareOp .NotEq) gNe:=⟨_,op_ne,fun H0 F H x y e e' res Q fh hh rx ry q k=>by
 cases e with
 | val d=>
  cases e' with
  | val d'=>
   obtain⟨b,q1,q⟩:=map_some q
   cases q
   obtain⟨h1,h2⟩:=scEq_ok rx ry q1
   exact⟨h1,by rw[h2];exact k _ F H (Ex.refl fh) (.bl _)⟩
  | _=>cases q
 | _=>cases q⟩
theorem o_isN:OpD X (compareOp .Is) gIsN:=⟨_,op_isN,fun H0 F H x y e e' res Q fh hh rx ry q k=>by
 unfold gIsN at q
 split at q
 ·cases q
  exact⟨zfE ry,by rw[isN_ok rx];exact k _ F H (Ex.refl fh) (.bl _)⟩
 ·cases q⟩
theorem o_noN:OpD X (compareOp .IsNot) gNoN:=⟨_,op_notN,fun H0 F H x y e e' res Q fh hh rx ry q k=>by
 unfold gNoN at q
 split at q
 ·cases q
  exact⟨zfE ry,by rw[isN_ok rx];exact k _ F H (Ex.refl fh) (.bl _)⟩
 ·cases q⟩
theorem o_inS:OpD X (compareOp .In) gInS:=⟨_,op_in_str,fun H0 F H x y e e' res Q fh hh rx ry q k=>by
 obtain⟨i,q1,q⟩:=bind_some q
 obtain⟨j,q2,q⟩:=map_some q
 cases zbB q1
 cases zbB q2
 cases q
 exact⟨i,j,zb3 rx,zb3 ry,k _ F H (Ex.refl fh) (.bl _)⟩⟩
theorem o_niS:OpD X (compareOp .NotIn) gNiS:=⟨_,ze9,fun H0 F H x y e e' res Q fh hh rx ry q k=>by
 obtain⟨i,q1,q⟩:=bind_some q
 obtain⟨j,q2,q⟩:=map_some q
 cases zbB q1
 cases zbB q2
 cases q
 exact⟨i,j,zb3 rx,zb3 ry,k _ F H (Ex.refl fh) (.bl _)⟩⟩
theorem o_addS:OpD X (binaryOp .Add) gAddS:=⟨_,zgT,fun H0 F H x y e e' res Q fh hh rx ry q k=>by
 obtain⟨i,q1,q⟩:=bind_some q
 obtain⟨j,q2,q⟩:=bind_some q
 obtain⟨hl,qz⟩:=za0 q
 cases zbB q1
 cases zbB q2
 cases qz
 exact⟨i,j,zb3 rx,zb3 ry,zcV hl,k _ F H (Ex.refl fh) (.str _)⟩⟩
end
noncomputable def zbQ:Ent->Ent->Option Ent:=fun x y=>(asL x).bind fun ds=>(iOf y).bind fun i=>(atI ds i).map .val
noncomputable def zdx:Ent->Option (List D)
 | .val (.tup ds)=>some ds
 | _=>none
theorem zcy{e:Ent}{ds:List D}(h:zdx e=some ds):e=.val (.tup ds):=by
 cases e with
 | val d=>cases d <;> first | (cases h;rfl) | (cases h)
 | _=>cases h
noncomputable def zeW:Ent->Ent->Option Ent:=fun x y=>(zdx x).bind fun ds=>(iOf y).bind fun i=>(atI ds i).map .val
noncomputable def btOf:Ent->Option (List D)
 | .bt ds=>some ds
 | _=>none
theorem btOf_some{e:Ent}{ds:List D}(h:btOf e=some ds):e=.bt ds:=by
 cases e with
 | bt d=>cases h;rfl
 | _=>cases h
noncomputable def zg8:Ent->Ent->Option Ent:=fun x y=>(btOf x).bind fun ds=>(iOf y).bind fun i=>(atI ds i).map .val
noncomputable def mkS(l:List Nat):Str:=⟨l.toArray⟩
noncomputable def zhh:Ent->Ent->Option Ent:=fun x y=>(sOf x).bind fun z=>(iOf y).bind fun i=>gif (sz z.length) ((atI z.cps.toList i).map fun c=>.val (.str (mkS [c])))
theorem zfC{F:Hp}{vs:List V}{ds:List D}{i:Int}{d:D}(r:Reps F vs ds)(q:atI ds i=some d):∃ v,atI vs i=some v/\Rep F v d:=by
 unfold atI at q ⊢
 obtain⟨j,q1,q⟩:=bind_some q
 obtain⟨v,h1,h2⟩:=r.get q
 exact⟨v,by rw[r.length,q1];exact h1,h2⟩
section
variable {X:Cx}
theorem zbv:IxD X zbQ:=⟨_,ix_list,fun H0 F H x y e e' res Q fh hh rx ry q k=>by
 obtain⟨ds,q1,q⟩:=bind_some q
 obtain⟨i,q2,q⟩:=bind_some q
 obtain⟨d,q3,q⟩:=map_some q
 cases q
 cases zaw q2
 obtain⟨l,vs,e,h1,h2⟩:=RepR.toL rx fh q1
 obtain⟨v,h3,h4⟩:=zfC h2 q3
 exact⟨l,vs,i,v,e,zaI ry,h1,h3,k v F H (Ex.refl fh) h4⟩⟩
theorem zdf:IxD X zeW:=⟨_,ix_tup,fun H0 F H x y e e' res Q fh hh rx ry q k=>by
 obtain⟨ds,q1,q⟩:=bind_some q
 obtain⟨i,q2,q⟩:=bind_some q
 obtain⟨d,q3,q⟩:=map_some q
 cases q
 cases zaw q2
 cases zcy q1
 cases (show Rep F x (.tup ds) from rx) with
 | tup e rs=>
  obtain⟨v,h3,h4⟩:=zfC rs q3
  exact⟨_,_,i,v,rfl,zaI ry,SqT.of (fh _ _ e),h3,k v F H (Ex.refl fh) h4⟩⟩
theorem x_bt:IxD X zg8:=⟨_,ix_tup,fun H0 F H x y e e' res Q fh hh rx ry q k=>by
 obtain⟨ds,q1,q⟩:=bind_some q
 obtain⟨i,q2,q⟩:=bind_some q
 obtain⟨d,q3,q⟩:=map_some q
 cases q
 cases zaw q2
 cases btOf_some q1
 obtain⟨l,vs,e,h1,h2⟩:=rx
 obtain⟨v,h3,h4⟩:=zfC h2 q3
 exact⟨l,vs,i,v,e,zaI ry,h1,h3,k v F H (Ex.refl fh) h4⟩⟩
theorem zg5:IxD X zhh:=⟨_,ix_str,fun H0 F H x y e e' res Q fh hh rx ry q k=>by
 obtain⟨z,q1,q⟩:=bind_some q
 obtain⟨i,q2,q⟩:=bind_some q
 obtain⟨hl,qz⟩:=za0 q
 obtain⟨c,q3,qz⟩:=map_some qz
 cases qz
 cases zaw q2
 cases zbB q1
 exact⟨z,i,c,zb3 rx,zaI ry,zcV hl,q3,k _ F H (Ex.refl fh) (.str _)⟩⟩
end
noncomputable def gCat:Ent->Ent->Option Ent:=fun x y=>(asLt x).bind fun ds=>(asLt y).bind fun es=>gif (sz (ds.length+es.length)) (some (.own (ds ++ es)))
section
variable {X:Cx}
theorem o_cat:OpD X (binaryOp .Add) gCat:=⟨_,op_cat,fun H0 F H x y e e' res Q fh hh rx ry q k=>by
 obtain⟨ds,q1,q⟩:=bind_some q
 obtain⟨es,q2,q⟩:=bind_some q
 obtain⟨hl,qz⟩:=za0 q
 cases qz
 obtain⟨l,vs,e,h1,h2⟩:=RepR.toLt rx fh q1
 obtain⟨l',ws,e',h1',h2'⟩:=RepR.toLt ry fh q2
 refine⟨l,l',vs,ws,e,e',h1,h1',by rw[h2.length,h2'.length];exact zcV hl,fun p hp=>?_⟩
 exact k _ _ _ (Ex.lay fh hp) ⟨p,_,rfl,hh.free hp,zag,h2.append h2',fh.free hp⟩⟩
end
noncomputable abbrev FO:=En->Option (Option Int)
noncomputable def oNo:FO:=fun _=>some none
noncomputable def oSo(fe:FE):FO:=fun δ=>((fe δ).bind iOf).map some
noncomputable def SemO(K:PySem.W.Frag)(t:TO)(f:FO):Prop:=∀ (B:Bd) (F H:Hp) (σ:Sg) (δ:En) (o:Option Int) (Q:Option Int->Hp->Prop),RS K B F H σ δ->f δ=some o->(∀ F' H',Ex F H F' H'->Q o H')->t σ H Q
structure VO(X:Cx)(e:Option Expr)(f:FO):Prop where
 h:∃ t,WO X e t/\SemO X.K t f
noncomputable def SemL(K:PySem.W.Frag)(r:V->Option Int->Option Int->Hp->VK->Prop)(g:Ent->Option Int->Option Int->Option Ent):Prop:=∀ (H0 F H:Hp) (x:V) (lo hi:Option Int) (e res:Ent) (Q:VK),Same F H->Same H0 H->RepR K H0 F H x e->g e lo hi=some res ->
 (∀ v F' H',Ex F H F' H'->RepR K H0 F' H' v res->Q v H')->r x lo hi H Q
noncomputable def SlD(X:Cx)(g:Ent->Option Int->Option Int->Option Ent):Prop:=∃ r,SlR X r/\SemL X.K r g
noncomputable def eSl(g:Ent->Option Int->Option Int->Option Ent)(fe:FE)(fl fu:FO):FE:=fun δ=>(fe δ).bind fun x=>(fl δ).bind fun l=>(fu δ).bind fun u=>g x l u
noncomputable def zgB{α:Type}(xs:List α)(lo hi:Option Int):List α:=(xs.drop (HT.sIx xs.length 0 lo)).take (HT.sIx xs.length xs.length hi - HT.sIx xs.length 0 lo)
noncomputable def gSlL:Ent->Option Int->Option Int->Option Ent:=fun x lo hi=>(asL x).map fun ds=>.own (zgB ds lo hi)
theorem Reps.cut{F:Hp}{vs:List V}{ds:List D}(r:Reps F vs ds)(lo hi:Option Int):Reps F (cutV vs lo hi) (zgB ds lo hi):=by
 unfold cutV zgB
 rw[r.length]
 exact(r.drop _).take _
section
variable {X:Cx}{e:Expr}{lo hi:Option Expr}{fe:FE}{fl fu:FO}{pos p2:Pos}
theorem von:VO X none oNo:=⟨_,won,fun B F H σ δ o Q s q k=>by cases q;exact k F H (Ex.refl s.fh)⟩
theorem vos(h:VE X e fe):VO X (some e) (oSo fe):=by
 obtain⟨t,w,m⟩:=h.h
 refine⟨_,wos w,fun B F H σ δ o Q s q k=>?_⟩
 obtain⟨i,q1,q⟩:=map_some q
 cases q
 obtain⟨r,q2,q3⟩:=bind_some q1
 cases zaw q3
 exact m B F H σ δ _ _ s q2 fun v F1 H1 x1 r1=>⟨i,zaI r1,k F1 H1 x1⟩
theorem vsl{g:Ent->Option Int->Option Int->Option Ent}(hr:SlD X g)(he:VE X e fe)(hl:VO X lo fl)(hu:VO X hi fu):VE X (.Subscript e (.Slice lo hi none p2) pos) (eSl g fe fl fu):=by
 obtain⟨t,w,m⟩:=he.h
 obtain⟨t1,w1,m1⟩:=hl.h
 obtain⟨t2,w2,m2⟩:=hu.h
 obtain⟨rr,hr1,hr2⟩:=hr
 refine⟨_,wslice hr1 w w1 w2,fun B F H σ δ res Q s q k=>?_⟩
 obtain⟨x,q1,q⟩:=bind_some q
 obtain⟨l,q2,q⟩:=bind_some q
 obtain⟨u,q3,q⟩:=bind_some q
 refine m B F H σ δ x _ s q1 fun v F1 H1 x1 r1=>?_
 refine m1 B F1 H1 σ δ l _ (s.ext x1) q2 fun F2 H2 x2=>?_
 refine m2 B F2 H2 σ δ u _ ((s.ext x1).ext x2) q3 fun F3 H3 x3=>?_
 have xx:=(x1.trans x2).trans x3
 exact hr2 H F3 H3 v l u x res Q xx.fh xx.hh ((r1.ext x2).ext x3) q fun v' F' H' x4 r4=>k v' F' H' (xx.trans x4) r4
theorem l_list:SlD X gSlL:=⟨_,sl_list,fun H0 F H x lo hi e res Q fh hh rx q k=>by
 obtain⟨ds,q1,q⟩:=map_some q
 cases q
 obtain⟨l,vs,e,h1,h2⟩:=RepR.toL rx fh q1
 exact⟨l,vs,e,h1,fun p hp=>k _ _ _ (Ex.lay fh hp) ⟨p,_,rfl,hh.free hp,zag,h2.cut lo hi,fh.free hp⟩⟩⟩
end
noncomputable def zbN:List Ent->Option Ent
 | [x]=>match zdx x with
  | some ds=>some (.val (.int ds.length))
  | none=>(asL x).map fun ds=>.val (.int ds.length)
 | _=>none
noncomputable def zcL:List Ent->Option Ent
 | [x]=>(sOf x).bind fun z=>gif (sz z.length) (some (.val (.int z.length)))
 | _=>none
noncomputable def zc6:List Ent->Option Ent
 | [x]=>match zdx x with
  | some ds=>some (.own ds)
  | none=>(asL x).map fun ds=>.own ds
 | _=>none
noncomputable def zdX:List Ent->Option Ent
 | [x]=>(asL x).map fun ds=>.val (.tup ds)
 | _=>none
noncomputable def zco:List Ent->Option Ent
 | [.val (.int i)]=>some (.val (.int i))
 | [.val (.bl b)]=>some (.val (.int (if b then 1 else 0)))
 | _=>none
theorem zct{K:PySem.W.Frag}{H0 F H:Hp}{vs:List V}{x:Ent}(r:RepRs K H0 F H vs [x]):∃ v,vs=[v]/\RepR K H0 F H v x:=by
 cases r with
 | cons h t=>cases t;exact⟨_,rfl,h⟩
theorem zed{g:List Ent->Option Ent}{es:List Ent}{res:Ent}(h0:g []=none)(h2:∀ a b r,g (a :: b :: r)=none)(q:g es=some res):∃ x,es=[x]:=by
 match es,q with
 | [],q=>rw[h0] at q;cases q
 | [x],_=>exact⟨x,rfl⟩
 | a :: b :: r,q=>rw[h2] at q;cases q
theorem RepR.seq{K:PySem.W.Frag}{H0 F H:Hp}{v:V}{x:Ent}{ds:List D}(r:RepR K H0 F H v x)(fh:Same F H)(q:zdx x=some ds \/ asL x=some ds):∃ l vs,v=.ref l/\(SqL K H l vs \/ SqT K H l vs)/\Reps F vs ds:=by
 rcases q with q | q
 ·cases zcy q
  cases (show Rep F v (.tup ds) from r) with
  | tup e rs=>exact⟨_,_,rfl,.inr (SqT.of (fh _ _ e)),rs⟩
 ·obtain⟨l,vs,e,h1,h2⟩:=RepR.toL r fh q
  exact⟨l,vs,e,.inl h1,h2⟩
section
variable {X:Cx}
theorem zdq:zdO X (.builtin "len") zbN:=⟨_,ze1,fun H0 F H vs es res Q fh hh r q k=>by
 obtain⟨x,rfl⟩:=zed rfl (fun _ _ _=>rfl) q
 obtain⟨v,rfl,rz⟩:=zct r
 have go:∀ ds,(zdx x=some ds \/ asL x=some ds)->res=.val (.int ds.length)->∃ p ys,[v]=[V.ref p]/\(SqL X.K H p ys \/ SqT X.K H p ys)/\Q (.int ys.length) H:=fun ds h e=>by
  obtain⟨l,ws,e',h1,h2⟩:=RepR.seq rz fh h
  subst e e'
  exact⟨l,ws,rfl,h1,by rw[h2.length];exact k _ F H (Ex.refl fh) (.int _)⟩
 simp only[zbN] at q
 split at q
 ·rename_i ds h;exact go ds (.inl h) (Option.some.inj q).symm
 ·obtain⟨ds,h,q⟩:=map_some q;exact go ds (.inr h) q.symm⟩
theorem zfe:zdO X (.builtin "len") zcL:=⟨_,zeZ,fun H0 F H vs es res Q fh hh r q k=>by
 obtain⟨x,rfl⟩:=zed rfl (fun _ _ _=>rfl) q
 obtain⟨v,rfl,rz⟩:=zct r
 obtain⟨z,q1,q⟩:=bind_some q
 obtain⟨hl,qz⟩:=za0 q
 cases qz
 cases zbB q1
 cases zb3 rz
 exact⟨z,rfl,zcV hl,k _ F H (Ex.refl fh) (.int _)⟩⟩
theorem c_listQ:zdO X (.type "list") zc6:=⟨_,zfo,fun H0 F H vs es res Q fh hh r q k=>by
 obtain⟨x,rfl⟩:=zed rfl (fun _ _ _=>rfl) q
 obtain⟨v,rfl,rz⟩:=zct r
 have go:∀ ds,(zdx x=some ds \/ asL x=some ds)->res=.own ds->∃ p ys,[v]=[V.ref p]/\(SqL X.K H p ys \/ SqT X.K H p ys)/\∀ l,H l=none->Q (.ref l) (upd H l (.lst ys)):=fun ds h e=>by
  obtain⟨l,ws,e',h1,h2⟩:=RepR.seq rz fh h
  subst e e'
  exact⟨l,ws,rfl,h1,fun p hp=>k _ _ _ (Ex.lay fh hp) ⟨p,_,rfl,hh.free hp,zag,h2,fh.free hp⟩⟩
 simp only[zc6] at q
 split at q
 ·rename_i ds h;exact go ds (.inl h) (Option.some.inj q).symm
 ·obtain⟨ds,h,q⟩:=map_some q;exact go ds (.inr h) q.symm⟩
theorem ze0:zdO X (.type "tuple") zdX:=⟨_,zeK,fun H0 F H vs es res Q fh hh r q k=>by
 obtain⟨x,rfl⟩:=zed rfl (fun _ _ _=>rfl) q
 obtain⟨v,rfl,rz⟩:=zct r
 obtain⟨ds,q1,q⟩:=map_some q
 cases q
 obtain⟨l,ws,e',h1,h2⟩:=RepR.toL rz fh q1
 subst e'
 exact⟨l,ws,rfl,.inl ⟨h1,fun p hp=>k _ _ _ (Ex.alloc fh hp) (.tup zag (h2.mono (Same.alloc (fh.free hp))))⟩⟩⟩
theorem zgM:zdO X (.type "int") zco:=⟨_,call_int1,fun H0 F H vs es res Q fh hh r q k=>by
 unfold zco at q
 split at q
 ·cases q
  obtain⟨v,rfl,rz⟩:=zct r
  cases zaI rz
  exact .inl ⟨_,rfl,k _ F H (Ex.refl fh) (.int _)⟩
 ·cases q
  obtain⟨v,rfl,rz⟩:=zct r
  cases zgk rz
  exact .inr ⟨_,rfl,k _ F H (Ex.refl fh) (.int _)⟩
 ·cases q⟩
end
noncomputable def tyN:D->String
 | .non=> "NoneType" | .bl _=> "bool" | .int _=> "int" | .str _=> "str" | .tup _=> "tuple" | .lst _=> "list" | .dic _ _=> "dict" | .ins _ _ _=> "" | .dcI _ _=> ""
noncomputable def obD:D->Bool
 | .ins _ _ _=>true | .dcI _ _=>true | .non=>false | .bl _=>false | .int _=>false | .str _=>false | .tup _=>false | .lst _=>false | .dic _ _=>false
noncomputable def isiD(T:String)(d:D):Bool:=tyN d == T || (T == "int" && tyN d == "bool")
noncomputable def gIsi(T:String):Ent->Option Ent
 | .val d=>if obD d=true then none else some (.val (.bl (isiD T d)))
 | _=>none
theorem kit_all{K:PySem.W.Frag}{T:String}(hT:T = "bool" \/ T = "int" \/ T = "str" \/ T = "tuple" \/ T = "list")(d:D)(h:obD d=false):PySem.W.kitOne K (.type (tyN d)) (.type T)=some (isiD T d):=by
 rcases hT with rfl | rfl | rfl | rfl | rfl <;> cases d <;> first | (cases h;done) | kernel_rfl
theorem rep_ty{K:PySem.W.Frag}{F H:Hp}{v:V}{d:D}(fh:Same F H)(r:Rep F v d)(h:obD d=false):TyOf K H v (.type (tyN d)):=by
 cases r with
 | non=>exact .non
 | bl b=>exact .bl b
 | int i=>exact .int i
 | str z=>exact .str z
 | tup e _=>exact .tup (fh _ _ e)
 | lst e _=>exact .lst (fh _ _ e)
 | dic e _ _=>exact .dK (.inr ⟨_,fh _ _ e⟩)
 | ins _ _ _=>cases h
 | dcI _ _ _ _=>cases h
section
variable {X:Cx}{a:Expr}{fa:FE}{x:Str}{p p1 pos:Pos}{T:String}{Tn:Str}
theorem visi(ha:VE X a fa)(hg:Gl X "isinstance")(hm:X.mg "isinstance" = none)(hb:bootBuiltins "isinstance" = some (.builtin "isinstance"))(hgT:Gl X Tn)(hmT:X.mg Tn=none)(hbT:bootBuiltins Tn=some (.type T))(hT:T = "bool" \/ T = "int" \/ T = "str" \/ T = "tuple" \/ T = "list" :=by decide)
  (h1:zak a=true:=by rfl) (hn:Tn ≠ "__name__" :=by decide) (hd:(Tn == ("__debug__" : Str))=false:=by decide):VE X (.Call (.Name "isinstance" p) [a,.Name Tn p1] [] pos) (ex1 (gIsi T) fa):=by
 obtain⟨t,w,m⟩:=ha.h
 refine⟨_,wcb call_isi hg hm hb (wac w (wac (wbt hgT hmT hbT hn hd) wnil) h1) (h1:=h1),fun B F H σ δ res Q s q k=>?_⟩
 obtain⟨e,q1,q⟩:=bind_some q
 cases e with
 | val d=>
  have q':(if obD d=true then none else some (Ent.val (.bl (isiD T d))))=some res:=q
  cases ho:obD d with
  | true=>rw[if_pos ho] at q';cases q'
  | false=>
   rw[if_neg (by rw[ho];exact Bool.false_ne_true)] at q'
   cases q'
   exact m B F H σ δ _ _ s q1 fun v F1 H1 x1 r1=>⟨v,T,_,_,rfl,rep_ty x1.fh r1 ho,kit_all hT d ho,k _ F1 H1 x1 (.bl _)⟩
 | _=>cases q
end
noncomputable def iL(fe:FE):FI:=fun δ=>(fe δ).bind fun x=>match x with
 | .val (.lst ds)=>some ds
 | .own ds=>some ds
 | _=>none
noncomputable def iB(i:Nat):FI:=fun δ=>match δ[i]? with
 | some (some (.bor ds))=>some ds
 | _=>none
noncomputable def iT(fe:FE):FI:=fun δ=>(fe δ).bind zdx
noncomputable def b62(j:Int):Prop:=-(2 ^ 62)<=j/\j<2 ^ 62
theorem zbT{j:Int}(h:-1000000000<j/\j<1000000000):b62 j:=by unfold b62;lia
theorem zcG{j:Int}(h:-1000000000<j/\j<1000000000):b62 j=True:=eq_true (zbT h)
noncomputable def iR1(fa:FA):FI:=fun δ=>(fa δ).bind fun es=>match es with
 | [e]=>(iOf e).bind fun j=>gif (b62 j) (some ((List.range j.toNat).map fun(i:Nat)=>D.int (0+i)))
 | _=>none
noncomputable def iR2(fa:FA):FI:=fun δ=>(fa δ).bind fun es=>match es with
 | [e,e']=>(iOf e).bind fun i=>(iOf e').bind fun j=>gif (b62 i/\b62 j) (some ((List.range (j - i).toNat).map fun(k:Nat)=>D.int (i+k)))
 | _=>none
theorem zcZ{K:PySem.W.Frag}{B F0:Hp}{a:Addr}{vs:List V}{ds:List D}(h:∀ F H,Same F0 F->Same F H->Same B H->SqL K H a vs)(r:Reps F0 vs ds):ItOk B F0 (Itl K a) ds:=fun F H s1 s2 s3=>by
 have hq:=h F H s1 s2 s3
 refine⟨⟨vs,hq,by rw[r.length];exact Nat.le_refl _⟩,fun i d e=>?_⟩
 obtain⟨v,h1,h2⟩:=r.get e
 refine⟨⟨vs,v,hq,h1⟩,fun x H' y=>?_⟩
 obtain⟨e',y⟩:=y
 subst e'
 have:=y vs hq
 rw[h1] at this
 cases this
 exact⟨F,Ex.refl s2,Rep.mono s1 h2⟩
theorem itOk_tup{K:PySem.W.Frag}{B F0:Hp}{a:Addr}{vs:List V}{ds:List D}(h:F0 a=some (.tup vs))(r:Reps F0 vs ds):ItOk B F0 (Itt K a) ds:=fun F H s1 s2 s3=>by
 have hq:SqT K H a vs:=SqT.of (s2 _ _ (s1 _ _ h))
 refine⟨⟨vs,hq,by rw[r.length];exact Nat.le_refl _⟩,fun i d e=>?_⟩
 obtain⟨v,h1,h2⟩:=r.get e
 refine⟨⟨vs,v,hq,h1⟩,fun x H' y=>?_⟩
 obtain⟨e',y⟩:=y
 subst e'
 have:=y vs hq
 rw[h1] at this
 cases this
 exact⟨F,Ex.refl s2,Rep.mono s1 h2⟩
theorem zgn{B F0:Hp}{lo:Int}{n:Nat}:ItOk B F0 (Itr lo n) ((List.range n).map fun(i:Nat)=>D.int (lo+i)):=fun F H s1 s2 s3=>by
 refine⟨by simp[Itr],fun i d e=>?_⟩
 rw[List.getElem?_map] at e
 by_cases hi:i<n
 ·rw[List.getElem?_range hi] at e
  cases e
  refine⟨hi,fun x H' y=>?_⟩
  obtain⟨e',y⟩:=y
  subst e' y
  exact⟨F,Ex.refl s2,.int _⟩
 ·rw[List.getElem?_eq_none (by simp;lia)] at e;cases e
section
variable {X:Cx}{tg e b:Expr}{es:List Expr}{fe:FE}{fa:FA}{p pos:Pos}{x:Str}
theorem iil(h:VE X e fe):VI X tg e (iL fe):=by
 obtain⟨t,w,m⟩:=h.h
 refine⟨_,il w,fun B F H σ δ ds R s q k=>?_⟩
 obtain⟨r,q1,q⟩:=bind_some q
 refine m B F H σ δ r _ s q1 fun v F1 H1 x1 r1=>?_
 split at q
 ·cases q
  cases (show Rep F1 v (.lst ds) from r1) with
  | lst e rs=>exact⟨_,rfl,⟨_,SqL.of (x1.fh _ _ e)⟩,k _ F1 H1 x1 (zcZ (fun F H s1 s2 _=>SqL.of (s2 _ _ (s1 _ _ e))) rs)⟩
 ·cases q
  obtain⟨F2,x2,_,r2⟩:=RepR.frz x1 (Same.refl _) r1 rfl
  cases r2 with
  | lst e rs=>exact⟨_,rfl,⟨_,SqL.of (x2.fh _ _ e)⟩,k _ F2 H1 x2 (zcZ (fun F H s1 s2 _=>SqL.of (s2 _ _ (s1 _ _ e))) rs)⟩
 ·cases q
theorem iib(i:Nat)(hN:X.N[i]? = some x:=by rfl)(hv:Vis X.env.scope x:=by first | exact Or.inl rfl | exact Or.inr (Or.inl rfl) | exact Or.inr (Or.inr rfl))(hd:(x == ("__debug__" : Str))=false:=by decide)
  (hcd:(x == ("__classdict__" : Str))=false:=by decide):VI X tg (.Name x pos) (iB i):=by
 refine⟨_,il (wv i hN hv hd hcd),fun B F H σ δ ds R s q k=>?_⟩
 unfold iB at q
 split at q
 ·rename_i es e
  cases q
  obtain⟨v,h1,l,vs,e,h2,h3⟩:=s.ent i _ e
  exact⟨v,h1,l,e,⟨vs,s.bh.seq h2⟩,k _ F H (Ex.refl s.fh) (zcZ (fun F H _ _ s3=>s3.seq h2) h3)⟩
 ·cases q
theorem iit(h:VE X e fe):VI X tg e (iT fe):=by
 obtain⟨t,w,m⟩:=h.h
 refine⟨_,it w,fun B F H σ δ ds R s q k=>?_⟩
 obtain⟨r,q1,q⟩:=bind_some q
 refine m B F H σ δ r _ s q1 fun v F1 H1 x1 r1=>?_
 cases zcy q
 cases (show Rep F1 v (.tup ds) from r1) with
 | tup e rs=>exact⟨_,rfl,⟨_,SqT.of (x1.fh _ _ e)⟩,k _ F1 H1 x1 (itOk_tup e rs)⟩
theorem iir1(hg:Gl X "range")(hm:X.mg "range" = none)(ha:VA X [e] fa)(h1:zak e=true:=by rfl):VI X tg (.Call (.Name "range" p) [e] [] pos) (iR1 fa):=by
 obtain⟨t,w,m⟩:=ha.h
 refine⟨_,ir1 hg hm w h1,fun B F H σ δ ds R s q k=>?_⟩
 obtain⟨es,q1,q⟩:=bind_some q
 refine m B F H σ δ es _ s q1 fun vs F1 H1 x1 r1=>?_
 split at q
 ·obtain⟨j,q2,q⟩:=bind_some q
  obtain⟨hj,qz⟩:=za0 q
  cases qz
  cases zaw q2
  obtain⟨v,rfl,rz⟩:=zct r1
  cases zaI rz
  exact⟨j,rfl,hj.1,hj.2,k _ F1 H1 x1 zgn⟩
 ·cases q
theorem iir2(hg:Gl X "range")(hm:X.mg "range" = none)(ha:VA X [e,b] fa)(h1:zak e=true:=by rfl)(h2:zak b=true:=by rfl):VI X tg (.Call (.Name "range" p) [e,b] [] pos) (iR2 fa):=by
 obtain⟨t,w,m⟩:=ha.h
 refine⟨_,ir2 hg hm w h1 h2,fun B F H σ δ ds R s q k=>?_⟩
 obtain⟨es,q1,q⟩:=bind_some q
 refine m B F H σ δ es _ s q1 fun vs F1 H1 x1 r1=>?_
 split at q
 ·obtain⟨i,q2,q⟩:=bind_some q
  obtain⟨j,q3,q⟩:=bind_some q
  obtain⟨hj,qz⟩:=za0 q
  cases qz
  cases zaw q2
  cases zaw q3
  cases r1 with
  | cons ra rt=>
   obtain⟨w',rfl,rb⟩:=zct rt
   cases zaI ra
   cases zaI rb
   exact⟨i,j,rfl,⟨hj.1.1,hj.1.2,hj.2.1,hj.2.2⟩,k _ F1 H1 x1 zgn⟩
 ·cases q
end
end L3

namespace L3
open PySem PySem.Spec PyProof.Rows L2
section
variable {prog:Program}{w:World}{A:Around}{R:Result->Shared->Prop}{I:Addr}{fp wr:List Addr}{n:Nat}{P:Nat->Value->Prop}{St:Nat->Heap->Prop}{kw:List (Str × Value)}
theorem mloop(W:Walks prog w A.in1 I fp wr n P St)(bt:Nat->Nat->Bool)(hc:CmpOf prog w A.in1 .Lt P bt)(S:Addr)(hSf:S ∉ fp) :
  ∀ (k j:Nat) (s:Shared) (vb:Value) (c:Nat),n - (j+1)=k->j+1<=n->St (j+1) s.heap->P (argBest bt j) vb ->
  s.heap.get? S=some { cls:=.type "list",dict:=none,data:=.seq #[vb,vb] c,slots:=#[]} ->
  (∀ v h' tk,P (argBest bt (n - 1)) v->(∀ b o,b ∉ wr->b ≠ S->s.heap.get? b=some o->h'.get? b=some o)->R (.ok (.ret v)) { s with heap:=h',toks:=tk}) ->
  codeAny (model prog w) A (.builtin "min.loop" ⟨[.ref I,.none,.ref S],kw⟩) R s:=by
 have hSw:S ∉ wr:=fun h=>hSf (W.sub _ h)
 have hnm:(toString "min" ++ toString ".loop" : String) = "min.loop" :=by decide
 intro k
 induction k with
 | zero=>
  intro j s vb c hk hj hst hPb hS hR
  have hin:j+1=n:=by lia
  refine codeAny_builtin PySem.F.entry_min_loop ?_
  rw[Around.under_plainId PySem.F.plain_min_loop _]
  show wpAny _ A.in1 (seqItems? (.ref S) >>= _) _ _ s
  refine wpAny_bind (wpAny_seqItems hS rfl ?_)
  show wpAny _ A.in1 (tryCatch (pyNext (.ref I)) _ >>= _) _ _ s
  refine wpAny_bind (wpAny_tryCatch (W.done s _ _ (hin ▸ hst) fun h' tk hk'=>?_))
  have hS':=hk' S _ hSw hS
  show wpAny _ A.in1 (updateSeq S (fun _=>#[]) >>= _) _ _ _
  refine wpAny_bind ?_
  refine wpAny_updateSeq hS' rfl (wpAny_bind (wpAny_letGo (wpAny_pure ?_)))
  exact hR vb _ tk (by rw[<- hin];exact hPb) fun b o hbw hbS e=>(Heap.get?_update_other _ _ (Ne.symm hbS)).trans (hk' b o hbw e)
 | succ k ih=>
  intro j s vb c hk hj hst hPb hS hR
  have hlt:j+1<n:=by lia
  refine codeAny_builtin PySem.F.entry_min_loop ?_
  rw[Around.under_plainId PySem.F.plain_min_loop _]
  show wpAny _ A.in1 (seqItems? (.ref S) >>= _) _ _ s
  refine wpAny_bind (wpAny_seqItems hS rfl ?_)
  show wpAny _ A.in1 (tryCatch (pyNext (.ref I)) _ >>= _) _ _ s
  refine wpAny_bind (wpAny_tryCatch (W.item (j+1) s _ _ hlt hst fun v h' tk hP hst' hk'=>?_))
  have hS':=hk' S _ hSw hS
  show wpAny _ A.in1 (tryCatch (holding [v,v] (richCompare .Lt v vb >>= _)) _ >>= _) _ _ _
  refine wpAny_bind (wpAny_tryCatch (wpAny_holding (wpAny_bind (hc (j+1) (argBest bt j) v vb _ _ _ hP hPb ?_))))
  refine wpAny_bind (wpAny_holding (wpAny_truthy_bool ?_))
  refine wpAny_bind (wpAny_letGo (wpAny_pure ?_))
  cases hb:bt (j+1) (argBest bt j) with
  | true=>
   simp only[if_true]
   refine wpAny_bind ?_
   refine wpAny_updateSeq hS' rfl (wpAny_bind (wpAny_letGo ?_))
   rw[hnm]
   refine wpAny_pure ⟨plainId_quiet PySem.F.plain_min_loop _,ih (j+1) _ v _ (by lia) hlt (W.frame _ _ _ hst' fun b hbf o e=>?_) (by simp only[argBest,hb,if_true];exact hP) (Heap.get?_update_self _ hS' rfl) fun v' h'' tk'' hP' hk''=>?_⟩
   ·exact(Heap.get?_update_other _ _ (fun h:S=b=>hSf (by rw[h];exact hbf))).trans e
   ·exact hR v' h'' tk'' hP' fun b o hbw hbS e=>hk'' b o hbw hbS ((Heap.get?_update_other _ _ (Ne.symm hbS)).trans (hk' b o hbw e))
  | false=>
   simp only[Bool.false_eq_true,if_false]
   refine wpAny_bind (wpAny_letGo ?_)
   rw[hnm]
   refine wpAny_pure ⟨plainId_quiet PySem.F.plain_min_loop _,ih (j+1) _ vb c (by lia) hlt hst' (by simp only[argBest,hb,Bool.false_eq_true,if_false];exact hPb) hS' fun v' h'' tk'' hP' hk''=>?_⟩
   exact hR v' h'' tk'' hP' fun b o hbw hbS e=>hk'' b o hbw hbS (hk' b o hbw e)
theorem mloop1(W:Walks prog w A.in1 I fp wr n P St)(bt:Nat->Nat->Bool)(hc:CmpOf prog w A.in1 .Lt P bt)(S:Addr)(hSf:S ∉ fp)(hn:0<n){s:Shared}{c:Nat}(hst:St 0 s.heap)
  (hS:s.heap.get? S=some { cls:=.type "list",dict:=none,data:=.seq #[] c,slots:=#[]})
  (hR:∀ v h' tk,P (argBest bt (n - 1)) v->(∀ b o,b ∉ wr->b ≠ S->s.heap.get? b=some o->h'.get? b=some o)->R (.ok (.ret v)) { s with heap:=h',toks:=tk}) :
  codeAny (model prog w) A (.builtin "min.loop" ⟨[.ref I,.none,.ref S],kw⟩) R s:=by
 have hSw:S ∉ wr:=fun h=>hSf (W.sub _ h)
 have hnm:(toString "min" ++ toString ".loop" : String) = "min.loop" :=by decide
 refine codeAny_builtin PySem.F.entry_min_loop ?_
 rw[Around.under_plainId PySem.F.plain_min_loop _]
 show wpAny _ A.in1 (seqItems? (.ref S) >>= _) _ _ s
 refine wpAny_bind (wpAny_seqItems hS rfl ?_)
 show wpAny _ A.in1 (tryCatch (pyNext (.ref I)) _ >>= _) _ _ s
 refine wpAny_bind (wpAny_tryCatch (W.item 0 s _ _ hn hst fun v h' tk hP hst' hk'=>?_))
 have hS':=hk' S _ hSw hS
 show wpAny _ A.in1 (updateSeq S (fun _=>#[v,v]) >>= _) _ _ _
 refine wpAny_bind ?_
 refine wpAny_updateSeq hS' rfl ?_
 rw[hnm]
 refine wpAny_pure ⟨plainId_quiet PySem.F.plain_min_loop _,mloop W bt hc S hSf _ 0 _ v _ rfl hn (W.frame _ _ _ hst' fun b hbf o e=>?_) hP (Heap.get?_update_self _ hS' rfl) fun v' h'' tk'' hP' hk''=>?_⟩
 ·exact(Heap.get?_update_other _ _ (fun h:S=b=>hSf (by rw[h];exact hbf))).trans e
 ·exact hR v' h'' tk'' hP' fun b o hbw hbS e=>hk'' b o hbw hbS ((Heap.get?_update_other _ _ (Ne.symm hbS)).trans (hk' b o hbw e))
theorem mloop0{d:Value}{kn:Str}(W:Walks prog w A.in1 I fp wr n P St)(S:Addr)(hSf:S ∉ fp)(hn:n=0){s:Shared}{c:Nat}(hst:St 0 s.heap)
  (hS:s.heap.get? S=some { cls:=.type "list",dict:=none,data:=.seq #[] c,slots:=#[]})
  (hR:∀ h' tk,(∀ b o,b ∉ wr->b ≠ S->s.heap.get? b=some o->h'.get? b=some o)->R (.ok (.ret d)) { s with heap:=h',toks:=tk}) :
  codeAny (model prog w) A (.builtin "min.loop" ⟨[.ref I,.none,.ref S],[(kn,d)]⟩) R s:=by
 refine codeAny_builtin PySem.F.entry_min_loop ?_
 rw[Around.under_plainId PySem.F.plain_min_loop _]
 show wpAny _ A.in1 (seqItems? (.ref S) >>= _) _ _ s
 refine wpAny_bind (wpAny_seqItems hS rfl ?_)
 show wpAny _ A.in1 (tryCatch (pyNext (.ref I)) _ >>= _) _ _ s
 refine wpAny_bind (wpAny_tryCatch (W.done s _ _ (hn ▸ hst) fun h' tk hk'=>?_))
 show wpAny _ A.in1 (rule _ >>= _) _ _ _
 refine wpAny_bind (wpAny_rule ?_)
 exact wpAny_pure (hR h' tk fun b o hbw _ e=>hk' b o hbw e)
end
section
variable {prog:Program}{w:World}{A:Around}{E:Value->Shared->Prop}{s:Shared}{l:Addr}{xs:Array (Int × Tok)}{d:Value}
theorem argsMinD(a d:Value):argsOk "min" ⟨[a],[(Str.ofString "default",d)]⟩:=by unfold argsOk;kernel_rfl
theorem call_minD{Q:Value->Shared->Prop}(hh:A.handled=none)(hl:s.heap.IsList l (intItems xs))
  (h1:∀ v h' tk,0<xs.size->(intItems xs)[argBest (fun i j=>decide (numAt xs i<numAt xs j)) (xs.size - 1)]? = some v->(∀ b o,s.heap.get? b=some o->h'.get? b=some o)->Q v { s with heap:=h',toks:=tk})
  (h2:∀ h' tk,xs.size=0->(∀ b o,s.heap.get? b=some o->h'.get? b=some o)->Q d { s with heap:=h',toks:=tk}) :
  wpAny (model prog w) A (call (.builtin "min") [.ref l] [(Str.ofString "default",d)]) Q E s:=by
 have hnm:(toString "min" ++ toString ".loop" : String) = "min.loop" :=by decide
 refine kmb_tree PySem.F.kind_min PySem.F.plain_min PySem.F.entry_min (argsMinD _ _) ?_
 show wpAny _ A.in1 (Builtin.Builtins.bindParams "min" ["key","default"] 0 ⟨[],[(Str.ofString "default",d)]⟩ >>= _) _ _ s
 refine wpAny_bind (wpAny_of_eq (show Builtin.Builtins.bindParams "min" ["key","default"] 0 ⟨[],[(Str.ofString "default",d)]⟩=pure [none,some d] from rfl) ?_)
 refine wpAny_bind (wpAny_pure ?_)
 refine wpAny_bind (iter_intList hl fun s₂ e st hfp hlI=>?_)
 subst e
 refine wpAny_bind (wpAny_newObj_type ?_)
 rw[hnm]
 have W:=Walks.list (prog:=prog) (w:=w) (A:=A.in1) hh s.heap.objs.size l hlI (intItems xs)
 have hsz:(intItems xs).size=xs.size:=by simp[intItems]
 have hSf:(s.heap.push { cls:=.type "list_iterator",data:=.fields #[.ref l,.int 0 0]}).objs.size ∉ [s.heap.objs.size,l]:=fun hm=>Nat.lt_irrefl _ (hfp _ hm)
 have keep:∀ h':Heap,(∀ b o,b ∉ [s.heap.objs.size]->b ≠ (s.heap.push { cls:=.type "list_iterator",data:=.fields #[.ref l,.int 0 0]}).objs.size->((s.heap.push { cls:=.type "list_iterator",data:=.fields #[.ref l,.int 0 0]}).push { cls:=.type "list",data:=.seq ([]:List Value).toArray}).get? b=some o->h'.get? b=some o)->∀ b o,s.heap.get? b=some o->h'.get? b=some o:=fun h' hk b o e=>by
  refine hk b o (fun hm=>?_) (fun hb=>?_) (Heap.get?_push_of_some _ (Heap.get?_push_of_some _ e))
  ·exact absurd (Heap.lt_size e) (by rw[List.mem_singleton.mp hm];exact Nat.lt_irrefl _)
  ·have h1:=Heap.lt_size e
   rw[Heap.size_push] at hb
   exact absurd h1 (by rw[hb];exact Nat.not_lt.mpr (Nat.le_succ _))
 by_cases hx:xs.size=0
 ·refine wpAny_pure ⟨plainId_quiet PySem.F.plain_min_loop _,mloop0 W _ hSf (by rw[hsz];exact hx) (W.frame _ _ _ st fun b _ o e=>Heap.get?_push_of_some _ e) (Heap.get?_push_size _ rfl) fun h' tk hk=>?_⟩
  exact h2 h' tk hx (keep h' hk)
 ·refine wpAny_pure ⟨plainId_quiet PySem.F.plain_min_loop _,mloop1 W _ (CmpOf.ints_lt (numAt xs) (fun _ _=>intItems_at)) _ hSf (by lia) (W.frame _ _ _ st fun b _ o e=>Heap.get?_push_of_some _ e) (Heap.get?_push_size _ rfl) fun v h' tk hP hk=>?_⟩
  exact h1 v h' tk (by lia) (by simpa [intItems] using hP) (keep h' hk)
end
noncomputable def isI:D->Option Int
 | .int i=>some i
 | _=>none
noncomputable def zgQ:List D->Option (List Int)
 | []=>some []
 | d :: ds=>(isI d).bind fun i=>(zgQ ds).map fun is=>i :: is
noncomputable def minI:List Int->Option Int
 | []=>none
 | i :: is=>some (is.foldl (fun a b=>if b<a then b else a) i)
theorem zge{F:Hp}:∀ {vs:List V} {ds:List D} {ns:List Int},Reps F vs ds->zgQ ds=some ns->vs=ns.map V.int
 | _,_,_,.nil,q=>by cases q;rfl
 | _,d :: ds,ns,.cons r t,q=>by
  simp only[zgQ] at q
  obtain⟨i,q1,q⟩:=bind_some q
  obtain⟨is,q2,q⟩:=map_some q
  cases q
  cases d <;> cases q1
  cases r
  rw[List.map_cons,zge t q2]
theorem zc7:∀ {ns:List Int} {us:List Value},Vals (ns.map V.int) us->∃ l:List (Int × Tok),us=l.map (fun p=>Value.int p.1 p.2)/\l.map (·.1)=ns
 | [],us,r=>by
  rw[List.map_nil] at r
  cases r
  exact⟨[],rfl,rfl⟩
 | n :: ns,us,r=>by
  rw[List.map_cons] at r
  cases r with
  | cons h t=>
   obtain⟨tk,e⟩:=h
   subst e
   obtain⟨l,ex1,ex2⟩:=zc7 t
   exact⟨(n,tk) :: l,by rw[ex1];rfl,by rw[List.map_cons,ex2]⟩
theorem zeg(val:Nat->Int):∀ k,val (argBest (fun i j=>decide (val i<val j)) k)=((List.range k).map fun i=>val (i+1)).foldl (fun a b=>if b<a then b else a) (val 0)
 | 0=>rfl
 | k+1=>by
  rw[List.range_succ,List.map_append,List.foldl_append,<- zeg val k]
  have e:argBest (fun i j=>decide (val i<val j)) (k+1)=if decide (val (k+1)<val (argBest (fun i j=>decide (val i<val j)) k))=true then k+1 else argBest (fun i j=>decide (val i<val j)) k:=rfl
  rw[e]
  generalize argBest (fun i j=>decide (val i<val j)) k=z
  simp only[decide_eq_true_eq,List.map_cons,List.map_nil,List.foldl_cons,List.foldl_nil]
  split <;> rfl
theorem minI_best{l:List (Int × Tok)}(hn:0<l.length):minI (l.map (·.1))=some (numAt l.toArray (argBest (fun i j=>decide (numAt l.toArray i<numAt l.toArray j)) (l.length - 1))):=by
 cases l with
 | nil=>simp at hn
 | cons p l=>
  rw[zeg (numAt (p :: l).toArray)]
  show some _=some _
  congr 1
  rw[show(p :: l).length - 1=l.length by simp]
  have e0:numAt (p :: l).toArray 0=p.1:=by simp[numAt]
  have ex1:(List.range l.length).map (fun i=>numAt (p :: l).toArray (i+1))=l.map (·.1):=by
   apply List.ext_getElem
   ·simp
   ·intro i h1 h2
    simp at h1
    simp[numAt,h1]
  rw[e0,ex1]
section
variable {X:Cx}
theorem zfU{pins:List (Addr × Obj)}{σ:L2.St}{H:Hp}{s:Shared}{p:Addr}{ns:List Int}(I:Inv X pins σ H s)(h:SqL X.K H p (ns.map V.int)):∃ l:List (Int × Tok),s.heap.IsList p (intItems l.toArray)/\l.map (·.1)=ns:=by
 obtain⟨its,r,pl,_⟩:=I.list h
 obtain⟨l,ex1,ex2⟩:=zc7 r
 refine⟨l,?_,ex2⟩
 have:=pl.isList
 rw[ex1] at this
 simpa [intItems] using this
noncomputable def gMinD:Ent->Ent->Option Ent:=fun x y=>(asL x).bind fun ds=>(zgQ ds).bind fun ns=>match minI ns with
 | some m=>some (.val (.int m))
 | none=>match y with
  | .val d=>some (.val d)
  | _=>none
noncomputable def rMinD(K:PySem.W.Frag):R2:=fun x y H Q=>∃ (q:Addr) (ns:List Int),x=.ref q/\SqL K H q (ns.map V.int)/\Q (match minI ns with | some m=>.int m | none=>y) H
theorem vminD{a d:Expr}{fa fd:FE}{p pos kpos:Pos}(ha:VE X a fa)(hd:VE X d fd)(hg:Gl X "min")(hm:X.mg "min" = none)(hb:bootBuiltins "min" = some (.builtin "min"))(hc:X.calm=true:=by rfl)(hs:zak a=true:=by rfl) :
  VE X (.Call (.Name "min" p) [a] [⟨some "default",d,kpos⟩] pos) (ex2 gMinD fa fd):=by
 obtain⟨ta,wa,ma⟩:=ha.h
 obtain⟨td,wd,md⟩:=hd.h
 refine⟨tOp (rMinD X.K) ta td,⟨?_⟩,.op ?_ ma md⟩
 ·intro pins s σ H Q I h
  refine wpAny_Call_Name_kw (zcm I hg hm hb ?_ (by decide) (by decide))
  have hA:=(wac wa wnil hs).h pos pins s σ H (fun xs H1=>match xs with | [x]=>td σ H1 fun y H2=>rMinD X.K x y H2 Q | _=>False) I h
  refine PyProof.Rows.callWith_kw (thn hA fun us s1 h1=>?_) (by rw[zal hs];rfl) (by rw[zal hs];rfl)
  obtain⟨vs,H1,I1,r1,q1⟩:=h1
  cases r1 with
  | nil=>exact False.elim q1
  | cons rx rt=>
   cases rt with
   | cons _ _=>exact False.elim q1
   | nil=>
    have hK:=pk_cons (nm:=some (Str.ofString "default")) (kpos:=kpos) wd.h pk_nil pos pins s1 σ H1 (fun ys H2=>match ys with | [y]=>rMinD X.K _ y H2 Q | _=>False) I1 q1
    refine thn hK fun ws s2 h2=>?_
    obtain⟨zs,H2,I2,r2,q2⟩:=h2
    cases r2 with
    | nil=>exact False.elim q2
    | cons ry rt2=>
     cases rt2 with
     | cons _ _=>exact False.elim q2
     | nil=>
      obtain⟨q,ns,rfl,hq,q2⟩:=q2
      cases rx
      obtain⟨l,hl,e⟩:=zfU I2 hq
      subst e
      refine call_minD (I2.ok.hd hc) hl (fun v h' tk hn hv kp=>?_) fun h' tk hn kp=>?_
      ·obtain⟨t,e⟩:=intItems_at hv
       subst e
       rw[minI_best (by simpa using hn)] at q2
       exact⟨.int _,H2,I2.kept (t':=tk) kp,⟨t,by simp⟩,q2⟩
      ·have e:l=[]:=List.eq_nil_of_length_eq_zero (by simpa using hn)
       subst e
       exact⟨_,H2,I2.kept (t':=tk) kp,ry,q2⟩
 ·intro H0 F H x y e e' res Q fh hh rx ry q k
  obtain⟨ds,q1,q⟩:=bind_some q
  obtain⟨ns,q2,q⟩:=bind_some q
  obtain⟨l,ws,el,h1,h2⟩:=RepR.toL rx fh q1
  rw[zge h2 q2] at h1
  refine⟨l,ns,el,h1,?_⟩
  cases hm:minI ns with
  | some m=>simp only[hm] at q ⊢;cases q;exact k _ F H (Ex.refl fh) (.int _)
  | none=>
   simp only[hm] at q ⊢
   cases e' with
   | val d=>cases q;exact k _ F H (Ex.refl fh) ry
   | _=>cases q
end
end L3

namespace L3
open PySem PySem.Spec PyProof.Rows L2
noncomputable def sgn(z:Str):List Str:=z.cps.toList.map fun c=>⟨#[c]⟩
theorem zdP(l:List Nat):(mkS l).cps.toList=l:=by simp[mkS]
theorem mkS_cps(z:Str):mkS z.cps.toList=z:=by cases z;simp[mkS]
theorem zch(l:List Nat):(mkS l).length=l.length:=by simp[mkS,Str.length]
noncomputable def clp(n:Int)(v:Option Int)(d:Int):Int:=match v with
 | none=>d
 | some i=>max 0 (min (if i<0 then i+n else i) n)
theorem clp_ok(n:Nat)(v:Option Int)(d:Nat):clp n v d=((HT.sIx n d v:Nat):Int):=by
 cases v with
 | none=>rfl
 | some i=>
  show max 0 (min (if i<0 then i+(n:Int) else i) n)=(((if i<0 then (i+(n:Int)).toNat else min i.toNat n:Nat)):Int)
  by_cases h:i<0
  ·rw[if_pos h,if_pos h];lia
  ·rw[if_neg h,if_neg h];lia
theorem strIx(lo hi:Option Int)(n:Nat):Builtin.Str.strSliceIndices lo hi 1 n=Builtin.Str.strSliceIndices (some ((HT.sIx n 0 lo:Nat):Int)) (some ((HT.sIx n n hi:Nat):Int)) 1 n:=by
 have ex1:∀ a:Nat,a<=n->max (0:Int) (min (if (a:Int)<0 then (a:Int)+n else a) n)=a:=fun a h=>by
  rw[if_neg (by lia)];lia
 unfold Builtin.Str.strSliceIndices
 simp only[show((1:Int) > 0)=True from by simp,if_true]
 rw[ex1 _ (HT.sIx_le n 0 (Nat.zero_le n) lo),ex1 _ (HT.sIx_le n n (Nat.le_refl n) hi)]
 show sliceRange (clp n lo ((0:Nat):Int)) (clp n hi (n:Int)) 1=_
 rw[clp_ok,clp_ok]
theorem slice_cut(x:Str)(lo hi:Option Int):Txt.slice x lo hi=mkS (zgB x.cps.toList lo hi):=by
 have hl:x.cps.toList.length=x.length:=by simp[Str.length]
 unfold Txt.slice zgB
 rw[strIx,hl]
 have h1:=HT.sIx_le x.length 0 (Nat.zero_le _) lo
 have h2:=HT.sIx_le x.length x.length (Nat.le_refl _) hi
 generalize HT.sIx x.length 0 lo=a at h1
 generalize HT.sIx x.length x.length hi=b at h2
 by_cases hab:a<=b
 ·rw[StrLaws.strSliceIndices_plain hab h2]
  split
  ·rename_i h
   have hz:b - a=x.length:=by simpa using h
   have ha:a=0:=by lia
   subst ha
   rw[List.drop_zero,hz,<- hl,List.take_length,mkS_cps]
  ·rw[<- StrLaws.strSliceIndices_plain hab h2,StrLaws.sliced_plain x hab h2]
   rfl
 ·have e:Builtin.Str.strSliceIndices (some (a:Int)) (some (b:Int)) 1 x.length=[]:=by
   have n1:¬ ((a:Int)<0):=by lia
   have n2:¬ ((b:Int)<0):=by lia
   have ex1:max (0:Int) (min (a:Int) (x.length:Int))=a:=by lia
   have ex2:max (0:Int) (min (b:Int) (x.length:Int))=b:=by lia
   simp only[Builtin.Str.strSliceIndices,n1,n2,if_false,ex1,ex2,show((1:Int) > 0)=True from by simp,if_true,sliceRange]
   rw[if_neg (by lia)]
   simp
  rw[e]
  split
  ·rename_i h
   have hz:0=x.length:=by simpa using h
   lia
  ·rw[show b - a=0 by lia,List.take_zero]
   rfl
section
variable {X:Cx}
theorem sl_str:SlR X (fun x lo hi H Q=>∃ z,x=.str z/\z.length<=sizeLine/\Q (.str (mkS (zgB z.cps.toList lo hi))) H):=by
 intro pins s σ H x v vl vu lo hi sl Q I rx hs pl pu h
 obtain⟨z,rfl,hz,q⟩:=h
 obtain⟨t,rfl⟩:=rx
 obtain⟨o,ho,hc,hd⟩:=hs
 refine⟨"str",_,PySem.F.slot_str_getitem.lookup,typeIs_str _ _ _,?_⟩
 have fin:∀ t' k,EP X pins σ Q (.str (Txt.slice z lo hi) t') { s with toks:=k}:=fun t' k=>⟨.str _,H,I.tok k,⟨t',rfl⟩,by rw[slice_cut];exact q⟩
 cases pl with
 | none=>
  cases pu with
  | none=>exact wpAny_getItem_str_slice (l:=none) (u:=none) (st:=none) ⟨o,ho,hc,hd⟩ rfl (post_val_or_str ⟨Nat.le_trans (Txt.slice_le z _ _) hz,fin⟩)
  | int j u=>exact wpAny_getItem_str_slice (l:=none) (u:=some (j,u)) (st:=none) ⟨o,ho,hc,hd⟩ rfl (post_val_or_str ⟨Nat.le_trans (Txt.slice_le z _ _) hz,fin⟩)
 | int i u=>
  cases pu with
  | none=>exact wpAny_getItem_str_slice (l:=some (i,u)) (u:=none) (st:=none) ⟨o,ho,hc,hd⟩ rfl (post_val_or_str ⟨Nat.le_trans (Txt.slice_le z _ _) hz,fin⟩)
  | int j u'=>exact wpAny_getItem_str_slice (l:=some (i,u)) (u:=some (j,u')) (st:=none) ⟨o,ho,hc,hd⟩ rfl (post_val_or_str ⟨Nat.le_trans (Txt.slice_le z _ _) hz,fin⟩)
noncomputable def gSlS:Ent->Option Int->Option Int->Option Ent:=fun x lo hi=>(sOf x).bind fun z=>gif (sz z.length) (some (.val (.str (mkS (zgB z.cps.toList lo hi)))))
theorem l_str:SlD X gSlS:=⟨_,sl_str,fun H0 F H x lo hi e res Q fh hh rx q k=>by
 obtain⟨z,q1,q⟩:=bind_some q
 obtain⟨hl,qz⟩:=za0 q
 cases qz
 cases zbB q1
 exact⟨z,zb3 rx,zcV hl,k _ F H (Ex.refl fh) (.str _)⟩⟩
theorem zd8{z:Str}:∀ {acc:List Value} {k:Nat},(∀ j v,acc[j]? = some v->SignAt z (k+j) v)->Vals (((z.cps.toList.drop k).take acc.length).map fun c=>V.str ⟨#[c]⟩) acc
 | [],k,_=>by simp;exact .nil
 | v :: r,k,h=>by
  obtain⟨c,u,hc,rfl⟩:=h 0 v rfl
  have hk:k<z.cps.toList.length:=by
   have:=(Array.getElem?_eq_some_iff.mp hc).1
   simpa using this
  rw[List.drop_eq_getElem_cons hk,List.length_cons,List.take_succ_cons,List.map_cons]
  have e:z.cps.toList[k]=c:=by
   have:=Array.getElem?_eq_some_iff.mp hc
   simpa using this.2
  rw[e]
  refine .cons ⟨u,rfl⟩ (zd8 (k:=k+1) fun j v hv=>?_)
  have:=h (j+1) v (by simpa using hv)
  rwa [show k+(j+1)=k+1+j by lia] at this
theorem vals_all{z:Str}{acc:Array Value}(h:ItemsOf (SignAt z) acc z.cps.size):Vals ((sgn z).map V.str) acc.toList:=by
 obtain⟨h1,h2⟩:=h
 have:=zd8 (z:=z) (acc:=acc.toList) (k:=0) (fun j v e=>by rw[Nat.zero_add];exact h2 j v (by simpa using e))
 rw[List.drop_zero,show acc.toList.length=z.cps.toList.length by simpa using h1,List.take_length] at this
 unfold sgn
 rw[List.map_map]
 exact this
theorem call_tupS(hc:X.calm=true):zcR X (.type "tuple") (fun xs H Q=>∃ z,xs=[.str z]/\z.length<=1000000/\∀ p,H p=none->Q (.ref p) (upd H p (.tup ((sgn z).map V.str)))):=by
 intro pins s σ H xs us Q I r h
 obtain⟨z,rfl,hz,q⟩:=h
 obtain⟨u,rfl,t,rfl⟩:=zeJ r
 refine call_tuple_str (I.ok.hd hc) z t (fun h' tk acc kp ha=>?_) (zcV hz)
 have I1:=I.kept (t':=tk) kp
 refine⟨.ref h'.objs.size,_,I1.laid (t':=tk) (o:=.tup ((sgn z).map V.str)) (fun b o e=>Heap.get?_push_of_some _ e) (Nat.le_refl _) ⟨?_,acc.toList,vals_all ha,⟨_,Heap.get?_push_size _ rfl,rfl,0,by simp⟩⟩,rfl,q _ (I1.hok.fresh (Nat.le_refl _))⟩
 rw[List.length_map]
 unfold sgn
 rw[List.length_map]
 exact zcV hz
theorem zdQ{F:Hp}:∀ (zs:List Str),Reps F (zs.map V.str) (zs.map D.str)
 | []=>.nil
 | z :: zs=>.cons (.str z) (zdQ zs)
noncomputable def gTupS:List Ent->Option Ent
 | [x]=>(sOf x).bind fun z=>gif (sz z.length) (some (.val (.tup ((sgn z).map .str))))
 | _=>none
theorem c_tupS(hc:X.calm=true:=by rfl):zdO X (.type "tuple") gTupS:=⟨_,call_tupS hc,fun H0 F H vs es res Q fh hh r q k=>by
 obtain⟨x,rfl⟩:=zed rfl (fun _ _ _=>rfl) q
 obtain⟨v,rfl,rz⟩:=zct r
 obtain⟨z,q1,q⟩:=bind_some q
 obtain⟨hl,qz⟩:=za0 q
 cases qz
 cases zbB q1
 cases zb3 rz
 exact⟨z,rfl,hl,fun p hp=>k _ _ _ (Ex.alloc fh hp) (.tup zag (zdQ _))⟩⟩
end
structure MtD(X:Cx)(T:String)(name:Str)(g:Ent->List Ent->Option Ent):Prop where
 h:∃ id r,PlainAttrs T/\Slot T name id/\typeOf (.builtin id)=pure (.type "method_descriptor")/\MtR X id r /\
  (∀ (H0 F H:Hp) (x:V) (e:Ent) (es:List Ent) (res:Ent),Same F H->RepR X.K H0 F H x e->g e es=some res->tyV X.K T x H) /\
  ∀ (H0 F H:Hp) (x:V) (vs:List V) (e:Ent) (es:List Ent) (res:Ent) (Q:VK),Same F H->Same H0 H->RepR X.K H0 F H x e->RepRs X.K H0 F H vs es->g e es=some res->(∀ v F' H',Ex F H F' H'->RepR X.K H0 F' H' v res->Q v H')->r x vs H Q
section
variable {X:Cx}{T:String}{name:Str}{g:Ent->List Ent->Option Ent}{o e:Expr}{es:List Expr}{fo:FE}{fs:FA}{apos cpos:Pos}
end
noncomputable def isS:D->Option Str
 | .str i=>some i
 | _=>none
noncomputable def zfK:List D->Option (List Str)
 | []=>some []
 | d :: ds=>(isS d).bind fun i=>(zfK ds).map fun is=>i :: is
theorem zgz{F:Hp}:∀ {vs:List V} {ds:List D} {ns:List Str},Reps F vs ds->zfK ds=some ns->vs=ns.map V.str
 | _,_,_,.nil,q=>by cases q;rfl
 | _,d :: ds,ns,.cons r t,q=>by
  simp only[zfK] at q
  obtain⟨i,q1,q⟩:=bind_some q
  obtain⟨is,q2,q⟩:=map_some q
  cases q
  cases d <;> cases q1
  cases r
  rw[List.map_cons,zgz t q2]
theorem zcX:∀ {ns:List Str} {us:List Value},Vals (ns.map V.str) us->StrsAre us ns
 | [],us,r=>by rw[List.map_nil] at r;cases r;exact .nil
 | n :: ns,us,r=>by
  rw[List.map_cons] at r
  cases r with
  | cons h t=>
   obtain⟨tk,e⟩:=h
   subst e
   exact .cons n tk (zcX t)
section
variable {X:Cx}
end
end L3

namespace L3
open PySem PySem.Spec PyProof.Rows L2
theorem len1{α:Type}{us:List α}(h:us.length=1):∃ a0,us=[a0]:=match us,h with
 | [a0],_=>⟨a0,rfl⟩
theorem len2{α:Type}{us:List α}(h:us.length=2):∃ a0 a1,us=[a0,a1]:=match us,h with
 | [a0,a1],_=>⟨a0,a1,rfl⟩
theorem len3{α:Type}{us:List α}(h:us.length=3):∃ a0 a1 a2,us=[a0,a1,a2]:=match us,h with
 | [a0,a1,a2],_=>⟨a0,a1,a2,rfl⟩
theorem len4{α:Type}{us:List α}(h:us.length=4):∃ a0 a1 a2 a3,us=[a0,a1,a2,a3]:=match us,h with
 | [a0,a1,a2,a3],_=>⟨a0,a1,a2,a3,rfl⟩
theorem len5{α:Type}{us:List α}(h:us.length=5):∃ a0 a1 a2 a3 a4,us=[a0,a1,a2,a3,a4]:=match us,h with
 | [a0,a1,a2,a3,a4],_=>⟨a0,a1,a2,a3,a4,rfl⟩
structure FunA(K:PySem.W.Frag)(x qual:Str)(st:Stmt)(f:Addr)(fd:FuncData):Prop where
 ex:∃ (oc:Value) (od:Option Addr) (dV kV doc pm:Value) (an:Option Addr) (cdv ct:Value) (osl:Array (Option Value)),
  fd=PySem.W.fnOf x qual (zar st) (zam st) (zac st) dV kV doc pm an cdv ct/\K.lookup f=some ⟨oc,od,.func fd,osl⟩/\PySem.W.codeIn K cdv qual=true
 kp:PySem.W.keepIn K (.ref f)=true
theorem FunA.of{K:PySem.W.Frag}{x qual:Str}{st:Stmt}{f:Addr}{fd:FuncData}(F:Fun K x qual st f fd):FunA K x qual st f fd:=
 let⟨oc,od,kV,doc,pm,an,cdv,ct,osl,e,l,c⟩:=F.ex;⟨⟨oc,od,.none,kV,doc,pm,an,cdv,ct,osl,e,l,c⟩,F.kp⟩
section
variable {P:Program}{w:World}{K:PySem.W.Frag}{mg:Str->Option Value}{base:Heap}{x qual:Str}{st:Stmt}{f:Addr}{fd:FuncData}{N ps:List Str}{k:Nat}{ks:List Kd}{g:List D->Option Ent}
theorem zbL(F:FunA K x qual st f fd)(S:FnScope N ps (zac st))(fb:FS)(hk:ks.length=ps.length)(hg:∀ ds r,g ds=some r->zc9 ks (N.length - ps.length) fb ds=some r)
  (hbody:∀ (cdv:Value) (A:Around) (outer:List Env) (s:Shared) (H:Hp) (E:XK),Room k (A.deeper (envOfC qual (zac st) s.heap.objs.size f cdv))->VSs (cxOf CX0 P w K mg base N qual (zac st) f cdv A outer s H E).nox (zam st) fb) :
  FnOk P w K mg base CX0 (k+1) f fd ps (spD K ks g):=by
 obtain⟨oc,od,dV,kV,doc,pm,an,cdv,ct,osl,rfl,lk,hcd⟩:=F.ex
 refine fn_of lk hcd S (fun vs H Q E h=>?_) fun A outer s H vs Q E hr h=>?_
 ·obtain⟨F,ds,r,_,a,_⟩:=h
  rw[a.length,hk]
 ·obtain⟨F,ds,r,fh,a,q,kk⟩:=h
  obtain⟨t,wt,m⟩:=(hbody cdv A outer s H E hr).h
  refine⟨t,wt.h.nox,?_⟩
  obtain⟨es,q1,q2⟩:=bind_some (hg ds r q)
  obtain⟨out,q3,q4⟩:=bind_some q2
  obtain⟨hl,he⟩:=a.start q1
  have hvs:=a.length
  have hap:∀ (i:Nat) (e:Ent),(es ++ List.replicate (N.length - ps.length) none)[i]? = some (some e)->es[i]? = some (some e):=fun i e h=>by
   by_cases hi:i<es.length
   ·rwa [List.getElem?_append_left hi] at h
   ·rw[List.getElem?_append_right (by lia),List.getElem?_replicate] at h
    split at h <;> cases h
  have s0:RS K ⟨H,none⟩ F H (L2.start N vs) (es ++ List.replicate (N.length - ps.length) none):=by
   refine⟨fh,Same.refl H,?_,fun i e h=>?_,fun a b l ds e hab h1=>?_,fun a b e1 e2 v1 v2 ad hab q1 _ _ _ q5 _ _=>?_,fun w o hw _=>by cases hw⟩
   ·unfold L2.start
    simp only[List.length_append,List.length_map,List.length_replicate]
    lia
   ·obtain⟨⟨v,h1,h2⟩,_⟩:=he i e (hap i e h)
    refine⟨v,?_,h2⟩
    unfold L2.start
    rw[List.getElem?_append_left (by rw[List.length_map];exact(List.getElem?_eq_some_iff.mp h1).1),List.getElem?_map,h1]
    rfl
   ·have:=(he a _ (hap a _ h1)).2.1
    cases this
   ·obtain⟨_,_,ho⟩:=he a _ (hap a _ q1)
    rw[ho] at q5
    cases q5
  refine m ⟨H,none⟩ F H (L2.start N vs) _ out _ s0 q3 ?_
  cases out with
  | nx δ'=>cases q4;exact fun σ' F' H' s' y=>kk .non F' H' ⟨y.ff,s'.fh,s'.bh,y.nw⟩ .non
  | rt r' δ'=>cases q4;exact fun v σ' F' H' s' y z=>kk v F' H' ⟨y.ff,s'.fh,s'.bh,y.nw⟩ z
  | bk δ'=>cases q4
  | ct δ'=>cases q4
end
noncomputable def gK{α:Type}(n:Nat)(us ws:List α):List α:=if us.length=n/\ws.length=1 then us ++ ws else []
theorem gK_shape{α:Type}{n m:Nat}{us ws:List α}(h:(gK n us ws).length=m+1):us.length=n/\ws.length=1/\gK n us ws=us ++ ws:=by
 unfold gK at h ⊢
 split at h
 ·rename_i hc;rw[if_pos hc];exact⟨hc.1,hc.2,rfl⟩
 ·cases h
theorem gK_rel{n:Nat}{vs:List V}{us:List Value}{zs:List V}{ws:List Value}(r:Vals vs us)(rz:Vals zs ws):Vals (gK n vs zs) (gK n us ws):=by
 unfold gK
 rw[r.length,rz.length]
 split
 ·exact r.append rz
 ·exact .nil
structure DefD(K:PySem.W.Frag)(mg:Str->Option Value)(x:Str)(st:Stmt)(ps:List Str)(f:Addr)(fd:FuncData):Prop where
 fn:FunA K x x st f fd
 mg:mg x=some (.ref f)
 b:Binds K fd ps []
 b1:Binds K fd ps [.bool false]
 kb:KBinds K fd ps [ps.getLastD ""] (gK (ps.length - 1)) (gK (ps.length - 1))
noncomputable def DfOk(K:PySem.W.Frag)(df:Value):Prop:=∃ (T:Addr) (o:Obj) (n:Nat),df=.ref T/\K.lookup T=some o/\o.data=.seq #[.bool false] n
section
variable {X:Cx}{es:List Expr}{e d:Expr}{fs:FA}{fk:FE}{x:Str}{p pos kpos:Pos}{ks:List Kd}{g:List D->Option Ent}
noncomputable def eCallD(ks:List Kd)(g:List D->Option Ent)(fs:FA)(d:D):FE:=fun δ=>((fs δ).bind fun rs=>zbU ks (rs ++ [.val d])).bind g
theorem RepRs.snoc{K:PySem.W.Frag}{H0 F H:Hp}{v:V}{e:Ent}(r:RepR K H0 F H v e):∀ {vs:List V} {es:List Ent},RepRs K H0 F H vs es->RepRs K H0 F H (vs ++ [v]) (es ++ [e])
 | _,_,.nil=>.cons r .nil
 | _,_,.cons h t=>.cons h (RepRs.snoc r t)
theorem vclD{CX:CXT}{k j:Nat}{f:Addr}{fd:FuncData}{ps:List Str}{st:Stmt}{E:XK}(F:FnOk X.prog X.w X.K X.mg X.base CX k f fd ps (spD X.K ks g))(D:DefD X.K X.mg x st ps f fd)(hr:Room j X.A)(hg:Gl X x)(hx:zbM CX X E)
  (ha:VA X (e :: es) fs) (hjk:k<=j:=by decide) (hdb:(x == ("__debug__" : Str))=false:=by decide) (h1:zak e=true:=by rfl) (h2:es.all zak=true:=by rfl) :
  VE X (.Call (.Name x p) (e :: es) [] pos) (eCallD ks g fs (.bl false)):=by
 obtain⟨t,w,m⟩:=ha.h
 refine⟨_,⟨pe_call F (hr.mono hjk) hg D.mg D.fn.kp D.b1 (dvs:=[.bl false]) (.cons rfl .nil) hx w.h hdb (zal h1) (zb6 h2)⟩,fun B F H σ δ res Q s q k=>?_⟩
 obtain⟨ds,q1,q⟩:=bind_some q
 obtain⟨rs,q2,q3⟩:=bind_some q1
 refine m B F H σ δ rs _ s q2 fun vs F1 H1 x1 r1=>?_
 have r2:=RepRs.snoc (K:=X.K) (H0:=H) (F:=F1) (H:=H1) (v:=.bl false) (e:=.val (.bl false)) (.bl false) r1
 obtain⟨F2,x2,_,a2⟩:=RepRs.args x1 (Same.refl _) r2 q3
 exact⟨F2,ds,res,x2.fh,a2,q,fun v F' H' x3 r3=>k v F' H' (x2.trans x3) (r3.earlier x2.hh)⟩
end
end L3

namespace L3
open PySem L2
theorem zaU{f g:FS}{δ δ':En}(h:f δ=some (.nx δ')):zbb f g δ=g δ':=by
 unfold zbb;rw[h];rfl
theorem fIfT{ft:FT}{f g:FS}{δ:En}(h:ft δ=some true):fIf ft f g δ=f δ:=by unfold fIf;rw[h];rfl
theorem fIfF{ft:FT}{f g:FS}{δ:En}(h:ft δ=some false):fIf ft f g δ=g δ:=by unfold fIf;rw[h];rfl
theorem zc3{tg:FG}{f:FS}{d:D}{ds:List D}{δ δ1 δ2:En}(h1:tg d δ=some δ1)(h2:f δ1=some (.nx δ2)):loop tg f (d :: ds) δ=loop tg f ds δ2:=by
 show((tg d δ).bind fun δ1=>(f δ1).bind (lpO (loop tg f ds)))=_
 rw[h1]
 show(f δ1).bind (lpO (loop tg f ds))=_
 rw[h2]
 rfl
theorem zbt(I:Nat->En->Prop){tg:FG}{f:FS}:∀ (ds:List D) (k:Nat) (δ:En),
  (∀ i d δ,ds[i]? = some d->I (k+i) δ->∃ δ1 δ2,tg d δ=some δ1/\(f δ1=some (.nx δ2) \/ f δ1=some (.ct δ2))/\I (k+i+1) δ2)->I k δ ->
  ∃ δ',loop tg f ds δ=some (.nx δ')/\I (k+ds.length) δ'
 | [],k,δ,_,h0=>⟨δ,rfl,h0⟩
 | d :: ds,k,δ,h,h0=>by
  obtain⟨δ1,δ2,h1,h2,h3⟩:=h 0 d δ rfl h0
  obtain⟨s',h4,h5⟩:=zbt I ds (k+1) δ2 (fun i d' s hd hi=>by
   have:=h (i+1) d' s (by simpa using hd) (by rw[show k+(i+1)=k+1+i by lia];exact hi)
   rwa [show k+(i+1)=k+1+i by lia] at this) h3
  refine⟨s',?_,by rw[List.length_cons,show k+(ds.length+1)=k+1+ds.length by lia];exact h5⟩
  show((tg d δ).bind fun δ1=>(f δ1).bind (lpO (loop tg f ds)))=_
  rw[h1]
  show(f δ1).bind (lpO (loop tg f ds))=_
  rcases h2 with h2 | h2
  ·rw[h2];exact h4
  ·rw[h2];exact h4
theorem zfa{ft:D->Option Bool}{fe:D->Option Ent}(ds out:List D)(hl:out.length=ds.length)(h1:∀ d ∈ ds,ft d=some true)(h2:∀ (i:Nat) (d:D),ds[i]? = some d->∃ y,(fe d).bind asV=some y/\out[i]? = some y):zc2 ft fe ds=some out:=by
 induction ds generalizing out with
 | nil=>cases out with
  | nil=>rfl
  | cons _ _=>simp at hl
 | cons d ds ih=>
  cases out with
  | nil=>simp at hl
  | cons y out=>
   obtain⟨y',ex1,ex2⟩:=h2 0 d rfl
   cases ex2
   simp only[zc2]
   rw[h1 d List.mem_cons_self,ex1,ih out (by simpa using hl) (fun x hx=>h1 x (List.mem_cons_of_mem _ hx)) fun i x hx=>by simpa using h2 (i+1) x (by simpa using hx)]
   rfl
theorem zfm{fr:List Nat}{fi:FI}{ft:FT}{fe:FE}{δ:En}{ds out:List D}(hi:fi δ=some ds)(hc:zc2 (fun d=>ft (cEn fr δ d)) (fun d=>fe (cEn fr δ d)) ds=some out)(hl:out.length<=1000000):eLC fr fi ft fe δ=some (.own out):=by
 unfold eLC
 rw[hi]
 show(zc2 _ _ ds).bind _=_
 rw[hc]
 show(if out.length<=1000000 then some (Ent.own out) else none)=_
 rw[if_pos hl]
theorem ixN_nat{n i:Nat}(h:i<n):ixN n (i:Int)=some i:=by
 unfold ixN
 rw[if_pos (by lia),if_pos (by lia)]
 simp
theorem atI_of{α:Type}{xs:List α}{i:Nat}{x:α}(h:xs[i]? = some x):atI xs (i:Int)=some x:=by
 unfold atI
 rw[ixN_nat (List.getElem?_eq_some_iff.mp h).1]
 exact h
theorem zdU{α:Type}{xs:List α}{i:Int}{x:α}(h0:0<=i)(h:xs[i.toNat]? = some x):atI xs i=some x:=by
 obtain⟨n,rfl⟩:=Int.eq_ofNat_of_zero_le h0
 exact atI_of (by simpa using h)
theorem zdl{α β:Type}(f:α->β)(d:α){xs:List α}{i:Int}(h0:0<=i)(h:i.toNat<xs.length):atI (xs.map f) i=some (f (xs.getD i.toNat d)):=by
 refine zdU h0 ?_
 rw[List.getElem?_map,List.getElem?_eq_getElem h]
 simp[h]
theorem atI_m1{α:Type}{xs:List α}{x:α}(h:xs.getLast? = some x):atI xs (-1)=some x:=by
 have hne:xs ≠ []:=by rintro rfl;simp at h
 have hl:0<xs.length:=List.length_pos_iff.mpr hne
 unfold atI ixN
 rw[if_neg (by lia),if_pos (by lia)]
 show xs[(-1+(xs.length:Int)).toNat]? = _
 rw[show(-1+(xs.length:Int)).toNat=xs.length - 1 by lia,<- List.getLast?_eq_getElem?]
 exact h
theorem cutG_to{α:Type}(xs:List α)(j:Nat):zgB xs none (some (j:Int))=xs.take j:=by
 unfold zgB
 rw[HT.sIx_none,HT.sIx_nat,List.drop_zero,Nat.sub_zero]
 by_cases h:j<=xs.length
 ·rw[Nat.min_eq_left h]
 ·rw[Nat.min_eq_right (by lia),List.take_length,List.take_of_length_le (by lia)]
theorem zdH{α:Type}(xs:List α){j:Int}(h:0<=j):zgB xs none (some j)=xs.take j.toNat:=by
 obtain⟨n,rfl⟩:=Int.eq_ofNat_of_zero_le h
 rw[cutG_to];simp
theorem mkS_app(a b:List Nat):mkS a ++ mkS b=mkS (a ++ b):=by
 show(⟨a.toArray ++ b.toArray⟩:Str)=⟨(a ++ b).toArray⟩
 simp
theorem mkS_inj{a b:List Nat}(h:mkS a=mkS b):a=b:=by
 have:=congrArg (fun z:Str=>z.cps.toList) h
 simpa [mkS] using this
theorem sgn_mkS(l:List Nat):sgn (mkS l)=l.map fun c=>mkS [c]:=by simp[sgn,mkS]
theorem strsD_map(zs:List Str):zfK (zs.map .str)=some zs:=by
 induction zs with
 | nil=>rfl
 | cons z zs ih=>simp[zfK,isS,ih]
theorem intsD_map(zs:List Int):zgQ (zs.map .int)=some zs:=by
 induction zs with
 | nil=>rfl
 | cons z zs ih=>simp[zgQ,isI,ih]
end L3

namespace L3
open PySem PySem.Spec PyProof.Rows L2
noncomputable def flD:D->Bool
 | .non=>true
 | .bl _=>true
 | .int _=>true
 | .str _=>true
 | _=>false
noncomputable def eqF:D->D->Bool
 | .non,.non=>true
 | .bl a,.bl b=>a == b
 | .bl a,.int b=>(if a then 1 else 0) == b
 | .int a,.bl b=>a == (if b then 1 else 0)
 | .int a,.int b=>a == b
 | .str a,.str b=>a == b
 | _,_=>false
noncomputable def zff(f:D->D->Option Bool):List D->List D->Option Bool
 | [],[]=>some true
 | d :: ds,e :: es=>(f d e).bind fun b=>(zff f ds es).map fun c=>b && c
 | _,_=>some false
noncomputable def eqD:Nat->D->D->Option Bool
 | n+1,.tup a,.tup b=>zff (eqD n) a b
 | n+1,.lst a,.lst b=>zff (eqD n) a b
 | _,d,d'=>if (flD d && flD d')=true then some (eqF d d') else none
theorem flat_ok{F:Hp}{x y:V}{d d':D}(rx:Rep F x d)(ry:Rep F y d')(h:(flD d && flD d')=true):flatV x=true/\flatV y=true/\eqV x y=eqF d d':=by
 rw[Bool.and_eq_true] at h
 obtain⟨h1,h2⟩:=h
 cases rx <;> first | (cases h1;done) | (cases ry <;> first | (cases h2;done) | exact⟨rfl,rfl,rfl⟩)
theorem zdF{f:D->D->Option Bool}:∀ {ds es:List D} {b:Bool},zff f ds es=some b->∀ j (h1:j<ds.length) (h2:j<es.length),∃ c,f ds[j] es[j]=some c
 | [],_,_,_,j,h1,_=>by simp at h1
 | _ :: _,[],_,_,j,_,h2=>by simp at h2
 | d :: ds,e :: es,b,q,j,h1,h2=>by
  simp only[zff] at q
  obtain⟨c,q1,q⟩:=bind_some q
  obtain⟨c',q2,q⟩:=map_some q
  cases j with
  | zero=>exact⟨c,q1⟩
  | succ j=>
   simp only[List.length_cons] at h1 h2
   exact zdF q2 j (by lia) (by lia)
noncomputable def eAt(f:D->D->Option Bool)(ds es:List D)(j:Nat):Bool:=(f (ds.getD j .non) (es.getD j .non)).getD false
theorem zdE{f:D->D->Option Bool}:∀ {ds es:List D} {b:Bool},zff f ds es=some b->b=((List.range (min ds.length es.length)).all (eAt f ds es) && ds.length == es.length)
 | [],[],b,q=>by cases q;rfl
 | [],_ :: _,b,q=>by cases q;simp
 | _ :: _,[],b,q=>by cases q;simp
 | d :: ds,e :: es,b,q=>by
  simp only[zff] at q
  obtain⟨c,q1,q⟩:=bind_some q
  obtain⟨c',q2,q⟩:=map_some q
  subst q
  have ih:=zdE q2
  have e1:min (d :: ds).length (e :: es).length=min ds.length es.length+1:=by simp only[List.length_cons];lia
  have e2:((d :: ds).length == (e :: es).length)=(ds.length == es.length):=by simp
  have e3:eAt f (d :: ds) (e :: es) 0=c:=by unfold eAt;simp[q1]
  have e4:(eAt f (d :: ds) (e :: es)) ∘ Nat.succ=eAt f ds es:=by funext j;unfold eAt;simp
  rw[e1,e2,List.range_succ_eq_map,List.all_cons,List.all_map,e3,e4,ih,Bool.and_assoc]
theorem Reps.getE{F:Hp}:∀ {vs:List V} {ds:List D},Reps F vs ds->∀ j (h1:j<vs.length) (h2:j<ds.length),Rep F vs[j] ds[j]
 | _,_,.nil,j,h,_=>by simp at h
 | v :: vs,d :: ds,.cons r t,j,h1,h2=>by
  cases j with
  | zero=>exact r
  | succ j=>exact Reps.getE t j (by simpa using h1) (by simpa using h2)
theorem Vals.getE:∀ {vs:List V} {us:List Value},Vals vs us->∀ j (h1:j<vs.length) (h2:j<us.length),RelV vs[j] us[j]
 | _,_,.nil,j,h,_=>by simp at h
 | v :: vs,d :: ds,.cons r t,j,h1,h2=>by
  cases j with
  | zero=>exact r
  | succ j=>exact Vals.getE t j (by simpa using h1) (by simpa using h2)
theorem zfH{α β:Type}{a a':List α}{b b':List β}(h:a.length=b.length)(h':a'.length=b'.length)(e:a.zip b=a'.zip b'):a=a'/\b=b':=by
 have e1:=congrArg (List.map Prod.fst) e
 have e2:=congrArg (List.map Prod.snd) e
 rw[List.map_fst_zip (by lia),List.map_fst_zip (by lia)] at e1
 rw[List.map_snd_zip (by lia),List.map_snd_zip (by lia)] at e2
 exact⟨e1,e2⟩
theorem Reps.nil_{F:Hp}{ds:List D}(h:Reps F [] ds):ds=[]:=by cases h;rfl
theorem Reps.cons_{F:Hp}{v:V}{vs:List V}{ds:List D}(h:Reps F (v :: vs) ds):∃ d ds',ds=d :: ds'/\Rep F v d/\Reps F vs ds':=by cases h with | cons r t=>exact⟨_,_,rfl,r,t⟩
theorem Rep.det{F:Hp}{v:V}{d:D}(r:Rep F v d):∀ {d':D},Rep F v d'->d=d':=by
 refine Rep.rec (motive_1:=fun v d _=>∀ {d':D},Rep F v d'->d=d') (motive_2:=fun vs ds _=>∀ {ds':List D},Reps F vs ds'->ds=ds') ?_ ?_ ?_ ?_ ?_ ?_ ?_ ?_ ?_ ?_ ?_ r
 ·intro _ h;cases h;rfl
 ·intro _ _ h;cases h;rfl
 ·intro _ _ h;cases h;rfl
 ·intro _ _ h;cases h;rfl
 ·intro _ _ _ e _ ih _ h
  cases h with
  | tup e' r'=>rw[e] at e';cases e';rw[ih r']
  | lst e' _=>rw[e] at e';cases e'
  | dic e' _ _=>rw[e] at e';cases e'
  | ins e' _ _=>rw[e] at e';cases e'
  | dcI e' _ _ _=>rw[e] at e';cases e'
 ·intro _ _ _ e _ ih _ h
  cases h with
  | lst e' r'=>rw[e] at e';cases e';rw[ih r']
  | tup e' _=>rw[e] at e';cases e'
  | dic e' _ _=>rw[e] at e';cases e'
  | ins e' _ _=>rw[e] at e';cases e'
  | dcI e' _ _ _=>rw[e] at e';cases e'
 ·intro _ _ _ _ _ e l _ ih _ h
  cases h with
  | dic e' l' r'=>
   rw[e] at e'
   obtain⟨h1,h2⟩:=zfH (by rw[List.length_map];exact l) (by rw[List.length_map];exact l') (HO.dK.inj (HO.frz.inj (Option.some.inj e')).2)
   subst h2
   rw[ih r',(List.map_inj_right (fun _ _ h=>Sum.inr.inj h)).mp h1]
  | tup e' _=>rw[e] at e';cases e'
  | lst e' _=>rw[e] at e';cases e'
  | ins e' _ _=>rw[e] at e';cases e'
  | dcI e' _ _ _=>rw[e] at e';cases e'
 ·intro _ _ _ _ _ _ e l _ ih _ h
  cases h with
  | ins e' l' r'=>
   obtain⟨h0,_,h3⟩:=HO.ins.inj (Option.some.inj (e.symm.trans e'))
   obtain⟨h1,h2⟩:=zfH l l' h3
   subst h0 h1 h2
   rw[ih r']
  | tup e' _=>rw[e] at e';cases e'
  | lst e' _=>rw[e] at e';cases e'
  | dic e' _ _=>rw[e] at e';cases e'
  | dcI e' _ _ _=>rw[e] at e';cases e'
 ·intro _ _ _ _ _ e d l _ ih _ h
  cases h with
  | dcI e' d' l' r'=>
   cases knO_inj (Option.some.inj (e.symm.trans e')) d
   obtain⟨h1,h2⟩:=zfH (by rw[List.length_map];exact l) (by rw[List.length_map];exact l') (d.inj d')
   subst h2
   rw[ih r',(List.map_inj_right (fun _ _ h=>Sum.inl.inj h)).mp h1]
  | tup e' _=>rw[e] at e';cases e'
  | lst e' _=>rw[e] at e';cases e'
  | dic e' _ _=>rw[e] at e';cases e'
  | ins e' _ _=>rw[e] at e';cases e'
 ·intro _ h;exact h.nil_.symm
 ·intro _ _ _ _ _ _ i1 i2 _ h
  obtain⟨_,_,rfl,t1,t2⟩:=h.cons_
  rw[i1 t1,i2 t2]
theorem Reps.det{F:Hp}:∀ {vs:List V} {ds:List D},Reps F vs ds->∀ {ds':List D},Reps F vs ds'->ds=ds':=by
 intro vs
 induction vs with
 | nil=>intro ds r ds' r';rw[r.nil_,r'.nil_]
 | cons v vs ih=>
  intro ds r ds' r'
  obtain⟨_,_,rfl,a,b⟩:=r.cons_
  obtain⟨_,_,rfl,a',b'⟩:=r'.cons_
  rw[a.det a',ih b b']
theorem zdW{f:D->D->Option Bool}:∀ {ds:List D},(∀ d ∈ ds,∀ b,f d d=some b->b=true)->∀ {b:Bool},zff f ds ds=some b->b=true
 | [],_,b,q=>by cases q;rfl
 | d :: ds,h,b,q=>by
  simp only[zff] at q
  obtain⟨c,q1,q⟩:=bind_some q
  obtain⟨c',q2,q⟩:=map_some q
  subst q
  rw[h d List.mem_cons_self c q1,zdW (fun d hd=>h d (List.mem_cons_of_mem _ hd)) q2]
  rfl
theorem eqF_self(d:D)(h:flD d=true):eqF d d=true:=by
 cases d <;> first | rfl | (simp[eqF];done) | (cases h)
theorem zdK:∀ (n:Nat) (d:D) {b:Bool},eqD n d d=some b->b=true
 | 0,d,b,q=>by
  have q':(if (flD d && flD d)=true then some (eqF d d) else none)=some b:=by cases d <;> exact q
  split at q'
  ·rename_i h;cases q';exact eqF_self d (by simpa using h)
  ·cases q'
 | n+1,d,b,q=>by
  cases d with
  | tup a=>exact zdW (fun d _ b=>zdK n d) q
  | lst a=>exact zdW (fun d _ b=>zdK n d) q
  | dic ks a=>cases q
  | ins C ns a=>cases q
  | dcI ks a=>cases q
  | _=>cases q;first | rfl | simp[eqF]
section
variable {X:Cx}{pins:List (Addr × Obj)}{s:Shared}{σ:L2.St}{H F:Hp}
theorem eqAt_D(I:Inv X pins σ H s)(fh:Same F H):∀ (n:Nat) (A:Around),A.units+n<cLine->∀ {x y:V} {u v:Value} {d d':D} {b:Bool},Rep F x d->Rep F y d'->RelV x u->RelV y v->eqD n d d'=some b->SeqAt.EqAt A s u v b
 | 0,A,hu,x,y,u,v,d,d',b,rx,ry,ru,rv,q=>by
  have q':(if (flD d && flD d')=true then some (eqF d d') else none)=some b:=by cases d <;> cases d' <;> exact q
  split at q'
  ·rename_i h
   cases q'
   obtain⟨h1,h2,h3⟩:=flat_ok rx ry h
   rw[<- h3]
   exact eqAt_V ru rv h1 h2
  ·cases q'
 | n+1,A,hu,x,y,u,v,d,d',b,rx,ry,ru,rv,q=>by
  have hin:A.in1.units+n<cLine:=by show A.units+1+n<cLine;lia
  have hA:A.units<cLine:=by lia
  have flat:(if (flD d && flD d')=true then some (eqF d d') else none)=some b->SeqAt.EqAt A s u v b:=fun q'=>by
   split at q'
   ·rename_i h
    cases q'
    obtain⟨h1,h2,h3⟩:=flat_ok rx ry h
    rw[<- h3]
    exact eqAt_V ru rv h1 h2
   ·cases q'
  cases rx with
  | @tup a xs ds e r=>
   cases ry with
   | @tup a' ys es e' r'=>
    cases ru;cases rv
    by_cases hne:a=a'
    ·subst hne
     rw[e] at e'
     cases e'
     cases Reps.det r r'
     rw[zdK (n+1) (.tup ds) q]
     exact SeqAt.EqAt.same _
    ·obtain⟨its,rr,ht,_⟩:=I.tuple (SqT.of (fh _ _ e))
     obtain⟨its',rr',ht',_⟩:=I.tuple (SqT.of (fh _ _ e'))
     have q':zff (eqD n) ds es=some b:=q
     have l1:=r.length;have l2:=r'.length;have l3:=rr.length;have l4:=rr'.length
     have:=SeqAt.RcAt.tuples (A:=A) (e:=eAt (eqD n) ds es) ht ht' hA fun j h1 h2=>by
      have g1:j<its.length:=by simpa using h1
      have g2:j<its'.length:=by simpa using h2
      obtain⟨c,hc⟩:=zdF q' j (by lia) (by lia)
      have:eAt (eqD n) ds es j=c:=by unfold eAt;simp[show j<ds.length by lia,show j<es.length by lia,hc]
      rw[this]
      exact eqAt_D I fh n A.in1 hin (r.getE j (by lia) (by lia)) (r'.getE j (by lia) (by lia)) (Vals.getE rr j (by lia) g1) (Vals.getE rr' j (by lia) g2) hc
     rw[zdE q']
     have e1:its.toArray.size=ds.length:=by simp;lia
     have e2:its'.toArray.size=es.length:=by simp;lia
     rw[e1,e2] at this
     exact SeqAt.EqAt.of_refs hne this
   | _=>exact flat q
  | @lst a xs ds e r=>
   cases ry with
   | @lst a' ys es e' r'=>
    cases ru;cases rv
    by_cases hne:a=a'
    ·subst hne
     rw[e] at e'
     cases e'
     cases Reps.det r r'
     rw[zdK (n+1) (.lst ds) q]
     exact SeqAt.EqAt.same _
    ·obtain⟨its,rr,ht,_⟩:=I.list (SqL.of (fh _ _ e))
     obtain⟨its',rr',ht',_⟩:=I.list (SqL.of (fh _ _ e'))
     have q':zff (eqD n) ds es=some b:=q
     have l1:=r.length;have l2:=r'.length;have l3:=rr.length;have l4:=rr'.length
     have e1:its.toArray.size=ds.length:=by simp;lia
     have e2:its'.toArray.size=es.length:=by simp;lia
     rw[zdE q']
     by_cases hs:ds.length=es.length
     ·have:=SeqAt.RcAt.lists (A:=A) (e:=eAt (eqD n) ds es) ht.isList ht'.isList (by rw[e1,e2,hs]) hA fun j h1 h2=>by
       have g1:j<its.length:=by simpa using h1
       have g2:j<its'.length:=by simpa using h2
       obtain⟨c,hc⟩:=zdF q' j (by lia) (by lia)
       have:eAt (eqD n) ds es j=c:=by unfold eAt;simp[show j<ds.length by lia,show j<es.length by lia,hc]
       rw[this]
       exact eqAt_D I fh n A.in1 hin (r.getE j (by lia) (by lia)) (r'.getE j (by lia) (by lia)) (Vals.getE rr j (by lia) g1) (Vals.getE rr' j (by lia) g2) hc
      rw[e1] at this
      rw[<- hs,Nat.min_self,beq_self_eq_true,Bool.and_true]
      exact SeqAt.EqAt.of_refs hne this
     ·rw[beq_eq_false_iff_ne.mpr hs,Bool.and_false]
      exact SeqAt.EqAt.of_refs hne (SeqAt.RcAt.lists_lengths ht.isList ht'.isList (by rw[e1,e2];simpa using hs) hA)
   | _=>exact flat q
  | _=>cases ry <;> exact flat q
noncomputable def rEqD(K:PySem.W.Frag)(neg:Bool):R2:=fun x y H Q=>∃ (F:Hp) (a a':Addr) (xs ys:List V) (ds es:List D) (b:Bool),Same F H/\x=.ref a/\y=.ref a'/\((SqL K H a xs/\SqL K H a' ys) \/ (SqT K H a xs/\SqT K H a' ys)) /\
 Reps F xs ds/\Reps F ys es/\zff (eqD 8) ds es=some b/\Q (.bl (if neg=true then !b else b)) H
theorem op_neD{k:Nat}(hr:Room k X.A):OpR X (compareOp .NotEq) (rEqD X.K true):=by
 intro pins s σ H x y v u Q I rx ry h
 obtain⟨F,a,a',xs,ys,ds,es,b,fh,rfl,rfl,hq,r,r',q,k⟩:=h
 cases rx;cases ry
 have hA:X.A.units+9<cLine:=by have:=hr.un;lia
 have hin:X.A.in1.units+8<cLine:=by show X.A.units+1+8<cLine;lia
 have l1:=r.length;have l2:=r'.length
 have he:∀ {its its':List Value},Vals xs its->Vals ys its'->∀ j (h1:j<its.toArray.size) (h2:j<its'.toArray.size),SeqAt.EqAt X.A.in1 s its.toArray[j] its'.toArray[j] (eAt (eqD 8) ds es j):=fun {its its'} rr rr' j h1 h2=>by
  have l3:=rr.length;have l4:=rr'.length
  have g1:j<its.length:=by simpa using h1
  have g2:j<its'.length:=by simpa using h2
  obtain⟨c,hc⟩:=zdF q j (by lia) (by lia)
  have:eAt (eqD 8) ds es j=c:=by unfold eAt;simp[show j<ds.length by lia,show j<es.length by lia,hc]
  rw[this]
  exact eqAt_D I fh 8 X.A.in1 hin (r.getE j (by lia) (by lia)) (r'.getE j (by lia) (by lia)) (Vals.getE rr j (by lia) g1) (Vals.getE rr' j (by lia) g2) hc
 rw[zdE q] at k
 rcases hq with ⟨h1,h2⟩ | ⟨h1,h2⟩
 ·obtain⟨its,rr,ht,_⟩:=I.list h1
  obtain⟨its',rr',ht',_⟩:=I.list h2
  have l3:=rr.length;have l4:=rr'.length
  have e1:its.toArray.size=ds.length:=by simp;lia
  have e2:its'.toArray.size=es.length:=by simp;lia
  by_cases hs:ds.length=es.length
  ·refine SeqAt.RcNeAt.lists (e:=eAt (eqD 8) ds es) ht.isList ht'.isList (by rw[e1,e2,hs]) (by lia) (he rr rr') _ _ _ _ ⟨.bl _,H,I,rfl,?_⟩
   rw[e1]
   rw[<- hs,Nat.min_self,beq_self_eq_true,Bool.and_true] at k
   exact k
  ·refine SeqAt.RcNeAt.lists_lengths ht.isList ht'.isList (by rw[e1,e2];simpa using hs) (by lia) _ _ _ _ ⟨.bl _,H,I,rfl,?_⟩
   rw[beq_eq_false_iff_ne.mpr hs,Bool.and_false] at k
   exact k
 ·obtain⟨its,rr,ht,_⟩:=I.tuple h1
  obtain⟨its',rr',ht',_⟩:=I.tuple h2
  have l3:=rr.length;have l4:=rr'.length
  have e1:its.toArray.size=ds.length:=by simp;lia
  have e2:its'.toArray.size=es.length:=by simp;lia
  refine SeqAt.RcNeAt.tuples (e:=eAt (eqD 8) ds es) ht ht' (by lia) (he rr rr') _ _ _ _ ⟨.bl _,H,I,rfl,?_⟩
  rw[e1,e2]
  exact k
noncomputable def sqOf(x y:Ent):Option (List D × List D):=match asL x,asL y with
 | some ds,some es=>some (ds,es)
 | _,_=>match zdx x,zdx y with
  | some ds,some es=>some (ds,es)
  | _,_=>none
noncomputable def gNeD:Ent->Ent->Option Ent:=fun x y=>(sqOf x y).bind fun p=>(zff (eqD 8) p.1 p.2).map fun b=>.val (.bl (!b))
theorem sqOf_ok{K:PySem.W.Frag}{H0 F H:Hp}{x y:V}{e e':Ent}{p:List D × List D}(fh:Same F H)(rx:RepR K H0 F H x e)(ry:RepR K H0 F H y e')(q:sqOf e e'=some p) :
  ∃ (a a':Addr) (xs ys:List V),x=.ref a/\y=.ref a'/\((SqL K H a xs/\SqL K H a' ys) \/ (SqT K H a xs/\SqT K H a' ys))/\Reps F xs p.1/\Reps F ys p.2:=by
 unfold sqOf at q
 split at q
 ·rename_i ds es h1 h2
  cases q
  obtain⟨l,vs,e1,s1,r1⟩:=rx.toL fh h1
  obtain⟨l',vs',e2,s2,r2⟩:=ry.toL fh h2
  exact⟨l,l',vs,vs',e1,e2,.inl ⟨s1,s2⟩,r1,r2⟩
 ·split at q
  ·rename_i ds es h1 h2
   cases q
   cases zcy h1
   cases zcy h2
   cases (show Rep F x (.tup _) from rx) with
   | tup e r=>
    cases (show Rep F y (.tup _) from ry) with
    | tup e' r'=>exact⟨_,_,_,_,rfl,rfl,.inr ⟨SqT.of (fh _ _ e),SqT.of (fh _ _ e')⟩,r,r'⟩
  ·cases q
theorem o_neD{k:Nat}(hr:Room k X.A):OpD X (compareOp .NotEq) gNeD:=⟨_,op_neD hr,fun H0 F H x y e e' res Q fh hh rx ry q k=>by
 obtain⟨p,q1,q⟩:=bind_some q
 obtain⟨b,q2,q⟩:=map_some q
 cases q
 obtain⟨a,a',xs,ys,e1,e2,h,r,r'⟩:=sqOf_ok fh rx ry q1
 exact⟨F,a,a',xs,ys,_,_,b,fh,e1,e2,h,r,r',q2,k _ F H (Ex.refl fh) (.bl _)⟩⟩
end
end L3

namespace L2
open PySem PySem.Spec PyProof.Rows
end L2
namespace L3
open PySem PySem.Spec PyProof.Rows L2
end L3
namespace L2
open PySem PySem.Spec PyProof.Rows
section
variable {prog:Program}{w:World}{A:Around}{E:Value->Shared->Prop}
end
end L2
namespace L3
open PySem PySem.Spec PyProof.Rows L2
end L3

namespace TS
open PySem
theorem lay_led(t:SetTable)(es:Array (Int × Value))(h:Int)(x:Value):(layNew t es h x).2.1.led=t.led/\((layNew t es h x).2.1.plain=true->t.plain=true):=by
 unfold layNew
 split
 ·rename_i q
  dsimp only
  unfold SetTable.orStandIn
  split
  ·exact⟨rfl,id⟩
  ·exact⟨rfl,fun z=>by cases z⟩
 ·exact⟨rfl,fun z=>by cases z⟩
theorem relay_led(t:SetTable)(es:Array (Int × Value))(n:Nat):(relayAll t es n).2.1.led=t.led/\((relayAll t es n).2.1.plain=true->t.plain=true):=by
 unfold relayAll
 split
 ·rename_i t' order q
  have:t'.led=t.led/\t'.plain=t.plain:=by
   unfold SetTable.relaid SetTable.laid at q
   simp only[Option.bind_eq_bind,Option.bind_eq_some_iff] at q
   obtain⟨o,_,q⟩:=q
   cases q
   exact⟨rfl,rfl⟩
  dsimp only
  split
  ·exact⟨this.1,fun z=>by rw[<- this.2];exact z⟩
  ·exact⟨rfl,fun z=>by cases z⟩
 ·exact⟨rfl,fun z=>by cases z⟩
end TS
namespace TS
open PySem
noncomputable def bt(w:World):Bool:=w.params.followText "set-order"
noncomputable def txt:Value->Str
 | .str z _=>z
 | _=> ""
structure IsS(w:World)(h:Heap)(a:Addr)(zs:List Str):Prop where
 ex:∃ (o:Obj) (es:Array (Int × Value)) (ep:Nat) (t:SetTable),h.get? a=some o/\o.ExactSet/\o.data=.set es ep t/\(∀ e ∈ es.toList,∃ z u,e=(hashStr w z,Value.str z u))/\t.fits es.size=true/\t.led=!bt w/\(es.size ≠ 0->t.plain=false)/\(es.toList.map fun e=>txt e.2).Perm zs
 nd:zs.Nodup
variable {prog:Program}{w:World}{A:Around}{E:Value->Shared->Prop}{s:Shared}{a:Addr}{zs:List Str}
theorem elemsS{es:List (Int × Value)}(h:∀ e ∈ es,∃ z u,e=(hashStr w z,Value.str z u)):ElemsOf (strKind prog w) es:=fun e he=>by
 obtain⟨z,u,rfl⟩:=h e he
 exact⟨⟨z,by simp[strKind,Value.isStrOf],rfl⟩,rfl⟩
theorem freshS:IsS w (s.heap.push { cls:=.type "set",dict:=none,data:=.set #[] 0 (.fresh 0 0 (!bt w))}) s.heap.objs.size []:=
 ⟨⟨_,#[],0,_,Heap.get?_push_size _ rfl,⟨rfl,rfl,rfl⟩,rfl,(fun e he=>by simp at he),rfl,rfl,(fun z=>absurd rfl z),.nil⟩,.nil⟩
theorem IsS.mono{h h':Heap}(i:IsS w h a zs)(k:∀ o,h.get? a=some o->h'.get? a=some o):IsS w h' a zs:=
 let⟨o,es,ep,t,go,r⟩:=i.ex;⟨⟨o,es,ep,t,k o go,r⟩,i.nd⟩
noncomputable def put(zs:List Str)(z:Str):List Str:=if z ∈ zs then zs else zs ++ [z]
theorem put_lenS(zs:List Str)(z:Str):(put zs z).length<=zs.length+1:=by unfold put;split <;> simp
theorem relaidS{o:Obj}{es:Array (Int × Value)}{ep:Nat}{t:SetTable}{h:Heap}(go:h.get? a=some o)(gx:o.ExactSet)(gd:o.data=.set es ep t){es':Array (Int × Value)}{t':SetTable}
  (ge:∀ e ∈ es'.toList,∃ z u,e=(hashStr w z,Value.str z u)) (gf:t'.fits es'.size=true) (gl:t'.led=!bt w) (gp:t'.plain=false) (gm:(es'.toList.map fun e=>txt e.2).Perm zs) (nd:zs.Nodup) :
  (h.update a (Obj.putSet es' t')).get? a=some { o with data:=.set es' (ep+1) t'}/\IsS w (h.update a (Obj.putSet es' t')) a zs:=by
 have g:=Heap.get?_update_self (Obj.putSet es' t') go (by rw[putSet_of es' t' gd];rfl)
 rw[putSet_of es' t' gd] at g
 exact⟨g,⟨_,es',ep+1,t',g,gx,rfl,ge,gf,gl,fun _=>gp,gm⟩,nd⟩
theorem tailS{g:Bool->Sem Unit}(hg:∀ (b:Bool) (s₁:Shared) (R:Unit->Shared->Prop),R () s₁->wpAny (model prog w) A (g b) R E s₁){o:Obj}{es es1:Array (Int × Value)}{ep n:Nat}{t t2:SetTable}{c x:Bool}{R:Option Bool->Shared->Prop}
  (go:s.heap.get? a=some o) (gx:o.ExactSet) (gd:o.data=.set es ep t) (ge:∀ e ∈ es1.toList,∃ z u,e=(hashStr w z,Value.str z u)) (gf:t2.fits es1.size=true) (gl:t2.led=!bt w) (gp:t2.plain=false)
  (gm:(es1.toList.map fun e=>txt e.2).Perm zs) (nd:zs.Nodup) (hz:es1.size<scanBound) (k:∀ h',Heap.SameBut a s.heap h'->IsS w h' a zs->R (some true) { s with heap:=h'}) :
  wpAny (model prog w) A (do
   storeSet a es1 t2
   if c=true then do
    g x
    storeSet a (relayAll t2 es1 n).1 (relayAll t2 es1 n).2.1
    pure (some true)
   else pure (some true)) R E s:=by
 have up:=Heap.SameBut.update s.heap a (Obj.putSet es1 t2)
 refine wpAny_bind (wpAny_storeSet_of go gd ?_ (fits_of_scanBound hz))
 obtain⟨g1,i1⟩:=relaidS (w:=w) go gx gd ge gf gl gp gm nd
 split
 ·refine wpAny_bind (hg _ _ _ ?_)
  have r1:=relayAll_perm t2 es1 n
  have r2:=relayAll_fits t2 es1 n
  have r3:=relay_led t2 es1 n
  generalize relayAll t2 es1 n=L at r1 r2 r3 ⊢
  obtain⟨es2,t3,gv⟩:=L
  dsimp only at r1 r2 r3 ⊢
  have rs:es2.size=es1.size:=by have:=r1.length_eq;simpa using this
  refine wpAny_bind (wpAny_storeSet_of g1 rfl ?_ (fits_of_scanBound (by lia)))
  obtain⟨_,i2⟩:=relaidS (w:=w) (zs:=zs) g1 gx rfl (es':=es2) (t':=t3) (fun e he=>ge e (r1.mem_iff.mp he)) r2 (r3.1.trans gl) (by
   cases hp:t3.plain with
   | false=>rfl
   | true=>rw[r3.2 hp] at gp;cases gp) ((r1.map _).trans gm) nd
  exact wpAny_pure (k _ (up.trans (Heap.SameBut.update ..)) i2)
 ·exact wpAny_pure (k _ up i1)
theorem addSS{z:Str}{u:Tok}{Q:Bool->Shared->Prop}(i:IsS w s.heap a zs)(hz:zs.length+1<scanBound)
  (k:∀ b h',Heap.SameBut a s.heap h'->IsS w h' a (put zs z)->Q b { s with heap:=h'}):wpAny (model prog w) A (setAddHashed a (.str z u) (hashStr w z)) Q E s:=by
 obtain⟨o,es,ep,t,go,gx,gd,ge,gf,gl,gp,gm⟩:=i.ex
 have gE:=elemsS (prog:=prog) ge
 have hk:(strKind prog w).is z (.str z u)=true:=by simp[strKind,Value.isStrOf]
 have sc:(Value.str z u).scannable=true:=rfl
 have gn:es.size=zs.length:=by rw[<- gm.length_eq,List.length_map,Array.length_toList]
 unfold setAddHashed setAddHashedIn
 refine wpAny_holding (wpAny_bind (wpAny_setState_of go gd gf ?_))
 dsimp only
 rw[byScan_of (knd:=strKind prog w) sc (by lia) gE]
 simp only[↓reduceIte]
 unfold setAddByScan
 refine wpAny_bind (wpAny_bind (wpAny_rule (wpAny_bind ?_)))
 refine wpAny_setScan_of (knd:=strKind prog w) hk go gd gf gE ?_
 cases hr:List.findIdx? (fun e=>(strKind prog w).is z e.2) es.toList with
 | some j=>
  dsimp only
  obtain⟨hj,hp,_⟩:=List.findIdx?_eq_some_iff_getElem.mp hr
  have hin:z ∈ zs:=by
   refine gm.mem_iff.mp (List.mem_map.mpr ⟨es.toList[j],List.getElem_mem hj,?_⟩)
   obtain⟨v,e'⟩:=Value.isStrOf_shape hp
   rw[e']
   rfl
  refine wpAny_pure (wpAny_pure ?_)
  have:=k false s.heap (.refl ..) (by unfold put;rw[if_pos hin];exact i)
  exact this
 | none=>
  dsimp only
  have hnot:z ∉ zs:=fun hin=>by
   obtain⟨e,he,hq⟩:=List.mem_map.mp (gm.mem_iff.mpr hin)
   obtain⟨y,v,rfl⟩:=ge e he
   have q:=List.findIdx?_eq_none_iff.mp hr _ he
   have:y=z:=hq
   subst this
   simp[strKind,Value.isStrOf] at q
  have hput:put zs z=zs ++ [z]:=if_neg hnot
  rw[hput] at k
  have nd:(zs ++ [z]).Nodup:=List.nodup_append.mpr ⟨i.nd,by simp,fun x hx y hy=>by simp at hy;subst hy;exact fun e=>hnot (e ▸ hx)⟩
  have way:∀ (b:Bool) {s₁:Shared} {R:Unit->Shared->Prop},R () s₁->wpAny (model prog w) A (match b with | true=>rule "set.scan.the-table-gave-way" | false=>pure ()) R E s₁:=fun b _ _ q=>by cases b <;> first | exact wpAny_pure q | exact wpAny_rule q
  have l1:=layNew_perm t es (hashStr w z) (.str z u)
  have l2:=layNew_fits t es (hashStr w z) (.str z u)
  have l3:=lay_led t es (hashStr w z) (.str z u)
  show wpAny _ _ (match layNew t es (hashStr w z) (.str z u) with | (es,t,wasDummy,gave)=>_) _ _ _
  generalize layNew t es (hashStr w z) (.str z u)=L at l1 l2 l3
  obtain⟨es1,t1,wd,gv⟩:=L
  dsimp only at l1 l2 l3 ⊢
  have m1:∀ e ∈ es1.toList,∃ z u,e=(hashStr w z,Value.str z u):=fun e he=>by
   rcases List.mem_append.mp ((Array.toList_push ▸ l1).mem_iff.mp he) with q | q
   ·exact ge e q
   ·rw[List.mem_singleton.mp q];exact⟨z,u,rfl⟩
  have m2:(es1.toList.map fun e=>txt e.2).Perm (zs ++ [z]):=by
   refine(l1.map _).trans ?_
   rw[Array.toList_push,List.map_append]
   exact gm.append_right _
  have m3:es1.size<scanBound:=by
   have:=l1.length_eq
   simp only[Array.length_toList,Array.size_push] at this
   lia
  refine wpAny_bind ?_
  refine way _ ?_
  split
  ·refine wpAny_bind ?_
   rw[hashByValue_scannable 8 sc]
   refine wpAny_pure ?_
   refine tailS (fun b s₁ R q=>by cases b <;> first | exact wpAny_pure q | exact wpAny_rule q) go gx gd m1 (SetTable.fits_plain_off l2) (l3.1.trans gl) rfl m2 nd m3 fun h' sb i'=>?_
   exact wpAny_pure (k true h' sb i')
  ·rename_i hpl
   refine wpAny_bind (wpAny_pure ?_)
   simp only[↓reduceIte]
   refine tailS (fun b s₁ R q=>by cases b <;> first | exact wpAny_pure q | exact wpAny_rule q) go gx gd m1 l2 (l3.1.trans gl) (by simpa using hpl) m2 nd m3 fun h' sb i'=>?_
   exact wpAny_pure (k true h' sb i')
end TS
namespace TS
open PySem PyProof.Rows
section
variable {prog:Program}{w:World}{A:Around}{R:Result->Shared->Prop}{I:Addr}{fp wr:List Addr}{G:Array GenState->Array GenState->Prop}{n:Nat}{P:Nat->Value->Prop}{St:Nat->Shared->Prop}
theorem updS(W:WalksS prog w A.in1 I fp wr G n P St)(S:Addr)(hS:S ∉ fp)(val:Nat->Str)(hv:∀ i v,P i v->∃ t,v=.str (val i) t)(k:Nat) :
  ∀ (i:Nat) (s:Shared) (zs:List Str),i+k=n->St i s->IsS w s.heap S zs->zs.length+k+1<scanBound ->
   (∀ s',Moved (S :: wr) G s s'->IsS w s'.heap S (((List.range' i k).map val).foldl put zs)->R (.ok (.ret .none)) s')->codeAny (model prog w) A (.builtin "set.update.loop" ⟨[.ref S,.ref I],[]⟩) R s:=by
 have nw:S ∉ wr:=fun h=>hS (W.sub _ h)
 have sb:∀ b ∈ wr,b ∈ S :: wr:=fun b hb=>.tail _ hb
 induction k with
 | zero=>
  intro i s zs hi st is hz kk
  have e:i=n:=by lia
  subst e
  refine codeAny_builtin F.entry_set_update_loop ?_
  rw[Around.under_plainId F.plain_set_update_loop _]
  refine wpAny_bind (m:=pyNext (.ref I)) (W.done s _ _ st fun s' mv=>?_)
  exact wpAny_pure (kk s' (mv.mono sb) (is.mono fun o e=>mv.heap S o nw e))
 | succ k ih=>
  intro i s zs hi st is hz kk
  refine codeAny_builtin F.entry_set_update_loop ?_
  rw[Around.under_plainId F.plain_set_update_loop _]
  refine wpAny_bind (m:=pyNext (.ref I)) (W.item i s _ _ (by lia) st fun v s' hp st' mv=>?_)
  obtain⟨t,rfl⟩:=hv i v hp
  refine wpAny_bind (m:=holding [Value.str (val i) t] (setAdd S (.str (val i) t))) (wpAny_holding ?_)
  unfold setAdd
  refine wpAny_holding (wpAny_bind (wpAny_pyHash_str ?_))
  refine addSS (s:={ s' with toks:=s'.toks+1}) (zs:=zs) (is.mono fun o e=>mv.heap S o nw e) (by lia) fun b h' same is'=>?_
  have old:∀ b o,b ≠ S->s'.heap.get? b=some o->h'.get? b=some o:=fun b o hb e=>(same.2 b hb).trans e
  refine wpAny_pure ⟨plainId_quiet F.plain_set_update_loop _,ih (i+1) _ (put zs (val i)) (by lia) ?_ is' (by have:=put_lenS zs (val i);lia) fun s2 mv2 is2=>?_⟩
  ·exact W.frame _ s' h' _ st' (Nat.le_succ _) fun b hb o e=>old b o (fun q=>hS (q ▸ hb)) e
  ·refine kk s2 (Moved.trans W.gtrans ((mv.mono sb).then_heap (Nat.le_succ _) fun b o hb e=>old b o (fun q=>hb (q ▸ .head _)) e) mv2) ?_
   rw[List.range'_succ,List.map_cons,List.foldl_cons]
   exact is2
end
end TS
namespace TS
open PySem PyProof.Rows
section
variable {prog:Program}{w:World}{A:Around}{E:Value->Shared->Prop}{s:Shared}
noncomputable def new(w:World):Obj:={ cls:=.type "set",dict:=none,data:=.set #[] 0 (.fresh 0 0 (!bt w))}
theorem code_new(v:Value){R:Value->Shared->Prop}(k:R (.ref s.heap.objs.size) { s with heap:=s.heap.push (new w)}):codeAny (model prog w) A (.call (.builtin "set.__new__") ⟨[.type "set",v],[]⟩) (wants R E) s:=by
 refine codeAny_of_tree ?_
 show wpAny _ A.in1 (checkBuiltinCall "set.__new__" ⟨[.type "set",v],[]⟩ >>= fun _=>again (.builtin "set.__new__" ⟨[.type "set",v],[]⟩)) _ _ s
 refine wpAny_bind (wpAny_of_eq (F.newCall_set_1 v) (wpAny_pure ⟨plainId_quiet F.plain_set_new _,?_⟩))
 refine codeAny_builtin F.entry_set_new ?_
 rw[Around.under_plainId F.plain_set_new _]
 unfold Builtin.«set.__new__» Builtin.Frozenset.newClass
 have sub:=sub_set_self
 obtain⟨hp,g,d,tk,os⟩:=s
 dsimp only
 wp_walk
 refine wpAny_askSetting (wpAny_pure ?_)
 dsimp only
 simp only[newObj]
 refine wpAny_bind (wpAny_alloc (wpAny_pure ?_))
 exact wpAny_pure k
set_option maxRecDepth 100000 in
theorem zgu{v:Value}{Q:Value->Shared->Prop}{P:Shared->Prop}(hh:A.handled=none)
  (ini:∀ (B:Around),B.handled=none->wpAny (model prog w) B (Builtin.«set.__init__» ⟨[.ref s.heap.objs.size,v],[]⟩) (fun f s2=>f=.done (.ret .none)/\P s2) E { s with heap:=s.heap.push (new w)})
  (k:∀ s2,P s2->Q (.ref s.heap.objs.size) s2):wpAny (model prog w) A (call (.type "set") [v]) Q E s:=by
 obtain⟨c,tl,mro⟩:=F.called_set.mro
 have made:=F.called_set.made
 have sub:=F.called_set.sub
 refine wpAny_call (codeAny_of_tree ?_)
 show wpAny _ _ (callAny (.type "set") _) _ _ _
 refine wpAny_pure ⟨Code.quiet_builtin _ (by decide +kernel),?_⟩
 refine codeAny_builtin F.entry_type_call ?_
 rw[Around.under_plain (weight_type_call_type "set" [v] []) rfl]
 have n1:=F.called_set.notType
 have n2:=F.called_set.canCreate
 have n3:=F.typeCall_set_1 v
 repeat any_goals first | assumption | wp_step
 refine codeAny_mono (code_new v (E:=E) (R:=fun x s1=>x=.ref s.heap.objs.size/\s1={ s with heap:=s.heap.push (new w)}) ⟨rfl,rfl⟩) fun r s1 hr=>?_
 match r,hr with
 | .error e,hr=>exact hr
 | .ok (.ret x),hr=>
  obtain⟨rfl,rfl⟩:=hr
  have g0:(s.heap.push (new w)).get? s.heap.objs.size=some (new w):=Heap.get?_push_size _ rfl
  have ty:Shared.TypeIs { s with heap:=s.heap.push (new w)} (.ref s.heap.objs.size) "set" :=⟨_,g0,rfl⟩
  have li:=F.called_set.init.lookup
  have bi:=F.called_set.init.bind (.ref s.heap.objs.size)
  repeat any_goals first | assumption | wp_step
  refine codeAny_mono (codeAny_call_builtin (R:=wants (fun r s2=>r=.none/\P s2) E) F.called_set.init.plain F.entry_set_init (check_set_init_1 ty ?_)) fun r2 s2 hr2=>?_
  ·exact wpAny_mono (ini A.in1.in1 hh) (fun f s2 q=>by obtain⟨rfl,p⟩:=q;exact⟨rfl,p⟩) fun _ _ q=>q
  ·match r2,hr2 with
   | .error e,hr2=>exact hr2
   | .ok (.ret x),hr2=>
    obtain⟨rfl,hq⟩:=hr2
    repeat any_goals first | assumption | wp_step
    exact k _ hq
end
end TS
namespace TS
open PySem PyProof.Rows
namespace Fx
theorem str_set:isSubtype (.type "str") (.type "set")=pure false:=by rw[isSubtype_type];kernel_rfl
theorem str_fro:isSubtype (.type "str") (.type "frozenset")=pure false:=by rw[isSubtype_type];kernel_rfl
end Fx
section
variable {prog:Program}{w:World}{A:Around}{E:Value->Shared->Prop}{s:Shared}
structure LeftS(w:World)(s:Shared)(zs:List Str)(s2:Shared):Prop where
 is:IsS w s2.heap s.heap.objs.size zs
 old:∀ b o,b<s.heap.objs.size->s.heap.get? b=some o->s2.heap.get? b=some o
 sh:∃ h' tk,s2={ s with heap:=h',toks:=tk}
theorem zgq{fp:List Addr}{it:Obj}{s':Shared}{zs:List Str}(hf:∀ b ∈ fp,b=(s.heap.push (new w)).objs.size)(mv:Moved (s.heap.objs.size :: fp) (fun a b=>b=a) { s with heap:=(s.heap.push (new w)).push it} s')(is:IsS w s'.heap s.heap.objs.size zs):LeftS w s zs s':=by
 refine⟨is,fun b o hb e=>mv.heap b o (fun q=>?_) (Heap.get?_push_of_some _ (Heap.get?_push_of_some _ e)),?_⟩
 ·rcases List.mem_cons.mp q with q | q
  ·exact absurd hb (q ▸ Nat.lt_irrefl _)
  ·have:=hf b q
   rw[Heap.size_push] at this
   exact absurd hb (Nat.not_lt.mpr (this ▸ Nat.le_succ _))
 ·obtain⟨h',g',d',tk',os'⟩:=s'
  have eg:g'=s.gens:=mv.gens
  have ed:d'=s.drawn:=mv.drawn
  have eo:os'=s.os:=mv.os
  subst eg ed eo
  exact⟨h',tk',rfl⟩
set_option maxRecDepth 100000 in
theorem zgX{l:Addr}{items:Array Value}{zs:List Str}(hh:A.handled=none)(hl:s.heap.IsList l items)(hi:∀ (i:Nat) (v:Value),items[i]? = some v->∃ t,v=Value.str (zs.getD i "") t)(hz:items.size+1<scanBound) :
  wpAny (model prog w) A (Builtin.«set.__init__» ⟨[.ref s.heap.objs.size,.ref l],[]⟩) (fun f s2=>f=.done (.ret .none)/\LeftS w s (((List.range' 0 items.size).map fun i=>zs.getD i "").foldl put []) s2) E { s with heap:=s.heap.push (new w)}:=by
 obtain⟨o,go,oc,m,od⟩:=id hl
 obtain⟨ocls,odict,odata,oslots⟩:=o
 simp only at oc od
 subst oc od
 have g1:(s.heap.push (new w)).get? s.heap.objs.size=some (new w):=Heap.get?_push_size _ rfl
 have g2:(s.heap.push (new w)).get? l=some { cls:=.type "list",dict:=odict,data:=.seq items m,slots:=oslots}:=Heap.get?_push_of_some _ go
 have b1:=F.sub_list_set
 have b2:=F.sub_list_frozenset
 have b3:(Value.type "list" == Value.type "dict")=false:=by decide
 have hl1:(s.heap.push (new w)).IsList l items:=⟨_,g2,rfl,m,rfl⟩
 unfold new at g1 g2 ⊢
 unfold Builtin.«set.__init__» noKeywords Builtin.Frozenset.updateFrom
 generalize hPI:pyIter=PI
 wp_walk
 subst hPI
 refine wpAny_pyIter_list hl1 (wpAny_bind (wpAny_runValue ?_))
 have ll:l<s.heap.objs.size:=Heap.lt_size go
 have ne:l ≠ (s.heap.push (new w)).objs.size:=by rw[Heap.size_push];exact Nat.ne_of_lt (Nat.lt_succ_of_lt ll)
 refine updS ((Walks.list (by simp[hh]) _ l ne items).toS) s.heap.objs.size ?_ (fun i=>zs.getD i "") hi items.size 0 _ [] (by lia) ⟨⟨_,Heap.get?_push_size _ rfl,rfl,rfl⟩,hl1.push _⟩ ?_ (by simpa using hz) fun s' mv is=>?_
 ·rw[Heap.size_push]
  simp only[List.mem_cons,List.not_mem_nil,or_false,not_or]
  exact⟨Nat.ne_of_lt (Nat.lt_succ_self _),Nat.ne_of_gt ll⟩
 ·exact(freshS (w:=w) (s:=s)).mono fun o e=>Heap.get?_push_of_some _ e
 ·refine wpAny_pure ?_
  exact wpAny_pure ⟨rfl,zgq (fp:=[(s.heap.push (new w)).objs.size]) (fun b hb=>List.mem_singleton.mp hb) mv is⟩
set_option maxRecDepth 100000 in
theorem init_strS{x:Str}{t:Tok}(hh:A.handled=none)(hz:x.cps.size+1<scanBound) :
  wpAny (model prog w) A (Builtin.«set.__init__» ⟨[.ref s.heap.objs.size,.str x t],[]⟩) (fun f s2=>f=.done (.ret .none)/\LeftS w s (((List.range' 0 x.cps.size).map fun i=>(⟨#[x.cps.getD i 0]⟩:Str)).foldl put []) s2) E { s with heap:=s.heap.push (new w)}:=by
 have g1:(s.heap.push (new w)).get? s.heap.objs.size=some (new w):=Heap.get?_push_size _ rfl
 have b1:=Fx.str_set
 have b2:=Fx.str_fro
 have b3:(Value.type "str" == Value.type "dict")=false:=by decide
 unfold new at g1 ⊢
 unfold Builtin.«set.__init__» noKeywords Builtin.Frozenset.updateFrom
 generalize hPI:pyIter=PI
 wp_walk
 subst hPI
 refine wpAny_pyIter_str fun o St W st=>wpAny_bind (wpAny_runValue ?_)
 refine updS ((W _ (by simp[hh])).toS) s.heap.objs.size ?_ (fun i=>(⟨#[x.cps.getD i 0]⟩:Str)) ?_ x.cps.size 0 _ [] (by lia) st ?_ (by simpa using hz) fun s' mv is=>?_
 ·exact fun q=>absurd (List.mem_singleton.mp q) (by show s.heap.objs.size ≠ (s.heap.push (new w)).objs.size;rw[Heap.size_push];exact Nat.ne_of_lt (Nat.lt_succ_self _))
 ·intro i v hv
  obtain⟨c,u,hc,rfl⟩:=hv
  exact⟨u,by simp[hc]⟩
 ·exact(freshS (w:=w) (s:=s)).mono fun o e=>Heap.get?_push_of_some _ e
 ·refine wpAny_pure ?_
  exact wpAny_pure ⟨rfl,zgq (fp:=[(s.heap.push (new w)).objs.size]) (fun b hb=>List.mem_singleton.mp hb) mv is⟩
end
end TS
namespace TS
open PySem PyProof.Rows
theorem zgw{α:Type}{l:List α}{i:Nat}(h:i<l.length):(l[i] :: l.eraseIdx i).Perm l:=by
 rw[List.eraseIdx_eq_take_drop_succ]
 refine List.perm_middle.symm.trans ?_
 rw[<- List.drop_eq_getElem_cons h,List.take_append_drop]
section
variable {prog:Program}{w:World}{A:Around}{E:Value->Shared->Prop}
theorem ch{src:Source}{n:Nat}{s:Shared}{Q:Nat->Shared->Prop}(hn:n ≠ 0)(k:∀ i d,i<n->Q i { s with drawn:=d}):wpAny (model prog w) A (choose src n) Q E s:=fun Γ p _=>by
 unfold choose
 rw[Sem.wp_choose]
 exact⟨hn,by rw[Sem.wp_pure];exact k _ _ (Nat.mod_lt _ (Nat.pos_of_ne_zero hn))⟩
theorem draw_perm{α:Type}(n:Nat):∀ (xs:List α) (s:Shared) (Q:List α->Shared->Prop),xs.length=n->(∀ ys d,ys.Perm xs->Q ys { s with drawn:=d})->wpAny (model prog w) A (drawOrder n xs) Q E s:=by
 induction n with
 | zero=>
  intro xs s Q hl k
  have e:xs=[]:=List.length_eq_zero_iff.mp hl
  subst e
  exact wpAny_pure (k [] s.drawn .nil)
 | succ n ih=>
  intro xs s Q hl k
  match xs,hl with
  | x :: xs,hl=>
   refine wpAny_bind (m:=choose .order (x :: xs).length) (ch (by simp) fun i d hi=>?_)
   have e:(x :: xs)[i]? = some (x :: xs)[i]:=List.getElem?_eq_getElem hi
   simp only[e]
   refine wpAny_bind (ih _ _ _ (by rw[List.length_eraseIdx_of_lt hi];lia) fun ys d' hp=>wpAny_pure ?_)
   exact k _ _ ((hp.cons _).trans (zgw hi))
end
theorem pick_go{α:Type}(nx:Nat->Nat)(f:Nat):∀ (k:Nat) (left:List α) (out:Array α),left.length=f->(pickOrder.go nx f k left out).toList.Perm (out.toList ++ left):=by
 induction f with
 | zero=>
  intro k left out hl
  have e:left=[]:=List.length_eq_zero_iff.mp hl
  subst e
  simp[pickOrder.go]
 | succ f ih=>
  intro k left out hl
  have hi:nx k % left.length<left.length:=Nat.mod_lt _ (by lia)
  have e:left[nx k % left.length]? = some left[nx k % left.length]:=List.getElem?_eq_getElem hi
  unfold pickOrder.go
  simp only[e]
  refine(ih _ _ _ (by rw[List.length_eraseIdx_of_lt hi];lia)).trans ?_
  rw[Array.toList_push,List.append_assoc]
  exact(zgw hi).append_left _
theorem pick_perm{α:Type}(nx:Nat->Nat)(xs:Array α):(pickOrder nx xs).toList.Perm xs.toList:=by
 have:=pick_go nx xs.size 0 xs.toList #[] (by simp)
 simpa [pickOrder] using this
namespace Fx
theorem iter_of:entryFor table "set.__iter__" = some Builtin.«frozenset.__iter__» :=entryFor_alias (id':= "frozenset.__iter__") (by kernel_rfl) rfl (by decide +kernel) (by kernel_rfl)
theorem next_of:entryFor table "set_iterator.__next__" = some Builtin.«set_iterator.__next__» :=entryFor_of_tree (by kernel_rfl)
theorem next_slot:Slot "set_iterator" "__next__" "set_iterator.__next__" :=.of (owner:= "set_iterator") (n:= "__next__") (by rw[typeLookup_type,builtinLookup_eq_fast];kernel_rfl) (by decide +kernel) (by decide +kernel) (by decide +kernel) (by first | exact .inl (by decide +kernel) | exact .inr (by decide +kernel)) (by rw[isSubtype_type];kernel_rfl)
theorem next_args(v:Value):argsOk "set_iterator.__next__" ⟨[v],[]⟩:=by unfold argsOk;kernel_rfl
end Fx
end TS
namespace TS
open PySem PyProof.Rows
noncomputable def itO(f0:Value)(i:Nat)(a:Addr)(n ep:Nat):Obj:={ cls:=.type "set_iterator",data:=.fields #[f0,rawInt i,.ref a,rawInt n,rawInt ep]}
section
variable {prog:Program}{w:World}{A:Around}{E:Value->Shared->Prop}{s:Shared}{I a:Addr}{o:Obj}{es:Array (Int × Value)}{ep:Nat}{t:SetTable}
theorem next1{i slot slot':Nat}{v:Value}{Q:Option Value->Shared->Prop}(hI:s.heap.get? I=some (itO (rawInt slot) i a es.size ep))(ho:s.heap.get? a=some o)(hd:o.data=.set es ep t)(hf:t.fits es.size=true)
  (nx':∀ (A:Around) (E:Value->Shared->Prop) (R:Option (Value × Nat)->Shared->Prop),R (some (v,slot')) s->wpAny (model prog w) A (setNext a slot i ep) R E s)
  (k:∀ h',h'.get? I=some (itO (rawInt slot') (i+1) a es.size ep)->(∀ b o,b ≠ I->s.heap.get? b=some o->h'.get? b=some o)->Q (some v) { s with heap:=h'}):wpAny (model prog w) A (pyNext (.ref I)) Q E s:=by
 have ty:s.TypeIs (.ref I) "set_iterator" :=⟨_,hI,rfl⟩
 unfold pyNext
 refine wpAny_bind (wpAny_attempt (wpAny_callSpecial?_slot (name:=Str.ofString "__next__") ty Fx.next_slot (wpAny_call_entry Fx.next_slot ty Fx.next_of ?_ (Fx.next_args _))))
 unfold Builtin.«set_iterator.__next__» slotArgs
 simp only[List.isEmpty_nil,Bool.not_true,Bool.false_eq_true,↓reduceIte,bind_assoc,List.length_nil,bne_self_eq_false]
 refine wpAny_bind (wpAny_pure (wpAny_bind (wpAny_fieldsOf hI rfl ?_)))
 show wpAny _ _ (setEntries a >>= _) _ _ _
 refine wpAny_bind (wpAny_setEntries_of ho hd hf ?_)
 rw[if_neg (by simp)]
 show wpAny _ _ (setNext a slot i ep >>= _) _ _ _
 refine wpAny_bind (nx' _ _ _ ?_)
 refine wpAny_bind (wpAny_setField_rec hI (by simp) fun h1 g1 b1=>?_)
 refine wpAny_bind (wpAny_setField_rec (s:={ s with heap:=h1}) g1 (by simp) fun h2 g2 b2=>?_)
 refine wpAny_pure ⟨v,rfl,wpAny_pure (k h2 ?_ fun b o hb e=>?_)⟩
 ·rw[g2];rfl
 ·exact(b2.2 b hb).trans ((b1.2 b hb).trans e)
theorem stop{B:Around}{α:Type}(hh:B.handled=none){R:α->Shared->Prop}{E':Value->Shared->Prop}(k:∀ e h',(∀ b o,s.heap.get? b=some o->h'.get? b=some o)->Shared.TypeIs { s with heap:=h'} e "StopIteration" -> E' e { s with heap:=h'}) :
  wpAny (model prog w) B (newExc (.type "StopIteration") [] >>= fun e=>raiseNew e) R E' s:=by
 refine wpAny_bind ?_
 simp only[newExc,newTuple]
 refine wpAny_bind (wpAny_newObj_type ?_ (by size_fits))
 refine wpAny_bind (m:=firstArgMember _ _) (wpAny_of_eq (a:=Value.none) (by first | rfl | (simp only[firstArgMember];rfl)) (wpAny_newObj_type ?_ (by size_fits)))
 simp only[raiseNew]
 refine wpAny_bind (wpAny_handled ?_)
 rw[hh]
 refine wpAny_bind (wpAny_pure (wpAny_throw ?_))
 exact k _ _ (fun b o e=>Heap.get?_push_of_some _ (Heap.get?_push_of_some _ e)) ⟨_,Heap.get?_push_size _ rfl,rfl⟩
theorem end1{i slot:Nat}{Q:Option Value->Shared->Prop}(hh:A.handled=none)(hI:s.heap.get? I=some (itO (rawInt slot) i a es.size ep))(ho:s.heap.get? a=some o)(hd:o.data=.set es ep t)(hf:t.fits es.size=true)
  (nx:∀ (A:Around) (E:Value->Shared->Prop) (R:Option (Value × Nat)->Shared->Prop),R none s->wpAny (model prog w) A (setNext a slot i ep) R E s)
  (k:∀ h',(∀ b o,b ≠ I->s.heap.get? b=some o->h'.get? b=some o)->Q none { s with heap:=h'}):wpAny (model prog w) A (pyNext (.ref I)) Q E s:=by
 have ty:s.TypeIs (.ref I) "set_iterator" :=⟨_,hI,rfl⟩
 unfold pyNext
 refine wpAny_bind (wpAny_attempt (wpAny_callSpecial?_slot (name:=Str.ofString "__next__") ty Fx.next_slot (wpAny_call_entry Fx.next_slot ty Fx.next_of ?_ (Fx.next_args _))))
 unfold Builtin.«set_iterator.__next__» slotArgs
 simp only[List.isEmpty_nil,Bool.not_true,Bool.false_eq_true,↓reduceIte,bind_assoc,List.length_nil,bne_self_eq_false]
 refine wpAny_bind (wpAny_pure (wpAny_bind (wpAny_fieldsOf hI rfl ?_)))
 show wpAny _ _ (setEntries a >>= _) _ _ _
 refine wpAny_bind (wpAny_setEntries_of ho hd hf ?_)
 rw[if_neg (by simp)]
 show wpAny _ _ (setNext a slot i ep >>= _) _ _ _
 refine wpAny_bind (nx _ _ _ ?_)
 refine wpAny_bind (wpAny_setField_rec hI (by simp) fun h1 g1 b1=>?_)
 refine stop (B:=A.in1) (s:={ s with heap:=h1}) hh fun e h' old te=>?_
 refine wpAny_bind (wpAny_isInstance (b:=true) te isSubtype_stop ?_)
 exact wpAny_pure (k h' fun b o hb e=>old b o ((b1.2 b hb).trans e))
theorem next2{i p:Nat}{T:Addr}{ps:Array Value}{hv:Int × Value}{Q:Option Value->Shared->Prop}(hI:s.heap.get? I=some (itO (.ref T) i a es.size ep))(ho:s.heap.get? a=some o)(hd:o.data=.set es ep t)(hf:t.fits es.size=true)(hT:IsTup s.heap T ps)
  (hp:ps[i]? = some (rawInt p)) (he:es[p]? = some hv)
  (k:∀ h',h'.get? I=some (itO (.ref T) (i+1) a es.size ep)->(∀ b o,b ≠ I->s.heap.get? b=some o->h'.get? b=some o)->Q (some hv.2) { s with heap:=h'}):wpAny (model prog w) A (pyNext (.ref I)) Q E s:=by
 have ty:s.TypeIs (.ref I) "set_iterator" :=⟨_,hI,rfl⟩
 obtain⟨ot,got,_,nt,dt⟩:=hT
 unfold pyNext
 refine wpAny_bind (wpAny_attempt (wpAny_callSpecial?_slot (name:=Str.ofString "__next__") ty Fx.next_slot (wpAny_call_entry Fx.next_slot ty Fx.next_of ?_ (Fx.next_args _))))
 unfold Builtin.«set_iterator.__next__» slotArgs
 simp only[List.isEmpty_nil,Bool.not_true,Bool.false_eq_true,↓reduceIte,bind_assoc,List.length_nil,bne_self_eq_false]
 refine wpAny_bind (wpAny_pure (wpAny_bind (wpAny_fieldsOf hI rfl ?_)))
 show wpAny _ _ (setEntries a >>= _) _ _ _
 refine wpAny_bind (wpAny_setEntries_of ho hd hf ?_)
 rw[if_neg (by simp)]
 show wpAny _ _ (seqItems? (.ref T) >>= _) _ _ _
 refine wpAny_bind (wpAny_seqItems got dt ?_)
 simp only[Int.toNat_natCast,hp,rawInt]
 unfold setNextDrawn
 refine wpAny_bind (wpAny_bind (wpAny_setState_of ho hd hf ?_))
 simp only[bne_self_eq_false,Bool.false_eq_true,↓reduceIte,he]
 refine wpAny_pure ?_
 refine wpAny_bind (wpAny_setField_rec hI (by simp) fun h1 g1 b1=>?_)
 refine wpAny_pure ⟨_,rfl,wpAny_pure (k h1 ?_ fun b o hb e=>(b1.2 b hb).trans e)⟩
 rw[g1];rfl
theorem end2{i:Nat}{T:Addr}{ps:Array Value}{Q:Option Value->Shared->Prop}(hh:A.handled=none)(hI:s.heap.get? I=some (itO (.ref T) i a es.size ep))(ho:s.heap.get? a=some o)(hd:o.data=.set es ep t)(hf:t.fits es.size=true)(hT:IsTup s.heap T ps)
  (hp:ps[i]? = none) (k:∀ h',(∀ b o,b ≠ I->s.heap.get? b=some o->h'.get? b=some o)->Q none { s with heap:=h'}):wpAny (model prog w) A (pyNext (.ref I)) Q E s:=by
 have ty:s.TypeIs (.ref I) "set_iterator" :=⟨_,hI,rfl⟩
 obtain⟨ot,got,_,nt,dt⟩:=hT
 unfold pyNext
 refine wpAny_bind (wpAny_attempt (wpAny_callSpecial?_slot (name:=Str.ofString "__next__") ty Fx.next_slot (wpAny_call_entry Fx.next_slot ty Fx.next_of ?_ (Fx.next_args _))))
 unfold Builtin.«set_iterator.__next__» slotArgs
 simp only[List.isEmpty_nil,Bool.not_true,Bool.false_eq_true,↓reduceIte,bind_assoc,List.length_nil,bne_self_eq_false]
 refine wpAny_bind (wpAny_pure (wpAny_bind (wpAny_fieldsOf hI rfl ?_)))
 show wpAny _ _ (setEntries a >>= _) _ _ _
 refine wpAny_bind (wpAny_setEntries_of ho hd hf ?_)
 rw[if_neg (by simp)]
 show wpAny _ _ (seqItems? (.ref T) >>= _) _ _ _
 refine wpAny_bind (wpAny_seqItems got dt ?_)
 simp only[Int.toNat_natCast,hp]
 refine wpAny_bind (wpAny_setField_rec hI (by simp) fun h1 g1 b1=>?_)
 refine wpAny_bind (wpAny_setField_rec (s:={ s with heap:=h1}) g1 (by simp) fun h2 g2 b2=>?_)
 refine stop (B:=A.in1) (s:={ s with heap:=h2}) hh fun e h' old te=>?_
 refine wpAny_bind (wpAny_isInstance (b:=true) te isSubtype_stop ?_)
 exact wpAny_pure (k h' fun b o hb e=>old b o ((b2.2 b hb).trans ((b1.2 b hb).trans e)))
end
end TS
namespace TS
open PySem PyProof.Rows
namespace Fx
theorem self_slot:Slot "set_iterator" "__iter__" "set_iterator.__iter__" :=.of (owner:= "set_iterator") (n:= "__iter__") (by rw[typeLookup_type,builtinLookup_eq_fast];kernel_rfl) (by decide +kernel) (by decide +kernel) (by decide +kernel) (by first | exact .inl (by decide +kernel) | exact .inr (by decide +kernel)) (by rw[isSubtype_type];kernel_rfl)
theorem self_of:entryFor table "set_iterator.__iter__" = some Builtin.«dict_keyiterator.__iter__» :=entryFor_alias (id':= "dict_keyiterator.__iter__") (by kernel_rfl) rfl (by decide +kernel) (by kernel_rfl)
theorem self_args(v:Value):argsOk "set_iterator.__iter__" ⟨[v],[]⟩:=by unfold argsOk;kernel_rfl
end Fx
section
variable {prog:Program}{w:World}{A:Around}{E:Value->Shared->Prop}{s:Shared}{I a:Addr}{o:Obj}{es:Array (Int × Value)}{ep:Nat}{t:SetTable}
theorem self{f0:Value}{i n:Nat}{Q:Value->Shared->Prop}(hI:s.heap.get? I=some (itO f0 i a n ep))(k:Q (.ref I) s):wpAny (model prog w) A (pyIter (.ref I)) Q E s:=by
 have ty:s.TypeIs (.ref I) "set_iterator" :=⟨_,hI,rfl⟩
 refine wpAny_pyIter_slot ty Fx.self_slot (wpAny_call_entry Fx.self_slot ty Fx.self_of ?_ (Fx.self_args _))
 show wpAny _ _ (ret (.ref I)) _ _ s
 exact wpAny_pure ⟨_,rfl,"set_iterator",_,ty,Fx.next_slot.lookup,k⟩
theorem walk1(hh:A.handled=none)(hne:a ≠ I)(hd:o.data=.set es ep t)(hf:t.fits es.size=true)(val:Nat->Value)(slots:Nat->Nat)
  (nx:∀ (i:Nat) (s:Shared) (A:Around) (E:Value->Shared->Prop) (R:Option (Value × Nat)->Shared->Prop),i<es.size->s.heap.get? a=some o->R (some (val i,slots (i+1))) s->wpAny (model prog w) A (setNext a (slots i) i ep) R E s)
  (en:∀ (s:Shared) (A:Around) (E:Value->Shared->Prop) (R:Option (Value × Nat)->Shared->Prop),s.heap.get? a=some o->R none s->wpAny (model prog w) A (setNext a (slots es.size) es.size ep) R E s) :
  Walks prog w A I [I,a] [I] es.size (fun i v=>v=val i) (fun i h=>h.get? I=some (itO (rawInt (slots i)) i a es.size ep)/\h.get? a=some o) where
 sub:=fun b hb=>by simp at hb;simp[hb]
 frame:=fun _ _ _ st kk=>⟨kk I (by simp) _ st.1,kk a (by simp) _ st.2⟩
 item:=fun i s Q E hi st k=>by
  refine next1 st.1 st.2 hd hf (fun A E R r=>nx i s A E R hi st.2 r) fun h' g old=>?_
  exact k _ h' s.toks rfl ⟨g,old a o hne st.2⟩ fun b o hb e=>old b o (by simpa using hb) e
 done:=fun s Q E st k=>end1 hh st.1 st.2 hd hf (fun A E R r=>en s A E R st.2 r) fun h' old=>k h' s.toks fun b o hb e=>old b o (by simpa using hb) e
 self:=fun i s Q E st k=>self st.1 k
theorem walk2{T:Addr}{ps:Array Value}(hh:A.handled=none)(hne:a ≠ I)(hnt:T ≠ I)(hd:o.data=.set es ep t)(hf:t.fits es.size=true)(val:Nat->Value)(pl:Nat->Nat)(hl:ps.size=es.size)
  (hp:∀ i,i<es.size->ps[i]? = some (rawInt (pl i))/\∃ h,es[pl i]? = some (h,val i)) :
  Walks prog w A I [I,a,T] [I] es.size (fun i v=>v=val i) (fun i h=>h.get? I=some (itO (.ref T) i a es.size ep)/\h.get? a=some o/\IsTup h T ps) where
 sub:=fun b hb=>by simp at hb;simp[hb]
 frame:=fun _ _ _ st kk=>⟨kk I (by simp) _ st.1,kk a (by simp) _ st.2.1,let⟨o,ho,r⟩:=st.2.2;⟨o,kk T (by simp) _ ho,r⟩⟩
 item:=fun i s Q E hi st k=>by
  obtain⟨h1,h,h2⟩:=hp i hi
  refine next2 st.1 st.2.1 hd hf st.2.2 h1 h2 fun h' g old=>?_
  obtain⟨ot,got,r⟩:=st.2.2
  exact k _ h' s.toks rfl ⟨g,old a o hne st.2.1,ot,old T _ hnt got,r⟩ fun b o hb e=>old b o (by simpa using hb) e
 done:=fun s Q E st k=>end2 hh st.1 st.2.1 hd hf st.2.2 (by simp[hl]) fun h' old=>k h' s.toks fun b o hb e=>old b o (by simpa using hb) e
 self:=fun i s Q E st k=>self st.1 k
end
end TS
namespace TS
open PySem PyProof.Rows
section
variable {prog:Program}{w:World}{A:Around}{E:Value->Shared->Prop}{s:Shared}{a:Addr}{o:Obj}{es:Array (Int × Value)}{ep:Nat}{t:SetTable}
theorem zgf{Q:Bool->Shared->Prop}(k:Q (bt w) s):wpAny (model prog w) A setsByText Q E s:=wpAny_bind (wpAny_askSetting (wpAny_pure k))
theorem nextA{i:Nat}{R:Option (Value × Nat)->Shared->Prop}(ho:s.heap.get? a=some o)(hd:o.data=.set es ep t)(hf:t.fits es.size=true)(hb:bt w=true)
  (k:R (((pickOrder (w.params.setOrder a ep) es)[i]?).map fun e=>(e.2,0)) s):wpAny (model prog w) A (setNext a 0 i ep) R E s:=by
 unfold setNext
 refine wpAny_bind (wpAny_setState_of ho hd hf ?_)
 refine wpAny_bind (zgf ?_)
 rw[hb]
 simp only[bne_self_eq_false,Bool.false_eq_true,↓reduceIte]
 unfold setWalk
 refine wpAny_bind (wpAny_bind (wpAny_setState_of ho hd hf ?_))
 refine wpAny_bind (zgf ?_)
 rw[hb]
 simp only[↓reduceIte]
 exact wpAny_bind (wpAny_askSetting (wpAny_pure (wpAny_pure k)))
theorem nextB{i slot:Nat}{R:Option (Value × Nat)->Shared->Prop}(ho:s.heap.get? a=some o)(hd:o.data=.set es ep t)(hf:t.fits es.size=true)(hb:bt w=false)(hl:t.led=true)(hz:es.size<=1)
  (k:R (match es[SetTable.below t.place slot]?,t.place[SetTable.below t.place slot]? with
   | some (_,x),some j=>some (x,j+1)
   | _,_=>none) s):wpAny (model prog w) A (setNext a slot i ep) R E s:=by
 unfold setNext
 refine wpAny_bind (wpAny_setState_of ho hd hf ?_)
 refine wpAny_bind (zgf ?_)
 rw[hb]
 simp only[Bool.false_eq_true,↓reduceIte]
 rw[if_neg (by show ¬ ((!t.plain && decide (es.size > 1))=true);simp;lia)]
 refine wpAny_bind (wpAny_of_eq (a:=()) ?_ (wpAny_pure k))
 obtain⟨mask,place,dummies,finger,led,moves,plain⟩:=t
 have hl':led=true:=hl
 subst hl'
 rfl
end
theorem below0(p:Nat):SetTable.below #[p] 0=0:=by simp[SetTable.below,SetTable.below.go]
theorem below1(p:Nat):SetTable.below #[p] (p+1)=1:=by simp[SetTable.below,SetTable.below.go]
end TS
namespace TS
open PySem PyProof.Rows
section
variable {prog:Program}{w:World}{A:Around}{E:Value->Shared->Prop}{s:Shared}{a:Addr}{o:Obj}{es:Array (Int × Value)}{ep:Nat}{t:SetTable}
theorem _root_.PySem.Walks.weak{I:Addr}{fp wr:List Addr}{n:Nat}{P P':Nat->Value->Prop}{St:Nat->Heap->Prop}(W:Walks prog w A I fp wr n P St)(h:∀ i v,i<n->P i v->P' i v):Walks prog w A I fp wr n P' St:=
 ⟨W.sub,W.frame,fun i s Q E hi st k=>W.item i s Q E hi st fun v h' tk p=>k v h' tk (h i v hi p),W.done,W.self⟩
structure WkS(prog:Program)(w:World)(a n0:Nat)(zs:List Str)(I:Addr)(h:Heap):Prop where
 ex:∃ (ys:List Str) (fp:List Addr) (St:Nat->Heap->Prop),ys.Perm zs/\I ∈ fp/\(∀ b ∈ fp,b<h.objs.size/\(b=a \/ n0<=b))/\St 0 h/\∀ B:Around,B.handled=none->Walks prog w B I fp [I] ys.length (fun i v=>∃ u,v=Value.str (ys.getD i "") u) St
theorem WkS.of{n0:Nat}{zs:List Str}{I:Addr}{h:Heap}{ord:Array (Int × Value)}{fp:List Addr}{St:Nat->Heap->Prop}(hp:ord.toList.Perm es.toList)(ge:∀ e ∈ es.toList,∃ z u,e=(hashStr w z,Value.str z u))(gm:(es.toList.map fun e=>txt e.2).Perm zs)
  (hI:I ∈ fp) (hb:∀ b ∈ fp,b<h.objs.size/\(b=a \/ n0<=b)) (st:St 0 h) (W:∀ B:Around,B.handled=none->Walks prog w B I fp [I] es.size (fun i v=>v=(ord.getD i (0,.none)).2) St):WkS prog w a n0 zs I h:=by
 have hl:ord.size=es.size:=by simpa using hp.length_eq
 refine⟨ord.toList.map fun e=>txt e.2,fp,St,(hp.map _).trans gm,hI,hb,st,fun B hB=>?_⟩
 rw[List.length_map,Array.length_toList,hl]
 refine(W B hB).weak fun i v hi e=>?_
 have hi':i<ord.size:=by lia
 obtain⟨z,u,hz⟩:=ge ord[i] (hp.mem_iff.mp (by simp))
 subst e
 refine⟨u,?_⟩
 simp[hi',hz,txt]
theorem iterS{zs:List Str}{Q:Value->Shared->Prop}(is:IsS w s.heap a zs)(hzs:zs.length<scanBound)
  (k:∀ I h' d,s.heap.objs.size<=I->WkS prog w a s.heap.objs.size zs I h'->(∀ b o,s.heap.get? b=some o->h'.get? b=some o)->Q (.ref I) { s with heap:=h',drawn:=d}):wpAny (model prog w) A (pyIter (.ref a)) Q E s:=by
 obtain⟨o,es,ep,t,ho,gx,hd,ge,hf,gl,gp,gm⟩:=is.ex
 have hsb:es.size<scanBound:=by have:=gm.length_eq;simp at this;lia
 have ty:s.TypeIs (.ref a) "set" :=⟨o,ho,gx.1⟩
 have la:a<s.heap.objs.size:=Heap.lt_size ho
 refine wpAny_pyIter_slot ty F.slot_set_iter (wpAny_call_entry F.slot_set_iter ty Fx.iter_of ?_ (F.args_set_iter_1 _))
 unfold Builtin.«frozenset.__iter__» Builtin.Frozenset.slot0 slotArgs
 simp only[List.isEmpty_nil,Bool.not_true,Bool.false_eq_true,↓reduceIte,bind_assoc,List.length_nil,bne_self_eq_false]
 unfold Builtin.Frozenset.addrOf Builtin.Frozenset.sizeOf
 refine wpAny_bind (wpAny_pure (wpAny_bind (wpAny_pure ?_)))
 refine wpAny_bind (wpAny_bind (wpAny_setEntries_of ho hd hf (wpAny_pure ?_)))
 unfold setDrawn
 refine wpAny_bind (wpAny_bind (wpAny_setState_of ho hd hf ?_))
 refine wpAny_bind (zgf (wpAny_pure ?_))
 show wpAny _ _ (if (!bt w && (!t.plain && decide (es.size > 1)))=true then _ else _) _ _ _
 have plain:∀ (ord:Array (Int × Value)) (slots:Nat->Nat),slots 0=0->ord.toList.Perm es.toList ->
   (∀ (i:Nat) (s:Shared) (A:Around) (E:Value->Shared->Prop) (R:Option (Value × Nat)->Shared->Prop),i<es.size->s.heap.get? a=some o->R (some ((ord.getD i (0,.none)).2,slots (i+1))) s->wpAny (model prog w) A (setNext a (slots i) i ep) R E s) ->
   (∀ (s:Shared) (A:Around) (E:Value->Shared->Prop) (R:Option (Value × Nat)->Shared->Prop),s.heap.get? a=some o->R none s->wpAny (model prog w) A (setNext a (slots es.size) es.size ep) R E s) ->
   wpAny (model prog w) A.in1 (pure (rawInt 0) >>= fun first=>setEpoch a >>= fun e=>newFields "set_iterator" [first,rawInt 0,.ref a,rawInt es.size,rawInt e] >>= fun r=>ret r)
    (fun fin s'=>∃ v,fin=.done (.ret v)/\∃ T' r,s'.TypeIs v T'/\typeLookup (.type T') (Str.ofString "__next__")=pure (some r)/\Q v s') E s:=by
  intro ord slots s0 hp nx en
  refine wpAny_bind (wpAny_pure (wpAny_bind (wpAny_setEpoch_of ho hd hf ?_)))
  refine wpAny_bind (wpAny_newObj_type ?_)
  have g0:=Heap.get?_push_size s.heap (o:=itO (rawInt 0) 0 a es.size ep) rfl
  refine wpAny_pure ⟨_,rfl,"set_iterator",_,⟨_,g0,rfl⟩,Fx.next_slot.lookup,?_⟩
  have hne:a ≠ s.heap.objs.size:=Nat.ne_of_lt la
  refine k _ _ s.drawn (Nat.le_refl _) (WkS.of hp ge gm (fp:=[s.heap.objs.size,a]) (by simp) (fun b hb=>?_) ?_ fun B hB=>walk1 hB hne hd hf _ slots nx en) fun b o e=>Heap.get?_push_of_some _ e
  ·rw[Heap.size_push]
   rcases List.mem_cons.mp hb with rfl | hb
   ·exact⟨Nat.lt_succ_self _,.inr (Nat.le_refl _)⟩
   ·rw[List.mem_singleton.mp hb];exact⟨Nat.lt_succ_of_lt la,.inl rfl⟩
  ·rw[s0]
   exact⟨g0,Heap.get?_push_of_some _ ho⟩
 cases hb:bt w with
 | true=>
  have hp:=pick_perm (w.params.setOrder a ep) es
  have hl:(pickOrder (w.params.setOrder a ep) es).size=es.size:=by simpa using hp.length_eq
  refine plain (pickOrder (w.params.setOrder a ep) es) (fun _=>0) rfl hp (fun i s A E R hi g r=>nextA g hd hf hb ?_) fun s A E R g r=>nextA g hd hf hb ?_
  ·have:i<(pickOrder (w.params.setOrder a ep) es).size:=by lia
   simpa [this] using r
  ·simpa [hl] using r
 | false=>
  have led:t.led=true:=by rw[gl,hb];rfl
  by_cases hz:es.size<=1
  ·rw[if_neg (by simp;lia)]
   have hpl:t.place.size=es.size:=by
    unfold SetTable.fits at hf
    simp at hf
    exact hf.1
   refine plain es (fun i=>if i=0 then 0 else t.place.getD 0 0+1) rfl .rfl (fun i s A E R hi g r=>nextB g hd hf hb led hz ?_) fun s A E R g r=>nextB g hd hf hb led hz ?_
   ·have h0:i=0:=by lia
    subst h0
    obtain⟨p,hp⟩:∃ p,t.place=#[p]:=by
     match hq:t.place,hpl with
     | ⟨[p]⟩,_=>exact⟨p,rfl⟩
     | ⟨[]⟩,hpl=>simp at hpl;lia
     | ⟨_ :: _ :: _⟩,hpl=>simp at hpl;lia
    obtain⟨e,he⟩:∃ e,es[0]? = some e:=⟨es[0],by simp[hi]⟩
    simp only[hp] at r ⊢
    simp only[↓reduceIte,below0,he] at r ⊢
    simpa [Array.getD_eq_getD_getElem?,he] using r
   ·by_cases h0:es.size=0
    ·have hp:t.place=#[]:=Array.eq_empty_of_size_eq_zero (by lia)
     have he:es=#[]:=Array.eq_empty_of_size_eq_zero h0
     simp only[hp,he]
     simpa using r
    ·obtain⟨p,hp⟩:∃ p,t.place=#[p]:=by
      match hq:t.place,hpl with
      | ⟨[p]⟩,_=>exact⟨p,rfl⟩
      | ⟨[]⟩,hpl=>simp at hpl;lia
      | ⟨_ :: _ :: _⟩,hpl=>simp at hpl;lia
     have h1:es.size=1:=by lia
     have he:es[1]? = none:=by simp[h1]
     simp only[hp,h1,he,below1,Array.getD_eq_getD_getElem?]
     simpa [below1,he] using r
  ·have pl:t.plain=false:=gp (by lia)
   rw[if_pos (by simp[pl];lia)]
   refine wpAny_bind (draw_perm es.size _ _ _ (by simp) fun ys d hp=>?_)
   have yl:ys.length=es.size:=by simpa using hp.length_eq
   have yb:∀ p ∈ ys,p<es.size:=fun p hm=>by simpa using hp.mem_iff.mp hm
   refine wpAny_bind (wpAny_newTuple ?_ (by rw[List.length_map,yl];exact fits_of_scanBound hsb))
   refine wpAny_bind (wpAny_setEpoch_of (Heap.get?_push_of_some _ ho) hd hf ?_)
   refine wpAny_bind (wpAny_newObj_type ?_)
   generalize hth:s.heap.push (seqObj "tuple" (ys.map fun(i:Nat)=>rawInt i).toArray 0)=th
   have tt:IsTup th s.heap.objs.size (ys.map fun(i:Nat)=>rawInt i).toArray:=by rw[<- hth];exact⟨_,Heap.get?_push_size _ rfl,rfl,0,rfl⟩
   have ts:th.objs.size=s.heap.objs.size+1:=by rw[<- hth,Heap.size_push]
   have oo:th.get? a=some o:=by rw[<- hth];exact Heap.get?_push_of_some _ ho
   have g0:=Heap.get?_push_size th (o:=itO (.ref s.heap.objs.size) 0 a es.size ep) rfl
   have hne:a ≠ th.objs.size:=by rw[ts];exact Nat.ne_of_lt (Nat.lt_succ_of_lt la)
   have hnt:s.heap.objs.size ≠ th.objs.size:=by rw[ts];exact Nat.ne_of_lt (Nat.lt_succ_self _)
   show wpAny _ _ _ _ _ { s with heap:=th.push (itO (.ref s.heap.objs.size) 0 a es.size ep),drawn:=d}
   refine wpAny_pure ⟨_,rfl,"set_iterator",_,⟨_,g0,rfl⟩,Fx.next_slot.lookup,?_⟩
   refine k _ _ d (by rw[ts];exact Nat.le_succ _) (WkS.of (ord:=(ys.map fun p=>es.getD p (0,.none)).toArray) ?_ ge gm (fp:=[th.objs.size,a,s.heap.objs.size]) List.mem_cons_self (fun b hb=>?_) ⟨g0,Heap.get?_push_of_some _ oo,?_⟩ fun B hB=>walk2 (ps:=(ys.map fun(i:Nat)=>rawInt i).toArray) hB hne hnt hd hf _ (fun i=>ys.getD i 0) (by simp[yl]) fun i hi=>?_) fun b o e=>Heap.get?_push_of_some _ (by rw[<- hth];exact Heap.get?_push_of_some _ e)
   ·have:(List.range es.size).map (fun p=>es.getD p (0,.none))=es.toList:=by
     apply List.ext_getElem
     ·simp
     ·intro i h1 h2
      simp at h1
      simp[h1]
    rw[<- this]
    exact hp.map _
   ·rw[Heap.size_push,ts]
    simp only[List.mem_cons,List.not_mem_nil,or_false] at hb
    rcases hb with rfl | rfl | rfl
    ·rw[ts];exact⟨Nat.lt_succ_self _,.inr (Nat.le_succ _)⟩
    ·exact⟨Nat.lt_succ_of_lt (Nat.lt_succ_of_lt la),.inl rfl⟩
    ·exact⟨Nat.lt_succ_of_lt (Nat.lt_succ_self _),.inr (Nat.le_refl _)⟩
   ·have hi':i<ys.length:=by lia
    have hq:ys[i]<es.size:=yb _ (List.getElem_mem hi')
    refine⟨by simp[hi'],es[ys[i]].1,?_⟩
    simp[hi',hq]
   ·obtain⟨ot,got,r⟩:=tt
    exact⟨ot,Heap.get?_push_of_some _ got,r⟩
end
end TS
namespace TS
open PySem PyProof.Rows
namespace Fx
theorem len_of:typeLookup (.type "set") "__len__" = pure (some (.builtin "set.__len__")):=by rw[typeLookup_type,builtinLookup_eq_fast];kernel_rfl
end Fx
section
variable {prog:Program}{w:World}{A:Around}{E:Value->Shared->Prop}{s:Shared}{a:Addr}{zs:List Str}
set_option maxRecDepth 100000 in
theorem collS{Q:List Value->Shared->Prop}(hh:A.handled=none)(is:IsS w s.heap a zs)(hz:zs.length<scanBound)
  (k:∀ (vs:Array Value) (ys:List Str) s',ItemsOf (fun i v=>∃ u,v=Value.str (ys.getD i "") u) vs ys.length->ys.Perm zs->(∀ b o,s.heap.get? b=some o->s'.heap.get? b=some o)->s'.gens=s.gens->s'.os=s.os->Q vs.toList s') :
  wpAny (model prog w) A (collect (.ref a)) Q E s:=by
 have la:a<s.heap.objs.size:=let⟨_,_,_,_,g,_⟩:=is.ex;Heap.lt_size g
 unfold collect
 refine wpAny_bind (wpAny_runValue (codeAny_builtin F.entry_proto_collect ?_))
 rw[Around.under_plainId F.plain_proto_collect _]
 refine wpAny_bind (m:=newList []) (wpAny_newObj_type ?_)
 refine wpAny_pure ⟨plainId_quiet F.plain_list_iadd _,?_⟩
 refine codeAny_builtin F.entry_list_iadd ?_
 rw[Around.under_plainId F.plain_list_iadd _]
 generalize hL:s.heap.push { cls:=.type "list",data:=.seq ([]:List Value).toArray}=L
 have gl:L.get? s.heap.objs.size=some { cls:=.type "list",data:=.seq ([]:List Value).toArray}:=by rw[<- hL];exact Heap.get?_push_size _ rfl
 have ls:L.objs.size=s.heap.objs.size+1:=by rw[<- hL,Heap.size_push]
 have il:IsS w L a zs:=is.mono fun o e=>by rw[<- hL];exact Heap.get?_push_of_some _ e
 have ty:Shared.TypeIs { s with heap:=L} (.ref a) "set" :=let⟨o,_,_,_,g,x,_⟩:=il.ex;⟨o,g,x.1⟩
 show wpAny _ A.in1 (Builtin.List.listExtendWith (.ref s.heap.objs.size) (.ref a) (.ref s.heap.objs.size)) _ _ { s with heap:=L}
 have ns:Builtin.List.listSameRef (.ref s.heap.objs.size) (.ref a)=false:=by simp[Builtin.List.listSameRef];exact Nat.ne_of_gt la
 unfold Builtin.List.listExtendWith
 refine wpAny_bind (wpAny_typeOf ty ?_)
 rw[if_neg (by rw[ns];decide)]
 refine wpAny_bind (iterS (s:={ s with heap:=L}) il hz fun I h' d hI wk old=>?_)
 have ty':Shared.TypeIs { s with heap:=h',drawn:=d} (.ref a) "set" :=let⟨o,_,_,_,g,x,_⟩:=il.ex;⟨o,old a o g,x.1⟩
 refine wpAny_bind (wpAny_holding ?_)
 unfold Builtin.List.listLengthHint
 refine wpAny_bind (wpAny_specialOf ty' Fx.len_of ?_)
 wp_delta
 refine wpAny_bind (wpAny_isInstance (b:=true) ty' (by rw[isSubtype_type];kernel_rfl) ?_)
 show wpAny _ A.in1 (typeOf (Value.ref a) >>= _) _ _ _
 refine wpAny_bind (wpAny_typeOf ty' (wpAny_pure ?_))
 rw[if_pos (by decide)]
 refine wpAny_bind (wpAny_rule ?_)
 unfold Builtin.List.listTouch Builtin.List.listUpdate
 have gs:h'.get? s.heap.objs.size=some { cls:=.type "list",data:=.seq ([]:List Value).toArray}:=old _ _ gl
 refine wpAny_bind (wpAny_bind (wpAny_updateSeq gs rfl ?_))
 have gs1:=Heap.get?_update_self (Obj.mapSeq (·.push Value.none)) gs rfl
 refine wpAny_updateSeq gs1 rfl ?_
 have gs2:=Heap.get?_update_self (Obj.mapSeq (·.pop)) gs1 rfl
 obtain⟨ys,fp,St,yp,If,fb,st,W⟩:=wk.ex
 have nf:s.heap.objs.size ∉ fp:=fun q=>by
  rcases (fb _ q).2 with e | e
  ·exact absurd la (e ▸ Nat.lt_irrefl _)
  ·have e':L.objs.size<=s.heap.objs.size:=e
   rw[ls] at e'
   exact absurd e' (Nat.not_succ_le_self _)
 have W1:=W A.in1 hh
 have same:∀ b o,b ≠ s.heap.objs.size->h'.get? b=some o->((h'.update s.heap.objs.size (Obj.mapSeq (·.push Value.none))).update s.heap.objs.size (Obj.mapSeq (·.pop))).get? b=some o:=fun b o hb e=>
  (Heap.get?_update_other _ _ (Ne.symm hb)).trans ((Heap.get?_update_other _ _ (Ne.symm hb)).trans e)
 have st':=W1.frame 0 h' _ st fun b hb o e=>same b o (fun q=>nf (q ▸ hb)) e
 have yl:ys.length<=sizeLine:=fits_of_scanBound (by rw[yp.length_eq];exact hz)
 refine wpAny_pure ⟨plainId_quiet F.plain_extend_loop _,?_⟩
 refine codeAny_extend_loopS W1.toS yl _ nf _ ys.length 0 _ _ _ rfl (Nat.zero_le _) st' gs2 (ItemsOf.nil _) fun s' acc c mv gS it=>?_
 show wpAny _ A (load s.heap.objs.size >>= _) _ _ s'
 refine wpAny_bind (wpAny_load gS ?_)
 refine wpAny_pure (k acc ys s' it yp (fun b o e=>?_) mv.gens mv.os)
 have lt:=Heap.lt_size e
 have hb:b ≠ s.heap.objs.size:=Nat.ne_of_lt lt
 refine mv.heap b o (fun q=>?_) (same b o hb (old b o (by show L.get? b=_;rw[<- hL];exact Heap.get?_push_of_some _ e)))
 rcases List.mem_cons.mp q with q | q
 ·exact hb q
 ·rw[List.mem_singleton.mp q] at lt
  have e':L.objs.size<=I:=hI
  rw[ls] at e'
  exact absurd lt (Nat.not_lt.mpr (Nat.le_of_succ_le e'))
end
end TS
namespace TS
open PySem PyProof.Rows
theorem strs_of{ys:List Str}{vs:Array Value}(h:ItemsOf (fun i v=>∃ u,v=Value.str (ys.getD i "") u) vs ys.length):StrsAre vs.toList ys:=by
 obtain⟨hl,hv⟩:=h
 have key:∀ (l:List Value) (y:List Str),l.length=y.length->(∀ (j:Nat) (v:Value),l[j]? = some v->∃ u,v=Value.str (y.getD j "") u)->StrsAre l y:=by
  intro l
  induction l with
  | nil=>
   intro y hl _
   match y,hl with
   | [],_=>exact .nil
  | cons v l ih=>
   intro y hl h
   match y,hl with
   | z :: y,hl=>
    obtain⟨u,rfl⟩:=h 0 v rfl
    exact .cons _ _ (ih y (by simpa using hl) fun j v hv=>by simpa using h (j+1) v (by simpa using hv))
 exact key vs.toList ys (by simpa using hl) fun j v e=>hv j v (by rw[Array.getElem?_toList] at e;exact e)
section
variable {prog:Program}{w:World}{A:Around}{E:Value->Shared->Prop}{s:Shared}{a:Addr}{zs:List Str}
theorem srtdS{Q:Value->Shared->Prop}(hh:A.handled=none)(is:IsS w s.heap a zs)(hz:zs.length<64)
  (k:∀ (out:List Value) (ss:List Str) (e:Nat) (s1:Shared) (h':Heap),StrsAre out ss->ss.Perm zs->sortedS ss=true->(∀ b o,s.heap.get? b=some o->s1.heap.get? b=some o)->s1.gens=s.gens->s1.os=s.os ->
   h'.get? s1.heap.objs.size=some (seqObj "list" out.toArray e)->(∀ b o,s1.heap.get? b=some o->h'.get? b=some o)->Q (.ref s1.heap.objs.size) { s1 with heap:=h'}) :
  wpAny (model prog w) A (call (.builtin "sorted") [.ref a]) Q E s:=by
 refine Calls.call_function_entry kind_sorted plain_sorted entry_sorted (args_sorted1 _) ?_
 unfold Builtin.«sorted»
 refine wpAny_bind (m:=checkCount "sorted" 1 1 _) (wpAny_pure ?_)
 refine wpAny_bind (collS hh is (by have:scanBound=4096:=rfl;lia) fun vs ys s1 it yp old eg eo=>?_)
 have sv:=strs_of it
 have vl:vs.toList.length<64:=by have:=it.1;have:=yp.length_eq;simp;lia
 have g0:(s1.heap.push (seqObj "list" vs.toList.toArray 0)).get? s1.heap.objs.size=some (seqObj "list" vs.toList.toArray 0):=Heap.get?_push_size _ rfl
 refine wpAny_bind (wpAny_newList ?_ (fits_of_scanBound (by have:scanBound=4096:=rfl;lia)))
 show wpAny _ _ _ _ _ { s1 with heap:=s1.heap.push (seqObj "list" vs.toList.toArray 0)}
 have sz:(s1.heap.push (seqObj "list" vs.toList.toArray 0)).objs.size=s1.heap.objs.size+1:=by rw[Heap.size_push]
 refine wpAny_bind (wpAny_holding (wpAny_call_entry slot_list_sort ⟨_,g0,rfl⟩ entry_list_sort (list_sort_treeK strKind_oneLt g0 sv.keysOf (fun v1 v2 rest e=>keyKind_strs (by rw[<- e];exact sv)) vl fun st a1 a2=>⟨_,rfl,?_⟩) (args_list_sort _)))
 obtain⟨ss,h1,h2,h3⟩:=sorted_out_str sv a1 a2
 obtain⟨e,he⟩:=sortedHeap_at (out:=(arrOf st).map (·.2)) g0
 refine wpAny_pure ⟨_,rfl,?_⟩
 refine k ((arrOf st).map (·.2)).toList ss e s1 _ h1 (h2.trans yp) h3 old eg eo (by rw[Array.toArray_toList];exact he) fun b o eb=>?_
 have lt:=Heap.lt_size eb
 rw[sortedHeap_old (Nat.ne_of_lt lt) (by rw[sz];exact Nat.lt_succ_of_lt lt)]
 exact Heap.get?_push_of_some _ eb
end
end TS
namespace TS
open PySem PySem.Spec PyProof.Rows
theorem lt_anti:∀ (a b:List Nat),ltCps a b=false->ltCps b a=false->a=b
 | [],[],_,_=>rfl
 | [],_ :: _,h,_=>by cases h
 | _ :: _,[],_,h=>by cases h
 | a :: r,b :: t,h1,h2=>by
  simp only[ltCps,Bool.or_eq_false_iff,decide_eq_false_iff_not,Bool.and_eq_false_imp,beq_iff_eq] at h1 h2
  have e:a=b:=by lia
  subst e
  rw[lt_anti r t (h1.2 rfl) (h2.2 rfl)]
theorem lt_trans:∀ (a b c:List Nat),ltCps b a=false->ltCps c b=false->ltCps c a=false
 | [],_,[],_,_=>rfl
 | [],[],_ :: _,_,_=>by simp[ltCps]
 | [],_ :: _,_ :: _,_,_=>by simp[ltCps]
 | _ :: _,[],_,h,_=>by cases h
 | _ :: _,_ :: _,[],_,h=>by cases h
 | a :: r,b :: t,c :: u,h1,h2=>by
  simp only[ltCps,Bool.or_eq_false_iff,decide_eq_false_iff_not,Bool.and_eq_false_imp,beq_iff_eq] at h1 h2 ⊢
  refine⟨by lia,fun e=>?_⟩
  have e1:b=a:=by lia
  have e2:c=b:=by lia
  exact lt_trans r t u (h1.2 e1) (h2.2 e2)
noncomputable def le(a b:Str):Prop:=ltCps b.cps.toList a.cps.toList=false
theorem le_anti{a b:Str}(h1:le a b)(h2:le b a):a=b:=by
 have:=lt_anti b.cps.toList a.cps.toList h1 h2
 cases a;cases b
 simp only[Str.mk.injEq] at this ⊢
 exact(Array.toList_inj.mp this).symm
theorem rise:∀ (x:Str) (l:List Str),risingS x l=true->(x :: l).Pairwise le
 | x,[],_=>.cons (by simp) .nil
 | x,y :: l,h=>by
  simp only[risingS,Bool.and_eq_true,Bool.not_eq_true'] at h
  have ih:=rise y l h.2
  refine .cons (fun z hz=>?_) ih
  rcases List.mem_cons.mp hz with rfl | hz
  ·exact h.1
  ·exact lt_trans _ _ _ h.1 (List.rel_of_pairwise_cons ih hz)
theorem pair:∀ {l:List Str},sortedS l=true->l.Pairwise le
 | [],_=>.nil
 | x :: l,h=>rise x l h
theorem uniqS:∀ {l m:List Str},l.Pairwise le->m.Pairwise le->l.Perm m->l=m
 | [],m,_,_,p=>(List.nil_perm.mp p).symm
 | _ :: _,[],_,_,p=>absurd p.length_eq (by simp)
 | x :: l,y :: m,h1,h2,p=>by
  have hx:x ∈ y :: m:=p.mem_iff.mp List.mem_cons_self
  have hy:y ∈ x :: l:=p.mem_iff.mpr List.mem_cons_self
  have e:x=y:=by
   rcases List.mem_cons.mp hx with e | hx
   ·exact e
   ·rcases List.mem_cons.mp hy with e | hy
    ·exact e.symm
    ·exact le_anti (List.rel_of_pairwise_cons h1 hy) (List.rel_of_pairwise_cons h2 hx)
  subst e
  rw[uniqS (List.Pairwise.of_cons h1) (List.Pairwise.of_cons h2) p.cons_inv]
open Classical in
noncomputable def srt(zs:List Str):List Str:=if h:∃ ss:List Str,ss.Pairwise le/\ss.Perm zs then h.choose else []
theorem srt_eq{zs ss:List Str}(h:ss.Pairwise le)(p:ss.Perm zs):srt zs=ss:=by
 have hx:∃ ss:List Str,ss.Pairwise le/\ss.Perm zs:=⟨ss,h,p⟩
 unfold srt
 rw[dif_pos hx]
 exact uniqS hx.choose_spec.1 h (hx.choose_spec.2.trans p.symm)
noncomputable def ddp(zs:List Str):List Str:=zs.foldl put []
end TS
namespace L2
open PySem PySem.Spec PyProof.Rows TS
theorem Inv.drawn{X:Cx}{pins:List (Addr × Obj)}{σ:List (Option V)}{H:Hp}{s s1:Shared}(I:Inv X pins σ H s)(eh:∀ b o,s.heap.get? b=some o->s1.heap.get? b=some o)(eg:s1.gens=s.gens)(eo:s1.os=s.os):Inv X pins σ H s1:=by
 obtain⟨h,g,d,tk,os⟩:=s1
 have eg':g=s.gens:=eg
 have eo':os=s.os:=eo
 subst eg' eo'
 have J:Inv X pins σ H { s with heap:=h,toks:=tk}:=I.kept (t':=tk) eh
 exact⟨J.ok,J.os,J.bare,J.base,J.loc,J.cell,J.free,J.freeC,J.pin,J.hok,J.len⟩
noncomputable def TxtIn(K:PySem.W.Frag)(H:Hp)(x:V)(zs:List Str):Prop:=(∃ a xs,x=.ref a/\SqL K H a xs/\xs=zs.map V.str) \/ (∃ z,x=.str z/\zs=z.cps.toList.map fun c=>(⟨#[c]⟩:Str))
noncomputable def tSS(K:PySem.W.Frag)(t:TE):TE:=fun σ H Q=>t σ H fun x H1=>∃ zs,TxtIn K H1 x zs/\zs.length<4000/\(ddp zs).length<64/\∀ r,H1 r=none->Q (.ref r) (upd H1 r (.lst ((srt (ddp zs)).map V.str)))
end L2
namespace L2
open PySem PySem.Spec PyProof.Rows TS
section
variable {X:Cx}{e:Expr}{t:TE}{p p1 pos pos1:Pos}
theorem all_at(zs:List Str)(n:Nat)(h:n=zs.length):(List.range' 0 n).map (fun i=>zs.getD i "")=zs:=by
 subst h
 apply List.ext_getElem
 ·simp
 ·intro i h1 h2
  simp[h2]
theorem all_cp(z:Str):(List.range' 0 z.cps.size).map (fun i=>(⟨#[z.cps.getD i 0]⟩:Str))=z.cps.toList.map fun c=>(⟨#[c]⟩:Str):=by
 apply List.ext_getElem
 ·simp
 ·intro i h1 h2
  simp at h2
  simp[h2]
theorem set_of{pins:List (Addr × Obj)}{σ:St}{H:Hp}{s:Shared}{x:V}{u:Value}{zs:List Str}{Q:Value->Shared->Prop}(hc:X.calm=true)(I:Inv X pins σ H s)(r:RelV x u)(ht:TxtIn X.K H x zs)(hz:zs.length<4000)
  (k:∀ s2,LeftS X.w s (ddp zs) s2->Q (.ref s.heap.objs.size) s2):wpAny (model X.prog X.w) X.A (call (.type "set") [u]) Q X.xe s:=by
 have hh:=I.ok.hd hc
 have sb:scanBound=4096:=rfl
 rcases ht with ⟨a,xs,rfl,hq,rfl⟩ | ⟨z,rfl,rfl⟩
 ·cases r
  obtain⟨its,rv,pl,_⟩:=I.list hq
  have hl:its.toArray.size=zs.length:=by have:=rv.length;simp at this;simp;lia
  have hi:∀ (i:Nat) (v:Value),its.toArray[i]? = some v->∃ t,v=Value.str (zs.getD i "") t:=fun i v hv=>by
   have hv':its[i]? = some v:=by simpa using hv
   obtain⟨hi,e⟩:=List.getElem?_eq_some_iff.mp hv'
   have hz':i<zs.length:=by simp at hl;lia
   have:=L3.Vals.getE rv i (by simpa using hz') hi
   rw[e] at this
   simp only[List.getElem_map] at this
   obtain⟨t,e'⟩:=this
   exact⟨t,by rw[e'];simp[hz']⟩
  refine zgu (P:=LeftS X.w s (ddp zs)) hh (fun B hB=>?_) k
  have:=zgX (prog:=X.prog) (w:=X.w) (E:=X.xe) hB pl.isList hi (by lia)
  rw[all_at zs _ hl] at this
  exact this
 ·obtain⟨tk,rfl⟩:=r
  refine zgu (P:=LeftS X.w s (ddp _)) hh (fun B hB=>?_) k
  have:=init_strS (prog:=X.prog) (w:=X.w) (E:=X.xe) (s:=s) (x:=z) (t:=tk) hB (by simp at hz;lia)
  rw[all_cp] at this
  exact this
noncomputable def one(R:V->Hp->Prop):List V->Hp->Prop:=fun xs H=>match xs with
 | [x]=>R x H
 | _=>False
theorem zeE{R:V->Hp->Prop}{xs:List V}{H:Hp}(h:one R xs H):∃ x,xs=[x]/\R x H:=by
 match xs,h with
 | [x],h=>exact⟨x,rfl,h⟩
theorem zcX:∀ {out:List Value} {ss:List Str},StrsAre out ss->Vals (ss.map V.str) out
 | _,_,.nil=>.nil
 | _,_,.cons _ _ h=>.cons ⟨_,rfl⟩ (zcX h)
theorem zg6(hc:X.calm=true)(he:PE X e t)(hg:Gl X "sorted")(hm:X.mg "sorted" = none)(hv:bootBuiltins "sorted" = some (.builtin "sorted"))(hg1:Gl X "set")(hm1:X.mg "set" = none)(hv1:bootBuiltins "set" = some (.type "set"))
  (h1:starEach [e] X.env=(false,eval e X.env) :: starEach [] X.env) (h2:starEach [Expr.Call (.Name "set" p1) [e] [] pos1] X.env=(false,eval (.Call (.Name "set" p1) [e] [] pos1) X.env) :: starEach [] X.env) :
  PE X (.Call (.Name "sorted" p) [.Call (.Name "set" p1) [e] [] pos1] [] pos) (tSS X.K t):=by
 intro pins s σ H Q I h
 refine wpAny_Call_Name_kw (zcm I hg hm hv ?_ (by decide) (by decide))
 refine PyProof.Rows.callWith_builtin1 ?_ h2 rfl
 rw[h2]
 refine Calls.spliced_cons (rest:=backTo pos (starEach [] X.env)) ?_
 refine wpAny_Call_Name_kw (zcm I hg1 hm1 hv1 ?_ (by decide) (by decide))
 refine PyProof.Rows.callWith_type1 ?_ h1 rfl
 refine thn (zer he zgv h1 pos1 pins s σ H (one fun x H1=>∃ zs,TxtIn X.K H1 x zs/\zs.length<4000/\(ddp zs).length<64/\∀ r,H1 r=none->Q (.ref r) (upd H1 r (.lst ((srt (ddp zs)).map V.str)))) I ?_) ?_
 ·exact(show t σ H _ from h)
 ·rintro us s1 ⟨xs,H1,I1,r1,qx⟩
  obtain⟨x,rfl,zs,ht,hz,hd,kk⟩:=zeE qx
  cases r1 with
  | cons r1 rn=>
   cases rn
   refine set_of hc I1 r1 ht hz fun s2 lf=>?_
   refine Calls.spliced_nil ?_
   have I2:Inv X pins σ H1 s2:=by
    obtain⟨h',tk,rfl⟩:=lf.sh
    exact I1.kept (t':=tk) fun b o e=>lf.old b o (Heap.lt_size e) e
   refine srtdS (I.ok.hd hc) lf.is hd fun out ss ep s3 h' so sp srt' old eg eo gr old2=>?_
   have I3:Inv X pins σ H1 s3:=I2.drawn old eg eo
   have hf:H1 s3.heap.objs.size=none:=I3.hok.fresh (Nat.le_refl _)
   have e:srt (ddp zs)=ss:=srt_eq (pair srt') sp
   have kq:=kk s3.heap.objs.size hf
   rw[e] at kq
   refine⟨.ref s3.heap.objs.size,_,I3.laid (t':=s3.toks) (o:=.lst (ss.map V.str)) old2 (Nat.le_refl _) ?_,rfl,kq⟩
   have sl:ss.length<64:=by rw[sp.length_eq];exact hd
   exact⟨by rw[List.length_map,sizeLine_eq];lia,out,ep,zcX so,gr⟩
end
end L2
namespace L3
open PySem PySem.Spec PyProof.Rows L2 TS
noncomputable def ssO(zs:List Str):Option Ent:=gif (zs.length<4000/\(ddp zs).length<64) (some (.own ((srt (ddp zs)).map D.str)))
noncomputable def zc0:Ent->Option Ent:=fun x=>(asL x).bind fun ds=>(zfK ds).bind ssO
section
variable {X:Cx}{e:Expr}{fe:FE}{p p1 pos pos1:Pos}
theorem vSS{g:Ent->Option Ent}(hx:∀ {H0 F H:Hp} {v:V} {en:Ent} {res:Ent},Same F H->RepR X.K H0 F H v en->g en=some res->∃ zs,TxtIn X.K H v zs/\ssO zs=some res)(he:VE X e fe)(hg:Gl X "sorted")(hm:X.mg "sorted" = none)(hv:bootBuiltins "sorted" = some (.builtin "sorted"))
  (hg1:Gl X "set") (hm1:X.mg "set" = none) (hv1:bootBuiltins "set" = some (.type "set")) (hc:X.calm=true) (h1:zak e=true):VE X (.Call (.Name "sorted" p) [.Call (.Name "set" p1) [e] [] pos1] [] pos) (ex1 g fe):=by
 obtain⟨t,w,m⟩:=he.h
 refine⟨_,⟨zg6 hc w.h hg hm hv hg1 hm1 hv1 (zal h1) (zal rfl)⟩,fun B F H σ δ res Q s q k=>?_⟩
 obtain⟨en,q1,q⟩:=bind_some q
 refine m B F H σ δ en _ s q1 fun v F1 H1 x1 r1=>?_
 obtain⟨zs,ht,q2⟩:=hx x1.fh r1 q
 obtain⟨hz,q3⟩:=za0 q2
 cases q3
 refine⟨zs,ht,hz.1,hz.2,fun r hr=>?_⟩
 exact k _ _ _ (x1.trans (Ex.lay x1.fh hr)) ⟨r,_,rfl,x1.hh.free hr,zag,zdQ _,x1.fh.free hr⟩
theorem vSortSetL(he:VE X e fe)(hg:Gl X "sorted")(hm:X.mg "sorted" = none)(hv:bootBuiltins "sorted" = some (.builtin "sorted"))(hg1:Gl X "set")(hm1:X.mg "set" = none)(hv1:bootBuiltins "set" = some (.type "set"))(hc:X.calm=true:=by rfl)(h1:zak e=true:=by rfl) :
  VE X (.Call (.Name "sorted" p) [.Call (.Name "set" p1) [e] [] pos1] [] pos) (ex1 zc0 fe):=
 vSS (fun {H0 F H v en res} fh r q=>by
  obtain⟨ds,q1,q⟩:=bind_some q
  obtain⟨zs,q2,q⟩:=bind_some q
  obtain⟨l,vs,e1,h1,h2⟩:=r.toL fh q1
  exact⟨zs,.inl ⟨l,vs,e1,h1,zgz h2 q2⟩,q⟩) he hg hm hv hg1 hm1 hv1 hc h1
end
end L3

namespace L2
open PySem PySem.Spec PyProof.Rows
noncomputable def SqQ(K:PySem.W.Frag):Bool->Hp->Addr->List V->Prop
 | true=>SqT K
 | false=>SqL K
noncomputable def SIt:Bool->Heap->Addr->Addr->Nat->Prop
 | true,h,it,a,i=>h.IsTupleIter it a i
 | false,h,it,a,i=>h.IsListIter it a i
noncomputable def QAt:Bool->Heap->Addr->Array Value->Prop
 | true,h,a,xs=>h.IsTuple a xs
 | false,h,a,xs=>h.IsList a xs
noncomputable def itN:Bool->String
 | true=> "tuple_iterator"
 | false=> "list_iterator"
theorem SIt.out{k:Bool}{h:Heap}{it a:Addr}{i:Nat}(st:SIt k h it a i):∃ o,h.get? it=some o/\o.cls=.type (itN k)/\o.data=.fields #[.ref a,.int i 0]:=by cases k <;> exact st
theorem SIt.mk{k:Bool}{h:Heap}{it a:Addr}{i:Nat}(st:∃ o,h.get? it=some o/\o.cls=.type (itN k)/\o.data=.fields #[.ref a,.int i 0]):SIt k h it a i:=by cases k <;> exact st
theorem SIt.at{k:Bool}{h h':Heap}{it a:Addr}{i:Nat}(st:SIt k h it a i)(e:∀ o,h.get? it=some o->h'.get? it=some o):SIt k h' it a i:=by
 obtain⟨o,h1,h2⟩:=st.out
 exact .mk ⟨o,e o h1,h2⟩
theorem Inv.seqQ{X:Cx}{pins:List (Addr × Obj)}{σ:St}{H:Hp}{s:Shared}{k:Bool}{a:Addr}{xs:List V}(I:Inv X pins σ H s)(h:SqQ X.K k H a xs):∃ its:List Value,Vals xs its/\QAt k s.heap a its.toArray:=by
 cases k with
 | true=>obtain⟨its,r,p,_⟩:=I.tuple h;exact⟨its,r,p⟩
 | false=>obtain⟨its,r,p,_⟩:=I.list h;exact⟨its,r,p.isList⟩
section
variable {prog:Program}{w:World}{A:Around}{E:Value->Shared->Prop}{s:Shared}
end
section
variable {X:Cx}{A:Around}{pins:List (Addr × Obj)}{σ:St}{H:Hp}{s:Shared}{E:Value->Shared->Prop}{k k1 k2:Bool}{it a b z TI TO i1 i2:Addr}{i:Nat}{xs ys:List V}{x y:V}
structure ZSt(k1 k2:Bool)(z TI TO i1 i2 a b:Addr)(i:Nat)(f0:Value)(h:Heap):Prop where
 hz:IsZip h z TI TO f0
 hi:IsPair h TI (.ref i1) (.ref i2)
 ho:∃ x y,IsPair h TO x y
 s1:SIt k1 h i1 a i
 s2:SIt k2 h i2 b i
structure ZNe(z TI TO i1 i2:Addr):Prop where
 n1:TI ≠ z
 n2:TO ≠ z
 n3:i1 ≠ z
 n4:i2 ≠ z
 n5:TI ≠ TO
 n6:TI ≠ i1
 n7:TI ≠ i2
 n8:TO ≠ i1
 n9:TO ≠ i2
 n10:i1 ≠ i2
end
theorem QAt.push{k:Bool}{h:Heap}{a:Addr}{xs:Array Value}(p:QAt k h a xs)(o:Obj):QAt k (h.push o) a xs:=by
 cases k with
 | true=>exact Heap.IsTuple.push p o
 | false=>exact Heap.IsList.push p o
end L2
namespace L3
open PySem PySem.Spec PyProof.Rows L2
noncomputable def qOf:Ent->Option (List D)
 | .val (.lst ds)=>some ds
 | .val (.tup ds)=>some ds
 | .own ds=>some ds
 | _=>none
noncomputable def qV(fe:FE):FI:=fun δ=>(fe δ).bind qOf
noncomputable def Stays(K:PySem.W.Frag)(B F:Hp)(v:V)(ds:List D):Prop:=∃ k a vs,v=.ref a/\(∀ F2 H2,Same F F2->Same F2 H2->Same B H2->SqQ K k H2 a vs)/\Reps F vs ds
noncomputable def SemQ(K:PySem.W.Frag)(t:TE)(f:FI):Prop:=∀ (B:Bd) (F H:Hp) (σ:Sg) (δ:En) (ds:List D) (Q:VK),RS K B F H σ δ->f δ=some ds->(∀ v F' H',Ex F H F' H'->Stays K B F' v ds->Q v H')->t σ H Q
structure VQ(X:Cx)(e:Expr)(f:FI):Prop where
 h:∃ t,WE X e t/\SemQ X.K t f
section
variable {X:Cx}{e e':Expr}{fe:FE}{fa fb:FI}{p pos tpos:Pos}{x:Str}{es:List Expr}{n:Nat}
theorem zqv(h:VE X e fe):VQ X e (qV fe):=by
 obtain⟨t,w,m⟩:=h.h
 refine⟨_,w,fun B F H σ δ ds Q s q k=>?_⟩
 obtain⟨r,q1,q⟩:=bind_some q
 refine m B F H σ δ r _ s q1 fun v F1 H1 x1 r1=>?_
 unfold qOf at q
 split at q
 ·cases q
  cases (show Rep F1 v (.lst ds) from r1) with
  | lst e rs=>exact k _ F1 H1 x1 ⟨false,_,_,rfl,fun F2 H2 a b _=>SqL.of (b _ _ (a _ _ e)),rs⟩
 ·cases q
  cases (show Rep F1 v (.tup ds) from r1) with
  | tup e rs=>exact k _ F1 H1 x1 ⟨true,_,_,rfl,fun F2 H2 a b _=>SqT.of (b _ _ (a _ _ e)),rs⟩
 ·cases q
  obtain⟨F2,x2,_,r2⟩:=RepR.frz x1 (Same.refl _) r1 rfl
  cases r2 with
  | lst e rs=>exact k _ F2 H1 x2 ⟨false,_,_,rfl,fun F3 H3 a b _=>SqL.of (b _ _ (a _ _ e)),rs⟩
 ·cases q
end
end L3

namespace L2
open PySem PySem.Spec PyProof.Rows
noncomputable def Itq(K:PySem.W.Frag):Bool->Addr->It
 | true=>Itt K
 | false=>Itl K
noncomputable def iSq(K:PySem.W.Frag)(tl:TE):TI:=fun σ H R=>tl σ H fun x H1=>∃ k a,x=.ref a/\(∃ xs,SqQ K k H1 a xs)/\R (Itq K k a) H1
theorem pi_seq{X:Cx}{tg l:Expr}{tl:TE}(hl:PE X l tl):PI X tg l (iSq X.K tl):=by
 intro pins s σ H R I h
 refine thn (hl pins s σ H _ I h) fun v s1 ⟨x,H1,I1,r1,q1⟩=>?_
 obtain⟨k,a,e,⟨xs,hq⟩,q⟩:=q1
 subst e
 cases r1
 have fp:∀ b ∈ [s1.heap.objs.size],zgP X pins H1 b:=fun b hb=>by
  cases List.mem_singleton.mp hb
  exact I1.fpOk (Nat.le_refl _) (I1.hok.fresh (Nat.le_refl _))
 obtain⟨its,rv,p⟩:=I1.seqQ hq
 cases k with
 | true=>exact wpAny_pyIter_tuple p ⟨s1.heap.objs.size,[s1.heap.objs.size],_,_,H1,rfl,I1.kept (t':=s1.toks) fun b o e=>Heap.get?_push_of_some _ e,zea a _,⟨_,Heap.get?_push_size _ rfl,rfl,rfl⟩,fp,q⟩
 | false=>exact wpAny_pyIter_list p ⟨s1.heap.objs.size,[s1.heap.objs.size],_,_,H1,rfl,I1.kept (t':=s1.toks) fun b o e=>Heap.get?_push_of_some _ e,ze5 a _,⟨_,Heap.get?_push_size _ rfl,rfl,rfl⟩,fp,q⟩
end L2
namespace L3
open PySem PySem.Spec PyProof.Rows L2
theorem itOk_seq{K:PySem.W.Frag}{B F0:Hp}{k:Bool}{a:Addr}{vs:List V}{ds:List D}(h:∀ F H,Same F0 F->Same F H->Same B H->SqQ K k H a vs)(r:Reps F0 vs ds):ItOk B F0 (Itq K k a) ds:=by
 cases k with
 | false=>exact zcZ h r
 | true=>
  intro F H s1 s2 s3
  have hq:SqT K H a vs:=h F H s1 s2 s3
  refine⟨⟨vs,hq,by rw[r.length];exact Nat.le_refl _⟩,fun i d e=>?_⟩
  obtain⟨v,h1,h2⟩:=r.get e
  refine⟨⟨vs,v,hq,h1⟩,fun x H' y=>?_⟩
  obtain⟨e',y⟩:=y
  subst e'
  have z:=y vs hq
  rw[h1] at z
  cases z
  exact⟨F,Ex.refl s2,Rep.mono s1 h2⟩
theorem iiq{X:Cx}{tg e:Expr}{fe:FE}(h:VE X e fe):VI X tg e (qV fe):=by
 obtain⟨t,w,m⟩:=(zqv h).h
 exact⟨_,⟨pi_seq w.h⟩,fun B F H σ δ ds R s q k=>m B F H σ δ ds _ s q fun v F1 H1 x1 ⟨kk,a,vs,e,p,r⟩=>⟨kk,a,e,⟨vs,p F1 H1 (Same.refl _) x1.fh (s.bh.trans x1.hh)⟩,k _ F1 H1 x1 (itOk_seq p r)⟩⟩
end L3
namespace L2
open PySem PySem.Spec PyProof.Rows
section
variable {X:Cx}
end
end L2
namespace L3
open PySem PySem.Spec PyProof.Rows L2
end L3
namespace L2
open PySem PySem.Spec PyProof.Rows
open PySem.AutoSeq1 (wpAny_loadPart')
open PySem.MeetsSeq PySem.MeetsSeq2 PySem.MeetsSeq3
section
variable {X:Cx}
end
end L2
namespace L3
open PySem PySem.Spec PyProof.Rows L2
section
variable {X:Cx}
end
structure MtT(X:Cx)(name:Str)(g:Ent->List Ent->Option Ent):Prop where
 h:∃ id r,Slot "tuple" name id/\typeOf (.builtin id)=pure (.type "method_descriptor")/\MtR X id r /\
  (∀ (F:Hp) (v:V) (e:Ent) (es:List Ent) (res:Ent),g e es=some res->∃ ds,e=.val (.tup ds)) /\
  ∀ (H0 F H:Hp) (x:V) (vs:List V) (e:Ent) (es:List Ent) (res:Ent) (Q:VK),Same F H->Same H0 H->RepR X.K H0 F H x e->RepRs X.K H0 F H vs es->g e es=some res->(∀ v F' H',Ex F H F' H'->RepR X.K H0 F' H' v res->Q v H')->r x vs H Q
section
variable {X:Cx}{name:Str}{g:Ent->List Ent->Option Ent}{o e:Expr}{es:List Expr}{fo:FE}{fs:FA}{apos cpos:Pos}
end
end L3

namespace L2
open PySem PySem.Spec PyProof.Rows PyProof.Rows.KTD
section
variable {X:Cx}{a:Addr}{D:List (Str × Int)}
end
noncomputable def atK(kvs:List (Key × V))(k:Key):Option V:=(kvs.find? fun p=>decide (p.1=k)).map (·.2)
theorem atK_rel{kvs:List (Key × V)}{vs:List (Key × Value)}(r:KV kvs vs)(k:Key):(∃ v w,atK kvs k=some v/\valueAt vs k=some w/\RelV v w) \/ (atK kvs k=none/\valueAt vs k=none):=by
 unfold KV at r
 induction r with
 | nil=>exact .inr ⟨rfl,rfl⟩
 | @cons p q ps qs h t ih=>
  obtain⟨h1,h2⟩:=h
  unfold atK valueAt at ih ⊢
  by_cases e:p.1=k
  ·refine .inl ⟨p.2,q.2,?_,?_,h2⟩
   ·rw[List.find?_cons_of_pos (by simpa using e)];rfl
   ·rw[List.find?_cons_of_pos (by simpa using (h1 ▸ e:q.1=k))];rfl
  ·rw[List.find?_cons_of_neg (by simpa using e),List.find?_cons_of_neg (by simpa using (fun z=>e (h1.trans z):¬ q.1=k))]
   exact ih
section
variable {X:Cx}
end
inductive PrsOf:List Str->List V->List (Value × Value)->Prop
 | nil:PrsOf [] [] []
 | cons {z:Str} {t:Tok} {v:V} {u:Value} {ks:List Str} {vs:List V} {ws:List (Value × Value)}:RelV v u->PrsOf ks vs ws->PrsOf (z :: ks) (v :: vs) ((.str z t,u) :: ws)
theorem PrsOf.len{ks:List Str}{vs:List V}{ws:List (Value × Value)}(h:PrsOf ks vs ws):ks.length=vs.length:=by
 induction h with
 | nil=>rfl
 | cons _ _ ih=>rw[List.length_cons,List.length_cons,ih]
noncomputable def PDs(X:Cx)(pos:Pos)(keys:List (Option Expr))(values:List Expr)(ks:List Str)(t:TA):Prop:=
 ∀ (pins:List (Addr × Obj)) (s:Shared) (σ:St) (H:Hp) (Q:List V->Hp->Prop),Inv X pins σ H s->t σ H Q ->
  wpAny (model X.prog X.w) X.A (evalPairs (pairTrees keys values X.env pos)) (fun ws s'=>∃ vs H',Inv X pins σ H' s'/\PrsOf ks vs ws/\Q vs H') X.xe s
end L2
namespace L3
open PySem PySem.Spec PyProof.Rows L2
section
variable {X:Cx}
structure VD(X:Cx)(pos:Pos)(keys:List (Option Expr))(values:List Expr)(ks:List Str)(fs:FA):Prop where
 h:∃ t,PDs X pos keys values ks t/\SemA X.K t fs
variable {pos kp p:Pos}{z x:Str}{j:Nat}{v sl:Expr}{keys:List (Option Expr)}{values:List Expr}{ks:List Str}{fv fe:FE}{fs:FA}
end
end L3

namespace L2
open PySem PySem.Spec PyProof.Rows
end L2
namespace L3
open PySem PySem.Spec PyProof.Rows L2
noncomputable def fExt(i:Nat)(fe:FE):FS:=fun δ=>match δ[i]? with
 | some (some (.own ds))=>(fe δ).bind fun r=>match r with
  | .own es=>gif (sz (ds.length+es.length)) (some (.nx (δ.set i (some (.own (ds ++ es))))))
  | _=>none
 | _=>none
section
variable {X:Cx}{e:Expr}{fe:FE}{x:Str}{p pos:Pos}
theorem sExt(i:Nat){apos cpos:Pos}(he:VE X e fe)(hN:X.N[i]? = some x:=by rfl)(hv:Vis X.env.scope x:=by first | exact Or.inl rfl | exact Or.inr (Or.inl rfl) | exact Or.inr (Or.inr rfl))(hd:(x == ("__debug__" : Str))=false:=by decide)
  (hcd:(x == ("__classdict__" : Str))=false:=by decide)
  (hbase:attributeBase (.Name x p) "extend" X.env (eval (.Name x p) X.env)=eval (.Name x p) X.env:=by rfl) (hline:(apos.endLine == cpos.line)=true:=by rfl) (h1:zak e=true:=by rfl)
  (hs:swapsWith (.Call (.Attribute (.Name x p) "extend" apos) [e] [] cpos) none pos.line X.env=pure false:=by rfl) :
  VS X (.Expr (.Call (.Attribute (.Name x p) "extend" apos) [e] [] cpos) pos) (fExt i fe):=by
 obtain⟨t,w,m⟩:=he.h
 refine⟨_,sex (wbm PySem.F.plainAttrs_list PySem.F.slot_list_extend PySem.F.type_list_extend mt_extend (wv i hN hv hd hcd) (wac w wnil h1) hbase rfl hline h1 rfl) hs,fun B F H σ δ out DD s q k=>?_⟩
 unfold fExt at q
 split at q
 ·rename_i ds hi
  obtain⟨r,q2,q⟩:=bind_some q
  cases r with
  | own es=>
   obtain⟨hl,qz⟩:=za0 q
   cases qz
   obtain⟨v,h1,l,vs,e,h2,h3,h4,h5⟩:=s.ent i _ hi
   subst e
   refine⟨_,h1,.inl ⟨rfl,vs,SqL.of h2⟩,?_⟩
   refine m B F H σ δ _ _ s q2 fun y F1 H1 x1 z=>?_
   obtain⟨l2,ws,ey,z0,z1,z2,z3⟩:=z
   subst ey
   refine⟨l,l2,vs,ws,rfl,rfl,x1.hh _ _ h2,z1,?_,?_⟩
   ·rw[h3.length,z2.length,sizeLine_eq];unfold sz at hl;lia
   ·exact k σ F1 _ ((s.ext x1).mut hi h1 ((h3.mono x1.ff).append z2)) (.of x1 s.bh)
  | _=>cases q
 ·cases q
end
end L3

namespace L2
open PySem PySem.Spec PyProof.Rows
namespace RV
theorem lri_len:typeLookup (.type "list_reverseiterator") "__len__" = pure none:=by rw[typeLookup_type,builtinLookup_eq_fast];kernel_rfl
theorem lri_hint:typeLookup (.type "list_reverseiterator") "__length_hint__" = pure (some (.builtin "list_reverseiterator.__length_hint__")):=by rw[typeLookup_type,builtinLookup_eq_fast];kernel_rfl
end RV
section
variable {prog:Program}{w:World}{A:Around}{E:Value->Shared->Prop}{s:Shared}
set_option maxRecDepth 100000
theorem hint_rev{I l:Addr}{i:Int}{Q:Bool->Shared->Prop}(hit:s.heap.IsRevIter I l i)(q:Q false s):wpAny (model prog w) A (Builtin.List.listLengthHint (.ref I)) Q E s:=by
 unfold Builtin.List.listLengthHint
 refine wpAny_bind (wpAny_specialOf hit.typeIs RV.lri_len ?_)
 wp_delta
 refine wpAny_bind (wpAny_specialOf hit.typeIs RV.lri_hint ?_)
 wp_delta
 refine wpAny_bind (wpAny_isInstance (T:= "list_reverseiterator") (b:=true) hit.typeIs (by rw[isSubtype_type];kernel_rfl) ?_)
 show wpAny _ A (pure false) Q E s
 exact wpAny_pure q
end
end L2
namespace L2
open PySem PySem.Spec PyProof.Rows
section
variable {X:Cx}{e:Expr}{t:TE}{p p1 pos pos1:Pos}
theorem rev_vals{xs:List V}{its:List Value}(r:Vals xs its){acc:Array Value}(h:ItemsOf (fun i v=>its.toArray[its.toArray.size - 1 - i]? = some v) acc its.toArray.size):Vals xs.reverse acc.toList:=by
 obtain⟨h1,h2⟩:=h
 have e:acc.toList=its.reverse:=by
  apply List.ext_getElem?
  intro j
  by_cases hj:j<its.length
  ·have hs:acc.size=its.length:=by simpa using h1
   have:=h2 j acc[j] (by simp[hs,hj])
   rw[List.getElem?_reverse hj]
   simp only[List.size_toArray,List.getElem?_toArray] at this
   rw[this]
   simp[hs,hj]
  ·have hs:acc.size=its.length:=by simpa using h1
   rw[List.getElem?_eq_none (by simp[hs];lia),List.getElem?_eq_none (by simp;lia)]
 rw[e]
 clear h1 h2 e
 induction r with
 | nil=>exact .nil
 | cons h t ih=>
  rw[List.reverse_cons,List.reverse_cons]
  exact ih.append (.cons h .nil)
end
end L2
namespace L3
open PySem PySem.Spec PyProof.Rows L2
section
variable {X:Cx}{e:Expr}{fe:FE}{p p1 pos pos1:Pos}
end
end L3

namespace L3
open PySem PySem.Spec PyProof.Rows L2
section
variable {X:Cx}
end
end L3

namespace L3
open PySem PySem.Spec PyProof.Rows L2
noncomputable def zc8(H:Hp)(A:List Addr):Hp:=fun a=>if a ∈ A then none else H a
section
variable {K:PySem.W.Frag}{B:Bd}{F H F' H' H0:Hp}{σ:Sg}{δ:En}{v:V}{A A':List Addr}{a:Addr}{u:HO}{i:Nat}{o o':OT}
theorem zbh(h:a ∈ A):zc8 H A a=none:=if_pos h
theorem zcC(h:a ∉ A):zc8 H A a=H a:=if_neg h
theorem zaq(h:zc8 H A a=some u):a ∉ A/\H a=some u:=by
 by_cases q:a ∈ A
 ·rw[zbh q] at h;cases h
 ·rw[zcC q] at h;exact⟨q,h⟩
theorem zaK(h:a ∉ A)(e:H a=some u):zc8 H A a=some u:=(zcC h).trans e
structure Chg(H F F' H':Hp)(A:List Addr):Prop where
 ff:Same F F'
 fh:Same F' H'
 st:Same (zc8 H A) H'
 nw:∀ a u,zc8 H A a=some u->isT u=false->F' a=F a
theorem TR.far{Aj:List Addr}{w:V}{p:OT}(t:TR K F H w p Aj)(c:Chg H F F' H' A)(h:∀ a ∈ Aj,a ∉ A):TR K F' H' w p Aj/\∀ a ∈ Aj,F' a=F a:=
 ⟨t.move c.ff fun a ha=>let⟨_,h1,_⟩:=t.lies a ha;(c.st _ _ (zaK (h a ha) h1)).trans h1.symm,fun a ha=>let⟨_,h1,h2⟩:=t.lies a ha;c.nw _ _ (zaK (h a ha) h1) h2⟩
theorem RS.chg(s:RS K B F H σ δ)(hi:δ[i]? = some (some (.obj o)))(hs:σ[i]? = some (some v))(t:TR K F H v o A)(c:Chg H F F' H' A)(t':TR K F' H' v o' A')(n':A'.Nodup)(f':∀ a ∈ A',F' a=none/\zc8 H A a=none) :
  RS K B F' H' σ (δ.set i (some (.obj o')))/\FX B F F':=by
 obtain⟨A0,t0,n0,f0⟩:=s.at hi hs
 cases t0.det t
 have hB:∀ a u,(B:Hp) a=some u->zc8 H A a=some u:=fun a u h=>zaK (fun ha=>by rw[(f0 a ha).2] at h;cases h) (s.bh _ _ h)
 have far:∀ (j:Nat) (e:Ent) (w:V) (a:Addr),i ≠ j->δ[j]? = some (some e)->σ[j]? = some (some w)->Occ K F H w e a->a ∉ A:=fun j e w a hij h1 h2 h3 ha=>s.ao i j _ e v w a hij hi hs h1 h2 rfl ⟨A,t,ha⟩ h3
 have mv:∀ (j:Nat) (w:V) (p:OT) (Aj:List Addr),i ≠ j->δ[j]? = some (some (.obj p))->σ[j]? = some (some w)->TR K F H w p Aj->TR K F' H' w p Aj/\∀ a ∈ Aj,F' a=F a:=fun j w p Aj hij h1 h2 tj=>
  tj.far c fun a ha=>far j _ w a hij h1 h2 ⟨Aj,tj,ha⟩
 have bk:∀ (j:Nat) (e:Ent) (w:V) (a:Addr),i ≠ j->δ[j]? = some (some e)->σ[j]? = some (some w)->Occ K F' H' w e a->Occ K F H w e a:=fun j e w a hij z1 z2 z3=>z3.back (s.at z1 z2) fun p Aj he tj=>by
  subst he;exact(mv j w p Aj hij z1 z2 tj).1
 refine⟨⟨c.fh,fun a u h=>c.st a u (hB a u h),by simp[s.len],fun j e q=>?_,fun a b l2 es e' hab q1 q2 q3 q4=>?_,fun a b e1 e2 v1 v2 ad hab q1 q2 q3 q4 q5 q6 q7=>?_,fun w p hw hp=>?_⟩,⟨c.ff,fun a u h ht=>c.nw a u (hB a u h) ht⟩⟩
 ·rw[List.getElem?_set] at q
  by_cases hij:i=j
  ·subst hij
   rw[if_pos rfl] at q
   split at q
   ·cases q
    exact⟨v,hs,A',t',n',fun a ha=>⟨(f' a ha).1,by
     cases z:(B:Hp) a with
     | none=>rfl
     | some u=>have:=hB a u z;rw[(f' a ha).2] at this;cases this⟩⟩
   ·cases q
  ·rw[if_neg hij] at q
   obtain⟨w,p1,p2⟩:=s.ent j e q
   refine⟨w,p1,?_⟩
   cases e with
   | val d=>exact Rep.mono c.ff p2
   | bor ds=>obtain⟨l,vs,e,p3,p4⟩:=p2;exact⟨l,vs,e,p3,p4.mono c.ff⟩
   | own es=>
    obtain⟨l,vs,e,p3,p4,p5,p6⟩:=p2
    have hl:=far j _ w l hij q p1 e
    exact⟨l,vs,e,c.st _ _ (zaK hl p3),p4.mono c.ff,(c.nw _ _ (zaK hl p3) rfl).trans p5,p6⟩
   | vw es=>
    obtain⟨l,vs,e,p3,p4⟩:=p2
    have hl:=far j _ w l hij q p1 e
    exact⟨l,vs,e,c.st _ _ (zaK hl p3),p4.mono c.ff⟩
   | obj p=>
    obtain⟨Aj,tj,nj,fj⟩:=p2
    obtain⟨m1,m2⟩:=mv j w p Aj hij q p1 tj
    exact⟨Aj,m1,nj,fun a ha=>⟨(m2 a ha).trans (fj a ha).1,(fj a ha).2⟩⟩
   | bt ds=>obtain⟨l,vs,e,p3,p4⟩:=p2;exact⟨l,vs,e,p3,p4.mono c.ff⟩
 ·rw[List.getElem?_set] at q1 q3
  by_cases hia:i=a
  ·subst hia
   rw[if_pos rfl] at q1
   split at q1 <;> cases q1
  ·rw[if_neg hia] at q1
   by_cases hib:i=b
   ·subst hib
    rw[if_pos rfl] at q3
    split at q3
    ·cases q3;cases q4
    ·cases q3
   ·rw[if_neg hib] at q3
    exact s.ap a b l2 es e' hab q1 q2 q3 q4
 ·have key:∀ (j:Nat) (e:Ent) (w:V),i ≠ j->δ[j]? = some (some e)->σ[j]? = some (some w)->Occ K F' H' w e ad->Occ K F' H' v (.obj o') ad->False:=fun j e w hij z1 z2 z3 z4=>by
   have z5:=bk j e w ad hij z1 z2 z3
   obtain⟨u,hu⟩:=s.occ z1 z2 z5
   obtain⟨A2,t2,h2⟩:=z4
   rw[t2.det t'] at h2
   have:=(f' ad h2).2
   rw[zaK (far j e w ad hij z1 z2 z5) hu] at this
   cases this
  rw[List.getElem?_set] at q1 q3
  by_cases hia:i=a
  ·subst hia
   rw[if_pos rfl] at q1
   rw[if_neg hab] at q3
   split at q1
   ·cases q1
    rw[hs] at q2
    cases q2
    exact key b e2 v2 hab q3 q4 q7 q6
   ·cases q1
  ·rw[if_neg hia] at q1
   by_cases hib:i=b
   ·subst hib
    rw[if_pos rfl] at q3
    split at q3
    ·cases q3
     rw[hs] at q4
     cases q4
     exact key a e1 v1 hia q1 q2 q6 q7
    ·cases q3
   ·rw[if_neg hib] at q3
    exact s.ao a b e1 e2 v1 v2 ad hab q1 q2 q3 q4 q5 (bk a e1 v1 ad hia q1 q2 q6) (bk b e2 v2 ad hib q3 q4 q7)
 ·rw[List.getElem?_set] at hp
  by_cases hi0:i=0
  ·subst hi0
   exact s.pn w o hw hi
  ·rw[if_neg hi0] at hp
   exact s.pn w p hw hp
theorem TRs.focus:∀ {vs:List V} {os:List OT} {A:List Addr} {k:Nat} {x:OT},TRs K F H vs os A->os[k]? = some x->∃ v A1,vs[k]? = some v/\TR K F H v x A1/\(∀ a ∈ A1,a ∈ A)/\(A.Nodup->A1.Nodup) /\
  ∀ (F' H':Hp) (x':OT) (A1':List Addr),A.Nodup->Same F F'->(∀ a ∈ A,a ∉ A1->H' a=H a)->TR K F' H' v x' A1'->A1'.Nodup->(∀ a ∈ A1',a ∈ A1 \/ a ∉ A)->∃ A',TRs K F' H' vs (os.set k x') A'/\A'.Nodup/\∀ a ∈ A',(a ∈ A/\a ∉ A1) \/ a ∈ A1'
 | _,_,_,k,x,.nil,h=>by simp at h
 | _,_,_,0,x,.cons (A:=A0) (A':=A2) t ts,h=>by
  simp at h
  subst h
  refine⟨_,A0,rfl,t,fun a ha=>List.mem_append_left _ ha,fun n=>(List.nodup_append.mp n).1,fun F' H' x' A1' n sf hh t' n' hd=>?_⟩
  obtain⟨n0,n2,nd⟩:=List.nodup_append.mp n
  refine⟨A1' ++ A2,.cons t' (ts.move sf fun a ha=>hh a (List.mem_append_right _ ha) fun h0=>nd a h0 a ha rfl),List.nodup_append.mpr ⟨n',n2,fun a ha b hb e=>?_⟩,fun a ha=>?_⟩
  ·subst e
   rcases hd a ha with h | h
   ·exact nd a h a hb rfl
   ·exact h (List.mem_append_right _ hb)
  ·rcases List.mem_append.mp ha with h | h
   ·exact .inr h
   ·exact .inl ⟨List.mem_append_right _ h,fun h0=>nd a h0 a h rfl⟩
 | _,_,_,k+1,x,.cons (A:=A0) (A':=A2) t ts,h=>by
  obtain⟨v,A1,h1,h2,h3,h3n,h4⟩:=TRs.focus (k:=k) (x:=x) ts (by simpa using h)
  refine⟨v,A1,by simpa using h1,h2,fun a ha=>List.mem_append_right _ (h3 a ha),fun n=>h3n (List.nodup_append.mp n).2.1,fun F' H' x' A1' n sf hh t' n' hd=>?_⟩
  obtain⟨n0,n2,nd⟩:=List.nodup_append.mp n
  obtain⟨A',m1,m2,m3⟩:=h4 F' H' x' A1' n2 sf (fun a ha hn=>hh a (List.mem_append_right _ ha) hn) t' n' fun a ha=>(hd a ha).imp id fun z q=>z (List.mem_append_right _ q)
  refine⟨A0 ++ A',.cons (t.move sf fun a ha=>hh a (List.mem_append_left _ ha) fun z=>nd a ha a (h3 a z) rfl) m1,List.nodup_append.mpr ⟨n0,m2,fun a ha b hb e=>?_⟩,fun a ha=>?_⟩
  ·subst e
   rcases m3 a hb with h | h
   ·exact nd a ha a h.1 rfl
   ·rcases hd a h with h | h
    ·exact nd a ha a (h3 a h) rfl
    ·exact h (List.mem_append_left _ ha)
  ·rcases List.mem_append.mp ha with h | h
   ·exact .inl ⟨List.mem_append_left _ h,fun z=>nd a h a (h3 a z) rfl⟩
   ·exact(m3 a h).imp (fun z=>⟨List.mem_append_right _ z.1,z.2⟩) id
theorem TRs.put{y:V}{x:OT}{A1:List Addr}(ty:TR K F H y x A1):∀ {vs:List V} {os:List OT} {A:List Addr} {k:Nat},TRs K F H vs os A->k<os.length->A.Nodup->A1.Nodup->(∀ a ∈ A1,a ∉ A)->∃ A',TRs K F H (vs.set k y) (os.set k x) A'/\A'.Nodup/\∀ a ∈ A',a ∈ A \/ a ∈ A1
 | _,_,_,k,.nil,h,_,_,_=>by simp at h
 | _,_,_,0,.cons (A:=A0) (A':=A2) t ts,_,n,n1,hd=>by
  obtain⟨n0,n2,nd⟩:=List.nodup_append.mp n
  refine⟨A1 ++ A2,.cons ty ts,List.nodup_append.mpr ⟨n1,n2,fun a ha b hb e=>?_⟩,fun a ha=>?_⟩
  ·subst e;exact hd a ha (List.mem_append_right _ hb)
  ·exact(List.mem_append.mp ha).elim .inr fun z=>.inl (List.mem_append_right _ z)
 | _,_,_,k+1,.cons (A:=A0) (A':=A2) t ts,h,n,n1,hd=>by
  obtain⟨n0,n2,nd⟩:=List.nodup_append.mp n
  obtain⟨A',m1,m2,m3⟩:=TRs.put ty (k:=k) ts (by simpa using h) n2 n1 fun a ha z=>hd a ha (List.mem_append_right _ z)
  refine⟨A0 ++ A',.cons t m1,List.nodup_append.mpr ⟨n0,m2,fun a ha b hb e=>?_⟩,fun a ha=>?_⟩
  ·subst e
   rcases m3 a hb with z | z
   ·exact nd a ha a z rfl
   ·exact hd a z (List.mem_append_left _ ha)
  ·rcases List.mem_append.mp ha with z | z
   ·exact .inl (List.mem_append_left _ z)
   ·exact(m3 a z).imp (List.mem_append_right _) id
theorem TRs.add{y:V}{x:OT}{A1:List Addr}(ty:TR K F H y x A1):∀ {vs:List V} {os:List OT} {A:List Addr},TRs K F H vs os A->∃ A',TRs K F H (vs ++ [y]) (os ++ [x]) A'/\A'=A ++ A1
 | _,_,_,.nil=>⟨A1,by simpa using TRs.cons ty .nil,by simp⟩
 | _,_,_,.cons (A:=A0) t ts=>by
  obtain⟨A',m1,m2⟩:=TRs.add ty ts
  exact⟨A0 ++ A',.cons t m1,by rw[m2,List.append_assoc]⟩
theorem zcE:∀ {ns:List Str} {vs:List V} {k:Nat} {f:Str} {v:V},ns.Nodup->ns[k]? = some f->vs[k]? = some v->(ns.zip vs).lookup f=some v
 | [],_,_,_,_,_,h,_=>by simp at h
 | _ :: _,[],_,_,_,_,_,h=>by simp at h
 | n :: ns,w :: vs,0,f,v,_,h1,h2=>by
  simp at h1 h2
  subst h1;subst h2
  simp[List.lookup]
 | n :: ns,w :: vs,k+1,f,v,nd,h1,h2=>by
  have h1':ns[k]? = some f:=by simpa using h1
  have hne:(f == n)=false:=by
   rw[beq_eq_false_iff_ne]
   intro e
   subst e
   exact(List.nodup_cons.mp nd).1 (List.mem_of_getElem? h1')
  rw[List.zip_cons_cons,List.lookup,hne]
  exact zcE (List.nodup_cons.mp nd).2 h1' (by simpa using h2)
theorem zfb:∀ {ns:List Str} {vs:List V} {f:Str},f ∉ ns->(ns.zip vs).lookup f=none
 | [],_,_,_=>rfl
 | _ :: _,[],_,_=>rfl
 | n :: ns,w :: vs,f,h=>by
  have hne:(f == n)=false:=by
   rw[beq_eq_false_iff_ne];intro e;exact h (by simp[e])
  rw[List.zip_cons_cons,List.lookup,hne]
  exact zfb fun z=>h (List.mem_cons_of_mem _ z)
theorem zgx:∀ {ns:List Str} {vs:List V} {k:Nat} {f:Str} {y:V},ns.Nodup->ns[k]? = some f->ns.length=vs.length->zd4 f y (ns.zip vs)=ns.zip (vs.set k y)
 | [],_,_,_,_,_,h,_=>by simp at h
 | _ :: _,[],_,_,_,_,_,h=>by simp at h
 | n :: ns,w :: vs,0,f,y,_,h,_=>by
  simp at h
  subst h
  simp[zd4]
 | n :: ns,w :: vs,k+1,f,y,nd,h,hl=>by
  have h':ns[k]? = some f:=by simpa using h
  have hne:¬ n=f:=fun e=>by subst e;exact(List.nodup_cons.mp nd).1 (List.mem_of_getElem? h')
  rw[List.zip_cons_cons,zd4,if_neg hne,zgx (List.nodup_cons.mp nd).2 h' (by simpa using hl)]
  rfl
theorem putF_new{ns:List Str}{vs:List V}{f:Str}{y:V}(h:f ∉ ns)(hl:ns.length=vs.length):zd4 f y (ns.zip vs)=(ns ++ [f]).zip (vs ++ [y]):=by
 induction ns generalizing vs with
 | nil=>
  cases vs with
  | nil=>rfl
  | cons w vs=>simp at hl
 | cons n ns ih=>
  cases vs with
  | nil=>simp at hl
  | cons w vs=>
   have hne:¬ n=f:=fun e=>h (by simp[e])
   rw[List.zip_cons_cons,zd4,if_neg hne,ih (fun z=>h (List.mem_cons_of_mem _ z)) (by simpa using hl)]
   rfl
noncomputable def toO:Ent->Option OT
 | .val d=>some (.val d)
 | .own ds=>some (.lst ds)
 | .obj o=>some o
 | _=>none
theorem RepR.toO{e:Ent}{x:OT}(r:RepR K H0 F H v e)(q:toO e=some x):∃ A,TR K F H v x A/\A.Nodup/\∀ a ∈ A,F a=none/\H0 a=none:=by
 cases e with
 | val d=>cases q;exact⟨[],.val r,.nil,fun a h=>by cases h⟩
 | own ds=>cases q;obtain⟨l,vs,e,h0,h1,rs,h2⟩:=r;subst e;exact⟨[l],.lst h1 rs,by simp,fun a h=>by simp at h;subst h;exact⟨h2,h0⟩⟩
 | obj o=>cases q;exact r.2
 | _=>cases q
end
noncomputable def isC(c:Str)(ns:List Str):OT->Option (List OT)
 | .ins c' ns' l=>gif (c'=c/\ns'=ns) (some l)
 | _=>none
theorem zcB{c:Str}{ns:List Str}{l:List OT}:isC c ns (.ins c ns l)=some l:=gif_pos ⟨rfl,rfl⟩
theorem zdb{c:Str}{ns:List Str}{o:OT}{l:List OT}(h:isC c ns o=some l):o=.ins c ns l:=by
 cases o with
 | ins c' ns' l'=>
  obtain⟨⟨h1,h2⟩,h3⟩:=za0 h
  cases h3
  rw[h1,h2]
 | _=>cases h
noncomputable def oAt(i:Nat):En->Option OT:=fun δ=>match δ[i]? with
 | some (some (.obj o))=>some o
 | _=>none
theorem zaz{i:Nat}{δ:En}{o:OT}(h:oAt i δ=some o):δ[i]? = some (some (.obj o)):=by
 unfold oAt at h
 split at h
 ·rename_i o' e;cases h;exact e
 ·cases h
structure ClsF(K:PySem.W.Frag)(c:Str)(ns:List Str):Prop where
 h:∀ C,zb4 K c C->Cls K C/\∀ f ∈ ns,NoAttr K C f
theorem zbZ{K:PySem.W.Frag}{c:Str}{C C':Addr}(h:zb4 K c C)(h':zb4 K c C'):C=C':=by
 have:=h.symm.trans h'
 simp at this
 exact this
section
variable {X:Cx}{e:Expr}{pos pos' p:Pos}{fe:FE}{x f c:Str}{i k:Nat}{ns nsF:List Str}
end
section
variable {K:PySem.W.Frag}{B:Bd}{F H F1 H1 F' H' H0:Hp}{σ:Sg}{δ:En}{v w:V}{A A' A1 A1':List Addr}{a dx C:Addr}{i k:Nat}{o x' x1:OT}{c:Str}{ns ns':List Str}{vs vs':List V}{l l':List OT}
theorem RS.fld(s:RS K B F H σ δ)(x:Ex F H F1 H1)(hi:δ[i]? = some (some (.obj (.ins c ns l))))(hs:σ[i]? = some (some (.ref a)))(hcl:zb4 K c C)(e1:H a=some (.ins C dx (ns.zip vs)))(e2:H dx=some (.own a))(hl:ns.length=vs.length)(ts:TRs K F H vs l A)(n:(a :: dx :: A).Nodup)
  (hl':ns'.length=vs'.length) (ts':TRs K F1 H1 vs' l' A') (n':A'.Nodup) (hA:∀ b ∈ A',b ∈ A \/ (F1 b=none/\H b=none)) :
  RS K B F1 (upd H1 a (.ins C dx (ns'.zip vs'))) σ (δ.set i (some (.obj (.ins c ns' l'))))/\FX B F F1:=by
 have t:TR K F H (.ref a) (.ins c ns l) (a :: dx :: A):=.ins hcl e1 e2 hl ts
 obtain⟨A0,t0,n0,f0⟩:=s.at hi hs
 cases t0.det t
 have fA:∀ b ∈ a :: dx :: A,F1 b=none:=fun b hb=>((t.ext x).2 b hb).trans (f0 b hb).1
 have hadx:a ≠ dx:=fun e=>(List.nodup_cons.mp n).1 (by rw[e];exact List.mem_cons_self)
 have haA:a ∉ A:=fun e=>(List.nodup_cons.mp n).1 (List.mem_cons_of_mem _ e)
 have hdA:dx ∉ A:=(List.nodup_cons.mp (List.nodup_cons.mp n).2).1
 have ha':a ∉ A':=fun e=>(hA a e).elim haA fun z=>by rw[e1] at z;cases z.2
 have hd':dx ∉ A':=fun e=>(hA dx e).elim hdA fun z=>by rw[e2] at z;cases z.2
 refine s.chg hi hs t ⟨x.ff,fun b u h=>?_,fun b u h=>?_,fun b u h ht=>?_⟩ (.ins hcl zag (by rw[zaj (Ne.symm hadx)];exact x.hh _ _ e2) hl' (ts'.move (Same.refl _) fun b hb=>zaj fun e=>ha' (e ▸ hb))) ?_ fun b hb=>?_
 ·rw[zaj fun e=>by subst e;rw[fA b List.mem_cons_self] at h;cases h]
  exact x.fh _ _ h
 ·obtain⟨h1,h2⟩:=zaq h
  rw[zaj fun e=>h1 (by rw[e];exact List.mem_cons_self)]
  exact x.hh _ _ h2
 ·exact x.nw _ _ (zaq h).2 ht
 ·refine List.nodup_cons.mpr ⟨fun h=>?_,List.nodup_cons.mpr ⟨hd',n'⟩⟩
  rcases List.mem_cons.mp h with e | e
  ·exact hadx e
  ·exact ha' e
 ·rcases List.mem_cons.mp hb with e | hb
  ·subst e;exact⟨fA b List.mem_cons_self,zbh List.mem_cons_self⟩
  ·rcases List.mem_cons.mp hb with e | hb
   ·subst e;exact⟨fA b (List.mem_cons_of_mem _ List.mem_cons_self),zbh (List.mem_cons_of_mem _ List.mem_cons_self)⟩
   ·rcases hA b hb with z | z
    ·exact⟨fA b (List.mem_cons_of_mem _ (List.mem_cons_of_mem _ z)),zbh (List.mem_cons_of_mem _ (List.mem_cons_of_mem _ z))⟩
    ·refine⟨z.1,?_⟩
     unfold zc8
     split
     ·rfl
     ·exact z.2
theorem RS.sub(s:RS K B F H σ δ)(hi:δ[i]? = some (some (.obj (.ins c ns l))))(hs:σ[i]? = some (some (.ref a)))(hcl:zb4 K c C)(e1:H a=some (.ins C dx (ns.zip vs)))(e2:H dx=some (.own a))(hl:ns.length=vs.length)(ts:TRs K F H vs l A)
  (hk:l[k]? = some x1) (hv:vs[k]? = some w) (t1:TR K F H w x1 A1) (ch:Chg H F F' H' A1) (t':TR K F' H' w x' A1') (n':A1'.Nodup) (f':∀ b ∈ A1',F' b=none/\zc8 H A1 b=none) :
  RS K B F' H' σ (δ.set i (some (.obj (.ins c ns (l.set k x')))))/\FX B F F':=by
 have t:TR K F H (.ref a) (.ins c ns l) (a :: dx :: A):=.ins hcl e1 e2 hl ts
 obtain⟨A0,t0,n,f0⟩:=s.at hi hs
 cases t0.det t
 obtain⟨w',B1,hw,tb,sb,_,go⟩:=ts.focus hk
 rw[hv] at hw
 cases hw
 cases tb.det t1
 have haA:a ∉ A:=fun e=>(List.nodup_cons.mp n).1 (List.mem_cons_of_mem _ e)
 have hadx:a ≠ dx:=fun e=>(List.nodup_cons.mp n).1 (by rw[e];exact List.mem_cons_self)
 have hdA:dx ∉ A:=(List.nodup_cons.mp (List.nodup_cons.mp n).2).1
 have nA:A.Nodup:=(List.nodup_cons.mp (List.nodup_cons.mp n).2).2
 have stay:∀ b u,b ∉ A1->H b=some u->H' b=some u:=fun b u hb hu=>ch.st _ _ (zaK hb hu)
 have new:∀ b ∈ A1',∀ u,b ∉ A1->H b ≠ some u:=fun b hb u h1 h2=>by have:=(f' b hb).2;rw[zaK h1 h2] at this;cases this
 obtain⟨A2,m1,m2,m3⟩:=go F' H' x' A1' nA ch.ff (fun b hb hn=>by
  obtain⟨u,hu,_⟩:=ts.lies b hb
  rw[stay b u hn hu,hu]) t' n' fun b hb=>by
   by_cases h1:b ∈ A1
   ·exact .inl h1
   ·exact .inr fun h2=>by obtain⟨u,hu,_⟩:=ts.lies b h2;exact new b hb u h1 hu
 have ha1:a ∉ A1:=fun e=>haA (sb a e)
 have hd1:dx ∉ A1:=fun e=>hdA (sb dx e)
 have ha2:a ∉ A2:=fun e=>(m3 a e).elim (fun z=>haA z.1) fun z=>new a z _ ha1 e1
 have hd2:dx ∉ A2:=fun e=>(m3 dx e).elim (fun z=>hdA z.1) fun z=>new dx z _ hd1 e2
 refine s.chg hi hs t ⟨ch.ff,ch.fh,fun b u h=>?_,fun b u h ht=>?_⟩ (.ins hcl (stay _ _ ha1 e1) (stay _ _ hd1 e2) hl m1) ?_ fun b hb=>?_
 ·obtain⟨h1,h2⟩:=zaq h
  exact stay b u (fun e=>h1 (List.mem_cons_of_mem _ (List.mem_cons_of_mem _ (sb b e)))) h2
 ·obtain⟨h1,h2⟩:=zaq h
  exact ch.nw b u (zaK (fun e=>h1 (List.mem_cons_of_mem _ (List.mem_cons_of_mem _ (sb b e)))) h2) ht
 ·refine List.nodup_cons.mpr ⟨fun h=>?_,List.nodup_cons.mpr ⟨hd2,m2⟩⟩
  rcases List.mem_cons.mp h with e | e
  ·exact hadx e
  ·exact ha2 e
 ·have old:∀ b u,b ∈ a :: dx :: A->b ∉ A1->H b=some u->isT u=false->F' b=none/\zc8 H (a :: dx :: A) b=none:=fun b u h1 h2 h3 h4=>⟨(ch.nw b u (zaK h2 h3) h4).trans (f0 b h1).1,zbh h1⟩
  rcases List.mem_cons.mp hb with e | hb
  ·subst e;exact old b _ List.mem_cons_self ha1 e1 rfl
  ·rcases List.mem_cons.mp hb with e | hb
   ·subst e;exact old b _ (List.mem_cons_of_mem _ List.mem_cons_self) hd1 e2 rfl
   ·rcases m3 b hb with z | z
    ·obtain⟨u,hu,hu'⟩:=ts.lies b z.1
     exact old b u (List.mem_cons_of_mem _ (List.mem_cons_of_mem _ z.1)) z.2 hu hu'
    ·refine⟨(f' b z).1,?_⟩
     by_cases h1:b ∈ A1
     ·exact zbh (List.mem_cons_of_mem _ (List.mem_cons_of_mem _ (sb b h1)))
     ·have:=(f' b z).2
      rw[zcC h1] at this
      unfold zc8
      split
      ·rfl
      ·exact this
end
noncomputable def fFSet(i:Nat)(c:Str)(ns:List Str)(k:Nat)(fe:FE):FS:=fun δ=>((fe δ).bind toO).bind fun y=>((oAt i δ).bind (isC c ns)).bind fun l=>if k<l.length then some (.nx (δ.set i (some (.obj (.ins c ns (l.set k y)))))) else none
noncomputable def zg4(i:Nat)(c:Str)(ns:List Str)(f:Str)(fe:FE):FS:=fun δ=>((fe δ).bind toO).bind fun y=>((oAt i δ).bind (isC c ns)).bind fun l=>some (.nx (δ.set i (some (.obj (.ins c (ns ++ [f]) (l ++ [y]))))))
noncomputable def lOf:OT->Option (List D)
 | .lst ds=>some ds
 | _=>none
section
variable {X:Cx}{e:Expr}{pos pos' p:Pos}{fe:FE}{x f c:Str}{i k:Nat}{ns nsF:List Str}
theorem sFSet(i k:Nat)(hc:ClsF X.K c nsF)(he:VE X e fe)(hf:f ∈ nsF:=by decide +kernel)(hk:ns[k]? = some f:=by rfl)(hn:ns.Nodup:=by decide +kernel)(hfew:ns.length<1000:=by decide)(hN:X.N[i]? = some x:=by rfl)(hv:Vis X.env.scope x:=by first | exact Or.inl rfl | exact Or.inr (Or.inl rfl) | exact Or.inr (Or.inr rfl))(hd:(x == ("__debug__" : Str))=false:=by decide)
  (hcd:(x == ("__classdict__" : Str))=false:=by decide) (hs:swapsWith e (some (.Attribute (.Name x p) f pos')) pos.line X.env=pure false:=by rfl):VS X (.Assign [.Attribute (.Name x p) f pos'] e pos) (fFSet i c ns k fe):=by
 obtain⟨t,w,m⟩:=he.h
 refine⟨_,⟨ps_fld (wv i hN hv hd hcd).h w.h hs⟩,fun B F H σ δ out DD s q kk=>?_⟩
 obtain⟨y,q1,q⟩:=bind_some q
 obtain⟨r,q1,q2⟩:=bind_some q1
 obtain⟨l,q3,q⟩:=bind_some q
 obtain⟨o,q3,q4⟩:=bind_some q3
 split at q
 ·rename_i hlt
  cases q
  cases zdb q4
  refine m B F H σ δ r _ s q1 fun yv F1 H1 x1 z=>?_
  obtain⟨v,h1,A,t,n,h⟩:=s.ent i _ (zaz q3)
  cases t with
  | ins hcl e1 e2 hl ts=>
   obtain⟨g1,g2⟩:=hc.h _ hcl
   obtain⟨A1,ty,n1,f1⟩:=z.toO q2
   have nA:=(List.nodup_cons.mp (List.nodup_cons.mp n).2).2
   obtain⟨A',m1,m2,m3⟩:=TRs.put ty (ts.move x1.ff fun b hb=>let⟨u,hu,_⟩:=ts.lies b hb;(x1.hh _ _ hu).trans hu.symm) hlt nA n1 fun b hb hb'=>by
    obtain⟨u,hu,_⟩:=ts.lies b hb'
    rw[(f1 b hb).2] at hu
    cases hu
   obtain⟨r1,r2⟩:=s.fld (ns':=ns) x1 (zaz q3) h1 hcl e1 e2 hl ts n (by rw[List.length_set];exact hl) m1 m2 fun b hb=>(m3 b hb).imp id fun z=>f1 b z
   refine⟨_,h1,_,_,_,_,rfl,x1.hh _ _ e1,g1,g2 f hf,?_,?_⟩
   ·rw[List.length_zip];lia
   ·rw[zgx hn hk hl]
    exact kk σ F1 _ r1 r2
 ·cases q
theorem sFNew(i:Nat)(hc:ClsF X.K c nsF)(he:VE X e fe)(hf:f ∈ nsF:=by decide +kernel)(hn:f ∉ ns:=by decide +kernel)(hfew:ns.length<1000:=by decide)(hN:X.N[i]? = some x:=by rfl)(hv:Vis X.env.scope x:=by first | exact Or.inl rfl | exact Or.inr (Or.inl rfl) | exact Or.inr (Or.inr rfl))(hd:(x == ("__debug__" : Str))=false:=by decide)
  (hcd:(x == ("__classdict__" : Str))=false:=by decide) (hs:swapsWith e (some (.Attribute (.Name x p) f pos')) pos.line X.env=pure false:=by rfl):VS X (.Assign [.Attribute (.Name x p) f pos'] e pos) (zg4 i c ns f fe):=by
 obtain⟨t,w,m⟩:=he.h
 refine⟨_,⟨ps_fld (wv i hN hv hd hcd).h w.h hs⟩,fun B F H σ δ out DD s q kk=>?_⟩
 obtain⟨y,q1,q⟩:=bind_some q
 obtain⟨r,q1,q2⟩:=bind_some q1
 obtain⟨l,q3,q⟩:=bind_some q
 obtain⟨o,q3,q4⟩:=bind_some q3
 cases q
 cases zdb q4
 refine m B F H σ δ r _ s q1 fun yv F1 H1 x1 z=>?_
 obtain⟨v,h1,A,t,n,h⟩:=s.ent i _ (zaz q3)
 cases t with
 | ins hcl e1 e2 hl ts=>
  obtain⟨g1,g2⟩:=hc.h _ hcl
  obtain⟨A1,ty,n1,f1⟩:=z.toO q2
  have nA:=(List.nodup_cons.mp (List.nodup_cons.mp n).2).2
  obtain⟨A',m1,m2⟩:=TRs.add ty (ts.move x1.ff fun b hb=>let⟨u,hu,_⟩:=ts.lies b hb;(x1.hh _ _ hu).trans hu.symm)
  subst m2
  obtain⟨r1,r2⟩:=s.fld (ns':=ns ++ [f]) x1 (zaz q3) h1 hcl e1 e2 hl ts n (by simp[hl]) m1 (List.nodup_append.mpr ⟨nA,n1,fun b hb b' hb' e=>by
   subst e
   obtain⟨u,hu,_⟩:=ts.lies b hb
   rw[(f1 b hb').2] at hu
   cases hu⟩) fun b hb=>(List.mem_append.mp hb).imp id fun z=>f1 b z
  refine⟨_,h1,_,_,_,_,rfl,x1.hh _ _ e1,g1,g2 f hf,?_,?_⟩
  ·rw[List.length_zip];lia
  ·rw[putF_new hn hl]
   exact kk σ F1 _ r1 r2
end
end L3

namespace L3
open PySem PySem.Spec PyProof.Rows L2
noncomputable abbrev FXE:=En->Option (D × En)
noncomputable abbrev FXT:=En->Option (Bool × En)
noncomputable abbrev FXA:=En->Option (List D × En)
noncomputable abbrev GM:=OT->List D->Option (D × OT)
noncomputable def SemX(K:PySem.W.Frag)(t:TE)(f:FXE):Prop:=∀ (B:Bd) (F H:Hp) (σ:Sg) (δ:En) (d:D) (δ':En) (Q:VK),RS K B F H σ δ->f δ=some (d,δ')->(∀ v F' H',RS K B F' H' σ δ'->FX B F F'->Rep F' v d->Q v H')->t σ H Q
noncomputable def SemXT(K:PySem.W.Frag)(t:TT)(f:FXT):Prop:=∀ (B:Bd) (F H:Hp) (σ:Sg) (δ:En) (b:Bool) (δ':En) (Q:Bool->Hp->Prop),RS K B F H σ δ->f δ=some (b,δ')->(∀ F' H',RS K B F' H' σ δ'->FX B F F'->Q b H')->t σ H Q
noncomputable def SemXA(K:PySem.W.Frag)(t:TA)(f:FXA):Prop:=∀ (B:Bd) (F H:Hp) (σ:Sg) (δ:En) (ds:List D) (δ':En) (Q:List V->Hp->Prop),RS K B F H σ δ->f δ=some (ds,δ')->(∀ vs F' H',RS K B F' H' σ δ'->FX B F F'->Reps F' vs ds->Q vs H')->t σ H Q
structure VX(X:Cx)(e:Expr)(f:FXE):Prop where
 h:∃ t,WE X e t/\SemX X.K t f
structure VXT(X:Cx)(e:Expr)(f:FXT):Prop where
 h:∃ t,WT X e t/\SemXT X.K t f
structure VXA(X:Cx)(es:List Expr)(f:FXA):Prop where
 h:∃ t,WA X es t/\SemXA X.K t f
noncomputable def xP(fe:FE):FXE:=fun δ=>((fe δ).bind asV).map fun d=>(d,δ)
noncomputable def zg2:FXA:=fun δ=>some ([],δ)
noncomputable def zbr(fe:FXE)(fa:FXA):FXA:=fun δ=>(fe δ).bind fun p=>(fa p.2).map fun q=>(p.1 :: q.1,q.2)
noncomputable def xC(ks:List Kd)(g:List D->Option Ent)(fa:FXA):FXE:=fun δ=>(fa δ).bind fun p=>(((zbU ks (p.1.map .val)).bind g).bind asV).map fun d=>(d,p.2)
noncomputable def x2(g:Ent->Ent->Option Ent)(fa fb:FXE):FXE:=fun δ=>(fa δ).bind fun p=>(fb p.2).bind fun q=>((g (.val p.1) (.val q.1)).bind asV).map fun d=>(d,q.2)
noncomputable def bOfD:D->Option Bool
 | .bl b=>some b
 | _=>none
noncomputable def xT(fe:FXE):FXT:=fun δ=>(fe δ).bind fun p=>(bOfD p.1).map fun b=>(b,p.2)
noncomputable def xN(ft:FXT):FXT:=fun δ=>(ft δ).map fun p=>(!p.1,p.2)
section
variable {X:Cx}{a b c e:Expr}{es rest:List Expr}{pos p:Pos}{fa fb:FXE}{fs:FXA}{ft:FXT}{fe:FE}{x:Str}
theorem bOfD_some{d:D}{b:Bool}(h:bOfD d=some b):d=.bl b:=by cases d <;> first | (cases h;rfl) | cases h
theorem zcP(he:VE X e fe):VX X e (xP fe):=by
 obtain⟨t,w,m⟩:=he.h
 refine⟨t,w,fun B F H σ δ d δ' Q s q k=>?_⟩
 obtain⟨d',q1,q⟩:=map_some q
 cases q
 obtain⟨r,q1,q2⟩:=bind_some q1
 refine m B F H σ δ r _ s q1 fun v F1 H1 x1 z=>?_
 obtain⟨F2,x2,_,r2⟩:=RepR.frz x1 (Same.refl _) z q2
 exact k v F2 H1 (s.ext x2) (.of x2 s.bh) r2
theorem xnil:VXA X [] zg2:=⟨_,wnil,fun B F H σ δ ds δ' Q s q k=>by cases q;exact k [] F H s .refl .nil⟩
theorem zcM(ha:VX X e fa)(hr:VXA X es fs)(h:zak e=true:=by rfl):VXA X (e :: es) (zbr fa fs):=by
 obtain⟨ta,wa,sa⟩:=ha.h
 obtain⟨tb,wb,sb⟩:=hr.h
 refine⟨_,wac wa wb h,fun B F H σ δ ds δ' Q s q k=>?_⟩
 obtain⟨p1,q1,q⟩:=bind_some q
 obtain⟨p2,q2,q⟩:=map_some q
 cases q
 refine sa B F H σ δ p1.1 p1.2 _ s q1 fun v F1 H1 s1 y1 r1=>?_
 exact sb B F1 H1 σ p1.2 p2.1 p2.2 _ s1 q2 fun vs F2 H2 s2 y2 r2=>k _ F2 H2 s2 (y1.trans y2) (.cons (Rep.mono y2.ff r1) r2)
theorem zfq{K:PySem.W.Frag}{H0 F H:Hp}:∀ {vs:List V} {ds:List D},Reps F vs ds->RepRs K H0 F H vs (ds.map .val)
 | _,_,.nil=>.nil
 | _,_,.cons h t=>.cons h (zfq t)
theorem xcl{CX:CXT}{k j:Nat}{f:Addr}{fd:FuncData}{ps:List Str}{st:Stmt}{E:XK}{ks:List Kd}{g:List D->Option Ent}(F:FnOk X.prog X.w X.K X.mg X.base CX k f fd ps (spD X.K ks g))(D:Def X.K X.mg x st ps f fd)(hr:Room j X.A)(hg:Gl X x)(hx:zbM CX X E)
  (ha:VXA X (e :: es) fs) (hjk:k<=j:=by decide) (hdb:(x == ("__debug__" : Str))=false:=by decide) (h1:zak e=true:=by rfl) (h2:es.all zak=true:=by rfl) :
  VX X (.Call (.Name x p) (e :: es) [] pos) (xC ks g fs):=by
 obtain⟨t,w,m⟩:=ha.h
 refine⟨_,wcl F D hr hg hx w hjk hdb h1 h2,fun B F H σ δ d δ' Q s q k=>?_⟩
 obtain⟨p1,q1,q⟩:=bind_some q
 obtain⟨d',q2,q⟩:=map_some q
 cases q
 obtain⟨r,q2,q3⟩:=bind_some q2
 obtain⟨ds,q2,q4⟩:=bind_some q2
 refine m B F H σ δ p1.1 p1.2 _ s q1 fun vs F1 H1 s1 y1 r1=>?_
 obtain⟨F2,x2,_,a2⟩:=RepRs.args (K:=X.K) (Ex.refl s1.fh) (Same.refl _) (zfq r1) q2
 rw[List.append_nil]
 refine⟨F2,ds,r,x2.fh,a2,q4,fun v F' H' x3 r3=>?_⟩
 obtain⟨F4,x4,_,r4⟩:=RepR.frz x3 (Same.refl _) r3 q3
 exact k v F4 H' ((s1.ext x2).ext x4) (y1.trans ((FX.of x2 s1.bh).trans (.of x4 (s1.ext x2).bh))) r4
theorem SemX.op{K:PySem.W.Frag}{r:R2}{ta tb:TE}{g:Ent->Ent->Option Ent}(hr:zg0 K r g)(ha:SemX K ta fa)(hb:SemX K tb fb):SemX K (tOp r ta tb) (x2 g fa fb):=fun B F H σ δ d δ' Q s q k=>by
 obtain⟨p1,q1,q⟩:=bind_some q
 obtain⟨p2,q2,q⟩:=bind_some q
 obtain⟨d',q3,q⟩:=map_some q
 cases q
 obtain⟨res,q3,q4⟩:=bind_some q3
 refine ha B F H σ δ p1.1 p1.2 _ s q1 fun v F1 H1 s1 y1 r1=>?_
 refine hb B F1 H1 σ p1.2 p2.1 p2.2 _ s1 q2 fun w F2 H2 s2 y2 r2=>?_
 refine hr H2 F2 H2 v w (.val p1.1) (.val p2.1) res Q s2.fh (Same.refl _) (Rep.mono y2.ff r1) r2 q3 fun v' F' H' x3 r3=>?_
 obtain⟨F4,x4,_,r4⟩:=RepR.frz x3 (Same.refl _) r3 q4
 exact k v' F4 H' (s2.ext x4) ((y1.trans y2).trans (.of x4 s2.bh)) r4
theorem xop{op:Operator}{g:Ent->Ent->Option Ent}(ho:OpD X (binaryOp op) g)(ha:VX X a fa)(hb:VX X b fb):VX X (.BinOp a op b pos) (x2 g fa fb):=
 let⟨_,wa,sa⟩:=ha.h;let⟨_,wb,sb⟩:=hb.h;let⟨_,h1,h2⟩:=ho;⟨_,wop h1 wa wb,.op h2 sa sb⟩
theorem txv(h:VX X e fa)(he:∀ whole,isTrue e X.env whole=(do let v <- whole;standAt e.pos;holding [v] (truthy v)):=by intro _;rfl):VXT X e (xT fa):=by
 obtain⟨t,w,m⟩:=h.h
 refine⟨_,tval w he,fun B F H σ δ b δ' Q s q k=>?_⟩
 obtain⟨p1,q1,q⟩:=bind_some q
 obtain⟨bb,q2,q⟩:=map_some q
 cases q
 exact m B F H σ δ p1.1 p1.2 _ s q1 fun v F1 H1 s1 y1 r1=>⟨_,zgk (bOfD_some q2 ▸ r1),k F1 H1 s1 y1⟩
theorem txn(ha:VXT X a ft):VXT X (.UnaryOp .Not a pos) (xN ft):=by
 obtain⟨t,w,m⟩:=ha.h
 refine⟨_,tnot w,fun B F H σ δ b δ' Q s q k=>?_⟩
 obtain⟨p1,q1,q⟩:=map_some q
 cases q
 exact m B F H σ δ p1.1 p1.2 _ s q1 fun F1 H1 s1 y1=>k F1 H1 s1 y1
end
noncomputable def fX(fx:FXE):FS:=fun δ=>(fx δ).map fun p=>.nx p.2
noncomputable def zd6(i:Nat)(fx:FXE):FS:=fun δ=>(fx δ).map fun p=>.nx (p.2.set i (some (.val p.1)))
noncomputable def fXRet(fx:FXE):FS:=fun δ=>(fx δ).map fun p=>.rt (.val p.1) p.2
noncomputable def fXIf(ft:FXT)(f g:FS):FS:=fun δ=>(ft δ).bind fun p=>if p.1=true then f p.2 else g p.2
noncomputable def fSetO(i:Nat)(fe:FE):FS:=fun δ=>(fe δ).bind fun r=>match r with
 | .obj o=>some (.nx (δ.set i (some (.obj o))))
 | _=>none
section
variable {X:Cx}{e c:Expr}{pos pos' p:Pos}{fx:FXE}{ft:FXT}{fe:FE}{x:Str}{body els:List Stmt}{f g:FS}
theorem sX(h:VX X e fx)(hs:swapsWith e none pos.line X.env=pure false:=by rfl):VS X (.Expr e pos) (fX fx):=by
 obtain⟨t,w,m⟩:=h.h
 refine⟨_,sex w hs,fun B F H σ δ out DD s q k=>?_⟩
 obtain⟨p1,q1,q⟩:=map_some q
 cases q
 exact m B F H σ δ p1.1 p1.2 _ s q1 fun v F1 H1 s1 y1 _=>k σ F1 H1 s1 y1
theorem sXSet{i:Nat}(hN:X.N.Nodup)(hi:X.N[i]? = some x)(hx:Loc X.env.scope x)(h:VX X e fx)(hs:swapsWith e (some (.Name x pos')) pos.line X.env=pure false:=by rfl)(hf:X.fn x=true \/ X.env.scope.names.lookup x=some .local:=by first | exact .inl rfl | exact .inr rfl | assumption) :
  VS X (.Assign [.Name x pos'] e pos) (zd6 i fx):=by
 obtain⟨t,w,m⟩:=h.h
 refine⟨_,sset hN hi hx w hs hf,fun B F H σ δ out DD s q k=>?_⟩
 obtain⟨p1,q1,q⟩:=map_some q
 cases q
 exact m B F H σ δ p1.1 p1.2 _ s q1 fun v F1 H1 s1 y1 r1=>k _ F1 H1 (s1.putV i r1) y1
theorem sXRet(h:VX X e fx):VS X (.Return (some e) pos) (fXRet fx):=by
 obtain⟨t,w,m⟩:=h.h
 refine⟨_,sret w,fun B F H σ δ out DD s q k=>?_⟩
 obtain⟨p1,q1,q⟩:=map_some q
 cases q
 exact m B F H σ δ p1.1 p1.2 _ s q1 fun v F1 H1 s1 y1 r1=>k v σ F1 H1 s1 y1 r1
theorem sXIf(hc:VXT X c ft)(ha:VSs X body f)(hb:VSs X els g):VS X (.If c body els pos) (fXIf ft f g):=by
 obtain⟨t,w,m⟩:=hc.h
 obtain⟨t1,w1,m1⟩:=ha.h
 obtain⟨t2,w2,m2⟩:=hb.h
 refine⟨_,sif w w1 w2,fun B F H σ δ out DD s q k=>?_⟩
 obtain⟨⟨bb,δ1⟩,q1,q⟩:=bind_some q
 refine m B F H σ δ bb δ1 _ s q1 fun F' H' s' y=>?_
 cases bb with
 | true=>exact iteT (m1 B F' H' σ δ1 out DD s' q (k.mono y))
 | false=>exact iteF (m2 B F' H' σ δ1 out DD s' q (k.mono y))
theorem sSetO{i:Nat}(h0:0<i)(hN:X.N.Nodup)(hi:X.N[i]? = some x)(hx:Loc X.env.scope x)(he:VE X e fe)(hs:swapsWith e (some (.Name x pos')) pos.line X.env=pure false:=by rfl)(hf:X.fn x=true \/ X.env.scope.names.lookup x=some .local:=by first | exact .inl rfl | exact .inr rfl | assumption) :
  VS X (.Assign [.Name x pos'] e pos) (fSetO i fe):=by
 obtain⟨t,w,m⟩:=he.h
 refine⟨_,sset hN hi hx w hs hf,fun B F H σ δ out DD s q k=>?_⟩
 obtain⟨r,q1,q⟩:=bind_some q
 cases r with
 | obj o=>cases q;exact m B F H σ δ _ _ s q1 fun v F' H' x z=>k _ F' H' (s.putO x i h0 z) (.of x s.bh)
 | _=>cases q
end
noncomputable def spM(K:PySem.W.Frag)(g:GM):Sp:=fun vs H Q _=>∃ v ws F o A ds d o',vs=v :: ws/\Same F H/\TR K F H v o A/\A.Nodup/\(∀ a ∈ A,F a=none)/\Reps F ws ds/\g o ds=some (d,o') /\
 ∀ x F' H' A',Chg H F F' H' A->TR K F' H' v o' A'->A'.Nodup->(∀ a ∈ A',F' a=none/\zc8 H A a=none)->Rep F' x d->Q x H'
noncomputable def endM:Out->Option (D × OT)
 | .rt (.val d) δ=>(oAt 0 δ).map fun o=>(d,o)
 | .nx δ=>(oAt 0 δ).map fun o=>(.non,o)
 | _=>none
noncomputable def zfI(n m:Nat)(f:FS)(o:OT)(ds:List D):Option (D × OT):=if ds.length=n then (f (some (.obj o) :: (ds.map fun d=>some (.val d)) ++ List.replicate m none)).bind endM else none
section
variable {P:Program}{w:World}{K:PySem.W.Frag}{mg:Str->Option Value}{base:Heap}{x qual:Str}{st:Stmt}{f:Addr}{fd:FuncData}{N ps:List Str}{k n:Nat}{g:GM}
theorem zek(F:FunA K x qual st f fd)(S:FnScope N ps (zac st))(fb:FS)(hk:ps.length=n+1)(hg:∀ o ds r,g o ds=some r->zfI n (N.length - ps.length) fb o ds=some r)
  (hbody:∀ (cdv:Value) (A:Around) (outer:List Env) (s:Shared) (H:Hp) (E:XK),Room k (A.deeper (envOfC qual (zac st) s.heap.objs.size f cdv))->VSs (cxOf CX0 P w K mg base N qual (zac st) f cdv A outer s H E).nox (zam st) fb) :
  FnOk P w K mg base CX0 (k+1) f fd ps (spM K g):=by
 obtain⟨oc,od,dV,kV,doc,pm,an,cdv,ct,osl,rfl,lk,hcd⟩:=F.ex
 refine fn_of lk hcd S (fun vs H Q E h=>?_) fun A outer s H vs Q E hr h=>?_
 ·obtain⟨v,ws,F,o,A,ds,d,o',rfl,_,_,_,_,rs,q,_⟩:=h
  have:=hg _ _ _ q
  unfold zfI at this
  split at this
  ·rename_i hl;rw[List.length_cons,rs.length,hl,hk]
  ·cases this
 ·obtain⟨v,ws,F,o,A,ds,d,o',rfl,fh,t,nd,fA,rs,q,kk⟩:=h
  obtain⟨tt,wt,m⟩:=(hbody cdv _ outer s H E hr).h
  refine⟨tt,wt.h.nox,?_⟩
  have q2:=hg _ _ _ q
  unfold zfI at q2
  split at q2
  ·rename_i hl
   obtain⟨out,q3,q4⟩:=bind_some q2
   have hws:=rs.length
   have ent:∀ (i:Nat) (e:Ent),(some (Ent.obj o) :: (ds.map fun d=>some (Ent.val d)) ++ List.replicate (N.length - ps.length) none)[i]? = some (some e)->(i=0/\e=.obj o) \/ ∃ j d,i=j+1/\ds[j]? = some d/\e=.val d:=fun i e h=>by
    cases i with
    | zero=>simp at h;exact .inl ⟨rfl,h.symm⟩
    | succ j=>
     rw[List.cons_append,List.getElem?_cons_succ] at h
     by_cases hj:j<(ds.map fun d=>some (Ent.val d)).length
     ·rw[List.getElem?_append_left hj,List.getElem?_map] at h
      cases z:ds[j]? with
      | none=>rw[z] at h;cases h
      | some d=>rw[z] at h;cases h;exact .inr ⟨j,d,rfl,z,rfl⟩
     ·rw[List.getElem?_append_right (by lia),List.getElem?_replicate] at h
      split at h <;> cases h
   have sv:∀ (i:Nat) (y:V),(v :: ws)[i]? = some y->(L2.start N (v :: ws))[i]? = some (some y):=fun i y h=>by
    unfold L2.start
    rw[List.getElem?_append_left (by rw[List.length_map];exact(List.getElem?_eq_some_iff.mp h).1),List.getElem?_map,h]
    rfl
   have s0:RS K ⟨zc8 H A,some v⟩ F H (L2.start N (v :: ws)) (some (.obj o) :: (ds.map fun d=>some (.val d)) ++ List.replicate (N.length - ps.length) none):=by
    refine⟨fh,fun a u h=>(zaq h).2,?_,fun i e h=>?_,fun a b l es e hab h1=>?_,fun a b e1 e2 v1 v2 ad hab q1 q2 q3 q4 q5 q6 q7=>?_,fun w p hw _=>?_⟩
    ·unfold L2.start
     simp only[List.length_append,List.length_map,List.length_replicate,List.length_cons]
     lia
    ·rcases ent i e h with ⟨rfl,rfl⟩ | ⟨j,d,rfl,hd,rfl⟩
     ·exact⟨v,sv 0 v rfl,A,t,nd,fun a ha=>⟨fA a ha,zbh ha⟩⟩
     ·obtain⟨y,hy,ry⟩:=rs.get hd
      exact⟨y,sv (j+1) y (by simpa using hy),ry⟩
    ·rcases ent a _ h1 with ⟨_,z⟩ | ⟨j,d,_,_,z⟩ <;> cases z
    ·rcases ent a _ q1 with ⟨rfl,rfl⟩ | ⟨j,d,_,_,rfl⟩
     ·rcases ent b _ q3 with ⟨rfl,_⟩ | ⟨j,d,_,_,rfl⟩
      ·exact hab rfl
      ·exact q7
     ·cases q5
    ·cases hw
     exact sv 0 v rfl
   have fin:∀ (δ':En) (σ':Sg) (F' H':Hp) (y:V),RS K ⟨zc8 H A,some v⟩ F' H' σ' δ'->FX (zc8 H A) F F'->oAt 0 δ'=some o'->Rep F' y d->Q y H':=fun δ' σ' F' H' y s' y' ho ry=>by
    have h0:=s'.pn v o' rfl (zaz ho)
    obtain⟨A',t',n',f'⟩:=s'.at (zaz ho) h0
    exact kk y F' H' A' ⟨y'.ff,s'.fh,s'.bh,y'.nw⟩ t' n' f' ry
   refine m ⟨zc8 H A,some v⟩ F H (L2.start N (v :: ws)) _ out _ s0 q3 ?_
   cases out with
   | nx δ'=>
    obtain⟨o2,h1,h2⟩:=map_some q4
    cases h2
    exact fun σ' F' H' s' y=>fin δ' σ' F' H' .non s' y h1 .non
   | rt r' δ'=>
    cases r' with
    | val d'=>
     obtain⟨o2,h1,h2⟩:=map_some q4
     cases h2
     exact fun y σ' F' H' s' yy z=>fin δ' σ' F' H' y s' yy h1 z
    | _=>cases q4
   | bk δ'=>cases q4
   | ct δ'=>cases q4
  ·cases q2
end
structure MethD(K:PySem.W.Frag)(c:Str)(m:Str)(st:Stmt)(qual:Str)(ps:List Str)(f:Addr)(fd:FuncData):Prop where
 fn:FunA K m qual st f fd
 at_:∀ C,zb4 K c C->Meth K C m f
 b:Binds K fd ps []
noncomputable def xM(i:Nat)(c:Str)(ns:List Str)(g:GM)(fa:FA):FXE:=fun δ=>(oAt i δ).bind fun o=>(isC c ns o).bind fun _=>((fa δ).bind zd2).bind fun ds=>(g o ds).map fun p=>(p.1,δ.set i (some (.obj p.2)))
section
variable {X:Cx}{e:Expr}{es:List Expr}{pos pos' p apos:Pos}{fa:FA}{x f m c c2 qual:Str}{ns nsF ns2 nsF2 ps:List Str}{g:GM}{fd:FuncData}{fm:Addr}{st:Stmt}{kk j:Nat}{pl:Sem Bool}
theorem SemM.at{K:PySem.W.Frag}{C:Addr}{t:TA}{E:XK}{i:Nat}(sm:SemA K t fa)(hcl:zb4 K c C)(hm:m ∉ ns):SemX K (tMeth C m (spM K g) [] E (zcN i) t) (xM i c ns g fa):=fun B F H σ δ d δ' Q s q k=>by
 obtain⟨o,q0,q⟩:=bind_some q
 obtain⟨l,q1,q⟩:=bind_some q
 obtain⟨ds,q2,q⟩:=bind_some q
 obtain⟨rs,q2,q3⟩:=bind_some q2
 obtain⟨p1,q4,q⟩:=map_some q
 cases q
 cases zdb q1
 obtain⟨v,h1,A,t0,n0,f0⟩:=s.ent i _ (zaz q0)
 cases t0 with
 | ins hcl' e1 e2 hl ts=>
  cases zbZ hcl hcl'
  refine⟨_,h1,_,_,_,rfl,e1,zfb hm,?_⟩
  refine sm B F H σ δ rs _ s q2 fun vs F1 H1 x1 r1=>?_
  obtain⟨F2,x2,_,r2⟩:=RepRs.frz x1 (Same.refl _) r1 q3
  have s2:=s.ext x2
  have tt:=((TR.ins hcl' e1 e2 hl ts).ext x2)
  rw[List.append_nil]
  refine⟨_,vs,F2,_,_,ds,p1.1,p1.2,rfl,s2.fh,tt.1,n0,fun a ha=>(tt.2 a ha).trans (f0 a ha).1,r2,q4,fun y F' H' A' ch t' n' f' ry=>?_⟩
  obtain⟨z1,z2⟩:=s2.chg (zaz q0) h1 tt.1 ch t' n' f'
  exact k y F' H' z1 ((FX.of x2 s.bh).trans z2) ry
theorem semNil{K:PySem.W.Frag}:SemA K tNil zaf:=fun B F H σ δ rs Q s q k=>by cases q;exact k [] F H (Ex.refl s.fh) .nil
variable {CX:CXT}{E:XK}
structure ClsD(K:PySem.W.Frag)(mg:Str->Option Value)(c:Str)(nsF:List Str)(C:Addr):Prop where
 at_:zb4 K c C
 mg:mg c=some (.ref C)
 cl:Cls K C
 no:∀ f ∈ nsF,NoAttr K C f
theorem ClsD.toF{K:PySem.W.Frag}{mg:Str->Option Value}{C:Addr}(D:ClsD K mg c nsF C):ClsF K c nsF:=⟨fun C' h=>by cases zbZ D.at_ h;exact⟨D.cl,D.no⟩⟩
theorem xmeth{C:Addr}(i:Nat)(DC:ClsD X.K X.mg c nsF C)(D:MethD X.K c m st qual ps fm fd)(F:FnOk X.prog X.w X.K X.mg X.base CX kk fm fd ps (spM X.K g))(hr:Room j X.A)(hx:zbM CX X E)(ha:VA X (e :: es) fa)(hm:m ∉ ns:=by decide +kernel)(hjk:kk<=j:=by decide)
  (hN:X.N[i]? = some x:=by rfl) (hv:Vis X.env.scope x:=by first | exact Or.inl rfl | exact Or.inr (Or.inl rfl) | exact Or.inr (Or.inr rfl)) (hd:(x == ("__debug__" : Str))=false:=by decide) (hcd:(x == ("__classdict__" : Str))=false:=by decide)
  (h1:zak e=true:=by rfl) (h2:es.all zak=true:=by rfl)
  (ht:eval (.Call (.Attribute (.Name x p) m apos) (e :: es) [] pos) X.env=(do
   let ov <- eval (.Name x p) X.env
   standAt apos.atName
   let (f,first) <- holding [ov] (getMethod ov m pl)
   callWith pos f first (backTo pos (starEach (e :: es) X.env)) (backToKw pos (keywordEach [] X.env))):=by rfl) :
  VX X (.Call (.Attribute (.Name x p) m apos) (e :: es) [] pos) (xM i c ns g fa):=
 let⟨_,w,sm⟩:=ha.h;⟨_,⟨pe_meth (wv i hN hv hd hcd).h DC.cl (D.at_ _ DC.at_) F (hr.mono hjk) D.b .nil hx w.h (zal h1) (zb6 h2) ht⟩,SemM.at sm DC.at_ hm⟩
end
noncomputable def zdy(c:Str)(g:GM)(fa:FA):FE:=fun δ=>((fa δ).bind zd2).bind fun ds=>(g (.ins c [] []) ds).bind fun p=>match p.1 with
 | .non=>some (.obj p.2)
 | _=>none
structure MakeD(K:PySem.W.Frag)(c:Str)(st:Stmt)(qual:Str)(ps:List Str)(f:Addr)(fd:FuncData):Prop where
 fn:FunA K "__init__" qual st f fd
 at_:∀ C,zb4 K c C->Mk K C f
 b:Binds K fd ps []
section
variable {X:Cx}{e:Expr}{es:List Expr}{pos p:Pos}{fa:FA}{c qual:Str}{nsF ps:List Str}{g:GM}{fd:FuncData}{fm:Addr}{st:Stmt}{kk j:Nat}{CX:CXT}{E:XK}
theorem SemE.make{K:PySem.W.Frag}{C:Addr}{t:TA}{E:XK}(sm:SemA K t fa)(hcl:zb4 K c C):SemE K (tMake C (spM K g) [] E t) (zdy c g fa):=fun B F H σ δ res Q s q k=>by
 obtain⟨ds,q1,q⟩:=bind_some q
 obtain⟨rs,q1,q2⟩:=bind_some q1
 obtain⟨p1,q3,q⟩:=bind_some q
 refine sm B F H σ δ rs _ s q1 fun vs F1 H1 x1 r1=>?_
 obtain⟨F2,x2,_,r2⟩:=RepRs.frz x1 (Same.refl _) r1 q2
 intro a dx ha hdx hne
 have fa0:F2 a=none:=x2.fh.free ha
 have fd0:F2 dx=none:=x2.fh.free hdx
 have sH:Same H1 (upd (upd H1 dx (.own a)) a (.ins C dx [])):=(Same.alloc hdx).trans (Same.alloc (by rw[zaj (Ne.symm hne)];exact ha))
 rw[List.append_nil]
 refine⟨_,vs,F2,.ins c [] [],[a,dx],ds,p1.1,p1.2,rfl,x2.fh.trans sH,?_,by simp[Ne.symm hne],fun b hb=>?_,r2,q3,fun y F' H' A' ch t' n' f' ry=>?_⟩
 ·exact .ins (vs:=[]) (A:=[]) hcl zag (by rw[zaj hne];exact zag) rfl .nil
 ·simp at hb
  rcases hb with rfl | rfl
  ·exact fa0
  ·exact fd0
 ·obtain⟨d0,o0⟩:=p1
  cases d0 with
  | non=>
   cases q
   have st:∀ b u,H1 b=some u->zc8 (upd (upd H1 dx (.own a)) a (.ins C dx [])) [a,dx] b=some u:=fun b u hb=>zaK (fun z=>by
    simp at z
    rcases z with rfl | rfl
    ·rw[ha] at hb;cases hb
    ·rw[hdx] at hb;cases hb) (sH _ _ hb)
   refine⟨zfE ry,k _ F' H' ⟨x2.ff.trans ch.ff,ch.fh,fun b u hb=>ch.st _ _ (st b u (x2.hh _ _ hb)),fun b u hb ht=>(ch.nw b u (st b u (x2.hh _ _ hb)) ht).trans (x2.nw b u hb ht)⟩ ⟨⟨a,rfl⟩,A',t',n',fun b hb=>⟨(f' b hb).1,?_⟩⟩⟩
   cases z:H b with
   | none=>rfl
   | some u=>have:=st b u (x2.hh _ _ z);rw[(f' b hb).2] at this;cases this
  | _=>cases q
theorem vmake{C:Addr}(DC:ClsD X.K X.mg c nsF C)(D:MakeD X.K c st qual ps fm fd)(F:FnOk X.prog X.w X.K X.mg X.base CX kk fm fd ps (spM X.K g))(hr:Room j X.A)(hg:Gl X c)(hx:zbM CX X E)(ha:VA X (e :: es) fa)(hjk:kk+1<=j:=by decide)(hdb:(c == ("__debug__" : Str))=false:=by decide)
  (h1:zak e=true:=by rfl) (h2:es.all zak=true:=by rfl):VE X (.Call (.Name c p) (e :: es) [] pos) (zdy c g fa):=
 let⟨_,w,sm⟩:=ha.h;⟨_,⟨pe_make (D.at_ _ DC.at_) F (hr.mono hjk) hg DC.mg D.b .nil hx w.h hdb (zal h1) (zb6 h2)⟩,.make sm DC.at_⟩
end
end L3

namespace L2
open PySem PySem.Spec PyProof.Rows
section
variable {prog:Program}{w:World}{A:Around}{E:Value->Shared->Prop}{s:Shared}
structure Rises(st:SortSt):Prop where
 k:kindOf st=oneType'
 r:∀ i,1<=i->i<(arrOf st).size->∃ a t p b u q,(arrOf st)[i]? = some (.int a t,p)/\(arrOf st)[i - 1]? = some (.int b u,q)/\b<=a
end
end L2

namespace L2
open PySem PySem.Spec PyProof.Rows
end L2
namespace L3
open PySem PySem.Spec PyProof.Rows L2
noncomputable def gRep:Ent->Ent->Option Ent:=fun x y=>(asLt x).bind fun ds=>(iOf y).bind fun k=>gif (-1000000<=k/\k<=1000000/\ds.length * k.toNat<=1000000) (some (.own (List.replicate k.toNat ds).flatten))
theorem zgA{F:Hp}{vs:List V}{ds:List D}(r:Reps F vs ds):∀ k:Nat,Reps F (List.replicate k vs).flatten (List.replicate k ds).flatten
 | 0=>.nil
 | k+1=>by
  rw[List.replicate_succ,List.replicate_succ,List.flatten_cons,List.flatten_cons]
  exact r.append (zgA r k)
section
variable {X:Cx}
theorem o_rep:OpD X (binaryOp .Mult) gRep:=⟨_,op_rep,fun H0 F H x y e e' res Q fh hh rx ry q k=>by
 obtain⟨ds,q1,q⟩:=bind_some q
 obtain⟨n,q2,q⟩:=bind_some q
 obtain⟨⟨h1,h2,h3⟩,qz⟩:=za0 q
 cases qz
 cases zaw q2
 obtain⟨l,vs,e1,h4,h5⟩:=RepR.toLt rx fh q1
 subst e1
 refine⟨l,n,vs,rfl,zaI ry,h4,by lia,by lia,by rw[h5.length,sizeLine_eq];exact Nat.le_trans h3 (by decide),fun p hp=>?_⟩
 exact k _ _ _ (Ex.lay fh hp) ⟨p,_,rfl,hh.free hp,zag,zgA h5 _,fh.free hp⟩⟩
end
end L3

namespace L2
open PySem PySem.Spec PyProof.Rows
structure Rk(prog:Program)(w:World)(A:Around)(s:Shared)(kd:SortKind)(D:Keyed->Prop)(rk:Keyed->Nat):Prop where
 lt:∀ x y,D x->D y->∀ (E:Value->Shared->Prop) (Q:Bool->Shared->Prop),Q (decide (rk x<rk y)) s->wpAny (model prog w) A (keyLt' kd x.1 y.1) Q E s
section
variable {prog:Program}{w:World}{A:Around}{E:Value->Shared->Prop}{s:Shared}{kd:SortKind}{D:Keyed->Prop}{rk:Keyed->Nat}{st:SortSt}
theorem wpS_q(R:Rk prog w A s kd D rk){x y:Keyed}{Q:Option Bool->SortSt->Prop}(hk:kindOf st=kd)(hx:D x)(hy:D y)(h:Q (some (decide (rk x<rk y))) st):wpS (model prog w) A E s (lt' x y) Q st:=by
 rw[lt'_eq]
 refine wpS_bind (wpS_get ?_)
 rw[hk]
 refine wpS_bind (wpS_lift (wpAny_attempt (R.lt x y hx hy _ _ ⟨rfl,?_⟩)))
 exact wpS_pure h
theorem wpS_el{arr:Array Keyed}{i:Nat}{Q:Keyed->SortSt->Prop}(hi:i<arr.size)(h:Q arr[i] st):wpS (model prog w) A E s (elem' arr i) Q st:=by
 rw[elem'_eq,getElem?_pos arr i hi]
 exact wpS_pure h
theorem zf6{r:String}{Q:Unit->SortSt->Prop}(h:Q () st):wpS (model prog w) A E s (liftM (rule r):StateT SortSt Sem Unit) Q st:=wpS_lift (wpAny_rule ⟨rfl,h⟩)
end
end L2

namespace L2
open PySem PySem.Spec PyProof.Rows
section
variable {prog:Program}{w:World}{A:Around}{E:Value->Shared->Prop}{s:Shared}{kd:SortKind}{D:Keyed->Prop}{rk:Keyed->Nat}{st:SortSt}
noncomputable def kA(rk:Keyed->Nat)(xs:Array Keyed)(i:Nat):Nat:=(xs[i]?.map rk).getD 0
theorem kA_at{xs:Array Keyed}{i:Nat}(h:i<xs.size):kA rk xs i=rk xs[i]:=by
 unfold kA;rw[getElem?_pos xs i h];rfl
noncomputable def Up(rk:Keyed->Nat)(xs:Array Keyed)(lo hi:Nat):Prop:=∀ i j,lo<=i->i<=j->j<hi->kA rk xs i<=kA rk xs j
structure MgR(r:Keyed->Keyed->Prop)(all:List Keyed)(out:Array Keyed)(rest:List Keyed):Prop where
 perm:(out.toList ++ rest).Perm all
 srt:out.toList.Pairwise r
 low:∀ x ∈ out.toList,∀ y ∈ rest,r x y
noncomputable abbrev Mg(rk:Keyed->Nat):=MgR fun x y=>rk x<=rk y
theorem MgR.take{r:Keyed->Keyed->Prop}{all rest rest':List Keyed}{out c:Array Keyed}(M:MgR r all out rest)(p:rest.Perm (c.toList ++ rest'))(hs:c.toList.Pairwise r)(hl:∀ x ∈ c.toList,∀ y ∈ rest',r x y):MgR r all (out ++ c) rest':=by
 refine⟨?_,?_,?_⟩
 ·rw[Array.toList_append,List.append_assoc]
  exact(p.symm.append_left _).trans M.perm
 ·rw[Array.toList_append,List.pairwise_append]
  exact⟨M.srt,hs,fun x hx y hy=>M.low x hx y (p.mem_iff.mpr (List.mem_append_left _ hy))⟩
 ·intro x hx y hy
  rw[Array.toList_append] at hx
  rcases List.mem_append.mp hx with hx | hx
  ·exact M.low x hx y (p.mem_iff.mpr (List.mem_append_right _ hy))
  ·exact hl x hx y hy
theorem MgR.swap{r:Keyed->Keyed->Prop}{all ra rb:List Keyed}{out:Array Keyed}(M:MgR r all out (ra ++ rb)):MgR r all out (rb ++ ra):=by
 have h:=M.take (c:=#[]) (rest':=rb ++ ra) List.perm_append_comm .nil (fun x hx=>by cases hx)
 rwa [Array.append_empty] at h
theorem Mg.swap{all ra rb:List Keyed}{out:Array Keyed}(M:Mg rk all out (ra ++ rb)):Mg rk all out (rb ++ ra):=MgR.swap M
section
variable {M:Model}{α σ β γ:Type}{Q:α->σ->Prop}{st:σ}{c:Prop}{_:Decidable c}{c1 c2:γ->Prop}{_:∀ x,Decidable (c1 x)}{_:∀ x,Decidable (c2 x)}{p2:γ->Prop}{p1:γ->β->Prop}{r r2 f:β->γ->StateT σ Sem α}{y1:β}{y2:γ}
end
end
end L2

namespace L2
open PySem PySem.Spec PyProof.Rows
section
variable {prog:Program}{w:World}{A:Around}{E:Value->Shared->Prop}{s:Shared}{kd:SortKind}{D:Keyed->Prop}{rk:Keyed->Nat}{st:SortSt}{a₀:Array Keyed}
structure Sb(kd:SortKind)(a₀:Array Keyed)(st:SortSt):Prop where
 perm:(arrOf st).toList.Perm a₀.toList
 kind:kindOf st=kd
 failed:failedOf st=none
theorem Sb.size(h:Sb kd a₀ st):(arrOf st).size=a₀.size:=by have:=h.perm.length_eq;simpa using this
theorem Sb.all(h:Sb kd a₀ st)(hD:∀ x ∈ a₀,D x):∀ x ∈ arrOf st,D x:=fun x hx=>hD x (Array.mem_toList_iff.mp (h.perm.mem_iff.mp (Array.mem_toList_iff.mpr hx)))
noncomputable abbrev Run:=Nat × Nat × Nat
end
end L2

namespace L2
open PySem PySem.Spec PyProof.Rows
section
variable {prog:Program}{w:World}{A:Around}{E:Value->Shared->Prop}{s:Shared}{kd:SortKind}{D:Keyed->Prop}{rk:Keyed->Nat}{st:SortSt}{a₀:Array Keyed}
theorem zdk(R:Rk prog w A s kd D rk){i j:Nat}{Q:Option Bool->SortSt->Prop}(B:Sb kd a₀ st)(hD:∀ x ∈ a₀,D x)(hi:i<a₀.size)(hj:j<a₀.size)(h:Q (some (decide (kA rk (arrOf st) i<kA rk (arrOf st) j))) st):wpS (model prog w) A E s (ltAt' i j) Q st:=by
 rw[<- B.size] at hi hj
 have hd:=B.all hD
 refine wpS_bind (wpS_get ?_)
 refine wpS_bind (wpS_el hi ?_)
 refine wpS_bind (wpS_el hj ?_)
 refine wpS_q R B.kind (hd _ (Array.getElem_mem hi)) (hd _ (Array.getElem_mem hj)) ?_
 rw[<- kA_at (rk:=rk) hi,<- kA_at (rk:=rk) hj]
 exact h
structure Kp(rk:Keyed->Nat)(kd:SortKind)(a₀:Array Keyed)(lo:Nat)(st st':SortSt):Prop where
 sb:Sb kd a₀ st'
 pend:pendingOf st'=pendingOf st
 left:∀ j,j<lo->kA rk (arrOf st') j=kA rk (arrOf st) j
theorem kA_of{xs ys:Array Keyed}{i j:Nat}(h:xs[i]? = ys[j]?):kA rk xs i=kA rk ys j:=by unfold kA;rw[h]
theorem zgi{xs:Array Keyed}{i j:Nat}(hj:j<=xs.size)(k:Nat):kA rk (mirror xs i j ((j - i) / 2)) k=if i<=k/\k<j then kA rk xs (i+j - 1 - k) else kA rk xs k:=by
 have e:=getElem?_mirror_all (i:=i) hj k
 split at e
 ·rename_i c;rw[if_pos c];exact kA_of e
 ·rename_i c;rw[if_neg c];exact kA_of e
theorem kA_bub{xs:Array Keyed}{src d:Nat}(hs:src<xs.size)(hd:d<=src)(k:Nat):kA rk (bubble xs src d) k=if k=src - d then kA rk xs src else if src - d<k/\k<=src then kA rk xs (k - 1) else kA rk xs k:=by
 have e:=getElem?_bubble hs d hd k
 split at e
 ·rename_i c;rw[if_pos c];exact kA_of e
 ·rename_i c
  rw[if_neg c]
  split at e
  ·rename_i c;rw[if_pos c];exact kA_of e
  ·rename_i c;rw[if_neg c];exact kA_of e
theorem Kp.set{lo:Nat}{st':SortSt}(K:Kp rk kd a₀ lo st st'){xs:Array Keyed}(hp:xs.toList.Perm (arrOf st').toList)(hl:∀ j,j<lo->kA rk xs j=kA rk (arrOf st') j):Kp rk kd a₀ lo st (setArr st' xs):=
 ⟨⟨hp.trans K.sb.perm,K.sb.kind,K.sb.failed⟩,K.pend,fun j hj=>(hl j hj).trans (K.left j hj)⟩
theorem Kp.mir{lo i j:Nat}{st':SortSt}(K:Kp rk kd a₀ lo st st')(hi:lo<=i)(hj:j<=a₀.size):Kp rk kd a₀ lo st (setArr st' (mirror (arrOf st') i j ((j - i) / 2))):=
 K.set (Array.perm_iff_toList_perm.mp (mirror_perm _ _ _ _)) fun k hk=>by rw[zgi (by rw[K.sb.size];exact hj),if_neg (by lia)]
theorem Up.more{arr:Array Keyed}{lo n:Nat}(h:Up rk arr lo (lo+n))(hn:1<=n)(hx:kA rk arr (lo+n - 1)<=kA rk arr (lo+n)):Up rk arr lo (lo+(n+1)):=fun i j h1 h2 h3=>by
 by_cases c:j<lo+n
 ·exact h i j h1 h2 c
 ·have:j=lo+n:=by lia
  subst this
  by_cases e:i=lo+n
  ·subst e;exact Nat.le_refl _
  ·exact Nat.le_trans (h i (lo+n - 1) h1 (by lia) (by lia)) hx
theorem wpS_asc{lo a nrem:Nat}{f:Nat->Option (Option Nat) × Nat->StateT SortSt Sem (ForInStep (Option (Option Nat) × Nat))}{Q:Option (Option Nat) × Nat->SortSt->Prop}(ha:1<=a)(han:a<=nrem)(hu:Up rk (arrOf st) lo (lo+a))
  (hf:∀ x n (P:ForInStep (Option (Option Nat) × Nat)->SortSt->Prop),1<=n->n<nrem->(kA rk (arrOf st) (lo+n)<kA rk (arrOf st) (lo+n - 1)->P (.done (none,n)) st)->(¬ kA rk (arrOf st) (lo+n)<kA rk (arrOf st) (lo+n - 1)->P (.yield (none,n+1)) st)->wpS (model prog w) A E s (f x (none,n)) P st)
  (h:∀ n,a<=n->n<=nrem->Up rk (arrOf st) lo (lo+n)->(n=nrem \/ kA rk (arrOf st) (lo+n)<kA rk (arrOf st) (lo+n - 1))->Q (none,n) st):wpS (model prog w) A E s (forIn [a:nrem] (none,a) f) Q st:=by
 refine wpS_forRange (I:=fun x c st'=>st'=st/\c=(none,x)/\Up rk (arrOf st) lo (lo+x)) ?_ ?_ ⟨rfl,rfl,hu⟩
 ·rintro x c st' x1 x2 ⟨rfl,rfl,u⟩
  exact hf x x _ (by lia) x2 (fun hl=>h x x1 (by lia) u (.inr hl)) fun hl=>⟨rfl,rfl,u.more (by lia) (by lia)⟩
 ·rintro c st' ⟨rfl,rfl,u⟩
  rw[show max a nrem=nrem by lia] at u ⊢
  exact h nrem han (Nat.le_refl _) u (.inl rfl)
noncomputable def Dn(rk:Keyed->Nat)(xs:Array Keyed)(lo hi:Nat):Prop:=∀ i j,lo<=i->i<=j->j<hi->kA rk xs j<=kA rk xs i
theorem Dn.more{arr:Array Keyed}{lo n:Nat}(h:Dn rk arr lo (lo+n))(hn:1<=n)(hx:kA rk arr (lo+n)<=kA rk arr (lo+n - 1)):Dn rk arr lo (lo+(n+1)):=fun i j h1 h2 h3=>by
 by_cases c:j<lo+n
 ·exact h i j h1 h2 c
 ·have:j=lo+n:=by lia
  subst this
  by_cases e:i=lo+n
  ·subst e;exact Nat.le_refl _
  ·exact Nat.le_trans hx (h i (lo+n - 1) h1 (by lia) (by lia))
theorem zcA{xs:Array Keyed}{i j:Nat}(hj:j<=xs.size)(he:∀ k,i<=k->k<j->kA rk xs k=kA rk xs (j - 1))(k:Nat):kA rk (mirror xs i j ((j - i) / 2)) k=kA rk xs k:=by
 rw[zgi hj]
 split
 ·rw[he _ (by lia) (by lia),he k (by lia) (by lia)]
 ·rfl
theorem Dn.turn{xs:Array Keyed}{lo m:Nat}(d:Dn rk xs lo (lo+m))(hz:lo+m<=xs.size):Up rk (mirror xs lo (lo+m) ((lo+m - lo) / 2)) lo (lo+m):=fun i j a b c=>by
 rw[zgi hz i,zgi hz j,if_pos ⟨a,by lia⟩,if_pos ⟨by lia,c⟩]
 exact d _ _ (by lia) (by lia) (by lia)
theorem zeH{i j:Nat}{Q:Unit->SortSt->Prop}(h:Q () (setArr st (mirror (arrOf st) i j ((j - i) / 2)))):wpS (model prog w) A E s (reverseSlice' i j) Q st:=wpS_modify h
theorem zgK{M:Model}{α:Type}{f:StateT SortSt Sem α}{Q:α->SortSt->Prop}{P:SortSt->Prop}{G:Prop}(main:(∀ st1,P st1->wpS M A E s f Q st1)->G)(tail:∀ st1,P st1->wpS M A E s f Q st1):G:=main tail
theorem wpS_run(R:Rk prog w A s kd D rk){lo nrem:Nat}{Q:Option Nat->SortSt->Prop}(B:Sb kd a₀ st)(hD:∀ x ∈ a₀,D x)(hn:lo+nrem<=a₀.size)(h1:1<=nrem)
  (h:∀ m st',Kp rk kd a₀ lo st st'->1<=m->m<=nrem->Up rk (arrOf st') lo (lo+m)->Q (some m) st'):wpS (model prog w) A E s (countRun' lo nrem) Q st:=by
 have hK:Kp rk kd a₀ lo st st:=⟨B,rfl,fun _ _=>rfl⟩
 refine wpS_bind (wpS_asc (rk:=rk) (lo:=lo) (Nat.le_refl 1) h1 (fun i j a b c=>(show i=j by lia) ▸ Nat.le_refl _) ?_ fun n n1 n2 u hor=>?_)
 ·intro x n P n1 n2 p1 p2
  refine wpS_bind (zdk R B hD (by lia) (by lia) ?_)
  dsimp only
  split
  ·rename_i hl;exact wpS_pure (p1 (by simpa using hl))
  ·rename_i hl;exact wpS_pure (p2 (by simpa using hl))
 dsimp only
 by_cases hnn:n=nrem
 ·rw[if_pos (by simpa using hnn)]
  exact wpS_pure (h n st hK n1 n2 u)
 rw[if_neg (by simpa using hnn)]
 have hlt:=hor.resolve_left hnn
 have up1:∀ m,Dn rk (arrOf st) lo (lo+n)->m=n+1->Dn rk (arrOf st) lo (lo+m):=fun m d e=>by
  subst e
  exact d.more n1 (Nat.le_of_lt hlt)
 refine' zgK (M:=model prog w) (A:=A) (E:=E) (s:=s) (Q:=Q) (P:=fun st1=>Kp rk kd a₀ lo st st1/\Dn rk (arrOf st1) lo (lo+(n+1))) (fun tail=>?_) ?_
 rotate_left
 by_cases hgt:n > 1
 rw[if_pos hgt]
 refine wpS_bind (zdk R B hD (by lia) (by lia) ?_)
 dsimp only
 by_cases hro:kA rk (arrOf st) lo<kA rk (arrOf st) (lo+n - 1)
 rw[decide_eq_true hro,if_pos rfl]
 exact wpS_pure (h n st hK n1 n2 u)
 rw[decide_eq_false hro,if_neg (by simp)]
 have hall:∀ k,lo<=k->k<lo+n->kA rk (arrOf st) k=kA rk (arrOf st) (lo+n - 1):=fun k k1 k2=>by
  have e1:=u lo k (Nat.le_refl _) k1 k2
  have e2:=u k (lo+n - 1) k1 (by lia) (by lia)
  lia
 refine wpS_bind (zeH ?_)
 have hz:lo+n<=(arrOf st).size:=by rw[B.size];lia
 have K1:=hK.mir (i:=lo) (j:=lo+n) (Nat.le_refl _) (by lia)
 have d1:Dn rk (mirror (arrOf st) lo (lo+n) ((lo+n - lo) / 2)) lo (lo+(n+1)):=by
  have:=up1 (n+1) (fun i j a b c=>by rw[hall i a (by lia),hall j (by lia) c];exact Nat.le_refl _) rfl
  intro i j a b c
  rw[zcA hz hall,zcA hz hall]
  exact this i j a b c
 exact tail _ ⟨K1,d1⟩
 rw[if_neg hgt]
 exact tail _ ⟨hK,up1 (n+1) (fun i j a b c=>by
  have:i=j:=by lia
  subst this
  exact Nat.le_refl _) rfl⟩
 rintro st1 ⟨K1,d1⟩
 ·skip
  refine wpS_bind (zf6 ?_)
  refine wpS_bind (wpS_mono (wpS_forRange (I:=fun x c st'=>∃ q,c=(none,x,q)/\Kp rk kd a₀ lo st st'/\Dn rk (arrOf st') lo (lo+x)/\q+1<=x/\∀ i,lo+x - (q+1)<=i->i<lo+x->kA rk (arrOf st') i=kA rk (arrOf st') (lo+x - 1))
   (Q:=fun c st'=>∃ m q,c=(none,m,q)/\n+1<=m/\m<=nrem/\Kp rk kd a₀ lo st st'/\Dn rk (arrOf st') lo (lo+m)/\q+1<=m/\∀ i,lo+m - (q+1)<=i->i<lo+m->kA rk (arrOf st') i=kA rk (arrOf st') (lo+m - 1)) ?step ?fin ⟨0,rfl,K1,d1,by lia,fun i i1 i2=>by congr 1;lia⟩) ?post)
  case fin=>
   rintro c st' ⟨q,rfl,K,d,q1,e⟩
   rw[show max (n+1) nrem=nrem by lia] at d q1 e ⊢
   exact⟨nrem,q,rfl,by lia,Nat.le_refl _,K,d,q1,e⟩
  case step=>
   rintro x c st' x1 x2 ⟨q,rfl,K,d,q1,e⟩
   dsimp only
   have hz':lo+x<=(arrOf st').size:=by rw[K.sb.size];lia
   refine wpS_bind (zdk R K.sb hD (by lia) (by lia) ?_)
   dsimp only
   by_cases hs:kA rk (arrOf st') (lo+x)<kA rk (arrOf st') (lo+x - 1)
   ·rw[decide_eq_true hs,if_pos rfl]
    have d2:=d.more (by lia) (Nat.le_of_lt hs)
    by_cases hq:q > 0
    ·rw[if_pos hq]
     refine wpS_bind (zeH (wpS_pure ⟨0,rfl,K.mir (by lia) (by lia),fun i j a b c=>?_,by lia,fun i i1 i2=>by congr 1;lia⟩))
     show kA rk (mirror (arrOf st') _ _ _) j<=kA rk (mirror (arrOf st') _ _ _) i
     rw[zcA hz' e,zcA hz' e]
     exact d2 i j a b c
    ·rw[if_neg hq]
     exact wpS_pure ⟨0,rfl,K,d2,by lia,fun i i1 i2=>by congr 1;lia⟩
   ·rw[decide_eq_false hs,if_neg (by simp)]
    refine wpS_bind (zdk R K.sb hD (by lia) (by lia) ?_)
    dsimp only
    by_cases hl:kA rk (arrOf st') (lo+x - 1)<kA rk (arrOf st') (lo+x)
    ·rw[decide_eq_true hl,if_pos rfl]
     exact wpS_pure ⟨x,q,rfl,x1,by lia,K,d,q1,e⟩
    ·rw[decide_eq_false hl,if_neg (by simp)]
     refine wpS_pure ⟨q+1,rfl,K,d.more (by lia) (by lia),by lia,fun i i1 i2=>?_⟩
     rw[show lo+(x+1) - 1=lo+x by lia]
     by_cases hi:i=lo+x
     ·subst hi;rfl
     ·rw[e i (by lia) (by lia)]
      lia
  case post=>
   rintro c st' ⟨m,q,rfl,m1,m2,K,d,q1,e⟩
   dsimp only
   have hz':lo+m<=(arrOf st').size:=by rw[K.sb.size];lia
   refine' zgK (M:=model prog w) (A:=A) (E:=E) (s:=s) (Q:=Q) (P:=fun st2=>Kp rk kd a₀ lo st st2/\Dn rk (arrOf st2) lo (lo+m)) (fun tail=>?_) ?_
   rotate_left
   by_cases hq:q > 0
   rw[if_pos hq]
   refine wpS_bind (zeH ?_)
   have K2:=K.mir (i:=lo+m - (q+1)) (j:=lo+m) (by lia) (by lia)
   have d2:Dn rk (mirror (arrOf st') (lo+m - (q+1)) (lo+m) ((lo+m - (lo+m - (q+1))) / 2)) lo (lo+m):=fun i j a b c=>by
    rw[zcA hz' e,zcA hz' e]
    exact d i j a b c
   exact tail _ ⟨K2,d2⟩
   rw[if_neg hq]
   exact tail _ ⟨K,d⟩
   rintro st2 ⟨K2,d2⟩
   ·skip
    refine wpS_bind (zeH ?_)
    have K3:=K2.mir (i:=lo) (j:=lo+m) (Nat.le_refl _) (by lia)
    refine wpS_bind (wpS_asc (rk:=rk) (lo:=lo) (by lia) m2 (d2.turn (Nat.le_trans (by lia) (Nat.le_of_eq K2.sb.size.symm))) ?_ fun m' m3 m4 u' _=>?_)
    ·intro x n P n1 n2 p1 p2
     refine wpS_bind (zdk R K3.sb hD (by lia) (by lia) ?_)
     dsimp only
     split
     ·rename_i hl;exact wpS_pure (p1 (by simpa using hl))
     ·rename_i hl;exact wpS_pure (p2 (by simpa using hl))
    ·exact wpS_pure (h m' _ K3 (by lia) m4 u')
theorem wpS_ins(R:Rk prog w A s kd D rk){lo n ok:Nat}{Q:Bool->SortSt->Prop}{st₀:SortSt}(K:Kp rk kd a₀ lo st₀ st)(hD:∀ x ∈ a₀,D x)(hn:lo+n<=a₀.size)(h1:1<=ok)(hok:ok<=n)(hu:Up rk (arrOf st) lo (lo+ok))
  (h:∀ st',Kp rk kd a₀ lo st₀ st'->Up rk (arrOf st') lo (lo+n)->Q true st'):wpS (model prog w) A E s (binarySort' lo n ok) Q st:=by
 refine wpS_bind (wpS_mono (wpS_forRange (I:=fun k c st'=>c=(none,())/\Kp rk kd a₀ lo st₀ st'/\Up rk (arrOf st') lo (lo+k))
  (Q:=fun c st'=>c=(none,())/\Kp rk kd a₀ lo st₀ st'/\Up rk (arrOf st') lo (lo+n)) ?step ?fin ⟨rfl,K,by rwa [show max ok 1=ok by lia]⟩) ?post)
 case post=>
  rintro c st' ⟨rfl,K,u⟩
  exact wpS_pure (h st' K u)
 case fin=>
  rintro c st' ⟨rfl,K,u⟩
  rw[show max (max ok 1) n=n by lia] at u
  exact⟨rfl,K,u⟩
 case step=>
  rintro k c st' k1 k2 ⟨rfl,K,u⟩
  refine wpS_bind (wpS_mono (wpS_forRange (I:=fun x c st''=>st''=st'/\∃ l r,c=(none,l,r)/\l<=r/\r<=k/\r - l<=k - x/\(∀ i,lo<=i->i<lo+l->kA rk (arrOf st') i<=kA rk (arrOf st') (lo+k))/\∀ i,lo+r<=i->i<lo+k->kA rk (arrOf st') (lo+k)<kA rk (arrOf st') i)
   (Q:=fun c st''=>st''=st'/\∃ l r,c=(none,l,r)/\l<=k/\(∀ i,lo<=i->i<lo+l->kA rk (arrOf st') i<=kA rk (arrOf st') (lo+k))/\∀ i,lo+l<=i->i<lo+k->kA rk (arrOf st') (lo+k)<kA rk (arrOf st') i) ?s2 ?f2 ⟨rfl,0,k,rfl,by lia,by lia,by lia,fun i _ _=>by lia,fun i _ _=>by lia⟩) ?p2)
  case f2=>
   rintro c st'' ⟨rfl,l,r,rfl,a1,a2,a3,a4,a5⟩
   have:l=r:=by lia
   subst this
   exact⟨rfl,l,l,rfl,a2,a4,a5⟩
  case s2=>
   rintro x c st'' _ hx ⟨rfl,l,r,rfl,a1,a2,a3,a4,a5⟩
   dsimp only
   by_cases hge:l ≥ r
   ·rw[if_pos hge]
    have:l=r:=by lia
    subst this
    exact wpS_pure ⟨rfl,l,l,rfl,a2,a4,a5⟩
   ·rw[if_neg hge]
    have m1:l<=(l+r) / 2:=by lia
    have m2:(l+r) / 2<r:=by lia
    have m4:(l+r) / 2 - l<=k - (x+1):=by lia
    have m5:r - ((l+r) / 2+1)<=k - (x+1):=by lia
    clear a1 a3
    generalize (l+r) / 2=m at *
    refine wpS_bind (zdk R K.sb hD (by lia) (by lia) ?_)
    dsimp only
    by_cases hl:kA rk (arrOf st'') (lo+k)<kA rk (arrOf st'') (lo+m)
    ·rw[decide_eq_true hl,if_pos rfl]
     exact wpS_pure ⟨rfl,l,_,rfl,m1,Nat.le_trans (Nat.le_of_lt m2) a2,m4,a4,fun i i1 i2=>Nat.lt_of_lt_of_le hl (u _ i (Nat.le_add_right _ _) i1 i2)⟩
    ·rw[decide_eq_false hl,if_neg (by simp)]
     exact wpS_pure ⟨rfl,_,r,rfl,m2,a2,m5,fun i i1 i2=>Nat.le_trans (u i (lo+m) i1 (Nat.le_of_lt_succ i2) (Nat.add_lt_add_left (Nat.lt_of_lt_of_le m2 a2) _)) (Nat.not_lt.mp hl),a5⟩
  case p2=>
   rintro c st'' ⟨rfl,l,r,rfl,a2,a4,a5⟩
   have hz:=K.sb.size
   have kb:=fun j=>kA_bub (rk:=rk) (xs:=arrOf st'') (src:=lo+k) (d:=lo+k - (lo+l)) (by lia) (by lia) j
   rw[show lo+k - (lo+k - (lo+l))=lo+l by lia] at kb
   refine wpS_bind (wpS_modify (wpS_pure ⟨rfl,K.set (Array.perm_iff_toList_perm.mp (bubble_perm _ _ _)) fun j hj=>?_,fun i j a b c=>?_⟩))
   ·refine(kb j).trans ?_
    rw[if_neg (by lia),if_neg (by lia)]
   ·refine Nat.le_trans (Nat.le_of_eq (kb i)) (Nat.le_trans ?_ (Nat.le_of_eq (kb j).symm))
    repeat' split
    all_goals first
     | lia
     | exact Nat.le_refl _
     | exact a4 _ (by lia) (by lia)
     | exact Nat.le_of_lt (a5 _ (by lia) (by lia))
     | exact u _ _ (by lia) (by lia) (by lia)
end
end L2

namespace L2
open PySem PySem.Spec PyProof.Rows
theorem zfW{prog:Program}{w:World}{A:Around}{E:Value->Shared->Prop}{s:Shared}{kd:SortKind}{D:Keyed->Prop}{rk:Keyed->Nat}{st:SortSt}{a₀:Array Keyed}(R:Rk prog w A s kd D rk){Q:Unit->SortSt->Prop}(B:Sb kd a₀ st)(hD:∀ x ∈ a₀,D x)(h2:1<=a₀.size)(h64:a₀.size<64)(hp:pendingOf st=#[])
  (h:∀ st',Sb kd a₀ st'->Up rk (arrOf st') 0 a₀.size->Q () st'):wpS (model prog w) A E s sortRuns' Q st:=by
 rw[sortRuns'_eq]
 refine wpS_bind (wpS_get ?_)
 dsimp only
 rw[B.size]
 have hmr:minRun' a₀.size a₀.size 0=a₀.size:=by
  obtain⟨n,e⟩:∃ n,a₀.size=n+1:=⟨a₀.size - 1,(Nat.sub_add_cancel h2).symm⟩
  rw[e] at h64 ⊢
  rw[minRun'_succ,if_pos h64]
 rw[hmr]
 refine wpS_bind (wpS_mono (wpS_forRange (I:=fun x c st'=>(x=0/\c=(none,0)/\st'=st) \/ (1<=x/\c=(none,a₀.size)/\Sb kd a₀ st'/\(pendingOf st').size<=1/\Up rk (arrOf st') 0 a₀.size))
  (Q:=fun c st'=>c=(none,a₀.size)/\Sb kd a₀ st'/\(pendingOf st').size<=1/\Up rk (arrOf st') 0 a₀.size) ?step ?fin (.inl ⟨rfl,rfl,rfl⟩)) ?post)
 case fin=>
  rintro c st' (⟨hx,_,_⟩ | ⟨_,q⟩)
  ·lia
  ·exact q
 case post=>
  rintro c st' ⟨rfl,B',hp',u'⟩
  dsimp only
  refine wpS_bind (wpS_mono (wpS_forRange (I:=fun _ c st''=>c=(none,())/\st''=st') (Q:=fun c st''=>c=(none,())/\st''=st') ?_ (fun _ _ hh=>hh) ⟨rfl,rfl⟩) ?_)
  ·rintro x c st'' _ _ ⟨rfl,rfl⟩
   refine wpS_bind (wpS_get ?_)
   rw[if_pos hp']
   exact wpS_pure ⟨rfl,rfl⟩
  ·rintro c st'' ⟨rfl,rfl⟩
   exact wpS_pure (h st'' B' u')
 case step=>
  rintro x c st' _ hx (⟨rfl,rfl,rfl⟩ | ⟨h1,rfl,B',hp',u'⟩)
  ·dsimp only
   rw[if_neg (Nat.not_le.mpr h2)]
   refine wpS_bind (wpS_run R B hD (by lia) (by lia) fun n st1 K1 n1 n2 u1=>?_)
   dsimp only
   by_cases hm:n<a₀.size
   rw[if_pos hm]
   refine wpS_bind (zf6 ?_)
   refine wpS_bind (wpS_ins R K1 hD (by lia) n1 (by lia) u1 fun st2 K2 u2=>?_)
   rw[if_neg (by simp)]
   have e:min (a₀.size - 0) a₀.size=a₀.size:=by lia
   generalize min (a₀.size - 0) a₀.size=N at u2 e ⊢
   rotate_left
   rw[if_neg hm]
   have e:n=a₀.size:=by lia
   have K2:=K1
   have u2:=u1
   generalize n=N at u2 e ⊢
   all_goals
    have hb:=(congrArg Array.back? (K2.pend.trans hp)).trans (rfl:(#[]:Array Run).back? = none)
    refine wpS_bind (wpS_get ?_)
    rw[hb]
    refine wpS_bind (wpS_modify (wpS_pure (.inr ⟨Nat.le_refl 1,by rw[e,Nat.zero_add],⟨K2.sb.perm,K2.sb.kind,K2.sb.failed⟩,?_,?_⟩)))
    ·show((pendingOf _).push _).size<=1
     rw[K2.pend,hp]
     exact Nat.le_refl 1
    ·rw[Nat.zero_add,e] at u2
     exact u2
  ·dsimp only
   rw[if_pos (Nat.le_refl _)]
   exact wpS_pure ⟨rfl,B',hp',u'⟩
end L2

namespace L2
open PySem PySem.Spec PyProof.Rows
noncomputable abbrev RwI:=List Int
noncomputable def rkR(rows:List RwI)(r:RwI):Nat:=rows.countP fun q=>decide (q<r)
theorem zdN{α:Type}{p q:α->Bool}:∀ {l:List α},(∀ x,p x=true->q x=true)->(∃ x ∈ l,p x=false/\q x=true)->l.countP p<l.countP q
 | [],_,h=>by obtain⟨x,hx,_⟩:=h;cases hx
 | a :: l,h,⟨x,hx,hp,hq⟩=>by
  rw[List.countP_cons,List.countP_cons]
  have m:l.countP p<=l.countP q:=List.countP_mono_left fun x _ hx=>h x hx
  rcases List.mem_cons.mp hx with e | hx
  ·subst e
   rw[if_neg (by simp[hp]),if_pos hq]
   lia
  ·have:=zdN (l:=l) h ⟨x,hx,hp,hq⟩
   by_cases ha:p a=true
   ·rw[if_pos ha,if_pos (h a ha)];lia
   ·rw[if_neg ha]
    lia
theorem rkR_lt{rows:List RwI}{r r':RwI}(hr:r ∈ rows):decide (rkR rows r<rkR rows r')=decide (r<r'):=by
 by_cases h:r<r'
 ·rw[decide_eq_true h]
  refine decide_eq_true (zdN (fun q hq=>?_) ⟨r,hr,?_,decide_eq_true h⟩)
  ·exact decide_eq_true (List.lt_trans (of_decide_eq_true hq) h)
  ·exact decide_eq_false (List.lt_irrefl r)
 ·rw[decide_eq_false h]
  refine decide_eq_false (Nat.not_lt.mpr (List.countP_mono_left fun q _ hq=>?_))
  refine decide_eq_true (Decidable.byContradiction fun hc=>h ?_)
  exact List.lt_of_le_of_lt (List.not_lt.mp hc) (of_decide_eq_true hq)
section
variable {prog:Program}{w:World}{A:Around}{E:Value->Shared->Prop}{s:Shared}
structure SrtH(prog:Program)(w:World)(HP:Heap->Prop)(vs:List Value)(kd:SortKind)(row:Value->RwI):Prop where
 keep:∀ {h h':Heap},HP h->(∀ b o,h.get? b=some o->o.cls=.type "tuple" -> h'.get? b=some o)->HP h'
 kind:∀ (A:Around) (s:Shared) (E:Value->Shared->Prop) (Q:SortKind->Shared->Prop),HP s.heap->2<=vs.length->Q kd s->wpAny (model prog w) A (keyKind' vs.toArray) Q E s
 lt:∀ (A:Around) (s:Shared),HP s.heap->∀ x ∈ vs,∀ y ∈ vs,∀ (E:Value->Shared->Prop) (Q:Bool->Shared->Prop),Q (decide (row x<row y)) s->wpAny (model prog w) A (keyLt' kd x y) Q E s
variable {HP:Heap->Prop}{vs:List Value}{kd:SortKind}{row:Value->RwI}
theorem SrtH.rk(H:SrtH prog w HP vs kd row)(h:HP s.heap):Rk prog w A s kd (fun x=>x.1 ∈ vs) (fun x=>rkR (vs.map row) (row x.1)):=
 ⟨fun x y hx hy E Q q=>H.lt A s h _ hx _ hy E Q (by rw[rkR_lt (List.mem_map.mpr ⟨_,hx,rfl⟩)] at q;exact q)⟩
theorem zip_all{xs:Array Keyed}(hp:xs.toList.Perm (vs.toArray.zip vs.toArray).toList):∃ out:List Value,(xs.map (·.2)).toList=out/\out.Perm vs/\out=xs.toList.map (·.1):=by
 rw[Array.toList_zip] at hp
 have h2:∀ p ∈ xs.toList,p.1=p.2:=fun p hx=>(mem_zip_self (hp.mem_iff.mp hx)).1
 refine⟨xs.toList.map (·.2),Array.toList_map,?_,List.map_congr_left fun p hx=>(h2 p hx).symm⟩
 have:=hp.map (·.2)
 rwa [List.map_snd_zip (Nat.le_refl _)] at this
theorem zeN{a:Addr}{n:Nat}{P:Fin->Shared->Prop}(H:SrtH prog w HP vs kd row)(ho:s.heap.get? a=some (seqObj "list" vs.toArray n))(hI:HP s.heap)(hl:vs.length<64)
  (h:∀ out:List Value,out.Perm vs->(out.map row).Pairwise (·<=·)->P (.done (.ret .none)) { s with heap:=sortedHeap s.heap a vs out.toArray}):wpAny (model prog w) A (Builtin.«list.sort» ⟨[.ref a],[]⟩) P E s:=by
 rw[list_sort_plain]
 have ha:a<s.heap.objs.size:=Heap.lt_size ho
 refine wpAny_bind (listItems_at ho rfl ?_)
 refine wpAny_bind (listUpdate_at ho rfl ?_ (by rw[sizeLine_eq];simp;lia) (by simp))
 obtain⟨e1,ho1⟩:∃ e1,(s.heap.update a (Obj.mapSeq fun _=>#[])).get? a=some (seqObj "list" #[] e1):=⟨_,get?_update_seq ho (fun _=>#[])⟩
 refine wpAny_bind (seqEpoch_at ho1 rfl ?_)
 refine wpAny_bind (wpAny_newTuple ?_ (by show vs.length<=_;rw[sizeLine_eq];lia))
 refine wpAny_bind (wpAny_newList ?_)
 refine wpAny_holding ?_
 have ho6:(((s.heap.update a (Obj.mapSeq fun _=>#[])).push (seqObj "tuple" vs.toArray 0)).push (seqObj "list" #[] 0)).get? a=some (seqObj "list" #[] e1):=by
  rw[Heap.get?_push_ne _ _ _ (by rw[size_push',Heap.size_update];exact Nat.ne_of_lt (Nat.lt_succ_of_lt ha)),Heap.get?_push_ne _ _ _ (by rw[Heap.size_update];exact Nat.ne_of_lt ha)]
  exact ho1
 show wpAny (model prog w) A _ P E { s with heap:=((s.heap.update a (Obj.mapSeq fun _=>#[])).push (seqObj "tuple" vs.toArray 0)).push (seqObj "list" #[] 0)}
 dsimp only
 have hI6:HP (((s.heap.update a (Obj.mapSeq fun _=>#[])).push (seqObj "tuple" vs.toArray 0)).push (seqObj "list" #[] 0)):=H.keep hI fun b o hb hc=>by
  have hne:b ≠ a:=fun e=>by subst e;rw[ho] at hb;cases hb;exact absurd (show Value.type "list" = Value.type "tuple" from hc) (fun z=>by injection z with z;exact absurd z (by decide))
  refine Heap.get?_push_of_some _ (Heap.get?_push_of_some _ ?_)
  rw[Heap.get?_update_ne _ _ _ _ hne]
  exact hb
 have fin:∀ st':SortSt,(arrOf st').toList.Perm (vs.toArray.zip vs.toArray).toList->((arrOf st').toList.map fun p=>row p.1).Pairwise (·<=·)->P (.done (.ret .none)) { s with heap:=sortedHeap s.heap a vs ((arrOf st').map (·.2))}:=fun st' hp hs=>by
  obtain⟨out,e1,e2,e3⟩:=zip_all hp
  have e4:(arrOf st').map (·.2)=out.toArray:=by apply Array.ext';rw[e1]
  rw[e4]
  refine h out e2 ?_
  rw[e3,List.map_map]
  exact hs
 have sz2:∀ st':SortSt,(arrOf st').toList.Perm (vs.toArray.zip vs.toArray).toList->((arrOf st').map (·.2)).size<=sizeLine+1:=fun st' hp=>by
  have:=hp.length_eq
  rw[Array.length_toList] at this
  rw[Array.size_map,this,sizeLine_eq]
  simp
  lia
 by_cases h2:vs.toArray.size<2
 ·rw[if_pos h2,if_pos h2]
  refine wpAny_bind (wpAny_pure ?_)
  rw[StateT.run_pure]
  refine wpAny_bind (wpAny_pure ?_)
  dsimp only
  refine wpAny_bind (seqEpoch_at ho6 rfl ?_)
  refine wpAny_bind (listUpdate_at ho6 rfl ?_ (by simp) (sz2 (SortSt.mk' _ (vs.toArray.zip vs.toArray) #[] 7 none) (.refl _)))
  simp only[bne_self_eq_false,Bool.false_eq_true,if_false]
  refine wpAny_pure (fin (SortSt.mk' _ (vs.toArray.zip vs.toArray) #[] 7 none) (.refl _) ?_)
  have hz:((vs.toArray.zip vs.toArray).toList.map fun p:Keyed=>row p.1).length<2:=by
   rw[List.length_map,Array.toList_zip]
   simpa using h2
  show((vs.toArray.zip vs.toArray).toList.map fun p:Keyed=>row p.1).Pairwise (·<=·)
  match hq:((vs.toArray.zip vs.toArray).toList.map fun p:Keyed=>row p.1) with
  | []=>exact .nil
  | [x]=>exact List.pairwise_singleton _ _
  | _ :: _ :: _=>rw[hq] at hz;simp at hz;lia
 ·rw[if_neg h2,if_neg h2]
  refine wpAny_bind (H.kind _ { s with heap:=((s.heap.update a (Obj.mapSeq fun _=>#[])).push (seqObj "tuple" vs.toArray 0)).push (seqObj "list" #[] 0)} _ _ hI6 (by simpa using h2) ?_)
  refine wpAny_bind (wpAny_mono (zfW (a₀:=vs.toArray.zip vs.toArray) (st:=SortSt.mk' kd (vs.toArray.zip vs.toArray) #[] 7 none) (Q:=fun _ st'=>Sb kd (vs.toArray.zip vs.toArray) st'/\((arrOf st').toList.map fun p=>row p.1).Pairwise (·<=·))
   (H.rk (s:={ s with heap:=((s.heap.update a (Obj.mapSeq fun _=>#[])).push (seqObj "tuple" vs.toArray 0)).push (seqObj "list" #[] 0)}) hI6) ⟨.refl _,rfl,rfl⟩ (fun x hx=>?_) (by simp at h2 ⊢;lia) (by simpa using hl) rfl fun st' B u=>⟨B,?_⟩) ?_ fun _ _ e=>e)
  ·have hx':x ∈ vs.zip vs:=by rw[<- Array.mem_toList_iff,Array.toList_zip] at hx;exact hx
   exact(mem_zip_self hx').2
  ·rw[List.pairwise_map,List.pairwise_iff_getElem]
   intro i j hi hj hij
   have hz:=B.size
   rw[Array.length_toList] at hi hj
   have:=u i j (Nat.zero_le _) (by lia) (by lia)
   rw[kA_at hi,kA_at hj] at this
   rw[Array.getElem_toList,Array.getElem_toList]
   have hm:(arrOf st')[j] ∈ (vs.toArray.zip vs.toArray).toList:=B.perm.mem_iff.mp (Array.mem_toList_iff.mpr (Array.getElem_mem hj))
   rw[Array.toList_zip] at hm
   refine List.not_lt.mp fun hc=>?_
   have h3:=rkR_lt (rows:=vs.map row) (r':=row (arrOf st')[i].1) (List.mem_map.mpr ⟨_,(mem_zip_self hm).2,rfl⟩)
   rw[decide_eq_true hc] at h3
   have:=of_decide_eq_true h3
   lia
  ·rintro⟨⟨⟩,st'⟩ s' ⟨rfl,B,hs⟩
   dsimp only at B hs ⊢
   refine wpAny_bind (seqEpoch_at ho6 rfl ?_)
   refine wpAny_bind (listUpdate_at ho6 rfl ?_ (by simp) (sz2 st' B.perm))
   have hf:=B.failed
   simp only[bne_self_eq_false,Bool.false_eq_true,if_false]
   rw[hf]
   exact wpAny_pure (fin st' B.perm hs)
theorem zgR{l:Addr}{Q:Value->Shared->Prop}(H:SrtH prog w HP vs kd row)(hl:s.heap.IsList l vs.toArray)(hI:HP s.heap)(hz:vs.length<64)
  (h:∀ out:List Value,out.Perm vs->(out.map row).Pairwise (·<=·)->Q (.ref (s.heap.objs.size+1)) { s with heap:=sortedAll s.heap vs out.toArray}):wpAny (model prog w) A (call (.builtin "sorted") [.ref l]) Q E s:=by
 refine Calls.call_function_entry kind_sorted plain_sorted entry_sorted (args_sorted1 _) ?_
 unfold Builtin.«sorted»
 have hz':vs.length<=sizeLine:=by rw[sizeLine_eq];lia
 refine wpAny_bind (m:=checkCount "sorted" 1 1 _) (wpAny_pure ?_)
 refine wpAny_bind (collect_list hl ?_ hz')
 refine wpAny_bind (wpAny_newList ?_ hz')
 have hsz:((s.heap.push (seqObj "list" #[] 0)).update s.heap.objs.size (Obj.mapSeq (· ++ vs.toArray))).objs.size=s.heap.objs.size+1:=by
  rw[Heap.size_update,size_push']
 have hoL:(((s.heap.push (seqObj "list" #[] 0)).update s.heap.objs.size (Obj.mapSeq (· ++ vs.toArray))).push (seqObj "list" vs.toArray 0)).get? (s.heap.objs.size+1)=some (seqObj "list" vs.toArray 0):=by
  rw[<- hsz];exact Heap.get?_push_size _ rfl
 have hI2:HP (((s.heap.push (seqObj "list" #[] 0)).update s.heap.objs.size (Obj.mapSeq (· ++ vs.toArray))).push (seqObj "list" vs.toArray 0)):=H.keep hI fun b o hb _=>by
  refine Heap.get?_push_of_some _ ?_
  rw[Heap.get?_update_ne _ _ _ _ (Nat.ne_of_lt (Heap.lt_size hb))]
  exact Heap.get?_push_of_some _ hb
 show wpAny _ _ _ _ _ { s with heap:=((s.heap.push (seqObj "list" #[] 0)).update s.heap.objs.size (Obj.mapSeq (· ++ vs.toArray))).push (seqObj "list" vs.toArray 0)}
 rw[hsz]
 refine wpAny_bind (wpAny_holding (wpAny_call_entry slot_list_sort ⟨_,hoL,rfl⟩ entry_list_sort (zeN H hoL hI2 hz fun out p1 p2=>⟨_,rfl,?_⟩) (args_list_sort _)))
 exact wpAny_pure ⟨_,rfl,h out p1 p2⟩
end
end L2

namespace L2
open PySem PySem.Spec PyProof.Rows
theorem zfs:∀ {as:List Addr} {us:List Value},Vals (as.map V.ref) us->us=as.map Value.ref
 | [],_,.nil=>rfl
 | a :: as,_,.cons h t=>by
  cases h
  rw[List.map_cons,zfs t]
theorem zfi:∀ as:List Addr,Vals (as.map V.ref) (as.map Value.ref)
 | []=>.nil
 | a :: as=>.cons rfl (zfi as)
noncomputable def unR:Value->Addr
 | .ref a=>a
 | _=>default
theorem perm_refs{as:List Addr}{out:List Value}(h:out.Perm (as.map Value.ref)):∃ as':List Addr,as'.Perm as/\out=as'.map Value.ref:=by
 refine⟨out.map unR,?_,?_⟩
 ·have:=h.map unR
  rwa [List.map_map,show(unR ∘ Value.ref)=id from rfl,List.map_id] at this
 ·rw[List.map_map]
  refine(List.map_id out).symm.trans (List.map_congr_left fun v hv=>?_)
  obtain⟨a,_,rfl⟩:=List.mem_map.mp (h.mem_iff.mp hv)
  rfl
end L2

namespace L3
open PySem PySem.Spec PyProof.Rows L2
noncomputable def xPop(i:Nat):FXE:=fun δ=>((oAt i δ).bind lOf).bind fun ds=>(ds[ds.length - 1]?).map fun d=>(d,δ.set i (some (.obj (.lst ds.dropLast))))
noncomputable def xCO(i:Nat)(g:GM)(fs:FXA):FXE:=fun δ=>(oAt i δ).bind fun _=>(fs δ).bind fun p=>(oAt i p.2).bind fun o=>(g o p.1).map fun q=>(q.1,p.2.set i (some (.obj q.2)))
noncomputable def zgg(i:Nat)(fe:FE):FS:=fun δ=>(fe δ).bind fun r=>match r with
 | .own ds=>some (.nx (δ.set i (some (.obj (.lst ds)))))
 | _=>none
theorem zev{o:OT}{ds:List D}(h:lOf o=some ds):o=.lst ds:=by
 cases o <;> first | (cases h;rfl) | (cases h)
section
variable {X:Cx}{e:Expr}{es:List Expr}{pos pos' p p0 apos cpos:Pos}{fa fb fx:FXE}{fs:FXA}{fe:FE}{x y:Str}{tg:Expr}{tgf:FG}
theorem xpop(i:Nat)(hN:X.N[i]? = some x:=by rfl)(hv:Vis X.env.scope x:=by first | exact Or.inl rfl | exact Or.inr (Or.inl rfl) | exact Or.inr (Or.inr rfl))(hd:(x == ("__debug__" : Str))=false:=by decide)(hcd:(x == ("__classdict__" : Str))=false:=by decide)
  (hbase:attributeBase (.Name x p) "pop" X.env (eval (.Name x p) X.env)=eval (.Name x p) X.env:=by rfl) (hline:(apos.endLine == cpos.line)=true:=by rfl):VX X (.Call (.Attribute (.Name x p) "pop" apos) [] [] cpos) (xPop i):=by
 refine⟨_,⟨pe_bm0 PySem.F.plainAttrs_list PySem.F.slot_list_pop PySem.F.type_list_pop mt_pop (wv i hN hv hd hcd).h hbase hline⟩,fun B F H σ δ d δ' Q s q k=>?_⟩
 obtain⟨ds,q1,q⟩:=bind_some q
 obtain⟨o,q0,q1⟩:=bind_some q1
 obtain⟨d',q2,q⟩:=map_some q
 cases q
 cases zev q1
 obtain⟨v,h1,A,t,n,h⟩:=s.ent i _ (zaz q0)
 cases t with
 | @lst l vs _ h2 h3=>
  have fl:=(h l (by simp)).1
  obtain⟨z,hz,rz⟩:=h3.get q2
  refine⟨_,h1,.inl ⟨rfl,vs,SqL.of h2⟩,l,vs,z,rfl,rfl,h2,by rw[h3.length];exact hz,?_⟩
  obtain⟨z1,z2⟩:=s.chg (o':=.lst ds.dropLast) (H':=upd H l (.lst vs.dropLast)) (F':=F) (zaz q0) h1 (.lst h2 h3) ⟨Same.refl _,fun b u hb=>by
    rw[zaj fun z=>by subst z;rw[fl] at hb;cases hb]
    exact s.fh _ _ hb,fun b u hb=>by
    obtain⟨z1,z2⟩:=zaq hb
    rw[zaj fun z=>z1 (by simp[z])]
    exact z2,fun _ _ _ _=>rfl⟩
   (.lst zag h3.dropLast) (by simp) fun b hb=>by
    simp at hb
    subst hb
    exact⟨fl,zbh (by simp)⟩
  exact k z F _ z1 z2 rz
theorem xco{CX:CXT}{k j:Nat}{f:Addr}{fd:FuncData}{ps:List Str}{st:Stmt}{E:XK}{g:GM}(i:Nat)(F:FnOk X.prog X.w X.K X.mg X.base CX k f fd ps (spM X.K g))(D:Def X.K X.mg y st ps f fd)(hr:Room j X.A)(hg:Gl X y)(hx:zbM CX X E)
  (ha:VXA X es fs) (hjk:k<=j:=by decide) (hdb:(y == ("__debug__" : Str))=false:=by decide) (h2:es.all zak=true:=by rfl)
  (hN:X.N[i]? = some x:=by rfl) (hv:Vis X.env.scope x:=by first | exact Or.inl rfl | exact Or.inr (Or.inl rfl) | exact Or.inr (Or.inr rfl)) (hd:(x == ("__debug__" : Str))=false:=by decide) (hcd:(x == ("__classdict__" : Str))=false:=by decide) :
  VX X (.Call (.Name y p) (.Name x p0 :: es) [] pos) (xCO i g fs):=by
 obtain⟨t,w,m⟩:=ha.h
 refine⟨_,wcl F D hr hg hx (wac (wv i hN hv hd hcd) w rfl) hjk hdb rfl h2,fun B F H σ δ d δ' Q s q kk=>?_⟩
 obtain⟨o0,q0,q⟩:=bind_some q
 obtain⟨p1,q1,q⟩:=bind_some q
 obtain⟨o,q2,q⟩:=bind_some q
 obtain⟨r,q3,q⟩:=map_some q
 cases q
 obtain⟨v,h1,_⟩:=s.ent i _ (zaz q0)
 refine⟨v,h1,m B F H σ δ p1.1 p1.2 _ s q1 fun vs F1 H1 s1 y1 r1=>?_⟩
 obtain⟨v',h1',A,t,n,h⟩:=s1.ent i _ (zaz q2)
 rw[h1] at h1'
 cases h1'
 rw[List.append_nil]
 refine⟨v,vs,F1,o,A,p1.1,r.1,r.2,rfl,s1.fh,t,n,fun a ha=>(h a ha).1,r1,q3,fun z F' H' A' ch t' n' f' rz=>?_⟩
 obtain⟨z1,z2⟩:=s1.chg (zaz q2) h1 t ch t' n' f'
 exact kk z F' H' z1 (y1.trans z2) rz
theorem sSetL'{i:Nat}(h0:0<i)(hN:X.N.Nodup)(hi:X.N[i]? = some x)(hx:Loc X.env.scope x)(he:VE X e fe)(hs:swapsWith e (some (.Name x pos')) pos.line X.env=pure false:=by rfl)(hf:X.fn x=true \/ X.env.scope.names.lookup x=some .local:=by first | exact .inl rfl | exact .inr rfl | assumption) :
  VS X (.Assign [.Name x pos'] e pos) (zgg i fe):=by
 obtain⟨t,w,m⟩:=he.h
 refine⟨_,sset hN hi hx w hs hf,fun B F H σ δ out DD s q k=>?_⟩
 obtain⟨r,q1,q⟩:=bind_some q
 cases r with
 | own ds=>
  cases q
  refine m B F H σ δ _ _ s q1 fun v F' H' x z=>k _ F' H' (s.putO x i h0 ?_) (.of x s.bh)
  obtain⟨l,vs,e,g0,g1,rs,g2⟩:=z
  subst e
  exact⟨⟨l,rfl⟩,[l],.lst g1 rs,by simp,fun a ha=>by simp at ha;subst ha;exact⟨g2,g0⟩⟩
 | _=>cases q
end
noncomputable abbrev FXO:=En->Option (Option Int × En)
noncomputable def SemXO(K:PySem.W.Frag)(t:TO)(f:FXO):Prop:=∀ (B:Bd) (F H:Hp) (σ:Sg) (δ:En) (o:Option Int) (δ':En) (Q:Option Int->Hp->Prop),RS K B F H σ δ->f δ=some (o,δ')->(∀ F' H',RS K B F' H' σ δ'->FX B F F'->Q o H')->t σ H Q
structure VXO(X:Cx)(e:Option Expr)(f:FXO):Prop where
 h:∃ t,WO X e t/\SemXO X.K t f
section
variable {X:Cx}{e tg iter:Expr}{lo hi:Option Expr}{fx:FXE}{fl fu:FXO}{pos p2:Pos}{tgf:FG}{f:FS}{body:List Stmt}
end
end L3

namespace L2
open PySem PySem.Spec PyProof.Rows
section
variable {prog:Program}{w:World}{A:Around}{E:Value->Shared->Prop}{s:Shared}
set_option maxRecDepth 100000
theorem init_rev{R:Result->Shared->Prop}{I l S:Addr}{items:Array Value}(hh:A.handled=none)(hne:l ≠ I)(hit:s.heap.IsRevIter I l ((items.size:Int) - 1))(hl:s.heap.IsList l items)(hn:items.size<=sizeLine)
  (hS:s.heap.get? S=some { cls:=.type "list",data:=.seq #[]}) (hSI:S ≠ I) (hSl:S ≠ l)
  (hR:∀ s' acc c',(∀ b o,b ≠ I->b ≠ S->s.heap.get? b=some o->s'.heap.get? b=some o)->s'.gens=s.gens->s'.drawn=s.drawn->s'.os=s.os->s'.heap.get? S=some { cls:=.type "list",data:=.seq acc c'}->ItemsOf (fun i v=>items[items.size - 1 - i]? = some v) acc items.size->R (.ok (.ret .none)) s') :
  wpAny (model prog w) A.in1 (Builtin.«list.__init__» ⟨[.ref S,.ref I],[]⟩)
   (fun fin s'=>match fin with | .done f=>R (.ok f) s' | .again c'=>c'.quiet=true/\codeAny (model prog w) A c' R s') (fun e s'=>R (.error e) s') s:=by
 show wpAny _ _ (do let old <- Builtin.List.listItems (.ref S);Builtin.List.listUpdate (.ref S) (fun _=>#[]);letGo old.toList.reverse;Builtin.List.listExtendWith (.ref S) (.ref I) .none) _ _ s
 refine wpAny_bind ?_
 unfold Builtin.List.listItems
 refine wpAny_bind (wpAny_seqItems hS rfl (wpAny_pure ?_))
 show wpAny _ _ (updateSeq S (fun _=>#[]) >>= fun _=>letGo (#[]:Array Value).toList.reverse >>= fun _=>Builtin.List.listExtendWith (.ref S) (.ref I) .none) _ _ s
 refine wpAny_bind (wpAny_updateSeq hS rfl ?_)
 have hS₂:=Heap.get?_update_self (Obj.mapSeq (fun _=>(#[]:Array Value))) hS rfl
 have oth:∀ b o,b ≠ S->s.heap.get? b=some o->(s.heap.update S (Obj.mapSeq (fun _=>(#[]:Array Value)))).get? b=some o:=
  fun b o hb e=>(Heap.get?_update_other _ _ (Ne.symm hb)).trans e
 refine wpAny_bind (wpAny_letGo ?_)
 generalize s.heap.update S (Obj.mapSeq (fun _=>(#[]:Array Value)))=H at hS₂ oth
 have hit':H.IsRevIter I l ((items.size:Int) - 1):=hit.at fun o e=>oth _ o (Ne.symm hSI) e
 have hl':H.IsList l items:=hl.at fun o e=>oth _ o (Ne.symm hSl) e
 unfold Builtin.List.listExtendWith
 refine wpAny_bind (wpAny_typeOf (s:={ s with heap:=H}) hit'.typeIs ?_)
 have h1:Builtin.List.listSameRef (.ref S) (.ref I)=false:=by
  unfold Builtin.List.listSameRef
  simp
  exact hSI
 have h2:(Value.type "list_reverseiterator" == Value.type "list")=false:=by decide
 have h3:(Value.type "list_reverseiterator" == Value.type "tuple")=false:=by decide
 simp only[h1,h2,h3,Bool.or_false,Bool.false_eq_true,if_false]
 refine wpAny_bind (wpAny_pyIter_revIter hit' ?_)
 refine wpAny_bind (wpAny_holding ?_)
 refine hint_rev (s:={ s with heap:=H}) hit' ?_
 rw[if_neg (by decide)]
 have hSf:S ∉ [I,l]:=by simp[hSI,hSl]
 have st0:0<=items.size/\H.IsRevIter I l ((items.size:Int) - 1 - ((0:Nat):Int))/\H.IsList l items:=⟨Nat.zero_le _,by simpa using hit',hl'⟩
 refine wpAny_pure ⟨plainId_quiet F.plain_extend_loop _,codeAny_extend_loopS (Walks.listRev (A:=A.in1) hh I l hne items).toS hn _ hSf _ items.size 0 _ _ _ rfl (Nat.zero_le _) st0 hS₂ (ItemsOf.nil _) fun s' acc' c' hm hS' hacc=>?_⟩
 refine hR s' acc' c' (fun b ob hb hb2 e=>hm.heap b ob (fun hc=>?_) (oth b ob hb2 e)) hm.gens hm.drawn hm.os hS' hacc
 rcases List.mem_cons.mp hc with h | h
 ·exact hb2 h
 ·exact hb (List.mem_singleton.mp h)
theorem zew{Q:Value->Shared->Prop}{I l:Addr}{items:Array Value}(hh:A.handled=none)(hne:l ≠ I)(hit:s.heap.IsRevIter I l ((items.size:Int) - 1))(hl:s.heap.IsList l items)(hsz:items.size<=sizeLine)
  (h:∀ (h':Heap) (tk c:Nat) (acc:Array Value),(∀ b o,b ≠ I->s.heap.get? b=some o->h'.get? b=some o)->h'.get? s.heap.objs.size=some { cls:=.type "list",data:=.seq acc c}->ItemsOf (fun i v=>items[items.size - 1 - i]? = some v) acc items.size->Q (.ref s.heap.objs.size) { s with heap:=h',toks:=tk}) :
  wpAny (model prog w) A (call (.type "list") [.ref I]) Q E s:=by
 have lt:∀ a o,s.heap.get? a=some o->s.heap.objs.size ≠ a:=fun a o e=>Nat.ne_of_gt (Heap.lt_size e)
 obtain⟨oI,eI,_⟩:=id hit
 obtain⟨oL,eL,_⟩:=id hl
 refine callType_codes (Q₁:=fun obj s₁=>obj=.ref s.heap.objs.size/\s₁={ s with heap:=s.heap.push { cls:=.type "list",data:=.seq #[]}}) F.called_list (F.typeCall_list_1 _) F.entry_list_init
  (code_list_new _ ⟨rfl,rfl⟩) fun obj s₁ h₁=>?_
 obtain⟨rfl,rfl⟩:=h₁
 have hS:(s.heap.push { cls:=.type "list",data:=.seq #[]}).get? s.heap.objs.size=some { cls:=.type "list",data:=.seq #[]}:=Heap.get?_push_size _ rfl
 refine⟨⟨_,hS,rfl⟩,F.args_list_init_2 _ _,init_rev (A:=A.in1) (I:=I) (l:=l) (items:=items) (s:={ s with heap:=s.heap.push { cls:=.type "list",data:=.seq #[]}}) hh hne (hit.at fun o e=>Heap.get?_push_of_some _ e) (hl.at fun o e=>Heap.get?_push_of_some _ e) hsz hS (lt _ _ eI) (lt _ _ eL) fun s' acc c' hk hg hd hos hS' hacc=>⟨rfl,?_⟩⟩
 obtain⟨h',g',d',tk',os'⟩:=s'
 cases (show g'=s.gens from hg)
 cases (show d'=s.drawn from hd)
 cases (show os'=s.os from hos)
 exact h h' tk' c' acc (fun b o hb e=>hk b o hb (Ne.symm (lt _ _ e)) (Heap.get?_push_of_some _ e)) hS' hacc
end
section
variable {X:Cx}{e tg:Expr}{t:TE}{p p1 pos pos1:Pos}
noncomputable def tLRv(K:PySem.W.Frag)(t:TE):TE:=fun σ H Q=>t σ H fun x H1=>∃ a xs,x=.ref a/\SqL K H1 a xs/\∀ q,H1 q=none->Q (.ref q) (upd H1 q (.lst xs.reverse))
theorem pe_lrv(hc:X.calm=true)(he:PE X e t)(hg:Gl X "list")(hm:X.mg "list" = none)(hv:bootBuiltins "list" = some (.type "list"))(hg1:Gl X "reversed")(hm1:X.mg "reversed" = none)(hv1:bootBuiltins "reversed" = some (.type "reversed"))
  (h1:starEach [e] X.env=(false,eval e X.env) :: starEach [] X.env) (h2:starEach [Expr.Call (.Name "reversed" p1) [e] [] pos1] X.env=(false,eval (.Call (.Name "reversed" p1) [e] [] pos1) X.env) :: starEach [] X.env) :
  PE X (.Call (.Name "list" p) [.Call (.Name "reversed" p1) [e] [] pos1] [] pos) (tLRv X.K t):=by
 intro pins s σ H Q I h
 refine wpAny_Call_Name_kw (zcm I hg hm hv ?_ (by decide) (by decide))
 refine PyProof.Rows.callWith_type1 ?_ h2 rfl
 rw[h2]
 refine Calls.spliced_cons (rest:=backTo pos (starEach [] X.env)) ?_
 refine wpAny_Call_Name_kw (zcm I hg1 hm1 hv1 ?_ (by decide) (by decide))
 refine PyProof.Rows.callWith_type1 ?_ h1 rfl
 refine thn (zer he zgv h1 pos1 pins s σ H (one fun x H1=>∃ a xs,x=.ref a/\SqL X.K H1 a xs/\∀ q,H1 q=none->Q (.ref q) (upd H1 q (.lst xs.reverse))) I ?_) ?_
 ·exact(show t σ H _ from h)
 ·rintro us s1 ⟨xs,H1,I1,r1,qx⟩
  obtain⟨x,rfl,a,vs,rfl,hq,kk⟩:=zeE qx
  cases r1 with
  | cons r1 rn=>
   cases rn
   cases r1
   obtain⟨its,rv,pl,hz⟩:=I1.list hq
   have hs:its.toArray.size<=sizeLine:=by have:=rv.length;simp;lia
   have hl:=pl.isList
   have hlt:a<s1.heap.objs.size:=by obtain⟨o,e,_⟩:=hl;exact Heap.lt_size e
   refine call_reversed_list hl ?_
   refine Calls.spliced_nil ?_
   refine zew (I:=s1.heap.objs.size) (l:=a) (items:=its.toArray) (I.ok.hd hc) (Nat.ne_of_lt hlt) ⟨_,Heap.get?_push_size _ rfl,rfl,rfl⟩ (hl.at fun o e=>Heap.get?_push_of_some _ e) hs fun h' tk c acc old hS ha=>?_
   have old':∀ b o,s1.heap.get? b=some o->h'.get? b=some o:=fun b o e=>old b o (Nat.ne_of_lt (Heap.lt_size e)) (Heap.get?_push_of_some _ e)
   have hle:s1.heap.objs.size<=(s1.heap.push { cls:=.type "list_reverseiterator",data:=.fields #[.ref a,.int ((its.toArray.size:Int) - 1) 0]}).objs.size:=by rw[Heap.size_push];exact Nat.le_succ _
   refine⟨.ref _,_,I1.laid (t':=tk) (o:=.lst vs.reverse) old' ?_ ⟨?_,acc.toList,c,rev_vals rv ha,?_⟩,rfl,kk _ (I1.hok.fresh ?_)⟩
   ·rw[Heap.size_push];exact Nat.le_succ _
   ·rw[List.length_reverse];exact hz
   ·simpa using hS
   ·rw[Heap.size_push];exact Nat.le_succ _
theorem op_fdivB:OpR X (binaryOp .FloorDiv) (rI (fun _ j=>0<j/\j<18446744073709551616) fun i j=>.int (i / j)):=opI fun i j _ _ _ _ _ hc q=>by
 have h1:(0:Int)<j:=hc.1
 have h2:j<18446744073709551616:=hc.2
 refine floordiv_int (by lia) (by rw[Int.fdiv_eq_ediv_of_nonneg i (by lia)];exact q) (.inl (PyProof.noPylong_of_log2 ?_))
 refine Nat.lt_of_lt_of_le ((Nat.log2_lt (by lia)).mpr (show j.natAbs<2 ^ 64 by lia)) (by decide)
end
end L2
namespace L3
open PySem PySem.Spec PyProof.Rows L2
noncomputable def gLstRev:Ent->Option Ent:=fun x=>(asL x).bind fun ds=>some (.own ds.reverse)
noncomputable def gDivB:=pI (fun _ j=>0<j/\j<18446744073709551616) fun i j=>.int (i / j)
section
variable {X:Cx}{e tg:Expr}{fe:FE}{p p1 pos pos1:Pos}
theorem vLstRev(he:VE X e fe)(hg:Gl X "list")(hm:X.mg "list" = none)(hv:bootBuiltins "list" = some (.type "list"))(hg1:Gl X "reversed")(hm1:X.mg "reversed" = none)(hv1:bootBuiltins "reversed" = some (.type "reversed"))(hc:X.calm=true:=by rfl)(h1:zak e=true:=by rfl) :
  VE X (.Call (.Name "list" p) [.Call (.Name "reversed" p1) [e] [] pos1] [] pos) (ex1 gLstRev fe):=by
 obtain⟨t,w,m⟩:=he.h
 refine⟨_,⟨pe_lrv hc w.h hg hm hv hg1 hm1 hv1 (zal h1) (zal rfl)⟩,fun B F H σ δ res Q s q k=>?_⟩
 obtain⟨en,q1,q⟩:=bind_some q
 refine m B F H σ δ en _ s q1 fun v F1 H1 x1 r1=>?_
 obtain⟨ds,q2,q3⟩:=bind_some q
 cases q3
 obtain⟨l,vs,rfl,hs,rs⟩:=r1.toL x1.fh q2
 refine⟨l,vs,rfl,hs,fun r hr=>?_⟩
 exact k _ F1 _ (x1.trans (Ex.lay x1.fh hr)) ⟨r,_,rfl,x1.hh.free hr,zag,rs.rev,x1.fh.free hr⟩
theorem o_divB:OpD X (binaryOp .FloorDiv) gDivB:=⟨_,op_fdivB,semI (fun _ _ h=>h) fun _ _ _=>.int _⟩
end
end L3

namespace L2
open PySem PySem.Spec PyProof.Rows
section
variable {X:Cx}{e:Expr}{p p1 pos pos1:Pos}{t:TE}
theorem zgI:∀ (n:Nat) (acc:List Value) (i:Int),acc.length=n->(∀ (j:Nat) (v:Value),acc[j]? = some v->∃ t,v=.int (i+j) t)->Vals ((List.range n).map fun(k:Nat)=>V.int (i+k)) acc
 | 0,[],_,_,_=>.nil
 | 0,_ :: _,_,h,_=>by cases h
 | _+1,[],_,h,_=>by cases h
 | n+1,v :: acc,i,hl,h=>by
  rw[List.range_succ_eq_map,List.map_cons,List.map_map]
  refine .cons ?_ ?_
  ·obtain⟨t,e⟩:=h 0 v rfl
   exact⟨t,e⟩
  ·have:=zgI n acc (i+1) (by simpa using hl) fun j w hw=>by
    obtain⟨t,e⟩:=h (j+1) w (by simpa using hw)
    exact⟨t,by rw[e];congr 1;lia⟩
   have e2:((fun(k:Nat)=>V.int (i+k)) ∘ Nat.succ)=fun(k:Nat)=>V.int (i+1+k):=by
    funext k
    show V.int (i+((k+1:Nat):Int))=V.int (i+1+k)
    congr 1
    lia
   rw[e2]
   exact this
noncomputable def tLR(t:TE):TE:=fun σ H Q=>t σ H fun x H1=>∃ n:Int,x=.int n/\0<=n/\n<=1000/\∀ q,H1 q=none->Q (.ref q) (upd H1 q (.lst ((List.range n.toNat).map fun(k:Nat)=>V.int (0+k))))
theorem pe_lr(hc:X.calm=true)(he:PE X e t)(hg:Gl X "list")(hm:X.mg "list" = none)(hv:bootBuiltins "list" = some (.type "list"))(hg1:Gl X "range")(hm1:X.mg "range" = none)
  (h1:starEach [e] X.env=(false,eval e X.env) :: starEach [] X.env) (h2:starEach [Expr.Call (.Name "range" p1) [e] [] pos1] X.env=(false,eval (.Call (.Name "range" p1) [e] [] pos1) X.env) :: starEach [] X.env) :
  PE X (.Call (.Name "list" p) [.Call (.Name "range" p1) [e] [] pos1] [] pos) (tLR t):=by
 intro pins s σ H Q I h
 refine wpAny_Call_Name_kw (zcm I hg hm hv (PyProof.Rows.callWith_type1 ?_ h2 rfl) (by decide) (by decide))
 rw[h2]
 refine Calls.spliced_cons (rest:=backTo pos (starEach [] X.env)) (wpAny_Call_Name_kw (zcm I hg1 hm1 boot_range (PyProof.Rows.callWith_type1 ?_ h1 rfl) (by decide) (by decide)))
 refine thn (zer he zgv h1 pos1 pins s σ H (one fun x H1=>∃ n:Int,x=.int n/\0<=n/\n<=1000/\∀ q,H1 q=none->Q (.ref q) (upd H1 q (.lst ((List.range n.toNat).map fun(k:Nat)=>V.int (0+k))))) I (show t σ H _ from h)) ?_
 rintro us s1 ⟨xs,H1,I1,r1,qx⟩
 obtain⟨x,rfl,n,rfl,n0,n1,kk⟩:=zeE qx
 cases r1 with
 | cons r1 rn=>
  cases rn
  obtain⟨tk,rfl⟩:=r1
  refine call_range_1 (Calls.spliced_nil ?_)
  have sz:Builtin.Range.rangeSize 0 n 1=((n.toNat:Nat):Int):=by unfold Builtin.Range.rangeSize;simp;split <;> lia
  refine call_list_range (r:=s1.heap.objs.size) (n:=n.toNat) (I.ok.hd hc) (IsRange.new ..) (small_one (by decide) (by decide) (by lia) (by lia)) sz (by lia) fun h' tk2 acc c' old hS ha=>?_
  have old':∀ b o,s1.heap.get? b=some o->h'.get? b=some o:=fun b o z=>old b o (Heap.get?_push_of_some _ z)
  have hle:s1.heap.objs.size<=(s1.heap.push { cls:=.type "range",data:=.fields #[.int 0 s1.toks,.int n tk,.int 1 (s1.toks+1)]}).objs.size:=by rw[Heap.size_push];exact Nat.le_succ _
  refine⟨.ref _,_,I1.laid (t':=tk2) (o:=.lst ((List.range n.toNat).map fun(k:Nat)=>V.int (0+k))) old' hle ⟨?_,acc.toList,c',zgI n.toNat acc.toList 0 (by rw[<- ha.1];simp) fun j v hj=>?_,?_⟩,rfl,kk _ (I1.hok.fresh hle)⟩
  ·rw[List.length_map,List.length_range,sizeLine_eq];lia
  ·obtain⟨tt,z⟩:=ha.2 j v (by simpa using hj)
   exact⟨tt,by rw[z];simp⟩
  ·simpa using hS
end
end L2
namespace L3
open PySem PySem.Spec PyProof.Rows L2
noncomputable def zf1:Ent->Option Ent:=fun x=>(iOf x).bind fun n=>if 0<=n/\n<=1000 then some (.own ((List.range n.toNat).map fun(k:Nat)=>D.int (0+k))) else none
section
variable {X:Cx}{e:Expr}{fe:FE}{p p1 pos pos1:Pos}
theorem reps_rng{F:Hp}(n:Nat):Reps F ((List.range n).map fun(k:Nat)=>V.int (0+k)) ((List.range n).map fun(k:Nat)=>D.int (0+k)):=by
 have:=Reps.ints (F:=F) ((List.range n).map fun(k:Nat)=>(0+k:Int))
 rw[List.map_map,List.map_map] at this
 exact this
theorem vListR(he:VE X e fe)(hg:Gl X "list")(hm:X.mg "list" = none)(hv:bootBuiltins "list" = some (.type "list"))(hg1:Gl X "range")(hm1:X.mg "range" = none)(hv1:bootBuiltins "range" = some (.type "range"))(hc:X.calm=true:=by rfl)(h1:zak e=true:=by rfl) :
  VE X (.Call (.Name "list" p) [.Call (.Name "range" p1) [e] [] pos1] [] pos) (ex1 zf1 fe):=by
 obtain⟨t,w,m⟩:=he.h
 refine⟨_,⟨pe_lr hc w.h hg hm hv hg1 hm1 (zal h1) (zal rfl)⟩,fun B F H σ δ res Q s q k=>?_⟩
 obtain⟨en,q1,q⟩:=bind_some q
 obtain⟨n,q2,q⟩:=bind_some q
 split at q
 ·rename_i hn
  cases q
  cases zaw q2
  refine m B F H σ δ _ _ s q1 fun v F1 H1 x1 r1=>⟨n,zaI r1,hn.1,hn.2,fun l hl=>?_⟩
  exact k _ F1 _ (x1.trans (Ex.lay x1.fh hl)) ⟨l,_,rfl,(x1.hh.free hl),zag,reps_rng _,x1.fh.free hl⟩
 ·cases q
end
end L3

namespace L3
open PySem PySem.Spec PyProof.Rows L2
noncomputable def fPop(i:Nat)(tg:FG):FS:=fun δ=>match δ[i]? with
 | some (some (.own ds))=>(ds[ds.length - 1]?).bind fun d=>(tg d (δ.set i (some (.own ds.dropLast)))).map .nx
 | _=>none
section
variable {X:Cx}{tg:Expr}{pos p:Pos}{x:Str}{tgf:FG}
theorem sPop(i:Nat){apos cpos:Pos}(hg:VG X tg tgf)(hN:X.N[i]? = some x:=by rfl)(hv:Vis X.env.scope x:=by first | exact Or.inl rfl | exact Or.inr (Or.inl rfl) | exact Or.inr (Or.inr rfl))(hd:(x == ("__debug__" : Str))=false:=by decide)(hcd:(x == ("__classdict__" : Str))=false:=by decide)
  (hbase:attributeBase (.Name x p) "pop" X.env (eval (.Name x p) X.env)=eval (.Name x p) X.env:=by rfl) (hline:(apos.endLine == cpos.line)=true:=by rfl)
  (hs:swapsWithSole [tg] (.Call (.Attribute (.Name x p) "pop" apos) [] [] cpos) pos.line X.env=pure false:=by rfl) (hw:swappedStores [tg] (.Call (.Attribute (.Name x p) "pop" apos) [] [] cpos) X.env=pure none:=by rfl) (h1:(assignEach [tg] X.env).map (·.2)=[assign tg X.env]:=by rfl) :
  VS X (.Assign [tg] (.Call (.Attribute (.Name x p) "pop" apos) [] [] cpos) pos) (fPop i tgf):=by
 obtain⟨t1,w1,m1⟩:=hg.h
 refine⟨_,sasg ⟨pe_bm0 PySem.F.plainAttrs_list PySem.F.slot_list_pop PySem.F.type_list_pop mt_pop (wv i hN hv hd hcd).h hbase hline⟩ w1 hs hw h1,fun B F H σ δ out DD s q k=>?_⟩
 unfold fPop at q
 split at q
 ·rename_i ds hi
  obtain⟨d,q1,q⟩:=bind_some q
  obtain⟨δ',q2,q⟩:=map_some q
  cases q
  obtain⟨v,h1,l,vs,e,h2,h3,h4,h5⟩:=s.ent i _ hi
  subst e
  obtain⟨y,hy,ry⟩:=h3.get q1
  refine⟨_,h1,.inl ⟨rfl,vs,SqL.of h2⟩,l,vs,y,rfl,rfl,h2,?_,?_⟩
  ·rw[h3.length];exact hy
  ·exact m1 B F _ σ _ δ' y d _ (s.mut hi h1 h3.dropLast) ry q2 fun σ' s'=>k σ' F _ s' FX.refl
 ·cases q
end
end L3

namespace L3
open PySem PySem.Spec PyProof.Rows L2
noncomputable def TupK(K:PySem.W.Frag)(a:Addr)(is:List Int):Prop:=∃ (o:Obj) (its:Array Value) (n:Nat),K.lookup a=some o/\o.cls=.type "tuple" /\ o.data=.seq its n/\its.size<=sizeLine/\Vals (is.map V.int) its.toList
noncomputable def eB(ds:List D):FE:=fun _=>some (.bt ds)
theorem vglB{X:Cx}{x:Str}{pos:Pos}{is:List Int}(hg:Gl X x)(h:∃ a,X.mg x=some (.ref a)/\TupK X.K a is)(hd:(x == ("__debug__" : Str))=false:=by decide):VE X (.Name x pos) (eB (is.map .int)):=by
 obtain⟨a,hm,o,its,n,h1,h2,h3,h4,h5⟩:=h
 refine⟨_,wgl (v:=.ref a) hg ⟨_,hm,rfl⟩ hd,fun B F H σ δ r Q s q k=>?_⟩
 cases q
 exact k _ F H (Ex.refl s.fh) ⟨a,is.map V.int,rfl,.inr ⟨o,its,n,h1,h2,h3,h4,h5⟩,Reps.ints is⟩
end L3

namespace L2
open PySem PySem.Spec PyProof.Rows
theorem pairs_any{P P':Program}{w w':World}{es:List DictEntry}{us:List (Key × Value)}(r:Pairs (zbK P w) es us):Pairs (zbK P' w') es us:=by
 induction r with
 | nil=>exact .nil
 | cons h1 h2 _ ih=>exact .cons h1 h2 ih
theorem DiD.at{P:Program}{w:World}{l:Addr}{o:Obj}{ks:List Int}{vs:List V}{h:Heap}(d:DiD l o ((ks.map Sum.inl).zip vs))(hl:ks.length=vs.length)(e:h.get? l=some o) :
  ∃ us es ep,KV ((ks.map Sum.inl).zip vs) us/\o.data=.dict es ep/\us.map (·.1)=ks.map Sum.inl/\h.DictAt (zbK P w) l us ep:=by
 obtain⟨_,_,P0,w0,es,ep,us,h1,h2,h3,h4,h5,h6⟩:=d
 have hk:us.map (·.1)=ks.map Sum.inl:=by
  have z:=congrArg (List.map Prod.fst) (zfY h6)
  rw[List.map_fst_zip (by rw[List.length_map];exact Nat.le_of_eq hl),List.map_map] at z
  exact z.symm
 refine⟨us,es,ep,h6,h2,hk,o,es,e,h1,h2,fun x hx=>?_,pairs_any h4,h5⟩
 obtain⟨k,a,b⟩:=h3 x hx
 refine⟨k,a,b.trans ?_⟩
 have:k ∈ us.map (·.1):=by
  rw[zdh h4,List.map_map]
  exact List.mem_map.mpr ⟨x,Array.mem_toList_iff.mpr hx,kBk_is a⟩
 rw[hk] at this
 obtain⟨i,_,rfl⟩:=List.mem_map.mp this
 rfl
theorem kisI{P:Program}{w:World}{i:Int}{u:Value}(r:RelV (.int i) u):(zbK P w).is (Sum.inl i) u=true:=by
 obtain⟨t,rfl⟩:=r
 exact keyIs_int i t
section
variable {X:Cx}{pins:List (Addr × Obj)}{σ:St}{H:Hp}{s:Shared}{l:Addr}{o:Obj}
theorem Inv.kn(I:Inv X pins σ H s)(e:H l=some (knO l o)):s.heap.get? l=some o:=(show ObjOk X.prog X.w H s.heap l (knO l o) from I.hok l _ e).1
theorem Inv.toK{kvs:List (Key × V)}(I:Inv X pins σ H s)(e:H l=some (.dK kvs)):∃ o,DiD l o kvs/\Inv X pins σ (upd H l (knO l o)) s:=by
 obtain⟨h1,h2,us,h3,o,es,ep,h4,h5,h6,h7,h8,h9⟩:=(show ObjOk X.prog X.w H s.heap l (.dK kvs) from I.hok l _ e)
 exact⟨o,⟨h2,h1,X.prog,X.w,es,ep,us,h5,h6,h7,h8,h9,h3⟩,I.write (x:=l) (e:=l) (h':=s.heap) (t':=s.toks) (o:=knO l o) (by rw[e];exact True.intro) (.inl rfl) (fun _ _ _ z=>z) ⟨_,h4⟩ ⟨h4,⟨_,h4⟩,fun _ _ a b=>b _ a⟩⟩
noncomputable def tDI0:TE:=fun _ H Q=>∀ p,H p=none->∀ o,DiD p o []->Q (.ref p) (upd H p (knO p o))
theorem pe_di0{pos:Pos}:PE X (.Dict [] [] pos) tDI0:=by
 intro pins s σ H Q I h
 refine thn ((pe_dnewK (X:=X) (pos:=pos)) pins s σ H (fun v H1=>∃ p,v=.ref p/\H p=none/\H1=upd H p (.dK [])) I fun p hp=>⟨p,rfl,hp,rfl⟩) fun u s1 ⟨v,H1,I1,r,p,e1,hp,e2⟩=>?_
 subst e1 e2
 obtain⟨o,d,I2⟩:=I1.toK (l:=p) zag
 rw[upd_upd] at I2
 exact⟨_,_,I2,r,h p hp o d⟩
noncomputable def ixI:List Int->Int->Option Nat
 | [],_=>none
 | k :: ks,i=>if k=i then some 0 else (ixI ks i).map (· + 1)
theorem zeu(i:Int):∀ {ks:List Int} {vs:List V},ks.length=vs.length->atK ((ks.map Sum.inl).zip vs) (Sum.inl i)=(ixI ks i).bind fun j=>vs[j]?
 | [],[],_=>rfl
 | k :: ks,v :: vs,h=>by
  have ih:=zeu i (ks:=ks) (vs:=vs) (by simpa using h)
  unfold atK at ih ⊢
  rw[List.map_cons,List.zip_cons_cons]
  unfold ixI
  by_cases e:k=i
  ·rw[if_pos e,List.find?_cons_of_pos (by simpa using e)];rfl
  ·rw[if_neg e,List.find?_cons_of_neg (by simpa using e),ih]
   cases ixI ks i <;> rfl
theorem zgH{i:Int}:∀ {ks:List Int} {j:Nat},ixI ks i=some j->ks[j]? = some i
 | [],_,h=>by cases h
 | k :: ks,j,h=>by
  unfold ixI at h
  split at h
  ·rename_i e;cases h;rw[e];rfl
  ·cases q:ixI ks i with
   | none=>rw[q] at h;cases h
   | some j'=>rw[q] at h;cases h;rw[List.getElem?_cons_succ];exact zgH q
theorem zeV{i:Int}:∀ {ks:List Int},ixI ks i=none->i ∉ ks
 | [],_=>by simp
 | k :: ks,h=>by
  unfold ixI at h
  split at h
  ·cases h
  ·rename_i e
   cases q:ixI ks i with
   | none=>exact fun z=>(List.mem_cons.mp z).elim (fun z=>e z.symm) (zeV q)
   | some j'=>rw[q] at h;cases h
noncomputable def rIxI:R2:=fun x y H Q=>∃ (a:Addr) (o:Obj) (ks:List Int) (vs:List V) (i:Int) (v:V),x=.ref a/\y=.int i/\H a=some (knO a o)/\DiD a o ((ks.map Sum.inl).zip vs)/\ks.length=vs.length/\atK ((ks.map Sum.inl).zip vs) (Sum.inl i)=some v/\Q v H
theorem ix_di:IxR X rIxI:=by
 intro value slice pins s σ H x y v u Q I rx ry h hs
 obtain⟨a,o,ks,vs,i,v',rfl,rfl,e,d,hl,hv,q⟩:=h
 cases rx
 obtain⟨us,es,ep,rel,h1,h2,da⟩:=d.at (P:=X.prog) (w:=X.w) hl (I.kn e)
 have dd:=da.dictOf
 rcases atK_rel rel (Sum.inl i) with ⟨v2,w,e1,e2,e3⟩ | ⟨e1,_⟩
 ·rw[hv] at e1
  cases e1
  exact subscriptTail_builtinR (x:=w) dd.typeIs slot_dict_getitem.lookup (wpAny_getItem_of (kisI ry) dd.mapOf e2 ⟨rfl,v',H,I.tok _,e3,q⟩) hs
 ·rw[hv] at e1;cases e1
noncomputable def rInI:R2:=fun x y H Q=>∃ (a:Addr) (o:Obj) (ks:List Int) (vs:List V) (i:Int),x=.int i/\y=.ref a/\H a=some (knO a o)/\DiD a o ((ks.map Sum.inl).zip vs)/\ks.length=vs.length/\Q (.bl (atK ((ks.map Sum.inl).zip vs) (Sum.inl i)).isSome) H
theorem op_inI:OpR X (compareOp .In) rInI:=by
 intro pins s σ H x y v u Q I rx ry h
 obtain⟨a,o,ks,vs,i,rfl,rfl,e,d,hl,q⟩:=h
 cases ry
 obtain⟨us,es,ep,rel,h1,h2,da⟩:=d.at (P:=X.prog) (w:=X.w) hl (I.kn e)
 refine wpAny_in_of (kisI rx) d.1 da.dictOf.mapOf ⟨.bl _,H,I.tok _,?_,q⟩
 rcases atK_rel rel (Sum.inl i) with ⟨v2,w,e1,e2,e3⟩ | ⟨e1,e2⟩ <;> (rw[e1,e2];rfl)
noncomputable def rSetI:V->V->V->Hp->(Hp->Prop)->Prop:=fun o i v H Q=>∃ (p:Addr) (ob:Obj) (ks:List Int) (vs:List V) (k:Int),o=.ref p/\i=.int k/\H p=some (knO p ob)/\DiD p ob ((ks.map Sum.inl).zip vs)/\ks.length=vs.length/\ks.length<1000000/\k ∉ ks /\
 ∀ ob',DiD p ob' (((ks ++ [k]).map Sum.inl).zip (vs ++ [v]))->Q (upd H p (knO p ob'))
theorem set_di:PSet X rSetI:=by
 intro pins s σ H o i v ov iv u Q I ro ri rv h
 obtain⟨p,ob,ks,vs,k,rfl,rfl,hp,d,hl,hz,hk,q⟩:=h
 cases ro
 obtain⟨us,es,ep,rel,h1,h2,da⟩:=d.at (P:=X.prog) (w:=X.w) hl (I.kn hp)
 have hu:us.length<=sizeLine:=by
  have:=congrArg List.length h2
  simp only[List.length_map] at this
  rw[this,sizeLine_eq];lia
 have hst:stored us (Sum.inl k) u=us ++ [(Sum.inl k,u)]:=by
  unfold stored
  rw[if_neg]
  intro z
  obtain⟨x,hx,e⟩:=List.any_eq_true.mp z
  have:x.1 ∈ us.map (·.1):=List.mem_map.mpr ⟨x,hx,rfl⟩
  rw[h2,of_decide_eq_true e] at this
  obtain⟨i,hi,e'⟩:=List.mem_map.mp this
  cases e'
  exact hk hi
 refine wpAny_setItem_pairs (hsz:=hu) (kisI ri) da.dictOf fun h' dd' hs=>?_
 rw[hst] at dd'
 obtain⟨o',es',ep',g1,g2,g3,g4,g5,g6⟩:=dd'
 refine⟨_,I.write (x:=p) (e:=p) (o:=knO p o') (by rw[hp];exact True.intro) (.inl rfl) (fun b q hb z=>(hs.2 b hb).trans z) ⟨_,g1⟩ ⟨g1,⟨_,g1⟩,fun _ _ a b=>b _ a⟩,q o' ⟨d.1,?_,X.prog,X.w,es',ep',_,g2,g3,g4,g5,g6,?_⟩⟩
 ·rw[List.length_zip,List.length_map,List.length_append,List.length_append,sizeLine_eq,<- hl]
  simp only[List.length_cons,List.length_nil]
  lia
 ·rw[List.map_append,List.zip_append (by rw[List.length_map];exact hl)]
  exact Paired.snoc rel ⟨rfl,rv⟩
noncomputable def Iti(a:Addr)(o:Obj)(ks:List Int):It:=⟨fun i H=>H a=some (knO a o)/\i<ks.length,fun i H x H'=>H'=H/\∃ z,ks[i]? = some z/\x=.int z,fun i H=>H a=some (knO a o)/\ks.length<=i⟩
theorem turn_di{tg:Expr}{P:Program}{w:World}{K:PySem.W.Frag}{a it:Addr}{o:Obj}{ks:List Int}{vs:List V}{es:Array DictEntry}{ep:Nat}(d:DiD a o ((ks.map Sum.inl).zip vs))(hl:ks.length=vs.length)(ho:o.data=.dict es ep) :
  Turn P w K tg (Iti a o ks) [it] it (fun i h=>h.IsKeyIter it a i ks.length ep) where
 mem:=by simp
 obj:=fun i h st b hb=>by
  have e:b=it:=by simpa using hb
  subst e
  obtain⟨o,e,c,d⟩:=st
  exact⟨o,e,fun v z=>by rw[d] at z;cases z⟩
 keep:=fun i h h' st k=>st.at fun o e=>k it (by simp) o e
 item:=by
  intro X hP hw hK hc i pins s σ H E I hf st hg
  subst hP hw hK
  obtain⟨f0,f1,f2,f3,f4,f5⟩:=hf it (by simp)
  obtain⟨hg1,hg2⟩:=(show _/\_ from hg)
  obtain⟨us,es',ep',_,h4,hk,hd⟩:=d.at (P:=X.prog) (w:=X.w) hl (I.kn hg1)
  rw[ho] at h4
  cases h4
  have hu:us.length=ks.length:=by have:=congrArg List.length hk;simpa using this
  have hlt:i<us.length:=by lia
  rw[<- hu] at st
  refine wpAny_pyNext_dict_item (knd:=zbK X.prog X.w) (k:=us[i].1) (v:=us[i].2) st hd (by rw[List.getElem?_eq_getElem hlt]) fun key h' hk' st' sb=>?_
  have hz:us[i].1=Sum.inl ks[i]:=by
   have:=congrArg (fun l=>l[i]?) hk
   simp only[List.getElem?_map,List.getElem?_eq_getElem hlt,List.getElem?_eq_getElem hg2,Option.map_some,Option.some.injEq] at this
   exact this
  rw[hz] at hk'
  have hk2:zg7 (Sum.inl ks[i]) key=true:=hk'
  rcases zaH hk2 with ⟨z,t,e1,e2⟩ | ⟨_,_,z,_⟩
  ·cases e1
   subst e2
   have I1:Inv X pins σ H { s with heap:=h'}:=I.turned (t':=s.toks) (fun b o hb e=>(sb.2 b hb).trans e) f0 f1 f3 f4 f5
   rw[hu] at st'
   exact⟨_,rfl,letGo_keyiter (s':={ s with heap:=h'}) st' ⟨.int ks[i],H,I1,⟨t,rfl⟩,⟨rfl,_,List.getElem?_eq_getElem hg2,rfl⟩,st',fun b hb=>(hf b hb).1⟩⟩
  ·cases z
 done:=by
  intro X hP hw hK hc i pins s σ H E I hf st hg
  subst hP hw hK
  obtain⟨f0,f1,f2,f3,f4,f5⟩:=hf it (by simp)
  obtain⟨hg1,hg2⟩:=(show _/\_ from hg)
  obtain⟨us,es',ep',_,h4,hk,hd⟩:=d.at (P:=X.prog) (w:=X.w) hl (I.kn hg1)
  rw[ho] at h4
  cases h4
  have hu:us.length=ks.length:=by have:=congrArg List.length hk;simpa using this
  rw[<- hu] at st
  exact wpAny_pyNext_dict_end (knd:=zbK X.prog X.w) (I.ok.hd hc) st hd (List.getElem?_eq_none (by lia)) fun h' eb=>⟨rfl,I.turned (t':=s.toks) (fun b o hb e=>eb b o hb e) f0 f1 f3 f4 f5⟩
 self:=fun _ _ _ _ _ st h=>wpAny_pyIter_keyiter st h
noncomputable def iDiT(tl:TE):TI:=fun σ H R=>tl σ H fun x H1=>∃ (a:Addr) (o:Obj) (ks:List Int) (vs:List V),x=.ref a/\DiD a o ((ks.map Sum.inl).zip vs)/\ks.length=vs.length/\H1 a=some (knO a o)/\R (Iti a o ks) H1
theorem pi_di{tg l:Expr}{tl:TE}(hl:PE X l tl):PI X tg l (iDiT tl):=by
 intro pins s σ H R I h
 refine thn (hl pins s σ H _ I h) fun v s1 ⟨x,H1,I1,r1,q1⟩=>?_
 obtain⟨a,o,ks,vs,e,d,hl',ha,q⟩:=q1
 subst e
 cases r1
 obtain⟨us,es,ep,_,h4,hk,hd⟩:=d.at (P:=X.prog) (w:=X.w) hl' (I1.kn ha)
 have hu:us.length=ks.length:=by have:=congrArg List.length hk;simpa using this
 refine wpAny_pyIter_dict (knd:=zbK X.prog X.w) d.1 hd ?_
 refine⟨s1.heap.objs.size,[s1.heap.objs.size],_,_,H1,rfl,I1.kept (t':=s1.toks) fun b o e=>Heap.get?_push_of_some _ e,turn_di d hl' h4,⟨_,Heap.get?_push_size _ rfl,rfl,by rw[hu];rfl⟩,fun b hb=>?_,q⟩
 have e:b=s1.heap.objs.size:=by simpa using hb
 subst e
 exact I1.fpOk (Nat.le_refl _) (I1.hok.fresh (Nat.le_refl _))
theorem call_min3(hc:X.calm=true):zcR X (.builtin "min") (fun xs H Q=>∃ i j k,xs=[.int i,.int j,.int k]/\Q (.int (min (min i j) k)) H):=by
 intro pins s σ H xs us Q I r h
 obtain⟨i,j,k,rfl,q⟩:=h
 cases r with
 | cons r1 r=>
  obtain⟨u,w',rfl,r2,r3⟩:=vals2 r
  obtain⟨t1,rfl⟩:=r1
  obtain⟨t2,rfl⟩:=r2
  obtain⟨t3,rfl⟩:=r3
  refine min_three_ints (I.ok.hd hc) fun h' tk kk=>⟨_,H,I.kept kk,?_,q⟩
  by_cases h1:j<i
  ·rw[if_pos h1]
   by_cases h2:k<j
   ·rw[if_pos h2,show min (min i j) k=k by lia];exact⟨_,rfl⟩
   ·rw[if_neg h2,show min (min i j) k=j by lia];exact⟨_,rfl⟩
  ·rw[if_neg h1]
   by_cases h2:k<i
   ·rw[if_pos h2,show min (min i j) k=k by lia];exact⟨_,rfl⟩
   ·rw[if_neg h2,show min (min i j) k=i by lia];exact⟨_,rfl⟩
end
end L2
namespace L3
open PySem PySem.Spec PyProof.Rows L2
noncomputable def gAbs:List Ent->Option Ent
 | [x]=>(iOf x).map fun i=>.val (.int (if i<0 then -i else i))
 | _=>none
noncomputable def gMin3:List Ent->Option Ent
 | [x,y,z]=>(iOf x).bind fun i=>(iOf y).bind fun j=>(iOf z).map fun k=>.val (.int (min (min i j) k))
 | _=>none
noncomputable def asDi:Ent->Option (List Int × List D)
 | .val (.dcI ks l)=>some (ks,l)
 | _=>none
theorem ze3{e:Ent}{p:List Int × List D}(h:asDi e=some p):e=.val (.dcI p.1 p.2):=by
 cases e with
 | val d=>cases d <;> first | (cases h;rfl) | (cases h)
 | _=>cases h
noncomputable def gDxI:Ent->Ent->Option Ent:=fun x y=>(asDi x).bind fun p=>(iOf y).bind fun i=>(ixI p.1 i).bind fun j=>(p.2[j]?).map .val
noncomputable def iDi(fe:FE):FI:=fun δ=>(fe δ).bind fun x=>(asDi x).map fun p=>p.1.map D.int
noncomputable def asIn(C:Addr)(ns:List Str):Ent->Option (List D)
 | .val (.ins C' ns' l)=>if C'=C/\ns'=ns then some l else none
 | _=>none
theorem asIn_some{C:Addr}{ns:List Str}{e:Ent}{l:List D}(h:asIn C ns e=some l):e=.val (.ins C ns l):=by
 cases e with
 | val d=>
  cases d with
  | ins C' ns' l'=>
   have h':(if C'=C/\ns'=ns then some l' else none)=some l:=h
   split at h'
   ·rename_i z;cases h';rw[z.1,z.2]
   ·cases h'
  | _=>cases h
 | _=>cases h
noncomputable def zcK(C:Addr)(ns:List Str)(k:Nat):Ent->Option Ent:=fun x=>(asIn C ns x).bind fun l=>(l[k]?).map .val
noncomputable def eDI0:FE:=fun _=>some (.obj (.dcI [] []))
section
variable {X:Cx}{e tg:Expr}{fe:FE}{pos:Pos}{f c:Str}{ns nsF:List Str}
theorem c_abs:zdO X (.builtin "abs") gAbs:=⟨_,call_abs,fun H0 F H vs es res Q fh hh r q k=>by
 match es,q with
 | [x],q=>
  obtain⟨i,q1,q⟩:=map_some q
  cases zaw q1
  cases q
  obtain⟨v,rfl,r1⟩:=zct r
  cases zaI r1
  exact⟨i,rfl,k _ F H (Ex.refl fh) (.int _)⟩⟩
theorem c_min3(hc:X.calm=true:=by rfl):zdO X (.builtin "min") gMin3:=⟨_,call_min3 hc,fun H0 F H vs es res Q fh hh r q k=>by
 match es,q with
 | [x,y,z],q=>
  obtain⟨i,q1,q⟩:=bind_some q
  obtain⟨j,q2,q⟩:=bind_some q
  obtain⟨l,q3,q⟩:=map_some q
  cases zaw q1
  cases zaw q2
  cases zaw q3
  cases q
  cases r with
  | cons r1 r=>
   cases r with
   | cons r2 r=>
    cases r with
    | cons r3 r=>
     cases r
     cases zaI r1
     cases zaI r2
     cases zaI r3
     exact⟨i,j,l,rfl,k _ F H (Ex.refl fh) (.int _)⟩⟩
theorem x_di:IxD X gDxI:=⟨_,ix_di,fun H0 F H x y e e' res Q fh hh rx ry q k=>by
 obtain⟨p,q1,q⟩:=bind_some q
 obtain⟨z,q2,q⟩:=bind_some q
 obtain⟨j,q3,q⟩:=bind_some q
 obtain⟨d,q4,q⟩:=map_some q
 cases q
 cases ze3 q1
 cases zaw q2
 cases zaI ry
 cases (show Rep F x (.dcI p.1 p.2) from rx) with
 | dcI e d l rs=>
  obtain⟨v,hv,rv⟩:=rs.get q4
  exact⟨_,_,_,_,z,v,rfl,rfl,fh _ _ e,d,l,by rw[zeu z l,q3];exact hv,k v F H (Ex.refl fh) rv⟩⟩
theorem itOk_di{B F0:Hp}{a:Addr}{o:Obj}{ks:List Int}(h:F0 a=some (knO a o)):ItOk B F0 (Iti a o ks) (ks.map D.int):=fun F H s1 s2 s3=>by
 have h':=s2 _ _ (s1 _ _ h)
 refine⟨⟨h',by simp⟩,fun i d e=>?_⟩
 rw[List.getElem?_map] at e
 by_cases hi:i<ks.length
 ·rw[List.getElem?_eq_getElem hi] at e
  cases e
  refine⟨⟨h',hi⟩,fun x H' y=>?_⟩
  obtain⟨e',z,hz,y⟩:=y
  rw[List.getElem?_eq_getElem hi] at hz
  cases hz
  subst e' y
  exact⟨F,Ex.refl s2,.int _⟩
 ·rw[List.getElem?_eq_none (by lia)] at e;cases e
theorem iidi(he:VE X e fe):VI X tg e (iDi fe):=by
 obtain⟨t,w,m⟩:=he.h
 refine⟨_,⟨pi_di w.h⟩,fun B F H σ δ ds R s q k=>?_⟩
 obtain⟨x,q1,q⟩:=bind_some q
 obtain⟨p,q2,q⟩:=map_some q
 cases q
 cases ze3 q2
 refine m B F H σ δ _ _ s q1 fun v F1 H1 x1 r1=>?_
 cases (show Rep F1 v (.dcI p.1 p.2) from r1) with
 | @dcI a o ks vs ds e1 d hl rs=>exact⟨a,o,p.1,vs,rfl,d,hl,x1.fh _ _ e1,k _ F1 H1 x1 (itOk_di e1)⟩
theorem zhd{C:Addr}{kC:Str->Addr}(k:Nat)(DC:ClsD X.K X.mg c nsF C)(hC:C=kC c)(he:VE X e fe)(hf:f ∈ nsF:=by decide +kernel)(hk:ns[k]? = some f:=by rfl)(hn:ns.Nodup:=by decide +kernel)
  (hb:attributeBase e f X.env (eval e X.env)=eval e X.env:=by rfl):VE X (.Attribute e f pos) (ex1 (zcK (kC c) ns k) fe):=by
 obtain⟨t,w,m⟩:=he.h
 refine⟨_,⟨zdn w.h hb⟩,fun B F H σ δ res Q s q kk=>?_⟩
 obtain⟨x,q1,q⟩:=bind_some q
 obtain⟨l,q2,q⟩:=bind_some q
 obtain⟨d,q3,q⟩:=map_some q
 cases q
 cases asIn_some q2
 refine m B F H σ δ _ _ s q1 fun v F1 H1 x1 r1=>?_
 cases (show Rep F1 v (.ins (kC c) ns l) from r1) with
 | ins e hl rs=>
  obtain⟨w,hw,rw'⟩:=rs.get q3
  refine⟨_,_,_,_,w,rfl,x1.fh _ _ e,hC ▸ DC.cl,hC ▸ DC.no f hf,zcE hn hk hw,kk w F1 H1 x1 rw'⟩
theorem vDI0:VE X (.Dict [] [] pos) eDI0:=⟨_,⟨pe_di0⟩,fun B F H σ δ res Q s q k p hp o d=>by
 cases q
 exact k _ F _ (Ex.lay s.fh hp) ⟨⟨p,rfl⟩,[p],.dcI (vs:=[]) (ks:=[]) zag d rfl .nil,by simp,fun a ha=>by
  simp at ha
  subst ha
  exact⟨s.fh.free hp,hp⟩⟩⟩
end
end L3

namespace L2
open PySem PySem.Spec PyProof.Rows
theorem ofNat_lt:∀ (a b:List Nat),(a.map Int.ofNat<b.map Int.ofNat) ↔ a<b
 | [],[]=>by simp
 | [],b :: bs=>by simp
 | a :: as,[]=>by simp
 | a :: as,b :: bs=>by
  rw[List.map_cons,List.map_cons,List.cons_lt_cons_iff,List.cons_lt_cons_iff,ofNat_lt as bs]
  exact⟨fun h=>h.imp Int.ofNat_lt.mp fun z=>⟨Int.ofNat.inj z.1,z.2⟩,fun h=>h.imp Int.ofNat_lt.mpr fun z=>⟨congrArg Int.ofNat z.1,z.2⟩⟩
noncomputable def prW(i:Int)(x:Str):RwI:=i :: x.cps.toList.map Int.ofNat
theorem zeP{i j:Int}{x y:Str}(h:prW i x=prW j y):i=j/\x=y:=by
 obtain⟨h1,h2⟩:=List.cons.inj h
 have h3:x.cps.toList=y.cps.toList:=(List.map_inj_right (fun _ _ h=>Int.ofNat.inj h)).mp h2
 cases x;cases y
 exact⟨h1,congrArg Str.mk (Array.toList_inj.mp h3)⟩
section
variable {prog:Program}{w:World}{A:Around}{s:Shared}
theorem lex_pair{i j:Int}{x y:Str}{t u t' u':Tok}{Q:Bool->Shared->Prop}(h:Q (decide (prW i x<prW j y)) s):PySem.W.KatLex prog w A true (decide ([Value.int i t,.str x t'].length<[Value.int j u,.str y u'].length)) Q ([Value.int i t,.str x t'].zip [Value.int j u,.str y u']) 0 s:=by
 rw[List.zip_cons_cons]
 refine PySem.W.kat_cons (wpAny_eqBool_int ?_)
 by_cases e:i=j
 ·subst e
  rw[beq_self_eq_true]
  refine PySem.W.kat_yes ?_
  rw[List.zip_cons_cons]
  have e2:decide (prW i x<prW i y)=decide (x.cps.toList<y.cps.toList):=by
   unfold prW
   by_cases c:x.cps.toList<y.cps.toList
   ·rw[decide_eq_true c,decide_eq_true (List.cons_lt_cons_iff.mpr (.inr ⟨rfl,(ofNat_lt _ _).mpr c⟩))]
   ·rw[decide_eq_false c,decide_eq_false fun z=>(List.cons_lt_cons_iff.mp z).elim (fun z=>by lia) fun z=>c ((ofNat_lt _ _).mp z.2)]
  rw[e2] at h
  refine PySem.W.kat_cons (wpAny_eqBool_str ?_)
  by_cases e:x=y
  ·subst e
   rw[decide_eq_true rfl]
   refine PySem.W.kat_yes (PySem.W.kat_nil ?_)
   rw[decide_eq_false (List.lt_irrefl _)] at h
   exact h
  ·rw[decide_eq_false e]
   exact PySem.W.kat_no (PySem.W.kat_one _ _ (lt_str h))
 ·rw[beq_eq_false_iff_ne.mpr e]
  have e2:decide (prW i x<prW j y)=decide (i<j):=by
   unfold prW
   by_cases c:i<j
   ·rw[decide_eq_true c,decide_eq_true (List.cons_lt_cons_iff.mpr (.inl c))]
   ·rw[decide_eq_false c,decide_eq_false fun z=>(List.cons_lt_cons_iff.mp z).elim c fun z=>e z.1]
  rw[e2] at h
  exact PySem.W.kat_no (oneLt_int h)
noncomputable def PrsH(h:Heap)(row:Value->RwI)(vs:List Value):Prop:=∀ v ∈ vs,∃ a o i x t t' n,v=.ref a/\h.get? a=some o/\o.cls=.type "tuple" /\ o.data=.seq #[.int i t,.str x t'] n/\row v=prW i x
theorem zel{h:Heap}{row:Value->RwI}:∀ {vs:List Value},PrsH h row vs->∃ fs,PySem.W.KatTups h vs fs/\fs.length=vs.length/\∀ v ∈ fs,∃ i t,v=.int i t
 | [],_=>⟨[],trivial,rfl,fun v hv=>by cases hv⟩
 | v :: vs,t=>by
  obtain⟨fs,k1,k2,k3⟩:=zel (vs:=vs) fun v hv=>t v (List.mem_cons_of_mem _ hv)
  obtain⟨a,o,i,x,t1,t2,n,rfl,e1,e2,e3,_⟩:=t v List.mem_cons_self
  refine⟨.int i t1 :: fs,⟨⟨a,o,_,n,rfl,e1,e2,e3,rfl⟩,k1⟩,by rw[List.length_cons,List.length_cons,k2],fun v hv=>?_⟩
  rcases List.mem_cons.mp hv with e | hv
  ·exact⟨i,t1,e⟩
  ·exact k3 v hv
theorem srtH_prs{row:Value->RwI}{vs:List Value}:SrtH prog w (fun h=>PrsH h row vs) vs (tuples' true) row:=by
 refine⟨fun t k v hv=>?_,fun A s E Q t h2 q=>?_,fun A s t x hx y hy E Q q=>?_⟩
 ·obtain⟨a,o,i,x,t1,t2,n,e0,e1,e2,e3⟩:=t v hv
  exact⟨a,o,i,x,t1,t2,n,e0,k a o e1 e2,e2,e3⟩
 ·obtain⟨fs,k1,k2,k3⟩:=zel t
  refine PySem.W.kat_kind (T:=.type "int") k1 (by lia) (fun v hv=>?_) rfl q
  obtain⟨i,t,rfl⟩:=k3 v hv
  exact .now
 ·obtain⟨a,oa,i,x,t1,t2,n,rfl,a1,_,a3,a4⟩:=t _ hx
  obtain⟨b,ob,j,y,u1,u2,m,rfl,b1,_,b3,b4⟩:=t _ hy
  rw[a4,b4] at q
  refine PySem.W.kat_lt a1 a3 b1 b3 ?_
  exact lex_pair q
end
noncomputable def zfn(H:Hp)(a:Addr):RwI:=match H a with
 | some (.tup [.int i,.str x])=>prW i x
 | _=>[]
noncomputable def rowPv(H:Hp):Value->RwI
 | .ref a=>zfn H a
 | _=>[]
noncomputable def PrsAt(H:Hp)(as:List Addr):Prop:=∀ a ∈ as,∃ i x,H a=some (.tup [.int i,.str x])
theorem zcW{H:Hp}{a:Addr}{i:Int}{x:Str}(h:H a=some (.tup [.int i,.str x])):zfn H a=prW i x:=by
 unfold zfn
 rw[h]
theorem Inv.prs{X:Cx}{pins:List (Addr × Obj)}{σ:St}{H:Hp}{s:Shared}(I:Inv X pins σ H s){as:List Addr}(h:PrsAt H as):PrsH s.heap (rowPv H) (as.map Value.ref):=by
 intro v hv
 obtain⟨a,ha,rfl⟩:=List.mem_map.mp hv
 obtain⟨i,x,hH⟩:=h a ha
 obtain⟨_,its,ri,o,e,hcl,n,hd⟩:=I.hok a _ hH
 obtain⟨u,w',rfl,⟨t1,rfl⟩,⟨t2,rfl⟩⟩:=vals2 ri
 exact⟨a,o,i,x,t1,t2,n,rfl,e,hcl,congrArg Prod.fst hd,zcW hH⟩
theorem call_srtP{X:Cx}:zcR X (.builtin "sorted") (fun xs H Q=>∃ (p:Addr) (as:List Addr),xs=[.ref p]/\SqL X.K H p (as.map V.ref)/\PrsAt H as/\as.length<64/\∀ (as':List Addr) (l:Addr),as'.Perm as->(as'.map (zfn H)).Pairwise (·<=·)->H l=none->Q (.ref l) (upd H l (.lst (as'.map V.ref)))):=by
 intro pins s σ H xs us Q I r h
 obtain⟨p,as,rfl,hq,hpr,hl,q⟩:=h
 obtain⟨u,rfl,rx⟩:=zeJ r
 cases rx
 obtain⟨its,r',pl,hz⟩:=I.list hq
 cases zfs r'
 refine zgR srtH_prs pl.isList (I.prs hpr) (by rw[List.length_map];lia) fun out p1 p2=>?_
 obtain⟨as',p3,rfl⟩:=perm_refs p1
 rw[List.map_map] at p2
 have sz:((s.heap.push (seqObj "list" #[] 0)).update s.heap.objs.size (Obj.mapSeq (· ++ (as.map Value.ref).toArray))).objs.size=s.heap.objs.size+1:=by rw[Heap.size_update,size_push']
 have g0:(((s.heap.push (seqObj "list" #[] 0)).update s.heap.objs.size (Obj.mapSeq (· ++ (as.map Value.ref).toArray))).push (seqObj "list" (as.map Value.ref).toArray 0)).get? (s.heap.objs.size+1)=some (seqObj "list" (as.map Value.ref).toArray 0):=by
  rw[<- sz];exact Heap.get?_push_size _ rfl
 obtain⟨e,he⟩:=sortedHeap_at (out:=(as'.map Value.ref).toArray) g0
 refine⟨.ref (s.heap.objs.size+1),_,I.laid (a:=s.heap.objs.size+1) (o:=.lst (as'.map V.ref)) (h':=sortedAll s.heap (as.map Value.ref) (as'.map Value.ref).toArray) (t':=s.toks) (fun b o eb=>?_) (Nat.le_succ _) ⟨?_,as'.map Value.ref,e,zfi as',he⟩,rfl,q as' _ p3 p2 (I.hok.fresh (Nat.le_succ _))⟩
 ·exact sortedAll_old eb
 ·rw[List.length_map,p3.length_eq,sizeLine_eq];lia
end L2
namespace L3
open PySem PySem.Spec PyProof.Rows L2
noncomputable def prD(p:Int × Str):D:=.tup [.int p.1,.str p.2]
noncomputable def prOf:D->Option (Int × Str)
 | .tup [.int i,.str x]=>some (i,x)
 | _=>none
theorem prOf_some{d:D}{p:Int × Str}(h:prOf d=some p):d=prD p:=by
 unfold prOf at h
 split at h
 ·cases h;rfl
 ·cases h
noncomputable def prsO:List D->Option (List (Int × Str))
 | []=>some []
 | d :: ds=>(prOf d).bind fun p=>(prsO ds).map fun ps=>p :: ps
theorem zez:∀ ps:List (Int × Str),prsO (ps.map prD)=some ps
 | []=>rfl
 | p :: ps=>by rw[List.map_cons,prsO,zez ps];rfl
noncomputable def rwP(p:Int × Str):RwI:=prW p.1 p.2
noncomputable def zd1(ps:List (Int × Str)):List (Int × Str):=ps.mergeSort fun a b=>decide (rwP a<=rwP b)
theorem zcq(ps:List (Int × Str)):(zd1 ps).Perm ps:=List.mergeSort_perm _ _
theorem zfJ(ps:List (Int × Str)):(zd1 ps).Pairwise fun a b=>rwP a<=rwP b:=by
 have:=List.pairwise_mergeSort (le:=fun a b:Int × Str=>decide (rwP a<=rwP b)) (fun a b c h1 h2=>decide_eq_true (List.le_trans (of_decide_eq_true h1) (of_decide_eq_true h2))) (fun a b=>by
  rcases List.le_total (rwP a) (rwP b) with h | h
  ·rw[decide_eq_true h];rfl
  ·rw[decide_eq_true h,Bool.or_true]) ps
 exact this.imp fun h=>of_decide_eq_true h
theorem zdZ{ps qs:List (Int × Str)}(h:qs.Perm ps)(hs:qs.Pairwise fun a b=>rwP a<=rwP b):qs=zd1 ps:=
 List.Perm.eq_of_pairwise (fun a b _ _ h1 h2=>Prod.ext (zeP (List.le_antisymm h1 h2)).1 (zeP (List.le_antisymm h1 h2)).2) hs (zfJ ps) (h.trans (zcq ps).symm)
theorem prsO_ok{F:Hp}:∀ {vs:List V} {ds:List D} {ps:List (Int × Str)},Reps F vs ds->prsO ds=some ps->∃ as:List Addr,vs=as.map V.ref/\(∀ a ∈ as,∃ p:Int × Str,F a=some (.tup [.int p.1,.str p.2]))/\ps.length=as.length/\ps.map rwP=as.map (zfn F)
 | _,_,_,.nil,q=>by cases q;exact⟨[],rfl,(fun a ha=>by cases ha),rfl,rfl⟩
 | _,_,_,.cons r t,q=>by
  obtain⟨p,q1,q⟩:=bind_some q
  obtain⟨ps,q2,q⟩:=map_some q
  subst q
  obtain⟨as,e1,e2,e3,e4⟩:=prsO_ok t q2
  cases prOf_some q1
  cases r with
  | @tup a _ _ e rs=>
   cases rs with
   | cons r1 rs=>
    cases rs with
    | cons r2 rs=>
     cases rs
     cases r1
     cases r2
     refine⟨a :: as,by rw[e1];rfl,fun b hb=>?_,by rw[List.length_cons,List.length_cons,e3],?_⟩
     ·rcases List.mem_cons.mp hb with h | h
      ·subst h;exact⟨p,e⟩
      ·exact e2 b h
     ·rw[List.map_cons,List.map_cons,e4,zcW e];rfl
noncomputable def unP(F:Hp)(a:Addr):Int × Str:=match F a with
 | some (.tup [.int i,.str x])=>(i,x)
 | _=>(0,"")
theorem zeS{F:Hp}:∀ {as:List Addr},(∀ a ∈ as,∃ p:Int × Str,F a=some (.tup [.int p.1,.str p.2]))->Reps F (as.map V.ref) ((as.map (unP F)).map prD)/\(as.map (unP F)).map rwP=as.map (zfn F)
 | [],_=>⟨.nil,rfl⟩
 | a :: as,h=>by
  obtain⟨p,e⟩:=h a List.mem_cons_self
  obtain⟨h1,h2⟩:=zeS fun b hb=>h b (List.mem_cons_of_mem _ hb)
  have eu:unP F a=p:=by unfold unP;rw[e]
  refine⟨.cons ?_ h1,?_⟩
  ·rw[eu];exact .tup e (.cons (.int _) (.cons (.str _) .nil))
  ·rw[List.map_cons,List.map_cons,List.map_cons,h2,eu,zcW e];rfl
noncomputable def zfL:List Ent->Option Ent
 | [x]=>(asL x).bind fun ds=>(prsO ds).bind fun ps=>gif (ps.length<64) (some (.own ((zd1 ps).map prD)))
 | _=>none
theorem rwP_inj{a b:Int × Str}(h:rwP a=rwP b):a=b:=Prod.ext (zeP h).1 (zeP h).2
theorem c_srtP{X:Cx}:zdO X (.builtin "sorted") zfL:=⟨_,call_srtP,fun H0 F H vs es res Q fh hh r q k=>by
 obtain⟨x,rfl⟩:=zed rfl (fun _ _ _=>rfl) q
 obtain⟨v,rfl,rz⟩:=zct r
 obtain⟨ds,q1,q⟩:=bind_some q
 obtain⟨ps,q2,q⟩:=bind_some q
 obtain⟨hl,qz⟩:=za0 q
 cases qz
 obtain⟨l,ws,e',h1,h2⟩:=RepR.toL rz fh q1
 subst e'
 obtain⟨as,e1,e2,e3,e4⟩:=prsO_ok h2 q2
 rw[e1] at h1
 refine⟨l,as,rfl,h1,fun a ha=>let⟨p,z⟩:=e2 a ha;⟨p.1,p.2,fh _ _ z⟩,by rw[<- e3];exact hl,fun as' p p1 p2 hp=>?_⟩
 have e5:as'.map (zfn H)=as'.map (zfn F):=List.map_congr_left fun a ha=>by
  obtain⟨p,z⟩:=e2 a (p1.mem_iff.mp ha)
  rw[zcW z,zcW (fh _ _ z)]
 obtain⟨e6,e7⟩:=zeS (F:=F) (as:=as') fun a ha=>e2 a (p1.mem_iff.mp ha)
 have e8:as.map (unP F)=ps:=(List.map_inj_right (fun _ _ h=>rwP_inj h)).mp ((zeS e2).2.trans e4.symm)
 have e9:as'.map (unP F)=zd1 ps:=zdZ (by rw[<- e8];exact p1.map _) (by
  rw[e5,<- e7,List.pairwise_map] at p2
  exact p2)
 rw[e9] at e6
 exact k _ _ _ (Ex.lay fh hp) ⟨p,_,rfl,hh.free hp,zag,e6,fh.free hp⟩⟩
end L3

namespace L3
open PySem PySem.Spec PyProof.Rows L2
noncomputable def capV:Ent->Option Ent
 | .val d=>some (.val d)
 | _=>none
noncomputable def cEnX(fr:List Nat)(i:Nat)(δ:En)(d:D):En:=some (.val d) :: fr.map fun a=>if a=i then (oAt i δ).map .obj else ((δ[a]?).join).bind capV
noncomputable def lcX(fr:List Nat)(i j:Nat)(fx:FXE):List D->En->Option (List D × En)
 | [],δ=>some ([],δ)
 | d :: ds,δ=>(fx (cEnX fr i δ d)).bind fun p=>((oAt (j+1) p.2).bind lOf).bind fun es=>(lcX fr i j fx ds (δ.set i (some (.obj (.lst es))))).map fun q=>(p.1 :: q.1,q.2)
noncomputable def xLC(fr:List Nat)(i j:Nat)(fi:FI)(fx:FXE):FXE:=fun δ=>((oAt i δ).bind lOf).bind fun _=>(fi δ).bind fun ds=>(lcX fr i j fx ds δ).bind fun p=>if p.1.length<=1000000 then some (.lst p.1,p.2) else none
section
variable {K:PySem.W.Frag}{B:Bd}{F Hn H:Hp}{σ:Sg}{δ:En}{v:V}{d:D}{i j:Nat}{l:Addr}{es:List D}{fr:List Nat}
theorem zet{n:Nat}{e:Ent}(h:(cEnX fr i δ d)[n+1]? = some (some e)):∃ b,fr[n]? = some b/\((b=i/\∃ o,oAt i δ=some o/\e=.obj o) \/ ∃ d',δ[b]? = some (some (.val d'))/\e=.val d'):=by
 unfold cEnX at h
 rw[List.getElem?_cons_succ,List.getElem?_map] at h
 cases q:fr[n]? with
 | none=>rw[q] at h;cases h
 | some b=>
  rw[q] at h
  have h':(if b=i then (oAt i δ).map .obj else ((δ[b]?).join).bind capV)=some e:=Option.some.inj h
  refine⟨b,rfl,?_⟩
  split at h'
  ·rename_i hb
   obtain⟨o,h1,h2⟩:=map_some h'
   exact .inl ⟨hb,o,h1,h2.symm⟩
  ·obtain⟨e',h1,h2⟩:=bind_some h'
   cases e' with
   | val d'=>
    cases h2
    refine .inr ⟨d',?_,rfl⟩
    cases z:δ[b]? with
    | none=>rw[z] at h1;cases h1
    | some o=>rw[z] at h1;rw[show o=some (.val d') from h1]
   | _=>cases h2
theorem RS.capX(s:RS K B F Hn σ δ)(sh:Same Hn H)(fh:Same F H)(hi:δ[i]? = some (some (.obj (.lst es))))(hs:σ[i]? = some (some (.ref l)))(hnd:fr.Nodup)(r:Rep F v d):RS K ⟨zc8 H [l],none⟩ F H (some v :: zdG fr σ) (cEnX fr i δ d):=by
 have ho:oAt i δ=some (.lst es):=by unfold oAt;rw[hi]
 have sg:∀ {n b:Nat} {w:V},fr[n]? = some b->σ[b]? = some (some w)->(some v :: zdG fr σ)[n+1]? = some (some w):=fun {n b w} h1 h2=>by
  rw[List.getElem?_cons_succ]
  unfold zdG
  rw[List.getElem?_map,h1]
  show some ((σ[b]?).join)=_
  rw[h2]
  rfl
 refine⟨fh,fun a u h=>(zaq h).2,by simp[cEnX,zdG],fun n e h=>?_,fun a b l ds e hab h1=>?_,fun a b e1 e2 v1 v2 ad hab q1 q2 q3 q4 q5 q6 q7=>?_,fun w o hw _=>by cases hw⟩
 ·cases n with
  | zero=>cases h;exact⟨v,rfl,r⟩
  | succ n=>
   obtain⟨b,h1,h2⟩:=zet h
   rcases h2 with ⟨rfl,o,h3,rfl⟩ | ⟨d',h3,rfl⟩
   ·rw[ho] at h3
    cases h3
    refine⟨_,sg h1 hs,?_⟩
    obtain⟨A,t,_,f⟩:=s.at hi hs
    cases t with
    | lst e1 e2=>exact⟨[l],.lst (sh _ _ e1) e2,by simp,fun a ha=>⟨(f a ha).1,zbh ha⟩⟩
   ·obtain⟨w,h4,h5⟩:=s.ent b _ h3
    exact⟨w,sg h1 h4,h5⟩
 ·cases a with
  | zero=>cases h1
  | succ n=>
   obtain⟨b,_,h2⟩:=zet h1
   rcases h2 with ⟨_,o,_,z⟩ | ⟨d',_,z⟩ <;> cases z
 ·cases a with
  | zero=>cases q1;cases q5
  | succ n=>
   obtain⟨x,h1,h2⟩:=zet q1
   rcases h2 with ⟨hx,o,_,rfl⟩ | ⟨d',_,rfl⟩
   ·cases b with
    | zero=>cases q3;exact q7
    | succ n'=>
     obtain⟨y,h3,h4⟩:=zet q3
     rcases h4 with ⟨hy,o',_,rfl⟩ | ⟨d',_,rfl⟩
     ·subst hx hy
      exact hab (by rw[(List.getElem?_inj (List.getElem?_eq_some_iff.mp h1).1 hnd).mp (h1.trans h3.symm)])
     ·exact q7
   ·cases q5
end
noncomputable def tDX(K:PySem.W.Frag)(f:FXE):TE:=fun σ H Q=>∃ B F δ d δ',RS K B F H σ δ/\f δ=some (d,δ')/\∀ v F' H',RS K B F' H' σ δ'->FX B F F'->Rep F' v d->Q v H'
theorem semX_tDX{K:PySem.W.Frag}{f:FXE}:SemX K (tDX K f) f:=fun B F _ _ δ d δ' _ s q k=>⟨B,F,δ,d,δ',s,q,k⟩
theorem VX.uni{X:Cx}{e:Expr}{f:FXE}(h:VX X e f):WE X e (tDX X.K f):=
 let⟨_,w,m⟩:=h.h;⟨fun pins s σ H Q I z=>let⟨B,F,δ,d,δ',s',q,k⟩:=z;w.h pins s σ H Q I (m B F H σ δ d δ' Q s' q k)⟩
theorem SemX.lc{K:PySem.W.Frag}{fr:List Nat}{i j:Nat}{wi:TI}{te:TE}{fi:FI}{fx:FXE}(hj:fr[j]? = some i)(hnd:fr.Nodup)(mi:SemI K wi fi)(me:SemX K te fx):SemX K (tLC fr wi tNoIf te) (xLC fr i j fi fx):=fun B F H σ δ d δ' Q s q k=>by
 obtain⟨es0,q0,q⟩:=bind_some q
 obtain⟨o,q00,q01⟩:=bind_some q0
 cases zev q01
 obtain⟨ds,q1,q⟩:=bind_some q
 obtain⟨⟨out,δe⟩,q2,q⟩:=bind_some q
 split at q
 ·rename_i hlen
  have hlen:out.length<=1000000:=hlen
  cases q
  refine mi B F H σ δ ds _ s q1 fun J F1 H1 x1 io=>?_
  have s1:=s.ext x1
  intro a ha
  refine⟨fun n m ys H'=>m=ds.length - n/\n<=ds.length/\∃ F' Hn δ1 done rest es,H'=upd Hn a (.lst ys)/\Hn a=none/\RS K B F' Hn σ δ1/\FX B F1 F'/\Reps F' ys done/\δ1[i]? = some (some (.obj (.lst es)))/\lcX fr i j fx (ds.drop n) δ1=some (rest,δe)/\out=done ++ rest,
   ⟨_,rfl,Nat.zero_le _,F1,H1,δ,[],out,es0,rfl,ha,s1,.refl,.nil,zaz q00,q2,rfl⟩,?_⟩
  rintro n m ys H' ⟨rfl,hi,F',Hn,δ1,dn,rest,es,rfl,hna,s',y',rs,hes,q',eo⟩
  have sN:Same Hn (upd Hn a (.lst ys)):=Same.alloc hna
  have fa:F' a=none:=s'.fh.free hna
  obtain⟨hstop,hgo⟩:=io F' (upd Hn a (.lst ys)) y'.ff (s'.fh.trans sN) (s'.bh.trans sN)
  by_cases hlt:n<ds.length
  ·right
   have hd:ds[n]? = some ds[n]:=by simp[hlt]
   obtain⟨g1,g2⟩:=hgo n _ hd
   rw[List.drop_eq_getElem_cons hlt] at q'
   obtain⟨p1,q3,q'⟩:=bind_some q'
   obtain⟨es1,q4,q'⟩:=bind_some q'
   obtain⟨o1,q4,q5⟩:=bind_some q4
   cases zev q5
   obtain⟨⟨rest1,δ2⟩,q6,q'⟩:=map_some q'
   cases q'
   refine⟨g1,fun v H2 yl=>?_⟩
   obtain⟨F2,x2,r2⟩:=g2 v H2 yl
   have f2a:F2 a=none:=(x2.nw a _ zag rfl).trans fa
   have h2a:H2 a=some (.lst ys):=x2.hh _ _ zag
   have xn:Ex F' Hn F2 (zc8 H2 [a]):=⟨x2.ff,fun b u e=>zaK (fun z=>by
     rw[List.mem_singleton.mp z,f2a] at e
     cases e) (x2.fh _ _ e),fun b u e=>zaK (fun z=>by
     rw[List.mem_singleton.mp z,hna] at e
     cases e) (x2.hh _ _ (sN _ _ e)),fun b u e ht=>x2.nw b u (sN _ _ e) ht⟩
   have s2:=s'.ext xn
   obtain⟨w0,hs0,A0,t0,n0,f0⟩:=s2.ent i _ hes
   cases t0 with
   | @lst l vs _ e1 e2=>
    obtain⟨hla,e1'⟩:=zaq e1
    have hla':l ≠ a:=fun z=>hla (by simp[z])
    have sc:=s2.capX (v:=v) (d:=ds[n]) (fr:=fr) (fun b u e=>(zaq e).2) x2.fh hes hs0 hnd r2
    show te _ H2 _
    refine me _ F2 H2 _ _ p1.1 p1.2 _ sc q3 fun w F4 H4 s4 y4 r4=>?_
    have keep:∀ b u,b ≠ l->H2 b=some u->H4 b=some u:=fun b u hb e=>s4.bh b u (zaK (by simpa using hb) e)
    have f4a:F4 a=none:=(y4.nw a _ (zaK (by simpa using Ne.symm hla') h2a) rfl).trans f2a
    have h4a:=keep a _ (Ne.symm hla') h2a
    have hsl:(some v :: zdG fr σ)[j+1]? = some (some (.ref l)):=by
     rw[List.getElem?_cons_succ]
     unfold zdG
     rw[List.getElem?_map,hj]
     show some ((σ[i]?).join)=_
     rw[hs0]
     rfl
    obtain⟨A5,t5,_,f5⟩:=s4.at (zaz q4) hsl
    cases t5 with
    | @lst _ vs5 _ g1 g2=>
     have fl:F4 l=none:=(f5 l (by simp)).1
     have ch:Chg (zc8 H2 [a]) F2 F4 (zc8 H4 [a]) [l]:=⟨y4.ff,fun b u e=>zaK (fun z=>by
       rw[List.mem_singleton.mp z,f4a] at e
       cases e) (s4.fh _ _ e),fun b u e=>by
       obtain⟨z1,z2⟩:=zaq e
       obtain⟨z3,z4⟩:=zaq z2
       exact zaK z3 (keep b u (by simpa using z1) z4),fun b u e ht=>by
       obtain⟨z1,z2⟩:=zaq e
       exact y4.nw b u (zaK z1 (zaq z2).2) ht⟩
     obtain⟨s5,y5⟩:=s2.chg (o':=.lst es1) (A':=[l]) hes hs0 (.lst e1 e2) ch (.lst (zaK hla g1) g2) (by simp) fun b hb=>by
      cases List.mem_singleton.mp hb
      exact⟨fl,zbh (by simp)⟩
     have hil:i<δ1.length:=(List.getElem?_eq_some_iff.mp hes).1
     have hy:ys.length<sizeLine:=by
      rw[rs.length,sizeLine_eq]
      have:out.length=dn.length+(rest1.length+1):=by rw[eo];simp
      lia
     refine⟨h4a,hy,ds.length - (n+1),by lia,rfl,hlt,F4,zc8 H4 [a],δ1.set i (some (.obj (.lst es1))),dn ++ [p1.1],rest1,es1,?_,zbh (by simp),s5,(y'.trans (.of xn s'.bh)).trans y5,((rs.mono x2.ff).mono y4.ff).append (.one r4),by rw[List.getElem?_set,if_pos rfl,if_pos hil],q6,by rw[eo];simp⟩
     funext b
     unfold upd
     split
     ·rfl
     ·rename_i hb;exact(zcC (by simpa using hb)).symm
  ·left
   have e:n=ds.length:=by lia
   subst e
   rw[List.drop_length] at q'
   cases q'
   rw[List.append_nil] at eo
   subst eo
   have xa:Ex F' Hn (upd F' a (.lst ys)) (upd Hn a (.lst ys)):=Ex.alloc s'.fh hna
   exact⟨hstop,k _ _ _ (s'.ext xa) (((FX.of x1 s.bh).trans y').trans (.of xa s'.bh)) (.lst zag (rs.mono (Same.alloc fa)))⟩
 ·cases q
section
variable {X:Cx}{N:List Str}{fr:List Nat}{x:Str}{scope:Scope}{iter elt:Expr}{px pos:Pos}{fi:FI}{fx:FXE}
theorem xlc(i j:Nat)(S:CompSc X N fr x scope)(hi:VI X (.Name x px) iter fi)(he:∀ (C:Addr) (s₀:Shared) (H₀:Hp) (fp:List Addr),VX (cxC X N scope C s₀ H₀ fp) elt fx)(hj:fr[j]? = some i:=by rfl)(hnd:fr.Nodup:=by decide)
  (hc:X.calm=true:=by rfl) (hs:∀ z,foldedSetIterable iter X.env z=pure z:=by intro _;rfl):VX X (.ListComp elt [⟨.Name x px,iter,[],0⟩] scope pos) (xLC fr i j fi fx):=
 let⟨_,w1,m1⟩:=hi.h;⟨_,wlc S hc w1 (fun _ _ _ _=>ifs0) (fun C s₀ H₀ fp=>(he C s₀ H₀ fp).uni) hs,SemX.lc hj hnd m1 semX_tDX⟩
end
end L3

namespace L3
open PySem PySem.Spec PyProof.Rows L2
mutual
noncomputable def toD(kC:Str->Addr):OT->Option D
 | .val d=>some d
 | .ins c ns l=>(toDs kC l).map (.ins (kC c) ns)
 | .dcI ks l=>(toDs kC l).map (.dcI ks)
 | _=>none
noncomputable def toDs(kC:Str->Addr):List OT->Option (List D)
 | []=>some []
 | o :: os=>(toD kC o).bind fun d=>(toDs kC os).map fun ds=>d :: ds
end
mutual
noncomputable def plD:D->Bool
 | .non=>true
 | .bl _=>true
 | .int _=>true
 | .str _=>true
 | .tup l=>plDs l
 | _=>false
noncomputable def plDs:List D->Bool
 | []=>true
 | d :: ds=>plD d && plDs ds
end
section
variable {K:PySem.W.Frag}{kC:Str->Addr}{F H F1:Hp}{A:List Addr}
theorem TR.frz(hK:∀ c C,zb4 K c C->C=kC c)(sf:Same F F1){v:V}{o:OT}{A:List Addr}(t:TR K F H v o A):(∀ a ∈ A,F1 a=H a)->∀ {d:D},toD kC o=some d->Rep F1 v d:=by
 refine TR.rec (motive_1:=fun v o A _=>(∀ a ∈ A,F1 a=H a)->∀ {d:D},toD kC o=some d->Rep F1 v d) (motive_2:=fun vs os A _=>(∀ a ∈ A,F1 a=H a)->∀ {ds:List D},toDs kC os=some ds->Reps F1 vs ds) ?_ ?_ ?_ ?_ ?_ ?_ t
 ·intro _ _ r _ d q
  simp only[toD] at q
  cases q
  exact Rep.mono sf r
 ·intro _ _ _ _ _ _ d q;simp only[toD] at q;cases q
 ·intro _ _ _ _ _ _ _ _ hc e1 _ hl _ ih h d q
  simp only[toD] at q
  obtain⟨ds,q1,q⟩:=map_some q
  subst q
  rw[<- hK _ _ hc]
  exact .ins ((h _ List.mem_cons_self).trans e1) hl (ih (fun a ha=>h a (List.mem_cons_of_mem _ (List.mem_cons_of_mem _ ha))) q1)
 ·intro _ _ _ _ _ _ e1 d1 hl _ ih h d q
  simp only[toD] at q
  obtain⟨ds,q1,q⟩:=map_some q
  subst q
  exact .dcI ((h _ List.mem_cons_self).trans e1) d1 hl (ih (fun a ha=>h a (List.mem_cons_of_mem _ ha)) q1)
 ·intro _ d q
  simp only[toDs] at q
  cases q
  exact .nil
 ·intro _ _ _ _ _ _ _ _ i1 i2 h d q
  simp only[toDs] at q
  obtain⟨d1,q1,q⟩:=bind_some q
  obtain⟨ds,q2,q⟩:=map_some q
  subst q
  exact .cons (i1 (fun a ha=>h a (List.mem_append_left _ ha)) q1) (i2 (fun a ha=>h a (List.mem_append_right _ ha)) q2)
theorem Rep.off(hA:∀ a ∈ A,∃ u,F a=some u/\isT u=false){v:V}{d:D}(r:Rep F v d):plD d=true->Rep (zc8 F A) v d:=by
 refine Rep.rec (motive_1:=fun v d _=>plD d=true->Rep (zc8 F A) v d) (motive_2:=fun vs ds _=>plDs ds=true->Reps (zc8 F A) vs ds) (fun _=>.non) (fun b _=>.bl b) (fun i _=>.int i) (fun x _=>.str x) ?_ ?_ ?_ ?_ ?_ (fun _=>.nil) ?_ r
 ·intro _ _ _ e _ ih h
  simp only[plD] at h
  refine .tup (zaK (fun z=>?_) e) (ih h)
  obtain⟨u,h1,h2⟩:=hA _ z
  rw[e] at h1
  cases h1
  cases h2
 ·intro _ _ _ _ _ _ h;simp only[plD] at h;cases h
 ·intro _ _ _ _ _ _ _ _ _ h;simp only[plD] at h;cases h
 ·intro _ _ _ _ _ _ _ _ _ _ h;simp only[plD] at h;cases h
 ·intro _ _ _ _ _ _ _ _ _ _ h;simp only[plD] at h;cases h
 ·intro _ _ _ _ _ _ i1 i2 h
  simp only[plDs,Bool.and_eq_true] at h
  exact .cons (i1 h.1) (i2 h.2)
end
noncomputable def endR:Out->Option D
 | .rt (.val d) _=>if plD d=true then some d else none
 | .nx _=>some .non
 | _=>none
noncomputable def semR(kC:Str->Addr)(n m:Nat)(f:FS)(o:OT)(ds:List D):Option D:=if ds.length=n then (toD kC o).bind fun d0=>(f (some (.val d0) :: (ds.map fun d=>some (.val d)) ++ List.replicate m none)).bind endR else none
open Classical in
noncomputable def semRA(n m:Nat)(f:(Str->Addr)->FS):GM:=fun o ds=>if h:∃ d,∀ kC,semR kC n m (f kC) o ds=some d then some (h.choose,o) else none
theorem zgc{n m:Nat}{f:(Str->Addr)->FS}{o:OT}{ds:List D}{d:D}(h:∀ kC,semR kC n m (f kC) o ds=some d):semRA n m f o ds=some (d,o):=by
 have hx:∃ d,∀ kC,semR kC n m (f kC) o ds=some d:=⟨d,h⟩
 unfold semRA
 rw[dif_pos hx]
 have:=(hx.choose_spec (fun _=>0)).symm.trans (h fun _=>0)
 rw[Option.some.inj this]
theorem zee{n m:Nat}{f:(Str->Addr)->FS}{o:OT}{ds:List D}{r:D × OT}(h:semRA n m f o ds=some r):r.2=o/\∀ kC,semR kC n m (f kC) o ds=some r.1:=by
 unfold semRA at h
 split at h
 ·rename_i hx
  cases h
  exact⟨rfl,hx.choose_spec⟩
 ·cases h
theorem kC_ex(K:PySem.W.Frag):∃ kC:Str->Addr,∀ c C,zb4 K c C->C=kC c:=by
 classical
 refine⟨fun c=>if h:∃ C,zb4 K c C then h.choose else 0,fun c C h=>?_⟩
 have hx:∃ C,zb4 K c C:=⟨C,h⟩
 show C=if h:∃ C,zb4 K c C then h.choose else 0
 rw[dif_pos hx]
 exact zbZ h hx.choose_spec
section
variable {P:Program}{w:World}{K:PySem.W.Frag}{mg:Str->Option Value}{base:Heap}{x qual:Str}{st:Stmt}{f:Addr}{fd:FuncData}{N ps:List Str}{k n:Nat}{g:GM}
theorem fn_okR{kC:Str->Addr}(hK:∀ c C,zb4 K c C->C=kC c)(F:FunA K x qual st f fd)(S:FnScope N ps (zac st))(fb:FS)(hk:ps.length=n+1)(hg:∀ o ds r,g o ds=some r->r.2=o/\semR kC n (N.length - ps.length) fb o ds=some r.1)
  (hbody:∀ (cdv:Value) (A:Around) (outer:List Env) (s:Shared) (H:Hp) (E:XK),Room k (A.deeper (envOfC qual (zac st) s.heap.objs.size f cdv))->VSs (cxOf CX0 P w K mg base N qual (zac st) f cdv A outer s H E).nox (zam st) fb) :
  FnOk P w K mg base CX0 (k+1) f fd ps (spM K g):=by
 obtain⟨oc,od,dV,kV,doc,pm,an,cdv,ct,osl,rfl,lk,hcd⟩:=F.ex
 refine fn_of lk hcd S (fun vs H Q E h=>?_) fun A outer s H vs Q E hr h=>?_
 ·obtain⟨v,ws,F,o,A,ds,d,o',rfl,_,_,_,_,rs,q,_⟩:=h
  have:=(hg _ _ _ q).2
  unfold semR at this
  split at this
  ·rename_i hl;rw[List.length_cons,rs.length,hl,hk]
  ·cases this
 ·obtain⟨v,ws,F,o,A,ds,d,o',rfl,fh,t,nd,fA,rs,q,kk⟩:=h
  obtain⟨tt,wt,m⟩:=(hbody cdv _ outer s H E hr).h
  refine⟨tt,wt.h.nox,?_⟩
  obtain⟨ho,q2⟩:=hg _ _ _ q
  cases (show o'=o from ho)
  unfold semR at q2
  split at q2
  ·rename_i hl
   obtain⟨d0,q3,q2⟩:=bind_some q2
   obtain⟨out,q4,q5⟩:=bind_some q2
   have hws:=rs.length
   have hFA:∃ F1:Hp,Same F F1/\Same F1 H/\(∀ a ∈ A,F1 a=H a)/\∀ a,a ∉ A->F1 a=F a:=by
    refine⟨fun a=>if a ∈ A then H a else F a,fun a u e=>?_,fun a u e=>?_,fun a ha=>if_pos ha,fun a ha=>if_neg ha⟩
    ·show(if a ∈ A then H a else F a)=some u
     rw[if_neg fun ha=>by rw[fA a ha] at e;cases e]
     exact e
    ·have e':(if a ∈ A then H a else F a)=some u:=e
     split at e'
     ·exact e'
     ·exact fh a u e'
   obtain⟨F1,s1,s2,s3,s4⟩:=hFA
   have r0:=t.frz hK s1 s3 q3
   have rs1:=rs.mono s1
   have ent:∀ (i:Nat) (e:Ent),(some (Ent.val d0) :: (ds.map fun d=>some (Ent.val d)) ++ List.replicate (N.length - ps.length) none)[i]? = some (some e)->∃ y d,(v :: ws)[i]? = some y/\e=.val d/\Rep F1 y d:=fun i e h=>by
    cases i with
    | zero=>simp at h;exact⟨v,d0,rfl,h.symm,r0⟩
    | succ j=>
     rw[List.cons_append,List.getElem?_cons_succ] at h
     by_cases hj:j<(ds.map fun d=>some (Ent.val d)).length
     ·rw[List.getElem?_append_left hj,List.getElem?_map] at h
      cases z:ds[j]? with
      | none=>rw[z] at h;cases h
      | some d=>
       rw[z] at h
       cases h
       obtain⟨y,hy,ry⟩:=rs1.get z
       exact⟨y,d,by simpa using hy,rfl,ry⟩
     ·rw[List.getElem?_append_right (by lia),List.getElem?_replicate] at h
      split at h <;> cases h
   have sv:∀ (i:Nat) (y:V),(v :: ws)[i]? = some y->(L2.start N (v :: ws))[i]? = some (some y):=fun i y h=>by
    unfold L2.start
    rw[List.getElem?_append_left (by rw[List.length_map];exact(List.getElem?_eq_some_iff.mp h).1),List.getElem?_map,h]
    rfl
   have s0:RS K ⟨H,none⟩ F1 H (L2.start N (v :: ws)) (some (.val d0) :: (ds.map fun d=>some (.val d)) ++ List.replicate (N.length - ps.length) none):=by
    refine⟨s2,Same.refl H,?_,fun i e h=>?_,fun a b l es e hab h1=>?_,fun a b e1 e2 v1 v2 ad hab q1 q2 q3 q4 q5=>?_,fun w p hw _=>by cases hw⟩
    ·unfold L2.start
     simp only[List.length_append,List.length_map,List.length_replicate,List.length_cons]
     lia
    ·obtain⟨y,d,h1,rfl,h2⟩:=ent i e h
     exact⟨y,sv i y h1,h2⟩
    ·obtain⟨_,_,_,z,_⟩:=ent a _ h1
     cases z
    ·obtain⟨_,_,_,z,_⟩:=ent a _ q1
     subst z
     cases q5
   have fin:∀ (δ':En) (σ':Sg) (F' H':Hp) (y:V),RS K ⟨H,none⟩ F' H' σ' δ'->FX H F1 F'->Rep F' y d->plD d=true->Q y H':=fun δ' σ' F' H' y s' y' ry hp=>by
    have same:∀ a ∈ A,∃ u,H a=some u/\F' a=some u/\isT u=false:=fun a ha=>by
     obtain⟨u,h1,h2⟩:=t.lies a ha
     exact⟨u,h1,((y'.nw a u h1 h2).trans (s3 a ha)).trans h1,h2⟩
    have sF:Same F (zc8 F' A):=fun a u e=>zaK (fun ha=>by rw[fA a ha] at e;cases e) (y'.ff a u (s1 a u e))
    refine kk y (zc8 F' A) H' A ⟨sF,fun a u e=>s'.fh a u (zaq e).2,fun a u e=>s'.bh a u (zaq e).2,fun a u e ht=>?_⟩ (t.move sF fun a ha=>?_) nd (fun a ha=>⟨zbh ha,zbh ha⟩) (ry.off (fun a ha=>let⟨u,_,h2,h3⟩:=same a ha;⟨u,h2,h3⟩) hp)
    ·obtain⟨h1,h2⟩:=zaq e
     rw[zcC h1,y'.nw a u h2 ht,s4 a h1]
    ·obtain⟨u,h1,_⟩:=same a ha
     rw[h1]
     exact s'.bh a u h1
   refine m ⟨H,none⟩ F1 H (L2.start N (v :: ws)) _ out _ s0 q4 ?_
   cases out with
   | nx δ'=>cases q5;exact fun σ' F' H' s' y=>fin δ' σ' F' H' .non s' y .non rfl
   | rt r' δ'=>
    cases r' with
    | val d'=>
     have q6:(if plD d'=true then some d' else none)=some d:=q5
     split at q6
     ·rename_i hp
      cases q6
      exact fun y σ' F' H' s' yy z=>fin δ' σ' F' H' y s' yy z hp
     ·cases q6
    | _=>cases q5
   | bk δ'=>cases q5
   | ct δ'=>cases q5
  ·cases q2
end
noncomputable def fNon:OT->Option Bool
 | .val d=>some (isN (.val d))
 | .ins _ _ _=>some false
 | _=>none
noncomputable def eFIs(i:Nat)(c:Str)(ns:List Str)(k:Nat):FE:=fun δ=>((oAt i δ).bind (isC c ns)).bind fun l=>((l[k]?).bind fNon).map fun b=>.val (.bl b)
noncomputable def xCOF(i:Nat)(c:Str)(ns:List Str)(k:Nat)(g:GM)(fa:FA):FXE:=fun δ=>((oAt i δ).bind (isC c ns)).bind fun l=>(l[k]?).bind fun o=>((fa δ).bind zd2).bind fun ds=>(g o ds).map fun p=>(p.1,δ.set i (some (.obj (.ins c ns (l.set k p.2)))))
section
variable {X:Cx}{e:Expr}{es:List Expr}{pos pos' p p2:Pos}{fa:FA}{x y f c qual:Str}{ns nsF ps:List Str}{g:GM}{fd:FuncData}{fm:Addr}{st:Stmt}{kk j:Nat}{CX:CXT}{E:XK}
theorem vFIs(i k:Nat){n:Nat}(hc:ClsF X.K c nsF)(hf:f ∈ nsF:=by decide +kernel)(hk:ns[k]? = some f:=by rfl)(hn:ns.Nodup:=by decide +kernel)(hN:X.N[i]? = some x:=by rfl)(hv:Vis X.env.scope x:=by first | exact Or.inl rfl | exact Or.inr (Or.inl rfl) | exact Or.inr (Or.inr rfl))(hd:(x == ("__debug__" : Str))=false:=by decide)
  (hcd:(x == ("__classdict__" : Str))=false:=by decide) (hb:attributeBase (.Name x p) f X.env (eval (.Name x p) X.env)=eval (.Name x p) X.env:=by rfl) (hm:behindInMarks .Is (.Constant .none n p2)=false:=by rfl) :
  VT X (.Compare (.Attribute (.Name x p) f pos') [.Is] [.Constant .none n p2] pos) (tOf (eFIs i c ns k)):=by
 refine⟨_,tcmp op_isN ⟨zdn (wv i hN hv hd hcd).h hb⟩ wnon hm,fun B F H σ δ b Q s q kk=>?_⟩
 obtain⟨res,q,q9⟩:=bind_some q
 obtain⟨l,q0,q⟩:=bind_some q
 obtain⟨o,q0,q1⟩:=bind_some q0
 obtain⟨b',q2,q⟩:=map_some q
 subst q
 cases q9
 obtain⟨x1,q2,q3⟩:=bind_some q2
 cases zdb q1
 obtain⟨v,h1,A,t,n,h⟩:=s.ent i _ (zaz q0)
 cases t with
 | ins hcl e1 e2 hl ts=>
  obtain⟨w,A1,h2,h3,_⟩:=ts.focus q2
  obtain⟨g1,g2⟩:=hc.h _ hcl
  refine⟨_,h1,_,_,_,_,w,rfl,e1,g1,g2 f hf,zcE hn hk h2,rfl,_,rfl,?_⟩
  have e:decide (w=.non)=b:=by
   cases x1 with
   | val d=>cases q3;cases h3 with | val h3=>exact isN_ok (K:=X.K) (H0:=H) (H:=H) (e:=.val d) h3
   | ins _ _ _=>cases q3;cases h3;rfl
   | _=>cases q3
  rw[e]
  exact kk F H (Ex.refl s.fh)
theorem xcof(i k:Nat)(hc:ClsF X.K c nsF)(F:FnOk X.prog X.w X.K X.mg X.base CX kk fm fd ps (spM X.K g))(D:Def X.K X.mg y st ps fm fd)(hr:Room j X.A)(hg:Gl X y)(hx:zbM CX X E)(ha:VA X es fa)(hf:f ∈ nsF:=by decide +kernel)(hk:ns[k]? = some f:=by rfl)(hn:ns.Nodup:=by decide +kernel)(hjk:kk<=j:=by decide)
  (hdb:(y == ("__debug__" : Str))=false:=by decide) (h2:es.all zak=true:=by rfl) (hN:X.N[i]? = some x:=by rfl) (hv:Vis X.env.scope x:=by first | exact Or.inl rfl | exact Or.inr (Or.inl rfl) | exact Or.inr (Or.inr rfl)) (hd:(x == ("__debug__" : Str))=false:=by decide) (hcd:(x == ("__classdict__" : Str))=false:=by decide)
  (hb:attributeBase (.Name x p) f X.env (eval (.Name x p) X.env)=eval (.Name x p) X.env:=by rfl) :
  VX X (.Call (.Name y p2) (.Attribute (.Name x p) f pos' :: es) [] pos) (xCOF i c ns k g fa):=by
 obtain⟨t,w,m⟩:=ha.h
 refine⟨_,wcl F D hr hg hx (wac ⟨zdn (wv i hN hv hd hcd).h hb⟩ w rfl) hjk hdb rfl h2,fun B F H σ δ d δ' Q s q kk=>?_⟩
 obtain⟨l,q0,q⟩:=bind_some q
 obtain⟨o,q0,q1⟩:=bind_some q0
 obtain⟨o1,q5,q⟩:=bind_some q
 obtain⟨ds,q2,q⟩:=bind_some q
 obtain⟨rs,q2,q3⟩:=bind_some q2
 obtain⟨p1,q4,q⟩:=map_some q
 cases q
 cases zdb q1
 obtain⟨v,h1,A,t0,n0,f0⟩:=s.ent i _ (zaz q0)
 cases t0 with
 | ins hcl e1 e2 hl ts=>
  obtain⟨g1,g2⟩:=hc.h _ hcl
  obtain⟨w,A1,h2,h3,h4,h4n,_⟩:=ts.focus q5
  have nA:=(List.nodup_cons.mp (List.nodup_cons.mp n0).2).2
  refine⟨_,h1,_,_,_,_,w,rfl,e1,g1,g2 f hf,zcE hn hk h2,?_⟩
  refine m B F H σ δ rs _ s q2 fun vs F1 H1 x1 r1=>?_
  obtain⟨F2,x2,_,r2⟩:=RepRs.frz x1 (Same.refl _) r1 q3
  have s2:=s.ext x2
  have tt:=h3.ext x2
  have ts2:=ts.move (H':=H1) x2.ff fun b hb=>let⟨u,hu,_⟩:=ts.lies b hb;(x2.hh _ _ hu).trans hu.symm
  rw[List.append_nil]
  refine⟨w,vs,F2,_,_,ds,p1.1,p1.2,rfl,s2.fh,tt.1,h4n nA,fun a ha=>(tt.2 a ha).trans (f0 a (List.mem_cons_of_mem _ (List.mem_cons_of_mem _ (h4 a ha)))).1,r2,q4,fun y F' H' A' ch t' n' f' ry=>?_⟩
  obtain⟨z1,z2⟩:=s2.sub (zaz q0) h1 hcl (x2.hh _ _ e1) (x2.hh _ _ e2) hl ts2 q5 h2 tt.1 ch t' n' f'
  exact kk y F' H' z1 ((FX.of x2 s.bh).trans z2) ry
theorem vmake0{C:Addr}(DC:ClsD X.K X.mg c nsF C)(D:MakeD X.K c st qual ps fm fd)(F:FnOk X.prog X.w X.K X.mg X.base CX kk fm fd ps (spM X.K g))(hr:Room j X.A)(hg:Gl X c)(hx:zbM CX X E)(hjk:kk+1<=j:=by decide)(hdb:(c == ("__debug__" : Str))=false:=by decide) :
  VE X (.Call (.Name c p) [] [] pos) (zdy c g zaf):=⟨_,⟨pe_make0 (D.at_ _ DC.at_) F (hr.mono hjk) hg DC.mg D.b .nil hx hdb⟩,.make semNil DC.at_⟩
end
end L3

namespace L3
open PySem PySem.Spec PyProof.Rows L2
noncomputable def mkK(w:Str)(ks:List Int)(os:List OT):OT:=.ins "Knot" ["word","branches"] [.val (.str w),.dcI ks os]
noncomputable def knOf:OT->Option (Str × List Int × List OT)
 | .ins c ns [.val (.str w),.dcI ks os]=>if c = "Knot" /\ ns=(["word","branches"]:List Str) then some (w,ks,os) else none
 | _=>none
theorem knOf_some{o:OT}{p:Str × List Int × List OT}(h:knOf o=some p):o=mkK p.1 p.2.1 p.2.2:=by
 unfold knOf at h
 split at h
 ·split at h
  ·rename_i z;cases h;rw[z.1,z.2];rfl
  ·cases h
 ·cases h
theorem knOf_mk(w:Str)(ks:List Int)(os:List OT):knOf (mkK w ks os)=some (w,ks,os):=by
 unfold knOf mkK
 exact if_pos ⟨rfl,rfl⟩
noncomputable def zf0(rc:OT->Option (Bool × OT))(w w':Str)(ks:List Int)(os:List OT)(p:Int):Option (Bool × OT):=
 if 0<p then (match ixI ks p with
  | some j=>(os[j]?).bind fun y=>(rc y).map fun q=>(q.1,mkK w' ks (os.set j q.2))
  | none=>if ks.length<1000000 then some (true,mkK w' (ks ++ [p]) (os ++ [mkK w [] []])) else none)
 else if p=0 then some (false,mkK w' ks os) else none
noncomputable def zds(gs:List D->Option Ent)(w:Str):Nat->OT->Option (Bool × OT)
 | 0,_=>none
 | n+1,x=>(knOf x).bind fun k=>((gs [.str k.1,.str w]).bind iOf).bind fun p=>zf0 (zds gs w n) w k.1 k.2.1 k.2.2 p
noncomputable def sAt(i:Nat):En->Option Str:=fun δ=>match δ[i]? with
 | some (some (.val (.str z)))=>some z
 | _=>none
theorem sAt_some{i:Nat}{δ:En}{z:Str}(h:sAt i δ=some z):δ[i]? = some (some (.val (.str z))):=by
 unfold sAt at h
 split at h
 ·rename_i e;cases h;exact e
 ·cases h
noncomputable def fHang(gs:List D->Option Ent):FS:=fun δ=>(oAt 0 δ).bind fun o=>(sAt 1 δ).bind fun w=>if 3<δ.length then (zds gs w 1000 o).map fun p=>.rt (.val (.bl p.1)) (δ.set 0 (some (.obj p.2))) else none
noncomputable def tSl(K:PySem.W.Frag)(gs:List D->Option Ent):TE:=tCall (spD K [.v,.v] gs) [] E0 (tCons (zha K (zcN 2) "word") (tCons (zcN 1) tNil))
noncomputable def tHang(K:PySem.W.Frag)(gs:List D->Option Ent)(tK:TE):TS:=tSeq (zeU (zcN 0) (zcI 2)) (tSeq (zeU (tSl K gs) (zcI 3)) (tSeq (zgC (tAnd (zey (tOp (rI0 fun i j=>.bl (decide (j<i))) (zcN 3) (tC (.int 0)))) (zey (tOp rInI (zcN 3) (zha K (zcN 2) "branches"))))
  (tSeq (zeU (tOp rIxI (zha K (zcN 2) "branches") (zcN 3)) (zcI 2)) (zeU (tSl K gs) (zcI 3))))
 (tSeq (tIfS (zey (tOp rEq (zcN 3) (tC (.int 0)))) (tRet (tC (.bl false))) tNext) (tSeq (zeU tK (gSub (zha K (zcN 2) "branches") (zcN 3) rSetI)) (tRet (tC (.bl true)))))))
section
variable {K:PySem.W.Frag}{F H:Hp}{v v1:V}{w w':Str}{ks:List Int}{os:List OT}{A A1 A4:List Addr}{a dx l C:Addr}{o:Obj}{vs:List V}{up:OT->OT}{gs:List D->Option Ent}
theorem zdD(t:TR K F H v (mkK w ks os) A):∃ a dx C l o vs A4,v=.ref a/\A=a :: dx :: l :: A4/\zb4 K "Knot" C/\H a=some (.ins C dx [("word",.str w),("branches",.ref l)])/\H dx=some (.own a)/\H l=some (knO l o)/\DiD l o ((ks.map Sum.inl).zip vs)/\ks.length=vs.length/\TRs K F H vs os A4:=by
 cases t with
 | ins hc e1 e2 hl ts=>
  cases ts with
  | cons t1 ts=>
   cases t1 with
   | val r=>
    cases r
    cases ts with
    | cons t2 ts=>
     cases ts
     cases t2 with
     | dcI e d hl2 ts2=>exact⟨_,_,_,_,_,_,_,rfl,by simp,hc,e1,e2,e,d,hl2,ts2⟩
theorem kn_mk(hc:zb4 K "Knot" C)(e1:H a=some (.ins C dx [("word",.str w),("branches",.ref l)]))(e2:H dx=some (.own a))(e:H l=some (knO l o))(d:DiD l o ((ks.map Sum.inl).zip vs))(hl:ks.length=vs.length)(ts:TRs K F H vs os A4):TR K F H (.ref a) (mkK w ks os) (a :: dx :: l :: A4):=by
 unfold mkK
 have:=TR.ins (ns:=["word","branches"]) (vs:=[.str w,.ref l]) hc e1 e2 rfl (.cons (.val (.str w)) (.cons (.dcI e d hl ts) .nil))
 simpa using this
noncomputable def Plug(K:PySem.W.Frag)(F H:Hp)(v:V)(A:List Addr)(v1:V)(A1:List Addr)(up:OT->OT):Prop:=(∀ b ∈ A1,b ∈ A) /\
 ∀ (F2 H2:Hp) (x':OT) (A1':List Addr),Same F F2->(∀ b ∈ A,b ∉ A1->H2 b=H b)->TR K F2 H2 v1 x' A1'->A1'.Nodup->(∀ b ∈ A1',b ∈ A1 \/ b ∉ A)->∃ A',TR K F2 H2 v (up x') A'/\A'.Nodup/\∀ b ∈ A',(b ∈ A/\b ∉ A1) \/ b ∈ A1'
theorem Plug.refl:Plug K F H v A v A id:=⟨fun _ h=>h,fun _ _ _ A1' _ _ t n _=>⟨A1',t,n,fun _ hb=>.inr hb⟩⟩
theorem Plug.down{j:Nat}{y:OT}(P:Plug K F H v A (.ref a) (a :: dx :: l :: A4) up)(hc:zb4 K "Knot" C)(e1:H a=some (.ins C dx [("word",.str w),("branches",.ref l)]))(e2:H dx=some (.own a))(e:H l=some (knO l o))(d:DiD l o ((ks.map Sum.inl).zip vs))(hl:ks.length=vs.length)(ts:TRs K F H vs os A4)
  (n:(a :: dx :: l :: A4).Nodup) (hj:os[j]? = some y):∃ v2 A2,vs[j]? = some v2/\TR K F H v2 y A2/\A2.Nodup/\Plug K F H v A v2 A2 fun y'=>up (mkK w ks (os.set j y')):=by
 obtain⟨v2,A2,h1,h2,h3,h4,go⟩:=ts.focus hj
 obtain⟨na,n⟩:=List.nodup_cons.mp n
 obtain⟨nd,n⟩:=List.nodup_cons.mp n
 obtain⟨nl,n4⟩:=List.nodup_cons.mp n
 have up4:∀ b ∈ A4,b ∈ a :: dx :: l :: A4:=fun b hb=>List.mem_cons_of_mem _ (List.mem_cons_of_mem _ (List.mem_cons_of_mem _ hb))
 have na4:a ∉ A4:=fun z=>na (List.mem_cons_of_mem _ (List.mem_cons_of_mem _ z))
 have nd4:dx ∉ A4:=fun z=>nd (List.mem_cons_of_mem _ z)
 have top:∀ b,b=a \/ b=dx \/ b=l->b ∈ A/\b ∉ A4:=fun b hb=>by
  rcases hb with rfl | rfl | rfl
  ·exact⟨P.1 _ List.mem_cons_self,na4⟩
  ·exact⟨P.1 _ (List.mem_cons_of_mem _ List.mem_cons_self),nd4⟩
  ·exact⟨P.1 _ (List.mem_cons_of_mem _ (List.mem_cons_of_mem _ List.mem_cons_self)),nl⟩
 refine⟨v2,A2,h1,h2,h4 n4,fun b hb=>P.1 b (up4 b (h3 b hb)),fun F2 H2 y' A2' sf hh ty ny hy=>?_⟩
 obtain⟨A4',m1,m2,m3⟩:=go F2 H2 y' A2' n4 sf (fun b hb hn=>hh b (P.1 b (up4 b hb)) hn) ty ny fun b hb=>(hy b hb).imp id fun z q=>z (P.1 b (up4 b q))
 have st:∀ b,b=a \/ b=dx \/ b=l->H2 b=H b:=fun b hb=>hh b (top b hb).1 fun z=>(top b hb).2 (h3 b z)
 have T:=kn_mk (w:=w) (ks:=ks) (os:=os.set j y') hc ((st a (.inl rfl)).trans e1) ((st dx (.inr (.inl rfl))).trans e2) ((st l (.inr (.inr rfl))).trans e) d hl m1
 have no:∀ b,b=a \/ b=dx \/ b=l->b ∉ A4':=fun b hb z=>by
  rcases m3 b z with z | z
  ·exact(top b hb).2 z.1
  ·rcases hy b z with z | z
   ·exact(top b hb).2 (h3 b z)
   ·exact z (top b hb).1
 have T':(a :: dx :: l :: A4').Nodup:=by
  refine List.nodup_cons.mpr ⟨fun z=>?_,List.nodup_cons.mpr ⟨fun z=>?_,List.nodup_cons.mpr ⟨no l (.inr (.inr rfl)),m2⟩⟩⟩
  ·rcases List.mem_cons.mp z with z | z
   ·exact na (by rw[z];exact List.mem_cons_self)
   ·rcases List.mem_cons.mp z with z | z
    ·exact na (by rw[z];exact List.mem_cons_of_mem _ List.mem_cons_self)
    ·exact no a (.inl rfl) z
  ·rcases List.mem_cons.mp z with z | z
   ·exact nd (by rw[z];exact List.mem_cons_self)
   ·exact no dx (.inr (.inl rfl)) z
 have cs:∀ b ∈ a :: dx :: l :: A4',(b=a \/ b=dx \/ b=l) \/ b ∈ A4':=fun b hb=>by
  rcases List.mem_cons.mp hb with z | hb
  ·exact .inl (.inl z)
  ·rcases List.mem_cons.mp hb with z | hb
   ·exact .inl (.inr (.inl z))
   ·rcases List.mem_cons.mp hb with z | hb
    ·exact .inl (.inr (.inr z))
    ·exact .inr hb
 have tp:∀ b,b=a \/ b=dx \/ b=l->b ∈ a :: dx :: l :: A4:=fun b hb=>by
  rcases hb with rfl | rfl | rfl
  ·exact List.mem_cons_self
  ·exact List.mem_cons_of_mem _ List.mem_cons_self
  ·exact List.mem_cons_of_mem _ (List.mem_cons_of_mem _ List.mem_cons_self)
 obtain⟨A',p1,p2,p3⟩:=P.2 F2 H2 _ _ sf (fun b hb hn=>hh b hb fun z=>hn (up4 b (h3 b z))) T T' fun b hb=>by
  rcases cs b hb with z | z
  ·exact .inl (tp b z)
  ·rcases m3 b z with z | z
   ·exact .inl (up4 b z.1)
   ·exact(hy b z).imp (fun z=>up4 b (h3 b z)) id
 refine⟨A',p1,p2,fun b hb=>?_⟩
 rcases p3 b hb with z | z
 ·exact .inl ⟨z.1,fun q=>z.2 (up4 b (h3 b q))⟩
 ·rcases cs b z with z | z
  ·exact .inl ⟨(top b z).1,fun q=>(top b z).2 (h3 b q)⟩
  ·exact(m3 b z).imp (fun z=>⟨P.1 b (up4 b z.1),z.2⟩) id
theorem sl_ok{σ:Sg}{p:Int}{Q:VK}(hc:ClsF K "Knot" ["word","branches"])(fh:Same F H)(h2:σ[2]? = some (some (.ref a)))(h1:σ[1]? = some (some (.str w)))(t:TR K F H (.ref a) (mkK w' ks os) A)(hg:gs [.str w',.str w]=some (.val (.int p)))
  (k:∀ F' H',Ex F H F' H'->Q (.int p) H'):tSl K gs σ H Q:=by
 obtain⟨a',dx,C,l,o,vs,A4,e,_,hcl,e1,e2,_⟩:=zdD t
 cases e
 obtain⟨g1,g2⟩:=hc.h _ hcl
 refine⟨_,h2,_,_,_,_,_,rfl,e1,g1,g2 "word" (by decide +kernel),rfl,_,h1,?_⟩
 refine⟨F,[.str w',.str w],.val (.int p),fh,.cons (k:=.v) (.str w') (.cons (k:=.v) (.str w) .nil),hg,fun v F' H' x r=>?_⟩
 cases zaI r
 exact k F' H' x
theorem br_ok{σ:Sg}{Q:VK}(hc:ClsF K "Knot" ["word","branches"])(h2:σ[2]? = some (some (.ref a)))(hcl:zb4 K "Knot" C)(e1:H a=some (.ins C dx [("word",.str w),("branches",.ref l)]))(k:Q (.ref l) H):zha K (zcN 2) "branches" σ H Q:=by
 obtain⟨g1,g2⟩:=hc.h _ hcl
 exact⟨_,h2,_,_,_,_,_,rfl,e1,g1,g2 "branches" (by decide +kernel),rfl,k⟩
theorem zd9{n:Nat}{x:OT}{r:Bool × OT}(h:zds gs w n x=some r):∃ m w' ks os p,n=m+1/\x=mkK w' ks os/\gs [.str w',.str w]=some (.val (.int p))/\zf0 (zds gs w m) w w' ks os p=some r:=by
 cases n with
 | zero=>cases h
 | succ m=>
  obtain⟨k,q1,q⟩:=bind_some h
  obtain⟨p,q2,q⟩:=bind_some q
  obtain⟨e,q2,q3⟩:=bind_some q2
  cases zaw q3
  exact⟨m,k.1,k.2.1,k.2.2,p,rfl,knOf_some q1,q2,q⟩
theorem rs_one{σ:Sg}(fh:Same F H)(h:σ[1]? = some (some (.str w))):RS K ⟨fun _=>none,none⟩ F H σ ((List.replicate σ.length none).set 1 (some (.val (.str w)))):=by
 have key:∀ {i:Nat} {e:Ent},((List.replicate σ.length none).set 1 (some (.val (.str w))))[i]? = some (some e)->i=1/\e=.val (.str w):=fun {i e} q=>by
  rw[List.getElem?_set] at q
  split at q
  ·rename_i z
   split at q
   ·cases q;exact⟨z.symm,rfl⟩
   ·cases q
  ·rw[List.getElem?_replicate] at q
   split at q <;> cases q
 refine⟨fh,(fun _ _ e=>by cases e),by simp,fun i e q=>?_,fun a b l ds e hab h1=>?_,fun a b e1 e2 v1 v2 ad hab h1 h2 h3 h4 h5=>?_,fun w o hw _=>by cases hw⟩
 ·obtain⟨rfl,rfl⟩:=key q
  exact⟨_,h,.str w⟩
 ·obtain⟨_,z⟩:=key h1
  cases z
 ·obtain⟨_,z⟩:=key h1
  subst z
  cases h5
theorem set32{σ:Sg}{x y z:Option V}:((σ.set 2 x).set 3 y).set 2 z=(σ.set 2 z).set 3 y:=by
 rw[List.set_comm _ _ (by decide),List.set_set]
theorem get1{σ:Sg}{x y:Option V}:((σ.set 2 x).set 3 y)[1]? = σ[1]?:=by
 rw[List.getElem?_set_ne (by decide),List.getElem?_set_ne (by decide)]
theorem get2{σ:Sg}{x y:Option V}(h:3<σ.length):((σ.set 2 x).set 3 y)[2]? = some x:=by
 rw[List.getElem?_set_ne (by decide),List.getElem?_set_self (by lia)]
theorem get3{σ:Sg}{x y:Option V}(h:3<σ.length):((σ.set 2 x).set 3 y)[3]? = some y:=by
 rw[List.getElem?_set_self (by rw[List.length_set];exact h)]
theorem semHang{gi:GM}{tK:TE}(hc:ClsF K "Knot" ["word","branches"])(mk:SemE K tK (zdy "Knot" gi (zaa (zab 1) zaf)))(hgi:∀ w,gi (.ins "Knot" [] []) [.str w]=some (.non,mkK w [] [])):SemS K (tHang K gs tK) (fHang gs):=fun B F H σ δ out DD s q k=>by
 obtain⟨o,q0,q⟩:=bind_some q
 obtain⟨w,q1,q⟩:=bind_some q
 have hlen:3<δ.length:=by
  by_cases z:3<δ.length
  ·exact z
  ·rw[if_neg z] at q;cases q
 rw[if_pos hlen] at q
 obtain⟨res,q2,q⟩:=map_some q
 subst q
 rw[<- s.len] at hlen
 obtain⟨v,h0,A,t,n,f0⟩:=s.ent 0 _ (zaz q0)
 obtain⟨v1,h1,r1⟩:=s.ent 1 _ (sAt_some q1)
 cases zb3 r1
 have fin:∀ (F2 H2:Hp) (A':List Addr),Chg H F F2 H2 A->TR K F2 H2 v res.2 A'->A'.Nodup->(∀ b ∈ A',F2 b=none/\zc8 H A b=none)->DD.rt (.bl res.1) H2:=fun F2 H2 A' ch t' n' f'=>by
  obtain⟨s3,y3⟩:=s.chg (zaz q0) h0 t ch t' n' f'
  exact k (.bl res.1) _ F2 H2 s3 y3 (.bl res.1)
 obtain⟨m0,w0,ks0,os0,p0,hm0,rfl,g0,st0⟩:=zd9 q2
 obtain⟨a0,_,_,_,_,_,_,rfl,_⟩:=zdD t
 refine⟨_,h0,?_⟩
 refine sl_ok hc s.fh (List.getElem?_set_self (by lia)) (by rw[List.getElem?_set_ne (by decide)];exact h1) t g0 fun F' H' x0=>?_
 refine⟨fun m σ' H'=>∃ F' a A1 up w' ks os p r,σ'=(σ.set 2 (some (.ref a))).set 3 (some (.int p))/\Ex F H F' H'/\TR K F H (.ref a) (mkK w' ks os) A1/\A1.Nodup/\Plug K F H (.ref a0) A (.ref a) A1 up/\zf0 (zds gs w m) w w' ks os p=some r/\res=(r.1,up r.2),
  ⟨m0,F',a0,A,id,w0,ks0,os0,p0,res,rfl,x0,t,n,.refl,st0,rfl⟩,?_⟩
 rintro m σ' H' ⟨F',a,A1,up,w',ks,os,p,r,rfl,x,t1,n1,P,st,er⟩
 obtain⟨a',dx,C,l,o',vs,A4,e,eA,hcl,e1,e2,e3,d,hl,ts⟩:=zdD t1
 cases e
 subst eA
 have gk2:=get2 (σ:=σ) (x:=some (.ref a)) (y:=some (.int p)) hlen
 have gk3:=get3 (σ:=σ) (x:=some (.ref a)) (y:=some (.int p)) hlen
 have e1':=x.hh _ _ e1
 have e3':=x.hh _ _ e3
 have far:∀ b ∈ A,H' b=H b/\F' b=none:=fun b hb=>by
  obtain⟨u,hu,ht⟩:=t.lies b hb
  exact⟨(x.hh _ _ hu).trans hu.symm,(x.nw _ _ hu ht).trans (f0 b hb).1⟩
 have rest:(¬ 0<p \/ ixI ks p=none)->(tSeq (tIfS (zey (tOp rEq (zcN 3) (tC (.int 0)))) (tRet (tC (.bl false))) tNext) (tSeq (zeU tK (gSub (zha K (zcN 2) "branches") (zcN 3) rSetI)) (tRet (tC (.bl true))))) DD ((σ.set 2 (some (.ref a))).set 3 (some (.int p))) H':=fun hp=>by
  refine⟨_,gk3,rfl,_,rfl,?_⟩
  unfold zf0 at st
  by_cases hpos:0<p
  ·rw[if_pos hpos] at st
   have hno:=hp.resolve_left (fun z=>z hpos)
   rw[hno] at st
   have st':(if ks.length<1000000 then some (true,mkK w' (ks ++ [p]) (os ++ [mkK w [] []])) else none)=some r:=st
   have hks:ks.length<1000000:=by
    by_cases z:ks.length<1000000
    ·exact z
    ·rw[if_neg z] at st';cases st'
   rw[if_pos hks] at st'
   cases st'
   rw[show decide (V.int p=V.int 0)=false from decide_eq_false fun z=>by cases z;lia]
   refine iteF ?_
   refine mk _ F' H' _ _ (.obj (mkK w [] [])) _ (rs_one (w:=w) x.fh (get1.trans h1)) ?_ fun v3 F3 H3 x3 r3=>?_
   ·have e:zab 1 ((List.replicate ((σ.set 2 (some (V.ref a))).set 3 (some (.int p))).length (none:Option Ent)).set 1 (some (.val (.str w))))=some (.val (.str w)):=by
     unfold zab
     rw[List.getElem?_set_self (by rw[List.length_replicate,List.length_set,List.length_set];lia)]
    unfold zdy zaa zaf
    rw[e]
    show(gi (.ins "Knot" [] []) [.str w]).bind _=_
    rw[hgi]
    rfl
   ·obtain⟨_,An,tn,nn,hn⟩:=r3
    have xx:=x.trans x3
    refine br_ok hc gk2 hcl (x3.hh _ _ e1') ?_
    refine⟨_,gk3,l,o',ks,vs,p,rfl,rfl,x3.hh _ _ e3',d,hl,hks,zeV hno,fun ob' d'=>?_⟩
    show DD.rt (.bl true) _
    obtain⟨na,nz⟩:=List.nodup_cons.mp n1
    obtain⟨nd,nz⟩:=List.nodup_cons.mp nz
    obtain⟨nl,n4⟩:=List.nodup_cons.mp nz
    have hal:a ≠ l:=fun z=>na (by rw[z];exact List.mem_cons_of_mem _ List.mem_cons_self)
    have hdl:dx ≠ l:=fun z=>nd (by rw[z];exact List.mem_cons_self)
    have inA:∀ b ∈ a :: dx :: l :: A4,b ∈ A:=P.1
    have hlA:l ∈ A:=inA l (List.mem_cons_of_mem _ (List.mem_cons_of_mem _ List.mem_cons_self))
    have old3:∀ b ∈ A,H3 b=H b/\F3 b=none:=fun b hb=>by
     obtain⟨u,hu,ht⟩:=t.lies b hb
     exact⟨(xx.hh _ _ hu).trans hu.symm,(xx.nw _ _ hu ht).trans (f0 b hb).1⟩
    have new:∀ b ∈ An,b ∉ A/\H b=none/\F3 b=none:=fun b hb=>by
     have hb0:=x.hh.free (hn b hb).2
     exact⟨(fun z=>by obtain⟨u,hu,_⟩:=t.lies b z;rw[hb0] at hu;cases hu),hb0,(hn b hb).1⟩
    have ln:∀ b ∈ An,b ≠ l:=fun b hb z=>(new b hb).1 (by rw[z];exact hlA)
    have ts4:TRs K F3 (upd H3 l (knO l ob')) vs os A4:=ts.move xx.ff fun b hb=>by
     rw[zaj (show b ≠ l from fun z=>nl (by rw[<- z];exact hb))]
     exact(old3 b (inA b (List.mem_cons_of_mem _ (List.mem_cons_of_mem _ (List.mem_cons_of_mem _ hb))))).1
    have tn4:TR K F3 (upd H3 l (knO l ob')) v3 (mkK w [] []) An:=tn.move (Same.refl _) fun b hb=>zaj (ln b hb)
    obtain⟨A5,ts5,rfl⟩:=TRs.add tn4 ts4
    have T:=kn_mk (w:=w') (ks:=ks ++ [p]) (os:=os ++ [mkK w [] []]) (H:=upd H3 l (knO l ob')) hcl (by rw[zaj hal];exact xx.hh _ _ e1) (by rw[zaj hdl];exact xx.hh _ _ e2) zag d' (by rw[List.length_append,List.length_append,hl];rfl) ts5
    have ndis:∀ b,b ∈ An->b ∉ a :: dx :: l :: A4:=fun b hb z=>(new b hb).1 (inA b z)
    have T':(a :: dx :: l :: (A4 ++ An)).Nodup:=by
     have:((a :: dx :: l :: A4) ++ An).Nodup:=List.nodup_append.mpr ⟨n1,nn,fun b hb c hc' z=>ndis c hc' (z ▸ hb)⟩
     simpa using this
    have mem:∀ b ∈ a :: dx :: l :: (A4 ++ An),b ∈ a :: dx :: l :: A4 \/ b ∈ An:=fun b hb=>by
     have:b ∈ (a :: dx :: l :: A4) ++ An:=by simpa using hb
     exact List.mem_append.mp this
    obtain⟨A',p1,p2,p3⟩:=P.2 F3 (upd H3 l (knO l ob')) _ _ xx.ff (fun b hb hn'=>by
     rw[zaj (show b ≠ l from fun z=>hn' (by rw[z];exact List.mem_cons_of_mem _ (List.mem_cons_of_mem _ List.mem_cons_self)))]
     exact(old3 b hb).1) T T' fun b hb=>(mem b hb).imp id fun z=>(new b z).1
    rw[er] at fin
    refine fin F3 _ A' ⟨xx.ff,fun b u hb=>?_,fun b u hb=>?_,fun b u hb ht=>xx.nw _ _ (zaq hb).2 ht⟩ p1 p2 fun b hb=>?_
    ·rw[zaj (show b ≠ l from fun z=>by rw[z,(old3 l hlA).2] at hb;cases hb)]
     exact xx.fh _ _ hb
    ·obtain⟨z1,z2⟩:=zaq hb
     rw[zaj (show b ≠ l from fun z=>z1 (by rw[z];exact hlA))]
     exact xx.hh _ _ z2
    ·rcases p3 b hb with z | z
     ·exact⟨(old3 b z.1).2,zbh z.1⟩
     ·rcases mem b z with z | z
      ·exact⟨(old3 b (inA b z)).2,zbh (inA b z)⟩
      ·exact⟨(new b z).2.2,(zcC (new b z).1).trans (new b z).2.1⟩
  ·rw[if_neg hpos] at st
   have hz:p=0:=by
    by_cases z:p=0
    ·exact z
    ·rw[if_neg z] at st;cases st
   rw[if_pos hz] at st
   subst hz
   cases st
   refine iteT ?_
   show DD.rt (.bl false) _
   obtain⟨A',p1,p2,p3⟩:=P.2 F' H' _ _ x.ff (fun b hb _=>(far b hb).1) (t1.ext x).1 n1 fun b hb=>.inl hb
   rw[er] at fin
   refine fin F' H' A' ⟨x.ff,x.fh,fun b u hb=>x.hh _ _ (zaq hb).2,fun b u hb ht=>x.nw _ _ (zaq hb).2 ht⟩ p1 p2 fun b hb=>?_
   have:b ∈ A:=(p3 b hb).elim (·.1) (P.1 b)
   exact⟨(far b this).2,zbh this⟩
 refine⟨_,gk3,_,_,rfl,rfl,_,rfl,?_⟩
 by_cases hpos:0<p
 ·rw[decide_eq_true hpos]
  refine iteT ?_
  refine⟨_,gk3,br_ok hc gk2 hcl e1' ?_⟩
  refine⟨l,o',ks,vs,p,rfl,rfl,e3',d,hl,_,rfl,?_⟩
  rw[zeu p hl]
  cases hix:ixI ks p with
  | none=>exact iteF (rest (.inr hix))
  | some j=>
   have hst:=st
   unfold zf0 at hst
   rw[if_pos hpos,hix] at hst
   obtain⟨y,qy,hst⟩:=bind_some hst
   obtain⟨r',qr,hst⟩:=map_some hst
   subst hst
   obtain⟨v2,A2,hv2,t2,n2,P2⟩:=P.down hcl e1 e2 e3 d hl ts n1 qy
   obtain⟨m',w2,ks2,os2,p2,rfl,rfl,g2,st2⟩:=zd9 qr
   obtain⟨a2,_,_,_,_,_,_,rfl,_⟩:=zdD t2
   show if (vs[j]?).isSome=true then _ else _
   rw[hv2]
   refine iteT ⟨_,fun σ2 H2 z=>⟨m',Nat.lt_succ_self m',z⟩,?_⟩
   show zeU (tOp rIxI (zha K (zcN 2) "branches") (zcN 3)) (zcI 2) _ _ H'
   show tOp rIxI (zha K (zcN 2) "branches") (zcN 3) _ H' _
   show zha K (zcN 2) "branches" _ H' _
   refine br_ok hc gk2 hcl e1' ?_
   refine⟨_,gk3,l,o',ks,vs,p,.ref a2,rfl,rfl,e3',d,hl,by rw[zeu p hl,hix];exact hv2,?_⟩
   show tSl K gs _ H' _
   rw[set32]
   refine sl_ok hc x.fh (get2 hlen) (get1.trans h1) (t2.ext x).1 g2 fun F4 H4 x4=>?_
   exact⟨F4,a2,A2,_,w2,ks2,os2,p2,r',by rw[List.set_set],x.trans x4,t2,n2,P2,st2,er⟩
 ·rw[decide_eq_false hpos]
  exact iteF (iteF (rest (.inl hpos)))
theorem sHang{X:Cx}{y1 y2 y3 y4 y5 y6:Stmt}{eK:Expr}{gi:GM}(hc:ClsF X.K "Knot" ["word","branches"])(hgi:∀ w,gi (.ins "Knot" [] []) [.str w]=some (.non,mkK w [] []))(w1:WS X y1 (zeU (zcN 0) (zcI 2)))(w2:WS X y2 (zeU (tSl X.K gs) (zcI 3)))
  (w3:WS X y3 (zgC (tAnd (zey (tOp (rI0 fun i j=>.bl (decide (j<i))) (zcN 3) (tC (.int 0)))) (zey (tOp rInI (zcN 3) (zha X.K (zcN 2) "branches")))) (tSeq (zeU (tOp rIxI (zha X.K (zcN 2) "branches") (zcN 3)) (zcI 2)) (zeU (tSl X.K gs) (zcI 3)))))
  (w4:WS X y4 (tIfS (zey (tOp rEq (zcN 3) (tC (.int 0)))) (tRet (tC (.bl false))) tNext)) (w5:∀ tK,WE X eK tK->WS X y5 (zeU tK (gSub (zha X.K (zcN 2) "branches") (zcN 3) rSetI))) (w6:WS X y6 (tRet (tC (.bl true)))) (hm:VE X eK (zdy "Knot" gi (zaa (zab 1) zaf))) :
  VSs X [y1,y2,y3,y4,y5,y6] (fHang gs):=by
 obtain⟨tK,wK,mK⟩:=hm.h
 exact⟨_,sc w1 (sc w2 (sc w3 (sc w4 (sc (w5 tK wK) (s1 w6))))),semHang hc mK hgi⟩
end
end L3

namespace L3
theorem jqa{α β:Type}(a:α)(f:α->Option β):(some a).bind f=f a:=rfl
theorem jqc{α β:Type}(a:α)(f:α->β):(some a).map f=some (f a):=rfl
theorem jqd{α β:Type}(f:α->β):(none:Option α).map f=none:=rfl
theorem jqe{α:Type}{a:α}{l:List α}:(a :: l)[0]? = some a:=rfl
theorem jqf{α:Type}{a:α}{l:List α}{i:Nat}:(a :: l)[i+1]? = l[i]?:=rfl
theorem jqg{α:Type}{a b:α}{l:List α}:(a :: l).set 0 b=b :: l:=rfl
theorem jqh{α:Type}{a b:α}{l:List α}{i:Nat}:(a :: l).set (i+1) b=a :: l.set i b:=rfl
theorem jqi{α:Type}{a:α}{l m:List α}:(a :: l) ++ m=a :: (l ++ m):=rfl
theorem jqj{α:Type}(l:List α):[] ++ l=l:=rfl
theorem jqk{α:Type}(l:List α):l ++ []=l:=List.append_nil l
theorem jqn{α β:Type}{f:α->β}{a:α}{l:List α}:(a :: l).map f=f a :: l.map f:=rfl
theorem jqo{α β:Type}{f:α->β}:([]:List α).map f=[]:=rfl
theorem jqp{α:Type}{a:α}{l:List α}:(a :: l).length=l.length+1:=rfl
theorem jqq{α:Type}:([]:List α).length=0:=rfl
theorem jqr:(false=true)=False:=Bool.false_eq_true
theorem jqt:(!true)=false:=rfl
theorem jqu:(!false)=true:=rfl
theorem jqx{α:Type}(a:Option α):(some a).join=a:=rfl
theorem jqy{h:Decidable True}:decide True=true:=decide_true h
theorem jqz{h:Decidable False}:decide False=false:=decide_false h
theorem jra{α:Type}{_:Decidable True}(a b:α):(if True then a else b)=a:=if_true a b
theorem jrb{α:Type}{_:Decidable False}(a b:α):(if False then a else b)=b:=if_false a b
theorem jrc(p:Prop):(p \/ True)=True:=or_true p
theorem jrd(p:Prop):(True \/ p)=True:=true_or p
theorem jre(p:Prop):(p/\True)=p:=and_true p
theorem jrf(p:Prop):(True/\p)=p:=true_and p
end L3

namespace CE
open PySem L2 L3
noncomputable def oD:Option Int->D
 | none=>.non
 | some i=>.int i
theorem oD_s(i:Int):oD (some i)=.int i:=rfl
theorem oD_n:oD none=.non:=rfl
noncomputable def stp(c:Option Int)(p:Int):Option Int:=if p=0 then none else c.map (· + p)
noncomputable def lw(cs:List (Option Int)):Option Int:=minI (cs.filterMap id)
noncomputable def tc(fit:Nat->Nat->Bool)(c:Nat->Nat->Option Int)(i j:Nat):Option Int:=if 0<i/\0<j then (if (fit i (j - 1) && fit (i - 1) j)=true then c (i - 1) (j - 1) else none) else none
structure Pr where
 put:Int
 left:Int
 exch:Int
 turn:Int
noncomputable def Pr.d(p:Pr):D:=.tup [.int p.put,.int p.left,.int p.exch,.int p.turn]
variable (fit:Nat->Nat->Bool)(p:Pr)(fr:Bool)
noncomputable def cel:Nat->Nat->Option Int
 | 0,0=>some 0
 | 0,j+1=>if fr=true then some 0 else stp (cel 0 j) p.put
 | i+1,0=>stp (cel i 0) p.left
 | i+1,j+1=>lw [if fit i j=true then cel i j else stp (cel i j) p.exch,stp (cel (i+1) j) p.put,stp (cel i (j+1)) p.left,
   stp (if 0<i/\0<j then (if (fit i (j - 1) && fit (i - 1) j)=true then cel (i - 1) (j - 1) else none) else none) p.turn]
termination_by i j=>(i,j)
theorem zdV:cel fit p fr 0 0=some 0:=by rw[cel]
theorem zei(j:Nat):cel fit p fr 0 (j+1)=if fr=true then some 0 else stp (cel fit p fr 0 j) p.put:=by rw[cel]
theorem ze4(i:Nat):cel fit p fr (i+1) 0=stp (cel fit p fr i 0) p.left:=by rw[cel]
theorem zc5(i j:Nat):cel fit p fr (i+1) (j+1)=lw [if fit i j=true then cel fit p fr i j else stp (cel fit p fr i j) p.exch,stp (cel fit p fr (i+1) j) p.put,stp (cel fit p fr i (j+1)) p.left,stp (tc fit (cel fit p fr) i j) p.turn]:=by
 rw[cel]
 rfl
end CE
namespace L3
open PySem L2
noncomputable def zcJ(P:List Str)(T:List Nat)(i j:Nat):Bool:=inS (mkS [T.getD j 0]) (P.getD i (mkS []))
end L3
namespace CE
open PySem L2 L3
theorem minI_mem:∀ {ns:List Int} {m:Int},minI ns=some m->m ∈ ns
 | [],m,h=>by cases h
 | n :: ns,m,h=>by
  have h':ns.foldl (fun a b=>if b<a then b else a) n=m:=Option.some.inj h
  have key:∀ (ns:List Int) (n:Int),ns.foldl (fun a b=>if b<a then b else a) n=n \/ ns.foldl (fun a b=>if b<a then b else a) n ∈ ns:=by
   intro ns
   induction ns with
   | nil=>intro n;left;rfl
   | cons b ns ih=>
    intro n
    rw[List.foldl_cons]
    rcases ih (if b<n then b else n) with q | q
    ·rw[q]
     split
     ·right;exact List.mem_cons_self
     ·left;rfl
    ·right;exact List.mem_cons_of_mem _ q
  rcases key ns n with q | q
  ·rw[<- h',q];exact List.mem_cons_self
  ·rw[<- h'];exact List.mem_cons_of_mem _ q
theorem minI_le:∀ {ns:List Int} {c:Int},c ∈ ns->∃ m,minI ns=some m/\m<=c
 | [],c,h=>by cases h
 | n :: ns,c,h=>by
  refine⟨_,rfl,?_⟩
  have key:∀ (ns:List Int) (n:Int),ns.foldl (fun a b=>if b<a then b else a) n<=n/\∀ c ∈ ns,ns.foldl (fun a b=>if b<a then b else a) n<=c:=by
   intro ns
   induction ns with
   | nil=>intro n;exact⟨Int.le_refl _,by simp⟩
   | cons b ns ih=>
    intro n
    rw[List.foldl_cons]
    obtain⟨h1,h2⟩:=ih (if b<n then b else n)
    have h3:(if b<n then b else n)<=n/\(if b<n then b else n)<=b:=by split <;> lia
    refine⟨by lia,fun c hc=>?_⟩
    rcases List.mem_cons.mp hc with rfl | hc
    ·lia
    ·exact h2 c hc
  rcases List.mem_cons.mp h with rfl | h
  ·exact(key ns _).1
  ·exact(key ns n).2 c h
theorem lw_mem{cs:List (Option Int)}{m:Int}(h:lw cs=some m):some m ∈ cs:=by
 have:=minI_mem h
 obtain⟨x,h1,h2⟩:=List.mem_filterMap.mp this
 have:x=some m:=h2
 rw[<- this];exact h1
theorem zfD{cs:List (Option Int)}{c:Int}(h:some c ∈ cs):∃ m,lw cs=some m/\m<=c:=minI_le (List.mem_filterMap.mpr ⟨some c,h,rfl⟩)
theorem zcF{c:Option Int}{q m:Int}(h:stp c q=some m):q ≠ 0/\∃ a,c=some a/\m=a+q:=by
 unfold stp at h
 split at h
 ·cases h
 ·rename_i hq
  cases c with
  | none=>cases h
  | some a=>exact⟨hq,a,rfl,(Option.some.inj h).symm⟩
theorem zej{a q:Int}(hq:q ≠ 0):stp (some a) q=some (a+q):=by unfold stp;rw[if_neg hq];rfl
inductive Ld(fit:Nat->Nat->Bool)(p:Pr)(fr:Bool):Nat->Nat->Int->Prop
 | nil:Ld fit p fr 0 0 0
 | free {j:Nat}:fr=true->Ld fit p fr 0 j 0
 | same {i j:Nat} {c:Int}:Ld fit p fr i j c->fit i j=true->Ld fit p fr (i+1) (j+1) c
 | exch {i j:Nat} {c:Int}:Ld fit p fr i j c->fit i j=false->p.exch ≠ 0->Ld fit p fr (i+1) (j+1) (c+p.exch)
 | put {i j:Nat} {c:Int}:Ld fit p fr i j c->p.put ≠ 0->Ld fit p fr i (j+1) (c+p.put)
 | left {i j:Nat} {c:Int}:Ld fit p fr i j c->p.left ≠ 0->Ld fit p fr (i+1) j (c+p.left)
 | turn {i j:Nat} {c:Int}:Ld fit p fr i j c->fit (i+1) j=true->fit i (j+1)=true->p.turn ≠ 0->Ld fit p fr (i+2) (j+2) (c+p.turn)
structure Pr.Ok(p:Pr):Prop where
 put:0<=p.put
 left:0<=p.left
 exch:0<=p.exch
 turn:0<=p.turn
variable {fit:Nat->Nat->Bool}{p:Pr}{fr:Bool}
theorem Ld.nonneg(hp:p.Ok){i j:Nat}{c:Int}(h:Ld fit p fr i j c):0<=c:=by
 have:=hp.put;have:=hp.left;have:=hp.exch;have:=hp.turn
 induction h <;> lia
theorem cel_ld:∀ (n i j:Nat),i+j=n->∀ m,cel fit p fr i j=some m->Ld fit p fr i j m:=by
 intro n
 induction n using Nat.strongRecOn with
 | _ n ih=>
  intro i j hn m h
  cases i with
  | zero=>
   cases j with
   | zero=>rw[zdV] at h;cases h;exact .nil
   | succ j=>
    rw[zei] at h
    split at h
    ·rename_i hf;cases h;exact .free hf
    ·obtain⟨hq,a,e1,rfl⟩:=zcF h
     exact .put (ih j (by lia) 0 j (by lia) a e1) hq
  | succ i=>
   cases j with
   | zero=>
    rw[ze4] at h
    obtain⟨hq,a,e1,rfl⟩:=zcF h
    exact .left (ih i (by lia) i 0 (by lia) a e1) hq
   | succ j=>
    rw[zc5] at h
    have hm:=lw_mem h
    simp only[List.mem_cons,List.not_mem_nil,or_false] at hm
    rcases hm with hm | hm | hm | hm
    ·by_cases hf:fit i j=true
     ·rw[if_pos hf] at hm;exact .same (ih (i+j) (by lia) i j rfl m hm.symm) hf
     ·rw[if_neg hf] at hm
      obtain⟨hq,a,e1,rfl⟩:=zcF hm.symm
      exact .exch (ih (i+j) (by lia) i j rfl a e1) (by simpa using hf) hq
    ·obtain⟨hq,a,e1,rfl⟩:=zcF hm.symm
     exact .put (ih (i+1+j) (by lia) (i+1) j rfl a e1) hq
    ·obtain⟨hq,a,e1,rfl⟩:=zcF hm.symm
     exact .left (ih (i+(j+1)) (by lia) i (j+1) rfl a e1) hq
    ·obtain⟨hq,a,e1,rfl⟩:=zcF hm.symm
     unfold tc at e1
     split at e1
     ·rename_i hij
      split at e1
      ·rename_i hf
       rw[Bool.and_eq_true] at hf
       obtain⟨i',rfl⟩:∃ i',i=i'+1:=⟨i - 1,by lia⟩
       obtain⟨j',rfl⟩:∃ j',j=j'+1:=⟨j - 1,by lia⟩
       simp only[Nat.add_sub_cancel] at e1 hf
       exact .turn (ih (i'+j') (by lia) i' j' rfl a e1) hf.1 hf.2 hq
      ·cases e1
     ·cases e1
theorem zgp(hp:p.Ok){i j:Nat}{c:Int}(h:Ld fit p fr i j c):∃ m,cel fit p fr i j=some m/\m<=c:=by
 have q1:=hp.put;have q2:=hp.left;have q3:=hp.exch;have q4:=hp.turn
 induction h with
 | nil=>exact⟨0,zdV ..,Int.le_refl _⟩
 | @free j hf=>
  cases j with
  | zero=>exact⟨0,zdV ..,Int.le_refl _⟩
  | succ j=>exact⟨0,by rw[zei,if_pos hf],Int.le_refl _⟩
 | @same i j c h hf ih=>
  obtain⟨m,e,hm⟩:=ih
  obtain⟨m',e',hm'⟩:=zfD (cs:=[if fit i j=true then cel fit p fr i j else stp (cel fit p fr i j) p.exch,stp (cel fit p fr (i+1) j) p.put,stp (cel fit p fr i (j+1)) p.left,stp (tc fit (cel fit p fr) i j) p.turn]) (c:=m) (by rw[if_pos hf,e];simp)
  exact⟨m',by rw[zc5];exact e',by lia⟩
 | @exch i j c h hf hq ih=>
  obtain⟨m,e,hm⟩:=ih
  obtain⟨m',e',hm'⟩:=zfD (cs:=[if fit i j=true then cel fit p fr i j else stp (cel fit p fr i j) p.exch,stp (cel fit p fr (i+1) j) p.put,stp (cel fit p fr i (j+1)) p.left,stp (tc fit (cel fit p fr) i j) p.turn]) (c:=m+p.exch) (by rw[if_neg (by rw[hf];decide),e,zej hq];simp)
  exact⟨m',by rw[zc5];exact e',by lia⟩
 | @put i j c h hq ih=>
  obtain⟨m,e,hm⟩:=ih
  cases i with
  | zero=>
   rw[zei]
   cases fr with
   | true=>
    have:=Ld.nonneg hp h
    exact⟨0,rfl,by lia⟩
   | false=>exact⟨m+p.put,by rw[if_neg (by decide),e,zej hq],by lia⟩
  | succ i=>
   obtain⟨m',e',hm'⟩:=zfD (cs:=[if fit i j=true then cel fit p fr i j else stp (cel fit p fr i j) p.exch,stp (cel fit p fr (i+1) j) p.put,stp (cel fit p fr i (j+1)) p.left,stp (tc fit (cel fit p fr) i j) p.turn]) (c:=m+p.put) (by rw[e,zej hq];simp)
   exact⟨m',by rw[zc5];exact e',by lia⟩
 | @left i j c h hq ih=>
  obtain⟨m,e,hm⟩:=ih
  cases j with
  | zero=>exact⟨m+p.left,by rw[ze4,e,zej hq],by lia⟩
  | succ j=>
   obtain⟨m',e',hm'⟩:=zfD (cs:=[if fit i j=true then cel fit p fr i j else stp (cel fit p fr i j) p.exch,stp (cel fit p fr (i+1) j) p.put,stp (cel fit p fr i (j+1)) p.left,stp (tc fit (cel fit p fr) i j) p.turn]) (c:=m+p.left) (by rw[e,zej hq];simp)
   exact⟨m',by rw[zc5];exact e',by lia⟩
 | @turn i j c h hf1 hf2 hq ih=>
  obtain⟨m,e,hm⟩:=ih
  have ht:tc fit (cel fit p fr) (i+1) (j+1)=some m:=by
   unfold tc
   rw[if_pos ⟨by lia,by lia⟩,Nat.add_sub_cancel,Nat.add_sub_cancel,hf1,hf2]
   exact e
  obtain⟨m',e',hm'⟩:=zfD (cs:=[if fit (i+1) (j+1)=true then cel fit p fr (i+1) (j+1) else stp (cel fit p fr (i+1) (j+1)) p.exch,stp (cel fit p fr (i+1+1) (j+1)) p.put,stp (cel fit p fr (i+1) (j+1+1)) p.left,stp (tc fit (cel fit p fr) (i+1) (j+1)) p.turn]) (c:=m+p.turn) (by rw[ht,zej hq];simp)
  exact⟨m',by rw[zc5];exact e',by lia⟩
theorem zdc(hp:p.Ok){i j:Nat}{m:Int}(h:cel fit p fr i j=some m):Ld fit p fr i j m/\∀ c,Ld fit p fr i j c->m<=c:=
 ⟨cel_ld _ i j rfl m h,fun c hc=>by obtain⟨m',e,hm⟩:=zgp hp hc;rw[h] at e;cases e;exact hm⟩
theorem Ld.swap{fit':Nat->Nat->Bool}{n m:Nat}(hf:∀ i j,i<n->j<m->fit' j i=fit i j)(hpl:p.put=p.left){i j:Nat}{c:Int}(h:Ld fit p false i j c):i<=n->j<=m->Ld fit' p false j i c:=by
 induction h with
 | nil=>intro _ _;exact .nil
 | free h=>cases h
 | same h hs ih=>intro h1 h2;exact .same (ih (by lia) (by lia)) (by rw[hf _ _ (by lia) (by lia)];exact hs)
 | exch h hs hq ih=>intro h1 h2;exact .exch (ih (by lia) (by lia)) (by rw[hf _ _ (by lia) (by lia)];exact hs) hq
 | put h hq ih=>intro h1 h2;have:=Ld.left (ih (by lia) (by lia)) (by rw[<- hpl];exact hq);rwa [<- hpl] at this
 | left h hq ih=>intro h1 h2;have:=Ld.put (ih (by lia) (by lia)) (by rw[hpl];exact hq);rwa [hpl] at this
 | turn h hs1 hs2 hq ih=>intro h1 h2;exact .turn (ih (by lia) (by lia)) (by rw[hf _ _ (by lia) (by lia)];exact hs2) (by rw[hf _ _ (by lia) (by lia)];exact hs1) hq
theorem Ld.zero(hp:p.Ok){i j:Nat}{c:Int}(h:Ld fit p false i j c):c=0->i=j/\∀ a,a<i->fit a a=true:=by
 have q1:=hp.put;have q2:=hp.left;have q3:=hp.exch;have q4:=hp.turn
 induction h with
 | nil=>intro _;exact⟨rfl,fun a h=>by lia⟩
 | free h=>cases h
 | @same i j c h hs ih=>
  intro e
  obtain⟨e1,e2⟩:=ih e
  subst e1
  refine⟨rfl,fun a ha=>?_⟩
  by_cases ha':a<i
  ·exact e2 a ha'
  ·rw[show a=i by lia];exact hs
 | exch h hs hq ih=>intro e;have:=Ld.nonneg hp h;lia
 | put h hq ih=>intro e;have:=Ld.nonneg hp h;lia
 | left h hq ih=>intro e;have:=Ld.nonneg hp h;lia
 | turn h _ _ hq ih=>intro e;have:=Ld.nonneg hp h;lia
theorem Ld.diag:∀ (n:Nat),(∀ a,a<n->fit a a=true)->Ld fit p fr n n 0
 | 0,_=>.nil
 | n+1,h=>.same (Ld.diag n fun a ha=>h a (by lia)) (h n (by lia))
end CE
namespace CE
open PySem L2 L3
theorem inS_one(c:Nat)(z:Str):inS (mkS [c]) z=decide (c ∈ z.cps.toList):=StrLaws.found_one z c
noncomputable def wP(w:List Nat):List Str:=w.map fun c=>mkS [c]
theorem wP_len(w:List Nat):(wP w).length=w.length:=by simp[wP]
theorem zfp{w t:List Nat}{i j:Nat}(hi:i<w.length)(hj:j<t.length):zcJ (wP w) t i j=decide (t[j]=w[i]):=by
 unfold zcJ wP
 have e1:(w.map fun c=>mkS [c]).getD i (mkS [])=mkS [w[i]]:=by simp[hi]
 have e2:t.getD j 0=t[j]:=by simp[hj]
 rw[e1,e2,inS_one,zdP]
 simp
theorem fit_swap(w t:List Nat):∀ i j,i<w.length->j<t.length->zcJ (wP t) w j i=zcJ (wP w) t i j:=fun i j hi hj=>by
 rw[zfp hi hj,zfp hj hi]
 simp[eq_comm]
theorem diag_eq{w t:List Nat}(h:w.length=t.length)(hf:∀ a,a<w.length->zcJ (wP w) t a a=true):w=t:=by
 apply List.ext_getElem h
 intro i h1 h2
 have:=hf i h1
 rw[zfp h1 h2] at this
 exact(of_decide_eq_true this).symm
theorem diag_self(w:List Nat):∀ a,a<w.length->zcJ (wP w) w a a=true:=fun a ha=>by
 rw[zfp ha ha];simp
noncomputable def wd(p:Pr)(w t:List Nat):Option Int:=cel (zcJ (wP w) t) p false w.length t.length
theorem wd_self{p:Pr}(hp:p.Ok)(w:List Nat):wd p w w=some 0:=by
 obtain⟨m,e,hm⟩:=zgp hp (Ld.diag (fit:=zcJ (wP w) w) (p:=p) (fr:=false) w.length (diag_self w))
 have:=Ld.nonneg hp (zdc hp e).1
 unfold wd
 rw[e,show m=0 by lia]
theorem wd_swap{p:Pr}(hp:p.Ok)(hpl:p.put=p.left)(w t:List Nat):wd p t w=wd p w t:=by
 have key:∀ (w t:List Nat) (m:Int),wd p w t=some m->∃ m',wd p t w=some m'/\m'<=m:=fun w t m h=>by
  have h1:=(zdc hp h).1
  exact zgp hp (h1.swap (fit':=zcJ (wP t) w) (n:=w.length) (m:=t.length) (fit_swap w t) hpl (Nat.le_refl _) (Nat.le_refl _))
 cases h1:wd p w t with
 | none=>
  cases h2:wd p t w with
  | none=>rfl
  | some m=>obtain⟨m',e,_⟩:=key t w m h2;rw[h1] at e;cases e
 | some m=>
  obtain⟨m',e,hm⟩:=key w t m h1
  obtain⟨m'',e',hm'⟩:=key t w m' e
  rw[h1] at e'
  cases e'
  rw[e,show m'=m by lia]
theorem wd_zero{p:Pr}(hp:p.Ok){w t:List Nat}(h:wd p w t=some 0):w=t:=by
 obtain⟨e,hf⟩:=((zdc hp h).1).zero hp rfl
 exact diag_eq e hf
theorem wd_nonneg{p:Pr}(hp:p.Ok){w t:List Nat}{m:Int}(h:wd p w t=some m):0<=m:=Ld.nonneg hp (zdc hp h).1
end CE
namespace CE
open PySem L2 L3
theorem Ld.comp{f1 f2 f3:Nat->Nat->Bool}{p:Pr}{n m l:Nat}(hp:p.Ok)(h0:p.turn=0)(hf:∀ i j k,i<n->j<m->k<l->f1 i j=true->f2 j k=true->f3 i k=true) :
  ∀ (s i j k:Nat) (c1 c2:Int),i+j+k=s->i<=n->j<=m->k<=l->Ld f1 p false i j c1->Ld f2 p false j k c2->∃ c,Ld f3 p false i k c/\c<=c1+c2:=by
 have q1:=hp.put;have q2:=hp.left;have q3:=hp.exch
 intro s
 induction s using Nat.strongRecOn with
 | _ s ih=>
  intro i j k c1 c2 hs hi hj hk h1 h2
  have step:∀ {i j k:Nat} {c1 c2:Int},i+1<=n->j+1<=m->k+1<=l->i+1+(j+1)+(k+1)=s->Ld f1 p false i j c1->Ld f2 p false j k c2->p.exch ≠ 0->∃ c,Ld f3 p false (i+1) (k+1) c/\c<=c1+c2+p.exch:=fun {i j k c1 c2} hi hj hk hs h1 h2 hq=>by
   obtain⟨c,h,hc⟩:=ih (i+j+k) (by lia) i j k c1 c2 rfl (by lia) (by lia) (by lia) h1 h2
   cases hx:f3 i k with
   | true=>exact⟨c,.same h hx,by lia⟩
   | false=>exact⟨_,.exch h hx hq,by lia⟩
  cases h1 with
  | @left i j c h hq=>
   obtain⟨c3,h3,hc⟩:=ih (i+j+k) (by lia) i j k c c2 rfl (by lia) hj hk h h2
   exact⟨_,.left h3 hq,by lia⟩
  | turn h _ _ hq=>exact absurd h0 hq
  | free h=>cases h
  | nil=>
   cases h2 with
   | nil=>exact⟨0,.nil,by lia⟩
   | free h=>cases h
   | @put _ k c h hq=>
    obtain⟨c3,h3,hc⟩:=ih (0+0+k) (by lia) 0 0 k 0 c rfl hi hj (by lia) .nil h
    exact⟨_,.put h3 hq,by lia⟩
  | @same i j _ h hx=>
   cases h2 with
   | @same _ k c2 h2 hy=>
    obtain⟨c3,h3,hc⟩:=ih (i+j+k) (by lia) i j k c1 c2 rfl (by lia) (by lia) (by lia) h h2
    exact⟨c3,.same h3 (hf i j k (by lia) (by lia) (by lia) hx hy),by lia⟩
   | @exch _ k c2 h2 hy hq=>
    obtain⟨c3,h3,hc⟩:=step (by lia) (by lia) (by lia) (by lia) h h2 hq
    exact⟨c3,h3,by lia⟩
   | @put _ k c2 h2 hq=>
    obtain⟨c3,h3,hc⟩:=ih (i+1+(j+1)+k) (by lia) (i+1) (j+1) k c1 c2 rfl (by lia) (by lia) (by lia) (.same h hx) h2
    exact⟨_,.put h3 hq,by lia⟩
   | @left _ _ c2 h2 hq=>
    obtain⟨c3,h3,hc⟩:=ih (i+j+k) (by lia) i j k c1 c2 rfl (by lia) (by lia) (by lia) h h2
    exact⟨_,.left h3 hq,by lia⟩
   | turn h _ _ hq=>exact absurd h0 hq
  | @exch i j c h hx hq1=>
   cases h2 with
   | @same _ k c2 h2 hy=>
    obtain⟨c3,h3,hc⟩:=step (by lia) (by lia) (by lia) (by lia) h h2 hq1
    exact⟨c3,h3,by lia⟩
   | @exch _ k c2 h2 hy hq=>
    obtain⟨c3,h3,hc⟩:=step (by lia) (by lia) (by lia) (by lia) h h2 hq
    exact⟨c3,h3,by lia⟩
   | @put _ k c2 h2 hq=>
    obtain⟨c3,h3,hc⟩:=ih (i+1+(j+1)+k) (by lia) (i+1) (j+1) k (c+p.exch) c2 rfl (by lia) (by lia) (by lia) (.exch h hx hq1) h2
    exact⟨_,.put h3 hq,by lia⟩
   | @left _ _ c2 h2 hq=>
    obtain⟨c3,h3,hc⟩:=ih (i+j+k) (by lia) i j k c c2 rfl (by lia) (by lia) (by lia) h h2
    exact⟨_,.left h3 hq,by lia⟩
   | turn h _ _ hq=>exact absurd h0 hq
  | @put i j c h hq1=>
   cases h2 with
   | @same _ k c2 h2 hy=>
    obtain⟨c3,h3,hc⟩:=ih (i+j+k) (by lia) i j k c c2 rfl (by lia) (by lia) (by lia) h h2
    exact⟨_,.put h3 hq1,by lia⟩
   | @exch _ k c2 h2 hy hq=>
    obtain⟨c3,h3,hc⟩:=ih (i+j+k) (by lia) i j k c c2 rfl (by lia) (by lia) (by lia) h h2
    exact⟨_,.put h3 hq1,by lia⟩
   | @put _ k c2 h2 hq=>
    obtain⟨c3,h3,hc⟩:=ih (i+(j+1)+k) (by lia) i (j+1) k (c+p.put) c2 rfl (by lia) (by lia) (by lia) (.put h hq1) h2
    exact⟨_,.put h3 hq,by lia⟩
   | @left _ _ c2 h2 hq=>
    obtain⟨c3,h3,hc⟩:=ih (i+j+k) (by lia) i j k c c2 rfl (by lia) (by lia) (by lia) h h2
    exact⟨c3,h3,by lia⟩
   | turn h _ _ hq=>exact absurd h0 hq
theorem wd_tri{p:Pr}(hp:p.Ok)(h0:p.turn=0){u v w:List Nat}{a b:Int}(h1:wd p u v=some a)(h2:wd p v w=some b):∃ c,wd p u w=some c/\c<=a+b:=by
 obtain⟨c,h,hc⟩:=Ld.comp (f3:=zcJ (wP u) w) (n:=u.length) (m:=v.length) (l:=w.length) hp h0 (fun i j k hi hj hk h1 h2=>by
  rw[zfp hi hj] at h1
  rw[zfp hj hk] at h2
  rw[zfp hi hk,of_decide_eq_true h2,of_decide_eq_true h1]
  simp) _ _ _ _ a b rfl (Nat.le_refl _) (Nat.le_refl _) (Nat.le_refl _) (zdc hp h1).1 (zdc hp h2).1
 obtain⟨m,e,hm⟩:=zgp hp h
 exact⟨m,e,by lia⟩
end CE
namespace L3
open PySem L2
theorem fSeqR{f g:FS}{δ δ':En}{e:Ent}(h:f δ=some (.rt e δ')):zbb f g δ=some (.rt e δ'):=by unfold zbb;rw[h];rfl
theorem fRetI{fe:FE}{δ:En}{d:D}(h:fe δ=some (.val d)):zb7 fe δ=some (.rt (.val d) δ):=by unfold zb7;rw[h];rfl
theorem zga{i:Nat}{e:FE}{r:FS}{δ:En}{v:D}(h:e δ=some (.val v)):zbb (zcp i e) r δ=r (δ.set i (some (.val v))):=by
 simp only[zbb,zcp,h,Option.bind_some,sqO,stE,toN,Option.map_some]
theorem zdT{i:Nat}{e:FE}{δ:En}{v:D}(h:e δ=some (.val v)):zcp i e δ=some (.nx (δ.set i (some (.val v)))):=by unfold zcp;rw[h];rfl
theorem addI{E F:FE}{δ:En}{a b:Int}(h1:E δ=some (.val (.int a)))(h2:F δ=some (.val (.int b))):ex2 zbX E F δ=some (.val (.int (a+b))):=by simp only[ex2,h1,h2,zbX,pI0,iOf,jqa,jqc]
theorem lenZ{E:FE}{δ:En}{z:Str}{n:Nat}(h:E δ=some (.val (.str z)))(hn:z.length=n)(hl:n<=1000000):eCB zcL (zaa E zaf) δ=some (.val (.int (n:Int))):=by subst hn;simp only[eCB,zaa,h,zaf,jqc,jqa,zcL,sOf,hl,zbg,zae]
theorem forN{it:FI}{tg:FG}{f r:FS}{δ δ':En}{ds:List D}(h:it δ=some ds)(hl:loop tg f ds δ=some (.nx δ')):zbb (zeY it tg f) r δ=r δ':=zaU (by unfold zeY;rw[h];exact hl)
theorem subI{E F:FE}{δ:En}{a b:Int}(h1:E δ=some (.val (.int a)))(h2:F δ=some (.val (.int b))):ex2 zgD E F δ=some (.val (.int (a - b))):=by simp only[ex2,h1,h2,zgD,pI0,iOf,jqa,jqc]
theorem fAppI{i:Nat}{e:FE}{δ:En}{ds:List D}{v:D}(h0:δ[i]? = some (some (.own ds)))(h:e δ=some (.val v))(hl:ds.length<1000000):zgV i e δ=some (.nx (δ.set i (some (.own (ds ++ [v]))))):=by
 unfold zgV;rw[h0,h];simp (disch:=omega) only[jqa,asV,zbg,zae]
theorem modI{E F:FE}{δ:En}{a b:Int}(h1:E δ=some (.val (.int a)))(h2:F δ=some (.val (.int b)))(hb:0<b):ex2 zbO E F δ=some (.val (.int (a % b))):=by simp (disch:=omega) only[ex2,h1,h2,zbO,pI,iOf,jqa,zbA,zae]
theorem divI{E F:FE}{δ:En}{a b:Int}(h1:E δ=some (.val (.int a)))(h2:F δ=some (.val (.int b)))(hb:0<b/\b<1000000):ex2 zd3 E F δ=some (.val (.int (a / b))):=by simp (disch:=omega) only[ex2,h1,h2,zd3,pI,iOf,jqa,zcY,zae]
theorem ixLB{E F:FE}{δ:En}{ds:List D}{a:Int}{v:D}(h1:E δ=some (.bor ds))(h2:F δ=some (.val (.int a)))(h:atI ds a=some v):ex2 zbQ E F δ=some (.val v):=by simp only[ex2,h1,h2,zbQ,asL,iOf,jqa,h,jqc]
theorem orLt{X Y:FE}{δ:En}{a b c:Int}(hX:X δ=some (.val (.int a)))(hY:Y δ=some (.val (.int b))):fOr (tOf (ex2 gLt X (eC (.int c)))) (tOf (ex2 gLt Y (eC (.int c)))) δ=some (decide (a<c \/ b<c)):=by
 by_cases c1:a<c
 ·simp only[fOr,tOf,ex2,hX,eC,gLt,pI0,iOf,jqa,jqc,c1,jqy,bOf,jra,jrd]
 ·by_cases c2:b<c <;> simp only[fOr,tOf,ex2,hX,eC,gLt,pI0,iOf,jqa,jqc,c1,jqz,bOf,hY,c2,jqy,jqr,jrb,jrc,or_self]
theorem orB{X Y:FE}{δ:En}{a b:Bool}(hX:X δ=some (.val (.bl a)))(hY:Y δ=some (.val (.bl b))):fOr (tOf X) (tOf Y) δ=some (a || b):=by
 cases a <;> simp only[fOr,tOf,hX,jqa,bOf,hY,jqr,jrb,Bool.false_or,jra,Bool.true_or]
theorem ixTT{E F:FE}{δ:En}{ds:List D}{a:Int}{v:D}(h1:E δ=some (.val (.tup ds)))(h2:F δ=some (.val (.int a)))(h:atI ds a=some v):ex2 zeW E F δ=some (.val v):=by simp only[ex2,h1,h2,zeW,zdx,iOf,jqa,h,jqc]
theorem ixSS{E F:FE}{δ:En}{tx:List Nat}{a:Int}{t:Nat}(h1:E δ=some (.val (.str (mkS tx))))(hl:tx.length<=1000000)(h2:F δ=some (.val (.int a)))(h:atI tx a=some t):ex2 zhh E F δ=some (.val (.str (mkS [t]))):=by simp only[ex2,h1,h2,zhh,sOf,iOf,jqa,zch,hl,zbg,zdP,h,jqc,zae]
theorem inSS{E F:FE}{δ:En}{z w:Str}(h1:E δ=some (.val (.str z)))(h2:F δ=some (.val (.str w))):ex2 gInS E F δ=some (.val (.bl (inS z w))):=by simp only[ex2,h1,h2,gInS,sOf,jqa,jqc]
theorem niSS{E F:FE}{δ:En}{z w:Str}(h1:E δ=some (.val (.str z)))(h2:F δ=some (.val (.str w))):ex2 gNiS E F δ=some (.val (.bl (!inS z w))):=by simp only[ex2,h1,h2,gNiS,sOf,jqa,jqc]
theorem low4{A B C E:FE}{δ:En}{a b c d:D}{g:List D->Option Ent}(hA:A δ=some (.val a))(hB:B δ=some (.val b))(hC:C δ=some (.val c))(hE:E δ=some (.val d)):za4 [.v] g (zaa (zce (zaa A (zaa B (zaa C (zaa E zaf))))) zaf) δ=g [.lst [a,b,c,d]]:=by simp only[za4,zaa,zce,hA,hB,hC,hE,zaf,jqc,jqa,jqp,jqq,Nat.reduceLeDiff,zd2,asV,jra,zbU,zd5]
theorem zfz{X Y:FE}{δ:En}{a b:D}{g:List D->Option Ent}(hX:X δ=some (.val a))(hY:Y δ=some (.val b)):za4 [.v,.v] g (zaa X (zaa Y zaf)) δ=g [a,b]:=by
 unfold za4 zaa zaf;rw[hX];simp only[Option.bind_some];rw[hY];rfl
theorem eIfI{A B C:FE}{δ:En}{q:Bool}{a b:D}(hA:A δ=some (.val (.bl q)))(hB:B δ=some (.val a))(hC:C δ=some (.val b)):eIf (tOf A) B C δ=some (.val (if q=true then a else b)):=by
 cases q <;> simp only[eIf,tOf,hA,jqa,bOf,hB,hC,jqr,jrb,jra]
theorem zex{i:Nat}{e:FE}{δ:En}{ds:List D}(h:e δ=some (.own ds)):zcp i e δ=some (.nx (δ.set i (some (.own ds)))):=by unfold zcp;rw[h];rfl
theorem ixLW{E F:FE}{δ:En}{ds:List D}{a:Int}{v:D}(h1:E δ=some (.vw ds))(h2:F δ=some (.val (.int a)))(h:atI ds a=some v):ex2 zbQ E F δ=some (.val v):=by simp only[ex2,h1,h2,zbQ,asL,iOf,jqa,h,jqc]
theorem eLst1{E:FE}{δ:En}{v:D}(h:E δ=some (.val v)):zce (zaa E zaf) δ=some (.own [v]):=by unfold zce zaa zaf;rw[h];rfl
end L3

namespace N52
open PySem L2 L3 PyProof.Rows
noncomputable section
noncomputable def zb2:FE:=
  (ex2 zeW (zab 0) (zab 1))
noncomputable def zcv:FS:=
  (zb7 (eCB zdX (zaa (eLC [1] (iB 0) zfr zb2) zaf)))
noncomputable def zbI:List D->Option Ent:=zc9 [.b,.v] 0 zcv
noncomputable def zaB:FS:=
  (zbb (fIf (fOr (tOf (ex2 gLt (zab 3) (eC (.int 2)))) (tOf (ex2 gLt (eCB zcL (zaa (zab 2) zaf)) (eC (.int 2))))) (zb7 (eC .non)) fNx)
   (zbb (fIf (fOr (tOf (ex2 gNiS (ex2 zhh (zab 2) (ex1 zfS (eC (.int 2)))) (ex2 zeW (zab 1) (ex2 zgD (zab 3) (eC (.int 1)))))) (tOf (ex2 gNiS (ex2 zhh (zab 2) (ex1 zfS (eC (.int 1)))) (ex2 zeW (zab 1) (ex2 zgD (zab 3) (eC (.int 2))))))) (zb7 (eC .non)) fNx)
   (zb7 (ex2 zeW (ex2 zbQ (zab 0) (ex1 zfS (eC (.int 2)))) (ex2 zgD (zab 3) (eC (.int 2)))))))
noncomputable def zaC:List D->Option Ent:=zc9 [.b,.v,.v,.v] 0 zaB
noncomputable def zcz:FS:=
  (zbb (fIf (fOr (tOf (ex2 gIsN (zab 0) (eC .non))) (tOf (ex2 gEq (zab 1) (eC (.int 0))))) (zb7 (eC .non)) fNx)
   (zb7 (ex2 zbX (zab 0) (zab 1))))
noncomputable def zaS:List D->Option Ent:=zc9 [.v,.v] 0 zcz
noncomputable def zcU:FE:=
  (zab 0)
noncomputable def zcQ:FT:=
  (tOf (ex2 gNoN (zab 0) (eC .non)))
noncomputable def zeC:FS:=
  (zb7 (ex2 gMinD (eLC [] (qV (zab 0)) zcQ zcU) (eC .non)))
noncomputable def zcD:List D->Option Ent:=zc9 [.v] 0 zeC
noncomputable def zcs:FS:=
  (zb7 (eCB gTupS (zaa (zab 0) zaf)))
noncomputable def zbF:List D->Option Ent:=zc9 [.v] 0 zcs
noncomputable def zaJ(kC:Str->Addr):FE:=
  (ex2 gDxI (ex1 (zcK (kC "Knot") ["word","branches"] 1) (zab 1)) (zab 0))
noncomputable def zaG(kC:Str->Addr):FT:=
  (tOf (ex2 gLe (eCB gAbs (zaa (ex2 zgD (zab 0) (zab 3)) zaf)) (zab 2)))
noncomputable def zbJ(kC:Str->Addr):FS:=
  (zb7 (eLC [0,2,1] (iDi (ex1 (zcK (kC "Knot") ["word","branches"] 1) (zab 0))) (zaG kC) (zaJ kC)))
noncomputable def zaL(kC:Str->Addr):List D->Option Ent:=zc9 [.v,.v,.v] 0 (zbJ kC)
noncomputable def zbj:FE:=
  (ex2 zeB (zab 0) (eCB zco (zaa (ex2 gGe (zab 0) (ex2 gPow (eC (.int 10)) (eC (.int 18)))) zaf)))
noncomputable def zbk:FS:=
  (zbb (zcp 6 (ex2 zbO (zab 5) (eCB zbN (zaa (zab 2) zaf))))
   (zbb (zcp 7 (ex2 zbX (ex2 zeB (ex2 zbO (ex2 zbX (ex2 zbX (ex2 zbQ (zab 2) (zab 6)) (ex2 zeB (ex2 zeB (zab 5) (zab 5)) (eC (.int 16807)))) (ex2 zeB (eC (.int 3)) (zab 5))) (eC (.int 2147483629))) (ex2 zbQ (zce (zaa (eC (.int 48271)) (zaa (eC (.int 69621)) (zaa (eC (.int 39373)) (zaa (eC (.int 16807)) zaf))))) (ex2 zbO (zab 5) (eC (.int 4))))) (eC (.int 7))))
   (zbb (zgV 4 (ex2 zbQ (zce (zaa (ex2 zbO (ex2 zeB (zab 7) (zab 7)) (eC (.int 2147483629))) (zaa (ex2 zbO (ex2 zbQ (zab 3) (zab 6)) (ex2 gPow (eC (.int 10)) (eC (.int 18)))) zaf))) (eCB zco (zaa (ex2 gNe (ex2 zbQ (zab 3) (zab 6)) (eC (.int 0))) zaf))))
   (fSIx 3 (zab 6) (ex2 gDivB (ex2 zbQ (zab 3) (zab 6)) (ex2 gPow (eC (.int 10)) (eC (.int 18))))))))
noncomputable def zci:FS:=
  (zbb (zcp 2 (ex2 gCat (eCB zc6 (zaa (zab 0) zaf)) (ex2 gRep (zce (zaa (eC (.int 0)) zaf)) (eCB zco (zaa (ex2 gEq (eCB zbN (zaa (zab 0) zaf)) (eC (.int 0))) zaf)))))
   (fFrz 2 (zbb (zcp 3 (eLC [] (iL (zab 2)) zfr zbj))
   (zbb (zcp 4 (zce zaf))
   (zbb (zeY (iR1 (zaa (zab 1) zaf)) (gNm 5) zbk)
   (zb7 (ex1 gLstRev (zab 4))))))))
noncomputable def zbz:List D->Option Ent:=zc9 [.b,.v] 6 zci
noncomputable def zcS:FS:=
  (zb7 (ex2 zhh (eC (.str "abcdefghijklmnopqrstuvwxyz")) (ex2 zbO (ex2 zbX (zab 0) (ex2 zeB (zab 1) (ex2 zbX (eC (.int 1)) (ex2 zbO (ex2 zd3 (zab 0) (eC (.int 26))) (eC (.int 8)))))) (eC (.int 26)))))
noncomputable def zbn:List D->Option Ent:=zc9 [.v,.v] 0 zcS
noncomputable def zba:FS:=
  (zbb (zcp 6 (ex2 zbX (ex2 zbQ (zab 2) (zab 5)) (eCB zco (zaa (ex2 gNe (ex2 zhh (zab 0) (zab 3)) (ex2 zhh (zab 1) (zab 5))) zaf))))
   (zgV 4 (eCB gMin3 (zaa (zab 6) (zaa (ex2 zbX (ex2 zbQ (zab 2) (ex2 zbX (zab 5) (eC (.int 1)))) (eC (.int 1))) (zaa (ex2 zbX (ex2 zbQ (zab 4) (zab 5)) (eC (.int 1))) zaf))))))
noncomputable def zbu:FS:=
  (zbb (zcp 4 (zce (zaa (ex2 zbX (zab 3) (eC (.int 1))) zaf)))
   (zbb (zeY (iR1 (zaa (eCB zcL (zaa (zab 1) zaf)) zaf)) (gNm 5) zba)
   (fFrz 4 (zcp 2 (zab 4)))))
noncomputable def zb8:FS:=
  (zbb (zcp 2 (ex1 zf1 (ex2 zbX (eCB zcL (zaa (zab 1) zaf)) (eC (.int 1)))))
   (zbb (zeY (iR1 (zaa (eCB zcL (zaa (zab 0) zaf)) zaf)) (gNm 3) zbu)
   (zb7 (ex2 zbQ (zab 2) (ex1 zfS (eC (.int 1)))))))
noncomputable def zb5:List D->Option Ent:=zc9 [.v,.v] 5 zb8
noncomputable def zbS:FS:=
  (zg4 0 "Book" [] "top" (eC .non))
noncomputable def zay:GM:=zfI 0 0 zbS
noncomputable def zb0:FS:=
  (zbb (zg4 0 "Knot" [] "word" (zab 1))
   (zg4 0 "Knot" ["word"] "branches" eDI0))
noncomputable def zan:GM:=zfI 1 0 zb0
noncomputable def zbd:FS:=
  (zgV 2 (za4 [.v,.v] zaS (zaa (ex2 zbQ (zab 2) (ex2 zgD (zab 3) (eC (.int 1)))) (zaa (ex2 zg8 (zab 1) (eC (.int 1))) zaf))))
noncomputable def zb9:FS:=
  (zbb (zcp 2 (zce (zaa (eC (.int 0)) zaf)))
   (zbb (zeY (iR2 (zaa (eC (.int 1)) (zaa (ex2 zbX (eCB zbN (zaa (zab 0) zaf)) (eC (.int 1))) zaf))) (gNm 3) zbd)
   (zb7 (eCB zdX (zaa (zab 2) zaf)))))
noncomputable def zbi:List D->Option Ent:=zc9 [.v,.t] 2 zb9
noncomputable def za1:FS:=
  (zbb (zcp 8 (ex2 gInS (ex2 zhh (zab 2) (ex1 zfS (eC (.int 1)))) (ex2 zeW (zab 1) (ex2 zgD (zab 7) (eC (.int 1))))))
   (zgV 6 (za4 [.v] zcD (zaa (zce (zaa (eIf (tOf (zab 8)) (ex2 zeW (zab 5) (ex2 zgD (zab 7) (eC (.int 1)))) (za4 [.v,.v] zaS (zaa (ex2 zeW (zab 5) (ex2 zgD (zab 7) (eC (.int 1)))) (zaa (ex2 zg8 (zab 3) (eC (.int 2))) zaf)))) (zaa (za4 [.v,.v] zaS (zaa (ex2 zeW (zab 5) (zab 7)) (zaa (ex2 zg8 (zab 3) (eC (.int 0))) zaf))) (zaa (za4 [.v,.v] zaS (zaa (ex2 zbQ (zab 6) (ex2 zgD (zab 7) (eC (.int 1)))) (zaa (ex2 zg8 (zab 3) (eC (.int 1))) zaf))) (zaa (za4 [.v,.v] zaS (zaa (za4 [.b,.v,.v,.v] zaC (zaa (zab 0) (zaa (zab 1) (zaa (zab 2) (zaa (zab 7) zaf))))) (zaa (ex2 zg8 (zab 3) (eC (.int 3))) zaf))) zaf))))) zaf))))
noncomputable def zbl:FS:=
  (zbb (zcp 5 (ex2 zbQ (zab 0) (ex1 zfS (eC (.int 1)))))
   (zbb (zcp 6 (zce (zaa (eIf (tOf (zab 4)) (eC (.int 0)) (za4 [.v,.v] zaS (zaa (ex2 zeW (zab 5) (eC (.int 0))) (zaa (ex2 zg8 (zab 3) (eC (.int 0))) zaf)))) zaf)))
   (zbb (zeY (iR2 (zaa (eC (.int 1)) (zaa (ex2 zbX (eCB zbN (zaa (zab 1) zaf)) (eC (.int 1))) zaf))) (gNm 7) za1)
   (zb7 (eCB zdX (zaa (zab 6) zaf))))))
noncomputable def zbm:List D->Option Ent:=zc9 [.b,.v,.v,.t,.v] 4 zbl
noncomputable def zbD:FS:=
  (zbb (zcp 3 (ex2 gAddS (zab 3) (za4 [.v,.v] zbn (zaa (zab 2) (zaa (ex2 zbO (zab 0) (zab 1)) zaf)))))
   (zcp 0 (ex2 zd3 (zab 0) (zab 1))))
noncomputable def zcf:FS:=
  (zbb (zcp 3 (eC (.str "")))
   (zbb (zcp 4 (ex2 zbQ (zce (zaa (ex2 zbO (zab 0) (eC (.int 9))) (zaa (ex2 zbO (zab 0) (eC (.int 5))) (zaa (ex2 zbO (zab 0) (eC (.int 7))) zaf)))) (ex2 zbO (ex2 zd3 (zab 0) (eC (.int 45))) (eC (.int 3)))))
   (zbb (zcp 0 (ex2 zd3 (zab 0) (eC (.int 315))))
   (zbb (zeY (iR1 (zaa (zab 4) zaf)) (gNm 5) zbD)
   (fRetV 3)))))
noncomputable def zbx:List D->Option Ent:=zc9 [.v,.v,.v] 3 zcf
noncomputable def zcg:FS:=
  (zgV 4 (za4 [.b,.v,.v,.t,.v] zbm (zaa (zab 4) (zaa (zab 0) (zaa (eSl gSlS (zab 1) oNo (oSo (zab 5))) (zaa (zab 2) (zaa (zab 3) zaf)))))))
noncomputable def zcj:FE:=
  (za4 [.b,.v] zbI (zaa (zab 1) (zaa (zab 0) zaf)))
noncomputable def zdg:FS:=
  (zbb (zcp 4 (zce (zaa (za4 [.v,.t] zbi (zaa (zab 0) (zaa (zab 2) zaf))) zaf)))
   (zbb (zeY (iR2 (zaa (eC (.int 1)) (zaa (ex2 zbX (eCB zcL (zaa (zab 1) zaf)) (eC (.int 1))) zaf))) (gNm 5) zcg)
   (zb7 (eCB zdX (zaa (eLC [4] (iR1 (zaa (ex2 zbX (eCB zbN (zaa (zab 0) zaf)) (eC (.int 1))) zaf)) zfr zcj) zaf)))))
noncomputable def zcd:List D->Option Ent:=zc9 [.v,.v,.t,.v] 2 zdg
noncomputable def zaR:FXE:=
  (xC [.v,.v,.v] zbx (zbr (xPop 2) (zbr (xP (zab 1)) (zbr (xP (ex2 zbO (ex2 zd3 (zab 3) (eC (.int 3))) (eC (.int 208)))) zg2))))
noncomputable def zbE:FS:=
  (zbb (zd6 2 (xPop 0))
   (zbb (zcp 3 (ex2 zbX (eC (.int 2)) (ex2 zbO (zab 2) (eC (.int 3)))))
   (fXRet (xLC [3,0,2] 0 1 (iR1 (zaa (ex2 zbO (ex2 zd3 (zab 2) (eC (.int 624))) (ex2 zbX (zab 1) (eC (.int 1)))) zaf)) zaR))))
noncomputable def za9:GM:=zfI 1 2 zbE
noncomputable def zbW:FS:=
  (zb7 (ex2 zeW (ex2 zeW (eCallD [.v,.v,.t,.v] zcd (zaa (zab 0) (zaa (zab 1) (zaa (zab 2) zaf))) (.bl false)) (ex1 zfS (eC (.int 1)))) (ex1 zfS (eC (.int 1)))))
noncomputable def za7:List D->Option Ent:=zc9 [.v,.v,.t] 0 zbW
noncomputable def zbV:FS:=
  (zb7 (za4 [.v,.v,.t] za7 (zaa (za4 [.v] zbF (zaa (zab 0) zaf)) (zaa (zab 1) (zaa (eB ([1,1,1,0].map .int)) zaf)))))
noncomputable def zah:List D->Option Ent:=zc9 [.v,.v] 0 zbV
noncomputable def F_hang:FS:=
  (fHang zah)
noncomputable def zd7:GM:=zfI 1 2 F_hang
noncomputable def zaD(kC:Str->Addr):FT:=
  (tOf (ex2 gGt (eCB zbN (zaa (zab 4) zaf)) (eC (.int 0))))
noncomputable def za3(kC:Str->Addr):FS:=
  (zbb (fPop 4 (gNm 5))
   (zbb (zcp 6 (za4 [.v,.v] zah (zaa (ex1 (zcK (kC "Knot") ["word","branches"] 0) (zab 5)) (zaa (zab 1) zaf))))
   (zbb (fIf (tOf (ex2 gLe (zab 6) (zab 2))) (zgV 3 (eTup (zaa (zab 6) (zaa (ex1 (zcK (kC "Knot") ["word","branches"] 0) (zab 5)) zaf)))) fNx)
   (fExt 4 (za4 [.v,.v,.v] (zaL kC) (zaa (zab 5) (zaa (zab 6) (zaa (zab 2) zaf))))))))
noncomputable def zbw(kC:Str->Addr):FS:=
  (zbb (fIf (tOf (ex2 gIsN (ex1 (zcK (kC "Book") ["top"] 0) (zab 0)) (eC .non))) (zb7 (eTup zaf)) fNx)
   (zbb (zcp 3 (zce zaf))
   (zbb (zcp 4 (zce (zaa (ex1 (zcK (kC "Book") ["top"] 0) (zab 0)) zaf)))
   (zbb (whl (zaD kC)
   (za3 kC) 1000)
   (zb7 (eCB zdX (zaa (eCB zfL (zaa (zab 3) zaf)) zaf)))))))
noncomputable def za8:GM:=semRA 2 4 zbw
noncomputable def zbC:FS:=
  (zbb (zcp 6 (za4 [.v,.v] zb5 (zaa (zab 2) (zaa (zab 5) zaf))))
   (fIf (tOf (ex2 gLe (zab 6) (zab 3))) (zgV 4 (eTup (zaa (zab 6) (zaa (zab 5) zaf)))) fNx))
noncomputable def zca:FS:=
  (fIf (fOr (fNot (tOf (ex1 (gIsi "tuple") (zab 8)))) (fOr (fNot (tOf (ex1 (gIsi "int") (ex2 zeW (zab 8) (eC (.int 0)))))) (tOf (ex1 (gIsi "bool") (ex2 zeW (zab 8) (eC (.int 0))))))) (zb7 (eC (.bl false))) fNx)
noncomputable def zbY:FS:=
  (zbb (zcp 4 (zce zaf))
   (zbb (zeY (iL (ex1 zc0 (zab 1))) (gNm 5) zbC)
   (zbb (zd6 7 (xM 0 "Book" ["top"] za8 (zaa (zab 2) (zaa (zab 3) zaf))))
   (zbb (fIf (fOr (fNot (tOf (ex1 (gIsi "tuple") (zab 7)))) (tOf (ex2 gNeD (eCB zc6 (zaa (zab 7) zaf)) (eCB zfL (zaa (zab 4) zaf))))) (zb7 (eC (.bl false))) fNx)
   (zbb (zeY (iT (zab 7)) (gNm 8) zca)
   (zb7 (eC (.bl true))))))))
noncomputable def zaQ:GM:=zfI 3 5 zbY
noncomputable def zbq:FS:=
  (zbb (fIf (tOf (eFIs 0 "Book" ["top"] 0)) (zbb (fFSet 0 "Book" ["top"] 0 (zdy "Knot" zan (zaa (zab 1) zaf)))
   (zb7 (eC (.bl true)))) fNx)
   (fXRet (xCOF 0 "Book" ["top"] 0 zd7 (zaa (zab 1) zaf))))
noncomputable def za2:GM:=zfI 1 0 zbq
noncomputable def zck:FXE:=
  (xC [.v,.v,.v] zbx (zbr (xPop 1) (zbr (xP (ex2 zbX (eC (.int 2)) (ex2 zbO (zab 2) (eC (.int 3))))) (zbr (xP (ex2 zbO (ex2 zd3 (zab 2) (eC (.int 3))) (eC (.int 208)))) zg2))))
noncomputable def zdC:FS:=
  (zbb (fX (xM 5 "Book" ["top"] za2 (zaa (ex2 zbQ (zab 2) (zab 6)) zaf)))
   (fXIf (xN (xT (xCO 5 zaQ (zbr (xP (eSl gSlL (zab 2) oNo (oSo (ex2 zbX (zab 6) (eC (.int 1)))))) (zbr (xP (ex2 zbQ (zab 4) (ex2 zbO (zab 6) (eCB zbN (zaa (zab 4) zaf))))) (zbr (xP (ex2 zbQ (zce (zaa (eC (.int 0)) (zaa (eC (.int 1)) (zaa (eC (.int 2)) (zaa (eC (.int 3)) (zaa (eC (.int 8)) (zaa (ex2 zbO (ex2 zd3 (zab 3) (eC (.int 624))) (eC (.int 41))) zaf))))))) (ex2 zbO (zab 6) (eC (.int 6))))) zg2)))))) (zb7 (eC (.bl false))) fNx))
noncomputable def zeO:FS:=
  (fXIf (xN (xT (xCO 5 zaQ (zbr (xP (zab 2)) (zbr (xP (zab 7)) (zbr (xP (zab 8)) zg2)))))) (zb7 (eC (.bl false))) fNx)
noncomputable def zgL:FS:=
  (zeY (iL (zce (zaa (eC (.int 0)) (zaa (eC (.int 1)) (zaa (eC (.int 2)) (zaa (ex2 zbO (ex2 zd3 (zab 3) (eC (.int 624))) (eC (.int 41))) zaf)))))) (gNm 8) zeO)
noncomputable def zgj:FS:=
  (zbb (zeY (iL (zab 4)) (gNm 7) zgL)
   (zb7 (eC (.bl true))))
noncomputable def zgs:FS:=
  (zbb (zeY (iR1 (zaa (eCB zbN (zaa (zab 2) zaf)) zaf)) (gNm 6) zdC)
   zgj)
noncomputable def zgE:FS:=
  (zbb (fXIf (xN (xT (xCO 5 zaQ (zbr (xP (zce zaf)) (zbr (xP (ex2 zbQ (zab 4) (eC (.int 0)))) (zbr (xP (eC (.int 40))) zg2)))))) (zb7 (eC (.bl false))) fNx)
   zgs)
noncomputable def zgl:FS:=
  (zbb (fSetO 5 (zdy "Book" zay zaf))
   zgE)
noncomputable def zgd:FS:=
  (zbb (zd6 4 (x2 gCat (xLC [1,3] 1 0 (iR1 (zaa (eC (.int 6)) zaf)) zck) (xP (eSl gSlL (zab 2) oNo (oSo (eC (.int 2)))))))
   zgl)
noncomputable def zgh:FS:=
  (zbb (zd6 3 (xPop 1))
   zgd)
noncomputable def zgy:FS:=
  (zbb (zd6 2 (xCO 1 za9 (zbr (xP (eC (.int 12))) zg2)))
   zgh)
noncomputable def F_law:FS:=
  (zbb (zgg 1 (za4 [.b,.v] zbz (zaa (eSl gSlL (zab 0) oNo (oSo (eC (.int 63)))) (zaa (eC (.int 40)) zaf))))
   zgy)
noncomputable def g_law:List D->Option Ent:=zc9 [.b] 8 F_law
end
theorem kinit(w:Str):zan (.ins "Knot" [] []) [.str w]=some (.non,mkK w [] []):=by
 simp only[zan,zfI,zb0,List.length_cons,List.length_nil,reduceIte,List.map_cons,List.map_nil,List.replicate_zero,List.append_nil,List.cons_append,List.nil_append,zbb,zg4,zab,eDI0,oAt,toO,sqO,Option.bind_some,List.getElem?_cons_zero,List.getElem?_cons_succ,zcB,List.set_cons_zero,endM,Option.map_some,mkK]
end N52

namespace N52
open PySem L2 L3 PyProof.Rows
noncomputable def top(i:Nat):Stmt:=PySem.Challenge.pw_nearfind_k52_near.main.body.getD i (.Pass ⟨0,0,0,0⟩)
noncomputable def clsB(st:Stmt)(j:Nat):Stmt:=match st with
 | .ClassDef _ _ _ b _ _ _ _ _ _ _=>b.getD j (.Pass ⟨0,0,0,0⟩)
 | _=>.Pass ⟨0,0,0,0⟩
noncomputable abbrev za6:Stmt:=top 6
theorem sc_cells_of:FnScope ["P","T","prices","free","columns","signs"] ["P","T","prices","free"] (zac za6):=⟨rfl,rfl,rfl,by decide +kernel,rfl,by decide +kernel,by decide +kernel⟩
noncomputable abbrev zau:Stmt:=top 7
theorem zdz:FnScope ["P","T","prices"] ["P","T","prices"] (zac zau):=⟨rfl,rfl,rfl,by decide +kernel,rfl,by decide +kernel,by decide +kernel⟩
noncomputable abbrev zaM:Stmt:=top 8
theorem zeL:FnScope ["columns","classes"] ["columns","classes"] (zac zaM):=⟨rfl,rfl,rfl,by decide +kernel,rfl,by decide +kernel,by decide +kernel⟩
noncomputable abbrev zax:Stmt:=top 9
theorem sc_first_column:FnScope ["pattern","prices","column","classes"] ["pattern","prices"] (zac zax):=⟨rfl,rfl,rfl,by decide +kernel,rfl,by decide +kernel,by decide +kernel⟩
noncomputable abbrev zap:Stmt:=top 10
theorem sc_further_column:FnScope ["columns","pattern","text","prices","free","before","column","classes","fits"] ["columns","pattern","text","prices","free"] (zac zap):=⟨rfl,rfl,rfl,by decide +kernel,rfl,by decide +kernel,by decide +kernel⟩
noncomputable abbrev zai:Stmt:=top 11
theorem zcw:FnScope ["columns","pattern","text","classes"] ["columns","pattern","text","classes"] (zac zai):=⟨rfl,rfl,rfl,by decide +kernel,rfl,by decide +kernel,by decide +kernel⟩
noncomputable abbrev zbo:Stmt:=top 12
theorem zhb:FnScope ["cell","price"] ["cell","price"] (zac zbo):=⟨rfl,rfl,rfl,by decide +kernel,rfl,by decide +kernel,by decide +kernel⟩
noncomputable abbrev zbG:Stmt:=top 13
theorem sc_lowest:FnScope ["cells"] ["cells"] (zac zbG):=⟨rfl,rfl,rfl,by decide +kernel,rfl,by decide +kernel,by decide +kernel⟩
noncomputable abbrev zaO:Stmt:=top 16
theorem zeo:FnScope ["W"] ["W"] (zac zaO):=⟨rfl,rfl,rfl,by decide +kernel,rfl,by decide +kernel,by decide +kernel⟩
noncomputable abbrev zat:Stmt:=top 20
theorem zdv:FnScope ["word","other"] ["word","other"] (zac zat):=⟨rfl,rfl,rfl,by decide +kernel,rfl,by decide +kernel,by decide +kernel⟩
noncomputable abbrev zcx:Stmt:=top 21
theorem sc_hang:FnScope ["top","word","knot","price"] ["top","word"] (zac zcx):=⟨rfl,rfl,rfl,by decide +kernel,rfl,by decide +kernel,by decide +kernel⟩
noncomputable abbrev zao:Stmt:=top 22
theorem zdi:FnScope ["knot","price","most"] ["knot","price","most"] (zac zao):=⟨rfl,rfl,rfl,by decide +kernel,rfl,by decide +kernel,by decide +kernel⟩
noncomputable abbrev zaV:Stmt:=top 24
theorem sc__law_deck:FnScope ["_law_cells","_law_many","_law_own","_law_row","_law_deck_here","_law_k","_law_at","_law_one"] ["_law_cells","_law_many"] (zac zaV):=⟨rfl,rfl,rfl,by decide +kernel,rfl,by decide +kernel,by decide +kernel⟩
noncomputable abbrev zaY:Stmt:=top 25
theorem zfx:FnScope ["_law_turn","_law_number"] ["_law_turn","_law_number"] (zac zaY):=⟨rfl,rfl,rfl,by decide +kernel,rfl,by decide +kernel,by decide +kernel⟩
noncomputable abbrev zaX:Stmt:=top 26
theorem sc__law_word:FnScope ["_law_cell","_law_few","_law_turn","_law_word_here","_law_long","_law_k"] ["_law_cell","_law_few","_law_turn"] (zac zaX):=⟨rfl,rfl,rfl,by decide +kernel,rfl,by decide +kernel,by decide +kernel⟩
noncomputable abbrev zaN:Stmt:=top 27
theorem sc__law_words:FnScope ["_law_deck_here","_law_most","_law_turn","_law_few"] ["_law_deck_here","_law_most"] (zac zaN):=⟨rfl,rfl,rfl,by decide +kernel,rfl,by decide +kernel,by decide +kernel⟩
noncomputable abbrev zaP:Stmt:=top 28
theorem sc__law_price:FnScope ["_law_one","_law_other","_law_row","_law_k","_law_below","_law_j","_law_step"] ["_law_one","_law_other"] (zac zaP):=⟨rfl,rfl,rfl,by decide +kernel,rfl,by decide +kernel,by decide +kernel⟩
noncomputable abbrev zaZ:Stmt:=top 29
theorem sc__law_told:FnScope ["_law_book","_law_words_here","_law_one","_law_most","_law_due","_law_word_here","_law_price_here","_law_found","_law_pair"] ["_law_book","_law_words_here","_law_one","_law_most"] (zac zaZ):=⟨rfl,rfl,rfl,by decide +kernel,rfl,by decide +kernel,by decide +kernel⟩
noncomputable abbrev zcO:Stmt:=top 30
theorem sc_law:FnScope ["_law_script","_law_deck_here","_law_words_here","_law_turn","_law_asked","_law_book","_law_k","_law_one","_law_most"] ["_law_script"] (zac zcO):=⟨rfl,rfl,rfl,by decide +kernel,rfl,by decide +kernel,by decide +kernel⟩
noncomputable abbrev zas:Stmt:=clsB (top 18) 0
theorem zdu:FnScope ["self"] ["self"] (zac zas):=⟨rfl,rfl,rfl,by decide +kernel,rfl,by decide +kernel,by decide +kernel⟩
noncomputable abbrev za5:Stmt:=clsB (top 18) 1
theorem zfF:FnScope ["self","W"] ["self","W"] (zac za5):=⟨rfl,rfl,rfl,by decide +kernel,rfl,by decide +kernel,by decide +kernel⟩
noncomputable abbrev zaW:Stmt:=clsB (top 18) 3
theorem sc_Book_near:FnScope ["self","W","most","found","waiting","knot","price"] ["self","W","most"] (zac zaW):=⟨rfl,rfl,rfl,by decide +kernel,rfl,by decide +kernel,by decide +kernel⟩
noncomputable abbrev zav:Stmt:=clsB (top 19) 0
theorem zdw:FnScope ["self","word"] ["self","word"] (zac zav):=⟨rfl,rfl,rfl,by decide +kernel,rfl,by decide +kernel,by decide +kernel⟩
theorem boot_abs:bootBuiltins "abs" = some (.builtin "abs"):=by kernel_rfl
theorem boot_bool:bootBuiltins "bool" = some (.type "bool"):=by kernel_rfl
theorem zda:bootBuiltins "int" = some (.type "int"):=by kernel_rfl
theorem zbs:bootBuiltins "isinstance" = some (.builtin "isinstance"):=by kernel_rfl
theorem zbc:bootBuiltins "len" = some (.builtin "len"):=by kernel_rfl
theorem zc4:bootBuiltins "list" = some (.type "list"):=by kernel_rfl
theorem zgr:bootBuiltins "min" = some (.builtin "min"):=by kernel_rfl
theorem boot_range:bootBuiltins "range" = some (.type "range"):=by kernel_rfl
theorem zeF:bootBuiltins "reversed" = some (.type "reversed"):=by kernel_rfl
theorem boot_set:bootBuiltins "set" = some (.type "set"):=by kernel_rfl
theorem zcT:bootBuiltins "sorted" = some (.builtin "sorted"):=by kernel_rfl
theorem zbp:bootBuiltins "tuple" = some (.type "tuple"):=by kernel_rfl
structure Txt(K:PySem.W.Frag)(mg:Str->Option Value):Prop where
 m_abs:mg "abs" = none
 m_bool:mg "bool" = none
 m_int:mg "int" = none
 m_isinstance:mg "isinstance" = none
 m_len:mg "len" = none
 m_list:mg "list" = none
 m_min:mg "min" = none
 m_range:mg "range" = none
 m_reversed:mg "reversed" = none
 m_set:mg "set" = none
 m_sorted:mg "sorted" = none
 m_tuple:mg "tuple" = none
 g_PUT:∃ u,mg "PUT" = some u/\RelV (.int 0) u
 g_LEFT:∃ u,mg "LEFT" = some u/\RelV (.int 1) u
 g_EXCHANGED:∃ u,mg "EXCHANGED" = some u/\RelV (.int 2) u
 g_TURNED:∃ u,mg "TURNED" = some u/\RelV (.int 3) u
 u_PLAIN_PRICES:∃ a,mg "PLAIN_PRICES" = some (.ref a)/\TupK K a [1,1,1,0]
 c_Book:∃ C,ClsD K mg "Book" ["top"] C
 c_Knot:∃ C,ClsD K mg "Knot" ["word","branches"] C
 d_cells_of:∃ f fd,DefD K mg "cells_of" za6 ["P","T","prices","free"] f fd
 d_price_between:∃ f fd,Def K mg "price_between" zau ["P","T","prices"] f fd
 d_row_across:∃ f fd,Def K mg "row_across" zaM ["columns","classes"] f fd
 d_first_column:∃ f fd,Def K mg "first_column" zax ["pattern","prices"] f fd
 d_further_column:∃ f fd,Def K mg "further_column" zap ["columns","pattern","text","prices","free"] f fd
 d_cell_ahead_of_turn:∃ f fd,Def K mg "cell_ahead_of_turn" zai ["columns","pattern","text","classes"] f fd
 d_stepped:∃ f fd,Def K mg "stepped" zbo ["cell","price"] f fd
 d_lowest:∃ f fd,Def K mg "lowest" zbG ["cells"] f fd
 d_pattern_of:∃ f fd,Def K mg "pattern_of" zaO ["W"] f fd
 d_slips_between:∃ f fd,Def K mg "slips_between" zat ["word","other"] f fd
 d_hang:∃ f fd,Def K mg "hang" zcx ["top","word"] f fd
 d_knots_in_reach:∃ f fd,Def K mg "knots_in_reach" zao ["knot","price","most"] f fd
 d__law_deck:∃ f fd,Def K mg "_law_deck" zaV ["_law_cells","_law_many"] f fd
 d__law_sign:∃ f fd,Def K mg "_law_sign" zaY ["_law_turn","_law_number"] f fd
 d__law_word:∃ f fd,Def K mg "_law_word" zaX ["_law_cell","_law_few","_law_turn"] f fd
 d__law_words:∃ f fd,Def K mg "_law_words" zaN ["_law_deck_here","_law_most"] f fd
 d__law_price:∃ f fd,Def K mg "_law_price" zaP ["_law_one","_law_other"] f fd
 d__law_told:∃ f fd,Def K mg "_law_told" zaZ ["_law_book","_law_words_here","_law_one","_law_most"] f fd
 d_Book___init__:∃ f fd,MakeD K "Book" zas "Book.__init__" ["self"] f fd
 d_Book_put:∃ f fd,MethD K "Book" "put" za5 "Book.put" ["self","W"] f fd
 d_Book_near:∃ f fd,MethD K "Book" "near" zaW "Book.near" ["self","W","most"] f fd
 d_Knot___init__:∃ f fd,MakeD K "Knot" zav "Knot.__init__" ["self","word"] f fd
section
variable {P:Program}{w:World}{K:PySem.W.Frag}{mg:Str->Option Value}{base:Heap}{f:Addr}{fd:FuncData}
theorem zeQ(T:Txt K mg)(F:FunA K "row_across" "row_across" zaM f fd):FnOk P w K mg base CX0 1 f fd ["columns","classes"] (spD K [.b,.v] zbI):=by
 refine zbL F zeL zcv rfl (fun _ _ h=>h) fun cdv A outer s H E hr=>?_
 have hu:=zb1 hr
 exact(ss1 (zdj (vct ze0 (by rfl) T.m_tuple zbp (zad (vlc (N:=["column","classes"]) (fr:=[1]) ⟨rfl,rfl,rfl,by decide +kernel,rfl,rfl⟩ (iib 0) (fun _ _ _ _=>by exact if0) (fun _ _ _ _=>by exact(vix zdf (vv 0) (vv 1) (fun _ _=>rfl)))) zaT))))
theorem zcu(T:Txt K mg)(F:FunA K "cell_ahead_of_turn" "cell_ahead_of_turn" zai f fd):FnOk P w K mg base CX0 1 f fd ["columns","pattern","text","classes"] (spD K [.b,.v,.v,.v] zaC):=by
 refine zbL F zcw zaB rfl (fun _ _ h=>h) fun cdv A outer s H E hr=>?_
 have hu:=zb1 hr
 exact(ssc (sIf (tww (tor' (tcm ((o_lt)) (vv 3) zaF (zbH _)) (tor1' (tcm ((o_lt)) (vcb zfe (by rfl) T.m_len zbc (zad (vv 2) zaT)) zaF (zbH _))))) (ss1 (zdj vnon)) ss0)
   (ssc (sIf (tww (tor' (tcm (o_niS) (vix zg5 (vv 2) (vun ze8 zaF) (fun _ _=>rfl)) (vix zdf (vv 1) (vop zep (vv 3) zaF) (fun _ _=>rfl)) (by with_unfolding_all rfl)) (tor1' (tcm (o_niS) (vix zg5 (vv 2) (vun ze8 zaF) (fun _ _=>rfl)) (vix zdf (vv 1) (vop zep (vv 3) zaF) (fun _ _=>rfl)) (by with_unfolding_all rfl))))) (ss1 (zdj vnon)) ss0)
   (ss1 (zdj (vix zdf (vix zbv (vv 0) (vun ze8 zaF) (fun _ _=>rfl)) (vop zep (vv 3) zaF) (fun _ _=>rfl))))))
theorem zec(T:Txt K mg)(F:FunA K "stepped" "stepped" zbo f fd):FnOk P w K mg base CX0 1 f fd ["cell","price"] (spD K [.v,.v] zaS):=by
 refine zbL F zhb zcz rfl (fun _ _ h=>h) fun cdv A outer s H E hr=>?_
 have hu:=zb1 hr
 exact(ssc (sIf (tww (tor' (tcm (o_isN) (vv 0) vnon (zbH _)) (tor1' (tcm (o_eq) (vv 1) zaF (zbH _))))) (ss1 (zdj vnon)) ss0)
   (ss1 (zdj (vop zcc (vv 0) (vv 1)))))
theorem ok_lowest(T:Txt K mg)(F:FunA K "lowest" "lowest" zbG f fd):FnOk P w K mg base CX0 1 f fd ["cells"] (spD K [.v] zcD):=by
 refine zbL F sc_lowest zeC rfl (fun _ _ h=>h) fun cdv A outer s H E hr=>?_
 have hu:=zb1 hr
 exact(ss1 (zdj (vminD (vlc (N:=["cell"]) (fr:=[]) ⟨rfl,rfl,rfl,by decide +kernel,rfl,rfl⟩ (iiq (vv 0)) (fun _ _ _ _=>by exact(if1 (tcm (o_noN) (vv 0) vnon (zbH _)))) (fun _ _ _ _=>by exact(vv 0))) vnon (by rfl) T.m_min zgr)))
theorem zeM(T:Txt K mg)(F:FunA K "pattern_of" "pattern_of" zaO f fd):FnOk P w K mg base CX0 1 f fd ["W"] (spD K [.v] zbF):=by
 refine zbL F zeo zcs rfl (fun _ _ h=>h) fun cdv A outer s H E hr=>?_
 have hu:=zb1 hr
 exact(ss1 (zdj (vct c_tupS (by rfl) T.m_tuple zbp (zad (vv 0) zaT))))
theorem zdd{kC:Str->Addr}(hK:∀ c C,zb4 K c C->C=kC c)(T:Txt K mg)(F:FunA K "knots_in_reach" "knots_in_reach" zao f fd):FnOk P w K mg base CX0 1 f fd ["knot","price","most"] (spD K [.v,.v,.v] (zaL kC)):=by
 obtain⟨C_Knot,DC_Knot⟩:=T.c_Knot
 refine zbL F zdi (zbJ kC) rfl (fun _ _ h=>h) fun cdv A outer s H E hr=>?_
 have hu:=zb1 hr
 exact(ss1 (zdj (vlc (N:=["other","knot","most","price"]) (fr:=[0,2,1]) ⟨rfl,rfl,rfl,by decide +kernel,rfl,rfl⟩ (iidi (zhd (ns:=["word","branches"]) 1 DC_Knot (hK _ _ DC_Knot.at_) (vv 0))) (fun _ _ _ _=>by exact(if1 (tcm (o_le) (vcb c_abs (by rfl) T.m_abs boot_abs (zad (vop zep (vv 0) (vv 3)) zaT)) (vv 2) (zbH _)))) (fun _ _ _ _=>by exact(vix x_di (zhd (ns:=["word","branches"]) 1 DC_Knot (hK _ _ DC_Knot.at_) (vv 1)) (vv 0) (fun _ _=>rfl))))))
theorem ze2(T:Txt K mg)(F:FunA K "_law_deck" "_law_deck" zaV f fd):FnOk P w K mg base CX0 1 f fd ["_law_cells","_law_many"] (spD K [.b,.v] zbz):=by
 refine zbL F sc__law_deck zci rfl (fun _ _ h=>h) fun cdv A outer s H E hr=>?_
 have hu:=zb1 hr
 exact(ssc (zdI (i:=2) sc__law_deck.nd rfl (Or.inl rfl) (vop o_cat (vct c_listQ (by rfl) T.m_list zc4 (zad (vv 0) zaT)) (vop o_rep (zfB (zad zaF zaT)) (vct zgM (by rfl) T.m_int zda (zad (vcmp (o_eq) (vcb zdq (by rfl) T.m_len zbc (zad (vv 0) zaT)) zaF (zbH _)) zaT)))))
   (sFrz 2 (ssc (sSetLC (i:=3) sc__law_deck.nd rfl (Or.inl rfl) (N:=["_law_cell"]) (fr:=[]) ⟨rfl,rfl,rfl,by decide +kernel,rfl,rfl⟩ (iil (vv 2)) (fun _ _ _ _=>by exact if0) (fun _ _ _ _=>by exact(vop zfX (vv 0) (vct zgM (by rfl) T.m_int zda (zad (vcmp (o_ge) (vv 0) (vop o_pow zaF zaF) (zbH _)) zaT)))))
   (ssc (zdI (i:=4) sc__law_deck.nd rfl (Or.inl rfl) (zfB zaT))
   (ssc (zhg (iir1 (by rfl) T.m_range (zad (vv 1) zaT)) (gnm (i:=5) sc__law_deck.nd rfl (Or.inl rfl))
   (ssc (zdI (i:=6) sc__law_deck.nd rfl (Or.inl rfl) (vop zcb (vv 5) (vcb zdq (by rfl) T.m_len zbc (zad (vv 2) zaT))))
   (ssc (zdI (i:=7) sc__law_deck.nd rfl (Or.inl rfl) (vop zcc (vop zfX (vop zcb (vop zcc (vop zcc (vix zbv (vv 2) (vv 6) (fun _ _=>rfl)) (vop zfX (vop zfX (vv 5) (vv 5)) zaF)) (vop zfX zaF (vv 5))) zaF) (vix zbv (zfB (zad zaF (zad zaF (zad zaF (zad zaF zaT))))) (vop zcb (vv 5) zaF) (fun _ _=>rfl))) zaF))
   (ssc (sApp 4 (vix zbv (zfB (zad (vop zcb (vop zfX (vv 7) (vv 7)) zaF) (zad (vop zcb (vix zbv (vv 3) (vv 6) (fun _ _=>rfl)) (vop o_pow zaF zaF)) zaT))) (vct zgM (by rfl) T.m_int zda (zad (vcmp (o_ne) (vix zbv (vv 3) (vv 6) (fun _ _=>rfl)) zaF (zbH _)) zaT)) (fun _ _=>rfl)))
   (ss1 (sSIx 3 (vop o_divB (vix zbv (vv 3) (vv 6) (fun _ _=>rfl)) (vop o_pow zaF zaF)) (vv 6) (hg:=fun a b=>⟨pg_sub a.h b.h set_list⟩)))))))
   (ss1 (zdj (vLstRev (vv 4) (by rfl) T.m_list zc4 (by rfl) T.m_reversed zeF))))))))
theorem zfw(T:Txt K mg)(F:FunA K "_law_sign" "_law_sign" zaY f fd):FnOk P w K mg base CX0 1 f fd ["_law_turn","_law_number"] (spD K [.v,.v] zbn):=by
 refine zbL F zfx zcS rfl (fun _ _ h=>h) fun cdv A outer s H E hr=>?_
 have hu:=zb1 hr
 exact(ss1 (zdj (vix zg5 vstr (vop zcb (vop zcc (vv 0) (vop zfX (vv 1) (vop zcc zaF (vop zcb (vop zeX (vv 0) zaF) zaF)))) zaF) (fun _ _=>rfl))))
theorem zeI(T:Txt K mg)(F:FunA K "_law_price" "_law_price" zaP f fd):FnOk P w K mg base CX0 1 f fd ["_law_one","_law_other"] (spD K [.v,.v] zb5):=by
 refine zbL F sc__law_price zb8 rfl (fun _ _ h=>h) fun cdv A outer s H E hr=>?_
 have hu:=zb1 hr
 exact(ssc (zdI (i:=2) sc__law_price.nd rfl (Or.inl rfl) (vListR (vop zcc (vcb zfe (by rfl) T.m_len zbc (zad (vv 1) zaT)) zaF) (by rfl) T.m_list zc4 (by rfl) T.m_range boot_range))
   (ssc (zhg (iir1 (by rfl) T.m_range (zad (vcb zfe (by rfl) T.m_len zbc (zad (vv 0) zaT)) zaT)) (gnm (i:=3) sc__law_price.nd rfl (Or.inl rfl))
   (ssc (zdI (i:=4) sc__law_price.nd rfl (Or.inl rfl) (zfB (zad (vop zcc (vv 3) zaF) zaT)))
   (ssc (zhg (iir1 (by rfl) T.m_range (zad (vcb zfe (by rfl) T.m_len zbc (zad (vv 1) zaT)) zaT)) (gnm (i:=5) sc__law_price.nd rfl (Or.inl rfl))
   (ssc (zdI (i:=6) sc__law_price.nd rfl (Or.inl rfl) (vop zcc (vix zbv (vv 2) (vv 5) (fun _ _=>rfl)) (vct zgM (by rfl) T.m_int zda (zad (vcmp (o_ne) (vix zg5 (vv 0) (vv 3) (fun _ _=>rfl)) (vix zg5 (vv 1) (vv 5) (fun _ _=>rfl)) (zbH _)) zaT))))
   (ss1 (sApp 4 (vcb c_min3 (by rfl) T.m_min zgr (zad (vv 6) (zad (vop zcc (vix zbv (vv 2) (vop zcc (vv 5) zaF) (fun _ _=>rfl)) zaF) (zad (vop zcc (vix zbv (vv 4) (vv 5) (fun _ _=>rfl)) zaF) zaT))))))))
   (sFrz 4 (ss1 (zdI (i:=2) sc__law_price.nd rfl (Or.inl rfl) (vv 4)))))))
   (ss1 (zdj (vix zbv (vv 2) (vun ze8 zaF) (fun _ _=>rfl))))))
theorem zdt(T:Txt K mg)(F:FunA K "__init__" "Book.__init__" zas f fd):FnOk P w K mg base CX0 1 f fd ["self"] (spM K zay):=by
 obtain⟨C_Book,DC_Book⟩:=T.c_Book
 refine zek (n:=0) F zdu zbS rfl (fun _ _ _ h=>h) fun cdv A outer s H E hr=>?_
 have hu:=zb1 hr
 exact(ss1 (sFNew (ns:=[]) 0 DC_Book.toF vnon))
theorem zcn(T:Txt K mg)(F:FunA K "__init__" "Knot.__init__" zav f fd):FnOk P w K mg base CX0 1 f fd ["self","word"] (spM K zan):=by
 obtain⟨C_Knot,DC_Knot⟩:=T.c_Knot
 refine zek (n:=1) F zdw zb0 rfl (fun _ _ _ h=>h) fun cdv A outer s H E hr=>?_
 have hu:=zb1 hr
 exact(ssc (sFNew (ns:=[]) 0 DC_Knot.toF (vv 1))
   (ss1 (sFNew (ns:=["word"]) 0 DC_Knot.toF vDI0)))
theorem zdY(T:Txt K mg)(F:FunA K "first_column" "first_column" zax f fd):FnOk P w K mg base CX0 2 f fd ["pattern","prices"] (spD K [.v,.t] zbi):=by
 obtain⟨f_stepped,fd_stepped,D_stepped⟩:=T.d_stepped
 have G_stepped:FnOk P w K mg base CX0 1 f_stepped fd_stepped ["cell","price"] (spD K [.v,.v] zaS):=zec T (.of D_stepped.fn)
 refine zbL F sc_first_column zb9 rfl (fun _ _ h=>h) fun cdv A outer s H E hr=>?_
 have hu:=zb1 hr
 exact(ssc (zdI (i:=2) sc_first_column.nd rfl (Or.inl rfl) (zfB (zad zaF zaT)))
   (ssc (zhg (iir2 (by rfl) T.m_range (zad zaF (zad (vop zcc (vcb zdq (by rfl) T.m_len zbc (zad (vv 0) zaT)) zaF) zaT))) (gnm (i:=3) sc_first_column.nd rfl (Or.inl rfl))
   (ss1 (sApp 2 (vcl G_stepped D_stepped hr (by rfl) zbf (zad (vix zbv (vv 2) (vop zep (vv 3) zaF) (fun _ _=>rfl)) (zad (vix x_bt (vv 1) (vglI (by rfl) T.g_LEFT) (fun _ _=>rfl)) zaT))))))
   (ss1 (zdj (vct ze0 (by rfl) T.m_tuple zbp (zad (vv 2) zaT))))))
theorem zde(T:Txt K mg)(F:FunA K "further_column" "further_column" zap f fd):FnOk P w K mg base CX0 2 f fd ["columns","pattern","text","prices","free"] (spD K [.b,.v,.v,.t,.v] zbm):=by
 obtain⟨f_cell_ahead_of_turn,fd_cell_ahead_of_turn,D_cell_ahead_of_turn⟩:=T.d_cell_ahead_of_turn
 have G_cell_ahead_of_turn:FnOk P w K mg base CX0 1 f_cell_ahead_of_turn fd_cell_ahead_of_turn ["columns","pattern","text","classes"] (spD K [.b,.v,.v,.v] zaC):=zcu T (.of D_cell_ahead_of_turn.fn)
 obtain⟨f_lowest,fd_lowest,D_lowest⟩:=T.d_lowest
 have G_lowest:FnOk P w K mg base CX0 1 f_lowest fd_lowest ["cells"] (spD K [.v] zcD):=ok_lowest T (.of D_lowest.fn)
 obtain⟨f_stepped,fd_stepped,D_stepped⟩:=T.d_stepped
 have G_stepped:FnOk P w K mg base CX0 1 f_stepped fd_stepped ["cell","price"] (spD K [.v,.v] zaS):=zec T (.of D_stepped.fn)
 refine zbL F sc_further_column zbl rfl (fun _ _ h=>h) fun cdv A outer s H E hr=>?_
 have hu:=zb1 hr
 exact(ssc (zdI (i:=5) sc_further_column.nd rfl (Or.inl rfl) (vix zbv (vv 0) (vun ze8 zaF) (fun _ _=>rfl)))
   (ssc (zdI (i:=6) sc_further_column.nd rfl (Or.inl rfl) (zfB (zad (vif (tva (vv 4)) zaF (vcl G_stepped D_stepped hr (by rfl) zbf (zad (vix zdf (vv 5) zaF (fun _ _=>rfl)) (zad (vix x_bt (vv 3) (vglI (by rfl) T.g_PUT) (fun _ _=>rfl)) zaT)))) zaT)))
   (ssc (zhg (iir2 (by rfl) T.m_range (zad zaF (zad (vop zcc (vcb zdq (by rfl) T.m_len zbc (zad (vv 1) zaT)) zaF) zaT))) (gnm (i:=7) sc_further_column.nd rfl (Or.inl rfl))
   (ssc (zdI (i:=8) sc_further_column.nd rfl (Or.inl rfl) (vcmp (o_inS) (vix zg5 (vv 2) (vun ze8 zaF) (fun _ _=>rfl)) (vix zdf (vv 1) (vop zep (vv 7) zaF) (fun _ _=>rfl)) (by with_unfolding_all rfl)))
   (ss1 (sApp 6 (vcl G_lowest D_lowest hr (by rfl) zbf (zad (zfB (zad (vif (tva (vv 8)) (vix zdf (vv 5) (vop zep (vv 7) zaF) (fun _ _=>rfl)) (vcl G_stepped D_stepped hr (by rfl) zbf (zad (vix zdf (vv 5) (vop zep (vv 7) zaF) (fun _ _=>rfl)) (zad (vix x_bt (vv 3) (vglI (by rfl) T.g_EXCHANGED) (fun _ _=>rfl)) zaT)))) (zad (vcl G_stepped D_stepped hr (by rfl) zbf (zad (vix zdf (vv 5) (vv 7) (fun _ _=>rfl)) (zad (vix x_bt (vv 3) (vglI (by rfl) T.g_PUT) (fun _ _=>rfl)) zaT))) (zad (vcl G_stepped D_stepped hr (by rfl) zbf (zad (vix zbv (vv 6) (vop zep (vv 7) zaF) (fun _ _=>rfl)) (zad (vix x_bt (vv 3) (vglI (by rfl) T.g_LEFT) (fun _ _=>rfl)) zaT))) (zad (vcl G_stepped D_stepped hr (by rfl) zbf (zad (vcl G_cell_ahead_of_turn D_cell_ahead_of_turn hr (by rfl) zbf (zad (vv 0) (zad (vv 1) (zad (vv 2) (zad (vv 7) zaT))))) (zad (vix x_bt (vv 3) (vglI (by rfl) T.g_TURNED) (fun _ _=>rfl)) zaT))) zaT))))) zaT))))))
   (ss1 (zdj (vct ze0 (by rfl) T.m_tuple zbp (zad (vv 6) zaT)))))))
theorem zdp(T:Txt K mg)(F:FunA K "_law_word" "_law_word" zaX f fd):FnOk P w K mg base CX0 2 f fd ["_law_cell","_law_few","_law_turn"] (spD K [.v,.v,.v] zbx):=by
 obtain⟨f__law_sign,fd__law_sign,D__law_sign⟩:=T.d__law_sign
 have G__law_sign:FnOk P w K mg base CX0 1 f__law_sign fd__law_sign ["_law_turn","_law_number"] (spD K [.v,.v] zbn):=zfw T (.of D__law_sign.fn)
 refine zbL F sc__law_word zcf rfl (fun _ _ h=>h) fun cdv A outer s H E hr=>?_
 have hu:=zb1 hr
 exact(ssc (zdI (i:=3) sc__law_word.nd rfl (Or.inl rfl) vstr)
   (ssc (zdI (i:=4) sc__law_word.nd rfl (Or.inl rfl) (vix zbv (zfB (zad (vop zcb (vv 0) zaF) (zad (vop zcb (vv 0) zaF) (zad (vop zcb (vv 0) zaF) zaT)))) (vop zcb (vop zeX (vv 0) zaF) zaF) (fun _ _=>rfl)))
   (ssc (zdI (i:=0) sc__law_word.nd rfl (Or.inl rfl) (vop zeX (vv 0) zaF))
   (ssc (zhg (iir1 (by rfl) T.m_range (zad (vv 4) zaT)) (gnm (i:=5) sc__law_word.nd rfl (Or.inl rfl))
   (ssc (zdI (i:=3) sc__law_word.nd rfl (Or.inl rfl) (vop o_addS (vv 3) (vcl G__law_sign D__law_sign hr (by rfl) zbf (zad (vv 2) (zad (vop zcb (vv 0) (vv 1)) zaT)))))
   (ss1 (zdI (i:=0) sc__law_word.nd rfl (Or.inl rfl) (vop zeX (vv 0) (vv 1))))))
   (ss1 (sRetV 3))))))
theorem zfT(T:Txt K mg)(F:FunA K "cells_of" "cells_of" za6 f fd):FnOk P w K mg base CX0 3 f fd ["P","T","prices","free"] (spD K [.v,.v,.t,.v] zcd):=by
 obtain⟨f_first_column,fd_first_column,D_first_column⟩:=T.d_first_column
 have G_first_column:FnOk P w K mg base CX0 2 f_first_column fd_first_column ["pattern","prices"] (spD K [.v,.t] zbi):=zdY T (.of D_first_column.fn)
 obtain⟨f_further_column,fd_further_column,D_further_column⟩:=T.d_further_column
 have G_further_column:FnOk P w K mg base CX0 2 f_further_column fd_further_column ["columns","pattern","text","prices","free"] (spD K [.b,.v,.v,.t,.v] zbm):=zde T (.of D_further_column.fn)
 obtain⟨f_row_across,fd_row_across,D_row_across⟩:=T.d_row_across
 have G_row_across:FnOk P w K mg base CX0 1 f_row_across fd_row_across ["columns","classes"] (spD K [.b,.v] zbI):=zeQ T (.of D_row_across.fn)
 refine zbL F sc_cells_of zdg rfl (fun _ _ h=>h) fun cdv A outer s H E hr=>?_
 have hu:=zb1 hr
 exact(ssc (zdI (i:=4) sc_cells_of.nd rfl (Or.inr rfl) (zfB (zad (vcl G_first_column D_first_column hr (by rfl) zbf (zad (vv 0) (zad (vv 2) zaT))) zaT)))
   (ssc (zhg (iir2 (by rfl) T.m_range (zad zaF (zad (vop zcc (vcb zfe (by rfl) T.m_len zbc (zad (vv 1) zaT)) zaF) zaT))) (gnm (i:=5) sc_cells_of.nd rfl (Or.inl rfl))
   (ss1 (sApp 4 (vcl G_further_column D_further_column hr (by rfl) zbf (zad (vv 4) (zad (vv 0) (zad (vsl l_str (vv 1) von (vos (vv 5))) (zad (vv 2) (zad (vv 3) zaT)))))))))
   (ss1 (zdj (vct ze0 (by rfl) T.m_tuple zbp (zad (vlc (N:=["classes","columns"]) (fr:=[4]) ⟨rfl,rfl,rfl,by decide +kernel,rfl,rfl⟩ (iir1 (by rfl) T.m_range (zad (vop zcc (vcb zdq (by rfl) T.m_len zbc (zad (vv 0) zaT)) zaF) zaT)) (fun _ _ _ _=>by exact if0) (fun _ _ _ _=>by exact(vcl G_row_across D_row_across hr (by rfl) zbf (zad (vv 1) (zad (vv 0) zaT))))) zaT))))))
theorem zeD(T:Txt K mg)(F:FunA K "_law_words" "_law_words" zaN f fd):FnOk P w K mg base CX0 3 f fd ["_law_deck_here","_law_most"] (spM K za9):=by
 obtain⟨f__law_word,fd__law_word,D__law_word⟩:=T.d__law_word
 have G__law_word:FnOk P w K mg base CX0 2 f__law_word fd__law_word ["_law_cell","_law_few","_law_turn"] (spD K [.v,.v,.v] zbx):=zdp T (.of D__law_word.fn)
 refine zek (n:=1) F sc__law_words zbE rfl (fun _ _ _ h=>h) fun cdv A outer s H E hr=>?_
 have hu:=zb1 hr
 exact(ssc (sXSet (i:=2) sc__law_words.nd rfl (Or.inr rfl) (xpop 0))
   (ssc (zdI (i:=3) sc__law_words.nd rfl (Or.inr rfl) (vop zcc zaF (vop zcb (vv 2) zaF)))
   (ss1 (sXRet (xlc 0 1 (N:=["_law_k","_law_few","_law_deck_here","_law_turn"]) (fr:=[3,0,2]) ⟨rfl,rfl,rfl,by decide +kernel,rfl,rfl⟩ (iir1 (by rfl) T.m_range (zad (vop zcb (vop zeX (vv 2) zaF) (vop zcc (vv 1) zaF)) zaT)) (fun _ _ _ _=>by exact(xcl G__law_word D__law_word hr (by rfl) zbf (zcM (xpop 2) (zcM (zcP (vv 1)) (zcM (zcP (vop zcb (vop zeX (vv 3) zaF) zaF)) xnil))))))))))
theorem zdA(T:Txt K mg)(F:FunA K "price_between" "price_between" zau f fd):FnOk P w K mg base CX0 4 f fd ["P","T","prices"] (spD K [.v,.v,.t] za7):=by
 obtain⟨f_cells_of,fd_cells_of,D_cells_of⟩:=T.d_cells_of
 have G_cells_of:FnOk P w K mg base CX0 3 f_cells_of fd_cells_of ["P","T","prices","free"] (spD K [.v,.v,.t,.v] zcd):=zfT T D_cells_of.fn
 refine zbL F zdz zbW rfl (fun _ _ h=>h) fun cdv A outer s H E hr=>?_
 have hu:=zb1 hr
 exact(ss1 (zdj (vix zdf (vix zdf (vclD G_cells_of D_cells_of hr (by rfl) zbf (zad (vv 0) (zad (vv 1) (zad (vv 2) zaT)))) (vun ze8 zaF) (fun _ _=>rfl)) (vun ze8 zaF) (fun _ _=>rfl))))
theorem zcl(T:Txt K mg)(F:FunA K "slips_between" "slips_between" zat f fd):FnOk P w K mg base CX0 5 f fd ["word","other"] (spD K [.v,.v] zah):=by
 obtain⟨f_pattern_of,fd_pattern_of,D_pattern_of⟩:=T.d_pattern_of
 have G_pattern_of:FnOk P w K mg base CX0 1 f_pattern_of fd_pattern_of ["W"] (spD K [.v] zbF):=zeM T (.of D_pattern_of.fn)
 obtain⟨f_price_between,fd_price_between,D_price_between⟩:=T.d_price_between
 have G_price_between:FnOk P w K mg base CX0 4 f_price_between fd_price_between ["P","T","prices"] (spD K [.v,.v,.t] za7):=zdA T (.of D_price_between.fn)
 refine zbL F zdv zbV rfl (fun _ _ h=>h) fun cdv A outer s H E hr=>?_
 have hu:=zb1 hr
 exact(ss1 (zdj (vcl G_price_between D_price_between hr (by rfl) zbf (zad (vcl G_pattern_of D_pattern_of hr (by rfl) zbf (zad (vv 0) zaT)) (zad (vv 1) (zad (vglB (by rfl) T.u_PLAIN_PRICES) zaT))))))
theorem ok_hang(T:Txt K mg)(F:FunA K "hang" "hang" zcx f fd):FnOk P w K mg base CX0 6 f fd ["top","word"] (spM K zd7):=by
 obtain⟨C_Knot,DC_Knot⟩:=T.c_Knot
 obtain⟨f_Knot___init__,fd_Knot___init__,D_Knot___init__⟩:=T.d_Knot___init__
 have G_Knot___init__:FnOk P w K mg base CX0 1 f_Knot___init__ fd_Knot___init__ ["self","word"] (spM K zan):=zcn T D_Knot___init__.fn
 obtain⟨f_slips_between,fd_slips_between,D_slips_between⟩:=T.d_slips_between
 have G_slips_between:FnOk P w K mg base CX0 5 f_slips_between fd_slips_between ["word","other"] (spD K [.v,.v] zah):=zcl T (.of D_slips_between.fn)
 refine zek (n:=1) F sc_hang F_hang rfl (fun _ _ _ h=>h) fun cdv A outer s H E hr=>?_
 have hu:=zb1 hr
 exact(sHang (gi:=zan) DC_Knot.toF kinit (sset (i:=2) sc_hang.nd rfl (Or.inl rfl) (wv 0)) (sset (i:=3) sc_hang.nd rfl (Or.inl rfl) (wcl G_slips_between D_slips_between hr (by rfl) zbf (wac ⟨zdn (wv 2).h rfl⟩ (wac (wv 1) wnil)))) (swhile PassesOwn.never (tw (tand (tcmp op_gt (wv 3) wint (zbH _)) (tand1 (tcmp op_inI (wv 3) ⟨zdn (wv 2).h rfl⟩ (by with_unfolding_all rfl))))) (sc (sset (i:=2) sc_hang.nd rfl (Or.inl rfl) (wix ix_di ⟨zdn (wv 2).h rfl⟩ (wv 3) (fun _ _=>rfl))) (s1 (sset (i:=3) sc_hang.nd rfl (Or.inl rfl) (wcl G_slips_between D_slips_between hr (by rfl) zbf (wac ⟨zdn (wv 2).h rfl⟩ (wac (wv 1) wnil))))))) (sif (tcmp op_eq (wv 3) wint (zbH _)) (s1 (sret wbl)) s0) (fun tK h=>sasg h ⟨pg_sub (zdn (wv 2).h rfl) (wv 3).h set_di⟩) (sret wbl) (vmake DC_Knot D_Knot___init__ G_Knot___init__ hr (by rfl) zbf (zad (vv 1) zaT)))
theorem zfg(T:Txt K mg)(F:FunA K "near" "Book.near" zaW f fd):FnOk P w K mg base CX0 6 f fd ["self","W","most"] (spM K za8):=by
 obtain⟨C_Book,DC_Book⟩:=T.c_Book
 obtain⟨C_Knot,DC_Knot⟩:=T.c_Knot
 obtain⟨kC,hK⟩:=kC_ex K
 obtain⟨f_knots_in_reach,fd_knots_in_reach,D_knots_in_reach⟩:=T.d_knots_in_reach
 have G_knots_in_reach:FnOk P w K mg base CX0 1 f_knots_in_reach fd_knots_in_reach ["knot","price","most"] (spD K [.v,.v,.v] (zaL kC)):=zdd hK T (.of D_knots_in_reach.fn)
 obtain⟨f_slips_between,fd_slips_between,D_slips_between⟩:=T.d_slips_between
 have G_slips_between:FnOk P w K mg base CX0 5 f_slips_between fd_slips_between ["word","other"] (spD K [.v,.v] zah):=zcl T (.of D_slips_between.fn)
 refine fn_okR (n:=2) hK F sc_Book_near (zbw kC) rfl (fun o ds r h=>⟨(zee h).1,(zee h).2 kC⟩) fun cdv A outer s H E hr=>?_
 have hu:=zb1 hr
 exact(ssc (sIf (tcm (o_isN) (zhd (ns:=["top"]) 0 DC_Book (hK _ _ DC_Book.at_) (vv 0)) vnon (zbH _)) (ss1 (zdj (vtup zaT))) ss0)
   (ssc (zdI (i:=3) sc_Book_near.nd rfl (Or.inl rfl) (zfB zaT))
   (ssc (zdI (i:=4) sc_Book_near.nd rfl (Or.inl rfl) (zfB (zad (zhd (ns:=["top"]) 0 DC_Book (hK _ _ DC_Book.at_) (vv 0)) zaT)))
   (ssc (sWhl 1000 (tcm (o_gt) (vcb zdq (by rfl) T.m_len zbc (zad (vv 4) zaT)) zaF (zbH _))
   (ssc (sPop 4 (gnm (i:=5) sc_Book_near.nd rfl (Or.inl rfl)))
   (ssc (zdI (i:=6) sc_Book_near.nd rfl (Or.inl rfl) (vcl G_slips_between D_slips_between hr (by rfl) zbf (zad (zhd (ns:=["word","branches"]) 0 DC_Knot (hK _ _ DC_Knot.at_) (vv 5)) (zad (vv 1) zaT))))
   (ssc (sIf (tcm (o_le) (vv 6) (vv 2) (zbH _)) (ss1 (sApp 3 (vtup (zad (vv 6) (zad (zhd (ns:=["word","branches"]) 0 DC_Knot (hK _ _ DC_Knot.at_) (vv 5)) zaT))))) ss0)
   (ss1 (sExt 4 (vcl G_knots_in_reach D_knots_in_reach hr (by rfl) zbf (zad (vv 5) (zad (vv 6) (zad (vv 2) zaT))))))))))
   (ss1 (zdj (vct ze0 (by rfl) T.m_tuple zbp (zad (vcb c_srtP (by rfl) T.m_sorted zcT (zad (vv 3) zaT)) zaT))))))))
theorem zfA(T:Txt K mg)(F:FunA K "_law_told" "_law_told" zaZ f fd):FnOk P w K mg base CX0 7 f fd ["_law_book","_law_words_here","_law_one","_law_most"] (spM K zaQ):=by
 obtain⟨C_Book,DC_Book⟩:=T.c_Book
 obtain⟨f_Book_near,fd_Book_near,D_Book_near⟩:=T.d_Book_near
 have G_Book_near:FnOk P w K mg base CX0 6 f_Book_near fd_Book_near ["self","W","most"] (spM K za8):=zfg T D_Book_near.fn
 obtain⟨f__law_price,fd__law_price,D__law_price⟩:=T.d__law_price
 have G__law_price:FnOk P w K mg base CX0 1 f__law_price fd__law_price ["_law_one","_law_other"] (spD K [.v,.v] zb5):=zeI T (.of D__law_price.fn)
 refine zek (n:=3) F sc__law_told zbY rfl (fun _ _ _ h=>h) fun cdv A outer s H E hr=>?_
 have hu:=zb1 hr
 exact(ssc (zdI (i:=4) sc__law_told.nd rfl (Or.inl rfl) (zfB zaT))
   (ssc (zhg (iil (vSortSetL (vv 1) (by rfl) T.m_sorted zcT (by rfl) T.m_set boot_set)) (gnm (i:=5) sc__law_told.nd rfl (Or.inl rfl))
   (ssc (zdI (i:=6) sc__law_told.nd rfl (Or.inl rfl) (vcl G__law_price D__law_price hr (by rfl) zbf (zad (vv 2) (zad (vv 5) zaT))))
   (ss1 (sIf (tcm (o_le) (vv 6) (vv 3) (zbH _)) (ss1 (sApp 4 (vtup (zad (vv 6) (zad (vv 5) zaT))))) ss0))))
   (ssc (sXSet (i:=7) sc__law_told.nd rfl (Or.inl rfl) (xmeth (ns:=["top"]) 0 DC_Book D_Book_near G_Book_near hr zbf (zad (vv 2) (zad (vv 3) zaT))))
   (ssc (sIf (tww (tor' (tnt (tva (visi (vv 7) (by rfl) T.m_isinstance zbs (by rfl) T.m_tuple zbp))) (tor1' (tcm (o_neD hr) (vct c_listQ (by rfl) T.m_list zc4 (zad (vv 7) zaT)) (vcb c_srtP (by rfl) T.m_sorted zcT (zad (vv 4) zaT)) (zbH _))))) (ss1 (zdj vbl)) ss0)
   (ssc (zhg (iit (vv 7)) (gnm (i:=8) sc__law_told.nd rfl (Or.inl rfl))
   (ss1 (sIf (tww (tor' (tnt (tva (visi (vv 8) (by rfl) T.m_isinstance zbs (by rfl) T.m_tuple zbp))) (tor' (tnt (tva (visi (vix zdf (vv 8) zaF (fun _ _=>rfl)) (by rfl) T.m_isinstance zbs (by rfl) T.m_int zda))) (tor1' (tva (visi (vix zdf (vv 8) zaF (fun _ _=>rfl)) (by rfl) T.m_isinstance zbs (by rfl) T.m_bool boot_bool)))))) (ss1 (zdj vbl)) ss0)))
   (ss1 (zdj vbl)))))))
theorem zfQ(T:Txt K mg)(F:FunA K "put" "Book.put" za5 f fd):FnOk P w K mg base CX0 7 f fd ["self","W"] (spM K za2):=by
 obtain⟨C_Book,DC_Book⟩:=T.c_Book
 obtain⟨C_Knot,DC_Knot⟩:=T.c_Knot
 obtain⟨f_Knot___init__,fd_Knot___init__,D_Knot___init__⟩:=T.d_Knot___init__
 have G_Knot___init__:FnOk P w K mg base CX0 1 f_Knot___init__ fd_Knot___init__ ["self","word"] (spM K zan):=zcn T D_Knot___init__.fn
 obtain⟨f_hang,fd_hang,D_hang⟩:=T.d_hang
 have G_hang:FnOk P w K mg base CX0 6 f_hang fd_hang ["top","word"] (spM K zd7):=ok_hang T (.of D_hang.fn)
 refine zek (n:=1) F zfF zbq rfl (fun _ _ _ h=>h) fun cdv A outer s H E hr=>?_
 have hu:=zb1 hr
 exact(ssc (sIf (vFIs (ns:=["top"]) 0 0 DC_Book.toF) (ssc (sFSet (ns:=["top"]) 0 0 DC_Book.toF (vmake DC_Knot D_Knot___init__ G_Knot___init__ hr (by rfl) zbf (zad (vv 1) zaT)))
   (ss1 (zdj vbl))) ss0)
   (ss1 (sXRet (xcof (ns:=["top"]) 0 0 DC_Book.toF G_hang D_hang hr (by rfl) zbf (zad (vv 1) zaT)))))
theorem ok_law(T:Txt K mg)(F:FunA K "law" "law" zcO f fd):FnOk P w K mg base CX0 8 f fd ["_law_script"] (spD K [.b] g_law):=by
 obtain⟨C_Book,DC_Book⟩:=T.c_Book
 obtain⟨f_Book___init__,fd_Book___init__,D_Book___init__⟩:=T.d_Book___init__
 have G_Book___init__:FnOk P w K mg base CX0 1 f_Book___init__ fd_Book___init__ ["self"] (spM K zay):=zdt T D_Book___init__.fn
 obtain⟨f_Book_put,fd_Book_put,D_Book_put⟩:=T.d_Book_put
 have G_Book_put:FnOk P w K mg base CX0 7 f_Book_put fd_Book_put ["self","W"] (spM K za2):=zfQ T D_Book_put.fn
 obtain⟨f__law_deck,fd__law_deck,D__law_deck⟩:=T.d__law_deck
 have G__law_deck:FnOk P w K mg base CX0 1 f__law_deck fd__law_deck ["_law_cells","_law_many"] (spD K [.b,.v] zbz):=ze2 T (.of D__law_deck.fn)
 obtain⟨f__law_told,fd__law_told,D__law_told⟩:=T.d__law_told
 have G__law_told:FnOk P w K mg base CX0 7 f__law_told fd__law_told ["_law_book","_law_words_here","_law_one","_law_most"] (spM K zaQ):=zfA T (.of D__law_told.fn)
 obtain⟨f__law_word,fd__law_word,D__law_word⟩:=T.d__law_word
 have G__law_word:FnOk P w K mg base CX0 2 f__law_word fd__law_word ["_law_cell","_law_few","_law_turn"] (spD K [.v,.v,.v] zbx):=zdp T (.of D__law_word.fn)
 obtain⟨f__law_words,fd__law_words,D__law_words⟩:=T.d__law_words
 have G__law_words:FnOk P w K mg base CX0 3 f__law_words fd__law_words ["_law_deck_here","_law_most"] (spM K za9):=zeD T (.of D__law_words.fn)
 refine zbL F sc_law F_law rfl (fun _ _ h=>h) fun cdv A outer s H E hr=>?_
 have hu:=zb1 hr
 exact(ssc (sSetL' (i:=1) (by decide) sc_law.nd rfl (Or.inr rfl) (vcl G__law_deck D__law_deck hr (by rfl) zbf (zad (vsl l_list (vv 0) von (vos zaF)) (zad zaF zaT))))
   (ssc (sXSet (i:=2) sc_law.nd rfl (Or.inl rfl) (xco 1 G__law_words D__law_words hr (by rfl) zbf (zcM (zcP zaF) xnil)))
   (ssc (sXSet (i:=3) sc_law.nd rfl (Or.inr rfl) (xpop 1))
   (ssc (sXSet (i:=4) sc_law.nd rfl (Or.inl rfl) (xop o_cat (xlc 1 0 (N:=["_law_k","_law_deck_here","_law_turn"]) (fr:=[1,3]) ⟨rfl,rfl,rfl,by decide +kernel,rfl,rfl⟩ (iir1 (by rfl) T.m_range (zad zaF zaT)) (fun _ _ _ _=>by exact(xcl G__law_word D__law_word hr (by rfl) zbf (zcM (xpop 1) (zcM (zcP (vop zcc zaF (vop zcb (vv 2) zaF))) (zcM (zcP (vop zcb (vop zeX (vv 2) zaF) zaF)) xnil)))))) (zcP (vsl l_list (vv 2) von (vos zaF)))))
   (ssc (sSetO (i:=5) (by decide) sc_law.nd rfl (Or.inl rfl) (vmake0 DC_Book D_Book___init__ G_Book___init__ hr (by rfl) zbf))
   (ssc (sXIf (txn (txv (xco 5 G__law_told D__law_told hr (by rfl) zbf (zcM (zcP (zfB zaT)) (zcM (zcP (vix zbv (vv 4) zaF (fun _ _=>rfl))) (zcM (zcP zaF) xnil)))))) (ss1 (zdj vbl)) ss0)
   (ssc (zhg (iir1 (by rfl) T.m_range (zad (vcb zdq (by rfl) T.m_len zbc (zad (vv 2) zaT)) zaT)) (gnm (i:=6) sc_law.nd rfl (Or.inl rfl))
   (ssc (sX (xmeth (ns:=["top"]) 5 DC_Book D_Book_put G_Book_put hr zbf (zad (vix zbv (vv 2) (vv 6) (fun _ _=>rfl)) zaT)))
   (ss1 (sXIf (txn (txv (xco 5 G__law_told D__law_told hr (by rfl) zbf (zcM (zcP (vsl l_list (vv 2) von (vos (vop zcc (vv 6) zaF)))) (zcM (zcP (vix zbv (vv 4) (vop zcb (vv 6) (vcb zdq (by rfl) T.m_len zbc (zad (vv 4) zaT))) (fun _ _=>rfl))) (zcM (zcP (vix zbv (zfB (zad zaF (zad zaF (zad zaF (zad zaF (zad zaF (zad (vop zcb (vop zeX (vv 3) zaF) zaF) zaT))))))) (vop zcb (vv 6) zaF) (fun _ _=>rfl))) xnil)))))) (ss1 (zdj vbl)) ss0))))
   (ssc (zhg (iil (vv 4)) (gnm (i:=7) sc_law.nd rfl (Or.inl rfl))
   (ss1 (zhg (iil (zfB (zad zaF (zad zaF (zad zaF (zad (vop zcb (vop zeX (vv 3) zaF) zaF) zaT)))))) (gnm (i:=8) sc_law.nd rfl (Or.inl rfl))
   (ss1 (sXIf (txn (txv (xco 5 G__law_told D__law_told hr (by rfl) zbf (zcM (zcP (vv 2)) (zcM (zcP (vv 7)) (zcM (zcP (vv 8)) xnil)))))) (ss1 (zdj vbl)) ss0)))))
   (ss1 (zdj vbl))))))))))
end
end N52

namespace N52
open PySem L2 L3
open CE in
theorem zbR(c:Option Int)(q:Int):zaS [oD c,.int q]=some (.val (oD (stp c q))):=by
 cases c with
 | none=>simp (disch:=omega) only[zaS,zc9,stE,stN,oD,jqc,jqa,zcz,zbb,fIf,fOr,tOf,ex2,zab,List.replicate,jqk,eC,gIsN,isN,gEq,zhi,zb7,toN,fNx,zbX,jqe,bOf,jqf,jra,sqO,zf7,stp,jqd,ite_self]
 | some i=>
  by_cases h:q=0
  ·simp (disch:=omega) only[zaS,zc9,stE,stN,oD,h,jqc,jqa,zcz,zbb,fIf,fOr,tOf,ex2,zab,List.replicate,jqk,eC,gIsN,isN,gEq,zhi,zb7,toN,fNx,zbX,jqe,bOf,jqf,jqy,jqr,jrb,jra,sqO,zf7,stp]
  ·simp (disch:=omega) only[zaS,zc9,stE,stN,oD,jqc,jqa,zcz,zbb,fIf,fOr,tOf,ex2,zab,List.replicate,jqk,eC,gIsN,isN,gEq,zhi,zb7,toN,fNx,zbX,jqe,bOf,jqf,h,jqz,jqr,jrb,sqO,pI0,iOf,zf7,stp]
open CE in
theorem zfZ(δ:En)(cs:List (Option Int)):zc2 (fun d=>zcQ (cEn [] δ d)) (fun d=>zcU (cEn [] δ d)) (cs.map oD)=some ((cs.filterMap id).map D.int):=by
 induction cs with
 | nil=>rfl
 | cons c cs ih=>
  rw[List.map_cons,zc2,ih]
  cases c with
  | none=>rfl
  | some i=>rfl
open CE in
theorem lowest_q(cs:List (Option Int))(d:D)(hd:qOf (.val d)=some (cs.map oD))(h:cs.length<=1000000):zcD [d]=some (.val (oD (lw cs))):=by
 have hE:eLC [] (qV (zab 0)) zcQ zcU [some (.val d)]=some (.own ((cs.filterMap id).map D.int)):=
  zfm (by unfold qV;exact hd) (zfZ _ cs) (by rw[List.length_map];exact Nat.le_trans (List.length_filterMap_le _ _) h)
 simp (disch:=omega) only[zcD,zc9,stE,stN,jqc,jqa,zeC,zb7,ex2,List.replicate,jqk,eC,gMinD,asL,toN,hE,intsD_map]
 cases hm:minI (cs.filterMap id) with
 | none=>simp (disch:=omega) only[jqa,jqc,zf7,oD,lw,hm]
 | some m=>simp (disch:=omega) only[jqa,jqc,zf7,oD,lw,hm]
open CE in
theorem lowest_eq(cs:List (Option Int))(h:cs.length<=1000000):zcD [.lst (cs.map oD)]=some (.val (oD (lw cs))):=lowest_q cs _ rfl h
noncomputable def zfM(c:Nat->Nat->Option Int)(n a:Nat):D:=.tup ((List.range (n+1)).map fun j=>CE.oD (c a j))
noncomputable def _root_.CE.Pr.ds(p:CE.Pr):List D:=[.int p.put,.int p.left,.int p.exch,.int p.turn]
noncomputable def zby(c:Nat->Nat->Option Int)(m j:Nat):D:=.tup ((List.range (m+1)).map fun i=>CE.oD (c i j))
theorem zdr(f:Nat->D)(n:Nat){k:Int}(h0:0<=k)(h:k.toNat<=n):atI ((List.range (n+1)).map f) k=some (f k.toNat):=by
 refine zdU h0 ?_
 rw[List.getElem?_map,List.getElem?_range (by lia)]
 rfl
theorem zdJ(f:Nat->D)(n:Nat):atI ((List.range (n+1)).map f) (-1)=some (f n):=atI_m1 (by rw[List.range_succ,List.map_append];simp)
theorem atI_m2{α:Type}{xs:List α}{x:α}(h2:2<=xs.length)(h:xs[xs.length - 2]? = some x):atI xs (-2)=some x:=by
 unfold atI ixN
 rw[if_neg (by lia),if_pos (by lia)]
 show xs[(-2+(xs.length:Int)).toNat]? = _
 rw[show(-2+(xs.length:Int)).toNat=xs.length - 2 by lia]
 exact h
theorem rng_last2(f:Nat->D)(n:Nat):atI ((List.range (n+1+1)).map f) (-2)=some (f n):=by
 refine atI_m2 (by simp) ?_
 rw[List.length_map,List.length_range,show n+1+1 - 2=n by lia,List.getElem?_map,List.getElem?_range (by lia)]
 rfl
structure Win(c:Nat->Nat->Option Int)(fit:Nat->Nat->Bool)(P:List Str)(j:Nat)(cs:List D)(tx:List Nat):Prop where
 l:tx.length<=1000000
 c1:atI cs (-1)=some (zby c P.length j)
 s1:∃ t,atI tx (-1)=some t/\∀ i,i<P.length->inS (mkS [t]) (P.getD i (mkS []))=fit i j
 two:(tx.length<2/\j=0) \/ (2<=tx.length/\0<j/\atI cs (-2)=some (zby c P.length (j - 1))/\∃ t,atI tx (-2)=some t/\∀ i,i<P.length->inS (mkS [t]) (P.getD i (mkS []))=fit i (j - 1))
open CE in
theorem ahead_eq{c:Nat->Nat->Option Int}{fit:Nat->Nat->Bool}{P:List Str}{j:Nat}{cs:List D}{tx:List Nat}(W:Win c fit P j cs tx)(i:Nat)(hi:i<P.length) :
  zaC [.lst cs,.tup (P.map .str),.str (mkS tx),.int (1+(i:Int))]=some (.val (oD (tc fit c i j))):=by
 have hl:tx.length<=1000000:=W.l
 suffices hF:zaB [some (.bor cs),some (.val (.tup (P.map .str))),some (.val (.str (mkS tx))),some (.val (.int (1+(i:Int))))]=some (.rt (.val (oD (tc fit c i j))) [some (.bor cs),some (.val (.tup (P.map .str))),some (.val (.str (mkS tx))),some (.val (.int (1+(i:Int))))]) from
  (congrArg (fun o=>Option.bind o _) hF).trans rfl
 have t1:=orLt (X:=zab 3) (Y:=eCB zcL (zaa (zab 2) zaf)) (c:=2) (δ:=[some (.bor cs),some (.val (.tup (P.map .str))),some (.val (.str (mkS tx))),some (.val (.int (1+(i:Int))))]) rfl (lenZ rfl (zch tx) hl)
 by_cases h:0<i/\2<=tx.length
 ·rcases W.two with ⟨h2,_⟩ | ⟨_,hj,q2,t',e2,g2⟩
  ·lia
  ·obtain⟨t,e1,g1⟩:=W.s1
   have hi1:i - 1<P.length:=Nat.lt_of_le_of_lt (Nat.sub_le _ _) hi
   have ht:tc fit c i j=if (fit i (j - 1) && fit (i - 1) j)=true then c (i - 1) (j - 1) else none:=by unfold tc;rw[if_pos ⟨h.1,hj⟩]
   have k1:1+(i:Int) - 1=(i:Int):=by lia
   have k2:1+(i:Int) - 2=((i - 1:Nat):Int):=by lia
   have a3:=zdl D.str (mkS []) (xs:=P) (i:=(i:Int)) (Int.natCast_nonneg _) (by simpa using hi)
   have a4:=zdl D.str (mkS []) (xs:=P) (i:=((i - 1:Nat):Int)) (Int.natCast_nonneg _) (by simpa using hi1)
   have a6:atI ((List.range (P.length+1)).map fun k=>oD (c k (j - 1))) ((i - 1:Nat):Int)=some (oD (c (i - 1) (j - 1))):=by
    rw[zdr _ _ (Int.natCast_nonneg _) (by simp;lia)];rfl
   have f1:=g2 i hi
   have f2:=g1 (i - 1) hi1
   have s1:=subI (E:=zab 3) (F:=eC (.int 1)) (δ:=[some (.bor cs),some (.val (.tup (P.map .str))),some (.val (.str (mkS tx))),some (.val (.int (1+(i:Int))))]) rfl rfl
   have s2:=subI (E:=zab 3) (F:=eC (.int 2)) (δ:=[some (.bor cs),some (.val (.tup (P.map .str))),some (.val (.str (mkS tx))),some (.val (.int (1+(i:Int))))]) rfl rfl
   rw[k1] at s1
   rw[k2] at s2
   have n1:=niSS (ixSS (E:=zab 2) (F:=ex1 zfS (eC (.int 2))) rfl hl rfl e2) (ixTT (E:=zab 1) rfl s1 a3)
   have n2:=niSS (ixSS (E:=zab 2) (F:=ex1 zfS (eC (.int 1))) rfl hl rfl e1) (ixTT (E:=zab 1) rfl s2 a4)
   have t2:=orB n1 n2
   rw[Int.toNat_natCast,Int.toNat_natCast,f1,f2,<- Bool.not_and] at t2
   rw[decide_eq_false (by lia)] at t1
   refine(show zaB _=_ from zaU (fIfF t1)).trans ?_
   rw[ht]
   cases v:(fit i (j - 1) && fit (i - 1) j) with
   | false=>rw[v] at t2;exact fSeqR ((fIfT t2).trans (fRetI rfl))
   | true=>rw[v] at t2;exact(zaU (fIfF t2)).trans (fRetI (ixTT (ixLB rfl rfl q2) s2 a6))
 ·have ht:tc fit c i j=none:=by
   unfold tc
   rw[if_neg]
   intro q
   rcases W.two with ⟨h2,hj⟩ | ⟨h2,_⟩
   ·lia
   ·exact h ⟨q.1,h2⟩
  rw[decide_eq_true (by lia)] at t1
  rw[ht]
  exact show zaB _=_ from fSeqR ((fIfT t1).trans (fRetI rfl))
open CE in
theorem zfP(P:List Str)(p:Pr)(free:Bool)(fit:Nat->Nat->Bool)(k:Nat)(hk:k<P.length)(hP:P.length<=100000) :
  zbd [some (.val (.tup (P.map .str))),some (.bt p.ds),some (.own ((List.range (k+1)).map fun i=>oD (cel fit p free i 0))),some (.val (.int (1+(k:Int))))] =
  some (.nx [some (.val (.tup (P.map .str))),some (.bt p.ds),some (.own ((List.range (k+1+1)).map fun i=>oD (cel fit p free i 0))),some (.val (.int (1+(k:Int))))]):=by
 have hl:(((List.range (k+1)).map fun i=>oD (cel fit p free i 0))).length<1000000:=by simp;lia
 have hx:atI ((List.range (k+1)).map fun i=>oD (cel fit p free i 0)) (1+(k:Int) - 1)=some (oD (cel fit p free k 0)):=by
  rw[zdr _ _ (by lia) (by lia),show(1+(k:Int) - 1).toNat=k by lia]
 have h0:atI [D.int p.put,D.int p.left,D.int p.exch,D.int p.turn] 1=some (.int p.left):=rfl
 have e:(List.range (k+1+1)).map (fun i=>oD (cel fit p free i 0))=(List.range (k+1)).map (fun i=>oD (cel fit p free i 0)) ++ [oD (cel fit p free (k+1) 0)]:=by
  rw[List.range_succ (n:=k+1),List.map_append];rfl
 rw[e,ze4]
 simp (disch:=omega) only[zbd,zgV,Pr.ds,jqf,jqe,za4,zaa,ex2,zab,eC,zgD,pI0,iOf,jqa,jqc,zbQ,asL,hx,zg8,btOf,h0,zaf,zbU,zd5,asV,zbR,zbg,jqh,jqg,zae]
open CE in
theorem firstc_eq(P:List Str)(p:Pr)(free:Bool)(fit:Nat->Nat->Bool)(hP:P.length<=100000) :
  zbi [.tup (P.map .str),.tup p.ds]=some (.val (zby (cel fit p free) P.length 0)):=by
 obtain⟨δ',w1,kv,rfl⟩:=zbt (tg:=gNm 3) (f:=zbd) (fun k δ=>∃ kv,δ=[some (.val (.tup (P.map .str))),some (.bt p.ds),some (.own ((List.range (k+1)).map fun i=>oD (cel fit p free i 0))),kv])
  ((List.range P.length).map fun(k:Nat)=>D.int (1+(k:Int))) 0 _ (fun k d δ hd hδ=>by
   obtain⟨kv,rfl⟩:=hδ
   rw[Nat.zero_add]
   rw[List.getElem?_map] at hd
   have hk:k<P.length:=by
    cases q:(List.range P.length)[k]? with
    | none=>rw[q] at hd;cases hd
    | some z=>have:=(List.getElem?_eq_some_iff.mp q).1;simpa using this
   rw[List.getElem?_range hk] at hd
   cases hd
   exact⟨_,_,rfl,.inl (zfP P p free fit k hk hP),_,rfl⟩) ⟨none,rfl⟩
 have hb1:b62 1:=zbT (by decide)
 have hb2:b62 ((P.length:Int)+1):=zbT (by lia)
 have hn:((P.length:Int)+1 - 1).toNat=P.length:=by lia
 have hl:P.length<=100000:=hP
 simp only[List.length_map,List.length_range,Nat.zero_add] at w1
 simp only[List.range_succ (n:=0),List.range_zero,List.nil_append,List.map_cons,List.map_nil,zdV,oD_s,oD_n] at w1
 simp (disch:=omega) only[zbi,zc9,stE,stN,jqc,jqa,zb9,zbb,zcp,zce,zaa,eC,zaf,jqp,jqq,Nat.reduceLeDiff,zd2,asV,jra,List.replicate,toN,zbX,sqO,zeY,iR2,ex2,eCB,zab,pI0,iOf,jqi,jqj,jqh,jqg,jqe,zbN,zdx,List.length_map,zcG,jre,hn,zae,w1,zb7,jqf,zdX,asL,zf7,zby]
open CE in
theorem zfc(P:List Str)(p:Pr)(free:Bool)(fit:Nat->Nat->Bool)(cs:List D)(tx:List Nat)(j k:Nat)(W:Win (cel fit p free) fit P j cs tx)(f8:Option Ent)(hk:k<P.length)(hP:P.length<=100000) :
  za1 [some (.bor cs),some (.val (.tup (P.map .str))),some (.val (.str (mkS tx))),some (.bt p.ds),some (.val (.bl free)),some (.val (zby (cel fit p free) P.length j)),some (.own ((List.range (k+1)).map fun i=>oD (cel fit p free i (j+1)))),some (.val (.int (1+(k:Int)))),f8] =
  some (.nx [some (.bor cs),some (.val (.tup (P.map .str))),some (.val (.str (mkS tx))),some (.bt p.ds),some (.val (.bl free)),some (.val (zby (cel fit p free) P.length j)),some (.own ((List.range (k+1+1)).map fun i=>oD (cel fit p free i (j+1)))),some (.val (.int (1+(k:Int)))),some (.val (.bl (fit k j)))]):=by
 have hl:(((List.range (k+1)).map fun i=>oD (cel fit p free i (j+1)))).length<1000000:=by simp;lia
 have hx:atI ((List.range (k+1)).map fun i=>oD (cel fit p free i (j+1))) (1+(k:Int) - 1)=some (oD (cel fit p free k (j+1))):=by
  rw[zdr _ _ (by lia) (by lia),show(1+(k:Int) - 1).toNat=k by lia]
 obtain⟨t,a1,g1⟩:=W.s1
 have f1:=g1 k hk
 have k1:1+(k:Int) - 1=(k:Int):=by lia
 have a2:=zdl D.str (mkS []) (xs:=P) (i:=(k:Int)) (Int.natCast_nonneg _) (by simpa using hk)
 have a3:atI ((List.range (P.length+1)).map fun i=>oD (cel fit p free i j)) (k:Int)=some (oD (cel fit p free k j)):=by
  rw[zdr _ _ (Int.natCast_nonneg _) (by simp;lia)];rfl
 have a4:atI ((List.range (P.length+1)).map fun i=>oD (cel fit p free i j)) (1+(k:Int))=some (oD (cel fit p free (k+1) j)):=by
  rw[zdr _ _ (by lia) (by lia),show(1+(k:Int)).toNat=k+1 by lia]
 rw[k1] at hx
 have e:(List.range (k+1+1)).map (fun i=>oD (cel fit p free i (j+1)))=(List.range (k+1)).map (fun i=>oD (cel fit p free i (j+1))) ++ [oD (cel fit p free (k+1) (j+1))]:=by
  rw[List.range_succ (n:=k+1),List.map_append];rfl
 rw[e,zc5]
 generalize (List.range (k+1)).map (fun i=>oD (cel fit p free i (j+1)))=ds at *
 have sA:=subI (E:=zab 7) (F:=eC (.int 1)) (δ:=[some (.bor cs),some (.val (.tup (P.map .str))),some (.val (.str (mkS tx))),some (.bt p.ds),some (.val (.bl free)),some (.val (zby (cel fit p free) P.length j)),some (.own ds),some (.val (.int (1+(k:Int)))),f8]) rfl rfl
 have sB:=subI (E:=zab 7) (F:=eC (.int 1)) (δ:=[some (.bor cs),some (.val (.tup (P.map .str))),some (.val (.str (mkS tx))),some (.bt p.ds),some (.val (.bl free)),some (.val (zby (cel fit p free) P.length j)),some (.own ds),some (.val (.int (1+(k:Int)))),some (.val (.bl (fit k j)))]) rfl rfl
 rw[k1] at sA sB
 have v8:=inSS (ixSS (E:=zab 2) (F:=ex1 zfS (eC (.int 1))) rfl W.l rfl a1) (ixTT (E:=zab 1) rfl sA a2)
 rw[Int.toNat_natCast,f1] at v8
 have x1:=ixTT (E:=zab 5) rfl sB a3
 have x4:=ixTT (E:=zab 5) (F:=zab 7) (δ:=[some (.bor cs),some (.val (.tup (P.map .str))),some (.val (.str (mkS tx))),some (.bt p.ds),some (.val (.bl free)),some (.val (zby (cel fit p free) P.length j)),some (.own ds),some (.val (.int (1+(k:Int)))),some (.val (.bl (fit k j)))]) rfl rfl a4
 have xL:=ixLW (E:=zab 6) rfl sB hx
 have y1:=eIfI (A:=zab 8) rfl x1 ((zfz x1 (Y:=ex2 zg8 (zab 3) (eC (.int 2))) (b:=.int p.exch) rfl).trans (zbR _ _))
 have y2:=(zfz x4 (Y:=ex2 zg8 (zab 3) (eC (.int 0))) (b:=.int p.put) rfl).trans (zbR _ _)
 have y3:=(zfz xL (Y:=ex2 zg8 (zab 3) (eC (.int 1))) (b:=.int p.left) rfl).trans (zbR _ _)
 have z4:za4 [.b,.v,.v,.v] zaC (zaa (zab 0) (zaa (zab 1) (zaa (zab 2) (zaa (zab 7) zaf)))) [some (.bor cs),some (.val (.tup (P.map .str))),some (.val (.str (mkS tx))),some (.bt p.ds),some (.val (.bl free)),some (.val (zby (cel fit p free) P.length j)),some (.own ds),some (.val (.int (1+(k:Int)))),some (.val (.bl (fit k j)))]=some (.val (oD (tc fit (cel fit p free) k j))):=ahead_eq W k hk
 have y4:=(zfz z4 (Y:=ex2 zg8 (zab 3) (eC (.int 3))) (b:=.int p.turn) rfl).trans (zbR _ _)
 rw[show(if fit k j=true then oD (cel fit p free k j) else oD (stp (cel fit p free k j) p.exch))=oD (if fit k j=true then cel fit p free k j else stp (cel fit p free k j) p.exch) by cases fit k j <;> rfl] at y1
 exact(show za1 _=_ from zga v8).trans (fAppI rfl ((low4 y1 y2 y3 y4).trans (lowest_eq [_,_,_,_] (show 4<=1000000 by decide))) hl)
open CE in
theorem zgO(P:List Str)(p:Pr)(free:Bool)(fit:Nat->Nat->Bool)(cs:List D)(tx:List Nat)(j:Nat)(W:Win (cel fit p free) fit P j cs tx)(hP:P.length<=100000) :
  zbm [.lst cs,.tup (P.map .str),.str (mkS tx),.tup p.ds,.bl free]=some (.val (zby (cel fit p free) P.length (j+1))):=by
 obtain⟨δ',w1,kv,fv,rfl⟩:=zbt (tg:=gNm 7) (f:=za1) (fun k δ=>∃ kv fv,δ=[some (.bor cs),some (.val (.tup (P.map .str))),some (.val (.str (mkS tx))),some (.bt p.ds),some (.val (.bl free)),some (.val (zby (cel fit p free) P.length j)),some (.own ((List.range (k+1)).map fun i=>oD (cel fit p free i (j+1)))),kv,fv])
  ((List.range P.length).map fun(k:Nat)=>D.int (1+(k:Int))) 0 _ (fun k d δ hd hδ=>by
   obtain⟨kv,fv,rfl⟩:=hδ
   rw[Nat.zero_add]
   rw[List.getElem?_map] at hd
   have hk:k<P.length:=by
    cases q:(List.range P.length)[k]? with
    | none=>rw[q] at hd;cases hd
    | some z=>have:=(List.getElem?_eq_some_iff.mp q).1;simpa using this
   rw[List.getElem?_range hk] at hd
   cases hd
   exact⟨_,_,rfl,.inl (zfc P p free fit cs tx j k W _ hk hP),_,_,rfl⟩) ⟨none,none,rfl⟩
 have hb1:b62 1:=zbT (by decide)
 have hb2:b62 ((P.length:Int)+1):=zbT (by lia)
 have hn:((P.length:Int)+1 - 1).toNat=P.length:=by lia
 have hl:P.length<=100000:=hP
 have c1:=W.c1
 have a2:atI ((List.range (P.length+1)).map fun i=>oD (cel fit p free i j)) 0=some (oD (cel fit p free 0 j)):=by
  rw[zdr _ _ (by lia) (by simp)];rfl
 simp only[List.length_map,List.length_range,Nat.zero_add] at w1
 simp only[List.range_succ (n:=0),List.range_zero,List.nil_append,List.map_cons,List.map_nil,zei] at w1
 suffices hF:∃ δ,zbl [some (.bor cs),some (.val (.tup (P.map .str))),some (.val (.str (mkS tx))),some (.bt p.ds),some (.val (.bl free)),none,none,none,none]=some (.rt (.val (zby (cel fit p free) P.length (j+1))) δ) from
  hF.elim fun _ h=>(congrArg (fun o=>Option.bind o _) h).trans rfl
 have x0:=ixLB (E:=zab 0) (F:=ex1 zfS (eC (.int 1))) (δ:=[some (.bor cs),some (.val (.tup (P.map .str))),some (.val (.str (mkS tx))),some (.bt p.ds),some (.val (.bl free)),none,none,none,none]) rfl rfl c1
 have y0:=eIfI (A:=zab 4) (B:=eC (.int 0)) (δ:=[some (.bor cs),some (.val (.tup (P.map .str))),some (.val (.str (mkS tx))),some (.bt p.ds),some (.val (.bl free)),some (.val (zby (cel fit p free) P.length j)),none,none,none]) rfl rfl ((zfz (ixTT (E:=zab 5) (F:=eC (.int 0)) rfl rfl a2) (Y:=ex2 zg8 (zab 3) (eC (.int 0))) (b:=.int p.put) rfl).trans (zbR _ _))
 have h0:oD (if free=true then some 0 else stp (cel fit p free 0 j) p.put)=(if free=true then D.int 0 else oD (stp (cel fit p free 0 j) p.put)):=by cases free <;> rfl
 rw[h0] at w1
 have z0:=eLst1 y0
 generalize (if free=true then D.int 0 else oD (stp (cel fit p free 0 j) p.put))=v0 at *
 have ir:iR2 (zaa (eC (.int 1)) (zaa (ex2 zbX (eCB zbN (zaa (zab 1) zaf)) (eC (.int 1))) zaf)) [some (.bor cs),some (.val (.tup (P.map .str))),some (.val (.str (mkS tx))),some (.bt p.ds),some (.val (.bl free)),some (.val (zby (cel fit p free) P.length j)),some (.own [v0]),none,none]=some ((List.range P.length).map fun(k:Nat)=>D.int (1+(k:Int))):=by
  simp only[iR2,zaa,eC,ex2,eCB,zab,jqf,jqe,zaf,jqc,jqa,zbN,zdx,List.length_map,zbX,pI0,iOf,hb2,jre,Int.reduceNeg,Int.reduceLT,and_self,zcG,hn,zae]
 exact⟨_,(show zbl _=_ from zga x0).trans ((zaU (zex z0)).trans ((forN ir w1).trans rfl))⟩
theorem getD_in{T:List Nat}{k:Nat}(h:k<T.length):T[k]? = some (T.getD k 0):=by
 rw[List.getElem?_eq_getElem h,List.getD_eq_getElem?_getD,List.getElem?_eq_getElem h]
 rfl
open CE in
theorem win_take(P:List Str)(T:List Nat)(c:Nat->Nat->Option Int)(k:Nat)(hk:k<T.length)(hT:T.length<=100000):Win c (zcJ P T) P k ((List.range (k+1)).map fun j=>zby c P.length j) (T.take (k+1)):=by
 have hl:(T.take (k+1)).length=k+1:=by rw[List.length_take];lia
 refine⟨by lia,zdJ _ _,⟨T.getD k 0,?_,fun i _=>rfl⟩,?_⟩
 ·refine atI_m1 ?_
  rw[List.getLast?_eq_getElem?,hl,List.getElem?_take_of_lt (by lia),show k+1 - 1=k by lia]
  exact getD_in hk
 ·by_cases h:k=0
  ·exact .inl ⟨by lia,h⟩
  ·obtain⟨n,rfl⟩:∃ n,k=n+1:=⟨k - 1,by lia⟩
   refine .inr ⟨by lia,by lia,rng_last2 _ n,T.getD n 0,?_,fun i _=>rfl⟩
   refine atI_m2 (by lia) ?_
   rw[hl,List.getElem?_take_of_lt (by lia),show n+1+1 - 2=n by lia]
   exact getD_in (by lia)
open CE in
theorem across_eq(c:Nat->Nat->Option Int)(m n i:Nat)(hi:i<=m)(hn:n<=100000):zbI [.lst ((List.range (n+1)).map fun j=>zby c m j),.int (i:Int)]=some (.val (zfM c n i)):=by
 have ec:eLC [1] (iB 0) zfr zb2 [some (.bor ((List.range (n+1)).map fun j=>zby c m j)),some (.val (.int (i:Int)))]=some (.own ((List.range (n+1)).map fun j=>oD (c i j))):=by
  refine zfm (ds:=(List.range (n+1)).map fun j=>zby c m j) rfl ?_ (by simp;lia)
  refine zfa _ _ (by simp) (fun d _=>rfl) fun k d hd=>?_
  rw[List.getElem?_map] at hd
  obtain⟨j,e1,e2⟩:=Option.map_eq_some_iff.mp hd
  subst e2
  have ha:atI ((List.range (m+1)).map fun i=>oD (c i j)) (i:Int)=some (oD (c i j)):=by
   rw[zdr _ _ (by lia) (by lia)];rfl
  refine⟨oD (c i j),?_,by rw[List.getElem?_map,e1];rfl⟩
  simp only[zb2,ex2,zab,cEn,zby,jqn,jqf,jqe,jqx,jqa,capt,jqo,zeW,zdx,iOf,ha,jqc,asV]
 have hl:n<=100000:=hn
 simp (disch:=omega) only[zbI,zc9,stE,stN,jqc,jqa,zcv,zb7,eCB,zaa,List.replicate,jqk,zaf,toN,ec,zdX,asL,zf7,zfM]
open CE in
theorem cells_eq(P:List Str)(T:List Nat)(p:Pr)(free:Bool)(hP:P.length<=100000)(hT:T.length<=100000) :
  zcd [.tup (P.map .str),.str (mkS T),.tup p.ds,.bl free]=some (.val (.tup ((List.range (P.length+1)).map fun i=>zfM (cel (zcJ P T) p free) T.length i))):=by
 obtain⟨δ',w1,kv,rfl⟩:=zbt (tg:=gNm 5) (f:=zcg) (fun k δ=>∃ kv,δ=[some (.val (.tup (P.map .str))),some (.val (.str (mkS T))),some (.bt p.ds),some (.val (.bl free)),some (.own ((List.range (k+1)).map fun j=>zby (cel (zcJ P T) p free) P.length j)),kv])
  ((List.range T.length).map fun(k:Nat)=>D.int (1+(k:Int))) 0 _ (fun k d δ hd hδ=>by
   obtain⟨kv,rfl⟩:=hδ
   rw[Nat.zero_add]
   rw[List.getElem?_map] at hd
   have hk:k<T.length:=by
    cases q:(List.range T.length)[k]? with
    | none=>rw[q] at hd;cases hd
    | some z=>have:=(List.getElem?_eq_some_iff.mp q).1;simpa using this
   rw[List.getElem?_range hk] at hd
   cases hd
   have fe:=zgO P p free (zcJ P T) ((List.range (k+1)).map fun j=>zby (cel (zcJ P T) p free) P.length j) (T.take (k+1)) k (win_take P T _ k hk hT) hP
   have hl:((List.range (k+1)).map fun j=>zby (cel (zcJ P T) p free) P.length j).length<1000000:=by simp;lia
   have e:(List.range (k+1+1)).map (fun j=>zby (cel (zcJ P T) p free) P.length j)=(List.range (k+1)).map (fun j=>zby (cel (zcJ P T) p free) P.length j) ++ [zby (cel (zcJ P T) p free) P.length (k+1)]:=by
    rw[List.range_succ (n:=k+1),List.map_append];rfl
   have hc:zgB T none (some (1+(k:Int)))=T.take (k+1):=by rw[zdH _ (by lia),show(1+(k:Int)).toNat=k+1 by lia]
   have hm:T.length<=1000000:=by lia
   refine⟨_,_,rfl,.inl ?_,some (.val (.int (1+(k:Int)))),rfl⟩
   rw[e]
   simp (disch:=omega) only[zcg,zgV,jqh,jqg,jqf,jqe,za4,zaa,zab,eSl,oNo,oSo,jqa,iOf,jqc,gSlS,sOf,zch,zbg,zdP,hc,zae,zaf,zbU,zd5,asL,asV,asT,fe]) ⟨none,rfl⟩
 have hb1:b62 1:=zbT (by decide)
 have hb2:b62 ((T.length:Int)+1):=zbT (by lia)
 have hb3:b62 ((P.length:Int)+1):=zbT (by lia)
 have hn:((T.length:Int)+1 - 1).toNat=T.length:=by lia
 have hn3:((P.length:Int)+1).toNat=P.length+1:=by lia
 have f1:=firstc_eq P p free (zcJ P T) hP
 have hm:T.length<=1000000:=by lia
 have hm2:P.length<=100000:=hP
 simp only[List.length_map,List.length_range,Nat.zero_add] at w1
 simp only[List.range_succ (n:=0),List.range_zero,List.nil_append,List.map_cons,List.map_nil] at w1
 have ec:eLC [4] (iR1 (zaa (ex2 zbX (eCB zbN (zaa (zab 0) zaf)) (eC (.int 1))) zaf)) zfr zcj [some (.val (.tup (P.map .str))),some (.val (.str (mkS T))),some (.bt p.ds),some (.val (.bl free)),some (.own ((List.range (T.length+1)).map fun j=>zby (cel (zcJ P T) p free) P.length j)),kv] =
   some (.own ((List.range (P.length+1)).map fun i=>zfM (cel (zcJ P T) p free) T.length i)):=by
  refine zfm (ds:=(List.range (P.length+1)).map fun(i:Nat)=>D.int (0+(i:Int))) ?_ ?_ (by simp;lia)
  ·simp (disch:=omega) only[iR1,zaa,ex2,eCB,zab,jqe,zaf,jqc,jqa,zbN,zdx,List.length_map,eC,zbX,pI0,iOf,zcG,hn3,zae]
  ·refine zfa _ _ (by simp) (fun d _=>rfl) fun k d hd=>?_
   rw[List.getElem?_map] at hd
   obtain⟨i,e1,e2⟩:=Option.map_eq_some_iff.mp hd
   subst e2
   have hi:i<=P.length:=by
    have:=List.mem_range.mp (List.mem_of_getElem? e1)
    lia
   have ac:=across_eq (cel (zcJ P T) p free) P.length T.length i hi hT
   refine⟨zfM (cel (zcJ P T) p free) T.length i,?_,by rw[List.getElem?_map,e1];rfl⟩
   rw[show(0+(i:Int))=(i:Int) by lia]
   simp only[zcj,za4,zaa,zab,cEn,jqn,jqf,jqe,jqx,jqa,capt,jqo,zaf,jqc,zbU,zd5,asL,asV,ac]
 simp only[zbX] at ec
 simp (disch:=omega) only[zcd,zc9,stE,stN,jqc,jqa,zdg,zbb,zcp,zce,zaa,za4,zab,List.replicate,zaf,toN,zbX,jqi,jqj,jqe,jqf,zbU,zd5,asV,asT,f1,jqp,jqq,Nat.reduceLeDiff,zd2,jra,jqh,jqg,sqO,zeY,iR2,eC,ex2,eCB,zcL,sOf,zch,zbg,zae,pI0,iOf,zcG,jre,hn,w1,zb7]
 simp (disch:=omega) only[ec,jqa,zdX,asL,jqc,zf7]
open CE in
theorem price_eq(P:List Str)(T:List Nat)(p:Pr)(hP:P.length<=100000)(hT:T.length<=100000) :
  za7 [.tup (P.map .str),.str (mkS T),.tup p.ds]=some (.val (oD (cel (zcJ P T) p false P.length T.length))):=by
 have c:=cells_eq P T p false hP hT
 have l1:=zdJ (fun i=>zfM (cel (zcJ P T) p false) T.length i) P.length
 have l2:=zdJ (fun j=>oD (cel (zcJ P T) p false P.length j)) T.length
 simp (disch:=omega) only[za7,zc9,stE,stN,jqc,jqa,zbW,zb7,ex2,eCallD,zaa,zab,List.replicate,jqk,zaf,ex1,eC,zfS,iOf,Int.reduceNeg,zeW,zdx,toN,jqe,jqf,jqi,jqj,zbU,zd5,asV,asT,c,l1]
 simp (disch:=omega) only[zfM,Int.reduceNeg,jqa,l2,jqc,zf7]
open CE in
theorem zes(w:List Nat)(h:w.length<=1000000):zbF [.str (mkS w)]=some (.val (.tup ((wP w).map .str))):=by
 have hl:(mkS w).length<=1000000:=by rw[zch];exact h
 simp (disch:=omega) only[zbF,zc9,stE,stN,jqc,jqa,zcs,zb7,eCB,zaa,zab,List.replicate,jqk,zaf,toN,jqe,gTupS,sOf,zbg,sgn_mkS,zae,zf7,wP]
noncomputable def pp:CE.Pr:=⟨1,1,1,0⟩
theorem pp_ok:pp.Ok:=⟨by decide,by decide,by decide,by decide⟩
open CE in
theorem cel_all(fit:Nat->Nat->Bool):∀ (n i j:Nat),i+j<=n->∃ m,cel fit pp false i j=some m:=by
 intro n
 induction n with
 | zero=>
  intro i j h
  obtain⟨rfl,rfl⟩:i=0/\j=0:=by lia
  exact⟨0,zdV ..⟩
 | succ n ih=>
  intro i j h
  match i,j with
  | 0,0=>exact⟨0,zdV ..⟩
  | 0,j+1=>
   obtain⟨m,hm⟩:=ih 0 j (by lia)
   exact⟨m+1,by rw[zei,hm];rfl⟩
  | i+1,0=>
   obtain⟨m,hm⟩:=ih i 0 (by lia)
   exact⟨m+1,by rw[ze4,hm];rfl⟩
  | i+1,j+1=>
   obtain⟨m,hm⟩:=ih (i+1) j (by lia)
   rw[zc5]
   obtain⟨m',h1,_⟩:=zfD (cs:=[if fit i j=true then cel fit pp false i j else stp (cel fit pp false i j) pp.exch,stp (cel fit pp false (i+1) j) pp.put,stp (cel fit pp false i (j+1)) pp.left,stp (tc fit (cel fit pp false) i j) pp.turn]) (c:=m+1) (by rw[hm];exact List.mem_cons_of_mem _ List.mem_cons_self)
   exact⟨m',h1⟩
noncomputable def ed(w t:List Nat):Int:=(_root_.CE.wd pp w t).getD 0
open CE in
noncomputable def ev(w t:List Nat)(i j:Nat):Int:=(cel (zcJ (wP w) t) pp false i j).getD 0
open CE in
theorem zc1(w t:List Nat)(i j:Nat):cel (zcJ (wP w) t) pp false i j=some (ev w t i j):=by
 obtain⟨m,h⟩:=cel_all (zcJ (wP w) t) (i+j) i j (Nat.le_refl _)
 unfold ev
 rw[h]
 rfl
open CE in
theorem zeG(w t:List Nat):wd pp w t=some (ed w t):=by
 have:=zc1 w t w.length t.length
 unfold ed wd at *
 rw[this]
 rfl
theorem ed_self(w:List Nat):ed w w=0:=Option.some.inj ((zeG w w).symm.trans (CE.wd_self pp_ok w))
theorem ed_swap(w t:List Nat):ed t w=ed w t:=Option.some.inj ((zeG t w).symm.trans ((CE.wd_swap pp_ok rfl w t).trans (zeG w t)))
theorem ed_zero{w t:List Nat}(h:ed w t=0):w=t:=CE.wd_zero pp_ok (by rw[zeG,h])
theorem ed_nonneg(w t:List Nat):0<=ed w t:=CE.wd_nonneg pp_ok (zeG w t)
theorem ed_tri(u v w:List Nat):ed u w<=ed u v+ed v w:=by
 obtain⟨c,h1,h2⟩:=CE.wd_tri pp_ok rfl (zeG u v) (zeG v w)
 rw[zeG] at h1
 cases h1
 exact h2
open CE in
theorem zf2(w t:List Nat)(hw:w.length<=1000)(ht:t.length<=1000):zah [.str (mkS w),.str (mkS t)]=some (.val (.int (ed w t))):=by
 have h1:=zes w (by lia)
 have h2:=price_eq (wP w) t pp (by rw[wP_len];lia) (by lia)
 rw[wP_len,show cel (zcJ (wP w) t) pp false w.length t.length=some (ed w t) from zeG w t,oD_s] at h2
 have h3:pp.ds=[D.int 1,D.int 1,D.int 1,D.int 0]:=rfl
 rw[h3] at h2
 simp only[zah,zc9,stE,stN,jqc,jqa,zbV,zb7,za4,zaa,zab,List.replicate,jqk,zaf,eB,jqn,jqo,toN,jqe,zbU,zd5,asV,h1,jqf,asT,h2,zf7]
open CE in
theorem ev_00(w t:List Nat):ev w t 0 0=0:=by unfold ev;rw[zdV];rfl
open CE in
theorem ev_0s(w t:List Nat)(j:Nat):ev w t 0 (j+1)=ev w t 0 j+1:=by
 have h:=zc1 w t 0 (j+1)
 rw[zei,zc1] at h
 exact(Option.some.inj h).symm
open CE in
theorem ev_s0(w t:List Nat)(i:Nat):ev w t (i+1) 0=ev w t i 0+1:=by
 have h:=zc1 w t (i+1) 0
 rw[ze4,zc1] at h
 exact(Option.some.inj h).symm
theorem ev_0(w t:List Nat)(j:Nat):ev w t 0 j=j:=by
 induction j with
 | zero=>exact ev_00 w t
 | succ j ih=>rw[ev_0s,ih];lia
theorem ev_i0(w t:List Nat)(i:Nat):ev w t i 0=i:=by
 induction i with
 | zero=>exact ev_00 w t
 | succ i ih=>rw[ev_s0,ih];lia
open CE in
theorem ev_ss(w t:List Nat)(i j:Nat)(hi:i<w.length)(hj:j<t.length):ev w t (i+1) (j+1)=min (min (ev w t i j+(if w[i]=t[j] then 0 else 1)) (ev w t i (j+1)+1)) (ev w t (i+1) j+1):=by
 have h:=zc1 w t (i+1) (j+1)
 rw[zc5,zfp hi hj,zc1,zc1,zc1] at h
 have e1:∀ c:Int,stp (some c) pp.exch=some (c+1):=fun c=>rfl
 have e2:∀ c:Int,stp (some c) pp.put=some (c+1):=fun c=>rfl
 have e3:∀ c:Int,stp (some c) pp.left=some (c+1):=fun c=>rfl
 have e4:stp (tc (zcJ (wP w) t) (cel (zcJ (wP w) t) pp false) i j) pp.turn=none:=rfl
 rw[e1,e2,e3,e4] at h
 generalize ev w t (i+1) (j+1)=z at *
 generalize ev w t (i+1) j=a at *
 generalize ev w t i (j+1)=b at *
 generalize ev w t i j=c at *
 have h1:=lw_mem h
 have h2:∀ x,some x ∈ [if decide (t[j]=w[i])=true then some c else some (c+1),some (a+1),some (b+1),none]->z<=x:=fun x hx=>by
  obtain⟨m,q1,q2⟩:=zfD hx
  rw[h] at q1
  cases q1
  exact q2
 by_cases e:w[i]=t[j]
 ·rw[decide_eq_true e.symm,if_pos rfl] at h1 h2
  rw[if_pos e]
  have:=h2 c (by simp)
  have:=h2 (a+1) (by simp)
  have:=h2 (b+1) (by simp)
  simp only[List.mem_cons,Option.some.injEq,reduceCtorEq,List.not_mem_nil,or_false] at h1
  lia
 ·rw[decide_eq_false fun z=>e z.symm,if_neg Bool.false_ne_true] at h1 h2
  rw[if_neg e]
  have:=h2 (c+1) (by simp)
  have:=h2 (a+1) (by simp)
  have:=h2 (b+1) (by simp)
  simp only[List.mem_cons,Option.some.injEq,reduceCtorEq,List.not_mem_nil,or_false] at h1
  lia
theorem mkS1{a b:Nat}:mkS [a]=mkS [b] ↔ a=b:=⟨fun h=>by have:=mkS_inj h;simpa using this,fun h=>by rw[h]⟩
noncomputable def rwE(a b:List Nat)(i n:Nat):List D:=(List.range (n+1)).map fun j=>.int (ev a b i j)
theorem rwE_len(a b:List Nat)(i n:Nat):(rwE a b i n).length=n+1:=by unfold rwE;simp
theorem rwE_at(a b:List Nat)(i n:Nat){k:Int}(h0:0<=k)(h:k.toNat<=n):atI (rwE a b i n) k=some (.int (ev a b i k.toNat)):=zdr (fun j=>.int (ev a b i j)) n h0 h
theorem rwE_s(a b:List Nat)(i n:Nat):rwE a b i (n+1)=rwE a b i n ++ [.int (ev a b i (n+1))]:=by unfold rwE;rw[List.range_succ,List.map_append];rfl
noncomputable def zcr(f:Bool)(ds:List D):Ent:=if f=true then .own ds else .val (.lst ds)
theorem ix2{f:Bool}{ds:List D}{F:FE}{c0 c1 c3 c4 c5 c6:Option Ent}{k:Int}{v:D}(h2:F [c0,c1,some (zcr f ds),c3,c4,c5,c6]=some (.val (.int k)))(h:atI ds k=some v):ex2 zbQ (zab 2) F [c0,c1,some (zcr f ds),c3,c4,c5,c6]=some (.val v):=by
 cases f
 ·unfold ex2;rw[h2];simp only[zab,zcr,jqr,jrb,jqf,jqe,zbQ,asL,iOf,jqa,h,jqc]
 ·unfold ex2;rw[h2];simp only[zab,zcr,jra,jqf,jqe,zbQ,asL,iOf,jqa,h,jqc]
theorem min3{X Y Z:FE}{δ:En}{a b c:Int}(h1:X δ=some (.val (.int a)))(h2:Y δ=some (.val (.int b)))(h3:Z δ=some (.val (.int c))):eCB gMin3 (zaa X (zaa Y (zaa Z zaf))) δ=some (.val (.int (min (min a b) c))):=by
 unfold eCB zaa zaf;rw[h1];simp only[Option.bind_some];rw[h2];simp only[Option.bind_some];rw[h3];rfl
theorem neI{X Y:FE}{δ:En}{a b:Nat}(h1:X δ=some (.val (.str (mkS [a]))))(h2:Y δ=some (.val (.str (mkS [b])))):eCB zco (zaa (ex2 gNe X Y) zaf) δ=some (.val (.int (if a=b then 0 else 1))):=by
 by_cases e:a=b
 ·have e':mkS [a]=mkS [b]:=mkS1.mpr e
  simp only[eCB,zaa,ex2,h1,e,h2,gNe,zhi,jqa,jqy,jqc,jqt,zaf,zco,jqr,jrb,jra]
 ·have e':¬ mkS [a]=mkS [b]:=fun z=>e (mkS1.mp z)
  simp only[eCB,zaa,ex2,h1,h2,gNe,zhi,jqa,e',jqz,jqc,jqu,zaf,zco,jra,e,jrb]
theorem lp_turn(a b:List Nat)(i j:Nat)(f:Bool)(hi:i<a.length)(hj:j<b.length)(ha:a.length<=1000)(hb:b.length<=1000)(x6:Option Ent):∃ y6:Option Ent,
  zba [some (.val (.str (mkS a))),some (.val (.str (mkS b))),some (zcr f (rwE a b i b.length)),some (.val (.int (0+(i:Int)))),some (.own (rwE a b (i+1) j)),some (.val (.int (0+(j:Int)))),x6] =
  some (.nx [some (.val (.str (mkS a))),some (.val (.str (mkS b))),some (zcr f (rwE a b i b.length)),some (.val (.int (0+(i:Int)))),some (.own (rwE a b (i+1) (j+1))),some (.val (.int (0+(j:Int)))),y6]):=by
 have k1:(0+(j:Int)).toNat=j:=by lia
 have k2:(0+(j:Int)+1).toNat=j+1:=by lia
 have r1:=rwE_at a b i b.length (k:=0+(j:Int)) (by lia) (by lia)
 have r2:=rwE_at a b i b.length (k:=0+(j:Int)+1) (by lia) (by lia)
 have r3:=rwE_at a b (i+1) j (k:=0+(j:Int)) (by lia) (by lia)
 rw[k1] at r1 r3
 rw[k2] at r2
 have sa:atI a (0+(i:Int))=some a[i]:=zdU (by lia) (by rw[show(0+(i:Int)).toNat=i by lia,List.getElem?_eq_getElem hi])
 have sb:atI b (0+(j:Int))=some b[j]:=zdU (by lia) (by rw[k1,List.getElem?_eq_getElem hj])
 refine⟨some (.val (.int (ev a b i j+(if a[i]=b[j] then 0 else 1)))),?_⟩
 have v6:ex2 zbX (ex2 zbQ (zab 2) (zab 5)) (eCB zco (zaa (ex2 gNe (ex2 zhh (zab 0) (zab 3)) (ex2 zhh (zab 1) (zab 5))) zaf)) [some (.val (.str (mkS a))),some (.val (.str (mkS b))),some (zcr f (rwE a b i b.length)),some (.val (.int (0+(i:Int)))),some (.own (rwE a b (i+1) j)),some (.val (.int (0+(j:Int)))),x6]=some (.val (.int (ev a b i j+(if a[i]=b[j] then 0 else 1)))):=
  addI (ix2 rfl r1) (neI (ixSS (E:=zab 0) (F:=zab 3) rfl (by lia) rfl sa) (ixSS (E:=zab 1) (F:=zab 5) rfl (by lia) rfl sb))
 refine(show zba _=_ from zaU (zdT v6)).trans ?_
 rw[rwE_s,ev_ss a b i j hi hj]
 have hl:(rwE a b (i+1) j).length<1000000:=by rw[rwE_len];lia
 generalize rwE a b (i+1) j=below at *
 exact fAppI rfl (min3 (X:=zab 6) rfl (addI (ix2 (addI (E:=zab 5) (F:=eC (.int 1)) rfl rfl) r2) rfl) (addI (ixLW (E:=zab 4) (F:=zab 5) rfl rfl r3) rfl)) hl
theorem lp_loop(a b:List Nat)(i:Nat)(f:Bool)(hi:i<a.length)(ha:a.length<=1000)(hb:b.length<=1000)(x5 x6:Option Ent):∃ y5 y6:Option Ent,
  loop (gNm 5) zba ((List.range b.length).map fun(k:Nat)=>D.int (0+(k:Int))) [some (.val (.str (mkS a))),some (.val (.str (mkS b))),some (zcr f (rwE a b i b.length)),some (.val (.int (0+(i:Int)))),some (.own (rwE a b (i+1) 0)),x5,x6] =
  some (.nx [some (.val (.str (mkS a))),some (.val (.str (mkS b))),some (zcr f (rwE a b i b.length)),some (.val (.int (0+(i:Int)))),some (.own (rwE a b (i+1) b.length)),y5,y6]):=by
 obtain⟨δ',w1,y5,y6,rfl⟩:=zbt (tg:=gNm 5) (f:=zba) (fun k δ=>∃ (y5 y6:Option Ent),δ=[some (.val (.str (mkS a))),some (.val (.str (mkS b))),some (zcr f (rwE a b i b.length)),some (.val (.int (0+(i:Int)))),some (.own (rwE a b (i+1) k)),y5,y6])
  ((List.range b.length).map fun(k:Nat)=>D.int (0+(k:Int))) 0 [some (.val (.str (mkS a))),some (.val (.str (mkS b))),some (zcr f (rwE a b i b.length)),some (.val (.int (0+(i:Int)))),some (.own (rwE a b (i+1) 0)),x5,x6] (fun k d δ hd hδ=>by
   obtain⟨y5,y6,rfl⟩:=hδ
   rw[Nat.zero_add]
   have hk:k<b.length:=by have:=(List.getElem?_eq_some_iff.mp hd).1;simpa using this
   rw[List.getElem?_map,List.getElem?_range hk] at hd
   cases hd
   obtain⟨z6,e⟩:=lp_turn a b i k f hi hk ha hb y6
   exact⟨_,_,rfl,.inl e,_,z6,rfl⟩) ⟨x5,x6,rfl⟩
 rw[List.length_map,List.length_range,Nat.zero_add] at w1
 exact⟨y5,y6,w1⟩
theorem lp_row(a b:List Nat)(i:Nat)(f:Bool)(hi:i<a.length)(ha:a.length<=1000)(hb:b.length<=1000)(x4 x5 x6:Option Ent):∃ y4 y5 y6:Option Ent,
  zbu [some (.val (.str (mkS a))),some (.val (.str (mkS b))),some (zcr f (rwE a b i b.length)),some (.val (.int (0+(i:Int)))),x4,x5,x6] =
  some (.nx [some (.val (.str (mkS a))),some (.val (.str (mkS b))),some (zcr false (rwE a b (i+1) b.length)),some (.val (.int (0+(i:Int)))),y4,y5,y6]):=by
 obtain⟨y5,y6,hl⟩:=lp_loop a b i f hi ha hb x5 x6
 have e0:rwE a b (i+1) 0=[.int (0+(i:Int)+1)]:=by
  unfold rwE
  rw[List.range_succ,List.range_zero,List.nil_append,List.map_cons,List.map_nil,ev_i0]
  congr 2
  lia
 rw[e0] at hl
 refine⟨some (.val (.lst (rwE a b (i+1) b.length))),y5,y6,?_⟩
 have h1:zce (zaa (ex2 zbX (zab 3) (eC (.int 1))) zaf) [some (.val (.str (mkS a))),some (.val (.str (mkS b))),some (zcr f (rwE a b i b.length)),some (.val (.int (0+(i:Int)))),x4,x5,x6]=some (.own [.int (0+(i:Int)+1)]):=eLst1 (addI rfl rfl)
 have h2:iR1 (zaa (eCB zcL (zaa (zab 1) zaf)) zaf) [some (.val (.str (mkS a))),some (.val (.str (mkS b))),some (zcr f (rwE a b i b.length)),some (.val (.int (0+(i:Int)))),some (.own [.int (0+(i:Int)+1)]),x5,x6]=some ((List.range b.length).map fun(k:Nat)=>D.int (0+(k:Int))):=by
  have hb2:b62 (b.length:Int):=zbT (by lia)
  have hm:b.length<=1000000:=by lia
  simp only[iR1,zaa,eCB,zab,jqf,jqe,zaf,jqc,jqa,zcL,sOf,zch,hm,zbg,zae,iOf,hb2,Int.toNat_natCast]
 refine(show zbu _=_ from zaU (zex h1)).trans ((forN h2 hl).trans ?_)
 generalize rwE a b (i+1) b.length=R1
 generalize zcr f (rwE a b i b.length)=R0
 rfl
theorem lprice_eq(a b:List Nat)(ha:a.length<=900)(hb:b.length<=900):zb5 [.str (mkS a),.str (mkS b)]=some (.val (.int (ed a b))):=by
 obtain⟨δ',w1,f,y3,y4,y5,y6,_,rfl⟩:=zbt (tg:=gNm 3) (f:=zbu) (fun k δ=>∃ (f:Bool) (y3 y4 y5 y6:Option Ent),(k=0->f=true)/\δ=[some (.val (.str (mkS a))),some (.val (.str (mkS b))),some (zcr f (rwE a b k b.length)),y3,y4,y5,y6])
  ((List.range a.length).map fun(k:Nat)=>D.int (0+(k:Int))) 0 [some (.val (.str (mkS a))),some (.val (.str (mkS b))),some (.own (rwE a b 0 b.length)),none,none,none,none] (fun k d δ hd hδ=>by
   obtain⟨f,y3,y4,y5,y6,_,rfl⟩:=hδ
   rw[Nat.zero_add]
   have hk:k<a.length:=by have:=(List.getElem?_eq_some_iff.mp hd).1;simpa using this
   rw[List.getElem?_map,List.getElem?_range hk] at hd
   cases hd
   obtain⟨z4,z5,z6,e⟩:=lp_row a b k f hk (by lia) (by lia) y4 y5 y6
   exact⟨_,_,rfl,.inl e,false,_,z4,z5,z6,fun z=>by lia,rfl⟩) ⟨true,none,none,none,none,fun _=>rfl,rfl⟩
 rw[List.length_map,List.length_range,Nat.zero_add] at w1
 have h0:rwE a b 0 b.length=(List.range (b.length+1)).map fun(k:Nat)=>D.int (0+(k:Int)):=by
  unfold rwE
  exact List.map_congr_left fun j _=>by rw[ev_0,Int.zero_add]
 have hm:b.length<=1000000:=by lia
 have hm2:a.length<=1000000:=by lia
 have hb2:b62 (a.length:Int):=zbT (by lia)
 have h1:ex1 zf1 (ex2 zbX (eCB zcL (zaa (zab 1) zaf)) (eC (.int 1))) [some (.val (.str (mkS a))),some (.val (.str (mkS b))),none,none,none,none,none]=some (.own (rwE a b 0 b.length)):=by
  rw[h0]
  have hz:(0:Int)<=(b.length:Int)+1/\(b.length:Int)+1<=1000:=by lia
  have hn:((b.length:Int)+1).toNat=b.length+1:=by lia
  simp only[ex1,ex2,eCB,zaa,zab,jqf,jqe,zaf,jqc,jqa,zcL,sOf,zch,hm,zbg,zae,eC,zbX,pI0,iOf,zf1,hz,and_self,hn,jra]
 have h2:iR1 (zaa (eCB zcL (zaa (zab 0) zaf)) zaf) [some (.val (.str (mkS a))),some (.val (.str (mkS b))),some (.own (rwE a b 0 b.length)),none,none,none,none]=some ((List.range a.length).map fun(k:Nat)=>D.int (0+(k:Int))):=by
  simp only[iR1,zaa,eCB,zab,jqe,zaf,jqc,jqa,zcL,sOf,zch,hm2,zbg,zae,iOf,hb2,Int.toNat_natCast]
 have h3:atI (rwE a b a.length b.length) (-1)=some (.int (ed a b)):=zdJ (fun j=>.int (ev a b a.length j)) b.length
 suffices hF:∃ δ,zb8 [some (.val (.str (mkS a))),some (.val (.str (mkS b))),none,none,none,none,none]=some (.rt (.val (.int (ed a b))) δ) from
  hF.elim fun _ h=>(congrArg (fun o=>Option.bind o _) h).trans rfl
 exact⟨_,(show zb8 _=_ from zaU (zex h1)).trans ((forN h2 w1).trans (fRetI (ix2 (F:=ex1 zfS (eC (.int 1))) rfl h3)))⟩
inductive Kns(P:OT->List (List Nat)->Prop)(w:List Nat):List Int->List OT->List (List Nat)->Prop
 | nil:Kns P w [] [] []
 | cons {k:Int} {ks:List Int} {x:OT} {os:List OT} {us vs:List (List Nat)}:P x us->(∀ u ∈ us,ed w u=k)->0<k->k ∉ ks->Kns P w ks os vs->Kns P w (k :: ks) (x :: os) (us ++ vs)
noncomputable def Kn:Nat->OT->List (List Nat)->Prop
 | 0,_,_=>False
 | n+1,x,us=>∃ w ks os vs,x=mkK (mkS w) ks os/\us=w :: vs/\Kns (Kn n) w ks os vs
section
variable {P:OT->List (List Nat)->Prop}{n:Nat}{x:OT}{w:List Nat}{ks:List Int}{os:List OT}{us vs:List (List Nat)}
theorem Kn.mk(h:Kns (Kn n) w ks os us):Kn (n+1) (mkK (mkS w) ks os) (w :: us):=⟨w,ks,os,us,rfl,rfl,h⟩
theorem Kns.imp{P':OT->List (List Nat)->Prop}(f:∀ x us,P x us->P' x us)(h:Kns P w ks os us):Kns P' w ks os us:=by
 induction h with
 | nil=>exact .nil
 | cons h1 h2 h3 h4 _ ih=>exact .cons (f _ _ h1) h2 h3 h4 ih
theorem Kn.up:∀ {n:Nat} {x:OT} {us:List (List Nat)},Kn n x us->Kn (n+1) x us:=by
 intro n
 induction n with
 | zero=>intro x us h;exact h.elim
 | succ n ih=>
  rintro x us ⟨w,ks,os,vs,rfl,rfl,h⟩
  exact Kn.mk (h.imp fun _ _=>ih)
theorem Kns.up(h:Kns (Kn n) w ks os us):Kns (Kn (n+1)) w ks os us:=h.imp fun _ _=>Kn.up
theorem Kn.get(h:Kn n x us):∃ m w ks os vs,n=m+1/\x=mkK (mkS w) ks os/\us=w :: vs/\Kns (Kn m) w ks os vs:=by
 match n,h with
 | m+1,⟨w,ks,os,vs,h1,h2,h3⟩=>exact⟨m,w,ks,os,vs,rfl,h1,h2,h3⟩
theorem Kn.pos(h:Kn n x us):0<us.length:=by
 obtain⟨_,_,_,_,_,_,_,rfl,_⟩:=h.get
 exact Nat.zero_lt_succ _
theorem Kns.len(h:Kns (Kn n) w ks os us):ks.length=os.length/\ks.length<=us.length:=by
 induction h with
 | nil=>exact⟨rfl,Nat.le_refl _⟩
 | cons h1 _ _ _ _ ih=>
  refine⟨congrArg (· + 1) ih.1,?_⟩
  rw[List.length_cons,List.length_append,Nat.add_comm]
  exact Nat.add_le_add h1.pos ih.2
theorem Kns.mem(h:Kns P w ks os us):∀ u ∈ us,ed w u ∈ ks/\0<ed w u:=by
 induction h with
 | nil=>intro u h;cases h
 | cons h1 h2 h3 h4 _ ih=>
  intro u h
  rcases List.mem_append.mp h with h | h
  ·rw[h2 u h];exact⟨List.mem_cons_self,h3⟩
  ·exact⟨List.mem_cons_of_mem _ (ih u h).1,(ih u h).2⟩
theorem Kns.at{k:Int}(h:Kns (Kn n) w ks os us):∀ {j:Nat},ks[j]? = some k->∃ x vs pre post,os[j]? = some x/\Kn n x vs/\(∀ u ∈ vs,ed w u=k)/\0<k/\us=pre ++ (vs ++ post)/\(∀ u ∈ us,ed w u=k->u ∈ vs) /\
  ∀ x' vs',Kn (n+1) x' vs'->(∀ u ∈ vs',ed w u=k)->Kns (Kn (n+1)) w ks (os.set j x') (pre ++ (vs' ++ post)):=by
 induction h with
 | nil=>intro j h;cases h
 | @cons k0 ks x os us vs h1 h2 h3 h4 h5 ih=>
  intro j h
  cases j with
  | zero=>
   cases h
   refine⟨x,us,[],vs,rfl,h1,h2,h3,rfl,fun u hu e=>?_,fun x' vs' q1 q2=>show Kns (Kn (n+1)) w _ _ (vs' ++ vs) from .cons q1 q2 h3 h4 h5.up⟩
   rcases List.mem_append.mp hu with hu | hu
   ·exact hu
   ·exact absurd (e ▸ (h5.mem u hu).1) h4
  | succ j=>
   rw[List.getElem?_cons_succ] at h
   obtain⟨x1,vs1,pre,post,e1,e2,e3,e4,e5,e6,e7⟩:=ih h
   refine⟨x1,vs1,us ++ pre,post,e1,e2,e3,e4,by rw[e5,List.append_assoc],fun u hu e=>?_,fun x' vs' q1 q2=>?_⟩
   ·rcases List.mem_append.mp hu with hu | hu
    ·exact absurd (by rw[<- h2 u hu,e];exact List.mem_of_getElem? h) h4
    ·exact e6 u hu e
   ·rw[List.append_assoc]
    exact .cons h1.up h2 h3 h4 (e7 x' vs' q1 q2)
theorem Kns.snoc{k:Int}(h:Kns P w ks os us)(q1:P x vs)(q2:∀ u ∈ vs,ed w u=k)(q3:0<k):k ∉ ks->Kns P w (ks ++ [k]) (os ++ [x]) (us ++ vs):=by
 induction h with
 | nil=>
  intro _
  have:=Kns.cons q1 q2 q3 List.not_mem_nil .nil
  rwa [List.append_nil] at this
 | cons h1 h2 h3 h4 _ ih=>
  intro q4
  rw[List.append_assoc]
  refine .cons h1 h2 h3 (fun z=>?_) (ih fun z=>q4 (List.mem_cons_of_mem _ z))
  rcases List.mem_append.mp z with z | z
  ·exact h4 z
  ·exact q4 (by rw[List.mem_singleton.mp z];exact List.mem_cons_self)
end
theorem hang_kn(t:List Nat)(ht:t.length<=1000):∀ (n m:Nat) (x:OT) (us:List (List Nat)),Kn n x us->(∀ u ∈ us,u.length<=1000)->us.length<1000000->n<=m ->
  ∃ b x' us',zds zah (mkS t) m x=some (b,x')/\Kn (n+1) x' us'/\((t ∈ us/\us'=us) \/ (t ∉ us/\us'.Perm (t :: us))):=by
 intro n
 induction n with
 | zero=>intro m x us h;exact h.elim
 | succ n ih=>
  rintro m x us ⟨w,ks,os,vs,rfl,rfl,h⟩ hl hs hm
  obtain⟨m,rfl⟩:∃ m',m=m'+1:=⟨m - 1,by lia⟩
  have hp:=ed_nonneg w t
  have st:zds zah (mkS t) (m+1) (mkK (mkS w) ks os)=zf0 (zds zah (mkS t) m) (mkS t) (mkS w) ks os (ed w t):=by
   unfold zds
   rw[knOf_mk]
   simp only[Option.bind_some]
   rw[zf2 w t (hl w List.mem_cons_self) ht]
   rfl
  rw[st]
  unfold zf0
  by_cases h0:0<ed w t
  ·rw[if_pos h0]
   cases hix:ixI ks (ed w t) with
   | none=>
    have hno:=zeV hix
    have hk:=h.len
    rw[List.length_cons] at hs
    refine⟨true,_,w :: (vs ++ [t]),if_pos (by lia),Kn.mk (h.up.snoc (Kn.mk .nil) (fun u hu=>by rw[List.mem_singleton.mp hu]) h0 hno),.inr ⟨fun z=>?_,?_⟩⟩
    ·rcases List.mem_cons.mp z with z | z
     ·rw[z,ed_self] at h0;lia
     ·exact hno (h.mem t z).1
    ·exact(List.Perm.cons w (List.perm_append_comm (l₁:=vs) (l₂:=[t]))).trans (.swap _ _ _)
   | some j=>
    obtain⟨x1,vs1,pre,post,e1,e2,e3,e4,e5,e6,e7⟩:=h.at (zgH hix)
    have sub:∀ u ∈ vs1,u ∈ w :: vs:=fun u hu=>List.mem_cons_of_mem _ (by rw[e5];exact List.mem_append_right _ (List.mem_append_left _ hu))
    have hl1:vs1.length<1000000:=by
     have:=congrArg List.length e5
     simp only[List.length_append,List.length_cons] at this hs
     lia
    obtain⟨b,x',us',q1,q2,q3⟩:=ih m x1 vs1 e2 (fun u hu=>hl u (sub u hu)) hl1 (by lia)
    have all:∀ u ∈ us',ed w u=ed w t:=fun u hu=>by
     rcases q3 with ⟨_,rfl⟩ | ⟨_,q3⟩
     ·exact e3 u hu
     ·rcases List.mem_cons.mp (q3.mem_iff.mp hu) with z | z
      ·rw[z]
      ·exact e3 u z
    refine⟨b,mkK (mkS w) ks (os.set j x'),w :: (pre ++ (us' ++ post)),?_,Kn.mk (e7 x' us' q2 all),?_⟩
    ·show((os[j]?).bind fun y=>(zds zah (mkS t) m y).map fun q=>(q.1,mkK (mkS w) ks (os.set j q.2)))=_
     rw[e1]
     simp only[Option.bind_some]
     rw[q1]
     rfl
    ·rcases q3 with ⟨z1,rfl⟩ | ⟨z1,z2⟩
     ·exact .inl ⟨sub t z1,by rw[e5]⟩
     ·refine .inr ⟨fun z=>?_,?_⟩
      ·rcases List.mem_cons.mp z with z | z
       ·rw[z,ed_self] at h0;lia
       ·exact z1 (e6 t z rfl)
      ·rw[e5]
       refine(List.Perm.cons w ((List.Perm.append_left pre (z2.append_right post)).trans ?_)).trans (.swap _ _ _)
       exact List.perm_middle
  ·rw[if_neg h0]
   have hz:ed w t=0:=by lia
   have:=ed_zero hz
   subst this
   exact⟨false,_,w :: vs,if_pos hz,Kn.mk h.up,.inl ⟨List.mem_cons_self,rfl⟩⟩
noncomputable section
noncomputable def dK(kC:Str->Addr)(x:OT):D:=(toD kC x).getD .non
theorem dK_of{kC:Str->Addr}{x:OT}{d:D}(h:toD kC x=some d):toD kC x=some (dK kC x):=by unfold dK;rw[h];rfl
theorem Kns.dP{kC:Str->Addr}{P:OT->List (List Nat)->Prop}{w:List Nat}{ks:List Int}{os:List OT}{us:List (List Nat)}(f:∀ x us,P x us->toD kC x=some (dK kC x))(h:Kns P w ks os us):toDs kC os=some (os.map (dK kC)):=by
 induction h with
 | nil=>simp only[toDs];rfl
 | cons h1 _ _ _ _ ih=>simp only[toDs,f _ _ h1,ih,Option.map_some,Option.bind_some];rfl
theorem Kn.d{kC:Str->Addr}:∀ {n:Nat} {x:OT} {us:List (List Nat)},Kn n x us->toD kC x=some (dK kC x):=by
 intro n
 induction n with
 | zero=>intro x us h;exact h.elim
 | succ n ih=>
  rintro x us ⟨w,ks,os,vs,rfl,rfl,h⟩
  refine dK_of (d:=.ins (kC "Knot") ["word","branches"] [.str (mkS w),.dcI ks (os.map (dK kC))]) ?_
  unfold mkK
  simp only[toD,toDs,h.dP fun _ _=>ih,Option.map_some,Option.bind_some]
theorem Kns.d{kC:Str->Addr}{n:Nat}{w:List Nat}{ks:List Int}{os:List OT}{us:List (List Nat)}(h:Kns (Kn n) w ks os us):toDs kC os=some (os.map (dK kC)):=h.dP fun _ _=>Kn.d
theorem dK_mk{kC:Str->Addr}{n:Nat}{w:List Nat}{ks:List Int}{os:List OT}{us:List (List Nat)}(h:Kns (Kn n) w ks os us):dK kC (mkK (mkS w) ks os)=.ins (kC "Knot") ["word","branches"] [.str (mkS w),.dcI ks (os.map (dK kC))]:=by
 unfold dK mkK
 simp only[toD,toDs,h.d,Option.map_some,Option.bind_some]
 rfl
noncomputable def rch(p most:Int):List Int->List OT->List OT
 | k :: ks,x :: os=>if (if k - p<0 then -(k - p) else k - p)<=most then x :: rch p most ks os else rch p most ks os
 | _,_=>[]
theorem rch_c(p most k:Int)(ks:List Int)(x:OT)(os:List OT):rch p most (k :: ks) (x :: os)=if (if k - p<0 then -(k - p) else k - p)<=most then x :: rch p most ks os else rch p most ks os:=by rw[rch]
theorem ixI_mid{k:Int}:∀ {pre:List Int} {rest:List Int},k ∉ pre->ixI (pre ++ k :: rest) k=some pre.length
 | [],_,_=>if_pos rfl
 | a :: pre,rest,h=>by
  rw[List.cons_append]
  unfold ixI
  rw[if_neg fun e=>h (by rw[e];exact List.mem_cons_self),ixI_mid fun z=>h (List.mem_cons_of_mem _ z)]
  rfl
theorem zeb(kC:Str->Addr)(wd:D)(p most:Int):∀ (rest:List Int) (ro:List OT) (pre:List Int) (po:List OT),rest.length=ro.length->pre.length=po.length->(pre ++ rest).Nodup ->
  zc2 (fun d=>zaG kC (cEn [0,2,1] [some (.val (.ins (kC "Knot") ["word","branches"] [wd,.dcI (pre ++ rest) ((po ++ ro).map (dK kC))])),some (.val (.int p)),some (.val (.int most))] d)) (fun d=>zaJ kC (cEn [0,2,1] [some (.val (.ins (kC "Knot") ["word","branches"] [wd,.dcI (pre ++ rest) ((po ++ ro).map (dK kC))])),some (.val (.int p)),some (.val (.int most))] d)) (rest.map D.int)=some ((rch p most rest ro).map (dK kC))
 | [],[],pre,po,_,_,_=>rfl
 | k :: rest,x :: ro,pre,po,h1,h2,h3=>by
  have hk:k ∉ pre:=fun z=>(List.nodup_append.mp h3).2.2 k z k List.mem_cons_self rfl
  have ih:=zeb kC wd p most rest ro (pre ++ [k]) (po ++ [x]) (by simpa using h1) (by simp[h2]) (by simpa using h3)
  rw[List.append_assoc,List.singleton_append,List.append_assoc,List.singleton_append] at ih
  have hx:((po ++ x :: ro).map (dK kC))[pre.length]? = some (dK kC x):=by
   rw[h2,List.getElem?_map,List.getElem?_append_right (Nat.le_refl _),Nat.sub_self]
   rfl
  have hi:=ixI_mid (rest:=rest) hk
  generalize (po ++ x :: ro).map (dK kC)=L at *
  generalize pre ++ k :: rest=KS at *
  rw[List.map_cons,zc2,ih]
  have q:zaJ kC (cEn [0,2,1] [some (.val (.ins (kC "Knot") ["word","branches"] [wd,.dcI KS L])),some (.val (.int p)),some (.val (.int most))] (D.int k))=some (.val (dK kC x)):=by
   simp only[zaJ,ex2,ex1,zab,cEn,jqn,jqe,jqx,jqa,capt,jqf,jqo,zcK,asIn,and_self,jra,jqc,gDxI,asDi,iOf,hi,hx]
  have t:zaG kC (cEn [0,2,1] [some (.val (.ins (kC "Knot") ["word","branches"] [wd,.dcI KS L])),some (.val (.int p)),some (.val (.int most))] (D.int k))=some (decide ((if k - p<0 then -(k - p) else k - p)<=most)):=by
   simp only[zaG,tOf,ex2,eCB,zaa,zab,cEn,jqn,jqe,jqx,jqa,capt,jqf,jqo,zgD,pI0,iOf,jqc,zaf,gAbs,gLe,bOf]
  rw[q,t,rch_c]
  by_cases c:(if k - p<0 then -(k - p) else k - p)<=most
  ·rw[if_pos c,decide_eq_true c];rfl
  ·rw[if_neg c,decide_eq_false c];rfl
theorem zfO{p most:Int}:∀ (ks:List Int) (os:List OT),(rch p most ks os).length<=os.length
 | [],[]=>Nat.le_refl _
 | [],_ :: _=>Nat.zero_le _
 | _ :: _,[]=>Nat.zero_le _
 | k :: ks,x :: os=>by
  rw[rch_c]
  have:=zfO (p:=p) (most:=most) ks os
  by_cases c:(if k - p<0 then -(k - p) else k - p)<=most
  ·rw[if_pos c,List.length_cons,List.length_cons];lia
  ·rw[if_neg c,List.length_cons];lia
theorem Kns.nd{P:OT->List (List Nat)->Prop}{w:List Nat}{ks:List Int}{os:List OT}{us:List (List Nat)}(h:Kns P w ks os us):ks.Nodup:=by
 induction h with
 | nil=>exact .nil
 | cons _ _ _ h4 _ ih=>exact List.nodup_cons.mpr ⟨h4,ih⟩
theorem reach_eq(kC:Str->Addr){n:Nat}{w:List Nat}{ks:List Int}{os:List OT}{us:List (List Nat)}(h:Kns (Kn n) w ks os us)(p most:Int)(hl:us.length<=1000) :
  zaL kC [dK kC (mkK (mkS w) ks os),.int p,.int most]=some (.own ((rch p most ks os).map (dK kC))):=by
 have c:=zeb kC (.str (mkS w)) p most ks os [] [] h.len.1 rfl h.nd
 rw[List.nil_append,List.nil_append] at c
 rw[dK_mk h]
 have hz:((rch p most ks os).map (dK kC)).length<=1000000:=by
  have h1:=zfO (p:=p) (most:=most) ks os
  have h2:=h.len
  rw[List.length_map]
  lia
 have ec:eLC [0,2,1] (iDi (ex1 (zcK (kC "Knot") ["word","branches"] 1) (zab 0))) (zaG kC) (zaJ kC) [some (.val (.ins (kC "Knot") ["word","branches"] [.str (mkS w),.dcI ks (os.map (dK kC))])),some (.val (.int p)),some (.val (.int most))]=some (.own ((rch p most ks os).map (dK kC))):=by
  refine zfm ?_ c hz
  simp only[iDi,ex1,zab,jqe,jqa,zcK,asIn,and_self,jra,jqf,jqc,asDi]
 generalize os.map (dK kC)=L at *
 generalize (rch p most ks os).map (dK kC)=R at *
 simp only[zaL,zc9,stE,stN,jqc,jqa,zbJ,zb7,List.replicate,jqk,toN,ec,zf7]
inductive Stk:List OT->List (List Nat)->Prop
 | nil:Stk [] []
 | snoc {n:Nat} {x:OT} {xs:List OT} {us vs:List (List Nat)}:Stk xs vs->Kn n x us->Stk (xs ++ [x]) (vs ++ us)
theorem Stk.len{xs:List OT}{us:List (List Nat)}(h:Stk xs us):xs.length<=us.length:=by
 induction h with
 | nil=>exact Nat.le_refl _
 | snoc _ h2 ih=>
  have:=h2.pos
  simp only[List.length_append,List.length_cons,List.length_nil]
  lia
noncomputable def inR(t:List Nat)(most:Int)(u:List Nat):Bool:=decide (ed u t<=most)
theorem far_off{w t u:List Nat}{most:Int}(h:¬ (if ed w u - ed w t<0 then -(ed w u - ed w t) else ed w u - ed w t)<=most):inR t most u=false:=by
 have h1:=ed_tri w u t
 have h2:=ed_tri w t u
 rw[ed_swap u t] at h2
 unfold inR
 refine decide_eq_false fun z=>h ?_
 split <;> lia
theorem reach_stk(t:List Nat)(most:Int){n:Nat}{w:List Nat}{ks:List Int}{os:List OT}{us:List (List Nat)}(h:Kns (Kn n) w ks os us):∀ {xs:List OT} {vs:List (List Nat)},Stk xs vs ->
  ∃ vk,Stk (xs ++ rch (ed w t) most ks os) (vs ++ vk)/\vk.length<=us.length/\(∀ u ∈ vk,u ∈ us)/\vk.filter (inR t most)=us.filter (inR t most):=by
 induction h with
 | nil=>intro xs vs s;exact⟨[],by rw[List.append_nil];unfold rch;rw[List.append_nil];exact s,Nat.le_refl _,fun _ h=>h,rfl⟩
 | @cons k ks x os us vs' h1 h2 h3 h4 h5 ih=>
  intro xs vs s
  rw[rch_c,List.length_append]
  by_cases c:(if k - ed w t<0 then -(k - ed w t) else k - ed w t)<=most
  ·rw[if_pos c]
   obtain⟨vk,q1,q2,q3,q4⟩:=ih (s.snoc h1)
   rw[List.append_assoc,List.append_assoc] at q1
   refine⟨us ++ vk,q1,by rw[List.length_append];exact Nat.add_le_add_left q2 _,fun u hu=>?_,by rw[List.filter_append,List.filter_append,q4]⟩
   rcases List.mem_append.mp hu with z | z
   ·exact List.mem_append_left _ z
   ·exact List.mem_append_right _ (q3 u z)
  ·rw[if_neg c]
   obtain⟨vk,q1,q2,q3,q4⟩:=ih s
   refine⟨vk,q1,Nat.le_trans q2 (Nat.le_add_left _ _),fun u hu=>List.mem_append_right _ (q3 u hu),?_⟩
   have:us.filter (inR t most)=[]:=List.filter_eq_nil_iff.mpr fun u hu=>by
    rw[far_off (w:=w) (by rw[h2 u hu];exact c)]
    exact Bool.false_ne_true
   rw[List.filter_append,this,q4]
   rfl
noncomputable def prE(t:List Nat)(u:List Nat):Int × Str:=(ed u t,mkS u)
theorem near_turn(kC:Str->Addr)(t:List Nat)(most:Int)(ht:t.length<=1000){n:Nat}{w:List Nat}{ks:List Int}{os:List OT}{us:List (List Nat)}(h:Kns (Kn n) w ks os us)(hw:w.length<=1000)(hu:us.length<=1000)(xs:List OT)(hxs:xs.length<=1000)(fs:List (Int × Str))(hf:fs.length<=1000)(d0 x5 x6:Option Ent):∃ y5 y6,
  za3 kC [d0,some (.val (.str (mkS t))),some (.val (.int most)),some (.own (fs.map prD)),some (.own ((xs ++ [mkK (mkS w) ks os]).map (dK kC))),x5,x6] =
  some (.nx [d0,some (.val (.str (mkS t))),some (.val (.int most)),some (.own ((fs ++ if inR t most w=true then [prE t w] else []).map prD)),some (.own ((xs ++ rch (ed w t) most ks os).map (dK kC))),y5,y6]):=by
 have sl:=zf2 w t hw ht
 have re:=reach_eq kC h (ed w t) most hu
 have hr:=zfO (p:=ed w t) (most:=most) ks os
 have hk:=h.len
 refine⟨some (.val (dK kC (mkK (mkS w) ks os))),some (.val (.int (ed w t))),?_⟩
 have fld:∀ δ:En,δ[5]? = some (some (.val (dK kC (mkK (mkS w) ks os))))->ex1 (zcK (kC "Knot") ["word","branches"] 0) (zab 5) δ=some (.val (.str (mkS w))):=fun δ hδ=>by
  rw[dK_mk h] at hδ
  unfold ex1 zab
  rw[hδ]
  simp only[jqa,zcK,asIn,and_self,jra,jqe,jqc]
 have e1:fPop 4 (gNm 5) [d0,some (.val (.str (mkS t))),some (.val (.int most)),some (.own (fs.map prD)),some (.own ((xs ++ [mkK (mkS w) ks os]).map (dK kC))),x5,x6]=some (.nx [d0,some (.val (.str (mkS t))),some (.val (.int most)),some (.own (fs.map prD)),some (.own (xs.map (dK kC))),some (.val (dK kC (mkK (mkS w) ks os))),x6]):=by
  have q1:((xs ++ [mkK (mkS w) ks os]).map (dK kC))[((xs ++ [mkK (mkS w) ks os]).map (dK kC)).length - 1]? = some (dK kC (mkK (mkS w) ks os)):=by
   rw[List.map_append,List.length_append,List.map_cons,List.map_nil,List.length_cons,List.length_nil,Nat.zero_add,Nat.add_sub_cancel,List.getElem?_append_right (Nat.le_refl _),Nat.sub_self]
   rfl
  have q2:((xs ++ [mkK (mkS w) ks os]).map (dK kC)).dropLast=xs.map (dK kC):=by
   rw[List.map_append,List.map_cons,List.map_nil,List.dropLast_concat]
  unfold fPop
  simp only[List.getElem?_cons_zero,List.getElem?_cons_succ]
  rw[q1,q2]
  rfl
 refine(show za3 kC _=_ from zaU e1).trans ?_
 refine(zaU (zdT (v:=.int (ed w t)) ((zfz (fld _ rfl) (Y:=zab 1) (b:=.str (mkS t)) rfl).trans sl))).trans ?_
 generalize dK kC (mkK (mkS w) ks os)=X at *
 have fin:∀ gs:List D,fExt 4 (za4 [.v,.v,.v] (zaL kC) (zaa (zab 5) (zaa (zab 6) (zaa (zab 2) zaf)))) [d0,some (.val (.str (mkS t))),some (.val (.int most)),some (.own gs),some (.own (xs.map (dK kC))),some (.val X),some (.val (.int (ed w t)))] =
   some (.nx [d0,some (.val (.str (mkS t))),some (.val (.int most)),some (.own gs),some (.own ((xs ++ rch (ed w t) most ks os).map (dK kC))),some (.val X),some (.val (.int (ed w t)))]):=fun gs=>by
  rw[List.map_append]
  have hz:(xs.map (dK kC)).length+((rch (ed w t) most ks os).map (dK kC)).length<=1000000:=by rw[List.length_map,List.length_map];lia
  generalize xs.map (dK kC)=XS at *
  generalize (rch (ed w t) most ks os).map (dK kC)=RS at *
  simp only[fExt,jqf,jqe,za4,zaa,zab,zaf,jqc,jqa,zbU,zd5,asV,re,jqh,jqg,hz,zbg,zae]
 by_cases c:ed w t<=most
 ·have ci:inR t most w=true:=decide_eq_true c
  rw[ci,if_pos rfl,List.map_append,List.map_cons,List.map_nil]
  have hz:(fs.map prD).length<1000000:=by rw[List.length_map];lia
  generalize fs.map prD=FS at *
  refine(zaU ((fIfT ?_).trans (fAppI (v:=prD (prE t w)) rfl ?_ hz))).trans (fin _)
  ·simp only[tOf,ex2,zab,jqh,jqg,jqf,jqe,gLe,pI0,iOf,jqa,jqc,c,jqy,bOf]
  ·unfold eTup zaa zaf
   rw[fld _ rfl]
   rfl
 ·have ci:inR t most w=false:=decide_eq_false c
  rw[ci,if_neg Bool.false_ne_true,List.append_nil]
  generalize fs.map prD=FS at *
  refine(zaU (fIfF ?_)).trans (fin _)
  simp only[tOf,ex2,zab,jqh,jqg,jqf,jqe,gLe,pI0,iOf,jqa,jqc,c,jqz,bOf]
theorem near_loop(kC:Str->Addr)(t:List Nat)(most:Int)(ht:t.length<=1000)(d0:Option Ent):∀ (N:Nat) (xs:List OT) (us:List (List Nat)) (fs:List (Int × Str)) (x5 x6:Option Ent),Stk xs us->us.length<=N->fs.length+us.length<=1000->(∀ u ∈ us,u.length<=1000) ->
  ∃ gs y5 y6,whl (zaD kC) (za3 kC) (N+1) [d0,some (.val (.str (mkS t))),some (.val (.int most)),some (.own (fs.map prD)),some (.own (xs.map (dK kC))),x5,x6] =
   some (.nx [d0,some (.val (.str (mkS t))),some (.val (.int most)),some (.own ((fs ++ gs).map prD)),some (.own []),y5,y6])/\gs.Perm ((us.filter (inR t most)).map (prE t)):=by
 intro N
 have test:∀ (FS XS:List D) (x5 x6:Option Ent),XS.length<=1000->zaD kC [d0,some (.val (.str (mkS t))),some (.val (.int most)),some (.own FS),some (.own XS),x5,x6]=some (decide (0<XS.length)):=fun FS XS x5 x6 _=>by
  by_cases z:0<XS.length
  ·have z':(0:Int)<(XS.length:Int):=by lia
   simp only[zaD,tOf,ex2,eCB,zaa,zab,jqf,jqe,zaf,jqc,jqa,zbN,zdx,asL,eC,gGt,pI0,iOf,z',jqy,bOf,z]
  ·have z':¬ (0:Int)<(XS.length:Int):=by lia
   simp only[zaD,tOf,ex2,eCB,zaa,zab,jqf,jqe,zaf,jqc,jqa,zbN,zdx,asL,eC,gGt,pI0,iOf,z',jqz,bOf,z]
 have stop:∀ (M:Nat) (fs:List (Int × Str)) (x5 x6:Option Ent),whl (zaD kC) (za3 kC) (M+1) [d0,some (.val (.str (mkS t))),some (.val (.int most)),some (.own (fs.map prD)),some (.own []),x5,x6]=some (.nx [d0,some (.val (.str (mkS t))),some (.val (.int most)),some (.own (fs.map prD)),some (.own []),x5,x6]):=fun M fs x5 x6=>by
  show((zaD kC _).bind _)=_
  rw[test _ _ _ _ (by simp)]
  rfl
 induction N with
 | zero=>
  intro xs us fs x5 x6 s h1 h2 h3
  cases s with
  | nil=>exact⟨[],x5,x6,by rw[List.append_nil];exact stop _ _ _ _,.refl _⟩
  | snoc s1 k=>
   have:=k.pos
   rw[List.length_append] at h1
   lia
 | succ N ih=>
  intro xs us fs x5 x6 s h1 h2 h3
  cases s with
  | nil=>exact⟨[],x5,x6,by rw[List.append_nil];exact stop _ _ _ _,.refl _⟩
  | @snoc n x xs us vs s1 k=>
   obtain⟨n,w,ks,os,vs1,_,rfl,rfl,hk⟩:=k.get
   simp only[List.length_append,List.length_cons] at h1 h2
   have hxl:=s1.len
   obtain⟨vk,q1,q2,q3,q4⟩:=reach_stk t most hk s1
   obtain⟨z5,z6,e1⟩:=near_turn kC t most ht hk (h3 w (by simp)) (by lia) xs (by lia) fs (by lia) d0 x5 x6
   have hfl:(if inR t most w=true then [prE t w] else []).length<=1:=by split <;> simp
   obtain⟨gs,y5,y6,e2,e3⟩:=ih (xs ++ rch (ed w t) most ks os) (vs ++ vk) (fs ++ if inR t most w=true then [prE t w] else []) z5 z6 q1 (by rw[List.length_append];lia) (by rw[List.length_append,List.length_append];lia) (fun u hu=>by
    rcases List.mem_append.mp hu with z | z
    ·exact h3 u (List.mem_append_left _ z)
    ·exact h3 u (List.mem_append_right _ (List.mem_cons_of_mem _ (q3 u z))))
   refine⟨(if inR t most w=true then [prE t w] else []) ++ gs,y5,y6,?_,?_⟩
   ·rw[<- List.append_assoc,<- e2]
    show((zaD kC _).bind _)=_
    rw[test _ _ _ _ (by rw[List.length_map,List.length_append];simp only[List.length_cons,List.length_nil];lia),decide_eq_true (by simp)]
    show((za3 kC _).bind _)=_
    rw[e1]
    rfl
   ·rw[List.filter_append,q4,List.map_append] at e3
    rw[List.filter_append,List.map_append,List.filter_cons]
    refine(List.Perm.append_left _ e3).trans ?_
    cases inR t most w with
    | true=>rw[if_pos rfl,if_pos rfl,List.map_cons,List.singleton_append];exact List.perm_middle.symm
    | false=>exact .refl _
theorem plDs_pr:∀ l:List (Int × Str),plDs (l.map prD)=true
 | []=>by simp only[List.map_nil,plDs]
 | p :: l=>by simp only[List.map_cons,plDs,prD,plD,plDs_pr l,Bool.and_self]
theorem tupO{E:FE}{δ:En}{ds:List D}(h:E δ=some (.own ds))(hl:ds.length<=1000000):eCB zdX (zaa E zaf) δ=some (.val (.tup ds)):=by simp only[eCB,zaa,h,zaf,jqc,jqa,zdX,asL]
noncomputable def bkO(top:OT):OT:=.ins "Book" ["top"] [top]
theorem near_none(t:List Nat)(most:Int):za8 (bkO (.val .non)) [.str (mkS t),.int most]=some (.tup [],bkO (.val .non)):=by
 refine zgc fun kC=>?_
 unfold bkO
 simp only[semR,jqp,jqq,toD,toDs,jqc,jqa,zbw,zbb,fIf,tOf,ex2,ex1,zab,jqn,jqo,List.replicate,jqi,jqj,jqe,zcK,asIn,eC,gIsN,isN,zb7,eTup,zaf,Nat.reduceLeDiff,zd2,jra,toN,fNx,and_self,bOf,sqO,endR,plD,plDs]
theorem near_eq(n:Nat)(x:OT)(us:List (List Nat))(hk:Kn n x us)(hu:us.length<=60)(hl:∀ u ∈ us,u.length<=1000)(t:List Nat)(ht:t.length<=1000)(most:Int) :
  za8 (bkO x) [.str (mkS t),.int most]=some (.tup ((zd1 ((us.filter (inR t most)).map (prE t))).map prD),bkO x):=by
 refine zgc fun kC=>?_
 obtain⟨gs,y5,y6,e1,e2⟩:=near_loop kC t most ht (some (.val (.ins (kC "Book") ["top"] [dK kC x]))) 999 [x] us [] none none (by simpa using Stk.snoc .nil hk) (by lia) (by simp;lia) hl
 have hd:toD kC (bkO x)=some (.ins (kC "Book") ["top"] [dK kC x]):=by
  unfold bkO
  simp only[toD,toDs,hk.d,Option.map_some,Option.bind_some]
 have hs:zd1 gs=zd1 ((us.filter (inR t most)).map (prE t)):=zdZ ((zcq gs).trans e2) (zfJ gs)
 have hne:isN (.val (dK kC x))=false:=by
  obtain⟨_,_,_,_,_,_,rfl,_,h⟩:=hk.get
  rw[dK_mk h]
  rfl
 have hgl:gs.length<=60:=by
  rw[e2.length_eq,List.length_map]
  have:=List.length_filter_le (inR t most) us
  lia
 rw[List.nil_append] at e1
 unfold semR
 rw[if_pos (show [D.str (mkS t),D.int most].length=2 from rfl),hd]
 simp only[Option.bind_some]
 have hF:zbw kC [some (.val (.ins (kC "Book") ["top"] [dK kC x])),some (.val (.str (mkS t))),some (.val (.int most)),none,none,none,none]=some (.rt (.val (.tup ((zd1 gs).map prD))) [some (.val (.ins (kC "Book") ["top"] [dK kC x])),some (.val (.str (mkS t))),some (.val (.int most)),some (.own (gs.map prD)),some (.own []),y5,y6]):=by
  rw[List.map_nil,List.map_cons,List.map_nil] at e1
  have hsl:(zd1 gs).length<=60:=by rw[(zcq gs).length_eq];exact hgl
  have hz:((zd1 gs).map prD).length<=1000000:=by rw[List.length_map];lia
  have hg:gs.length<64:=by lia
  have pm:=zez gs
  generalize dK kC x=X at *
  have f0:∀ δ:En,δ[0]? = some (some (.val (.ins (kC "Book") ["top"] [X])))->ex1 (zcK (kC "Book") ["top"] 0) (zab 0) δ=some (.val X):=fun δ hδ=>by
   unfold ex1 zab
   rw[hδ]
   simp only[jqa,zcK,asIn,and_self,jra,jqe,jqc]
  have t0:tOf (ex2 gIsN (ex1 (zcK (kC "Book") ["top"] 0) (zab 0)) (eC .non)) [some (.val (.ins (kC "Book") ["top"] [X])),some (.val (.str (mkS t))),some (.val (.int most)),none,none,none,none]=some false:=by
   unfold tOf ex2
   rw[f0 _ rfl]
   simp only[eC,gIsN,isN,jqa,bOf]
   exact congrArg some hne
  refine(show zbw kC _=_ from zaU (fIfF t0)).trans ((zaU (zex (show zce zaf _=some (.own []) from rfl))).trans ((zaU (zex (eLst1 (f0 _ rfl)))).trans ((zaU e1).trans ?_)))
  have q:eCB zfL (zaa (zab 3) zaf) [some (.val (.ins (kC "Book") ["top"] [X])),some (.val (.str (mkS t))),some (.val (.int most)),some (.own (gs.map prD)),some (.own []),y5,y6]=some (.own ((zd1 gs).map prD)):=by
   generalize gs.map prD=GS at *
   simp only[eCB,zaa,zab,jqf,jqe,zaf,jqc,jqa,zfL,asL,pm,hg,zae]
  exact fRetI (tupO q hz)
 rw[<- hs]
 show(zbw kC [some (.val (.ins (kC "Book") ["top"] [dK kC x])),some (.val (.str (mkS t))),some (.val (.int most)),none,none,none,none]).bind endR=_
 rw[hF]
 show(if plD (.tup ((zd1 gs).map prD))=true then some (D.tup ((zd1 gs).map prD)) else none)=_
 rw[if_pos (by simp only[plD];exact plDs_pr _)]
end
theorem alph:("abcdefghijklmnopqrstuvwxyz" : Str).cps.toList=(List.range 26).map fun i=>97+i:=by decide +kernel
theorem deck_at(own:List Int)(k:Nat)(h:0<own.length):0<=(0+(k:Int)) % (own.length:Int)/\(0+(k:Int)) % (own.length:Int)<own.length:=⟨Int.emod_nonneg _ (by lia),Int.emod_lt_of_pos _ (by lia)⟩
theorem four_at(k:Nat):∃ m:Int,atI [D.int 48271,D.int 69621,D.int 39373,D.int 16807] ((0+(k:Int)) % 4)=some (.int m)/\0<=m/\m<=69621:=by
 have h:(0+(k:Int)) % 4=0 \/ (0+(k:Int)) % 4=1 \/ (0+(k:Int)) % 4=2 \/ (0+(k:Int)) % 4=3:=by lia
 rcases h with h | h | h | h <;> rw[h]
 ·exact⟨48271,rfl,by decide,by decide⟩
 ·exact⟨69621,rfl,by decide,by decide⟩
 ·exact⟨39373,rfl,by decide,by decide⟩
 ·exact⟨16807,rfl,by decide,by decide⟩
theorem p18:(10:Int) ^ (18:Int).toNat=1000000000000000000:=by decide
theorem g18:(0<=(18:Int)/\(18:Int)<=1000000)/\(10:Int).natAbs<18446744073709551616:=by decide
theorem pow18{δ:En}:ex2 gPow (eC (.int 10)) (eC (.int 18)) δ=some (.val (.int 1000000000000000000)):=by
 unfold ex2 eC gPow pI
 simp only[Option.bind_some,iOf,g18,and_self,zae,p18]
theorem divB{E F:FE}{δ:En}{a b:Int}(h1:E δ=some (.val (.int a)))(h2:F δ=some (.val (.int b)))(hb:0<b/\b<18446744073709551616):ex2 gDivB E F δ=some (.val (.int (a / b))):=by
 unfold ex2 gDivB pI
 simp only[h1,h2,Option.bind_some,iOf,hb,and_self,zae]
theorem deck_turn(c0 c1:Option Ent)(own row dk:List Int)(k:Nat)(x6 x7:Option Ent)(h0:0<own.length)(hr:row.length=own.length)(hk:k<1000)(hd:dk.length=k):∃ (row':List Int) (d:Int) (y6 y7:Option Ent),row'.length=own.length /\
  zbk [c0,c1,some (.val (.lst (own.map .int))),some (.own (row.map .int)),some (.own (dk.map .int)),some (.val (.int (0+(k:Int)))),x6,x7] =
  some (.nx [c0,c1,some (.val (.lst (own.map .int))),some (.own (row'.map .int)),some (.own ((dk ++ [d]).map .int)),some (.val (.int (0+(k:Int)))),y6,y7]):=by
 obtain⟨a1,a2⟩:=deck_at own k h0
 obtain⟨m,hm,m0,m1⟩:=four_at k
 have ow:atI (own.map D.int) ((0+(k:Int)) % (own.length:Int))=some (.int (own.getD ((0+(k:Int)) % (own.length:Int)).toNat 0)):=zdl D.int 0 a1 (by lia)
 have rw':atI (row.map D.int) ((0+(k:Int)) % (own.length:Int))=some (.int (row.getD ((0+(k:Int)) % (own.length:Int)).toNat 0)):=zdl D.int 0 a1 (by lia)
 have ix:ixN (row.map D.int).length ((0+(k:Int)) % (own.length:Int))=some ((0+(k:Int)) % (own.length:Int)).toNat:=by
  have:=ixN_nat (n:=(row.map D.int).length) (i:=((0+(k:Int)) % (own.length:Int)).toNat) (by rw[List.length_map];lia)
  rwa [Int.toNat_of_nonneg a1] at this
 have hlo:(own.map D.int).length=own.length:=List.length_map _
 have hdl:(dk.map D.int).length<1000000:=by rw[List.length_map];lia
 generalize hat:(0+(k:Int)) % (own.length:Int)=at' at *
 generalize own.getD at'.toNat 0=o at ow
 generalize hrr:row.getD at'.toNat 0=r at rw'
 have hb1:b64 (0+(k:Int)):=zem (by lia)
 have hps:0<(own.length:Int):=by lia
 have hb3:b64 ((o+(0+(k:Int)) * (0+(k:Int)) * 16807+3 * (0+(k:Int))) % 2147483629):=zem (by lia)
 have hb4:b64 ((o+(0+(k:Int)) * (0+(k:Int)) * 16807+3 * (0+(k:Int))) % 2147483629 * m+7):=by
  have h1:0<=(o+(0+(k:Int)) * (0+(k:Int)) * 16807+3 * (0+(k:Int))) % 2147483629:=by lia
  have h2:(o+(0+(k:Int)) * (0+(k:Int)) * 16807+3 * (0+(k:Int))) % 2147483629<=2147483629:=by lia
  generalize (o+(0+(k:Int)) * (0+(k:Int)) * 16807+3 * (0+(k:Int))) % 2147483629=u at h1 h2
  have h3:=Int.mul_nonneg h1 m0
  have h4:=Int.mul_le_mul h2 m1 m0 (by decide:(0:Int)<=2147483629)
  exact zem (by lia)
 have s1:ex2 zbO (zab 5) (eCB zbN (zaa (zab 2) zaf)) [c0,c1,some (.val (.lst (own.map .int))),some (.own (row.map .int)),some (.own (dk.map .int)),some (.val (.int (0+(k:Int)))),x6,x7]=some (.val (.int at')):=by
  rw[<- hat]
  simp (disch:=omega) only[ex2,zab,jqf,jqe,eCB,zaa,zaf,jqc,jqa,zbN,zdx,asL,hlo,zbO,pI,iOf,zbA,zae]
 have s2:∃ v,(ex2 zbX (ex2 zeB (ex2 zbO (ex2 zbX (ex2 zbX (ex2 zbQ (zab 2) (zab 6)) (ex2 zeB (ex2 zeB (zab 5) (zab 5)) (eC (.int 16807)))) (ex2 zeB (eC (.int 3)) (zab 5))) (eC (.int 2147483629))) (ex2 zbQ (zce (zaa (eC (.int 48271)) (zaa (eC (.int 69621)) (zaa (eC (.int 39373)) (zaa (eC (.int 16807)) zaf))))) (ex2 zbO (zab 5) (eC (.int 4))))) (eC (.int 7))) [c0,c1,some (.val (.lst (own.map .int))),some (.own (row.map .int)),some (.own (dk.map .int)),some (.val (.int (0+(k:Int)))),some (.val (.int at')),x7]=some (.val (.int v))/\b64 v:=by
  refine⟨_,?_,hb4⟩
  simp (disch:=omega) only[ex2,zab,jqf,jqe,zbQ,asL,iOf,jqa,ow,jqc,zeB,pI,zdB,jrc,zae,eC,zbX,pI0,zbO,zbA,zce,zaa,zaf,jqp,jqq,Nat.reduceLeDiff,zd2,asV,jra,hm]
 obtain⟨v,s2,hv⟩:=s2
 have s3:∃ d:Int,(ex2 zbQ (zce (zaa (ex2 zbO (ex2 zeB (zab 7) (zab 7)) (eC (.int 2147483629))) (zaa (ex2 zbO (ex2 zbQ (zab 3) (zab 6)) (ex2 gPow (eC (.int 10)) (eC (.int 18)))) zaf))) (eCB zco (zaa (ex2 gNe (ex2 zbQ (zab 3) (zab 6)) (eC (.int 0))) zaf))) [c0,c1,some (.val (.lst (own.map .int))),some (.own (row.map .int)),some (.own (dk.map .int)),some (.val (.int (0+(k:Int)))),some (.val (.int at')),some (.val (.int v))]=some (.val (.int d)):=by
  have q1:=modI (E:=ex2 zbQ (zab 3) (zab 6)) (δ:=[c0,c1,some (.val (.lst (own.map .int))),some (.own (row.map .int)),some (.own (dk.map .int)),some (.val (.int (0+(k:Int)))),some (.val (.int at')),some (.val (.int v))]) (ixLW rfl rfl rw') pow18 (by decide)
  generalize ex2 zbO (ex2 zbQ (zab 3) (zab 6)) (ex2 gPow (eC (.int 10)) (eC (.int 18)))=EE at q1 ⊢
  by_cases hz:r=0
  ·refine⟨v * v % 2147483629,?_⟩
   have a0:atI [D.int (v * v % 2147483629),D.int (r % 1000000000000000000)] 0=some (.int (v * v % 2147483629)):=rfl
   simp (disch:=omega) only[ex2,zce,zaa,zab,jqf,jqe,zeB,pI,iOf,jqa,hv,jrc,zae,eC,zbO,zbA,q1,hz,zaf,jqc,jqp,jqq,Nat.reduceLeDiff,zd2,asV,jra,eCB,zbQ,asL,rw',gNe,zhi,jqy,jqt,zco,jqr,jrb]
   rw[hz] at a0
   simp only[a0,Option.map_some]
  ·refine⟨r % 1000000000000000000,?_⟩
   have a0:atI [D.int (v * v % 2147483629),D.int (r % 1000000000000000000)] 1=some (.int (r % 1000000000000000000)):=rfl
   simp (disch:=omega) only[ex2,zce,zaa,zab,jqf,jqe,zeB,pI,iOf,jqa,hv,jrc,zae,eC,zbO,zbA,q1,zaf,jqc,jqp,jqq,Nat.reduceLeDiff,zd2,asV,jra,eCB,zbQ,asL,rw',gNe,zhi,hz,jqz,jqu,zco,a0]
 obtain⟨d,s3⟩:=s3
 have s4:=divB (E:=ex2 zbQ (zab 3) (zab 6)) (δ:=[c0,c1,some (.val (.lst (own.map .int))),some (.own (row.map .int)),some (.own (dk.map .int ++ [.int d])),some (.val (.int (0+(k:Int)))),some (.val (.int at')),some (.val (.int v))]) (ixLW rfl rfl rw') pow18 (by decide)
 refine⟨row.set at'.toNat (r / 1000000000000000000),d,some (.val (.int at')),some (.val (.int v)),by rw[List.length_set];exact hr,?_⟩
 refine(show zbk _=_ from zaU (zdT s1)).trans ((zaU (zdT s2)).trans ((zaU (fAppI rfl s3 hdl)).trans ?_))
 rw[List.map_append,List.map_cons,List.map_nil,List.map_set]
 show fSIx 3 (zab 6) _ [c0,c1,some (.val (.lst (own.map .int))),some (.own (row.map .int)),some (.own (dk.map .int ++ [.int d])),some (.val (.int (0+(k:Int)))),some (.val (.int at')),some (.val (.int v))]=_
 unfold fSIx
 simp only[List.getElem?_cons_zero,List.getElem?_cons_succ,s4,Option.bind_some,asV]
 simp only[zab,jqf,jqe,jqa,iOf,jqh,jqg,ix,jqc]
theorem deck_loop(c0 c1:Option Ent)(own row:List Int)(n:Nat)(h0:0<own.length)(hr:row.length=own.length)(hn:n<=1000):∃ (row' dk:List Int) (y5 y6 y7:Option Ent),dk.length=n /\
  loop (gNm 5) zbk ((List.range n).map fun(i:Nat)=>D.int (0+(i:Int))) [c0,c1,some (.val (.lst (own.map .int))),some (.own (row.map .int)),some (.own []),none,none,none] =
  some (.nx [c0,c1,some (.val (.lst (own.map .int))),some (.own (row'.map .int)),some (.own (dk.map .int)),y5,y6,y7]):=by
 obtain⟨δ',w1,row',dk,y5,y6,y7,_,h1,rfl⟩:=zbt (tg:=gNm 5) (f:=zbk) (fun k δ=>∃ (row' dk:List Int) (y5 y6 y7:Option Ent),row'.length=own.length/\dk.length=k/\δ=[c0,c1,some (.val (.lst (own.map .int))),some (.own (row'.map .int)),some (.own (dk.map .int)),y5,y6,y7])
  ((List.range n).map fun(i:Nat)=>D.int (0+(i:Int))) 0 [c0,c1,some (.val (.lst (own.map .int))),some (.own (row.map .int)),some (.own []),none,none,none] (fun k d δ hd hδ=>by
   obtain⟨row',dk,y5,y6,y7,e1,e2,rfl⟩:=hδ
   have hk:k<n:=by have:=(List.getElem?_eq_some_iff.mp hd).1;simpa using this
   rw[List.getElem?_map,List.getElem?_range hk] at hd
   cases hd
   obtain⟨row2,d,z6,z7,f1,f2⟩:=deck_turn c0 c1 own row' dk k y6 y7 h0 e1 (by lia) (by lia)
   exact⟨_,_,rfl,.inl f2,row2,dk ++ [d],_,z6,z7,f1,by rw[List.length_append,e2];rfl,rfl⟩) ⟨row,[],none,none,none,hr,rfl,rfl⟩
 exact⟨row',dk,y5,y6,y7,by simpa using h1,w1⟩
theorem deck_comp(own:List Int)(δ:En):zc2 (fun d=>zfr (cEn [] δ d)) (fun d=>zbj (cEn [] δ d)) (own.map D.int)=some ((own.map fun c=>c * (if c ≥ 1000000000000000000 then 1 else 0)).map D.int):=by
 induction own with
 | nil=>rfl
 | cons x xs ih=>
  rw[List.map_cons,zc2,ih]
  have q:zbj (cEn [] δ (D.int x))=some (.val (.int (x * (if x ≥ 1000000000000000000 then 1 else 0)))):=by
   unfold zbj cEn
   have p:=pow18 (δ:=some (Ent.val (D.int x)) :: [])
   have b1:b64 1:=zem (by decide)
   have b0:b64 0:=zem (by decide)
   generalize ex2 gPow (eC (.int 10)) (eC (.int 18))=EE at p ⊢
   by_cases hx:x ≥ 1000000000000000000
   ·simp only[ex2,zab,jqo,jqe,eCB,zaa,p,gGe,pI0,iOf,jqa,jqc,hx,jqy,zaf,zco,jra,zeB,pI,Int.reduceNeg,Int.reduceLT,jre,zdB,jrc,zae]
   ·simp only[ex2,zab,jqo,jqe,eCB,zaa,p,gGe,pI0,iOf,jqa,jqc,hx,jqz,zaf,zco,jqr,jrb,zeB,pI,Int.reduceNeg,Int.reduceLT,jre,zdB,jrc,zae]
  rw[q]
  rfl
theorem deck_ok(ns:List Int)(hn:ns.length<=63):∃ dk:List Int,dk.length=40/\zbz [.lst (ns.map .int),.int 40]=some (.own (dk.map .int)):=by
 obtain⟨own,h0,h1,s1⟩:∃ own:List Int,0<own.length/\own.length<=64/\(ex2 gCat (eCB zc6 (zaa (zab 0) zaf)) (ex2 gRep (zce (zaa (eC (.int 0)) zaf)) (eCB zco (zaa (ex2 gEq (eCB zbN (zaa (zab 0) zaf)) (eC (.int 0))) zaf)))) [some (.bor (ns.map .int)),some (.val (.int 40)),none,none,none,none,none,none]=some (.own (own.map .int)):=by
  have hl:(ns.map D.int).length=ns.length:=List.length_map _
  by_cases hz:ns.length=0
  ·refine⟨[0],by decide,by decide,?_⟩
   have hnil:ns=[]:=List.length_eq_zero_iff.mp hz
   subst hnil
   have hr:gRep (.own [.int 0]) (.val (.int 1))=some (.own [.int 0]):=by simp (decide:=true) only[gRep,asLt,iOf,Int.reduceNeg,jqa,jrf,zae];rfl
   simp (disch:=omega) only[ex2,eCB,zaa,zab,jqo,jqe,zaf,jqc,jqa,zc6,zdx,asL,zce,eC,jqp,jqq,Nat.reduceLeDiff,zd2,asV,jra,zbN,Int.ofNat_zero,gEq,zhi,jqy,zco,hr,gCat,asLt,zbg,jqj,zae,jqn]
  ·refine⟨ns,by lia,by lia,?_⟩
   have hz':¬ (ns.length:Int)=0:=by lia
   have hr:gRep (.own [.int 0]) (.val (.int 0))=some (.own []):=by simp (decide:=true) only[gRep,asLt,iOf,Int.reduceNeg,jqa,jrf,zae];rfl
   simp (disch:=omega) only[ex2,eCB,zaa,zab,jqe,zaf,jqc,jqa,zc6,zdx,asL,zce,eC,jqp,jqq,Nat.reduceLeDiff,zd2,asV,jra,zbN,hl,gEq,zhi,hz',jqz,zco,jqr,jrb,hr,gCat,asLt,jqk,zbg,zae]
 obtain⟨row',dk,y5,y6,y7,h2,s3⟩:=deck_loop (some (.bor (ns.map .int))) (some (.val (.int 40))) own (own.map fun c=>c * (if c ≥ 1000000000000000000 then 1 else 0)) 40 h0 (by simp) (by decide)
 have s2:eLC [] (iL (zab 2)) zfr zbj [some (.bor (ns.map .int)),some (.val (.int 40)),some (.val (.lst (own.map .int))),none,none,none,none,none]=some (.own ((own.map fun c=>c * (if c ≥ 1000000000000000000 then 1 else 0)).map .int)):=
  zfm rfl (deck_comp own _) (by simp;lia)
 refine⟨dk.reverse,by rw[List.length_reverse];exact h2,?_⟩
 suffices hF:zci [some (.bor (ns.map .int)),some (.val (.int 40)),none,none,none,none,none,none]=some (.rt (.own (dk.reverse.map .int)) [some (.bor (ns.map .int)),some (.val (.int 40)),some (.val (.lst (own.map .int))),some (.own (row'.map .int)),some (.own (dk.map .int)),y5,y6,y7]) from (congrArg (fun o=>Option.bind o _) hF).trans rfl
 have hb:b62 40:=zbT (by decide)
 generalize own.map D.int=ow at *
 generalize (own.map fun c=>c * (if c ≥ 1000000000000000000 then 1 else 0)).map D.int=rw0 at *
 refine(show zci _=_ from zaU (zex s1)).trans ?_
 simp only[fFrz,List.set_cons_succ,List.set_cons_zero,List.getElem?_cons_zero,List.getElem?_cons_succ]
 refine(zaU (zex s2)).trans ((zaU (zex (show zce zaf _=some (.own []) from rfl))).trans ((forN (ds:=(List.range 40).map fun(i:Nat)=>D.int (0+(i:Int))) ?_ s3).trans ?_))
 ·simp only[iR1,zaa,zab,jqf,jqe,zaf,jqc,jqa,iOf,Int.reduceNeg,Int.reduceLT,jre,zcG,zae];rfl
 ·rw[List.map_reverse];rfl
theorem xP_i{fe:FE}{δ:En}{d:D}(h:fe δ=some (.val d)):xP fe δ=some (d,δ):=by unfold xP;rw[h];rfl
theorem xC_i{fe:FXE}{fa:FXA}{δ δ1 δ2:En}{d:D}{ds:List D}(h1:fe δ=some (d,δ1))(h2:fa δ1=some (ds,δ2)):zbr fe fa δ=some (d :: ds,δ2):=by
 unfold zbr;rw[h1];simp only[Option.bind_some];rw[h2];rfl
theorem xCO_i{i:Nat}{g:GM}{fs:FXA}{δ δ1:En}{o0 o o':OT}{ds:List D}{d:D}(h0:oAt i δ=some o0)(h1:fs δ=some (ds,δ1))(h2:oAt i δ1=some o)(h3:g o ds=some (d,o')):xCO i g fs δ=some (d,δ1.set i (some (.obj o'))):=by
 unfold xCO;rw[h0];simp only[Option.bind_some];rw[h1];simp only[Option.bind_some];rw[h2];simp only[Option.bind_some];rw[h3];rfl
theorem zd0{i:Nat}{fx:FXE}{δ δ1:En}{d:D}(h:fx δ=some (d,δ1)):zd6 i fx δ=some (.nx (δ1.set i (some (.val d)))):=by unfold zd6;rw[h];rfl
theorem fXRet_i{fx:FXE}{δ δ1:En}{d:D}(h:fx δ=some (d,δ1)):fXRet fx δ=some (.rt (.val d) δ1):=by unfold fXRet;rw[h];rfl
theorem pop_i(dk:List Int)(h:0<dk.length)(i:Nat){δ:En}(hi:oAt i δ=some (.lst (dk.map .int))):∃ d:Int,xPop i δ=some (.int d,δ.set i (some (.obj (.lst (dk.dropLast.map .int))))):=by
 refine⟨dk[dk.length - 1],?_⟩
 unfold xPop
 rw[hi]
 simp only[Option.bind_some,lOf,List.length_map,List.getElem?_map,List.getElem?_eq_getElem (show dk.length - 1<dk.length by lia),Option.map_some,List.map_dropLast]
theorem alphl:("abcdefghijklmnopqrstuvwxyz" : Str).length=26:=by decide +kernel
theorem sign_ok(turn num:Int)(h:0<=turn/\turn<208)(hn:0<=num/\num<10):∃ c,zbn [.int turn,.int num]=some (.val (.str (mkS [c]))):=by
 have b1:b64 num:=zem (by lia)
 have i0:0<=(turn+num * (1+turn / 26 % 8)) % 26:=by lia
 have i1:(turn+num * (1+turn / 26 % 8)) % 26<26:=by lia
 have ha:atI ("abcdefghijklmnopqrstuvwxyz" : Str).cps.toList ((turn+num * (1+turn / 26 % 8)) % 26)=some (97+(List.range 26).getD ((turn+num * (1+turn / 26 % 8)) % 26).toNat 0):=by
  rw[alph]
  exact zdl (fun i=>97+i) 0 i0 (by simp;lia)
 refine⟨97+(List.range 26).getD ((turn+num * (1+turn / 26 % 8)) % 26).toNat 0,?_⟩
 simp (disch:=omega) only[zbn,zc9,stE,stN,jqc,jqa,zcS,zb7,ex2,eC,zab,List.replicate,jqk,zd3,pI,iOf,zcY,zae,zbO,zbA,zbX,pI0,zeB,zhh,sOf,alphl,zbg,toN,jqe,jqf,zdB,jrc,ha,zf7]
section
open PySem.Spec PyProof.Rows
theorem zf5:∀ a b:List Nat,ltCps a b=false \/ ltCps b a=false
 | [],[]=>.inl rfl
 | [],_ :: _=>.inr rfl
 | _ :: _,[]=>.inl rfl
 | a :: r,b :: t=>by
  simp only[ltCps,Bool.or_eq_false_iff,decide_eq_false_iff_not,Bool.and_eq_false_imp,beq_iff_eq]
  by_cases e:a=b
  ·exact(zf5 r t).imp (fun h=>⟨by lia,fun _=>h⟩) fun h=>⟨by lia,fun _=>h⟩
  ·by_cases c:a<b
   ·exact .inr ⟨by lia,fun z=>by lia⟩
   ·exact .inl ⟨by lia,fun z=>by lia⟩
theorem srt_ok(zs:List Str):(TS.srt zs).Perm zs:=by
 have h:=List.pairwise_mergeSort (le:=fun a b:Str=>!ltCps b.cps.toList a.cps.toList) (fun a b c h1 h2=>by
  rw[Bool.not_eq_true'] at *
  exact TS.lt_trans _ _ _ h1 h2) (fun a b=>by
  rcases zf5 b.cps.toList a.cps.toList with h | h
  ·rw[h];rfl
  ·rw[h,Bool.not_false,Bool.or_true]) zs
 have p:=List.mergeSort_perm zs (fun a b:Str=>!ltCps b.cps.toList a.cps.toList)
 rw[TS.srt_eq (h.imp fun {a b} z=>(Bool.not_eq_true' _).mp z) p]
 exact p
end
theorem ddp_ok:∀ (zs acc:List Str),acc.Nodup->(zs.foldl TS.put acc).Nodup/\(∀ z,z ∈ zs.foldl TS.put acc ↔ z ∈ acc \/ z ∈ zs)/\(zs.foldl TS.put acc).length<=acc.length+zs.length
 | [],acc,h=>⟨h,fun z=>by simp,by simp⟩
 | y :: zs,acc,h=>by
  have hp:(TS.put acc y).Nodup/\(∀ z,z ∈ TS.put acc y ↔ z ∈ acc \/ z=y)/\(TS.put acc y).length<=acc.length+1:=by
   unfold TS.put
   by_cases c:y ∈ acc
   ·rw[if_pos c]
    exact⟨h,fun z=>⟨.inl,fun q=>q.elim id fun e=>e ▸ c⟩,Nat.le_succ _⟩
   ·rw[if_neg c]
    exact⟨List.nodup_append.mpr ⟨h,by simp,fun a ha b hb e=>c (by rw[List.mem_singleton.mp hb] at e;exact e ▸ ha)⟩,fun z=>by simp,by simp⟩
  obtain⟨i1,i2,i3⟩:=ddp_ok zs (TS.put acc y) hp.1
  refine⟨i1,fun z=>?_,?_⟩
  ·rw[List.foldl_cons,i2,hp.2.1,List.mem_cons,or_assoc]
  ·rw[List.foldl_cons,List.length_cons]
   have:=hp.2.2
   lia
theorem words_ok(zs:List (List Nat))(hz:zs.length<=60):∃ ys:List (List Nat),ssO (zs.map mkS)=some (.own (ys.map fun u=>.str (mkS u)))/\ys.Nodup/\(∀ u,u ∈ ys ↔ u ∈ zs)/\ys.length<=60:=by
 obtain⟨d1,d2,d3⟩:=ddp_ok (zs.map mkS) [] .nil
 have d3':(TS.ddp (zs.map mkS)).length<=60:=by
  have:(TS.ddp (zs.map mkS)).length<=([]:List Str).length+(zs.map mkS).length:=d3
  simp only[List.length_nil,List.length_map] at this
  lia
 have p:=srt_ok (TS.ddp (zs.map mkS))
 have bk:∀ l:List Str,(l.map fun s=>s.cps.toList).map mkS=l:=fun l=>by
  rw[List.map_map]
  exact(List.map_congr_left fun s _=>mkS_cps s).trans (List.map_id l)
 refine⟨(TS.srt (TS.ddp (zs.map mkS))).map fun s=>s.cps.toList,?_,?_,fun u=>?_,by rw[List.length_map,p.length_eq];exact d3'⟩
 ·unfold ssO
  rw[gif_pos ⟨by rw[List.length_map];lia,by lia⟩]
  congr 2
  have:=congrArg (List.map D.str) (bk (TS.srt (TS.ddp (zs.map mkS))))
  rw[List.map_map] at this
  exact this.symm
 ·have nd:(TS.srt (TS.ddp (zs.map mkS))).Nodup:=p.nodup_iff.mpr d1
  refine List.Pairwise.of_map (S:=(· ≠ ·)) mkS (fun a b h e=>h (by rw[e])) ?_
  rw[bk]
  exact nd
 ·rw[List.mem_map]
  constructor
  ·rintro⟨s,hs,rfl⟩
   rcases (d2 s).mp (p.mem_iff.mp hs) with h | h
   ·cases h
   ·obtain⟨v,hv,e⟩:=List.mem_map.mp h
    rw[<- e,zdP]
    exact hv
  ·intro h
   exact⟨mkS u,p.mem_iff.mpr ((d2 _).mpr (.inr (List.mem_map.mpr ⟨u,h,rfl⟩))),zdP u⟩
theorem zfv{f:D->D->Option Bool}:∀ {ds:List D},(∀ d ∈ ds,f d d=some true)->zff f ds ds=some true
 | [],_=>rfl
 | d :: ds,h=>by
  show((f d d).bind fun b=>(zff f ds ds).map fun c=>b && c)=_
  rw[h d List.mem_cons_self,zfv fun e he=>h e (List.mem_cons_of_mem _ he)]
  rfl
theorem eq_prs(ps:List (Int × Str)):zff (eqD 8) (ps.map prD) (ps.map prD)=some true:=by
 refine zfv fun d hd=>?_
 obtain⟨p,_,rfl⟩:=List.mem_map.mp hd
 simp[prD,eqD,zff,flD,eqF]
theorem told_turn(t u:List Nat)(most:Int)(ht:t.length<=900)(hu:u.length<=900)(b ws:Option Ent)(fs:List (Int × Str))(hf:fs.length<=1000)(x6:Option Ent):∃ y6,
  zbC [b,ws,some (.val (.str (mkS t))),some (.val (.int most)),some (.own (fs.map prD)),some (.val (.str (mkS u))),x6,none,none]=some (.nx [b,ws,some (.val (.str (mkS t))),some (.val (.int most)),some (.own ((fs ++ if inR t most u=true then [prE t u] else []).map prD)),some (.val (.str (mkS u))),y6,none,none]):=by
 have lp:=lprice_eq t u ht hu
 rw[ed_swap u t] at lp
 refine⟨some (.val (.int (ed u t))),?_⟩
 refine(show zbC _=_ from zaU (zdT ((zfz (X:=zab 2) (Y:=zab 5) (a:=.str (mkS t)) (b:=.str (mkS u)) rfl rfl).trans lp))).trans ?_
 by_cases c:ed u t<=most
 ·have ci:inR t most u=true:=decide_eq_true c
  rw[ci,if_pos rfl,List.map_append,List.map_cons,List.map_nil]
  have hz:(fs.map prD).length<1000000:=by rw[List.length_map];lia
  generalize fs.map prD=FS at *
  refine(fIfT ?_).trans (fAppI (v:=prD (prE t u)) rfl rfl hz)
  simp only[tOf,ex2,zab,jqh,jqg,jqf,jqe,gLe,pI0,iOf,jqa,jqc,c,jqy,bOf]
 ·have ci:inR t most u=false:=decide_eq_false c
  rw[ci,if_neg Bool.false_ne_true,List.append_nil]
  generalize fs.map prD=FS at *
  refine(fIfF ?_).trans rfl
  simp only[tOf,ex2,zab,jqh,jqg,jqf,jqe,gLe,pI0,iOf,jqa,jqc,c,jqz,bOf]
theorem zfy(t:List Nat)(most:Int)(ht:t.length<=900)(b ws:Option Ent):∀ (ys:List (List Nat)) (fs:List (Int × Str)) (x5 x6:Option Ent),(∀ u ∈ ys,u.length<=900)->fs.length+ys.length<=1000->∃ y5 y6,
  loop (gNm 5) zbC (ys.map fun u=>D.str (mkS u)) [b,ws,some (.val (.str (mkS t))),some (.val (.int most)),some (.own (fs.map prD)),x5,x6,none,none]=some (.nx [b,ws,some (.val (.str (mkS t))),some (.val (.int most)),some (.own ((fs ++ (ys.filter (inR t most)).map (prE t)).map prD)),y5,y6,none,none])
 | [],fs,x5,x6,_,_=>⟨x5,x6,by simp only[List.filter_nil,List.map_nil,List.append_nil];rfl⟩
 | u :: ys,fs,x5,x6,h1,h2=>by
  rw[List.length_cons] at h2
  obtain⟨y6,e1⟩:=told_turn t u most ht (h1 u List.mem_cons_self) b ws fs (by lia) x6
  have hfl:(if inR t most u=true then [prE t u] else []).length<=1:=by split <;> simp
  obtain⟨z5,z6,e2⟩:=zfy t most ht b ws ys (fs ++ if inR t most u=true then [prE t u] else []) (some (.val (.str (mkS u)))) y6 (fun v hv=>h1 v (List.mem_cons_of_mem _ hv)) (by rw[List.length_append];lia)
  refine⟨z5,z6,(zc3 rfl e1).trans (e2.trans ?_)⟩
  rw[List.append_assoc,List.filter_cons]
  cases inR t most u <;> rfl
theorem zen(bo:Option Ent)(c1 c2 c3 c4 c5 c6 c7:Option Ent):∀ (ps:List (Int × Str)) (x8:Option Ent),∃ y8,loop (gNm 8) zca (ps.map prD) [bo,c1,c2,c3,c4,c5,c6,c7,x8]=some (.nx [bo,c1,c2,c3,c4,c5,c6,c7,y8])
 | [],x8=>⟨x8,rfl⟩
 | p :: ps,x8=>by
  obtain⟨y8,e⟩:=zen bo c1 c2 c3 c4 c5 c6 c7 ps (some (.val (prD p)))
  refine⟨y8,(zc3 (δ2:=[bo,c1,c2,c3,c4,c5,c6,c7,some (.val (prD p))]) rfl ?_).trans e⟩
  have ha:atI [D.int p.1,D.str p.2] 0=some (.int p.1):=rfl
  refine(show zca _=_ from fIfF ?_).trans rfl
  unfold prD
  simp (decide:=true) only[fOr,fNot,tOf,ex1,zab,jqh,jqg,jqf,jqe,jqa,gIsi,obD,jqr,isiD,tyN,jrb,bOf,jqc,ex2,eC,zeW,zdx,iOf,ha]
theorem told_ok(top:OT)(us zs:List (List Nat))(t:List Nat)(most:Int)(ht:t.length<=900)(hn:us.Nodup)(hm:∀ u,u ∈ us ↔ u ∈ zs)(hz:zs.length<=60)(hl:∀ u ∈ zs,u.length<=900)
  (near:za8 (bkO top) [.str (mkS t),.int most]=some (.tup ((zd1 ((us.filter (inR t most)).map (prE t))).map prD),bkO top)) :
  zaQ (bkO top) [.lst (zs.map fun u=>.str (mkS u)),.str (mkS t),.int most]=some (.bl true,bkO top):=by
 obtain⟨ys,q1,q2,q3,hyl⟩:=words_ok zs hz
 obtain⟨y5,y6,lp⟩:=zfy t most ht (some (.obj (bkO top))) (some (.val (.lst (zs.map fun u=>.str (mkS u))))) ys [] none none (fun u hu=>hl u ((q3 u).mp hu)) (by simp;lia)
 rw[List.nil_append,List.map_nil] at lp
 have pm:us.Perm ys:=(List.perm_ext_iff_of_nodup hn q2).mpr fun u=>(hm u).trans (q3 u).symm
 have es:zd1 ((ys.filter (inR t most)).map (prE t))=zd1 ((us.filter (inR t most)).map (prE t)):=(zdZ ((zcq _).trans ((pm.filter _).map _)) (zfJ _)).symm
 have hfl:((ys.filter (inR t most)).map (prE t)).length<=60:=by
  rw[List.length_map]
  have:=List.length_filter_le (inR t most) ys
  lia
 have hsl:(zd1 ((us.filter (inR t most)).map (prE t))).length<=60:=by rw[<- es,(zcq _).length_eq];exact hfl
 obtain⟨y8,lp2⟩:=zen (some (.obj (bkO top))) (some (.val (.lst (zs.map fun u=>.str (mkS u))))) (some (.val (.str (mkS t)))) (some (.val (.int most))) (some (.own (((ys.filter (inR t most)).map (prE t)).map prD))) y5 y6 (some (.val (.tup ((zd1 ((us.filter (inR t most)).map (prE t))).map prD)))) (zd1 ((us.filter (inR t most)).map (prE t))) none
 have sz:zfK (zs.map fun u=>D.str (mkS u))=some (zs.map mkS):=by
  rw[show(zs.map fun u=>D.str (mkS u))=(zs.map mkS).map D.str by rw[List.map_map];rfl]
  exact strsD_map _
 have it:iL (ex1 zc0 (zab 1)) [some (.obj (bkO top)),some (.val (.lst (zs.map fun u=>.str (mkS u)))),some (.val (.str (mkS t))),some (.val (.int most)),some (.own []),none,none,none,none]=some (ys.map fun u=>D.str (mkS u)):=by
  generalize (zs.map fun u=>D.str (mkS u))=ZS at *
  simp only[iL,ex1,zab,jqf,jqe,jqa,zc0,asL,sz,q1]
 have pr:=zez ((ys.filter (inR t most)).map (prE t))
 generalize hY:(ys.filter (inR t most)).map (prE t)=Y at *
 generalize hU:zd1 ((us.filter (inR t most)).map (prE t))=U at *
 have eq:=eq_prs U
 have xm:xM 0 "Book" ["top"] za8 (zaa (zab 2) (zaa (zab 3) zaf)) [some (.obj (bkO top)),some (.val (.lst (zs.map fun u=>.str (mkS u)))),some (.val (.str (mkS t))),some (.val (.int most)),some (.own (Y.map prD)),y5,y6,none,none]=some (.tup (U.map prD),[some (.obj (bkO top)),some (.val (.lst (zs.map fun u=>.str (mkS u)))),some (.val (.str (mkS t))),some (.val (.int most)),some (.own (Y.map prD)),y5,y6,none,none]):=by
  have ic:isC "Book" ["top"] (bkO top)=some [top]:=zcB
  show((oAt 0 [some (.obj (bkO top)),some (.val (.lst (zs.map fun u=>.str (mkS u)))),some (.val (.str (mkS t))),some (.val (.int most)),some (.own (Y.map prD)),y5,y6,none,none]).bind fun o=>(isC "Book" ["top"] o).bind fun _=>_)=_
  show((isC "Book" ["top"] (bkO top)).bind fun _=>_)=_
  rw[ic]
  show((za8 (bkO top) [.str (mkS t),.int most]).map _)=_
  rw[near]
  rfl
 have hF:zbY [some (.obj (bkO top)),some (.val (.lst (zs.map fun u=>.str (mkS u)))),some (.val (.str (mkS t))),some (.val (.int most)),none,none,none,none,none]=some (.rt (.val (.bl true)) [some (.obj (bkO top)),some (.val (.lst (zs.map fun u=>.str (mkS u)))),some (.val (.str (mkS t))),some (.val (.int most)),some (.own (Y.map prD)),y5,y6,some (.val (.tup (U.map prD))),y8]):=by
  refine(show zbY _=_ from zaU (zex (show zce zaf _=some (.own []) from rfl))).trans ((forN it lp).trans ((zaU (zd0 xm)).trans ?_))
  have hYl:Y.length<64:=by lia
  have hUl:(U.map prD).length<=1000000:=by rw[List.length_map];lia
  have tst:fOr (fNot (tOf (ex1 (gIsi "tuple") (zab 7)))) (tOf (ex2 gNeD (eCB zc6 (zaa (zab 7) zaf)) (eCB zfL (zaa (zab 4) zaf)))) [some (.obj (bkO top)),some (.val (.lst (zs.map fun u=>.str (mkS u)))),some (.val (.str (mkS t))),some (.val (.int most)),some (.own (Y.map prD)),y5,y6,some (.val (.tup (U.map prD))),none]=some false:=by
   generalize hPY:Y.map prD=PY at *
   generalize hPU:U.map prD=PU at *
   simp (decide:=true) only[fOr,fNot,tOf,ex1,zab,jqf,jqe,jqa,gIsi,obD,jqr,isiD,tyN,jrb,bOf,jqc,ex2,eCB,zaa,zaf,zc6,zdx,zfL,asL,pr,hYl,es,zae,gNeD,sqOf]
   rw[hPU,eq]
   rfl
  refine(zaU (fIfF tst)).trans ((forN (show iT (zab 7) _=some (U.map prD) from rfl) lp2).trans rfl)
 unfold zaQ zfI
 rw[if_pos (show [D.lst (zs.map fun u=>.str (mkS u)),.str (mkS t),.int most].length=3 from rfl)]
 show(zbY [some (.obj (bkO top)),some (.val (.lst (zs.map fun u=>.str (mkS u)))),some (.val (.str (mkS t))),some (.val (.int most)),none,none,none,none,none]).bind endM=_
 rw[hF]
 rfl
theorem xP_o{fe:FE}{δ:En}{ds:List D}(h:fe δ=some (.own ds)):xP fe δ=some (.lst ds,δ):=by unfold xP;rw[h];rfl
theorem x2_o{g:Ent->Ent->Option Ent}{fa fb:FXE}{δ δ1 δ2:En}{a b:D}{ds:List D}(h1:fa δ=some (a,δ1))(h2:fb δ1=some (b,δ2))(h3:g (.val a) (.val b)=some (.own ds)):x2 g fa fb δ=some (.lst ds,δ2):=by
 unfold x2;rw[h1];simp only[Option.bind_some];rw[h2];simp only[Option.bind_some,h3,asV,Option.map_some]
theorem put_none(w:List Nat):za2 (bkO (.val .non)) [.str (mkS w)]=some (.bl true,bkO (mkK (mkS w) [] [])):=by
 have ic:isC "Book" ["top"] (bkO (.val .non))=some [.val .non]:=zcB
 have h1:eFIs 0 "Book" ["top"] 0 [some (.obj (bkO (.val .non))),some (.val (.str (mkS w)))]=some (.val (.bl true)):=by
  show(((isC "Book" ["top"] (bkO (.val .non)))).bind _)=_
  rw[ic]
  rfl
 have h2:zdy "Knot" zan (zaa (zab 1) zaf) [some (.obj (bkO (.val .non))),some (.val (.str (mkS w)))]=some (.obj (mkK (mkS w) [] [])):=by
  show((zan (.ins "Knot" [] []) [.str (mkS w)]).bind _)=_
  rw[kinit]
  rfl
 have h3:fFSet 0 "Book" ["top"] 0 (zdy "Knot" zan (zaa (zab 1) zaf)) [some (.obj (bkO (.val .non))),some (.val (.str (mkS w)))]=some (.nx [some (.obj (bkO (mkK (mkS w) [] []))),some (.val (.str (mkS w)))]):=by
  unfold fFSet
  rw[h2]
  show(((isC "Book" ["top"] (bkO (.val .non)))).bind _)=_
  rw[ic]
  rfl
 have hF:zbq [some (.obj (bkO (.val .non))),some (.val (.str (mkS w)))]=some (.rt (.val (.bl true)) [some (.obj (bkO (mkK (mkS w) [] []))),some (.val (.str (mkS w)))]):=
  (show zbq _=_ from fSeqR ((fIfT (by unfold tOf;rw[h1];rfl)).trans ((zaU h3).trans rfl)))
 unfold za2 zfI
 rw[if_pos (show [D.str (mkS w)].length=1 from rfl)]
 show(zbq [some (.obj (bkO (.val .non))),some (.val (.str (mkS w)))]).bind endM=_
 rw[hF]
 rfl
theorem put_some(w:List Nat){v:Str}{ks:List Int}{os:List OT}{b:Bool}{x':OT}(h:zds zah (mkS w) 1000 (mkK v ks os)=some (b,x')):za2 (bkO (mkK v ks os)) [.str (mkS w)]=some (.bl b,bkO x'):=by
 have ic:isC "Book" ["top"] (bkO (mkK v ks os))=some [mkK v ks os]:=zcB
 have h1:eFIs 0 "Book" ["top"] 0 [some (.obj (bkO (mkK v ks os))),some (.val (.str (mkS w)))]=some (.val (.bl false)):=by
  show(((isC "Book" ["top"] (bkO (mkK v ks os)))).bind _)=_
  rw[ic]
  rfl
 have hh:zd7 (mkK v ks os) [.str (mkS w)]=some (.bl b,x'):=by
  show((zds zah (mkS w) 1000 (mkK v ks os)).map fun p=>Out.rt (.val (.bl p.1)) [some (.obj p.2),some (.val (.str (mkS w))),none,none]).bind endM=_
  rw[h]
  rfl
 have h2:xCOF 0 "Book" ["top"] 0 zd7 (zaa (zab 1) zaf) [some (.obj (bkO (mkK v ks os))),some (.val (.str (mkS w)))]=some (.bl b,[some (.obj (bkO x')),some (.val (.str (mkS w)))]):=by
  show(((isC "Book" ["top"] (bkO (mkK v ks os)))).bind _)=_
  rw[ic]
  show((zd7 (mkK v ks os) [.str (mkS w)]).map _)=_
  rw[hh]
  rfl
 have hF:zbq [some (.obj (bkO (mkK v ks os))),some (.val (.str (mkS w)))]=some (.rt (.val (.bl b)) [some (.obj (bkO x')),some (.val (.str (mkS w)))]):=
  (show zbq _=_ from zaU ((fIfF (by unfold tOf;rw[h1];rfl)).trans rfl)).trans (fXRet_i h2)
 unfold za2 zfI
 rw[if_pos (show [D.str (mkS w)].length=1 from rfl)]
 show(zbq [some (.obj (bkO (mkK v ks os))),some (.val (.str (mkS w)))]).bind endM=_
 rw[hF]
 rfl
noncomputable def Bk(zs:List (List Nat))(top:OT):Prop:=(zs=[]/\top=.val .non) \/ ∃ n us,Kn n top us/\us.Nodup/\(∀ u,u ∈ us ↔ u ∈ zs)/\n<=zs.length+1/\us.length<=zs.length
theorem put_bk{zs:List (List Nat)}{top:OT}(h:Bk zs top)(hz:zs.length<=60)(hl:∀ u ∈ zs,u.length<=900)(w:List Nat)(hw:w.length<=900):∃ b top',za2 (bkO top) [.str (mkS w)]=some (.bl b,bkO top')/\Bk (zs ++ [w]) top':=by
 rcases h with ⟨rfl,rfl⟩ | ⟨n,us,h1,h2,h3,h4,h5⟩
 ·exact⟨true,_,put_none w,.inr ⟨1,[w],Kn.mk .nil,by simp,by simp,by simp,by simp⟩⟩
 ·obtain⟨b,x',us',q1,q2,q3⟩:=hang_kn w (by lia) n 1000 top us h1 (fun u hu=>by have:=hl u ((h3 u).mp hu);lia) (by lia) (by lia)
  refine⟨b,x',?_,.inr ⟨n+1,us',q2,?_⟩⟩
  ·obtain⟨_,_,_,_,_,_,rfl,_,_⟩:=h1.get
   exact put_some w q1
  ·rcases q3 with ⟨z1,rfl⟩ | ⟨z1,z2⟩
   ·refine⟨h2,fun u=>?_,by rw[List.length_append];simp only[List.length_cons,List.length_nil];lia,by rw[List.length_append];lia⟩
    rw[List.mem_append,List.mem_singleton,h3]
    exact⟨.inl,fun q=>q.elim id fun e=>(h3 u).mp (e ▸ z1)⟩
   ·refine⟨z2.nodup_iff.mpr (List.nodup_cons.mpr ⟨z1,h2⟩),fun u=>?_,by rw[List.length_append];simp only[List.length_cons,List.length_nil];lia,by rw[z2.length_eq,List.length_append,List.length_cons];simp only[List.length_cons,List.length_nil];lia⟩
    rw[z2.mem_iff,List.mem_cons,List.mem_append,List.mem_singleton,h3]
    exact Or.comm
theorem told_bk{zs:List (List Nat)}{top:OT}(h:Bk zs top)(hz:zs.length<=60)(hl:∀ u ∈ zs,u.length<=900)(t:List Nat)(ht:t.length<=900)(most:Int) :
  zaQ (bkO top) [.lst (zs.map fun u=>.str (mkS u)),.str (mkS t),.int most]=some (.bl true,bkO top):=by
 rcases h with ⟨rfl,rfl⟩ | ⟨n,us,h1,h2,h3,h4,h5⟩
 ·refine told_ok _ [] [] t most ht .nil (fun _=>Iff.rfl) hz hl ?_
  rw[near_none,List.filter_nil,List.map_nil,show zd1 []=[] from List.mergeSort_nil]
  rfl
 ·exact told_ok top us zs t most ht h2 h3 hz hl (near_eq n top us h1 (by lia) (fun u hu=>by have:=hl u ((h3 u).mp hu);lia) t (by lia) most)
theorem long_ok(c:Int):∃ L:Int,atI [D.int (c % 9),D.int (c % 5),D.int (c % 7)] (c / 45 % 3)=some (.int L)/\0<=L/\L<=8:=by
 have h:c / 45 % 3=0 \/ c / 45 % 3=1 \/ c / 45 % 3=2:=by lia
 rcases h with h | h | h <;> rw[h]
 ·exact⟨c % 9,rfl,by lia,by lia⟩
 ·exact⟨c % 5,rfl,by lia,by lia⟩
 ·exact⟨c % 7,rfl,by lia,by lia⟩
theorem word_turn(few turn c:Int)(t:List Nat)(x4 x5:Option Ent)(hf:2<=few/\few<=5)(ht:0<=turn/\turn<208)(hl:t.length<1000):∃ (ch:Nat) (c':Int),
  zbD [some (.val (.int c)),some (.val (.int few)),some (.val (.int turn)),some (.val (.str (mkS t))),x4,x5]=some (.nx [some (.val (.int c')),some (.val (.int few)),some (.val (.int turn)),some (.val (.str (mkS (t ++ [ch])))),x4,x5]):=by
 obtain⟨ch,hs⟩:=sign_ok turn (c % few) ht ⟨Int.emod_nonneg _ (by lia),by have:=Int.emod_lt_of_pos c (show 0<few by lia);lia⟩
 refine⟨ch,c / few,?_⟩
 have e1:ex2 zbO (zab 0) (zab 1) [some (.val (.int c)),some (.val (.int few)),some (.val (.int turn)),some (.val (.str (mkS t))),x4,x5]=some (.val (.int (c % few))):=modI rfl rfl (by lia)
 refine(show zbD _=_ from zaU (zdT (v:=.str (mkS (t ++ [ch]))) ?_)).trans (zdT (divI rfl rfl (by lia)))
 have e2:za4 [.v,.v] zbn (zaa (zab 2) (zaa (ex2 zbO (zab 0) (zab 1)) zaf)) [some (.val (.int c)),some (.val (.int few)),some (.val (.int turn)),some (.val (.str (mkS t))),x4,x5]=some (.val (.str (mkS [ch]))):=(zfz rfl e1).trans hs
 generalize za4 [.v,.v] zbn (zaa (zab 2) (zaa (ex2 zbO (zab 0) (zab 1)) zaf))=CC at e2 ⊢
 have hz:t.length+1<=1000000:=by lia
 simp only[ex2,zab,jqf,jqe,e2,gAddS,sOf,jqa,zch,jqp,jqq,hz,zbg,mkS_app,zae]
theorem word_ok(c few turn:Int)(hf:2<=few/\few<=5)(ht:0<=turn/\turn<208):∃ w:List Nat,w.length<=8/\zbx [.int c,.int few,.int turn]=some (.val (.str (mkS w))):=by
 obtain⟨L,hL,l0,l8⟩:=long_ok c
 obtain⟨δ',w1,t,c',x5,h1,rfl⟩:=zbt (tg:=gNm 5) (f:=zbD) (fun k δ=>∃ (t:List Nat) (c':Int) (x5:Option Ent),t.length=k/\δ=[some (.val (.int c')),some (.val (.int few)),some (.val (.int turn)),some (.val (.str (mkS t))),some (.val (.int L)),x5])
  ((List.range L.toNat).map fun(i:Nat)=>D.int (0+(i:Int))) 0 [some (.val (.int (c / 315))),some (.val (.int few)),some (.val (.int turn)),some (.val (.str (mkS []))),some (.val (.int L)),none] (fun k d δ hd hδ=>by
   obtain⟨t,c',x5,e1,rfl⟩:=hδ
   have hk:k<L.toNat:=by have:=(List.getElem?_eq_some_iff.mp hd).1;simpa using this
   obtain⟨ch,c2,e⟩:=word_turn few turn c' t (some (.val (.int L))) (some (.val d)) hf ht (by lia)
   exact⟨_,_,rfl,.inl e,t ++ [ch],c2,_,by rw[List.length_append,e1];rfl,rfl⟩) ⟨[],_,none,rfl,rfl⟩
 rw[List.length_map,List.length_range,Nat.zero_add] at h1
 refine⟨t,by lia,?_⟩
 have s2:ex2 zbQ (zce (zaa (ex2 zbO (zab 0) (eC (.int 9))) (zaa (ex2 zbO (zab 0) (eC (.int 5))) (zaa (ex2 zbO (zab 0) (eC (.int 7))) zaf)))) (ex2 zbO (ex2 zd3 (zab 0) (eC (.int 45))) (eC (.int 3))) [some (.val (.int c)),some (.val (.int few)),some (.val (.int turn)),some (.val (.str (mkS []))),none,none]=some (.val (.int L)):=by
  simp (disch:=omega) only[ex2,zce,zaa,zab,jqe,eC,zbO,pI,iOf,jqa,zbA,zae,zaf,jqc,jqp,jqq,Nat.reduceLeDiff,zd2,asV,jra,zd3,zcY,zbQ,asL,hL]
 have ir:iR1 (zaa (zab 4) zaf) [some (.val (.int (c / 315))),some (.val (.int few)),some (.val (.int turn)),some (.val (.str (mkS []))),some (.val (.int L)),none]=some ((List.range L.toNat).map fun(i:Nat)=>D.int (0+(i:Int))):=by
  have hb:b62 L:=zbT (by lia)
  simp only[iR1,zaa,zab,jqf,jqe,zaf,jqc,jqa,iOf,hb,zae]
 suffices hF:∃ δ,zcf [some (.val (.int c)),some (.val (.int few)),some (.val (.int turn)),none,none,none]=some (.rt (.val (.str (mkS t))) δ) from
  hF.elim fun _ h=>(congrArg (fun o=>Option.bind o _) h).trans rfl
 exact⟨_,(show zcf _=_ from zaU (zdT (v:=.str (mkS [])) rfl)).trans ((zaU (zdT s2)).trans ((zaU (zdT (divI rfl rfl (by decide)))).trans ((forN ir w1).trans rfl)))⟩
theorem lcX_ok{fr:List Nat}{i j:Nat}{fx:FXE}(δ:En)(hi:i<δ.length)(el:∀ (dk:List Int) (d:D),0<dk.length->∃ w:List Nat,w.length<=8/\∃ δc,fx (cEnX fr i (δ.set i (some (.obj (.lst (dk.map .int))))) d)=some (.str (mkS w),δc)/\oAt (j+1) δc=some (.lst (dk.dropLast.map .int))) :
  ∀ (ds:List D) (dk:List Int),ds.length<=dk.length->∃ (ws:List (List Nat)) (dk':List Int),ws.length=ds.length/\(∀ w ∈ ws,w.length<=8)/\dk'.length=dk.length - ds.length/\lcX fr i j fx ds (δ.set i (some (.obj (.lst (dk.map .int)))))=some (ws.map fun w=>.str (mkS w),δ.set i (some (.obj (.lst (dk'.map .int)))))
 | [],dk,_=>⟨[],dk,rfl,(fun _ h=>by cases h),rfl,rfl⟩
 | d :: ds,dk,h=>by
  rw[List.length_cons] at h
  obtain⟨w,hw,δc,e1,e2⟩:=el dk d (by lia)
  obtain⟨ws,dk',q1,q2,q3,q4⟩:=lcX_ok δ hi el ds dk.dropLast (by rw[List.length_dropLast];lia)
  refine⟨w :: ws,dk',by rw[List.length_cons,List.length_cons,q1],fun v hv=>?_,by rw[q3,List.length_dropLast,List.length_cons];lia,?_⟩
  ·rcases List.mem_cons.mp hv with e | e
   ·rw[e];exact hw
   ·exact q2 v e
  ·show((fx (cEnX fr i (δ.set i (some (.obj (.lst (dk.map .int))))) d)).bind fun p=>((oAt (j+1) p.2).bind lOf).bind fun es=>_)=_
   rw[e1]
   show(((oAt (j+1) δc).bind lOf).bind fun es=>_)=_
   rw[e2]
   show((lcX fr i j fx ds ((δ.set i (some (.obj (.lst (dk.map .int))))).set i (some (.obj (.lst (dk.dropLast.map .int)))))).map _)=_
   rw[List.set_set,q4]
   rfl
theorem xC3{g:List D->Option Ent}{fa fb fc:FXE}{δ δ1 δ2 δ3:En}{a b c d:D}(h1:fa δ=some (a,δ1))(h2:fb δ1=some (b,δ2))(h3:fc δ2=some (c,δ3))(h4:g [a,b,c]=some (.val d)):xC [.v,.v,.v] g (zbr fa (zbr fb (zbr fc zg2))) δ=some (d,δ3):=by
 unfold xC
 rw[xC_i h1 (xC_i h2 (xC_i h3 (show zg2 δ3=some ([],δ3) from rfl)))]
 show((((g [a,b,c])).bind asV).map _)=_
 rw[h4]
 rfl
theorem words_el(T few:Int)(hf:2<=few/\few<=5)(dk:List Int)(d:D)(h:0<dk.length):∃ w:List Nat,w.length<=8/\∃ δc,zaR [some (.val d),some (.val (.int few)),some (.obj (.lst (dk.map .int))),some (.val (.int T))]=some (.str (mkS w),δc)/\oAt 2 δc=some (.lst (dk.dropLast.map .int)):=by
 obtain⟨c,hp⟩:=pop_i dk h 2 (δ:=[some (.val d),some (.val (.int few)),some (.obj (.lst (dk.map .int))),some (.val (.int T))]) rfl
 obtain⟨w,hw,e⟩:=word_ok c few (T / 3 % 208) hf ⟨by lia,by lia⟩
 exact⟨w,hw,_,xC3 hp (xP_i rfl) (xP_i (modI (divI rfl rfl (by decide)) rfl (by decide))) e,rfl⟩
theorem law_el(T:Int)(dk:List Int)(d:D)(h:0<dk.length):∃ w:List Nat,w.length<=8/\∃ δc,zck [some (.val d),some (.obj (.lst (dk.map .int))),some (.val (.int T))]=some (.str (mkS w),δc)/\oAt 1 δc=some (.lst (dk.dropLast.map .int)):=by
 obtain⟨c,hp⟩:=pop_i dk h 1 (δ:=[some (.val d),some (.obj (.lst (dk.map .int))),some (.val (.int T))]) rfl
 obtain⟨w,hw,e⟩:=word_ok c (2+T % 3) (T / 3 % 208) ⟨by lia,by lia⟩ ⟨by lia,by lia⟩
 exact⟨w,hw,_,xC3 hp (xP_i (addI rfl (modI rfl rfl (by decide)))) (xP_i (modI (divI rfl rfl (by decide)) rfl (by decide))) e,rfl⟩
theorem words_eq(dk:List Int)(hd:dk.length=40):∃ (zs:List (List Nat)) (dk':List Int),zs.length<=12/\(∀ w ∈ zs,w.length<=8)/\27<=dk'.length/\za9 (.lst (dk.map .int)) [.int 12]=some (.lst (zs.map fun w=>.str (mkS w)),.lst (dk'.map .int)):=by
 obtain⟨T,hp⟩:=pop_i dk (by lia) 0 (δ:=[some (.obj (.lst (dk.map .int))),some (.val (.int 12)),none,none]) rfl
 obtain⟨zs,dk',q1,q2,q3,q4⟩:=lcX_ok (fr:=[3,0,2]) (i:=0) (j:=1) (fx:=zaR) [none,some (.val (.int 12)),some (.val (.int T)),some (.val (.int (2+T % 3)))] (Nat.zero_lt_succ _) (fun dk d h=>words_el T (2+T % 3) ⟨by lia,by lia⟩ dk d h) ((List.range (T / 624 % 13).toNat).map fun(i:Nat)=>D.int (0+(i:Int))) dk.dropLast (by rw[List.length_map,List.length_range,List.length_dropLast];lia)
 rw[List.length_map,List.length_range] at q1 q3
 refine⟨zs,dk',by lia,q2,by rw[q3,List.length_dropLast];lia,?_⟩
 have ir:iR1 (zaa (ex2 zbO (ex2 zd3 (zab 2) (eC (.int 624))) (ex2 zbX (zab 1) (eC (.int 1)))) zaf) [some (.obj (.lst (dk.dropLast.map .int))),some (.val (.int 12)),some (.val (.int T)),some (.val (.int (2+T % 3)))]=some ((List.range (T / 624 % 13).toNat).map fun(i:Nat)=>D.int (0+(i:Int))):=by
  have hm:=modI (E:=ex2 zd3 (zab 2) (eC (.int 624))) (F:=ex2 zbX (zab 1) (eC (.int 1))) (δ:=[some (.obj (.lst (dk.dropLast.map .int))),some (.val (.int 12)),some (.val (.int T)),some (.val (.int (2+T % 3)))]) (divI rfl rfl (by decide)) (addI (b:=1) rfl rfl) (by decide)
  have hb:b62 (T / 624 % (12+1)):=zbT (by lia)
  generalize ex2 zbO (ex2 zd3 (zab 2) (eC (.int 624))) (ex2 zbX (zab 1) (eC (.int 1)))=EE at *
  simp only[iR1,zaa,hm,zaf,jqc,jqa,iOf,hb,zae]
  rfl
 have hx:xLC [3,0,2] 0 1 (iR1 (zaa (ex2 zbO (ex2 zd3 (zab 2) (eC (.int 624))) (ex2 zbX (zab 1) (eC (.int 1)))) zaf)) zaR [some (.obj (.lst (dk.dropLast.map .int))),some (.val (.int 12)),some (.val (.int T)),some (.val (.int (2+T % 3)))]=some (.lst (zs.map fun w=>.str (mkS w)),[some (.obj (.lst (dk'.map .int))),some (.val (.int 12)),some (.val (.int T)),some (.val (.int (2+T % 3)))]):=by
  unfold xLC
  rw[ir]
  show((lcX [3,0,2] 0 1 zaR _ _).bind _)=_
  have q5:lcX [3,0,2] 0 1 zaR ((List.range (T / 624 % 13).toNat).map fun(i:Nat)=>D.int (0+(i:Int))) [some (.obj (.lst (dk.dropLast.map .int))),some (.val (.int 12)),some (.val (.int T)),some (.val (.int (2+T % 3)))]=some (zs.map fun w=>.str (mkS w),[some (.obj (.lst (dk'.map .int))),some (.val (.int 12)),some (.val (.int T)),some (.val (.int (2+T % 3)))]):=q4
  rw[q5]
  exact if_pos (by rw[List.length_map];lia)
 have hF:zbE [some (.obj (.lst (dk.map .int))),some (.val (.int 12)),none,none]=some (.rt (.val (.lst (zs.map fun w=>.str (mkS w)))) [some (.obj (.lst (dk'.map .int))),some (.val (.int 12)),some (.val (.int T)),some (.val (.int (2+T % 3)))]):=
  (show zbE _=_ from zaU (zd0 hp)).trans ((zaU (zdT (addI rfl (modI rfl rfl (by decide))))).trans (fXRet_i hx))
 unfold za9 zfI
 rw[if_pos (show [D.int 12].length=1 from rfl)]
 show(zbE [some (.obj (.lst (dk.map .int))),some (.val (.int 12)),none,none]).bind endM=_
 rw[hF]
 rfl
noncomputable def SD(zs:List (List Nat)):List D:=zs.map fun w=>.str (mkS w)
theorem zfR{zs:List (List Nat)}{top:OT}(h:Bk zs top)(hz:zs.length<=60)(hl:∀ u ∈ zs,u.length<=900)(t:List Nat)(ht:t.length<=900)(most:Int){f1 f2 f3:FXE}{c0 c1 c2 c3 c4 c6 c7 c8:Option Ent}{r s:FS}
  (h1:f1 [c0,c1,c2,c3,c4,some (.obj (bkO top)),c6,c7,c8]=some (.lst (SD zs),[c0,c1,c2,c3,c4,some (.obj (bkO top)),c6,c7,c8])) (h2:f2 [c0,c1,c2,c3,c4,some (.obj (bkO top)),c6,c7,c8]=some (.str (mkS t),[c0,c1,c2,c3,c4,some (.obj (bkO top)),c6,c7,c8])) (h3:f3 [c0,c1,c2,c3,c4,some (.obj (bkO top)),c6,c7,c8]=some (.int most,[c0,c1,c2,c3,c4,some (.obj (bkO top)),c6,c7,c8])) :
  fXIf (xN (xT (xCO 5 zaQ (zbr f1 (zbr f2 (zbr f3 zg2)))))) r s [c0,c1,c2,c3,c4,some (.obj (bkO top)),c6,c7,c8]=s [c0,c1,c2,c3,c4,some (.obj (bkO top)),c6,c7,c8]:=by
 have q:=xCO_i (i:=5) (g:=zaQ) (fs:=zbr f1 (zbr f2 (zbr f3 zg2))) (δ:=[c0,c1,c2,c3,c4,some (.obj (bkO top)),c6,c7,c8]) (o0:=bkO top) rfl (xC_i h1 (xC_i h2 (xC_i h3 rfl))) (o:=bkO top) rfl (told_bk h hz hl t ht most)
 unfold fXIf xN xT
 rw[q]
 rfl
theorem six_at(k:Nat)(x:Int):∃ m:Int,atI [D.int 0,D.int 1,D.int 2,D.int 3,D.int 8,D.int x] ((0+(k:Int)) % 6)=some (.int m):=by
 have h:(0+(k:Int)) % 6=0 \/ (0+(k:Int)) % 6=1 \/ (0+(k:Int)) % 6=2 \/ (0+(k:Int)) % 6=3 \/ (0+(k:Int)) % 6=4 \/ (0+(k:Int)) % 6=5:=by lia
 rcases h with h | h | h | h | h | h <;> rw[h]
 ·exact⟨0,rfl⟩
 ·exact⟨1,rfl⟩
 ·exact⟨2,rfl⟩
 ·exact⟨3,rfl⟩
 ·exact⟨8,rfl⟩
 ·exact⟨x,rfl⟩
theorem SD_at(zs:List (List Nat)){k:Int}(h0:0<=k)(h:k.toNat<zs.length):∃ w,w ∈ zs/\zs[k.toNat]? = some w/\atI (SD zs) k=some (.str (mkS w)):=by
 refine⟨zs[k.toNat],List.getElem_mem h,List.getElem?_eq_getElem h,zdU h0 ?_⟩
 unfold SD
 rw[List.getElem?_map,List.getElem?_eq_getElem h]
 rfl
theorem law_turn(c0 c1 c7 c8:Option Ent)(zs as:List (List Nat))(T:Int)(k:Nat)(hz:zs.length<=12)(ha:0<as.length/\as.length<=8)(hl:∀ w ∈ zs,w.length<=8)(hla:∀ w ∈ as,w.length<=8)(hk:k<zs.length)(top:OT)(hb:Bk (zs.take k) top):∃ top',Bk (zs.take (k+1)) top' /\
  zdC [c0,c1,some (.val (.lst (SD zs))),some (.val (.int T)),some (.val (.lst (SD as))),some (.obj (bkO top)),some (.val (.int (0+(k:Int)))),c7,c8] =
  some (.nx [c0,c1,some (.val (.lst (SD zs))),some (.val (.int T)),some (.val (.lst (SD as))),some (.obj (bkO top')),some (.val (.int (0+(k:Int)))),c7,c8]):=by
 have sub:∀ (n:Nat) (w:List Nat),w ∈ zs.take n->w.length<=8:=fun n w hw=>hl w (List.mem_of_mem_take hw)
 have k0:(0+(k:Int)).toNat=k:=by lia
 obtain⟨w,w1,w2,a1⟩:=SD_at zs (k:=0+(k:Int)) (by lia) (by lia)
 rw[k0] at w2
 have hal:(SD as).length=as.length:=by unfold SD;rw[List.length_map]
 have hzl:(SD zs).length=zs.length:=by unfold SD;rw[List.length_map]
 have m0:0<=(0+(k:Int)) % (as.length:Int):=Int.emod_nonneg _ (by lia)
 have m1:(0+(k:Int)) % (as.length:Int)<as.length:=Int.emod_lt_of_pos _ (by lia)
 obtain⟨t,t1,_,a2⟩:=SD_at as (k:=(0+(k:Int)) % (as.length:Int)) m0 (by lia)
 obtain⟨most,a3⟩:=six_at k (T / 624 % 41)
 have cut:zgB (SD zs) none (some (0+(k:Int)+1))=SD (zs.take (k+1)):=by
  rw[zdH _ (by lia),show(0+(k:Int)+1).toNat=k+1 by lia]
  unfold SD
  rw[List.map_take]
 have hw:=hl w w1
 have ht:=hla t t1
 obtain⟨b,top',p1,p2⟩:=put_bk hb (by rw[List.length_take];lia) (fun u hu=>by have:=sub k u hu;lia) w (by lia)
 have et:zs.take k ++ [w]=zs.take (k+1):=by rw[List.take_succ,w2];rfl
 rw[et] at p2
 refine⟨top',p2,?_⟩
 have hx:xM 5 "Book" ["top"] za2 (zaa (ex2 zbQ (zab 2) (zab 6)) zaf) [c0,c1,some (.val (.lst (SD zs))),some (.val (.int T)),some (.val (.lst (SD as))),some (.obj (bkO top)),some (.val (.int (0+(k:Int)))),c7,c8]=some (.bl b,[c0,c1,some (.val (.lst (SD zs))),some (.val (.int T)),some (.val (.lst (SD as))),some (.obj (bkO top')),some (.val (.int (0+(k:Int)))),c7,c8]):=by
  have ic:isC "Book" ["top"] (bkO top)=some [top]:=zcB
  have ix:ex2 zbQ (zab 2) (zab 6) [c0,c1,some (.val (.lst (SD zs))),some (.val (.int T)),some (.val (.lst (SD as))),some (.obj (bkO top)),some (.val (.int (0+(k:Int)))),c7,c8]=some (.val (.str (mkS w))):=by
   generalize SD zs=Z at *
   simp only[ex2,zab,jqf,jqe,zbQ,asL,iOf,jqa,a1,jqc]
  show((isC "Book" ["top"] (bkO top)).bind fun _=>(((zaa (ex2 zbQ (zab 2) (zab 6)) zaf) _).bind zd2).bind _)=_
  rw[ic]
  unfold zaa
  rw[ix]
  show((za2 (bkO top) [.str (mkS w)]).map _)=_
  rw[p1]
  rfl
 refine(show zdC _=_ from zaU (show fX _ _=_ by unfold fX;rw[hx];rfl)).trans ((zfR p2 (by rw[List.length_take];lia) (fun u hu=>by have:=sub (k+1) u hu;lia) t (by lia) most (xP_o ?_) (xP_i ?_) (xP_i ?_)).trans rfl)
 ·generalize SD zs=Z at *
  simp only[eSl,zab,jqf,jqe,oNo,oSo,ex2,eC,zbX,pI0,iOf,jqa,jqc,gSlL,asL,cut]
 ·generalize SD as=Z at *
  have hp:(0:Int)<(as.length:Int):=by lia
  simp only[ex2,zab,jqf,jqe,eCB,zaa,zaf,jqc,jqa,zbN,zdx,asL,hal,zbO,pI,iOf,hp,zbA,zae,zbQ,a2]
 ·simp (disch:=omega) only[ex2,zce,zaa,eC,zab,jqf,jqe,zd3,pI,iOf,jqa,zcY,zae,zbO,zbA,zaf,jqc,jqp,jqq,Nat.reduceLeDiff,zd2,asV,jra,zbQ,asL,a3]
theorem zf4(c0 c1 c6:Option Ent)(zs as:List (List Nat))(T:Int)(top:OT)(hz:zs.length<=12)(hl:∀ w ∈ zs,w.length<=8)(hb:Bk zs top)(t:List Nat)(ht:t.length<=8):∀ (ms:List Int) (x8:Option Ent),∃ y8,
  loop (gNm 8) zeO (ms.map D.int) [c0,c1,some (.val (.lst (SD zs))),some (.val (.int T)),some (.val (.lst (SD as))),some (.obj (bkO top)),c6,some (.val (.str (mkS t))),x8]=some (.nx [c0,c1,some (.val (.lst (SD zs))),some (.val (.int T)),some (.val (.lst (SD as))),some (.obj (bkO top)),c6,some (.val (.str (mkS t))),y8])
 | [],x8=>⟨x8,rfl⟩
 | m :: ms,x8=>by
  obtain⟨y8,e⟩:=zf4 c0 c1 c6 zs as T top hz hl hb t ht ms (some (.val (.int m)))
  exact⟨y8,(zc3 rfl ((show zeO _=_ from zfR hb (by lia) (fun u hu=>by have:=hl u hu;lia) t (by lia) m (xP_i rfl) (xP_i rfl) (xP_i rfl)).trans rfl)).trans e⟩
theorem zgb(c0 c1 c6:Option Ent)(zs as:List (List Nat))(T:Int)(top:OT)(hz:zs.length<=12)(hl:∀ w ∈ zs,w.length<=8)(hb:Bk zs top):∀ (ts:List (List Nat)) (x7 x8:Option Ent),(∀ w ∈ ts,w.length<=8)->∃ y7 y8,
  loop (gNm 7) zgL (SD ts) [c0,c1,some (.val (.lst (SD zs))),some (.val (.int T)),some (.val (.lst (SD as))),some (.obj (bkO top)),c6,x7,x8]=some (.nx [c0,c1,some (.val (.lst (SD zs))),some (.val (.int T)),some (.val (.lst (SD as))),some (.obj (bkO top)),c6,y7,y8])
 | [],x7,x8,_=>⟨x7,x8,rfl⟩
 | t :: ts,x7,x8,h=>by
  obtain⟨z8,e1⟩:=zf4 c0 c1 c6 zs as T top hz hl hb t (h t List.mem_cons_self) [0,1,2,T / 624 % 41] x8
  obtain⟨y7,y8,e⟩:=zgb c0 c1 c6 zs as T top hz hl hb ts (some (.val (.str (mkS t)))) z8 fun w hw=>h w (List.mem_cons_of_mem _ hw)
  refine⟨y7,y8,(zc3 (δ2:=[c0,c1,some (.val (.lst (SD zs))),some (.val (.int T)),some (.val (.lst (SD as))),some (.obj (bkO top)),c6,some (.val (.str (mkS t))),z8]) rfl ?_).trans e⟩
  refine Eq.trans ?_ e1
  generalize SD zs=Z
  generalize SD as=A
  show(iL _ _).bind _=_
  simp (disch:=omega) only[iL,zce,zaa,eC,ex2,zab,jqh,jqg,jqf,jqe,zd3,pI,iOf,jqa,zcY,zae,zbO,zbA,zaf,jqc,jqp,jqq,Nat.reduceLeDiff,zd2,asV,jra,jqn,jqo]
theorem main(ns:List Int)(hn:ns.length<=63):g_law [.lst (ns.map .int)]=some (.val (.bl true)):=by
 obtain⟨dk,hd,s1⟩:=deck_ok (ns.take 63) (by rw[List.length_take];lia)
 have hcut:zgB (ns.map D.int) none (some 63)=(ns.take 63).map D.int:=by rw[zdH _ (by decide),List.map_take];rfl
 have e1:zgg 1 (za4 [.b,.v] zbz (zaa (eSl gSlL (zab 0) oNo (oSo (eC (.int 63)))) (zaa (eC (.int 40)) zaf))) [some (.bor (ns.map .int)),none,none,none,none,none,none,none,none]=some (.nx [some (.bor (ns.map .int)),some (.obj (.lst (dk.map .int))),none,none,none,none,none,none,none]):=by
  have q:za4 [.b,.v] zbz (zaa (eSl gSlL (zab 0) oNo (oSo (eC (.int 63)))) (zaa (eC (.int 40)) zaf)) [some (.bor (ns.map .int)),none,none,none,none,none,none,none,none]=some (.own (dk.map .int)):=by
   simp only[za4,zaa,eSl,zab,jqe,oNo,oSo,eC,jqa,iOf,jqc,gSlL,asL,hcut,zaf,zbU,zd5,asV,s1]
  unfold zgg
  rw[q]
  rfl
 obtain⟨zs,d2,hz,hl,h2,s2⟩:=words_eq dk hd
 have e2:zd6 2 (xCO 1 za9 (zbr (xP (eC (.int 12))) zg2)) [some (.bor (ns.map .int)),some (.obj (.lst (dk.map .int))),none,none,none,none,none,none,none]=some (.nx [some (.bor (ns.map .int)),some (.obj (.lst (d2.map .int))),some (.val (.lst (SD zs))),none,none,none,none,none,none]):=
  (zd0 (xCO_i (i:=1) (g:=za9) (fs:=zbr (xP (eC (.int 12))) zg2) (δ:=[some (.bor (ns.map .int)),some (.obj (.lst (dk.map .int))),none,none,none,none,none,none,none]) (δ1:=[some (.bor (ns.map .int)),some (.obj (.lst (dk.map .int))),none,none,none,none,none,none,none]) (o0:=.lst (dk.map .int)) rfl rfl rfl s2)).trans rfl
 obtain⟨T,hp⟩:=pop_i d2 (by lia) 1 (δ:=[some (.bor (ns.map .int)),some (.obj (.lst (d2.map .int))),some (.val (.lst (SD zs))),none,none,none,none,none,none]) rfl
 obtain⟨a6,d3,q1,q2,q3,q4⟩:=lcX_ok (fr:=[1,3]) (i:=1) (j:=0) (fx:=zck) [some (.bor (ns.map .int)),none,some (.val (.lst (SD zs))),some (.val (.int T)),none,none,none,none,none] (Nat.succ_lt_succ (Nat.zero_lt_succ _)) (fun dk d h=>law_el T dk d h) ((List.range 6).map fun(i:Nat)=>D.int (0+(i:Int))) d2.dropLast (by rw[List.length_map,List.length_range,List.length_dropLast];lia)
 have q5:lcX [1,3] 1 0 zck ((List.range 6).map fun(i:Nat)=>D.int (0+(i:Int))) [some (.bor (ns.map .int)),some (.obj (.lst (d2.dropLast.map .int))),some (.val (.lst (SD zs))),some (.val (.int T)),none,none,none,none,none]=some (SD a6,[some (.bor (ns.map .int)),some (.obj (.lst (d3.map .int))),some (.val (.lst (SD zs))),some (.val (.int T)),none,none,none,none,none]):=q4
 rw[List.length_map,List.length_range] at q1
 have hx:xLC [1,3] 1 0 (iR1 (zaa (eC (.int 6)) zaf)) zck [some (.bor (ns.map .int)),some (.obj (.lst (d2.dropLast.map .int))),some (.val (.lst (SD zs))),some (.val (.int T)),none,none,none,none,none]=some (.lst (SD a6),[some (.bor (ns.map .int)),some (.obj (.lst (d3.map .int))),some (.val (.lst (SD zs))),some (.val (.int T)),none,none,none,none,none]):=by
  have ir:iR1 (zaa (eC (.int 6)) zaf) [some (.bor (ns.map .int)),some (.obj (.lst (d2.dropLast.map .int))),some (.val (.lst (SD zs))),some (.val (.int T)),none,none,none,none,none]=some ((List.range 6).map fun(i:Nat)=>D.int (0+(i:Int))):=by
   have hb:b62 6:=zbT (by decide)
   simp only[iR1,zaa,eC,zaf,jqc,jqa,iOf,Int.reduceNeg,Int.reduceLT,jre,zcG,zae]
   rfl
  unfold xLC
  rw[ir]
  show((lcX [1,3] 1 0 zck _ _).bind _)=_
  rw[q5]
  exact if_pos (by unfold SD;rw[List.length_map];lia)
 have hla:∀ w ∈ a6 ++ zs.take 2,w.length<=8:=fun w hw=>(List.mem_append.mp hw).elim (q2 w) fun z=>hl w (List.mem_of_mem_take z)
 have hal:(a6 ++ zs.take 2).length<=8/\6<=(a6 ++ zs.take 2).length:=by rw[List.length_append,List.length_take];lia
 have es:SD (a6 ++ zs.take 2)=SD a6 ++ SD (zs.take 2):=by unfold SD;rw[List.map_append]
 have e4:zd6 4 (x2 gCat (xLC [1,3] 1 0 (iR1 (zaa (eC (.int 6)) zaf)) zck) (xP (eSl gSlL (zab 2) oNo (oSo (eC (.int 2)))))) [some (.bor (ns.map .int)),some (.obj (.lst (d2.dropLast.map .int))),some (.val (.lst (SD zs))),some (.val (.int T)),none,none,none,none,none]=some (.nx [some (.bor (ns.map .int)),some (.obj (.lst (d3.map .int))),some (.val (.lst (SD zs))),some (.val (.int T)),some (.val (.lst (SD (a6 ++ zs.take 2)))),none,none,none,none]):=by
  have cut:zgB (SD zs) none (some 2)=SD (zs.take 2):=by rw[zdH _ (by decide)];unfold SD;rw[List.map_take];rfl
  have hsl:(SD a6).length+(SD (zs.take 2)).length<=1000000:=by unfold SD;rw[List.length_map,List.length_map,List.length_take];lia
  rw[es]
  refine zd0 (x2_o hx (xP_o (ds:=SD (zs.take 2)) ?_) ?_)
  ·generalize SD zs=Z at *
   simp only[eSl,zab,jqf,jqe,oNo,oSo,eC,jqa,iOf,jqc,gSlL,asL,cut]
  ·generalize SD a6=Z1 at *
   generalize SD (zs.take 2)=Z2 at *
   simp only[gCat,asLt,jqa,hsl,zbg,zae]
 generalize a6 ++ zs.take 2=as at *
 have mk:zdy "Book" zay zaf [some (.bor (ns.map .int)),some (.obj (.lst (d3.map .int))),some (.val (.lst (SD zs))),some (.val (.int T)),some (.val (.lst (SD as))),none,none,none,none]=some (.obj (bkO (.val .non))):=by
  have:zay (.ins "Book" [] []) []=some (.non,bkO (.val .non)):=by
   simp only[zay,zfI,zbS,List.length_nil,reduceIte,List.map_nil,List.replicate_zero,List.append_nil,List.nil_append,zg4,eC,oAt,toO,Option.bind_some,List.getElem?_cons_zero,zcB,List.set_cons_zero,endM,Option.map_some,bkO]
  show((zay (.ins "Book" [] []) []).bind _)=_
  rw[this]
  rfl
 have e5:fSetO 5 (zdy "Book" zay zaf) [some (.bor (ns.map .int)),some (.obj (.lst (d3.map .int))),some (.val (.lst (SD zs))),some (.val (.int T)),some (.val (.lst (SD as))),none,none,none,none]=some (.nx [some (.bor (ns.map .int)),some (.obj (.lst (d3.map .int))),some (.val (.lst (SD zs))),some (.val (.int T)),some (.val (.lst (SD as))),some (.obj (bkO (.val .non))),none,none,none]):=by
  unfold fSetO
  rw[mk]
  rfl
 have b0:Bk [] (.val .non):=.inl ⟨rfl,rfl⟩
 obtain⟨t0,t1,_,i0⟩:=SD_at as (k:=0) (by decide) (by show 0<as.length;lia)
 have ht0:=hla t0 t1
 obtain⟨δ',w1,top,x6,hb,rfl⟩:=zbt (tg:=gNm 6) (f:=zdC) (fun k δ=>∃ (top:OT) (x6:Option Ent),Bk (zs.take k) top/\δ=[some (.bor (ns.map .int)),some (.obj (.lst (d3.map .int))),some (.val (.lst (SD zs))),some (.val (.int T)),some (.val (.lst (SD as))),some (.obj (bkO top)),x6,none,none])
  ((List.range zs.length).map fun(i:Nat)=>D.int (0+(i:Int))) 0 [some (.bor (ns.map .int)),some (.obj (.lst (d3.map .int))),some (.val (.lst (SD zs))),some (.val (.int T)),some (.val (.lst (SD as))),some (.obj (bkO (.val .non))),none,none,none] (fun k d δ hd hδ=>by
   obtain⟨top,x6,hb,rfl⟩:=hδ
   rw[Nat.zero_add] at *
   have hk:k<zs.length:=by have:=(List.getElem?_eq_some_iff.mp hd).1;simpa using this
   rw[List.getElem?_map,List.getElem?_range hk] at hd
   cases hd
   obtain⟨top',b1,e⟩:=law_turn (some (.bor (ns.map .int))) (some (.obj (.lst (d3.map .int)))) none none zs as T k hz ⟨by lia,by lia⟩ hl hla hk top hb
   exact⟨_,_,rfl,.inl e,top',_,b1,rfl⟩) ⟨_,none,by rw[List.take_zero];exact b0,rfl⟩
 rw[List.length_map,List.length_range,Nat.zero_add,List.take_length] at hb
 obtain⟨y7,y8,w2⟩:=zgb (some (.bor (ns.map .int))) (some (.obj (.lst (d3.map .int)))) x6 zs as T top hz hl hb as none none hla
 have hF:F_law [some (.bor (ns.map .int)),none,none,none,none,none,none,none,none]=some (.rt (.val (.bl true)) [some (.bor (ns.map .int)),some (.obj (.lst (d3.map .int))),some (.val (.lst (SD zs))),some (.val (.int T)),some (.val (.lst (SD as))),some (.obj (bkO top)),x6,y7,y8]):=by
  refine(show F_law _=_ from zaU e1).trans ((show zgy _=_ from zaU e2).trans ((show zgh _=_ from zaU (zd0 hp)).trans ((show zgd _=_ from zaU e4).trans ((show zgl _=_ from zaU e5).trans ?_))))
  refine(show zgE _=_ from zaU ((zfR b0 (by simp) (fun u hu=>by cases hu) t0 (by lia) 40 (xP_o rfl) (xP_i ?_) (xP_i rfl)).trans rfl)).trans ?_
  ·generalize SD as=A at *
   simp only[ex2,zab,jqf,jqe,eC,zbQ,asL,iOf,jqa,i0,jqc]
  ·refine(show zgs _=_ from forN ?_ w1).trans ((show zgj _=_ from forN (ds:=SD as) ?_ w2).trans rfl)
   ·have hsl:(SD zs).length=zs.length:=by unfold SD;rw[List.length_map]
    have hb2:b62 (zs.length:Int):=zbT (by lia)
    generalize SD zs=Z at *
    simp only[iR1,zaa,eCB,zab,jqf,jqe,zaf,jqc,jqa,zbN,zdx,asL,hsl,iOf,hb2,Int.toNat_natCast,zae]
   ·generalize SD as=A at *
    rfl
 exact(congrArg (fun o=>Option.bind o _) hF).trans rfl
end N52
namespace N52
open PySem L2 L3 PyProof.Rows
noncomputable def spLaw(K:PySem.W.Frag):Sp:=fun vs H Q _=>∃ (a:Addr) (ns:List Int),vs=[.ref a]/\SqL K H a (ns.map V.int)/\ns.length<=63/\∀ H',Q (.bl true) H'
theorem sp_law{K:PySem.W.Frag}{vs:List V}{H:Hp}{Q:VK}{E:XK}(h:spLaw K vs H Q E):spD K [.b] g_law vs H Q E:=by
 obtain⟨a,ns,rfl,hq,hl,k⟩:=h
 refine⟨fun _=>none,_,_,fun _ _ e=>(nomatch e),.cons (k:=.b) (d:=.lst (ns.map D.int)) ⟨a,_,rfl,hq,Reps.ints ns⟩ .nil,main ns hl,fun v F' H' _ r=>?_⟩
 cases zgk r
 exact k H'
theorem all_mk{l:PySem.W.OpenLaw}{w:World}{K:PySem.W.Frag}{h:Heap}{mg:Str->Option Value}{fa:Addr}(X:K.In h)(G:h.Ns mainGlobals mg)(hfa:mg "law" = some (.ref fa))
  {C_Book:Addr}
  {C_Knot:Addr}
  {f_11:Addr} {od_11 an_11:Option Addr} {sl_11:Array (Option Value)} {oc_11 kV_11 dc_11 pm_11 cd_11 ct_11:Value}
  {df_11:Value}
  {f_19:Addr} {od_19 an_19:Option Addr} {sl_19:Array (Option Value)} {oc_19 kV_19 dc_19 pm_19 cd_19 ct_19:Value}
  {f_20:Addr} {od_20 an_20:Option Addr} {sl_20:Array (Option Value)} {oc_20 kV_20 dc_20 pm_20 cd_20 ct_20:Value}
  {f_12:Addr} {od_12 an_12:Option Addr} {sl_12:Array (Option Value)} {oc_12 kV_12 dc_12 pm_12 cd_12 ct_12:Value}
  {f_13:Addr} {od_13 an_13:Option Addr} {sl_13:Array (Option Value)} {oc_13 kV_13 dc_13 pm_13 cd_13 ct_13:Value}
  {f_10:Addr} {od_10 an_10:Option Addr} {sl_10:Array (Option Value)} {oc_10 kV_10 dc_10 pm_10 cd_10 ct_10:Value}
  {f_22:Addr} {od_22 an_22:Option Addr} {sl_22:Array (Option Value)} {oc_22 kV_22 dc_22 pm_22 cd_22 ct_22:Value}
  {f_17:Addr} {od_17 an_17:Option Addr} {sl_17:Array (Option Value)} {oc_17 kV_17 dc_17 pm_17 cd_17 ct_17:Value}
  {f_18:Addr} {od_18 an_18:Option Addr} {sl_18:Array (Option Value)} {oc_18 kV_18 dc_18 pm_18 cd_18 ct_18:Value}
  {f_21:Addr} {od_21 an_21:Option Addr} {sl_21:Array (Option Value)} {oc_21 kV_21 dc_21 pm_21 cd_21 ct_21:Value}
  {f_14:Addr} {od_14 an_14:Option Addr} {sl_14:Array (Option Value)} {oc_14 kV_14 dc_14 pm_14 cd_14 ct_14:Value}
  {f_15:Addr} {od_15 an_15:Option Addr} {sl_15:Array (Option Value)} {oc_15 kV_15 dc_15 pm_15 cd_15 ct_15:Value}
  {f_4:Addr} {od_4 an_4:Option Addr} {sl_4:Array (Option Value)} {oc_4 kV_4 dc_4 pm_4 cd_4 ct_4:Value}
  {f_6:Addr} {od_6 an_6:Option Addr} {sl_6:Array (Option Value)} {oc_6 kV_6 dc_6 pm_6 cd_6 ct_6:Value}
  {f_8:Addr} {od_8 an_8:Option Addr} {sl_8:Array (Option Value)} {oc_8 kV_8 dc_8 pm_8 cd_8 ct_8:Value}
  {f_9:Addr} {od_9 an_9:Option Addr} {sl_9:Array (Option Value)} {oc_9 kV_9 dc_9 pm_9 cd_9 ct_9:Value}
  {f_5:Addr} {od_5 an_5:Option Addr} {sl_5:Array (Option Value)} {oc_5 kV_5 dc_5 pm_5 cd_5 ct_5:Value}
  {f_7:Addr} {od_7 an_7:Option Addr} {sl_7:Array (Option Value)} {oc_7 kV_7 dc_7 pm_7 cd_7 ct_7:Value}
  {f_16:Addr} {od_16 an_16:Option Addr} {sl_16:Array (Option Value)} {oc_16 kV_16 dc_16 pm_16 cd_16 ct_16:Value}
  {f_0:Addr} {od_0 an_0:Option Addr} {sl_0:Array (Option Value)} {oc_0 kV_0 dc_0 pm_0 cd_0 ct_0:Value}
  {f_2:Addr} {od_2 an_2:Option Addr} {sl_2:Array (Option Value)} {oc_2 kV_2 dc_2 pm_2 cd_2 ct_2:Value}
  {f_1:Addr} {od_1 an_1:Option Addr} {sl_1:Array (Option Value)} {oc_1 kV_1 dc_1 pm_1 cd_1 ct_1:Value}
  {f_3:Addr} {od_3 an_3:Option Addr} {sl_3:Array (Option Value)} {oc_3 kV_3 dc_3 pm_3 cd_3 ct_3:Value}
  {tk_PUT:Tok}
  {tk_LEFT:Tok}
  {tk_EXCHANGED:Tok}
  {tk_TURNED:Tok}
  {ua_PLAIN_PRICES:Addr} {un_PLAIN_PRICES:Nat} {t0_PLAIN_PRICES t1_PLAIN_PRICES t2_PLAIN_PRICES t3_PLAIN_PRICES:Tok}
  (a_Book:PySem.W.nsIn K mainGlobals "Book" = some (some (.ref C_Book))) (p1_Book:PySem.W.plainGet K C_Book Str.empty=true) (p2_Book:PySem.W.hasDictIn K C_Book=true) (p3_Book:PySem.W.plainOver K C_Book=true) (p4_Book:PySem.W.findIn K (.ref C_Book) "__setattr__" = some (some (.builtin "object.__setattr__")))
  (n_Book_top:PySem.W.findIn K (.ref C_Book) "top" = some none)
  (m1_Book:PySem.W.makesIn K C_Book=true) (m2_Book:PySem.W.keepIn K (.ref C_Book)=true)
  (a_Knot:PySem.W.nsIn K mainGlobals "Knot" = some (some (.ref C_Knot))) (p1_Knot:PySem.W.plainGet K C_Knot Str.empty=true) (p2_Knot:PySem.W.hasDictIn K C_Knot=true) (p3_Knot:PySem.W.plainOver K C_Knot=true) (p4_Knot:PySem.W.findIn K (.ref C_Knot) "__setattr__" = some (some (.builtin "object.__setattr__")))
  (n_Knot_word:PySem.W.findIn K (.ref C_Knot) "word" = some none)
  (n_Knot_branches:PySem.W.findIn K (.ref C_Knot) "branches" = some none)
  (m1_Knot:PySem.W.makesIn K C_Knot=true) (m2_Knot:PySem.W.keepIn K (.ref C_Knot)=true)
  (a_11:PySem.W.nsIn K mainGlobals "cells_of" = some (some (.ref f_11))) (l_11:K.lookup f_11=some ⟨oc_11,od_11,.func (PySem.W.fnOf "cells_of" "cells_of" (zar za6) (zam za6) (zac za6) df_11 kV_11 dc_11 pm_11 an_11 cd_11 ct_11),sl_11⟩) (c_11:PySem.W.codeIn K cd_11 "cells_of" = true) (k_11:PySem.W.keepIn K (.ref f_11)=true)
  (e_11:DfOk K df_11)
  (a_19:PySem.W.nsIn K mainGlobals "price_between" = some (some (.ref f_19))) (l_19:K.lookup f_19=some ⟨oc_19,od_19,.func (PySem.W.fnOf "price_between" "price_between" (zar zau) (zam zau) (zac zau) .none kV_19 dc_19 pm_19 an_19 cd_19 ct_19),sl_19⟩) (c_19:PySem.W.codeIn K cd_19 "price_between" = true) (k_19:PySem.W.keepIn K (.ref f_19)=true)
  (a_20:PySem.W.nsIn K mainGlobals "row_across" = some (some (.ref f_20))) (l_20:K.lookup f_20=some ⟨oc_20,od_20,.func (PySem.W.fnOf "row_across" "row_across" (zar zaM) (zam zaM) (zac zaM) .none kV_20 dc_20 pm_20 an_20 cd_20 ct_20),sl_20⟩) (c_20:PySem.W.codeIn K cd_20 "row_across" = true) (k_20:PySem.W.keepIn K (.ref f_20)=true)
  (a_12:PySem.W.nsIn K mainGlobals "first_column" = some (some (.ref f_12))) (l_12:K.lookup f_12=some ⟨oc_12,od_12,.func (PySem.W.fnOf "first_column" "first_column" (zar zax) (zam zax) (zac zax) .none kV_12 dc_12 pm_12 an_12 cd_12 ct_12),sl_12⟩) (c_12:PySem.W.codeIn K cd_12 "first_column" = true) (k_12:PySem.W.keepIn K (.ref f_12)=true)
  (a_13:PySem.W.nsIn K mainGlobals "further_column" = some (some (.ref f_13))) (l_13:K.lookup f_13=some ⟨oc_13,od_13,.func (PySem.W.fnOf "further_column" "further_column" (zar zap) (zam zap) (zac zap) .none kV_13 dc_13 pm_13 an_13 cd_13 ct_13),sl_13⟩) (c_13:PySem.W.codeIn K cd_13 "further_column" = true) (k_13:PySem.W.keepIn K (.ref f_13)=true)
  (a_10:PySem.W.nsIn K mainGlobals "cell_ahead_of_turn" = some (some (.ref f_10))) (l_10:K.lookup f_10=some ⟨oc_10,od_10,.func (PySem.W.fnOf "cell_ahead_of_turn" "cell_ahead_of_turn" (zar zai) (zam zai) (zac zai) .none kV_10 dc_10 pm_10 an_10 cd_10 ct_10),sl_10⟩) (c_10:PySem.W.codeIn K cd_10 "cell_ahead_of_turn" = true) (k_10:PySem.W.keepIn K (.ref f_10)=true)
  (a_22:PySem.W.nsIn K mainGlobals "stepped" = some (some (.ref f_22))) (l_22:K.lookup f_22=some ⟨oc_22,od_22,.func (PySem.W.fnOf "stepped" "stepped" (zar zbo) (zam zbo) (zac zbo) .none kV_22 dc_22 pm_22 an_22 cd_22 ct_22),sl_22⟩) (c_22:PySem.W.codeIn K cd_22 "stepped" = true) (k_22:PySem.W.keepIn K (.ref f_22)=true)
  (a_17:PySem.W.nsIn K mainGlobals "lowest" = some (some (.ref f_17))) (l_17:K.lookup f_17=some ⟨oc_17,od_17,.func (PySem.W.fnOf "lowest" "lowest" (zar zbG) (zam zbG) (zac zbG) .none kV_17 dc_17 pm_17 an_17 cd_17 ct_17),sl_17⟩) (c_17:PySem.W.codeIn K cd_17 "lowest" = true) (k_17:PySem.W.keepIn K (.ref f_17)=true)
  (a_18:PySem.W.nsIn K mainGlobals "pattern_of" = some (some (.ref f_18))) (l_18:K.lookup f_18=some ⟨oc_18,od_18,.func (PySem.W.fnOf "pattern_of" "pattern_of" (zar zaO) (zam zaO) (zac zaO) .none kV_18 dc_18 pm_18 an_18 cd_18 ct_18),sl_18⟩) (c_18:PySem.W.codeIn K cd_18 "pattern_of" = true) (k_18:PySem.W.keepIn K (.ref f_18)=true)
  (a_21:PySem.W.nsIn K mainGlobals "slips_between" = some (some (.ref f_21))) (l_21:K.lookup f_21=some ⟨oc_21,od_21,.func (PySem.W.fnOf "slips_between" "slips_between" (zar zat) (zam zat) (zac zat) .none kV_21 dc_21 pm_21 an_21 cd_21 ct_21),sl_21⟩) (c_21:PySem.W.codeIn K cd_21 "slips_between" = true) (k_21:PySem.W.keepIn K (.ref f_21)=true)
  (a_14:PySem.W.nsIn K mainGlobals "hang" = some (some (.ref f_14))) (l_14:K.lookup f_14=some ⟨oc_14,od_14,.func (PySem.W.fnOf "hang" "hang" (zar zcx) (zam zcx) (zac zcx) .none kV_14 dc_14 pm_14 an_14 cd_14 ct_14),sl_14⟩) (c_14:PySem.W.codeIn K cd_14 "hang" = true) (k_14:PySem.W.keepIn K (.ref f_14)=true)
  (a_15:PySem.W.nsIn K mainGlobals "knots_in_reach" = some (some (.ref f_15))) (l_15:K.lookup f_15=some ⟨oc_15,od_15,.func (PySem.W.fnOf "knots_in_reach" "knots_in_reach" (zar zao) (zam zao) (zac zao) .none kV_15 dc_15 pm_15 an_15 cd_15 ct_15),sl_15⟩) (c_15:PySem.W.codeIn K cd_15 "knots_in_reach" = true) (k_15:PySem.W.keepIn K (.ref f_15)=true)
  (a_4:PySem.W.nsIn K mainGlobals "_law_deck" = some (some (.ref f_4))) (l_4:K.lookup f_4=some ⟨oc_4,od_4,.func (PySem.W.fnOf "_law_deck" "_law_deck" (zar zaV) (zam zaV) (zac zaV) .none kV_4 dc_4 pm_4 an_4 cd_4 ct_4),sl_4⟩) (c_4:PySem.W.codeIn K cd_4 "_law_deck" = true) (k_4:PySem.W.keepIn K (.ref f_4)=true)
  (a_6:PySem.W.nsIn K mainGlobals "_law_sign" = some (some (.ref f_6))) (l_6:K.lookup f_6=some ⟨oc_6,od_6,.func (PySem.W.fnOf "_law_sign" "_law_sign" (zar zaY) (zam zaY) (zac zaY) .none kV_6 dc_6 pm_6 an_6 cd_6 ct_6),sl_6⟩) (c_6:PySem.W.codeIn K cd_6 "_law_sign" = true) (k_6:PySem.W.keepIn K (.ref f_6)=true)
  (a_8:PySem.W.nsIn K mainGlobals "_law_word" = some (some (.ref f_8))) (l_8:K.lookup f_8=some ⟨oc_8,od_8,.func (PySem.W.fnOf "_law_word" "_law_word" (zar zaX) (zam zaX) (zac zaX) .none kV_8 dc_8 pm_8 an_8 cd_8 ct_8),sl_8⟩) (c_8:PySem.W.codeIn K cd_8 "_law_word" = true) (k_8:PySem.W.keepIn K (.ref f_8)=true)
  (a_9:PySem.W.nsIn K mainGlobals "_law_words" = some (some (.ref f_9))) (l_9:K.lookup f_9=some ⟨oc_9,od_9,.func (PySem.W.fnOf "_law_words" "_law_words" (zar zaN) (zam zaN) (zac zaN) .none kV_9 dc_9 pm_9 an_9 cd_9 ct_9),sl_9⟩) (c_9:PySem.W.codeIn K cd_9 "_law_words" = true) (k_9:PySem.W.keepIn K (.ref f_9)=true)
  (a_5:PySem.W.nsIn K mainGlobals "_law_price" = some (some (.ref f_5))) (l_5:K.lookup f_5=some ⟨oc_5,od_5,.func (PySem.W.fnOf "_law_price" "_law_price" (zar zaP) (zam zaP) (zac zaP) .none kV_5 dc_5 pm_5 an_5 cd_5 ct_5),sl_5⟩) (c_5:PySem.W.codeIn K cd_5 "_law_price" = true) (k_5:PySem.W.keepIn K (.ref f_5)=true)
  (a_7:PySem.W.nsIn K mainGlobals "_law_told" = some (some (.ref f_7))) (l_7:K.lookup f_7=some ⟨oc_7,od_7,.func (PySem.W.fnOf "_law_told" "_law_told" (zar zaZ) (zam zaZ) (zac zaZ) .none kV_7 dc_7 pm_7 an_7 cd_7 ct_7),sl_7⟩) (c_7:PySem.W.codeIn K cd_7 "_law_told" = true) (k_7:PySem.W.keepIn K (.ref f_7)=true)
  (a_16:PySem.W.nsIn K mainGlobals "law" = some (some (.ref f_16))) (l_16:K.lookup f_16=some ⟨oc_16,od_16,.func (PySem.W.fnOf "law" "law" (zar zcO) (zam zcO) (zac zcO) .none kV_16 dc_16 pm_16 an_16 cd_16 ct_16),sl_16⟩) (c_16:PySem.W.codeIn K cd_16 "law" = true) (k_16:PySem.W.keepIn K (.ref f_16)=true)
  (a_0:PySem.W.findIn K (.ref C_Book) "__init__" = some (some (.ref f_0))) (l_0:K.lookup f_0=some ⟨oc_0,od_0,.func (PySem.W.fnOf "__init__" "Book.__init__" (zar zas) (zam zas) (zac zas) .none kV_0 dc_0 pm_0 an_0 cd_0 ct_0),sl_0⟩) (c_0:PySem.W.codeIn K cd_0 "Book.__init__" = true) (k_0:PySem.W.keepIn K (.ref f_0)=true) (i_0:PySem.W.isFn K (.ref f_0)=true)
  (a_2:PySem.W.findIn K (.ref C_Book) "put" = some (some (.ref f_2))) (l_2:K.lookup f_2=some ⟨oc_2,od_2,.func (PySem.W.fnOf "put" "Book.put" (zar za5) (zam za5) (zac za5) .none kV_2 dc_2 pm_2 an_2 cd_2 ct_2),sl_2⟩) (c_2:PySem.W.codeIn K cd_2 "Book.put" = true) (k_2:PySem.W.keepIn K (.ref f_2)=true) (i_2:PySem.W.isFn K (.ref f_2)=true)
  (a_1:PySem.W.findIn K (.ref C_Book) "near" = some (some (.ref f_1))) (l_1:K.lookup f_1=some ⟨oc_1,od_1,.func (PySem.W.fnOf "near" "Book.near" (zar zaW) (zam zaW) (zac zaW) .none kV_1 dc_1 pm_1 an_1 cd_1 ct_1),sl_1⟩) (c_1:PySem.W.codeIn K cd_1 "Book.near" = true) (k_1:PySem.W.keepIn K (.ref f_1)=true) (i_1:PySem.W.isFn K (.ref f_1)=true)
  (a_3:PySem.W.findIn K (.ref C_Knot) "__init__" = some (some (.ref f_3))) (l_3:K.lookup f_3=some ⟨oc_3,od_3,.func (PySem.W.fnOf "__init__" "Knot.__init__" (zar zav) (zam zav) (zac zav) .none kV_3 dc_3 pm_3 an_3 cd_3 ct_3),sl_3⟩) (c_3:PySem.W.codeIn K cd_3 "Knot.__init__" = true) (k_3:PySem.W.keepIn K (.ref f_3)=true) (i_3:PySem.W.isFn K (.ref f_3)=true)
  (z_abs:PySem.W.nsIn K mainGlobals "abs" = some none)
  (z_bool:PySem.W.nsIn K mainGlobals "bool" = some none)
  (z_int:PySem.W.nsIn K mainGlobals "int" = some none)
  (z_isinstance:PySem.W.nsIn K mainGlobals "isinstance" = some none)
  (z_len:PySem.W.nsIn K mainGlobals "len" = some none)
  (z_list:PySem.W.nsIn K mainGlobals "list" = some none)
  (z_min:PySem.W.nsIn K mainGlobals "min" = some none)
  (z_range:PySem.W.nsIn K mainGlobals "range" = some none)
  (z_reversed:PySem.W.nsIn K mainGlobals "reversed" = some none)
  (z_set:PySem.W.nsIn K mainGlobals "set" = some none)
  (z_sorted:PySem.W.nsIn K mainGlobals "sorted" = some none)
  (z_tuple:PySem.W.nsIn K mainGlobals "tuple" = some none)
  (q_PUT:PySem.W.nsIn K mainGlobals "PUT" = some (some (.int 0 tk_PUT)))
  (q_LEFT:PySem.W.nsIn K mainGlobals "LEFT" = some (some (.int 1 tk_LEFT)))
  (q_EXCHANGED:PySem.W.nsIn K mainGlobals "EXCHANGED" = some (some (.int 2 tk_EXCHANGED)))
  (q_TURNED:PySem.W.nsIn K mainGlobals "TURNED" = some (some (.int 3 tk_TURNED)))
  (q_PLAIN_PRICES:PySem.W.nsIn K mainGlobals "PLAIN_PRICES" = some (some (.ref ua_PLAIN_PRICES))) (l_PLAIN_PRICES:K.lookup ua_PLAIN_PRICES=some ⟨.type "tuple",none,.seq #[.int 1 t0_PLAIN_PRICES,.int 1 t1_PLAIN_PRICES,.int 1 t2_PLAIN_PRICES,.int 0 t3_PLAIN_PRICES] un_PLAIN_PRICES,#[]⟩) :
  ∃ fd:FuncData,(∀ (s:Shared) (v:Value),BindsTo s fd ⟨[v],[]⟩ [("_law_script",v)])/\∀ base:Heap,K.In base->base.Ns mainGlobals mg->FnOk l.prog w K mg base CX0 8 fa fd ["_law_script"] (spLaw K):=by
 have e:=hfa.symm.trans (PySem.W.mg_of X G a_16)
 cases e
 have DC_Book:ClsD K mg "Book" ["top"] C_Book:=⟨a_Book,PySem.W.mg_of X G a_Book,⟨p1_Book,p2_Book,p3_Book,p4_Book⟩,fun f hf=>by
  simp only[List.mem_cons,List.not_mem_nil,or_false] at hf
  rcases hf with rfl
  ·exact n_Book_top⟩
 have DC_Knot:ClsD K mg "Knot" ["word","branches"] C_Knot:=⟨a_Knot,PySem.W.mg_of X G a_Knot,⟨p1_Knot,p2_Knot,p3_Knot,p4_Knot⟩,fun f hf=>by
  simp only[List.mem_cons,List.not_mem_nil,or_false] at hf
  rcases hf with rfl | rfl
  ·exact n_Knot_word
  ·exact n_Knot_branches⟩
 obtain⟨T_11,o_11,n_11,rfl,h1_11,h2_11⟩:=e_11
 have F_11:FunA K "cells_of" "cells_of" za6 f_11 _:=⟨⟨oc_11,od_11,.ref T_11,kV_11,dc_11,pm_11,an_11,cd_11,ct_11,sl_11,rfl,l_11,c_11⟩,k_11⟩
 have D_11:DefD K mg "cells_of" za6 ["P","T","prices","free"] _ _:=⟨F_11,PySem.W.mg_of X G a_11,(fun s us KI hl=>match us,hl with | [_,_,_,_],_=>PySem.W.binds_K KI rfl h1_11 h2_11 rfl rfl),(fun s us KI hl=>match us,(show us.length=3 from Nat.succ.inj ((List.length_append (as:=us) (bs:=[Value.bool false])).symm.trans hl)),hl with | [_,_,_],_,_=>PySem.W.binds_K KI rfl h1_11 h2_11 rfl rfl),⟨(fun s us ws KI hl=>by
  obtain⟨e1,e2,e3⟩:=gK_shape hl
  rw[e3]
  exact match us,e1,ws,e2 with | [_,_,_],_,[_],_=>PySem.W.binds_K KI rfl h1_11 h2_11 rfl rfl),fun r rz=>gK_rel r rz⟩⟩
 have F_19:=zbe (st:=zau) l_19 c_19 k_19
 have D_19:Def K mg "price_between" zau ["P","T","prices"] _ _:=⟨F_19,PySem.W.mg_of X G a_19,F_19.binds (ps:=["P","T","prices"]) fun _ _ _ _ _ _ us hl=>by obtain⟨_,_,_,rfl⟩:=len3 hl;rfl⟩
 have F_20:=zbe (st:=zaM) l_20 c_20 k_20
 have D_20:Def K mg "row_across" zaM ["columns","classes"] _ _:=⟨F_20,PySem.W.mg_of X G a_20,F_20.binds (ps:=["columns","classes"]) fun _ _ _ _ _ _ us hl=>by obtain⟨_,_,rfl⟩:=len2 hl;rfl⟩
 have F_12:=zbe (st:=zax) l_12 c_12 k_12
 have D_12:Def K mg "first_column" zax ["pattern","prices"] _ _:=⟨F_12,PySem.W.mg_of X G a_12,F_12.binds (ps:=["pattern","prices"]) fun _ _ _ _ _ _ us hl=>by obtain⟨_,_,rfl⟩:=len2 hl;rfl⟩
 have F_13:=zbe (st:=zap) l_13 c_13 k_13
 have D_13:Def K mg "further_column" zap ["columns","pattern","text","prices","free"] _ _:=⟨F_13,PySem.W.mg_of X G a_13,F_13.binds (ps:=["columns","pattern","text","prices","free"]) fun _ _ _ _ _ _ us hl=>by obtain⟨_,_,_,_,_,rfl⟩:=len5 hl;rfl⟩
 have F_10:=zbe (st:=zai) l_10 c_10 k_10
 have D_10:Def K mg "cell_ahead_of_turn" zai ["columns","pattern","text","classes"] _ _:=⟨F_10,PySem.W.mg_of X G a_10,F_10.binds (ps:=["columns","pattern","text","classes"]) fun _ _ _ _ _ _ us hl=>by obtain⟨_,_,_,_,rfl⟩:=len4 hl;rfl⟩
 have F_22:=zbe (st:=zbo) l_22 c_22 k_22
 have D_22:Def K mg "stepped" zbo ["cell","price"] _ _:=⟨F_22,PySem.W.mg_of X G a_22,F_22.binds (ps:=["cell","price"]) fun _ _ _ _ _ _ us hl=>by obtain⟨_,_,rfl⟩:=len2 hl;rfl⟩
 have F_17:=zbe (st:=zbG) l_17 c_17 k_17
 have D_17:Def K mg "lowest" zbG ["cells"] _ _:=⟨F_17,PySem.W.mg_of X G a_17,F_17.binds (ps:=["cells"]) fun _ _ _ _ _ _ us hl=>by obtain⟨_,rfl⟩:=len1 hl;rfl⟩
 have F_18:=zbe (st:=zaO) l_18 c_18 k_18
 have D_18:Def K mg "pattern_of" zaO ["W"] _ _:=⟨F_18,PySem.W.mg_of X G a_18,F_18.binds (ps:=["W"]) fun _ _ _ _ _ _ us hl=>by obtain⟨_,rfl⟩:=len1 hl;rfl⟩
 have F_21:=zbe (st:=zat) l_21 c_21 k_21
 have D_21:Def K mg "slips_between" zat ["word","other"] _ _:=⟨F_21,PySem.W.mg_of X G a_21,F_21.binds (ps:=["word","other"]) fun _ _ _ _ _ _ us hl=>by obtain⟨_,_,rfl⟩:=len2 hl;rfl⟩
 have F_14:=zbe (st:=zcx) l_14 c_14 k_14
 have D_14:Def K mg "hang" zcx ["top","word"] _ _:=⟨F_14,PySem.W.mg_of X G a_14,F_14.binds (ps:=["top","word"]) fun _ _ _ _ _ _ us hl=>by obtain⟨_,_,rfl⟩:=len2 hl;rfl⟩
 have F_15:=zbe (st:=zao) l_15 c_15 k_15
 have D_15:Def K mg "knots_in_reach" zao ["knot","price","most"] _ _:=⟨F_15,PySem.W.mg_of X G a_15,F_15.binds (ps:=["knot","price","most"]) fun _ _ _ _ _ _ us hl=>by obtain⟨_,_,_,rfl⟩:=len3 hl;rfl⟩
 have F_4:=zbe (st:=zaV) l_4 c_4 k_4
 have D_4:Def K mg "_law_deck" zaV ["_law_cells","_law_many"] _ _:=⟨F_4,PySem.W.mg_of X G a_4,F_4.binds (ps:=["_law_cells","_law_many"]) fun _ _ _ _ _ _ us hl=>by obtain⟨_,_,rfl⟩:=len2 hl;rfl⟩
 have F_6:=zbe (st:=zaY) l_6 c_6 k_6
 have D_6:Def K mg "_law_sign" zaY ["_law_turn","_law_number"] _ _:=⟨F_6,PySem.W.mg_of X G a_6,F_6.binds (ps:=["_law_turn","_law_number"]) fun _ _ _ _ _ _ us hl=>by obtain⟨_,_,rfl⟩:=len2 hl;rfl⟩
 have F_8:=zbe (st:=zaX) l_8 c_8 k_8
 have D_8:Def K mg "_law_word" zaX ["_law_cell","_law_few","_law_turn"] _ _:=⟨F_8,PySem.W.mg_of X G a_8,F_8.binds (ps:=["_law_cell","_law_few","_law_turn"]) fun _ _ _ _ _ _ us hl=>by obtain⟨_,_,_,rfl⟩:=len3 hl;rfl⟩
 have F_9:=zbe (st:=zaN) l_9 c_9 k_9
 have D_9:Def K mg "_law_words" zaN ["_law_deck_here","_law_most"] _ _:=⟨F_9,PySem.W.mg_of X G a_9,F_9.binds (ps:=["_law_deck_here","_law_most"]) fun _ _ _ _ _ _ us hl=>by obtain⟨_,_,rfl⟩:=len2 hl;rfl⟩
 have F_5:=zbe (st:=zaP) l_5 c_5 k_5
 have D_5:Def K mg "_law_price" zaP ["_law_one","_law_other"] _ _:=⟨F_5,PySem.W.mg_of X G a_5,F_5.binds (ps:=["_law_one","_law_other"]) fun _ _ _ _ _ _ us hl=>by obtain⟨_,_,rfl⟩:=len2 hl;rfl⟩
 have F_7:=zbe (st:=zaZ) l_7 c_7 k_7
 have D_7:Def K mg "_law_told" zaZ ["_law_book","_law_words_here","_law_one","_law_most"] _ _:=⟨F_7,PySem.W.mg_of X G a_7,F_7.binds (ps:=["_law_book","_law_words_here","_law_one","_law_most"]) fun _ _ _ _ _ _ us hl=>by obtain⟨_,_,_,_,rfl⟩:=len4 hl;rfl⟩
 have F_16:=zbe (st:=zcO) l_16 c_16 k_16
 have D_16:Def K mg "law" zcO ["_law_script"] _ _:=⟨F_16,PySem.W.mg_of X G a_16,F_16.binds (ps:=["_law_script"]) fun _ _ _ _ _ _ us hl=>by obtain⟨_,rfl⟩:=len1 hl;rfl⟩
 have F_0:=zbe (st:=zas) l_0 c_0 k_0
 have D_0:MakeD K "Book" zas "Book.__init__" ["self"] _ _:=⟨.of F_0,fun C h=>by cases zbZ a_Book h;exact⟨m1_Book,a_0,i_0,m2_Book⟩,F_0.binds (ps:=["self"]) fun _ _ _ _ _ _ us hl=>by obtain⟨_,rfl⟩:=len1 hl;rfl⟩
 have F_2:=zbe (st:=za5) l_2 c_2 k_2
 have D_2:MethD K "Book" "put" za5 "Book.put" ["self","W"] _ _:=⟨.of F_2,fun C h=>by cases zbZ a_Book h;exact⟨a_2,i_2,k_2⟩,F_2.binds (ps:=["self","W"]) fun _ _ _ _ _ _ us hl=>by obtain⟨_,_,rfl⟩:=len2 hl;rfl⟩
 have F_1:=zbe (st:=zaW) l_1 c_1 k_1
 have D_1:MethD K "Book" "near" zaW "Book.near" ["self","W","most"] _ _:=⟨.of F_1,fun C h=>by cases zbZ a_Book h;exact⟨a_1,i_1,k_1⟩,F_1.binds (ps:=["self","W","most"]) fun _ _ _ _ _ _ us hl=>by obtain⟨_,_,_,rfl⟩:=len3 hl;rfl⟩
 have F_3:=zbe (st:=zav) l_3 c_3 k_3
 have D_3:MakeD K "Knot" zav "Knot.__init__" ["self","word"] _ _:=⟨.of F_3,fun C h=>by cases zbZ a_Knot h;exact⟨m1_Knot,a_3,i_3,m2_Knot⟩,F_3.binds (ps:=["self","word"]) fun _ _ _ _ _ _ us hl=>by obtain⟨_,_,rfl⟩:=len2 hl;rfl⟩
 have T:Txt K mg:={ m_abs:=PySem.W.mg_none_of X G z_abs,m_bool:=PySem.W.mg_none_of X G z_bool,m_int:=PySem.W.mg_none_of X G z_int,m_isinstance:=PySem.W.mg_none_of X G z_isinstance,m_len:=PySem.W.mg_none_of X G z_len,m_list:=PySem.W.mg_none_of X G z_list,m_min:=PySem.W.mg_none_of X G z_min,m_range:=PySem.W.mg_none_of X G z_range,m_reversed:=PySem.W.mg_none_of X G z_reversed,m_set:=PySem.W.mg_none_of X G z_set,m_sorted:=PySem.W.mg_none_of X G z_sorted,m_tuple:=PySem.W.mg_none_of X G z_tuple,g_PUT:=⟨_,PySem.W.mg_of X G q_PUT,⟨_,rfl⟩⟩,g_LEFT:=⟨_,PySem.W.mg_of X G q_LEFT,⟨_,rfl⟩⟩,g_EXCHANGED:=⟨_,PySem.W.mg_of X G q_EXCHANGED,⟨_,rfl⟩⟩,g_TURNED:=⟨_,PySem.W.mg_of X G q_TURNED,⟨_,rfl⟩⟩,u_PLAIN_PRICES:=⟨_,PySem.W.mg_of X G q_PLAIN_PRICES,_,_,_,l_PLAIN_PRICES,rfl,rfl,Nat.le_of_ble_eq_true rfl,.cons ⟨_,rfl⟩ (.cons ⟨_,rfl⟩ (.cons ⟨_,rfl⟩ (.cons ⟨_,rfl⟩ (.nil))))⟩,c_Book:=⟨_,DC_Book⟩,c_Knot:=⟨_,DC_Knot⟩,d_cells_of:=⟨_,_,D_11⟩,d_price_between:=⟨_,_,D_19⟩,d_row_across:=⟨_,_,D_20⟩,d_first_column:=⟨_,_,D_12⟩,d_further_column:=⟨_,_,D_13⟩,d_cell_ahead_of_turn:=⟨_,_,D_10⟩,d_stepped:=⟨_,_,D_22⟩,d_lowest:=⟨_,_,D_17⟩,d_pattern_of:=⟨_,_,D_18⟩,d_slips_between:=⟨_,_,D_21⟩,d_hang:=⟨_,_,D_14⟩,d_knots_in_reach:=⟨_,_,D_15⟩,d__law_deck:=⟨_,_,D_4⟩,d__law_sign:=⟨_,_,D_6⟩,d__law_word:=⟨_,_,D_8⟩,d__law_words:=⟨_,_,D_9⟩,d__law_price:=⟨_,_,D_5⟩,d__law_told:=⟨_,_,D_7⟩,d_Book___init__:=⟨_,_,D_0⟩,d_Book_put:=⟨_,_,D_2⟩,d_Book_near:=⟨_,_,D_1⟩,d_Knot___init__:=⟨_,_,D_3⟩}
 exact⟨PySem.W.fnOf "law" "law" (zar zcO) (zam zcO) (zac zcO) .none kV_16 dc_16 pm_16 an_16 cd_16 ct_16,fun s v=>.of_eq rfl,fun base _ _=>(ok_law T (.of F_16)).imp fun _ _ _ _ h=>sp_law h⟩
theorem walk{l:PySem.W.OpenLaw}{q:Program}{loose:List Str}{XP:(Str->Option Value)->Heap->Prop}{YP:World->Heap->Prop}{d:DefRec}{K:Params->PySem.W.Frag}(hn:l.most=some 63)(hdf:d.params.defaults=[])
  (hY:∀ (w:World) (h:Heap),YP w h->(K w.params).In h)
  (F:∀ (w:World) (mg:Str->Option Value) (fa:Addr) (h:Heap),(K w.params).In h->h.Ns mainGlobals mg->mg d.name=some (.ref fa) ->
   ∃ fd:FuncData,(∀ (s:Shared) (u:Value),BindsTo s fd ⟨[u],[]⟩ [("_law_script",u)])/\∀ base:Heap,(K w.params).In base->base.Ns mainGlobals mg->FnOk l.prog w (K w.params) mg base CX0 8 fa fd ["_law_script"] (spLaw (K w.params))) :
  PySem.W.WalkO q loose XP YP l.row.toRowW d [] (fun f vs=>PySem.call f vs):=
 L2.walk_of (n:=63) (k:=8) (x:= "_law_script") (CX:=fun _=>CX0) (sp:=fun w=>spLaw (K w.params)) hn (by decide) hdf ⟨rfl,by decide,by decide⟩ hY F (fun _ _ a ns hl _ hS=>⟨a,ns,rfl,hS,hl,fun _=>rfl⟩) fun _ _ _ _ _ z=>z
end N52
open PySem PySem.W PyProof.Rows
set_option maxRecDepth 100000 in
set_option maxHeartbeats 0 in
theorem PySem.Challenge.cw_nearfind_k52_near_holds : PySem.Challenge.rw_nearfind_k52_near.Holds := by
 w_on;o_law;k_head;(case hw=>w_witness2)
 k_fill
 refine N52.walk (l:=PySem.Challenge.rw_nearfind_k52_near) rfl rfl (fun w h Y=>PySem.W.kIn_of Y) ?F
 case F=>
  intro w mg fa h KX G hmg
  refine' N52.all_mk KX G hmg ?a_Book ?p1_Book ?p2_Book ?p3_Book ?p4_Book ?n_Book_top ?m1_Book ?m2_Book ?a_Knot ?p1_Knot ?p2_Knot ?p3_Knot ?p4_Knot ?n_Knot_word ?n_Knot_branches ?m1_Knot ?m2_Knot ?a_11 ?l_11 ?c_11 ?k_11 ?e_11 ?a_19 ?l_19 ?c_19 ?k_19 ?a_20 ?l_20 ?c_20 ?k_20 ?a_12 ?l_12 ?c_12 ?k_12 ?a_13 ?l_13 ?c_13 ?k_13 ?a_10 ?l_10 ?c_10 ?k_10 ?a_22 ?l_22 ?c_22 ?k_22 ?a_17 ?l_17 ?c_17 ?k_17 ?a_18 ?l_18 ?c_18 ?k_18 ?a_21 ?l_21 ?c_21 ?k_21 ?a_14 ?l_14 ?c_14 ?k_14 ?a_15 ?l_15 ?c_15 ?k_15 ?a_4 ?l_4 ?c_4 ?k_4 ?a_6 ?l_6 ?c_6 ?k_6 ?a_8 ?l_8 ?c_8 ?k_8 ?a_9 ?l_9 ?c_9 ?k_9 ?a_5 ?l_5 ?c_5 ?k_5 ?a_7 ?l_7 ?c_7 ?k_7 ?a_16 ?l_16 ?c_16 ?k_16 ?a_0 ?l_0 ?c_0 ?k_0 ?i_0 ?a_2 ?l_2 ?c_2 ?k_2 ?i_2 ?a_1 ?l_1 ?c_1 ?k_1 ?i_1 ?a_3 ?l_3 ?c_3 ?k_3 ?i_3 ?z_abs ?z_bool ?z_int ?z_isinstance ?z_len ?z_list ?z_min ?z_range ?z_reversed ?z_set ?z_sorted ?z_tuple ?q_PUT ?q_LEFT ?q_EXCHANGED ?q_TURNED ?q_PLAIN_PRICES ?l_PLAIN_PRICES
  (case a_Book=>k_is)
  (case p1_Book=>k_is)
  (case p2_Book=>k_is)
  (case p3_Book=>k_is)
  (case p4_Book=>k_is)
  (case n_Book_top=>k_is)
  (case m1_Book=>k_is)
  (case m2_Book=>k_is)
  (case a_Knot=>k_is)
  (case p1_Knot=>k_is)
  (case p2_Knot=>k_is)
  (case p3_Knot=>k_is)
  (case p4_Knot=>k_is)
  (case n_Knot_word=>k_is)
  (case n_Knot_branches=>k_is)
  (case m1_Knot=>k_is)
  (case m2_Knot=>k_is)
  (case a_11=>k_is)
  (case l_11=>k_is)
  (case c_11=>k_is)
  (case k_11=>k_is)
  (case e_11=>exact⟨_,_,_,rfl,by k_is,rfl⟩)
  (case a_19=>k_is)
  (case l_19=>k_is)
  (case c_19=>k_is)
  (case k_19=>k_is)
  (case a_20=>k_is)
  (case l_20=>k_is)
  (case c_20=>k_is)
  (case k_20=>k_is)
  (case a_12=>k_is)
  (case l_12=>k_is)
  (case c_12=>k_is)
  (case k_12=>k_is)
  (case a_13=>k_is)
  (case l_13=>k_is)
  (case c_13=>k_is)
  (case k_13=>k_is)
  (case a_10=>k_is)
  (case l_10=>k_is)
  (case c_10=>k_is)
  (case k_10=>k_is)
  (case a_22=>k_is)
  (case l_22=>k_is)
  (case c_22=>k_is)
  (case k_22=>k_is)
  (case a_17=>k_is)
  (case l_17=>k_is)
  (case c_17=>k_is)
  (case k_17=>k_is)
  (case a_18=>k_is)
  (case l_18=>k_is)
  (case c_18=>k_is)
  (case k_18=>k_is)
  (case a_21=>k_is)
  (case l_21=>k_is)
  (case c_21=>k_is)
  (case k_21=>k_is)
  (case a_14=>k_is)
  (case l_14=>k_is)
  (case c_14=>k_is)
  (case k_14=>k_is)
  (case a_15=>k_is)
  (case l_15=>k_is)
  (case c_15=>k_is)
  (case k_15=>k_is)
  (case a_4=>k_is)
  (case l_4=>k_is)
  (case c_4=>k_is)
  (case k_4=>k_is)
  (case a_6=>k_is)
  (case l_6=>k_is)
  (case c_6=>k_is)
  (case k_6=>k_is)
  (case a_8=>k_is)
  (case l_8=>k_is)
  (case c_8=>k_is)
  (case k_8=>k_is)
  (case a_9=>k_is)
  (case l_9=>k_is)
  (case c_9=>k_is)
  (case k_9=>k_is)
  (case a_5=>k_is)
  (case l_5=>k_is)
  (case c_5=>k_is)
  (case k_5=>k_is)
  (case a_7=>k_is)
  (case l_7=>k_is)
  (case c_7=>k_is)
  (case k_7=>k_is)
  (case a_16=>k_is)
  (case l_16=>k_is)
  (case c_16=>k_is)
  (case k_16=>k_is)
  (case a_0=>k_is)
  (case l_0=>k_is)
  (case c_0=>k_is)
  (case k_0=>k_is)
  (case i_0=>k_is)
  (case a_2=>k_is)
  (case l_2=>k_is)
  (case c_2=>k_is)
  (case k_2=>k_is)
  (case i_2=>k_is)
  (case a_1=>k_is)
  (case l_1=>k_is)
  (case c_1=>k_is)
  (case k_1=>k_is)
  (case i_1=>k_is)
  (case a_3=>k_is)
  (case l_3=>k_is)
  (case c_3=>k_is)
  (case k_3=>k_is)
  (case i_3=>k_is)
  (case z_abs=>k_is)
  (case z_bool=>k_is)
  (case z_int=>k_is)
  (case z_isinstance=>k_is)
  (case z_len=>k_is)
  (case z_list=>k_is)
  (case z_min=>k_is)
  (case z_range=>k_is)
  (case z_reversed=>k_is)
  (case z_set=>k_is)
  (case z_sorted=>k_is)
  (case z_tuple=>k_is)
  (case q_PUT=>k_is)
  (case q_LEFT=>k_is)
  (case q_EXCHANGED=>k_is)
  (case q_TURNED=>k_is)
  (case q_PLAIN_PRICES=>k_is)
  (case l_PLAIN_PRICES=>k_is)
#print axioms PySem.Challenge.cw_nearfind_k52_near_holds


