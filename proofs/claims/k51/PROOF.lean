import PyProof.Rows.All
import Wide.All
import OpenK.AllK
import Wide.FinOn
import Lean
import PyProof.EqAt
import PyProof.EqKinds
import PyProof.TupleCall
import PyProof.NeKinds
import PyProof.SetNew
import PyProof.SetRoads
import PyProof.Rows.SetFrom
import PyProof.CollectStr
import PyProof.ZipIter
import PyProof.Rows.StrNews2
import PyProof.Rows.StrCut
import KE.KRevIter
import PyProof.MaxThree
import KE.KDictSum
import KE.KEqDict
import PySem.Challenge.RW_nearfind_k51_trees
noncomputable section
set_option Elab.async false
set_option linter.all false
set_option maxRecDepth 100000
namespace L2
open PySem PySem.Spec PyProof.Rows
noncomputable abbrev Key:=Sum Int Str
noncomputable def zhk:Key->Value->Bool
 | .inl k,v=>Value.isInt k v
 | .inr x,v=>Value.isStrOf x v
noncomputable def keyH(w:World):Key->Int
 | .inl k=>hashInt k
 | .inr x=>hashStr w x
theorem zaO:∀ {k:Key} {v:Value},zhk k v=true->(∃ i t,k=Sum.inl i/\v=Value.int i t) \/ (∃ x t,k=Sum.inr x/\v=Value.str x t)
 | .inl i,v,h=>by
  obtain⟨t,e⟩:=Value.isInt_shape (k:=i) (v:=v) h
  exact .inl ⟨i,t,rfl,e⟩
 | .inr x,v,h=>by
  obtain⟨t,e⟩:=Value.isStrOf_shape (x:=x) (v:=v) h
  exact .inr ⟨x,t,rfl,e⟩
theorem keyIs_int(i:Int)(t:Tok):zhk (.inl i) (.int i t)=true:=by simp[zhk,Value.isInt]
theorem key_ll(a b:Int):decide ((Sum.inl a:Key)=Sum.inl b)=(a == b):=by
 by_cases e:a=b
 ·subst e;simp
 ·have h:¬ (Sum.inl a:Key)=Sum.inl b:=fun q=>e (Sum.inl.inj q)
  rw[decide_eq_false h]
  exact(beq_eq_false_iff_ne.mpr e).symm
theorem key_rr(a b:Str):decide ((Sum.inr a:Key)=Sum.inr b)=decide (a=b):=by
 by_cases e:a=b
 ·subst e;simp
 ·have h:¬ (Sum.inr a:Key)=Sum.inr b:=fun q=>e (Sum.inr.inj q)
  rw[decide_eq_false h,decide_eq_false e]
theorem key_lr(a:Int)(b:Str):decide ((Sum.inl a:Key)=Sum.inr b)=false:=decide_eq_false (fun q=>nomatch q)
theorem key_rl(a:Str)(b:Int):decide ((Sum.inr a:Key)=Sum.inl b)=false:=decide_eq_false (fun q=>nomatch q)
noncomputable def zb9(prog:Program)(w:World):PySem.KeyKind prog w Key where
 is:=zhk
 hash:=keyH w
 inj:=fun v a b ha hb=>by
  rcases zaO ha with ⟨i,t,rfl,rfl⟩ | ⟨x,t,rfl,rfl⟩
  ·rcases zaO hb with ⟨j,u,rfl,e⟩ | ⟨y,u,rfl,e⟩
   ·injection e with e1 _;rw[e1]
   ·exact nomatch e
  ·rcases zaO hb with ⟨j,u,rfl,e⟩ | ⟨y,u,rfl,e⟩
   ·exact nomatch e
   ·injection e with e1 _;rw[e1]
 byValue:=fun k v h=>by
  rcases zaO h with ⟨i,t,rfl,rfl⟩ | ⟨x,t,rfl,rfl⟩ <;> rfl
 pyHash:=fun hv h=>by
  rcases zaO hv with ⟨i,t,rfl,rfl⟩ | ⟨x,t,rfl,rfl⟩
  ·exact wpAny_pyHash_int h
  ·exact wpAny_pyHash_str h
 eqBool:=fun hu hv h=>by
  rcases zaO hu with ⟨i,t,rfl,rfl⟩ | ⟨x,t,rfl,rfl⟩
  ·rcases zaO hv with ⟨j,u,rfl,rfl⟩ | ⟨y,u,rfl,rfl⟩
   ·rw[key_ll] at h;exact wpAny_eqBool_int h
   ·rw[key_lr] at h;exact SeqAt.EqAt.int_str i t y u _ _ _ _ h
  ·rcases zaO hv with ⟨j,u,rfl,rfl⟩ | ⟨y,u,rfl,rfl⟩
   ·rw[key_rl] at h;exact SeqAt.EqAt.str_int x t j u _ _ _ _ h
   ·rw[key_rr] at h;exact wpAny_eqBool_str h
 «strs» :=fun k x t v h=>by
  rcases zaO h with ⟨i,u,rfl,e⟩ | ⟨y,u,rfl,e⟩
  ·exact nomatch e
  ·injection e with e1 _
   subst e1
   cases v <;> rfl
end L2
namespace L2
open PySem PySem.Spec PyProof.Rows
inductive V where
 | non | bl (b:Bool) | int (i:Int) | str (x:Str) | byt (b:Array UInt8) | flt (b:UInt64) | ref (a:Addr) | ty (n:String)
 deriving DecidableEq
noncomputable def RelV:V->Value->Prop
 | .non,u=>u=Value.none
 | .bl b,u=>u=Value.bool b
 | .int i,u=>∃ t,u=Value.int i t
 | .str x,u=>∃ t,u=Value.str x t
 | .byt b,u=>∃ t,u=Value.bytes b t
 | .flt b,u=>∃ t,u=Value.float b t
 | .ref a,u=>u=Value.ref a
 | .ty n,u=>u=Value.type n
noncomputable abbrev Vals:List V->List Value->Prop:=Paired RelV
theorem Vals.length{xs:List V}{us:List Value}(r:Vals xs us):xs.length=us.length:=Paired.length r
theorem Vals.get:∀ {xs:List V} {us:List Value} {i:Nat} {x:V},Vals xs us->xs[i]? = some x->∃ u,us[i]? = some u/\RelV x u
 | _,_,_,_,.nil,e=>by simp at e
 | _,_,0,_,.cons r _,e=>by simp at e;subst e;exact⟨_,rfl,r⟩
 | _,_,i+1,x,.cons _ t,e=>by
  obtain⟨u,h1,h2⟩:=Vals.get (i:=i) (x:=x) t (by simpa using e)
  exact⟨u,by simpa using h1,h2⟩
theorem Vals.set{x:V}{u:Value}(r:RelV x u):∀ {xs:List V} {us:List Value} (i:Nat),Vals xs us->Vals (xs.set i x) (us.set i u)
 | _,_,_,.nil=>.nil
 | _,_,0,.cons _ t=>.cons r t
 | _,_,i+1,.cons q t=>.cons q (Vals.set r i t)
theorem Vals.append:∀ {xs ys:List V} {us ws:List Value},Vals xs us->Vals ys ws->Vals (xs ++ ys) (us ++ ws)
 | _,_,_,_,.nil,s=>s
 | _,_,_,_,.cons r t,s=>.cons r (Vals.append t s)
theorem Vals.take:∀ {xs:List V} {us:List Value} (n:Nat),Vals xs us->Vals (xs.take n) (us.take n)
 | _,_,0,_=>.nil
 | _,_,_+1,.nil=>.nil
 | _,_,n+1,.cons r t=>.cons r (Vals.take n t)
theorem Vals.drop:∀ {xs:List V} {us:List Value} (n:Nat),Vals xs us->Vals (xs.drop n) (us.drop n)
 | _,_,0,r=>r
 | _,_,_+1,.nil=>.nil
 | _,_,n+1,.cons _ t=>Vals.drop n t
theorem Vals.none_of:∀ {xs:List V} {us:List Value} {i:Nat},Vals xs us->xs[i]? = none->us[i]? = none:=fun {xs us i} r e=>by
 have h1:=r.length
 have h2:xs.length<=i:=List.getElem?_eq_none_iff.mp e
 exact List.getElem?_eq_none_iff.mpr (by lia)
noncomputable def RelO:Option V->Option Value->Prop
 | some v,some u=>RelV v u
 | none,none=>True
 | _,_=>False
noncomputable def KV{κ:Type}:List (κ × V)->List (κ × Value)->Prop:=Paired fun(p:κ × V) (q:κ × Value)=>p.1=q.1/\RelV p.2 q.2
noncomputable def kV:Key->V
 | .inl i=>.int i
 | .inr x=>.str x
inductive HO where
  | lst (xs:List V)
  | tup (xs:List V)
  | dK (kvs:List (Key × V)) | dT (kvs:List (List Key × V))
  | set (S:Int->Bool) (n:Nat)
  | ins (C dx:Addr) (fs:List (Str × V))
  | own (x:Addr)
  | xd (fs:List (Str × V))
  | met (f x:Addr)
  | rng (lo hi:Int)
  | frz (o:Obj) (u:HO)
  | tbl (ps:Array Value)
  | ext (φ:Heap->Prop)
noncomputable abbrev Hp:=Addr->Option HO
noncomputable def upd(H:Hp)(a:Addr)(o:HO):Hp:=fun b=>if b=a then some o else H b
theorem zae{H:Hp}{a:Addr}{o:HO}:upd H a o a=some o:=by unfold upd;rw[if_pos rfl]
theorem zah{H:Hp}{a b:Addr}{o:HO}(h:b ≠ a):upd H a o b=H b:=by unfold upd;rw[if_neg h]
theorem upd_upd{H:Hp}{a:Addr}{o u:HO}:upd (upd H a o) a u=upd H a u:=by
 funext b;unfold upd;split <;> rfl
theorem zaL{H:Hp}{a b:Addr}{o:HO}(h:H a=some o)(h':H b=none):a ≠ b:=by
 intro e;subst e;rw[h] at h';cases h'
section
variable (P:Program)(w:World)
noncomputable def TupN(h:Heap)(a:Addr)(ts:Array Value):Prop:=∃ o,h.get? a=some o/\o.cls=.type "tuple" /\ ∃ n,(o.data,o.dict)=(Data.seq ts n,none)
theorem TupN.is{h:Heap}{a:Addr}{ts:Array Value}(x:TupN h a ts):IsTup h a ts:=let⟨o,e,c,n,d⟩:=x;⟨o,e,c,n,(Prod.mk.inj d).1⟩
theorem TupN.lt{h:Heap}{a:Addr}{ts:Array Value}(x:TupN h a ts):a<h.objs.size:=x.is.lt
theorem TupN.new(h:Heap)(ts:Array Value):TupN (h.push { cls:=.type "tuple",data:=.seq ts}) h.objs.size ts:=⟨_,Heap.get?_push_size _ rfl,rfl,0,rfl⟩
instance {h:Heap}{a:Addr}{ts:Array Value}:Coe (TupN h a ts) (IsTup h a ts):=⟨TupN.is⟩
noncomputable def ObjOk(H:Hp)(h:Heap)(a:Addr):HO->Prop
 | .lst xs=>xs.length<=sizeLine/\∃ (its:List Value) (n:Nat),Vals xs its/\h.get? a=some { cls:=.type "list",data:=.seq its.toArray n}
 | .tup xs=>xs.length<=sizeLine/\∃ its:List Value,Vals xs its/\TupN h a its.toArray
 | .dK kvs=>kvs.length<=sizeLine/\(a == sysModules)=false/\∃ vs,KV kvs vs/\h.DictOf (zb9 P w) a vs
 | .dT kvs=>kvs.length<=sizeLine/\(a == sysModules)=false/\∃ xs:List (List Key × Addr × Value),
   Paired (fun(p:List Key × V) (q:List Key × Addr × Value)=>p.1=q.1/\H q.2.1=some (.tup (p.1.map kV))/\RelV p.2 q.2.2) kvs xs /\
   ∃ o es ep,h.get? a=some o/\o.ExactDict/\o.data=.dict es ep/\es.toList=xs.map (entryOfKey (tupleKind (zb9 P w)))/\(xs.map (·.1)).Nodup
 | .set S n=>h.SetOf (intKind P w) a S n
 | .ins C dx fs=>H dx=some (.own a)/\fs.length<=1000/\dx ≠ a/\h.get? a=some (PySem.W.instObj C dx) /\
   ∃ mA,h.Ns1 dx mA/\(∀ f,RelO (fs.lookup f) (mA f))/\PySem.Within mA (fs.map (·.1))
 | .own _=>∃ o,h.get? a=some o
 | .xd fs=>∃ mA,h.Ns1 a mA/\∀ f,RelO (fs.lookup f) (mA f)
 | .rng lo hi=>∃ t u v,h.get? a=some { cls:=.type "range",data:=.fields #[.int lo t,.int hi u,.int 1 v]}
 | .frz o u=>h.get? a=some o/\ObjOk H h a u
 | .tbl ps=>h.get? a=some { cls:=.none,data:=.fields ps}
 | .met f x=>h.get? a=some (PySem.W.methodObj (.ref f) (.ref x))
 | .ext φ=>φ h/\(∃ o,h.get? a=some o)/\∀ h1 h2:Heap,φ h1->(∀ o,h1.get? a=some o->h2.get? a=some o)->φ h2
noncomputable def HOk(H:Hp)(h:Heap):Prop:=∀ a o,H a=some o->ObjOk P w H h a o
end
section
variable {P:Program}{w:World}{H H':Hp}{h h':Heap}{a:Addr}{o:HO}
theorem ObjOk.lt(x:ObjOk P w H h a o):a<h.objs.size:=by
 cases o with
 | lst xs=>obtain⟨_,_,_,_,e⟩:=x;exact Heap.lt_size e
 | tup xs=>obtain⟨_,_,_,p⟩:=x;exact p.lt
 | dK kvs=>obtain⟨_,_,_,_,o,_,_,e,_⟩:=x;exact Heap.lt_size e
 | dT kvs=>obtain⟨_,_,_,_,o,_,_,e,_⟩:=x;exact Heap.lt_size e
 | set S n=>obtain⟨o,_,_,_,e,_⟩:=x;exact Heap.lt_size e
 | ins C dx fs=>obtain⟨_,_,_,e,_⟩:=x;exact Heap.lt_size e
 | own y=>obtain⟨_,e⟩:=x;exact Heap.lt_size e
 | xd fs=>obtain⟨_,⟨_,_,_,e,_⟩,_⟩:=x;exact Heap.lt_size e
 | rng lo hi=>obtain⟨_,_,_,e⟩:=x;exact Heap.lt_size e
 | frz ob u=>obtain⟨e,_⟩:=x;exact Heap.lt_size e
 | tbl ps=>exact Heap.lt_size (show h.get? a=some _ from x)
 | met f y=>exact Heap.lt_size (show h.get? a=some _ from x)
 | ext φ=>obtain⟨_,⟨_,e⟩,_⟩:=x;exact Heap.lt_size e
theorem Paired.mapP{α β:Type}{F G:α->β->Prop}:∀ {l₁:List α} {l₂:List β},Paired F l₁ l₂->(∀ a b,F a b->G a b)->Paired G l₁ l₂
 | _,_,.nil,_=>.nil
 | _,_,.cons r t,f=>.cons (f _ _ r) (Paired.mapP t f)
theorem ObjOk.stay(x:ObjOk P w H h a o)(k:∀ b u,(b=a \/ H b=some (.own a))->h.get? b=some u->h'.get? b=some u)
  (ho:∀ b,H b=some (.own a)->H' b=some (.own a)) (ht:∀ b xs,H b=some (.tup xs)->H' b=some (.tup xs)):ObjOk P w H' h' a o:=by
 induction o with
 | lst xs=>obtain⟨z,its,n,r,e⟩:=x;exact⟨z,its,n,r,k _ _ (.inl rfl) e⟩
 | tup xs=>obtain⟨z,its,r,ob,e,c⟩:=x;exact⟨z,its,r,ob,k _ _ (.inl rfl) e,c⟩
 | dK kvs=>obtain⟨z,y,vs,r,ob,es,ep,e,c⟩:=x;exact⟨z,y,vs,r,ob,es,ep,k _ _ (.inl rfl) e,c⟩
 | dT kvs=>
  obtain⟨z,y,xs,r,ob,es,ep,e,c⟩:=x
  exact⟨z,y,xs,Paired.mapP r fun p q z=>⟨z.1,ht _ _ z.2.1,z.2.2⟩,ob,es,ep,k _ _ (.inl rfl) e,c⟩
 | set S n=>obtain⟨ob,es,ep,t,e,c⟩:=x;exact⟨ob,es,ep,t,k _ _ (.inl rfl) e,c⟩
 | ins C dx fs=>
  obtain⟨d,z,ne,e,mA,⟨od,es,ep,e2,c⟩,r⟩:=x
  exact⟨ho _ d,z,ne,k _ _ (.inl rfl) e,mA,⟨od,es,ep,k _ _ (.inr d) e2,c⟩,r⟩
 | own y=>obtain⟨ob,e⟩:=x;exact⟨ob,k _ _ (.inl rfl) e⟩
 | xd fs=>obtain⟨mA,⟨od,es,ep,e,c⟩,r⟩:=x;exact⟨mA,⟨od,es,ep,k _ _ (.inl rfl) e,c⟩,r⟩
 | rng lo hi=>obtain⟨t,u,v,e⟩:=x;exact⟨t,u,v,k _ _ (.inl rfl) e⟩
 | frz ob u ih=>obtain⟨e,q⟩:=x;exact⟨k _ _ (.inl rfl) e,ih q⟩
 | tbl ps=>
  have e:h.get? a=some { cls:=.none,data:=.fields ps}:=x
  show h'.get? a=some { cls:=.none,data:=.fields ps}
  exact k a _ (.inl rfl) e
 | met f y=>
  have e:h.get? a=some (PySem.W.methodObj (.ref f) (.ref y)):=x
  show h'.get? a=some (PySem.W.methodObj (.ref f) (.ref y))
  exact k a _ (.inl rfl) e
 | ext φ=>obtain⟨p,⟨o,e⟩,st⟩:=x;exact⟨st _ _ p fun o q=>k _ _ (.inl rfl) q,⟨o,k _ _ (.inl rfl) e⟩,st⟩
theorem HOk.lt(x:HOk P w H h)(e:H a=some o):a<h.objs.size:=(x a o e).lt
theorem HOk.fresh(x:HOk P w H h)(e:h.objs.size<=a):H a=none:=by
 cases q:H a with
 | none=>rfl
 | some u=>exact absurd (Nat.lt_of_lt_of_le (x.lt q) e) (Nat.lt_irrefl _)
theorem HOk.kept(x:HOk P w H h)(k:∀ b u,h.get? b=some u->h'.get? b=some u):HOk P w H h':=fun a o e=>
 (x a o e).stay (fun b u _ q=>k b u q) (fun _ q=>q) fun _ _ q=>q
theorem HOk.laid(x:HOk P w H h)(k:∀ b u,h.get? b=some u->h'.get? b=some u)(hp:h.objs.size<=a)(new:ObjOk P w (upd H a o) h' a o):HOk P w (upd H a o) h':=fun b u e=>by
 have hn:=x.fresh hp
 by_cases hb:b=a
 ·subst hb;rw[zae] at e;cases e;exact new
 ·rw[zah hb] at e
  exact(x b u e).stay (fun c v _ q=>k c v q) (fun c q=>by rw[zah (zaL q hn)];exact q) fun c xs q=>by rw[zah (zaL q hn)];exact q
end
noncomputable def Rd(H:Hp)(a:Addr)(u:HO):Prop:=H a=some u \/ ∃ o,H a=some (.frz o u)
theorem Rd.of{H:Hp}{a:Addr}{u:HO}(h:H a=some u):Rd H a u:=.inl h
theorem Rd.ok{P:Program}{w:World}{H:Hp}{h:Heap}{a:Addr}{u:HO}(r:Rd H a u)(x:HOk P w H h):ObjOk P w H h a u:=by
 rcases r with r | ⟨o,r⟩
 ·exact x a u r
 ·obtain⟨_,q⟩:=x a _ r
  exact q
noncomputable def Mut:Option HO->Prop
 | some (.lst _)=>True
 | some (.dK _)=>True
 | some (.dT _)=>True
 | some (.set _ _)=>True
 | some (.ins _ _ _)=>True
 | some (.ext _)=>True
 | _=>False
section
variable {P:Program}{w:World}{H:Hp}{h h':Heap}{x e:Addr}{o':HO}
theorem HOk.write(ok:HOk P w H h)(mu:Mut (H x))(he:e=x \/ H e=some (.own x))(k:∀ b u,b ≠ e->h.get? b=some u->h'.get? b=some u)(heo:∃ u,h'.get? e=some u)
  (new:ObjOk P w (upd H x o') h' x o'):HOk P w (upd H x o') h':=fun b u q=>by
 have nown:∀ c y,H c=some (.own y)->c ≠ x:=fun c y r z=>by subst z;rw[r] at mu;exact mu
 have ntup:∀ c xs,H c=some (.tup xs)->c ≠ x:=fun c xs r z=>by subst z;rw[r] at mu;exact mu
 by_cases hb:b=x
 ·subst hb;rw[zae] at q;cases q;exact new
 ·rw[zah hb] at q
  by_cases hbe:b=e
  ·have q':H b=some (.own x):=by
    rcases he with z | z
    ·exact absurd (hbe.trans z) hb
    ·rw[hbe];exact z
   rw[q] at q';cases q'
   obtain⟨v,hv⟩:=heo
   exact⟨v,by rw[hbe];exact hv⟩
  ·refine(ok b u q).stay (fun c v hc r=>k c v ?_ r) (fun c r=>by rw[zah (nown c b r)];exact r) fun c xs r=>by rw[zah (ntup c xs r)];exact r
   rcases hc with rfl | hc
   ·exact hbe
   ·rintro rfl
    rcases he with z | z
    ·exact nown c b hc z
    ·rw[hc] at z;cases z;exact hb rfl
end
structure Un(fs ex:List Addr)(H H':Hp)(h h':Heap):Prop where
 keep:∀ b o,h.get? b=some o->H b=none->b ∉ fs->b ∉ ex->h'.get? b=some o
 slot:∀ b o,h.get? b=some o->H b=none->b ∈ fs->b ∉ ex->∃ sl,h'.get? b=some { o with slots:=sl}
 free:∀ b o,h.get? b=some o->H b=none->b ∉ ex->H' b=none
 there:∀ b o,h.get? b=some o->b ∉ ex->∃ o',h'.get? b=some o'
 tups:∀ b xs,H b=some (.tup xs)->H' b=some (.tup xs)
 frzs:∀ b o u,H b=some (.frz o u)->H' b=some (.frz o u)
 tbls:∀ b ps,H b=some (.tbl ps)->∃ more,H' b=some (.tbl (ps ++ more))
section
variable {fs fs' ex ex':List Addr}{H H1 H2:Hp}{h h1 h2 h':Heap}{a x e:Addr}{o:HO}
theorem Un.any(u:Un fs ex H H1 h h1){b:Addr}{ob:Obj}(q:h.get? b=some ob)(n:H b=none)(hx:b ∉ ex):∃ sl,h1.get? b=some { ob with slots:=sl}:=by
 by_cases hb:b ∈ fs
 ·exact u.slot b ob q n hb hx
 ·exact⟨ob.slots,u.keep b ob q n hb hx⟩
theorem Un.kept(k:∀ b u,h.get? b=some u->h'.get? b=some u):Un fs ex H H h h':=
 ⟨fun b ob q _ _ _=>k b ob q,fun b ob q _ _ _=>⟨ob.slots,k b ob q⟩,fun _ _ _ n _=>n,fun b ob q _=>⟨ob,k b ob q⟩,fun _ _ q=>q,fun _ _ _ q=>q,fun _ ps q=>⟨#[],by rw[q];simp⟩⟩
theorem Un.refl:Un fs ex H H h h:=Un.kept fun _ _ q=>q
theorem Un.laid(k:∀ b u,h.get? b=some u->h'.get? b=some u)(hp:h.objs.size<=a)(hn:H a=none):Un fs ex H (upd H a o) h h' where
 keep:=fun b u q _ _ _=>k b u q
 slot:=fun b u q _ _ _=>⟨u.slots,k b u q⟩
 free:=fun b u q n _=>by rw[zah (Nat.ne_of_lt (Nat.lt_of_lt_of_le (Heap.lt_size q) hp))];exact n
 there:=fun b u q _=>⟨u,k b u q⟩
 tups:=fun b xs q=>by rw[zah (zaL q hn)];exact q
 frzs:=fun b u xs q=>by rw[zah (zaL q hn)];exact q
 tbls:=fun b ps q=>⟨#[],by rw[zah (zaL q hn),q];simp⟩
theorem Un.write(mu:Mut (H x))(he:e=x \/ H e=some (.own x))(k:∀ b u,b ≠ e->h.get? b=some u->h'.get? b=some u)(heo:∃ u,h'.get? e=some u):Un fs ex H (upd H x o) h h':=by
 have hx:∀ b,H b=none->b ≠ x:=fun b n z=>by subst z;rw[n] at mu;exact mu
 have hb:∀ b,H b=none->b ≠ e:=fun b n z=>by
  subst z
  rcases he with r | r
  ·exact hx b n r
  ·rw[n] at r;cases r
 have hm:∀ b u,H b=some u->¬ Mut (some u)->b ≠ x:=fun b u q nm z=>by subst z;rw[q] at mu;exact nm mu
 refine⟨fun b u q n _ _=>k b u (hb b n) q,fun b u q n _ _=>⟨u.slots,k b u (hb b n) q⟩,fun b u q n _=>by rw[zah (hx b n)];exact n,fun b u q _=>?_,
  fun b xs q=>by rw[zah (hm b _ q fun z=>z)];exact q,fun b u xs q=>by rw[zah (hm b _ q fun z=>z)];exact q,fun b ps q=>⟨#[],by rw[zah (hm b _ q fun z=>z),q];simp⟩⟩
 by_cases hbe:b=e
 ·subst hbe;exact heo
 ·exact⟨u,k b u hbe q⟩
end
noncomputable def trk(h:Heap)(H:Hp):List Addr:=(List.range h.objs.size).filter fun a=>(H a).isSome
noncomputable def hidT(h:Heap)(H:Hp):Heap:=PySem.W.hideAll h (trk h H)
theorem hidT_size(h:Heap)(H:Hp):(hidT h H).objs.size=h.objs.size:=PySem.W.hideAll_size _ _
theorem hidT_get{h:Heap}{H:Hp}{b:Addr}{o:Obj}(e:h.get? b=some o)(n:H b=none):(hidT h H).get? b=some o:=
 PySem.W.hideAll_get _ e fun hm=>by
  have q:(H b).isSome=true:=(List.mem_filter.mp hm).2
  rw[n] at q;simp at q
theorem of_hidT{h:Heap}{H:Hp}{b:Addr}{o:Obj}(e:(hidT h H).get? b=some o):h.get? b=some o/\H b=none:=by
 have e':h.get? b=some o:=PySem.W.of_hideAll (trk h H) e
 refine⟨e',?_⟩
 cases q:H b with
 | none=>rfl
 | some x=>
  have hm:b ∈ trk h H:=List.mem_filter.mpr ⟨List.mem_range.mpr (Heap.lt_size e'),by simp[q]⟩
  have z:(hidT h H).get? b=none:=PySem.W.hideAll_none (trk h H) hm
  rw[z] at e;cases e
noncomputable def allNews(g h:Heap)(L:Addr):List (Addr × Obj):=(List.range h.objs.size).filterMap fun a=>if a=L \/ (g.get? a).isSome=true then none else (h.get? a).map fun o=>(a,o)
noncomputable def rest(g h:Heap)(L d:Addr):List (Addr × Obj):=(allNews g h L).filter fun p=>decide (p.1 ≠ d)
end L2
namespace L2
open PySem PySem.Spec PyProof.Rows
structure Mod(K:PySem.W.Frag)(mg:Str->Option Value)(base:Heap):Prop where
 kin:K.In base
 glob:base.Ns mainGlobals mg
 blt:∃ mb,base.Ns builtinsNs mb/\∀ x:Str,x ≠ "__name__" -> mb x=bootBuiltins x
 nolimit:base.NoLimit
structure Cx where
 prog:Program
 w:World
 K:PySem.W.Frag
 mg:Str->Option Value
 base:Heap
 A:Around
 N:List Str
 s₀:Shared
 H₀:Hp
 env:Env
 outer:List Env
 stack:List Env
 ex:List Addr
 fn:Str->Bool
 calm:Bool
 pn:List (Addr × Obj)
 xe:Value->Shared->Prop
noncomputable def frs(l:List Env):List Addr:=l.filterMap (·.frame)
noncomputable abbrev Cx.fs(X:Cx):List Addr:=frs X.outer
noncomputable def Vis(sc:Scope)(x:Str):Prop:=sc.names.lookup x=some .local \/ sc.names.lookup x=some .cell \/ sc.names.lookup x=some .free
noncomputable def Loc(sc:Scope)(x:Str):Prop:=sc.names.lookup x=some .local \/ sc.names.lookup x=some .cell
noncomputable def Look(env:Env)(h:Heap)(m:Str->Option Value)(x:Str)(u:Value):Prop:=
 (env.kindOf x=some .local/\m x=some u) \/ ((env.kindOf x=some .cell \/ env.kindOf x=some .free)/\∃ c,env.cells.lookup x=some c/\h.IsCell c (some u))
structure Cx.Ok(X:Cx):Prop where
 mod:Mod X.K X.mg X.base
 kind:X.env.scope.kind=.function
 glob:X.env.globals=mainGlobals
 blt:X.env.builtins=builtinsNs
 above:X.s₀.heap.objs.size<=X.env.locals
 inj:∀ x y c,X.env.cells.lookup x=some c->X.env.cells.lookup y=some c->x=y
 has:∀ x,(X.env.kindOf x=some .cell \/ X.env.kindOf x=some .free)->∃ c,X.env.cells.lookup x=some c
 cab:∀ x c,X.fn x=true->X.env.cells.lookup x=some c->X.s₀.heap.objs.size<=c
 hd:X.calm=true->X.A.handled=none
 frames:X.A.frames=some X.stack
 stk:X.stack=X.outer \/ (X.stack=X.env :: X.outer/\X.env.frame=some X.env.locals)
 exf:∀ b ∈ X.ex,b ≠ X.env.locals/\∀ x c,X.env.cells.lookup x=some c->c ≠ b
 bs:∀ b o,X.base.get? b=some o->X.s₀.heap.get? b=some o/\X.H₀ b=none
 bsz:X.base.objs.size<=X.s₀.heap.objs.size
 noex:∀ b o,X.base.get? b=some o->b ∉ X.ex
 exfs:∀ b ∈ X.ex,b ∉ X.fs
 funs:X.s₀.heap.FunFrames X.base X.outer
 frf:∀ b ∈ X.fs,X.H₀ b=none
structure Inv(X:Cx)(pins:List (Addr × Obj))(σ:List (Option V))(H:Hp)(s:Shared):Prop where
 ok:X.Ok
 os:s.os=X.s₀.os
 bare:AllBare s.gens
 base:Un X.fs X.ex X.H₀ H X.s₀.heap s.heap
 loc:∃ m,s.heap.Ns X.env.locals m/\∀ (i:Nat) (x:Str) (v:V),X.N[i]? = some x->σ[i]? = some (some v)->Vis X.env.scope x->∃ u,RelV v u/\Look X.env s.heap m x u
 cell:∀ x c,X.env.cells.lookup x=some c->∃ v,s.heap.IsCell c v
 free:H X.env.locals=none
 freeC:∀ x c,X.env.cells.lookup x=some c->H c=none
 pin:∀ p ∈ X.pn ++ pins,s.heap.get? p.1=some p.2/\H p.1=none/\p.1 ≠ X.env.locals/\p.1 ∉ X.fs/\∀ v,p.2.data ≠ .cell v
 hok:HOk X.prog X.w H s.heap
 len:σ.length=X.N.length
section
variable {X:Cx}{pins:List (Addr × Obj)}{σ:List (Option V)}{H H':Hp}{s:Shared}{h':Heap}
theorem Cx.Ok.nofr(ok:X.Ok){b:Addr}{o:Obj}(e:X.base.get? b=some o):b ∉ X.fs:=fun hb=>by
 have:=(ok.funs.mem hb).1
 rw[e] at this;cases this
theorem Inv.bs(I:Inv X pins σ H s):∀ b o,X.base.get? b=some o->s.heap.get? b=some o/\H b=none:=fun b o e=>
 ⟨I.base.keep b o (I.ok.bs b o e).1 (I.ok.bs b o e).2 (I.ok.nofr e) (I.ok.noex b o e),I.base.free b o (I.ok.bs b o e).1 (I.ok.bs b o e).2 (I.ok.noex b o e)⟩
theorem Inv.bk(I:Inv X pins σ H s):∀ b o,X.base.get? b=some o->s.heap.get? b=some o:=fun b o e=>(I.bs b o e).1
theorem Inv.mod(I:Inv X pins σ H s):Mod X.K X.mg X.base:=I.ok.mod
theorem Inv.kIn(I:Inv X pins σ H s):X.K.In s.heap:=I.ok.mod.kin.keeps I.bk
theorem Inv.lt(I:Inv X pins σ H s):X.env.locals<s.heap.objs.size:=let⟨_,hn,_⟩:=I.loc;hn.lt
theorem Inv.sz(I:Inv X pins σ H s):X.s₀.heap.objs.size<=s.heap.objs.size:=Nat.le_trans I.ok.above (Nat.le_of_lt I.lt)
theorem Inv.nofs(I:Inv X pins σ H s){a:Addr}(h:s.heap.objs.size<=a):a ∉ X.fs:=fun hb=>by
 obtain⟨_,o,ho,_⟩:=I.ok.funs.mem hb
 exact absurd (Nat.lt_of_lt_of_le (Heap.lt_size ho) (Nat.le_trans I.sz h)) (Nat.lt_irrefl _)
theorem Inv.cne(I:Inv X pins σ H s):∀ x c,X.env.cells.lookup x=some c->c ≠ X.env.locals:=fun x c e z=>by
 obtain⟨v,o,ho,hd⟩:=I.cell x c e
 obtain⟨m,⟨o',es,ep,ho',hd',_⟩,_⟩:=I.loc
 rw[z,ho'] at ho;cases ho;rw[hd'] at hd;cases hd
theorem Inv.funs(I:Inv X pins σ H s):s.heap.FunFrames X.base X.outer:=by
 have all:∀ (l:List Env),(∀ b ∈ frs l,b ∈ X.fs)->X.s₀.heap.FunFrames X.base l->s.heap.FunFrames X.base l:=by
  intro l
  induction l with
  | nil=>intro _ _;trivial
  | cons env r ih=>
   intro hs hl
   obtain⟨hk,⟨L,o,hf,hn,ho,hd⟩,hr⟩:=hl
   have hL:L ∈ X.fs:=hs L (by unfold frs;rw[List.filterMap_cons,hf];exact List.mem_cons_self)
   obtain⟨sl,e⟩:=I.base.slot L o ho (I.ok.frf L hL) hL fun z=>I.ok.exfs L z hL
   exact⟨hk,⟨L,_,hf,hn,e,hd⟩,ih (fun b hb=>hs b (by unfold frs;rw[List.filterMap_cons,hf];exact List.mem_cons_of_mem _ hb)) hr⟩
 exact all X.outer (fun _ hb=>hb) I.ok.funs
theorem Inv.stack(I:Inv X pins σ H s):s.heap.FunFrames X.base X.stack:=by
 rcases I.ok.stk with e | ⟨e,hf⟩
 ·rw[e];exact I.funs
 ·rw[e]
  obtain⟨m,hn,_⟩:=I.loc
  refine .cons (by rw[I.ok.kind];decide) hf hn ?_ I.funs
  exact Heap.get?_none_of_le (Nat.le_trans I.ok.bsz I.ok.above)
theorem Inv.stkSub(I:Inv X pins σ H s):∀ b ∈ frs X.stack,b ∈ X.env.locals :: X.fs:=fun b hb=>by
 rcases I.ok.stk with e | ⟨e,hf⟩
 ·rw[e] at hb;exact List.mem_cons_of_mem _ hb
 ·rw[e] at hb
  unfold frs at hb
  rw[List.filterMap_cons,hf] at hb
  exact hb
theorem Inv.stkFree(I:Inv X pins σ H s):∀ b ∈ frs X.stack,H b=none:=fun b hb=>by
 rcases List.mem_cons.mp (I.stkSub b hb) with e | hb
 ·rw[e];exact I.free
 ·obtain⟨_,o,ho,_⟩:=I.ok.funs.mem hb
  exact I.base.free b o ho (I.ok.frf b hb) fun z=>I.ok.exfs b z hb
theorem Inv.step{g':Array GenState}{t':Nat}{d':Drawn}{ch:List Addr}(I:Inv X pins σ H s)
  (hch:∀ b ∈ ch,(b ∈ X.ex \/ X.s₀.heap.objs.size<=b)/\b ≠ X.env.locals/\(∀ x c,X.env.cells.lookup x=some c->c ≠ b)/\∀ p ∈ X.pn ++ pins,p.1 ≠ b)
  (keep:∀ b o,b ≠ X.env.locals->b ∉ X.fs->b ∉ ch->s.heap.get? b=some o->H b=none->h'.get? b=some o)
  (slot:∀ b o,b ≠ X.env.locals->b ∈ X.fs->b ∉ ch->s.heap.get? b=some o->H b=none->∃ sl,h'.get? b=some { o with slots:=sl}) (free:∀ b o,b ∉ ch->s.heap.get? b=some o->H b=none->H' b=none)
  (there:∀ b o,b ∉ ch->s.heap.get? b=some o->∃ o',h'.get? b=some o')
  (tups:∀ b xs,H b=some (.tup xs)->H' b=some (.tup xs)) (frzs:∀ b o u,H b=some (.frz o u)->H' b=some (.frz o u)) (tbls:∀ b ps,H b=some (.tbl ps)->∃ more,H' b=some (.tbl (ps ++ more)))
  (ns:∀ m,s.heap.Ns X.env.locals m->h'.Ns X.env.locals m) (hok:HOk X.prog X.w H' h') (hg:AllBare g') :
  Inv X pins σ H' { s with heap:=h',gens:=g',drawn:=d',toks:=t'}:=by
 have neL:∀ b o,X.s₀.heap.get? b=some o->b ≠ X.env.locals:=fun b o e=>Nat.ne_of_lt (Nat.lt_of_lt_of_le (Heap.lt_size e) I.ok.above)
 have neC:∀ b o,X.s₀.heap.get? b=some o->b ∉ X.ex->b ∉ ch:=fun b o e hx hb=>by
  rcases (hch b hb).1 with z | z
  ·exact hx z
  ·exact absurd (Nat.lt_of_lt_of_le (Heap.lt_size e) z) (Nat.lt_irrefl _)
 have cellK:∀ x c,X.env.cells.lookup x=some c->∀ v,s.heap.IsCell c v->h'.IsCell c v:=fun x c e v ⟨o,ho,hd⟩=>by
  have nch:c ∉ ch:=fun z=>(hch c z).2.2.1 x c e rfl
  by_cases hc:c ∈ X.fs
  ·obtain⟨sl,q⟩:=slot c o (I.cne x c e) hc nch ho (I.freeC x c e)
   exact⟨_,q,hd⟩
  ·exact⟨o,keep c o (I.cne x c e) hc nch ho (I.freeC x c e),hd⟩
 refine⟨I.ok,I.os,hg,⟨fun b o e n hb hx=>?_,fun b o e n hb hx=>?_,fun b o e n hx=>?_,fun b o e hx=>?_,fun b xs e=>tups b xs (I.base.tups b xs e),fun b o xs e=>frzs b o xs (I.base.frzs b o xs e),fun b ps e=>?_⟩,?_,fun x c e=>?_,?_,fun x c e=>?_,fun p hp=>?_,hok,I.len⟩
 ·exact keep b o (neL b o e) hb (neC b o e hx) (I.base.keep b o e n hb hx) (I.base.free b o e n hx)
 ·obtain⟨sl,e1⟩:=I.base.slot b o e n hb hx
  obtain⟨sl',e2⟩:=slot b _ (neL b o e) hb (neC b o e hx) e1 (I.base.free b o e n hx)
  exact⟨sl',e2⟩
 ·obtain⟨o',e1⟩:=I.base.there b o e hx
  exact free b o' (neC b o e hx) e1 (I.base.free b o e n hx)
 ·obtain⟨o',e1⟩:=I.base.there b o e hx
  exact there b o' (neC b o e hx) e1
 ·obtain⟨m1,e1⟩:=I.base.tbls b ps e
  obtain⟨m2,e2⟩:=tbls b _ e1
  exact⟨m1 ++ m2,by rw[e2,Array.append_assoc]⟩
 ·obtain⟨m,hn,hl⟩:=I.loc
  refine⟨m,ns m hn,fun i x v e1 e2 e3=>?_⟩
  obtain⟨u,r,l⟩:=hl i x v e1 e2 e3
  refine⟨u,r,?_⟩
  rcases l with l | ⟨k,c,e,z⟩
  ·exact .inl l
  ·exact .inr ⟨k,c,e,cellK x c e _ z⟩
 ·obtain⟨v,z⟩:=I.cell x c e
  exact⟨v,cellK x c e v z⟩
 ·obtain⟨m,⟨o,_,_,ho,_⟩,_⟩:=I.loc
  exact free _ o (fun z=>(hch _ z).2.1 rfl) ho I.free
 ·obtain⟨v,o,ho,hd⟩:=I.cell x c e
  exact free c o (fun z=>(hch c z).2.2.1 x c e rfl) ho (I.freeC x c e)
 ·obtain⟨e,n,ne,nf,d⟩:=I.pin p hp
  have nch:p.1 ∉ ch:=fun z=>(hch p.1 z).2.2.2 p hp rfl
  exact⟨keep p.1 p.2 ne nf nch e n,free p.1 p.2 nch e n,ne,nf,d⟩
theorem Inv.un{t':Nat}(I:Inv X pins σ H s)(u:Un X.fs [] H H' s.heap h')(hok:HOk X.prog X.w H' h'):Inv X pins σ H' { s with heap:=h',toks:=t'}:=by
 obtain⟨m,⟨o,es,ep,ho,r⟩,_⟩:=id I.loc
 obtain⟨sl,hL⟩:=u.any ho I.free (by simp)
 exact I.step (g':=s.gens) (d':=s.drawn) (ch:=[]) (fun _ z=>nomatch z) (fun b o _ hb _ e n=>u.keep b o e n hb (by simp)) (fun b o _ hb _ e n=>u.slot b o e n hb (by simp)) (fun b o _ e n=>u.free b o e n (by simp)) (fun b o _ e=>u.there b o e (by simp)) u.tups u.frzs u.tbls (fun m' hm=>by
  obtain⟨o',es',ep',ho',r'⟩:=hm
  rw[ho] at ho';cases ho'
  exact⟨_,es',ep',hL,r'⟩) hok I.bare
theorem Inv.call{g':Array GenState}{t':Nat}{d':Drawn}{ch:List Addr}(I:Inv X pins σ H s)(u:Un (frs X.stack) ch H H' s.heap h')(hok:HOk X.prog X.w H' h')(hg:AllBare g')
  (hch:∀ b ∈ ch,(b ∈ X.ex \/ X.s₀.heap.objs.size<=b)/\b ≠ X.env.locals/\(∀ x c,X.env.cells.lookup x=some c->c ≠ b)/\∀ p ∈ X.pn ++ pins,p.1 ≠ b) :
  Inv X pins σ H' { s with heap:=h',gens:=g',drawn:=d',toks:=t'}:=by
 obtain⟨m,⟨o,es,ep,ho,r⟩,_⟩:=id I.loc
 obtain⟨sl,hL⟩:=u.any ho I.free fun z=>(hch _ z).2.1 rfl
 exact I.step (ch:=ch) hch (fun b o hL hb hc e n=>u.keep b o e n (fun z=>(List.mem_cons.mp (I.stkSub b z)).elim hL hb) hc) (fun b o _ _ hc e n=>u.any e n hc) (fun b o hc e n=>u.free b o e n hc) (fun b o hc e=>u.there b o e hc) u.tups u.frzs u.tbls (fun m' hm=>by
  obtain⟨o',es',ep',ho',r'⟩:=hm
  rw[ho] at ho';cases ho'
  exact⟨_,es',ep',hL,r'⟩) hok hg
theorem Inv.turned{t':Nat}{it:Addr}(I:Inv X pins σ H s)(k:∀ b o,b ≠ it->s.heap.get? b=some o->h'.get? b=some o)(hn:H it=none)(hL:it ≠ X.env.locals)
  (h1:it ∈ X.ex \/ X.s₀.heap.objs.size<=it) (h2:∀ x c,X.env.cells.lookup x=some c->c ≠ it) (h3:∀ p ∈ X.pn ++ pins,p.1 ≠ it):Inv X pins σ H { s with heap:=h',toks:=t'}:=by
 have nit:∀ b u,H b=some u->b ≠ it:=fun b u e z=>by rw[z,hn] at e;cases e
 refine I.step (g':=s.gens) (d':=s.drawn) (ch:=[it]) (fun b hb=>?_) (fun b o _ _ hc e _=>k b o (fun z=>hc (by simp[z])) e) (fun b o _ _ hc e _=>⟨o.slots,k b o (fun z=>hc (by simp[z])) e⟩) (fun _ _ _ _ n=>n)
  (fun b o hc e=>⟨o,k b o (fun z=>hc (by simp[z])) e⟩) (fun _ _ e=>e) (fun _ _ _ e=>e) (fun b ps e=>⟨#[],by rw[e];simp⟩) (fun m hm=>?_) (fun b u e=>?_) I.bare
 ·have e:b=it:=by simpa using hb
  subst e
  exact⟨h1,hL,h2,h3⟩
 ·obtain⟨o,es,ep,ho,r⟩:=hm
  exact⟨o,es,ep,k _ o (Ne.symm hL) ho,r⟩
 ·refine(I.hok b u e).stay (fun c v hc q=>k c v ?_ q) (fun _ q=>q) fun _ _ q=>q
  rcases hc with z | z
  ·rw[z];exact nit b u e
  ·exact nit c _ z
theorem Inv.tok(I:Inv X pins σ H s)(t:Nat):Inv X pins σ H { s with toks:=t}:=I.un (h':=s.heap) (t':=t) Un.refl I.hok
theorem Inv.kept{t':Nat}(I:Inv X pins σ H s)(k:∀ b u,s.heap.get? b=some u->h'.get? b=some u):Inv X pins σ H { s with heap:=h',toks:=t'}:=I.un (Un.kept k) (I.hok.kept k)
theorem Inv.laid{a:Addr}{o:HO}{t':Nat}(I:Inv X pins σ H s)(k:∀ b u,s.heap.get? b=some u->h'.get? b=some u)(hp:s.heap.objs.size<=a)(new:ObjOk X.prog X.w (upd H a o) h' a o) :
  Inv X pins σ (upd H a o) { s with heap:=h',toks:=t'}:=I.un (Un.laid k hp (I.hok.fresh hp)) (I.hok.laid k hp new)
theorem Inv.write{x e:Addr}{o:HO}{t':Nat}(I:Inv X pins σ H s)(mu:Mut (H x))(he:e=x \/ H e=some (.own x))(k:∀ b u,b ≠ e->s.heap.get? b=some u->h'.get? b=some u)(heo:∃ u,h'.get? e=some u)
  (new:ObjOk X.prog X.w (upd H x o) h' x o):Inv X pins σ (upd H x o) { s with heap:=h',toks:=t'}:=I.un (Un.write mu he k heo) (I.hok.write mu he k heo new)
theorem Inv.pins_of{pins':List (Addr × Obj)}(I:Inv X pins σ H s)(h:∀ p ∈ pins',s.heap.get? p.1=some p.2/\H p.1=none/\p.1 ≠ X.env.locals/\p.1 ∉ X.fs/\∀ v,p.2.data ≠ .cell v):Inv X pins' σ H s:=
 ⟨I.ok,I.os,I.bare,I.base,I.loc,I.cell,I.free,I.freeC,fun p hp=>(List.mem_append.mp hp).elim (fun z=>I.pin p (List.mem_append_left _ z)) (h p),I.hok,I.len⟩
theorem zgQ{N:List Str}(hN:N.Nodup){i j:Nat}{x:Str}(a:N[i]? = some x)(b:N[j]? = some x):i=j:=by
 obtain⟨h1,e1⟩:=List.getElem?_eq_some_iff.mp a
 obtain⟨h2,e2⟩:=List.getElem?_eq_some_iff.mp b
 exact(List.getElem_inj hN).mp (e1.trans e2.symm)
theorem zfr{M:Model}{A:Around}{E:Value->Shared->Prop}{i:Nat}{x:Str}{v:V}{u:Value}{Q:Unit->Shared->Prop}(I:Inv X pins σ H s)(hN:X.N.Nodup)(hi:X.N[i]? = some x)(hx:Loc X.env.scope x)(r:RelV v u)
  (h:∀ s',Inv X pins (σ.set i (some v)) H s'->(∃ a,Heap.SameBut a s.heap s'.heap/\(a=X.env.locals \/ X.env.cells.lookup x=some a))->Q () s') (hf:X.fn x=true \/ X.env.scope.names.lookup x=some .local:=by first | exact .inl rfl | exact .inr rfl | assumption):wpAny M A (storeName X.env x u) Q E s:=by
 obtain⟨m,hn,hl⟩:=id I.loc
 have hcls:(X.env.scope.kind == .class || (X.env.scope.kind == .module && X.env.locals != X.env.globals))=false:=by rw[I.ok.kind];rfl
 have hiσ:i<σ.length:=by rw[I.len];exact(List.getElem?_eq_some_iff.mp hi).1
 have cne:=I.cne
 have tracked:∀ {a:Addr} {h':Heap},(∃ o,s.heap.get? a=some o/\H a=none)->Heap.SameBut a s.heap h'->HOk X.prog X.w H h':=fun {a h'} ha hs b ob e=>by
  obtain⟨_,_,hfree⟩:=ha
  refine(I.hok b ob e).stay (fun c w' hc q=>(hs.2 c ?_).trans q) (fun _ q=>q) fun _ _ q=>q
  rintro rfl
  rcases hc with rfl | hc
  ·rw[hfree] at e;cases e
  ·rw[hfree] at hc;cases hc
 rcases hx with hk | hk
 ·refine wpAny_storeName_local hk hn (fun h' hn' hs=>?_) hcls
  obtain⟨oL,_,_,hoL,_⟩:=id hn
  refine h _ ⟨I.ok,I.os,I.bare,⟨fun b o e n hb hx=>?_,fun b o e n hb hx=>?_,I.base.free,fun b o e hx=>?_,I.base.tups,I.base.frzs,I.base.tbls⟩,⟨_,hn',fun j y v' e1 e2 e3=>?_⟩,fun y c e=>?_,I.free,I.freeC,fun p hp=>?_,tracked ⟨oL,hoL,I.free⟩ hs,by simpa using I.len⟩ ⟨_,hs,.inl rfl⟩
  ·exact(hs.2 b (Nat.ne_of_lt (Nat.lt_of_lt_of_le (Heap.lt_size e) I.ok.above))).trans (I.base.keep b o e n hb hx)
  ·obtain⟨sl,e1⟩:=I.base.slot b o e n hb hx
   exact⟨sl,(hs.2 b (Nat.ne_of_lt (Nat.lt_of_lt_of_le (Heap.lt_size e) I.ok.above))).trans e1⟩
  ·obtain⟨o',e1⟩:=I.base.there b o e hx
   exact⟨o',(hs.2 b (Nat.ne_of_lt (Nat.lt_of_lt_of_le (Heap.lt_size e) I.ok.above))).trans e1⟩
  ·by_cases hj:j=i
   ·subst hj
    rw[hi] at e1;cases e1
    rw[List.getElem?_set_self hiσ] at e2
    cases e2
    exact⟨u,r,.inl ⟨hk,by simp⟩⟩
   ·rw[List.getElem?_set_ne (Ne.symm hj)] at e2
    obtain⟨u',r',q⟩:=hl j y v' e1 e2 e3
    refine⟨u',r',?_⟩
    rcases q with ⟨k,e⟩ | ⟨k,c,e,z⟩
    ·refine .inl ⟨k,?_⟩
     have:y ≠ x:=fun e=>hj (zgQ hN e1 (e ▸ hi))
     simp[this,e]
    ·exact .inr ⟨k,c,e,z.sameBut hs (cne y c e)⟩
  ·obtain⟨w',z⟩:=I.cell y c e
   exact⟨w',z.sameBut hs (cne y c e)⟩
  ·obtain⟨e,n,ne,nf,d⟩:=I.pin p hp
   exact⟨(hs.2 p.1 ne).trans e,n,ne,nf,d⟩
 ·have hfn:X.fn x=true:=by
   rcases hf with z | z
   ·exact z
   ·rw[z] at hk;cases hk
  obtain⟨c,hc⟩:=I.ok.has x (.inl hk)
  obtain⟨w',z⟩:=I.cell x c hc
  refine wpAny_storeName_cell I.ok.kind hk hc z (fun h' hc' hs=>?_)
  obtain⟨oc,hoc,hocd⟩:=id z
  refine h { s with heap:=h'} ⟨I.ok,I.os,I.bare,⟨fun b o e n hb hx=>?_,fun b o e n hb hx=>?_,I.base.free,fun b o e hx=>?_,I.base.tups,I.base.frzs,I.base.tbls⟩,⟨m,hn.sameBut hs (Ne.symm (cne x c hc)),fun j y v' e1 e2 e3=>?_⟩,fun y c' e=>?_,I.free,I.freeC,fun p hp=>?_,tracked ⟨oc,hoc,I.freeC x c hc⟩ hs,by simpa using I.len⟩ ⟨c,hs,.inr hc⟩
  ·exact(hs.2 b (Nat.ne_of_lt (Nat.lt_of_lt_of_le (Heap.lt_size e) (I.ok.cab x c hfn hc)))).trans (I.base.keep b o e n hb hx)
  ·obtain⟨sl,e1⟩:=I.base.slot b o e n hb hx
   exact⟨sl,(hs.2 b (Nat.ne_of_lt (Nat.lt_of_lt_of_le (Heap.lt_size e) (I.ok.cab x c hfn hc)))).trans e1⟩
  ·obtain⟨o',e1⟩:=I.base.there b o e hx
   exact⟨o',(hs.2 b (Nat.ne_of_lt (Nat.lt_of_lt_of_le (Heap.lt_size e) (I.ok.cab x c hfn hc)))).trans e1⟩
  ·by_cases hj:j=i
   ·subst hj
    rw[hi] at e1;cases e1
    rw[List.getElem?_set_self hiσ] at e2
    cases e2
    exact⟨u,r,.inr ⟨.inl hk,c,hc,hc'⟩⟩
   ·rw[List.getElem?_set_ne (Ne.symm hj)] at e2
    obtain⟨u',r',q⟩:=hl j y v' e1 e2 e3
    refine⟨u',r',?_⟩
    rcases q with q | ⟨k,c',e,z'⟩
    ·exact .inl q
    ·refine .inr ⟨k,c',e,z'.sameBut hs ?_⟩
     rintro rfl
     exact hj (zgQ hN e1 (I.ok.inj _ _ _ e hc ▸ hi))
  ·by_cases hcc:c'=c
   ·subst hcc;exact⟨_,hc'⟩
   ·obtain⟨w2,z2⟩:=I.cell y c' e
    exact⟨w2,z2.sameBut hs hcc⟩
  ·obtain⟨e,n,ne,nf,d⟩:=I.pin p hp
   refine⟨(hs.2 p.1 ?_).trans e,n,ne,nf,d⟩
   intro q
   rw[q,hoc] at e
   have q':oc=p.2:=Option.some.inj e
   exact d w' (by rw[<- q'];exact hocd)
theorem ze6{M:Model}{A:Around}{E:Value->Shared->Prop}{i:Nat}{x:Str}{v:V}{u:Value}{Q:Unit->Shared->Prop}(I:Inv X pins σ H s)(hN:X.N.Nodup)(hi:X.N[i]? = some x)(hx:Loc X.env.scope x)(r:RelV v u)
  (h:∀ s',Inv X pins (σ.set i (some v)) H s'->Q () s') (hf:X.fn x=true \/ X.env.scope.names.lookup x=some .local:=by first | exact .inl rfl | exact .inr rfl | assumption):wpAny M A (storeName X.env x u) Q E s:=
 zfr I hN hi hx r (fun s' I' _=>h s' I') hf
theorem Inv.call'{s':Shared}{ch:List Addr}(I:Inv X pins σ H s)(ho:s'.os=s.os)(u:Un (frs X.stack) ch H H' s.heap s'.heap)(hok:HOk X.prog X.w H' s'.heap)(hg:AllBare s'.gens)
  (hch:∀ b ∈ ch,(b ∈ X.ex \/ X.s₀.heap.objs.size<=b)/\b ≠ X.env.locals/\(∀ x c,X.env.cells.lookup x=some c->c ≠ b)/\∀ p ∈ X.pn ++ pins,p.1 ≠ b):Inv X pins σ H' s':=by
 obtain⟨h',g',d',t',o'⟩:=s'
 have e:o'=s.os:=ho
 subst e
 exact I.call (g':=g') (t':=t') (d':=d') u hok hg hch
end
noncomputable abbrev XK:=Value->Option Addr->Hp->Prop
noncomputable abbrev St:=List (Option V)
noncomputable abbrev VK:=V->Hp->Prop
noncomputable abbrev TE:=St->Hp->VK->Prop
noncomputable abbrev TT:=St->Hp->(Bool->Hp->Prop)->Prop
noncomputable abbrev TA:=St->Hp->(List V->Hp->Prop)->Prop
structure Ends where
 nx:St->Hp->Prop
 rt:VK
 bk:St->Hp->Prop:=fun _ _=>False
 ct:St->Hp->Prop:=fun _ _=>False
noncomputable abbrev TS:=Ends->St->Hp->Prop
noncomputable def EP(X:Cx)(pins:List (Addr × Obj))(σ:St)(Q:VK)(u:Value)(s':Shared):Prop:=∃ v H',Inv X pins σ H' s'/\RelV v u/\Q v H'
noncomputable def TP(X:Cx)(pins:List (Addr × Obj))(σ:St)(Q:Bool->Hp->Prop)(b:Bool)(s':Shared):Prop:=∃ H',Inv X pins σ H' s'/\Q b H'
noncomputable def AP(X:Cx)(pins:List (Addr × Obj))(σ:St)(Q:List V->Hp->Prop)(us:List Value)(s':Shared):Prop:=∃ vs H',Inv X pins σ H' s'/\Vals vs us/\Q vs H'
noncomputable def SP(X:Cx)(pins:List (Addr × Obj))(D:Ends)(f:Flow)(s':Shared):Prop:=
 match f with
 | .next=>∃ σ' H',Inv X pins σ' H' s'/\D.nx σ' H'
 | .brk=>∃ σ' H',Inv X pins σ' H' s'/\D.bk σ' H'
 | .cont=>∃ σ' H',Inv X pins σ' H' s'/\D.ct σ' H'
 | .ret u=>∃ v σ' H',Inv X pins σ' H' s'/\RelV v u/\D.rt v H'
noncomputable def PE(X:Cx)(e:Expr)(t:TE):Prop:=
 ∀ (pins:List (Addr × Obj)) (s:Shared) (σ:St) (H:Hp) (Q:VK),Inv X pins σ H s->t σ H Q->wpAny (model X.prog X.w) X.A (eval e X.env) (EP X pins σ Q) X.xe s
noncomputable def PT(X:Cx)(e:Expr)(t:TT):Prop:=
 ∀ (pins:List (Addr × Obj)) (s:Shared) (σ:St) (H:Hp) (Q:Bool->Hp->Prop),Inv X pins σ H s->t σ H Q->wpAny (model X.prog X.w) X.A (isTrue e X.env (eval e X.env)) (TP X pins σ Q) X.xe s
noncomputable def PW(X:Cx)(e:Expr)(t:TT):Prop:=
 ∀ (whole:Sem Value) (pins:List (Addr × Obj)) (s:Shared) (σ:St) (H:Hp) (Q:Bool->Hp->Prop),Inv X pins σ H s->t σ H Q->wpAny (model X.prog X.w) X.A (isTrue e X.env whole) (TP X pins σ Q) X.xe s
theorem PW.pt{X:Cx}{e:Expr}{t:TT}(h:PW X e t):PT X e t:=h _
noncomputable def PA(X:Cx)(es:List Expr)(t:TA):Prop:=
 ∀ (pos:Pos) (pins:List (Addr × Obj)) (s:Shared) (σ:St) (H:Hp) (Q:List V->Hp->Prop),Inv X pins σ H s->t σ H Q->wpAny (model X.prog X.w) X.A (spliced (backTo pos (starEach es X.env))) (AP X pins σ Q) X.xe s
noncomputable def PS(X:Cx)(st:Stmt)(t:TS):Prop:=
 ∀ (pins:List (Addr × Obj)) (s:Shared) (σ:St) (H:Hp) (D:Ends),Inv X pins σ H s->t D σ H->wpAny (model X.prog X.w) X.A (exec st X.env) (SP X pins D) X.xe s
noncomputable def PSs(X:Cx)(st:List Stmt)(t:TS):Prop:=
 ∀ (pins:List (Addr × Obj)) (s:Shared) (σ:St) (H:Hp) (D:Ends),Inv X pins σ H s->t D σ H->wpAny (model X.prog X.w) X.A (execs st X.env) (SP X pins D) X.xe s
theorem thn{α:Type}{t:Sem α}{Q Q':α->Shared->Prop}{M:Model}{A:Around}{E:Value->Shared->Prop}{s:Shared}(h:wpAny M A t Q E s)(hQ:∀ a s,Q a s->Q' a s):wpAny M A t Q' E s:=wpAny_mono h hQ fun _ _ x=>x
end L2
namespace L2
open PySem PySem.Spec PyProof.Rows
section
variable {X:Cx}
noncomputable def zb0(i:Nat):TE:=fun σ H Q=>∃ v,σ[i]? = some (some v)/\Q v H
noncomputable def tC(v:V):TE:=fun _ H Q=>Q v H
theorem pe_var{i:Nat}{x:Str}{pos:Pos}(hN:X.N[i]? = some x)(hv:Vis X.env.scope x)(hd:(x == ("__debug__" : Str))=false:=by decide)(hcd:(x == ("__classdict__" : Str))=false:=by decide):PE X (.Name x pos) (zb0 i):=by
 intro pins s σ H Q I h
 obtain⟨v,e,h⟩:=h
 obtain⟨m,hn,hl⟩:=I.loc
 obtain⟨u,r,l⟩:=hl i x v hN e hv
 have fin:EP X pins σ Q u s:=⟨v,H,I,r,h⟩
 rcases l with ⟨hk,hm⟩ | ⟨hk,c,hc,hcell⟩
 ·exact wpAny_Name (wpAny_loadName_local I.ok.kind hk hn hm fin) hd
 ·rcases hk with hk | hk
  ·exact wpAny_Name (wpAny_loadName_cell I.ok.kind hk hc hcell fin) hd
  ·exact wpAny_Name (wpAny_loadName_free I.ok.kind hk hc hcell fin hcd) hd
theorem pe_int{i j pos}:PE X (.Constant (.int i) j pos) (tC (.int i)):=fun _ _ _ H _ I h=>wpAny_Constant_int ⟨.int i,H,I.tok _,⟨_,rfl⟩,h⟩
theorem pe_bl{b j pos}:PE X (.Constant (.bool b) j pos) (tC (.bl b)):=fun _ _ _ H _ I h=>Constant_bool ⟨.bl b,H,I,rfl,h⟩
theorem pe_non{j pos}:PE X (.Constant .none j pos) (tC .non):=fun _ _ _ H _ I h=>Constant_none ⟨.non,H,I,rfl,h⟩
theorem pe_str{x j pos}:PE X (.Constant (.str x) j pos) (tC (.str x)):=fun _ _ _ H _ I h=>Calls.Constant_str ⟨.str x,H,I.tok _,⟨_,rfl⟩,h⟩
noncomputable def Gl(X:Cx)(x:Str):Prop:=X.env.kindOf x=some .globalImplicit
theorem zeX{E:Value->Shared->Prop}{pins:List (Addr × Obj)}{s:Shared}{σ:St}{H:Hp}{x:Str}{u:Value}{pos:Pos}{Q:Value->Shared->Prop}(I:Inv X pins σ H s)(hg:Gl X x)(hm:X.mg x=some u)(h:Q u s)
  (hd:(x == ("__debug__" : Str))=false:=by decide):wpAny (model X.prog X.w) X.A (eval (.Name x pos) X.env) Q E s:=
 Calls.Name_function_global I.ok.kind hg (Calls.loadGlobal_global (by rw[I.ok.glob];exact I.mod.glob.keeps I.bk) hm h) hd
theorem zcK{E:Value->Shared->Prop}{pins:List (Addr × Obj)}{s:Shared}{σ:St}{H:Hp}{x:Str}{u:Value}{pos:Pos}{Q:Value->Shared->Prop}(I:Inv X pins σ H s)(hg:Gl X x)(hm:X.mg x=none)(hv:bootBuiltins x=some u)(h:Q u s)
  (hn:x ≠ "__name__" :=by decide) (hd:(x == ("__debug__" : Str))=false:=by decide):wpAny (model X.prog X.w) X.A (eval (.Name x pos) X.env) Q E s:=by
 obtain⟨mb,h1,h2⟩:=I.mod.blt
 exact Calls.Name_function_global I.ok.kind hg (Calls.loadGlobal_builtin (by rw[I.ok.glob];exact I.mod.glob.keeps I.bk) hm (by rw[I.ok.blt];exact h1.keeps I.bk) ((h2 x hn).trans hv) h) hd
theorem pe_glob{x:Str}{v:V}{u:Value}{pos:Pos}(hg:Gl X x)(hm:X.mg x=some u)(r:RelV v u)(hd:(x == ("__debug__" : Str))=false:=by decide):PE X (.Name x pos) (tC v):=
 fun _ _ _ H _ I h=>zeX I hg hm ⟨v,H,I,r,h⟩ hd
theorem pe_bltn{x:Str}{v:V}{u:Value}{pos:Pos}(hg:Gl X x)(hm:X.mg x=none)(hv:bootBuiltins x=some u)(r:RelV v u)(hn:x ≠ "__name__" :=by decide)(hd:(x == ("__debug__" : Str))=false:=by decide):PE X (.Name x pos) (tC v):=
 fun _ _ _ H _ I h=>zcK I hg hm hv ⟨v,H,I,r,h⟩ hn hd
variable {a b:Expr}{ta tb:TE}{pos:Pos}
noncomputable def tB(t:TE):TT:=fun σ H Q=>t σ H fun x H1=>∃ c,x=.bl c/\Q c H1
theorem pt_val{e:Expr}{t:TE}(h:PE X e t)(he:∀ whole,isTrue e X.env whole=(do let v <- whole;standAt e.pos;holding [v] (truthy v)):=by intro _;rfl):PT X e (tB t):=by
 intro pins s σ H Q I hw
 refine isTrue_plain (thn (h pins s σ H _ I hw) fun v s1 ⟨x,H1,I1,r1,q1⟩=>?_) (he _)
 obtain⟨d,rfl,q⟩:=q1
 cases r1
 exact wpAny_truthy_bool ⟨H1,I1,q⟩
variable {tA tB':TT}{rest:List Expr}
noncomputable def tAnd(t u:TT):TT:=fun σ H Q=>t σ H fun c H1=>if c=true then u σ H1 Q else Q false H1
noncomputable def tOr(t u:TT):TT:=fun σ H Q=>t σ H fun c H1=>if c=true then Q true H1 else u σ H1 Q
noncomputable def tNot(t:TT):TT:=fun σ H Q=>t σ H fun c H1=>Q (!c) H1
theorem pw_and1(ha:PT X a tA):PW X (.BoolOp .And [a] pos) tA:=by
 intro wh pins s σ H Q I h
 refine isTrue_and (thn (ha pins s σ H Q I h) fun c s1 e=>?_)
 cases c with
 | true=>exact isTrue_and_nil e
 | false=>exact e
theorem pw_or1(ha:PT X a tA):PW X (.BoolOp .Or [a] pos) tA:=by
 intro wh pins s σ H Q I h
 refine isTrue_or (thn (ha pins s σ H Q I h) fun c s1 e=>?_)
 cases c with
 | false=>exact isTrue_or_nil e
 | true=>exact e
theorem pw_and(ha:PT X a tA)(hb:PW X (.BoolOp .And (b :: rest) pos) tB'):PW X (.BoolOp .And (a :: b :: rest) pos) (tAnd tA tB'):=by
 intro wh pins s σ H Q I h
 refine isTrue_and (thn (ha pins s σ H _ I h) fun c s1 ⟨H1,I1,q1⟩=>?_)
 cases c with
 | true=>exact hb wh pins s1 σ H1 Q I1 q1
 | false=>exact⟨H1,I1,q1⟩
theorem pw_or(ha:PT X a tA)(hb:PW X (.BoolOp .Or (b :: rest) pos) tB'):PW X (.BoolOp .Or (a :: b :: rest) pos) (tOr tA tB'):=by
 intro wh pins s σ H Q I h
 refine isTrue_or (thn (ha pins s σ H _ I h) fun c s1 ⟨H1,I1,q1⟩=>?_)
 cases c with
 | true=>exact⟨H1,I1,q1⟩
 | false=>exact hb wh pins s1 σ H1 Q I1 q1
theorem pt_not(ha:PT X a tA):PT X (.UnaryOp .Not a pos) (tNot tA):=by
 intro pins s σ H Q I h
 exact isTrue_not (ha pins s σ H (fun c H1=>Q (!c) H1) I h)
noncomputable def zfx(ta tb:TE):TE:=fun σ H Q=>ta σ H fun x H1=>∃ c,x=.bl c/\if c=true then tb σ H1 Q else Q (.bl false) H1
noncomputable def tNotV(ta:TE):TE:=fun σ H Q=>ta σ H fun x H1=>∃ c,x=.bl c/\Q (.bl (!c)) H1
theorem pe_one{op}{t:TE}(h:PE X a t):PE X (.BoolOp op [a] pos) t:=fun pins s σ H Q I hw=>BoolOp_one (h pins s σ H Q I hw)
theorem pe_and(ha:PE X a ta)(hb:PE X (.BoolOp .And (b :: rest) pos) tb):PE X (.BoolOp .And (a :: b :: rest) pos) (zfx ta tb):=by
 intro pins s σ H Q I h
 refine BoolOp_and (thn (ha pins s σ H _ I h) fun v s1 ⟨x,H1,I1,r1,q1⟩=>?_)
 obtain⟨c,rfl,q1⟩:=q1
 cases r1
 refine wpAny_truthy_bool ?_
 cases c with
 | true=>exact hb pins s1 σ H1 Q I1 q1
 | false=>exact⟨.bl false,H1,I1,rfl,q1⟩
theorem pe_not(ha:PE X a ta):PE X (.UnaryOp .Not a pos) (tNotV ta):=by
 intro pins s σ H Q I h
 refine UnaryOp_ (thn (ha pins s σ H _ I h) fun v s1 ⟨x,H1,I1,r1,q1⟩=>?_)
 obtain⟨c,rfl,q1⟩:=q1
 cases r1
 exact not_of (wpAny_truthy_bool ⟨.bl (!c),H1,I1,rfl,q1⟩)
noncomputable def tIf(t:TT)(ta tb:TE):TE:=fun σ H Q=>t σ H fun c H1=>if c=true then ta σ H1 Q else tb σ H1 Q
theorem pe_ifExp{c:Expr}(hc:PT X c tA)(ha:PE X a ta)(hb:PE X b tb):PE X (.IfExp c a b pos) (tIf tA ta tb):=by
 intro pins s σ H Q I h
 refine wpAny_IfExp (thn (hc pins s σ H _ I h) fun d s1 ⟨H1,I1,q1⟩=>?_)
 cases d with
 | true=>exact ha pins s1 σ H1 Q I1 q1
 | false=>exact hb pins s1 σ H1 Q I1 q1
end
end L2
namespace L2
open PySem PySem.Spec PyProof.Rows
noncomputable def SqL(K:PySem.W.Frag)(H:Hp)(a:Addr)(xs:List V):Prop:=
 Rd H a (.lst xs) \/
  ∃ (o:Obj) (its:Array Value) (n:Nat),K.lookup a=some o/\o.cls=.type "list" /\ o.dict=none/\o.data=.seq its n/\its.size<=sizeLine/\Vals xs its.toList
noncomputable def SqT(K:PySem.W.Frag)(H:Hp)(a:Addr)(xs:List V):Prop:=
 Rd H a (.tup xs) \/
  ∃ (o:Obj) (its:Array Value) (n:Nat),K.lookup a=some o/\o.cls=.type "tuple" /\ o.data=.seq its n/\its.size<=sizeLine/\Vals xs its.toList
noncomputable def absV:Value->Option V
 | .none=>some .non
 | .bool b=>some (.bl b)
 | .int i _=>some (.int i)
 | .str x _=>some (.str x)
 | .bytes b _=>some (.byt b)
 | .float b _=>some (.flt b)
 | .ref a=>some (.ref a)
 | .type n=>some (.ty n)
 | _=>none
theorem RelV.abs{x:V}{u:Value}(r:RelV x u):absV u=some x:=by
 cases x with
 | non=>cases r;rfl
 | bl _=>cases r;rfl
 | int _=>obtain⟨t,rfl⟩:=r;rfl
 | str _=>obtain⟨t,rfl⟩:=r;rfl
 | byt _=>obtain⟨t,rfl⟩:=r;rfl
 | flt _=>obtain⟨t,rfl⟩:=r;rfl
 | ref _=>cases r;rfl
 | ty _=>cases r;rfl
theorem RelV.inj{x y:V}{u:Value}(r:RelV x u)(q:RelV y u):x=y:=Option.some.inj (r.abs.symm.trans q.abs)
theorem Vals.inj:∀ {xs ys:List V} {us:List Value},Vals xs us->Vals ys us->xs=ys
 | _,_,_,.nil,.nil=>rfl
 | _,_,_,.cons r t,.cons r' t'=>by rw[r.inj r',Vals.inj t t']
section
variable {X:Cx}{pins:List (Addr × Obj)}{σ:St}{H:Hp}{s:Shared}{a:Addr}{xs ys:List V}
theorem SqL.of{K:PySem.W.Frag}(h:H a=some (.lst xs)):SqL K H a xs:=.inl (.inl h)
theorem SqT.of{K:PySem.W.Frag}(h:H a=some (.tup xs)):SqT K H a xs:=.inl (.inl h)
theorem Inv.list(I:Inv X pins σ H s)(h:SqL X.K H a xs):∃ its:List Value,Vals xs its/\PlainL s.heap a its.toArray/\xs.length<=sizeLine:=by
 rcases h with h | ⟨o,its,n,hk,hc,hd,hs,hz,r⟩
 ·obtain⟨z,its,n,r,e⟩:=h.ok I.hok
  exact⟨its,r,⟨_,n,e,rfl,rfl,rfl⟩,z⟩
 ·refine⟨its.toList,r,⟨o,n,I.kIn a o hk,hc,hd,by simpa using hs⟩,?_⟩
  have e:=r.length
  simp only[Array.length_toList] at e
  lia
theorem Inv.tuple(I:Inv X pins σ H s)(h:SqT X.K H a xs):∃ its:List Value,Vals xs its/\IsTup s.heap a its.toArray/\xs.length<=sizeLine:=by
 rcases h with h | ⟨o,its,n,hk,hc,hs,hz,r⟩
 ·obtain⟨z,its,r,p⟩:=h.ok I.hok
  exact⟨its,r,p,z⟩
 ·refine⟨its.toList,r,⟨o,I.kIn a o hk,hc,n,by simpa using hs⟩,?_⟩
  have e:=r.length
  simp only[Array.length_toList] at e
  lia
theorem Inv.list_inj(I:Inv X pins σ H s)(h:SqL X.K H a xs)(h':SqL X.K H a ys):xs=ys:=by
 obtain⟨its,r,⟨o,n,e,_,_,d⟩,_⟩:=I.list h
 obtain⟨its',r',⟨o',n',e',_,_,d'⟩,_⟩:=I.list h'
 rw[e] at e';cases e'
 rw[d] at d'
 injection d' with d1 _
 have:its=its':=by simpa using congrArg Array.toList d1
 subst this
 exact r.inj r'
theorem Inv.tuple_inj(I:Inv X pins σ H s)(h:SqT X.K H a xs)(h':SqT X.K H a ys):xs=ys:=by
 obtain⟨its,r,⟨o,e,_,n,d⟩,_⟩:=I.tuple h
 obtain⟨its',r',⟨o',e',_,n',d'⟩,_⟩:=I.tuple h'
 rw[e] at e';cases e'
 rw[d] at d'
 injection d' with d1 _
 have:its=its':=by simpa using congrArg Array.toList d1
 subst this
 exact r.inj r'
end
noncomputable abbrev Cx.wish(X:Cx)(E:Value->Shared->Prop):Cx:={ X with xe:=E}
noncomputable abbrev Cx.nox(X:Cx):Cx:=X.wish fun _ _=>False
theorem Cx.Ok.wish{X:Cx}(ok:X.Ok)(E:Value->Shared->Prop):(X.wish E).Ok:=
 ⟨ok.mod,ok.kind,ok.glob,ok.blt,ok.above,ok.inj,ok.has,ok.cab,ok.hd,ok.frames,ok.stk,ok.exf,ok.bs,ok.bsz,ok.noex,ok.exfs,ok.funs,ok.frf⟩
theorem Cx.Ok.unwish{X:Cx}{E:Value->Shared->Prop}(ok:(X.wish E).Ok):X.Ok:=
 ⟨ok.mod,ok.kind,ok.glob,ok.blt,ok.above,ok.inj,ok.has,ok.cab,ok.hd,ok.frames,ok.stk,ok.exf,ok.bs,ok.bsz,ok.noex,ok.exfs,ok.funs,ok.frf⟩
section
variable {X:Cx}{pins:List (Addr × Obj)}{σ:St}{H:Hp}{s:Shared}{E:Value->Shared->Prop}
theorem Inv.wish(I:Inv X pins σ H s)(E:Value->Shared->Prop):Inv (X.wish E) pins σ H s:=⟨I.ok.wish E,I.os,I.bare,I.base,I.loc,I.cell,I.free,I.freeC,I.pin,I.hok,I.len⟩
theorem Inv.unwish(I:Inv (X.wish E) pins σ H s):Inv X pins σ H s:=⟨I.ok.unwish,I.os,I.bare,I.base,I.loc,I.cell,I.free,I.freeC,I.pin,I.hok,I.len⟩
theorem SP.unwish{D:Ends}{f:Flow}{s':Shared}(h:SP (X.wish E) pins D f s'):SP X pins D f s':=by
 cases f with
 | next=>obtain⟨σ',H',I,q⟩:=h;exact⟨σ',H',I.unwish,q⟩
 | brk=>obtain⟨σ',H',I,q⟩:=h;exact⟨σ',H',I.unwish,q⟩
 | cont=>obtain⟨σ',H',I,q⟩:=h;exact⟨σ',H',I.unwish,q⟩
 | ret u=>obtain⟨v,σ',H',I,r,q⟩:=h;exact⟨v,σ',H',I.unwish,r,q⟩
theorem PE.nox{e:Expr}{t:TE}(h:PE X.nox e t):PE X e t:=fun pins s σ H Q I hw=>
 wpAny_mono (h pins s σ H Q (I.wish _) hw) (fun _ _ ⟨v,H',I',r,q⟩=>⟨v,H',I'.unwish,r,q⟩) fun _ _ z=>False.elim z
theorem PT.nox{e:Expr}{t:TT}(h:PT X.nox e t):PT X e t:=fun pins s σ H Q I hw=>
 wpAny_mono (h pins s σ H Q (I.wish _) hw) (fun _ _ ⟨H',I',q⟩=>⟨H',I'.unwish,q⟩) fun _ _ z=>False.elim z
theorem PSs.nox{st:List Stmt}{t:TS}(h:PSs X.nox st t):PSs X st t:=fun pins s σ H D I hw=>
 wpAny_mono (h pins s σ H D (I.wish _) hw) (fun _ _ q=>q.unwish) fun _ _ z=>False.elim z
end
section
variable {X:Cx}{st:Stmt}{rest:List Stmt}{t u:TS}{e:Expr}{te:TE}{pos:Pos}
noncomputable def zdv:TS:=fun D σ H=>D.nx σ H
noncomputable def zfb(t u:TS):TS:=fun D σ H=>t { D with nx:=u D} σ H
theorem pss_nil:PSs X [] zdv:=fun _ _ σ H _ I h=>wpAny_execs_nil ⟨σ,H,I,h⟩
theorem pss_cons(h1:PS X st t)(h2:PSs X rest u):PSs X (st :: rest) (zfb t u):=by
 intro pins s σ H D I h
 refine wpAny_execs_cons (thn (h1 pins s σ H { D with nx:=u D} I h) fun f s1 q=>?_)
 cases f with
 | next=>
  obtain⟨σ',H',I',q⟩:=q
  exact h2 pins s1 σ' H' D I' q
 | ret v=>exact q
 | brk=>exact q
 | cont=>exact q
theorem pss_one(h1:PS X st t):PSs X [st] t:=by
 intro pins s σ H D I h
 refine wpAny_execs_cons (thn (h1 pins s σ H D I h) fun f s1 q=>?_)
 cases f with
 | next=>exact wpAny_execs_nil q
 | ret v=>exact q
 | brk=>exact q
 | cont=>exact q
theorem Inv.quiet{pins:List (Addr × Obj)}{σ:St}{H:Hp}{s:Shared}(I:Inv X pins σ H s):interactive X.env=false:=by simp[interactive,I.ok.kind]
noncomputable def tDrop(te:TE):TS:=fun D σ H=>te σ H fun _ H1=>D.nx σ H1
theorem ps_expr(he:PE X e te)(hs:swapsWith e none pos.line X.env=pure false:=by rfl):PS X (.Expr e pos) (tDrop te):=by
 intro pins s σ H D I h
 exact wpAny_Expr_any (thn (he pins s σ H _ I h) fun v s1 ⟨x,H1,I1,r1,q1⟩=>⟨σ,H1,I1,q1⟩) I.quiet hs
noncomputable def zhr(te:TE):TS:=fun D σ H=>te σ H D.rt
theorem ps_ret(he:PE X e te):PS X (.Return (some e) pos) (zhr te):=by
 intro pins s σ H D I h
 exact wpAny_Return_some (thn (he pins s σ H _ I h) fun v s1 ⟨x,H1,I1,r1,q1⟩=>⟨x,σ,H1,I1,r1,q1⟩)
noncomputable def zgL(c:TT)(t u:TS):TS:=fun D σ H=>c σ H fun b H1=>if b=true then t D σ H1 else u D σ H1
theorem ps_if{c:Expr}{a b:List Stmt}{tc:TT}(hc:PT X c tc)(ha:PSs X a t)(hb:PSs X b u):PS X (.If c a b pos) (zgL tc t u):=by
 intro pins s σ H D I h
 refine wpAny_If (thn (hc pins s σ H _ I h) fun d s1 ⟨H1,I1,q1⟩=>?_)
 cases d with
 | true=>exact ha pins s1 σ H1 D I1 q1
 | false=>exact hb pins s1 σ H1 D I1 q1
noncomputable def tNever:TS:=fun _ _ _=>False
theorem pss_never{sts:List Stmt}:PSs X sts tNever:=fun _ _ _ _ _ _ h=>h.elim
end
noncomputable abbrev TG:=V->St->Hp->(St->Hp->Prop)->Prop
noncomputable abbrev TGs:=List V->St->Hp->(St->Hp->Prop)->Prop
noncomputable def PG(X:Cx)(target:Expr)(t:TG):Prop:=
 ∀ (pins:List (Addr × Obj)) (s:Shared) (σ:St) (H:Hp) (v:V) (u:Value) (Q:St->Hp->Prop),Inv X pins σ H s->RelV v u->t v σ H Q ->
  wpAny (model X.prog X.w) X.A (assign target X.env u) (fun _ s'=>∃ σ' H',Inv X pins σ' H' s'/\Q σ' H') X.xe s
noncomputable def PGs(X:Cx)(ts:List Expr)(t:TGs):Prop:=
 ∀ (pins:List (Addr × Obj)) (s:Shared) (σ:St) (H:Hp) (vs:List V) (us:List Value) (Q:St->Hp->Prop),Inv X pins σ H s->Vals vs us->t vs σ H Q ->
  wpAny (model X.prog X.w) X.A (assignInOrder ((assignEach ts X.env).map (·.2)) us) (fun _ s'=>∃ σ' H',Inv X pins σ' H' s'/\Q σ' H') X.xe s
noncomputable abbrev TSet:=V->V->V->Hp->(Hp->Prop)->Prop
noncomputable def PSet(X:Cx)(t:TSet):Prop:=
 ∀ (pins:List (Addr × Obj)) (s:Shared) (σ:St) (H:Hp) (o i v:V) (ov iv u:Value) (Q:Hp->Prop),Inv X pins σ H s->RelV o ov->RelV i iv->RelV v u->t o i v H Q ->
  wpAny (model X.prog X.w) X.A (setItem ov iv u) (fun _ s'=>∃ H',Inv X pins σ H' s'/\Q H') X.xe s
section
variable {X:Cx}{pos:Pos}
noncomputable def zbJ(i:Nat):TG:=fun v σ H Q=>Q (σ.set i (some v)) H
theorem pg_name{i:Nat}{x:Str}(hN:X.N.Nodup)(hi:X.N[i]? = some x)(hx:Loc X.env.scope x)(hf:X.fn x=true \/ X.env.scope.names.lookup x=some .local:=by first | exact .inl rfl | exact .inr rfl | assumption):PG X (.Name x pos) (zbJ i):=by
 intro pins s σ H v u Q I r h
 exact wpAny_assign_Name (ze6 I hN hi hx r (fun s' I'=>⟨_,H,I',h⟩) hf)
noncomputable def gNil:TGs:=fun vs σ H Q=>vs=[]/\Q σ H
noncomputable def zfC(t:TG)(u:TGs):TGs:=fun vs σ H Q=>∃ v r,vs=v :: r/\t v σ H fun σ' H'=>u r σ' H' Q
theorem pgs_nil:PGs X [] gNil:=by
 intro pins s σ H vs us Q I r h
 obtain⟨e,h⟩:=h
 subst e
 cases r
 exact assignInOrder_nil ⟨σ,H,I,h⟩
theorem pgs_cons{e:Expr}{es:List Expr}{t:TG}{u:TGs}(h1:PG X e t)(h2:PGs X es u)
  (hs:(assignEach (e :: es) X.env).map (·.2)=assign e X.env :: (assignEach es X.env).map (·.2):=by rfl):PGs X (e :: es) (zfC t u):=by
 intro pins s σ H vs us Q I r h
 obtain⟨v,vr,e1,h⟩:=h
 subst e1
 cases r with
 | cons r rr=>
  rw[hs]
  refine assignInOrder_cons (thn (h1 pins s σ H _ _ _ I r h) fun _ s1 ⟨σ1,H1,I1,q1⟩=>?_)
  exact h2 pins s1 σ1 H1 _ _ Q I1 rr q1
noncomputable def gTup(K:PySem.W.Frag)(n:Nat)(t:TGs):TG:=fun v σ H Q=>∃ a xs,v=.ref a/\SqT K H a xs/\xs.length=n/\t xs σ H Q
theorem pg_tup{es:List Expr}{k:Nat}{t:TGs}{n:Nat}(hc:X.calm=true)(h:PGs X es t)
  (hn:(assignEach es X.env).length=n:=by rfl) (hst:(assignEach es X.env).findIdx? (·.1)=none:=by rfl):PG X (.Tuple es k pos) (gTup X.K n t):=by
 intro pins s σ H v u Q I r hw
 obtain⟨a,xs,e1,hq,hl,hw⟩:=hw
 subst e1
 cases r
 obtain⟨its,rv,ht,hz⟩:=I.tuple hq
 refine assign_Tuple_tuple (I.ok.hd hc) ht (by simp[hn,<- hl,rv.length]) hst fun h' hx=>?_
 have I1:Inv X pins σ H { s with heap:=h'}:=I.kept (t':=s.toks) fun b o e=>hx b o (Nat.ne_of_lt (Heap.lt_size e)) e
 exact h pins _ σ H xs _ Q I1 (by simpa using rv) hw
noncomputable def gSub(to ti:TE)(t:TSet):TG:=fun v σ H Q=>to σ H fun o H1=>ti σ H1 fun i H2=>t o i v H2 fun H3=>Q σ H3
theorem zgS{o i:Expr}{to ti:TE}{t:TSet}(ho:PE X o to)(hi:PE X i ti)(hs:PSet X t)
  (ha:∀ v,assign (.Subscript o i pos) X.env v=(do
   let ov <- holding [v] (eval o X.env)
   let iv <- holding [v,ov] (eval i X.env)
   standAt pos
   holding [v,ov,iv] (setItem ov iv v)
   release [v,ov,iv] []):=by intro _;rfl):PG X (.Subscript o i pos) (gSub to ti t):=by
 intro pins s σ H v u Q I r h
 rw[ha]
 refine wpAny_bind (wpAny_holding (thn (ho pins s σ H _ I h) fun ov s1 ⟨x,H1,I1,r1,q1⟩=>?_))
 refine wpAny_bind (wpAny_holding (thn (hi pins s1 σ H1 _ I1 q1) fun iv s2 ⟨y,H2,I2,r2,q2⟩=>?_))
 refine wpAny_bind (wpAny_standAt (wpAny_bind (wpAny_holding (thn (hs pins s2 σ H2 x y v ov iv u _ I2 r1 r2 r q2) fun _ s3 ⟨H3,I3,q3⟩=>?_))))
 exact wpAny_release ⟨σ,H3,I3,q3⟩
noncomputable def zdS(te:TE)(g:TG):TS:=fun D σ H=>te σ H fun x H1=>g x σ H1 D.nx
theorem ps_asg{tg e:Expr}{te:TE}{g:TG}(he:PE X e te)(hg:PG X tg g)(hs:swapsWithSole [tg] e pos.line X.env=pure false:=by rfl)(hw:swappedStores [tg] e X.env=pure none:=by rfl)
  (h1:(assignEach [tg] X.env).map (·.2)=[assign tg X.env]:=by rfl):PS X (.Assign [tg] e pos) (zdS te g):=by
 intro pins s σ H D I h
 refine wpAny_Assign_stores (thn (he pins s σ H _ I h) fun v s1 ⟨x,H1,I1,r1,q1⟩=>?_) hs hw
 rw[h1]
 exact thn (hg pins s1 σ H1 x v _ I1 r1 q1) fun _ s2 q=>q
theorem ps_set{i:Nat}{x:Str}{e:Expr}{te:TE}{pos':Pos}(hN:X.N.Nodup)(hi:X.N[i]? = some x)(hx:Loc X.env.scope x)(he:PE X e te)(hs:swapsWith e (some (.Name x pos')) pos.line X.env=pure false:=by rfl)(hf:X.fn x=true \/ X.env.scope.names.lookup x=some .local:=by first | exact .inl rfl | exact .inr rfl | assumption) :
  PS X (.Assign [.Name x pos'] e pos) (zdS te (zbJ i)):=by
 intro pins s σ H D I h
 refine wpAny_Assign_Name (thn (he pins s σ H _ I h) fun v s1 ⟨y,H1,I1,r1,q1⟩=>?_) hs
 exact ze6 I1 hN hi hx r1 (fun s2 I2=>⟨_,H1,I2,q1⟩) hf
end
section
variable {X:Cx}{pos:Pos}
noncomputable def zgy(c:TT)(tb:TS):TS:=fun D σ H=>∃ W:Nat->St->Hp->Prop,(∃ m,W m σ H)/\∀ m σ H,W m σ H ->
 c σ H fun b H1=>if b=true then ∃ N:St->Hp->Prop,(∀ σ' H',N σ' H'->∃ m',m'<m/\W m' σ' H')/\tb { D with nx:=N,ct:=N,bk:=D.nx} σ H1 else D.nx σ H1
theorem ps_while{c:Expr}{body:List Stmt}{tc:TT}{tb:TS}(hp:PassesOwn (model X.prog X.w) X.A X.env X.xe)(hc:PT X c tc)(hb:PSs X body tb):PS X (.While c body [] pos) (zgy tc tb):=by
 intro pins s σ H D I h
 obtain⟨W,⟨m0,w0⟩,turn⟩:=h
 refine wpAny_While (codeAny_whileLoop (fun n s'=>∃ σ' H',Inv X pins σ' H' s'/\W n σ' H') ?_ m0 ⟨σ,H,I,w0⟩)
 rintro n s1 ⟨σ1,H1,I1,w1⟩
 refine wpAny_passesOwn hp (thn (hc pins s1 σ1 H1 _ I1 (turn n σ1 H1 w1)) fun b s2 ⟨H2,I2,q2⟩=>?_)
 cases b with
 | true=>
  obtain⟨N,hN,q2⟩:=q2
  rw[if_pos rfl]
  refine wpAny_passesOwn hp (thn (hb pins s2 σ1 H2 _ I2 q2) fun f s3 q3=>?_)
  cases f with
  | next=>
   obtain⟨σ3,H3,I3,n3⟩:=q3
   obtain⟨m',hm,w3⟩:=hN σ3 H3 n3
   exact⟨m',hm,σ3,H3,I3,w3⟩
  | cont=>
   obtain⟨σ3,H3,I3,n3⟩:=q3
   obtain⟨m',hm,w3⟩:=hN σ3 H3 n3
   exact⟨m',hm,σ3,H3,I3,w3⟩
  | brk=>exact q3
  | ret v=>exact q3
 | false=>
  rw[if_neg Bool.false_ne_true]
  exact wpAny_execs_nil ⟨σ1,H2,I2,q2⟩
end
structure It where
 go:Nat->Hp->Prop
 yld:Nat->Hp->V->Hp->Prop
 stop:Nat->Hp->Prop
noncomputable def zeD(X:Cx)(pins:List (Addr × Obj))(H:Hp)(b:Addr):Prop:=
 H b=none/\b ≠ X.env.locals/\b ∉ X.fs/\(b ∈ X.ex \/ X.s₀.heap.objs.size<=b)/\(∀ x c,X.env.cells.lookup x=some c->c ≠ b)/\∀ p ∈ X.pn ++ pins,p.1 ≠ b
theorem Inv.fpOk{X:Cx}{pins:List (Addr × Obj)}{σ:St}{H H':Hp}{s:Shared}{b:Addr}(I:Inv X pins σ H s)(hb:s.heap.objs.size<=b)(hn:H' b=none):zeD X pins H' b:=by
 refine⟨hn,Nat.ne_of_gt (Nat.lt_of_lt_of_le I.lt hb),I.nofs hb,.inr (Nat.le_trans I.sz hb),fun x c e z=>?_,fun p hp z=>?_⟩
 ·obtain⟨v,q⟩:=I.cell x c e
  exact absurd (Nat.lt_of_lt_of_le q.lt (by rw[z];exact hb)) (Nat.lt_irrefl _)
 ·exact absurd (Nat.lt_of_lt_of_le (Heap.lt_size (I.pin p hp).1) (by rw[z];exact hb)) (Nat.lt_irrefl _)
structure Turn(P:Program)(w:World)(K:PySem.W.Frag)(tg:Expr)(J:It)(fp:List Addr)(it:Addr)(tn:Nat->Heap->Prop):Prop where
 mem:it ∈ fp
 obj:∀ i h,tn i h->∀ b ∈ fp,∃ o,h.get? b=some o/\∀ v,o.data ≠ .cell v
 keep:∀ i h h',tn i h->(∀ b ∈ fp,∀ o,h.get? b=some o->h'.get? b=some o)->tn i h'
 item:∀ (X:Cx),X.prog=P->X.w=w->X.K=K->X.calm=true->∀ (i:Nat) (pins:List (Addr × Obj)) (s:Shared) (σ:St) (H:Hp) (E:Value->Shared->Prop),Inv X pins σ H s->(∀ b ∈ fp,zeD X pins H b)->tn i s.heap->J.go i H ->
  wpAny (model P w) X.A (pyNext (.ref it)) (fun r s1=>∃ u,r=some u /\
   wpAny (model P w) X.A (letOwnedTupleGo tg (.ref it) u) (fun _ s2=>∃ x H',Inv X pins σ H' s2/\RelV x u/\J.yld i H x H'/\tn (i+1) s2.heap/\∀ b ∈ fp,H' b=none) E s1) E s
 done:∀ (X:Cx),X.prog=P->X.w=w->X.K=K->X.calm=true->∀ (i:Nat) (pins:List (Addr × Obj)) (s:Shared) (σ:St) (H:Hp) (E:Value->Shared->Prop),Inv X pins σ H s->(∀ b ∈ fp,zeD X pins H b)->tn i s.heap->J.stop i H ->
  wpAny (model P w) X.A (pyNext (.ref it)) (fun r s1=>r=none/\Inv X pins σ H s1) E s
 self:∀ (A:Around) (i:Nat) (s:Shared) (Q:Value->Shared->Prop) (E:Value->Shared->Prop),tn i s.heap->Q (.ref it) s->wpAny (model P w) A (pyIter (.ref it)) Q E s
noncomputable abbrev TI:=St->Hp->(It->Hp->Prop)->Prop
noncomputable def PIE(X:Cx)(pins:List (Addr × Obj))(σ:St)(tg:Expr)(R:It->Hp->Prop)(itv:Value)(s2:Shared):Prop:=
 ∃ (it:Addr) (fp:List Addr) (tn:Nat->Heap->Prop) (J:It) (H':Hp),itv=.ref it/\Inv X pins σ H' s2/\Turn X.prog X.w X.K tg J fp it tn/\tn 0 s2.heap/\(∀ b ∈ fp,zeD X pins H' b)/\R J H'
noncomputable def PI(X:Cx)(tg iter:Expr)(wi:TI):Prop:=
 ∀ (pins:List (Addr × Obj)) (s:Shared) (σ:St) (H:Hp) (R:It->Hp->Prop),Inv X pins σ H s->wi σ H R ->
  wpAny (model X.prog X.w) X.A (eval iter X.env) (fun v s1=>wpAny (model X.prog X.w) X.A (pyIter v) (PIE X pins σ tg R) X.xe s1) X.xe s
theorem go_of{M:Model}{A:Around}{E:Value->Shared->Prop}{s:Shared}{tg:Expr}{it:Addr}{u:Value}{o:Obj}{n:String}{vs:Array Value}{Q:Unit->Shared->Prop}(ho:s.heap.get? it=some o)(hc:o.cls=.type n)(hd:o.data=.fields vs)
    (hn:["enumerate","zip","dict_itemiterator","dict_reverseitemiterator","odict_iterator","itertools.zip_longest","itertools.pairwise"].contains n=false) (hQ:Q () s):wpAny M A (letOwnedTupleGo tg (.ref it) u) Q E s:=by
  unfold letOwnedTupleGo
  cases tg <;> first
    | exact wpAny_pure hQ
    | (cases u <;> first
        | exact wpAny_pure hQ
        | (refine wpAny_bind (wpAny_load ho ?_)
           rw[hc,hd]
           show wpAny M A (if (["enumerate","zip","dict_itemiterator","dict_reverseitemiterator","odict_iterator","itertools.zip_longest","itertools.pairwise"].contains n && vs[0]? == some (rawInt _))=true then _ else _) Q E s
           rw[if_neg (by intro h;rw[hn,Bool.false_and] at h;cases h)]
           exact wpAny_pure hQ))
noncomputable def Itl(K:PySem.W.Frag)(a:Addr):It:=
 ⟨fun i H=>∃ xs x,SqL K H a xs/\xs[i]? = some x,fun i H x H'=>H'=H/\∀ xs,SqL K H a xs->xs[i]? = some x,fun i H=>∃ xs,SqL K H a xs/\xs.length<=i⟩
noncomputable def Itt(K:PySem.W.Frag)(a:Addr):It:=
 ⟨fun i H=>∃ xs x,SqT K H a xs/\xs[i]? = some x,fun i H x H'=>H'=H/\∀ xs,SqT K H a xs->xs[i]? = some x,fun i H=>∃ xs,SqT K H a xs/\xs.length<=i⟩
noncomputable def Itr(lo:Int)(n:Nat):It:=⟨fun i _=>i<n,fun i H x H'=>H'=H/\x=.int (lo+i),fun i _=>n<=i⟩
theorem zfN{P:Program}{w:World}{K:PySem.W.Frag}{tg:Expr}(a it:Addr):Turn P w K tg (Itl K a) [it] it (fun i h=>h.IsListIter it a i) where
 mem:=by simp
 obj:=fun i h st b hb=>by
  have e:b=it:=by simpa using hb
  subst e
  obtain⟨o,e,c,d⟩:=st
  exact⟨o,e,fun v z=>by rw[d] at z;cases z⟩
 keep:=fun i h h' st k=>st.at fun o e=>k it (by simp) o e
 item:=by
  intro X hP hw hK hc i pins s σ H E I hf st hg
  subst hP hw hK
  obtain⟨xs,x,hq,hx⟩:=hg
  obtain⟨its,rv,p,hz⟩:=I.list hq
  obtain⟨u,hu,ru⟩:=rv.get hx
  obtain⟨f0,f1,f2,f3,f4,f5⟩:=hf it (by simp)
  refine wpAny_pyNext_list_item st p.isList (x:=u) (by simpa using hu) fun h' st' sb=>?_
  have I1:Inv X pins σ H { s with heap:=h'}:=I.turned (t':=s.toks) (fun b o hb e=>(sb.2 b hb).trans e) f0 f1 f3 f4 f5
  obtain⟨o,e,c,d⟩:=id st'
  exact⟨u,rfl,go_of (s:={ s with heap:=h'}) e c d (by decide) ⟨x,H,I1,ru,⟨rfl,fun ys hy=>by rw[I.list_inj hy hq];exact hx⟩,st',fun b hb=>(hf b hb).1⟩⟩
 done:=by
  intro X hP hw hK hc i pins s σ H E I hf st hg
  subst hP hw hK
  obtain⟨xs,hq,hx⟩:=hg
  obtain⟨its,rv,p,hz⟩:=I.list hq
  obtain⟨f0,f1,f2,f3,f4,f5⟩:=hf it (by simp)
  have hl:=rv.length
  exact wpAny_pyNext_list_end (I.ok.hd hc) st p.isList (by simp;lia) fun h' eb=>⟨rfl,I.turned (t':=s.toks) (fun b o hb e=>eb b o hb e) f0 f1 f3 f4 f5⟩
 self:=fun _ _ _ _ _ st h=>wpAny_pyIter_listiter st h
theorem zey{P:Program}{w:World}{K:PySem.W.Frag}{tg:Expr}(a it:Addr):Turn P w K tg (Itt K a) [it] it (fun i h=>h.IsTupleIter it a i) where
 mem:=by simp
 obj:=fun i h st b hb=>by
  have e:b=it:=by simpa using hb
  subst e
  obtain⟨o,e,c,d⟩:=st
  exact⟨o,e,fun v z=>by rw[d] at z;cases z⟩
 keep:=fun i h h' st k=>st.at fun o e=>k it (by simp) o e
 item:=by
  intro X hP hw hK hc i pins s σ H E I hf st hg
  subst hP hw hK
  obtain⟨xs,x,hq,hx⟩:=hg
  obtain⟨its,rv,p,hz⟩:=I.tuple hq
  obtain⟨u,hu,ru⟩:=rv.get hx
  obtain⟨f0,f1,f2,f3,f4,f5⟩:=hf it (by simp)
  refine wpAny_pyNext_tuple_item st (show s.heap.IsTuple a its.toArray from p) (x:=u) (by simpa using hu) fun h' st' sb=>?_
  have I1:Inv X pins σ H { s with heap:=h'}:=I.turned (t':=s.toks) (fun b o hb e=>(sb.2 b hb).trans e) f0 f1 f3 f4 f5
  obtain⟨o,e,c,d⟩:=id st'
  exact⟨u,rfl,go_of (s:={ s with heap:=h'}) e c d (by decide) ⟨x,H,I1,ru,⟨rfl,fun ys hy=>by rw[I.tuple_inj hy hq];exact hx⟩,st',fun b hb=>(hf b hb).1⟩⟩
 done:=by
  intro X hP hw hK hc i pins s σ H E I hf st hg
  subst hP hw hK
  obtain⟨xs,hq,hx⟩:=hg
  obtain⟨its,rv,p,hz⟩:=I.tuple hq
  obtain⟨f0,f1,f2,f3,f4,f5⟩:=hf it (by simp)
  have hl:=rv.length
  exact wpAny_pyNext_tuple_end (I.ok.hd hc) st (show s.heap.IsTuple a its.toArray from p) (by simp;lia) fun h' eb=>⟨rfl,I.turned (t':=s.toks) (fun b o hb e=>eb b o hb e) f0 f1 f3 f4 f5⟩
 self:=fun _ _ _ _ _ st h=>wpAny_pyIter_tupleiter st h
theorem zg7{P:Program}{w:World}{K:PySem.W.Frag}{tg:Expr}(it:Addr)(lo:Int)(n:Nat):Turn P w K tg (Itr lo n) [it] it (fun i h=>IsRangeIter h it (lo+(i:Nat) * 1) ((n:Int) - (i:Nat)) 1) where
 mem:=by simp
 obj:=fun i h st b hb=>by
  have e:b=it:=by simpa using hb
  subst e
  exact⟨_,st,fun v z=>by
   have z':Data.fields _=Data.cell v:=z
   cases z'⟩
 keep:=fun i h h' st k=>k it (by simp) _ st
 item:=by
  intro X hP hw hK hc i pins s σ H E I hf st hg
  subst hP hw hK
  obtain⟨f0,f1,f2,f3,f4,f5⟩:=hf it (by simp)
  have W:=Walks.range (prog:=X.prog) (w:=X.w) (I.ok.hd hc) it lo 1 n
  refine W.item i s _ _ hg st fun v h' tk hv st' kk=>?_
  obtain⟨t,rfl⟩:=hv
  have I1:Inv X pins σ H { s with heap:=h',toks:=tk}:=I.turned (fun b o hb e=>kk b o (by simpa using hb) e) f0 f1 f3 f4 f5
  refine⟨_,rfl,go_of (s:={ s with heap:=h',toks:=tk}) (n:= "range_iterator") st' rfl rfl (by decide) ⟨.int (lo+i),H,I1,⟨t,?_⟩,⟨rfl,rfl⟩,st',fun b hb=>(hf b hb).1⟩⟩
  rw[Int.mul_one]
 done:=by
  intro X hP hw hK hc i pins s σ H E I hf st hg
  subst hP hw hK
  obtain⟨f0,f1,f2,f3,f4,f5⟩:=hf it (by simp)
  exact wpAny_pyNext_range_end (I.ok.hd hc) st (by have:n<=i:=hg;lia) fun h' eb=>⟨rfl,I.turned (t':=s.toks) (fun b o hb e=>eb b o hb e) f0 f1 f3 f4 f5⟩
 self:=fun _ _ _ _ _ st h=>wpAny_pyIter_rangeiter st h
end L2
namespace L2
open PySem PySem.Spec PyProof.Rows
section
variable {X:Cx}{tg:Expr}
noncomputable def iList(K:PySem.W.Frag)(tl:TE):TI:=fun σ H R=>tl σ H fun x H1=>∃ a,x=.ref a/\(∃ xs,SqL K H1 a xs)/\R (Itl K a) H1
noncomputable def iTup(K:PySem.W.Frag)(tl:TE):TI:=fun σ H R=>tl σ H fun x H1=>∃ a,x=.ref a/\(∃ xs,SqT K H1 a xs)/\R (Itt K a) H1
theorem pi_list{l:Expr}{tl:TE}(hl:PE X l tl):PI X tg l (iList X.K tl):=by
 intro pins s σ H R I h
 refine thn (hl pins s σ H _ I h) fun v s1 ⟨x,H1,I1,r1,q1⟩=>?_
 obtain⟨a,e,⟨xs,hq⟩,q⟩:=q1
 subst e
 cases r1
 obtain⟨its,rv,p,hz⟩:=I1.list hq
 refine wpAny_pyIter_list p.isList ?_
 refine⟨s1.heap.objs.size,[s1.heap.objs.size],_,_,H1,rfl,I1.kept (t':=s1.toks) fun b o e=>Heap.get?_push_of_some _ e,zfN a _,⟨_,Heap.get?_push_size _ rfl,rfl,rfl⟩,fun b hb=>?_,q⟩
 have e:b=s1.heap.objs.size:=by simpa using hb
 subst e
 exact I1.fpOk (Nat.le_refl _) (I1.hok.fresh (Nat.le_refl _))
theorem pi_tup{l:Expr}{tl:TE}(hl:PE X l tl):PI X tg l (iTup X.K tl):=by
 intro pins s σ H R I h
 refine thn (hl pins s σ H _ I h) fun v s1 ⟨x,H1,I1,r1,q1⟩=>?_
 obtain⟨a,e,⟨xs,hq⟩,q⟩:=q1
 subst e
 cases r1
 obtain⟨its,rv,p,hz⟩:=I1.tuple hq
 refine wpAny_pyIter_tuple (show s1.heap.IsTuple a its.toArray from p) ?_
 refine⟨s1.heap.objs.size,[s1.heap.objs.size],_,_,H1,rfl,I1.kept (t':=s1.toks) fun b o e=>Heap.get?_push_of_some _ e,zey a _,⟨_,Heap.get?_push_size _ rfl,rfl,rfl⟩,fun b hb=>?_,q⟩
 have e:b=s1.heap.objs.size:=by simpa using hb
 subst e
 exact I1.fpOk (Nat.le_refl _) (I1.hok.fresh (Nat.le_refl _))
theorem zgK{pins:List (Addr × Obj)}{σ:St}{H:Hp}{s:Shared}{R:It->Hp->Prop}{E:Value->Shared->Prop}{lo hi:Int}{t u v:Tok}{tk:Nat}(I:Inv X pins σ H s)(h1:-(2 ^ 62)<=lo)(h2:lo<2 ^ 62)(h3:-(2 ^ 62)<=hi)(h4:hi<2 ^ 62)
  (q:R (Itr lo (hi - lo).toNat) H):wpAny (model X.prog X.w) X.A (pyIter (.ref s.heap.objs.size)) (PIE X pins σ tg R) E { s with heap:=s.heap.push { cls:=.type "range",data:=.fields #[.int lo t,.int hi u,.int 1 v]},toks:=tk}:=by
 refine wpAny_pyIter_range (IsRange.new ..) (small_one h1 h2 h3 h4) ?_
 have I1:Inv X pins σ H { s with heap:=s.heap.push { cls:=.type "range",data:=.fields #[.int lo t,.int hi u,.int 1 v]},toks:=tk}:=I.kept fun b o e=>Heap.get?_push_of_some _ e
 refine⟨(s.heap.push { cls:=.type "range",data:=.fields #[.int lo t,.int hi u,.int 1 v]}).objs.size,[(s.heap.push { cls:=.type "range",data:=.fields #[.int lo t,.int hi u,.int 1 v]}).objs.size],_,_,H,rfl,
  I1.kept (t':=tk) fun b o e=>Heap.get?_push_of_some _ e,zg7 _ lo (hi - lo).toNat,?_,fun b hb=>?_,q⟩
 ·have e1:lo+((0:Nat):Int) * 1=lo:=by simp
  have e2:(((hi - lo).toNat:Nat):Int) - ((0:Nat):Int)=Builtin.Range.rangeSize lo hi 1:=by rw[rangeSize_one];split <;> lia
  show IsRangeIter _ _ (lo+((0:Nat):Int) * 1) ((((hi - lo).toNat:Nat):Int) - ((0:Nat):Int)) 1
  rw[e1,e2]
  exact Heap.get?_push_size _ rfl
 ·have e:b=(s.heap.push { cls:=.type "range",data:=.fields #[.int lo t,.int hi u,.int 1 v]}).objs.size:=by simpa using hb
  subst e
  exact I1.fpOk (Nat.le_refl _) (I1.hok.fresh (Nat.le_refl _))
noncomputable def iRng1(ta:TA):TI:=fun σ H R=>ta σ H fun vs H1=>∃ j:Int,vs=[.int j] /\ -(2 ^ 62)<=j/\j<2 ^ 62/\R (Itr 0 j.toNat) H1
noncomputable def iRng2(ta:TA):TI:=fun σ H R=>ta σ H fun vs H1=>∃ i j:Int,vs=[.int i,.int j]/\(-(2 ^ 62)<=i/\i<2 ^ 62 /\ -(2 ^ 62)<=j/\j<2 ^ 62)/\R (Itr i (j - i).toNat) H1
theorem pi_range1{a:Expr}{ta:TA}{p pos:Pos}(hg:Gl X "range")(hm:X.mg "range" = none)(ha:PA X [a] ta)(hs:starEach [a] X.env=[(false,eval a X.env)]:=by rfl):PI X tg (.Call (.Name "range" p) [a] [] pos) (iRng1 ta):=by
 intro pins s σ H R I h
 refine Call_ (zcK I hg hm boot_range (PyProof.Rows.callWith_type1 (thn (ha pos pins s σ H _ I h) fun us s1 ⟨vs,H1,I1,r1,q1⟩=>?_) hs rfl))
 obtain⟨j,e,q1,q2,q⟩:=q1
 subst e
 cases r1 with
 | cons r rr=>
  cases rr
  obtain⟨t,rfl⟩:=r
  exact call_range_1 (zgK I1 (by lia) (by lia) q1 q2 (by simpa using q))
theorem pi_range2{a b:Expr}{ta:TA}{p pos:Pos}(hg:Gl X "range")(hm:X.mg "range" = none)(ha:PA X [a,b] ta)(hs:starEach [a,b] X.env=[(false,eval a X.env),(false,eval b X.env)]:=by rfl)(hs2:starEach [b] X.env=[(false,eval b X.env)]:=by rfl) :
  PI X tg (.Call (.Name "range" p) [a,b] [] pos) (iRng2 ta):=by
 intro pins s σ H R I h
 refine Call_ (zcK I hg hm boot_range (PyProof.Rows.callWith_type1 (thn (ha pos pins s σ H _ I h) fun us s1 ⟨vs,H1,I1,r1,q1⟩=>?_) (by rw[hs,hs2]) (by rw[hs2];rfl)))
 obtain⟨i,j,e,⟨q1,q2,q3,q4⟩,q⟩:=q1
 subst e
 cases r1 with
 | cons r rr=>
  cases rr with
  | cons r' rr=>
   cases rr
   obtain⟨t,rfl⟩:=r
   obtain⟨t',rfl⟩:=r'
   exact call_range_2 (zgK I1 q1 q2 q3 q4 q)
noncomputable def tFor(wi:TI)(g:TG)(tb:TS):TS:=fun D σ H=>wi σ H fun J H1=>∃ W:Nat->Nat->St->Hp->Prop,(∃ m,W 0 m σ H1)/\∀ i m σ H,W i m σ H ->
 (J.stop i H/\D.nx σ H) \/ (J.go i H/\∃ N:St->Hp->Prop,(∀ σ' H',N σ' H'->∃ m',m'<m/\W (i+1) m' σ' H')/\∀ x H',J.yld i H x H'->g x σ H' fun σ2 H2=>tb { D with nx:=N,ct:=N,bk:=D.nx} σ2 H2)
noncomputable def zeA(fp:List Addr)(h:Heap):List (Addr × Obj):=fp.filterMap fun b=>(h.get? b).map fun o=>(b,o)
theorem zcT{fp:List Addr}{h:Heap}{b:Addr}{o:Obj}(hb:b ∈ fp)(e:h.get? b=some o):(b,o) ∈ zeA fp h:=List.mem_filterMap.mpr ⟨b,hb,by rw[e];rfl⟩
theorem of_pinsAt{fp:List Addr}{h:Heap}{p:Addr × Obj}(hp:p ∈ zeA fp h):p.1 ∈ fp/\h.get? p.1=some p.2:=by
 obtain⟨b,hb,e⟩:=List.mem_filterMap.mp hp
 cases q:h.get? b with
 | none=>rw[q] at e;cases e
 | some o=>
  rw[q] at e
  have e':(b,o)=p:=Option.some.inj e
  subst e'
  exact⟨hb,q⟩
theorem Inv.pinned{pins:List (Addr × Obj)}{σ:St}{H:Hp}{s:Shared}{fp:List Addr}(I:Inv X pins σ H s)(hf:∀ b ∈ fp,zeD X pins H b)(ho:∀ b ∈ fp,∃ o,s.heap.get? b=some o/\∀ v,o.data ≠ .cell v):Inv X (pins ++ zeA fp s.heap) σ H s:=
 I.pins_of fun p hp=>(List.mem_append.mp hp).elim (fun z=>I.pin p (List.mem_append_right _ z)) fun z=>by
  obtain⟨hb,e⟩:=of_pinsAt z
  obtain⟨f0,f1,f2,_⟩:=hf p.1 hb
  obtain⟨o,e',d⟩:=ho p.1 hb
  rw[e] at e';cases e'
  exact⟨e,f0,f1,f2,d⟩
theorem Inv.unpinned{pins pl:List (Addr × Obj)}{σ:St}{H:Hp}{s:Shared}(I:Inv X (pins ++ pl) σ H s):Inv X pins σ H s:=I.pins_of fun p hp=>I.pin p (List.mem_append_right _ (List.mem_append_left _ hp))
theorem ps_for{iter:Expr}{body:List Stmt}{wi:TI}{g:TG}{tb:TS}{pos:Pos}(hp:PassesOwn (model X.prog X.w) X.A X.env X.xe)(hc:X.calm=true)(hi:PI X tg iter wi)(hg:PG X tg g)(hb:PSs X body tb)
  (hs:∀ x,foldedSetIterable iter X.env x=pure x:=by intro _;rfl):PS X (.For tg iter body [] pos) (tFor wi g tb):=by
 intro pins s σ H D I h
 refine wpAny_For (thn (hi pins s σ H _ I h) fun v s1 h1=>thn h1 fun itv s2 h2=>?_) hs
 obtain⟨it,fp,tn,J,H2,e,I2,T,st2,f2,W,⟨m0,w0⟩,turn⟩:=h2
 subst e
 have stat:∀ {H':Hp},(∀ b ∈ fp,H' b=none)->∀ b ∈ fp,zeD X pins H' b:=fun hn b hb=>⟨hn b hb,(f2 b hb).2⟩
 refine codeAny_forLoop_any (fun n s'=>∃ i σ' H',Inv X pins σ' H' s'/\tn i s'.heap/\(∀ b ∈ fp,H' b=none)/\W i n σ' H') ?_ m0 ⟨0,σ,H2,I2,st2,fun b hb=>(f2 b hb).1,w0⟩
 rintro n s3 ⟨i,σ3,H3,I3,st3,fr3,w3⟩
 rcases turn i n σ3 H3 w3 with ⟨stop,qn⟩ | ⟨go,N,hN,step⟩
 ·refine wpAny_passesOwn hp (thn (T.done X rfl rfl rfl hc i pins s3 σ3 H3 X.xe I3 (stat fr3) st3 stop) fun r s4 ⟨hr,I4⟩=>?_)
  subst hr
  exact wpAny_execs_nil ⟨σ3,H3,I4,qn⟩
 ·refine wpAny_passesOwn hp (thn (T.item X rfl rfl rfl hc i pins s3 σ3 H3 X.xe I3 (stat fr3) st3 go) fun r s4 ⟨u,hr,h4⟩=>?_)
  subst hr
  refine wpAny_passesOwn hp (thn h4 fun _ s5 ⟨x,H5,I5,r5,y5,st5,fr5⟩=>?_)
  have I5':=I5.pinned (stat fr5) (T.obj _ _ st5)
  refine wpAny_passesOwn hp (thn (hg _ s5 σ3 H5 x u _ I5' r5 (step x H5 y5)) fun _ s6 ⟨σ6,H6,I6,q6⟩=>?_)
  refine wpAny_passesOwn hp (thn (hb _ s6 σ6 H6 _ I6 q6) fun f s7 q7=>?_)
  have again:∀ {σ7:St} {H7:Hp},Inv X (pins ++ zeA fp s5.heap) σ7 H7 s7->N σ7 H7->∃ m,m<n/\∃ i σ' H',Inv X pins σ' H' s7/\tn i s7.heap/\(∀ b ∈ fp,H' b=none)/\W i m σ' H':=fun {σ7 H7} I7 n7=>by
   obtain⟨m',hm,w7⟩:=hN σ7 H7 n7
   refine⟨m',hm,i+1,σ7,H7,I7.unpinned,T.keep _ _ _ st5 fun b hb o e=>(I7.pin (b,o) (List.mem_append_right _ (List.mem_append_right _ (zcT hb e)))).1,fun b hb=>?_,w7⟩
   obtain⟨o,e,d⟩:=T.obj _ _ st5 b hb
   exact(I7.pin (b,o) (List.mem_append_right _ (List.mem_append_right _ (zcT hb e)))).2.1
  cases f with
  | next=>obtain⟨σ7,H7,I7,n7⟩:=q7;exact again I7 n7
  | cont=>obtain⟨σ7,H7,I7,n7⟩:=q7;exact again I7 n7
  | brk=>obtain⟨σ7,H7,I7,q7⟩:=q7;exact⟨σ7,H7,I7.unpinned,q7⟩
  | ret v=>obtain⟨x7,σ7,H7,I7,r7,q7⟩:=q7;exact⟨x7,σ7,H7,I7.unpinned,r7,q7⟩
end
end L2
namespace L2
open PySem PySem.Spec PyProof.Rows
noncomputable abbrev R2:=V->V->Hp->VK->Prop
noncomputable def OpR(X:Cx)(f:Value->Value->Sem Value)(r:R2):Prop:=
 ∀ (pins:List (Addr × Obj)) (s:Shared) (σ:St) (H:Hp) (x y:V) (v u:Value) (Q:VK),Inv X pins σ H s->RelV x v->RelV y u->r x y H Q ->
  wpAny (model X.prog X.w) X.A (f v u) (EP X pins σ Q) X.xe s
noncomputable def UnR(X:Cx)(f:Value->Sem Value)(r:V->Hp->VK->Prop):Prop:=
 ∀ (pins:List (Addr × Obj)) (s:Shared) (σ:St) (H:Hp) (x:V) (v:Value) (Q:VK),Inv X pins σ H s->RelV x v->r x H Q ->
  wpAny (model X.prog X.w) X.A (f v) (EP X pins σ Q) X.xe s
noncomputable def zdh(X:Cx)(f:Value)(r:List V->Hp->VK->Prop):Prop:=
 ∀ (pins:List (Addr × Obj)) (s:Shared) (σ:St) (H:Hp) (xs:List V) (us:List Value) (Q:VK),Inv X pins σ H s->Vals xs us->r xs H Q ->
  wpAny (model X.prog X.w) X.A (call f us) (EP X pins σ Q) X.xe s
noncomputable def tOp(r:R2)(ta tb:TE):TE:=fun σ H Q=>ta σ H fun x H1=>tb σ H1 fun y H2=>r x y H2 Q
noncomputable def tUn(r:V->Hp->VK->Prop)(ta:TE):TE:=fun σ H Q=>ta σ H fun x H1=>r x H1 Q
noncomputable def rI(C:Int->Int->Prop)(g:Int->Int->V):R2:=fun x y H Q=>∃ i j,x=.int i/\y=.int j/\C i j/\Q (g i j) H
noncomputable def rI0(g:Int->Int->V):R2:=fun x y H Q=>∃ i j,x=.int i/\y=.int j/\Q (g i j) H
noncomputable def rU(g:Int->V):V->Hp->VK->Prop:=fun x H Q=>∃ i,x=.int i/\Q (g i) H
section
variable {X:Cx}{a b c:Expr}{ta tb tc:TE}{pos:Pos}
theorem binT(ha:PE X a ta)(hb:PE X b tb){pins:List (Addr × Obj)}{s:Shared}{σ:St}{H:Hp}{R:V->V->Hp->Prop}(I:Inv X pins σ H s)
  (h:ta σ H fun x H1=>tb σ H1 fun y H2=>R x y H2) {Q:Value->Shared->Prop} {f:Value->Value->Sem Value}
  (hf:∀ v u s2 x y H2,Inv X pins σ H2 s2->RelV x v->RelV y u->R x y H2->wpAny (model X.prog X.w) X.A (f v u) Q X.xe s2) :
  wpAny (model X.prog X.w) X.A (eval a X.env) (fun v s₁=>wpAny (model X.prog X.w) X.A (eval b X.env) (fun u s₂=>wpAny (model X.prog X.w) X.A (f v u) Q X.xe s₂) X.xe s₁) X.xe s:=by
 refine thn (ha pins s σ H _ I h) fun v s1 ⟨x,H1,I1,r1,q1⟩=>?_
 refine thn (hb pins s1 σ H1 _ I1 q1) fun u s2 ⟨y,H2,I2,r2,q2⟩=>?_
 exact hf v u s2 x y H2 I2 r1 r2 q2
theorem pe_op{op:Operator}{r:R2}(ho:OpR X (binaryOp op) r)(ha:PE X a ta)(hb:PE X b tb):PE X (.BinOp a op b pos) (tOp r ta tb):=by
 intro pins s σ H Q I h
 exact wpAny_BinOp (binT ha hb I h fun v u s2 x y H2 I2 rx ry q=>ho pins s2 σ H2 x y v u Q I2 rx ry q)
theorem pe_un{op:UnaryOp}{r:V->Hp->VK->Prop}(ho:UnR X (unaryOp op) r)(ha:PE X a ta):PE X (.UnaryOp op a pos) (tUn r ta):=by
 intro pins s σ H Q I h
 exact UnaryOp_ (thn (ha pins s σ H _ I h) fun v s1 ⟨x,H1,I1,r1,q1⟩=>ho pins s1 σ H1 x v Q I1 r1 q1)
theorem opI{f:Value->Value->Sem Value}{C:Int->Int->Prop}{g:Int->Int->Int}
  (rule:∀ (i j:Int) (t u:Tok) (s:Shared) (Q:Value->Shared->Prop) (E:Value->Shared->Prop),C i j->Q (.int (g i j) s.toks) { s with toks:=s.toks+1}->wpAny (model X.prog X.w) X.A (f (.int i t) (.int j u)) Q E s) :
  OpR X f (rI C fun i j=>.int (g i j)):=by
 intro pins s σ H x y v u Q I rx ry h
 obtain⟨i,j,rfl,rfl,hc,q⟩:=h
 obtain⟨t,rfl⟩:=rx
 obtain⟨t',rfl⟩:=ry
 exact rule i j t t' s _ _ hc ⟨.int (g i j),H,I.tok _,⟨_,rfl⟩,q⟩
theorem opI0{f:Value->Value->Sem Value}{g:Int->Int->Int}
  (rule:∀ (i j:Int) (t u:Tok) (s:Shared) (Q:Value->Shared->Prop) (E:Value->Shared->Prop),Q (.int (g i j) s.toks) { s with toks:=s.toks+1}->wpAny (model X.prog X.w) X.A (f (.int i t) (.int j u)) Q E s) :
  OpR X f (rI0 fun i j=>.int (g i j)):=by
 intro pins s σ H x y v u Q I rx ry h
 obtain⟨i,j,rfl,rfl,q⟩:=h
 obtain⟨t,rfl⟩:=rx
 obtain⟨t',rfl⟩:=ry
 exact rule i j t t' s _ _ ⟨.int (g i j),H,I.tok _,⟨_,rfl⟩,q⟩
theorem opB0{f:Value->Value->Sem Value}{g:Int->Int->Bool}
  (rule:∀ (i j:Int) (t u:Tok) (s:Shared) (Q:Value->Shared->Prop) (E:Value->Shared->Prop),Q (.bool (g i j)) s->wpAny (model X.prog X.w) X.A (f (.int i t) (.int j u)) Q E s) :
  OpR X f (rI0 fun i j=>.bl (g i j)):=by
 intro pins s σ H x y v u Q I rx ry h
 obtain⟨i,j,rfl,rfl,q⟩:=h
 obtain⟨t,rfl⟩:=rx
 obtain⟨t',rfl⟩:=ry
 exact rule i j t t' s _ _ ⟨.bl (g i j),H,I,rfl,q⟩
noncomputable def CDiv(i j:Int):Prop:=0<j/\j<1073741824
noncomputable def CPow(i j:Int):Prop:=0<=j/\j<=1000000/\i.natAbs<2 ^ 64
noncomputable def CMul(i j:Int):Prop:=(-(2 ^ 64)<i/\i<2 ^ 64) \/ (-(2 ^ 64)<j/\j<2 ^ 64)
theorem CMul.ok{i j:Int}(h:CMul i j):IntMulOk i j:=by
 rcases h with ⟨h1,h2⟩ | ⟨h1,h2⟩
 ·exact .of_left (intBits_le_64 h1 h2)
 ·exact .of_right (intBits_le_64 h1 h2)
theorem op_add:OpR X (binaryOp .Add) (rI0 fun i j=>.int (i+j)):=opI0 fun _ _ _ _ _ _ _ q=>add_int q
theorem op_sub:OpR X (binaryOp .Sub) (rI0 fun i j=>.int (i - j)):=opI0 fun _ _ _ _ _ _ _ q=>sub_int q
theorem op_mul:OpR X (binaryOp .Mult) (rI CMul fun i j=>.int (i * j)):=opI fun _ _ _ _ _ _ _ hc q=>mul_int q hc.ok
theorem op_fdiv:OpR X (binaryOp .FloorDiv) (rI CDiv fun i j=>.int (i / j)):=opI fun i j _ _ _ _ _ hc q=>by
 have h1:(0:Int)<j:=hc.1
 have h2:j<1073741824:=hc.2
 exact floordiv_int (by lia) (by rw[Int.fdiv_eq_ediv_of_nonneg i (by lia)];exact q) (.inl (PyProof.noPylong_small (by lia)))
theorem op_mod:OpR X (binaryOp .Mod) (rI (fun _ j=>0<j) fun i j=>.int (i % j)):=opI fun i j _ _ _ _ _ hc q=>by
 have h1:(0:Int)<j:=hc
 exact mod_int' (by lia) (by rw[Int.fmod_eq_emod_of_nonneg i (by lia)];exact q)
theorem op_pow:OpR X (binaryOp .Pow) (rI CPow fun i j=>.int (i ^ j.toNat)):=opI fun _ _ _ _ _ _ _ hc q=>pow_int_small hc.1 hc.2.1 hc.2.2 q
theorem unI{f:Value->Sem Value}{g:Int->Int}
  (rule:∀ (i:Int) (t:Tok) (s:Shared) (Q:Value->Shared->Prop) (E:Value->Shared->Prop),Q (.int (g i) s.toks) { s with toks:=s.toks+1}->wpAny (model X.prog X.w) X.A (f (.int i t)) Q E s) :
  UnR X f (rU fun i=>.int (g i)):=by
 intro pins s σ H x v Q I rx h
 obtain⟨i,rfl,q⟩:=h
 obtain⟨t,rfl⟩:=rx
 exact rule i t s _ _ ⟨.int (g i),H,I.tok _,⟨_,rfl⟩,q⟩
theorem un_neg:UnR X (unaryOp .USub) (rU fun i=>.int (-i)):=unI fun _ _ _ _ _ q=>neg_int q
end
noncomputable def scal:V->V->Bool
 | .non,.non=>true | .non,.int _=>true | .int _,.non=>true | .non,.bl _=>true | .bl _,.non=>true | .non,.str _=>true | .str _,.non=>true
 | .int _,.int _=>true | .bl _,.bl _=>true | .str _,.str _=>true | .byt _,.byt _=>true
 | .int _,.str _=>true | .str _,.int _=>true | .bl _,.str _=>true | .str _,.bl _=>true
 | _,_=>false
noncomputable def rEq:R2:=fun x y H Q=>scal x y=true/\Q (.bl (decide (x=y))) H
noncomputable def rNe:R2:=fun x y H Q=>scal x y=true/\Q (.bl (!decide (x=y))) H
theorem dec_int{i j:Int}:decide (V.int i=V.int j)=(i == j):=by
 rw[Bool.eq_iff_iff]
 simp
theorem dec_bl{i j:Bool}:decide (V.bl i=V.bl j)=(i == j):=by
 rw[Bool.eq_iff_iff]
 simp
theorem dec_str{i j:Str}:decide (V.str i=V.str j)=(i == j):=by
 rw[Bool.eq_iff_iff]
 simp
theorem dec_byt{i j:Array UInt8}:decide (V.byt i=V.byt j)=(i.toList == j.toList):=by
 rw[Bool.eq_iff_iff]
 cases i
 cases j
 simp
section
variable {X:Cx}{a b c:Expr}{ta tb tc:TE}{pos:Pos}
theorem zaF{pins:List (Addr × Obj)}{σ:St}{H:Hp}{s:Shared}{Q:VK}{k k':Bool}(I:Inv X pins σ H s)(q:Q (.bl k) H)(e:k=k'):EP X pins σ Q (.bool k') s:=by
 subst e
 exact⟨.bl k,H,I,rfl,q⟩
theorem op_eq:OpR X (compareOp .Eq) rEq:=by
 intro pins s σ H x y v u Q I rx ry h
 obtain⟨hs,q⟩:=h
 cases x with
 | non=>
  cases rx
  cases y with
  | non=>cases ry;exact PySem.EqNone.eq_none_none (zaF I q (by simp))
  | bl j=>cases ry;exact PySem.EqNone.eq_none_bool (zaF I q (by simp))
  | int j=>obtain⟨t',rfl⟩:=ry;exact PySem.EqNone.eq_none_int (zaF I q (by simp))
  | str j=>obtain⟨t',rfl⟩:=ry;exact PySem.EqNone.eq_none_str (zaF I q (by simp))
  | _=>exact absurd (show false=true from hs) Bool.false_ne_true
 | bl i=>
  cases rx
  cases y with
  | non=>cases ry;exact PySem.EqNone.eq_bool_none (zaF I q (by simp))
  | bl j=>cases ry;exact eq_bool (zaF I q dec_bl)
  | str j=>obtain⟨t',rfl⟩:=ry;exact PySem.EqMixed.eq_bool_str (zaF I q (by simp))
  | _=>exact absurd (show false=true from hs) Bool.false_ne_true
 | int i=>
  obtain⟨t,rfl⟩:=rx
  cases y with
  | non=>cases ry;exact PySem.EqNone.eq_int_none (zaF I q (by simp))
  | int j=>obtain⟨t',rfl⟩:=ry;exact eq_int (zaF I q dec_int)
  | str j=>obtain⟨t',rfl⟩:=ry;exact PySem.EqMixed.eq_int_str (zaF I q (by simp))
  | _=>exact absurd (show false=true from hs) Bool.false_ne_true
 | str i=>
  obtain⟨t,rfl⟩:=rx
  cases y with
  | non=>cases ry;exact PySem.EqNone.eq_str_none (zaF I q (by simp))
  | bl j=>cases ry;exact PySem.EqMixed.eq_str_bool (zaF I q (by simp))
  | int j=>obtain⟨t',rfl⟩:=ry;exact PySem.EqMixed.eq_str_int (zaF I q (by simp))
  | str j=>obtain⟨t',rfl⟩:=ry;exact eq_str (zaF I q dec_str)
  | _=>exact absurd (show false=true from hs) Bool.false_ne_true
 | byt i=>
  obtain⟨t,rfl⟩:=rx
  cases y with
  | byt j=>obtain⟨t',rfl⟩:=ry;exact PySem.W.eq_bytes (zaF I q dec_byt)
  | _=>exact absurd (show false=true from hs) Bool.false_ne_true
 | _=>cases y <;> exact absurd (show false=true from hs) Bool.false_ne_true
theorem op_ne:OpR X (compareOp .NotEq) rNe:=by
 intro pins s σ H x y v u Q I rx ry h
 obtain⟨hs,q⟩:=h
 cases x with
 | non=>
  cases rx
  cases y with
  | non=>cases ry;exact PySem.EqNone.ne_none_none (zaF I q (by simp))
  | bl j=>cases ry;exact PySem.EqNone.ne_none_bool (zaF I q (by simp))
  | int j=>obtain⟨t',rfl⟩:=ry;exact PySem.EqNone.ne_none_int (zaF I q (by simp))
  | str j=>obtain⟨t',rfl⟩:=ry;exact PySem.EqNone.ne_none_str (zaF I q (by simp))
  | _=>exact absurd (show false=true from hs) Bool.false_ne_true
 | bl i=>
  cases rx
  cases y with
  | non=>cases ry;exact PySem.EqNone.ne_bool_none (zaF I q (by simp))
  | bl j=>cases ry;exact ne_bool (zaF I q (congrArg not dec_bl))
  | str j=>obtain⟨t',rfl⟩:=ry;exact PySem.EqMixed.ne_bool_str (zaF I q (by simp))
  | _=>exact absurd (show false=true from hs) Bool.false_ne_true
 | int i=>
  obtain⟨t,rfl⟩:=rx
  cases y with
  | non=>cases ry;exact PySem.EqNone.ne_int_none (zaF I q (by simp))
  | int j=>obtain⟨t',rfl⟩:=ry;exact ne_int (zaF I q (congrArg not dec_int))
  | str j=>obtain⟨t',rfl⟩:=ry;exact PySem.EqMixed.ne_int_str (zaF I q (by simp))
  | _=>exact absurd (show false=true from hs) Bool.false_ne_true
 | str i=>
  obtain⟨t,rfl⟩:=rx
  cases y with
  | non=>cases ry;exact PySem.EqNone.ne_str_none (zaF I q (by simp))
  | bl j=>cases ry;exact PySem.EqMixed.ne_str_bool (zaF I q (by simp))
  | int j=>obtain⟨t',rfl⟩:=ry;exact PySem.EqMixed.ne_str_int (zaF I q (by simp))
  | str j=>obtain⟨t',rfl⟩:=ry;exact ne_str (zaF I q (congrArg not dec_str))
  | _=>exact absurd (show false=true from hs) Bool.false_ne_true
 | byt i=>
  obtain⟨t,rfl⟩:=rx
  cases y with
  | byt j=>obtain⟨t',rfl⟩:=ry;exact PySem.W.ne_bytes (zaF I q (congrArg not dec_byt))
  | _=>exact absurd (show false=true from hs) Bool.false_ne_true
 | _=>cases y <;> exact absurd (show false=true from hs) Bool.false_ne_true
theorem op_lt:OpR X (compareOp .Lt) (rI0 fun i j=>.bl (decide (i<j))):=opB0 fun _ _ _ _ _ _ _ q=>lt_int q
theorem op_gt:OpR X (compareOp .Gt) (rI0 fun i j=>.bl (decide (j<i))):=opB0 fun _ _ _ _ _ _ _ q=>gt_int q
theorem op_ge:OpR X (compareOp .GtE) (rI0 fun i j=>.bl (decide (j<=i))):=opB0 fun _ _ _ _ _ _ _ q=>ge_int q
theorem op_in_str:OpR X (compareOp .In) (fun x y H Q=>∃ i j,x=.str i/\y=.str j/\Q (.bl (!(Builtin.Str.occurrences j i 0 j.length 1).isEmpty)) H):=by
 intro pins s σ H x y v u Q I rx ry h
 obtain⟨i,j,rfl,rfl,q⟩:=h
 obtain⟨t,rfl⟩:=rx
 obtain⟨t',rfl⟩:=ry
 exact in_str (zaF I q rfl)
theorem op_isN:OpR X (compareOp .Is) (fun x y H Q=>y=.non/\Q (.bl (decide (x=.non))) H):=by
 intro pins s σ H x y v u Q I rx ry h
 obtain⟨rfl,q⟩:=h
 cases ry
 refine is_none_gen (zaF I q ?_)
 cases x <;> first
  | (cases rx;rfl)
  | (obtain⟨t,rfl⟩:=rx;rfl)
theorem op_notN:OpR X (compareOp .IsNot) (fun x y H Q=>y=.non/\Q (.bl (!decide (x=.non))) H):=by
 intro pins s σ H x y v u Q I rx ry h
 obtain⟨rfl,q⟩:=h
 cases ry
 refine isnot_none_gen (zaF I q ?_)
 cases x <;> first
  | (cases rx;rfl)
  | (obtain⟨t,rfl⟩:=rx;rfl)
theorem zfQ:OpR X (compareOp .NotIn) (fun x y H Q=>∃ i j,x=.str i/\y=.str j/\Q (.bl (!(!(Builtin.Str.occurrences j i 0 j.length 1).isEmpty))) H):=by
 intro pins s σ H x y v u Q I rx ry h
 obtain⟨i,j,rfl,rfl,q⟩:=h
 obtain⟨t,rfl⟩:=rx
 obtain⟨t',rfl⟩:=ry
 exact notIn_str (zaF I q rfl)
theorem zbI(b:Expr){op:CmpOp}(h:op ≠ .In:=by decide)(h2:op ≠ .NotIn:=by decide):behindInMarks op b=false:=by
 have e1:(op == CmpOp.In)=false:=by cases op <;> first | rfl | exact absurd rfl h
 have e2:(op == CmpOp.NotIn)=false:=by cases op <;> first | rfl | exact absurd rfl h2
 cases b <;> simp[behindInMarks,e1,e2]
theorem pe_cmpR{op:CmpOp}{r:R2}(ho:OpR X (compareOp op) r)(ha:PE X a ta)(hb:PE X b tb)(hm:behindInMarks op b=false):PE X (.Compare a [op] [b] pos) (tOp r ta tb):=by
 intro pins s σ H Q I h
 exact wpAny_Compare1 (binT ha hb I h fun v u s2 x y H2 I2 rx ry q=>ho pins s2 σ H2 x y v u Q I2 rx ry q) hm
noncomputable def zeh(t:TE):TT:=fun σ H Q=>t σ H fun x H'=>∃ k,x=.bl k/\Q k H'
theorem pt_cmpR{op:CmpOp}{r:R2}(ho:OpR X (compareOp op) r)(ha:PE X a ta)(hb:PE X b tb)(hm:behindInMarks op b=false):PT X (.Compare a [op] [b] pos) (zeh (tOp r ta tb)):=by
 intro pins s σ H Q I h
 refine wpAny_isTrue_Compare1 (thn (ha pins s σ H _ I h) fun v s1 ⟨x,H1,I1,r1,q1⟩=>thn (hb pins s1 σ H1 _ I1 q1) fun u s2 ⟨y,H2,I2,r2,q2⟩=>
  thn (ho pins s2 σ H2 x y v u _ I2 r1 r2 q2) fun c s3 ⟨z,H3,I3,r3,k,e,q3⟩=>?_) hm
 subst e
 cases r3
 exact wpAny_truthy_bool ⟨H3,I3,q3⟩
theorem zet:(sizeLine:Nat)<2 ^ 63:=by rw[sizeLine_eq];decide
theorem zg0:OpR X (binaryOp .Add) (fun x y H Q=>∃ i j,x=.str i/\y=.str j/\i.length+j.length<=sizeLine/\Q (.str (i ++ j)) H):=by
 intro pins s σ H x y v u Q I rx ry h
 obtain⟨i,j,rfl,rfl,hz,q⟩:=h
 obtain⟨t,rfl⟩:=rx
 obtain⟨t',rfl⟩:=ry
 exact add_str (fun t' tk=>⟨.str (i ++ j),H,I.tok _,⟨_,rfl⟩,q⟩) hz
theorem zfc{x:V}{us:List Value}(r:Vals [x] us):∃ u,us=[u]/\RelV x u:=by
 cases r with
 | cons r1 r2=>cases r2;exact⟨_,rfl,r1⟩
theorem vals2{x y:V}{us:List Value}(r:Vals [x,y] us):∃ u w',us=[u,w']/\RelV x u/\RelV y w':=by
 cases r with
 | cons r1 r2=>
  cases r2 with
  | cons r3 r4=>cases r4;exact⟨_,_,rfl,r1,r3⟩
theorem call_int1:zdh X (.type "int") (fun xs H Q=>(∃ i,xs=[.int i]/\Q (.int i) H) \/ ∃ k,xs=[.bl k]/\Q (.int (if k then 1 else 0)) H):=by
 intro pins s σ H xs us Q I r h
 rcases h with ⟨i,rfl,q⟩ | ⟨k,rfl,q⟩
 ·obtain⟨u,rfl,t,rfl⟩:=zfc r
  exact call_int_int ⟨.int i,H,I,⟨_,rfl⟩,q⟩
 ·obtain⟨u,rfl,r1⟩:=zfc r
  cases r1
  exact call_int_bool ⟨.int (if k then 1 else 0),H,I.tok _,⟨_,rfl⟩,q⟩
end
end L2
namespace L2
open PySem PySem.Spec PyProof.Rows
structure ObjM(h:Heap)(x dx C:Addr)(mA:Str->Option Value):Prop where
 obj:h.get? x=some (PySem.W.instObj C dx)
 ns:h.Ns1 dx mA
 ne:dx ≠ x
theorem lookIn_ns{h:Heap}{dx:Addr}{mA:Str->Option Value}(n:h.Ns1 dx mA):∃ od,h.get? dx=some od/\∀ name,PySem.W.lookIn name od=some (mA name):=by
 obtain⟨o,es,ep,ho,hd,hk,_,hm⟩:=n
 refine⟨o,ho,fun name=>?_⟩
 have e:=hm name
 unfold nsFind findBy at e
 rw[<- Array.find?_toList] at e
 unfold PySem.W.lookIn
 rw[hd]
 dsimp only
 split
 ·rename_i y q
  rw[q] at e
  exact congrArg some e
 ·rename_i q
  rw[q] at e
  have a:es.toList.any (·.refKey)=false:=by
   rw[List.any_eq_false]
   intro y hy
   obtain⟨z,t,hkey⟩:=hk y (Array.mem_toList_iff.mp hy)
   simp[DictEntry.refKey,hkey]
  have a':¬ es.toList.any (·.refKey)=true:=by rw[a];exact Bool.false_ne_true
  rw[if_neg a']
  exact congrArg some e
theorem ObjM.look{h:Heap}{x dx C:Addr}{mA:Str->Option Value}(I:ObjM h x dx C mA):∃ od,PySem.W.InstAt h x (PySem.W.instObj C dx) C (some od)/\∀ name,PySem.W.lookIn name od=some (mA name):=
 let⟨od,ho,hl⟩:=lookIn_ns I.ns
 ⟨od,⟨I.obj,rfl,rfl,ho⟩,hl⟩
section
variable {prog:Program}{w:World}{A:Around}{E:Value->Shared->Prop}{s:Shared}{K:PySem.W.Frag}{x dx C f:Addr}{mA:Str->Option Value}{name:Str}{v:Value}
theorem get_map{expr:Bool}{Q:Value->Shared->Prop}(X:K.In s.heap)(I:ObjM s.heap x dx C mA)(hg:PySem.W.plainGet K C name=true)(hh:PySem.W.hasDictIn K C=true)
  (ha:PySem.W.findIn K (.ref C) name=some none) (hv:mA name=some v) (hv':PySem.W.handedIn v=true) (h:Q v { s with toks:=s.toks+1}) :
  wpAny (model prog w) A (getAttr (.ref x) name expr) Q E s:=by
 obtain⟨od,J,hl⟩:=I.look
 exact PySem.W.get_value X J (PySem.W.plainGet_of hg).1 (PySem.W.findObj_own hh ha rfl (by rw[hl,hv])) hv' h
theorem get_meth{pl:Sem Bool}{Q:Value × List Value->Shared->Prop}(X:K.In s.heap)(I:ObjM s.heap x dx C mA)(hg:PySem.W.plainGet K C name=true)
  (hf:PySem.W.findIn K (.ref C) name=some (some (.ref f))) (ht:PySem.W.isFn K (.ref f)=true) (hv:mA name=none) (h:Q (.ref f,[.ref x]) s) :
  wpAny (model prog w) A (getMethod (.ref x) name pl) Q E s:=by
 obtain⟨od,J,hl⟩:=I.look
 exact PySem.W.method_fn X J (PySem.W.plainGet_of hg).1 (PySem.W.plainGet_of hg).2 hf (beq_iff_eq.mp ht) (by show(PySem.W.lookIn name od).map (·.isSome)=some false;rw[hl,hv];rfl) h
theorem set_map{ns:List Str}{Q:Unit->Shared->Prop}(X:K.In s.heap)(I:ObjM s.heap x dx C mA)
  (hs:PySem.W.findIn K (.ref C) "__setattr__" = some (some (.builtin "object.__setattr__"))) (hp:PySem.W.plainOver K C=true) (ht:PySem.W.takerIn K C name=some none) (hh:PySem.W.hasDictIn K C=true)
  (hw:PySem.Within mA ns) (hsz:ns.length<=sizeLine)
  (h:∀ h',ObjM h' x dx C (fun y=>if y=name then some v else mA y)->Heap.SameBut dx s.heap h'->Q () { s with heap:=h',toks:=s.toks+2}) :
  wpAny (model prog w) A (setAttr (.ref x) name v) Q E s:=by
 obtain⟨od,J,hl⟩:=I.look
 refine PySem.W.set_plain X J hs (PySem.W.osa_open (s:={ s with toks:=s.toks+1}) (r:=none) X J hp ht fun b=>?_)
 obtain⟨cd,hc,hd'⟩:=PySem.W.any_some hh
 have hx:s.heap.get? x=some ⟨.ref C,some dx,.plain,#[]⟩:=I.obj
 refine wpAny_bind (wpAny_pure (wpAny_bind (wpAny_bind (wpAny_loadPart hx (wpAny_bind (PySem.W.Looks.here (s:={ s with toks:=s.toks+1}) (PySem.W.looks_clsIn X hc) ?_))))))
 rw[hd']
 refine wpAny_pure (a:=some dx) (wpAny_bind (wpAny_pure (wpAny_bind ?_)))
 refine wpAny_nsSet1 (s:={ s with toks:=s.toks+1}) I.ns fun h' hn2 hs2=>?_
 obtain⟨oD,esD,epD,hoD,hdD,hcD⟩:=hn2.count (PySem.Within.cons name v hw)
 refine wpAny_bind (wpAny_lookBehind hoD (by rw[hdD];exact pastItsLine_dict (Nat.le_trans hcD (by rw[List.length_cons];lia))) ?_)
 exact wpAny_pure (h _ ⟨(hs2.2 _ (Ne.symm I.ne)).trans I.obj,hn2,I.ne⟩ hs2)
theorem make_map{R:Result->Shared->Prop}{vs:List Value}{kw:List (Str × Value)}(X:K.In s.heap)(hm:PySem.W.makesIn K C=true)
  (hi:PySem.W.findIn K (.ref C) "__init__" = some (some (.ref f))) (hf:PySem.W.typeIn K (.ref f)=some (.type "function"))
  (h:codeAny (model prog w) (A.under (.builtin "type.__call__" ⟨.ref C :: vs,kw⟩)) (.call (.ref f) ⟨.ref (s.heap.objs.size+1) :: vs,kw⟩) (PySem.W.InitBack (s.heap.objs.size+1) R)
   { s with heap:=(s.heap.push PySem.W.emptyDict).push (PySem.W.instObj C s.heap.objs.size)}) :
  codeAny (model prog w) A (.call (.ref C) ⟨vs,kw⟩) R s:=by
 obtain⟨hh,g,d,t,os⟩:=s
 exact PySem.W.make_core (PySem.W.makes_of X hm) (PySem.W.looks_findIn X hi) (fun self=>PySem.W.bind_fn X self hf) (.inl rfl) h
end
noncomputable def zei(f:Str)(v:V):List (Str × V)->List (Str × V)
 | []=>[(f,v)]
 | (g,x) :: r=>if g=f then (g,v) :: r else (g,x) :: zei f v r
theorem zd8(f g:Str)(v:V):∀ fs:List (Str × V),(zei f v fs).lookup g=if g=f then some v else fs.lookup g
 | []=>by
  show List.lookup g [(f,v)]=_
  by_cases h:g=f
  ·have hb:(g == f)=true:=beq_iff_eq.mpr h
   simp only[List.lookup,hb,if_pos h]
  ·have hb:(g == f)=false:=beq_eq_false_iff_ne.mpr h
   simp only[List.lookup,hb,if_neg h]
 | (k,x) :: r=>by
  have ih:=zd8 f g v r
  rw[show zei f v ((k,x) :: r)=(if k=f then (k,v) :: r else (k,x) :: zei f v r) from rfl]
  by_cases hk:k=f
  ·rw[if_pos hk]
   by_cases h:g=k
   ·have hb:(g == k)=true:=beq_iff_eq.mpr h
    simp only[List.lookup,hb,if_pos (h.trans hk)]
   ·have hb:(g == k)=false:=beq_eq_false_iff_ne.mpr h
    simp only[List.lookup,hb,if_neg (fun e:g=f=>h (e.trans hk.symm))]
  ·rw[if_neg hk]
   by_cases h:g=k
   ·have hb:(g == k)=true:=beq_iff_eq.mpr h
    simp only[List.lookup,hb,if_neg (fun e:g=f=>hk (h.symm.trans e))]
   ·have hb:(g == k)=false:=beq_eq_false_iff_ne.mpr h
    simp only[List.lookup,hb]
    exact ih
theorem zea(f:Str)(v:V):∀ fs:List (Str × V),f ∈ (zei f v fs).map (·.1)/\∀ g,g ∈ fs.map (·.1)->g ∈ (zei f v fs).map (·.1)
 | []=>⟨by simp[zei],fun g h=>by simp at h⟩
 | (k,x) :: r=>by
  obtain⟨i1,i2⟩:=zea f v r
  rw[show zei f v ((k,x) :: r)=(if k=f then (k,v) :: r else (k,x) :: zei f v r) from rfl]
  by_cases hk:k=f
  ·rw[if_pos hk]
   subst hk
   exact⟨by simp,fun g h=>by simpa using h⟩
  ·rw[if_neg hk]
   refine⟨?_,fun g h=>?_⟩
   ·rw[List.map_cons]
    exact List.mem_cons_of_mem _ i1
   ·rw[List.map_cons] at h ⊢
    rcases List.mem_cons.mp h with e | e
    ·exact List.mem_cons.mpr (.inl e)
    ·exact List.mem_cons_of_mem _ (i2 g e)
theorem zed(f:Str)(v:V):∀ fs:List (Str × V),(zei f v fs).length<=fs.length+1
 | []=>by simp[zei]
 | (k,x) :: r=>by
  have ih:=zed f v r
  rw[show zei f v ((k,x) :: r)=(if k=f then (k,v) :: r else (k,x) :: zei f v r) from rfl]
  by_cases hk:k=f
  ·rw[if_pos hk,List.length_cons,List.length_cons];lia
  ·rw[if_neg hk,List.length_cons,List.length_cons];lia
theorem RelO.some_of{v:V}{o:Option Value}(r:RelO (some v) o):∃ u,o=some u/\RelV v u:=by
 cases o with
 | none=>exact(show False from r).elim
 | some u=>exact⟨u,rfl,r⟩
theorem RelO.none_of{o:Option Value}(r:RelO none o):o=none:=by
 cases o with
 | none=>rfl
 | some u=>exact(show False from r).elim
theorem handed_of{v:V}{u:Value}(r:RelV v u):PySem.W.handedIn u=true:=by
 cases v with
 | non=>cases (show u=Value.none from r);rfl
 | bl b=>cases (show u=Value.bool b from r);rfl
 | int i=>obtain⟨t,e⟩:=(show ∃ t,u=Value.int i t from r);cases e;rfl
 | str x=>obtain⟨t,e⟩:=(show ∃ t,u=Value.str x t from r);cases e;rfl
 | byt b=>obtain⟨t,e⟩:=(show ∃ t,u=Value.bytes b t from r);cases e;rfl
 | flt b=>obtain⟨t,e⟩:=(show ∃ t,u=Value.float b t from r);cases e;rfl
 | ref a=>cases (show u=Value.ref a from r);rfl
 | ty n=>cases (show u=Value.type n from r);rfl
section
variable {P:Program}{w:World}{H H':Hp}{h h':Heap}{a C dx:Addr}{fs fs':List (Str × V)}
theorem zeL(hok:HOk P w H h)(e:H a=some (.ins C dx fs)):∃ mA,ObjM h a dx C mA/\(∀ f,RelO (fs.lookup f) (mA f))/\PySem.Within mA (fs.map (·.1))/\fs.length<=1000/\H dx=some (.own a):=by
 obtain⟨d,z,ne,ob,mA,n,r,q⟩:=(show ObjOk P w H h a (.ins C dx fs) from hok a _ e)
 exact⟨mA,⟨ob,n,ne⟩,r,q,z,d⟩
end
structure Cls(K:PySem.W.Frag)(C:Addr):Prop where
 pg:PySem.W.plainGet K C Str.empty=true
 hd:PySem.W.hasDictIn K C=true
 po:PySem.W.plainOver K C=true
 sa:PySem.W.findIn K (.ref C) "__setattr__" = some (some (.builtin "object.__setattr__"))
theorem Cls.get{K:PySem.W.Frag}{C:Addr}(c:Cls K C)(f:Str):PySem.W.plainGet K C f=true:=c.pg
noncomputable def NoAttr(K:PySem.W.Frag)(C:Addr)(f:Str):Prop:=PySem.W.findIn K (.ref C) f=some none
theorem NoAttr.taker{K:PySem.W.Frag}{C:Addr}{f:Str}(n:NoAttr K C f):PySem.W.takerIn K C f=some none:=by
 unfold PySem.W.takerIn
 rw[show PySem.W.findIn K (.ref C) f=some none from n]
 rfl
structure Con(K:PySem.W.Frag)(C:Addr)(f:Str)(v:V)(u:Value):Prop where
 at_:PySem.W.findIn K (.ref C) f=some (some u)
 rel:RelV v u
 get:PySem.W.specialIn K u "__get__" = some none
 cp:PySem.W.copiedNames.contains f=false
structure Meth(K:PySem.W.Frag)(C:Addr)(m:Str)(f:Addr):Prop where
 at_:PySem.W.findIn K (.ref C) m=some (some (.ref f))
 fn:PySem.W.isFn K (.ref f)=true
 kp:PySem.W.keepIn K (.ref f)=true
section
variable {X:Cx}{pins:List (Addr × Obj)}{σ:St}{H:Hp}{s:Shared}{a C dx:Addr}{fs:List (Str × V)}{f:Str}{v:V}{A:Around}{E:Value->Shared->Prop}
theorem zhl{b:Bool}{Q:Value->Shared->Prop}(I:Inv X pins σ H s)(e:H a=some (.ins C dx fs))(c:Cls X.K C)(n:NoAttr X.K C f)(l:fs.lookup f=some v)
  (h:∀ u s',Inv X pins σ H s'->RelV v u->Q u s'):wpAny (model X.prog X.w) A (getAttr (.ref a) f b) Q E s:=by
 obtain⟨mA,O,r,_,_,_⟩:=zeL I.hok e
 obtain⟨u,hu,ru⟩:=RelO.some_of (v:=v) (o:=mA f) (by rw[<- l];exact r f)
 exact get_map I.kIn O (c.get f) c.hd n hu (handed_of ru) (h u _ (I.tok _) ru)
theorem zer{m:Str}{g:Addr}{pl:Sem Bool}{Q:Value × List Value->Shared->Prop}(I:Inv X pins σ H s)(e:H a=some (.ins C dx fs))(c:Cls X.K C)(k:Meth X.K C m g)(l:fs.lookup m=none)
  (h:Q (.ref g,[.ref a]) s):wpAny (model X.prog X.w) A (getMethod (.ref a) m pl) Q E s:=by
 obtain⟨mA,O,r,_,_,_⟩:=zeL I.hok e
 have hn:mA m=none:=RelO.none_of (by rw[<- l];exact r m)
 exact get_meth I.kIn O (c.get m) k.at_ k.fn hn h
theorem zhe{y:V}{u:Value}{Q:Unit->Shared->Prop}(I:Inv X pins σ H s)(e:H a=some (.ins C dx fs))(c:Cls X.K C)(n:NoAttr X.K C f)(hl:fs.length<1000)(ry:RelV y u)
  (h:∀ s',Inv X pins σ (upd H a (.ins C dx (zei f y fs))) s'->Q () s'):wpAny (model X.prog X.w) A (setAttr (.ref a) f u) Q E s:=by
 obtain⟨mA,O,r,wi,_,ho⟩:=zeL I.hok e
 have hz:(fs.map (·.1)).length<=sizeLine:=by rw[List.length_map,sizeLine_eq];lia
 refine set_map I.kIn O c.sa c.po n.taker c.hd wi hz fun h' O' sb=>h _ ?_
 have hd:∃ o,h'.get? dx=some o:=let⟨o,_,_,e',_⟩:=O'.ns;⟨o,e'⟩
 refine I.write (x:=a) (e:=dx) (by rw[e];exact True.intro) (.inr ho) (fun b q hb z=>(sb.2 b hb).trans z) hd ?_
 refine⟨by rw[zah O.ne];exact ho,?_,O.ne,O'.obj,_,O'.ns,fun g=>?_,fun g hg=>?_⟩
 ·have:=zed f y fs;lia
 ·show RelO ((zei f y fs).lookup g) (if g=f then some u else mA g)
  rw[zd8]
  by_cases q:g=f
  ·rw[if_pos q,if_pos q];exact ry
  ·rw[if_neg q,if_neg q];exact r g
 ·by_cases q:g=f
  ·rw[q];exact(zea f y fs).1
  ·refine(zea f y fs).2 g (wi g fun z=>hg ?_)
   show(if g=f then some u else mA g)=none
   rw[if_neg q];exact z
theorem Inv.made(I:Inv X pins σ H s):Inv X pins σ (upd (upd H s.heap.objs.size (.own (s.heap.objs.size+1))) (s.heap.objs.size+1) (.ins C s.heap.objs.size []))
  { s with heap:=(s.heap.push PySem.W.emptyDict).push (PySem.W.instObj C s.heap.objs.size)}:=by
 have e1:(s.heap.push PySem.W.emptyDict).get? s.heap.objs.size=some PySem.W.emptyDict:=Heap.get?_push_size s.heap rfl
 have e2:((s.heap.push PySem.W.emptyDict).push (PySem.W.instObj C s.heap.objs.size)).get? (s.heap.objs.size+1)=some (PySem.W.instObj C s.heap.objs.size):=by
  have:=Heap.get?_push_size (s.heap.push PySem.W.emptyDict) (o:=PySem.W.instObj C s.heap.objs.size) rfl
  rwa [Heap.size_push] at this
 have e3:(s.heap.push PySem.W.emptyDict).Ns s.heap.objs.size (fun _=>none):=⟨PySem.W.emptyDict,#[],_,e1,rfl,(fun e he=>absurd he (by simp)),fun _=>rfl⟩
 have I1:=I.laid (a:=s.heap.objs.size) (o:=.own (s.heap.objs.size+1)) (h':=s.heap.push PySem.W.emptyDict) (t':=s.toks) (fun b u q=>Heap.get?_push_of_some _ q) (Nat.le_refl _) ⟨_,e1⟩
 refine I1.laid (a:=s.heap.objs.size+1) (o:=.ins C s.heap.objs.size []) (t':=s.toks) (fun b u q=>Heap.get?_push_of_some _ q) (Nat.le_of_eq (Heap.size_push _ _)) ?_
 have ne:s.heap.objs.size ≠ s.heap.objs.size+1:=Nat.ne_of_lt (Nat.lt_succ_self _)
 refine⟨by rw[zah ne,zae],Nat.zero_le _,ne,e2,fun _=>none,(Heap.Ns1.of_empty e3).at fun o q=>Heap.get?_push_of_some _ q,fun _=>True.intro,fun y hy=>absurd rfl hy⟩
theorem attr_of{prog:Program}{w:World}{env:Env}{e:Expr}{f:Str}{pos:Pos}{s:Shared}{Q:Value->Shared->Prop}(hb:attributeBase e f env (eval e env)=eval e env)
  (h:wpAny (model prog w) A (eval e env) (fun o s₁=>wpAny (model prog w) A (getAttr o f true) Q E s₁) E s):wpAny (model prog w) A (eval (.Attribute e f pos) env) Q E s:=
 Attribute_any_ h (by rw[arm_eval_Attribute,hb])
end
noncomputable def zhn(K:PySem.W.Frag)(ta:TE)(f:Str):TE:=fun σ H Q=>ta σ H fun x H1=>∃ a C dx fs v,x=.ref a/\H1 a=some (.ins C dx fs)/\Cls K C/\NoAttr K C f/\fs.lookup f=some v/\Q v H1
noncomputable def sFld(K:PySem.W.Frag)(ta tv:TE)(f:Str):TS:=fun D σ H=>tv σ H fun y H1=>ta σ H1 fun x H2=>∃ a C dx fs,x=.ref a/\H2 a=some (.ins C dx fs)/\Cls K C/\NoAttr K C f/\fs.length<1000 /\
 D.nx σ (upd H2 a (.ins C dx (zei f y fs)))
section
variable {X:Cx}{o e value:Expr}{f:Str}{pos pos' tpos:Pos}{ta tv:TE}
theorem zdH(he:PE X e ta)(hb:attributeBase e f X.env (eval e X.env)=eval e X.env):PE X (.Attribute e f pos) (zhn X.K ta f):=by
 intro pins s σ H Q I h
 refine attr_of hb (thn (he pins s σ H _ I h) fun u s1 ⟨x,H1,I1,rx,a,C,dx,fs,v,ex,ea,c,n,l,q⟩=>?_)
 subst ex
 obtain rfl:u=Value.ref a:=rx
 exact zhl I1 ea c n l fun u' s2 I2 ru=>⟨v,H1,I2,ru,q⟩
theorem ps_fld(ha:PE X o ta)(hv:PE X value tv)(hs:swapsWith value (some (.Attribute o f pos')) pos.line X.env=pure false):PS X (.Assign [.Attribute o f pos'] value pos) (sFld X.K ta tv f):=by
 intro pins s σ H D I h
 refine plainObj_wpAny_Assign_Attribute (thn (hv pins s σ H _ I h) fun u s1 ⟨y,H1,I1,ry,q⟩=>thn (ha pins s1 σ H1 _ I1 q) fun ov s2 ⟨x,H2,I2,rx,a,C,dx,fs,ex,ea,c,n,l,q2⟩=>?_) hs
 subst ex
 obtain rfl:ov=Value.ref a:=rx
 exact zhe I2 ea c n l ry fun s3 I3=>⟨σ,_,I3,q2⟩
end
section
variable {X:Cx}{pins:List (Addr × Obj)}{σ:St}{H:Hp}{s:Shared}{A:Around}{E:Value->Shared->Prop}{Q:Value->Shared->Prop}{c:Value}{b:Bool}
inductive TyOf(K:PySem.W.Frag)(H:Hp):V->Value->Prop where
 | non:TyOf K H .non (.type "NoneType")
 | bl (x:Bool):TyOf K H (.bl x) (.type "bool")
 | int (i:Int):TyOf K H (.int i) (.type "int")
 | str (x:Str):TyOf K H (.str x) (.type "str")
 | flt (x:UInt64):TyOf K H (.flt x) (.type "float")
 | lst {a:Addr} {xs:List V} (e:H a=some (.lst xs)):TyOf K H (.ref a) (.type "list")
 | frz {a:Addr} {o:Obj} {xs:List V} (e:H a=some (.frz o (.lst xs))):TyOf K H (.ref a) (.type "list")
 | tup {a:Addr} {xs:List V} (e:H a=some (.tup xs)):TyOf K H (.ref a) (.type "tuple")
 | dK {a:Addr} {kvs:List (Key × V)} (e:Rd H a (.dK kvs)):TyOf K H (.ref a) (.type "dict")
 | dT {a:Addr} {kvs:List (List Key × V)} (e:H a=some (.dT kvs)):TyOf K H (.ref a) (.type "dict")
 | ins {a C dx:Addr} {fs:List (Str × V)} (e:H a=some (.ins C dx fs)) (cl:Cls K C) (ha:PySem.W.findIn K (.ref C) "__class__" = some (some (.builtin "object.__class__")))
   (hn:PySem.W.specialIn K (.builtin "object.__class__") "__get__" = some (some (.builtin "getset_descriptor.__get__"))) (htk:PySem.W.takesIn K (.builtin "object.__class__")=some true)
   (hm:PySem.W.mroIn K C (.type "object")=some true):TyOf K H (.ref a) (.ref C)
theorem isinst_ok{x:V}{u t:Value}(I:Inv X pins σ H s)(rx:RelV x u)(ty:TyOf X.K H x t)(e:PySem.W.kitOne X.K t c=some b)(h:∀ tk,Q (.bool b) { s with toks:=tk}) :
  wpAny (model X.prog X.w) A (call (.builtin "isinstance") [u,c]) Q E s:=by
 cases ty with
 | non=>cases (show u=Value.none from rx);exact PySem.W.kia_one PySem.W.kitx_none I.kIn True.intro e (fun z=>nomatch z) h
 | bl y=>cases (show u=Value.bool y from rx);exact PySem.W.kia_one PySem.W.kitx_bool I.kIn True.intro e (fun z=>nomatch z) h
 | int i=>obtain⟨t,q⟩:=(show ∃ t,u=Value.int i t from rx);cases q;exact PySem.W.kia_one PySem.W.kitx_int I.kIn True.intro e (fun z=>nomatch z) h
 | str y=>obtain⟨t,q⟩:=(show ∃ t,u=Value.str y t from rx);cases q;exact PySem.W.kia_one PySem.W.kitx_str I.kIn True.intro e (fun z=>nomatch z) h
 | flt y=>obtain⟨t,q⟩:=(show ∃ t,u=Value.float y t from rx);cases q;exact PySem.W.kia_one PySem.W.kitx_float I.kIn True.intro e (fun z=>nomatch z) h
 | @lst a xs ea=>
  cases (show u=Value.ref a from rx)
  obtain⟨_,_,n,_,h1⟩:=(show ObjOk X.prog X.w H s.heap a (.lst xs) from I.hok a _ ea)
  exact PySem.W.kia_one PySem.W.kitx_list I.kIn ⟨_,h1,rfl⟩ e (fun z=>nomatch z) h
 | @frz a ob xs ea=>
  cases (show u=Value.ref a from rx)
  obtain⟨_,_,_,n,_,h1⟩:=(show ObjOk X.prog X.w H s.heap a (.frz ob (.lst xs)) from I.hok a _ ea)
  exact PySem.W.kia_one PySem.W.kitx_list I.kIn ⟨_,h1,rfl⟩ e (fun z=>nomatch z) h
 | @tup a xs ea=>
  cases (show u=Value.ref a from rx)
  obtain⟨_,_,_,p⟩:=(show ObjOk X.prog X.w H s.heap a (.tup xs) from I.hok a _ ea)
  obtain⟨o,h1,h2,_⟩:=p
  exact PySem.W.kia_one PySem.W.kitx_tuple I.kIn ⟨o,h1,h2⟩ e (fun z=>nomatch z) h
 | @dK a kvs ea=>
  cases (show u=Value.ref a from rx)
  obtain⟨_,_,vs,_,p⟩:=(show ObjOk X.prog X.w H s.heap a (.dK kvs) from ea.ok I.hok)
  obtain⟨o,es,ep,h1,h2,_⟩:=p
  exact PySem.W.kia_one PySem.W.kitx_dict I.kIn ⟨o,h1,h2.1⟩ e (fun z=>nomatch z) h
 | @dT a kvs ea=>
  cases (show u=Value.ref a from rx)
  obtain⟨_,_,xs,_,o,es,ep,h1,h2,_⟩:=(show ObjOk X.prog X.w H s.heap a (.dT kvs) from I.hok a _ ea)
  exact PySem.W.kia_one PySem.W.kitx_dict I.kIn ⟨o,h1,h2.1⟩ e (fun z=>nomatch z) h
 | @ins a C dx fs ea cl ha hn htk hm=>
  cases (show u=Value.ref a from rx)
  obtain⟨mA,O,_⟩:=zeL I.hok ea
  obtain⟨od,J,_⟩:=O.look
  exact PySem.W.kia_one (PySem.W.kitx_own (cl.get _) cl.hd ha hn htk hm) I.kIn J e (fun z=>nomatch z) h
end
end L2
namespace L2
open PySem PySem.Spec PyProof.Rows
structure Room(k:Nat)(A:Around):Prop where
 hd:A.handled=none
 dp:A.depth+3 * k+5<recursionLimit
 un:A.units+16 * k+200<cLine
theorem Room.mono{j k:Nat}{A:Around}(r:Room k A)(h:j<=k):Room j A:=⟨r.hd,by have:=r.dp;lia,by have:=r.un;lia⟩
theorem Room.deeper{k:Nat}{A:Around}(r:Room (k+1) A)(env:Env):Room k (A.deeper env):=
 ⟨r.hd,by have:=r.dp;show A.depth+1+3 * k+5<_;lia,by have:=r.un;show A.units+3+16 * k+200<_;lia⟩
theorem zhf{A:Around}{C:Addr}{us:List Value}{kw:List (Str × Value)}:(A.under (.builtin "type.__call__" ⟨.ref C :: us,kw⟩)).depth=A.depth+1:=by
 first | rfl | simp[Around.under,Code.weight,Code.isCreation,Code.isGuard,Code.isCaller,Code.frames,Code.isFrame,guardIds]
theorem zhp{A:Around}{C:Addr}{us:List Value}{kw:List (Str × Value)}:(A.under (.builtin "type.__call__" ⟨.ref C :: us,kw⟩)).units=A.units+1:=by
 first | rfl | simp[Around.under,Code.cUnits,Code.frames,Code.isFrame]
theorem Room.make{k:Nat}{A:Around}(r:Room (k+1) A)(C:Addr)(us:List Value)(kw:List (Str × Value)):Room k (A.under (.builtin "type.__call__" ⟨.ref C :: us,kw⟩)):=
 ⟨r.hd,by have:=r.dp;rw[zhf];lia,by have:=r.un;rw[zhp];lia⟩
theorem Room.depth{k:Nat}{A:Around}(r:Room k A):A.depth<recursionLimit:=by have:=r.dp;lia
theorem Room.units{k:Nat}{A:Around}(r:Room k A):A.units+64<cLine:=by have:=r.un;lia
noncomputable def zfi:TA:=fun _ H Q=>Q [] H
noncomputable def zcL(ta:TE)(tr:TA):TA:=fun σ H Q=>ta σ H fun x H1=>tr σ H1 fun xs H2=>Q (x :: xs) H2
section
variable {X:Cx}{e:Expr}{es:List Expr}{te:TE}{t:TA}{pos:Pos}
theorem pa_nil:PA X [] zfi:=fun _ _ _ _ H Q I h=>Calls.spliced_nil ⟨[],H,I,.nil,h⟩
theorem zgm(ha:PE X e te)(hr:PA X es t)(hs:starEach (e :: es) X.env=(false,eval e X.env) :: starEach es X.env:=by rfl):PA X (e :: es) (zcL te t):=by
 intro pos pins s σ H Q I h
 rw[hs]
 show wpAny _ _ (spliced ((false,eval e X.env) :: backTo pos (starEach es X.env))) _ _ s
 refine Calls.spliced_cons (thn (ha pins s σ H _ I h) fun u s1 ⟨x,H1,I1,r1,q1⟩=>?_)
 exact thn (hr pos pins s1 σ H1 _ I1 q1) fun us s2 ⟨xs,H2,I2,r2,q2⟩=>⟨x :: xs,H2,I2,.cons r1 r2,q2⟩
noncomputable def tTup(t:TA):TE:=fun σ H Q=>t σ H fun xs H1=>xs.length<=sizeLine/\∀ p,H1 p=none->Q (.ref p) (upd H1 p (.tup xs))
noncomputable def tLst(t:TA):TE:=fun σ H Q=>t σ H fun xs H1=>xs.length<=sizeLine/\∀ p,H1 p=none->Q (.ref p) (upd H1 p (.lst xs))
theorem pe_tup{x1}(h:PA X es t):PE X (.Tuple es x1 pos) (tTup t):=by
 intro pins s σ H Q I hq
 refine wpAny_Tuple_spliced (thn (h pos pins s σ H _ I hq) fun us s1 ⟨xs,H1,I1,r,z,q⟩=>⟨by rw[<- r.length];exact z,?_⟩)
 have hf:H1 s1.heap.objs.size=none:=I1.hok.fresh (Nat.le_refl _)
 refine⟨.ref s1.heap.objs.size,upd H1 s1.heap.objs.size (.tup xs),I1.laid (t':=s1.toks) (fun b u e=>Heap.get?_push_of_some _ e) (Nat.le_refl _) ?_,rfl,q _ hf⟩
 exact⟨z,us,r,⟨_,Heap.get?_push_size _ rfl,rfl,_,rfl⟩⟩
theorem pe_lst(h:PA X es t):PE X (.List es pos) (tLst t):=by
 intro pins s σ H Q I hq
 refine wpAny_List_spliced (thn (h pos pins s σ H _ I hq) fun us s1 ⟨xs,H1,I1,r,z,q⟩=>⟨by rw[<- r.length];exact z,?_⟩)
 have hf:H1 s1.heap.objs.size=none:=I1.hok.fresh (Nat.le_refl _)
 refine⟨.ref s1.heap.objs.size,upd H1 s1.heap.objs.size (.lst xs),I1.laid (t':=s1.toks) (fun b u e=>Heap.get?_push_of_some _ e) (Nat.le_refl _) ?_,rfl,q _ hf⟩
 exact⟨z,us,0,r,Heap.get?_push_size _ rfl⟩
end
noncomputable abbrev Sp:=List V->Hp->VK->XK->Prop
noncomputable abbrev CXT:=List Env->Hp->Shared->XK->Value->Shared->Prop
structure Env0(P:Program)(w:World)(K:PySem.W.Frag)(mg:Str->Option Value)(base:Heap)(A:Around)(outer:List Env)(s:Shared)(H:Hp):Prop where
 frames:A.frames=some outer
 mod:Mod K mg base
 bs:∀ b o,base.get? b=some o->s.heap.get? b=some o/\H b=none
 bsz:base.objs.size<=s.heap.objs.size
 funs:s.heap.FunFrames base outer
 frf:∀ b ∈ frs outer,H b=none
 hok:HOk P w H s.heap
 bare:AllBare s.gens
noncomputable def CE(outer:List Env)(P:Program)(w:World)(H:Hp)(s:Shared)(Q:VK)(u:Value)(s':Shared):Prop:=
 ∃ v H',s'.os=s.os/\AllBare s'.gens/\Un (frs outer) [] H H' s.heap s'.heap/\HOk P w H' s'.heap/\RelV v u/\Q v H'
noncomputable def CR(CX:CXT)(outer:List Env)(P:Program)(w:World)(H:Hp)(s:Shared)(Q:VK)(E:XK)(r:Result)(s':Shared):Prop:=
 match r with
 | .ok (.ret u)=>CE outer P w H s Q u s'
 | .ok _=>False
 | .error e=>CX outer H s E e s'
structure FnOk(P:Program)(w:World)(K:PySem.W.Frag)(mg:Str->Option Value)(base:Heap)(CX:CXT)(k:Nat)(f:Addr)(fd:FuncData)(ps:List Str)(sp:Sp):Prop where
 len:∀ vs H Q E,sp vs H Q E->vs.length=ps.length
 run:∀ (A:Around) (outer:List Env) (s:Shared) (H:Hp) (args:Args) (us:List Value) (vs:List V) (Q:VK) (E:XK),Room k A->Env0 P w K mg base A outer s H->BindsTo s fd args (ps.zip us)->Vals vs us->sp vs H Q E ->
  codeAny (model P w) A (.call (.ref f) args) (CR CX outer P w H s Q E) s
theorem FnOk.imp{P:Program}{w:World}{K:PySem.W.Frag}{mg:Str->Option Value}{base:Heap}{CX:CXT}{k:Nat}{f:Addr}{fd:FuncData}{ps:List Str}{sp sp':Sp}(F:FnOk P w K mg base CX k f fd ps sp)
  (h:∀ vs H Q E,sp' vs H Q E->sp vs H Q E):FnOk P w K mg base CX k f fd ps sp':=
 ⟨fun vs H Q E q=>F.len vs H Q E (h _ _ _ _ q),fun A outer s H args us vs Q E hr he hb hv hs=>F.run A outer s H args us vs Q E hr he hb hv (h _ _ _ _ hs)⟩
theorem Env0.make{P:Program}{w:World}{K:PySem.W.Frag}{mg:Str->Option Value}{base:Heap}{A:Around}{outer:List Env}{s:Shared}{H:Hp}(e:Env0 P w K mg base A outer s H)(C:Addr)(us:List Value)(kw:List (Str × Value)) :
  Env0 P w K mg base (A.under (.builtin "type.__call__" ⟨.ref C :: us,kw⟩)) outer s H:=⟨by first | exact e.frames | (simpa [Around.under,Code.envs,Code.isFrame,pushEnvs] using e.frames),e.mod,e.bs,e.bsz,e.funs,e.frf,e.hok,e.bare⟩
section
variable {X:Cx}{pins:List (Addr × Obj)}{σ:St}{H:Hp}{s s':Shared}
theorem Inv.env0(I:Inv X pins σ H s):Env0 X.prog X.w X.K X.mg X.base X.A X.stack s H:=
 ⟨I.ok.frames,I.ok.mod,I.bs,Nat.le_trans I.ok.bsz I.sz,I.stack,I.stkFree,I.hok,I.bare⟩
theorem Inv.after{Q:VK}{u:Value}(I:Inv X pins σ H s)(h:CE X.stack X.prog X.w H s Q u s'):EP X pins σ Q u s':=by
 obtain⟨v,H',os,bare,un,hok,r,q⟩:=h
 obtain⟨hh,g,d,t,os'⟩:=s'
 obtain rfl:os'=s.os:=os
 exact⟨v,H',I.call (h':=hh) (g':=g) (d':=d) (t':=t) (ch:=[]) un hok bare (fun b z=>absurd z (by simp)),r,q⟩
end
noncomputable def zdl(sp:Sp)(dvs:List V)(E:XK)(t:TA):TE:=fun σ H Q=>t σ H fun vs H1=>sp (vs ++ dvs) H1 Q E
noncomputable def tMeth(C:Addr)(m:Str)(sp:Sp)(dvs:List V)(E:XK)(ta:TE)(t:TA):TE:=fun σ H Q=>ta σ H fun x H1=>∃ a dx fs,x=.ref a/\H1 a=some (.ins C dx fs)/\fs.lookup m=none /\
 t σ H1 fun vs H2=>sp (x :: (vs ++ dvs)) H2 Q E
noncomputable def tMake(C:Addr)(sp:Sp)(dvs:List V)(E:XK)(t:TA):TE:=fun σ H Q=>t σ H fun vs H1=>∀ x dx,H1 x=none->H1 dx=none->dx ≠ x ->
 sp (.ref x :: (vs ++ dvs)) (upd (upd H1 dx (.own x)) x (.ins C dx [])) (fun v H2=>v=.non/\Q (.ref x) H2) E
noncomputable def Binds(K:PySem.W.Frag)(fd:FuncData)(ps:List Str)(ds:List Value):Prop:=
 ∀ (s:Shared) (us:List Value),K.In s.heap->(us ++ ds).length=ps.length->BindsTo s fd ⟨us,[]⟩ (ps.zip (us ++ ds))
theorem Binds.all{K:PySem.W.Frag}{fd:FuncData}{ps:List Str}(h:∀ us:List Value,us.length=ps.length->bindArgs fd ⟨us,[]⟩=pure (ps.zip us)):Binds K fd ps []:=fun s us _ hl=>by
 rw[List.append_nil] at hl ⊢
 exact .of_eq (h us hl)
noncomputable def zbL(CX:CXT)(X:Cx)(E:XK):Prop:=∀ (pins:List (Addr × Obj)) (σ:St) (H:Hp) (s:Shared) (e:Value) (s':Shared),Inv X pins σ H s->CX X.stack H s E e s'->X.xe e s'
section
variable {X:Cx}{CX:CXT}{k:Nat}{f C:Addr}{fd:FuncData}{ps:List Str}{sp:Sp}{dvs:List V}{ds:List Value}{E:XK}{x m:Str}{p pos apos:Pos}{e o:Expr}{es:List Expr}{ta:TE}{t:TA}
theorem run_fn{pins:List (Addr × Obj)}{σ:St}{H:Hp}{s:Shared}{Q:VK}{us:List Value}{vs:List V}(F:FnOk X.prog X.w X.K X.mg X.base CX k f fd ps sp)(hr:Room k X.A)(hb:Binds X.K fd ps ds)(hd:Vals dvs ds)(hx:zbL CX X E)
  (I:Inv X pins σ H s) (r:Vals vs us) (h:sp (vs ++ dvs) H Q E):wpAny (model X.prog X.w) X.A (call (.ref f) us) (EP X pins σ Q) X.xe s:=by
 have r2:Vals (vs ++ dvs) (us ++ ds):=r.append hd
 have hl:(us ++ ds).length=ps.length:=by rw[<- r2.length];exact F.len _ _ _ _ h
 refine wpAny_call (codeAny_mono (F.run X.A X.stack s H ⟨us,[]⟩ (us ++ ds) (vs ++ dvs) Q E hr I.env0 (hb s us I.kIn hl) r2 h) fun r s' hq=>?_)
 cases r with
 | error e=>exact hx pins σ H s e s' I hq
 | ok fl=>
  cases fl with
  | ret u=>exact I.after hq
  | next=>exact False.elim hq
  | brk=>exact False.elim hq
  | cont=>exact False.elim hq
theorem pe_call(F:FnOk X.prog X.w X.K X.mg X.base CX k f fd ps sp)(hr:Room k X.A)(hg:Gl X x)(hm:X.mg x=some (.ref f))(hk:PySem.W.keepIn X.K (.ref f)=true)(hb:Binds X.K fd ps ds)(hd:Vals dvs ds)(hx:zbL CX X E)
  (ha:PA X (e :: es) t) (hdb:(x == ("__debug__" : Str))=false:=by decide) (he:starEach (e :: es) X.env=(false,eval e X.env) :: starEach es X.env:=by rfl) (hpl:(backTo pos (starEach es X.env)).any (·.1)=false:=by rfl) :
  PE X (.Call (.Name x p) (e :: es) [] pos) (zdl sp dvs E t):=by
 intro pins s σ H Q I h
 refine wpAny_Call_Name_kw (zeX I hg hm ?_ hdb)
 refine PySem.W.callWith_K (h₀:=X.base) I.ok.mod.kin hk (thn (ha pos pins s σ H _ I h) fun us s1 ⟨vs,H1,I1,r,q⟩=>⟨I1.kIn,?_⟩) he hpl
 exact run_fn F hr hb hd hx I1 r q
theorem pe_meth{pl:Sem Bool}(he:PE X o ta)(c:Cls X.K C)(hm:Meth X.K C m f)(F:FnOk X.prog X.w X.K X.mg X.base CX k f fd ps sp)(hr:Room k X.A)(hb:Binds X.K fd ps ds)(hd:Vals dvs ds)(hx:zbL CX X E)(ha:PA X (e :: es) t)
  (hst:starEach (e :: es) X.env=(false,eval e X.env) :: starEach es X.env:=by rfl) (hpl:(backTo pos (starEach es X.env)).any (·.1)=false:=by rfl)
  (ht:eval (.Call (.Attribute o m apos) (e :: es) [] pos) X.env=(do
   let ov <- eval o X.env
   standAt apos.atName
   let (f,first) <- holding [ov] (getMethod ov m pl)
   callWith pos f first (backTo pos (starEach (e :: es) X.env)) (backToKw pos (keywordEach [] X.env))):=by rfl) :
  PE X (.Call (.Attribute o m apos) (e :: es) [] pos) (tMeth C m sp dvs E ta t):=by
 intro pins s σ H Q I h
 refine PySem.W.methodCall_KW (pl:=pl) (thn (he pins s σ H _ I h) fun u s1 ⟨x,H1,I1,rx,a,dx,fs,ex,ea,l,q⟩=>?_) ht
 subst ex
 obtain rfl:u=Value.ref a:=rx
 refine zer I1 ea c hm l ?_
 refine PySem.W.callWith_K (first:=[.ref a]) (h₀:=X.base) I.ok.mod.kin hm.kp (thn (ha pos pins s1 σ H1 _ I1 q) fun us s2 ⟨vs,H2,I2,r,q2⟩=>⟨I2.kIn,?_⟩) hst hpl
 exact run_fn (us:=.ref a :: us) (vs:=.ref a :: vs) F hr hb hd hx I2 (.cons rfl r) q2
theorem pe_meth0{pl:Sem Bool}(he:PE X o ta)(c:Cls X.K C)(hm:Meth X.K C m f)(F:FnOk X.prog X.w X.K X.mg X.base CX k f fd ps sp)(hr:Room k X.A)(hb:Binds X.K fd ps ds)(hd:Vals dvs ds)(hx:zbL CX X E)
  (ht:eval (.Call (.Attribute o m apos) [] [] pos) X.env=(do
   let ov <- eval o X.env
   standAt apos.atName
   let (f,first) <- holding [ov] (getMethod ov m pl)
   callWith pos f first (backTo pos (starEach [] X.env)) (backToKw pos (keywordEach [] X.env))):=by rfl) :
  PE X (.Call (.Attribute o m apos) [] [] pos) (tMeth C m sp dvs E ta zfi):=by
 intro pins s σ H Q I h
 refine PySem.W.methodCall_KW (pl:=pl) (thn (he pins s σ H _ I h) fun u s1 ⟨x,H1,I1,rx,a,dx,fs,ex,ea,l,q⟩=>?_) ht
 subst ex
 obtain rfl:u=Value.ref a:=rx
 refine zer I1 ea c hm l ?_
 exact PySem.W.callWith_K0 (first:=[.ref a]) I1.kIn hm.kp (run_fn (us:=[.ref a]) (vs:=[.ref a]) F hr hb hd hx I1 (.cons rfl .nil) q)
structure Mk(K:PySem.W.Frag)(C f:Addr):Prop where
 makes:PySem.W.makesIn K C=true
 init:PySem.W.findIn K (.ref C) "__init__" = some (some (.ref f))
 fn:PySem.W.isFn K (.ref f)=true
 kp:PySem.W.keepIn K (.ref C)=true
theorem zgv{pins:List (Addr × Obj)}{σ:St}{H:Hp}{s:Shared}{Q:VK}{us:List Value}{vs:List V}(M:Mk X.K C f)(F:FnOk X.prog X.w X.K X.mg X.base CX k f fd ps sp)(hr:Room (k+1) X.A)(hb:Binds X.K fd ps ds)(hd:Vals dvs ds)
  (hx:zbL CX X E) (I:Inv X pins σ H s) (r:Vals vs us)
  (h:∀ x dx,H x=none->H dx=none->dx ≠ x->sp (.ref x :: (vs ++ dvs)) (upd (upd H dx (.own x)) x (.ins C dx [])) (fun v H2=>v=.non/\Q (.ref x) H2) E) :
  wpAny (model X.prog X.w) X.A (call (.ref C) us) (EP X pins σ Q) X.xe s:=by
 have hq:=h (s.heap.objs.size+1) s.heap.objs.size (I.hok.fresh (Nat.le_succ _)) (I.hok.fresh (Nat.le_refl _)) (Nat.ne_of_lt (Nat.lt_succ_self _))
 have I2:=Inv.made (C:=C) I
 have r2:Vals (V.ref (s.heap.objs.size+1) :: (vs ++ dvs)) (Value.ref (s.heap.objs.size+1) :: (us ++ ds)):=.cons rfl (r.append hd)
 have hl:(Value.ref (s.heap.objs.size+1) :: us ++ ds).length=ps.length:=by
  have e:=r2.length
  rw[F.len _ _ _ _ hq] at e
  exact e.symm
 refine wpAny_call (make_map (f:=f) I.kIn M.makes M.init (beq_iff_eq.mp M.fn) (codeAny_mono (F.run _ X.stack _ _ ⟨Value.ref (s.heap.objs.size+1) :: us,[]⟩ (Value.ref (s.heap.objs.size+1) :: (us ++ ds)) _ _ E (hr.make C us [])
  (I2.env0.make C us []) (hb _ (Value.ref (s.heap.objs.size+1) :: us) I2.kIn hl) r2 hq) fun r s' hq'=>?_))
 cases r with
 | error e=>exact hx pins σ _ _ e s' I2 hq'
 | ok fl=>
  cases fl with
  | ret u=>
   obtain⟨v,H',I3,rv,ev,q3⟩:=I2.after hq'
   subst ev
   exact⟨rv,⟨V.ref (s.heap.objs.size+1),H',I3,rfl,q3⟩⟩
  | next=>exact False.elim hq'
  | brk=>exact False.elim hq'
  | cont=>exact False.elim hq'
theorem pe_make(M:Mk X.K C f)(F:FnOk X.prog X.w X.K X.mg X.base CX k f fd ps sp)(hr:Room (k+1) X.A)(hg:Gl X x)(hm:X.mg x=some (.ref C))(hb:Binds X.K fd ps ds)(hd:Vals dvs ds)(hx:zbL CX X E)
  (ha:PA X (e :: es) t) (hdb:(x == ("__debug__" : Str))=false:=by decide) (he:starEach (e :: es) X.env=(false,eval e X.env) :: starEach es X.env:=by rfl) (hpl:(backTo pos (starEach es X.env)).any (·.1)=false:=by rfl) :
  PE X (.Call (.Name x p) (e :: es) [] pos) (tMake C sp dvs E t):=by
 intro pins s σ H Q I h
 refine wpAny_Call_Name_kw (zeX I hg hm ?_ hdb)
 refine PySem.W.callWith_K (h₀:=X.base) I.ok.mod.kin M.kp (thn (ha pos pins s σ H _ I h) fun us s1 ⟨vs,H1,I1,r,q⟩=>⟨I1.kIn,?_⟩) he hpl
 exact zgv M F hr hb hd hx I1 r q
theorem pe_make0(M:Mk X.K C f)(F:FnOk X.prog X.w X.K X.mg X.base CX k f fd ps sp)(hr:Room (k+1) X.A)(hg:Gl X x)(hm:X.mg x=some (.ref C))(hb:Binds X.K fd ps ds)(hd:Vals dvs ds)(hx:zbL CX X E)
  (hdb:(x == ("__debug__" : Str))=false:=by decide):PE X (.Call (.Name x p) [] [] pos) (tMake C sp dvs E zfi):=by
 intro pins s σ H Q I h
 refine wpAny_Call_Name_kw (zeX I hg hm ?_ hdb)
 exact PySem.W.callWith_K0 I.kIn M.kp (zgv (us:=[]) M F hr hb hd hx I .nil h)
end
noncomputable def PK(X:Cx)(kws:List Keyword)(t:TA):Prop:=
 ∀ (pos:Pos) (pins:List (Addr × Obj)) (s:Shared) (σ:St) (H:Hp) (Q:List V->Hp->Prop),Inv X pins σ H s->t σ H Q->wpAny (model X.prog X.w) X.A (evalAll ((backToKw pos (keywordEach kws X.env)).map (·.2))) (AP X pins σ Q) X.xe s
section
variable {X:Cx}{CX:CXT}{k:Nat}{f C:Addr}{fd:FuncData}{ps ks:List Str}{sp:Sp}{E:XK}{x m:Str}{p pos apos kpos:Pos}{e o:Expr}{es:List Expr}{kws:List Keyword}{te ta:TE}{t tk:TA}{nm:Option Str}
theorem pk_nil:PK X [] zfi:=fun _ _ _ _ H Q I h=>wpAny_evalAll_nil ⟨[],H,I,.nil,h⟩
theorem pk_cons(ha:PE X e te)(hr:PK X kws t):PK X (⟨nm,e,kpos⟩ :: kws) (zcL te t):=by
 intro pos pins s σ H Q I h
 show wpAny _ _ (evalAll ((do let v <- eval e X.env;standAt pos;pure v) :: (backToKw pos (keywordEach kws X.env)).map (·.2))) _ _ s
 refine wpAny_evalAll_cons (wpAny_bind (thn (ha pins s σ H _ I h) fun u s1 ⟨x,H1,I1,r1,q1⟩=>wpAny_bind (wpAny_standAt (wpAny_pure ?_))))
 exact thn (hr pos pins s1 σ H1 _ I1 q1) fun us s2 ⟨xs,H2,I2,r2,q2⟩=>⟨x :: xs,H2,I2,.cons r1 r2,q2⟩
structure KBinds(K:PySem.W.Frag)(fd:FuncData)(ps ks:List Str)(g:List Value->List Value->List Value)(gV:List V->List V->List V):Prop where
 to:∀ (s:Shared) (us ws:List Value),K.In s.heap->(g us ws).length=ps.length->BindsTo s fd ⟨us,ks.zip ws⟩ (ps.zip (g us ws))
 rel:∀ {vs:List V} {us:List Value} {zs:List V} {ws:List Value},Vals vs us->Vals zs ws->Vals (gV vs zs) (g us ws)
variable {g:List Value->List Value->List Value}{gV:List V->List V->List V}
end
structure FnScope(N P:List Str)(sc:Scope):Prop where
 kind:sc.kind=.function
 co:sc.isCoroutine=false
 gen:sc.isGenerator=false
 nd:N.Nodup
 pre:N.take P.length=P
 par:∀ x ∈ P,sc.names.lookup x=some .local \/ sc.names.lookup x=some .cell
 nofree:∀ y ∈ sc.names,y.2 ≠ .free
theorem zfL{kindOf:Str->Option NameKind}{x:Str}:∀ {binds:List (Str × Value)} {m:Str->Option Value},(∀ v,(x,v) ∉ binds)->bindL kindOf binds m x=m x
 | [],_,_=>rfl
 | (n,v) :: r,m,h=>by
  unfold bindL
  rw[zfL fun w hw=>h w (List.mem_cons_of_mem _ hw)]
  split
  ·have:x ≠ n:=by rintro rfl;exact h v List.mem_cons_self
   simp[this]
  ·rfl
theorem zfz{kindOf:Str->Option NameKind}{x:Str}:∀ {binds:List (Str × Value)} {m:Str->Option Value},(∀ v,(x,v) ∉ binds)->bindC kindOf binds m x=m x
 | [],_,_=>rfl
 | (n,v) :: r,m,h=>by
  unfold bindC
  rw[zfz fun w hw=>h w (List.mem_cons_of_mem _ hw)]
  split
  ·rfl
  ·have:x ≠ n:=by rintro rfl;exact h v List.mem_cons_self
   simp[this]
theorem zfh{kindOf:Str->Option NameKind}{x:Str}{v:Value}:∀ {P:List Str} {vs:List Value} {i:Nat} {m:Str->Option Value},P.Nodup->P[i]? = some x->vs[i]? = some v->kindOf x=some .local ->
  bindL kindOf (P.zip vs) m x=some v
 | [],_,_,_,_,h,_,_=>by simp at h
 | _ :: _,[],_,_,_,_,h,_=>by simp at h
 | p :: P,w :: vs,0,m,nd,h1,h2,hk=>by
  simp at h1 h2;subst h1;subst h2
  show bindL kindOf ((p,w) :: P.zip vs) m p=_
  unfold bindL
  rw[zfL fun v hv=>(List.nodup_cons.mp nd).1 (List.of_mem_zip hv).1,if_pos hk]
  simp
 | p :: P,w :: vs,i+1,m,nd,h1,h2,hk=>by
  show bindL kindOf ((p,w) :: P.zip vs) m x=_
  unfold bindL
  exact zfh (i:=i) (List.nodup_cons.mp nd).2 (by simpa using h1) (by simpa using h2) hk
theorem zfe{kindOf:Str->Option NameKind}{x:Str}{v:Value}:∀ {P:List Str} {vs:List Value} {i:Nat} {m:Str->Option Value},P.Nodup->P[i]? = some x->vs[i]? = some v->kindOf x ≠ some .local ->
  bindC kindOf (P.zip vs) m x=some v
 | [],_,_,_,_,h,_,_=>by simp at h
 | _ :: _,[],_,_,_,_,h,_=>by simp at h
 | p :: P,w :: vs,0,m,nd,h1,h2,hk=>by
  simp at h1 h2;subst h1;subst h2
  show bindC kindOf ((p,w) :: P.zip vs) m p=_
  unfold bindC
  rw[zfz fun v hv=>(List.nodup_cons.mp nd).1 (List.of_mem_zip hv).1,if_neg hk]
  simp
 | p :: P,w :: vs,i+1,m,nd,h1,h2,hk=>by
  show bindC kindOf ((p,w) :: P.zip vs) m x=_
  unfold bindC
  exact zfe (i:=i) (List.nodup_cons.mp nd).2 (by simpa using h1) (by simpa using h2) hk
noncomputable def start(N:List Str)(vs:List V):St:=vs.map some ++ List.replicate (N.length - vs.length) none
noncomputable def cxOf(CX:CXT)(P:Program)(w:World)(K:PySem.W.Frag)(mg:Str->Option Value)(base:Heap)(N:List Str)(qual:Str)(scope:Scope)(f:Addr)(cd:Value)(A:Around)(outer:List Env)(s:Shared)(H:Hp)(E:XK):Cx where
 prog:=P
 w:=w
 K:=K
 mg:=mg
 base:=base
 A:=A.deeper (envOfC qual scope s.heap.objs.size f cd)
 N:=N
 s₀:=s
 H₀:=H
 env:=envOfC qual scope s.heap.objs.size f cd
 outer:=outer
 stack:=envOfC qual scope s.heap.objs.size f cd :: outer
 ex:=[]
 calm:=true
 fn:=fun _=>true
 pn:=[]
 xe:=fun e s'=>wpAny (model P w) (A.deeper (envOfC qual scope s.heap.objs.size f cd)) (leaving (envOfC qual scope s.heap.objs.size f cd) e) (fun _ s''=>CX outer H s E e s'') (fun e' s''=>CX outer H s E e' s'') s'
theorem zgH{sc:Scope}{n:Nat}{x:Str}(h:sc.names.lookup x=some .cell):∃ c,(cellsFrom n sc.names []).lookup x=some c:=by
 have q:=PySem.W.cellsFrom_some sc.names n [] (.inl h)
 exact Option.isSome_iff_exists.mp q
theorem inv_start{CX:CXT}{P:Program}{w:World}{K:PySem.W.Frag}{mg:Str->Option Value}{base:Heap}{N ps:List Str}{qual:Str}{scope:Scope}{f:Addr}{cd:Value}{A:Around}{outer:List Env}{s s1:Shared}{H:Hp}{E:XK}{us:List Value}{vs:List V}
  (S:FnScope N ps scope) (hd:A.handled=none) (e0:Env0 P w K mg base A outer s H) (hl:vs.length=ps.length) (r:Vals vs us)
  (x:InCallC s s.heap.objs.size (bindL (envOfC qual scope s.heap.objs.size f cd).kindOf (ps.zip us) fun _=>none) (cellsFrom (s.heap.objs.size+1) scope.names []) (bindC (envOfC qual scope s.heap.objs.size f cd).kindOf (ps.zip us) fun _=>none) s1) :
  Inv (cxOf CX P w K mg base N qual scope f cd A outer s H E) [] (start N vs) H s1:=by
 have hpl:ps.length<=N.length:=by have:=congrArg List.length S.pre;rw[List.length_take] at this;lia
 obtain⟨h1,tk,rfl,hk⟩:=x.done
 have noA:∀ b:Addr,b ∉ (cxOf CX P w K mg base N qual scope f cd A outer s H E).ex:=fun b z=>absurd (show b ∈ ([]:List Addr) from z) (by simp)
 refine⟨⟨e0.mod,S.kind,rfl,rfl,Nat.le_refl _,fun y z c h1 h2=>?_,fun y hy=>?_,fun y c _ h=>?_,fun _=>hd,Around.frames_deeper e0.frames,.inr ⟨rfl,rfl⟩,fun b z=>absurd z (noA b),e0.bs,e0.bsz,fun b _ _=>noA b,fun b z=>absurd z (noA b),e0.funs,e0.frf⟩,
  rfl,e0.bare,Un.kept hk,⟨_,x.toInCall.ns,fun i y v h1 h2 h3=>?_⟩,fun y c h=>⟨_,x.cell y c h⟩,e0.hok.fresh (Nat.le_refl _),fun y c h=>?_,fun p hp=>absurd (show p ∈ ([]:List (Addr × Obj)) from hp) (by simp),e0.hok.kept hk,?_⟩
 ·exact name_of_addr x.apart (PySem.mem_of_lookup h1) (PySem.mem_of_lookup h2)
 ·have hy:scope.names.lookup y=some .cell \/ scope.names.lookup y=some .free:=hy
  rcases hy with hy | hy
  ·exact zgH hy
  ·exact absurd rfl (S.nofree _ (PySem.mem_of_lookup hy))
 ·exact Nat.le_of_lt (x.above y c (PySem.mem_of_lookup h))
 ·have hi:i<vs.length:=by
   unfold start at h2
   by_cases hi:i<vs.length
   ·exact hi
   ·rw[List.getElem?_append_right (by simpa using hi)] at h2
    rw[List.getElem?_replicate] at h2
    split at h2 <;> cases h2
  have ha:vs[i]? = some v:=by
   unfold start at h2
   rw[List.getElem?_append_left (by simpa using hi),List.getElem?_map] at h2
   cases e:vs[i]? with
   | none=>rw[e] at h2;cases h2
   | some a=>rw[e] at h2;cases h2;rfl
  obtain⟨u,hu,rv⟩:=r.get ha
  have hp:ps[i]? = some y:=by
   rw[<- S.pre,List.getElem?_take_of_lt (by lia)];exact h1
  have ndP:ps.Nodup:=by rw[<- S.pre];exact S.nd.sublist (List.take_sublist _ _)
  refine⟨u,rv,?_⟩
  rcases S.par y (List.mem_of_getElem? hp) with k | k
  ·exact .inl ⟨k,zfh ndP hp hu k⟩
  ·obtain⟨c,e⟩:=zgH (n:=s.heap.objs.size+1) k
   refine .inr ⟨.inl k,c,e,?_⟩
   have q:=x.cell y c e
   rw[zfe ndP hp hu (by show scope.names.lookup y ≠ _;rw[k];decide)] at q
   exact q
 ·exact e0.hok.fresh (Nat.le_of_lt (x.above y c (PySem.mem_of_lookup h)))
 ·unfold start
  show _=N.length
  rw[List.length_append,List.length_map,List.length_replicate]
  lia
theorem fn_of{CX:CXT}{P:Program}{w:World}{K:PySem.W.Frag}{mg:Str->Option Value}{base:Heap}{k:Nat}{f:Addr}{name qual:Str}{params:Arguments}{body:List Stmt}{scope:Scope}{dV kV doc pm cdv ct oc:Value}{an od:Option Addr}
  {osl:Array (Option Value)} {N ps:List Str} {sp:Sp} (lk:K.lookup f=some ⟨oc,od,.func (PySem.W.fnOf name qual params body scope dV kV doc pm an cdv ct),osl⟩) (hcd:PySem.W.codeIn K cdv qual=true) (S:FnScope N ps scope)
  (len:∀ vs H Q E,sp vs H Q E->vs.length=ps.length)
  (hbody:∀ (A:Around) (outer:List Env) (s:Shared) (H:Hp) (vs:List V) (Q:VK) (E:XK),Room k (A.deeper (envOfC qual scope s.heap.objs.size f cdv))->sp vs H Q E ->
   ∃ t,PSs (cxOf CX P w K mg base N qual scope f cdv A outer s H E) body t/\t { nx:=fun _ H'=>Q .non H',rt:=Q} (start N vs) H) :
  FnOk P w K mg base CX (k+1) f (PySem.W.fnOf name qual params body scope dV kV doc pm an cdv ct) ps sp:=by
 refine⟨len,fun A outer s H args us vs Q E hr e0 hb r hsp=>?_⟩
 have hl:=len _ _ _ _ hsp
 have KX:K.In s.heap:=e0.mod.kin.keeps fun b o e=>(e0.bs b o e).1
 have lim:s.heap.NoLimit:=e0.mod.nolimit.keeps fun b o e=>(e0.bs b o e).1
 have hkind:∀ y ∈ ps.zip us,scope.names.lookup y.1=some .local \/ (scope.names.lookup y.1=some .cell/\((cellsFrom (s.heap.objs.size+1) scope.names []).lookup y.1).isSome=true):=fun⟨n,v⟩ hy=>by
  rcases S.par n (List.of_mem_zip hy).1 with q | q
  ·exact .inl q
  ·exact .inr ⟨q,PySem.W.cellsFrom_some _ _ _ (.inl q)⟩
 refine codeAny_call_function hr.depth (KX _ _ lk) rfl S.co S.gen rfl (PySem.W.codeRec_of KX hcd) (hb _ _ _ _ ?_)
 refine wpAny_newFunctionEnv_cells S.kind hkind fun env he s1 x=>?_
 subst he
 refine⟨lim.keeps x.toInCall.keep,codeAny_func ?_⟩
 obtain⟨t,ht,hq⟩:=hbody A outer s H vs Q E (hr.deeper _) hsp
 have I:Inv (cxOf CX P w K mg base N qual scope f cdv A outer s H E) [] (start N vs) H s1:=inv_start S hr.hd e0 hl r x
 refine wpAny_mono (ht [] s1 (start N vs) H _ I hq) (fun fl s' hs=>?_) fun e s' hs=>hs
 have fin:∀ {σ':St} {H':Hp} {v:V} {u:Value},Inv (cxOf CX P w K mg base N qual scope f cdv A outer s H E) [] σ' H' s'->RelV v u->Q v H'->CE outer P w H s Q u s':=
  fun {σ' H' v u} J rv q=>⟨v,H',J.os,J.bare,J.base,J.hok,rv,q⟩
 cases fl with
 | ret u=>
  obtain⟨v,σ',H',J,rv,q⟩:=hs
  exact fin J rv q
 | next=>
  obtain⟨σ',H',J,q⟩:=hs
  exact fin (v:=V.non) (u:=Value.none) J rfl q
 | brk=>
  obtain⟨_,_,_,q⟩:=hs
  exact False.elim q
 | cont=>
  obtain⟨_,_,_,q⟩:=hs
  exact False.elim q
end L2
namespace L2
open PySem PySem.Spec PyProof.Rows
section
variable {X:Cx}{x:Str}{p pos:Pos}{e:Expr}{es:List Expr}{t:TA}{id T:String}{r:List V->Hp->VK->Prop}
noncomputable def tCB(r:List V->Hp->VK->Prop)(t:TA):TE:=fun σ H Q=>t σ H fun vs H1=>r vs H1 Q
theorem pe_callB(hc:zdh X (.builtin id) r)(hg:Gl X x)(hm:X.mg x=none)(hv:bootBuiltins x=some (.builtin id))(ha:PA X (e :: es) t)(hn:x ≠ "__name__" :=by decide)(hdb:(x == ("__debug__" : Str))=false:=by decide)
  (he:starEach (e :: es) X.env=(false,eval e X.env) :: starEach es X.env:=by rfl) (hpl:(backTo pos (starEach es X.env)).any (·.1)=false:=by rfl):PE X (.Call (.Name x p) (e :: es) [] pos) (tCB r t):=by
 intro pins s σ H Q I h
 refine wpAny_Call_Name_kw (zcK I hg hm hv ?_ hn hdb)
 exact PyProof.Rows.callWith_builtin1 (thn (ha pos pins s σ H _ I h) fun us s1 ⟨vs,H1,I1,r1,q1⟩=>hc pins s1 σ H1 vs us Q I1 r1 q1) he hpl
theorem pe_callTy(hc:zdh X (.type T) r)(hg:Gl X x)(hm:X.mg x=none)(hv:bootBuiltins x=some (.type T))(ha:PA X (e :: es) t)(hn:x ≠ "__name__" :=by decide)(hdb:(x == ("__debug__" : Str))=false:=by decide)
  (he:starEach (e :: es) X.env=(false,eval e X.env) :: starEach es X.env:=by rfl) (hpl:(backTo pos (starEach es X.env)).any (·.1)=false:=by rfl):PE X (.Call (.Name x p) (e :: es) [] pos) (tCB r t):=by
 intro pins s σ H Q I h
 refine wpAny_Call_Name_kw (zcK I hg hm hv ?_ hn hdb)
 exact PyProof.Rows.callWith_type1 (thn (ha pos pins s σ H _ I h) fun us s1 ⟨vs,H1,I1,r1,q1⟩=>hc pins s1 σ H1 vs us Q I1 r1 q1) he hpl
end
end L2
namespace HT
open PySem PyProof.Rows
section
open PySem.SeqAt
open PySem.AutoSeq1 (wpAny_loadPart')
open PySem.MeetsSeq PySem.MeetsSeq2 PySem.MeetsSeq3
end
section
variable {prog:Program}{w:World}{A:Around}{E:Value->Shared->Prop}{s:Shared}
noncomputable def sIx(n d:Nat):Option Int->Nat
 | none=>d
 | some v=>if v<0 then (v+(n:Int)).toNat else min v.toNat n
theorem sIx_none(n d:Nat):sIx n d none=d:=rfl
theorem sIx_nat(n d k:Nat):sIx n d (some (k:Int))=min k n:=by
 show(if (k:Int)<0 then ((k:Int)+(n:Int)).toNat else min (k:Int).toNat n)=min k n
 rw[if_neg (by lia),Int.toNat_natCast]
theorem sIx_le(n d:Nat)(hd:d<=n)(o:Option Int):sIx n d o<=n:=by
 cases o with
 | none=>exact hd
 | some v=>
  show(if v<0 then (v+(n:Int)).toNat else min v.toNat n)<=n
  by_cases hv:v<0
  ·rw[if_pos hv];lia
  ·rw[if_neg hv];exact Nat.min_le_right _ _
end
end HT
namespace L2
open PySem PySem.Spec PyProof.Rows
noncomputable abbrev TO:=St->Hp->(Option Int->Hp->Prop)->Prop
noncomputable def PO(X:Cx)(e:Option Expr)(t:TO):Prop:=
 ∀ (pins:List (Addr × Obj)) (s:Shared) (σ:St) (H:Hp) (Q:Option Int->Hp->Prop),Inv X pins σ H s->t σ H Q ->
  wpAny (model X.prog X.w) X.A (evalPart e X.env) (fun u s'=>∃ o H',Inv X pins σ H' s'/\IsPart u o/\Q o H') X.xe s
noncomputable def tNoPart:TO:=fun _ H Q=>Q none H
noncomputable def tPart(t:TE):TO:=fun σ H Q=>t σ H fun x H1=>∃ i,x=.int i/\Q (some i) H1
section
variable {X:Cx}{e:Expr}{te:TE}{lo hi:Option Expr}{tl th:TO}{pos p2:Pos}
theorem po_none:PO X none tNoPart:=by
 intro pins s σ H Q I h
 rw[evalPart_none]
 exact wpAny_pure ⟨none,H,I,.none,h⟩
theorem po_some(h:PE X e te):PO X (some e) (tPart te):=by
 intro pins s σ H Q I hw
 rw[evalPart_some]
 refine thn (h pins s σ H _ I hw) fun u s1 ⟨x,H1,I1,r1,q1⟩=>?_
 obtain⟨i,rfl,q⟩:=q1
 obtain⟨t,rfl⟩:=r1
 exact⟨some i,H1,I1,.int i t,q⟩
noncomputable def SlR(X:Cx)(r:V->Option Int->Option Int->Hp->VK->Prop):Prop:=
 ∀ (pins:List (Addr × Obj)) (s:Shared) (σ:St) (H:Hp) (x:V) (v vl vu:Value) (lo hi:Option Int) (sl:Addr) (Q:VK),Inv X pins σ H s->RelV x v->s.heap.IsSliceOf sl vl vu .none->IsPart vl lo->IsPart vu hi->r x lo hi H Q ->
  ∃ T id,typeLookup (.type T) "__getitem__" = pure (some (.builtin id))/\s.TypeIs v T/\wpAny (model X.prog X.w) X.A (getItem v (.ref sl)) (EP X pins σ Q) X.xe s
noncomputable def tSl(r:V->Option Int->Option Int->Hp->VK->Prop)(te:TE)(tl th:TO):TE:=fun σ H Q=>te σ H fun x H1=>tl σ H1 fun l H2=>th σ H2 fun u H3=>r x l u H3 Q
theorem pe_slice{r:V->Option Int->Option Int->Hp->VK->Prop}(hr:SlR X r)(he:PE X e te)(hl:PO X lo tl)(hu:PO X hi th):PE X (.Subscript e (.Slice lo hi none p2) pos) (tSl r te tl th):=by
 intro pins s σ H Q I h
 refine Subscript_ (thn (he pins s σ H _ I h) fun v s1 ⟨x,H1,I1,r1,q1⟩=>?_)
 refine wpAny_Slice (thn (hl pins s1 σ H1 _ I1 q1) fun vl s2 ⟨l,H2,I2,pl,q2⟩=>thn (hu pins s2 σ H2 _ I2 q2) fun vu s3 ⟨u,H3,I3,pu,q3⟩=>?_)
 rw[evalPart_none]
 refine wpAny_pure ?_
 have I4:Inv X pins σ H3 { s3 with heap:=s3.heap.push { cls:=.type "slice",data:=.fields #[vl,vu,.none]}}:=I3.kept (t':=s3.toks) fun b ob q=>Heap.get?_push_of_some _ q
 obtain⟨T,id,hT,ht,hg⟩:=hr pins { s3 with heap:=s3.heap.push { cls:=.type "slice",data:=.fields #[vl,vu,.none]}} σ H3 x v vl vu l u s3.heap.objs.size Q I4 r1 (Heap.IsSliceOf.new ..) pl pu q3
 show wpAny (model X.prog X.w) X.A (subscriptTail e (.Slice lo hi none p2) v (.ref s3.heap.objs.size)) (EP X pins σ Q) X.xe { s3 with heap:=s3.heap.push { cls:=.type "slice",data:=.fields #[vl,vu,.none]}}
 exact tail_any (ops:=[.ref s3.heap.objs.size,v]) ht hT hg (by with_unfolding_all rfl)
noncomputable def cutV(xs:List V)(lo hi:Option Int):List V:=(xs.drop (HT.sIx xs.length 0 lo)).take (HT.sIx xs.length xs.length hi - HT.sIx xs.length 0 lo)
theorem zgn(xs:List V)(lo hi:Option Int):(cutV xs lo hi).length<=xs.length:=by
 unfold cutV
 rw[List.length_take,List.length_drop]
 lia
end
end L2
namespace L2
open PySem PySem.Spec PyProof.Rows
noncomputable def ixN(n:Nat)(i:Int):Option Nat:=if 0<=i then (if i<n then some i.toNat else none) else if -(n:Int)<=i then some (i+n).toNat else none
noncomputable def atI{α:Type}(xs:List α)(i:Int):Option α:=(ixN xs.length i).bind fun j=>xs[j]?
theorem ixN_seq{n:Nat}{i:Int}{j:Nat}(h:ixN n i=some j):seqIndex? i n=some j/\j<n /\ -(n:Int)<=i/\i<n:=by
 unfold ixN at h
 by_cases h0:0<=i
 ·rw[if_pos h0] at h
  by_cases h1:i<n
  ·rw[if_pos h1] at h
   have e:i.toNat=j:=Option.some.inj h
   exact⟨by rw[seqIndex_of h0 h1,e],by lia,by lia,h1⟩
  ·rw[if_neg h1] at h;cases h
 ·rw[if_neg h0] at h
  by_cases h1:-(n:Int)<=i
  ·rw[if_pos h1] at h
   have e:(i+n).toNat=j:=Option.some.inj h
   exact⟨by rw[seqIndex_neg (by lia) h1,e],by lia,h1,by lia⟩
  ·rw[if_neg h1] at h;cases h
theorem zgg{α:Type}{xs:List α}{i:Int}{v:α}(h:atI xs i=some v):∃ j,seqIndex? i xs.length=some j/\xs[j]? = some v/\j<xs.length /\ -(xs.length:Int)<=i/\i<xs.length:=by
 unfold atI at h
 cases e:ixN xs.length i with
 | none=>rw[e] at h;cases h
 | some j=>
  rw[e] at h
  obtain⟨h1,h2,h3,h4⟩:=ixN_seq e
  exact⟨j,h1,h,h2,h3,h4⟩
noncomputable def zc6(b:Expr):Prop:=∀ o i,subscripted b false o i=operate [o,i] (getItem o i)
noncomputable def IxR(X:Cx)(r:R2):Prop:=
 ∀ (value slice:Expr) (pins:List (Addr × Obj)) (s:Shared) (σ:St) (H:Hp) (x y:V) (v u:Value) (Q:VK),Inv X pins σ H s->RelV x v->RelV y u->r x y H Q ->
  subscripted slice false v u=operate [v,u] (getItem v u)->wpAny (model X.prog X.w) X.A (subscriptTail value slice v u) (EP X pins σ Q) X.xe s
noncomputable def MtR(X:Cx)(id:String)(r:V->List V->Hp->VK->Prop):Prop:=
 ∀ (pins:List (Addr × Obj)) (s:Shared) (σ:St) (H:Hp) (x:V) (xs:List V) (v:Value) (us:List Value) (Q:VK),Inv X pins σ H s->RelV x v->Vals xs us->r x xs H Q ->
  wpAny (model X.prog X.w) X.A (call (.builtin id) (v :: us)) (EP X pins σ Q) X.xe s
section
variable {X:Cx}{a b:Expr}{ta tb:TE}{pos:Pos}
theorem pe_ix{r:R2}(hr:IxR X r)(ha:PE X a ta)(hb:PE X b tb)(hs:zc6 b):PE X (.Subscript a b pos) (tOp r ta tb):=by
 intro pins s σ H Q I h
 exact Subscript_ (binT ha hb I h fun v u s2 x y H2 I2 rx ry q=>hr a b pins s2 σ H2 x y v u Q I2 rx ry q (hs _ _))
noncomputable def rIxL(K:PySem.W.Frag):R2:=fun x y H Q=>∃ p xs i v,x=.ref p/\y=.int i/\SqL K H p xs/\atI xs i=some v/\Q v H
noncomputable def rIxT(K:PySem.W.Frag):R2:=fun x y H Q=>∃ p xs i v,x=.ref p/\y=.int i/\SqT K H p xs/\atI xs i=some v/\Q v H
noncomputable def rIxS:R2:=fun x y H Q=>∃ z i c,x=.str z/\y=.int i/\z.length<=sizeLine/\atI z.cps.toList i=some c/\Q (.str ⟨#[c]⟩) H
theorem ix_list:IxR X (rIxL X.K):=by
 intro value slice pins s σ H x y v u Q I rx ry h hs
 obtain⟨p,xs,i,z,rfl,rfl,hq,he,q⟩:=h
 cases rx
 obtain⟨t,rfl⟩:=ry
 obtain⟨its,r,pl,hz⟩:=I.list hq
 obtain⟨j,h1,h2,h3,h4,h5⟩:=zgg he
 obtain⟨w,ew,rw'⟩:=r.get h2
 have hl:=r.length
 have hn:=zet
 have fin:EP X pins σ Q w s:=⟨z,H,I,rw',q⟩
 by_cases h0:0<=i
 ·have hj:i.toNat=j:=by
   rw[seqIndex_of h0 h5] at h1
   exact Option.some.inj h1
  exact item_listR pl.isList h0 (by lia) (by rw[hj];simpa using ew) fin hs
 ·have hj:(i+(its.toArray.size:Int)).toNat=j:=by
   rw[seqIndex_neg (by lia) h4] at h1
   rw[List.size_toArray,<- hl]
   exact Option.some.inj h1
  exact subscriptTail_builtinR (x:=w) pl.isList.typeIs slot_list_getitem.lookup
   (wpAny_getItem_list_neg (Q:=fun r s'=>r=w/\EP X pins σ Q r s') pl.isList (by lia) (by rw[List.size_toArray] <;> lia) (by lia) (by rw[hj];simpa using ew) ⟨rfl,fin⟩) hs
theorem ix_tup:IxR X (rIxT X.K):=by
 intro value slice pins s σ H x y v u Q I rx ry h hs
 obtain⟨p,xs,i,z,rfl,rfl,hq,he,q⟩:=h
 cases rx
 obtain⟨t,rfl⟩:=ry
 obtain⟨its,r,pl,hz⟩:=I.tuple hq
 obtain⟨j,h1,h2,h3,h4,h5⟩:=zgg he
 obtain⟨w,ew,rw'⟩:=r.get h2
 have hl:=r.length
 have hn:=zet
 have fin:EP X pins σ Q w s:=⟨z,H,I,rw',q⟩
 exact subscriptTail_builtinR (x:=w) pl.typeIs slot_tuple_getitem.lookup
  (getItem_tuple (j:=j) (Q:=fun r s'=>r=w/\EP X pins σ Q r s') pl (by lia) (by lia) (by rw[List.size_toArray,<- hl];exact h1) (by simpa using ew) ⟨rfl,fin⟩) hs
theorem ix_str:IxR X rIxS:=by
 intro value slice pins s σ H x y v u Q I rx ry h hs
 obtain⟨z,i,c,rfl,rfl,hz,he,q⟩:=h
 obtain⟨t,rfl⟩:=rx
 obtain⟨t',rfl⟩:=ry
 obtain⟨j,h1,h2,h3,h4,h5⟩:=zgg he
 have hl:z.cps.toList.length=z.length:=by simp[Str.length]
 rw[hl] at h1 h4 h5
 have hn:=zet
 exact tail_any (typeIs_str s z t) slot_str_getitem.lookup (getItem_str (c:=c) (by
  have e1:decide (i < -(2 ^ 63:Int))=false:=decide_eq_false (by lia)
  have e2:decide (i ≥ 2 ^ 63)=false:=decide_eq_false (by lia)
  rw[e1,e2,Bool.or_false]) (by rw[h1];simpa using h2) ⟨.str ⟨#[c]⟩,H,I.tok _,⟨_,rfl⟩,q⟩) hs
theorem zg2(its:List Value)(n j:Nat)(u:Value):Obj.mapSeq (·.setIfInBounds j u) { cls:=.type "list",data:=.seq its.toArray n}={ cls:=.type "list",data:=.seq (its.set j u).toArray n}:=by
 simp[Obj.mapSeq]
theorem Inv.lst{pins:List (Addr × Obj)}{σ:St}{H:Hp}{s:Shared}{p:Addr}{xs:List V}(I:Inv X pins σ H s)(h:H p=some (.lst xs)) :
  ∃ (its:List Value) (n:Nat),Vals xs its/\s.heap.get? p=some { cls:=.type "list",data:=.seq its.toArray n}/\xs.length<=sizeLine:=by
 obtain⟨z,its,n,r,e⟩:=I.hok p _ h
 exact⟨its,n,r,e,z⟩
theorem Inv.lstUpd{pins:List (Addr × Obj)}{σ:St}{H:Hp}{s:Shared}{p:Addr}{xs ys:List V}{its its':List Value}{n n':Nat}{f:Obj->Obj}(I:Inv X pins σ H s)(h:H p=some (.lst xs))
  (ho:s.heap.get? p=some { cls:=.type "list",data:=.seq its.toArray n}) (hf:f { cls:=.type "list",data:=.seq its.toArray n}={ cls:=.type "list",data:=.seq its'.toArray n'}) (r:Vals ys its') (hz:ys.length<=sizeLine) (t:Nat) :
  Inv X pins σ (upd H p (.lst ys)) { s with heap:=s.heap.update p f,toks:=t}:=by
 have e:(s.heap.update p f).get? p=some { cls:=.type "list",data:=.seq its'.toArray n'}:=by
  rw[Heap.get?_update_self f ho (by rw[hf] <;> rfl),hf]
 refine I.write (x:=p) (e:=p) (by rw[h];trivial) (.inl rfl) (fun b u hb q=>(Heap.get?_update_other _ _ (Ne.symm hb)).trans q) ⟨_,e⟩ ?_
 exact⟨hz,its',n',r,e⟩
noncomputable def rSetL:V->V->V->Hp->(Hp->Prop)->Prop:=fun o i v H Q=>∃ p xs k j,o=.ref p/\i=.int k/\H p=some (.lst xs)/\ixN xs.length k=some j/\Q (upd H p (.lst (xs.set j v)))
theorem set_list:PSet X rSetL:=by
 intro pins s σ H o i v ov iv u Q I ro ri rv h
 obtain⟨p,xs,k,j,rfl,rfl,hp,hj,q⟩:=h
 cases ro
 obtain⟨t,rfl⟩:=ri
 obtain⟨its,n,r,ho,hz⟩:=I.lst hp
 obtain⟨h1,h2,h3,h4⟩:=ixN_seq hj
 have hl:=r.length
 have hn:=zet
 have I':Inv X pins σ (upd H p (.lst (xs.set j v))) { s with heap:=s.heap.update p (Obj.mapSeq (·.setIfInBounds j u))}:=
  I.lstUpd hp ho (zg2 its n j u) (r.set rv j) (by rw[List.length_set];exact hz) s.toks
 by_cases h0:0<=k
 ·have hk:k.toNat=j:=by
   rw[seqIndex_of h0 h4] at h1
   exact Option.some.inj h1
  exact PySem.W.ki_setAt ho h0 (by lia) (by rw[List.size_toArray,<- hl];exact h4) (by rw[hk];exact⟨_,I',q⟩)
 ·have hk:(k+(its.toArray.size:Int)).toNat=j:=by
   rw[seqIndex_neg (by lia) h3] at h1
   rw[List.size_toArray,<- hl]
   exact Option.some.inj h1
  exact PySem.W.ki_setBack ho (by lia) (by rw[List.size_toArray,<- hl];exact h3) (by lia) (by rw[hk];exact⟨_,I',q⟩)
theorem zfm(lo hi:Option Int)(n:Nat):(sliceBounds lo hi none n).1=((HT.sIx n 0 lo:Nat):Int)/\(sliceBounds lo hi none n).2.1=((HT.sIx n n hi:Nat):Int)/\(sliceBounds lo hi none n).2.2=1:=by
 refine⟨?_,?_,rfl⟩
 ·cases lo with
  | none=>simp[sliceBounds,HT.sIx]
  | some i=>
   simp only[sliceBounds,HT.sIx,Option.getD_none,show(1:Int) > 0 by decide,if_true]
   by_cases h:i<0
   ·simp only[h,if_true] <;> lia
   ·simp only[h,if_false] <;> lia
 ·cases hi with
  | none=>simp[sliceBounds,HT.sIx]
  | some i=>
   simp only[sliceBounds,HT.sIx,Option.getD_none,show(1:Int) > 0 by decide,if_true]
   by_cases h:i<0
   ·simp only[h,if_true] <;> lia
   ·simp only[h,if_false] <;> lia
theorem ze7(its:List Value)(lo hi:Option Int):slicePick its.toArray lo hi none=((its.drop (HT.sIx its.length 0 lo)).take (HT.sIx its.length its.length hi - HT.sIx its.length 0 lo)).toArray:=by
 obtain⟨h1,h2,h3⟩:=zfm lo hi its.toArray.size
 unfold slicePick
 rw[h1,h2,h3]
 simp only[sliceRange_one,pick_run,List.size_toArray] <;> rfl
noncomputable def rSlL(K:PySem.W.Frag):V->Option Int->Option Int->Hp->VK->Prop:=fun x lo hi H Q=>∃ a xs,x=.ref a/\SqL K H a xs/\∀ p,H p=none->Q (.ref p) (upd H p (.lst (cutV xs lo hi)))
theorem sl_list:SlR X (rSlL X.K):=by
 intro pins s σ H x v vl vu lo hi sl Q I rx hs pl pu h
 obtain⟨a,xs,rfl,hx,q⟩:=h
 cases rx
 obtain⟨its,r,ht,hz⟩:=I.list hx
 have hlen:=r.length
 refine⟨"list",_,slot_list_getitem.lookup,ht.isList.typeIs,?_⟩
 refine wpAny_getItem_list_slice ht.isList hs pl pu .none (by simp) ?_ (by rw[List.size_toArray] <;> lia)
 rw[ze7,<- hlen]
 refine⟨.ref s.heap.objs.size,_,I.laid (t':=s.toks) (o:=.lst (cutV xs lo hi)) (fun b ob q=>Heap.get?_push_of_some _ q) (Nat.le_refl _) ?_,rfl,q _ (I.hok.fresh (Nat.le_refl _))⟩
 exact⟨Nat.le_trans (zgn xs lo hi) hz,_,0,(r.drop (HT.sIx xs.length 0 lo)).take (HT.sIx xs.length xs.length hi - HT.sIx xs.length 0 lo),Heap.get?_push_size _ rfl⟩
theorem zfT:zdh X (.builtin "len") (fun xs H Q=>∃ p ys,xs=[.ref p]/\(SqL X.K H p ys \/ SqT X.K H p ys)/\Q (.int ys.length) H):=by
 intro pins s σ H xs us Q I r h
 obtain⟨p,ys,rfl,hq,q⟩:=h
 obtain⟨u,rfl,rx⟩:=zfc r
 cases rx
 have hn:=zet
 rcases hq with hq | hq
 ·obtain⟨its,r',pl,hz⟩:=I.list hq
  have hlen:=r'.length
  exact Calls.call_len_list pl.isList (by simp only[List.size_toArray] <;> lia) ⟨.int ys.length,H,I.tok _,⟨s.toks+1,by rw[List.size_toArray,hlen]⟩,q⟩
 ·obtain⟨its,r',pl,hz⟩:=I.tuple hq
  have hlen:=r'.length
  exact len_tuple pl (by simp only[List.size_toArray] <;> lia) ⟨.int ys.length,H,I.tok _,⟨s.toks+1,by rw[List.size_toArray,hlen]⟩,q⟩
theorem zfW:zdh X (.builtin "len") (fun xs H Q=>∃ z,xs=[.str z]/\z.length<=sizeLine/\Q (.int z.length) H):=by
 intro pins s σ H xs us Q I r h
 obtain⟨z,rfl,hz,q⟩:=h
 obtain⟨u,rfl,t,rfl⟩:=zfc r
 have hn:=zet
 exact len_str (by lia) ⟨.int z.length,H,I.tok _,⟨_,rfl⟩,q⟩
theorem zfO:zdh X (.type "list") (fun xs H Q=>∃ p ys,xs=[.ref p]/\(SqL X.K H p ys \/ SqT X.K H p ys)/\∀ l,H l=none->Q (.ref l) (upd H l (.lst ys))):=by
 intro pins s σ H xs us Q I r h
 obtain⟨p,ys,rfl,hq,q⟩:=h
 obtain⟨u,rfl,rx⟩:=zfc r
 cases rx
 have fin:∀ (its:List Value),Vals ys its->ys.length<=sizeLine->∀ (h':Heap) (c':Nat),(∀ b o',s.heap.get? b=some o'->h'.get? b=some o') ->
   h'.get? s.heap.objs.size=some { cls:=.type "list",dict:=none,data:=.seq its.toArray c',slots:=#[]}->EP X pins σ Q (.ref s.heap.objs.size) { s with heap:=h'}:=fun its r' hz h' c' kp e=>
  ⟨.ref s.heap.objs.size,_,I.laid (t':=s.toks) kp (Nat.le_refl _) (show ObjOk X.prog X.w _ h' _ (.lst ys) from ⟨hz,its,c',r',e⟩),rfl,q _ (I.hok.fresh (Nat.le_refl _))⟩
 rcases hq with hq | hq
 ·obtain⟨its,r',pl,hz⟩:=I.list hq
  have hlen:=r'.length
  obtain⟨o,ho,hc,n,hd⟩:=pl.isList
  exact call_list_seq p (.inl rfl) ho hc hd (fun h' c' kp e=>fin its r' hz h' c' kp e) (by simp only[List.size_toArray] <;> lia)
 ·obtain⟨its,r',pl,hz⟩:=I.tuple hq
  have hlen:=r'.length
  obtain⟨o,ho,hc,n,hd⟩:=pl
  exact call_list_seq p (.inr rfl) ho hc hd (fun h' c' kp e=>fin its r' hz h' c' kp e) (by simp only[List.size_toArray] <;> lia)
theorem zeW:zdh X (.type "tuple") (fun xs H Q=>∃ p ys,xs=[.ref p]/\((SqL X.K H p ys/\∀ l,H l=none->Q (.ref l) (upd H l (.tup ys))) \/ (SqT X.K H p ys/\Q (.ref p) H))):=by
 intro pins s σ H xs us Q I r h
 obtain⟨p,ys,rfl,h⟩:=h
 obtain⟨u,rfl,rx⟩:=zfc r
 cases rx
 rcases h with ⟨hq,q⟩ | ⟨hq,q⟩
 ·obtain⟨its,r',pl,hz⟩:=I.list hq
  have hlen:=r'.length
  refine call_tuple_list pl.isList (fun h' kp=>?_) (by simp only[List.size_toArray] <;> lia)
  have I1:Inv X pins σ H { s with heap:=h'}:=I.kept (t':=s.toks) kp
  have I2:Inv X pins σ (upd H h'.objs.size (.tup ys)) { s with heap:=h'.push { cls:=.type "tuple",data:=.seq its.toArray}}:=
   I1.laid (t':=s.toks) (fun b o e=>Heap.get?_push_of_some _ e) (Nat.le_refl _) (show ObjOk X.prog X.w _ _ _ (.tup ys) from ⟨hz,its,r',TupN.new _ _⟩)
  exact⟨.ref h'.objs.size,_,I2,rfl,q _ (I1.hok.fresh (Nat.le_refl _))⟩
 ·obtain⟨its,r',pl,hz⟩:=I.tuple hq
  exact call_tuple_same pl ⟨.ref p,H,I,rfl,q⟩
noncomputable def tyV(K:PySem.W.Frag)(T:String)(x:V)(H:Hp):Prop:=match x with
 | .str _=>T = "str"
 | .int _=>T = "int"
 | .ref p=>(T = "list" /\ ∃ xs,SqL K H p xs) \/ (T = "tuple" /\ ∃ o,K.lookup p=some o/\o.cls=.type "tuple" /\ o.dict=none) \/
   (T = "dict" /\ ((∃ kvs,Rd H p (.dK kvs)) \/ ∃ kvs,H p=some (.dT kvs))) \/ (T = "set" /\ ∃ S n,H p=some (.set S n))
 | _=>False
theorem tyV_is{pins:List (Addr × Obj)}{σ:St}{H:Hp}{s:Shared}{T:String}{x:V}{v:Value}(I:Inv X pins σ H s)(r:RelV x v)(ty:tyV X.K T x H) :
  s.TypeIs v T/\∀ a,v=.ref a->∃ ob,s.heap.get? a=some ob/\ob.dict=none:=by
 cases x with
 | str z=>
  obtain⟨t,rfl⟩:=r
  cases (show T = "str" from ty)
  exact⟨typeIs_str s z t,fun _ e=>nomatch e⟩
 | int i=>
  obtain⟨t,rfl⟩:=r
  cases (show T = "int" from ty)
  exact⟨typeIs_int s i t,fun _ e=>nomatch e⟩
 | ref p=>
  cases r
  rcases ty with ⟨rfl,xs,hq⟩ | ⟨rfl,o,hk,hc,hd⟩ | ⟨rfl,hk⟩ | ⟨rfl,S,n,hk⟩
  ·obtain⟨its,_,pl,_⟩:=I.list hq
   refine⟨pl.isList.typeIs,fun a e=>?_⟩
   cases e
   obtain⟨o,n,e,c,hd,_⟩:=pl
   exact⟨o,e,hd⟩
  ·refine⟨⟨o,I.kIn p o hk,hc⟩,fun a e=>?_⟩
   cases e
   exact⟨o,I.kIn _ o hk,hd⟩
  ·have z:∃ o,s.heap.get? p=some o/\o.ExactDict:=by
    rcases hk with ⟨kvs,hk⟩ | ⟨kvs,hk⟩
    ·obtain⟨_,_,_,_,o,_,_,e,ex,_⟩:=hk.ok I.hok
     exact⟨o,e,ex⟩
    ·obtain⟨_,_,_,_,o,_,_,e,ex,_⟩:=I.hok p _ hk
     exact⟨o,e,ex⟩
   obtain⟨o,e,ex⟩:=z
   refine⟨⟨o,e,ex.1⟩,fun a e2=>?_⟩
   cases e2
   exact⟨o,e,ex.2.1⟩
  ·obtain⟨o,_,_,_,e,ex,_⟩:=I.hok p _ hk
   refine⟨⟨o,e,ex.1⟩,fun a e2=>?_⟩
   cases e2
   exact⟨o,e,ex.2.1⟩
 | _=>exact False.elim ty
noncomputable def tBM0(K:PySem.W.Frag)(T:String)(r:V->List V->Hp->VK->Prop)(to:TE):TE:=fun σ H Q=>to σ H fun x H1=>tyV K T x H1/\r x [] H1 Q
noncomputable def tBM(K:PySem.W.Frag)(T:String)(r:V->List V->Hp->VK->Prop)(to:TE)(t:TA):TE:=fun σ H Q=>to σ H fun x H1=>tyV K T x H1/\t σ H1 fun xs H2=>r x xs H2 Q
variable {o e:Expr}{es:List Expr}{to:TE}{t:TA}{name:Str}{apos cpos:Pos}{T id:String}{r:V->List V->Hp->VK->Prop}
theorem pe_bm0(pa:PlainAttrs T)(slot:Slot T name id)(hty:typeOf (.builtin id)=pure (.type "method_descriptor"))(hm:MtR X id r)(ho:PE X o to)
  (hbase:attributeBase o name X.env (eval o X.env)=eval o X.env:=by rfl) (hline:(apos.endLine == cpos.line)=true:=by rfl):PE X (.Call (.Attribute o name apos) [] [] cpos) (tBM0 X.K T r to):=by
 intro pins s σ H Q I h
 refine wpAny_Call_method0_late hbase hline (thn (ho pins s σ H _ I h) fun v s1 ⟨x,H1,I1,r1,ty,q1⟩=>?_)
 obtain⟨h1,h2⟩:=tyV_is I1 r1 ty
 exact⟨T,id,pa,slot,hty,h1,h2,Calls.callWith_builtin rfl (PySem.evalArgs_none (hm pins s1 σ H1 x [] v [] Q I1 r1 .nil q1))⟩
theorem pe_bm(pa:PlainAttrs T)(slot:Slot T name id)(hty:typeOf (.builtin id)=pure (.type "method_descriptor"))(hm:MtR X id r)(ho:PE X o to)(ha:PA X (e :: es) t)
  (hbase:attributeBase o name X.env (eval o X.env)=eval o X.env:=by rfl)
  (hfew:((backTo cpos (starEach (e :: es) X.env)).all (fun x=>!x.1) && (backToKw cpos (keywordEach [] X.env)).all (fun x=>x.1.isSome)
   && decide ((e :: es).length+([]:List Keyword).length+(if ([]:List Keyword).isEmpty then 0 else 1)<30))=true:=by rfl)
  (hline:(apos.endLine == cpos.line)=true:=by rfl) (hs:starEach (e :: es) X.env=(false,eval e X.env) :: starEach es X.env:=by rfl) (hplain:(backTo cpos (starEach es X.env)).any (·.1)=false:=by rfl) :
  PE X (.Call (.Attribute o name apos) (e :: es) [] cpos) (tBM X.K T r to t):=by
 intro pins s σ H Q I h
 refine wpAny_Call_method_late hbase hfew hline rfl (thn (ho pins s σ H _ I h) fun v s1 ⟨x,H1,I1,r1,ty,q1⟩=>?_)
 obtain⟨h1,h2⟩:=tyV_is I1 r1 ty
 refine⟨T,id,pa,slot,hty,h1,h2,?_⟩
 have hA:=ha cpos pins s1 σ H1 _ I1 q1
 rw[hs] at hA ⊢
 refine Calls.callWith_builtin (by show(false || (backTo cpos (starEach es X.env)).any (·.1))=false;rw[hplain] <;> rfl) (Calls.evalArgs_plain ?_)
 exact thn hA fun us s2 ⟨vs,H2,I2,r2,q2⟩=>hm pins s2 σ H2 x vs v us Q I2 r1 r2 q2
end
end L2
namespace L2
open PySem PySem.Spec PyProof.Rows
noncomputable def MtM(X:Cx)(id:String)(r:V->List V->Hp->VK->Prop):Prop:=
 ∀ (pins:List (Addr × Obj)) (s:Shared) (σ:St) (H:Hp) (x:V) (xs:List V) (v:Value) (us:List Value) (Q:VK),Inv X pins σ H s->RelV x v->Vals xs us->r x xs H Q ->
  wpAny (model X.prog X.w) X.A (call (.builtin id) (v :: us)) (EP X pins σ Q) X.xe s
theorem Vals.one:∀ {x:V} {us:List Value},Vals [x] us->∃ u,us=[u]/\RelV x u
 | _,_,.cons r .nil=>⟨_,rfl,r⟩
theorem Vals.zero:∀ {us:List Value},Vals [] us->us=[]
 | _,.nil=>rfl
theorem Vals.dropLast{xs:List V}{us:List Value}(h:Vals xs us):Vals xs.dropLast us.dropLast:=by
 induction h with
 | nil=>exact .nil
 | cons r t ih=>
  cases t with
  | nil=>exact .nil
  | cons q t'=>exact .cons r ih
theorem Vals.rep{xs:List V}{us:List Value}(h:Vals xs us):∀ k:Nat,Vals (List.replicate k xs).flatten (List.replicate k us).flatten
 | 0=>.nil
 | k+1=>by
  rw[List.replicate_succ,List.replicate_succ,List.flatten_cons,List.flatten_cons]
  exact Vals.append h (Vals.rep h k)
theorem zhd{α:Type}(l:List α):l.eraseIdx (l.length - 1)=l.dropLast:=by
 induction l with
 | nil=>rfl
 | cons a r ih=>
  cases r with
  | nil=>rfl
  | cons b r=>
   have e:(a :: b :: r).length - 1=((b :: r).length - 1)+1:=by
    have h1:(a :: b :: r).length=r.length+2:=rfl
    have h2:(b :: r).length=r.length+1:=rfl
    lia
   rw[e,List.eraseIdx_cons_succ,ih]
   all_goals rfl
theorem zfS(its:List Value):∀ (k:Nat) (acc:List Value),
  List.foldl (fun x1 x2=>x1 ++ x2) acc.toArray (List.replicate k its.toArray)=(acc ++ (List.replicate k its).flatten).toArray
 | 0,acc=>by simp
 | k+1,acc=>by
  have e:acc.toArray ++ its.toArray=(acc ++ its).toArray:=by simp
  have e2:(acc ++ its) ++ (List.replicate k its).flatten=acc ++ (List.replicate (k+1) its).flatten:=by
   rw[List.replicate_succ,List.flatten_cons,List.append_assoc]
  rw[<- e2,<- zfS its k (acc ++ its),<- e,List.replicate_succ,List.foldl_cons]
section
variable {X:Cx}{pins:List (Addr × Obj)}{σ:St}{H:Hp}{s:Shared}{l b:Addr}{xs ys zs:List V}
theorem Inv.lset{its its':List Value}{n:Nat}{f:Array Value->Array Value}{t':Nat}(I:Inv X pins σ H s)(hH:H l=some (.lst xs))
  (e:s.heap.get? l=some { cls:=.type "list",data:=.seq its.toArray n}) (hf:f its.toArray=its'.toArray) (hv:Vals ys its') (hz:ys.length<=sizeLine) :
  Inv X pins σ (upd H l (.lst ys)) { s with heap:=s.heap.update l (Obj.mapSeq f),toks:=t'}:=by
 have q:=PySem.IsL.update e f
 rw[hf] at q
 refine I.write (x:=l) (e:=l) (by rw[hH];exact trivial) (.inl rfl) (fun b' u hb hu=>(Heap.get?_update_other s.heap (Obj.mapSeq f) (Ne.symm hb)).trans hu) ⟨_,q⟩ ?_
 exact⟨hz,its',_,hv,q⟩
theorem Inv.lnew{its:List Value}{t':Nat}(I:Inv X pins σ H s)(hv:Vals ys its)(hz:ys.length<=sizeLine) :
  Inv X pins σ (upd H s.heap.objs.size (.lst ys)) { s with heap:=s.heap.push { cls:=.type "list",data:=.seq its.toArray},toks:=t'}:=
 I.laid (fun _ _ q=>Heap.get?_push_of_some _ q) (Nat.le_refl _) ⟨hz,its,0,hv,Heap.get?_push_size _ rfl⟩
theorem Inv.fresh(I:Inv X pins σ H s):H s.heap.objs.size=none:=I.hok.fresh (Nat.le_refl _)
theorem Inv.lstM(I:Inv X pins σ H s)(hH:H l=some (.lst xs)):xs.length<=sizeLine/\∃ (its:List Value) (n:Nat),Vals xs its/\xs.length=its.length/\s.heap.get? l=some { cls:=.type "list",data:=.seq its.toArray n}:=by
 obtain⟨z,its,n,r,e⟩:=I.hok l _ hH
 exact⟨z,its,n,r,r.length,e⟩
theorem notLongL{n:Nat}(h:n<=sizeLine):Builtin.List.listTooLong n=false:=by
 unfold Builtin.List.listTooLong
 exact decide_eq_false (by lia)
end
section
variable {X:Cx}
noncomputable def rAppend:V->List V->Hp->VK->Prop:=fun x vs H Q=>∃ l xs y,x=.ref l/\vs=[y]/\H l=some (.lst xs)/\xs.length<sizeLine/\Q .non (upd H l (.lst (xs ++ [y])))
theorem zfV:MtM X "list.append" rAppend:=by
 intro pins s σ H x vs v us Q I rx rv h
 obtain⟨l,xs,y,rfl,rfl,hH,hz,q⟩:=h
 cases rx
 obtain⟨u,rfl,ru⟩:=rv.one
 obtain⟨z,its,n,r,hl,e⟩:=I.lstM hH
 refine call_meets F.slot_list_append ⟨_,e,rfl⟩ F.entry_list_append (F.args_list_append_2 _ _) (PySem.list_append l its.toArray n u (by rw[List.size_toArray];lia)) ⟨e,?_⟩
 refine⟨.non,_,I.lset (its':=its ++ [u]) hH e (by simp) (r.append (.cons ru .nil)) ?_,rfl,q⟩
 rw[List.length_append,List.length_singleton]
 lia
noncomputable def rPop:V->List V->Hp->VK->Prop:=fun x vs H Q=>∃ l xs y,x=.ref l/\vs=[]/\H l=some (.lst xs)/\xs[xs.length - 1]? = some y/\Q y (upd H l (.lst xs.dropLast))
theorem mt_pop:MtM X "list.pop" rPop:=by
 intro pins s σ H x vs v us Q I rx rv h
 obtain⟨l,xs,y,rfl,rfl,hH,hy,q⟩:=h
 cases rx
 have hus:=rv.zero
 subst hus
 obtain⟨z,its,n,r,hl,e⟩:=I.lstM hH
 obtain⟨u,hu,ru⟩:=r.get hy
 have hy':its.toArray[its.toArray.size - 1]? = some u:=by
  show its.toArray[its.length - 1]? = some u
  rw[<- Array.getElem?_toList,<- hl]
  exact hu
 refine call_meets F.slot_list_pop ⟨_,e,rfl⟩ F.entry_list_pop (F.args_list_pop_1 _) (MeetsSeq.list_pop_last l its.toArray n u hy' (by rw[List.size_toArray];lia)) ⟨e,?_⟩
 refine⟨y,_,I.lset (its':=its.dropLast) hH e ?_ r.dropLast ?_,ru,q⟩
 ·show its.toArray.eraseIdxIfInBounds (its.toArray.size - 1)=its.dropLast.toArray
  rw[List.size_toArray,List.eraseIdxIfInBounds_toArray,zhd]
 ·rw[List.length_dropLast]
  lia
noncomputable def rCat:R2:=fun x y H Q=>∃ l b xs zs,x=.ref l/\y=.ref b/\H l=some (.lst xs)/\H b=some (.lst zs)/\xs.length+zs.length<=sizeLine/\∀ p,H p=none->Q (.ref p) (upd H p (.lst (xs ++ zs)))
theorem op_cat:OpR X (binaryOp .Add) rCat:=by
 intro pins s σ H x y v u Q I rx ry h
 obtain⟨l,b,xs,zs,rfl,rfl,hH,hB,hz,q⟩:=h
 cases rx
 cases ry
 obtain⟨z,its,n,r,hl,e⟩:=I.lstM hH
 obtain⟨z2,its2,n2,r2,hl2,e2⟩:=I.lstM hB
 refine PySem.P.add_list e e2 ?_ (by rw[List.size_toArray,List.size_toArray];lia)
 have ea:its.toArray ++ its2.toArray=(its ++ its2).toArray:=by simp
 rw[ea]
 exact⟨.ref _,_,I.lnew (t':=s.toks) (r.append r2) (by rw[List.length_append];lia),rfl,q _ I.fresh⟩
noncomputable def rRep:R2:=fun x y H Q=>∃ l k xs,x=.ref l/\y=.int k/\H l=some (.lst xs) /\ -(2 ^ 63)<=k/\k<2 ^ 63/\xs.length * k.toNat<=sizeLine /\
 ∀ p,H p=none->Q (.ref p) (upd H p (.lst (List.replicate k.toNat xs).flatten))
theorem len_rep{α:Type}(xs:List α)(k:Nat):(List.replicate k xs).flatten.length=k * xs.length:=by
 induction k with
 | zero=>simp
 | succ k ih=>rw[List.replicate_succ,List.flatten_cons,List.length_append,ih,Nat.succ_mul,Nat.add_comm]
theorem op_rep:OpR X (binaryOp .Mult) rRep:=by
 intro pins s σ H x y v u Q I rx ry h
 obtain⟨l,k,xs,rfl,rfl,hH,h1,h2,hz,q⟩:=h
 cases rx
 obtain⟨t,rfl⟩:=ry
 obtain⟨z,its,n,r,hl,e⟩:=I.lstM hH
 have hlen:its.toArray.size * k.toNat<=sizeLine:=by rw[List.size_toArray,<- hl];exact hz
 have hcap:¬ its.toArray.size * k.toNat > (2 ^ 63 - 1) / 8:=by
  have:(sizeLine:Nat)<=(2 ^ 63 - 1) / 8:=by decide
  lia
 have hfit:¬ (!Builtin.List.listFitsIndex k)=true:=by
  rw[fitsIndex_both h1 h2]
  exact Bool.false_ne_true
 have hlong:¬ Builtin.List.listTooLong (its.toArray.size * k.toNat)=true:=by
  rw[notLongL hlen]
  exact Bool.false_ne_true
 have hnew:List.foldl (fun x1 x2=>x1 ++ x2) #[] (List.replicate (if its.toArray.isEmpty=true then 0 else k.toNat) its.toArray)=(List.replicate k.toNat its).flatten.toArray:=by
  have f0:∀ m:Nat,List.foldl (fun x1 x2=>x1 ++ x2) #[] (List.replicate m its.toArray)=(List.replicate m its).flatten.toArray:=fun m=>by
   have:=zfS its m []
   rw[List.nil_append] at this
   exact this
  rw[f0]
  cases its with
  | nil=>simp
  | cons a r'=>rw[if_neg (by simp)]
 refine wpAny_binaryOp_repeat_ref (T:= "list") (U:= "int") (by decide) ⟨_,e,rfl⟩ (fun s'=>typeIs_int s' k t) noFill_list_mul F.fills_int_mul F.slot_int_rmul repeat_list F.slot_int_index.lookup
  (call_meets F.slot_int_rmul (typeIs_int s k t) F.entry_int_rmul (F.args_int_rmul_2 _ _) (int___rmul___int_list k t l its.toArray n)
   ⟨e,rfl,⟨_,e,rfl⟩,call_meets F.slot_list_mul ⟨_,e,rfl⟩ F.entry_list_mul (F.args_list_mul_2 _ _) (AutoListH.list___mul___list_int_3 l its.toArray n k t hfit hcap hlong) ⟨e,?_⟩⟩)
 rw[hnew]
 exact⟨.ref _,_,I.lnew (t':=s.toks) (r.rep k.toNat) (by rw[len_rep,Nat.mul_comm];exact hz),rfl,q _ I.fresh⟩
end
section
variable {prog:Program}{w:World}{A:Around}{E:Value->Shared->Prop}{s:Shared}
end
section
variable {X:Cx}
end
end L2
namespace Att
open PySem PySem.W PySem.Calls PyProof.Rows
theorem zec{P:Params}{h:Heap}:∀ (ns:List Int) (vs:List Value),WellAll P h vs (ns.map WData.int)->IntsAre vs ns:=by
 intro ns
 induction ns with
 | nil=>
  intro vs w
  rw[List.map_nil] at w
  cases w
  exact .nil
 | cons n ns ih=>
  intro vs w
  rw[List.map_cons] at w
  cases w with
  | cons a b=>
   cases a
   exact .cons _ _ (ih _ b)
theorem script_of{l:OpenLaw}{n:Nat}(hn:l.most=some n){P:Params}{h:Heap}{args:List WData}{vals:List Value}
  (hpre:l.row.toRowW.claim.pre args=true) (hwl:WellAll P h vals args) :
  ∃ a vs ns,vals=[Value.ref a]/\args=[WData.list (ns.map WData.int)]/\h.get? a=some { cls:=.type "list",data:=.seq vs.toArray}/\IntsAre vs ns/\ns.length<=n:=by
 have hsh:WShape.hasAll [] args [.list .int]=true:=(pre_splitW hpre).1
 have hc:l.pre.holds [] { args:=args}=true:=(pre_splitW hpre).2
 obtain⟨d,r,rfl,h1,h2⟩:=hasAllW_cons hsh
 obtain rfl:=hasAllW_nil h2
 obtain⟨xs,rfl,h3⟩:=hasW_list h1
 obtain⟨ns,rfl⟩:=items_int h3
 have hlen:ns.length<=n:=by
  unfold OpenLaw.pre at hc
  have h4:(WTm.not (.lt (.lit (.int (n:Int))) (.len (.arg 0)))).holds [] { args:=[.list (ns.map .int)]}=true:=by
   have h4:=(holds_andW hc).1
   rw[hn] at h4
   exact h4
  have h5:=condW_of h4 (w_not (w_lt w_lit (w_len_list (w_arg rfl))))
  rw[List.length_map] at h5
  refine Nat.le_of_not_lt fun q=>?_
  have q':(n:Int)<((ns.length:Nat):Int):=by lia
  first
   | (rw[decide_eq_true q'] at h5;exact absurd h5 (by decide))
   | (simp at h5;lia)
 cases hwl with
 | cons w1 w2=>
  cases w2
  cases w1 with
  | list ho hall=>exact⟨_,_,ns,rfl,rfl,ho,zec ns _ hall,hlen⟩
theorem post_true(l:OpenLaw)(args:List WData):l.row.toRowW.claim.post args (.bool true) args=true:=
 postW_of (r:=l.row.toRowW) (X:=(true == true))
  (show WShape.has [] (.bool true) .bool=true by first | rfl | decide | simp[WShape.has,WShape.arms,WShape.armsAll])
  (show(WTm.eq .res (.lit (.bool true))).value [] { args:=args,res:=some (.bool true),after:=args}=some (.bool (true == true)) from w_eq_bool (w_res rfl) w_lit) rfl
theorem attach_call{l:OpenLaw}{n:Nat}{q:Program}{loose:List Str}{XP:(Str->Option Value)->Heap->Prop}{YP:World->Heap->Prop}{d:DefRec}
  (hn:l.most=some n) (hdf:d.params.defaults=[])
  (call:∀ (w:World) (s₀ s₁:Shared) (mg mb:Str->Option Value) (fa:Addr) (o:Obj) (pm cd doc:Value) (a:Addr) (vs:List Value) (ns:List Int),
   Ground q loose [] XP w s₀ mg mb s₁.heap->YP w s₁.heap ->
   s₁.heap.get? fa=some o->o.data=.func (docDef d.name d.params d.body d.scope pm cd doc)->s₁.heap.CodeRec cd d.name->mg d.name=some (.ref fa) ->
   s₁.heap.get? a=some { cls:=.type "list",data:=.seq vs.toArray}->IntsAre vs ns->ns.length<=n->s₁.gens=#[] ->
   codeAny (model l.prog w) callerA (.call (.ref fa) ⟨[.ref a],[]⟩) (fun r s'=>r=.ok (.ret (.bool true))/\OldK s₁.heap s'.heap/\s'.os=s₁.os/\AllBare s'.gens) s₁) :
  WalkO q loose XP YP l.row.toRowW d [] (fun f vs=>PySem.call f vs):=by
 intro w s₀ s₁ mg mb G Y fa o pm cd doc dV kV ho hd hcd hD hmg hg args vals as hpre hlay hrd hwl hlo
 obtain rfl:dV=.none:=Dflts.none hD hdf
 obtain rfl:kV=.none:=Dflts.noKw hD
 obtain⟨a,vs,ns,rfl,rfl,hobj,hints,hlen⟩:=script_of hn hpre hwl
 refine enter_call (codeAny_mono (call w s₀ s₁ mg mb fa o pm cd doc a vs ns G Y ho (fd_plain hd) hcd hmg hobj hints hlen hg) fun r s' hq=>?_)
 obtain⟨rfl,h2,h3,h4⟩:=hq
 exact⟨.inl ⟨.bool true,.bool true,[],rfl,fun _=>rfl,.bool true,post_true l _,fun _=>⟨List.Pairwise.nil,fun _ hm=>(nomatch hm)⟩⟩,h2,h3,h4⟩
section
variable {prog:Program}{w:World}{A:Around}{E:Value->Shared->Prop}{s:Shared}{K:Frag}
end
end Att
namespace L2
open PySem PySem.Spec PyProof.Rows
theorem zeg:∀ {vs:List Value} {ns:List Int},IntsAre vs ns->Vals (ns.map V.int) vs
 | _,_,.nil=>.nil
 | _,_,.cons n t h=>.cons ⟨t,rfl⟩ (zeg h)
noncomputable def Only(H:Hp):Prop:=∀ b,H b=none \/ ∃ o xs,H b=some (.frz o (.lst xs))
theorem law_call{P:Program}{w:World}{K:PySem.W.Frag}{mg mb:Str->Option Value}{CX:CXT}{k:Nat}{fa a:Addr}{fd:FuncData}{x:Str}{sp:Sp}{s₁:Shared}{vs:List Value}{ns:List Int}
  (KX:K.In s₁.heap) (hns:s₁.heap.Ns mainGlobals mg) (hb:s₁.heap.Ns builtinsNs mb) (hbb:∀ x:Str,x ≠ "__name__" -> mb x=bootBuiltins x) (hlim:s₁.heap.NoLimit) (hg:s₁.gens=#[])
  (ha:s₁.heap.get? a=some { cls:=.type "list",data:=.seq vs.toArray}) (hi:IntsAre vs ns) (hl:ns.length<=sizeLine) (hr:Room k callerA)
  (F:∀ base:Heap,K.In base->base.Ns mainGlobals mg->FnOk P w K mg base CX k fa fd [x] sp) (hbind:∀ (s:Shared) (u:Value),BindsTo s fd ⟨[u],[]⟩ [(x,u)])
  (hsp:∀ H:Hp,Only H->SqL K H a (ns.map V.int)->sp [.ref a] H (fun v _=>v=.bl true) fun _ _ _=>False)
  (hCX:∀ H e s',CX [] H s₁ (fun _ _ _=>False) e s'->False) :
  codeAny (model P w) callerA (.call (.ref fa) ⟨[.ref a],[]⟩) (fun r s'=>r=.ok (.ret (.bool true))/\OldK s₁.heap s'.heap/\s'.os=s₁.os/\AllBare s'.gens) s₁:=by
 have rv:=zeg hi
 have lenV:=hi.length
 have core:∀ H:Hp,Only H->SqL K H a (ns.map V.int)->HOk P w H s₁.heap->(∀ b,H b ≠ none->b=a)->(H a ≠ none->K.lookup a=none) ->
   codeAny (model P w) callerA (.call (.ref fa) ⟨[.ref a],[]⟩) (fun r s'=>r=.ok (.ret (.bool true))/\OldK s₁.heap s'.heap/\s'.os=s₁.os/\AllBare s'.gens) s₁:=by
  intro H hO hS hok hA hK
  have base_of:∀ {b:Addr} {o:Obj},s₁.heap.get? b=some o->H b=none->(hidT s₁.heap H).get? b=some o:=fun e n=>hidT_get e n
  have noA:∀ {b:Addr} {o:Obj} {es:Array DictEntry} {ep:Nat},s₁.heap.get? b=some o->o.data=.dict es ep->H b=none:=fun {b o es ep} e d=>by
   cases q:H b with
   | none=>rfl
   | some u=>
    have e':b=a:=hA b (by rw[q];simp)
    subst e'
    rw[ha] at e;cases e
    have d':Data.seq vs.toArray _=Data.dict es ep:=d
    cases d'
  have nsK:∀ {b:Addr} {m:Str->Option Value},s₁.heap.Ns b m->(hidT s₁.heap H).Ns b m:=fun {b m} ⟨o,es,ep,e,d,r⟩=>⟨o,es,ep,base_of e (noA e d),d,r⟩
  have hKb:K.In (hidT s₁.heap H):=fun b o e=>base_of (KX b o e) (by
   cases q:H b with
   | none=>rfl
   | some u=>
    have e':b=a:=hA b (by rw[q];simp)
    subst e'
    rw[hK (by rw[q];simp)] at e;cases e)
  have hM:Mod K mg (hidT s₁.heap H):=⟨hKb,nsK hns,⟨mb,nsK hb,hbb⟩,let⟨mc,h1,h2⟩:=hlim;⟨mc,nsK h1,h2⟩⟩
  have e0:Env0 P w K mg (hidT s₁.heap H) callerA [] s₁ H:=⟨rfl,hM,fun b o e=>of_hidT e,Nat.le_of_eq (hidT_size _ _),trivial,fun b hb=>absurd (show b ∈ ([]:List Addr) from hb) (by simp),hok,.of_eq hg⟩
  refine codeAny_mono ((F _ hKb (nsK hns)).run callerA [] s₁ H ⟨[.ref a],[]⟩ [.ref a] [.ref a] _ _ hr e0 (hbind s₁ (.ref a)) (.cons rfl .nil) (hsp H hO hS)) fun r s' h=>?_
  cases r with
  | error e=>exact(hCX H e s' h).elim
  | ok fl=>
   cases fl with
   | next=>exact False.elim h
   | brk=>exact False.elim h
   | cont=>exact False.elim h
   | ret u=>
    obtain⟨v,H',os,bare,un,hok',r',q⟩:=h
    have q':v=.bl true:=q
    subst q'
    obtain rfl:u=Value.bool true:=r'
    refine⟨rfl,OldK.of_keep fun b o e=>?_,os,bare⟩
    cases q:H b with
    | none=>exact un.keep b o e q (by intro z;exact absurd (show b ∈ ([]:List Addr) from z) (by simp)) (by simp)
    | some u=>
     rcases hO b with z | ⟨ob,xs,z⟩
     ·rw[q] at z;cases z
     ·have z2:=un.frzs b ob _ z
      obtain⟨e1,_⟩:=hok b _ z
      obtain⟨e2,_⟩:=hok' b _ z2
      rw[e] at e1;cases e1
      exact e2
 cases hk:K.lookup a with
 | some o=>
  have e:=KX a o hk
  rw[ha] at e
  cases e
  refine core (fun _=>none) (fun _=>.inl rfl) (.inr ⟨_,vs.toArray,_,hk,rfl,rfl,rfl,by rw[List.size_toArray,lenV];exact hl,by simpa using rv⟩) (fun b u z=>by have z':(none:Option HO)=some u:=z;cases z') (fun b z=>absurd rfl z) fun z=>absurd rfl z
 | none=>
  refine core (fun b=>if b=a then some (.frz { cls:=.type "list",data:=.seq vs.toArray} (.lst (ns.map V.int))) else none) (fun b=>?_) (.inl (.inr ⟨{ cls:=.type "list",data:=.seq vs.toArray},if_pos rfl⟩)) (fun b u z=>?_) (fun b z=>?_) fun _=>hk
  ·by_cases hb:b=a
   ·exact .inr ⟨_,_,if_pos hb⟩
   ·exact .inl (if_neg hb)
  ·by_cases hb:b=a
   ·have z':=(if_pos hb).symm.trans z
    cases z'
    subst hb
    exact⟨ha,by rw[List.length_map];exact hl,vs,_,rv,ha⟩
   ·have z':=(if_neg hb).symm.trans z
    cases z'
  ·by_cases hb:b=a
   ·exact hb
   ·exact absurd (if_neg hb) z
end L2
namespace L2
open PySem PySem.Spec PyProof.Rows
theorem walk_of{l:PySem.W.OpenLaw}{n k:Nat}{q:Program}{loose:List Str}{XP:(Str->Option Value)->Heap->Prop}{YP:World->Heap->Prop}{d:DefRec}{K:Params->PySem.W.Frag}{CX:World->CXT}{sp:World->Sp}{x:Str}
  (hn:l.most=some n) (hn2:n<=sizeLine) (hdf:d.params.defaults=[]) (hr:Room k callerA)
  (hY:∀ (w:World) (h:Heap),YP w h->(K w.params).In h)
  (F:∀ (w:World) (mg:Str->Option Value) (fa:Addr) (h:Heap),(K w.params).In h->h.Ns mainGlobals mg->mg d.name=some (.ref fa) ->
   ∃ fd:FuncData,(∀ (s:Shared) (u:Value),BindsTo s fd ⟨[u],[]⟩ [(x,u)]) /\
    ∀ base:Heap,(K w.params).In base->base.Ns mainGlobals mg->FnOk l.prog w (K w.params) mg base (CX w) k fa fd [x] (sp w))
  (hsp:∀ (w:World) (H:Hp) (a:Addr) (ns:List Int),ns.length<=n->Only H->SqL (K w.params) H a (ns.map V.int)->sp w [.ref a] H (fun v _=>v=.bl true) fun _ _ _=>False)
  (hCX:∀ (w:World) (H:Hp) (s:Shared) (e:Value) (s':Shared),CX w [] H s (fun _ _ _=>False) e s'->False) :
  PySem.W.WalkO q loose XP YP l.row.toRowW d [] (fun f vs=>PySem.call f vs):=by
 refine Att.attach_call hn hdf fun w s₀ s₁ mg mb fa o pm cd doc a vs ns G Y ho hd hcd hmg hobj hints hlen hg=>?_
 have KX:=hY w _ Y
 obtain⟨fd,hb,hF⟩:=F w mg fa _ KX G.T.g hmg
 exact law_call KX G.T.g G.T.b G.T.builtins G.T.nolimit hg hobj hints (Nat.le_trans hlen hn2) hr hF hb (fun H hO hS=>hsp w H a ns hlen hO hS) fun H e s'=>hCX w H s₁ e s'
end L2
namespace L2
open PySem PySem.Spec PyProof.Rows
noncomputable def zaq(s:Stmt):Arguments:=match s with
 | .FunctionDef _ a _ _ _ _ _ _ _ _=>a
 | _=>{ posonlyargs:=[],args:=[],vararg:=none,kwonlyargs:=[],kw_defaults:=[],kwarg:=none,defaults:=[]}
noncomputable def zam(s:Stmt):List Stmt:=match s with
 | .FunctionDef _ _ b _ _ _ _ _ _ _=>b
 | _=>[]
noncomputable def zac(s:Stmt):Scope:=match s with
 | .FunctionDef _ _ _ _ _ _ sc _ _ _=>sc
 | _=>{ kind:=.function,names:=[],isGenerator:=false,isCoroutine:=false}
noncomputable abbrev CX0:CXT:=fun _ _ _ _ _ _=>False
noncomputable abbrev E0:XK:=fun _ _ _=>False
theorem zaW{X:Cx}:zbL CX0 X E0:=fun _ _ _ _ _ _ _ h=>h.elim
structure Fun(K:PySem.W.Frag)(x qual:Str)(st:Stmt)(f:Addr)(fd:FuncData):Prop where
 ex:∃ (oc:Value) (od:Option Addr) (kV doc pm:Value) (an:Option Addr) (cdv ct:Value) (osl:Array (Option Value)),
  fd=PySem.W.fnOf x qual (zaq st) (zam st) (zac st) .none kV doc pm an cdv ct/\K.lookup f=some ⟨oc,od,.func fd,osl⟩/\PySem.W.codeIn K cdv qual=true
 kp:PySem.W.keepIn K (.ref f)=true
section
variable {P:Program}{w:World}{K:PySem.W.Frag}{mg:Str->Option Value}{base:Heap}
theorem Fun.binds{x qual:Str}{st:Stmt}{f:Addr}{fd:FuncData}{ps:List Str}(F:Fun K x qual st f fd)
  (h:∀ (kV doc pm:Value) (an:Option Addr) (cdv ct:Value) (us:List Value),us.length=ps.length->bindArgs (PySem.W.fnOf x qual (zaq st) (zam st) (zac st) .none kV doc pm an cdv ct) ⟨us,[]⟩=pure (ps.zip us)):Binds K fd ps []:=by
 obtain⟨oc,od,kV,doc,pm,an,cdv,ct,osl,rfl,lk,hcd⟩:=F.ex
 exact .all (h kV doc pm an cdv ct)
theorem za3{x qual:Str}{st:Stmt}{f:Addr}{oc:Value}{od an:Option Addr}{osl:Array (Option Value)}{kV doc pm cdv ct:Value}(l:K.lookup f=some ⟨oc,od,.func (PySem.W.fnOf x qual (zaq st) (zam st) (zac st) .none kV doc pm an cdv ct),osl⟩)
  (c:PySem.W.codeIn K cdv qual=true) (k:PySem.W.keepIn K (.ref f)=true):Fun K x qual st f (PySem.W.fnOf x qual (zaq st) (zam st) (zac st) .none kV doc pm an cdv ct):=⟨⟨oc,od,kV,doc,pm,an,cdv,ct,osl,rfl,l,c⟩,k⟩
end
theorem zbP{A:Around}{k:Nat}(hr:Room k A):A.units+1<cLine:=Nat.lt_of_le_of_lt (Nat.add_le_add_left (by decide:1<=64) _) hr.units
theorem small1000{n:Nat}(h:n<=1000):n<sizeLine:=Nat.lt_of_le_of_lt h (by decide)
section
variable {X:Cx}
end
theorem zgu{A B:Prop}(h:B):if false=true then A else B:=by
 rw[if_neg Bool.false_ne_true]
 exact h
theorem iteT{A B:Prop}(h:A):if true=true then A else B:=by
 rw[if_pos rfl]
 exact h
noncomputable def Same(H H':Hp):Prop:=∀ b o,H b=some o->H' b=some o
theorem Same.refl(H:Hp):Same H H:=fun _ _ h=>h
theorem Same.trans{H H1 H2:Hp}(a:Same H H1)(b:Same H1 H2):Same H H2:=fun c o h=>b c o (a c o h)
theorem Same.free{H H':Hp}(e:Same H H'){l:Addr}(h:H' l=Option.none):H l=Option.none:=by
 cases q:H l with
 | none=>rfl
 | some o=>
  rw[e l o q] at h
  cases h
theorem Same.seq{K:PySem.W.Frag}{H H':Hp}{a:Addr}{xs:List V}(e:Same H H')(h:SqL K H a xs):SqL K H' a xs:=by
 rcases h with (h | ⟨o,h⟩) | h
 ·exact .inl (.inl (e _ _ h))
 ·exact .inl (.inr ⟨o,e _ _ h⟩)
 ·exact .inr h
end L2

namespace L2
open PySem PySem.Spec PyProof.Rows
theorem zg1{α β:Type}{l:List α}{f:α->β->Sem (ForInStep β)}(g:β->α->β)(h:∀ x ∈ l,∀ c,f x c=pure (.yield (g c x)))(c:β):forIn l c f=pure (l.foldl g c):=by
 induction l generalizing c with
 | nil=>rfl
 | cons x l ih=>
  rw[List.forIn_cons,h x List.mem_cons_self,pure_bind]
  exact ih (fun y hy=>h y (List.mem_cons_of_mem _ hy)) _
noncomputable def clG(env:Env)(cs:List (Str × Addr))(x:Str × NameKind):List (Str × Addr):=
 if (x.2 == NameKind.free)=true then (match env.cells.lookup x.1 with | some c=>(x.1,c) :: cs | none=>cs) else cs
noncomputable def clOf(env:Env)(names:List (Str × NameKind)):List (Str × Addr):=names.foldl (clG env) []
theorem zho{scope:Scope}{env:Env}(h:∀ y ∈ scope.names,y.2=.free->∃ c,env.cells.lookup y.1=some c):closureFor scope env=pure (clOf env scope.names):=by
 simp only[closureFor]
 rw[zg1 (clG env) (fun x hx c=>by
  obtain⟨n,k⟩:=x
  cases hk:(k == NameKind.free) with
  | false=>simp only[clG,hk,Bool.false_eq_true,if_false]
  | true=>
   have e:k=.free:=by cases k <;> first | rfl | (exact absurd hk (by decide))
   obtain⟨c0,hc⟩:=h _ hx e
   simp only[clG,hk,if_true,cellOf,hc,pure_bind])]
 rfl
theorem cl_sub{env:Env}:∀ (names:List (Str × NameKind)) (cs:List (Str × Addr)),(∀ y c,cs.lookup y=some c->env.cells.lookup y=some c) ->
  ∀ y c,(names.foldl (clG env) cs).lookup y=some c->env.cells.lookup y=some c
 | [],_,h,y,c,e=>h y c e
 | (n,k) :: r,cs,h,y,c,e=>by
  refine cl_sub r (clG env cs (n,k)) (fun z d hz=>?_) y c e
  unfold clG at hz
  split at hz
  ·cases q:env.cells.lookup n with
   | none=>simp only[q] at hz;exact h z d hz
   | some c0=>
    simp only[q,List.lookup_cons] at hz
    cases hb:z == n with
    | true=>
     simp only[hb] at hz
     cases hz
     have:z=n:=by simpa using hb
     rw[this];exact q
    | false=>simp only[hb] at hz;exact h z d hz
  ·exact h z d hz
theorem cl_has{env:Env}:∀ (names:List (Str × NameKind)) (cs:List (Str × Addr)) (y:Str),(∃ c,env.cells.lookup y=some c)->((∃ c,cs.lookup y=some c) \/ (y,NameKind.free) ∈ names) ->
  ∃ c,(names.foldl (clG env) cs).lookup y=some c
 | [],_,_,_,h=>by
  rcases h with h | h
  ·exact h
  ·cases h
 | (n,k) :: r,cs,y,hc,h=>by
  refine cl_has r (clG env cs (n,k)) y hc ?_
  have keep:(∃ c,cs.lookup y=some c)->∃ c,(clG env cs (n,k)).lookup y=some c:=fun⟨c,e⟩=>by
   unfold clG
   split
   ·cases q:env.cells.lookup n with
    | none=>exact⟨c,e⟩
    | some c0=>
     show ∃ c,List.lookup y ((n,c0) :: cs)=some c
     rw[List.lookup_cons]
     cases y == n with
     | true=>exact⟨c0,rfl⟩
     | false=>exact⟨c,e⟩
   ·exact⟨c,e⟩
  rcases h with h | h
  ·exact .inl (keep h)
  ·rcases List.mem_cons.mp h with h | h
   ·cases h
    left
    obtain⟨c0,q⟩:=hc
    unfold clG
    rw[if_pos (by rfl)]
    show ∃ c,List.lookup n (match env.cells.lookup n with | some c=>(n,c) :: cs | none=>cs)=some c
    rw[q]
    refine⟨c0,?_⟩
    show List.lookup n ((n,c0) :: cs)=some c0
    rw[List.lookup_cons]
    simp
   ·exact .inr h
theorem zdK{env:Env}:∀ {names:List (Str × NameKind)} {x:Str},names.lookup x=some .free ->
  (names.map fun(n,k)=>if (k == NameKind.free && env.scope.kind == .function && env.kindOf n == some .cell) then (n,NameKind.cell) else (n,k)).lookup x=some .cell \/
  (names.map fun(n,k)=>if (k == NameKind.free && env.scope.kind == .function && env.kindOf n == some .cell) then (n,NameKind.cell) else (n,k)).lookup x=some .free
 | [],_,h=>by simp at h
 | (n,k) :: r,x,h=>by
  have ih:=@zdK env r x
  show List.lookup x ((if (k == NameKind.free && env.scope.kind == .function && env.kindOf n == some .cell)=true then (n,NameKind.cell) else (n,k)) :: _)=_ \/ List.lookup x ((if (k == NameKind.free && env.scope.kind == .function && env.kindOf n == some .cell)=true then (n,NameKind.cell) else (n,k)) :: _)=_
  cases hx:x == n with
  | true=>
   simp only[List.lookup_cons,hx] at h
   cases h
   by_cases hc:(NameKind.free == NameKind.free && env.scope.kind == .function && env.kindOf n == some .cell)=true
   ·rw[if_pos hc];left;simp only[List.lookup_cons,hx]
   ·rw[if_neg hc];right;simp only[List.lookup_cons,hx]
  | false=>
   simp only[List.lookup_cons,hx] at h
   by_cases hc:(k == NameKind.free && env.scope.kind == .function && env.kindOf n == some .cell)=true
   ·rw[if_pos hc];simp only[List.lookup_cons,hx];exact ih h
   ·rw[if_neg hc];simp only[List.lookup_cons,hx];exact ih h
theorem zdI{env:Env}:∀ {names:List (Str × NameKind)} {x:Str},(∀ y ∈ names,y.2 ≠ .cell) ->
  ((names.map fun(n,k)=>if (k == NameKind.free && env.scope.kind == .function && env.kindOf n == some .cell) then (n,NameKind.cell) else (n,k)).lookup x=some .cell \/
  (names.map fun(n,k)=>if (k == NameKind.free && env.scope.kind == .function && env.kindOf n == some .cell) then (n,NameKind.cell) else (n,k)).lookup x=some .free)->names.lookup x=some .free
 | [],_,_,h=>by rcases h with h | h <;> simp at h
 | (n,k) :: r,x,hnc,h=>by
  have ih:=@zdI env r x fun y hy=>hnc y (List.mem_cons_of_mem _ hy)
  have h':List.lookup x ((if (k == NameKind.free && env.scope.kind == .function && env.kindOf n == some .cell)=true then (n,NameKind.cell) else (n,k)) :: (r.map fun(n,k)=>if (k == NameKind.free && env.scope.kind == .function && env.kindOf n == some .cell) then (n,NameKind.cell) else (n,k)))=some .cell \/ List.lookup x ((if (k == NameKind.free && env.scope.kind == .function && env.kindOf n == some .cell)=true then (n,NameKind.cell) else (n,k)) :: (r.map fun(n,k)=>if (k == NameKind.free && env.scope.kind == .function && env.kindOf n == some .cell) then (n,NameKind.cell) else (n,k)))=some .free:=h
  rw[List.lookup_cons]
  cases hx:x == n with
  | true=>
   have hk:k=.free:=by
    by_cases hc:(k == NameKind.free && env.scope.kind == .function && env.kindOf n == some .cell)=true
    ·cases k <;> first | rfl | (simp at hc)
    ·rw[if_neg hc] at h'
     simp only[List.lookup_cons,hx] at h'
     rcases h' with h' | h'
     ·exact absurd (Option.some.inj h') (hnc (n,k) List.mem_cons_self)
     ·exact Option.some.inj h'
   rw[hk]
  | false=>
   by_cases hc:(k == NameKind.free && env.scope.kind == .function && env.kindOf n == some .cell)=true
   ·rw[if_pos hc] at h'
    simp only[List.lookup_cons,hx] at h'
    exact ih h'
   ·rw[if_neg hc] at h'
    simp only[List.lookup_cons,hx] at h'
    exact ih h'
structure CompSc(X:Cx)(N:List Str)(fr:List Nat)(x:Str)(scope:Scope):Prop where
 kind:scope.kind=.function
 chk:(scope.names.all fun y=>match y.2 with
  | .cell=>false
  | .local=>scope.names.lookup y.1 == some .local
  | .free=>X.env.scope.names.lookup y.1 == some .cell || X.env.scope.names.lookup y.1 == some .free
  | _=>true)=true
 tg:scope.names.lookup x=some .local
 nd:N.Nodup
 nm:N.map some=some x :: fr.map (fun i=>X.N[i]?)
 nf:(N.tail.all fun y=>scope.names.lookup y == some .free)=true
theorem zb3{o:Option NameKind}{k:NameKind}(h:(o == some k)=true):o=some k:=by
 cases o with
 | none=>cases h
 | some j=>
  have:(j == k)=true:=h
  cases j <;> cases k <;> first | rfl | (exact absurd this (by decide))
section
variable {X:Cx}{N:List Str}{fr:List Nat}{x:Str}{scope:Scope}
theorem CompSc.ncell(S:CompSc X N fr x scope):∀ y ∈ scope.names,y.2 ≠ .cell:=fun y hy e=>by
 have h:=List.all_eq_true.mp S.chk y hy
 obtain⟨n,k⟩:=y
 cases (show k=.cell from e)
 exact absurd h (by simp)
theorem CompSc.loc(S:CompSc X N fr x scope):∀ y ∈ scope.names,y.2=.local->scope.names.lookup y.1=some .local:=fun y hy e=>by
 have h:=List.all_eq_true.mp S.chk y hy
 obtain⟨n,k⟩:=y
 cases (show k=.local from e)
 exact zb3 h
theorem CompSc.free(S:CompSc X N fr x scope):∀ y ∈ scope.names,y.2=.free->X.env.kindOf y.1=some .cell \/ X.env.kindOf y.1=some .free:=fun y hy e=>by
 have h:=List.all_eq_true.mp S.chk y hy
 obtain⟨n,k⟩:=y
 cases (show k=.free from e)
 have h':(X.env.scope.names.lookup n == some .cell || X.env.scope.names.lookup n == some .free)=true:=h
 rcases Bool.or_eq_true_iff.mp h' with h' | h'
 ·exact .inl (zb3 h')
 ·exact .inr (zb3 h')
end
noncomputable def zd1(fr:List Nat)(σ:St):St:=fr.map fun i=>(σ[i]?).join
noncomputable def cxC(X:Cx)(N:List Str)(scope:Scope)(C:Addr)(s₀:Shared)(H₀:Hp)(fp:List Addr):Cx:=
 { X with N:=N,s₀:=s₀,H₀:=H₀,env:=compEnvC scope (clOf X.env scope.names) C X.env,outer:=X.stack,ex:=fp,fn:=fun _=>false,pn:=[],xe:=fun _ _=>False}
noncomputable def PTs(X:Cx)(ifs:List Expr)(t:TT):Prop:=
 ∀ (pins:List (Addr × Obj)) (s:Shared) (σ:St) (H:Hp) (Q:Bool->Hp->Prop),Inv X pins σ H s->t σ H Q ->
  wpAny (model X.prog X.w) X.A (forIn ifs true fun c r=>if r=true then do let ok <- isTrue c X.env (eval c X.env);pure (ForInStep.yield ok) else pure (ForInStep.yield r)) (TP X pins σ Q) X.xe s
noncomputable def tNoIf:TT:=fun _ H Q=>Q true H
theorem pts_nil{X:Cx}:PTs X [] tNoIf:=fun _ _ _ H _ I h=>by
 rw[List.forIn_nil]
 exact wpAny_pure ⟨H,I,h⟩
theorem pts_one{X:Cx}{c:Expr}{t:TT}(h:PT X c t):PTs X [c] t:=fun pins s σ H Q I hw=>by
 rw[List.forIn_cons,if_pos rfl]
 refine wpAny_bind (wpAny_bind (thn (h pins s σ H Q I hw) fun ok s1 q=>wpAny_pure ?_))
 show wpAny _ _ (forIn ([]:List Expr) ok _) _ _ _
 rw[List.forIn_nil]
 exact wpAny_pure q
noncomputable def lcW(fr:List Nat)(tt:TT)(te:TE)(J:It)(σ:St)(H1:Hp)(R:Addr->Hp->Prop):Prop:=
 ∀ a,H1 a=none->∃ W:Nat->Nat->List V->Hp->Prop,(∃ m,W 0 m [] (upd H1 a (.lst [])))/\∀ i m ys H,W i m ys H ->
  (J.stop i H/\R a H) \/ (J.go i H/\∀ x H',J.yld i H x H'->tt (some x :: zd1 fr σ) H' fun b H2=>
   if b=true then te (some x :: zd1 fr σ) H2 fun y H3=>H3 a=some (.lst ys)/\ys.length<sizeLine/\∃ m',m'<m/\W (i+1) m' (ys ++ [y]) (upd H3 a (.lst (ys ++ [y])))
   else ∃ m',m'<m/\W (i+1) m' ys H2)
noncomputable def tLC(fr:List Nat)(wi:TI)(tt:TT)(te:TE):TE:=fun σ H Q=>wi σ H fun J H1=>lcW fr tt te J σ H1 fun a H2=>Q (.ref a) H2
section
variable {X:Cx}{N:List Str}{fr:List Nat}{x:Str}{scope:Scope}{pins:List (Addr × Obj)}{σ:St}{H:Hp}{s:Shared}
theorem comp_inv(S:CompSc X N fr x scope){fp:List Addr}{h₁:Heap}{tk:Nat}(I:Inv X pins σ H s)(hf:∀ b ∈ fp,zeD X pins H b)(hfo:∀ b ∈ fp,b<s.heap.objs.size)
  (hns:h₁.Ns s.heap.objs.size fun y=>([]:List (Str × Value)).reverse.lookup y) (old:∀ b o,s.heap.get? b=some o->h₁.get? b=some o) :
  Inv (cxC X N scope s.heap.objs.size s H fp) [] (none :: zd1 fr σ) H { s with heap:=h₁,toks:=tk}:=by
 have sub:∀ y c,(clOf X.env scope.names).lookup y=some c->X.env.cells.lookup y=some c:=cl_sub scope.names [] (fun _ _ z=>by cases z)
 have has:∀ y,(y,NameKind.free) ∈ scope.names->∃ c,(clOf X.env scope.names).lookup y=some c:=fun y hy=>cl_has scope.names [] y (I.ok.has y (S.free _ hy rfl)) (.inr hy)
 have celK:∀ c v,s.heap.IsCell c v->h₁.IsCell c v:=fun c v ⟨o,ho,hd⟩=>⟨o,old c o ho,hd⟩
 have hlen:N.length=fr.length+1:=by
  have:=congrArg List.length S.nm
  simpa using this
 refine⟨⟨I.ok.mod,S.kind,I.ok.glob,I.ok.blt,Nat.le_refl _,fun y z c h1 h2=>I.ok.inj y z c (sub y c h1) (sub z c h2),fun y hy=>?_,fun y c hy _=>(by cases hy),I.ok.hd,I.ok.frames,.inl rfl,fun b hb=>⟨Nat.ne_of_lt (hfo b hb),fun y c e=>(hf b hb).2.2.2.2.1 y c (sub y c e)⟩,
  I.bs,Nat.le_trans I.ok.bsz I.sz,fun b o e hb=>?_,fun b hb hfs=>?_,I.stack,I.stkFree⟩,rfl,I.bare,Un.kept old,⟨_,hns,fun i y v e1 e2 e3=>?_⟩,fun y c e=>?_,I.hok.fresh (Nat.le_refl _),fun y c e=>I.freeC y c (sub y c e),fun p hp=>absurd (show p ∈ ([]:List (Addr × Obj)) from hp) (by simp),I.hok.kept old,?_⟩
 ·exact has y (PySem.mem_of_lookup (zdI S.ncell hy))
 ·rcases (hf b hb).2.2.2.1 with z | z
  ·exact I.ok.noex b o e z
  ·exact absurd (Nat.lt_of_lt_of_le (Heap.lt_size e) (Nat.le_trans I.ok.bsz z)) (Nat.lt_irrefl _)
 ·rcases List.mem_cons.mp (I.stkSub b hfs) with z | z
  ·exact(hf b hb).2.1 z
  ·exact(hf b hb).2.2.1 z
 ·cases i with
  | zero=>simp at e2
  | succ j=>
   have e1':N[j+1]? = some y:=e1
   have q1:(N.map some)[j+1]? = some (some y):=by rw[List.getElem?_map,e1'];rfl
   rw[S.nm,List.getElem?_cons_succ,List.getElem?_map] at q1
   have e2':(zd1 fr σ)[j]? = some (some v):=by simpa using e2
   unfold zd1 at e2'
   rw[List.getElem?_map] at e2'
   cases q:fr[j]? with
   | none=>rw[q] at q1;cases q1
   | some i'=>
    rw[q] at q1 e2'
    have n1:X.N[i']? = some y:=Option.some.inj q1
    have n2:(σ[i']?).join=some v:=Option.some.inj e2'
    have n3:σ[i']? = some (some v):=by
     cases q':σ[i']? with
     | none=>rw[q'] at n2;cases n2
     | some o=>rw[q'] at n2;rw[show o=some v from n2]
    have hy:y ∈ N.tail:=by
     have:N.tail[j]? = some y:=by rw[List.getElem?_tail];exact e1'
     exact List.mem_of_getElem? this
    have hfree:scope.names.lookup y=some .free:=zb3 (List.all_eq_true.mp S.nf y hy)
    have hk:=S.free _ (PySem.mem_of_lookup hfree) rfl
    obtain⟨m,hn,hl⟩:=I.loc
    obtain⟨u,r,l⟩:=hl i' y v n1 n3 (hk.elim (fun z=>.inr (.inl z)) fun z=>.inr (.inr z))
    refine⟨u,r,.inr ⟨zdK hfree,?_⟩⟩
    rcases l with ⟨k,_⟩ | ⟨k,c,ec,hc⟩
    ·rcases hk with z | z <;> (rw[show X.env.kindOf y=some .local from k] at z;cases z)
    ·obtain⟨c',ec'⟩:=has y (PySem.mem_of_lookup hfree)
     have:c'=c:=Option.some.inj ((sub y c' ec').symm.trans ec)
     rw[this] at ec'
     exact⟨c,ec',celK c _ hc⟩
 ·obtain⟨v,z⟩:=I.cell y c (sub y c e)
  exact⟨v,celK c v z⟩
 ·show(none :: zd1 fr σ).length=N.length
  rw[hlen]
  simp[zd1]
theorem zha{fp:List Addr}{σ':St}{pins':List (Addr × Obj)}{H':Hp}{s':Shared}{C:Addr}(I:Inv X pins σ H s)(hf:∀ b ∈ fp,zeD X pins H b)(J:Inv (cxC X N scope C s H fp) pins' σ' H' s'):Inv X pins σ H' s':=
 Inv.call' (ch:=fp) I J.os J.base J.hok J.bare fun b hb=>⟨(hf b hb).2.2.2.1,(hf b hb).2.1,(hf b hb).2.2.2.2.1,(hf b hb).2.2.2.2.2⟩
end
section
variable {X:Cx}{N:List Str}{fr:List Nat}{x:Str}{scope:Scope}{iter elt:Expr}{ifs:List Expr}{px pos:Pos}{wi:TI}{te:TE}{tt:TT}
theorem comp_core(S:CompSc X N fr x scope)(hc:X.calm=true)
  (ht:∀ (C:Addr) (s₀:Shared) (H₀:Hp) (fp:List Addr),PTs (cxC X N scope C s₀ H₀ fp) ifs tt) (he:∀ (C:Addr) (s₀:Shared) (H₀:Hp) (fp:List Addr),PE (cxC X N scope C s₀ H₀ fp) elt te)
  {pins:List (Addr × Obj)} {σ:St} {H3:Hp} {s3:Shared} {R:Addr->Hp->Prop} {RR:Value->Addr->Result->Shared->Prop} {it D:Addr} {fp:List Addr} {tn:Nat->Heap->Prop} {J:It} {h₁:Heap} {o₁:Obj} {tk:Nat} {W:Nat->Nat->List V->Hp->Prop}
  (I3:Inv X pins σ H3 s3) (T:Turn X.prog X.w X.K (.Name x px) J fp it tn) (st3:tn 0 s3.heap) (hf3:∀ b ∈ fp,zeD X pins H3 b) (hns₁:h₁.Ns s3.heap.objs.size fun y=>([]:List (Str × Value)).reverse.lookup y) (hsb₁:Heap.SameBut s3.heap.objs.size (s3.heap.push o₁) h₁)
  (w0:∃ m,W 0 m [] H3) (turn:∀ i m ys H,W i m ys H ->
   (J.stop i H/\R D H) \/ (J.go i H/\∀ x H',J.yld i H x H'->tt (some x :: zd1 fr σ) H' fun b H2=>
    if b=true then te (some x :: zd1 fr σ) H2 fun y H3=>H3 D=some (.lst ys)/\ys.length<sizeLine/\∃ m',m'<m/\W (i+1) m' (ys ++ [y]) (upd H3 D (.lst (ys ++ [y])))
    else ∃ m',m'<m/\W (i+1) m' ys H2))
  (hRR:∀ (D C:Addr) (H':Hp) (s':Shared) (m:Str->Option Value),s'.heap.Ns C m->C ≠ X.env.locals->H' C=none->X.s₀.heap.objs.size<=C->(∀ y c,X.env.cells.lookup y=some c->c ≠ C)->(∀ p ∈ X.pn ++ pins,p.1 ≠ C)->Inv X pins σ H' s'->R D H'->RR (.ref D) C (.ok .next) s') :
  codeAny (model X.prog X.w) X.A (.compStart (.ListComp elt [⟨.Name x px,iter,ifs,0⟩] scope pos) 0 (.ref it) (.ref D) (compEnvC scope (clOf X.env scope.names) s3.heap.objs.size X.env)) (RR (.ref D) s3.heap.objs.size) { s3 with heap:=h₁,toks:=tk}:=by
 obtain⟨m0,w0⟩:=w0
 have hfo3:∀ b ∈ fp,b<s3.heap.objs.size:=fun b hb=>by
  obtain⟨o,e,_⟩:=T.obj 0 _ st3 b hb
  exact Heap.lt_size e
 have old:∀ b o,s3.heap.get? b=some o->h₁.get? b=some o:=fun b o e=>hsb₁.extBut b o (Nat.ne_of_lt (Heap.lt_size e)) (Heap.get?_push_of_some _ e)
 have st1:tn 0 h₁:=T.keep 0 s3.heap h₁ st3 fun b hb o e=>old b o e
 have stat:∀ {pins':List (Addr × Obj)} {H':Hp},(∀ b ∈ fp,H' b=none)->(∀ b ∈ fp,∀ p ∈ pins',p.1 ≠ b)->∀ b ∈ fp,zeD (cxC X N scope s3.heap.objs.size s3 H3 fp) pins' H' b:=fun {pins' H'} hn hp b hb=>by
  refine⟨hn b hb,Nat.ne_of_lt (hfo3 b hb),fun z=>?_,.inl hb,fun y c e=>(hf3 b hb).2.2.2.2.1 y c (cl_sub scope.names [] (fun _ _ z=>by cases z) y c e),fun p hp'=>hp b hb p (by simpa [cxC] using hp')⟩
  rcases List.mem_cons.mp (I3.stkSub b z) with z | z
  ·exact(hf3 b hb).2.1 z
  ·exact(hf3 b hb).2.2.1 z
 have loop:∀ s4:Shared,Inv (cxC X N scope s3.heap.objs.size s3 H3 fp) [] (none :: zd1 fr σ) H3 s4->tn 0 s4.heap ->
   codeAny (model X.prog X.w) X.A (.compLoop (.ListComp elt [⟨.Name x px,iter,ifs,0⟩] scope pos) 0 (.ref it) (.ref D) (compEnvC scope (clOf X.env scope.names) s3.heap.objs.size X.env)) (RR (.ref D) s3.heap.objs.size) s4:=by
  intro s4 I4 st4
  refine codeAny_compLoop_tests (fun n s'=>∃ i ys H' v0,Inv (cxC X N scope s3.heap.objs.size s3 H3 fp) [] (v0 :: zd1 fr σ) H' s'/\tn i s'.heap/\(∀ b ∈ fp,H' b=none)/\W i n ys H') ?_ m0
   ⟨0,[],_,none,I4,st4,fun b hb=>(hf3 b hb).1,w0⟩
  rintro n s5 ⟨i,ys,H5,v0,I5,st5,fr5,w5⟩
  rcases turn i n ys H5 w5 with ⟨stop,qn⟩ | ⟨go,step⟩
  ·refine wpAny_mono (T.done (cxC X N scope s3.heap.objs.size s3 H3 fp) rfl rfl rfl hc i [] s5 _ H5 (fun _ _=>False) I5 (stat fr5 (by simp)) st5 stop) (fun r s6 hr6=>?_) fun _ _ z=>z.elim
   obtain⟨hr,I6⟩:=hr6
   subst hr
   obtain⟨m,hn,_⟩:=id I6.loc
   refine hRR _ _ H5 s6 m hn ?_ I6.free ?_ ?_ ?_ (zha I3 hf3 I6) qn
   ·exact Nat.ne_of_gt I3.lt
   ·exact I3.sz
   ·intro y c e z
    obtain⟨v,q⟩:=I3.cell y c e
    exact absurd q.lt (by rw[z];exact Nat.lt_irrefl _)
   ·intro p hp z
    exact absurd (Heap.lt_size (I3.pin p hp).1) (by rw[z];exact Nat.lt_irrefl _)
  ·refine wpAny_mono (T.item (cxC X N scope s3.heap.objs.size s3 H3 fp) rfl rfl rfl hc i [] s5 _ H5 (fun _ _=>False) I5 (stat fr5 (by simp)) st5 go) (fun r s6 hr6=>?_) fun _ _ z=>z.elim
   obtain⟨u,hr,h6⟩:=hr6
   subst hr
   show wpAny _ _ (assign (.Name x px) _ u) _ _ s6
   have el:∀ env:Env,(assign (.Name x px) env u)=(letOwnedTupleGo (.Name x px) (.ref it) u >>= fun _=>assign (.Name x px) env u):=fun env=>by
    rw[show letOwnedTupleGo (.Name x px) (.ref it) u=pure () from rfl,pure_bind]
   rw[el]
   refine wpAny_bind (wpAny_mono h6 (fun _ s7 h7=>?_) fun _ _ z=>z.elim)
   obtain⟨y,H7,I7,r7,y7,st7,fr7⟩:=h7
   have I7':=I7.pinned (stat fr7 (by simp)) (T.obj _ _ st7)
   have lx:(relabel scope X.env).names.lookup x=some .local:=lookup_relabel_local S.tg
   have hN0:N[0]? = some x:=by
    have:=congrArg (fun l=>l[0]?) S.nm
    simp only[List.getElem?_map,List.getElem?_cons_zero] at this
    cases q:N[0]? with
    | none=>rw[q] at this;cases this
    | some z=>rw[q] at this;exact Option.some.inj this
   refine wpAny_assign_Name (ze6 (i:=0) (v:=y) I7' S.nd hN0 (.inl lx) r7 (fun s8 I8=>?_) (.inr lx))
   have I8':Inv (cxC X N scope s3.heap.objs.size s3 H3 fp) ([] ++ zeA fp s7.heap) (some y :: zd1 fr σ) H7 s8:=I8
   refine wpAny_mono (ht _ _ _ _ _ s8 _ H7 _ I8' (step y H7 y7)) (fun ok s9 h9=>?_) fun _ _ z=>z.elim
   obtain⟨H9,I9,q9⟩:=h9
   have again:∀ {s':Shared} {H':Hp},Inv (cxC X N scope s3.heap.objs.size s3 H3 fp) ([] ++ zeA fp s7.heap) (some y :: zd1 fr σ) H' s' ->
     Inv (cxC X N scope s3.heap.objs.size s3 H3 fp) [] (some y :: zd1 fr σ) H' s'/\tn (i+1) s'.heap/\∀ b ∈ fp,H' b=none:=fun {s' H'} I'=>by
    refine⟨I'.unpinned,T.keep _ _ _ st7 fun b hb o e=>(I'.pin (b,o) (List.mem_append_right _ (List.mem_append_right _ (zcT hb e)))).1,fun b hb=>?_⟩
    obtain⟨o,e,d⟩:=T.obj _ _ st7 b hb
    exact(I'.pin (b,o) (List.mem_append_right _ (List.mem_append_right _ (zcT hb e)))).2.1
   cases ok with
   | false=>
    rw[if_neg Bool.false_ne_true] at q9 ⊢
    obtain⟨m',hm,w9⟩:=q9
    obtain⟨a1,a2,a3⟩:=again I9
    exact⟨m',hm,i+1,ys,H9,some y,a1,a2,a3,w9⟩
   | true=>
    rw[if_pos rfl] at q9 ⊢
    refine wpAny_mono (he _ _ _ _ _ s9 _ H9 _ I9 q9) (fun zv s10 h10=>?_) fun _ _ z=>z.elim
    obtain⟨z,H10,I10,rz,hz,hlt,m',hm,w10⟩:=h10
    refine wpAny_mono (zfV (X:=cxC X N scope s3.heap.objs.size s3 H3 fp) _ s10 _ H10 (.ref D) [z] (.ref D) [zv] (fun _ H'=>H'=upd H10 D (.lst (ys ++ [z]))) I10 rfl (.cons rz .nil)
     ⟨_,ys,z,rfl,rfl,hz,hlt,rfl⟩) (fun _ s11 h11=>?_) fun _ _ z=>z.elim
    obtain⟨_,H11,I11,_,e11⟩:=h11
    subst e11
    obtain⟨a1,a2,a3⟩:=again I11
    exact⟨m',hm,i+1,ys ++ [z],_,some y,a1,a2,a3,w10⟩
 have I4:=comp_inv S (tk:=tk) I3 hf3 hfo3 hns₁ old
 exact codeAny_compStart_list (loop _ I4 st1) (T.self _ 0 _ _ _ st1 (loop _ I4 st1))
theorem zgr(S:CompSc X N fr x scope)(hc:X.calm=true)
  (ht:∀ (C:Addr) (s₀:Shared) (H₀:Hp) (fp:List Addr),PTs (cxC X N scope C s₀ H₀ fp) ifs tt) (he:∀ (C:Addr) (s₀:Shared) (H₀:Hp) (fp:List Addr),PE (cxC X N scope C s₀ H₀ fp) elt te)
  {pins:List (Addr × Obj)} {σ:St} {H:Hp} {s:Shared} {R:Addr->Hp->Prop} {RR:Value->Addr->Result->Shared->Prop} {it:Addr} {fp:List Addr} {tn:Nat->Heap->Prop} {J:It} {E:Value->Shared->Prop}
  (I:Inv X pins σ H s) (T:Turn X.prog X.w X.K (.Name x px) J fp it tn) (st:tn 0 s.heap) (hf:∀ b ∈ fp,zeD X pins H b) (h:lcW fr tt te J σ H R)
  (hRR:∀ (D C:Addr) (H':Hp) (s':Shared) (m:Str->Option Value),s'.heap.Ns C m->C ≠ X.env.locals->H' C=none->X.s₀.heap.objs.size<=C->(∀ y c,X.env.cells.lookup y=some c->c ≠ C)->(∀ p ∈ X.pn ++ pins,p.1 ≠ C)->Inv X pins σ H' s'->R D H'->RR (.ref D) C (.ok .next) s') :
  wpAny (model X.prog X.w) X.A (newList []) (fun acc s₃=>wpAny (model X.prog X.w) X.A (newFunctionEnv scope X.env.globals (clOf X.env scope.names) [] X.env.qual none .none (some X.env)) (fun cenv s₄=>
   codeAny (model X.prog X.w) X.A (.compStart (.ListComp elt [⟨.Name x px,iter,ifs,0⟩] scope pos) 0 (.ref it) acc { cenv with scope:=relabel scope X.env}) (RR acc cenv.locals) s₄) E s₃) E s:=by
 refine wpAny_newObj_type (wpAny_newFunctionEnv S.ncell (by intro y hy;simp at hy) (fun h₁ hns₁ hsb₁=>?_) S.kind)
 have hD:H s.heap.objs.size=none:=I.hok.fresh (Nat.le_refl _)
 obtain⟨W,w0,turn⟩:=h _ hD
 have I3:Inv X pins σ (upd H s.heap.objs.size (.lst [])) { s with heap:=s.heap.push { cls:=.type "list",dict:=none,data:=.seq ([]:List Value).toArray}}:=
  I.laid (t':=s.toks) (fun b o e=>Heap.get?_push_of_some _ e) (Nat.le_refl _) ⟨Nat.zero_le _,[],_,.nil,Heap.get?_push_size _ rfl⟩
 have hfo:∀ b ∈ fp,b<s.heap.objs.size:=fun b hb=>by
  obtain⟨o,e,_⟩:=T.obj 0 _ st b hb
  exact Heap.lt_size e
 have hf3:∀ b ∈ fp,zeD X pins (upd H s.heap.objs.size (.lst [])) b:=fun b hb=>by
  obtain⟨f0,f1⟩:=hf b hb
  exact⟨by rw[zah (Nat.ne_of_lt (hfo b hb))];exact f0,f1⟩
 exact comp_core S hc ht he I3 T (T.keep 0 s.heap _ st fun b hb o e=>Heap.get?_push_of_some _ e) hf3 hns₁ hsb₁ w0 turn hRR
theorem CompSc.clos(S:CompSc X N fr x scope){pins:List (Addr × Obj)}{σ:St}{H:Hp}{s:Shared}(I:Inv X pins σ H s):closureFor scope X.env=pure (clOf X.env scope.names):=
 zho fun y hy e=>I.ok.has y.1 (S.free y hy e)
theorem pe_lc(S:CompSc X N fr x scope)(hc:X.calm=true)(hi:PI X (.Name x px) iter wi)
  (ht:∀ (C:Addr) (s₀:Shared) (H₀:Hp) (fp:List Addr),PTs (cxC X N scope C s₀ H₀ fp) ifs tt) (he:∀ (C:Addr) (s₀:Shared) (H₀:Hp) (fp:List Addr),PE (cxC X N scope C s₀ H₀ fp) elt te)
  (hs:∀ z,foldedSetIterable iter X.env z=pure z:=by intro _;rfl):PE X (.ListComp elt [⟨.Name x px,iter,ifs,0⟩] scope pos) (tLC fr wi tt te):=by
 intro pins s σ H Q I h
 rw[eval_ListComp]
 refine wpAny_comprehension_free (use:=none) (cl:=clOf X.env scope.names) rfl hs (S.clos I) S.kind S.loc (thn (hi pins s σ H _ I h) fun xv s1 h1=>thn h1 fun itv s2 h2=>?_)
 obtain⟨it,fp,tn,J,H2,e,I2,T,st2,f2,q⟩:=h2
 subst e
 refine zgr (RR:=fun acc C=>compPost (model X.prog X.w) X.A X.xe none (EP X pins σ Q) acc C) S hc ht he I2 T st2 f2 q ?_
 intro D C H' s' m hn c1 c2 c3 c4 c5 I' r
 refine⟨m,hn,fun h' hsb=>⟨.ref D,H',?_,rfl,r⟩⟩
 exact I'.turned (t':=s'.toks) (fun b o hb e=>(hsb.2 b hb).trans e) c2 c1 (.inr c3) c4 c5
theorem ps_setlc{i:Nat}{y:Str}{py spos:Pos}(hN:X.N.Nodup)(hi':X.N[i]? = some y)(hy:Loc X.env.scope y)(S:CompSc X N fr x scope)(hc:X.calm=true)(hi:PI X (.Name x px) iter wi)
  (ht:∀ (C:Addr) (s₀:Shared) (H₀:Hp) (fp:List Addr),PTs (cxC X N scope C s₀ H₀ fp) ifs tt) (he:∀ (C:Addr) (s₀:Shared) (H₀:Hp) (fp:List Addr),PE (cxC X N scope C s₀ H₀ fp) elt te)
  (hsw:swapsWith (.ListComp elt [⟨.Name x px,iter,ifs,0⟩] scope pos) (some (.Name y py)) spos.line X.env=pure true:=by rfl)
  (hs:∀ z,foldedSetIterable iter X.env z=pure z:=by intro _;rfl)
  (hf:X.fn y=true \/ X.env.scope.names.lookup y=some .local:=by first | exact .inl rfl | exact .inr rfl | assumption) :
  PS X (.Assign [.Name y py] (.ListComp elt [⟨.Name x px,iter,ifs,0⟩] scope pos) spos) (zdS (tLC fr wi tt te) (zbJ i)):=by
 intro pins s σ H D I h
 rw[exec_Assign_Name_used _ _ _ _ hsw]
 refine wpAny_bind (wpAny_standAt (wpAny_bind ?_))
 show wpAny _ X.A (do let _ <- comprehension (.ListComp elt [⟨.Name x px,iter,ifs,0⟩] scope pos) scope X.env _ (newList []) false (eval iter X.env) (some (assign (.Name y py) X.env))) _ _ s
 refine wpAny_bind (wpAny_mono (wpAny_comprehension_free (use:=some (assign (.Name y py) X.env)) (cl:=clOf X.env scope.names) (Q:=fun _ s'=>SP X pins D .next s') rfl hs (S.clos I) S.kind S.loc
  (thn (hi pins s σ H _ I h) fun xv s1 h1=>thn h1 fun itv s2 h2=>?_)) (fun _ s' hq=>wpAny_pure (wpAny_pure hq)) fun _ _ e=>e)
 obtain⟨it,fp,tn,J,H2,e,I2,T,st2,f2,q⟩:=h2
 subst e
 refine zgr (RR:=fun acc C=>compPost (model X.prog X.w) X.A X.xe (some (assign (.Name y py) X.env)) (fun _ s'=>SP X pins D .next s') acc C) S hc ht he I2 T st2 f2 q ?_
 intro D' C H' s' m hn c1 c2 c3 c4 c5 I' r
 show wpAny _ _ (assign (.Name y py) X.env (.ref D')) _ _ s'
 refine wpAny_assign_Name (zfr (v:=.ref D') I' hN hi' hy rfl (fun s'' I'' hc'=>?_) hf)
 obtain⟨c,hsb,hcc⟩:=hc'
 have hne:C ≠ c:=by
  rcases hcc with z | z
  ·rw[z];exact c1
  ·exact fun e=>c4 y c z e.symm
 refine⟨m,hn.sameBut hsb hne,fun h' hsb'=>⟨_,H',?_,r⟩⟩
 exact I''.turned (t':=s''.toks) (fun b o hb e=>(hsb'.2 b hb).trans e) c2 c1 (.inr c3) c4 c5
end
end L2

namespace L2
open PySem PySem.Spec PyProof.Rows
theorem Same.alloc{H:Hp}{p:Addr}{o:HO}(h:H p=none):Same H (upd H p o):=fun b u e=>by rw[zah (zaL e h)];exact e
section
variable {X:Cx}
noncomputable def rIsi(K:PySem.W.Frag):List V->Hp->VK->Prop:=fun xs H Q=>∃ x n t b,xs=[x,.ty n]/\TyOf K H x t/\PySem.W.kitOne K t (.type n)=some b/\Q (.bl b) H
theorem call_isi:zdh X (.builtin "isinstance") (rIsi X.K):=by
 intro pins s σ H xs us Q I r h
 obtain⟨x,n,t,b,rfl,ty,e,q⟩:=h
 obtain⟨u,w',rfl,rx,ry⟩:=vals2 r
 cases (show w'=Value.type n from ry)
 exact isinst_ok I rx ty e fun tk=>⟨.bl b,H,I.tok tk,rfl,q⟩
end
theorem pe_gl{X:Cx}{x:Str}{v:V}{pos:Pos}(hg:Gl X x)(h:∃ u,X.mg x=some u/\RelV v u)(hd:(x == ("__debug__" : Str))=false:=by decide):PE X (.Name x pos) (tC v):=by
 obtain⟨u,hm,r⟩:=h
 exact pe_glob hg hm r hd
end L2
namespace HT
open PySem PyProof.Rows
section
variable {prog:Program}{w:World}{A:Around}{E:Value->Shared->Prop}{s:Shared}
end
end HT
namespace L2
open PySem PySem.Spec PyProof.Rows
section
variable {X:Cx}
end
end L2
namespace L2
open PySem PySem.Spec PyProof.Rows
section
variable {X:Cx}{pins:List (Addr × Obj)}{σ:St}{H:Hp}{s:Shared}{pos:Pos}
theorem Inv.big(I:Inv X pins σ H s):sysModules<s.heap.objs.size:=by
 have h:mainGlobals<s.heap.objs.size:=(I.mod.glob.keeps I.bk).lt
 exact Nat.lt_trans (by decide) h
theorem dk_empty{P:Program}{w:World}{H:Hp}(h:Heap)(hb:sysModules<h.objs.size):ObjOk P w H (h.push { cls:=.type "dict",data:=.dict #[]}) h.objs.size (.dK []):=
 ⟨Nat.zero_le _,beq_eq_false_iff_ne.mpr (Ne.symm (Nat.ne_of_lt hb)),[],.nil,Heap.DictOf.new h⟩
noncomputable def tDNewK:TE:=fun _ H Q=>∀ p,H p=none->Q (.ref p) (upd H p (.dK []))
theorem zgN:PE X (.Dict [] [] pos) tDNewK:=fun pins s σ H Q I h=>
 wpAny_Dict_empty ⟨.ref s.heap.objs.size,_,I.laid (a:=s.heap.objs.size) (o:=.dK []) (t':=s.toks) (fun _ _ q=>Heap.get?_push_of_some _ q) (Nat.le_refl _) (dk_empty s.heap I.big),rfl,h _ (I.hok.fresh (Nat.le_refl _))⟩
end
end L2

namespace L2
open PySem PySem.Spec PyProof.Rows
noncomputable def zap:Expr->Bool
 | .Starred _ _=>false
 | _=>true
theorem zan{e:Expr}{es:List Expr}{env:Env}(h:zap e=true):starEach (e :: es) env=(false,eval e env) :: starEach es env:=by
 cases e <;> first | rfl | (exact absurd h (by decide)) | (cases h)
theorem zci{env:Env}{pos:Pos}:∀ {es:List Expr},es.all zap=true->(backTo pos (starEach es env)).any (·.1)=false
 | [],_=>rfl
 | e :: es,h=>by
  rw[List.all_cons,Bool.and_eq_true] at h
  rw[zan h.1]
  show(false || (backTo pos (starEach es env)).any (·.1))=false
  rw[zci h.2]
  rfl
theorem zgD{env:Env}{pos:Pos}:∀ {es:List Expr},es.all zap=true->(backTo pos (starEach es env)).all (fun x=>!x.1)=true
 | [],_=>rfl
 | e :: es,h=>by
  rw[List.all_cons,Bool.and_eq_true] at h
  rw[zan h.1]
  show(true && (backTo pos (starEach es env)).all (fun x=>!x.1))=true
  rw[zgD h.2]
  rfl
section
variable {X:Cx}{e o:Expr}{es:List Expr}{te to:TE}{t:TA}{x:Str}{p pos:Pos}
structure Def(K:PySem.W.Frag)(mg:Str->Option Value)(x:Str)(st:Stmt)(ps:List Str)(f:Addr)(fd:FuncData):Prop where
 fn:Fun K x x st f fd
 mg:mg x=some (.ref f)
 b:Binds K fd ps []
theorem pbm{T id:String}{name:Str}{apos cpos:Pos}{r:V->List V->Hp->VK->Prop}(pa:PlainAttrs T)(slot:Slot T name id)(hty:typeOf (.builtin id)=pure (.type "method_descriptor"))(hm:MtR X id r)(ho:PE X o to)(ha:PA X (e :: es) t)
  (hbase:attributeBase o name X.env (eval o X.env)=eval o X.env:=by rfl) (hl:decide ((e :: es).length+0+0<30)=true:=by rfl) (hline:(apos.endLine == cpos.line)=true:=by rfl)
  (h1:zap e=true:=by rfl) (h2:es.all zap=true:=by rfl):PE X (.Call (.Attribute o name apos) (e :: es) [] cpos) (tBM X.K T r to t):=by
 refine pe_bm pa slot hty hm ho ha hbase ?_ hline (zan h1) (zci h2)
 rw[zgD (es:=e :: es) (by rw[List.all_cons,h1,h2];rfl)]
 exact hl
end
end L2

namespace L2
open PySem PySem.Spec PyProof.Rows
structure WE(X:Cx)(e:Expr)(t:TE):Prop where
 h:PE X e t
structure WT(X:Cx)(e:Expr)(t:TT):Prop where
 h:PT X e t
structure WW(X:Cx)(e:Expr)(t:TT):Prop where
 h:PW X e t
structure WA(X:Cx)(es:List Expr)(t:TA):Prop where
 h:PA X es t
structure WS(X:Cx)(s:Stmt)(t:TS):Prop where
 h:PS X s t
structure WSs(X:Cx)(s:List Stmt)(t:TS):Prop where
 h:PSs X s t
structure WI(X:Cx)(tg e:Expr)(t:TI):Prop where
 h:PI X tg e t
structure WG(X:Cx)(e:Expr)(t:TG):Prop where
 h:PG X e t
structure WGs(X:Cx)(es:List Expr)(t:TGs):Prop where
 h:PGs X es t
structure WO(X:Cx)(e:Option Expr)(t:TO):Prop where
 h:PO X e t
structure WTs(X:Cx)(es:List Expr)(t:TT):Prop where
 h:PTs X es t
section
variable {X:Cx}{a b c e o:Expr}{es rest:List Expr}{pos pos' p p2:Pos}{ta tb tc te to:TE}{tA tB':TT}{t:TA}{x:Str}{r r':R2}
theorem wv(i:Nat)(hN:X.N[i]? = some x:=by rfl)(hv:Vis X.env.scope x:=by first | exact Or.inl rfl | exact Or.inr (Or.inl rfl) | exact Or.inr (Or.inr rfl))(hd:(x == ("__debug__" : Str))=false:=by decide)
  (hcd:(x == ("__classdict__" : Str))=false:=by decide):WE X (.Name x pos) (zb0 i):=⟨pe_var hN hv hd hcd⟩
theorem wint{i:Int}{j:Nat}:WE X (.Constant (.int i) j pos) (tC (.int i)):=⟨pe_int⟩
theorem wbl{i:Bool}{j:Nat}:WE X (.Constant (.bool i) j pos) (tC (.bl i)):=⟨pe_bl⟩
theorem wnon{j:Nat}:WE X (.Constant .none j pos) (tC .non):=⟨pe_non⟩
theorem wstr{i:Str}{j:Nat}:WE X (.Constant (.str i) j pos) (tC (.str i)):=⟨pe_str⟩
theorem wgl{v:V}(hg:Gl X x)(h:∃ u,X.mg x=some u/\RelV v u)(hd:(x == ("__debug__" : Str))=false:=by decide):WE X (.Name x pos) (tC v):=⟨pe_gl hg h hd⟩
theorem wbt{n:String}(hg:Gl X x)(hm:X.mg x=none)(hv:bootBuiltins x=some (.type n))(hn:x ≠ "__name__" :=by decide)(hd:(x == ("__debug__" : Str))=false:=by decide):WE X (.Name x pos) (tC (.ty n)):=⟨pe_bltn (v:=.ty n) hg hm hv rfl hn hd⟩
theorem wop{op:Operator}(ho:OpR X (binaryOp op) r)(ha:WE X a ta)(hb:WE X b tb):WE X (.BinOp a op b pos) (tOp r ta tb):=⟨pe_op ho ha.h hb.h⟩
theorem wun{op:UnaryOp}{q:V->Hp->VK->Prop}(ho:UnR X (unaryOp op) q)(ha:WE X a ta):WE X (.UnaryOp op a pos) (tUn q ta):=⟨pe_un ho ha.h⟩
theorem wcmp{op:CmpOp}(ho:OpR X (compareOp op) r)(ha:WE X a ta)(hb:WE X b tb)(hm:behindInMarks op b=false):WE X (.Compare a [op] [b] pos) (tOp r ta tb):=⟨pe_cmpR ho ha.h hb.h hm⟩
theorem wone{op:BoolOp}(h:WE X a ta):WE X (.BoolOp op [a] pos) ta:=⟨pe_one h.h⟩
theorem wand(ha:WE X a ta)(hb:WE X (.BoolOp .And (b :: rest) pos) tb):WE X (.BoolOp .And (a :: b :: rest) pos) (zfx ta tb):=⟨pe_and ha.h hb.h⟩
theorem wnotV(ha:WE X a ta):WE X (.UnaryOp .Not a pos) (tNotV ta):=⟨pe_not ha.h⟩
theorem wif(hc:WT X c tA)(ha:WE X a ta)(hb:WE X b tb):WE X (.IfExp c a b pos) (tIf tA ta tb):=⟨pe_ifExp hc.h ha.h hb.h⟩
theorem wtup{x1:Nat}(h:WA X es t):WE X (.Tuple es x1 pos) (tTup t):=⟨pe_tup h.h⟩
theorem wlst(h:WA X es t):WE X (.List es pos) (tLst t):=⟨pe_lst h.h⟩
theorem wdnew:WE X (.Dict [] [] pos) tDNewK:=⟨zgN⟩
theorem wix{r:R2}(hr:IxR X r)(ha:WE X a ta)(hb:WE X b tb)(hs:zc6 b):WE X (.Subscript a b pos) (tOp r ta tb):=⟨pe_ix hr ha.h hb.h hs⟩
theorem wslice{lo hi:Option Expr}{tl th:TO}{r:V->Option Int->Option Int->Hp->VK->Prop}(hr:SlR X r)(he:WE X e te)(hl:WO X lo tl)(hu:WO X hi th):WE X (.Subscript e (.Slice lo hi none p2) pos) (tSl r te tl th):=⟨pe_slice hr he.h hl.h hu.h⟩
theorem zg4:WA X [] zfi:=⟨pa_nil⟩
theorem wac(ha:WE X e te)(hr:WA X es t)(h:zap e=true:=by rfl):WA X (e :: es) (zcL te t):=⟨zgm ha.h hr.h (zan h)⟩
theorem won:WO X none tNoPart:=⟨po_none⟩
theorem wos(h:WE X e te):WO X (some e) (tPart te):=⟨po_some h.h⟩
theorem wcb{id:String}{r:List V->Hp->VK->Prop}(hc:zdh X (.builtin id) r)(hg:Gl X x)(hm:X.mg x=none)(hv:bootBuiltins x=some (.builtin id))(ha:WA X (e :: es) t)(hn:x ≠ "__name__" :=by decide)(hdb:(x == ("__debug__" : Str))=false:=by decide)
  (h1:zap e=true:=by rfl) (h2:es.all zap=true:=by rfl):WE X (.Call (.Name x p) (e :: es) [] pos) (tCB r t):=⟨pe_callB hc hg hm hv ha.h hn hdb (zan h1) (zci h2)⟩
theorem wct{T:String}{r:List V->Hp->VK->Prop}(hc:zdh X (.type T) r)(hg:Gl X x)(hm:X.mg x=none)(hv:bootBuiltins x=some (.type T))(ha:WA X (e :: es) t)(hn:x ≠ "__name__" :=by decide)(hdb:(x == ("__debug__" : Str))=false:=by decide)
  (h1:zap e=true:=by rfl) (h2:es.all zap=true:=by rfl):WE X (.Call (.Name x p) (e :: es) [] pos) (tCB r t):=⟨pe_callTy hc hg hm hv ha.h hn hdb (zan h1) (zci h2)⟩
theorem wcl{CX:CXT}{k j:Nat}{f:Addr}{fd:FuncData}{ps:List Str}{sp:Sp}{st:Stmt}{E:XK}(F:FnOk X.prog X.w X.K X.mg X.base CX k f fd ps sp)(D:Def X.K X.mg x st ps f fd)(hr:Room j X.A)(hg:Gl X x)(hx:zbL CX X E)
  (ha:WA X (e :: es) t) (hjk:k<=j:=by decide) (hdb:(x == ("__debug__" : Str))=false:=by decide) (h1:zap e=true:=by rfl) (h2:es.all zap=true:=by rfl) :
  WE X (.Call (.Name x p) (e :: es) [] pos) (zdl sp [] E t):=⟨pe_call F (hr.mono hjk) hg D.mg D.fn.kp D.b .nil hx ha.h hdb (zan h1) (zci h2)⟩
theorem wbm{T id:String}{name:Str}{apos cpos:Pos}{r:V->List V->Hp->VK->Prop}(pa:PlainAttrs T)(slot:Slot T name id)(hty:typeOf (.builtin id)=pure (.type "method_descriptor"))(hm:MtR X id r)(ho:WE X o to)(ha:WA X (e :: es) t)
  (hbase:attributeBase o name X.env (eval o X.env)=eval o X.env:=by rfl) (hl:decide ((e :: es).length+0+0<30)=true:=by rfl) (hline:(apos.endLine == cpos.line)=true:=by rfl)
  (h1:zap e=true:=by rfl) (h2:es.all zap=true:=by rfl):WE X (.Call (.Attribute o name apos) (e :: es) [] cpos) (tBM X.K T r to t):=⟨pbm pa slot hty hm ho.h ha.h hbase hl hline h1 h2⟩
theorem tcmp{op:CmpOp}(ho:OpR X (compareOp op) r)(ha:WE X a ta)(hb:WE X b tb)(hm:behindInMarks op b=false):WT X (.Compare a [op] [b] pos) (zeh (tOp r ta tb)):=⟨pt_cmpR ho ha.h hb.h hm⟩
theorem tand1(ha:WT X a tA):WW X (.BoolOp .And [a] pos) tA:=⟨pw_and1 ha.h⟩
theorem tor1(ha:WT X a tA):WW X (.BoolOp .Or [a] pos) tA:=⟨pw_or1 ha.h⟩
theorem tand(ha:WT X a tA)(hb:WW X (.BoolOp .And (b :: rest) pos) tB'):WW X (.BoolOp .And (a :: b :: rest) pos) (tAnd tA tB'):=⟨pw_and ha.h hb.h⟩
theorem tor(ha:WT X a tA)(hb:WW X (.BoolOp .Or (b :: rest) pos) tB'):WW X (.BoolOp .Or (a :: b :: rest) pos) (tOr tA tB'):=⟨pw_or ha.h hb.h⟩
theorem tw(h:WW X a tA):WT X a tA:=⟨h.h.pt⟩
theorem tnot(ha:WT X a tA):WT X (.UnaryOp .Not a pos) (tNot tA):=⟨pt_not ha.h⟩
theorem tval(h:WE X e te)(he:∀ whole,isTrue e X.env whole=(do let v <- whole;standAt e.pos;holding [v] (truthy v)):=by intro _;rfl):WT X e (tB te):=⟨pt_val h.h he⟩
theorem ifs0:WTs X [] tNoIf:=⟨pts_nil⟩
theorem ifs1(h:WT X c tA):WTs X [c] tA:=⟨pts_one h.h⟩
end
section
variable {X:Cx}{e c tg iter:Expr}{es:List Expr}{pos pos' p:Pos}{te:TE}{tc:TT}{ta:TA}{x:Str}{st:Stmt}{sr body els:List Stmt}{t u tb:TS}{wi:TI}{g:TG}{gs:TGs}
theorem il(h:WE X e te):WI X tg e (iList X.K te):=⟨pi_list h.h⟩
theorem it(h:WE X e te):WI X tg e (iTup X.K te):=⟨pi_tup h.h⟩
theorem ir1(hg:Gl X "range")(hm:X.mg "range" = none)(ha:WA X [e] ta)(h1:zap e=true:=by rfl):WI X tg (.Call (.Name "range" p) [e] [] pos) (iRng1 ta):=⟨pi_range1 hg hm ha.h (zan h1)⟩
theorem ir2{b:Expr}(hg:Gl X "range")(hm:X.mg "range" = none)(ha:WA X [e,b] ta)(h1:zap e=true:=by rfl)(h2:zap b=true:=by rfl):WI X tg (.Call (.Name "range" p) [e,b] [] pos) (iRng2 ta):=⟨pi_range2 hg hm ha.h (by rw[zan h1,zan h2];rfl) (by rw[zan h2];rfl)⟩
theorem gn{i:Nat}(hN:X.N.Nodup)(hi:X.N[i]? = some x)(hx:Loc X.env.scope x)(hf:X.fn x=true \/ X.env.scope.names.lookup x=some .local:=by first | exact .inl rfl | exact .inr rfl | assumption):WG X (.Name x pos) (zbJ i):=⟨pg_name hN hi hx hf⟩
theorem gs0:WGs X [] gNil:=⟨pgs_nil⟩
theorem gs1(h1:WG X e g)(h2:WGs X es gs)(hs:(assignEach (e :: es) X.env).map (·.2)=assign e X.env :: (assignEach es X.env).map (·.2):=by rfl):WGs X (e :: es) (zfC g gs):=⟨pgs_cons h1.h h2.h hs⟩
theorem gt{k n:Nat}(hc:X.calm=true)(h:WGs X es gs)(hn:(assignEach es X.env).length=n:=by rfl)(hst:(assignEach es X.env).findIdx? (·.1)=none:=by rfl):WG X (.Tuple es k pos) (gTup X.K n gs):=⟨pg_tup hc h.h hn hst⟩
theorem s0:WSs X [] zdv:=⟨pss_nil⟩
theorem sc(h1:WS X st t)(h2:WSs X sr u):WSs X (st :: sr) (zfb t u):=⟨pss_cons h1.h h2.h⟩
theorem s1(h1:WS X st t):WSs X [st] t:=⟨pss_one h1.h⟩
theorem ssn:WSs X sr tNever:=⟨pss_never⟩
theorem sex(he:WE X e te)(hs:swapsWith e none pos.line X.env=pure false:=by rfl):WS X (.Expr e pos) (tDrop te):=⟨ps_expr he.h hs⟩
theorem sret(he:WE X e te):WS X (.Return (some e) pos) (zhr te):=⟨ps_ret he.h⟩
theorem sif(hc:WT X c tc)(ha:WSs X body t)(hb:WSs X els u):WS X (.If c body els pos) (zgL tc t u):=⟨ps_if hc.h ha.h hb.h⟩
theorem sset{i:Nat}(hN:X.N.Nodup)(hi:X.N[i]? = some x)(hx:Loc X.env.scope x)(he:WE X e te)(hs:swapsWith e (some (.Name x pos')) pos.line X.env=pure false:=by rfl)(hf:X.fn x=true \/ X.env.scope.names.lookup x=some .local:=by first | exact .inl rfl | exact .inr rfl | assumption) :
  WS X (.Assign [.Name x pos'] e pos) (zdS te (zbJ i)):=⟨ps_set hN hi hx he.h hs hf⟩
theorem sasg(he:WE X e te)(hg:WG X tg g)(hs:swapsWithSole [tg] e pos.line X.env=pure false:=by rfl)(hw:swappedStores [tg] e X.env=pure none:=by rfl)(h1:(assignEach [tg] X.env).map (·.2)=[assign tg X.env]:=by rfl):WS X (.Assign [tg] e pos) (zdS te g):=⟨ps_asg he.h hg.h hs hw h1⟩
theorem sfor(hp:PassesOwn (model X.prog X.w) X.A X.env X.xe)(hc:X.calm=true)(hi:WI X tg iter wi)(hg:WG X tg g)(hb:WSs X body tb)(hs:∀ z,foldedSetIterable iter X.env z=pure z:=by intro _;rfl):WS X (.For tg iter body [] pos) (tFor wi g tb):=⟨ps_for hp hc hi.h hg.h hb.h hs⟩
theorem swhile(hp:PassesOwn (model X.prog X.w) X.A X.env X.xe)(hc:WT X c tc)(hb:WSs X body tb):WS X (.While c body [] pos) (zgy tc tb):=⟨ps_while hp hc.h hb.h⟩
end
section
variable {X:Cx}{N:List Str}{fr:List Nat}{x:Str}{scope:Scope}{iter elt:Expr}{ifs:List Expr}{px pos:Pos}{wi:TI}{te:TE}{tt:TT}
theorem wlc(S:CompSc X N fr x scope)(hc:X.calm=true)(hi:WI X (.Name x px) iter wi)
  (ht:∀ (C:Addr) (s₀:Shared) (H₀:Hp) (fp:List Addr),WTs (cxC X N scope C s₀ H₀ fp) ifs tt) (he:∀ (C:Addr) (s₀:Shared) (H₀:Hp) (fp:List Addr),WE (cxC X N scope C s₀ H₀ fp) elt te)
  (hs:∀ z,foldedSetIterable iter X.env z=pure z:=by intro _;rfl):WE X (.ListComp elt [⟨.Name x px,iter,ifs,0⟩] scope pos) (tLC fr wi tt te):=⟨pe_lc S hc hi.h (fun C s₀ H₀ fp=>(ht C s₀ H₀ fp).h) (fun C s₀ H₀ fp=>(he C s₀ H₀ fp).h) hs⟩
theorem ssetlc{i:Nat}{y:Str}{py spos:Pos}(hN:X.N.Nodup)(hi':X.N[i]? = some y)(hy:Loc X.env.scope y)(S:CompSc X N fr x scope)(hc:X.calm=true)(hi:WI X (.Name x px) iter wi)
  (ht:∀ (C:Addr) (s₀:Shared) (H₀:Hp) (fp:List Addr),WTs (cxC X N scope C s₀ H₀ fp) ifs tt) (he:∀ (C:Addr) (s₀:Shared) (H₀:Hp) (fp:List Addr),WE (cxC X N scope C s₀ H₀ fp) elt te)
  (hsw:swapsWith (.ListComp elt [⟨.Name x px,iter,ifs,0⟩] scope pos) (some (.Name y py)) spos.line X.env=pure true:=by rfl)
  (hs:∀ z,foldedSetIterable iter X.env z=pure z:=by intro _;rfl)
  (hf:X.fn y=true \/ X.env.scope.names.lookup y=some .local:=by first | exact .inl rfl | exact .inr rfl | assumption) :
  WS X (.Assign [.Name y py] (.ListComp elt [⟨.Name x px,iter,ifs,0⟩] scope pos) spos) (zdS (tLC fr wi tt te) (zbJ i)):=
 ⟨ps_setlc hN hi' hy S hc hi.h (fun C s₀ H₀ fp=>(ht C s₀ H₀ fp).h) (fun C s₀ H₀ fp=>(he C s₀ H₀ fp).h) hsw hs hf⟩
end
end L2

set_option maxRecDepth 100000
set_option maxHeartbeats 4000000
namespace L2
open PySem PySem.Spec PyProof.Rows
noncomputable def knO(l:Addr)(o:Obj):HO:=.ext fun h=>h.get? l=some o
noncomputable def kBk:Value->Key
 | .int i _=>.inl i
 | .str x _=>.inr x
 | _=>.inl 0
theorem kBk_is{k:Key}{v:Value}(h:zhk k v=true):kBk v=k:=by
 rcases zaO h with ⟨i,t,rfl,rfl⟩ | ⟨x,t,rfl,rfl⟩ <;> rfl
noncomputable def vBk:Value->V
 | .bool b=>.bl b
 | .int i _=>.int i
 | .str x _=>.str x
 | .bytes b _=>.byt b
 | .float b _=>.flt b
 | .ref a=>.ref a
 | .type n=>.ty n
 | _=>.non
theorem vBk_rel{v:V}{u:Value}(h:RelV v u):vBk u=v:=by
 cases v <;> first | (cases h;rfl) | (obtain⟨_,rfl⟩:=h;rfl)
noncomputable def DiD(l:Addr)(o:Obj)(kvs:List (Key × V)):Prop:=(l == sysModules)=false/\kvs.length<=sizeLine /\
 ∃ (P:Program) (w:World) (es:Array DictEntry) (ep:Nat) (us:List (Key × Value)),o.ExactDict/\o.data=.dict es ep/\PySem.KeysOf (zb9 P w) es/\Pairs (zb9 P w) es.toList us/\(us.map (·.1)).Nodup/\KV kvs us
theorem ze5{kvs:List (Key × V)}{us:List (Key × Value)}(r:KV kvs us):kvs=us.map fun p=>(p.1,vBk p.2):=by
 unfold KV at r
 induction r with
 | nil=>rfl
 | cons h _ ih=>rw[List.map_cons,<- ih,<- h.1,vBk_rel h.2]
theorem zdu{P:Program}{w:World}{es:List DictEntry}{us:List (Key × Value)}(r:Pairs (zb9 P w) es us):us=es.map fun e=>(kBk e.key,e.val):=by
 induction r with
 | nil=>rfl
 | cons h1 h2 _ ih=>rw[List.map_cons,<- ih,kBk_is h1,h2]
theorem DiD.inj{l:Addr}{o:Obj}{kvs kvs':List (Key × V)}(h:DiD l o kvs)(h':DiD l o kvs'):kvs=kvs':=by
 obtain⟨_,_,P,w,es,ep,us,_,h1,_,h2,_,h3⟩:=h
 obtain⟨_,_,P',w',es',ep',us',_,h1',_,h2',_,h3'⟩:=h'
 rw[h1] at h1'
 cases h1'
 rw[ze5 h3,ze5 h3',zdu h2,zdu h2']
theorem knO_inj{l:Addr}{o o':Obj}{kvs:List (Key × V)}(h:knO l o=knO l o')(d:DiD l o kvs):o=o':=by
 obtain⟨_,_,_,_,es,ep,_,_,h1,_⟩:=d
 have g:=Heap.get?_push_size ⟨Array.replicate l o,{}⟩ (o:=o) (by cases o;cases h1;rfl)
 rw[show(⟨Array.replicate l o,{}⟩:Heap).objs.size=l from Array.size_replicate] at g
 have z:=congrFun (HO.ext.inj h) ((⟨Array.replicate l o,{}⟩:Heap).push o)
 exact Option.some.inj (g.symm.trans (z.mp g))
end L2

namespace L3
open PySem PySem.Spec PyProof.Rows L2
inductive D where
 | non | bl (b:Bool) | int (i:Int) | str (x:Str) | tup (l:List D) | lst (l:List D) | dic (ks:List Str) (l:List D) | ins (C:Addr) (ns:List Str) (l:List D) | dcI (ks:List Int) (l:List D) | dcS (ks:List Str) (l:List D)
inductive OT where
 | val (d:D) | lst (l:List D) | ins (c:Str) (ns:List Str) (l:List OT) | dcI (ks:List Int) (l:List OT) | dcS (ks:List Str) (l:List OT) | los (l:List OT)
inductive Ent where
 | val (d:D) | own (l:List D) | bor (l:List D) | vw (l:List D) | obj (o:OT) | bt (l:List D)
noncomputable abbrev En:=List (Option Ent)
noncomputable abbrev Sg:=L2.St
mutual
inductive Rep(F:Hp):V->D->Prop
 | non:Rep F .non .non
 | bl (b:Bool):Rep F (.bl b) (.bl b)
 | int (i:Int):Rep F (.int i) (.int i)
 | str (x:Str):Rep F (.str x) (.str x)
 | tup {a:Addr} {vs:List V} {ds:List D}:F a=some (.tup vs)->Reps F vs ds->Rep F (.ref a) (.tup ds)
 | lst {a:Addr} {vs:List V} {ds:List D}:F a=some (.lst vs)->Reps F vs ds->Rep F (.ref a) (.lst ds)
 | dic {a:Addr} {o:Obj} {ks:List Str} {vs:List V} {ds:List D}:F a=some (.frz o (.dK ((ks.map Sum.inr).zip vs)))->ks.length=vs.length->Reps F vs ds->Rep F (.ref a) (.dic ks ds)
 | ins {a C dx:Addr} {ns:List Str} {vs:List V} {ds:List D}:F a=some (.ins C dx (ns.zip vs))->ns.length=vs.length->Reps F vs ds->Rep F (.ref a) (.ins C ns ds)
 | dcI {a:Addr} {o:Obj} {ks:List Int} {vs:List V} {ds:List D}:F a=some (knO a o)->DiD a o ((ks.map Sum.inl).zip vs)->ks.length=vs.length->Reps F vs ds->Rep F (.ref a) (.dcI ks ds)
 | dcS {a:Addr} {ks:List Str} {vs:List V} {ds:List D}:F a=some (.dK ((ks.map Sum.inr).zip vs))->ks.length=vs.length->Reps F vs ds->Rep F (.ref a) (.dcS ks ds)
inductive Reps(F:Hp):List V->List D->Prop
 | nil:Reps F [] []
 | cons {v:V} {d:D} {vs:List V} {ds:List D}:Rep F v d->Reps F vs ds->Reps F (v :: vs) (d :: ds)
end
section
variable {F F':Hp}{v:V}{d:D}{vs ws:List V}{ds es:List D}
theorem Rep.mono(s:Same F F'){v:V}{d:D}(h:Rep F v d):Rep F' v d:=
 Rep.rec (motive_1:=fun v d _=>Rep F' v d) (motive_2:=fun vs ds _=>Reps F' vs ds) .non .bl .int .str (fun e _ ih=>.tup (s _ _ e) ih) (fun e _ ih=>.lst (s _ _ e) ih) (fun e l _ ih=>.dic (s _ _ e) l ih) (fun e l _ ih=>.ins (s _ _ e) l ih) (fun e d l _ ih=>.dcI (s _ _ e) d l ih) (fun e l _ ih=>.dcS (s _ _ e) l ih) .nil (fun _ _ h t=>.cons h t) h
theorem Reps.mono(s:Same F F'){vs:List V}{ds:List D}(h:Reps F vs ds):Reps F' vs ds:=
 Reps.rec (motive_1:=fun v d _=>Rep F' v d) (motive_2:=fun vs ds _=>Reps F' vs ds) .non .bl .int .str (fun e _ ih=>.tup (s _ _ e) ih) (fun e _ ih=>.lst (s _ _ e) ih) (fun e l _ ih=>.dic (s _ _ e) l ih) (fun e l _ ih=>.ins (s _ _ e) l ih) (fun e d l _ ih=>.dcI (s _ _ e) d l ih) (fun e l _ ih=>.dcS (s _ _ e) l ih) .nil (fun _ _ h t=>.cons h t) h
theorem Reps.length:∀ {vs:List V} {ds:List D},Reps F vs ds->vs.length=ds.length
 | _,_,.nil=>rfl
 | _,_,.cons _ r=>by rw[List.length_cons,List.length_cons,Reps.length r]
theorem Reps.get:∀ {vs:List V} {ds:List D} {i:Nat} {d:D},Reps F vs ds->ds[i]? = some d->∃ v,vs[i]? = some v/\Rep F v d
 | _,_,_,_,.nil,e=>by simp at e
 | _,_,0,_,.cons h _,e=>by simp at e;subst e;exact⟨_,rfl,h⟩
 | _,_,i+1,d,.cons _ r,e=>by
  obtain⟨v,h1,h2⟩:=Reps.get (i:=i) (d:=d) r (by simpa using e)
  exact⟨v,by simpa using h1,h2⟩
theorem Reps.append:∀ {vs ws:List V} {ds es:List D},Reps F vs ds->Reps F ws es->Reps F (vs ++ ws) (ds ++ es)
 | _,_,_,_,.nil,s=>s
 | _,_,_,_,.cons h r,s=>.cons h (Reps.append r s)
theorem Reps.take:∀ {vs:List V} {ds:List D} (n:Nat),Reps F vs ds->Reps F (vs.take n) (ds.take n)
 | _,_,0,_=>.nil
 | _,_,_+1,.nil=>.nil
 | _,_,n+1,.cons h r=>.cons h (Reps.take n r)
theorem Reps.drop:∀ {vs:List V} {ds:List D} (n:Nat),Reps F vs ds->Reps F (vs.drop n) (ds.drop n)
 | _,_,0,r=>r
 | _,_,_+1,.nil=>.nil
 | _,_,n+1,.cons _ r=>Reps.drop n r
theorem Reps.set(h:Rep F v d):∀ {vs:List V} {ds:List D} (i:Nat),Reps F vs ds->Reps F (vs.set i v) (ds.set i d)
 | _,_,_,.nil=>.nil
 | _,_,0,.cons _ r=>.cons h r
 | _,_,i+1,.cons q r=>.cons q (Reps.set h i r)
theorem Reps.one(h:Rep F v d):Reps F [v] [d]:=.cons h .nil
theorem Reps.rev:∀ {vs:List V} {ds:List D},Reps F vs ds->Reps F vs.reverse ds.reverse
 | _,_,.nil=>.nil
 | _,_,.cons h r=>by rw[List.reverse_cons,List.reverse_cons];exact(Reps.rev r).append (.one h)
theorem Reps.ints(ns:List Int):Reps F (ns.map V.int) (ns.map D.int):=by
 induction ns with
 | nil=>exact .nil
 | cons n r ih=>exact .cons (.int n) ih
theorem Reps.dropLast(r:Reps F vs ds):Reps F vs.dropLast ds.dropLast:=by
 rw[List.dropLast_eq_take,List.dropLast_eq_take,r.length]
 exact r.take _
end
noncomputable def isT:HO->Bool
 | .tup _=>true
 | _=>false
noncomputable def zbK(K:PySem.W.Frag)(c:Str)(C:Addr):Prop:=PySem.W.nsIn K mainGlobals c=some (some (.ref C))
mutual
inductive TR(K:PySem.W.Frag)(F H:Hp):V->OT->List Addr->Prop
 | val {v:V} {d:D}:Rep F v d->TR K F H v (.val d) []
 | lst {l:Addr} {vs:List V} {ds:List D}:H l=some (.lst vs)->Reps F vs ds->TR K F H (.ref l) (.lst ds) [l]
 | ins {a dx C:Addr} {c:Str} {ns:List Str} {vs:List V} {os:List OT} {A:List Addr}:zbK K c C->H a=some (.ins C dx (ns.zip vs))->H dx=some (.own a)->ns.length=vs.length->TRs K F H vs os A->TR K F H (.ref a) (.ins c ns os) (a :: dx :: A)
 | dcI {l:Addr} {o:Obj} {ks:List Int} {vs:List V} {os:List OT} {A:List Addr}:H l=some (knO l o)->DiD l o ((ks.map Sum.inl).zip vs)->ks.length=vs.length->TRs K F H vs os A->TR K F H (.ref l) (.dcI ks os) (l :: A)
 | dcS {l:Addr} {ks:List Str} {vs:List V} {os:List OT} {A:List Addr}:H l=some (.dK ((ks.map Sum.inr).zip vs))->ks.length=vs.length->TRs K F H vs os A->TR K F H (.ref l) (.dcS ks os) (l :: A)
 | los {l:Addr} {vs:List V} {os:List OT} {A:List Addr}:H l=some (.lst vs)->TRs K F H vs os A->TR K F H (.ref l) (.los os) (l :: A)
inductive TRs(K:PySem.W.Frag)(F H:Hp):List V->List OT->List Addr->Prop
 | nil:TRs K F H [] [] []
 | cons {v:V} {o:OT} {vs:List V} {os:List OT} {A A':List Addr}:TR K F H v o A->TRs K F H vs os A'->TRs K F H (v :: vs) (o :: os) (A ++ A')
end
section
variable {K:PySem.W.Frag}{F H F' H':Hp}
theorem TR.move(s:Same F F'){v:V}{o:OT}{A:List Addr}(t:TR K F H v o A):(∀ a ∈ A,H' a=H a)->TR K F' H' v o A:=
 TR.rec (motive_1:=fun v o A _=>(∀ a ∈ A,H' a=H a)->TR K F' H' v o A) (motive_2:=fun vs os A _=>(∀ a ∈ A,H' a=H a)->TRs K F' H' vs os A) (fun r _=>.val (Rep.mono s r)) (fun e r h=>.lst ((h _ List.mem_cons_self).trans e) (r.mono s))
  (fun hc e1 e2 hl _ ih h=>.ins hc ((h _ List.mem_cons_self).trans e1) ((h _ (List.mem_cons_of_mem _ List.mem_cons_self)).trans e2) hl (ih fun a ha=>h a (List.mem_cons_of_mem _ (List.mem_cons_of_mem _ ha))))
  (fun e d l _ ih h=>.dcI ((h _ List.mem_cons_self).trans e) d l (ih fun a ha=>h a (List.mem_cons_of_mem _ ha))) (fun e l _ ih h=>.dcS ((h _ List.mem_cons_self).trans e) l (ih fun a ha=>h a (List.mem_cons_of_mem _ ha))) (fun e _ ih h=>.los ((h _ List.mem_cons_self).trans e) (ih fun a ha=>h a (List.mem_cons_of_mem _ ha))) (fun _=>.nil)
  (fun _ _ i1 i2 h=>.cons (i1 fun a ha=>h a (List.mem_append_left _ ha)) (i2 fun a ha=>h a (List.mem_append_right _ ha))) t
theorem TRs.nil_{os:List OT}{A:List Addr}(h:TRs K F H [] os A):os=[]/\A=[]:=by cases h;exact⟨rfl,rfl⟩
theorem TRs.cons_{v:V}{vs:List V}{os:List OT}{A:List Addr}(h:TRs K F H (v :: vs) os A):∃ o os' A1 A2,os=o :: os'/\A=A1 ++ A2/\TR K F H v o A1/\TRs K F H vs os' A2:=by cases h with | cons t ts=>exact⟨_,_,_,_,rfl,rfl,t,ts⟩
theorem TRs.move(s:Same F F'):∀ {vs:List V} {os:List OT} {A:List Addr},TRs K F H vs os A->(∀ a ∈ A,H' a=H a)->TRs K F' H' vs os A:=by
 intro vs
 induction vs with
 | nil=>intro os A t h;obtain⟨rfl,rfl⟩:=t.nil_;exact .nil
 | cons v vs ih=>
  intro os A t h
  obtain⟨o,os',A1,A2,rfl,rfl,t1,t2⟩:=t.cons_
  exact .cons (t1.move s fun a ha=>h a (List.mem_append_left _ ha)) (ih t2 fun a ha=>h a (List.mem_append_right _ ha))
theorem lies1{l:Addr}{u:HO}(e:H l=some u)(hu:isT u=false):∀ a ∈ [l],∃ u,H a=some u/\isT u=false:=fun a h=>by
 cases List.mem_singleton.mp h
 exact⟨u,e,hu⟩
theorem liesC{l:Addr}{u:HO}{A:List Addr}(e:H l=some u)(hu:isT u=false)(h:∀ a ∈ A,∃ u,H a=some u/\isT u=false):∀ a ∈ l :: A,∃ u,H a=some u/\isT u=false:=fun a ha=>
 (List.mem_cons.mp ha).elim (fun z=>⟨u,z ▸ e,hu⟩) (h a)
theorem TR.lies{v:V}{o:OT}{A:List Addr}(t:TR K F H v o A):∀ a ∈ A,∃ u,H a=some u/\isT u=false:=
 TR.rec (motive_1:=fun _ _ A _=>∀ a ∈ A,∃ u,H a=some u/\isT u=false) (motive_2:=fun _ _ A _=>∀ a ∈ A,∃ u,H a=some u/\isT u=false) (fun _ a h=>nomatch h) (fun e _=>lies1 e rfl) (fun _ e1 e2 _ _ ih=>liesC e1 rfl (liesC e2 rfl ih)) (fun e _ _ _ ih=>liesC e rfl ih) (fun e _ _ ih=>liesC e rfl ih) (fun e _ ih=>liesC e rfl ih) (fun a h=>nomatch h)
  (fun _ _ i1 i2 a h=>(List.mem_append.mp h).elim (i1 a) (i2 a)) t
theorem TRs.lies:∀ {vs:List V} {os:List OT} {A:List Addr},TRs K F H vs os A->∀ a ∈ A,∃ u,H a=some u/\isT u=false:=by
 intro vs
 induction vs with
 | nil=>intro os A t a h;obtain⟨rfl,rfl⟩:=t.nil_;cases h
 | cons v vs ih=>
  intro os A t a h
  obtain⟨o,os',A1,A2,rfl,rfl,t1,t2⟩:=t.cons_
  exact(List.mem_append.mp h).elim (t1.lies a) (ih t2 a)
theorem zeV{α:Type}{ns:List α}:∀ {vs ws:List V},ns.length=vs.length->ns.length=ws.length->ns.zip vs=ns.zip ws->vs=ws:=by
 intro vs ws h1 h2 h
 have a:=congrArg (fun l=>l.map Prod.snd) h
 simp only[List.map_snd_zip (Nat.le_of_eq h1.symm),List.map_snd_zip (Nat.le_of_eq h2.symm)] at a
 exact a
theorem TR.det{v:V}{o:OT}{A:List Addr}(t:TR K F H v o A):∀ {A':List Addr},TR K F H v o A'->A=A':=by
 refine TR.rec (motive_1:=fun v o A _=>∀ {A':List Addr},TR K F H v o A'->A=A') (motive_2:=fun vs os A _=>∀ {A':List Addr},TRs K F H vs os A'->A=A') ?_ ?_ ?_ ?_ ?_ ?_ ?_ ?_ t
 ·intro _ _ _ _ h;cases h;rfl
 ·intro _ _ _ _ _ _ h;cases h;rfl
 ·intro _ _ _ _ _ _ _ _ _ e1 _ hl _ ih _ h
  cases h with
  | ins _ e1' _ hl' t'=>
   have z:=Option.some.inj (e1.symm.trans e1')
   injection z with _ z2 z3
   subst z2
   cases zeV hl hl' z3
   rw[ih t']
 ·intro _ _ _ _ _ _ e d l _ ih _ h
  cases h with
  | dcI e' d' l' t'=>
   cases knO_inj (Option.some.inj (e.symm.trans e')) d
   cases zeV (by rw[List.length_map];exact l) (by rw[List.length_map];exact l') (d.inj d')
   rw[ih t']
 ·intro _ _ _ _ _ e l _ ih _ h
  cases h with
  | dcS e' l' t'=>
   cases zeV (by rw[List.length_map];exact l) (by rw[List.length_map];exact l') (HO.dK.inj (Option.some.inj (e.symm.trans e')))
   rw[ih t']
 ·intro _ _ _ _ e _ ih _ h
  cases h with
  | los e' t'=>
   cases HO.lst.inj (Option.some.inj (e.symm.trans e'))
   rw[ih t']
 ·intro _ h;exact h.nil_.2.symm
 ·intro _ _ _ _ _ _ _ _ i1 i2 _ h
  obtain⟨_,_,_,_,e,rfl,t1,t2⟩:=h.cons_
  cases e
  rw[i1 t1,i2 t2]
end
structure Bd where
 hp:Hp
 pin:Option V
instance:Coe Bd Hp:=⟨Bd.hp⟩
structure Ex(F H F' H':Hp):Prop where
 ff:Same F F'
 fh:Same F' H'
 hh:Same H H'
 nw:∀ a o,H a=some o->isT o=false->F' a=F a
section
variable {K:PySem.W.Frag}{B:Bd}{F H F' H' F2 H2 H0:Hp}{v:V}{p:Addr}{o:HO}{e:Ent}{σ:Sg}{δ:En}
theorem Ex.refl(h:Same F H):Ex F H F H:=⟨Same.refl F,h,Same.refl H,fun _ _ _ _=>rfl⟩
theorem Ex.trans(a:Ex F H F' H')(b:Ex F' H' F2 H2):Ex F H F2 H2:=⟨a.ff.trans b.ff,b.fh,a.hh.trans b.hh,fun x o e t=>(b.nw x o (a.hh x o e) t).trans (a.nw x o e t)⟩
theorem same_upd2(h:Same F H)(hp:H p=none):Same (upd F p o) (upd H p o):=fun b u e=>by
 by_cases hb:b=p
 ·subst hb;rw[zae] at e ⊢;exact e
 ·rw[zah hb] at e ⊢;exact h b u e
theorem Ex.alloc(h:Same F H)(hp:H p=none):Ex F H (upd F p o) (upd H p o):=
 ⟨Same.alloc (h.free hp),same_upd2 h hp,Same.alloc hp,fun a u e _=>zah (zaL e hp)⟩
theorem Ex.lay(h:Same F H)(hp:H p=none):Ex F H F (upd H p o):=⟨Same.refl F,h.trans (Same.alloc hp),Same.alloc hp,fun _ _ _ _=>rfl⟩
theorem Ex.freeze(x:Ex F H F' H')(h0:H p=none)(h1:H' p=some o)(h2:F' p=none):Ex F H (upd F' p o) H':=by
 refine⟨x.ff.trans (Same.alloc h2),fun b u e=>?_,x.hh,fun a u e t=>?_⟩
 ·by_cases hb:b=p
  ·subst hb;rw[zae] at e;cases e;exact h1
  ·rw[zah hb] at e;exact x.fh b u e
 ·rw[zah (zaL e h0)];exact x.nw a u e t
noncomputable def RepR(K:PySem.W.Frag)(H0 F H:Hp)(v:V):Ent->Prop
 | .val d=>Rep F v d
 | .own ds=>∃ l vs,v=.ref l/\H0 l=none/\H l=some (.lst vs)/\Reps F vs ds/\F l=none
 | .bor ds=>∃ l vs,v=.ref l/\SqL K H l vs/\Reps F vs ds
 | .vw ds=>∃ l vs,v=.ref l/\H l=some (.lst vs)/\Reps F vs ds
 | .obj o=>(∃ l,v=.ref l)/\∃ A,TR K F H v o A/\A.Nodup/\∀ a ∈ A,F a=none/\H0 a=none
 | .bt ds=>∃ l vs,v=.ref l/\SqT K H l vs/\Reps F vs ds
theorem _root_.L2.Same.seqT{K:PySem.W.Frag}{H H':Hp}{l:Addr}{vs:List V}(s:Same H H')(h:SqT K H l vs):SqT K H' l vs:=by
 rcases h with (h | ⟨o,h⟩) | h
 ·exact .inl (.inl (s _ _ h))
 ·exact .inl (.inr ⟨o,s _ _ h⟩)
 ·exact .inr h
theorem TR.ext{o:OT}{A:List Addr}(r:TR K F H v o A)(x:Ex F H F' H'):TR K F' H' v o A/\∀ a ∈ A,F' a=F a:=
 ⟨r.move x.ff fun a ha=>let⟨_,h1,_⟩:=r.lies a ha;(x.hh _ _ h1).trans h1.symm,fun a ha=>let⟨_,h1,h2⟩:=r.lies a ha;x.nw _ _ h1 h2⟩
theorem RepR.ext(r:RepR K H0 F H v e)(x:Ex F H F' H'):RepR K H0 F' H' v e:=by
 cases e with
 | val d=>exact Rep.mono x.ff r
 | own ds=>
  obtain⟨l,vs,e,h0,h1,rs,h2⟩:=r
  exact⟨l,vs,e,h0,x.hh _ _ h1,rs.mono x.ff,(x.nw _ _ h1 rfl).trans h2⟩
 | bor ds=>obtain⟨l,vs,e,h,rs⟩:=r;exact⟨l,vs,e,x.hh.seq h,rs.mono x.ff⟩
 | vw ds=>obtain⟨l,vs,e,h,rs⟩:=r;exact⟨l,vs,e,x.hh _ _ h,rs.mono x.ff⟩
 | obj o=>obtain⟨z,A,t,n,h⟩:=r;exact⟨z,A,(t.ext x).1,n,fun a ha=>⟨((t.ext x).2 a ha).trans (h a ha).1,(h a ha).2⟩⟩
 | bt ds=>obtain⟨l,vs,e,h,rs⟩:=r;exact⟨l,vs,e,x.hh.seqT h,rs.mono x.ff⟩
theorem RepR.earlier(r:RepR K H F' H' v e)(s:Same H0 H):RepR K H0 F' H' v e:=by
 cases e with
 | own ds=>obtain⟨l,vs,e,h0,z⟩:=r;exact⟨l,vs,e,s.free h0,z⟩
 | obj o=>obtain⟨z,A,t,n,h⟩:=r;exact⟨z,A,t,n,fun a ha=>⟨(h a ha).1,s.free (h a ha).2⟩⟩
 | _=>exact r
noncomputable def RepN(K:PySem.W.Frag)(B F H:Hp)(v:V):Ent->Prop
 | .val d=>Rep F v d
 | .own ds=>∃ l vs,v=.ref l/\H l=some (.lst vs)/\Reps F vs ds/\F l=none/\B l=none
 | .bor ds=>∃ l vs,v=.ref l/\SqL K B l vs/\Reps F vs ds
 | .vw ds=>∃ l vs,v=.ref l/\H l=some (.lst vs)/\Reps F vs ds
 | .obj o=>∃ A,TR K F H v o A/\A.Nodup/\∀ a ∈ A,F a=none/\B a=none
 | .bt ds=>∃ l vs,v=.ref l/\SqT K B l vs/\Reps F vs ds
noncomputable def Ent.lk:Ent->Bool
 | .own _=>true
 | .vw _=>true
 | _=>false
noncomputable def Occ(K:PySem.W.Frag)(F H:Hp)(v:V):Ent->Addr->Prop
 | .own _,a=>v=.ref a
 | .vw _,a=>v=.ref a
 | .obj o,a=>∃ A,TR K F H v o A/\a ∈ A
 | _,_=>False
noncomputable def Ent.isO:Ent->Bool
 | .obj _=>true
 | _=>false
structure RS(K:PySem.W.Frag)(B:Bd)(F H:Hp)(σ:Sg)(δ:En):Prop where
 fh:Same F H
 bh:Same B H
 len:σ.length=δ.length
 ent:∀ (i:Nat) (e:Ent),δ[i]? = some (some e)->∃ v,σ[i]? = some (some v)/\RepN K B F H v e
 ap:∀ (i j:Nat) (l:Addr) (ds:List D) (e:Ent),i ≠ j->δ[i]? = some (some (.own ds))->σ[i]? = some (some (.ref l))->δ[j]? = some (some e)->e.lk=true->σ[j]? ≠ some (some (.ref l))
 ao:∀ (i j:Nat) (e e':Ent) (v w:V) (a:Addr),i ≠ j->δ[i]? = some (some e)->σ[i]? = some (some v)->δ[j]? = some (some e')->σ[j]? = some (some w)->e.isO=true->Occ K F H v e a->Occ K F H w e' a->False
 pn:∀ (v:V) (o:OT),B.pin=some v->δ[0]? = some (some (.obj o))->σ[0]? = some (some v)
theorem RepN.ext(r:RepN K B F H v e)(x:Ex F H F' H'):RepN K B F' H' v e:=by
 cases e with
 | val d=>exact Rep.mono x.ff r
 | own ds=>obtain⟨l,vs,e,h1,rs,h2,h3⟩:=r;exact⟨l,vs,e,x.hh _ _ h1,rs.mono x.ff,(x.nw _ _ h1 rfl).trans h2,h3⟩
 | bor ds=>obtain⟨l,vs,e,h,rs⟩:=r;exact⟨l,vs,e,h,rs.mono x.ff⟩
 | vw ds=>obtain⟨l,vs,e,h,rs⟩:=r;exact⟨l,vs,e,x.hh _ _ h,rs.mono x.ff⟩
 | obj o=>obtain⟨A,t,n,h⟩:=r;exact⟨A,(t.ext x).1,n,fun a ha=>⟨((t.ext x).2 a ha).trans (h a ha).1,(h a ha).2⟩⟩
 | bt ds=>obtain⟨l,vs,e,h,rs⟩:=r;exact⟨l,vs,e,h,rs.mono x.ff⟩
theorem Occ.back{a:Addr}(r:RepN K B F H v e)(m:∀ o A,e=.obj o->TR K F H v o A->TR K F' H' v o A)(h:Occ K F' H' v e a):Occ K F H v e a:=by
 cases e with
 | obj o=>
  obtain⟨A,t,_⟩:=r
  obtain⟨A',t',h'⟩:=h
  rw[t'.det (m o A rfl t)] at h'
  exact⟨A,t,h'⟩
 | _=>exact h
theorem Occ.backX{a:Addr}(r:RepN K B F H v e)(x:Ex F H F' H')(h:Occ K F' H' v e a):Occ K F H v e a:=h.back r fun _ _ _ t=>(t.ext x).1
theorem RepN.lies{a:Addr}(r:RepN K B F H v e)(h:Occ K F H v e a):∃ u,H a=some u:=by
 cases e with
 | own ds=>obtain⟨l,vs,e,h1,_⟩:=r;cases e;cases (show V.ref l=.ref a from h);exact⟨_,h1⟩
 | vw ds=>obtain⟨l,vs,e,h1,_⟩:=r;cases e;cases (show V.ref l=.ref a from h);exact⟨_,h1⟩
 | obj o=>obtain⟨A,t,h'⟩:=h;obtain⟨u,h1,_⟩:=t.lies a h';exact⟨u,h1⟩
 | _=>exact h.elim
theorem RS.occ{i:Nat}{a:Addr}(s:RS K B F H σ δ)(h:δ[i]? = some (some e))(q:σ[i]? = some (some v))(o:Occ K F H v e a):∃ u,H a=some u:=by
 obtain⟨w,h1,h2⟩:=s.ent i e h
 rw[q] at h1
 cases h1
 exact h2.lies o
theorem RS.at{i:Nat}(s:RS K B F H σ δ)(h:δ[i]? = some (some e))(q:σ[i]? = some (some v)):RepN K B F H v e:=by
 obtain⟨w,h1,h2⟩:=s.ent i e h
 rw[q] at h1
 cases h1
 exact h2
theorem RS.ext(s:RS K B F H σ δ)(x:Ex F H F' H'):RS K B F' H' σ δ:=
 ⟨x.fh,s.bh.trans x.hh,s.len,fun i e h=>let⟨v,h1,h2⟩:=s.ent i e h;⟨v,h1,h2.ext x⟩,s.ap,
  fun i j e e' v w a hij h1 h2 h3 h4 h5 h6 h7=>s.ao i j e e' v w a hij h1 h2 h3 h4 h5 (h6.backX (s.at h1 h2) x) (h7.backX (s.at h3 h4) x),s.pn⟩
noncomputable def asV:Ent->Option D
 | .val d=>some d
 | .own ds=>some (.lst ds)
 | _=>none
noncomputable def asL:Ent->Option (List D)
 | .val (.lst ds)=>some ds
 | .own ds=>some ds
 | .bor ds=>some ds
 | .vw ds=>some ds
 | _=>none
theorem RepR.toL{ds:List D}(r:RepR K H0 F H v e)(h:Same F H)(q:asL e=some ds):∃ l vs,v=.ref l/\SqL K H l vs/\Reps F vs ds:=by
 cases e with
 | val d=>
  cases d with
  | lst es=>
   cases q
   cases (show Rep F v (.lst _) from r) with
   | lst e rs=>exact⟨_,_,rfl,SqL.of (h _ _ e),rs⟩
  | _=>cases q
 | own es=>cases q;obtain⟨l,vs,e,_,h1,rs,_⟩:=r;exact⟨l,vs,e,SqL.of h1,rs⟩
 | bor es=>cases q;exact r
 | vw es=>cases q;obtain⟨l,vs,e,h1,rs⟩:=r;exact⟨l,vs,e,SqL.of h1,rs⟩
 | obj o=>cases q
 | bt ds=>cases q
noncomputable def asLt:Ent->Option (List D)
 | .val (.lst ds)=>some ds
 | .own ds=>some ds
 | .vw ds=>some ds
 | _=>none
theorem RepR.toLt{ds:List D}(r:RepR K H0 F H v e)(h:Same F H)(q:asLt e=some ds):∃ l vs,v=.ref l/\H l=some (.lst vs)/\Reps F vs ds:=by
 cases e with
 | val d=>
  cases d with
  | lst es=>
   cases q
   cases (show Rep F v (.lst _) from r) with
   | lst e rs=>exact⟨_,_,rfl,h _ _ e,rs⟩
  | _=>cases q
 | own es=>cases q;obtain⟨l,vs,e,_,h1,rs,_⟩:=r;exact⟨l,vs,e,h1,rs⟩
 | bor es=>cases q
 | vw es=>cases q;exact r
 | obj o=>cases q
 | bt ds=>cases q
end
end L3

namespace L3
open PySem PySem.Spec PyProof.Rows L2
noncomputable abbrev FE:=En->Option Ent
noncomputable abbrev FT:=En->Option Bool
noncomputable abbrev FA:=En->Option (List Ent)
inductive RepRs(K:PySem.W.Frag)(H0 F H:Hp):List V->List Ent->Prop
 | nil:RepRs K H0 F H [] []
 | cons {v:V} {e:Ent} {vs:List V} {es:List Ent}:RepR K H0 F H v e->RepRs K H0 F H vs es->RepRs K H0 F H (v :: vs) (e :: es)
section
variable {K:PySem.W.Frag}{B:Bd}{F H F' H' F2 H2 H0:Hp}
theorem RepRs.earlier(s:Same H0 H):∀ {vs:List V} {es:List Ent},RepRs K H F' H' vs es->RepRs K H0 F' H' vs es
 | _,_,.nil=>.nil
 | _,_,.cons r t=>.cons (r.earlier s) (RepRs.earlier s t)
theorem RepRs.length:∀ {vs:List V} {es:List Ent},RepRs K H0 F H vs es->vs.length=es.length
 | _,_,.nil=>rfl
 | _,_,.cons _ t=>by rw[List.length_cons,List.length_cons,RepRs.length t]
noncomputable def zfa:List Ent->Option (List D)
 | []=>some []
 | e :: es=>(asV e).bind fun d=>(zfa es).map fun ds=>d :: ds
theorem RepR.frz{v:V}{e:Ent}{d:D}(x:Ex F H F' H')(s:Same F2 F')(r:RepR K H F2 H' v e)(q:asV e=some d):∃ F3,Ex F H F3 H'/\Same F' F3/\Rep F3 v d:=by
 cases e with
 | val d'=>cases q;exact⟨F',x,Same.refl _,Rep.mono s r⟩
 | own ds=>
  cases q
  obtain⟨l,vs,e,h0,h1,rs,h2⟩:=r
  subst e
  cases z:F' l with
  | none=>exact⟨upd F' l (.lst vs),x.freeze h0 h1 z,Same.alloc z,.lst zae (rs.mono (s.trans (Same.alloc z)))⟩
  | some o=>
   have:=x.fh _ _ z
   rw[h1] at this
   cases this
   exact⟨F',x,Same.refl _,.lst z (rs.mono s)⟩
 | _=>cases q
theorem RepRs.frz:∀ {vs:List V} {es:List Ent} {ds:List D} {F':Hp},Ex F H F' H'->Same F2 F'->RepRs K H F2 H' vs es->zfa es=some ds->∃ F3,Ex F H F3 H'/\Same F' F3/\Reps F3 vs ds
 | _,_,_,F',x,_,.nil,q=>by cases q;exact⟨F',x,Same.refl _,.nil⟩
 | _,e :: es,ds,F',x,s,.cons r t,q=>by
  simp only[zfa] at q
  cases h1:asV e with
  | none=>rw[h1] at q;cases q
  | some d=>
   cases h2:zfa es with
   | none=>rw[h1,h2] at q;cases q
   | some ds'=>
    rw[h1,h2] at q
    cases q
    obtain⟨F3,x3,s3,r3⟩:=r.frz x s h1
    obtain⟨F4,x4,s4,r4⟩:=RepRs.frz x3 (s.trans s3) t h2
    exact⟨F4,x4,s3.trans s4,.cons (Rep.mono s4 r3) r4⟩
end
noncomputable def SemE(K:PySem.W.Frag)(t:TE)(f:FE):Prop:=∀ (B:Bd) (F H:Hp) (σ:Sg) (δ:En) (r:Ent) (Q:VK),RS K B F H σ δ->f δ=some r->(∀ v F' H',Ex F H F' H'->RepR K H F' H' v r->Q v H')->t σ H Q
noncomputable def SemT(K:PySem.W.Frag)(t:TT)(f:FT):Prop:=∀ (B:Bd) (F H:Hp) (σ:Sg) (δ:En) (b:Bool) (Q:Bool->Hp->Prop),RS K B F H σ δ->f δ=some b->(∀ F' H',Ex F H F' H'->Q b H')->t σ H Q
noncomputable def SemA(K:PySem.W.Frag)(t:TA)(f:FA):Prop:=∀ (B:Bd) (F H:Hp) (σ:Sg) (δ:En) (rs:List Ent) (Q:List V->Hp->Prop),RS K B F H σ δ->f δ=some rs->(∀ vs F' H',Ex F H F' H'->RepRs K H F' H' vs rs->Q vs H')->t σ H Q
structure VE(X:Cx)(e:Expr)(f:FE):Prop where
 h:∃ t,WE X e t/\SemE X.K t f
structure VT(X:Cx)(e:Expr)(f:FT):Prop where
 h:∃ t,WT X e t/\SemT X.K t f
structure VW(X:Cx)(e:Expr)(f:FT):Prop where
 h:∃ t,WW X e t/\SemT X.K t f
structure VA(X:Cx)(es:List Expr)(f:FA):Prop where
 h:∃ t,WA X es t/\SemA X.K t f
structure VTs(X:Cx)(es:List Expr)(f:FT):Prop where
 h:∃ t,WTs X es t/\SemT X.K t f
noncomputable def zab(i:Nat):FE:=fun δ=>match δ[i]? with
 | some (some (.own ds))=>some (.vw ds)
 | some (some (.obj _))=>none
 | some (some e)=>some e
 | _=>none
noncomputable def eC(d:D):FE:=fun _=>some (.val d)
noncomputable def ex1(g:Ent->Option Ent)(fa:FE):FE:=fun δ=>(fa δ).bind g
noncomputable def ex2(g:Ent->Ent->Option Ent)(fa fb:FE):FE:=fun δ=>(fa δ).bind fun x=>(fb δ).bind fun y=>g x y
noncomputable def bOf:Ent->Option Bool
 | .val (.bl b)=>some b
 | _=>none
noncomputable def eAnd(fa fb:FE):FE:=fun δ=>((fa δ).bind bOf).bind fun b=>if b=true then fb δ else some (.val (.bl false))
noncomputable def gNot:Ent->Option Ent:=fun e=>(bOf e).map fun b=>.val (.bl (!b))
noncomputable def tOf(fe:FE):FT:=fun δ=>(fe δ).bind bOf
noncomputable def fOr(ft fu:FT):FT:=fun δ=>(ft δ).bind fun b=>if b=true then some true else fu δ
noncomputable def fNot(ft:FT):FT:=fun δ=>(ft δ).map fun b=>!b
noncomputable def zek:FT:=fun _=>some true
noncomputable def eIf(ft:FT)(fa fb:FE):FE:=fun δ=>(ft δ).bind fun b=>if b=true then fa δ else fb δ
noncomputable def zag:FA:=fun _=>some []
noncomputable def zaa(fe:FE)(fa:FA):FA:=fun δ=>(fe δ).bind fun x=>(fa δ).map fun xs=>x :: xs
noncomputable def eTup(fa:FA):FE:=fun δ=>(fa δ).bind fun rs=>if rs.length<=1000 then (zfa rs).map fun ds=>.val (.tup ds) else none
noncomputable def zdb(fa:FA):FE:=fun δ=>(fa δ).bind fun rs=>if rs.length<=1000 then (zfa rs).map fun ds=>.own ds else none
noncomputable def SemR1(K:PySem.W.Frag)(r:V->Hp->VK->Prop)(g:Ent->Option Ent):Prop:=∀ (H0 F H:Hp) (x:V) (e res:Ent) (Q:VK),Same F H->Same H0 H->RepR K H0 F H x e->g e=some res ->
 (∀ v F' H',Ex F H F' H'->RepR K H0 F' H' v res->Q v H')->r x H Q
noncomputable def zgW(K:PySem.W.Frag)(r:R2)(g:Ent->Ent->Option Ent):Prop:=∀ (H0 F H:Hp) (x y:V) (e e' res:Ent) (Q:VK),Same F H->Same H0 H->RepR K H0 F H x e->RepR K H0 F H y e'->g e e'=some res ->
 (∀ v F' H',Ex F H F' H'->RepR K H0 F' H' v res->Q v H')->r x y H Q
noncomputable def SemC(K:PySem.W.Frag)(r:List V->Hp->VK->Prop)(g:List Ent->Option Ent):Prop:=∀ (H0 F H:Hp) (vs:List V) (es:List Ent) (res:Ent) (Q:VK),Same F H->Same H0 H->RepRs K H0 F H vs es->g es=some res ->
 (∀ v F' H',Ex F H F' H'->RepR K H0 F' H' v res->Q v H')->r vs H Q
theorem bind_some{α β:Type}{o:Option α}{f:α->Option β}{b:β}(h:o.bind f=some b):∃ a,o=some a/\f a=some b:=by
 cases o with
 | none=>cases h
 | some a=>exact⟨a,rfl,h⟩
theorem map_some{α β:Type}{o:Option α}{f:α->β}{b:β}(h:o.map f=some b):∃ a,o=some a/\f a=b:=by
 cases o with
 | none=>cases h
 | some a=>exact⟨a,rfl,Option.some.inj h⟩
noncomputable def gif{α:Type}(c:Prop)(a:Option α):Option α:=@ite _ c (Classical.propDecidable c) a none
theorem zai{α:Type}(a:Option α):gif True a=a:=by unfold gif;exact if_pos trivial
theorem zdB{α:Type}{c:Prop}{a:Option α}(h:c):gif c a=a:=by unfold gif;exact if_pos h
theorem zaX{α:Type}{c:Prop}{o:Option α}{b:α}(h:gif c o=some b):c/\o=some b:=by
 unfold gif at h
 by_cases hc:c
 ·rw[if_pos hc] at h;exact⟨hc,h⟩
 ·rw[if_neg hc] at h;cases h
noncomputable def sz(n:Nat):Prop:=n<=1000000
theorem zbD{n:Nat}(h:n<=1000000):sz n=True:=eq_true h
noncomputable def OpD(X:Cx)(f:Value->Value->Sem Value)(g:Ent->Ent->Option Ent):Prop:=∃ r,OpR X f r/\zgW X.K r g
noncomputable def UnD(X:Cx)(f:Value->Sem Value)(g:Ent->Option Ent):Prop:=∃ r,UnR X f r/\SemR1 X.K r g
noncomputable def zej(X:Cx)(f:Value)(g:List Ent->Option Ent):Prop:=∃ r,zdh X f r/\SemC X.K r g
noncomputable def IxD(X:Cx)(g:Ent->Ent->Option Ent):Prop:=∃ r,IxR X r/\zgW X.K r g
theorem zdk{e:Ent}{b:Bool}(h:bOf e=some b):e=.val (.bl b):=by
 cases e with
 | val d=>cases d <;> first | (cases h;rfl) | (cases h)
 | _=>cases h
theorem zcF{F:Hp}{v:V}{b:Bool}(h:Rep F v (.bl b)):v=.bl b:=by cases h;rfl
theorem zaD{F:Hp}{v:V}{i:Int}(h:Rep F v (.int i)):v=.int i:=by cases h;rfl
theorem zby{F:Hp}{v:V}{i:Str}(h:Rep F v (.str i)):v=.str i:=by cases h;rfl
theorem zgb{F:Hp}{v:V}(h:Rep F v .non):v=.non:=by cases h;rfl
section
variable {X:Cx}{a b c e:Expr}{es rest:List Expr}{pos p:Pos}{fa fb fc:FE}{ft fu:FT}{fs:FA}{x:Str}
theorem vv(i:Nat)(hN:X.N[i]? = some x:=by rfl)(hv:Vis X.env.scope x:=by first | exact Or.inl rfl | exact Or.inr (Or.inl rfl) | exact Or.inr (Or.inr rfl))(hd:(x == ("__debug__" : Str))=false:=by decide)
  (hcd:(x == ("__classdict__" : Str))=false:=by decide):VE X (.Name x pos) (zab i):=by
 refine⟨_,wv i hN hv hd hcd,fun B F H σ δ r Q s q k=>?_⟩
 unfold zab at q
 split at q
 ·rename_i ds e
  cases q
  obtain⟨v,h1,l,vs,e,h2,h3,_⟩:=s.ent i _ e
  exact⟨v,h1,k v F H (Ex.refl s.fh) ⟨l,vs,e,h2,h3⟩⟩
 ·cases q
 ·rename_i ee hne hno e
  cases q
  obtain⟨v,h1,h2⟩:=s.ent i _ e
  refine⟨v,h1,k v F H (Ex.refl s.fh) ?_⟩
  cases r with
  | val d=>exact h2
  | own ds=>exact(hne ds rfl).elim
  | bor ds=>obtain⟨l,vs,e,h,rs⟩:=h2;exact⟨l,vs,e,s.bh.seq h,rs⟩
  | vw ds=>exact h2
  | obj o=>exact(hno o rfl).elim
  | bt ds=>obtain⟨l,vs,e,h,rs⟩:=h2;exact⟨l,vs,e,s.bh.seqT h,rs⟩
 ·cases q
theorem SemE.cst{K:PySem.W.Frag}{v:V}{d:D}(h:∀ F,Rep F v d):SemE K (tC v) (eC d):=fun B F H σ δ r Q s q k=>by
 cases q
 exact k v F H (Ex.refl s.fh) (h F)
theorem zbd{i:Int}{j:Nat}:VE X (.Constant (.int i) j pos) (eC (.int i)):=⟨_,wint,.cst fun _=>.int i⟩
theorem vbl{i:Bool}{j:Nat}:VE X (.Constant (.bool i) j pos) (eC (.bl i)):=⟨_,wbl,.cst fun _=>.bl i⟩
theorem vnon{j:Nat}:VE X (.Constant .none j pos) (eC .non):=⟨_,wnon,.cst fun _=>.non⟩
theorem vstr{i:Str}{j:Nat}:VE X (.Constant (.str i) j pos) (eC (.str i)):=⟨_,wstr,.cst fun _=>.str i⟩
theorem vglI{i:Int}(hg:Gl X x)(h:∃ u,X.mg x=some u/\RelV (.int i) u)(hd:(x == ("__debug__" : Str))=false:=by decide):VE X (.Name x pos) (eC (.int i)):=⟨_,wgl hg h hd,.cst fun _=>.int i⟩
theorem SemE.op{K:PySem.W.Frag}{r:R2}{ta tb:TE}{g:Ent->Ent->Option Ent}(hr:zgW K r g)(ha:SemE K ta fa)(hb:SemE K tb fb):SemE K (tOp r ta tb) (ex2 g fa fb):=fun B F H σ δ res Q s q k=>by
 obtain⟨ex1,q1,q⟩:=bind_some q
 obtain⟨ex2,q2,q⟩:=bind_some q
 refine ha B F H σ δ ex1 _ s q1 fun v F1 H1 x1 r1=>?_
 refine hb B F1 H1 σ δ ex2 _ (s.ext x1) q2 fun w F2 H2 x2 r2=>?_
 exact hr H F2 H2 v w ex1 ex2 res Q x2.fh (x1.trans x2).hh (r1.ext x2) (r2.earlier x1.hh) q fun v' F' H' x3 r3=>k v' F' H' ((x1.trans x2).trans x3) r3
theorem vop{op:Operator}{g:Ent->Ent->Option Ent}(ho:OpD X (binaryOp op) g)(ha:VE X a fa)(hb:VE X b fb):VE X (.BinOp a op b pos) (ex2 g fa fb):=
 let⟨_,wa,sa⟩:=ha.h;let⟨_,wb,sb⟩:=hb.h;let⟨_,h1,h2⟩:=ho;⟨_,wop h1 wa wb,.op h2 sa sb⟩
theorem vcmp{op:CmpOp}{g:Ent->Ent->Option Ent}(ho:OpD X (compareOp op) g)(ha:VE X a fa)(hb:VE X b fb)(hm:behindInMarks op b=false):VE X (.Compare a [op] [b] pos) (ex2 g fa fb):=
 let⟨_,wa,sa⟩:=ha.h;let⟨_,wb,sb⟩:=hb.h;let⟨_,h1,h2⟩:=ho;⟨_,wcmp h1 wa wb hm,.op h2 sa sb⟩
theorem SemE.test{K:PySem.W.Frag}{ta:TE}(ha:SemE K ta fa):SemT K (tB ta) (tOf fa):=fun B F H σ δ b Q s q k=>by
 obtain⟨e,q1,q⟩:=bind_some q
 cases zdk q
 refine ha B F H σ δ _ _ s q1 fun v F1 H1 x1 r1=>?_
 exact⟨b,zcF r1,k F1 H1 x1⟩
theorem tcm{op:CmpOp}{g:Ent->Ent->Option Ent}(ho:OpD X (compareOp op) g)(ha:VE X a fa)(hb:VE X b fb)(hm:behindInMarks op b=false):VT X (.Compare a [op] [b] pos) (tOf (ex2 g fa fb)):=
 let⟨_,wa,sa⟩:=ha.h;let⟨_,wb,sb⟩:=hb.h;let⟨_,h1,h2⟩:=ho;⟨_,tcmp h1 wa wb hm,SemE.test (.op h2 sa sb)⟩
theorem tva(h:VE X e fa)(he:∀ whole,isTrue e X.env whole=(do let v <- whole;standAt e.pos;holding [v] (truthy v)):=by intro _;rfl):VT X e (tOf fa):=
 let⟨_,wa,sa⟩:=h.h;⟨_,tval wa he,SemE.test sa⟩
theorem vun{op:UnaryOp}{g:Ent->Option Ent}(ho:UnD X (unaryOp op) g)(ha:VE X a fa):VE X (.UnaryOp op a pos) (ex1 g fa):=by
 obtain⟨ta,wa,sa⟩:=ha.h
 obtain⟨rr,ho1,ho2⟩:=ho
 refine⟨_,wun ho1 wa,fun B F H σ δ res Q s q k=>?_⟩
 obtain⟨ex1,q1,q⟩:=bind_some q
 exact sa B F H σ δ ex1 _ s q1 fun v F1 H1 x1 r1=>ho2 H F1 H1 v ex1 res Q x1.fh x1.hh r1 q fun v' F' H' x2 r2=>k v' F' H' (x1.trans x2) r2
theorem vone{op:BoolOp}(h:VE X a fa):VE X (.BoolOp op [a] pos) fa:=let⟨_,wa,sa⟩:=h.h;⟨_,wone wa,sa⟩
theorem vand(ha:VE X a fa)(hb:VE X (.BoolOp .And (b :: rest) pos) fb):VE X (.BoolOp .And (a :: b :: rest) pos) (eAnd fa fb):=by
 obtain⟨ta,wa,sa⟩:=ha.h
 obtain⟨tb,wb,sb⟩:=hb.h
 refine⟨_,wand wa wb,fun B F H σ δ res Q s q k=>?_⟩
 obtain⟨bb,q1,q⟩:=bind_some q
 obtain⟨eb,q1,q2⟩:=bind_some q1
 cases zdk q2
 refine sa B F H σ δ _ _ s q1 fun v F1 H1 x1 r1=>⟨bb,zcF r1,?_⟩
 cases bb with
 | true=>exact iteT (sb B F1 H1 σ δ res Q (s.ext x1) q fun v' F' H' x2 r2=>k v' F' H' (x1.trans x2) (r2.earlier x1.hh))
 | false=>cases q;exact zgu (k _ F1 H1 x1 (.bl false))
theorem vnot(ha:VE X a fa):VE X (.UnaryOp .Not a pos) (ex1 gNot fa):=by
 obtain⟨ta,wa,sa⟩:=ha.h
 refine⟨_,wnotV wa,fun B F H σ δ res Q s q k=>?_⟩
 obtain⟨ex1,q1,q⟩:=bind_some q
 obtain⟨bb,q2,q⟩:=map_some q
 cases zdk q2
 cases q
 exact sa B F H σ δ _ _ s q1 fun v F1 H1 x1 r1=>⟨bb,zcF r1,k _ F1 H1 x1 (.bl _)⟩
theorem tor1'(ha:VT X a ft):VW X (.BoolOp .Or [a] pos) ft:=let⟨_,wa,sa⟩:=ha.h;⟨_,tor1 wa,sa⟩
theorem tor'(ha:VT X a ft)(hb:VW X (.BoolOp .Or (b :: rest) pos) fu):VW X (.BoolOp .Or (a :: b :: rest) pos) (fOr ft fu):=by
 obtain⟨ta,wa,sa⟩:=ha.h
 obtain⟨tb,wb,sb⟩:=hb.h
 refine⟨_,tor wa wb,fun B F H σ δ res Q s q k=>?_⟩
 obtain⟨bb,q1,q⟩:=bind_some q
 refine sa B F H σ δ bb _ s q1 fun F1 H1 x1=>?_
 cases bb with
 | false=>exact zgu (sb B F1 H1 σ δ res Q (s.ext x1) q fun F' H' x2=>k F' H' (x1.trans x2))
 | true=>cases q;exact iteT (k F1 H1 x1)
theorem tww(h:VW X a ft):VT X a ft:=let⟨_,wa,sa⟩:=h.h;⟨_,tw wa,sa⟩
theorem tnt(ha:VT X a ft):VT X (.UnaryOp .Not a pos) (fNot ft):=by
 obtain⟨ta,wa,sa⟩:=ha.h
 refine⟨_,tnot wa,fun B F H σ δ res Q s q k=>?_⟩
 obtain⟨bb,q1,q⟩:=map_some q
 cases q
 exact sa B F H σ δ bb _ s q1 fun F1 H1 x1=>k F1 H1 x1
theorem vif(hc:VT X c ft)(ha:VE X a fa)(hb:VE X b fb):VE X (.IfExp c a b pos) (eIf ft fa fb):=by
 obtain⟨tc,wc,sc⟩:=hc.h
 obtain⟨ta,wa,sa⟩:=ha.h
 obtain⟨tb,wb,sb⟩:=hb.h
 refine⟨_,wif wc wa wb,fun B F H σ δ res Q s q k=>?_⟩
 obtain⟨bb,q1,q⟩:=bind_some q
 refine sc B F H σ δ bb _ s q1 fun F1 H1 x1=>?_
 cases bb with
 | true=>exact iteT (sa B F1 H1 σ δ res Q (s.ext x1) q fun v' F' H' x2 r2=>k v' F' H' (x1.trans x2) (r2.earlier x1.hh))
 | false=>exact zgu (sb B F1 H1 σ δ res Q (s.ext x1) q fun v' F' H' x2 r2=>k v' F' H' (x1.trans x2) (r2.earlier x1.hh))
theorem if0:VTs X [] zek:=⟨_,ifs0,fun B F H σ δ b Q s q k=>by cases q;exact k F H (Ex.refl s.fh)⟩
theorem if1(h:VT X c ft):VTs X [c] ft:=let⟨_,wc,sc⟩:=h.h;⟨_,ifs1 wc,sc⟩
theorem za1:VA X [] zag:=⟨_,zg4,fun B F H σ δ rs Q s q k=>by cases q;exact k [] F H (Ex.refl s.fh) .nil⟩
theorem zad(ha:VE X e fa)(hr:VA X es fs)(h:zap e=true:=by rfl):VA X (e :: es) (zaa fa fs):=by
 obtain⟨ta,wa,sa⟩:=ha.h
 obtain⟨tb,wb,sb⟩:=hr.h
 refine⟨_,wac wa wb h,fun B F H σ δ rs Q s q k=>?_⟩
 obtain⟨ex1,q1,q⟩:=bind_some q
 obtain⟨es',q2,q⟩:=map_some q
 cases q
 refine sa B F H σ δ ex1 _ s q1 fun v F1 H1 x1 r1=>?_
 exact sb B F1 H1 σ δ es' _ (s.ext x1) q2 fun vs F2 H2 x2 r2=>k _ F2 H2 (x1.trans x2) (.cons (r1.ext x2) (r2.earlier x1.hh))
theorem zgO{n:Nat}(h:n<=1000):n<=sizeLine:=Nat.le_of_lt (small1000 h)
theorem vtup{x1:Nat}(h:VA X es fs):VE X (.Tuple es x1 pos) (eTup fs):=by
 obtain⟨t,w,sm⟩:=h.h
 refine⟨_,wtup w,fun B F H σ δ res Q s q k=>?_⟩
 obtain⟨rs,q1,q⟩:=bind_some q
 split at q
 ·rename_i hl
  obtain⟨ds,q2,q⟩:=map_some q
  cases q
  refine sm B F H σ δ rs _ s q1 fun vs F1 H1 x1 r1=>⟨by rw[r1.length];exact zgO hl,fun p hp=>?_⟩
  obtain⟨F2,x2,_,r2⟩:=RepRs.frz x1 (Same.refl _) r1 q2
  exact k _ _ _ (x2.trans (Ex.alloc x2.fh hp)) (.tup zae (r2.mono (Same.alloc (x2.fh.free hp))))
 ·cases q
theorem vlst(h:VA X es fs):VE X (.List es pos) (zdb fs):=by
 obtain⟨t,w,sm⟩:=h.h
 refine⟨_,wlst w,fun B F H σ δ res Q s q k=>?_⟩
 obtain⟨rs,q1,q⟩:=bind_some q
 split at q
 ·rename_i hl
  obtain⟨ds,q2,q⟩:=map_some q
  cases q
  refine sm B F H σ δ rs _ s q1 fun vs F1 H1 x1 r1=>⟨by rw[r1.length];exact zgO hl,fun p hp=>?_⟩
  obtain⟨F2,x2,_,r2⟩:=RepRs.frz x1 (Same.refl _) r1 q2
  exact k _ _ _ (x2.trans (Ex.lay x2.fh hp)) ⟨p,vs,rfl,x2.hh.free hp,zae,r2,x2.fh.free hp⟩
 ·cases q
theorem vix{g:Ent->Ent->Option Ent}(hr:IxD X g)(ha:VE X a fa)(hb:VE X b fb)(hs:zc6 b):VE X (.Subscript a b pos) (ex2 g fa fb):=
 let⟨_,wa,sa⟩:=ha.h;let⟨_,wb,sb⟩:=hb.h;let⟨_,h1,h2⟩:=hr;⟨_,wix h1 wa wb hs,.op h2 sa sb⟩
noncomputable def eCB(g:List Ent->Option Ent)(fs:FA):FE:=fun δ=>(fs δ).bind g
theorem SemE.cb{K:PySem.W.Frag}{t:TA}{q:List V->Hp->VK->Prop}{g:List Ent->Option Ent}(hc:SemC K q g)(ha:SemA K t fs):SemE K (tCB q t) (eCB g fs):=fun B F H σ δ res Q s q k=>by
 obtain⟨rs,q1,q⟩:=bind_some q
 exact ha B F H σ δ rs _ s q1 fun vs F1 H1 x1 r1=>hc H F1 H1 vs rs res Q x1.fh x1.hh r1 q fun v' F' H' x2 r2=>k v' F' H' (x1.trans x2) r2
theorem vcb{id:String}{g:List Ent->Option Ent}(hc:zej X (.builtin id) g)(hg:Gl X x)(hm:X.mg x=none)(hv:bootBuiltins x=some (.builtin id))(ha:VA X (e :: es) fs)(hn:x ≠ "__name__" :=by decide)(hdb:(x == ("__debug__" : Str))=false:=by decide)
  (h1:zap e=true:=by rfl) (h2:es.all zap=true:=by rfl):VE X (.Call (.Name x p) (e :: es) [] pos) (eCB g fs):=
 let⟨_,wa,sa⟩:=ha.h;let⟨_,h3,h4⟩:=hc;⟨_,wcb h3 hg hm hv wa hn hdb h1 h2,.cb h4 sa⟩
theorem vct{T:String}{g:List Ent->Option Ent}(hc:zej X (.type T) g)(hg:Gl X x)(hm:X.mg x=none)(hv:bootBuiltins x=some (.type T))(ha:VA X (e :: es) fs)(hn:x ≠ "__name__" :=by decide)(hdb:(x == ("__debug__" : Str))=false:=by decide)
  (h1:zap e=true:=by rfl) (h2:es.all zap=true:=by rfl):VE X (.Call (.Name x p) (e :: es) [] pos) (eCB g fs):=
 let⟨_,wa,sa⟩:=ha.h;let⟨_,h3,h4⟩:=hc;⟨_,wct h3 hg hm hv wa hn hdb h1 h2,.cb h4 sa⟩
end
end L3

namespace L3
open PySem PySem.Spec PyProof.Rows L2
inductive Out where
 | nx (δ:En) | rt (r:Ent) (δ:En) | bk (δ:En) | ct (δ:En)
noncomputable abbrev FS:=En->Option Out
structure FX(B F F':Hp):Prop where
 ff:Same F F'
 nw:∀ a o,B a=some o->isT o=false->F' a=F a
section
variable {K:PySem.W.Frag}{B:Bd}{F H F' H' F2 H2 H0:Hp}{σ:Sg}{δ:En}{v:V}{d:D}{e:Ent}{l:Addr}{vs:List V}{ds:List D}{DD:Ends}{out:Out}
theorem FX.refl:FX B F F:=⟨Same.refl F,fun _ _ _ _=>rfl⟩
theorem FX.trans(a:FX B F F')(b:FX B F' F2):FX B F F2:=⟨a.ff.trans b.ff,fun x o e t=>(b.nw x o e t).trans (a.nw x o e t)⟩
theorem FX.of(x:Ex F H F' H')(s:Same B H):FX B F F':=⟨x.ff,fun a o e t=>x.nw a o (s _ _ e) t⟩
noncomputable def EndOk(K:PySem.W.Frag)(B:Bd)(F:Hp)(DD:Ends):Out->Prop
 | .nx δ'=>∀ σ' F' H',RS K B F' H' σ' δ'->FX B F F'->DD.nx σ' H'
 | .rt r δ'=>∀ v σ' F' H',RS K B F' H' σ' δ'->FX B F F'->RepR K B F' H' v r->DD.rt v H'
 | .bk δ'=>∀ σ' F' H',RS K B F' H' σ' δ'->FX B F F'->DD.bk σ' H'
 | .ct δ'=>∀ σ' F' H',RS K B F' H' σ' δ'->FX B F F'->DD.ct σ' H'
theorem EndOk.mono(h:EndOk K B F DD out)(x:FX B F F'):EndOk K B F' DD out:=by
 cases out with
 | nx δ'=>exact fun σ' F2 H2 s y=>h σ' F2 H2 s (x.trans y)
 | rt r δ'=>exact fun v σ' F2 H2 s y z=>h v σ' F2 H2 s (x.trans y) z
 | bk δ'=>exact fun σ' F2 H2 s y=>h σ' F2 H2 s (x.trans y)
 | ct δ'=>exact fun σ' F2 H2 s y=>h σ' F2 H2 s (x.trans y)
theorem RS.put(s:RS K B F H σ δ)(i:Nat)(r:RepN K B F H v e)(hne:e.lk=true->∀ j e',j ≠ i->δ[j]? = some (some e')->e'.lk=true->∀ l,v=.ref l->σ[j]? ≠ some (some (.ref l)))
  (hpn:e.isO=true->0<i \/ (∀ p,B.pin ≠ some p) \/ B.pin=some v) (hno:∀ j e' w a,j ≠ i->δ[j]? = some (some e')->σ[j]? = some (some w)->(e.isO=true \/ e'.isO=true)->Occ K F H v e a->Occ K F H w e' a->False) :
  RS K B F H (σ.set i (some v)) (δ.set i (some e)):=by
 have hl:=s.len
 refine⟨s.fh,s.bh,by simp[hl],fun j e' h=>?_,fun a b l ds e' hab h1 h2 h3 h4 h5=>?_,fun a b e1 e2 v1 v2 ad hab h1 h2 h3 h4 h5 h6 h7=>?_,fun w o hw ho=>?_⟩
 ·rw[List.getElem?_set] at h ⊢
  by_cases hij:i=j
  ·subst hij
   rw[if_pos rfl] at h ⊢
   by_cases hi:i<δ.length
   ·rw[if_pos hi] at h
    cases h
    exact⟨v,by rw[if_pos (by lia)],r⟩
   ·rw[if_neg hi] at h;cases h
  ·rw[if_neg hij] at h ⊢
   exact s.ent j e' h
 ·rw[List.getElem?_set] at h1 h2 h3 h5
  by_cases hia:i=a
  ·subst hia
   rw[if_pos rfl] at h1 h2
   rw[if_neg hab] at h3 h5
   by_cases hi:i<δ.length
   ·rw[if_pos hi] at h1
    rw[if_pos (by lia)] at h2
    cases h1
    cases h2
    exact hne rfl b e' (Ne.symm hab) h3 h4 l rfl h5
   ·rw[if_neg hi] at h1;cases h1
  ·rw[if_neg hia] at h1 h2
   by_cases hib:i=b
   ·subst hib
    rw[if_pos rfl] at h3 h5
    by_cases hi:i<δ.length
    ·rw[if_pos hi] at h3
     rw[if_pos (by lia)] at h5
     cases h3
     cases h5
     exact hne h4 a _ hab h1 rfl l rfl h2
    ·rw[if_neg hi] at h3;cases h3
   ·rw[if_neg hib] at h3 h5
    exact s.ap a b l ds e' hab h1 h2 h3 h4 h5
 ·rw[List.getElem?_set] at h1 h2 h3 h4
  by_cases hia:i=a
  ·subst hia
   rw[if_pos rfl] at h1 h2
   rw[if_neg hab] at h3 h4
   by_cases hi:i<δ.length
   ·rw[if_pos hi] at h1
    rw[if_pos (by lia)] at h2
    cases h1
    cases h2
    exact hno b _ _ ad (Ne.symm hab) h3 h4 (.inl h5) h6 h7
   ·rw[if_neg hi] at h1;cases h1
  ·rw[if_neg hia] at h1 h2
   by_cases hib:i=b
   ·subst hib
    rw[if_pos rfl] at h3 h4
    by_cases hi:i<δ.length
    ·rw[if_pos hi] at h3
     rw[if_pos (by lia)] at h4
     cases h3
     cases h4
     exact hno a _ _ ad hab h1 h2 (.inr h5) h7 h6
    ·rw[if_neg hi] at h3;cases h3
   ·rw[if_neg hib] at h3 h4
    exact s.ao a b e1 e2 v1 v2 ad hab h1 h2 h3 h4 h5 h6 h7
 ·rw[List.getElem?_set] at ho ⊢
  by_cases hi:i=0
  ·subst hi
   rw[if_pos rfl] at ho ⊢
   split at ho
   ·cases ho
    rw[if_pos (by lia)]
    rcases hpn rfl with z | z | z
    ·lia
    ·exact absurd hw (z w)
    ·rw[hw] at z;exact congrArg (fun x=>some x) z.symm
   ·cases ho
  ·rw[if_neg hi] at ho ⊢
   exact s.pn w o hw ho
theorem RS.putV(s:RS K B F H σ δ)(i:Nat)(r:Rep F v d):RS K B F H (σ.set i (some v)) (δ.set i (some (.val d))):=s.put i r (fun h=>by cases h) (fun h=>by cases h) fun _ _ _ _ _ _ _ _ h _=>h
theorem RS.drop(s:RS K B F H σ δ)(i:Nat):RS K B F H σ (δ.set i none):=by
 refine⟨s.fh,s.bh,by simp[s.len],fun j e h=>?_,fun a b l ds e hab h1 h2 h3 h4=>?_,fun a b e1 e2 v1 v2 ad hab h1 h2 h3 h4 h5 h6 h7=>?_,fun w o hw ho=>?_⟩
 ·rw[List.getElem?_set] at h
  split at h
  ·split at h <;> cases h
  ·exact s.ent j e h
 ·rw[List.getElem?_set] at h1 h3
  split at h1
  ·split at h1 <;> cases h1
  ·split at h3
   ·split at h3 <;> cases h3
   ·exact s.ap a b l ds e hab h1 h2 h3 h4
 ·rw[List.getElem?_set] at h1 h3
  split at h1
  ·split at h1 <;> cases h1
  ·split at h3
   ·split at h3 <;> cases h3
   ·exact s.ao a b e1 e2 v1 v2 ad hab h1 h2 h3 h4 h5 h6 h7
 ·rw[List.getElem?_set] at ho
  split at ho
  ·split at ho <;> cases ho
  ·exact s.pn w o hw ho
theorem RS.lies{i:Nat}(s:RS K B F H σ δ)(h:δ[i]? = some (some e))(k:e.lk=true)(q:σ[i]? = some (some (.ref l))):∃ o,H l=some o:=by
 obtain⟨v,h1,h2⟩:=s.ent i e h
 rw[q] at h1
 cases h1
 cases e with
 | own ds=>obtain⟨l',vs,e,h3,_⟩:=h2;cases e;exact⟨_,h3⟩
 | vw ds=>obtain⟨l',vs,e,h3,_⟩:=h2;cases e;exact⟨_,h3⟩
 | _=>cases k
noncomputable def toN:Ent->Option Ent
 | .val d=>some (.val d)
 | .own ds=>some (.own ds)
 | _=>none
theorem RS.putR{e':Ent}(s:RS K B F H σ δ)(x:Ex F H F' H')(i:Nat)(r:RepR K H F' H' v e)(q:toN e=some e'):RS K B F' H' (σ.set i (some v)) (δ.set i (some e')):=by
 cases e with
 | val d=>cases q;exact(s.ext x).putV i r
 | own ds=>
  cases q
  obtain⟨l,vs,e,h0,h1,rs,h2⟩:=r
  refine(s.ext x).put i ⟨l,vs,e,h1,rs,h2,s.bh.free h0⟩ (fun _ j e' _ h3 h4 l' ex2 h5=>?_) (fun z=>by cases z) fun j e' w a _ h3 h4 _ h5 h6=>?_
  ·rw[e] at ex2
   cases ex2
   obtain⟨o,h6⟩:=s.lies h3 h4 h5
   rw[h0] at h6
   cases h6
  ·obtain⟨u,h7⟩:=s.occ h3 h4 (h6.backX (s.at h3 h4) x)
   rw[e] at h5
   cases (show V.ref l=.ref a from h5)
   rw[h0] at h7
   cases h7
 | _=>cases q
theorem RS.putO{o:OT}(s:RS K B F H σ δ)(x:Ex F H F' H')(i:Nat)(h0:0<i)(r:RepR K H F' H' v (.obj o)):RS K B F' H' (σ.set i (some v)) (δ.set i (some (.obj o))):=by
 obtain⟨_,A,t,n,h⟩:=r
 refine(s.ext x).put i ⟨A,t,n,fun a ha=>⟨(h a ha).1,s.bh.free (h a ha).2⟩⟩ (fun z=>by cases z) (fun _=>.inl h0) fun j e' w a _ h3 h4 _ h5 h6=>?_
 obtain⟨u,h7⟩:=s.occ h3 h4 (h6.backX (s.at h3 h4) x)
 obtain⟨A',t',h5⟩:=h5
 rw[t'.det t] at h5
 rw[(h a h5).2] at h7
 cases h7
theorem RS.mut{i:Nat}{ds':List D}{vs':List V}(s:RS K B F H σ δ)(hi:δ[i]? = some (some (.own ds)))(hs:σ[i]? = some (some (.ref l)))(r:Reps F vs' ds'):RS K B F (upd H l (.lst vs')) σ (δ.set i (some (.own ds'))):=by
 obtain⟨v,h1,l',vs,e,h2,h3,h4,h5⟩:=s.ent i _ hi
 rw[hs] at h1
 cases h1
 cases e
 have mv:∀ (j:Nat) (w:V) (o:OT) (A:List Addr),i ≠ j->δ[j]? = some (some (.obj o))->σ[j]? = some (some w)->TR K F H w o A->TR K F (upd H l (.lst vs')) w o A:=fun j w o A hij q q' t=>
  t.move (Same.refl F) fun a ha=>zah fun z=>by subst z;exact s.ao j i _ _ _ _ a (Ne.symm hij) q q' hi hs rfl ⟨A,t,ha⟩ rfl
 refine⟨fun b o q=>?_,fun b o q=>?_,by simp[s.len],fun j e q=>?_,fun a b l2 es e' hab q1 q2 q3 q4=>?_,fun a b e1 e2 v1 v2 ad hab q1 q2 q3 q4 q5 q6 q7=>?_,fun w o hw ho=>?_⟩
 ·rw[zah (zaL q h4)];exact s.fh b o q
 ·rw[zah (zaL q h5)];exact s.bh b o q
 ·rw[List.getElem?_set] at q
  by_cases hij:i=j
  ·subst hij
   rw[if_pos rfl] at q
   split at q
   ·cases q;exact⟨_,hs,l,vs',rfl,zae,r,h4,h5⟩
   ·cases q
  ·rw[if_neg hij] at q
   obtain⟨w,p1,p2⟩:=s.ent j e q
   refine⟨w,p1,?_⟩
   cases e with
   | val d=>exact p2
   | bor ds=>exact p2
   | own es=>
    obtain⟨l2,ws,ex2,p3,p4⟩:=p2
    refine⟨l2,ws,ex2,?_,p4⟩
    rw[zah (fun z=>s.ap i j l ds _ hij hi hs q rfl (by rw[p1,ex2,z]))]
    exact p3
   | vw es=>
    obtain⟨l2,ws,ex2,p3,p4⟩:=p2
    refine⟨l2,ws,ex2,?_,p4⟩
    rw[zah (fun z=>s.ap i j l ds _ hij hi hs q rfl (by rw[p1,ex2,z]))]
    exact p3
   | obj o=>
    obtain⟨A,t,n,h⟩:=p2
    exact⟨A,mv j w o A hij q p1 t,n,h⟩
   | bt ds=>exact p2
 ·rw[List.getElem?_set] at q1 q3
  by_cases hia:i=a
  ·subst hia
   rw[if_neg hab] at q3
   exact s.ap i b l2 ds e' hab hi q2 q3 q4
  ·rw[if_neg hia] at q1
   by_cases hib:i=b
   ·subst hib
    exact s.ap a i l2 es _ hab q1 q2 hi rfl
   ·rw[if_neg hib] at q3
    exact s.ap a b l2 es e' hab q1 q2 q3 q4
 ·rw[List.getElem?_set] at q1 q3
  have bk:∀ (j:Nat) (e:Ent) (w:V),i ≠ j->δ[j]? = some (some e)->σ[j]? = some (some w)->Occ K F (upd H l (.lst vs')) w e ad->Occ K F H w e ad:=fun j e w hij z1 z2 z3=>z3.back (s.at z1 z2) fun o A he t=>by
   subst he;exact mv j w o A hij z1 z2 t
  by_cases hia:i=a
  ·subst hia
   rw[if_pos rfl] at q1
   split at q1
   ·cases q1;cases q5
   ·cases q1
  ·rw[if_neg hia] at q1
   by_cases hib:i=b
   ·subst hib
    rw[if_pos rfl] at q3
    split at q3
    ·cases q3
     rw[hs] at q4
     cases q4
     exact s.ao a i e1 _ v1 _ ad hab q1 q2 hi hs q5 (bk a e1 v1 hia q1 q2 q6) q7
    ·cases q3
   ·rw[if_neg hib] at q3
    exact s.ao a b e1 e2 v1 v2 ad hab q1 q2 q3 q4 q5 (bk a e1 v1 hia q1 q2 q6) (bk b e2 v2 hib q3 q4 q7)
 ·rw[List.getElem?_set] at ho
  split at ho
  ·split at ho <;> cases ho
  ·exact s.pn w o hw ho
theorem RS.frz{i:Nat}(s:RS K B F H σ δ)(hi:δ[i]? = some (some (.own ds))):∃ F',FX B F F'/\RS K B F' H σ (δ.set i (some (.val (.lst ds)))):=by
 obtain⟨v,h1,l,vs,e,h2,h3,h4,h5⟩:=s.ent i _ hi
 subst e
 refine⟨upd F l (.lst vs),⟨Same.alloc h4,fun a o e _=>zah (zaL e h5)⟩,?_⟩
 have sm:Same F (upd F l (.lst vs)):=Same.alloc h4
 refine⟨fun b o q=>?_,s.bh,by simp[s.len],fun j e q=>?_,fun a b l2 es e' hab q1 q2 q3 q4=>?_,fun a b e1 e2 v1 v2 ad hab q1 q2 q3 q4 q5 q6 q7=>?_,fun w o hw ho=>?_⟩
 ·by_cases hb:b=l
  ·subst hb;rw[zae] at q;cases q;exact h2
  ·rw[zah hb] at q;exact s.fh b o q
 ·rw[List.getElem?_set] at q
  by_cases hij:i=j
  ·subst hij
   rw[if_pos rfl] at q
   split at q
   ·cases q;exact⟨_,h1,.lst zae (h3.mono sm)⟩
   ·cases q
  ·rw[if_neg hij] at q
   obtain⟨w,p1,p2⟩:=s.ent j e q
   refine⟨w,p1,?_⟩
   cases e with
   | val d=>exact Rep.mono sm p2
   | bor es=>obtain⟨l2,ws,ex2,p3,p4⟩:=p2;exact⟨l2,ws,ex2,p3,p4.mono sm⟩
   | own es=>
    obtain⟨l2,ws,ex2,p3,p4,p5,p6⟩:=p2
    refine⟨l2,ws,ex2,p3,p4.mono sm,?_,p6⟩
    rw[zah (fun z=>s.ap i j l ds _ hij hi h1 q rfl (by rw[p1,ex2,z]))]
    exact p5
   | vw es=>obtain⟨l2,ws,ex2,p3,p4⟩:=p2;exact⟨l2,ws,ex2,p3,p4.mono sm⟩
   | obj o=>
    obtain⟨A,t,n,h⟩:=p2
    refine⟨A,t.move sm fun _ _=>rfl,n,fun a ha=>⟨?_,(h a ha).2⟩⟩
    rw[zah (fun z=>by subst z;exact s.ao j i _ _ _ _ a (Ne.symm hij) q p1 hi h1 rfl ⟨A,t,ha⟩ rfl)]
    exact(h a ha).1
   | bt es=>obtain⟨l2,ws,ex2,p3,p4⟩:=p2;exact⟨l2,ws,ex2,p3,p4.mono sm⟩
 ·rw[List.getElem?_set] at q1 q3
  by_cases hia:i=a
  ·subst hia
   rw[if_pos rfl] at q1
   split at q1 <;> cases q1
  ·rw[if_neg hia] at q1
   by_cases hib:i=b
   ·subst hib
    rw[if_pos rfl] at q3
    split at q3
    ·cases q3;cases q4
    ·cases q3
   ·rw[if_neg hib] at q3
    exact s.ap a b l2 es e' hab q1 q2 q3 q4
 ·rw[List.getElem?_set] at q1 q3
  by_cases hia:i=a
  ·subst hia
   rw[if_pos rfl] at q1
   split at q1
   ·cases q1;cases q5
   ·cases q1
  ·rw[if_neg hia] at q1
   have b1:=q6.back (s.at q1 q2) fun o A _ t=>t.move sm fun _ _=>rfl
   by_cases hib:i=b
   ·subst hib
    rw[if_pos rfl] at q3
    split at q3
    ·cases q3;exact q7
    ·cases q3
   ·rw[if_neg hib] at q3
    exact s.ao a b e1 e2 v1 v2 ad hab q1 q2 q3 q4 q5 b1 (q7.back (s.at q3 q4) fun o A _ t=>t.move sm fun _ _=>rfl)
 ·rw[List.getElem?_set] at ho
  split at ho
  ·split at ho <;> cases ho
  ·exact s.pn w o hw ho
end
noncomputable def SemS(K:PySem.W.Frag)(t:TS)(f:FS):Prop:=∀ (B:Bd) (F H:Hp) (σ:Sg) (δ:En) (out:Out) (DD:Ends),RS K B F H σ δ->f δ=some out->EndOk K B F DD out->t DD σ H
structure VS(X:Cx)(s:Stmt)(f:FS):Prop where
 h:∃ t,WS X s t/\SemS X.K t f
structure VSs(X:Cx)(s:List Stmt)(f:FS):Prop where
 h:∃ t,WSs X s t/\SemS X.K t f
noncomputable def fNx:FS:=fun δ=>some (.nx δ)
noncomputable def fNev:FS:=fun _=>none
noncomputable def sqO(g:FS):Out->Option Out
 | .nx δ=>g δ
 | o=>some o
noncomputable def zbq(f g:FS):FS:=fun δ=>(f δ).bind (sqO g)
noncomputable def zcI(i:Nat)(fe:FE):FS:=fun δ=>(fe δ).bind fun r=>(toN r).map fun e=>.nx (δ.set i (some e))
noncomputable def fIf(ft:FT)(f g:FS):FS:=fun δ=>(ft δ).bind fun b=>if b=true then f δ else g δ
noncomputable def zb4(fe:FE):FS:=fun δ=>(fe δ).bind fun r=>(toN r).map fun e=>.rt e δ
noncomputable def fRetV(i:Nat):FS:=fun δ=>match δ[i]? with
 | some (some (.own ds))=>some (.rt (.own ds) (δ.set i none))
 | some (some (.val d))=>some (.rt (.val d) δ)
 | _=>none
noncomputable def fFrz(i:Nat)(g:FS):FS:=fun δ=>match δ[i]? with
 | some (some (.own ds))=>g (δ.set i (some (.val (.lst ds))))
 | _=>none
noncomputable def zhy(i:Nat)(fe:FE):FS:=fun δ=>match δ[i]? with
 | some (some (.own ds))=>((fe δ).bind asV).bind fun d=>gif (sz (ds.length+1)) (some (.nx (δ.set i (some (.own (ds ++ [d]))))))
 | _=>none
noncomputable def iOf:Ent->Option Int
 | .val (.int i)=>some i
 | _=>none
theorem zav{e:Ent}{i:Int}(h:iOf e=some i):e=.val (.int i):=by
 cases e with
 | val d=>cases d <;> first | (cases h;rfl) | (cases h)
 | _=>cases h
noncomputable def fSIx(i:Nat)(fi fe:FE):FS:=fun δ=>match δ[i]? with
 | some (some (.own ds))=>((fe δ).bind asV).bind fun d=>((fi δ).bind iOf).bind fun k=>(ixN ds.length k).map fun j=>.nx (δ.set i (some (.own (ds.set j d))))
 | _=>none
noncomputable abbrev FG:=D->En->Option En
noncomputable def lpO(lp:En->Option Out):Out->Option Out
 | .nx δ=>lp δ
 | .ct δ=>lp δ
 | .bk δ=>some (.nx δ)
 | o=>some o
noncomputable def loop(tg:FG)(f:FS):List D->En->Option Out
 | [],δ=>some (.nx δ)
 | d :: ds,δ=>(tg d δ).bind fun δ1=>(f δ1).bind (lpO (loop tg f ds))
noncomputable abbrev FI:=En->Option (List D)
noncomputable def zfF(fi:FI)(tg:FG)(f:FS):FS:=fun δ=>(fi δ).bind fun ds=>loop tg f ds δ
noncomputable def whl(c:FT)(f:FS):Nat->En->Option Out
 | 0,_=>none
 | n+1,δ=>(c δ).bind fun b=>if b=true then (f δ).bind (lpO (whl c f n)) else some (.nx δ)
noncomputable def gNm(i:Nat):FG:=fun d δ=>some (δ.set i (some (.val d)))
noncomputable abbrev FGs:=List D->En->Option En
noncomputable def gsNil:FGs:=fun ds δ=>match ds with
 | []=>some δ
 | _=>none
noncomputable def zdo(g:FG)(gs:FGs):FGs:=fun ds δ=>match ds with
 | d :: r=>(g d δ).bind (gs r)
 | []=>none
noncomputable def gTp(gs:FGs):FG:=fun d δ=>match d with
 | .tup ds=>gs ds δ
 | _=>none
noncomputable def SemG(K:PySem.W.Frag)(g:TG)(tg:FG):Prop:=∀ (B:Bd) (F H:Hp) (σ:Sg) (δ δ':En) (v:V) (d:D) (Q:L2.St->Hp->Prop),RS K B F H σ δ->Rep F v d->tg d δ=some δ'->(∀ σ',RS K B F H σ' δ'->Q σ' H)->g v σ H Q
noncomputable def SemGs(K:PySem.W.Frag)(g:TGs)(tg:FGs):Prop:=∀ (B:Bd) (F H:Hp) (σ:Sg) (δ δ':En) (vs:List V) (ds:List D) (Q:L2.St->Hp->Prop),RS K B F H σ δ->Reps F vs ds->tg ds δ=some δ'->(∀ σ',RS K B F H σ' δ'->Q σ' H)->g vs σ H Q
structure VG(X:Cx)(e:Expr)(f:FG):Prop where
 h:∃ t,WG X e t/\SemG X.K t f
structure VGs(X:Cx)(es:List Expr)(f:FGs):Prop where
 h:∃ t,WGs X es t/\SemGs X.K t f
noncomputable def ItOk(B F0:Hp)(J:It)(ds:List D):Prop:=∀ F H,Same F0 F->Same F H->Same B H->J.stop ds.length H/\∀ (i:Nat) (d:D),ds[i]? = some d->J.go i H/\∀ x H',J.yld i H x H'->∃ F',Ex F H F' H'/\Rep F' x d
noncomputable def SemI(K:PySem.W.Frag)(t:TI)(fi:FI):Prop:=∀ (B:Bd) (F H:Hp) (σ:Sg) (δ:En) (ds:List D) (R:It->Hp->Prop),RS K B F H σ δ->fi δ=some ds->(∀ J F' H',Ex F H F' H'->ItOk B F' J ds->R J H')->t σ H R
structure VI(X:Cx)(tg e:Expr)(f:FI):Prop where
 h:∃ t,WI X tg e t/\SemI X.K t f
section
variable {X:Cx}{e c tg iter:Expr}{es:List Expr}{pos pos' p:Pos}{fe fa:FE}{ft:FT}{x:Str}{st:Stmt}{sr body els:List Stmt}{f g:FS}{fi:FI}{tgf:FG}{tgs:FGs}
theorem ss0:VSs X [] fNx:=⟨_,s0,fun B F H σ δ out DD s q k=>by cases q;exact k σ F H s FX.refl⟩
theorem ss1(h:VS X st f):VSs X [st] f:=let⟨_,w,s⟩:=h.h;⟨_,s1 w,s⟩
theorem ssc(h1:VS X st f)(h2:VSs X sr g):VSs X (st :: sr) (zbq f g):=by
 obtain⟨t,w1,m1⟩:=h1.h
 obtain⟨u,w2,m2⟩:=h2.h
 refine⟨_,sc w1 w2,fun B F H σ δ out DD s q k=>?_⟩
 obtain⟨o,q1,q⟩:=bind_some q
 refine m1 B F H σ δ o _ s q1 ?_
 cases o with
 | nx δ'=>exact fun σ' F' H' s' y=>m2 B F' H' σ' δ' out DD s' q (k.mono y)
 | rt r δ'=>cases q;exact k
 | bk δ'=>cases q;exact k
 | ct δ'=>cases q;exact k
theorem ssNev:VSs X sr fNev:=⟨_,ssn,fun B F H σ δ out DD s q k=>by cases q⟩
theorem sFrz(i:Nat)(h:VSs X sr g):VSs X sr (fFrz i g):=by
 obtain⟨u,w2,m2⟩:=h.h
 refine⟨_,w2,fun B F H σ δ out DD s q k=>?_⟩
 unfold fFrz at q
 split at q
 ·rename_i ds hi
  obtain⟨F',x,s'⟩:=s.frz hi
  exact m2 B F' H σ _ out DD s' q (k.mono x)
 ·cases q
theorem SemE.ret{K:PySem.W.Frag}{t:TE}(m:SemE K t fe):SemS K (zhr t) (zb4 fe):=fun B F H σ δ out DD s q k=>by
 obtain⟨r,q1,q⟩:=bind_some q
 obtain⟨e,q2,q⟩:=map_some q
 cases q
 refine m B F H σ δ r _ s q1 fun v F' H' x z=>k v σ F' H' (s.ext x) (.of x s.bh) ?_
 cases r with
 | val d=>cases q2;exact z
 | own ds=>cases q2;exact RepR.earlier z s.bh
 | _=>cases q2
theorem zde(he:VE X e fe):VS X (.Return (some e) pos) (zb4 fe):=let⟨_,w,m⟩:=he.h;⟨_,sret w,m.ret⟩
theorem sRetV(i:Nat)(hN:X.N[i]? = some x:=by rfl)(hv:Vis X.env.scope x:=by first | exact Or.inl rfl | exact Or.inr (Or.inl rfl) | exact Or.inr (Or.inr rfl))(hd:(x == ("__debug__" : Str))=false:=by decide)
  (hcd:(x == ("__classdict__" : Str))=false:=by decide):VS X (.Return (some (.Name x p)) pos) (fRetV i):=by
 refine⟨_,sret (wv i hN hv hd hcd),fun B F H σ δ out DD s q k=>?_⟩
 unfold fRetV at q
 split at q
 ·rename_i ds e
  cases q
  obtain⟨v,h1,h2⟩:=s.ent i _ e
  refine⟨v,h1,k v σ F H (s.drop i) .refl ?_⟩
  obtain⟨l,vs,e,h3,h4,h5,h6⟩:=h2
  exact⟨l,vs,e,h6,h3,h4,h5⟩
 ·rename_i d e
  cases q
  obtain⟨v,h1,h2⟩:=s.ent i _ e
  exact⟨v,h1,k v σ F H s .refl h2⟩
 ·cases q
theorem sIf(hc:VT X c ft)(ha:VSs X body f)(hb:VSs X els g):VS X (.If c body els pos) (fIf ft f g):=by
 obtain⟨t,w,m⟩:=hc.h
 obtain⟨t1,w1,m1⟩:=ha.h
 obtain⟨t2,w2,m2⟩:=hb.h
 refine⟨_,sif w w1 w2,fun B F H σ δ out DD s q k=>?_⟩
 obtain⟨b,q1,q⟩:=bind_some q
 refine m B F H σ δ b _ s q1 fun F' H' x=>?_
 cases b with
 | true=>exact iteT (m1 B F' H' σ δ out DD (s.ext x) q (k.mono (.of x s.bh)))
 | false=>exact zgu (m2 B F' H' σ δ out DD (s.ext x) q (k.mono (.of x s.bh)))
theorem SemE.set{K:PySem.W.Frag}{t:TE}(i:Nat)(m:SemE K t fe):SemS K (zdS t (zbJ i)) (zcI i fe):=fun B F H σ δ out DD s q k=>by
 obtain⟨r,q1,q⟩:=bind_some q
 obtain⟨e,q2,q⟩:=map_some q
 cases q
 exact m B F H σ δ r _ s q1 fun v F' H' x z=>k _ F' H' (s.putR x i z q2) (.of x s.bh)
theorem zee{i:Nat}(hN:X.N.Nodup)(hi:X.N[i]? = some x)(hx:Loc X.env.scope x)(he:VE X e fe)(hs:swapsWith e (some (.Name x pos')) pos.line X.env=pure false:=by rfl)(hf:X.fn x=true \/ X.env.scope.names.lookup x=some .local:=by first | exact .inl rfl | exact .inr rfl | assumption) :
  VS X (.Assign [.Name x pos'] e pos) (zcI i fe):=let⟨_,w,m⟩:=he.h;⟨_,sset hN hi hx w hs hf,m.set i⟩
noncomputable def fAsg(tg:FG)(fe:FE):FS:=fun δ=>((fe δ).bind asV).bind fun d=>(tg d δ).map .nx
theorem sAsg(he:VE X e fe)(hg:VG X tg tgf)(hs:swapsWithSole [tg] e pos.line X.env=pure false:=by rfl)(hw:swappedStores [tg] e X.env=pure none:=by rfl)(h1:(assignEach [tg] X.env).map (·.2)=[assign tg X.env]:=by rfl):VS X (.Assign [tg] e pos) (fAsg tgf fe):=by
 obtain⟨t,w,m⟩:=he.h
 obtain⟨t1,w1,m1⟩:=hg.h
 refine⟨_,sasg w w1 hs hw h1,fun B F H σ δ out DD s q k=>?_⟩
 obtain⟨d,q1,q⟩:=bind_some q
 obtain⟨δ',q2,q⟩:=map_some q
 obtain⟨r,q3,q4⟩:=bind_some q1
 cases q
 refine m B F H σ δ r _ s q3 fun v F' H' x z=>?_
 obtain⟨F2,x2,_,r2⟩:=RepR.frz x (Same.refl _) z q4
 exact m1 B F2 H' σ δ δ' v d _ (s.ext x2) r2 q2 fun σ' s'=>k σ' F2 H' s' (.of x2 s.bh)
theorem gnm{i:Nat}(hN:X.N.Nodup)(hi:X.N[i]? = some x)(hx:Loc X.env.scope x)(hf:X.fn x=true \/ X.env.scope.names.lookup x=some .local:=by first | exact .inl rfl | exact .inr rfl | assumption):VG X (.Name x pos) (gNm i):=
 ⟨_,gn hN hi hx hf,fun B F H σ δ δ' v d Q s r q k=>by cases q;exact k _ (s.putV i r)⟩
theorem gns0:VGs X [] gsNil:=⟨_,gs0,fun B F H σ δ δ' vs ds Q s r q k=>by
 cases r with
 | nil=>cases q;exact⟨rfl,k σ s⟩
 | cons _ _=>cases q⟩
theorem gns1(h1:VG X e tgf)(h2:VGs X es tgs)(hs:(assignEach (e :: es) X.env).map (·.2)=assign e X.env :: (assignEach es X.env).map (·.2):=by rfl):VGs X (e :: es) (zdo tgf tgs):=by
 obtain⟨t,w,m⟩:=h1.h
 obtain⟨t1,w1,m1⟩:=h2.h
 refine⟨_,gs1 w w1 hs,fun B F H σ δ δ' vs ds Q s r q k=>?_⟩
 cases r with
 | nil=>cases q
 | cons r1 r2=>
  obtain⟨δ1,q1,q⟩:=bind_some q
  exact⟨_,_,rfl,m B F H σ δ δ1 _ _ _ s r1 q1 fun σ' s'=>m1 B F H σ' δ1 δ' _ _ _ s' r2 q k⟩
theorem gtp{k n:Nat}(hc:X.calm=true)(h:VGs X es tgs)(hn:(assignEach es X.env).length=n:=by rfl)(hst:(assignEach es X.env).findIdx? (·.1)=none:=by rfl)(hl:∀ ds δ δ',tgs ds δ=some δ'->ds.length=n:=by intro ds δ δ' h;match ds,h with | [_],_=>rfl | [_,_],_=>rfl | [_,_,_],_=>rfl | [_,_,_,_],_=>rfl):VG X (.Tuple es k pos) (gTp tgs):=by
 obtain⟨t,w,m⟩:=h.h
 refine⟨_,gt hc w hn hst,fun B F H σ δ δ' v d Q s r q k=>?_⟩
 cases d with
 | tup ds=>
  cases r with
  | tup e rs=>exact⟨_,_,rfl,SqT.of (s.fh _ _ e),by rw[rs.length];exact hl _ _ _ q,m B F H σ δ δ' _ ds _ s rs q k⟩
 | _=>cases q
theorem SemS.for{K:PySem.W.Frag}{wi:TI}{g:TG}{tb:TS}(mi:SemI K wi fi)(mg:SemG K g tgf)(mb:SemS K tb f):SemS K (tFor wi g tb) (zfF fi tgf f):=fun B F H σ δ out DD s q k=>by
 obtain⟨ds,q1,q⟩:=bind_some q
 refine mi B F H σ δ ds _ s q1 fun J F1 H1 x1 io=>?_
 have k1:EndOk K B F1 DD out:=k.mono (.of x1 s.bh)
 refine⟨fun i m σ' H'=>m=ds.length - i/\i<=ds.length/\∃ F' δ',RS K B F' H' σ' δ'/\FX B F1 F'/\loop tgf f (ds.drop i) δ'=some out,⟨_,rfl,Nat.zero_le _,F1,δ,s.ext x1,.refl,q⟩,?_⟩
 rintro i m σ' H' ⟨rfl,hi,F',δ',s',y',q'⟩
 obtain⟨hstop,hgo⟩:=io F' H' y'.ff s'.fh s'.bh
 by_cases hlt:i<ds.length
 ·right
  have hd:ds[i]? = some ds[i]:=by simp[hlt]
  obtain⟨g1,g2⟩:=hgo i _ hd
  rw[List.drop_eq_getElem_cons hlt] at q'
  obtain⟨δ1,q2,q'⟩:=bind_some q'
  obtain⟨o,q3,q'⟩:=bind_some q'
  refine⟨g1,fun σ2 H2=>ds.length - (i+1)=ds.length - (i+1)/\i+1<=ds.length/\∃ F' δ',RS K B F' H2 σ2 δ'/\FX B F1 F'/\loop tgf f (ds.drop (i+1)) δ'=some out,fun σ2 H2 hN=>⟨_,by lia,hN⟩,fun v H2 yl=>?_⟩
  obtain⟨F2,x2,r2⟩:=g2 v H2 yl
  refine mg B F2 H2 σ' δ' δ1 v _ _ (s'.ext x2) r2 q2 fun σ3 s3=>?_
  have y2:FX B F1 F2:=y'.trans (.of x2 s'.bh)
  refine mb B F2 H2 σ3 δ1 o _ s3 q3 ?_
  cases o with
  | nx δ2=>exact fun σ4 F4 H4 s4 y4=>⟨rfl,hlt,F4,δ2,s4,y2.trans y4,q'⟩
  | ct δ2=>exact fun σ4 F4 H4 s4 y4=>⟨rfl,hlt,F4,δ2,s4,y2.trans y4,q'⟩
  | bk δ2=>cases q';exact fun σ4 F4 H4 s4 y4=>k1 σ4 F4 H4 s4 (y2.trans y4)
  | rt r δ2=>cases q';exact fun v σ4 F4 H4 s4 y4 z=>k1 v σ4 F4 H4 s4 (y2.trans y4) z
 ·left
  have e:i=ds.length:=by lia
  subst e
  rw[List.drop_length] at q'
  cases q'
  exact⟨hstop,k1 σ' F' H' s' y'⟩
theorem sFor(hi:VI X tg iter fi)(hg:VG X tg tgf)(hb:VSs X body f)(hp:PassesOwn (model X.prog X.w) X.A X.env X.xe:=by exact PassesOwn.never)(hc:X.calm=true:=by rfl)(hs:∀ z,foldedSetIterable iter X.env z=pure z:=by intro _;rfl):VS X (.For tg iter body [] pos) (zfF fi tgf f):=
 let⟨_,wi,mi⟩:=hi.h;let⟨_,wg,mg⟩:=hg.h;let⟨_,wb,mb⟩:=hb.h;⟨_,sfor hp hc wi wg wb hs,.for mi mg mb⟩
theorem sWhl(n:Nat)(hc:VT X c ft)(hb:VSs X body f)(hp:PassesOwn (model X.prog X.w) X.A X.env X.xe:=by exact PassesOwn.never):VS X (.While c body [] pos) (whl ft f n):=by
 obtain⟨tc,wc,mc⟩:=hc.h
 obtain⟨tb,wb,mb⟩:=hb.h
 refine⟨_,swhile hp wc wb,fun B F H σ δ out DD s q k=>?_⟩
 refine⟨fun m σ' H'=>∃ F' δ',RS X.K B F' H' σ' δ'/\FX B F F'/\whl ft f m δ'=some out,⟨n,F,δ,s,.refl,q⟩,?_⟩
 rintro m σ' H' ⟨F',δ',s',y',q'⟩
 cases m with
 | zero=>cases q'
 | succ m=>
  obtain⟨b,q1,q'⟩:=bind_some q'
  refine mc B F' H' σ' δ' b _ s' q1 fun F1 H1 x1=>?_
  have y1:FX B F F1:=y'.trans (.of x1 s'.bh)
  cases b with
  | false=>cases q';exact zgu (k σ' F1 H1 (s'.ext x1) y1)
  | true=>
   refine iteT ?_
   obtain⟨o,q3,q'⟩:=bind_some q'
   refine⟨fun σ2 H2=>∃ F' δ',RS X.K B F' H2 σ2 δ'/\FX B F F'/\whl ft f m δ'=some out,fun σ2 H2 hN=>⟨m,Nat.lt_succ_self m,hN⟩,?_⟩
   refine mb B F1 H1 σ' δ' o _ (s'.ext x1) q3 ?_
   cases o with
   | nx δ2=>exact fun σ4 F4 H4 s4 y4=>⟨F4,δ2,s4,y1.trans y4,q'⟩
   | ct δ2=>exact fun σ4 F4 H4 s4 y4=>⟨F4,δ2,s4,y1.trans y4,q'⟩
   | bk δ2=>cases q';exact fun σ4 F4 H4 s4 y4=>k σ4 F4 H4 s4 (y1.trans y4)
   | rt r δ2=>cases q';exact fun v σ4 F4 H4 s4 y4 z=>k v σ4 F4 H4 s4 (y1.trans y4) z
theorem sApp(i:Nat){apos cpos:Pos}(he:VE X e fe)(hN:X.N[i]? = some x:=by rfl)(hv:Vis X.env.scope x:=by first | exact Or.inl rfl | exact Or.inr (Or.inl rfl) | exact Or.inr (Or.inr rfl))(hd:(x == ("__debug__" : Str))=false:=by decide)(hcd:(x == ("__classdict__" : Str))=false:=by decide)
  (hbase:attributeBase (.Name x p) "append" X.env (eval (.Name x p) X.env)=eval (.Name x p) X.env:=by rfl) (hline:(apos.endLine == cpos.line)=true:=by rfl) (h1:zap e=true:=by rfl)
  (hs:swapsWith (.Call (.Attribute (.Name x p) "append" apos) [e] [] cpos) none pos.line X.env=pure false:=by rfl) :
  VS X (.Expr (.Call (.Attribute (.Name x p) "append" apos) [e] [] cpos) pos) (zhy i fe):=by
 obtain⟨t,w,m⟩:=he.h
 refine⟨_,sex (wbm PySem.F.plainAttrs_list PySem.F.slot_list_append PySem.F.type_list_append zfV (wv i hN hv hd hcd) (wac w zg4 h1) hbase rfl hline h1 rfl) hs,fun B F H σ δ out DD s q k=>?_⟩
 unfold zhy at q
 split at q
 ·rename_i ds hi
  obtain⟨d,q1,q⟩:=bind_some q
  obtain⟨r,q2,q3⟩:=bind_some q1
  obtain⟨hl,qz⟩:=zaX q
  cases qz
  obtain⟨v,h1,l,vs,e,h2,h3,h4,h5⟩:=s.ent i _ hi
  subst e
  refine⟨_,h1,.inl ⟨rfl,vs,SqL.of h2⟩,?_⟩
  refine m B F H σ δ r _ s q2 fun y F1 H1 x1 z=>?_
  obtain⟨F2,x2,sm,r2⟩:=RepR.frz x1 (Same.refl _) z q3
  refine⟨l,vs,y,rfl,rfl,x2.hh _ _ h2,?_,?_⟩
  ·rw[h3.length,sizeLine_eq];unfold sz at hl;lia
  ·exact k σ F2 _ ((s.ext x2).mut hi h1 ((h3.mono x2.ff).append (.one r2))) (.of x2 s.bh)
 ·cases q
theorem sSIx(i:Nat){ix:Expr}{fx:FE}{tpos:Pos}(he:VE X e fe)(hx:VE X ix fx)(hN:X.N[i]? = some x:=by rfl)(hv:Vis X.env.scope x:=by first | exact Or.inl rfl | exact Or.inr (Or.inl rfl) | exact Or.inr (Or.inr rfl))(hd:(x == ("__debug__" : Str))=false:=by decide)(hcd:(x == ("__classdict__" : Str))=false:=by decide)
  (hg:∀ {to ti:TE},WE X (.Name x p) to->WE X ix ti->WG X (.Subscript (.Name x p) ix tpos) (gSub to ti rSetL))
  (hs:swapsWithSole [.Subscript (.Name x p) ix tpos] e pos.line X.env=pure false:=by rfl) (hw:swappedStores [.Subscript (.Name x p) ix tpos] e X.env=pure none:=by rfl) (h1:(assignEach [.Subscript (.Name x p) ix tpos] X.env).map (·.2)=[assign (.Subscript (.Name x p) ix tpos) X.env]:=by rfl) :
  VS X (.Assign [.Subscript (.Name x p) ix tpos] e pos) (fSIx i fx fe):=by
 obtain⟨t,w,m⟩:=he.h
 obtain⟨t2,w2,m2⟩:=hx.h
 refine⟨_,sasg w (hg (wv i hN hv hd hcd) w2) hs hw h1,fun B F H σ δ out DD s q k=>?_⟩
 unfold fSIx at q
 split at q
 ·rename_i ds hi
  obtain⟨d,q1,q⟩:=bind_some q
  obtain⟨r,q2,q3⟩:=bind_some q1
  obtain⟨kk,q4,q⟩:=bind_some q
  obtain⟨rk,q5,q6⟩:=bind_some q4
  obtain⟨j,q7,q⟩:=map_some q
  cases q
  cases zav q6
  obtain⟨v,h1,l,vs,e,h2,h3,h4,h5⟩:=s.ent i _ hi
  subst e
  refine m B F H σ δ r _ s q2 fun y F1 H1 x1 z=>?_
  obtain⟨F2,x2,sm,r2⟩:=RepR.frz x1 (Same.refl _) z q3
  refine⟨_,h1,m2 B F2 H1 σ δ _ _ (s.ext x2) q5 fun yk F3 H3 x3 z3=>?_⟩
  cases zaD z3
  refine⟨l,vs,kk,j,rfl,rfl,x3.hh _ _ (x2.hh _ _ h2),by rw[h3.length];exact q7,?_⟩
  exact k σ F3 _ (((s.ext x2).ext x3).mut hi h1 (((h3.mono x2.ff).mono x3.ff).set (Rep.mono x3.ff r2) j)) (.of (x2.trans x3) s.bh)
 ·cases q
end
noncomputable def capt:Ent->Option Ent
 | .own ds=>some (.vw ds)
 | .obj _=>none
 | e=>some e
noncomputable def cEn(fr:List Nat)(δ:En)(d:D):En:=some (.val d) :: fr.map fun i=>((δ[i]?).join).bind capt
noncomputable def zc7(ft:D->Option Bool)(fe:D->Option Ent):List D->Option (List D)
 | []=>some []
 | d :: ds=>(ft d).bind fun b=>if b=true then ((fe d).bind asV).bind fun y=>(zc7 ft fe ds).map fun ys=>y :: ys else zc7 ft fe ds
noncomputable def eLC(fr:List Nat)(fi:FI)(ft:FT)(fe:FE):FE:=fun δ=>(fi δ).bind fun ds=>(zc7 (fun d=>ft (cEn fr δ d)) (fun d=>fe (cEn fr δ d)) ds).bind fun out=>if out.length<=1000000 then some (.own out) else none
theorem RS.cap{K:PySem.W.Frag}{B:Bd}{F H:Hp}{σ:Sg}{δ:En}{v:V}{d:D}(s:RS K B F H σ δ)(fr:List Nat)(r:Rep F v d):RS K B F H (some v :: zd1 fr σ) (cEn fr δ d):=by
 have key:∀ (j:Nat) (e:Ent),(cEn fr δ d)[j+1]? = some (some e)->∃ i e',fr[j]? = some i/\δ[i]? = some (some e')/\capt e'=some e:=fun j e h=>by
  unfold cEn at h
  rw[List.getElem?_cons_succ,List.getElem?_map] at h
  cases q:fr[j]? with
  | none=>rw[q] at h;cases h
  | some i=>
   rw[q] at h
   have h':((δ[i]?).join).bind capt=some e:=Option.some.inj h
   obtain⟨e',h1,h2⟩:=bind_some h'
   refine⟨i,e',rfl,?_,h2⟩
   cases z:δ[i]? with
   | none=>rw[z] at h1;cases h1
   | some o=>rw[z] at h1;rw[show o=some e' from h1]
 refine⟨s.fh,s.bh,by simp[cEn,zd1],fun j e h=>?_,fun a b l ds e hab h1=>?_,fun a b e1 e2 v1 v2 ad hab q1 _ _ _ q5=>?_,fun w o _ ho=>by cases ho⟩
 ·cases j with
  | zero=>cases h;exact⟨v,rfl,r⟩
  | succ j=>
   obtain⟨i,e',h1,h2,h0⟩:=key j e h
   obtain⟨w,h3,h4⟩:=s.ent i e' h2
   refine⟨w,?_,?_⟩
   ·show(zd1 fr σ)[j]? = some (some w)
    unfold zd1
    rw[List.getElem?_map,h1]
    show some ((σ[i]?).join)=_
    rw[h3]
    rfl
   ·cases e' with
    | own ds=>cases h0;obtain⟨l,vs,e,h5,h6,_⟩:=h4;exact⟨l,vs,e,h5,h6⟩
    | obj o=>cases o <;> first | (cases h0;obtain⟨A,t,_⟩:=h4;exact⟨A,t⟩) | cases h0
    | _=>cases h0;exact h4
 ·cases a with
  | zero=>cases h1
  | succ a=>
   obtain⟨i,e',_,_,z⟩:=key a _ h1
   cases e' with
   | obj o=>cases o <;> cases z
   | _=>cases z
 ·cases a with
  | zero=>cases q1;cases q5
  | succ a=>
   obtain⟨i,e',_,_,z⟩:=key a _ q1
   cases e' with
   | obj o=>cases o <;> first | (cases z;cases q5) | cases z
   | _=>cases z <;> cases q5
theorem SemE.lc{K:PySem.W.Frag}{fr:List Nat}{wi:TI}{tt:TT}{te:TE}{fi:FI}{ft:FT}{fe:FE}(mi:SemI K wi fi)(mt:SemT K tt ft)(me:SemE K te fe):SemE K (tLC fr wi tt te) (eLC fr fi ft fe):=fun B F H σ δ res Q s q k=>by
 obtain⟨ds,q1,q⟩:=bind_some q
 obtain⟨out,q2,q⟩:=bind_some q
 split at q
 ·rename_i hlen
  cases q
  refine mi B F H σ δ ds _ s q1 fun J F1 H1 x1 io=>?_
  intro a ha
  refine⟨fun i m ys H'=>m=ds.length - i/\i<=ds.length/\∃ F' done rest,Ex F1 H1 F' H'/\F' a=none/\H' a=some (.lst ys)/\Reps F' ys done/\zc7 (fun d=>ft (cEn fr δ d)) (fun d=>fe (cEn fr δ d)) (ds.drop i)=some rest/\out=done ++ rest,
   ⟨_,rfl,Nat.zero_le _,F1,[],out,Ex.lay x1.fh ha,x1.fh.free ha,zae,.nil,q2,rfl⟩,?_⟩
  rintro i m ys H' ⟨rfl,hi,F',dn,rest,x',fa,hH,rs,q',eo⟩
  have s':=(s.ext x1).ext x'
  obtain⟨hstop,hgo⟩:=io F' H' x'.ff x'.fh s'.bh
  by_cases hlt:i<ds.length
  ·right
   have hd:ds[i]? = some ds[i]:=by simp[hlt]
   obtain⟨g1,g2⟩:=hgo i _ hd
   rw[List.drop_eq_getElem_cons hlt] at q'
   obtain⟨b,q3,q'⟩:=bind_some q'
   refine⟨g1,fun v H2 yl=>?_⟩
   obtain⟨F2,x2,r2⟩:=g2 v H2 yl
   have sc:=(s'.ext x2).cap fr r2
   refine mt B F2 H2 _ _ b _ sc q3 fun F3 H3 x3=>?_
   have nn:∀ {Fz Hz:Hp},Ex F' H' Fz Hz->Fz a=none:=fun x=>(x.nw _ _ hH rfl).trans fa
   cases b with
   | false=>
    refine zgu ⟨ds.length - (i+1),by lia,rfl,hlt,F3,dn,rest,(x'.trans x2).trans x3,nn (x2.trans x3),(x2.trans x3).hh _ _ hH,rs.mono (x2.trans x3).ff,q',eo⟩
   | true=>
    refine iteT ?_
    obtain⟨y,q4,q'⟩:=bind_some q'
    obtain⟨r,q5,q6⟩:=bind_some q4
    obtain⟨rest',q7,q'⟩:=map_some q'
    cases q'
    refine me B F3 H3 _ _ r _ (sc.ext x3) q5 fun w F4 H4 x4 z4=>?_
    obtain⟨F5,x5,_,r5⟩:=RepR.frz x4 (Same.refl _) z4 q6
    have xx:Ex F' H' F5 H4:=(x2.trans x3).trans x5
    have hy:ys.length<sizeLine:=by
     rw[rs.length,sizeLine_eq]
     have:out.length=dn.length+(rest'.length+1):=by rw[eo];simp
     lia
    refine⟨xx.hh _ _ hH,hy,ds.length - (i+1),by lia,rfl,hlt,F5,dn ++ [y],rest',?_,nn xx,zae,(rs.mono xx.ff).append (.one r5),q7,by rw[eo];simp⟩
    have xo:=x'.trans xx
    exact⟨xo.ff,fun b o e=>by rw[zah (zaL e (nn xx))];exact xo.fh b o e,fun b o e=>by rw[zah (zaL e ha)];exact xo.hh b o e,xo.nw⟩
  ·left
   have e:i=ds.length:=by lia
   subst e
   rw[List.drop_length] at q'
   cases q'
   rw[List.append_nil] at eo
   subst eo
   refine⟨hstop,k _ F' H' (x1.trans x') ⟨a,ys,rfl,x1.hh.free ha,hH,rs,fa⟩⟩
 ·cases q
noncomputable def tD(K:PySem.W.Frag)(f:FE):TE:=fun σ H Q=>∃ B F δ r,RS K B F H σ δ/\f δ=some r/\∀ v F' H',Ex F H F' H'->RepR K H F' H' v r->Q v H'
noncomputable def tDT(K:PySem.W.Frag)(f:FT):TT:=fun σ H Q=>∃ B F δ b,RS K B F H σ δ/\f δ=some b/\∀ F' H',Ex F H F' H'->Q b H'
theorem semE_tD{K:PySem.W.Frag}{f:FE}:SemE K (tD K f) f:=fun B F _ _ δ r _ s q k=>⟨B,F,δ,r,s,q,k⟩
theorem semT_tD{K:PySem.W.Frag}{f:FT}:SemT K (tDT K f) f:=fun B F _ _ δ r _ s q k=>⟨B,F,δ,r,s,q,k⟩
theorem VE.uni{X:Cx}{e:Expr}{f:FE}(h:VE X e f):WE X e (tD X.K f):=
 let⟨_,w,m⟩:=h.h;⟨fun pins s σ H Q I z=>let⟨B,F,δ,r,s',q,k⟩:=z;w.h pins s σ H Q I (m B F H σ δ r Q s' q k)⟩
theorem VTs.uni{X:Cx}{es:List Expr}{f:FT}(h:VTs X es f):WTs X es (tDT X.K f):=
 let⟨_,w,m⟩:=h.h;⟨fun pins s σ H Q I z=>let⟨B,F,δ,r,s',q,k⟩:=z;w.h pins s σ H Q I (m B F H σ δ r Q s' q k)⟩
section
variable {X:Cx}{N:List Str}{fr:List Nat}{x:Str}{scope:Scope}{iter elt:Expr}{ifs:List Expr}{px pos:Pos}{fi:FI}{fe:FE}{ft:FT}
theorem vlc(S:CompSc X N fr x scope)(hi:VI X (.Name x px) iter fi)
  (ht:∀ (C:Addr) (s₀:Shared) (H₀:Hp) (fp:List Addr),VTs (cxC X N scope C s₀ H₀ fp) ifs ft) (he:∀ (C:Addr) (s₀:Shared) (H₀:Hp) (fp:List Addr),VE (cxC X N scope C s₀ H₀ fp) elt fe)
  (hc:X.calm=true:=by rfl) (hs:∀ z,foldedSetIterable iter X.env z=pure z:=by intro _;rfl):VE X (.ListComp elt [⟨.Name x px,iter,ifs,0⟩] scope pos) (eLC fr fi ft fe):=
 let⟨_,w1,m1⟩:=hi.h;⟨_,wlc S hc w1 (fun C s₀ H₀ fp=>(ht C s₀ H₀ fp).uni) (fun C s₀ H₀ fp=>(he C s₀ H₀ fp).uni) hs,.lc m1 semT_tD semE_tD⟩
theorem sSetLC{i:Nat}{y:Str}{py spos:Pos}(hN:X.N.Nodup)(hi':X.N[i]? = some y)(hy:Loc X.env.scope y)(S:CompSc X N fr x scope)(hi:VI X (.Name x px) iter fi)
  (ht:∀ (C:Addr) (s₀:Shared) (H₀:Hp) (fp:List Addr),VTs (cxC X N scope C s₀ H₀ fp) ifs ft) (he:∀ (C:Addr) (s₀:Shared) (H₀:Hp) (fp:List Addr),VE (cxC X N scope C s₀ H₀ fp) elt fe)
  (hc:X.calm=true:=by rfl) (hsw:swapsWith (.ListComp elt [⟨.Name x px,iter,ifs,0⟩] scope pos) (some (.Name y py)) spos.line X.env=pure true:=by rfl)
  (hs:∀ z,foldedSetIterable iter X.env z=pure z:=by intro _;rfl)
  (hf:X.fn y=true \/ X.env.scope.names.lookup y=some .local:=by first | exact .inl rfl | exact .inr rfl | assumption) :
  VS X (.Assign [.Name y py] (.ListComp elt [⟨.Name x px,iter,ifs,0⟩] scope pos) spos) (zcI i (eLC fr fi ft fe)):=
 let⟨_,w1,m1⟩:=hi.h;⟨_,ssetlc hN hi' hy S hc w1 (fun C s₀ H₀ fp=>(ht C s₀ H₀ fp).uni) (fun C s₀ H₀ fp=>(he C s₀ H₀ fp).uni) hsw hs hf,SemE.set i (.lc m1 semT_tD semE_tD)⟩
end
inductive Kd where
 | v | b | t
noncomputable def ArgOk(K:PySem.W.Frag)(F H:Hp)(v:V):Kd->D->Prop
 | .v,d=>Rep F v d
 | .b,.lst ds=>∃ l vs,v=.ref l/\SqL K H l vs/\Reps F vs ds
 | .b,_=>False
 | .t,.tup ds=>∃ l vs,v=.ref l/\SqT K H l vs/\Reps F vs ds
 | .t,_=>False
inductive ArgsOk(K:PySem.W.Frag)(F H:Hp):List Kd->List V->List D->Prop
 | nil:ArgsOk K F H [] [] []
 | cons {k:Kd} {v:V} {d:D} {ks:List Kd} {vs:List V} {ds:List D}:ArgOk K F H v k d->ArgsOk K F H ks vs ds->ArgsOk K F H (k :: ks) (v :: vs) (d :: ds)
noncomputable def spD(K:PySem.W.Frag)(ks:List Kd)(g:List D->Option Ent):Sp:=fun vs H Q _=>∃ F ds r,Same F H/\ArgsOk K F H ks vs ds/\g ds=some r/\∀ v F' H',Ex F H F' H'->RepR K H F' H' v r->Q v H'
noncomputable def asT:Ent->Option (List D)
 | .val (.tup ds)=>some ds
 | .bt ds=>some ds
 | _=>none
theorem RepR.toT{K:PySem.W.Frag}{H0 F H:Hp}{v:V}{e:Ent}{ds:List D}(r:RepR K H0 F H v e)(h:Same F H)(q:asT e=some ds):∃ l vs,v=.ref l/\SqT K H l vs/\Reps F vs ds:=by
 cases e with
 | val d=>
  cases d with
  | tup es=>
   cases q
   cases (show Rep F v (.tup _) from r) with
   | tup e rs=>exact⟨_,_,rfl,SqT.of (h _ _ e),rs⟩
  | _=>cases q
 | bt es=>cases q;exact r
 | _=>cases q
noncomputable def zem:Kd->Ent->Option D
 | .v,e=>asV e
 | .b,e=>(asL e).map .lst
 | .t,e=>(asT e).map .tup
noncomputable def zce:List Kd->List Ent->Option (List D)
 | [],[]=>some []
 | k :: ks,e :: es=>(zem k e).bind fun d=>(zce ks es).map fun ds=>d :: ds
 | _,_=>none
section
variable {K:PySem.W.Frag}{F H F' H' F2 H2:Hp}
theorem RepRs.args:∀ {ks:List Kd} {vs:List V} {es:List Ent} {ds:List D} {F':Hp},Ex F H F' H'->Same F2 F'->RepRs K H F2 H' vs es->zce ks es=some ds->∃ F3,Ex F H F3 H'/\Same F' F3/\ArgsOk K F3 H' ks vs ds
 | [],_,_,_,F',x,_,.nil,q=>by cases q;exact⟨F',x,Same.refl _,.nil⟩
 | _ :: _,_,_,_,_,_,_,.nil,q=>by cases q
 | [],_,_,_,_,_,_,.cons _ _,q=>by cases q
 | k :: ks,_,e :: es,ds,F',x,s,.cons r t,q=>by
  simp only[zce] at q
  obtain⟨d,q1,q⟩:=bind_some q
  obtain⟨ds',q2,q⟩:=map_some q
  cases q
  cases k with
  | v=>
   obtain⟨F3,x3,s3,r3⟩:=r.frz x s q1
   obtain⟨F4,x4,s4,r4⟩:=RepRs.args x3 (s.trans s3) t q2
   exact⟨F4,x4,s3.trans s4,.cons (Rep.mono s4 r3) r4⟩
  | b=>
   obtain⟨ls,q3,q4⟩:=map_some q1
   cases q4
   obtain⟨F4,x4,s4,r4⟩:=RepRs.args x s t q2
   refine⟨F4,x4,s4,.cons (k:=.b) ?_ r4⟩
   obtain⟨l,vs,e,h1,h2⟩:=RepR.toL r (s.trans x.fh) q3
   exact⟨l,vs,e,h1,h2.mono (s.trans s4)⟩
  | t=>
   obtain⟨ls,q3,q4⟩:=map_some q1
   cases q4
   obtain⟨F4,x4,s4,r4⟩:=RepRs.args x s t q2
   refine⟨F4,x4,s4,.cons (k:=.t) ?_ r4⟩
   obtain⟨l,vs,e,h1,h2⟩:=RepR.toT r (s.trans x.fh) q3
   exact⟨l,vs,e,h1,h2.mono (s.trans s4)⟩
end
noncomputable def zaV(ks:List Kd)(g:List D->Option Ent)(fs:FA):FE:=fun δ=>((fs δ).bind (zce ks)).bind g
section
variable {X:Cx}{es:List Expr}{e:Expr}{fs:FA}{x:Str}{p pos:Pos}{ks:List Kd}{g:List D->Option Ent}
theorem SemE.call{K:PySem.W.Frag}{t:TA}{dvs:List V}{E:XK}(m:SemA K t fs)(hd:dvs=[]):SemE K (zdl (spD K ks g) dvs E t) (zaV ks g fs):=fun B F H σ δ res Q s q k=>by
 subst hd
 obtain⟨ds,q1,q⟩:=bind_some q
 obtain⟨rs,q2,q3⟩:=bind_some q1
 refine m B F H σ δ rs _ s q2 fun vs F1 H1 x1 r1=>?_
 obtain⟨F2,x2,_,a2⟩:=RepRs.args x1 (Same.refl _) r1 q3
 rw[List.append_nil]
 exact⟨F2,ds,res,x2.fh,a2,q,fun v F' H' x3 r3=>k v F' H' (x2.trans x3) (r3.earlier x2.hh)⟩
theorem vcl{CX:CXT}{k j:Nat}{f:Addr}{fd:FuncData}{ps:List Str}{st:Stmt}{E:XK}(F:FnOk X.prog X.w X.K X.mg X.base CX k f fd ps (spD X.K ks g))(D:Def X.K X.mg x st ps f fd)(hr:Room j X.A)(hg:Gl X x)(hx:zbL CX X E)
  (ha:VA X (e :: es) fs) (hjk:k<=j:=by decide) (hdb:(x == ("__debug__" : Str))=false:=by decide) (h1:zap e=true:=by rfl) (h2:es.all zap=true:=by rfl) :
  VE X (.Call (.Name x p) (e :: es) [] pos) (zaV ks g fs):=let⟨_,w,m⟩:=ha.h;⟨_,wcl F D hr hg hx w hjk hdb h1 h2,.call m rfl⟩
end
noncomputable def stN:Kd->D->Option Ent
 | .v,d=>some (.val d)
 | .b,.lst ds=>some (.bor ds)
 | .b,_=>none
 | .t,.tup ds=>some (.bt ds)
 | .t,_=>none
noncomputable def stE:List Kd->List D->Option En
 | [],[]=>some []
 | k :: ks,d :: ds=>(stN k d).bind fun e=>(stE ks ds).map fun es=>some e :: es
 | _,_=>none
noncomputable def zf0:Out->Option Ent
 | .rt r _=>some r
 | .nx _=>some (.val .non)
 | _=>none
noncomputable def zcs(ks:List Kd)(m:Nat)(f:FS)(ds:List D):Option Ent:=(stE ks ds).bind fun es=>(f (es ++ List.replicate m none)).bind zf0
theorem ArgsOk.start{K:PySem.W.Frag}{F H:Hp}:∀ {ks:List Kd} {vs:List V} {ds:List D} {es:En},ArgsOk K F H ks vs ds->stE ks ds=some es->vs.length=es.length/\∀ (i:Nat) (e:Ent),es[i]? = some (some e)->(∃ v,vs[i]? = some v/\RepN K H F H v e)/\e.lk=false/\e.isO=false
 | _,_,_,_,.nil,q=>by cases q;exact⟨rfl,fun i e h=>by simp at h⟩
 | k :: ks,v :: vs,d :: ds,es,.cons a t,q=>by
  simp only[stE] at q
  obtain⟨e0,q1,q⟩:=bind_some q
  obtain⟨es',q2,q⟩:=map_some q
  cases q
  obtain⟨hl,ih⟩:=ArgsOk.start t q2
  refine⟨by simp[hl],fun i e h=>?_⟩
  cases i with
  | succ i=>simpa using ih i e (by simpa using h)
  | zero=>
   have h':e0=e:=by simpa using h
   subst h'
   cases k with
   | v=>cases q1;exact⟨⟨v,rfl,a⟩,rfl,rfl⟩
   | b=>
    cases d with
    | lst ls=>
     cases q1
     obtain⟨l,ws,e,h1,h2⟩:=a
     exact⟨⟨v,rfl,l,ws,e,h1,h2⟩,rfl,rfl⟩
    | _=>cases q1
   | t=>
    cases d with
    | tup ls=>
     cases q1
     obtain⟨l,ws,e,h1,h2⟩:=a
     exact⟨⟨v,rfl,l,ws,e,h1,h2⟩,rfl,rfl⟩
    | _=>cases q1
theorem ArgsOk.length{K:PySem.W.Frag}{F H:Hp}:∀ {ks:List Kd} {vs:List V} {ds:List D},ArgsOk K F H ks vs ds->vs.length=ks.length
 | _,_,_,.nil=>rfl
 | _,_,_,.cons _ t=>by rw[List.length_cons,List.length_cons,ArgsOk.length t]
section
variable {P:Program}{w:World}{K:PySem.W.Frag}{mg:Str->Option Value}{base:Heap}{x qual:Str}{st:Stmt}{f:Addr}{fd:FuncData}{N ps:List Str}{k:Nat}{ks:List Kd}{g:List D->Option Ent}
end
end L3

namespace L3
open PySem PySem.Spec PyProof.Rows L2
noncomputable def pI0(g:Int->Int->D):Ent->Ent->Option Ent:=fun x y=>(iOf x).bind fun i=>(iOf y).map fun j=>.val (g i j)
noncomputable def pI(c:Int->Int->Prop)(g:Int->Int->D):Ent->Ent->Option Ent:=fun x y=>(iOf x).bind fun i=>(iOf y).bind fun j=>gif (c i j) (some (.val (g i j)))
noncomputable def b64(i:Int):Prop:=-18446744073709551616<i/\i<18446744073709551616
theorem zd0{i:Int}(h:-18446744073709551616<i/\i<18446744073709551616):b64 i=True:=eq_true h
noncomputable def psI(j:Int):Prop:=0<j
theorem zcA{j:Int}(h:0<j):psI j=True:=eq_true h
noncomputable def dvI(j:Int):Prop:=0<j/\j<1073741824
theorem zeF{j:Int}(h:0<j/\j<1073741824):dvI j=True:=eq_true h
theorem zev{i:Int}(h:-18446744073709551616<i/\i<18446744073709551616):b64 i:=h
section
variable {K:PySem.W.Frag}
theorem semI0{g':Int->Int->V}{g:Int->Int->D}(h:∀ i j F,Rep F (g' i j) (g i j)):zgW K (rI0 g') (pI0 g):=fun H0 F H x y e e' res Q fh hh rx ry q k=>by
 obtain⟨i,q1,q⟩:=bind_some q
 obtain⟨j,q2,q⟩:=map_some q
 cases zav q1
 cases zav q2
 cases q
 cases zaD rx
 cases zaD ry
 exact⟨i,j,rfl,rfl,k _ F H (Ex.refl fh) (h i j F)⟩
theorem semI{C c:Int->Int->Prop}{g':Int->Int->V}{g:Int->Int->D}(hc:∀ i j,c i j->C i j)(h:∀ i j F,Rep F (g' i j) (g i j)):zgW K (rI C g') (pI c g):=fun H0 F H x y e e' res Q fh hh rx ry q k=>by
 obtain⟨i,q1,q⟩:=bind_some q
 obtain⟨j,q2,q⟩:=bind_some q
 obtain⟨hij,qz⟩:=zaX q
 cases zav q1
 cases zav q2
 cases qz
 cases zaD rx
 cases zaD ry
 exact⟨i,j,rfl,rfl,hc i j hij,k _ F H (Ex.refl fh) (h i j F)⟩
end
noncomputable def zcj:=pI0 fun i j=>.int (i+j)
noncomputable def zht:=pI0 fun i j=>.int (i - j)
noncomputable def zeY:=pI (fun i j=>b64 i \/ b64 j) fun i j=>.int (i * j)
noncomputable def zcr:=pI (fun _ j=>psI j) fun i j=>.int (i % j)
noncomputable def zfY:=pI (fun _ j=>dvI j) fun i j=>.int (i / j)
noncomputable def gPow:=pI (fun i j=>(0<=j/\j<=1000000)/\i.natAbs<18446744073709551616) fun i j=>.int (i ^ j.toNat)
noncomputable def gLt:=pI0 fun i j=>.bl (decide (i<j))
noncomputable def gGe:=pI0 fun i j=>.bl (decide (j<=i))
noncomputable def zgj:Ent->Option Ent:=fun x=>(iOf x).map fun i=>.val (.int (-i))
section
variable {X:Cx}
theorem zcH:OpD X (binaryOp .Add) zcj:=⟨_,op_add,semI0 fun _ _ _=>.int _⟩
theorem zfk:OpD X (binaryOp .Sub) zht:=⟨_,op_sub,semI0 fun _ _ _=>.int _⟩
theorem zgo:OpD X (binaryOp .Mult) zeY:=⟨_,op_mul,semI (fun _ _ h=>h) fun _ _ _=>.int _⟩
theorem zc5:OpD X (binaryOp .Mod) zcr:=⟨_,op_mod,semI (fun _ _ h=>h) fun _ _ _=>.int _⟩
theorem zhj:OpD X (binaryOp .FloorDiv) zfY:=⟨_,op_fdiv,semI (fun _ _ h=>h) fun _ _ _=>.int _⟩
theorem o_pow:OpD X (binaryOp .Pow) gPow:=⟨_,op_pow,semI (fun _ _ h=>⟨h.1.1,h.1.2,h.2⟩) fun _ _ _=>.int _⟩
theorem o_lt:OpD X (compareOp .Lt) gLt:=⟨_,op_lt,semI0 fun _ _ _=>.bl _⟩
theorem o_ge:OpD X (compareOp .GtE) gGe:=⟨_,op_ge,semI0 fun _ _ _=>.bl _⟩
theorem zff:UnD X (unaryOp .USub) zgj:=⟨_,un_neg,fun H0 F H x e res Q fh hh r q k=>by
 obtain⟨i,q1,q⟩:=map_some q
 cases zav q1
 cases q
 cases zaD r
 exact⟨i,rfl,k _ F H (Ex.refl fh) (.int _)⟩⟩
end
noncomputable def zfZ(d d':D):Option Bool:=match d with
 | .non=>(match d' with | .non=>some true | .int _=>some false | .bl _=>some false | .str _=>some false | _=>none)
 | .int i=>(match d' with | .int j=>some (decide (i=j)) | .non=>some false | .str _=>some false | _=>none)
 | .bl i=>(match d' with | .bl j=>some (decide (i=j)) | .non=>some false | .str _=>some false | _=>none)
 | .str i=>(match d' with | .str j=>some (decide (i=j)) | .non=>some false | .int _=>some false | .bl _=>some false | _=>none)
 | _=>none
noncomputable def gEq:Ent->Ent->Option Ent
 | .val d,.val d'=>(zfZ d d').map fun b=>.val (.bl b)
 | _,_=>none
noncomputable def gNe:Ent->Ent->Option Ent
 | .val d,.val d'=>(zfZ d d').map fun b=>.val (.bl (!b))
 | _,_=>none
theorem scEq_ok{F:Hp}{x y:V}{d d':D}{b:Bool}(rx:Rep F x d)(ry:Rep F y d')(q:zfZ d d'=some b):scal x y=true/\decide (x=y)=b:=by
 cases rx <;> first | (cases q;done) | (cases ry <;> first | (cases q;done) | (cases q;exact⟨rfl,by simp⟩))
noncomputable def isN:Ent->Bool
 | .val .non=>true
 | _=>false
noncomputable def gIsN:Ent->Ent->Option Ent
 | x,.val .non=>some (.val (.bl (isN x)))
 | _,_=>none
noncomputable def gNoN:Ent->Ent->Option Ent
 | x,.val .non=>some (.val (.bl (!isN x)))
 | _,_=>none
theorem isN_ok{K:PySem.W.Frag}{H0 F H:Hp}{x:V}{e:Ent}(r:RepR K H0 F H x e):decide (x=.non)=isN e:=by
 cases e with
 | val d=>cases r <;> simp[isN]
 | own ds=>obtain⟨l,vs,e,_⟩:=r;subst e;simp[isN]
 | bor ds=>obtain⟨l,vs,e,_⟩:=r;subst e;simp[isN]
 | vw ds=>obtain⟨l,vs,e,_⟩:=r;subst e;simp[isN]
 | bt ds=>obtain⟨l,vs,e,_⟩:=r;subst e;simp[isN]
 | obj o=>obtain⟨⟨l,e⟩,_⟩:=r;subst e;simp[isN]
noncomputable def sOf:Ent->Option Str
 | .val (.str i)=>some i
 | _=>none
theorem zbe{e:Ent}{i:Str}(h:sOf e=some i):e=.val (.str i):=by
 cases e with
 | val d=>cases d <;> first | (cases h;rfl) | (cases h)
 | _=>cases h
noncomputable def inS(i j:Str):Bool:=!(Builtin.Str.occurrences j i 0 j.length 1).isEmpty
noncomputable def gInS:Ent->Ent->Option Ent:=fun x y=>(sOf x).bind fun i=>(sOf y).map fun j=>.val (.bl (inS i j))
noncomputable def gNiS:Ent->Ent->Option Ent:=fun x y=>(sOf x).bind fun i=>(sOf y).map fun j=>.val (.bl (!inS i j))
noncomputable def gAddS:Ent->Ent->Option Ent:=fun x y=>(sOf x).bind fun i=>(sOf y).bind fun j=>gif (sz (i.length+j.length)) (some (.val (.str (i ++ j))))
theorem zc3{n:Nat}(h:n<=1000000):n<=sizeLine:=by rw[sizeLine_eq];lia
section
variable {X:Cx}
theorem o_eq:OpD X (compareOp .Eq) gEq:=⟨_,op_eq,fun H0 F H x y e e' res Q fh hh rx ry q k=>by
 cases e with
 | val d=>
  cases e' with
  | val d'=>
   obtain⟨b,q1,q⟩:=map_some q
   cases q
   obtain⟨h1,h2⟩:=scEq_ok rx ry q1
   exact⟨h1,by rw[h2];exact k _ F H (Ex.refl fh) (.bl _)⟩
  | _=>cases q
 | _=>cases q⟩
theorem o_ne:OpD X (compareOp .NotEq) gNe:=⟨_,op_ne,fun H0 F H x y e e' res Q fh hh rx ry q k=>by
 cases e with
 | val d=>
  cases e' with
  | val d'=>
   obtain⟨b,q1,q⟩:=map_some q
   cases q
   obtain⟨h1,h2⟩:=scEq_ok rx ry q1
   exact⟨h1,by rw[h2];exact k _ F H (Ex.refl fh) (.bl _)⟩
  | _=>cases q
 | _=>cases q⟩
theorem o_isN:OpD X (compareOp .Is) gIsN:=⟨_,op_isN,fun H0 F H x y e e' res Q fh hh rx ry q k=>by
 unfold gIsN at q
 split at q
 ·cases q
  exact⟨zgb ry,by rw[isN_ok rx];exact k _ F H (Ex.refl fh) (.bl _)⟩
 ·cases q⟩
theorem o_noN:OpD X (compareOp .IsNot) gNoN:=⟨_,op_notN,fun H0 F H x y e e' res Q fh hh rx ry q k=>by
 unfold gNoN at q
 split at q
 ·cases q
  exact⟨zgb ry,by rw[isN_ok rx];exact k _ F H (Ex.refl fh) (.bl _)⟩
 ·cases q⟩
theorem o_inS:OpD X (compareOp .In) gInS:=⟨_,op_in_str,fun H0 F H x y e e' res Q fh hh rx ry q k=>by
 obtain⟨i,q1,q⟩:=bind_some q
 obtain⟨j,q2,q⟩:=map_some q
 cases zbe q1
 cases zbe q2
 cases q
 exact⟨i,j,zby rx,zby ry,k _ F H (Ex.refl fh) (.bl _)⟩⟩
theorem o_niS:OpD X (compareOp .NotIn) gNiS:=⟨_,zfQ,fun H0 F H x y e e' res Q fh hh rx ry q k=>by
 obtain⟨i,q1,q⟩:=bind_some q
 obtain⟨j,q2,q⟩:=map_some q
 cases zbe q1
 cases zbe q2
 cases q
 exact⟨i,j,zby rx,zby ry,k _ F H (Ex.refl fh) (.bl _)⟩⟩
theorem o_addS:OpD X (binaryOp .Add) gAddS:=⟨_,zg0,fun H0 F H x y e e' res Q fh hh rx ry q k=>by
 obtain⟨i,q1,q⟩:=bind_some q
 obtain⟨j,q2,q⟩:=bind_some q
 obtain⟨hl,qz⟩:=zaX q
 cases zbe q1
 cases zbe q2
 cases qz
 exact⟨i,j,zby rx,zby ry,zc3 hl,k _ F H (Ex.refl fh) (.str _)⟩⟩
end
noncomputable def zb5:Ent->Ent->Option Ent:=fun x y=>(asL x).bind fun ds=>(iOf y).bind fun i=>(atI ds i).map .val
noncomputable def ze1:Ent->Option (List D)
 | .val (.tup ds)=>some ds
 | _=>none
theorem zfw{e:Ent}{ds:List D}(h:ze1 e=some ds):e=.val (.tup ds):=by
 cases e with
 | val d=>cases d <;> first | (cases h;rfl) | (cases h)
 | _=>cases h
noncomputable def zf1:Ent->Ent->Option Ent:=fun x y=>(ze1 x).bind fun ds=>(iOf y).bind fun i=>(atI ds i).map .val
noncomputable def btOf:Ent->Option (List D)
 | .bt ds=>some ds
 | _=>none
theorem btOf_some{e:Ent}{ds:List D}(h:btOf e=some ds):e=.bt ds:=by
 cases e with
 | bt d=>cases h;rfl
 | _=>cases h
noncomputable def zhb:Ent->Ent->Option Ent:=fun x y=>(btOf x).bind fun ds=>(iOf y).bind fun i=>(atI ds i).map .val
noncomputable def mkS(l:List Nat):Str:=⟨l.toArray⟩
noncomputable def zhq:Ent->Ent->Option Ent:=fun x y=>(sOf x).bind fun z=>(iOf y).bind fun i=>gif (sz z.length) ((atI z.cps.toList i).map fun c=>.val (.str (mkS [c])))
theorem zf7{F:Hp}{vs:List V}{ds:List D}{i:Int}{d:D}(r:Reps F vs ds)(q:atI ds i=some d):∃ v,atI vs i=some v/\Rep F v d:=by
 unfold atI at q ⊢
 obtain⟨j,q1,q⟩:=bind_some q
 obtain⟨v,h1,h2⟩:=r.get q
 exact⟨v,by rw[r.length,q1];exact h1,h2⟩
section
variable {X:Cx}
theorem zbF:IxD X zb5:=⟨_,ix_list,fun H0 F H x y e e' res Q fh hh rx ry q k=>by
 obtain⟨ds,q1,q⟩:=bind_some q
 obtain⟨i,q2,q⟩:=bind_some q
 obtain⟨d,q3,q⟩:=map_some q
 cases q
 cases zav q2
 obtain⟨l,vs,e,h1,h2⟩:=RepR.toL rx fh q1
 obtain⟨v,h3,h4⟩:=zf7 h2 q3
 exact⟨l,vs,i,v,e,zaD ry,h1,h3,k v F H (Ex.refl fh) h4⟩⟩
theorem zeb:IxD X zf1:=⟨_,ix_tup,fun H0 F H x y e e' res Q fh hh rx ry q k=>by
 obtain⟨ds,q1,q⟩:=bind_some q
 obtain⟨i,q2,q⟩:=bind_some q
 obtain⟨d,q3,q⟩:=map_some q
 cases q
 cases zav q2
 cases zfw q1
 cases (show Rep F x (.tup ds) from rx) with
 | tup e rs=>
  obtain⟨v,h3,h4⟩:=zf7 rs q3
  exact⟨_,_,i,v,rfl,zaD ry,SqT.of (fh _ _ e),h3,k v F H (Ex.refl fh) h4⟩⟩
theorem x_bt:IxD X zhb:=⟨_,ix_tup,fun H0 F H x y e e' res Q fh hh rx ry q k=>by
 obtain⟨ds,q1,q⟩:=bind_some q
 obtain⟨i,q2,q⟩:=bind_some q
 obtain⟨d,q3,q⟩:=map_some q
 cases q
 cases zav q2
 cases btOf_some q1
 obtain⟨l,vs,e,h1,h2⟩:=rx
 obtain⟨v,h3,h4⟩:=zf7 h2 q3
 exact⟨l,vs,i,v,e,zaD ry,h1,h3,k v F H (Ex.refl fh) h4⟩⟩
theorem zhg:IxD X zhq:=⟨_,ix_str,fun H0 F H x y e e' res Q fh hh rx ry q k=>by
 obtain⟨z,q1,q⟩:=bind_some q
 obtain⟨i,q2,q⟩:=bind_some q
 obtain⟨hl,qz⟩:=zaX q
 obtain⟨c,q3,qz⟩:=map_some qz
 cases qz
 cases zav q2
 cases zbe q1
 exact⟨z,i,c,zby rx,zaD ry,zc3 hl,q3,k _ F H (Ex.refl fh) (.str _)⟩⟩
end
noncomputable def gCat:Ent->Ent->Option Ent:=fun x y=>(asLt x).bind fun ds=>(asLt y).bind fun es=>gif (sz (ds.length+es.length)) (some (.own (ds ++ es)))
section
variable {X:Cx}
theorem o_cat:OpD X (binaryOp .Add) gCat:=⟨_,op_cat,fun H0 F H x y e e' res Q fh hh rx ry q k=>by
 obtain⟨ds,q1,q⟩:=bind_some q
 obtain⟨es,q2,q⟩:=bind_some q
 obtain⟨hl,qz⟩:=zaX q
 cases qz
 obtain⟨l,vs,e,h1,h2⟩:=RepR.toLt rx fh q1
 obtain⟨l',ws,e',h1',h2'⟩:=RepR.toLt ry fh q2
 refine⟨l,l',vs,ws,e,e',h1,h1',by rw[h2.length,h2'.length];exact zc3 hl,fun p hp=>?_⟩
 exact k _ _ _ (Ex.lay fh hp) ⟨p,_,rfl,hh.free hp,zae,h2.append h2',fh.free hp⟩⟩
end
noncomputable abbrev FO:=En->Option (Option Int)
noncomputable def oNo:FO:=fun _=>some none
noncomputable def oSo(fe:FE):FO:=fun δ=>((fe δ).bind iOf).map some
noncomputable def SemO(K:PySem.W.Frag)(t:TO)(f:FO):Prop:=∀ (B:Bd) (F H:Hp) (σ:Sg) (δ:En) (o:Option Int) (Q:Option Int->Hp->Prop),RS K B F H σ δ->f δ=some o->(∀ F' H',Ex F H F' H'->Q o H')->t σ H Q
structure VO(X:Cx)(e:Option Expr)(f:FO):Prop where
 h:∃ t,WO X e t/\SemO X.K t f
noncomputable def SemL(K:PySem.W.Frag)(r:V->Option Int->Option Int->Hp->VK->Prop)(g:Ent->Option Int->Option Int->Option Ent):Prop:=∀ (H0 F H:Hp) (x:V) (lo hi:Option Int) (e res:Ent) (Q:VK),Same F H->Same H0 H->RepR K H0 F H x e->g e lo hi=some res ->
 (∀ v F' H',Ex F H F' H'->RepR K H0 F' H' v res->Q v H')->r x lo hi H Q
noncomputable def SlD(X:Cx)(g:Ent->Option Int->Option Int->Option Ent):Prop:=∃ r,SlR X r/\SemL X.K r g
noncomputable def eSl(g:Ent->Option Int->Option Int->Option Ent)(fe:FE)(fl fu:FO):FE:=fun δ=>(fe δ).bind fun x=>(fl δ).bind fun l=>(fu δ).bind fun u=>g x l u
noncomputable def zhv{α:Type}(xs:List α)(lo hi:Option Int):List α:=(xs.drop (HT.sIx xs.length 0 lo)).take (HT.sIx xs.length xs.length hi - HT.sIx xs.length 0 lo)
noncomputable def gSlL:Ent->Option Int->Option Int->Option Ent:=fun x lo hi=>(asL x).map fun ds=>.own (zhv ds lo hi)
theorem Reps.cut{F:Hp}{vs:List V}{ds:List D}(r:Reps F vs ds)(lo hi:Option Int):Reps F (cutV vs lo hi) (zhv ds lo hi):=by
 unfold cutV zhv
 rw[r.length]
 exact(r.drop _).take _
section
variable {X:Cx}{e:Expr}{lo hi:Option Expr}{fe:FE}{fl fu:FO}{pos p2:Pos}
theorem von:VO X none oNo:=⟨_,won,fun B F H σ δ o Q s q k=>by cases q;exact k F H (Ex.refl s.fh)⟩
theorem vos(h:VE X e fe):VO X (some e) (oSo fe):=by
 obtain⟨t,w,m⟩:=h.h
 refine⟨_,wos w,fun B F H σ δ o Q s q k=>?_⟩
 obtain⟨i,q1,q⟩:=map_some q
 cases q
 obtain⟨r,q2,q3⟩:=bind_some q1
 cases zav q3
 exact m B F H σ δ _ _ s q2 fun v F1 H1 x1 r1=>⟨i,zaD r1,k F1 H1 x1⟩
theorem vsl{g:Ent->Option Int->Option Int->Option Ent}(hr:SlD X g)(he:VE X e fe)(hl:VO X lo fl)(hu:VO X hi fu):VE X (.Subscript e (.Slice lo hi none p2) pos) (eSl g fe fl fu):=by
 obtain⟨t,w,m⟩:=he.h
 obtain⟨t1,w1,m1⟩:=hl.h
 obtain⟨t2,w2,m2⟩:=hu.h
 obtain⟨rr,hr1,hr2⟩:=hr
 refine⟨_,wslice hr1 w w1 w2,fun B F H σ δ res Q s q k=>?_⟩
 obtain⟨x,q1,q⟩:=bind_some q
 obtain⟨l,q2,q⟩:=bind_some q
 obtain⟨u,q3,q⟩:=bind_some q
 refine m B F H σ δ x _ s q1 fun v F1 H1 x1 r1=>?_
 refine m1 B F1 H1 σ δ l _ (s.ext x1) q2 fun F2 H2 x2=>?_
 refine m2 B F2 H2 σ δ u _ ((s.ext x1).ext x2) q3 fun F3 H3 x3=>?_
 have xx:=(x1.trans x2).trans x3
 exact hr2 H F3 H3 v l u x res Q xx.fh xx.hh ((r1.ext x2).ext x3) q fun v' F' H' x4 r4=>k v' F' H' (xx.trans x4) r4
theorem l_list:SlD X gSlL:=⟨_,sl_list,fun H0 F H x lo hi e res Q fh hh rx q k=>by
 obtain⟨ds,q1,q⟩:=map_some q
 cases q
 obtain⟨l,vs,e,h1,h2⟩:=RepR.toL rx fh q1
 exact⟨l,vs,e,h1,fun p hp=>k _ _ _ (Ex.lay fh hp) ⟨p,_,rfl,hh.free hp,zae,h2.cut lo hi,fh.free hp⟩⟩⟩
end
noncomputable def zbZ:List Ent->Option Ent
 | [x]=>match ze1 x with
  | some ds=>some (.val (.int ds.length))
  | none=>(asL x).map fun ds=>.val (.int ds.length)
 | _=>none
noncomputable def zcY:List Ent->Option Ent
 | [x]=>(sOf x).bind fun z=>gif (sz z.length) (some (.val (.int z.length)))
 | _=>none
noncomputable def zeB:List Ent->Option Ent
 | [x]=>match ze1 x with
  | some ds=>some (.own ds)
  | none=>(asL x).map fun ds=>.own ds
 | _=>none
noncomputable def zd6:List Ent->Option Ent
 | [x]=>(asL x).map fun ds=>.val (.tup ds)
 | _=>none
noncomputable def zcG:List Ent->Option Ent
 | [.val (.int i)]=>some (.val (.int i))
 | [.val (.bl b)]=>some (.val (.int (if b then 1 else 0)))
 | _=>none
theorem zc1{K:PySem.W.Frag}{H0 F H:Hp}{vs:List V}{x:Ent}(r:RepRs K H0 F H vs [x]):∃ v,vs=[v]/\RepR K H0 F H v x:=by
 cases r with
 | cons h t=>cases t;exact⟨_,rfl,h⟩
theorem zex{g:List Ent->Option Ent}{es:List Ent}{res:Ent}(h0:g []=none)(h2:∀ a b r,g (a :: b :: r)=none)(q:g es=some res):∃ x,es=[x]:=by
 match es,q with
 | [],q=>rw[h0] at q;cases q
 | [x],_=>exact⟨x,rfl⟩
 | a :: b :: r,q=>rw[h2] at q;cases q
theorem RepR.seq{K:PySem.W.Frag}{H0 F H:Hp}{v:V}{x:Ent}{ds:List D}(r:RepR K H0 F H v x)(fh:Same F H)(q:ze1 x=some ds \/ asL x=some ds):∃ l vs,v=.ref l/\(SqL K H l vs \/ SqT K H l vs)/\Reps F vs ds:=by
 rcases q with q | q
 ·cases zfw q
  cases (show Rep F v (.tup ds) from r) with
  | tup e rs=>exact⟨_,_,rfl,.inr (SqT.of (fh _ _ e)),rs⟩
 ·obtain⟨l,vs,e,h1,h2⟩:=RepR.toL r fh q
  exact⟨l,vs,e,.inl h1,h2⟩
section
variable {X:Cx}
theorem zdF:zej X (.builtin "len") zbZ:=⟨_,zfT,fun H0 F H vs es res Q fh hh r q k=>by
 obtain⟨x,rfl⟩:=zex rfl (fun _ _ _=>rfl) q
 obtain⟨v,rfl,rz⟩:=zc1 r
 have go:∀ ds,(ze1 x=some ds \/ asL x=some ds)->res=.val (.int ds.length)->∃ p ys,[v]=[V.ref p]/\(SqL X.K H p ys \/ SqT X.K H p ys)/\Q (.int ys.length) H:=fun ds h e=>by
  obtain⟨l,ws,e',h1,h2⟩:=RepR.seq rz fh h
  subst e e'
  exact⟨l,ws,rfl,h1,by rw[h2.length];exact k _ F H (Ex.refl fh) (.int _)⟩
 simp only[zbZ] at q
 split at q
 ·rename_i ds h;exact go ds (.inl h) (Option.some.inj q).symm
 ·obtain⟨ds,h,q⟩:=map_some q;exact go ds (.inr h) q.symm⟩
theorem zfG:zej X (.builtin "len") zcY:=⟨_,zfW,fun H0 F H vs es res Q fh hh r q k=>by
 obtain⟨x,rfl⟩:=zex rfl (fun _ _ _=>rfl) q
 obtain⟨v,rfl,rz⟩:=zc1 r
 obtain⟨z,q1,q⟩:=bind_some q
 obtain⟨hl,qz⟩:=zaX q
 cases qz
 cases zbe q1
 cases zby rz
 exact⟨z,rfl,zc3 hl,k _ F H (Ex.refl fh) (.int _)⟩⟩
theorem c_listQ:zej X (.type "list") zeB:=⟨_,zfO,fun H0 F H vs es res Q fh hh r q k=>by
 obtain⟨x,rfl⟩:=zex rfl (fun _ _ _=>rfl) q
 obtain⟨v,rfl,rz⟩:=zc1 r
 have go:∀ ds,(ze1 x=some ds \/ asL x=some ds)->res=.own ds->∃ p ys,[v]=[V.ref p]/\(SqL X.K H p ys \/ SqT X.K H p ys)/\∀ l,H l=none->Q (.ref l) (upd H l (.lst ys)):=fun ds h e=>by
  obtain⟨l,ws,e',h1,h2⟩:=RepR.seq rz fh h
  subst e e'
  exact⟨l,ws,rfl,h1,fun p hp=>k _ _ _ (Ex.lay fh hp) ⟨p,_,rfl,hh.free hp,zae,h2,fh.free hp⟩⟩
 simp only[zeB] at q
 split at q
 ·rename_i ds h;exact go ds (.inl h) (Option.some.inj q).symm
 ·obtain⟨ds,h,q⟩:=map_some q;exact go ds (.inr h) q.symm⟩
theorem zeq:zej X (.type "tuple") zd6:=⟨_,zeW,fun H0 F H vs es res Q fh hh r q k=>by
 obtain⟨x,rfl⟩:=zex rfl (fun _ _ _=>rfl) q
 obtain⟨v,rfl,rz⟩:=zc1 r
 obtain⟨ds,q1,q⟩:=map_some q
 cases q
 obtain⟨l,ws,e',h1,h2⟩:=RepR.toL rz fh q1
 subst e'
 exact⟨l,ws,rfl,.inl ⟨h1,fun p hp=>k _ _ _ (Ex.alloc fh hp) (.tup zae (h2.mono (Same.alloc (fh.free hp))))⟩⟩⟩
theorem zgJ:zej X (.type "int") zcG:=⟨_,call_int1,fun H0 F H vs es res Q fh hh r q k=>by
 unfold zcG at q
 split at q
 ·cases q
  obtain⟨v,rfl,rz⟩:=zc1 r
  cases zaD rz
  exact .inl ⟨_,rfl,k _ F H (Ex.refl fh) (.int _)⟩
 ·cases q
  obtain⟨v,rfl,rz⟩:=zc1 r
  cases zcF rz
  exact .inr ⟨_,rfl,k _ F H (Ex.refl fh) (.int _)⟩
 ·cases q⟩
end
noncomputable def tyN:D->String
 | .non=> "NoneType" | .bl _=> "bool" | .int _=> "int" | .str _=> "str" | .tup _=> "tuple" | .lst _=> "list" | .dic _ _=> "dict" | .ins _ _ _=> "" | .dcI _ _=> "" | .dcS _ _=> ""
noncomputable def obD:D->Bool
 | .ins _ _ _=>true | .dcI _ _=>true | .dcS _ _=>true | .non=>false | .bl _=>false | .int _=>false | .str _=>false | .tup _=>false | .lst _=>false | .dic _ _=>false
noncomputable def isiD(T:String)(d:D):Bool:=tyN d == T || (T == "int" && tyN d == "bool")
noncomputable def zhu(T:String):Ent->Option Ent
 | .val d=>if obD d=true then none else some (.val (.bl (isiD T d)))
 | _=>none
theorem kit_all{K:PySem.W.Frag}{T:String}(hT:T = "bool" \/ T = "int" \/ T = "str" \/ T = "tuple" \/ T = "list")(d:D)(h:obD d=false):PySem.W.kitOne K (.type (tyN d)) (.type T)=some (isiD T d):=by
 rcases hT with rfl | rfl | rfl | rfl | rfl <;> cases d <;> first | (cases h;done) | kernel_rfl
theorem rep_ty{K:PySem.W.Frag}{F H:Hp}{v:V}{d:D}(fh:Same F H)(r:Rep F v d)(h:obD d=false):TyOf K H v (.type (tyN d)):=by
 cases r with
 | non=>exact .non
 | bl b=>exact .bl b
 | int i=>exact .int i
 | str z=>exact .str z
 | tup e _=>exact .tup (fh _ _ e)
 | lst e _=>exact .lst (fh _ _ e)
 | dic e _ _=>exact .dK (.inr ⟨_,fh _ _ e⟩)
 | ins _ _ _=>cases h
 | dcI _ _ _ _=>cases h
 | dcS _ _ _=>cases h
section
variable {X:Cx}{a:Expr}{fa:FE}{x:Str}{p p1 pos:Pos}{T:String}{Tn:Str}
theorem visi(ha:VE X a fa)(hg:Gl X "isinstance")(hm:X.mg "isinstance" = none)(hb:bootBuiltins "isinstance" = some (.builtin "isinstance"))(hgT:Gl X Tn)(hmT:X.mg Tn=none)(hbT:bootBuiltins Tn=some (.type T))(hT:T = "bool" \/ T = "int" \/ T = "str" \/ T = "tuple" \/ T = "list" :=by decide)
  (h1:zap a=true:=by rfl) (hn:Tn ≠ "__name__" :=by decide) (hd:(Tn == ("__debug__" : Str))=false:=by decide):VE X (.Call (.Name "isinstance" p) [a,.Name Tn p1] [] pos) (ex1 (zhu T) fa):=by
 obtain⟨t,w,m⟩:=ha.h
 refine⟨_,wcb call_isi hg hm hb (wac w (wac (wbt hgT hmT hbT hn hd) zg4) h1) (h1:=h1),fun B F H σ δ res Q s q k=>?_⟩
 obtain⟨e,q1,q⟩:=bind_some q
 cases e with
 | val d=>
  have q':(if obD d=true then none else some (Ent.val (.bl (isiD T d))))=some res:=q
  cases ho:obD d with
  | true=>rw[if_pos ho] at q';cases q'
  | false=>
   rw[if_neg (by rw[ho];exact Bool.false_ne_true)] at q'
   cases q'
   exact m B F H σ δ _ _ s q1 fun v F1 H1 x1 r1=>⟨v,T,_,_,rfl,rep_ty x1.fh r1 ho,kit_all hT d ho,k _ F1 H1 x1 (.bl _)⟩
 | _=>cases q
end
noncomputable def iL(fe:FE):FI:=fun δ=>(fe δ).bind fun x=>match x with
 | .val (.lst ds)=>some ds
 | .own ds=>some ds
 | _=>none
noncomputable def iB(i:Nat):FI:=fun δ=>match δ[i]? with
 | some (some (.bor ds))=>some ds
 | _=>none
noncomputable def b62(j:Int):Prop:=-(2 ^ 62)<=j/\j<2 ^ 62
theorem zck{j:Int}(h:-1000000000<j/\j<1000000000):b62 j:=by unfold b62;lia
theorem zcX{j:Int}(h:-1000000000<j/\j<1000000000):b62 j=True:=eq_true (zck h)
noncomputable def iR1(fa:FA):FI:=fun δ=>(fa δ).bind fun es=>match es with
 | [e]=>(iOf e).bind fun j=>gif (b62 j) (some ((List.range j.toNat).map fun(i:Nat)=>D.int (0+i)))
 | _=>none
noncomputable def iR2(fa:FA):FI:=fun δ=>(fa δ).bind fun es=>match es with
 | [e,e']=>(iOf e).bind fun i=>(iOf e').bind fun j=>gif (b62 i/\b62 j) (some ((List.range (j - i).toNat).map fun(k:Nat)=>D.int (i+k)))
 | _=>none
theorem zdp{K:PySem.W.Frag}{B F0:Hp}{a:Addr}{vs:List V}{ds:List D}(h:∀ F H,Same F0 F->Same F H->Same B H->SqL K H a vs)(r:Reps F0 vs ds):ItOk B F0 (Itl K a) ds:=fun F H s1 s2 s3=>by
 have hq:=h F H s1 s2 s3
 refine⟨⟨vs,hq,by rw[r.length];exact Nat.le_refl _⟩,fun i d e=>?_⟩
 obtain⟨v,h1,h2⟩:=r.get e
 refine⟨⟨vs,v,hq,h1⟩,fun x H' y=>?_⟩
 obtain⟨e',y⟩:=y
 subst e'
 have:=y vs hq
 rw[h1] at this
 cases this
 exact⟨F,Ex.refl s2,Rep.mono s1 h2⟩
theorem zgP{B F0:Hp}{lo:Int}{n:Nat}:ItOk B F0 (Itr lo n) ((List.range n).map fun(i:Nat)=>D.int (lo+i)):=fun F H s1 s2 s3=>by
 refine⟨by simp[Itr],fun i d e=>?_⟩
 rw[List.getElem?_map] at e
 by_cases hi:i<n
 ·rw[List.getElem?_range hi] at e
  cases e
  refine⟨hi,fun x H' y=>?_⟩
  obtain⟨e',y⟩:=y
  subst e' y
  exact⟨F,Ex.refl s2,.int _⟩
 ·rw[List.getElem?_eq_none (by simp;lia)] at e;cases e
section
variable {X:Cx}{tg e b:Expr}{es:List Expr}{fe:FE}{fa:FA}{p pos:Pos}{x:Str}
theorem iil(h:VE X e fe):VI X tg e (iL fe):=by
 obtain⟨t,w,m⟩:=h.h
 refine⟨_,il w,fun B F H σ δ ds R s q k=>?_⟩
 obtain⟨r,q1,q⟩:=bind_some q
 refine m B F H σ δ r _ s q1 fun v F1 H1 x1 r1=>?_
 split at q
 ·cases q
  cases (show Rep F1 v (.lst ds) from r1) with
  | lst e rs=>exact⟨_,rfl,⟨_,SqL.of (x1.fh _ _ e)⟩,k _ F1 H1 x1 (zdp (fun F H s1 s2 _=>SqL.of (s2 _ _ (s1 _ _ e))) rs)⟩
 ·cases q
  obtain⟨F2,x2,_,r2⟩:=RepR.frz x1 (Same.refl _) r1 rfl
  cases r2 with
  | lst e rs=>exact⟨_,rfl,⟨_,SqL.of (x2.fh _ _ e)⟩,k _ F2 H1 x2 (zdp (fun F H s1 s2 _=>SqL.of (s2 _ _ (s1 _ _ e))) rs)⟩
 ·cases q
theorem iib(i:Nat)(hN:X.N[i]? = some x:=by rfl)(hv:Vis X.env.scope x:=by first | exact Or.inl rfl | exact Or.inr (Or.inl rfl) | exact Or.inr (Or.inr rfl))(hd:(x == ("__debug__" : Str))=false:=by decide)
  (hcd:(x == ("__classdict__" : Str))=false:=by decide):VI X tg (.Name x pos) (iB i):=by
 refine⟨_,il (wv i hN hv hd hcd),fun B F H σ δ ds R s q k=>?_⟩
 unfold iB at q
 split at q
 ·rename_i es e
  cases q
  obtain⟨v,h1,l,vs,e,h2,h3⟩:=s.ent i _ e
  exact⟨v,h1,l,e,⟨vs,s.bh.seq h2⟩,k _ F H (Ex.refl s.fh) (zdp (fun F H _ _ s3=>s3.seq h2) h3)⟩
 ·cases q
theorem iir1(hg:Gl X "range")(hm:X.mg "range" = none)(ha:VA X [e] fa)(h1:zap e=true:=by rfl):VI X tg (.Call (.Name "range" p) [e] [] pos) (iR1 fa):=by
 obtain⟨t,w,m⟩:=ha.h
 refine⟨_,ir1 hg hm w h1,fun B F H σ δ ds R s q k=>?_⟩
 obtain⟨es,q1,q⟩:=bind_some q
 refine m B F H σ δ es _ s q1 fun vs F1 H1 x1 r1=>?_
 split at q
 ·obtain⟨j,q2,q⟩:=bind_some q
  obtain⟨hj,qz⟩:=zaX q
  cases qz
  cases zav q2
  obtain⟨v,rfl,rz⟩:=zc1 r1
  cases zaD rz
  exact⟨j,rfl,hj.1,hj.2,k _ F1 H1 x1 zgP⟩
 ·cases q
theorem iir2(hg:Gl X "range")(hm:X.mg "range" = none)(ha:VA X [e,b] fa)(h1:zap e=true:=by rfl)(h2:zap b=true:=by rfl):VI X tg (.Call (.Name "range" p) [e,b] [] pos) (iR2 fa):=by
 obtain⟨t,w,m⟩:=ha.h
 refine⟨_,ir2 hg hm w h1 h2,fun B F H σ δ ds R s q k=>?_⟩
 obtain⟨es,q1,q⟩:=bind_some q
 refine m B F H σ δ es _ s q1 fun vs F1 H1 x1 r1=>?_
 split at q
 ·obtain⟨i,q2,q⟩:=bind_some q
  obtain⟨j,q3,q⟩:=bind_some q
  obtain⟨hj,qz⟩:=zaX q
  cases qz
  cases zav q2
  cases zav q3
  cases r1 with
  | cons ra rt=>
   obtain⟨w',rfl,rb⟩:=zc1 rt
   cases zaD ra
   cases zaD rb
   exact⟨i,j,rfl,⟨hj.1.1,hj.1.2,hj.2.1,hj.2.2⟩,k _ F1 H1 x1 zgP⟩
 ·cases q
end
end L3

namespace L3
open PySem PySem.Spec PyProof.Rows L2
section
variable {prog:Program}{w:World}{A:Around}{R:Result->Shared->Prop}{I:Addr}{fp wr:List Addr}{n:Nat}{P:Nat->Value->Prop}{St:Nat->Heap->Prop}{kw:List (Str × Value)}
theorem mloop(W:Walks prog w A.in1 I fp wr n P St)(bt:Nat->Nat->Bool)(hc:CmpOf prog w A.in1 .Lt P bt)(S:Addr)(hSf:S ∉ fp) :
  ∀ (k j:Nat) (s:Shared) (vb:Value) (c:Nat),n - (j+1)=k->j+1<=n->St (j+1) s.heap->P (argBest bt j) vb ->
  s.heap.get? S=some { cls:=.type "list",dict:=none,data:=.seq #[vb,vb] c,slots:=#[]} ->
  (∀ v h' tk,P (argBest bt (n - 1)) v->(∀ b o,b ∉ wr->b ≠ S->s.heap.get? b=some o->h'.get? b=some o)->R (.ok (.ret v)) { s with heap:=h',toks:=tk}) ->
  codeAny (model prog w) A (.builtin "min.loop" ⟨[.ref I,.none,.ref S],kw⟩) R s:=by
 have hSw:S ∉ wr:=fun h=>hSf (W.sub _ h)
 have hnm:(toString "min" ++ toString ".loop" : String) = "min.loop" :=by decide
 intro k
 induction k with
 | zero=>
  intro j s vb c hk hj hst hPb hS hR
  have hin:j+1=n:=by lia
  refine codeAny_builtin PySem.F.entry_min_loop ?_
  rw[Around.under_plainId PySem.F.plain_min_loop _]
  show wpAny _ A.in1 (seqItems? (.ref S) >>= _) _ _ s
  refine wpAny_bind (wpAny_seqItems hS rfl ?_)
  show wpAny _ A.in1 (tryCatch (pyNext (.ref I)) _ >>= _) _ _ s
  refine wpAny_bind (wpAny_tryCatch (W.done s _ _ (hin ▸ hst) fun h' tk hk'=>?_))
  have hS':=hk' S _ hSw hS
  show wpAny _ A.in1 (updateSeq S (fun _=>#[]) >>= _) _ _ _
  refine wpAny_bind ?_
  refine wpAny_updateSeq hS' rfl (wpAny_bind (wpAny_letGo (wpAny_pure ?_)))
  exact hR vb _ tk (by rw[<- hin];exact hPb) fun b o hbw hbS e=>(Heap.get?_update_other _ _ (Ne.symm hbS)).trans (hk' b o hbw e)
 | succ k ih=>
  intro j s vb c hk hj hst hPb hS hR
  have hlt:j+1<n:=by lia
  refine codeAny_builtin PySem.F.entry_min_loop ?_
  rw[Around.under_plainId PySem.F.plain_min_loop _]
  show wpAny _ A.in1 (seqItems? (.ref S) >>= _) _ _ s
  refine wpAny_bind (wpAny_seqItems hS rfl ?_)
  show wpAny _ A.in1 (tryCatch (pyNext (.ref I)) _ >>= _) _ _ s
  refine wpAny_bind (wpAny_tryCatch (W.item (j+1) s _ _ hlt hst fun v h' tk hP hst' hk'=>?_))
  have hS':=hk' S _ hSw hS
  show wpAny _ A.in1 (tryCatch (holding [v,v] (richCompare .Lt v vb >>= _)) _ >>= _) _ _ _
  refine wpAny_bind (wpAny_tryCatch (wpAny_holding (wpAny_bind (hc (j+1) (argBest bt j) v vb _ _ _ hP hPb ?_))))
  refine wpAny_bind (wpAny_holding (wpAny_truthy_bool ?_))
  refine wpAny_bind (wpAny_letGo (wpAny_pure ?_))
  cases hb:bt (j+1) (argBest bt j) with
  | true=>
   simp only[if_true]
   refine wpAny_bind ?_
   refine wpAny_updateSeq hS' rfl (wpAny_bind (wpAny_letGo ?_))
   rw[hnm]
   refine wpAny_pure ⟨plainId_quiet PySem.F.plain_min_loop _,ih (j+1) _ v _ (by lia) hlt (W.frame _ _ _ hst' fun b hbf o e=>?_) (by simp only[argBest,hb,if_true];exact hP) (Heap.get?_update_self _ hS' rfl) fun v' h'' tk'' hP' hk''=>?_⟩
   ·exact(Heap.get?_update_other _ _ (fun h:S=b=>hSf (by rw[h];exact hbf))).trans e
   ·exact hR v' h'' tk'' hP' fun b o hbw hbS e=>hk'' b o hbw hbS ((Heap.get?_update_other _ _ (Ne.symm hbS)).trans (hk' b o hbw e))
  | false=>
   simp only[Bool.false_eq_true,if_false]
   refine wpAny_bind (wpAny_letGo ?_)
   rw[hnm]
   refine wpAny_pure ⟨plainId_quiet PySem.F.plain_min_loop _,ih (j+1) _ vb c (by lia) hlt hst' (by simp only[argBest,hb,Bool.false_eq_true,if_false];exact hPb) hS' fun v' h'' tk'' hP' hk''=>?_⟩
   exact hR v' h'' tk'' hP' fun b o hbw hbS e=>hk'' b o hbw hbS (hk' b o hbw e)
theorem mloop1(W:Walks prog w A.in1 I fp wr n P St)(bt:Nat->Nat->Bool)(hc:CmpOf prog w A.in1 .Lt P bt)(S:Addr)(hSf:S ∉ fp)(hn:0<n){s:Shared}{c:Nat}(hst:St 0 s.heap)
  (hS:s.heap.get? S=some { cls:=.type "list",dict:=none,data:=.seq #[] c,slots:=#[]})
  (hR:∀ v h' tk,P (argBest bt (n - 1)) v->(∀ b o,b ∉ wr->b ≠ S->s.heap.get? b=some o->h'.get? b=some o)->R (.ok (.ret v)) { s with heap:=h',toks:=tk}) :
  codeAny (model prog w) A (.builtin "min.loop" ⟨[.ref I,.none,.ref S],kw⟩) R s:=by
 have hSw:S ∉ wr:=fun h=>hSf (W.sub _ h)
 have hnm:(toString "min" ++ toString ".loop" : String) = "min.loop" :=by decide
 refine codeAny_builtin PySem.F.entry_min_loop ?_
 rw[Around.under_plainId PySem.F.plain_min_loop _]
 show wpAny _ A.in1 (seqItems? (.ref S) >>= _) _ _ s
 refine wpAny_bind (wpAny_seqItems hS rfl ?_)
 show wpAny _ A.in1 (tryCatch (pyNext (.ref I)) _ >>= _) _ _ s
 refine wpAny_bind (wpAny_tryCatch (W.item 0 s _ _ hn hst fun v h' tk hP hst' hk'=>?_))
 have hS':=hk' S _ hSw hS
 show wpAny _ A.in1 (updateSeq S (fun _=>#[v,v]) >>= _) _ _ _
 refine wpAny_bind ?_
 refine wpAny_updateSeq hS' rfl ?_
 rw[hnm]
 refine wpAny_pure ⟨plainId_quiet PySem.F.plain_min_loop _,mloop W bt hc S hSf _ 0 _ v _ rfl hn (W.frame _ _ _ hst' fun b hbf o e=>?_) hP (Heap.get?_update_self _ hS' rfl) fun v' h'' tk'' hP' hk''=>?_⟩
 ·exact(Heap.get?_update_other _ _ (fun h:S=b=>hSf (by rw[h];exact hbf))).trans e
 ·exact hR v' h'' tk'' hP' fun b o hbw hbS e=>hk'' b o hbw hbS ((Heap.get?_update_other _ _ (Ne.symm hbS)).trans (hk' b o hbw e))
theorem mloop0{d:Value}{kn:Str}(W:Walks prog w A.in1 I fp wr n P St)(S:Addr)(hSf:S ∉ fp)(hn:n=0){s:Shared}{c:Nat}(hst:St 0 s.heap)
  (hS:s.heap.get? S=some { cls:=.type "list",dict:=none,data:=.seq #[] c,slots:=#[]})
  (hR:∀ h' tk,(∀ b o,b ∉ wr->b ≠ S->s.heap.get? b=some o->h'.get? b=some o)->R (.ok (.ret d)) { s with heap:=h',toks:=tk}) :
  codeAny (model prog w) A (.builtin "min.loop" ⟨[.ref I,.none,.ref S],[(kn,d)]⟩) R s:=by
 refine codeAny_builtin PySem.F.entry_min_loop ?_
 rw[Around.under_plainId PySem.F.plain_min_loop _]
 show wpAny _ A.in1 (seqItems? (.ref S) >>= _) _ _ s
 refine wpAny_bind (wpAny_seqItems hS rfl ?_)
 show wpAny _ A.in1 (tryCatch (pyNext (.ref I)) _ >>= _) _ _ s
 refine wpAny_bind (wpAny_tryCatch (W.done s _ _ (hn ▸ hst) fun h' tk hk'=>?_))
 show wpAny _ A.in1 (rule _ >>= _) _ _ _
 refine wpAny_bind (wpAny_rule ?_)
 exact wpAny_pure (hR h' tk fun b o hbw _ e=>hk' b o hbw e)
end
section
variable {prog:Program}{w:World}{A:Around}{E:Value->Shared->Prop}{s:Shared}{l:Addr}{xs:Array (Int × Tok)}{d:Value}
theorem argsMinD(a d:Value):argsOk "min" ⟨[a],[(Str.ofString "default",d)]⟩:=by unfold argsOk;kernel_rfl
theorem call_minD{Q:Value->Shared->Prop}(hh:A.handled=none)(hl:s.heap.IsList l (intItems xs))
  (h1:∀ v h' tk,0<xs.size->(intItems xs)[argBest (fun i j=>decide (numAt xs i<numAt xs j)) (xs.size - 1)]? = some v->(∀ b o,s.heap.get? b=some o->h'.get? b=some o)->Q v { s with heap:=h',toks:=tk})
  (h2:∀ h' tk,xs.size=0->(∀ b o,s.heap.get? b=some o->h'.get? b=some o)->Q d { s with heap:=h',toks:=tk}) :
  wpAny (model prog w) A (call (.builtin "min") [.ref l] [(Str.ofString "default",d)]) Q E s:=by
 have hnm:(toString "min" ++ toString ".loop" : String) = "min.loop" :=by decide
 refine kmb_tree PySem.F.kind_min PySem.F.plain_min PySem.F.entry_min (argsMinD _ _) ?_
 show wpAny _ A.in1 (Builtin.Builtins.bindParams "min" ["key","default"] 0 ⟨[],[(Str.ofString "default",d)]⟩ >>= _) _ _ s
 refine wpAny_bind (wpAny_of_eq (show Builtin.Builtins.bindParams "min" ["key","default"] 0 ⟨[],[(Str.ofString "default",d)]⟩=pure [none,some d] from rfl) ?_)
 refine wpAny_bind (wpAny_pure ?_)
 refine wpAny_bind (iter_intList hl fun s₂ e st hfp hlI=>?_)
 subst e
 refine wpAny_bind (wpAny_newObj_type ?_)
 rw[hnm]
 have W:=Walks.list (prog:=prog) (w:=w) (A:=A.in1) hh s.heap.objs.size l hlI (intItems xs)
 have hsz:(intItems xs).size=xs.size:=by simp[intItems]
 have hSf:(s.heap.push { cls:=.type "list_iterator",data:=.fields #[.ref l,.int 0 0]}).objs.size ∉ [s.heap.objs.size,l]:=fun hm=>Nat.lt_irrefl _ (hfp _ hm)
 have keep:∀ h':Heap,(∀ b o,b ∉ [s.heap.objs.size]->b ≠ (s.heap.push { cls:=.type "list_iterator",data:=.fields #[.ref l,.int 0 0]}).objs.size->((s.heap.push { cls:=.type "list_iterator",data:=.fields #[.ref l,.int 0 0]}).push { cls:=.type "list",data:=.seq ([]:List Value).toArray}).get? b=some o->h'.get? b=some o)->∀ b o,s.heap.get? b=some o->h'.get? b=some o:=fun h' hk b o e=>by
  refine hk b o (fun hm=>?_) (fun hb=>?_) (Heap.get?_push_of_some _ (Heap.get?_push_of_some _ e))
  ·exact absurd (Heap.lt_size e) (by rw[List.mem_singleton.mp hm];exact Nat.lt_irrefl _)
  ·have h1:=Heap.lt_size e
   rw[Heap.size_push] at hb
   exact absurd h1 (by rw[hb];exact Nat.not_lt.mpr (Nat.le_succ _))
 by_cases hx:xs.size=0
 ·refine wpAny_pure ⟨plainId_quiet PySem.F.plain_min_loop _,mloop0 W _ hSf (by rw[hsz];exact hx) (W.frame _ _ _ st fun b _ o e=>Heap.get?_push_of_some _ e) (Heap.get?_push_size _ rfl) fun h' tk hk=>?_⟩
  exact h2 h' tk hx (keep h' hk)
 ·refine wpAny_pure ⟨plainId_quiet PySem.F.plain_min_loop _,mloop1 W _ (CmpOf.ints_lt (numAt xs) (fun _ _=>intItems_at)) _ hSf (by lia) (W.frame _ _ _ st fun b _ o e=>Heap.get?_push_of_some _ e) (Heap.get?_push_size _ rfl) fun v h' tk hP hk=>?_⟩
  exact h1 v h' tk (by lia) (by simpa [intItems] using hP) (keep h' hk)
end
noncomputable def isI:D->Option Int
 | .int i=>some i
 | _=>none
noncomputable def zhm:List D->Option (List Int)
 | []=>some []
 | d :: ds=>(isI d).bind fun i=>(zhm ds).map fun is=>i :: is
noncomputable def minI:List Int->Option Int
 | []=>none
 | i :: is=>some (is.foldl (fun a b=>if b<a then b else a) i)
theorem zgB{F:Hp}:∀ {vs:List V} {ds:List D} {ns:List Int},Reps F vs ds->zhm ds=some ns->vs=ns.map V.int
 | _,_,_,.nil,q=>by cases q;rfl
 | _,d :: ds,ns,.cons r t,q=>by
  simp only[zhm] at q
  obtain⟨i,q1,q⟩:=bind_some q
  obtain⟨is,q2,q⟩:=map_some q
  cases q
  cases d <;> cases q1
  cases r
  rw[List.map_cons,zgB t q2]
theorem zds:∀ {ns:List Int} {us:List Value},Vals (ns.map V.int) us->∃ l:List (Int × Tok),us=l.map (fun p=>Value.int p.1 p.2)/\l.map (·.1)=ns
 | [],us,r=>by
  rw[List.map_nil] at r
  cases r
  exact⟨[],rfl,rfl⟩
 | n :: ns,us,r=>by
  rw[List.map_cons] at r
  cases r with
  | cons h t=>
   obtain⟨tk,e⟩:=h
   subst e
   obtain⟨l,ex1,ex2⟩:=zds t
   exact⟨(n,tk) :: l,by rw[ex1];rfl,by rw[List.map_cons,ex2]⟩
theorem zew(val:Nat->Int):∀ k,val (argBest (fun i j=>decide (val i<val j)) k)=((List.range k).map fun i=>val (i+1)).foldl (fun a b=>if b<a then b else a) (val 0)
 | 0=>rfl
 | k+1=>by
  rw[List.range_succ,List.map_append,List.foldl_append,<- zew val k]
  have e:argBest (fun i j=>decide (val i<val j)) (k+1)=if decide (val (k+1)<val (argBest (fun i j=>decide (val i<val j)) k))=true then k+1 else argBest (fun i j=>decide (val i<val j)) k:=rfl
  rw[e]
  generalize argBest (fun i j=>decide (val i<val j)) k=z
  simp only[decide_eq_true_eq,List.map_cons,List.map_nil,List.foldl_cons,List.foldl_nil]
  split <;> rfl
theorem minI_best{l:List (Int × Tok)}(hn:0<l.length):minI (l.map (·.1))=some (numAt l.toArray (argBest (fun i j=>decide (numAt l.toArray i<numAt l.toArray j)) (l.length - 1))):=by
 cases l with
 | nil=>simp at hn
 | cons p l=>
  rw[zew (numAt (p :: l).toArray)]
  show some _=some _
  congr 1
  rw[show(p :: l).length - 1=l.length by simp]
  have e0:numAt (p :: l).toArray 0=p.1:=by simp[numAt]
  have ex1:(List.range l.length).map (fun i=>numAt (p :: l).toArray (i+1))=l.map (·.1):=by
   apply List.ext_getElem
   ·simp
   ·intro i h1 h2
    simp at h1
    simp[numAt,h1]
  rw[e0,ex1]
section
variable {X:Cx}
theorem zgh{pins:List (Addr × Obj)}{σ:L2.St}{H:Hp}{s:Shared}{p:Addr}{ns:List Int}(I:Inv X pins σ H s)(h:SqL X.K H p (ns.map V.int)):∃ l:List (Int × Tok),s.heap.IsList p (intItems l.toArray)/\l.map (·.1)=ns:=by
 obtain⟨its,r,pl,_⟩:=I.list h
 obtain⟨l,ex1,ex2⟩:=zds r
 refine⟨l,?_,ex2⟩
 have:=pl.isList
 rw[ex1] at this
 simpa [intItems] using this
noncomputable def gMinD:Ent->Ent->Option Ent:=fun x y=>(asL x).bind fun ds=>(zhm ds).bind fun ns=>match minI ns with
 | some m=>some (.val (.int m))
 | none=>match y with
  | .val d=>some (.val d)
  | _=>none
noncomputable def rMinD(K:PySem.W.Frag):R2:=fun x y H Q=>∃ (q:Addr) (ns:List Int),x=.ref q/\SqL K H q (ns.map V.int)/\Q (match minI ns with | some m=>.int m | none=>y) H
theorem vminD{a d:Expr}{fa fd:FE}{p pos kpos:Pos}(ha:VE X a fa)(hd:VE X d fd)(hg:Gl X "min")(hm:X.mg "min" = none)(hb:bootBuiltins "min" = some (.builtin "min"))(hc:X.calm=true:=by rfl)(hs:zap a=true:=by rfl) :
  VE X (.Call (.Name "min" p) [a] [⟨some "default",d,kpos⟩] pos) (ex2 gMinD fa fd):=by
 obtain⟨ta,wa,ma⟩:=ha.h
 obtain⟨td,wd,md⟩:=hd.h
 refine⟨tOp (rMinD X.K) ta td,⟨?_⟩,.op ?_ ma md⟩
 ·intro pins s σ H Q I h
  refine wpAny_Call_Name_kw (zcK I hg hm hb ?_ (by decide) (by decide))
  have hA:=(wac wa zg4 hs).h pos pins s σ H (fun xs H1=>match xs with | [x]=>td σ H1 fun y H2=>rMinD X.K x y H2 Q | _=>False) I h
  refine PyProof.Rows.callWith_kw (thn hA fun us s1 h1=>?_) (by rw[zan hs];rfl) (by rw[zan hs];rfl)
  obtain⟨vs,H1,I1,r1,q1⟩:=h1
  cases r1 with
  | nil=>exact False.elim q1
  | cons rx rt=>
   cases rt with
   | cons _ _=>exact False.elim q1
   | nil=>
    have hK:=pk_cons (nm:=some (Str.ofString "default")) (kpos:=kpos) wd.h pk_nil pos pins s1 σ H1 (fun ys H2=>match ys with | [y]=>rMinD X.K _ y H2 Q | _=>False) I1 q1
    refine thn hK fun ws s2 h2=>?_
    obtain⟨zs,H2,I2,r2,q2⟩:=h2
    cases r2 with
    | nil=>exact False.elim q2
    | cons ry rt2=>
     cases rt2 with
     | cons _ _=>exact False.elim q2
     | nil=>
      obtain⟨q,ns,rfl,hq,q2⟩:=q2
      cases rx
      obtain⟨l,hl,e⟩:=zgh I2 hq
      subst e
      refine call_minD (I2.ok.hd hc) hl (fun v h' tk hn hv kp=>?_) fun h' tk hn kp=>?_
      ·obtain⟨t,e⟩:=intItems_at hv
       subst e
       rw[minI_best (by simpa using hn)] at q2
       exact⟨.int _,H2,I2.kept (t':=tk) kp,⟨t,by simp⟩,q2⟩
      ·have e:l=[]:=List.eq_nil_of_length_eq_zero (by simpa using hn)
       subst e
       exact⟨_,H2,I2.kept (t':=tk) kp,ry,q2⟩
 ·intro H0 F H x y e e' res Q fh hh rx ry q k
  obtain⟨ds,q1,q⟩:=bind_some q
  obtain⟨ns,q2,q⟩:=bind_some q
  obtain⟨l,ws,el,h1,h2⟩:=RepR.toL rx fh q1
  rw[zgB h2 q2] at h1
  refine⟨l,ns,el,h1,?_⟩
  cases hm:minI ns with
  | some m=>simp only[hm] at q ⊢;cases q;exact k _ F H (Ex.refl fh) (.int _)
  | none=>
   simp only[hm] at q ⊢
   cases e' with
   | val d=>cases q;exact k _ F H (Ex.refl fh) ry
   | _=>cases q
end
end L3

namespace L3
open PySem PySem.Spec PyProof.Rows L2
noncomputable def sgn(z:Str):List Str:=z.cps.toList.map fun c=>⟨#[c]⟩
theorem zf2(l:List Nat):(mkS l).cps.toList=l:=by simp[mkS]
theorem mkS_cps(z:Str):mkS z.cps.toList=z:=by cases z;simp[mkS]
theorem zcv(l:List Nat):(mkS l).length=l.length:=by simp[mkS,Str.length]
noncomputable def clp(n:Int)(v:Option Int)(d:Int):Int:=match v with
 | none=>d
 | some i=>max 0 (min (if i<0 then i+n else i) n)
theorem clp_ok(n:Nat)(v:Option Int)(d:Nat):clp n v d=((HT.sIx n d v:Nat):Int):=by
 cases v with
 | none=>rfl
 | some i=>
  show max 0 (min (if i<0 then i+(n:Int) else i) n)=(((if i<0 then (i+(n:Int)).toNat else min i.toNat n:Nat)):Int)
  by_cases h:i<0
  ·rw[if_pos h,if_pos h];lia
  ·rw[if_neg h,if_neg h];lia
theorem strIx(lo hi:Option Int)(n:Nat):Builtin.Str.strSliceIndices lo hi 1 n=Builtin.Str.strSliceIndices (some ((HT.sIx n 0 lo:Nat):Int)) (some ((HT.sIx n n hi:Nat):Int)) 1 n:=by
 have ex1:∀ a:Nat,a<=n->max (0:Int) (min (if (a:Int)<0 then (a:Int)+n else a) n)=a:=fun a h=>by
  rw[if_neg (by lia)];lia
 unfold Builtin.Str.strSliceIndices
 simp only[show((1:Int) > 0)=True from by simp,if_true]
 rw[ex1 _ (HT.sIx_le n 0 (Nat.zero_le n) lo),ex1 _ (HT.sIx_le n n (Nat.le_refl n) hi)]
 show sliceRange (clp n lo ((0:Nat):Int)) (clp n hi (n:Int)) 1=_
 rw[clp_ok,clp_ok]
theorem slice_cut(x:Str)(lo hi:Option Int):Txt.slice x lo hi=mkS (zhv x.cps.toList lo hi):=by
 have hl:x.cps.toList.length=x.length:=by simp[Str.length]
 unfold Txt.slice zhv
 rw[strIx,hl]
 have h1:=HT.sIx_le x.length 0 (Nat.zero_le _) lo
 have h2:=HT.sIx_le x.length x.length (Nat.le_refl _) hi
 generalize HT.sIx x.length 0 lo=a at h1
 generalize HT.sIx x.length x.length hi=b at h2
 by_cases hab:a<=b
 ·rw[StrLaws.strSliceIndices_plain hab h2]
  split
  ·rename_i h
   have hz:b - a=x.length:=by simpa using h
   have ha:a=0:=by lia
   subst ha
   rw[List.drop_zero,hz,<- hl,List.take_length,mkS_cps]
  ·rw[<- StrLaws.strSliceIndices_plain hab h2,StrLaws.sliced_plain x hab h2]
   rfl
 ·have e:Builtin.Str.strSliceIndices (some (a:Int)) (some (b:Int)) 1 x.length=[]:=by
   have n1:¬ ((a:Int)<0):=by lia
   have n2:¬ ((b:Int)<0):=by lia
   have ex1:max (0:Int) (min (a:Int) (x.length:Int))=a:=by lia
   have ex2:max (0:Int) (min (b:Int) (x.length:Int))=b:=by lia
   simp only[Builtin.Str.strSliceIndices,n1,n2,if_false,ex1,ex2,show((1:Int) > 0)=True from by simp,if_true,sliceRange]
   rw[if_neg (by lia)]
   simp
  rw[e]
  split
  ·rename_i h
   have hz:0=x.length:=by simpa using h
   lia
  ·rw[show b - a=0 by lia,List.take_zero]
   rfl
section
variable {X:Cx}
theorem sl_str:SlR X (fun x lo hi H Q=>∃ z,x=.str z/\z.length<=sizeLine/\Q (.str (mkS (zhv z.cps.toList lo hi))) H):=by
 intro pins s σ H x v vl vu lo hi sl Q I rx hs pl pu h
 obtain⟨z,rfl,hz,q⟩:=h
 obtain⟨t,rfl⟩:=rx
 obtain⟨o,ho,hc,hd⟩:=hs
 refine⟨"str",_,PySem.F.slot_str_getitem.lookup,typeIs_str _ _ _,?_⟩
 have fin:∀ t' k,EP X pins σ Q (.str (Txt.slice z lo hi) t') { s with toks:=k}:=fun t' k=>⟨.str _,H,I.tok k,⟨t',rfl⟩,by rw[slice_cut];exact q⟩
 cases pl with
 | none=>
  cases pu with
  | none=>exact wpAny_getItem_str_slice (l:=none) (u:=none) (st:=none) ⟨o,ho,hc,hd⟩ rfl (post_val_or_str ⟨Nat.le_trans (Txt.slice_le z _ _) hz,fin⟩)
  | int j u=>exact wpAny_getItem_str_slice (l:=none) (u:=some (j,u)) (st:=none) ⟨o,ho,hc,hd⟩ rfl (post_val_or_str ⟨Nat.le_trans (Txt.slice_le z _ _) hz,fin⟩)
 | int i u=>
  cases pu with
  | none=>exact wpAny_getItem_str_slice (l:=some (i,u)) (u:=none) (st:=none) ⟨o,ho,hc,hd⟩ rfl (post_val_or_str ⟨Nat.le_trans (Txt.slice_le z _ _) hz,fin⟩)
  | int j u'=>exact wpAny_getItem_str_slice (l:=some (i,u)) (u:=some (j,u')) (st:=none) ⟨o,ho,hc,hd⟩ rfl (post_val_or_str ⟨Nat.le_trans (Txt.slice_le z _ _) hz,fin⟩)
noncomputable def gSlS:Ent->Option Int->Option Int->Option Ent:=fun x lo hi=>(sOf x).bind fun z=>gif (sz z.length) (some (.val (.str (mkS (zhv z.cps.toList lo hi)))))
theorem l_str:SlD X gSlS:=⟨_,sl_str,fun H0 F H x lo hi e res Q fh hh rx q k=>by
 obtain⟨z,q1,q⟩:=bind_some q
 obtain⟨hl,qz⟩:=zaX q
 cases qz
 cases zbe q1
 exact⟨z,zby rx,zc3 hl,k _ F H (Ex.refl fh) (.str _)⟩⟩
theorem zep{z:Str}:∀ {acc:List Value} {k:Nat},(∀ j v,acc[j]? = some v->SignAt z (k+j) v)->Vals (((z.cps.toList.drop k).take acc.length).map fun c=>V.str ⟨#[c]⟩) acc
 | [],k,_=>by simp;exact .nil
 | v :: r,k,h=>by
  obtain⟨c,u,hc,rfl⟩:=h 0 v rfl
  have hk:k<z.cps.toList.length:=by
   have:=(Array.getElem?_eq_some_iff.mp hc).1
   simpa using this
  rw[List.drop_eq_getElem_cons hk,List.length_cons,List.take_succ_cons,List.map_cons]
  have e:z.cps.toList[k]=c:=by
   have:=Array.getElem?_eq_some_iff.mp hc
   simpa using this.2
  rw[e]
  refine .cons ⟨u,rfl⟩ (zep (k:=k+1) fun j v hv=>?_)
  have:=h (j+1) v (by simpa using hv)
  rwa [show k+(j+1)=k+1+j by lia] at this
theorem vals_all{z:Str}{acc:Array Value}(h:ItemsOf (SignAt z) acc z.cps.size):Vals ((sgn z).map V.str) acc.toList:=by
 obtain⟨h1,h2⟩:=h
 have:=zep (z:=z) (acc:=acc.toList) (k:=0) (fun j v e=>by rw[Nat.zero_add];exact h2 j v (by simpa using e))
 rw[List.drop_zero,show acc.toList.length=z.cps.toList.length by simpa using h1,List.take_length] at this
 unfold sgn
 rw[List.map_map]
 exact this
theorem call_tupS(hc:X.calm=true):zdh X (.type "tuple") (fun xs H Q=>∃ z,xs=[.str z]/\z.length<=1000000/\∀ p,H p=none->Q (.ref p) (upd H p (.tup ((sgn z).map V.str)))):=by
 intro pins s σ H xs us Q I r h
 obtain⟨z,rfl,hz,q⟩:=h
 obtain⟨u,rfl,t,rfl⟩:=zfc r
 refine call_tuple_str (I.ok.hd hc) z t (fun h' tk acc kp ha=>?_) (zc3 hz)
 have I1:=I.kept (t':=tk) kp
 refine⟨.ref h'.objs.size,_,I1.laid (t':=tk) (o:=.tup ((sgn z).map V.str)) (fun b o e=>Heap.get?_push_of_some _ e) (Nat.le_refl _) ⟨?_,acc.toList,vals_all ha,⟨_,Heap.get?_push_size _ rfl,rfl,0,by simp⟩⟩,rfl,q _ (I1.hok.fresh (Nat.le_refl _))⟩
 rw[List.length_map]
 unfold sgn
 rw[List.length_map]
 exact zc3 hz
theorem zfn{F:Hp}:∀ (zs:List Str),Reps F (zs.map V.str) (zs.map D.str)
 | []=>.nil
 | z :: zs=>.cons (.str z) (zfn zs)
noncomputable def gTupS:List Ent->Option Ent
 | [x]=>(sOf x).bind fun z=>gif (sz z.length) (some (.val (.tup ((sgn z).map .str))))
 | _=>none
theorem c_tupS(hc:X.calm=true:=by rfl):zej X (.type "tuple") gTupS:=⟨_,call_tupS hc,fun H0 F H vs es res Q fh hh r q k=>by
 obtain⟨x,rfl⟩:=zex rfl (fun _ _ _=>rfl) q
 obtain⟨v,rfl,rz⟩:=zc1 r
 obtain⟨z,q1,q⟩:=bind_some q
 obtain⟨hl,qz⟩:=zaX q
 cases qz
 cases zbe q1
 cases zby rz
 exact⟨z,rfl,hl,fun p hp=>k _ _ _ (Ex.alloc fh hp) (.tup zae (zfn _))⟩⟩
end
structure MtD(X:Cx)(T:String)(name:Str)(g:Ent->List Ent->Option Ent):Prop where
 h:∃ id r,PlainAttrs T/\Slot T name id/\typeOf (.builtin id)=pure (.type "method_descriptor")/\MtR X id r /\
  (∀ (H0 F H:Hp) (x:V) (e:Ent) (es:List Ent) (res:Ent),Same F H->RepR X.K H0 F H x e->g e es=some res->tyV X.K T x H) /\
  ∀ (H0 F H:Hp) (x:V) (vs:List V) (e:Ent) (es:List Ent) (res:Ent) (Q:VK),Same F H->Same H0 H->RepR X.K H0 F H x e->RepRs X.K H0 F H vs es->g e es=some res->(∀ v F' H',Ex F H F' H'->RepR X.K H0 F' H' v res->Q v H')->r x vs H Q
section
variable {X:Cx}{T:String}{name:Str}{g:Ent->List Ent->Option Ent}{o e:Expr}{es:List Expr}{fo:FE}{fs:FA}{apos cpos:Pos}
end
section
variable {X:Cx}
end
end L3

namespace L3
open PySem PySem.Spec PyProof.Rows L2
theorem len1{α:Type}{us:List α}(h:us.length=1):∃ a0,us=[a0]:=match us,h with
 | [a0],_=>⟨a0,rfl⟩
theorem zgC{α:Type}{us:List α}(h:us.length=2):∃ a0 a1,us=[a0,a1]:=match us,h with
 | [a0,a1],_=>⟨a0,a1,rfl⟩
theorem len3{α:Type}{us:List α}(h:us.length=3):∃ a0 a1 a2,us=[a0,a1,a2]:=match us,h with
 | [a0,a1,a2],_=>⟨a0,a1,a2,rfl⟩
theorem len4{α:Type}{us:List α}(h:us.length=4):∃ a0 a1 a2 a3,us=[a0,a1,a2,a3]:=match us,h with
 | [a0,a1,a2,a3],_=>⟨a0,a1,a2,a3,rfl⟩
theorem len5{α:Type}{us:List α}(h:us.length=5):∃ a0 a1 a2 a3 a4,us=[a0,a1,a2,a3,a4]:=match us,h with
 | [a0,a1,a2,a3,a4],_=>⟨a0,a1,a2,a3,a4,rfl⟩
structure FunA(K:PySem.W.Frag)(x qual:Str)(st:Stmt)(f:Addr)(fd:FuncData):Prop where
 ex:∃ (oc:Value) (od:Option Addr) (dV kV doc pm:Value) (an:Option Addr) (cdv ct:Value) (osl:Array (Option Value)),
  fd=PySem.W.fnOf x qual (zaq st) (zam st) (zac st) dV kV doc pm an cdv ct/\K.lookup f=some ⟨oc,od,.func fd,osl⟩/\PySem.W.codeIn K cdv qual=true
 kp:PySem.W.keepIn K (.ref f)=true
theorem FunA.of{K:PySem.W.Frag}{x qual:Str}{st:Stmt}{f:Addr}{fd:FuncData}(F:Fun K x qual st f fd):FunA K x qual st f fd:=
 let⟨oc,od,kV,doc,pm,an,cdv,ct,osl,e,l,c⟩:=F.ex;⟨⟨oc,od,.none,kV,doc,pm,an,cdv,ct,osl,e,l,c⟩,F.kp⟩
section
variable {P:Program}{w:World}{K:PySem.W.Frag}{mg:Str->Option Value}{base:Heap}{x qual:Str}{st:Stmt}{f:Addr}{fd:FuncData}{N ps:List Str}{k:Nat}{ks:List Kd}{g:List D->Option Ent}
theorem zbi(F:FunA K x qual st f fd)(S:FnScope N ps (zac st))(fb:FS)(hk:ks.length=ps.length)(hg:∀ ds r,g ds=some r->zcs ks (N.length - ps.length) fb ds=some r)
  (hbody:∀ (cdv:Value) (A:Around) (outer:List Env) (s:Shared) (H:Hp) (E:XK),Room k (A.deeper (envOfC qual (zac st) s.heap.objs.size f cdv))->VSs (cxOf CX0 P w K mg base N qual (zac st) f cdv A outer s H E).nox (zam st) fb) :
  FnOk P w K mg base CX0 (k+1) f fd ps (spD K ks g):=by
 obtain⟨oc,od,dV,kV,doc,pm,an,cdv,ct,osl,rfl,lk,hcd⟩:=F.ex
 refine fn_of lk hcd S (fun vs H Q E h=>?_) fun A outer s H vs Q E hr h=>?_
 ·obtain⟨F,ds,r,_,a,_⟩:=h
  rw[a.length,hk]
 ·obtain⟨F,ds,r,fh,a,q,kk⟩:=h
  obtain⟨t,wt,m⟩:=(hbody cdv A outer s H E hr).h
  refine⟨t,wt.h.nox,?_⟩
  obtain⟨es,q1,q2⟩:=bind_some (hg ds r q)
  obtain⟨out,q3,q4⟩:=bind_some q2
  obtain⟨hl,he⟩:=a.start q1
  have hvs:=a.length
  have hap:∀ (i:Nat) (e:Ent),(es ++ List.replicate (N.length - ps.length) none)[i]? = some (some e)->es[i]? = some (some e):=fun i e h=>by
   by_cases hi:i<es.length
   ·rwa [List.getElem?_append_left hi] at h
   ·rw[List.getElem?_append_right (by lia),List.getElem?_replicate] at h
    split at h <;> cases h
  have s0:RS K ⟨H,none⟩ F H (L2.start N vs) (es ++ List.replicate (N.length - ps.length) none):=by
   refine⟨fh,Same.refl H,?_,fun i e h=>?_,fun a b l ds e hab h1=>?_,fun a b e1 e2 v1 v2 ad hab q1 _ _ _ q5 _ _=>?_,fun w o hw _=>by cases hw⟩
   ·unfold L2.start
    simp only[List.length_append,List.length_map,List.length_replicate]
    lia
   ·obtain⟨⟨v,h1,h2⟩,_⟩:=he i e (hap i e h)
    refine⟨v,?_,h2⟩
    unfold L2.start
    rw[List.getElem?_append_left (by rw[List.length_map];exact(List.getElem?_eq_some_iff.mp h1).1),List.getElem?_map,h1]
    rfl
   ·have:=(he a _ (hap a _ h1)).2.1
    cases this
   ·obtain⟨_,_,ho⟩:=he a _ (hap a _ q1)
    rw[ho] at q5
    cases q5
  refine m ⟨H,none⟩ F H (L2.start N vs) _ out _ s0 q3 ?_
  cases out with
  | nx δ'=>cases q4;exact fun σ' F' H' s' y=>kk .non F' H' ⟨y.ff,s'.fh,s'.bh,y.nw⟩ .non
  | rt r' δ'=>cases q4;exact fun v σ' F' H' s' y z=>kk v F' H' ⟨y.ff,s'.fh,s'.bh,y.nw⟩ z
  | bk δ'=>cases q4
  | ct δ'=>cases q4
end
noncomputable def gK{α:Type}(n:Nat)(us ws:List α):List α:=if us.length=n/\ws.length=1 then us ++ ws else []
theorem gK_shape{α:Type}{n m:Nat}{us ws:List α}(h:(gK n us ws).length=m+1):us.length=n/\ws.length=1/\gK n us ws=us ++ ws:=by
 unfold gK at h ⊢
 split at h
 ·rename_i hc;rw[if_pos hc];exact⟨hc.1,hc.2,rfl⟩
 ·cases h
theorem gK_rel{n:Nat}{vs:List V}{us:List Value}{zs:List V}{ws:List Value}(r:Vals vs us)(rz:Vals zs ws):Vals (gK n vs zs) (gK n us ws):=by
 unfold gK
 rw[r.length,rz.length]
 split
 ·exact r.append rz
 ·exact .nil
structure DefD(K:PySem.W.Frag)(mg:Str->Option Value)(x:Str)(st:Stmt)(ps:List Str)(f:Addr)(fd:FuncData):Prop where
 fn:FunA K x x st f fd
 mg:mg x=some (.ref f)
 b:Binds K fd ps []
 b1:Binds K fd ps [.bool false]
 kb:KBinds K fd ps [ps.getLastD ""] (gK (ps.length - 1)) (gK (ps.length - 1))
noncomputable def DfOk(K:PySem.W.Frag)(df:Value):Prop:=∃ (T:Addr) (o:Obj) (n:Nat),df=.ref T/\K.lookup T=some o/\o.data=.seq #[.bool false] n
section
variable {X:Cx}{es:List Expr}{e d:Expr}{fs:FA}{fk:FE}{x:Str}{p pos kpos:Pos}{ks:List Kd}{g:List D->Option Ent}
noncomputable def eCallD(ks:List Kd)(g:List D->Option Ent)(fs:FA)(d:D):FE:=fun δ=>((fs δ).bind fun rs=>zce ks (rs ++ [.val d])).bind g
theorem RepRs.snoc{K:PySem.W.Frag}{H0 F H:Hp}{v:V}{e:Ent}(r:RepR K H0 F H v e):∀ {vs:List V} {es:List Ent},RepRs K H0 F H vs es->RepRs K H0 F H (vs ++ [v]) (es ++ [e])
 | _,_,.nil=>.cons r .nil
 | _,_,.cons h t=>.cons h (RepRs.snoc r t)
theorem vclD{CX:CXT}{k j:Nat}{f:Addr}{fd:FuncData}{ps:List Str}{st:Stmt}{E:XK}(F:FnOk X.prog X.w X.K X.mg X.base CX k f fd ps (spD X.K ks g))(D:DefD X.K X.mg x st ps f fd)(hr:Room j X.A)(hg:Gl X x)(hx:zbL CX X E)
  (ha:VA X (e :: es) fs) (hjk:k<=j:=by decide) (hdb:(x == ("__debug__" : Str))=false:=by decide) (h1:zap e=true:=by rfl) (h2:es.all zap=true:=by rfl) :
  VE X (.Call (.Name x p) (e :: es) [] pos) (eCallD ks g fs (.bl false)):=by
 obtain⟨t,w,m⟩:=ha.h
 refine⟨_,⟨pe_call F (hr.mono hjk) hg D.mg D.fn.kp D.b1 (dvs:=[.bl false]) (.cons rfl .nil) hx w.h hdb (zan h1) (zci h2)⟩,fun B F H σ δ res Q s q k=>?_⟩
 obtain⟨ds,q1,q⟩:=bind_some q
 obtain⟨rs,q2,q3⟩:=bind_some q1
 refine m B F H σ δ rs _ s q2 fun vs F1 H1 x1 r1=>?_
 have r2:=RepRs.snoc (K:=X.K) (H0:=H) (F:=F1) (H:=H1) (v:=.bl false) (e:=.val (.bl false)) (.bl false) r1
 obtain⟨F2,x2,_,a2⟩:=RepRs.args x1 (Same.refl _) r2 q3
 exact⟨F2,ds,res,x2.fh,a2,q,fun v F' H' x3 r3=>k v F' H' (x2.trans x3) (r3.earlier x2.hh)⟩
end
end L3

namespace L3
open PySem L2
theorem zbB{f g:FS}{δ δ':En}(h:f δ=some (.nx δ')):zbq f g δ=g δ':=by
 unfold zbq;rw[h];rfl
theorem fIfT{ft:FT}{f g:FS}{δ:En}(h:ft δ=some true):fIf ft f g δ=f δ:=by unfold fIf;rw[h];rfl
theorem fIfF{ft:FT}{f g:FS}{δ:En}(h:ft δ=some false):fIf ft f g δ=g δ:=by unfold fIf;rw[h];rfl
theorem zfI{tg:FG}{f:FS}{d:D}{ds:List D}{δ δ1 δ2:En}(h1:tg d δ=some δ1)(h2:f δ1=some (.nx δ2)):loop tg f (d :: ds) δ=loop tg f ds δ2:=by
 show((tg d δ).bind fun δ1=>(f δ1).bind (lpO (loop tg f ds)))=_
 rw[h1]
 show(f δ1).bind (lpO (loop tg f ds))=_
 rw[h2]
 rfl
theorem zbE(I:Nat->En->Prop){tg:FG}{f:FS}:∀ (ds:List D) (k:Nat) (δ:En),
  (∀ i d δ,ds[i]? = some d->I (k+i) δ->∃ δ1 δ2,tg d δ=some δ1/\(f δ1=some (.nx δ2) \/ f δ1=some (.ct δ2))/\I (k+i+1) δ2)->I k δ ->
  ∃ δ',loop tg f ds δ=some (.nx δ')/\I (k+ds.length) δ'
 | [],k,δ,_,h0=>⟨δ,rfl,h0⟩
 | d :: ds,k,δ,h,h0=>by
  obtain⟨δ1,δ2,h1,h2,h3⟩:=h 0 d δ rfl h0
  obtain⟨s',h4,h5⟩:=zbE I ds (k+1) δ2 (fun i d' s hd hi=>by
   have:=h (i+1) d' s (by simpa using hd) (by rw[show k+(i+1)=k+1+i by lia];exact hi)
   rwa [show k+(i+1)=k+1+i by lia] at this) h3
  refine⟨s',?_,by rw[List.length_cons,show k+(ds.length+1)=k+1+ds.length by lia];exact h5⟩
  show((tg d δ).bind fun δ1=>(f δ1).bind (lpO (loop tg f ds)))=_
  rw[h1]
  show(f δ1).bind (lpO (loop tg f ds))=_
  rcases h2 with h2 | h2
  ·rw[h2];exact h4
  ·rw[h2];exact h4
theorem zfE{ft:D->Option Bool}{fe:D->Option Ent}(ds out:List D)(hl:out.length=ds.length)(h1:∀ d ∈ ds,ft d=some true)(h2:∀ (i:Nat) (d:D),ds[i]? = some d->∃ y,(fe d).bind asV=some y/\out[i]? = some y):zc7 ft fe ds=some out:=by
 induction ds generalizing out with
 | nil=>cases out with
  | nil=>rfl
  | cons _ _=>simp at hl
 | cons d ds ih=>
  cases out with
  | nil=>simp at hl
  | cons y out=>
   obtain⟨y',ex1,ex2⟩:=h2 0 d rfl
   cases ex2
   simp only[zc7]
   rw[h1 d List.mem_cons_self,ex1,ih out (by simpa using hl) (fun x hx=>h1 x (List.mem_cons_of_mem _ hx)) fun i x hx=>by simpa using h2 (i+1) x (by simpa using hx)]
   rfl
theorem zgw{fr:List Nat}{fi:FI}{ft:FT}{fe:FE}{δ:En}{ds out:List D}(hi:fi δ=some ds)(hc:zc7 (fun d=>ft (cEn fr δ d)) (fun d=>fe (cEn fr δ d)) ds=some out)(hl:out.length<=1000000):eLC fr fi ft fe δ=some (.own out):=by
 unfold eLC
 rw[hi]
 show(zc7 _ _ ds).bind _=_
 rw[hc]
 show(if out.length<=1000000 then some (Ent.own out) else none)=_
 rw[if_pos hl]
theorem ixN_nat{n i:Nat}(h:i<n):ixN n (i:Int)=some i:=by
 unfold ixN
 rw[if_pos (by lia),if_pos (by lia)]
 simp
theorem atI_of{α:Type}{xs:List α}{i:Nat}{x:α}(h:xs[i]? = some x):atI xs (i:Int)=some x:=by
 unfold atI
 rw[ixN_nat (List.getElem?_eq_some_iff.mp h).1]
 exact h
theorem zc8{α:Type}{xs:List α}{i:Int}{x:α}(h0:0<=i)(h:xs[i.toNat]? = some x):atI xs i=some x:=by
 obtain⟨n,rfl⟩:=Int.eq_ofNat_of_zero_le h0
 exact atI_of (by simpa using h)
theorem zdA{α β:Type}(f:α->β)(d:α){xs:List α}{i:Int}(h0:0<=i)(h:i.toNat<xs.length):atI (xs.map f) i=some (f (xs.getD i.toNat d)):=by
 refine zc8 h0 ?_
 rw[List.getElem?_map,List.getElem?_eq_getElem h]
 simp[h]
theorem atI_m1{α:Type}{xs:List α}{x:α}(h:xs.getLast? = some x):atI xs (-1)=some x:=by
 have hne:xs ≠ []:=by rintro rfl;simp at h
 have hl:0<xs.length:=List.length_pos_iff.mpr hne
 unfold atI ixN
 rw[if_neg (by lia),if_pos (by lia)]
 show xs[(-1+(xs.length:Int)).toNat]? = _
 rw[show(-1+(xs.length:Int)).toNat=xs.length - 1 by lia,<- List.getLast?_eq_getElem?]
 exact h
theorem cutG_to{α:Type}(xs:List α)(j:Nat):zhv xs none (some (j:Int))=xs.take j:=by
 unfold zhv
 rw[HT.sIx_none,HT.sIx_nat,List.drop_zero,Nat.sub_zero]
 by_cases h:j<=xs.length
 ·rw[Nat.min_eq_left h]
 ·rw[Nat.min_eq_right (by lia),List.take_length,List.take_of_length_le (by lia)]
theorem zgA{α:Type}(xs:List α){j:Int}(h:0<=j):zhv xs none (some j)=xs.take j.toNat:=by
 obtain⟨n,rfl⟩:=Int.eq_ofNat_of_zero_le h
 rw[cutG_to];simp
theorem mkS_app(a b:List Nat):mkS a ++ mkS b=mkS (a ++ b):=by
 show(⟨a.toArray ++ b.toArray⟩:Str)=⟨(a ++ b).toArray⟩
 simp
theorem ze4{a b:List Nat}(h:mkS a=mkS b):a=b:=by
 have:=congrArg (fun z:Str=>z.cps.toList) h
 simpa [mkS] using this
theorem sgn_mkS(l:List Nat):sgn (mkS l)=l.map fun c=>mkS [c]:=by simp[sgn,mkS]
theorem intsD_map(zs:List Int):zhm (zs.map .int)=some zs:=by
 induction zs with
 | nil=>rfl
 | cons z zs ih=>simp[zhm,isI,ih]
end L3

namespace L3
open PySem PySem.Spec PyProof.Rows L2
section
variable {X:Cx}{pins:List (Addr × Obj)}{s:Shared}{σ:L2.St}{H F:Hp}
end
end L3

namespace L2
open PySem PySem.Spec PyProof.Rows
end L2
namespace L3
open PySem PySem.Spec PyProof.Rows L2
end L3
namespace L2
open PySem PySem.Spec PyProof.Rows
section
variable {prog:Program}{w:World}{A:Around}{E:Value->Shared->Prop}
theorem drawL{it l:Addr}{xs:Array Value}(hne:l ≠ it)(n:Nat):∀ (i:Nat) (s:Shared) (Q:List Value->Shared->Prop),s.heap.IsListIter it l i->s.heap.IsList l xs->i+n<=xs.size ->
  (∀ h',h'.IsListIter it l (i+n)->Heap.SameBut it s.heap h'->Q ((xs.toList.drop i).take n) { s with heap:=h'})->wpAny (model prog w) A (draw (.ref it) n) Q E s:=by
 induction n with
 | zero=>exact fun i s Q hi _ _ k=>wpAny_pure (by simpa using k s.heap hi (.refl ..))
 | succ n ih=>
  intro i s Q hi hl hle k
  have hx:xs[i]? = some (xs[i]'(by lia)):=Array.getElem?_eq_getElem (by lia)
  refine wpAny_bind (wpAny_pyNext_list_item hi hl hx fun h1 i1 s1=>?_)
  refine wpAny_bind (wpAny_holding (ih (i+1) _ _ i1 (hl.extBut s1.extBut hne) (by lia) fun h2 i2 s2=>?_))
  refine wpAny_pure ?_
  have z:=k h2 (by rw[show i+(n+1)=i+1+n by lia];exact i2) (s1.trans s2)
  rw[List.drop_eq_getElem_cons (by simp;lia),List.take_succ_cons] at z
  simpa using z
theorem unpackL{s:Shared}{l:Addr}{xs:Array Value}{tgs:List (Bool × (Value->Sem Unit))}{Q:Unit->Shared->Prop}(hh:A.handled=none)(hl:s.heap.IsList l xs)(hn:tgs.length=xs.size)(hst:tgs.findIdx? (·.1)=none)
  (k:∀ h',Heap.ExtBut s.heap.objs.size s.heap h'->wpAny (model prog w) A (assignInOrder (tgs.map (·.2)) xs.toList) Q E { s with heap:=h'}):wpAny (model prog w) A (unpack (.ref l) tgs) Q E s:=by
 have hlt:l ≠ s.heap.objs.size:=let⟨_,ho,_⟩:=hl;Nat.ne_of_lt (Heap.lt_size ho)
 unfold unpack
 rw[hn,hst]
 refine wpAny_bind (wpAny_holding ?_)
 unfold unpackItems
 refine wpAny_bind ?_
 unfold notIterableAtAll
 refine wpAny_bind (wpAny_specialOf hl.typeIs PySem.slot_list_iter.lookup (wpAny_pure ?_))
 simp only[Bool.false_eq_true,if_false]
 refine wpAny_bind (wpAny_holding (wpAny_pyIter_list hl ?_))
 refine wpAny_bind (wpAny_holding (drawL hlt xs.size 0 _ _ ⟨_,Heap.get?_push_size _ rfl,rfl,rfl⟩ (hl.push _) (by lia) fun h1 i1 s1=>?_))
 have ha:List.take xs.size (List.drop 0 xs.toList)=xs.toList:=List.take_of_length_le (by simp)
 rw[ha,if_neg (by simp)]
 refine wpAny_bind (wpAny_holding (wpAny_pyNext_list_end hh i1 ((hl.push _).extBut s1.extBut hlt) (by simp) fun h2 e2=>?_))
 simp only[Option.isSome_none,Bool.false_eq_true,if_false]
 exact wpAny_pure (k h2 fun b o hb e=>e2 b o hb (s1.extBut b o hb (Heap.get?_push_of_some _ e)))
end
noncomputable def gLst(K:PySem.W.Frag)(n:Nat)(t:TGs):TG:=fun v σ H Q=>∃ a xs,v=.ref a/\SqL K H a xs/\xs.length=n/\t xs σ H Q
theorem pg_lst{X:Cx}{pos:Pos}{es:List Expr}{k:Nat}{t:TGs}{n:Nat}(hc:X.calm=true)(h:PGs X es t)
  (hn:(assignEach es X.env).length=n) (hst:(assignEach es X.env).findIdx? (·.1)=none):PG X (.Tuple es k pos) (gLst X.K n t):=fun pins s σ H v u Q I r hw=>by
 obtain⟨a,xs,rfl,hq,hl,hw⟩:=hw
 cases r
 obtain⟨its,rv,ht,hz⟩:=I.list hq
 rw[assign_Tuple]
 refine wpAny_bind (wpAny_standAt (unpackL (I.ok.hd hc) ht.isList (by simp[hn,<- hl,rv.length]) hst fun h' hx=>?_))
 have I1:Inv X pins σ H { s with heap:=h'}:=I.kept (t':=s.toks) fun b o e=>hx b o (Nat.ne_of_lt (Heap.lt_size e)) e
 exact h pins _ σ H xs _ Q I1 (by simpa using rv) hw
end L2
namespace L3
open PySem PySem.Spec PyProof.Rows L2
noncomputable def gLs(gs:FGs):FG:=fun d δ=>match d with
 | .lst ds=>gs ds δ
 | _=>none
theorem gl0:∀ (ds:List D) (δ δ':En),gsNil ds δ=some δ'->ds.length=0:=fun ds δ δ' h=>by
 match ds,h with
 | [],_=>rfl
theorem gl1{g:FG}{gs:FGs}{n:Nat}(hn:∀ (ds:List D) (δ δ':En),gs ds δ=some δ'->ds.length=n):∀ (ds:List D) (δ δ':En),zdo g gs ds δ=some δ'->ds.length=n+1:=fun ds δ δ' h=>by
 match ds,h with
 | d :: ds,h=>
  obtain⟨δ1,_,q⟩:=bind_some (show(g d δ).bind (gs ds)=some δ' from h)
  rw[List.length_cons,hn ds δ1 δ' q]
theorem gls{X:Cx}{es:List Expr}{tgs:FGs}{pos:Pos}{k n:Nat}(hc:X.calm=true)(h:VGs X es tgs)(hn:(assignEach es X.env).length=n:=by rfl)(hst:(assignEach es X.env).findIdx? (·.1)=none:=by rfl)(hl:∀ ds δ δ',tgs ds δ=some δ'->ds.length=n:=by intro ds δ δ' h;match ds,h with | [_],_=>rfl | [_,_],_=>rfl | [_,_,_],_=>rfl | [_,_,_,_],_=>rfl) :
  VG X (.Tuple es k pos) (gLs tgs):=by
 obtain⟨t,w,m⟩:=h.h
 refine⟨_,⟨pg_lst hc w.h hn hst⟩,fun B F H σ δ δ' v d Q s r q k=>?_⟩
 cases d with
 | lst ds=>
  cases r with
  | lst e rs=>exact⟨_,_,rfl,SqL.of (s.fh _ _ e),by rw[rs.length];exact hl _ _ _ q,m B F H σ δ δ' _ ds _ s rs q k⟩
 | _=>cases q
end L3

namespace TS
open PySem
end TS
namespace TS
open PySem
noncomputable def bt(w:World):Bool:=w.params.followText "set-order"
noncomputable def txt:Value->Str
 | .str z _=>z
 | _=> ""
structure IsS(w:World)(h:Heap)(a:Addr)(zs:List Str):Prop where
 ex:∃ (o:Obj) (es:Array (Int × Value)) (ep:Nat) (t:SetTable),h.get? a=some o/\o.ExactSet/\o.data=.set es ep t/\(∀ e ∈ es.toList,∃ z u,e=(hashStr w z,Value.str z u))/\t.fits es.size=true/\t.led=!bt w/\(es.size ≠ 0->t.plain=false)/\(es.toList.map fun e=>txt e.2).Perm zs
 nd:zs.Nodup
variable {prog:Program}{w:World}{A:Around}{E:Value->Shared->Prop}{s:Shared}{a:Addr}{zs:List Str}
noncomputable def put(zs:List Str)(z:Str):List Str:=if z ∈ zs then zs else zs ++ [z]
end TS
namespace TS
open PySem PyProof.Rows
section
variable {prog:Program}{w:World}{A:Around}{R:Result->Shared->Prop}{I:Addr}{fp wr:List Addr}{G:Array GenState->Array GenState->Prop}{n:Nat}{P:Nat->Value->Prop}{St:Nat->Shared->Prop}
end
end TS
namespace TS
open PySem PyProof.Rows
section
variable {prog:Program}{w:World}{A:Around}{E:Value->Shared->Prop}{s:Shared}
noncomputable def new(w:World):Obj:={ cls:=.type "set",dict:=none,data:=.set #[] 0 (.fresh 0 0 (!bt w))}
end
end TS
namespace TS
open PySem PyProof.Rows
namespace Fx
end Fx
section
variable {prog:Program}{w:World}{A:Around}{E:Value->Shared->Prop}{s:Shared}
structure LeftS(w:World)(s:Shared)(zs:List Str)(s2:Shared):Prop where
 is:IsS w s2.heap s.heap.objs.size zs
 old:∀ b o,b<s.heap.objs.size->s.heap.get? b=some o->s2.heap.get? b=some o
 sh:∃ h' tk,s2={ s with heap:=h',toks:=tk}
end
end TS
namespace TS
open PySem PyProof.Rows
section
variable {prog:Program}{w:World}{A:Around}{E:Value->Shared->Prop}
theorem ch{src:Source}{n:Nat}{s:Shared}{Q:Nat->Shared->Prop}(hn:n ≠ 0)(k:∀ i d,i<n->Q i { s with drawn:=d}):wpAny (model prog w) A (choose src n) Q E s:=fun Γ p _=>by
 unfold choose
 rw[Sem.wp_choose]
 exact⟨hn,by rw[Sem.wp_pure];exact k _ _ (Nat.mod_lt _ (Nat.pos_of_ne_zero hn))⟩
end
namespace Fx
theorem next_slot:Slot "set_iterator" "__next__" "set_iterator.__next__" :=.of (owner:= "set_iterator") (n:= "__next__") (by rw[typeLookup_type,builtinLookup_eq_fast];kernel_rfl) (by decide +kernel) (by decide +kernel) (by decide +kernel) (by first | exact .inl (by decide +kernel) | exact .inr (by decide +kernel)) (by rw[isSubtype_type];kernel_rfl)
end Fx
end TS
namespace TS
open PySem PyProof.Rows
noncomputable def itO(f0:Value)(i:Nat)(a:Addr)(n ep:Nat):Obj:={ cls:=.type "set_iterator",data:=.fields #[f0,rawInt i,.ref a,rawInt n,rawInt ep]}
section
variable {prog:Program}{w:World}{A:Around}{E:Value->Shared->Prop}{s:Shared}{I a:Addr}{o:Obj}{es:Array (Int × Value)}{ep:Nat}{t:SetTable}
theorem stop{B:Around}{α:Type}(hh:B.handled=none){R:α->Shared->Prop}{E':Value->Shared->Prop}(k:∀ e h',(∀ b o,s.heap.get? b=some o->h'.get? b=some o)->Shared.TypeIs { s with heap:=h'} e "StopIteration" -> E' e { s with heap:=h'}) :
  wpAny (model prog w) B (newExc (.type "StopIteration") [] >>= fun e=>raiseNew e) R E' s:=by
 refine wpAny_bind ?_
 simp only[newExc,newTuple]
 refine wpAny_bind (wpAny_newObj_type ?_ (by size_fits))
 refine wpAny_bind (m:=firstArgMember _ _) (wpAny_of_eq (a:=Value.none) (by first | rfl | (simp only[firstArgMember];rfl)) (wpAny_newObj_type ?_ (by size_fits)))
 simp only[raiseNew]
 refine wpAny_bind (wpAny_handled ?_)
 rw[hh]
 refine wpAny_bind (wpAny_pure (wpAny_throw ?_))
 exact k _ _ (fun b o e=>Heap.get?_push_of_some _ (Heap.get?_push_of_some _ e)) ⟨_,Heap.get?_push_size _ rfl,rfl⟩
end
end TS
namespace TS
open PySem PyProof.Rows
namespace Fx
theorem self_slot:Slot "set_iterator" "__iter__" "set_iterator.__iter__" :=.of (owner:= "set_iterator") (n:= "__iter__") (by rw[typeLookup_type,builtinLookup_eq_fast];kernel_rfl) (by decide +kernel) (by decide +kernel) (by decide +kernel) (by first | exact .inl (by decide +kernel) | exact .inr (by decide +kernel)) (by rw[isSubtype_type];kernel_rfl)
theorem self_of:entryFor table "set_iterator.__iter__" = some Builtin.«dict_keyiterator.__iter__» :=entryFor_alias (id':= "dict_keyiterator.__iter__") (by kernel_rfl) rfl (by decide +kernel) (by kernel_rfl)
theorem self_args(v:Value):argsOk "set_iterator.__iter__" ⟨[v],[]⟩:=by unfold argsOk;kernel_rfl
end Fx
section
variable {prog:Program}{w:World}{A:Around}{E:Value->Shared->Prop}{s:Shared}{I a:Addr}{o:Obj}{es:Array (Int × Value)}{ep:Nat}{t:SetTable}
theorem self{f0:Value}{i n:Nat}{Q:Value->Shared->Prop}(hI:s.heap.get? I=some (itO f0 i a n ep))(k:Q (.ref I) s):wpAny (model prog w) A (pyIter (.ref I)) Q E s:=by
 have ty:s.TypeIs (.ref I) "set_iterator" :=⟨_,hI,rfl⟩
 refine wpAny_pyIter_slot ty Fx.self_slot (wpAny_call_entry Fx.self_slot ty Fx.self_of ?_ (Fx.self_args _))
 show wpAny _ _ (ret (.ref I)) _ _ s
 exact wpAny_pure ⟨_,rfl,"set_iterator",_,ty,Fx.next_slot.lookup,k⟩
end
end TS
namespace TS
open PySem PyProof.Rows
section
variable {prog:Program}{w:World}{A:Around}{E:Value->Shared->Prop}{s:Shared}{a:Addr}{o:Obj}{es:Array (Int × Value)}{ep:Nat}{t:SetTable}
end
end TS
namespace TS
open PySem PyProof.Rows
section
variable {prog:Program}{w:World}{A:Around}{E:Value->Shared->Prop}{s:Shared}{a:Addr}{o:Obj}{es:Array (Int × Value)}{ep:Nat}{t:SetTable}
structure WkS(prog:Program)(w:World)(a n0:Nat)(zs:List Str)(I:Addr)(h:Heap):Prop where
 ex:∃ (ys:List Str) (fp:List Addr) (St:Nat->Heap->Prop),ys.Perm zs/\I ∈ fp/\(∀ b ∈ fp,b<h.objs.size/\(b=a \/ n0<=b))/\St 0 h/\∀ B:Around,B.handled=none->Walks prog w B I fp [I] ys.length (fun i v=>∃ u,v=Value.str (ys.getD i "") u) St
end
end TS
namespace TS
open PySem PyProof.Rows
namespace Fx
end Fx
section
variable {prog:Program}{w:World}{A:Around}{E:Value->Shared->Prop}{s:Shared}{a:Addr}{zs:List Str}
end
end TS
namespace TS
open PySem PyProof.Rows
section
variable {prog:Program}{w:World}{A:Around}{E:Value->Shared->Prop}{s:Shared}{a:Addr}{zs:List Str}
end
end TS
namespace TS
open PySem PySem.Spec PyProof.Rows
noncomputable def le(a b:Str):Prop:=ltCps b.cps.toList a.cps.toList=false
end TS
namespace L2
open PySem PySem.Spec PyProof.Rows TS
theorem Inv.drawn{X:Cx}{pins:List (Addr × Obj)}{σ:List (Option V)}{H:Hp}{s s1:Shared}(I:Inv X pins σ H s)(eh:∀ b o,s.heap.get? b=some o->s1.heap.get? b=some o)(eg:s1.gens=s.gens)(eo:s1.os=s.os):Inv X pins σ H s1:=by
 obtain⟨h,g,d,tk,os⟩:=s1
 have eg':g=s.gens:=eg
 have eo':os=s.os:=eo
 subst eg' eo'
 have J:Inv X pins σ H { s with heap:=h,toks:=tk}:=I.kept (t':=tk) eh
 exact⟨J.ok,J.os,J.bare,J.base,J.loc,J.cell,J.free,J.freeC,J.pin,J.hok,J.len⟩
end L2
namespace L2
open PySem PySem.Spec PyProof.Rows TS
section
variable {X:Cx}{e:Expr}{t:TE}{p p1 pos pos1:Pos}
noncomputable def one(R:V->Hp->Prop):List V->Hp->Prop:=fun xs H=>match xs with
 | [x]=>R x H
 | _=>False
theorem zgT{R:V->Hp->Prop}{xs:List V}{H:Hp}(h:one R xs H):∃ x,xs=[x]/\R x H:=by
 match xs,h with
 | [x],h=>exact⟨x,rfl,h⟩
end
end L2
namespace L3
open PySem PySem.Spec PyProof.Rows L2 TS
section
variable {X:Cx}{e:Expr}{fe:FE}{p p1 pos pos1:Pos}
end
end L3

namespace L2
open PySem PySem.Spec PyProof.Rows
noncomputable def SqQ(K:PySem.W.Frag):Bool->Hp->Addr->List V->Prop
 | true=>SqT K
 | false=>SqL K
noncomputable def SIt:Bool->Heap->Addr->Addr->Nat->Prop
 | true,h,it,a,i=>h.IsTupleIter it a i
 | false,h,it,a,i=>h.IsListIter it a i
noncomputable def QAt:Bool->Heap->Addr->Array Value->Prop
 | true,h,a,xs=>h.IsTuple a xs
 | false,h,a,xs=>h.IsList a xs
noncomputable def itN:Bool->String
 | true=> "tuple_iterator"
 | false=> "list_iterator"
theorem SIt.out{k:Bool}{h:Heap}{it a:Addr}{i:Nat}(st:SIt k h it a i):∃ o,h.get? it=some o/\o.cls=.type (itN k)/\o.data=.fields #[.ref a,.int i 0]:=by cases k <;> exact st
theorem SIt.mk{k:Bool}{h:Heap}{it a:Addr}{i:Nat}(st:∃ o,h.get? it=some o/\o.cls=.type (itN k)/\o.data=.fields #[.ref a,.int i 0]):SIt k h it a i:=by cases k <;> exact st
theorem SIt.at{k:Bool}{h h':Heap}{it a:Addr}{i:Nat}(st:SIt k h it a i)(e:∀ o,h.get? it=some o->h'.get? it=some o):SIt k h' it a i:=by
 obtain⟨o,h1,h2⟩:=st.out
 exact .mk ⟨o,e o h1,h2⟩
theorem Inv.turn1{X:Cx}{pins:List (Addr × Obj)}{σ:St}{H:Hp}{s:Shared}{h':Heap}{b:Addr}(I:Inv X pins σ H s)(f:zeD X pins H b)(k:∀ c o,c ≠ b->s.heap.get? c=some o->h'.get? c=some o):Inv X pins σ H { s with heap:=h'}:=
 I.turned (t':=s.toks) k f.1 f.2.1 f.2.2.2.1 f.2.2.2.2.1 f.2.2.2.2.2
theorem Inv.seqQ{X:Cx}{pins:List (Addr × Obj)}{σ:St}{H:Hp}{s:Shared}{k:Bool}{a:Addr}{xs:List V}(I:Inv X pins σ H s)(h:SqQ X.K k H a xs):∃ its:List Value,Vals xs its/\QAt k s.heap a its.toArray:=by
 cases k with
 | true=>obtain⟨its,r,p,_⟩:=I.tuple h;exact⟨its,r,p⟩
 | false=>obtain⟨its,r,p,_⟩:=I.list h;exact⟨its,r,p.isList⟩
theorem Inv.seqQ_inj{X:Cx}{pins:List (Addr × Obj)}{σ:St}{H:Hp}{s:Shared}{k:Bool}{a:Addr}{xs ys:List V}(I:Inv X pins σ H s)(h:SqQ X.K k H a xs)(h':SqQ X.K k H a ys):xs=ys:=by
 cases k with
 | true=>exact I.tuple_inj h h'
 | false=>exact I.list_inj h h'
section
variable {prog:Program}{w:World}{A:Around}{E:Value->Shared->Prop}{s:Shared}
theorem pyIterQ{k:Bool}{a:Addr}{xs:Array Value}{Q:Value->Shared->Prop}(h:QAt k s.heap a xs)(q:Q (.ref s.heap.objs.size) { s with heap:=s.heap.push { cls:=.type (itN k),data:=.fields #[.ref a,.int 0 0]}}):wpAny (model prog w) A (pyIter (.ref a)) Q E s:=by
 cases k with
 | true=>exact wpAny_pyIter_tuple h q
 | false=>exact wpAny_pyIter_list h q
theorem zhi{it t:Addr}{i:Nat}{its:Array Value}{u:Value}{Q:Value->Shared->Prop}(st:s.heap.IsTupleIter it t i)(ht:s.heap.IsTuple t its)(hu:its[i]? = some u)
  (k:∀ h',h'.IsTupleIter it t (i+1)->Heap.SameBut it s.heap h'->Q u { s with heap:=h'}):wpAny (model prog w) A (Builtin.SmallTypes.nextOf (.ref it)) Q E s:=by
 obtain⟨p,e1,c1,d1⟩:=id st
 obtain⟨q,e2,_,m,d2⟩:=ht
 unfold Builtin.SmallTypes.nextOf
 refine wpAny_bind (wpAny_callSpecial?_slot (name:=Str.ofString "__next__") st.typeIs F.slot_tuple_iterator_next (wpAny_call_entry F.slot_tuple_iterator_next st.typeIs F.entry_tuple_iterator_next ?_ (F.args_tuple_iterator_next_1 _)))
 show wpAny _ _ (field (.ref it) 0 >>= _) _ _ _
 refine wpAny_bind (wpAny_field e1 d1 (x:=.ref t) rfl ?_)
 show wpAny _ _ (if (Value.ref t == Value.none)=true then _ else _) _ _ _
 have hnn:¬ ((Value.ref t == Value.none)=true):=Bool.false_ne_true
 rw[if_neg hnn]
 show wpAny _ _ (field (.ref it) 1 >>= _) _ _ _
 refine wpAny_bind (wpAny_field e1 d1 (x:=.int i 0) rfl ?_)
 show wpAny _ _ (seqItems? (.ref t) >>= _) _ _ _
 refine wpAny_bind (wpAny_seqItems e2 d2 ?_)
 simp only[Int.toNat_natCast,hu]
 refine wpAny_bind (wpAny_setField e1 d1 (by simp) (wpAny_pure ⟨u,rfl,wpAny_pure (k _ ⟨_,Heap.get?_update_self _ e1 (Obj.isFreed_of_fields (Obj.data_mapFields d1 _)),(Obj.cls_mapFields ..).trans c1,?_⟩ (Heap.SameBut.update ..))⟩))
 rw[Obj.data_mapFields d1]
 simp[rawInt]
theorem nextT_end{it t:Addr}{i:Nat}{its:Array Value}{Q:Value->Shared->Prop}(hh:A.handled=none)(st:s.heap.IsTupleIter it t i)(ht:s.heap.IsTuple t its)(hu:its[i]? = none)
  (k:∀ h' e,Heap.ExtBut it s.heap h'->(∃ o,h'.get? e=some o/\o.cls=.type "StopIteration")->E (.ref e) { s with heap:=h'}):wpAny (model prog w) A (Builtin.SmallTypes.nextOf (.ref it)) Q E s:=by
 obtain⟨p,e1,c1,d1⟩:=id st
 obtain⟨q,e2,_,m,d2⟩:=ht
 unfold Builtin.SmallTypes.nextOf
 refine wpAny_bind (wpAny_callSpecial?_slot (name:=Str.ofString "__next__") st.typeIs F.slot_tuple_iterator_next (wpAny_call_entry F.slot_tuple_iterator_next st.typeIs F.entry_tuple_iterator_next ?_ (F.args_tuple_iterator_next_1 _)))
 show wpAny _ _ (field (.ref it) 0 >>= _) _ _ _
 refine wpAny_bind (wpAny_field e1 d1 (x:=.ref t) rfl ?_)
 show wpAny _ _ (if (Value.ref t == Value.none)=true then _ else _) _ _ _
 have hnn:¬ ((Value.ref t == Value.none)=true):=Bool.false_ne_true
 rw[if_neg hnn]
 show wpAny _ _ (field (.ref it) 1 >>= _) _ _ _
 refine wpAny_bind (wpAny_field e1 d1 (x:=.int i 0) rfl ?_)
 show wpAny _ _ (seqItems? (.ref t) >>= _) _ _ _
 refine wpAny_bind (wpAny_seqItems e2 d2 ?_)
 simp only[Int.toNat_natCast,hu]
 refine wpAny_bind (wpAny_rule (wpAny_bind (wpAny_setField e1 d1 (by simp) ?_)))
 show wpAny _ _ (newExc (.type "StopIteration") [] >>= _) _ _ _
 refine wpAny_bind (by
  simp only[newExc,newTuple]
  refine wpAny_bind (wpAny_newObj_type (wpAny_bind (m:=firstArgMember _ _) (wpAny_of_eq (a:=Value.none) (by first | rfl | (simp only[firstArgMember];rfl)) (wpAny_newObj_type ?_ (by size_fits)))) (by size_fits))
  simp only[raiseNew]
  refine wpAny_bind (wpAny_handled (by
   rw[show A.in1.handled=none from hh]
   exact wpAny_bind (wpAny_pure (wpAny_throw (k _ _ (((Heap.SameBut.update ..).extBut.push _).push _) ⟨_,Heap.get?_push_size _ rfl,rfl⟩))))))
end
section
variable {X:Cx}{A:Around}{pins:List (Addr × Obj)}{σ:St}{H:Hp}{s:Shared}{E:Value->Shared->Prop}{k k1 k2:Bool}{it a b z TI TO i1 i2:Addr}{i:Nat}{xs ys:List V}{x y:V}
theorem zdD{Q:Value->Shared->Prop}(I:Inv X pins σ H s)(f:zeD X pins H it)(st:SIt k s.heap it a i)(hq:SqQ X.K k H a xs)(hx:xs[i]? = some x)
  (go:∀ u h',RelV x u->SIt k h' it a (i+1)->Heap.SameBut it s.heap h'->Inv X pins σ H { s with heap:=h'}->Q u { s with heap:=h'}):wpAny (model X.prog X.w) A (Builtin.SmallTypes.nextOf (.ref it)) Q E s:=by
 obtain⟨its,rv,p⟩:=I.seqQ hq
 obtain⟨u,hu,ru⟩:=rv.get hx
 cases k with
 | true=>exact zhi st p (u:=u) (by simpa using hu) fun h' st' sb=>go u h' ru st' sb (I.turn1 f fun c o hc e=>(sb.2 c hc).trans e)
 | false=>exact wpAny_nextOf_list_item st p (x:=u) (by simpa using hu) fun h' st' sb=>go u h' ru st' sb (I.turn1 f fun c o hc e=>(sb.2 c hc).trans e)
theorem zfX{Q:Value->Shared->Prop}(hh:A.handled=none)(I:Inv X pins σ H s)(f:zeD X pins H it)(st:SIt k s.heap it a i)(hq:SqQ X.K k H a xs)(hx:xs.length<=i)
  (go:∀ h' e,Heap.ExtBut it s.heap h'->(∃ o,h'.get? e=some o/\o.cls=.type "StopIteration")->Inv X pins σ H { s with heap:=h'}->E (.ref e) { s with heap:=h'}):wpAny (model X.prog X.w) A (Builtin.SmallTypes.nextOf (.ref it)) Q E s:=by
 obtain⟨its,rv,p⟩:=I.seqQ hq
 have hl:=rv.length
 cases k with
 | true=>exact nextT_end hh st p (by simp;lia) fun h' e sb he=>go h' e sb he (I.turn1 f fun c o hc e=>sb c o hc e)
 | false=>exact wpAny_nextOf_list_end hh st p (by simp;lia) fun h' e sb he=>go h' e sb he (I.turn1 f fun c o hc e=>sb c o hc e)
structure ZSt(k1 k2:Bool)(z TI TO i1 i2 a b:Addr)(i:Nat)(f0:Value)(h:Heap):Prop where
 hz:IsZip h z TI TO f0
 hi:IsPair h TI (.ref i1) (.ref i2)
 ho:∃ x y,IsPair h TO x y
 s1:SIt k1 h i1 a i
 s2:SIt k2 h i2 b i
structure ZNe(z TI TO i1 i2:Addr):Prop where
 n1:TI ≠ z
 n2:TO ≠ z
 n3:i1 ≠ z
 n4:i2 ≠ z
 n5:TI ≠ TO
 n6:TI ≠ i1
 n7:TI ≠ i2
 n8:TO ≠ i1
 n9:TO ≠ i2
 n10:i1 ≠ i2
theorem ZSt.keep{f0:Value}{h h':Heap}(st:ZSt k1 k2 z TI TO i1 i2 a b i f0 h)(kk:∀ c ∈ [z,TI,TO,i1,i2],∀ o,h.get? c=some o->h'.get? c=some o):ZSt k1 k2 z TI TO i1 i2 a b i f0 h':=
 ⟨kk z (by simp) _ st.hz,kk TI (by simp) _ st.hi,let⟨x,y,e⟩:=st.ho;⟨x,y,kk TO (by simp) _ e⟩,st.s1.at fun o e=>kk i1 (by simp) o e,st.s2.at fun o e=>kk i2 (by simp) o e⟩
theorem zipQ_item{Q:Value->Shared->Prop}(N:ZNe z TI TO i1 i2)(I:Inv X pins σ H s)(hf:∀ b ∈ [z,TI,TO,i1,i2],zeD X pins H b)(st:ZSt k1 k2 z TI TO i1 i2 a b i .none s.heap)(q1:SqQ X.K k1 H a xs)(q2:SqQ X.K k2 H b ys)
  (hx:xs[i]? = some x) (hy:ys[i]? = some y)
  (go:∀ h',ZSt k1 k2 z TI TO i1 i2 a b (i+1) (rawInt s.heap.objs.size) h'->Inv X pins σ (upd H s.heap.objs.size (.tup [x,y])) { s with heap:=h'}->Q (.ref s.heap.objs.size) { s with heap:=h'}) :
  wpAny (model X.prog X.w) A (Builtin.«zip.__next__» ⟨[.ref z],[]⟩) (fun fin s'=>∃ v,fin=.done (.ret v)/\Q v s') E s:=by
 obtain⟨hz,hTI,⟨oa,ob,hTO⟩,h1,h2⟩:=st
 have fz:=hf z (by simp)
 have fO:=hf TO (by simp)
 have f1:=hf i1 (by simp)
 have f2:=hf i2 (by simp)
 show wpAny _ _ (field (.ref z) 2 >>= _) _ _ _
 refine wpAny_bind (wpAny_field hz rfl (x:=.bool false) rfl ?_)
 show wpAny _ _ (field (.ref z) 3 >>= _) _ _ _
 refine wpAny_bind (wpAny_field hz rfl (x:=.ref TI) rfl (wpAny_bind (wpAny_seqItems hTI rfl ?_)))
 show wpAny _ _ (Builtin.SmallTypes.ownedTupleIsFree (.ref z) >>= _) _ _ _
 refine wpAny_bind ?_
 unfold Builtin.SmallTypes.ownedTupleIsFree
 refine wpAny_bind (wpAny_field hz rfl (x:=.none) rfl (wpAny_pure ?_))
 simp only[if_true]
 refine wpAny_bind (wpAny_rule (wpAny_bind (wpAny_field hz rfl (x:=.ref TO) rfl (wpAny_bind (wpAny_setField_rec hz (by simp) fun g1 z1 b1=>?_)))))
 replace z1:IsZip g1 z TI TO .ellipsis:=z1
 have I1:Inv X pins σ H { s with heap:=g1}:=I.turn1 fz b1.extBut
 refine wpAny_bind ?_
 simp only[List.zipIdx_cons,List.zipIdx_nil,List.forIn_cons,List.forIn_nil]
 refine wpAny_bind (wpAny_bind (wpAny_onRaise ?_))
 show wpAny _ _ (Builtin.SmallTypes.nextOf (.ref i1) >>= _) _ _ _
 refine wpAny_bind (zdD I1 f1 (h1.at fun o e=>b1.extBut _ o N.n3 e) q1 hx fun u1 g2 r1 t1 b2 I2=>wpAny_pure ?_)
 have O2:IsPair g2 TO oa ob:=b2.extBut _ _ N.n8 (b1.extBut _ _ N.n2 hTO)
 refine wpAny_bind (wpAny_seqItems O2 rfl (wpAny_bind (wpAny_updateSeq_pair O2 fun g3 O3 b3=>?_)))
 replace O3:IsPair g3 TO u1 ob:=O3
 have I3:Inv X pins σ H { s with heap:=g3}:=I2.turn1 fO b3.extBut
 refine wpAny_bind (wpAny_letGo (wpAny_pure (wpAny_bind (wpAny_bind (wpAny_onRaise ?_)))))
 show wpAny _ _ (Builtin.SmallTypes.nextOf (.ref i2) >>= _) _ _ _
 have h2':SIt k2 g3 i2 b i:=h2.at fun o e=>b3.extBut _ o N.n9.symm (b2.extBut _ o N.n10.symm (b1.extBut _ o N.n4 e))
 refine wpAny_bind (zdD I3 f2 h2' q2 hy fun u2 g4 r2 t2 b4 I4=>wpAny_pure ?_)
 have O4:IsPair g4 TO u1 ob:=b4.extBut _ _ N.n9 O3
 refine wpAny_bind (wpAny_seqItems O4 rfl (wpAny_bind (wpAny_updateSeq_pair O4 fun g5 O5 b5=>?_)))
 replace O5:IsPair g5 TO u1 u2:=O5
 have I5:Inv X pins σ H { s with heap:=g5}:=I4.turn1 fO b5.extBut
 refine wpAny_bind (wpAny_letGo (wpAny_pure (wpAny_pure (wpAny_bind (wpAny_seqItems O5 rfl (wpAny_bind (wpAny_newTuple ?_)))))))
 have hsz:g5.objs.size=s.heap.objs.size:=by rw[b5.1,b4.1,b3.1,b2.1,b1.1]
 have z5:IsZip g5 z TI TO .ellipsis:=b5.extBut _ _ N.n2.symm (b4.extBut _ _ N.n4.symm (b3.extBut _ _ N.n2.symm (b2.extBut _ _ N.n3.symm z1)))
 have TI5:IsPair g5 TI (.ref i1) (.ref i2):=b5.extBut _ _ N.n5 (b4.extBut _ _ N.n7 (b3.extBut _ _ N.n5 (b2.extBut _ _ N.n6 (b1.extBut _ _ N.n1 hTI))))
 have t15:SIt k1 g5 i1 a (i+1):=t1.at fun o e=>b5.extBut _ o N.n8.symm (b4.extBut _ o N.n10 (b3.extBut _ o N.n8.symm e))
 have t25:SIt k2 g5 i2 b (i+1):=t2.at fun o e=>b5.extBut _ o N.n9.symm e
 have hzlt:z<g5.objs.size:=Heap.lt_size z5
 show wpAny _ _ (Builtin.SmallTypes.ownedTupleHandOut (.ref z) (.ref g5.objs.size) >>= _) _ _ _
 refine wpAny_bind ?_
 unfold Builtin.SmallTypes.ownedTupleHandOut
 have I6:Inv X pins σ (upd H g5.objs.size (.tup [x,y])) { s with heap:=g5.push { cls:=.type "tuple",data:=.seq #[u1,u2]}}:=
  I5.laid (t':=s.toks) (o:=.tup [x,y]) (fun c o e=>Heap.get?_push_of_some _ e) (Nat.le_refl _) ⟨by show 2<=sizeLine;rw[sizeLine_eq];lia,[u1,u2],.cons r1 (.cons r2 .nil),⟨_,Heap.get?_push_size _ rfl,rfl,0,by simp⟩⟩
 have fz6:zeD X pins (upd H g5.objs.size (.tup [x,y])) z:=⟨by rw[zah (Nat.ne_of_lt hzlt)];exact fz.1,fz.2⟩
 have z6:IsZip (g5.push { cls:=.type "tuple",data:=.seq #[u1,u2]}) z TI TO .ellipsis:=Heap.get?_push_of_some _ z5
 refine wpAny_bind (wpAny_setField_rec z6 (by simp) fun g7 z7 b7=>?_)
 replace z7:IsZip g7 z TI TO (rawInt g5.objs.size):=z7
 have I7:Inv X pins σ (upd H g5.objs.size (.tup [x,y])) { s with heap:=g7}:=I6.turn1 fz6 b7.extBut
 refine wpAny_setField_rec z7 (by simp) fun g8 z8 b8=>?_
 replace z8:IsZip g8 z TI TO (rawInt g5.objs.size):=z8
 have I8:Inv X pins σ (upd H g5.objs.size (.tup [x,y])) { s with heap:=g8}:=I7.turn1 fz6 b8.extBut
 have up:∀ c o,c ≠ z->g5.get? c=some o->g8.get? c=some o:=fun c o c1 e=>b8.extBut _ _ c1 (b7.extBut _ _ c1 (Heap.get?_push_of_some _ e))
 refine wpAny_pure ⟨_,rfl,?_⟩
 show Q (.ref g5.objs.size) _
 have S8:ZSt k1 k2 z TI TO i1 i2 a b (i+1) (rawInt g5.objs.size) g8:=⟨z8,up _ _ N.n1 TI5,⟨_,_,up _ _ N.n2 O5⟩,t15.at fun o e=>up _ o N.n3 e,t25.at fun o e=>up _ o N.n4 e⟩
 rw[hsz] at S8 I8 ⊢
 exact go g8 S8 I8
theorem zipQ_end{Q:Fin->Shared->Prop}(hh:A.handled=none)(N:ZNe z TI TO i1 i2)(I:Inv X pins σ H s)(hf:∀ b ∈ [z,TI,TO,i1,i2],zeD X pins H b)(st:ZSt k1 k2 z TI TO i1 i2 a b i .none s.heap)(q1:SqQ X.K k1 H a xs)(q2:SqQ X.K k2 H b ys)
  (hx:xs.length<=i \/ ys.length<=i)
  (go:∀ h' e,(∃ o,h'.get? e=some o/\o.cls=.type "StopIteration")->Inv X pins σ H { s with heap:=h'}->E (.ref e) { s with heap:=h'}) :
  wpAny (model X.prog X.w) A (Builtin.«zip.__next__» ⟨[.ref z],[]⟩) Q E s:=by
 obtain⟨hz,hTI,⟨oa,ob,hTO⟩,h1,h2⟩:=st
 have fz:=hf z (by simp)
 have fO:=hf TO (by simp)
 have f1:=hf i1 (by simp)
 have f2:=hf i2 (by simp)
 show wpAny _ _ (field (.ref z) 2 >>= _) _ _ _
 refine wpAny_bind (wpAny_field hz rfl (x:=.bool false) rfl ?_)
 show wpAny _ _ (field (.ref z) 3 >>= _) _ _ _
 refine wpAny_bind (wpAny_field hz rfl (x:=.ref TI) rfl (wpAny_bind (wpAny_seqItems hTI rfl ?_)))
 show wpAny _ _ (Builtin.SmallTypes.ownedTupleIsFree (.ref z) >>= _) _ _ _
 refine wpAny_bind ?_
 unfold Builtin.SmallTypes.ownedTupleIsFree
 refine wpAny_bind (wpAny_field hz rfl (x:=.none) rfl (wpAny_pure ?_))
 simp only[if_true]
 refine wpAny_bind (wpAny_rule (wpAny_bind (wpAny_field hz rfl (x:=.ref TO) rfl (wpAny_bind (wpAny_setField_rec hz (by simp) fun g1 z1 b1=>?_)))))
 replace z1:IsZip g1 z TI TO .ellipsis:=z1
 have I1:Inv X pins σ H { s with heap:=g1}:=I.turn1 fz b1.extBut
 refine wpAny_bind ?_
 simp only[List.zipIdx_cons,List.zipIdx_nil,List.forIn_cons,List.forIn_nil]
 refine wpAny_bind (wpAny_bind (wpAny_onRaise ?_))
 show wpAny _ _ (Builtin.SmallTypes.nextOf (.ref i1) >>= _) _ _ _
 have h1':SIt k1 g1 i1 a i:=h1.at fun o e=>b1.extBut _ o N.n3 e
 by_cases hl:xs.length<=i
 ·refine wpAny_bind (zfX hh I1 f1 h1' q1 hl fun g2 e b2 he I2=>?_)
  obtain⟨oe,e1,e2⟩:=he
  have z2:IsZip g2 z TI TO .ellipsis:=b2 _ _ N.n3.symm z1
  have hez:e ≠ z:=fun q=>by subst q;rw[z2] at e1;cases e1;simp at e2
  exact wpAny_setField_rec z2 (by simp) fun g3 _ b3=>go g3 e ⟨oe,b3.extBut _ _ hez e1,e2⟩ (I2.turn1 fz b3.extBut)
 ·have hl2:ys.length<=i:=hx.resolve_left hl
  refine wpAny_bind (zdD I1 f1 h1' q1 (x:=xs[i]'(by lia)) (List.getElem?_eq_getElem (by lia)) fun u1 g2 r1 t1 b2 I2=>wpAny_pure ?_)
  have O2:IsPair g2 TO oa ob:=b2.extBut _ _ N.n8 (b1.extBut _ _ N.n2 hTO)
  refine wpAny_bind (wpAny_seqItems O2 rfl (wpAny_bind (wpAny_updateSeq_pair O2 fun g3 O3 b3=>?_)))
  have I3:Inv X pins σ H { s with heap:=g3}:=I2.turn1 fO b3.extBut
  refine wpAny_bind (wpAny_letGo (wpAny_pure (wpAny_bind (wpAny_bind (wpAny_onRaise ?_)))))
  show wpAny _ _ (Builtin.SmallTypes.nextOf (.ref i2) >>= _) _ _ _
  have h2':SIt k2 g3 i2 b i:=h2.at fun o e=>b3.extBut _ o N.n9.symm (b2.extBut _ o N.n10.symm (b1.extBut _ o N.n4 e))
  refine wpAny_bind (zfX hh I3 f2 h2' q2 hl2 fun g4 e b4 he I4=>?_)
  obtain⟨oe,e1,e2⟩:=he
  have z4:IsZip g4 z TI TO .ellipsis:=b4 _ _ N.n4.symm (b3.extBut _ _ N.n2.symm (b2.extBut _ _ N.n3.symm z1))
  have hez:e ≠ z:=fun q=>by subst q;rw[z4] at e1;cases e1;simp at e2
  exact wpAny_setField_rec z4 (by simp) fun g5 _ b5=>go g5 e ⟨oe,b5.extBut _ _ hez e1,e2⟩ (I4.turn1 fz b5.extBut)
end
noncomputable def Itz(K:PySem.W.Frag)(k1 k2:Bool)(a b:Addr):It:=
  ⟨fun i H=>∃ xs ys x y,SqQ K k1 H a xs/\SqQ K k2 H b ys/\xs[i]? = some x/\ys[i]? = some y,
   fun i H v H'=>∃ p,H p=none/\v=.ref p/\∀ xs ys,SqQ K k1 H a xs->SqQ K k2 H b ys->∃ x y,xs[i]? = some x/\ys[i]? = some y/\H'=upd H p (.tup [x,y]),
   fun i H=>∃ xs ys,SqQ K k1 H a xs/\SqQ K k2 H b ys/\(xs.length<=i \/ ys.length<=i)⟩
theorem turn_zip{P:Program}{w:World}{K:PySem.W.Frag}{es:List Expr}{n:Nat}{pos:Pos}(k1 k2:Bool)(z TI TO i1 i2 a b:Addr)(N:ZNe z TI TO i1 i2) :
  Turn P w K (.Tuple es n pos) (Itz K k1 k2 a b) [z,TI,TO,i1,i2] z (fun i h=>ZSt k1 k2 z TI TO i1 i2 a b i .none h) where
 mem:=by simp
 obj:=fun i h st c hc=>by
  obtain⟨hz,hTI,⟨oa,ob,hTO⟩,h1,h2⟩:=st
  obtain⟨o1,e1,_,d1⟩:=h1.out
  obtain⟨o2,e2,_,d2⟩:=h2.out
  simp only[List.mem_cons,List.not_mem_nil,or_false] at hc
  rcases hc with rfl | rfl | rfl | rfl | rfl
  ·exact⟨_,hz,fun v q=>by cases (show Data.fields _=Data.cell v from q)⟩
  ·exact⟨_,hTI,fun v q=>by cases (show Data.seq _ _=Data.cell v from q)⟩
  ·exact⟨_,hTO,fun v q=>by cases (show Data.seq _ _=Data.cell v from q)⟩
  ·exact⟨o1,e1,fun v q=>by rw[d1] at q;cases q⟩
  ·exact⟨o2,e2,fun v q=>by rw[d2] at q;cases q⟩
 keep:=fun i h h' st k=>st.keep k
 item:=by
  intro X hP hw hK hc i pins s σ H E I hf st hg
  subst hP hw hK
  obtain⟨xs,ys,x,y,q1,q2,hx,hy⟩:=hg
  have hT:s.TypeIs (.ref z) "zip" :=⟨_,st.hz,rfl⟩
  unfold pyNext
  refine wpAny_bind (wpAny_attempt (wpAny_callSpecial?_slot (name:=Str.ofString "__next__") hT F.slot_zip_next (wpAny_call_entry F.slot_zip_next hT F.entry_zip_next (zipQ_item N I hf st q1 q2 hx hy fun g S2 I2=>wpAny_pure ⟨_,rfl,?_⟩) (F.args_zip_next_1 _))))
  have hlt:∀ c ∈ [z,TI,TO,i1,i2],c ≠ s.heap.objs.size:=fun c hc=>by
   obtain⟨hz,hTI,⟨oa,ob,hTO⟩,h1,h2⟩:=st
   obtain⟨o1,e1,_⟩:=h1.out
   obtain⟨o2,e2,_⟩:=h2.out
   simp only[List.mem_cons,List.not_mem_nil,or_false] at hc
   rcases hc with rfl | rfl | rfl | rfl | rfl
   ·exact Nat.ne_of_lt (Heap.lt_size hz)
   ·exact Nat.ne_of_lt (Heap.lt_size hTI)
   ·exact Nat.ne_of_lt (Heap.lt_size hTO)
   ·exact Nat.ne_of_lt (Heap.lt_size e1)
   ·exact Nat.ne_of_lt (Heap.lt_size e2)
  have hn:∀ c ∈ [z,TI,TO,i1,i2],upd H s.heap.objs.size (.tup [x,y]) c=none:=fun c hc=>by rw[zah (hlt c hc)];exact(hf c hc).1
  have fz:zeD X pins (upd H s.heap.objs.size (.tup [x,y])) z:=⟨hn z (by simp),(hf z (by simp)).2⟩
  refine wpAny_letOwnedTupleGo_zip S2.hz fun g' z' b'=>⟨.ref s.heap.objs.size,_,I2.turn1 fz b'.extBut,rfl,⟨_,I.hok.fresh (Nat.le_refl _),rfl,fun us vs u1 u2=>?_⟩,?_,hn⟩
  ·rw[I.seqQ_inj u1 q1,I.seqQ_inj u2 q2]
   exact⟨x,y,hx,hy,rfl⟩
  ·obtain⟨_,hTI,⟨oa,ob,hTO⟩,h1,h2⟩:=S2
   exact⟨z',b'.extBut _ _ N.n1 hTI,⟨oa,ob,b'.extBut _ _ N.n2 hTO⟩,h1.at fun o e=>b'.extBut _ o N.n3 e,h2.at fun o e=>b'.extBut _ o N.n4 e⟩
 done:=by
  intro X hP hw hK hc i pins s σ H E I hf st hg
  subst hP hw hK
  obtain⟨xs,ys,q1,q2,hx⟩:=hg
  have hT:s.TypeIs (.ref z) "zip" :=⟨_,st.hz,rfl⟩
  unfold pyNext
  refine wpAny_bind (wpAny_attempt (wpAny_callSpecial?_slot (name:=Str.ofString "__next__") hT F.slot_zip_next (wpAny_call_entry F.slot_zip_next hT F.entry_zip_next (zipQ_end (I.ok.hd hc) N I hf st q1 q2 hx fun g e he I2=>?_) (F.args_zip_next_1 _))))
  obtain⟨o,e1,e2⟩:=he
  exact wpAny_bind (wpAny_isInstance (T:= "StopIteration") (b:=true) ⟨o,e1,e2⟩ isSubtype_stop (wpAny_pure ⟨rfl,I2⟩))
 self:=fun A i s Q E st h=>wpAny_pyIter_zip st.hz h
noncomputable abbrev zA(h:Heap)(k:Bool)(a:Addr):Heap:=h.push { cls:=.type (itN k),data:=.fields #[.ref a,.int 0 0]}
noncomputable abbrev zB(h:Heap)(k1 k2:Bool)(a b:Addr):Heap:=zA (zA h k1 a) k2 b
noncomputable abbrev zC(h:Heap)(k1 k2:Bool)(a b:Addr):Heap:=(zB h k1 k2 a b).push { cls:=.type "tuple",data:=.seq #[.ref h.objs.size,.ref (zA h k1 a).objs.size]}
noncomputable abbrev zD(h:Heap)(k1 k2:Bool)(a b:Addr):Heap:=(zC h k1 k2 a b).push { cls:=.type "tuple",data:=.seq #[.none,.none]}
noncomputable abbrev zE(h:Heap)(k1 k2:Bool)(a b:Addr):Heap:=(zD h k1 k2 a b).push { cls:=.type "zip",data:=.fields #[.none,.bool false,.bool false,.ref (zB h k1 k2 a b).objs.size,.ref (zC h k1 k2 a b).objs.size]}
theorem QAt.push{k:Bool}{h:Heap}{a:Addr}{xs:Array Value}(p:QAt k h a xs)(o:Obj):QAt k (h.push o) a xs:=by
 cases k with
 | true=>exact Heap.IsTuple.push p o
 | false=>exact Heap.IsList.push p o
theorem zgY(k1 k2:Bool)(a b:Addr)(xs ys:Array Value) :
  Meets (Builtin.«zip.__new__» ⟨[.type "zip",.ref a,.ref b],[]⟩) (fun _ R s=>QAt k1 s.heap a xs/\QAt k2 s.heap b ys/\R (.ok (.ret (.ref (zD s.heap k1 k2 a b).objs.size))) { s with heap:=zE s.heap k1 k2 a b}):=
 .of_wp fun prog w A R s h=>by
  obtain⟨hp,g,d,tk,os⟩:=s
  obtain⟨p1,p2,h⟩:=h
  have hsub:=sub_zip
  have P1:QAt k1 (Shared.heap ⟨hp,g,d,tk,os⟩) a xs:=p1
  have P2:QAt k2 (Shared.heap ⟨zA hp k1 a,g,d,tk,os⟩) b ys:=p2.push _
  wp_walk using pyIterQ P1,pyIterQ P2
  exact⟨_,rfl,h⟩
theorem callQ_zip{prog:Program}{w:World}{A:Around}{E:Value->Shared->Prop}{s:Shared}{k1 k2:Bool}{a b:Addr}{xs ys:Array Value}{Q:Value->Shared->Prop}(p1:QAt k1 s.heap a xs)(p2:QAt k2 s.heap b ys)
  (h:∀ h',ZSt k1 k2 (s.heap.objs.size+4) (s.heap.objs.size+2) (s.heap.objs.size+3) s.heap.objs.size (s.heap.objs.size+1) a b 0 .none h'->(∀ c o,s.heap.get? c=some o->h'.get? c=some o)->Q (.ref (s.heap.objs.size+4)) { s with heap:=h'}) :
  wpAny (model prog w) A (call (.type "zip") [.ref a,.ref b]) Q E s:=by
 refine callType_new F.called_zip (by decide) (F.typeCall_zip_2 _ _) (F.newCall_zip_2 _ _) (fun obj=>F.args_object_init_3 obj _ _) F.entry_zip_new (zgY k1 k2 a b xs ys) ⟨p1,p2,?_⟩
 have y1:(zA s.heap k1 a).objs.size=s.heap.objs.size+1:=Heap.size_push ..
 have y2:(zB s.heap k1 k2 a b).objs.size=s.heap.objs.size+2:=by rw[Heap.size_push,y1]
 have y3:(zC s.heap k1 k2 a b).objs.size=s.heap.objs.size+3:=by rw[Heap.size_push,y2]
 have y4:(zD s.heap k1 k2 a b).objs.size=s.heap.objs.size+4:=by rw[Heap.size_push,y3]
 have up:∀ c o,s.heap.get? c=some o->(zE s.heap k1 k2 a b).get? c=some o:=fun c o x=>Heap.get?_push_of_some _ (Heap.get?_push_of_some _ (Heap.get?_push_of_some _ (Heap.get?_push_of_some _ (Heap.get?_push_of_some _ x))))
 have g5:(zE s.heap k1 k2 a b).get? (zD s.heap k1 k2 a b).objs.size=some _:=Heap.get?_push_size _ rfl
 have g4:(zE s.heap k1 k2 a b).get? (zC s.heap k1 k2 a b).objs.size=some _:=Heap.get?_push_of_some _ (Heap.get?_push_size _ rfl)
 have g3:(zE s.heap k1 k2 a b).get? (zB s.heap k1 k2 a b).objs.size=some _:=Heap.get?_push_of_some _ (Heap.get?_push_of_some _ (Heap.get?_push_size _ rfl))
 have g2:(zE s.heap k1 k2 a b).get? (zA s.heap k1 a).objs.size=some _:=Heap.get?_push_of_some _ (Heap.get?_push_of_some _ (Heap.get?_push_of_some _ (Heap.get?_push_size _ rfl)))
 have g1:(zE s.heap k1 k2 a b).get? s.heap.objs.size=some _:=Heap.get?_push_of_some _ (Heap.get?_push_of_some _ (Heap.get?_push_of_some _ (Heap.get?_push_of_some _ (Heap.get?_push_size _ rfl))))
 show _/\_
 rw[y2,y3,y4] at g5
 rw[y1,y2] at g3
 rw[y3] at g4
 rw[y1] at g2
 rw[y4]
 exact⟨⟨_,g5,rfl⟩,h _ ⟨g5,g3,⟨_,_,g4⟩,.mk ⟨_,g1,rfl,rfl⟩,.mk ⟨_,g2,rfl,rfl⟩⟩ up⟩
theorem zne(n:Nat):ZNe (n+4) (n+2) (n+3) n (n+1):=
  ⟨by intro h;have:n+2=n+4:=h;lia,by intro h;have:n+3=n+4:=h;lia,by intro h;have:n=n+4:=h;lia,by intro h;have:n+1=n+4:=h;lia,by intro h;have:n+2=n+3:=h;lia,
   by intro h;have:n+2=n:=h;lia,by intro h;have:n+2=n+1:=h;lia,by intro h;have:n+3=n:=h;lia,by intro h;have:n+3=n+1:=h;lia,by intro h;have:n=n+1:=h;lia⟩
noncomputable def iZp(K:PySem.W.Frag)(ta:TA):TI:=fun σ H R=>ta σ H fun vs H1=>∃ k1 k2 a b,vs=[.ref a,.ref b]/\(∃ xs,SqQ K k1 H1 a xs)/\(∃ ys,SqQ K k2 H1 b ys)/\R (Itz K k1 k2 a b) H1
theorem pi_zip{X:Cx}{es:List Expr}{n:Nat}{tpos p pos:Pos}{a b:Expr}{ta:TA}(hg:Gl X "zip")(hm:X.mg "zip" = none)(hb:bootBuiltins "zip" = some (.type "zip"))(ha:PA X [a,b] ta)(hs:starEach [a,b] X.env=[(false,eval a X.env),(false,eval b X.env)]:=by rfl)(hs2:starEach [b] X.env=[(false,eval b X.env)]:=by rfl) :
  PI X (.Tuple es n tpos) (.Call (.Name "zip" p) [a,b] [] pos) (iZp X.K ta):=by
 intro pins s σ H R I h
 refine Call_ (zcK I hg hm hb (PyProof.Rows.callWith_type1 (thn (ha pos pins s σ H _ I h) fun us s1 ⟨vs,H1,I1,r1,q1⟩=>?_) (by rw[hs,hs2]) (by rw[hs2];rfl)))
 obtain⟨k1,k2,u,v,e,⟨xs,w1⟩,⟨ys,w2⟩,q⟩:=q1
 subst e
 cases r1 with
 | cons r rr=>
  cases rr with
  | cons r' rr=>
   cases rr
   cases r
   cases r'
   obtain⟨i1,v1,p1⟩:=I1.seqQ w1
   obtain⟨i2,v2,p2⟩:=I1.seqQ w2
   refine callQ_zip p1 p2 fun g st up=>wpAny_pyIter_zip st.hz ?_
   have I2:Inv X pins σ H1 { s1 with heap:=g}:=I1.kept (t':=s1.toks) up
   refine⟨_,_,_,_,H1,rfl,I2,turn_zip k1 k2 _ _ _ _ _ u v (zne _),st,fun c hc=>?_,q⟩
   have hc':s1.heap.objs.size<=c:=by
    simp only[List.mem_cons,List.not_mem_nil,or_false] at hc
    rcases hc with rfl | rfl | rfl | rfl | rfl
    ·exact Nat.le_add_right _ _
    ·exact Nat.le_add_right _ _
    ·exact Nat.le_add_right _ _
    ·exact Nat.le_refl _
    ·exact Nat.le_add_right _ _
   exact I1.fpOk hc' (I1.hok.fresh hc')
end L2
namespace L3
open PySem PySem.Spec PyProof.Rows L2
noncomputable def qOf:Ent->Option (List D)
 | .val (.lst ds)=>some ds
 | .val (.tup ds)=>some ds
 | .own ds=>some ds
 | _=>none
noncomputable def qV(fe:FE):FI:=fun δ=>(fe δ).bind qOf
noncomputable def iZip(fa fb:FI):FI:=fun δ=>(fa δ).bind fun xs=>(fb δ).bind fun ys=>some ((xs.zip ys).map fun p=>D.tup [p.1,p.2])
noncomputable def Stays(K:PySem.W.Frag)(B F:Hp)(v:V)(ds:List D):Prop:=∃ k a vs,v=.ref a/\(∀ F2 H2,Same F F2->Same F2 H2->Same B H2->SqQ K k H2 a vs)/\Reps F vs ds
noncomputable def SemQ(K:PySem.W.Frag)(t:TE)(f:FI):Prop:=∀ (B:Bd) (F H:Hp) (σ:Sg) (δ:En) (ds:List D) (Q:VK),RS K B F H σ δ->f δ=some ds->(∀ v F' H',Ex F H F' H'->Stays K B F' v ds->Q v H')->t σ H Q
structure VQ(X:Cx)(e:Expr)(f:FI):Prop where
 h:∃ t,WE X e t/\SemQ X.K t f
theorem itOk_zip{K:PySem.W.Frag}{B F0:Hp}{k1 k2:Bool}{a b:Addr}{vs ws:List V}{ds es:List D}(h1:∀ F H,Same F0 F->Same F H->Same B H->SqQ K k1 H a vs)(h2:∀ F H,Same F0 F->Same F H->Same B H->SqQ K k2 H b ws)(r1:Reps F0 vs ds)(r2:Reps F0 ws es) :
  ItOk B F0 (Itz K k1 k2 a b) ((ds.zip es).map fun p=>D.tup [p.1,p.2]):=fun F H s1 s2 s3=>by
 have q1:=h1 F H s1 s2 s3
 have q2:=h2 F H s1 s2 s3
 have l1:=r1.length
 have l2:=r2.length
 refine⟨⟨vs,ws,q1,q2,?_⟩,fun i d e=>?_⟩
 ·rw[List.length_map,List.length_zip]
  lia
 ·rw[List.getElem?_map] at e
  obtain⟨p,e1,e2⟩:=Option.map_eq_some_iff.mp e
  obtain⟨e3,e4⟩:=List.getElem?_zip_eq_some.mp e1
  obtain⟨v,g1,g2⟩:=r1.get e3
  obtain⟨w,g3,g4⟩:=r2.get e4
  refine⟨⟨vs,ws,v,w,q1,q2,g1,g3⟩,fun x H' y=>?_⟩
  obtain⟨pp,hp,ex,y⟩:=y
  obtain⟨v',w',y1,y2,eH⟩:=y vs ws q1 q2
  rw[g1] at y1
  rw[g3] at y2
  cases y1
  cases y2
  subst ex eH e2
  have sm:Same F (upd F pp (.tup [v,w])):=Same.alloc (s2.free hp)
  exact⟨_,Ex.alloc s2 hp,.tup zae (.cons (Rep.mono (s1.trans sm) g2) (.cons (Rep.mono (s1.trans sm) g4) .nil))⟩
section
variable {X:Cx}{e e':Expr}{fe:FE}{fa fb:FI}{p pos tpos:Pos}{x:Str}{es:List Expr}{n:Nat}
theorem zqv(h:VE X e fe):VQ X e (qV fe):=by
 obtain⟨t,w,m⟩:=h.h
 refine⟨_,w,fun B F H σ δ ds Q s q k=>?_⟩
 obtain⟨r,q1,q⟩:=bind_some q
 refine m B F H σ δ r _ s q1 fun v F1 H1 x1 r1=>?_
 unfold qOf at q
 split at q
 ·cases q
  cases (show Rep F1 v (.lst ds) from r1) with
  | lst e rs=>exact k _ F1 H1 x1 ⟨false,_,_,rfl,fun F2 H2 a b _=>SqL.of (b _ _ (a _ _ e)),rs⟩
 ·cases q
  cases (show Rep F1 v (.tup ds) from r1) with
  | tup e rs=>exact k _ F1 H1 x1 ⟨true,_,_,rfl,fun F2 H2 a b _=>SqT.of (b _ _ (a _ _ e)),rs⟩
 ·cases q
  obtain⟨F2,x2,_,r2⟩:=RepR.frz x1 (Same.refl _) r1 rfl
  cases r2 with
  | lst e rs=>exact k _ F2 H1 x2 ⟨false,_,_,rfl,fun F3 H3 a b _=>SqL.of (b _ _ (a _ _ e)),rs⟩
 ·cases q
theorem iizip(h1:VQ X e fa)(h2:VQ X e' fb)(hg:Gl X "zip")(hm:X.mg "zip" = none)(hb:bootBuiltins "zip" = some (.type "zip"))(n1:zap e=true:=by rfl)(n2:zap e'=true:=by rfl):VI X (.Tuple es n tpos) (.Call (.Name "zip" p) [e,e'] [] pos) (iZip fa fb):=by
 obtain⟨t1,w1,m1⟩:=h1.h
 obtain⟨t2,w2,m2⟩:=h2.h
 refine⟨_,⟨pi_zip hg hm hb (wac w1 (wac w2 zg4 n2) n1).h (by rw[zan n1,zan n2];rfl) (by rw[zan n2];rfl)⟩,fun B F H σ δ ds R s q k=>?_⟩
 obtain⟨xs,q1,q⟩:=bind_some q
 obtain⟨ys,q2,q⟩:=bind_some q
 cases q
 refine m1 B F H σ δ xs _ s q1 fun v F1 H1 x1 ⟨k1,a,vs,ev,p1,r1⟩=>?_
 refine m2 B F1 H1 σ δ ys _ (s.ext x1) q2 fun v' F2 H2 x2 ⟨k2,b,ws,ew,p2,r2⟩=>?_
 subst ev ew
 have bh:=s.bh.trans (x1.trans x2).hh
 exact⟨k1,k2,a,b,rfl,⟨vs,p1 F2 H2 x2.ff x2.fh bh⟩,⟨ws,p2 F2 H2 (Same.refl _) x2.fh bh⟩,k _ F2 H2 (x1.trans x2) (itOk_zip (fun F H a b c=>p1 F H (x2.ff.trans a) b c) p2 (r1.mono x2.ff) r2)⟩
end
end L3

namespace L2
open PySem PySem.Spec PyProof.Rows
noncomputable def Itq(K:PySem.W.Frag):Bool->Addr->It
 | true=>Itt K
 | false=>Itl K
noncomputable def iSq(K:PySem.W.Frag)(tl:TE):TI:=fun σ H R=>tl σ H fun x H1=>∃ k a,x=.ref a/\(∃ xs,SqQ K k H1 a xs)/\R (Itq K k a) H1
theorem pi_seq{X:Cx}{tg l:Expr}{tl:TE}(hl:PE X l tl):PI X tg l (iSq X.K tl):=by
 intro pins s σ H R I h
 refine thn (hl pins s σ H _ I h) fun v s1 ⟨x,H1,I1,r1,q1⟩=>?_
 obtain⟨k,a,e,⟨xs,hq⟩,q⟩:=q1
 subst e
 cases r1
 have fp:∀ b ∈ [s1.heap.objs.size],zeD X pins H1 b:=fun b hb=>by
  cases List.mem_singleton.mp hb
  exact I1.fpOk (Nat.le_refl _) (I1.hok.fresh (Nat.le_refl _))
 obtain⟨its,rv,p⟩:=I1.seqQ hq
 cases k with
 | true=>exact wpAny_pyIter_tuple p ⟨s1.heap.objs.size,[s1.heap.objs.size],_,_,H1,rfl,I1.kept (t':=s1.toks) fun b o e=>Heap.get?_push_of_some _ e,zey a _,⟨_,Heap.get?_push_size _ rfl,rfl,rfl⟩,fp,q⟩
 | false=>exact wpAny_pyIter_list p ⟨s1.heap.objs.size,[s1.heap.objs.size],_,_,H1,rfl,I1.kept (t':=s1.toks) fun b o e=>Heap.get?_push_of_some _ e,zfN a _,⟨_,Heap.get?_push_size _ rfl,rfl,rfl⟩,fp,q⟩
end L2
namespace L3
open PySem PySem.Spec PyProof.Rows L2
theorem itOk_seq{K:PySem.W.Frag}{B F0:Hp}{k:Bool}{a:Addr}{vs:List V}{ds:List D}(h:∀ F H,Same F0 F->Same F H->Same B H->SqQ K k H a vs)(r:Reps F0 vs ds):ItOk B F0 (Itq K k a) ds:=by
 cases k with
 | false=>exact zdp h r
 | true=>
  intro F H s1 s2 s3
  have hq:SqT K H a vs:=h F H s1 s2 s3
  refine⟨⟨vs,hq,by rw[r.length];exact Nat.le_refl _⟩,fun i d e=>?_⟩
  obtain⟨v,h1,h2⟩:=r.get e
  refine⟨⟨vs,v,hq,h1⟩,fun x H' y=>?_⟩
  obtain⟨e',y⟩:=y
  subst e'
  have z:=y vs hq
  rw[h1] at z
  cases z
  exact⟨F,Ex.refl s2,Rep.mono s1 h2⟩
theorem iiq{X:Cx}{tg e:Expr}{fe:FE}(h:VE X e fe):VI X tg e (qV fe):=by
 obtain⟨t,w,m⟩:=(zqv h).h
 exact⟨_,⟨pi_seq w.h⟩,fun B F H σ δ ds R s q k=>m B F H σ δ ds _ s q fun v F1 H1 x1 ⟨kk,a,vs,e,p,r⟩=>⟨kk,a,e,⟨vs,p F1 H1 (Same.refl _) x1.fh (s.bh.trans x1.hh)⟩,k _ F1 H1 x1 (itOk_seq p r)⟩⟩
end L3
namespace L2
open PySem PySem.Spec PyProof.Rows
section
variable {X:Cx}
end
end L2
namespace L3
open PySem PySem.Spec PyProof.Rows L2
end L3
namespace L2
open PySem PySem.Spec PyProof.Rows
open PySem.AutoSeq1 (wpAny_loadPart')
open PySem.MeetsSeq PySem.MeetsSeq2 PySem.MeetsSeq3
section
variable {X:Cx}
end
end L2
namespace L3
open PySem PySem.Spec PyProof.Rows L2
section
variable {X:Cx}
end
structure MtT(X:Cx)(name:Str)(g:Ent->List Ent->Option Ent):Prop where
 h:∃ id r,Slot "tuple" name id/\typeOf (.builtin id)=pure (.type "method_descriptor")/\MtR X id r /\
  (∀ (F:Hp) (v:V) (e:Ent) (es:List Ent) (res:Ent),g e es=some res->∃ ds,e=.val (.tup ds)) /\
  ∀ (H0 F H:Hp) (x:V) (vs:List V) (e:Ent) (es:List Ent) (res:Ent) (Q:VK),Same F H->Same H0 H->RepR X.K H0 F H x e->RepRs X.K H0 F H vs es->g e es=some res->(∀ v F' H',Ex F H F' H'->RepR X.K H0 F' H' v res->Q v H')->r x vs H Q
section
variable {X:Cx}{name:Str}{g:Ent->List Ent->Option Ent}{o e:Expr}{es:List Expr}{fo:FE}{fs:FA}{apos cpos:Pos}
end
end L3

namespace L2
open PySem PySem.Spec PyProof.Rows PyProof.Rows.KTD
section
variable {X:Cx}{a:Addr}{D:List (Str × Int)}
end
theorem kisS{P:Program}{w:World}{z:Str}{u:Value}(r:RelV (.str z) u):(zb9 P w).is (Sum.inr z) u=true:=by
 obtain⟨t,rfl⟩:=r
 show Value.isStrOf z (.str z t)=true
 simp[Value.isStrOf]
noncomputable def atK(kvs:List (Key × V))(k:Key):Option V:=(kvs.find? fun p=>decide (p.1=k)).map (·.2)
theorem zeH{kvs:List (Key × V)}{vs:List (Key × Value)}(r:KV kvs vs)(k:Key):(∃ v w,atK kvs k=some v/\valueAt vs k=some w/\RelV v w) \/ (atK kvs k=none/\valueAt vs k=none):=by
 unfold KV at r
 induction r with
 | nil=>exact .inr ⟨rfl,rfl⟩
 | @cons p q ps qs h t ih=>
  obtain⟨h1,h2⟩:=h
  unfold atK valueAt at ih ⊢
  by_cases e:p.1=k
  ·refine .inl ⟨p.2,q.2,?_,?_,h2⟩
   ·rw[List.find?_cons_of_pos (by simpa using e)];rfl
   ·rw[List.find?_cons_of_pos (by simpa using (h1 ▸ e:q.1=k))];rfl
  ·rw[List.find?_cons_of_neg (by simpa using e),List.find?_cons_of_neg (by simpa using (fun z=>e (h1.trans z):¬ q.1=k))]
   exact ih
section
variable {X:Cx}
theorem zfU:IxR X (fun x y H Q=>∃ a kvs z v,x=.ref a/\y=.str z/\Rd H a (.dK kvs)/\atK kvs (Sum.inr z)=some v/\Q v H):=by
 intro value slice pins s σ H x y v u Q I rx ry h hs
 obtain⟨a,kvs,z,v',rfl,rfl,e,hv,q⟩:=h
 cases rx
 obtain⟨_,hd,vs,rel,dd⟩:=e.ok I.hok
 rcases zeH rel (Sum.inr z) with ⟨v2,w,e1,e2,e3⟩ | ⟨e1,_⟩
 ·rw[hv] at e1
  cases e1
  exact subscriptTail_builtinR (x:=w) dd.typeIs slot_dict_getitem.lookup (wpAny_getItem_of (kisS ry) dd.mapOf e2 ⟨rfl,v',H,I.tok _,e3,q⟩) hs
 ·rw[hv] at e1;cases e1
theorem op_niD:OpR X (compareOp .NotIn) (fun x y H Q=>∃ a kvs z,x=.str z/\y=.ref a/\Rd H a (.dK kvs)/\Q (.bl (!(atK kvs (Sum.inr z)).isSome)) H):=by
 intro pins s σ H x y v u Q I rx ry h
 obtain⟨a,kvs,z,rfl,rfl,e,q⟩:=h
 cases ry
 obtain⟨_,hd,vs,rel,dd⟩:=e.ok I.hok
 refine wpAny_notIn_of (kisS rx) hd dd.mapOf ⟨.bl _,H,I.tok _,?_,q⟩
 rcases zeH rel (Sum.inr z) with ⟨v2,w,e1,e2,e3⟩ | ⟨e1,e2⟩ <;> (rw[e1,e2];rfl)
end
inductive PrsOf:List Str->List V->List (Value × Value)->Prop
 | nil:PrsOf [] [] []
 | cons {z:Str} {t:Tok} {v:V} {u:Value} {ks:List Str} {vs:List V} {ws:List (Value × Value)}:RelV v u->PrsOf ks vs ws->PrsOf (z :: ks) (v :: vs) ((.str z t,u) :: ws)
theorem PrsOf.len{ks:List Str}{vs:List V}{ws:List (Value × Value)}(h:PrsOf ks vs ws):ks.length=vs.length:=by
 induction h with
 | nil=>rfl
 | cons _ _ ih=>rw[List.length_cons,List.length_cons,ih]
noncomputable def PDs(X:Cx)(pos:Pos)(keys:List (Option Expr))(values:List Expr)(ks:List Str)(t:TA):Prop:=
 ∀ (pins:List (Addr × Obj)) (s:Shared) (σ:St) (H:Hp) (Q:List V->Hp->Prop),Inv X pins σ H s->t σ H Q ->
  wpAny (model X.prog X.w) X.A (evalPairs (pairTrees keys values X.env pos)) (fun ws s'=>∃ vs H',Inv X pins σ H' s'/\PrsOf ks vs ws/\Q vs H') X.xe s
end L2
namespace L3
open PySem PySem.Spec PyProof.Rows L2
section
variable {X:Cx}
structure VD(X:Cx)(pos:Pos)(keys:List (Option Expr))(values:List Expr)(ks:List Str)(fs:FA):Prop where
 h:∃ t,PDs X pos keys values ks t/\SemA X.K t fs
variable {pos kp p:Pos}{z x:Str}{j:Nat}{v sl:Expr}{keys:List (Option Expr)}{values:List Expr}{ks:List Str}{fv fe:FE}{fs:FA}
end
end L3

namespace L2
open PySem PySem.Spec PyProof.Rows
end L2
namespace L3
open PySem PySem.Spec PyProof.Rows L2
section
variable {X:Cx}{e:Expr}{fe:FE}{x:Str}{p pos:Pos}
end
end L3

namespace L2
open PySem PySem.Spec PyProof.Rows
namespace RV
theorem lri_len:typeLookup (.type "list_reverseiterator") "__len__" = pure none:=by rw[typeLookup_type,builtinLookup_eq_fast];kernel_rfl
theorem lri_hint:typeLookup (.type "list_reverseiterator") "__length_hint__" = pure (some (.builtin "list_reverseiterator.__length_hint__")):=by rw[typeLookup_type,builtinLookup_eq_fast];kernel_rfl
end RV
section
variable {prog:Program}{w:World}{A:Around}{E:Value->Shared->Prop}{s:Shared}
set_option maxRecDepth 100000
theorem hint_rev{I l:Addr}{i:Int}{Q:Bool->Shared->Prop}(hit:s.heap.IsRevIter I l i)(q:Q false s):wpAny (model prog w) A (Builtin.List.listLengthHint (.ref I)) Q E s:=by
 unfold Builtin.List.listLengthHint
 refine wpAny_bind (wpAny_specialOf hit.typeIs RV.lri_len ?_)
 wp_delta
 refine wpAny_bind (wpAny_specialOf hit.typeIs RV.lri_hint ?_)
 wp_delta
 refine wpAny_bind (wpAny_isInstance (T:= "list_reverseiterator") (b:=true) hit.typeIs (by rw[isSubtype_type];kernel_rfl) ?_)
 show wpAny _ A (pure false) Q E s
 exact wpAny_pure q
end
end L2
namespace L2
open PySem PySem.Spec PyProof.Rows
section
variable {X:Cx}{e:Expr}{t:TE}{p p1 pos pos1:Pos}
theorem rev_vals{xs:List V}{its:List Value}(r:Vals xs its){acc:Array Value}(h:ItemsOf (fun i v=>its.toArray[its.toArray.size - 1 - i]? = some v) acc its.toArray.size):Vals xs.reverse acc.toList:=by
 obtain⟨h1,h2⟩:=h
 have e:acc.toList=its.reverse:=by
  apply List.ext_getElem?
  intro j
  by_cases hj:j<its.length
  ·have hs:acc.size=its.length:=by simpa using h1
   have:=h2 j acc[j] (by simp[hs,hj])
   rw[List.getElem?_reverse hj]
   simp only[List.size_toArray,List.getElem?_toArray] at this
   rw[this]
   simp[hs,hj]
  ·have hs:acc.size=its.length:=by simpa using h1
   rw[List.getElem?_eq_none (by simp[hs];lia),List.getElem?_eq_none (by simp;lia)]
 rw[e]
 clear h1 h2 e
 induction r with
 | nil=>exact .nil
 | cons h t ih=>
  rw[List.reverse_cons,List.reverse_cons]
  exact ih.append (.cons h .nil)
end
end L2
namespace L3
open PySem PySem.Spec PyProof.Rows L2
section
variable {X:Cx}{e:Expr}{fe:FE}{p p1 pos pos1:Pos}
end
end L3

namespace L2
open PySem PySem.Spec PyProof.Rows
section
variable {X:Cx}
theorem op_isB:OpR X (compareOp .Is) (fun x y H Q=>∃ a b,x=.bl a/\y=.bl b/\Q (.bl (a == b)) H):=by
 intro pins s σ H x y v u Q I rx ry h
 obtain⟨a,b,rfl,rfl,q⟩:=h
 cases rx
 cases ry
 exact wpAny_is_plain (by cases a <;> cases b <;> rfl) (zaF I q (by cases a <;> cases b <;> rfl))
end
end L2
namespace L3
open PySem PySem.Spec PyProof.Rows L2
noncomputable def gIsB:Ent->Ent->Option Ent:=fun x y=>(bOf x).bind fun a=>(bOf y).map fun b=>.val (.bl (a == b))
section
variable {X:Cx}
theorem o_isB:OpD X (compareOp .Is) gIsB:=⟨_,op_isB,fun H0 F H x y e e' res Q fh hh rx ry q k=>by
 obtain⟨a,q1,q⟩:=bind_some q
 obtain⟨b,q2,q⟩:=map_some q
 cases q
 cases zdk q1
 cases zdk q2
 exact⟨a,b,zcF rx,zcF ry,k _ F H (Ex.refl fh) (.bl _)⟩⟩
end
end L3

namespace L3
open PySem PySem.Spec PyProof.Rows L2
section
variable {X:Cx}
end
end L3

namespace L3
open PySem PySem.Spec PyProof.Rows L2
noncomputable def zda(H:Hp)(A:List Addr):Hp:=fun a=>if a ∈ A then none else H a
section
variable {K:PySem.W.Frag}{B:Bd}{F H F' H' H0:Hp}{σ:Sg}{δ:En}{v:V}{A A':List Addr}{a:Addr}{u:HO}{i:Nat}{o o':OT}
theorem zaZ(h:a ∈ A):zda H A a=none:=if_pos h
theorem zb2(h:a ∉ A):zda H A a=H a:=if_neg h
theorem zao(h:zda H A a=some u):a ∉ A/\H a=some u:=by
 by_cases q:a ∈ A
 ·rw[zaZ q] at h;cases h
 ·rw[zb2 q] at h;exact⟨q,h⟩
theorem zaE(h:a ∉ A)(e:H a=some u):zda H A a=some u:=(zb2 h).trans e
structure Chg(H F F' H':Hp)(A:List Addr):Prop where
 ff:Same F F'
 fh:Same F' H'
 st:Same (zda H A) H'
 nw:∀ a u,zda H A a=some u->isT u=false->F' a=F a
theorem TR.far{Aj:List Addr}{w:V}{p:OT}(t:TR K F H w p Aj)(c:Chg H F F' H' A)(h:∀ a ∈ Aj,a ∉ A):TR K F' H' w p Aj/\∀ a ∈ Aj,F' a=F a:=
 ⟨t.move c.ff fun a ha=>let⟨_,h1,_⟩:=t.lies a ha;(c.st _ _ (zaE (h a ha) h1)).trans h1.symm,fun a ha=>let⟨_,h1,h2⟩:=t.lies a ha;c.nw _ _ (zaE (h a ha) h1) h2⟩
theorem RS.chg(s:RS K B F H σ δ)(hi:δ[i]? = some (some (.obj o)))(hs:σ[i]? = some (some v))(t:TR K F H v o A)(c:Chg H F F' H' A)(t':TR K F' H' v o' A')(n':A'.Nodup)(f':∀ a ∈ A',F' a=none/\zda H A a=none) :
  RS K B F' H' σ (δ.set i (some (.obj o')))/\FX B F F':=by
 obtain⟨A0,t0,n0,f0⟩:=s.at hi hs
 cases t0.det t
 have hB:∀ a u,(B:Hp) a=some u->zda H A a=some u:=fun a u h=>zaE (fun ha=>by rw[(f0 a ha).2] at h;cases h) (s.bh _ _ h)
 have far:∀ (j:Nat) (e:Ent) (w:V) (a:Addr),i ≠ j->δ[j]? = some (some e)->σ[j]? = some (some w)->Occ K F H w e a->a ∉ A:=fun j e w a hij h1 h2 h3 ha=>s.ao i j _ e v w a hij hi hs h1 h2 rfl ⟨A,t,ha⟩ h3
 have mv:∀ (j:Nat) (w:V) (p:OT) (Aj:List Addr),i ≠ j->δ[j]? = some (some (.obj p))->σ[j]? = some (some w)->TR K F H w p Aj->TR K F' H' w p Aj/\∀ a ∈ Aj,F' a=F a:=fun j w p Aj hij h1 h2 tj=>
  tj.far c fun a ha=>far j _ w a hij h1 h2 ⟨Aj,tj,ha⟩
 have bk:∀ (j:Nat) (e:Ent) (w:V) (a:Addr),i ≠ j->δ[j]? = some (some e)->σ[j]? = some (some w)->Occ K F' H' w e a->Occ K F H w e a:=fun j e w a hij z1 z2 z3=>z3.back (s.at z1 z2) fun p Aj he tj=>by
  subst he;exact(mv j w p Aj hij z1 z2 tj).1
 refine⟨⟨c.fh,fun a u h=>c.st a u (hB a u h),by simp[s.len],fun j e q=>?_,fun a b l2 es e' hab q1 q2 q3 q4=>?_,fun a b e1 e2 v1 v2 ad hab q1 q2 q3 q4 q5 q6 q7=>?_,fun w p hw hp=>?_⟩,⟨c.ff,fun a u h ht=>c.nw a u (hB a u h) ht⟩⟩
 ·rw[List.getElem?_set] at q
  by_cases hij:i=j
  ·subst hij
   rw[if_pos rfl] at q
   split at q
   ·cases q
    exact⟨v,hs,A',t',n',fun a ha=>⟨(f' a ha).1,by
     cases z:(B:Hp) a with
     | none=>rfl
     | some u=>have:=hB a u z;rw[(f' a ha).2] at this;cases this⟩⟩
   ·cases q
  ·rw[if_neg hij] at q
   obtain⟨w,p1,p2⟩:=s.ent j e q
   refine⟨w,p1,?_⟩
   cases e with
   | val d=>exact Rep.mono c.ff p2
   | bor ds=>obtain⟨l,vs,e,p3,p4⟩:=p2;exact⟨l,vs,e,p3,p4.mono c.ff⟩
   | own es=>
    obtain⟨l,vs,e,p3,p4,p5,p6⟩:=p2
    have hl:=far j _ w l hij q p1 e
    exact⟨l,vs,e,c.st _ _ (zaE hl p3),p4.mono c.ff,(c.nw _ _ (zaE hl p3) rfl).trans p5,p6⟩
   | vw es=>
    obtain⟨l,vs,e,p3,p4⟩:=p2
    have hl:=far j _ w l hij q p1 e
    exact⟨l,vs,e,c.st _ _ (zaE hl p3),p4.mono c.ff⟩
   | obj p=>
    obtain⟨Aj,tj,nj,fj⟩:=p2
    obtain⟨m1,m2⟩:=mv j w p Aj hij q p1 tj
    exact⟨Aj,m1,nj,fun a ha=>⟨(m2 a ha).trans (fj a ha).1,(fj a ha).2⟩⟩
   | bt ds=>obtain⟨l,vs,e,p3,p4⟩:=p2;exact⟨l,vs,e,p3,p4.mono c.ff⟩
 ·rw[List.getElem?_set] at q1 q3
  by_cases hia:i=a
  ·subst hia
   rw[if_pos rfl] at q1
   split at q1 <;> cases q1
  ·rw[if_neg hia] at q1
   by_cases hib:i=b
   ·subst hib
    rw[if_pos rfl] at q3
    split at q3
    ·cases q3;cases q4
    ·cases q3
   ·rw[if_neg hib] at q3
    exact s.ap a b l2 es e' hab q1 q2 q3 q4
 ·have key:∀ (j:Nat) (e:Ent) (w:V),i ≠ j->δ[j]? = some (some e)->σ[j]? = some (some w)->Occ K F' H' w e ad->Occ K F' H' v (.obj o') ad->False:=fun j e w hij z1 z2 z3 z4=>by
   have z5:=bk j e w ad hij z1 z2 z3
   obtain⟨u,hu⟩:=s.occ z1 z2 z5
   obtain⟨A2,t2,h2⟩:=z4
   rw[t2.det t'] at h2
   have:=(f' ad h2).2
   rw[zaE (far j e w ad hij z1 z2 z5) hu] at this
   cases this
  rw[List.getElem?_set] at q1 q3
  by_cases hia:i=a
  ·subst hia
   rw[if_pos rfl] at q1
   rw[if_neg hab] at q3
   split at q1
   ·cases q1
    rw[hs] at q2
    cases q2
    exact key b e2 v2 hab q3 q4 q7 q6
   ·cases q1
  ·rw[if_neg hia] at q1
   by_cases hib:i=b
   ·subst hib
    rw[if_pos rfl] at q3
    split at q3
    ·cases q3
     rw[hs] at q4
     cases q4
     exact key a e1 v1 hia q1 q2 q6 q7
    ·cases q3
   ·rw[if_neg hib] at q3
    exact s.ao a b e1 e2 v1 v2 ad hab q1 q2 q3 q4 q5 (bk a e1 v1 ad hia q1 q2 q6) (bk b e2 v2 ad hib q3 q4 q7)
 ·rw[List.getElem?_set] at hp
  by_cases hi0:i=0
  ·subst hi0
   exact s.pn w o hw hi
  ·rw[if_neg hi0] at hp
   exact s.pn w p hw hp
theorem TRs.length:∀ {vs:List V} {os:List OT} {A:List Addr},TRs K F H vs os A->vs.length=os.length
 | _,_,_,.nil=>rfl
 | _,_,_,.cons _ t=>by rw[List.length_cons,List.length_cons,TRs.length t]
theorem TRs.focus:∀ {vs:List V} {os:List OT} {A:List Addr} {k:Nat} {x:OT},TRs K F H vs os A->os[k]? = some x->∃ v A1,vs[k]? = some v/\TR K F H v x A1/\(∀ a ∈ A1,a ∈ A)/\(A.Nodup->A1.Nodup) /\
  ∀ (F' H':Hp) (x':OT) (A1':List Addr),A.Nodup->Same F F'->(∀ a ∈ A,a ∉ A1->H' a=H a)->TR K F' H' v x' A1'->A1'.Nodup->(∀ a ∈ A1',a ∈ A1 \/ a ∉ A)->∃ A',TRs K F' H' vs (os.set k x') A'/\A'.Nodup/\∀ a ∈ A',(a ∈ A/\a ∉ A1) \/ a ∈ A1'
 | _,_,_,k,x,.nil,h=>by simp at h
 | _,_,_,0,x,.cons (A:=A0) (A':=A2) t ts,h=>by
  simp at h
  subst h
  refine⟨_,A0,rfl,t,fun a ha=>List.mem_append_left _ ha,fun n=>(List.nodup_append.mp n).1,fun F' H' x' A1' n sf hh t' n' hd=>?_⟩
  obtain⟨n0,n2,nd⟩:=List.nodup_append.mp n
  refine⟨A1' ++ A2,.cons t' (ts.move sf fun a ha=>hh a (List.mem_append_right _ ha) fun h0=>nd a h0 a ha rfl),List.nodup_append.mpr ⟨n',n2,fun a ha b hb e=>?_⟩,fun a ha=>?_⟩
  ·subst e
   rcases hd a ha with h | h
   ·exact nd a h a hb rfl
   ·exact h (List.mem_append_right _ hb)
  ·rcases List.mem_append.mp ha with h | h
   ·exact .inr h
   ·exact .inl ⟨List.mem_append_right _ h,fun h0=>nd a h0 a h rfl⟩
 | _,_,_,k+1,x,.cons (A:=A0) (A':=A2) t ts,h=>by
  obtain⟨v,A1,h1,h2,h3,h3n,h4⟩:=TRs.focus (k:=k) (x:=x) ts (by simpa using h)
  refine⟨v,A1,by simpa using h1,h2,fun a ha=>List.mem_append_right _ (h3 a ha),fun n=>h3n (List.nodup_append.mp n).2.1,fun F' H' x' A1' n sf hh t' n' hd=>?_⟩
  obtain⟨n0,n2,nd⟩:=List.nodup_append.mp n
  obtain⟨A',m1,m2,m3⟩:=h4 F' H' x' A1' n2 sf (fun a ha hn=>hh a (List.mem_append_right _ ha) hn) t' n' fun a ha=>(hd a ha).imp id fun z q=>z (List.mem_append_right _ q)
  refine⟨A0 ++ A',.cons (t.move sf fun a ha=>hh a (List.mem_append_left _ ha) fun z=>nd a ha a (h3 a z) rfl) m1,List.nodup_append.mpr ⟨n0,m2,fun a ha b hb e=>?_⟩,fun a ha=>?_⟩
  ·subst e
   rcases m3 a hb with h | h
   ·exact nd a ha a h.1 rfl
   ·rcases hd a h with h | h
    ·exact nd a ha a (h3 a h) rfl
    ·exact h (List.mem_append_left _ ha)
  ·rcases List.mem_append.mp ha with h | h
   ·exact .inl ⟨List.mem_append_left _ h,fun z=>nd a h a (h3 a z) rfl⟩
   ·exact(m3 a h).imp (fun z=>⟨List.mem_append_right _ z.1,z.2⟩) id
theorem TRs.put{y:V}{x:OT}{A1:List Addr}(ty:TR K F H y x A1):∀ {vs:List V} {os:List OT} {A:List Addr} {k:Nat},TRs K F H vs os A->k<os.length->A.Nodup->A1.Nodup->(∀ a ∈ A1,a ∉ A)->∃ A',TRs K F H (vs.set k y) (os.set k x) A'/\A'.Nodup/\∀ a ∈ A',a ∈ A \/ a ∈ A1
 | _,_,_,k,.nil,h,_,_,_=>by simp at h
 | _,_,_,0,.cons (A:=A0) (A':=A2) t ts,_,n,n1,hd=>by
  obtain⟨n0,n2,nd⟩:=List.nodup_append.mp n
  refine⟨A1 ++ A2,.cons ty ts,List.nodup_append.mpr ⟨n1,n2,fun a ha b hb e=>?_⟩,fun a ha=>?_⟩
  ·subst e;exact hd a ha (List.mem_append_right _ hb)
  ·exact(List.mem_append.mp ha).elim .inr fun z=>.inl (List.mem_append_right _ z)
 | _,_,_,k+1,.cons (A:=A0) (A':=A2) t ts,h,n,n1,hd=>by
  obtain⟨n0,n2,nd⟩:=List.nodup_append.mp n
  obtain⟨A',m1,m2,m3⟩:=TRs.put ty (k:=k) ts (by simpa using h) n2 n1 fun a ha z=>hd a ha (List.mem_append_right _ z)
  refine⟨A0 ++ A',.cons t m1,List.nodup_append.mpr ⟨n0,m2,fun a ha b hb e=>?_⟩,fun a ha=>?_⟩
  ·subst e
   rcases m3 a hb with z | z
   ·exact nd a ha a z rfl
   ·exact hd a z (List.mem_append_left _ ha)
  ·rcases List.mem_append.mp ha with z | z
   ·exact .inl (List.mem_append_left _ z)
   ·exact(m3 a z).imp (List.mem_append_right _) id
theorem TRs.add{y:V}{x:OT}{A1:List Addr}(ty:TR K F H y x A1):∀ {vs:List V} {os:List OT} {A:List Addr},TRs K F H vs os A->∃ A',TRs K F H (vs ++ [y]) (os ++ [x]) A'/\A'=A ++ A1
 | _,_,_,.nil=>⟨A1,by simpa using TRs.cons ty .nil,by simp⟩
 | _,_,_,.cons (A:=A0) t ts=>by
  obtain⟨A',m1,m2⟩:=TRs.add ty ts
  exact⟨A0 ++ A',.cons t m1,by rw[m2,List.append_assoc]⟩
theorem zcW:∀ {ns:List Str} {vs:List V} {k:Nat} {f:Str} {v:V},ns.Nodup->ns[k]? = some f->vs[k]? = some v->(ns.zip vs).lookup f=some v
 | [],_,_,_,_,_,h,_=>by simp at h
 | _ :: _,[],_,_,_,_,_,h=>by simp at h
 | n :: ns,w :: vs,0,f,v,_,h1,h2=>by
  simp at h1 h2
  subst h1;subst h2
  simp[List.lookup]
 | n :: ns,w :: vs,k+1,f,v,nd,h1,h2=>by
  have h1':ns[k]? = some f:=by simpa using h1
  have hne:(f == n)=false:=by
   rw[beq_eq_false_iff_ne]
   intro e
   subst e
   exact(List.nodup_cons.mp nd).1 (List.mem_of_getElem? h1')
  rw[List.zip_cons_cons,List.lookup,hne]
  exact zcW (List.nodup_cons.mp nd).2 h1' (by simpa using h2)
theorem zef:∀ {ns:List Str} {vs:List V} {f:Str},f ∉ ns->(ns.zip vs).lookup f=none
 | [],_,_,_=>rfl
 | _ :: _,[],_,_=>rfl
 | n :: ns,w :: vs,f,h=>by
  have hne:(f == n)=false:=by
   rw[beq_eq_false_iff_ne];intro e;exact h (by simp[e])
  rw[List.zip_cons_cons,List.lookup,hne]
  exact zef fun z=>h (List.mem_cons_of_mem _ z)
theorem zgU:∀ {ns:List Str} {vs:List V} {k:Nat} {f:Str} {y:V},ns.Nodup->ns[k]? = some f->ns.length=vs.length->zei f y (ns.zip vs)=ns.zip (vs.set k y)
 | [],_,_,_,_,_,h,_=>by simp at h
 | _ :: _,[],_,_,_,_,_,h=>by simp at h
 | n :: ns,w :: vs,0,f,y,_,h,_=>by
  simp at h
  subst h
  simp[zei]
 | n :: ns,w :: vs,k+1,f,y,nd,h,hl=>by
  have h':ns[k]? = some f:=by simpa using h
  have hne:¬ n=f:=fun e=>by subst e;exact(List.nodup_cons.mp nd).1 (List.mem_of_getElem? h')
  rw[List.zip_cons_cons,zei,if_neg hne,zgU (List.nodup_cons.mp nd).2 h' (by simpa using hl)]
  rfl
theorem putF_new{ns:List Str}{vs:List V}{f:Str}{y:V}(h:f ∉ ns)(hl:ns.length=vs.length):zei f y (ns.zip vs)=(ns ++ [f]).zip (vs ++ [y]):=by
 induction ns generalizing vs with
 | nil=>
  cases vs with
  | nil=>rfl
  | cons w vs=>simp at hl
 | cons n ns ih=>
  cases vs with
  | nil=>simp at hl
  | cons w vs=>
   have hne:¬ n=f:=fun e=>h (by simp[e])
   rw[List.zip_cons_cons,zei,if_neg hne,ih (fun z=>h (List.mem_cons_of_mem _ z)) (by simpa using hl)]
   rfl
noncomputable def toO:Ent->Option OT
 | .val d=>some (.val d)
 | .own ds=>some (.lst ds)
 | .obj o=>some o
 | _=>none
theorem RepR.toO{e:Ent}{x:OT}(r:RepR K H0 F H v e)(q:toO e=some x):∃ A,TR K F H v x A/\A.Nodup/\∀ a ∈ A,F a=none/\H0 a=none:=by
 cases e with
 | val d=>cases q;exact⟨[],.val r,.nil,fun a h=>by cases h⟩
 | own ds=>cases q;obtain⟨l,vs,e,h0,h1,rs,h2⟩:=r;subst e;exact⟨[l],.lst h1 rs,by simp,fun a h=>by simp at h;subst h;exact⟨h2,h0⟩⟩
 | obj o=>cases q;exact r.2
 | _=>cases q
end
noncomputable def isC(c:Str)(ns:List Str):OT->Option (List OT)
 | .ins c' ns' l=>gif (c'=c/\ns'=ns) (some l)
 | _=>none
theorem zdq{c:Str}{ns:List Str}{l:List OT}:isC c ns (.ins c ns l)=some l:=zdB ⟨rfl,rfl⟩
theorem zdr{c:Str}{ns:List Str}{o:OT}{l:List OT}(h:isC c ns o=some l):o=.ins c ns l:=by
 cases o with
 | ins c' ns' l'=>
  obtain⟨⟨h1,h2⟩,h3⟩:=zaX h
  cases h3
  rw[h1,h2]
 | _=>cases h
noncomputable def oAt(i:Nat):En->Option OT:=fun δ=>match δ[i]? with
 | some (some (.obj o))=>some o
 | _=>none
theorem zas{i:Nat}{δ:En}{o:OT}(h:oAt i δ=some o):δ[i]? = some (some (.obj o)):=by
 unfold oAt at h
 split at h
 ·rename_i o' e;cases h;exact e
 ·cases h
structure ClsF(K:PySem.W.Frag)(c:Str)(ns:List Str):Prop where
 h:∀ C,zbK K c C->Cls K C/\∀ f ∈ ns,NoAttr K C f
theorem zcg{K:PySem.W.Frag}{c:Str}{C C':Addr}(h:zbK K c C)(h':zbK K c C'):C=C':=by
 have:=h.symm.trans h'
 simp at this
 exact this
section
variable {X:Cx}{e:Expr}{pos pos' p:Pos}{fe:FE}{x f c:Str}{i k:Nat}{ns nsF:List Str}
end
section
variable {K:PySem.W.Frag}{B:Bd}{F H F1 H1 F' H' H0:Hp}{σ:Sg}{δ:En}{v w:V}{A A' A1 A1':List Addr}{a dx C:Addr}{i k:Nat}{o x' x1:OT}{c:Str}{ns ns':List Str}{vs vs':List V}{l l':List OT}
theorem RS.fld(s:RS K B F H σ δ)(x:Ex F H F1 H1)(hi:δ[i]? = some (some (.obj (.ins c ns l))))(hs:σ[i]? = some (some (.ref a)))(hcl:zbK K c C)(e1:H a=some (.ins C dx (ns.zip vs)))(e2:H dx=some (.own a))(hl:ns.length=vs.length)(ts:TRs K F H vs l A)(n:(a :: dx :: A).Nodup)
  (hl':ns'.length=vs'.length) (ts':TRs K F1 H1 vs' l' A') (n':A'.Nodup) (hA:∀ b ∈ A',b ∈ A \/ (F1 b=none/\H b=none)) :
  RS K B F1 (upd H1 a (.ins C dx (ns'.zip vs'))) σ (δ.set i (some (.obj (.ins c ns' l'))))/\FX B F F1:=by
 have t:TR K F H (.ref a) (.ins c ns l) (a :: dx :: A):=.ins hcl e1 e2 hl ts
 obtain⟨A0,t0,n0,f0⟩:=s.at hi hs
 cases t0.det t
 have fA:∀ b ∈ a :: dx :: A,F1 b=none:=fun b hb=>((t.ext x).2 b hb).trans (f0 b hb).1
 have hadx:a ≠ dx:=fun e=>(List.nodup_cons.mp n).1 (by rw[e];exact List.mem_cons_self)
 have haA:a ∉ A:=fun e=>(List.nodup_cons.mp n).1 (List.mem_cons_of_mem _ e)
 have hdA:dx ∉ A:=(List.nodup_cons.mp (List.nodup_cons.mp n).2).1
 have ha':a ∉ A':=fun e=>(hA a e).elim haA fun z=>by rw[e1] at z;cases z.2
 have hd':dx ∉ A':=fun e=>(hA dx e).elim hdA fun z=>by rw[e2] at z;cases z.2
 refine s.chg hi hs t ⟨x.ff,fun b u h=>?_,fun b u h=>?_,fun b u h ht=>?_⟩ (.ins hcl zae (by rw[zah (Ne.symm hadx)];exact x.hh _ _ e2) hl' (ts'.move (Same.refl _) fun b hb=>zah fun e=>ha' (e ▸ hb))) ?_ fun b hb=>?_
 ·rw[zah fun e=>by subst e;rw[fA b List.mem_cons_self] at h;cases h]
  exact x.fh _ _ h
 ·obtain⟨h1,h2⟩:=zao h
  rw[zah fun e=>h1 (by rw[e];exact List.mem_cons_self)]
  exact x.hh _ _ h2
 ·exact x.nw _ _ (zao h).2 ht
 ·refine List.nodup_cons.mpr ⟨fun h=>?_,List.nodup_cons.mpr ⟨hd',n'⟩⟩
  rcases List.mem_cons.mp h with e | e
  ·exact hadx e
  ·exact ha' e
 ·rcases List.mem_cons.mp hb with e | hb
  ·subst e;exact⟨fA b List.mem_cons_self,zaZ List.mem_cons_self⟩
  ·rcases List.mem_cons.mp hb with e | hb
   ·subst e;exact⟨fA b (List.mem_cons_of_mem _ List.mem_cons_self),zaZ (List.mem_cons_of_mem _ List.mem_cons_self)⟩
   ·rcases hA b hb with z | z
    ·exact⟨fA b (List.mem_cons_of_mem _ (List.mem_cons_of_mem _ z)),zaZ (List.mem_cons_of_mem _ (List.mem_cons_of_mem _ z))⟩
    ·refine⟨z.1,?_⟩
     unfold zda
     split
     ·rfl
     ·exact z.2
theorem RS.sub(s:RS K B F H σ δ)(hi:δ[i]? = some (some (.obj (.ins c ns l))))(hs:σ[i]? = some (some (.ref a)))(hcl:zbK K c C)(e1:H a=some (.ins C dx (ns.zip vs)))(e2:H dx=some (.own a))(hl:ns.length=vs.length)(ts:TRs K F H vs l A)
  (hk:l[k]? = some x1) (hv:vs[k]? = some w) (t1:TR K F H w x1 A1) (ch:Chg H F F' H' A1) (t':TR K F' H' w x' A1') (n':A1'.Nodup) (f':∀ b ∈ A1',F' b=none/\zda H A1 b=none) :
  RS K B F' H' σ (δ.set i (some (.obj (.ins c ns (l.set k x')))))/\FX B F F':=by
 have t:TR K F H (.ref a) (.ins c ns l) (a :: dx :: A):=.ins hcl e1 e2 hl ts
 obtain⟨A0,t0,n,f0⟩:=s.at hi hs
 cases t0.det t
 obtain⟨w',B1,hw,tb,sb,_,go⟩:=ts.focus hk
 rw[hv] at hw
 cases hw
 cases tb.det t1
 have haA:a ∉ A:=fun e=>(List.nodup_cons.mp n).1 (List.mem_cons_of_mem _ e)
 have hadx:a ≠ dx:=fun e=>(List.nodup_cons.mp n).1 (by rw[e];exact List.mem_cons_self)
 have hdA:dx ∉ A:=(List.nodup_cons.mp (List.nodup_cons.mp n).2).1
 have nA:A.Nodup:=(List.nodup_cons.mp (List.nodup_cons.mp n).2).2
 have stay:∀ b u,b ∉ A1->H b=some u->H' b=some u:=fun b u hb hu=>ch.st _ _ (zaE hb hu)
 have new:∀ b ∈ A1',∀ u,b ∉ A1->H b ≠ some u:=fun b hb u h1 h2=>by have:=(f' b hb).2;rw[zaE h1 h2] at this;cases this
 obtain⟨A2,m1,m2,m3⟩:=go F' H' x' A1' nA ch.ff (fun b hb hn=>by
  obtain⟨u,hu,_⟩:=ts.lies b hb
  rw[stay b u hn hu,hu]) t' n' fun b hb=>by
   by_cases h1:b ∈ A1
   ·exact .inl h1
   ·exact .inr fun h2=>by obtain⟨u,hu,_⟩:=ts.lies b h2;exact new b hb u h1 hu
 have ha1:a ∉ A1:=fun e=>haA (sb a e)
 have hd1:dx ∉ A1:=fun e=>hdA (sb dx e)
 have ha2:a ∉ A2:=fun e=>(m3 a e).elim (fun z=>haA z.1) fun z=>new a z _ ha1 e1
 have hd2:dx ∉ A2:=fun e=>(m3 dx e).elim (fun z=>hdA z.1) fun z=>new dx z _ hd1 e2
 refine s.chg hi hs t ⟨ch.ff,ch.fh,fun b u h=>?_,fun b u h ht=>?_⟩ (.ins hcl (stay _ _ ha1 e1) (stay _ _ hd1 e2) hl m1) ?_ fun b hb=>?_
 ·obtain⟨h1,h2⟩:=zao h
  exact stay b u (fun e=>h1 (List.mem_cons_of_mem _ (List.mem_cons_of_mem _ (sb b e)))) h2
 ·obtain⟨h1,h2⟩:=zao h
  exact ch.nw b u (zaE (fun e=>h1 (List.mem_cons_of_mem _ (List.mem_cons_of_mem _ (sb b e)))) h2) ht
 ·refine List.nodup_cons.mpr ⟨fun h=>?_,List.nodup_cons.mpr ⟨hd2,m2⟩⟩
  rcases List.mem_cons.mp h with e | e
  ·exact hadx e
  ·exact ha2 e
 ·have old:∀ b u,b ∈ a :: dx :: A->b ∉ A1->H b=some u->isT u=false->F' b=none/\zda H (a :: dx :: A) b=none:=fun b u h1 h2 h3 h4=>⟨(ch.nw b u (zaE h2 h3) h4).trans (f0 b h1).1,zaZ h1⟩
  rcases List.mem_cons.mp hb with e | hb
  ·subst e;exact old b _ List.mem_cons_self ha1 e1 rfl
  ·rcases List.mem_cons.mp hb with e | hb
   ·subst e;exact old b _ (List.mem_cons_of_mem _ List.mem_cons_self) hd1 e2 rfl
   ·rcases m3 b hb with z | z
    ·obtain⟨u,hu,hu'⟩:=ts.lies b z.1
     exact old b u (List.mem_cons_of_mem _ (List.mem_cons_of_mem _ z.1)) z.2 hu hu'
    ·refine⟨(f' b z).1,?_⟩
     by_cases h1:b ∈ A1
     ·exact zaZ (List.mem_cons_of_mem _ (List.mem_cons_of_mem _ (sb b h1)))
     ·have:=(f' b z).2
      rw[zb2 h1] at this
      unfold zda
      split
      ·rfl
      ·exact this
end
noncomputable def fFSet(i:Nat)(c:Str)(ns:List Str)(k:Nat)(fe:FE):FS:=fun δ=>((fe δ).bind toO).bind fun y=>((oAt i δ).bind (isC c ns)).bind fun l=>if k<l.length then some (.nx (δ.set i (some (.obj (.ins c ns (l.set k y)))))) else none
noncomputable def zg5(i:Nat)(c:Str)(ns:List Str)(f:Str)(fe:FE):FS:=fun δ=>((fe δ).bind toO).bind fun y=>((oAt i δ).bind (isC c ns)).bind fun l=>some (.nx (δ.set i (some (.obj (.ins c (ns ++ [f]) (l ++ [y]))))))
noncomputable def lOf:OT->Option (List D)
 | .lst ds=>some ds
 | _=>none
section
variable {X:Cx}{e:Expr}{pos pos' p:Pos}{fe:FE}{x f c:Str}{i k:Nat}{ns nsF:List Str}
theorem sFSet(i k:Nat)(hc:ClsF X.K c nsF)(he:VE X e fe)(hf:f ∈ nsF:=by decide +kernel)(hk:ns[k]? = some f:=by rfl)(hn:ns.Nodup:=by decide +kernel)(hfew:ns.length<1000:=by decide)(hN:X.N[i]? = some x:=by rfl)(hv:Vis X.env.scope x:=by first | exact Or.inl rfl | exact Or.inr (Or.inl rfl) | exact Or.inr (Or.inr rfl))(hd:(x == ("__debug__" : Str))=false:=by decide)
  (hcd:(x == ("__classdict__" : Str))=false:=by decide) (hs:swapsWith e (some (.Attribute (.Name x p) f pos')) pos.line X.env=pure false:=by rfl):VS X (.Assign [.Attribute (.Name x p) f pos'] e pos) (fFSet i c ns k fe):=by
 obtain⟨t,w,m⟩:=he.h
 refine⟨_,⟨ps_fld (wv i hN hv hd hcd).h w.h hs⟩,fun B F H σ δ out DD s q kk=>?_⟩
 obtain⟨y,q1,q⟩:=bind_some q
 obtain⟨r,q1,q2⟩:=bind_some q1
 obtain⟨l,q3,q⟩:=bind_some q
 obtain⟨o,q3,q4⟩:=bind_some q3
 split at q
 ·rename_i hlt
  cases q
  cases zdr q4
  refine m B F H σ δ r _ s q1 fun yv F1 H1 x1 z=>?_
  obtain⟨v,h1,A,t,n,h⟩:=s.ent i _ (zas q3)
  cases t with
  | ins hcl e1 e2 hl ts=>
   obtain⟨g1,g2⟩:=hc.h _ hcl
   obtain⟨A1,ty,n1,f1⟩:=z.toO q2
   have nA:=(List.nodup_cons.mp (List.nodup_cons.mp n).2).2
   obtain⟨A',m1,m2,m3⟩:=TRs.put ty (ts.move x1.ff fun b hb=>let⟨u,hu,_⟩:=ts.lies b hb;(x1.hh _ _ hu).trans hu.symm) hlt nA n1 fun b hb hb'=>by
    obtain⟨u,hu,_⟩:=ts.lies b hb'
    rw[(f1 b hb).2] at hu
    cases hu
   obtain⟨r1,r2⟩:=s.fld (ns':=ns) x1 (zas q3) h1 hcl e1 e2 hl ts n (by rw[List.length_set];exact hl) m1 m2 fun b hb=>(m3 b hb).imp id fun z=>f1 b z
   refine⟨_,h1,_,_,_,_,rfl,x1.hh _ _ e1,g1,g2 f hf,?_,?_⟩
   ·rw[List.length_zip];lia
   ·rw[zgU hn hk hl]
    exact kk σ F1 _ r1 r2
 ·cases q
theorem sFNew(i:Nat)(hc:ClsF X.K c nsF)(he:VE X e fe)(hf:f ∈ nsF:=by decide +kernel)(hn:f ∉ ns:=by decide +kernel)(hfew:ns.length<1000:=by decide)(hN:X.N[i]? = some x:=by rfl)(hv:Vis X.env.scope x:=by first | exact Or.inl rfl | exact Or.inr (Or.inl rfl) | exact Or.inr (Or.inr rfl))(hd:(x == ("__debug__" : Str))=false:=by decide)
  (hcd:(x == ("__classdict__" : Str))=false:=by decide) (hs:swapsWith e (some (.Attribute (.Name x p) f pos')) pos.line X.env=pure false:=by rfl):VS X (.Assign [.Attribute (.Name x p) f pos'] e pos) (zg5 i c ns f fe):=by
 obtain⟨t,w,m⟩:=he.h
 refine⟨_,⟨ps_fld (wv i hN hv hd hcd).h w.h hs⟩,fun B F H σ δ out DD s q kk=>?_⟩
 obtain⟨y,q1,q⟩:=bind_some q
 obtain⟨r,q1,q2⟩:=bind_some q1
 obtain⟨l,q3,q⟩:=bind_some q
 obtain⟨o,q3,q4⟩:=bind_some q3
 cases q
 cases zdr q4
 refine m B F H σ δ r _ s q1 fun yv F1 H1 x1 z=>?_
 obtain⟨v,h1,A,t,n,h⟩:=s.ent i _ (zas q3)
 cases t with
 | ins hcl e1 e2 hl ts=>
  obtain⟨g1,g2⟩:=hc.h _ hcl
  obtain⟨A1,ty,n1,f1⟩:=z.toO q2
  have nA:=(List.nodup_cons.mp (List.nodup_cons.mp n).2).2
  obtain⟨A',m1,m2⟩:=TRs.add ty (ts.move x1.ff fun b hb=>let⟨u,hu,_⟩:=ts.lies b hb;(x1.hh _ _ hu).trans hu.symm)
  subst m2
  obtain⟨r1,r2⟩:=s.fld (ns':=ns ++ [f]) x1 (zas q3) h1 hcl e1 e2 hl ts n (by simp[hl]) m1 (List.nodup_append.mpr ⟨nA,n1,fun b hb b' hb' e=>by
   subst e
   obtain⟨u,hu,_⟩:=ts.lies b hb
   rw[(f1 b hb').2] at hu
   cases hu⟩) fun b hb=>(List.mem_append.mp hb).imp id fun z=>f1 b z
  refine⟨_,h1,_,_,_,_,rfl,x1.hh _ _ e1,g1,g2 f hf,?_,?_⟩
  ·rw[List.length_zip];lia
  ·rw[putF_new hn hl]
   exact kk σ F1 _ r1 r2
end
end L3

namespace L3
open PySem PySem.Spec PyProof.Rows L2
noncomputable abbrev FXE:=En->Option (D × En)
noncomputable abbrev FXT:=En->Option (Bool × En)
noncomputable abbrev FXA:=En->Option (List D × En)
noncomputable abbrev GM:=OT->List D->Option (D × OT)
noncomputable def SemX(K:PySem.W.Frag)(t:TE)(f:FXE):Prop:=∀ (B:Bd) (F H:Hp) (σ:Sg) (δ:En) (d:D) (δ':En) (Q:VK),RS K B F H σ δ->f δ=some (d,δ')->(∀ v F' H',RS K B F' H' σ δ'->FX B F F'->Rep F' v d->Q v H')->t σ H Q
noncomputable def SemXT(K:PySem.W.Frag)(t:TT)(f:FXT):Prop:=∀ (B:Bd) (F H:Hp) (σ:Sg) (δ:En) (b:Bool) (δ':En) (Q:Bool->Hp->Prop),RS K B F H σ δ->f δ=some (b,δ')->(∀ F' H',RS K B F' H' σ δ'->FX B F F'->Q b H')->t σ H Q
noncomputable def SemXA(K:PySem.W.Frag)(t:TA)(f:FXA):Prop:=∀ (B:Bd) (F H:Hp) (σ:Sg) (δ:En) (ds:List D) (δ':En) (Q:List V->Hp->Prop),RS K B F H σ δ->f δ=some (ds,δ')->(∀ vs F' H',RS K B F' H' σ δ'->FX B F F'->Reps F' vs ds->Q vs H')->t σ H Q
structure VX(X:Cx)(e:Expr)(f:FXE):Prop where
 h:∃ t,WE X e t/\SemX X.K t f
structure VXT(X:Cx)(e:Expr)(f:FXT):Prop where
 h:∃ t,WT X e t/\SemXT X.K t f
structure VXA(X:Cx)(es:List Expr)(f:FXA):Prop where
 h:∃ t,WA X es t/\SemXA X.K t f
noncomputable def xP(fe:FE):FXE:=fun δ=>((fe δ).bind asV).map fun d=>(d,δ)
noncomputable def zhs:FXA:=fun δ=>some ([],δ)
noncomputable def zcu(fe:FXE)(fa:FXA):FXA:=fun δ=>(fe δ).bind fun p=>(fa p.2).map fun q=>(p.1 :: q.1,q.2)
noncomputable def xC(ks:List Kd)(g:List D->Option Ent)(fa:FXA):FXE:=fun δ=>(fa δ).bind fun p=>(((zce ks (p.1.map .val)).bind g).bind asV).map fun d=>(d,p.2)
noncomputable def x2(g:Ent->Ent->Option Ent)(fa fb:FXE):FXE:=fun δ=>(fa δ).bind fun p=>(fb p.2).bind fun q=>((g (.val p.1) (.val q.1)).bind asV).map fun d=>(d,q.2)
noncomputable def bOfD:D->Option Bool
 | .bl b=>some b
 | _=>none
section
variable {X:Cx}{a b c e:Expr}{es rest:List Expr}{pos p:Pos}{fa fb:FXE}{fs:FXA}{ft:FXT}{fe:FE}{x:Str}
theorem zfd{d:D}{b:Bool}(h:bOfD d=some b):d=.bl b:=by cases d <;> first | (cases h;rfl) | cases h
theorem zeR(he:VE X e fe):VX X e (xP fe):=by
 obtain⟨t,w,m⟩:=he.h
 refine⟨t,w,fun B F H σ δ d δ' Q s q k=>?_⟩
 obtain⟨d',q1,q⟩:=map_some q
 cases q
 obtain⟨r,q1,q2⟩:=bind_some q1
 refine m B F H σ δ r _ s q1 fun v F1 H1 x1 z=>?_
 obtain⟨F2,x2,_,r2⟩:=RepR.frz x1 (Same.refl _) z q2
 exact k v F2 H1 (s.ext x2) (.of x2 s.bh) r2
theorem xnil:VXA X [] zhs:=⟨_,zg4,fun B F H σ δ ds δ' Q s q k=>by cases q;exact k [] F H s .refl .nil⟩
theorem zgl(ha:VX X e fa)(hr:VXA X es fs)(h:zap e=true:=by rfl):VXA X (e :: es) (zcu fa fs):=by
 obtain⟨ta,wa,sa⟩:=ha.h
 obtain⟨tb,wb,sb⟩:=hr.h
 refine⟨_,wac wa wb h,fun B F H σ δ ds δ' Q s q k=>?_⟩
 obtain⟨p1,q1,q⟩:=bind_some q
 obtain⟨p2,q2,q⟩:=map_some q
 cases q
 refine sa B F H σ δ p1.1 p1.2 _ s q1 fun v F1 H1 s1 y1 r1=>?_
 exact sb B F1 H1 σ p1.2 p2.1 p2.2 _ s1 q2 fun vs F2 H2 s2 y2 r2=>k _ F2 H2 s2 (y1.trans y2) (.cons (Rep.mono y2.ff r1) r2)
theorem zfg{K:PySem.W.Frag}{H0 F H:Hp}:∀ {vs:List V} {ds:List D},Reps F vs ds->RepRs K H0 F H vs (ds.map .val)
 | _,_,.nil=>.nil
 | _,_,.cons h t=>.cons h (zfg t)
theorem xcl{CX:CXT}{k j:Nat}{f:Addr}{fd:FuncData}{ps:List Str}{st:Stmt}{E:XK}{ks:List Kd}{g:List D->Option Ent}(F:FnOk X.prog X.w X.K X.mg X.base CX k f fd ps (spD X.K ks g))(D:Def X.K X.mg x st ps f fd)(hr:Room j X.A)(hg:Gl X x)(hx:zbL CX X E)
  (ha:VXA X (e :: es) fs) (hjk:k<=j:=by decide) (hdb:(x == ("__debug__" : Str))=false:=by decide) (h1:zap e=true:=by rfl) (h2:es.all zap=true:=by rfl) :
  VX X (.Call (.Name x p) (e :: es) [] pos) (xC ks g fs):=by
 obtain⟨t,w,m⟩:=ha.h
 refine⟨_,wcl F D hr hg hx w hjk hdb h1 h2,fun B F H σ δ d δ' Q s q k=>?_⟩
 obtain⟨p1,q1,q⟩:=bind_some q
 obtain⟨d',q2,q⟩:=map_some q
 cases q
 obtain⟨r,q2,q3⟩:=bind_some q2
 obtain⟨ds,q2,q4⟩:=bind_some q2
 refine m B F H σ δ p1.1 p1.2 _ s q1 fun vs F1 H1 s1 y1 r1=>?_
 obtain⟨F2,x2,_,a2⟩:=RepRs.args (K:=X.K) (Ex.refl s1.fh) (Same.refl _) (zfg r1) q2
 rw[List.append_nil]
 refine⟨F2,ds,r,x2.fh,a2,q4,fun v F' H' x3 r3=>?_⟩
 obtain⟨F4,x4,_,r4⟩:=RepR.frz x3 (Same.refl _) r3 q3
 exact k v F4 H' ((s1.ext x2).ext x4) (y1.trans ((FX.of x2 s1.bh).trans (.of x4 (s1.ext x2).bh))) r4
theorem SemX.op{K:PySem.W.Frag}{r:R2}{ta tb:TE}{g:Ent->Ent->Option Ent}(hr:zgW K r g)(ha:SemX K ta fa)(hb:SemX K tb fb):SemX K (tOp r ta tb) (x2 g fa fb):=fun B F H σ δ d δ' Q s q k=>by
 obtain⟨p1,q1,q⟩:=bind_some q
 obtain⟨p2,q2,q⟩:=bind_some q
 obtain⟨d',q3,q⟩:=map_some q
 cases q
 obtain⟨res,q3,q4⟩:=bind_some q3
 refine ha B F H σ δ p1.1 p1.2 _ s q1 fun v F1 H1 s1 y1 r1=>?_
 refine hb B F1 H1 σ p1.2 p2.1 p2.2 _ s1 q2 fun w F2 H2 s2 y2 r2=>?_
 refine hr H2 F2 H2 v w (.val p1.1) (.val p2.1) res Q s2.fh (Same.refl _) (Rep.mono y2.ff r1) r2 q3 fun v' F' H' x3 r3=>?_
 obtain⟨F4,x4,_,r4⟩:=RepR.frz x3 (Same.refl _) r3 q4
 exact k v' F4 H' (s2.ext x4) ((y1.trans y2).trans (.of x4 s2.bh)) r4
theorem xcmp{op:CmpOp}{g:Ent->Ent->Option Ent}(ho:OpD X (compareOp op) g)(ha:VX X a fa)(hb:VX X b fb)(hm:behindInMarks op b=false):VX X (.Compare a [op] [b] pos) (x2 g fa fb):=
 let⟨_,wa,sa⟩:=ha.h;let⟨_,wb,sb⟩:=hb.h;let⟨_,h1,h2⟩:=ho;⟨_,wcmp h1 wa wb hm,.op h2 sa sb⟩
end
noncomputable def zg8(i:Nat)(fx:FXE):FS:=fun δ=>(fx δ).map fun p=>.nx (p.2.set i (some (.val p.1)))
noncomputable def fXRet(fx:FXE):FS:=fun δ=>(fx δ).map fun p=>.rt (.val p.1) p.2
section
variable {X:Cx}{e c:Expr}{pos pos' p:Pos}{fx:FXE}{ft:FXT}{fe:FE}{x:Str}{body els:List Stmt}{f g:FS}
theorem sXSet{i:Nat}(hN:X.N.Nodup)(hi:X.N[i]? = some x)(hx:Loc X.env.scope x)(h:VX X e fx)(hs:swapsWith e (some (.Name x pos')) pos.line X.env=pure false:=by rfl)(hf:X.fn x=true \/ X.env.scope.names.lookup x=some .local:=by first | exact .inl rfl | exact .inr rfl | assumption) :
  VS X (.Assign [.Name x pos'] e pos) (zg8 i fx):=by
 obtain⟨t,w,m⟩:=h.h
 refine⟨_,sset hN hi hx w hs hf,fun B F H σ δ out DD s q k=>?_⟩
 obtain⟨p1,q1,q⟩:=map_some q
 cases q
 exact m B F H σ δ p1.1 p1.2 _ s q1 fun v F1 H1 s1 y1 r1=>k _ F1 H1 (s1.putV i r1) y1
theorem sXRet(h:VX X e fx):VS X (.Return (some e) pos) (fXRet fx):=by
 obtain⟨t,w,m⟩:=h.h
 refine⟨_,sret w,fun B F H σ δ out DD s q k=>?_⟩
 obtain⟨p1,q1,q⟩:=map_some q
 cases q
 exact m B F H σ δ p1.1 p1.2 _ s q1 fun v F1 H1 s1 y1 r1=>k v σ F1 H1 s1 y1 r1
end
noncomputable def spM(K:PySem.W.Frag)(g:GM):Sp:=fun vs H Q _=>∃ v ws F o A ds d o',vs=v :: ws/\Same F H/\TR K F H v o A/\A.Nodup/\(∀ a ∈ A,F a=none)/\Reps F ws ds/\g o ds=some (d,o') /\
 ∀ x F' H' A',Chg H F F' H' A->TR K F' H' v o' A'->A'.Nodup->(∀ a ∈ A',F' a=none/\zda H A a=none)->Rep F' x d->Q x H'
noncomputable def endM:Out->Option (D × OT)
 | .rt (.val d) δ=>(oAt 0 δ).map fun o=>(d,o)
 | .nx δ=>(oAt 0 δ).map fun o=>(.non,o)
 | _=>none
noncomputable def zfM(n m:Nat)(f:FS)(o:OT)(ds:List D):Option (D × OT):=if ds.length=n then (f (some (.obj o) :: (ds.map fun d=>some (.val d)) ++ List.replicate m none)).bind endM else none
section
variable {P:Program}{w:World}{K:PySem.W.Frag}{mg:Str->Option Value}{base:Heap}{x qual:Str}{st:Stmt}{f:Addr}{fd:FuncData}{N ps:List Str}{k n:Nat}{g:GM}
theorem zd4(F:FunA K x qual st f fd)(S:FnScope N ps (zac st))(fb:FS)(hk:ps.length=n+1)(hg:∀ o ds r,g o ds=some r->zfM n (N.length - ps.length) fb o ds=some r)
  (hbody:∀ (cdv:Value) (A:Around) (outer:List Env) (s:Shared) (H:Hp) (E:XK),Room k (A.deeper (envOfC qual (zac st) s.heap.objs.size f cdv))->VSs (cxOf CX0 P w K mg base N qual (zac st) f cdv A outer s H E).nox (zam st) fb) :
  FnOk P w K mg base CX0 (k+1) f fd ps (spM K g):=by
 obtain⟨oc,od,dV,kV,doc,pm,an,cdv,ct,osl,rfl,lk,hcd⟩:=F.ex
 refine fn_of lk hcd S (fun vs H Q E h=>?_) fun A outer s H vs Q E hr h=>?_
 ·obtain⟨v,ws,F,o,A,ds,d,o',rfl,_,_,_,_,rs,q,_⟩:=h
  have:=hg _ _ _ q
  unfold zfM at this
  split at this
  ·rename_i hl;rw[List.length_cons,rs.length,hl,hk]
  ·cases this
 ·obtain⟨v,ws,F,o,A,ds,d,o',rfl,fh,t,nd,fA,rs,q,kk⟩:=h
  obtain⟨tt,wt,m⟩:=(hbody cdv _ outer s H E hr).h
  refine⟨tt,wt.h.nox,?_⟩
  have q2:=hg _ _ _ q
  unfold zfM at q2
  split at q2
  ·rename_i hl
   obtain⟨out,q3,q4⟩:=bind_some q2
   have hws:=rs.length
   have ent:∀ (i:Nat) (e:Ent),(some (Ent.obj o) :: (ds.map fun d=>some (Ent.val d)) ++ List.replicate (N.length - ps.length) none)[i]? = some (some e)->(i=0/\e=.obj o) \/ ∃ j d,i=j+1/\ds[j]? = some d/\e=.val d:=fun i e h=>by
    cases i with
    | zero=>simp at h;exact .inl ⟨rfl,h.symm⟩
    | succ j=>
     rw[List.cons_append,List.getElem?_cons_succ] at h
     by_cases hj:j<(ds.map fun d=>some (Ent.val d)).length
     ·rw[List.getElem?_append_left hj,List.getElem?_map] at h
      cases z:ds[j]? with
      | none=>rw[z] at h;cases h
      | some d=>rw[z] at h;cases h;exact .inr ⟨j,d,rfl,z,rfl⟩
     ·rw[List.getElem?_append_right (by lia),List.getElem?_replicate] at h
      split at h <;> cases h
   have sv:∀ (i:Nat) (y:V),(v :: ws)[i]? = some y->(L2.start N (v :: ws))[i]? = some (some y):=fun i y h=>by
    unfold L2.start
    rw[List.getElem?_append_left (by rw[List.length_map];exact(List.getElem?_eq_some_iff.mp h).1),List.getElem?_map,h]
    rfl
   have s0:RS K ⟨zda H A,some v⟩ F H (L2.start N (v :: ws)) (some (.obj o) :: (ds.map fun d=>some (.val d)) ++ List.replicate (N.length - ps.length) none):=by
    refine⟨fh,fun a u h=>(zao h).2,?_,fun i e h=>?_,fun a b l es e hab h1=>?_,fun a b e1 e2 v1 v2 ad hab q1 q2 q3 q4 q5 q6 q7=>?_,fun w p hw _=>?_⟩
    ·unfold L2.start
     simp only[List.length_append,List.length_map,List.length_replicate,List.length_cons]
     lia
    ·rcases ent i e h with ⟨rfl,rfl⟩ | ⟨j,d,rfl,hd,rfl⟩
     ·exact⟨v,sv 0 v rfl,A,t,nd,fun a ha=>⟨fA a ha,zaZ ha⟩⟩
     ·obtain⟨y,hy,ry⟩:=rs.get hd
      exact⟨y,sv (j+1) y (by simpa using hy),ry⟩
    ·rcases ent a _ h1 with ⟨_,z⟩ | ⟨j,d,_,_,z⟩ <;> cases z
    ·rcases ent a _ q1 with ⟨rfl,rfl⟩ | ⟨j,d,_,_,rfl⟩
     ·rcases ent b _ q3 with ⟨rfl,_⟩ | ⟨j,d,_,_,rfl⟩
      ·exact hab rfl
      ·exact q7
     ·cases q5
    ·cases hw
     exact sv 0 v rfl
   have fin:∀ (δ':En) (σ':Sg) (F' H':Hp) (y:V),RS K ⟨zda H A,some v⟩ F' H' σ' δ'->FX (zda H A) F F'->oAt 0 δ'=some o'->Rep F' y d->Q y H':=fun δ' σ' F' H' y s' y' ho ry=>by
    have h0:=s'.pn v o' rfl (zas ho)
    obtain⟨A',t',n',f'⟩:=s'.at (zas ho) h0
    exact kk y F' H' A' ⟨y'.ff,s'.fh,s'.bh,y'.nw⟩ t' n' f' ry
   refine m ⟨zda H A,some v⟩ F H (L2.start N (v :: ws)) _ out _ s0 q3 ?_
   cases out with
   | nx δ'=>
    obtain⟨o2,h1,h2⟩:=map_some q4
    cases h2
    exact fun σ' F' H' s' y=>fin δ' σ' F' H' .non s' y h1 .non
   | rt r' δ'=>
    cases r' with
    | val d'=>
     obtain⟨o2,h1,h2⟩:=map_some q4
     cases h2
     exact fun y σ' F' H' s' yy z=>fin δ' σ' F' H' y s' yy h1 z
    | _=>cases q4
   | bk δ'=>cases q4
   | ct δ'=>cases q4
  ·cases q2
end
structure MethD(K:PySem.W.Frag)(c:Str)(m:Str)(st:Stmt)(qual:Str)(ps:List Str)(f:Addr)(fd:FuncData):Prop where
 fn:FunA K m qual st f fd
 at_:∀ C,zbK K c C->Meth K C m f
 b:Binds K fd ps []
noncomputable def xM(i:Nat)(c:Str)(ns:List Str)(g:GM)(fa:FA):FXE:=fun δ=>(oAt i δ).bind fun o=>(isC c ns o).bind fun _=>((fa δ).bind zfa).bind fun ds=>(g o ds).map fun p=>(p.1,δ.set i (some (.obj p.2)))
section
variable {X:Cx}{e:Expr}{es:List Expr}{pos pos' p apos:Pos}{fa:FA}{x f m c c2 qual:Str}{ns nsF ns2 nsF2 ps:List Str}{g:GM}{fd:FuncData}{fm:Addr}{st:Stmt}{kk j:Nat}{pl:Sem Bool}
theorem SemM.at{K:PySem.W.Frag}{C:Addr}{t:TA}{E:XK}{i:Nat}(sm:SemA K t fa)(hcl:zbK K c C)(hm:m ∉ ns):SemX K (tMeth C m (spM K g) [] E (zb0 i) t) (xM i c ns g fa):=fun B F H σ δ d δ' Q s q k=>by
 obtain⟨o,q0,q⟩:=bind_some q
 obtain⟨l,q1,q⟩:=bind_some q
 obtain⟨ds,q2,q⟩:=bind_some q
 obtain⟨rs,q2,q3⟩:=bind_some q2
 obtain⟨p1,q4,q⟩:=map_some q
 cases q
 cases zdr q1
 obtain⟨v,h1,A,t0,n0,f0⟩:=s.ent i _ (zas q0)
 cases t0 with
 | ins hcl' e1 e2 hl ts=>
  cases zcg hcl hcl'
  refine⟨_,h1,_,_,_,rfl,e1,zef hm,?_⟩
  refine sm B F H σ δ rs _ s q2 fun vs F1 H1 x1 r1=>?_
  obtain⟨F2,x2,_,r2⟩:=RepRs.frz x1 (Same.refl _) r1 q3
  have s2:=s.ext x2
  have tt:=((TR.ins hcl' e1 e2 hl ts).ext x2)
  rw[List.append_nil]
  refine⟨_,vs,F2,_,_,ds,p1.1,p1.2,rfl,s2.fh,tt.1,n0,fun a ha=>(tt.2 a ha).trans (f0 a ha).1,r2,q4,fun y F' H' A' ch t' n' f' ry=>?_⟩
  obtain⟨z1,z2⟩:=s2.chg (zas q0) h1 tt.1 ch t' n' f'
  exact k y F' H' z1 ((FX.of x2 s.bh).trans z2) ry
theorem semNil{K:PySem.W.Frag}:SemA K zfi zag:=fun B F H σ δ rs Q s q k=>by cases q;exact k [] F H (Ex.refl s.fh) .nil
variable {CX:CXT}{E:XK}
structure ClsD(K:PySem.W.Frag)(mg:Str->Option Value)(c:Str)(nsF:List Str)(C:Addr):Prop where
 at_:zbK K c C
 mg:mg c=some (.ref C)
 cl:Cls K C
 no:∀ f ∈ nsF,NoAttr K C f
theorem ClsD.toF{K:PySem.W.Frag}{mg:Str->Option Value}{C:Addr}(D:ClsD K mg c nsF C):ClsF K c nsF:=⟨fun C' h=>by cases zcg D.at_ h;exact⟨D.cl,D.no⟩⟩
theorem xmeth{C:Addr}(i:Nat)(DC:ClsD X.K X.mg c nsF C)(D:MethD X.K c m st qual ps fm fd)(F:FnOk X.prog X.w X.K X.mg X.base CX kk fm fd ps (spM X.K g))(hr:Room j X.A)(hx:zbL CX X E)(ha:VA X (e :: es) fa)(hm:m ∉ ns:=by decide +kernel)(hjk:kk<=j:=by decide)
  (hN:X.N[i]? = some x:=by rfl) (hv:Vis X.env.scope x:=by first | exact Or.inl rfl | exact Or.inr (Or.inl rfl) | exact Or.inr (Or.inr rfl)) (hd:(x == ("__debug__" : Str))=false:=by decide) (hcd:(x == ("__classdict__" : Str))=false:=by decide)
  (h1:zap e=true:=by rfl) (h2:es.all zap=true:=by rfl)
  (ht:eval (.Call (.Attribute (.Name x p) m apos) (e :: es) [] pos) X.env=(do
   let ov <- eval (.Name x p) X.env
   standAt apos.atName
   let (f,first) <- holding [ov] (getMethod ov m pl)
   callWith pos f first (backTo pos (starEach (e :: es) X.env)) (backToKw pos (keywordEach [] X.env))):=by rfl) :
  VX X (.Call (.Attribute (.Name x p) m apos) (e :: es) [] pos) (xM i c ns g fa):=
 let⟨_,w,sm⟩:=ha.h;⟨_,⟨pe_meth (wv i hN hv hd hcd).h DC.cl (D.at_ _ DC.at_) F (hr.mono hjk) D.b .nil hx w.h (zan h1) (zci h2) ht⟩,SemM.at sm DC.at_ hm⟩
end
noncomputable def zcQ(c:Str)(g:GM)(fa:FA):FE:=fun δ=>((fa δ).bind zfa).bind fun ds=>(g (.ins c [] []) ds).bind fun p=>match p.1 with
 | .non=>some (.obj p.2)
 | _=>none
structure MakeD(K:PySem.W.Frag)(c:Str)(st:Stmt)(qual:Str)(ps:List Str)(f:Addr)(fd:FuncData):Prop where
 fn:FunA K "__init__" qual st f fd
 at_:∀ C,zbK K c C->Mk K C f
 b:Binds K fd ps []
section
variable {X:Cx}{e:Expr}{es:List Expr}{pos p:Pos}{fa:FA}{c qual:Str}{nsF ps:List Str}{g:GM}{fd:FuncData}{fm:Addr}{st:Stmt}{kk j:Nat}{CX:CXT}{E:XK}
theorem SemE.make{K:PySem.W.Frag}{C:Addr}{t:TA}{E:XK}(sm:SemA K t fa)(hcl:zbK K c C):SemE K (tMake C (spM K g) [] E t) (zcQ c g fa):=fun B F H σ δ res Q s q k=>by
 obtain⟨ds,q1,q⟩:=bind_some q
 obtain⟨rs,q1,q2⟩:=bind_some q1
 obtain⟨p1,q3,q⟩:=bind_some q
 refine sm B F H σ δ rs _ s q1 fun vs F1 H1 x1 r1=>?_
 obtain⟨F2,x2,_,r2⟩:=RepRs.frz x1 (Same.refl _) r1 q2
 intro a dx ha hdx hne
 have fa0:F2 a=none:=x2.fh.free ha
 have fd0:F2 dx=none:=x2.fh.free hdx
 have sH:Same H1 (upd (upd H1 dx (.own a)) a (.ins C dx [])):=(Same.alloc hdx).trans (Same.alloc (by rw[zah (Ne.symm hne)];exact ha))
 rw[List.append_nil]
 refine⟨_,vs,F2,.ins c [] [],[a,dx],ds,p1.1,p1.2,rfl,x2.fh.trans sH,?_,by simp[Ne.symm hne],fun b hb=>?_,r2,q3,fun y F' H' A' ch t' n' f' ry=>?_⟩
 ·exact .ins (vs:=[]) (A:=[]) hcl zae (by rw[zah hne];exact zae) rfl .nil
 ·simp at hb
  rcases hb with rfl | rfl
  ·exact fa0
  ·exact fd0
 ·obtain⟨d0,o0⟩:=p1
  cases d0 with
  | non=>
   cases q
   have st:∀ b u,H1 b=some u->zda (upd (upd H1 dx (.own a)) a (.ins C dx [])) [a,dx] b=some u:=fun b u hb=>zaE (fun z=>by
    simp at z
    rcases z with rfl | rfl
    ·rw[ha] at hb;cases hb
    ·rw[hdx] at hb;cases hb) (sH _ _ hb)
   refine⟨zgb ry,k _ F' H' ⟨x2.ff.trans ch.ff,ch.fh,fun b u hb=>ch.st _ _ (st b u (x2.hh _ _ hb)),fun b u hb ht=>(ch.nw b u (st b u (x2.hh _ _ hb)) ht).trans (x2.nw b u hb ht)⟩ ⟨⟨a,rfl⟩,A',t',n',fun b hb=>⟨(f' b hb).1,?_⟩⟩⟩
   cases z:H b with
   | none=>rfl
   | some u=>have:=st b u (x2.hh _ _ z);rw[(f' b hb).2] at this;cases this
  | _=>cases q
theorem vmake{C:Addr}(DC:ClsD X.K X.mg c nsF C)(D:MakeD X.K c st qual ps fm fd)(F:FnOk X.prog X.w X.K X.mg X.base CX kk fm fd ps (spM X.K g))(hr:Room j X.A)(hg:Gl X c)(hx:zbL CX X E)(ha:VA X (e :: es) fa)(hjk:kk+1<=j:=by decide)(hdb:(c == ("__debug__" : Str))=false:=by decide)
  (h1:zap e=true:=by rfl) (h2:es.all zap=true:=by rfl):VE X (.Call (.Name c p) (e :: es) [] pos) (zcQ c g fa):=
 let⟨_,w,sm⟩:=ha.h;⟨_,⟨pe_make (D.at_ _ DC.at_) F (hr.mono hjk) hg DC.mg D.b .nil hx w.h hdb (zan h1) (zci h2)⟩,.make sm DC.at_⟩
end
end L3

namespace L2
open PySem PySem.Spec PyProof.Rows
section
variable {prog:Program}{w:World}{A:Around}{E:Value->Shared->Prop}{s:Shared}
structure Rises(st:SortSt):Prop where
 k:kindOf st=oneType'
 r:∀ i,1<=i->i<(arrOf st).size->∃ a t p b u q,(arrOf st)[i]? = some (.int a t,p)/\(arrOf st)[i - 1]? = some (.int b u,q)/\b<=a
end
end L2

namespace L2
open PySem PySem.Spec PyProof.Rows
end L2
namespace L3
open PySem PySem.Spec PyProof.Rows L2
noncomputable def gRep:Ent->Ent->Option Ent:=fun x y=>(asLt x).bind fun ds=>(iOf y).bind fun k=>gif (-1000000<=k/\k<=1000000/\ds.length * k.toNat<=1000000) (some (.own (List.replicate k.toNat ds).flatten))
theorem zgx{F:Hp}{vs:List V}{ds:List D}(r:Reps F vs ds):∀ k:Nat,Reps F (List.replicate k vs).flatten (List.replicate k ds).flatten
 | 0=>.nil
 | k+1=>by
  rw[List.replicate_succ,List.replicate_succ,List.flatten_cons,List.flatten_cons]
  exact r.append (zgx r k)
section
variable {X:Cx}
theorem o_rep:OpD X (binaryOp .Mult) gRep:=⟨_,op_rep,fun H0 F H x y e e' res Q fh hh rx ry q k=>by
 obtain⟨ds,q1,q⟩:=bind_some q
 obtain⟨n,q2,q⟩:=bind_some q
 obtain⟨⟨h1,h2,h3⟩,qz⟩:=zaX q
 cases qz
 cases zav q2
 obtain⟨l,vs,e1,h4,h5⟩:=RepR.toLt rx fh q1
 subst e1
 refine⟨l,n,vs,rfl,zaD ry,h4,by lia,by lia,by rw[h5.length,sizeLine_eq];exact Nat.le_trans h3 (by decide),fun p hp=>?_⟩
 exact k _ _ _ (Ex.lay fh hp) ⟨p,_,rfl,hh.free hp,zae,zgx h5 _,fh.free hp⟩⟩
end
end L3

namespace L3
open PySem PySem.Spec PyProof.Rows L2
noncomputable def xPop(i:Nat):FXE:=fun δ=>((oAt i δ).bind lOf).bind fun ds=>(ds[ds.length - 1]?).map fun d=>(d,δ.set i (some (.obj (.lst ds.dropLast))))
noncomputable def xCO(i:Nat)(g:GM)(fs:FXA):FXE:=fun δ=>(oAt i δ).bind fun _=>(fs δ).bind fun p=>(oAt i p.2).bind fun o=>(g o p.1).map fun q=>(q.1,p.2.set i (some (.obj q.2)))
noncomputable def zgE(i:Nat)(fe:FE):FS:=fun δ=>(fe δ).bind fun r=>match r with
 | .own ds=>some (.nx (δ.set i (some (.obj (.lst ds)))))
 | _=>none
theorem zeG{o:OT}{ds:List D}(h:lOf o=some ds):o=.lst ds:=by
 cases o <;> first | (cases h;rfl) | (cases h)
section
variable {X:Cx}{e:Expr}{es:List Expr}{pos pos' p p0 apos cpos:Pos}{fa fb fx:FXE}{fs:FXA}{fe:FE}{x y:Str}{tg:Expr}{tgf:FG}
theorem xpop(i:Nat)(hN:X.N[i]? = some x:=by rfl)(hv:Vis X.env.scope x:=by first | exact Or.inl rfl | exact Or.inr (Or.inl rfl) | exact Or.inr (Or.inr rfl))(hd:(x == ("__debug__" : Str))=false:=by decide)(hcd:(x == ("__classdict__" : Str))=false:=by decide)
  (hbase:attributeBase (.Name x p) "pop" X.env (eval (.Name x p) X.env)=eval (.Name x p) X.env:=by rfl) (hline:(apos.endLine == cpos.line)=true:=by rfl):VX X (.Call (.Attribute (.Name x p) "pop" apos) [] [] cpos) (xPop i):=by
 refine⟨_,⟨pe_bm0 PySem.F.plainAttrs_list PySem.F.slot_list_pop PySem.F.type_list_pop mt_pop (wv i hN hv hd hcd).h hbase hline⟩,fun B F H σ δ d δ' Q s q k=>?_⟩
 obtain⟨ds,q1,q⟩:=bind_some q
 obtain⟨o,q0,q1⟩:=bind_some q1
 obtain⟨d',q2,q⟩:=map_some q
 cases q
 cases zeG q1
 obtain⟨v,h1,A,t,n,h⟩:=s.ent i _ (zas q0)
 cases t with
 | @lst l vs _ h2 h3=>
  have fl:=(h l (by simp)).1
  obtain⟨z,hz,rz⟩:=h3.get q2
  refine⟨_,h1,.inl ⟨rfl,vs,SqL.of h2⟩,l,vs,z,rfl,rfl,h2,by rw[h3.length];exact hz,?_⟩
  obtain⟨z1,z2⟩:=s.chg (o':=.lst ds.dropLast) (H':=upd H l (.lst vs.dropLast)) (F':=F) (zas q0) h1 (.lst h2 h3) ⟨Same.refl _,fun b u hb=>by
    rw[zah fun z=>by subst z;rw[fl] at hb;cases hb]
    exact s.fh _ _ hb,fun b u hb=>by
    obtain⟨z1,z2⟩:=zao hb
    rw[zah fun z=>z1 (by simp[z])]
    exact z2,fun _ _ _ _=>rfl⟩
   (.lst zae h3.dropLast) (by simp) fun b hb=>by
    simp at hb
    subst hb
    exact⟨fl,zaZ (by simp)⟩
  exact k z F _ z1 z2 rz
theorem xco{CX:CXT}{k j:Nat}{f:Addr}{fd:FuncData}{ps:List Str}{st:Stmt}{E:XK}{g:GM}(i:Nat)(F:FnOk X.prog X.w X.K X.mg X.base CX k f fd ps (spM X.K g))(D:Def X.K X.mg y st ps f fd)(hr:Room j X.A)(hg:Gl X y)(hx:zbL CX X E)
  (ha:VXA X es fs) (hjk:k<=j:=by decide) (hdb:(y == ("__debug__" : Str))=false:=by decide) (h2:es.all zap=true:=by rfl)
  (hN:X.N[i]? = some x:=by rfl) (hv:Vis X.env.scope x:=by first | exact Or.inl rfl | exact Or.inr (Or.inl rfl) | exact Or.inr (Or.inr rfl)) (hd:(x == ("__debug__" : Str))=false:=by decide) (hcd:(x == ("__classdict__" : Str))=false:=by decide) :
  VX X (.Call (.Name y p) (.Name x p0 :: es) [] pos) (xCO i g fs):=by
 obtain⟨t,w,m⟩:=ha.h
 refine⟨_,wcl F D hr hg hx (wac (wv i hN hv hd hcd) w rfl) hjk hdb rfl h2,fun B F H σ δ d δ' Q s q kk=>?_⟩
 obtain⟨o0,q0,q⟩:=bind_some q
 obtain⟨p1,q1,q⟩:=bind_some q
 obtain⟨o,q2,q⟩:=bind_some q
 obtain⟨r,q3,q⟩:=map_some q
 cases q
 obtain⟨v,h1,_⟩:=s.ent i _ (zas q0)
 refine⟨v,h1,m B F H σ δ p1.1 p1.2 _ s q1 fun vs F1 H1 s1 y1 r1=>?_⟩
 obtain⟨v',h1',A,t,n,h⟩:=s1.ent i _ (zas q2)
 rw[h1] at h1'
 cases h1'
 rw[List.append_nil]
 refine⟨v,vs,F1,o,A,p1.1,r.1,r.2,rfl,s1.fh,t,n,fun a ha=>(h a ha).1,r1,q3,fun z F' H' A' ch t' n' f' rz=>?_⟩
 obtain⟨z1,z2⟩:=s1.chg (zas q2) h1 t ch t' n' f'
 exact kk z F' H' z1 (y1.trans z2) rz
theorem sSetL'{i:Nat}(h0:0<i)(hN:X.N.Nodup)(hi:X.N[i]? = some x)(hx:Loc X.env.scope x)(he:VE X e fe)(hs:swapsWith e (some (.Name x pos')) pos.line X.env=pure false:=by rfl)(hf:X.fn x=true \/ X.env.scope.names.lookup x=some .local:=by first | exact .inl rfl | exact .inr rfl | assumption) :
  VS X (.Assign [.Name x pos'] e pos) (zgE i fe):=by
 obtain⟨t,w,m⟩:=he.h
 refine⟨_,sset hN hi hx w hs hf,fun B F H σ δ out DD s q k=>?_⟩
 obtain⟨r,q1,q⟩:=bind_some q
 cases r with
 | own ds=>
  cases q
  refine m B F H σ δ _ _ s q1 fun v F' H' x z=>k _ F' H' (s.putO x i h0 ?_) (.of x s.bh)
  obtain⟨l,vs,e,g0,g1,rs,g2⟩:=z
  subst e
  exact⟨⟨l,rfl⟩,[l],.lst g1 rs,by simp,fun a ha=>by simp at ha;subst ha;exact⟨g2,g0⟩⟩
 | _=>cases q
end
noncomputable abbrev FXO:=En->Option (Option Int × En)
noncomputable def SemXO(K:PySem.W.Frag)(t:TO)(f:FXO):Prop:=∀ (B:Bd) (F H:Hp) (σ:Sg) (δ:En) (o:Option Int) (δ':En) (Q:Option Int->Hp->Prop),RS K B F H σ δ->f δ=some (o,δ')->(∀ F' H',RS K B F' H' σ δ'->FX B F F'->Q o H')->t σ H Q
structure VXO(X:Cx)(e:Option Expr)(f:FXO):Prop where
 h:∃ t,WO X e t/\SemXO X.K t f
section
variable {X:Cx}{e tg iter:Expr}{lo hi:Option Expr}{fx:FXE}{fl fu:FXO}{pos p2:Pos}{tgf:FG}{f:FS}{body:List Stmt}
end
end L3

namespace L2
open PySem PySem.Spec PyProof.Rows
section
variable {prog:Program}{w:World}{A:Around}{E:Value->Shared->Prop}{s:Shared}
set_option maxRecDepth 100000
theorem init_rev{R:Result->Shared->Prop}{I l S:Addr}{items:Array Value}(hh:A.handled=none)(hne:l ≠ I)(hit:s.heap.IsRevIter I l ((items.size:Int) - 1))(hl:s.heap.IsList l items)(hn:items.size<=sizeLine)
  (hS:s.heap.get? S=some { cls:=.type "list",data:=.seq #[]}) (hSI:S ≠ I) (hSl:S ≠ l)
  (hR:∀ s' acc c',(∀ b o,b ≠ I->b ≠ S->s.heap.get? b=some o->s'.heap.get? b=some o)->s'.gens=s.gens->s'.drawn=s.drawn->s'.os=s.os->s'.heap.get? S=some { cls:=.type "list",data:=.seq acc c'}->ItemsOf (fun i v=>items[items.size - 1 - i]? = some v) acc items.size->R (.ok (.ret .none)) s') :
  wpAny (model prog w) A.in1 (Builtin.«list.__init__» ⟨[.ref S,.ref I],[]⟩)
   (fun fin s'=>match fin with | .done f=>R (.ok f) s' | .again c'=>c'.quiet=true/\codeAny (model prog w) A c' R s') (fun e s'=>R (.error e) s') s:=by
 show wpAny _ _ (do let old <- Builtin.List.listItems (.ref S);Builtin.List.listUpdate (.ref S) (fun _=>#[]);letGo old.toList.reverse;Builtin.List.listExtendWith (.ref S) (.ref I) .none) _ _ s
 refine wpAny_bind ?_
 unfold Builtin.List.listItems
 refine wpAny_bind (wpAny_seqItems hS rfl (wpAny_pure ?_))
 show wpAny _ _ (updateSeq S (fun _=>#[]) >>= fun _=>letGo (#[]:Array Value).toList.reverse >>= fun _=>Builtin.List.listExtendWith (.ref S) (.ref I) .none) _ _ s
 refine wpAny_bind (wpAny_updateSeq hS rfl ?_)
 have hS₂:=Heap.get?_update_self (Obj.mapSeq (fun _=>(#[]:Array Value))) hS rfl
 have oth:∀ b o,b ≠ S->s.heap.get? b=some o->(s.heap.update S (Obj.mapSeq (fun _=>(#[]:Array Value)))).get? b=some o:=
  fun b o hb e=>(Heap.get?_update_other _ _ (Ne.symm hb)).trans e
 refine wpAny_bind (wpAny_letGo ?_)
 generalize s.heap.update S (Obj.mapSeq (fun _=>(#[]:Array Value)))=H at hS₂ oth
 have hit':H.IsRevIter I l ((items.size:Int) - 1):=hit.at fun o e=>oth _ o (Ne.symm hSI) e
 have hl':H.IsList l items:=hl.at fun o e=>oth _ o (Ne.symm hSl) e
 unfold Builtin.List.listExtendWith
 refine wpAny_bind (wpAny_typeOf (s:={ s with heap:=H}) hit'.typeIs ?_)
 have h1:Builtin.List.listSameRef (.ref S) (.ref I)=false:=by
  unfold Builtin.List.listSameRef
  simp
  exact hSI
 have h2:(Value.type "list_reverseiterator" == Value.type "list")=false:=by decide
 have h3:(Value.type "list_reverseiterator" == Value.type "tuple")=false:=by decide
 simp only[h1,h2,h3,Bool.or_false,Bool.false_eq_true,if_false]
 refine wpAny_bind (wpAny_pyIter_revIter hit' ?_)
 refine wpAny_bind (wpAny_holding ?_)
 refine hint_rev (s:={ s with heap:=H}) hit' ?_
 rw[if_neg (by decide)]
 have hSf:S ∉ [I,l]:=by simp[hSI,hSl]
 have st0:0<=items.size/\H.IsRevIter I l ((items.size:Int) - 1 - ((0:Nat):Int))/\H.IsList l items:=⟨Nat.zero_le _,by simpa using hit',hl'⟩
 refine wpAny_pure ⟨plainId_quiet F.plain_extend_loop _,codeAny_extend_loopS (Walks.listRev (A:=A.in1) hh I l hne items).toS hn _ hSf _ items.size 0 _ _ _ rfl (Nat.zero_le _) st0 hS₂ (ItemsOf.nil _) fun s' acc' c' hm hS' hacc=>?_⟩
 refine hR s' acc' c' (fun b ob hb hb2 e=>hm.heap b ob (fun hc=>?_) (oth b ob hb2 e)) hm.gens hm.drawn hm.os hS' hacc
 rcases List.mem_cons.mp hc with h | h
 ·exact hb2 h
 ·exact hb (List.mem_singleton.mp h)
theorem zeJ{Q:Value->Shared->Prop}{I l:Addr}{items:Array Value}(hh:A.handled=none)(hne:l ≠ I)(hit:s.heap.IsRevIter I l ((items.size:Int) - 1))(hl:s.heap.IsList l items)(hsz:items.size<=sizeLine)
  (h:∀ (h':Heap) (tk c:Nat) (acc:Array Value),(∀ b o,b ≠ I->s.heap.get? b=some o->h'.get? b=some o)->h'.get? s.heap.objs.size=some { cls:=.type "list",data:=.seq acc c}->ItemsOf (fun i v=>items[items.size - 1 - i]? = some v) acc items.size->Q (.ref s.heap.objs.size) { s with heap:=h',toks:=tk}) :
  wpAny (model prog w) A (call (.type "list") [.ref I]) Q E s:=by
 have lt:∀ a o,s.heap.get? a=some o->s.heap.objs.size ≠ a:=fun a o e=>Nat.ne_of_gt (Heap.lt_size e)
 obtain⟨oI,eI,_⟩:=id hit
 obtain⟨oL,eL,_⟩:=id hl
 refine callType_codes (Q₁:=fun obj s₁=>obj=.ref s.heap.objs.size/\s₁={ s with heap:=s.heap.push { cls:=.type "list",data:=.seq #[]}}) F.called_list (F.typeCall_list_1 _) F.entry_list_init
  (code_list_new _ ⟨rfl,rfl⟩) fun obj s₁ h₁=>?_
 obtain⟨rfl,rfl⟩:=h₁
 have hS:(s.heap.push { cls:=.type "list",data:=.seq #[]}).get? s.heap.objs.size=some { cls:=.type "list",data:=.seq #[]}:=Heap.get?_push_size _ rfl
 refine⟨⟨_,hS,rfl⟩,F.args_list_init_2 _ _,init_rev (A:=A.in1) (I:=I) (l:=l) (items:=items) (s:={ s with heap:=s.heap.push { cls:=.type "list",data:=.seq #[]}}) hh hne (hit.at fun o e=>Heap.get?_push_of_some _ e) (hl.at fun o e=>Heap.get?_push_of_some _ e) hsz hS (lt _ _ eI) (lt _ _ eL) fun s' acc c' hk hg hd hos hS' hacc=>⟨rfl,?_⟩⟩
 obtain⟨h',g',d',tk',os'⟩:=s'
 cases (show g'=s.gens from hg)
 cases (show d'=s.drawn from hd)
 cases (show os'=s.os from hos)
 exact h h' tk' c' acc (fun b o hb e=>hk b o hb (Ne.symm (lt _ _ e)) (Heap.get?_push_of_some _ e)) hS' hacc
end
section
variable {X:Cx}{e tg:Expr}{t:TE}{p p1 pos pos1:Pos}
noncomputable def tLRv(K:PySem.W.Frag)(t:TE):TE:=fun σ H Q=>t σ H fun x H1=>∃ a xs,x=.ref a/\SqL K H1 a xs/\∀ q,H1 q=none->Q (.ref q) (upd H1 q (.lst xs.reverse))
theorem pe_lrv(hc:X.calm=true)(he:PE X e t)(hg:Gl X "list")(hm:X.mg "list" = none)(hv:bootBuiltins "list" = some (.type "list"))(hg1:Gl X "reversed")(hm1:X.mg "reversed" = none)(hv1:bootBuiltins "reversed" = some (.type "reversed"))
  (h1:starEach [e] X.env=(false,eval e X.env) :: starEach [] X.env) (h2:starEach [Expr.Call (.Name "reversed" p1) [e] [] pos1] X.env=(false,eval (.Call (.Name "reversed" p1) [e] [] pos1) X.env) :: starEach [] X.env) :
  PE X (.Call (.Name "list" p) [.Call (.Name "reversed" p1) [e] [] pos1] [] pos) (tLRv X.K t):=by
 intro pins s σ H Q I h
 refine wpAny_Call_Name_kw (zcK I hg hm hv ?_ (by decide) (by decide))
 refine PyProof.Rows.callWith_type1 ?_ h2 rfl
 rw[h2]
 refine Calls.spliced_cons (rest:=backTo pos (starEach [] X.env)) ?_
 refine wpAny_Call_Name_kw (zcK I hg1 hm1 hv1 ?_ (by decide) (by decide))
 refine PyProof.Rows.callWith_type1 ?_ h1 rfl
 refine thn (zgm he pa_nil h1 pos1 pins s σ H (one fun x H1=>∃ a xs,x=.ref a/\SqL X.K H1 a xs/\∀ q,H1 q=none->Q (.ref q) (upd H1 q (.lst xs.reverse))) I ?_) ?_
 ·exact(show t σ H _ from h)
 ·rintro us s1 ⟨xs,H1,I1,r1,qx⟩
  obtain⟨x,rfl,a,vs,rfl,hq,kk⟩:=zgT qx
  cases r1 with
  | cons r1 rn=>
   cases rn
   cases r1
   obtain⟨its,rv,pl,hz⟩:=I1.list hq
   have hs:its.toArray.size<=sizeLine:=by have:=rv.length;simp;lia
   have hl:=pl.isList
   have hlt:a<s1.heap.objs.size:=by obtain⟨o,e,_⟩:=hl;exact Heap.lt_size e
   refine call_reversed_list hl ?_
   refine Calls.spliced_nil ?_
   refine zeJ (I:=s1.heap.objs.size) (l:=a) (items:=its.toArray) (I.ok.hd hc) (Nat.ne_of_lt hlt) ⟨_,Heap.get?_push_size _ rfl,rfl,rfl⟩ (hl.at fun o e=>Heap.get?_push_of_some _ e) hs fun h' tk c acc old hS ha=>?_
   have old':∀ b o,s1.heap.get? b=some o->h'.get? b=some o:=fun b o e=>old b o (Nat.ne_of_lt (Heap.lt_size e)) (Heap.get?_push_of_some _ e)
   have hle:s1.heap.objs.size<=(s1.heap.push { cls:=.type "list_reverseiterator",data:=.fields #[.ref a,.int ((its.toArray.size:Int) - 1) 0]}).objs.size:=by rw[Heap.size_push];exact Nat.le_succ _
   refine⟨.ref _,_,I1.laid (t':=tk) (o:=.lst vs.reverse) old' ?_ ⟨?_,acc.toList,c,rev_vals rv ha,?_⟩,rfl,kk _ (I1.hok.fresh ?_)⟩
   ·rw[Heap.size_push];exact Nat.le_succ _
   ·rw[List.length_reverse];exact hz
   ·simpa using hS
   ·rw[Heap.size_push];exact Nat.le_succ _
theorem op_fdivB:OpR X (binaryOp .FloorDiv) (rI (fun _ j=>0<j/\j<18446744073709551616) fun i j=>.int (i / j)):=opI fun i j _ _ _ _ _ hc q=>by
 have h1:(0:Int)<j:=hc.1
 have h2:j<18446744073709551616:=hc.2
 refine floordiv_int (by lia) (by rw[Int.fdiv_eq_ediv_of_nonneg i (by lia)];exact q) (.inl (PyProof.noPylong_of_log2 ?_))
 refine Nat.lt_of_lt_of_le ((Nat.log2_lt (by lia)).mpr (show j.natAbs<2 ^ 64 by lia)) (by decide)
end
end L2
namespace L3
open PySem PySem.Spec PyProof.Rows L2
noncomputable def ze0:Ent->Option Ent:=fun x=>(asL x).bind fun ds=>some (.own ds.reverse)
noncomputable def gDivB:=pI (fun _ j=>0<j/\j<18446744073709551616) fun i j=>.int (i / j)
section
variable {X:Cx}{e tg:Expr}{fe:FE}{p p1 pos pos1:Pos}
theorem vLstRev(he:VE X e fe)(hg:Gl X "list")(hm:X.mg "list" = none)(hv:bootBuiltins "list" = some (.type "list"))(hg1:Gl X "reversed")(hm1:X.mg "reversed" = none)(hv1:bootBuiltins "reversed" = some (.type "reversed"))(hc:X.calm=true:=by rfl)(h1:zap e=true:=by rfl) :
  VE X (.Call (.Name "list" p) [.Call (.Name "reversed" p1) [e] [] pos1] [] pos) (ex1 ze0 fe):=by
 obtain⟨t,w,m⟩:=he.h
 refine⟨_,⟨pe_lrv hc w.h hg hm hv hg1 hm1 hv1 (zan h1) (zan rfl)⟩,fun B F H σ δ res Q s q k=>?_⟩
 obtain⟨en,q1,q⟩:=bind_some q
 refine m B F H σ δ en _ s q1 fun v F1 H1 x1 r1=>?_
 obtain⟨ds,q2,q3⟩:=bind_some q
 cases q3
 obtain⟨l,vs,rfl,hs,rs⟩:=r1.toL x1.fh q2
 refine⟨l,vs,rfl,hs,fun r hr=>?_⟩
 exact k _ F1 _ (x1.trans (Ex.lay x1.fh hr)) ⟨r,_,rfl,x1.hh.free hr,zae,rs.rev,x1.fh.free hr⟩
theorem o_divB:OpD X (binaryOp .FloorDiv) gDivB:=⟨_,op_fdivB,semI (fun _ _ h=>h) fun _ _ _=>.int _⟩
end
end L3

namespace L2
open PySem PySem.Spec PyProof.Rows
section
variable {X:Cx}{e:Expr}{p p1 pos pos1:Pos}{t:TE}
theorem zgF:∀ (n:Nat) (acc:List Value) (i:Int),acc.length=n->(∀ (j:Nat) (v:Value),acc[j]? = some v->∃ t,v=.int (i+j) t)->Vals ((List.range n).map fun(k:Nat)=>V.int (i+k)) acc
 | 0,[],_,_,_=>.nil
 | 0,_ :: _,_,h,_=>by cases h
 | _+1,[],_,h,_=>by cases h
 | n+1,v :: acc,i,hl,h=>by
  rw[List.range_succ_eq_map,List.map_cons,List.map_map]
  refine .cons ?_ ?_
  ·obtain⟨t,e⟩:=h 0 v rfl
   exact⟨t,e⟩
  ·have:=zgF n acc (i+1) (by simpa using hl) fun j w hw=>by
    obtain⟨t,e⟩:=h (j+1) w (by simpa using hw)
    exact⟨t,by rw[e];congr 1;lia⟩
   have e2:((fun(k:Nat)=>V.int (i+k)) ∘ Nat.succ)=fun(k:Nat)=>V.int (i+1+k):=by
    funext k
    show V.int (i+((k+1:Nat):Int))=V.int (i+1+k)
    congr 1
    lia
   rw[e2]
   exact this
noncomputable def tLR(t:TE):TE:=fun σ H Q=>t σ H fun x H1=>∃ n:Int,x=.int n/\0<=n/\n<=1000/\∀ q,H1 q=none->Q (.ref q) (upd H1 q (.lst ((List.range n.toNat).map fun(k:Nat)=>V.int (0+k))))
theorem pe_lr(hc:X.calm=true)(he:PE X e t)(hg:Gl X "list")(hm:X.mg "list" = none)(hv:bootBuiltins "list" = some (.type "list"))(hg1:Gl X "range")(hm1:X.mg "range" = none)
  (h1:starEach [e] X.env=(false,eval e X.env) :: starEach [] X.env) (h2:starEach [Expr.Call (.Name "range" p1) [e] [] pos1] X.env=(false,eval (.Call (.Name "range" p1) [e] [] pos1) X.env) :: starEach [] X.env) :
  PE X (.Call (.Name "list" p) [.Call (.Name "range" p1) [e] [] pos1] [] pos) (tLR t):=by
 intro pins s σ H Q I h
 refine wpAny_Call_Name_kw (zcK I hg hm hv (PyProof.Rows.callWith_type1 ?_ h2 rfl) (by decide) (by decide))
 rw[h2]
 refine Calls.spliced_cons (rest:=backTo pos (starEach [] X.env)) (wpAny_Call_Name_kw (zcK I hg1 hm1 boot_range (PyProof.Rows.callWith_type1 ?_ h1 rfl) (by decide) (by decide)))
 refine thn (zgm he pa_nil h1 pos1 pins s σ H (one fun x H1=>∃ n:Int,x=.int n/\0<=n/\n<=1000/\∀ q,H1 q=none->Q (.ref q) (upd H1 q (.lst ((List.range n.toNat).map fun(k:Nat)=>V.int (0+k))))) I (show t σ H _ from h)) ?_
 rintro us s1 ⟨xs,H1,I1,r1,qx⟩
 obtain⟨x,rfl,n,rfl,n0,n1,kk⟩:=zgT qx
 cases r1 with
 | cons r1 rn=>
  cases rn
  obtain⟨tk,rfl⟩:=r1
  refine call_range_1 (Calls.spliced_nil ?_)
  have sz:Builtin.Range.rangeSize 0 n 1=((n.toNat:Nat):Int):=by unfold Builtin.Range.rangeSize;simp;split <;> lia
  refine call_list_range (r:=s1.heap.objs.size) (n:=n.toNat) (I.ok.hd hc) (IsRange.new ..) (small_one (by decide) (by decide) (by lia) (by lia)) sz (by lia) fun h' tk2 acc c' old hS ha=>?_
  have old':∀ b o,s1.heap.get? b=some o->h'.get? b=some o:=fun b o z=>old b o (Heap.get?_push_of_some _ z)
  have hle:s1.heap.objs.size<=(s1.heap.push { cls:=.type "range",data:=.fields #[.int 0 s1.toks,.int n tk,.int 1 (s1.toks+1)]}).objs.size:=by rw[Heap.size_push];exact Nat.le_succ _
  refine⟨.ref _,_,I1.laid (t':=tk2) (o:=.lst ((List.range n.toNat).map fun(k:Nat)=>V.int (0+k))) old' hle ⟨?_,acc.toList,c',zgF n.toNat acc.toList 0 (by rw[<- ha.1];simp) fun j v hj=>?_,?_⟩,rfl,kk _ (I1.hok.fresh hle)⟩
  ·rw[List.length_map,List.length_range,sizeLine_eq];lia
  ·obtain⟨tt,z⟩:=ha.2 j v (by simpa using hj)
   exact⟨tt,by rw[z];simp⟩
  ·simpa using hS
end
end L2
namespace L3
open PySem PySem.Spec PyProof.Rows L2
noncomputable def zgV:Ent->Option Ent:=fun x=>(iOf x).bind fun n=>if 0<=n/\n<=1000 then some (.own ((List.range n.toNat).map fun(k:Nat)=>D.int (0+k))) else none
section
variable {X:Cx}{e:Expr}{fe:FE}{p p1 pos pos1:Pos}
theorem reps_rng{F:Hp}(n:Nat):Reps F ((List.range n).map fun(k:Nat)=>V.int (0+k)) ((List.range n).map fun(k:Nat)=>D.int (0+k)):=by
 have:=Reps.ints (F:=F) ((List.range n).map fun(k:Nat)=>(0+k:Int))
 rw[List.map_map,List.map_map] at this
 exact this
theorem vListR(he:VE X e fe)(hg:Gl X "list")(hm:X.mg "list" = none)(hv:bootBuiltins "list" = some (.type "list"))(hg1:Gl X "range")(hm1:X.mg "range" = none)(hv1:bootBuiltins "range" = some (.type "range"))(hc:X.calm=true:=by rfl)(h1:zap e=true:=by rfl) :
  VE X (.Call (.Name "list" p) [.Call (.Name "range" p1) [e] [] pos1] [] pos) (ex1 zgV fe):=by
 obtain⟨t,w,m⟩:=he.h
 refine⟨_,⟨pe_lr hc w.h hg hm hv hg1 hm1 (zan h1) (zan rfl)⟩,fun B F H σ δ res Q s q k=>?_⟩
 obtain⟨en,q1,q⟩:=bind_some q
 obtain⟨n,q2,q⟩:=bind_some q
 split at q
 ·rename_i hn
  cases q
  cases zav q2
  refine m B F H σ δ _ _ s q1 fun v F1 H1 x1 r1=>⟨n,zaD r1,hn.1,hn.2,fun l hl=>?_⟩
  exact k _ F1 _ (x1.trans (Ex.lay x1.fh hl)) ⟨l,_,rfl,(x1.hh.free hl),zae,reps_rng _,x1.fh.free hl⟩
 ·cases q
end
end L3

namespace L3
open PySem PySem.Spec PyProof.Rows L2
section
variable {X:Cx}{tg:Expr}{pos p:Pos}{x:Str}{tgf:FG}
end
end L3

namespace L3
open PySem PySem.Spec PyProof.Rows L2
noncomputable def TupK(K:PySem.W.Frag)(a:Addr)(is:List Int):Prop:=∃ (o:Obj) (its:Array Value) (n:Nat),K.lookup a=some o/\o.cls=.type "tuple" /\ o.data=.seq its n/\its.size<=sizeLine/\Vals (is.map V.int) its.toList
noncomputable def eB(ds:List D):FE:=fun _=>some (.bt ds)
theorem vglB{X:Cx}{x:Str}{pos:Pos}{is:List Int}(hg:Gl X x)(h:∃ a,X.mg x=some (.ref a)/\TupK X.K a is)(hd:(x == ("__debug__" : Str))=false:=by decide):VE X (.Name x pos) (eB (is.map .int)):=by
 obtain⟨a,hm,o,its,n,h1,h2,h3,h4,h5⟩:=h
 refine⟨_,wgl (v:=.ref a) hg ⟨_,hm,rfl⟩ hd,fun B F H σ δ r Q s q k=>?_⟩
 cases q
 exact k _ F H (Ex.refl s.fh) ⟨a,is.map V.int,rfl,.inr ⟨o,its,n,h1,h2,h3,h4,h5⟩,Reps.ints is⟩
end L3

namespace L2
open PySem PySem.Spec PyProof.Rows
theorem pairs_any{P P':Program}{w w':World}{es:List DictEntry}{us:List (Key × Value)}(r:Pairs (zb9 P w) es us):Pairs (zb9 P' w') es us:=by
 induction r with
 | nil=>exact .nil
 | cons h1 h2 _ ih=>exact .cons h1 h2 ih
theorem DiD.at{P:Program}{w:World}{l:Addr}{o:Obj}{ks:List Int}{vs:List V}{h:Heap}(d:DiD l o ((ks.map Sum.inl).zip vs))(hl:ks.length=vs.length)(e:h.get? l=some o) :
  ∃ us es ep,KV ((ks.map Sum.inl).zip vs) us/\o.data=.dict es ep/\us.map (·.1)=ks.map Sum.inl/\h.DictAt (zb9 P w) l us ep:=by
 obtain⟨_,_,P0,w0,es,ep,us,h1,h2,h3,h4,h5,h6⟩:=d
 have hk:us.map (·.1)=ks.map Sum.inl:=by
  have z:=congrArg (List.map Prod.fst) (ze5 h6)
  rw[List.map_fst_zip (by rw[List.length_map];exact Nat.le_of_eq hl),List.map_map] at z
  exact z.symm
 refine⟨us,es,ep,h6,h2,hk,o,es,e,h1,h2,fun x hx=>?_,pairs_any h4,h5⟩
 obtain⟨k,a,b⟩:=h3 x hx
 refine⟨k,a,b.trans ?_⟩
 have:k ∈ us.map (·.1):=by
  rw[zdu h4,List.map_map]
  exact List.mem_map.mpr ⟨x,Array.mem_toList_iff.mpr hx,kBk_is a⟩
 rw[hk] at this
 obtain⟨i,_,rfl⟩:=List.mem_map.mp this
 rfl
theorem kisI{P:Program}{w:World}{i:Int}{u:Value}(r:RelV (.int i) u):(zb9 P w).is (Sum.inl i) u=true:=by
 obtain⟨t,rfl⟩:=r
 exact keyIs_int i t
section
variable {X:Cx}{pins:List (Addr × Obj)}{σ:St}{H:Hp}{s:Shared}{l:Addr}{o:Obj}
theorem Inv.kn(I:Inv X pins σ H s)(e:H l=some (knO l o)):s.heap.get? l=some o:=(show ObjOk X.prog X.w H s.heap l (knO l o) from I.hok l _ e).1
theorem Inv.toK{kvs:List (Key × V)}(I:Inv X pins σ H s)(e:H l=some (.dK kvs)):∃ o,DiD l o kvs/\Inv X pins σ (upd H l (knO l o)) s:=by
 obtain⟨h1,h2,us,h3,o,es,ep,h4,h5,h6,h7,h8,h9⟩:=(show ObjOk X.prog X.w H s.heap l (.dK kvs) from I.hok l _ e)
 exact⟨o,⟨h2,h1,X.prog,X.w,es,ep,us,h5,h6,h7,h8,h9,h3⟩,I.write (x:=l) (e:=l) (h':=s.heap) (t':=s.toks) (o:=knO l o) (by rw[e];exact True.intro) (.inl rfl) (fun _ _ _ z=>z) ⟨_,h4⟩ ⟨h4,⟨_,h4⟩,fun _ _ a b=>b _ a⟩⟩
noncomputable def tDI0:TE:=fun _ H Q=>∀ p,H p=none->∀ o,DiD p o []->Q (.ref p) (upd H p (knO p o))
theorem pe_di0{pos:Pos}:PE X (.Dict [] [] pos) tDI0:=by
 intro pins s σ H Q I h
 refine thn ((zgN (X:=X) (pos:=pos)) pins s σ H (fun v H1=>∃ p,v=.ref p/\H p=none/\H1=upd H p (.dK [])) I fun p hp=>⟨p,rfl,hp,rfl⟩) fun u s1 ⟨v,H1,I1,r,p,e1,hp,e2⟩=>?_
 subst e1 e2
 obtain⟨o,d,I2⟩:=I1.toK (l:=p) zae
 rw[upd_upd] at I2
 exact⟨_,_,I2,r,h p hp o d⟩
noncomputable def ixI:List Int->Int->Option Nat
 | [],_=>none
 | k :: ks,i=>if k=i then some 0 else (ixI ks i).map (· + 1)
theorem zdy(i:Int):∀ {ks:List Int} {vs:List V},ks.length=vs.length->atK ((ks.map Sum.inl).zip vs) (Sum.inl i)=(ixI ks i).bind fun j=>vs[j]?
 | [],[],_=>rfl
 | k :: ks,v :: vs,h=>by
  have ih:=zdy i (ks:=ks) (vs:=vs) (by simpa using h)
  unfold atK at ih ⊢
  rw[List.map_cons,List.zip_cons_cons]
  unfold ixI
  by_cases e:k=i
  ·rw[if_pos e,List.find?_cons_of_pos (by simpa using e)];rfl
  ·rw[if_neg e,List.find?_cons_of_neg (by simpa using e),ih]
   cases ixI ks i <;> rfl
theorem zdV{i:Int}:∀ {ks:List Int} {j:Nat},ixI ks i=some j->ks[j]? = some i
 | [],_,h=>by cases h
 | k :: ks,j,h=>by
  unfold ixI at h
  split at h
  ·rename_i e;cases h;rw[e];rfl
  ·cases q:ixI ks i with
   | none=>rw[q] at h;cases h
   | some j'=>rw[q] at h;cases h;rw[List.getElem?_cons_succ];exact zdV q
theorem zdf{i:Int}:∀ {ks:List Int},ixI ks i=none->i ∉ ks
 | [],_=>by simp
 | k :: ks,h=>by
  unfold ixI at h
  split at h
  ·cases h
  ·rename_i e
   cases q:ixI ks i with
   | none=>exact fun z=>(List.mem_cons.mp z).elim (fun z=>e z.symm) (zdf q)
   | some j'=>rw[q] at h;cases h
noncomputable def rIxI:R2:=fun x y H Q=>∃ (a:Addr) (o:Obj) (ks:List Int) (vs:List V) (i:Int) (v:V),x=.ref a/\y=.int i/\H a=some (knO a o)/\DiD a o ((ks.map Sum.inl).zip vs)/\ks.length=vs.length/\atK ((ks.map Sum.inl).zip vs) (Sum.inl i)=some v/\Q v H
theorem ix_di:IxR X rIxI:=by
 intro value slice pins s σ H x y v u Q I rx ry h hs
 obtain⟨a,o,ks,vs,i,v',rfl,rfl,e,d,hl,hv,q⟩:=h
 cases rx
 obtain⟨us,es,ep,rel,h1,h2,da⟩:=d.at (P:=X.prog) (w:=X.w) hl (I.kn e)
 have dd:=da.dictOf
 rcases zeH rel (Sum.inl i) with ⟨v2,w,e1,e2,e3⟩ | ⟨e1,_⟩
 ·rw[hv] at e1
  cases e1
  exact subscriptTail_builtinR (x:=w) dd.typeIs slot_dict_getitem.lookup (wpAny_getItem_of (kisI ry) dd.mapOf e2 ⟨rfl,v',H,I.tok _,e3,q⟩) hs
 ·rw[hv] at e1;cases e1
noncomputable def rInI:R2:=fun x y H Q=>∃ (a:Addr) (o:Obj) (ks:List Int) (vs:List V) (i:Int),x=.int i/\y=.ref a/\H a=some (knO a o)/\DiD a o ((ks.map Sum.inl).zip vs)/\ks.length=vs.length/\Q (.bl (atK ((ks.map Sum.inl).zip vs) (Sum.inl i)).isSome) H
theorem op_inI:OpR X (compareOp .In) rInI:=by
 intro pins s σ H x y v u Q I rx ry h
 obtain⟨a,o,ks,vs,i,rfl,rfl,e,d,hl,q⟩:=h
 cases ry
 obtain⟨us,es,ep,rel,h1,h2,da⟩:=d.at (P:=X.prog) (w:=X.w) hl (I.kn e)
 refine wpAny_in_of (kisI rx) d.1 da.dictOf.mapOf ⟨.bl _,H,I.tok _,?_,q⟩
 rcases zeH rel (Sum.inl i) with ⟨v2,w,e1,e2,e3⟩ | ⟨e1,e2⟩ <;> (rw[e1,e2];rfl)
noncomputable def rSetI:V->V->V->Hp->(Hp->Prop)->Prop:=fun o i v H Q=>∃ (p:Addr) (ob:Obj) (ks:List Int) (vs:List V) (k:Int),o=.ref p/\i=.int k/\H p=some (knO p ob)/\DiD p ob ((ks.map Sum.inl).zip vs)/\ks.length=vs.length/\ks.length<1000000/\k ∉ ks /\
 ∀ ob',DiD p ob' (((ks ++ [k]).map Sum.inl).zip (vs ++ [v]))->Q (upd H p (knO p ob'))
theorem set_di:PSet X rSetI:=by
 intro pins s σ H o i v ov iv u Q I ro ri rv h
 obtain⟨p,ob,ks,vs,k,rfl,rfl,hp,d,hl,hz,hk,q⟩:=h
 cases ro
 obtain⟨us,es,ep,rel,h1,h2,da⟩:=d.at (P:=X.prog) (w:=X.w) hl (I.kn hp)
 have hu:us.length<=sizeLine:=by
  have:=congrArg List.length h2
  simp only[List.length_map] at this
  rw[this,sizeLine_eq];lia
 have hst:stored us (Sum.inl k) u=us ++ [(Sum.inl k,u)]:=by
  unfold stored
  rw[if_neg]
  intro z
  obtain⟨x,hx,e⟩:=List.any_eq_true.mp z
  have:x.1 ∈ us.map (·.1):=List.mem_map.mpr ⟨x,hx,rfl⟩
  rw[h2,of_decide_eq_true e] at this
  obtain⟨i,hi,e'⟩:=List.mem_map.mp this
  cases e'
  exact hk hi
 refine wpAny_setItem_pairs (hsz:=hu) (kisI ri) da.dictOf fun h' dd' hs=>?_
 rw[hst] at dd'
 obtain⟨o',es',ep',g1,g2,g3,g4,g5,g6⟩:=dd'
 refine⟨_,I.write (x:=p) (e:=p) (o:=knO p o') (by rw[hp];exact True.intro) (.inl rfl) (fun b q hb z=>(hs.2 b hb).trans z) ⟨_,g1⟩ ⟨g1,⟨_,g1⟩,fun _ _ a b=>b _ a⟩,q o' ⟨d.1,?_,X.prog,X.w,es',ep',_,g2,g3,g4,g5,g6,?_⟩⟩
 ·rw[List.length_zip,List.length_map,List.length_append,List.length_append,sizeLine_eq,<- hl]
  simp only[List.length_cons,List.length_nil]
  lia
 ·rw[List.map_append,List.zip_append (by rw[List.length_map];exact hl)]
  exact Paired.snoc rel ⟨rfl,rv⟩
theorem call_min3(hc:X.calm=true):zdh X (.builtin "min") (fun xs H Q=>∃ i j k,xs=[.int i,.int j,.int k]/\Q (.int (min (min i j) k)) H):=by
 intro pins s σ H xs us Q I r h
 obtain⟨i,j,k,rfl,q⟩:=h
 cases r with
 | cons r1 r=>
  obtain⟨u,w',rfl,r2,r3⟩:=vals2 r
  obtain⟨t1,rfl⟩:=r1
  obtain⟨t2,rfl⟩:=r2
  obtain⟨t3,rfl⟩:=r3
  refine min_three_ints (I.ok.hd hc) fun h' tk kk=>⟨_,H,I.kept kk,?_,q⟩
  by_cases h1:j<i
  ·rw[if_pos h1]
   by_cases h2:k<j
   ·rw[if_pos h2,show min (min i j) k=k by lia];exact⟨_,rfl⟩
   ·rw[if_neg h2,show min (min i j) k=j by lia];exact⟨_,rfl⟩
  ·rw[if_neg h1]
   by_cases h2:k<i
   ·rw[if_pos h2,show min (min i j) k=k by lia];exact⟨_,rfl⟩
   ·rw[if_neg h2,show min (min i j) k=i by lia];exact⟨_,rfl⟩
end
end L2
namespace L3
open PySem PySem.Spec PyProof.Rows L2
noncomputable def gMin3:List Ent->Option Ent
 | [x,y,z]=>(iOf x).bind fun i=>(iOf y).bind fun j=>(iOf z).map fun k=>.val (.int (min (min i j) k))
 | _=>none
noncomputable def asDi:Ent->Option (List Int × List D)
 | .val (.dcI ks l)=>some (ks,l)
 | _=>none
theorem zfA{e:Ent}{p:List Int × List D}(h:asDi e=some p):e=.val (.dcI p.1 p.2):=by
 cases e with
 | val d=>cases d <;> first | (cases h;rfl) | (cases h)
 | _=>cases h
noncomputable def gDxI:Ent->Ent->Option Ent:=fun x y=>(asDi x).bind fun p=>(iOf y).bind fun i=>(ixI p.1 i).bind fun j=>(p.2[j]?).map .val
noncomputable def asIn(C:Addr)(ns:List Str):Ent->Option (List D)
 | .val (.ins C' ns' l)=>if C'=C/\ns'=ns then some l else none
 | _=>none
theorem zfj{C:Addr}{ns:List Str}{e:Ent}{l:List D}(h:asIn C ns e=some l):e=.val (.ins C ns l):=by
 cases e with
 | val d=>
  cases d with
  | ins C' ns' l'=>
   have h':(if C'=C/\ns'=ns then some l' else none)=some l:=h
   split at h'
   ·rename_i z;cases h';rw[z.1,z.2]
   ·cases h'
  | _=>cases h
 | _=>cases h
noncomputable def zeQ(C:Addr)(ns:List Str)(k:Nat):Ent->Option Ent:=fun x=>(asIn C ns x).bind fun l=>(l[k]?).map .val
noncomputable def eDI0:FE:=fun _=>some (.obj (.dcI [] []))
section
variable {X:Cx}{e tg:Expr}{fe:FE}{pos:Pos}{f c:Str}{ns nsF:List Str}
theorem c_min3(hc:X.calm=true:=by rfl):zej X (.builtin "min") gMin3:=⟨_,call_min3 hc,fun H0 F H vs es res Q fh hh r q k=>by
 match es,q with
 | [x,y,z],q=>
  obtain⟨i,q1,q⟩:=bind_some q
  obtain⟨j,q2,q⟩:=bind_some q
  obtain⟨l,q3,q⟩:=map_some q
  cases zav q1
  cases zav q2
  cases zav q3
  cases q
  cases r with
  | cons r1 r=>
   cases r with
   | cons r2 r=>
    cases r with
    | cons r3 r=>
     cases r
     cases zaD r1
     cases zaD r2
     cases zaD r3
     exact⟨i,j,l,rfl,k _ F H (Ex.refl fh) (.int _)⟩⟩
theorem x_di:IxD X gDxI:=⟨_,ix_di,fun H0 F H x y e e' res Q fh hh rx ry q k=>by
 obtain⟨p,q1,q⟩:=bind_some q
 obtain⟨z,q2,q⟩:=bind_some q
 obtain⟨j,q3,q⟩:=bind_some q
 obtain⟨d,q4,q⟩:=map_some q
 cases q
 cases zfA q1
 cases zav q2
 cases zaD ry
 cases (show Rep F x (.dcI p.1 p.2) from rx) with
 | dcI e d l rs=>
  obtain⟨v,hv,rv⟩:=rs.get q4
  exact⟨_,_,_,_,z,v,rfl,rfl,fh _ _ e,d,l,by rw[zdy z l,q3];exact hv,k v F H (Ex.refl fh) rv⟩⟩
theorem vFldV{C:Addr}{kC:Str->Addr}(k:Nat)(DC:ClsD X.K X.mg c nsF C)(hC:C=kC c)(he:VE X e fe)(hf:f ∈ nsF:=by decide +kernel)(hk:ns[k]? = some f:=by rfl)(hn:ns.Nodup:=by decide +kernel)
  (hb:attributeBase e f X.env (eval e X.env)=eval e X.env:=by rfl):VE X (.Attribute e f pos) (ex1 (zeQ (kC c) ns k) fe):=by
 obtain⟨t,w,m⟩:=he.h
 refine⟨_,⟨zdH w.h hb⟩,fun B F H σ δ res Q s q kk=>?_⟩
 obtain⟨x,q1,q⟩:=bind_some q
 obtain⟨l,q2,q⟩:=bind_some q
 obtain⟨d,q3,q⟩:=map_some q
 cases q
 cases zfj q2
 refine m B F H σ δ _ _ s q1 fun v F1 H1 x1 r1=>?_
 cases (show Rep F1 v (.ins (kC c) ns l) from r1) with
 | ins e hl rs=>
  obtain⟨w,hw,rw'⟩:=rs.get q3
  refine⟨_,_,_,_,w,rfl,x1.fh _ _ e,hC ▸ DC.cl,hC ▸ DC.no f hf,zcW hn hk hw,kk w F1 H1 x1 rw'⟩
theorem vDI0:VE X (.Dict [] [] pos) eDI0:=⟨_,⟨pe_di0⟩,fun B F H σ δ res Q s q k p hp o d=>by
 cases q
 exact k _ F _ (Ex.lay s.fh hp) ⟨⟨p,rfl⟩,[p],.dcI (vs:=[]) (ks:=[]) zae d rfl .nil,by simp,fun a ha=>by
  simp at ha
  subst ha
  exact⟨s.fh.free hp,hp⟩⟩⟩
end
end L3

namespace L2
open PySem PySem.Spec PyProof.Rows PySem.W
theorem zeI{ks:List Int}{vs:Array Value}{n:Nat}(hn:n=ks.length)(h:ItemsOf (fun i v=>∃ t,v=Value.int (ks.getD i 0) t) vs n):IntsAre vs.toList ks:=by
 obtain⟨hl,hv⟩:=h
 have key:∀ (l:List Value) (y:List Int),l.length=y.length->(∀ (j:Nat) (v:Value),l[j]? = some v->∃ t,v=Value.int (y.getD j 0) t)->IntsAre l y:=by
  intro l
  induction l with
  | nil=>
   intro y hl _
   match y,hl with
   | [],_=>exact .nil
  | cons v l ih=>
   intro y hl h
   match y,hl with
   | z :: y,hl=>
    obtain⟨u,rfl⟩:=h 0 v rfl
    exact .cons _ _ (ih y (by simpa using hl) fun j v hv=>by simpa using h (j+1) v (by simpa using hv))
 exact key vs.toList ks (by rw[Array.length_toList,hl,hn]) fun j v e=>hv j v (by rw[Array.getElem?_toList] at e;exact e)
theorem zg3{X:Cx}(hc:X.calm=true):zdh X (.builtin "sorted") (fun xs H Q=>∃ (a:Addr) (o:Obj) (ks:List Int) (vs:List V),xs=[.ref a]/\H a=some (knO a o)/\DiD a o ((ks.map Sum.inl).zip vs)/\ks.length=vs.length/\ks.length<64/\∀ (ns:List Int) (l:Addr),ns.Perm ks->ns.Pairwise (·<=·)->H l=none->Q (.ref l) (upd H l (.lst (ns.map V.int)))):=by
 intro pins s σ H xs us Q I r h
 obtain⟨a,o,ks,vs,rfl,hH,d,hl,h64,q⟩:=h
 obtain⟨u,rfl,rx⟩:=zfc r
 cases rx
 obtain⟨us,es,ep,rel,h4,hk,hd⟩:=d.at (P:=X.prog) (w:=X.w) hl (I.kn hH)
 have hu:us.length=ks.length:=by have:=congrArg List.length hk;simpa using this
 refine Calls.call_function_entry kind_sorted plain_sorted entry_sorted (args_sorted1 _) ?_
 unfold Builtin.«sorted»
 refine wpAny_bind (m:=checkCount "sorted" 1 1 _) (wpAny_pure ?_)
 refine wpAny_bind (kdu_collect (kdl_dict (knd:=zb9 X.prog X.w) d.1) (I.ok.hd hc) hd (by rw[hu,sizeLine_eq];lia) fun h' tk acc old hacc=>?_)
 have it:IntsAre acc.toList ks:=zeI hu ⟨hacc.1,fun i v e=>by
  obtain⟨k,x,e1,e2⟩:=hacc.2 i v e
  have z:=congrArg (fun l=>l[i]?) hk
  simp only[List.getElem?_map,e1,Option.map_some] at z
  cases hz:ks[i]? with
  | none=>rw[hz] at z;cases z
  | some y=>
   rw[hz] at z
   cases z
   rcases zaO (show zhk (Sum.inl y) v=true from e2) with ⟨j,t,w1,w2⟩ | ⟨_,_,w1,_⟩
   ·cases w1
    exact⟨t,by rw[w2,List.getD_eq_getElem?_getD,hz];rfl⟩
   ·cases w1⟩
 have vl:acc.toList.length<64:=by rw[Array.length_toList,hacc.1,hu];exact h64
 have I1:Inv X pins σ H { s with heap:=h',toks:=tk}:=I.kept old
 have g0:(h'.push (seqObj "list" acc.toList.toArray 0)).get? h'.objs.size=some (seqObj "list" acc.toList.toArray 0):=Heap.get?_push_size _ rfl
 refine wpAny_bind (wpAny_newList ?_ (by rw[sizeLine_eq];lia))
 show wpAny _ _ _ _ _ { s with heap:=h'.push (seqObj "list" acc.toList.toArray 0),toks:=tk}
 refine wpAny_bind (wpAny_holding (wpAny_call_entry slot_list_sort ⟨_,g0,rfl⟩ entry_list_sort (list_sort_tree g0 it vl fun out ns a1 a2 a3=>⟨_,rfl,?_⟩) (args_list_sort _)))
 obtain⟨e,he⟩:=sortedHeap_at (out:=out) g0
 refine wpAny_pure ⟨_,rfl,?_⟩
 have sz:(h'.push (seqObj "list" acc.toList.toArray 0)).objs.size=h'.objs.size+1:=by rw[Heap.size_push]
 refine⟨.ref h'.objs.size,_,I1.laid (a:=h'.objs.size) (o:=.lst (ns.map V.int)) (t':=tk) (fun b ob eb=>?_) (Nat.le_refl _) ⟨?_,out.toList,e,zeg a1,by rw[Array.toArray_toList];exact he⟩,rfl,q ns _ a2 a3 (I1.hok.fresh (Nat.le_refl _))⟩
 ·have lt:=Heap.lt_size eb
  rw[sortedHeap_old (Nat.ne_of_lt lt) (by rw[sz];exact Nat.lt_succ_of_lt lt)]
  exact Heap.get?_push_of_some _ eb
 ·rw[List.length_map,a2.length_eq,sizeLine_eq];lia
end L2
namespace L3
open PySem PySem.Spec PyProof.Rows L2
noncomputable def zfp(ks:List Int):List Int:=ks.mergeSort fun a b=>decide (a<=b)
theorem zcb(ks:List Int):(zfp ks).Perm ks:=List.mergeSort_perm _ _
theorem srtZ_up(ks:List Int):(zfp ks).Pairwise (·<=·):=by
 have:=List.pairwise_mergeSort (le:=fun a b:Int=>decide (a<=b)) (fun a b c h1 h2=>decide_eq_true (Int.le_trans (of_decide_eq_true h1) (of_decide_eq_true h2))) (fun a b=>by
  rcases Int.le_total a b with h | h
  ·rw[decide_eq_true h];rfl
  ·rw[decide_eq_true h,Bool.or_true]) ks
 exact this.imp fun h=>of_decide_eq_true h
theorem srtZ_only{ks ns:List Int}(h:ns.Perm ks)(hs:ns.Pairwise (·<=·)):ns=zfp ks:=
 List.Perm.eq_of_pairwise (fun _ _ _ _ h1 h2=>Int.le_antisymm h1 h2) hs (srtZ_up ks) (h.trans (zcb ks).symm)
noncomputable def zfs:List Ent->Option Ent
 | [x]=>(asDi x).bind fun p=>if p.1.length<64 then some (.own ((zfp p.1).map .int)) else none
 | _=>none
theorem c_srtDi{X:Cx}(hc:X.calm=true:=by rfl):zej X (.builtin "sorted") zfs:=⟨_,zg3 hc,fun H0 F H vs es res Q fh hh r q k=>by
 obtain⟨x,rfl⟩:=zex rfl (fun _ _ _=>rfl) q
 obtain⟨v,rfl,rz⟩:=zc1 r
 obtain⟨p,q1,q2⟩:=bind_some q
 cases zfA q1
 split at q2
 ·rename_i hlt
  cases q2
  cases (show Rep F v (.dcI p.1 p.2) from rz) with
  | @dcI a o ks vs ds e d hl rs=>
   refine⟨a,o,p.1,vs,rfl,fh _ _ e,d,hl,hlt,fun ns l h1 h2 hp=>?_⟩
   rw[srtZ_only h1 h2]
   exact k _ F _ (Ex.lay fh hp) ⟨l,_,rfl,hh.free hp,zae,Reps.ints _,fh.free hp⟩
 ·cases q2⟩
end L3

namespace L3
open PySem PySem.Spec PyProof.Rows L2
noncomputable def capV:Ent->Option Ent
 | .val d=>some (.val d)
 | _=>none
noncomputable def cEnX(fr:List Nat)(i:Nat)(δ:En)(d:D):En:=some (.val d) :: fr.map fun a=>if a=i then (oAt i δ).map .obj else ((δ[a]?).join).bind capV
noncomputable def lcX(fr:List Nat)(i j:Nat)(fx:FXE):List D->En->Option (List D × En)
 | [],δ=>some ([],δ)
 | d :: ds,δ=>(fx (cEnX fr i δ d)).bind fun p=>((oAt (j+1) p.2).bind lOf).bind fun es=>(lcX fr i j fx ds (δ.set i (some (.obj (.lst es))))).map fun q=>(p.1 :: q.1,q.2)
noncomputable def xLC(fr:List Nat)(i j:Nat)(fi:FI)(fx:FXE):FXE:=fun δ=>((oAt i δ).bind lOf).bind fun _=>(fi δ).bind fun ds=>(lcX fr i j fx ds δ).bind fun p=>if p.1.length<=1000000 then some (.lst p.1,p.2) else none
section
variable {K:PySem.W.Frag}{B:Bd}{F Hn H:Hp}{σ:Sg}{δ:En}{v:V}{d:D}{i j:Nat}{l:Addr}{es:List D}{fr:List Nat}
theorem zeU{n:Nat}{e:Ent}(h:(cEnX fr i δ d)[n+1]? = some (some e)):∃ b,fr[n]? = some b/\((b=i/\∃ o,oAt i δ=some o/\e=.obj o) \/ ∃ d',δ[b]? = some (some (.val d'))/\e=.val d'):=by
 unfold cEnX at h
 rw[List.getElem?_cons_succ,List.getElem?_map] at h
 cases q:fr[n]? with
 | none=>rw[q] at h;cases h
 | some b=>
  rw[q] at h
  have h':(if b=i then (oAt i δ).map .obj else ((δ[b]?).join).bind capV)=some e:=Option.some.inj h
  refine⟨b,rfl,?_⟩
  split at h'
  ·rename_i hb
   obtain⟨o,h1,h2⟩:=map_some h'
   exact .inl ⟨hb,o,h1,h2.symm⟩
  ·obtain⟨e',h1,h2⟩:=bind_some h'
   cases e' with
   | val d'=>
    cases h2
    refine .inr ⟨d',?_,rfl⟩
    cases z:δ[b]? with
    | none=>rw[z] at h1;cases h1
    | some o=>rw[z] at h1;rw[show o=some (.val d') from h1]
   | _=>cases h2
theorem RS.capX(s:RS K B F Hn σ δ)(sh:Same Hn H)(fh:Same F H)(hi:δ[i]? = some (some (.obj (.lst es))))(hs:σ[i]? = some (some (.ref l)))(hnd:fr.Nodup)(r:Rep F v d):RS K ⟨zda H [l],none⟩ F H (some v :: zd1 fr σ) (cEnX fr i δ d):=by
 have ho:oAt i δ=some (.lst es):=by unfold oAt;rw[hi]
 have sg:∀ {n b:Nat} {w:V},fr[n]? = some b->σ[b]? = some (some w)->(some v :: zd1 fr σ)[n+1]? = some (some w):=fun {n b w} h1 h2=>by
  rw[List.getElem?_cons_succ]
  unfold zd1
  rw[List.getElem?_map,h1]
  show some ((σ[b]?).join)=_
  rw[h2]
  rfl
 refine⟨fh,fun a u h=>(zao h).2,by simp[cEnX,zd1],fun n e h=>?_,fun a b l ds e hab h1=>?_,fun a b e1 e2 v1 v2 ad hab q1 q2 q3 q4 q5 q6 q7=>?_,fun w o hw _=>by cases hw⟩
 ·cases n with
  | zero=>cases h;exact⟨v,rfl,r⟩
  | succ n=>
   obtain⟨b,h1,h2⟩:=zeU h
   rcases h2 with ⟨rfl,o,h3,rfl⟩ | ⟨d',h3,rfl⟩
   ·rw[ho] at h3
    cases h3
    refine⟨_,sg h1 hs,?_⟩
    obtain⟨A,t,_,f⟩:=s.at hi hs
    cases t with
    | lst e1 e2=>exact⟨[l],.lst (sh _ _ e1) e2,by simp,fun a ha=>⟨(f a ha).1,zaZ ha⟩⟩
   ·obtain⟨w,h4,h5⟩:=s.ent b _ h3
    exact⟨w,sg h1 h4,h5⟩
 ·cases a with
  | zero=>cases h1
  | succ n=>
   obtain⟨b,_,h2⟩:=zeU h1
   rcases h2 with ⟨_,o,_,z⟩ | ⟨d',_,z⟩ <;> cases z
 ·cases a with
  | zero=>cases q1;cases q5
  | succ n=>
   obtain⟨x,h1,h2⟩:=zeU q1
   rcases h2 with ⟨hx,o,_,rfl⟩ | ⟨d',_,rfl⟩
   ·cases b with
    | zero=>cases q3;exact q7
    | succ n'=>
     obtain⟨y,h3,h4⟩:=zeU q3
     rcases h4 with ⟨hy,o',_,rfl⟩ | ⟨d',_,rfl⟩
     ·subst hx hy
      exact hab (by rw[(List.getElem?_inj (List.getElem?_eq_some_iff.mp h1).1 hnd).mp (h1.trans h3.symm)])
     ·exact q7
   ·cases q5
end
noncomputable def tDX(K:PySem.W.Frag)(f:FXE):TE:=fun σ H Q=>∃ B F δ d δ',RS K B F H σ δ/\f δ=some (d,δ')/\∀ v F' H',RS K B F' H' σ δ'->FX B F F'->Rep F' v d->Q v H'
theorem semX_tDX{K:PySem.W.Frag}{f:FXE}:SemX K (tDX K f) f:=fun B F _ _ δ d δ' _ s q k=>⟨B,F,δ,d,δ',s,q,k⟩
theorem VX.uni{X:Cx}{e:Expr}{f:FXE}(h:VX X e f):WE X e (tDX X.K f):=
 let⟨_,w,m⟩:=h.h;⟨fun pins s σ H Q I z=>let⟨B,F,δ,d,δ',s',q,k⟩:=z;w.h pins s σ H Q I (m B F H σ δ d δ' Q s' q k)⟩
theorem SemX.lc{K:PySem.W.Frag}{fr:List Nat}{i j:Nat}{wi:TI}{te:TE}{fi:FI}{fx:FXE}(hj:fr[j]? = some i)(hnd:fr.Nodup)(mi:SemI K wi fi)(me:SemX K te fx):SemX K (tLC fr wi tNoIf te) (xLC fr i j fi fx):=fun B F H σ δ d δ' Q s q k=>by
 obtain⟨es0,q0,q⟩:=bind_some q
 obtain⟨o,q00,q01⟩:=bind_some q0
 cases zeG q01
 obtain⟨ds,q1,q⟩:=bind_some q
 obtain⟨⟨out,δe⟩,q2,q⟩:=bind_some q
 split at q
 ·rename_i hlen
  have hlen:out.length<=1000000:=hlen
  cases q
  refine mi B F H σ δ ds _ s q1 fun J F1 H1 x1 io=>?_
  have s1:=s.ext x1
  intro a ha
  refine⟨fun n m ys H'=>m=ds.length - n/\n<=ds.length/\∃ F' Hn δ1 done rest es,H'=upd Hn a (.lst ys)/\Hn a=none/\RS K B F' Hn σ δ1/\FX B F1 F'/\Reps F' ys done/\δ1[i]? = some (some (.obj (.lst es)))/\lcX fr i j fx (ds.drop n) δ1=some (rest,δe)/\out=done ++ rest,
   ⟨_,rfl,Nat.zero_le _,F1,H1,δ,[],out,es0,rfl,ha,s1,.refl,.nil,zas q00,q2,rfl⟩,?_⟩
  rintro n m ys H' ⟨rfl,hi,F',Hn,δ1,dn,rest,es,rfl,hna,s',y',rs,hes,q',eo⟩
  have sN:Same Hn (upd Hn a (.lst ys)):=Same.alloc hna
  have fa:F' a=none:=s'.fh.free hna
  obtain⟨hstop,hgo⟩:=io F' (upd Hn a (.lst ys)) y'.ff (s'.fh.trans sN) (s'.bh.trans sN)
  by_cases hlt:n<ds.length
  ·right
   have hd:ds[n]? = some ds[n]:=by simp[hlt]
   obtain⟨g1,g2⟩:=hgo n _ hd
   rw[List.drop_eq_getElem_cons hlt] at q'
   obtain⟨p1,q3,q'⟩:=bind_some q'
   obtain⟨es1,q4,q'⟩:=bind_some q'
   obtain⟨o1,q4,q5⟩:=bind_some q4
   cases zeG q5
   obtain⟨⟨rest1,δ2⟩,q6,q'⟩:=map_some q'
   cases q'
   refine⟨g1,fun v H2 yl=>?_⟩
   obtain⟨F2,x2,r2⟩:=g2 v H2 yl
   have f2a:F2 a=none:=(x2.nw a _ zae rfl).trans fa
   have h2a:H2 a=some (.lst ys):=x2.hh _ _ zae
   have xn:Ex F' Hn F2 (zda H2 [a]):=⟨x2.ff,fun b u e=>zaE (fun z=>by
     rw[List.mem_singleton.mp z,f2a] at e
     cases e) (x2.fh _ _ e),fun b u e=>zaE (fun z=>by
     rw[List.mem_singleton.mp z,hna] at e
     cases e) (x2.hh _ _ (sN _ _ e)),fun b u e ht=>x2.nw b u (sN _ _ e) ht⟩
   have s2:=s'.ext xn
   obtain⟨w0,hs0,A0,t0,n0,f0⟩:=s2.ent i _ hes
   cases t0 with
   | @lst l vs _ e1 e2=>
    obtain⟨hla,e1'⟩:=zao e1
    have hla':l ≠ a:=fun z=>hla (by simp[z])
    have sc:=s2.capX (v:=v) (d:=ds[n]) (fr:=fr) (fun b u e=>(zao e).2) x2.fh hes hs0 hnd r2
    show te _ H2 _
    refine me _ F2 H2 _ _ p1.1 p1.2 _ sc q3 fun w F4 H4 s4 y4 r4=>?_
    have keep:∀ b u,b ≠ l->H2 b=some u->H4 b=some u:=fun b u hb e=>s4.bh b u (zaE (by simpa using hb) e)
    have f4a:F4 a=none:=(y4.nw a _ (zaE (by simpa using Ne.symm hla') h2a) rfl).trans f2a
    have h4a:=keep a _ (Ne.symm hla') h2a
    have hsl:(some v :: zd1 fr σ)[j+1]? = some (some (.ref l)):=by
     rw[List.getElem?_cons_succ]
     unfold zd1
     rw[List.getElem?_map,hj]
     show some ((σ[i]?).join)=_
     rw[hs0]
     rfl
    obtain⟨A5,t5,_,f5⟩:=s4.at (zas q4) hsl
    cases t5 with
    | @lst _ vs5 _ g1 g2=>
     have fl:F4 l=none:=(f5 l (by simp)).1
     have ch:Chg (zda H2 [a]) F2 F4 (zda H4 [a]) [l]:=⟨y4.ff,fun b u e=>zaE (fun z=>by
       rw[List.mem_singleton.mp z,f4a] at e
       cases e) (s4.fh _ _ e),fun b u e=>by
       obtain⟨z1,z2⟩:=zao e
       obtain⟨z3,z4⟩:=zao z2
       exact zaE z3 (keep b u (by simpa using z1) z4),fun b u e ht=>by
       obtain⟨z1,z2⟩:=zao e
       exact y4.nw b u (zaE z1 (zao z2).2) ht⟩
     obtain⟨s5,y5⟩:=s2.chg (o':=.lst es1) (A':=[l]) hes hs0 (.lst e1 e2) ch (.lst (zaE hla g1) g2) (by simp) fun b hb=>by
      cases List.mem_singleton.mp hb
      exact⟨fl,zaZ (by simp)⟩
     have hil:i<δ1.length:=(List.getElem?_eq_some_iff.mp hes).1
     have hy:ys.length<sizeLine:=by
      rw[rs.length,sizeLine_eq]
      have:out.length=dn.length+(rest1.length+1):=by rw[eo];simp
      lia
     refine⟨h4a,hy,ds.length - (n+1),by lia,rfl,hlt,F4,zda H4 [a],δ1.set i (some (.obj (.lst es1))),dn ++ [p1.1],rest1,es1,?_,zaZ (by simp),s5,(y'.trans (.of xn s'.bh)).trans y5,((rs.mono x2.ff).mono y4.ff).append (.one r4),by rw[List.getElem?_set,if_pos rfl,if_pos hil],q6,by rw[eo];simp⟩
     funext b
     unfold upd
     split
     ·rfl
     ·rename_i hb;exact(zb2 (by simpa using hb)).symm
  ·left
   have e:n=ds.length:=by lia
   subst e
   rw[List.drop_length] at q'
   cases q'
   rw[List.append_nil] at eo
   subst eo
   have xa:Ex F' Hn (upd F' a (.lst ys)) (upd Hn a (.lst ys)):=Ex.alloc s'.fh hna
   exact⟨hstop,k _ _ _ (s'.ext xa) (((FX.of x1 s.bh).trans y').trans (.of xa s'.bh)) (.lst zae (rs.mono (Same.alloc fa)))⟩
 ·cases q
section
variable {X:Cx}{N:List Str}{fr:List Nat}{x:Str}{scope:Scope}{iter elt:Expr}{px pos:Pos}{fi:FI}{fx:FXE}
theorem xlc(i j:Nat)(S:CompSc X N fr x scope)(hi:VI X (.Name x px) iter fi)(he:∀ (C:Addr) (s₀:Shared) (H₀:Hp) (fp:List Addr),VX (cxC X N scope C s₀ H₀ fp) elt fx)(hj:fr[j]? = some i:=by rfl)(hnd:fr.Nodup:=by decide)
  (hc:X.calm=true:=by rfl) (hs:∀ z,foldedSetIterable iter X.env z=pure z:=by intro _;rfl):VX X (.ListComp elt [⟨.Name x px,iter,[],0⟩] scope pos) (xLC fr i j fi fx):=
 let⟨_,w1,m1⟩:=hi.h;⟨_,wlc S hc w1 (fun _ _ _ _=>ifs0) (fun C s₀ H₀ fp=>(he C s₀ H₀ fp).uni) hs,SemX.lc hj hnd m1 semX_tDX⟩
end
end L3

namespace L3
open PySem PySem.Spec PyProof.Rows L2
mutual
noncomputable def toD(kC:Str->Addr):OT->Option D
 | .val d=>some d
 | .ins c ns l=>(toDs kC l).map (.ins (kC c) ns)
 | .dcI ks l=>(toDs kC l).map (.dcI ks)
 | .dcS ks l=>(toDs kC l).map (.dcS ks)
 | .los l=>(toDs kC l).map .lst
 | _=>none
noncomputable def toDs(kC:Str->Addr):List OT->Option (List D)
 | []=>some []
 | o :: os=>(toD kC o).bind fun d=>(toDs kC os).map fun ds=>d :: ds
end
mutual
noncomputable def plD:D->Bool
 | .non=>true
 | .bl _=>true
 | .int _=>true
 | .str _=>true
 | .tup l=>plDs l
 | _=>false
noncomputable def plDs:List D->Bool
 | []=>true
 | d :: ds=>plD d && plDs ds
end
section
variable {K:PySem.W.Frag}{kC:Str->Addr}{F H F1:Hp}{A:List Addr}
theorem TR.frz(hK:∀ c C,zbK K c C->C=kC c)(sf:Same F F1){v:V}{o:OT}{A:List Addr}(t:TR K F H v o A):(∀ a ∈ A,F1 a=H a)->∀ {d:D},toD kC o=some d->Rep F1 v d:=by
 refine TR.rec (motive_1:=fun v o A _=>(∀ a ∈ A,F1 a=H a)->∀ {d:D},toD kC o=some d->Rep F1 v d) (motive_2:=fun vs os A _=>(∀ a ∈ A,F1 a=H a)->∀ {ds:List D},toDs kC os=some ds->Reps F1 vs ds) ?_ ?_ ?_ ?_ ?_ ?_ ?_ ?_ t
 ·intro _ _ r _ d q
  simp only[toD] at q
  cases q
  exact Rep.mono sf r
 ·intro _ _ _ _ _ _ d q;simp only[toD] at q;cases q
 ·intro _ _ _ _ _ _ _ _ hc e1 _ hl _ ih h d q
  simp only[toD] at q
  obtain⟨ds,q1,q⟩:=map_some q
  subst q
  rw[<- hK _ _ hc]
  exact .ins ((h _ List.mem_cons_self).trans e1) hl (ih (fun a ha=>h a (List.mem_cons_of_mem _ (List.mem_cons_of_mem _ ha))) q1)
 ·intro _ _ _ _ _ _ e1 d1 hl _ ih h d q
  simp only[toD] at q
  obtain⟨ds,q1,q⟩:=map_some q
  subst q
  exact .dcI ((h _ List.mem_cons_self).trans e1) d1 hl (ih (fun a ha=>h a (List.mem_cons_of_mem _ ha)) q1)
 ·intro _ _ _ _ _ e1 hl _ ih h d q
  simp only[toD] at q
  obtain⟨ds,q1,q⟩:=map_some q
  subst q
  exact .dcS ((h _ List.mem_cons_self).trans e1) hl (ih (fun a ha=>h a (List.mem_cons_of_mem _ ha)) q1)
 ·intro _ _ _ _ e1 _ ih h d q
  simp only[toD] at q
  obtain⟨ds,q1,q⟩:=map_some q
  subst q
  exact .lst ((h _ List.mem_cons_self).trans e1) (ih (fun a ha=>h a (List.mem_cons_of_mem _ ha)) q1)
 ·intro _ d q
  simp only[toDs] at q
  cases q
  exact .nil
 ·intro _ _ _ _ _ _ _ _ i1 i2 h d q
  simp only[toDs] at q
  obtain⟨d1,q1,q⟩:=bind_some q
  obtain⟨ds,q2,q⟩:=map_some q
  subst q
  exact .cons (i1 (fun a ha=>h a (List.mem_append_left _ ha)) q1) (i2 (fun a ha=>h a (List.mem_append_right _ ha)) q2)
theorem Rep.off(hA:∀ a ∈ A,∃ u,F a=some u/\isT u=false){v:V}{d:D}(r:Rep F v d):plD d=true->Rep (zda F A) v d:=by
 refine Rep.rec (motive_1:=fun v d _=>plD d=true->Rep (zda F A) v d) (motive_2:=fun vs ds _=>plDs ds=true->Reps (zda F A) vs ds) (fun _=>.non) (fun b _=>.bl b) (fun i _=>.int i) (fun x _=>.str x) ?_ ?_ ?_ ?_ ?_ ?_ (fun _=>.nil) ?_ r
 ·intro _ _ _ e _ ih h
  simp only[plD] at h
  refine .tup (zaE (fun z=>?_) e) (ih h)
  obtain⟨u,h1,h2⟩:=hA _ z
  rw[e] at h1
  cases h1
  cases h2
 ·intro _ _ _ _ _ _ h;simp only[plD] at h;cases h
 ·intro _ _ _ _ _ _ _ _ _ h;simp only[plD] at h;cases h
 ·intro _ _ _ _ _ _ _ _ _ _ h;simp only[plD] at h;cases h
 ·intro _ _ _ _ _ _ _ _ _ _ h;simp only[plD] at h;cases h
 ·intro _ _ _ _ _ _ _ _ h;simp only[plD] at h;cases h
 ·intro _ _ _ _ _ _ i1 i2 h
  simp only[plDs,Bool.and_eq_true] at h
  exact .cons (i1 h.1) (i2 h.2)
end
theorem kC_ex(K:PySem.W.Frag):∃ kC:Str->Addr,∀ c C,zbK K c C->C=kC c:=by
 classical
 refine⟨fun c=>if h:∃ C,zbK K c C then h.choose else 0,fun c C h=>?_⟩
 have hx:∃ C,zbK K c C:=⟨C,h⟩
 show C=if h:∃ C,zbK K c C then h.choose else 0
 rw[dif_pos hx]
 exact zcg h hx.choose_spec
section
variable {P:Program}{w:World}{K:PySem.W.Frag}{mg:Str->Option Value}{base:Heap}{x qual:Str}{st:Stmt}{f:Addr}{fd:FuncData}{N ps:List Str}{k n:Nat}{g:GM}
end
noncomputable def fNon:OT->Option Bool
 | .val d=>some (isN (.val d))
 | .ins _ _ _=>some false
 | _=>none
noncomputable def eFIs(i:Nat)(c:Str)(ns:List Str)(k:Nat):FE:=fun δ=>((oAt i δ).bind (isC c ns)).bind fun l=>((l[k]?).bind fNon).map fun b=>.val (.bl b)
noncomputable def xCOF(i:Nat)(c:Str)(ns:List Str)(k:Nat)(g:GM)(fa:FA):FXE:=fun δ=>((oAt i δ).bind (isC c ns)).bind fun l=>(l[k]?).bind fun o=>((fa δ).bind zfa).bind fun ds=>(g o ds).map fun p=>(p.1,δ.set i (some (.obj (.ins c ns (l.set k p.2)))))
section
variable {X:Cx}{e:Expr}{es:List Expr}{pos pos' p p2:Pos}{fa:FA}{x y f c qual:Str}{ns nsF ps:List Str}{g:GM}{fd:FuncData}{fm:Addr}{st:Stmt}{kk j:Nat}{CX:CXT}{E:XK}
theorem vFIs(i k:Nat){n:Nat}(hc:ClsF X.K c nsF)(hf:f ∈ nsF:=by decide +kernel)(hk:ns[k]? = some f:=by rfl)(hn:ns.Nodup:=by decide +kernel)(hN:X.N[i]? = some x:=by rfl)(hv:Vis X.env.scope x:=by first | exact Or.inl rfl | exact Or.inr (Or.inl rfl) | exact Or.inr (Or.inr rfl))(hd:(x == ("__debug__" : Str))=false:=by decide)
  (hcd:(x == ("__classdict__" : Str))=false:=by decide) (hb:attributeBase (.Name x p) f X.env (eval (.Name x p) X.env)=eval (.Name x p) X.env:=by rfl) (hm:behindInMarks .Is (.Constant .none n p2)=false:=by rfl) :
  VT X (.Compare (.Attribute (.Name x p) f pos') [.Is] [.Constant .none n p2] pos) (tOf (eFIs i c ns k)):=by
 refine⟨_,tcmp op_isN ⟨zdH (wv i hN hv hd hcd).h hb⟩ wnon hm,fun B F H σ δ b Q s q kk=>?_⟩
 obtain⟨res,q,q9⟩:=bind_some q
 obtain⟨l,q0,q⟩:=bind_some q
 obtain⟨o,q0,q1⟩:=bind_some q0
 obtain⟨b',q2,q⟩:=map_some q
 subst q
 cases q9
 obtain⟨x1,q2,q3⟩:=bind_some q2
 cases zdr q1
 obtain⟨v,h1,A,t,n,h⟩:=s.ent i _ (zas q0)
 cases t with
 | ins hcl e1 e2 hl ts=>
  obtain⟨w,A1,h2,h3,_⟩:=ts.focus q2
  obtain⟨g1,g2⟩:=hc.h _ hcl
  refine⟨_,h1,_,_,_,_,w,rfl,e1,g1,g2 f hf,zcW hn hk h2,rfl,_,rfl,?_⟩
  have e:decide (w=.non)=b:=by
   cases x1 with
   | val d=>cases q3;cases h3 with | val h3=>exact isN_ok (K:=X.K) (H0:=H) (H:=H) (e:=.val d) h3
   | ins _ _ _=>cases q3;cases h3;rfl
   | _=>cases q3
  rw[e]
  exact kk F H (Ex.refl s.fh)
theorem xcof(i k:Nat)(hc:ClsF X.K c nsF)(F:FnOk X.prog X.w X.K X.mg X.base CX kk fm fd ps (spM X.K g))(D:Def X.K X.mg y st ps fm fd)(hr:Room j X.A)(hg:Gl X y)(hx:zbL CX X E)(ha:VA X es fa)(hf:f ∈ nsF:=by decide +kernel)(hk:ns[k]? = some f:=by rfl)(hn:ns.Nodup:=by decide +kernel)(hjk:kk<=j:=by decide)
  (hdb:(y == ("__debug__" : Str))=false:=by decide) (h2:es.all zap=true:=by rfl) (hN:X.N[i]? = some x:=by rfl) (hv:Vis X.env.scope x:=by first | exact Or.inl rfl | exact Or.inr (Or.inl rfl) | exact Or.inr (Or.inr rfl)) (hd:(x == ("__debug__" : Str))=false:=by decide) (hcd:(x == ("__classdict__" : Str))=false:=by decide)
  (hb:attributeBase (.Name x p) f X.env (eval (.Name x p) X.env)=eval (.Name x p) X.env:=by rfl) :
  VX X (.Call (.Name y p2) (.Attribute (.Name x p) f pos' :: es) [] pos) (xCOF i c ns k g fa):=by
 obtain⟨t,w,m⟩:=ha.h
 refine⟨_,wcl F D hr hg hx (wac ⟨zdH (wv i hN hv hd hcd).h hb⟩ w rfl) hjk hdb rfl h2,fun B F H σ δ d δ' Q s q kk=>?_⟩
 obtain⟨l,q0,q⟩:=bind_some q
 obtain⟨o,q0,q1⟩:=bind_some q0
 obtain⟨o1,q5,q⟩:=bind_some q
 obtain⟨ds,q2,q⟩:=bind_some q
 obtain⟨rs,q2,q3⟩:=bind_some q2
 obtain⟨p1,q4,q⟩:=map_some q
 cases q
 cases zdr q1
 obtain⟨v,h1,A,t0,n0,f0⟩:=s.ent i _ (zas q0)
 cases t0 with
 | ins hcl e1 e2 hl ts=>
  obtain⟨g1,g2⟩:=hc.h _ hcl
  obtain⟨w,A1,h2,h3,h4,h4n,_⟩:=ts.focus q5
  have nA:=(List.nodup_cons.mp (List.nodup_cons.mp n0).2).2
  refine⟨_,h1,_,_,_,_,w,rfl,e1,g1,g2 f hf,zcW hn hk h2,?_⟩
  refine m B F H σ δ rs _ s q2 fun vs F1 H1 x1 r1=>?_
  obtain⟨F2,x2,_,r2⟩:=RepRs.frz x1 (Same.refl _) r1 q3
  have s2:=s.ext x2
  have tt:=h3.ext x2
  have ts2:=ts.move (H':=H1) x2.ff fun b hb=>let⟨u,hu,_⟩:=ts.lies b hb;(x2.hh _ _ hu).trans hu.symm
  rw[List.append_nil]
  refine⟨w,vs,F2,_,_,ds,p1.1,p1.2,rfl,s2.fh,tt.1,h4n nA,fun a ha=>(tt.2 a ha).trans (f0 a (List.mem_cons_of_mem _ (List.mem_cons_of_mem _ (h4 a ha)))).1,r2,q4,fun y F' H' A' ch t' n' f' ry=>?_⟩
  obtain⟨z1,z2⟩:=s2.sub (zas q0) h1 hcl (x2.hh _ _ e1) (x2.hh _ _ e2) hl ts2 q5 h2 tt.1 ch t' n' f'
  exact kk y F' H' z1 ((FX.of x2 s.bh).trans z2) ry
theorem vmake0{C:Addr}(DC:ClsD X.K X.mg c nsF C)(D:MakeD X.K c st qual ps fm fd)(F:FnOk X.prog X.w X.K X.mg X.base CX kk fm fd ps (spM X.K g))(hr:Room j X.A)(hg:Gl X c)(hx:zbL CX X E)(hjk:kk+1<=j:=by decide)(hdb:(c == ("__debug__" : Str))=false:=by decide) :
  VE X (.Call (.Name c p) [] [] pos) (zcQ c g zag):=⟨_,⟨pe_make0 (D.at_ _ DC.at_) F (hr.mono hjk) hg DC.mg D.b .nil hx hdb⟩,.make semNil DC.at_⟩
end
theorem RS.fgt{K:PySem.W.Frag}{B:Bd}{F H:Hp}{σ:Sg}{δ:En}(s:RS K B F H σ δ)(i:Nat)(v:Option V):RS K B F H (σ.set i v) (δ.set i none):=by
 have key:∀ {j:Nat} {e:Ent},(δ.set i none)[j]? = some (some e)->i ≠ j/\δ[j]? = some (some e):=fun {j e} h=>by
  rw[List.getElem?_set] at h
  split at h
  ·split at h <;> cases h
  ·rename_i z;exact⟨z,h⟩
 have sg:∀ {j:Nat},i ≠ j->(σ.set i v)[j]? = σ[j]?:=fun {j} h=>by rw[List.getElem?_set,if_neg h]
 refine⟨s.fh,s.bh,by simp[s.len],fun j e h=>?_,fun a b l ds e hab h1 h2 h3 h4=>?_,fun a b e1 e2 v1 v2 ad hab h1 h2 h3 h4 h5 h6 h7=>?_,fun w o hw ho=>?_⟩
 ·obtain⟨z,h'⟩:=key h
  rw[sg z]
  exact s.ent j e h'
 ·obtain⟨z1,h1'⟩:=key h1
  obtain⟨z2,h3'⟩:=key h3
  rw[sg z1] at h2
  rw[sg z2]
  exact s.ap a b l ds e hab h1' h2 h3' h4
 ·obtain⟨z1,h1'⟩:=key h1
  obtain⟨z2,h3'⟩:=key h3
  rw[sg z1] at h2
  rw[sg z2] at h4
  exact s.ao a b e1 e2 v1 v2 ad hab h1' h2 h3' h4 h5 h6 h7
 ·obtain⟨z,h'⟩:=key ho
  rw[sg z]
  exact s.pn w o hw h'
end L3

namespace L3
open PySem PySem.Spec PyProof.Rows L2
noncomputable def mkK(w:Str)(ks:List Int)(os:List OT):OT:=.ins "Knot" ["word","branches"] [.val (.str w),.dcI ks os]
noncomputable def knOf:OT->Option (Str × List Int × List OT)
 | .ins c ns [.val (.str w),.dcI ks os]=>if c = "Knot" /\ ns=(["word","branches"]:List Str) then some (w,ks,os) else none
 | _=>none
theorem knOf_some{o:OT}{p:Str × List Int × List OT}(h:knOf o=some p):o=mkK p.1 p.2.1 p.2.2:=by
 unfold knOf at h
 split at h
 ·split at h
  ·rename_i z;cases h;rw[z.1,z.2];rfl
  ·cases h
 ·cases h
theorem knOf_mk(w:Str)(ks:List Int)(os:List OT):knOf (mkK w ks os)=some (w,ks,os):=by
 unfold knOf mkK
 exact if_pos ⟨rfl,rfl⟩
noncomputable def zfJ(rc:OT->Option (Bool × OT))(w w':Str)(ks:List Int)(os:List OT)(p:Int):Option (Bool × OT):=
 if 0<p then (match ixI ks p with
  | some j=>(os[j]?).bind fun y=>(rc y).map fun q=>(q.1,mkK w' ks (os.set j q.2))
  | none=>if ks.length<1000000 then some (true,mkK w' (ks ++ [p]) (os ++ [mkK w [] []])) else none)
 else if p=0 then some (false,mkK w' ks os) else none
noncomputable def zdn(gs:List D->Option Ent)(w:Str):Nat->OT->Option (Bool × OT)
 | 0,_=>none
 | n+1,x=>(knOf x).bind fun k=>((gs [.str k.1,.str w]).bind iOf).bind fun p=>zfJ (zdn gs w n) w k.1 k.2.1 k.2.2 p
noncomputable def sAt(i:Nat):En->Option Str:=fun δ=>match δ[i]? with
 | some (some (.val (.str z)))=>some z
 | _=>none
theorem sAt_some{i:Nat}{δ:En}{z:Str}(h:sAt i δ=some z):δ[i]? = some (some (.val (.str z))):=by
 unfold sAt at h
 split at h
 ·rename_i e;cases h;exact e
 ·cases h
noncomputable def fHang(gs:List D->Option Ent):FS:=fun δ=>(oAt 0 δ).bind fun o=>(sAt 1 δ).bind fun w=>if 3<δ.length then (zdn gs w 1000 o).map fun p=>.rt (.val (.bl p.1)) (δ.set 0 (some (.obj p.2))) else none
noncomputable def tSl(K:PySem.W.Frag)(gs:List D->Option Ent):TE:=zdl (spD K [.v,.v] gs) [] E0 (zcL (zhn K (zb0 2) "word") (zcL (zb0 1) zfi))
noncomputable def tHang(K:PySem.W.Frag)(gs:List D->Option Ent)(tK:TE):TS:=zfb (zdS (zb0 0) (zbJ 2)) (zfb (zdS (tSl K gs) (zbJ 3)) (zfb (zgy (tAnd (zeh (tOp (rI0 fun i j=>.bl (decide (j<i))) (zb0 3) (tC (.int 0)))) (zeh (tOp rInI (zb0 3) (zhn K (zb0 2) "branches"))))
  (zfb (zdS (tOp rIxI (zhn K (zb0 2) "branches") (zb0 3)) (zbJ 2)) (zdS (tSl K gs) (zbJ 3))))
 (zfb (zgL (zeh (tOp rEq (zb0 3) (tC (.int 0)))) (zhr (tC (.bl false))) zdv) (zfb (zdS tK (gSub (zhn K (zb0 2) "branches") (zb0 3) rSetI)) (zhr (tC (.bl true)))))))
section
variable {K:PySem.W.Frag}{F H:Hp}{v v1:V}{w w':Str}{ks:List Int}{os:List OT}{A A1 A4:List Addr}{a dx l C:Addr}{o:Obj}{vs:List V}{up:OT->OT}{gs:List D->Option Ent}
theorem zdY(t:TR K F H v (mkK w ks os) A):∃ a dx C l o vs A4,v=.ref a/\A=a :: dx :: l :: A4/\zbK K "Knot" C/\H a=some (.ins C dx [("word",.str w),("branches",.ref l)])/\H dx=some (.own a)/\H l=some (knO l o)/\DiD l o ((ks.map Sum.inl).zip vs)/\ks.length=vs.length/\TRs K F H vs os A4:=by
 cases t with
 | ins hc e1 e2 hl ts=>
  cases ts with
  | cons t1 ts=>
   cases t1 with
   | val r=>
    cases r
    cases ts with
    | cons t2 ts=>
     cases ts
     cases t2 with
     | dcI e d hl2 ts2=>exact⟨_,_,_,_,_,_,_,rfl,by simp,hc,e1,e2,e,d,hl2,ts2⟩
theorem kn_mk(hc:zbK K "Knot" C)(e1:H a=some (.ins C dx [("word",.str w),("branches",.ref l)]))(e2:H dx=some (.own a))(e:H l=some (knO l o))(d:DiD l o ((ks.map Sum.inl).zip vs))(hl:ks.length=vs.length)(ts:TRs K F H vs os A4):TR K F H (.ref a) (mkK w ks os) (a :: dx :: l :: A4):=by
 unfold mkK
 have:=TR.ins (ns:=["word","branches"]) (vs:=[.str w,.ref l]) hc e1 e2 rfl (.cons (.val (.str w)) (.cons (.dcI e d hl ts) .nil))
 simpa using this
noncomputable def Plug(K:PySem.W.Frag)(F H:Hp)(v:V)(A:List Addr)(v1:V)(A1:List Addr)(up:OT->OT):Prop:=(∀ b ∈ A1,b ∈ A) /\
 ∀ (F2 H2:Hp) (x':OT) (A1':List Addr),Same F F2->(∀ b ∈ A,b ∉ A1->H2 b=H b)->TR K F2 H2 v1 x' A1'->A1'.Nodup->(∀ b ∈ A1',b ∈ A1 \/ b ∉ A)->∃ A',TR K F2 H2 v (up x') A'/\A'.Nodup/\∀ b ∈ A',(b ∈ A/\b ∉ A1) \/ b ∈ A1'
theorem Plug.refl:Plug K F H v A v A id:=⟨fun _ h=>h,fun _ _ _ A1' _ _ t n _=>⟨A1',t,n,fun _ hb=>.inr hb⟩⟩
theorem Plug.down{j:Nat}{y:OT}(P:Plug K F H v A (.ref a) (a :: dx :: l :: A4) up)(hc:zbK K "Knot" C)(e1:H a=some (.ins C dx [("word",.str w),("branches",.ref l)]))(e2:H dx=some (.own a))(e:H l=some (knO l o))(d:DiD l o ((ks.map Sum.inl).zip vs))(hl:ks.length=vs.length)(ts:TRs K F H vs os A4)
  (n:(a :: dx :: l :: A4).Nodup) (hj:os[j]? = some y):∃ v2 A2,vs[j]? = some v2/\TR K F H v2 y A2/\A2.Nodup/\Plug K F H v A v2 A2 fun y'=>up (mkK w ks (os.set j y')):=by
 obtain⟨v2,A2,h1,h2,h3,h4,go⟩:=ts.focus hj
 obtain⟨na,n⟩:=List.nodup_cons.mp n
 obtain⟨nd,n⟩:=List.nodup_cons.mp n
 obtain⟨nl,n4⟩:=List.nodup_cons.mp n
 have up4:∀ b ∈ A4,b ∈ a :: dx :: l :: A4:=fun b hb=>List.mem_cons_of_mem _ (List.mem_cons_of_mem _ (List.mem_cons_of_mem _ hb))
 have na4:a ∉ A4:=fun z=>na (List.mem_cons_of_mem _ (List.mem_cons_of_mem _ z))
 have nd4:dx ∉ A4:=fun z=>nd (List.mem_cons_of_mem _ z)
 have top:∀ b,b=a \/ b=dx \/ b=l->b ∈ A/\b ∉ A4:=fun b hb=>by
  rcases hb with rfl | rfl | rfl
  ·exact⟨P.1 _ List.mem_cons_self,na4⟩
  ·exact⟨P.1 _ (List.mem_cons_of_mem _ List.mem_cons_self),nd4⟩
  ·exact⟨P.1 _ (List.mem_cons_of_mem _ (List.mem_cons_of_mem _ List.mem_cons_self)),nl⟩
 refine⟨v2,A2,h1,h2,h4 n4,fun b hb=>P.1 b (up4 b (h3 b hb)),fun F2 H2 y' A2' sf hh ty ny hy=>?_⟩
 obtain⟨A4',m1,m2,m3⟩:=go F2 H2 y' A2' n4 sf (fun b hb hn=>hh b (P.1 b (up4 b hb)) hn) ty ny fun b hb=>(hy b hb).imp id fun z q=>z (P.1 b (up4 b q))
 have st:∀ b,b=a \/ b=dx \/ b=l->H2 b=H b:=fun b hb=>hh b (top b hb).1 fun z=>(top b hb).2 (h3 b z)
 have T:=kn_mk (w:=w) (ks:=ks) (os:=os.set j y') hc ((st a (.inl rfl)).trans e1) ((st dx (.inr (.inl rfl))).trans e2) ((st l (.inr (.inr rfl))).trans e) d hl m1
 have no:∀ b,b=a \/ b=dx \/ b=l->b ∉ A4':=fun b hb z=>by
  rcases m3 b z with z | z
  ·exact(top b hb).2 z.1
  ·rcases hy b z with z | z
   ·exact(top b hb).2 (h3 b z)
   ·exact z (top b hb).1
 have T':(a :: dx :: l :: A4').Nodup:=by
  refine List.nodup_cons.mpr ⟨fun z=>?_,List.nodup_cons.mpr ⟨fun z=>?_,List.nodup_cons.mpr ⟨no l (.inr (.inr rfl)),m2⟩⟩⟩
  ·rcases List.mem_cons.mp z with z | z
   ·exact na (by rw[z];exact List.mem_cons_self)
   ·rcases List.mem_cons.mp z with z | z
    ·exact na (by rw[z];exact List.mem_cons_of_mem _ List.mem_cons_self)
    ·exact no a (.inl rfl) z
  ·rcases List.mem_cons.mp z with z | z
   ·exact nd (by rw[z];exact List.mem_cons_self)
   ·exact no dx (.inr (.inl rfl)) z
 have cs:∀ b ∈ a :: dx :: l :: A4',(b=a \/ b=dx \/ b=l) \/ b ∈ A4':=fun b hb=>by
  rcases List.mem_cons.mp hb with z | hb
  ·exact .inl (.inl z)
  ·rcases List.mem_cons.mp hb with z | hb
   ·exact .inl (.inr (.inl z))
   ·rcases List.mem_cons.mp hb with z | hb
    ·exact .inl (.inr (.inr z))
    ·exact .inr hb
 have tp:∀ b,b=a \/ b=dx \/ b=l->b ∈ a :: dx :: l :: A4:=fun b hb=>by
  rcases hb with rfl | rfl | rfl
  ·exact List.mem_cons_self
  ·exact List.mem_cons_of_mem _ List.mem_cons_self
  ·exact List.mem_cons_of_mem _ (List.mem_cons_of_mem _ List.mem_cons_self)
 obtain⟨A',p1,p2,p3⟩:=P.2 F2 H2 _ _ sf (fun b hb hn=>hh b hb fun z=>hn (up4 b (h3 b z))) T T' fun b hb=>by
  rcases cs b hb with z | z
  ·exact .inl (tp b z)
  ·rcases m3 b z with z | z
   ·exact .inl (up4 b z.1)
   ·exact(hy b z).imp (fun z=>up4 b (h3 b z)) id
 refine⟨A',p1,p2,fun b hb=>?_⟩
 rcases p3 b hb with z | z
 ·exact .inl ⟨z.1,fun q=>z.2 (up4 b (h3 b q))⟩
 ·rcases cs b z with z | z
  ·exact .inl ⟨(top b z).1,fun q=>(top b z).2 (h3 b q)⟩
  ·exact(m3 b z).imp (fun z=>⟨P.1 b (up4 b z.1),z.2⟩) id
theorem sl_ok{σ:Sg}{p:Int}{Q:VK}(hc:ClsF K "Knot" ["word","branches"])(fh:Same F H)(h2:σ[2]? = some (some (.ref a)))(h1:σ[1]? = some (some (.str w)))(t:TR K F H (.ref a) (mkK w' ks os) A)(hg:gs [.str w',.str w]=some (.val (.int p)))
  (k:∀ F' H',Ex F H F' H'->Q (.int p) H'):tSl K gs σ H Q:=by
 obtain⟨a',dx,C,l,o,vs,A4,e,_,hcl,e1,e2,_⟩:=zdY t
 cases e
 obtain⟨g1,g2⟩:=hc.h _ hcl
 refine⟨_,h2,_,_,_,_,_,rfl,e1,g1,g2 "word" (by decide +kernel),rfl,_,h1,?_⟩
 refine⟨F,[.str w',.str w],.val (.int p),fh,.cons (k:=.v) (.str w') (.cons (k:=.v) (.str w) .nil),hg,fun v F' H' x r=>?_⟩
 cases zaD r
 exact k F' H' x
theorem br_ok{σ:Sg}{Q:VK}(hc:ClsF K "Knot" ["word","branches"])(h2:σ[2]? = some (some (.ref a)))(hcl:zbK K "Knot" C)(e1:H a=some (.ins C dx [("word",.str w),("branches",.ref l)]))(k:Q (.ref l) H):zhn K (zb0 2) "branches" σ H Q:=by
 obtain⟨g1,g2⟩:=hc.h _ hcl
 exact⟨_,h2,_,_,_,_,_,rfl,e1,g1,g2 "branches" (by decide +kernel),rfl,k⟩
theorem zeu{n:Nat}{x:OT}{r:Bool × OT}(h:zdn gs w n x=some r):∃ m w' ks os p,n=m+1/\x=mkK w' ks os/\gs [.str w',.str w]=some (.val (.int p))/\zfJ (zdn gs w m) w w' ks os p=some r:=by
 cases n with
 | zero=>cases h
 | succ m=>
  obtain⟨k,q1,q⟩:=bind_some h
  obtain⟨p,q2,q⟩:=bind_some q
  obtain⟨e,q2,q3⟩:=bind_some q2
  cases zav q3
  exact⟨m,k.1,k.2.1,k.2.2,p,rfl,knOf_some q1,q2,q⟩
theorem rs_one{σ:Sg}(fh:Same F H)(h:σ[1]? = some (some (.str w))):RS K ⟨fun _=>none,none⟩ F H σ ((List.replicate σ.length none).set 1 (some (.val (.str w)))):=by
 have key:∀ {i:Nat} {e:Ent},((List.replicate σ.length none).set 1 (some (.val (.str w))))[i]? = some (some e)->i=1/\e=.val (.str w):=fun {i e} q=>by
  rw[List.getElem?_set] at q
  split at q
  ·rename_i z
   split at q
   ·cases q;exact⟨z.symm,rfl⟩
   ·cases q
  ·rw[List.getElem?_replicate] at q
   split at q <;> cases q
 refine⟨fh,(fun _ _ e=>by cases e),by simp,fun i e q=>?_,fun a b l ds e hab h1=>?_,fun a b e1 e2 v1 v2 ad hab h1 h2 h3 h4 h5=>?_,fun w o hw _=>by cases hw⟩
 ·obtain⟨rfl,rfl⟩:=key q
  exact⟨_,h,.str w⟩
 ·obtain⟨_,z⟩:=key h1
  cases z
 ·obtain⟨_,z⟩:=key h1
  subst z
  cases h5
theorem set32{σ:Sg}{x y z:Option V}:((σ.set 2 x).set 3 y).set 2 z=(σ.set 2 z).set 3 y:=by
 rw[List.set_comm _ _ (by decide),List.set_set]
theorem get1{σ:Sg}{x y:Option V}:((σ.set 2 x).set 3 y)[1]? = σ[1]?:=by
 rw[List.getElem?_set_ne (by decide),List.getElem?_set_ne (by decide)]
theorem get2{σ:Sg}{x y:Option V}(h:3<σ.length):((σ.set 2 x).set 3 y)[2]? = some x:=by
 rw[List.getElem?_set_ne (by decide),List.getElem?_set_self (by lia)]
theorem get3{σ:Sg}{x y:Option V}(h:3<σ.length):((σ.set 2 x).set 3 y)[3]? = some y:=by
 rw[List.getElem?_set_self (by rw[List.length_set];exact h)]
theorem semHang{gi:GM}{tK:TE}(hc:ClsF K "Knot" ["word","branches"])(mk:SemE K tK (zcQ "Knot" gi (zaa (zab 1) zag)))(hgi:∀ w,gi (.ins "Knot" [] []) [.str w]=some (.non,mkK w [] [])):SemS K (tHang K gs tK) (fHang gs):=fun B F H σ δ out DD s q k=>by
 obtain⟨o,q0,q⟩:=bind_some q
 obtain⟨w,q1,q⟩:=bind_some q
 have hlen:3<δ.length:=by
  by_cases z:3<δ.length
  ·exact z
  ·rw[if_neg z] at q;cases q
 rw[if_pos hlen] at q
 obtain⟨res,q2,q⟩:=map_some q
 subst q
 rw[<- s.len] at hlen
 obtain⟨v,h0,A,t,n,f0⟩:=s.ent 0 _ (zas q0)
 obtain⟨v1,h1,r1⟩:=s.ent 1 _ (sAt_some q1)
 cases zby r1
 have fin:∀ (F2 H2:Hp) (A':List Addr),Chg H F F2 H2 A->TR K F2 H2 v res.2 A'->A'.Nodup->(∀ b ∈ A',F2 b=none/\zda H A b=none)->DD.rt (.bl res.1) H2:=fun F2 H2 A' ch t' n' f'=>by
  obtain⟨s3,y3⟩:=s.chg (zas q0) h0 t ch t' n' f'
  exact k (.bl res.1) _ F2 H2 s3 y3 (.bl res.1)
 obtain⟨m0,w0,ks0,os0,p0,hm0,rfl,g0,st0⟩:=zeu q2
 obtain⟨a0,_,_,_,_,_,_,rfl,_⟩:=zdY t
 refine⟨_,h0,?_⟩
 refine sl_ok hc s.fh (List.getElem?_set_self (by lia)) (by rw[List.getElem?_set_ne (by decide)];exact h1) t g0 fun F' H' x0=>?_
 refine⟨fun m σ' H'=>∃ F' a A1 up w' ks os p r,σ'=(σ.set 2 (some (.ref a))).set 3 (some (.int p))/\Ex F H F' H'/\TR K F H (.ref a) (mkK w' ks os) A1/\A1.Nodup/\Plug K F H (.ref a0) A (.ref a) A1 up/\zfJ (zdn gs w m) w w' ks os p=some r/\res=(r.1,up r.2),
  ⟨m0,F',a0,A,id,w0,ks0,os0,p0,res,rfl,x0,t,n,.refl,st0,rfl⟩,?_⟩
 rintro m σ' H' ⟨F',a,A1,up,w',ks,os,p,r,rfl,x,t1,n1,P,st,er⟩
 obtain⟨a',dx,C,l,o',vs,A4,e,eA,hcl,e1,e2,e3,d,hl,ts⟩:=zdY t1
 cases e
 subst eA
 have gk2:=get2 (σ:=σ) (x:=some (.ref a)) (y:=some (.int p)) hlen
 have gk3:=get3 (σ:=σ) (x:=some (.ref a)) (y:=some (.int p)) hlen
 have e1':=x.hh _ _ e1
 have e3':=x.hh _ _ e3
 have far:∀ b ∈ A,H' b=H b/\F' b=none:=fun b hb=>by
  obtain⟨u,hu,ht⟩:=t.lies b hb
  exact⟨(x.hh _ _ hu).trans hu.symm,(x.nw _ _ hu ht).trans (f0 b hb).1⟩
 have rest:(¬ 0<p \/ ixI ks p=none)->(zfb (zgL (zeh (tOp rEq (zb0 3) (tC (.int 0)))) (zhr (tC (.bl false))) zdv) (zfb (zdS tK (gSub (zhn K (zb0 2) "branches") (zb0 3) rSetI)) (zhr (tC (.bl true))))) DD ((σ.set 2 (some (.ref a))).set 3 (some (.int p))) H':=fun hp=>by
  refine⟨_,gk3,rfl,_,rfl,?_⟩
  unfold zfJ at st
  by_cases hpos:0<p
  ·rw[if_pos hpos] at st
   have hno:=hp.resolve_left (fun z=>z hpos)
   rw[hno] at st
   have st':(if ks.length<1000000 then some (true,mkK w' (ks ++ [p]) (os ++ [mkK w [] []])) else none)=some r:=st
   have hks:ks.length<1000000:=by
    by_cases z:ks.length<1000000
    ·exact z
    ·rw[if_neg z] at st';cases st'
   rw[if_pos hks] at st'
   cases st'
   rw[show decide (V.int p=V.int 0)=false from decide_eq_false fun z=>by cases z;lia]
   refine zgu ?_
   refine mk _ F' H' _ _ (.obj (mkK w [] [])) _ (rs_one (w:=w) x.fh (get1.trans h1)) ?_ fun v3 F3 H3 x3 r3=>?_
   ·have e:zab 1 ((List.replicate ((σ.set 2 (some (V.ref a))).set 3 (some (.int p))).length (none:Option Ent)).set 1 (some (.val (.str w))))=some (.val (.str w)):=by
     unfold zab
     rw[List.getElem?_set_self (by rw[List.length_replicate,List.length_set,List.length_set];lia)]
    unfold zcQ zaa zag
    rw[e]
    show(gi (.ins "Knot" [] []) [.str w]).bind _=_
    rw[hgi]
    rfl
   ·obtain⟨_,An,tn,nn,hn⟩:=r3
    have xx:=x.trans x3
    refine br_ok hc gk2 hcl (x3.hh _ _ e1') ?_
    refine⟨_,gk3,l,o',ks,vs,p,rfl,rfl,x3.hh _ _ e3',d,hl,hks,zdf hno,fun ob' d'=>?_⟩
    show DD.rt (.bl true) _
    obtain⟨na,nz⟩:=List.nodup_cons.mp n1
    obtain⟨nd,nz⟩:=List.nodup_cons.mp nz
    obtain⟨nl,n4⟩:=List.nodup_cons.mp nz
    have hal:a ≠ l:=fun z=>na (by rw[z];exact List.mem_cons_of_mem _ List.mem_cons_self)
    have hdl:dx ≠ l:=fun z=>nd (by rw[z];exact List.mem_cons_self)
    have inA:∀ b ∈ a :: dx :: l :: A4,b ∈ A:=P.1
    have hlA:l ∈ A:=inA l (List.mem_cons_of_mem _ (List.mem_cons_of_mem _ List.mem_cons_self))
    have old3:∀ b ∈ A,H3 b=H b/\F3 b=none:=fun b hb=>by
     obtain⟨u,hu,ht⟩:=t.lies b hb
     exact⟨(xx.hh _ _ hu).trans hu.symm,(xx.nw _ _ hu ht).trans (f0 b hb).1⟩
    have new:∀ b ∈ An,b ∉ A/\H b=none/\F3 b=none:=fun b hb=>by
     have hb0:=x.hh.free (hn b hb).2
     exact⟨(fun z=>by obtain⟨u,hu,_⟩:=t.lies b z;rw[hb0] at hu;cases hu),hb0,(hn b hb).1⟩
    have ln:∀ b ∈ An,b ≠ l:=fun b hb z=>(new b hb).1 (by rw[z];exact hlA)
    have ts4:TRs K F3 (upd H3 l (knO l ob')) vs os A4:=ts.move xx.ff fun b hb=>by
     rw[zah (show b ≠ l from fun z=>nl (by rw[<- z];exact hb))]
     exact(old3 b (inA b (List.mem_cons_of_mem _ (List.mem_cons_of_mem _ (List.mem_cons_of_mem _ hb))))).1
    have tn4:TR K F3 (upd H3 l (knO l ob')) v3 (mkK w [] []) An:=tn.move (Same.refl _) fun b hb=>zah (ln b hb)
    obtain⟨A5,ts5,rfl⟩:=TRs.add tn4 ts4
    have T:=kn_mk (w:=w') (ks:=ks ++ [p]) (os:=os ++ [mkK w [] []]) (H:=upd H3 l (knO l ob')) hcl (by rw[zah hal];exact xx.hh _ _ e1) (by rw[zah hdl];exact xx.hh _ _ e2) zae d' (by rw[List.length_append,List.length_append,hl];rfl) ts5
    have ndis:∀ b,b ∈ An->b ∉ a :: dx :: l :: A4:=fun b hb z=>(new b hb).1 (inA b z)
    have T':(a :: dx :: l :: (A4 ++ An)).Nodup:=by
     have:((a :: dx :: l :: A4) ++ An).Nodup:=List.nodup_append.mpr ⟨n1,nn,fun b hb c hc' z=>ndis c hc' (z ▸ hb)⟩
     simpa using this
    have mem:∀ b ∈ a :: dx :: l :: (A4 ++ An),b ∈ a :: dx :: l :: A4 \/ b ∈ An:=fun b hb=>by
     have:b ∈ (a :: dx :: l :: A4) ++ An:=by simpa using hb
     exact List.mem_append.mp this
    obtain⟨A',p1,p2,p3⟩:=P.2 F3 (upd H3 l (knO l ob')) _ _ xx.ff (fun b hb hn'=>by
     rw[zah (show b ≠ l from fun z=>hn' (by rw[z];exact List.mem_cons_of_mem _ (List.mem_cons_of_mem _ List.mem_cons_self)))]
     exact(old3 b hb).1) T T' fun b hb=>(mem b hb).imp id fun z=>(new b z).1
    rw[er] at fin
    refine fin F3 _ A' ⟨xx.ff,fun b u hb=>?_,fun b u hb=>?_,fun b u hb ht=>xx.nw _ _ (zao hb).2 ht⟩ p1 p2 fun b hb=>?_
    ·rw[zah (show b ≠ l from fun z=>by rw[z,(old3 l hlA).2] at hb;cases hb)]
     exact xx.fh _ _ hb
    ·obtain⟨z1,z2⟩:=zao hb
     rw[zah (show b ≠ l from fun z=>z1 (by rw[z];exact hlA))]
     exact xx.hh _ _ z2
    ·rcases p3 b hb with z | z
     ·exact⟨(old3 b z.1).2,zaZ z.1⟩
     ·rcases mem b z with z | z
      ·exact⟨(old3 b (inA b z)).2,zaZ (inA b z)⟩
      ·exact⟨(new b z).2.2,(zb2 (new b z).1).trans (new b z).2.1⟩
  ·rw[if_neg hpos] at st
   have hz:p=0:=by
    by_cases z:p=0
    ·exact z
    ·rw[if_neg z] at st;cases st
   rw[if_pos hz] at st
   subst hz
   cases st
   refine iteT ?_
   show DD.rt (.bl false) _
   obtain⟨A',p1,p2,p3⟩:=P.2 F' H' _ _ x.ff (fun b hb _=>(far b hb).1) (t1.ext x).1 n1 fun b hb=>.inl hb
   rw[er] at fin
   refine fin F' H' A' ⟨x.ff,x.fh,fun b u hb=>x.hh _ _ (zao hb).2,fun b u hb ht=>x.nw _ _ (zao hb).2 ht⟩ p1 p2 fun b hb=>?_
   have:b ∈ A:=(p3 b hb).elim (·.1) (P.1 b)
   exact⟨(far b this).2,zaZ this⟩
 refine⟨_,gk3,_,_,rfl,rfl,_,rfl,?_⟩
 by_cases hpos:0<p
 ·rw[decide_eq_true hpos]
  refine iteT ?_
  refine⟨_,gk3,br_ok hc gk2 hcl e1' ?_⟩
  refine⟨l,o',ks,vs,p,rfl,rfl,e3',d,hl,_,rfl,?_⟩
  rw[zdy p hl]
  cases hix:ixI ks p with
  | none=>exact zgu (rest (.inr hix))
  | some j=>
   have hst:=st
   unfold zfJ at hst
   rw[if_pos hpos,hix] at hst
   obtain⟨y,qy,hst⟩:=bind_some hst
   obtain⟨r',qr,hst⟩:=map_some hst
   subst hst
   obtain⟨v2,A2,hv2,t2,n2,P2⟩:=P.down hcl e1 e2 e3 d hl ts n1 qy
   obtain⟨m',w2,ks2,os2,p2,rfl,rfl,g2,st2⟩:=zeu qr
   obtain⟨a2,_,_,_,_,_,_,rfl,_⟩:=zdY t2
   show if (vs[j]?).isSome=true then _ else _
   rw[hv2]
   refine iteT ⟨_,fun σ2 H2 z=>⟨m',Nat.lt_succ_self m',z⟩,?_⟩
   show zdS (tOp rIxI (zhn K (zb0 2) "branches") (zb0 3)) (zbJ 2) _ _ H'
   show tOp rIxI (zhn K (zb0 2) "branches") (zb0 3) _ H' _
   show zhn K (zb0 2) "branches" _ H' _
   refine br_ok hc gk2 hcl e1' ?_
   refine⟨_,gk3,l,o',ks,vs,p,.ref a2,rfl,rfl,e3',d,hl,by rw[zdy p hl,hix];exact hv2,?_⟩
   show tSl K gs _ H' _
   rw[set32]
   refine sl_ok hc x.fh (get2 hlen) (get1.trans h1) (t2.ext x).1 g2 fun F4 H4 x4=>?_
   exact⟨F4,a2,A2,_,w2,ks2,os2,p2,r',by rw[List.set_set],x.trans x4,t2,n2,P2,st2,er⟩
 ·rw[decide_eq_false hpos]
  exact zgu (zgu (rest (.inl hpos)))
theorem sHang{X:Cx}{y1 y2 y3 y4 y5 y6:Stmt}{eK:Expr}{gi:GM}(hc:ClsF X.K "Knot" ["word","branches"])(hgi:∀ w,gi (.ins "Knot" [] []) [.str w]=some (.non,mkK w [] []))(w1:WS X y1 (zdS (zb0 0) (zbJ 2)))(w2:WS X y2 (zdS (tSl X.K gs) (zbJ 3)))
  (w3:WS X y3 (zgy (tAnd (zeh (tOp (rI0 fun i j=>.bl (decide (j<i))) (zb0 3) (tC (.int 0)))) (zeh (tOp rInI (zb0 3) (zhn X.K (zb0 2) "branches")))) (zfb (zdS (tOp rIxI (zhn X.K (zb0 2) "branches") (zb0 3)) (zbJ 2)) (zdS (tSl X.K gs) (zbJ 3)))))
  (w4:WS X y4 (zgL (zeh (tOp rEq (zb0 3) (tC (.int 0)))) (zhr (tC (.bl false))) zdv)) (w5:∀ tK,WE X eK tK->WS X y5 (zdS tK (gSub (zhn X.K (zb0 2) "branches") (zb0 3) rSetI))) (w6:WS X y6 (zhr (tC (.bl true)))) (hm:VE X eK (zcQ "Knot" gi (zaa (zab 1) zag))) :
  VSs X [y1,y2,y3,y4,y5,y6] (fHang gs):=by
 obtain⟨tK,wK,mK⟩:=hm.h
 exact⟨_,sc w1 (sc w2 (sc w3 (sc w4 (sc (w5 tK wK) (s1 w6))))),semHang hc mK hgi⟩
end
end L3

namespace L2
open PySem PySem.Spec PyProof.Rows
noncomputable def ixS:List Str->Str->Option Nat
 | [],_=>none
 | k :: ks,i=>if k=i then some 0 else (ixS ks i).map (· + 1)
theorem zeT(i:Str):∀ {ks:List Str} {vs:List V},ks.length=vs.length->atK ((ks.map Sum.inr).zip vs) (Sum.inr i)=(ixS ks i).bind fun j=>vs[j]?
 | [],[],_=>rfl
 | k :: ks,v :: vs,h=>by
  have ih:=zeT i (ks:=ks) (vs:=vs) (by simpa using h)
  unfold atK at ih ⊢
  rw[List.map_cons,List.zip_cons_cons]
  unfold ixS
  by_cases e:k=i
  ·rw[if_pos e,List.find?_cons_of_pos (by simpa using e)];rfl
  ·rw[if_neg e,List.find?_cons_of_neg (by simpa using e),ih]
   cases ixS ks i <;> rfl
theorem ixS_lt{i:Str}:∀ {ks:List Str} {j:Nat},ixS ks i=some j->j<ks.length/\ks[j]? = some i
 | [],_,h=>by cases h
 | k :: ks,j,h=>by
  unfold ixS at h
  split at h
  ·rename_i e;cases h;exact⟨by simp,by rw[e];rfl⟩
  ·obtain⟨j',q,rfl⟩:=Option.map_eq_some_iff.mp h
   obtain⟨h1,h2⟩:=ixS_lt q
   exact⟨by simpa using h1,by simpa using h2⟩
theorem zgI{i:Str}:∀ {ks:List Str},ixS ks i=none->i ∉ ks
 | [],_=>by simp
 | k :: ks,h=>by
  unfold ixS at h
  split at h
  ·cases h
  ·rename_i e
   exact fun z=>(List.mem_cons.mp z).elim (fun z=>e z.symm) (zgI (Option.map_eq_none_iff.mp h))
theorem atK_isS(i:Str){ks:List Str}{vs:List V}(h:ks.length=vs.length):(atK ((ks.map Sum.inr).zip vs) (Sum.inr i)).isSome=(ixS ks i).isSome:=by
 rw[zeT i h]
 cases q:ixS ks i with
 | none=>rfl
 | some j=>
  show(vs[j]?).isSome=true
  rw[List.getElem?_eq_getElem (by rw[<- h];exact(ixS_lt q).1)]
  rfl
section
variable {X:Cx}
noncomputable def rSetN:V->V->V->Hp->(Hp->Prop)->Prop:=fun o i v H Q=>∃ (p:Addr) (ks:List Str) (vs:List V) (k:Str),o=.ref p/\i=.str k/\H p=some (.dK ((ks.map Sum.inr).zip vs))/\ks.length=vs.length/\ks.length<1000000/\k ∉ ks /\
 Q (upd H p (.dK (((ks ++ [k]).map Sum.inr).zip (vs ++ [v]))))
theorem set_dicN:PSet X rSetN:=by
 intro pins s σ H o i v ov iv u Q I ro ri rv h
 obtain⟨p,ks,vs,k,rfl,rfl,hp,hl,hz,hk,q⟩:=h
 cases ro
 obtain⟨z,hd,us,rel,dd⟩:=I.hok p _ hp
 have hu:us.length<=sizeLine:=by rw[<- Paired.length rel];exact z
 have hkk:us.map (·.1)=ks.map Sum.inr:=by
  have z:=congrArg (List.map Prod.fst) (ze5 rel)
  rw[List.map_fst_zip (by rw[List.length_map];exact Nat.le_of_eq hl),List.map_map] at z
  exact z.symm
 have hst:stored us (Sum.inr k) u=us ++ [(Sum.inr k,u)]:=by
  unfold stored
  rw[if_neg]
  intro z
  obtain⟨x,hx,e⟩:=List.any_eq_true.mp z
  have:x.1 ∈ us.map (·.1):=List.mem_map.mpr ⟨x,hx,rfl⟩
  rw[hkk,of_decide_eq_true e] at this
  obtain⟨i,hi,e'⟩:=List.mem_map.mp this
  cases e'
  exact hk hi
 refine wpAny_setItem_pairs (hsz:=hu) (kisS ri) dd fun h' dd' hs=>⟨_,?_,q⟩
 have he:∃ q,h'.get? p=some q:=let⟨q,_,_,hq,_⟩:=dd';⟨q,hq⟩
 rw[hst] at dd'
 refine I.write (x:=p) (e:=p) (by rw[hp];exact True.intro) (.inl rfl) (fun b q hb z=>(hs.2 b hb).trans z) he ⟨?_,hd,_,?_,dd'⟩
 ·rw[List.length_zip,List.length_map,List.length_append,List.length_append,sizeLine_eq,<- hl]
  simp only[List.length_cons,List.length_nil]
  lia
 ·rw[List.map_append,List.zip_append (by rw[List.length_map];exact hl)]
  exact Paired.snoc rel ⟨rfl,rv⟩
noncomputable def rEq0:R2:=fun x y H Q=>∃ (a b:Addr) (kvs:List (Key × V)),x=.ref a/\y=.ref b/\H a=some (.dK kvs)/\H b=some (.dK [])/\Q (.bl kvs.isEmpty) H
theorem zgz{k:Nat}(hr:Room k X.A):OpR X (compareOp .Eq) rEq0:=by
 intro pins s σ H x y v u Q I rx ry h
 obtain⟨a,b,kvs,rfl,rfl,ha,hb,q⟩:=h
 cases rx
 cases ry
 obtain⟨_,h2,us,h3,da⟩:=I.hok a _ ha
 obtain⟨_,g2,ws,g3,db⟩:=I.hok b _ hb
 have e0:ws=[]:=by
  have:=Paired.length g3
  cases ws with
  | nil=>rfl
  | cons _ _=>cases this
 subst e0
 have hle:=Paired.length h3
 refine PySem.W.keq_eq (r:=true) h2 g2 da db (by have:=hr.un;lia) (fun e=>?_) ⟨.bl _,H,I,rfl,?_⟩
 ·cases us with
  | nil=>exact .nil
  | cons _ _=>cases e
 ·rw[<- hle,Bool.and_true]
  cases kvs <;> exact q
end
end L2
namespace L3
open PySem PySem.Spec PyProof.Rows L2
noncomputable def oDcS:OT->Option (List Str × List OT)
 | .dcS ks os=>some (ks,os)
 | _=>none
theorem oDcS_some{o:OT}{p:List Str × List OT}(h:oDcS o=some p):o=.dcS p.1 p.2:=by
 cases o <;> first | (cases h;rfl) | (cases h)
noncomputable def oDcI:OT->Option (List Int × List OT)
 | .dcI ks os=>some (ks,os)
 | _=>none
theorem oDcI_some{o:OT}{p:List Int × List OT}(h:oDcI o=some p):o=.dcI p.1 p.2:=by
 cases o <;> first | (cases h;rfl) | (cases h)
noncomputable def oV:OT->Option D
 | .val d=>some d
 | _=>none
theorem oV_some{o:OT}{d:D}(h:oV o=some d):o=.val d:=by
 cases o <;> first | (cases h;rfl) | (cases h)
noncomputable def dsAt(i:Nat):En->Option (List Str × List OT):=fun δ=>(oAt i δ).bind oDcS
theorem zcf{i:Nat}{δ:En}{p:List Str × List OT}(h:dsAt i δ=some p):δ[i]? = some (some (.obj (.dcS p.1 p.2))):=by
 obtain⟨o,h1,h2⟩:=bind_some h
 cases oDcS_some h2
 exact zas h1
noncomputable def eNiS(i:Nat)(fx:FE):FE:=fun δ=>((fx δ).bind sOf).bind fun z=>(dsAt i δ).map fun p=>.val (.bl (!(ixS p.1 z).isSome))
noncomputable def eEqS0(i:Nat):FE:=fun δ=>(dsAt i δ).map fun p=>.val (.bl p.1.isEmpty)
noncomputable def inDS(i:Nat)(fx:FE)(δ:En):Option (Nat × List Int × List OT):=(dsAt i δ).bind fun p=>((fx δ).bind sOf).bind fun z=>(ixS p.1 z).bind fun j=>((p.2[j]?).bind oDcI).map fun q=>(j,q)
noncomputable def eInSI(i:Nat)(fx fp:FE):FE:=fun δ=>((fp δ).bind iOf).bind fun p=>(inDS i fx δ).map fun q=>.val (.bl (ixI q.2.1 p).isSome)
noncomputable def eIxSI(i:Nat)(fx fp:FE):FE:=fun δ=>(inDS i fx δ).bind fun q=>((fp δ).bind iOf).bind fun p=>(ixI q.2.1 p).bind fun j=>((q.2.2[j]?).bind oV).map .val
noncomputable def fSetSI(i:Nat)(fx fp fe:FE):FS:=fun δ=>((fe δ).bind asV).bind fun d=>(inDS i fx δ).bind fun q=>((fp δ).bind iOf).bind fun p=>if (ixI q.2.1 p).isSome=true \/ 1000000<=q.2.1.length then none else
 (dsAt i δ).map fun r=>.nx (δ.set i (some (.obj (.dcS r.1 (r.2.set q.1 (.dcI (q.2.1 ++ [p]) (q.2.2 ++ [.val d])))))))
noncomputable abbrev FK:=En->Option En
noncomputable def SemN(K:PySem.W.Frag)(t:TS)(f:FK):Prop:=∀ (B:Bd) (F H:Hp) (σ:Sg) (δ δ':En) (DD:Ends),RS K B F H σ δ->f δ=some δ'->(∀ F' H',RS K B F' H' σ δ'->FX B F F'->DD.nx σ H')->t DD σ H
structure VN(X:Cx)(s:Stmt)(f:FK):Prop where
 h:∃ t,WS X s t/\SemN X.K t f
structure VB(X:Cx)(e:Expr)(f:FE):Prop where
 h:∃ t,WE X e t/\WT X e (zeh t)/\SemE X.K t f
theorem VB.v{X:Cx}{e:Expr}{f:FE}(h:VB X e f):VE X e f:=let⟨t,a,_,m⟩:=h.h;⟨t,a,m⟩
theorem VB.t{X:Cx}{e:Expr}{f:FE}(h:VB X e f):VT X e (tOf f):=let⟨_,_,a,m⟩:=h.h;⟨_,a,SemE.test m⟩
noncomputable def fK(f:FK):FS:=fun δ=>(f δ).map .nx
noncomputable def kNewS(i:Nat)(fx:FE):FK:=fun δ=>((fx δ).bind sOf).bind fun z=>(dsAt i δ).bind fun p=>if (ixS p.1 z).isSome=true \/ 1000000<=p.1.length then none else some (δ.set i (some (.obj (.dcS (p.1 ++ [z]) (p.2 ++ [.dcI [] []])))))
section
variable {K:PySem.W.Frag}{B:Bd}{F H F1 H1 F' H' H0:Hp}{σ:Sg}{δ:En}{v w:V}{A A' A1 A1':List Addr}{a l:Addr}{u:HO}{i k:Nat}{x' x1:OT}{vs:List V}{os:List OT}{up:List OT->OT}
theorem RS.subC(s:RS K B F H σ δ)(hi:δ[i]? = some (some (.obj (up os))))(hs:σ[i]? = some (some (.ref l)))(mk:∀ {F' H':Hp} {os':List OT} {A':List Addr},H' l=some u->TRs K F' H' vs os' A'->TR K F' H' (.ref l) (up os') (l :: A'))(e1:H l=some u)(hu:isT u=false)(ts:TRs K F H vs os A)
  (hk:os[k]? = some x1) (hv:vs[k]? = some w) (t1:TR K F H w x1 A1) (ch:Chg H F F' H' A1) (t':TR K F' H' w x' A1') (n':A1'.Nodup) (f':∀ b ∈ A1',F' b=none/\zda H A1 b=none) :
  RS K B F' H' σ (δ.set i (some (.obj (up (os.set k x')))))/\FX B F F':=by
 have t:=mk e1 ts
 obtain⟨A0,t0,n,f0⟩:=s.at hi hs
 cases t0.det t
 obtain⟨w',B1,hw,tb,sb,_,go⟩:=ts.focus hk
 rw[hv] at hw
 cases hw
 cases tb.det t1
 obtain⟨haA,nA⟩:=List.nodup_cons.mp n
 have stay:∀ b u,b ∉ A1->H b=some u->H' b=some u:=fun b u hb hu=>ch.st _ _ (zaE hb hu)
 have new:∀ b ∈ A1',∀ u,b ∉ A1->H b ≠ some u:=fun b hb u h1 h2=>by have:=(f' b hb).2;rw[zaE h1 h2] at this;cases this
 obtain⟨A2,m1,m2,m3⟩:=go F' H' x' A1' nA ch.ff (fun b hb hn=>by
  obtain⟨u,hu,_⟩:=ts.lies b hb
  rw[stay b u hn hu,hu]) t' n' fun b hb=>by
   by_cases h1:b ∈ A1
   ·exact .inl h1
   ·exact .inr fun h2=>by obtain⟨u,hu,_⟩:=ts.lies b h2;exact new b hb u h1 hu
 have ha1:l ∉ A1:=fun e=>haA (sb l e)
 have ha2:l ∉ A2:=fun e=>(m3 l e).elim (fun z=>haA z.1) fun z=>new l z _ ha1 e1
 refine s.chg hi hs t ⟨ch.ff,ch.fh,fun b u h=>?_,fun b u h ht=>?_⟩ (mk (stay _ _ ha1 e1) m1) (List.nodup_cons.mpr ⟨ha2,m2⟩) fun b hb=>?_
 ·obtain⟨h1,h2⟩:=zao h
  exact stay b u (fun e=>h1 (List.mem_cons_of_mem _ (sb b e))) h2
 ·obtain⟨h1,h2⟩:=zao h
  exact ch.nw b u (zaE (fun e=>h1 (List.mem_cons_of_mem _ (sb b e))) h2) ht
 ·have old:∀ b u,b ∈ l :: A->b ∉ A1->H b=some u->isT u=false->F' b=none/\zda H (l :: A) b=none:=fun b u h1 h2 h3 h4=>⟨(ch.nw b u (zaE h2 h3) h4).trans (f0 b h1).1,zaZ h1⟩
  rcases List.mem_cons.mp hb with e | hb
  ·subst e;exact old b _ List.mem_cons_self ha1 e1 hu
  ·rcases m3 b hb with z | z
   ·obtain⟨u,hu,hu'⟩:=ts.lies b z.1
    exact old b u (List.mem_cons_of_mem _ z.1) z.2 hu hu'
   ·refine⟨(f' b z).1,?_⟩
    by_cases h1:b ∈ A1
    ·exact zaZ (List.mem_cons_of_mem _ (sb b h1))
    ·have:=(f' b z).2
     rw[zb2 h1] at this
     by_cases h2:b ∈ l :: A
     ·exact zaZ h2
     ·rw[zb2 h2];exact this
end
section
variable {X:Cx}{e ex ep:Expr}{fx fp fe:FE}{fk:FK}{ft:FT}{x:Str}{pos p p2 p3 tpos tpos2:Pos}{body:List Stmt}
theorem sN{s:Stmt}(h:VN X s fk):VS X s (fK fk):=by
 obtain⟨t,w,m⟩:=h.h
 refine⟨_,w,fun B F H σ δ out DD s q k=>?_⟩
 obtain⟨δ',q1,q⟩:=map_some q
 cases q
 exact m B F H σ δ δ' DD s q1 fun F' H' s' y=>k σ F' H' s' y
theorem vNiS(i:Nat)(hx:VE X ex fx)(hN:X.N[i]? = some x:=by rfl)(hv:Vis X.env.scope x:=by first | exact Or.inl rfl | exact Or.inr (Or.inl rfl) | exact Or.inr (Or.inr rfl))(hd:(x == ("__debug__" : Str))=false:=by decide)(hcd:(x == ("__classdict__" : Str))=false:=by decide)
  (hm:behindInMarks .NotIn (.Name x p)=false:=by rfl):VB X (.Compare ex [.NotIn] [.Name x p] pos) (eNiS i fx):=by
 obtain⟨t,w,m⟩:=hx.h
 refine⟨_,wcmp op_niD w (wv i hN hv hd hcd) hm,tcmp op_niD w (wv i hN hv hd hcd) hm,fun B F H σ δ res Q s q k=>?_⟩
 obtain⟨z,q1,q⟩:=bind_some q
 obtain⟨r,q1,q2⟩:=bind_some q1
 obtain⟨pp,q3,q⟩:=map_some q
 cases q
 cases zbe q2
 refine m B F H σ δ _ _ s q1 fun v F1 H1 x1 r1=>?_
 cases zby r1
 obtain⟨v,h1,A,t,n,h⟩:=(s.ext x1).ent i _ (zcf q3)
 cases t with
 | dcS e1 hl ts=>exact⟨_,h1,_,_,z,rfl,rfl,.inl e1,by rw[atK_isS z hl];exact k _ F1 H1 x1 (.bl _)⟩
theorem vEqS0{n:Nat}(i:Nat)(hr:Room n X.A)(hN:X.N[i]? = some x:=by rfl)(hv:Vis X.env.scope x:=by first | exact Or.inl rfl | exact Or.inr (Or.inl rfl) | exact Or.inr (Or.inr rfl))(hd:(x == ("__debug__" : Str))=false:=by decide)(hcd:(x == ("__classdict__" : Str))=false:=by decide)
  (hm:behindInMarks .Eq (.Dict [] [] p2)=false:=by rfl):VB X (.Compare (.Name x p) [.Eq] [.Dict [] [] p2] pos) (eEqS0 i):=by
 refine⟨_,wcmp (zgz hr) (wv i hN hv hd hcd) wdnew hm,tcmp (zgz hr) (wv i hN hv hd hcd) wdnew hm,fun B F H σ δ res Q s q k=>?_⟩
 obtain⟨pp,q1,q⟩:=map_some q
 cases q
 obtain⟨v,h1,A,t,n,h⟩:=s.ent i _ (zcf q1)
 cases t with
 | @dcS a _ vs _ _ e1 hl ts=>
  refine⟨_,h1,fun b hb=>⟨a,b,_,rfl,rfl,(Same.alloc hb) _ _ e1,zae,?_⟩⟩
  rw[show((pp.1.map Sum.inr).zip vs).isEmpty=pp.1.isEmpty from by
   cases q:pp.1 with
   | nil=>rfl
   | cons a b=>
    rw[q] at hl
    cases vs with
    | nil=>cases hl
    | cons _ _=>rfl]
  exact k _ F _ (Ex.lay s.fh hb) (.bl _)
theorem zgq{B:Bd}{F H:Hp}{σ:Sg}{δ:En}{i:Nat}{r:Nat × List Int × List OT}{t:TE}(m:SemE X.K t fx)(s:RS X.K B F H σ δ)(q:inDS i fx δ=some r){Q:VK}
  (k:∀ (l l2:Addr) (ks:List Str) (os:List OT) (vs:List V) (o:Obj) (ws:List V) (A A2:List Addr) (F' H':Hp),Ex F H F' H'->dsAt i δ=some (ks,os)->σ[i]? = some (some (.ref l))->H' l=some (.dK ((ks.map Sum.inr).zip vs))->ks.length=vs.length->TRs X.K F' H' vs os A->os[r.1]? = some (.dcI r.2.1 r.2.2)->vs[r.1]? = some (.ref l2) ->
   H' l2=some (knO l2 o)->DiD l2 o ((r.2.1.map Sum.inl).zip ws)->r.2.1.length=ws.length->TRs X.K F' H' ws r.2.2 A2->Q (.ref l2) H') :
  tOp (fun x y H Q=>∃ a kvs z v,x=.ref a/\y=.str z/\Rd H a (.dK kvs)/\atK kvs (Sum.inr z)=some v/\Q v H) (zb0 i) t σ H Q:=by
 obtain⟨pp,q1,q⟩:=bind_some q
 obtain⟨z,q2,q⟩:=bind_some q
 obtain⟨rz,q2,q3⟩:=bind_some q2
 obtain⟨j,q4,q⟩:=bind_some q
 obtain⟨di,q5,q⟩:=map_some q
 obtain⟨o1,q5,q6⟩:=bind_some q5
 cases q
 cases zbe q3
 cases oDcI_some q6
 obtain⟨v,h1,A,t1,n,h⟩:=s.ent i _ (zcf q1)
 refine⟨v,h1,m B F H σ δ _ _ s q2 fun v1 F1 H1 x1 r1=>?_⟩
 cases zby r1
 obtain⟨t2,_⟩:=t1.ext x1
 cases t2 with
 | @dcS l _ vs _ A e1 hl ts=>
  obtain⟨w,A1,h2,h3,h4,h4n,_⟩:=ts.focus q5
  cases h3 with
  | dcI g1 g2 g3 g4=>exact⟨_,_,z,_,rfl,rfl,.inl e1,by rw[zeT z hl,q4];exact h2,k _ _ _ _ _ _ _ _ _ F1 H1 x1 q1 h1 e1 hl ts q5 h2 g1 g2 g3 g4⟩
theorem vInSI(i:Nat)(hp:VE X ep fp)(hx:VE X ex fx)(hs:zc6 ex:=by exact fun _ _=>rfl)(hN:X.N[i]? = some x:=by rfl)(hv:Vis X.env.scope x:=by first | exact Or.inl rfl | exact Or.inr (Or.inl rfl) | exact Or.inr (Or.inr rfl))(hd:(x == ("__debug__" : Str))=false:=by decide)(hcd:(x == ("__classdict__" : Str))=false:=by decide)
  (hm:behindInMarks .In (.Subscript (.Name x p) ex p2)=false:=by with_unfolding_all rfl):VB X (.Compare ep [.In] [.Subscript (.Name x p) ex p2] pos) (eInSI i fx fp):=by
 obtain⟨t,w,m⟩:=hp.h
 obtain⟨t2,w2,m2⟩:=hx.h
 refine⟨_,wcmp op_inI w (wix zfU (wv i hN hv hd hcd) w2 hs) hm,tcmp op_inI w (wix zfU (wv i hN hv hd hcd) w2 hs) hm,fun B F H σ δ res Q s q k=>?_⟩
 obtain⟨z,q1,q⟩:=bind_some q
 obtain⟨r,q1,q2⟩:=bind_some q1
 obtain⟨pp,q3,q⟩:=map_some q
 cases q
 cases zav q2
 refine m B F H σ δ _ _ s q1 fun v F1 H1 x1 r1=>?_
 cases zaD r1
 refine zgq m2 (s.ext x1) q3 fun l l2 ks os vs o ws A A2 F' H' x2 g0 g1 g2 g3 g4 g5 g6 g7 g8 g9 g10=>?_
 refine⟨l2,o,pp.2.1,ws,z,rfl,rfl,g7,g8,g9,?_⟩
 rw[zdy z g9]
 have e:((ixI pp.2.1 z).bind fun j=>ws[j]?).isSome=(ixI pp.2.1 z).isSome:=by
  cases qq:ixI pp.2.1 z with
  | none=>rfl
  | some j=>
   show(ws[j]?).isSome=true
   have:=(List.getElem?_eq_some_iff.mp (zdV qq)).1
   rw[List.getElem?_eq_getElem (by lia)]
   rfl
 rw[e]
 exact k _ F' H' (x1.trans x2) (.bl _)
theorem vIxSI(i:Nat)(hx:VE X ex fx)(hp:VE X ep fp)(hs:zc6 ex:=by exact fun _ _=>rfl)(hs2:zc6 ep:=by exact fun _ _=>rfl)(hN:X.N[i]? = some x:=by rfl)(hv:Vis X.env.scope x:=by first | exact Or.inl rfl | exact Or.inr (Or.inl rfl) | exact Or.inr (Or.inr rfl))(hd:(x == ("__debug__" : Str))=false:=by decide)(hcd:(x == ("__classdict__" : Str))=false:=by decide) :
  VE X (.Subscript (.Subscript (.Name x p) ex p2) ep pos) (eIxSI i fx fp):=by
 obtain⟨t,w,m⟩:=hp.h
 obtain⟨t2,w2,m2⟩:=hx.h
 refine⟨_,wix ix_di (wix zfU (wv i hN hv hd hcd) w2 hs) w hs2,fun B F H σ δ res Q s q k=>?_⟩
 obtain⟨pp,q1,q⟩:=bind_some q
 obtain⟨z,q2,q⟩:=bind_some q
 obtain⟨r,q2,q3⟩:=bind_some q2
 obtain⟨j,q4,q⟩:=bind_some q
 obtain⟨dd,q5,q⟩:=map_some q
 obtain⟨o1,q5,q6⟩:=bind_some q5
 cases q
 cases zav q3
 cases oV_some q6
 refine zgq m2 s q1 fun l l2 ks os vs o ws A A2 F' H' x2 g0 g1 g2 g3 g4 g5 g6 g7 g8 g9 g10=>?_
 refine m B F' H' σ δ _ _ (s.ext x2) q2 fun v F2 H2 x3 r3=>?_
 cases zaD r3
 obtain⟨w,A1,h2,h3,_⟩:=g10.focus q5
 cases h3 with
 | val h3=>exact⟨l2,o,pp.2.1,ws,z,w,rfl,rfl,x3.hh _ _ g7,g8,g9,by rw[zdy z g9,q4];exact h2,k _ F2 H2 (x2.trans x3) (Rep.mono x3.ff h3)⟩
theorem kSetN(i:Nat)(hx:VE X ex fx)(hN:X.N[i]? = some x:=by rfl)(hv:Vis X.env.scope x:=by first | exact Or.inl rfl | exact Or.inr (Or.inl rfl) | exact Or.inr (Or.inr rfl))(hd:(x == ("__debug__" : Str))=false:=by decide)(hcd:(x == ("__classdict__" : Str))=false:=by decide)
  (hg:∀ {to ti:TE},WE X (.Name x p) to->WE X ex ti->WG X (.Subscript (.Name x p) ex tpos) (gSub to ti rSetN):=by exact fun a b=>⟨zgS a.h b.h set_dicN⟩)
  (hs:swapsWithSole [.Subscript (.Name x p) ex tpos] (.Dict [] [] p2) pos.line X.env=pure false:=by rfl) (hw:swappedStores [.Subscript (.Name x p) ex tpos] (.Dict [] [] p2) X.env=pure none:=by rfl) (h1:(assignEach [.Subscript (.Name x p) ex tpos] X.env).map (·.2)=[assign (.Subscript (.Name x p) ex tpos) X.env]:=by rfl) :
  VN X (.Assign [.Subscript (.Name x p) ex tpos] (.Dict [] [] p2) pos) (kNewS i fx):=by
 obtain⟨t2,w2,m2⟩:=hx.h
 refine⟨_,sasg (te:=tDI0) ⟨pe_di0⟩ (hg (wv i hN hv hd hcd) w2) hs hw h1,fun B F H σ δ δ' DD s q k=>?_⟩
 obtain⟨z,q1,q⟩:=bind_some q
 obtain⟨r,q1,q2⟩:=bind_some q1
 obtain⟨pp,q3,q⟩:=bind_some q
 split at q
 ·cases q
 ·rename_i hno
  cases q
  cases zbe q2
  intro b hb ob dob
  have x1:Ex F H F (upd H b (knO b ob)):=Ex.lay s.fh hb
  have s1:=s.ext x1
  obtain⟨v,h1,A,t,n,h⟩:=s.ent i _ (zcf q3)
  refine⟨v,h1,m2 B F _ σ δ _ _ s1 q1 fun v1 F2 H2 x2 r2=>?_⟩
  cases zby r2
  have xx:=x1.trans x2
  cases t with
  | @dcS l _ vs _ A e1 hl ts=>
   have hlen:pp.1.length<1000000:=by lia
   have hz:z ∉ pp.1:=zgI (by cases q:ixS pp.1 z with | none=>rfl | some j=>exact(hno (.inl (by rw[q];rfl))).elim)
   refine⟨l,pp.1,vs,z,rfl,rfl,xx.hh _ _ e1,hl,hlen,hz,?_⟩
   have t:=TR.dcS (K:=X.K) e1 hl ts
   have hb2:H2 b=some (knO b ob):=x2.hh _ _ zae
   have nb:b ∉ l :: A:=fun z=>by
    obtain⟨u,hu,_⟩:=t.lies b z
    rw[hb] at hu
    cases hu
   have fb:F2 b=none:=(x2.nw b _ zae rfl).trans (s.fh.free hb)
   have nl:l ∉ A:=(List.nodup_cons.mp n).1
   have hbl:b ≠ l:=fun z=>nb (by rw[z];exact List.mem_cons_self)
   have old:∀ c ∈ l :: A,H2 c=H c/\F2 c=none:=fun c hc=>by
    obtain⟨u,hu,ht⟩:=t.lies c hc
    exact⟨(xx.hh _ _ hu).trans hu.symm,(xx.nw _ _ hu ht).trans (h c hc).1⟩
   have ts4:TRs X.K F2 (upd H2 l (.dK (((pp.1 ++ [z]).map Sum.inr).zip (vs ++ [.ref b])))) vs pp.2 A:=ts.move xx.ff fun a ha=>(zah (show a ≠ l from fun z=>nl (z ▸ ha))).trans (old a (List.mem_cons_of_mem _ ha)).1
   have tn:TR X.K F2 (upd H2 l (.dK (((pp.1 ++ [z]).map Sum.inr).zip (vs ++ [.ref b])))) (.ref b) (.dcI [] []) [b]:=.dcI (vs:=[]) (A:=[]) (by rw[zah hbl];exact hb2) dob rfl .nil
   obtain⟨A5,ts5,rfl⟩:=TRs.add tn ts4
   have n2:(l :: (A ++ [b])).Nodup:=by
    have:((l :: A) ++ [b]).Nodup:=List.nodup_append.mpr ⟨n,by simp,fun a ha c hc e=>nb (by simp at hc;rw[<- hc,<- e];exact ha)⟩
    simpa using this
   obtain⟨z1,z2⟩:=s.chg (o':=.dcS (pp.1 ++ [z]) (pp.2 ++ [.dcI [] []])) (H':=upd H2 l (.dK (((pp.1 ++ [z]).map Sum.inr).zip (vs ++ [.ref b])))) (F':=F2) (A:=l :: A) (zcf q3) h1 t ⟨xx.ff,fun c u hc=>by
     rw[zah fun z=>by subst z;rw[(old _ List.mem_cons_self).2] at hc;cases hc]
     exact xx.fh _ _ hc,fun c u hc=>by
     obtain⟨z1,z2⟩:=zao hc
     rw[zah fun z=>z1 (by rw[z];exact List.mem_cons_self)]
     exact xx.hh _ _ z2,fun c u hc ht=>xx.nw _ _ (zao hc).2 ht⟩
    (.dcS zae (by rw[List.length_append,List.length_append,hl];rfl) ts5) n2 fun c hc=>by
     have hc':c ∈ (l :: A) ++ [b]:=by simpa using hc
     rcases List.mem_append.mp hc' with z | z
     ·exact⟨(old c z).2,zaZ z⟩
     ·cases List.mem_singleton.mp z
      exact⟨fb,(zb2 nb).trans hb⟩
   exact k F2 _ z1 z2
theorem sSetSI(i:Nat)(hx:VE X ex fx)(hp:VE X ep fp)(he:VE X e fe)(hN:X.N[i]? = some x:=by rfl)(hv:Vis X.env.scope x:=by first | exact Or.inl rfl | exact Or.inr (Or.inl rfl) | exact Or.inr (Or.inr rfl))(hd:(x == ("__debug__" : Str))=false:=by decide)(hcd:(x == ("__classdict__" : Str))=false:=by decide)
  (hpx:zc6 ex:=by exact fun _ _=>rfl) (hg:∀ {to ti:TE},WE X (.Subscript (.Name x p) ex p2) to->WE X ep ti->WG X (.Subscript (.Subscript (.Name x p) ex p2) ep tpos) (gSub to ti rSetI):=by exact fun a b=>⟨zgS a.h b.h set_di⟩)
  (hs:swapsWithSole [.Subscript (.Subscript (.Name x p) ex p2) ep tpos] e pos.line X.env=pure false:=by rfl) (hw:swappedStores [.Subscript (.Subscript (.Name x p) ex p2) ep tpos] e X.env=pure none:=by rfl) (h1:(assignEach [.Subscript (.Subscript (.Name x p) ex p2) ep tpos] X.env).map (·.2)=[assign (.Subscript (.Subscript (.Name x p) ex p2) ep tpos) X.env]:=by rfl) :
  VS X (.Assign [.Subscript (.Subscript (.Name x p) ex p2) ep tpos] e pos) (fSetSI i fx fp fe):=by
 obtain⟨t,w,m⟩:=hx.h
 obtain⟨t2,w2,m2⟩:=hp.h
 obtain⟨t3,w3,m3⟩:=he.h
 refine⟨_,sasg w3 (hg (wix zfU (wv i hN hv hd hcd) w hpx) w2) hs hw h1,fun B F H σ δ out DD s q k=>?_⟩
 obtain⟨d,q1,q⟩:=bind_some q
 obtain⟨r,q1,q2⟩:=bind_some q1
 obtain⟨pp,q3,q⟩:=bind_some q
 obtain⟨z,q4,q⟩:=bind_some q
 obtain⟨rz,q4,q5⟩:=bind_some q4
 split at q
 ·cases q
 ·rename_i hno
  obtain⟨rr,q6,q⟩:=map_some q
  cases q
  cases zav q5
  refine m3 B F H σ δ r _ s q1 fun y F1 H1 x1 z1=>?_
  obtain⟨F2,x2,sm,r2⟩:=RepR.frz x1 (Same.refl _) z1 q2
  have s2:=s.ext x2
  refine zgq m s2 q3 fun l l2 ks os vs o ws A A2 F3 H3 x3 g0 g1 g2 g3 g4 g5 g6 g7 g8 g9 g10=>?_
  have g00:=Option.some.inj (q6.symm.trans g0)
  subst g00
  have s3:=s2.ext x3
  refine m2 B F3 H3 σ δ _ _ s3 q4 fun yp F4 H4 x4 r4=>?_
  cases zaD r4
  have s4:=s3.ext x4
  have hz:z ∉ pp.2.1:=zdf (by cases q:ixI pp.2.1 z with | none=>rfl | some j=>exact(hno (.inl (by rw[q];rfl))).elim)
  refine⟨l2,o,pp.2.1,ws,z,rfl,rfl,x4.hh _ _ g7,g8,g9,by lia,hz,fun ob' d'=>?_⟩
  have r5:Rep F4 y d:=Rep.mono x4.ff (Rep.mono x3.ff r2)
  have ts4:=g4.move (H':=H4) x4.ff fun b hb=>let⟨u,hu,_⟩:=g4.lies b hb;(x4.hh _ _ hu).trans hu.symm
  have tw:=g10.move (H':=H4) x4.ff fun b hb=>let⟨u,hu,_⟩:=g10.lies b hb;(x4.hh _ _ hu).trans hu.symm
  have t1:TR X.K F4 H4 (.ref l2) (.dcI pp.2.1 pp.2.2) (l2 :: A2):=.dcI (x4.hh _ _ g7) g8 g9 tw
  obtain⟨w',B1,hw',tb,sb,sn,_⟩:=ts4.focus g5
  rw[g6] at hw'
  cases hw'
  cases tb.det t1
  obtain⟨A0,t0,n0,f0⟩:=s4.at (zcf q6) g1
  cases t0.det (TR.dcS (K:=X.K) (x4.hh _ _ g2) g3 ts4)
  have n1:=sn (List.nodup_cons.mp n0).2
  have nl:=(List.nodup_cons.mp n1).1
  have f1:∀ c ∈ l2 :: A2,F4 c=none:=fun c hc=>(f0 c (List.mem_cons_of_mem _ (sb c hc))).1
  have tw2:TRs X.K F4 (upd H4 l2 (knO l2 ob')) ws pp.2.2 A2:=tw.move (Same.refl _) fun a ha=>zah fun z=>nl (z ▸ ha)
  obtain⟨A5,ts5,e5⟩:=TRs.add (.val r5) tw2
  rw[List.append_nil] at e5
  subst e5
  obtain⟨z1,z2⟩:=s4.subC (up:=.dcS ks) (x':=.dcI (pp.2.1 ++ [z]) (pp.2.2 ++ [.val d])) (H':=upd H4 l2 (knO l2 ob')) (F':=F4) (zcf q6) g1 (fun a b=>.dcS a g3 b) (x4.hh _ _ g2) rfl ts4 g5 g6 t1 ⟨Same.refl _,fun c u hc=>by
    rw[zah fun z=>by subst z;rw[f1 _ List.mem_cons_self] at hc;cases hc]
    exact x4.fh _ _ hc,fun c u hc=>by
    obtain⟨z1,z2⟩:=zao hc
    rw[zah fun z=>z1 (by rw[z];exact List.mem_cons_self)]
    exact z2,fun _ _ _ _=>rfl⟩
   (.dcI zae d' (by rw[List.length_append,List.length_append,g9];rfl) ts5) n1 fun c hc=>⟨f1 c hc,zaZ hc⟩
  exact k σ F4 _ z1 ((FX.of ((x2.trans x3).trans x4) s.bh).trans z2)
end
noncomputable def asDs:Ent->Option (List Str × List D)
 | .val (.dcS ks l)=>some (ks,l)
 | _=>none
theorem zfu{e:Ent}{p:List Str × List D}(h:asDs e=some p):e=.val (.dcS p.1 p.2):=by
 cases e with
 | val d=>cases d <;> first | (cases h;rfl) | (cases h)
 | _=>cases h
noncomputable def gDxS:Ent->Ent->Option Ent:=fun x y=>(asDs x).bind fun p=>(sOf y).bind fun i=>(ixS p.1 i).bind fun j=>(p.2[j]?).map .val
noncomputable def eEqV0(fe:FE):FE:=fun δ=>(fe δ).bind fun x=>(asDs x).map fun p=>.val (.bl p.1.isEmpty)
section
variable {X:Cx}{e:Expr}{fe:FE}{pos p2:Pos}
theorem x_dxS:IxD X gDxS:=⟨_,zfU,fun H0 F H x y e e' res Q fh hh rx ry q k=>by
 obtain⟨p,q1,q⟩:=bind_some q
 obtain⟨z,q2,q⟩:=bind_some q
 obtain⟨j,q3,q⟩:=bind_some q
 obtain⟨d,q4,q⟩:=map_some q
 cases q
 cases zfu q1
 cases zbe q2
 cases zby ry
 cases (show Rep F x (.dcS p.1 p.2) from rx) with
 | dcS e l rs=>
  obtain⟨v,hv,rv⟩:=rs.get q4
  exact⟨_,_,z,v,rfl,rfl,.inl (fh _ _ e),by rw[zeT z l,q3];exact hv,k v F H (Ex.refl fh) rv⟩⟩
theorem vEqV0{n:Nat}(hr:Room n X.A)(he:VE X e fe)(hm:behindInMarks .Eq (.Dict [] [] p2)=false:=by rfl):VB X (.Compare e [.Eq] [.Dict [] [] p2] pos) (eEqV0 fe):=by
 obtain⟨t,w,m⟩:=he.h
 refine⟨_,wcmp (zgz hr) w wdnew hm,tcmp (zgz hr) w wdnew hm,fun B F H σ δ res Q s q k=>?_⟩
 obtain⟨x,q1,q⟩:=bind_some q
 obtain⟨pp,q2,q⟩:=map_some q
 cases q
 cases zfu q2
 refine m B F H σ δ _ _ s q1 fun v F1 H1 x1 r1=>?_
 cases (show Rep F1 v (.dcS pp.1 pp.2) from r1) with
 | @dcS a _ vs _ e1 hl ts=>
  refine fun b hb=>⟨a,b,_,rfl,rfl,(Same.alloc hb) _ _ (x1.fh _ _ e1),zae,?_⟩
  rw[show((pp.1.map Sum.inr).zip vs).isEmpty=pp.1.isEmpty from by
   cases q:pp.1 with
   | nil=>rfl
   | cons a b=>
    rw[q] at hl
    cases vs with
    | nil=>cases hl
    | cons _ _=>rfl]
  exact k _ F1 _ (x1.trans (Ex.lay x1.fh hb)) (.bl _)
end
end L3

namespace L3
open PySem PySem.Spec PyProof.Rows L2
section
variable {K:PySem.W.Frag}{kC:Str->Addr}{B:Bd}{F H F' H' F1:Hp}{σ:Sg}{δ:En}{v:V}{o:OT}{A:List Addr}{d0 d:D}{g:List D->Option Ent}{Q:VK}{E:XK}
theorem frzF(fh:Same F H)(fA:∀ a ∈ A,F a=none):∃ F1:Hp,Same F F1/\Same F1 H/\(∀ a ∈ A,F1 a=H a)/\∀ a,a ∉ A->F1 a=F a:=by
 refine⟨fun a=>if a ∈ A then H a else F a,fun a u e=>?_,fun a u e=>?_,fun a ha=>if_pos ha,fun a ha=>if_neg ha⟩
 ·show(if a ∈ A then H a else F a)=some u
  rw[if_neg fun ha=>by rw[fA a ha] at e;cases e]
  exact e
 ·have e':(if a ∈ A then H a else F a)=some u:=e
  split at e'
  ·exact e'
  ·exact fh a u e'
theorem thaw(t:TR K F H v o A)(fA:∀ a ∈ A,F a=none)(s1:Same F F1)(s3:∀ a ∈ A,F1 a=H a)(s4:∀ a,a ∉ A->F1 a=F a)(x:Ex F1 H F' H'):Ex F H (zda F' A) H'/\∀ a ∈ A,∃ u,F' a=some u/\isT u=false:=by
 refine⟨⟨fun a u e=>zaE (fun ha=>by rw[fA a ha] at e;cases e) (x.ff a u (s1 a u e)),fun a u e=>x.fh a u (zao e).2,x.hh,fun a u e ht=>?_⟩,fun a ha=>?_⟩
 ·by_cases ha:a ∈ A
  ·rw[zaZ ha,fA a ha]
  ·rw[zb2 ha,x.nw a u e ht,s4 a ha]
 ·obtain⟨u,h1,h2⟩:=t.lies a ha
  exact⟨u,((x.nw a u h1 h2).trans (s3 a ha)).trans h1,h2⟩
theorem lend(hK:∀ c C,zbK K c C->C=kC c)(fh:Same F H)(t:TR K F H v o A)(fA:∀ a ∈ A,F a=none)(q0:toD kC o=some d0)(q:g [d0]=some (.val d))(hp:plD d=true)(k:∀ x F' H',Ex F H F' H'->Rep F' x d->Q x H'):spD K [.v] g [v] H Q E:=by
 obtain⟨F1,s1,s2,s3,s4⟩:=frzF fh fA
 refine⟨F1,[d0],.val d,s2,.cons (k:=.v) (t.frz hK s1 s3 q0) .nil,q,fun x F' H' xx rx=>?_⟩
 obtain⟨x2,hA⟩:=thaw t fA s1 s3 s4 xx
 exact k x _ H' x2 ((show Rep F' x d from rx).off hA hp)
end
noncomputable def eMV(C:Addr)(ns:List Str)(g:List D->Option Ent)(fe:FE):FE:=fun δ=>(fe δ).bind fun x=>(asIn C ns x).bind fun l=>g [.ins C ns l]
section
variable {X:Cx}{e:Expr}{pos apos:Pos}{fe:FE}{m c qual:Str}{ns nsF ps:List Str}{g:List D->Option Ent}{fd:FuncData}{fm:Addr}{st:Stmt}{kk j:Nat}{pl:Sem Bool}{CX:CXT}{E:XK}
theorem vmethV{C:Addr}{kC:Str->Addr}(DC:ClsD X.K X.mg c nsF C)(hC:C=kC c)(D:MethD X.K c m st qual ps fm fd)(F:FnOk X.prog X.w X.K X.mg X.base CX kk fm fd ps (spD X.K [.v] g))(hr:Room j X.A)(hx:zbL CX X E)(he:VE X e fe)(hm:m ∉ ns:=by decide +kernel)(hjk:kk<=j:=by decide)
  (ht:eval (.Call (.Attribute e m apos) [] [] pos) X.env=(do
   let ov <- eval e X.env
   standAt apos.atName
   let (f,first) <- holding [ov] (getMethod ov m pl)
   callWith pos f first (backTo pos (starEach [] X.env)) (backToKw pos (keywordEach [] X.env))):=by rfl) :
  VE X (.Call (.Attribute e m apos) [] [] pos) (eMV (kC c) ns g fe):=by
 obtain⟨t,w,sm⟩:=he.h
 refine⟨_,⟨pe_meth0 w.h DC.cl (D.at_ _ DC.at_) F (hr.mono hjk) D.b .nil hx ht⟩,fun B F H σ δ res Q s q k=>?_⟩
 obtain⟨x,q1,q⟩:=bind_some q
 obtain⟨l,q2,q3⟩:=bind_some q
 cases zfj q2
 refine sm B F H σ δ _ _ s q1 fun v F1 H1 x1 r1=>?_
 have r1':Rep F1 v (.ins (kC c) ns l):=r1
 cases r1' with
 | ins e1 hl rs=>
  refine⟨_,_,_,rfl,hC ▸ x1.fh _ _ e1,zef hm,?_⟩
  refine⟨F1,[.ins (kC c) ns l],res,x1.fh,.cons (k:=.v) (Rep.ins e1 hl rs) .nil,q3,fun v' F' H' x2 r2=>k v' F' H' (x1.trans x2) (r2.earlier x1.hh)⟩
end
noncomputable def Bd.plus(B:Bd)(A:List Addr)(H:Hp):Bd:=⟨fun a=>if a ∈ A then H a else B.hp a,B.pin⟩
noncomputable abbrev FOb:=En->Option (OT × En)
noncomputable abbrev FObs:=En->Option (List OT × En)
noncomputable def SemOb(K:PySem.W.Frag)(t:TE)(f:FOb):Prop:=∀ (B:Bd) (F H:Hp) (σ:Sg) (δ:En) (o:OT) (δ':En) (Q:VK),RS K B F H σ δ->f δ=some (o,δ') ->
 (∀ v F' H' A,RS K (B.plus A H') F' H' σ δ'->FX B F F'->TR K F' H' v o A->A.Nodup->(∀ a ∈ A,F' a=none/\(B:Hp) a=none)->Q v H')->t σ H Q
noncomputable def SemObs(K:PySem.W.Frag)(t:TA)(f:FObs):Prop:=∀ (B:Bd) (F H:Hp) (σ:Sg) (δ:En) (os:List OT) (δ':En) (Q:List V->Hp->Prop),RS K B F H σ δ->f δ=some (os,δ') ->
 (∀ vs F' H' A,RS K (B.plus A H') F' H' σ δ'->FX B F F'->TRs K F' H' vs os A->A.Nodup->(∀ a ∈ A,F' a=none/\(B:Hp) a=none)->Q vs H')->t σ H Q
structure VOb(X:Cx)(e:Expr)(f:FOb):Prop where
 h:∃ t,WE X e t/\SemOb X.K t f
structure VObs(X:Cx)(es:List Expr)(f:FObs):Prop where
 h:∃ t,WA X es t/\SemObs X.K t f
noncomputable def oE(fe:FE):FOb:=fun δ=>(fe δ).bind fun r=>match r with
 | .obj o=>some (o,δ)
 | _=>none
noncomputable def oX(fx:FXE):FOb:=fun δ=>(fx δ).map fun p=>(.val p.1,p.2)
noncomputable def zdP:FObs:=fun δ=>some ([],δ)
noncomputable def zaP(fo:FOb)(fs:FObs):FObs:=fun δ=>(fo δ).bind fun p=>(fs p.2).map fun q=>(p.1 :: q.1,q.2)
noncomputable def zhx(fs:FObs):FOb:=fun δ=>(fs δ).bind fun p=>if p.1.length<=1000 then some (.los p.1,p.2) else none
noncomputable def zgZ(δ:En):En:=δ.map fun e=>match e with
 | some (.val d)=>some (.val d)
 | some (.own l)=>some (.own l)
 | some (.obj o)=>some (.obj o)
 | _=>none
noncomputable def zgR(i:Nat)(fo:FOb):FS:=fun δ=>(fo δ).map fun p=>.nx ((zgZ p.2).set i (some (.obj p.1)))
noncomputable def eDS0:FE:=fun _=>some (.obj (.dcS [] []))
theorem zbQ{δ:En}{i:Nat}{e:Ent}(h:(zgZ δ)[i]? = some (some e)):δ[i]? = some (some e)/\((∃ d,e=.val d) \/ (∃ l,e=.own l) \/ ∃ o,e=.obj o):=by
 unfold zgZ at h
 rw[List.getElem?_map] at h
 obtain⟨x,h1,h2⟩:=map_some h
 cases x with
 | none=>cases h2
 | some x=>cases x <;> first | (cases h2;exact⟨h1,by simp⟩) | (cases h2)
section
variable {K:PySem.W.Frag}{B:Bd}{F H F' H' H0:Hp}{σ:Sg}{δ:En}{v:V}{o:OT}{A A1 A2:List Addr}{i:Nat}
theorem Bd.plus_in{a:Addr}(h:a ∈ A):(B.plus A H).hp a=H a:=if_pos h
theorem Bd.plus_out{a:Addr}(h:a ∉ A):(B.plus A H).hp a=B.hp a:=if_neg h
theorem Bd.plus_nil:B.plus [] H=B:=by
 cases B
 unfold Bd.plus
 congr
theorem Bd.plus_of(hA:∀ a ∈ A,(B:Hp) a=none):Same B (B.plus A H):=fun a u h=>by
 rw[Bd.plus_out fun z=>by rw[hA a z] at h;cases h]
 exact h
theorem RS.plus(s:RS K B F H σ δ)(hA:∀ a ∈ A,(B:Hp) a=none)(hd:∀ (i:Nat) (e:Ent) (v:V) (a:Addr),δ[i]? = some (some e)->σ[i]? = some (some v)->Occ K F H v e a->a ∉ A):RS K (B.plus A H) F H σ δ:=by
 refine⟨s.fh,fun a u h=>?_,s.len,fun i e h=>?_,s.ap,s.ao,s.pn⟩
 ·by_cases ha:a ∈ A
  ·rw[Bd.plus_in ha] at h;exact h
  ·rw[Bd.plus_out ha] at h;exact s.bh a u h
 ·obtain⟨v,h1,r⟩:=s.ent i e h
  refine⟨v,h1,?_⟩
  cases e with
  | own ds=>obtain⟨l,vs,e,p3,p4,p5,p6⟩:=r;exact⟨l,vs,e,p3,p4,p5,(Bd.plus_out (hd i _ v l h h1 e)).trans p6⟩
  | bor ds=>obtain⟨l,vs,e,p3,p4⟩:=r;exact⟨l,vs,e,(Bd.plus_of hA).seq p3,p4⟩
  | bt ds=>obtain⟨l,vs,e,p3,p4⟩:=r;exact⟨l,vs,e,(Bd.plus_of hA).seqT p3,p4⟩
  | obj p=>obtain⟨A',t,n,f⟩:=r;exact⟨A',t,n,fun a ha=>⟨(f a ha).1,(Bd.plus_out (hd i _ v a h h1 ⟨A',t,ha⟩)).trans (f a ha).2⟩⟩
  | _=>exact r
theorem RS.land(s:RS K (B.plus A H) F H σ δ)(t:TR K F H v o A)(n:A.Nodup)(hA:∀ a ∈ A,F a=none/\(B:Hp) a=none)(h0:0<i):RS K B F H (σ.set i (some v)) ((zgZ δ).set i (some (.obj o))):=by
 have pn:∀ {a:Addr},(B.plus A H).hp a=none->(B:Hp) a=none:=fun {a} h=>by
  by_cases ha:a ∈ A
  ·exact(hA a ha).2
  ·rw[Bd.plus_out ha] at h;exact h
 have s0:RS K B F H σ (zgZ δ):=by
  refine⟨s.fh,fun a u h=>s.bh a u (Bd.plus_of (fun a ha=>(hA a ha).2) a u h),by rw[s.len];unfold zgZ;rw[List.length_map],fun i e h=>?_,fun a b l ds e hab h1 h2 h3=>?_,fun a b e1 e2 v1 v2 ad hab h1 h2 h3=>?_,fun w p hw hp=>?_⟩
  ·obtain⟨h1,h2⟩:=zbQ h
   obtain⟨v,g1,g2⟩:=s.ent i e h1
   refine⟨v,g1,?_⟩
   rcases h2 with ⟨d,rfl⟩ | ⟨l,rfl⟩ | ⟨o,rfl⟩
   ·exact g2
   ·obtain⟨l,vs,e,p3,p4,p5,p6⟩:=g2;exact⟨l,vs,e,p3,p4,p5,pn p6⟩
   ·obtain⟨A',t,n,f⟩:=g2;exact⟨A',t,n,fun a ha=>⟨(f a ha).1,pn (f a ha).2⟩⟩
  ·exact s.ap a b l ds e hab (zbQ h1).1 h2 (zbQ h3).1
  ·exact s.ao a b e1 e2 v1 v2 ad hab (zbQ h1).1 h2 (zbQ h3).1
  ·exact s.pn w p hw (zbQ hp).1
 refine s0.put i (e:=.obj o) ⟨A,t,n,hA⟩ (fun h=>by cases h) (fun _=>.inl h0) fun j e' w a hij g1 g2 _ q1 q2=>?_
 obtain⟨A',t',ha⟩:=q1
 rw[<- t.det t'] at ha
 obtain⟨u,hu,_⟩:=t.lies a ha
 obtain⟨g1',g3⟩:=zbQ g1
 have r:=s.at g1' g2
 have key:(B.plus A H).hp a=none:=by
  rcases g3 with ⟨d,rfl⟩ | ⟨l,rfl⟩ | ⟨o,rfl⟩
  ·exact q2.elim
  ·obtain⟨l,vs,e,p3,p4,p5,p6⟩:=r
   cases e
   cases (show V.ref l=.ref a from q2)
   exact p6
  ·obtain⟨A2,t2,_,f⟩:=r
   obtain⟨A3,t3,h3⟩:=q2
   rw[t3.det t2] at h3
   exact(f a h3).2
 rw[Bd.plus_in ha,hu] at key
 cases key
end
section
variable {X:Cx}{e:Expr}{es:List Expr}{fe:FE}{fx:FXE}{fo:FOb}{fs:FObs}{pos pos':Pos}{x:Str}
theorem vDS0:VE X (.Dict [] [] pos) eDS0:=⟨_,wdnew,fun B F H σ δ res Q s q k p hp=>by
 cases q
 exact k _ F _ (Ex.lay s.fh hp) ⟨⟨p,rfl⟩,[p],.dcS (ks:=[]) (vs:=[]) zae rfl .nil,by simp,fun a ha=>by
  simp at ha
  subst ha
  exact⟨s.fh.free hp,hp⟩⟩⟩
theorem voE(he:VE X e fe):VOb X e (oE fe):=by
 obtain⟨t,w,m⟩:=he.h
 refine⟨t,w,fun B F H σ δ o δ' Q s q k=>?_⟩
 obtain⟨r,q1,q⟩:=bind_some q
 cases r with
 | obj o=>
  cases q
  refine m B F H σ δ _ _ s q1 fun v F1 H1 x1 r1=>?_
  obtain⟨_,A,t,n,f⟩:=r1
  have hB:∀ a ∈ A,(B:Hp) a=none:=fun a ha=>s.bh.free (f a ha).2
  refine k v F1 H1 A ((s.ext x1).plus hB fun i e v a g1 g2 g3 ha=>?_) (.of x1 s.bh) t n fun a ha=>⟨(f a ha).1,hB a ha⟩
  obtain⟨u,hu⟩:=s.occ g1 g2 (g3.backX (s.at g1 g2) x1)
  rw[(f a ha).2] at hu
  cases hu
 | _=>cases q
theorem voX(he:VX X e fx):VOb X e (oX fx):=by
 obtain⟨t,w,m⟩:=he.h
 refine⟨t,w,fun B F H σ δ o δ' Q s q k=>?_⟩
 obtain⟨p,q1,q⟩:=map_some q
 cases q
 refine m B F H σ δ _ _ _ s q1 fun v F1 H1 s1 y1 r1=>k v F1 H1 [] (by rw[Bd.plus_nil];exact s1) y1 (.val r1) .nil fun a ha=>by cases ha
theorem vosN:VObs X [] zdP:=⟨_,zg4,fun B F H σ δ os δ' Q s q k=>by
 cases q
 exact k [] F H [] (by rw[Bd.plus_nil];exact s) .refl .nil .nil fun a ha=>by cases ha⟩
theorem zhw(ho:VOb X e fo)(hs:VObs X es fs)(h:zap e=true:=by rfl):VObs X (e :: es) (zaP fo fs):=by
 obtain⟨ta,wa,sa⟩:=ho.h
 obtain⟨tb,wb,sb⟩:=hs.h
 refine⟨_,wac wa wb h,fun B F H σ δ os δ' Q s q k=>?_⟩
 obtain⟨p,q1,q⟩:=bind_some q
 obtain⟨r,q2,q⟩:=map_some q
 cases q
 refine sa B F H σ δ _ _ _ s q1 fun v F1 H1 A1 s1 y1 t1 n1 f1=>?_
 refine sb _ F1 H1 σ p.2 r.1 r.2 _ s1 q2 fun vs F2 H2 A2 s2 y2 t2 n2 f2=>?_
 have d12:∀ a ∈ A1,a ∉ A2:=fun a h1 h2=>by
  have:=(f2 a h2).2
  rw[Bd.plus_in h1] at this
  obtain⟨u,hu,_⟩:=t1.lies a h1
  rw[hu] at this
  cases this
 have old:∀ a ∈ A1,H2 a=H1 a/\F2 a=F1 a:=fun a h1=>by
  obtain⟨u,hu,ht⟩:=t1.lies a h1
  have hb:(B.plus A1 H1).hp a=some u:=(Bd.plus_in h1).trans hu
  have hb2:((B.plus A1 H1).plus A2 H2).hp a=some u:=(Bd.plus_out (d12 a h1)).trans hb
  exact⟨(s2.bh a u hb2).trans hu.symm,y2.nw a u hb ht⟩
 have eB:(B.plus A1 H1).plus A2 H2=B.plus (A1 ++ A2) H2:=by
  show(⟨_,_⟩:Bd)=⟨_,_⟩
  congr 1
  funext a
  by_cases h2:a ∈ A2
  ·rw[if_pos h2,if_pos (List.mem_append_right _ h2)]
  ·rw[if_neg h2]
   by_cases h1:a ∈ A1
   ·rw[if_pos (List.mem_append_left _ h1)]
    exact(Bd.plus_in h1).trans (old a h1).1.symm
   ·rw[if_neg fun z=>(List.mem_append.mp z).elim h1 h2]
    exact Bd.plus_out h1
 rw[eB] at s2
 have pB:∀ a u,(B:Hp) a=some u->(B.plus A1 H1).hp a=some u:=Bd.plus_of fun a ha=>(f1 a ha).2
 refine k _ F2 H2 (A1 ++ A2) s2 ⟨y1.ff.trans y2.ff,fun a u ha ht=>(y2.nw a u (pB a u ha) ht).trans (y1.nw a u ha ht)⟩ (.cons (t1.move y2.ff fun a ha=>(old a ha).1) t2) (List.nodup_append.mpr ⟨n1,n2,fun a ha b hb e=>d12 a ha (e ▸ hb)⟩) fun a ha=>?_
 rcases List.mem_append.mp ha with h1 | h2
 ·exact⟨(old a h1).2.trans (f1 a h1).1,(f1 a h1).2⟩
 ·refine⟨(f2 a h2).1,?_⟩
  cases z:(B:Hp) a with
  | none=>rfl
  | some u=>have:=(f2 a h2).2;rw[pB a u z] at this;cases this
theorem voL(hs:VObs X es fs):VOb X (.List es pos) (zhx fs):=by
 obtain⟨t,w,m⟩:=hs.h
 refine⟨_,wlst w,fun B F H σ δ o δ' Q s q k=>?_⟩
 obtain⟨p,q1,q⟩:=bind_some q
 split at q
 ·rename_i hl
  cases q
  refine m B F H σ δ _ _ _ s q1 fun vs F1 H1 A s1 y1 t1 n1 f1=>⟨by rw[t1.length,sizeLine_eq];lia,fun a ha=>?_⟩
  have xa:Ex F1 H1 F1 (upd H1 a (.lst vs)):=Ex.lay s1.fh ha
  have na:a ∉ A:=fun z=>by
   obtain⟨u,hu,_⟩:=t1.lies a z
   rw[ha] at hu
   cases hu
  have Ba:(B.plus A H1).hp a=none:=by
   cases z:(B.plus A H1).hp a with
   | none=>rfl
   | some u=>have:=s1.bh a u z;rw[ha] at this;cases this
  have s2:=(s1.ext xa).plus (A:=[a]) (fun b hb=>by cases List.mem_singleton.mp hb;exact Ba) fun i e v b g1 g2 g3 hb=>by
   cases List.mem_singleton.mp hb
   obtain⟨u,hu⟩:=s1.occ g1 g2 (g3.backX (s1.at g1 g2) xa)
   rw[ha] at hu
   cases hu
  have eB:(B.plus A H1).plus [a] (upd H1 a (.lst vs))=B.plus (a :: A) (upd H1 a (.lst vs)):=by
   show(⟨_,_⟩:Bd)=⟨_,_⟩
   congr 1
   funext b
   by_cases hb:b=a
   ·subst hb;rw[if_pos (by simp),if_pos (by simp)]
   ·rw[if_neg (by simpa using hb)]
    by_cases hA:b ∈ A
    ·rw[if_pos (by simp[hA]),zah hb];exact Bd.plus_in hA
    ·rw[if_neg (by simp[hb,hA])];exact Bd.plus_out hA
  rw[eB] at s2
  refine k _ F1 _ (a :: A) s2 y1 (.los zae (t1.move (Same.refl _) fun b hb=>zah fun z=>na (z ▸ hb))) (List.nodup_cons.mpr ⟨na,n1⟩) fun b hb=>?_
  rcases List.mem_cons.mp hb with rfl | hb
  ·exact⟨s1.fh.free ha,(Bd.plus_out na).symm.trans Ba⟩
  ·exact f1 b hb
 ·cases q
theorem sSetOb{i:Nat}(h0:0<i)(hN:X.N.Nodup)(hi:X.N[i]? = some x)(hx:Loc X.env.scope x)(he:VOb X e fo)(hs:swapsWith e (some (.Name x pos')) pos.line X.env=pure false:=by rfl)(hf:X.fn x=true \/ X.env.scope.names.lookup x=some .local:=by first | exact .inl rfl | exact .inr rfl | assumption) :
  VS X (.Assign [.Name x pos'] e pos) (zgR i fo):=by
 obtain⟨t,w,m⟩:=he.h
 refine⟨_,sset hN hi hx w hs hf,fun B F H σ δ out DD s q k=>?_⟩
 obtain⟨p,q1,q⟩:=map_some q
 cases q
 exact m B F H σ δ _ _ _ s q1 fun v F' H' A s' y t n f=>k _ F' H' (s'.land t n f h0) y
end
end L3

namespace L3
open PySem PySem.Spec PyProof.Rows L2
noncomputable def zcq(b d:OT)(ws:List D):OT:=.los [b,d,.val (.lst ws)]
noncomputable def stOf:OT->Option (OT × OT × List D)
 | .los [b,d,.val (.lst ws)]=>some (b,d,ws)
 | _=>none
theorem stOf_some{o:OT}{p:OT × OT × List D}(h:stOf o=some p):o=zcq p.1 p.2.1 p.2.2:=by
 unfold stOf at h
 split at h
 ·cases h;rfl
 ·cases h
noncomputable abbrev GK:=(Str->Addr)->List D->Option Ent
noncomputable def StOk(gst:GK)(o:OT):Prop:=∀ kC,∃ d0,toD kC o=some d0/\gst kC [d0]=some (.val (.bl true))
noncomputable def fGoes(gst:GK)(fe2:FE)(fx3:FXE)(ft4 ft5:FT)(fk5:FK)(fx6 fx7:FXE):FS:=fun δ=>match δ with
 | [some (.obj o),some (.val (.int k)),none,none,none,none,none]=>(stOf o).bind fun p=>
  ((fe2 [none,some (.val (.int k)),some (.obj p.1),some (.obj p.2.1),some (.val (.lst p.2.2)),none,none]).bind asV).bind fun d2=>
  (fx3 [none,some (.val (.int k)),some (.obj p.1),some (.obj p.2.1),some (.val (.lst p.2.2)),some (.val d2),none]).bind fun r3=>
  (ft4 (r3.2.set 6 (some (.val r3.1)))).bind fun b4=>if b4=true then none else
  (ft5 (r3.2.set 6 (some (.val r3.1)))).bind fun b5=>(if b5=true then fk5 (r3.2.set 6 (some (.val r3.1))) else some (r3.2.set 6 (some (.val r3.1)))).bind fun δ5=>
  (fx6 δ5).bind fun r6=>(oAt 2 r6.2).bind fun b6=>(oAt 3 r6.2).bind fun d6=>gif (StOk gst (zcq b6 d6 p.2.2))
  ((fx7 r6.2).bind fun r7=>(bOfD r7.1).bind fun b7=>if b7=true then (oAt 2 r7.2).bind fun b8=>(oAt 3 r7.2).bind fun d8=>gif (StOk gst (zcq b8 d8 p.2.2))
   (some (.rt (.val (.bl true)) [some (.obj (zcq b8 d8 p.2.2)),none,none,none,none,none,none])) else none)
 | _=>none
section
variable {K:PySem.W.Frag}{B:Bd}{F H F' H':Hp}{σ:Sg}{v:V}{b d:OT}{ws:List D}{A:List Addr}{k:Int}
theorem st_cases(t:TR K F H v (zcq b d ws) A):∃ a vb vd vw A1 A2,v=.ref a/\A=a :: (A1 ++ A2)/\H a=some (.lst [vb,vd,vw])/\TR K F H vb b A1/\TR K F H vd d A2/\Rep F vw (.lst ws):=by
 cases t with
 | los e ts=>
  cases ts with
  | cons t1 ts=>
   cases ts with
   | cons t2 ts=>
    cases ts with
    | cons t3 ts=>
     cases ts
     cases t3 with
     | val r=>exact⟨_,_,_,_,_,_,rfl,by simp,e,t1,t2,r⟩
theorem st_mk{a:Addr}{vb vd vw:V}{A1 A2:List Addr}(e:H a=some (.lst [vb,vd,vw]))(t1:TR K F H vb b A1)(t2:TR K F H vd d A2)(r:Rep F vw (.lst ws)):TR K F H (.ref a) (zcq b d ws) (a :: (A1 ++ A2)):=by
 have:=TR.los (K:=K) e (.cons t1 (.cons t2 (.cons (.val r) .nil)))
 rw[List.append_nil,List.append_nil] at this
 exact this
theorem rs_open{a:Addr}{vb vd vw:V}{A1 A2:List Addr}{σ:Sg}(fh:Same F H)(bh:Same B H)(h1:σ[1]? = some (some (.int k)))(h2:σ[2]? = some (some vb))(h3:σ[3]? = some (some vd))(h4:σ[4]? = some (some vw))(hl:σ.length=7)
  (e:H a=some (.lst [vb,vd,vw])) (t1:TR K F H vb b A1) (t2:TR K F H vd d A2) (r:Rep F vw (.lst ws)) (n:(a :: (A1 ++ A2)).Nodup) (f:∀ x ∈ a :: (A1 ++ A2),F x=none/\(B:Hp) x=none) :
  RS K ⟨(B.plus [a] H).hp,none⟩ F H σ [none,some (.val (.int k)),some (.obj b),some (.obj d),some (.val (.lst ws)),none,none]:=by
 obtain⟨na,n12⟩:=List.nodup_cons.mp n
 obtain⟨n1,n2,nd⟩:=List.nodup_append.mp n12
 have key:∀ {i:Nat} {e:Ent},([none,some (.val (.int k)),some (.obj b),some (.obj d),some (.val (.lst ws)),none,none]:En)[i]? = some (some e)->(i=1/\e=.val (.int k)) \/ (i=2/\e=.obj b) \/ (i=3/\e=.obj d) \/ (i=4/\e=.val (.lst ws)):=fun {i e} h=>by
  match i,h with
  | 0,h=>cases h
  | 1,h=>cases h;exact .inl ⟨rfl,rfl⟩
  | 2,h=>cases h;exact .inr (.inl ⟨rfl,rfl⟩)
  | 3,h=>cases h;exact .inr (.inr (.inl ⟨rfl,rfl⟩))
  | 4,h=>cases h;exact .inr (.inr (.inr ⟨rfl,rfl⟩))
  | 5,h=>cases h
  | 6,h=>cases h
  | i+7,h=>cases h
 have out:∀ x ∈ A1 ++ A2,F x=none/\(B.plus [a] H).hp x=none:=fun x hx=>⟨(f x (List.mem_cons_of_mem _ hx)).1,(Bd.plus_out fun z=>na (by cases List.mem_singleton.mp z;exact hx)).trans (f x (List.mem_cons_of_mem _ hx)).2⟩
 refine⟨fh,fun x u h=>?_,hl,fun i e h=>?_,fun a b l ds e hab h1=>?_,fun i j e1 e2 v1 v2 ad hij g1 g2 g3 g4 g5 g6 g7=>?_,fun w o hw _=>by cases hw⟩
 ·by_cases hx:x ∈ [a]
  ·have h':(B.plus [a] H).hp x=some u:=h;rw[Bd.plus_in hx] at h';exact h'
  ·have h':(B.plus [a] H).hp x=some u:=h;rw[Bd.plus_out hx] at h';exact bh x u h'
 ·rcases key h with ⟨rfl,rfl⟩ | ⟨rfl,rfl⟩ | ⟨rfl,rfl⟩ | ⟨rfl,rfl⟩
  ·exact⟨_,h1,.int k⟩
  ·exact⟨_,h2,A1,t1,n1,fun x hx=>out x (List.mem_append_left _ hx)⟩
  ·exact⟨_,h3,A2,t2,n2,fun x hx=>out x (List.mem_append_right _ hx)⟩
  ·exact⟨_,h4,r⟩
 ·rcases key h1 with ⟨_,z⟩ | ⟨_,z⟩ | ⟨_,z⟩ | ⟨_,z⟩ <;> cases z
 ·rcases key g1 with ⟨rfl,rfl⟩ | ⟨rfl,rfl⟩ | ⟨rfl,rfl⟩ | ⟨rfl,rfl⟩
  ·cases g5
  ·rcases key g3 with ⟨rfl,rfl⟩ | ⟨rfl,rfl⟩ | ⟨rfl,rfl⟩ | ⟨rfl,rfl⟩
   ·exact g7
   ·exact hij rfl
   ·rw[h2] at g2;cases g2
    rw[h3] at g4;cases g4
    obtain⟨_,s1,m1⟩:=g6
    obtain⟨_,s2,m2⟩:=g7
    rw[<- t1.det s1] at m1
    rw[<- t2.det s2] at m2
    exact nd _ m1 _ m2 rfl
   ·exact g7
  ·rcases key g3 with ⟨rfl,rfl⟩ | ⟨rfl,rfl⟩ | ⟨rfl,rfl⟩ | ⟨rfl,rfl⟩
   ·exact g7
   ·rw[h3] at g2;cases g2
    rw[h2] at g4;cases g4
    obtain⟨_,s1,m1⟩:=g6
    obtain⟨_,s2,m2⟩:=g7
    rw[<- t2.det s1] at m1
    rw[<- t1.det s2] at m2
    exact nd _ m2 _ m1 rfl
   ·exact hij rfl
   ·exact g7
  ·cases g5
theorem zgf{a:Addr}{vb vd vw:V}{δ':En}(e:H a=some (.lst [vb,vd,vw]))(r:Rep F vw (.lst ws))(fa:F a=none)(Ba:(B:Hp) a=none)(s:RS K ⟨(B.plus [a] H).hp,none⟩ F' H' σ δ')(y:FX (B.plus [a] H).hp F F')(h2:σ[2]? = some (some vb))(h3:σ[3]? = some (some vd))
  (q2:oAt 2 δ'=some b) (q3:oAt 3 δ'=some d):∃ A',TR K F' H' (.ref a) (zcq b d ws) A'/\A'.Nodup/\∀ x ∈ A',F' x=none/\(B:Hp) x=none:=by
 have hin:(B.plus [a] H).hp a=some (.lst [vb,vd,vw]):=(Bd.plus_in (by simp)).trans e
 obtain⟨A1,t1,n1,f1⟩:=s.at (zas q2) h2
 obtain⟨A2,t2,n2,f2⟩:=s.at (zas q3) h3
 have na:∀ {x:Addr},(B.plus [a] H).hp x=none->x ≠ a/\(B:Hp) x=none:=fun {x} h=>by
  have z:x ≠ a:=fun z=>by rw[z,hin] at h;cases h
  exact⟨z,(Bd.plus_out (by simpa using z)).symm.trans h⟩
 refine⟨_,st_mk (s.bh a _ hin) t1 t2 (Rep.mono y.ff r),List.nodup_cons.mpr ⟨fun z=>?_,List.nodup_append.mpr ⟨n1,n2,fun x hx z hz ez=>?_⟩⟩,fun x hx=>?_⟩
 ·rcases List.mem_append.mp z with z | z
  ·exact(na (f1 a z).2).1 rfl
  ·exact(na (f2 a z).2).1 rfl
 ·subst ez
  exact s.ao 2 3 _ _ vb vd x (by decide) (zas q2) h2 (zas q3) h3 rfl ⟨A1,t1,hx⟩ ⟨A2,t2,hz⟩
 ·rcases List.mem_cons.mp hx with rfl | hx
  ·exact⟨(y.nw _ _ hin rfl).trans fa,Ba⟩
  ·rcases List.mem_append.mp hx with z | z
   ·exact⟨(f1 x z).1,(na (f1 x z).2).2⟩
   ·exact⟨(f2 x z).1,(na (f2 x z).2).2⟩
theorem rs_only{o:OT}{m:Nat}(fh:Same F H)(bh:Same B H)(hl:σ.length=m+1)(h0:σ[0]? = some (some v))(t:TR K F H v o A)(n:A.Nodup)(f:∀ x ∈ A,F x=none/\(B:Hp) x=none)(pn:∀ w,B.pin=some w->w=v):RS K B F H σ (some (.obj o) :: List.replicate m none):=by
 have key:∀ {i:Nat} {e:Ent},(some (Ent.obj o) :: List.replicate m (none:Option Ent))[i]? = some (some e)->i=0/\e=.obj o:=fun {i e} h=>by
  cases i with
  | zero=>cases h;exact⟨rfl,rfl⟩
  | succ i=>
   rw[List.getElem?_cons_succ,List.getElem?_replicate] at h
   split at h <;> cases h
 refine⟨fh,bh,by simp[hl],fun i e h=>?_,fun a b l ds e hab h1=>?_,fun i j e1 e2 v1 v2 ad hij g1 g2 g3=>?_,fun w p hw _=>?_⟩
 ·obtain⟨rfl,rfl⟩:=key h
  exact⟨v,h0,A,t,n,f⟩
 ·obtain⟨_,z⟩:=key h1
  cases z
 ·exact(hij ((key g1).1.trans (key g3).1.symm)).elim
 ·rw[h0,pn w hw]
theorem semGoes{kC:Str->Addr}{gst:GK}{fe2:FE}{fx3:FXE}{ft4 ft5:FT}{fk5:FK}{fx6 fx7:FXE}{t2 tx3 tx6 tx7:TE}{tt4 tt5:TT}{u4 tk5:TS}{E:XK}(hK:∀ c C,zbK K c C->C=kC c)(m2:SemE K t2 fe2)(m3:SemX K tx3 fx3)(m4:SemT K tt4 ft4)(m5:SemT K tt5 ft5)(k5:SemN K tk5 fk5)(m6:SemX K tx6 fx6)(m7:SemX K tx7 fx7) :
  SemS K (zfb (zdS (zb0 0) (gLst K 3 (zfC (zbJ 2) (zfC (zbJ 3) (zfC (zbJ 4) gNil))))) (zfb (zdS t2 (zbJ 5)) (zfb (zdS tx3 (zbJ 6)) (zfb (zgL tt4 u4 zdv) (zfb (zgL tt5 tk5 zdv) (zfb (tDrop tx6)
   (zhr (zfx (zdl (spD K [.v] (gst kC)) [] E (zcL (zb0 0) zfi)) (zfx tx7 (zdl (spD K [.v] (gst kC)) [] E (zcL (zb0 0) zfi)))))))))))
   (fGoes gst fe2 fx3 ft4 ft5 fk5 fx6 fx7):=fun B F H σ δ out DD s q kk=>by
 unfold fGoes at q
 split at q
 ·rename_i o k
  obtain⟨p,q0,q⟩:=bind_some q
  obtain⟨b,d,ws⟩:=p
  obtain⟨d2,q2,q⟩:=bind_some q
  obtain⟨r2,q2,q2'⟩:=bind_some q2
  obtain⟨r3,q3,q⟩:=bind_some q
  obtain⟨b4,q4,q⟩:=bind_some q
  cases b4 with
  | true=>cases q
  | false=>
  rw[if_neg Bool.false_ne_true] at q
  obtain⟨b5,q5,q⟩:=bind_some q
  obtain⟨δ5,q5',q⟩:=bind_some q
  obtain⟨r6,q6,q⟩:=bind_some q
  obtain⟨o6,qo6,q⟩:=bind_some q
  obtain⟨d6,qd6,q⟩:=bind_some q
  obtain⟨ok6,q⟩:=zaX q
  obtain⟨r7,q7,q⟩:=bind_some q
  obtain⟨b7,qb7,q⟩:=bind_some q
  cases b7 with
  | false=>cases q
  | true=>
  rw[if_pos rfl] at q
  obtain⟨o8,qo8,q⟩:=bind_some q
  obtain⟨d8,qd8,q⟩:=bind_some q
  obtain⟨ok8,q⟩:=zaX q
  cases q
  have e0:=stOf_some q0
  subst e0
  obtain⟨v,h0,A,t,n,f⟩:=s.ent 0 _ rfl
  obtain⟨vk,h1,rk⟩:=s.ent 1 _ rfl
  cases zaD rk
  obtain⟨a,vb,vd,vw,A1,A2,rfl,rfl,ea,t1,t2',rw'⟩:=st_cases t
  have hl:σ.length=7:=s.len
  have fa:=(f a List.mem_cons_self).1
  have Ba:=(f a List.mem_cons_self).2
  refine⟨_,h0,a,[vb,vd,vw],rfl,SqL.of ea,rfl,vb,_,rfl,vd,_,rfl,vw,_,rfl,rfl,?_⟩
  generalize hσ:((σ.set 2 (some vb)).set 3 (some vd)).set 4 (some vw)=σ1
  have g0:σ1[0]? = some (some (.ref a)):=by rw[<- hσ];simpa [List.getElem?_set] using h0
  have g1:σ1[1]? = some (some (.int k)):=by rw[<- hσ];simpa [List.getElem?_set] using h1
  have g2:σ1[2]? = some (some vb):=by rw[<- hσ];simp[List.getElem?_set,hl]
  have g3:σ1[3]? = some (some vd):=by rw[<- hσ];simp[List.getElem?_set,hl]
  have g4:σ1[4]? = some (some vw):=by rw[<- hσ];simp[List.getElem?_set,hl]
  have gl:σ1.length=7:=by rw[<- hσ];simp[hl]
  have s1:=rs_open (K:=K) s.fh s.bh g1 g2 g3 g4 gl ea t1 t2' rw' n f
  show t2 σ1 H _
  refine m2 _ F H σ1 _ _ _ s1 q2 fun v2 F2 H2 x2 z2=>?_
  obtain⟨F3,x3,_,r3'⟩:=RepR.frz x2 (Same.refl _) z2 q2'
  have y3:FX (B.plus [a] H).hp F F3:=.of x3 s1.bh
  have s3:=(s1.ext x3).putV 5 r3'
  show tx3 (σ1.set 5 (some v2)) H2 _
  refine m3 _ F3 H2 _ _ _ _ _ s3 q3 fun v3 F4 H4 s4 y4 r4=>?_
  have s5:=s4.putV 6 r4
  generalize hσ2:(σ1.set 5 (some v2)).set 6 (some v3)=σ2 at s5
  have p0:σ2[0]? = some (some (.ref a)):=by rw[<- hσ2];simpa [List.getElem?_set] using g0
  have p2:σ2[2]? = some (some vb):=by rw[<- hσ2];simpa [List.getElem?_set] using g2
  have p3:σ2[3]? = some (some vd):=by rw[<- hσ2];simpa [List.getElem?_set] using g3
  have pl:σ2.length=7:=by rw[<- hσ2];simp[gl]
  have y34:=y3.trans y4
  show zbJ 6 v3 (σ1.set 5 (some v2)) H4 _
  show zgL tt4 u4 zdv _ ((σ1.set 5 (some v2)).set 6 (some v3)) H4
  rw[hσ2]
  refine m4 _ F4 H4 σ2 _ _ _ s5 q4 fun F5 H5 x5=>?_
  rw[if_neg Bool.false_ne_true]
  have s6:=s5.ext x5
  have y5:=y34.trans (.of x5 s5.bh)
  show zgL tt5 tk5 zdv _ σ2 H5
  refine m5 _ F5 H5 σ2 _ _ _ s6 q5 fun F6 H6 x6=>?_
  have s7:=s6.ext x6
  have y6:=y5.trans (.of x6 s6.bh)
  have fin:∀ (F7 H7:Hp),RS K ⟨(B.plus [a] H).hp,none⟩ F7 H7 σ2 δ5->FX (B.plus [a] H).hp F F7->(zfb (tDrop tx6) (zhr (zfx (zdl (spD K [.v] (gst kC)) [] E (zcL (zb0 0) zfi)) (zfx tx7 (zdl (spD K [.v] (gst kC)) [] E (zcL (zb0 0) zfi)))))) DD σ2 H7:=fun F7 H7 s8 y7=>by
   show tx6 σ2 H7 _
   refine m6 _ F7 H7 σ2 _ _ _ _ s8 q6 fun v8 F8 H8 s9 y8 _=>?_
   have y9:=y7.trans y8
   obtain⟨A9,t9,n9,f9⟩:=zgf (K:=K) ea rw' fa Ba s9 y9 p2 p3 qo6 qd6
   obtain⟨d9,e9,e9'⟩:=ok6 kC
   refine⟨_,p0,?_⟩
   refine lend (E:=E) hK s9.fh t9 (fun x hx=>(f9 x hx).1) e9 e9' rfl fun v10 F10 H10 x10 r10=>?_
   cases zcF r10
   refine⟨true,rfl,?_⟩
   rw[if_pos rfl]
   have s10:=s9.ext x10
   have y10:=y9.trans (.of x10 s9.bh)
   refine m7 _ F10 H10 σ2 _ _ _ _ s10 q7 fun v11 F11 H11 s11 y11 r11=>?_
   rw[zfd qb7] at r11
   cases zcF r11
   refine⟨true,rfl,?_⟩
   rw[if_pos rfl]
   have y12:=y10.trans y11
   obtain⟨A12,t12,n12,f12⟩:=zgf (K:=K) ea rw' fa Ba s11 y12 p2 p3 qo8 qd8
   obtain⟨d12,e12,e12'⟩:=ok8 kC
   refine⟨_,p0,?_⟩
   refine lend (E:=E) hK s11.fh t12 (fun x hx=>(f12 x hx).1) e12 e12' rfl fun v13 F13 H13 x13 r13=>?_
   cases zcF r13
   have s13:=s11.ext x13
   have y13:=y12.trans (.of x13 s11.bh)
   obtain⟨A14,t14,n14,f14⟩:=zgf (K:=K) ea rw' fa Ba s13 y13 p2 p3 qo8 qd8
   have sb:Same (B:Hp) (B.plus [a] H).hp:=Bd.plus_of fun x hx=>by cases List.mem_singleton.mp hx;exact Ba
   refine kk (.bl true) σ2 F13 H13 (rs_only (m:=6) s13.fh (fun x u hx=>s13.bh x u (sb x u hx)) pl p0 t14 n14 f14 fun w hw=>?_) ⟨y13.ff,fun x u hx ht=>y13.nw x u (sb x u hx) ht⟩ (.bl true)
   have:=s.pn w _ hw rfl
   rw[h0] at this
   cases this
   rfl
  cases b5 with
  | true=>
   rw[if_pos rfl] at q5' ⊢
   exact k5 _ F6 H6 σ2 _ _ _ s7 q5' fun F7 H7 s8 y7=>fin F7 H7 s8 (y6.trans y7)
  | false=>
   rw[if_neg Bool.false_ne_true] at q5' ⊢
   cases q5'
   exact fin F6 H6 s7 y6
 ·cases q
end
theorem sGoes{X:Cx}{kC:Str->Addr}{gst:GK}{fe2:FE}{fx3:FXE}{ft4 ft5:FT}{fk5:FK}{fx6 fx7:FXE}{E:XK}{y1 y2 y3 y4 y5 y6 y7 y9:Stmt}{e2 e3 c4 c5 e6 e7:Expr}{u4:TS}(hK:∀ c C,zbK X.K c C->C=kC c)(v2:VE X e2 fe2)(v3:VX X e3 fx3)(v4:VT X c4 ft4)(v5:VT X c5 ft5)(k5:VN X y9 fk5)(v6:VX X e6 fx6)(v7:VX X e7 fx7)
  (w1:WS X y1 (zdS (zb0 0) (gLst X.K 3 (zfC (zbJ 2) (zfC (zbJ 3) (zfC (zbJ 4) gNil)))))) (w2:∀ t,WE X e2 t->WS X y2 (zdS t (zbJ 5))) (w3:∀ t,WE X e3 t->WS X y3 (zdS t (zbJ 6))) (w4:∀ t,WT X c4 t->WS X y4 (zgL t u4 zdv)) (w5:∀ t u,WT X c5 t->WS X y9 u->WS X y5 (zgL t u zdv)) (w6:∀ t,WE X e6 t->WS X y6 (tDrop t))
  (w7:∀ t,WE X e7 t->WS X y7 (zhr (zfx (zdl (spD X.K [.v] (gst kC)) [] E (zcL (zb0 0) zfi)) (zfx t (zdl (spD X.K [.v] (gst kC)) [] E (zcL (zb0 0) zfi)))))) :
  VSs X [y1,y2,y3,y4,y5,y6,y7] (fGoes gst fe2 fx3 ft4 ft5 fk5 fx6 fx7):=by
 obtain⟨t2,a2,m2⟩:=v2.h
 obtain⟨t3,a3,m3⟩:=v3.h
 obtain⟨t4,a4,m4⟩:=v4.h
 obtain⟨t5,a5,m5⟩:=v5.h
 obtain⟨t9,a9,m9⟩:=k5.h
 obtain⟨t6,a6,m6⟩:=v6.h
 obtain⟨t7,a7,m7⟩:=v7.h
 exact⟨_,sc w1 (sc (w2 t2 a2) (sc (w3 t3 a3) (sc (w4 t4 a4) (sc (w5 t5 t9 a5 a9) (sc (w6 t6 a6) (s1 (w7 t7 a7))))))),semGoes hK m2 m3 m4 m5 m9 m6 m7⟩
noncomputable def LtIs(ft:FT)(k:Int)(o:OT)(b:Bool):Prop:=∀ kC,∃ d0,toD kC o=some d0/\ft [none,none,none,none,some (.val (.int k)),some (.val d0)]=some b
open Classical in
noncomputable def zfR(gst:GK)(ft:FT)(ggo:GM)(k:Int)(o:OT):Option OT:=gif (StOk gst o) (if LtIs ft k o true then (ggo o [.int k]).bind fun r=>(bOfD r.1).bind fun b=>if b=true then some r.2 else none else gif (LtIs ft k o false) (some o))
noncomputable def zd5(gst:GK)(ft:FT)(ggo:GM)(k:Int):List OT->Option (List OT)
 | []=>some []
 | o :: os=>(zfR gst ft ggo k o).bind fun o'=>(zd5 gst ft ggo k os).map fun os'=>o' :: os'
noncomputable def fWalk(gst:GK)(ft:FT)(ggo:GM):FS:=fun δ=>match δ with
 | [none,e1,e2,some (.obj (.los sts)),some (.val (.int k)),e5]=>(zd5 gst ft ggo k sts).map fun sts'=>.nx [none,e1,e2,some (.obj (.los sts')),some (.val (.int k)),none]
 | _=>none
section
variable {K:PySem.W.Frag}{B:Bd}{F H F' H' F1:Hp}{σ:Sg}{k:Int}{d0:D}{v:V}
theorem rs_two(fh:Same F H)(hl:σ.length=6)(h4:σ[4]? = some (some (.int k)))(h5:σ[5]? = some (some v))(r:Rep F v d0):RS K ⟨fun _=>none,none⟩ F H σ [none,none,none,none,some (.val (.int k)),some (.val d0)]:=by
 have key:∀ {i:Nat} {e:Ent},([none,none,none,none,some (.val (.int k)),some (.val d0)]:En)[i]? = some (some e)->(i=4/\e=.val (.int k)) \/ (i=5/\e=.val d0):=fun {i e} h=>by
  match i,h with
  | 0,h=>cases h
  | 1,h=>cases h
  | 2,h=>cases h
  | 3,h=>cases h
  | 4,h=>cases h;exact .inl ⟨rfl,rfl⟩
  | 5,h=>cases h;exact .inr ⟨rfl,rfl⟩
  | i+6,h=>cases h
 refine⟨fh,(fun _ _ e=>by cases e),hl,fun i e h=>?_,fun a b l ds e hab h1=>?_,fun i j e1 e2 v1 v2 ad hij g1 g2 g3 g4 g5=>?_,fun w o hw _=>by cases hw⟩
 ·rcases key h with ⟨rfl,rfl⟩ | ⟨rfl,rfl⟩
  ·exact⟨_,h4,.int k⟩
  ·exact⟨_,h5,r⟩
 ·rcases key h1 with ⟨_,z⟩ | ⟨_,z⟩ <;> cases z
 ·rcases key g1 with ⟨_,z⟩ | ⟨_,z⟩ <;> (subst z;cases g5)
theorem semWalk{kC:Str->Addr}{gst:GK}{ft:FT}{ggo:GM}{tt:TT}{u:TS}{E E2:XK}(hK:∀ c C,zbK K c C->C=kC c)(m:SemT K tt ft) :
  SemS K (tFor (iList K (zb0 3)) (zbJ 5) (zgL (tOr (tNot (tB (zdl (spD K [.v] (gst kC)) [] E (zcL (zb0 5) zfi)))) (tAnd tt (tNot (tB (zdl (spM K ggo) [] E2 (zcL (zb0 5) (zcL (zb0 4) zfi))))))) u zdv)) (fWalk gst ft ggo):=fun B F H σ δ out DD s q kk=>by
 unfold fWalk at q
 split at q
 ·rename_i e1 e2 sts k e5
  obtain⟨sts',q1,q⟩:=map_some q
  subst q
  obtain⟨v,h3,A,t,n,f⟩:=s.ent 3 _ rfl
  obtain⟨vk,h4,rk⟩:=s.ent 4 _ rfl
  cases zaD rk
  have hl:σ.length=6:=s.len
  cases t with
  | @los l vs _ A e ts=>
  have hvs:=ts.length
  refine⟨_,h3,l,rfl,⟨vs,SqL.of e⟩,?_⟩
  refine⟨fun i m σ' H'=>m=sts.length - i/\i<=sts.length/\∃ F' z os1 os2,σ'=σ.set 5 z/\RS K B F' H' σ' [none,e1,e2,some (.obj (.los (os1 ++ sts.drop i))),some (.val (.int k)),none]/\FX B F F'/\H' l=some (.lst vs)/\os1.length=i/\zd5 gst ft ggo k (sts.drop i)=some os2/\os1 ++ os2=sts',?_,?_⟩
  ·have h5:∃ z,σ[5]? = some z:=⟨_,List.getElem?_eq_getElem (by lia)⟩
   obtain⟨z,h5⟩:=h5
   have es:σ.set 5 z=σ:=by
    obtain⟨hlt,he⟩:=List.getElem?_eq_some_iff.mp h5
    rw[<- he,List.set_getElem_self]
   have s':=s.fgt 5 z
   rw[es] at s'
   exact⟨_,rfl,Nat.zero_le _,F,z,[],sts',es.symm,s',.refl,e,rfl,q1,rfl⟩
  ·rintro i m' σ' H' ⟨rfl,hi,F',z,os1,os2,rfl,s',y',e',l1,q2,q3⟩
   by_cases hlt:i<sts.length
   ·right
    rw[List.drop_eq_getElem_cons hlt] at q2 s'
    obtain⟨o',q4,q2⟩:=bind_some q2
    obtain⟨os3,q5,q2⟩:=map_some q2
    subst q2
    have hv:vs[i]? = some vs[i]:=List.getElem?_eq_getElem (by lia)
    refine⟨⟨vs,_,SqL.of e',hv⟩,fun σ2 H2=>sts.length - (i+1)=sts.length - (i+1)/\i+1<=sts.length/\∃ F' z os1 os2,σ2=σ.set 5 z/\RS K B F' H2 σ2 [none,e1,e2,some (.obj (.los (os1 ++ sts.drop (i+1)))),some (.val (.int k)),none]/\FX B F F'/\H2 l=some (.lst vs)/\os1.length=i+1/\zd5 gst ft ggo k (sts.drop (i+1))=some os2/\os1 ++ os2=sts',fun σ2 H2 hN=>⟨_,by lia,hN⟩,fun x H2 yl=>?_⟩
    obtain⟨rfl,yl⟩:=yl
    have hx:=yl vs (SqL.of e')
    have s2:=s'.fgt 5 (some x)
    rw[List.set_set] at s2
    have h3':(σ.set 5 (some x))[3]? = some (some (.ref l)):=by rw[List.getElem?_set_ne (by decide)];exact h3
    have h4':(σ.set 5 (some x))[4]? = some (some (.int k)):=by rw[List.getElem?_set_ne (by decide)];exact h4
    have h5':(σ.set 5 (some x))[5]? = some (some x):=by rw[List.getElem?_set_self (by lia)]
    have hl':(σ.set 5 (some x)).length=6:=by rw[List.length_set];exact hl
    show zgL _ _ _ _ ((σ.set 5 z).set 5 (some x)) _
    rw[List.set_set]
    generalize hσ3:σ.set 5 (some x)=σ3 at *
    obtain⟨A3,t3,n3,f3⟩:=s2.at (i:=3) rfl h3'
    cases t3 with
    | @los _ vs3 _ A3 e3 ts3=>
    cases HO.lst.inj (Option.some.inj (e3.symm.trans e'))
    have hix:(os1 ++ sts[i] :: sts.drop (i+1))[i]? = some sts[i]:=by rw[List.getElem?_append_right (by lia),l1,Nat.sub_self];rfl
    obtain⟨w,A1,hw,tw,sub,nd1,_⟩:=ts3.focus hix
    rw[hx] at hw
    cases hw
    have nl:l ∉ A1:=fun z=>(List.nodup_cons.mp n3).1 (sub l z)
    have n1:=nd1 (List.nodup_cons.mp n3).2
    have fin:∀ (F7 H7:Hp) (o7:OT),RS K B F7 H7 σ3 [none,e1,e2,some (.obj (.los ((os1 ++ sts[i] :: sts.drop (i+1)).set i o7))),some (.val (.int k)),none]->FX B F F7->H7 l=some (.lst vs)->o7=o' ->
      sts.length - (i+1)=sts.length - (i+1)/\i+1<=sts.length/\∃ F' z os1 os2,σ3=σ.set 5 z/\RS K B F' H7 σ3 [none,e1,e2,some (.obj (.los (os1 ++ sts.drop (i+1)))),some (.val (.int k)),none]/\FX B F F'/\H7 l=some (.lst vs)/\os1.length=i+1/\zd5 gst ft ggo k (sts.drop (i+1))=some os2/\os1 ++ os2=sts':=fun F7 H7 o7 s7 y7 e7 eo=>by
     subst eo
     have ee:(os1 ++ sts[i] :: sts.drop (i+1)).set i o7=(os1 ++ [o7]) ++ sts.drop (i+1):=by
      rw[List.set_append_right _ _ (by lia),l1,Nat.sub_self,List.set_cons_zero,List.append_assoc]
      rfl
     rw[ee] at s7
     exact⟨rfl,hlt,F7,some x,os1 ++ [o7],os3,hσ3.symm,s7,y7,e7,by simp[l1],q5,by rw[<- q3,List.append_assoc];rfl⟩
    have same:∀ (F7 H7:Hp),RS K B F7 H7 σ3 [none,e1,e2,some (.obj (.los (os1 ++ sts[i] :: sts.drop (i+1)))),some (.val (.int k)),none]->RS K B F7 H7 σ3 [none,e1,e2,some (.obj (.los ((os1 ++ sts[i] :: sts.drop (i+1)).set i sts[i]))),some (.val (.int k)),none]:=fun F7 H7 s7=>by
     have:(os1 ++ sts[i] :: sts.drop (i+1)).set i sts[i]=os1 ++ sts[i] :: sts.drop (i+1):=by
      rw[List.set_append_right _ _ (by lia),l1,Nat.sub_self]
      rfl
     rw[this]
     exact s7
    unfold zfR at q4
    obtain⟨ok,q4⟩:=zaX q4
    obtain⟨d9,e9,e9'⟩:=ok kC
    have fA:∀ a ∈ A1,F' a=none:=fun a ha=>(f3 a (List.mem_cons_of_mem _ (sub a ha))).1
    refine⟨x,h5',?_⟩
    refine lend (E:=E) hK s2.fh tw fA e9 e9' rfl fun v4 F4 H4 x4 r4=>?_
    cases zcF r4
    refine⟨true,rfl,?_⟩
    refine zgu ?_
    have s4:=s2.ext x4
    have y4:=y'.trans (.of x4 s2.bh)
    obtain⟨tw4,fw4⟩:=tw.ext x4
    have fA4:∀ a ∈ A1,F4 a=none:=fun a ha=>(fw4 a ha).trans (fA a ha)
    obtain⟨Fz,g1,g2,g3,g4⟩:=frzF s4.fh fA4
    have lt:∀ (b:Bool) (Q:Bool->Hp->Prop),LtIs ft k sts[i] b->(∀ F5 H5,Ex F4 H4 F5 H5->Q b H5)->tt σ3 H4 Q:=fun b Q hb kq=>by
     obtain⟨dz,ez,ez'⟩:=hb kC
     exact m _ Fz H4 σ3 _ b _ (rs_two (K:=K) g2 hl' h4' h5' (tw4.frz hK g1 g3 ez)) ez' fun F5 H5 x5=>kq _ H5 (thaw tw4 fA4 g1 g3 g4 x5).1
    split at q4
    ·rename_i hb
     obtain⟨r,q6,q4⟩:=bind_some q4
     obtain⟨b,q7,q4⟩:=bind_some q4
     cases b with
     | false=>cases q4
     | true=>
     cases q4
     refine lt true _ hb fun F5 H5 x5=>?_
     refine iteT ?_
     have s5:=s4.ext x5
     have y5:=y4.trans (.of x5 s4.bh)
     obtain⟨tw5,fw5⟩:=tw4.ext x5
     have ts5:=(ts3.move (H':=H5) (x4.ff.trans x5.ff) fun b hb=>let⟨u,hu,_⟩:=ts3.lies b hb;((x4.trans x5).hh _ _ hu).trans hu.symm)
     refine⟨x,h5',.int k,h4',?_⟩
     refine⟨x,[.int k],F5,sts[i],A1,[.int k],r.1,r.2,rfl,s5.fh,tw5,n1,fun a ha=>(fw5 a ha).trans (fA4 a ha),.cons (.int k) .nil,q6,fun y F7 H7 A7 ch t7 n7 f7 ry=>?_⟩
     rw[zfd q7] at ry
     cases zcF ry
     refine⟨true,rfl,?_⟩
     refine zgu ?_
     have e5:H5 l=some (.lst vs):=x5.hh _ _ (x4.hh _ _ e')
     obtain⟨z1,z2⟩:=s5.subC (up:=.los) (i:=3) (k:=i) rfl h3' (fun a b=>.los a b) e5 rfl ts5 hix hx tw5 ch t7 n7 f7
     exact fin F7 H7 r.2 z1 (y5.trans z2) (ch.st _ _ (zaE nl e5)) rfl
    ·obtain⟨hb,q4⟩:=zaX q4
     cases q4
     refine lt false _ hb fun F5 H5 x5=>?_
     refine zgu (zgu ?_)
     exact fin F5 H5 _ (same _ _ (s4.ext x5)) (y4.trans (.of x5 s4.bh)) (x5.hh _ _ (x4.hh _ _ e')) rfl
   ·left
    have ei:i=sts.length:=by lia
    subst ei
    rw[List.drop_length] at q2 s'
    cases q2
    rw[List.append_nil] at q3 s'
    subst q3
    exact⟨⟨vs,SqL.of e',by lia⟩,kk _ F' H' s' y'⟩
 ·cases q
end
theorem sWalk{X:Cx}{kC:Str->Addr}{gst:GK}{ft:FT}{ggo:GM}{E E2:XK}{c:Expr}{y:Stmt}{u:TS}(hK:∀ c C,zbK X.K c C->C=kC c)(v:VT X c ft)
  (w:∀ t,WT X c t->WS X y (tFor (iList X.K (zb0 3)) (zbJ 5) (zgL (tOr (tNot (tB (zdl (spD X.K [.v] (gst kC)) [] E (zcL (zb0 5) zfi)))) (tAnd t (tNot (tB (zdl (spM X.K ggo) [] E2 (zcL (zb0 5) (zcL (zb0 4) zfi))))))) u zdv))):VS X y (fWalk gst ft ggo):=
 let⟨_,a,m⟩:=v.h;⟨_,w _ a,semWalk hK m⟩
end L3

namespace L3
theorem jqa{α β:Type}(a:α)(f:α->Option β):(some a).bind f=f a:=rfl
theorem jqb{α β:Type}(f:α->Option β):(none:Option α).bind f=none:=rfl
theorem jqc{α β:Type}(a:α)(f:α->β):(some a).map f=some (f a):=rfl
theorem jqd{α β:Type}(f:α->β):(none:Option α).map f=none:=rfl
theorem jqe{α:Type}{a:α}{l:List α}:(a :: l)[0]? = some a:=rfl
theorem jqf{α:Type}{a:α}{l:List α}{i:Nat}:(a :: l)[i+1]? = l[i]?:=rfl
theorem jqg{α:Type}{a b:α}{l:List α}:(a :: l).set 0 b=b :: l:=rfl
theorem jqh{α:Type}{a b:α}{l:List α}{i:Nat}:(a :: l).set (i+1) b=a :: l.set i b:=rfl
theorem jqi{α:Type}{a:α}{l m:List α}:(a :: l) ++ m=a :: (l ++ m):=rfl
theorem jqj{α:Type}(l:List α):[] ++ l=l:=rfl
theorem jqk{α:Type}(l:List α):l ++ []=l:=List.append_nil l
theorem jqn{α β:Type}{f:α->β}{a:α}{l:List α}:(a :: l).map f=f a :: l.map f:=rfl
theorem jqo{α β:Type}{f:α->β}:([]:List α).map f=[]:=rfl
theorem jqp{α:Type}{a:α}{l:List α}:(a :: l).length=l.length+1:=rfl
theorem jqq{α:Type}:([]:List α).length=0:=rfl
theorem jqr:(false=true)=False:=Bool.false_eq_true
theorem jqt:(!true)=false:=rfl
theorem jqu:(!false)=true:=rfl
theorem jqx{α:Type}(a:Option α):(some a).join=a:=rfl
theorem jqy{h:Decidable True}:decide True=true:=decide_true h
theorem jqz{h:Decidable False}:decide False=false:=decide_false h
theorem jra{α:Type}{_:Decidable True}(a b:α):(if True then a else b)=a:=if_true a b
theorem jrb{α:Type}{_:Decidable False}(a b:α):(if False then a else b)=b:=if_false a b
theorem jrc(p:Prop):(p \/ True)=True:=or_true p
theorem jrd(p:Prop):(True \/ p)=True:=true_or p
theorem jre(p:Prop):(p/\True)=p:=and_true p
theorem jrf(p:Prop):(True/\p)=p:=true_and p
end L3

namespace CE
open PySem L2 L3
noncomputable def oD:Option Int->D
 | none=>.non
 | some i=>.int i
theorem oD_s(i:Int):oD (some i)=.int i:=rfl
theorem oD_n:oD none=.non:=rfl
noncomputable def stp(c:Option Int)(p:Int):Option Int:=if p=0 then none else c.map (· + p)
noncomputable def lw(cs:List (Option Int)):Option Int:=minI (cs.filterMap id)
noncomputable def tc(fit:Nat->Nat->Bool)(c:Nat->Nat->Option Int)(i j:Nat):Option Int:=if 0<i/\0<j then (if (fit i (j - 1) && fit (i - 1) j)=true then c (i - 1) (j - 1) else none) else none
structure Pr where
 put:Int
 left:Int
 exch:Int
 turn:Int
noncomputable def Pr.d(p:Pr):D:=.tup [.int p.put,.int p.left,.int p.exch,.int p.turn]
variable (fit:Nat->Nat->Bool)(p:Pr)(fr:Bool)
noncomputable def cel:Nat->Nat->Option Int
 | 0,0=>some 0
 | 0,j+1=>if fr=true then some 0 else stp (cel 0 j) p.put
 | i+1,0=>stp (cel i 0) p.left
 | i+1,j+1=>lw [if fit i j=true then cel i j else stp (cel i j) p.exch,stp (cel (i+1) j) p.put,stp (cel i (j+1)) p.left,
   stp (if 0<i/\0<j then (if (fit i (j - 1) && fit (i - 1) j)=true then cel (i - 1) (j - 1) else none) else none) p.turn]
termination_by i j=>(i,j)
theorem zd3:cel fit p fr 0 0=some 0:=by rw[cel]
theorem zeC(j:Nat):cel fit p fr 0 (j+1)=if fr=true then some 0 else stp (cel fit p fr 0 j) p.put:=by rw[cel]
theorem zfq(i:Nat):cel fit p fr (i+1) 0=stp (cel fit p fr i 0) p.left:=by rw[cel]
theorem zdd(i j:Nat):cel fit p fr (i+1) (j+1)=lw [if fit i j=true then cel fit p fr i j else stp (cel fit p fr i j) p.exch,stp (cel fit p fr (i+1) j) p.put,stp (cel fit p fr i (j+1)) p.left,stp (tc fit (cel fit p fr) i j) p.turn]:=by
 rw[cel]
 rfl
end CE
namespace L3
open PySem L2
noncomputable def zdg(P:List Str)(T:List Nat)(i j:Nat):Bool:=inS (mkS [T.getD j 0]) (P.getD i (mkS []))
end L3
namespace CE
open PySem L2 L3
theorem minI_mem:∀ {ns:List Int} {m:Int},minI ns=some m->m ∈ ns
 | [],m,h=>by cases h
 | n :: ns,m,h=>by
  have h':ns.foldl (fun a b=>if b<a then b else a) n=m:=Option.some.inj h
  have key:∀ (ns:List Int) (n:Int),ns.foldl (fun a b=>if b<a then b else a) n=n \/ ns.foldl (fun a b=>if b<a then b else a) n ∈ ns:=by
   intro ns
   induction ns with
   | nil=>intro n;left;rfl
   | cons b ns ih=>
    intro n
    rw[List.foldl_cons]
    rcases ih (if b<n then b else n) with q | q
    ·rw[q]
     split
     ·right;exact List.mem_cons_self
     ·left;rfl
    ·right;exact List.mem_cons_of_mem _ q
  rcases key ns n with q | q
  ·rw[<- h',q];exact List.mem_cons_self
  ·rw[<- h'];exact List.mem_cons_of_mem _ q
theorem minI_le:∀ {ns:List Int} {c:Int},c ∈ ns->∃ m,minI ns=some m/\m<=c
 | [],c,h=>by cases h
 | n :: ns,c,h=>by
  refine⟨_,rfl,?_⟩
  have key:∀ (ns:List Int) (n:Int),ns.foldl (fun a b=>if b<a then b else a) n<=n/\∀ c ∈ ns,ns.foldl (fun a b=>if b<a then b else a) n<=c:=by
   intro ns
   induction ns with
   | nil=>intro n;exact⟨Int.le_refl _,by simp⟩
   | cons b ns ih=>
    intro n
    rw[List.foldl_cons]
    obtain⟨h1,h2⟩:=ih (if b<n then b else n)
    have h3:(if b<n then b else n)<=n/\(if b<n then b else n)<=b:=by split <;> lia
    refine⟨by lia,fun c hc=>?_⟩
    rcases List.mem_cons.mp hc with rfl | hc
    ·lia
    ·exact h2 c hc
  rcases List.mem_cons.mp h with rfl | h
  ·exact(key ns _).1
  ·exact(key ns n).2 c h
theorem lw_mem{cs:List (Option Int)}{m:Int}(h:lw cs=some m):some m ∈ cs:=by
 have:=minI_mem h
 obtain⟨x,h1,h2⟩:=List.mem_filterMap.mp this
 have:x=some m:=h2
 rw[<- this];exact h1
theorem zf5{cs:List (Option Int)}{c:Int}(h:some c ∈ cs):∃ m,lw cs=some m/\m<=c:=minI_le (List.mem_filterMap.mpr ⟨some c,h,rfl⟩)
theorem zcU{c:Option Int}{q m:Int}(h:stp c q=some m):q ≠ 0/\∃ a,c=some a/\m=a+q:=by
 unfold stp at h
 split at h
 ·cases h
 ·rename_i hq
  cases c with
  | none=>cases h
  | some a=>exact⟨hq,a,rfl,(Option.some.inj h).symm⟩
theorem zeE{a q:Int}(hq:q ≠ 0):stp (some a) q=some (a+q):=by unfold stp;rw[if_neg hq];rfl
inductive Ld(fit:Nat->Nat->Bool)(p:Pr)(fr:Bool):Nat->Nat->Int->Prop
 | nil:Ld fit p fr 0 0 0
 | free {j:Nat}:fr=true->Ld fit p fr 0 j 0
 | same {i j:Nat} {c:Int}:Ld fit p fr i j c->fit i j=true->Ld fit p fr (i+1) (j+1) c
 | exch {i j:Nat} {c:Int}:Ld fit p fr i j c->fit i j=false->p.exch ≠ 0->Ld fit p fr (i+1) (j+1) (c+p.exch)
 | put {i j:Nat} {c:Int}:Ld fit p fr i j c->p.put ≠ 0->Ld fit p fr i (j+1) (c+p.put)
 | left {i j:Nat} {c:Int}:Ld fit p fr i j c->p.left ≠ 0->Ld fit p fr (i+1) j (c+p.left)
 | turn {i j:Nat} {c:Int}:Ld fit p fr i j c->fit (i+1) j=true->fit i (j+1)=true->p.turn ≠ 0->Ld fit p fr (i+2) (j+2) (c+p.turn)
structure Pr.Ok(p:Pr):Prop where
 put:0<=p.put
 left:0<=p.left
 exch:0<=p.exch
 turn:0<=p.turn
variable {fit:Nat->Nat->Bool}{p:Pr}{fr:Bool}
theorem Ld.nonneg(hp:p.Ok){i j:Nat}{c:Int}(h:Ld fit p fr i j c):0<=c:=by
 have:=hp.put;have:=hp.left;have:=hp.exch;have:=hp.turn
 induction h <;> lia
theorem cel_ld:∀ (n i j:Nat),i+j=n->∀ m,cel fit p fr i j=some m->Ld fit p fr i j m:=by
 intro n
 induction n using Nat.strongRecOn with
 | _ n ih=>
  intro i j hn m h
  cases i with
  | zero=>
   cases j with
   | zero=>rw[zd3] at h;cases h;exact .nil
   | succ j=>
    rw[zeC] at h
    split at h
    ·rename_i hf;cases h;exact .free hf
    ·obtain⟨hq,a,e1,rfl⟩:=zcU h
     exact .put (ih j (by lia) 0 j (by lia) a e1) hq
  | succ i=>
   cases j with
   | zero=>
    rw[zfq] at h
    obtain⟨hq,a,e1,rfl⟩:=zcU h
    exact .left (ih i (by lia) i 0 (by lia) a e1) hq
   | succ j=>
    rw[zdd] at h
    have hm:=lw_mem h
    simp only[List.mem_cons,List.not_mem_nil,or_false] at hm
    rcases hm with hm | hm | hm | hm
    ·by_cases hf:fit i j=true
     ·rw[if_pos hf] at hm;exact .same (ih (i+j) (by lia) i j rfl m hm.symm) hf
     ·rw[if_neg hf] at hm
      obtain⟨hq,a,e1,rfl⟩:=zcU hm.symm
      exact .exch (ih (i+j) (by lia) i j rfl a e1) (by simpa using hf) hq
    ·obtain⟨hq,a,e1,rfl⟩:=zcU hm.symm
     exact .put (ih (i+1+j) (by lia) (i+1) j rfl a e1) hq
    ·obtain⟨hq,a,e1,rfl⟩:=zcU hm.symm
     exact .left (ih (i+(j+1)) (by lia) i (j+1) rfl a e1) hq
    ·obtain⟨hq,a,e1,rfl⟩:=zcU hm.symm
     unfold tc at e1
     split at e1
     ·rename_i hij
      split at e1
      ·rename_i hf
       rw[Bool.and_eq_true] at hf
       obtain⟨i',rfl⟩:∃ i',i=i'+1:=⟨i - 1,by lia⟩
       obtain⟨j',rfl⟩:∃ j',j=j'+1:=⟨j - 1,by lia⟩
       simp only[Nat.add_sub_cancel] at e1 hf
       exact .turn (ih (i'+j') (by lia) i' j' rfl a e1) hf.1 hf.2 hq
      ·cases e1
     ·cases e1
theorem ld_cel(hp:p.Ok){i j:Nat}{c:Int}(h:Ld fit p fr i j c):∃ m,cel fit p fr i j=some m/\m<=c:=by
 have q1:=hp.put;have q2:=hp.left;have q3:=hp.exch;have q4:=hp.turn
 induction h with
 | nil=>exact⟨0,zd3 ..,Int.le_refl _⟩
 | @free j hf=>
  cases j with
  | zero=>exact⟨0,zd3 ..,Int.le_refl _⟩
  | succ j=>exact⟨0,by rw[zeC,if_pos hf],Int.le_refl _⟩
 | @same i j c h hf ih=>
  obtain⟨m,e,hm⟩:=ih
  obtain⟨m',e',hm'⟩:=zf5 (cs:=[if fit i j=true then cel fit p fr i j else stp (cel fit p fr i j) p.exch,stp (cel fit p fr (i+1) j) p.put,stp (cel fit p fr i (j+1)) p.left,stp (tc fit (cel fit p fr) i j) p.turn]) (c:=m) (by rw[if_pos hf,e];simp)
  exact⟨m',by rw[zdd];exact e',by lia⟩
 | @exch i j c h hf hq ih=>
  obtain⟨m,e,hm⟩:=ih
  obtain⟨m',e',hm'⟩:=zf5 (cs:=[if fit i j=true then cel fit p fr i j else stp (cel fit p fr i j) p.exch,stp (cel fit p fr (i+1) j) p.put,stp (cel fit p fr i (j+1)) p.left,stp (tc fit (cel fit p fr) i j) p.turn]) (c:=m+p.exch) (by rw[if_neg (by rw[hf];decide),e,zeE hq];simp)
  exact⟨m',by rw[zdd];exact e',by lia⟩
 | @put i j c h hq ih=>
  obtain⟨m,e,hm⟩:=ih
  cases i with
  | zero=>
   rw[zeC]
   cases fr with
   | true=>
    have:=Ld.nonneg hp h
    exact⟨0,rfl,by lia⟩
   | false=>exact⟨m+p.put,by rw[if_neg (by decide),e,zeE hq],by lia⟩
  | succ i=>
   obtain⟨m',e',hm'⟩:=zf5 (cs:=[if fit i j=true then cel fit p fr i j else stp (cel fit p fr i j) p.exch,stp (cel fit p fr (i+1) j) p.put,stp (cel fit p fr i (j+1)) p.left,stp (tc fit (cel fit p fr) i j) p.turn]) (c:=m+p.put) (by rw[e,zeE hq];simp)
   exact⟨m',by rw[zdd];exact e',by lia⟩
 | @left i j c h hq ih=>
  obtain⟨m,e,hm⟩:=ih
  cases j with
  | zero=>exact⟨m+p.left,by rw[zfq,e,zeE hq],by lia⟩
  | succ j=>
   obtain⟨m',e',hm'⟩:=zf5 (cs:=[if fit i j=true then cel fit p fr i j else stp (cel fit p fr i j) p.exch,stp (cel fit p fr (i+1) j) p.put,stp (cel fit p fr i (j+1)) p.left,stp (tc fit (cel fit p fr) i j) p.turn]) (c:=m+p.left) (by rw[e,zeE hq];simp)
   exact⟨m',by rw[zdd];exact e',by lia⟩
 | @turn i j c h hf1 hf2 hq ih=>
  obtain⟨m,e,hm⟩:=ih
  have ht:tc fit (cel fit p fr) (i+1) (j+1)=some m:=by
   unfold tc
   rw[if_pos ⟨by lia,by lia⟩,Nat.add_sub_cancel,Nat.add_sub_cancel,hf1,hf2]
   exact e
  obtain⟨m',e',hm'⟩:=zf5 (cs:=[if fit (i+1) (j+1)=true then cel fit p fr (i+1) (j+1) else stp (cel fit p fr (i+1) (j+1)) p.exch,stp (cel fit p fr (i+1+1) (j+1)) p.put,stp (cel fit p fr (i+1) (j+1+1)) p.left,stp (tc fit (cel fit p fr) (i+1) (j+1)) p.turn]) (c:=m+p.turn) (by rw[ht,zeE hq];simp)
  exact⟨m',by rw[zdd];exact e',by lia⟩
theorem zga(hp:p.Ok){i j:Nat}{m:Int}(h:cel fit p fr i j=some m):Ld fit p fr i j m/\∀ c,Ld fit p fr i j c->m<=c:=
 ⟨cel_ld _ i j rfl m h,fun c hc=>by obtain⟨m',e,hm⟩:=ld_cel hp hc;rw[h] at e;cases e;exact hm⟩
theorem Ld.zero(hp:p.Ok){i j:Nat}{c:Int}(h:Ld fit p false i j c):c=0->i=j/\∀ a,a<i->fit a a=true:=by
 have q1:=hp.put;have q2:=hp.left;have q3:=hp.exch;have q4:=hp.turn
 induction h with
 | nil=>intro _;exact⟨rfl,fun a h=>by lia⟩
 | free h=>cases h
 | @same i j c h hs ih=>
  intro e
  obtain⟨e1,e2⟩:=ih e
  subst e1
  refine⟨rfl,fun a ha=>?_⟩
  by_cases ha':a<i
  ·exact e2 a ha'
  ·rw[show a=i by lia];exact hs
 | exch h hs hq ih=>intro e;have:=Ld.nonneg hp h;lia
 | put h hq ih=>intro e;have:=Ld.nonneg hp h;lia
 | left h hq ih=>intro e;have:=Ld.nonneg hp h;lia
 | turn h _ _ hq ih=>intro e;have:=Ld.nonneg hp h;lia
theorem Ld.diag:∀ (n:Nat),(∀ a,a<n->fit a a=true)->Ld fit p fr n n 0
 | 0,_=>.nil
 | n+1,h=>.same (Ld.diag n fun a ha=>h a (by lia)) (h n (by lia))
end CE
namespace CE
open PySem L2 L3
theorem inS_one(c:Nat)(z:Str):inS (mkS [c]) z=decide (c ∈ z.cps.toList):=StrLaws.found_one z c
noncomputable def wP(w:List Nat):List Str:=w.map fun c=>mkS [c]
theorem wP_len(w:List Nat):(wP w).length=w.length:=by simp[wP]
theorem fit_w{w t:List Nat}{i j:Nat}(hi:i<w.length)(hj:j<t.length):zdg (wP w) t i j=decide (t[j]=w[i]):=by
 unfold zdg wP
 have e1:(w.map fun c=>mkS [c]).getD i (mkS [])=mkS [w[i]]:=by simp[hi]
 have e2:t.getD j 0=t[j]:=by simp[hj]
 rw[e1,e2,inS_one,zf2]
 simp
theorem diag_eq{w t:List Nat}(h:w.length=t.length)(hf:∀ a,a<w.length->zdg (wP w) t a a=true):w=t:=by
 apply List.ext_getElem h
 intro i h1 h2
 have:=hf i h1
 rw[fit_w h1 h2] at this
 exact(of_decide_eq_true this).symm
theorem diag_self(w:List Nat):∀ a,a<w.length->zdg (wP w) w a a=true:=fun a ha=>by
 rw[fit_w ha ha];simp
noncomputable def wd(p:Pr)(w t:List Nat):Option Int:=cel (zdg (wP w) t) p false w.length t.length
theorem wd_self{p:Pr}(hp:p.Ok)(w:List Nat):wd p w w=some 0:=by
 obtain⟨m,e,hm⟩:=ld_cel hp (Ld.diag (fit:=zdg (wP w) w) (p:=p) (fr:=false) w.length (diag_self w))
 have:=Ld.nonneg hp (zga hp e).1
 unfold wd
 rw[e,show m=0 by lia]
theorem wd_zero{p:Pr}(hp:p.Ok){w t:List Nat}(h:wd p w t=some 0):w=t:=by
 obtain⟨e,hf⟩:=((zga hp h).1).zero hp rfl
 exact diag_eq e hf
theorem wd_nonneg{p:Pr}(hp:p.Ok){w t:List Nat}{m:Int}(h:wd p w t=some m):0<=m:=Ld.nonneg hp (zga hp h).1
end CE
namespace CE
open PySem L2 L3
end CE
namespace L3
open PySem L2
theorem fSeqR{f g:FS}{δ δ':En}{e:Ent}(h:f δ=some (.rt e δ')):zbq f g δ=some (.rt e δ'):=by unfold zbq;rw[h];rfl
theorem zeO{fe:FE}{δ:En}{d:D}(h:fe δ=some (.val d)):zb4 fe δ=some (.rt (.val d) δ):=by unfold zb4;rw[h];rfl
theorem zdZ{i:Nat}{e:FE}{r:FS}{δ:En}{v:D}(h:e δ=some (.val v)):zbq (zcI i e) r δ=r (δ.set i (some (.val v))):=by
 simp only[zbq,zcI,h,Option.bind_some,sqO,stE,toN,Option.map_some]
theorem zel{i:Nat}{e:FE}{δ:En}{v:D}(h:e δ=some (.val v)):zcI i e δ=some (.nx (δ.set i (some (.val v)))):=by unfold zcI;rw[h];rfl
theorem addI{E F:FE}{δ:En}{a b:Int}(h1:E δ=some (.val (.int a)))(h2:F δ=some (.val (.int b))):ex2 zcj E F δ=some (.val (.int (a+b))):=by simp only[ex2,h1,h2,zcj,pI0,iOf,jqa,jqc]
theorem lenZ{E:FE}{δ:En}{z:Str}{n:Nat}(h:E δ=some (.val (.str z)))(hn:z.length=n)(hl:n<=1000000):eCB zcY (zaa E zag) δ=some (.val (.int (n:Int))):=by subst hn;simp only[eCB,zaa,h,zag,jqc,jqa,zcY,sOf,hl,zbD,zai]
theorem forN{it:FI}{tg:FG}{f r:FS}{δ δ':En}{ds:List D}(h:it δ=some ds)(hl:loop tg f ds δ=some (.nx δ')):zbq (zfF it tg f) r δ=r δ':=zbB (by unfold zfF;rw[h];exact hl)
theorem subI{E F:FE}{δ:En}{a b:Int}(h1:E δ=some (.val (.int a)))(h2:F δ=some (.val (.int b))):ex2 zht E F δ=some (.val (.int (a - b))):=by simp only[ex2,h1,h2,zht,pI0,iOf,jqa,jqc]
theorem fAppI{i:Nat}{e:FE}{δ:En}{ds:List D}{v:D}(h0:δ[i]? = some (some (.own ds)))(h:e δ=some (.val v))(hl:ds.length<1000000):zhy i e δ=some (.nx (δ.set i (some (.own (ds ++ [v]))))):=by
 unfold zhy;rw[h0,h];simp (disch:=omega) only[jqa,asV,zbD,zai]
theorem modI{E F:FE}{δ:En}{a b:Int}(h1:E δ=some (.val (.int a)))(h2:F δ=some (.val (.int b)))(hb:0<b):ex2 zcr E F δ=some (.val (.int (a % b))):=by simp (disch:=omega) only[ex2,h1,h2,zcr,pI,iOf,jqa,zcA,zai]
theorem divI{E F:FE}{δ:En}{a b:Int}(h1:E δ=some (.val (.int a)))(h2:F δ=some (.val (.int b)))(hb:0<b/\b<1000000):ex2 zfY E F δ=some (.val (.int (a / b))):=by simp (disch:=omega) only[ex2,h1,h2,zfY,pI,iOf,jqa,zeF,zai]
theorem ltII{E F:FE}{δ:En}{a b:Int}(h1:E δ=some (.val (.int a)))(h2:F δ=some (.val (.int b))):tOf (ex2 gLt E F) δ=some (decide (a<b)):=by by_cases e:a<b <;> simp only[tOf,ex2,h1,h2,gLt,pI0,iOf,jqa,jqc,e,jqy,bOf,jqz]
theorem ixLB{E F:FE}{δ:En}{ds:List D}{a:Int}{v:D}(h1:E δ=some (.bor ds))(h2:F δ=some (.val (.int a)))(h:atI ds a=some v):ex2 zb5 E F δ=some (.val v):=by simp only[ex2,h1,h2,zb5,asL,iOf,jqa,h,jqc]
theorem orLt{X Y:FE}{δ:En}{a b c:Int}(hX:X δ=some (.val (.int a)))(hY:Y δ=some (.val (.int b))):fOr (tOf (ex2 gLt X (eC (.int c)))) (tOf (ex2 gLt Y (eC (.int c)))) δ=some (decide (a<c \/ b<c)):=by
 by_cases c1:a<c
 ·simp only[fOr,tOf,ex2,hX,eC,gLt,pI0,iOf,jqa,jqc,c1,jqy,bOf,jra,jrd]
 ·by_cases c2:b<c <;> simp only[fOr,tOf,ex2,hX,eC,gLt,pI0,iOf,jqa,jqc,c1,jqz,bOf,hY,c2,jqy,jqr,jrb,jrc,or_self]
theorem orB{X Y:FE}{δ:En}{a b:Bool}(hX:X δ=some (.val (.bl a)))(hY:Y δ=some (.val (.bl b))):fOr (tOf X) (tOf Y) δ=some (a || b):=by
 cases a <;> simp only[fOr,tOf,hX,jqa,bOf,hY,jqr,jrb,Bool.false_or,jra,Bool.true_or]
theorem ixTT{E F:FE}{δ:En}{ds:List D}{a:Int}{v:D}(h1:E δ=some (.val (.tup ds)))(h2:F δ=some (.val (.int a)))(h:atI ds a=some v):ex2 zf1 E F δ=some (.val v):=by simp only[ex2,h1,h2,zf1,ze1,iOf,jqa,h,jqc]
theorem ixSS{E F:FE}{δ:En}{tx:List Nat}{a:Int}{t:Nat}(h1:E δ=some (.val (.str (mkS tx))))(hl:tx.length<=1000000)(h2:F δ=some (.val (.int a)))(h:atI tx a=some t):ex2 zhq E F δ=some (.val (.str (mkS [t]))):=by simp only[ex2,h1,h2,zhq,sOf,iOf,jqa,zcv,hl,zbD,zf2,h,jqc,zai]
theorem inSS{E F:FE}{δ:En}{z w:Str}(h1:E δ=some (.val (.str z)))(h2:F δ=some (.val (.str w))):ex2 gInS E F δ=some (.val (.bl (inS z w))):=by simp only[ex2,h1,h2,gInS,sOf,jqa,jqc]
theorem niSS{E F:FE}{δ:En}{z w:Str}(h1:E δ=some (.val (.str z)))(h2:F δ=some (.val (.str w))):ex2 gNiS E F δ=some (.val (.bl (!inS z w))):=by simp only[ex2,h1,h2,gNiS,sOf,jqa,jqc]
theorem low4{A B C E:FE}{δ:En}{a b c d:D}{g:List D->Option Ent}(hA:A δ=some (.val a))(hB:B δ=some (.val b))(hC:C δ=some (.val c))(hE:E δ=some (.val d)):zaV [.v] g (zaa (zdb (zaa A (zaa B (zaa C (zaa E zag))))) zag) δ=g [.lst [a,b,c,d]]:=by simp only[zaV,zaa,zdb,hA,hB,hC,hE,zag,jqc,jqa,jqp,jqq,Nat.reduceLeDiff,zfa,asV,jra,zce,zem]
theorem zen{X Y:FE}{δ:En}{a b:D}{g:List D->Option Ent}(hX:X δ=some (.val a))(hY:Y δ=some (.val b)):zaV [.v,.v] g (zaa X (zaa Y zag)) δ=g [a,b]:=by
 unfold zaV zaa zag;rw[hX];simp only[Option.bind_some];rw[hY];rfl
theorem eIfI{A B C:FE}{δ:En}{q:Bool}{a b:D}(hA:A δ=some (.val (.bl q)))(hB:B δ=some (.val a))(hC:C δ=some (.val b)):eIf (tOf A) B C δ=some (.val (if q=true then a else b)):=by
 cases q <;> simp only[eIf,tOf,hA,jqa,bOf,hB,hC,jqr,jrb,jra]
theorem zf8{i:Nat}{e:FE}{δ:En}{ds:List D}(h:e δ=some (.own ds)):zcI i e δ=some (.nx (δ.set i (some (.own ds)))):=by unfold zcI;rw[h];rfl
theorem ixLW{E F:FE}{δ:En}{ds:List D}{a:Int}{v:D}(h1:E δ=some (.vw ds))(h2:F δ=some (.val (.int a)))(h:atI ds a=some v):ex2 zb5 E F δ=some (.val v):=by simp only[ex2,h1,h2,zb5,asL,iOf,jqa,h,jqc]
theorem eLst1{E:FE}{δ:En}{v:D}(h:E δ=some (.val v)):zdb (zaa E zag) δ=some (.own [v]):=by unfold zdb zaa zag;rw[h];rfl
end L3

namespace N51
open PySem L2 L3 PyProof.Rows
noncomputable section
noncomputable def zb8:FE:=
  (ex2 zf1 (zab 0) (zab 1))
noncomputable def zcJ:FS:=
  (zb4 (eCB zd6 (zaa (eLC [1] (iB 0) zek zb8) zag)))
noncomputable def zbW:List D->Option Ent:=zcs [.b,.v] 0 zcJ
noncomputable def zaI:FS:=
  (zbq (fIf (fOr (tOf (ex2 gLt (zab 3) (eC (.int 2)))) (tOf (ex2 gLt (eCB zcY (zaa (zab 2) zag)) (eC (.int 2))))) (zb4 (eC .non)) fNx)
   (zbq (fIf (fOr (tOf (ex2 gNiS (ex2 zhq (zab 2) (ex1 zgj (eC (.int 2)))) (ex2 zf1 (zab 1) (ex2 zht (zab 3) (eC (.int 1)))))) (tOf (ex2 gNiS (ex2 zhq (zab 2) (ex1 zgj (eC (.int 1)))) (ex2 zf1 (zab 1) (ex2 zht (zab 3) (eC (.int 2))))))) (zb4 (eC .non)) fNx)
   (zb4 (ex2 zf1 (ex2 zb5 (zab 0) (ex1 zgj (eC (.int 2)))) (ex2 zht (zab 3) (eC (.int 2)))))))
noncomputable def zaH:List D->Option Ent:=zcs [.b,.v,.v,.v] 0 zaI
noncomputable def zcO:FS:=
  (zbq (fIf (fOr (tOf (ex2 gIsN (zab 0) (eC .non))) (tOf (ex2 gEq (zab 1) (eC (.int 0))))) (zb4 (eC .non)) fNx)
   (zb4 (ex2 zcj (zab 0) (zab 1))))
noncomputable def za0:List D->Option Ent:=zcs [.v,.v] 0 zcO
noncomputable def zc9:FE:=
  (zab 0)
noncomputable def zc2:FT:=
  (tOf (ex2 gNoN (zab 0) (eC .non)))
noncomputable def ze3:FS:=
  (zb4 (ex2 gMinD (eLC [] (qV (zab 0)) zc2 zc9) (eC .non)))
noncomputable def zcV:List D->Option Ent:=zcs [.v] 0 ze3
noncomputable def zcM:FS:=
  (zb4 (eCB gTupS (zaa (zab 0) zag)))
noncomputable def zbV:List D->Option Ent:=zcs [.v] 0 zcM
noncomputable def zbt:FE:=
  (ex2 zeY (zab 0) (eCB zcG (zaa (ex2 gGe (zab 0) (ex2 gPow (eC (.int 10)) (eC (.int 18)))) zag)))
noncomputable def zbr:FS:=
  (zbq (zcI 6 (ex2 zcr (zab 5) (eCB zbZ (zaa (zab 2) zag))))
   (zbq (zcI 7 (ex2 zcj (ex2 zeY (ex2 zcr (ex2 zcj (ex2 zcj (ex2 zb5 (zab 2) (zab 6)) (ex2 zeY (ex2 zeY (zab 5) (zab 5)) (eC (.int 16807)))) (ex2 zeY (eC (.int 3)) (zab 5))) (eC (.int 2147483629))) (ex2 zb5 (zdb (zaa (eC (.int 48271)) (zaa (eC (.int 69621)) (zaa (eC (.int 39373)) (zaa (eC (.int 16807)) zag))))) (ex2 zcr (zab 5) (eC (.int 4))))) (eC (.int 7))))
   (zbq (zhy 4 (ex2 zb5 (zdb (zaa (ex2 zcr (ex2 zeY (zab 7) (zab 7)) (eC (.int 2147483629))) (zaa (ex2 zcr (ex2 zb5 (zab 3) (zab 6)) (ex2 gPow (eC (.int 10)) (eC (.int 18)))) zag))) (eCB zcG (zaa (ex2 gNe (ex2 zb5 (zab 3) (zab 6)) (eC (.int 0))) zag))))
   (fSIx 3 (zab 6) (ex2 gDivB (ex2 zb5 (zab 3) (zab 6)) (ex2 gPow (eC (.int 10)) (eC (.int 18))))))))
noncomputable def zcB:FS:=
  (zbq (zcI 2 (ex2 gCat (eCB zeB (zaa (zab 0) zag)) (ex2 gRep (zdb (zaa (eC (.int 0)) zag)) (eCB zcG (zaa (ex2 gEq (eCB zbZ (zaa (zab 0) zag)) (eC (.int 0))) zag)))))
   (fFrz 2 (zbq (zcI 3 (eLC [] (iL (zab 2)) zek zbt))
   (zbq (zcI 4 (zdb zag))
   (zbq (zfF (iR1 (zaa (zab 1) zag)) (gNm 5) zbr)
   (zb4 (ex1 ze0 (zab 4))))))))
noncomputable def zbR:List D->Option Ent:=zcs [.b,.v] 6 zcB
noncomputable def zc4:FS:=
  (zb4 (ex2 zhq (eC (.str "abcdefghijklmnopqrstuvwxyz")) (ex2 zcr (ex2 zcj (zab 0) (ex2 zeY (zab 1) (ex2 zcj (eC (.int 1)) (ex2 zcr (ex2 zfY (zab 0) (eC (.int 26))) (eC (.int 8)))))) (eC (.int 26)))))
noncomputable def zbx:List D->Option Ent:=zcs [.v,.v] 0 zc4
noncomputable def zbk:FS:=
  (zbq (zcI 6 (ex2 zcj (ex2 zb5 (zab 2) (zab 5)) (eCB zcG (zaa (ex2 gNe (ex2 zhq (zab 0) (zab 3)) (ex2 zhq (zab 1) (zab 5))) zag))))
   (zhy 4 (eCB gMin3 (zaa (zab 6) (zaa (ex2 zcj (ex2 zb5 (zab 2) (ex2 zcj (zab 5) (eC (.int 1)))) (eC (.int 1))) (zaa (ex2 zcj (ex2 zb5 (zab 4) (zab 5)) (eC (.int 1))) zag))))))
noncomputable def zbG:FS:=
  (zbq (zcI 4 (zdb (zaa (ex2 zcj (zab 3) (eC (.int 1))) zag)))
   (zbq (zfF (iR1 (zaa (eCB zcY (zaa (zab 1) zag)) zag)) (gNm 5) zbk)
   (fFrz 4 (zcI 2 (zab 4)))))
noncomputable def zcl:FS:=
  (zbq (zcI 2 (ex1 zgV (ex2 zcj (eCB zcY (zaa (zab 1) zag)) (eC (.int 1)))))
   (zbq (zfF (iR1 (zaa (eCB zcY (zaa (zab 0) zag)) zag)) (gNm 3) zbG)
   (zb4 (ex2 zb5 (zab 2) (ex1 zgj (eC (.int 1)))))))
noncomputable def zbX:List D->Option Ent:=zcs [.v,.v] 5 zcl
noncomputable def zcd:FS:=
  (zg5 0 "Book" [] "top" (eC .non))
noncomputable def zaj:GM:=zfM 0 0 zcd
noncomputable def zcc:FS:=
  (zbq (zg5 0 "Knot" [] "word" (zab 1))
   (zg5 0 "Knot" ["word"] "branches" eDI0))
noncomputable def zar:GM:=zfM 1 0 zcc
noncomputable def zbm:FS:=
  (zhy 2 (zaV [.v,.v] za0 (zaa (ex2 zb5 (zab 2) (ex2 zht (zab 3) (eC (.int 1)))) (zaa (ex2 zhb (zab 1) (eC (.int 1))) zag))))
noncomputable def zcn:FS:=
  (zbq (zcI 2 (zdb (zaa (eC (.int 0)) zag)))
   (zbq (zfF (iR2 (zaa (eC (.int 1)) (zaa (ex2 zcj (eCB zbZ (zaa (zab 0) zag)) (eC (.int 1))) zag))) (gNm 3) zbm)
   (zb4 (eCB zd6 (zaa (zab 2) zag)))))
noncomputable def zbs:List D->Option Ent:=zcs [.v,.t] 2 zcn
noncomputable def zbb:FS:=
  (zbq (zcI 8 (ex2 gInS (ex2 zhq (zab 2) (ex1 zgj (eC (.int 1)))) (ex2 zf1 (zab 1) (ex2 zht (zab 7) (eC (.int 1))))))
   (zhy 6 (zaV [.v] zcV (zaa (zdb (zaa (eIf (tOf (zab 8)) (ex2 zf1 (zab 5) (ex2 zht (zab 7) (eC (.int 1)))) (zaV [.v,.v] za0 (zaa (ex2 zf1 (zab 5) (ex2 zht (zab 7) (eC (.int 1)))) (zaa (ex2 zhb (zab 3) (eC (.int 2))) zag)))) (zaa (zaV [.v,.v] za0 (zaa (ex2 zf1 (zab 5) (zab 7)) (zaa (ex2 zhb (zab 3) (eC (.int 0))) zag))) (zaa (zaV [.v,.v] za0 (zaa (ex2 zb5 (zab 6) (ex2 zht (zab 7) (eC (.int 1)))) (zaa (ex2 zhb (zab 3) (eC (.int 1))) zag))) (zaa (zaV [.v,.v] za0 (zaa (zaV [.b,.v,.v,.v] zaH (zaa (zab 0) (zaa (zab 1) (zaa (zab 2) (zaa (zab 7) zag))))) (zaa (ex2 zhb (zab 3) (eC (.int 3))) zag))) zag))))) zag))))
noncomputable def zbv:FS:=
  (zbq (zcI 5 (ex2 zb5 (zab 0) (ex1 zgj (eC (.int 1)))))
   (zbq (zcI 6 (zdb (zaa (eIf (tOf (zab 4)) (eC (.int 0)) (zaV [.v,.v] za0 (zaa (ex2 zf1 (zab 5) (eC (.int 0))) (zaa (ex2 zhb (zab 3) (eC (.int 0))) zag)))) zag)))
   (zbq (zfF (iR2 (zaa (eC (.int 1)) (zaa (ex2 zcj (eCB zbZ (zaa (zab 1) zag)) (eC (.int 1))) zag))) (gNm 7) zbb)
   (zb4 (eCB zd6 (zaa (zab 6) zag))))))
noncomputable def zbu:List D->Option Ent:=zcs [.b,.v,.v,.t,.v] 4 zbv
noncomputable def zbT:FS:=
  (zbq (zcI 3 (ex2 gAddS (zab 3) (zaV [.v,.v] zbx (zaa (zab 2) (zaa (ex2 zcr (zab 0) (zab 1)) zag)))))
   (zcI 0 (ex2 zfY (zab 0) (zab 1))))
noncomputable def zcD:FS:=
  (zbq (zcI 3 (eC (.str "")))
   (zbq (zcI 4 (ex2 zb5 (zdb (zaa (ex2 zcr (zab 0) (eC (.int 9))) (zaa (ex2 zcr (zab 0) (eC (.int 5))) (zaa (ex2 zcr (zab 0) (eC (.int 7))) zag)))) (ex2 zcr (ex2 zfY (zab 0) (eC (.int 45))) (eC (.int 3)))))
   (zbq (zcI 0 (ex2 zfY (zab 0) (eC (.int 315))))
   (zbq (zfF (iR1 (zaa (zab 4) zag)) (gNm 5) zbT)
   (fRetV 3)))))
noncomputable def zcx:List D->Option Ent:=zcs [.v,.v,.v] 3 zcD
noncomputable def zbH:FT:=
  (tOf (eNiS 0 (zab 2)))
noncomputable def zba:FS:=
  (zbq (zcI 4 (zaV [.v,.v] zbX (zaa (zab 3) (zaa (zab 2) zag))))
   (fIf (tOf (eInSI 0 (zab 3) (zab 4))) (zcI 3 (eIxSI 0 (zab 3) (zab 4))) (zbq (fSetSI 0 (zab 3) (zab 4) (zab 2))
   (fK (kNewS 0 (zab 2))))))
noncomputable def zco:FS:=
  (zbq (zcI 3 (zab 1))
   (whl zbH
   zba 1000))
noncomputable def zbM:GM:=zfM 2 2 zco
noncomputable def zcw:FS:=
  (zhy 4 (zaV [.b,.v,.v,.t,.v] zbu (zaa (zab 4) (zaa (zab 0) (zaa (eSl gSlS (zab 1) oNo (oSo (zab 5))) (zaa (zab 2) (zaa (zab 3) zag)))))))
noncomputable def zcz:FE:=
  (zaV [.b,.v] zbW (zaa (zab 1) (zaa (zab 0) zag)))
noncomputable def zdx:FS:=
  (zbq (zcI 4 (zdb (zaa (zaV [.v,.t] zbs (zaa (zab 0) (zaa (zab 2) zag))) zag)))
   (zbq (zfF (iR2 (zaa (eC (.int 1)) (zaa (ex2 zcj (eCB zcY (zaa (zab 1) zag)) (eC (.int 1))) zag))) (gNm 5) zcw)
   (zb4 (eCB zd6 (zaa (eLC [4] (iR1 (zaa (ex2 zcj (eCB zbZ (zaa (zab 0) zag)) (eC (.int 1))) zag)) zek zcz) zag)))))
noncomputable def zcp:List D->Option Ent:=zcs [.v,.v,.t,.v] 2 zdx
noncomputable def zaY:FXE:=
  (xC [.v,.v,.v] zcx (zcu (xPop 2) (zcu (xP (zab 1)) (zcu (xP (ex2 zcr (ex2 zfY (zab 3) (eC (.int 3))) (eC (.int 208)))) zhs))))
noncomputable def zbY:FS:=
  (zbq (zg8 2 (xPop 0))
   (zbq (zcI 3 (ex2 zcj (eC (.int 2)) (ex2 zcr (zab 2) (eC (.int 3)))))
   (fXRet (xLC [3,0,2] 0 1 (iR1 (zaa (ex2 zcr (ex2 zfY (zab 2) (eC (.int 624))) (ex2 zcj (zab 1) (eC (.int 1)))) zag)) zaY))))
noncomputable def zay:GM:=zfM 1 2 zbY
noncomputable def zca:FS:=
  (zb4 (ex2 zf1 (ex2 zf1 (eCallD [.v,.v,.t,.v] zcp (zaa (zab 0) (zaa (zab 1) (zaa (zab 2) zag))) (.bl false)) (ex1 zgj (eC (.int 1)))) (ex1 zgj (eC (.int 1)))))
noncomputable def zbh:List D->Option Ent:=zcs [.v,.v,.t] 0 zca
noncomputable def zb7:FS:=
  (zb4 (zaV [.v,.v,.t] zbh (zaa (zaV [.v] zbV (zaa (zab 0) zag)) (zaa (zab 1) (zaa (eB ([1,1,1,0].map .int)) zag)))))
noncomputable def zak:List D->Option Ent:=zcs [.v,.v] 0 zb7
noncomputable def F_hang:FS:=
  (fHang zak)
noncomputable def zez:GM:=zfM 1 2 F_hang
noncomputable def zbz:FS:=
  (zbq (fIf (tOf (eFIs 0 "Book" ["top"] 0)) (zbq (fFSet 0 "Book" ["top"] 0 (zcQ "Knot" zar (zaa (zab 1) zag)))
   (zb4 (eC (.bl true)))) fNx)
   (fXRet (xCOF 0 "Book" ["top"] 0 zez (zaa (zab 1) zag))))
noncomputable def zax:GM:=zfM 1 0 zbz
noncomputable def zbS(kC:Str->Addr)(rg:List D->Option Ent):FS:=
  (zhy 1 (eTup (zaa (zab 2) (zaa (zaV [.v] rg (zaa (ex2 gDxI (ex1 (zeQ (kC "Knot") ["word","branches"] 1) (zab 0)) (zab 2)) zag)) zag))))
noncomputable def zcC(kC:Str->Addr)(rg:List D->Option Ent):FS:=
  (zbq (zcI 1 (zdb zag))
   (zbq (zfF (iL (eCB zfs (zaa (ex1 (zeQ (kC "Knot") ["word","branches"] 1) (zab 0)) zag))) (gNm 2) (zbS kC rg))
   (zb4 (eTup (zaa (ex1 (zeQ (kC "Knot") ["word","branches"] 0) (zab 0)) (zaa (eCB zd6 (zaa (zab 1) zag)) zag))))))
noncomputable def zaw(kC:Str->Addr):Nat->List D->Option Ent
 | 0=>zcs [.v] 2 fNev
 | r+1=>zcs [.v] 2 (zcC kC (zaw kC r))
noncomputable def zcm(rg:List D->Option Ent):FE:=
  (eTup (zaa (zab 0) (zaa (zaV [.v,.v] rg (zaa (zab 1) (zaa (ex2 gDxI (ex2 gDxS (zab 1) (zab 2)) (zab 0)) zag))) zag)))
noncomputable def zcy(rg:List D->Option Ent):FS:=
  (zb4 (eTup (zaa (zab 1) (zaa (eCB zd6 (zaa (eLC [0,1] (iL (eCB zfs (zaa (ex2 gDxS (zab 0) (zab 1)) zag))) zek (zcm rg)) zag)) zag))))
noncomputable def zat:Nat->List D->Option Ent
 | 0=>zcs [.v,.v] 0 fNev
 | r+1=>zcs [.v,.v] 0 (zcy (zat r))
noncomputable def zbO(kC:Str->Addr):FS:=
  (zbq (fIf (tOf (ex2 gIsN (ex1 (zeQ (kC "Book") ["top"] 0) (zab 0)) (eC .non))) (zb4 (eC .non)) fNx)
   (zb4 (zaV [.v] (zaw kC 16) (zaa (ex1 (zeQ (kC "Book") ["top"] 0) (zab 0)) zag))))
noncomputable def zbc(kC:Str->Addr):List D->Option Ent:=zcs [.v] 0 (zbO kC)
noncomputable def zbC(rg:List D->Option Ent):FS:=
  (fIf (fNot (tOf (zaV [.v,.v] rg (zaa (zab 2) (zaa (zab 3) zag))))) (zb4 (eC (.bl false))) fNx)
noncomputable def zbg(rg:List D->Option Ent):FS:=
  (zbq (fIf (tOf (ex1 (zhu "tuple") (zab 1))) (zbq (fIf (fOr (fNot (tOf (ex1 (zhu "tuple") (zab 0)))) (tOf (ex2 gNe (eCB zbZ (zaa (zab 0) zag)) (eCB zbZ (zaa (zab 1) zag))))) (zb4 (eC (.bl false))) fNx)
   (zbq (zfF (iZip (qV (zab 0)) (qV (zab 1))) (gTp (zdo (gNm 2) (zdo (gNm 3) gsNil))) (zbC rg))
   (zb4 (eC (.bl true))))) fNx)
   (zbq (fIf (tOf (ex1 (zhu "str") (zab 1))) (zb4 (eAnd (ex1 (zhu "str") (zab 0)) (ex2 gEq (zab 0) (zab 1)))) fNx)
   (zb4 (eAnd (ex1 (zhu "int") (zab 0)) (eAnd (ex1 gNot (ex1 (zhu "bool") (zab 0))) (ex2 gEq (zab 0) (zab 1)))))))
noncomputable def zaK:Nat->List D->Option Ent
 | 0=>zcs [.v,.v] 2 fNev
 | r+1=>zcs [.v,.v] 2 (zbg (zaK r))
noncomputable def zbn(kC:Str->Addr):FS:=
  (zbq (fAsg (gLs (zdo (gNm 1) (zdo (gNm 2) (zdo (gNm 3) gsNil)))) (zab 0))
   (zbq (fIf (tOf (eEqV0 (zab 2))) (zb4 (ex2 gIsN (eMV (kC "Book") ["top"] (zbc kC) (zab 1)) (eC .non))) fNx)
   (zb4 (zaV [.v,.v] (zaK 50) (zaa (eMV (kC "Book") ["top"] (zbc kC) (zab 1)) (zaa (zaV [.v,.v] (zat 16) (zaa (zab 2) (zaa (ex2 zb5 (zab 3) (eC (.int 0))) zag))) zag))))))
noncomputable def zaf(kC:Str->Addr):List D->Option Ent:=zcs [.v] 3 (zbn kC)
noncomputable def zct:FS:=
  (fGoes zaf (ex2 zb5 (zab 4) (zab 1)) (xM 2 "Book" ["top"] zax (zaa (zab 5) zag)) (fOr (fNot (tOf (ex1 (zhu "bool") (zab 6)))) (tOf (ex2 gNe (zab 6) (eNiS 3 (zab 5))))) (tOf (eEqS0 3)) (kNewS 3 (zab 5)) (xCO 3 zbM (zcu (xP (ex2 zb5 (zab 4) (eC (.int 0)))) (zcu (xP (zab 5)) zhs))) (x2 gIsB (xM 2 "Book" ["top"] zax (zaa (zab 5) zag)) (xP (eC (.bl false)))))
noncomputable def zaN:GM:=zfM 1 5 zct
noncomputable def zb1:FT:=
  (tOf (ex2 gLt (zab 4) (eCB zbZ (zaa (ex2 zb5 (zab 5) (eC (.int 2))) zag))))
noncomputable def zeN:FS:=
  (fWalk zaf zb1 zaN)
noncomputable def F_law:FS:=
  (zbq (zgE 1 (zaV [.b,.v] zbR (zaa (eSl gSlL (zab 0) oNo (oSo (eC (.int 63)))) (zaa (eC (.int 40)) zag))))
   (zbq (zg8 2 (xCO 1 zay (zcu (xP (eC (.int 14))) zhs)))
   (zbq (zgR 3 (zhx (zaP (zhx (zaP (oE (zcQ "Book" zaj zag)) (zaP (oE eDS0) (zaP (oX (xP (zab 2))) zdP)))) (zaP (zhx (zaP (oE (zcQ "Book" zaj zag)) (zaP (oE eDS0) (zaP (oX (xCO 1 zay (zcu (xP (eC (.int 10))) zhs))) zdP)))) (zaP (zhx (zaP (oE (zcQ "Book" zaj zag)) (zaP (oE eDS0) (zaP (oX (xP (ex1 ze0 (zab 2)))) zdP)))) zdP)))))
   (zbq (zfF (iR1 (zaa (eC (.int 15)) zag)) (gNm 4) zeN)
   (zb4 (eC (.bl true)))))))
noncomputable def g_law:List D->Option Ent:=zcs [.b] 5 F_law
end
theorem kinit(w:Str):zar (.ins "Knot" [] []) [.str w]=some (.non,mkK w [] []):=by
 simp only[zar,zfM,zcc,List.length_cons,List.length_nil,reduceIte,List.map_cons,List.map_nil,List.replicate_zero,List.append_nil,List.cons_append,List.nil_append,zbq,zg5,zab,eDI0,oAt,toO,sqO,Option.bind_some,List.getElem?_cons_zero,List.getElem?_cons_succ,zdq,List.set_cons_zero,endM,Option.map_some,mkK]
end N51

namespace N51
open PySem L2 L3 PyProof.Rows
noncomputable def top(i:Nat):Stmt:=PySem.Challenge.pw_nearfind_k51_trees.main.body.getD i (.Pass ⟨0,0,0,0⟩)
noncomputable def clsB(st:Stmt)(j:Nat):Stmt:=match st with
 | .ClassDef _ _ _ b _ _ _ _ _ _ _=>b.getD j (.Pass ⟨0,0,0,0⟩)
 | _=>.Pass ⟨0,0,0,0⟩
noncomputable abbrev zbj:Stmt:=top 6
theorem sc_cells_of:FnScope ["P","T","prices","free","columns","signs"] ["P","T","prices","free"] (zac zbj):=⟨rfl,rfl,rfl,by decide +kernel,rfl,by decide +kernel,by decide +kernel⟩
noncomputable abbrev zaA:Stmt:=top 7
theorem zdR:FnScope ["P","T","prices"] ["P","T","prices"] (zac zaA):=⟨rfl,rfl,rfl,by decide +kernel,rfl,by decide +kernel,by decide +kernel⟩
noncomputable abbrev zaU:Stmt:=top 8
theorem zeM:FnScope ["columns","classes"] ["columns","classes"] (zac zaU):=⟨rfl,rfl,rfl,by decide +kernel,rfl,by decide +kernel,by decide +kernel⟩
noncomputable abbrev zaG:Stmt:=top 9
theorem sc_first_column:FnScope ["pattern","prices","column","classes"] ["pattern","prices"] (zac zaG):=⟨rfl,rfl,rfl,by decide +kernel,rfl,by decide +kernel,by decide +kernel⟩
noncomputable abbrev zau:Stmt:=top 10
theorem sc_further_column:FnScope ["columns","pattern","text","prices","free","before","column","classes","fits"] ["columns","pattern","text","prices","free"] (zac zau):=⟨rfl,rfl,rfl,by decide +kernel,rfl,by decide +kernel,by decide +kernel⟩
noncomputable abbrev zal:Stmt:=top 11
theorem zcN:FnScope ["columns","pattern","text","classes"] ["columns","pattern","text","classes"] (zac zal):=⟨rfl,rfl,rfl,by decide +kernel,rfl,by decide +kernel,by decide +kernel⟩
noncomputable abbrev zbA:Stmt:=top 12
theorem zg6:FnScope ["cell","price"] ["cell","price"] (zac zbA):=⟨rfl,rfl,rfl,by decide +kernel,rfl,by decide +kernel,by decide +kernel⟩
noncomputable abbrev zbU:Stmt:=top 13
theorem sc_lowest:FnScope ["cells"] ["cells"] (zac zbU):=⟨rfl,rfl,rfl,by decide +kernel,rfl,by decide +kernel,by decide +kernel⟩
noncomputable abbrev zaS:Stmt:=top 16
theorem zeK:FnScope ["W"] ["W"] (zac zaS):=⟨rfl,rfl,rfl,by decide +kernel,rfl,by decide +kernel,by decide +kernel⟩
noncomputable abbrev zaz:Stmt:=top 20
theorem zdN:FnScope ["word","other"] ["word","other"] (zac zaz):=⟨rfl,rfl,rfl,by decide +kernel,rfl,by decide +kernel,by decide +kernel⟩
noncomputable abbrev zcR:Stmt:=top 21
theorem sc_hang:FnScope ["top","word","knot","price"] ["top","word"] (zac zcR):=⟨rfl,rfl,rfl,by decide +kernel,rfl,by decide +kernel,by decide +kernel⟩
noncomputable abbrev za4:Stmt:=top 22
theorem sc_tree_from:FnScope ["knot","branches","price"] ["knot"] (zac za4):=⟨rfl,rfl,rfl,by decide +kernel,rfl,by decide +kernel,by decide +kernel⟩
noncomputable abbrev za6:Stmt:=top 24
theorem sc__law_deck:FnScope ["_law_cells","_law_many","_law_own","_law_row","_law_deck_here","_law_k","_law_at","_law_one"] ["_law_cells","_law_many"] (zac za6):=⟨rfl,rfl,rfl,by decide +kernel,rfl,by decide +kernel,by decide +kernel⟩
noncomputable abbrev za8:Stmt:=top 25
theorem zfo:FnScope ["_law_turn","_law_number"] ["_law_turn","_law_number"] (zac za8):=⟨rfl,rfl,rfl,by decide +kernel,rfl,by decide +kernel,by decide +kernel⟩
noncomputable abbrev za5:Stmt:=top 26
theorem sc__law_word:FnScope ["_law_cell","_law_few","_law_turn","_law_word_here","_law_long","_law_k"] ["_law_cell","_law_few","_law_turn"] (zac za5):=⟨rfl,rfl,rfl,by decide +kernel,rfl,by decide +kernel,by decide +kernel⟩
noncomputable abbrev zaR:Stmt:=top 27
theorem sc__law_words:FnScope ["_law_deck_here","_law_most","_law_turn","_law_few"] ["_law_deck_here","_law_most"] (zac zaR):=⟨rfl,rfl,rfl,by decide +kernel,rfl,by decide +kernel,by decide +kernel⟩
noncomputable abbrev zaQ:Stmt:=top 28
theorem sc__law_price:FnScope ["_law_one","_law_other","_law_row","_law_k","_law_below","_law_j","_law_step"] ["_law_one","_law_other"] (zac zaQ):=⟨rfl,rfl,rfl,by decide +kernel,rfl,by decide +kernel,by decide +kernel⟩
noncomputable abbrev zbl:Stmt:=top 29
theorem sc__law_put:FnScope ["_law_below","_law_top","_law_word_here","_law_here","_law_price_here"] ["_law_below","_law_top","_law_word_here"] (zac zbl):=⟨rfl,rfl,rfl,by decide +kernel,rfl,by decide +kernel,by decide +kernel⟩
noncomputable abbrev za7:Stmt:=top 30
theorem zdE:FnScope ["_law_below","_law_word_here"] ["_law_below","_law_word_here"] (zac za7):=⟨rfl,rfl,rfl,by decide +kernel,rfl,by decide +kernel,by decide +kernel⟩
noncomputable abbrev zaT:Stmt:=top 31
theorem sc__law_alike:FnScope ["_law_found","_law_due","_law_one","_law_other"] ["_law_found","_law_due"] (zac zaT):=⟨rfl,rfl,rfl,by decide +kernel,rfl,by decide +kernel,by decide +kernel⟩
noncomputable abbrev zaJ:Stmt:=top 32
theorem sc__law_stands:FnScope ["_law_state","_law_book","_law_below","_law_words_here"] ["_law_state"] (zac zaJ):=⟨rfl,rfl,rfl,by decide +kernel,rfl,by decide +kernel,by decide +kernel⟩
noncomputable abbrev za9:Stmt:=top 33
theorem sc__law_goes:FnScope ["_law_state","_law_k","_law_book","_law_below","_law_words_here","_law_word_here","_law_new"] ["_law_state","_law_k"] (zac za9):=⟨rfl,rfl,rfl,by decide +kernel,rfl,by decide +kernel,by decide +kernel⟩
noncomputable abbrev zc0:Stmt:=top 34
theorem sc_law:FnScope ["_law_script","_law_deck_here","_law_words_here","_law_states","_law_k","_law_state"] ["_law_script"] (zac zc0):=⟨rfl,rfl,rfl,by decide +kernel,rfl,by decide +kernel,by decide +kernel⟩
noncomputable abbrev zaB:Stmt:=clsB (top 18) 0
theorem zdT:FnScope ["self"] ["self"] (zac zaB):=⟨rfl,rfl,rfl,by decide +kernel,rfl,by decide +kernel,by decide +kernel⟩
noncomputable abbrev zbf:Stmt:=clsB (top 18) 1
theorem zge:FnScope ["self","W"] ["self","W"] (zac zbf):=⟨rfl,rfl,rfl,by decide +kernel,rfl,by decide +kernel,by decide +kernel⟩
noncomputable abbrev za2:Stmt:=clsB (top 18) 2
theorem zfy:FnScope ["self"] ["self"] (zac za2):=⟨rfl,rfl,rfl,by decide +kernel,rfl,by decide +kernel,by decide +kernel⟩
noncomputable abbrev zaC:Stmt:=clsB (top 19) 0
theorem zdU:FnScope ["self","word"] ["self","word"] (zac zaC):=⟨rfl,rfl,rfl,by decide +kernel,rfl,by decide +kernel,by decide +kernel⟩
theorem zft:bootBuiltins "bool" = some (.type "bool"):=by kernel_rfl
theorem zdi:bootBuiltins "int" = some (.type "int"):=by kernel_rfl
theorem zaM:bootBuiltins "isinstance" = some (.builtin "isinstance"):=by kernel_rfl
theorem zbp:bootBuiltins "len" = some (.builtin "len"):=by kernel_rfl
theorem zdc:bootBuiltins "list" = some (.type "list"):=by kernel_rfl
theorem zgM:bootBuiltins "min" = some (.builtin "min"):=by kernel_rfl
theorem boot_range:bootBuiltins "range" = some (.type "range"):=by kernel_rfl
theorem zdm:bootBuiltins "reversed" = some (.type "reversed"):=by kernel_rfl
theorem zd9:bootBuiltins "sorted" = some (.builtin "sorted"):=by kernel_rfl
theorem zgt:bootBuiltins "str" = some (.type "str"):=by kernel_rfl
theorem zbo:bootBuiltins "tuple" = some (.type "tuple"):=by kernel_rfl
theorem boot_zip:bootBuiltins "zip" = some (.type "zip"):=by kernel_rfl
structure Txt(K:PySem.W.Frag)(mg:Str->Option Value):Prop where
 m_bool:mg "bool" = none
 m_int:mg "int" = none
 m_isinstance:mg "isinstance" = none
 m_len:mg "len" = none
 m_list:mg "list" = none
 m_min:mg "min" = none
 m_range:mg "range" = none
 m_reversed:mg "reversed" = none
 m_sorted:mg "sorted" = none
 m_str:mg "str" = none
 m_tuple:mg "tuple" = none
 m_zip:mg "zip" = none
 g_PUT:∃ u,mg "PUT" = some u/\RelV (.int 0) u
 g_LEFT:∃ u,mg "LEFT" = some u/\RelV (.int 1) u
 g_EXCHANGED:∃ u,mg "EXCHANGED" = some u/\RelV (.int 2) u
 g_TURNED:∃ u,mg "TURNED" = some u/\RelV (.int 3) u
 u_PLAIN_PRICES:∃ a,mg "PLAIN_PRICES" = some (.ref a)/\TupK K a [1,1,1,0]
 c_Book:∃ C,ClsD K mg "Book" ["top"] C
 c_Knot:∃ C,ClsD K mg "Knot" ["word","branches"] C
 d_cells_of:∃ f fd,DefD K mg "cells_of" zbj ["P","T","prices","free"] f fd
 d_price_between:∃ f fd,Def K mg "price_between" zaA ["P","T","prices"] f fd
 d_row_across:∃ f fd,Def K mg "row_across" zaU ["columns","classes"] f fd
 d_first_column:∃ f fd,Def K mg "first_column" zaG ["pattern","prices"] f fd
 d_further_column:∃ f fd,Def K mg "further_column" zau ["columns","pattern","text","prices","free"] f fd
 d_cell_ahead_of_turn:∃ f fd,Def K mg "cell_ahead_of_turn" zal ["columns","pattern","text","classes"] f fd
 d_stepped:∃ f fd,Def K mg "stepped" zbA ["cell","price"] f fd
 d_lowest:∃ f fd,Def K mg "lowest" zbU ["cells"] f fd
 d_pattern_of:∃ f fd,Def K mg "pattern_of" zaS ["W"] f fd
 d_slips_between:∃ f fd,Def K mg "slips_between" zaz ["word","other"] f fd
 d_hang:∃ f fd,Def K mg "hang" zcR ["top","word"] f fd
 d_tree_from:∃ f fd,Def K mg "tree_from" za4 ["knot"] f fd
 d__law_deck:∃ f fd,Def K mg "_law_deck" za6 ["_law_cells","_law_many"] f fd
 d__law_sign:∃ f fd,Def K mg "_law_sign" za8 ["_law_turn","_law_number"] f fd
 d__law_word:∃ f fd,Def K mg "_law_word" za5 ["_law_cell","_law_few","_law_turn"] f fd
 d__law_words:∃ f fd,Def K mg "_law_words" zaR ["_law_deck_here","_law_most"] f fd
 d__law_price:∃ f fd,Def K mg "_law_price" zaQ ["_law_one","_law_other"] f fd
 d__law_put:∃ f fd,Def K mg "_law_put" zbl ["_law_below","_law_top","_law_word_here"] f fd
 d__law_tree:∃ f fd,Def K mg "_law_tree" za7 ["_law_below","_law_word_here"] f fd
 d__law_alike:∃ f fd,Def K mg "_law_alike" zaT ["_law_found","_law_due"] f fd
 d__law_stands:∃ f fd,Def K mg "_law_stands" zaJ ["_law_state"] f fd
 d__law_goes:∃ f fd,Def K mg "_law_goes" za9 ["_law_state","_law_k"] f fd
 d_Book___init__:∃ f fd,MakeD K "Book" zaB "Book.__init__" ["self"] f fd
 d_Book_put:∃ f fd,MethD K "Book" "put" zbf "Book.put" ["self","W"] f fd
 d_Book_tree:∃ f fd,MethD K "Book" "tree" za2 "Book.tree" ["self"] f fd
 d_Knot___init__:∃ f fd,MakeD K "Knot" zaC "Knot.__init__" ["self","word"] f fd
section
variable {P:Program}{w:World}{K:PySem.W.Frag}{mg:Str->Option Value}{base:Heap}{f:Addr}{fd:FuncData}
theorem ze8(T:Txt K mg)(F:FunA K "row_across" "row_across" zaU f fd):FnOk P w K mg base CX0 1 f fd ["columns","classes"] (spD K [.b,.v] zbW):=by
 refine zbi F zeM zcJ rfl (fun _ _ h=>h) fun cdv A outer s H E hr=>?_
 have hu:=zbP hr
 exact(ss1 (zde (vct zeq (by rfl) T.m_tuple zbo (zad (vlc (N:=["column","classes"]) (fr:=[1]) ⟨rfl,rfl,rfl,by decide +kernel,rfl,rfl⟩ (iib 0) (fun _ _ _ _=>by exact if0) (fun _ _ _ _=>by exact(vix zeb (vv 0) (vv 1) (fun _ _=>rfl)))) za1))))
theorem zcP(T:Txt K mg)(F:FunA K "cell_ahead_of_turn" "cell_ahead_of_turn" zal f fd):FnOk P w K mg base CX0 1 f fd ["columns","pattern","text","classes"] (spD K [.b,.v,.v,.v] zaH):=by
 refine zbi F zcN zaI rfl (fun _ _ h=>h) fun cdv A outer s H E hr=>?_
 have hu:=zbP hr
 exact(ssc (sIf (tww (tor' (tcm ((o_lt)) (vv 3) zbd (zbI _)) (tor1' (tcm ((o_lt)) (vcb zfG (by rfl) T.m_len zbp (zad (vv 2) za1)) zbd (zbI _))))) (ss1 (zde vnon)) ss0)
   (ssc (sIf (tww (tor' (tcm (o_niS) (vix zhg (vv 2) (vun zff zbd) (fun _ _=>rfl)) (vix zeb (vv 1) (vop zfk (vv 3) zbd) (fun _ _=>rfl)) (by with_unfolding_all rfl)) (tor1' (tcm (o_niS) (vix zhg (vv 2) (vun zff zbd) (fun _ _=>rfl)) (vix zeb (vv 1) (vop zfk (vv 3) zbd) (fun _ _=>rfl)) (by with_unfolding_all rfl))))) (ss1 (zde vnon)) ss0)
   (ss1 (zde (vix zeb (vix zbF (vv 0) (vun zff zbd) (fun _ _=>rfl)) (vop zfk (vv 3) zbd) (fun _ _=>rfl))))))
theorem zeo(T:Txt K mg)(F:FunA K "stepped" "stepped" zbA f fd):FnOk P w K mg base CX0 1 f fd ["cell","price"] (spD K [.v,.v] za0):=by
 refine zbi F zg6 zcO rfl (fun _ _ h=>h) fun cdv A outer s H E hr=>?_
 have hu:=zbP hr
 exact(ssc (sIf (tww (tor' (tcm (o_isN) (vv 0) vnon (zbI _)) (tor1' (tcm (o_eq) (vv 1) zbd (zbI _))))) (ss1 (zde vnon)) ss0)
   (ss1 (zde (vop zcH (vv 0) (vv 1)))))
theorem ok_lowest(T:Txt K mg)(F:FunA K "lowest" "lowest" zbU f fd):FnOk P w K mg base CX0 1 f fd ["cells"] (spD K [.v] zcV):=by
 refine zbi F sc_lowest ze3 rfl (fun _ _ h=>h) fun cdv A outer s H E hr=>?_
 have hu:=zbP hr
 exact(ss1 (zde (vminD (vlc (N:=["cell"]) (fr:=[]) ⟨rfl,rfl,rfl,by decide +kernel,rfl,rfl⟩ (iiq (vv 0)) (fun _ _ _ _=>by exact(if1 (tcm (o_noN) (vv 0) vnon (zbI _)))) (fun _ _ _ _=>by exact(vv 0))) vnon (by rfl) T.m_min zgM)))
theorem ze2(T:Txt K mg)(F:FunA K "pattern_of" "pattern_of" zaS f fd):FnOk P w K mg base CX0 1 f fd ["W"] (spD K [.v] zbV):=by
 refine zbi F zeK zcM rfl (fun _ _ h=>h) fun cdv A outer s H E hr=>?_
 have hu:=zbP hr
 exact(ss1 (zde (vct c_tupS (by rfl) T.m_tuple zbo (zad (vv 0) za1))))
theorem zfH(T:Txt K mg)(F:FunA K "_law_deck" "_law_deck" za6 f fd):FnOk P w K mg base CX0 1 f fd ["_law_cells","_law_many"] (spD K [.b,.v] zbR):=by
 refine zbi F sc__law_deck zcB rfl (fun _ _ h=>h) fun cdv A outer s H E hr=>?_
 have hu:=zbP hr
 exact(ssc (zee (i:=2) sc__law_deck.nd rfl (Or.inl rfl) (vop o_cat (vct c_listQ (by rfl) T.m_list zdc (zad (vv 0) za1)) (vop o_rep (vlst (zad zbd za1)) (vct zgJ (by rfl) T.m_int zdi (zad (vcmp (o_eq) (vcb zdF (by rfl) T.m_len zbp (zad (vv 0) za1)) zbd (zbI _)) za1)))))
   (sFrz 2 (ssc (sSetLC (i:=3) sc__law_deck.nd rfl (Or.inl rfl) (N:=["_law_cell"]) (fr:=[]) ⟨rfl,rfl,rfl,by decide +kernel,rfl,rfl⟩ (iil (vv 2)) (fun _ _ _ _=>by exact if0) (fun _ _ _ _=>by exact(vop zgo (vv 0) (vct zgJ (by rfl) T.m_int zdi (zad (vcmp (o_ge) (vv 0) (vop o_pow zbd zbd) (zbI _)) za1)))))
   (ssc (zee (i:=4) sc__law_deck.nd rfl (Or.inl rfl) (vlst za1))
   (ssc (sFor (iir1 (by rfl) T.m_range (zad (vv 1) za1)) (gnm (i:=5) sc__law_deck.nd rfl (Or.inl rfl))
   (ssc (zee (i:=6) sc__law_deck.nd rfl (Or.inl rfl) (vop zc5 (vv 5) (vcb zdF (by rfl) T.m_len zbp (zad (vv 2) za1))))
   (ssc (zee (i:=7) sc__law_deck.nd rfl (Or.inl rfl) (vop zcH (vop zgo (vop zc5 (vop zcH (vop zcH (vix zbF (vv 2) (vv 6) (fun _ _=>rfl)) (vop zgo (vop zgo (vv 5) (vv 5)) zbd)) (vop zgo zbd (vv 5))) zbd) (vix zbF (vlst (zad zbd (zad zbd (zad zbd (zad zbd za1))))) (vop zc5 (vv 5) zbd) (fun _ _=>rfl))) zbd))
   (ssc (sApp 4 (vix zbF (vlst (zad (vop zc5 (vop zgo (vv 7) (vv 7)) zbd) (zad (vop zc5 (vix zbF (vv 3) (vv 6) (fun _ _=>rfl)) (vop o_pow zbd zbd)) za1))) (vct zgJ (by rfl) T.m_int zdi (zad (vcmp (o_ne) (vix zbF (vv 3) (vv 6) (fun _ _=>rfl)) zbd (zbI _)) za1)) (fun _ _=>rfl)))
   (ss1 (sSIx 3 (vop o_divB (vix zbF (vv 3) (vv 6) (fun _ _=>rfl)) (vop o_pow zbd zbd)) (vv 6) (hg:=fun a b=>⟨zgS a.h b.h set_list⟩)))))))
   (ss1 (zde (vLstRev (vv 4) (by rfl) T.m_list zdc (by rfl) T.m_reversed zdm))))))))
theorem zfP(T:Txt K mg)(F:FunA K "_law_sign" "_law_sign" za8 f fd):FnOk P w K mg base CX0 1 f fd ["_law_turn","_law_number"] (spD K [.v,.v] zbx):=by
 refine zbi F zfo zc4 rfl (fun _ _ h=>h) fun cdv A outer s H E hr=>?_
 have hu:=zbP hr
 exact(ss1 (zde (vix zhg vstr (vop zc5 (vop zcH (vv 0) (vop zgo (vv 1) (vop zcH zbd (vop zc5 (vop zhj (vv 0) zbd) zbd)))) zbd) (fun _ _=>rfl))))
theorem zeZ(T:Txt K mg)(F:FunA K "_law_price" "_law_price" zaQ f fd):FnOk P w K mg base CX0 1 f fd ["_law_one","_law_other"] (spD K [.v,.v] zbX):=by
 refine zbi F sc__law_price zcl rfl (fun _ _ h=>h) fun cdv A outer s H E hr=>?_
 have hu:=zbP hr
 exact(ssc (zee (i:=2) sc__law_price.nd rfl (Or.inl rfl) (vListR (vop zcH (vcb zfG (by rfl) T.m_len zbp (zad (vv 1) za1)) zbd) (by rfl) T.m_list zdc (by rfl) T.m_range boot_range))
   (ssc (sFor (iir1 (by rfl) T.m_range (zad (vcb zfG (by rfl) T.m_len zbp (zad (vv 0) za1)) za1)) (gnm (i:=3) sc__law_price.nd rfl (Or.inl rfl))
   (ssc (zee (i:=4) sc__law_price.nd rfl (Or.inl rfl) (vlst (zad (vop zcH (vv 3) zbd) za1)))
   (ssc (sFor (iir1 (by rfl) T.m_range (zad (vcb zfG (by rfl) T.m_len zbp (zad (vv 1) za1)) za1)) (gnm (i:=5) sc__law_price.nd rfl (Or.inl rfl))
   (ssc (zee (i:=6) sc__law_price.nd rfl (Or.inl rfl) (vop zcH (vix zbF (vv 2) (vv 5) (fun _ _=>rfl)) (vct zgJ (by rfl) T.m_int zdi (zad (vcmp (o_ne) (vix zhg (vv 0) (vv 3) (fun _ _=>rfl)) (vix zhg (vv 1) (vv 5) (fun _ _=>rfl)) (zbI _)) za1))))
   (ss1 (sApp 4 (vcb c_min3 (by rfl) T.m_min zgM (zad (vv 6) (zad (vop zcH (vix zbF (vv 2) (vop zcH (vv 5) zbd) (fun _ _=>rfl)) zbd) (zad (vop zcH (vix zbF (vv 4) (vv 5) (fun _ _=>rfl)) zbd) za1))))))))
   (sFrz 4 (ss1 (zee (i:=2) sc__law_price.nd rfl (Or.inl rfl) (vv 4)))))))
   (ss1 (zde (vix zbF (vv 2) (vun zff zbd) (fun _ _=>rfl))))))
theorem zdO(T:Txt K mg)(F:FunA K "__init__" "Book.__init__" zaB f fd):FnOk P w K mg base CX0 1 f fd ["self"] (spM K zaj):=by
 obtain⟨C_Book,DC_Book⟩:=T.c_Book
 refine zd4 (n:=0) F zdT zcd rfl (fun _ _ _ h=>h) fun cdv A outer s H E hr=>?_
 have hu:=zbP hr
 exact(ss1 (sFNew (ns:=[]) 0 DC_Book.toF vnon))
theorem zcE(T:Txt K mg)(F:FunA K "__init__" "Knot.__init__" zaC f fd):FnOk P w K mg base CX0 1 f fd ["self","word"] (spM K zar):=by
 obtain⟨C_Knot,DC_Knot⟩:=T.c_Knot
 refine zd4 (n:=1) F zdU zcc rfl (fun _ _ _ h=>h) fun cdv A outer s H E hr=>?_
 have hu:=zbP hr
 exact(ssc (sFNew (ns:=[]) 0 DC_Knot.toF (vv 1))
   (ss1 (sFNew (ns:=["word"]) 0 DC_Knot.toF vDI0)))
theorem zd7(T:Txt K mg)(F:FunA K "first_column" "first_column" zaG f fd):FnOk P w K mg base CX0 2 f fd ["pattern","prices"] (spD K [.v,.t] zbs):=by
 obtain⟨f_stepped,fd_stepped,D_stepped⟩:=T.d_stepped
 have G_stepped:FnOk P w K mg base CX0 1 f_stepped fd_stepped ["cell","price"] (spD K [.v,.v] za0):=zeo T (.of D_stepped.fn)
 refine zbi F sc_first_column zcn rfl (fun _ _ h=>h) fun cdv A outer s H E hr=>?_
 have hu:=zbP hr
 exact(ssc (zee (i:=2) sc_first_column.nd rfl (Or.inl rfl) (vlst (zad zbd za1)))
   (ssc (sFor (iir2 (by rfl) T.m_range (zad zbd (zad (vop zcH (vcb zdF (by rfl) T.m_len zbp (zad (vv 0) za1)) zbd) za1))) (gnm (i:=3) sc_first_column.nd rfl (Or.inl rfl))
   (ss1 (sApp 2 (vcl G_stepped D_stepped hr (by rfl) zaW (zad (vix zbF (vv 2) (vop zfk (vv 3) zbd) (fun _ _=>rfl)) (zad (vix x_bt (vv 1) (vglI (by rfl) T.g_LEFT) (fun _ _=>rfl)) za1))))))
   (ss1 (zde (vct zeq (by rfl) T.m_tuple zbo (zad (vv 2) za1))))))
theorem zdC(T:Txt K mg)(F:FunA K "further_column" "further_column" zau f fd):FnOk P w K mg base CX0 2 f fd ["columns","pattern","text","prices","free"] (spD K [.b,.v,.v,.t,.v] zbu):=by
 obtain⟨f_cell_ahead_of_turn,fd_cell_ahead_of_turn,D_cell_ahead_of_turn⟩:=T.d_cell_ahead_of_turn
 have G_cell_ahead_of_turn:FnOk P w K mg base CX0 1 f_cell_ahead_of_turn fd_cell_ahead_of_turn ["columns","pattern","text","classes"] (spD K [.b,.v,.v,.v] zaH):=zcP T (.of D_cell_ahead_of_turn.fn)
 obtain⟨f_lowest,fd_lowest,D_lowest⟩:=T.d_lowest
 have G_lowest:FnOk P w K mg base CX0 1 f_lowest fd_lowest ["cells"] (spD K [.v] zcV):=ok_lowest T (.of D_lowest.fn)
 obtain⟨f_stepped,fd_stepped,D_stepped⟩:=T.d_stepped
 have G_stepped:FnOk P w K mg base CX0 1 f_stepped fd_stepped ["cell","price"] (spD K [.v,.v] za0):=zeo T (.of D_stepped.fn)
 refine zbi F sc_further_column zbv rfl (fun _ _ h=>h) fun cdv A outer s H E hr=>?_
 have hu:=zbP hr
 exact(ssc (zee (i:=5) sc_further_column.nd rfl (Or.inl rfl) (vix zbF (vv 0) (vun zff zbd) (fun _ _=>rfl)))
   (ssc (zee (i:=6) sc_further_column.nd rfl (Or.inl rfl) (vlst (zad (vif (tva (vv 4)) zbd (vcl G_stepped D_stepped hr (by rfl) zaW (zad (vix zeb (vv 5) zbd (fun _ _=>rfl)) (zad (vix x_bt (vv 3) (vglI (by rfl) T.g_PUT) (fun _ _=>rfl)) za1)))) za1)))
   (ssc (sFor (iir2 (by rfl) T.m_range (zad zbd (zad (vop zcH (vcb zdF (by rfl) T.m_len zbp (zad (vv 1) za1)) zbd) za1))) (gnm (i:=7) sc_further_column.nd rfl (Or.inl rfl))
   (ssc (zee (i:=8) sc_further_column.nd rfl (Or.inl rfl) (vcmp (o_inS) (vix zhg (vv 2) (vun zff zbd) (fun _ _=>rfl)) (vix zeb (vv 1) (vop zfk (vv 7) zbd) (fun _ _=>rfl)) (by with_unfolding_all rfl)))
   (ss1 (sApp 6 (vcl G_lowest D_lowest hr (by rfl) zaW (zad (vlst (zad (vif (tva (vv 8)) (vix zeb (vv 5) (vop zfk (vv 7) zbd) (fun _ _=>rfl)) (vcl G_stepped D_stepped hr (by rfl) zaW (zad (vix zeb (vv 5) (vop zfk (vv 7) zbd) (fun _ _=>rfl)) (zad (vix x_bt (vv 3) (vglI (by rfl) T.g_EXCHANGED) (fun _ _=>rfl)) za1)))) (zad (vcl G_stepped D_stepped hr (by rfl) zaW (zad (vix zeb (vv 5) (vv 7) (fun _ _=>rfl)) (zad (vix x_bt (vv 3) (vglI (by rfl) T.g_PUT) (fun _ _=>rfl)) za1))) (zad (vcl G_stepped D_stepped hr (by rfl) zaW (zad (vix zbF (vv 6) (vop zfk (vv 7) zbd) (fun _ _=>rfl)) (zad (vix x_bt (vv 3) (vglI (by rfl) T.g_LEFT) (fun _ _=>rfl)) za1))) (zad (vcl G_stepped D_stepped hr (by rfl) zaW (zad (vcl G_cell_ahead_of_turn D_cell_ahead_of_turn hr (by rfl) zaW (zad (vv 0) (zad (vv 1) (zad (vv 2) (zad (vv 7) za1))))) (zad (vix x_bt (vv 3) (vglI (by rfl) T.g_TURNED) (fun _ _=>rfl)) za1))) za1))))) za1))))))
   (ss1 (zde (vct zeq (by rfl) T.m_tuple zbo (zad (vv 6) za1)))))))
theorem zfD(T:Txt K mg)(F:FunA K "_law_word" "_law_word" za5 f fd):FnOk P w K mg base CX0 2 f fd ["_law_cell","_law_few","_law_turn"] (spD K [.v,.v,.v] zcx):=by
 obtain⟨f__law_sign,fd__law_sign,D__law_sign⟩:=T.d__law_sign
 have G__law_sign:FnOk P w K mg base CX0 1 f__law_sign fd__law_sign ["_law_turn","_law_number"] (spD K [.v,.v] zbx):=zfP T (.of D__law_sign.fn)
 refine zbi F sc__law_word zcD rfl (fun _ _ h=>h) fun cdv A outer s H E hr=>?_
 have hu:=zbP hr
 exact(ssc (zee (i:=3) sc__law_word.nd rfl (Or.inl rfl) vstr)
   (ssc (zee (i:=4) sc__law_word.nd rfl (Or.inl rfl) (vix zbF (vlst (zad (vop zc5 (vv 0) zbd) (zad (vop zc5 (vv 0) zbd) (zad (vop zc5 (vv 0) zbd) za1)))) (vop zc5 (vop zhj (vv 0) zbd) zbd) (fun _ _=>rfl)))
   (ssc (zee (i:=0) sc__law_word.nd rfl (Or.inl rfl) (vop zhj (vv 0) zbd))
   (ssc (sFor (iir1 (by rfl) T.m_range (zad (vv 4) za1)) (gnm (i:=5) sc__law_word.nd rfl (Or.inl rfl))
   (ssc (zee (i:=3) sc__law_word.nd rfl (Or.inl rfl) (vop o_addS (vv 3) (vcl G__law_sign D__law_sign hr (by rfl) zaW (zad (vv 2) (zad (vop zc5 (vv 0) (vv 1)) za1)))))
   (ss1 (zee (i:=0) sc__law_word.nd rfl (Or.inl rfl) (vop zhj (vv 0) (vv 1))))))
   (ss1 (sRetV 3))))))
theorem zf6(T:Txt K mg)(F:FunA K "_law_put" "_law_put" zbl f fd):FnOk P w K mg base CX0 2 f fd ["_law_below","_law_top","_law_word_here"] (spM K zbM):=by
 obtain⟨f__law_price,fd__law_price,D__law_price⟩:=T.d__law_price
 have G__law_price:FnOk P w K mg base CX0 1 f__law_price fd__law_price ["_law_one","_law_other"] (spD K [.v,.v] zbX):=zeZ T (.of D__law_price.fn)
 refine zd4 (n:=2) F sc__law_put zco rfl (fun _ _ _ h=>h) fun cdv A outer s H E hr=>?_
 have hu:=zbP hr
 exact(ssc (zee (i:=3) sc__law_put.nd rfl (Or.inl rfl) (vv 1))
   (ss1 (sWhl 1000 (vNiS 0 (vv 2)).t
   (ssc (zee (i:=4) sc__law_put.nd rfl (Or.inl rfl) (vcl G__law_price D__law_price hr (by rfl) zaW (zad (vv 3) (zad (vv 2) za1))))
   (ss1 (sIf (vInSI 0 (vv 4) (vv 3)).t (ss1 (zee (i:=3) sc__law_put.nd rfl (Or.inl rfl) (vIxSI 0 (vv 3) (vv 4)))) (ssc (sSetSI 0 (vv 3) (vv 4) (vv 2))
   (ss1 (sN (kSetN 0 (vv 2)))))))))))
theorem zf9(T:Txt K mg)(F:FunA K "cells_of" "cells_of" zbj f fd):FnOk P w K mg base CX0 3 f fd ["P","T","prices","free"] (spD K [.v,.v,.t,.v] zcp):=by
 obtain⟨f_first_column,fd_first_column,D_first_column⟩:=T.d_first_column
 have G_first_column:FnOk P w K mg base CX0 2 f_first_column fd_first_column ["pattern","prices"] (spD K [.v,.t] zbs):=zd7 T (.of D_first_column.fn)
 obtain⟨f_further_column,fd_further_column,D_further_column⟩:=T.d_further_column
 have G_further_column:FnOk P w K mg base CX0 2 f_further_column fd_further_column ["columns","pattern","text","prices","free"] (spD K [.b,.v,.v,.t,.v] zbu):=zdC T (.of D_further_column.fn)
 obtain⟨f_row_across,fd_row_across,D_row_across⟩:=T.d_row_across
 have G_row_across:FnOk P w K mg base CX0 1 f_row_across fd_row_across ["columns","classes"] (spD K [.b,.v] zbW):=ze8 T (.of D_row_across.fn)
 refine zbi F sc_cells_of zdx rfl (fun _ _ h=>h) fun cdv A outer s H E hr=>?_
 have hu:=zbP hr
 exact(ssc (zee (i:=4) sc_cells_of.nd rfl (Or.inr rfl) (vlst (zad (vcl G_first_column D_first_column hr (by rfl) zaW (zad (vv 0) (zad (vv 2) za1))) za1)))
   (ssc (sFor (iir2 (by rfl) T.m_range (zad zbd (zad (vop zcH (vcb zfG (by rfl) T.m_len zbp (zad (vv 1) za1)) zbd) za1))) (gnm (i:=5) sc_cells_of.nd rfl (Or.inl rfl))
   (ss1 (sApp 4 (vcl G_further_column D_further_column hr (by rfl) zaW (zad (vv 4) (zad (vv 0) (zad (vsl l_str (vv 1) von (vos (vv 5))) (zad (vv 2) (zad (vv 3) za1)))))))))
   (ss1 (zde (vct zeq (by rfl) T.m_tuple zbo (zad (vlc (N:=["classes","columns"]) (fr:=[4]) ⟨rfl,rfl,rfl,by decide +kernel,rfl,rfl⟩ (iir1 (by rfl) T.m_range (zad (vop zcH (vcb zdF (by rfl) T.m_len zbp (zad (vv 0) za1)) zbd) za1)) (fun _ _ _ _=>by exact if0) (fun _ _ _ _=>by exact(vcl G_row_across D_row_across hr (by rfl) zaW (zad (vv 1) (zad (vv 0) za1))))) za1))))))
theorem ze9(T:Txt K mg)(F:FunA K "_law_words" "_law_words" zaR f fd):FnOk P w K mg base CX0 3 f fd ["_law_deck_here","_law_most"] (spM K zay):=by
 obtain⟨f__law_word,fd__law_word,D__law_word⟩:=T.d__law_word
 have G__law_word:FnOk P w K mg base CX0 2 f__law_word fd__law_word ["_law_cell","_law_few","_law_turn"] (spD K [.v,.v,.v] zcx):=zfD T (.of D__law_word.fn)
 refine zd4 (n:=1) F sc__law_words zbY rfl (fun _ _ _ h=>h) fun cdv A outer s H E hr=>?_
 have hu:=zbP hr
 exact(ssc (sXSet (i:=2) sc__law_words.nd rfl (Or.inr rfl) (xpop 0))
   (ssc (zee (i:=3) sc__law_words.nd rfl (Or.inr rfl) (vop zcH zbd (vop zc5 (vv 2) zbd)))
   (ss1 (sXRet (xlc 0 1 (N:=["_law_k","_law_few","_law_deck_here","_law_turn"]) (fr:=[3,0,2]) ⟨rfl,rfl,rfl,by decide +kernel,rfl,rfl⟩ (iir1 (by rfl) T.m_range (zad (vop zc5 (vop zhj (vv 2) zbd) (vop zcH (vv 1) zbd)) za1)) (fun _ _ _ _=>by exact(xcl G__law_word D__law_word hr (by rfl) zaW (zgl (xpop 2) (zgl (zeR (vv 1)) (zgl (zeR (vop zc5 (vop zhj (vv 3) zbd) zbd)) xnil))))))))))
theorem zdM(T:Txt K mg)(F:FunA K "price_between" "price_between" zaA f fd):FnOk P w K mg base CX0 4 f fd ["P","T","prices"] (spD K [.v,.v,.t] zbh):=by
 obtain⟨f_cells_of,fd_cells_of,D_cells_of⟩:=T.d_cells_of
 have G_cells_of:FnOk P w K mg base CX0 3 f_cells_of fd_cells_of ["P","T","prices","free"] (spD K [.v,.v,.t,.v] zcp):=zf9 T D_cells_of.fn
 refine zbi F zdR zca rfl (fun _ _ h=>h) fun cdv A outer s H E hr=>?_
 have hu:=zbP hr
 exact(ss1 (zde (vix zeb (vix zeb (vclD G_cells_of D_cells_of hr (by rfl) zaW (zad (vv 0) (zad (vv 1) (zad (vv 2) za1)))) (vun zff zbd) (fun _ _=>rfl)) (vun zff zbd) (fun _ _=>rfl))))
theorem zdQ(T:Txt K mg)(F:FunA K "slips_between" "slips_between" zaz f fd):FnOk P w K mg base CX0 5 f fd ["word","other"] (spD K [.v,.v] zak):=by
 obtain⟨f_pattern_of,fd_pattern_of,D_pattern_of⟩:=T.d_pattern_of
 have G_pattern_of:FnOk P w K mg base CX0 1 f_pattern_of fd_pattern_of ["W"] (spD K [.v] zbV):=ze2 T (.of D_pattern_of.fn)
 obtain⟨f_price_between,fd_price_between,D_price_between⟩:=T.d_price_between
 have G_price_between:FnOk P w K mg base CX0 4 f_price_between fd_price_between ["P","T","prices"] (spD K [.v,.v,.t] zbh):=zdM T (.of D_price_between.fn)
 refine zbi F zdN zb7 rfl (fun _ _ h=>h) fun cdv A outer s H E hr=>?_
 have hu:=zbP hr
 exact(ss1 (zde (vcl G_price_between D_price_between hr (by rfl) zaW (zad (vcl G_pattern_of D_pattern_of hr (by rfl) zaW (zad (vv 0) za1)) (zad (vv 1) (zad (vglB (by rfl) T.u_PLAIN_PRICES) za1))))))
theorem ok_hang(T:Txt K mg)(F:FunA K "hang" "hang" zcR f fd):FnOk P w K mg base CX0 6 f fd ["top","word"] (spM K zez):=by
 obtain⟨C_Knot,DC_Knot⟩:=T.c_Knot
 obtain⟨f_Knot___init__,fd_Knot___init__,D_Knot___init__⟩:=T.d_Knot___init__
 have G_Knot___init__:FnOk P w K mg base CX0 1 f_Knot___init__ fd_Knot___init__ ["self","word"] (spM K zar):=zcE T D_Knot___init__.fn
 obtain⟨f_slips_between,fd_slips_between,D_slips_between⟩:=T.d_slips_between
 have G_slips_between:FnOk P w K mg base CX0 5 f_slips_between fd_slips_between ["word","other"] (spD K [.v,.v] zak):=zdQ T (.of D_slips_between.fn)
 refine zd4 (n:=1) F sc_hang F_hang rfl (fun _ _ _ h=>h) fun cdv A outer s H E hr=>?_
 have hu:=zbP hr
 exact(sHang (gi:=zar) DC_Knot.toF kinit (sset (i:=2) sc_hang.nd rfl (Or.inl rfl) (wv 0)) (sset (i:=3) sc_hang.nd rfl (Or.inl rfl) (wcl G_slips_between D_slips_between hr (by rfl) zaW (wac ⟨zdH (wv 2).h rfl⟩ (wac (wv 1) zg4)))) (swhile PassesOwn.never (tw (tand (tcmp op_gt (wv 3) wint (zbI _)) (tand1 (tcmp op_inI (wv 3) ⟨zdH (wv 2).h rfl⟩ (by with_unfolding_all rfl))))) (sc (sset (i:=2) sc_hang.nd rfl (Or.inl rfl) (wix ix_di ⟨zdH (wv 2).h rfl⟩ (wv 3) (fun _ _=>rfl))) (s1 (sset (i:=3) sc_hang.nd rfl (Or.inl rfl) (wcl G_slips_between D_slips_between hr (by rfl) zaW (wac ⟨zdH (wv 2).h rfl⟩ (wac (wv 1) zg4))))))) (sif (tcmp op_eq (wv 3) wint (zbI _)) (s1 (sret wbl)) s0) (fun tK h=>sasg h ⟨zgS (zdH (wv 2).h rfl) (wv 3).h set_di⟩) (sret wbl) (vmake DC_Knot D_Knot___init__ G_Knot___init__ hr (by rfl) zaW (zad (vv 1) za1)))
theorem zgp(T:Txt K mg)(F:FunA K "put" "Book.put" zbf f fd):FnOk P w K mg base CX0 7 f fd ["self","W"] (spM K zax):=by
 obtain⟨C_Book,DC_Book⟩:=T.c_Book
 obtain⟨C_Knot,DC_Knot⟩:=T.c_Knot
 obtain⟨f_Knot___init__,fd_Knot___init__,D_Knot___init__⟩:=T.d_Knot___init__
 have G_Knot___init__:FnOk P w K mg base CX0 1 f_Knot___init__ fd_Knot___init__ ["self","word"] (spM K zar):=zcE T D_Knot___init__.fn
 obtain⟨f_hang,fd_hang,D_hang⟩:=T.d_hang
 have G_hang:FnOk P w K mg base CX0 6 f_hang fd_hang ["top","word"] (spM K zez):=ok_hang T (.of D_hang.fn)
 refine zd4 (n:=1) F zge zbz rfl (fun _ _ _ h=>h) fun cdv A outer s H E hr=>?_
 have hu:=zbP hr
 exact(ssc (sIf (vFIs (ns:=["top"]) 0 0 DC_Book.toF) (ssc (sFSet (ns:=["top"]) 0 0 DC_Book.toF (vmake DC_Knot D_Knot___init__ G_Knot___init__ hr (by rfl) zaW (zad (vv 1) za1)))
   (ss1 (zde vbl))) ss0)
   (ss1 (sXRet (xcof (ns:=["top"]) 0 0 DC_Book.toF G_hang D_hang hr (by rfl) zaW (zad (vv 1) za1)))))
theorem zdL{kC:Str->Addr}(hK:∀ c C,zbK K c C->C=kC c)(T:Txt K mg):∀ (r:Nat) {f:Addr} {fd:FuncData},FunA K "tree_from" "tree_from" za4 f fd->FnOk P w K mg base CX0 (1+r) f fd ["knot"] (spD K [.v] (zaw kC r))
 | 0,f,fd,F=>zbi F sc_tree_from fNev rfl (fun _ _ h=>h) fun cdv A outer s H E hr=>ssNev
 | r+1,f,fd,F=>by
  obtain⟨C_Knot,DC_Knot⟩:=T.c_Knot
  obtain⟨f_tree_from,fd_tree_from,D_tree_from⟩:=T.d_tree_from
  have G_tree_from:FnOk P w K mg base CX0 (1+r) f_tree_from fd_tree_from ["knot"] (spD K [.v] (zaw kC r)):=zdL hK T r (.of D_tree_from.fn)
  refine zbi (k:=1+r) F sc_tree_from (zcC kC (zaw kC r)) rfl (fun _ _ h=>h) fun cdv A outer s H E hr=>?_
  have hu:=zbP hr
  exact(ssc (zee (i:=1) sc_tree_from.nd rfl (Or.inl rfl) (vlst za1))
   (ssc (sFor (iil (vcb c_srtDi (by rfl) T.m_sorted zd9 (zad (vFldV (ns:=["word","branches"]) 1 DC_Knot (hK _ _ DC_Knot.at_) (vv 0)) za1))) (gnm (i:=2) sc_tree_from.nd rfl (Or.inl rfl))
   (ss1 (sApp 1 (vtup (zad (vv 2) (zad (vcl G_tree_from D_tree_from hr (by rfl) zaW (zad (vix x_di (vFldV (ns:=["word","branches"]) 1 DC_Knot (hK _ _ DC_Knot.at_) (vv 0)) (vv 2) (fun _ _=>rfl)) za1) (hjk:=Nat.le_refl _)) za1))))))
   (ss1 (zde (vtup (zad (vFldV (ns:=["word","branches"]) 0 DC_Knot (hK _ _ DC_Knot.at_) (vv 0)) (zad (vct zeq (by rfl) T.m_tuple zbo (zad (vv 1) za1)) za1)))))))
theorem zdG(T:Txt K mg):∀ (r:Nat) {f:Addr} {fd:FuncData},FunA K "_law_tree" "_law_tree" za7 f fd->FnOk P w K mg base CX0 (1+r) f fd ["_law_below","_law_word_here"] (spD K [.v,.v] (zat r))
 | 0,f,fd,F=>zbi F zdE fNev rfl (fun _ _ h=>h) fun cdv A outer s H E hr=>ssNev
 | r+1,f,fd,F=>by
  obtain⟨f__law_tree,fd__law_tree,D__law_tree⟩:=T.d__law_tree
  have G__law_tree:FnOk P w K mg base CX0 (1+r) f__law_tree fd__law_tree ["_law_below","_law_word_here"] (spD K [.v,.v] (zat r)):=zdG T r (.of D__law_tree.fn)
  refine zbi (k:=1+r) F zdE (zcy (zat r)) rfl (fun _ _ h=>h) fun cdv A outer s H E hr=>?_
  have hu:=zbP hr
  exact(ss1 (zde (vtup (zad (vv 1) (zad (vct zeq (by rfl) T.m_tuple zbo (zad (vlc (N:=["_law_price_here","_law_below","_law_word_here"]) (fr:=[0,1]) ⟨rfl,rfl,rfl,by decide +kernel,rfl,rfl⟩ (iil (vcb c_srtDi (by rfl) T.m_sorted zd9 (zad (vix x_dxS (vv 0) (vv 1) (fun _ _=>rfl)) za1))) (fun _ _ _ _=>by exact if0) (fun _ _ _ _=>by exact(vtup (zad (vv 0) (zad (vcl G__law_tree D__law_tree hr (by rfl) zaW (zad (vv 1) (zad (vix x_di (vix x_dxS (vv 1) (vv 2) (fun _ _=>rfl)) (vv 0) (fun _ _=>rfl)) za1)) (hjk:=Nat.le_refl _)) za1))))) za1)) za1)))))
theorem zfB{kC:Str->Addr}(hK:∀ c C,zbK K c C->C=kC c)(T:Txt K mg)(F:FunA K "tree" "Book.tree" za2 f fd):FnOk P w K mg base CX0 18 f fd ["self"] (spD K [.v] (zbc kC)):=by
 obtain⟨C_Book,DC_Book⟩:=T.c_Book
 obtain⟨f_tree_from,fd_tree_from,D_tree_from⟩:=T.d_tree_from
 have G_tree_from:FnOk P w K mg base CX0 17 f_tree_from fd_tree_from ["knot"] (spD K [.v] (zaw kC 16)):=zdL hK T 16 (.of D_tree_from.fn)
 refine zbi F zfy (zbO kC) rfl (fun _ _ h=>h) fun cdv A outer s H E hr=>?_
 have hu:=zbP hr
 exact(ssc (sIf (tcm (o_isN) (vFldV (ns:=["top"]) 0 DC_Book (hK _ _ DC_Book.at_) (vv 0)) vnon (zbI _)) (ss1 (zde vnon)) ss0)
   (ss1 (zde (vcl G_tree_from D_tree_from hr (by rfl) zaW (zad (vFldV (ns:=["top"]) 0 DC_Book (hK _ _ DC_Book.at_) (vv 0)) za1)))))
theorem zdt(T:Txt K mg):∀ (r:Nat) {f:Addr} {fd:FuncData},FunA K "_law_alike" "_law_alike" zaT f fd->FnOk P w K mg base CX0 (1+r) f fd ["_law_found","_law_due"] (spD K [.v,.v] (zaK r))
 | 0,f,fd,F=>zbi F sc__law_alike fNev rfl (fun _ _ h=>h) fun cdv A outer s H E hr=>ssNev
 | r+1,f,fd,F=>by
  obtain⟨f__law_alike,fd__law_alike,D__law_alike⟩:=T.d__law_alike
  have G__law_alike:FnOk P w K mg base CX0 (1+r) f__law_alike fd__law_alike ["_law_found","_law_due"] (spD K [.v,.v] (zaK r)):=zdt T r (.of D__law_alike.fn)
  refine zbi (k:=1+r) F sc__law_alike (zbg (zaK r)) rfl (fun _ _ h=>h) fun cdv A outer s H E hr=>?_
  have hu:=zbP hr
  exact(ssc (sIf (tva (visi (vv 1) (by rfl) T.m_isinstance zaM (by rfl) T.m_tuple zbo)) (ssc (sIf (tww (tor' (tnt (tva (visi (vv 0) (by rfl) T.m_isinstance zaM (by rfl) T.m_tuple zbo))) (tor1' (tcm (o_ne) (vcb zdF (by rfl) T.m_len zbp (zad (vv 0) za1)) (vcb zdF (by rfl) T.m_len zbp (zad (vv 1) za1)) (zbI _))))) (ss1 (zde vbl)) ss0)
   (ssc (sFor (iizip (zqv (vv 0)) (zqv (vv 1)) (by rfl) T.m_zip boot_zip) (gtp rfl (gns1 (gnm (i:=2) sc__law_alike.nd rfl (Or.inl rfl)) (gns1 (gnm (i:=3) sc__law_alike.nd rfl (Or.inl rfl)) gns0)) (hl:=gl1 (gl1 (gl0))))
   (ss1 (sIf (tnt (tva (vcl G__law_alike D__law_alike hr (by rfl) zaW (zad (vv 2) (zad (vv 3) za1)) (hjk:=Nat.le_refl _)))) (ss1 (zde vbl)) ss0)))
   (ss1 (zde vbl)))) ss0)
   (ssc (sIf (tva (visi (vv 1) (by rfl) T.m_isinstance zaM (by rfl) T.m_str zgt)) (ss1 (zde (vand (visi (vv 0) (by rfl) T.m_isinstance zaM (by rfl) T.m_str zgt) (vone (vcmp (o_eq) (vv 0) (vv 1) (zbI _)))))) ss0)
   (ss1 (zde (vand (visi (vv 0) (by rfl) T.m_isinstance zaM (by rfl) T.m_int zdi) (vand (vnot (visi (vv 0) (by rfl) T.m_isinstance zaM (by rfl) T.m_bool zft)) (vone (vcmp (o_eq) (vv 0) (vv 1) (zbI _)))))))))
theorem zcZ{kC:Str->Addr}(hK:∀ c C,zbK K c C->C=kC c)(T:Txt K mg)(F:FunA K "_law_stands" "_law_stands" zaJ f fd):FnOk P w K mg base CX0 52 f fd ["_law_state"] (spD K [.v] (zaf kC)):=by
 obtain⟨C_Book,DC_Book⟩:=T.c_Book
 obtain⟨f_Book_tree,fd_Book_tree,D_Book_tree⟩:=T.d_Book_tree
 have G_Book_tree:FnOk P w K mg base CX0 18 f_Book_tree fd_Book_tree ["self"] (spD K [.v] (zbc kC)):=zfB hK T D_Book_tree.fn
 obtain⟨f__law_alike,fd__law_alike,D__law_alike⟩:=T.d__law_alike
 have G__law_alike:FnOk P w K mg base CX0 51 f__law_alike fd__law_alike ["_law_found","_law_due"] (spD K [.v,.v] (zaK 50)):=zdt T 50 (.of D__law_alike.fn)
 obtain⟨f__law_tree,fd__law_tree,D__law_tree⟩:=T.d__law_tree
 have G__law_tree:FnOk P w K mg base CX0 17 f__law_tree fd__law_tree ["_law_below","_law_word_here"] (spD K [.v,.v] (zat 16)):=zdG T 16 (.of D__law_tree.fn)
 refine zbi F sc__law_stands (zbn kC) rfl (fun _ _ h=>h) fun cdv A outer s H E hr=>?_
 have hu:=zbP hr
 exact(ssc (sAsg (vv 0) (gls rfl (gns1 (gnm (i:=1) sc__law_stands.nd rfl (Or.inl rfl)) (gns1 (gnm (i:=2) sc__law_stands.nd rfl (Or.inl rfl)) (gns1 (gnm (i:=3) sc__law_stands.nd rfl (Or.inl rfl)) gns0))) (hl:=gl1 (gl1 (gl1 (gl0))))))
   (ssc (sIf (vEqV0 hr (vv 2)).t (ss1 (zde (vcmp (o_isN) (vmethV (ns:=["top"]) DC_Book (hK _ _ DC_Book.at_) D_Book_tree G_Book_tree hr zaW (vv 1)) vnon (zbI _)))) ss0)
   (ss1 (zde (vcl G__law_alike D__law_alike hr (by rfl) zaW (zad (vmethV (ns:=["top"]) DC_Book (hK _ _ DC_Book.at_) D_Book_tree G_Book_tree hr zaW (vv 1)) (zad (vcl G__law_tree D__law_tree hr (by rfl) zaW (zad (vv 2) (zad (vix zbF (vv 3) zbd (fun _ _=>rfl)) za1))) za1)))))))
theorem zfv(T:Txt K mg)(F:FunA K "_law_goes" "_law_goes" za9 f fd):FnOk P w K mg base CX0 53 f fd ["_law_state","_law_k"] (spM K zaN):=by
 obtain⟨C_Book,DC_Book⟩:=T.c_Book
 obtain⟨kC,hK⟩:=kC_ex K
 obtain⟨f_Book_put,fd_Book_put,D_Book_put⟩:=T.d_Book_put
 have G_Book_put:FnOk P w K mg base CX0 7 f_Book_put fd_Book_put ["self","W"] (spM K zax):=zgp T D_Book_put.fn
 obtain⟨f__law_put,fd__law_put,D__law_put⟩:=T.d__law_put
 have G__law_put:FnOk P w K mg base CX0 2 f__law_put fd__law_put ["_law_below","_law_top","_law_word_here"] (spM K zbM):=zf6 T (.of D__law_put.fn)
 obtain⟨f__law_stands,fd__law_stands,D__law_stands⟩:=T.d__law_stands
 have G__law_stands:FnOk P w K mg base CX0 52 f__law_stands fd__law_stands ["_law_state"] (spD K [.v] (zaf kC)):=zcZ hK T (.of D__law_stands.fn)
 refine zd4 (n:=1) F sc__law_goes zct rfl (fun _ _ _ h=>h) fun cdv A outer s H E hr=>?_
 have hu:=zbP hr
 exact(sGoes (gst:=zaf) hK (vix zbF (vv 4) (vv 1) (fun _ _=>rfl)) (xmeth (ns:=["top"]) 2 DC_Book D_Book_put G_Book_put hr zaW (zad (vv 5) za1)) (tww (tor' (tnt (tva (visi (vv 6) (by rfl) T.m_isinstance zaM (by rfl) T.m_bool zft))) (tor1' (tcm (o_ne) (vv 6) (vNiS 3 (vv 5)).v (zbI _))))) (vEqS0 3 hr).t (kSetN 3 (vv 5)) (xco 3 G__law_put D__law_put hr (by rfl) zaW (zgl (zeR (vix zbF (vv 4) zbd (fun _ _=>rfl))) (zgl (zeR (vv 5)) xnil))) (xcmp (o_isB) (xmeth (ns:=["top"]) 2 DC_Book D_Book_put G_Book_put hr zaW (zad (vv 5) za1)) (zeR vbl) (zbI _)) (sasg (wv 0) ⟨pg_lst rfl (gs1 (gn (i:=2) sc__law_goes.nd rfl (Or.inl rfl)) (gs1 (gn (i:=3) sc__law_goes.nd rfl (Or.inl rfl)) (gs1 (gn (i:=4) sc__law_goes.nd rfl (Or.inl rfl)) gs0))).h rfl rfl⟩) (fun t h=>sset (i:=5) sc__law_goes.nd rfl (Or.inl rfl) h) (fun t h=>sset (i:=6) sc__law_goes.nd rfl (Or.inl rfl) h) (fun t h=>sif h (s1 (sret wbl)) s0) (fun t u h k=>sif h (s1 k) s0) (fun t h=>sex h) (fun t h=>sret (wand (wcl G__law_stands D__law_stands hr (by rfl) zaW (wac (wv 0) zg4)) (wand h (wone (wcl G__law_stands D__law_stands hr (by rfl) zaW (wac (wv 0) zg4)))))))
theorem ok_law(T:Txt K mg)(F:FunA K "law" "law" zc0 f fd):FnOk P w K mg base CX0 54 f fd ["_law_script"] (spD K [.b] g_law):=by
 obtain⟨C_Book,DC_Book⟩:=T.c_Book
 obtain⟨kC,hK⟩:=kC_ex K
 obtain⟨f_Book___init__,fd_Book___init__,D_Book___init__⟩:=T.d_Book___init__
 have G_Book___init__:FnOk P w K mg base CX0 1 f_Book___init__ fd_Book___init__ ["self"] (spM K zaj):=zdO T D_Book___init__.fn
 obtain⟨f__law_deck,fd__law_deck,D__law_deck⟩:=T.d__law_deck
 have G__law_deck:FnOk P w K mg base CX0 1 f__law_deck fd__law_deck ["_law_cells","_law_many"] (spD K [.b,.v] zbR):=zfH T (.of D__law_deck.fn)
 obtain⟨f__law_goes,fd__law_goes,D__law_goes⟩:=T.d__law_goes
 have G__law_goes:FnOk P w K mg base CX0 53 f__law_goes fd__law_goes ["_law_state","_law_k"] (spM K zaN):=zfv T (.of D__law_goes.fn)
 obtain⟨f__law_stands,fd__law_stands,D__law_stands⟩:=T.d__law_stands
 have G__law_stands:FnOk P w K mg base CX0 52 f__law_stands fd__law_stands ["_law_state"] (spD K [.v] (zaf kC)):=zcZ hK T (.of D__law_stands.fn)
 obtain⟨f__law_words,fd__law_words,D__law_words⟩:=T.d__law_words
 have G__law_words:FnOk P w K mg base CX0 3 f__law_words fd__law_words ["_law_deck_here","_law_most"] (spM K zay):=ze9 T (.of D__law_words.fn)
 refine zbi F sc_law F_law rfl (fun _ _ h=>h) fun cdv A outer s H E hr=>?_
 have hu:=zbP hr
 exact(ssc (sSetL' (i:=1) (by decide) sc_law.nd rfl (Or.inl rfl) (vcl G__law_deck D__law_deck hr (by rfl) zaW (zad (vsl l_list (vv 0) von (vos zbd)) (zad zbd za1))))
   (ssc (sXSet (i:=2) sc_law.nd rfl (Or.inl rfl) (xco 1 G__law_words D__law_words hr (by rfl) zaW (zgl (zeR zbd) xnil)))
   (ssc (sSetOb (i:=3) (by decide) sc_law.nd rfl (Or.inl rfl) (voL (zhw (voL (zhw (voE (vmake0 DC_Book D_Book___init__ G_Book___init__ hr (by rfl) zaW)) (zhw (voE vDS0) (zhw (voX (zeR (vv 2))) vosN)))) (zhw (voL (zhw (voE (vmake0 DC_Book D_Book___init__ G_Book___init__ hr (by rfl) zaW)) (zhw (voE vDS0) (zhw (voX (xco 1 G__law_words D__law_words hr (by rfl) zaW (zgl (zeR zbd) xnil))) vosN)))) (zhw (voL (zhw (voE (vmake0 DC_Book D_Book___init__ G_Book___init__ hr (by rfl) zaW)) (zhw (voE vDS0) (zhw (voX (zeR (vLstRev (vv 2) (by rfl) T.m_list zdc (by rfl) T.m_reversed zdm))) vosN)))) vosN)))))
   (ssc (sFor (iir1 (by rfl) T.m_range (zad zbd za1)) (gnm (i:=4) sc_law.nd rfl (Or.inl rfl))
   (ss1 (sWalk (gst:=zaf) hK (tcm ((o_lt)) (vv 4) (vcb zdF (by rfl) T.m_len zbp (zad (vix zbF (vv 5) zbd (fun _ _=>rfl)) za1)) (zbI _)) (fun t h=>(sfor PassesOwn.never rfl (il (wv 3)) (gn (i:=5) sc_law.nd rfl (Or.inl rfl)) (s1 (sif (tw (tor (tnot (tval (wcl G__law_stands D__law_stands hr (by rfl) zaW (wac (wv 5) zg4)))) (tor1 (tw (tand h (tand1 (tnot (tval (wcl G__law_goes D__law_goes hr (by rfl) zaW (wac (wv 5) (wac (wv 4) zg4))))))))))) (s1 (sret wbl)) s0)))))))
   (ss1 (zde vbl))))))
end
end N51

namespace N51
open PySem L2 L3
open CE in
theorem zb6(c:Option Int)(q:Int):za0 [oD c,.int q]=some (.val (oD (stp c q))):=by
 cases c with
 | none=>simp (disch:=omega) only[za0,zcs,stE,stN,oD,jqc,jqa,zcO,zbq,fIf,fOr,tOf,ex2,zab,List.replicate,jqk,eC,gIsN,isN,gEq,zfZ,zb4,toN,fNx,zcj,jqe,bOf,jqf,jra,sqO,zf0,stp,jqd,ite_self]
 | some i=>
  by_cases h:q=0
  ·simp (disch:=omega) only[za0,zcs,stE,stN,oD,h,jqc,jqa,zcO,zbq,fIf,fOr,tOf,ex2,zab,List.replicate,jqk,eC,gIsN,isN,gEq,zfZ,zb4,toN,fNx,zcj,jqe,bOf,jqf,jqy,jqr,jrb,jra,sqO,zf0,stp]
  ·simp (disch:=omega) only[za0,zcs,stE,stN,oD,jqc,jqa,zcO,zbq,fIf,fOr,tOf,ex2,zab,List.replicate,jqk,eC,gIsN,isN,gEq,zfZ,zb4,toN,fNx,zcj,jqe,bOf,jqf,h,jqz,jqr,jrb,sqO,pI0,iOf,zf0,stp]
open CE in
theorem zf3(δ:En)(cs:List (Option Int)):zc7 (fun d=>zc2 (cEn [] δ d)) (fun d=>zc9 (cEn [] δ d)) (cs.map oD)=some ((cs.filterMap id).map D.int):=by
 induction cs with
 | nil=>rfl
 | cons c cs ih=>
  rw[List.map_cons,zc7,ih]
  cases c with
  | none=>rfl
  | some i=>rfl
open CE in
theorem lowest_q(cs:List (Option Int))(d:D)(hd:qOf (.val d)=some (cs.map oD))(h:cs.length<=1000000):zcV [d]=some (.val (oD (lw cs))):=by
 have hE:eLC [] (qV (zab 0)) zc2 zc9 [some (.val d)]=some (.own ((cs.filterMap id).map D.int)):=
  zgw (by unfold qV;exact hd) (zf3 _ cs) (by rw[List.length_map];exact Nat.le_trans (List.length_filterMap_le _ _) h)
 simp (disch:=omega) only[zcV,zcs,stE,stN,jqc,jqa,ze3,zb4,ex2,List.replicate,jqk,eC,gMinD,asL,toN,hE,intsD_map]
 cases hm:minI (cs.filterMap id) with
 | none=>simp (disch:=omega) only[jqa,jqc,zf0,oD,lw,hm]
 | some m=>simp (disch:=omega) only[jqa,jqc,zf0,oD,lw,hm]
open CE in
theorem lowest_eq(cs:List (Option Int))(h:cs.length<=1000000):zcV [.lst (cs.map oD)]=some (.val (oD (lw cs))):=lowest_q cs _ rfl h
noncomputable def zgd(c:Nat->Nat->Option Int)(n a:Nat):D:=.tup ((List.range (n+1)).map fun j=>CE.oD (c a j))
noncomputable def _root_.CE.Pr.ds(p:CE.Pr):List D:=[.int p.put,.int p.left,.int p.exch,.int p.turn]
noncomputable def zbN(c:Nat->Nat->Option Int)(m j:Nat):D:=.tup ((List.range (m+1)).map fun i=>CE.oD (c i j))
theorem zdJ(f:Nat->D)(n:Nat){k:Int}(h0:0<=k)(h:k.toNat<=n):atI ((List.range (n+1)).map f) k=some (f k.toNat):=by
 refine zc8 h0 ?_
 rw[List.getElem?_map,List.getElem?_range (by lia)]
 rfl
theorem zdX(f:Nat->D)(n:Nat):atI ((List.range (n+1)).map f) (-1)=some (f n):=atI_m1 (by rw[List.range_succ,List.map_append];simp)
theorem atI_m2{α:Type}{xs:List α}{x:α}(h2:2<=xs.length)(h:xs[xs.length - 2]? = some x):atI xs (-2)=some x:=by
 unfold atI ixN
 rw[if_neg (by lia),if_pos (by lia)]
 show xs[(-2+(xs.length:Int)).toNat]? = _
 rw[show(-2+(xs.length:Int)).toNat=xs.length - 2 by lia]
 exact h
theorem rng_last2(f:Nat->D)(n:Nat):atI ((List.range (n+1+1)).map f) (-2)=some (f n):=by
 refine atI_m2 (by simp) ?_
 rw[List.length_map,List.length_range,show n+1+1 - 2=n by lia,List.getElem?_map,List.getElem?_range (by lia)]
 rfl
structure Win(c:Nat->Nat->Option Int)(fit:Nat->Nat->Bool)(P:List Str)(j:Nat)(cs:List D)(tx:List Nat):Prop where
 l:tx.length<=1000000
 c1:atI cs (-1)=some (zbN c P.length j)
 s1:∃ t,atI tx (-1)=some t/\∀ i,i<P.length->inS (mkS [t]) (P.getD i (mkS []))=fit i j
 two:(tx.length<2/\j=0) \/ (2<=tx.length/\0<j/\atI cs (-2)=some (zbN c P.length (j - 1))/\∃ t,atI tx (-2)=some t/\∀ i,i<P.length->inS (mkS [t]) (P.getD i (mkS []))=fit i (j - 1))
open CE in
theorem ahead_eq{c:Nat->Nat->Option Int}{fit:Nat->Nat->Bool}{P:List Str}{j:Nat}{cs:List D}{tx:List Nat}(W:Win c fit P j cs tx)(i:Nat)(hi:i<P.length) :
  zaH [.lst cs,.tup (P.map .str),.str (mkS tx),.int (1+(i:Int))]=some (.val (oD (tc fit c i j))):=by
 have hl:tx.length<=1000000:=W.l
 suffices hF:zaI [some (.bor cs),some (.val (.tup (P.map .str))),some (.val (.str (mkS tx))),some (.val (.int (1+(i:Int))))]=some (.rt (.val (oD (tc fit c i j))) [some (.bor cs),some (.val (.tup (P.map .str))),some (.val (.str (mkS tx))),some (.val (.int (1+(i:Int))))]) from
  (congrArg (fun o=>Option.bind o _) hF).trans rfl
 have t1:=orLt (X:=zab 3) (Y:=eCB zcY (zaa (zab 2) zag)) (c:=2) (δ:=[some (.bor cs),some (.val (.tup (P.map .str))),some (.val (.str (mkS tx))),some (.val (.int (1+(i:Int))))]) rfl (lenZ rfl (zcv tx) hl)
 by_cases h:0<i/\2<=tx.length
 ·rcases W.two with ⟨h2,_⟩ | ⟨_,hj,q2,t',e2,g2⟩
  ·lia
  ·obtain⟨t,e1,g1⟩:=W.s1
   have hi1:i - 1<P.length:=Nat.lt_of_le_of_lt (Nat.sub_le _ _) hi
   have ht:tc fit c i j=if (fit i (j - 1) && fit (i - 1) j)=true then c (i - 1) (j - 1) else none:=by unfold tc;rw[if_pos ⟨h.1,hj⟩]
   have k1:1+(i:Int) - 1=(i:Int):=by lia
   have k2:1+(i:Int) - 2=((i - 1:Nat):Int):=by lia
   have a3:=zdA D.str (mkS []) (xs:=P) (i:=(i:Int)) (Int.natCast_nonneg _) (by simpa using hi)
   have a4:=zdA D.str (mkS []) (xs:=P) (i:=((i - 1:Nat):Int)) (Int.natCast_nonneg _) (by simpa using hi1)
   have a6:atI ((List.range (P.length+1)).map fun k=>oD (c k (j - 1))) ((i - 1:Nat):Int)=some (oD (c (i - 1) (j - 1))):=by
    rw[zdJ _ _ (Int.natCast_nonneg _) (by simp;lia)];rfl
   have f1:=g2 i hi
   have f2:=g1 (i - 1) hi1
   have s1:=subI (E:=zab 3) (F:=eC (.int 1)) (δ:=[some (.bor cs),some (.val (.tup (P.map .str))),some (.val (.str (mkS tx))),some (.val (.int (1+(i:Int))))]) rfl rfl
   have s2:=subI (E:=zab 3) (F:=eC (.int 2)) (δ:=[some (.bor cs),some (.val (.tup (P.map .str))),some (.val (.str (mkS tx))),some (.val (.int (1+(i:Int))))]) rfl rfl
   rw[k1] at s1
   rw[k2] at s2
   have n1:=niSS (ixSS (E:=zab 2) (F:=ex1 zgj (eC (.int 2))) rfl hl rfl e2) (ixTT (E:=zab 1) rfl s1 a3)
   have n2:=niSS (ixSS (E:=zab 2) (F:=ex1 zgj (eC (.int 1))) rfl hl rfl e1) (ixTT (E:=zab 1) rfl s2 a4)
   have t2:=orB n1 n2
   rw[Int.toNat_natCast,Int.toNat_natCast,f1,f2,<- Bool.not_and] at t2
   rw[decide_eq_false (by lia)] at t1
   refine(show zaI _=_ from zbB (fIfF t1)).trans ?_
   rw[ht]
   cases v:(fit i (j - 1) && fit (i - 1) j) with
   | false=>rw[v] at t2;exact fSeqR ((fIfT t2).trans (zeO rfl))
   | true=>rw[v] at t2;exact(zbB (fIfF t2)).trans (zeO (ixTT (ixLB rfl rfl q2) s2 a6))
 ·have ht:tc fit c i j=none:=by
   unfold tc
   rw[if_neg]
   intro q
   rcases W.two with ⟨h2,hj⟩ | ⟨h2,_⟩
   ·lia
   ·exact h ⟨q.1,h2⟩
  rw[decide_eq_true (by lia)] at t1
  rw[ht]
  exact show zaI _=_ from fSeqR ((fIfT t1).trans (zeO rfl))
open CE in
theorem zgk(P:List Str)(p:Pr)(free:Bool)(fit:Nat->Nat->Bool)(k:Nat)(hk:k<P.length)(hP:P.length<=100000) :
  zbm [some (.val (.tup (P.map .str))),some (.bt p.ds),some (.own ((List.range (k+1)).map fun i=>oD (cel fit p free i 0))),some (.val (.int (1+(k:Int))))] =
  some (.nx [some (.val (.tup (P.map .str))),some (.bt p.ds),some (.own ((List.range (k+1+1)).map fun i=>oD (cel fit p free i 0))),some (.val (.int (1+(k:Int))))]):=by
 have hl:(((List.range (k+1)).map fun i=>oD (cel fit p free i 0))).length<1000000:=by simp;lia
 have hx:atI ((List.range (k+1)).map fun i=>oD (cel fit p free i 0)) (1+(k:Int) - 1)=some (oD (cel fit p free k 0)):=by
  rw[zdJ _ _ (by lia) (by lia),show(1+(k:Int) - 1).toNat=k by lia]
 have h0:atI [D.int p.put,D.int p.left,D.int p.exch,D.int p.turn] 1=some (.int p.left):=rfl
 have e:(List.range (k+1+1)).map (fun i=>oD (cel fit p free i 0))=(List.range (k+1)).map (fun i=>oD (cel fit p free i 0)) ++ [oD (cel fit p free (k+1) 0)]:=by
  rw[List.range_succ (n:=k+1),List.map_append];rfl
 rw[e,zfq]
 simp (disch:=omega) only[zbm,zhy,Pr.ds,jqf,jqe,zaV,zaa,ex2,zab,eC,zht,pI0,iOf,jqa,jqc,zb5,asL,hx,zhb,btOf,h0,zag,zce,zem,asV,zb6,zbD,jqh,jqg,zai]
open CE in
theorem firstc_eq(P:List Str)(p:Pr)(free:Bool)(fit:Nat->Nat->Bool)(hP:P.length<=100000) :
  zbs [.tup (P.map .str),.tup p.ds]=some (.val (zbN (cel fit p free) P.length 0)):=by
 obtain⟨δ',w1,kv,rfl⟩:=zbE (tg:=gNm 3) (f:=zbm) (fun k δ=>∃ kv,δ=[some (.val (.tup (P.map .str))),some (.bt p.ds),some (.own ((List.range (k+1)).map fun i=>oD (cel fit p free i 0))),kv])
  ((List.range P.length).map fun(k:Nat)=>D.int (1+(k:Int))) 0 _ (fun k d δ hd hδ=>by
   obtain⟨kv,rfl⟩:=hδ
   rw[Nat.zero_add]
   rw[List.getElem?_map] at hd
   have hk:k<P.length:=by
    cases q:(List.range P.length)[k]? with
    | none=>rw[q] at hd;cases hd
    | some z=>have:=(List.getElem?_eq_some_iff.mp q).1;simpa using this
   rw[List.getElem?_range hk] at hd
   cases hd
   exact⟨_,_,rfl,.inl (zgk P p free fit k hk hP),_,rfl⟩) ⟨none,rfl⟩
 have hb1:b62 1:=zck (by decide)
 have hb2:b62 ((P.length:Int)+1):=zck (by lia)
 have hn:((P.length:Int)+1 - 1).toNat=P.length:=by lia
 have hl:P.length<=100000:=hP
 simp only[List.length_map,List.length_range,Nat.zero_add] at w1
 simp only[List.range_succ (n:=0),List.range_zero,List.nil_append,List.map_cons,List.map_nil,zd3,oD_s,oD_n] at w1
 simp (disch:=omega) only[zbs,zcs,stE,stN,jqc,jqa,zcn,zbq,zcI,zdb,zaa,eC,zag,jqp,jqq,Nat.reduceLeDiff,zfa,asV,jra,List.replicate,toN,zcj,sqO,zfF,iR2,ex2,eCB,zab,pI0,iOf,jqi,jqj,jqh,jqg,jqe,zbZ,ze1,List.length_map,zcX,jre,hn,zai,w1,zb4,jqf,zd6,asL,zf0,zbN]
open CE in
theorem zfl(P:List Str)(p:Pr)(free:Bool)(fit:Nat->Nat->Bool)(cs:List D)(tx:List Nat)(j k:Nat)(W:Win (cel fit p free) fit P j cs tx)(f8:Option Ent)(hk:k<P.length)(hP:P.length<=100000) :
  zbb [some (.bor cs),some (.val (.tup (P.map .str))),some (.val (.str (mkS tx))),some (.bt p.ds),some (.val (.bl free)),some (.val (zbN (cel fit p free) P.length j)),some (.own ((List.range (k+1)).map fun i=>oD (cel fit p free i (j+1)))),some (.val (.int (1+(k:Int)))),f8] =
  some (.nx [some (.bor cs),some (.val (.tup (P.map .str))),some (.val (.str (mkS tx))),some (.bt p.ds),some (.val (.bl free)),some (.val (zbN (cel fit p free) P.length j)),some (.own ((List.range (k+1+1)).map fun i=>oD (cel fit p free i (j+1)))),some (.val (.int (1+(k:Int)))),some (.val (.bl (fit k j)))]):=by
 have hl:(((List.range (k+1)).map fun i=>oD (cel fit p free i (j+1)))).length<1000000:=by simp;lia
 have hx:atI ((List.range (k+1)).map fun i=>oD (cel fit p free i (j+1))) (1+(k:Int) - 1)=some (oD (cel fit p free k (j+1))):=by
  rw[zdJ _ _ (by lia) (by lia),show(1+(k:Int) - 1).toNat=k by lia]
 obtain⟨t,a1,g1⟩:=W.s1
 have f1:=g1 k hk
 have k1:1+(k:Int) - 1=(k:Int):=by lia
 have a2:=zdA D.str (mkS []) (xs:=P) (i:=(k:Int)) (Int.natCast_nonneg _) (by simpa using hk)
 have a3:atI ((List.range (P.length+1)).map fun i=>oD (cel fit p free i j)) (k:Int)=some (oD (cel fit p free k j)):=by
  rw[zdJ _ _ (Int.natCast_nonneg _) (by simp;lia)];rfl
 have a4:atI ((List.range (P.length+1)).map fun i=>oD (cel fit p free i j)) (1+(k:Int))=some (oD (cel fit p free (k+1) j)):=by
  rw[zdJ _ _ (by lia) (by lia),show(1+(k:Int)).toNat=k+1 by lia]
 rw[k1] at hx
 have e:(List.range (k+1+1)).map (fun i=>oD (cel fit p free i (j+1)))=(List.range (k+1)).map (fun i=>oD (cel fit p free i (j+1))) ++ [oD (cel fit p free (k+1) (j+1))]:=by
  rw[List.range_succ (n:=k+1),List.map_append];rfl
 rw[e,zdd]
 generalize (List.range (k+1)).map (fun i=>oD (cel fit p free i (j+1)))=ds at *
 have sA:=subI (E:=zab 7) (F:=eC (.int 1)) (δ:=[some (.bor cs),some (.val (.tup (P.map .str))),some (.val (.str (mkS tx))),some (.bt p.ds),some (.val (.bl free)),some (.val (zbN (cel fit p free) P.length j)),some (.own ds),some (.val (.int (1+(k:Int)))),f8]) rfl rfl
 have sB:=subI (E:=zab 7) (F:=eC (.int 1)) (δ:=[some (.bor cs),some (.val (.tup (P.map .str))),some (.val (.str (mkS tx))),some (.bt p.ds),some (.val (.bl free)),some (.val (zbN (cel fit p free) P.length j)),some (.own ds),some (.val (.int (1+(k:Int)))),some (.val (.bl (fit k j)))]) rfl rfl
 rw[k1] at sA sB
 have v8:=inSS (ixSS (E:=zab 2) (F:=ex1 zgj (eC (.int 1))) rfl W.l rfl a1) (ixTT (E:=zab 1) rfl sA a2)
 rw[Int.toNat_natCast,f1] at v8
 have x1:=ixTT (E:=zab 5) rfl sB a3
 have x4:=ixTT (E:=zab 5) (F:=zab 7) (δ:=[some (.bor cs),some (.val (.tup (P.map .str))),some (.val (.str (mkS tx))),some (.bt p.ds),some (.val (.bl free)),some (.val (zbN (cel fit p free) P.length j)),some (.own ds),some (.val (.int (1+(k:Int)))),some (.val (.bl (fit k j)))]) rfl rfl a4
 have xL:=ixLW (E:=zab 6) rfl sB hx
 have y1:=eIfI (A:=zab 8) rfl x1 ((zen x1 (Y:=ex2 zhb (zab 3) (eC (.int 2))) (b:=.int p.exch) rfl).trans (zb6 _ _))
 have y2:=(zen x4 (Y:=ex2 zhb (zab 3) (eC (.int 0))) (b:=.int p.put) rfl).trans (zb6 _ _)
 have y3:=(zen xL (Y:=ex2 zhb (zab 3) (eC (.int 1))) (b:=.int p.left) rfl).trans (zb6 _ _)
 have z4:zaV [.b,.v,.v,.v] zaH (zaa (zab 0) (zaa (zab 1) (zaa (zab 2) (zaa (zab 7) zag)))) [some (.bor cs),some (.val (.tup (P.map .str))),some (.val (.str (mkS tx))),some (.bt p.ds),some (.val (.bl free)),some (.val (zbN (cel fit p free) P.length j)),some (.own ds),some (.val (.int (1+(k:Int)))),some (.val (.bl (fit k j)))]=some (.val (oD (tc fit (cel fit p free) k j))):=ahead_eq W k hk
 have y4:=(zen z4 (Y:=ex2 zhb (zab 3) (eC (.int 3))) (b:=.int p.turn) rfl).trans (zb6 _ _)
 rw[show(if fit k j=true then oD (cel fit p free k j) else oD (stp (cel fit p free k j) p.exch))=oD (if fit k j=true then cel fit p free k j else stp (cel fit p free k j) p.exch) by cases fit k j <;> rfl] at y1
 exact(show zbb _=_ from zdZ v8).trans (fAppI rfl ((low4 y1 y2 y3 y4).trans (lowest_eq [_,_,_,_] (show 4<=1000000 by decide))) hl)
open CE in
theorem zhc(P:List Str)(p:Pr)(free:Bool)(fit:Nat->Nat->Bool)(cs:List D)(tx:List Nat)(j:Nat)(W:Win (cel fit p free) fit P j cs tx)(hP:P.length<=100000) :
  zbu [.lst cs,.tup (P.map .str),.str (mkS tx),.tup p.ds,.bl free]=some (.val (zbN (cel fit p free) P.length (j+1))):=by
 obtain⟨δ',w1,kv,fv,rfl⟩:=zbE (tg:=gNm 7) (f:=zbb) (fun k δ=>∃ kv fv,δ=[some (.bor cs),some (.val (.tup (P.map .str))),some (.val (.str (mkS tx))),some (.bt p.ds),some (.val (.bl free)),some (.val (zbN (cel fit p free) P.length j)),some (.own ((List.range (k+1)).map fun i=>oD (cel fit p free i (j+1)))),kv,fv])
  ((List.range P.length).map fun(k:Nat)=>D.int (1+(k:Int))) 0 _ (fun k d δ hd hδ=>by
   obtain⟨kv,fv,rfl⟩:=hδ
   rw[Nat.zero_add]
   rw[List.getElem?_map] at hd
   have hk:k<P.length:=by
    cases q:(List.range P.length)[k]? with
    | none=>rw[q] at hd;cases hd
    | some z=>have:=(List.getElem?_eq_some_iff.mp q).1;simpa using this
   rw[List.getElem?_range hk] at hd
   cases hd
   exact⟨_,_,rfl,.inl (zfl P p free fit cs tx j k W _ hk hP),_,_,rfl⟩) ⟨none,none,rfl⟩
 have hb1:b62 1:=zck (by decide)
 have hb2:b62 ((P.length:Int)+1):=zck (by lia)
 have hn:((P.length:Int)+1 - 1).toNat=P.length:=by lia
 have hl:P.length<=100000:=hP
 have c1:=W.c1
 have a2:atI ((List.range (P.length+1)).map fun i=>oD (cel fit p free i j)) 0=some (oD (cel fit p free 0 j)):=by
  rw[zdJ _ _ (by lia) (by simp)];rfl
 simp only[List.length_map,List.length_range,Nat.zero_add] at w1
 simp only[List.range_succ (n:=0),List.range_zero,List.nil_append,List.map_cons,List.map_nil,zeC] at w1
 suffices hF:∃ δ,zbv [some (.bor cs),some (.val (.tup (P.map .str))),some (.val (.str (mkS tx))),some (.bt p.ds),some (.val (.bl free)),none,none,none,none]=some (.rt (.val (zbN (cel fit p free) P.length (j+1))) δ) from
  hF.elim fun _ h=>(congrArg (fun o=>Option.bind o _) h).trans rfl
 have x0:=ixLB (E:=zab 0) (F:=ex1 zgj (eC (.int 1))) (δ:=[some (.bor cs),some (.val (.tup (P.map .str))),some (.val (.str (mkS tx))),some (.bt p.ds),some (.val (.bl free)),none,none,none,none]) rfl rfl c1
 have y0:=eIfI (A:=zab 4) (B:=eC (.int 0)) (δ:=[some (.bor cs),some (.val (.tup (P.map .str))),some (.val (.str (mkS tx))),some (.bt p.ds),some (.val (.bl free)),some (.val (zbN (cel fit p free) P.length j)),none,none,none]) rfl rfl ((zen (ixTT (E:=zab 5) (F:=eC (.int 0)) rfl rfl a2) (Y:=ex2 zhb (zab 3) (eC (.int 0))) (b:=.int p.put) rfl).trans (zb6 _ _))
 have h0:oD (if free=true then some 0 else stp (cel fit p free 0 j) p.put)=(if free=true then D.int 0 else oD (stp (cel fit p free 0 j) p.put)):=by cases free <;> rfl
 rw[h0] at w1
 have z0:=eLst1 y0
 generalize (if free=true then D.int 0 else oD (stp (cel fit p free 0 j) p.put))=v0 at *
 have ir:iR2 (zaa (eC (.int 1)) (zaa (ex2 zcj (eCB zbZ (zaa (zab 1) zag)) (eC (.int 1))) zag)) [some (.bor cs),some (.val (.tup (P.map .str))),some (.val (.str (mkS tx))),some (.bt p.ds),some (.val (.bl free)),some (.val (zbN (cel fit p free) P.length j)),some (.own [v0]),none,none]=some ((List.range P.length).map fun(k:Nat)=>D.int (1+(k:Int))):=by
  simp only[iR2,zaa,eC,ex2,eCB,zab,jqf,jqe,zag,jqc,jqa,zbZ,ze1,List.length_map,zcj,pI0,iOf,hb2,jre,Int.reduceNeg,Int.reduceLT,and_self,zcX,hn,zai]
 exact⟨_,(show zbv _=_ from zdZ x0).trans ((zbB (zf8 z0)).trans ((forN ir w1).trans rfl))⟩
theorem getD_in{T:List Nat}{k:Nat}(h:k<T.length):T[k]? = some (T.getD k 0):=by
 rw[List.getElem?_eq_getElem h,List.getD_eq_getElem?_getD,List.getElem?_eq_getElem h]
 rfl
open CE in
theorem win_take(P:List Str)(T:List Nat)(c:Nat->Nat->Option Int)(k:Nat)(hk:k<T.length)(hT:T.length<=100000):Win c (zdg P T) P k ((List.range (k+1)).map fun j=>zbN c P.length j) (T.take (k+1)):=by
 have hl:(T.take (k+1)).length=k+1:=by rw[List.length_take];lia
 refine⟨by lia,zdX _ _,⟨T.getD k 0,?_,fun i _=>rfl⟩,?_⟩
 ·refine atI_m1 ?_
  rw[List.getLast?_eq_getElem?,hl,List.getElem?_take_of_lt (by lia),show k+1 - 1=k by lia]
  exact getD_in hk
 ·by_cases h:k=0
  ·exact .inl ⟨by lia,h⟩
  ·obtain⟨n,rfl⟩:∃ n,k=n+1:=⟨k - 1,by lia⟩
   refine .inr ⟨by lia,by lia,rng_last2 _ n,T.getD n 0,?_,fun i _=>rfl⟩
   refine atI_m2 (by lia) ?_
   rw[hl,List.getElem?_take_of_lt (by lia),show n+1+1 - 2=n by lia]
   exact getD_in (by lia)
open CE in
theorem across_eq(c:Nat->Nat->Option Int)(m n i:Nat)(hi:i<=m)(hn:n<=100000):zbW [.lst ((List.range (n+1)).map fun j=>zbN c m j),.int (i:Int)]=some (.val (zgd c n i)):=by
 have ec:eLC [1] (iB 0) zek zb8 [some (.bor ((List.range (n+1)).map fun j=>zbN c m j)),some (.val (.int (i:Int)))]=some (.own ((List.range (n+1)).map fun j=>oD (c i j))):=by
  refine zgw (ds:=(List.range (n+1)).map fun j=>zbN c m j) rfl ?_ (by simp;lia)
  refine zfE _ _ (by simp) (fun d _=>rfl) fun k d hd=>?_
  rw[List.getElem?_map] at hd
  obtain⟨j,e1,e2⟩:=Option.map_eq_some_iff.mp hd
  subst e2
  have ha:atI ((List.range (m+1)).map fun i=>oD (c i j)) (i:Int)=some (oD (c i j)):=by
   rw[zdJ _ _ (by lia) (by lia)];rfl
  refine⟨oD (c i j),?_,by rw[List.getElem?_map,e1];rfl⟩
  simp only[zb8,ex2,zab,cEn,zbN,jqn,jqf,jqe,jqx,jqa,capt,jqo,zf1,ze1,iOf,ha,jqc,asV]
 have hl:n<=100000:=hn
 simp (disch:=omega) only[zbW,zcs,stE,stN,jqc,jqa,zcJ,zb4,eCB,zaa,List.replicate,jqk,zag,toN,ec,zd6,asL,zf0,zgd]
open CE in
theorem cells_eq(P:List Str)(T:List Nat)(p:Pr)(free:Bool)(hP:P.length<=100000)(hT:T.length<=100000) :
  zcp [.tup (P.map .str),.str (mkS T),.tup p.ds,.bl free]=some (.val (.tup ((List.range (P.length+1)).map fun i=>zgd (cel (zdg P T) p free) T.length i))):=by
 obtain⟨δ',w1,kv,rfl⟩:=zbE (tg:=gNm 5) (f:=zcw) (fun k δ=>∃ kv,δ=[some (.val (.tup (P.map .str))),some (.val (.str (mkS T))),some (.bt p.ds),some (.val (.bl free)),some (.own ((List.range (k+1)).map fun j=>zbN (cel (zdg P T) p free) P.length j)),kv])
  ((List.range T.length).map fun(k:Nat)=>D.int (1+(k:Int))) 0 _ (fun k d δ hd hδ=>by
   obtain⟨kv,rfl⟩:=hδ
   rw[Nat.zero_add]
   rw[List.getElem?_map] at hd
   have hk:k<T.length:=by
    cases q:(List.range T.length)[k]? with
    | none=>rw[q] at hd;cases hd
    | some z=>have:=(List.getElem?_eq_some_iff.mp q).1;simpa using this
   rw[List.getElem?_range hk] at hd
   cases hd
   have fe:=zhc P p free (zdg P T) ((List.range (k+1)).map fun j=>zbN (cel (zdg P T) p free) P.length j) (T.take (k+1)) k (win_take P T _ k hk hT) hP
   have hl:((List.range (k+1)).map fun j=>zbN (cel (zdg P T) p free) P.length j).length<1000000:=by simp;lia
   have e:(List.range (k+1+1)).map (fun j=>zbN (cel (zdg P T) p free) P.length j)=(List.range (k+1)).map (fun j=>zbN (cel (zdg P T) p free) P.length j) ++ [zbN (cel (zdg P T) p free) P.length (k+1)]:=by
    rw[List.range_succ (n:=k+1),List.map_append];rfl
   have hc:zhv T none (some (1+(k:Int)))=T.take (k+1):=by rw[zgA _ (by lia),show(1+(k:Int)).toNat=k+1 by lia]
   have hm:T.length<=1000000:=by lia
   refine⟨_,_,rfl,.inl ?_,some (.val (.int (1+(k:Int)))),rfl⟩
   rw[e]
   simp (disch:=omega) only[zcw,zhy,jqh,jqg,jqf,jqe,zaV,zaa,zab,eSl,oNo,oSo,jqa,iOf,jqc,gSlS,sOf,zcv,zbD,zf2,hc,zai,zag,zce,zem,asL,asV,asT,fe]) ⟨none,rfl⟩
 have hb1:b62 1:=zck (by decide)
 have hb2:b62 ((T.length:Int)+1):=zck (by lia)
 have hb3:b62 ((P.length:Int)+1):=zck (by lia)
 have hn:((T.length:Int)+1 - 1).toNat=T.length:=by lia
 have hn3:((P.length:Int)+1).toNat=P.length+1:=by lia
 have f1:=firstc_eq P p free (zdg P T) hP
 have hm:T.length<=1000000:=by lia
 have hm2:P.length<=100000:=hP
 simp only[List.length_map,List.length_range,Nat.zero_add] at w1
 simp only[List.range_succ (n:=0),List.range_zero,List.nil_append,List.map_cons,List.map_nil] at w1
 have ec:eLC [4] (iR1 (zaa (ex2 zcj (eCB zbZ (zaa (zab 0) zag)) (eC (.int 1))) zag)) zek zcz [some (.val (.tup (P.map .str))),some (.val (.str (mkS T))),some (.bt p.ds),some (.val (.bl free)),some (.own ((List.range (T.length+1)).map fun j=>zbN (cel (zdg P T) p free) P.length j)),kv] =
   some (.own ((List.range (P.length+1)).map fun i=>zgd (cel (zdg P T) p free) T.length i)):=by
  refine zgw (ds:=(List.range (P.length+1)).map fun(i:Nat)=>D.int (0+(i:Int))) ?_ ?_ (by simp;lia)
  ·simp (disch:=omega) only[iR1,zaa,ex2,eCB,zab,jqe,zag,jqc,jqa,zbZ,ze1,List.length_map,eC,zcj,pI0,iOf,zcX,hn3,zai]
  ·refine zfE _ _ (by simp) (fun d _=>rfl) fun k d hd=>?_
   rw[List.getElem?_map] at hd
   obtain⟨i,e1,e2⟩:=Option.map_eq_some_iff.mp hd
   subst e2
   have hi:i<=P.length:=by
    have:=List.mem_range.mp (List.mem_of_getElem? e1)
    lia
   have ac:=across_eq (cel (zdg P T) p free) P.length T.length i hi hT
   refine⟨zgd (cel (zdg P T) p free) T.length i,?_,by rw[List.getElem?_map,e1];rfl⟩
   rw[show(0+(i:Int))=(i:Int) by lia]
   simp only[zcz,zaV,zaa,zab,cEn,jqn,jqf,jqe,jqx,jqa,capt,jqo,zag,jqc,zce,zem,asL,asV,ac]
 simp only[zcj] at ec
 simp (disch:=omega) only[zcp,zcs,stE,stN,jqc,jqa,zdx,zbq,zcI,zdb,zaa,zaV,zab,List.replicate,zag,toN,zcj,jqi,jqj,jqe,jqf,zce,zem,asV,asT,f1,jqp,jqq,Nat.reduceLeDiff,zfa,jra,jqh,jqg,sqO,zfF,iR2,eC,ex2,eCB,zcY,sOf,zcv,zbD,zai,pI0,iOf,zcX,jre,hn,w1,zb4]
 simp (disch:=omega) only[ec,jqa,zd6,asL,jqc,zf0]
open CE in
theorem price_eq(P:List Str)(T:List Nat)(p:Pr)(hP:P.length<=100000)(hT:T.length<=100000) :
  zbh [.tup (P.map .str),.str (mkS T),.tup p.ds]=some (.val (oD (cel (zdg P T) p false P.length T.length))):=by
 have c:=cells_eq P T p false hP hT
 have l1:=zdX (fun i=>zgd (cel (zdg P T) p false) T.length i) P.length
 have l2:=zdX (fun j=>oD (cel (zdg P T) p false P.length j)) T.length
 simp (disch:=omega) only[zbh,zcs,stE,stN,jqc,jqa,zca,zb4,ex2,eCallD,zaa,zab,List.replicate,jqk,zag,ex1,eC,zgj,iOf,Int.reduceNeg,zf1,ze1,toN,jqe,jqf,jqi,jqj,zce,zem,asV,asT,c,l1]
 simp (disch:=omega) only[zgd,Int.reduceNeg,jqa,l2,jqc,zf0]
open CE in
theorem zeS(w:List Nat)(h:w.length<=1000000):zbV [.str (mkS w)]=some (.val (.tup ((wP w).map .str))):=by
 have hl:(mkS w).length<=1000000:=by rw[zcv];exact h
 simp (disch:=omega) only[zbV,zcs,stE,stN,jqc,jqa,zcM,zb4,eCB,zaa,zab,List.replicate,jqk,zag,toN,jqe,gTupS,sOf,zbD,sgn_mkS,zai,zf0,wP]
noncomputable def pp:CE.Pr:=⟨1,1,1,0⟩
theorem pp_ok:pp.Ok:=⟨by decide,by decide,by decide,by decide⟩
open CE in
theorem cel_all(fit:Nat->Nat->Bool):∀ (n i j:Nat),i+j<=n->∃ m,cel fit pp false i j=some m:=by
 intro n
 induction n with
 | zero=>
  intro i j h
  obtain⟨rfl,rfl⟩:i=0/\j=0:=by lia
  exact⟨0,zd3 ..⟩
 | succ n ih=>
  intro i j h
  match i,j with
  | 0,0=>exact⟨0,zd3 ..⟩
  | 0,j+1=>
   obtain⟨m,hm⟩:=ih 0 j (by lia)
   exact⟨m+1,by rw[zeC,hm];rfl⟩
  | i+1,0=>
   obtain⟨m,hm⟩:=ih i 0 (by lia)
   exact⟨m+1,by rw[zfq,hm];rfl⟩
  | i+1,j+1=>
   obtain⟨m,hm⟩:=ih (i+1) j (by lia)
   rw[zdd]
   obtain⟨m',h1,_⟩:=zf5 (cs:=[if fit i j=true then cel fit pp false i j else stp (cel fit pp false i j) pp.exch,stp (cel fit pp false (i+1) j) pp.put,stp (cel fit pp false i (j+1)) pp.left,stp (tc fit (cel fit pp false) i j) pp.turn]) (c:=m+1) (by rw[hm];exact List.mem_cons_of_mem _ List.mem_cons_self)
   exact⟨m',h1⟩
noncomputable def ed(w t:List Nat):Int:=(_root_.CE.wd pp w t).getD 0
open CE in
noncomputable def ev(w t:List Nat)(i j:Nat):Int:=(cel (zdg (wP w) t) pp false i j).getD 0
open CE in
theorem zdj(w t:List Nat)(i j:Nat):cel (zdg (wP w) t) pp false i j=some (ev w t i j):=by
 obtain⟨m,h⟩:=cel_all (zdg (wP w) t) (i+j) i j (Nat.le_refl _)
 unfold ev
 rw[h]
 rfl
open CE in
theorem wd_ed(w t:List Nat):wd pp w t=some (ed w t):=by
 have:=zdj w t w.length t.length
 unfold ed wd at *
 rw[this]
 rfl
theorem ed_self(w:List Nat):ed w w=0:=Option.some.inj ((wd_ed w w).symm.trans (CE.wd_self pp_ok w))
theorem ed_zero{w t:List Nat}(h:ed w t=0):w=t:=CE.wd_zero pp_ok (by rw[wd_ed,h])
theorem ed_nonneg(w t:List Nat):0<=ed w t:=CE.wd_nonneg pp_ok (wd_ed w t)
open CE in
theorem slips_eq(w t:List Nat)(hw:w.length<=1000)(ht:t.length<=1000):zak [.str (mkS w),.str (mkS t)]=some (.val (.int (ed w t))):=by
 have h1:=zeS w (by lia)
 have h2:=price_eq (wP w) t pp (by rw[wP_len];lia) (by lia)
 rw[wP_len,show cel (zdg (wP w) t) pp false w.length t.length=some (ed w t) from wd_ed w t,oD_s] at h2
 have h3:pp.ds=[D.int 1,D.int 1,D.int 1,D.int 0]:=rfl
 rw[h3] at h2
 simp only[zak,zcs,stE,stN,jqc,jqa,zb7,zb4,zaV,zaa,zab,List.replicate,jqk,zag,eB,jqn,jqo,toN,jqe,zce,zem,asV,h1,jqf,asT,h2,zf0]
open CE in
theorem ev_00(w t:List Nat):ev w t 0 0=0:=by unfold ev;rw[zd3];rfl
open CE in
theorem ev_0s(w t:List Nat)(j:Nat):ev w t 0 (j+1)=ev w t 0 j+1:=by
 have h:=zdj w t 0 (j+1)
 rw[zeC,zdj] at h
 exact(Option.some.inj h).symm
open CE in
theorem ev_s0(w t:List Nat)(i:Nat):ev w t (i+1) 0=ev w t i 0+1:=by
 have h:=zdj w t (i+1) 0
 rw[zfq,zdj] at h
 exact(Option.some.inj h).symm
theorem ev_0(w t:List Nat)(j:Nat):ev w t 0 j=j:=by
 induction j with
 | zero=>exact ev_00 w t
 | succ j ih=>rw[ev_0s,ih];lia
theorem ev_i0(w t:List Nat)(i:Nat):ev w t i 0=i:=by
 induction i with
 | zero=>exact ev_00 w t
 | succ i ih=>rw[ev_s0,ih];lia
open CE in
theorem ev_ss(w t:List Nat)(i j:Nat)(hi:i<w.length)(hj:j<t.length):ev w t (i+1) (j+1)=min (min (ev w t i j+(if w[i]=t[j] then 0 else 1)) (ev w t i (j+1)+1)) (ev w t (i+1) j+1):=by
 have h:=zdj w t (i+1) (j+1)
 rw[zdd,fit_w hi hj,zdj,zdj,zdj] at h
 have e1:∀ c:Int,stp (some c) pp.exch=some (c+1):=fun c=>rfl
 have e2:∀ c:Int,stp (some c) pp.put=some (c+1):=fun c=>rfl
 have e3:∀ c:Int,stp (some c) pp.left=some (c+1):=fun c=>rfl
 have e4:stp (tc (zdg (wP w) t) (cel (zdg (wP w) t) pp false) i j) pp.turn=none:=rfl
 rw[e1,e2,e3,e4] at h
 generalize ev w t (i+1) (j+1)=z at *
 generalize ev w t (i+1) j=a at *
 generalize ev w t i (j+1)=b at *
 generalize ev w t i j=c at *
 have h1:=lw_mem h
 have h2:∀ x,some x ∈ [if decide (t[j]=w[i])=true then some c else some (c+1),some (a+1),some (b+1),none]->z<=x:=fun x hx=>by
  obtain⟨m,q1,q2⟩:=zf5 hx
  rw[h] at q1
  cases q1
  exact q2
 by_cases e:w[i]=t[j]
 ·rw[decide_eq_true e.symm,if_pos rfl] at h1 h2
  rw[if_pos e]
  have:=h2 c (by simp)
  have:=h2 (a+1) (by simp)
  have:=h2 (b+1) (by simp)
  simp only[List.mem_cons,Option.some.injEq,reduceCtorEq,List.not_mem_nil,or_false] at h1
  lia
 ·rw[decide_eq_false fun z=>e z.symm,if_neg Bool.false_ne_true] at h1 h2
  rw[if_neg e]
  have:=h2 (c+1) (by simp)
  have:=h2 (a+1) (by simp)
  have:=h2 (b+1) (by simp)
  simp only[List.mem_cons,Option.some.injEq,reduceCtorEq,List.not_mem_nil,or_false] at h1
  lia
theorem mkS1{a b:Nat}:mkS [a]=mkS [b] ↔ a=b:=⟨fun h=>by have:=ze4 h;simpa using this,fun h=>by rw[h]⟩
noncomputable def rwE(a b:List Nat)(i n:Nat):List D:=(List.range (n+1)).map fun j=>.int (ev a b i j)
theorem rwE_len(a b:List Nat)(i n:Nat):(rwE a b i n).length=n+1:=by unfold rwE;simp
theorem rwE_at(a b:List Nat)(i n:Nat){k:Int}(h0:0<=k)(h:k.toNat<=n):atI (rwE a b i n) k=some (.int (ev a b i k.toNat)):=zdJ (fun j=>.int (ev a b i j)) n h0 h
theorem rwE_s(a b:List Nat)(i n:Nat):rwE a b i (n+1)=rwE a b i n ++ [.int (ev a b i (n+1))]:=by unfold rwE;rw[List.range_succ,List.map_append];rfl
noncomputable def zcS(f:Bool)(ds:List D):Ent:=if f=true then .own ds else .val (.lst ds)
theorem ix2{f:Bool}{ds:List D}{F:FE}{c0 c1 c3 c4 c5 c6:Option Ent}{k:Int}{v:D}(h2:F [c0,c1,some (zcS f ds),c3,c4,c5,c6]=some (.val (.int k)))(h:atI ds k=some v):ex2 zb5 (zab 2) F [c0,c1,some (zcS f ds),c3,c4,c5,c6]=some (.val v):=by
 cases f
 ·unfold ex2;rw[h2];simp only[zab,zcS,jqr,jrb,jqf,jqe,zb5,asL,iOf,jqa,h,jqc]
 ·unfold ex2;rw[h2];simp only[zab,zcS,jra,jqf,jqe,zb5,asL,iOf,jqa,h,jqc]
theorem min3{X Y Z:FE}{δ:En}{a b c:Int}(h1:X δ=some (.val (.int a)))(h2:Y δ=some (.val (.int b)))(h3:Z δ=some (.val (.int c))):eCB gMin3 (zaa X (zaa Y (zaa Z zag))) δ=some (.val (.int (min (min a b) c))):=by
 unfold eCB zaa zag;rw[h1];simp only[Option.bind_some];rw[h2];simp only[Option.bind_some];rw[h3];rfl
theorem neI{X Y:FE}{δ:En}{a b:Nat}(h1:X δ=some (.val (.str (mkS [a]))))(h2:Y δ=some (.val (.str (mkS [b])))):eCB zcG (zaa (ex2 gNe X Y) zag) δ=some (.val (.int (if a=b then 0 else 1))):=by
 by_cases e:a=b
 ·have e':mkS [a]=mkS [b]:=mkS1.mpr e
  simp only[eCB,zaa,ex2,h1,e,h2,gNe,zfZ,jqa,jqy,jqc,jqt,zag,zcG,jqr,jrb,jra]
 ·have e':¬ mkS [a]=mkS [b]:=fun z=>e (mkS1.mp z)
  simp only[eCB,zaa,ex2,h1,h2,gNe,zfZ,jqa,e',jqz,jqc,jqu,zag,zcG,jra,e,jrb]
theorem lp_turn(a b:List Nat)(i j:Nat)(f:Bool)(hi:i<a.length)(hj:j<b.length)(ha:a.length<=1000)(hb:b.length<=1000)(x6:Option Ent):∃ y6:Option Ent,
  zbk [some (.val (.str (mkS a))),some (.val (.str (mkS b))),some (zcS f (rwE a b i b.length)),some (.val (.int (0+(i:Int)))),some (.own (rwE a b (i+1) j)),some (.val (.int (0+(j:Int)))),x6] =
  some (.nx [some (.val (.str (mkS a))),some (.val (.str (mkS b))),some (zcS f (rwE a b i b.length)),some (.val (.int (0+(i:Int)))),some (.own (rwE a b (i+1) (j+1))),some (.val (.int (0+(j:Int)))),y6]):=by
 have k1:(0+(j:Int)).toNat=j:=by lia
 have k2:(0+(j:Int)+1).toNat=j+1:=by lia
 have r1:=rwE_at a b i b.length (k:=0+(j:Int)) (by lia) (by lia)
 have r2:=rwE_at a b i b.length (k:=0+(j:Int)+1) (by lia) (by lia)
 have r3:=rwE_at a b (i+1) j (k:=0+(j:Int)) (by lia) (by lia)
 rw[k1] at r1 r3
 rw[k2] at r2
 have sa:atI a (0+(i:Int))=some a[i]:=zc8 (by lia) (by rw[show(0+(i:Int)).toNat=i by lia,List.getElem?_eq_getElem hi])
 have sb:atI b (0+(j:Int))=some b[j]:=zc8 (by lia) (by rw[k1,List.getElem?_eq_getElem hj])
 refine⟨some (.val (.int (ev a b i j+(if a[i]=b[j] then 0 else 1)))),?_⟩
 have v6:ex2 zcj (ex2 zb5 (zab 2) (zab 5)) (eCB zcG (zaa (ex2 gNe (ex2 zhq (zab 0) (zab 3)) (ex2 zhq (zab 1) (zab 5))) zag)) [some (.val (.str (mkS a))),some (.val (.str (mkS b))),some (zcS f (rwE a b i b.length)),some (.val (.int (0+(i:Int)))),some (.own (rwE a b (i+1) j)),some (.val (.int (0+(j:Int)))),x6]=some (.val (.int (ev a b i j+(if a[i]=b[j] then 0 else 1)))):=
  addI (ix2 rfl r1) (neI (ixSS (E:=zab 0) (F:=zab 3) rfl (by lia) rfl sa) (ixSS (E:=zab 1) (F:=zab 5) rfl (by lia) rfl sb))
 refine(show zbk _=_ from zbB (zel v6)).trans ?_
 rw[rwE_s,ev_ss a b i j hi hj]
 have hl:(rwE a b (i+1) j).length<1000000:=by rw[rwE_len];lia
 generalize rwE a b (i+1) j=below at *
 exact fAppI rfl (min3 (X:=zab 6) rfl (addI (ix2 (addI (E:=zab 5) (F:=eC (.int 1)) rfl rfl) r2) rfl) (addI (ixLW (E:=zab 4) (F:=zab 5) rfl rfl r3) rfl)) hl
theorem lp_loop(a b:List Nat)(i:Nat)(f:Bool)(hi:i<a.length)(ha:a.length<=1000)(hb:b.length<=1000)(x5 x6:Option Ent):∃ y5 y6:Option Ent,
  loop (gNm 5) zbk ((List.range b.length).map fun(k:Nat)=>D.int (0+(k:Int))) [some (.val (.str (mkS a))),some (.val (.str (mkS b))),some (zcS f (rwE a b i b.length)),some (.val (.int (0+(i:Int)))),some (.own (rwE a b (i+1) 0)),x5,x6] =
  some (.nx [some (.val (.str (mkS a))),some (.val (.str (mkS b))),some (zcS f (rwE a b i b.length)),some (.val (.int (0+(i:Int)))),some (.own (rwE a b (i+1) b.length)),y5,y6]):=by
 obtain⟨δ',w1,y5,y6,rfl⟩:=zbE (tg:=gNm 5) (f:=zbk) (fun k δ=>∃ (y5 y6:Option Ent),δ=[some (.val (.str (mkS a))),some (.val (.str (mkS b))),some (zcS f (rwE a b i b.length)),some (.val (.int (0+(i:Int)))),some (.own (rwE a b (i+1) k)),y5,y6])
  ((List.range b.length).map fun(k:Nat)=>D.int (0+(k:Int))) 0 [some (.val (.str (mkS a))),some (.val (.str (mkS b))),some (zcS f (rwE a b i b.length)),some (.val (.int (0+(i:Int)))),some (.own (rwE a b (i+1) 0)),x5,x6] (fun k d δ hd hδ=>by
   obtain⟨y5,y6,rfl⟩:=hδ
   rw[Nat.zero_add]
   have hk:k<b.length:=by have:=(List.getElem?_eq_some_iff.mp hd).1;simpa using this
   rw[List.getElem?_map,List.getElem?_range hk] at hd
   cases hd
   obtain⟨z6,e⟩:=lp_turn a b i k f hi hk ha hb y6
   exact⟨_,_,rfl,.inl e,_,z6,rfl⟩) ⟨x5,x6,rfl⟩
 rw[List.length_map,List.length_range,Nat.zero_add] at w1
 exact⟨y5,y6,w1⟩
theorem lp_row(a b:List Nat)(i:Nat)(f:Bool)(hi:i<a.length)(ha:a.length<=1000)(hb:b.length<=1000)(x4 x5 x6:Option Ent):∃ y4 y5 y6:Option Ent,
  zbG [some (.val (.str (mkS a))),some (.val (.str (mkS b))),some (zcS f (rwE a b i b.length)),some (.val (.int (0+(i:Int)))),x4,x5,x6] =
  some (.nx [some (.val (.str (mkS a))),some (.val (.str (mkS b))),some (zcS false (rwE a b (i+1) b.length)),some (.val (.int (0+(i:Int)))),y4,y5,y6]):=by
 obtain⟨y5,y6,hl⟩:=lp_loop a b i f hi ha hb x5 x6
 have e0:rwE a b (i+1) 0=[.int (0+(i:Int)+1)]:=by
  unfold rwE
  rw[List.range_succ,List.range_zero,List.nil_append,List.map_cons,List.map_nil,ev_i0]
  congr 2
  lia
 rw[e0] at hl
 refine⟨some (.val (.lst (rwE a b (i+1) b.length))),y5,y6,?_⟩
 have h1:zdb (zaa (ex2 zcj (zab 3) (eC (.int 1))) zag) [some (.val (.str (mkS a))),some (.val (.str (mkS b))),some (zcS f (rwE a b i b.length)),some (.val (.int (0+(i:Int)))),x4,x5,x6]=some (.own [.int (0+(i:Int)+1)]):=eLst1 (addI rfl rfl)
 have h2:iR1 (zaa (eCB zcY (zaa (zab 1) zag)) zag) [some (.val (.str (mkS a))),some (.val (.str (mkS b))),some (zcS f (rwE a b i b.length)),some (.val (.int (0+(i:Int)))),some (.own [.int (0+(i:Int)+1)]),x5,x6]=some ((List.range b.length).map fun(k:Nat)=>D.int (0+(k:Int))):=by
  have hb2:b62 (b.length:Int):=zck (by lia)
  have hm:b.length<=1000000:=by lia
  simp only[iR1,zaa,eCB,zab,jqf,jqe,zag,jqc,jqa,zcY,sOf,zcv,hm,zbD,zai,iOf,hb2,Int.toNat_natCast]
 refine(show zbG _=_ from zbB (zf8 h1)).trans ((forN h2 hl).trans ?_)
 generalize rwE a b (i+1) b.length=R1
 generalize zcS f (rwE a b i b.length)=R0
 rfl
theorem lprice_eq(a b:List Nat)(ha:a.length<=900)(hb:b.length<=900):zbX [.str (mkS a),.str (mkS b)]=some (.val (.int (ed a b))):=by
 obtain⟨δ',w1,f,y3,y4,y5,y6,_,rfl⟩:=zbE (tg:=gNm 3) (f:=zbG) (fun k δ=>∃ (f:Bool) (y3 y4 y5 y6:Option Ent),(k=0->f=true)/\δ=[some (.val (.str (mkS a))),some (.val (.str (mkS b))),some (zcS f (rwE a b k b.length)),y3,y4,y5,y6])
  ((List.range a.length).map fun(k:Nat)=>D.int (0+(k:Int))) 0 [some (.val (.str (mkS a))),some (.val (.str (mkS b))),some (.own (rwE a b 0 b.length)),none,none,none,none] (fun k d δ hd hδ=>by
   obtain⟨f,y3,y4,y5,y6,_,rfl⟩:=hδ
   rw[Nat.zero_add]
   have hk:k<a.length:=by have:=(List.getElem?_eq_some_iff.mp hd).1;simpa using this
   rw[List.getElem?_map,List.getElem?_range hk] at hd
   cases hd
   obtain⟨z4,z5,z6,e⟩:=lp_row a b k f hk (by lia) (by lia) y4 y5 y6
   exact⟨_,_,rfl,.inl e,false,_,z4,z5,z6,fun z=>by lia,rfl⟩) ⟨true,none,none,none,none,fun _=>rfl,rfl⟩
 rw[List.length_map,List.length_range,Nat.zero_add] at w1
 have h0:rwE a b 0 b.length=(List.range (b.length+1)).map fun(k:Nat)=>D.int (0+(k:Int)):=by
  unfold rwE
  exact List.map_congr_left fun j _=>by rw[ev_0,Int.zero_add]
 have hm:b.length<=1000000:=by lia
 have hm2:a.length<=1000000:=by lia
 have hb2:b62 (a.length:Int):=zck (by lia)
 have h1:ex1 zgV (ex2 zcj (eCB zcY (zaa (zab 1) zag)) (eC (.int 1))) [some (.val (.str (mkS a))),some (.val (.str (mkS b))),none,none,none,none,none]=some (.own (rwE a b 0 b.length)):=by
  rw[h0]
  have hz:(0:Int)<=(b.length:Int)+1/\(b.length:Int)+1<=1000:=by lia
  have hn:((b.length:Int)+1).toNat=b.length+1:=by lia
  simp only[ex1,ex2,eCB,zaa,zab,jqf,jqe,zag,jqc,jqa,zcY,sOf,zcv,hm,zbD,zai,eC,zcj,pI0,iOf,zgV,hz,and_self,hn,jra]
 have h2:iR1 (zaa (eCB zcY (zaa (zab 0) zag)) zag) [some (.val (.str (mkS a))),some (.val (.str (mkS b))),some (.own (rwE a b 0 b.length)),none,none,none,none]=some ((List.range a.length).map fun(k:Nat)=>D.int (0+(k:Int))):=by
  simp only[iR1,zaa,eCB,zab,jqe,zag,jqc,jqa,zcY,sOf,zcv,hm2,zbD,zai,iOf,hb2,Int.toNat_natCast]
 have h3:atI (rwE a b a.length b.length) (-1)=some (.int (ed a b)):=zdX (fun j=>.int (ev a b a.length j)) b.length
 suffices hF:∃ δ,zcl [some (.val (.str (mkS a))),some (.val (.str (mkS b))),none,none,none,none,none]=some (.rt (.val (.int (ed a b))) δ) from
  hF.elim fun _ h=>(congrArg (fun o=>Option.bind o _) h).trans rfl
 exact⟨_,(show zcl _=_ from zbB (zf8 h1)).trans ((forN h2 w1).trans (zeO (ix2 (F:=ex1 zgj (eC (.int 1))) rfl h3)))⟩
noncomputable abbrev BE:=List (Str × List Int × List Str)
noncomputable def vS(w:Str):OT:=.val (.str w)
noncomputable def inO(e:Str × List Int × List Str):OT:=.dcI e.2.1 (e.2.2.map vS)
noncomputable def zbw(E:BE):List Str:=E.map (·.1)
noncomputable def zch(E:BE):OT:=.dcS (zbw E) (E.map inO)
noncomputable def lkE:BE->Str->Option (List Int × List Str)
 | [],_=>none
 | e :: E,w=>if e.1=w then some e.2 else lkE E w
theorem zeP(w:Str):∀ E:BE,(ixS (zbw E) w=none/\lkE E w=none/\w ∉ zbw E) \/ ∃ j q,ixS (zbw E) w=some j/\E[j]? = some (w,q)/\lkE E w=some q/\w ∈ zbw E
 | []=>.inl ⟨rfl,rfl,by simp[zbw]⟩
 | e :: E=>by
  show(ixS (e.1 :: zbw E) w=none/\_/\w ∉ e.1 :: zbw E) \/ ∃ j q,ixS (e.1 :: zbw E) w=some j/\_/\_/\w ∈ e.1 :: zbw E
  unfold ixS lkE
  by_cases h:e.1=w
  ·rw[if_pos h,if_pos h]
   exact .inr ⟨0,e.2,rfl,by rw[<- h];rfl,rfl,by rw[h];exact List.mem_cons_self⟩
  ·rw[if_neg h,if_neg h]
   rcases zeP w E with ⟨h1,h2,h3⟩ | ⟨j,q,h1,h2,h3,h4⟩
   ·exact .inl ⟨by rw[h1];rfl,h2,fun z=>(List.mem_cons.mp z).elim (fun z=>h z.symm) h3⟩
   ·exact .inr ⟨j+1,q,by rw[h1];rfl,h2,h3,List.mem_cons_of_mem _ h4⟩
theorem lk_set{w:Str}{q':List Int × List Str}(v:Str):∀ {E:BE} {j:Nat},ixS (zbw E) w=some j->lkE (E.set j (w,q')) v=if v=w then some q' else lkE E v
 | [],_,h=>by cases h
 | e :: E,j,h=>by
  have h':(if e.1=w then some 0 else (ixS (zbw E) w).map (· + 1))=some j:=h
  by_cases hw:e.1=w
  ·rw[if_pos hw] at h'
   cases h'
   show(if w=v then some q' else lkE E v)=if v=w then some q' else if e.1=v then some e.2 else lkE E v
   by_cases hv:v=w
   ·rw[if_pos hv,if_pos hv.symm]
   ·rw[if_neg hv,if_neg (fun z=>hv z.symm),if_neg (fun z=>hv (z.symm.trans hw))]
  ·rw[if_neg hw] at h'
   obtain⟨j',h1,rfl⟩:=Option.map_eq_some_iff.mp h'
   show(if e.1=v then some e.2 else lkE (E.set j' (w,q')) v)=if v=w then some q' else if e.1=v then some e.2 else lkE E v
   rw[lk_set v h1]
   by_cases hv:v=w
   ·rw[if_pos hv,if_pos hv,if_neg (fun z=>hw (z.trans hv))]
   ·rw[if_neg hv,if_neg hv]
theorem lk_snoc(t v:Str):∀ E:BE,lkE (E ++ [(t,[],[])]) v=if v ∈ zbw E then lkE E v else if t=v then some ([],[]) else none
 | []=>by
  show(if t=v then some ([],[]) else none)=if v ∈ ([]:List Str) then none else _
  exact(if_neg List.not_mem_nil).symm
 | e :: E=>by
  show(if e.1=v then some e.2 else lkE (E ++ [(t,[],[])]) v)=if v ∈ e.1 :: zbw E then (if e.1=v then some e.2 else lkE E v) else _
  rw[lk_snoc t v E]
  by_cases h:e.1=v
  ·rw[if_pos h,if_pos (by rw[h];exact List.mem_cons_self),if_pos h]
  ·rw[if_neg h,if_neg h]
   by_cases h2:v ∈ zbw E
   ·rw[if_pos h2,if_pos (List.mem_cons_of_mem _ h2)]
   ·rw[if_neg h2,if_neg (fun z=>(List.mem_cons.mp z).elim (fun z=>h z.symm) h2)]
theorem zdz{w:Str}{q':List Int × List Str}:∀ {E:BE} {j:Nat},ixS (zbw E) w=some j->zbw (E.set j (w,q'))=zbw E
 | [],_,h=>by cases h
 | e :: E,j,h=>by
  have h':(if e.1=w then some 0 else (ixS (zbw E) w).map (· + 1))=some j:=h
  by_cases hw:e.1=w
  ·rw[if_pos hw] at h'
   cases h'
   show w :: zbw E=e.1 :: zbw E
   rw[hw]
  ·rw[if_neg hw] at h'
   obtain⟨j',h1,rfl⟩:=Option.map_eq_some_iff.mp h'
   show e.1 :: zbw (E.set j' (w,q'))=e.1 :: zbw E
   rw[zdz h1]
noncomputable def zg9(E:BE)(j:Nat)(w:Str)(ks:List Int)(ws:List Str)(p:Int)(t:Str):BE:=E.set j (w,ks ++ [p],ws ++ [t]) ++ [(t,[],[])]
theorem add_key{E:BE}{j:Nat}{w:Str}{ks:List Int}{ws:List Str}{p:Int}{t:Str}(h:ixS (zbw E) w=some j):zbw (zg9 E j w ks ws p t)=zbw E ++ [t]:=by
 unfold zg9
 rw[show zbw (E.set j (w,ks ++ [p],ws ++ [t]) ++ [(t,[],[])])=zbw (E.set j (w,ks ++ [p],ws ++ [t])) ++ [t] from List.map_append,zdz h]
theorem add_lk{E:BE}{j:Nat}{w:Str}{ks:List Int}{ws:List Str}{p:Int}{t v:Str}(h:ixS (zbw E) w=some j)(ht:t ∉ zbw E)(hw:w ∈ zbw E):lkE (zg9 E j w ks ws p t) v=if v=w then some (ks ++ [p],ws ++ [t]) else if v=t then some ([],[]) else lkE E v:=by
 unfold zg9
 rw[lk_snoc,zdz h,lk_set v h]
 by_cases h1:v=w
 ·rw[if_pos (by rw[h1];exact hw),if_pos h1,if_pos h1]
 ·rw[if_neg h1,if_neg h1]
  by_cases h2:v ∈ zbw E
  ·rw[if_pos h2,if_neg (show ¬ v=t from fun z=>ht (z ▸ h2))]
  ·rw[if_neg h2]
   by_cases h3:v=t
   ·rw[if_pos h3.symm,if_pos h3]
   ·rw[if_neg (fun z=>h3 z.symm),if_neg h3]
    rcases zeP v E with ⟨_,q,_⟩ | ⟨_,_,_,_,_,q⟩
    ·exact q.symm
    ·exact absurd q h2
inductive Kns(P:OT->List (List Nat)->Prop)(w:List Nat):List Int->List OT->List (List Nat)->Prop
 | nil:Kns P w [] [] []
 | cons {k:Int} {ks:List Int} {x:OT} {os:List OT} {us vs:List (List Nat)}:P x us->(∀ u ∈ us,ed w u=k)->0<k->k ∉ ks->Kns P w ks os vs->Kns P w (k :: ks) (x :: os) (us ++ vs)
noncomputable def rtO:OT->Str
 | .ins _ _ (.val (.str w) :: _)=>w
 | _=>mkS []
noncomputable def K5(E:BE):Nat->OT->List (List Nat)->Prop
 | 0,_,_=>False
 | n+1,x,us=>∃ w ks os vs,x=mkK (mkS w) ks os/\us=w :: vs/\lkE E (mkS w)=some (ks,os.map rtO)/\Kns (K5 E n) w ks os vs
section
variable {P P':OT->List (List Nat)->Prop}{E E':BE}{n:Nat}{x:OT}{w:List Nat}{ks:List Int}{os:List OT}{us vs:List (List Nat)}
theorem K5.mk(l:lkE E (mkS w)=some (ks,os.map rtO))(h:Kns (K5 E n) w ks os us):K5 E (n+1) (mkK (mkS w) ks os) (w :: us):=⟨w,ks,os,us,rfl,rfl,l,h⟩
theorem Kns.imp(h:Kns P w ks os us):(∀ x vs,P x vs->(∀ u ∈ vs,u ∈ us)->P' x vs)->Kns P' w ks os us:=by
 induction h with
 | nil=>intro _;exact .nil
 | cons h1 h2 h3 h4 _ ih=>intro f;exact .cons (f _ _ h1 fun u hu=>List.mem_append_left _ hu) h2 h3 h4 (ih fun x vs q s=>f x vs q fun u hu=>List.mem_append_right _ (s u hu))
theorem K5.to:∀ {n:Nat} {x:OT} {us:List (List Nat)},K5 E n x us->(∀ u ∈ us,lkE E' (mkS u)=lkE E (mkS u))->K5 E' (n+1) x us:=by
 intro n
 induction n with
 | zero=>intro x us h;exact h.elim
 | succ n ih=>
  rintro x us ⟨w,ks,os,vs,rfl,rfl,l,h⟩ f
  exact K5.mk ((f w List.mem_cons_self).trans l) (h.imp fun x vs q s=>ih q fun u hu=>f u (List.mem_cons_of_mem _ (s u hu)))
theorem K5.up(h:K5 E n x us):K5 E (n+1) x us:=h.to fun _ _=>rfl
theorem K5.le{m:Nat}(h:K5 E n x us)(hm:n<=m):K5 E m x us:=by
 induction hm with
 | refl=>exact h
 | step _ ih=>exact ih.up
theorem K5.get(h:K5 E n x us):∃ m w ks os vs,n=m+1/\x=mkK (mkS w) ks os/\us=w :: vs/\lkE E (mkS w)=some (ks,os.map rtO)/\Kns (K5 E m) w ks os vs:=by
 match n,h with
 | m+1,⟨w,ks,os,vs,h1,h2,h3,h4⟩=>exact⟨m,w,ks,os,vs,rfl,h1,h2,h3,h4⟩
theorem K5.pos(h:K5 E n x us):0<us.length:=by
 obtain⟨_,_,_,_,_,_,_,rfl,_⟩:=h.get
 exact Nat.zero_lt_succ _
theorem Kns.len(h:Kns (K5 E n) w ks os us):ks.length=os.length/\ks.length<=us.length:=by
 induction h with
 | nil=>exact⟨rfl,Nat.le_refl _⟩
 | cons h1 _ _ _ _ ih=>
  refine⟨congrArg (· + 1) ih.1,?_⟩
  rw[List.length_cons,List.length_append,Nat.add_comm]
  exact Nat.add_le_add h1.pos ih.2
theorem Kns.mem(h:Kns P w ks os us):∀ u ∈ us,ed w u ∈ ks/\0<ed w u:=by
 induction h with
 | nil=>intro u h;cases h
 | cons h1 h2 h3 h4 _ ih=>
  intro u h
  rcases List.mem_append.mp h with h | h
  ·rw[h2 u h];exact⟨List.mem_cons_self,h3⟩
  ·exact⟨List.mem_cons_of_mem _ (ih u h).1,(ih u h).2⟩
theorem Kns.at{k:Int}(h:Kns P w ks os us):∀ {j:Nat},ks[j]? = some k->∃ x vs pre post,os[j]? = some x/\P x vs/\(∀ u ∈ vs,ed w u=k)/\0<k/\us=pre ++ (vs ++ post)/\(∀ u ∈ us,ed w u=k->u ∈ vs) /\
  ∀ {P':OT->List (List Nat)->Prop} (x':OT) (vs':List (List Nat)),P' x' vs'->(∀ u ∈ vs',ed w u=k)->(∀ y ys,P y ys->(∀ u ∈ ys,u ∈ pre \/ u ∈ post)->P' y ys)->Kns P' w ks (os.set j x') (pre ++ (vs' ++ post)):=by
 induction h with
 | nil=>intro j h;cases h
 | @cons k0 ks x os us vs h1 h2 h3 h4 h5 ih=>
  intro j h
  cases j with
  | zero=>
   cases h
   refine⟨x,us,[],vs,rfl,h1,h2,h3,rfl,fun u hu e=>?_,fun {P'} x' vs' q1 q2 q3=>show Kns P' w _ _ (vs' ++ vs) from .cons q1 q2 h3 h4 (h5.imp fun y ys q s=>q3 y ys q fun u hu=>.inr (s u hu))⟩
   rcases List.mem_append.mp hu with hu | hu
   ·exact hu
   ·exact absurd (e ▸ (h5.mem u hu).1) h4
  | succ j=>
   rw[List.getElem?_cons_succ] at h
   obtain⟨x1,vs1,pre,post,e1,e2,e3,e4,e5,e6,e7⟩:=ih h
   refine⟨x1,vs1,us ++ pre,post,e1,e2,e3,e4,by rw[e5,List.append_assoc],fun u hu e=>?_,fun {P'} x' vs' q1 q2 q3=>?_⟩
   ·rcases List.mem_append.mp hu with hu | hu
    ·exact absurd (by rw[<- h2 u hu,e];exact List.mem_of_getElem? h) h4
    ·exact e6 u hu e
   ·rw[List.append_assoc]
    exact .cons (q3 _ _ h1 fun u hu=>.inl (List.mem_append_left _ hu)) h2 h3 h4 (e7 x' vs' q1 q2 fun y ys q s=>q3 y ys q fun u hu=>(s u hu).imp (List.mem_append_right _) id)
theorem Kns.snoc{k:Int}(h:Kns P w ks os us)(q1:P x vs)(q2:∀ u ∈ vs,ed w u=k)(q3:0<k):k ∉ ks->Kns P w (ks ++ [k]) (os ++ [x]) (us ++ vs):=by
 induction h with
 | nil=>
  intro _
  have:=Kns.cons q1 q2 q3 List.not_mem_nil .nil
  rwa [List.append_nil] at this
 | cons h1 h2 h3 h4 _ ih=>
  intro q4
  rw[List.append_assoc]
  refine .cons h1 h2 h3 (fun z=>?_) (ih fun z=>q4 (List.mem_cons_of_mem _ z))
  rcases List.mem_append.mp z with z | z
  ·exact h4 z
  ·exact q4 (by rw[List.mem_singleton.mp z];exact List.mem_cons_self)
end
theorem set_same{os:List OT}{j:Nat}{x:OT}(h:os[j]? = some x):os.set j x=os:=by
 obtain⟨hlt,he⟩:=List.getElem?_eq_some_iff.mp h
 rw[<- he,List.set_getElem_self]
theorem hang_at(w t:List Nat)(hw:w.length<=1000)(ht:t.length<=1000)(m:Nat)(ks:List Int)(os:List OT):zdn zak (mkS t) (m+1) (mkK (mkS w) ks os)=zfJ (zdn zak (mkS t) m) (mkS t) (mkS w) ks os (ed w t):=by
 unfold zdn
 rw[knOf_mk]
 simp only[Option.bind_some]
 rw[slips_eq w t hw ht]
 rfl
theorem zf4(E:BE)(t:List Nat)(ht:t.length<=1000):∀ (n m:Nat) (x:OT) (us:List (List Nat)),K5 E n x us->(∀ u ∈ us,u.length<=1000)->t ∈ us->n<=m->zdn zak (mkS t) m x=some (false,x):=by
 intro n
 induction n with
 | zero=>intro m x us h;exact h.elim
 | succ n ih=>
  rintro m x us ⟨w,ks,os,vs,rfl,rfl,l,h⟩ hl hm hn
  obtain⟨m,rfl⟩:∃ m',m=m'+1:=⟨m - 1,by lia⟩
  rw[hang_at w t (hl w List.mem_cons_self) ht]
  unfold zfJ
  rcases List.mem_cons.mp hm with e | e
  ·subst e
   rw[ed_self,if_neg (by decide),if_pos rfl]
  ·obtain⟨e1,e2⟩:=h.mem t e
   rw[if_pos e2]
   cases hix:ixI ks (ed w t) with
   | none=>exact absurd e1 (zdf hix)
   | some j=>
    obtain⟨x1,vs1,pre,post,g1,g2,g3,g4,g5,g6,g7⟩:=h.at (zdV hix)
    show((os[j]?).bind fun y=>(zdn zak (mkS t) m y).map fun q=>(q.1,mkK (mkS w) ks (os.set j q.2)))=_
    rw[g1]
    simp only[Option.bind_some]
    rw[ih m x1 vs1 g2 (fun u hu=>hl u (List.mem_cons_of_mem _ (by rw[g5];exact List.mem_append_right _ (List.mem_append_left _ hu)))) (g6 t e rfl) (by lia)]
    show some (false,mkK (mkS w) ks (os.set j x1))=_
    rw[set_same g1]
noncomputable abbrev pfr(E:BE)(a t w:Str)(c:Option Ent):En:=[some (.obj (zch E)),some (.val (.str a)),some (.val (.str t)),some (.val (.str w)),c]
theorem zd2{u v:List Nat}(h:u ≠ v):mkS u ≠ mkS v:=fun e=>h (ze4 e)
section
variable {E:BE}{a t w:Str}{c:Option Ent}{j:Nat}{ks:List Int}{ws:List Str}
theorem pw_yes(h:t ∉ zbw E):zbH (pfr E a t w c)=some true:=by
 show(some (Ent.val (.bl (!(ixS (zbw E) t).isSome)))).bind bOf=some true
 rcases zeP t E with ⟨h1,_⟩ | ⟨_,_,_,_,_,q⟩
 ·rw[h1];rfl
 ·exact absurd q h
theorem pw_no(h:t ∈ zbw E):zbH (pfr E a t w c)=some false:=by
 show(some (Ent.val (.bl (!(ixS (zbw E) t).isSome)))).bind bOf=some false
 rcases zeP t E with ⟨_,_,q⟩ | ⟨_,_,h1,_⟩
 ·exact absurd h q
 ·rw[h1];rfl
theorem inE(hj:ixS (zbw E) w=some j)(he:E[j]? = some (w,ks,ws)):inDS 0 (zab 3) (pfr E a t w c)=some (j,ks,ws.map vS):=by
 show((ixS (zbw E) w).bind fun j=>(((E.map inO)[j]?).bind oDcI).map fun q=>(j,q))=_
 rw[hj]
 show((((E.map inO)[j]?).bind oDcI).map fun q=>(j,q))=_
 rw[List.getElem?_map,he]
 rfl
end
section
variable {E:BE}{a:Str}{t w:List Nat}{c:Option Ent}{j:Nat}{ks:List Int}{ws:List Str}
theorem pl_one(hw:w.length<=900)(ht:t.length<=900)(r:FS):zbq (zcI 4 (zaV [.v,.v] zbX (zaa (zab 3) (zaa (zab 2) zag)))) r (pfr E a (mkS t) (mkS w) c)=r (pfr E a (mkS t) (mkS w) (some (.val (.int (ed w t))))):=
 zdZ ((zen rfl rfl).trans (lprice_eq w t hw ht))
theorem pl_down(hw:w.length<=900)(ht:t.length<=900)(hj:ixS (zbw E) (mkS w)=some j)(he:E[j]? = some (mkS w,ks,ws)){i:Nat}{v:Str}(hix:ixI ks (ed w t)=some i)(hv:ws[i]? = some v):zba (pfr E a (mkS t) (mkS w) c)=some (.nx (pfr E a (mkS t) v (some (.val (.int (ed w t)))))):=by
 refine(show zba _=_ from pl_one hw ht _).trans ((fIfT ?_).trans (zel (v:=.str v) ?_))
 ·show((inDS 0 (zab 3) (pfr E a (mkS t) (mkS w) (some (.val (.int (ed w t)))))).map _).bind bOf=_
  rw[inE hj he]
  show some (ixI ks (ed w t)).isSome=_
  rw[hix]
  rfl
 ·show(inDS 0 (zab 3) (pfr E a (mkS t) (mkS w) (some (.val (.int (ed w t)))))).bind _=_
  rw[inE hj he]
  show(ixI ks (ed w t)).bind _=_
  rw[hix]
  show(((ws.map vS)[i]?).bind oV).map _=_
  rw[List.getElem?_map,hv]
  rfl
theorem pl_add(hw:w.length<=900)(ht:t.length<=900)(hj:ixS (zbw E) (mkS w)=some j)(he:E[j]? = some (mkS w,ks,ws))(hix:ixI ks (ed w t)=none)(hk:mkS t ∉ zbw E)(h1:ks.length<1000000)(h2:E.length<1000000) :
  zba (pfr E a (mkS t) (mkS w) c)=some (.nx (pfr (zg9 E j (mkS w) ks ws (ed w t) (mkS t)) a (mkS t) (mkS w) (some (.val (.int (ed w t)))))):=by
 refine(show zba _=_ from pl_one hw ht _).trans ((fIfF ?_).trans ((zbB (δ':=pfr (E.set j (mkS w,ks ++ [ed w t],ws ++ [mkS t])) a (mkS t) (mkS w) (some (.val (.int (ed w t))))) ?_).trans ?_))
 ·show((inDS 0 (zab 3) (pfr E a (mkS t) (mkS w) (some (.val (.int (ed w t)))))).map _).bind bOf=_
  rw[inE hj he]
  show some (ixI ks (ed w t)).isSome=_
  rw[hix]
  rfl
 ·show(inDS 0 (zab 3) (pfr E a (mkS t) (mkS w) (some (.val (.int (ed w t)))))).bind _=_
  rw[inE hj he]
  show(if (ixI ks (ed w t)).isSome=true \/ 1000000<=ks.length then none else some (Out.nx [some (.obj (.dcS (zbw E) ((E.map inO).set j (.dcI (ks ++ [ed w t]) (ws.map vS ++ [.val (.str (mkS t))]))))),some (.val (.str a)),some (.val (.str (mkS t))),some (.val (.str (mkS w))),some (.val (.int (ed w t)))]))=_
  rw[if_neg (by rw[hix];exact fun z=>z.elim (fun z=>by cases z) fun z=>by lia)]
  have e1:(E.map inO).set j (.dcI (ks ++ [ed w t]) (ws.map vS ++ [.val (.str (mkS t))]))=(E.set j (mkS w,ks ++ [ed w t],ws ++ [mkS t])).map inO:=by
   rw[List.map_set]
   unfold inO
   rw[List.map_append]
   rfl
  rw[e1]
  show _=some (Out.nx (pfr _ _ _ _ _))
  unfold pfr zch
  rw[zdz hj]
 ·show(((some (Ent.val (D.str (mkS t)))).bind sOf).bind fun z=>(some (zbw (E.set j (mkS w,ks ++ [ed w t],ws ++ [mkS t])),(E.set j (mkS w,ks ++ [ed w t],ws ++ [mkS t])).map inO)).bind _).map _=_
  show(if (ixS (zbw (E.set j (mkS w,ks ++ [ed w t],ws ++ [mkS t]))) (mkS t)).isSome=true \/ 1000000<=(zbw (E.set j (mkS w,ks ++ [ed w t],ws ++ [mkS t]))).length then none else some _).map _=_
  rw[zdz hj,if_neg]
  ·unfold zg9 pfr zch
   show some (Out.nx [some (.obj (.dcS (zbw E ++ [mkS t]) ((E.set j (mkS w,ks ++ [ed w t],ws ++ [mkS t])).map inO ++ [.dcI [] []]))),_,_,_,_])=_
   have e2:zbw (E.set j (mkS w,ks ++ [ed w t],ws ++ [mkS t]) ++ [(mkS t,[],[])])=zbw E ++ [mkS t]:=by
    rw[show zbw (E.set j (mkS w,ks ++ [ed w t],ws ++ [mkS t]) ++ [(mkS t,[],[])])=zbw (E.set j (mkS w,ks ++ [ed w t],ws ++ [mkS t])) ++ [mkS t] from List.map_append,zdz hj]
   rw[e2,List.map_append]
   rfl
  ·rcases zeP (mkS t) E with ⟨q,_⟩ | ⟨_,_,_,_,_,q⟩
   ·rw[q]
    refine fun z=>z.elim (fun z=>by cases z) fun z=>?_
    unfold zbw at z
    rw[List.length_map] at z
    lia
   ·exact absurd q hk
end
theorem whl_go{c:FT}{f:FS}{δ δ':En}{n:Nat}(h1:c δ=some true)(h2:f δ=some (.nx δ')):whl c f (n+1) δ=whl c f n δ':=by
 show(c δ).bind _=_
 rw[h1]
 show(f δ).bind _=_
 rw[h2]
 rfl
theorem zgc{c:FT}{f:FS}{δ:En}{n:Nat}(h1:c δ=some false):whl c f (n+1) δ=some (.nx δ):=by
 show(c δ).bind _=_
 rw[h1]
 rfl
theorem walk51(E:BE)(t:List Nat)(a:Str)(ht:t.length<=900)(hk:mkS t ∉ zbw E)(hE:E.length<1000000):∀ (n m f:Nat) (x:OT) (us:List (List Nat)) (c:Option Ent),K5 E n x us->us.Nodup->(∀ u ∈ us,u.length<=900)->t ∉ us->us.length<1000000->n<=m->n+1<=f ->
  ∃ (j:Nat) (wl:List Nat) (ks:List Int) (ws:List Str) (p:Int) (x':OT) (us':List (List Nat)) (w':Str) (c':Option Ent),wl ∈ us/\ixS (zbw E) (mkS wl)=some j/\mkS wl ∈ zbw E/\zdn zak (mkS t) m x=some (true,x') /\
   K5 (zg9 E j (mkS wl) ks ws p (mkS t)) (n+1) x' us'/\us'.Perm (t :: us)/\rtO x'=rtO x/\whl zbH zba f (pfr E a (mkS t) (rtO x) c)=some (.nx (pfr (zg9 E j (mkS wl) ks ws p (mkS t)) a (mkS t) w' c')):=by
 intro n
 induction n with
 | zero=>intro m f x us c h;exact h.elim
 | succ n ih=>
  rintro m f x us c ⟨w,ks,os,vs,rfl,rfl,l,h⟩ nd hl hm hs hnm hnf
  obtain⟨m,rfl⟩:∃ m',m=m'+1:=⟨m - 1,by lia⟩
  obtain⟨f,rfl⟩:∃ f',f=f'+1:=⟨f - 1,by lia⟩
  have hw:=hl w List.mem_cons_self
  obtain⟨nw,nv⟩:=List.nodup_cons.mp nd
  have tw:t ≠ w:=fun e=>hm (by rw[e];exact List.mem_cons_self)
  have h0:0<ed w t:=by
   have:=ed_nonneg w t
   have:ed w t ≠ 0:=fun e=>tw (ed_zero e).symm
   lia
  rw[hang_at w t (by lia) (by lia)]
  unfold zfJ
  rw[if_pos h0]
  rcases zeP (mkS w) E with ⟨_,q,_⟩ | ⟨j,q,hj,he,hq,hin⟩
  ·rw[l] at q;cases q
  rw[l] at hq
  cases hq
  rw[List.length_cons] at hs
  have hkl:=h.len
  cases hix:ixI ks (ed w t) with
  | none=>
   have hno:=zdf hix
   have lk:∀ v,lkE (zg9 E j (mkS w) ks (os.map rtO) (ed w t) (mkS t)) v=if v=mkS w then some (ks ++ [ed w t],os.map rtO ++ [mkS t]) else if v=mkS t then some ([],[]) else lkE E v:=fun v=>add_lk hj hk hin
   refine⟨j,w,ks,os.map rtO,ed w t,_,w :: (vs ++ [t]),mkS w,some (.val (.int (ed w t))),List.mem_cons_self,hj,hin,if_pos (by lia),K5.mk ?_ (Kns.snoc (h.imp fun y ys q s=>q.to fun u hu=>?_) (K5.mk (w:=t) (ks:=[]) (os:=[]) ?_ .nil) (fun u hu=>by rw[List.mem_singleton.mp hu]) h0 hno),?_,rfl,?_⟩
   ·rw[lk,if_pos rfl,List.map_append]
    rfl
   ·have hu':=s u hu
    have z1:u ≠ w:=fun e=>nw (e ▸ hu')
    have z2:u ≠ t:=fun e=>hm (List.mem_cons_of_mem _ (e ▸ hu'))
    rw[lk,if_neg (zd2 z1),if_neg (zd2 z2)]
   ·rw[lk,if_neg (zd2 tw),if_pos rfl]
    rfl
   ·exact(List.Perm.cons w (List.perm_append_comm (l₁:=vs) (l₂:=[t]))).trans (.swap _ _ _)
   ·rw[show rtO (mkK (mkS w) ks os)=mkS w from rfl,whl_go (pw_yes hk) (pl_add hw ht hj he hix hk (by lia) hE)]
    obtain⟨f,rfl⟩:∃ f',f=f'+1:=⟨f - 1,by lia⟩
    exact zgc (pw_no (by rw[add_key hj];simp))
  | some i=>
   obtain⟨x1,vs1,pre,post,e1,e2,e3,e4,e5,e6,e7⟩:=h.at (zdV hix)
   have sub:∀ u ∈ vs1,u ∈ vs:=fun u hu=>by rw[e5];exact List.mem_append_right _ (List.mem_append_left _ hu)
   have hl1:vs1.length<1000000:=by
    have:=congrArg List.length e5
    simp only[List.length_append] at this
    lia
   rw[e5] at nv
   obtain⟨npre,nr,dpre⟩:=List.nodup_append.mp nv
   obtain⟨n1,npost,dpost⟩:=List.nodup_append.mp nr
   obtain⟨j',wl,ks',ws',p',x',us',w',c',q0,q1,q1',q2,q3,q4,q5,q6⟩:=ih m f x1 vs1 (some (.val (.int (ed w t)))) e2 n1 (fun u hu=>hl u (List.mem_cons_of_mem _ (sub u hu))) (fun z=>hm (List.mem_cons_of_mem _ (sub t z))) hl1 (by lia) (by lia)
   have lk:∀ v,lkE (zg9 E j' (mkS wl) ks' ws' p' (mkS t)) v=if v=mkS wl then some (ks' ++ [p'],ws' ++ [mkS t]) else if v=mkS t then some ([],[]) else lkE E v:=fun v=>add_lk q1 hk q1'
   have all:∀ u ∈ us',ed w u=ed w t:=fun u hu=>by
    rcases List.mem_cons.mp (q4.mem_iff.mp hu) with z | z
    ·rw[z]
    ·exact e3 u z
   have rt:(os.set i x').map rtO=os.map rtO:=by
    have e8:(os.map rtO)[i]? = some (rtO x1):=by rw[List.getElem?_map,e1];rfl
    obtain⟨hlt,he8⟩:=List.getElem?_eq_some_iff.mp e8
    rw[List.map_set,q5,<- he8,List.set_getElem_self]
   refine⟨j',wl,ks',ws',p',mkK (mkS w) ks (os.set i x'),w :: (pre ++ (us' ++ post)),w',c',List.mem_cons_of_mem _ (sub wl q0),q1,q1',?_,K5.mk ?_ (e7 x' us' q3 all fun y ys q s=>q.to fun u hu=>?_),?_,rfl,?_⟩
   ·show((os[i]?).bind fun y=>(zdn zak (mkS t) m y).map fun q=>(q.1,mkK (mkS w) ks (os.set i q.2)))=_
    rw[e1]
    simp only[Option.bind_some]
    rw[q2]
    rfl
   ·have z1:w ≠ wl:=fun e=>nw (e ▸ sub wl q0)
    rw[rt,lk,if_neg (zd2 z1),if_neg (zd2 tw.symm)]
    exact l
   ·have z1:u ≠ wl:=fun e=>(s _ hu).elim (fun z=>dpre _ z _ (List.mem_append_left _ q0) e) fun z=>dpost _ q0 _ z e.symm
    have z2:u ≠ t:=fun e=>by
     refine hm (List.mem_cons_of_mem _ ?_)
     rw[e5,<- e]
     rcases s _ hu with z | z
     ·exact List.mem_append_left _ z
     ·exact List.mem_append_right _ (List.mem_append_right _ z)
    rw[lk,if_neg (zd2 z1),if_neg (zd2 z2)]
   ·rw[e5]
    refine(List.Perm.cons w ((List.Perm.append_left pre (q4.append_right post)).trans ?_)).trans (.swap _ _ _)
    exact List.perm_middle
   ·rw[show rtO (mkK (mkS w) ks os)=mkS w from rfl,whl_go (pw_yes hk) (pl_down hw ht hj he hix (v:=rtO x1) (by rw[List.getElem?_map,e1];rfl))]
    exact q6
noncomputable def inD(e:Str × List Int × List Str):D:=.dcI e.2.1 (e.2.2.map D.str)
noncomputable def zdw(E:BE):D:=.dcS (zbw E) (E.map inD)
theorem zgs(kC:Str->Addr):∀ ws:List Str,toDs kC (ws.map vS)=some (ws.map D.str)
 | []=>by simp only[List.map_nil,toDs]
 | w :: ws=>by
  rw[List.map_cons,List.map_cons]
  simp only[toDs]
  rw[zgs kC ws,show toD kC (vS w)=some (.str w) by unfold vS;simp only[toD]]
  rfl
theorem toDs_in(kC:Str->Addr):∀ E:BE,toDs kC (E.map inO)=some (E.map inD)
 | []=>by simp only[List.map_nil,toDs]
 | e :: E=>by
  rw[List.map_cons,List.map_cons]
  simp only[toDs]
  rw[toDs_in kC E,show toD kC (inO e)=some (inD e) by unfold inO;simp only[toD];rw[zgs];rfl]
  rfl
theorem toD_bel(kC:Str->Addr)(E:BE):toD kC (zch E)=some (zdw E):=by
 unfold zch
 simp only[toD]
 rw[toDs_in]
 rfl
noncomputable abbrev knD(kC:Str->Addr)(w:Str)(ks:List Int)(ds:List D):D:=.ins (kC "Knot") ["word","branches"] [.str w,.dcI ks ds]
theorem toD_kn(kC:Str->Addr)(w:Str)(ks:List Int)(os:List OT)(ds:List D)(h:toDs kC os=some ds):toD kC (mkK w ks os)=some (knD kC w ks ds):=by
 unfold mkK
 simp only[toD,toDs]
 rw[h]
 rfl
noncomputable def Pl:Nat->D->Prop
 | 0,_=>False
 | n+1,d=>(∃ i,d=.int i) \/ (∃ z,d=.str z) \/ ∃ l,d=.tup l/\l.length<=1000/\∀ x ∈ l,Pl n x
theorem Pl.up:∀ {n:Nat} {d:D},Pl n d->Pl (n+1) d:=by
 intro n
 induction n with
 | zero=>intro d h;exact h.elim
 | succ n ih=>
  rintro d (h | h | ⟨l,rfl,h1,h2⟩)
  ·exact .inl h
  ·exact .inr (.inl h)
  ·exact .inr (.inr ⟨l,rfl,h1,fun x hx=>ih (h2 x hx)⟩)
theorem Pl.le{n m:Nat}{d:D}(h:Pl n d)(hm:n<=m):Pl m d:=by
 induction hm with
 | refl=>exact h
 | step _ ih=>exact ih.up
theorem zes{rg:List D->Option Ent}(a b:Option Ent):∀ (ds:List D) (x y:Option Ent),(∀ d ∈ ds,rg [d,d]=some (.val (.bl true)))->∃ x' y',loop (gTp (zdo (gNm 2) (zdo (gNm 3) gsNil))) (zbC rg) ((ds.zip ds).map fun p=>D.tup [p.1,p.2]) [a,b,x,y]=some (.nx [a,b,x',y'])
 | [],x,y,_=>⟨x,y,rfl⟩
 | d :: ds,x,y,h=>by
  have h1:=h d List.mem_cons_self
  have st:zbC rg [a,b,some (.val d),some (.val d)]=some (.nx [a,b,some (.val d),some (.val d)]):=by
   simp only[zbC,fIf,fNot,tOf,zaV,zaa,zab,jqf,jqe,zag,jqc,jqa,zce,zem,asV,h1,bOf,jqt,zb4,eC,toN,fNx,jqr,jrb]
  obtain⟨x',y',e⟩:=zes a b ds (some (.val d)) (some (.val d)) fun z hz=>h z (List.mem_cons_of_mem _ hz)
  exact⟨x',y',Eq.trans (zfI rfl st) e⟩
theorem alike_tup{rg:List D->Option Ent}(ds:List D)(hl:ds.length<=1000)(h:∀ d ∈ ds,rg [d,d]=some (.val (.bl true))):zcs [.v,.v] 2 (zbg rg) [.tup ds,.tup ds]=some (.val (.bl true)):=by
 obtain⟨x',y',e⟩:=zes (some (.val (.tup ds))) (some (.val (.tup ds))) ds none none h
 have t1:("tuple" == "tuple")=true:=rfl
 generalize hz:(ds.zip ds).map (fun p=>D.tup [p.1,p.2])=zz at *
 simp (disch:=omega) only[zcs,stE,stN,jqc,jqa,zbg,zbq,fIf,tOf,ex1,zab,List.replicate,fOr,fNot,ex2,eCB,zaa,zag,gNe,zfZ,zb4,eC,toN,fNx,jqi,jqj,jqf,jqe,zhu,obD,jqr,isiD,tyN,t1,Bool.true_or,jrb,bOf,jqt,zbZ,ze1,jqy,sqO,zfF,iZip,qV,qOf,hz,e,jra,zf0]
theorem zgX:∀ (n m:Nat) (d:D),Pl n d->n<=m->zaK m [d,d]=some (.val (.bl true)):=by
 intro n
 induction n with
 | zero=>intro m d h;exact h.elim
 | succ n ih=>
  intro m d h hm
  obtain⟨m,rfl⟩:∃ m',m=m'+1:=⟨m - 1,by lia⟩
  show zcs [.v,.v] 2 (zbg (zaK m)) [d,d]=_
  generalize hg:zaK m=rg
  rcases h with ⟨i,rfl⟩ | ⟨z,rfl⟩ | ⟨l,rfl,h1,h2⟩
  ·have t1:("int" == "int")=true:=rfl
   have t2:("int" == "bool")=false:=rfl
   have t3:("int" == "tuple")=false:=rfl
   have t4:("bool" == "int")=false:=rfl
   have t5:("int" == "str")=false:=rfl
   have t6:("tuple" == "int")=false:=rfl
   have t7:("str" == "int")=false:=rfl
   simp (disch:=omega) only[zcs,stE,stN,jqc,jqa,zbg,zbq,fIf,tOf,ex1,zab,List.replicate,fOr,fNot,ex2,eCB,zaa,zag,gNe,zfZ,zb4,eC,toN,fNx,jqi,jqj,jqf,jqe,zhu,obD,jqr,isiD,tyN,t3,t6,t2,Bool.and_false,Bool.or_false,jrb,bOf,jqu,zbZ,ze1,asL,jqd,jqb,jra,sqO,t5,t7,eAnd,gEq,jqy,t1,t4,gNot,zf0]
  ·have t1:("str" == "str")=true:=rfl
   have t2:("str" == "tuple")=false:=rfl
   have t3:("str" == "bool")=false:=rfl
   have t4:("tuple" == "int")=false:=rfl
   have t5:("str" == "int")=false:=rfl
   simp (disch:=omega) only[zcs,stE,stN,jqc,jqa,zbg,zbq,fIf,tOf,ex1,zab,List.replicate,fOr,fNot,ex2,eCB,zaa,zag,gNe,zfZ,zb4,eC,toN,fNx,jqi,jqj,jqf,jqe,zhu,obD,jqr,isiD,tyN,t2,t4,t3,Bool.and_false,Bool.or_false,jrb,bOf,jqu,zbZ,ze1,asL,jqd,jqb,jra,sqO,t1,t5,eAnd,gEq,jqy,zf0]
  ·refine alike_tup l h1 fun x hx=>?_
   rw[<- hg]
   exact ih m x (h2 x hx) (by lia)
theorem eTup2{A B:FE}{δ:En}{a b:D}(hA:A δ=some (.val a))(hB:B δ=some (.val b)):eTup (zaa A (zaa B zag)) δ=some (.val (.tup [a,b])):=by
 unfold eTup zaa zag
 rw[hA,hB]
 rfl
theorem call1{X:FE}{δ:En}{a:D}{g:List D->Option Ent}(hX:X δ=some (.val a)):zaV [.v] g (zaa X zag) δ=g [a]:=by
 unfold zaV zaa zag
 rw[hX]
 rfl
theorem dxI{X Y:FE}{δ:En}{ks:List Int}{ds:List D}{p:Int}{j:Nat}{d:D}(hX:X δ=some (.val (.dcI ks ds)))(hY:Y δ=some (.val (.int p)))(hj:ixI ks p=some j)(hd:ds[j]? = some d):ex2 gDxI X Y δ=some (.val d):=by
 unfold ex2
 rw[hX,hY]
 show(ixI ks p).bind _=_
 rw[hj]
 show(ds[j]?).map _=_
 rw[hd]
 rfl
theorem fldV{C:Addr}{ns:List Str}{l:List D}{k:Nat}{d:D}{X:FE}{δ:En}(hX:X δ=some (.val (.ins C ns l)))(hd:l[k]? = some d):ex1 (zeQ C ns k) X δ=some (.val d):=by
 unfold ex1
 rw[hX]
 show(if C=C/\ns=ns then some l else none).bind _=_
 rw[if_pos ⟨rfl,rfl⟩]
 show(l[k]?).map _=_
 rw[hd]
 rfl
theorem srtDi{X:FE}{δ:En}{ks:List Int}{ds:List D}(hX:X δ=some (.val (.dcI ks ds)))(hl:ks.length<64):eCB zfs (zaa X zag) δ=some (.own ((zfp ks).map .int)):=by
 unfold eCB zaa zag
 rw[hX]
 show(if ks.length<64 then some (Ent.own ((zfp ks).map .int)) else none)=_
 rw[if_pos hl]
theorem tupL1{X:FE}{δ:En}{ds:List D}(hX:X δ=some (.own ds)):eCB zd6 (zaa X zag) δ=some (.val (.tup ds)):=by
 unfold eCB zaa zag
 rw[hX]
 rfl
theorem Pl.int{n:Nat}{d:D}(h:Pl n d)(i:Int):Pl n (.int i):=by
 cases n with
 | zero=>exact h.elim
 | succ n=>exact .inl ⟨i,rfl⟩
noncomputable def rOf(ks:List Int)(rs:List D)(p:Int):D:=((ixI ks p).bind fun i=>rs[i]?).getD .non
noncomputable def prO(ks:List Int)(rs:List D)(p:Int):D:=.tup [.int p,rOf ks rs p]
theorem tf_turn(kC:Str->Addr){rg:List D->Option Ent}{w:Str}{ks:List Int}{ds rs acc:List D}{p:Int}{j:Nat}{d r:D}(hj:ixI ks p=some j)(hd:ds[j]? = some d)(hr:rs[j]? = some r)(hg:rg [d]=some (.val r))(ha:acc.length<1000000) :
  zbS kC rg [some (.val (knD kC w ks ds)),some (.own acc),some (.val (.int p))]=some (.nx [some (.val (knD kC w ks ds)),some (.own (acc ++ [prO ks rs p])),some (.val (.int p))]):=by
 have er:rOf ks rs p=r:=by unfold rOf;rw[hj];show(rs[j]?).getD _=_;rw[hr];rfl
 unfold prO
 rw[er]
 exact(show zbS kC rg _=_ from fAppI rfl (eTup2 rfl ((call1 (dxI (fldV rfl rfl) rfl hj hd)).trans hg)) ha).trans rfl
theorem tf_loop(kC:Str->Addr){rg:List D->Option Ent}{w:Str}{ks:List Int}{ds rs:List D}(h:∀ p ∈ ks,∃ j d r,ixI ks p=some j/\ds[j]? = some d/\rs[j]? = some r/\rg [d]=some (.val r)):∀ (ps:List Int) (acc:List D) (x:Option Ent),(∀ p ∈ ps,p ∈ ks)->acc.length+ps.length<=1000->∃ y,
  loop (gNm 2) (zbS kC rg) (ps.map D.int) [some (.val (knD kC w ks ds)),some (.own acc),x]=some (.nx [some (.val (knD kC w ks ds)),some (.own (acc ++ ps.map (prO ks rs))),y])
 | [],acc,x,_,_=>⟨x,by rw[List.map_nil,List.map_nil,List.append_nil];rfl⟩
 | p :: ps,acc,x,hp,hl=>by
  rw[List.length_cons] at hl
  obtain⟨j,d,r,h1,h2,h3,h4⟩:=h p (hp p List.mem_cons_self)
  obtain⟨y,e⟩:=tf_loop kC (w:=w) h ps (acc ++ [prO ks rs p]) (some (.val (.int p))) (fun q hq=>hp q (List.mem_cons_of_mem _ hq)) (by rw[List.length_append];simp only[List.length_cons,List.length_nil];lia)
  refine⟨y,(zfI rfl (tf_turn kC h1 h2 h3 h4 (by lia))).trans (e.trans ?_)⟩
  rw[List.append_assoc]
  rfl
theorem tf_ok(kC:Str->Addr)(m:Nat){w:Str}{ks:List Int}{ds rs:List D}(hk:ks.length<64)(h:∀ p ∈ ks,∃ j d r,ixI ks p=some j/\ds[j]? = some d/\rs[j]? = some r/\zaw kC m [d]=some (.val r)) :
  zaw kC (m+1) [knD kC w ks ds]=some (.val (.tup [.str w,.tup ((zfp ks).map (prO ks rs))])):=by
 have hs:=(zcb ks).length_eq
 obtain⟨y,e⟩:=tf_loop kC (w:=w) h (zfp ks) [] none (fun p hp=>(zcb ks).mem_iff.mp hp) (by rw[hs];simp only[List.length_nil];lia)
 rw[List.nil_append] at e
 have hF:zcC kC (zaw kC m) [some (.val (knD kC w ks ds)),none,none]=some (.rt (.val (.tup [.str w,.tup ((zfp ks).map (prO ks rs))])) [some (.val (knD kC w ks ds)),some (.own ((zfp ks).map (prO ks rs))),y]):=by
  refine(show zcC kC (zaw kC m) _=_ from zbB (zf8 (ds:=[]) rfl)).trans ((forN (ds:=(zfp ks).map D.int) ?_ e).trans (zeO (eTup2 (fldV rfl rfl) rfl)))
  unfold iL
  rw[srtDi (fldV rfl rfl) hk]
  rfl
 exact(congrArg (fun o=>Option.bind o _) hF).trans rfl
theorem lt_turn(E:BE){rg:List D->Option Ent}{w:Str}{ks:List Int}{ws:List Str}{rs:List D}{p:Int}{j i:Nat}{v:Str}{r:D}(hi:ixS (zbw E) w=some i)(he:E[i]? = some (w,ks,ws))(hj:ixI ks p=some j)(hv:ws[j]? = some v)(hr:rs[j]? = some r)(hg:rg [zdw E,.str v]=some (.val r)) :
  zcm rg [some (.val (.int p)),some (.val (zdw E)),some (.val (.str w))]=some (.val (prO ks rs p)):=by
 have er:rOf ks rs p=r:=by unfold rOf;rw[hj];show(rs[j]?).getD _=_;rw[hr];rfl
 unfold prO
 rw[er]
 refine eTup2 rfl ((zen rfl (dxI (ks:=ks) (ds:=ws.map D.str) (j:=j) ?_ rfl hj (by rw[List.getElem?_map,hv];rfl))).trans hg)
 show(ixS (zbw E) w).bind _=_
 rw[hi]
 show((E.map inD)[i]?).map _=_
 rw[List.getElem?_map,he]
 rfl
theorem zfK{ft:D->Option Bool}{fe:D->Option Ent}{f:Int->D}:∀ (ps:List Int),(∀ d,ft d=some true)->(∀ p ∈ ps,fe (.int p)=some (.val (f p)))->zc7 ft fe (ps.map D.int)=some (ps.map f)
 | [],_,_=>rfl
 | p :: ps,h1,h2=>by
  rw[List.map_cons,List.map_cons]
  unfold zc7
  rw[h1,h2 p List.mem_cons_self,zfK ps h1 fun q hq=>h2 q (List.mem_cons_of_mem _ hq)]
  rfl
theorem lt_ok(E:BE)(m:Nat){w:Str}{ks:List Int}{ws:List Str}{rs:List D}(hl:lkE E w=some (ks,ws))(hk:ks.length<64)(h:∀ p ∈ ks,∃ j v r,ixI ks p=some j/\ws[j]? = some v/\rs[j]? = some r/\zat m [zdw E,.str v]=some (.val r)) :
  zat (m+1) [zdw E,.str w]=some (.val (.tup [.str w,.tup ((zfp ks).map (prO ks rs))])):=by
 rcases zeP w E with ⟨_,q,_⟩ | ⟨i,q,hi,he,hq,_⟩
 ·rw[hl] at q;cases q
 rw[hl] at hq
 cases hq
 have hs:=(zcb ks).length_eq
 have hx:ex2 gDxS (zab 0) (zab 1) [some (.val (zdw E)),some (.val (.str w))]=some (.val (.dcI ks (ws.map D.str))):=by
  show(ixS (zbw E) w).bind _=_
  rw[hi]
  show((E.map inD)[i]?).map _=_
  rw[List.getElem?_map,he]
  rfl
 have hc:eLC [0,1] (iL (eCB zfs (zaa (ex2 gDxS (zab 0) (zab 1)) zag))) zek (zcm (zat m)) [some (.val (zdw E)),some (.val (.str w))]=some (.own ((zfp ks).map (prO ks rs))):=by
  unfold eLC iL
  rw[srtDi hx hk]
  show(zc7 _ _ ((zfp ks).map D.int)).bind _=_
  refine(congrArg (fun o=>Option.bind o _) (zfK (f:=prO ks rs) (zfp ks) (fun _=>rfl) fun p hp=>?_)).trans ?_
  rotate_left
  ·show(if ((zfp ks).map (prO ks rs)).length<=1000000 then _ else _)=_
   rw[if_pos (by rw[List.length_map,hs];lia)]
  ·obtain⟨j,v,r,h1,h2,h3,h4⟩:=h p ((zcb ks).mem_iff.mp hp)
   exact lt_turn E hi he h1 h2 h3 h4
 have hF:zcy (zat m) [some (.val (zdw E)),some (.val (.str w))]=some (.rt (.val (.tup [.str w,.tup ((zfp ks).map (prO ks rs))])) [some (.val (zdw E)),some (.val (.str w))]):=by
  exact(show zcy (zat m) _=_ from zeO (eTup2 rfl (tupL1 hc)))
 exact(congrArg (fun o=>Option.bind o _) hF).trans rfl
theorem kids(kC:Str->Addr)(E:BE)(n m m2 N:Nat){w:List Nat}{ks:List Int}{os:List OT}{us:List (List Nat)}
  (ih:∀ x us,K5 E n x us->us.length<=60->∃ d0 d,toD kC x=some d0/\zaw kC m [d0]=some (.val d)/\zat m2 [zdw E,.str (rtO x)]=some (.val d)/\Pl N d) (h:Kns (K5 E n) w ks os us):us.length<=60 ->
  ∃ ds rs:List D,toDs kC os=some ds/\∀ p ∈ ks,∃ j d v r,ixI ks p=some j/\ds[j]? = some d/\(os.map rtO)[j]? = some v/\rs[j]? = some r/\zaw kC m [d]=some (.val r)/\zat m2 [zdw E,.str v]=some (.val r)/\Pl N r:=by
 induction h with
 | nil=>intro _;exact⟨[],[],by simp only[toDs],fun p hp=>by cases hp⟩
 | @cons k ks x os us vs h1 h2 h3 h4 h5 ih2=>
  intro hl
  rw[List.length_append] at hl
  obtain⟨d0,d,a1,a2,a3,a4⟩:=ih x us h1 (by lia)
  obtain⟨ds,rs,b1,b2⟩:=ih2 (by lia)
  refine⟨d0 :: ds,d :: rs,by simp only[toDs];rw[a1,b1];rfl,fun p hp=>?_⟩
  by_cases e:k=p
  ·subst e
   exact⟨0,d0,rtO x,d,by unfold ixI;rw[if_pos rfl],rfl,rfl,rfl,a2,a3,a4⟩
  ·obtain⟨j,d',v,r,c1,c2,c3,c4,c5⟩:=b2 p ((List.mem_cons.mp hp).resolve_left fun z=>e z.symm)
   exact⟨j+1,d',v,r,by unfold ixI;rw[if_neg e,c1];rfl,c2,c3,c4,c5⟩
theorem tree51(kC:Str->Addr)(E:BE):∀ (n m m2:Nat) (x:OT) (us:List (List Nat)),K5 E n x us->us.length<=60->n<=m->n<=m2->∃ d0 d,toD kC x=some d0/\zaw kC m [d0]=some (.val d)/\zat m2 [zdw E,.str (rtO x)]=some (.val d)/\Pl (3 * n) d:=by
 intro n
 induction n with
 | zero=>intro m m2 x us h;exact h.elim
 | succ n ih=>
  rintro m m2 x us ⟨w,ks,os,vs,rfl,rfl,l,h⟩ hl hm hm2
  obtain⟨m,rfl⟩:∃ m',m=m'+1:=⟨m - 1,by lia⟩
  obtain⟨m2,rfl⟩:∃ m',m2=m'+1:=⟨m2 - 1,by lia⟩
  rw[List.length_cons] at hl
  obtain⟨ds,rs,b1,b2⟩:=kids kC E n m m2 (3 * n) (fun x us h hl=>ih m m2 x us h hl (by lia) (by lia)) h (by lia)
  have hk:=h.len
  refine⟨_,_,toD_kn kC (mkS w) ks os ds b1,tf_ok kC m (rs:=rs) (by lia) fun p hp=>?_,lt_ok E m2 (rs:=rs) l (by lia) fun p hp=>?_,?_⟩
  ·obtain⟨j,d,v,r,c1,c2,c3,c4,c5,c6,c7⟩:=b2 p hp
   exact⟨j,d,r,c1,c2,c4,c5⟩
  ·obtain⟨j,d,v,r,c1,c2,c3,c4,c5,c6,c7⟩:=b2 p hp
   exact⟨j,v,r,c1,c3,c4,c6⟩
  ·have hs:=(zcb ks).length_eq
   refine Pl.le (n:=3 * n+3) (.inr (.inr ⟨_,rfl,by simp,fun x hx=>?_⟩)) (by lia)
   simp only[List.mem_cons,List.not_mem_nil,or_false] at hx
   rcases hx with rfl | rfl
   ·exact .inr (.inl ⟨_,rfl⟩)
   ·refine .inr (.inr ⟨_,rfl,by rw[List.length_map,hs];lia,fun x hx=>?_⟩)
    obtain⟨p,hp,rfl⟩:=List.mem_map.mp hx
    obtain⟨j,d,v,r,c1,c2,c3,c4,c5,c6,c7⟩:=b2 p ((zcb ks).mem_iff.mp hp)
    refine .inr (.inr ⟨_,rfl,by simp,fun x hx=>?_⟩)
    simp only[List.mem_cons,List.not_mem_nil,or_false] at hx
    rcases hx with rfl | rfl
    ·exact c7.int p
    ·rw[show rOf ks rs p=r by unfold rOf;rw[c1];show(rs[j]?).getD _=_;rw[c4];rfl]
     exact c7
noncomputable def bkO(x:OT):OT:=.ins "Book" ["top"] [x]
noncomputable abbrev bkD(kC:Str->Addr)(d:D):D:=.ins (kC "Book") ["top"] [d]
noncomputable def SD(zs:List (List Nat)):List D:=zs.map fun w=>.str (mkS w)
theorem ixLL{E F:FE}{δ:En}{ds:List D}{a:Int}{v:D}(h1:E δ=some (.val (.lst ds)))(h2:F δ=some (.val (.int a)))(h:atI ds a=some v):ex2 zb5 E F δ=some (.val v):=by simp only[ex2,h1,h2,zb5,asL,iOf,jqa,h,jqc]
theorem bt_none(kC:Str->Addr):zbc kC [bkD kC .non]=some (.val .non):=by
 have h1:ex2 gIsN (ex1 (zeQ (kC "Book") ["top"] 0) (zab 0)) (eC .non) [some (.val (bkD kC .non))]=some (.val (.bl true)):=by
  unfold ex2
  rw[fldV (d:=.non) rfl rfl]
  rfl
 have hF:zbO kC [some (.val (bkD kC .non))]=some (.rt (.val .non) [some (.val (bkD kC .non))]):=
  (show zbO kC _=_ from fSeqR ((fIfT (by unfold tOf;rw[h1];rfl)).trans rfl))
 exact(congrArg (fun o=>Option.bind o _) hF).trans rfl
theorem bt_some(kC:Str->Addr){w:Str}{ks:List Int}{ds:List D}{d:D}(h:zaw kC 16 [knD kC w ks ds]=some (.val d)):zbc kC [bkD kC (knD kC w ks ds)]=some (.val d):=by
 have h1:ex2 gIsN (ex1 (zeQ (kC "Book") ["top"] 0) (zab 0)) (eC .non) [some (.val (bkD kC (knD kC w ks ds)))]=some (.val (.bl false)):=by
  unfold ex2
  rw[fldV (d:=knD kC w ks ds) rfl rfl]
  rfl
 have hF:zbO kC [some (.val (bkD kC (knD kC w ks ds)))]=some (.rt (.val d) [some (.val (bkD kC (knD kC w ks ds)))]):=
  (show zbO kC _=_ from zbB ((fIfF (by unfold tOf;rw[h1];rfl)).trans rfl)).trans (zeO ((call1 (fldV (d:=knD kC w ks ds) rfl rfl)).trans h))
 exact(congrArg (fun o=>Option.bind o _) hF).trans rfl
theorem mvI(kC:Str->Addr){X:FE}{δ:En}{d r:D}(hX:X δ=some (.val (bkD kC d)))(h:zbc kC [bkD kC d]=some (.val r)):eMV (kC "Book") ["top"] (zbc kC) X δ=some (.val r):=by
 unfold eMV
 rw[hX]
 show(if kC "Book" = kC "Book" /\ (["top"]:List Str)=(["top"]:List Str) then some [d] else none).bind _=_
 rw[if_pos ⟨rfl,rfl⟩]
 exact h
theorem toD_st(kC:Str->Addr){x:OT}{d:D}(h:toD kC x=some d)(E:BE)(ws:List D):toD kC (zcq (bkO x) (zch E) ws)=some (.lst [bkD kC d,zdw E,.lst ws]):=by
 unfold zcq bkO
 simp only[toD,toDs]
 rw[h,show toD kC (zch E)=some (zdw E) from toD_bel kC E]
 rfl
theorem st_none(kC:Str->Addr)(ws:List D):zaf kC [.lst [bkD kC .non,zdw [],.lst ws]]=some (.val (.bl true)):=by
 have hF:zbn kC [some (.val (.lst [bkD kC .non,zdw [],.lst ws])),none,none,none]=some (.rt (.val (.bl true)) [some (.val (.lst [bkD kC .non,zdw [],.lst ws])),some (.val (bkD kC .non)),some (.val (zdw [])),some (.val (.lst ws))]):=by
  refine(show zbn kC _=_ from zbB (δ':=[some (.val (.lst [bkD kC .non,zdw [],.lst ws])),some (.val (bkD kC .non)),some (.val (zdw [])),some (.val (.lst ws))]) rfl).trans (fSeqR ((fIfT rfl).trans (zeO ?_)))
  unfold ex2
  rw[mvI kC (X:=zab 1) (d:=.non) (r:=.non) rfl (bt_none kC)]
  rfl
 exact(congrArg (fun o=>Option.bind o _) hF).trans rfl
theorem st_some(kC:Str->Addr){e:Str × List Int × List Str}{E:BE}{d d0 w:D}{ws:List D}(h1:zbc kC [bkD kC d0]=some (.val d))(h2:zat 16 [zdw (e :: E),w]=some (.val d))(h3:zaK 50 [d,d]=some (.val (.bl true))):zaf kC [.lst [bkD kC d0,zdw (e :: E),.lst (w :: ws)]]=some (.val (.bl true)):=by
 have hF:zbn kC [some (.val (.lst [bkD kC d0,zdw (e :: E),.lst (w :: ws)])),none,none,none]=some (.rt (.val (.bl true)) [some (.val (.lst [bkD kC d0,zdw (e :: E),.lst (w :: ws)])),some (.val (bkD kC d0)),some (.val (zdw (e :: E))),some (.val (.lst (w :: ws)))]):=by
  refine(show zbn kC _=_ from zbB (δ':=[some (.val (.lst [bkD kC d0,zdw (e :: E),.lst (w :: ws)])),some (.val (bkD kC d0)),some (.val (zdw (e :: E))),some (.val (.lst (w :: ws)))]) rfl).trans ((zbB ((fIfF rfl).trans rfl)).trans (zeO ((zen (mvI kC rfl h1) ((zen rfl (b:=w) ?_).trans h2)).trans h3)))
  exact ixLL rfl rfl (zc8 (by decide) rfl)
 exact(congrArg (fun o=>Option.bind o _) hF).trans rfl
theorem stok_none(ws:List D):StOk zaf (zcq (bkO (.val .non)) (zch []) ws):=fun kC=>⟨_,toD_st kC (d:=.non) (by simp only[toD]) [] ws,st_none kC ws⟩
theorem stok_some{E:BE}{n:Nat}{top:OT}{us zs:List (List Nat)}{w:List Nat}(h:K5 E n top us)(hl:us.length<=60)(hn:n<=16)(hr:rtO top=mkS w):StOk zaf (zcq (bkO top) (zch E) (SD (w :: zs))):=fun kC=>by
 obtain⟨d0,d,h1,h2,h3,h4⟩:=tree51 kC E n 16 16 top us h hl hn hn
 obtain⟨_,w',ks,os,vs,_,rfl,_,l,_⟩:=h.get
 refine⟨_,toD_st kC h1 E _,?_⟩
 have e0:∃ ds,d0=knD kC (mkS w') ks ds:=by
  unfold mkK at h1
  simp only[toD,toDs] at h1
  obtain⟨ds,q1,q⟩:=map_some h1
  subst q
  obtain⟨x1,q2,q1⟩:=bind_some q1
  obtain⟨x2,q3,q1⟩:=map_some q1
  obtain⟨x3,q4,q3⟩:=bind_some q3
  obtain⟨x4,q5,q4⟩:=map_some q4
  cases q2
  cases q3
  subst q1 q4
  exact⟨x4,rfl⟩
 obtain⟨ds,rfl⟩:=e0
 cases E with
 | nil=>cases l
 | cons e E=>
  rw[hr] at h3
  exact st_some kC (bt_some kC h2) h3 (zgX (3 * n) 50 d h4 (by lia))
theorem alph:("abcdefghijklmnopqrstuvwxyz" : Str).cps.toList=(List.range 26).map fun i=>97+i:=by decide +kernel
theorem deck_at(own:List Int)(k:Nat)(h:0<own.length):0<=(0+(k:Int)) % (own.length:Int)/\(0+(k:Int)) % (own.length:Int)<own.length:=⟨Int.emod_nonneg _ (by lia),Int.emod_lt_of_pos _ (by lia)⟩
theorem four_at(k:Nat):∃ m:Int,atI [D.int 48271,D.int 69621,D.int 39373,D.int 16807] ((0+(k:Int)) % 4)=some (.int m)/\0<=m/\m<=69621:=by
 have h:(0+(k:Int)) % 4=0 \/ (0+(k:Int)) % 4=1 \/ (0+(k:Int)) % 4=2 \/ (0+(k:Int)) % 4=3:=by lia
 rcases h with h | h | h | h <;> rw[h]
 ·exact⟨48271,rfl,by decide,by decide⟩
 ·exact⟨69621,rfl,by decide,by decide⟩
 ·exact⟨39373,rfl,by decide,by decide⟩
 ·exact⟨16807,rfl,by decide,by decide⟩
theorem p18:(10:Int) ^ (18:Int).toNat=1000000000000000000:=by decide
theorem g18:(0<=(18:Int)/\(18:Int)<=1000000)/\(10:Int).natAbs<18446744073709551616:=by decide
theorem pow18{δ:En}:ex2 gPow (eC (.int 10)) (eC (.int 18)) δ=some (.val (.int 1000000000000000000)):=by
 unfold ex2 eC gPow pI
 simp only[Option.bind_some,iOf,g18,and_self,zai,p18]
theorem divB{E F:FE}{δ:En}{a b:Int}(h1:E δ=some (.val (.int a)))(h2:F δ=some (.val (.int b)))(hb:0<b/\b<18446744073709551616):ex2 gDivB E F δ=some (.val (.int (a / b))):=by
 unfold ex2 gDivB pI
 simp only[h1,h2,Option.bind_some,iOf,hb,and_self,zai]
theorem deck_turn(c0 c1:Option Ent)(own row dk:List Int)(k:Nat)(x6 x7:Option Ent)(h0:0<own.length)(hr:row.length=own.length)(hk:k<1000)(hd:dk.length=k):∃ (row':List Int) (d:Int) (y6 y7:Option Ent),row'.length=own.length /\
  zbr [c0,c1,some (.val (.lst (own.map .int))),some (.own (row.map .int)),some (.own (dk.map .int)),some (.val (.int (0+(k:Int)))),x6,x7] =
  some (.nx [c0,c1,some (.val (.lst (own.map .int))),some (.own (row'.map .int)),some (.own ((dk ++ [d]).map .int)),some (.val (.int (0+(k:Int)))),y6,y7]):=by
 obtain⟨a1,a2⟩:=deck_at own k h0
 obtain⟨m,hm,m0,m1⟩:=four_at k
 have ow:atI (own.map D.int) ((0+(k:Int)) % (own.length:Int))=some (.int (own.getD ((0+(k:Int)) % (own.length:Int)).toNat 0)):=zdA D.int 0 a1 (by lia)
 have rw':atI (row.map D.int) ((0+(k:Int)) % (own.length:Int))=some (.int (row.getD ((0+(k:Int)) % (own.length:Int)).toNat 0)):=zdA D.int 0 a1 (by lia)
 have ix:ixN (row.map D.int).length ((0+(k:Int)) % (own.length:Int))=some ((0+(k:Int)) % (own.length:Int)).toNat:=by
  have:=ixN_nat (n:=(row.map D.int).length) (i:=((0+(k:Int)) % (own.length:Int)).toNat) (by rw[List.length_map];lia)
  rwa [Int.toNat_of_nonneg a1] at this
 have hlo:(own.map D.int).length=own.length:=List.length_map _
 have hdl:(dk.map D.int).length<1000000:=by rw[List.length_map];lia
 generalize hat:(0+(k:Int)) % (own.length:Int)=at' at *
 generalize own.getD at'.toNat 0=o at ow
 generalize hrr:row.getD at'.toNat 0=r at rw'
 have hb1:b64 (0+(k:Int)):=zev (by lia)
 have hps:0<(own.length:Int):=by lia
 have hb3:b64 ((o+(0+(k:Int)) * (0+(k:Int)) * 16807+3 * (0+(k:Int))) % 2147483629):=zev (by lia)
 have hb4:b64 ((o+(0+(k:Int)) * (0+(k:Int)) * 16807+3 * (0+(k:Int))) % 2147483629 * m+7):=by
  have h1:0<=(o+(0+(k:Int)) * (0+(k:Int)) * 16807+3 * (0+(k:Int))) % 2147483629:=by lia
  have h2:(o+(0+(k:Int)) * (0+(k:Int)) * 16807+3 * (0+(k:Int))) % 2147483629<=2147483629:=by lia
  generalize (o+(0+(k:Int)) * (0+(k:Int)) * 16807+3 * (0+(k:Int))) % 2147483629=u at h1 h2
  have h3:=Int.mul_nonneg h1 m0
  have h4:=Int.mul_le_mul h2 m1 m0 (by decide:(0:Int)<=2147483629)
  exact zev (by lia)
 have s1:ex2 zcr (zab 5) (eCB zbZ (zaa (zab 2) zag)) [c0,c1,some (.val (.lst (own.map .int))),some (.own (row.map .int)),some (.own (dk.map .int)),some (.val (.int (0+(k:Int)))),x6,x7]=some (.val (.int at')):=by
  rw[<- hat]
  simp (disch:=omega) only[ex2,zab,jqf,jqe,eCB,zaa,zag,jqc,jqa,zbZ,ze1,asL,hlo,zcr,pI,iOf,zcA,zai]
 have s2:∃ v,(ex2 zcj (ex2 zeY (ex2 zcr (ex2 zcj (ex2 zcj (ex2 zb5 (zab 2) (zab 6)) (ex2 zeY (ex2 zeY (zab 5) (zab 5)) (eC (.int 16807)))) (ex2 zeY (eC (.int 3)) (zab 5))) (eC (.int 2147483629))) (ex2 zb5 (zdb (zaa (eC (.int 48271)) (zaa (eC (.int 69621)) (zaa (eC (.int 39373)) (zaa (eC (.int 16807)) zag))))) (ex2 zcr (zab 5) (eC (.int 4))))) (eC (.int 7))) [c0,c1,some (.val (.lst (own.map .int))),some (.own (row.map .int)),some (.own (dk.map .int)),some (.val (.int (0+(k:Int)))),some (.val (.int at')),x7]=some (.val (.int v))/\b64 v:=by
  refine⟨_,?_,hb4⟩
  simp (disch:=omega) only[ex2,zab,jqf,jqe,zb5,asL,iOf,jqa,ow,jqc,zeY,pI,zd0,jrc,zai,eC,zcj,pI0,zcr,zcA,zdb,zaa,zag,jqp,jqq,Nat.reduceLeDiff,zfa,asV,jra,hm]
 obtain⟨v,s2,hv⟩:=s2
 have s3:∃ d:Int,(ex2 zb5 (zdb (zaa (ex2 zcr (ex2 zeY (zab 7) (zab 7)) (eC (.int 2147483629))) (zaa (ex2 zcr (ex2 zb5 (zab 3) (zab 6)) (ex2 gPow (eC (.int 10)) (eC (.int 18)))) zag))) (eCB zcG (zaa (ex2 gNe (ex2 zb5 (zab 3) (zab 6)) (eC (.int 0))) zag))) [c0,c1,some (.val (.lst (own.map .int))),some (.own (row.map .int)),some (.own (dk.map .int)),some (.val (.int (0+(k:Int)))),some (.val (.int at')),some (.val (.int v))]=some (.val (.int d)):=by
  have q1:=modI (E:=ex2 zb5 (zab 3) (zab 6)) (δ:=[c0,c1,some (.val (.lst (own.map .int))),some (.own (row.map .int)),some (.own (dk.map .int)),some (.val (.int (0+(k:Int)))),some (.val (.int at')),some (.val (.int v))]) (ixLW rfl rfl rw') pow18 (by decide)
  generalize ex2 zcr (ex2 zb5 (zab 3) (zab 6)) (ex2 gPow (eC (.int 10)) (eC (.int 18)))=EE at q1 ⊢
  by_cases hz:r=0
  ·refine⟨v * v % 2147483629,?_⟩
   have a0:atI [D.int (v * v % 2147483629),D.int (r % 1000000000000000000)] 0=some (.int (v * v % 2147483629)):=rfl
   simp (disch:=omega) only[ex2,zdb,zaa,zab,jqf,jqe,zeY,pI,iOf,jqa,hv,jrc,zai,eC,zcr,zcA,q1,hz,zag,jqc,jqp,jqq,Nat.reduceLeDiff,zfa,asV,jra,eCB,zb5,asL,rw',gNe,zfZ,jqy,jqt,zcG,jqr,jrb]
   rw[hz] at a0
   simp only[a0,Option.map_some]
  ·refine⟨r % 1000000000000000000,?_⟩
   have a0:atI [D.int (v * v % 2147483629),D.int (r % 1000000000000000000)] 1=some (.int (r % 1000000000000000000)):=rfl
   simp (disch:=omega) only[ex2,zdb,zaa,zab,jqf,jqe,zeY,pI,iOf,jqa,hv,jrc,zai,eC,zcr,zcA,q1,zag,jqc,jqp,jqq,Nat.reduceLeDiff,zfa,asV,jra,eCB,zb5,asL,rw',gNe,zfZ,hz,jqz,jqu,zcG,a0]
 obtain⟨d,s3⟩:=s3
 have s4:=divB (E:=ex2 zb5 (zab 3) (zab 6)) (δ:=[c0,c1,some (.val (.lst (own.map .int))),some (.own (row.map .int)),some (.own (dk.map .int ++ [.int d])),some (.val (.int (0+(k:Int)))),some (.val (.int at')),some (.val (.int v))]) (ixLW rfl rfl rw') pow18 (by decide)
 refine⟨row.set at'.toNat (r / 1000000000000000000),d,some (.val (.int at')),some (.val (.int v)),by rw[List.length_set];exact hr,?_⟩
 refine(show zbr _=_ from zbB (zel s1)).trans ((zbB (zel s2)).trans ((zbB (fAppI rfl s3 hdl)).trans ?_))
 rw[List.map_append,List.map_cons,List.map_nil,List.map_set]
 show fSIx 3 (zab 6) _ [c0,c1,some (.val (.lst (own.map .int))),some (.own (row.map .int)),some (.own (dk.map .int ++ [.int d])),some (.val (.int (0+(k:Int)))),some (.val (.int at')),some (.val (.int v))]=_
 unfold fSIx
 simp only[List.getElem?_cons_zero,List.getElem?_cons_succ,s4,Option.bind_some,asV]
 simp only[zab,jqf,jqe,jqa,iOf,jqh,jqg,ix,jqc]
theorem deck_loop(c0 c1:Option Ent)(own row:List Int)(n:Nat)(h0:0<own.length)(hr:row.length=own.length)(hn:n<=1000):∃ (row' dk:List Int) (y5 y6 y7:Option Ent),dk.length=n /\
  loop (gNm 5) zbr ((List.range n).map fun(i:Nat)=>D.int (0+(i:Int))) [c0,c1,some (.val (.lst (own.map .int))),some (.own (row.map .int)),some (.own []),none,none,none] =
  some (.nx [c0,c1,some (.val (.lst (own.map .int))),some (.own (row'.map .int)),some (.own (dk.map .int)),y5,y6,y7]):=by
 obtain⟨δ',w1,row',dk,y5,y6,y7,_,h1,rfl⟩:=zbE (tg:=gNm 5) (f:=zbr) (fun k δ=>∃ (row' dk:List Int) (y5 y6 y7:Option Ent),row'.length=own.length/\dk.length=k/\δ=[c0,c1,some (.val (.lst (own.map .int))),some (.own (row'.map .int)),some (.own (dk.map .int)),y5,y6,y7])
  ((List.range n).map fun(i:Nat)=>D.int (0+(i:Int))) 0 [c0,c1,some (.val (.lst (own.map .int))),some (.own (row.map .int)),some (.own []),none,none,none] (fun k d δ hd hδ=>by
   obtain⟨row',dk,y5,y6,y7,e1,e2,rfl⟩:=hδ
   have hk:k<n:=by have:=(List.getElem?_eq_some_iff.mp hd).1;simpa using this
   rw[List.getElem?_map,List.getElem?_range hk] at hd
   cases hd
   obtain⟨row2,d,z6,z7,f1,f2⟩:=deck_turn c0 c1 own row' dk k y6 y7 h0 e1 (by lia) (by lia)
   exact⟨_,_,rfl,.inl f2,row2,dk ++ [d],_,z6,z7,f1,by rw[List.length_append,e2];rfl,rfl⟩) ⟨row,[],none,none,none,hr,rfl,rfl⟩
 exact⟨row',dk,y5,y6,y7,by simpa using h1,w1⟩
theorem deck_comp(own:List Int)(δ:En):zc7 (fun d=>zek (cEn [] δ d)) (fun d=>zbt (cEn [] δ d)) (own.map D.int)=some ((own.map fun c=>c * (if c ≥ 1000000000000000000 then 1 else 0)).map D.int):=by
 induction own with
 | nil=>rfl
 | cons x xs ih=>
  rw[List.map_cons,zc7,ih]
  have q:zbt (cEn [] δ (D.int x))=some (.val (.int (x * (if x ≥ 1000000000000000000 then 1 else 0)))):=by
   unfold zbt cEn
   have p:=pow18 (δ:=some (Ent.val (D.int x)) :: [])
   have b1:b64 1:=zev (by decide)
   have b0:b64 0:=zev (by decide)
   generalize ex2 gPow (eC (.int 10)) (eC (.int 18))=EE at p ⊢
   by_cases hx:x ≥ 1000000000000000000
   ·simp only[ex2,zab,jqo,jqe,eCB,zaa,p,gGe,pI0,iOf,jqa,jqc,hx,jqy,zag,zcG,jra,zeY,pI,Int.reduceNeg,Int.reduceLT,jre,zd0,jrc,zai]
   ·simp only[ex2,zab,jqo,jqe,eCB,zaa,p,gGe,pI0,iOf,jqa,jqc,hx,jqz,zag,zcG,jqr,jrb,zeY,pI,Int.reduceNeg,Int.reduceLT,jre,zd0,jrc,zai]
  rw[q]
  rfl
theorem deck_ok(ns:List Int)(hn:ns.length<=63):∃ dk:List Int,dk.length=40/\zbR [.lst (ns.map .int),.int 40]=some (.own (dk.map .int)):=by
 obtain⟨own,h0,h1,s1⟩:∃ own:List Int,0<own.length/\own.length<=64/\(ex2 gCat (eCB zeB (zaa (zab 0) zag)) (ex2 gRep (zdb (zaa (eC (.int 0)) zag)) (eCB zcG (zaa (ex2 gEq (eCB zbZ (zaa (zab 0) zag)) (eC (.int 0))) zag)))) [some (.bor (ns.map .int)),some (.val (.int 40)),none,none,none,none,none,none]=some (.own (own.map .int)):=by
  have hl:(ns.map D.int).length=ns.length:=List.length_map _
  by_cases hz:ns.length=0
  ·refine⟨[0],by decide,by decide,?_⟩
   have hnil:ns=[]:=List.length_eq_zero_iff.mp hz
   subst hnil
   have hr:gRep (.own [.int 0]) (.val (.int 1))=some (.own [.int 0]):=by simp (decide:=true) only[gRep,asLt,iOf,Int.reduceNeg,jqa,jrf,zai];rfl
   simp (disch:=omega) only[ex2,eCB,zaa,zab,jqo,jqe,zag,jqc,jqa,zeB,ze1,asL,zdb,eC,jqp,jqq,Nat.reduceLeDiff,zfa,asV,jra,zbZ,Int.ofNat_zero,gEq,zfZ,jqy,zcG,hr,gCat,asLt,zbD,jqj,zai,jqn]
  ·refine⟨ns,by lia,by lia,?_⟩
   have hz':¬ (ns.length:Int)=0:=by lia
   have hr:gRep (.own [.int 0]) (.val (.int 0))=some (.own []):=by simp (decide:=true) only[gRep,asLt,iOf,Int.reduceNeg,jqa,jrf,zai];rfl
   simp (disch:=omega) only[ex2,eCB,zaa,zab,jqe,zag,jqc,jqa,zeB,ze1,asL,zdb,eC,jqp,jqq,Nat.reduceLeDiff,zfa,asV,jra,zbZ,hl,gEq,zfZ,hz',jqz,zcG,jqr,jrb,hr,gCat,asLt,jqk,zbD,zai]
 obtain⟨row',dk,y5,y6,y7,h2,s3⟩:=deck_loop (some (.bor (ns.map .int))) (some (.val (.int 40))) own (own.map fun c=>c * (if c ≥ 1000000000000000000 then 1 else 0)) 40 h0 (by simp) (by decide)
 have s2:eLC [] (iL (zab 2)) zek zbt [some (.bor (ns.map .int)),some (.val (.int 40)),some (.val (.lst (own.map .int))),none,none,none,none,none]=some (.own ((own.map fun c=>c * (if c ≥ 1000000000000000000 then 1 else 0)).map .int)):=
  zgw rfl (deck_comp own _) (by simp;lia)
 refine⟨dk.reverse,by rw[List.length_reverse];exact h2,?_⟩
 suffices hF:zcB [some (.bor (ns.map .int)),some (.val (.int 40)),none,none,none,none,none,none]=some (.rt (.own (dk.reverse.map .int)) [some (.bor (ns.map .int)),some (.val (.int 40)),some (.val (.lst (own.map .int))),some (.own (row'.map .int)),some (.own (dk.map .int)),y5,y6,y7]) from (congrArg (fun o=>Option.bind o _) hF).trans rfl
 have hb:b62 40:=zck (by decide)
 generalize own.map D.int=ow at *
 generalize (own.map fun c=>c * (if c ≥ 1000000000000000000 then 1 else 0)).map D.int=rw0 at *
 refine(show zcB _=_ from zbB (zf8 s1)).trans ?_
 simp only[fFrz,List.set_cons_succ,List.set_cons_zero,List.getElem?_cons_zero,List.getElem?_cons_succ]
 refine(zbB (zf8 s2)).trans ((zbB (zf8 (show zdb zag _=some (.own []) from rfl))).trans ((forN (ds:=(List.range 40).map fun(i:Nat)=>D.int (0+(i:Int))) ?_ s3).trans ?_))
 ·simp only[iR1,zaa,zab,jqf,jqe,zag,jqc,jqa,iOf,Int.reduceNeg,Int.reduceLT,jre,zcX,zai];rfl
 ·rw[List.map_reverse];rfl
theorem xP_i{fe:FE}{δ:En}{d:D}(h:fe δ=some (.val d)):xP fe δ=some (d,δ):=by unfold xP;rw[h];rfl
theorem x2_i{g:Ent->Ent->Option Ent}{fa fb:FXE}{δ δ1 δ2:En}{a b d:D}(h1:fa δ=some (a,δ1))(h2:fb δ1=some (b,δ2))(h3:g (.val a) (.val b)=some (.val d)):x2 g fa fb δ=some (d,δ2):=by
 unfold x2;rw[h1];simp only[Option.bind_some];rw[h2];simp only[Option.bind_some,h3,asV,Option.map_some]
theorem xC_i{fe:FXE}{fa:FXA}{δ δ1 δ2:En}{d:D}{ds:List D}(h1:fe δ=some (d,δ1))(h2:fa δ1=some (ds,δ2)):zcu fe fa δ=some (d :: ds,δ2):=by
 unfold zcu;rw[h1];simp only[Option.bind_some];rw[h2];rfl
theorem xCO_i{i:Nat}{g:GM}{fs:FXA}{δ δ1:En}{o0 o o':OT}{ds:List D}{d:D}(h0:oAt i δ=some o0)(h1:fs δ=some (ds,δ1))(h2:oAt i δ1=some o)(h3:g o ds=some (d,o')):xCO i g fs δ=some (d,δ1.set i (some (.obj o'))):=by
 unfold xCO;rw[h0];simp only[Option.bind_some];rw[h1];simp only[Option.bind_some];rw[h2];simp only[Option.bind_some];rw[h3];rfl
theorem fXSet_i{i:Nat}{fx:FXE}{δ δ1:En}{d:D}(h:fx δ=some (d,δ1)):zg8 i fx δ=some (.nx (δ1.set i (some (.val d)))):=by unfold zg8;rw[h];rfl
theorem fXRet_i{fx:FXE}{δ δ1:En}{d:D}(h:fx δ=some (d,δ1)):fXRet fx δ=some (.rt (.val d) δ1):=by unfold fXRet;rw[h];rfl
theorem pop_i(dk:List Int)(h:0<dk.length)(i:Nat){δ:En}(hi:oAt i δ=some (.lst (dk.map .int))):∃ d:Int,xPop i δ=some (.int d,δ.set i (some (.obj (.lst (dk.dropLast.map .int))))):=by
 refine⟨dk[dk.length - 1],?_⟩
 unfold xPop
 rw[hi]
 simp only[Option.bind_some,lOf,List.length_map,List.getElem?_map,List.getElem?_eq_getElem (show dk.length - 1<dk.length by lia),Option.map_some,List.map_dropLast]
theorem alphl:("abcdefghijklmnopqrstuvwxyz" : Str).length=26:=by decide +kernel
theorem sign_ok(turn num:Int)(h:0<=turn/\turn<208)(hn:0<=num/\num<10):∃ c,zbx [.int turn,.int num]=some (.val (.str (mkS [c]))):=by
 have b1:b64 num:=zev (by lia)
 have i0:0<=(turn+num * (1+turn / 26 % 8)) % 26:=by lia
 have i1:(turn+num * (1+turn / 26 % 8)) % 26<26:=by lia
 have ha:atI ("abcdefghijklmnopqrstuvwxyz" : Str).cps.toList ((turn+num * (1+turn / 26 % 8)) % 26)=some (97+(List.range 26).getD ((turn+num * (1+turn / 26 % 8)) % 26).toNat 0):=by
  rw[alph]
  exact zdA (fun i=>97+i) 0 i0 (by simp;lia)
 refine⟨97+(List.range 26).getD ((turn+num * (1+turn / 26 % 8)) % 26).toNat 0,?_⟩
 simp (disch:=omega) only[zbx,zcs,stE,stN,jqc,jqa,zc4,zb4,ex2,eC,zab,List.replicate,jqk,zfY,pI,iOf,zeF,zai,zcr,zcA,zcj,pI0,zeY,zhq,sOf,alphl,zbD,toN,jqe,jqf,zd0,jrc,ha,zf0]
theorem put_none(w:List Nat):zax (bkO (.val .non)) [.str (mkS w)]=some (.bl true,bkO (mkK (mkS w) [] [])):=by
 have ic:isC "Book" ["top"] (bkO (.val .non))=some [.val .non]:=zdq
 have h1:eFIs 0 "Book" ["top"] 0 [some (.obj (bkO (.val .non))),some (.val (.str (mkS w)))]=some (.val (.bl true)):=by
  show(((isC "Book" ["top"] (bkO (.val .non)))).bind _)=_
  rw[ic]
  rfl
 have h2:zcQ "Knot" zar (zaa (zab 1) zag) [some (.obj (bkO (.val .non))),some (.val (.str (mkS w)))]=some (.obj (mkK (mkS w) [] [])):=by
  show((zar (.ins "Knot" [] []) [.str (mkS w)]).bind _)=_
  rw[kinit]
  rfl
 have h3:fFSet 0 "Book" ["top"] 0 (zcQ "Knot" zar (zaa (zab 1) zag)) [some (.obj (bkO (.val .non))),some (.val (.str (mkS w)))]=some (.nx [some (.obj (bkO (mkK (mkS w) [] []))),some (.val (.str (mkS w)))]):=by
  unfold fFSet
  rw[h2]
  show(((isC "Book" ["top"] (bkO (.val .non)))).bind _)=_
  rw[ic]
  rfl
 have hF:zbz [some (.obj (bkO (.val .non))),some (.val (.str (mkS w)))]=some (.rt (.val (.bl true)) [some (.obj (bkO (mkK (mkS w) [] []))),some (.val (.str (mkS w)))]):=
  (show zbz _=_ from fSeqR ((fIfT (by unfold tOf;rw[h1];rfl)).trans ((zbB h3).trans rfl)))
 unfold zax zfM
 rw[if_pos (show [D.str (mkS w)].length=1 from rfl)]
 show(zbz [some (.obj (bkO (.val .non))),some (.val (.str (mkS w)))]).bind endM=_
 rw[hF]
 rfl
theorem zdW(w:List Nat){v:Str}{ks:List Int}{os:List OT}{b:Bool}{x':OT}(h:zdn zak (mkS w) 1000 (mkK v ks os)=some (b,x')):zax (bkO (mkK v ks os)) [.str (mkS w)]=some (.bl b,bkO x'):=by
 have ic:isC "Book" ["top"] (bkO (mkK v ks os))=some [mkK v ks os]:=zdq
 have h1:eFIs 0 "Book" ["top"] 0 [some (.obj (bkO (mkK v ks os))),some (.val (.str (mkS w)))]=some (.val (.bl false)):=by
  show(((isC "Book" ["top"] (bkO (mkK v ks os)))).bind _)=_
  rw[ic]
  rfl
 have hh:zez (mkK v ks os) [.str (mkS w)]=some (.bl b,x'):=by
  show((zdn zak (mkS w) 1000 (mkK v ks os)).map fun p=>Out.rt (.val (.bl p.1)) [some (.obj p.2),some (.val (.str (mkS w))),none,none]).bind endM=_
  rw[h]
  rfl
 have h2:xCOF 0 "Book" ["top"] 0 zez (zaa (zab 1) zag) [some (.obj (bkO (mkK v ks os))),some (.val (.str (mkS w)))]=some (.bl b,[some (.obj (bkO x')),some (.val (.str (mkS w)))]):=by
  show(((isC "Book" ["top"] (bkO (mkK v ks os)))).bind _)=_
  rw[ic]
  show((zez (mkK v ks os) [.str (mkS w)]).map _)=_
  rw[hh]
  rfl
 have hF:zbz [some (.obj (bkO (mkK v ks os))),some (.val (.str (mkS w)))]=some (.rt (.val (.bl b)) [some (.obj (bkO x')),some (.val (.str (mkS w)))]):=
  (show zbz _=_ from zbB ((fIfF (by unfold tOf;rw[h1];rfl)).trans rfl)).trans (fXRet_i h2)
 unfold zax zfM
 rw[if_pos (show [D.str (mkS w)].length=1 from rfl)]
 show(zbz [some (.obj (bkO (mkK v ks os))),some (.val (.str (mkS w)))]).bind endM=_
 rw[hF]
 rfl
theorem fGoes_i{gst:GK}{fe2:FE}{fx3:FXE}{ft4 ft5:FT}{fk5:FK}{fx6 fx7:FXE}{b d b6 d6 b8 d8:OT}{ws:List D}{k:Int}{d2 d3 r6:D}{δ3 δ5 δ6 δ7:En}{b5:Bool}
  (h2:fe2 [none,some (.val (.int k)),some (.obj b),some (.obj d),some (.val (.lst ws)),none,none]=some (.val d2)) (h3:fx3 [none,some (.val (.int k)),some (.obj b),some (.obj d),some (.val (.lst ws)),some (.val d2),none]=some (d3,δ3))
  (h4:ft4 (δ3.set 6 (some (.val d3)))=some false) (h5:ft5 (δ3.set 6 (some (.val d3)))=some b5) (h5':(if b5=true then fk5 (δ3.set 6 (some (.val d3))) else some (δ3.set 6 (some (.val d3))))=some δ5) (h6:fx6 δ5=some (r6,δ6)) (o6:oAt 2 δ6=some b6) (p6:oAt 3 δ6=some d6) (s6:StOk gst (zcq b6 d6 ws))
  (h7:fx7 δ6=some (.bl true,δ7)) (o8:oAt 2 δ7=some b8) (p8:oAt 3 δ7=some d8) (s8:StOk gst (zcq b8 d8 ws)) :
  fGoes gst fe2 fx3 ft4 ft5 fk5 fx6 fx7 [some (.obj (zcq b d ws)),some (.val (.int k)),none,none,none,none,none]=some (.rt (.val (.bl true)) [some (.obj (zcq b8 d8 ws)),none,none,none,none,none,none]):=by
 show((fe2 [none,some (.val (.int k)),some (.obj b),some (.obj d),some (.val (.lst ws)),none,none]).bind asV).bind _=_
 rw[h2]
 show(fx3 [none,some (.val (.int k)),some (.obj b),some (.obj d),some (.val (.lst ws)),some (.val d2),none]).bind _=_
 rw[h3]
 show(ft4 (δ3.set 6 (some (.val d3)))).bind _=_
 rw[h4]
 show(ft5 (δ3.set 6 (some (.val d3)))).bind _=_
 rw[h5]
 show(if b5=true then fk5 (δ3.set 6 (some (.val d3))) else some (δ3.set 6 (some (.val d3)))).bind _=_
 rw[h5']
 show(fx6 δ5).bind _=_
 rw[h6]
 show(oAt 2 δ6).bind _=_
 rw[o6]
 show(oAt 3 δ6).bind _=_
 rw[p6]
 refine(zdB s6).trans ?_
 rw[h7]
 show(oAt 2 δ7).bind _=_
 rw[o8]
 show(oAt 3 δ7).bind _=_
 rw[p8]
 exact zdB s8
theorem lput_i{E E':BE}{a t w':Str}{c':Option Ent}(h:whl zbH zba 1000 (pfr E a t a none)=some (.nx (pfr E' a t w' c'))):zbM (zch E) [.str a,.str t]=some (.non,zch E'):=by
 have hF:zco [some (.obj (zch E)),some (.val (.str a)),some (.val (.str t)),none,none]=some (.nx (pfr E' a t w' c')):=(show zco _=_ from zdZ rfl).trans h
 unfold zbM zfM
 rw[if_pos (show [D.str a,D.str t].length=2 from rfl)]
 show(zco [some (.obj (zch E)),some (.val (.str a)),some (.val (.str t)),none,none]).bind endM=_
 rw[hF]
 rfl
theorem xMput{top top':OT}{w:Str}{b:Bool}{c0 c1 c3 c4 c6:Option Ent}(h:zax (bkO top) [.str w]=some (.bl b,bkO top')):xM 2 "Book" ["top"] zax (zaa (zab 5) zag) [c0,c1,some (.obj (bkO top)),c3,c4,some (.val (.str w)),c6]=some (.bl b,[c0,c1,some (.obj (bkO top')),c3,c4,some (.val (.str w)),c6]):=by
 have ic:isC "Book" ["top"] (bkO top)=some [top]:=zdq
 show((isC "Book" ["top"] (bkO top)).bind fun _=>_)=_
 rw[ic]
 show((zax (bkO top) [.str w]).map _)=_
 rw[h]
 rfl
theorem goes_i{E E1 E':BE}{top top':OT}{zs:List (List Nat)}{z0 w:List Nat}{k:Int}{b:Bool}(hz:atI (SD zs) 0=some (.str (mkS z0)))(hw:atI (SD zs) k=some (.str (mkS w)))(hp:zax (bkO top) [.str (mkS w)]=some (.bl b,bkO top'))(hb:b=!(ixS (zbw E) (mkS w)).isSome)
  (hE:(E=[]/\E1=[(mkS w,[],[])]) \/ (E ≠ []/\E1=E)) (hl:zbM (zch E1) [.str (mkS z0),.str (mkS w)]=some (.non,zch E')) (hs:StOk zaf (zcq (bkO top') (zch E') (SD zs))) (hp2:zax (bkO top') [.str (mkS w)]=some (.bl false,bkO top')) :
  zaN (zcq (bkO top) (zch E) (SD zs)) [.int k]=some (.bl true,zcq (bkO top') (zch E') (SD zs)):=by
 generalize SD zs=Z at *
 have hF:zct [some (.obj (zcq (bkO top) (zch E) Z)),some (.val (.int k)),none,none,none,none,none]=some (.rt (.val (.bl true)) [some (.obj (zcq (bkO top') (zch E') Z)),none,none,none,none,none,none]):=by
  have h6:xCO 3 zbM (zcu (xP (ex2 zb5 (zab 4) (eC (.int 0)))) (zcu (xP (zab 5)) zhs)) [none,some (.val (.int k)),some (.obj (bkO top')),some (.obj (zch E1)),some (.val (.lst Z)),some (.val (.str (mkS w))),some (.val (.bl b))]=some (.non,[none,some (.val (.int k)),some (.obj (bkO top')),some (.obj (zch E')),some (.val (.lst Z)),some (.val (.str (mkS w))),some (.val (.bl b))]):=
   (xCO_i (i:=3) (δ1:=[none,some (.val (.int k)),some (.obj (bkO top')),some (.obj (zch E1)),some (.val (.lst Z)),some (.val (.str (mkS w))),some (.val (.bl b))]) (o0:=zch E1) (o:=zch E1) rfl (xC_i (xP_i (ixLL rfl rfl hz)) (xC_i (xP_i rfl) rfl)) rfl hl).trans rfl
  refine fGoes_i (δ5:=[none,some (.val (.int k)),some (.obj (bkO top')),some (.obj (zch E1)),some (.val (.lst Z)),some (.val (.str (mkS w))),some (.val (.bl b))]) (δ6:=[none,some (.val (.int k)),some (.obj (bkO top')),some (.obj (zch E')),some (.val (.lst Z)),some (.val (.str (mkS w))),some (.val (.bl b))])
   (δ7:=[none,some (.val (.int k)),some (.obj (bkO top')),some (.obj (zch E')),some (.val (.lst Z)),some (.val (.str (mkS w))),some (.val (.bl b))]) (ixLL rfl rfl hw) (xMput hp) ?_ (b5:=(zbw E).isEmpty) rfl ?_ h6 rfl rfl hs ?_ rfl rfl hs
  ·have t1:("bool" == "bool")=true:=rfl
   have e:eNiS 3 (zab 5) [none,some (.val (.int k)),some (.obj (bkO top')),some (.obj (zch E)),some (.val (.lst Z)),some (.val (.str (mkS w))),some (.val (.bl b))]=some (.val (.bl b)):=by rw[hb];rfl
   show fOr _ _ [none,some (.val (.int k)),some (.obj (bkO top')),some (.obj (zch E)),some (.val (.lst Z)),some (.val (.str (mkS w))),some (.val (.bl b))]=_
   simp only[fOr,fNot,tOf,ex1,zab,jqf,jqe,jqa,zhu,obD,jqr,isiD,tyN,t1,Bool.true_or,jrb,bOf,jqc,jqt,ex2,e,gNe,zfZ,jqy]
  ·rcases hE with ⟨rfl,rfl⟩ | ⟨h1,rfl⟩
   ·rfl
   ·rw[if_neg (by cases E1 with | nil=>exact absurd rfl h1 | cons _ _=>exact Bool.false_ne_true)]
    rfl
  ·exact x2_i (xMput hp2) (xP_i rfl) rfl
 unfold zaN zfM
 rw[if_pos (show [D.int k].length=1 from rfl)]
 show(zct [some (.obj (zcq (bkO top) (zch E) Z)),some (.val (.int k)),none,none,none,none,none]).bind endM=_
 rw[hF]
 rfl
noncomputable def Sp5(zs:List (List Nat))(k:Nat)(o:OT):Prop:=(k=0/\o=zcq (bkO (.val .non)) (zch []) (SD zs)) \/ ∃ E n top us w zs',0<k/\o=zcq (bkO top) (zch E) (SD zs)/\K5 E n top us/\us.Nodup/\n<=k/\us.length<=k/\E.length<=k/\(∀ u,mkS u ∈ zbw E ↔ u ∈ us)/\(∀ u ∈ us,u.length<=8)/\zs=w :: zs'/\rtO top=mkS w
theorem Sp5.stok{zs:List (List Nat)}{k:Nat}{o:OT}(h:Sp5 zs k o)(hk:k<=16):StOk zaf o:=by
 rcases h with ⟨_,rfl⟩ | ⟨E,n,top,us,w,zs',_,rfl,h1,_,h2,h3,_,_,_,rfl,h4⟩
 ·exact stok_none _
 ·exact stok_some h1 (by lia) (by lia) h4
theorem SD_at(zs:List (List Nat)){k:Nat}{w:List Nat}(h:zs[k]? = some w):atI (SD zs) (k:Int)=some (.str (mkS w)):=by
 refine zc8 (by lia) ?_
 unfold SD
 rw[show((k:Int)).toNat=k by lia,List.getElem?_map,h]
 rfl
theorem Sp5.goes{zs:List (List Nat)}{k:Nat}{o:OT}(h:Sp5 zs k o)(hk:k<zs.length)(hz:zs.length<=14)(hl:∀ u ∈ zs,u.length<=8):∃ o',zaN o [.int k]=some (.bl true,o')/\Sp5 zs (k+1) o':=by
 have hw:zs[k]? = some zs[k]:=List.getElem?_eq_getElem hk
 have lw:zs[k].length<=8:=hl _ (List.getElem_mem hk)
 generalize zs[k]=w at hw lw
 have n16:k+1<=16:=by lia
 rcases h with ⟨rfl,rfl⟩ | ⟨E,n,top,us,z0,zs',k0,rfl,h1,h2,h3,h4,h5,h6,h7,rfl,h8⟩
 ·have kb:K5 [(mkS w,[],[])] 1 (mkK (mkS w) [] []) [w]:=K5.mk (by show(if mkS w=mkS w then _ else _)=_;rw[if_pos rfl];rfl) .nil
  obtain⟨zs',rfl⟩:∃ zs',zs=w :: zs':=by
   cases zs with
   | nil=>cases hw
   | cons a b=>cases hw;exact⟨b,rfl⟩
  have sp:Sp5 (w :: zs') (0+1) (zcq (bkO (mkK (mkS w) [] [])) (zch [(mkS w,[],[])]) (SD (w :: zs'))):=.inr ⟨_,1,_,[w],w,zs',by lia,rfl,kb,by simp,by lia,by simp,by simp,fun u=>by
   show mkS u ∈ [mkS w] ↔ u ∈ [w]
   rw[List.mem_singleton,List.mem_singleton]
   exact⟨ze4,fun e=>by rw[e]⟩,fun u hu=>by rw[List.mem_singleton.mp hu];exact lw,rfl,rfl⟩
  refine⟨_,goes_i (z0:=w) (SD_at (w :: zs') (k:=0) rfl) (SD_at (w :: zs') (k:=0) hw) (put_none w) rfl (.inl ⟨rfl,rfl⟩) (lput_i (w':=mkS w) (c':=none) (zgc (pw_no (by simp[zbw])))) (sp.stok n16) ?_,sp⟩
  exact zdW w (zf4 _ w (by lia) 1 1000 _ [w] kb (fun u hu=>by rw[List.mem_singleton.mp hu];lia) List.mem_cons_self (by lia))
 ·have ne:E ≠ []:=fun e=>by
   obtain⟨_,w',_,_,_,_,_,rfl,_⟩:=h1.get
   have:=(h6 w').mpr List.mem_cons_self
   rw[e] at this
   cases this
  have hz0:=SD_at (z0 :: zs') (k:=0) (w:=z0) rfl
  by_cases hm:w ∈ us
  ·have hin:=(h6 w).mpr hm
   have sp:Sp5 (z0 :: zs') (k+1) (zcq (bkO top) (zch E) (SD (z0 :: zs'))):=.inr ⟨E,n,top,us,z0,zs',by lia,rfl,h1,h2,by lia,by lia,by lia,h6,h7,rfl,h8⟩
   have hp:zax (bkO top) [.str (mkS w)]=some (.bl false,bkO top):=by
    have hh:=zf4 E w (by lia) n 1000 top us h1 (fun u hu=>by have:=h7 u hu;lia) hm (by lia)
    obtain⟨_,_,_,_,_,_,rfl,_,_⟩:=h1.get
    exact zdW w hh
   refine⟨_,goes_i hz0 (SD_at _ hw) hp ?_ (.inr ⟨ne,rfl⟩) (lput_i (w':=mkS z0) (c':=none) (zgc (pw_no hin))) (sp.stok n16) hp,sp⟩
   rcases zeP (mkS w) E with ⟨_,_,q⟩ | ⟨_,_,q,_⟩
   ·exact absurd hin q
   ·rw[q];rfl
  ·have hno:mkS w ∉ zbw E:=fun z=>hm ((h6 w).mp z)
   obtain⟨j,wl,ks,ws,p,x',us',w',c',q0,q1,q1',q2,q3,q4,q5,q6⟩:=walk51 E w (mkS z0) (by lia) hno (by lia) n 1000 1000 top us none h1 h2 (fun u hu=>by have:=h7 u hu;lia) hm (by lia) (by lia) (by lia)
   have hlen:=q4.length_eq
   have hE:(zg9 E j (mkS wl) ks ws p (mkS w)).length=E.length+1:=by unfold zg9;rw[List.length_append,List.length_set];rfl
   rw[List.length_cons] at hlen
   have l8:∀ u ∈ us',u.length<=8:=fun u hu=>by
    rcases List.mem_cons.mp (q4.mem_iff.mp hu) with z | z
    ·rw[z];exact lw
    ·exact h7 u z
   have sp:Sp5 (z0 :: zs') (k+1) (zcq (bkO x') (zch (zg9 E j (mkS wl) ks ws p (mkS w))) (SD (z0 :: zs'))):=.inr ⟨_,n+1,x',us',z0,zs',by lia,rfl,q3,q4.nodup_iff.mpr (List.nodup_cons.mpr ⟨hm,h2⟩),by lia,by lia,by lia,fun u=>by
    rw[add_key q1,List.mem_append,List.mem_singleton,h6,q4.mem_iff,List.mem_cons]
    exact⟨fun z=>z.elim .inr fun z=>.inl (ze4 z),fun z=>z.elim (fun z=>.inr (by rw[z])) .inl⟩,l8,rfl,q5.trans h8⟩
   have hp:zax (bkO top) [.str (mkS w)]=some (.bl true,bkO x'):=by
    obtain⟨_,_,_,_,_,_,rfl,_,_⟩:=h1.get
    exact zdW w q2
   have hp2:zax (bkO x') [.str (mkS w)]=some (.bl false,bkO x'):=by
    have hh:=zf4 _ w (by lia) (n+1) 1000 x' us' q3 (fun u hu=>by have:=l8 u hu;lia) (q4.mem_iff.mpr List.mem_cons_self) (by lia)
    obtain⟨_,_,_,_,_,_,rfl,_,_⟩:=q3.get
    exact zdW w hh
   rw[h8] at q6
   refine⟨_,goes_i hz0 (SD_at _ hw) hp ?_ (.inr ⟨ne,rfl⟩) (lput_i q6) (sp.stok n16) hp2,sp⟩
   rcases zeP (mkS w) E with ⟨q,_⟩ | ⟨_,_,_,_,_,q⟩
   ·rw[q];rfl
   ·exact absurd q hno
theorem lt_is{zs:List (List Nat)}{b d:OT}{k:Nat}(hd:∀ kC,∃ d0,toD kC (zcq b d (SD zs))=some d0):LtIs zb1 (k:Int) (zcq b d (SD zs)) (decide (k<zs.length)):=fun kC=>by
 obtain⟨d0,h⟩:=hd kC
 refine⟨d0,h,?_⟩
 unfold zcq at h
 simp only[toD,toDs] at h
 obtain⟨ds,q1,rfl⟩:=map_some h
 obtain⟨x1,q2,q1⟩:=bind_some q1
 obtain⟨x2,q3,rfl⟩:=map_some q1
 obtain⟨x3,q4,q3⟩:=bind_some q3
 obtain⟨x4,q5,rfl⟩:=map_some q3
 cases q5
 have e1:ex2 zb5 (zab 5) (eC (.int 2)) [none,none,none,none,some (.val (.int (k:Int))),some (.val (.lst [x1,x3,.lst (SD zs)]))]=some (.val (.lst (SD zs))):=ixLL rfl rfl (zc8 (by decide) rfl)
 have e2:eCB zbZ (zaa (ex2 zb5 (zab 5) (eC (.int 2))) zag) [none,none,none,none,some (.val (.int (k:Int))),some (.val (.lst [x1,x3,.lst (SD zs)]))]=some (.val (.int (zs.length:Int))):=by
  unfold eCB
  unfold zaa zag
  rw[e1]
  show some (Ent.val (.int ((SD zs).length:Int)))=_
  unfold SD
  rw[List.length_map]
 have e3:=ltII (E:=zab 4) (F:=eCB zbZ (zaa (ex2 zb5 (zab 5) (eC (.int 2))) zag)) (δ:=[none,none,none,none,some (.val (.int (k:Int))),some (.val (.lst [x1,x3,.lst (SD zs)]))]) (a:=(k:Int)) rfl e2
 refine(show zb1 _=_ from e3).trans ?_
 congr 1
 exact decide_eq_decide.mpr (by lia)
theorem Sp5.toD{zs:List (List Nat)}{k:Nat}{o:OT}(h:Sp5 zs k o)(hk:k<=16):∃ b d,o=zcq b d (SD zs)/\∀ kC,∃ d0,L3.toD kC o=some d0:=by
 have ok:=h.stok hk
 have hd:∀ kC,∃ d0,L3.toD kC o=some d0:=fun kC=>let⟨d0,q,_⟩:=ok kC;⟨d0,q⟩
 rcases h with ⟨_,rfl⟩ | ⟨E,n,top,us,w,zs',_,rfl,_⟩
 ·exact⟨_,_,rfl,hd⟩
 ·exact⟨_,_,rfl,hd⟩
theorem Sp5.step{zs:List (List Nat)}{k:Nat}{o:OT}(h:Sp5 zs (min k zs.length) o)(hz:zs.length<=14)(hl:∀ u ∈ zs,u.length<=8):∃ o',zfR zaf zb1 zaN (k:Int) o=some o'/\Sp5 zs (min (k+1) zs.length) o':=by
 obtain⟨b,d,rfl,hd⟩:=h.toD (by lia)
 have lt:=lt_is (zs:=zs) (b:=b) (d:=d) (k:=k) hd
 have ok:=h.stok (by lia)
 by_cases hk:k<zs.length
 ·rw[decide_eq_true hk] at lt
  rw[Nat.min_eq_left (by lia)] at h
  obtain⟨o',g1,g2⟩:=h.goes hk hz hl
  refine⟨o',?_,by rw[Nat.min_eq_left (by lia)];exact g2⟩
  unfold zfR
  rw[zdB ok,if_pos lt,g1]
  rfl
 ·rw[decide_eq_false hk] at lt
  rw[Nat.min_eq_right (by lia)] at h
  refine⟨_,?_,by rw[Nat.min_eq_right (by lia)];exact h⟩
  have no:¬ LtIs zb1 (k:Int) (zcq b d (SD zs)) true:=fun z=>by
   obtain⟨d0,q1,q2⟩:=z fun _=>0
   obtain⟨d1,q3,q4⟩:=lt fun _=>0
   rw[q1] at q3
   cases q3
   rw[q2] at q4
   cases q4
  unfold zfR
  rw[zdB ok,if_neg no,zdB lt]
theorem long_ok(c:Int):∃ L:Int,atI [D.int (c % 9),D.int (c % 5),D.int (c % 7)] (c / 45 % 3)=some (.int L)/\0<=L/\L<=8:=by
 have h:c / 45 % 3=0 \/ c / 45 % 3=1 \/ c / 45 % 3=2:=by lia
 rcases h with h | h | h <;> rw[h]
 ·exact⟨c % 9,rfl,by lia,by lia⟩
 ·exact⟨c % 5,rfl,by lia,by lia⟩
 ·exact⟨c % 7,rfl,by lia,by lia⟩
theorem word_turn(few turn c:Int)(t:List Nat)(x4 x5:Option Ent)(hf:2<=few/\few<=5)(ht:0<=turn/\turn<208)(hl:t.length<1000):∃ (ch:Nat) (c':Int),
  zbT [some (.val (.int c)),some (.val (.int few)),some (.val (.int turn)),some (.val (.str (mkS t))),x4,x5]=some (.nx [some (.val (.int c')),some (.val (.int few)),some (.val (.int turn)),some (.val (.str (mkS (t ++ [ch])))),x4,x5]):=by
 obtain⟨ch,hs⟩:=sign_ok turn (c % few) ht ⟨Int.emod_nonneg _ (by lia),by have:=Int.emod_lt_of_pos c (show 0<few by lia);lia⟩
 refine⟨ch,c / few,?_⟩
 have e1:ex2 zcr (zab 0) (zab 1) [some (.val (.int c)),some (.val (.int few)),some (.val (.int turn)),some (.val (.str (mkS t))),x4,x5]=some (.val (.int (c % few))):=modI rfl rfl (by lia)
 refine(show zbT _=_ from zbB (zel (v:=.str (mkS (t ++ [ch]))) ?_)).trans (zel (divI rfl rfl (by lia)))
 have e2:zaV [.v,.v] zbx (zaa (zab 2) (zaa (ex2 zcr (zab 0) (zab 1)) zag)) [some (.val (.int c)),some (.val (.int few)),some (.val (.int turn)),some (.val (.str (mkS t))),x4,x5]=some (.val (.str (mkS [ch]))):=(zen rfl e1).trans hs
 generalize zaV [.v,.v] zbx (zaa (zab 2) (zaa (ex2 zcr (zab 0) (zab 1)) zag))=CC at e2 ⊢
 have hz:t.length+1<=1000000:=by lia
 simp only[ex2,zab,jqf,jqe,e2,gAddS,sOf,jqa,zcv,jqp,jqq,hz,zbD,mkS_app,zai]
theorem word_ok(c few turn:Int)(hf:2<=few/\few<=5)(ht:0<=turn/\turn<208):∃ w:List Nat,w.length<=8/\zcx [.int c,.int few,.int turn]=some (.val (.str (mkS w))):=by
 obtain⟨L,hL,l0,l8⟩:=long_ok c
 obtain⟨δ',w1,t,c',x5,h1,rfl⟩:=zbE (tg:=gNm 5) (f:=zbT) (fun k δ=>∃ (t:List Nat) (c':Int) (x5:Option Ent),t.length=k/\δ=[some (.val (.int c')),some (.val (.int few)),some (.val (.int turn)),some (.val (.str (mkS t))),some (.val (.int L)),x5])
  ((List.range L.toNat).map fun(i:Nat)=>D.int (0+(i:Int))) 0 [some (.val (.int (c / 315))),some (.val (.int few)),some (.val (.int turn)),some (.val (.str (mkS []))),some (.val (.int L)),none] (fun k d δ hd hδ=>by
   obtain⟨t,c',x5,e1,rfl⟩:=hδ
   have hk:k<L.toNat:=by have:=(List.getElem?_eq_some_iff.mp hd).1;simpa using this
   obtain⟨ch,c2,e⟩:=word_turn few turn c' t (some (.val (.int L))) (some (.val d)) hf ht (by lia)
   exact⟨_,_,rfl,.inl e,t ++ [ch],c2,_,by rw[List.length_append,e1];rfl,rfl⟩) ⟨[],_,none,rfl,rfl⟩
 rw[List.length_map,List.length_range,Nat.zero_add] at h1
 refine⟨t,by lia,?_⟩
 have s2:ex2 zb5 (zdb (zaa (ex2 zcr (zab 0) (eC (.int 9))) (zaa (ex2 zcr (zab 0) (eC (.int 5))) (zaa (ex2 zcr (zab 0) (eC (.int 7))) zag)))) (ex2 zcr (ex2 zfY (zab 0) (eC (.int 45))) (eC (.int 3))) [some (.val (.int c)),some (.val (.int few)),some (.val (.int turn)),some (.val (.str (mkS []))),none,none]=some (.val (.int L)):=by
  simp (disch:=omega) only[ex2,zdb,zaa,zab,jqe,eC,zcr,pI,iOf,jqa,zcA,zai,zag,jqc,jqp,jqq,Nat.reduceLeDiff,zfa,asV,jra,zfY,zeF,zb5,asL,hL]
 have ir:iR1 (zaa (zab 4) zag) [some (.val (.int (c / 315))),some (.val (.int few)),some (.val (.int turn)),some (.val (.str (mkS []))),some (.val (.int L)),none]=some ((List.range L.toNat).map fun(i:Nat)=>D.int (0+(i:Int))):=by
  have hb:b62 L:=zck (by lia)
  simp only[iR1,zaa,zab,jqf,jqe,zag,jqc,jqa,iOf,hb,zai]
 suffices hF:∃ δ,zcD [some (.val (.int c)),some (.val (.int few)),some (.val (.int turn)),none,none,none]=some (.rt (.val (.str (mkS t))) δ) from
  hF.elim fun _ h=>(congrArg (fun o=>Option.bind o _) h).trans rfl
 exact⟨_,(show zcD _=_ from zbB (zel (v:=.str (mkS [])) rfl)).trans ((zbB (zel s2)).trans ((zbB (zel (divI rfl rfl (by decide)))).trans ((forN ir w1).trans rfl)))⟩
theorem lcX_ok{fr:List Nat}{i j:Nat}{fx:FXE}(δ:En)(hi:i<δ.length)(el:∀ (dk:List Int) (d:D),0<dk.length->∃ w:List Nat,w.length<=8/\∃ δc,fx (cEnX fr i (δ.set i (some (.obj (.lst (dk.map .int))))) d)=some (.str (mkS w),δc)/\oAt (j+1) δc=some (.lst (dk.dropLast.map .int))) :
  ∀ (ds:List D) (dk:List Int),ds.length<=dk.length->∃ (ws:List (List Nat)) (dk':List Int),ws.length=ds.length/\(∀ w ∈ ws,w.length<=8)/\dk'.length=dk.length - ds.length/\lcX fr i j fx ds (δ.set i (some (.obj (.lst (dk.map .int)))))=some (ws.map fun w=>.str (mkS w),δ.set i (some (.obj (.lst (dk'.map .int)))))
 | [],dk,_=>⟨[],dk,rfl,(fun _ h=>by cases h),rfl,rfl⟩
 | d :: ds,dk,h=>by
  rw[List.length_cons] at h
  obtain⟨w,hw,δc,e1,e2⟩:=el dk d (by lia)
  obtain⟨ws,dk',q1,q2,q3,q4⟩:=lcX_ok δ hi el ds dk.dropLast (by rw[List.length_dropLast];lia)
  refine⟨w :: ws,dk',by rw[List.length_cons,List.length_cons,q1],fun v hv=>?_,by rw[q3,List.length_dropLast,List.length_cons];lia,?_⟩
  ·rcases List.mem_cons.mp hv with e | e
   ·rw[e];exact hw
   ·exact q2 v e
  ·show((fx (cEnX fr i (δ.set i (some (.obj (.lst (dk.map .int))))) d)).bind fun p=>((oAt (j+1) p.2).bind lOf).bind fun es=>_)=_
   rw[e1]
   show(((oAt (j+1) δc).bind lOf).bind fun es=>_)=_
   rw[e2]
   show((lcX fr i j fx ds ((δ.set i (some (.obj (.lst (dk.map .int))))).set i (some (.obj (.lst (dk.dropLast.map .int)))))).map _)=_
   rw[List.set_set,q4]
   rfl
theorem xC3{g:List D->Option Ent}{fa fb fc:FXE}{δ δ1 δ2 δ3:En}{a b c d:D}(h1:fa δ=some (a,δ1))(h2:fb δ1=some (b,δ2))(h3:fc δ2=some (c,δ3))(h4:g [a,b,c]=some (.val d)):xC [.v,.v,.v] g (zcu fa (zcu fb (zcu fc zhs))) δ=some (d,δ3):=by
 unfold xC
 rw[xC_i h1 (xC_i h2 (xC_i h3 (show zhs δ3=some ([],δ3) from rfl)))]
 show((((g [a,b,c])).bind asV).map _)=_
 rw[h4]
 rfl
theorem words_el(T few:Int)(hf:2<=few/\few<=5)(dk:List Int)(d:D)(h:0<dk.length):∃ w:List Nat,w.length<=8/\∃ δc,zaY [some (.val d),some (.val (.int few)),some (.obj (.lst (dk.map .int))),some (.val (.int T))]=some (.str (mkS w),δc)/\oAt 2 δc=some (.lst (dk.dropLast.map .int)):=by
 obtain⟨c,hp⟩:=pop_i dk h 2 (δ:=[some (.val d),some (.val (.int few)),some (.obj (.lst (dk.map .int))),some (.val (.int T))]) rfl
 obtain⟨w,hw,e⟩:=word_ok c few (T / 3 % 208) hf ⟨by lia,by lia⟩
 exact⟨w,hw,_,xC3 hp (xP_i rfl) (xP_i (modI (divI rfl rfl (by decide)) rfl (by decide))) e,rfl⟩
theorem zgG(dk:List Int)(M:Nat)(hM:M<=20)(hd:M+1<=dk.length):∃ (zs:List (List Nat)) (dk':List Int),zs.length<=M/\(∀ w ∈ zs,w.length<=8)/\dk.length<=dk'.length+M+1/\zay (.lst (dk.map .int)) [.int (M:Int)]=some (.lst (zs.map fun w=>.str (mkS w)),.lst (dk'.map .int)):=by
 obtain⟨T,hp⟩:=pop_i dk (by lia) 0 (δ:=[some (.obj (.lst (dk.map .int))),some (.val (.int (M:Int))),none,none]) rfl
 have tb:0<=T / 624 % ((M:Int)+1)/\T / 624 % ((M:Int)+1)<(M:Int)+1:=⟨Int.emod_nonneg _ (by lia),Int.emod_lt_of_pos _ (by lia)⟩
 obtain⟨zs,dk',q1,q2,q3,q4⟩:=lcX_ok (fr:=[3,0,2]) (i:=0) (j:=1) (fx:=zaY) [none,some (.val (.int (M:Int))),some (.val (.int T)),some (.val (.int (2+T % 3)))] (Nat.zero_lt_succ _) (fun dk d h=>words_el T (2+T % 3) ⟨by lia,by lia⟩ dk d h) ((List.range (T / 624 % ((M:Int)+1)).toNat).map fun(i:Nat)=>D.int (0+(i:Int))) dk.dropLast (by rw[List.length_map,List.length_range,List.length_dropLast];lia)
 rw[List.length_map,List.length_range] at q1 q3
 refine⟨zs,dk',by lia,q2,by rw[q3,List.length_dropLast];lia,?_⟩
 have ir:iR1 (zaa (ex2 zcr (ex2 zfY (zab 2) (eC (.int 624))) (ex2 zcj (zab 1) (eC (.int 1)))) zag) [some (.obj (.lst (dk.dropLast.map .int))),some (.val (.int (M:Int))),some (.val (.int T)),some (.val (.int (2+T % 3)))]=some ((List.range (T / 624 % ((M:Int)+1)).toNat).map fun(i:Nat)=>D.int (0+(i:Int))):=by
  have hm:=modI (E:=ex2 zfY (zab 2) (eC (.int 624))) (F:=ex2 zcj (zab 1) (eC (.int 1))) (δ:=[some (.obj (.lst (dk.dropLast.map .int))),some (.val (.int (M:Int))),some (.val (.int T)),some (.val (.int (2+T % 3)))]) (divI rfl rfl (by decide)) (addI (b:=1) rfl rfl) (by lia)
  have hb:b62 (T / 624 % ((M:Int)+1)):=zck (by lia)
  generalize ex2 zcr (ex2 zfY (zab 2) (eC (.int 624))) (ex2 zcj (zab 1) (eC (.int 1)))=EE at *
  simp only[iR1,zaa,hm,zag,jqc,jqa,iOf,hb,zai]
 have hx:xLC [3,0,2] 0 1 (iR1 (zaa (ex2 zcr (ex2 zfY (zab 2) (eC (.int 624))) (ex2 zcj (zab 1) (eC (.int 1)))) zag)) zaY [some (.obj (.lst (dk.dropLast.map .int))),some (.val (.int (M:Int))),some (.val (.int T)),some (.val (.int (2+T % 3)))]=some (.lst (zs.map fun w=>.str (mkS w)),[some (.obj (.lst (dk'.map .int))),some (.val (.int (M:Int))),some (.val (.int T)),some (.val (.int (2+T % 3)))]):=by
  unfold xLC
  rw[ir]
  show((lcX [3,0,2] 0 1 zaY _ _).bind _)=_
  have q5:lcX [3,0,2] 0 1 zaY ((List.range (T / 624 % ((M:Int)+1)).toNat).map fun(i:Nat)=>D.int (0+(i:Int))) [some (.obj (.lst (dk.dropLast.map .int))),some (.val (.int (M:Int))),some (.val (.int T)),some (.val (.int (2+T % 3)))]=some (zs.map fun w=>.str (mkS w),[some (.obj (.lst (dk'.map .int))),some (.val (.int (M:Int))),some (.val (.int T)),some (.val (.int (2+T % 3)))]):=q4
  rw[q5]
  exact if_pos (by rw[List.length_map];lia)
 have hF:zbY [some (.obj (.lst (dk.map .int))),some (.val (.int (M:Int))),none,none]=some (.rt (.val (.lst (zs.map fun w=>.str (mkS w)))) [some (.obj (.lst (dk'.map .int))),some (.val (.int (M:Int))),some (.val (.int T)),some (.val (.int (2+T % 3)))]):=
  (show zbY _=_ from zbB (fXSet_i hp)).trans ((zbB (zel (addI rfl (modI rfl rfl (by decide))))).trans (fXRet_i hx))
 unfold zay zfM
 rw[if_pos (show [D.int (M:Int)].length=1 from rfl)]
 show(zbY [some (.obj (.lst (dk.map .int))),some (.val (.int (M:Int))),none,none]).bind endM=_
 rw[hF]
 rfl
theorem oE_i{fe:FE}{δ:En}{o:OT}(h:fe δ=some (.obj o)):oE fe δ=some (o,δ):=by unfold oE;rw[h];rfl
theorem oX_i{fx:FXE}{δ δ':En}{d:D}(h:fx δ=some (d,δ')):oX fx δ=some (.val d,δ'):=by unfold oX;rw[h];rfl
theorem zhh{fo:FOb}{fs:FObs}{δ δ1 δ2:En}{o:OT}{os:List OT}(h1:fo δ=some (o,δ1))(h2:fs δ1=some (os,δ2)):zaP fo fs δ=some (o :: os,δ2):=by
 unfold zaP;rw[h1];show(fs δ1).map _=_;rw[h2];rfl
theorem oL_i{fs:FObs}{δ δ1:En}{os:List OT}(h:fs δ=some (os,δ1))(hl:os.length<=1000):zhx fs δ=some (.los os,δ1):=by
 unfold zhx;rw[h];exact if_pos hl
theorem bk_mk(δ:En):zcQ "Book" zaj zag δ=some (.obj (bkO (.val .non))):=by
 have:zaj (.ins "Book" [] []) []=some (.non,bkO (.val .non)):=by
  simp only[zaj,zfM,zcd,List.length_nil,reduceIte,List.map_nil,List.replicate_zero,List.append_nil,List.nil_append,zg5,eC,oAt,toO,Option.bind_some,List.getElem?_cons_zero,zdq,List.set_cons_zero,endM,Option.map_some,bkO]
 show((zaj (.ins "Book" [] []) []).bind _)=_
 rw[this]
 rfl
theorem zgi{fx:FXE}{δ δ':En}{ws:List D}(h:fx δ=some (.lst ws,δ')):zhx (zaP (oE (zcQ "Book" zaj zag)) (zaP (oE eDS0) (zaP (oX fx) zdP))) δ=some (zcq (bkO (.val .non)) (zch []) ws,δ'):=
 (oL_i (zhh (oE_i (bk_mk δ)) (zhh (oE_i (o:=.dcS [] []) rfl) (zhh (oX_i h) (show zdP δ'=some ([],δ') from rfl)))) (by simp)).trans rfl
theorem xP_o{fe:FE}{δ:En}{ds:List D}(h:fe δ=some (.own ds)):xP fe δ=some (.lst ds,δ):=by unfold xP;rw[h];rfl
theorem walk_i{o1 o2 o3 p1 p2 p3:OT}{k:Int}(c1 c2 c5:Option Ent)(h1:zfR zaf zb1 zaN k o1=some p1)(h2:zfR zaf zb1 zaN k o2=some p2)(h3:zfR zaf zb1 zaN k o3=some p3) :
  zeN [none,c1,c2,some (.obj (.los [o1,o2,o3])),some (.val (.int k)),c5]=some (.nx [none,c1,c2,some (.obj (.los [p1,p2,p3])),some (.val (.int k)),none]):=by
 show(zd5 zaf zb1 zaN k [o1,o2,o3]).map _=_
 simp only[zd5]
 rw[h1,h2,h3]
 rfl
theorem main(ns:List Int)(hn:ns.length<=63):g_law [.lst (ns.map .int)]=some (.val (.bl true)):=by
 obtain⟨dk,hd,s1⟩:=deck_ok (ns.take 63) (by rw[List.length_take];lia)
 have hcut:zhv (ns.map D.int) none (some 63)=(ns.take 63).map D.int:=by rw[zgA _ (by decide),List.map_take];rfl
 have e1:zgE 1 (zaV [.b,.v] zbR (zaa (eSl gSlL (zab 0) oNo (oSo (eC (.int 63)))) (zaa (eC (.int 40)) zag))) [some (.bor (ns.map .int)),none,none,none,none,none]=some (.nx [some (.bor (ns.map .int)),some (.obj (.lst (dk.map .int))),none,none,none,none]):=by
  have q:zaV [.b,.v] zbR (zaa (eSl gSlL (zab 0) oNo (oSo (eC (.int 63)))) (zaa (eC (.int 40)) zag)) [some (.bor (ns.map .int)),none,none,none,none,none]=some (.own (dk.map .int)):=by
   simp only[zaV,zaa,eSl,zab,jqe,oNo,oSo,eC,jqa,iOf,jqc,gSlL,asL,hcut,zag,zce,zem,asV,s1]
  unfold zgE
  rw[q]
  rfl
 obtain⟨zs,d2,hz,hl,h2,s2⟩:=zgG dk 14 (by decide) (by lia)
 have s2':zay (.lst (dk.map .int)) [.int 14]=some (.lst (SD zs),.lst (d2.map .int)):=s2
 have e2:zg8 2 (xCO 1 zay (zcu (xP (eC (.int 14))) zhs)) [some (.bor (ns.map .int)),some (.obj (.lst (dk.map .int))),none,none,none,none]=some (.nx [some (.bor (ns.map .int)),some (.obj (.lst (d2.map .int))),some (.val (.lst (SD zs))),none,none,none]):=
  (fXSet_i (xCO_i (i:=1) (g:=zay) (fs:=zcu (xP (eC (.int 14))) zhs) (δ:=[some (.bor (ns.map .int)),some (.obj (.lst (dk.map .int))),none,none,none,none]) (δ1:=[some (.bor (ns.map .int)),some (.obj (.lst (dk.map .int))),none,none,none,none]) (o0:=.lst (dk.map .int)) rfl rfl rfl s2')).trans rfl
 obtain⟨ys,d3,hy,hyl,_,s3⟩:=zgG d2 10 (by decide) (by lia)
 have s3':zay (.lst (d2.map .int)) [.int 10]=some (.lst (SD ys),.lst (d3.map .int)):=s3
 have e3:zgR 3 (zhx (zaP (zhx (zaP (oE (zcQ "Book" zaj zag)) (zaP (oE eDS0) (zaP (oX (xP (zab 2))) zdP)))) (zaP (zhx (zaP (oE (zcQ "Book" zaj zag)) (zaP (oE eDS0) (zaP (oX (xCO 1 zay (zcu (xP (eC (.int 10))) zhs))) zdP)))) (zaP (zhx (zaP (oE (zcQ "Book" zaj zag)) (zaP (oE eDS0) (zaP (oX (xP (ex1 ze0 (zab 2)))) zdP)))) zdP))))
   [some (.bor (ns.map .int)),some (.obj (.lst (d2.map .int))),some (.val (.lst (SD zs))),none,none,none]=some (.nx [none,some (.obj (.lst (d3.map .int))),some (.val (.lst (SD zs))),some (.obj (.los [zcq (bkO (.val .non)) (zch []) (SD zs),zcq (bkO (.val .non)) (zch []) (SD ys),zcq (bkO (.val .non)) (zch []) (SD zs.reverse)])),none,none]):=by
  have er:SD zs.reverse=(SD zs).reverse:=by unfold SD;rw[List.map_reverse]
  rw[er]
  have a2:=xCO_i (i:=1) (g:=zay) (fs:=zcu (xP (eC (.int 10))) zhs) (δ:=[some (.bor (ns.map .int)),some (.obj (.lst (d2.map .int))),some (.val (.lst (SD zs))),none,none,none]) (δ1:=[some (.bor (ns.map .int)),some (.obj (.lst (d2.map .int))),some (.val (.lst (SD zs))),none,none,none]) (o0:=.lst (d2.map .int)) rfl rfl rfl s3'
  generalize SD zs=Z at *
  generalize SD ys=Y at *
  unfold zgR
  rw[oL_i (zhh (zgi (xP_i rfl)) (zhh (zgi a2) (zhh (zgi (xP_o (ds:=Z.reverse) rfl)) (show zdP _=some ([],_) from rfl)))) (by simp)]
  rfl
 have hr:zs.reverse.length=zs.length:=List.length_reverse
 obtain⟨δ',w1,o1,o2,o3,x4,_,_,_,rfl⟩:=zbE (tg:=gNm 4) (f:=zeN) (fun k δ=>∃ (o1 o2 o3:OT) (x4:Option Ent),Sp5 zs (min k zs.length) o1/\Sp5 ys (min k ys.length) o2/\Sp5 zs.reverse (min k zs.reverse.length) o3/\δ=[none,some (.obj (.lst (d3.map .int))),some (.val (.lst (SD zs))),some (.obj (.los [o1,o2,o3])),x4,none])
  ((List.range 15).map fun(i:Nat)=>D.int (0+(i:Int))) 0 [none,some (.obj (.lst (d3.map .int))),some (.val (.lst (SD zs))),some (.obj (.los [zcq (bkO (.val .non)) (zch []) (SD zs),zcq (bkO (.val .non)) (zch []) (SD ys),zcq (bkO (.val .non)) (zch []) (SD zs.reverse)])),none,none] (fun k d δ hd hδ=>by
   obtain⟨o1,o2,o3,x4,b1,b2,b3,rfl⟩:=hδ
   rw[Nat.zero_add] at *
   have hk:k<15:=by have:=(List.getElem?_eq_some_iff.mp hd).1;simpa using this
   rw[List.getElem?_map,List.getElem?_range hk] at hd
   cases hd
   have ek:(0+(k:Int))=(k:Int):=Int.zero_add _
   obtain⟨p1,g1,f1⟩:=b1.step hz hl
   obtain⟨p2,g2,f2⟩:=b2.step (by lia) hyl
   obtain⟨p3,g3,f3⟩:=b3.step (by lia) fun u hu=>hl u (List.mem_reverse.mp hu)
   rw[<- ek] at g1 g2 g3
   exact⟨_,_,rfl,.inl (walk_i _ _ _ g1 g2 g3),p1,p2,p3,_,f1,f2,f3,rfl⟩) ⟨_,_,_,none,.inl ⟨Nat.zero_min _,rfl⟩,.inl ⟨Nat.zero_min _,rfl⟩,.inl ⟨Nat.zero_min _,rfl⟩,rfl⟩
 have ir:iR1 (zaa (eC (.int 15)) zag) [none,some (.obj (.lst (d3.map .int))),some (.val (.lst (SD zs))),some (.obj (.los [zcq (bkO (.val .non)) (zch []) (SD zs),zcq (bkO (.val .non)) (zch []) (SD ys),zcq (bkO (.val .non)) (zch []) (SD zs.reverse)])),none,none]=some ((List.range 15).map fun(i:Nat)=>D.int (0+(i:Int))):=by
  have hb:b62 15:=zck (by decide)
  simp only[iR1,zaa,eC,zag,jqc,jqa,iOf,Int.reduceNeg,Int.reduceLT,jre,zcX,zai]
  rfl
 have hF:F_law [some (.bor (ns.map .int)),none,none,none,none,none]=some (.rt (.val (.bl true)) [none,some (.obj (.lst (d3.map .int))),some (.val (.lst (SD zs))),some (.obj (.los [o1,o2,o3])),x4,none]):=
  (show F_law _=_ from zbB e1).trans ((zbB e2).trans ((zbB e3).trans ((forN ir w1).trans rfl)))
 exact(congrArg (fun o=>Option.bind o _) hF).trans rfl
end N51
namespace N51
open PySem L2 L3 PyProof.Rows
noncomputable def spLaw(K:PySem.W.Frag):Sp:=fun vs H Q _=>∃ (a:Addr) (ns:List Int),vs=[.ref a]/\SqL K H a (ns.map V.int)/\ns.length<=63/\∀ H',Q (.bl true) H'
theorem sp_law{K:PySem.W.Frag}{vs:List V}{H:Hp}{Q:VK}{E:XK}(h:spLaw K vs H Q E):spD K [.b] g_law vs H Q E:=by
 obtain⟨a,ns,rfl,hq,hl,k⟩:=h
 refine⟨fun _=>none,_,_,fun _ _ e=>(nomatch e),.cons (k:=.b) (d:=.lst (ns.map D.int)) ⟨a,_,rfl,hq,Reps.ints ns⟩ .nil,main ns hl,fun v F' H' _ r=>?_⟩
 cases zcF r
 exact k H'
theorem all_mk{l:PySem.W.OpenLaw}{w:World}{K:PySem.W.Frag}{h:Heap}{mg:Str->Option Value}{fa:Addr}(X:K.In h)(G:h.Ns mainGlobals mg)(hfa:mg "law" = some (.ref fa))
  {C_Book:Addr}
  {C_Knot:Addr}
  {f_15:Addr} {od_15 an_15:Option Addr} {sl_15:Array (Option Value)} {oc_15 kV_15 dc_15 pm_15 cd_15 ct_15:Value}
  {df_15:Value}
  {f_22:Addr} {od_22 an_22:Option Addr} {sl_22:Array (Option Value)} {oc_22 kV_22 dc_22 pm_22 cd_22 ct_22:Value}
  {f_23:Addr} {od_23 an_23:Option Addr} {sl_23:Array (Option Value)} {oc_23 kV_23 dc_23 pm_23 cd_23 ct_23:Value}
  {f_16:Addr} {od_16 an_16:Option Addr} {sl_16:Array (Option Value)} {oc_16 kV_16 dc_16 pm_16 cd_16 ct_16:Value}
  {f_17:Addr} {od_17 an_17:Option Addr} {sl_17:Array (Option Value)} {oc_17 kV_17 dc_17 pm_17 cd_17 ct_17:Value}
  {f_14:Addr} {od_14 an_14:Option Addr} {sl_14:Array (Option Value)} {oc_14 kV_14 dc_14 pm_14 cd_14 ct_14:Value}
  {f_25:Addr} {od_25 an_25:Option Addr} {sl_25:Array (Option Value)} {oc_25 kV_25 dc_25 pm_25 cd_25 ct_25:Value}
  {f_20:Addr} {od_20 an_20:Option Addr} {sl_20:Array (Option Value)} {oc_20 kV_20 dc_20 pm_20 cd_20 ct_20:Value}
  {f_21:Addr} {od_21 an_21:Option Addr} {sl_21:Array (Option Value)} {oc_21 kV_21 dc_21 pm_21 cd_21 ct_21:Value}
  {f_24:Addr} {od_24 an_24:Option Addr} {sl_24:Array (Option Value)} {oc_24 kV_24 dc_24 pm_24 cd_24 ct_24:Value}
  {f_18:Addr} {od_18 an_18:Option Addr} {sl_18:Array (Option Value)} {oc_18 kV_18 dc_18 pm_18 cd_18 ct_18:Value}
  {f_26:Addr} {od_26 an_26:Option Addr} {sl_26:Array (Option Value)} {oc_26 kV_26 dc_26 pm_26 cd_26 ct_26:Value}
  {f_5:Addr} {od_5 an_5:Option Addr} {sl_5:Array (Option Value)} {oc_5 kV_5 dc_5 pm_5 cd_5 ct_5:Value}
  {f_9:Addr} {od_9 an_9:Option Addr} {sl_9:Array (Option Value)} {oc_9 kV_9 dc_9 pm_9 cd_9 ct_9:Value}
  {f_12:Addr} {od_12 an_12:Option Addr} {sl_12:Array (Option Value)} {oc_12 kV_12 dc_12 pm_12 cd_12 ct_12:Value}
  {f_13:Addr} {od_13 an_13:Option Addr} {sl_13:Array (Option Value)} {oc_13 kV_13 dc_13 pm_13 cd_13 ct_13:Value}
  {f_7:Addr} {od_7 an_7:Option Addr} {sl_7:Array (Option Value)} {oc_7 kV_7 dc_7 pm_7 cd_7 ct_7:Value}
  {f_8:Addr} {od_8 an_8:Option Addr} {sl_8:Array (Option Value)} {oc_8 kV_8 dc_8 pm_8 cd_8 ct_8:Value}
  {f_11:Addr} {od_11 an_11:Option Addr} {sl_11:Array (Option Value)} {oc_11 kV_11 dc_11 pm_11 cd_11 ct_11:Value}
  {f_4:Addr} {od_4 an_4:Option Addr} {sl_4:Array (Option Value)} {oc_4 kV_4 dc_4 pm_4 cd_4 ct_4:Value}
  {f_10:Addr} {od_10 an_10:Option Addr} {sl_10:Array (Option Value)} {oc_10 kV_10 dc_10 pm_10 cd_10 ct_10:Value}
  {f_6:Addr} {od_6 an_6:Option Addr} {sl_6:Array (Option Value)} {oc_6 kV_6 dc_6 pm_6 cd_6 ct_6:Value}
  {f_19:Addr} {od_19 an_19:Option Addr} {sl_19:Array (Option Value)} {oc_19 kV_19 dc_19 pm_19 cd_19 ct_19:Value}
  {f_0:Addr} {od_0 an_0:Option Addr} {sl_0:Array (Option Value)} {oc_0 kV_0 dc_0 pm_0 cd_0 ct_0:Value}
  {f_1:Addr} {od_1 an_1:Option Addr} {sl_1:Array (Option Value)} {oc_1 kV_1 dc_1 pm_1 cd_1 ct_1:Value}
  {f_2:Addr} {od_2 an_2:Option Addr} {sl_2:Array (Option Value)} {oc_2 kV_2 dc_2 pm_2 cd_2 ct_2:Value}
  {f_3:Addr} {od_3 an_3:Option Addr} {sl_3:Array (Option Value)} {oc_3 kV_3 dc_3 pm_3 cd_3 ct_3:Value}
  {tk_PUT:Tok}
  {tk_LEFT:Tok}
  {tk_EXCHANGED:Tok}
  {tk_TURNED:Tok}
  {ua_PLAIN_PRICES:Addr} {un_PLAIN_PRICES:Nat} {t0_PLAIN_PRICES t1_PLAIN_PRICES t2_PLAIN_PRICES t3_PLAIN_PRICES:Tok}
  (a_Book:PySem.W.nsIn K mainGlobals "Book" = some (some (.ref C_Book))) (p1_Book:PySem.W.plainGet K C_Book Str.empty=true) (p2_Book:PySem.W.hasDictIn K C_Book=true) (p3_Book:PySem.W.plainOver K C_Book=true) (p4_Book:PySem.W.findIn K (.ref C_Book) "__setattr__" = some (some (.builtin "object.__setattr__")))
  (n_Book_top:PySem.W.findIn K (.ref C_Book) "top" = some none)
  (m1_Book:PySem.W.makesIn K C_Book=true) (m2_Book:PySem.W.keepIn K (.ref C_Book)=true)
  (a_Knot:PySem.W.nsIn K mainGlobals "Knot" = some (some (.ref C_Knot))) (p1_Knot:PySem.W.plainGet K C_Knot Str.empty=true) (p2_Knot:PySem.W.hasDictIn K C_Knot=true) (p3_Knot:PySem.W.plainOver K C_Knot=true) (p4_Knot:PySem.W.findIn K (.ref C_Knot) "__setattr__" = some (some (.builtin "object.__setattr__")))
  (n_Knot_word:PySem.W.findIn K (.ref C_Knot) "word" = some none)
  (n_Knot_branches:PySem.W.findIn K (.ref C_Knot) "branches" = some none)
  (m1_Knot:PySem.W.makesIn K C_Knot=true) (m2_Knot:PySem.W.keepIn K (.ref C_Knot)=true)
  (a_15:PySem.W.nsIn K mainGlobals "cells_of" = some (some (.ref f_15))) (l_15:K.lookup f_15=some ⟨oc_15,od_15,.func (PySem.W.fnOf "cells_of" "cells_of" (zaq zbj) (zam zbj) (zac zbj) df_15 kV_15 dc_15 pm_15 an_15 cd_15 ct_15),sl_15⟩) (c_15:PySem.W.codeIn K cd_15 "cells_of" = true) (k_15:PySem.W.keepIn K (.ref f_15)=true)
  (e_15:DfOk K df_15)
  (a_22:PySem.W.nsIn K mainGlobals "price_between" = some (some (.ref f_22))) (l_22:K.lookup f_22=some ⟨oc_22,od_22,.func (PySem.W.fnOf "price_between" "price_between" (zaq zaA) (zam zaA) (zac zaA) .none kV_22 dc_22 pm_22 an_22 cd_22 ct_22),sl_22⟩) (c_22:PySem.W.codeIn K cd_22 "price_between" = true) (k_22:PySem.W.keepIn K (.ref f_22)=true)
  (a_23:PySem.W.nsIn K mainGlobals "row_across" = some (some (.ref f_23))) (l_23:K.lookup f_23=some ⟨oc_23,od_23,.func (PySem.W.fnOf "row_across" "row_across" (zaq zaU) (zam zaU) (zac zaU) .none kV_23 dc_23 pm_23 an_23 cd_23 ct_23),sl_23⟩) (c_23:PySem.W.codeIn K cd_23 "row_across" = true) (k_23:PySem.W.keepIn K (.ref f_23)=true)
  (a_16:PySem.W.nsIn K mainGlobals "first_column" = some (some (.ref f_16))) (l_16:K.lookup f_16=some ⟨oc_16,od_16,.func (PySem.W.fnOf "first_column" "first_column" (zaq zaG) (zam zaG) (zac zaG) .none kV_16 dc_16 pm_16 an_16 cd_16 ct_16),sl_16⟩) (c_16:PySem.W.codeIn K cd_16 "first_column" = true) (k_16:PySem.W.keepIn K (.ref f_16)=true)
  (a_17:PySem.W.nsIn K mainGlobals "further_column" = some (some (.ref f_17))) (l_17:K.lookup f_17=some ⟨oc_17,od_17,.func (PySem.W.fnOf "further_column" "further_column" (zaq zau) (zam zau) (zac zau) .none kV_17 dc_17 pm_17 an_17 cd_17 ct_17),sl_17⟩) (c_17:PySem.W.codeIn K cd_17 "further_column" = true) (k_17:PySem.W.keepIn K (.ref f_17)=true)
  (a_14:PySem.W.nsIn K mainGlobals "cell_ahead_of_turn" = some (some (.ref f_14))) (l_14:K.lookup f_14=some ⟨oc_14,od_14,.func (PySem.W.fnOf "cell_ahead_of_turn" "cell_ahead_of_turn" (zaq zal) (zam zal) (zac zal) .none kV_14 dc_14 pm_14 an_14 cd_14 ct_14),sl_14⟩) (c_14:PySem.W.codeIn K cd_14 "cell_ahead_of_turn" = true) (k_14:PySem.W.keepIn K (.ref f_14)=true)
  (a_25:PySem.W.nsIn K mainGlobals "stepped" = some (some (.ref f_25))) (l_25:K.lookup f_25=some ⟨oc_25,od_25,.func (PySem.W.fnOf "stepped" "stepped" (zaq zbA) (zam zbA) (zac zbA) .none kV_25 dc_25 pm_25 an_25 cd_25 ct_25),sl_25⟩) (c_25:PySem.W.codeIn K cd_25 "stepped" = true) (k_25:PySem.W.keepIn K (.ref f_25)=true)
  (a_20:PySem.W.nsIn K mainGlobals "lowest" = some (some (.ref f_20))) (l_20:K.lookup f_20=some ⟨oc_20,od_20,.func (PySem.W.fnOf "lowest" "lowest" (zaq zbU) (zam zbU) (zac zbU) .none kV_20 dc_20 pm_20 an_20 cd_20 ct_20),sl_20⟩) (c_20:PySem.W.codeIn K cd_20 "lowest" = true) (k_20:PySem.W.keepIn K (.ref f_20)=true)
  (a_21:PySem.W.nsIn K mainGlobals "pattern_of" = some (some (.ref f_21))) (l_21:K.lookup f_21=some ⟨oc_21,od_21,.func (PySem.W.fnOf "pattern_of" "pattern_of" (zaq zaS) (zam zaS) (zac zaS) .none kV_21 dc_21 pm_21 an_21 cd_21 ct_21),sl_21⟩) (c_21:PySem.W.codeIn K cd_21 "pattern_of" = true) (k_21:PySem.W.keepIn K (.ref f_21)=true)
  (a_24:PySem.W.nsIn K mainGlobals "slips_between" = some (some (.ref f_24))) (l_24:K.lookup f_24=some ⟨oc_24,od_24,.func (PySem.W.fnOf "slips_between" "slips_between" (zaq zaz) (zam zaz) (zac zaz) .none kV_24 dc_24 pm_24 an_24 cd_24 ct_24),sl_24⟩) (c_24:PySem.W.codeIn K cd_24 "slips_between" = true) (k_24:PySem.W.keepIn K (.ref f_24)=true)
  (a_18:PySem.W.nsIn K mainGlobals "hang" = some (some (.ref f_18))) (l_18:K.lookup f_18=some ⟨oc_18,od_18,.func (PySem.W.fnOf "hang" "hang" (zaq zcR) (zam zcR) (zac zcR) .none kV_18 dc_18 pm_18 an_18 cd_18 ct_18),sl_18⟩) (c_18:PySem.W.codeIn K cd_18 "hang" = true) (k_18:PySem.W.keepIn K (.ref f_18)=true)
  (a_26:PySem.W.nsIn K mainGlobals "tree_from" = some (some (.ref f_26))) (l_26:K.lookup f_26=some ⟨oc_26,od_26,.func (PySem.W.fnOf "tree_from" "tree_from" (zaq za4) (zam za4) (zac za4) .none kV_26 dc_26 pm_26 an_26 cd_26 ct_26),sl_26⟩) (c_26:PySem.W.codeIn K cd_26 "tree_from" = true) (k_26:PySem.W.keepIn K (.ref f_26)=true)
  (a_5:PySem.W.nsIn K mainGlobals "_law_deck" = some (some (.ref f_5))) (l_5:K.lookup f_5=some ⟨oc_5,od_5,.func (PySem.W.fnOf "_law_deck" "_law_deck" (zaq za6) (zam za6) (zac za6) .none kV_5 dc_5 pm_5 an_5 cd_5 ct_5),sl_5⟩) (c_5:PySem.W.codeIn K cd_5 "_law_deck" = true) (k_5:PySem.W.keepIn K (.ref f_5)=true)
  (a_9:PySem.W.nsIn K mainGlobals "_law_sign" = some (some (.ref f_9))) (l_9:K.lookup f_9=some ⟨oc_9,od_9,.func (PySem.W.fnOf "_law_sign" "_law_sign" (zaq za8) (zam za8) (zac za8) .none kV_9 dc_9 pm_9 an_9 cd_9 ct_9),sl_9⟩) (c_9:PySem.W.codeIn K cd_9 "_law_sign" = true) (k_9:PySem.W.keepIn K (.ref f_9)=true)
  (a_12:PySem.W.nsIn K mainGlobals "_law_word" = some (some (.ref f_12))) (l_12:K.lookup f_12=some ⟨oc_12,od_12,.func (PySem.W.fnOf "_law_word" "_law_word" (zaq za5) (zam za5) (zac za5) .none kV_12 dc_12 pm_12 an_12 cd_12 ct_12),sl_12⟩) (c_12:PySem.W.codeIn K cd_12 "_law_word" = true) (k_12:PySem.W.keepIn K (.ref f_12)=true)
  (a_13:PySem.W.nsIn K mainGlobals "_law_words" = some (some (.ref f_13))) (l_13:K.lookup f_13=some ⟨oc_13,od_13,.func (PySem.W.fnOf "_law_words" "_law_words" (zaq zaR) (zam zaR) (zac zaR) .none kV_13 dc_13 pm_13 an_13 cd_13 ct_13),sl_13⟩) (c_13:PySem.W.codeIn K cd_13 "_law_words" = true) (k_13:PySem.W.keepIn K (.ref f_13)=true)
  (a_7:PySem.W.nsIn K mainGlobals "_law_price" = some (some (.ref f_7))) (l_7:K.lookup f_7=some ⟨oc_7,od_7,.func (PySem.W.fnOf "_law_price" "_law_price" (zaq zaQ) (zam zaQ) (zac zaQ) .none kV_7 dc_7 pm_7 an_7 cd_7 ct_7),sl_7⟩) (c_7:PySem.W.codeIn K cd_7 "_law_price" = true) (k_7:PySem.W.keepIn K (.ref f_7)=true)
  (a_8:PySem.W.nsIn K mainGlobals "_law_put" = some (some (.ref f_8))) (l_8:K.lookup f_8=some ⟨oc_8,od_8,.func (PySem.W.fnOf "_law_put" "_law_put" (zaq zbl) (zam zbl) (zac zbl) .none kV_8 dc_8 pm_8 an_8 cd_8 ct_8),sl_8⟩) (c_8:PySem.W.codeIn K cd_8 "_law_put" = true) (k_8:PySem.W.keepIn K (.ref f_8)=true)
  (a_11:PySem.W.nsIn K mainGlobals "_law_tree" = some (some (.ref f_11))) (l_11:K.lookup f_11=some ⟨oc_11,od_11,.func (PySem.W.fnOf "_law_tree" "_law_tree" (zaq za7) (zam za7) (zac za7) .none kV_11 dc_11 pm_11 an_11 cd_11 ct_11),sl_11⟩) (c_11:PySem.W.codeIn K cd_11 "_law_tree" = true) (k_11:PySem.W.keepIn K (.ref f_11)=true)
  (a_4:PySem.W.nsIn K mainGlobals "_law_alike" = some (some (.ref f_4))) (l_4:K.lookup f_4=some ⟨oc_4,od_4,.func (PySem.W.fnOf "_law_alike" "_law_alike" (zaq zaT) (zam zaT) (zac zaT) .none kV_4 dc_4 pm_4 an_4 cd_4 ct_4),sl_4⟩) (c_4:PySem.W.codeIn K cd_4 "_law_alike" = true) (k_4:PySem.W.keepIn K (.ref f_4)=true)
  (a_10:PySem.W.nsIn K mainGlobals "_law_stands" = some (some (.ref f_10))) (l_10:K.lookup f_10=some ⟨oc_10,od_10,.func (PySem.W.fnOf "_law_stands" "_law_stands" (zaq zaJ) (zam zaJ) (zac zaJ) .none kV_10 dc_10 pm_10 an_10 cd_10 ct_10),sl_10⟩) (c_10:PySem.W.codeIn K cd_10 "_law_stands" = true) (k_10:PySem.W.keepIn K (.ref f_10)=true)
  (a_6:PySem.W.nsIn K mainGlobals "_law_goes" = some (some (.ref f_6))) (l_6:K.lookup f_6=some ⟨oc_6,od_6,.func (PySem.W.fnOf "_law_goes" "_law_goes" (zaq za9) (zam za9) (zac za9) .none kV_6 dc_6 pm_6 an_6 cd_6 ct_6),sl_6⟩) (c_6:PySem.W.codeIn K cd_6 "_law_goes" = true) (k_6:PySem.W.keepIn K (.ref f_6)=true)
  (a_19:PySem.W.nsIn K mainGlobals "law" = some (some (.ref f_19))) (l_19:K.lookup f_19=some ⟨oc_19,od_19,.func (PySem.W.fnOf "law" "law" (zaq zc0) (zam zc0) (zac zc0) .none kV_19 dc_19 pm_19 an_19 cd_19 ct_19),sl_19⟩) (c_19:PySem.W.codeIn K cd_19 "law" = true) (k_19:PySem.W.keepIn K (.ref f_19)=true)
  (a_0:PySem.W.findIn K (.ref C_Book) "__init__" = some (some (.ref f_0))) (l_0:K.lookup f_0=some ⟨oc_0,od_0,.func (PySem.W.fnOf "__init__" "Book.__init__" (zaq zaB) (zam zaB) (zac zaB) .none kV_0 dc_0 pm_0 an_0 cd_0 ct_0),sl_0⟩) (c_0:PySem.W.codeIn K cd_0 "Book.__init__" = true) (k_0:PySem.W.keepIn K (.ref f_0)=true) (i_0:PySem.W.isFn K (.ref f_0)=true)
  (a_1:PySem.W.findIn K (.ref C_Book) "put" = some (some (.ref f_1))) (l_1:K.lookup f_1=some ⟨oc_1,od_1,.func (PySem.W.fnOf "put" "Book.put" (zaq zbf) (zam zbf) (zac zbf) .none kV_1 dc_1 pm_1 an_1 cd_1 ct_1),sl_1⟩) (c_1:PySem.W.codeIn K cd_1 "Book.put" = true) (k_1:PySem.W.keepIn K (.ref f_1)=true) (i_1:PySem.W.isFn K (.ref f_1)=true)
  (a_2:PySem.W.findIn K (.ref C_Book) "tree" = some (some (.ref f_2))) (l_2:K.lookup f_2=some ⟨oc_2,od_2,.func (PySem.W.fnOf "tree" "Book.tree" (zaq za2) (zam za2) (zac za2) .none kV_2 dc_2 pm_2 an_2 cd_2 ct_2),sl_2⟩) (c_2:PySem.W.codeIn K cd_2 "Book.tree" = true) (k_2:PySem.W.keepIn K (.ref f_2)=true) (i_2:PySem.W.isFn K (.ref f_2)=true)
  (a_3:PySem.W.findIn K (.ref C_Knot) "__init__" = some (some (.ref f_3))) (l_3:K.lookup f_3=some ⟨oc_3,od_3,.func (PySem.W.fnOf "__init__" "Knot.__init__" (zaq zaC) (zam zaC) (zac zaC) .none kV_3 dc_3 pm_3 an_3 cd_3 ct_3),sl_3⟩) (c_3:PySem.W.codeIn K cd_3 "Knot.__init__" = true) (k_3:PySem.W.keepIn K (.ref f_3)=true) (i_3:PySem.W.isFn K (.ref f_3)=true)
  (z_bool:PySem.W.nsIn K mainGlobals "bool" = some none)
  (z_int:PySem.W.nsIn K mainGlobals "int" = some none)
  (z_isinstance:PySem.W.nsIn K mainGlobals "isinstance" = some none)
  (z_len:PySem.W.nsIn K mainGlobals "len" = some none)
  (z_list:PySem.W.nsIn K mainGlobals "list" = some none)
  (z_min:PySem.W.nsIn K mainGlobals "min" = some none)
  (z_range:PySem.W.nsIn K mainGlobals "range" = some none)
  (z_reversed:PySem.W.nsIn K mainGlobals "reversed" = some none)
  (z_sorted:PySem.W.nsIn K mainGlobals "sorted" = some none)
  (z_str:PySem.W.nsIn K mainGlobals "str" = some none)
  (z_tuple:PySem.W.nsIn K mainGlobals "tuple" = some none)
  (z_zip:PySem.W.nsIn K mainGlobals "zip" = some none)
  (q_PUT:PySem.W.nsIn K mainGlobals "PUT" = some (some (.int 0 tk_PUT)))
  (q_LEFT:PySem.W.nsIn K mainGlobals "LEFT" = some (some (.int 1 tk_LEFT)))
  (q_EXCHANGED:PySem.W.nsIn K mainGlobals "EXCHANGED" = some (some (.int 2 tk_EXCHANGED)))
  (q_TURNED:PySem.W.nsIn K mainGlobals "TURNED" = some (some (.int 3 tk_TURNED)))
  (q_PLAIN_PRICES:PySem.W.nsIn K mainGlobals "PLAIN_PRICES" = some (some (.ref ua_PLAIN_PRICES))) (l_PLAIN_PRICES:K.lookup ua_PLAIN_PRICES=some ⟨.type "tuple",none,.seq #[.int 1 t0_PLAIN_PRICES,.int 1 t1_PLAIN_PRICES,.int 1 t2_PLAIN_PRICES,.int 0 t3_PLAIN_PRICES] un_PLAIN_PRICES,#[]⟩) :
  ∃ fd:FuncData,(∀ (s:Shared) (v:Value),BindsTo s fd ⟨[v],[]⟩ [("_law_script",v)])/\∀ base:Heap,K.In base->base.Ns mainGlobals mg->FnOk l.prog w K mg base CX0 54 fa fd ["_law_script"] (spLaw K):=by
 have e:=hfa.symm.trans (PySem.W.mg_of X G a_19)
 cases e
 have DC_Book:ClsD K mg "Book" ["top"] C_Book:=⟨a_Book,PySem.W.mg_of X G a_Book,⟨p1_Book,p2_Book,p3_Book,p4_Book⟩,fun f hf=>by
  simp only[List.mem_cons,List.not_mem_nil,or_false] at hf
  rcases hf with rfl
  ·exact n_Book_top⟩
 have DC_Knot:ClsD K mg "Knot" ["word","branches"] C_Knot:=⟨a_Knot,PySem.W.mg_of X G a_Knot,⟨p1_Knot,p2_Knot,p3_Knot,p4_Knot⟩,fun f hf=>by
  simp only[List.mem_cons,List.not_mem_nil,or_false] at hf
  rcases hf with rfl | rfl
  ·exact n_Knot_word
  ·exact n_Knot_branches⟩
 obtain⟨T_15,o_15,n_15,rfl,h1_15,h2_15⟩:=e_15
 have F_15:FunA K "cells_of" "cells_of" zbj f_15 _:=⟨⟨oc_15,od_15,.ref T_15,kV_15,dc_15,pm_15,an_15,cd_15,ct_15,sl_15,rfl,l_15,c_15⟩,k_15⟩
 have D_15:DefD K mg "cells_of" zbj ["P","T","prices","free"] _ _:=⟨F_15,PySem.W.mg_of X G a_15,(fun s us KI hl=>match us,hl with | [_,_,_,_],_=>PySem.W.binds_K KI rfl h1_15 h2_15 rfl rfl),(fun s us KI hl=>match us,(show us.length=3 from Nat.succ.inj ((List.length_append (as:=us) (bs:=[Value.bool false])).symm.trans hl)),hl with | [_,_,_],_,_=>PySem.W.binds_K KI rfl h1_15 h2_15 rfl rfl),⟨(fun s us ws KI hl=>by
  obtain⟨e1,e2,e3⟩:=gK_shape hl
  rw[e3]
  exact match us,e1,ws,e2 with | [_,_,_],_,[_],_=>PySem.W.binds_K KI rfl h1_15 h2_15 rfl rfl),fun r rz=>gK_rel r rz⟩⟩
 have F_22:=za3 (st:=zaA) l_22 c_22 k_22
 have D_22:Def K mg "price_between" zaA ["P","T","prices"] _ _:=⟨F_22,PySem.W.mg_of X G a_22,F_22.binds (ps:=["P","T","prices"]) fun _ _ _ _ _ _ us hl=>by obtain⟨_,_,_,rfl⟩:=len3 hl;rfl⟩
 have F_23:=za3 (st:=zaU) l_23 c_23 k_23
 have D_23:Def K mg "row_across" zaU ["columns","classes"] _ _:=⟨F_23,PySem.W.mg_of X G a_23,F_23.binds (ps:=["columns","classes"]) fun _ _ _ _ _ _ us hl=>by obtain⟨_,_,rfl⟩:=zgC hl;rfl⟩
 have F_16:=za3 (st:=zaG) l_16 c_16 k_16
 have D_16:Def K mg "first_column" zaG ["pattern","prices"] _ _:=⟨F_16,PySem.W.mg_of X G a_16,F_16.binds (ps:=["pattern","prices"]) fun _ _ _ _ _ _ us hl=>by obtain⟨_,_,rfl⟩:=zgC hl;rfl⟩
 have F_17:=za3 (st:=zau) l_17 c_17 k_17
 have D_17:Def K mg "further_column" zau ["columns","pattern","text","prices","free"] _ _:=⟨F_17,PySem.W.mg_of X G a_17,F_17.binds (ps:=["columns","pattern","text","prices","free"]) fun _ _ _ _ _ _ us hl=>by obtain⟨_,_,_,_,_,rfl⟩:=len5 hl;rfl⟩
 have F_14:=za3 (st:=zal) l_14 c_14 k_14
 have D_14:Def K mg "cell_ahead_of_turn" zal ["columns","pattern","text","classes"] _ _:=⟨F_14,PySem.W.mg_of X G a_14,F_14.binds (ps:=["columns","pattern","text","classes"]) fun _ _ _ _ _ _ us hl=>by obtain⟨_,_,_,_,rfl⟩:=len4 hl;rfl⟩
 have F_25:=za3 (st:=zbA) l_25 c_25 k_25
 have D_25:Def K mg "stepped" zbA ["cell","price"] _ _:=⟨F_25,PySem.W.mg_of X G a_25,F_25.binds (ps:=["cell","price"]) fun _ _ _ _ _ _ us hl=>by obtain⟨_,_,rfl⟩:=zgC hl;rfl⟩
 have F_20:=za3 (st:=zbU) l_20 c_20 k_20
 have D_20:Def K mg "lowest" zbU ["cells"] _ _:=⟨F_20,PySem.W.mg_of X G a_20,F_20.binds (ps:=["cells"]) fun _ _ _ _ _ _ us hl=>by obtain⟨_,rfl⟩:=len1 hl;rfl⟩
 have F_21:=za3 (st:=zaS) l_21 c_21 k_21
 have D_21:Def K mg "pattern_of" zaS ["W"] _ _:=⟨F_21,PySem.W.mg_of X G a_21,F_21.binds (ps:=["W"]) fun _ _ _ _ _ _ us hl=>by obtain⟨_,rfl⟩:=len1 hl;rfl⟩
 have F_24:=za3 (st:=zaz) l_24 c_24 k_24
 have D_24:Def K mg "slips_between" zaz ["word","other"] _ _:=⟨F_24,PySem.W.mg_of X G a_24,F_24.binds (ps:=["word","other"]) fun _ _ _ _ _ _ us hl=>by obtain⟨_,_,rfl⟩:=zgC hl;rfl⟩
 have F_18:=za3 (st:=zcR) l_18 c_18 k_18
 have D_18:Def K mg "hang" zcR ["top","word"] _ _:=⟨F_18,PySem.W.mg_of X G a_18,F_18.binds (ps:=["top","word"]) fun _ _ _ _ _ _ us hl=>by obtain⟨_,_,rfl⟩:=zgC hl;rfl⟩
 have F_26:=za3 (st:=za4) l_26 c_26 k_26
 have D_26:Def K mg "tree_from" za4 ["knot"] _ _:=⟨F_26,PySem.W.mg_of X G a_26,F_26.binds (ps:=["knot"]) fun _ _ _ _ _ _ us hl=>by obtain⟨_,rfl⟩:=len1 hl;rfl⟩
 have F_5:=za3 (st:=za6) l_5 c_5 k_5
 have D_5:Def K mg "_law_deck" za6 ["_law_cells","_law_many"] _ _:=⟨F_5,PySem.W.mg_of X G a_5,F_5.binds (ps:=["_law_cells","_law_many"]) fun _ _ _ _ _ _ us hl=>by obtain⟨_,_,rfl⟩:=zgC hl;rfl⟩
 have F_9:=za3 (st:=za8) l_9 c_9 k_9
 have D_9:Def K mg "_law_sign" za8 ["_law_turn","_law_number"] _ _:=⟨F_9,PySem.W.mg_of X G a_9,F_9.binds (ps:=["_law_turn","_law_number"]) fun _ _ _ _ _ _ us hl=>by obtain⟨_,_,rfl⟩:=zgC hl;rfl⟩
 have F_12:=za3 (st:=za5) l_12 c_12 k_12
 have D_12:Def K mg "_law_word" za5 ["_law_cell","_law_few","_law_turn"] _ _:=⟨F_12,PySem.W.mg_of X G a_12,F_12.binds (ps:=["_law_cell","_law_few","_law_turn"]) fun _ _ _ _ _ _ us hl=>by obtain⟨_,_,_,rfl⟩:=len3 hl;rfl⟩
 have F_13:=za3 (st:=zaR) l_13 c_13 k_13
 have D_13:Def K mg "_law_words" zaR ["_law_deck_here","_law_most"] _ _:=⟨F_13,PySem.W.mg_of X G a_13,F_13.binds (ps:=["_law_deck_here","_law_most"]) fun _ _ _ _ _ _ us hl=>by obtain⟨_,_,rfl⟩:=zgC hl;rfl⟩
 have F_7:=za3 (st:=zaQ) l_7 c_7 k_7
 have D_7:Def K mg "_law_price" zaQ ["_law_one","_law_other"] _ _:=⟨F_7,PySem.W.mg_of X G a_7,F_7.binds (ps:=["_law_one","_law_other"]) fun _ _ _ _ _ _ us hl=>by obtain⟨_,_,rfl⟩:=zgC hl;rfl⟩
 have F_8:=za3 (st:=zbl) l_8 c_8 k_8
 have D_8:Def K mg "_law_put" zbl ["_law_below","_law_top","_law_word_here"] _ _:=⟨F_8,PySem.W.mg_of X G a_8,F_8.binds (ps:=["_law_below","_law_top","_law_word_here"]) fun _ _ _ _ _ _ us hl=>by obtain⟨_,_,_,rfl⟩:=len3 hl;rfl⟩
 have F_11:=za3 (st:=za7) l_11 c_11 k_11
 have D_11:Def K mg "_law_tree" za7 ["_law_below","_law_word_here"] _ _:=⟨F_11,PySem.W.mg_of X G a_11,F_11.binds (ps:=["_law_below","_law_word_here"]) fun _ _ _ _ _ _ us hl=>by obtain⟨_,_,rfl⟩:=zgC hl;rfl⟩
 have F_4:=za3 (st:=zaT) l_4 c_4 k_4
 have D_4:Def K mg "_law_alike" zaT ["_law_found","_law_due"] _ _:=⟨F_4,PySem.W.mg_of X G a_4,F_4.binds (ps:=["_law_found","_law_due"]) fun _ _ _ _ _ _ us hl=>by obtain⟨_,_,rfl⟩:=zgC hl;rfl⟩
 have F_10:=za3 (st:=zaJ) l_10 c_10 k_10
 have D_10:Def K mg "_law_stands" zaJ ["_law_state"] _ _:=⟨F_10,PySem.W.mg_of X G a_10,F_10.binds (ps:=["_law_state"]) fun _ _ _ _ _ _ us hl=>by obtain⟨_,rfl⟩:=len1 hl;rfl⟩
 have F_6:=za3 (st:=za9) l_6 c_6 k_6
 have D_6:Def K mg "_law_goes" za9 ["_law_state","_law_k"] _ _:=⟨F_6,PySem.W.mg_of X G a_6,F_6.binds (ps:=["_law_state","_law_k"]) fun _ _ _ _ _ _ us hl=>by obtain⟨_,_,rfl⟩:=zgC hl;rfl⟩
 have F_19:=za3 (st:=zc0) l_19 c_19 k_19
 have D_19:Def K mg "law" zc0 ["_law_script"] _ _:=⟨F_19,PySem.W.mg_of X G a_19,F_19.binds (ps:=["_law_script"]) fun _ _ _ _ _ _ us hl=>by obtain⟨_,rfl⟩:=len1 hl;rfl⟩
 have F_0:=za3 (st:=zaB) l_0 c_0 k_0
 have D_0:MakeD K "Book" zaB "Book.__init__" ["self"] _ _:=⟨.of F_0,fun C h=>by cases zcg a_Book h;exact⟨m1_Book,a_0,i_0,m2_Book⟩,F_0.binds (ps:=["self"]) fun _ _ _ _ _ _ us hl=>by obtain⟨_,rfl⟩:=len1 hl;rfl⟩
 have F_1:=za3 (st:=zbf) l_1 c_1 k_1
 have D_1:MethD K "Book" "put" zbf "Book.put" ["self","W"] _ _:=⟨.of F_1,fun C h=>by cases zcg a_Book h;exact⟨a_1,i_1,k_1⟩,F_1.binds (ps:=["self","W"]) fun _ _ _ _ _ _ us hl=>by obtain⟨_,_,rfl⟩:=zgC hl;rfl⟩
 have F_2:=za3 (st:=za2) l_2 c_2 k_2
 have D_2:MethD K "Book" "tree" za2 "Book.tree" ["self"] _ _:=⟨.of F_2,fun C h=>by cases zcg a_Book h;exact⟨a_2,i_2,k_2⟩,F_2.binds (ps:=["self"]) fun _ _ _ _ _ _ us hl=>by obtain⟨_,rfl⟩:=len1 hl;rfl⟩
 have F_3:=za3 (st:=zaC) l_3 c_3 k_3
 have D_3:MakeD K "Knot" zaC "Knot.__init__" ["self","word"] _ _:=⟨.of F_3,fun C h=>by cases zcg a_Knot h;exact⟨m1_Knot,a_3,i_3,m2_Knot⟩,F_3.binds (ps:=["self","word"]) fun _ _ _ _ _ _ us hl=>by obtain⟨_,_,rfl⟩:=zgC hl;rfl⟩
 have T:Txt K mg:={ m_bool:=PySem.W.mg_none_of X G z_bool,m_int:=PySem.W.mg_none_of X G z_int,m_isinstance:=PySem.W.mg_none_of X G z_isinstance,m_len:=PySem.W.mg_none_of X G z_len,m_list:=PySem.W.mg_none_of X G z_list,m_min:=PySem.W.mg_none_of X G z_min,m_range:=PySem.W.mg_none_of X G z_range,m_reversed:=PySem.W.mg_none_of X G z_reversed,m_sorted:=PySem.W.mg_none_of X G z_sorted,m_str:=PySem.W.mg_none_of X G z_str,m_tuple:=PySem.W.mg_none_of X G z_tuple,m_zip:=PySem.W.mg_none_of X G z_zip,g_PUT:=⟨_,PySem.W.mg_of X G q_PUT,⟨_,rfl⟩⟩,g_LEFT:=⟨_,PySem.W.mg_of X G q_LEFT,⟨_,rfl⟩⟩,g_EXCHANGED:=⟨_,PySem.W.mg_of X G q_EXCHANGED,⟨_,rfl⟩⟩,g_TURNED:=⟨_,PySem.W.mg_of X G q_TURNED,⟨_,rfl⟩⟩,u_PLAIN_PRICES:=⟨_,PySem.W.mg_of X G q_PLAIN_PRICES,_,_,_,l_PLAIN_PRICES,rfl,rfl,Nat.le_of_ble_eq_true rfl,.cons ⟨_,rfl⟩ (.cons ⟨_,rfl⟩ (.cons ⟨_,rfl⟩ (.cons ⟨_,rfl⟩ (.nil))))⟩,c_Book:=⟨_,DC_Book⟩,c_Knot:=⟨_,DC_Knot⟩,d_cells_of:=⟨_,_,D_15⟩,d_price_between:=⟨_,_,D_22⟩,d_row_across:=⟨_,_,D_23⟩,d_first_column:=⟨_,_,D_16⟩,d_further_column:=⟨_,_,D_17⟩,d_cell_ahead_of_turn:=⟨_,_,D_14⟩,d_stepped:=⟨_,_,D_25⟩,d_lowest:=⟨_,_,D_20⟩,d_pattern_of:=⟨_,_,D_21⟩,d_slips_between:=⟨_,_,D_24⟩,d_hang:=⟨_,_,D_18⟩,d_tree_from:=⟨_,_,D_26⟩,d__law_deck:=⟨_,_,D_5⟩,d__law_sign:=⟨_,_,D_9⟩,d__law_word:=⟨_,_,D_12⟩,d__law_words:=⟨_,_,D_13⟩,d__law_price:=⟨_,_,D_7⟩,d__law_put:=⟨_,_,D_8⟩,d__law_tree:=⟨_,_,D_11⟩,d__law_alike:=⟨_,_,D_4⟩,d__law_stands:=⟨_,_,D_10⟩,d__law_goes:=⟨_,_,D_6⟩,d_Book___init__:=⟨_,_,D_0⟩,d_Book_put:=⟨_,_,D_1⟩,d_Book_tree:=⟨_,_,D_2⟩,d_Knot___init__:=⟨_,_,D_3⟩}
 exact⟨PySem.W.fnOf "law" "law" (zaq zc0) (zam zc0) (zac zc0) .none kV_19 dc_19 pm_19 an_19 cd_19 ct_19,fun s v=>.of_eq rfl,fun base _ _=>(ok_law T (.of F_19)).imp fun _ _ _ _ h=>sp_law h⟩
theorem walk{l:PySem.W.OpenLaw}{q:Program}{loose:List Str}{XP:(Str->Option Value)->Heap->Prop}{YP:World->Heap->Prop}{d:DefRec}{K:Params->PySem.W.Frag}(hn:l.most=some 63)(hdf:d.params.defaults=[])
  (hY:∀ (w:World) (h:Heap),YP w h->(K w.params).In h)
  (F:∀ (w:World) (mg:Str->Option Value) (fa:Addr) (h:Heap),(K w.params).In h->h.Ns mainGlobals mg->mg d.name=some (.ref fa) ->
   ∃ fd:FuncData,(∀ (s:Shared) (u:Value),BindsTo s fd ⟨[u],[]⟩ [("_law_script",u)])/\∀ base:Heap,(K w.params).In base->base.Ns mainGlobals mg->FnOk l.prog w (K w.params) mg base CX0 54 fa fd ["_law_script"] (spLaw (K w.params))) :
  PySem.W.WalkO q loose XP YP l.row.toRowW d [] (fun f vs=>PySem.call f vs):=
 L2.walk_of (n:=63) (k:=54) (x:= "_law_script") (CX:=fun _=>CX0) (sp:=fun w=>spLaw (K w.params)) hn (by decide) hdf ⟨rfl,by decide,by decide⟩ hY F (fun _ _ a ns hl _ hS=>⟨a,ns,rfl,hS,hl,fun _=>rfl⟩) fun _ _ _ _ _ z=>z
end N51
open PySem PySem.W PyProof.Rows
set_option maxRecDepth 100000 in
set_option maxHeartbeats 0 in
theorem PySem.Challenge.cw_nearfind_k51_trees_holds : PySem.Challenge.rw_nearfind_k51_trees.Holds := by
 w_on;o_law;k_head;(case hw=>w_witness2)
 k_fill
 refine N51.walk (l:=PySem.Challenge.rw_nearfind_k51_trees) rfl rfl (fun w h Y=>PySem.W.kIn_of Y) ?F
 case F=>
  intro w mg fa h KX G hmg
  refine' N51.all_mk KX G hmg ?a_Book ?p1_Book ?p2_Book ?p3_Book ?p4_Book ?n_Book_top ?m1_Book ?m2_Book ?a_Knot ?p1_Knot ?p2_Knot ?p3_Knot ?p4_Knot ?n_Knot_word ?n_Knot_branches ?m1_Knot ?m2_Knot ?a_15 ?l_15 ?c_15 ?k_15 ?e_15 ?a_22 ?l_22 ?c_22 ?k_22 ?a_23 ?l_23 ?c_23 ?k_23 ?a_16 ?l_16 ?c_16 ?k_16 ?a_17 ?l_17 ?c_17 ?k_17 ?a_14 ?l_14 ?c_14 ?k_14 ?a_25 ?l_25 ?c_25 ?k_25 ?a_20 ?l_20 ?c_20 ?k_20 ?a_21 ?l_21 ?c_21 ?k_21 ?a_24 ?l_24 ?c_24 ?k_24 ?a_18 ?l_18 ?c_18 ?k_18 ?a_26 ?l_26 ?c_26 ?k_26 ?a_5 ?l_5 ?c_5 ?k_5 ?a_9 ?l_9 ?c_9 ?k_9 ?a_12 ?l_12 ?c_12 ?k_12 ?a_13 ?l_13 ?c_13 ?k_13 ?a_7 ?l_7 ?c_7 ?k_7 ?a_8 ?l_8 ?c_8 ?k_8 ?a_11 ?l_11 ?c_11 ?k_11 ?a_4 ?l_4 ?c_4 ?k_4 ?a_10 ?l_10 ?c_10 ?k_10 ?a_6 ?l_6 ?c_6 ?k_6 ?a_19 ?l_19 ?c_19 ?k_19 ?a_0 ?l_0 ?c_0 ?k_0 ?i_0 ?a_1 ?l_1 ?c_1 ?k_1 ?i_1 ?a_2 ?l_2 ?c_2 ?k_2 ?i_2 ?a_3 ?l_3 ?c_3 ?k_3 ?i_3 ?z_bool ?z_int ?z_isinstance ?z_len ?z_list ?z_min ?z_range ?z_reversed ?z_sorted ?z_str ?z_tuple ?z_zip ?q_PUT ?q_LEFT ?q_EXCHANGED ?q_TURNED ?q_PLAIN_PRICES ?l_PLAIN_PRICES
  (case a_Book=>k_is)
  (case p1_Book=>k_is)
  (case p2_Book=>k_is)
  (case p3_Book=>k_is)
  (case p4_Book=>k_is)
  (case n_Book_top=>k_is)
  (case m1_Book=>k_is)
  (case m2_Book=>k_is)
  (case a_Knot=>k_is)
  (case p1_Knot=>k_is)
  (case p2_Knot=>k_is)
  (case p3_Knot=>k_is)
  (case p4_Knot=>k_is)
  (case n_Knot_word=>k_is)
  (case n_Knot_branches=>k_is)
  (case m1_Knot=>k_is)
  (case m2_Knot=>k_is)
  (case a_15=>k_is)
  (case l_15=>k_is)
  (case c_15=>k_is)
  (case k_15=>k_is)
  (case e_15=>exact⟨_,_,_,rfl,by k_is,rfl⟩)
  (case a_22=>k_is)
  (case l_22=>k_is)
  (case c_22=>k_is)
  (case k_22=>k_is)
  (case a_23=>k_is)
  (case l_23=>k_is)
  (case c_23=>k_is)
  (case k_23=>k_is)
  (case a_16=>k_is)
  (case l_16=>k_is)
  (case c_16=>k_is)
  (case k_16=>k_is)
  (case a_17=>k_is)
  (case l_17=>k_is)
  (case c_17=>k_is)
  (case k_17=>k_is)
  (case a_14=>k_is)
  (case l_14=>k_is)
  (case c_14=>k_is)
  (case k_14=>k_is)
  (case a_25=>k_is)
  (case l_25=>k_is)
  (case c_25=>k_is)
  (case k_25=>k_is)
  (case a_20=>k_is)
  (case l_20=>k_is)
  (case c_20=>k_is)
  (case k_20=>k_is)
  (case a_21=>k_is)
  (case l_21=>k_is)
  (case c_21=>k_is)
  (case k_21=>k_is)
  (case a_24=>k_is)
  (case l_24=>k_is)
  (case c_24=>k_is)
  (case k_24=>k_is)
  (case a_18=>k_is)
  (case l_18=>k_is)
  (case c_18=>k_is)
  (case k_18=>k_is)
  (case a_26=>k_is)
  (case l_26=>k_is)
  (case c_26=>k_is)
  (case k_26=>k_is)
  (case a_5=>k_is)
  (case l_5=>k_is)
  (case c_5=>k_is)
  (case k_5=>k_is)
  (case a_9=>k_is)
  (case l_9=>k_is)
  (case c_9=>k_is)
  (case k_9=>k_is)
  (case a_12=>k_is)
  (case l_12=>k_is)
  (case c_12=>k_is)
  (case k_12=>k_is)
  (case a_13=>k_is)
  (case l_13=>k_is)
  (case c_13=>k_is)
  (case k_13=>k_is)
  (case a_7=>k_is)
  (case l_7=>k_is)
  (case c_7=>k_is)
  (case k_7=>k_is)
  (case a_8=>k_is)
  (case l_8=>k_is)
  (case c_8=>k_is)
  (case k_8=>k_is)
  (case a_11=>k_is)
  (case l_11=>k_is)
  (case c_11=>k_is)
  (case k_11=>k_is)
  (case a_4=>k_is)
  (case l_4=>k_is)
  (case c_4=>k_is)
  (case k_4=>k_is)
  (case a_10=>k_is)
  (case l_10=>k_is)
  (case c_10=>k_is)
  (case k_10=>k_is)
  (case a_6=>k_is)
  (case l_6=>k_is)
  (case c_6=>k_is)
  (case k_6=>k_is)
  (case a_19=>k_is)
  (case l_19=>k_is)
  (case c_19=>k_is)
  (case k_19=>k_is)
  (case a_0=>k_is)
  (case l_0=>k_is)
  (case c_0=>k_is)
  (case k_0=>k_is)
  (case i_0=>k_is)
  (case a_1=>k_is)
  (case l_1=>k_is)
  (case c_1=>k_is)
  (case k_1=>k_is)
  (case i_1=>k_is)
  (case a_2=>k_is)
  (case l_2=>k_is)
  (case c_2=>k_is)
  (case k_2=>k_is)
  (case i_2=>k_is)
  (case a_3=>k_is)
  (case l_3=>k_is)
  (case c_3=>k_is)
  (case k_3=>k_is)
  (case i_3=>k_is)
  (case z_bool=>k_is)
  (case z_int=>k_is)
  (case z_isinstance=>k_is)
  (case z_len=>k_is)
  (case z_list=>k_is)
  (case z_min=>k_is)
  (case z_range=>k_is)
  (case z_reversed=>k_is)
  (case z_sorted=>k_is)
  (case z_str=>k_is)
  (case z_tuple=>k_is)
  (case z_zip=>k_is)
  (case q_PUT=>k_is)
  (case q_LEFT=>k_is)
  (case q_EXCHANGED=>k_is)
  (case q_TURNED=>k_is)
  (case q_PLAIN_PRICES=>k_is)
  (case l_PLAIN_PRICES=>k_is)
#print axioms PySem.Challenge.cw_nearfind_k51_trees_holds


