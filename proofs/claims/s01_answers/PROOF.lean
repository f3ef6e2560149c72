import PyProof.Rows.All
import KE.BitLaws
import KE.KDictList
import KE.KSortTupG
import KE.OsGo
import KE.OsHead
import KE.OsShapes
import KE.SpHead
import Open.SpecLaws
import OpenK.AllK
import PyProof.Draws
import PyProof.EnumMake
import PyProof.EqAt
import PyProof.EqKinds
import PyProof.ExcAttrAll.Exception
import PyProof.ExcBaseAll.Exception
import PyProof.FactsAll.NoneType_1
import PyProof.TupleCall
import PyProof.ZipIter
import Wide.All
import Wide.FinOn
import PySem.Challenge.RW_paperroll_s01_answers
set_option Elab.async false
set_option linter.all false
set_option maxRecDepth 100000
set_option maxHeartbeats 8000000
theorem dk{p:Prop}(h:p:=by decide +kernel):p:=h
namespace L2
open PySem PySem.Spec PyProof.Rows
abbrev Key:=Sum Int Str
noncomputable def ni:Key->Value->Bool
 |.inl k,v=>Value.isInt k v
 |.inr x,v=>Value.isStrOf x v
noncomputable def keyH(w:World):Key->Int
 |.inl k=>hashInt k
 |.inr x=>hashStr w x
theorem cN:∀{k:Key} {v:Value},ni k v=true->(∃i t,k=Sum.inl i/\v=Value.int i t)∨(∃x t,k=Sum.inr x/\v=Value.str x t)
 |.inl i,v,h=>by
  obtain⟨t,e⟩:=Value.isInt_shape (k:=i) (v:=v) h
  exact .inl ⟨i,t,rfl,e⟩
 |.inr x,v,h=>by
  obtain⟨t,e⟩:=Value.isStrOf_shape (x:=x) (v:=v) h
  exact .inr ⟨x,t,rfl,e⟩
theorem BX(i:Int)(t:Tok):ni (.inl i) (.int i t)=true:=by simp[ni,Value.isInt]
theorem BZ(x:Str)(t:Tok):ni (.inr x) (.str x t)=true:=by simp[ni,Value.isStrOf]
theorem key_ll(a b:Int):decide ((Sum.inl a:Key)=Sum.inl b)=(a==b):=by
 by_cases e:a=b
 ·subst e;simp
 ·have h:¬(Sum.inl a:Key)=Sum.inl b:=λq=>e (Sum.inl.inj q)
  rw[decide_eq_false h]
  exact(beq_eq_false_iff_ne.mpr e).symm
theorem key_rr(a b:Str):decide ((Sum.inr a:Key)=Sum.inr b)=decide (a=b):=by
 by_cases e:a=b
 ·subst e;simp
 ·have h:¬(Sum.inr a:Key)=Sum.inr b:=λq=>e (Sum.inr.inj q)
  rw[decide_eq_false h,decide_eq_false e]
theorem key_lr(a:Int)(b:Str):decide ((Sum.inl a:Key)=Sum.inr b)=false:=decide_eq_false (λq=>nomatch q)
theorem key_rl(a:Str)(b:Int):decide ((Sum.inr a:Key)=Sum.inl b)=false:=decide_eq_false (λq=>nomatch q)
noncomputable def bO(prog:Program)(w:World):PySem.KeyKind prog w Key where
 is:=ni
 hash:=keyH w
 inj:=λv a b ha hb=>by
  rcases cN ha with ⟨i,t,rfl,rfl⟩|⟨x,t,rfl,rfl⟩
  ·rcases cN hb with ⟨j,u,rfl,e⟩|⟨y,u,rfl,e⟩
   ·injection e with e1 _;rw[e1]
   ·exact nomatch e
  ·rcases cN hb with ⟨j,u,rfl,e⟩|⟨y,u,rfl,e⟩
   ·exact nomatch e
   ·injection e with e1 _;rw[e1]
 byValue:=λk v h=>by
  rcases cN h with ⟨i,t,rfl,rfl⟩|⟨x,t,rfl,rfl⟩<;>rfl
 pyHash:=λhv h=>by
  rcases cN hv with ⟨i,t,rfl,rfl⟩|⟨x,t,rfl,rfl⟩
  ·exact wpAny_pyHash_int h
  ·exact wpAny_pyHash_str h
 eqBool:=λhu hv h=>by
  rcases cN hu with ⟨i,t,rfl,rfl⟩|⟨x,t,rfl,rfl⟩
  ·rcases cN hv with ⟨j,u,rfl,rfl⟩|⟨y,u,rfl,rfl⟩
   ·rw[key_ll] at h;exact wpAny_eqBool_int h
   ·rw[key_lr] at h;exact SeqAt.EqAt.int_str i t y u _ _ _ _ h
  ·rcases cN hv with ⟨j,u,rfl,rfl⟩|⟨y,u,rfl,rfl⟩
   ·rw[key_rl] at h;exact SeqAt.EqAt.str_int x t j u _ _ _ _ h
   ·rw[key_rr] at h;exact wpAny_eqBool_str h
 «strs»:=λk x t v h=>by
  rcases cN h with ⟨i,u,rfl,e⟩|⟨y,u,rfl,e⟩
  ·exact nomatch e
  ·injection e with e1 _
   subst e1
   cases v<;>rfl
theorem nG(prog:Program)(w:World)(i:Int)(t:Tok):(bO prog w).is (.inl i) (.int i t)=true:=BX i t
theorem nH(prog:Program)(w:World)(x:Str)(t:Tok):(bO prog w).is (.inr x) (.str x t)=true:=BZ x t
inductive V where
 |non|bl (b:Bool)|int (i:Int)|str (x:Str)|byt (b:Array UInt8)|flt (b:UInt64)|ref (a:Addr)|ty (n:String)
 deriving DecidableEq
def RelV:V->Value->Prop
 |.non,u=>u=Value.none
 |.bl b,u=>u=Value.bool b
 |.int i,u=>∃t,u=Value.int i t
 |.str x,u=>∃t,u=Value.str x t
 |.byt b,u=>∃t,u=Value.bytes b t
 |.flt b,u=>∃t,u=Value.float b t
 |.ref a,u=>u=Value.ref a
 |.ty n,u=>u=Value.type n
abbrev Vals:List V->List Value->Prop:=Paired RelV
theorem Vals.length{xs:List V}{us:List Value}(r:Vals xs us):xs.length=us.length:=Paired.length r
theorem Vals.get:∀{xs:List V} {us:List Value} {i:Nat} {x:V},Vals xs us->xs[i]?=some x->∃u,us[i]?=some u/\RelV x u
 |_,_,_,_,.nil,e=>by simp at e
 |_,_,0,_,.cons r _,e=>by simp at e;subst e;exact⟨_,rfl,r⟩
 |_,_,i+1,x,.cons _ t,e=>by
  obtain⟨u,h1,h2⟩:=Vals.get (i:=i) (x:=x) t (by simpa using e)
  exact⟨u,by simpa using h1,h2⟩
theorem Vals.set{x:V}{u:Value}(r:RelV x u):∀{xs:List V} {us:List Value} (i:Nat),Vals xs us->Vals (xs.set i x) (us.set i u)
 |_,_,_,.nil=>.nil
 |_,_,0,.cons _ t=>.cons r t
 |_,_,i+1,.cons q t=>.cons q (Vals.set r i t)
theorem Vals.append:∀{xs ys:List V} {us ws:List Value},Vals xs us->Vals ys ws->Vals (xs++ys) (us++ws)
 |_,_,_,_,.nil,s=>s
 |_,_,_,_,.cons r t,s=>.cons r (Vals.append t s)
theorem Vals.take:∀{xs:List V} {us:List Value} (n:Nat),Vals xs us->Vals (xs.take n) (us.take n)
 |_,_,0,_=>.nil
 |_,_,_+1,.nil=>.nil
 |_,_,n+1,.cons r t=>.cons r (Vals.take n t)
theorem Vals.drop:∀{xs:List V} {us:List Value} (n:Nat),Vals xs us->Vals (xs.drop n) (us.drop n)
 |_,_,0,r=>r
 |_,_,_+1,.nil=>.nil
 |_,_,n+1,.cons _ t=>Vals.drop n t
def iB:Option V->Option Value->Prop
 |some v,some u=>RelV v u
 |none,none=>True
 |_,_=>False
def KV{κ:Type}:List (κ×V)->List (κ×Value)->Prop:=Paired λ(p:κ×V) (q:κ×Value)=>p.1=q.1/\RelV p.2 q.2
noncomputable def kV:Key->V
 |.inl i=>.int i
 |.inr x=>.str x
inductive HO where
 /-- a list -/
 |lst (xs:List V)
 /-- a tuple (never changes) -/
 |tup (xs:List V)
 /-- a dict whose keys are ints and texts;one whose keys are tuples of ints and texts (the empty one is both) -/
 |dK (kvs:List (Key×V))|dT (kvs:List (List Key×V))
 /-- a set of ints: its members,its size -/
 |set (S:Int->Bool) (n:Nat)
 /-- an instance of the class at C,its dict at dx,its attributes -/
 |ins (C dx:Addr) (fs:List (Str×V))
 /-- the dict of the instance at x -/
 |own (x:Addr)
 /-- the dict of an exception -/
 |xd (fs:List (Str×V))
 /-- a bound method,f of x -/
 |met (f x:Addr)
 /-- a range object lo,lo+1,.. below hi -/
 |rng (lo hi:Int)
 /-- a thing that is known to the object (the script;a dict while a loop walks it): read,never written while it is so -/
 |frz (o:Obj) (u:HO)
 /-- a code object's table -/
 |tbl (ps:Array Value)
 /-- any other thing,by what is true of its one object (a def of one's own: SetO a S n:=HO.ext λh=>..) -/
 |ext (φ:Heap->Prop)
abbrev Hp:=Addr->Option HO
noncomputable def upd(H:Hp)(a:Addr)(o:HO):Hp:=λb=>if b=a then some o else H b
theorem aj{H:Hp}{a:Addr}{o:HO}:upd H a o a=some o:=by unfold upd;rw[if_pos rfl]
theorem ao{H:Hp}{a b:Addr}{o:HO}(h:b≠a):upd H a o b=H b:=by unfold upd;rw[if_neg h]
theorem bI{H:Hp}{a b:Addr}{o u:HO}(h:H a=some o)(h':H b=some u)(d:o≠u):a≠b:=by
 intro e;subst e;rw[h] at h';exact d (Option.some.inj h')
theorem aa{H:Hp}{a b:Addr}{o:HO}(h:H a=some o)(h':H b=none):a≠b:=by
 intro e;subst e;rw[h] at h';cases h'
section
variable (P:Program)(w:World)
def cW(H:Hp)(h:Heap)(a:Addr):HO->Prop
 |.lst xs=>xs.length<=sizeLine/\∃(its:List Value) (n:Nat),Vals xs its/\h.get? a=some { cls:=.type "list",data:=.seq its.toArray n }
 |.tup xs=>xs.length<=sizeLine/\∃its:List Value,Vals xs its/\IsTup h a its.toArray
 |.dK kvs=>kvs.length<=sizeLine/\(a==sysModules)=false/\∃vs,KV kvs vs/\h.DictOf (bO P w) a vs
 |.dT kvs=>kvs.length<=sizeLine/\(a==sysModules)=false/\∃xs:List (List Key×Addr×Value),
   Paired (λ(p:List Key×V) (q:List Key×Addr×Value)=>p.1=q.1/\H q.2.1=some (.tup (p.1.map kV))/\RelV p.2 q.2.2) kvs xs /\
   ∃o es ep,h.get? a=some o/\o.ExactDict/\o.data=.dict es ep/\es.toList=xs.map (entryOfKey (tupleKind (bO P w)))/\(xs.map (·.1)).Nodup
 |.set S n=>h.SetOf (intKind P w) a S n
 |.ins C dx fs=>H dx=some (.own a)/\fs.length<=1000/\dx≠a/\h.get? a=some (PySem.W.instObj C dx) /\
   ∃mA,h.Ns1 dx mA/\(∀f,iB (fs.lookup f) (mA f))/\PySem.Within mA (fs.map (·.1))
 |.own _=>∃o,h.get? a=some o
 |.xd fs=>∃mA,h.Ns1 a mA/\∀f,iB (fs.lookup f) (mA f)
 |.rng lo hi=>∃t u v,h.get? a=some { cls:=.type "range",data:=.fields #[.int lo t,.int hi u,.int 1 v] }
 |.frz o u=>h.get? a=some o/\cW H h a u
 |.tbl ps=>h.get? a=some { cls:=.none,data:=.fields ps }
 |.met f x=>h.get? a=some (PySem.W.methodObj (.ref f) (.ref x))
 |.ext φ=>φ h/\(∃o,h.get? a=some o)/\∀h1 h2:Heap,φ h1->(∀o,h1.get? a=some o->h2.get? a=some o)->φ h2
def HOk(H:Hp)(h:Heap):Prop:=∀a o,H a=some o->cW P w H h a o
end
section
variable {P:Program}{w:World}{H H':Hp}{h h':Heap}{a:Addr}{o:HO}
theorem cW.lt(x:cW P w H h a o):a<h.objs.size:=by
 cases o with
 |lst xs=>obtain⟨_,_,_,_,e⟩:=x;exact Heap.lt_size e
 |tup xs=>obtain⟨_,_,_,p⟩:=x;exact p.lt
 |dK kvs=>obtain⟨_,_,_,_,o,_,_,e,_⟩:=x;exact Heap.lt_size e
 |dT kvs=>obtain⟨_,_,_,_,o,_,_,e,_⟩:=x;exact Heap.lt_size e
 |set S n=>obtain⟨o,_,_,_,e,_⟩:=x;exact Heap.lt_size e
 |ins C dx fs=>obtain⟨_,_,_,e,_⟩:=x;exact Heap.lt_size e
 |own y=>obtain⟨_,e⟩:=x;exact Heap.lt_size e
 |xd fs=>obtain⟨_,⟨_,_,_,e,_⟩,_⟩:=x;exact Heap.lt_size e
 |rng lo hi=>obtain⟨_,_,_,e⟩:=x;exact Heap.lt_size e
 |frz ob u=>obtain⟨e,_⟩:=x;exact Heap.lt_size e
 |tbl ps=>exact Heap.lt_size (show h.get? a=some _ from x)
 |met f y=>exact Heap.lt_size (show h.get? a=some _ from x)
 |ext φ=>obtain⟨_,⟨_,e⟩,_⟩:=x;exact Heap.lt_size e
theorem Paired.mapP{α β:Type}{F G:α->β->Prop}:∀{l₁:List α} {l₂:List β},Paired F l₁ l₂->(∀a b,F a b->G a b)->Paired G l₁ l₂
 |_,_,.nil,_=>.nil
 |_,_,.cons r t,f=>.cons (f _ _ r) (Paired.mapP t f)
theorem cW.stay(x:cW P w H h a o)(k:∀b u,(b=a∨H b=some (.own a))->h.get? b=some u->h'.get? b=some u)(ho:∀b,H b=some (.own a)->H' b=some (.own a))(ht:∀b xs,H b=some (.tup xs)->H' b=some (.tup xs)):cW P w H' h' a o:=by
 induction o with
 |lst xs=>obtain⟨z,its,n,r,e⟩:=x;exact⟨z,its,n,r,k _ _ (.inl rfl) e⟩
 |tup xs=>obtain⟨z,its,r,ob,e,c⟩:=x;exact⟨z,its,r,ob,k _ _ (.inl rfl) e,c⟩
 |dK kvs=>obtain⟨z,y,vs,r,ob,es,ep,e,c⟩:=x;exact⟨z,y,vs,r,ob,es,ep,k _ _ (.inl rfl) e,c⟩
 |dT kvs =>
  obtain⟨z,y,xs,r,ob,es,ep,e,c⟩:=x
  exact⟨z,y,xs,Paired.mapP r λp q z=>⟨z.1,ht _ _ z.2.1,z.2.2⟩,ob,es,ep,k _ _ (.inl rfl) e,c⟩
 |set S n=>obtain⟨ob,es,ep,t,e,c⟩:=x;exact⟨ob,es,ep,t,k _ _ (.inl rfl) e,c⟩
 |ins C dx fs =>
  obtain⟨d,z,ne,e,mA,⟨od,es,ep,e2,c⟩,r⟩:=x
  exact⟨ho _ d,z,ne,k _ _ (.inl rfl) e,mA,⟨od,es,ep,k _ _ (.inr d) e2,c⟩,r⟩
 |own y=>obtain⟨ob,e⟩:=x;exact⟨ob,k _ _ (.inl rfl) e⟩
 |xd fs=>obtain⟨mA,⟨od,es,ep,e,c⟩,r⟩:=x;exact⟨mA,⟨od,es,ep,k _ _ (.inl rfl) e,c⟩,r⟩
 |rng lo hi=>obtain⟨t,u,v,e⟩:=x;exact⟨t,u,v,k _ _ (.inl rfl) e⟩
 |frz ob u ih=>obtain⟨e,q⟩:=x;exact⟨k _ _ (.inl rfl) e,ih q⟩
 |tbl ps =>
  have e:h.get? a=some { cls:=.none,data:=.fields ps }:=x
  show h'.get? a=some { cls:=.none,data:=.fields ps }
  exact k a _ (.inl rfl) e
 |met f y =>
  have e:h.get? a=some (PySem.W.methodObj (.ref f) (.ref y)):=x
  show h'.get? a=some (PySem.W.methodObj (.ref f) (.ref y))
  exact k a _ (.inl rfl) e
 |ext φ=>obtain⟨p,⟨o,e⟩,st⟩:=x;exact⟨st _ _ p λo q=>k _ _ (.inl rfl) q,⟨o,k _ _ (.inl rfl) e⟩,st⟩
theorem HOk.lt(x:HOk P w H h)(e:H a=some o):a<h.objs.size:=(x a o e).lt
theorem HOk.fresh(x:HOk P w H h)(e:h.objs.size<=a):H a=none:=by
 cases q:H a with
 |none=>rfl
 |some u=>exact absurd (Nat.lt_of_lt_of_le (x.lt q) e) (Nat.lt_irrefl _)
theorem HOk.kept(x:HOk P w H h)(k:∀b u,h.get? b=some u->h'.get? b=some u):HOk P w H h':=λa o e =>
 (x a o e).stay (λb u _ q=>k b u q) (λ_ q=>q) λ_ _ q=>q
theorem HOk.laid(x:HOk P w H h)(k:∀b u,h.get? b=some u->h'.get? b=some u)(hp:h.objs.size<=a)(new:cW P w (upd H a o) h' a o):HOk P w (upd H a o) h':=λb u e=>by
 have hn:=x.fresh hp
 by_cases hb:b=a
 ·subst hb;rw[aj] at e;cases e;exact new
 ·rw[ao hb] at e
  exact(x b u e).stay (λc v _ q=>k c v q) (λc q=>by rw[ao (aa q hn)];exact q) λc xs q=>by rw[ao (aa q hn)];exact q
end
def Rd(H:Hp)(a:Addr)(u:HO):Prop:=H a=some u∨∃o,H a=some (.frz o u)
theorem Rd.ok{P:Program}{w:World}{H:Hp}{h:Heap}{a:Addr}{u:HO}(r:Rd H a u)(x:HOk P w H h):cW P w H h a u:=by
 rcases r with r|⟨o,r⟩
 ·exact x a u r
 ·obtain⟨_,q⟩:=x a _ r
  exact q
def Mut:Option HO->Prop
 |some (.lst _)=>True
 |some (.dK _)=>True
 |some (.dT _)=>True
 |some (.set _ _)=>True
 |some (.ins _ _ _)=>True
 |some (.ext _)=>True
 |_=>False
section
variable {P:Program}{w:World}{H:Hp}{h h':Heap}{x e:Addr}{o':HO}
theorem HOk.write(ok:HOk P w H h)(mu:Mut (H x))(he:e=x∨H e=some (.own x))(k:∀b u,b≠e->h.get? b=some u->h'.get? b=some u)(heo:∃u,h'.get? e=some u)(new:cW P w (upd H x o') h' x o'):HOk P w (upd H x o') h':=λb u q=>by
 have nown:∀c y,H c=some (.own y)->c≠x:=λc y r z=>by subst z;rw[r] at mu;exact mu
 have ntup:∀c xs,H c=some (.tup xs)->c≠x:=λc xs r z=>by subst z;rw[r] at mu;exact mu
 by_cases hb:b=x
 ·subst hb;rw[aj] at q;cases q;exact new
 ·rw[ao hb] at q
  by_cases hbe:b=e
  ·have q':H b=some (.own x):=by
    rcases he with z|z
    ·exact absurd (hbe.trans z) hb
    ·rw[hbe];exact z
   rw[q] at q';cases q'
   obtain⟨v,hv⟩:=heo
   exact⟨v,by rw[hbe];exact hv⟩
  ·refine(ok b u q).stay (λc v hc r=>k c v ?_ r) (λc r=>by rw[ao (nown c b r)];exact r) λc xs r=>by rw[ao (ntup c xs r)];exact r
   rcases hc with rfl|hc
   ·exact hbe
   ·rintro rfl
    rcases he with z|z
    ·exact nown c b hc z
    ·rw[hc] at z;cases z;exact hb rfl
end
structure Un(fs ex:List Addr)(H H':Hp)(h h':Heap):Prop where
 keep:∀b o,h.get? b=some o->H b=none->b∉fs->b∉ex->h'.get? b=some o
 slot:∀b o,h.get? b=some o->H b=none->b∈fs->b∉ex->∃sl,h'.get? b=some { o with slots:=sl }
 free:∀b o,h.get? b=some o->H b=none->b∉ex->H' b=none
 there:∀b o,h.get? b=some o->b∉ex->∃o',h'.get? b=some o'
 tups:∀b xs,H b=some (.tup xs)->H' b=some (.tup xs)
 frzs:∀b o u,H b=some (.frz o u)->H' b=some (.frz o u)
 tbls:∀b ps,H b=some (.tbl ps)->∃more,H' b=some (.tbl (ps++more))
section
variable {fs fs' ex ex':List Addr}{H H1 H2:Hp}{h h1 h2 h':Heap}{a x e:Addr}{o:HO}
theorem Un.any(u:Un fs ex H H1 h h1){b:Addr}{ob:Obj}(q:h.get? b=some ob)(n:H b=none)(hx:b∉ex):∃sl,h1.get? b=some { ob with slots:=sl }:=by
 by_cases hb:b∈fs
 ·exact u.slot b ob q n hb hx
 ·exact⟨ob.slots,u.keep b ob q n hb hx⟩
theorem Un.kept(k:∀b u,h.get? b=some u->h'.get? b=some u):Un fs ex H H h h' :=
 ⟨λb ob q _ _ _=>k b ob q,λb ob q _ _ _=>⟨ob.slots,k b ob q⟩,λ_ _ _ n _=>n,λb ob q _=>⟨ob,k b ob q⟩,λ_ _ q=>q,λ_ _ _ q=>q,λ_ ps q=>⟨#[],by rw[q];simp⟩⟩
theorem Un.refl:Un fs ex H H h h:=Un.kept λ_ _ q=>q
theorem Un.laid(k:∀b u,h.get? b=some u->h'.get? b=some u)(hp:h.objs.size<=a)(hn:H a=none):Un fs ex H (upd H a o) h h' where
 keep:=λb u q _ _ _=>k b u q
 slot:=λb u q _ _ _=>⟨u.slots,k b u q⟩
 free:=λb u q n _=>by rw[ao (Nat.ne_of_lt (Nat.lt_of_lt_of_le (Heap.lt_size q) hp))];exact n
 there:=λb u q _=>⟨u,k b u q⟩
 tups:=λb xs q=>by rw[ao (aa q hn)];exact q
 frzs:=λb u xs q=>by rw[ao (aa q hn)];exact q
 tbls:=λb ps q=>⟨#[],by rw[ao (aa q hn),q];simp⟩
theorem Un.write(mu:Mut (H x))(he:e=x∨H e=some (.own x))(k:∀b u,b≠e->h.get? b=some u->h'.get? b=some u)(heo:∃u,h'.get? e=some u):Un fs ex H (upd H x o) h h':=by
 have hx:∀b,H b=none->b≠x:=λb n z=>by subst z;rw[n] at mu;exact mu
 have hb:∀b,H b=none->b≠e:=λb n z=>by
  subst z
  rcases he with r|r
  ·exact hx b n r
  ·rw[n] at r;cases r
 have hm:∀b u,H b=some u->¬Mut (some u)->b≠x:=λb u q nm z=>by subst z;rw[q] at mu;exact nm mu
 refine⟨λb u q n _ _=>k b u (hb b n) q,λb u q n _ _=>⟨u.slots,k b u (hb b n) q⟩,λb u q n _=>by rw[ao (hx b n)];exact n,λb u q _=>?_,
  λb xs q=>by rw[ao (hm b _ q λz=>z)];exact q,λb u xs q=>by rw[ao (hm b _ q λz=>z)];exact q,λb ps q=>⟨#[],by rw[ao (hm b _ q λz=>z),q];simp⟩⟩
 by_cases hbe:b=e
 ·subst hbe;exact heo
 ·exact⟨u,k b u hbe q⟩
end
noncomputable def trk(h:Heap)(H:Hp):List Addr:=(List.range h.objs.size).filter λa=>(H a).isSome
noncomputable def uJ(h:Heap)(H:Hp):Heap:=PySem.W.hideAll h (trk h H)
theorem BW(h:Heap)(H:Hp):(uJ h H).objs.size=h.objs.size:=PySem.W.hideAll_size _ _
theorem Fg{h:Heap}{H:Hp}{b:Addr}{o:Obj}(e:h.get? b=some o)(n:H b=none):(uJ h H).get? b=some o :=
 PySem.W.hideAll_get _ e λhm=>by
  have q:(H b).isSome=true:=(List.mem_filter.mp hm).2
  rw[n] at q;simp at q
theorem Jd{h:Heap}{H:Hp}{b:Addr}{o:Obj}(e:(uJ h H).get? b=some o):h.get? b=some o/\H b=none:=by
 have e':h.get? b=some o:=PySem.W.of_hideAll (trk h H) e
 refine⟨e',?_⟩
 cases q:H b with
 |none=>rfl
 |some x =>
  have hm:b∈trk h H:=List.mem_filter.mpr ⟨List.mem_range.mpr (Heap.lt_size e'),by simp[q]⟩
  have z:(uJ h H).get? b=none:=PySem.W.hideAll_none (trk h H) hm
  rw[z] at e;cases e
structure Mod(K:PySem.W.Frag)(mg:Str->Option Value)(base:Heap):Prop where
 kin:K.In base
 glob:base.Ns mainGlobals mg
 blt:∃mb,base.Ns builtinsNs mb/\∀x:Str,x≠"__name__"->mb x=bootBuiltins x
 nolimit:base.NoLimit
structure Cx where
 prog:Program
 w:World
 K:PySem.W.Frag
 mg:Str->Option Value
 base:Heap
 A:Around
 N:List Str
 s_0:Shared
 H_0:Hp
 env:Env
 outer:List Env
 stack:List Env
 ex:List Addr
 fn:Str->Bool
 calm:Bool
 pn:List (Addr×Obj)
 xe:Value->Shared->Prop
noncomputable def frs(l:List Env):List Addr:=l.filterMap (·.frame)
noncomputable abbrev Cx.fs(X:Cx):List Addr:=frs X.outer
def Vis(sc:Scope)(x:Str):Prop:=sc.names.lookup x=some .local∨sc.names.lookup x=some .cell∨sc.names.lookup x=some .free
def Loc(sc:Scope)(x:Str):Prop:=sc.names.lookup x=some .local∨sc.names.lookup x=some .cell
def Look(env:Env)(h:Heap)(m:Str->Option Value)(x:Str)(u:Value):Prop :=
 (env.kindOf x=some .local/\m x=some u)∨((env.kindOf x=some .cell∨env.kindOf x=some .free)/\∃c,env.cells.lookup x=some c/\h.IsCell c (some u))
structure Cx.Ok(X:Cx):Prop where
 mod:Mod X.K X.mg X.base
 kind:X.env.scope.kind=.function
 glob:X.env.globals=mainGlobals
 blt:X.env.builtins=builtinsNs
 above:X.s_0.heap.objs.size<=X.env.locals
 inj:∀x y c,X.env.cells.lookup x=some c->X.env.cells.lookup y=some c->x=y
 has:∀x,(X.env.kindOf x=some .cell∨X.env.kindOf x=some .free)->∃c,X.env.cells.lookup x=some c
 cab:∀x c,X.fn x=true->X.env.cells.lookup x=some c->X.s_0.heap.objs.size<=c
 hd:X.calm=true->X.A.handled=none
 frames:X.A.frames=some X.stack
 stk:X.stack=X.outer∨(X.stack=X.env::X.outer/\X.env.frame=some X.env.locals)
 exf:∀b∈X.ex,b≠X.env.locals/\∀x c,X.env.cells.lookup x=some c->c≠b
 bs:∀b o,X.base.get? b=some o->X.s_0.heap.get? b=some o/\X.H_0 b=none
 bsz:X.base.objs.size<=X.s_0.heap.objs.size
 noex:∀b o,X.base.get? b=some o->b∉X.ex
 exfs:∀b∈X.ex,b∉X.fs
 funs:X.s_0.heap.FunFrames X.base X.outer
 frf:∀b∈X.fs,X.H_0 b=none
structure Inv(X:Cx)(pins:List (Addr×Obj))(σ:List (Option V))(H:Hp)(s:Shared):Prop where
 ok:X.Ok
 os:s.os=X.s_0.os
 bare:AllBare s.gens
 base:Un X.fs X.ex X.H_0 H X.s_0.heap s.heap
 loc:∃m,s.heap.Ns X.env.locals m/\∀(i:Nat) (x:Str) (v:V),X.N[i]?=some x->σ[i]?=some (some v)->Vis X.env.scope x->∃u,RelV v u/\Look X.env s.heap m x u
 cell:∀x c,X.env.cells.lookup x=some c->∃v,s.heap.IsCell c v
 free:H X.env.locals=none
 freeC:∀x c,X.env.cells.lookup x=some c->H c=none
 pin:∀p∈X.pn++pins,s.heap.get? p.1=some p.2/\H p.1=none/\p.1≠X.env.locals/\p.1∉X.fs/\∀v,p.2.data≠.cell v
 hok:HOk X.prog X.w H s.heap
 len:σ.length=X.N.length
section
variable {X:Cx}{pins:List (Addr×Obj)}{σ:List (Option V)}{H H':Hp}{s:Shared}{h':Heap}
theorem Cx.Ok.nofr(ok:X.Ok){b:Addr}{o:Obj}(e:X.base.get? b=some o):b∉X.fs:=λhb=>by
 have:=(ok.funs.mem hb).1
 rw[e] at this;cases this
theorem Inv.bs(I:Inv X pins σ H s):∀b o,X.base.get? b=some o->s.heap.get? b=some o/\H b=none:=λb o e =>
 ⟨I.base.keep b o (I.ok.bs b o e).1 (I.ok.bs b o e).2 (I.ok.nofr e) (I.ok.noex b o e),I.base.free b o (I.ok.bs b o e).1 (I.ok.bs b o e).2 (I.ok.noex b o e)⟩
theorem Inv.bk(I:Inv X pins σ H s):∀b o,X.base.get? b=some o->s.heap.get? b=some o:=λb o e=>(I.bs b o e).1
theorem Inv.mod(I:Inv X pins σ H s):Mod X.K X.mg X.base:=I.ok.mod
theorem Inv.kIn(I:Inv X pins σ H s):X.K.In s.heap:=I.ok.mod.kin.keeps I.bk
theorem Inv.fr(I:Inv X pins σ H s):∃m,Fr X.base X.env.locals s.heap m :=
 let ⟨m,hn,_⟩:=I.loc
 ⟨m,hn,I.bk,Nat.le_trans I.ok.bsz I.ok.above⟩
theorem Inv.lt(I:Inv X pins σ H s):X.env.locals<s.heap.objs.size:=let ⟨_,hn,_⟩:=I.loc;hn.lt
theorem Inv.sz(I:Inv X pins σ H s):X.s_0.heap.objs.size<=s.heap.objs.size:=Nat.le_trans I.ok.above (Nat.le_of_lt I.lt)
theorem Inv.nofs(I:Inv X pins σ H s){a:Addr}(h:s.heap.objs.size<=a):a∉X.fs:=λhb=>by
 obtain⟨_,o,ho,_⟩:=I.ok.funs.mem hb
 exact absurd (Nat.lt_of_lt_of_le (Heap.lt_size ho) (Nat.le_trans I.sz h)) (Nat.lt_irrefl _)
theorem Inv.cne(I:Inv X pins σ H s):∀x c,X.env.cells.lookup x=some c->c≠X.env.locals:=λx c e z=>by
 obtain⟨v,o,ho,hd⟩:=I.cell x c e
 obtain⟨m,⟨o',es,ep,ho',hd',_⟩,_⟩:=I.loc
 rw[z,ho'] at ho;cases ho;rw[hd'] at hd;cases hd
theorem Inv.funs(I:Inv X pins σ H s):s.heap.FunFrames X.base X.outer:=by
 have all:∀(l:List Env),(∀b∈frs l,b∈X.fs)->X.s_0.heap.FunFrames X.base l->s.heap.FunFrames X.base l:=by
  intro l
  induction l with
  |nil=>intro _ _;trivial
  |cons env r ih =>
   intro hs hl
   obtain⟨hk,⟨L,o,hf,hn,ho,hd⟩,hr⟩:=hl
   have hL:L∈X.fs:=hs L (by unfold frs;rw[List.filterMap_cons,hf];exact List.mem_cons_self)
   obtain⟨sl,e⟩:=I.base.slot L o ho (I.ok.frf L hL) hL λz=>I.ok.exfs L z hL
   exact⟨hk,⟨L,_,hf,hn,e,hd⟩,ih (λb hb=>hs b (by unfold frs;rw[List.filterMap_cons,hf];exact List.mem_cons_of_mem _ hb)) hr⟩
 exact all X.outer (λ_ hb=>hb) I.ok.funs
theorem Inv.stack(I:Inv X pins σ H s):s.heap.FunFrames X.base X.stack:=by
 rcases I.ok.stk with e|⟨e,hf⟩
 ·rw[e];exact I.funs
 ·rw[e]
  obtain⟨m,hn,_⟩:=I.loc
  refine .cons (by rw[I.ok.kind];decide) hf hn ?_ I.funs
  exact Heap.get?_none_of_le (Nat.le_trans I.ok.bsz I.ok.above)
theorem Inv.stkSub(I:Inv X pins σ H s):∀b∈frs X.stack,b∈X.env.locals::X.fs:=λb hb=>by
 rcases I.ok.stk with e|⟨e,hf⟩
 ·rw[e] at hb;exact List.mem_cons_of_mem _ hb
 ·rw[e] at hb
  unfold frs at hb
  rw[List.filterMap_cons,hf] at hb
  exact hb
theorem Inv.stkFree(I:Inv X pins σ H s):∀b∈frs X.stack,H b=none:=λb hb=>by
 rcases List.mem_cons.mp (I.stkSub b hb) with e|hb
 ·rw[e];exact I.free
 ·obtain⟨_,o,ho,_⟩:=I.ok.funs.mem hb
  exact I.base.free b o ho (I.ok.frf b hb) λz=>I.ok.exfs b z hb
theorem Inv.step{g':Array GenState}{t':Nat}{d':Drawn}{ch:List Addr}(I:Inv X pins σ H s)(hch:∀b∈ch,(b∈X.ex∨X.s_0.heap.objs.size<=b)/\b≠X.env.locals/\(∀x c,X.env.cells.lookup x=some c->c≠b)/\∀p∈X.pn++pins,p.1≠b)(keep:∀b o,b≠X.env.locals->b∉X.fs->b∉ch->s.heap.get? b=some o->H b=none->h'.get? b=some o)(slot:∀b o,b≠X.env.locals->b∈X.fs->b∉ch->s.heap.get? b=some o->H b=none->∃sl,h'.get? b=some { o with slots:=sl })(free:∀b o,b∉ch->s.heap.get? b=some o->H b=none->H' b=none)(there:∀b o,b∉ch->s.heap.get? b=some o->∃o',h'.get? b=some o')(tups:∀b xs,H b=some (.tup xs)->H' b=some (.tup xs))(frzs:∀b o u,H b=some (.frz o u)->H' b=some (.frz o u))(tbls:∀b ps,H b=some (.tbl ps)->∃more,H' b=some (.tbl (ps++more)))(ns:∀m,s.heap.Ns X.env.locals m->h'.Ns X.env.locals m)(hok:HOk X.prog X.w H' h')(hg:AllBare g') :
  Inv X pins σ H' { s with heap:=h',gens:=g',drawn:=d',toks:=t' }:=by
 have neL:∀b o,X.s_0.heap.get? b=some o->b≠X.env.locals:=λb o e=>Nat.ne_of_lt (Nat.lt_of_lt_of_le (Heap.lt_size e) I.ok.above)
 have neC:∀b o,X.s_0.heap.get? b=some o->b∉X.ex->b∉ch:=λb o e hx hb=>by
  rcases (hch b hb).1 with z|z
  ·exact hx z
  ·exact absurd (Nat.lt_of_lt_of_le (Heap.lt_size e) z) (Nat.lt_irrefl _)
 have cellK:∀x c,X.env.cells.lookup x=some c->∀v,s.heap.IsCell c v->h'.IsCell c v:=λx c e v ⟨o,ho,hd⟩=>by
  have nch:c∉ch:=λz=>(hch c z).2.2.1 x c e rfl
  by_cases hc:c∈X.fs
  ·obtain⟨sl,q⟩:=slot c o (I.cne x c e) hc nch ho (I.freeC x c e)
   exact⟨_,q,hd⟩
  ·exact⟨o,keep c o (I.cne x c e) hc nch ho (I.freeC x c e),hd⟩
 refine⟨I.ok,I.os,hg,⟨λb o e n hb hx=>?_,λb o e n hb hx=>?_,λb o e n hx=>?_,λb o e hx=>?_,λb xs e=>tups b xs (I.base.tups b xs e),λb o xs e=>frzs b o xs (I.base.frzs b o xs e),λb ps e=>?_⟩,?_,λx c e=>?_,?_,λx c e=>?_,λp hp=>?_,hok,I.len⟩
 ·exact keep b o (neL b o e) hb (neC b o e hx) (I.base.keep b o e n hb hx) (I.base.free b o e n hx)
 ·obtain⟨sl,e1⟩:=I.base.slot b o e n hb hx
  obtain⟨sl',e2⟩:=slot b _ (neL b o e) hb (neC b o e hx) e1 (I.base.free b o e n hx)
  exact⟨sl',e2⟩
 ·obtain⟨o',e1⟩:=I.base.there b o e hx
  exact free b o' (neC b o e hx) e1 (I.base.free b o e n hx)
 ·obtain⟨o',e1⟩:=I.base.there b o e hx
  exact there b o' (neC b o e hx) e1
 ·obtain⟨m1,e1⟩:=I.base.tbls b ps e
  obtain⟨m2,e2⟩:=tbls b _ e1
  exact⟨m1++m2,by rw[e2,Array.append_assoc]⟩
 ·obtain⟨m,hn,hl⟩:=I.loc
  refine⟨m,ns m hn,λi x v e1 e2 e3=>?_⟩
  obtain⟨u,r,l⟩:=hl i x v e1 e2 e3
  refine⟨u,r,?_⟩
  rcases l with l|⟨k,c,e,z⟩
  ·exact .inl l
  ·exact .inr ⟨k,c,e,cellK x c e _ z⟩
 ·obtain⟨v,z⟩:=I.cell x c e
  exact⟨v,cellK x c e v z⟩
 ·obtain⟨m,⟨o,_,_,ho,_⟩,_⟩:=I.loc
  exact free _ o (λz=>(hch _ z).2.1 rfl) ho I.free
 ·obtain⟨v,o,ho,hd⟩:=I.cell x c e
  exact free c o (λz=>(hch c z).2.2.1 x c e rfl) ho (I.freeC x c e)
 ·obtain⟨e,n,ne,nf,d⟩:=I.pin p hp
  have nch:p.1∉ch:=λz=>(hch p.1 z).2.2.2 p hp rfl
  exact⟨keep p.1 p.2 ne nf nch e n,free p.1 p.2 nch e n,ne,nf,d⟩
theorem Inv.un{t':Nat}(I:Inv X pins σ H s)(u:Un X.fs [] H H' s.heap h')(hok:HOk X.prog X.w H' h'):Inv X pins σ H' { s with heap:=h',toks:=t' }:=by
 obtain⟨m,⟨o,es,ep,ho,r⟩,_⟩:=id I.loc
 obtain⟨sl,hL⟩:=u.any ho I.free (by simp)
 exact I.step (g':=s.gens) (d':=s.drawn) (ch:=[]) (λ_ z=>nomatch z) (λb o _ hb _ e n=>u.keep b o e n hb (by simp)) (λb o _ hb _ e n=>u.slot b o e n hb (by simp)) (λb o _ e n=>u.free b o e n (by simp)) (λb o _ e=>u.there b o e (by simp)) u.tups u.frzs u.tbls (λm' hm=>by
  obtain⟨o',es',ep',ho',r'⟩:=hm
  rw[ho] at ho';cases ho'
  exact⟨_,es',ep',hL,r'⟩) hok I.bare
theorem Inv.call{g':Array GenState}{t':Nat}{d':Drawn}{ch:List Addr}(I:Inv X pins σ H s)(u:Un (frs X.stack) ch H H' s.heap h')(hok:HOk X.prog X.w H' h')(hg:AllBare g')(hch:∀b∈ch,(b∈X.ex∨X.s_0.heap.objs.size<=b)/\b≠X.env.locals/\(∀x c,X.env.cells.lookup x=some c->c≠b)/\∀p∈X.pn++pins,p.1≠b) :
  Inv X pins σ H' { s with heap:=h',gens:=g',drawn:=d',toks:=t' }:=by
 obtain⟨m,⟨o,es,ep,ho,r⟩,_⟩:=id I.loc
 obtain⟨sl,hL⟩:=u.any ho I.free λz=>(hch _ z).2.1 rfl
 exact I.step (ch:=ch) hch (λb o hL hb hc e n=>u.keep b o e n (λz=>(List.mem_cons.mp (I.stkSub b z)).elim hL hb) hc) (λb o _ _ hc e n=>u.any e n hc) (λb o hc e n=>u.free b o e n hc) (λb o hc e=>u.there b o e hc) u.tups u.frzs u.tbls (λm' hm=>by
  obtain⟨o',es',ep',ho',r'⟩:=hm
  rw[ho] at ho';cases ho'
  exact⟨_,es',ep',hL,r'⟩) hok hg
theorem Inv.turned{t':Nat}{it:Addr}(I:Inv X pins σ H s)(k:∀b o,b≠it->s.heap.get? b=some o->h'.get? b=some o)(hn:H it=none)(hL:it≠X.env.locals)(h1:it∈X.ex∨X.s_0.heap.objs.size<=it)(h2:∀x c,X.env.cells.lookup x=some c->c≠it)(h3:∀p∈X.pn++pins,p.1≠it):Inv X pins σ H { s with heap:=h',toks:=t' }:=by
 have nit:∀b u,H b=some u->b≠it:=λb u e z=>by rw[z,hn] at e;cases e
 refine I.step (g':=s.gens) (d':=s.drawn) (ch:=[it]) (λb hb=>?_) (λb o _ _ hc e _=>k b o (λz=>hc (by simp[z])) e) (λb o _ _ hc e _=>⟨o.slots,k b o (λz=>hc (by simp[z])) e⟩) (λ_ _ _ _ n=>n)
  (λb o hc e=>⟨o,k b o (λz=>hc (by simp[z])) e⟩) (λ_ _ e=>e) (λ_ _ _ e=>e) (λb ps e=>⟨#[],by rw[e];simp⟩) (λm hm=>?_) (λb u e=>?_) I.bare
 ·have e:b=it:=by simpa using hb
  subst e
  exact⟨h1,hL,h2,h3⟩
 ·obtain⟨o,es,ep,ho,r⟩:=hm
  exact⟨o,es,ep,k _ o (Ne.symm hL) ho,r⟩
 ·refine(I.hok b u e).stay (λc v hc q=>k c v ?_ q) (λ_ q=>q) λ_ _ q=>q
  rcases hc with z|z
  ·rw[z];exact nit b u e
  ·exact nit c _ z
theorem Inv.tok(I:Inv X pins σ H s)(t:Nat):Inv X pins σ H { s with toks:=t }:=I.un (h':=s.heap) (t':=t) Un.refl I.hok
theorem Inv.kept{t':Nat}(I:Inv X pins σ H s)(k:∀b u,s.heap.get? b=some u->h'.get? b=some u):Inv X pins σ H { s with heap:=h',toks:=t' }:=I.un (Un.kept k) (I.hok.kept k)
theorem Inv.laid{a:Addr}{o:HO}{t':Nat}(I:Inv X pins σ H s)(k:∀b u,s.heap.get? b=some u->h'.get? b=some u)(hp:s.heap.objs.size<=a)(new:cW X.prog X.w (upd H a o) h' a o) :
  Inv X pins σ (upd H a o) { s with heap:=h',toks:=t' }:=I.un (Un.laid k hp (I.hok.fresh hp)) (I.hok.laid k hp new)
theorem Inv.write{x e:Addr}{o:HO}{t':Nat}(I:Inv X pins σ H s)(mu:Mut (H x))(he:e=x∨H e=some (.own x))(k:∀b u,b≠e->s.heap.get? b=some u->h'.get? b=some u)(heo:∃u,h'.get? e=some u)(new:cW X.prog X.w (upd H x o) h' x o):Inv X pins σ (upd H x o) { s with heap:=h',toks:=t' }:=I.un (Un.write mu he k heo) (I.hok.write mu he k heo new)
theorem Inv.weak{σ':List (Option V)}(I:Inv X pins σ H s)(hl:σ'.length=σ.length)(w:∀(i:Nat) v,σ'[i]?=some (some v)->σ[i]?=some (some v)):Inv X pins σ' H s :=
 ⟨I.ok,I.os,I.bare,I.base,let ⟨m,hn,hl'⟩:=I.loc;⟨m,hn,λi x v e1 e2 e3=>hl' i x v e1 (w i v e2) e3⟩,I.cell,I.free,I.freeC,I.pin,I.hok,hl.trans I.len⟩
theorem Inv.pins_of{pins':List (Addr×Obj)}(I:Inv X pins σ H s)(h:∀p∈pins',s.heap.get? p.1=some p.2/\H p.1=none/\p.1≠X.env.locals/\p.1∉X.fs/\∀v,p.2.data≠.cell v):Inv X pins' σ H s :=
 ⟨I.ok,I.os,I.bare,I.base,I.loc,I.cell,I.free,I.freeC,λp hp=>(List.mem_append.mp hp).elim (λz=>I.pin p (List.mem_append_left _ z)) (h p),I.hok,I.len⟩
theorem pW{N:List Str}(hN:N.Nodup){i j:Nat}{x:Str}(a:N[i]?=some x)(b:N[j]?=some x):i=j:=by
 obtain⟨h1,e1⟩:=List.getElem?_eq_some_iff.mp a
 obtain⟨h2,e2⟩:=List.getElem?_eq_some_iff.mp b
 exact(List.getElem_inj hN).mp (e1.trans e2.symm)
theorem mQ{M:Model}{A:Around}{E:Value->Shared->Prop}{i:Nat}{x:Str}{v:V}{u:Value}{Q:Unit->Shared->Prop}(I:Inv X pins σ H s)(hN:X.N.Nodup)(hi:X.N[i]?=some x)(hx:Loc X.env.scope x)(r:RelV v u)(h:∀s',Inv X pins (σ.set i (some v)) H s'->(∃a,Heap.SameBut a s.heap s'.heap/\(a=X.env.locals∨X.env.cells.lookup x=some a))->Q () s')(hf:X.fn x=true∨X.env.scope.names.lookup x=some .local:=by first|exact .inl rfl|exact .inr rfl|assumption):wpAny M A (storeName X.env x u) Q E s:=by
 obtain⟨m,hn,hl⟩:=id I.loc
 have hcls:(X.env.scope.kind==.class || (X.env.scope.kind==.module&&X.env.locals != X.env.globals))=false:=by rw[I.ok.kind];rfl
 have hiσ:i<σ.length:=by rw[I.len];exact(List.getElem?_eq_some_iff.mp hi).1
 have cne:=I.cne
 have tracked:∀{a:Addr} {h':Heap},(∃o,s.heap.get? a=some o/\H a=none)->Heap.SameBut a s.heap h'->HOk X.prog X.w H h':=λ{a h'} ha hs b ob e=>by
  obtain⟨_,_,hfree⟩:=ha
  refine(I.hok b ob e).stay (λc w' hc q=>(hs.2 c ?_).trans q) (λ_ q=>q) λ_ _ q=>q
  rintro rfl
  rcases hc with rfl|hc
  ·rw[hfree] at e;cases e
  ·rw[hfree] at hc;cases hc
 rcases hx with hk|hk
 ·refine wpAny_storeName_local hk hn (λh' hn' hs=>?_) hcls
  obtain⟨oL,_,_,hoL,_⟩:=id hn
  refine h _ ⟨I.ok,I.os,I.bare,⟨λb o e n hb hx=>?_,λb o e n hb hx=>?_,I.base.free,λb o e hx=>?_,I.base.tups,I.base.frzs,I.base.tbls⟩,⟨_,hn',λj y v' e1 e2 e3=>?_⟩,λy c e=>?_,I.free,I.freeC,λp hp=>?_,tracked ⟨oL,hoL,I.free⟩ hs,by simpa using I.len⟩ ⟨_,hs,.inl rfl⟩
  ·exact(hs.2 b (Nat.ne_of_lt (Nat.lt_of_lt_of_le (Heap.lt_size e) I.ok.above))).trans (I.base.keep b o e n hb hx)
  ·obtain⟨sl,e1⟩:=I.base.slot b o e n hb hx
   exact⟨sl,(hs.2 b (Nat.ne_of_lt (Nat.lt_of_lt_of_le (Heap.lt_size e) I.ok.above))).trans e1⟩
  ·obtain⟨o',e1⟩:=I.base.there b o e hx
   exact⟨o',(hs.2 b (Nat.ne_of_lt (Nat.lt_of_lt_of_le (Heap.lt_size e) I.ok.above))).trans e1⟩
  ·by_cases hj:j=i
   ·subst hj
    rw[hi] at e1;cases e1
    rw[List.getElem?_set_self hiσ] at e2
    cases e2
    exact⟨u,r,.inl ⟨hk,by simp⟩⟩
   ·rw[List.getElem?_set_ne (Ne.symm hj)] at e2
    obtain⟨u',r',q⟩:=hl j y v' e1 e2 e3
    refine⟨u',r',?_⟩
    rcases q with ⟨k,e⟩|⟨k,c,e,z⟩
    ·refine .inl ⟨k,?_⟩
     have:y≠x:=λe=>hj (pW hN e1 (e▸hi))
     simp[this,e]
    ·exact .inr ⟨k,c,e,z.sameBut hs (cne y c e)⟩
  ·obtain⟨w',z⟩:=I.cell y c e
   exact⟨w',z.sameBut hs (cne y c e)⟩
  ·obtain⟨e,n,ne,nf,d⟩:=I.pin p hp
   exact⟨(hs.2 p.1 ne).trans e,n,ne,nf,d⟩
 ·have hfn:X.fn x=true:=by
   rcases hf with z|z
   ·exact z
   ·rw[z] at hk;cases hk
  obtain⟨c,hc⟩:=I.ok.has x (.inl hk)
  obtain⟨w',z⟩:=I.cell x c hc
  refine wpAny_storeName_cell I.ok.kind hk hc z (λh' hc' hs=>?_)
  obtain⟨oc,hoc,hocd⟩:=id z
  refine h { s with heap:=h' } ⟨I.ok,I.os,I.bare,⟨λb o e n hb hx=>?_,λb o e n hb hx=>?_,I.base.free,λb o e hx=>?_,I.base.tups,I.base.frzs,I.base.tbls⟩,⟨m,hn.sameBut hs (Ne.symm (cne x c hc)),λj y v' e1 e2 e3=>?_⟩,λy c' e=>?_,I.free,I.freeC,λp hp=>?_,tracked ⟨oc,hoc,I.freeC x c hc⟩ hs,by simpa using I.len⟩ ⟨c,hs,.inr hc⟩
  ·exact(hs.2 b (Nat.ne_of_lt (Nat.lt_of_lt_of_le (Heap.lt_size e) (I.ok.cab x c hfn hc)))).trans (I.base.keep b o e n hb hx)
  ·obtain⟨sl,e1⟩:=I.base.slot b o e n hb hx
   exact⟨sl,(hs.2 b (Nat.ne_of_lt (Nat.lt_of_lt_of_le (Heap.lt_size e) (I.ok.cab x c hfn hc)))).trans e1⟩
  ·obtain⟨o',e1⟩:=I.base.there b o e hx
   exact⟨o',(hs.2 b (Nat.ne_of_lt (Nat.lt_of_lt_of_le (Heap.lt_size e) (I.ok.cab x c hfn hc)))).trans e1⟩
  ·by_cases hj:j=i
   ·subst hj
    rw[hi] at e1;cases e1
    rw[List.getElem?_set_self hiσ] at e2
    cases e2
    exact⟨u,r,.inr ⟨.inl hk,c,hc,hc'⟩⟩
   ·rw[List.getElem?_set_ne (Ne.symm hj)] at e2
    obtain⟨u',r',q⟩:=hl j y v' e1 e2 e3
    refine⟨u',r',?_⟩
    rcases q with q|⟨k,c',e,z'⟩
    ·exact .inl q
    ·refine .inr ⟨k,c',e,z'.sameBut hs ?_⟩
     rintro rfl
     exact hj (pW hN e1 (I.ok.inj _ _ _ e hc▸hi))
  ·by_cases hcc:c'=c
   ·subst hcc;exact⟨_,hc'⟩
   ·obtain⟨w2,z2⟩:=I.cell y c' e
    exact⟨w2,z2.sameBut hs hcc⟩
  ·obtain⟨e,n,ne,nf,d⟩:=I.pin p hp
   refine⟨(hs.2 p.1 ?_).trans e,n,ne,nf,d⟩
   intro q
   rw[q,hoc] at e
   have q':oc=p.2:=Option.some.inj e
   exact d w' (by rw[←q'];exact hocd)
theorem lL{M:Model}{A:Around}{E:Value->Shared->Prop}{i:Nat}{x:Str}{v:V}{u:Value}{Q:Unit->Shared->Prop}(I:Inv X pins σ H s)(hN:X.N.Nodup)(hi:X.N[i]?=some x)(hx:Loc X.env.scope x)(r:RelV v u)(h:∀s',Inv X pins (σ.set i (some v)) H s'->Q () s')(hf:X.fn x=true∨X.env.scope.names.lookup x=some .local:=by first|exact .inl rfl|exact .inr rfl|assumption):wpAny M A (storeName X.env x u) Q E s :=
 mQ I hN hi hx r (λs' I' _=>h s' I') hf
theorem Inv.call'{s':Shared}{ch:List Addr}(I:Inv X pins σ H s)(ho:s'.os=s.os)(u:Un (frs X.stack) ch H H' s.heap s'.heap)(hok:HOk X.prog X.w H' s'.heap)(hg:AllBare s'.gens)(hch:∀b∈ch,(b∈X.ex∨X.s_0.heap.objs.size<=b)/\b≠X.env.locals/\(∀x c,X.env.cells.lookup x=some c->c≠b)/\∀p∈X.pn++pins,p.1≠b):Inv X pins σ H' s':=by
 obtain⟨h',g',d',t',o'⟩:=s'
 have e:o'=s.os:=ho
 subst e
 exact I.call (g':=g') (t':=t') (d':=d') u hok hg hch
end
abbrev XK:=Value->Option Addr->Hp->Prop
abbrev St:=List (Option V)
abbrev VK:=V->Hp->Prop
abbrev TE:=St->Hp->VK->Prop
abbrev TT:=St->Hp->(Bool->Hp->Prop)->Prop
abbrev TA:=St->Hp->(List V->Hp->Prop)->Prop
structure Ends where
 nx:St->Hp->Prop
 rt:VK
 bk:St->Hp->Prop:=λ_ _=>False
 ct:St->Hp->Prop:=λ_ _=>False
abbrev TS:=Ends->St->Hp->Prop
def EP(X:Cx)(pins:List (Addr×Obj))(σ:St)(Q:VK)(u:Value)(s':Shared):Prop:=∃v H',Inv X pins σ H' s'/\RelV v u/\Q v H'
def TP(X:Cx)(pins:List (Addr×Obj))(σ:St)(Q:Bool->Hp->Prop)(b:Bool)(s':Shared):Prop:=∃H',Inv X pins σ H' s'/\Q b H'
def AP(X:Cx)(pins:List (Addr×Obj))(σ:St)(Q:List V->Hp->Prop)(us:List Value)(s':Shared):Prop:=∃vs H',Inv X pins σ H' s'/\Vals vs us/\Q vs H'
def SP(X:Cx)(pins:List (Addr×Obj))(D:Ends)(f:Flow)(s':Shared):Prop :=
 match f with
 |.next=>∃σ' H',Inv X pins σ' H' s'/\D.nx σ' H'
 |.brk=>∃σ' H',Inv X pins σ' H' s'/\D.bk σ' H'
 |.cont=>∃σ' H',Inv X pins σ' H' s'/\D.ct σ' H'
 |.ret u=>∃v σ' H',Inv X pins σ' H' s'/\RelV v u/\D.rt v H'
def PE(X:Cx)(e:Expr)(t:TE):Prop :=
 ∀(pins:List (Addr×Obj)) (s:Shared) (σ:St) (H:Hp) (Q:VK),Inv X pins σ H s->t σ H Q->wpAny (model X.prog X.w) X.A (eval e X.env) (EP X pins σ Q) X.xe s
def PT(X:Cx)(e:Expr)(t:TT):Prop :=
 ∀(pins:List (Addr×Obj)) (s:Shared) (σ:St) (H:Hp) (Q:Bool->Hp->Prop),Inv X pins σ H s->t σ H Q->wpAny (model X.prog X.w) X.A (isTrue e X.env (eval e X.env)) (TP X pins σ Q) X.xe s
def PW(X:Cx)(e:Expr)(t:TT):Prop :=
 ∀(whole:Sem Value) (pins:List (Addr×Obj)) (s:Shared) (σ:St) (H:Hp) (Q:Bool->Hp->Prop),Inv X pins σ H s->t σ H Q->wpAny (model X.prog X.w) X.A (isTrue e X.env whole) (TP X pins σ Q) X.xe s
theorem PW.pt{X:Cx}{e:Expr}{t:TT}(h:PW X e t):PT X e t:=h _
def PA(X:Cx)(es:List Expr)(t:TA):Prop :=
 ∀(pos:Pos) (pins:List (Addr×Obj)) (s:Shared) (σ:St) (H:Hp) (Q:List V->Hp->Prop),Inv X pins σ H s->t σ H Q->wpAny (model X.prog X.w) X.A (spliced (backTo pos (starEach es X.env))) (AP X pins σ Q) X.xe s
def PS(X:Cx)(st:Stmt)(t:TS):Prop :=
 ∀(pins:List (Addr×Obj)) (s:Shared) (σ:St) (H:Hp) (D:Ends),Inv X pins σ H s->t D σ H->wpAny (model X.prog X.w) X.A (exec st X.env) (SP X pins D) X.xe s
def PSs(X:Cx)(st:List Stmt)(t:TS):Prop :=
 ∀(pins:List (Addr×Obj)) (s:Shared) (σ:St) (H:Hp) (D:Ends),Inv X pins σ H s->t D σ H->wpAny (model X.prog X.w) X.A (execs st X.env) (SP X pins D) X.xe s
theorem thn{α:Type}{t:Sem α}{Q Q':α->Shared->Prop}{M:Model}{A:Around}{E:Value->Shared->Prop}{s:Shared}(h:wpAny M A t Q E s)(hQ:∀a s,Q a s->Q' a s):wpAny M A t Q' E s:=wpAny_mono h hQ λ_ _ x=>x
section
variable {X:Cx}
theorem bin{a b:Expr}{ta tb:TE}(ha:PE X a ta)(hb:PE X b tb){pins:List (Addr×Obj)}{s:Shared}{σ:St}{H:Hp}{R:V->V->Hp->Prop}(I:Inv X pins σ H s)(h:ta σ H λx H1=>tb σ H1 λy H2=>R x y H2){α:Type}{Q:α->Shared->Prop}{f:Value->Value->Sem α}(hf:∀v u s2 x y H2,Inv X pins σ H2 s2->RelV x v->RelV y u->R x y H2->wpAny (model X.prog X.w) X.A (f v u) Q X.xe s2) :
  wpAny (model X.prog X.w) X.A (eval a X.env) (λv s₁=>wpAny (model X.prog X.w) X.A (eval b X.env) (λu s₂=>wpAny (model X.prog X.w) X.A (f v u) Q X.xe s₂) X.xe s₁) X.xe s:=by
 refine thn (ha pins s σ H _ I h) λv s1 hq=>?_
 obtain⟨x,H1,I1,r1,q1⟩:=hq
 refine thn (hb pins s1 σ H1 _ I1 q1) λu s2 hq=>?_
 obtain⟨y,H2,I2,r2,q2⟩:=hq
 exact hf v u s2 x y H2 I2 r1 r2 q2
def tVar(i:Nat):TE:=λσ H Q=>∃v,σ[i]?=some (some v)/\Q v H
def tC(v:V):TE:=λ_ H Q=>Q v H
theorem pe_var{i:Nat}{x:Str}{pos:Pos}(hN:X.N[i]?=some x)(hv:Vis X.env.scope x)(hd:(x==("__debug__":Str))=false:=by decide)(hcd:(x==("__classdict__":Str))=false:=by decide):PE X (.Name x pos) (tVar i):=by
 intro pins s σ H Q I h
 obtain⟨v,e,h⟩:=h
 obtain⟨m,hn,hl⟩:=I.loc
 obtain⟨u,r,l⟩:=hl i x v hN e hv
 have fin:EP X pins σ Q u s:=⟨v,H,I,r,h⟩
 rcases l with ⟨hk,hm⟩|⟨hk,c,hc,hcell⟩
 ·exact wpAny_Name (wpAny_loadName_local I.ok.kind hk hn hm fin) hd
 ·rcases hk with hk|hk
  ·exact wpAny_Name (wpAny_loadName_cell I.ok.kind hk hc hcell fin) hd
  ·exact wpAny_Name (wpAny_loadName_free I.ok.kind hk hc hcell fin hcd) hd
theorem aC{i j pos}:PE X (.Constant (.int i) j pos) (tC (.int i)):=λ_ _ _ H _ I h=>wpAny_Constant_int ⟨.int i,H,I.tok _,⟨_,rfl⟩,h⟩
theorem lA{b j pos}:PE X (.Constant (.bool b) j pos) (tC (.bl b)):=λ_ _ _ H _ I h=>Constant_bool ⟨.bl b,H,I,rfl,h⟩
theorem pe_non{j pos}:PE X (.Constant .none j pos) (tC .non):=λ_ _ _ H _ I h=>Constant_none ⟨.non,H,I,rfl,h⟩
theorem lY{x j pos}:PE X (.Constant (.str x) j pos) (tC (.str x)):=λ_ _ _ H _ I h=>Calls.Constant_str ⟨.str x,H,I.tok _,⟨_,rfl⟩,h⟩
def Gl(X:Cx)(x:Str):Prop:=X.env.kindOf x=some .globalImplicit
theorem iG{E:Value->Shared->Prop}{pins:List (Addr×Obj)}{s:Shared}{σ:St}{H:Hp}{x:Str}{u:Value}{pos:Pos}{Q:Value->Shared->Prop}(I:Inv X pins σ H s)(hg:Gl X x)(hm:X.mg x=some u)(h:Q u s)(hd:(x==("__debug__":Str))=false:=by decide):wpAny (model X.prog X.w) X.A (eval (.Name x pos) X.env) Q E s :=
 Calls.Name_function_global I.ok.kind hg (Calls.loadGlobal_global (by rw[I.ok.glob];exact I.mod.glob.keeps I.bk) hm h) hd
theorem jX{E:Value->Shared->Prop}{pins:List (Addr×Obj)}{s:Shared}{σ:St}{H:Hp}{x:Str}{u:Value}{pos:Pos}{Q:Value->Shared->Prop}(I:Inv X pins σ H s)(hg:Gl X x)(hm:X.mg x=none)(hv:bootBuiltins x=some u)(h:Q u s)(hn:x≠"__name__":=by decide)(hd:(x==("__debug__":Str))=false:=by decide):wpAny (model X.prog X.w) X.A (eval (.Name x pos) X.env) Q E s:=by
 obtain⟨mb,h1,h2⟩:=I.mod.blt
 exact Calls.Name_function_global I.ok.kind hg (Calls.loadGlobal_builtin (by rw[I.ok.glob];exact I.mod.glob.keeps I.bk) hm (by rw[I.ok.blt];exact h1.keeps I.bk) ((h2 x hn).trans hv) h) hd
theorem aD{x:Str}{v:V}{u:Value}{pos:Pos}(hg:Gl X x)(hm:X.mg x=some u)(r:RelV v u)(hd:(x==("__debug__":Str))=false:=by decide):PE X (.Name x pos) (tC v) :=
 λ_ _ _ H _ I h=>iG I hg hm ⟨v,H,I,r,h⟩ hd
variable {a b:Expr}{ta tb:TE}{pos:Pos}
def PC(X:Cx)(op:CmpOp)(a b:Expr)(t:TE):Prop :=
 ∀(pins:List (Addr×Obj)) (s:Shared) (σ:St) (H:Hp) (Q:VK),Inv X pins σ H s->t σ H Q ->
  wpAny (model X.prog X.w) X.A (eval a X.env) (λv s₁=>wpAny (model X.prog X.w) X.A (eval b X.env) (λu s₂=>wpAny (model X.prog X.w) X.A (compareOp op v u) (EP X pins σ Q) X.xe s₂) X.xe s₁) X.xe s
theorem wg(b:Expr){op:CmpOp}(h:op≠.In)(h2:op≠.NotIn):behindInMarks op b=false:=by
 have e1:(op==CmpOp.In)=false:=by cases op<;>first|rfl|exact absurd rfl h
 have e2:(op==CmpOp.NotIn)=false:=by cases op<;>first|rfl|exact absurd rfl h2
 cases b<;>simp[behindInMarks,e1,e2]
def tIsN(ta:TE):TE:=λσ H Q=>ta σ H λx H1=>Q (.bl (decide (x=.non))) H1
theorem RelV.none_iff{x:V}{v:Value}(r:RelV x v):(v==Value.none)=decide (x=.non):=by
 cases x with
 |non=>cases r;rfl
 |bl _=>cases r;rfl
 |int _=>obtain⟨t,rfl⟩:=r;rfl
 |str _=>obtain⟨t,rfl⟩:=r;rfl
 |byt _=>obtain⟨t,rfl⟩:=r;rfl
 |flt _=>obtain⟨t,rfl⟩:=r;rfl
 |ref _=>cases r;rfl
 |ty _=>cases r;rfl
theorem pc_isN{j pos'}(ha:PE X a ta):PC X .Is a (.Constant .none j pos') (tIsN ta):=by
 intro pins s σ H Q I h
 refine thn (ha pins s σ H _ I h) λv s1 hq=>?_
 obtain⟨x,H1,I1,r1,q1⟩:=hq
 exact Constant_none (is_none_gen ⟨.bl _,H1,I1,by rw[r1.none_iff];rfl,q1⟩)
def tB(t:TE):TT:=λσ H Q=>t σ H λx H1=>∃c,x=.bl c/\Q c H1
theorem ql{op:CmpOp}{t:TE}(h:PC X op a b t)(h1:behindInMarks op b=false:=by first|exact wg _ (by decide) (by decide)|rfl):PE X (.Compare a [op] [b] pos) t:=λpins s σ H Q I hw=>wpAny_Compare1 (h pins s σ H Q I hw) h1
theorem yL{op:CmpOp}{t:TE}(h:PC X op a b t)(h1:behindInMarks op b=false:=by first|exact wg _ (by decide) (by decide)|rfl):PT X (.Compare a [op] [b] pos) (tB t):=by
 intro pins s σ H Q I hw
 refine wpAny_isTrue_Compare1 (thn (h pins s σ H _ I hw) λv s1 h1=>thn h1 λu s2 h2=>thn h2 λc s3 hq=>?_) h1
 obtain⟨x,H1,I1,r1,q1⟩:=hq
 obtain⟨d,rfl,q⟩:=q1
 cases r1
 exact wpAny_truthy_bool ⟨H1,I1,q⟩
theorem cH{e:Expr}{t:TE}(h:PE X e t)(he:∀whole,isTrue e X.env whole=(do let v ←whole;standAt e.pos;holding [v] (truthy v)):=by intro _;rfl):PT X e (tB t):=by
 intro pins s σ H Q I hw
 refine isTrue_plain (thn (h pins s σ H _ I hw) λv s1 hq=>?_) (he _)
 obtain⟨x,H1,I1,r1,q1⟩:=hq
 obtain⟨d,rfl,q⟩:=q1
 cases r1
 exact wpAny_truthy_bool ⟨H1,I1,q⟩
variable {tA tB':TT}{rest:List Expr}
def tAnd(t u:TT):TT:=λσ H Q=>t σ H λc H1=>if c=true then u σ H1 Q else Q false H1
def tOr(t u:TT):TT:=λσ H Q=>t σ H λc H1=>if c=true then Q true H1 else u σ H1 Q
def tNot(t:TT):TT:=λσ H Q=>t σ H λc H1=>Q (!c) H1
theorem iQ(ha:PT X a tA):PW X (.BoolOp .And [a] pos) tA:=by
 intro wh pins s σ H Q I h
 refine isTrue_and (thn (ha pins s σ H Q I h) λc s1 e=>?_)
 cases c with
 |true=>exact isTrue_and_nil e
 |false=>exact e
theorem qx(ha:PT X a tA):PW X (.BoolOp .Or [a] pos) tA:=by
 intro wh pins s σ H Q I h
 refine isTrue_or (thn (ha pins s σ H Q I h) λc s1 e=>?_)
 cases c with
 |false=>exact isTrue_or_nil e
 |true=>exact e
theorem j0(ha:PT X a tA)(hb:PW X (.BoolOp .And (b::rest) pos) tB'):PW X (.BoolOp .And (a::b::rest) pos) (tAnd tA tB'):=by
 intro wh pins s σ H Q I h
 refine isTrue_and (thn (ha pins s σ H _ I h) λc s1 hq=>?_)
 obtain⟨H1,I1,q1⟩:=hq
 cases c with
 |true=>exact hb wh pins s1 σ H1 Q I1 q1
 |false=>exact⟨H1,I1,q1⟩
theorem wJ(ha:PT X a tA)(hb:PW X (.BoolOp .Or (b::rest) pos) tB'):PW X (.BoolOp .Or (a::b::rest) pos) (tOr tA tB'):=by
 intro wh pins s σ H Q I h
 refine isTrue_or (thn (ha pins s σ H _ I h) λc s1 hq=>?_)
 obtain⟨H1,I1,q1⟩:=hq
 cases c with
 |true=>exact⟨H1,I1,q1⟩
 |false=>exact hb wh pins s1 σ H1 Q I1 q1
theorem jw(ha:PT X a tA):PT X (.UnaryOp .Not a pos) (tNot tA):=by
 intro pins s σ H Q I h
 exact isTrue_not (ha pins s σ H (λc H1=>Q (!c) H1) I h)
def tAndV(ta tb:TE):TE:=λσ H Q=>ta σ H λx H1=>∃c,x=.bl c/\if c=true then tb σ H1 Q else Q (.bl false) H1
theorem Hd{op}{t:TE}(h:PE X a t):PE X (.BoolOp op [a] pos) t:=λpins s σ H Q I hw=>BoolOp_one (h pins s σ H Q I hw)
theorem G9(ha:PE X a ta)(hb:PE X (.BoolOp .And (b::rest) pos) tb):PE X (.BoolOp .And (a::b::rest) pos) (tAndV ta tb):=by
 intro pins s σ H Q I h
 refine BoolOp_and (thn (ha pins s σ H _ I h) λv s1 hq=>?_)
 obtain⟨x,H1,I1,r1,q1⟩:=hq
 obtain⟨c,rfl,q1⟩:=q1
 cases r1
 refine wpAny_truthy_bool ?_
 cases c with
 |true=>exact hb pins s1 σ H1 Q I1 q1
 |false=>exact⟨.bl false,H1,I1,rfl,q1⟩
def tIf(t:TT)(ta tb:TE):TE:=λσ H Q=>t σ H λc H1=>if c=true then ta σ H1 Q else tb σ H1 Q
theorem qp{c:Expr}(hc:PT X c tA)(ha:PE X a ta)(hb:PE X b tb):PE X (.IfExp c a b pos) (tIf tA ta tb):=by
 intro pins s σ H Q I h
 refine wpAny_IfExp (thn (hc pins s σ H _ I h) λd s1 hq=>?_)
 obtain⟨H1,I1,q1⟩:=hq
 cases d with
 |true=>exact ha pins s1 σ H1 Q I1 q1
 |false=>exact hb pins s1 σ H1 Q I1 q1
end
def SqL(K:PySem.W.Frag)(H:Hp)(a:Addr)(xs:List V):Prop :=
 Rd H a (.lst xs) ∨
  ∃(o:Obj) (its:Array Value) (n:Nat),K.lookup a=some o/\o.cls=.type "list"/\o.dict=none/\o.data=.seq its n/\its.size<=sizeLine/\Vals xs its.toList
def SqT(K:PySem.W.Frag)(H:Hp)(a:Addr)(xs:List V):Prop :=
 Rd H a (.tup xs) ∨
  ∃(o:Obj) (its:Array Value) (n:Nat),K.lookup a=some o/\o.cls=.type "tuple"/\o.data=.seq its n/\its.size<=sizeLine/\Vals xs its.toList
noncomputable def absV:Value->Option V
 |.none=>some .non
 |.bool b=>some (.bl b)
 |.int i _=>some (.int i)
 |.str x _=>some (.str x)
 |.bytes b _=>some (.byt b)
 |.float b _=>some (.flt b)
 |.ref a=>some (.ref a)
 |.type n=>some (.ty n)
 |_=>none
theorem RelV.abs{x:V}{u:Value}(r:RelV x u):absV u=some x:=by
 cases x with
 |non=>cases r;rfl
 |bl _=>cases r;rfl
 |int _=>obtain⟨t,rfl⟩:=r;rfl
 |str _=>obtain⟨t,rfl⟩:=r;rfl
 |byt _=>obtain⟨t,rfl⟩:=r;rfl
 |flt _=>obtain⟨t,rfl⟩:=r;rfl
 |ref _=>cases r;rfl
 |ty _=>cases r;rfl
theorem RelV.inj{x y:V}{u:Value}(r:RelV x u)(q:RelV y u):x=y:=Option.some.inj (r.abs.symm.trans q.abs)
theorem Vals.inj:∀{xs ys:List V} {us:List Value},Vals xs us->Vals ys us->xs=ys
 |_,_,_,.nil,.nil=>rfl
 |_,_,_,.cons r t,.cons r' t'=>by rw[r.inj r',Vals.inj t t']
section
variable {X:Cx}{pins:List (Addr×Obj)}{σ:St}{H:Hp}{s:Shared}{a:Addr}{xs ys:List V}
theorem SqL.of{K:PySem.W.Frag}(h:H a=some (.lst xs)):SqL K H a xs:=.inl (.inl h)
theorem SqT.of{K:PySem.W.Frag}(h:H a=some (.tup xs)):SqT K H a xs:=.inl (.inl h)
theorem Inv.list(I:Inv X pins σ H s)(h:SqL X.K H a xs):∃its:List Value,Vals xs its/\PlainL s.heap a its.toArray/\xs.length<=sizeLine:=by
 rcases h with h|⟨o,its,n,hk,hc,hd,hs,hz,r⟩
 ·obtain⟨z,its,n,r,e⟩:=h.ok I.hok
  exact⟨its,r,⟨_,n,e,rfl,rfl,rfl⟩,z⟩
 ·refine⟨its.toList,r,⟨o,n,I.kIn a o hk,hc,hd,by simpa using hs⟩,?_⟩
  have e:=r.length
  simp only[Array.length_toList] at e
  omega
theorem Inv.tuple(I:Inv X pins σ H s)(h:SqT X.K H a xs):∃its:List Value,Vals xs its/\IsTup s.heap a its.toArray/\xs.length<=sizeLine:=by
 rcases h with h|⟨o,its,n,hk,hc,hs,hz,r⟩
 ·obtain⟨z,its,r,p⟩:=h.ok I.hok
  exact⟨its,r,p,z⟩
 ·refine⟨its.toList,r,⟨o,I.kIn a o hk,hc,n,by simpa using hs⟩,?_⟩
  have e:=r.length
  simp only[Array.length_toList] at e
  omega
theorem Inv.list_inj(I:Inv X pins σ H s)(h:SqL X.K H a xs)(h':SqL X.K H a ys):xs=ys:=by
 obtain⟨its,r,⟨o,n,e,_,_,d⟩,_⟩:=I.list h
 obtain⟨its',r',⟨o',n',e',_,_,d'⟩,_⟩:=I.list h'
 rw[e] at e';cases e'
 rw[d] at d'
 injection d' with d1 _
 have:its=its':=by simpa using congrArg Array.toList d1
 subst this
 exact r.inj r'
theorem Inv.tuple_inj(I:Inv X pins σ H s)(h:SqT X.K H a xs)(h':SqT X.K H a ys):xs=ys:=by
 obtain⟨its,r,⟨o,e,_,n,d⟩,_⟩:=I.tuple h
 obtain⟨its',r',⟨o',e',_,n',d'⟩,_⟩:=I.tuple h'
 rw[e] at e';cases e'
 rw[d] at d'
 injection d' with d1 _
 have:its=its':=by simpa using congrArg Array.toList d1
 subst this
 exact r.inj r'
end
noncomputable abbrev Cx.wish(X:Cx)(E:Value->Shared->Prop):Cx:={ X with xe:=E }
noncomputable abbrev Cx.nox(X:Cx):Cx:=X.wish λ_ _=>False
theorem Cx.Ok.wish{X:Cx}(ok:X.Ok)(E:Value->Shared->Prop):(X.wish E).Ok :=
 ⟨ok.mod,ok.kind,ok.glob,ok.blt,ok.above,ok.inj,ok.has,ok.cab,ok.hd,ok.frames,ok.stk,ok.exf,ok.bs,ok.bsz,ok.noex,ok.exfs,ok.funs,ok.frf⟩
theorem Cx.Ok.unwish{X:Cx}{E:Value->Shared->Prop}(ok:(X.wish E).Ok):X.Ok :=
 ⟨ok.mod,ok.kind,ok.glob,ok.blt,ok.above,ok.inj,ok.has,ok.cab,ok.hd,ok.frames,ok.stk,ok.exf,ok.bs,ok.bsz,ok.noex,ok.exfs,ok.funs,ok.frf⟩
section
variable {X:Cx}{pins:List (Addr×Obj)}{σ:St}{H:Hp}{s:Shared}{E:Value->Shared->Prop}
theorem Inv.wish(I:Inv X pins σ H s)(E:Value->Shared->Prop):Inv (X.wish E) pins σ H s:=⟨I.ok.wish E,I.os,I.bare,I.base,I.loc,I.cell,I.free,I.freeC,I.pin,I.hok,I.len⟩
theorem Inv.unwish(I:Inv (X.wish E) pins σ H s):Inv X pins σ H s:=⟨I.ok.unwish,I.os,I.bare,I.base,I.loc,I.cell,I.free,I.freeC,I.pin,I.hok,I.len⟩
theorem SP.unwish{D:Ends}{f:Flow}{s':Shared}(h:SP (X.wish E) pins D f s'):SP X pins D f s':=by
 cases f with
 |next=>obtain⟨σ',H',I,q⟩:=h;exact⟨σ',H',I.unwish,q⟩
 |brk=>obtain⟨σ',H',I,q⟩:=h;exact⟨σ',H',I.unwish,q⟩
 |cont=>obtain⟨σ',H',I,q⟩:=h;exact⟨σ',H',I.unwish,q⟩
 |ret u=>obtain⟨v,σ',H',I,r,q⟩:=h;exact⟨v,σ',H',I.unwish,r,q⟩
theorem PSs.nox{st:List Stmt}{t:TS}(h:PSs X.nox st t):PSs X st t:=λpins s σ H D I hw =>
 wpAny_mono (h pins s σ H D (I.wish _) hw) (λ_ _ q=>q.unwish) λ_ _ z=>False.elim z
end
section
variable {X:Cx}{st:Stmt}{rest:List Stmt}{t u:TS}{e:Expr}{te:TE}{pos:Pos}
def tNext:TS:=λD σ H=>D.nx σ H
def tSeq(t u:TS):TS:=λD σ H=>t { D with nx:=u D } σ H
theorem aZ:PSs X [] tNext:=λ_ _ σ H _ I h=>wpAny_execs_nil ⟨σ,H,I,h⟩
theorem aq(h1:PS X st t)(h2:PSs X rest u):PSs X (st::rest) (tSeq t u):=by
 intro pins s σ H D I h
 refine wpAny_execs_cons (thn (h1 pins s σ H { D with nx:=u D } I h) λf s1 q=>?_)
 cases f with
 |next =>
  obtain⟨σ',H',I',q⟩:=q
  exact h2 pins s1 σ' H' D I' q
 |ret v=>exact q
 |brk=>exact q
 |cont=>exact q
theorem az(h1:PS X st t):PSs X [st] t:=by
 intro pins s σ H D I h
 refine wpAny_execs_cons (thn (h1 pins s σ H D I h) λf s1 q=>?_)
 cases f with
 |next=>exact wpAny_execs_nil q
 |ret v=>exact q
 |brk=>exact q
 |cont=>exact q
theorem Inv.quiet{pins:List (Addr×Obj)}{σ:St}{H:Hp}{s:Shared}(I:Inv X pins σ H s):interactive X.env=false:=by simp[interactive,I.ok.kind]
def tDrop(te:TE):TS:=λD σ H=>te σ H λ_ H1=>D.nx σ H1
theorem bh(he:PE X e te)(hs:swapsWith e none pos.line X.env=pure false:=by rfl):PS X (.Expr e pos) (tDrop te):=by
 intro pins s σ H D I h
 exact wpAny_Expr_any (thn (he pins s σ H _ I h) λv s1 ⟨x,H1,I1,r1,q1⟩=>⟨σ,H1,I1,q1⟩) I.quiet hs
def tRet(te:TE):TS:=λD σ H=>te σ H D.rt
theorem aO(he:PE X e te):PS X (.Return (some e) pos) (tRet te):=by
 intro pins s σ H D I h
 exact wpAny_Return_some (thn (he pins s σ H _ I h) λv s1 ⟨x,H1,I1,r1,q1⟩=>⟨x,σ,H1,I1,r1,q1⟩)
def tIfS(c:TT)(t u:TS):TS:=λD σ H=>c σ H λb H1=>if b=true then t D σ H1 else u D σ H1
theorem cA{c:Expr}{a b:List Stmt}{tc:TT}(hc:PT X c tc)(ha:PSs X a t)(hb:PSs X b u):PS X (.If c a b pos) (tIfS tc t u):=by
 intro pins s σ H D I h
 refine wpAny_If (thn (hc pins s σ H _ I h) λd s1 hq=>?_)
 obtain⟨H1,I1,q1⟩:=hq
 cases d with
 |true=>exact ha pins s1 σ H1 D I1 q1
 |false=>exact hb pins s1 σ H1 D I1 q1
end
abbrev TG:=V->St->Hp->(St->Hp->Prop)->Prop
abbrev TGs:=List V->St->Hp->(St->Hp->Prop)->Prop
def PG(X:Cx)(target:Expr)(t:TG):Prop :=
 ∀(pins:List (Addr×Obj)) (s:Shared) (σ:St) (H:Hp) (v:V) (u:Value) (Q:St->Hp->Prop),Inv X pins σ H s->RelV v u->t v σ H Q ->
  wpAny (model X.prog X.w) X.A (assign target X.env u) (λ_ s'=>∃σ' H',Inv X pins σ' H' s'/\Q σ' H') X.xe s
def PGs(X:Cx)(ts:List Expr)(t:TGs):Prop :=
 ∀(pins:List (Addr×Obj)) (s:Shared) (σ:St) (H:Hp) (vs:List V) (us:List Value) (Q:St->Hp->Prop),Inv X pins σ H s->Vals vs us->t vs σ H Q ->
  wpAny (model X.prog X.w) X.A (assignInOrder ((assignEach ts X.env).map (·.2)) us) (λ_ s'=>∃σ' H',Inv X pins σ' H' s'/\Q σ' H') X.xe s
abbrev TSet:=V->V->V->Hp->(Hp->Prop)->Prop
def PSet(X:Cx)(t:TSet):Prop :=
 ∀(pins:List (Addr×Obj)) (s:Shared) (σ:St) (H:Hp) (o i v:V) (ov iv u:Value) (Q:Hp->Prop),Inv X pins σ H s->RelV o ov->RelV i iv->RelV v u->t o i v H Q ->
  wpAny (model X.prog X.w) X.A (setItem ov iv u) (λ_ s'=>∃H',Inv X pins σ H' s'/\Q H') X.xe s
abbrev TIp:=V->V->Hp->VK->Prop
def PIp(X:Cx)(op:Operator)(t:TIp):Prop :=
 ∀(pins:List (Addr×Obj)) (s:Shared) (σ:St) (H:Hp) (x y:V) (v u:Value) (Q:VK),Inv X pins σ H s->RelV x v->RelV y u->t x y H Q ->
  wpAny (model X.prog X.w) X.A (inplaceOp op v u) (EP X pins σ Q) X.xe s
section
variable {X:Cx}{pos:Pos}
def pF(i:Nat):TG:=λv σ H Q=>Q (σ.set i (some v)) H
theorem cF{i:Nat}{x:Str}(hN:X.N.Nodup)(hi:X.N[i]?=some x)(hx:Loc X.env.scope x)(hf:X.fn x=true∨X.env.scope.names.lookup x=some .local:=by first|exact .inl rfl|exact .inr rfl|assumption):PG X (.Name x pos) (pF i):=by
 intro pins s σ H v u Q I r h
 exact wpAny_assign_Name (lL I hN hi hx r (λs' I'=>⟨_,H,I',h⟩) hf)
def gNil:TGs:=λvs σ H Q=>vs=[]/\Q σ H
def gCons(t:TG)(u:TGs):TGs:=λvs σ H Q=>∃v r,vs=v::r/\t v σ H λσ' H'=>u r σ' H' Q
theorem jG:PGs X [] gNil:=by
 intro pins s σ H vs us Q I r h
 obtain⟨e,h⟩:=h
 subst e
 cases r
 exact assignInOrder_nil ⟨σ,H,I,h⟩
theorem dB{e:Expr}{es:List Expr}{t:TG}{u:TGs}(h1:PG X e t)(h2:PGs X es u)(hs:(assignEach (e::es) X.env).map (·.2)=assign e X.env::(assignEach es X.env).map (·.2):=by rfl):PGs X (e::es) (gCons t u):=by
 intro pins s σ H vs us Q I r h
 obtain⟨v,vr,e1,h⟩:=h
 subst e1
 cases r with
 |cons r rr =>
  rw[hs]
  refine assignInOrder_cons (thn (h1 pins s σ H _ _ _ I r h) λ_ s1 hq=>?_)
  obtain⟨σ1,H1,I1,q1⟩:=hq
  exact h2 pins s1 σ1 H1 _ _ Q I1 rr q1
def gTup(K:PySem.W.Frag)(n:Nat)(t:TGs):TG:=λv σ H Q=>∃a xs,v=.ref a/\SqT K H a xs/\xs.length=n/\t xs σ H Q
theorem lZ{es:List Expr}{k:Nat}{t:TGs}{n:Nat}(hc:X.calm=true)(h:PGs X es t)(hn:(assignEach es X.env).length=n:=by rfl)(hst:(assignEach es X.env).findIdx? (·.1)=none:=by rfl):PG X (.Tuple es k pos) (gTup X.K n t):=by
 intro pins s σ H v u Q I r hw
 obtain⟨a,xs,e1,hq,hl,hw⟩:=hw
 subst e1
 cases r
 obtain⟨its,rv,ht,hz⟩:=I.tuple hq
 refine assign_Tuple_tuple (I.ok.hd hc) ht (by simp[hn,←hl,rv.length]) hst λh' hx=>?_
 have I1:Inv X pins σ H { s with heap:=h' }:=I.kept (t':=s.toks) λb o e=>hx b o (Nat.ne_of_lt (Heap.lt_size e)) e
 exact h pins _ σ H xs _ Q I1 (by simpa using rv) hw
def gSub(to ti:TE)(t:TSet):TG:=λv σ H Q=>to σ H λo H1=>ti σ H1 λi H2=>t o i v H2 λH3=>Q σ H3
theorem Hf{o i:Expr}{to ti:TE}{t:TSet}(ho:PE X o to)(hi:PE X i ti)(hs:PSet X t)(ha:∀v,assign (.Subscript o i pos) X.env v=(do
   let ov ←holding [v] (eval o X.env)
   let iv ←holding [v,ov] (eval i X.env)
   standAt pos
   holding [v,ov,iv] (setItem ov iv v)
   release [v,ov,iv] []):=by intro _;rfl):PG X (.Subscript o i pos) (gSub to ti t):=by
 intro pins s σ H v u Q I r h
 rw[ha]
 refine wpAny_bind (wpAny_holding (thn (ho pins s σ H _ I h) λov s1 hq=>?_))
 obtain⟨x,H1,I1,r1,q1⟩:=hq
 refine wpAny_bind (wpAny_holding (thn (hi pins s1 σ H1 _ I1 q1) λiv s2 hq=>?_))
 obtain⟨y,H2,I2,r2,q2⟩:=hq
 refine wpAny_bind (wpAny_standAt (wpAny_bind (wpAny_holding (thn (hs pins s2 σ H2 x y v ov iv u _ I2 r1 r2 r q2) λ_ s3 hq=>?_))))
 obtain⟨H3,I3,q3⟩:=hq
 exact wpAny_release ⟨σ,H3,I3,q3⟩
def JW(te:TE)(g:TG):TS:=λD σ H=>te σ H λx H1=>g x σ H1 D.nx
theorem Hi{tg e:Expr}{te:TE}{g:TG}(he:PE X e te)(hg:PG X tg g)(hs:swapsWithSole [tg] e pos.line X.env=pure false:=by rfl)(hw:swappedStores [tg] e X.env=pure none:=by rfl)(h1:(assignEach [tg] X.env).map (·.2)=[assign tg X.env]:=by rfl):PS X (.Assign [tg] e pos) (JW te g):=by
 intro pins s σ H D I h
 refine wpAny_Assign_stores (thn (he pins s σ H _ I h) λv s1 hq=>?_) hs hw
 obtain⟨x,H1,I1,r1,q1⟩:=hq
 rw[h1]
 exact thn (hg pins s1 σ H1 x v _ I1 r1 q1) λ_ s2 q=>q
theorem aP{i:Nat}{x:Str}{e:Expr}{te:TE}{pos':Pos}(hN:X.N.Nodup)(hi:X.N[i]?=some x)(hx:Loc X.env.scope x)(he:PE X e te)(hs:swapsWith e (some (.Name x pos')) pos.line X.env=pure false:=by rfl)(hf:X.fn x=true∨X.env.scope.names.lookup x=some .local:=by first|exact .inl rfl|exact .inr rfl|assumption) :
  PS X (.Assign [.Name x pos'] e pos) (JW te (pF i)):=by
 intro pins s σ H D I h
 refine wpAny_Assign_Name (thn (he pins s σ H _ I h) λv s1 hq=>?_) hs
 obtain⟨y,H1,I1,r1,q1⟩:=hq
 exact lL I1 hN hi hx r1 (λs2 I2=>⟨_,H1,I2,q1⟩) hf
def tAug(i:Nat)(te:TE)(ti:TIp):TS:=λD σ H=>∃x,σ[i]?=some (some x)/\te σ H λy H1=>ti x y H1 λz H2=>D.nx (σ.set i (some z)) H2
theorem Hj{i:Nat}{x:Str}{e:Expr}{te:TE}{op:Operator}{ti:TIp}{pos':Pos}(hN:X.N.Nodup)(hi:X.N[i]?=some x)(hx:Loc X.env.scope x)(he:PE X e te)(ho:PIp X op ti)(hf:X.fn x=true∨X.env.scope.names.lookup x=some .local:=by first|exact .inl rfl|exact .inr rfl|assumption) :
  PS X (.AugAssign (.Name x pos') op e pos) (tAug i te ti):=by
 intro pins s σ H D I h
 obtain⟨v,e1,h⟩:=h
 obtain⟨m,hn,hl⟩:=I.loc
 have vis:Vis X.env.scope x:=by rcases hx with k|k;exact .inl k;exact .inr (.inl k)
 obtain⟨u,r,l⟩:=hl i x v hi e1 vis
 refine wpAny_AugAssign_Name ?_
 have go:wpAny (model X.prog X.w) X.A (eval e X.env) (λw s₂=>wpAny (model X.prog X.w) X.A (inplaceOp op u w) (λr s₃=>wpAny (model X.prog X.w) X.A (storeName X.env x r) (λ_=>SP X pins D .next) X.xe s₃) X.xe s₂) X.xe s:=by
  refine thn (he pins s σ H _ I h) λw s1 hq=>?_
  obtain⟨y,H1,I1,r1,q1⟩:=hq
  refine thn (ho pins s1 σ H1 v y u w _ I1 r r1 q1) λz s2 hq=>?_
  obtain⟨zv,H2,I2,r2,q2⟩:=hq
  exact lL I2 hN hi hx r2 (λs3 I3=>⟨_,H2,I3,q2⟩) hf
 rcases l with ⟨hk,hm⟩|⟨hk,c,hc,hcell⟩
 ·exact wpAny_loadName_local I.ok.kind hk hn hm go
 ·rcases hk with hk|hk
  ·exact wpAny_loadName_cell I.ok.kind hk hc hcell go
  ·rcases hx with k|k
   ·have:X.env.scope.names.lookup x=some .free:=hk
    rw[k] at this;cases this
   ·have:X.env.scope.names.lookup x=some .free:=hk
    rw[k] at this;cases this
def ipI(f:Int->Int->Int):TIp:=λx y H Q=>∃i j,x=.int i/\y=.int j/\Q (.int (f i j)) H
theorem ip_add:PIp X .Add (ipI λi j=>i+j):=by
 intro pins s σ H x y v u Q I r1 r2 h
 obtain⟨i,j,e1,e2,q⟩:=h
 subst e1;subst e2
 obtain⟨t,rfl⟩:=r1
 obtain⟨t',rfl⟩:=r2
 exact iadd_int ⟨.int _,H,I.tok _,⟨_,rfl⟩,q⟩
theorem ip_sub:PIp X .Sub (ipI λi j=>i-j):=by
 intro pins s σ H x y v u Q I r1 r2 h
 obtain⟨i,j,e1,e2,q⟩:=h
 subst e1;subst e2
 obtain⟨t,rfl⟩:=r1
 obtain⟨t',rfl⟩:=r2
 exact isub_int ⟨.int _,H,I.tok _,⟨_,rfl⟩,q⟩
end
section
variable {X:Cx}{pos:Pos}
def tWhile(c:TT)(tb:TS):TS:=λD σ H=>∃W:Nat->St->Hp->Prop,(∃m,W m σ H)/\∀m σ H,W m σ H ->
 c σ H λb H1=>if b=true then ∃N:St->Hp->Prop,(∀σ' H',N σ' H'->∃m',m'<m/\W m' σ' H')/\tb { D with nx:=N,ct:=N,bk:=D.nx } σ H1 else D.nx σ H1
theorem eX{c:Expr}{body:List Stmt}{tc:TT}{tb:TS}(hp:PassesOwn (model X.prog X.w) X.A X.env X.xe)(hc:PT X c tc)(hb:PSs X body tb):PS X (.While c body [] pos) (tWhile tc tb):=by
 intro pins s σ H D I h
 obtain⟨W,⟨m0,w0⟩,turn⟩:=h
 refine wpAny_While (codeAny_whileLoop (λn s'=>∃σ' H',Inv X pins σ' H' s'/\W n σ' H') ?_ m0 ⟨σ,H,I,w0⟩)
 rintro n s1 ⟨σ1,H1,I1,w1⟩
 refine wpAny_passesOwn hp (thn (hc pins s1 σ1 H1 _ I1 (turn n σ1 H1 w1)) λb s2 hq=>?_)
 obtain⟨H2,I2,q2⟩:=hq
 cases b with
 |true =>
  obtain⟨N,hN,q2⟩:=q2
  rw[if_pos rfl]
  refine wpAny_passesOwn hp (thn (hb pins s2 σ1 H2 _ I2 q2) λf s3 q3=>?_)
  cases f with
  |next =>
   obtain⟨σ3,H3,I3,n3⟩:=q3
   obtain⟨m',hm,w3⟩:=hN σ3 H3 n3
   exact⟨m',hm,σ3,H3,I3,w3⟩
  |cont =>
   obtain⟨σ3,H3,I3,n3⟩:=q3
   obtain⟨m',hm,w3⟩:=hN σ3 H3 n3
   exact⟨m',hm,σ3,H3,I3,w3⟩
  |brk=>exact q3
  |ret v=>exact q3
 |false =>
  rw[if_neg Bool.false_ne_true]
  exact wpAny_execs_nil ⟨σ1,H2,I2,q2⟩
end
structure It where
 go:Nat->Hp->Prop
 yld:Nat->Hp->V->Hp->Prop
 stop:Nat->Hp->Prop
def jQ(X:Cx)(pins:List (Addr×Obj))(H:Hp)(b:Addr):Prop :=
 H b=none/\b≠X.env.locals/\b∉X.fs/\(b∈X.ex∨X.s_0.heap.objs.size<=b)/\(∀x c,X.env.cells.lookup x=some c->c≠b)/\∀p∈X.pn++pins,p.1≠b
theorem Inv.fpOk{X:Cx}{pins:List (Addr×Obj)}{σ:St}{H H':Hp}{s:Shared}{b:Addr}(I:Inv X pins σ H s)(hb:s.heap.objs.size<=b)(hn:H' b=none):jQ X pins H' b:=by
 refine⟨hn,Nat.ne_of_gt (Nat.lt_of_lt_of_le I.lt hb),I.nofs hb,.inr (Nat.le_trans I.sz hb),λx c e z=>?_,λp hp z=>?_⟩
 ·obtain⟨v,q⟩:=I.cell x c e
  exact absurd (Nat.lt_of_lt_of_le q.lt (by rw[z];exact hb)) (Nat.lt_irrefl _)
 ·exact absurd (Nat.lt_of_lt_of_le (Heap.lt_size (I.pin p hp).1) (by rw[z];exact hb)) (Nat.lt_irrefl _)
structure Turn(P:Program)(w:World)(K:PySem.W.Frag)(tg:Expr)(J:It)(fp:List Addr)(it:Addr)(tn:Nat->Heap->Prop):Prop where
 mem:it∈fp
 obj:∀i h,tn i h->∀b∈fp,∃o,h.get? b=some o/\∀v,o.data≠.cell v
 keep:∀i h h',tn i h->(∀b∈fp,∀o,h.get? b=some o->h'.get? b=some o)->tn i h'
 item:∀(X:Cx),X.prog=P->X.w=w->X.K=K->X.calm=true->∀(i:Nat) (pins:List (Addr×Obj)) (s:Shared) (σ:St) (H:Hp) (E:Value->Shared->Prop),Inv X pins σ H s->(∀b∈fp,jQ X pins H b)->tn i s.heap->J.go i H ->
  wpAny (model P w) X.A (pyNext (.ref it)) (λr s1=>∃u,r=some u /\
   wpAny (model P w) X.A (letOwnedTupleGo tg (.ref it) u) (λ_ s2=>∃x H',Inv X pins σ H' s2/\RelV x u/\J.yld i H x H'/\tn (i+1) s2.heap/\∀b∈fp,H' b=none) E s1) E s
 done:∀(X:Cx),X.prog=P->X.w=w->X.K=K->X.calm=true->∀(i:Nat) (pins:List (Addr×Obj)) (s:Shared) (σ:St) (H:Hp) (E:Value->Shared->Prop),Inv X pins σ H s->(∀b∈fp,jQ X pins H b)->tn i s.heap->J.stop i H ->
  wpAny (model P w) X.A (pyNext (.ref it)) (λr s1=>r=none/\Inv X pins σ H s1) E s
 self:∀(A:Around) (i:Nat) (s:Shared) (Q:Value->Shared->Prop) (E:Value->Shared->Prop),tn i s.heap->Q (.ref it) s->wpAny (model P w) A (pyIter (.ref it)) Q E s
abbrev TI:=St->Hp->(It->Hp->Prop)->Prop
def PIE(X:Cx)(pins:List (Addr×Obj))(σ:St)(tg:Expr)(R:It->Hp->Prop)(itv:Value)(s2:Shared):Prop :=
 ∃(it:Addr) (fp:List Addr) (tn:Nat->Heap->Prop) (J:It) (H':Hp),itv=.ref it/\Inv X pins σ H' s2/\Turn X.prog X.w X.K tg J fp it tn/\tn 0 s2.heap/\(∀b∈fp,jQ X pins H' b)/\R J H'
def PI(X:Cx)(tg iter:Expr)(wi:TI):Prop :=
 ∀(pins:List (Addr×Obj)) (s:Shared) (σ:St) (H:Hp) (R:It->Hp->Prop),Inv X pins σ H s->wi σ H R ->
  wpAny (model X.prog X.w) X.A (eval iter X.env) (λv s1=>wpAny (model X.prog X.w) X.A (pyIter v) (PIE X pins σ tg R) X.xe s1) X.xe s
theorem sS{M:Model}{A:Around}{E:Value->Shared->Prop}{s:Shared}{tg:Expr}{it:Addr}{u:Value}{o:Obj}{n:String}{vs:Array Value}{Q:Unit->Shared->Prop}(ho:s.heap.get? it=some o)(hc:o.cls=.type n)(hd:o.data=.fields vs)(hn:["enumerate","zip","dict_itemiterator","dict_reverseitemiterator","odict_iterator","itertools.zip_longest","itertools.pairwise"].contains n=false)(hQ:Q () s):wpAny M A (letOwnedTupleGo tg (.ref it) u) Q E s:=by
 unfold letOwnedTupleGo
 cases tg<;>first
  |exact wpAny_pure hQ
  |(cases u<;>first
    |exact wpAny_pure hQ
    |(refine wpAny_bind (wpAny_load ho ?_)
      rw[hc,hd]
      show wpAny M A (if (["enumerate","zip","dict_itemiterator","dict_reverseitemiterator","odict_iterator","itertools.zip_longest","itertools.pairwise"].contains n&&vs[0]?==some (rawInt _))=true then _ else _) Q E s
      rw[if_neg (by intro h;rw[hn,Bool.false_and] at h;cases h)]
      exact wpAny_pure hQ))
noncomputable def Itl(K:PySem.W.Frag)(a:Addr):It :=
 ⟨λi H=>∃xs x,SqL K H a xs/\xs[i]?=some x,λi H x H'=>H'=H/\∀xs,SqL K H a xs->xs[i]?=some x,λi H=>∃xs,SqL K H a xs/\xs.length<=i⟩
noncomputable def Itt(K:PySem.W.Frag)(a:Addr):It :=
 ⟨λi H=>∃xs x,SqT K H a xs/\xs[i]?=some x,λi H x H'=>H'=H/\∀xs,SqT K H a xs->xs[i]?=some x,λi H=>∃xs,SqT K H a xs/\xs.length<=i⟩
noncomputable def Itr(lo:Int)(n:Nat):It:=⟨λi _=>i<n,λi H x H'=>H'=H/\x=.int (lo+i),λi _=>n<=i⟩
theorem Du{P:Program}{w:World}{K:PySem.W.Frag}{tg:Expr}(a it:Addr):Turn P w K tg (Itl K a) [it] it (λi h=>h.IsListIter it a i) where
 mem:=by simp
 obj:=λi h st b hb=>by
  have e:b=it:=by simpa using hb
  subst e
  obtain⟨o,e,c,d⟩:=st
  exact⟨o,e,λv z=>by rw[d] at z;cases z⟩
 keep:=λi h h' st k=>st.at λo e=>k it (by simp) o e
 item:=by
  intro X hP hw hK hc i pins s σ H E I hf st hg
  subst hP hw hK
  obtain⟨xs,x,hq,hx⟩:=hg
  obtain⟨its,rv,p,hz⟩:=I.list hq
  obtain⟨u,hu,ru⟩:=rv.get hx
  obtain⟨f0,f1,f2,f3,f4,f5⟩:=hf it (by simp)
  refine wpAny_pyNext_list_item st p.isList (x:=u) (by simpa using hu) λh' st' sb=>?_
  have I1:Inv X pins σ H { s with heap:=h' }:=I.turned (t':=s.toks) (λb o hb e=>(sb.2 b hb).trans e) f0 f1 f3 f4 f5
  obtain⟨o,e,c,d⟩:=id st'
  exact⟨u,rfl,sS (s:={ s with heap:=h' }) e c d (by decide) ⟨x,H,I1,ru,⟨rfl,λys hy=>by rw[I.list_inj hy hq];exact hx⟩,st',λb hb=>(hf b hb).1⟩⟩
 done:=by
  intro X hP hw hK hc i pins s σ H E I hf st hg
  subst hP hw hK
  obtain⟨xs,hq,hx⟩:=hg
  obtain⟨its,rv,p,hz⟩:=I.list hq
  obtain⟨f0,f1,f2,f3,f4,f5⟩:=hf it (by simp)
  have hl:=rv.length
  exact wpAny_pyNext_list_end (I.ok.hd hc) st p.isList (by simp;omega) λh' eb=>⟨rfl,I.turned (t':=s.toks) (λb o hb e=>eb b o hb e) f0 f1 f3 f4 f5⟩
 self:=λ_ _ _ _ _ st h=>wpAny_pyIter_listiter st h
theorem zp{P:Program}{w:World}{K:PySem.W.Frag}{tg:Expr}(a it:Addr):Turn P w K tg (Itt K a) [it] it (λi h=>h.IsTupleIter it a i) where
 mem:=by simp
 obj:=λi h st b hb=>by
  have e:b=it:=by simpa using hb
  subst e
  obtain⟨o,e,c,d⟩:=st
  exact⟨o,e,λv z=>by rw[d] at z;cases z⟩
 keep:=λi h h' st k=>st.at λo e=>k it (by simp) o e
 item:=by
  intro X hP hw hK hc i pins s σ H E I hf st hg
  subst hP hw hK
  obtain⟨xs,x,hq,hx⟩:=hg
  obtain⟨its,rv,p,hz⟩:=I.tuple hq
  obtain⟨u,hu,ru⟩:=rv.get hx
  obtain⟨f0,f1,f2,f3,f4,f5⟩:=hf it (by simp)
  refine wpAny_pyNext_tuple_item st (show s.heap.IsTuple a its.toArray from p) (x:=u) (by simpa using hu) λh' st' sb=>?_
  have I1:Inv X pins σ H { s with heap:=h' }:=I.turned (t':=s.toks) (λb o hb e=>(sb.2 b hb).trans e) f0 f1 f3 f4 f5
  obtain⟨o,e,c,d⟩:=id st'
  exact⟨u,rfl,sS (s:={ s with heap:=h' }) e c d (by decide) ⟨x,H,I1,ru,⟨rfl,λys hy=>by rw[I.tuple_inj hy hq];exact hx⟩,st',λb hb=>(hf b hb).1⟩⟩
 done:=by
  intro X hP hw hK hc i pins s σ H E I hf st hg
  subst hP hw hK
  obtain⟨xs,hq,hx⟩:=hg
  obtain⟨its,rv,p,hz⟩:=I.tuple hq
  obtain⟨f0,f1,f2,f3,f4,f5⟩:=hf it (by simp)
  have hl:=rv.length
  exact wpAny_pyNext_tuple_end (I.ok.hd hc) st (show s.heap.IsTuple a its.toArray from p) (by simp;omega) λh' eb=>⟨rfl,I.turned (t':=s.toks) (λb o hb e=>eb b o hb e) f0 f1 f3 f4 f5⟩
 self:=λ_ _ _ _ _ st h=>wpAny_pyIter_tupleiter st h
theorem zm{P:Program}{w:World}{K:PySem.W.Frag}{tg:Expr}(it:Addr)(lo:Int)(n:Nat):Turn P w K tg (Itr lo n) [it] it (λi h=>IsRangeIter h it (lo+(i:Nat)*1) ((n:Int)-(i:Nat)) 1) where
 mem:=by simp
 obj:=λi h st b hb=>by
  have e:b=it:=by simpa using hb
  subst e
  exact⟨_,st,λv z=>by
   have z':Data.fields _=Data.cell v:=z
   cases z'⟩
 keep:=λi h h' st k=>k it (by simp) _ st
 item:=by
  intro X hP hw hK hc i pins s σ H E I hf st hg
  subst hP hw hK
  obtain⟨f0,f1,f2,f3,f4,f5⟩:=hf it (by simp)
  have W:=Walks.range (prog:=X.prog) (w:=X.w) (I.ok.hd hc) it lo 1 n
  refine W.item i s _ _ hg st λv h' tk hv st' kk=>?_
  obtain⟨t,rfl⟩:=hv
  have I1:Inv X pins σ H { s with heap:=h',toks:=tk }:=I.turned (λb o hb e=>kk b o (by simpa using hb) e) f0 f1 f3 f4 f5
  refine⟨_,rfl,sS (s:={ s with heap:=h',toks:=tk }) (n:="range_iterator") st' rfl rfl (by decide) ⟨.int (lo+i),H,I1,⟨t,?_⟩,⟨rfl,rfl⟩,st',λb hb=>(hf b hb).1⟩⟩
  rw[Int.mul_one]
 done:=by
  intro X hP hw hK hc i pins s σ H E I hf st hg
  subst hP hw hK
  obtain⟨f0,f1,f2,f3,f4,f5⟩:=hf it (by simp)
  exact wpAny_pyNext_range_end (I.ok.hd hc) st (by have:n<=i:=hg;omega) λh' eb=>⟨rfl,I.turned (t':=s.toks) (λb o hb e=>eb b o hb e) f0 f1 f3 f4 f5⟩
 self:=λ_ _ _ _ _ st h=>wpAny_pyIter_rangeiter st h
section
variable {X:Cx}{tg:Expr}
def iList(K:PySem.W.Frag)(tl:TE):TI:=λσ H R=>tl σ H λx H1=>∃a,x=.ref a/\(∃xs,SqL K H1 a xs)/\R (Itl K a) H1
def iTup(K:PySem.W.Frag)(tl:TE):TI:=λσ H R=>tl σ H λx H1=>∃a,x=.ref a/\(∃xs,SqT K H1 a xs)/\R (Itt K a) H1
theorem gb{l:Expr}{tl:TE}(hl:PE X l tl):PI X tg l (iList X.K tl):=by
 intro pins s σ H R I h
 refine thn (hl pins s σ H _ I h) λv s1 hq=>?_
 obtain⟨x,H1,I1,r1,q1⟩:=hq
 obtain⟨a,e,⟨xs,hq⟩,q⟩:=q1
 subst e
 cases r1
 obtain⟨its,rv,p,hz⟩:=I1.list hq
 refine wpAny_pyIter_list p.isList ?_
 refine⟨s1.heap.objs.size,[s1.heap.objs.size],_,_,H1,rfl,I1.kept (t':=s1.toks) λb o e=>Heap.get?_push_of_some _ e,Du a _,⟨_,Heap.get?_push_size _ rfl,rfl,rfl⟩,λb hb=>?_,q⟩
 have e:b=s1.heap.objs.size:=by simpa using hb
 subst e
 exact I1.fpOk (Nat.le_refl _) (I1.hok.fresh (Nat.le_refl _))
theorem pi_tup{l:Expr}{tl:TE}(hl:PE X l tl):PI X tg l (iTup X.K tl):=by
 intro pins s σ H R I h
 refine thn (hl pins s σ H _ I h) λv s1 hq=>?_
 obtain⟨x,H1,I1,r1,q1⟩:=hq
 obtain⟨a,e,⟨xs,hq⟩,q⟩:=q1
 subst e
 cases r1
 obtain⟨its,rv,p,hz⟩:=I1.tuple hq
 refine wpAny_pyIter_tuple (show s1.heap.IsTuple a its.toArray from p) ?_
 refine⟨s1.heap.objs.size,[s1.heap.objs.size],_,_,H1,rfl,I1.kept (t':=s1.toks) λb o e=>Heap.get?_push_of_some _ e,zp a _,⟨_,Heap.get?_push_size _ rfl,rfl,rfl⟩,λb hb=>?_,q⟩
 have e:b=s1.heap.objs.size:=by simpa using hb
 subst e
 exact I1.fpOk (Nat.le_refl _) (I1.hok.fresh (Nat.le_refl _))
theorem Ho{pins:List (Addr×Obj)}{σ:St}{H:Hp}{s:Shared}{R:It->Hp->Prop}{E:Value->Shared->Prop}{lo hi:Int}{t u v:Tok}{tk:Nat}(I:Inv X pins σ H s)(h1:-(2 ^ 62)<=lo)(h2:lo<2 ^ 62)(h3:-(2 ^ 62)<=hi)(h4:hi<2 ^ 62)(q:R (Itr lo (hi-lo).toNat) H):wpAny (model X.prog X.w) X.A (pyIter (.ref s.heap.objs.size)) (PIE X pins σ tg R) E { s with heap:=s.heap.push { cls:=.type "range",data:=.fields #[.int lo t,.int hi u,.int 1 v] },toks:=tk }:=by
 refine wpAny_pyIter_range (IsRange.new ..) (small_one h1 h2 h3 h4) ?_
 have I1:Inv X pins σ H { s with heap:=s.heap.push { cls:=.type "range",data:=.fields #[.int lo t,.int hi u,.int 1 v] },toks:=tk }:=I.kept λb o e=>Heap.get?_push_of_some _ e
 refine⟨(s.heap.push { cls:=.type "range",data:=.fields #[.int lo t,.int hi u,.int 1 v] }).objs.size,[(s.heap.push { cls:=.type "range",data:=.fields #[.int lo t,.int hi u,.int 1 v] }).objs.size],_,_,H,rfl,
  I1.kept (t':=tk) λb o e=>Heap.get?_push_of_some _ e,zm _ lo (hi-lo).toNat,?_,λb hb=>?_,q⟩
 ·have e1:lo+((0:Nat):Int)*1=lo:=by simp
  have e2:(((hi-lo).toNat:Nat):Int)-((0:Nat):Int)=Builtin.Range.rangeSize lo hi 1:=by rw[rangeSize_one];split<;>omega
  show IsRangeIter _ _ (lo+((0:Nat):Int)*1) ((((hi-lo).toNat:Nat):Int)-((0:Nat):Int)) 1
  rw[e1,e2]
  exact Heap.get?_push_size _ rfl
 ·have e:b=(s.heap.push { cls:=.type "range",data:=.fields #[.int lo t,.int hi u,.int 1 v] }).objs.size:=by simpa using hb
  subst e
  exact I1.fpOk (Nat.le_refl _) (I1.hok.fresh (Nat.le_refl _))
def iRng1(ta:TA):TI:=λσ H R=>ta σ H λvs H1=>∃j:Int,vs=[.int j]/\-(2 ^ 62)<=j/\j<2 ^ 62/\R (Itr 0 j.toNat) H1
theorem De{a:Expr}{ta:TA}{p pos:Pos}(hg:Gl X "range")(hm:X.mg "range"=none)(ha:PA X [a] ta)(hs:starEach [a] X.env=[(false,eval a X.env)]:=by rfl):PI X tg (.Call (.Name "range" p) [a] [] pos) (iRng1 ta):=by
 intro pins s σ H R I h
 refine Call_ (jX I hg hm boot_range (PyProof.Rows.callWith_type1 (thn (ha pos pins s σ H _ I h) λus s1 hq=>?_) hs rfl))
 obtain⟨vs,H1,I1,r1,q1⟩:=hq
 obtain⟨j,e,q1,q2,q⟩:=q1
 subst e
 cases r1 with
 |cons r rr =>
  cases rr
  obtain⟨t,rfl⟩:=r
  exact call_range_1 (Ho I1 (by omega) (by omega) q1 q2 (by simpa using q))
def tFor(wi:TI)(g:TG)(tb:TS):TS:=λD σ H=>wi σ H λJ H1=>∃W:Nat->Nat->St->Hp->Prop,(∃m,W 0 m σ H1)/\∀i m σ H,W i m σ H ->
 (J.stop i H/\D.nx σ H)∨(J.go i H/\∃N:St->Hp->Prop,(∀σ' H',N σ' H'->∃m',m'<m/\W (i+1) m' σ' H')/\∀x H',J.yld i H x H'->g x σ H' λσ2 H2=>tb { D with nx:=N,ct:=N,bk:=D.nx } σ2 H2)
noncomputable def mj(fp:List Addr)(h:Heap):List (Addr×Obj):=fp.filterMap λb=>(h.get? b).map λo=>(b,o)
theorem iI{fp:List Addr}{h:Heap}{b:Addr}{o:Obj}(hb:b∈fp)(e:h.get? b=some o):(b,o)∈mj fp h:=List.mem_filterMap.mpr ⟨b,hb,by rw[e];rfl⟩
theorem Cp{fp:List Addr}{h:Heap}{p:Addr×Obj}(hp:p∈mj fp h):p.1∈fp/\h.get? p.1=some p.2:=by
 obtain⟨b,hb,e⟩:=List.mem_filterMap.mp hp
 cases q:h.get? b with
 |none=>rw[q] at e;cases e
 |some o =>
  rw[q] at e
  have e':(b,o)=p:=Option.some.inj e
  subst e'
  exact⟨hb,q⟩
theorem Inv.pinned{pins:List (Addr×Obj)}{σ:St}{H:Hp}{s:Shared}{fp:List Addr}(I:Inv X pins σ H s)(hf:∀b∈fp,jQ X pins H b)(ho:∀b∈fp,∃o,s.heap.get? b=some o/\∀v,o.data≠.cell v):Inv X (pins++mj fp s.heap) σ H s :=
 I.pins_of λp hp=>(List.mem_append.mp hp).elim (λz=>I.pin p (List.mem_append_right _ z)) λz=>by
  obtain⟨hb,e⟩:=Cp z
  obtain⟨f0,f1,f2,_⟩:=hf p.1 hb
  obtain⟨o,e',d⟩:=ho p.1 hb
  rw[e] at e';cases e'
  exact⟨e,f0,f1,f2,d⟩
theorem Inv.unpinned{pins pl:List (Addr×Obj)}{σ:St}{H:Hp}{s:Shared}(I:Inv X (pins++pl) σ H s):Inv X pins σ H s:=I.pins_of λp hp=>I.pin p (List.mem_append_right _ (List.mem_append_left _ hp))
theorem iM{iter:Expr}{body:List Stmt}{wi:TI}{g:TG}{tb:TS}{pos:Pos}(hp:PassesOwn (model X.prog X.w) X.A X.env X.xe)(hc:X.calm=true)(hi:PI X tg iter wi)(hg:PG X tg g)(hb:PSs X body tb)(hs:∀x,foldedSetIterable iter X.env x=pure x:=by intro _;rfl):PS X (.For tg iter body [] pos) (tFor wi g tb):=by
 intro pins s σ H D I h
 refine wpAny_For (thn (hi pins s σ H _ I h) λv s1 h1=>thn h1 λitv s2 h2=>?_) hs
 obtain⟨it,fp,tn,J,H2,e,I2,T,st2,f2,W,⟨m0,w0⟩,turn⟩:=h2
 subst e
 have stat:∀{H':Hp},(∀b∈fp,H' b=none)->∀b∈fp,jQ X pins H' b:=λhn b hb=>⟨hn b hb,(f2 b hb).2⟩
 refine codeAny_forLoop_any (λn s'=>∃i σ' H',Inv X pins σ' H' s'/\tn i s'.heap/\(∀b∈fp,H' b=none)/\W i n σ' H') ?_ m0 ⟨0,σ,H2,I2,st2,λb hb=>(f2 b hb).1,w0⟩
 rintro n s3 ⟨i,σ3,H3,I3,st3,fr3,w3⟩
 rcases turn i n σ3 H3 w3 with ⟨stop,qn⟩|⟨go,N,hN,step⟩
 ·refine wpAny_passesOwn hp (thn (T.done X rfl rfl rfl hc i pins s3 σ3 H3 X.xe I3 (stat fr3) st3 stop) λr s4 ⟨hr,I4⟩=>?_)
  subst hr
  exact wpAny_execs_nil ⟨σ3,H3,I4,qn⟩
 ·refine wpAny_passesOwn hp (thn (T.item X rfl rfl rfl hc i pins s3 σ3 H3 X.xe I3 (stat fr3) st3 go) λr s4 ⟨u,hr,h4⟩=>?_)
  subst hr
  refine wpAny_passesOwn hp (thn h4 λ_ s5 hq=>?_)
  obtain⟨x,H5,I5,r5,y5,st5,fr5⟩:=hq
  have I5':=I5.pinned (stat fr5) (T.obj _ _ st5)
  refine wpAny_passesOwn hp (thn (hg _ s5 σ3 H5 x u _ I5' r5 (step x H5 y5)) λ_ s6 hq=>?_)
  obtain⟨σ6,H6,I6,q6⟩:=hq
  refine wpAny_passesOwn hp (thn (hb _ s6 σ6 H6 _ I6 q6) λf s7 q7=>?_)
  have again:∀{σ7:St} {H7:Hp},Inv X (pins++mj fp s5.heap) σ7 H7 s7->N σ7 H7->∃m,m<n/\∃i σ' H',Inv X pins σ' H' s7/\tn i s7.heap/\(∀b∈fp,H' b=none)/\W i m σ' H':=λ{σ7 H7} I7 n7=>by
   obtain⟨m',hm,w7⟩:=hN σ7 H7 n7
   refine⟨m',hm,i+1,σ7,H7,I7.unpinned,T.keep _ _ _ st5 λb hb o e=>(I7.pin (b,o) (List.mem_append_right _ (List.mem_append_right _ (iI hb e)))).1,λb hb=>?_,w7⟩
   obtain⟨o,e,d⟩:=T.obj _ _ st5 b hb
   exact(I7.pin (b,o) (List.mem_append_right _ (List.mem_append_right _ (iI hb e)))).2.1
  cases f with
  |next=>obtain⟨σ7,H7,I7,n7⟩:=q7;exact again I7 n7
  |cont=>obtain⟨σ7,H7,I7,n7⟩:=q7;exact again I7 n7
  |brk=>obtain⟨σ7,H7,I7,q7⟩:=q7;exact⟨σ7,H7,I7.unpinned,q7⟩
  |ret v=>obtain⟨x7,σ7,H7,I7,r7,q7⟩:=q7;exact⟨x7,σ7,H7,I7.unpinned,r7,q7⟩
end
theorem pD{K:PySem.W.Frag}{a:Addr}{xs:List V}{g:TG}{tb:TS}{D:Ends}{σ:St}{H:Hp}(Pv:Nat->St->Hp->Prop)(h0:Pv 0 σ H)(hl:∀i σ H,i<=xs.length->Pv i σ H->SqL K H a xs)(hs:∀i x σ H,xs[i]?=some x->Pv i σ H->g x σ H λσ2 H2=>tb { D with nx:=Pv (i+1),ct:=Pv (i+1),bk:=D.nx } σ2 H2)(hd:∀σ H,Pv xs.length σ H->D.nx σ H) :
  ∃W:Nat->Nat->St->Hp->Prop,(∃m,W 0 m σ H)/\∀i m σ H,W i m σ H ->
   ((Itl K a).stop i H/\D.nx σ H)∨((Itl K a).go i H/\∃N:St->Hp->Prop,(∀σ' H',N σ' H'->∃m',m'<m/\W (i+1) m' σ' H')/\∀x H',(Itl K a).yld i H x H'->g x σ H' λσ2 H2=>tb { D with nx:=N,ct:=N,bk:=D.nx } σ2 H2):=by
 refine⟨λi m σ H=>m=xs.length-i/\i<=xs.length/\Pv i σ H,⟨xs.length,by simp,Nat.zero_le _,h0⟩,?_⟩
 rintro i m σ H ⟨rfl,hi,p⟩
 have q:=hl i σ H hi p
 by_cases hlt:i<xs.length
 ·refine .inr ⟨⟨xs,xs[i],q,by simp[hlt]⟩,Pv (i+1),λσ' H' p'=>⟨xs.length-(i+1),by omega,rfl,hlt,p'⟩,λx H' y=>?_⟩
  obtain⟨e,y⟩:=y
  subst e
  exact hs i x σ _ (y xs q) p
 ·have e:i=xs.length:=by omega
  subst e
  exact .inl ⟨⟨xs,q,Nat.le_refl _⟩,hd σ H p⟩
theorem Iw{K:PySem.W.Frag}{a:Addr}{xs:List V}{g:TG}{tb:TS}{D:Ends}{σ:St}{H:Hp}(Pv:Nat->St->Hp->Prop)(h0:Pv 0 σ H)(hl:∀i σ H,i<=xs.length->Pv i σ H->SqT K H a xs)(hs:∀i x σ H,xs[i]?=some x->Pv i σ H->g x σ H λσ2 H2=>tb { D with nx:=Pv (i+1),ct:=Pv (i+1),bk:=D.nx } σ2 H2)(hd:∀σ H,Pv xs.length σ H->D.nx σ H) :
  ∃W:Nat->Nat->St->Hp->Prop,(∃m,W 0 m σ H)/\∀i m σ H,W i m σ H ->
   ((Itt K a).stop i H/\D.nx σ H)∨((Itt K a).go i H/\∃N:St->Hp->Prop,(∀σ' H',N σ' H'->∃m',m'<m/\W (i+1) m' σ' H')/\∀x H',(Itt K a).yld i H x H'->g x σ H' λσ2 H2=>tb { D with nx:=N,ct:=N,bk:=D.nx } σ2 H2):=by
 refine⟨λi m σ H=>m=xs.length-i/\i<=xs.length/\Pv i σ H,⟨xs.length,by simp,Nat.zero_le _,h0⟩,?_⟩
 rintro i m σ H ⟨rfl,hi,p⟩
 have q:=hl i σ H hi p
 by_cases hlt:i<xs.length
 ·refine .inr ⟨⟨xs,xs[i],q,by simp[hlt]⟩,Pv (i+1),λσ' H' p'=>⟨xs.length-(i+1),by omega,rfl,hlt,p'⟩,λx H' y=>?_⟩
  obtain⟨e,y⟩:=y
  subst e
  exact hs i x σ _ (y xs q) p
 ·have e:i=xs.length:=by omega
  subst e
  exact .inl ⟨⟨xs,q,Nat.le_refl _⟩,hd σ H p⟩
theorem for_range{lo:Int}{n:Nat}{g:TG}{tb:TS}{D:Ends}{σ:St}{H:Hp}(Pv:Nat->St->Hp->Prop)(h0:Pv 0 σ H)(hs:∀i σ H,i<n->Pv i σ H->g (.int (lo+i)) σ H λσ2 H2=>tb { D with nx:=Pv (i+1),ct:=Pv (i+1),bk:=D.nx } σ2 H2)(hd:∀σ H,Pv n σ H->D.nx σ H) :
  ∃W:Nat->Nat->St->Hp->Prop,(∃m,W 0 m σ H)/\∀i m σ H,W i m σ H ->
   ((Itr lo n).stop i H/\D.nx σ H)∨((Itr lo n).go i H/\∃N:St->Hp->Prop,(∀σ' H',N σ' H'->∃m',m'<m/\W (i+1) m' σ' H')/\∀x H',(Itr lo n).yld i H x H'->g x σ H' λσ2 H2=>tb { D with nx:=N,ct:=N,bk:=D.nx } σ2 H2):=by
 refine⟨λi m σ H=>m=n-i/\i<=n/\Pv i σ H,⟨n,by simp,Nat.zero_le _,h0⟩,?_⟩
 rintro i m σ H ⟨rfl,hi,p⟩
 by_cases hlt:i<n
 ·refine .inr ⟨hlt,Pv (i+1),λσ' H' p'=>⟨n-(i+1),by omega,rfl,hlt,p'⟩,λx H' y=>?_⟩
  obtain⟨e,y⟩:=y
  subst e y
  exact hs i σ _ hlt p
 ·have e:i=n:=by omega
  subst e
  exact .inl ⟨Nat.le_refl _,hd σ H p⟩
abbrev R2:=V->V->Hp->VK->Prop
def OpR(X:Cx)(f:Value->Value->Sem Value)(r:R2):Prop :=
 ∀(pins:List (Addr×Obj)) (s:Shared) (σ:St) (H:Hp) (x y:V) (v u:Value) (Q:VK),Inv X pins σ H s->RelV x v->RelV y u->r x y H Q ->
  wpAny (model X.prog X.w) X.A (f v u) (EP X pins σ Q) X.xe s
def UnR(X:Cx)(f:Value->Sem Value)(r:V->Hp->VK->Prop):Prop :=
 ∀(pins:List (Addr×Obj)) (s:Shared) (σ:St) (H:Hp) (x:V) (v:Value) (Q:VK),Inv X pins σ H s->RelV x v->r x H Q ->
  wpAny (model X.prog X.w) X.A (f v) (EP X pins σ Q) X.xe s
def j7(X:Cx)(f:Value)(r:List V->Hp->VK->Prop):Prop :=
 ∀(pins:List (Addr×Obj)) (s:Shared) (σ:St) (H:Hp) (xs:List V) (us:List Value) (Q:VK),Inv X pins σ H s->Vals xs us->r xs H Q ->
  wpAny (model X.prog X.w) X.A (call f us) (EP X pins σ Q) X.xe s
def tOp(r:R2)(ta tb:TE):TE:=λσ H Q=>ta σ H λx H1=>tb σ H1 λy H2=>r x y H2 Q
def tUn(r:V->Hp->VK->Prop)(ta:TE):TE:=λσ H Q=>ta σ H λx H1=>r x H1 Q
def rI(C:Int->Int->Prop)(g:Int->Int->V):R2:=λx y H Q=>∃i j,x=.int i/\y=.int j/\C i j/\Q (g i j) H
def rI0(g:Int->Int->V):R2:=λx y H Q=>∃i j,x=.int i/\y=.int j/\Q (g i j) H
def rU(g:Int->V):V->Hp->VK->Prop:=λx H Q=>∃i,x=.int i/\Q (g i) H
section
variable {X:Cx}{a b c:Expr}{ta tb tc:TE}{pos:Pos}
theorem binT(ha:PE X a ta)(hb:PE X b tb){pins:List (Addr×Obj)}{s:Shared}{σ:St}{H:Hp}{R:V->V->Hp->Prop}(I:Inv X pins σ H s)(h:ta σ H λx H1=>tb σ H1 λy H2=>R x y H2){Q:Value->Shared->Prop}{f:Value->Value->Sem Value}(hf:∀v u s2 x y H2,Inv X pins σ H2 s2->RelV x v->RelV y u->R x y H2->wpAny (model X.prog X.w) X.A (f v u) Q X.xe s2) :
  wpAny (model X.prog X.w) X.A (eval a X.env) (λv s₁=>wpAny (model X.prog X.w) X.A (eval b X.env) (λu s₂=>wpAny (model X.prog X.w) X.A (f v u) Q X.xe s₂) X.xe s₁) X.xe s:=by
 refine thn (ha pins s σ H _ I h) λv s1 hq=>?_
 obtain⟨x,H1,I1,r1,q1⟩:=hq
 refine thn (hb pins s1 σ H1 _ I1 q1) λu s2 hq=>?_
 obtain⟨y,H2,I2,r2,q2⟩:=hq
 exact hf v u s2 x y H2 I2 r1 r2 q2
theorem bc{op:Operator}{r:R2}(ho:OpR X (binaryOp op) r)(ha:PE X a ta)(hb:PE X b tb):PE X (.BinOp a op b pos) (tOp r ta tb):=by
 intro pins s σ H Q I h
 exact wpAny_BinOp (binT ha hb I h λv u s2 x y H2 I2 rx ry q=>ho pins s2 σ H2 x y v u Q I2 rx ry q)
theorem pe_un{op:UnaryOp}{r:V->Hp->VK->Prop}(ho:UnR X (unaryOp op) r)(ha:PE X a ta):PE X (.UnaryOp op a pos) (tUn r ta):=by
 intro pins s σ H Q I h
 exact UnaryOp_ (thn (ha pins s σ H _ I h) λv s1 ⟨x,H1,I1,r1,q1⟩=>ho pins s1 σ H1 x v Q I1 r1 q1)
theorem opI{f:Value->Value->Sem Value}{C:Int->Int->Prop}{g:Int->Int->Int}(rule:∀(i j:Int) (t u:Tok) (s:Shared) (Q:Value->Shared->Prop) (E:Value->Shared->Prop),C i j->Q (.int (g i j) s.toks) { s with toks:=s.toks+1 }->wpAny (model X.prog X.w) X.A (f (.int i t) (.int j u)) Q E s) :
  OpR X f (rI C λi j=>.int (g i j)):=by
 intro pins s σ H x y v u Q I rx ry h
 obtain⟨i,j,rfl,rfl,hc,q⟩:=h
 obtain⟨t,rfl⟩:=rx
 obtain⟨t',rfl⟩:=ry
 exact rule i j t t' s _ _ hc ⟨.int (g i j),H,I.tok _,⟨_,rfl⟩,q⟩
theorem opI0{f:Value->Value->Sem Value}{g:Int->Int->Int}(rule:∀(i j:Int) (t u:Tok) (s:Shared) (Q:Value->Shared->Prop) (E:Value->Shared->Prop),Q (.int (g i j) s.toks) { s with toks:=s.toks+1 }->wpAny (model X.prog X.w) X.A (f (.int i t) (.int j u)) Q E s) :
  OpR X f (rI0 λi j=>.int (g i j)):=by
 intro pins s σ H x y v u Q I rx ry h
 obtain⟨i,j,rfl,rfl,q⟩:=h
 obtain⟨t,rfl⟩:=rx
 obtain⟨t',rfl⟩:=ry
 exact rule i j t t' s _ _ ⟨.int (g i j),H,I.tok _,⟨_,rfl⟩,q⟩
theorem opB0{f:Value->Value->Sem Value}{g:Int->Int->Bool}(rule:∀(i j:Int) (t u:Tok) (s:Shared) (Q:Value->Shared->Prop) (E:Value->Shared->Prop),Q (.bool (g i j)) s->wpAny (model X.prog X.w) X.A (f (.int i t) (.int j u)) Q E s) :
  OpR X f (rI0 λi j=>.bl (g i j)):=by
 intro pins s σ H x y v u Q I rx ry h
 obtain⟨i,j,rfl,rfl,q⟩:=h
 obtain⟨t,rfl⟩:=rx
 obtain⟨t',rfl⟩:=ry
 exact rule i j t t' s _ _ ⟨.bl (g i j),H,I,rfl,q⟩
def CDiv(i j:Int):Prop:=0<j/\j<1073741824
def CMul(i j:Int):Prop:=(-(2 ^ 64)<i/\i<2 ^ 64)∨(-(2 ^ 64)<j/\j<2 ^ 64)
theorem CMul.ok{i j:Int}(h:CMul i j):IntMulOk i j:=by
 rcases h with ⟨h1,h2⟩|⟨h1,h2⟩
 ·exact .of_left (intBits_le_64 h1 h2)
 ·exact .of_right (intBits_le_64 h1 h2)
theorem cV:OpR X (binaryOp .Add) (rI0 λi j=>.int (i+j)):=opI0 λ_ _ _ _ _ _ _ q=>add_int q
theorem dW:OpR X (binaryOp .Sub) (rI0 λi j=>.int (i-j)):=opI0 λ_ _ _ _ _ _ _ q=>sub_int q
theorem fY:OpR X (binaryOp .Mult) (rI CMul λi j=>.int (i*j)):=opI λ_ _ _ _ _ _ _ hc q=>mul_int q hc.ok
theorem oE:OpR X (binaryOp .FloorDiv) (rI CDiv λi j=>.int (i / j)):=opI λi j _ _ _ _ _ hc q=>by
 have h1:(0:Int)<j:=hc.1
 have h2:j<1073741824:=hc.2
 exact floordiv_int (by omega) (by rw[Int.fdiv_eq_ediv_of_nonneg i (by omega)];exact q) (.inl (PyProof.noPylong_small (by omega)))
theorem op_or:OpR X (binaryOp .BitOr) (rI0 λi j=>.int (Builtin.bitOr i j)):=opI0 λ_ _ _ _ _ _ _ q=>or_int q
theorem unI{f:Value->Sem Value}{g:Int->Int}(rule:∀(i:Int) (t:Tok) (s:Shared) (Q:Value->Shared->Prop) (E:Value->Shared->Prop),Q (.int (g i) s.toks) { s with toks:=s.toks+1 }->wpAny (model X.prog X.w) X.A (f (.int i t)) Q E s) :
  UnR X f (rU λi=>.int (g i)):=by
 intro pins s σ H x v Q I rx h
 obtain⟨i,rfl,q⟩:=h
 obtain⟨t,rfl⟩:=rx
 exact rule i t s _ _ ⟨.int (g i),H,I.tok _,⟨_,rfl⟩,q⟩
theorem un_neg:UnR X (unaryOp .USub) (rU λi=>.int (-i)):=unI λ_ _ _ _ _ q=>neg_int q
end
noncomputable def scal:V->V->Bool
 |.non,.non=>true|.non,.int _=>true|.int _,.non=>true|.non,.bl _=>true|.bl _,.non=>true|.non,.str _=>true|.str _,.non=>true
 |.int _,.int _=>true|.bl _,.bl _=>true|.str _,.str _=>true|.byt _,.byt _=>true
 |.int _,.str _=>true|.str _,.int _=>true|.bl _,.str _=>true|.str _,.bl _=>true
 |_,_=>false
def rEq:R2:=λx y H Q=>scal x y=true/\Q (.bl (decide (x=y))) H
def rNe:R2:=λx y H Q=>scal x y=true/\Q (.bl (!decide (x=y))) H
theorem zH{i j:Int}:decide (V.int i=V.int j)=(i==j):=by
 rw[Bool.eq_iff_iff]
 simp
theorem En{i j:Bool}:decide (V.bl i=V.bl j)=(i==j):=by
 rw[Bool.eq_iff_iff]
 simp
theorem zJ{i j:Str}:decide (V.str i=V.str j)=(i==j):=by
 rw[Bool.eq_iff_iff]
 simp
theorem zG{i j:Array UInt8}:decide (V.byt i=V.byt j)=(i.toList==j.toList):=by
 rw[Bool.eq_iff_iff]
 cases i
 cases j
 simp
section
variable {X:Cx}{a b c:Expr}{ta tb tc:TE}{pos:Pos}
theorem cB{pins:List (Addr×Obj)}{σ:St}{H:Hp}{s:Shared}{Q:VK}{k k':Bool}(I:Inv X pins σ H s)(q:Q (.bl k) H)(e:k=k'):EP X pins σ Q (.bool k') s:=by
 subst e
 exact⟨.bl k,H,I,rfl,q⟩
theorem gJ:OpR X (compareOp .Eq) rEq:=by
 intro pins s σ H x y v u Q I rx ry h
 obtain⟨hs,q⟩:=h
 cases x with
 |non =>
  cases rx
  cases y with
  |non=>cases ry;exact PySem.EqNone.eq_none_none (cB I q (by simp))
  |bl j=>cases ry;exact PySem.EqNone.eq_none_bool (cB I q (by simp))
  |int j=>obtain⟨t',rfl⟩:=ry;exact PySem.EqNone.eq_none_int (cB I q (by simp))
  |str j=>obtain⟨t',rfl⟩:=ry;exact PySem.EqNone.eq_none_str (cB I q (by simp))
  |_=>exact absurd (show false=true from hs) Bool.false_ne_true
 |bl i =>
  cases rx
  cases y with
  |non=>cases ry;exact PySem.EqNone.eq_bool_none (cB I q (by simp))
  |bl j=>cases ry;exact eq_bool (cB I q En)
  |str j=>obtain⟨t',rfl⟩:=ry;exact PySem.EqMixed.eq_bool_str (cB I q (by simp))
  |_=>exact absurd (show false=true from hs) Bool.false_ne_true
 |int i =>
  obtain⟨t,rfl⟩:=rx
  cases y with
  |non=>cases ry;exact PySem.EqNone.eq_int_none (cB I q (by simp))
  |int j=>obtain⟨t',rfl⟩:=ry;exact eq_int (cB I q zH)
  |str j=>obtain⟨t',rfl⟩:=ry;exact PySem.EqMixed.eq_int_str (cB I q (by simp))
  |_=>exact absurd (show false=true from hs) Bool.false_ne_true
 |str i =>
  obtain⟨t,rfl⟩:=rx
  cases y with
  |non=>cases ry;exact PySem.EqNone.eq_str_none (cB I q (by simp))
  |bl j=>cases ry;exact PySem.EqMixed.eq_str_bool (cB I q (by simp))
  |int j=>obtain⟨t',rfl⟩:=ry;exact PySem.EqMixed.eq_str_int (cB I q (by simp))
  |str j=>obtain⟨t',rfl⟩:=ry;exact eq_str (cB I q zJ)
  |_=>exact absurd (show false=true from hs) Bool.false_ne_true
 |byt i =>
  obtain⟨t,rfl⟩:=rx
  cases y with
  |byt j=>obtain⟨t',rfl⟩:=ry;exact PySem.W.eq_bytes (cB I q zG)
  |_=>exact absurd (show false=true from hs) Bool.false_ne_true
 |_=>cases y<;>exact absurd (show false=true from hs) Bool.false_ne_true
theorem G5:OpR X (compareOp .NotEq) rNe:=by
 intro pins s σ H x y v u Q I rx ry h
 obtain⟨hs,q⟩:=h
 cases x with
 |non =>
  cases rx
  cases y with
  |non=>cases ry;exact PySem.EqNone.ne_none_none (cB I q (by simp))
  |bl j=>cases ry;exact PySem.EqNone.ne_none_bool (cB I q (by simp))
  |int j=>obtain⟨t',rfl⟩:=ry;exact PySem.EqNone.ne_none_int (cB I q (by simp))
  |str j=>obtain⟨t',rfl⟩:=ry;exact PySem.EqNone.ne_none_str (cB I q (by simp))
  |_=>exact absurd (show false=true from hs) Bool.false_ne_true
 |bl i =>
  cases rx
  cases y with
  |non=>cases ry;exact PySem.EqNone.ne_bool_none (cB I q (by simp))
  |bl j=>cases ry;exact ne_bool (cB I q (congrArg not En))
  |str j=>obtain⟨t',rfl⟩:=ry;exact PySem.EqMixed.ne_bool_str (cB I q (by simp))
  |_=>exact absurd (show false=true from hs) Bool.false_ne_true
 |int i =>
  obtain⟨t,rfl⟩:=rx
  cases y with
  |non=>cases ry;exact PySem.EqNone.ne_int_none (cB I q (by simp))
  |int j=>obtain⟨t',rfl⟩:=ry;exact ne_int (cB I q (congrArg not zH))
  |str j=>obtain⟨t',rfl⟩:=ry;exact PySem.EqMixed.ne_int_str (cB I q (by simp))
  |_=>exact absurd (show false=true from hs) Bool.false_ne_true
 |str i =>
  obtain⟨t,rfl⟩:=rx
  cases y with
  |non=>cases ry;exact PySem.EqNone.ne_str_none (cB I q (by simp))
  |bl j=>cases ry;exact PySem.EqMixed.ne_str_bool (cB I q (by simp))
  |int j=>obtain⟨t',rfl⟩:=ry;exact PySem.EqMixed.ne_str_int (cB I q (by simp))
  |str j=>obtain⟨t',rfl⟩:=ry;exact ne_str (cB I q (congrArg not zJ))
  |_=>exact absurd (show false=true from hs) Bool.false_ne_true
 |byt i =>
  obtain⟨t,rfl⟩:=rx
  cases y with
  |byt j=>obtain⟨t',rfl⟩:=ry;exact PySem.W.ne_bytes (cB I q (congrArg not zG))
  |_=>exact absurd (show false=true from hs) Bool.false_ne_true
 |_=>cases y<;>exact absurd (show false=true from hs) Bool.false_ne_true
theorem tL:OpR X (compareOp .Lt) (rI0 λi j=>.bl (decide (i<j))):=opB0 λ_ _ _ _ _ _ _ q=>lt_int q
theorem lz:OpR X (compareOp .LtE) (rI0 λi j=>.bl (decide (i<=j))):=opB0 λ_ _ _ _ _ _ _ q=>le_int q
theorem nO:OpR X (compareOp .Gt) (rI0 λi j=>.bl (decide (j<i))):=opB0 λ_ _ _ _ _ _ _ q=>gt_int q
theorem bQ(b:Expr){op:CmpOp}(h:op≠.In:=by decide)(h2:op≠.NotIn:=by decide):behindInMarks op b=false:=by
 have e1:(op==CmpOp.In)=false:=by cases op<;>first|rfl|exact absurd rfl h
 have e2:(op==CmpOp.NotIn)=false:=by cases op<;>first|rfl|exact absurd rfl h2
 cases b<;>simp[behindInMarks,e1,e2]
theorem Js{op:CmpOp}{r:R2}(ho:OpR X (compareOp op) r)(ha:PE X a ta)(hb:PE X b tb)(hm:behindInMarks op b=false):PE X (.Compare a [op] [b] pos) (tOp r ta tb):=by
 intro pins s σ H Q I h
 exact wpAny_Compare1 (binT ha hb I h λv u s2 x y H2 I2 rx ry q=>ho pins s2 σ H2 x y v u Q I2 rx ry q) hm
def tTest(t:TE):TT:=λσ H Q=>t σ H λx H'=>∃k,x=.bl k/\Q k H'
theorem bG{op:CmpOp}{r:R2}(ho:OpR X (compareOp op) r)(ha:PE X a ta)(hb:PE X b tb)(hm:behindInMarks op b=false):PT X (.Compare a [op] [b] pos) (tTest (tOp r ta tb)):=by
 intro pins s σ H Q I h
 refine wpAny_isTrue_Compare1 (thn (ha pins s σ H _ I h) λv s1 ⟨x,H1,I1,r1,q1⟩=>thn (hb pins s1 σ H1 _ I1 q1) λu s2 ⟨y,H2,I2,r2,q2⟩ =>
  thn (ho pins s2 σ H2 x y v u _ I2 r1 r2 q2) λc s3 ⟨z,H3,I3,r3,k,e,q3⟩=>?_) hm
 subst e
 cases r3
 exact wpAny_truthy_bool ⟨H3,I3,q3⟩
def HR(r r':R2)(ta tb tc:TE):TE:=λσ H Q=>ta σ H λx H1=>tb σ H1 λy H2=>r x y H2 λz H3=>∃k,z=.bl k /\
 (if k=true then tc σ H3 λw' H4=>r' y w' H4 Q else Q (.bl false) H3)
theorem Ha{op op':CmpOp}{r r':R2}(ho:OpR X (compareOp op) r)(ho':OpR X (compareOp op') r')(ha:PE X a ta)(hb:PE X b tb)(hc:PE X c tc)(hm:lastMarks [op,op'] [b,c]=false:=by with_unfolding_all rfl):PE X (.Compare a [op,op'] [b,c] pos) (HR r r' ta tb tc):=by
 intro pins s σ H Q I h
 refine Compare_chain (thn (ha pins s σ H _ I h) λv s1 ⟨x,H1,I1,r1,q1⟩=>chain_link (thn (hb pins s1 σ H1 _ I1 q1) λu s2 ⟨y,H2,I2,r2,q2⟩ =>
  thn (ho pins s2 σ H2 x y v u _ I2 r1 r2 q2) λd s3 ⟨z,H3,I3,r3,k,e,q3⟩=>?_)) hm
 subst e
 cases r3
 refine wpAny_truthy_bool ?_
 cases k with
 |false=>exact ite_ff ⟨.bl false,H3,I3,rfl,q3⟩
 |true=>exact ite_tt (chain_last (thn (hc pins s3 σ H3 _ I3 q3) λw' s4 ⟨z',H4,I4,r4,q4⟩=>ho' pins s4 σ H4 y z' u w' Q I4 r2 r4 q4))
theorem qw{op op':CmpOp}{r r':R2}(ho:OpR X (compareOp op) r)(ho':OpR X (compareOp op') r')(ha:PE X a ta)(hb:PE X b tb)(hc:PE X c tc)(hm:lastMarks [op,op'] [b,c]=false:=by with_unfolding_all rfl):PT X (.Compare a [op,op'] [b,c] pos) (tTest (HR r r' ta tb tc)):=by
 intro pins s σ H Q I h
 refine isTrue_chain (thn (ha pins s σ H _ I h) λv s1 ⟨x,H1,I1,r1,q1⟩=>test_link (thn (hb pins s1 σ H1 _ I1 q1) λu s2 ⟨y,H2,I2,r2,q2⟩ =>
  thn (ho pins s2 σ H2 x y v u _ I2 r1 r2 q2) λd s3 ⟨z,H3,I3,r3,k,e,q3⟩=>?_)) hm
 subst e
 cases r3
 refine wpAny_truthy_bool ?_
 cases k with
 |false =>
  obtain⟨k',e',q'⟩:=q3
  cases e'
  exact ite_ff ⟨H3,I3,q'⟩
 |true =>
  refine ite_tt (test_last (thn (hc pins s3 σ H3 _ I3 q3) λw' s4 ⟨z',H4,I4,r4,q4⟩=>thn (ho' pins s4 σ H4 y z' u w' _ I4 r2 r4 q4) λd' s5 ⟨z2,H5,I5,r5,k2,e2,q5⟩=>?_))
  subst e2
  cases r5
  exact wpAny_truthy_bool ⟨H5,I5,q5⟩
theorem pN:(sizeLine:Nat)<2 ^ 63:=by rw[sizeLine_eq];decide
theorem vals1{x:V}{us:List Value}(r:Vals [x] us):∃u,us=[u]/\RelV x u:=by
 cases r with
 |cons r1 r2=>cases r2;exact⟨_,rfl,r1⟩
theorem vals2{x y:V}{us:List Value}(r:Vals [x,y] us):∃u w',us=[u,w']/\RelV x u/\RelV y w':=by
 cases r with
 |cons r1 r2 =>
  cases r2 with
  |cons r3 r4=>cases r4;exact⟨_,_,rfl,r1,r3⟩
theorem jA(hc:X.calm=true):j7 X (.builtin "max") (λxs H Q=>∃i j,xs=[.int i,.int j]/\Q (.int (if j > i then j else i)) H):=by
 intro pins s σ H xs us Q I r h
 obtain⟨i,j,rfl,q⟩:=h
 obtain⟨u,w',rfl,⟨t,rfl⟩,⟨t',rfl⟩⟩:=vals2 r
 refine max_two_ints (I.ok.hd hc) λh' tk k=>⟨_,H,I.kept k,?_,q⟩
 by_cases hj:j > i
 ·rw[if_pos hj,if_pos hj];exact⟨_,rfl⟩
 ·rw[if_neg hj,if_neg hj];exact⟨_,rfl⟩
theorem jB(hc:X.calm=true):j7 X (.builtin "min") (λxs H Q=>∃i j,xs=[.int i,.int j]/\Q (.int (if j<i then j else i)) H):=by
 intro pins s σ H xs us Q I r h
 obtain⟨i,j,rfl,q⟩:=h
 obtain⟨u,w',rfl,⟨t,rfl⟩,⟨t',rfl⟩⟩:=vals2 r
 refine min_two_ints (I.ok.hd hc) λh' tk k=>⟨_,H,I.kept k,?_,q⟩
 by_cases hj:j<i
 ·rw[if_pos hj,if_pos hj];exact⟨_,rfl⟩
 ·rw[if_neg hj,if_neg hj];exact⟨_,rfl⟩
theorem El:j7 X (.builtin "ord") (λxs H Q=>∃x,xs=[.str x]/\x.length=1/\Q (.int (x.cps.getD 0 0:Nat)) H):=by
 intro pins s σ H xs us Q I r h
 obtain⟨x,rfl,hz,q⟩:=h
 obtain⟨u,rfl,t,rfl⟩:=vals1 r
 exact ord_of_one hz ⟨.int _,H,I.tok _,⟨_,rfl⟩,q⟩
end
structure xF(h:Heap)(x dx C:Addr)(mA:Str->Option Value):Prop where
 obj:h.get? x=some (PySem.W.instObj C dx)
 ns:h.Ns1 dx mA
 ne:dx≠x
theorem tD{h:Heap}{dx:Addr}{mA:Str->Option Value}(n:h.Ns1 dx mA):∃od,h.get? dx=some od/\∀name,PySem.W.lookIn name od=some (mA name):=by
 obtain⟨o,es,ep,ho,hd,hk,_,hm⟩:=n
 refine⟨o,ho,λname=>?_⟩
 have e:=hm name
 unfold nsFind findBy at e
 rw[←Array.find?_toList] at e
 unfold PySem.W.lookIn
 rw[hd]
 dsimp only
 split
 ·rename_i y q
  rw[q] at e
  exact congrArg some e
 ·rename_i q
  rw[q] at e
  have a:es.toList.any (·.refKey)=false:=by
   rw[List.any_eq_false]
   intro y hy
   obtain⟨z,t,hkey⟩:=hk y (Array.mem_toList_iff.mp hy)
   simp[DictEntry.refKey,hkey]
  have a':¬es.toList.any (·.refKey)=true:=by rw[a];exact Bool.false_ne_true
  rw[if_neg a']
  exact congrArg some e
theorem xF.look{h:Heap}{x dx C:Addr}{mA:Str->Option Value}(I:xF h x dx C mA):∃od,PySem.W.InstAt h x (PySem.W.instObj C dx) C (some od)/\∀name,PySem.W.lookIn name od=some (mA name) :=
 let ⟨od,ho,hl⟩:=tD I.ns
 ⟨od,⟨I.obj,rfl,rfl,ho⟩,hl⟩
section
variable {prog:Program}{w:World}{A:Around}{E:Value->Shared->Prop}{s:Shared}{K:PySem.W.Frag}{x dx C f:Addr}{mA:Str->Option Value}{name:Str}{v:Value}
theorem Iz{expr:Bool}{Q:Value->Shared->Prop}(X:K.In s.heap)(I:xF s.heap x dx C mA)(hg:PySem.W.plainGet K C name=true)(hh:PySem.W.hasDictIn K C=true)(ha:PySem.W.findIn K (.ref C) name=some none)(hv:mA name=some v)(hv':PySem.W.handedIn v=true)(h:Q v { s with toks:=s.toks+1 }) :
  wpAny (model prog w) A (getAttr (.ref x) name expr) Q E s:=by
 obtain⟨od,J,hl⟩:=I.look
 exact PySem.W.get_value X J (PySem.W.plainGet_of hg).1 (PySem.W.findObj_own hh ha rfl (by rw[hl,hv])) hv' h
theorem Ff{pl:Sem Bool}{Q:Value×List Value->Shared->Prop}(X:K.In s.heap)(I:xF s.heap x dx C mA)(hg:PySem.W.plainGet K C name=true)(hf:PySem.W.findIn K (.ref C) name=some (some (.ref f)))(ht:PySem.W.isFn K (.ref f)=true)(hv:mA name=none)(h:Q (.ref f,[.ref x]) s) :
  wpAny (model prog w) A (getMethod (.ref x) name pl) Q E s:=by
 obtain⟨od,J,hl⟩:=I.look
 exact PySem.W.method_fn X J (PySem.W.plainGet_of hg).1 (PySem.W.plainGet_of hg).2 hf (beq_iff_eq.mp ht) (by show(PySem.W.lookIn name od).map (·.isSome)=some false;rw[hl,hv];rfl) h
theorem JV{ns:List Str}{Q:Unit->Shared->Prop}(X:K.In s.heap)(I:xF s.heap x dx C mA)(hs:PySem.W.findIn K (.ref C) "__setattr__"=some (some (.builtin "object.__setattr__")))(hp:PySem.W.plainOver K C=true)(ht:PySem.W.takerIn K C name=some none)(hh:PySem.W.hasDictIn K C=true)(hw:PySem.Within mA ns)(hsz:ns.length<=sizeLine)(h:∀h',xF h' x dx C (λy=>if y=name then some v else mA y)->Heap.SameBut dx s.heap h'->Q () { s with heap:=h',toks:=s.toks+2 }) :
  wpAny (model prog w) A (setAttr (.ref x) name v) Q E s:=by
 obtain⟨od,J,hl⟩:=I.look
 refine PySem.W.set_plain X J hs (PySem.W.osa_open (s:={ s with toks:=s.toks+1 }) (r:=none) X J hp ht λb=>?_)
 obtain⟨cd,hc,hd'⟩:=PySem.W.any_some hh
 have hx:s.heap.get? x=some ⟨.ref C,some dx,.plain,#[]⟩:=I.obj
 refine wpAny_bind (wpAny_pure (wpAny_bind (wpAny_bind (wpAny_loadPart hx (wpAny_bind (PySem.W.Looks.here (s:={ s with toks:=s.toks+1 }) (PySem.W.looks_clsIn X hc) ?_))))))
 rw[hd']
 refine wpAny_pure (a:=some dx) (wpAny_bind (wpAny_pure (wpAny_bind ?_)))
 refine wpAny_nsSet1 (s:={ s with toks:=s.toks+1 }) I.ns λh' hn2 hs2=>?_
 obtain⟨oD,esD,epD,hoD,hdD,hcD⟩:=hn2.count (PySem.Within.cons name v hw)
 refine wpAny_bind (wpAny_lookBehind hoD (by rw[hdD];exact pastItsLine_dict (Nat.le_trans hcD (by rw[List.length_cons];omega))) ?_)
 exact wpAny_pure (h _ ⟨(hs2.2 _ (Ne.symm I.ne)).trans I.obj,hn2,I.ne⟩ hs2)
theorem Fx{R:Result->Shared->Prop}{vs:List Value}{kw:List (Str×Value)}(X:K.In s.heap)(hm:PySem.W.makesIn K C=true)(hi:PySem.W.findIn K (.ref C) "__init__"=some (some (.ref f)))(hf:PySem.W.typeIn K (.ref f)=some (.type "function"))(h:codeAny (model prog w) (A.under (.builtin "type.__call__" ⟨.ref C::vs,kw⟩)) (.call (.ref f) ⟨.ref (s.heap.objs.size+1)::vs,kw⟩) (PySem.W.InitBack (s.heap.objs.size+1) R)
   { s with heap:=(s.heap.push PySem.W.emptyDict).push (PySem.W.instObj C s.heap.objs.size) }) :
  codeAny (model prog w) A (.call (.ref C) ⟨vs,kw⟩) R s:=by
 obtain⟨hh,g,d,t,os⟩:=s
 exact PySem.W.make_core (PySem.W.makes_of X hm) (PySem.W.looks_findIn X hi) (λself=>PySem.W.bind_fn X self hf) (.inl rfl) h
end
noncomputable def eY(f:Str)(v:V):List (Str×V)->List (Str×V)
 |[]=>[(f,v)]
 |(g,x)::r=>if g=f then (g,v)::r else (g,x)::eY f v r
theorem nu(f g:Str)(v:V):∀fs:List (Str×V),(eY f v fs).lookup g=if g=f then some v else fs.lookup g
 |[]=>by
  show List.lookup g [(f,v)]=_
  by_cases h:g=f
  ·have hb:(g==f)=true:=beq_iff_eq.mpr h
   simp only[List.lookup,hb,if_pos h]
  ·have hb:(g==f)=false:=beq_eq_false_iff_ne.mpr h
   simp only[List.lookup,hb,if_neg h]
 |(k,x)::r=>by
  have ih:=nu f g v r
  rw[show eY f v ((k,x)::r)=(if k=f then (k,v)::r else (k,x)::eY f v r) from rfl]
  by_cases hk:k=f
  ·rw[if_pos hk]
   by_cases h:g=k
   ·have hb:(g==k)=true:=beq_iff_eq.mpr h
    simp only[List.lookup,hb,if_pos (h.trans hk)]
   ·have hb:(g==k)=false:=beq_eq_false_iff_ne.mpr h
    simp only[List.lookup,hb,if_neg (λe:g=f=>h (e.trans hk.symm))]
  ·rw[if_neg hk]
   by_cases h:g=k
   ·have hb:(g==k)=true:=beq_iff_eq.mpr h
    simp only[List.lookup,hb,if_neg (λe:g=f=>hk (h.symm.trans e))]
   ·have hb:(g==k)=false:=beq_eq_false_iff_ne.mpr h
    simp only[List.lookup,hb]
    exact ih
theorem lR(f:Str)(v:V):∀fs:List (Str×V),f∈(eY f v fs).map (·.1)/\∀g,g∈fs.map (·.1)->g∈(eY f v fs).map (·.1)
 |[]=>⟨by simp[eY],λg h=>by simp at h⟩
 |(k,x)::r=>by
  obtain⟨i1,i2⟩:=lR f v r
  rw[show eY f v ((k,x)::r)=(if k=f then (k,v)::r else (k,x)::eY f v r) from rfl]
  by_cases hk:k=f
  ·rw[if_pos hk]
   subst hk
   exact⟨by simp,λg h=>by simpa using h⟩
  ·rw[if_neg hk]
   refine⟨?_,λg h=>?_⟩
   ·rw[List.map_cons]
    exact List.mem_cons_of_mem _ i1
   ·rw[List.map_cons] at h ⊢
    rcases List.mem_cons.mp h with e|e
    ·exact List.mem_cons.mpr (.inl e)
    ·exact List.mem_cons_of_mem _ (i2 g e)
theorem nj(f:Str)(v:V):∀fs:List (Str×V),(eY f v fs).length<=fs.length+1
 |[]=>by simp[eY]
 |(k,x)::r=>by
  have ih:=nj f v r
  rw[show eY f v ((k,x)::r)=(if k=f then (k,v)::r else (k,x)::eY f v r) from rfl]
  by_cases hk:k=f
  ·rw[if_pos hk,List.length_cons,List.length_cons];omega
  ·rw[if_neg hk,List.length_cons,List.length_cons];omega
theorem iB.some_of{v:V}{o:Option Value}(r:iB (some v) o):∃u,o=some u/\RelV v u:=by
 cases o with
 |none=>exact(show False from r).elim
 |some u=>exact⟨u,rfl,r⟩
theorem iB.none_of{o:Option Value}(r:iB none o):o=none:=by
 cases o with
 |none=>rfl
 |some u=>exact(show False from r).elim
theorem BV{v:V}{u:Value}(r:RelV v u):PySem.W.handedIn u=true:=by
 cases v with
 |non=>cases (show u=Value.none from r);rfl
 |bl b=>cases (show u=Value.bool b from r);rfl
 |int i=>obtain⟨t,e⟩:=(show ∃t,u=Value.int i t from r);cases e;rfl
 |str x=>obtain⟨t,e⟩:=(show ∃t,u=Value.str x t from r);cases e;rfl
 |byt b=>obtain⟨t,e⟩:=(show ∃t,u=Value.bytes b t from r);cases e;rfl
 |flt b=>obtain⟨t,e⟩:=(show ∃t,u=Value.float b t from r);cases e;rfl
 |ref a=>cases (show u=Value.ref a from r);rfl
 |ty n=>cases (show u=Value.type n from r);rfl
section
variable {P:Program}{w:World}{H H':Hp}{h h':Heap}{a C dx:Addr}{fs fs':List (Str×V)}
theorem uK(hok:HOk P w H h)(e:H a=some (.ins C dx fs)):∃mA,xF h a dx C mA/\(∀f,iB (fs.lookup f) (mA f))/\PySem.Within mA (fs.map (·.1))/\fs.length<=1000/\H dx=some (.own a):=by
 obtain⟨d,z,ne,ob,mA,n,r,q⟩:=(show cW P w H h a (.ins C dx fs) from hok a _ e)
 exact⟨mA,⟨ob,n,ne⟩,r,q,z,d⟩
end
structure Cls(K:PySem.W.Frag)(C:Addr):Prop where
 pg:PySem.W.plainGet K C Str.empty=true
 hd:PySem.W.hasDictIn K C=true
 po:PySem.W.plainOver K C=true
 sa:PySem.W.findIn K (.ref C) "__setattr__"=some (some (.builtin "object.__setattr__"))
theorem Cls.get{K:PySem.W.Frag}{C:Addr}(c:Cls K C)(f:Str):PySem.W.plainGet K C f=true:=c.pg
def ig(K:PySem.W.Frag)(C:Addr)(f:Str):Prop:=PySem.W.findIn K (.ref C) f=some none
theorem ig.taker{K:PySem.W.Frag}{C:Addr}{f:Str}(n:ig K C f):PySem.W.takerIn K C f=some none:=by
 unfold PySem.W.takerIn
 rw[show PySem.W.findIn K (.ref C) f=some none from n]
 rfl
structure Con(K:PySem.W.Frag)(C:Addr)(f:Str)(v:V)(u:Value):Prop where
 at_:PySem.W.findIn K (.ref C) f=some (some u)
 rel:RelV v u
 get:PySem.W.specialIn K u "__get__"=some none
 cp:PySem.W.copiedNames.contains f=false
structure Meth(K:PySem.W.Frag)(C:Addr)(m:Str)(f:Addr):Prop where
 at_:PySem.W.findIn K (.ref C) m=some (some (.ref f))
 fn:PySem.W.isFn K (.ref f)=true
 kp:PySem.W.keepIn K (.ref f)=true
section
variable {X:Cx}{pins:List (Addr×Obj)}{σ:St}{H:Hp}{s:Shared}{a C dx:Addr}{fs:List (Str×V)}{f:Str}{v:V}{A:Around}{E:Value->Shared->Prop}
theorem pG{b:Bool}{Q:Value->Shared->Prop}(I:Inv X pins σ H s)(e:H a=some (.ins C dx fs))(c:Cls X.K C)(n:ig X.K C f)(l:fs.lookup f=some v)(h:∀u s',Inv X pins σ H s'->RelV v u->Q u s'):wpAny (model X.prog X.w) A (getAttr (.ref a) f b) Q E s:=by
 obtain⟨mA,O,r,_,_,_⟩:=uK I.hok e
 obtain⟨u,hu,ru⟩:=iB.some_of (v:=v) (o:=mA f) (by rw[←l];exact r f)
 exact Iz I.kIn O (c.get f) c.hd n hu (BV ru) (h u _ (I.tok _) ru)
theorem jV{m:Str}{g:Addr}{pl:Sem Bool}{Q:Value×List Value->Shared->Prop}(I:Inv X pins σ H s)(e:H a=some (.ins C dx fs))(c:Cls X.K C)(k:Meth X.K C m g)(l:fs.lookup m=none)(h:Q (.ref g,[.ref a]) s):wpAny (model X.prog X.w) A (getMethod (.ref a) m pl) Q E s:=by
 obtain⟨mA,O,r,_,_,_⟩:=uK I.hok e
 have hn:mA m=none:=iB.none_of (by rw[←l];exact r m)
 exact Ff I.kIn O (c.get m) k.at_ k.fn hn h
theorem qL{y:V}{u:Value}{Q:Unit->Shared->Prop}(I:Inv X pins σ H s)(e:H a=some (.ins C dx fs))(c:Cls X.K C)(n:ig X.K C f)(hl:fs.length<1000)(ry:RelV y u)(h:∀s',Inv X pins σ (upd H a (.ins C dx (eY f y fs))) s'->Q () s'):wpAny (model X.prog X.w) A (setAttr (.ref a) f u) Q E s:=by
 obtain⟨mA,O,r,wi,_,ho⟩:=uK I.hok e
 have hz:(fs.map (·.1)).length<=sizeLine:=by rw[List.length_map,sizeLine_eq];omega
 refine JV I.kIn O c.sa c.po n.taker c.hd wi hz λh' O' sb=>h _ ?_
 have hd:∃o,h'.get? dx=some o:=let ⟨o,_,_,e',_⟩:=O'.ns;⟨o,e'⟩
 refine I.write (x:=a) (e:=dx) (by rw[e];exact True.intro) (.inr ho) (λb q hb z=>(sb.2 b hb).trans z) hd ?_
 refine⟨by rw[ao O.ne];exact ho,?_,O.ne,O'.obj,_,O'.ns,λg=>?_,λg hg=>?_⟩
 ·have:=nj f y fs;omega
 ·show iB ((eY f y fs).lookup g) (if g=f then some u else mA g)
  rw[nu]
  by_cases q:g=f
  ·rw[if_pos q,if_pos q];exact ry
  ·rw[if_neg q,if_neg q];exact r g
 ·by_cases q:g=f
  ·rw[q];exact(lR f y fs).1
  ·refine(lR f y fs).2 g (wi g λz=>hg ?_)
   show(if g=f then some u else mA g)=none
   rw[if_neg q];exact z
theorem Inv.made(I:Inv X pins σ H s):Inv X pins σ (upd (upd H s.heap.objs.size (.own (s.heap.objs.size+1))) (s.heap.objs.size+1) (.ins C s.heap.objs.size []))
  { s with heap:=(s.heap.push PySem.W.emptyDict).push (PySem.W.instObj C s.heap.objs.size) }:=by
 have e1:(s.heap.push PySem.W.emptyDict).get? s.heap.objs.size=some PySem.W.emptyDict:=Heap.get?_push_size s.heap rfl
 have e2:((s.heap.push PySem.W.emptyDict).push (PySem.W.instObj C s.heap.objs.size)).get? (s.heap.objs.size+1)=some (PySem.W.instObj C s.heap.objs.size):=by
  have:=Heap.get?_push_size (s.heap.push PySem.W.emptyDict) (o:=PySem.W.instObj C s.heap.objs.size) rfl
  rwa [Heap.size_push] at this
 have e3:(s.heap.push PySem.W.emptyDict).Ns s.heap.objs.size (λ_=>none):=⟨PySem.W.emptyDict,#[],_,e1,rfl,(λe he=>absurd he (by simp)),λ_=>rfl⟩
 have I1:=I.laid (a:=s.heap.objs.size) (o:=.own (s.heap.objs.size+1)) (h':=s.heap.push PySem.W.emptyDict) (t':=s.toks) (λb u q=>Heap.get?_push_of_some _ q) (Nat.le_refl _) ⟨_,e1⟩
 refine I1.laid (a:=s.heap.objs.size+1) (o:=.ins C s.heap.objs.size []) (t':=s.toks) (λb u q=>Heap.get?_push_of_some _ q) (Nat.le_of_eq (Heap.size_push _ _)) ?_
 have ne:s.heap.objs.size≠s.heap.objs.size+1:=Nat.ne_of_lt (Nat.lt_succ_self _)
 refine⟨by rw[ao ne,aj],Nat.zero_le _,ne,e2,λ_=>none,(Heap.Ns1.of_empty e3).at λo q=>Heap.get?_push_of_some _ q,λ_=>True.intro,λy hy=>absurd rfl hy⟩
theorem zE{prog:Program}{w:World}{env:Env}{e:Expr}{f:Str}{pos:Pos}{s:Shared}{Q:Value->Shared->Prop}(hb:attributeBase e f env (eval e env)=eval e env)(h:wpAny (model prog w) A (eval e env) (λo s₁=>wpAny (model prog w) A (getAttr o f true) Q E s₁) E s):wpAny (model prog w) A (eval (.Attribute e f pos) env) Q E s :=
 Attribute_any_ h (by rw[arm_eval_Attribute,hb])
end
def tFld(K:PySem.W.Frag)(ta:TE)(f:Str):TE:=λσ H Q=>ta σ H λx H1=>∃a C dx fs v,x=.ref a/\H1 a=some (.ins C dx fs)/\Cls K C/\ig K C f/\fs.lookup f=some v/\Q v H1
def sFld(K:PySem.W.Frag)(ta tv:TE)(f:Str):TS:=λD σ H=>tv σ H λy H1=>ta σ H1 λx H2=>∃a C dx fs,x=.ref a/\H2 a=some (.ins C dx fs)/\Cls K C/\ig K C f/\fs.length<1000 /\
 D.nx σ (upd H2 a (.ins C dx (eY f y fs)))
def InOp(X:Cx)(op:Operator)(rd:V->V->Hp->VK->Prop):Prop :=
 ∀(pins:List (Addr×Obj)) (s:Shared) (σ:St) (H:Hp) (x y:V) (u v:Value) (Q:VK),Inv X pins σ H s->RelV x u->RelV y v->rd x y H Q->wpAny (model X.prog X.w) X.A (inplaceOp op u v) (EP X pins σ Q) X.xe s
def JL(K:PySem.W.Frag)(ta tv:TE)(rd:V->V->Hp->VK->Prop)(f:Str):TS:=λD σ H=>ta σ H λx H1=>∃a C dx fs v,x=.ref a/\H1 a=some (.ins C dx fs)/\Cls K C/\ig K C f/\fs.lookup f=some v /\
 tv σ H1 λy H2=>rd v y H2 λz H3=>∃dx' fs',H3 a=some (.ins C dx' fs')/\fs'.length<1000/\D.nx σ (upd H3 a (.ins C dx' (eY f z fs')))
section
variable {X:Cx}{o e value:Expr}{f:Str}{pos pos' tpos:Pos}{ta tv:TE}
theorem aB(he:PE X e ta)(hb:attributeBase e f X.env (eval e X.env)=eval e X.env):PE X (.Attribute e f pos) (tFld X.K ta f):=by
 intro pins s σ H Q I h
 refine zE hb (thn (he pins s σ H _ I h) λu s1 hq=>?_)
 obtain⟨x,H1,I1,rx,a,C,dx,fs,v,ex,ea,c,n,l,q⟩:=hq
 subst ex
 obtain rfl:u=Value.ref a:=rx
 exact pG I1 ea c n l λu' s2 I2 ru=>⟨v,H1,I2,ru,q⟩
theorem aU(ha:PE X o ta)(hv:PE X value tv)(hs:swapsWith value (some (.Attribute o f pos')) pos.line X.env=pure false):PS X (.Assign [.Attribute o f pos'] value pos) (sFld X.K ta tv f):=by
 intro pins s σ H D I h
 refine plainObj_wpAny_Assign_Attribute (thn (hv pins s σ H _ I h) λu s1 ⟨y,H1,I1,ry,q⟩=>thn (ha pins s1 σ H1 _ I1 q) λov s2 hq=>?_) hs
 obtain⟨x,H2,I2,rx,a,C,dx,fs,ex,ea,c,n,l,q2⟩:=hq
 subst ex
 obtain rfl:ov=Value.ref a:=rx
 exact qL I2 ea c n l ry λs3 I3=>⟨σ,_,I3,q2⟩
theorem mq{op:Operator}{rd:V->V->Hp->VK->Prop}(ha:PE X o ta)(hv:PE X value tv)(hop:InOp X op rd):PS X (.AugAssign (.Attribute o f tpos) op value pos) (JL X.K ta tv rd f):=by
 intro pins s σ H D I h
 refine wpAny_AugAssign_AttributeAny (thn (ha pins s σ H _ I h) λov s1 hq=>?_)
 obtain⟨x,H1,I1,rx,a,C,dx,fs,v,ex,ea,c,n,l,q⟩:=hq
 subst ex
 obtain rfl:ov=Value.ref a:=rx
 refine pG I1 ea c n l λu s2 I2 ru=>thn (hv pins s2 σ H1 _ I2 q) λw3 s3 ⟨y,H2,I3,ry,q3⟩=>thn (hop pins s3 σ H2 v y u w3 _ I3 ru ry q3) λw4 s4 hq=>?_
 obtain⟨z,H3,I4,rz,dx',fs',ea',l',q4⟩:=hq
 exact qL I4 ea' c n l' rz λs5 I5=>⟨σ,_,I5,q4⟩
def rAdd:V->V->Hp->VK->Prop:=λx y H Q=>∃i j,x=.int i/\y=.int j/\Q (.int (i+j)) H
theorem xV:InOp X .Add rAdd:=by
 rintro pins s σ H x y u v Q I rx ry ⟨i,j,rfl,rfl,q⟩
 obtain⟨t,rfl⟩:=(show ∃t,u=Value.int i t from rx)
 obtain⟨t',rfl⟩:=(show ∃t',v=Value.int j t' from ry)
 exact PyProof.Rows.iadd_int ⟨.int (i+j),H,I.tok _,⟨_,rfl⟩,q⟩
theorem methcall_of{pl:Sem Bool}{m:Str}{apos:Pos}{args:List Expr}{pins:List (Addr×Obj)}{s:Shared}{σ:St}{H:Hp}{Q:Value->Shared->Prop}{te:TE}(he:PE X e te)(I:Inv X pins σ H s)(h:te σ H λx H1=>∃a C dx fs g,x=.ref a/\H1 a=some (.ins C dx fs)/\Cls X.K C/\Meth X.K C m g/\fs.lookup m=none /\
   ∀s1,Inv X pins σ H1 s1->wpAny (model X.prog X.w) X.A (callWith pos (.ref g) [.ref a] (backTo pos (starEach args X.env)) (backToKw pos (keywordEach [] X.env))) Q X.xe s1)(ht:eval (.Call (.Attribute e m apos) args [] pos) X.env=(do
   let ov ←eval e X.env
   standAt apos.atName
   let (f,first) ←holding [ov] (getMethod ov m pl)
   callWith pos f first (backTo pos (starEach args X.env)) (backToKw pos (keywordEach [] X.env)))) :
  wpAny (model X.prog X.w) X.A (eval (.Call (.Attribute e m apos) args [] pos) X.env) Q X.xe s:=by
 refine PySem.W.methodCall_KW (pl:=pl) (thn (he pins s σ H _ I h) λu s1 hq=>?_) ht
 obtain⟨x,H1,I1,rx,a,C,dx,fs,g,ex,ea,c,k,l,q⟩:=hq
 subst ex
 obtain rfl:u=Value.ref a:=rx
 exact jV I1 ea c k l (q s1 I1)
end
section
variable {X:Cx}{pins:List (Addr×Obj)}{σ:St}{H:Hp}{s:Shared}{A:Around}{E:Value->Shared->Prop}{Q:Value->Shared->Prop}{c:Value}{b:Bool}
inductive o7(K:PySem.W.Frag)(H:Hp):V->Value->Prop where
 |non:o7 K H .non (.type "NoneType")
 |bl (x:Bool):o7 K H (.bl x) (.type "bool")
 |int (i:Int):o7 K H (.int i) (.type "int")
 |str (x:Str):o7 K H (.str x) (.type "str")
 |flt (x:UInt64):o7 K H (.flt x) (.type "float")
 |lst {a:Addr} {xs:List V} (e:H a=some (.lst xs)):o7 K H (.ref a) (.type "list")
 |frz {a:Addr} {o:Obj} {xs:List V} (e:H a=some (.frz o (.lst xs))):o7 K H (.ref a) (.type "list")
 |tup {a:Addr} {xs:List V} (e:H a=some (.tup xs)):o7 K H (.ref a) (.type "tuple")
 |dK {a:Addr} {kvs:List (Key×V)} (e:H a=some (.dK kvs)):o7 K H (.ref a) (.type "dict")
 |dT {a:Addr} {kvs:List (List Key×V)} (e:H a=some (.dT kvs)):o7 K H (.ref a) (.type "dict")
 |ins {a C dx:Addr} {fs:List (Str×V)} (e:H a=some (.ins C dx fs)) (cl:Cls K C) (ha:PySem.W.findIn K (.ref C) "__class__"=some (some (.builtin "object.__class__")))
   (hn:PySem.W.specialIn K (.builtin "object.__class__") "__get__"=some (some (.builtin "getset_descriptor.__get__"))) (htk:PySem.W.takesIn K (.builtin "object.__class__")=some true)
   (hm:PySem.W.mroIn K C (.type "object")=some true):o7 K H (.ref a) (.ref C)
end
structure bY(k:Nat)(A:Around):Prop where
 hd:A.handled=none
 dp:A.depth+3*k+5<recursionLimit
 un:A.units+16*k+200<cLine
theorem bY.mono{j k:Nat}{A:Around}(r:bY k A)(h:j<=k):bY j A:=⟨r.hd,by have:=r.dp;omega,by have:=r.un;omega⟩
theorem bY.deeper{k:Nat}{A:Around}(r:bY (k+1) A)(env:Env):bY k (A.deeper env) :=
 ⟨r.hd,by have:=r.dp;show A.depth+1+3*k+5<_;omega,by have:=r.un;show A.units+3+16*k+200<_;omega⟩
theorem yh{A:Around}{C:Addr}{us:List Value}{kw:List (Str×Value)}:(A.under (.builtin "type.__call__" ⟨.ref C::us,kw⟩)).depth=A.depth+1:=by
 first|rfl|simp[Around.under,Code.weight,Code.isCreation,Code.isGuard,Code.isCaller,Code.frames,Code.isFrame,guardIds]
theorem yj{A:Around}{C:Addr}{us:List Value}{kw:List (Str×Value)}:(A.under (.builtin "type.__call__" ⟨.ref C::us,kw⟩)).units=A.units+1:=by
 first|rfl|simp[Around.under,Code.cUnits,Code.frames,Code.isFrame]
theorem bY.make{k:Nat}{A:Around}(r:bY (k+1) A)(C:Addr)(us:List Value)(kw:List (Str×Value)):bY k (A.under (.builtin "type.__call__" ⟨.ref C::us,kw⟩)) :=
 ⟨r.hd,by have:=r.dp;rw[yh];omega,by have:=r.un;rw[yj];omega⟩
theorem bY.depth{k:Nat}{A:Around}(r:bY k A):A.depth<recursionLimit:=by have:=r.dp;omega
theorem bY.units{k:Nat}{A:Around}(r:bY k A):A.units+64<cLine:=by have:=r.un;omega
def tNil:TA:=λ_ H Q=>Q [] H
def tCons(ta:TE)(tr:TA):TA:=λσ H Q=>ta σ H λx H1=>tr σ H1 λxs H2=>Q (x::xs) H2
section
variable {X:Cx}{e:Expr}{es:List Expr}{te:TE}{t:TA}{pos:Pos}
theorem au:PA X [] tNil:=λ_ _ _ _ H Q I h=>Calls.spliced_nil ⟨[],H,I,.nil,h⟩
theorem ak(ha:PE X e te)(hr:PA X es t)(hs:starEach (e::es) X.env=(false,eval e X.env)::starEach es X.env:=by rfl):PA X (e::es) (tCons te t):=by
 intro pos pins s σ H Q I h
 rw[hs]
 show wpAny _ _ (spliced ((false,eval e X.env)::backTo pos (starEach es X.env))) _ _ s
 refine Calls.spliced_cons (thn (ha pins s σ H _ I h) λu s1 hq=>?_)
 obtain⟨x,H1,I1,r1,q1⟩:=hq
 exact thn (hr pos pins s1 σ H1 _ I1 q1) λus s2 ⟨xs,H2,I2,r2,q2⟩=>⟨x::xs,H2,I2,.cons r1 r2,q2⟩
def tTup(t:TA):TE:=λσ H Q=>t σ H λxs H1=>xs.length<=sizeLine/\∀p,H1 p=none->Q (.ref p) (upd H1 p (.tup xs))
def tLst(t:TA):TE:=λσ H Q=>t σ H λxs H1=>xs.length<=sizeLine/\∀p,H1 p=none->Q (.ref p) (upd H1 p (.lst xs))
theorem eE{x1}(h:PA X es t):PE X (.Tuple es x1 pos) (tTup t):=by
 intro pins s σ H Q I hq
 refine wpAny_Tuple_spliced (thn (h pos pins s σ H _ I hq) λus s1 ⟨xs,H1,I1,r,z,q⟩=>⟨by rw[←r.length];exact z,?_⟩)
 have hf:H1 s1.heap.objs.size=none:=I1.hok.fresh (Nat.le_refl _)
 refine⟨.ref s1.heap.objs.size,upd H1 s1.heap.objs.size (.tup xs),I1.laid (t':=s1.toks) (λb u e=>Heap.get?_push_of_some _ e) (Nat.le_refl _) ?_,rfl,q _ hf⟩
 exact⟨z,us,r,⟨_,Heap.get?_push_size _ rfl,rfl,_,rfl⟩⟩
theorem cD(h:PA X es t):PE X (.List es pos) (tLst t):=by
 intro pins s σ H Q I hq
 refine wpAny_List_spliced (thn (h pos pins s σ H _ I hq) λus s1 ⟨xs,H1,I1,r,z,q⟩=>⟨by rw[←r.length];exact z,?_⟩)
 have hf:H1 s1.heap.objs.size=none:=I1.hok.fresh (Nat.le_refl _)
 refine⟨.ref s1.heap.objs.size,upd H1 s1.heap.objs.size (.lst xs),I1.laid (t':=s1.toks) (λb u e=>Heap.get?_push_of_some _ e) (Nat.le_refl _) ?_,rfl,q _ hf⟩
 exact⟨z,us,0,r,Heap.get?_push_size _ rfl⟩
end
abbrev Sp:=List V->Hp->VK->XK->Prop
abbrev CXT:=List Env->Hp->Shared->XK->Value->Shared->Prop
structure uy(P:Program)(w:World)(K:PySem.W.Frag)(mg:Str->Option Value)(base:Heap)(A:Around)(outer:List Env)(s:Shared)(H:Hp):Prop where
 frames:A.frames=some outer
 mod:Mod K mg base
 bs:∀b o,base.get? b=some o->s.heap.get? b=some o/\H b=none
 bsz:base.objs.size<=s.heap.objs.size
 funs:s.heap.FunFrames base outer
 frf:∀b∈frs outer,H b=none
 hok:HOk P w H s.heap
 bare:AllBare s.gens
def CE(outer:List Env)(P:Program)(w:World)(H:Hp)(s:Shared)(Q:VK)(u:Value)(s':Shared):Prop :=
 ∃v H',s'.os=s.os/\AllBare s'.gens/\Un (frs outer) [] H H' s.heap s'.heap/\HOk P w H' s'.heap/\RelV v u/\Q v H'
def CR(CX:CXT)(outer:List Env)(P:Program)(w:World)(H:Hp)(s:Shared)(Q:VK)(E:XK)(r:Result)(s':Shared):Prop :=
 match r with
 |.ok (.ret u)=>CE outer P w H s Q u s'
 |.ok _=>False
 |.error e=>CX outer H s E e s'
structure aF(P:Program)(w:World)(K:PySem.W.Frag)(mg:Str->Option Value)(base:Heap)(CX:CXT)(k:Nat)(f:Addr)(fd:FuncData)(ps:List Str)(sp:Sp):Prop where
 len:∀vs H Q E,sp vs H Q E->vs.length=ps.length
 run:∀(A:Around) (outer:List Env) (s:Shared) (H:Hp) (args:Args) (us:List Value) (vs:List V) (Q:VK) (E:XK),bY k A->uy P w K mg base A outer s H->BindsTo s fd args (ps.zip us)->Vals vs us->sp vs H Q E ->
  codeAny (model P w) A (.call (.ref f) args) (CR CX outer P w H s Q E) s
theorem aF.imp{P:Program}{w:World}{K:PySem.W.Frag}{mg:Str->Option Value}{base:Heap}{CX:CXT}{k:Nat}{f:Addr}{fd:FuncData}{ps:List Str}{sp sp':Sp}(F:aF P w K mg base CX k f fd ps sp)(h:∀vs H Q E,sp' vs H Q E->sp vs H Q E):aF P w K mg base CX k f fd ps sp' :=
 ⟨λvs H Q E q=>F.len vs H Q E (h _ _ _ _ q),λA outer s H args us vs Q E hr he hb hv hs=>F.run A outer s H args us vs Q E hr he hb hv (h _ _ _ _ hs)⟩
theorem uy.make{P:Program}{w:World}{K:PySem.W.Frag}{mg:Str->Option Value}{base:Heap}{A:Around}{outer:List Env}{s:Shared}{H:Hp}(e:uy P w K mg base A outer s H)(C:Addr)(us:List Value)(kw:List (Str×Value)) :
  uy P w K mg base (A.under (.builtin "type.__call__" ⟨.ref C::us,kw⟩)) outer s H:=⟨by first|exact e.frames|(simpa[Around.under,Code.envs,Code.isFrame,pushEnvs] using e.frames),e.mod,e.bs,e.bsz,e.funs,e.frf,e.hok,e.bare⟩
section
variable {X:Cx}{pins:List (Addr×Obj)}{σ:St}{H:Hp}{s s':Shared}
theorem Inv.env0(I:Inv X pins σ H s):uy X.prog X.w X.K X.mg X.base X.A X.stack s H :=
 ⟨I.ok.frames,I.ok.mod,I.bs,Nat.le_trans I.ok.bsz I.sz,I.stack,I.stkFree,I.hok,I.bare⟩
theorem Inv.after{Q:VK}{u:Value}(I:Inv X pins σ H s)(h:CE X.stack X.prog X.w H s Q u s'):EP X pins σ Q u s':=by
 obtain⟨v,H',os,bare,un,hok,r,q⟩:=h
 obtain⟨hh,g,d,t,os'⟩:=s'
 obtain rfl:os'=s.os:=os
 exact⟨v,H',I.call (h':=hh) (g':=g) (d':=d) (t':=t) (ch:=[]) un hok bare (λb z=>absurd z (by simp)),r,q⟩
end
def tCall(sp:Sp)(dvs:List V)(E:XK)(t:TA):TE:=λσ H Q=>t σ H λvs H1=>sp (vs++dvs) H1 Q E
def tMeth(C:Addr)(m:Str)(sp:Sp)(dvs:List V)(E:XK)(ta:TE)(t:TA):TE:=λσ H Q=>ta σ H λx H1=>∃a dx fs,x=.ref a/\H1 a=some (.ins C dx fs)/\fs.lookup m=none /\
 t σ H1 λvs H2=>sp (x::(vs++dvs)) H2 Q E
def tMake(C:Addr)(sp:Sp)(dvs:List V)(E:XK)(t:TA):TE:=λσ H Q=>t σ H λvs H1=>∀x dx,H1 x=none->H1 dx=none->dx≠x ->
 sp (.ref x::(vs++dvs)) (upd (upd H1 dx (.own x)) x (.ins C dx [])) (λv H2=>v=.non/\Q (.ref x) H2) E
def Binds(K:PySem.W.Frag)(fd:FuncData)(ps:List Str)(ds:List Value):Prop :=
 ∀(s:Shared) (us:List Value),K.In s.heap->(us++ds).length=ps.length->BindsTo s fd ⟨us,[]⟩ (ps.zip (us++ds))
theorem Binds.all{K:PySem.W.Frag}{fd:FuncData}{ps:List Str}(h:∀us:List Value,us.length=ps.length->bindArgs fd ⟨us,[]⟩=pure (ps.zip us)):Binds K fd ps []:=λs us _ hl=>by
 rw[List.append_nil] at hl ⊢
 exact .of_eq (h us hl)
def iz(CX:CXT)(X:Cx)(E:XK):Prop:=∀(pins:List (Addr×Obj)) (σ:St) (H:Hp) (s:Shared) (e:Value) (s':Shared),Inv X pins σ H s->CX X.stack H s E e s'->X.xe e s'
section
variable {X:Cx}{CX:CXT}{k:Nat}{f C:Addr}{fd:FuncData}{ps:List Str}{sp:Sp}{dvs:List V}{ds:List Value}{E:XK}{x m:Str}{p pos apos:Pos}{e o:Expr}{es:List Expr}{ta:TE}{t:TA}
theorem yO{pins:List (Addr×Obj)}{σ:St}{H:Hp}{s:Shared}{Q:VK}{us:List Value}{vs:List V}(F:aF X.prog X.w X.K X.mg X.base CX k f fd ps sp)(hr:bY k X.A)(hb:Binds X.K fd ps ds)(hd:Vals dvs ds)(hx:iz CX X E)(I:Inv X pins σ H s)(r:Vals vs us)(h:sp (vs++dvs) H Q E):wpAny (model X.prog X.w) X.A (call (.ref f) us) (EP X pins σ Q) X.xe s:=by
 have r2:Vals (vs++dvs) (us++ds):=r.append hd
 have hl:(us++ds).length=ps.length:=by rw[←r2.length];exact F.len _ _ _ _ h
 refine wpAny_call (codeAny_mono (F.run X.A X.stack s H ⟨us,[]⟩ (us++ds) (vs++dvs) Q E hr I.env0 (hb s us I.kIn hl) r2 h) λr s' hq=>?_)
 cases r with
 |error e=>exact hx pins σ H s e s' I hq
 |ok fl =>
  cases fl with
  |ret u=>exact I.after hq
  |next=>exact False.elim hq
  |brk=>exact False.elim hq
  |cont=>exact False.elim hq
theorem bU(F:aF X.prog X.w X.K X.mg X.base CX k f fd ps sp)(hr:bY k X.A)(hg:Gl X x)(hm:X.mg x=some (.ref f))(hk:PySem.W.keepIn X.K (.ref f)=true)(hb:Binds X.K fd ps ds)(hd:Vals dvs ds)(hx:iz CX X E)(ha:PA X (e::es) t)(hdb:(x==("__debug__":Str))=false:=by decide)(he:starEach (e::es) X.env=(false,eval e X.env)::starEach es X.env:=by rfl)(hpl:(backTo pos (starEach es X.env)).any (·.1)=false:=by rfl) :
  PE X (.Call (.Name x p) (e::es) [] pos) (tCall sp dvs E t):=by
 intro pins s σ H Q I h
 refine wpAny_Call_Name_kw (iG I hg hm ?_ hdb)
 refine PySem.W.callWith_K (h₀:=X.base) I.ok.mod.kin hk (thn (ha pos pins s σ H _ I h) λus s1 ⟨vs,H1,I1,r,q⟩=>⟨I1.kIn,?_⟩) he hpl
 exact yO F hr hb hd hx I1 r q
theorem aQ{pl:Sem Bool}(he:PE X o ta)(c:Cls X.K C)(hm:Meth X.K C m f)(F:aF X.prog X.w X.K X.mg X.base CX k f fd ps sp)(hr:bY k X.A)(hb:Binds X.K fd ps ds)(hd:Vals dvs ds)(hx:iz CX X E)(ha:PA X (e::es) t)(hst:starEach (e::es) X.env=(false,eval e X.env)::starEach es X.env:=by rfl)(hpl:(backTo pos (starEach es X.env)).any (·.1)=false:=by rfl)(ht:eval (.Call (.Attribute o m apos) (e::es) [] pos) X.env=(do
   let ov ←eval o X.env
   standAt apos.atName
   let (f,first) ←holding [ov] (getMethod ov m pl)
   callWith pos f first (backTo pos (starEach (e::es) X.env)) (backToKw pos (keywordEach [] X.env))):=by rfl) :
  PE X (.Call (.Attribute o m apos) (e::es) [] pos) (tMeth C m sp dvs E ta t):=by
 intro pins s σ H Q I h
 refine PySem.W.methodCall_KW (pl:=pl) (thn (he pins s σ H _ I h) λu s1 hq=>?_) ht
 obtain⟨x,H1,I1,rx,a,dx,fs,ex,ea,l,q⟩:=hq
 subst ex
 obtain rfl:u=Value.ref a:=rx
 refine jV I1 ea c hm l ?_
 refine PySem.W.callWith_K (first:=[.ref a]) (h₀:=X.base) I.ok.mod.kin hm.kp (thn (ha pos pins s1 σ H1 _ I1 q) λus s2 ⟨vs,H2,I2,r,q2⟩=>⟨I2.kIn,?_⟩) hst hpl
 exact yO (us:=.ref a::us) (vs:=.ref a::vs) F hr hb hd hx I2 (.cons rfl r) q2
theorem cO{pl:Sem Bool}(he:PE X o ta)(c:Cls X.K C)(hm:Meth X.K C m f)(F:aF X.prog X.w X.K X.mg X.base CX k f fd ps sp)(hr:bY k X.A)(hb:Binds X.K fd ps ds)(hd:Vals dvs ds)(hx:iz CX X E)(ht:eval (.Call (.Attribute o m apos) [] [] pos) X.env=(do
   let ov ←eval o X.env
   standAt apos.atName
   let (f,first) ←holding [ov] (getMethod ov m pl)
   callWith pos f first (backTo pos (starEach [] X.env)) (backToKw pos (keywordEach [] X.env))):=by rfl) :
  PE X (.Call (.Attribute o m apos) [] [] pos) (tMeth C m sp dvs E ta tNil):=by
 intro pins s σ H Q I h
 refine PySem.W.methodCall_KW (pl:=pl) (thn (he pins s σ H _ I h) λu s1 hq=>?_) ht
 obtain⟨x,H1,I1,rx,a,dx,fs,ex,ea,l,q⟩:=hq
 subst ex
 obtain rfl:u=Value.ref a:=rx
 refine jV I1 ea c hm l ?_
 exact PySem.W.callWith_K0 (first:=[.ref a]) I1.kIn hm.kp (yO (us:=[.ref a]) (vs:=[.ref a]) F hr hb hd hx I1 (.cons rfl .nil) q)
structure Mk(K:PySem.W.Frag)(C f:Addr):Prop where
 makes:PySem.W.makesIn K C=true
 init:PySem.W.findIn K (.ref C) "__init__"=some (some (.ref f))
 fn:PySem.W.isFn K (.ref f)=true
 kp:PySem.W.keepIn K (.ref C)=true
theorem wQ{pins:List (Addr×Obj)}{σ:St}{H:Hp}{s:Shared}{Q:VK}{us:List Value}{vs:List V}(M:Mk X.K C f)(F:aF X.prog X.w X.K X.mg X.base CX k f fd ps sp)(hr:bY (k+1) X.A)(hb:Binds X.K fd ps ds)(hd:Vals dvs ds)(hx:iz CX X E)(I:Inv X pins σ H s)(r:Vals vs us)(h:∀x dx,H x=none->H dx=none->dx≠x->sp (.ref x::(vs++dvs)) (upd (upd H dx (.own x)) x (.ins C dx [])) (λv H2=>v=.non/\Q (.ref x) H2) E) :
  wpAny (model X.prog X.w) X.A (call (.ref C) us) (EP X pins σ Q) X.xe s:=by
 have hq:=h (s.heap.objs.size+1) s.heap.objs.size (I.hok.fresh (Nat.le_succ _)) (I.hok.fresh (Nat.le_refl _)) (Nat.ne_of_lt (Nat.lt_succ_self _))
 have I2:=Inv.made (C:=C) I
 have r2:Vals (V.ref (s.heap.objs.size+1)::(vs++dvs)) (Value.ref (s.heap.objs.size+1)::(us++ds)):=.cons rfl (r.append hd)
 have hl:(Value.ref (s.heap.objs.size+1)::us++ds).length=ps.length:=by
  have e:=r2.length
  rw[F.len _ _ _ _ hq] at e
  exact e.symm
 refine wpAny_call (Fx (f:=f) I.kIn M.makes M.init (beq_iff_eq.mp M.fn) (codeAny_mono (F.run _ X.stack _ _ ⟨Value.ref (s.heap.objs.size+1)::us,[]⟩ (Value.ref (s.heap.objs.size+1)::(us++ds)) _ _ E (hr.make C us [])
  (I2.env0.make C us []) (hb _ (Value.ref (s.heap.objs.size+1)::us) I2.kIn hl) r2 hq) λr s' hq'=>?_))
 cases r with
 |error e=>exact hx pins σ _ _ e s' I2 hq'
 |ok fl =>
  cases fl with
  |ret u =>
   obtain⟨v,H',I3,rv,ev,q3⟩:=I2.after hq'
   subst ev
   exact⟨rv,⟨V.ref (s.heap.objs.size+1),H',I3,rfl,q3⟩⟩
  |next=>exact False.elim hq'
  |brk=>exact False.elim hq'
  |cont=>exact False.elim hq'
theorem dZ(M:Mk X.K C f)(F:aF X.prog X.w X.K X.mg X.base CX k f fd ps sp)(hr:bY (k+1) X.A)(hg:Gl X x)(hm:X.mg x=some (.ref C))(hb:Binds X.K fd ps ds)(hd:Vals dvs ds)(hx:iz CX X E)(ha:PA X (e::es) t)(hdb:(x==("__debug__":Str))=false:=by decide)(he:starEach (e::es) X.env=(false,eval e X.env)::starEach es X.env:=by rfl)(hpl:(backTo pos (starEach es X.env)).any (·.1)=false:=by rfl) :
  PE X (.Call (.Name x p) (e::es) [] pos) (tMake C sp dvs E t):=by
 intro pins s σ H Q I h
 refine wpAny_Call_Name_kw (iG I hg hm ?_ hdb)
 refine PySem.W.callWith_K (h₀:=X.base) I.ok.mod.kin M.kp (thn (ha pos pins s σ H _ I h) λus s1 ⟨vs,H1,I1,r,q⟩=>⟨I1.kIn,?_⟩) he hpl
 exact wQ M F hr hb hd hx I1 r q
theorem Hc(M:Mk X.K C f)(F:aF X.prog X.w X.K X.mg X.base CX k f fd ps sp)(hr:bY (k+1) X.A)(hg:Gl X x)(hm:X.mg x=some (.ref C))(hb:Binds X.K fd ps ds)(hd:Vals dvs ds)(hx:iz CX X E)(hdb:(x==("__debug__":Str))=false:=by decide):PE X (.Call (.Name x p) [] [] pos) (tMake C sp dvs E tNil):=by
 intro pins s σ H Q I h
 refine wpAny_Call_Name_kw (iG I hg hm ?_ hdb)
 exact PySem.W.callWith_K0 I.kIn M.kp (wQ (us:=[]) M F hr hb hd hx I .nil h)
end
section
variable {X:Cx}{CX:CXT}{k:Nat}{f C:Addr}{fd:FuncData}{ps ks:List Str}{sp:Sp}{E:XK}{x m:Str}{p pos apos kpos:Pos}{e o:Expr}{es:List Expr}{kws:List Keyword}{te ta:TE}{t tk:TA}{nm:Option Str}
structure KBinds(K:PySem.W.Frag)(fd:FuncData)(ps ks:List Str)(g:List Value->List Value->List Value)(gV:List V->List V->List V):Prop where
 to:∀(s:Shared) (us ws:List Value),K.In s.heap->(g us ws).length=ps.length->BindsTo s fd ⟨us,ks.zip ws⟩ (ps.zip (g us ws))
 rel:∀{vs:List V} {us:List Value} {zs:List V} {ws:List Value},Vals vs us->Vals zs ws->Vals (gV vs zs) (g us ws)
variable {g:List Value->List Value->List Value}{gV:List V->List V->List V}
end
structure aJ(N P:List Str)(sc:Scope):Prop where
 kind:sc.kind=.function
 co:sc.isCoroutine=false
 gen:sc.isGenerator=false
 nd:N.Nodup
 pre:N.take P.length=P
 par:∀x∈P,sc.names.lookup x=some .local∨sc.names.lookup x=some .cell
 nofree:∀y∈sc.names,y.2≠.free
theorem sE{kindOf:Str->Option NameKind}{x:Str}:∀{binds:List (Str×Value)} {m:Str->Option Value},(∀v,(x,v)∉binds)->bindL kindOf binds m x=m x
 |[],_,_=>rfl
 |(n,v)::r,m,h=>by
  unfold bindL
  rw[sE λw hw=>h w (List.mem_cons_of_mem _ hw)]
  split
  ·have:x≠n:=by rintro rfl;exact h v List.mem_cons_self
   simp[this]
  ·rfl
theorem sr{kindOf:Str->Option NameKind}{x:Str}:∀{binds:List (Str×Value)} {m:Str->Option Value},(∀v,(x,v)∉binds)->bindC kindOf binds m x=m x
 |[],_,_=>rfl
 |(n,v)::r,m,h=>by
  unfold bindC
  rw[sr λw hw=>h w (List.mem_cons_of_mem _ hw)]
  split
  ·rfl
  ·have:x≠n:=by rintro rfl;exact h v List.mem_cons_self
   simp[this]
theorem su{kindOf:Str->Option NameKind}{x:Str}{v:Value}:∀{P:List Str} {vs:List Value} {i:Nat} {m:Str->Option Value},P.Nodup->P[i]?=some x->vs[i]?=some v->kindOf x=some .local ->
  bindL kindOf (P.zip vs) m x=some v
 |[],_,_,_,_,h,_,_=>by simp at h
 |_::_,[],_,_,_,_,h,_=>by simp at h
 |p::P,w::vs,0,m,nd,h1,h2,hk=>by
  simp at h1 h2;subst h1;subst h2
  show bindL kindOf ((p,w)::P.zip vs) m p=_
  unfold bindL
  rw[sE λv hv=>(List.nodup_cons.mp nd).1 (List.of_mem_zip hv).1,if_pos hk]
  simp
 |p::P,w::vs,i+1,m,nd,h1,h2,hk=>by
  show bindL kindOf ((p,w)::P.zip vs) m x=_
  unfold bindL
  exact su (i:=i) (List.nodup_cons.mp nd).2 (by simpa using h1) (by simpa using h2) hk
theorem rZ{kindOf:Str->Option NameKind}{x:Str}{v:Value}:∀{P:List Str} {vs:List Value} {i:Nat} {m:Str->Option Value},P.Nodup->P[i]?=some x->vs[i]?=some v->kindOf x≠some .local ->
  bindC kindOf (P.zip vs) m x=some v
 |[],_,_,_,_,h,_,_=>by simp at h
 |_::_,[],_,_,_,_,h,_=>by simp at h
 |p::P,w::vs,0,m,nd,h1,h2,hk=>by
  simp at h1 h2;subst h1;subst h2
  show bindC kindOf ((p,w)::P.zip vs) m p=_
  unfold bindC
  rw[sr λv hv=>(List.nodup_cons.mp nd).1 (List.of_mem_zip hv).1,if_neg hk]
  simp
 |p::P,w::vs,i+1,m,nd,h1,h2,hk=>by
  show bindC kindOf ((p,w)::P.zip vs) m x=_
  unfold bindC
  exact rZ (i:=i) (List.nodup_cons.mp nd).2 (by simpa using h1) (by simpa using h2) hk
noncomputable def start(N:List Str)(vs:List V):St:=vs.map some++List.replicate (N.length-vs.length) none
noncomputable def lO(CX:CXT)(P:Program)(w:World)(K:PySem.W.Frag)(mg:Str->Option Value)(base:Heap)(N:List Str)(qual:Str)(scope:Scope)(f:Addr)(cd:Value)(A:Around)(outer:List Env)(s:Shared)(H:Hp)(E:XK):Cx where
 prog:=P
 w:=w
 K:=K
 mg:=mg
 base:=base
 A:=A.deeper (envOfC qual scope s.heap.objs.size f cd)
 N:=N
 s_0:=s
 H_0:=H
 env:=envOfC qual scope s.heap.objs.size f cd
 outer:=outer
 stack:=envOfC qual scope s.heap.objs.size f cd::outer
 ex:=[]
 calm:=true
 fn:=λ_=>true
 pn:=[]
 xe:=λe s'=>wpAny (model P w) (A.deeper (envOfC qual scope s.heap.objs.size f cd)) (leaving (envOfC qual scope s.heap.objs.size f cd) e) (λ_ s''=>CX outer H s E e s'') (λe' s''=>CX outer H s E e' s'') s'
theorem vL{sc:Scope}{n:Nat}{x:Str}(h:sc.names.lookup x=some .cell):∃c,(cellsFrom n sc.names []).lookup x=some c:=by
 have q:=PySem.W.cellsFrom_some sc.names n [] (.inl h)
 exact Option.isSome_iff_exists.mp q
theorem sW{CX:CXT}{P:Program}{w:World}{K:PySem.W.Frag}{mg:Str->Option Value}{base:Heap}{N ps:List Str}{qual:Str}{scope:Scope}{f:Addr}{cd:Value}{A:Around}{outer:List Env}{s s1:Shared}{H:Hp}{E:XK}{us:List Value}{vs:List V}(S:aJ N ps scope)(hd:A.handled=none)(e0:uy P w K mg base A outer s H)(hl:vs.length=ps.length)(r:Vals vs us)(x:InCallC s s.heap.objs.size (bindL (envOfC qual scope s.heap.objs.size f cd).kindOf (ps.zip us) λ_=>none) (cellsFrom (s.heap.objs.size+1) scope.names []) (bindC (envOfC qual scope s.heap.objs.size f cd).kindOf (ps.zip us) λ_=>none) s1) :
  Inv (lO CX P w K mg base N qual scope f cd A outer s H E) [] (start N vs) H s1:=by
 have hpl:ps.length<=N.length:=by have:=congrArg List.length S.pre;rw[List.length_take] at this;omega
 obtain⟨h1,tk,rfl,hk⟩:=x.done
 have noA:∀b:Addr,b∉(lO CX P w K mg base N qual scope f cd A outer s H E).ex:=λb z=>absurd (show b∈([]:List Addr) from z) (by simp)
 refine⟨⟨e0.mod,S.kind,rfl,rfl,Nat.le_refl _,λy z c h1 h2=>?_,λy hy=>?_,λy c _ h=>?_,λ_=>hd,Around.frames_deeper e0.frames,.inr ⟨rfl,rfl⟩,λb z=>absurd z (noA b),e0.bs,e0.bsz,λb _ _=>noA b,λb z=>absurd z (noA b),e0.funs,e0.frf⟩,
  rfl,e0.bare,Un.kept hk,⟨_,x.toInCall.ns,λi y v h1 h2 h3=>?_⟩,λy c h=>⟨_,x.cell y c h⟩,e0.hok.fresh (Nat.le_refl _),λy c h=>?_,λp hp=>absurd (show p∈([]:List (Addr×Obj)) from hp) (by simp),e0.hok.kept hk,?_⟩
 ·exact name_of_addr x.apart (PySem.mem_of_lookup h1) (PySem.mem_of_lookup h2)
 ·have hy:scope.names.lookup y=some .cell∨scope.names.lookup y=some .free:=hy
  rcases hy with hy|hy
  ·exact vL hy
  ·exact absurd rfl (S.nofree _ (PySem.mem_of_lookup hy))
 ·exact Nat.le_of_lt (x.above y c (PySem.mem_of_lookup h))
 ·have hi:i<vs.length:=by
   unfold start at h2
   by_cases hi:i<vs.length
   ·exact hi
   ·rw[List.getElem?_append_right (by simpa using hi)] at h2
    rw[List.getElem?_replicate] at h2
    split at h2<;>cases h2
  have ha:vs[i]?=some v:=by
   unfold start at h2
   rw[List.getElem?_append_left (by simpa using hi),List.getElem?_map] at h2
   cases e:vs[i]? with
   |none=>rw[e] at h2;cases h2
   |some a=>rw[e] at h2;cases h2;rfl
  obtain⟨u,hu,rv⟩:=r.get ha
  have hp:ps[i]?=some y:=by
   rw[←S.pre,List.getElem?_take_of_lt (by omega)];exact h1
  have ndP:ps.Nodup:=by rw[←S.pre];exact S.nd.sublist (List.take_sublist _ _)
  refine⟨u,rv,?_⟩
  rcases S.par y (List.mem_of_getElem? hp) with k|k
  ·exact .inl ⟨k,su ndP hp hu k⟩
  ·obtain⟨c,e⟩:=vL (n:=s.heap.objs.size+1) k
   refine .inr ⟨.inl k,c,e,?_⟩
   have q:=x.cell y c e
   rw[rZ ndP hp hu (by show scope.names.lookup y≠_;rw[k];decide)] at q
   exact q
 ·exact e0.hok.fresh (Nat.le_of_lt (x.above y c (PySem.mem_of_lookup h)))
 ·unfold start
  show _=N.length
  rw[List.length_append,List.length_map,List.length_replicate]
  omega
theorem fn_of{CX:CXT}{P:Program}{w:World}{K:PySem.W.Frag}{mg:Str->Option Value}{base:Heap}{k:Nat}{f:Addr}{name qual:Str}{params:Arguments}{body:List Stmt}{scope:Scope}{dV kV doc pm cdv ct oc:Value}{an od:Option Addr}{osl:Array (Option Value)}{N ps:List Str}{sp:Sp}(lk:K.lookup f=some ⟨oc,od,.func (PySem.W.fnOf name qual params body scope dV kV doc pm an cdv ct),osl⟩)(hcd:PySem.W.codeIn K cdv qual=true)(S:aJ N ps scope)(len:∀vs H Q E,sp vs H Q E->vs.length=ps.length)(hbody:∀(A:Around) (outer:List Env) (s:Shared) (H:Hp) (vs:List V) (Q:VK) (E:XK),bY k (A.deeper (envOfC qual scope s.heap.objs.size f cdv))->sp vs H Q E ->
   ∃t,PSs (lO CX P w K mg base N qual scope f cdv A outer s H E) body t/\t { nx:=λ_ H'=>Q .non H',rt:=Q } (start N vs) H) :
  aF P w K mg base CX (k+1) f (PySem.W.fnOf name qual params body scope dV kV doc pm an cdv ct) ps sp:=by
 refine⟨len,λA outer s H args us vs Q E hr e0 hb r hsp=>?_⟩
 have hl:=len _ _ _ _ hsp
 have KX:K.In s.heap:=e0.mod.kin.keeps λb o e=>(e0.bs b o e).1
 have lim:s.heap.NoLimit:=e0.mod.nolimit.keeps λb o e=>(e0.bs b o e).1
 have hkind:∀y∈ps.zip us,scope.names.lookup y.1=some .local∨(scope.names.lookup y.1=some .cell/\((cellsFrom (s.heap.objs.size+1) scope.names []).lookup y.1).isSome=true):=λ⟨n,v⟩ hy=>by
  rcases S.par n (List.of_mem_zip hy).1 with q|q
  ·exact .inl q
  ·exact .inr ⟨q,PySem.W.cellsFrom_some _ _ _ (.inl q)⟩
 refine codeAny_call_function hr.depth (KX _ _ lk) rfl S.co S.gen rfl (PySem.W.codeRec_of KX hcd) (hb _ _ _ _ ?_)
 refine wpAny_newFunctionEnv_cells S.kind hkind λenv he s1 x=>?_
 subst he
 refine⟨lim.keeps x.toInCall.keep,codeAny_func ?_⟩
 obtain⟨t,ht,hq⟩:=hbody A outer s H vs Q E (hr.deeper _) hsp
 have I:Inv (lO CX P w K mg base N qual scope f cdv A outer s H E) [] (start N vs) H s1:=sW S hr.hd e0 hl r x
 refine wpAny_mono (ht [] s1 (start N vs) H _ I hq) (λfl s' hs=>?_) λe s' hs=>hs
 have fin:∀{σ':St} {H':Hp} {v:V} {u:Value},Inv (lO CX P w K mg base N qual scope f cdv A outer s H E) [] σ' H' s'->RelV v u->Q v H'->CE outer P w H s Q u s' :=
  λ{σ' H' v u} J rv q=>⟨v,H',J.os,J.bare,J.base,J.hok,rv,q⟩
 cases fl with
 |ret u =>
  obtain⟨v,σ',H',J,rv,q⟩:=hs
  exact fin J rv q
 |next =>
  obtain⟨σ',H',J,q⟩:=hs
  exact fin (v:=V.non) (u:=Value.none) J rfl q
 |brk =>
  obtain⟨_,_,_,q⟩:=hs
  exact False.elim q
 |cont =>
  obtain⟨_,_,_,q⟩:=hs
  exact False.elim q
section
variable {X:Cx}{x:Str}{p pos:Pos}{e:Expr}{es:List Expr}{t:TA}{id T:String}{r:List V->Hp->VK->Prop}
def tCB(r:List V->Hp->VK->Prop)(t:TA):TE:=λσ H Q=>t σ H λvs H1=>r vs H1 Q
theorem bJ(hc:j7 X (.builtin id) r)(hg:Gl X x)(hm:X.mg x=none)(hv:bootBuiltins x=some (.builtin id))(ha:PA X (e::es) t)(hn:x≠"__name__":=by decide)(hdb:(x==("__debug__":Str))=false:=by decide)(he:starEach (e::es) X.env=(false,eval e X.env)::starEach es X.env:=by rfl)(hpl:(backTo pos (starEach es X.env)).any (·.1)=false:=by rfl):PE X (.Call (.Name x p) (e::es) [] pos) (tCB r t):=by
 intro pins s σ H Q I h
 refine wpAny_Call_Name_kw (jX I hg hm hv ?_ hn hdb)
 exact PyProof.Rows.callWith_builtin1 (thn (ha pos pins s σ H _ I h) λus s1 ⟨vs,H1,I1,r1,q1⟩=>hc pins s1 σ H1 vs us Q I1 r1 q1) he hpl
theorem lX(hc:j7 X (.type T) r)(hg:Gl X x)(hm:X.mg x=none)(hv:bootBuiltins x=some (.type T))(ha:PA X (e::es) t)(hn:x≠"__name__":=by decide)(hdb:(x==("__debug__":Str))=false:=by decide)(he:starEach (e::es) X.env=(false,eval e X.env)::starEach es X.env:=by rfl)(hpl:(backTo pos (starEach es X.env)).any (·.1)=false:=by rfl):PE X (.Call (.Name x p) (e::es) [] pos) (tCB r t):=by
 intro pins s σ H Q I h
 refine wpAny_Call_Name_kw (jX I hg hm hv ?_ hn hdb)
 exact PyProof.Rows.callWith_type1 (thn (ha pos pins s σ H _ I h) λus s1 ⟨vs,H1,I1,r1,q1⟩=>hc pins s1 σ H1 vs us Q I1 r1 q1) he hpl
end
end L2
namespace HT
open PySem PyProof.Rows
section
variable {prog:Program}{w:World}{A:Around}{E:Value->Shared->Prop}{s:Shared}
theorem Im{t b:Addr}{vs ws:List Value}{Q:Value->Shared->Prop}(ht:IsTup s.heap t vs.toArray)(hb:IsTup s.heap b ws.toArray)(hv:vs≠[])(h1:ws=[]->Q (.ref t) s)(h2:ws≠[]->Q (.ref s.heap.objs.size) { s with heap:=s.heap.push { cls:=.type "tuple",data:=.seq (vs++ws).toArray } })(hsz:vs.length+ws.length<=sizeLine):wpAny (model prog w) A (binaryOp .Add (.ref t) (.ref b)) Q E s:=by
 obtain⟨⟨cls,dd,data,sl⟩,ho,hc,n,hd⟩:=id ht
 obtain⟨⟨cls2,dd2,data2,sl2⟩,ho2,hc2,n2,hd2⟩:=id hb
 simp only at hc hd hc2 hd2
 subst hc hd hc2 hd2
 have e:vs.toArray++ws.toArray=(vs++ws).toArray:=by simp
 by_cases hw:ws=[]
 ·exact concat_meets ⟨_,ho,rfl⟩ ⟨_,ho2,rfl⟩ noFill_tuple_add seq_tuple_add PySem.F.slot_tuple_add PySem.F.entry_tuple_add (PySem.F.args_tuple_add_2 _ _)
   (tuple_addW1 t b vs.toArray ws.toArray n n2 dd dd2 sl sl2 (by simpa using hv) (by simp[hw])) ⟨ho,ho2,h1 hw⟩
 ·refine concat_meets ⟨_,ho,rfl⟩ ⟨_,ho2,rfl⟩ noFill_tuple_add seq_tuple_add PySem.F.slot_tuple_add PySem.F.entry_tuple_add (PySem.F.args_tuple_add_2 _ _)
   (tuple_addW2 t b vs.toArray ws.toArray n n2 dd dd2 sl sl2 (by simpa using hv) (by simpa using hw) (by rw[List.size_toArray,List.size_toArray];exact hsz)) ⟨ho,ho2,?_⟩
  rw[e]
  exact h2 hw
noncomputable def sIx(n d:Nat):Option Int->Nat
 |none=>d
 |some v=>if v<0 then (v+(n:Int)).toNat else min v.toNat n
theorem Ak(n d k:Nat):sIx n d (some (k:Int))=min k n:=by
 show(if (k:Int)<0 then ((k:Int)+(n:Int)).toNat else min (k:Int).toNat n)=min k n
 rw[if_neg (by omega),Int.toNat_natCast]
end
end HT
namespace L2
open PySem PySem.Spec PyProof.Rows
abbrev TO:=St->Hp->(Option Int->Hp->Prop)->Prop
def PO(X:Cx)(e:Option Expr)(t:TO):Prop :=
 ∀(pins:List (Addr×Obj)) (s:Shared) (σ:St) (H:Hp) (Q:Option Int->Hp->Prop),Inv X pins σ H s->t σ H Q ->
  wpAny (model X.prog X.w) X.A (evalPart e X.env) (λu s'=>∃o H',Inv X pins σ H' s'/\IsPart u o/\Q o H') X.xe s
def tPart(t:TE):TO:=λσ H Q=>t σ H λx H1=>∃i,x=.int i/\Q (some i) H1
section
variable {X:Cx}{e:Expr}{te:TE}{lo hi:Option Expr}{tl th:TO}{pos p2:Pos}
theorem oF(h:PE X e te):PO X (some e) (tPart te):=by
 intro pins s σ H Q I hw
 rw[evalPart_some]
 refine thn (h pins s σ H _ I hw) λu s1 hq=>?_
 obtain⟨x,H1,I1,r1,q1⟩:=hq
 obtain⟨i,rfl,q⟩:=q1
 obtain⟨t,rfl⟩:=r1
 exact⟨some i,H1,I1,.int i t,q⟩
def SlR(X:Cx)(r:V->Option Int->Option Int->Hp->VK->Prop):Prop :=
 ∀(pins:List (Addr×Obj)) (s:Shared) (σ:St) (H:Hp) (x:V) (v vl vu:Value) (lo hi:Option Int) (sl:Addr) (Q:VK),Inv X pins σ H s->RelV x v->s.heap.IsSliceOf sl vl vu .none->IsPart vl lo->IsPart vu hi->r x lo hi H Q ->
  ∃T id,typeLookup (.type T) "__getitem__"=pure (some (.builtin id))/\s.TypeIs v T/\wpAny (model X.prog X.w) X.A (getItem v (.ref sl)) (EP X pins σ Q) X.xe s
def tSl(r:V->Option Int->Option Int->Hp->VK->Prop)(te:TE)(tl th:TO):TE:=λσ H Q=>te σ H λx H1=>tl σ H1 λl H2=>th σ H2 λu H3=>r x l u H3 Q
theorem wD{r:V->Option Int->Option Int->Hp->VK->Prop}(hr:SlR X r)(he:PE X e te)(hl:PO X lo tl)(hu:PO X hi th):PE X (.Subscript e (.Slice lo hi none p2) pos) (tSl r te tl th):=by
 intro pins s σ H Q I h
 refine Subscript_ (thn (he pins s σ H _ I h) λv s1 hq=>?_)
 obtain⟨x,H1,I1,r1,q1⟩:=hq
 refine wpAny_Slice (thn (hl pins s1 σ H1 _ I1 q1) λvl s2 ⟨l,H2,I2,pl,q2⟩=>thn (hu pins s2 σ H2 _ I2 q2) λvu s3 hq=>?_)
 obtain⟨u,H3,I3,pu,q3⟩:=hq
 rw[evalPart_none]
 refine wpAny_pure ?_
 have I4:Inv X pins σ H3 { s3 with heap:=s3.heap.push { cls:=.type "slice",data:=.fields #[vl,vu,.none] } }:=I3.kept (t':=s3.toks) λb ob q=>Heap.get?_push_of_some _ q
 obtain⟨T,id,hT,ht,hg⟩:=hr pins { s3 with heap:=s3.heap.push { cls:=.type "slice",data:=.fields #[vl,vu,.none] } } σ H3 x v vl vu l u s3.heap.objs.size Q I4 r1 (Heap.IsSliceOf.new ..) pl pu q3
 show wpAny (model X.prog X.w) X.A (subscriptTail e (.Slice lo hi none p2) v (.ref s3.heap.objs.size)) (EP X pins σ Q) X.xe { s3 with heap:=s3.heap.push { cls:=.type "slice",data:=.fields #[vl,vu,.none] } }
 exact tail_any (ops:=[.ref s3.heap.objs.size,v]) ht hT hg (by with_unfolding_all rfl)
noncomputable def vN(xs:List V)(lo hi:Option Int):List V:=(xs.drop (HT.sIx xs.length 0 lo)).take (HT.sIx xs.length xs.length hi-HT.sIx xs.length 0 lo)
theorem vO(xs:List V)(lo hi:Option Int):(vN xs lo hi).length<=xs.length:=by
 unfold vN
 rw[List.length_take,List.length_drop]
 omega
def rCatT(K:PySem.W.Frag):R2:=λx y H Q=>∃a b xs ys,x=.ref a/\y=.ref b/\SqT K H a xs/\SqT K H b ys/\xs≠[]/\xs.length+ys.length<=sizeLine /\
 (ys=[]->Q (.ref a) H)/\(ys≠[]->∀p,H p=none->Q (.ref p) (upd H p (.tup (xs++ys))))
theorem Vals.nil_iff{xs:List V}{us:List Value}(r:Vals xs us):us=[]↔xs=[]:=by
 cases r with
 |nil=>simp
 |cons _ _=>simp
theorem Jq:OpR X (binaryOp .Add) (rCatT X.K):=by
 intro pins s σ H x y v u Q I rx ry h
 obtain⟨a,b,xs,ys,rfl,rfl,ha,hb,hx,hz,q1,q2⟩:=h
 cases rx
 cases ry
 obtain⟨its,r1,p1,_⟩:=I.tuple ha
 obtain⟨its2,r2,p2,_⟩:=I.tuple hb
 refine HT.Im p1 p2 (λz=>hx (r1.nil_iff.mp z)) (λz=>⟨.ref a,H,I,rfl,q1 (r2.nil_iff.mp z)⟩) (λz=>?_) (by rw[←r1.length,←r2.length];exact hz)
 refine⟨.ref s.heap.objs.size,_,I.laid (t':=s.toks) (o:=.tup (xs++ys)) (λb ob q=>Heap.get?_push_of_some _ q) (Nat.le_refl _) ?_,rfl,q2 (λw=>z (r2.nil_iff.mpr w)) _ (I.hok.fresh (Nat.le_refl _))⟩
 exact⟨by rw[List.length_append];exact hz,_,r1.append r2,IsTup.new _ _⟩
end
noncomputable def ixN(n:Nat)(i:Int):Option Nat:=if 0<=i then (if i<n then some i.toNat else none) else if -(n:Int)<=i then some (i+n).toNat else none
noncomputable def atI{α:Type}(xs:List α)(i:Int):Option α:=(ixN xs.length i).bind λj=>xs[j]?
theorem zU{n:Nat}{i:Int}{j:Nat}(h:ixN n i=some j):seqIndex? i n=some j/\j<n/\-(n:Int)<=i/\i<n:=by
 unfold ixN at h
 by_cases h0:0<=i
 ·rw[if_pos h0] at h
  by_cases h1:i<n
  ·rw[if_pos h1] at h
   have e:i.toNat=j:=Option.some.inj h
   exact⟨by rw[seqIndex_of h0 h1,e],by omega,by omega,h1⟩
  ·rw[if_neg h1] at h;cases h
 ·rw[if_neg h0] at h
  by_cases h1:-(n:Int)<=i
  ·rw[if_pos h1] at h
   have e:(i+n).toNat=j:=Option.some.inj h
   exact⟨by rw[seqIndex_neg (by omega) h1,e],by omega,h1,by omega⟩
  ·rw[if_neg h1] at h;cases h
theorem uB{α:Type}{xs:List α}{i:Int}{v:α}(h:atI xs i=some v):∃j,seqIndex? i xs.length=some j/\xs[j]?=some v/\j<xs.length/\-(xs.length:Int)<=i/\i<xs.length:=by
 unfold atI at h
 cases e:ixN xs.length i with
 |none=>rw[e] at h;cases h
 |some j =>
  rw[e] at h
  obtain⟨h1,h2,h3,h4⟩:=zU e
  exact⟨j,h1,h,h2,h3,h4⟩
theorem bw{α:Type}{xs:List α}{j:Nat}{v:α}(h:xs[j]?=some v):atI xs (j:Int)=some v:=by
 have hj:j<xs.length:=(List.getElem?_eq_some_iff.mp h).1
 have e:ixN xs.length (j:Int)=some j:=by
  unfold ixN
  rw[if_pos (by omega),if_pos (by omega)];simp
 unfold atI;rw[e];exact h
theorem vJ{α:Type}(xs:List α)(v:α):atI (xs++[v]) (-1)=some v:=by
 have hl:(xs++[v]).length=xs.length+1:=by simp
 have e:ixN (xs++[v]).length (-1)=some xs.length:=by
  unfold ixN
  rw[hl,if_neg (by decide),if_pos (by omega)]
  congr 1
  omega
 unfold atI
 rw[e]
 show(xs++[v])[xs.length]?=some v
 simp
def Ie(b:Expr):Prop:=∀o i,subscripted b false o i=operate [o,i] (getItem o i)
def IxR(X:Cx)(r:R2):Prop :=
 ∀(value slice:Expr) (pins:List (Addr×Obj)) (s:Shared) (σ:St) (H:Hp) (x y:V) (v u:Value) (Q:VK),Inv X pins σ H s->RelV x v->RelV y u->r x y H Q ->
  subscripted slice false v u=operate [v,u] (getItem v u)->wpAny (model X.prog X.w) X.A (subscriptTail value slice v u) (EP X pins σ Q) X.xe s
def MtR(X:Cx)(id:String)(r:V->List V->Hp->VK->Prop):Prop :=
 ∀(pins:List (Addr×Obj)) (s:Shared) (σ:St) (H:Hp) (x:V) (xs:List V) (v:Value) (us:List Value) (Q:VK),Inv X pins σ H s->RelV x v->Vals xs us->r x xs H Q ->
  wpAny (model X.prog X.w) X.A (call (.builtin id) (v::us)) (EP X pins σ Q) X.xe s
section
variable {X:Cx}{a b:Expr}{ta tb:TE}{pos:Pos}
theorem cz{r:R2}(hr:IxR X r)(ha:PE X a ta)(hb:PE X b tb)(hs:Ie b):PE X (.Subscript a b pos) (tOp r ta tb):=by
 intro pins s σ H Q I h
 exact Subscript_ (binT ha hb I h λv u s2 x y H2 I2 rx ry q=>hr a b pins s2 σ H2 x y v u Q I2 rx ry q (hs _ _))
def rIxL(K:PySem.W.Frag):R2:=λx y H Q=>∃p xs i v,x=.ref p/\y=.int i/\SqL K H p xs/\atI xs i=some v/\Q v H
def rIxT(K:PySem.W.Frag):R2:=λx y H Q=>∃p xs i v,x=.ref p/\y=.int i/\SqT K H p xs/\atI xs i=some v/\Q v H
def rIxS:R2:=λx y H Q=>∃z i c,x=.str z/\y=.int i/\z.length<=sizeLine/\atI z.cps.toList i=some c/\Q (.str ⟨#[c]⟩) H
theorem dg:IxR X (rIxL X.K):=by
 intro value slice pins s σ H x y v u Q I rx ry h hs
 obtain⟨p,xs,i,z,rfl,rfl,hq,he,q⟩:=h
 cases rx
 obtain⟨t,rfl⟩:=ry
 obtain⟨its,r,pl,hz⟩:=I.list hq
 obtain⟨j,h1,h2,h3,h4,h5⟩:=uB he
 obtain⟨w,ew,rw'⟩:=r.get h2
 have hl:=r.length
 have hn:=pN
 have fin:EP X pins σ Q w s:=⟨z,H,I,rw',q⟩
 by_cases h0:0<=i
 ·have hj:i.toNat=j:=by
   rw[seqIndex_of h0 h5] at h1
   exact Option.some.inj h1
  exact item_listR pl.isList h0 (by omega) (by rw[hj];simpa using ew) fin hs
 ·have hj:(i+(its.toArray.size:Int)).toNat=j:=by
   rw[seqIndex_neg (by omega) h4] at h1
   rw[List.size_toArray,←hl]
   exact Option.some.inj h1
  exact subscriptTail_builtinR (x:=w) pl.isList.typeIs slot_list_getitem.lookup
   (wpAny_getItem_list_neg (Q:=λr s'=>r=w/\EP X pins σ Q r s') pl.isList (by omega) (by rw[List.size_toArray]<;>omega) (by omega) (by rw[hj];simpa using ew) ⟨rfl,fin⟩) hs
theorem cU:IxR X (rIxT X.K):=by
 intro value slice pins s σ H x y v u Q I rx ry h hs
 obtain⟨p,xs,i,z,rfl,rfl,hq,he,q⟩:=h
 cases rx
 obtain⟨t,rfl⟩:=ry
 obtain⟨its,r,pl,hz⟩:=I.tuple hq
 obtain⟨j,h1,h2,h3,h4,h5⟩:=uB he
 obtain⟨w,ew,rw'⟩:=r.get h2
 have hl:=r.length
 have hn:=pN
 have fin:EP X pins σ Q w s:=⟨z,H,I,rw',q⟩
 exact subscriptTail_builtinR (x:=w) pl.typeIs slot_tuple_getitem.lookup
  (getItem_tuple (j:=j) (Q:=λr s'=>r=w/\EP X pins σ Q r s') pl (by omega) (by omega) (by rw[List.size_toArray,←hl];exact h1) (by simpa using ew) ⟨rfl,fin⟩) hs
theorem ix_str:IxR X rIxS:=by
 intro value slice pins s σ H x y v u Q I rx ry h hs
 obtain⟨z,i,c,rfl,rfl,hz,he,q⟩:=h
 obtain⟨t,rfl⟩:=rx
 obtain⟨t',rfl⟩:=ry
 obtain⟨j,h1,h2,h3,h4,h5⟩:=uB he
 have hl:z.cps.toList.length=z.length:=by simp[Str.length]
 rw[hl] at h1 h4 h5
 have hn:=pN
 exact tail_any (typeIs_str s z t) slot_str_getitem.lookup (getItem_str (c:=c) (by
  have e1:decide (i < -(2 ^ 63:Int))=false:=decide_eq_false (by omega)
  have e2:decide (i ≥ 2 ^ 63)=false:=decide_eq_false (by omega)
  rw[e1,e2,Bool.or_false]) (by rw[h1];simpa using h2) ⟨.str ⟨#[c]⟩,H,I.tok _,⟨_,rfl⟩,q⟩) hs
theorem yl(its:List Value)(n j:Nat)(u:Value):Obj.mapSeq (·.setIfInBounds j u) { cls:=.type "list",data:=.seq its.toArray n }={ cls:=.type "list",data:=.seq (its.set j u).toArray n }:=by
 simp[Obj.mapSeq]
theorem Inv.lst{pins:List (Addr×Obj)}{σ:St}{H:Hp}{s:Shared}{p:Addr}{xs:List V}(I:Inv X pins σ H s)(h:H p=some (.lst xs)) :
  ∃(its:List Value) (n:Nat),Vals xs its/\s.heap.get? p=some { cls:=.type "list",data:=.seq its.toArray n }/\xs.length<=sizeLine:=by
 obtain⟨z,its,n,r,e⟩:=I.hok p _ h
 exact⟨its,n,r,e,z⟩
theorem Inv.lstUpd{pins:List (Addr×Obj)}{σ:St}{H:Hp}{s:Shared}{p:Addr}{xs ys:List V}{its its':List Value}{n n':Nat}{f:Obj->Obj}(I:Inv X pins σ H s)(h:H p=some (.lst xs))(ho:s.heap.get? p=some { cls:=.type "list",data:=.seq its.toArray n })(hf:f { cls:=.type "list",data:=.seq its.toArray n }={ cls:=.type "list",data:=.seq its'.toArray n' })(r:Vals ys its')(hz:ys.length<=sizeLine)(t:Nat) :
  Inv X pins σ (upd H p (.lst ys)) { s with heap:=s.heap.update p f,toks:=t }:=by
 have e:(s.heap.update p f).get? p=some { cls:=.type "list",data:=.seq its'.toArray n' }:=by
  rw[Heap.get?_update_self f ho (by rw[hf]<;>rfl),hf]
 refine I.write (x:=p) (e:=p) (by rw[h];trivial) (.inl rfl) (λb u hb q=>(Heap.get?_update_other _ _ (Ne.symm hb)).trans q) ⟨_,e⟩ ?_
 exact⟨hz,its',n',r,e⟩
def rSetL:V->V->V->Hp->(Hp->Prop)->Prop:=λo i v H Q=>∃p xs k j,o=.ref p/\i=.int k/\H p=some (.lst xs)/\ixN xs.length k=some j/\Q (upd H p (.lst (xs.set j v)))
theorem set_list:PSet X rSetL:=by
 intro pins s σ H o i v ov iv u Q I ro ri rv h
 obtain⟨p,xs,k,j,rfl,rfl,hp,hj,q⟩:=h
 cases ro
 obtain⟨t,rfl⟩:=ri
 obtain⟨its,n,r,ho,hz⟩:=I.lst hp
 obtain⟨h1,h2,h3,h4⟩:=zU hj
 have hl:=r.length
 have hn:=pN
 have I':Inv X pins σ (upd H p (.lst (xs.set j v))) { s with heap:=s.heap.update p (Obj.mapSeq (·.setIfInBounds j u)) } :=
  I.lstUpd hp ho (yl its n j u) (r.set rv j) (by rw[List.length_set];exact hz) s.toks
 by_cases h0:0<=k
 ·have hk:k.toNat=j:=by
   rw[seqIndex_of h0 h4] at h1
   exact Option.some.inj h1
  exact PySem.W.ki_setAt ho h0 (by omega) (by rw[List.size_toArray,←hl];exact h4) (by rw[hk];exact⟨_,I',q⟩)
 ·have hk:(k+(its.toArray.size:Int)).toNat=j:=by
   rw[seqIndex_neg (by omega) h3] at h1
   rw[List.size_toArray,←hl]
   exact Option.some.inj h1
  exact PySem.W.ki_setBack ho (by omega) (by rw[List.size_toArray,←hl];exact h3) (by omega) (by rw[hk];exact⟨_,I',q⟩)
theorem vA(lo hi:Option Int)(n:Nat):(sliceBounds lo hi none n).1=((HT.sIx n 0 lo:Nat):Int)/\(sliceBounds lo hi none n).2.1=((HT.sIx n n hi:Nat):Int)/\(sliceBounds lo hi none n).2.2=1:=by
 refine⟨?_,?_,rfl⟩
 ·cases lo with
  |none=>simp[sliceBounds,HT.sIx]
  |some i =>
   simp only[sliceBounds,HT.sIx,Option.getD_none,show(1:Int) > 0 by decide,if_true]
   by_cases h:i<0
   ·simp only[h,if_true]<;>omega
   ·simp only[h,if_false]<;>omega
 ·cases hi with
  |none=>simp[sliceBounds,HT.sIx]
  |some i =>
   simp only[sliceBounds,HT.sIx,Option.getD_none,show(1:Int) > 0 by decide,if_true]
   by_cases h:i<0
   ·simp only[h,if_true]<;>omega
   ·simp only[h,if_false]<;>omega
theorem rP(its:List Value)(lo hi:Option Int):slicePick its.toArray lo hi none=((its.drop (HT.sIx its.length 0 lo)).take (HT.sIx its.length its.length hi-HT.sIx its.length 0 lo)).toArray:=by
 obtain⟨h1,h2,h3⟩:=vA lo hi its.toArray.size
 unfold slicePick
 rw[h1,h2,h3]
 simp only[sliceRange_one,pick_run,List.size_toArray]<;>rfl
def rSlL(K:PySem.W.Frag):V->Option Int->Option Int->Hp->VK->Prop:=λx lo hi H Q=>∃a xs,x=.ref a/\SqL K H a xs/\∀p,H p=none->Q (.ref p) (upd H p (.lst (vN xs lo hi)))
theorem Aq:SlR X (rSlL X.K):=by
 intro pins s σ H x v vl vu lo hi sl Q I rx hs pl pu h
 obtain⟨a,xs,rfl,hx,q⟩:=h
 cases rx
 obtain⟨its,r,ht,hz⟩:=I.list hx
 have hlen:=r.length
 refine⟨"list",_,slot_list_getitem.lookup,ht.isList.typeIs,?_⟩
 refine wpAny_getItem_list_slice ht.isList hs pl pu .none (by simp) ?_ (by rw[List.size_toArray]<;>omega)
 rw[rP,←hlen]
 refine⟨.ref s.heap.objs.size,_,I.laid (t':=s.toks) (o:=.lst (vN xs lo hi)) (λb ob q=>Heap.get?_push_of_some _ q) (Nat.le_refl _) ?_,rfl,q _ (I.hok.fresh (Nat.le_refl _))⟩
 exact⟨Nat.le_trans (vO xs lo hi) hz,_,0,(r.drop (HT.sIx xs.length 0 lo)).take (HT.sIx xs.length xs.length hi-HT.sIx xs.length 0 lo),Heap.get?_push_size _ rfl⟩
noncomputable def m9:V->Bool
 |.non=>true
 |.bl _=>true
 |.int _=>true
 |.str _=>true
 |_=>false
noncomputable def eqV:V->V->Bool
 |.non,.non=>true
 |.bl a,.bl b=>a==b
 |.bl a,.int b=>(if a then 1 else 0)==b
 |.int a,.bl b=>a==(if b then 1 else 0)
 |.int a,.int b=>a==b
 |.str a,.str b=>a==b
 |_,_=>false
theorem eqAt_V{A:Around}{s:Shared}{y x:V}{u v:Value}(ry:RelV y u)(rx:RelV x v)(fy:m9 y=true)(fx:m9 x=true):SeqAt.EqAt A s u v (eqV y x):=by
 cases y with
 |non =>
  cases ry
  cases x with
  |non=>cases rx;exact SeqAt.EqAt.same _
  |bl b=>cases rx;exact SeqAt.EqAt.none_bool b
  |int b=>obtain⟨t,rfl⟩:=rx;exact SeqAt.EqAt.none_int b t
  |str b=>obtain⟨t,rfl⟩:=rx;exact SeqAt.EqAt.none_str b t
  |_=>exact absurd (show false=true from fx) Bool.false_ne_true
 |bl a =>
  cases ry
  cases x with
  |non=>cases rx;exact SeqAt.EqAt.bool_none a
  |bl b=>cases rx;exact SeqAt.EqAt.bool_bool a b
  |int b=>obtain⟨t,rfl⟩:=rx;exact SeqAt.EqAt.bool_int a b t
  |str b=>obtain⟨t,rfl⟩:=rx;exact SeqAt.EqAt.bool_str a b t
  |_=>exact absurd (show false=true from fx) Bool.false_ne_true
 |int a =>
  obtain⟨t',rfl⟩:=ry
  cases x with
  |non=>cases rx;exact SeqAt.EqAt.int_none a t'
  |bl b=>cases rx;exact SeqAt.EqAt.int_bool a t' b
  |int b=>obtain⟨t,rfl⟩:=rx;exact SeqAt.EqAt.int_int a t' b t
  |str b=>obtain⟨t,rfl⟩:=rx;exact SeqAt.EqAt.int_str a t' b t
  |_=>exact absurd (show false=true from fx) Bool.false_ne_true
 |str a =>
  obtain⟨t',rfl⟩:=ry
  cases x with
  |non=>cases rx;exact SeqAt.EqAt.str_none a t'
  |bl b=>cases rx;exact SeqAt.EqAt.str_bool a t' b
  |int b=>obtain⟨t,rfl⟩:=rx;exact SeqAt.EqAt.str_int a t' b t
  |str b=>obtain⟨t,rfl⟩:=rx;exact SeqAt.EqAt.str_str a t' b t
  |_=>exact absurd (show false=true from fx) Bool.false_ne_true
 |_=>exact absurd (show false=true from fy) Bool.false_ne_true
noncomputable def eqU(x:V)(u:Value):Bool:=match u with
 |.none=>eqV .non x
 |.bool b=>eqV (.bl b) x
 |.int i _=>eqV (.int i) x
 |.str z _=>eqV (.str z) x
 |_=>false
theorem Er{x y:V}{u:Value}(r:RelV y u)(f:m9 y=true):eqU x u=eqV y x:=by
 cases y with
 |non=>cases r;rfl
 |bl b=>cases r;rfl
 |int i=>obtain⟨t,rfl⟩:=r;rfl
 |str z=>obtain⟨t,rfl⟩:=r;rfl
 |_=>exact absurd (show false=true from f) Bool.false_ne_true
theorem uA{x:V}:∀{xs:List V} {us:List Value},Vals xs us->xs.all m9=true->us.any (eqU x)=xs.any λy=>eqV y x
 |_,_,.nil,_=>rfl
 |y::xs,u::us,.cons r t,f=>by
  rw[List.all_cons,Bool.and_eq_true] at f
  rw[List.any_cons,List.any_cons,Er r f.1,uA t f.2]
theorem pU{A:Around}{s:Shared}{x:V}{v:Value}(rx:RelV x v)(fx:m9 x=true):∀{xs:List V} {us:List Value},Vals xs us->xs.all m9=true->∀u∈us,SeqAt.EqAt A s u v (eqU x u)
 |_,_,.nil,_=>λu hu=>by cases hu
 |y::xs,u::us,.cons r t,f=>λu' hu=>by
  rw[List.all_cons,Bool.and_eq_true] at f
  rcases List.mem_cons.mp hu with rfl|hu
  ·rw[Er r f.1];exact eqAt_V r rx f.1 fx
  ·exact pU rx fx t f.2 u' hu
noncomputable def inV(x:V)(xs:List V):Bool:=xs.any λy=>eqV y x
def rIn(K:PySem.W.Frag)(neg:Bool):R2:=λx y H Q=>∃p xs,y=.ref p/\(SqL K H p xs∨SqT K H p xs)/\m9 x=true/\xs.all m9=true/\Q (.bl (if neg then !inV x xs else inV x xs)) H
theorem CV:OpR X (compareOp .In) (rIn X.K false):=by
 intro pins s σ H x y v u Q I rx ry h
 obtain⟨p,xs,rfl,hq,fx,fs,q⟩:=h
 cases ry
 rcases hq with hq|hq
 ·obtain⟨its,r,pl,hz⟩:=I.list hq
  refine SeqAt.in_listAt (eqU x) pl.isList (λw hw=>pU rx fx r fs w (by simpa using hw)) ⟨.bl _,H,I,rfl,?_⟩
  rw[show its.toArray.any (eqU x)=its.any (eqU x) by simp,uA r fs]
  exact q
 ·obtain⟨its,r,pl,hz⟩:=I.tuple hq
  refine SeqAt.in_tupleAt (eqU x) pl (λw hw=>pU rx fx r fs w (by simpa using hw)) ⟨.bl _,H,I,rfl,?_⟩
  rw[show its.toArray.any (eqU x)=its.any (eqU x) by simp,uA r fs]
  exact q
theorem bz:j7 X (.builtin "len") (λxs H Q=>∃p ys,xs=[.ref p]/\(SqL X.K H p ys∨SqT X.K H p ys)/\Q (.int ys.length) H):=by
 intro pins s σ H xs us Q I r h
 obtain⟨p,ys,rfl,hq,q⟩:=h
 obtain⟨u,rfl,rx⟩:=vals1 r
 cases rx
 have hn:=pN
 rcases hq with hq|hq
 ·obtain⟨its,r',pl,hz⟩:=I.list hq
  have hlen:=r'.length
  exact Calls.call_len_list pl.isList (by simp only[List.size_toArray]<;>omega) ⟨.int ys.length,H,I.tok _,⟨s.toks+1,by rw[List.size_toArray,hlen]⟩,q⟩
 ·obtain⟨its,r',pl,hz⟩:=I.tuple hq
  have hlen:=r'.length
  exact len_tuple pl (by simp only[List.size_toArray]<;>omega) ⟨.int ys.length,H,I.tok _,⟨s.toks+1,by rw[List.size_toArray,hlen]⟩,q⟩
theorem jO:j7 X (.type "tuple") (λxs H Q=>∃p ys,xs=[.ref p]/\((SqL X.K H p ys/\∀l,H l=none->Q (.ref l) (upd H l (.tup ys)))∨(SqT X.K H p ys/\Q (.ref p) H))):=by
 intro pins s σ H xs us Q I r h
 obtain⟨p,ys,rfl,h⟩:=h
 obtain⟨u,rfl,rx⟩:=vals1 r
 cases rx
 rcases h with ⟨hq,q⟩|⟨hq,q⟩
 ·obtain⟨its,r',pl,hz⟩:=I.list hq
  have hlen:=r'.length
  refine call_tuple_list pl.isList (λh' kp=>?_) (by simp only[List.size_toArray]<;>omega)
  have I1:Inv X pins σ H { s with heap:=h' }:=I.kept (t':=s.toks) kp
  have I2:Inv X pins σ (upd H h'.objs.size (.tup ys)) { s with heap:=h'.push { cls:=.type "tuple",data:=.seq its.toArray } } :=
   I1.laid (t':=s.toks) (λb o e=>Heap.get?_push_of_some _ e) (Nat.le_refl _) (show cW X.prog X.w _ _ _ (.tup ys) from⟨hz,its,r',IsTup.new _ _⟩)
  exact⟨.ref h'.objs.size,_,I2,rfl,q _ (I1.hok.fresh (Nat.le_refl _))⟩
 ·obtain⟨its,r',pl,hz⟩:=I.tuple hq
  exact call_tuple_same pl ⟨.ref p,H,I,rfl,q⟩
def tyV(K:PySem.W.Frag)(T:String)(x:V)(H:Hp):Prop:=match x with
 |.str _=>T="str"
 |.int _=>T="int"
 |.ref p=>(T="list"/\∃xs,SqL K H p xs)∨(T="tuple"/\∃o,K.lookup p=some o/\o.cls=.type "tuple"/\o.dict=none) ∨
   (T="dict"/\((∃kvs,H p=some (.dK kvs))∨∃kvs,H p=some (.dT kvs)))∨(T="set"/\∃S n,H p=some (.set S n))
 |_=>False
theorem tyV_is{pins:List (Addr×Obj)}{σ:St}{H:Hp}{s:Shared}{T:String}{x:V}{v:Value}(I:Inv X pins σ H s)(r:RelV x v)(ty:tyV X.K T x H) :
  s.TypeIs v T/\∀a,v=.ref a->∃ob,s.heap.get? a=some ob/\ob.dict=none:=by
 cases x with
 |str z =>
  obtain⟨t,rfl⟩:=r
  cases (show T="str" from ty)
  exact⟨typeIs_str s z t,λ_ e=>nomatch e⟩
 |int i =>
  obtain⟨t,rfl⟩:=r
  cases (show T="int" from ty)
  exact⟨typeIs_int s i t,λ_ e=>nomatch e⟩
 |ref p =>
  cases r
  rcases ty with ⟨rfl,xs,hq⟩|⟨rfl,o,hk,hc,hd⟩|⟨rfl,hk⟩|⟨rfl,S,n,hk⟩
  ·obtain⟨its,_,pl,_⟩:=I.list hq
   refine⟨pl.isList.typeIs,λa e=>?_⟩
   cases e
   obtain⟨o,n,e,c,hd,_⟩:=pl
   exact⟨o,e,hd⟩
  ·refine⟨⟨o,I.kIn p o hk,hc⟩,λa e=>?_⟩
   cases e
   exact⟨o,I.kIn _ o hk,hd⟩
  ·have z:∃o,s.heap.get? p=some o/\o.ExactDict:=by
    rcases hk with ⟨kvs,hk⟩|⟨kvs,hk⟩
    ·obtain⟨_,_,_,_,o,_,_,e,ex,_⟩:=I.hok p _ hk
     exact⟨o,e,ex⟩
    ·obtain⟨_,_,_,_,o,_,_,e,ex,_⟩:=I.hok p _ hk
     exact⟨o,e,ex⟩
   obtain⟨o,e,ex⟩:=z
   refine⟨⟨o,e,ex.1⟩,λa e2=>?_⟩
   cases e2
   exact⟨o,e,ex.2.1⟩
  ·obtain⟨o,_,_,_,e,ex,_⟩:=I.hok p _ hk
   refine⟨⟨o,e,ex.1⟩,λa e2=>?_⟩
   cases e2
   exact⟨o,e,ex.2.1⟩
 |_=>exact False.elim ty
def tBM(K:PySem.W.Frag)(T:String)(r:V->List V->Hp->VK->Prop)(to:TE)(t:TA):TE:=λσ H Q=>to σ H λx H1=>tyV K T x H1/\t σ H1 λxs H2=>r x xs H2 Q
variable {o e:Expr}{es:List Expr}{to:TE}{t:TA}{name:Str}{apos cpos:Pos}{T id:String}{r:V->List V->Hp->VK->Prop}
theorem f9(pa:PlainAttrs T)(slot:Slot T name id)(hty:typeOf (.builtin id)=pure (.type "method_descriptor"))(hm:MtR X id r)(ho:PE X o to)(ha:PA X (e::es) t)(hbase:attributeBase o name X.env (eval o X.env)=eval o X.env:=by rfl)(hfew:((backTo cpos (starEach (e::es) X.env)).all (λx=>!x.1)&&(backToKw cpos (keywordEach [] X.env)).all (λx=>x.1.isSome)
   && decide ((e::es).length+([]:List Keyword).length+(if ([]:List Keyword).isEmpty then 0 else 1)<30))=true:=by rfl)(hline:(apos.endLine==cpos.line)=true:=by rfl)(hs:starEach (e::es) X.env=(false,eval e X.env)::starEach es X.env:=by rfl)(hplain:(backTo cpos (starEach es X.env)).any (·.1)=false:=by rfl) :
  PE X (.Call (.Attribute o name apos) (e::es) [] cpos) (tBM X.K T r to t):=by
 intro pins s σ H Q I h
 refine wpAny_Call_method_late hbase hfew hline rfl (thn (ho pins s σ H _ I h) λv s1 hq=>?_)
 obtain⟨x,H1,I1,r1,ty,q1⟩:=hq
 obtain⟨h1,h2⟩:=tyV_is I1 r1 ty
 refine⟨T,id,pa,slot,hty,h1,h2,?_⟩
 have hA:=ha cpos pins s1 σ H1 _ I1 q1
 rw[hs] at hA ⊢
 refine Calls.callWith_builtin (by show(false || (backTo cpos (starEach es X.env)).any (·.1))=false;rw[hplain]<;>rfl) (Calls.evalArgs_plain ?_)
 exact thn hA λus s2 ⟨vs,H2,I2,r2,q2⟩=>hm pins s2 σ H2 x vs v us Q I2 r1 r2 q2
end
def MtM(X:Cx)(id:String)(r:V->List V->Hp->VK->Prop):Prop :=
 ∀(pins:List (Addr×Obj)) (s:Shared) (σ:St) (H:Hp) (x:V) (xs:List V) (v:Value) (us:List Value) (Q:VK),Inv X pins σ H s->RelV x v->Vals xs us->r x xs H Q ->
  wpAny (model X.prog X.w) X.A (call (.builtin id) (v::us)) (EP X pins σ Q) X.xe s
theorem Vals.one:∀{x:V} {us:List Value},Vals [x] us->∃u,us=[u]/\RelV x u
 |_,_,.cons r .nil=>⟨_,rfl,r⟩
theorem Vals.eraseIdx:∀{xs:List V} {us:List Value} (i:Nat),Vals xs us->Vals (xs.eraseIdx i) (us.eraseIdx i)
 |_,_,_,.nil=>.nil
 |_,_,0,.cons _ t=>t
 |_,_,i+1,.cons r t=>.cons r (Vals.eraseIdx i t)
theorem Vals.rep{xs:List V}{us:List Value}(h:Vals xs us):∀k:Nat,Vals (List.replicate k xs).flatten (List.replicate k us).flatten
 |0=>.nil
 |k+1=>by
  rw[List.replicate_succ,List.replicate_succ,List.flatten_cons,List.flatten_cons]
  exact Vals.append h (Vals.rep h k)
theorem tu{α:Type}:∀(l:List α) (i:Nat),(l.eraseIdx i).length<=l.length
 |[],_=>Nat.le_refl _
 |_::_,0=>Nat.le_succ _
 |_::r,i+1=>Nat.succ_le_succ (tu r i)
theorem foldl_rep(its:List Value):∀(k:Nat) (acc:List Value),
  List.foldl (λx1 x2=>x1++x2) acc.toArray (List.replicate k its.toArray)=(acc++(List.replicate k its).flatten).toArray
 |0,acc=>by simp
 |k+1,acc=>by
  have e:acc.toArray++its.toArray=(acc++its).toArray:=by simp
  have e2:(acc++its)++(List.replicate k its).flatten=acc++(List.replicate (k+1) its).flatten:=by
   rw[List.replicate_succ,List.flatten_cons,List.append_assoc]
  rw[←e2,←foldl_rep its k (acc++its),←e,List.replicate_succ,List.foldl_cons]
section
variable {X:Cx}{pins:List (Addr×Obj)}{σ:St}{H:Hp}{s:Shared}{l b:Addr}{xs ys zs:List V}
theorem Inv.lset{its its':List Value}{n:Nat}{f:Array Value->Array Value}{t':Nat}(I:Inv X pins σ H s)(hH:H l=some (.lst xs))(e:s.heap.get? l=some { cls:=.type "list",data:=.seq its.toArray n })(hf:f its.toArray=its'.toArray)(hv:Vals ys its')(hz:ys.length<=sizeLine) :
  Inv X pins σ (upd H l (.lst ys)) { s with heap:=s.heap.update l (Obj.mapSeq f),toks:=t' }:=by
 have q:=PySem.IsL.update e f
 rw[hf] at q
 refine I.write (x:=l) (e:=l) (by rw[hH];exact trivial) (.inl rfl) (λb' u hb hu=>(Heap.get?_update_other s.heap (Obj.mapSeq f) (Ne.symm hb)).trans hu) ⟨_,q⟩ ?_
 exact⟨hz,its',_,hv,q⟩
theorem Inv.lnew{its:List Value}{t':Nat}(I:Inv X pins σ H s)(hv:Vals ys its)(hz:ys.length<=sizeLine) :
  Inv X pins σ (upd H s.heap.objs.size (.lst ys)) { s with heap:=s.heap.push { cls:=.type "list",data:=.seq its.toArray },toks:=t' } :=
 I.laid (λ_ _ q=>Heap.get?_push_of_some _ q) (Nat.le_refl _) ⟨hz,its,0,hv,Heap.get?_push_size _ rfl⟩
theorem Inv.fresh(I:Inv X pins σ H s):H s.heap.objs.size=none:=I.hok.fresh (Nat.le_refl _)
theorem Inv.lstM(I:Inv X pins σ H s)(hH:H l=some (.lst xs)):xs.length<=sizeLine/\∃(its:List Value) (n:Nat),Vals xs its/\xs.length=its.length/\s.heap.get? l=some { cls:=.type "list",data:=.seq its.toArray n }:=by
 obtain⟨z,its,n,r,e⟩:=I.hok l _ hH
 exact⟨z,its,n,r,r.length,e⟩
theorem pX{n:Nat}(h:n<=sizeLine):Builtin.List.listTooLong n=false:=by
 unfold Builtin.List.listTooLong
 exact decide_eq_false (by omega)
end
section
variable {X:Cx}
def JF:V->List V->Hp->VK->Prop:=λx vs H Q=>∃l xs y,x=.ref l/\vs=[y]/\H l=some (.lst xs)/\xs.length<sizeLine/\Q .non (upd H l (.lst (xs++[y])))
theorem gn:MtM X "list.append" JF:=by
 intro pins s σ H x vs v us Q I rx rv h
 obtain⟨l,xs,y,rfl,rfl,hH,hz,q⟩:=h
 cases rx
 obtain⟨u,rfl,ru⟩:=rv.one
 obtain⟨z,its,n,r,hl,e⟩:=I.lstM hH
 refine call_meets F.slot_list_append ⟨_,e,rfl⟩ F.entry_list_append (F.args_list_append_2 _ _) (PySem.list_append l its.toArray n u (by rw[List.size_toArray];omega)) ⟨e,?_⟩
 refine⟨.non,_,I.lset (its':=its++[u]) hH e (by simp) (r.append (.cons ru .nil)) ?_,rfl,q⟩
 rw[List.length_append,List.length_singleton]
 omega
def JG:V->List V->Hp->VK->Prop:=λx vs H Q=>∃l b xs zs,x=.ref l/\vs=[.ref b]/\H l=some (.lst xs)/\H b=some (.lst zs)/\xs.length+zs.length<=sizeLine/\Q .non (upd H l (.lst (xs++zs)))
theorem eO:MtM X "list.extend" JG:=by
 intro pins s σ H x vs v us Q I rx rv h
 obtain⟨l,b,xs,zs,rfl,rfl,hH,hB,hz,q⟩:=h
 cases rx
 obtain⟨u,rfl,ru⟩:=rv.one
 cases ru
 obtain⟨z,its,n,r,hl,e⟩:=I.lstM hH
 obtain⟨z2,its2,n2,r2,hl2,e2⟩:=I.lstM hB
 have hsz:its.toArray.size+its2.toArray.size<=sizeLine:=by rw[List.size_toArray,List.size_toArray];omega
 have hlong:¬(!its.toArray.isEmpty&&Builtin.List.listTooLong (its.toArray.size+its2.toArray.size))=true:=by
  rw[pX hsz,Bool.and_false]
  exact Bool.false_ne_true
 refine call_meets F.slot_list_extend ⟨_,e,rfl⟩ F.entry_list_extend (F.args_list_extend_2 _ _)
  (AutoSeq1.list_extend_list_list_0 l its.toArray n b its2.toArray n2 hlong (by rw[List.size_toArray];omega) (by omega)) ⟨e,e2,?_⟩
 refine⟨.non,_,I.lset (its':=its++its2) hH e (by simp) (r.append r2) ?_,rfl,q⟩
 rw[List.length_append]
 omega
def rPopAt:V->List V->Hp->VK->Prop:=λx vs H Q=>∃l xs i k y,x=.ref l/\vs=[.int i]/\H l=some (.lst xs)/\-(2 ^ 63)<=i/\i<2 ^ 63/\seqIndex? i xs.length=some k/\xs[k]?=some y/\Q y (upd H l (.lst (xs.eraseIdx k)))
theorem FJ:MtM X "list.pop" rPopAt:=by
 intro pins s σ H x vs v us Q I rx rv h
 obtain⟨l,xs,i,k,y,rfl,rfl,hH,h1,h2,hk,hy,q⟩:=h
 cases rx
 obtain⟨u,rfl,ru⟩:=rv.one
 obtain⟨t,rfl⟩:=ru
 obtain⟨z,its,n,r,hl,e⟩:=I.lstM hH
 obtain⟨w,hw,rw'⟩:=r.get hy
 refine call_meets F.slot_list_pop ⟨_,e,rfl⟩ F.entry_list_pop (F.args_list_pop_2 _ _)
  (MeetsSeq.list_pop_at l its.toArray n i t k w (fitsIndex_both h1 h2) (by rw[List.size_toArray,←hl];exact hk) (by rw[←Array.getElem?_toList];exact hw) (by rw[List.size_toArray];omega)) ⟨e,?_⟩
 refine⟨y,_,I.lset (its':=its.eraseIdx k) hH e ?_ (r.eraseIdx k) ?_,rw',q⟩
 ·show its.toArray.eraseIdxIfInBounds k=(its.eraseIdx k).toArray
  rw[List.eraseIdxIfInBounds_toArray]
 ·have:=tu xs k
  omega
def rCat:R2:=λx y H Q=>∃l b xs zs,x=.ref l/\y=.ref b/\H l=some (.lst xs)/\H b=some (.lst zs)/\xs.length+zs.length<=sizeLine/\∀p,H p=none->Q (.ref p) (upd H p (.lst (xs++zs)))
theorem GZ:OpR X (binaryOp .Add) rCat:=by
 intro pins s σ H x y v u Q I rx ry h
 obtain⟨l,b,xs,zs,rfl,rfl,hH,hB,hz,q⟩:=h
 cases rx
 cases ry
 obtain⟨z,its,n,r,hl,e⟩:=I.lstM hH
 obtain⟨z2,its2,n2,r2,hl2,e2⟩:=I.lstM hB
 refine PySem.P.add_list e e2 ?_ (by rw[List.size_toArray,List.size_toArray];omega)
 have ea:its.toArray++its2.toArray=(its++its2).toArray:=by simp
 rw[ea]
 exact⟨.ref _,_,I.lnew (t':=s.toks) (r.append r2) (by rw[List.length_append];omega),rfl,q _ I.fresh⟩
def rRep:R2:=λx y H Q=>∃l k xs,x=.ref l/\y=.int k/\H l=some (.lst xs)/\-(2 ^ 63)<=k/\k<2 ^ 63/\xs.length*k.toNat<=sizeLine /\
 ∀p,H p=none->Q (.ref p) (upd H p (.lst (List.replicate k.toNat xs).flatten))
theorem len_rep{α:Type}(xs:List α)(k:Nat):(List.replicate k xs).flatten.length=k*xs.length:=by
 induction k with
 |zero=>simp
 |succ k ih=>rw[List.replicate_succ,List.flatten_cons,List.length_append,ih,Nat.succ_mul,Nat.add_comm]
theorem G6:OpR X (binaryOp .Mult) rRep:=by
 intro pins s σ H x y v u Q I rx ry h
 obtain⟨l,k,xs,rfl,rfl,hH,h1,h2,hz,q⟩:=h
 cases rx
 obtain⟨t,rfl⟩:=ry
 obtain⟨z,its,n,r,hl,e⟩:=I.lstM hH
 have hlen:its.toArray.size*k.toNat<=sizeLine:=by rw[List.size_toArray,←hl];exact hz
 have hcap:¬its.toArray.size*k.toNat > (2 ^ 63-1) / 8:=by
  have:(sizeLine:Nat)<=(2 ^ 63-1) / 8:=by decide
  omega
 have hfit:¬(!Builtin.List.listFitsIndex k)=true:=by
  rw[fitsIndex_both h1 h2]
  exact Bool.false_ne_true
 have hlong:¬Builtin.List.listTooLong (its.toArray.size*k.toNat)=true:=by
  rw[pX hlen]
  exact Bool.false_ne_true
 have hnew:List.foldl (λx1 x2=>x1++x2) #[] (List.replicate (if its.toArray.isEmpty=true then 0 else k.toNat) its.toArray)=(List.replicate k.toNat its).flatten.toArray:=by
  have f0:∀m:Nat,List.foldl (λx1 x2=>x1++x2) #[] (List.replicate m its.toArray)=(List.replicate m its).flatten.toArray:=λm=>by
   have:=foldl_rep its m []
   rw[List.nil_append] at this
   exact this
  rw[f0]
  cases its with
  |nil=>simp
  |cons a r'=>rw[if_neg (by simp)]
 refine wpAny_binaryOp_repeat_ref (T:="list") (U:="int") (by decide) ⟨_,e,rfl⟩ (λs'=>typeIs_int s' k t) noFill_list_mul F.fills_int_mul F.slot_int_rmul repeat_list F.slot_int_index.lookup
  (call_meets F.slot_int_rmul (typeIs_int s k t) F.entry_int_rmul (F.args_int_rmul_2 _ _) (int___rmul___int_list k t l its.toArray n)
   ⟨e,rfl,⟨_,e,rfl⟩,call_meets F.slot_list_mul ⟨_,e,rfl⟩ F.entry_list_mul (F.args_list_mul_2 _ _) (AutoListH.list___mul___list_int_3 l its.toArray n k t hfit hcap hlong) ⟨e,?_⟩⟩)
 rw[hnew]
 exact⟨.ref _,_,I.lnew (t':=s.toks) (r.rep k.toNat) (by rw[len_rep,Nat.mul_comm];exact hz),rfl,q _ I.fresh⟩
end
theorem Vals.ref1{a:Addr}{us:List Value}(r:Vals [V.ref a] us):us=[Value.ref a]:=by
 cases r with
 |cons r t =>
  cases t
  cases r
  rfl
mutual
inductive Dp(K:PySem.W.Frag)(H:Hp):V->PyData->Prop
 |non:Dp K H .non .none
 |bl (b:Bool):Dp K H (.bl b) (.bool b)
 |int (i:Int):Dp K H (.int i) (.int i)
 |str (x:Str):Dp K H (.str x) (.str x)
 |lst {a:Addr} {xs:List V} {ds:List PyData}:SqL K H a xs->oY K H xs ds->Dp K H (.ref a) (.list ds)
 |tup {a:Addr} {xs:List V} {ds:List PyData}:SqT K H a xs->oY K H xs ds->Dp K H (.ref a) (.tuple ds)
inductive oY(K:PySem.W.Frag)(H:Hp):List V->List PyData->Prop
 |nil:oY K H [] []
 |cons {v:V} {vs:List V} {d:PyData} {ds:List PyData}:Dp K H v d->oY K H vs ds->oY K H (v::vs) (d::ds)
end
section
variable {X:Cx}{pins:List (Addr×Obj)}{σ:St}{H:Hp}{s:Shared}
mutual
theorem Dp.reads(I:Inv X pins σ H s):∀(d:PyData) (v:V) (u:Value),Dp X.K H v d->RelV v u->∃as,Reads s.heap u d as
 |.none,_,_,h,r=>by
  cases h
  cases r
  exact⟨_,Reads.none⟩
 |.bool b,_,_,h,r=>by
  cases h
  cases r
  exact⟨_,Reads.bool b⟩
 |.int i,_,_,h,r=>by
  cases h
  obtain⟨t,rfl⟩:=r
  exact⟨_,Reads.int i t⟩
 |.str x,_,_,h,r=>by
  cases h
  obtain⟨t,rfl⟩:=r
  exact⟨_,Reads.str x t⟩
 |.list ds,_,_,h,r=>by
  cases h with
  |lst hs ha =>
   cases r
   obtain⟨its,rv,⟨o,n,ho,hc,_,hd⟩,_⟩:=I.list hs
   obtain⟨as,hr⟩:=Dp.readsAll I ds _ its ha rv
   exact⟨_,Reads.list ho hc hd hr⟩
 |.tuple ds,_,_,h,r=>by
  cases h with
  |tup hs ha =>
   cases r
   obtain⟨its,rv,⟨o,ho,hc,n,hd⟩,_⟩:=I.tuple hs
   obtain⟨as,hr⟩:=Dp.readsAll I ds _ its ha rv
   exact⟨_,Reads.tuple ho hc hd hr⟩
 |.dict _,_,_,h,_=>by cases h
theorem Dp.readsAll(I:Inv X pins σ H s):∀(ds:List PyData) (vs:List V) (us:List Value),oY X.K H vs ds->Vals vs us->∃as,ReadsAll s.heap us ds as
 |[],_,_,h,r=>by
  cases h
  cases r
  exact⟨_,ReadsAll.nil⟩
 |d::ds,_,_,h,r=>by
  cases h with
  |cons h1 h2 =>
   cases r with
   |cons r1 r2 =>
    obtain⟨as,q1⟩:=Dp.reads I d _ _ h1 r1
    obtain⟨bs,q2⟩:=Dp.readsAll I ds _ _ h2 r2
    exact⟨_,ReadsAll.cons q1 q2⟩
end
end
section
variable {X:Cx}
def rEqD(K:PySem.W.Frag):R2:=λx y H Q=>∃d e,Dp K H x d/\Dp K H y e/\SeqAt.shaped d=true/\SeqAt.shaped e=true/\Q (.bl (PyData.eqv d e)) H
theorem op_eqD(hu:X.A.units+64<cLine):OpR X (compareOp .Eq) (rEqD X.K):=by
 intro pins s σ H x y v u Q I rx ry h
 obtain⟨d,e,hd,he,sd,se,q⟩:=h
 obtain⟨as,r1⟩:=Dp.reads I d x v hd rx
 obtain⟨bs,r2⟩:=Dp.reads I e y u he ry
 exact SeqAt.compareEq_shaped r1 r2 sd se hu ⟨.bl _,H,I,rfl,q⟩
end
abbrev DK(h:Heap)(c:Addr)(v:Option Value):Prop:=h.IsCell c v
noncomputable def relS(scope sc:Scope):Scope :=
 { scope with names:=scope.names.map λ(n,k)=>if (k==.free&&sc.kind==.function&&sc.names.lookup n==some .cell) then (n,.cell) else (n,k) }
noncomputable def bW(cells:List (Str×Addr)):List (Str×NameKind)->List (Str×Addr)->List (Str×Addr)
 |[],acc=>acc
 |(n,k)::r,acc=>if k==.free then bW cells r ((n,(cells.lookup n).getD 0)::acc) else bW cells r acc
theorem kj(env:Env)(f:Str×NameKind->List (Str×Addr)->Sem (ForInStep (List (Str×Addr))))(hf:∀n k c,f (n,k) c=if k==.free then (do let a ←cellOf env n;pure (.yield ((n,a)::c))) else pure (.yield c)) :
  ∀(names:List (Str×NameKind)) (acc:List (Str×Addr)),(∀y∈names,y.2=.free->∃c,env.cells.lookup y.1=some c)->forIn names acc f=pure (bW env.cells names acc)
 |[],acc,_=>by rw[List.forIn_nil];rfl
 |(n,k)::r,acc,h=>by
  rw[List.forIn_cons,hf]
  have ih:=λacc=>kj env f hf r acc λy hy=>h y (List.mem_cons_of_mem _ hy)
  unfold bW
  by_cases hk:(k==NameKind.free)=true
  ·rw[if_pos hk,if_pos hk]
   obtain⟨c,hc⟩:=h (n,k) List.mem_cons_self (by simpa using hk)
   have e:cellOf env n=pure c:=by unfold cellOf;rw[hc]
   rw[e]
   have e2:(env.cells.lookup n).getD 0=c:=by rw[hc];rfl
   rw[e2]
   exact ih _
  ·rw[if_neg hk,if_neg hk]
   exact ih _
theorem o9{scope:Scope}{env:Env}(h:∀y∈scope.names,y.2=.free->∃c,env.cells.lookup y.1=some c):closureFor scope env=pure (bW env.cells scope.names []):=by
 simp only[closureFor]
 rw[kj env _ (λn k c=>rfl) scope.names [] h]
 rfl
theorem mem_lookup{α:Type}:∀{l:List (Str×α)} {n:Str} {c:α},(n,c)∈l->∃c',l.lookup n=some c'
 |(k,v)::r,n,c,h=>by
  rw[List.lookup_cons]
  cases hb:n==k with
  |true=>exact⟨_,rfl⟩
  |false =>
   rcases List.mem_cons.mp h with e|h
   ·cases e;simp at hb
   ·exact mem_lookup h
theorem gQ{cells:List (Str×Addr)}:∀{names:List (Str×NameKind)} {acc:List (Str×Addr)} {n:Str} {c:Addr},(n,c)∈bW cells names acc->(n,c)∈acc∨((n,.free)∈names/\c=(cells.lookup n).getD 0)
 |[],_,_,_,h=>.inl h
 |(m,k)::r,acc,n,c,h=>by
  unfold bW at h
  split at h
  ·rename_i hk
   have hk:k=.free:=by simpa using hk
   rcases gQ h with h|⟨h1,h2⟩
   ·rcases List.mem_cons.mp h with e|h
    ·cases e;exact .inr ⟨hk▸List.mem_cons_self,rfl⟩
    ·exact .inl h
   ·exact .inr ⟨List.mem_cons_of_mem _ h1,h2⟩
  ·rcases gQ h with h|⟨h1,h2⟩
   ·exact .inl h
   ·exact .inr ⟨List.mem_cons_of_mem _ h1,h2⟩
theorem jj{cells:List (Str×Addr)}:∀{names:List (Str×NameKind)} {acc:List (Str×Addr)} {p:Str×Addr},p∈acc->p∈bW cells names acc
 |[],_,_,h=>h
 |(m,k)::r,acc,p,h=>by
  unfold bW
  split
  ·exact jj (List.mem_cons_of_mem _ h)
  ·exact jj h
theorem jk{cells:List (Str×Addr)}:∀{names:List (Str×NameKind)} {acc:List (Str×Addr)} {n:Str},(n,.free)∈names->(n,(cells.lookup n).getD 0)∈bW cells names acc
 |(m,k)::r,acc,n,h=>by
  unfold bW
  rcases List.mem_cons.mp h with e|h
  ·cases e
   exact jj List.mem_cons_self
  ·split
   ·exact jk h
   ·exact jk h
theorem il:∀{names:List (Str×NameKind)} {h:Heap} {acc:List (Str×Addr)} {x:Str} {c:Addr},(x,c)∈cellsFrom h.objs.size names acc ->
  (x,c)∈acc∨((x,.cell)∈names/\h.objs.size<=c/\DK (pushCells h names) c none)
 |[],_,_,_,_,h=>.inl h
 |(n,k)::r,h,acc,x,c,hm=>by
  unfold cellsFrom at hm
  unfold pushCells
  split at hm
  ·rename_i hk
   rw[if_pos hk]
   have hk:k=.cell:=by simpa using hk
   rw[←Heap.size_push h { cls:=.type "cell",data:=.cell none }] at hm
   rcases il hm with hm|⟨h1,h2,h3⟩
   ·rcases List.mem_cons.mp hm with e|hm
    ·cases e
     exact .inr ⟨hk▸List.mem_cons_self,Nat.le_refl _,_,pushCells_keeps r _ _ _ (Heap.get?_push_size _ rfl),rfl⟩
    ·exact .inl hm
   ·rw[Heap.size_push] at h2
    exact .inr ⟨List.mem_cons_of_mem _ h1,Nat.le_of_succ_le h2,h3⟩
  ·rename_i hk
   rw[if_neg hk]
   rcases il hm with hm|⟨h1,h2,h3⟩
   ·exact .inl hm
   ·exact .inr ⟨List.mem_cons_of_mem _ h1,h2,h3⟩
theorem jC:∀{names:List (Str×NameKind)} {n:Nat} {acc:List (Str×Addr)} {p:Str×Addr},p∈acc->p∈cellsFrom n names acc
 |[],_,_,_,h=>h
 |(m,k)::r,n,acc,p,h=>by
  unfold cellsFrom
  split
  ·exact jC (List.mem_cons_of_mem _ h)
  ·exact jC h
theorem lM:∀{names:List (Str×NameKind)} {n:Nat} {acc:List (Str×Addr)} {x:Str},(x,.cell)∈names->∃c,(x,c)∈cellsFrom n names acc
 |(m,k)::r,n,acc,x,h=>by
  unfold cellsFrom
  rcases List.mem_cons.mp h with e|h
  ·cases e
   exact⟨n,jC List.mem_cons_self⟩
  ·split
   ·exact lM h
   ·exact lM h
theorem lN:∀{names:List (Str×NameKind)} {h:Heap} {acc:List (Str×Addr)} {x y:Str} {c:Addr},(∀p∈acc,p.2<h.objs.size)->(∀x y c,(x,c)∈acc->(y,c)∈acc->x=y) ->
  (x,c)∈cellsFrom h.objs.size names acc->(y,c)∈cellsFrom h.objs.size names acc->x=y
 |[],_,_,_,_,_,_,hi,h1,h2=>hi _ _ _ h1 h2
 |(n,k)::r,h,acc,x,y,c,hl,hi,h1,h2=>by
  unfold cellsFrom at h1 h2
  split at h1
  ·rename_i hk
   rw[if_pos hk] at h2
   rw[←Heap.size_push h { cls:=.type "cell",data:=.cell none }] at h1 h2
   refine lN (h:=h.push _) (λp hp=>?_) (λx y c a b=>?_) h1 h2
   ·rw[Heap.size_push]
    rcases List.mem_cons.mp hp with rfl|hp
    ·exact Nat.lt_succ_self _
    ·exact Nat.lt_succ_of_lt (hl p hp)
   ·rcases List.mem_cons.mp a with e|a<;>rcases List.mem_cons.mp b with e'|b
    ·cases e;cases e';rfl
    ·cases e;exact absurd (hl _ b) (Nat.lt_irrefl _)
    ·cases e';exact absurd (hl _ a) (Nat.lt_irrefl _)
    ·exact hi _ _ _ a b
  ·rename_i hk
   rw[if_neg hk] at h2
   exact lN hl hi h1 h2
theorem nJ{M:Model}{A:Around}{E:Value->Shared->Prop}{s:Shared}{scope:Scope}{globals:Addr}{closure:List (Str×Addr)}{qual:Str}{func:Option Addr}{code:Value}{around:Env}{builtins:Addr}{Q:Env->Shared->Prop}(h:Q (newEnv scope s.heap.objs.size globals (cellsFrom (s.heap.objs.size+1) scope.names closure) qual func code (some around) builtins)
   { s with heap:=pushCells (s.heap.push { cls:=.type "dict",data:=.dict #[] }) scope.names }) :
  wpAny M A (newFunctionEnv scope globals closure [] qual func code (some around) builtins) Q E s:=by
 simp only[newFunctionEnv,Option.isSome_some,if_true]
 refine wpAny_bind (wpAny_alloc ?_)
 refine wpAny_bind (wpAny_layCells _ (λn k c=>rfl) scope.names closure _ _ ?_)
 rw[show({ s with heap:=s.heap.push { cls:=.type "dict",data:=.dict #[] } }:Shared).heap.objs.size=s.heap.objs.size+1 from Heap.size_push ..]
 rw[List.forIn_nil]
 exact wpAny_bind (wpAny_pure (wpAny_pure h))
theorem jq{sc:Scope}:∀{names:List (Str×NameKind)} {x:Str} {k:NameKind},
  (names.map λ(n,k)=>if (k==NameKind.free&&sc.kind==.function&&sc.names.lookup n==some .cell) then (n,NameKind.cell) else (n,k)).lookup x=some k ->
  ∃k',names.lookup x=some k'/\(k=k'∨(k'=.free/\k=.cell))
 |[],_,_,h=>by simp at h
 |(n,k₀)::r,x,k,h=>by
  have ih:=@jq sc r x k
  have h':List.lookup x ((if (k₀==NameKind.free&&sc.kind==.function&&sc.names.lookup n==some .cell)=true then (n,NameKind.cell) else (n,k₀))::(r.map _))=some k:=h
  cases hx:x==n with
  |true =>
   simp only[List.lookup_cons,hx]
   by_cases hc:(k₀==NameKind.free&&sc.kind==.function&&sc.names.lookup n==some .cell)=true
   ·rw[if_pos hc] at h'
    simp only[List.lookup_cons,hx] at h'
    cases h'
    simp only[Bool.and_eq_true,beq_iff_eq] at hc
    exact⟨k₀,rfl,.inr ⟨hc.1.1,rfl⟩⟩
   ·rw[if_neg hc] at h'
    simp only[List.lookup_cons,hx] at h'
    cases h'
    exact⟨_,rfl,.inl rfl⟩
  |false =>
   simp only[List.lookup_cons,hx]
   by_cases hc:(k₀==NameKind.free&&sc.kind==.function&&sc.names.lookup n==some .cell)=true
   ·rw[if_pos hc] at h'
    simp only[List.lookup_cons,hx] at h'
    exact ih h'
   ·rw[if_neg hc] at h'
    simp only[List.lookup_cons,hx] at h'
    exact ih h'
structure gM(N:List Str)(sc scope:Scope)(own:List (Str×Nat)):Prop where
 kind:scope.kind=.function
 uniq:∀y∈scope.names,scope.names.lookup y.1=some y.2
 ix:∀p∈own,N[p.2]?=some p.1
 free:∀y∈scope.names,y.2=.free->sc.names.lookup y.1=some .cell∨sc.names.lookup y.1=some .free
 own:∀y∈scope.names,y.2=.local∨y.2=.cell->y.1∈own.map (·.1)∨y.1∉N
noncomputable def wipe(σ:St):List Nat->St
 |[]=>σ
 |v::vs=>(wipe σ vs).set v none
theorem gZ(σ:St):∀vs:List Nat,(wipe σ vs).length=σ.length
 |[]=>rfl
 |v::vs=>by unfold wipe;rw[List.length_set,gZ σ vs]
theorem jM{σ:St}{i:Nat}{x:V}:∀{vs:List Nat},(wipe σ vs)[i]?=some (some x)->σ[i]?=some (some x)/\i∉vs
 |[],h=>⟨h,by simp⟩
 |v::vs,h=>by
  unfold wipe at h
  by_cases hi:v=i
  ·subst hi
   by_cases hv:v<(wipe σ vs).length
   ·rw[List.getElem?_set_self hv] at h;cases h
   ·rw[List.getElem?_eq_none (by simpa using hv)] at h;cases h
  ·rw[List.getElem?_set_ne hi] at h
   obtain⟨h1,h2⟩:=jM h
   exact⟨h1,by simp only[List.mem_cons,not_or];exact⟨λe=>hi e.symm,h2⟩⟩
noncomputable abbrev Cx.blk(X:Cx)(s:Shared)(H:Hp)(scope:Scope)(cenv:Env)(fp:List Addr):Cx:={ X with s_0:=s,H_0:=H,env:=cenv,outer:=X.stack,ex:=fp,fn:=λx=>scope.names.lookup x==some .cell,pn:=[],xe:=λ_ _=>False }
section
variable {X:Cx}{pins:List (Addr×Obj)}{σ:St}{H:Hp}{s:Shared}
theorem mV{scope:Scope}{own:List (Str×Nat)}{fp:List Addr}(I:Inv X pins σ H s)(ok:gM X.N X.env.scope scope own)(hN:X.N.Nodup)(hfp:∀b∈fp,jQ X pins H b/\b<s.heap.objs.size) :
  Inv (X.blk s H scope (compEnvC scope (cellsFrom (s.heap.objs.size+1) scope.names (bW X.env.cells scope.names [])) s.heap.objs.size X.env) fp) [] (wipe σ (own.map (·.2))) H { s with heap:=pushCells (s.heap.push { cls:=.type "dict",data:=.dict #[] }) scope.names }:=by
 have hfree:∀y∈scope.names,y.2=.free->∃c,X.env.cells.lookup y.1=some c:=λy hy e=>by
  rcases ok.free y hy e with k|k
  ·exact I.ok.has _ (.inl k)
  ·exact I.ok.has _ (.inr k)
 generalize hcenv:compEnvC scope (cellsFrom (s.heap.objs.size+1) scope.names (bW X.env.cells scope.names [])) s.heap.objs.size X.env=cenv
 have kp:∀b o,s.heap.get? b=some o->(pushCells (s.heap.push { cls:=.type "dict",data:=.dict #[] }) scope.names).get? b=some o:=λb o e=>pushCells_keeps _ _ _ _ (Heap.get?_push_of_some _ e)
 have hL:cenv.locals=s.heap.objs.size:=by rw[←hcenv];rfl
 have hcl:cenv.cells=cellsFrom (s.heap.objs.size+1) scope.names (bW X.env.cells scope.names []):=by rw[←hcenv];rfl
 have hsc:cenv.scope=relS scope X.env.scope:=by rw[←hcenv];rfl
 rw[←Heap.size_push s.heap { cls:=.type "dict",data:=.dict #[] }] at hcl
 have cm:∀{y c},(y,c)∈bW X.env.cells scope.names []->X.env.cells.lookup y=some c/\c<s.heap.objs.size:=λ{y c} hm=>by
  rcases gQ hm with hm|⟨h1,rfl⟩
  ·cases hm
  ·obtain⟨c,hc⟩:=hfree _ h1 rfl
   rw[hc]
   obtain⟨w,z⟩:=I.cell _ _ hc
   exact⟨rfl,z.lt⟩
 have mem:∀{y c},cenv.cells.lookup y=some c->(X.env.cells.lookup y=some c/\c<s.heap.objs.size)∨(s.heap.objs.size+1<=c/\DK (pushCells (s.heap.push { cls:=.type "dict",data:=.dict #[] }) scope.names) c none):=λ{y c} e=>by
  rw[hcl] at e
  rcases il (PySem.mem_of_lookup e) with hm|⟨_,h2,h3⟩
  ·exact .inl (cm hm)
  ·rw[Heap.size_push] at h2;exact .inr ⟨h2,h3⟩
 have look:∀{y},scope.names.lookup y=some .free->∃c,cenv.cells.lookup y=some c/\X.env.cells.lookup y=some c:=λ{y} hl=>by
  have hy:(y,NameKind.free)∈scope.names:=PySem.mem_of_lookup hl
  obtain⟨c',e'⟩:=mem_lookup (jC (names:=scope.names) (n:=(s.heap.push { cls:=.type "dict",data:=.dict #[] }).objs.size) (jk (cells:=X.env.cells) (acc:=[]) hy))
  rw[←hcl] at e'
  refine⟨c',e',?_⟩
  rw[hcl] at e'
  rcases il (PySem.mem_of_lookup e') with hm|⟨h1,_,_⟩
  ·exact(cm hm).1
  ·have:=ok.uniq _ h1
   rw[hl] at this;cases this
 have okB:(X.blk s H scope cenv fp).Ok:=by
  refine⟨I.ok.mod,by show cenv.scope.kind=_;rw[hsc];exact ok.kind,by show cenv.globals=_;rw[←hcenv];exact I.ok.glob,by show cenv.builtins=_;rw[←hcenv];exact I.ok.blt,by show s.heap.objs.size<=cenv.locals;rw[hL];exact Nat.le_refl _,
   λy z c e1 e2=>?_,λy hy=>?_,λy c z e=>?_,I.ok.hd,I.ok.frames,.inl rfl,λb hb=>⟨?_,λy c e z=>?_⟩,I.bs,Nat.le_trans I.ok.bsz I.sz,λb o e hb=>?_,λb hb z=>?_,I.stack,I.stkFree⟩
  ·have e1:cenv.cells.lookup y=some c:=e1
   have e2:cenv.cells.lookup z=some c:=e2
   rw[hcl] at e1 e2
   refine lN (λp hp=>?_) (λy z c a b=>I.ok.inj y z c (cm a).1 (cm b).1) (PySem.mem_of_lookup e1) (PySem.mem_of_lookup e2)
   rw[Heap.size_push]
   exact Nat.lt_succ_of_lt (cm (y:=p.1) (c:=p.2) hp).2
  ·show ∃c,cenv.cells.lookup y=some c
   have key:∀k,cenv.kindOf y=some k->(k=.cell∨k=.free)->∃c,cenv.cells.lookup y=some c:=λk hk hk'=>by
    unfold Env.kindOf at hk
    rw[hsc] at hk
    obtain⟨k',e,r⟩:=jq hk
    have:k'=.cell∨k'=.free:=by
     rcases r with rfl|⟨rfl,_⟩
     ·exact hk'
     ·exact .inr rfl
    rcases this with rfl|rfl
    ·obtain⟨c,hm⟩:=lM (n:=(s.heap.push { cls:=.type "dict",data:=.dict #[] }).objs.size) (acc:=bW X.env.cells scope.names []) (PySem.mem_of_lookup e)
     obtain⟨c',e'⟩:=mem_lookup hm
     exact⟨c',by rw[hcl];exact e'⟩
    ·obtain⟨c,h1,_⟩:=look e
     exact⟨c,h1⟩
   rcases hy with hy|hy
   ·exact key _ hy (.inl rfl)
   ·exact key _ hy (.inr rfl)
  ·have z:(scope.names.lookup y==some NameKind.cell)=true:=z
   have z:scope.names.lookup y=some .cell:=by simpa using z
   have e:cenv.cells.lookup y=some c:=e
   rw[hcl] at e
   rcases il (PySem.mem_of_lookup e) with hm|⟨_,h2,_⟩
   ·rcases gQ hm with hm|⟨h1,_⟩
    ·cases hm
    ·have q:=ok.uniq _ h1
     rw[z] at q;cases q
   ·rw[Heap.size_push] at h2
    exact Nat.le_of_succ_le h2
  ·show b≠cenv.locals
   rw[hL];exact Nat.ne_of_lt (hfp b hb).2
  ·have e:cenv.cells.lookup y=some c:=e
   rcases mem e with ⟨h1,_⟩|⟨h1,_⟩
   ·exact(hfp b hb).1.2.2.2.2.1 y c h1 z
   ·have h2:s.heap.objs.size+1<=b:=by rw[←z];exact h1
    exact absurd (Nat.lt_of_lt_of_le (hfp b hb).2 (Nat.le_of_succ_le h2)) (Nat.lt_irrefl _)
  ·rcases (hfp b hb).1.2.2.2.1 with z|z
   ·exact I.ok.noex b o e z
   ·exact absurd (Nat.lt_of_lt_of_le (Heap.lt_size e) (Nat.le_trans I.ok.bsz z)) (Nat.lt_irrefl _)
  ·rcases List.mem_cons.mp (I.stkSub b z) with z|z
   ·exact(hfp b hb).1.2.1 z
   ·exact(hfp b hb).1.2.2.1 z
 refine⟨okB,rfl,I.bare,Un.kept kp,⟨λ_=>none,?_,λi y av e1 e2 e3=>?_⟩,λy c e=>?_,?_,λy c e=>?_,λp hp=>?_,I.hok.kept kp,by rw[gZ];exact I.len⟩
 ·show Heap.Ns _ cenv.locals _
  rw[hL]
  exact Heap.Ns.keeps (Heap.Ns.new ..) λb o e=>pushCells_keeps _ _ _ _ e
 ·obtain⟨e2,hne⟩:=jM e2
  have hfr:scope.names.lookup y=some .free/\(cenv.kindOf y=some .cell∨cenv.kindOf y=some .free):=by
   have key:∀k,cenv.scope.names.lookup y=some k->k=.local∨k=.cell∨k=.free->scope.names.lookup y=some .free/\(cenv.kindOf y=some .cell∨cenv.kindOf y=some .free):=λk hk hk'=>by
    have hk0:=hk
    rw[hsc] at hk
    obtain⟨k',e,r⟩:=jq hk
    have no:¬(k'=.local∨k'=.cell):=λhh=>by
     rcases ok.own _ (PySem.mem_of_lookup e) hh with e'|e'
     ·obtain⟨p,hp,hpy⟩:=List.mem_map.mp e'
      have e3:=ok.ix p hp
      have:p.1=y:=hpy
      rw[this] at e3
      exact hne (List.mem_map.mpr ⟨p,hp,pW hN e3 e1⟩)
     ·exact e' (List.mem_of_getElem? e1)
    rcases r with rfl|⟨rfl,rfl⟩
    ·rcases hk' with rfl|rfl|rfl
     ·exact absurd (.inl rfl) no
     ·exact absurd (.inr rfl) no
     ·exact⟨e,.inr hk0⟩
    ·exact⟨e,.inl hk0⟩
   have e3:Vis cenv.scope y:=e3
   rcases e3 with e3|e3|e3
   ·exact key _ e3 (.inl rfl)
   ·exact key _ e3 (.inr (.inl rfl))
   ·exact key _ e3 (.inr (.inr rfl))
  obtain⟨m,hn,hl⟩:=I.loc
  have hvis:Vis X.env.scope y:=(ok.free _ (PySem.mem_of_lookup hfr.1) rfl).elim (λk=>.inr (.inl k)) (λk=>.inr (.inr k))
  obtain⟨w,r,q⟩:=hl i y av e1 e2 hvis
  refine⟨w,r,.inr ⟨hfr.2,?_⟩⟩
  obtain⟨c,h1,h2⟩:=look hfr.1
  rcases q with ⟨k,_⟩|⟨_,c',e',z⟩
  ·have k:X.env.scope.names.lookup y=some .local:=k
   rcases ok.free _ (PySem.mem_of_lookup hfr.1) rfl with k'|k'<;>rw[show X.env.scope.names.lookup y=_ from k'] at k<;>cases k
  ·rw[h2] at e';cases e'
   exact⟨c,h1,z.keeps kp⟩
 ·have e:cenv.cells.lookup y=some c:=e
  rcases mem e with ⟨h1,_⟩|⟨_,z⟩
  ·obtain⟨w,z⟩:=I.cell y c h1
   exact⟨w,z.keeps kp⟩
  ·exact⟨_,z⟩
 ·show H cenv.locals=none
  rw[hL];exact I.hok.fresh (Nat.le_refl _)
 ·have e:cenv.cells.lookup y=some c:=e
  rcases mem e with ⟨h1,_⟩|⟨h1,_⟩
  ·exact I.freeC y c h1
  ·exact I.hok.fresh (Nat.le_of_succ_le h1)
 ·exact absurd (show p∈([]:List (Addr×Obj))++[] from hp) (by simp)
theorem Ea{E:Value->Shared->Prop}{D:Addr}{xs:List V}{y:V}{v:Value}{Q:Value->Shared->Prop}(I:Inv X pins σ H s)(hD:H D=some (.lst xs))(hz:xs.length<sizeLine)(r:RelV y v)(h:∀s',Inv X pins σ (upd H D (.lst (xs++[y]))) s'->Q .none s'):wpAny (model X.prog X.w) X.A (call (.builtin "list.append") [.ref D,v]) Q E s:=by
 obtain⟨hz',its,n,ri,e⟩:=I.hok D _ hD
 have hl:=ri.length
 refine append_at (hsz:=by rw[List.size_toArray];omega) e λh' sb ho'=>?_
 refine h { s with heap:=h' } (I.write (t':=s.toks) (by rw[hD];trivial) (.inl rfl) (λb u hb q=>(sb.2 b hb).trans q) ⟨_,ho'⟩ ⟨by rw[List.length_append];exact hz,its++[v],n+1,ri.append (.cons r .nil),?_⟩)
 rw[ho']
 simp
def PTs(X:Cx)(ifs:List Expr)(t:TT):Prop :=
 ∀(pins:List (Addr×Obj)) (s:Shared) (σ:St) (H:Hp) (Q:Bool->Hp->Prop),Inv X pins σ H s->t σ H Q ->
  wpAny (model X.prog X.w) X.A (forIn ifs true λc r=>if r=true then do let ok ←isTrue c X.env (eval c X.env);pure (ForInStep.yield ok) else pure (ForInStep.yield r)) (TP X pins σ Q) X.xe s
def tYes:TT:=λ_ H Q=>Q true H
theorem jH:PTs X [] tYes:=λ_ _ _ H _ I h=>wpAny_tests_nil ⟨H,I,h⟩
theorem Ag{c:Expr}{t:TT}(h:PT X c t):PTs X [c] t:=λpins s σ H Q I hw=>wpAny_tests_one (h pins s σ H Q I hw)
end
theorem rm{α:Type}{t:Sem α}{Q Q':α->Shared->Prop}{M:Model}{A:Around}{E:Value->Shared->Prop}{s:Shared}(h:wpAny M A t Q (λ_ _=>False) s)(hQ:∀a s,Q a s->Q' a s):wpAny M A t Q' E s:=wpAny_mono h hQ λ_ _ z=>False.elim z
theorem km{prog:Program}{w:World}{A:Around}{R:Result->Shared->Prop}{s:Shared}{elt target iter:Expr}{ifs:List Expr}{scope:Scope}{pos:Pos}{it acc:Value}{env:Env}(I:Nat->Shared->Prop)(turn:∀n s,I n s->wpAny (model prog w) A (pyNext it) (λr s₁=>match r with
   |none=>R (.ok .next) s₁
   |some v=>wpAny (model prog w) A (letOwnedTupleGo target it v) (λ_ s₁'=>wpAny (model prog w) A (assign target env v) (λ_ s₂ =>
     wpAny (model prog w) A (forIn ifs true λc r=>if r=true then do let ok ←isTrue c env (eval c env);pure (ForInStep.yield ok) else pure (ForInStep.yield r)) (λok s₃ =>
      if ok=true then wpAny (model prog w) A (eval elt env) (λx s₄ =>
       wpAny (model prog w) A (call (.builtin "list.append") [acc,x]) (λ_ s₅=>∃m,m<n/\I m s₅) (notedBy (model prog w) A env λe s'=>R (.error e) s') s₄) (notedBy (model prog w) A env λe s'=>R (.error e) s') s₃
      else ∃m,m<n/\I m s₃) (notedBy (model prog w) A env λe s'=>R (.error e) s') s₂) (notedBy (model prog w) A env λe s'=>R (.error e) s') s₁') (notedBy (model prog w) A env λe s'=>R (.error e) s') s₁) (notedBy (model prog w) A env λe s'=>R (.error e) s') s)(n:Nat)(h:I n s) :
  codeAny (model prog w) A (.compLoop (.ListComp elt [⟨target,iter,ifs,0⟩] scope pos) 0 it acc env) R s:=by
 refine codeAny_loop rfl I (λn s hI=>?_) n h
 show wpAny _ A ((compTurn (.ListComp elt [⟨target,iter,ifs,0⟩] scope pos) 0 it acc env).onRaise (λx=>do noteFrame x env;theTreesLotGoes x)) _ _ s
 refine wpAny_noted ?_
 rw[compTurn_list]
 refine wpAny_bind (wpAny_standAt (wpAny_bind (wpAny_mono (turn n s hI) (λr s₁ h₁=>?_) λ_ _ h'=>h')))
 cases r with
 |none=>exact wpAny_pure h₁
 |some v =>
  refine wpAny_bind (wpAny_mono h₁ (λ_ s₁' h₁'=>?_) λ_ _ h'=>h')
  refine wpAny_bind (wpAny_mono h₁' (λ_ s₂ h₂=>wpAny_bind (wpAny_mono h₂ (λok s₃ h₃=>?_) λ_ _ h'=>h')) λ_ _ h'=>h')
  cases ok with
  |false=>exact wpAny_pure ⟨rfl,h₃⟩
  |true =>
   exact wpAny_bind (wpAny_bind (wpAny_mono h₃ (λx s₄ h₄=>wpAny_bind (wpAny_mono h₄ (λ_ s₅ h₅=>wpAny_pure (wpAny_pure ⟨rfl,h₅⟩)) λ_ _ h'=>h')) λ_ _ h'=>h'))
section
variable {X:Cx}
def tLc(wi:TI)(g:TG)(tt:TT)(te:TE)(vs:List Nat):TE:=λσ H Q=>wi σ H λJ H1=>∀D,H1 D=none->∃W:Nat->Nat->Hp->Prop,(∃m,W 0 m (upd H1 D (.lst [])))/\∀i m H,W i m H ->
 (J.stop i H/\Q (.ref D) H)∨(J.go i H/\∃Nx:Hp->Prop,(∀H',Nx H'->∃m',m'<m/\W (i+1) m' H')/\∀x H',J.yld i H x H'->g x (wipe σ vs) H' λσ2 H2=>wipe σ2 vs=wipe σ vs/\tt σ2 H2 λb H3 =>
  if b=true then te σ2 H3 λy H4=>∃acc,H4 D=some (.lst acc)/\acc.length<sizeLine/\Nx (upd H4 D (.lst (acc++[y]))) else Nx H3)
theorem zY{pins:List (Addr×Obj)}{s:Shared}{σ:St}{H:Hp}{Q:VK}{elt tg iter:Expr}{ifs:List Expr}{scope:Scope}{own:List (Str×Nat)}{pos pos':Pos}{wi:TI}{g:TG}{tt:TT}{te:TE}{use:Option (Value->Sem Unit)}{Qf:Value->Shared->Prop}(hc:X.calm=true)(hN:X.N.Nodup)(I:Inv X pins σ H s)(hi:PI X tg iter wi)(ok:gM X.N X.env.scope scope own)(hg:∀(s:Shared) (H:Hp) (C:Addr) (cl:List (Str×Addr)) (fp:List Addr),PG (X.blk s H scope (compEnvC scope cl C X.env) fp) tg g)(ht:∀(s:Shared) (H:Hp) (C:Addr) (cl:List (Str×Addr)) (fp:List Addr),PTs (X.blk s H scope (compEnvC scope cl C X.env) fp) ifs tt)(he:∀(s:Shared) (H:Hp) (C:Addr) (cl:List (Str×Addr)) (fp:List Addr),PE (X.blk s H scope (compEnvC scope cl C X.env) fp) elt te)(hs:∀x,foldedSetIterable iter X.env x=pure x)(h:tLc wi g tt te (own.map (·.2)) σ H Q)(hRR:∀D C s' m H',Inv X pins σ H' s'->Q (.ref D) H'->s'.heap.Ns C m->jQ X pins H' C->compPost (model X.prog X.w) X.A X.xe use Qf (.ref D) C (.ok .next) s') :
  wpAny (model X.prog X.w) X.A (comprehension (.ListComp elt [⟨tg,iter,ifs,0⟩] scope pos) scope X.env pos' (newList []) false (eval iter X.env) use) Qf X.xe s:=by
 have hfree:∀y∈scope.names,y.2=.free->∃c,X.env.cells.lookup y.1=some c:=λy hy e=>by
  rcases ok.free y hy e with k|k
  ·exact I.ok.has _ (.inl k)
  ·exact I.ok.has _ (.inr k)
 refine wpAny_comprehension_free (use:=use) rfl hs (o9 hfree) ok.kind (λy hy e=>by rw[ok.uniq y hy,e])
  (thn (hi pins s σ H _ I h) λxv s1 hx=>thn hx λitv s2 h2=>?_)
 obtain⟨it,fp,tn,J,H2,e,I2,T,st2,f2,q⟩:=h2
 subst e
 refine wpAny_newObj_type (nJ ?_) (by show 0<=sizeLine;decide)
 generalize hD:s2.heap.objs.size=D
 have hDn:H2 D=none:=I2.hok.fresh (Nat.le_of_eq hD)
 obtain⟨W,⟨m0,w0⟩,turn⟩:=q D hDn
 generalize hs3:({ s2 with heap:=s2.heap.push { cls:=.type "list",data:=.seq ([]:List Value).toArray } }:Shared)=s3
 have I3:Inv X pins σ (upd H2 D (.lst [])) s3:=by
  rw[←hs3]
  refine I2.laid (t':=s2.toks) (λb o e=>Heap.get?_push_of_some _ e) (Nat.le_of_eq hD) ⟨Nat.zero_le _,[],0,.nil,?_⟩
  rw[←hD]
  exact Heap.get?_push_size _ rfl
 have h3:s3.heap=s2.heap.push { cls:=.type "list",data:=.seq ([]:List Value).toArray }:=by rw[←hs3]
 have sz:∀b∈fp,b<s2.heap.objs.size:=λb hb=>by
  obtain⟨o,e,_⟩:=T.obj _ _ st2 b hb
  exact Heap.lt_size e
 have f3:∀b∈fp,jQ X pins (upd H2 D (.lst [])) b/\b<s3.heap.objs.size:=λb hb=>by
  have hlt:=sz b hb
  refine⟨⟨?_,(f2 b hb).2⟩,by rw[h3,Heap.size_push];exact Nat.lt_succ_of_lt hlt⟩
  rw[ao (by rw[←hD];exact Nat.ne_of_lt hlt)]
  exact(f2 b hb).1
 have st3:tn 0 s3.heap:=T.keep _ _ _ st2 λb _ o e=>by rw[h3];exact Heap.get?_push_of_some _ e
 have I4:=mV I3 ok hN f3
 have pg:=hg s3 (upd H2 D (.lst [])) s3.heap.objs.size (cellsFrom (s3.heap.objs.size+1) scope.names (bW X.env.cells scope.names [])) fp
 have pt:=ht s3 (upd H2 D (.lst [])) s3.heap.objs.size (cellsFrom (s3.heap.objs.size+1) scope.names (bW X.env.cells scope.names [])) fp
 have pe:=he s3 (upd H2 D (.lst [])) s3.heap.objs.size (cellsFrom (s3.heap.objs.size+1) scope.names (bW X.env.cells scope.names [])) fp
 show codeAny _ _ (.compStart (.ListComp elt [⟨tg,iter,ifs,0⟩] scope pos) 0 (.ref it) (.ref D) (compEnvC scope (cellsFrom (s3.heap.objs.size+1) scope.names (bW X.env.cells scope.names [])) s3.heap.objs.size X.env)) (compPost (model X.prog X.w) X.A X.xe use Qf (.ref D) s3.heap.objs.size) { s3 with heap:=pushCells (s3.heap.push { cls:=.type "dict",data:=.dict #[] }) scope.names }
 have nfp:∀b∈fp,(upd H2 D (.lst [])) b=none:=λb hb=>(f3 b hb).1.1
 generalize hce:compEnvC scope (cellsFrom (s3.heap.objs.size+1) scope.names (bW X.env.cells scope.names [])) s3.heap.objs.size X.env=ce at I4 pg pt pe ⊢
 have cL:ce.locals=s3.heap.objs.size:=by subst hce;rfl
 generalize hH3:upd H2 D (.lst [])=H3 at I3 I4 pg pt pe w0 nfp f3
 generalize hs4:({ s3 with heap:=pushCells (s3.heap.push { cls:=.type "dict",data:=.dict #[] }) scope.names }:Shared)=s4 at I4 ⊢
 have st4:tn 0 s4.heap:=T.keep _ _ _ st3 λb _ o e=>by rw[←hs4];exact pushCells_keeps _ _ _ _ (Heap.get?_push_of_some _ e)
 have stat:∀{σ':St} {H':Hp} {s':Shared},Inv (X.blk s3 H3 scope ce fp) [] σ' H' s'->(∀b∈fp,H' b=none)->∀b∈fp,jQ (X.blk s3 H3 scope ce fp) [] H' b:=λ{σ' H' s'} I' hn b hb =>
  ⟨hn b hb,(I'.ok.exf b hb).1,I'.ok.exfs b hb,.inl hb,λx c e=>(I'.ok.exf b hb).2 x c e,λp hp=>absurd (show p∈([]:List (Addr×Obj))++[] from hp) (by simp)⟩
 have loop:codeAny (model X.prog X.w) X.A (.compLoop (.ListComp elt [⟨tg,iter,ifs,0⟩] scope pos) 0 (.ref it) (.ref D) ce) (compPost (model X.prog X.w) X.A X.xe use Qf (.ref D) s3.heap.objs.size) s4:=by
  refine km (λn s'=>∃i H',Inv (X.blk s3 H3 scope ce fp) [] (wipe σ (own.map (·.2))) H' s'/\tn i s'.heap/\(∀b∈fp,H' b=none)/\W i n H') ?_ m0 ⟨0,H3,I4,st4,nfp,w0⟩
  rintro n s5 ⟨i,H5,I5,st5,n5,w5⟩
  rcases turn i n H5 w5 with ⟨stop,qq⟩|⟨go,Nx,hNx,step⟩
  ·have td:=T.done (X.blk s3 H3 scope ce fp) rfl rfl rfl hc i [] s5 _ H5 (λ_ _=>False) I5 (stat I5 n5) st5 stop
   refine rm td λr s6 hq=>?_
   obtain⟨hr,I6⟩:=hq
   subst hr
   have I7:Inv X pins σ H5 s6:=I3.call' (ch:=fp) I6.os I6.base I6.hok I6.bare λb hb=>⟨(f3 b hb).1.2.2.2.1,(f3 b hb).1.2.1,(f3 b hb).1.2.2.2.2.1,(f3 b hb).1.2.2.2.2.2⟩
   have nC:H5 s3.heap.objs.size=none:=by
    have z:H5 ce.locals=none:=I6.free
    rw[cL] at z
    exact z
   obtain⟨m,hn,_⟩:=I6.loc
   have hn:s6.heap.Ns ce.locals m:=hn
   rw[cL] at hn
   exact hRR D s3.heap.objs.size s6 m H5 I7 qq hn (I3.fpOk (Nat.le_refl _) nC)
  ·have ti:=T.item (X.blk s3 H3 scope ce fp) rfl rfl rfl hc i [] s5 _ H5 (λ_ _=>False) I5 (stat I5 n5) st5 go
   refine rm ti λr s6 hq=>?_
   obtain⟨u,hr,h6⟩:=hq
   subst hr
   refine rm h6 λ_ s7 hq=>?_
   obtain⟨x,H7,I7,r7,y7,st7,n7⟩:=hq
   have I7':=I7.pinned (stat I7 n7) (T.obj _ _ st7)
   refine rm (pg _ s7 _ H7 x u _ I7' r7 (step x H7 y7)) λ_ s8 hq=>?_
   obtain⟨σ8,H8,I8,hw8,q8⟩:=hq
   refine rm (pt _ s8 σ8 H8 _ I8 q8) λb s9 hq=>?_
   obtain⟨H9,I9,q9⟩:=hq
   have fin:∀{s':Shared} {H':Hp},Inv (X.blk s3 H3 scope ce fp) ([]++mj fp s7.heap) σ8 H' s'->Nx H'->∃m,m<n/\∃i H',Inv (X.blk s3 H3 scope ce fp) [] (wipe σ (own.map (·.2))) H' s'/\tn i s'.heap/\(∀b∈fp,H' b=none)/\W i m H':=λ{s' H'} I' nx=>by
    obtain⟨m',hm,w'⟩:=hNx H' nx
    have pin':∀b∈fp,∀o,s7.heap.get? b=some o->s'.heap.get? b=some o/\H' b=none:=λb hb o e =>
     let z:=I'.pin (b,o) (List.mem_append_right _ (List.mem_append_right _ (iI hb e)))
     ⟨z.1,z.2.1⟩
    have hl:(wipe σ (own.map (·.2))).length=σ8.length:=by rw[←hw8,gZ]
    refine⟨m',hm,i+1,H',(I'.unpinned (pins:=[])).weak hl (λj v e=>?_),T.keep _ _ _ st7 λb hb o e=>(pin' b hb o e).1,λb hb=>?_,w'⟩
    ·rw[←hw8] at e
     exact(jM e).1
    ·obtain⟨o,e,_⟩:=T.obj _ _ st7 b hb
     exact(pin' b hb o e).2
   cases b with
   |false =>
    simp only[Bool.false_eq_true,if_false] at q9 ⊢
    exact fin I9 q9
   |true =>
    simp only[if_true] at q9 ⊢
    refine rm (pe _ s9 σ8 H9 _ I9 q9) λz s10 hq=>?_
    obtain⟨yv,H10,I10,r10,acc,hD10,hz10,nx⟩:=hq
    exact Ea (X:=X.blk s3 H3 scope ce fp) I10 hD10 hz10 r10 λs11 I11=>fin I11 nx
 exact codeAny_compStart_list loop (T.self X.A 0 _ _ _ st4 loop)
theorem wC{elt tg iter:Expr}{ifs:List Expr}{scope:Scope}{own:List (Str×Nat)}{pos:Pos}{wi:TI}{g:TG}{tt:TT}{te:TE}(hc:X.calm=true)(hN:X.N.Nodup)(hi:PI X tg iter wi)(ok:gM X.N X.env.scope scope own)(hg:∀(s:Shared) (H:Hp) (C:Addr) (cl:List (Str×Addr)) (fp:List Addr),PG (X.blk s H scope (compEnvC scope cl C X.env) fp) tg g)(ht:∀(s:Shared) (H:Hp) (C:Addr) (cl:List (Str×Addr)) (fp:List Addr),PTs (X.blk s H scope (compEnvC scope cl C X.env) fp) ifs tt)(he:∀(s:Shared) (H:Hp) (C:Addr) (cl:List (Str×Addr)) (fp:List Addr),PE (X.blk s H scope (compEnvC scope cl C X.env) fp) elt te)(hs:∀x,foldedSetIterable iter X.env x=pure x:=by intro _;rfl) :
  PE X (.ListComp elt [⟨tg,iter,ifs,0⟩] scope pos) (tLc wi g tt te (own.map (·.2))):=by
 intro pins s σ H Q I h
 rw[eval_ListComp]
 refine zY hc hN I hi ok hg ht he hs h λD C s' m H' I' q hn f=>⟨m,hn,λh'' sb=>?_⟩
 obtain⟨f0,f1,f2,f3,f4,f5⟩:=f
 exact⟨.ref D,H',I'.turned (t':=s'.toks) (λb o hb e=>(sb.2 b hb).trans e) f0 f1 f3 f4 f5,rfl,q⟩
theorem wI{i:Nat}{y:Str}{py:Pos}{elt tg iter:Expr}{ifs:List Expr}{scope:Scope}{own:List (Str×Nat)}{pos spos:Pos}{wi:TI}{g:TG}{tt:TT}{te:TE}(hc:X.calm=true)(hN:X.N.Nodup)(hy:X.N[i]?=some y)(hyl:X.env.scope.names.lookup y=some .local)(hsw:swapsWith (.ListComp elt [⟨tg,iter,ifs,0⟩] scope pos) (some (.Name y py)) spos.line X.env=pure true)(hi:PI X tg iter wi)(ok:gM X.N X.env.scope scope own)(hg:∀(s:Shared) (H:Hp) (C:Addr) (cl:List (Str×Addr)) (fp:List Addr),PG (X.blk s H scope (compEnvC scope cl C X.env) fp) tg g)(ht:∀(s:Shared) (H:Hp) (C:Addr) (cl:List (Str×Addr)) (fp:List Addr),PTs (X.blk s H scope (compEnvC scope cl C X.env) fp) ifs tt)(he:∀(s:Shared) (H:Hp) (C:Addr) (cl:List (Str×Addr)) (fp:List Addr),PE (X.blk s H scope (compEnvC scope cl C X.env) fp) elt te)(hs:∀x,foldedSetIterable iter X.env x=pure x:=by intro _;rfl) :
  PS X (.Assign [.Name y py] (.ListComp elt [⟨tg,iter,ifs,0⟩] scope pos) spos) (JW (tLc wi g tt te (own.map (·.2))) (pF i)):=by
 intro pins s σ H D I h
 rw[exec_Assign_Name_used _ _ _ _ hsw]
 refine wpAny_bind (wpAny_standAt (wpAny_bind ?_))
 show wpAny _ X.A (do let _ ←comprehension (.ListComp elt [⟨tg,iter,ifs,0⟩] scope pos) scope X.env (firstIterPos [⟨tg,iter,ifs,0⟩] pos) (newList []) false (eval iter X.env) (some (assign (.Name y py) X.env))) _ _ s
 have h:tLc wi g tt te (own.map (·.2)) σ H (λx H1=>pF i x σ H1 D.nx):=h
 refine wpAny_bind (thn (zY (Qf:=λ_ s'=>SP X pins D .next s') hc hN I hi ok hg ht he hs h λL C s' m H' I' q hn f=>?_) λ_ s' hq=>wpAny_pure (wpAny_pure hq))
 show wpAny _ _ (assign (.Name y py) X.env (.ref L)) _ _ _
 refine wpAny_assign_Name (mQ (v:=V.ref L) I' hN hy (.inl hyl) rfl (λs2 I2 hq=>?_) (.inr hyl))
 obtain⟨a,sb,ha⟩:=hq
 obtain⟨f0,f1,f2,f3,f4,f5⟩:=f
 have haC:C≠a:=by
  rcases ha with z|z
  ·rw[z];exact f1
  ·exact λe=>f4 y a z e.symm
 refine⟨m,hn.sameBut sb haC,λh3 sb3=>?_⟩
 exact⟨_,H',I2.turned (t':=s2.toks) (λb o hb e=>(sb3.2 b hb).trans e) f0 f1 f3 f4 f5,q⟩
end
theorem Ft{lo:Int}{n:Nat}{g:TG}{tt:TT}{te:TE}{vs:List Nat}{σ:St}{H1:Hp}{D:Addr}{Qd:Hp->Prop}(Pv:Nat->Hp->Prop)(h0:Pv 0 (upd H1 D (.lst [])))(hs:∀i H,i<n->Pv i H->g (.int (lo+i)) (wipe σ vs) H λσ2 H2=>wipe σ2 vs=wipe σ vs/\tt σ2 H2 λb H3 =>
   if b=true then te σ2 H3 λy H4=>∃acc,H4 D=some (.lst acc)/\acc.length<sizeLine/\Pv (i+1) (upd H4 D (.lst (acc++[y]))) else Pv (i+1) H3)(hd:∀H,Pv n H->Qd H) :
  ∃W:Nat->Nat->Hp->Prop,(∃m,W 0 m (upd H1 D (.lst [])))/\∀i m H,W i m H ->
   ((Itr lo n).stop i H/\Qd H)∨((Itr lo n).go i H/\∃Nx:Hp->Prop,(∀H',Nx H'->∃m',m'<m/\W (i+1) m' H')/\∀x H',(Itr lo n).yld i H x H'->g x (wipe σ vs) H' λσ2 H2=>wipe σ2 vs=wipe σ vs/\tt σ2 H2 λb H3 =>
    if b=true then te σ2 H3 λy H4=>∃acc,H4 D=some (.lst acc)/\acc.length<sizeLine/\Nx (upd H4 D (.lst (acc++[y]))) else Nx H3):=by
 refine⟨λi m H=>m=n-i/\i<=n/\Pv i H,⟨n,by simp,Nat.zero_le _,h0⟩,?_⟩
 rintro i m H ⟨rfl,hi,p⟩
 by_cases hlt:i<n
 ·refine .inr ⟨hlt,Pv (i+1),λH' p'=>⟨n-(i+1),by omega,rfl,hlt,p'⟩,λx H' y=>?_⟩
  obtain⟨e,y⟩:=y
  subst e y
  exact hs i _ hlt p
 ·have e:i=n:=by omega
  subst e
  exact .inl ⟨Nat.le_refl _,hd H p⟩
theorem jE{K:PySem.W.Frag}{a:Addr}{xs:List V}{g:TG}{tt:TT}{te:TE}{vs:List Nat}{σ:St}{H1:Hp}{D:Addr}{Qd:Hp->Prop}(Pv:Nat->Hp->Prop)(h0:Pv 0 (upd H1 D (.lst [])))(hl:∀i H,i<=xs.length->Pv i H->SqL K H a xs)(hs:∀i x H,xs[i]?=some x->Pv i H->g x (wipe σ vs) H λσ2 H2=>wipe σ2 vs=wipe σ vs/\tt σ2 H2 λb H3 =>
   if b=true then te σ2 H3 λy H4=>∃acc,H4 D=some (.lst acc)/\acc.length<sizeLine/\Pv (i+1) (upd H4 D (.lst (acc++[y]))) else Pv (i+1) H3)(hd:∀H,Pv xs.length H->Qd H) :
  ∃W:Nat->Nat->Hp->Prop,(∃m,W 0 m (upd H1 D (.lst [])))/\∀i m H,W i m H ->
   ((Itl K a).stop i H/\Qd H)∨((Itl K a).go i H/\∃Nx:Hp->Prop,(∀H',Nx H'->∃m',m'<m/\W (i+1) m' H')/\∀x H',(Itl K a).yld i H x H'->g x (wipe σ vs) H' λσ2 H2=>wipe σ2 vs=wipe σ vs/\tt σ2 H2 λb H3 =>
    if b=true then te σ2 H3 λy H4=>∃acc,H4 D=some (.lst acc)/\acc.length<sizeLine/\Nx (upd H4 D (.lst (acc++[y]))) else Nx H3):=by
 refine⟨λi m H=>m=xs.length-i/\i<=xs.length/\Pv i H,⟨xs.length,by simp,Nat.zero_le _,h0⟩,?_⟩
 rintro i m H ⟨rfl,hi,p⟩
 have q:=hl i H hi p
 by_cases hlt:i<xs.length
 ·refine .inr ⟨⟨xs,xs[i],q,by simp[hlt]⟩,Pv (i+1),λH' p'=>⟨xs.length-(i+1),by omega,rfl,hlt,p'⟩,λx H' y=>?_⟩
  obtain⟨e,y⟩:=y
  subst e
  exact hs i x _ (y xs q) p
 ·have e:i=xs.length:=by omega
  subst e
  exact .inl ⟨⟨xs,q,Nat.le_refl _⟩,hd H p⟩
section
variable {κ:Type}[DecidableEq κ]
noncomputable def dN(kvs:List (κ×V))(k:κ):Option V:=(kvs.find? λkv=>decide (kv.1=k)).map (·.2)
noncomputable def putK(kvs:List (κ×V))(k:κ)(v:V):List (κ×V) :=
 if (kvs.any λkv=>decide (kv.1=k))=true then kvs.map (λkv=>if kv.1=k then (kv.1,v) else kv) else kvs++[(k,v)]
theorem rG{p:κ×V}{r:List (κ×V)}{k:κ}(e:p.1=k):dN (p::r) k=some p.2:=by simp[dN,List.find?_cons,e]
theorem rF{p:κ×V}{r:List (κ×V)}{k:κ}(e:¬p.1=k):dN (p::r) k=dN r k:=by simp[dN,List.find?_cons,e]
theorem rD(k:κ):∀kvs:List (κ×V),(kvs.any λkv=>decide (kv.1=k))=(dN kvs k).isSome
 |[]=>rfl
 |p::r=>by
  rw[List.any_cons]
  by_cases e:p.1=k
  ·simp only[rG e,decide_eq_true e,Bool.true_or,Option.isSome_some]
  ·rw[rF e,decide_eq_false e,Bool.false_or];exact rD k r
theorem nq(kvs:List (κ×V))(k:κ)(v:V):(putK kvs k v).length<=kvs.length+1:=by
 unfold putK
 split
 ·rw[List.length_map];omega
 ·rw[List.length_append,List.length_cons,List.length_nil];omega
theorem iB.isSome_eq{o:Option V}{u:Option Value}(r:iB o u):o.isSome=u.isSome:=by
 cases o with
 |none=>cases u with
  |none=>rfl
  |some _=>exact(show False from r).elim
 |some _=>cases u with
  |none=>exact(show False from r).elim
  |some _=>rfl
theorem iB.getD{o:Option V}{u:Option Value}{d:V}{d':Value}(r:iB o u)(rd:RelV d d'):RelV (o.getD d) (u.getD d'):=by
 cases o with
 |none=>cases u with
  |none=>exact rd
  |some _=>exact(show False from r).elim
 |some _=>cases u with
  |none=>exact(show False from r).elim
  |some _=>exact r
theorem KV.val{kvs:List (κ×V)}{vs:List (κ×Value)}(r:KV kvs vs)(k:κ):iB (dN kvs k) (valueAt vs k):=by
 unfold KV at r
 induction r with
 |nil=>exact True.intro
 |@cons p q ps qs h t ih =>
  obtain⟨h1,h2⟩:=h
  by_cases e:p.1=k
  ·have e':q.1=k:=h1.symm.trans e
   have b:valueAt (q::qs) k=some q.2:=by simp[valueAt,List.find?_cons,e']
   rw[rG e,b];exact h2
  ·have e':¬q.1=k:=λz=>e (h1.trans z)
   have b:valueAt (q::qs) k=valueAt qs k:=by simp[valueAt,List.find?_cons,e']
   rw[rF e,b];exact ih
theorem KV.any{kvs:List (κ×V)}{vs:List (κ×Value)}(r:KV kvs vs)(k:κ):(kvs.any λkv=>decide (kv.1=k))=vs.any λkv=>decide (kv.1=k):=by
 unfold KV at r
 induction r with
 |nil=>rfl
 |cons h t ih=>rw[List.any_cons,List.any_cons,ih,h.1]
theorem KV.repl{kvs:List (κ×V)}{vs:List (κ×Value)}(r:KV kvs vs)(k:κ){y:V}{u:Value}(ry:RelV y u) :
  KV (kvs.map λkv=>if kv.1=k then (kv.1,y) else kv) (vs.map λkv=>if kv.1=k then (kv.1,u) else kv):=by
 unfold KV at r ⊢
 induction r with
 |nil=>exact .nil
 |@cons p q ps qs h t ih =>
  rw[List.map_cons,List.map_cons]
  refine .cons ?_ ih
  obtain⟨h1,h2⟩:=h
  by_cases e:p.1=k
  ·rw[if_pos e,if_pos (h1.symm.trans e)];exact⟨h1,ry⟩
  ·rw[if_neg e,if_neg (λz=>e (h1.trans z))];exact⟨h1,h2⟩
theorem KV.put{kvs:List (κ×V)}{vs:List (κ×Value)}(r:KV kvs vs)(k:κ){y:V}{u:Value}(ry:RelV y u):KV (putK kvs k y) (stored vs k u):=by
 unfold putK stored
 rw[r.any k]
 by_cases e:(vs.any λkv=>decide (kv.1=k))=true
 ·rw[if_pos e,if_pos e];exact r.repl k ry
 ·rw[if_neg e,if_neg e];exact Paired.snoc r ⟨rfl,ry⟩
theorem KV.length{kvs:List (κ×V)}{vs:List (κ×Value)}(r:KV kvs vs):kvs.length=vs.length:=Paired.length r
end
theorem pJ{P:Program}{w:World}{k:Key}{u:Value}(r:RelV (kV k) u):(bO P w).is k u=true:=by
 cases k with
 |inl i=>obtain⟨t,e⟩:=(show ∃t,u=Value.int i t from r);subst e;exact nG P w i t
 |inr x=>obtain⟨t,e⟩:=(show ∃t,u=Value.str x t from r);subst e;exact nH P w x t
theorem lQ{P:Program}{w:World}:∀{ks:List Key} {us:List Value},Vals (ks.map kV) us->ItemsAre (bO P w) ks us
 |[],_,r=>by rw[List.map_nil] at r;cases r;exact .nil
 |k::ks,_,r=>by
  rw[List.map_cons] at r
  cases r with
  |cons h t=>exact .cons (pJ h) (lQ t)
abbrev KT(H:Hp):List (List Key×V)->List (List Key×Addr×Value)->Prop:=Paired λp q=>p.1=q.1/\H q.2.1=some (.tup (p.1.map kV))/\RelV p.2 q.2.2
theorem KT.val{H:Hp}{kvs:List (List Key×V)}{xs:List (List Key×Addr×Value)}(r:KT H kvs xs)(k:List Key):iB (dN kvs k) ((atKey xs k).map (·.2)):=by
 induction r with
 |nil=>exact True.intro
 |@cons p q ps qs h t ih =>
  obtain⟨h1,_,h2⟩:=h
  by_cases e:p.1=k
  ·have e':q.1=k:=h1.symm.trans e
   have b:atKey (q::qs) k=some q.2:=by simp[atKey,List.find?_cons,e']
   rw[rG e,b];exact h2
  ·have e':¬q.1=k:=λz=>e (h1.trans z)
   have b:atKey (q::qs) k=atKey qs k:=by simp[atKey,List.find?_cons,e']
   rw[rF e,b];exact ih
theorem KT.repl{H:Hp}{kvs:List (List Key×V)}{xs:List (List Key×Addr×Value)}(r:KT H kvs xs)(k:List Key){y:V}{u:Value}(ry:RelV y u) :
  KT H (kvs.map λkv=>if kv.1=k then (kv.1,y) else kv) (xs.map (putAt k u)):=by
 induction r with
 |nil=>exact .nil
 |@cons p q ps qs h t ih =>
  rw[List.map_cons,List.map_cons]
  refine .cons ?_ ih
  obtain⟨h1,h2,h3⟩:=h
  unfold putAt
  by_cases e:p.1=k
  ·rw[if_pos e,if_pos (h1.symm.trans e)];exact⟨h1,h2,ry⟩
  ·rw[if_neg e,if_neg (λz=>e (h1.trans z))];exact⟨h1,h2,h3⟩
theorem KT.put{H:Hp}{kvs:List (List Key×V)}{xs:List (List Key×Addr×Value)}(r:KT H kvs xs)(k:List Key){b:Addr}{y:V}{u:Value}(hb:H b=some (.tup (k.map kV)))(ry:RelV y u) :
  KT H (putK kvs k y) (storedH xs k b u):=by
 have e:(kvs.any λkv=>decide (kv.1=k))=(atKey xs k).isSome:=by
  rw[rD,(r.val k).isSome_eq,Option.isSome_map]
 unfold putK storedH
 rw[e]
 by_cases q:(atKey xs k).isSome=true
 ·rw[if_pos q,if_pos q];exact r.repl k ry
 ·rw[if_neg q,if_neg q];exact Paired.snoc r ⟨rfl,hb,ry⟩
theorem KT.keeps{H H':Hp}{kvs:List (List Key×V)}{xs:List (List Key×Addr×Value)}(r:KT H kvs xs)(ht:∀b ys,H b=some (.tup ys)->H' b=some (.tup ys)):KT H' kvs xs :=
 Paired.mapP r λ_ _ z=>⟨z.1,ht _ _ z.2.1,z.2.2⟩
section
variable {P:Program}{w:World}{H:Hp}{h:Heap}{a:Addr}
theorem rd_of{u:HO}(ok:HOk P w H h)(e:Rd H a u):cW P w H h a u:=e.ok ok
theorem mX{kvs:List (Key×V)}(ok:HOk P w H h)(e:Rd H a (.dK kvs)):kvs.length<=sizeLine/\(a==sysModules)=false/\∃vs,KV kvs vs/\h.DictOf (bO P w) a vs :=
 show cW P w H h a (.dK kvs) from rd_of ok e
theorem dk_of{kvs:List (Key×V)}(ok:HOk P w H h)(e:H a=some (.dK kvs)):kvs.length<=sizeLine/\(a==sysModules)=false/\∃vs,KV kvs vs/\h.DictOf (bO P w) a vs:=mX ok (.inl e)
theorem pK{ks:List Key}(ok:HOk P w H h)(e:H a=some (.tup (ks.map kV))):(tupleKind (bO P w)).is h ks a:=by
 obtain⟨_,its,r,o,h1,h2,n,h3⟩:=(show cW P w H h a (.tup (ks.map kV)) from ok a _ e)
 exact⟨o,its.toArray,n,h1,h2,h3,by simpa using lQ r⟩
theorem pA{kvs:List (List Key×V)}(ok:HOk P w H h)(e:Rd H a (.dT kvs)):kvs.length<=sizeLine/\(a==sysModules)=false /\
  ∃xs,KT H kvs xs/\h.DictOfH (tupleKind (bO P w)) a xs:=by
 obtain⟨z,y,xs,r,o,es,ep,h1,h2,h3,h4,h5⟩:=(show cW P w H h a (.dT kvs) from rd_of ok e)
 refine⟨z,y,xs,r,o,es,ep,h1,h2,h3,h4,λx hx=>?_,h5⟩
 have all:∀{l:List (List Key×V)} {m:List (List Key×Addr×Value)},KT H l m->∀x∈m,(tupleKind (bO P w)).is h x.1 x.2.1:=by
  intro l m q
  induction q with
  |nil=>intro x hx;exact nomatch hx
  |@cons p q ps qs hq t ih =>
   intro x hx
   rcases List.mem_cons.mp hx with e|hx
   ·subst e
    exact pK ok (by rw[←hq.1];exact hq.2.1)
   ·exact ih x hx
 exact all r x hx
theorem dt_of{kvs:List (List Key×V)}(ok:HOk P w H h)(e:H a=some (.dT kvs)):kvs.length<=sizeLine/\(a==sysModules)=false /\
  ∃xs,KT H kvs xs/\h.DictOfH (tupleKind (bO P w)) a xs:=pA ok (.inl e)
end
def ux(H:Hp)(a:Addr)(y:V)(r:Option V):Prop :=
 (∃kvs k,Rd H a (.dK kvs)/\y=kV k/\r=dN kvs k)∨∃kvs k b,Rd H a (.dT kvs)/\y=.ref b/\H b=some (.tup (k.map kV))/\r=dN kvs k
def vH(H:Hp)(a:Addr)(y v:V)(H':Hp):Prop :=
 (∃kvs k,H a=some (.dK kvs)/\y=kV k/\kvs.length<sizeLine/\H'=upd H a (.dK (putK kvs k v))) ∨
 ∃kvs k b,H a=some (.dT kvs)/\y=.ref b/\H b=some (.tup (k.map kV))/\kvs.length<sizeLine/\H'=upd H a (.dT (putK kvs k v))
theorem ux.t{H:Hp}{a b:Addr}{kvs:List (List Key×V)}{k:List Key}(e:H a=some (.dT kvs))(eb:H b=some (.tup (k.map kV))):ux H a (.ref b) (dN kvs k):=.inr ⟨kvs,k,b,.inl e,rfl,eb,rfl⟩
theorem vH.k{H:Hp}{a:Addr}{kvs:List (Key×V)}{k:Key}{v:V}(e:H a=some (.dK kvs))(hl:kvs.length<sizeLine):vH H a (kV k) v (upd H a (.dK (putK kvs k v))):=.inl ⟨kvs,k,e,rfl,hl,rfl⟩
theorem vH.t{H:Hp}{a b:Addr}{kvs:List (List Key×V)}{k:List Key}{v:V}(e:H a=some (.dT kvs))(eb:H b=some (.tup (k.map kV)))(hl:kvs.length<sizeLine) :
  vH H a (.ref b) v (upd H a (.dT (putK kvs k v))):=.inr ⟨kvs,k,b,e,rfl,eb,hl,rfl⟩
section
variable {X:Cx}{pins:List (Addr×Obj)}{σ:St}{H:Hp}{s:Shared}{a:Addr}{y v:V}{u r:Value}{o:Option V}{A:Around}{E:Value->Shared->Prop}
theorem Inv.big(I:Inv X pins σ H s):sysModules<s.heap.objs.size:=by
 have h:mainGlobals<s.heap.objs.size:=(I.mod.glob.keeps I.bk).lt
 exact Nat.lt_trans (by decide) h
theorem Bx{Q:Value->Shared->Prop}(hu:A.units+1<cLine)(I:Inv X pins σ H s)(g:ux H a y (some v))(ry:RelV y u)(h:∀w' s',Inv X pins σ H s'->RelV v w'->Q w' s') :
  wpAny (model X.prog X.w) A (getItem (.ref a) u) Q E s:=by
 rcases g with ⟨kvs,k,e,ey,l⟩|⟨kvs,k,b,e,ey,eb,l⟩
 ·subst ey
  obtain⟨z,hd,vs,rel,dd⟩:=mX I.hok e
  obtain⟨w',hw,rw'⟩:=iB.some_of (v:=v) (o:=valueAt vs k) (by rw[l];exact rel.val k)
  exact wpAny_getItem_of (pJ ry) dd.mapOf hw (h w' _ (I.tok _) rw')
 ·subst ey
  cases (show u=Value.ref b from ry)
  obtain⟨z,hd,xs,rel,dd⟩:=pA I.hok e
  obtain⟨w',hw,rw'⟩:=iB.some_of (v:=v) (o:=(atKey xs k).map (·.2)) (by rw[l];exact rel.val k)
  obtain⟨p,hp,hp2⟩:=Option.map_eq_some_iff.mp hw
  refine wpAny_getItem_heap (tupleKind_room_in1 hu) (pK I.hok eb) dd hp ?_
  rw[hp2]
  exact h w' _ (I.tok _) rw'
theorem d_in{Q:Value->Shared->Prop}(hu:A.units+1<cLine)(I:Inv X pins σ H s)(g:ux H a y o)(ry:RelV y u)(h:∀s',Inv X pins σ H s'->Q (.bool o.isSome) s') :
  wpAny (model X.prog X.w) A (compareOp .In u (.ref a)) Q E s:=by
 rcases g with ⟨kvs,k,e,ey,l⟩|⟨kvs,k,b,e,ey,eb,l⟩
 ·subst ey
  obtain⟨z,hd,vs,rel,dd⟩:=mX I.hok e
  refine wpAny_in_of (pJ ry) hd dd.mapOf ?_
  rw[←(rel.val k).isSome_eq,←l]
  exact h _ (I.tok _)
 ·subst ey
  cases (show u=Value.ref b from ry)
  obtain⟨z,hd,xs,rel,dd⟩:=pA I.hok e
  refine wpAny_in_heap (tupleKind_room_in1 hu) (pK I.hok eb) hd dd ?_
  have q:=(rel.val k).isSome_eq
  rw[Option.isSome_map] at q
  rw[←q,←l]
  exact h _ (I.tok _)
theorem Io{Q:Value->Shared->Prop}(hu:A.units+1<cLine)(I:Inv X pins σ H s)(g:ux H a y o)(ry:RelV y u)(h:∀s',Inv X pins σ H s'->Q (.bool (!o.isSome)) s') :
  wpAny (model X.prog X.w) A (compareOp .NotIn u (.ref a)) Q E s:=by
 rcases g with ⟨kvs,k,e,ey,l⟩|⟨kvs,k,b,e,ey,eb,l⟩
 ·subst ey
  obtain⟨z,hd,vs,rel,dd⟩:=mX I.hok e
  refine wpAny_notIn_of (pJ ry) hd dd.mapOf ?_
  rw[←(rel.val k).isSome_eq,←l]
  exact h _ (I.tok _)
 ·subst ey
  cases (show u=Value.ref b from ry)
  obtain⟨z,hd,xs,rel,dd⟩:=pA I.hok e
  refine wpAny_notIn_heap (tupleKind_room_in1 hu) (pK I.hok eb) hd dd ?_
  have q:=(rel.val k).isSome_eq
  rw[Option.isSome_map] at q
  rw[←q,←l]
  exact h _ (I.tok _)
theorem zF{h':Heap}{t':Nat}{ob:HO}(I:Inv X pins σ H s)(mu:Mut (H a))(hs:Heap.SameBut a s.heap h')(he:∃q,h'.get? a=some q)(new:cW X.prog X.w (upd H a ob) h' a ob) :
  Inv X pins σ (upd H a ob) { s with heap:=h',toks:=t' } :=
 I.write (x:=a) (e:=a) mu (.inl rfl) (λb q hb z=>(hs.2 b hb).trans z) he new
theorem dk_new{P:Program}{w:World}{H':Hp}{h':Heap}{kvs:List (Key×V)}{vs:List (Key×Value)}(z:kvs.length<=sizeLine)(hd:(a==sysModules)=false)(rel:KV kvs vs)(dd:h'.DictOf (bO P w) a vs) :
  cW P w H' h' a (.dK kvs):=⟨z,hd,vs,rel,dd⟩
theorem BJ{H':Hp}{Q:Unit->Shared->Prop}(hu:A.units+1<cLine)(I:Inv X pins σ H s)(g:vH H a y v H')(ry:RelV y u)(rv:RelV v r)(h:∀s',Inv X pins σ H' s'->Q () s') :
  wpAny (model X.prog X.w) A (setItem (.ref a) u r) Q E s:=by
 rcases g with ⟨kvs,k,e,ey,l,eH⟩|⟨kvs,k,b,e,ey,eb,l,eH⟩
 ·subst ey eH
  obtain⟨z,hd,vs,rel,dd⟩:=dk_of I.hok e
  have hz:vs.length<=sizeLine:=by rw[←rel.length];exact z
  have hl:(putK kvs k v).length<=sizeLine:=by have:=nq kvs k v;omega
  refine wpAny_setItem_pairs (hsz:=hz) (pJ ry) dd λh' dd' hs=>h _ ?_
  have he:∃q,h'.get? a=some q:=let ⟨q,_,_,hq,_⟩:=dd';⟨q,hq⟩
  exact zF I (by rw[e];exact True.intro) hs he (dk_new hl hd (rel.put k rv) dd')
 ·subst ey eH
  cases (show u=Value.ref b from ry)
  obtain⟨z,hd,xs,rel,dd⟩:=dt_of I.hok e
  have hz:xs.length<=sizeLine:=by rw[←Paired.length rel];exact z
  have hl:(putK kvs k v).length<=sizeLine:=by have:=nq kvs k v;omega
  refine wpAny_setItem_heap (hsz:=hz) (tupleKind_room_in1 hu) (pK I.hok eb) dd λh' dd' hs=>h _ ?_
  obtain⟨q,es,ep,hq,h2,h3,h4,_,h5⟩:=dd'
  refine zF I (by rw[e];exact True.intro) hs ⟨q,hq⟩ ⟨hl,hd,_,(rel.put k eb rv).keeps λc ys ec=>?_,q,es,ep,hq,h2,h3,h4,h5⟩
  rw[ao (bI ec e (λz=>nomatch z))]
  exact ec
end
def NoSl(i:Expr):Prop:=∀ov iv,subscripted i false ov iv=operate [ov,iv] (getItem ov iv)
theorem Bl{prog:Program}{w:World}{A:Around}{E:Value->Shared->Prop}{s:Shared}{env:Env}{value slice:Expr}{pos:Pos}{T id:String}{Q:Value->Shared->Prop}(hl:typeLookup (.type T) "__getitem__"=pure (some (.builtin id)))(hs:NoSl slice)(h:wpAny (model prog w) A (eval value env) (λo s₁=>wpAny (model prog w) A (eval slice env) (λi s₂=>s₂.TypeIs o T/\wpAny (model prog w) A (getItem o i) Q E s₂) E s₁) E s) :
  wpAny (model prog w) A (eval (.Subscript value slice pos) env) Q E s:=by
 refine Subscript_ (wpAny_mono h (λo s₁ h₁=>wpAny_mono h₁ (λi s₂ h₂=>?_) λ_ _ x=>x) λ_ _ x=>x)
 obtain⟨hT,h₂⟩:=h₂
 unfold subscriptTail
 refine wpAny_bind ?_
 rw[getitemInPython_of_ne hT.not_modules]
 refine wpAny_bind (wpAny_specialOf hT hl ?_)
 have fin:wpAny (model prog w) A (subscripted slice false o i) (λr s₃=>wpAny (model prog w) A (letTemporaryGo value o r >>= λ_=>pure r) Q E s₃) E s₂:=by
  rw[hs o i]
  exact wpAny_operating (wpAny_mono h₂ (λr s₃ h₃=>wpAny_bind (wpAny_letTemporaryGo (wpAny_pure h₃))) λ_ _ x=>x)
 first
  |exact wpAny_pure (wpAny_bind fin)
  |exact wpAny_bind (wpAny_pure (wpAny_bind fin))
  |exact wpAny_bind fin
theorem vQ{X:Cx}{pins:List (Addr×Obj)}{σ:St}{H:Hp}{s:Shared}{a:Addr}{y:V}{o:Option V}(I:Inv X pins σ H s)(g:ux H a y o):s.TypeIs (.ref a) "dict":=by
 rcases g with ⟨kvs,k,e,_,_⟩|⟨kvs,k,b,e,_,_,_⟩
 ·obtain⟨_,_,vs,_,dd⟩:=mX I.hok e
  exact dd.typeIs
 ·obtain⟨_,_,xs,_,dd⟩:=pA I.hok e
  exact dd.typeIs
def tDGet(td ty:TE):TE:=λσ H Q=>td σ H λx H1=>ty σ H1 λy H2=>∃a v,x=.ref a/\ux H2 a y (some v)/\Q v H2
def tDIn(ty td:TE):TE:=λσ H Q=>ty σ H λy H1=>td σ H1 λx H2=>∃a o,x=.ref a/\ux H2 a y o/\Q (.bl o.isSome) H2
def sDPut(td ty tv:TE):TS:=λD σ H=>tv σ H λv H1=>td σ H1 λx H2=>ty σ H2 λy H3=>∃a H4,x=.ref a/\vH H3 a y v H4/\D.nx σ H4
section
variable {X:Cx}{o i e value:Expr}{pos pos' tpos:Pos}{td ty tv:TE}
theorem Jt(hu:X.A.units+1<cLine)(ho:PE X o td)(hi:PE X i ty)(hs:NoSl i):PE X (.Subscript o i pos) (tDGet td ty):=by
 intro pins s σ H Q I h
 refine Bl PySem.F.slot_dict_getitem.lookup hs (thn (ho pins s σ H _ I h) λu s1 ⟨x,H1,I1,rx,q1⟩=>thn (hi pins s1 σ H1 _ I1 q1) λiv s2 hq=>?_)
 obtain⟨y,H2,I2,ry,a,v,ex,g,q2⟩:=hq
 subst ex
 obtain rfl:u=Value.ref a:=rx
 exact⟨vQ I2 g,Bx hu I2 g ry λw' s3 I3 rw'=>⟨v,H2,I3,rw',q2⟩⟩
theorem pc_din(hu:X.A.units+1<cLine)(hi:PE X i ty)(ho:PE X o td):PC X .In i o (tDIn ty td):=by
 intro pins s σ H Q I h
 refine thn (hi pins s σ H _ I h) λiv s1 ⟨y,H1,I1,ry,q1⟩=>thn (ho pins s1 σ H1 _ I1 q1) λu s2 hq=>?_
 obtain⟨x,H2,I2,rx,a,ov,ex,g,q2⟩:=hq
 subst ex
 obtain rfl:u=Value.ref a:=rx
 exact d_in hu I2 g ry λs3 I3=>⟨.bl ov.isSome,H2,I3,rfl,q2⟩
theorem Ae(hu:X.A.units+1<cLine)(ho:PE X o td)(hi:PE X i ty)(hv:PE X value tv)(hs:swapsWith value (some (.Subscript o i pos')) pos.line X.env=pure false) :
  PS X (.Assign [.Subscript o i pos'] value pos) (sDPut td ty tv):=by
 intro pins s σ H D I h
 refine wpAny_Assign_Subscript (thn (hv pins s σ H _ I h) λr s1 ⟨v,H1,I1,rv,q1⟩=>thn (ho pins s1 σ H1 _ I1 q1) λu s2 ⟨x,H2,I2,rx,q2⟩=>thn (hi pins s2 σ H2 _ I2 q2) λiv s3 hq=>?_) hs
 obtain⟨y,H3,I3,ry,a,H4,ex,g,q3⟩:=hq
 subst ex
 obtain rfl:u=Value.ref a:=rx
 exact BJ hu I3 g ry rv λs4 I4=>⟨σ,H4,I4,q3⟩
end
theorem Eo{P:Program}{w:World}{H:Hp}(h:Heap)(hb:sysModules<h.objs.size):cW P w H (h.push { cls:=.type "dict",data:=.dict #[] }) h.objs.size (.dK []) :=
 ⟨Nat.zero_le _,beq_eq_false_iff_ne.mpr (Ne.symm (Nat.ne_of_lt hb)),[],.nil,Heap.DictOf.new h⟩
theorem Ep{P:Program}{w:World}{H:Hp}(h:Heap)(hb:sysModules<h.objs.size):cW P w H (h.push { cls:=.type "dict",data:=.dict #[] }) h.objs.size (.dT []) :=
 ⟨Nat.zero_le _,beq_eq_false_iff_ne.mpr (Ne.symm (Nat.ne_of_lt hb)),[],.nil,_,#[],0,Heap.get?_push_size _ rfl,⟨rfl,rfl,rfl⟩,rfl,rfl,List.nodup_nil⟩
def tDNewK:TE:=λ_ H Q=>∀p,H p=none->Q (.ref p) (upd H p (.dK []))
def tDNewT:TE:=λ_ H Q=>∀p,H p=none->Q (.ref p) (upd H p (.dT []))
section
variable {X:Cx}{pos:Pos}
theorem Hb:PE X (.Dict [] [] pos) tDNewK:=λpins s σ H Q I h =>
 wpAny_Dict_empty ⟨.ref s.heap.objs.size,_,I.laid (a:=s.heap.objs.size) (o:=.dK []) (t':=s.toks) (λ_ _ q=>Heap.get?_push_of_some _ q) (Nat.le_refl _) (Eo s.heap I.big),rfl,h _ (I.hok.fresh (Nat.le_refl _))⟩
theorem wA:PE X (.Dict [] [] pos) tDNewT:=λpins s σ H Q I h =>
 wpAny_Dict_empty ⟨.ref s.heap.objs.size,_,I.laid (a:=s.heap.objs.size) (o:=.dT []) (t':=s.toks) (λ_ _ q=>Heap.get?_push_of_some _ q) (Nat.le_refl _) (Ep s.heap I.big),rfl,h _ (I.hok.fresh (Nat.le_refl _))⟩
end
structure M1(X:Cx)(o:Expr)(m:Str)(apos:Pos)(e:Expr)(cpos:Pos):Prop where
 base:attributeBase o m X.env (eval o X.env)=eval o X.env
 few:((backTo cpos (starEach [e] X.env)).all (λx=>!x.1)&&(backToKw cpos (keywordEach [] X.env)).all (λx=>x.1.isSome)
  && decide (([e]:List Expr).length+([]:List Keyword).length+(if ([]:List Keyword).isEmpty then 0 else 1)<30))=true
 line:(apos.endLine==cpos.line)=true
 trees:backTo cpos (starEach [e] X.env)=[(false,eval e X.env)]
structure M2(X:Cx)(o:Expr)(m:Str)(apos:Pos)(e f:Expr)(cpos:Pos):Prop where
 base:attributeBase o m X.env (eval o X.env)=eval o X.env
 few:((backTo cpos (starEach [e,f] X.env)).all (λx=>!x.1)&&(backToKw cpos (keywordEach [] X.env)).all (λx=>x.1.isSome)
  && decide (([e,f]:List Expr).length+([]:List Keyword).length+(if ([]:List Keyword).isEmpty then 0 else 1)<30))=true
 line:(apos.endLine==cpos.line)=true
 trees:backTo cpos (starEach [e,f] X.env)=[(false,eval e X.env),(false,eval f X.env)]
def IsD(H:Hp)(a:Addr):Prop:=(∃kvs,Rd H a (.dK kvs))∨∃kvs,Rd H a (.dT kvs)
theorem isD_at{X:Cx}{pins:List (Addr×Obj)}{σ:St}{H:Hp}{s:Shared}{a:Addr}(I:Inv X pins σ H s)(d:IsD H a) :
  s.TypeIs (.ref a) "dict"/\(∀b,Value.ref a=.ref b->∃ob,s.heap.get? b=some ob/\ob.dict=none)/\(a==sysModules)=false:=by
 rcases d with ⟨kvs,e⟩|⟨kvs,e⟩
 ·obtain⟨_,hd,vs,_,dd⟩:=mX I.hok e
  refine⟨dd.typeIs,λb q=>?_,hd⟩
  cases q
  obtain⟨ob,_,_,h1,h2,_⟩:=dd
  exact⟨ob,h1,h2.2.1⟩
 ·obtain⟨_,hd,xs,_,dd⟩:=pA I.hok e
  refine⟨dd.typeIs,λb q=>?_,hd⟩
  cases q
  obtain⟨ob,_,_,h1,h2,_⟩:=dd
  exact⟨ob,h1,h2.2.1⟩
section
variable {X:Cx}{pins:List (Addr×Obj)}{σ:St}{H:Hp}{s:Shared}{h':Heap}
theorem Inv.turnedL{t':Nat}{ch:List Addr}(I:Inv X pins σ H s)(k:∀b o,b∉ch->s.heap.get? b=some o->h'.get? b=some o)(hf:∀b∈ch,jQ X pins H b):Inv X pins σ H { s with heap:=h',toks:=t' }:=by
 have nit:∀b u,H b=some u->b∉ch:=λb u e z=>by
  have q:=(hf b z).1
  rw[q] at e;cases e
 refine I.step (g':=s.gens) (d':=s.drawn) (ch:=ch) (λb hb=>⟨(hf b hb).2.2.2.1,(hf b hb).2.1,(hf b hb).2.2.2.2.1,(hf b hb).2.2.2.2.2⟩) (λb o _ _ hc e _=>k b o hc e) (λb o _ _ hc e _=>⟨o.slots,k b o hc e⟩)
  (λ_ _ _ _ n=>n) (λb o hc e=>⟨o,k b o hc e⟩) (λ_ _ e=>e) (λ_ _ _ e=>e) (λb ps e=>⟨#[],by rw[e];simp⟩) (λm hm=>?_) (λb u e=>?_) I.bare
 ·obtain⟨o,es,ep,ho,r⟩:=hm
  exact⟨o,es,ep,k _ o (λz=>(hf _ z).2.1 rfl) ho,r⟩
 ·refine(I.hok b u e).stay (λc v hc q=>k c v ?_ q) (λ_ q=>q) λ_ _ q=>q
  rcases hc with z|z
  ·rw[z];exact nit b u e
  ·exact nit c _ z
theorem Inv.turnedNew{t':Nat}{ch:List Addr}{T:Addr}{ob:HO}(I:Inv X pins σ H s)(k:∀b o,b∉ch->s.heap.get? b=some o->h'.get? b=some o)(hf:∀b∈ch,jQ X pins H b)(hT:s.heap.objs.size<=T)(new:cW X.prog X.w (upd H T ob) h' T ob):Inv X pins σ (upd H T ob) { s with heap:=h',toks:=t' }:=by
 have hn:H T=none:=I.hok.fresh hT
 have nit:∀b u,H b=some u->b∉ch:=λb u e z=>by
  have q:=(hf b z).1
  rw[q] at e;cases e
 refine I.step (g':=s.gens) (d':=s.drawn) (ch:=ch) (λb hb=>⟨(hf b hb).2.2.2.1,(hf b hb).2.1,(hf b hb).2.2.2.2.1,(hf b hb).2.2.2.2.2⟩) (λb o _ _ hc e _=>k b o hc e) (λb o _ _ hc e _=>⟨o.slots,k b o hc e⟩)
  (λb o _ e n=>?_) (λb o hc e=>⟨o,k b o hc e⟩) (λb xs e=>?_) (λb o u e=>?_) (λb ps e=>⟨#[],?_⟩) (λm hm=>?_) (λb u e=>?_) I.bare
 ·rw[ao (Nat.ne_of_lt (Nat.lt_of_lt_of_le (Heap.lt_size e) hT))];exact n
 ·rw[ao (aa e hn)];exact e
 ·rw[ao (aa e hn)];exact e
 ·rw[ao (aa e hn),e];simp
 ·obtain⟨o,es,ep,ho,r⟩:=hm
  exact⟨o,es,ep,k _ o (λz=>(hf _ z).2.1 rfl) ho,r⟩
 ·by_cases hb:b=T
  ·subst hb
   rw[aj] at e
   cases e
   exact new
  ·rw[ao hb] at e
   refine(I.hok b u e).stay (λc v hc q=>k c v ?_ q) (λc q=>by rw[ao (aa q hn)];exact q) λc xs q=>by rw[ao (aa q hn)];exact q
   rcases hc with z|z
   ·rw[z];exact nit b u e
   ·exact nit c _ z
theorem Inv.lock{d:Addr}{u:HO}(I:Inv X pins σ H s)(h:H d=some u)(mu:Mut (some u)):∃od,Inv X pins σ (upd H d (.frz od u)) s:=by
 have x:=I.hok d u h
 have ex:∃od,s.heap.get? d=some od:=by
  cases u with
  |lst xs=>obtain⟨_,_,_,_,e⟩:=x;exact⟨_,e⟩
  |dK kvs=>obtain⟨_,_,_,_,o,_,_,e,_⟩:=x;exact⟨o,e⟩
  |dT kvs=>obtain⟨_,_,_,_,o,_,_,e,_⟩:=x;exact⟨o,e⟩
  |set S n=>obtain⟨o,_,_,_,e,_⟩:=x;exact⟨o,e⟩
  |ins C dx fs=>obtain⟨_,_,_,e,_⟩:=x;exact⟨_,e⟩
  |ext φ=>obtain⟨_,⟨_,e⟩,_⟩:=x;exact⟨_,e⟩
  |_=>exact False.elim mu
 obtain⟨od,e⟩:=ex
 have new:cW X.prog X.w (upd H d (.frz od u)) s.heap d (.frz od u):=by
  refine⟨e,x.stay (λb v _ q=>q) (λb q=>?_) λb xs q=>?_⟩
  ·rw[ao (λz=>by rw[z,h] at q;cases q;exact mu)];exact q
  ·rw[ao (λz=>by rw[z,h] at q;cases q;exact mu)];exact q
 exact⟨od,I.write (x:=d) (e:=d) (t':=s.toks) (h':=s.heap) (by rw[h];exact mu) (.inl rfl) (λb v _ q=>q) ⟨od,e⟩ new⟩
theorem Inv.nofrz{d:Addr}{u:HO}(I:Inv X pins σ H s)(h:H d=some u)(mu:Mut (some u)):∀o' u',X.H_0 d≠some (.frz o' u'):=λo' u' e=>by
 have q:=I.base.frzs d o' u' e
 rw[h] at q
 cases q
 exact mu
theorem Inv.unlock{d:Addr}{od:Obj}{u:HO}(I:Inv X pins σ H s)(h:H d=some (.frz od u))(hn:∀o' u',X.H_0 d≠some (.frz o' u')):Inv X pins σ (upd H d u) s:=by
 have neH:∀b o,H b=some o->(∀o' u',o≠.frz o' u')->b≠d:=λb o e hne z=>by
  rw[z,h] at e
  cases e
  exact hne _ _ rfl
 have neN:∀b,H b=none->b≠d:=λb e z=>by rw[z,h] at e;cases e
 refine⟨I.ok,I.os,I.bare,⟨I.base.keep,I.base.slot,λb o e n hx=>?_,I.base.there,λb xs e=>?_,λb o x e=>?_,λb ps e=>?_⟩,I.loc,I.cell,?_,λx c e=>?_,λp hp=>?_,λb o e=>?_,I.len⟩
 ·rw[ao (neN b (I.base.free b o e n hx))];exact I.base.free b o e n hx
 ·have q:=I.base.tups b xs e
  rw[ao (neH b _ q (λ_ _ z=>nomatch z))];exact q
 ·have q:=I.base.frzs b o x e
  rw[ao (λz=>by rw[z] at e;exact hn _ _ e)];exact q
 ·obtain⟨m,q⟩:=I.base.tbls b ps e
  exact⟨m,by rw[ao (neH b _ q (λ_ _ z=>nomatch z))];exact q⟩
 ·rw[ao (neN _ I.free)];exact I.free
 ·rw[ao (neN c (I.freeC x c e))];exact I.freeC x c e
 ·obtain⟨e,n,r⟩:=I.pin p hp
  exact⟨e,by rw[ao (neN _ n)];exact n,r⟩
 ·by_cases hb:b=d
  ·rw[hb,aj] at e
   cases e
   rw[hb]
   obtain⟨_,x⟩:=I.hok d _ h
   exact x.stay (λc v _ q=>q) (λc q=>by rw[ao (neH c _ q (λ_ _ z=>nomatch z))];exact q) λc xs q=>by rw[ao (neH c _ q (λ_ _ z=>nomatch z))];exact q
  ·rw[ao hb] at e
   exact(I.hok b o e).stay (λc v _ q=>q) (λc q=>by rw[ao (neH c _ q (λ_ _ z=>nomatch z))];exact q) λc xs q=>by rw[ao (neH c _ q (λ_ _ z=>nomatch z))];exact q
end
def tLockE(t:TE):TE:=λσ H Q=>∃d u,H d=some u/\Mut (some u)/\∀od,t σ (upd H d (.frz od u)) λv H'=>H' d=some (.frz od u)/\Q v (upd H' d u)
section
variable {X:Cx}
theorem Jw{e:Expr}{t:TE}(h:PE X e t):PE X e (tLockE t):=by
 intro pins s σ H Q I hw
 obtain⟨d,u,hd,mu,hw⟩:=hw
 obtain⟨od,I1⟩:=I.lock hd mu
 refine thn (h pins s σ _ _ I1 (hw od)) λv s1 hq=>?_
 obtain⟨x,H1,I2,r,e2,q⟩:=hq
 exact⟨x,_,I2.unlock e2 (I.nofrz hd mu),r,q⟩
theorem uT{tg:Expr}{pins:List (Addr×Obj)}{σ:St}{H:Hp}{s:Shared}{R:It->Hp->Prop}{J:It}{tn:Nat->Heap->Prop}{tk:Nat}(I:Inv X pins σ H s)(o:Obj)(T:Turn X.prog X.w X.K tg J [s.heap.objs.size] s.heap.objs.size tn)(st:tn 0 (s.heap.push o))(q:R J H):PIE X pins σ tg R (.ref s.heap.objs.size) { s with heap:=s.heap.push o,toks:=tk }:=by
 refine⟨s.heap.objs.size,[s.heap.objs.size],tn,J,H,rfl,I.kept λb ob e=>Heap.get?_push_of_some _ e,T,st,λb hb=>?_,q⟩
 have e:b=s.heap.objs.size:=by simpa using hb
 subst e
 exact I.fpOk (Nat.le_refl _) (I.hok.fresh (Nat.le_refl _))
end
noncomputable def Its(x:Str):It:=⟨λi _=>i<x.cps.size,λi H v H'=>H'=H/\∃c,x.cps[i]?=some c/\v=.str ⟨#[c]⟩,λi _=>x.cps.size<=i⟩
theorem xm{P:Program}{w:World}{K:PySem.W.Frag}{tg:Expr}(it:Addr)(x:Str)(t:Tok)(ty:String)(hty:ty="str_ascii_iterator"∨ty="str_iterator") :
  Turn P w K tg (Its x) [it] it (λi h=>h.IsStrIter it ty x t i) where
 mem:=by simp
 obj:=λi h st b hb=>by
  have e:b=it:=by simpa using hb
  subst e
  obtain⟨o,e,c,d⟩:=st
  exact⟨o,e,λv z=>by rw[d] at z;cases z⟩
 keep:=λi h h' st k=>let ⟨o,ho,r⟩:=st;⟨o,k it (by simp) o ho,r⟩
 item:=by
  intro X hP hw hK hc i pins s σ H E I hf st hg
  subst hP hw hK
  obtain⟨f0,f1,f2,f3,f4,f5⟩:=hf it (by simp)
  have W:Walks X.prog X.w X.A it [it] [it] x.cps.size (SignAt x) (λi h=>h.IsStrIter it ty x t i):=by
   rcases hty with e|e
   ·rw[e];exact Walks.strAscii (I.ok.hd hc) it x t
   ·rw[e];exact Walks.strWide (I.ok.hd hc) it x t
  have hno:["enumerate","zip","dict_itemiterator","dict_reverseitemiterator","odict_iterator","itertools.zip_longest","itertools.pairwise"].contains ty=false:=by
   rcases hty with e|e
   ·rw[e];decide
   ·rw[e];decide
  refine W.item i s _ _ hg st λv h' tk hv st' kk=>?_
  obtain⟨c,u,hcx,rfl⟩:=hv
  have I1:Inv X pins σ H { s with heap:=h',toks:=tk }:=I.turned (λb o hb e=>kk b o (by simpa using hb) e) f0 f1 f3 f4 f5
  obtain⟨oi,e,cc,dd⟩:=id st'
  exact⟨_,rfl,sS (s:={ s with heap:=h',toks:=tk }) e cc dd hno ⟨.str ⟨#[c]⟩,H,I1,⟨u,rfl⟩,⟨rfl,c,hcx,rfl⟩,st',λb hb=>(hf b hb).1⟩⟩
 done:=by
  intro X hP hw hK hc i pins s σ H E I hf st hg
  subst hP hw hK
  obtain⟨f0,f1,f2,f3,f4,f5⟩:=hf it (by simp)
  have hx:x.cps[i]?=none:=Array.getElem?_eq_none hg
  rcases hty with e|e
  ·rw[e] at st
   exact wpAny_pyNext_ascii_end (I.ok.hd hc) st hx λh' eb=>⟨rfl,I.turned (t':=s.toks) (λb o hb e=>eb b o hb e) f0 f1 f3 f4 f5⟩
  ·rw[e] at st
   exact wpAny_pyNext_wide_end (I.ok.hd hc) st hx λh' eb=>⟨rfl,I.turned (t':=s.toks) (λb o hb e=>eb b o hb e) f0 f1 f3 f4 f5⟩
 self:=λA i s Q E st h=>by
  rcases hty with e|e
  ·rw[e] at st;exact wpAny_pyIter_striter_ascii st h
  ·rw[e] at st;exact wpAny_pyIter_striter_wide st h
def iStr(te:TE):TI:=λσ H R=>te σ H λv H1=>∃x,v=.str x/\R (Its x) H1
theorem pi_str{X:Cx}{tg e:Expr}{te:TE}(he:PE X e te):PI X tg e (iStr te):=by
 intro pins s σ H R I h
 refine thn (he pins s σ H _ I h) λv s1 hq=>?_
 obtain⟨y,H1,I1,r1,x,ex,q⟩:=hq
 subst ex
 obtain⟨t,rfl⟩:=r1
 cases ha:x.cps.all (·<128)
 ·exact wpAny_pyIter_wide ha (uT (tk:=s1.toks) I1 _ (xm _ x t "str_iterator" (.inr rfl)) ⟨_,Heap.get?_push_size _ rfl,rfl,rfl⟩ q)
 ·exact wpAny_pyIter_ascii ha (uT (tk:=s1.toks) I1 _ (xm _ x t "str_ascii_iterator" (.inl rfl)) ⟨_,Heap.get?_push_size _ rfl,rfl,rfl⟩ q)
section
variable {prog:Program}{w:World}{A:Around}{E:Value->Shared->Prop}{s:Shared}
theorem sX{d:Addr}{o:Obj}{es:Array DictEntry}{ep:Nat}{Q:Value->Shared->Prop}(hd:(d==sysModules)=false)(ho:s.heap.get? d=some o)(hc:o.ExactDict)(hdat:o.data=.dict es ep)(hQ:Q (.ref s.heap.objs.size) { s with heap:=s.heap.push { cls:=.type "dict_keyiterator",data:=.fields #[.ref d,.int 0 0,.int es.size 0,.int ep 0] } }) :
  wpAny (model prog w) A (pyIter (.ref d)) Q E s:=by
 have hT:s.TypeIs (.ref d) "dict":=⟨o,ho,hc.1⟩
 refine wpAny_pyIter_slot hT F.slot_dict_iter (wpAny_call_entry F.slot_dict_iter hT F.entry_dict_iter ?_ (F.args_dict_iter_1 _))
 unfold Builtin.«dict.__iter__»
 refine wpAny_bind ?_
 unfold Builtin.Dict.dictSlotNone
 refine wpAny_bind (wpAny_notOrdered_dict hT ?_)
 show wpAny _ _ (pure (Value.ref d)) _ _ s
 refine wpAny_pure ?_
 show wpAny _ _ (Builtin.Dict.showsAll d >>= _) _ _ s
 unfold Builtin.Dict.showsAll
 rw[if_neg (by rw[hd];exact Bool.false_ne_true)]
 refine wpAny_bind (wpAny_pure ?_)
 refine wpAny_bind (wpAny_dictEntries ho hdat ?_)
 refine wpAny_bind (wpAny_dictEpoch ho hdat ?_)
 refine wpAny_bind (wpAny_newObj_type (wpAny_pure ⟨_,rfl,"dict_keyiterator",_,⟨_,Heap.get?_push_size _ rfl,rfl⟩,F.slot_dict_keyiterator_next.lookup,?_⟩))
 simpa[rawInt] using hQ
theorem rN{it d:Addr}{i n ep:Nat}{od:Obj}{es:Array DictEntry}{en:DictEntry}{Q:Option Value->Shared->Prop}(hit:s.heap.IsKeyIter it d i n ep)(hod:s.heap.get? d=some od)(hdd:od.data=.dict es ep)(hsz:es.size=n)(hx:es[i]?=some en)(hQ:∀h',h'.IsKeyIter it d (i+1) n ep->Heap.SameBut it s.heap h'->Q (some en.key) { s with heap:=h' }):wpAny (model prog w) A (pyNext (.ref it)) Q E s:=by
 obtain⟨o,ho,hc,hd⟩:=id hit
 unfold pyNext
 refine wpAny_bind (wpAny_attempt (wpAny_callSpecial?_slot (name:=Str.ofString "__next__") hit.typeIs F.slot_dict_keyiterator_next
  (wpAny_call_entry F.slot_dict_keyiterator_next hit.typeIs F.entry_dict_keyiterator_next ?_ (F.args_dict_keyiterator_next_1 _))))
 refine wpAny_bind (wpAny_pure ?_)
 refine wpAny_bind ?_
 refine wpAny_bind ?_
 first|refine wpAny_bind (wpAny_typeNameOfWhole_keyiter hit.typeIs (wpAny_pure ?_))|refine wpAny_bind (wpAny_typeNameOf_keyiter hit.typeIs (wpAny_pure ?_))
 refine wpAny_bind (wpAny_fieldsOf ho hd ?_)
 have hown:Builtin.Dict_items.ownsTuple "dict_keyiterator"=false:=by decide
 simp only[hown,Bool.false_eq_true,if_false]
 show wpAny _ _ (if (Value.ref d==Value.none)=true then _ else _) _ _ s
 rw[if_neg (show ¬((Value.ref d==Value.none)=true) from Bool.false_ne_true)]
 refine wpAny_bind (wpAny_pure ?_)
 refine wpAny_bind (wpAny_dictEntries hod hdd ?_)
 rw[if_neg (by rw[hsz];simp)]
 refine wpAny_bind (wpAny_pure ?_)
 refine wpAny_bind (wpAny_dictEpoch hod hdd ?_)
 rw[if_neg (by simp)]
 refine wpAny_pure ?_
 obtain⟨hlt',hen⟩:=Array.getElem?_eq_some_iff.mp hx
 simp only[show ¬((i:Int)<0) from by omega,if_false,Int.toNat_natCast,Array.getElem?_eq_getElem hlt']
 refine wpAny_bind ?_
 first|refine wpAny_bind (wpAny_typeNameOfWhole_keyiter hit.typeIs (wpAny_pure ?_))|refine wpAny_bind (wpAny_typeNameOf_keyiter hit.typeIs (wpAny_pure ?_))
 refine wpAny_bind (wpAny_isOneOf_keyiter hit.typeIs ?_)
 show wpAny _ _ (setField (.ref it) 1 (rawInt ((i:Int)+1)) >>= _) _ _ s
 refine wpAny_bind (wpAny_setField ho hd (by simp) ?_)
 have hit':(s.heap.update it (Obj.mapFields (·.setIfInBounds 1 (rawInt ((i:Int)+1))))).IsKeyIter it d (i+1) n ep :=
  ⟨_,Heap.get?_update_self _ ho (Obj.isFreed_of_fields (Obj.data_mapFields hd _)),(Obj.cls_mapFields ..).trans hc,by rw[Obj.data_mapFields hd];simp[rawInt]⟩
 refine wpAny_bind (wpAny_holding ?_)
 refine wpAny_bind (wpAny_isOneOf_keyiter (s:={ s with heap:=s.heap.update it (Obj.mapFields (·.setIfInBounds 1 (rawInt ((i:Int)+1)))) }) hit'.typeIs ?_)
 show wpAny _ _ (pure es[i].key) _ _ _
 rw[hen]
 exact wpAny_pure (wpAny_pure ⟨_,rfl,wpAny_pure (hQ _ hit' (Heap.SameBut.update ..))⟩)
theorem lw{it d:Addr}{i n ep:Nat}{od:Obj}{es:Array DictEntry}{Q:Option Value->Shared->Prop}(hh:A.handled=none)(hit:s.heap.IsKeyIter it d i n ep)(hod:s.heap.get? d=some od)(hdd:od.data=.dict es ep)(hsz:es.size=n)(hge:n<=i)(hQ:∀h',Heap.ExtBut it s.heap h'->Q none { s with heap:=h' }):wpAny (model prog w) A (pyNext (.ref it)) Q E s:=by
 obtain⟨o,ho,hc,hd⟩:=id hit
 unfold pyNext
 refine wpAny_bind (wpAny_attempt (wpAny_callSpecial?_slot (name:=Str.ofString "__next__") hit.typeIs F.slot_dict_keyiterator_next
  (wpAny_call_entry F.slot_dict_keyiterator_next hit.typeIs F.entry_dict_keyiterator_next ?_ (F.args_dict_keyiterator_next_1 _))))
 refine wpAny_bind (wpAny_pure ?_)
 refine wpAny_bind ?_
 refine wpAny_bind ?_
 first|refine wpAny_bind (wpAny_typeNameOfWhole_keyiter hit.typeIs (wpAny_pure ?_))|refine wpAny_bind (wpAny_typeNameOf_keyiter hit.typeIs (wpAny_pure ?_))
 refine wpAny_bind (wpAny_fieldsOf ho hd ?_)
 have hown:Builtin.Dict_items.ownsTuple "dict_keyiterator"=false:=by decide
 simp only[hown,Bool.false_eq_true,if_false]
 show wpAny _ _ (if (Value.ref d==Value.none)=true then _ else _) _ _ s
 rw[if_neg (show ¬((Value.ref d==Value.none)=true) from Bool.false_ne_true)]
 refine wpAny_bind (wpAny_pure ?_)
 refine wpAny_bind (wpAny_dictEntries hod hdd ?_)
 rw[if_neg (by rw[hsz];simp)]
 refine wpAny_bind (wpAny_pure ?_)
 refine wpAny_bind (wpAny_dictEpoch hod hdd ?_)
 rw[if_neg (by simp)]
 refine wpAny_pure ?_
 have hge':es.size<=i:=by rw[hsz];exact hge
 simp only[show ¬((i:Int)<0) from by omega,if_false,Int.toNat_natCast,Array.getElem?_eq_none hge']
 refine wpAny_bind ?_
 first|refine wpAny_bind (wpAny_typeNameOfWhole_keyiter hit.typeIs (wpAny_pure ?_))|refine wpAny_bind (wpAny_typeNameOf_keyiter hit.typeIs (wpAny_pure ?_))
 show wpAny _ _ (setField (.ref it) 0 .none >>= _) _ _ s
 refine wpAny_bind (wpAny_setField ho hd (by simp) ?_)
 show wpAny _ _ (newExc (.type "StopIteration") [] >>= _) _ _ _
 refine wpAny_bind ?_
 simp only[newExc,newTuple]
 refine wpAny_bind (wpAny_newObj_type ?_ (by size_fits))
 refine wpAny_bind (m:=firstArgMember _ _) (wpAny_of_eq (a:=Value.none) (by first|rfl|(simp only[firstArgMember];rfl)) ?_)
 refine wpAny_newObj_type ?_ (by size_fits)
 simp only[raiseNew]
 refine wpAny_bind (wpAny_handled ?_)
 rw[show A.in1.handled=none from hh]
 refine wpAny_bind (wpAny_pure (wpAny_throw ?_))
 refine wpAny_bind (wpAny_isInstance (T:="StopIteration") (b:=true) ⟨_,Heap.get?_push_size _ rfl,rfl⟩ isSubtype_stop ?_)
 exact wpAny_pure (hQ _ (((Heap.SameBut.update ..).extBut.push _).push _))
end
theorem kv_get{κ:Type}{kvs:List (κ×V)}{vs:List (κ×Value)}(h:KV kvs vs):∀{i:Nat} {k:κ} {v:V},kvs[i]?=some (k,v)->∃u,vs[i]?=some (k,u)/\RelV v u:=by
 unfold KV at h
 induction h with
 |nil=>intro i k v e;simp at e
 |@cons a b l₁ l₂ r t ih =>
  intro i k v e
  cases i with
  |zero =>
   simp only[List.getElem?_cons_zero,Option.some.injEq] at e
   subst e
   refine⟨b.2,?_,r.2⟩
   simp only[List.getElem?_cons_zero]
   exact congrArg some (Prod.ext r.1.symm rfl)
  |succ j =>
   simp only[List.getElem?_cons_succ] at e ⊢
   exact ih e
theorem gK{α β:Type}{G:α->β->Prop}{l₁:List α}{l₂:List β}(h:Paired G l₁ l₂):∀{i:Nat} {a:α},l₁[i]?=some a->∃b,l₂[i]?=some b/\G a b:=by
 induction h with
 |nil=>intro i a e;simp at e
 |@cons a b l₁ l₂ r t ih =>
  intro i a' e
  cases i with
  |zero =>
   simp only[List.getElem?_cons_zero,Option.some.injEq] at e
   subst e
   exact⟨b,rfl,r⟩
  |succ j =>
   simp only[List.getElem?_cons_succ] at e ⊢
   exact ih e
theorem Hq{k:Key}{u:Value}(h:ni k u=true):RelV (kV k) u:=by
 rcases cN h with ⟨i,t,rfl,rfl⟩|⟨x,t,rfl,rfl⟩
 ·exact⟨t,rfl⟩
 ·exact⟨t,rfl⟩
section
variable {X:Cx}{pins:List (Addr×Obj)}{σ:St}{H:Hp}{s:Shared}{d:Addr}{o:Obj}
theorem Inv.frzK{kvs:List (Key×V)}(I:Inv X pins σ H s)(h:H d=some (.frz o (.dK kvs))) :
  (d==sysModules)=false/\s.heap.get? d=some o/\o.ExactDict/\∃(es:Array DictEntry) (ep:Nat) (vs:List (Key×Value)),o.data=.dict es ep/\es.size=kvs.length/\KV kvs vs/\s.heap.DictAt (bO X.prog X.w) d vs ep:=by
 obtain⟨hd,z,hs,vs,kv,o',es,ep,ho,hx,hdt,r⟩:=I.hok d _ h
 rw[hd] at ho
 cases ho
 refine⟨hs,hd,hx,es,ep,vs,hdt,?_,kv,o,es,hd,hx,hdt,r⟩
 have l1:=r.2.1.length
 have l2:kvs.length=vs.length:=Paired.length kv
 rw[Array.length_toList] at l1
 omega
theorem Inv.frzT{kvs:List (List Key×V)}(I:Inv X pins σ H s)(h:H d=some (.frz o (.dT kvs))) :
  (d==sysModules)=false/\s.heap.get? d=some o/\o.ExactDict/\∃(es:Array DictEntry) (ep:Nat),o.data=.dict es ep/\es.size=kvs.length /\
   ∀(i:Nat) (k:List Key) (v:V),kvs[i]?=some (k,v)->∃(en:DictEntry) (q:Addr),es[i]?=some en/\en.key=.ref q/\H q=some (.tup (k.map kV)):=by
 obtain⟨hd,z,hs,xs,pr,o',es,ep,ho,hx,hdt,he,_⟩:=I.hok d _ h
 rw[hd] at ho
 cases ho
 refine⟨hs,hd,hx,es,ep,hdt,?_,λi k v e=>?_⟩
 ·have l1:es.size=xs.length:=size_of_entries he
  have l2:kvs.length=xs.length:=Paired.length pr
  omega
 ·obtain⟨b,hb,e1,e2,_⟩:=gK pr e
  have q:=entry_at he i
  rw[hb] at q
  exact⟨_,b.2.1,q,rfl,e2⟩
end
noncomputable def Itk(d:Addr)(o:Obj)(kvs:List (Key×V)):It :=
 ⟨λi H=>H d=some (.frz o (.dK kvs))/\i<kvs.length,λi H x H'=>H'=H/\∃k v,kvs[i]?=some (k,v)/\x=kV k,λi H=>H d=some (.frz o (.dK kvs))/\kvs.length<=i⟩
noncomputable def DQ(d:Addr)(o:Obj)(kvs:List (List Key×V)):It :=
 ⟨λi H=>H d=some (.frz o (.dT kvs))/\i<kvs.length,λi H x H'=>H'=H/\∃(k:List Key) (v:V) (q:Addr),kvs[i]?=some (k,v)/\x=.ref q/\H q=some (.tup (k.map kV)),λi H=>H d=some (.frz o (.dT kvs))/\kvs.length<=i⟩
theorem ou{o:Obj}{es es':Array DictEntry}{ep ep':Nat}(h:o.data=.dict es ep)(h':o.data=.dict es' ep'):es'=es/\ep'=ep:=by
 rw[h] at h'
 cases h'
 exact⟨rfl,rfl⟩
section
variable {P:Program}{w:World}{K:PySem.W.Frag}{tg:Expr}{d:Addr}{o:Obj}{es:Array DictEntry}{ep:Nat}
theorem Dt{kvs:List (Key×V)}(it:Addr)(hod:o.data=.dict es ep):Turn P w K tg (Itk d o kvs) [it] it (λi h=>h.IsKeyIter it d i kvs.length ep) where
 mem:=by simp
 obj:=λi h st b hb=>by
  have e:b=it:=by simpa using hb
  subst e
  obtain⟨oi,e,c,dd⟩:=st
  exact⟨oi,e,λv z=>by rw[dd] at z;cases z⟩
 keep:=λi h h' st k=>st.at λoi e=>k it (by simp) oi e
 item:=by
  intro X hP hw hK hc i pins s σ H E I hf st hg
  subst hP hw hK
  obtain⟨hd,hi⟩:=hg
  obtain⟨f0,f1,f2,f3,f4,f5⟩:=hf it (by simp)
  obtain⟨hs,hgd,hx,es',ep',vs,hdt,hsz,kv,hm⟩:=I.frzK hd
  obtain⟨rfl,rfl⟩:=ou hod hdt
  obtain⟨⟨k,v⟩,hkv⟩:∃p,kvs[i]?=some p:=⟨kvs[i],List.getElem?_eq_getElem hi⟩
  obtain⟨u,hu,ru⟩:=kv_get kv hkv
  have hl:kvs.length=vs.length:=Paired.length kv
  rw[hl] at st
  refine wpAny_pyNext_dict_item st hm hu λkey h' hkey st' sb=>?_
  have I1:Inv X pins σ H { s with heap:=h' }:=I.turned (t':=s.toks) (λb ob hb e=>(sb.2 b hb).trans e) f0 f1 f3 f4 f5
  obtain⟨oi,e,c,dd⟩:=id st'
  refine⟨key,rfl,sS (s:={ s with heap:=h' }) e c dd (by decide) ⟨kV k,H,I1,Hq (show ni k key=true from hkey),⟨rfl,k,v,hkv,rfl⟩,?_,λb hb=>(hf b hb).1⟩⟩
  show h'.IsKeyIter it d (i+1) kvs.length _
  rw[hl]
  exact st'
 done:=by
  intro X hP hw hK hc i pins s σ H E I hf st hg
  subst hP hw hK
  obtain⟨hd,hi⟩:=hg
  obtain⟨f0,f1,f2,f3,f4,f5⟩:=hf it (by simp)
  obtain⟨hs,hgd,hx,es',ep',vs,hdt,hsz,kv,hm⟩:=I.frzK hd
  obtain⟨rfl,rfl⟩:=ou hod hdt
  exact lw (I.ok.hd hc) st hgd hdt hsz hi λh' eb=>⟨rfl,I.turned (t':=s.toks) (λb ob hb e=>eb b ob hb e) f0 f1 f3 f4 f5⟩
 self:=λA i s Q E st h=>wpAny_pyIter_keyiter st h
theorem zj{kvs:List (List Key×V)}(it:Addr)(hod:o.data=.dict es ep):Turn P w K tg (DQ d o kvs) [it] it (λi h=>h.IsKeyIter it d i kvs.length ep) where
 mem:=by simp
 obj:=λi h st b hb=>by
  have e:b=it:=by simpa using hb
  subst e
  obtain⟨oi,e,c,dd⟩:=st
  exact⟨oi,e,λv z=>by rw[dd] at z;cases z⟩
 keep:=λi h h' st k=>st.at λoi e=>k it (by simp) oi e
 item:=by
  intro X hP hw hK hc i pins s σ H E I hf st hg
  subst hP hw hK
  obtain⟨hd,hi⟩:=hg
  obtain⟨f0,f1,f2,f3,f4,f5⟩:=hf it (by simp)
  obtain⟨hs,hgd,hx,es',ep',hdt,hsz,ent⟩:=I.frzT hd
  obtain⟨rfl,rfl⟩:=ou hod hdt
  obtain⟨⟨k,v⟩,hkv⟩:∃p,kvs[i]?=some p:=⟨kvs[i],List.getElem?_eq_getElem hi⟩
  obtain⟨en,q,hen,hkey,hq⟩:=ent i k v hkv
  refine rN st hgd hdt hsz hen λh' st' sb=>?_
  have I1:Inv X pins σ H { s with heap:=h' }:=I.turned (t':=s.toks) (λb ob hb e=>(sb.2 b hb).trans e) f0 f1 f3 f4 f5
  obtain⟨oi,e,c,dd⟩:=id st'
  exact⟨en.key,rfl,sS (s:={ s with heap:=h' }) e c dd (by decide) ⟨.ref q,H,I1,hkey,⟨rfl,k,v,q,hkv,rfl,hq⟩,st',λb hb=>(hf b hb).1⟩⟩
 done:=by
  intro X hP hw hK hc i pins s σ H E I hf st hg
  subst hP hw hK
  obtain⟨hd,hi⟩:=hg
  obtain⟨f0,f1,f2,f3,f4,f5⟩:=hf it (by simp)
  obtain⟨hs,hgd,hx,es',ep',hdt,hsz,ent⟩:=I.frzT hd
  obtain⟨rfl,rfl⟩:=ou hod hdt
  exact lw (I.ok.hd hc) st hgd hdt hsz hi λh' eb=>⟨rfl,I.turned (t':=s.toks) (λb ob hb e=>eb b ob hb e) f0 f1 f3 f4 f5⟩
 self:=λA i s Q E st h=>by
  refine wpAny_pyIter_slot st.typeIs F.slot_dict_keyiterator_iter (wpAny_call_entry F.slot_dict_keyiterator_iter st.typeIs F.entry_dict_keyiterator_iter ?_ (F.args_dict_keyiterator_iter_1 _))
  show wpAny _ _ (ret (.ref it)) _ _ s
  exact wpAny_pure ⟨_,rfl,"dict_keyiterator",_,st.typeIs,F.slot_dict_keyiterator_next.lookup,h⟩
end
def iKeys(td:TE):TI:=λσ H R=>td σ H λx H1=>∃d o,x=.ref d/\((∃kvs,H1 d=some (.frz o (.dK kvs))/\R (Itk d o kvs) H1)∨∃kvs,H1 d=some (.frz o (.dT kvs))/\R (DQ d o kvs) H1)
section
variable {X:Cx}{tg e:Expr}{td:TE}{apos cpos:Pos}
theorem Jz(he:PE X e td):PI X tg e (iKeys td):=by
 intro pins s σ H R I h
 refine thn (he pins s σ H _ I h) λu s1 hq=>?_
 obtain⟨x,H1,I1,rx,d,o,ex,q⟩:=hq
 subst ex
 obtain rfl:u=Value.ref d:=rx
 rcases q with ⟨kvs,hd,q⟩|⟨kvs,hd,q⟩
 ·obtain⟨hs,hgd,hx,es,ep,vs,hdt,hsz,kv,hm⟩:=I1.frzK hd
  refine sX hs hgd hx hdt (uT (tk:=s1.toks) I1 _ (Dt _ hdt) ⟨_,Heap.get?_push_size _ rfl,rfl,?_⟩ q)
  rw[hsz]<;>rfl
 ·obtain⟨hs,hgd,hx,es,ep,hdt,hsz,ent⟩:=I1.frzT hd
  refine sX hs hgd hx hdt (uT (tk:=s1.toks) I1 _ (zj _ hdt) ⟨_,Heap.get?_push_size _ rfl,rfl,?_⟩ q)
  rw[hsz]<;>rfl
end
noncomputable def Ite(K:PySem.W.Frag)(a:Addr):It :=
 ⟨λi H=>∃(xs:List V) (x:V),SqL K H a xs/\xs[i]?=some x,λi H v H'=>∃T x,v=.ref T/\H T=none/\H'=upd H T (.tup [.int (i:Nat),x])/\∀xs,SqL K H a xs->xs[i]?=some x,λi H=>∃xs:List V,SqL K H a xs/\xs.length<=i⟩
theorem Ds{P:Program}{w:World}{K:PySem.W.Frag}{elts:List Expr}{kk:Nat}{tpos:Pos}(a e it:Addr) :
  Turn P w K (.Tuple elts kk tpos) (Ite K a) [e,it] e (λi h=>(∃old,IsEnum h e it ((i:Nat):Int) old)/\h.IsListIter it a i/\e≠it) where
 mem:=by simp
 obj:=λi h st b hb=>by
  obtain⟨⟨old,he⟩,⟨o,ho,hc,hd⟩,_⟩:=st
  have e':b=e∨b=it:=by simpa using hb
  rcases e' with z|z
  ·rw[z];exact⟨_,he,λv q=>nomatch q⟩
  ·rw[z];exact⟨o,ho,λv q=>by rw[hd] at q;cases q⟩
 keep:=λi h h' st k=>let ⟨⟨old,he⟩,hi,hne⟩:=st;⟨⟨old,k e (by simp) _ he⟩,hi.at λo q=>k it (by simp) o q,hne⟩
 item:=by
  intro X hP hw hK hc i pins s σ H E I hf st hg
  subst hP hw hK
  obtain⟨⟨old,he⟩,hit,hne⟩:=st
  obtain⟨xs,x,hq,hx⟩:=hg
  obtain⟨its,rv,p,hz⟩:=I.list hq
  obtain⟨u,hu,ru⟩:=rv.get hx
  have hel:e<s.heap.objs.size:=Heap.lt_size he
  have hil:it<s.heap.objs.size:=by obtain⟨_,q,_⟩:=hit;exact Heap.lt_size q
  refine wpAny_pyNext_enum_item he hit p.isList (x:=u) (by simpa using hu) hne λh' ho hit' hT hsz hk=>?_
  refine⟨_,rfl,wpAny_letOwnedTupleGo_enum (s:={ s with heap:=h',toks:=s.toks+1 }) ho λh'' he' sb=>?_⟩
  have hT2:h''.get? s.heap.objs.size=some { cls:=.type "tuple",data:=.seq #[.int i s.toks,u] }:=(sb.2 _ (Nat.ne_of_gt hel)).trans hT
  have new:cW X.prog X.w (upd H s.heap.objs.size (.tup [.int (i:Nat),x])) h'' s.heap.objs.size (.tup [.int (i:Nat),x]) :=
   ⟨by show 2<=sizeLine;decide,[.int i s.toks,u],.cons ⟨_,rfl⟩ (.cons ru .nil),⟨_,hT2,rfl,_,rfl⟩⟩
  have I1:Inv X pins σ (upd H s.heap.objs.size (.tup [.int (i:Nat),x])) { s with heap:=h'',toks:=s.toks+1 } :=
   I.turnedNew (ch:=[e,it]) (λb ob hb q=>(sb.2 b (λz=>hb (by simp[z]))).trans (hk b ob (λz=>hb (by simp[z])) (λz=>hb (by simp[z])) q)) hf (Nat.le_refl _) new
  refine⟨.ref s.heap.objs.size,_,I1,rfl,⟨_,x,rfl,I.hok.fresh (Nat.le_refl _),rfl,λys hy=>by rw[I.list_inj hy hq];exact hx⟩,⟨⟨u,?_⟩,hit'.at λo q=>(sb.2 it (Ne.symm hne)).trans q,hne⟩,λb hb=>?_⟩
  ·have e1:((i+1:Nat):Int)=(i:Int)+1:=by omega
   rw[e1];exact he'
  ·have hb':b<s.heap.objs.size:=by
    have e':b=e∨b=it:=by simpa using hb
    rcases e' with z|z
    ·rw[z];exact hel
    ·rw[z];exact hil
   rw[ao (Nat.ne_of_lt hb')]
   exact(hf b hb).1
 done:=by
  intro X hP hw hK hc i pins s σ H E I hf st hg
  subst hP hw hK
  obtain⟨⟨old,he⟩,hit,hne⟩:=st
  obtain⟨xs,hq,hx⟩:=hg
  obtain⟨its,rv,p,hz⟩:=I.list hq
  obtain⟨f0,f1,f2,f3,f4,f5⟩:=hf it (by simp)
  have hl:=rv.length
  exact wpAny_pyNext_enum_end (I.ok.hd hc) he hit p.isList (by simp;omega) λh' eb=>⟨rfl,I.turned (t':=s.toks) (λb o hb q=>eb b o hb q) f0 f1 f3 f4 f5⟩
 self:=λA i s Q E st h=>let ⟨⟨_,he⟩,_⟩:=st;wpAny_pyIter_enum he h
def iEnum(K:PySem.W.Frag)(ta:TA):TI:=λσ H R=>ta σ H λvs H1=>∃a xs,vs=[.ref a]/\SqL K H1 a xs/\R (Ite K a) H1
theorem Jy{X:Cx}{e:Expr}{ta:TA}{p pos tpos:Pos}{elts:List Expr}{kk:Nat}(hg:Gl X "enumerate")(hm:X.mg "enumerate"=none)(ha:PA X [e] ta)(hs:starEach [e] X.env=[(false,eval e X.env)]:=by rfl) :
  PI X (.Tuple elts kk tpos) (.Call (.Name "enumerate" p) [e] [] pos) (iEnum X.K ta):=by
 intro pins s σ H R I h
 refine Call_ (jX I hg hm boot_enumerate (PyProof.Rows.callWith_type1 (thn (ha pos pins s σ H _ I h) λus s1 hq=>?_) hs rfl))
 obtain⟨vs,H1,I1,r1,q1⟩:=hq
 obtain⟨a,xs,ex,hq,q⟩:=q1
 subst ex
 cases r1 with
 |cons r rr =>
  cases rr
  cases r
  obtain⟨its,rv,p',hz⟩:=I1.list hq
  refine call_enumerate_list p'.isList λh' he hit hsz hk=>wpAny_pyIter_enum he ?_
  have I2:Inv X pins σ H1 { s1 with heap:=h' }:=I1.kept (t':=s1.toks) hk
  refine⟨s1.heap.objs.size+1,[s1.heap.objs.size+1,s1.heap.objs.size],_,_,H1,rfl,I2,Ds a (s1.heap.objs.size+1) s1.heap.objs.size,⟨⟨.none,he⟩,hit,Nat.succ_ne_self _⟩,λb hb=>?_,q⟩
  have e':b=s1.heap.objs.size+1∨b=s1.heap.objs.size:=by simpa using hb
  have hle:s1.heap.objs.size<=b:=by
   rcases e' with z|z
   ·rw[z];exact Nat.le_add_right _ _
   ·rw[z];exact Nat.le_refl _
  exact I1.fpOk hle (I1.hok.fresh hle)
theorem Bv:bootBuiltins "zip"=some (.type "zip"):=dk
end L2
section
namespace Bits
open PySem PyProof.Rows
end Bits
end
section
namespace TL
open PySem PySem.Builtin PySem.Builtin.Str PySem.StrLaws
noncomputable abbrev tl(x:Str):List Nat:=x.cps.toList
theorem ext_tl{x y:Str}(h:tl x=tl y):x=y:=Str.ext' (Array.toList_inj.mp h)
theorem um(x y:Str):tl (x++y)=tl x++tl y:=by
 show(x++y).cps.toList=_
 rw[Str.cps_append,Array.toList_append]
noncomputable def vY(S:List Nat):List (List Nat)->List Nat
 |[]=>[]
 |[p]=>p
 |p::q::r=>p++(S++vY S (q::r))
theorem Bo(y:Str):∀parts:List Str,tl (Str.join y parts)=vY (tl y) (parts.map tl)
 |[]=>rfl
 |[_]=>rfl
 |x::z::r=>by
  show tl (x++y++Str.join y (z::r))=tl x++(tl y++vY (tl y) ((z::r).map tl))
  rw[um,um,Bo y (z::r),List.append_assoc]
theorem IW(y:Str)(parts:List Str):Txt.join y parts=Str.join y parts:=glued_eq_join y parts
end TL
end
namespace L2
open PySem PySem.Spec PyProof.Rows
theorem iV:∀{ys:List Str} {us:List Value},Vals (ys.map V.str) us->StrsAre us ys
 |[],_,.nil=>.nil
 |y::ys,_,.cons r t=>by
  obtain⟨k,rfl⟩:=r
  exact .cons y k (iV t)
section
variable {X:Cx}
theorem Jb:MtR X "str.join" (λx xs H Q=>∃a p,∃ys:List Str,x=.str a/\xs=[.ref p]/\(SqL X.K H p (ys.map V.str)∨SqT X.K H p (ys.map V.str)) /\
  (ys.map (·.length)).sum+ys.length*a.length<=16777216/\Q (.str (Txt.join a ys)) H):=by
 intro pins s σ H x xs v us Q I rx rs h
 obtain⟨a,p,ys,rfl,rfl,hp,hz,h⟩:=h
 obtain⟨t,rfl⟩:=rx
 cases rs with
 |cons r1 rs =>
  cases rs
  cases r1
  rcases hp with hp|hp
  ·obtain⟨its,r,⟨o,n,ho,hc,_,hd⟩,_⟩:=I.list hp
   exact PyProof.Rows.join_list (items:=its.toArray) ⟨o,ho,hc,n,hd⟩ (by rw[List.toList_toArray];exact iV r) hz λt' k=>⟨.str _,H,I.tok k,⟨t',rfl⟩,h⟩
  ·obtain⟨its,r,ht,_⟩:=I.tuple hp
   exact PyProof.Rows.join_tuple (items:=its.toArray) ht (by rw[List.toList_toArray];exact iV r) hz λt' k=>⟨.str _,H,I.tok k,⟨t',rfl⟩,h⟩
end
section
variable {X:Cx}{o e:Expr}{to te:TE}
def tM1(r:V->List V->Hp->VK->Prop)(to te:TE):TE:=λσ H Q=>to σ H λx H1=>(∃a,x=.str a)/\te σ H1 λy H2=>r x [y] H2 Q
theorem pe_m1{id:String}{name:Str}{apos pos:Pos}{r:V->List V->Hp->VK->Prop}(slot:Slot "str" name id)(ty:typeOf (.builtin id)=pure (.type "method_descriptor"))(rule:MtR X id r)(ho:PE X o to)(he:PE X e te)(hs:starEach [e] X.env=[(false,eval e X.env)]:=by rfl)(hbase:attributeBase o name X.env (eval o X.env)=eval o X.env:=by rfl)(hline:(apos.endLine==pos.line)=true:=by rfl) :
  PE X (.Call (.Attribute o name apos) [e] [] pos) (tM1 r to te):=by
 intro pins s σ H Q I h
 refine PySem.Call_method1 hbase hs hline (thn (ho pins s σ H _ I h) λv s1 hq=>?_)
 obtain⟨x,H1,I1,r1,q1⟩:=hq
 obtain⟨⟨a,rfl⟩,q1⟩:=q1
 obtain⟨t,rfl⟩:=_root_.id r1
 refine⟨"str",_,F.plainAttrs_str,slot,ty,typeIs_str _ _ _,(λ_ e=>nomatch e),Calls.callWith_builtin rfl (Calls.evalArgs_plain (Calls.spliced_cons ?_))⟩
 exact thn (he pins s1 σ H1 _ I1 q1) λu s2 ⟨y,H2,I2,r2,q2⟩=>Calls.spliced_nil (rule pins s2 σ H2 _ [y] _ [u] Q I2 r1 (.cons r2 .nil) q2)
theorem Jv{apos pos:Pos}(ho:PE X o to)(he:PE X e te)(hs:starEach [e] X.env=[(false,eval e X.env)]:=by rfl)(hbase:attributeBase o "join" X.env (eval o X.env)=eval o X.env:=by rfl)(hline:(apos.endLine==pos.line)=true:=by rfl) :
  PE X (.Call (.Attribute o "join" apos) [e] [] pos) (tM1 (λx xs H Q=>∃a p,∃ys:List Str,x=.str a/\xs=[.ref p]/\(SqL X.K H p (ys.map V.str)∨SqT X.K H p (ys.map V.str)) /\
   (ys.map (·.length)).sum+ys.length*a.length<=16777216/\Q (.str (Txt.join a ys)) H) to te) :=
 pe_m1 F.slot_str_join F.type_str_join Jb ho he hs hbase hline
end
end L2
namespace Att
open PySem PySem.W PySem.Calls PyProof.Rows
end Att
namespace L2
open PySem PySem.Spec PyProof.Rows
noncomputable def inClass(s:Stmt)(j:Nat):Stmt:=match s with
 |.ClassDef _ _ _ body _ _ _ _ _ _ _=>body.getD j (.Pass ⟨0,0,0,0⟩)
 |_=>.Pass ⟨0,0,0,0⟩
noncomputable def jD(s:Stmt):Arguments:=match s with
 |.FunctionDef _ a _ _ _ _ _ _ _ _=>a
 |_=>{ posonlyargs:=[],args:=[],vararg:=none,kwonlyargs:=[],kw_defaults:=[],kwarg:=none,defaults:=[] }
noncomputable def cY(s:Stmt):List Stmt:=match s with
 |.FunctionDef _ _ b _ _ _ _ _ _ _=>b
 |_=>[]
noncomputable def aA(s:Stmt):Scope:=match s with
 |.FunctionDef _ _ _ _ _ _ sc _ _ _=>sc
 |_=>{ kind:=.function,names:=[],isGenerator:=false,isCoroutine:=false }
abbrev CX0:CXT:=λ_ _ _ _ _ _=>False
abbrev E0:XK:=λ_ _ _=>False
theorem aX{X:Cx}:iz CX0 X E0:=λ_ _ _ _ _ _ _ h=>h.elim
structure Fun(K:PySem.W.Frag)(x qual:Str)(st:Stmt)(f:Addr)(fd:FuncData):Prop where
 ex:∃(oc:Value) (od:Option Addr) (kV doc pm:Value) (an:Option Addr) (cdv ct:Value) (osl:Array (Option Value)),
  fd=PySem.W.fnOf x qual (jD st) (cY st) (aA st) .none kV doc pm an cdv ct/\K.lookup f=some ⟨oc,od,.func fd,osl⟩/\PySem.W.codeIn K cdv qual=true
 kp:PySem.W.keepIn K (.ref f)=true
section
variable {P:Program}{w:World}{K:PySem.W.Frag}{mg:Str->Option Value}{base:Heap}
theorem Fun.ok{x qual:Str}{st:Stmt}{f:Addr}{fd:FuncData}{N ps:List Str}{k:Nat}{sp:Sp}(F:Fun K x qual st f fd)(S:aJ N ps (aA st))(len:∀vs H Q E,sp vs H Q E->vs.length=ps.length)(hbody:∀(cdv:Value) (A:Around) (outer:List Env) (s:Shared) (H:Hp) (vs:List V) (Q:VK) (E:XK),bY k (A.deeper (envOfC qual (aA st) s.heap.objs.size f cdv))->sp vs H Q E ->
   ∃t,PSs (lO CX0 P w K mg base N qual (aA st) f cdv A outer s H E).nox (cY st) t/\t { nx:=λ_ H'=>Q .non H',rt:=Q } (start N vs) H):aF P w K mg base CX0 (k+1) f fd ps sp:=by
 obtain⟨oc,od,kV,doc,pm,an,cdv,ct,osl,rfl,lk,hcd⟩:=F.ex
 refine fn_of lk hcd S len λA outer s H vs Q E hr hsp=>?_
 obtain⟨t,h,q⟩:=hbody cdv A outer s H vs Q E hr hsp
 exact⟨t,h.nox,q⟩
theorem Fun.binds{x qual:Str}{st:Stmt}{f:Addr}{fd:FuncData}{ps:List Str}(F:Fun K x qual st f fd)(h:∀(kV doc pm:Value) (an:Option Addr) (cdv ct:Value) (us:List Value),us.length=ps.length->bindArgs (PySem.W.fnOf x qual (jD st) (cY st) (aA st) .none kV doc pm an cdv ct) ⟨us,[]⟩=pure (ps.zip us)):Binds K fd ps []:=by
 obtain⟨oc,od,kV,doc,pm,an,cdv,ct,osl,rfl,lk,hcd⟩:=F.ex
 exact .all (h kV doc pm an cdv ct)
theorem fun_mk{x qual:Str}{st:Stmt}{f:Addr}{oc:Value}{od an:Option Addr}{osl:Array (Option Value)}{kV doc pm cdv ct:Value}(l:K.lookup f=some ⟨oc,od,.func (PySem.W.fnOf x qual (jD st) (cY st) (aA st) .none kV doc pm an cdv ct),osl⟩)(c:PySem.W.codeIn K cdv qual=true)(k:PySem.W.keepIn K (.ref f)=true):Fun K x qual st f (PySem.W.fnOf x qual (jD st) (cY st) (aA st) .none kV doc pm an cdv ct):=⟨⟨oc,od,kV,doc,pm,an,cdv,ct,osl,rfl,l,c⟩,k⟩
end
theorem sV{A:Around}{k:Nat}(hr:bY k A):A.units+1<cLine:=Nat.lt_of_le_of_lt (Nat.add_le_add_left (by decide:1<=64) _) hr.units
section
variable {X:Cx}
theorem pv(i:Nat){x:Str}{pos:Pos}(hN:X.N[i]?=some x:=by rfl)(hv:Vis X.env.scope x:=by first|exact Or.inl rfl|exact Or.inr (Or.inl rfl)|exact Or.inr (Or.inr rfl))(hd:(x==("__debug__":Str))=false:=by decide)(hcd:(x==("__classdict__":Str))=false:=by decide):PE X (.Name x pos) (tVar i):=pe_var hN hv hd hcd
end
theorem uL{c A B:Prop}[Decidable c](h1:c->A)(h2:¬c->B):if c then A else B:=by
 by_cases h:c
 ·rw[if_pos h]
  exact h1 h
 ·rw[if_neg h]
  exact h2 h
end L2
section
namespace L2
open PySem PySem.Spec PyProof.Rows
open PySem.W (WData Codec OpenSpec Well WellAll ReadsW ReadsAllW)
mutual
inductive Dw(K:PySem.W.Frag)(H:Hp):V->WData->Prop
 |non:Dw K H .non .none
 |bl (b:Bool):Dw K H (.bl b) (.bool b)
 |int (i:Int):Dw K H (.int i) (.int i)
 |str (x:Str):Dw K H (.str x) (.str x)
 |byt (b:Array UInt8):Dw K H (.byt b) (.bytes b.toList)
 |lst {a:Addr} {xs:List V} {ds:List WData}:SqL K H a xs->jc K H xs ds->Dw K H (.ref a) (.list ds)
 |tup {a:Addr} {xs:List V} {ds:List WData}:SqT K H a xs->jc K H xs ds->Dw K H (.ref a) (.tuple ds)
inductive jc(K:PySem.W.Frag)(H:Hp):List V->List WData->Prop
 |nil:jc K H [] []
 |cons {v:V} {vs:List V} {d:WData} {ds:List WData}:Dw K H v d->jc K H vs ds->jc K H (v::vs) (d::ds)
end
theorem zO{K:PySem.W.Frag}{H:Hp}:∀ns:List Int,jc K H (ns.map V.int) (ns.map WData.int)
 |[]=>.nil
 |n::r=>.cons (.int n) (zO r)
theorem zT{K:PySem.W.Frag}{H:Hp}:∀(ns:List Int) (xs:List V),jc K H xs (ns.map WData.int)->xs=ns.map V.int
 |[],xs,h=>by
  cases h
  rfl
 |n::r,xs,h=>by
  cases h with
  |cons h1 h2 =>
   cases h1
   rw[zT r _ h2]<;>rfl
section
variable {P:Program}{w:World}{K:PySem.W.Frag}{H:Hp}{h:Heap}{R:PySem.W.WRecords}{cl:Str->Option Addr}
theorem sqL_at{a:Addr}{xs:List V}(hok:HOk P w H h)(KX:K.In h)(q:SqL K H a xs):∃(its:List Value) (o:Obj) (n:Nat),Vals xs its/\h.get? a=some o/\o.cls=.type "list"/\o.data=.seq its.toArray n:=by
 rcases q with q|⟨o,its,n,e,hc,_,hd,_,hv⟩
 ·obtain⟨_,its,n,hv,e⟩:=(show cW P w H h a (.lst xs) from q.ok hok)
  exact⟨its,_,n,hv,e,rfl,rfl⟩
 ·exact⟨its.toList,o,n,hv,KX _ _ e,hc,by simp[hd]⟩
theorem sqT_at{a:Addr}{xs:List V}(hok:HOk P w H h)(KX:K.In h)(q:SqT K H a xs):∃(its:List Value) (o:Obj) (n:Nat),Vals xs its/\h.get? a=some o/\o.cls=.type "tuple"/\o.data=.seq its.toArray n:=by
 rcases q with q|⟨o,its,n,e,hc,hd,_,hv⟩
 ·obtain⟨_,its,hv,o,e,hc,n,hd⟩:=(show cW P w H h a (.tup xs) from q.ok hok)
  exact⟨its,o,n,hv,e,hc,hd⟩
 ·exact⟨its.toList,o,n,hv,KX _ _ e,hc,by simp[hd]⟩
mutual
theorem Dw.reads(hok:HOk P w H h)(KX:K.In h):∀(d:WData) (v:V) (u:Value),Dw K H v d->RelV v u->∃as,ReadsW R cl h u d as
 |.none,_,_,x,r=>by
  cases x
  cases r
  exact⟨_,ReadsW.none⟩
 |.bool b,_,_,x,r=>by
  cases x
  cases r
  exact⟨_,ReadsW.bool b⟩
 |.int i,_,_,x,r=>by
  cases x
  obtain⟨t,rfl⟩:=r
  exact⟨_,ReadsW.int i t⟩
 |.str s,_,_,x,r=>by
  cases x
  obtain⟨t,rfl⟩:=r
  exact⟨_,ReadsW.str s t⟩
 |.bytes b,_,_,x,r=>by
  cases x
  obtain⟨t,rfl⟩:=r
  exact⟨_,ReadsW.bytes _ t⟩
 |.list ds,_,_,x,r=>by
  cases x with
  |lst hs ha =>
   cases r
   obtain⟨its,o,n,rv,ho,hc,hd⟩:=sqL_at hok KX hs
   obtain⟨as,hr⟩:=Dw.readsAll hok KX ds _ its ha rv
   exact⟨_,ReadsW.list ho hc hd hr⟩
 |.tuple ds,_,_,x,r=>by
  cases x with
  |tup hs ha =>
   cases r
   obtain⟨its,o,n,rv,ho,hc,hd⟩:=sqT_at hok KX hs
   obtain⟨as,hr⟩:=Dw.readsAll hok KX ds _ its ha rv
   exact⟨_,ReadsW.tuple ho hc hd hr⟩
 |.float _,_,_,x,_=>by cases x
 |.dict _,_,_,x,_=>by cases x
 |.bytearray _,_,_,x,_=>by cases x
 |.set _,_,_,x,_=>by cases x
 |.frozenset _,_,_,x,_=>by cases x
 |.obj _ _,_,_,x,_=>by cases x
theorem Dw.readsAll(hok:HOk P w H h)(KX:K.In h):∀(ds:List WData) (vs:List V) (us:List Value),jc K H vs ds->Vals vs us->∃as,ReadsAllW R cl h us ds as
 |[],_,_,x,r=>by
  cases x
  cases r
  exact⟨_,ReadsAllW.nil⟩
 |d::ds,_,_,x,r=>by
  cases x with
  |cons h1 h2 =>
   cases r with
   |cons r1 r2 =>
    obtain⟨as,q1⟩:=Dw.reads hok KX d _ _ h1 r1
    obtain⟨bs,q2⟩:=Dw.readsAll hok KX ds _ _ h2 r2
    exact⟨_,ReadsAllW.cons q1 q2⟩
end
end
mutual
noncomputable def plW:WData->Bool
 |.none=>true
 |.bool _=>true
 |.int _=>true
 |.str _=>true
 |.bytes _=>true
 |.list xs=>nY xs
 |.tuple xs=>nY xs
 |_=>false
noncomputable def nY:List WData->Bool
 |[]=>true
 |x::r=>plW x&&nY r
end
theorem wG{α:Type}{f:α->WData}(h:∀a,plW (f a)=true):∀l:List α,nY (l.map f)=true
 |[]=>rfl
 |x::r=>by
  show(plW (f x)&&nY (r.map f))=true
  rw[h x,wG h r]<;>rfl
theorem jt:∀(c:Codec) (a:c.denote),plW (c.enc a)=true
 |.unit,_=>rfl
 |.bool,_=>rfl
 |.int _ _,_=>rfl
 |.nat _ _,_=>rfl
 |.u8,_=>rfl
 |.bytes _ _,_=>rfl
 |.text _ _ _ _,_=>rfl
 |.list _ _ c,a=>wG (λx=>jt c x) a
 |.pair c d,a=>by
  show(plW (c.enc a.1)&&(plW (d.enc a.2)&&true))=true
  rw[jt c a.1,jt d a.2]<;>rfl
 |.triple c d e,a=>by
  show(plW (c.enc a.1)&&(plW (d.enc a.2.1)&&(plW (e.enc a.2.2)&&true)))=true
  rw[jt c a.1,jt d a.2.1,jt e a.2.2]<;>rfl
 |.option c,none=>rfl
 |.option c,some x=>jt c x
theorem tM:∀(cs:List Codec) (a:Codec.denoteAll cs),nY (Codec.encAll cs a)=true
 |[],_=>rfl
 |c::cs,a=>by
  show(plW (c.enc a.1)&&nY (Codec.encAll cs a.2))=true
  rw[jt c a.1,tM cs a.2]<;>rfl
theorem j5:∀{xs:List WData} {d:WData},d∈xs->d.weight<=WData.weightAll xs
 |[],d,h=>absurd h (by simp)
 |x::r,d,h=>by
  show d.weight<=x.weight+1+WData.weightAll r
  rcases List.mem_cons.mp h with e|m
  ·rw[e]
   omega
  ·have z:=j5 m
   omega
noncomputable def toV:Value->V
 |.none=>.non
 |.bool b=>.bl b
 |.int i _=>.int i
 |.str x _=>.str x
 |.bytes b _=>.byt b
 |.ref a=>.ref a
 |_=>.non
def OkU(A:List Addr):Value->Prop
 |.none=>True
 |.bool _=>True
 |.int _ _=>True
 |.str _ _=>True
 |.bytes _ _=>True
 |.ref a=>a∈A
 |_=>False
theorem OkU.mono{A B:List Addr}(h:∀a∈A,a∈B):∀{u:Value},OkU A u->OkU B u:=λ{u} x=>by
 cases u with
 |ref a=>exact h a x
 |none=>trivial
 |bool b=>trivial
 |int i t=>trivial
 |str s t=>trivial
 |bytes b t=>trivial
 |_=>exact False.elim x
theorem Hr{A:List Addr}{u:Value}(x:OkU A u):RelV (toV u) u:=by
 cases u with
 |ref a=>rfl
 |none=>rfl
 |bool b=>rfl
 |int i t=>exact⟨t,rfl⟩
 |str s t=>exact⟨t,rfl⟩
 |bytes b t=>exact⟨t,rfl⟩
 |_=>exact False.elim x
theorem iw{A:List Addr}:∀{vs:List Value},(∀u∈vs,OkU A u)->Vals (vs.map toV) vs
 |[],_=>.nil
 |u::r,h=>.cons (Hr (h u (List.mem_cons_self ..))) (iw λx hx=>h x (List.mem_cons_of_mem _ hx))
def iZ(h:Heap)(A:List Addr)(a:Addr):Prop:=∃vs:List Value,vs.length<=sizeLine/\(∀u∈vs,OkU A u) /\
 (h.get? a=some { cls:=.type "list",data:=.seq vs.toArray }∨h.get? a=some { cls:=.type "tuple",data:=.seq vs.toArray })
theorem iZ.mono{h:Heap}{A B:List Addr}{a:Addr}(k:∀a∈A,a∈B)(x:iZ h A a):iZ h B a:=by
 obtain⟨vs,h1,h2,h3⟩:=x
 exact⟨vs,h1,λu hu=>(h2 u hu).mono k,h3⟩
theorem gY{P:Params}{h:Heap}:∀{vs:List Value} {ds:List WData},WellAll P h vs ds->vs.length=ds.length
 |_,_,.nil=>rfl
 |_,_,.cons _ b=>by
  show _+1=_+1
  rw[gY b]
theorem uw{P:Params}{h:Heap}{v:Value}{ds:List WData}(x:Well P h v (.list ds)):∃(a:Addr) (vs:List Value),v=.ref a/\h.get? a=some { cls:=.type "list",data:=.seq vs.toArray }/\WellAll P h vs ds:=by
 cases x with
 |list ho hall=>exact⟨_,_,rfl,ho,hall⟩
theorem rH{P:Params}{h:Heap}{v:Value}{ds:List WData}(x:Well P h v (.tuple ds)):∃(a:Addr) (vs:List Value),v=.ref a/\h.get? a=some { cls:=.type "tuple",data:=.seq vs.toArray }/\WellAll P h vs ds:=by
 cases x with
 |tuple ho hall=>exact⟨_,_,rfl,ho,hall⟩
theorem uv{P:Params}{h:Heap}{us:List Value}{d:WData}{ds:List WData}(x:WellAll P h us (d::ds)):∃(v:Value) (vs:List Value),us=v::vs/\Well P h v d/\WellAll P h vs ds:=by
 cases x with
 |cons a b=>exact⟨_,_,rfl,a,b⟩
theorem zZ{n:Nat}(h:n<=1048576):n<=sizeLine:=Nat.le_trans h (by decide)
section
variable {P:Params}{h:Heap}
mutual
theorem Eb:∀(d:WData) (v:Value),Well P h v d->plW d=true->d.weight<=1048576->∃A:List Addr,OkU A v/\∀a∈A,iZ h A a
 |.none,_,x,_,_=>by
  cases x
  exact⟨[],trivial,λa m=>absurd m (by simp)⟩
 |.bool b,_,x,_,_=>by
  cases x
  exact⟨[],trivial,λa m=>absurd m (by simp)⟩
 |.int i,_,x,_,_=>by
  cases x
  exact⟨[],trivial,λa m=>absurd m (by simp)⟩
 |.str s,_,x,_,_=>by
  cases x
  exact⟨[],trivial,λa m=>absurd m (by simp)⟩
 |.bytes b,_,x,_,_=>by
  cases x
  exact⟨[],trivial,λa m=>absurd m (by simp)⟩
 |.list ds,_,x,p,z=>by
  obtain⟨a,vs,rfl,ho,hall⟩:=uw x
  have z2:WData.weightAll ds<=1048576:=z
  obtain⟨A,h1,h2⟩:=kh ds _ hall p λd hd=>Nat.le_trans (j5 hd) z2
  have k:∀b∈A,b∈a::A:=λb hb=>List.mem_cons_of_mem _ hb
  refine⟨a::A,List.mem_cons_self ..,λb hb=>?_⟩
  rcases List.mem_cons.mp hb with e|m
  ·rw[e]
   exact⟨vs,zZ (by rw[gY hall];exact Nat.le_trans (PySem.W.length_le_weightAllW ds) z2),λu hu=>(h1 u hu).mono k,.inl ho⟩
  ·exact(h2 b m).mono k
 |.tuple ds,_,x,p,z=>by
  obtain⟨a,vs,rfl,ho,hall⟩:=rH x
  have z2:WData.weightAll ds<=1048576:=z
  obtain⟨A,h1,h2⟩:=kh ds _ hall p λd hd=>Nat.le_trans (j5 hd) z2
  have k:∀b∈A,b∈a::A:=λb hb=>List.mem_cons_of_mem _ hb
  refine⟨a::A,List.mem_cons_self ..,λb hb=>?_⟩
  rcases List.mem_cons.mp hb with e|m
  ·rw[e]
   exact⟨vs,zZ (by rw[gY hall];exact Nat.le_trans (PySem.W.length_le_weightAllW ds) z2),λu hu=>(h1 u hu).mono k,.inr ho⟩
  ·exact(h2 b m).mono k
 |.float _,_,_,p,_=>Bool.noConfusion (show false=true from p)
 |.dict _,_,_,p,_=>Bool.noConfusion (show false=true from p)
 |.bytearray _,_,_,p,_=>Bool.noConfusion (show false=true from p)
 |.set _,_,_,p,_=>Bool.noConfusion (show false=true from p)
 |.frozenset _,_,_,p,_=>Bool.noConfusion (show false=true from p)
 |.obj _ _,_,_,p,_=>Bool.noConfusion (show false=true from p)
theorem kh:∀(ds:List WData) (vs:List Value),WellAll P h vs ds->nY ds=true->(∀d∈ds,d.weight<=1048576)->∃A:List Addr,(∀u∈vs,OkU A u)/\∀a∈A,iZ h A a
 |[],_,x,_,_=>by
  cases x
  exact⟨[],λu m=>absurd m (by simp),λa m=>absurd m (by simp)⟩
 |d::ds,_,x,p,z=>by
  obtain⟨v,vs,rfl,x1,x2⟩:=uv x
  have q:plW d=true/\nY ds=true:=Bool.and_eq_true_iff.mp p
  obtain⟨A,a1,a2⟩:=Eb d v x1 q.1 (z d (List.mem_cons_self ..))
  obtain⟨B,b1,b2⟩:=kh ds vs x2 q.2 λe he=>z e (List.mem_cons_of_mem _ he)
  have kA:∀b∈A,b∈A++B:=λb hb=>List.mem_append.mpr (.inl hb)
  have kB:∀b∈B,b∈A++B:=λb hb=>List.mem_append.mpr (.inr hb)
  refine⟨A++B,λu hu=>?_,λb hb=>?_⟩
  ·rcases List.mem_cons.mp hu with e|m
   ·rw[e]
    exact a1.mono kA
   ·exact(b1 u m).mono kB
  ·rcases List.mem_append.mp hb with m|m
   ·exact(a2 b m).mono kA
   ·exact(b2 b m).mono kB
end
end
noncomputable def IK(o:Obj):Option HO:=match o.data with
 |.seq vs _=>if (o.cls==Value.type "list")=true then some (.frz o (.lst (vs.toList.map toV))) else some (.frz o (.tup (vs.toList.map toV)))
 |_=>none
noncomputable def iC(K:PySem.W.Frag)(h:Heap)(A:List Addr):Hp:=λb=>if b∈A then (if (K.lookup b).isNone=true then (h.get? b).bind IK else none) else none
def vI(H:Hp):Prop:=∀b,H b=none∨∃o u,H b=some (.frz o u)
theorem vW(vs:List Value):IK { cls:=.type "list",data:=.seq vs.toArray }=some (.frz { cls:=.type "list",data:=.seq vs.toArray } (.lst (vs.map toV))):=by
 show(if (Value.type "list"==Value.type "list")=true then some (HO.frz { cls:=.type "list",data:=.seq vs.toArray } (.lst (vs.toArray.toList.map toV))) else some (HO.frz { cls:=.type "list",data:=.seq vs.toArray } (.tup (vs.toArray.toList.map toV))))=_
 rw[if_pos (beq_self_eq_true _)]
theorem vX(vs:List Value):IK { cls:=.type "tuple",data:=.seq vs.toArray }=some (.frz { cls:=.type "tuple",data:=.seq vs.toArray } (.tup (vs.map toV))):=by
 show(if (Value.type "tuple"==Value.type "list")=true then some (HO.frz { cls:=.type "tuple",data:=.seq vs.toArray } (.lst (vs.toArray.toList.map toV))) else some (HO.frz { cls:=.type "tuple",data:=.seq vs.toArray } (.tup (vs.toArray.toList.map toV))))=_
 rw[if_neg (by decide)]
section
variable {P:Program}{w:World}{K:PySem.W.Frag}{h:Heap}{A:List Addr}
theorem n8{b:Addr}{o:Obj}(hb:b∈A)(hk:K.lookup b=none)(e:h.get? b=some o):iC K h A b=IK o:=by
 unfold iC
 rw[if_pos hb,hk,if_pos (show(none:Option Obj).isNone=true from rfl),e]<;>rfl
theorem Jc{b:Addr}{u:HO}(q:iC K h A b=some u):b∈A/\K.lookup b=none:=by
 unfold iC at q
 by_cases hb:b∈A
 ·rw[if_pos hb] at q
  cases hk:K.lookup b with
  |none=>exact⟨hb,rfl⟩
  |some o =>
   rw[hk,if_neg (by simp)] at q
   cases q
 ·rw[if_neg hb] at q
  cases q
theorem oh(ar:∀a∈A,iZ h A a){b:Addr}{u:HO}(q:iC K h A b=some u):K.lookup b=none/\∃vs:List Value,vs.length<=sizeLine/\(∀u∈vs,OkU A u) /\
  ((h.get? b=some { cls:=.type "list",data:=.seq vs.toArray }/\u=.frz { cls:=.type "list",data:=.seq vs.toArray } (.lst (vs.map toV))) ∨
   (h.get? b=some { cls:=.type "tuple",data:=.seq vs.toArray }/\u=.frz { cls:=.type "tuple",data:=.seq vs.toArray } (.tup (vs.map toV)))):=by
 obtain⟨hb,hk⟩:=Jc q
 obtain⟨vs,h1,h2,h3⟩:=ar b hb
 refine⟨hk,vs,h1,h2,?_⟩
 rcases h3 with e|e
 ·rw[n8 hb hk e,vW] at q
  exact .inl ⟨e,(Option.some.inj q).symm⟩
 ·rw[n8 hb hk e,vX] at q
  exact .inr ⟨e,(Option.some.inj q).symm⟩
theorem Bt(ar:∀a∈A,iZ h A a):vI (iC K h A):=λb=>by
 cases q:iC K h A b with
 |none=>exact .inl rfl
 |some u =>
  obtain⟨_,vs,_,_,⟨_,e⟩|⟨_,e⟩⟩:=oh ar q
  ·exact .inr ⟨_,_,by rw[e]⟩
  ·exact .inr ⟨_,_,by rw[e]⟩
theorem Ii(ar:∀a∈A,iZ h A a):HOk P w (iC K h A) h:=λb u q=>by
 obtain⟨_,vs,h1,h2,⟨e,rfl⟩|⟨e,rfl⟩⟩:=oh ar q
 ·exact⟨e,by rw[List.length_map];exact h1,vs,_,iw h2,e⟩
 ·exact⟨e,by rw[List.length_map];exact h1,vs,iw h2,_,e,rfl,_,rfl⟩
theorem oR{c c':Value}{vs us:List Value}(e:(some { cls:=c,data:=.seq vs.toArray }:Option Obj)=some { cls:=c',data:=.seq us.toArray }):c=c'/\vs=us:=by
 have e1:=Option.some.inj e
 have e2:c=c':=congrArg Obj.cls e1
 have e3:Data.seq vs.toArray=Data.seq us.toArray:=congrArg Obj.data e1
 injection e3 with e4
 refine⟨e2,?_⟩
 have e5:=congrArg Array.toList e4
 simpa using e5
theorem argL(KX:K.In h)(ar:∀a∈A,iZ h A a){a:Addr}{vs:List Value}(ha:a∈A)(e:h.get? a=some { cls:=.type "list",data:=.seq vs.toArray }):(∀u∈vs,OkU A u)/\SqL K (iC K h A) a (vs.map toV):=by
 obtain⟨us,h1,h2,h3⟩:=ar a ha
 have hu:us=vs:=by
  rcases h3 with q|q
  ·rw[e] at q
   exact(oR q).2.symm
  ·rw[e] at q
   exact absurd (Value.type.inj (oR q).1) (by decide)
 subst hu
 refine⟨h2,?_⟩
 cases hk:K.lookup a with
 |none=>exact .inl (.inr ⟨_,by rw[n8 ha hk e,vW]⟩)
 |some o =>
  have e2:=KX a o hk
  rw[e] at e2
  obtain rfl:=Option.some.inj e2
  exact .inr ⟨_,us.toArray,_,hk,rfl,rfl,rfl,by rw[List.size_toArray];exact h1,by simpa using iw h2⟩
theorem argT(KX:K.In h)(ar:∀a∈A,iZ h A a){a:Addr}{vs:List Value}(ha:a∈A)(e:h.get? a=some { cls:=.type "tuple",data:=.seq vs.toArray }):(∀u∈vs,OkU A u)/\SqT K (iC K h A) a (vs.map toV):=by
 obtain⟨us,h1,h2,h3⟩:=ar a ha
 have hu:us=vs:=by
  rcases h3 with q|q
  ·rw[e] at q
   exact absurd (Value.type.inj (oR q).1) (by decide)
  ·rw[e] at q
   exact(oR q).2.symm
 subst hu
 refine⟨h2,?_⟩
 cases hk:K.lookup a with
 |none=>exact .inl (.inr ⟨_,by rw[n8 ha hk e,vX]⟩)
 |some o =>
  have e2:=KX a o hk
  rw[e] at e2
  obtain rfl:=Option.some.inj e2
  exact .inr ⟨_,us.toArray,_,hk,rfl,rfl,by rw[List.size_toArray];exact h1,by simpa using iw h2⟩
mutual
theorem dw_one{Pm:Params}(KX:K.In h)(ar:∀a∈A,iZ h A a):∀(d:WData) (v:Value),Well Pm h v d->plW d=true->OkU A v->Dw K (iC K h A) (toV v) d
 |.none,_,x,_,_=>by
  cases x
  exact .non
 |.bool b,_,x,_,_=>by
  cases x
  exact .bl b
 |.int i,_,x,_,_=>by
  cases x
  exact .int i
 |.str s,_,x,_,_=>by
  cases x
  exact .str s
 |.bytes b,_,x,_,_=>by
  cases x
  have z:=Dw.byt (K:=K) (H:=iC K h A) b.toArray
  exact z
 |.list ds,_,x,p,hu=>by
  obtain⟨a,vs,rfl,ho,hall⟩:=uw x
  obtain⟨h2,hs⟩:=argL KX ar hu ho
  exact .lst hs (uD KX ar ds _ hall p h2)
 |.tuple ds,_,x,p,hu=>by
  obtain⟨a,vs,rfl,ho,hall⟩:=rH x
  obtain⟨h2,hs⟩:=argT KX ar hu ho
  exact .tup hs (uD KX ar ds _ hall p h2)
 |.float _,_,_,p,_=>Bool.noConfusion (show false=true from p)
 |.dict _,_,_,p,_=>Bool.noConfusion (show false=true from p)
 |.bytearray _,_,_,p,_=>Bool.noConfusion (show false=true from p)
 |.set _,_,_,p,_=>Bool.noConfusion (show false=true from p)
 |.frozenset _,_,_,p,_=>Bool.noConfusion (show false=true from p)
 |.obj _ _,_,_,p,_=>Bool.noConfusion (show false=true from p)
theorem uD{Pm:Params}(KX:K.In h)(ar:∀a∈A,iZ h A a):∀(ds:List WData) (vs:List Value),WellAll Pm h vs ds->nY ds=true->(∀u∈vs,OkU A u)->jc K (iC K h A) (vs.map toV) ds
 |[],_,x,_,_=>by
  cases x
  exact .nil
 |d::ds,_,x,p,hu=>by
  obtain⟨v,vs,rfl,x1,x2⟩:=uv x
  have q:plW d=true/\nY ds=true:=Bool.and_eq_true_iff.mp p
  exact .cons (dw_one KX ar d v x1 q.1 (hu _ (List.mem_cons_self ..))) (uD KX ar ds vs x2 q.2 λu m=>hu u (List.mem_cons_of_mem _ m))
end
end
theorem Dm{P:Program}{w:World}{K:PySem.W.Frag}{mg mb:Str->Option Value}{CX:CXT}{k:Nat}{fa:Addr}{fd:FuncData}{ps:List Str}{sp:Sp}{s₁:Shared}{vals:List Value}{ds:List WData}{R:PySem.W.WRecords}{cl:Str->Option Addr}{d0:WData}(KX:K.In s₁.heap)(hns:s₁.heap.Ns mainGlobals mg)(hb:s₁.heap.Ns builtinsNs mb)(hbb:∀x:Str,x≠"__name__"->mb x=bootBuiltins x)(hlim:s₁.heap.NoLimit)(hg:s₁.gens=#[])(hwl:WellAll w.params s₁.heap vals ds)(hpl:nY ds=true)(hwt:∀d∈ds,d.weight<=1048576)(hr:bY k callerA)(F:∀base:Heap,K.In base->base.Ns mainGlobals mg->aF P w K mg base CX k fa fd ps sp)(hbind:∀(s:Shared) (us:List Value),us.length=ps.length->BindsTo s fd ⟨us,[]⟩ (ps.zip us))(hlen:ds.length=ps.length)(hsp:∀(H:Hp) (xs:List V),vI H->jc K H xs ds->sp xs H (λv H'=>Dw K H' v d0) λ_ _ _=>False)(hCX:∀H e s',CX [] H s₁ (λ_ _ _=>False) e s'->False) :
  codeAny (model P w) callerA (.call (.ref fa) ⟨vals,[]⟩) (λr s'=>∃u as,r=.ok (.ret u)/\ReadsW R cl s'.heap u d0 as/\OldK s₁.heap s'.heap/\s'.os=s₁.os/\AllBare s'.gens) s₁:=by
 obtain⟨A,ho,ar⟩:=kh ds vals hwl hpl hwt
 have hO:vI (iC K s₁.heap A):=Bt ar
 have hok:HOk P w (iC K s₁.heap A) s₁.heap:=Ii ar
 have hS:=uD KX ar ds vals hwl hpl ho
 have hV:=iw ho
 have hK:∀b u,iC K s₁.heap A b=some u->K.lookup b=none:=λb u q=>(oh ar q).1
 have noA:∀{b:Addr} {o:Obj} {es:Array DictEntry} {ep:Nat},s₁.heap.get? b=some o->o.data=.dict es ep->iC K s₁.heap A b=none:=λ{b o es ep} e d=>by
  cases q:iC K s₁.heap A b with
  |none=>rfl
  |some u =>
   obtain⟨_,vs,_,_,⟨e2,_⟩|⟨e2,_⟩⟩:=oh ar q
   ·rw[e2] at e
    cases e
    have d':Data.seq vs.toArray _=Data.dict es ep:=d
    cases d'
   ·rw[e2] at e
    cases e
    have d':Data.seq vs.toArray _=Data.dict es ep:=d
    cases d'
 generalize iC K s₁.heap A=H at hO hok hS hK noA
 have base_of:∀{b:Addr} {o:Obj},s₁.heap.get? b=some o->H b=none->(uJ s₁.heap H).get? b=some o:=λe n=>Fg e n
 have nsK:∀{b:Addr} {m:Str->Option Value},s₁.heap.Ns b m->(uJ s₁.heap H).Ns b m:=λ{b m} ⟨o,es,ep,e,d,r⟩=>⟨o,es,ep,base_of e (noA e d),d,r⟩
 have nK:∀b o,K.lookup b=some o->H b=none:=λb o e=>by
  cases q:H b with
  |none=>rfl
  |some u =>
   rw[hK b u q] at e
   cases e
 have hKb:K.In (uJ s₁.heap H):=λb o e=>base_of (KX b o e) (nK b o e)
 have hM:Mod K mg (uJ s₁.heap H):=⟨hKb,nsK hns,⟨mb,nsK hb,hbb⟩,let ⟨mc,h1,h2⟩:=hlim;⟨mc,nsK h1,h2⟩⟩
 have e0:uy P w K mg (uJ s₁.heap H) callerA [] s₁ H:=⟨rfl,hM,λb o e=>Jd e,Nat.le_of_eq (BW _ _),trivial,λb hb=>absurd (show b∈([]:List Addr) from hb) (by simp),hok,.of_eq hg⟩
 have hl:vals.length=ps.length:=by rw[gY hwl];exact hlen
 refine codeAny_mono ((F _ hKb (nsK hns)).run callerA [] s₁ H ⟨vals,[]⟩ vals (vals.map toV) _ _ hr e0 (hbind s₁ vals hl) hV (hsp H _ hO hS)) λr s' x=>?_
 cases r with
 |error e=>exact(hCX H e s' x).elim
 |ok fl =>
  cases fl with
  |next=>exact False.elim x
  |brk=>exact False.elim x
  |cont=>exact False.elim x
  |ret u =>
   obtain⟨v,H',os,bare,un,hok',r',q⟩:=x
   have kept:∀b o,s₁.heap.get? b=some o->s'.heap.get? b=some o:=λb o e=>by
    cases q2:H b with
    |none=>exact un.keep b o e q2 (by intro z;exact absurd (show b∈([]:List Addr) from z) (by simp)) (by simp)
    |some u2 =>
     rcases hO b with z|⟨ob,u3,z⟩
     ·rw[q2] at z
      cases z
     ·have z2:=un.frzs b ob _ z
      obtain⟨e1,_⟩:=hok b _ z
      obtain⟨e2,_⟩:=hok' b _ z2
      rw[e] at e1
      cases e1
      exact e2
   have KX':K.In s'.heap:=λb o e=>kept b o (KX b o e)
   obtain⟨as,hrd⟩:=Dw.reads (R:=R) (cl:=cl) hok' KX' d0 v u q r'
   exact⟨u,as,rfl,hrd,OldK.of_keep kept,os,bare⟩
theorem pL{ds:List WData}(h:WData.layableAll ds=true):∀d∈ds,d.weight<=1048576:=λd hd =>
 (PySem.W.layableW_iff.mp (List.all_eq_true.mp h d hd)).2.2
theorem pB:∀(cs:List Codec) (a:Codec.denoteAll cs),(Codec.encAll cs a).length=cs.length
 |[],_=>rfl
 |c::cs,a=>by
  show(Codec.encAll cs a.2).length+1=cs.length+1
  rw[pB cs a.2]
theorem Dy{r:OpenSpec}{k:Nat}{q:Program}{loose:List Str}{XP:(Str->Option Value)->Heap->Prop}{YP:World->Heap->Prop}{d:DefRec}{K:Params->PySem.W.Frag}{CX:World->CXT}{ps:List Str}{sp:World->Sp}(hwell:r.wellSaid=true)(hdf:d.params.defaults=[])(hlen:r.args.length=ps.length)(hr:bY k callerA)(hY:∀(w:World) (h:Heap),YP w h->(K w.params).In h)(F:∀(w:World) (mg:Str->Option Value) (fa:Addr) (h:Heap),YP w h->(K w.params).In h->h.Ns mainGlobals mg->mg d.name=some (.ref fa) ->
   ∃fd:FuncData,(∀(s:Shared) (us:List Value),us.length=ps.length->BindsTo s fd ⟨us,[]⟩ (ps.zip us)) /\
    ∀base:Heap,(K w.params).In base->base.Ns mainGlobals mg->aF r.prog w (K w.params) mg base (CX w) k fa fd ps (sp w))(hsp:∀(w:World) (H:Hp) (xs:List V) (a:Codec.denoteAll r.args),vI H->Codec.withinAll r.args a=true->Codec.app r.args r.asked a=true->jc (K w.params) H xs (Codec.encAll r.args a) ->
   sp w xs H (λv H'=>Dw (K w.params) H' v (r.ret.enc (Codec.app r.args r.f a))) λ_ _ _=>False)(hCX:∀(w:World) (H:Hp) (s:Shared) (e:Value) (s':Shared),CX w [] H s (λ_ _ _=>False) e s'->False) :
  PySem.W.WalkOS q loose XP YP r d [] (λf vs=>PySem.call f vs):=by
 intro w s_0 s₁ mg mb G Y fa o pm cd doc dV kV ho hd hcd hD hmg hg args vals as hpre hlay hrd hwl hlo
 obtain⟨a,e1,e2⟩:=PySem.W.os_pre_some hpre
 obtain⟨e3,hwi⟩:=Codec.encAll_of_decAll r.args args a e1
 subst e3
 have KX:=hY w _ Y
 obtain⟨fd,hb,hF⟩:=F w mg fa _ Y KX G.T.g hmg
 refine PySem.W.enter_call (codeAny_mono (Dm (R:=[]) (cl:=classAt s_0.heap) (d0:=r.ret.enc (Codec.app r.args r.f a)) KX G.T.g G.T.b G.T.builtins G.T.nolimit hg hwl (tM _ _) (pL hlay) hr hF hb (by rw[pB];exact hlen)
  (λH xs hO hS=>hsp w H xs a hO hwi e2 hS) λH e s'=>hCX w H s₁ e s') λr' s' hq=>?_)
 obtain⟨u,as',rfl,h1,h2,h3,h4⟩:=hq
 exact⟨.inl ⟨u,_,as',rfl,λ_=>rfl,h1,(OpenSpec.post_iff hwell hwi _ _).mpr rfl,λz=>Bool.noConfusion (show false=true from z)⟩,h2,h3,h4⟩
theorem zu{r:OpenSpec}{k:Nat}{q:Program}{loose:List Str}{XP:(Str->Option Value)->Heap->Prop}{YP:World->Heap->Prop}{d:DefRec}{K:Params->PySem.W.Frag}{CX:CXT}{ps:List Str}{sp:PySem.W.Frag->Sp}(hwell:r.wellSaid=true)(hdf:d.params.defaults=[])(hlen:r.args.length=ps.length)(hr:bY k callerA)(hY:∀(w:World) (h:Heap),YP w h->(K w.params).In h)(F:∀(w:World) (mg:Str->Option Value) (fa:Addr) (h:Heap),YP w h->(K w.params).In h->h.Ns mainGlobals mg->mg d.name=some (.ref fa) ->
   ∃fd:FuncData,(∀(s:Shared) (us:List Value),us.length=ps.length->BindsTo s fd ⟨us,[]⟩ (ps.zip us)) /\
    ∀base:Heap,(K w.params).In base->base.Ns mainGlobals mg->aF r.prog w (K w.params) mg base CX k fa fd ps (sp (K w.params)))(hsp:∀(K:PySem.W.Frag) (H:Hp) (xs:List V) (a:Codec.denoteAll r.args),vI H->Codec.withinAll r.args a=true->Codec.app r.args r.asked a=true->jc K H xs (Codec.encAll r.args a) ->
   sp K xs H (λv H'=>Dw K H' v (r.ret.enc (Codec.app r.args r.f a))) λ_ _ _=>False)(hCX:∀(H:Hp) (s:Shared) (e:Value) (s':Shared),CX [] H s (λ_ _ _=>False) e s'->False) :
  PySem.W.WalkOS q loose XP YP r d [] (λf vs=>PySem.call f vs) :=
 Dy (K:=K) (CX:=λ_=>CX) (sp:=λw=>sp (K w.params)) hwell hdf hlen hr hY F (λw H xs a h1 h2 h3 h4=>hsp (K w.params) H xs a h1 h2 h3 h4) λ_ H s e s'=>hCX H s e s'
end L2
end
theorem sc0{N ps:List PySem.Str}{sc:PySem.Scope}(h:L2.aJ N ps sc:=by exact ⟨rfl,rfl,rfl,by decide +kernel,rfl,by decide +kernel,by decide +kernel⟩):L2.aJ N ps sc:=h
namespace L2
open PySem PySem.Spec PyProof.Rows
abbrev ltN(a b:Nat):Prop:=a<b
abbrev leN(a b:Nat):Prop:=a<=b
def TbOk(n:Nat)(H:Hp)(h:Heap)(e:Addr)(vs:Array Value)(b:Bool):Prop :=
 (b=false/\vs[1]?=some .none)∨∃tb ob ts,vs[1]?=some (.ref tb)/\n<=tb/\tb≠e/\H tb=none/\h.get? tb=some ob/\ob.data=.fields ts/\3<ts.size
structure dG(C:Addr)(x:Str)(n:Nat)(b:Bool)(H:Hp)(h:Heap)(e:Addr)(i:Int):Prop where
 young:n<=e
 free:H e=none
 ex:∃(dx:Addr) (oe:Obj) (vs:Array Value) (mA:Str->Option Value) (t:Tok),
  n<=dx/\H dx=none/\dx≠e/\h.get? e=some oe/\oe.cls=.ref C/\oe.dict=some dx/\oe.data=.fields vs/\1<vs.size/\h.Ns1 dx mA/\mA x=some (.int i t)/\TbOk n H h e vs b
theorem dG.mono{C:Addr}{x:Str}{n m:Nat}{b:Bool}{H:Hp}{h:Heap}{e:Addr}{i:Int}(F:dG C x n b H h e i)(hm:m<=n):dG C x m b H h e i:=by
 obtain⟨y,f,dx,oe,vs,mA,t,h1,h2,h3,h4,h5,h6,h7,h8,h9,h10,h11⟩:=F
 refine⟨Nat.le_trans hm y,f,dx,oe,vs,mA,t,Nat.le_trans hm h1,h2,h3,h4,h5,h6,h7,h8,h9,h10,?_⟩
 rcases h11 with z|⟨tb,ob,ts,z1,z2,z⟩
 ·exact .inl z
 ·exact .inr ⟨tb,ob,ts,z1,Nat.le_trans hm z2,z⟩
theorem dG.any{C:Addr}{x:Str}{n:Nat}{b:Bool}{H:Hp}{h:Heap}{e:Addr}{i:Int}(F:dG C x n b H h e i):dG C x n false H h e i:=by
 obtain⟨y,f,dx,oe,vs,mA,t,h1,h2,h3,h4,h5,h6,h7,h8,h9,h10,h11⟩:=F
 refine⟨y,f,dx,oe,vs,mA,t,h1,h2,h3,h4,h5,h6,h7,h8,h9,h10,?_⟩
 rcases h11 with ⟨_,z⟩|z
 ·exact .inl ⟨rfl,z⟩
 ·exact .inr z
section
variable {X:Cx}{σ:St}{H:Hp}{s:Shared}{C:Addr}{x:Str}{n:Nat}{b:Bool}{e:Addr}{i:Int}{M:Model}{A:Around}{E:Value->Shared->Prop}
theorem Inv.rec_ok(I:Inv X [] σ H s)(hpn:∀p∈X.pn,ltN p.1 n)(hn:ltN X.env.locals n){a:Addr}{o:Obj}{vs:Array Value}(ha:n<=a)(ho:s.heap.get? a=some o)(hd:o.data=.fields vs) :
  a≠X.env.locals/\(a∈X.ex∨X.s_0.heap.objs.size<=a)/\(∀y c,X.env.cells.lookup y=some c->c≠a)/\∀p∈X.pn++[],p.1≠a:=by
 have hn':ltN X.env.locals a:=Nat.lt_of_lt_of_le hn ha
 refine⟨Nat.ne_of_gt hn',.inr ?_,λy c hc z=>?_,λp hp=>?_⟩
 ·exact Nat.le_trans I.ok.above (Nat.le_of_lt hn')
 ·obtain⟨v,o',ho',hd'⟩:=I.cell y c hc
  rw[z,ho] at ho'
  cases ho'
  rw[hd] at hd'
  cases hd'
 ·have hp':p∈X.pn:=by simpa using hp
  exact Nat.ne_of_lt (Nat.lt_of_lt_of_le (hpn p hp') ha)
theorem HX{S:List Addr}{H:Hp}{h h':Heap}(hs:Heap.SlotsOnly S h h'):Un S [] H H h h' where
 keep:=λb o e _ hb _=>(hs.2.1 b hb).trans e
 slot:=λb o e _ _ _=>hs.2.2 b o e
 free:=λ_ _ _ n _=>n
 there:=λb o e _=>let ⟨_,q⟩:=hs.2.2 b o e;⟨_,q⟩
 tups:=λ_ _ q=>q
 frzs:=λ_ _ _ q=>q
 tbls:=λ_ ps q=>⟨#[],by rw[q];simp⟩
theorem Inv.slots(I:Inv X [] σ H s){h':Heap}(hs:Heap.SlotsOnly (frs X.stack) s.heap h'):Inv X [] σ H { s with heap:=h' }:=by
 refine I.call (g':=s.gens) (t':=s.toks) (d':=s.drawn) (ch:=[]) (HX hs) (λa o ha=>?_) I.bare (λ_ z=>nomatch z)
 have nf:∀c u,H c=some u->c∉frs X.stack:=λc u q hc=>by
  rw[I.stkFree c hc] at q
  cases q
 refine(I.hok a o ha).stay (λc u hc q=>?_) (λ_ q=>q) λ_ _ q=>q
 rcases hc with rfl|hc
 ·exact(hs.2.1 _ (nf _ _ ha)).trans q
 ·exact(hs.2.1 _ (nf _ _ hc)).trans q
theorem sJ{env:Env}(hA:A.frames=some X.stack)(I:Inv X [] σ H s)(hpn:∀p∈X.pn,ltN p.1 n)(hst:X.stack=X.env::X.outer)(hf:X.env.frame=some X.env.locals)(hev:env.frame=X.env.frame)(hn:ltN X.env.locals n)(F:dG C x n b H s.heap e i){hadNext:Bool}{head:Value}{Q:Unit->Shared->Prop}(h:∀s',Inv X [] σ H s'->dG C x n true H s'.heap e i->(∀b o,b∉frs X.stack->ltN b n->s.heap.get? b=some o->s'.heap.get? b=some o)->Q () s') :
  wpAny M A (do let a ←frameOf env;let pl ←entryPlaceOf X.env.locals hadNext;let b ←EntryCells.newEntry head a .none (rawInt X.env.locals) .none pl;setField (.ref e) 1 b) Q E s:=by
 obtain⟨y,f,dx,oe,vs,mA,t,h1,h2,h3,h4,h5,h6,h7,h8,h9,h10,h11⟩:=F
 have hl:=I.stack
 rw[hst] at hl hA
 have nfr:∀a,n<=a->a∉frs X.stack:=λa ha hm=>by
  have hn':ltN X.env.locals a:=Nat.lt_of_lt_of_le hn ha
  rcases List.mem_cons.mp (I.stkSub a hm) with z|z
  ·exact Nat.ne_of_gt hn' z
  ·obtain⟨_,o,ho,_⟩:=I.ok.funs.mem z
   exact absurd (Nat.lt_of_lt_of_le (Heap.lt_size ho) (Nat.le_trans I.ok.above (Nat.le_of_lt hn'))) (Nat.lt_irrefl _)
 have efr:PySem.frameOf env=PySem.frameOf X.env:=by
  unfold PySem.frameOf
  rw[hev]
 rw[efr]
 refine wpAny_bind (wpAny_frameOf_fun hA hl hf λh₁ hs₁=>?_)
 rw[←hst] at hs₁
 have I1:=I.slots hs₁
 refine wpAny_bind (wpAny_entryPlaceOf λpl hpl=>?_)
 unfold EntryCells.newEntry newFields
 refine wpAny_bind (wpAny_newObj_type ?_ (hpl.sizeOk5 _ _ _ _ _))
 have he₁:h₁.get? e=some oe:=(hs₁.2.1 e (nfr e y)).trans h4
 have hx₁:h₁.Ns1 dx mA:=h9.at λo q=>(hs₁.2.1 dx (nfr dx h1)).trans q
 generalize hT:({ cls:=.type "traceback",dict:=none,data:=.fields ([head,.ref X.env.locals,.none,rawInt X.env.locals,.none]++(if pl.isEmpty then List.replicate 6 Value.none else pl)).toArray }:Obj)=oT
 have hTd:∃ts,oT.data=.fields ts/\3<ts.size:=by
  subst hT
  refine⟨_,rfl,?_⟩
  simp only[List.size_toArray,List.length_append,List.length_cons,List.length_nil]
  omega
 have hTf:oT.isFreed=false:=by
  subst hT
  rfl
 have I2:Inv X [] σ H { s with heap:=h₁.push oT }:=I1.kept (t':=s.toks) (h':=h₁.push oT) λb u q=>Heap.get?_push_of_some _ q
 have he₂:=Heap.get?_push_of_some oT he₁
 refine wpAny_setField he₂ h7 h8 ?_
 have elt:ltN e h₁.objs.size:=Heap.lt_size he₁
 have hd₃:=Obj.data_mapFields h7 (·.setIfInBounds 1 (Value.ref h₁.objs.size))
 have he₃:=Heap.get?_update_self (Obj.mapFields (·.setIfInBounds 1 (Value.ref h₁.objs.size))) he₂ (Obj.isFreed_of_fields hd₃)
 obtain⟨r1,r2,r3,r4⟩:=I2.rec_ok hpn hn y he₂ h7
 have oth:∀c o,c≠e->(h₁.push oT).get? c=some o->((h₁.push oT).update e (Obj.mapFields (·.setIfInBounds 1 (Value.ref h₁.objs.size)))).get? c=some o:=λc o hc q =>
  (Heap.get?_update_other _ _ (Ne.symm hc)).trans q
 have I3:=I2.turned (t':=s.toks) (it:=e) (h':=(h₁.push oT).update e (Obj.mapFields (·.setIfInBounds 1 (Value.ref h₁.objs.size)))) oth f r1 r2 r3 r4
 obtain⟨ts,hts,hsz⟩:=hTd
 refine h _ I3 ⟨y,f,dx,_,_,mA,t,h1,h2,h3,he₃,?_,?_,hd₃,?_,?_,h10,.inr ⟨h₁.objs.size,oT,ts,?_,?_,?_,?_,?_,hts,hsz⟩⟩ (λc o hc hcn q=>oth c o (Nat.ne_of_lt (Nat.lt_of_lt_of_le hcn y)) (Heap.get?_push_of_some _ ((hs₁.2.1 c hc).trans q)))
 ·rw[Obj.cls_mapFields]
  exact h5
 ·obtain⟨c0,d0,dt0,sl0⟩:=oe
  cases dt0<;>first|exact h6|cases h7
 ·simpa using h8
 ·exact(hx₁.at λo q=>Heap.get?_push_of_some _ q).at λo q=>oth dx o h3 q
 ·simp[h8]
 ·exact Nat.le_trans y (Nat.le_of_lt elt)
 ·exact Nat.ne_of_gt elt
 ·exact I1.hok.fresh (Nat.le_refl _)
 ·exact oth _ _ (Nat.ne_of_gt elt) (Heap.get?_push_size _ hTf)
theorem Fd(I:Inv X [] σ H s)(hpn:∀p∈X.pn,ltN p.1 n)(hn:ltN X.env.locals n)(F:dG C x n b H s.heap e i){v:Value}{tb:Addr}{Q:Unit->Shared->Prop}{oe:Obj}{vs:Array Value}(he:s.heap.get? e=some oe)(hd:oe.data=.fields vs)(h1:vs[1]?=some (.ref tb))(h:∀s',Inv X [] σ H s'->dG C x n true H s'.heap e i->s'.heap.get? e=some oe->(∀b o,b∉frs X.stack->ltN b n->s.heap.get? b=some o->s'.heap.get? b=some o)->Q () s'):wpAny M A (setField (.ref tb) 3 v) Q E s:=by
 obtain⟨y,f,dx,oe',vs',mA,t,k1,k2,k3,k4,k5,k6,k7,k8,k9,k10,k11⟩:=F
 rw[he] at k4
 cases k4
 rw[hd] at k7
 cases k7
 rcases k11 with ⟨_,z⟩|⟨tb',ob,ts,z1,z2,z3,z4,z5,z6,z7⟩
 ·rw[h1] at z
  cases z
 ·rw[h1] at z1
  cases z1
  refine wpAny_setField z5 z6 z7 ?_
  obtain⟨r1,r2,r3,r4⟩:=I.rec_ok hpn hn z2 z5 z6
  have oth:∀c o,c≠tb->s.heap.get? c=some o->(s.heap.update tb (Obj.mapFields (·.setIfInBounds 3 v))).get? c=some o:=λc o hc q =>
   (Heap.get?_update_other _ _ (Ne.symm hc)).trans q
  have hd₃:=Obj.data_mapFields z6 (·.setIfInBounds 3 v)
  have hdt:dx≠tb:=λq=>by
   obtain⟨o,es,ep,ho,hdd,_⟩:=k9
   rw[q,z5] at ho
   cases ho
   rw[z6] at hdd
   cases hdd
  refine h _ (I.turned (t':=s.toks) oth z4 r1 r2 r3 r4) ⟨y,f,dx,oe,vs,mA,t,k1,k2,k3,oth _ _ (Ne.symm z3) he,k5,k6,hd,k8,k9.at λo q=>oth _ _ hdt q,k10,.inr ⟨tb,_,_,h1,z2,z3,z4,Heap.get?_update_self _ z5 (Obj.isFreed_of_fields hd₃),hd₃,by simpa using z7⟩⟩ (oth _ _ (Ne.symm z3) he) (λc o _ hcn q=>oth c o (Nat.ne_of_lt (Nat.lt_of_lt_of_le hcn z2)) q)
theorem kO{env:Env}(hA:A.frames=some X.stack)(I:Inv X [] σ H s)(hpn:∀p∈X.pn,ltN p.1 n)(hst:X.stack=X.env::X.outer)(hf:X.env.frame=some X.env.locals)(hev:env.frame=X.env.frame)(hn:ltN X.env.locals n)(F:dG C x n b H s.heap e i){Q:Unit->Shared->Prop}(h:∀s',Inv X [] σ H s'->dG C x n true H s'.heap e i->(∀b o,b∉frs X.stack->ltN b n->s.heap.get? b=some o->s'.heap.get? b=some o)->Q () s'):wpAny M A (noteFrame (.ref e) env) Q E s:=by
 obtain⟨y,f,dx,oe,vs,mA,t,h1,h2,h3,h4,h5,h6,h7,h8,h9,h10,h11⟩:=id F
 unfold noteFrame
 simp only[hev,hf]
 rcases h11 with ⟨_,z⟩|⟨tb,ob,ts,z1,z2,z3,z4,z5,z6,z7⟩
 ·refine wpAny_bind (wpAny_field h4 h7 z ?_)
  rw[if_neg (by decide)]
  exact sJ hA I hpn hst hf hev hn F h
 ·refine wpAny_bind (wpAny_field h4 h7 z1 ?_)
  rw[if_pos (show(Value.ref tb != Value.none)=true from by simp)]
  have q3:ts[3]?=some ts[3]:=by simp[z7]
  refine wpAny_bind (wpAny_field z5 z6 q3 ?_)
  by_cases hq:(ts[3]==rawInt X.env.locals)=true
  ·rw[if_pos hq]
   exact wpAny_pure (h s I ⟨y,f,dx,oe,vs,mA,t,h1,h2,h3,h4,h5,h6,h7,h8,h9,h10,.inr ⟨tb,ob,ts,z1,z2,z3,z4,z5,z6,z7⟩⟩ λ_ _ _ _ q=>q)
  ·rw[if_neg hq]
   exact wpAny_bind (Fd I hpn hn F h4 h7 z1 λs' I' F' _ k'=>sJ hA I' hpn hst hf hev hn F' λs2 I2 F2 k2=>h s2 I2 F2 λc o hc hcn q=>k2 c o hc hcn (k' c o hc hcn q))
theorem gF(I:Inv X [] σ H s)(hpn:∀p∈X.pn,ltN p.1 n)(hn:ltN X.env.locals n)(F:dG C x n b H s.heap e i){fr:Option Addr}{Q:Unit->Shared->Prop}(h:∀s',Inv X [] σ H s'->dG C x n b H s'.heap e i->(∀b o,b∉frs X.stack->ltN b n->s.heap.get? b=some o->s'.heap.get? b=some o)->Q () s'):wpAny M A (setFlight (.ref e) fr) Q E s:=by
 obtain⟨y,f,dx,oe,vs,mA,t,h1,h2,h3,h4,h5,h6,h7,h8,h9,h10,h11⟩:=id F
 unfold setFlight
 rcases h11 with ⟨_,z⟩|⟨tb,ob,ts,z1,z2,z3,z4,z5,z6,z7⟩
 ·refine wpAny_bind (wpAny_field h4 h7 z ?_)
  rw[if_neg (by decide)]
  exact wpAny_pure (h s I F λ_ _ _ _ q=>q)
 ·refine wpAny_bind (wpAny_field h4 h7 z1 ?_)
  rw[if_pos (show(Value.ref tb != Value.none)=true from by simp)]
  exact Fd I hpn hn F h4 h7 z1 λs' I' F' _ k'=>h s' I' (by cases b<;>first|exact F'|exact F'.any) k'
theorem EY(I:Inv X [] σ H s)(hpn:∀p∈X.pn,ltN p.1 n)(hn:ltN X.env.locals n)(F:dG C x n true H s.heap e i){w:String}{fr:Option Addr}{Q:Unit->Shared->Prop}(h:∀s',Inv X [] σ H s'->dG C x n true H s'.heap e i->(∀b o,b∉frs X.stack->ltN b n->s.heap.get? b=some o->s'.heap.get? b=some o)->Q () s') :
  wpAny M A (do
   if (←field (.ref e) 1)==.none then unsupported w
   setFlight (.ref e) fr) Q E s:=by
 obtain⟨y,f,dx,oe,vs,mA,t,h1,h2,h3,h4,h5,h6,h7,h8,h9,h10,h11⟩:=id F
 rcases h11 with ⟨z,_⟩|⟨tb,ob,ts,z1,z2,z3,z4,z5,z6,z7⟩
 ·cases z
 ·refine wpAny_bind (wpAny_field h4 h7 z1 ?_)
  rw[if_neg (show ¬(Value.ref tb==Value.none)=true from by simp)]
  exact gF I hpn hn F h
end
abbrev xk(E:XK)(i:Int)(H:Hp):Prop:=E (.int i 0) none H
def CXF(P:Program)(w:World)(C:Addr)(x:Str):CXT:=λouter H s E e s' =>
 ∃(ea:Addr) (i:Int) (H':Hp),e=.ref ea/\s'.os=s.os/\AllBare s'.gens/\Un (frs outer) [] H H' s.heap s'.heap/\HOk P w H' s'.heap/\dG C x s.heap.objs.size false H' s'.heap ea i/\xk E i H'
def XEb(C:Addr)(x:Str)(X:Cx)(E:XK):Value->Shared->Prop:=λe s' =>
 ∃(ea:Addr) (i:Int) (n:Nat) (σ:St) (H:Hp),e=.ref ea/\Inv X [] σ H s'/\(ltN X.env.locals n/\∀p∈X.pn,ltN p.1 n)/\dG C x n false H s'.heap ea i/\xk E i H
structure Own(X:Cx):Prop where
 stk:X.stack=X.env::X.outer
 fr:X.env.frame=some X.env.locals
section
variable {X:Cx}{C:Addr}{x:Str}{E:XK}
theorem Inv.nopins{pins:List (Addr×Obj)}{σ:St}{H:Hp}{s:Shared}(I:Inv X pins σ H s):Inv X [] σ H s:=I.pins_of λp hp=>absurd hp (by simp)
theorem cT:iz (CXF X.prog X.w C x) (X.wish (XEb C x X E)) E:=by
 intro pins σ H s e s' I h
 obtain⟨ea,i,H',rfl,os,bare,un,hok,fl,q⟩:=h
 have I1:Inv X pins σ H s:=I.unwish
 have I2:=I1.call' (s':=s') (ch:=[]) os un hok bare (λb z=>absurd z (by simp))
 exact⟨ea,i,s.heap.objs.size,σ,H',rfl,I2.nopins,⟨I1.lt,λp hp=>Heap.lt_size (I1.pin p (List.mem_append_left _ hp)).1⟩,fl,q⟩
theorem Dc(O:Own X):PassesOwn (model X.prog X.w) X.A X.env (XEb C x X E):=by
 rintro e s' ⟨ea,i,n,σ,H,rfl,I,⟨hn,hp⟩,fl,q⟩
 show wpAny _ _ _ _ _ _
 refine kO I.ok.frames I hp O.stk O.fr rfl hn fl λs1 I1 F1 _=>?_
 show wpAny _ _ _ _ _ _
 exact EY I1 hp hn F1 λs2 I2 F2 _=>⟨ea,i,n,σ,H,rfl,I2,⟨hn,hp⟩,F2.any,q⟩
end
theorem lW{CX:CXT}{P:Program}{w:World}{K:PySem.W.Frag}{mg:Str->Option Value}{base:Heap}{N:List Str}{qual:Str}{scope:Scope}{f:Addr}{cd:Value}{A:Around}{outer:List Env}{s:Shared}{H:Hp}{E:XK} :
  Own (lO CX P w K mg base N qual scope f cd A outer s H E):=⟨rfl,rfl⟩
section
variable {P:Program}{w:World}{K:PySem.W.Frag}{mg:Str->Option Value}{base:Heap}{C:Addr}{x:Str}
theorem leaveF{N:List Str}{qual:Str}{scope:Scope}{f:Addr}{cd:Value}{A:Around}{outer:List Env}{s:Shared}{H:Hp}{E:XK}{e:Value}{s':Shared}(h:XEb C x (lO (CXF P w C x) P w K mg base N qual scope f cd A outer s H E) E e s'):(lO (CXF P w C x) P w K mg base N qual scope f cd A outer s H E).xe e s':=by
 obtain⟨ea,i,n,σ,H',rfl,I,⟨hn,hp⟩,fl,q⟩:=h
 show wpAny _ _ (leaving _ _) _ _ _
 unfold leaving
 refine wpAny_bind (kO I.ok.frames I hp rfl rfl rfl hn fl λs1 I1 F1 _=>?_)
 refine gF I1 hp hn F1 λs2 I2 F2 _=>?_
 exact⟨ea,i,H',rfl,I2.os,I2.bare,I2.base,I2.hok,F2.any.mono (Nat.le_trans I.ok.above (Nat.le_of_lt hn)),q⟩
theorem Fun.okX{y qual:Str}{st:Stmt}{f:Addr}{fd:FuncData}{N ps:List Str}{k:Nat}{sp:Sp}(F:Fun K y qual st f fd)(S:aJ N ps (aA st))(len:∀vs H Q E,sp vs H Q E->vs.length=ps.length)(hbody:∀(cdv:Value) (A:Around) (outer:List Env) (s:Shared) (H:Hp) (vs:List V) (Q:VK) (E:XK),bY k (A.deeper (envOfC qual (aA st) s.heap.objs.size f cdv))->sp vs H Q E ->
   ∃t,PSs ((lO (CXF P w C x) P w K mg base N qual (aA st) f cdv A outer s H E).wish (XEb C x (lO (CXF P w C x) P w K mg base N qual (aA st) f cdv A outer s H E) E)) (cY st) t/\t { nx:=λ_ H'=>Q .non H',rt:=Q } (start N vs) H) :
  aF P w K mg base (CXF P w C x) (k+1) f fd ps sp:=by
 obtain⟨oc,od,kV,doc,pm,an,cdv,ct,osl,rfl,lk,hcd⟩:=F.ex
 refine fn_of lk hcd S len λA outer s H vs Q E hr hsp=>?_
 obtain⟨t,h,q⟩:=hbody cdv A outer s H vs Q E hr hsp
 exact⟨t,λpins s' σ H' D I hw=>wpAny_mono (h pins s' σ H' D (I.wish _) hw) (λ_ _ q=>q.unwish) λ_ _ z=>leaveF z,q⟩
end
section
variable {prog:Program}{w:World}{A:Around}{K:PySem.W.Frag}{R:Result->Shared->Prop}{h:Heap}{g:Array GenState}{d:Drawn}{t:Nat}{os:OsState}
variable {nm q:Str}{C N f:Addr}{bs bm:List Value}{hdct:Bool}{sn:List Str}{sub:List Value}{ab:Bool}{col:Option Bool}{dd:Option Addr}{k0 k1 k2 k3 k5:Option Value}{B newId initId:String}
noncomputable abbrev jm(C t:Addr):Obj:={ cls:=.ref C,data:=.fields #[.ref t,.none,.none,.none,.bool false,.none] }
noncomputable abbrev jf(rest:List Value):Obj:={ cls:=.type "tuple",data:=.seq rest.toArray }
theorem Ey(F:ExcBaseFacts B newId initId bm){rest:List Value}(hC:h.get? C=some (excClassObj nm q C N bs bm hdct sn sub ab col dd k0 k1 k2 k3 k5 newId))(hfi:PySem.W.findIn K (.ref C) "__init__"=some (some (.ref f)))(X:K.In h)(hf:PySem.W.typeIn K (.ref f)=some (.type "function"))(hq:codeAny (model prog w) (A.under (.builtin "type.__call__" ⟨.ref C::rest,[]⟩)) (.call (.ref f) ⟨.ref (h.objs.size+1)::rest,[]⟩) (PySem.W.InitBack (h.objs.size+1) R)
   ⟨(h.push (jf rest)).push (jm C h.objs.size),g,d,t,os⟩)(hrest:rest.length<=sizeLine) :
  codeAny (model prog w) A (.call (.ref C) ⟨rest,[]⟩) R ⟨h,g,d,t,os⟩:=by
 have f1:=tc_lookup
 have f2:=tc_bind (.ref C)
 have hT:(⟨h,g,d,t,os⟩:Shared).TypeIs (.ref C) "type":=⟨_,hC,rfl⟩
 refine codeAny_of_tree ?_
 show wpAny _ _ (callAny (.ref C) _) _ _ _
 repeat (any_goals (first|assumption|with_reducible refine wpAny_loadPart_at hC ?_|wp_step))
 refine⟨rfl,?_⟩
 refine codeAny_call_builtin_at (Code.quiet_builtin _ dk) entry_typeCall (wpAny_check_type_call_sub hC ?_)
 show wpAny (model prog w) (A.under (.builtin "type.__call__" ⟨.ref C::rest,[]⟩)) (Builtin.«type.__call__» ⟨.ref C::rest,[]⟩) _ _ _
 repeat (first|with_reducible refine wpAny_loadPart_at hC ?_|with_reducible refine wpAny_madeBy_exc hC ?_|wp_step)
 refine codeAny_call_builtin_code (Code.quiet_builtin _ F.quiet) (wpAny_check_new_sub F hC ?_)
 refine codeAny_exc_new_sub F hC ?_ hrest
 show wpAny _ _ _ _ _ _
 have k:∀b o,h.get? b=some o->((h.push (jf rest)).push (jm C h.objs.size)).get? b=some o:=λb o e=>Heap.get?_push_of_some _ (Heap.get?_push_of_some _ e)
 have hC₁:=k _ _ hC
 have hget:((h.push (jf rest)).push (jm C h.objs.size)).get? (h.objs.size+1)=some { cls:=.ref C,data:=.fields #[.ref h.objs.size,.none,.none,.none,.bool false,.none] }:=by heap_get
 have hcC:(Value.ref C::bm).contains (.ref C)=true:=by simp
 unfold isInstance
 repeat (first|with_reducible refine wpAny_loadPart_at hget ?_|(with_reducible refine wpAny_isSubtype_exc hC₁ ?_;rw[hcC])|wp_step)
 show wpAny _ _ (typeLookup (.ref C) _) _ _ _
 have X₁:K.In ((h.push (jf rest)).push (jm C h.objs.size)):=λa o e=>k a o (X a o e)
 refine(PySem.W.looks_findIn X₁ hfi).at ?_
 refine wpAny_holding (wpAny_bind ((PySem.W.bind_fn X₁ _ hf).at ?_))
 refine wpAny_bind (wpAny_call (codeAny_mono hq λr s' z=>?_))
 rcases r with e|(v|_|_|_)<;>first|exact z|exact z.elim|skip
 obtain⟨rfl,z⟩:=z
 exact wpAny_pure (wpAny_pure z)
end
section
variable {prog:Program}{w:World}{A:Around}{E:Value->Shared->Prop}{K:PySem.W.Frag}{h:Heap}{g:Array GenState}{d:Drawn}{t:Nat}{os:OsState}
structure XCls(K:PySem.W.Frag)(C:Addr):Prop where
 ga:PySem.W.findIn K (.ref C) "__getattribute__"=some (some (.builtin "BaseException.__getattribute__"))
 gt:PySem.W.findIn K (.ref C) "__getattr__"=some none
 hd:PySem.W.hasDictIn K C=true
 sub:PySem.W.mroIn K C (.type "BaseException")=some true
theorem Ip{e C dx:Addr}{oe:Obj}{vs:Array Value}{mA:Str->Option Value}{name:Str}{v:Value}{expr:Bool}{Q:Value->Shared->Prop}(X:K.In h)(T:XCls K C)(hna:PySem.W.findIn K (.ref C) name=some none)(hx:h.get? e=some oe)(hc:oe.cls=.ref C)(hdx:oe.dict=some dx)(hd:oe.data=.fields vs)(hns:h.Ns1 dx mA)(hv:mA name=some v)(hv':PySem.W.handedIn v=true)(hq:Q v ⟨h,g,d,t+1,os⟩):wpAny (model prog w) A (getAttr (.ref e) name expr) Q E ⟨h,g,d,t,os⟩:=by
 obtain⟨od,ho,hl⟩:=tD hns
 have I:PySem.W.InstAt h e oe C (some od):=⟨hx,hc,by unfold PySem.W.notCls;rw[hd],by rw[hdx];exact ho⟩
 have hf:PySem.W.findObj K C (some od) name=some (.value v):=PySem.W.findObj_own T.hd hna rfl (by rw[hl,hv])
 have L0:=I.type (M:=model prog w)
 have L1:=PySem.W.looks_find (M:=model prog w) X I hf
 have L2:=PySem.W.looks_findIn (M:=model prog w) X T.ga
 have L3:=PySem.W.looks_findIn (M:=model prog w) X T.gt
 have f3:=PySem.F.attrBase_Exception.ga.bind (.ref e)
 unfold getAttr
 refine wpAny_bind (wpAny_mkText ?_)
 unfold getAttrBy
 refine wpAny_holding (wpAny_bind (L0.at (wpAny_bind (L2.at ?_))))
 have hx0:(onTheHeap (Value.ref C)&&(Value.builtin "BaseException.__getattribute__"==Value.builtin "object.__getattribute__"))=false:=by
  rw[show(Value.builtin "BaseException.__getattribute__"==Value.builtin "object.__getattribute__")=false by decide +kernel,Bool.and_false]
 dsimp only
 rw[hx0]
 simp only[Bool.false_eq_true,if_false]
 unfold getAttrByItsOwn hookBefore
 refine wpAny_bind ?_
 rw[if_pos (show onTheHeap (Value.ref C)=true from rfl)]
 refine L3.at (wpAny_bind (wpAny_attempt (wpAny_holding ?_)))
 unfold callGetattribute
 rw[show(expr&&onTheHeap (Value.builtin "BaseException.__getattribute__"))=false by cases expr<;>rfl]
 simp only[Bool.false_eq_true,if_false]
 unfold boundAndCalled
 refine wpAny_bind (wpAny_of_eq f3 ?_)
 dsimp only
 have hk:builtinKind "BaseException.__getattribute__"=some .slot:=dk
 have hsplit:splitId "BaseException.__getattribute__"=some ("BaseException","__getattribute__"):=dk
 have Li:PySem.W.Looks (model prog w) h (isInstance (.ref e) (.type "BaseException")) true:=L0.andThen (PySem.W.looks_mroIn X T.sub)
 refine wpAny_call (codeAny_call_builtin PySem.F.attrBase_Exception.ga.plain PySem.F.entry_bexc_ga (@PySem.W.check_slot (model prog w) _ _ _ "BaseException.__getattribute__" "BaseException" "__getattribute__" (.ref e) [.str name t] [] _ hk hsplit Li (PySem.F.args_bexc_ga _ _) ?_))
 unfold Builtin.«object.__getattribute__»
 refine wpAny_bind (wpAny_pure (a:=(Value.ref e,[Value.str name t])) ?_)
 refine wpAny_bind (wpAny_pure (a:=name) (wpAny_bind (L0.at (wpAny_bind (L1.at (wpAny_pure ?_))))))
 show wpAny _ _ (handedOut v) _ _ _
 rw[PySem.W.handedOut_of hv']
 exact wpAny_pure hq
theorem Ex{e C t0:Addr}{N:Addr}{nm q:Str}{bs bm:List Value}{hdct:Bool}{sn:List Str}{sub:List Value}{ab:Bool}{col:Option Bool}{dd dx:Option Addr}{k0 k1 k2 k3 k5:Option Value}{newId initId B:String}{Q:Value->Shared->Prop}(F:ExcBaseFacts B newId initId bm)(hC:h.get? C=some (excClassObj nm q C N bs bm hdct sn sub ab col dd k0 k1 k2 k3 k5 newId))(he:h.get? e=some { cls:=.ref C,dict:=dx,data:=.fields #[.ref t0,.none,.none,.none,.bool false,.none] })(hq:Q .none ⟨(h.push (jf [])).update e (Obj.mapFields (·.setIfInBounds 0 (.ref h.objs.size))),g,d,t,os⟩) :
  wpAny (model prog w) A (call (.builtin initId) [.ref e]) Q E ⟨h,g,d,t,os⟩:=by
 refine wpAny_call (codeAny_call_builtin F.init.plain F.initEntry (wpAny_check_init_sub F hC he rfl ?_))
 unfold Builtin.«BaseException.__init__»
 dsimp only
 rw[if_neg (by simp)]
 unfold newTuple Builtin.BaseException.bexcPut
 have he₁:=Heap.get?_push_of_some (h:=h) { cls:=.type "tuple",data:=.seq #[] } he
 refine wpAny_bind (wpAny_newObj_type (wpAny_bind (wpAny_bind (wpAny_field he₁ rfl rfl (wpAny_bind (wpAny_setField he₁ rfl (by show 0<6;decide) ?_))))) (by size_fits))
 exact wpAny_letGo (wpAny_pure hq)
theorem Ir{e C t0:Addr}{name:Str}{v:Value}{Q:Unit->Shared->Prop}{cd:ClassData}(X:K.In h)(hcd:PySem.W.clsIn K C=some cd)(hm:cd.mro=[.ref C,.type "Exception",.type "BaseException",.type "object"])(hhd:cd.hasDict=true)(hs:PySem.W.findIn K (.ref C) "__setattr__"=some (some (.builtin "object.__setattr__")))(hna:PySem.W.findIn K (.ref C) name=some none)(he:h.get? e=some { cls:=.ref C,dict:=none,data:=.fields #[.ref t0,.none,.none,.none,.bool false,.none] })(hq:∀h':Heap,(∀b o,b≠e->h.get? b=some o->h'.get? b=some o)->h'.get? e=some { cls:=.ref C,dict:=some h.objs.size,data:=.fields #[.ref t0,.none,.none,.none,.bool false,.none] } ->
   h'.Ns1 h.objs.size (λy=>if y=name then some v else none)->Q () ⟨h',g,d,t+2,os⟩) :
  wpAny (model prog w) A (setAttr (.ref e) name v) Q E ⟨h,g,d,t,os⟩:=by
 have I:PySem.W.InstAt h e { cls:=.ref C,dict:=none,data:=.fields #[.ref t0,.none,.none,.none,.bool false,.none] } C none:=⟨he,rfl,rfl,trivial⟩
 refine PySem.W.set_plain X I hs ?_
 have SF:=PySem.F.store_object
 have sub:PySem.W.Looks (model prog w) h (isInstance (.ref e) (.type "object")) true:=I.type.andThen (PySem.W.looks_mroIn X (by unfold PySem.W.mroIn;rw[hcd,Option.bind_some,hm];rfl))
 refine codeAny_call_builtin SF.slot.plain SF.entry (@PySem.W.check_slot (model prog w) _ _ _ "object.__setattr__" "object" "__setattr__" (.ref e) [.str name t,v] [] _ SF.kind SF.split sub (SF.args (.ref e) (.str name t) v) ?_)
 have hmr:PySem.W.Looks (model prog w) h (mroOf (.ref C)) cd.mro:=(PySem.W.looks_clsIn X hcd).andThen .now
 have hrf:refuseLoop (.ref e) "__setattr__" [.ref C,.type "Exception",.type "BaseException",.type "object"]=pure ():=by
  rw[refuseLoop_ref]
  kernel_rfl
 rw[PySem.W.osa_eq,refuse_eq]
 refine wpAny_bind (wpAny_bind (I.type.at (wpAny_bind (hmr.at ?_))))
 rw[hm,hrf]
 refine wpAny_pure (wpAny_bind (I.type.at (wpAny_bind ((PySem.W.looks_findIn X hna).at (wpAny_bind (wpAny_pure ?_))))))
 show wpAny (model prog w) A.in1 (Builtin.ObjectAttr.storeInOwnDict (Value.ref e) (Value.ref C) (Value.str name t) name v false) _ _ ⟨h,g,d,t+1,os⟩
 unfold Builtin.ObjectAttr.storeInOwnDict
 refine wpAny_bind (wpAny_pure (wpAny_bind ?_))
 unfold Builtin.ObjectAttr.ownDictForStores instanceDict
 refine wpAny_bind (wpAny_loadPart he (wpAny_bind ((PySem.W.looks_clsIn X hcd).at ?_)))
 rw[hhd]
 simp only[Bool.not_true,Bool.false_eq_true,if_false]
 rw[if_neg (show ¬(false || !typeHasDict (Value.ref C))=true from λz=>Bool.noConfusion (show false=true from z))]
 refine wpAny_bind (wpAny_alloc (wpAny_bind (wpAny_update (Heap.get?_push_of_some _ he) (wpAny_pure ?_))))
 have elt:=Heap.lt_size he
 have he2:=Heap.get?_update_self (h:=h.push { cls:=.type "dict",data:=.dict #[] }) (λo=>{ o with dict:=some h.objs.size }) (Heap.get?_push_of_some _ he) rfl
 have hd2:((h.push { cls:=.type "dict",data:=.dict #[] }).update e (λo=>{ o with dict:=some h.objs.size })).get? h.objs.size=some { cls:=.type "dict",data:=.dict #[] } :=
  (Heap.get?_update_other _ _ (Nat.ne_of_lt elt)).trans (Heap.get?_push_size _ rfl)
 have hn2:((h.push { cls:=.type "dict",data:=.dict #[] }).update e (λo=>{ o with dict:=some h.objs.size })).Ns1 h.objs.size (λ_=>none) :=
  Heap.Ns1.of_empty ⟨_,#[],_,hd2,rfl,λy hy=>absurd hy (by simp),λ_=>rfl⟩
 show wpAny _ _ (Builtin.ObjectAttr.storeInDict h.objs.size (Value.str name t) name v) _ _ _
 unfold Builtin.ObjectAttr.storeInDict
 refine wpAny_bind (wpAny_pure (wpAny_bind ?_))
 refine wpAny_nsSet1 hn2 λh' hn3 hs3=>?_
 obtain⟨oD,esD,epD,hoD,hdD,hcD⟩:=hn3.count (PySem.Within.cons name v PySem.Within.nil)
 refine wpAny_bind (wpAny_lookBehind hoD (by rw[hdD];exact pastItsLine_dict (Nat.le_trans hcD (by show 1<=sizeLine+1;omega))) ?_)
 refine wpAny_pure (hq h' (λb o hb e1=>?_) ?_ hn3)
 ·rw[hs3.2 b (Nat.ne_of_lt (Heap.lt_size e1)),Heap.get?_update_other _ _ (Ne.symm hb)]
  exact Heap.get?_push_of_some _ e1
 ·rw[hs3.2 e (Nat.ne_of_lt elt)]
  exact he2
end
noncomputable def jN(e C:Addr)(dx:Option Addr):HO:=.ext λh=>(∀z,dx=some z->ltN e z)/\∃t:Addr,h.get? e=some { cls:=.ref C,dict:=dx,data:=.fields #[.ref t,.none,.none,.none,.bool false,.none] }
theorem uI{P:Program}{w:World}{H:Hp}{h:Heap}{e C:Addr}{dx:Option Addr}{t:Addr}(y:∀z,dx=some z->ltN e z)(q:h.get? e=some { cls:=.ref C,dict:=dx,data:=.fields #[.ref t,.none,.none,.none,.bool false,.none] }):cW P w H h e (jN e C dx) :=
 ⟨⟨y,t,q⟩,⟨_,q⟩,λh1 h2 ⟨y',t',z⟩ k=>⟨y',t',k _ z⟩⟩
structure XKl(K:PySem.W.Frag)(C f:Addr)(x:Str):Prop where
 cls:XCls K C
 obj:∃N nm q bs sn sub ab col dd k0 k1 k2 k3 k5,K.lookup C=some (excClassObj nm q C N bs [.type "Exception",.type "BaseException",.type "object"] true sn sub ab col dd k0 k1 k2 k3 k5 "Exception.__new__")
 init:PySem.W.findIn K (.ref C) "__init__"=some (some (.ref f))
 fn:PySem.W.isFn K (.ref f)=true
 kp:PySem.W.keepIn K (.ref C)=true
 sa:PySem.W.findIn K (.ref C) "__setattr__"=some (some (.builtin "object.__setattr__"))
 no:PySem.W.findIn K (.ref C) x=some none
section
variable {X:Cx}{C f:Addr}{x:Str}{pos pos' ap cp p np cpos:Pos}{a o value:Expr}{ta tv:TE}
theorem Inv.exc{pins:List (Addr×Obj)}{σ:St}{H:Hp}{s:Shared}{e:Addr}{dx:Option Addr}(I:Inv X pins σ H s)(q:H e=some (jN e C dx)) :
  (∀z,dx=some z->ltN e z)/\∃t:Addr,s.heap.get? e=some { cls:=.ref C,dict:=dx,data:=.fields #[.ref t,.none,.none,.none,.bool false,.none] }:=(I.hok e _ q).1
def sExcB(C:Addr)(ta:TE):TS:=λD σ H=>ta σ H λv H1=>∃e dx,v=.ref e/\H1 e=some (jN e C dx)/\D.nx σ (upd H1 e (jN e C dx))
theorem JC{pl:Sem Bool}(T:XKl X.K C f x)(ha:PE X a ta)(hg:Gl X "Exception")(hm:X.mg "Exception"=none)(hst:starEach [a] X.env=[(false,eval a X.env)]:=by rfl)(hs:swapsWith (.Call (.Attribute (.Name "Exception" p) "__init__" ap) [a] [] cp) none pos.line X.env=pure false:=by rfl)(ht:eval (.Call (.Attribute (.Name "Exception" p) "__init__" ap) [a] [] cp) X.env=(do
   let ov ←eval (.Name "Exception" p) X.env
   standAt ap.atName
   let (f,first) ←holding [ov] (getMethod ov "__init__" pl)
   callWith cp f first (backTo cp (starEach [a] X.env)) (backToKw cp (keywordEach [] X.env))):=by rfl) :
  PS X (.Expr (.Call (.Attribute (.Name "Exception" p) "__init__" ap) [a] [] cp) pos) (sExcB C ta):=by
 intro pins s σ H D I h
 refine wpAny_Expr_any (Q:=SP X pins D) ?_ I.quiet hs
 refine PySem.W.methodCall_KW (pl:=pl) (jX I hg hm (by decide +kernel:bootBuiltins "Exception"=some (.type "Exception")) ?_ (by decide) (by decide)) ht
 obtain⟨m,Fm⟩:=I.fr
 refine PySem.W.method_type Fm I.mod.kin (by kernel_rfl) dk (v:=.builtin "Exception.__init__") (by kernel_rfl) dk ?_
 refine PyProof.Rows.callWith_builtin1 (thn (ak ha au hst cp pins _ σ H (λvs H1=>match vs with|[v]=>(∃e dx,v=.ref e/\H1 e=some (jN e C dx)/\D.nx σ (upd H1 e (jN e C dx)))|_=>False) (I.tok _) h) λus s1 hh=>?_) hst
 obtain⟨vs,H1,I1,r,q⟩:=hh
 cases r with
 |nil=>exact q.elim
 |cons r1 r2 =>
  cases r2 with
  |cons _ _=>exact q.elim
  |nil =>
   obtain⟨e,dx,rfl,he,q⟩:=q
   cases r1
   obtain⟨N,nm,qn,bs,sn,sub,ab,col,dd,k0,k1,k2,k3,k5,hC⟩:=T.obj
   obtain⟨y,t0,h0⟩:=I1.exc he
   have hC1:=I1.kIn _ _ hC
   obtain⟨h1,g1,d1,tk1,os1⟩:=s1
   have elt:=Heap.lt_size h0
   have e1:=Heap.get?_update_self (h:=h1.push (jf [])) (Obj.mapFields (·.setIfInBounds 0 (.ref h1.objs.size))) (Heap.get?_push_of_some _ h0) rfl
   exact Ex PySem.F.excBase_Exception hC1 h0 ⟨σ,_,I1.write (t':=tk1) (by rw[he];trivial) (.inl rfl) (λb u hb z=>(Heap.get?_update_other _ _ (Ne.symm hb)).trans (Heap.get?_push_of_some _ z)) ⟨_,e1⟩ (uI (t:=h1.objs.size) y e1),q⟩
def sFldX(C:Addr)(x:Str)(ta tv:TE):TS:=λD σ H=>tv σ H λy H1=>ta σ H1 λv H2=>∃e,v=.ref e/\H2 e=some (jN e C none) /\
 ∀dx,H2 dx=none->dx≠e->D.nx σ (upd (upd H2 dx (.xd [(x,y)])) e (jN e C (some dx)))
theorem JD(T:XKl X.K C f x)(ha:PE X o ta)(hv:PE X value tv)(hs:swapsWith value (some (.Attribute o x pos')) pos.line X.env=pure false):PS X (.Assign [.Attribute o x pos'] value pos) (sFldX C x ta tv):=by
 intro pins s σ H D I h
 refine plainObj_wpAny_Assign_Attribute (thn (hv pins s σ H _ I h) λu s1 ⟨y,H1,I1,ry,q⟩=>thn (ha pins s1 σ H1 _ I1 q) λov s2 hq=>?_) hs
 obtain⟨z,H2,I2,rx,e,ex,he,q2⟩:=hq
 subst ex
 obtain rfl:ov=Value.ref e:=rx
 obtain⟨N,nm,qn,bs,sn,sub,ab,col,dd,k0,k1,k2,k3,k5,hC⟩:=T.obj
 obtain⟨_,t0,h0⟩:=I2.exc he
 obtain⟨cd,hcd,hmr,hhd⟩:∃cd,PySem.W.clsIn X.K C=some cd/\cd.mro=[.ref C,.type "Exception",.type "BaseException",.type "object"]/\cd.hasDict=true:=by
  unfold PySem.W.clsIn
  rw[hC]
  exact⟨_,rfl,rfl,rfl⟩
 obtain⟨h2,g2,d2,tk2,os2⟩:=s2
 have elt:ltN e h2.objs.size:=Heap.lt_size h0
 have hdn:H2 h2.objs.size=none:=I2.hok.fresh (Nat.le_refl _)
 have nde:h2.objs.size≠e:=Nat.ne_of_gt elt
 refine Ir I2.kIn hcd hmr hhd T.sa T.no h0 λh' kp he' hn'=>?_
 have nx:∀b u,H2 b=some u->(∀φ,u≠.ext φ)->b≠e:=λb u hb hu z=>by
  rw[z,he] at hb
  exact hu _ (Option.some.inj hb).symm
 have nd:∀b u,H2 b=some u->b≠h2.objs.size:=λb u hb=>aa hb hdn
 have same:∀b u,H2 b=some u->(∀φ,u≠.ext φ)->upd (upd H2 h2.objs.size (.xd [(x,y)])) e (jN e C (some h2.objs.size)) b=some u:=λb u hb hu=>by
  rw[ao (nx b u hb hu),ao (nd b u hb)]
  exact hb
 have un:Un X.fs [] H2 (upd (upd H2 h2.objs.size (.xd [(x,y)])) e (jN e C (some h2.objs.size))) h2 h':=by
  refine⟨λb u hb n _ _=>kp b u (λz=>by rw[z,he] at n;cases n) hb,λb u hb n _ _=>⟨u.slots,kp b u (λz=>by rw[z,he] at n;cases n) hb⟩,λb u hb n _=>?_,λb u hb _=>?_,λb xs z=>same b _ z (by intro φ w;cases w),λb ob xs z=>same b _ z (by intro φ w;cases w),λb ps z=>⟨#[],?_⟩⟩
  ·rw[ao (λz=>by rw[z,he] at n;cases n),ao (Nat.ne_of_lt (Heap.lt_size hb))]
   exact n
  ·by_cases hbe:b=e
   ·subst hbe
    exact⟨_,he'⟩
   ·exact⟨u,kp b u hbe hb⟩
  ·rw[same b _ z (by intro φ w;cases w)]
   simp
 have ok:HOk X.prog X.w (upd (upd H2 h2.objs.size (.xd [(x,y)])) e (jN e C (some h2.objs.size))) h':=by
  intro b u hb
  by_cases hbe:b=e
  ·subst hbe
   rw[aj] at hb
   cases hb
   exact uI (λz hz=>by cases hz;exact elt) he'
  ·rw[ao hbe] at hb
   by_cases hbd:b=h2.objs.size
   ·subst hbd
    rw[aj] at hb
    cases hb
    refine⟨_,hn',λg=>?_⟩
    by_cases hg:g=x
    ·subst hg
     simp only[List.lookup_cons,beq_self_eq_true,if_true]
     exact ry
    ·have e1:(g==x)=false:=by simpa using hg
     simp only[List.lookup_cons,e1,List.lookup_nil,if_neg hg]
     trivial
   ·rw[ao hbd] at hb
    refine(I2.hok b u hb).stay (λc v hc z=>kp c v ?_ z) (λc z=>same c _ z (by intro φ w;cases w)) λc xs z=>same c _ z (by intro φ w;cases w)
    rcases hc with rfl|hc
    ·exact hbe
    ·exact nx c _ hc (by intro φ w;cases w)
 exact⟨σ,_,I2.un (h':=h') (t':=tk2+2) un ok,q2 _ hdn nde⟩
end
section
variable {M:Model}{A:Around}{E:Value->Shared->Prop}{env:Env}
variable {nm q:Str}{C N:Addr}{bs bm:List Value}{hdct:Bool}{sn:List Str}{sub:List Value}{ab:Bool}{col:Option Bool}{dd:Option Addr}{k0 k1 k2 k3 k5:Option Value}{newId:String}
theorem yM{s:Shared}{x:Sem Value}{Q:Flow->Shared->Prop}(hbase:bm.contains (.type "BaseException")=true)(hh:A.handled=none)(h:wpAny M A x (λv s1=>∃e oe vs,v=.ref e/\s1.heap.get? C=some (excClassObj nm q C N bs bm hdct sn sub ab col dd k0 k1 k2 k3 k5 newId) /\
   s1.heap.get? e=some oe/\oe.cls=.ref C/\oe.data=.fields vs/\vs[1]?=some .none/\E (.ref e) s1) E s) :
  wpAny M A (raiseStmt env (some x) none) Q E s:=by
 have hcB:(Value.ref C::bm).contains (.type "BaseException")=true:=by rw[List.contains_cons,hbase,Bool.or_true]
 unfold raiseStmt
 refine wpAny_bind (wpAny_mono h (λv s1 h1=>?_) λ_ _ x=>x)
 obtain⟨e,oe,vs,rfl,hC,he,hc,hd,h1,hE⟩:=h1
 obtain⟨hp,g,d,tk,os⟩:=s1
 obtain⟨oc,odi,oda,osl⟩:=oe
 dsimp only at hc hd
 subst hc hd
 have fin:wpAny M A (setFlight (.ref e) none) (λ_ s'=>wpAny M A (raiseNew (.ref e):Sem Flow) Q E s') E ⟨hp,g,d,tk,os⟩:=by
  unfold setFlight
  refine wpAny_bind (wpAny_field he rfl h1 ?_)
  rw[if_neg (by decide)]
  exact wpAny_pure (wpAny_raiseNew_none hh hE)
 repeat (first|exact fin|with_reducible refine wpAny_loadPart_at he ?_|with_reducible refine wpAny_loadPart_at hC ?_|(with_reducible refine wpAny_isSubtype_exc hC ?_;rw[hcB])|wp_step)
end
section
variable {X:Cx}{pins:List (Addr×Obj)}{σ:St}{H H':Hp}{s:Shared}
def loose:HO->Prop
 |.ext _=>True
 |.xd _=>True
 |_=>False
theorem Inv.forget(I:Inv X pins σ H' s)(sub:∀b o,H b=some o->H' b=some o)(kp:∀b o,H' b=some o->H b=some o∨loose o):Inv X pins σ H s:=by
 have nn:∀b,H' b=none->H b=none:=λb n=>by
  cases z:H b with
  |none=>rfl
  |some o =>
   rw[sub b o z] at n
   cases n
 have tk:∀b o,H' b=some o->¬loose o->H b=some o:=λb o z nl=>(kp b o z).resolve_right nl
 refine⟨I.ok,I.os,I.bare,⟨I.base.keep,I.base.slot,λb o e n hx=>nn b (I.base.free b o e n hx),I.base.there,λb xs e=>tk b _ (I.base.tups b xs e) id,λb o u e=>tk b _ (I.base.frzs b o u e) id,λb ps e=>?_⟩,I.loc,I.cell,nn _ I.free,λy c e=>nn _ (I.freeC y c e),λp hp=>?_,λb o e=>?_,I.len⟩
 ·obtain⟨m,z⟩:=I.base.tbls b ps e
  exact⟨m,tk b _ z id⟩
 ·obtain⟨a1,a2,a3⟩:=I.pin p hp
  exact⟨a1,nn _ a2,a3⟩
 ·exact(I.hok b o (sub b o e)).stay (λc u _ z=>z) (λc z=>tk c _ z id) λc xs z=>tk c _ z id
end
def iU(C:Addr)(x:Str):Sp:=λvs H Q _=>∃e i,vs=[.ref e,.int i]/\H e=some (jN e C none)/\∀dx H',H dx=none->dx≠e->(∀b,b≠e->b≠dx->H' b=H b)->H' dx=some (.xd [(x,.int i)])->H' e=some (jN e C (some dx))->Q .non H'
def tRaise(E:XK)(ta:TE):TS:=λ_ σ H=>ta σ H λv H1=>∃i,v=.int i/\xk E i H1
section
variable {X:Cx}{C f:Addr}{x cn:Str}{pos np cpos:Pos}{a:Expr}{ta:TE}{E:XK}{k:Nat}{fd:FuncData}{ps:List Str}
theorem gq(T:XKl X.K C f x)(G:aF X.prog X.w X.K X.mg X.base CX0 k f fd ps (iU C x))(hr:bY (k+1) X.A)(hg:Gl X cn)(hm:X.mg cn=some (.ref C))(hb:Binds X.K fd ps [])(ha:PE (X.wish (XEb C x X E)) a ta)(hdb:(cn==("__debug__":Str))=false:=by decide)(hst:starEach [a] X.env=[(false,eval a X.env)]:=by rfl) :
  PS (X.wish (XEb C x X E)) (.Raise (some (.Call (.Name cn np) [a] [] cpos)) none pos) (tRaise E ta):=by
 intro pins s σ H D I h
 obtain⟨N,nm,qn,bs,sn,sub,ab,col,dd,k0,k1,k2,k3,k5,hC⟩:=T.obj
 rw[arm_exec_Raise]
 refine wpAny_bind (wpAny_standAt ?_)
 show wpAny _ _ (raiseStmt X.env (some (do let v ←eval (.Call (.Name cn np) [a] [] cpos) X.env;standAt pos;pure v)) none) _ _ _
 refine yM (C:=C) (nm:=nm) (q:=qn) (N:=N) (bs:=bs) (hdct:=true) (sn:=sn) (sub:=sub) (ab:=ab) (col:=col) (dd:=dd) (k0:=k0) (k1:=k1) (k2:=k2) (k3:=k3) (k5:=k5) (newId:="Exception.__new__") (by decide +kernel:([.type "Exception",.type "BaseException",.type "object"]:List Value).contains (.type "BaseException")=true) hr.hd ?_
 refine wpAny_bind (thn (Q:=λv s1=>∃e oe vs,v=.ref e/\s1.heap.get? C=some (excClassObj nm qn C N bs [.type "Exception",.type "BaseException",.type "object"] true sn sub ab col dd k0 k1 k2 k3 k5 "Exception.__new__") /\
   s1.heap.get? e=some oe/\oe.cls=.ref C/\oe.data=.fields vs/\vs[1]?=some .none/\XEb C x X E (.ref e) s1) ?_ λv s3 h3=>wpAny_bind (wpAny_standAt (wpAny_pure h3)))
 refine wpAny_Call_Name_kw (iG I hg hm ?_ hdb)
 refine PySem.W.callWith_K (h₀:=X.base) I.ok.mod.kin T.kp (thn (ak ha au hst cpos pins s σ H (λvs H1=>match vs with|[v]=>(∃i,v=.int i/\xk E i H1)|_=>False) I h) λus s1 hh=>⟨hh.choose_spec.choose_spec.1.kIn,?_⟩) hst
 obtain⟨vs,H1,I1,r,q⟩:=hh
 cases r with
 |nil=>exact q.elim
 |cons r1 r2 =>
  cases r2 with
  |cons _ _=>exact q.elim
  |nil =>
   obtain⟨i,rfl,q⟩:=q
   obtain⟨tk0,rfl⟩:=r1
   have hC1:=I1.kIn _ _ hC
   obtain⟨h1,g1,d1,tk1,os1⟩:=s1
   have hen:H1 (h1.objs.size+1)=none:=I1.hok.fresh (Nat.le_succ _)
   have Ia:Inv (X.wish (XEb C x X E)) pins σ H1 ⟨h1.push (jf [.int i tk0]),g1,d1,tk1,os1⟩:=I1.kept (t':=tk1) (h':=h1.push (jf [.int i tk0])) λb u z=>Heap.get?_push_of_some _ z
   have hget:((h1.push (jf [.int i tk0])).push (jm C h1.objs.size)).get? (h1.objs.size+1)=some { cls:=.ref C,data:=.fields #[.ref h1.objs.size,.none,.none,.none,.bool false,.none] }:=by heap_get
   have Ib:Inv (X.wish (XEb C x X E)) pins σ (upd H1 (h1.objs.size+1) (jN (h1.objs.size+1) C none)) ⟨(h1.push (jf [.int i tk0])).push (jm C h1.objs.size),g1,d1,tk1,os1⟩ :=
    Ia.laid (t':=tk1) (h':=(h1.push (jf [.int i tk0])).push (jm C h1.objs.size)) (λb u z=>Heap.get?_push_of_some _ z) (Nat.le_of_eq (Heap.size_push _ _)) (uI (λz hz=>by cases hz) hget)
   have hsp:iU C x [.ref (h1.objs.size+1),.int i] (upd H1 (h1.objs.size+1) (jN (h1.objs.size+1) C none)) (λv H2=>v=.non/\∃dx,H1 dx=none/\dx≠h1.objs.size+1/\(∀b,b≠h1.objs.size+1->b≠dx->H2 b=H1 b)/\H2 dx=some (.xd [(x,.int i)])/\H2 (h1.objs.size+1)=some (jN (h1.objs.size+1) C (some dx))) E0:=by
    refine⟨h1.objs.size+1,i,rfl,aj,λdx H' n ne oth hd he=>⟨rfl,dx,?_,ne,λb hb hbd=>?_,hd,he⟩⟩
    ·rw[ao ne] at n
     exact n
    ·rw[oth b hb hbd,ao hb]
   have hl:=G.len _ _ _ _ hsp
   have rv:Vals [V.ref (h1.objs.size+1),.int i] [Value.ref (h1.objs.size+1),.int i tk0]:=.cons rfl (.cons ⟨tk0,rfl⟩ .nil)
   have bnd:BindsTo _ fd ⟨[Value.ref (h1.objs.size+1),.int i tk0],[]⟩ (ps.zip [Value.ref (h1.objs.size+1),.int i tk0]):=hb ⟨(h1.push (jf [.int i tk0])).push (jm C h1.objs.size),g1,d1,tk1,os1⟩ [Value.ref (h1.objs.size+1),.int i tk0] Ib.kIn (by rw[←hl];rfl)
   refine wpAny_call (Ey (f:=f) PySem.F.excBase_Exception hC1 T.init I1.kIn (beq_iff_eq.mp T.fn) (codeAny_mono (G.run _ X.stack _ _ ⟨[Value.ref (h1.objs.size+1),.int i tk0],[]⟩ _ _ _ E0 (hr.make C [.int i tk0] []) (Ib.env0.make C [.int i tk0] []) bnd rv hsp) λr s' hq'=>?_) (by show 1<=sizeLine;decide))
   cases r with
   |error e=>exact False.elim hq'
   |ok fl =>
    cases fl with
    |next=>exact False.elim hq'
    |brk=>exact False.elim hq'
    |cont=>exact False.elim hq'
    |ret u =>
     obtain⟨v,H3,I3,rv3,ev,dx,n3,ne3,oth3,hd3,he3⟩:=Ib.after hq'
     subst ev
     refine⟨rv3,?_⟩
     obtain⟨y3,t3,g3⟩:=I3.exc he3
     have I4:Inv X [] σ H1 s':=by
      refine I3.unwish.nopins.forget (λb o z=>?_) λb o z=>?_
      ·rw[oth3 b (λw=>by rw[w,hen] at z;cases z) (λw=>by rw[w,n3] at z;cases z)]
       exact z
      ·by_cases h1':b=h1.objs.size+1
       ·rw[h1',he3] at z
        cases z
        exact .inr trivial
       ·by_cases h2':b=dx
        ·rw[h2',hd3] at z
         cases z
         exact .inr trivial
        ·rw[oth3 b h1' h2'] at z
         exact .inl z
     refine⟨_,_,_,rfl,I3.kIn _ _ hC,g3,rfl,rfl,rfl,_,i,h1.objs.size,σ,H1,rfl,I4,⟨I1.lt,λp hp=>Heap.lt_size (I1.pin p (List.mem_append_left _ hp)).1⟩,⟨Nat.le_succ _,hen,dx,?_⟩,q⟩
     obtain⟨mA,hn,hm3⟩:=I3.hok dx _ hd3
     have hx:=hm3 x
     rw[show([(x,V.int i)]:List (Str×V)).lookup x=some (.int i) by simp] at hx
     obtain⟨u3,hu3,t4,rfl⟩:=hx.some_of
     exact⟨_,_,mA,t4,Nat.le_trans (Nat.le_succ _) (Nat.le_of_lt (y3 dx rfl)),n3,ne3,g3,rfl,rfl,rfl,by show 1<6;decide,hn,hu3,.inl ⟨rfl,rfl⟩⟩
end
noncomputable def Ew(e C dx:Addr):HO:=.ext λh=>∃oe vs,h.get? e=some oe/\oe.cls=.ref C/\oe.dict=some dx/\oe.data=.fields vs
noncomputable def xdH(dx:Addr)(x:Str)(i:Int):HO:=.ext λh=>∃mA t,h.Ns1 dx mA/\mA x=some (.int i t)
noncomputable abbrev Cx.held(X:Cx)(e:Addr):Cx:={ X with A:=X.A.mark (some (.ref e)),calm:=false,xe:=λ_ _=>False }
section
variable {X:Cx}{pins:List (Addr×Obj)}{σ:St}{H:Hp}{s:Shared}{e C:Addr}{x:Str}
theorem Inv.held(I:Inv X pins σ H s)(e:Addr):Inv (X.held e) pins σ H s :=
 ⟨⟨I.ok.mod,I.ok.kind,I.ok.glob,I.ok.blt,I.ok.above,I.ok.inj,I.ok.has,I.ok.cab,(λz=>Bool.noConfusion (show false=true from z)),I.ok.frames,I.ok.stk,I.ok.exf,I.ok.bs,I.ok.bsz,I.ok.noex,I.ok.exfs,I.ok.funs,I.ok.frf⟩,I.os,I.bare,I.base,I.loc,I.cell,I.free,I.freeC,I.pin,I.hok,I.len⟩
theorem Inv.unheld(h:X.calm=true->X.A.handled=none)(I:Inv (X.held e) pins σ H s)(fr:X.A.frames=some X.stack):Inv X pins σ H s :=
 ⟨⟨I.ok.mod,I.ok.kind,I.ok.glob,I.ok.blt,I.ok.above,I.ok.inj,I.ok.has,I.ok.cab,h,fr,I.ok.stk,I.ok.exf,I.ok.bs,I.ok.bsz,I.ok.noex,I.ok.exfs,I.ok.funs,I.ok.frf⟩,I.os,I.bare,I.base,I.loc,I.cell,I.free,I.freeC,I.pin,I.hok,I.len⟩
theorem Inv.track(I:Inv X pins σ H s){a:Addr}{o:HO}(n:H a=none)(y:X.s_0.heap.objs.size<=a)(hL:a≠X.env.locals)(hc:∀z c,X.env.cells.lookup z=some c->c≠a)(hp:∀p∈X.pn++pins,p.1≠a)(ok:cW X.prog X.w (upd H a o) s.heap a o):Inv X pins σ (upd H a o) s:=by
 have sm:∀b u,H b=some u->upd H a o b=some u:=λb u z=>by
  rw[ao (aa z n)]
  exact z
 refine⟨I.ok,I.os,I.bare,⟨I.base.keep,I.base.slot,λb ob q n' hx=>?_,I.base.there,λb xs q=>sm _ _ (I.base.tups b xs q),λb ob u q=>sm _ _ (I.base.frzs b ob u q),λb ps q=>?_⟩,I.loc,I.cell,?_,λz c q=>?_,λp hp'=>?_,λb u q=>?_,I.len⟩
 ·rw[ao (Nat.ne_of_lt (Nat.lt_of_lt_of_le (Heap.lt_size q) y))]
  exact I.base.free b ob q n' hx
 ·obtain⟨m,z⟩:=I.base.tbls b ps q
  exact⟨m,sm _ _ z⟩
 ·rw[ao (Ne.symm hL)]
  exact I.free
 ·rw[ao (hc z c q)]
  exact I.freeC z c q
 ·obtain⟨a1,a2,a3⟩:=I.pin p hp'
  exact⟨a1,by rw[ao (hp p hp')];exact a2,a3⟩
 ·by_cases hb:b=a
  ·subst hb
   rw[aj] at q
   cases q
   exact ok
  ·rw[ao hb] at q
   exact(I.hok b u q).stay (λc v _ z=>z) (λc z=>sm _ _ z) λc xs z=>sm _ _ z
theorem Inv.wipe(I:Inv X pins σ H s){h':Heap}{m':Str->Option Value}{t':Nat}(hn:h'.Ns X.env.locals m')(hs:Heap.SameBut X.env.locals s.heap h'):Inv X pins (List.replicate X.N.length none) H { s with heap:=h',toks:=t' }:=by
 have kp:∀b o,b≠X.env.locals->s.heap.get? b=some o->h'.get? b=some o:=λb o hb z=>(hs.2 b hb).trans z
 have neL:∀b o,X.s_0.heap.get? b=some o->b≠X.env.locals:=λb o z=>Nat.ne_of_lt (Nat.lt_of_lt_of_le (Heap.lt_size z) I.ok.above)
 refine⟨I.ok,I.os,I.bare,⟨λb o q n hb hx=>kp b o (neL b o q) (I.base.keep b o q n hb hx),λb o q n hb hx=>?_,I.base.free,λb o q hx=>?_,I.base.tups,I.base.frzs,I.base.tbls⟩,⟨m',hn,λi y v _ z _=>?_⟩,λy c q=>?_,I.free,I.freeC,λp hp=>?_,λb u q=>?_,by simp⟩
 ·obtain⟨sl,z⟩:=I.base.slot b o q n hb hx
  exact⟨sl,kp b _ (neL b o q) z⟩
 ·obtain⟨o',z⟩:=I.base.there b o q hx
  exact⟨o',kp b _ (neL b o q) z⟩
 ·rw[List.getElem?_replicate] at z
  split at z<;>cases z
 ·obtain⟨v,o,ho,hd⟩:=I.cell y c q
  exact⟨v,o,kp c o (I.cne y c q) ho,hd⟩
 ·obtain⟨a1,a2,a3,a4⟩:=I.pin p hp
  exact⟨kp _ _ a3 a1,a2,a3,a4⟩
 ·refine(I.hok b u q).stay (λc v hc z=>kp c v ?_ z) (λ_ z=>z) λ_ _ z=>z
  rcases hc with rfl|hc
  ·exact aa q I.free
  ·exact aa hc I.free
end
def tTryX(N C:Nat)(x:Str)(j:Nat)(tb:XK->TS)(th:TS):TS:=λD σ H =>
 tb (λv _ H1=>∀i,v=.int i 0->∀(σ1:St) (e dx:Addr),σ1.length=N->H1 e=none->H1 dx=none->dx≠e->th { nx:=λ_ _=>False,rt:=D.rt } (σ1.set j (some (.ref e))) (upd (upd H1 dx (xdH dx x i)) e (Ew e C dx))) D σ H
noncomputable abbrev Cx.pinned(X:Cx)(l:List (Addr×Obj)):Cx:={ X with pn:=l }
section
variable {X:Cx}{pins:List (Addr×Obj)}{σ:St}{H:Hp}{s:Shared}
theorem Inv.toPn(I:Inv X pins σ H s):Inv (X.pinned (X.pn++pins)) [] σ H s :=
 ⟨⟨I.ok.mod,I.ok.kind,I.ok.glob,I.ok.blt,I.ok.above,I.ok.inj,I.ok.has,I.ok.cab,I.ok.hd,I.ok.frames,I.ok.stk,I.ok.exf,I.ok.bs,I.ok.bsz,I.ok.noex,I.ok.exfs,I.ok.funs,I.ok.frf⟩,I.os,I.bare,I.base,I.loc,I.cell,I.free,I.freeC,λp hp=>I.pin p (by simpa using hp),I.hok,I.len⟩
theorem Inv.ofPn(I:Inv (X.pinned (X.pn++pins)) [] σ H s):Inv X pins σ H s :=
 ⟨⟨I.ok.mod,I.ok.kind,I.ok.glob,I.ok.blt,I.ok.above,I.ok.inj,I.ok.has,I.ok.cab,I.ok.hd,I.ok.frames,I.ok.stk,I.ok.exf,I.ok.bs,I.ok.bsz,I.ok.noex,I.ok.exfs,I.ok.funs,I.ok.frf⟩,I.os,I.bare,I.base,I.loc,I.cell,I.free,I.freeC,λp hp=>I.pin p (by simpa using hp),I.hok,I.len⟩
theorem SP.ofPn{D:Ends}{f:Flow}{s':Shared}(h:SP (X.pinned (X.pn++pins)) [] D f s'):SP X pins D f s':=by
 cases f with
 |next=>obtain⟨σ',H',I,q⟩:=h;exact⟨σ',H',I.ofPn,q⟩
 |brk=>obtain⟨σ',H',I,q⟩:=h;exact⟨σ',H',I.ofPn,q⟩
 |cont=>obtain⟨σ',H',I,q⟩:=h;exact⟨σ',H',I.ofPn,q⟩
 |ret u=>obtain⟨v,σ',H',I,r,q⟩:=h;exact⟨v,σ',H',I.ofPn,r,q⟩
end
section
variable {X:Cx}{C f:Addr}{x cn n:Str}{pos hpos tp:Pos}{body suite:List Stmt}{b0:Stmt}{tb:XK->TS}{th:TS}{j:Nat}
theorem Af(O:Own X)(T:XKl X.K C f x)(hg:Gl X cn)(hm:X.mg cn=some (.ref C))(hN:X.N.Nodup)(hj:X.N[j]?=some n)(hl:X.env.kindOf n=some .local)(hb:∀l E,PSs ((X.pinned l).wish (XEb C x (X.pinned l) E)) body (tb E))(hh:∀e,PSs (X.held e) (b0::suite) th)(hdb:(cn==("__debug__":Str))=false:=by decide)(hpk:(X.env.scope.kind==.class || (X.env.scope.kind==.module&&X.env.locals != X.env.globals))=false:=by rfl) :
  PS X (.Try body [.ExceptHandler (some (.Name cn tp)) (some n) (b0::suite) hpos] [] [] pos) (tTryX X.N.length C x j tb th):=by
 intro pins s σ H D I h
 obtain⟨N,nm,qn,bs,sn,sub,ab,col,dd,k0,k1,k2,k3,k5,hC⟩:=T.obj
 refine wpAny_Try_except (wpAny_mono (hb (X.pn++pins) _ [] s σ H D (I.toPn.wish _) h) (λfl s1 q=>?_) λev s1 q=>?_)
 ·have q:=q.unwish.ofPn
  cases fl with
  |next=>exact wpAny_execs_nil q
  |ret v=>exact q
  |brk=>exact q
  |cont=>exact q
 ·obtain⟨ea,i,m,σ1,H1,rfl,I1,⟨hn1,hp1⟩,F1,hE⟩:=q
  refine kO (X:=X.pinned (X.pn++pins)) I.ok.frames I1 hp1 O.stk O.fr rfl hn1 F1 λs2 I2 F2 _=>?_
  refine gF (X:=X.pinned (X.pn++pins)) I2 hp1 hn1 F2 λs3 I3 F3 _=>?_
  have J3:Inv (X.held ea) pins σ1 H1 s3:=I3.ofPn.held ea
  refine wpAny_handleBy_cons (codeAny_handlers_test ?_) (by intro z;cases z)
  refine iG J3 hg hm ?_ hdb
  obtain⟨y,fr,dx,oe,vs,mA,t,h1,h2,h3,h4,h5,h6,h7,h8,h9,h10,h11⟩:=id F3
  have hC3:=J3.kIn _ _ hC
  have F3':=F3
  obtain⟨h30,g3,d3,tk3,os3⟩:=s3
  refine wpAny_excMatches_sub_self hC3 h4 h5 dk ?_
  show codeAny _ _ _ _ _
  refine codeAny_handlers_suite_as (gF (X:=X.pinned (X.pn++pins)) I3 hp1 hn1 F3' λs4 I4 F4 _=>?_)
  have J4:Inv (X.held ea) pins σ1 H1 s4:=I4.ofPn.held ea
  obtain⟨y',fr',dx,oe,vs,mA,t,h1,h2,h3,h4,h5,h6,h7,h8,h9,h10,h11⟩:=id F4
  have r1:=I4.rec_ok hp1 hn1 y' h4 h7
  have dL:dx≠X.env.locals:=Nat.ne_of_gt (Nat.lt_of_lt_of_le hn1 h1)
  have J5:Inv (X.held ea) pins σ1 (upd H1 dx (xdH dx x i)) s4:=by
   refine J4.track h2 (Nat.le_trans I4.ok.above (Nat.le_trans (Nat.le_of_lt hn1) h1)) dL (λz c hc w=>?_) (λp hp w=>?_) ?_
   ·obtain⟨v,o,ho,hd⟩:=I4.cell z c hc
    obtain⟨o2,es,ep,ho2,hd2,_⟩:=h9
    rw[w,ho2] at ho
    cases ho
    rw[hd2] at hd
    cases hd
   ·exact absurd w (Nat.ne_of_lt (Nat.lt_of_lt_of_le (hp1 p hp) h1))
   ·refine⟨⟨mA,t,h9,h10⟩,?_,λg1 g2 ⟨mA',t',z1,z2⟩ k=>⟨mA',t',z1.at k,z2⟩⟩
    obtain⟨o2,es,ep,ho2,_⟩:=h9
    exact⟨o2,ho2⟩
  have J6:Inv (X.held ea) pins σ1 (upd (upd H1 dx (xdH dx x i)) ea (Ew ea C dx)) s4:=by
   refine J5.track (by rw[ao (Ne.symm h3)];exact fr') ?_ r1.1 r1.2.2.1 (λp hp=>r1.2.2.2 p (by simpa using hp)) ?_
   ·exact Nat.le_trans I4.ok.above (Nat.le_trans (Nat.le_of_lt hn1) y')
   ·exact⟨⟨oe,vs,h4,h5,h6,h7⟩,⟨oe,h4⟩,λg1 g2 ⟨o',v',z1,z2⟩ k=>⟨o',v',k _ z1,z2⟩⟩
  refine lL (X:=X.held ea) J6 hN hj (.inl hl) (v:=.ref ea) rfl (λs5 J7=>?_) (.inr hl)
  refine wpAny_mono (hh ea pins s5 _ _ { nx:=λ_ _=>False,rt:=D.rt } J7 (hE i rfl σ1 ea dx J4.len fr' h2 h3)) (λfl s6 q6=>?_) λ_ _ z=>z.elim
  cases fl with
  |next=>obtain⟨_,_,_,z⟩:=q6;exact z.elim
  |brk=>obtain⟨_,_,_,z⟩:=q6;exact z.elim
  |cont=>obtain⟨_,_,_,z⟩:=q6;exact z.elim
  |ret u =>
   obtain⟨v,σ6,H6,J8,rv,q8⟩:=q6
   have J9:Inv X pins σ6 H6 s6:=Inv.unheld I.ok.hd J8 I.ok.frames
   obtain⟨mL,hnL,_⟩:=id J9.loc
   refine wpAny_nameGoes hl hnL hpk λh' m' hn' hs'=>?_
   exact⟨v,_,H6,J9.wipe hn' hs',rv,q8⟩
def tFldX(C:Addr)(x:Str)(ta:TE):TE:=λσ H Q=>ta σ H λv H1=>∃e dx i,v=.ref e/\H1 e=some (Ew e C dx)/\H1 dx=some (xdH dx x i)/\Q (.int i) H1
theorem Ad{o:Expr}{ta:TE}(T:XKl X.K C f x)(ho:PE X o ta)(hbs:attributeBase o x X.env (eval o X.env)=eval o X.env):PE X (.Attribute o x pos) (tFldX C x ta):=by
 intro pins s σ H Q I h
 refine zE hbs (thn (ho pins s σ H _ I h) λu s1 hq=>?_)
 obtain⟨v,H1,I1,rv,e,dx,i,ev,he,hd,q⟩:=hq
 subst ev
 obtain rfl:u=Value.ref e:=rv
 obtain⟨oe,vs,h1,h2,h3,h4⟩:=(I1.hok e _ he).1
 obtain⟨mA,t,h5,h6⟩:=(I1.hok dx _ hd).1
 obtain⟨h10,g1,d1,tk1,os1⟩:=s1
 exact Ip I1.kIn T.cls T.no h1 h2 h3 h4 h5 h6 rfl ⟨.int i,H1,I1.tok _,⟨t,rfl⟩,q⟩
end
structure rW(k:Nat)(A:Around):Prop where
 dp:A.depth+3*k+5<recursionLimit
 un:A.units+16*k+200<cLine
theorem rW.deeper{k:Nat}{A:Around}(r:rW (k+1) A)(env:Env):rW k (A.deeper env) :=
 ⟨by have:=r.dp;show A.depth+1+3*k+5<_;omega,by have:=r.un;show A.units+3+16*k+200<_;omega⟩
structure j9(P:Program)(w:World)(K:PySem.W.Frag)(mg:Str->Option Value)(base:Heap)(k:Nat)(f:Addr)(fd:FuncData)(ps:List Str)(sp:Sp):Prop where
 len:∀vs H Q E,sp vs H Q E->vs.length=ps.length
 run:∀(A:Around) (outer:List Env) (s:Shared) (H:Hp) (args:Args) (us:List Value) (vs:List V) (Q:VK) (E:XK),rW k A->uy P w K mg base A outer s H->BindsTo s fd args (ps.zip us)->Vals vs us->sp vs H Q E ->
  codeAny (model P w) A (.call (.ref f) args) (CR CX0 outer P w H s Q E) s
theorem j9.ok{P:Program}{w:World}{K:PySem.W.Frag}{mg:Str->Option Value}{base:Heap}{k:Nat}{f:Addr}{fd:FuncData}{ps:List Str}{sp:Sp}(F:j9 P w K mg base k f fd ps sp):aF P w K mg base CX0 k f fd ps sp :=
 ⟨F.len,λA outer s H args us vs Q E hr e0 hb hv hs=>F.run A outer s H args us vs Q E ⟨hr.dp,hr.un⟩ e0 hb hv hs⟩
noncomputable abbrev cxH(P:Program)(w:World)(K:PySem.W.Frag)(mg:Str->Option Value)(base:Heap)(N:List Str)(qual:Str)(scope:Scope)(f:Addr)(cd:Value)(A:Around)(outer:List Env)(s:Shared)(H:Hp):Cx :=
 { lO CX0 P w K mg base N qual scope f cd A outer s H E0 with calm:=false,xe:=λ_ _=>False }
section
variable {P:Program}{w:World}{K:PySem.W.Frag}{mg:Str->Option Value}{base:Heap}
theorem Fun.okH{y qual:Str}{st:Stmt}{f:Addr}{fd:FuncData}{N ps:List Str}{k:Nat}{sp:Sp}(F:Fun K y qual st f fd)(S:aJ N ps (aA st))(len:∀vs H Q E,sp vs H Q E->vs.length=ps.length)(hbody:∀(cdv:Value) (A:Around) (outer:List Env) (s:Shared) (H:Hp) (vs:List V) (Q:VK) (E:XK),rW k (A.deeper (envOfC qual (aA st) s.heap.objs.size f cdv))->sp vs H Q E ->
   ∃t,PSs (cxH P w K mg base N qual (aA st) f cdv A outer s H) (cY st) t/\t { nx:=λ_ H'=>Q .non H',rt:=Q } (start N vs) H):j9 P w K mg base (k+1) f fd ps sp:=by
 obtain⟨oc,od,kV,doc,pm,an,cdv,ct,osl,rfl,lk,hcd⟩:=F.ex
 refine⟨len,λA outer s H args us vs Q E hr e0 hb r hsp=>?_⟩
 have hl:=len _ _ _ _ hsp
 have KX:K.In s.heap:=e0.mod.kin.keeps λb o e=>(e0.bs b o e).1
 have lim:s.heap.NoLimit:=e0.mod.nolimit.keeps λb o e=>(e0.bs b o e).1
 have hkind:∀z∈ps.zip us,(aA st).names.lookup z.1=some .local∨((aA st).names.lookup z.1=some .cell/\((cellsFrom (s.heap.objs.size+1) (aA st).names []).lookup z.1).isSome=true):=λ⟨n,v⟩ hy=>by
  rcases S.par n (List.of_mem_zip hy).1 with q|q
  ·exact .inl q
  ·exact .inr ⟨q,PySem.W.cellsFrom_some _ _ _ (.inl q)⟩
 refine codeAny_call_function (by have:=hr.dp;omega) (KX _ _ lk) rfl S.co S.gen rfl (PySem.W.codeRec_of KX hcd) (hb _ _ _ _ ?_)
 refine wpAny_newFunctionEnv_cells S.kind hkind λenv he s1 x=>?_
 subst he
 refine⟨lim.keeps x.toInCall.keep,codeAny_func ?_⟩
 obtain⟨t,ht,hq⟩:=hbody cdv A outer s H vs Q E (hr.deeper _) hsp
 have e1:uy P w K mg base { A with handled:=none } outer s H:=⟨e0.frames,e0.mod,e0.bs,e0.bsz,e0.funs,e0.frf,e0.hok,e0.bare⟩
 have I0:=sW (CX:=CX0) (E:=E0) (qual:=qual) (f:=f) (cd:=cdv) S (A:={ A with handled:=none }) rfl e1 hl r x
 have I:Inv (cxH P w K mg base N qual (aA st) f cdv A outer s H) [] (start N vs) H s1 :=
  ⟨⟨I0.ok.mod,I0.ok.kind,I0.ok.glob,I0.ok.blt,I0.ok.above,I0.ok.inj,I0.ok.has,I0.ok.cab,(λz=>Bool.noConfusion (show false=true from z)),Around.frames_deeper e0.frames,I0.ok.stk,I0.ok.exf,I0.ok.bs,I0.ok.bsz,I0.ok.noex,I0.ok.exfs,I0.ok.funs,I0.ok.frf⟩,I0.os,I0.bare,I0.base,I0.loc,I0.cell,I0.free,I0.freeC,I0.pin,I0.hok,I0.len⟩
 refine wpAny_mono (ht [] s1 (start N vs) H _ I hq) (λfl s' hs=>?_) λe s' hs=>hs.elim
 have fin:∀{σ':St} {H':Hp} {v:V} {u:Value},Inv (cxH P w K mg base N qual (aA st) f cdv A outer s H) [] σ' H' s'->RelV v u->Q v H'->CE outer P w H s Q u s' :=
  λ{σ' H' v u} J rv q=>⟨v,H',J.os,J.bare,J.base,J.hok,rv,q⟩
 cases fl with
 |ret u =>
  obtain⟨v,σ',H',J,rv,q⟩:=hs
  exact fin J rv q
 |next =>
  obtain⟨σ',H',J,q⟩:=hs
  exact fin (v:=V.non) (u:=Value.none) J rfl q
 |brk =>
  obtain⟨_,_,_,q⟩:=hs
  exact False.elim q
 |cont =>
  obtain⟨_,_,_,q⟩:=hs
  exact False.elim q
end
section
variable {X:Cx}{k:Nat}{f:Addr}{fd:FuncData}{ps:List Str}{sp:Sp}{x:Str}{p pos:Pos}{e:Expr}{es:List Expr}{t:TA}
theorem wz(F:j9 X.prog X.w X.K X.mg X.base k f fd ps sp)(hr:rW k X.A)(hg:Gl X x)(hm:X.mg x=some (.ref f))(hk:PySem.W.keepIn X.K (.ref f)=true)(hb:Binds X.K fd ps [])(ha:PA X (e::es) t)(hdb:(x==("__debug__":Str))=false:=by decide)(he:starEach (e::es) X.env=(false,eval e X.env)::starEach es X.env:=by rfl)(hpl:(backTo pos (starEach es X.env)).any (·.1)=false:=by rfl) :
  PE X (.Call (.Name x p) (e::es) [] pos) (tCall sp [] E0 t):=by
 intro pins s σ H Q I h
 refine wpAny_Call_Name_kw (iG I hg hm ?_ hdb)
 refine PySem.W.callWith_K (h₀:=X.base) I.ok.mod.kin hk (thn (ha pos pins s σ H _ I h) λus s1 ⟨vs,H1,I1,r,q⟩=>⟨I1.kIn,?_⟩) he hpl
 have q:sp (vs++[]) H1 Q E0:=q
 rw[List.append_nil] at q
 have hl:us.length=ps.length:=by rw[←r.length];exact F.len _ _ _ _ q
 have bd:=hb s1 us I1.kIn (by rw[List.append_nil];exact hl)
 rw[List.append_nil] at bd
 refine wpAny_call (codeAny_mono (F.run X.A X.stack s1 H1 ⟨us,[]⟩ us vs Q E0 hr I1.env0 bd r q) λr s' hq=>?_)
 cases r with
 |error e=>exact False.elim hq
 |ok fl =>
  cases fl with
  |ret u=>exact I1.after hq
  |next=>exact False.elim hq
  |brk=>exact False.elim hq
  |cont=>exact False.elim hq
end
def xu(P:Program)(w:World)(K:PySem.W.Frag)(a:Addr)(kvs:List (Key×V)):Prop :=
 (a==sysModules)=false/\∃o es ep vs,K.lookup a=some o/\o.ExactDict/\o.data=.dict es ep/\KeysOf (bO P w) es/\Pairs (bO P w) es.toList vs/\(vs.map (·.1)).Nodup/\KV kvs vs
section
variable {X:Cx}{pins:List (Addr×Obj)}{σ:St}{H:Hp}{s:Shared}{a:Addr}{kvs:List (Key×V)}{k:Key}{v:V}{u:Value}{A:Around}{E:Value->Shared->Prop}
theorem Inv.dtop(I:Inv X pins σ H s)(g:xu X.prog X.w X.K a kvs):(a==sysModules)=false/\∃vs,KV kvs vs/\s.heap.DictOf (bO X.prog X.w) a vs:=by
 obtain⟨hd,o,es,ep,vs,h1,h2,h3,h4,h5,h6,h7⟩:=g
 exact⟨hd,vs,h7,o,es,ep,I.kIn _ _ h1,h2,h3,h4,h5,h6⟩
def tDGetT(P:Program)(w:World)(K:PySem.W.Frag)(td ty:TE):TE:=λσ H Q=>td σ H λx H1=>ty σ H1 λy H2=>∃a kvs k v,x=.ref a/\xu P w K a kvs/\y=kV k/\dN kvs k=some v/\Q v H2
def HW(P:Program)(w:World)(K:PySem.W.Frag)(ty td:TE):TE:=λσ H Q=>ty σ H λy H1=>td σ H1 λx H2=>∃a kvs k,x=.ref a/\xu P w K a kvs/\y=kV k/\Q (.bl (!(dN kvs k).isSome)) H2
variable {o i:Expr}{pos:Pos}{td ty:TE}
theorem qm(ho:PE X o td)(hi:PE X i ty)(hs:NoSl i):PE X (.Subscript o i pos) (tDGetT X.prog X.w X.K td ty):=by
 intro pins s σ H Q I h
 refine Bl PySem.F.slot_dict_getitem.lookup hs (thn (ho pins s σ H _ I h) λu s1 ⟨x,H1,I1,rx,q1⟩=>thn (hi pins s1 σ H1 _ I1 q1) λiv s2 hq=>?_)
 obtain⟨y,H2,I2,ry,a,kvs,k,v,ex,g,ey,l,q2⟩:=hq
 subst ex ey
 obtain rfl:u=Value.ref a:=rx
 obtain⟨hd,vs,rel,dd⟩:=I2.dtop g
 obtain⟨w',hw,rw'⟩:=iB.some_of (v:=v) (o:=valueAt vs k) (by rw[←l];exact rel.val k)
 exact⟨dd.typeIs,wpAny_getItem_of (pJ ry) dd.mapOf hw ⟨v,H2,I2.tok _,rw',q2⟩⟩
theorem yK(hi:PE X i ty)(ho:PE X o td):PC X .NotIn i o (HW X.prog X.w X.K ty td):=by
 intro pins s σ H Q I h
 refine thn (hi pins s σ H _ I h) λiv s1 ⟨y,H1,I1,ry,q1⟩=>thn (ho pins s1 σ H1 _ I1 q1) λu s2 hq=>?_
 obtain⟨x,H2,I2,rx,a,kvs,k,ex,g,ey,q2⟩:=hq
 subst ex ey
 obtain rfl:u=Value.ref a:=rx
 obtain⟨hd,vs,rel,dd⟩:=I2.dtop g
 refine wpAny_notIn_of (pJ ry) hd dd.mapOf ?_
 rw[←(rel.val k).isSome_eq]
 exact⟨.bl _,H2,I2.tok _,rfl,q2⟩
end
noncomputable def BK(w:World)(p:Key×Tok×Value):DictEntry:={ hash:=keyH w p.1,key:=(match p.1 with|.inl i=>Value.int i p.2.1|.inr x=>.str x p.2.1),val:=p.2.2 }
theorem zP(P:Program)(w:World)(p:Key×Tok×Value):(bO P w).is p.1 (BK w p).key=true:=by
 obtain⟨k,t,v⟩:=p
 cases k with
 |inl i=>exact nG P w i t
 |inr x=>exact nH P w x t
theorem qd(P:Program)(w:World):∀l:List (Key×Tok×Value),Pairs (bO P w) (l.map (BK w)) (l.map λp=>(p.1,p.2.2))
 |[]=>.nil
 |p::r=>.cons (zP P w p) rfl (qd P w r)
theorem zN{P:Program}{w:World}{K:PySem.W.Frag}{a:Addr}{kvs:List (Key×V)}(l:List (Key×Tok×Value)){o:Obj}{ep:Nat}(hk:K.lookup a=some o)(ho:o={ cls:=.type "dict",data:=.dict (l.map (BK w)).toArray ep })(hs:(a==sysModules)=false)(nd:(l.map (·.1)).Nodup)(r:KV kvs (l.map λp=>(p.1,p.2.2))):xu P w K a kvs:=by
 subst ho
 refine⟨hs,_,_,_,l.map λp=>(p.1,p.2.2),hk,⟨rfl,rfl,rfl⟩,rfl,?_,?_,?_,r⟩
 ·intro e he
  have he':e∈l.map (BK w):=by simpa only[List.mem_toArray] using he
  obtain⟨p,_,rfl⟩:=List.mem_map.mp he'
  exact⟨p.1,zP P w p,rfl⟩
 ·simpa using qd P w l
 ·rw[List.map_map]
  exact nd
theorem dG.keep{C:Addr}{x:Str}{n:Nat}{b:Bool}{H:Hp}{h h':Heap}{e:Addr}{i:Int}(F:dG C x n b H h e i)(k:∀b o,leN n b->h.get? b=some o->h'.get? b=some o):dG C x n b H h' e i:=by
 obtain⟨y,f,dx,oe,vs,mA,t,h1,h2,h3,h4,h5,h6,h7,h8,h9,h10,h11⟩:=F
 refine⟨y,f,dx,oe,vs,mA,t,h1,h2,h3,k _ _ y h4,h5,h6,h7,h8,h9.at λo q=>k _ _ h1 q,h10,?_⟩
 rcases h11 with z|⟨tb,ob,ts,z1,z2,z3,z4,z5,z6,z7⟩
 ·exact .inl z
 ·exact .inr ⟨tb,ob,ts,z1,z2,z3,z4,k _ _ z2 z5,z6,z7⟩
theorem Fb{X:Cx}{σ:St}{H:Hp}{s:Shared}{C:Addr}{x:Str}{n:Nat}{e:Addr}{i:Int}{M:Model}{A:Around}{E:Value->Shared->Prop}{α:Type}{what:String}{env:Env}(I:Inv X [] σ H s)(hpn:∀p∈X.pn,ltN p.1 n)(hn:ltN X.env.locals n)(F:dG C x n true H s.heap e i){Q:α->Shared->Prop}(h:∀s',Inv X [] σ H s'->dG C x n true H s'.heap e i->E (.ref e) s'):wpAny M A (PySem.passOn what (.ref e) env:Sem α) Q E s:=by
 obtain⟨y,f,dx,oe,vs,mA,t,h1,h2,h3,h4,h5,h6,h7,h8,h9,h10,h11⟩:=id F
 unfold PySem.passOn
 rcases h11 with ⟨z,_⟩|⟨tb,ob,ts,z1,z2,z3,z4,z5,z6,z7⟩
 ·cases z
 ·refine wpAny_bind (wpAny_field h4 h7 z1 ?_)
  rw[if_neg (show ¬(Value.ref tb==Value.none)=true from by simp)]
  exact wpAny_bind (gF I hpn hn F λs' I' F' _=>wpAny_throw (h s' I' F'))
section
variable {X:Cx}
theorem Fp{C:Addr}{x:Str}{E:XK}(O:Own X)(hX:∀e s',XEb C x X E e s'->X.xe e s'){pins:List (Addr×Obj)}{s:Shared}{σ:St}{H:Hp}{Q:VK}{elt tg iter:Expr}{ifs:List Expr}{scope:Scope}{own:List (Str×Nat)}{pos pos':Pos}{wi:TI}{g:TG}{tt:TT}{te:TE}{use:Option (Value->Sem Unit)}{Qf:Value->Shared->Prop}(hc:X.calm=true)(hN:X.N.Nodup)(I:Inv X pins σ H s)(hi:PI X tg iter wi)(ok:gM X.N X.env.scope scope own)(hg:∀(s:Shared) (H:Hp) (C:Addr) (cl:List (Str×Addr)) (fp:List Addr),PG (X.blk s H scope (compEnvC scope cl C X.env) fp) tg g)(ht:∀(s:Shared) (H:Hp) (C:Addr) (cl:List (Str×Addr)) (fp:List Addr),PTs (X.blk s H scope (compEnvC scope cl C X.env) fp) ifs tt)(he:∀(s:Shared) (H:Hp) (C':Addr) (cl:List (Str×Addr)) (fp:List Addr),PE ((X.blk s H scope (compEnvC scope cl C' X.env) fp).wish (XEb C x (X.blk s H scope (compEnvC scope cl C' X.env) fp) E)) elt te)(hs:∀x,foldedSetIterable iter X.env x=pure x)(h:tLc wi g tt te (own.map (·.2)) σ H Q)(hRR:∀D C s' m H',Inv X pins σ H' s'->Q (.ref D) H'->s'.heap.Ns C m->jQ X pins H' C->compPost (model X.prog X.w) X.A X.xe use Qf (.ref D) C (.ok .next) s') :
  wpAny (model X.prog X.w) X.A (comprehension (.ListComp elt [⟨tg,iter,ifs,0⟩] scope pos) scope X.env pos' (newList []) false (eval iter X.env) use) Qf X.xe s:=by
 have hfree:∀y∈scope.names,y.2=.free->∃c,X.env.cells.lookup y.1=some c:=λy hy e=>by
  rcases ok.free y hy e with k|k
  ·exact I.ok.has _ (.inl k)
  ·exact I.ok.has _ (.inr k)
 refine wpAny_comprehension_free (use:=use) rfl hs (o9 hfree) ok.kind (λy hy e=>by rw[ok.uniq y hy,e])
  (thn (hi pins s σ H _ I h) λxv s1 hx=>thn hx λitv s2 h2=>?_)
 obtain⟨it,fp,tn,J,H2,e,I2,T,st2,f2,q⟩:=h2
 subst e
 refine wpAny_newObj_type (nJ ?_) (by show 0<=sizeLine;decide)
 generalize hD:s2.heap.objs.size=D
 have hDn:H2 D=none:=I2.hok.fresh (Nat.le_of_eq hD)
 obtain⟨W,⟨m0,w0⟩,turn⟩:=q D hDn
 generalize hs3:({ s2 with heap:=s2.heap.push { cls:=.type "list",data:=.seq ([]:List Value).toArray } }:Shared)=s3
 have I3:Inv X pins σ (upd H2 D (.lst [])) s3:=by
  rw[←hs3]
  refine I2.laid (t':=s2.toks) (λb o e=>Heap.get?_push_of_some _ e) (Nat.le_of_eq hD) ⟨Nat.zero_le _,[],0,.nil,?_⟩
  rw[←hD]
  exact Heap.get?_push_size _ rfl
 have h3:s3.heap=s2.heap.push { cls:=.type "list",data:=.seq ([]:List Value).toArray }:=by rw[←hs3]
 have sz:∀b∈fp,b<s2.heap.objs.size:=λb hb=>by
  obtain⟨o,e,_⟩:=T.obj _ _ st2 b hb
  exact Heap.lt_size e
 have f3:∀b∈fp,jQ X pins (upd H2 D (.lst [])) b/\b<s3.heap.objs.size:=λb hb=>by
  have hlt:=sz b hb
  refine⟨⟨?_,(f2 b hb).2⟩,by rw[h3,Heap.size_push];exact Nat.lt_succ_of_lt hlt⟩
  rw[ao (by rw[←hD];exact Nat.ne_of_lt hlt)]
  exact(f2 b hb).1
 have st3:tn 0 s3.heap:=T.keep _ _ _ st2 λb _ o e=>by rw[h3];exact Heap.get?_push_of_some _ e
 have I4:=mV I3 ok hN f3
 have pg:=hg s3 (upd H2 D (.lst [])) s3.heap.objs.size (cellsFrom (s3.heap.objs.size+1) scope.names (bW X.env.cells scope.names [])) fp
 have pt:=ht s3 (upd H2 D (.lst [])) s3.heap.objs.size (cellsFrom (s3.heap.objs.size+1) scope.names (bW X.env.cells scope.names [])) fp
 have pe:=he s3 (upd H2 D (.lst [])) s3.heap.objs.size (cellsFrom (s3.heap.objs.size+1) scope.names (bW X.env.cells scope.names [])) fp
 show codeAny _ _ (.compStart (.ListComp elt [⟨tg,iter,ifs,0⟩] scope pos) 0 (.ref it) (.ref D) (compEnvC scope (cellsFrom (s3.heap.objs.size+1) scope.names (bW X.env.cells scope.names [])) s3.heap.objs.size X.env)) (compPost (model X.prog X.w) X.A X.xe use Qf (.ref D) s3.heap.objs.size) { s3 with heap:=pushCells (s3.heap.push { cls:=.type "dict",data:=.dict #[] }) scope.names }
 have nfp:∀b∈fp,(upd H2 D (.lst [])) b=none:=λb hb=>(f3 b hb).1.1
 generalize hce:compEnvC scope (cellsFrom (s3.heap.objs.size+1) scope.names (bW X.env.cells scope.names [])) s3.heap.objs.size X.env=ce at I4 pg pt pe ⊢
 have cL:ce.locals=s3.heap.objs.size:=by subst hce;rfl
 generalize hH3:upd H2 D (.lst [])=H3 at I3 I4 pg pt pe w0 nfp f3
 generalize hs4:({ s3 with heap:=pushCells (s3.heap.push { cls:=.type "dict",data:=.dict #[] }) scope.names }:Shared)=s4 at I4 ⊢
 have st4:tn 0 s4.heap:=T.keep _ _ _ st3 λb _ o e=>by rw[←hs4];exact pushCells_keeps _ _ _ _ (Heap.get?_push_of_some _ e)
 have stat:∀{σ':St} {H':Hp} {s':Shared},Inv (X.blk s3 H3 scope ce fp) [] σ' H' s'->(∀b∈fp,H' b=none)->∀b∈fp,jQ (X.blk s3 H3 scope ce fp) [] H' b:=λ{σ' H' s'} I' hn b hb =>
  ⟨hn b hb,(I'.ok.exf b hb).1,I'.ok.exfs b hb,.inl hb,λx c e=>(I'.ok.exf b hb).2 x c e,λp hp=>absurd (show p∈([]:List (Addr×Obj))++[] from hp) (by simp)⟩
 have loop:codeAny (model X.prog X.w) X.A (.compLoop (.ListComp elt [⟨tg,iter,ifs,0⟩] scope pos) 0 (.ref it) (.ref D) ce) (compPost (model X.prog X.w) X.A X.xe use Qf (.ref D) s3.heap.objs.size) s4:=by
  refine km (λn s'=>∃i H',Inv (X.blk s3 H3 scope ce fp) [] (wipe σ (own.map (·.2))) H' s'/\tn i s'.heap/\(∀b∈fp,H' b=none)/\W i n H') ?_ m0 ⟨0,H3,I4,st4,nfp,w0⟩
  rintro n s5 ⟨i,H5,I5,st5,n5,w5⟩
  rcases turn i n H5 w5 with ⟨stop,qq⟩|⟨go,Nx,hNx,step⟩
  ·have td:=T.done (X.blk s3 H3 scope ce fp) rfl rfl rfl hc i [] s5 _ H5 (λ_ _=>False) I5 (stat I5 n5) st5 stop
   refine rm td λr s6 hq=>?_
   obtain⟨hr,I6⟩:=hq
   subst hr
   have I7:Inv X pins σ H5 s6:=I3.call' (ch:=fp) I6.os I6.base I6.hok I6.bare λb hb=>⟨(f3 b hb).1.2.2.2.1,(f3 b hb).1.2.1,(f3 b hb).1.2.2.2.2.1,(f3 b hb).1.2.2.2.2.2⟩
   have nC:H5 s3.heap.objs.size=none:=by
    have z:H5 ce.locals=none:=I6.free
    rw[cL] at z
    exact z
   obtain⟨m,hn,_⟩:=I6.loc
   have hn:s6.heap.Ns ce.locals m:=hn
   rw[cL] at hn
   exact hRR D s3.heap.objs.size s6 m H5 I7 qq hn (I3.fpOk (Nat.le_refl _) nC)
  ·have ti:=T.item (X.blk s3 H3 scope ce fp) rfl rfl rfl hc i [] s5 _ H5 (λ_ _=>False) I5 (stat I5 n5) st5 go
   refine rm ti λr s6 hq=>?_
   obtain⟨u,hr,h6⟩:=hq
   subst hr
   refine rm h6 λ_ s7 hq=>?_
   obtain⟨x,H7,I7,r7,y7,st7,n7⟩:=hq
   have I7':=I7.pinned (stat I7 n7) (T.obj _ _ st7)
   refine rm (pg _ s7 _ H7 x u _ I7' r7 (step x H7 y7)) λ_ s8 hq=>?_
   obtain⟨σ8,H8,I8,hw8,q8⟩:=hq
   refine rm (pt _ s8 σ8 H8 _ I8 q8) λb s9 hq=>?_
   obtain⟨H9,I9,q9⟩:=hq
   have fin:∀{s':Shared} {H':Hp},Inv (X.blk s3 H3 scope ce fp) ([]++mj fp s7.heap) σ8 H' s'->Nx H'->∃m,m<n/\∃i H',Inv (X.blk s3 H3 scope ce fp) [] (wipe σ (own.map (·.2))) H' s'/\tn i s'.heap/\(∀b∈fp,H' b=none)/\W i m H':=λ{s' H'} I' nx=>by
    obtain⟨m',hm,w'⟩:=hNx H' nx
    have pin':∀b∈fp,∀o,s7.heap.get? b=some o->s'.heap.get? b=some o/\H' b=none:=λb hb o e =>
     let z:=I'.pin (b,o) (List.mem_append_right _ (List.mem_append_right _ (iI hb e)))
     ⟨z.1,z.2.1⟩
    have hl:(wipe σ (own.map (·.2))).length=σ8.length:=by rw[←hw8,gZ]
    refine⟨m',hm,i+1,H',(I'.unpinned (pins:=[])).weak hl (λj v e=>?_),T.keep _ _ _ st7 λb hb o e=>(pin' b hb o e).1,λb hb=>?_,w'⟩
    ·rw[←hw8] at e
     exact(jM e).1
    ·obtain⟨o,e,_⟩:=T.obj _ _ st7 b hb
     exact(pin' b hb o e).2
   cases b with
   |false =>
    simp only[Bool.false_eq_true,if_false] at q9 ⊢
    exact fin I9 q9
   |true =>
    simp only[if_true] at q9 ⊢
    refine wpAny_mono (pe _ s9 σ8 H9 _ (I9.wish _) q9) (λz s10 ⟨yv,H10,I10,r10,acc,hD10,hz10,nx⟩=>Ea (X:=X.blk s3 H3 scope ce fp) I10.unwish hD10 hz10 r10 λs11 I11=>fin I11 nx) λev s10 hx=>?_
    obtain⟨ea,iv,nn,σe,He,rfl,J,⟨hn,_⟩,fl,hE⟩:=hx
    have hn:ltN ce.locals nn:=hn
    rw[cL] at hn
    have Ix:Inv X pins σ He s10:=I3.call' (ch:=fp) J.os J.base J.hok J.bare λb hb=>⟨(f3 b hb).1.2.2.2.1,(f3 b hb).1.2.1,(f3 b hb).1.2.2.2.2.1,(f3 b hb).1.2.2.2.2.2⟩
    have ltL:ltN X.env.locals s3.heap.objs.size:=I3.lt
    have hp:∀p∈X.pn,ltN p.1 nn:=λp hp=>Nat.lt_trans (Heap.lt_size (I3.pin p (List.mem_append_left _ hp)).1) hn
    have nC:He s3.heap.objs.size=none:=by
     have z:He ce.locals=none:=J.free
     rw[cL] at z
     exact z
    have hce':ce.frame=X.env.frame:=by
     subst hce
     rfl
    have nfC:s3.heap.objs.size∉frs X.stack:=λhm=>by
     rcases List.mem_cons.mp (I3.stkSub _ hm) with z|z
     ·exact Nat.ne_of_gt ltL z
     ·obtain⟨_,o,ho,_⟩:=I3.ok.funs.mem z
      exact absurd (Nat.lt_of_lt_of_le (Heap.lt_size ho) (Nat.le_trans I3.ok.above (Nat.le_of_lt ltL))) (Nat.lt_irrefl _)
    obtain⟨m,hnC,_⟩:=J.loc
    have hnC:s10.heap.Ns ce.locals m:=hnC
    rw[cL] at hnC
    show wpAny _ _ (noteFrame (.ref ea) ce) _ _ _
    refine kO (X:=X) I3.ok.frames Ix.nopins hp O.stk O.fr hce' (Nat.lt_trans ltL hn) fl λs11 I11 F11 k11=>?_
    refine⟨m,?_,λh' sb cenv _=>?_⟩
    ·obtain⟨o,es,ep,ho,r⟩:=hnC
     exact⟨o,es,ep,k11 _ _ nfC hn ho,r⟩
    ·obtain⟨g0,g1,g2,g3,g4,g5⟩:=I3.nopins.fpOk (Nat.le_refl _) nC
     have I12:Inv X [] σ He { s11 with heap:=h' }:=I11.turned (t':=s11.toks) (λb o hb e=>(sb.2 b hb).trans e) g0 g1 g3 g4 g5
     have F12:=F11.keep (h':=h') λb o hb e=>(sb.2 b (Nat.ne_of_gt (Nat.lt_of_lt_of_le hn hb))).trans e
     exact Fb (X:=X) I12 hp (Nat.lt_trans ltL hn) F12 λs13 I13 F13=>hX _ _ ⟨ea,iv,nn,σ,He,rfl,I13,⟨Nat.lt_trans ltL hn,hp⟩,F13.any,hE⟩
 exact codeAny_compStart_list loop (T.self X.A 0 _ _ _ st4 loop)
theorem Df{C:Addr}{x:Str}{E:XK}(O:Own X)(hX:∀e s',XEb C x X E e s'->X.xe e s'){i:Nat}{y:Str}{py:Pos}{elt tg iter:Expr}{ifs:List Expr}{scope:Scope}{own:List (Str×Nat)}{pos spos:Pos}{wi:TI}{g:TG}{tt:TT}{te:TE}(hc:X.calm=true)(hN:X.N.Nodup)(hy:X.N[i]?=some y)(hyl:X.env.scope.names.lookup y=some .local)(hsw:swapsWith (.ListComp elt [⟨tg,iter,ifs,0⟩] scope pos) (some (.Name y py)) spos.line X.env=pure true)(hi:PI X tg iter wi)(ok:gM X.N X.env.scope scope own)(hg:∀(s:Shared) (H:Hp) (C:Addr) (cl:List (Str×Addr)) (fp:List Addr),PG (X.blk s H scope (compEnvC scope cl C X.env) fp) tg g)(ht:∀(s:Shared) (H:Hp) (C:Addr) (cl:List (Str×Addr)) (fp:List Addr),PTs (X.blk s H scope (compEnvC scope cl C X.env) fp) ifs tt)(he:∀(s:Shared) (H:Hp) (C':Addr) (cl:List (Str×Addr)) (fp:List Addr),PE ((X.blk s H scope (compEnvC scope cl C' X.env) fp).wish (XEb C x (X.blk s H scope (compEnvC scope cl C' X.env) fp) E)) elt te)(hs:∀x,foldedSetIterable iter X.env x=pure x:=by intro _;rfl) :
  PS X (.Assign [.Name y py] (.ListComp elt [⟨tg,iter,ifs,0⟩] scope pos) spos) (JW (tLc wi g tt te (own.map (·.2))) (pF i)):=by
 intro pins s σ H D I h
 rw[exec_Assign_Name_used _ _ _ _ hsw]
 refine wpAny_bind (wpAny_standAt (wpAny_bind ?_))
 show wpAny _ X.A (do let _ ←comprehension (.ListComp elt [⟨tg,iter,ifs,0⟩] scope pos) scope X.env (firstIterPos [⟨tg,iter,ifs,0⟩] pos) (newList []) false (eval iter X.env) (some (assign (.Name y py) X.env))) _ _ s
 have h:tLc wi g tt te (own.map (·.2)) σ H (λx H1=>pF i x σ H1 D.nx):=h
 refine wpAny_bind (thn (Fp O hX (Qf:=λ_ s'=>SP X pins D .next s') hc hN I hi ok hg ht he hs h λL C s' m H' I' q hn f=>?_) λ_ s' hq=>wpAny_pure (wpAny_pure hq))
 show wpAny _ _ (assign (.Name y py) X.env (.ref L)) _ _ _
 refine wpAny_assign_Name (mQ (v:=V.ref L) I' hN hy (.inl hyl) rfl (λs2 I2 hq=>?_) (.inr hyl))
 obtain⟨a,sb,ha⟩:=hq
 obtain⟨f0,f1,f2,f3,f4,f5⟩:=f
 have haC:C≠a:=by
  rcases ha with z|z
  ·rw[z];exact f1
  ·exact λe=>f4 y a z e.symm
 refine⟨m,hn.sameBut sb haC,λh3 sb3=>?_⟩
 exact⟨_,H',I2.turned (t':=s2.toks) (λb o hb e=>(sb3.2 b hb).trans e) f0 f1 f3 f4 f5,q⟩
end
theorem Iv{x:Str}{g:TG}{tb:TS}{D:Ends}{σ:St}{H:Hp}(Pv:Nat->St->Hp->Prop)(h0:Pv 0 σ H)(hs:∀i c σ H,x.cps[i]?=some c->Pv i σ H->g (.str ⟨#[c]⟩) σ H λσ2 H2=>tb { D with nx:=Pv (i+1),ct:=Pv (i+1),bk:=D.nx } σ2 H2)(hd:∀σ H,Pv x.cps.size σ H->D.nx σ H) :
  ∃W:Nat->Nat->St->Hp->Prop,(∃m,W 0 m σ H)/\∀i m σ H,W i m σ H ->
   ((Its x).stop i H/\D.nx σ H)∨((Its x).go i H/\∃N:St->Hp->Prop,(∀σ' H',N σ' H'->∃m',m'<m/\W (i+1) m' σ' H')/\∀v H',(Its x).yld i H v H'->g v σ H' λσ2 H2=>tb { D with nx:=N,ct:=N,bk:=D.nx } σ2 H2):=by
 refine⟨λi m σ H=>m=x.cps.size-i/\i<=x.cps.size/\Pv i σ H,⟨x.cps.size,by simp,Nat.zero_le _,h0⟩,?_⟩
 rintro i m σ H ⟨rfl,hi,p⟩
 by_cases hlt:i<x.cps.size
 ·refine .inr ⟨hlt,Pv (i+1),λσ' H' p'=>⟨x.cps.size-(i+1),by omega,rfl,hlt,p'⟩,λv H' y=>?_⟩
  obtain⟨e,c,hc,rfl⟩:=y
  subst e
  exact hs i c σ _ hc p
 ·have e:i=x.cps.size:=by omega
  subst e
  exact .inl ⟨Nat.le_refl _,hd σ H p⟩
section
variable {P:Program}{w:World}{A:Around}{E:Value->Shared->Prop}{s:Shared}
theorem FQ{j c:Addr}{i:Nat}{vs:Array Value}{y:Value}{Q:Value->Shared->Prop}(hj:s.heap.IsTupleIter j c i)(hc:s.heap.IsTuple c vs)(hy:vs[i]?=some y)(k:∀h',h'.IsTupleIter j c (i+1)->Heap.SameBut j s.heap h'->Q y { s with heap:=h' }):wpAny (model P w) A (Builtin.SmallTypes.nextOf (.ref j)) Q E s:=by
 obtain⟨oj,gj,cj,dj⟩:=id hj
 obtain⟨oc,gc,_,m,dc⟩:=hc
 unfold Builtin.SmallTypes.nextOf
 refine wpAny_bind (wpAny_callSpecial?_slot (name:=Str.ofString "__next__") hj.typeIs F.slot_tuple_iterator_next (wpAny_call_entry F.slot_tuple_iterator_next hj.typeIs F.entry_tuple_iterator_next ?_ (F.args_tuple_iterator_next_1 _)))
 show wpAny _ _ (field (.ref j) 0 >>= _) _ _ s
 refine wpAny_bind (wpAny_field gj dj (x:=.ref c) rfl ?_)
 show wpAny _ _ (if (Value.ref c==Value.none)=true then _ else _) _ _ s
 rw[if_neg (show ¬((Value.ref c==Value.none)=true) from Bool.false_ne_true)]
 show wpAny _ _ (field (.ref j) 1 >>= _) _ _ s
 refine wpAny_bind (wpAny_field gj dj (x:=.int i 0) rfl ?_)
 show wpAny _ _ (seqItems? (.ref c) >>= _) _ _ s
 refine wpAny_bind (wpAny_seqItems gc dc ?_)
 simp only[Int.toNat_natCast,hy]
 refine wpAny_bind (wpAny_setField gj dj (by simp) (wpAny_pure ⟨y,rfl,wpAny_pure (k _ ?_ (Heap.SameBut.update ..))⟩))
 refine⟨_,Heap.get?_update_self _ gj (Obj.isFreed_of_fields (Obj.data_mapFields dj _)),(Obj.cls_mapFields ..).trans cj,?_⟩
 rw[Obj.data_mapFields dj]
 simp[rawInt]
theorem pY{j c:Addr}{i:Nat}{vs:Array Value}{Q:Value->Shared->Prop}(hd:A.handled=none)(hj:s.heap.IsTupleIter j c i)(hc:s.heap.IsTuple c vs)(hy:vs[i]?=none)(k:∀h' e,Heap.ExtBut j s.heap h'->(∃o,h'.get? e=some o/\o.cls=.type "StopIteration")->E (.ref e) { s with heap:=h' }):wpAny (model P w) A (Builtin.SmallTypes.nextOf (.ref j)) Q E s:=by
 obtain⟨oj,gj,cj,dj⟩:=id hj
 obtain⟨oc,gc,_,m,dc⟩:=hc
 unfold Builtin.SmallTypes.nextOf
 refine wpAny_bind (wpAny_callSpecial?_slot (name:=Str.ofString "__next__") hj.typeIs F.slot_tuple_iterator_next (wpAny_call_entry F.slot_tuple_iterator_next hj.typeIs F.entry_tuple_iterator_next ?_ (F.args_tuple_iterator_next_1 _)))
 show wpAny _ _ (field (.ref j) 0 >>= _) _ _ s
 refine wpAny_bind (wpAny_field gj dj (x:=.ref c) rfl ?_)
 show wpAny _ _ (if (Value.ref c==Value.none)=true then _ else _) _ _ s
 rw[if_neg (show ¬((Value.ref c==Value.none)=true) from Bool.false_ne_true)]
 show wpAny _ _ (field (.ref j) 1 >>= _) _ _ s
 refine wpAny_bind (wpAny_field gj dj (x:=.int i 0) rfl ?_)
 show wpAny _ _ (seqItems? (.ref c) >>= _) _ _ s
 refine wpAny_bind (wpAny_seqItems gc dc ?_)
 simp only[Int.toNat_natCast,hy]
 refine wpAny_bind (wpAny_rule (wpAny_bind (wpAny_setField gj dj (by simp) ?_)))
 show wpAny _ _ (newExc (.type "StopIteration") [] >>= λe=>_) _ _ _
 apply wpAny_bind
 simp only[newExc,newTuple]
 apply wpAny_bind
 refine wpAny_newObj_type ?_ (by size_fits)
 apply wpAny_bind (m:=firstArgMember _ _)
 refine wpAny_of_eq (a:=Value.none) (by first|rfl|(simp only[firstArgMember];rfl)) ?_
 refine wpAny_newObj_type ?_ (by size_fits)
 simp only[raiseNew]
 apply wpAny_bind
 refine wpAny_handled ?_
 first|rw[show A.in1.handled=none from hd]|rw[hd]
 refine wpAny_throw (k _ _ (((Heap.SameBut.update ..).extBut.push _).push _) ⟨_,Heap.get?_push_size _ rfl,rfl⟩)
end
theorem sH{P:Program}{w:World}{A:Around}(hd:A.handled=none)(j c:Addr)(hn:c≠j)(vs:Array Value):Draws P w A j [j,c] vs.size (λi v=>vs[i]?=some v) (λi h=>h.IsTupleIter j c i/\h.IsTuple c vs) where
 live:=λ_ _ st=>let ⟨o,ho,_⟩:=st.1;⟨o,ho⟩
 frame:=λ_ _ _ st kk=>by
  obtain⟨⟨o,ho,r⟩,⟨u,hu,q⟩⟩:=st
  exact⟨⟨o,kk j (by simp) o ho,r⟩,⟨u,kk c (by simp) u hu,q⟩⟩
 item:=λi s Q E hi st kQ=>FQ st.1 st.2 (y:=vs[i]) (by simp[hi]) λh' hj hs=>kQ _ h' s.toks (by simp[hi]) ⟨hj,st.2.extBut hs.extBut hn⟩ hs
 done:=λs Q E st kE=>pY hd st.1 st.2 (by simp) kE
open PySem.AutoSeq1 (wpAny_loadPart') in
theorem v8(l:Addr)(vs:Array Value)(n:Nat)(dct:Option Addr)(sl:Array (Option Value)) :
  Meets (Builtin.«enumerate.__new__» ⟨[.type "enumerate",.ref l],[]⟩) (λ_ R s=>s.heap.get? l=some { cls:=.type "tuple",dict:=dct,data:=.seq vs n,slots:=sl } /\
   R (.ok (.ret (.ref (s.heap.push { cls:=.type "tuple_iterator",data:=.fields #[.ref l,.int 0 0] }).objs.size)))
    { s with heap:=(s.heap.push { cls:=.type "tuple_iterator",data:=.fields #[.ref l,.int 0 0] }).push { cls:=.type "enumerate",data:=.fields #[.none,.bool false,.ref s.heap.objs.size,rawInt 0,.none,.none] } }) :=
 .of_wp λP w A R s h=>by
  obtain⟨hp,g,d,tk,os⟩:=s
  obtain⟨hl,h⟩:=h
  have hsub:=sub_enumerate
  have hT:Heap.IsTuple (Shared.heap ⟨hp,g,d,tk,os⟩) l vs:=⟨_,hl,rfl,n,rfl⟩
  wp_walk using wpAny_loadPart' hl
  refine wpAny_stack_any λst=>wpAny_pure ?_
  split
  ·rename_i c _ _ _ _ _
   cases (c==Value.type "enumerate")
   ·wp_walk using wpAny_loadPart' hl,wpAny_pyIter_tuple hT
    exact⟨_,rfl,h⟩
   ·wp_walk using wpAny_loadPart' hl,wpAny_pyIter_tuple hT
    exact⟨_,rfl,h⟩
  ·wp_walk using wpAny_loadPart' hl,wpAny_pyIter_tuple hT
   exact⟨_,rfl,h⟩
section
variable {P:Program}{w:World}{A:Around}{E:Value->Shared->Prop}{s:Shared}
theorem xM{l:Addr}{vs:Array Value}{Q:Value->Shared->Prop}(hT:s.heap.IsTuple l vs)(k:∀h',IsEnum h' (s.heap.objs.size+1) s.heap.objs.size 0 .none->h'.IsTupleIter s.heap.objs.size l 0->(∀b o,s.heap.get? b=some o->h'.get? b=some o)->Q (.ref (s.heap.objs.size+1)) { s with heap:=h' }) :
  wpAny (model P w) A (call (.type "enumerate") [.ref l]) Q E s:=by
 obtain⟨⟨c,dct,dt,sl⟩,hl,e1,n,e2⟩:=hT
 obtain rfl:c=.type "tuple":=e1
 obtain rfl:dt=.seq vs n:=e2
 refine callType_new F.called_enumerate (by decide) (F.typeCall_enumerate_1 _) (F.newCall_enumerate_1 _) (λobj=>F.args_object_init_2 obj _) F.entry_enumerate_new (v8 l vs n dct sl) ⟨hl,?_⟩
 have sz:(s.heap.push { cls:=.type "tuple_iterator",data:=.fields #[.ref l,.int 0 0] }).objs.size=s.heap.objs.size+1:=Heap.size_push ..
 show _/\_
 rw[sz]
 have en:IsEnum ((s.heap.push { cls:=.type "tuple_iterator",data:=.fields #[.ref l,.int 0 0] }).push { cls:=.type "enumerate",data:=.fields #[.none,.bool false,.ref s.heap.objs.size,rawInt 0,.none,.none] }) (s.heap.objs.size+1) s.heap.objs.size 0 .none:=by
  have z:=Heap.get?_push_size (s.heap.push { cls:=.type "tuple_iterator",data:=.fields #[.ref l,.int 0 0] }) (o:={ cls:=.type "enumerate",data:=.fields #[.none,.bool false,.ref s.heap.objs.size,rawInt 0,.none,.none] }) rfl
  rw[sz] at z
  exact z
 exact⟨⟨_,en,rfl⟩,k _ en ⟨_,Heap.get?_push_of_some _ (Heap.get?_push_size _ rfl),rfl,rfl⟩ λb o y=>Heap.get?_push_of_some _ (Heap.get?_push_of_some _ y)⟩
end
noncomputable def DP(K:PySem.W.Frag)(a:Addr):It :=
 ⟨λi H=>∃(xs:List V) (x:V),SqT K H a xs/\xs[i]?=some x,λi H v H'=>∃T x,v=.ref T/\H T=none/\H'=upd H T (.tup [.int (i:Nat),x])/\∀xs,SqT K H a xs->xs[i]?=some x,λi H=>∃xs:List V,SqT K H a xs/\xs.length=i⟩
theorem zc{P:Program}{w:World}{K:PySem.W.Frag}{elts:List Expr}{kk:Nat}{tpos:Pos}(a e j:Addr) :
  Turn P w K (.Tuple elts kk tpos) (DP K a) [e,j] e (λi h=>(∃old,IsEnum h e j ((i:Nat):Int) old)/\h.IsTupleIter j a i/\e≠j) where
 mem:=by simp
 obj:=λi h st b hb=>by
  obtain⟨⟨old,he⟩,⟨o,ho,hc,hd⟩,_⟩:=st
  rcases (by simpa using hb:b=e∨b=j) with z|z
  ·rw[z]
   exact⟨_,he,λv q=>nomatch q⟩
  ·rw[z]
   exact⟨o,ho,λv q=>by rw[hd] at q;cases q⟩
 keep:=λi h h' st k=>by
  obtain⟨⟨old,he⟩,⟨o,ho,r⟩,hne⟩:=st
  exact⟨⟨old,k e (by simp) _ he⟩,⟨o,k j (by simp) o ho,r⟩,hne⟩
 item:=by
  intro X hP hw hK hc i pins s σ H E I hf st hg
  subst hP hw hK
  obtain⟨⟨old,he⟩,hit,hne⟩:=st
  obtain⟨xs,x,hq,hx⟩:=hg
  obtain⟨its,rv,p,hz⟩:=I.tuple hq
  have hT:s.heap.IsTuple a its.toArray:=p
  have hlen:=rv.length
  have hi:i<its.toArray.size:=by
   obtain⟨z,_⟩:=List.getElem?_eq_some_iff.mp hx
   rw[List.size_toArray]
   omega
  have hel:e<s.heap.objs.size:=Heap.lt_size he
  have hil:j<s.heap.objs.size:=by
   obtain⟨_,q,_⟩:=hit
   exact Heap.lt_size q
  have haj:a≠j:=by
   rintro rfl
   obtain⟨o1,g1,c1,_⟩:=hit
   obtain⟨o2,g2,c2,_⟩:=hT
   rw[g1] at g2
   cases g2
   rw[c1] at c2
   injection c2 with c2
   exact absurd c2 (by decide)
  have hea:e≠a:=by
   rintro rfl
   obtain⟨o2,g2,c2,_⟩:=hT
   have he':s.heap.get? e=some _:=he
   rw[he'] at g2
   cases g2
   injection c2 with c2
   exact absurd c2 (by decide)
  refine wpAny_pyNext_enum_itemD (sH (A:=X.A.in1) (I.ok.hd hc) j a haj its.toArray) he ⟨hit,hT⟩ hi hne (by simp[hne,hea]) λu h' tk hu ho st' hT' hsz hk=>?_
  have ru:RelV x u:=by
   obtain⟨u',hu',ru⟩:=rv.get hx
   have:some u'=some u:=by
    rw[←hu',←hu]
    simp
   cases this
   exact ru
  refine⟨_,rfl,wpAny_letOwnedTupleGo_enum (s:={ s with heap:=h',toks:=tk+1 }) ho λh'' he' sb=>?_⟩
  have hT2:h''.get? s.heap.objs.size=some { cls:=.type "tuple",data:=.seq #[.int i tk,u] }:=(sb.2 _ (Nat.ne_of_gt hel)).trans hT'
  have new:cW X.prog X.w (upd H s.heap.objs.size (.tup [.int (i:Nat),x])) h'' s.heap.objs.size (.tup [.int (i:Nat),x]) :=
   ⟨by show 2<=sizeLine;decide,[.int i tk,u],.cons ⟨_,rfl⟩ (.cons ru .nil),⟨_,hT2,rfl,_,rfl⟩⟩
  have I1:Inv X pins σ (upd H s.heap.objs.size (.tup [.int (i:Nat),x])) { s with heap:=h'',toks:=tk+1 } :=
   I.turnedNew (ch:=[e,j]) (λb ob hb q=>(sb.2 b (λz=>hb (by simp[z]))).trans (hk b ob (λz=>hb (by simp[z])) (λz=>hb (by simp[z])) q)) hf (Nat.le_refl _) new
  refine⟨.ref s.heap.objs.size,_,I1,rfl,⟨_,x,rfl,I.hok.fresh (Nat.le_refl _),rfl,λys hy=>by rw[I.tuple_inj hy hq];exact hx⟩,⟨⟨u,?_⟩,?_,hne⟩,λb hb=>?_⟩
  ·have e1:((i+1:Nat):Int)=(i:Int)+1:=by omega
   rw[e1]
   exact he'
  ·obtain⟨⟨o,ho,r⟩,_⟩:=st'
   exact⟨o,(sb.2 j (Ne.symm hne)).trans ho,r⟩
  ·have hb':b<s.heap.objs.size:=by
    rcases (by simpa using hb:b=e∨b=j) with z|z
    ·rw[z]
     exact hel
    ·rw[z]
     exact hil
   rw[ao (Nat.ne_of_lt hb')]
   exact(hf b hb).1
 done:=by
  intro X hP hw hK hc i pins s σ H E I hf st hg
  subst hP hw hK
  obtain⟨⟨old,he⟩,hit,hne⟩:=st
  obtain⟨xs,hq,hx⟩:=hg
  obtain⟨its,rv,p,hz⟩:=I.tuple hq
  have hT:s.heap.IsTuple a its.toArray:=p
  have haj:a≠j:=by
   rintro rfl
   obtain⟨o1,g1,c1,_⟩:=hit
   obtain⟨o2,g2,c2,_⟩:=hT
   rw[g1] at g2
   cases g2
   rw[c1] at c2
   injection c2 with c2
   exact absurd c2 (by decide)
  obtain⟨f0,f1,f2,f3,f4,f5⟩:=hf j (by simp)
  have hl:=rv.length
  have hi:i=its.toArray.size:=by
   rw[List.size_toArray]
   omega
  subst hi
  exact wpAny_pyNext_enum_endD (sH (A:=X.A.in1) (I.ok.hd hc) j a haj its.toArray) he ⟨hit,hT⟩ λh' eb=>⟨rfl,I.turned (t':=s.toks) (λb o hb q=>eb b o hb q) f0 f1 f3 f4 f5⟩
 self:=λA i s Q E st h=>let ⟨⟨_,he⟩,_⟩:=st;wpAny_pyIter_enum he h
def iEnumT(K:PySem.W.Frag)(ta:TA):TI:=λσ H R=>ta σ H λvs H1=>∃a xs,vs=[.ref a]/\SqT K H1 a xs/\R (DP K a) H1
theorem wF{X:Cx}{e:Expr}{ta:TA}{p pos tpos:Pos}{elts:List Expr}{kk:Nat}(hg:Gl X "enumerate")(hm:X.mg "enumerate"=none)(ha:PA X [e] ta)(hs:starEach [e] X.env=[(false,eval e X.env)]:=by rfl) :
  PI X (.Tuple elts kk tpos) (.Call (.Name "enumerate" p) [e] [] pos) (iEnumT X.K ta):=by
 intro pins s σ H R I h
 refine Call_ (jX I hg hm boot_enumerate (PyProof.Rows.callWith_type1 (thn (ha pos pins s σ H _ I h) λus s1 hq=>?_) hs rfl))
 obtain⟨vs,H1,I1,r1,q1⟩:=hq
 obtain⟨a,xs,ex,hq,q⟩:=q1
 subst ex
 cases r1 with
 |cons r rr =>
  cases rr
  cases r
  obtain⟨its,rv,p',hz⟩:=I1.tuple hq
  have hT:s1.heap.IsTuple a its.toArray:=p'
  refine xM hT λh' he hit hk=>wpAny_pyIter_enum he ?_
  have I2:Inv X pins σ H1 { s1 with heap:=h' }:=I1.kept (t':=s1.toks) hk
  refine⟨s1.heap.objs.size+1,[s1.heap.objs.size+1,s1.heap.objs.size],_,_,H1,rfl,I2,zc a (s1.heap.objs.size+1) s1.heap.objs.size,⟨⟨.none,he⟩,hit,Nat.succ_ne_self _⟩,λb hb=>?_,q⟩
  have hle:s1.heap.objs.size<=b:=by
   rcases (by simpa using hb:b=s1.heap.objs.size+1∨b=s1.heap.objs.size) with z|z
   ·rw[z]
    exact Nat.le_add_right _ _
   ·rw[z]
    exact Nat.le_refl _
  exact I1.fpOk hle (I1.hok.fresh hle)
theorem sO{K:PySem.W.Frag}{a:Addr}{xs:List V}{g:TG}{tb:TS}{D:Ends}{σ:St}{H:Hp}(Pv:Nat->St->Hp->Prop)(h0:Pv 0 σ H)(hl:∀i σ H,Pv i σ H->SqT K H a xs)(hs:∀i x σ H T,xs[i]?=some x->Pv i σ H->H T=none->g (.ref T) σ (upd H T (.tup [.int (i:Nat),x])) λσ2 H2=>tb { D with nx:=Pv (i+1),ct:=Pv (i+1),bk:=D.nx } σ2 H2)(hd:∀σ H,Pv xs.length σ H->D.nx σ H) :
  ∃W:Nat->Nat->St->Hp->Prop,(∃m,W 0 m σ H)/\∀i m σ H,W i m σ H ->
   ((DP K a).stop i H/\D.nx σ H)∨((DP K a).go i H/\∃N:St->Hp->Prop,(∀σ' H',N σ' H'->∃m',m'<m/\W (i+1) m' σ' H')/\∀v H',(DP K a).yld i H v H'->g v σ H' λσ2 H2=>tb { D with nx:=N,ct:=N,bk:=D.nx } σ2 H2):=by
 refine⟨λi m σ H=>m=xs.length-i/\i<=xs.length/\Pv i σ H,⟨xs.length,by simp,Nat.zero_le _,h0⟩,?_⟩
 rintro i m σ H ⟨rfl,hi,p⟩
 by_cases hlt:i<xs.length
 ·refine .inr ⟨⟨xs,xs[i],hl _ _ _ p,by simp[hlt]⟩,Pv (i+1),λσ' H' p'=>⟨xs.length-(i+1),by omega,rfl,hlt,p'⟩,λv H' y=>?_⟩
  obtain⟨T,x,e,n,e2,hx⟩:=y
  subst e e2
  exact hs i x σ H T (hx xs (hl _ _ _ p)) p n
 ·have e:i=xs.length:=by omega
  subst e
  exact .inl ⟨⟨xs,hl _ _ _ p,rfl⟩,hd σ H p⟩
section
variable {P:Program}{w:World}{A:Around}{E:Value->Shared->Prop}{s:Shared}
theorem zt_item{z U O j i l t:Addr}{n m:Nat}{xs ys:Array Value}{x y a b:Value}{Q:Value->Shared->Prop}(D:ZipApart z U O j i l t)(gz:IsZip s.heap z U O .none)(gU:IsPair s.heap U (.ref j) (.ref i))(gO:IsPair s.heap O a b)(gj:s.heap.IsListIter j l n)(gi:s.heap.IsTupleIter i t m)(gl:s.heap.IsList l xs)(gt:s.heap.IsTuple t ys)(ex:xs[n]?=some x)(ey:ys[m]?=some y)(k:∀h',IsZip h' z U O (rawInt s.heap.objs.size)->IsPair h' O x y->h'.IsListIter j l (n+1)->h'.IsTupleIter i t (m+1)->IsPair h' s.heap.objs.size x y ->
   (∀c o,c≠z->c≠O->c≠j->c≠i->s.heap.get? c=some o->h'.get? c=some o)->Q (.ref s.heap.objs.size) { s with heap:=h' }) :
  wpAny (model P w) A (Builtin.«zip.__next__» ⟨[.ref z],[]⟩) (λfin s'=>∃v,fin=.done (.ret v)/\Q v s') E s:=by
 show wpAny _ _ (field (.ref z) 2 >>= λv=>_) _ _ _
 refine wpAny_bind (wpAny_field gz rfl (x:=.bool false) rfl ?_)
 show wpAny _ _ (field (.ref z) 3 >>= λv=>_) _ _ _
 refine wpAny_bind (wpAny_field gz rfl (x:=.ref U) rfl ?_)
 refine wpAny_bind (wpAny_seqItems gU rfl ?_)
 show wpAny _ _ (Builtin.SmallTypes.ownedTupleIsFree (.ref z) >>= λv=>_) _ _ _
 apply wpAny_bind
 unfold Builtin.SmallTypes.ownedTupleIsFree
 refine wpAny_bind (wpAny_field gz rfl (x:=.none) rfl (wpAny_pure ?_))
 simp only[if_true]
 apply wpAny_bind
 refine wpAny_rule ?_
 refine wpAny_bind (wpAny_field gz rfl (x:=.ref O) rfl ?_)
 refine wpAny_bind (wpAny_setField_rec gz (by simp) λha za sa=>?_)
 replace za:IsZip ha z U O .ellipsis:=za
 apply wpAny_bind
 simp only[List.zipIdx_cons,List.zipIdx_nil,List.forIn_cons,List.forIn_nil]
 apply wpAny_bind
 refine wpAny_bind (wpAny_onRaise ?_)
 show wpAny _ _ (Builtin.SmallTypes.nextOf (.ref j) >>= λv=>_) _ _ _
 refine wpAny_bind (wpAny_nextOf_list_item (gj.extBut sa.extBut D.i1z) (gl.extBut sa.extBut D.l1z) ex λhb jb sb=>wpAny_pure ?_)
 have Ob:IsPair hb O a b:=sb.extBut _ _ D.TOi1 (sa.extBut _ _ D.TOz gO)
 refine wpAny_bind (wpAny_seqItems Ob rfl ?_)
 refine wpAny_bind (wpAny_updateSeq_pair Ob λhc Oc sc=>?_)
 replace Oc:IsPair hc O x b:=Oc
 refine wpAny_bind (wpAny_letGo (wpAny_pure ?_))
 apply wpAny_bind
 refine wpAny_bind (wpAny_onRaise ?_)
 show wpAny _ _ (Builtin.SmallTypes.nextOf (.ref i) >>= λv=>_) _ _ _
 refine wpAny_bind (FQ (((gi.extBut sa.extBut D.i2z).extBut sb.extBut D.i12.symm).extBut sc.extBut D.TOi2.symm) (((gt.extBut sa.extBut D.l2z).extBut sb.extBut D.l2i1).extBut sc.extBut D.l2TO) ey λhd id sd=>wpAny_pure ?_)
 have Od:IsPair hd O x b:=sd.extBut _ _ D.TOi2 Oc
 refine wpAny_bind (wpAny_seqItems Od rfl ?_)
 refine wpAny_bind (wpAny_updateSeq_pair Od λhe Oe se=>?_)
 replace Oe:IsPair he O x y:=Oe
 refine wpAny_bind (wpAny_letGo (wpAny_pure (wpAny_pure ?_)))
 refine wpAny_bind (wpAny_seqItems Oe rfl ?_)
 refine wpAny_bind (wpAny_newTuple ?_)
 have sz:he.objs.size=s.heap.objs.size:=by rw[se.1,sd.1,sc.1,sb.1,sa.1]
 have ze:IsZip he z U O .ellipsis:=se.extBut _ _ D.TOz.symm (sd.extBut _ _ D.i2z.symm (sc.extBut _ _ D.TOz.symm (sb.extBut _ _ D.i1z.symm za)))
 have ke:∀c o,c≠z->c≠O->c≠j->c≠i->s.heap.get? c=some o->he.get? c=some o:=λc o c1 c2 c3 c4 e =>
  se.extBut _ _ c2 (sd.extBut _ _ c4 (sc.extBut _ _ c2 (sb.extBut _ _ c3 (sa.extBut _ _ c1 e))))
 have je:he.IsListIter j l (n+1):=((jb.extBut sc.extBut D.TOi1.symm).extBut sd.extBut D.i12).extBut se.extBut D.TOi1.symm
 have ie:he.IsTupleIter i t (m+1):=id.extBut se.extBut D.TOi2.symm
 have zl:z<he.objs.size:=Heap.lt_size ze
 show wpAny _ _ (Builtin.SmallTypes.ownedTupleHandOut (.ref z) (.ref he.objs.size) >>= λv=>_) _ _ _
 apply wpAny_bind
 unfold Builtin.SmallTypes.ownedTupleHandOut
 have zf:IsZip (he.push { cls:=.type "tuple",data:=.seq #[x,y] }) z U O .ellipsis:=Heap.get?_push_of_some _ ze
 refine wpAny_bind (wpAny_setField_rec zf (by simp) λhg zg sg=>?_)
 replace zg:IsZip hg z U O (rawInt he.objs.size):=zg
 refine wpAny_setField_rec zg (by simp) λhh zh sh=>?_
 replace zh:IsZip hh z U O (rawInt he.objs.size):=zh
 have up:∀c o,c≠z->he.get? c=some o->hh.get? c=some o:=λc o c1 e=>sh.extBut _ _ c1 (sg.extBut _ _ c1 (Heap.get?_push_of_some _ e))
 have Th:IsPair hh he.objs.size x y:=sh.extBut _ _ (Nat.ne_of_gt zl) (sg.extBut _ _ (Nat.ne_of_gt zl) (Heap.get?_push_size _ rfl))
 rw[sz] at zh Th
 refine wpAny_pure ⟨_,rfl,?_⟩
 show Q (.ref he.objs.size) _
 rw[sz]
 obtain⟨oj,gj',rj⟩:=je
 obtain⟨oi,gi',ri⟩:=ie
 exact k hh zh (up _ _ D.TOz Oe) ⟨oj,up _ _ D.i1z gj',rj⟩ ⟨oi,up _ _ D.i2z gi',ri⟩ Th λc o c1 c2 c3 c4 e=>up c o c1 (ke c o c1 c2 c3 c4 e)
theorem zt_end{z U O j i l t:Addr}{n m:Nat}{xs ys:Array Value}{a b:Value}{Q:Fin->Shared->Prop}(hn:A.handled=none)(D:ZipApart z U O j i l t)(gz:IsZip s.heap z U O .none)(gU:IsPair s.heap U (.ref j) (.ref i))(gO:IsPair s.heap O a b)(gj:s.heap.IsListIter j l n)(gi:s.heap.IsTupleIter i t m)(gl:s.heap.IsList l xs)(gt:s.heap.IsTuple t ys)(en:xs[n]?=none∨ys[m]?=none)(k:∀h' e,(∀c o,c≠z->c≠O->c≠j->c≠i->s.heap.get? c=some o->h'.get? c=some o)->(∃o,h'.get? e=some o/\o.cls=.type "StopIteration")->E (.ref e) { s with heap:=h' }) :
  wpAny (model P w) A (Builtin.«zip.__next__» ⟨[.ref z],[]⟩) Q E s:=by
 show wpAny _ _ (field (.ref z) 2 >>= λv=>_) _ _ _
 refine wpAny_bind (wpAny_field gz rfl (x:=.bool false) rfl ?_)
 show wpAny _ _ (field (.ref z) 3 >>= λv=>_) _ _ _
 refine wpAny_bind (wpAny_field gz rfl (x:=.ref U) rfl ?_)
 refine wpAny_bind (wpAny_seqItems gU rfl ?_)
 show wpAny _ _ (Builtin.SmallTypes.ownedTupleIsFree (.ref z) >>= λv=>_) _ _ _
 apply wpAny_bind
 unfold Builtin.SmallTypes.ownedTupleIsFree
 refine wpAny_bind (wpAny_field gz rfl (x:=.none) rfl (wpAny_pure ?_))
 simp only[if_true]
 apply wpAny_bind
 refine wpAny_rule ?_
 refine wpAny_bind (wpAny_field gz rfl (x:=.ref O) rfl ?_)
 refine wpAny_bind (wpAny_setField_rec gz (by simp) λha za sa=>?_)
 replace za:IsZip ha z U O .ellipsis:=za
 apply wpAny_bind
 simp only[List.zipIdx_cons,List.zipIdx_nil,List.forIn_cons,List.forIn_nil]
 apply wpAny_bind
 refine wpAny_bind (wpAny_onRaise ?_)
 show wpAny _ _ (Builtin.SmallTypes.nextOf (.ref j) >>= λv=>_) _ _ _
 cases ex:xs[n]? with
 |none =>
  refine wpAny_bind (wpAny_nextOf_list_end hn (gj.extBut sa.extBut D.i1z) (gl.extBut sa.extBut D.l1z) ex λhb e sb he=>?_)
  obtain⟨oe,ge,ce⟩:=he
  have zb:IsZip hb z U O .ellipsis:=sb _ _ D.i1z.symm za
  have ne:e≠z:=by
   rintro rfl
   rw[zb] at ge
   cases ge
   simp at ce
  exact wpAny_setField_rec zb (by simp) λhc _ sc=>k hc e (λc o c1 _ c3 _ x=>sc.extBut _ _ c1 (sb _ _ c3 (sa.extBut _ _ c1 x))) ⟨oe,sc.extBut _ _ ne ge,ce⟩
 |some x =>
  have ey:ys[m]?=none:=by
   rcases en with h|h
   ·rw[ex] at h
    cases h
   ·exact h
  refine wpAny_bind (wpAny_nextOf_list_item (gj.extBut sa.extBut D.i1z) (gl.extBut sa.extBut D.l1z) ex λhb jb sb=>wpAny_pure ?_)
  have Ob:IsPair hb O a b:=sb.extBut _ _ D.TOi1 (sa.extBut _ _ D.TOz gO)
  refine wpAny_bind (wpAny_seqItems Ob rfl ?_)
  refine wpAny_bind (wpAny_updateSeq_pair Ob λhc Oc sc=>?_)
  refine wpAny_bind (wpAny_letGo (wpAny_pure ?_))
  apply wpAny_bind
  refine wpAny_bind (wpAny_onRaise ?_)
  show wpAny _ _ (Builtin.SmallTypes.nextOf (.ref i) >>= λv=>_) _ _ _
  refine wpAny_bind (pY hn (((gi.extBut sa.extBut D.i2z).extBut sb.extBut D.i12.symm).extBut sc.extBut D.TOi2.symm) (((gt.extBut sa.extBut D.l2z).extBut sb.extBut D.l2i1).extBut sc.extBut D.l2TO) ey λhd e sd he=>?_)
  obtain⟨oe,ge,ce⟩:=he
  have zd:IsZip hd z U O .ellipsis:=sd _ _ D.i2z.symm (sc.extBut _ _ D.TOz.symm (sb.extBut _ _ D.i1z.symm za))
  have ne:e≠z:=by
   rintro rfl
   rw[zd] at ge
   cases ge
   simp at ce
  exact wpAny_setField_rec zd (by simp) λhf _ sf=>k hf e (λc o c1 c2 c3 c4 x=>sf.extBut _ _ c1 (sd _ _ c4 (sc.extBut _ _ c2 (sb.extBut _ _ c3 (sa.extBut _ _ c1 x))))) ⟨oe,sf.extBut _ _ ne ge,ce⟩
theorem nx_zt{z U O j i l t:Addr}{n m:Nat}{xs ys:Array Value}{x y a b:Value}{Q:Option Value->Shared->Prop}(D:ZipApart z U O j i l t)(gz:IsZip s.heap z U O .none)(gU:IsPair s.heap U (.ref j) (.ref i))(gO:IsPair s.heap O a b)(gj:s.heap.IsListIter j l n)(gi:s.heap.IsTupleIter i t m)(gl:s.heap.IsList l xs)(gt:s.heap.IsTuple t ys)(ex:xs[n]?=some x)(ey:ys[m]?=some y)(k:∀h',IsZip h' z U O (rawInt s.heap.objs.size)->IsPair h' O x y->h'.IsListIter j l (n+1)->h'.IsTupleIter i t (m+1)->IsPair h' s.heap.objs.size x y ->
   (∀c o,c≠z->c≠O->c≠j->c≠i->s.heap.get? c=some o->h'.get? c=some o)->Q (some (.ref s.heap.objs.size)) { s with heap:=h' }):wpAny (model P w) A (pyNext (.ref z)) Q E s:=by
 have gT:s.TypeIs (.ref z) "zip":=⟨_,gz,rfl⟩
 unfold pyNext
 exact wpAny_bind (wpAny_attempt (wpAny_callSpecial?_slot (name:=Str.ofString "__next__") gT F.slot_zip_next (wpAny_call_entry F.slot_zip_next gT F.entry_zip_next (zt_item D gz gU gO gj gi gl gt ex ey λh' a1 a2 a3 a4 a5 a6=>wpAny_pure (k h' a1 a2 a3 a4 a5 a6)) (F.args_zip_next_1 _))))
theorem Ck{z U O j i l t:Addr}{n m:Nat}{xs ys:Array Value}{a b:Value}{Q:Option Value->Shared->Prop}(hn:A.handled=none)(D:ZipApart z U O j i l t)(gz:IsZip s.heap z U O .none)(gU:IsPair s.heap U (.ref j) (.ref i))(gO:IsPair s.heap O a b)(gj:s.heap.IsListIter j l n)(gi:s.heap.IsTupleIter i t m)(gl:s.heap.IsList l xs)(gt:s.heap.IsTuple t ys)(en:xs[n]?=none∨ys[m]?=none)(k:∀h',(∀c o,c≠z->c≠O->c≠j->c≠i->s.heap.get? c=some o->h'.get? c=some o)->Q none { s with heap:=h' }):wpAny (model P w) A (pyNext (.ref z)) Q E s:=by
 have gT:s.TypeIs (.ref z) "zip":=⟨_,gz,rfl⟩
 unfold pyNext
 refine wpAny_bind (wpAny_attempt (wpAny_callSpecial?_slot (name:=Str.ofString "__next__") gT F.slot_zip_next (wpAny_call_entry F.slot_zip_next gT F.entry_zip_next (zt_end hn D gz gU gO gj gi gl gt en λh' e hk he=>?_) (F.args_zip_next_1 _))))
 obtain⟨o,ho,hc⟩:=he
 refine wpAny_bind (wpAny_isInstance (T:="StopIteration") (b:=true) ⟨o,ho,hc⟩ isSubtype_stop (wpAny_pure (k _ hk)))
end
noncomputable abbrev ztA(h:Heap)(l:Addr):Heap:=h.push { cls:=.type "list_iterator",data:=.fields #[.ref l,.int 0 0] }
noncomputable abbrev ztB(h:Heap)(l t:Addr):Heap:=(ztA h l).push { cls:=.type "tuple_iterator",data:=.fields #[.ref t,.int 0 0] }
noncomputable abbrev ztC(h:Heap)(l t:Addr):Heap:=(ztB h l t).push { cls:=.type "tuple",data:=.seq #[.ref h.objs.size,.ref (ztA h l).objs.size] }
noncomputable abbrev ztD(h:Heap)(l t:Addr):Heap:=(ztC h l t).push { cls:=.type "tuple",data:=.seq #[.none,.none] }
noncomputable abbrev ztE(h:Heap)(l t:Addr):Heap:=(ztD h l t).push { cls:=.type "zip",data:=.fields #[.none,.bool false,.bool false,.ref (ztB h l t).objs.size,.ref (ztC h l t).objs.size] }
theorem Fy(l t:Addr)(xs ys:Array Value):Meets (Builtin.«zip.__new__» ⟨[.type "zip",.ref l,.ref t],[]⟩) (λ_ R s=>s.heap.IsList l xs/\s.heap.IsTuple t ys/\R (.ok (.ret (.ref (ztD s.heap l t).objs.size))) { s with heap:=ztE s.heap l t }) :=
 .of_wp λP w A R s h=>by
  obtain⟨hp,g,d,tk,os⟩:=s
  obtain⟨gl,gt,h⟩:=h
  have hsub:=sub_zip
  have q1:Heap.IsList (Shared.heap ⟨hp,g,d,tk,os⟩) l xs:=gl
  have q2:Heap.IsTuple (Shared.heap ⟨hp.push { cls:=.type "list_iterator",data:=.fields #[.ref l,.int 0 0] },g,d,tk,os⟩) t ys:=Heap.IsTuple.push gt _
  wp_walk using wpAny_pyIter_list q1,wpAny_pyIter_tuple q2
  exact⟨_,rfl,h⟩
theorem Il{P:Program}{w:World}{A:Around}{E:Value->Shared->Prop}{s:Shared}{l t:Addr}{xs ys:Array Value}{Q:Value->Shared->Prop}(gl:s.heap.IsList l xs)(gt:s.heap.IsTuple t ys)(k:∀h',IsZip h' (s.heap.objs.size+4) (s.heap.objs.size+2) (s.heap.objs.size+3) .none->IsPair h' (s.heap.objs.size+2) (.ref s.heap.objs.size) (.ref (s.heap.objs.size+1))->IsPair h' (s.heap.objs.size+3) .none .none ->
   h'.IsListIter s.heap.objs.size l 0->h'.IsTupleIter (s.heap.objs.size+1) t 0->(∀c o,s.heap.get? c=some o->h'.get? c=some o)->Q (.ref (s.heap.objs.size+4)) { s with heap:=h' }) :
  wpAny (model P w) A (call (.type "zip") [.ref l,.ref t]) Q E s:=by
 refine callType_new F.called_zip (by decide) (F.typeCall_zip_2 _ _) (F.newCall_zip_2 _ _) (λobj=>F.args_object_init_3 obj _ _) F.entry_zip_new (Fy l t xs ys) ⟨gl,gt,?_⟩
 have sA:(ztA s.heap l).objs.size=s.heap.objs.size+1:=Heap.size_push ..
 have sB:(ztB s.heap l t).objs.size=s.heap.objs.size+2:=by rw[Heap.size_push,sA]
 have sC:(ztC s.heap l t).objs.size=s.heap.objs.size+3:=by rw[Heap.size_push,sB]
 have sD:(ztD s.heap l t).objs.size=s.heap.objs.size+4:=by rw[Heap.size_push,sC]
 have gE:(ztE s.heap l t).get? (ztD s.heap l t).objs.size=some _:=Heap.get?_push_size _ rfl
 have gD:(ztE s.heap l t).get? (ztC s.heap l t).objs.size=some _:=Heap.get?_push_of_some _ (Heap.get?_push_size _ rfl)
 have gC:(ztE s.heap l t).get? (ztB s.heap l t).objs.size=some _:=Heap.get?_push_of_some _ (Heap.get?_push_of_some _ (Heap.get?_push_size _ rfl))
 have gB:(ztE s.heap l t).get? (ztA s.heap l).objs.size=some _:=Heap.get?_push_of_some _ (Heap.get?_push_of_some _ (Heap.get?_push_of_some _ (Heap.get?_push_size _ rfl)))
 have gA:(ztE s.heap l t).get? s.heap.objs.size=some _:=Heap.get?_push_of_some _ (Heap.get?_push_of_some _ (Heap.get?_push_of_some _ (Heap.get?_push_of_some _ (Heap.get?_push_size _ rfl))))
 show _/\_
 rw[sB,sC,sD] at gE
 rw[sA,sB] at gC
 rw[sC] at gD
 rw[sA] at gB
 rw[sD]
 exact⟨⟨_,gE,rfl⟩,k _ gE gC gD ⟨_,gA,rfl,rfl⟩ ⟨_,gB,rfl,rfl⟩ λc o x=>Heap.get?_push_of_some _ (Heap.get?_push_of_some _ (Heap.get?_push_of_some _ (Heap.get?_push_of_some _ (Heap.get?_push_of_some _ x))))⟩
noncomputable def DR(K:PySem.W.Frag)(a b:Addr):It :=
 ⟨λi H=>∃(xs ys:List V) (x y:V),SqL K H a xs/\SqT K H b ys/\xs[i]?=some x/\ys[i]?=some y,
  λi H v H'=>∃T x y,v=.ref T/\H T=none/\H'=upd H T (.tup [x,y])/\(∀xs,SqL K H a xs->xs[i]?=some x)/\∀ys,SqT K H b ys->ys[i]?=some y,
  λi H=>∃xs ys:List V,SqL K H a xs/\SqT K H b ys/\(xs.length<=i∨ys.length<=i)⟩
theorem Dv{P:Program}{w:World}{K:PySem.W.Frag}{elts:List Expr}{kk:Nat}{tpos:Pos}{a b z U O j q:Addr}(D:ZipApart z U O j q a b) :
  Turn P w K (.Tuple elts kk tpos) (DR K a b) [z,U,O,j,q] z (λi h=>IsZip h z U O .none/\IsPair h U (.ref j) (.ref q)/\(∃x y,IsPair h O x y)/\h.IsListIter j a i/\h.IsTupleIter q b i) where
 mem:=by simp
 obj:=λi h st c hc=>by
  obtain⟨hz,hU,⟨x,y,hO⟩,⟨o1,e1,_,d1⟩,⟨o2,e2,_,d2⟩⟩:=st
  rcases (by simpa using hc:c=z∨c=U∨c=O∨c=j∨c=q) with y|y|y|y|y
  ·rw[y]
   exact⟨_,hz,λv q=>nomatch q⟩
  ·rw[y]
   exact⟨_,hU,λv q=>nomatch q⟩
  ·rw[y]
   exact⟨_,hO,λv q=>nomatch q⟩
  ·rw[y]
   exact⟨o1,e1,λv q=>by rw[d1] at q;cases q⟩
  ·rw[y]
   exact⟨o2,e2,λv q=>by rw[d2] at q;cases q⟩
 keep:=λi h h' st k=>by
  obtain⟨hz,hU,⟨x,y,hO⟩,⟨o1,e1,r1⟩,⟨o2,e2,r2⟩⟩:=st
  exact⟨k z (by simp) _ hz,k U (by simp) _ hU,⟨x,y,k O (by simp) _ hO⟩,⟨o1,k j (by simp) _ e1,r1⟩,⟨o2,k q (by simp) _ e2,r2⟩⟩
 item:=by
  intro X hP hw hK hc i pins s σ H E I hf st hg
  subst hP hw hK
  obtain⟨hz,hU,⟨x0,y0,hO⟩,h1,h2⟩:=st
  obtain⟨xs,ys,x,y,hqx,hqy,hx,hy⟩:=hg
  obtain⟨its,rv,p,_⟩:=I.list hqx
  obtain⟨its2,rv2,p2,_⟩:=I.tuple hqy
  have p2':s.heap.IsTuple b its2.toArray:=p2
  obtain⟨u,hu,ru⟩:=rv.get hx
  obtain⟨u2,hu2,ru2⟩:=rv2.get hy
  have hzl:z<s.heap.objs.size:=Heap.lt_size hz
  refine nx_zt D hz hU hO h1 h2 p.isList p2' (x:=u) (y:=u2) (by simpa using hu) (by simpa using hu2) λh' z' O' h1' h2' hT hk=>?_
  refine⟨_,rfl,wpAny_letOwnedTupleGo_zip (s:={ s with heap:=h' }) z' λh'' z'' sb=>?_⟩
  have hT2:h''.get? s.heap.objs.size=some { cls:=.type "tuple",data:=.seq #[u,u2] }:=(sb.2 _ (Nat.ne_of_gt hzl)).trans hT
  have new:cW X.prog X.w (upd H s.heap.objs.size (.tup [x,y])) h'' s.heap.objs.size (.tup [x,y]) :=
   ⟨by show 2<=sizeLine;decide,[u,u2],.cons ru (.cons ru2 .nil),⟨_,hT2,rfl,_,rfl⟩⟩
  have I1:Inv X pins σ (upd H s.heap.objs.size (.tup [x,y])) { s with heap:=h'' } :=
   I.turnedNew (t':=s.toks) (ch:=[z,U,O,j,q]) (λc o hb g=>(sb.2 c (λg'=>hb (by simp[g']))).trans (hk c o (λg'=>hb (by simp[g'])) (λg'=>hb (by simp[g'])) (λg'=>hb (by simp[g'])) (λg'=>hb (by simp[g'])) g)) hf (Nat.le_refl _) new
  obtain⟨o1,e1,r1⟩:=h1'
  obtain⟨o2,e2,r2⟩:=h2'
  refine⟨.ref s.heap.objs.size,_,I1,rfl,⟨_,x,y,rfl,I.hok.fresh (Nat.le_refl _),rfl,λl hl=>by rw[I.list_inj hl hqx];exact hx,λl hl=>by rw[I.tuple_inj hl hqy];exact hy⟩,⟨z'',?_,⟨u,u2,?_⟩,⟨o1,(sb.2 _ D.i1z).trans e1,r1⟩,⟨o2,(sb.2 _ D.i2z).trans e2,r2⟩⟩,λc hcm=>?_⟩
  ·exact(sb.2 _ D.TIz).trans (hk _ _ D.TIz D.TITO D.TIi1 D.TIi2 hU)
  ·exact(sb.2 _ D.TOz).trans O'
  ·have hlt:c<s.heap.objs.size:=by
    rcases (by simpa using hcm:c=z∨c=U∨c=O∨c=j∨c=q) with g|g|g|g|g
    ·rw[g]
     exact hzl
    ·rw[g]
     exact Heap.lt_size hU
    ·rw[g]
     exact Heap.lt_size hO
    ·rw[g]
     obtain⟨_,e,_⟩:=h1
     exact Heap.lt_size e
    ·rw[g]
     obtain⟨_,e,_⟩:=h2
     exact Heap.lt_size e
   rw[ao (Nat.ne_of_lt hlt)]
   exact(hf c hcm).1
 done:=by
  intro X hP hw hK hc i pins s σ H E I hf st hg
  subst hP hw hK
  obtain⟨hz,hU,⟨x0,y0,hO⟩,h1,h2⟩:=st
  obtain⟨xs,ys,hqx,hqy,hend⟩:=hg
  obtain⟨its,rv,p,_⟩:=I.list hqx
  obtain⟨its2,rv2,p2,_⟩:=I.tuple hqy
  have p2':s.heap.IsTuple b its2.toArray:=p2
  have l1:=rv.length
  have l2:=rv2.length
  have he:its.toArray[i]?=none∨its2.toArray[i]?=none:=by
   rcases hend with g|g
   ·exact .inl (by simp;omega)
   ·exact .inr (by simp;omega)
  exact Ck (I.ok.hd hc) D hz hU hO h1 h2 p.isList p2' he λh' hk=>⟨rfl,I.turnedL (t':=s.toks) (ch:=[z,U,O,j,q]) (λc o hb g =>
   hk c o (λg'=>hb (by simp[g'])) (λg'=>hb (by simp[g'])) (λg'=>hb (by simp[g'])) (λg'=>hb (by simp[g'])) g) hf⟩
 self:=λA i s Q E st h=>wpAny_pyIter_zip st.1 h
def iZipT(K:PySem.W.Frag)(ta:TA):TI:=λσ H R=>ta σ H λvs H1=>∃a b xs ys,vs=[.ref a,.ref b]/\SqL K H1 a xs/\SqT K H1 b ys/\R (DR K a b) H1
theorem JB{X:Cx}{e e2:Expr}{ta:TA}{p pos tpos:Pos}{elts:List Expr}{kk:Nat}(hg:Gl X "zip")(hm:X.mg "zip"=none)(ha:PA X [e,e2] ta)(hs:starEach [e,e2] X.env=(false,eval e X.env)::starEach [e2] X.env:=by rfl)(hpl:(backTo pos (starEach [e2] X.env)).any (·.1)=false:=by rfl) :
  PI X (.Tuple elts kk tpos) (.Call (.Name "zip" p) [e,e2] [] pos) (iZipT X.K ta):=by
 intro pins s σ H R I h
 refine Call_ (jX I hg hm Bv (PyProof.Rows.callWith_type1 (thn (ha pos pins s σ H _ I h) λus s1 hq=>?_) hs hpl))
 obtain⟨vs,H1,I1,r1,q1⟩:=hq
 obtain⟨a,b,xs,ys,ex,hqx,hqy,q⟩:=q1
 subst ex
 cases r1 with
 |cons r rr =>
  cases rr with
  |cons r' rr =>
   cases rr
   cases r
   cases r'
   obtain⟨its,rv,p1,_⟩:=I1.list hqx
   obtain⟨its2,rv2,p2,_⟩:=I1.tuple hqy
   have p2':s1.heap.IsTuple b its2.toArray:=p2
   have la:a<s1.heap.objs.size:=p1.lt
   have lb:b<s1.heap.objs.size:=by
    obtain⟨_,e,_⟩:=p2'
    exact Heap.lt_size e
   refine Il p1.isList p2' λh' hz hU hO h1 h2 hk=>wpAny_pyIter_zip hz ?_
   have I2:Inv X pins σ H1 { s1 with heap:=h' }:=I1.kept (t':=s1.toks) hk
   refine⟨s1.heap.objs.size+4,[s1.heap.objs.size+4,s1.heap.objs.size+2,s1.heap.objs.size+3,s1.heap.objs.size,s1.heap.objs.size+1],_,_,H1,rfl,I2,Dv (PySem.W.ktu_apart s1.heap.objs.size a b la lb),⟨hz,hU,⟨_,_,hO⟩,h1,h2⟩,λc hcm=>?_,q⟩
   have hle:s1.heap.objs.size<=c:=by
    rcases (by simpa using hcm:c=s1.heap.objs.size+4∨c=s1.heap.objs.size+2∨c=s1.heap.objs.size+3∨c=s1.heap.objs.size∨c=s1.heap.objs.size+1) with z|z|z|z|z<;>rw[z]<;>first|exact Nat.le_add_right _ _|exact Nat.le_refl _
   exact I1.fpOk hle (I1.hok.fresh hle)
theorem Fe{K:PySem.W.Frag}{a b:Addr}{xs ys:List V}{g:TG}{tb:TS}{D:Ends}{σ:St}{H:Hp}(hlen:xs.length=ys.length)(Pv:Nat->St->Hp->Prop)(h0:Pv 0 σ H)(hl:∀i σ H,Pv i σ H->SqL K H a xs/\SqT K H b ys)(hs:∀i x y σ H T,xs[i]?=some x->ys[i]?=some y->Pv i σ H->H T=none->g (.ref T) σ (upd H T (.tup [x,y])) λσ2 H2=>tb { D with nx:=Pv (i+1),ct:=Pv (i+1),bk:=D.nx } σ2 H2)(hd:∀σ H,Pv xs.length σ H->D.nx σ H) :
  ∃W:Nat->Nat->St->Hp->Prop,(∃m,W 0 m σ H)/\∀i m σ H,W i m σ H ->
   ((DR K a b).stop i H/\D.nx σ H)∨((DR K a b).go i H/\∃N:St->Hp->Prop,(∀σ' H',N σ' H'->∃m',m'<m/\W (i+1) m' σ' H')/\∀v H',(DR K a b).yld i H v H'->g v σ H' λσ2 H2=>tb { D with nx:=N,ct:=N,bk:=D.nx } σ2 H2):=by
 refine⟨λi m σ H=>m=xs.length-i/\i<=xs.length/\Pv i σ H,⟨xs.length,by simp,Nat.zero_le _,h0⟩,?_⟩
 rintro i m σ H ⟨rfl,hi,p⟩
 obtain⟨q1,q2⟩:=hl _ _ _ p
 by_cases hlt:i<xs.length
 ·refine .inr ⟨⟨xs,ys,xs[i],ys[i]'(by omega),q1,q2,by simp[hlt],by simp[←hlen,hlt]⟩,Pv (i+1),λσ' H' p'=>⟨xs.length-(i+1),by omega,rfl,hlt,p'⟩,λv H' y=>?_⟩
  obtain⟨T,x,y,e,n,e2,hx,hy⟩:=y
  subst e e2
  exact hs i x y σ H T (hx xs q1) (hy ys q2) p n
 ·have e:i=xs.length:=by omega
  subst e
  exact .inl ⟨⟨xs,ys,q1,q2,.inl (Nat.le_refl _)⟩,hd σ H p⟩
noncomputable def G7:Option Int->Value->Bool
 |some k,v=>Value.isInt k v
 |none,.none=>true
 |none,_=>false
theorem dM{k:Option Int}{v:Value}(h:G7 k v=true):(∃i t,k=some i/\v=.int i t)∨(k=none/\v=.none):=by
 cases k with
 |some i =>
  obtain⟨t,e⟩:=Value.isInt_shape (k:=i) (v:=v) h
  exact .inl ⟨i,t,rfl,e⟩
 |none =>
  cases v<;>first|exact .inr ⟨rfl,rfl⟩|exact absurd h (by simp[G7])
noncomputable def optH:Option Int->Int
 |some k=>hashInt k
 |none=>0xFCA86420
section
variable {prog:Program}{w:World}{A:Around}{E:Value->Shared->Prop}{s:Shared}
theorem wK{Q:Int->Shared->Prop}(h:Q 0xFCA86420 { s with toks:=s.toks+1 }):wpAny (model prog w) A (pyHash .none) Q E s:=by
 unfold pyHash
 have hv:[Value.none].any Value.onHeap=false:=rfl
 have ht:s.TypeIs .none "NoneType":=rfl
 refine wpAny_bind ?_
 rw[cRoomFor,if_neg (by rw[hv];exact Bool.false_ne_true)]
 refine wpAny_pure ?_
 refine wpAny_bind (wpAny_specialOf ht F.slot_NoneType_hash.lookup ?_)
 show wpAny _ _ (if (some (Value.builtin "NoneType.__hash__")==some Value.none)=true then _ else _) Q E s
 rw[if_neg (by rw[beq_builtin_none];exact Bool.false_ne_true)]
 refine wpAny_bind (wpAny_specialOf ht F.slot_NoneType_hash.lookup ?_)
 show wpAny _ _ (callSpecialIfBoundUnlessNone? .none "__hash__" _ >>= _) Q E s
 refine wpAny_bind (wpAny_callSpecialIfBoundUnlessNone?_slot ht F.slot_NoneType_hash
  (wpAny_call_entry F.slot_NoneType_hash ht F.entry_NoneType_hash
   (show wpAny _ _ (do ret (←mkInt 0xFCA86420)) _ _ s from wpAny_ret_mkInt ?_) (F.args_NoneType_hash_1 _)))
 show wpAny _ _ (if (decide (-(2:Int) ^ 63<=0xFCA86420)&&decide ((0xFCA86420:Int)<2 ^ 63))=true then _ else _) Q E _
 rw[if_pos (by decide)]
 exact wpAny_pure h
theorem vR{Q:Bool->Shared->Prop}(h:Q true s):wpAny (model prog w) A (eqBool .none .none) Q E s:=by
 unfold eqBool
 refine wpAny_holding ?_
 rw[if_pos (show(Value.none==Value.none)=true from rfl)]
 exact wpAny_bind (wpAny_rule (wpAny_pure h))
end
noncomputable def jF(prog:Program)(w:World):PySem.KeyKind prog w (Option Int) where
 is:=G7
 hash:=optH
 inj:=λv a b ha hb=>by
  rcases dM ha with ⟨i,t,rfl,rfl⟩|⟨rfl,rfl⟩<;>rcases dM hb with ⟨j,u,rfl,e⟩|⟨rfl,e⟩
  ·injection e with e1 _
   rw[e1]
  ·exact nomatch e
  ·exact nomatch e
  ·rfl
 byValue:=λk v h=>by
  rcases dM h with ⟨i,t,rfl,rfl⟩|⟨rfl,rfl⟩<;>rfl
 pyHash:=λhv h=>by
  rcases dM hv with ⟨i,t,rfl,rfl⟩|⟨rfl,rfl⟩
  ·exact wpAny_pyHash_int h
  ·exact wK h
 eqBool:=λhu hv h=>by
  rcases dM hu with ⟨i,t,rfl,rfl⟩|⟨rfl,rfl⟩<;>rcases dM hv with ⟨j,u,rfl,rfl⟩|⟨rfl,rfl⟩
  ·rw[show decide ((some i:Option Int)=some j)=(i==j) by
    rw[Bool.eq_iff_iff]
    simp] at h
   exact wpAny_eqBool_int h
  ·exact SeqAt.EqAt.int_none i t _ _ _ _ h
  ·exact SeqAt.EqAt.none_int j u _ _ _ _ h
  ·exact vR h
 «strs»:=λk x t v h=>by
  rcases dM h with ⟨i,u,rfl,e⟩|⟨rfl,e⟩
  ·exact nomatch e
  ·exact nomatch e
def DN(H:Hp)(a:Addr)(x:V)(r:Bool):Prop:=∃kvs:List (Key×V),Rd H a (.dK kvs)/\((∃i,x=.int i/\r=(dN kvs (.inl i)).isSome)∨(x=.non/\r=false/\∀p∈kvs,∃i,p.1=Sum.inl i))
section
variable {X:Cx}{pins:List (Addr×Obj)}{σ:St}{H:Hp}{s:Shared}{a:Addr}{A:Around}{E:Value->Shared->Prop}
theorem Ac{P:Program}{w:World}{h:Heap}{vs:List (Key×Value)}(dd:h.DictOf (bO P w) a vs)(hi:∀p∈vs,∃i,p.1=Sum.inl i):∃f:Option Int->Option Value,f none=none/\h.MapOf (jF P w) a f:=by
 obtain⟨o,es,ep,ho,hc,hd,hk,hp,_⟩:=dd
 have hin:∀e∈es,∃(i:Int) (t:Tok),e.key=.int i t/\e.hash=hashInt i:=by
  intro e he
  obtain⟨k,h1,h2⟩:=hk e he
  have hmem:∀(l:List DictEntry) (m:List (Key×Value)),Pairs (bO P w) l m->(∀p∈m,∃i,p.1=Sum.inl i)->e∈l->∃i,(bO P w).is (.inl i) e.key=true:=by
   intro l m hpm
   induction hpm with
   |nil=>intro _ h;cases h
   |@cons e' kv l m g1 g2 _ ih =>
    intro hall hh
    rcases List.mem_cons.mp hh with z|z
    ·subst z
     obtain⟨i,hi⟩:=hall kv (List.mem_cons_self ..)
     rw[hi] at g1
     exact⟨i,g1⟩
    ·exact ih (λp hp=>hall p (List.mem_cons_of_mem _ hp)) z
  obtain⟨i,hi'⟩:=hmem _ _ hp hi (by simpa using he)
  obtain rfl:=(bO P w).inj _ _ _ h1 hi'
  obtain⟨t,ht⟩:=Value.isInt_shape (k:=i) (v:=e.key) h1
  exact⟨i,t,ht,h2⟩
 refine⟨λk=>findBy (jF P w).is es k,?_,o,es,ep,ho,hc,hd,λe he=>?_,λk=>rfl⟩
 ·have hf:es.findIdx? (λe=>(jF P w).is none e.key)=none:=by
   rw[Array.findIdx?_eq_none_iff]
   intro e he
   obtain⟨i,t,h1,_⟩:=hin e he
   rw[h1]
   rfl
  show findBy (jF P w).is es none=none
  rw[findBy_of_findIdx?,hf]
 ·obtain⟨i,t,h1,h2⟩:=hin e he
  exact⟨some i,by rw[h1];show Value.isInt i (.int i t)=true;simp[Value.isInt],h2⟩
theorem zX{kvs:List (Key×V)}{vs:List (Key×Value)}(r:KV kvs vs)(h:∀p∈kvs,∃i,p.1=Sum.inl i):∀p∈vs,∃i,p.1=Sum.inl i:=by
 unfold KV at r
 induction r with
 |nil=>intro p hp;cases hp
 |cons r1 _ ih =>
  intro p hp
  rcases List.mem_cons.mp hp with z|z
  ·subst z
   obtain⟨i,hi⟩:=h _ (List.mem_cons_self ..)
   exact⟨i,by rw[←r1.1];exact hi⟩
  ·exact ih (λp hp=>h p (List.mem_cons_of_mem _ hp)) p z
theorem d_inO{x:V}{u:Value}{r:Bool}{Q:Value->Shared->Prop}(hu:A.units+1<cLine)(I:Inv X pins σ H s)(g:DN H a x r)(ry:RelV x u)(h:∀s',Inv X pins σ H s'->Q (.bool r) s') :
  wpAny (model X.prog X.w) A (compareOp .In u (.ref a)) Q E s:=by
 obtain⟨kvs,hk,⟨i,rfl,rfl⟩|⟨rfl,rfl,hi⟩⟩:=g
 ·exact d_in (o:=dN kvs (.inl i)) hu I (.inl ⟨kvs,.inl i,hk,rfl,rfl⟩) ry h
 ·cases (show u=Value.none from ry)
  obtain⟨z,hd,vs,rel,dd⟩:=mX I.hok hk
  obtain⟨f,hf,hm⟩:=Ac dd (zX rel hi)
  refine wpAny_in_of (knd:=jF X.prog X.w) (k:=none) rfl hd hm ?_
  rw[hf]
  exact h _ (I.tok _)
theorem Em{x:V}{u:Value}{r:Bool}{Q:Value->Shared->Prop}(hu:A.units+1<cLine)(I:Inv X pins σ H s)(g:DN H a x r)(ry:RelV x u)(h:∀s',Inv X pins σ H s'->Q (.bool (!r)) s') :
  wpAny (model X.prog X.w) A (compareOp .NotIn u (.ref a)) Q E s:=by
 obtain⟨kvs,hk,⟨i,rfl,rfl⟩|⟨rfl,rfl,hi⟩⟩:=g
 ·exact Io (o:=dN kvs (.inl i)) hu I (.inl ⟨kvs,.inl i,hk,rfl,rfl⟩) ry h
 ·cases (show u=Value.none from ry)
  obtain⟨z,hd,vs,rel,dd⟩:=mX I.hok hk
  obtain⟨f,hf,hm⟩:=Ac dd (zX rel hi)
  refine wpAny_notIn_of (knd:=jF X.prog X.w) (k:=none) rfl hd hm ?_
  rw[hf]
  exact h _ (I.tok _)
end
def tDInO(ty td:TE):TE:=λσ H Q=>ty σ H λy H1=>td σ H1 λx H2=>∃a r,x=.ref a/\DN H2 a y r/\Q (.bl r) H2
def HS(ty td:TE):TE:=λσ H Q=>ty σ H λy H1=>td σ H1 λx H2=>∃a r,x=.ref a/\DN H2 a y r/\Q (.bl (!r)) H2
section
variable {X:Cx}{o i:Expr}{td ty:TE}
theorem uQ(hu:X.A.units+1<cLine)(hi:PE X i ty)(ho:PE X o td):PC X .In i o (tDInO ty td):=by
 intro pins s σ H Q I h
 refine thn (hi pins s σ H _ I h) λiv s1 ⟨y,H1,I1,ry,q1⟩=>thn (ho pins s1 σ H1 _ I1 q1) λu s2 hq=>?_
 obtain⟨x,H2,I2,rx,a,r,ex,g,q2⟩:=hq
 subst ex
 obtain rfl:u=Value.ref a:=rx
 exact d_inO hu I2 g ry λs3 I3=>⟨.bl r,H2,I3,rfl,q2⟩
theorem qj(hu:X.A.units+1<cLine)(hi:PE X i ty)(ho:PE X o td):PC X .NotIn i o (HS ty td):=by
 intro pins s σ H Q I h
 refine thn (hi pins s σ H _ I h) λiv s1 ⟨y,H1,I1,ry,q1⟩=>thn (ho pins s1 σ H1 _ I1 q1) λu s2 hq=>?_
 obtain⟨x,H2,I2,rx,a,r,ex,g,q2⟩:=hq
 subst ex
 obtain rfl:u=Value.ref a:=rx
 exact Em hu I2 g ry λs3 I3=>⟨.bl (!r),H2,I3,rfl,q2⟩
end
section
variable {X:Cx}
theorem ut{P:Program}{w:World}:∀{kvs:List (Key×V)} {vs:List (Key×Value)} {us:List Value},KV kvs vs->us.length=vs.length->(∀(j:Nat) (v:Value),us[j]?=some v->∃k x,vs[j]?=some (k,x)/\(bO P w).is k v=true)->Vals (kvs.map λq=>kV q.1) us
 |_,_,us,.nil,hl,_=>by
  have:us=[]:=List.length_eq_zero_iff.mp hl
  subst this
  exact .nil
 |_,_,us,.cons (a:=p) (b:=q) r1 r,hl,hv=>by
  cases us with
  |nil=>cases hl
  |cons u us =>
   refine .cons ?_ (ut (P:=P) (w:=w) r (Nat.succ.inj hl) λj v e=>?_)
   ·obtain⟨k,x,e,hk⟩:=hv 0 u rfl
    cases e
    show RelV (kV p.1) u
    rw[r1.1]
    rcases cN hk with ⟨i,t,e1,e2⟩|⟨y,t,e1,e2⟩
    ·have e1:k=Sum.inl i:=e1
     subst e1
     subst e2
     exact⟨t,rfl⟩
    ·have e1:k=Sum.inr y:=e1
     subst e1
     subst e2
     exact⟨t,rfl⟩
   ·exact hv (j+1) v e
theorem o8(hc:X.calm=true):j7 X (.type "list") (λxs H Q=>∃p kvs,xs=[.ref p]/\H p=some (.dK kvs)/\∀l,H l=none->Q (.ref l) (upd H l (.lst (kvs.map λq=>kV q.1)))):=by
 intro pins s σ H xs us Q I r h
 obtain⟨p,kvs,rfl,hd,q⟩:=h
 obtain⟨u,rfl,rx⟩:=vals1 r
 cases rx
 obtain⟨z,hs,vs,rel,dd⟩:=dk_of I.hok hd
 obtain⟨ep,hat⟩:=dd.dictAt
 have hlen:=Paired.length rel
 refine PySem.W.kdl_call (PySem.W.kdl_dict (knd:=bO X.prog X.w) (kvs:=vs) (ep:=ep) hs) (I.ok.hd hc) hat (by omega) λh' tk acc' c' hk hB hacc=>?_
 refine⟨.ref s.heap.objs.size,_,I.laid (t':=tk) hk (Nat.le_refl _) (show cW X.prog X.w _ h' _ (.lst (kvs.map λq=>kV q.1)) from⟨by rw[List.length_map];exact z,acc'.toList,c',ut (P:=X.prog) (w:=X.w) rel ?_ λj v e=>?_,?_⟩),rfl,q _ (I.hok.fresh (Nat.le_refl _))⟩
 ·rw[Array.length_toList]
  exact hacc.1
 ·exact hacc.2 j v (by rw[←Array.getElem?_toList];exact e)
 ·rw[Array.toArray_toList]
  exact hB
def Hm(K:PySem.W.Frag):V->List V->Hp->VK->Prop:=λx vs H Q=>∃l b xs zs,x=.ref l/\vs=[.ref b]/\H l=some (.lst xs)/\SqT K H b zs/\xs.length+zs.length<=sizeLine/\Q .non (upd H l (.lst (xs++zs)))
theorem Iu{P:Program}{w:World}{A:Around}{E:Value->Shared->Prop}{s:Shared}{l b:Addr}{its its2:Array Value}{n:Nat}{R:PySem.Fin->Shared->Prop}(e:s.heap.get? l=some { cls:=.type "list",data:=.seq its n })(e2:IsTup s.heap b its2)(hz:its.size+its2.size<=sizeLine)(h:R (.done (.ret .none)) { s with heap:=s.heap.update l (Obj.mapSeq λx=>x++its2) }):wpAny (model P w) A (Builtin.«list.extend» ⟨[.ref l,.ref b],[]⟩) R E s:=by
 obtain⟨o,ho,hc,m,hd⟩:=e2
 show wpAny _ _ (Builtin.List.listExtendWith (.ref l) (.ref b) .none) _ _ _
 unfold Builtin.List.listExtendWith
 have ht:s.TypeIs (.ref b) "tuple":=⟨o,ho,hc⟩
 refine wpAny_bind (wpAny_typeOf (T:="tuple") ht ?_)
 rw[if_pos (by simp)]
 refine wpAny_bind (listItems_at ho hd ?_)
 refine wpAny_bind (listItems_at e rfl ?_)
 rw[if_neg (by rw[pX hz,Bool.and_false];exact Bool.false_ne_true)]
 refine wpAny_bind (listUpdate_at e rfl ?_ (by omega) (by rw[Array.size_append];omega))
 exact wpAny_pure h
theorem yo:MtM X "list.extend" (Hm X.K):=by
 intro pins s σ H x vs v us Q I rx rv h
 obtain⟨l,b,xs,zs,rfl,rfl,hH,hB,hz,q⟩:=h
 cases rx
 obtain⟨u,rfl,ru⟩:=rv.one
 cases ru
 obtain⟨z,its,n,r,hl,e⟩:=I.lstM hH
 obtain⟨its2,r2,e2,z2⟩:=I.tuple hB
 have hl2:=r2.length
 refine wpAny_call_entry F.slot_list_extend ⟨_,e,rfl⟩ F.entry_list_extend (Iu e e2 (by rw[List.size_toArray,List.size_toArray];omega) ⟨_,rfl,?_⟩) (F.args_list_extend_2 _ _)
 refine⟨.non,_,I.lset (its':=its++its2) hH e (by simp) (r.append r2) ?_,rfl,q⟩
 rw[List.length_append]
 omega
end
def jW(H:Hp)(t:Addr)(p:Int×Int):Prop:=H t=some (.tup [.int p.1,.int p.2])
def Hn(K:PySem.W.Frag):List V->Hp->VK->Prop:=λvs H Q=>∃(a:Addr) (ts:List Addr),vs=[V.ref a]/\SqL K H a (ts.map V.ref)/\(∀t∈ts,∃p,jW H t p) /\
 ∀(ts':List Addr) (p:Addr),ts'.Perm ts->ts'.Pairwise (λt u=>∀x y,jW H t x->jW H u y->x.1<=y.1)->H p=none->Q (.ref p) (upd H p (.lst (ts'.map V.ref)))
noncomputable def adr:Value->Addr
 |.ref a=>a
 |_=>0
theorem Ai:∀{ts:List Addr} {us:List Value},Vals (ts.map V.ref) us->us=ts.map Value.ref
 |[],_,.nil=>rfl
 |t::ts,_,.cons r rr=>by
  rw[List.map_cons,Ai rr]
  cases r
  rfl
section
variable {X:Cx}
theorem pr_at{pins:List (Addr×Obj)}{s:Shared}{σ:St}{H:Hp}(I:Inv X pins σ H s){t:Addr}{p:Int×Int}(h:jW H t p):∃o n t1 t2,s.heap.get? t=some o/\o.cls=.type "tuple"/\o.data=.seq #[.int p.1 t1,.int p.2 t2] n:=by
 obtain⟨its,r,⟨o,e,hc,n,hd⟩,z⟩:=I.tuple (SqT.of (K:=X.K) h)
 cases r with
 |cons r1 r =>
  cases r with
  |cons r2 r =>
   cases r
   obtain⟨t1,rfl⟩:=r1
   obtain⟨t2,rfl⟩:=r2
   exact⟨o,n,t1,t2,e,hc,hd⟩
theorem Hh{pins:List (Addr×Obj)}{s:Shared}{σ:St}{H:Hp}(I:Inv X pins σ H s){t:Addr}{p:Int×Int}(h:jW H t p):G.tupKeyC s.heap (λ_=>false) (.ref t)=some [Sum.inl p.1,Sum.inl p.2]:=by
 obtain⟨o,n,t1,t2,e,hc,hd⟩:=pr_at I h
 unfold G.tupKeyC
 have e1:G.isTupObj s.heap (.ref t)=true:=by simp[G.isTupObj,e,hc]
 rw[if_pos e1]
 simp only[tupKey,e,hd]
 rfl
theorem xP:j7 X (.builtin "sorted") (Hn X.K):=by
 intro pins s σ H vs us Q I r h
 obtain⟨a,ts,rfl,hs,hp,q⟩:=h
 obtain⟨its,rv,hl,hz⟩:=I.list hs
 obtain rfl:=Ai rv
 rw[Vals.ref1 r]
 have ht:∀l:List Addr,(∀t∈l,∃p,jW H t p)->∃fs,TupsOf s.heap (λ_=>false) (l.map Value.ref) fs:=by
  intro l
  induction l with
  |nil=>intro _;exact⟨[],.nil⟩
  |cons t l ih =>
   intro hl
   obtain⟨fs,hf⟩:=ih λu hu=>hl u (List.mem_cons_of_mem _ hu)
   obtain⟨p,hp⟩:=hl t (List.mem_cons_self ..)
   obtain⟨o,n,t1,t2,e,hc,hd⟩:=pr_at I hp
   exact⟨_,.cons ⟨t,o,_,n,rfl,e,hc,hd,rfl,λ_=>⟨_,_,rfl⟩,λz=>absurd z Bool.false_ne_true⟩ hf⟩
 obtain⟨fs,hf⟩:=ht ts hp
 refine G.sorted_tups hl.isList hf (λv hv=>?_) (by rw[List.length_map] at hz ⊢;exact hz) λst' h1 h2 _=>?_
 ·obtain⟨t,ht,rfl⟩:=List.mem_map.mp hv
  obtain⟨p,hp⟩:=hp t ht
  exact⟨_,Hh I hp⟩
 have hL:(arrOf st').toList.Perm ((ts.map Value.ref).zip (ts.map Value.ref)):=by
  have:=Array.perm_iff_toList_perm.mp h1
  rw[pairsOf_toList] at this
  exact this
 have hel:∀x∈(arrOf st').toList,∃t∈ts,x=(Value.ref t,Value.ref t):=by
  intro x hx
  have:=hL.mem_iff.mp hx
  rw[List.zip_map',List.mem_map] at this
  obtain⟨t,ht,e⟩:=this
  exact⟨t,ht,e.symm⟩
 obtain⟨ts',hts'⟩:∃ts':List Addr,ts'=(arrOf st').toList.map λx=>adr x.2:=⟨_,rfl⟩
 have hout:((arrOf st').map (·.2)).toList=ts'.map Value.ref:=by
  rw[hts',Array.toList_map,List.map_map]
  refine List.map_congr_left λx hx=>?_
  obtain⟨t,_,rfl⟩:=hel x hx
  rfl
 have hperm:ts'.Perm ts:=by
  rw[hts']
  refine(hL.map λx=>adr x.2).trans ?_
  rw[List.zip_map',List.map_map]
  exact List.Perm.of_eq (List.map_id ts)
 have hpw:ts'.Pairwise (λt u=>∀x y,jW H t x->jW H u y->x.1<=y.1):=by
  rw[List.pairwise_iff_getElem]
  intro i j hi hj hij x y hx hy
  have hli:ts'.length=(arrOf st').toList.length:=by rw[hts',List.length_map]
  have hsz:(pairsOf (ts.map Value.ref)).size=(arrOf st').toList.length:=by rw[pairsOf_size,hL.length_eq,List.length_zip,Nat.min_self]
  have hk:=h2 i j (Nat.le_of_lt hij) (by rw[hsz];omega)
  have key:∀(k:Nat) (hk:k<ts'.length) (z:Int×Int),jW H ts'[k] z->KK (G.tupKindC s.heap (λ_=>false)) (arrOf st') k=[Sum.inl z.1,Sum.inl z.2]:=by
   intro k hk z hz
   have hka:k<(arrOf st').toList.length:=by omega
   have e1:(arrOf st')[k]?=some ((arrOf st').toList[k]):=by
    rw[←Array.getElem?_toList,List.getElem?_eq_getElem hka]
   obtain⟨t,_,et⟩:=hel _ (List.getElem_mem hka)
   have e2:ts'[k]=t:=by
    have:ts'[k]?=some t:=by
     rw[hts',List.getElem?_map,List.getElem?_eq_getElem hka,et]
     rfl
    rw[List.getElem?_eq_getElem hk] at this
    exact Option.some.inj this
   rw[e2] at hz
   unfold KK
   rw[e1,et]
   show(G.tupKeyC s.heap (λ_=>false) (.ref t)).getD _=_
   rw[Hh I hz]
   rfl
  rw[key i hi x hx,key j hj y hy] at hk
  have hk:lexLt itemOrd [Sum.inl y.1,Sum.inl y.2] [Sum.inl x.1,Sum.inl x.2]=false:=hk
  have:=(lex_false.mp hk).1
  have:decide (y.1<x.1)=false:=this
  have:=of_decide_eq_false this
  omega
 obtain⟨ep,he'⟩:=PyProof.Rows.sortedAll_at s.heap (ts.map Value.ref) ((arrOf st').map (·.2))
 have hlen:(ts'.map V.ref).length<=sizeLine:=by rw[List.length_map,hperm.length_eq];rw[List.length_map] at hz;exact hz
 have hvals:∀l:List Addr,Vals (l.map V.ref) (l.map Value.ref):=by
  intro l
  induction l with
  |nil=>exact .nil
  |cons t l ih=>exact .cons rfl ih
 exact⟨.ref _,upd H (s.heap.objs.size+1) (.lst (ts'.map V.ref)),I.laid (t':=s.toks) (λ_ _=>PyProof.Rows.sortedAll_old) (Nat.le_succ _) ⟨hlen,((arrOf st').map (·.2)).toList,ep,by rw[hout];exact hvals ts',by rw[Array.toArray_toList];exact he'⟩,rfl,q ts' _ hperm hpw (I.hok.fresh (Nat.le_succ _))⟩
end
def JX(K:PySem.W.Frag)(td ty:TE):TE:=λσ H Q=>td σ H λx H1=>∃a,x=.ref a/\IsD H1 a/\ty σ H1 λy H2=>∃kvs k b,Rd H2 a (.dT kvs)/\y=.ref b/\SqT K H2 b (k.map kV)/\Q ((dN kvs k).getD .non) H2
theorem Ja{X:Cx}{pins:List (Addr×Obj)}{σ:St}{H:Hp}{s:Shared}{b:Addr}{ks:List Key}(I:Inv X pins σ H s)(h:SqT X.K H b (ks.map kV)):(tupleKind (bO X.prog X.w)).is s.heap ks b:=by
 obtain⟨its,r,⟨o,h1,h2,n,h3⟩,z⟩:=I.tuple h
 exact⟨o,its.toArray,n,h1,h2,h3,by simpa using lQ r⟩
theorem iK{X:Cx}{o e:Expr}{apos cpos:Pos}{td ty:TE}{K:PySem.W.Frag}(hK:X.K=K)(hu:X.A.units+1<cLine)(ho:PE X o td)(he:PE X e ty)(m:M1 X o "get" apos e cpos):PE X (.Call (.Attribute o "get" apos) [e] [] cpos) (JX K td ty):=by
 subst hK
 intro pins s σ H Q I h
 refine wpAny_Call_method m.base m.few m.line PySem.F.plainAttrs_dict PySem.F.slot_dict_get PySem.F.type_dict_get (thn (ho pins s σ H _ I h) λu s1 hq=>?_)
 obtain⟨x,H1,I1,rx,a,ex,d,q1⟩:=hq
 subst ex
 obtain rfl:u=Value.ref a:=rx
 obtain⟨t1,t2,_⟩:=isD_at I1 d
 refine⟨t1,t2,?_⟩
 rw[m.trees]
 refine Calls.callWith_builtin rfl (Calls.evalArgs_plain (Calls.spliced_cons (thn (he pins s1 σ H1 _ I1 q1) λiv s2 ⟨y,H2,I2,ry,kvs,k,b,hd,ey,hb,q2⟩=>Calls.spliced_nil ?_)))
 subst ey
 cases (show iv=Value.ref b from ry)
 obtain⟨z,hS,xs,rel,dd⟩:=pA I2.hok hd
 refine call_meetsIn PySem.F.slot_dict_get dd.typeIs PySem.F.entry_dict_get (PySem.F.args_dict_get_2 _ _) (meetsH_dict_get (tupleKind (bO X.prog X.w)) a b hS) ⟨tupleKind_room_in1 hu,k,xs,Ja I2 hb,dd,⟨(dN kvs k).getD .non,H2,I2.tok _,?_,q2⟩⟩
 exact(rel.val k).getD rfl
end L2
namespace PR
open PySem PySem.Spec PyProof.Rows L2
variable {P:Program}{w:World}{K:PySem.W.Frag}{mg:Str->Option Value}{base:Heap}
theorem aM{c A B:Prop}[Decidable c](hc:c)(h:A):if c then A else B:=by
 rw[if_pos hc]
 exact h
theorem aV{c A B:Prop}[Decidable c](hc:¬c)(h:B):if c then A else B:=by
 rw[if_neg hc]
 exact h
noncomputable def top(i:Nat):Stmt:=PySem.Challenge.pw_paperroll_s01_answers.main.body.getD i (.Pass ⟨0,0,0,0⟩)
noncomputable abbrev uW:Stmt:=inClass (top 10) 0
noncomputable abbrev qJ:Stmt:=inClass (top 11) 0
noncomputable abbrev mC:Stmt:=inClass (top 11) 1
noncomputable abbrev qD:Stmt:=inClass (top 11) 2
noncomputable abbrev fj:Stmt:=inClass (top 11) 3
noncomputable abbrev tV:Stmt:=inClass (top 11) 4
noncomputable abbrev gW:Stmt:=inClass (top 11) 5
noncomputable abbrev lH:Stmt:=inClass (top 11) 6
noncomputable def rf(tx:Addr)(p:Int):List (Str×V):=[("text",.ref tx),("place",.int p)]
theorem uU(tx:Addr)(p:Int):(rf tx p).lookup ("text":Str)=some (.ref tx):=by rfl
theorem dY(tx:Addr)(p:Int):(rf tx p).lookup ("place":Str)=some (.int p):=by rfl
theorem yN(tx:Addr)(p q:Int):eY "place" (.int q) (rf tx p)=rf tx q:=by rfl
structure du(K:PySem.W.Frag)(CR:Addr)(H:Hp)(r tx:Addr)(bs:List Int)(p:Nat):Prop where
 obj:∃dx,H r=some (.ins CR dx (rf tx (p:Int)))
 txt:SqL K H tx (bs.map V.int)
 le:p<=bs.length
 fit:bs.length<=30000
 byte:∀b∈bs,0<=b/\b<=255
structure TxR(K:PySem.W.Frag)(mg:Str->Option Value)(CF fF CR:Addr):Prop where
 xk:XKl K CF fF "place"
 mF:mg "Fault"=some (.ref CF)
 cl:Cls K CR
 nT:ig K CR "text"
 nP:ig K CR "place"
 noByte:∃t,mg "NO_BYTE"=some (.int (-1) t)
 len:mg "len"=none
 ord:mg "ord"=none
 min:mg "min"=none
 exc:mg "Exception"=none
section
variable {CF fF CR:Addr}
theorem scFI:aJ ["self","place"] ["self","place"] (aA uW):=sc0
theorem Cv{fd:FuncData}(F:Fun K "__init__" "Fault.__init__" uW fF fd)(T:TxR K mg CF fF CR):aF P w K mg base CX0 1 fF fd ["self","place"] (iU CF "place"):=by
 refine F.ok scFI (λvs H Q E h=>?_) (λcdv A outer s H vs Q E hr h=>?_)
 ·obtain⟨e,i,rfl,_⟩:=h
  rfl
 ·obtain⟨e,i,rfl,he,k⟩:=h
  refine⟨_,aq (JC T.xk (pv 0) rfl T.exc) (az (JD T.xk (pv 0) (pv 1) rfl)),?_⟩
  refine⟨_,rfl,e,none,rfl,he,?_⟩
  refine⟨_,rfl,_,rfl,e,rfl,aj,λdx n ne=>?_⟩
  rw[ao ne] at n
  refine k dx _ n ne (λb hb hbd=>?_) ?_ aj
  ·rw[ao hb,ao hbd,ao hb]
  ·rw[ao ne,aj]
def mK(K:PySem.W.Frag)(CR:Addr):Sp:=λvs H Q _=>∃(r dx tx:Addr),vs=[.ref r,.ref tx]/\H r=some (.ins CR dx [])/\∀H':Hp,H' r=some (.ins CR dx (rf tx 0))->(∀b,b≠r->H' b=H b)->Q .non H'
theorem scRI:aJ ["self","text"] ["self","text"] (aA qJ):=sc0
theorem yI{f:Addr}{fd:FuncData}(F:Fun K "__init__" "Reader.__init__" qJ f fd)(T:TxR K mg CF fF CR):aF P w K mg base CX0 1 f fd ["self","text"] (mK K CR):=by
 refine F.ok scRI (λvs H Q E h=>?_) (λcdv A outer s H vs Q E hr h=>?_)
 ·obtain⟨r,dx,tx,rfl,_⟩:=h
  rfl
 ·obtain⟨r,dx,tx,rfl,hr0,k⟩:=h
  refine⟨_,aq (aU (pv 0) (pv 1) rfl) (az (aU (pv 0) aC rfl)),?_⟩
  refine⟨_,rfl,_,rfl,r,CR,dx,_,rfl,hr0,T.cl,T.nT,(by show 0<1000;decide),?_⟩
  refine⟨_,rfl,r,CR,dx,_,rfl,aj,T.cl,T.nP,(by show 1<1000;decide),?_⟩
  refine k _ aj λb hb=>?_
  rw[ao hb,ao hb]
def oV(K:PySem.W.Frag)(CR:Addr):Sp:=λvs H Q _=>∃(r tx:Addr) (bs:List Int) (p:Nat),vs=[.ref r]/\du K CR H r tx bs p/\Q (.bl (decide (p=bs.length))) H
theorem scAE:aJ ["self"] ["self"] (aA mC):=sc0
theorem Ge{f:Addr}{fd:FuncData}(F:Fun K "at_end" "Reader.at_end" mC f fd)(T:TxR K mg CF fF CR):aF P w K mg base CX0 1 f fd ["self"] (oV K CR):=by
 refine F.ok scAE (λvs H Q E h=>?_) (λcdv A outer s H vs Q E hr h=>?_)
 ·obtain⟨r,tx,bs,p,rfl,_⟩:=h
  rfl
 ·obtain⟨r,tx,bs,p,rfl,R,k⟩:=h
  obtain⟨dx,h1⟩:=R.obj
  refine⟨_,az (aO (Js gJ (aB (pv 0) rfl) (bJ bz (by rfl) T.len PySem.boot_len (ak (aB (pv 0) rfl) au)) (bQ _))),?_⟩
  refine⟨_,rfl,r,CR,dx,_,_,rfl,h1,T.cl,T.nP,dY _ _,_,rfl,r,CR,dx,_,_,rfl,h1,T.cl,T.nT,uU _ _,tx,_,rfl,.inl R.txt,rfl,?_⟩
  have e:decide (V.int (p:Int)=V.int ((bs.map V.int).length:Nat))=decide (p=bs.length):=by
   rw[List.length_map]
   by_cases hp:p=bs.length
   ·subst hp
    simp
   ·rw[decide_eq_false hp,decide_eq_false]
    intro z
    injection z with z
    omega
  rw[e]
  exact k
noncomputable def byteAt(bs:List Int)(p:Nat):Int:=bs.getD p (-1)
theorem gk{bs:List Int}{p:Nat}(h:p<bs.length):bs[p]?=some (byteAt bs p):=by
 unfold byteAt
 rw[List.getD_eq_getElem?_getD,List.getElem?_eq_getElem h]
 rfl
theorem fQ{bs:List Int}:byteAt bs bs.length=-1:=by
 unfold byteAt
 rw[List.getD_eq_getElem?_getD,List.getElem?_eq_none (Nat.le_refl _)]
 rfl
theorem eN{bs:List Int}{p:Nat}(hp:p<=bs.length)(h:0<=byteAt bs p):p<bs.length:=by
 rcases Nat.lt_or_eq_of_le hp with z|z
 ·exact z
 ·rw[z,fQ] at h
  omega
structure FM(K:PySem.W.Frag)(C:Addr)(m qual:Str)(st:Stmt)(ps:List Str)(f:Addr)(fd:FuncData):Prop where
 fn:Fun K m qual st f fd
 bd:Binds K fd ps []
 mt:Meth K C m f
structure FG(K:PySem.W.Frag)(mg:Str->Option Value)(m:Str)(st:Stmt)(ps:List Str)(f:Addr)(fd:FuncData):Prop where
 fn:Fun K m m st f fd
 bd:Binds K fd ps []
 mg:mg m=some (.ref f)
theorem cX(tx:Addr)(p:Int){m:Str}(h1:(m==("text":Str))=false)(h2:(m==("place":Str))=false):(rf tx p).lookup m=none:=by
 unfold rf
 simp only[List.lookup_cons,h1,h2,List.lookup_nil]
def qO(K:PySem.W.Frag)(CR:Addr):Sp:=λvs H Q _=>∃(r tx:Addr) (bs:List Int) (p:Nat),vs=[.ref r]/\du K CR H r tx bs p/\Q (.int (byteAt bs p)) H
theorem scBH:aJ ["self"] ["self"] (aA qD):=sc0
theorem Jf{f fA:Addr}{fd fdA:FuncData}(F:Fun K "byte_here" "Reader.byte_here" qD f fd)(T:TxR K mg CF fF CR)(MA:FM K CR "at_end" "Reader.at_end" mC ["self"] fA fdA)(GA:aF P w K mg base CX0 1 fA fdA ["self"] (oV K CR)):aF P w K mg base CX0 2 f fd ["self"] (qO K CR):=by
 refine F.ok scBH (λvs H Q E h=>?_) (λcdv A outer s H vs Q E hr h=>?_)
 ·obtain⟨r,tx,bs,p,rfl,_⟩:=h
  rfl
 ·obtain⟨r,tx,bs,p,rfl,R,k⟩:=h
  obtain⟨dx,h1⟩:=R.obj
  obtain⟨tn,hn⟩:=T.noByte
  refine⟨_,aq (cA (cH (cO (pv 0) T.cl MA.mt GA hr MA.bd .nil aX)) (az (aO (aD (v:=.int (-1)) rfl hn ⟨tn,rfl⟩))) aZ)
   (az (aO (cz dg (aB (pv 0) rfl) (aB (pv 0) rfl) (λ_ _=>rfl)))),?_⟩
  refine⟨_,rfl,r,dx,_,rfl,h1,cX _ _ dk dk,r,tx,bs,p,rfl,R,_,rfl,?_⟩
  refine uL (λc=>?_) (λc=>?_)
  ·have c:=of_decide_eq_true c
   subst c
   rw[fQ] at k
   exact k
  ·have c:¬p=bs.length:=λz=>c (decide_eq_true z)
   have hlt:p<bs.length:=Nat.lt_of_le_of_ne R.le c
   refine⟨_,rfl,r,CR,dx,_,_,rfl,h1,T.cl,T.nT,uU _ _,_,rfl,r,CR,dx,_,_,rfl,h1,T.cl,T.nP,dY _ _,tx,_,_,_,rfl,rfl,R.txt,bw (j:=p) (v:=.int (byteAt bs p)) ?_,k⟩
   rw[List.getElem?_map,gk hlt]
   rfl
def But(r:Addr)(H H':Hp):Prop:=∀b o,H b=some o->b≠r->H' b=some o
theorem But.refl(r:Addr)(H:Hp):But r H H:=λ_ _ h _=>h
theorem But.trans{r:Addr}{H H1 H2:Hp}(a:But r H H1)(b:But r H1 H2):But r H H2:=λc o h n=>b c o (a c o h n) n
theorem But.upd(r:Addr)(H:Hp)(o:HO):But r H (L2.upd H r o):=λb u h n=>by rw[ao n];exact h
theorem du.moved{H H':Hp}{r tx:Addr}{bs:List Int}{p q:Nat}(R:du K CR H r tx bs p)(k:But r H H')(h:∃dx,H' r=some (.ins CR dx (rf tx (q:Int))))(hq:q<=bs.length):du K CR H' r tx bs q:=by
 refine⟨h,?_,hq,R.fit,R.byte⟩
 obtain⟨dx,h1⟩:=R.obj
 rcases R.txt with (z|⟨o,z⟩)|z
 ·exact .inl (.inl (k _ _ z (bI z h1 (by intro y;cases y))))
 ·exact .inl (.inr ⟨o,k _ _ z (bI z h1 (by intro y;cases y))⟩)
 ·exact .inr z
def qP(K:PySem.W.Frag)(CR:Addr):Sp:=λvs H Q E=>∃(r tx:Addr) (bs:List Int) (p:Nat) (c:Int),vs=[.ref r,.int c]/\du K CR H r tx bs p/\0<=c /\
 (byteAt bs p=c->∀H',du K CR H' r tx bs (p+1)->But r H H'->Q .non H')/\(byteAt bs p≠c->xk E p H)
theorem scEX:aJ ["self","byte"] ["self","byte"] (aA fj):=sc0
theorem Cu{f fB:Addr}{fd fdB fdF:FuncData}(F:Fun K "expect" "Reader.expect" fj f fd)(T:TxR K mg CF fF CR)(bF:Binds K fdF ["self","place"] [])(GF:aF P w K mg base CX0 1 fF fdF ["self","place"] (iU CF "place"))(MB:FM K CR "byte_here" "Reader.byte_here" qD ["self"] fB fdB)(GB:aF P w K mg base CX0 2 fB fdB ["self"] (qO K CR)):aF P w K mg base (CXF P w CF "place") 3 f fd ["self","byte"] (qP K CR):=by
 refine F.okX scEX (λvs H Q E h=>?_) (λcdv A outer s H vs Q E hr h=>?_)
 ·obtain⟨r,tx,bs,p,c,rfl,_⟩:=h
  rfl
 ·obtain⟨r,tx,bs,p,c,rfl,R,hc,k1,k2⟩:=h
  obtain⟨dx,h1⟩:=R.obj
  refine⟨_,aq (cA (bG G5 (cO (pv 0) T.cl MB.mt GB hr MB.bd .nil aX) (pv 1) (bQ _)) (az (gq T.xk GF hr rfl T.mF bF (aB (pv 0) rfl))) aZ)
   (az (mq (pv 0) aC xV)),?_⟩
  refine⟨_,rfl,r,dx,_,rfl,h1,cX _ _ dk dk,r,tx,bs,p,rfl,R,_,rfl,rfl,_,rfl,?_⟩
  by_cases e:byteAt bs p=c
  ·refine aV (by simp[e]) ?_
   refine⟨_,rfl,r,CR,dx,_,_,rfl,h1,T.cl,T.nP,dY _ _,_,_,rfl,rfl,dx,_,h1,(by show 2<1000;decide),?_⟩
   refine k1 e _ (R.moved (But.upd _ _ _) ⟨dx,?_⟩ ?_) (But.upd _ _ _)
   ·rw[aj,yN]
    all_goals rfl
   ·have:=eN R.le (by rw[e];exact hc)
    omega
  ·refine aM (by simp[e]) ?_
   exact⟨_,rfl,r,CR,dx,_,_,rfl,h1,T.cl,T.nP,dY _ _,_,rfl,k2 e⟩
end
noncomputable def dq:List Nat->List Int->Nat
 |c::cs,b::l=>if b=(c:Int) then dq cs l+1 else 0
 |_,_=>0
theorem wH:∀(cs:List Nat) (l:List Int),dq cs l<=cs.length
 |[],l=>by cases l<;>simp[dq]
 |c::cs,[]=>by simp[dq]
 |c::cs,b::l=>by
  unfold dq
  have:=wH cs l
  split
  ·simp;omega
  ·omega
theorem tO:∀{cs:List Nat} {l:List Int} {i c:Nat},i<=dq cs l->cs[i]?=some c->l.getD i (-1)=(c:Int)->i+1<=dq cs l
 |[],l,i,c,_,h,_=>by simp at h
 |a::cs,[],i,c,_,_,h=>by
  have h:(-1:Int)=(c:Int):=by simpa using h
  omega
 |a::cs,b::l,0,c,_,h1,h2=>by
  have e1:a=c:=by simpa using h1
  have e2:b=(c:Int):=by simpa using h2
  unfold dq
  rw[if_pos (by rw[e2,e1])]
  omega
 |a::cs,b::l,i+1,c,h,h1,h2=>by
  unfold dq at h ⊢
  by_cases hb:b=(a:Int)
  ·rw[if_pos hb] at h ⊢
   have:=tO (cs:=cs) (l:=l) (i:=i) (c:=c) (by omega) (by simpa using h1) (by simpa using h2)
   omega
  ·rw[if_neg hb] at h
   omega
theorem qu:∀{cs:List Nat} {l:List Int} {i c:Nat},i<=dq cs l->cs[i]?=some c->l.getD i (-1)≠(c:Int)->dq cs l=i
 |[],l,i,c,_,h,_=>by simp at h
 |a::cs,[],i,c,h0,_,h=>by
  unfold dq at h0 ⊢
  omega
 |a::cs,b::l,0,c,_,h1,h2=>by
  have e1:a=c:=by simpa using h1
  have e2:b≠(c:Int):=by simpa using h2
  unfold dq
  rw[if_neg (by rw[e1];exact e2)]
 |a::cs,b::l,i+1,c,h,h1,h2=>by
  unfold dq at h ⊢
  by_cases hb:b=(a:Int)
  ·rw[if_pos hb] at h ⊢
   have:=qu (cs:=cs) (l:=l) (i:=i) (c:=c) (by omega) (by simpa using h1) (by simpa using h2)
   omega
  ·rw[if_neg hb] at h
   omega
theorem gP(bs:List Int)(p i:Nat):(bs.drop p).getD i (-1)=byteAt bs (p+i):=by
 unfold byteAt
 rw[List.getD_eq_getElem?_getD,List.getD_eq_getElem?_getD,List.getElem?_drop]
section
variable {CF fF CR:Addr}
def HQ(K:PySem.W.Frag)(CR:Addr):Sp:=λvs H Q E=>∃(r tx:Addr) (bs:List Int) (p:Nat) (wd:Str),vs=[.ref r,.str wd]/\du K CR H r tx bs p /\
 (dq wd.cps.toList (bs.drop p)=wd.cps.size->∀H',du K CR H' r tx bs (p+wd.cps.size)->But r H H'->Q .non H') /\
 (dq wd.cps.toList (bs.drop p)≠wd.cps.size->∀H',But r H H'->xk E ((p+dq wd.cps.toList (bs.drop p):Nat):Int) H')
theorem scW:aJ ["self","word","letter"] ["self","word"] (aA tV):=sc0
theorem Jp{f fX:Addr}{fd fdX:FuncData}(F:Fun K "expect_word" "Reader.expect_word" tV f fd)(T:TxR K mg CF fF CR)(MX:FM K CR "expect" "Reader.expect" fj ["self","byte"] fX fdX)(GX:aF P w K mg base (CXF P w CF "place") 3 fX fdX ["self","byte"] (qP K CR)) :
  aF P w K mg base (CXF P w CF "place") 4 f fd ["self","word"] (HQ K CR):=by
 refine F.okX scW (λvs H Q E h=>?_) (λcdv A outer s H vs Q E hr h=>?_)
 ·obtain⟨r,tx,bs,p,wd,rfl,_⟩:=h
  rfl
 ·obtain⟨r,tx,bs,p,wd,rfl,R,k1,k2⟩:=h
  refine⟨_,az (iM (Dc lW) rfl (pi_str (pv 1)) (cF (i:=2) scW.nd rfl (Or.inl rfl))
   (az (bh (aQ (pv 0) T.cl MX.mt GX hr MX.bd .nil cT (ak (bJ El (by rfl) T.ord dk (ak (pv 2) au)) au))))),?_⟩
  refine⟨_,rfl,wd,rfl,Iv (x:=wd) (λi σ H'=>∃v:Option V,σ=[some (.ref r),some (.str wd),v]/\du K CR H' r tx bs (p+i)/\But r H H'/\i<=dq wd.cps.toList (bs.drop p)) ⟨none,rfl,R,But.refl _ _,Nat.zero_le _⟩ ?_ ?_⟩
  ·rintro i c σ H' hc ⟨v,rfl,R',bt,hi⟩
   obtain⟨dx,h1⟩:=R'.obj
   have hc':wd.cps.toList[i]?=some c:=by simpa using hc
   refine⟨_,rfl,r,dx,_,rfl,h1,cX _ _ dk dk,_,rfl,⟨#[c]⟩,rfl,rfl,r,tx,bs,p+i,(c:Int),rfl,R',by omega,λe H2 R2 b2=>?_,λe=>?_⟩
   ·exact⟨_,rfl,R2,bt.trans b2,tO hi hc' (by rw[gP];exact e)⟩
   ·have e1:=qu hi hc' (by rw[gP];exact e)
    rw[e1] at k2
    refine k2 (λz=>?_) H' bt
    rw[z,Array.getElem?_eq_none (Nat.le_refl _)] at hc
    cases hc
  ·rintro σ H' ⟨v,rfl,R',bt,hi⟩
   have:=wH wd.cps.toList (bs.drop p)
   exact k1 (by rw[Array.length_toList] at this;omega) H' R' bt
end
noncomputable def isDig(b:Int):Bool:=decide (48<=b)&&decide (b<=57)
noncomputable def dX(l:List Int):List Int:=l.takeWhile isDig
noncomputable def vM(n b:Int):Int:=if 10000<10*n+b-48 then 10000 else 10*n+b-48
noncomputable def jT(l:List Int):Int:=l.foldl vM 0
theorem Bw(l:List Int)(b:Int):jT (l++[b])=vM (jT l) b:=by
 unfold jT
 rw[List.foldl_append]
 rfl
theorem qW{α:Type}{l:List α}{i:Nat}{x:α}(h:l[i]?=some x):l.take (i+1)=l.take i++[x]:=by
 rw[List.take_add_one,h]
 rfl
theorem zK:∀{l:List Int} {i:Nat} {b:Int},i<=(dX l).length->l[i]?=some b->isDig b=true->(dX l)[i]?=some b
 |[],i,b,_,h,_=>by simp at h
 |a::l,0,b,_,h,hb=>by
  have e:a=b:=by simpa using h
  subst e
  unfold dX
  rw[List.takeWhile_cons,if_pos hb]
  rfl
 |a::l,i+1,b,hi,h,hb=>by
  unfold dX at hi ⊢
  rw[List.takeWhile_cons] at hi ⊢
  by_cases ha:isDig a=true
  ·rw[if_pos ha] at hi ⊢
   exact zK (l:=l) (i:=i) (by simpa[dX] using hi) (by simpa using h) hb
  ·rw[if_neg ha] at hi
   simp at hi
theorem sG:∀{l:List Int} {i:Nat},i<=(dX l).length->(∀b,l[i]?=some b->isDig b=false)->(dX l).length=i
 |[],i,hi,_=>by
  simp[dX] at hi ⊢
  exact hi.symm
 |a::l,0,_,h=>by
  have ha:=h a rfl
  unfold dX
  rw[List.takeWhile_cons,if_neg (by rw[ha];exact Bool.false_ne_true)]
  rfl
 |a::l,i+1,hi,h=>by
  unfold dX at hi ⊢
  rw[List.takeWhile_cons] at hi ⊢
  by_cases ha:isDig a=true
  ·rw[if_pos ha] at hi ⊢
   have:=sG (l:=l) (i:=i) (by simpa[dX] using hi) (λb hb=>h b (by simpa using hb))
   simpa[dX] using this
  ·rw[if_neg ha] at hi
   simp at hi
theorem zL(l:List Int):(dX l).length<=l.length:=by
 unfold dX
 exact(List.takeWhile_prefix _).length_le
def iJ(lo hi:Int)(d:List Int):Prop:=d=[]∨jT d<lo∨hi<jT d∨(1<d.length/\d.head?=some 48)
structure TxN(mg:Str->Option Value):Prop where
 fd:∃t,mg "FIRST_DIGIT"=some (.int 48 t)
 ld:∃t,mg "LAST_DIGIT"=some (.int 57 t)
 tg:∃t,mg "TOO_GREAT"=some (.int 10000 t)
 fl:∃t,mg "FIRST_LETTER"=some (.int 97 t)
 ll:∃t,mg "LAST_LETTER"=some (.int 122 t)
 lt:∃t,mg "LETTERS"=some (.str "abcdefghijklmnopqrstuvwxyz" t)
section
variable {CF fF CR:Addr}
def wX(K:PySem.W.Frag)(CR:Addr):Sp:=λvs H Q E=>∃(r tx:Addr) (bs:List Int) (p:Nat) (lo hi:Int),vs=[.ref r,.int lo,.int hi]/\du K CR H r tx bs p /\
 (¬iJ lo hi (dX (bs.drop p))->∀H',du K CR H' r tx bs (p+(dX (bs.drop p)).length)->But r H H'->Q (.int (jT (dX (bs.drop p)))) H') /\
 (iJ lo hi (dX (bs.drop p))->∀H',But r H H'->xk E (p:Int) H')
theorem scN:aJ ["self","least","most","start","value","digits"] ["self","least","most"] (aA gW):=sc0
theorem Cy{f fB:Addr}{fd fdB fdF:FuncData}(F:Fun K "read_number" "Reader.read_number" gW f fd)(T:TxR K mg CF fF CR)(TN:TxN mg)(bF:Binds K fdF ["self","place"] [])(GF:aF P w K mg base CX0 1 fF fdF ["self","place"] (iU CF "place"))(MB:FM K CR "byte_here" "Reader.byte_here" qD ["self"] fB fdB)(GB:aF P w K mg base CX0 2 fB fdB ["self"] (qO K CR)) :
  aF P w K mg base (CXF P w CF "place") 3 f fd ["self","least","most"] (wX K CR):=by
 refine F.okX scN (λvs H Q E h=>?_) (λcdv A outer s H vs Q E hr h=>?_)
 ·obtain⟨r,tx,bs,p,lo,hi,rfl,_⟩:=h
  rfl
 ·obtain⟨r,tx,bs,p,lo,hi,rfl,R,k1,k2⟩:=h
  obtain⟨t1,m1⟩:=TN.fd
  obtain⟨t2,m2⟩:=TN.ld
  obtain⟨t3,m3⟩:=TN.tg
  obtain⟨dx,h1⟩:=R.obj
  generalize hd:dX (bs.drop p)=d at k1 k2
  refine⟨_,aq (aP (i:=3) scN.nd rfl (Or.inl rfl) (aB (pv 0) rfl))
   (aq (aP (i:=4) scN.nd rfl (Or.inl rfl) aC)
   (aq (eX (Dc lW) (qw lz lz (aD (v:=.int 48) rfl m1 ⟨t1,rfl⟩) (cO (pv 0) T.cl MB.mt GB hr MB.bd .nil aX) (aD (v:=.int 57) rfl m2 ⟨t2,rfl⟩))
    (aq (aP (i:=4) scN.nd rfl (Or.inl rfl) (bJ (jB rfl) (by rfl) T.min dk (ak (bc dW (bc cV (bc fY aC (pv 4)) (cO (pv 0) T.cl MB.mt GB hr MB.bd .nil aX)) (aD (v:=.int 48) rfl m1 ⟨t1,rfl⟩)) (ak (aD (v:=.int 10000) rfl m3 ⟨t3,rfl⟩) au))))
    (az (mq (pv 0) aC xV))))
   (aq (aP (i:=5) scN.nd rfl (Or.inl rfl) (bc dW (aB (pv 0) rfl) (pv 3)))
   (aq (cA (PW.pt (wJ (bG gJ (pv 5) aC (bQ _)) (qx (jw (qw lz lz (pv 1) (pv 4) (pv 2)))))) (az (gq T.xk GF hr rfl T.mF bF (pv 3))) aZ)
   (aq (cA (PW.pt (j0 (bG nO (pv 5) aC (bQ _)) (iQ (bG gJ (cz dg (aB (pv 0) rfl) (pv 3) (λ_ _=>rfl)) (aD (v:=.int 48) rfl m1 ⟨t1,rfl⟩) (bQ _))))) (az (gq T.xk GF hr rfl T.mF bF (pv 3))) aZ)
   (az (aO (pv 4)))))))),?_⟩
  refine⟨_,rfl,r,CR,dx,_,_,rfl,h1,T.cl,T.nP,dY _ _,?_⟩
  refine⟨λm σ H'=>∃q,m=d.length-q/\q<=d.length/\σ=[some (.ref r),some (.int lo),some (.int hi),some (.int p),some (.int (jT (d.take q))),none]/\du K CR H' r tx bs (p+q)/\But r H H',⟨_,0,rfl,Nat.zero_le _,rfl,R,But.refl _ _⟩,?_⟩
  rintro m σ H' ⟨q,rfl,hq,rfl,R',bt⟩
  obtain⟨dx',h1'⟩:=R'.obj
  refine⟨_,rfl,r,dx',_,rfl,h1',cX _ _ dk dk,r,tx,bs,p+q,rfl,R',_,_,rfl,rfl,_,rfl,?_⟩
  have hqd:q<=(dX (bs.drop p)).length:=by rw[hd];exact hq
  by_cases hx:isDig (byteAt bs (p+q))=true
  ·-- one more digit
   have hx':=hx
   unfold isDig at hx'
   rw[Bool.and_eq_true,decide_eq_true_eq,decide_eq_true_eq] at hx'
   have hlt:p+q<bs.length:=eN R'.le (by omega)
   have hat:(bs.drop p)[q]?=some (byteAt bs (p+q)):=by
    rw[List.getElem?_drop]
    exact gk hlt
   have hdq:=zK hqd hat hx
   rw[hd] at hdq
   have hql:q<d.length:=(List.getElem?_eq_some_iff.mp hdq).1
   refine aM (decide_eq_true hx'.1) ⟨_,_,rfl,rfl,_,rfl,aM (decide_eq_true hx'.2) ?_⟩
   refine⟨λσ' H2=>σ'=[some (.ref r),some (.int lo),some (.int hi),some (.int p),some (.int (vM (jT (d.take q)) (byteAt bs (p+q)))),none]/\du K CR H2 r tx bs (p+(q+1))/\But r H H2,?_,?_⟩
   ·rintro σ' H2 ⟨rfl,R2,b2⟩
    refine⟨d.length-(q+1),by omega,q+1,rfl,hql,?_,R2,b2⟩
    rw[qW hdq,Bw]
   ·refine⟨_,rfl,_,_,rfl,rfl,.inl ⟨by decide,by decide⟩,_,rfl,r,dx',_,rfl,h1',cX _ _ dk dk,r,tx,bs,p+q,rfl,R',_,_,rfl,rfl,_,_,rfl,rfl,_,_,rfl,?_⟩
    refine⟨_,rfl,r,CR,dx',_,_,rfl,h1',T.cl,T.nP,dY _ _,_,_,rfl,rfl,dx',_,h1',(by show 2<1000;decide),rfl,?_,bt.trans (But.upd _ _ _)⟩
    refine R'.moved (But.upd _ _ _) ⟨dx',?_⟩ (by omega)
    rw[aj,yN]
    all_goals rfl
  ·-- behind the digits
   have hx0:isDig (byteAt bs (p+q))=false:=by simpa using hx
   have hlen:d.length=q:=by
    rw[←hd]
    refine sG hqd λb hb=>?_
    have hb':(bs.drop p).getD q (-1)=b:=by
     rw[List.getD_eq_getElem?_getD,hb]
     rfl
    rw[gP] at hb'
    rw[←hb']
    exact hx0
   have htk:d.take q=d:=by rw[←hlen,List.take_length]
   rw[htk]
   have h57:48<=byteAt bs (p+q)->¬decide (byteAt bs (p+q)<=57)=true:=λh48 z=>by
    unfold isDig at hx0
    rw[decide_eq_true h48,z] at hx0
    cases hx0
   have ep:((p+q:Nat):Int)-(p:Int)=(d.length:Int):=by omega
   refine(Decidable.em (48<=byteAt bs (p+q))).elim (λh48=>aM (decide_eq_true h48) ⟨_,_,rfl,rfl,_,rfl,aV (h57 h48) ?_⟩) (λh48=>aV (by rw[decide_eq_false h48];exact Bool.false_ne_true) ⟨_,rfl,aV Bool.false_ne_true ?_⟩)
   all_goals
    refine⟨_,rfl,r,CR,dx',_,_,rfl,h1',T.cl,T.nP,dY _ _,_,rfl,_,_,rfl,rfl,?_⟩
    refine⟨_,rfl,rfl,_,rfl,?_⟩
    by_cases d0:d=[]
    ·refine aM (decide_eq_true (by show V.int (((p+q:Nat):Int)-(p:Int))=V.int 0;rw[ep,d0];rfl)) (aM rfl ⟨_,rfl,_,rfl,k2 (.inl d0) H' bt⟩)
    ·have dl:d.length≠0:=λz=>d0 (List.eq_nil_of_length_eq_zero z)
     refine aV (λz=>by have z:V.int (((p+q:Nat):Int)-(p:Int))=V.int 0:=of_decide_eq_true z;injection z with z;omega) ⟨_,rfl,_,rfl,_,_,rfl,rfl,_,rfl,?_⟩
     by_cases hlo:lo<=jT d
     ·refine aM (decide_eq_true hlo) ⟨_,rfl,_,_,rfl,rfl,_,rfl,?_⟩
      by_cases hhi:jT d<=hi
      ·refine aV (by rw[decide_eq_true hhi];exact Bool.false_ne_true) ?_
       refine⟨_,rfl,_,_,rfl,rfl,_,rfl,?_⟩
       by_cases d1:1<d.length
       ·have hpl:p<bs.length:=by have:=R'.le;omega
        have hp0:(bs.drop p)[0]?=some (byteAt bs p):=by
         rw[List.getElem?_drop]
         exact gk hpl
        refine aM (decide_eq_true (by show(1:Int)<((p+q:Nat):Int)-(p:Int);omega)) ⟨_,rfl,r,CR,dx',_,_,rfl,h1',T.cl,T.nT,uU _ _,_,rfl,tx,_,_,_,rfl,rfl,R'.txt,bw (j:=p) (v:=.int (byteAt bs p)) (by rw[List.getElem?_map,gk hpl];rfl),rfl,_,rfl,?_⟩
        have hh:d.head?=some (byteAt bs p):=by
         rw[←hd]
         unfold dX
         rw[List.head?_takeWhile]
         have e0:(bs.drop p).head?=some (byteAt bs p):=by rw[List.head?_eq_getElem?];exact hp0
         rw[e0]
         have:isDig (byteAt bs p)=true:=by
          cases hz:isDig (byteAt bs p) with
          |true=>rfl
          |false =>
           exfalso
           apply d0
           rw[←hd]
           unfold dX
           cases hb:bs.drop p with
           |nil=>rfl
           |cons a l =>
            rw[hb] at e0
            have e0:a=byteAt bs p:=by simpa using e0
            rw[List.takeWhile_cons,e0,hz]
            rfl
         simp[Option.filter,this]
        by_cases h0:byteAt bs p=48
        ·exact aM (by rw[h0];rfl) ⟨_,rfl,_,rfl,k2 (.inr (.inr (.inr ⟨d1,by rw[hh,h0]⟩))) H' bt⟩
        ·refine aV (by intro z;have z:=of_decide_eq_true z;injection z with z;exact h0 z) ⟨_,rfl,?_⟩
         refine k1 (λz=>?_) H' (by rw[hlen];exact R') bt
         rcases z with z|z|z|⟨_,z⟩
         ·exact d0 z
         ·omega
         ·omega
         ·rw[hh] at z
          exact h0 (Option.some.inj z)
       ·refine aV (λz=>by have z:(1:Int)<((p+q:Nat):Int)-(p:Int):=of_decide_eq_true z;omega) (aV Bool.false_ne_true ⟨_,rfl,?_⟩)
        refine k1 (λz=>?_) H' (by rw[hlen];exact R') bt
        rcases z with z|z|z|⟨z,_⟩
        ·exact d0 z
        ·omega
        ·omega
        ·exact d1 z
      ·exact aM (by rw[decide_eq_false hhi];rfl) ⟨_,rfl,_,rfl,k2 (.inr (.inr (.inl (by omega)))) H' bt⟩
     ·exact aV (by rw[decide_eq_false hlo];exact Bool.false_ne_true) ⟨_,rfl,aM rfl ⟨_,rfl,_,rfl,k2 (.inr (.inl (by omega))) H' bt⟩⟩
end
theorem tw_at{f:Int->Bool}:∀{l:List Int} {i:Nat} {b:Int},i<=(l.takeWhile f).length->l[i]?=some b->f b=true->(l.takeWhile f)[i]?=some b
 |[],i,b,_,h,_=>by simp at h
 |a::l,0,b,_,h,hb=>by
  have e:a=b:=by simpa using h
  subst e
  rw[List.takeWhile_cons,if_pos hb]
  rfl
 |a::l,i+1,b,hi,h,hb=>by
  rw[List.takeWhile_cons] at hi ⊢
  by_cases ha:f a=true
  ·rw[if_pos ha] at hi ⊢
   exact tw_at (l:=l) (i:=i) (by simpa using hi) (by simpa using h) hb
  ·rw[if_neg ha] at hi
   simp at hi
theorem Br{f:Int->Bool}:∀{l:List Int} {i:Nat},i<=(l.takeWhile f).length->(∀b,l[i]?=some b->f b=false)->(l.takeWhile f).length=i
 |[],i,hi,_=>by
  simp at hi ⊢
  exact hi.symm
 |a::l,0,_,h=>by
  rw[List.takeWhile_cons,if_neg (by rw[h a rfl];exact Bool.false_ne_true)]
  rfl
 |a::l,i+1,hi,h=>by
  rw[List.takeWhile_cons] at hi ⊢
  by_cases ha:f a=true
  ·rw[if_pos ha] at hi ⊢
   have:=Br (l:=l) (i:=i) (by simpa using hi) (λb hb=>h b (by simpa using hb))
   simpa using this
  ·rw[if_neg ha] at hi
   simp at hi
noncomputable def kW(b:Int):Bool:=decide (97<=b)&&decide (b<=122)
noncomputable def lets(l:List Int):List Int:=l.takeWhile kW
noncomputable def sgn(b:Int):Str:=⟨#[b.toNat]⟩
theorem abc_at:∀n,n<26->(Str.ofString "abcdefghijklmnopqrstuvwxyz").cps.toList[n]?=some (97+n):=dk
theorem Ig:(Str.ofString "abcdefghijklmnopqrstuvwxyz").length<=sizeLine:=dk
theorem abc{b:Int}(h1:97<=b)(h2:b<=122):atI (Str.ofString "abcdefghijklmnopqrstuvwxyz").cps.toList (b-97)=some b.toNat:=by
 have e:b-97=((b-97).toNat:Int):=by omega
 rw[e]
 refine bw ?_
 rw[abc_at _ (by omega)]
 congr 1
 omega
theorem sY:∀l:List Int,TL.vY [] ((l.map sgn).map TL.tl)=l.map Int.toNat
 |[]=>rfl
 |[a]=>rfl
 |a::b::l=>by
  show TL.tl (sgn a)++([]++TL.vY [] (((b::l).map sgn).map TL.tl))=_
  rw[sY (b::l)]
  rfl
theorem Fj(l:List Int):Txt.join (Str.ofString "") (l.map sgn)=⟨(l.map Int.toNat).toArray⟩:=by
 rw[TL.IW]
 refine TL.ext_tl ?_
 rw[TL.Bo]
 have e:TL.tl (Str.ofString "")=[]:=dk
 rw[e,sY]
theorem Bm:∀l:List Int,((l.map sgn).map (·.length)).sum=l.length
 |[]=>rfl
 |a::l=>by
  have:=Bm l
  simp only[List.map_cons,List.sum_cons,List.length_cons] at this ⊢
  rw[this]
  show 1+l.length=l.length+1
  omega
section
variable {CF fF CR:Addr}
def ug(K:PySem.W.Frag)(CR:Addr):Sp:=λvs H Q E=>∃(r tx:Addr) (bs:List Int) (p:Nat),vs=[.ref r]/\du K CR H r tx bs p /\
 ∀H',du K CR H' r tx bs (p+(lets (bs.drop p)).length)->But r H H'->Q (.str ⟨((lets (bs.drop p)).map Int.toNat).toArray⟩) H'
theorem scL:aJ ["self","letters"] ["self"] (aA lH):=sc0
theorem yE{f fB:Addr}{fd fdB:FuncData}(F:Fun K "read_letters" "Reader.read_letters" lH f fd)(T:TxR K mg CF fF CR)(TN:TxN mg)(MB:FM K CR "byte_here" "Reader.byte_here" qD ["self"] fB fdB)(GB:aF P w K mg base CX0 2 fB fdB ["self"] (qO K CR)) :
  aF P w K mg base CX0 3 f fd ["self"] (ug K CR):=by
 refine F.ok scL (λvs H Q E h=>?_) (λcdv A outer s H vs Q E hr h=>?_)
 ·obtain⟨r,tx,bs,p,rfl,_⟩:=h
  rfl
 ·obtain⟨r,tx,bs,p,rfl,R,k1⟩:=h
  obtain⟨t1,m1⟩:=TN.fl
  obtain⟨t2,m2⟩:=TN.ll
  obtain⟨t3,m3⟩:=TN.lt
  generalize hd:lets (bs.drop p)=d at k1
  refine⟨_,aq (aP (i:=1) scL.nd rfl (Or.inl rfl) (cD au))
   (aq (eX PassesOwn.never (qw lz lz (aD (v:=.int 97) rfl m1 ⟨t1,rfl⟩) (cO (pv 0) T.cl MB.mt GB hr MB.bd .nil aX) (aD (v:=.int 122) rfl m2 ⟨t2,rfl⟩))
    (aq (bh (f9 PySem.F.plainAttrs_list PySem.F.slot_list_append PySem.F.type_list_append gn (pv 1) (ak (cz ix_str (aD (v:=.str "abcdefghijklmnopqrstuvwxyz") rfl m3 ⟨t3,rfl⟩) (bc dW (cO (pv 0) T.cl MB.mt GB hr MB.bd .nil aX) (aD (v:=.int 97) rfl m1 ⟨t1,rfl⟩)) (λ_ _=>rfl)) au)))
    (az (mq (pv 0) aC xV))))
   (az (aO (Jv lY (pv 1))))),?_⟩
  refine⟨Nat.zero_le _,λla hla=>?_⟩
  obtain⟨dx,h1⟩:=R.obj
  have hne:r≠la:=aa h1 hla
  have b0:But r H (upd H la (.lst [])):=λb o z n=>by rw[ao (aa z hla)];exact z
  refine⟨λm σ H'=>∃q,m=d.length-q/\q<=d.length/\σ=[some (.ref r),some (.ref la)]/\du K CR H' r tx bs (p+q)/\But r H H'/\H' la=some (.lst (((d.take q).map sgn).map V.str)),⟨_,0,rfl,Nat.zero_le _,rfl,R.moved b0 ⟨dx,by rw[ao hne];exact h1⟩ R.le,b0,aj⟩,?_⟩
  rintro m σ H' ⟨q,rfl,hq,rfl,R',bt,hl'⟩
  obtain⟨dx',h1'⟩:=R'.obj
  have hql0:d.length<=bs.length:=by
   rw[←hd]
   refine Nat.le_trans (List.takeWhile_prefix _).length_le ?_
   rw[List.length_drop]
   omega
  refine⟨_,rfl,r,dx',_,rfl,h1',cX _ _ dk dk,r,tx,bs,p+q,rfl,R',_,_,rfl,rfl,_,rfl,?_⟩
  have hqd:q<=(lets (bs.drop p)).length:=by rw[hd];exact hq
  by_cases hx:kW (byteAt bs (p+q))=true
  ·have hx':=hx
   unfold kW at hx'
   rw[Bool.and_eq_true,decide_eq_true_eq,decide_eq_true_eq] at hx'
   have hlt:p+q<bs.length:=eN R'.le (by omega)
   have hdq:(lets (bs.drop p))[q]?=some (byteAt bs (p+q)):=tw_at hqd (by rw[List.getElem?_drop];exact gk hlt) hx
   rw[hd] at hdq
   have hql:q<d.length:=(List.getElem?_eq_some_iff.mp hdq).1
   have hfit:=R.fit
   refine aM (decide_eq_true hx'.1) ⟨_,_,rfl,rfl,_,rfl,aM (decide_eq_true hx'.2) ?_⟩
   refine⟨λσ' H2=>σ'=[some (.ref r),some (.ref la)]/\du K CR H2 r tx bs (p+(q+1))/\But r H H2/\H2 la=some (.lst (((d.take (q+1)).map sgn).map V.str)),?_,?_⟩
   ·rintro σ' H2 ⟨rfl,R2,b2,l2⟩
    exact⟨d.length-(q+1),by omega,q+1,rfl,hql,rfl,R2,b2,l2⟩
   ·refine⟨_,rfl,.inl ⟨rfl,_,SqL.of hl'⟩,_,rfl,r,dx',_,rfl,h1',cX _ _ dk dk,r,tx,bs,p+q,rfl,R',_,_,rfl,rfl,_,_,_,rfl,rfl,Ig,abc hx'.1 hx'.2,la,_,_,rfl,rfl,hl',?_,?_⟩
    ·rw[List.length_map,List.length_map,List.length_take,sizeLine_eq]
     omega
    ·have h1'':upd H' la (.lst (((d.take q).map sgn).map V.str++[.str ⟨#[(byteAt bs (p+q)).toNat]⟩])) r=some (.ins CR dx' (rf tx ((p+q:Nat):Int))):=by
      rw[ao hne]
      exact h1'
     have bb:∀o,But r H (upd (upd H' la (.lst (((d.take q).map sgn).map V.str++[.str ⟨#[(byteAt bs (p+q)).toNat]⟩]))) r o):=λo b u z n=>by
      rw[ao n,ao (aa z hla)]
      exact bt b u z n
     refine⟨_,rfl,r,CR,dx',_,_,rfl,h1'',T.cl,T.nP,dY _ _,_,_,rfl,rfl,dx',_,h1'',(by show 2<1000;decide),rfl,?_,bb _,?_⟩
     ·refine R.moved (bb _) ⟨dx',?_⟩ (by omega)
      rw[aj,yN]
      all_goals rfl
     ·rw[ao (Ne.symm hne),aj,qW hdq,List.map_append,List.map_append]
      rfl
  ·have hx0:kW (byteAt bs (p+q))=false:=by simpa using hx
   have hlen:d.length=q:=by
    rw[←hd]
    refine Br hqd λb hb=>?_
    have hb':(bs.drop p).getD q (-1)=b:=by
     rw[List.getD_eq_getElem?_getD,hb]
     rfl
    rw[gP] at hb'
    rw[←hb']
    exact hx0
   have htk:d.take q=d:=by rw[←hlen,List.take_length]
   rw[htk] at hl'
   have h57:97<=byteAt bs (p+q)->¬decide (byteAt bs (p+q)<=122)=true:=λh48 z=>by
    unfold kW at hx0
    rw[decide_eq_true h48,z] at hx0
    cases hx0
   refine(Decidable.em (97<=byteAt bs (p+q))).elim (λh48=>aM (decide_eq_true h48) ⟨_,_,rfl,rfl,_,rfl,aV (h57 h48) ?_⟩) (λh48=>aV (by rw[decide_eq_false h48];exact Bool.false_ne_true) ⟨_,rfl,aV Bool.false_ne_true ?_⟩)
   all_goals
    refine⟨⟨_,rfl⟩,_,rfl,_,la,d.map sgn,rfl,rfl,.inl (SqL.of hl'),?_,?_⟩
    ·rw[Bm,List.length_map]
     have:=R.fit
     show d.length+d.length*0<=16777216
     omega
    ·show Q (.str (Txt.join (Str.ofString "") (d.map sgn))) H'
     rw[Fj]
     exact k1 H' (by rw[hlen];exact R') bt
end
abbrev RR(α:Type):=Except Nat (α×Nat)
noncomputable def aG(c:Int)(bs:List Int)(p:Nat):RR Unit:=if byteAt bs p=c then .ok ((),p+1) else .error p
noncomputable def fZ(cs:List Nat)(bs:List Int)(p:Nat):RR Unit:=if dq cs (bs.drop p)=cs.length then .ok ((),p+cs.length) else .error (p+dq cs (bs.drop p))
noncomputable instance (lo hi:Int) (d:List Int):Decidable (iJ lo hi d):=by unfold iJ;infer_instance
noncomputable def dD(lo hi:Int)(bs:List Int)(p:Nat):RR Int:=if iJ lo hi (dX (bs.drop p)) then .error p else .ok (jT (dX (bs.drop p)),p+(dX (bs.drop p)).length)
section
variable {CF fF CR:Addr}
def Out{α:Type}(K:PySem.W.Frag)(CR:Addr)(H:Hp)(r tx:Addr)(bs:List Int)(Y:α->Hp->(V->Prop)->Prop)(Q:VK)(E:XK):RR α->Prop
 |.ok (x,q)=>∀H',du K CR H' r tx bs q->But r H H'->Y x H' λv=>Q v H'
 |.error k=>∀H',But r H H'->xk E (k:Int) H'
@[elab_as_elim] theorem rr_go{α:Type}{P:RR α->Prop}(m:RR α)(h1:∀k,P (.error k))(h2:∀x q,P (.ok (x,q))):P m:=match m with
 |.error k=>h1 k
 |.ok (x,q)=>h2 x q
def yNon:Unit->Hp->(V->Prop)->Prop:=λ_ _ k=>k .non
def J1:Int->Hp->(V->Prop)->Prop:=λi _ k=>k (.int i)
def gR(K:PySem.W.Frag)(CR:Addr):Sp:=λvs H Q E=>∃(r tx:Addr) (bs:List Int) (p:Nat) (c:Int),vs=[.ref r,.int c]/\du K CR H r tx bs p/\0<=c/\Out K CR H r tx bs yNon Q E (aG c bs p)
theorem Dr{k:Nat}{f:Addr}{fd:FuncData}{CX:CXT}(G:aF P w K mg base CX k f fd ["self","byte"] (qP K CR)):aF P w K mg base CX k f fd ["self","byte"] (gR K CR):=by
 refine G.imp λvs H Q E h=>?_
 obtain⟨r,tx,bs,p,c,rfl,R,hc,o⟩:=h
 refine⟨r,tx,bs,p,c,rfl,R,hc,λe=>?_,λe=>?_⟩
 ·unfold aG at o
  rw[if_pos e] at o
  exact o
 ·unfold aG at o
  rw[if_neg e] at o
  exact o H (But.refl _ _)
def Ab(K:PySem.W.Frag)(CR:Addr):Sp:=λvs H Q E=>∃(r tx:Addr) (bs:List Int) (p:Nat) (wd:Str),vs=[.ref r,.str wd]/\du K CR H r tx bs p/\Out K CR H r tx bs yNon Q E (fZ wd.cps.toList bs p)
theorem J0{k:Nat}{f:Addr}{fd:FuncData}{CX:CXT}(G:aF P w K mg base CX k f fd ["self","word"] (HQ K CR)):aF P w K mg base CX k f fd ["self","word"] (Ab K CR):=by
 refine G.imp λvs H Q E h=>?_
 obtain⟨r,tx,bs,p,wd,rfl,R,o⟩:=h
 unfold fZ at o
 rw[Array.length_toList] at o
 refine⟨r,tx,bs,p,wd,rfl,R,λe=>?_,λe=>?_⟩
 ·rw[if_pos e] at o
  exact o
 ·rw[if_neg e] at o
  exact o
def Cm(K:PySem.W.Frag)(CR:Addr):Sp:=λvs H Q E=>∃(r tx:Addr) (bs:List Int) (p:Nat) (lo hi:Int),vs=[.ref r,.int lo,.int hi]/\du K CR H r tx bs p/\Out K CR H r tx bs J1 Q E (dD lo hi bs p)
theorem to_num{k:Nat}{f:Addr}{fd:FuncData}{CX:CXT}(G:aF P w K mg base CX k f fd ["self","least","most"] (wX K CR)):aF P w K mg base CX k f fd ["self","least","most"] (Cm K CR):=by
 refine G.imp λvs H Q E h=>?_
 obtain⟨r,tx,bs,p,lo,hi,rfl,R,o⟩:=h
 unfold dD at o
 refine⟨r,tx,bs,p,lo,hi,rfl,R,λe=>?_,λe=>?_⟩
 ·rw[if_neg e] at o
  exact o
 ·rw[if_pos e] at o
  exact o
noncomputable abbrev uY:Stmt:=top 81
noncomputable def di(w:Int)(bs:List Int):Nat->Int->Nat->RR (List Int)
 |0,_,p=>.error p
 |n+1,least,p=>if byteAt bs p=32 then (match dD least (w-1) bs (p+1) with
   |.error k=>.error k
   |.ok (t,q)=>match di w bs n (t+1) q with
    |.error k=>.error k
    |.ok (ts,z)=>.ok (t::ts,z)) else .ok ([],p)
structure TxS(mg:Str->Option Value):Prop where
 bl:∃t,mg "BLANK"=some (.int 32 t)
 le:∃t,mg "LINE_END"=some (.int 10 t)
 tuple:mg "tuple"=none
theorem cP{lo hi:Int}{bs:List Int}{p q:Nat}{t:Int}(hp:p<=bs.length)(h:dD lo hi bs p=.ok (t,q)):p<q/\q<=bs.length/\lo<=t/\t<=hi:=by
 unfold dD at h
 split at h
 ·cases h
 ·rename_i nb
  cases h
  have hl:=zL (bs.drop p)
  rw[List.length_drop] at hl
  have hne:dX (bs.drop p)≠[]:=λz=>nb (.inl z)
  have hpos:0<(dX (bs.drop p)).length:=List.length_pos_iff.mpr hne
  have h1:¬jT (dX (bs.drop p))<lo:=λz=>nb (.inr (.inl z))
  have h2:¬hi<jT (dX (bs.drop p)):=λz=>nb (.inr (.inr (.inl z)))
  omega
def FT(K:PySem.W.Frag)(CR:Addr):Sp:=λvs H Q E=>∃(r tx:Addr) (bs:List Int) (p:Nat) (wd:Int),vs=[.ref r,.int wd]/\du K CR H r tx bs p /\
 Out K CR H r tx bs (λts H' k=>∀a,H a=none->H' a=some (.tup (ts.map V.int))->k (.ref a)) Q E (di wd bs (bs.length+1) 0 p)
theorem scH:aJ ["reader","width","holes","least","track"] ["reader","width"] (aA uY):=sc0
theorem Gk{f fB fX fN:Addr}{fd fdB fdX fdN:FuncData}(F:Fun K "read_holes" "read_holes" uY f fd)(T:TxR K mg CF fF CR)(TS:TxS mg)(MB:FM K CR "byte_here" "Reader.byte_here" qD ["self"] fB fdB)(GB:aF P w K mg base CX0 2 fB fdB ["self"] (qO K CR))(MX:FM K CR "expect" "Reader.expect" fj ["self","byte"] fX fdX)(GX:aF P w K mg base (CXF P w CF "place") 3 fX fdX ["self","byte"] (gR K CR))(MN:FM K CR "read_number" "Reader.read_number" gW ["self","least","most"] fN fdN)(GN:aF P w K mg base (CXF P w CF "place") 3 fN fdN ["self","least","most"] (Cm K CR)) :
  aF P w K mg base (CXF P w CF "place") 4 f fd ["reader","width"] (FT K CR):=by
 refine F.okX scH (λvs H Q E h=>?_) (λcdv A outer s H vs Q E hr h=>?_)
 ·obtain⟨r,tx,bs,p,wd,rfl,_⟩:=h
  rfl
 ·obtain⟨r,tx,bs,p,wd,rfl,R,out⟩:=h
  obtain⟨t1,m1⟩:=TS.bl
  refine⟨_,aq (aP (i:=2) scH.nd rfl (Or.inl rfl) (cD au))
   (aq (aP (i:=3) scH.nd rfl (Or.inl rfl) aC)
   (aq (eX (Dc lW) (bG gJ (cO (pv 0) T.cl MB.mt GB (hr.mono (by decide)) MB.bd .nil aX) (aD (v:=.int 32) rfl m1 ⟨t1,rfl⟩) (bQ _))
    (aq (bh (aQ (pv 0) T.cl MX.mt GX hr MX.bd .nil cT (ak (aD (v:=.int 32) rfl m1 ⟨t1,rfl⟩) au)))
    (aq (aP (i:=4) scH.nd rfl (Or.inl rfl) (aQ (pv 0) T.cl MN.mt GN hr MN.bd .nil cT (ak (pv 3) (ak (bc dW (pv 1) aC) au))))
    (aq (bh (f9 PySem.F.plainAttrs_list PySem.F.slot_list_append PySem.F.type_list_append gn (pv 2) (ak (pv 4) au)))
    (az (aP (i:=3) scH.nd rfl (Or.inl rfl) (bc cV (pv 4) aC)))))))
   (az (aO (lX jO rfl TS.tuple dk (ak (pv 2) au)))))),?_⟩
  refine⟨Nat.zero_le _,λla hla=>?_⟩
  obtain⟨dx,h1⟩:=R.obj
  have hne:r≠la:=aa h1 hla
  have b0:But r H (upd H la (.lst [])):=λb o z n=>by rw[ao (aa z hla)];exact z
  generalize hM:di wd bs (bs.length+1) 0 p=M at out
  obtain⟨W,hW⟩:∃W:Nat->L2.St->Hp->Prop,W=λm σ H'=>∃(n:Nat) (pre:List Int) (least:Int) (q:Nat) (v:Option V),m=bs.length-q/\bs.length-q<n/\pre.length<=q/\σ=[some (.ref r),some (.int wd),some (.ref la),some (.int least),v]/\du K CR H' r tx bs q/\But r H H'/\H' la=some (.lst (pre.map V.int)) /\
   M=(match di wd bs n least q with|.error k=>.error k|.ok (ts,z)=>.ok (pre++ts,z)):=⟨_,rfl⟩
  refine⟨W,⟨bs.length-p,?_⟩,?_⟩
  ·rw[hW]
   refine⟨bs.length+1,[],0,p,none,rfl,by omega,Nat.zero_le _,rfl,R.moved b0 ⟨dx,by rw[ao hne];exact h1⟩ R.le,b0,aj,?_⟩
   rw[←hM]
   cases di wd bs (bs.length+1) 0 p with
   |error k=>rfl
   |ok x=>rfl
  ·intro m σ H' hw
   rw[hW] at hw
   obtain⟨n,pre,least,q,v,rfl,hn,hpl,rfl,R',bt,hl',eq⟩:=hw
   obtain⟨dx',h1'⟩:=R'.obj
   refine⟨_,rfl,r,dx',_,rfl,h1',cX _ _ dk dk,r,tx,bs,q,rfl,R',rfl,_,rfl,?_⟩
   obtain⟨n,rfl⟩:∃n',n=n'+1:=⟨n-1,by omega⟩
   unfold di at eq
   by_cases hx:byteAt bs q=32
   ·rw[if_pos hx] at eq
    refine aM (by rw[hx];rfl) ⟨λσ' H3=>∃m',m'<bs.length-q/\W m' σ' H3,λ_ _ z=>z,?_⟩
    have hqlt:q<bs.length:=eN R'.le (by omega)
    refine⟨_,rfl,r,dx',_,rfl,h1',cX _ _ dk dk,r,tx,bs,q,32,rfl,R',by decide,?_⟩
    rw[show aG 32 bs q=.ok ((),q+1) by unfold aG;rw[if_pos hx]]
    intro H1 R1 b1
    obtain⟨dx1,h11⟩:=R1.obj
    refine⟨_,rfl,r,dx1,_,rfl,h11,cX _ _ dk dk,_,rfl,_,rfl,_,_,rfl,rfl,r,tx,bs,q+1,least,wd-1,rfl,R1,?_⟩
    cases hnum:dD least (wd-1) bs (q+1) with
    |error k =>
     rw[hnum] at eq
     rw[eq] at out
     exact λH2 b2=>out H2 (bt.trans (b1.trans b2))
    |ok x =>
     obtain⟨t,q2⟩:=x
     rw[hnum] at eq
     dsimp only at eq
     intro H2 R2 b2
     have hq2:=cP (by omega) hnum
     have l2:H2 la=some (.lst (pre.map V.int)):=b2 _ _ (b1 _ _ hl' (Ne.symm hne)) (Ne.symm hne)
     refine⟨_,rfl,.inl ⟨rfl,_,SqL.of l2⟩,_,rfl,la,_,_,rfl,rfl,l2,?_,?_⟩
     ·rw[List.length_map,sizeLine_eq]
      have:=R.fit
      omega
     ·refine⟨_,rfl,_,_,rfl,rfl,bs.length-q2,by omega,?_⟩
      rw[hW]
      have bb:But r H (upd H2 la (.lst (pre.map V.int++[.int t]))):=λb o z n'=>by
       rw[ao (aa z hla)]
       exact b2 _ _ (b1 _ _ (bt _ _ z n') n') n'
      obtain⟨dx2,h12⟩:=R2.obj
      refine⟨n,pre++[t],t+1,q2,_,rfl,by omega,?_,rfl,R.moved bb ⟨dx2,by rw[ao hne];exact h12⟩ R2.le,bb,?_,?_⟩
      ·rw[List.length_append]
       show pre.length+1<=q2
       omega
      ·rw[aj,List.map_append]
       rfl
      ·rw[eq]
       cases hh:di wd bs n (t+1) q2 with
       |error k=>rfl
       |ok x=>simp
   ·rw[if_neg hx] at eq
    refine aV (by intro z;have z:=of_decide_eq_true z;injection z with z;exact hx z) ?_
    refine⟨_,rfl,la,_,rfl,.inl ⟨SqL.of hl',λa ha=>?_⟩⟩
    have eq:M=.ok (pre,q):=by rw[eq];simp
    rw[eq] at out
    have hane:r≠a:=aa h1' ha
    have ba:But r H (upd H' a (.tup (pre.map V.int))):=λb o z n'=>by
     rw[ao (aa (bt _ _ z n') ha)]
     exact bt _ _ z n'
    refine out _ (R.moved ba ⟨dx',by rw[ao hane];exact h1'⟩ R'.le) ba a ?_ aj
    cases hz:H a with
    |none=>rfl
    |some o =>
     by_cases har:a=r
     ·exact absurd har.symm hane
     ·rw[bt _ _ hz har] at ha
      cases ha
end
noncomputable def tI(l:List Int):PyData:=.tuple (l.map .int)
theorem pq(K:PySem.W.Frag)(H:Hp):∀l:List Int,oY K H (l.map V.int) (l.map PyData.int)
 |[]=>.nil
 |i::l=>.cons (.int i) (pq K H l)
theorem zM{K:PySem.W.Frag}{H:Hp}{a:Addr}{l:List Int}(h:H a=some (.tup (l.map V.int))):Dp K H (.ref a) (tI l):=.tup (SqT.of h) (pq K H l)
theorem mW:∀l:List Int,PyData.canLayAll0 (l.map .int)=true
 |[]=>by simp[PyData.canLayAll0]
 |i::l=>by
  simp only[List.map_cons,PyData.canLayAll0,PyData.canLay0,Bool.true_and]
  exact mW l
theorem ph:∀l:List Int,PyData.depthAll (l.map .int)=0
 |[]=>by simp[PyData.depthAll]
 |i::l=>by
  simp only[List.map_cons,PyData.depthAll,PyData.depth,ph l]
  rfl
theorem jL(l:List Int):SeqAt.shaped (tI l)=true:=by
 unfold SeqAt.shaped tI
 simp only[PyData.canLay0,mW,PyData.depth,ph]
 decide
theorem mY:∀a b:List Int,PyData.eqvAll (a.map .int) (b.map .int)=decide (a=b)
 |[],[]=>by simp[PyData.eqvAll]
 |[],b::l=>by simp[PyData.eqvAll]
 |a::l,[]=>by simp[PyData.eqvAll]
 |a::l,b::m=>by
  simp only[List.map_cons,PyData.eqvAll,mY l m]
  by_cases h:a=b
  ·subst h
   simp[PyData.eqv]
  ·simp[PyData.eqv,h]
theorem Es(a b:List Int):PyData.eqv (tI a) (tI b)=decide (a=b):=by
 unfold tI
 simp only[PyData.eqv,mY]
def jg(H:Hp):List Addr->List (List Int)->Prop:=Paired λt row=>H t=some (.tup (row.map V.int))
structure cM(H:Hp)(a:Addr)(rows:List (List Int)):Prop where
 ex:∃ts,H a=some (.lst (ts.map V.ref))/\jg H ts rows
theorem Paired.len'{α β:Type}{R:α->β->Prop}:∀{l:List α} {m:List β},Paired R l m->l.length=m.length
 |_,_,.nil=>rfl
 |_,_,.cons _ t=>by rw[List.length_cons,List.length_cons,Paired.len' t]
theorem Paired.app{α β:Type}{R:α->β->Prop}:∀{l1 l2:List α} {m1 m2:List β},Paired R l1 m1->Paired R l2 m2->Paired R (l1++l2) (m1++m2)
 |_,_,_,_,.nil,s=>s
 |_,_,_,_,.cons r t,s=>.cons r (Paired.app t s)
theorem Paired.rep{α β:Type}{R:α->β->Prop}{a:α}{b:β}(h:R a b):∀n:Nat,Paired R (List.replicate n a) (List.replicate n b)
 |0=>.nil
 |n+1=>.cons h (Paired.rep h n)
theorem Paired.last{α β:Type}{R:α->β->Prop}:∀{l:List α} {m:List β},Paired R l m->(l=[]/\m=[])∨∃l' a m' b,l=l'++[a]/\m=m'++[b]/\R a b
 |_,_,.nil=>.inl ⟨rfl,rfl⟩
 |_,_,.cons (a:=a) (b:=b) (l₁:=l) (l₂:=m) r t=>by
  rcases Paired.last t with ⟨e1,e2⟩|⟨l',a',m',b',e1,e2,r'⟩
  ·exact .inr ⟨[],a,[],b,by rw[e1];rfl,by rw[e2];rfl,r⟩
  ·exact .inr ⟨a::l',a',b::m',b',by rw[e1];rfl,by rw[e2];rfl,r'⟩
theorem jg.keep{H H':Hp}{ts:List Addr}{rows:List (List Int)}(h:jg H ts rows)(k:∀b xs,H b=some (.tup xs)->H' b=some (.tup xs)):jg H' ts rows:=Paired.mapP h λ_ _ z=>k _ _ z
noncomputable abbrev JM:Stmt:=top 80
noncomputable def yf(wd:Int)(rows:List (List Int))(bs:List Int)(p:Nat):RR (Int×List Int):=match dD 1 (256-(rows.length:Int)) bs p with
 |.error k=>.error k
 |.ok (n,q)=>match di wd bs (bs.length+1) 0 q with
  |.error k=>.error k
  |.ok (hs,z)=>if rows.getLast?=some hs then .error z else match aG 10 bs z with
   |.error k=>.error k
   |.ok (_,y)=>.ok ((n,hs),y)
structure TxT(mg:Str->Option Value):Prop where
 mr:∃t,mg "MOST_ROWS"=some (.int 256 t)
 mw:∃t,mg "MOST_WIDTH_strips"=some (.int 128 t)
section
variable {CF fF CR:Addr}
theorem Out.err{α:Type}{H H':Hp}{r tx:Addr}{bs:List Int}{Y:α->Hp->(V->Prop)->Prop}{Q:VK}{E:XK}{k:Nat}(o:Out K CR H r tx bs Y Q E (.error k))(b:But r H H'):∀H2,But r H' H2->xk E (k:Int) H2:=λH2 b2=>o H2 (b.trans b2)
def oRun(K:PySem.W.Frag)(CR:Addr):Sp:=λvs H Q E=>∃(r tx ra:Addr) (bs:List Int) (p:Nat) (wd:Int) (rows:List (List Int)),vs=[.ref r,.int wd,.ref ra]/\du K CR H r tx bs p/\cM H ra rows/\rows.length<=256 /\
 Out K CR H r tx bs (λx H' k=>∀a t,H a=none->H' a=some (.lst (List.replicate x.1.toNat (.ref t)))->H' t=some (.tup (x.2.map V.int))->k (.ref a)) Q E (yf wd rows bs p)
theorem scRu:aJ ["reader","width","rows_before","how_many","holes"] ["reader","width","rows_before"] (aA JM):=sc0
theorem But.fresh{r a:Addr}{H H':Hp}(b:But r H H')(hr:∃o,H' r=some o)(h:H' a=none):H a=none:=by
 cases hz:H a with
 |none=>rfl
 |some o =>
  by_cases e:a=r
  ·subst e
   obtain⟨o',z⟩:=hr
   rw[z] at h
   cases h
  ·rw[b a o hz e] at h
   cases h
theorem and_no{c X A B:Prop}[Decidable c](h:c->B->X)(hB:B):if c then X else (if false=true then A else B):=by
 by_cases hc:c
 ·rw[if_pos hc]
  exact h hc hB
 ·rw[if_neg hc,if_neg (by decide)]
  exact hB
theorem ok_run{f fX fN fH:Addr}{fd fdX fdN fdH fdF:FuncData}(F:Fun K "read_run" "read_run" JM f fd)(T:TxR K mg CF fF CR)(TS:TxS mg)(TT:TxT mg)(bF:Binds K fdF ["self","place"] [])(GF:aF P w K mg base CX0 1 fF fdF ["self","place"] (iU CF "place"))(MX:FM K CR "expect" "Reader.expect" fj ["self","byte"] fX fdX)(GX:aF P w K mg base (CXF P w CF "place") 3 fX fdX ["self","byte"] (gR K CR))(MN:FM K CR "read_number" "Reader.read_number" gW ["self","least","most"] fN fdN)(GN:aF P w K mg base (CXF P w CF "place") 3 fN fdN ["self","least","most"] (Cm K CR))(MH:FG K mg "read_holes" uY ["reader","width"] fH fdH)(GH:aF P w K mg base (CXF P w CF "place") 4 fH fdH ["reader","width"] (FT K CR)) :
  aF P w K mg base (CXF P w CF "place") 5 f fd ["reader","width","rows_before"] (oRun K CR):=by
 refine F.okX scRu (λvs H Q E h=>?_) (λcdv A outer s H vs Q E hr h=>?_)
 ·obtain⟨r,tx,ra,bs,p,wd,rows,rfl,_⟩:=h
  rfl
 ·obtain⟨r,tx,ra,bs,p,wd,rows,rfl,R,RW,hrl,out⟩:=h
  obtain⟨t1,m1⟩:=TS.le
  obtain⟨t2,m2⟩:=TT.mr
  obtain⟨ts,hra,hts⟩:=RW.ex
  have hr3:bY 3 _:=hr.mono (by decide)
  have hr2:bY 2 _:=hr.mono (by decide)
  refine⟨_,aq (aP (i:=3) scRu.nd rfl (Or.inl rfl) (aQ (pv 0) T.cl MN.mt GN hr3 MN.bd .nil cT (ak aC (ak (bc dW (aD (v:=.int 256) rfl m2 ⟨t2,rfl⟩) (bJ bz (by rfl) T.len PySem.boot_len (ak (pv 2) au))) au))))
   (aq (aP (i:=4) scRu.nd rfl (Or.inl rfl) (bU GH hr rfl MH.mg MH.fn.kp MH.bd .nil cT (ak (pv 0) (ak (pv 1) au))))
   (aq (cA (PW.pt (j0 (bG nO (bJ bz (by rfl) T.len PySem.boot_len (ak (pv 2) au)) aC (bQ _)) (iQ (bG (op_eqD hr.units) (pv 4) (cz dg (pv 2) (pe_un un_neg aC) (λ_ _=>rfl)) (bQ _))))) (az (gq T.xk GF hr2 rfl T.mF bF (aB (pv 0) rfl))) aZ)
   (aq (bh (aQ (pv 0) T.cl MX.mt GX hr3 MX.bd .nil cT (ak (aD (v:=.int 10) rfl m1 ⟨t1,rfl⟩) au)))
   (az (aO (bc G6 (cD (ak (pv 4) au)) (pv 3))))))),?_⟩
  obtain⟨dx,h1⟩:=R.obj
  refine⟨_,rfl,r,dx,_,rfl,h1,cX _ _ dk dk,_,rfl,ra,_,rfl,.inl (SqL.of hra),_,_,rfl,rfl,r,tx,bs,p,_,_,rfl,R,?_⟩
  have elen:(256:Int)-((ts.map V.ref).length:Int)=256-(rows.length:Int):=by
   rw[List.length_map,Paired.len' hts]
  rw[elen]
  unfold yf at out
  cases hnum:dD 1 (256-(rows.length:Int)) bs p with
  |error k =>
   rw[hnum] at out
   exact out.err (But.refl _ _)
  |ok x =>
   obtain⟨n,q⟩:=x
   rw[hnum] at out
   dsimp only at out
   intro H1 R1 b1
   have hnl:=cP R.le hnum
   refine⟨_,rfl,_,rfl,r,tx,bs,q,wd,rfl,R1,?_⟩
   cases hhol:di wd bs (bs.length+1) 0 q with
   |error k =>
    rw[hhol] at out
    exact out.err b1
   |ok x =>
    obtain⟨hs,z⟩:=x
    rw[hhol] at out
    dsimp only at out
    intro H2 R2 b2 th hth hH2
    have hra2:H2 ra=some (.lst (ts.map V.ref)):=by
     have hne:ra≠r:=bI hra h1 (by intro y;cases y)
     exact b2 _ _ (b1 _ _ hra hne) hne
    have hts2:jg H2 ts rows:=hts.keep λb xs z=>by
     have hne:b≠r:=bI z h1 (by intro y;cases y)
     exact b2 _ _ (b1 _ _ z hne) hne
    obtain⟨dx2,h12⟩:=R2.obj
    have b12:=b1.trans b2
    refine⟨_,rfl,ra,_,rfl,.inl (SqL.of hra2),_,_,rfl,rfl,_,rfl,?_⟩
    by_cases e:rows.getLast?=some hs
    ·rw[if_pos e] at out
     rcases Paired.last hts2 with ⟨e1,e2⟩|⟨l',a,m',b,e1,e2,hab⟩
     ·rw[e2] at e
      cases e
     ·subst e1 e2
      rw[List.getLast?_concat] at e
      cases e
      refine aM (decide_eq_true (by rw[List.length_map,List.length_append];show(0:Int)<((l'.length+1:Nat):Int);omega)) ?_
      refine⟨_,rfl,_,rfl,_,rfl,ra,_,_,_,rfl,rfl,SqL.of hra2,?_,tI hs,tI hs,zM hH2,zM hab,jL _,jL _,_,rfl,?_⟩
      ·rw[List.map_append]
       exact vJ _ _
      ·refine aM (by rw[Es];exact decide_eq_true rfl) ?_
       exact⟨_,rfl,r,CR,dx2,_,_,rfl,h12,T.cl,T.nP,dY _ _,_,rfl,out _ b12⟩
    ·rw[if_neg e] at out
     refine and_no (λhc go=>?_) ?_
     ·rcases Paired.last hts2 with ⟨e1,e2⟩|⟨l',a,m',b,e1,e2,hab⟩
      ·subst e1
       exact absurd (of_decide_eq_true hc) (by decide)
      ·subst e1 e2
       rw[List.getLast?_concat] at e
       have e:hs≠b:=λy=>e (by rw[y])
       refine⟨_,rfl,_,rfl,_,rfl,ra,_,_,_,rfl,rfl,SqL.of hra2,?_,tI hs,tI b,zM hH2,zM hab,jL _,jL _,_,rfl,?_⟩
       ·rw[List.map_append]
        exact vJ _ _
       ·exact aV (by rw[Es];intro y;exact e (of_decide_eq_true y)) go
     ·refine⟨_,rfl,r,dx2,_,rfl,h12,cX _ _ dk dk,r,tx,bs,z,10,rfl,R2,by decide,?_⟩
      cases hex:aG 10 bs z with
      |error k =>
       rw[hex] at out
       exact out.err b12
      |ok x =>
       obtain⟨⟨⟩,y⟩:=x
       rw[hex] at out
       dsimp only at out
       intro H3 R3 b3
       obtain⟨dx3,h13⟩:=R3.obj
       have hth3:H3 th=some (.tup (hs.map V.int)):=b3 _ _ hH2 (bI hH2 h12 (by intro y;cases y))
       refine⟨_,rfl,(by show 1<=sizeLine;decide),λp1 hp1=>?_⟩
       refine⟨_,rfl,p1,n,_,rfl,rfl,aj,by omega,by omega,?_,λp2 hp2=>?_⟩
       ·show 1*n.toNat<=sizeLine
        rw[sizeLine_eq]
        omega
       ·have hp2':H3 p2=none:=by
         by_cases e':p2=p1
         ·rw[e']
          exact hp1
         ·rw[ao e'] at hp2
          exact hp2
        have bb:But r H3 (upd (upd H3 p1 (.lst [.ref th])) p2 (.lst (List.replicate n.toNat [.ref th]).flatten)):=λb o z' n'=>by
         rw[ao (aa z' hp2'),ao (aa z' hp1)]
         exact z'
        have r2:r≠p2:=aa h13 hp2'
        have r1:r≠p1:=aa h13 hp1
        refine out _ (R3.moved bb ⟨dx3,by rw[ao r2,ao r1];exact h13⟩ R3.le) (b12.trans (b3.trans bb)) p2 th ?_ ?_ ?_
        ·exact(b12.trans b3).fresh ⟨_,h13⟩ hp2'
        ·rw[aj]
         congr 2
         simp
        ·rw[ao (aa hth3 hp2'),ao (aa hth3 hp1)]
         exact hth3
end
def aN(H H':Hp):Prop:=∀b o,H b=some o->H' b=some o
theorem aN.refl(H:Hp):aN H H:=λ_ _ h=>h
theorem aN.trans{H H1 H2:Hp}(a:aN H H1)(b:aN H1 H2):aN H H2:=λc o h=>b c o (a c o h)
theorem aN.new{H:Hp}{a:Addr}(o:HO)(h:H a=none):aN H (upd H a o):=λb u z=>by rw[ao (aa z h)];exact z
theorem aN.but{H H1 H2:Hp}{r:Addr}(g:aN H H1)(hr:H r=none)(b:But r H1 H2):aN H H2:=λc o h=>b c o (g c o h) (aa h hr)
theorem aN.fresh{H H':Hp}{a:Addr}(g:aN H H')(h:H' a=none):H a=none:=by
 cases hz:H a with
 |none=>rfl
 |some o =>
  rw[g _ _ hz] at h
  cases h
theorem aN.sq{K:PySem.W.Frag}{H H':Hp}{a:Addr}{xs:List V}(g:aN H H')(h:SqL K H a xs):SqL K H' a xs:=by
 rcases h with (z|⟨o,z⟩)|z
 ·exact .inl (.inl (g _ _ z))
 ·exact .inl (.inr ⟨o,g _ _ z⟩)
 ·exact .inr z
theorem jg.grow{H H':Hp}{ts:List Addr}{rows:List (List Int)}(h:jg H ts rows)(g:aN H H'):jg H' ts rows:=h.keep λb xs z=>g _ _ z
structure KC(K:PySem.W.Frag)(mg:Str->Option Value)(nm:Str)(C f:Addr)(fs:List Str):Prop where
 mkc:Mk K C f
 cl:Cls K C
 no:∀x∈fs,ig K C x
 mg:mg nm=some (.ref C)
noncomputable abbrev vp:Stmt:=inClass (top 78) 0
section
variable {CF fF CR CS fS fR:Addr}
def w6(CS:Addr):Sp:=λvs H Q _=>∃(r dx:Addr) (a b:V),vs=[.ref r,a,b]/\H r=some (.ins CS dx [])/\Q .non (upd H r (.ins CS dx [("width",a),("rows",b)]))
theorem scSI:aJ ["self","width","rows"] ["self","width","rows"] (aA vp):=sc0
theorem cG{H:Hp}{a:Addr}{o u:HO}:upd (upd H a o) a u=upd H a u:=by
 funext b
 by_cases h:b=a
 ·rw[h,aj,aj]
 ·rw[ao h,ao h,ao h]
theorem CJ{fd:FuncData}(F:Fun K "__init__" "Strip.__init__" vp fS fd)(T:KC K mg "Strip" CS fS ["width","rows"]):aF P w K mg base CX0 1 fS fd ["self","width","rows"] (w6 CS):=by
 refine F.ok scSI (λvs H Q E h=>?_) (λcdv A outer s H vs Q E hr h=>?_)
 ·obtain⟨r,dx,a,b,rfl,_⟩:=h
  rfl
 ·obtain⟨r,dx,a,b,rfl,hr0,k⟩:=h
  refine⟨_,aq (aU (pv 0) (pv 1) rfl) (az (aU (pv 0) (pv 2) rfl)),?_⟩
  refine⟨_,rfl,_,rfl,r,CS,dx,_,rfl,hr0,T.cl,T.no _ dk,(by show 0<1000;decide),?_⟩
  refine⟨_,rfl,_,rfl,r,CS,dx,_,rfl,aj,T.cl,T.no _ dk,(by show 1<1000;decide),?_⟩
  rw[cG]
  exact k
noncomputable abbrev vo:Stmt:=top 79
noncomputable def jd(wd:Int)(bs:List Int):Nat->List (List Int)->Nat->Except Nat (List (List Int))
 |0,_,p=>.error p
 |n+1,rows,p=>if p=bs.length then .ok rows else match yf wd rows bs p with
  |.error k=>.error k
  |.ok ((m,hs),y)=>jd wd bs n (rows++List.replicate m.toNat hs) y
noncomputable def jY(bs:List Int):Except Nat (Int×List (List Int)):=match fZ ("strip":Str).cps.toList bs 0 with
 |.error k=>.error k
 |.ok (_,p1)=>match aG 32 bs p1 with
  |.error k=>.error k
  |.ok (_,p2)=>match dD 1 128 bs p2 with
   |.error k=>.error k
   |.ok (wd,p3)=>match aG 10 bs p3 with
    |.error k=>.error k
    |.ok (_,p4)=>match jd wd bs (bs.length+1) [] p4 with
     |.error k=>.error k
     |.ok rows=>.ok (wd,rows)
structure zA(CS:Addr)(H:Hp)(s:Addr)(wd:Int)(rows:List (List Int)):Prop where
 ex:∃dx ra,H s=some (.ins CS dx [("width",.int wd),("rows",.ref ra)])/\cM H ra rows
 le:rows.length<=256
def FW(K:PySem.W.Frag)(CS:Addr):Sp:=λvs H Q E=>∃(tx:Addr) (bs:List Int),vs=[.ref tx]/\SqL K H tx (bs.map V.int)/\bs.length<=30000/\(∀b∈bs,0<=b/\b<=255)/\match jY bs with
 |.error k=>∀H',aN H H'->xk E (k:Int) H'
 |.ok (wd,rows)=>∀H' s,aN H H'->zA CS H' s wd rows->(∀dx ra,H' s=some (.ins CS dx [("width",.int wd),("rows",.ref ra)])->H ra=none)->Q (.ref s) H'
theorem Ao:aJ ["text","reader","width","rows"] ["text"] (aA vo):=sc0
theorem d9{c:Int}{bs:List Int}{p q:Nat}(hc:0<=c)(hp:p<=bs.length)(h:aG c bs p=.ok ((),q)):q=p+1/\q<=bs.length:=by
 unfold aG at h
 split at h
 ·cases h
  rename_i e
  have:=eN hp (by rw[e];exact hc)
  omega
 ·cases h
theorem lU{wd:Int}{bs:List Int}:∀{n:Nat} {least:Int} {p q:Nat} {ts:List Int},p<=bs.length->di wd bs n least p=.ok (ts,q)->p<=q/\q<=bs.length
 |0,_,_,_,_,_,h=>by
  unfold di at h
  cases h
 |n+1,least,p,q,ts,hp,h=>by
  unfold di at h
  split at h
  ·rename_i hb
   have:=eN hp (by omega)
   split at h
   ·cases h
   ·rename_i t q1 hn
    have h1:=cP (by omega) hn
    split at h
    ·cases h
    ·rename_i ts' z hh
     cases h
     have h2:=lU (by omega) hh
     omega
  ·cases h
   omega
theorem z8{wd:Int}{rows:List (List Int)}{bs:List Int}{p q:Nat}{m:Int}{hs:List Int}(hp:p<=bs.length)(h:yf wd rows bs p=.ok ((m,hs),q)):p<q/\q<=bs.length/\1<=m/\m<=256-(rows.length:Int):=by
 unfold yf at h
 split at h
 ·cases h
 ·rename_i n q1 hn
  have h1:=cP hp hn
  split at h
  ·cases h
  ·rename_i hs' z hh
   have h2:=lU (by omega) hh
   split at h
   ·cases h
   ·split at h
    ·cases h
    ·rename_i y he
     cases h
     have h3:=d9 (by decide) (by omega) he
     omega
theorem Gz{f fA fX fW fN fU:Addr}{fd fdA fdX fdW fdN fdU fdR fdS:FuncData}(F:Fun K "read_strip" "read_strip" vo f fd)(T:TxR K mg CF fF CR)(TS:TxS mg)(TT:TxT mg)(TR:KC K mg "Reader" CR fR ["text","place"])(bR:Binds K fdR ["self","text"] [])(GR:aF P w K mg base CX0 1 fR fdR ["self","text"] (mK K CR))(TK:KC K mg "Strip" CS fS ["width","rows"])(bS:Binds K fdS ["self","width","rows"] [])(GS:aF P w K mg base CX0 1 fS fdS ["self","width","rows"] (w6 CS))(MA:FM K CR "at_end" "Reader.at_end" mC ["self"] fA fdA)(GA:aF P w K mg base CX0 1 fA fdA ["self"] (oV K CR))(MX:FM K CR "expect" "Reader.expect" fj ["self","byte"] fX fdX)(GX:aF P w K mg base (CXF P w CF "place") 3 fX fdX ["self","byte"] (gR K CR))(MW:FM K CR "expect_word" "Reader.expect_word" tV ["self","word"] fW fdW)(GW:aF P w K mg base (CXF P w CF "place") 4 fW fdW ["self","word"] (Ab K CR))(MN:FM K CR "read_number" "Reader.read_number" gW ["self","least","most"] fN fdN)(GN:aF P w K mg base (CXF P w CF "place") 3 fN fdN ["self","least","most"] (Cm K CR))(MU:FG K mg "read_run" JM ["reader","width","rows_before"] fU fdU)(GU:aF P w K mg base (CXF P w CF "place") 5 fU fdU ["reader","width","rows_before"] (oRun K CR)) :
  aF P w K mg base (CXF P w CF "place") 6 f fd ["text"] (FW K CS):=by
 refine F.okX Ao (λvs H Q E h=>?_) (λcdv A outer s H vs Q E hr h=>?_)
 ·obtain⟨tx,bs,rfl,_⟩:=h
  rfl
 ·obtain⟨tx,bs,rfl,hsq,hfit,hby,out⟩:=h
  obtain⟨t1,m1⟩:=TS.bl
  obtain⟨t2,m2⟩:=TS.le
  obtain⟨t3,m3⟩:=TT.mw
  have hr4:bY 4 _:=hr.mono (by decide)
  have hr3:bY 3 _:=hr.mono (by decide)
  have hr2:bY 2 _:=hr.mono (by decide)
  have hr1:bY 1 _:=hr.mono (by decide)
  refine⟨_,aq (aP (i:=1) Ao.nd rfl (Or.inl rfl) (dZ TR.mkc GR hr2 rfl TR.mg bR .nil aX (ak (pv 0) au)))
   (aq (bh (aQ (pv 1) T.cl MW.mt GW hr4 MW.bd .nil cT (ak lY au)))
   (aq (bh (aQ (pv 1) T.cl MX.mt GX hr3 MX.bd .nil cT (ak (aD (v:=.int 32) rfl m1 ⟨t1,rfl⟩) au)))
   (aq (aP (i:=2) Ao.nd rfl (Or.inl rfl) (aQ (pv 1) T.cl MN.mt GN hr3 MN.bd .nil cT (ak aC (ak (aD (v:=.int 128) rfl m3 ⟨t3,rfl⟩) au))))
   (aq (bh (aQ (pv 1) T.cl MX.mt GX hr3 MX.bd .nil cT (ak (aD (v:=.int 10) rfl m2 ⟨t2,rfl⟩) au)))
   (aq (aP (i:=3) Ao.nd rfl (Or.inl rfl) (cD au))
   (aq (eX (Dc lW) (jw (cH (cO (pv 1) T.cl MA.mt GA hr1 MA.bd .nil aX)))
    (az (bh (f9 PySem.F.plainAttrs_list PySem.F.slot_list_extend PySem.F.type_list_extend eO (pv 3) (ak (bU GU hr rfl MU.mg MU.fn.kp MU.bd .nil cT (ak (pv 1) (ak (pv 2) (ak (pv 3) au)))) au)))))
   (az (aO (dZ TK.mkc GS hr2 rfl TK.mg bS .nil aX (ak (pv 2) (ak (pv 3) au))))))))))),?_⟩
  refine⟨_,rfl,λr dx0 hrn hdn hne0=>⟨r,dx0,tx,rfl,aj,λH1 h1 oth=>⟨rfl,?_⟩⟩⟩
  have g1:aN H H1:=λb o z=>by
   rw[oth b (aa z hrn),ao (aa z hrn),ao (aa z hdn)]
   exact z
  have R1:du K CR H1 r tx bs 0:=⟨⟨dx0,h1⟩,g1.sq hsq,Nat.zero_le _,hfit,hby⟩
  refine⟨_,rfl,r,dx0,_,rfl,h1,cX _ _ dk dk,r,tx,bs,0,_,rfl,R1,?_⟩
  unfold jY at out
  revert out
  refine rr_go (fZ ("strip":Str).cps.toList bs 0) (λk out H' b=>out H' (g1.but hrn b)) λ_ p1 out=>?_
  dsimp only at out
  intro H2 R2 b2
  have g2:=g1.but hrn b2
  obtain⟨dx2,h2⟩:=R2.obj
  refine⟨_,rfl,r,dx2,_,rfl,h2,cX _ _ dk dk,r,tx,bs,p1,32,rfl,R2,by decide,?_⟩
  revert out
  refine rr_go (aG 32 bs p1) (λk out H' b=>out H' (g2.but hrn b)) λ_ p2 out=>?_
  dsimp only at out
  intro H3 R3 b3
  have g3:=g2.but hrn b3
  obtain⟨dx3,h3⟩:=R3.obj
  refine⟨_,rfl,r,dx3,_,rfl,h3,cX _ _ dk dk,r,tx,bs,p2,1,128,rfl,R3,?_⟩
  revert out
  refine rr_go (dD 1 128 bs p2) (λk out H' b=>out H' (g3.but hrn b)) λwd p3 out=>?_
  dsimp only at out
  intro H4 R4 b4
  have g4:=g3.but hrn b4
  obtain⟨dx4,h4⟩:=R4.obj
  refine⟨_,rfl,r,dx4,_,rfl,h4,cX _ _ dk dk,r,tx,bs,p3,10,rfl,R4,by decide,?_⟩
  revert out
  refine rr_go (aG 10 bs p3) (λk out H' b=>out H' (g4.but hrn b)) λ_ p4 out=>?_
  dsimp only at out
  intro H5 R5 b5
  have g5:=g4.but hrn b5
  obtain⟨dx5,h5⟩:=R5.obj
  refine⟨Nat.zero_le _,λla hla=>?_⟩
  have hln:H la=none:=g5.fresh hla
  have hne:r≠la:=aa h5 hla
  have g6:aN H (upd H5 la (.lst [])):=g5.trans (aN.new _ hla)
  generalize hM:jd wd bs (bs.length+1) [] p4=M at out
  obtain⟨W,hW⟩:∃W:Nat->L2.St->Hp->Prop,W=λm σ H'=>∃(n:Nat) (rows:List (List Int)) (ts:List Addr) (q:Nat),m=bs.length-q/\bs.length-q<n/\rows.length<=256/\σ=[some (.ref tx),some (.ref r),some (.int wd),some (.ref la)]/\du K CR H' r tx bs q/\aN H H'/\H' la=some (.lst (ts.map V.ref))/\jg H' ts rows /\
   M=jd wd bs n rows q:=⟨_,rfl⟩
  refine⟨W,⟨bs.length-p4,?_⟩,?_⟩
  ·rw[hW]
   refine⟨bs.length+1,[],[],p4,rfl,by omega,by decide,rfl,⟨⟨dx5,by rw[ao hne];exact h5⟩,g6.sq hsq,R5.le,hfit,hby⟩,g6,aj,.nil,hM.symm⟩
  ·intro m σ H' hw
   rw[hW] at hw
   obtain⟨n,rows,ts,q,rfl,hn,hle,rfl,R',g',hl',hts,eq⟩:=hw
   obtain⟨dx',h1'⟩:=R'.obj
   refine⟨_,rfl,r,dx',_,rfl,h1',cX _ _ dk dk,r,tx,bs,q,rfl,R',_,rfl,?_⟩
   obtain⟨n,rfl⟩:∃n',n=n'+1:=⟨n-1,by omega⟩
   unfold jd at eq
   by_cases hq:q=bs.length
   ·rw[if_pos hq] at eq
    refine aV (by rw[decide_eq_true hq];decide) ?_
    rw[eq] at out
    dsimp only at out
    refine⟨_,rfl,_,rfl,λx dx hx hdx hxd=>⟨x,dx,_,_,rfl,aj,rfl,?_⟩⟩
    rw[cG]
    have gl:aN H' (upd (upd H' dx (.own x)) x (.ins CS dx [("width",.int wd),("rows",.ref la)])):=λb o z=>by
     rw[ao (aa z hx),ao (aa z hdx)]
     exact z
    exact out _ x (g'.trans gl) ⟨⟨dx,la,aj,⟨ts,gl _ _ hl',hts.grow gl⟩⟩,hle⟩ λdx' ra' e=>by
     rw[aj] at e
     cases e
     exact hln
   ·rw[if_neg hq] at eq
    refine aM (by rw[decide_eq_false hq];rfl) ⟨λσ' H3=>∃m',m'<bs.length-q/\W m' σ' H3,λ_ _ z=>z,?_⟩
    refine⟨_,rfl,.inl ⟨rfl,_,SqL.of hl'⟩,_,rfl,_,rfl,_,rfl,r,tx,la,bs,q,wd,rows,rfl,R',⟨⟨ts,hl',hts⟩⟩,hle,?_⟩
    cases hu:yf wd rows bs q with
    |error k =>
     rw[hu] at eq
     rw[eq] at out
     exact λH2 b2=>out H2 (g'.but hrn b2)
    |ok x =>
     obtain⟨⟨m,hs⟩,y⟩:=x
     rw[hu] at eq
     dsimp only at eq
     have hule:=z8 R'.le hu
     intro H2' R2' b2' a t ha haL htT
     have l2:H2' la=some (.lst (ts.map V.ref)):=b2' _ _ hl' (Ne.symm hne)
     have hts2:jg H2' ts rows:=hts.keep λb xs z=>b2' _ _ z (bI z h1' (by intro y;cases y))
     have hlen:=Paired.len' hts
     refine⟨la,a,_,_,rfl,rfl,l2,haL,?_,?_⟩
     ·rw[List.length_map,List.length_replicate,sizeLine_eq]
      omega
     ·refine⟨bs.length-y,by omega,?_⟩
      rw[hW]
      have gg:aN H (upd H2' la (.lst (ts.map V.ref++List.replicate m.toNat (.ref t)))):=λb o z=>by
       rw[ao (aa z hln)]
       exact g'.but hrn b2' _ _ z
      obtain⟨dy,hy'⟩:=R2'.obj
      refine⟨n,rows++List.replicate m.toNat hs,ts++List.replicate m.toNat t,y,rfl,by omega,?_,rfl,⟨⟨dy,by rw[ao hne];exact hy'⟩,gg.sq hsq,R2'.le,hfit,hby⟩,gg,?_,?_,eq⟩
      ·rw[List.length_append,List.length_replicate]
       omega
      ·rw[aj,List.map_append,List.map_replicate]
      ·have hk:∀b xs,H2' b=some (.tup xs)->upd H2' la (.lst (ts.map V.ref++List.replicate m.toNat (.ref t))) b=some (.tup xs):=λb xs z=>by
        rw[ao (bI z l2 (by intro y;cases y))]
        exact z
       exact Paired.app (hts2.keep hk) (Paired.rep (R:=λt_1 row=>upd H2' la (HO.lst (List.map V.ref ts++List.replicate m.toNat (V.ref t))) t_1=some (HO.tup (List.map V.int row))) (hk _ _ htT) _)
end
noncomputable abbrev tU:Stmt:=top 30
noncomputable abbrev mJ:Stmt:=top 31
noncomputable def dJ(lo hi:Int)(bs:List Int)(p:Nat):RR Int:=match aG 32 bs p with
 |.error k=>.error k
 |.ok (_,q)=>dD lo hi bs q
section
variable {CF fF CR CS fS fR:Addr}
theorem Out.of_err{α β:Type}{H H':Hp}{r tx:Addr}{bs:List Int}{Y:α->Hp->(V->Prop)->Prop}{Y':β->Hp->(V->Prop)->Prop}{Q Q':VK}{E:XK}{k:Nat}(o:Out K CR H r tx bs Y Q E (.error k))(b:But r H H'):Out K CR H' r tx bs Y' Q' E (.error k):=λH2 b2=>o H2 (b.trans b2)
theorem Out.later{H H':Hp}{r tx:Addr}{bs:List Int}{Q:VK}{E:XK}{x:RR Int}(o:Out K CR H r tx bs J1 Q E x)(b:But r H H'):Out K CR H' r tx bs J1 Q E x:=by
 cases x with
 |error k=>exact o.of_err b
 |ok x=>exact λH2 R2 b2=>o H2 R2 (b.trans b2)
def z9(K:PySem.W.Frag)(CR:Addr):Sp:=λvs H Q E=>∃(r tx:Addr) (bs:List Int) (p:Nat) (lo hi:Int),vs=[.ref r,.int lo,.int hi]/\du K CR H r tx bs p/\Out K CR H r tx bs J1 Q E (dJ lo hi bs p)
theorem scNx:aJ ["reader","least","most"] ["reader","least","most"] (aA tU):=sc0
theorem Jj{f fX fN:Addr}{fd fdX fdN:FuncData}(F:Fun K "read_next_number" "read_next_number" tU f fd)(T:TxR K mg CF fF CR)(TS:TxS mg)(MX:FM K CR "expect" "Reader.expect" fj ["self","byte"] fX fdX)(GX:aF P w K mg base (CXF P w CF "place") 3 fX fdX ["self","byte"] (gR K CR))(MN:FM K CR "read_number" "Reader.read_number" gW ["self","least","most"] fN fdN)(GN:aF P w K mg base (CXF P w CF "place") 3 fN fdN ["self","least","most"] (Cm K CR)) :
  aF P w K mg base (CXF P w CF "place") 4 f fd ["reader","least","most"] (z9 K CR):=by
 refine F.okX scNx (λvs H Q E h=>?_) (λcdv A outer s H vs Q E hr h=>?_)
 ·obtain⟨r,tx,bs,p,lo,hi,rfl,_⟩:=h
  rfl
 ·obtain⟨r,tx,bs,p,lo,hi,rfl,R,out⟩:=h
  obtain⟨t1,m1⟩:=TS.bl
  refine⟨_,aq (bh (aQ (pv 0) T.cl MX.mt GX hr MX.bd .nil cT (ak (aD (v:=.int 32) rfl m1 ⟨t1,rfl⟩) au)))
   (az (aO (aQ (pv 0) T.cl MN.mt GN hr MN.bd .nil cT (ak (pv 1) (ak (pv 2) au))))),?_⟩
  obtain⟨dx,h1⟩:=R.obj
  refine⟨_,rfl,r,dx,_,rfl,h1,cX _ _ dk dk,r,tx,bs,p,32,rfl,R,by decide,?_⟩
  unfold dJ at out
  cases hx:aG 32 bs p with
  |error k =>
   rw[hx] at out
   exact out.of_err (But.refl _ _)
  |ok x =>
   obtain⟨⟨⟩,q⟩:=x
   rw[hx] at out
   dsimp only at out
   intro H1 R1 b1
   obtain⟨dx1,h11⟩:=R1.obj
   exact⟨_,rfl,r,dx1,_,rfl,h11,cX _ _ dk dk,_,rfl,_,rfl,r,tx,bs,q,lo,hi,rfl,R1,out.later b1⟩
theorem G8{CX:CXT}{P:Program}{w:World}{K:PySem.W.Frag}{mg:Str->Option Value}{base:Heap}{N:List Str}{qual:Str}{scope:Scope}{f:Addr}{cd:Value}{A:Around}{outer:List Env}{s:Shared}{H:Hp}{E:XK}{xe:Value->Shared->Prop} :
  Own ((lO CX P w K mg base N qual scope f cd A outer s H E).wish xe):=⟨rfl,rfl⟩
theorem xeb_un{X:Cx}{xe:Value->Shared->Prop}{C:Addr}{x:Str}{E:XK}{e:Value}{s':Shared}(h:XEb C x (X.wish xe) E e s'):XEb C x X E e s':=by
 obtain⟨ea,i,n,σ,H,rfl,I,hp,fl,q⟩:=h
 exact⟨ea,i,n,σ,H,rfl,I.unwish,hp,fl,q⟩
noncomputable def iH(hi:Int)(bs:List Int):Nat->Nat->RR (List Int)
 |0,p=>.ok ([],p)
 |n+1,p=>match dJ 0 hi bs p with
  |.error k=>.error k
  |.ok (t,q)=>match iH hi bs n q with
   |.error k=>.error k
   |.ok (ts,z)=>.ok (t::ts,z)
noncomputable def jZ(wd:List Nat)(hi:Int)(bs:List Int)(p:Nat):RR (List Int):=match fZ wd bs p with
 |.error k=>.error k
 |.ok (_,q)=>match iH hi bs 3 q with
  |.error k=>.error k
  |.ok (ts,z)=>match aG 10 bs z with
   |.error k=>.error k
   |.ok (_,y)=>.ok (ts,y)
def FZ(K:PySem.W.Frag)(CR:Addr):Sp:=λvs H Q E=>∃(r tx:Addr) (bs:List Int) (p:Nat) (wd:Str) (hi:Int),vs=[.ref r,.str wd,.int hi]/\du K CR H r tx bs p /\
 Out K CR H r tx bs (λts H' k=>∀a,H a=none->H' a=some (.tup (ts.map V.int))->k (.ref a)) Q E (jZ wd.cps.toList hi bs p)
theorem scTh:aJ ["reader","word","most","numbers","k"] ["reader","word","most"] (aA mJ):=sc0
theorem vG{σ:L2.St}{H:Hp}{Q:Bool->Hp->Prop}(h:Q true H):tYes σ H Q:=h
noncomputable def lcSc:Stmt->Scope
 |.Assign _ (.ListComp _ _ sc _) _=>sc
 |_=>{ kind:=.function,names:=[],isGenerator:=false,isCoroutine:=false }
theorem blkTh:gM ["reader","word","most","numbers","k"] (aA mJ) (lcSc ((cY mJ).getD 1 (.Pass ⟨0,0,0,0⟩))) [("k",4)]:=⟨rfl,dk,dk,dk,dk⟩
theorem GK{f fX fW fN:Addr}{fd fdX fdW fdN:FuncData}(F:Fun K "read_three" "read_three" mJ f fd)(T:TxR K mg CF fF CR)(TS:TxS mg)(hrg:mg "range"=none)(MX:FM K CR "expect" "Reader.expect" fj ["self","byte"] fX fdX)(GX:aF P w K mg base (CXF P w CF "place") 3 fX fdX ["self","byte"] (gR K CR))(MW:FM K CR "expect_word" "Reader.expect_word" tV ["self","word"] fW fdW)(GW:aF P w K mg base (CXF P w CF "place") 4 fW fdW ["self","word"] (Ab K CR))(MN:FG K mg "read_next_number" tU ["reader","least","most"] fN fdN)(GN:aF P w K mg base (CXF P w CF "place") 4 fN fdN ["reader","least","most"] (z9 K CR)) :
  aF P w K mg base (CXF P w CF "place") 5 f fd ["reader","word","most"] (FZ K CR):=by
 refine F.okX scTh (λvs H Q E h=>?_) (λcdv A outer s H vs Q E hr h=>?_)
 ·obtain⟨r,tx,bs,p,wd,hi,rfl,_⟩:=h
  rfl
 ·obtain⟨r,tx,bs,p,wd,hi,rfl,R,out⟩:=h
  obtain⟨t1,m1⟩:=TS.bl
  obtain⟨t2,m2⟩:=TS.le
  have hr3:bY 3 _:=hr.mono (by decide)
  refine⟨_,aq (bh (aQ (pv 0) T.cl MW.mt GW hr MW.bd .nil cT (ak (pv 1) au)))
   (aq (Df (C:=CF) (x:="place") (i:=3) (own:=[("k",4)]) G8 (λ_ _ z=>xeb_un z) rfl scTh.nd rfl rfl rfl (De rfl hrg (ak aC au)) blkTh (λ_ _ _ _ _=>cF (i:=4) scTh.nd rfl (.inl rfl)) (λ_ _ _ _ _=>jH)
    (λ_ _ _ _ _=>bU GN ?room rfl MN.mg MN.fn.kp MN.bd .nil cT (ak (pv 0) (ak aC (ak (pv 2) au)))))
   (aq (bh (aQ (pv 0) T.cl MX.mt GX hr3 MX.bd .nil cT (ak (aD (v:=.int 10) rfl m2 ⟨t2,rfl⟩) au)))
   (az (aO (lX jO rfl TS.tuple dk (ak (pv 3) au)))))),?_⟩
  case room=>exact hr
  obtain⟨dx,h1⟩:=R.obj
  refine⟨_,rfl,r,dx,_,rfl,h1,cX _ _ dk dk,_,rfl,r,tx,bs,p,wd,rfl,R,?_⟩
  unfold jZ at out
  cases hx:fZ wd.cps.toList bs p with
  |error k =>
   rw[hx] at out
   exact out.of_err (But.refl _ _)
  |ok x =>
  obtain⟨⟨⟩,q⟩:=x
  rw[hx] at out
  dsimp only at out
  intro H1 R1 b1
  refine⟨3,rfl,by decide,by decide,λD hD=>?_⟩
  obtain⟨dx1,h11⟩:=R1.obj
  have hne:r≠D:=aa h11 hD
  have hDH:H D=none:=b1.fresh ⟨_,h11⟩ hD
  have b2:But r H (upd H1 D (.lst [])):=λb o z n=>by
   rw[ao (aa z hDH)]
   exact b1 _ _ z n
  generalize hM:iH hi bs 3 q=M at out
  refine Ft (λi H'=>∃(pre:List Int) (z:Nat),pre.length=i/\du K CR H' r tx bs z/\But r H H'/\H' D=some (.lst (pre.map V.int)) /\
   M=(match iH hi bs (3-i) z with|.error k=>.error k|.ok (ts,y)=>.ok (pre++ts,y))) ?_ ?_ ?_
  ·refine⟨[],q,rfl,R1.moved (λb o z n=>by rw[ao (aa z hD)];exact z) ⟨dx1,by rw[ao hne];exact h11⟩ R1.le,b2,aj,?_⟩
   rw[←hM]
   cases iH hi bs 3 q with
   |error k=>rfl
   |ok x=>rfl
  ·rintro i H' hi3 ⟨pre,z,hpl,R',b',hD',eq⟩
   refine⟨rfl,?_⟩
   refine vG (aM rfl ?_)
   refine⟨_,rfl,_,rfl,r,tx,bs,z,0,hi,rfl,R',?_⟩
   obtain⟨j,hj⟩:∃j,3-i=j+1:=⟨3-i-1,by omega⟩
   rw[hj] at eq
   unfold iH at eq
   cases hn:dJ 0 hi bs z with
   |error k =>
    rw[hn] at eq
    rw[eq] at out
    exact λH2 b2=>out H2 (b'.trans b2)
   |ok x =>
    obtain⟨t,y⟩:=x
    rw[hn] at eq
    dsimp only at eq
    intro H2 R2 b2
    obtain⟨dx2,h12⟩:=R2.obj
    have hD2:H2 D=some (.lst (pre.map V.int)):=b2 _ _ hD' (Ne.symm hne)
    refine⟨_,hD2,by rw[List.length_map,hpl,sizeLine_eq];omega,pre++[t],y,by rw[List.length_append,hpl];rfl,?_,?_,?_,?_⟩
    ·exact R.moved (λb o z n=>by rw[ao (aa z hDH)];exact b2 _ _ (b' _ _ z n) n) ⟨dx2,by rw[ao hne];exact h12⟩ R2.le
    ·intro b o z n
     rw[ao (aa z hDH)]
     exact b2 _ _ (b' _ _ z n) n
    ·rw[aj,List.map_append]
     rfl
    ·rw[eq,show 3-(i+1)=j by omega]
     cases iH hi bs j y with
     |error k=>rfl
     |ok x=>simp
  ·rintro H' ⟨pre,z,hpl,R',b',hD',eq⟩
   have eq:M=.ok (pre,z):=by
    rw[eq]
    simp[iH]
   rw[eq] at out
   dsimp only at out
   obtain⟨dx2,h12⟩:=R'.obj
   refine⟨_,rfl,r,dx2,_,rfl,h12,cX _ _ dk dk,r,tx,bs,z,10,rfl,R',by decide,?_⟩
   cases hy:aG 10 bs z with
   |error k =>
    rw[hy] at out
    exact out.of_err b'
   |ok x =>
   obtain⟨⟨⟩,y⟩:=x
   rw[hy] at out
   dsimp only at out
   intro H3 R3 b3
   obtain⟨dx3,h13⟩:=R3.obj
   have hD3:H3 D=some (.lst (pre.map V.int)):=b3 _ _ hD' (Ne.symm hne)
   refine⟨_,rfl,D,_,rfl,.inl ⟨SqL.of hD3,λa ha=>?_⟩⟩
   have hane:r≠a:=aa h13 ha
   have ba:But r H3 (upd H3 a (.tup (pre.map V.int))):=λb o z n'=>by
    rw[ao (aa z ha)]
    exact z
   exact out _ (R3.moved ba ⟨dx3,by rw[ao hane];exact h13⟩ R3.le) ((b'.trans b3).trans ba) a ((b'.trans b3).fresh ⟨_,h13⟩ ha) aj
end
noncomputable abbrev lJ:Stmt:=top 33
noncomputable def kinds:List (Str×Int×List Int):=[("key",1,[127]),("loud",2,[]),("soft",3,[]),("lock",4,[2,1]),("cancel",5,[1]),("up",6,[1]),("down",7,[1]),("accent",8,[1]),("end",9,[])]
noncomputable def kindOf(wd:Str):Option (Int×List Int):=(kinds.find? λx=>decide (x.1=wd)).map (·.2)
structure zy(P:Program)(w:World)(K:PySem.W.Frag)(mg:Str->Option Value)(a:Addr)(kvs:List (Key×V)):Prop where
 mg:mg "KINDS"=some (.ref a)
 top:xu P w K a kvs
 no:∀wd,kindOf wd=none->dN kvs (.inr wd)=none
 yes:∀wd kd ms,kindOf wd=some (kd,ms)->∃t m,dN kvs (.inr wd)=some (.ref t)/\(∀H,SqT K H t [.int kd,.ref m])/\∀H,SqT K H m (ms.map V.int)
theorem Cd{wd:Str}{kd:Int}{ms:List Int}(h:kindOf wd=some (kd,ms)):ms.length<=2:=by
 unfold kindOf at h
 cases hf:kinds.find? λx=>decide (x.1=wd) with
 |none =>
  rw[hf] at h
  cases h
 |some x =>
  rw[hf] at h
  have hm:=List.mem_of_find?_eq_some hf
  have e:x.2=(kd,ms):=by
   simpa using h
  have:∀x∈kinds,x.2.2.length<=2:=by decide
  have:=this x hm
  rw[e] at this
  exact this
noncomputable abbrev iD(m:List Int):List Key:=m.map Sum.inl
noncomputable def trk(ms:List (List Int×Int)):List (List Key×V):=ms.map λx=>(iD x.1,.int x.2)
theorem kY{a b:List Int}(h:iD a=iD b):a=b:=(List.map_inj_right (f:=(Sum.inl:Int->Key)) (λ_ _ z=>Sum.inl.inj z)).mp h
theorem kZ(m:List Int):(iD m).map kV=m.map V.int:=by
 unfold iD
 rw[List.map_map]
 rfl
theorem xn(m:List Int):∀ms:List (List Int×Int),(dN (trk ms) (iD m)).isSome=decide (m∈ms.map (·.1))
 |[]=>by simp[dN,trk]
 |x::r=>by
  have ih:=xn m r
  unfold dN trk at ih ⊢
  rw[List.map_cons,List.find?_cons]
  by_cases h:x.1=m
  ·simp[h]
  ·have h':¬iD x.1=iD m:=λz=>h (kY z)
   rw[decide_eq_false h']
   dsimp only
   rw[ih]
   simp[Ne.symm h]
theorem Hk{m:List Int}{ms:List (List Int×Int)}(t:Int)(h:m∉ms.map (·.1)):putK (trk ms) (iD m) (.int t)=trk (ms++[(m,t)]):=by
 unfold putK
 rw[if_neg]
 ·unfold trk
  rw[List.map_append]
  rfl
 ·intro z
  rw[List.any_eq_true] at z
  obtain⟨y,hy,e⟩:=z
  have e:=of_decide_eq_true e
  unfold trk at hy
  obtain⟨x,hx,rfl⟩:=List.mem_map.mp hy
  exact h (List.mem_map.mpr ⟨x,hx,kY e⟩)
noncomputable def dC(bs:List Int):List Int->Nat->RR (List Int)
 |[],p=>.ok ([],p)
 |m::ms,p=>match dJ 0 m bs p with
  |.error k=>.error k
  |.ok (t,q)=>match dC bs ms q with
   |.error k=>.error k
   |.ok (ts,z)=>.ok (t::ts,z)
noncomputable def wordAt(bs:List Int)(p:Nat):Str:=⟨((lets (bs.drop p)).map Int.toNat).toArray⟩
noncomputable def dI(seen:List (List Int))(bs:List Int)(p:Nat):RR (List Int):=match kindOf (wordAt bs p) with
 |none=>.error p
 |some (kd,ms)=>match dC bs ms (p+(lets (bs.drop p)).length) with
  |.error k=>.error k
  |.ok (ns,q)=>if [kd,ns.getD 0 0,ns.getD 1 0]∈seen then .error p else .ok ([kd,ns.getD 0 0,ns.getD 1 0],q)
section
variable {CF fF CR CS fS fR:Addr}
def wj(K:PySem.W.Frag)(CR:Addr):Sp:=λvs H Q E=>∃(r tx dt:Addr) (bs:List Int) (p:Nat) (ms:List (List Int×Int)),vs=[.ref r,.ref dt]/\du K CR H r tx bs p/\H dt=some (.dT (trk ms)) /\
 Out K CR H r tx bs (λm H' k=>∀a,H a=none->H' a=some (.tup (m.map V.int))->k (.ref a)) Q E (dI (ms.map (·.1)) bs p)
theorem yU:aJ ["reader","tracks","start","word","numbers","k","most","meaning"] ["reader","tracks"] (aA lJ):=sc0
theorem yF{f fL fN aK:Addr}{fd fdL fdN fdF:FuncData}{kvs:List (Key×V)}(F:Fun K "read_new_meaning" "read_new_meaning" lJ f fd)(T:TxR K mg CF fF CR)(TK:zy P w K mg aK kvs)(hen:mg "enumerate"=none)(bF:Binds K fdF ["self","place"] [])(GF:aF P w K mg base CX0 1 fF fdF ["self","place"] (iU CF "place"))(ML:FM K CR "read_letters" "Reader.read_letters" lH ["self"] fL fdL)(GL:aF P w K mg base CX0 3 fL fdL ["self"] (ug K CR))(MN:FG K mg "read_next_number" tU ["reader","least","most"] fN fdN)(GN:aF P w K mg base (CXF P w CF "place") 4 fN fdN ["reader","least","most"] (z9 K CR)) :
  aF P w K mg base (CXF P w CF "place") 5 f fd ["reader","tracks"] (wj K CR):=by
 refine F.okX yU (λvs H Q E h=>?_) (λcdv A outer s H vs Q E hr h=>?_)
 ·obtain⟨r,tx,dt,bs,p,ms,rfl,_⟩:=h
  rfl
 ·obtain⟨r,tx,dt,bs,p,ms,rfl,R,hdt,out⟩:=h
  have hr3:bY 3 _:=hr.mono (by decide)
  have hr2:bY 2 _:=hr.mono (by decide)
  have hu:_+1<cLine:=Nat.lt_of_le_of_lt (Nat.add_le_add_left (by decide) _) hr.units
  refine⟨_,aq (aP (i:=2) yU.nd rfl (Or.inl rfl) (aB (pv 0) rfl))
   (aq (aP (i:=3) yU.nd rfl (Or.inl rfl) (cO (pv 0) T.cl ML.mt GL hr3 ML.bd .nil aX))
   (aq (cA (yL (yK (pv 3) (aD (v:=.ref aK) rfl TK.mg rfl))) (az (gq T.xk GF hr2 rfl T.mF bF (pv 2))) aZ)
   (aq (aP (i:=4) yU.nd rfl (Or.inl rfl) (cD (ak aC (ak aC au))))
   (aq (iM (Dc lW) rfl (wF rfl hen (ak (cz cU (qm (aD (v:=.ref aK) rfl TK.mg rfl) (pv 3) (λ_ _=>rfl)) aC (λ_ _=>rfl)) au))
     (lZ rfl (dB (cF (i:=5) yU.nd rfl (.inl rfl)) (dB (cF (i:=6) yU.nd rfl (.inl rfl)) jG)))
     (az (Hi (bU GN hr rfl MN.mg MN.fn.kp MN.bd .nil cT (ak (pv 0) (ak aC (ak (pv 6) au)))) (Hf (pv 4) (pv 5) set_list))))
   (aq (aP (i:=7) yU.nd rfl (Or.inl rfl) (eE (ak (cz cU (qm (aD (v:=.ref aK) rfl TK.mg rfl) (pv 3) (λ_ _=>rfl)) aC (λ_ _=>rfl)) (ak (cz dg (pv 4) aC (λ_ _=>rfl)) (ak (cz dg (pv 4) aC (λ_ _=>rfl)) au)))))
   (aq (cA (yL (pc_din hu (pv 7) (pv 1))) (az (gq T.xk GF hr2 rfl T.mF bF (pv 2))) aZ)
   (az (aO (pv 7))))))))),?_⟩
  obtain⟨dx,h1⟩:=R.obj
  refine⟨_,rfl,r,CR,dx,_,_,rfl,h1,T.cl,T.nP,dY _ _,?_⟩
  refine⟨_,rfl,r,dx,_,rfl,h1,cX _ _ dk dk,r,tx,bs,p,rfl,R,λH1 R1 b1=>?_⟩
  refine⟨_,rfl,aK,kvs,.inr (wordAt bs p),rfl,TK.top,rfl,_,rfl,?_⟩
  unfold dI at out
  cases hk:kindOf (wordAt bs p) with
  |none =>
   rw[hk] at out
   refine aM (by rw[TK.no _ hk];rfl) ?_
   exact⟨_,rfl,_,rfl,out _ b1⟩
  |some x =>
  obtain⟨kd,mo⟩:=x
  rw[hk] at out
  dsimp only at out
  obtain⟨t,m,hv,ht,hm⟩:=TK.yes _ _ _ hk
  refine aV (by rw[hv];exact Bool.false_ne_true) ?_
  refine⟨by show 2<=sizeLine;decide,λla hla=>?_⟩
  obtain⟨dx1,h11⟩:=R1.obj
  have hne:r≠la:=aa h11 hla
  have hlH:H la=none:=b1.fresh ⟨_,h11⟩ hla
  have hmo:=Cd hk
  have b2:But r H (upd H1 la (.lst [.int 0,.int 0])):=λb o z n=>by
   rw[ao (aa z hlH)]
   exact b1 _ _ z n
  refine⟨_,rfl,aK,kvs,.inr (wordAt bs p),_,rfl,TK.top,rfl,hv,t,_,_,_,rfl,rfl,ht _,rfl,m,mo.map V.int,rfl,hm _,?_⟩
  generalize hM:dC bs mo (p+(lets (bs.drop p)).length)=M at out
  refine sO (xs:=mo.map V.int) (λi σ H'=>∃(ns:List Int) (z:Nat) (v5 v6:Option V),ns.length=i/\σ=[some (.ref r),some (.ref dt),some (.int p),some (.str (wordAt bs p)),some (.ref la),v5,v6,none]/\du K CR H' r tx bs z/\But r H H'/\H' la=some (.lst [.int (ns.getD 0 0),.int (ns.getD 1 0)]) /\
   M=(match dC bs (mo.drop i) z with|.error k=>.error k|.ok (ts,y)=>.ok (ns++ts,y))) ?_ (λ_ _ _ _=>hm _) ?_ ?_
  ·refine⟨[],_,none,none,rfl,rfl,R1.moved (λb o z n=>by rw[ao (aa z hla)];exact z) ⟨dx1,by rw[ao hne];exact h11⟩ R1.le,b2,aj,?_⟩
   rw[←hM]
   rw[List.drop_zero]
   cases dC bs mo (p+(lets (bs.drop p)).length) with
   |error k=>rfl
   |ok x=>rfl
  ·rintro i x σ H' T' hx ⟨ns,z,v5,v6,hpl,rfl,R',b',hl',eq⟩ hT'
   rw[List.getElem?_map] at hx
   obtain⟨mst,hmst,rfl⟩:=Option.map_eq_some_iff.mp hx
   have i2:i<mo.length:=(List.getElem?_eq_some_iff.mp hmst).1
   obtain⟨dx',h1'⟩:=R'.obj
   have bT:But r H' (upd H' T' (.tup [.int (i:Nat),.int mst])):=λb o z n=>by rw[ao (aa z hT')];exact z
   have R'':=R'.moved bT ⟨dx',by rw[ao (aa h1' hT')];exact h1'⟩ R'.le
   refine⟨T',_,rfl,SqT.of aj,rfl,_,_,rfl,_,_,rfl,rfl,?_⟩
   refine⟨_,rfl,_,rfl,r,tx,bs,z,0,mst,rfl,R'',?_⟩
   rw[List.drop_eq_getElem_cons i2] at eq
   rw[(List.getElem?_eq_some_iff.mp hmst).2] at eq
   unfold dC at eq
   cases hn:dJ 0 mst bs z with
   |error k =>
    rw[hn] at eq
    rw[eq] at out
    exact λH2 b2=>out H2 (b'.trans (bT.trans b2))
   |ok x =>
    obtain⟨u,y⟩:=x
    rw[hn] at eq
    dsimp only at eq
    intro H2 R2 b2
    obtain⟨dx2,h12⟩:=R2.obj
    have bb:=b'.trans (bT.trans b2)
    have hl2:H2 la=some (.lst [.int (ns.getD 0 0),.int (ns.getD 1 0)]):=b2 _ _ (bT _ _ hl' (Ne.symm hne)) (Ne.symm hne)
    refine⟨_,rfl,_,rfl,la,_,_,i,rfl,rfl,hl2,?_,ns++[u],y,_,_,by rw[List.length_append,hpl];rfl,rfl,?_,?_,?_,?_⟩
    ·have:i<2:=by omega
     unfold ixN
     rw[if_pos (by omega),if_pos (by show(i:Int)<2;omega)]
     rfl
    ·exact R.moved (λb o z n=>by rw[ao (aa z hlH)];exact bb _ _ z n) ⟨dx2,by rw[ao hne];exact h12⟩ R2.le
    ·intro b o z n
     rw[ao (aa z hlH)]
     exact bb _ _ z n
    ·rw[aj]
     match ns,hpl,i2 with
     |[],rfl,_=>rfl
     |[a],rfl,_=>rfl
     |a::b::c,h,i2 =>
      rw[List.length_cons,List.length_cons] at h
      omega
    ·rw[eq]
     cases dC bs (List.drop (i+1) mo) y with
     |error k=>rfl
     |ok x=>simp
  ·rintro σ H' ⟨ns,z,v5,v6,hpl,rfl,R',b',hl',eq⟩
   rw[List.length_map] at hpl eq
   have eq:M=.ok (ns,z):=by
    rw[eq,List.drop_length]
    simp[dC]
   rw[eq] at out
   dsimp only at out
   obtain⟨dx',h1'⟩:=R'.obj
   refine⟨_,rfl,aK,kvs,.inr (wordAt bs p),_,rfl,TK.top,rfl,hv,t,_,_,_,rfl,rfl,ht _,rfl,?_⟩
   refine⟨_,rfl,la,_,_,_,rfl,rfl,SqL.of hl',rfl,?_⟩
   refine⟨_,rfl,la,_,_,_,rfl,rfl,SqL.of hl',rfl,by show 3<=sizeLine;decide,λa ha=>?_⟩
   have bT:But r H' (upd H' a (.tup [.int kd,.int (ns.getD 0 0),.int (ns.getD 1 0)])):=λb o z n=>by rw[ao (aa z ha)];exact z
   have hdt':upd H' a (.tup [.int kd,.int (ns.getD 0 0),.int (ns.getD 1 0)]) dt=some (.dT (trk ms)):=(b'.trans bT) _ _ hdt (bI hdt h1 (by intro y;cases y))
   refine⟨_,rfl,_,rfl,dt,_,rfl,ux.t hdt' (k:=iD [kd,ns.getD 0 0,ns.getD 1 0]) (by rw[aj,kZ];rfl),_,rfl,?_⟩
   rw[xn]
   by_cases hin:[kd,ns.getD 0 0,ns.getD 1 0]∈ms.map (·.1)
   ·rw[if_pos hin] at out
    refine aM (decide_eq_true hin) ?_
    exact⟨_,rfl,_,rfl,out _ (b'.trans bT)⟩
   ·rw[if_neg hin] at out
    refine aV (by rw[decide_eq_false hin];exact Bool.false_ne_true) ?_
    refine⟨_,rfl,?_⟩
    exact out _ (R'.moved bT ⟨dx',by rw[ao (aa h1' ha)];exact h1'⟩ R'.le) (b'.trans bT) a (b'.fresh ⟨_,h1'⟩ ha) aj
end
noncomputable abbrev oO:Stmt:=top 32
theorem lq{lo hi:Int}{bs:List Int}{p q:Nat}{t:Int}(hp:p<=bs.length)(h:dJ lo hi bs p=.ok (t,q)):p<q/\q<=bs.length/\lo<=t/\t<=hi:=by
 unfold dJ at h
 split at h
 ·cases h
 ·rename_i z he
  have h1:=d9 (by decide) hp he
  have h2:=cP (by omega) h
  omega
theorem tE{bs:List Int}:∀{ms:List Int} {p q:Nat} {ts:List Int},p<=bs.length->dC bs ms p=.ok (ts,q)->p<=q/\q<=bs.length
 |[],p,q,ts,hp,h=>by
  unfold dC at h
  cases h
  omega
 |m::ms,p,q,ts,hp,h=>by
  unfold dC at h
  split at h
  ·cases h
  ·rename_i t z hn
   have h1:=lq hp hn
   split at h
   ·cases h
   ·rename_i ts' y hh
    cases h
    have h2:=tE (by omega) hh
    omega
theorem nF{seen:List (List Int)}{bs:List Int}{p q:Nat}{m:List Int}(hp:p<=bs.length)(h:dI seen bs p=.ok (m,q)):p<=q/\q<=bs.length/\m∉seen:=by
 unfold dI at h
 split at h
 ·cases h
 ·split at h
  ·cases h
  ·rename_i ns z hm
   have hl:(lets (bs.drop p)).length<=bs.length-p:=by
    have:=(List.takeWhile_prefix (l:=bs.drop p) kW).length_le
    rw[List.length_drop] at this
    exact this
   have h1:=tE (by omega) hm
   split at h
   ·cases h
   ·rename_i hn
    cases h
    exact⟨by omega,by omega,hn⟩
noncomputable def dF(wd:Int)(bs:List Int):Nat->Int->List (List Int×Int)->Nat->Except Nat (List (List Int×Int))
 |0,_,_,p=>.error p
 |n+1,least,ms,p=>if p=bs.length then .ok ms else match dD least (wd-1) bs p with
  |.error k=>.error k
  |.ok (t,p1)=>match aG 32 bs p1 with
   |.error k=>.error k
   |.ok (_,p2)=>match dI (ms.map (·.1)) bs p2 with
    |.error k=>.error k
    |.ok (m,p3)=>match aG 10 bs p3 with
     |.error k=>.error k
     |.ok (_,p4)=>dF wd bs n (t+1) (ms++[(m,t)]) p4
section
variable {CF fF CR CS fS fR:Addr}
def Aa(K:PySem.W.Frag)(CR:Addr):Sp:=λvs H Q E=>∃(r tx:Addr) (bs:List Int) (p:Nat) (wd:Int),vs=[.ref r,.int wd]/\du K CR H r tx bs p/\match dF wd bs (bs.length+1) 0 [] p with
 |.error k=>∀H',But r H H'->xk E (k:Int) H'
 |.ok ms=>∀H' a,But r H H'->H a=none->H' a=some (.dT (trk ms))->Q (.ref a) H'
theorem Di:aJ ["reader","width","tracks","least","track","meaning"] ["reader","width"] (aA oO):=sc0
theorem CQ{f fA fX fN fM:Addr}{fd fdA fdX fdN fdM:FuncData}(F:Fun K "read_tracks" "read_tracks" oO f fd)(T:TxR K mg CF fF CR)(TS:TxS mg)(MA:FM K CR "at_end" "Reader.at_end" mC ["self"] fA fdA)(GA:aF P w K mg base CX0 1 fA fdA ["self"] (oV K CR))(MX:FM K CR "expect" "Reader.expect" fj ["self","byte"] fX fdX)(GX:aF P w K mg base (CXF P w CF "place") 3 fX fdX ["self","byte"] (gR K CR))(MN:FM K CR "read_number" "Reader.read_number" gW ["self","least","most"] fN fdN)(GN:aF P w K mg base (CXF P w CF "place") 3 fN fdN ["self","least","most"] (Cm K CR))(MM:FG K mg "read_new_meaning" lJ ["reader","tracks"] fM fdM)(GM:aF P w K mg base (CXF P w CF "place") 5 fM fdM ["reader","tracks"] (wj K CR)) :
  aF P w K mg base (CXF P w CF "place") 6 f fd ["reader","width"] (Aa K CR):=by
 refine F.okX Di (λvs H Q E h=>?_) (λcdv A outer s H vs Q E hr h=>?_)
 ·obtain⟨r,tx,bs,p,wd,rfl,_⟩:=h
  rfl
 ·obtain⟨r,tx,bs,p,wd,rfl,R,out⟩:=h
  obtain⟨t1,m1⟩:=TS.bl
  obtain⟨t2,m2⟩:=TS.le
  have hr3:bY 3 _:=hr.mono (by decide)
  have hr1:bY 1 _:=hr.mono (by decide)
  have hu:_+1<cLine:=Nat.lt_of_le_of_lt (Nat.add_le_add_left (by decide) _) hr.units
  refine⟨_,aq (aP (i:=2) Di.nd rfl (Or.inl rfl) wA)
   (aq (aP (i:=3) Di.nd rfl (Or.inl rfl) aC)
   (aq (eX (Dc lW) (jw (cH (cO (pv 0) T.cl MA.mt GA hr1 MA.bd .nil aX)))
    (aq (aP (i:=4) Di.nd rfl (Or.inl rfl) (aQ (pv 0) T.cl MN.mt GN hr3 MN.bd .nil cT (ak (pv 3) (ak (bc dW (pv 1) aC) au))))
    (aq (bh (aQ (pv 0) T.cl MX.mt GX hr3 MX.bd .nil cT (ak (aD (v:=.int 32) rfl m1 ⟨t1,rfl⟩) au)))
    (aq (aP (i:=5) Di.nd rfl (Or.inl rfl) (bU GM hr rfl MM.mg MM.fn.kp MM.bd .nil cT (ak (pv 0) (ak (pv 2) au))))
    (aq (Ae hu (pv 2) (pv 5) (pv 4) rfl)
    (aq (bh (aQ (pv 0) T.cl MX.mt GX hr3 MX.bd .nil cT (ak (aD (v:=.int 10) rfl m2 ⟨t2,rfl⟩) au)))
    (az (aP (i:=3) Di.nd rfl (Or.inl rfl) (bc cV (pv 4) aC)))))))))
   (az (aO (pv 2))))),?_⟩
  intro la hla
  obtain⟨dx,h1⟩:=R.obj
  have hne:r≠la:=aa h1 hla
  have b0:But r H (upd H la (.dT [])):=λb o z n=>by rw[ao (aa z hla)];exact z
  generalize hM:dF wd bs (bs.length+1) 0 [] p=M at out
  obtain⟨W,hW⟩:∃W:Nat->L2.St->Hp->Prop,W=λm σ H'=>∃(n:Nat) (least:Int) (ms:List (List Int×Int)) (q:Nat) (v4 v5:Option V),m=bs.length-q/\bs.length-q<n/\ms.length<=q/\σ=[some (.ref r),some (.int wd),some (.ref la),some (.int least),v4,v5]/\du K CR H' r tx bs q/\But r H H'/\H' la=some (.dT (trk ms)) /\
   M=dF wd bs n least ms q:=⟨_,rfl⟩
  refine⟨W,⟨bs.length-p,?_⟩,?_⟩
  ·rw[hW]
   exact⟨bs.length+1,0,[],p,none,none,rfl,by omega,Nat.zero_le _,rfl,R.moved b0 ⟨dx,by rw[ao hne];exact h1⟩ R.le,b0,aj,hM.symm⟩
  ·intro m σ H' hw
   rw[hW] at hw
   obtain⟨n,least,ms,q,v4,v5,rfl,hn,hml,rfl,R',b',hl',eq⟩:=hw
   obtain⟨dx',h1'⟩:=R'.obj
   refine⟨_,rfl,r,dx',_,rfl,h1',cX _ _ dk dk,r,tx,bs,q,rfl,R',_,rfl,?_⟩
   obtain⟨n,rfl⟩:∃n',n=n'+1:=⟨n-1,by omega⟩
   unfold dF at eq
   by_cases hq:q=bs.length
   ·rw[if_pos hq] at eq
    refine aV (by rw[decide_eq_true hq];decide) ?_
    rw[eq] at out
    exact⟨_,rfl,out _ la b' hla hl'⟩
   ·rw[if_neg hq] at eq
    refine aM (by rw[decide_eq_false hq];rfl) ⟨λσ' H3=>∃m',m'<bs.length-q/\W m' σ' H3,λ_ _ z=>z,?_⟩
    refine⟨_,rfl,r,dx',_,rfl,h1',cX _ _ dk dk,_,rfl,_,rfl,_,_,rfl,rfl,r,tx,bs,q,least,wd-1,rfl,R',?_⟩
    cases hnum:dD least (wd-1) bs q with
    |error k =>
     rw[hnum] at eq
     rw[eq] at out
     exact λH2 b2=>out H2 (b'.trans b2)
    |ok x =>
    obtain⟨t,p1⟩:=x
    rw[hnum] at eq
    dsimp only at eq
    have l1:=cP R'.le hnum
    intro H2 R2 b2
    obtain⟨dx2,h12⟩:=R2.obj
    refine⟨_,rfl,r,dx2,_,rfl,h12,cX _ _ dk dk,r,tx,bs,p1,32,rfl,R2,by decide,?_⟩
    cases hx1:aG 32 bs p1 with
    |error k =>
     rw[hx1] at eq
     rw[eq] at out
     exact λH3 b3=>out H3 (b'.trans (b2.trans b3))
    |ok x =>
    obtain⟨⟨⟩,p2⟩:=x
    rw[hx1] at eq
    dsimp only at eq
    have l2:=d9 (by decide) l1.2.1 hx1
    intro H3 R3 b3
    have b23:=b'.trans (b2.trans b3)
    have hl3:H3 la=some (.dT (trk ms)):=b3 _ _ (b2 _ _ hl' (Ne.symm hne)) (Ne.symm hne)
    refine⟨_,rfl,_,rfl,r,tx,la,bs,p2,ms,rfl,R3,hl3,?_⟩
    cases hme:dI (ms.map (·.1)) bs p2 with
    |error k =>
     rw[hme] at eq
     rw[eq] at out
     exact λH4 b4=>out H4 (b23.trans b4)
    |ok x =>
    obtain⟨mm,p3⟩:=x
    rw[hme] at eq
    dsimp only at eq
    have l3:=nF l2.2 hme
    intro H4 R4 b4 ta hta h4ta
    obtain⟨dx4,h14⟩:=R4.obj
    have hl4:H4 la=some (.dT (trk ms)):=b4 _ _ hl3 (Ne.symm hne)
    have hfit:=R.fit
    refine⟨_,rfl,_,rfl,_,rfl,la,_,rfl,vH.t hl4 (k:=iD mm) (by rw[h4ta,kZ]) ?_,?_⟩
    ·unfold trk
     rw[List.length_map,sizeLine_eq]
     omega
    ·rw[Hk t l3.2.2]
     have h15:upd H4 la (.dT (trk (ms++[(mm,t)]))) r=some (.ins CR dx4 (rf tx ((p3:Nat):Int))):=by rw[ao hne];exact h14
     have b5:But r H (upd H4 la (.dT (trk (ms++[(mm,t)])))):=λb o z n'=>by
      rw[ao (aa z hla)]
      exact b4 _ _ (b23 _ _ z n') n'
     have R5:du K CR _ r tx bs p3:=R.moved b5 ⟨dx4,h15⟩ R4.le
     refine⟨_,rfl,r,dx4,_,rfl,h15,cX _ _ dk dk,r,tx,bs,p3,10,rfl,R5,by decide,?_⟩
     cases hx2:aG 10 bs p3 with
     |error k =>
      rw[hx2] at eq
      rw[eq] at out
      exact λH6 b6=>out H6 (b5.trans b6)
     |ok x =>
     obtain⟨⟨⟩,p4⟩:=x
     rw[hx2] at eq
     dsimp only at eq
     have l4:=d9 (by decide) l3.2.1 hx2
     intro H6 R6 b6
     refine⟨_,rfl,_,_,rfl,rfl,bs.length-p4,by omega,?_⟩
     rw[hW]
     refine⟨n,t+1,ms++[(mm,t)],p4,_,_,rfl,by omega,?_,rfl,R6,b5.trans b6,b6 _ _ aj (Ne.symm hne),eq⟩
     rw[List.length_append]
     show ms.length+1<=p4
     omega
end
end PR
namespace L2
open PySem PySem.Spec PyProof.Rows
theorem Fq{d:Addr}{o:Obj}{kvs:List (List Key×V)}{g:TG}{tt:TT}{te:TE}{vs:List Nat}{σ:St}{H1:Hp}{D:Addr}{Qd:Hp->Prop}(Pv:Nat->Hp->Prop)(h0:Pv 0 (upd H1 D (.lst [])))(hl:∀i H,i<=kvs.length->Pv i H->H d=some (.frz o (.dT kvs)))(hs:∀i k v q H,kvs[i]?=some (k,v)->H q=some (.tup (k.map kV))->Pv i H->g (.ref q) (wipe σ vs) H λσ2 H2=>wipe σ2 vs=wipe σ vs/\tt σ2 H2 λb H3 =>
   if b=true then te σ2 H3 λy H4=>∃acc,H4 D=some (.lst acc)/\acc.length<sizeLine/\Pv (i+1) (upd H4 D (.lst (acc++[y]))) else Pv (i+1) H3)(hd:∀H,Pv kvs.length H->Qd H) :
  ∃W:Nat->Nat->Hp->Prop,(∃m,W 0 m (upd H1 D (.lst [])))/\∀i m H,W i m H ->
   ((DQ d o kvs).stop i H/\Qd H)∨((DQ d o kvs).go i H/\∃Nx:Hp->Prop,(∀H',Nx H'->∃m',m'<m/\W (i+1) m' H')/\∀x H',(DQ d o kvs).yld i H x H'->g x (wipe σ vs) H' λσ2 H2=>wipe σ2 vs=wipe σ vs/\tt σ2 H2 λb H3 =>
    if b=true then te σ2 H3 λy H4=>∃acc,H4 D=some (.lst acc)/\acc.length<sizeLine/\Nx (upd H4 D (.lst (acc++[y]))) else Nx H3):=by
 refine⟨λi m H=>m=kvs.length-i/\i<=kvs.length/\Pv i H,⟨kvs.length,by simp,Nat.zero_le _,h0⟩,?_⟩
 rintro i m H ⟨rfl,hi,p⟩
 have q:=hl i H hi p
 by_cases hlt:i<kvs.length
 ·refine .inr ⟨⟨q,hlt⟩,Pv (i+1),λH' p'=>⟨kvs.length-(i+1),by omega,rfl,hlt,p'⟩,λx H' y=>?_⟩
  obtain⟨e,k,v,qa,e1,e2,e3⟩:=y
  subst e
  subst e2
  exact hs i k v qa _ e1 e3 p
 ·have e:i=kvs.length:=by omega
  subst e
  exact .inl ⟨⟨q,Nat.le_refl _⟩,hd H p⟩
end L2
namespace PR
open PySem PySem.Spec PyProof.Rows L2
variable {P:Program}{w:World}{K:PySem.W.Frag}{mg:Str->Option Value}{base:Heap}
noncomputable abbrev tR:Stmt:=top 34
def fK(H:Hp):List Addr->List (Int×Int)->Prop:=Paired λt p=>jW H t p
theorem fK.keep{H H':Hp}{ts:List Addr}{ps:List (Int×Int)}(h:fK H ts ps)(k:∀b xs,H b=some (.tup xs)->H' b=some (.tup xs)):fK H' ts ps:=Paired.mapP h λ_ _ z=>k _ _ z
theorem fK.mem{H:Hp}{ts:List Addr}{ps:List (Int×Int)}(h:fK H ts ps):∀t∈ts,∃p,jW H t p:=by
 unfold fK at h
 induction h with
 |nil=>intro t ht;cases ht
 |cons r _ ih =>
  intro t ht
  rcases List.mem_cons.mp ht with z|z
  ·subst z
   exact⟨_,r⟩
  ·exact ih t z
noncomputable def Hg(H:Hp)(t:Addr):Int×Int:=match H t with
 |some (.tup [.int a,.int b])=>(a,b)
 |_=>(0,0)
theorem oG{H:Hp}{t:Addr}{p:Int×Int}(h:jW H t p):Hg H t=p:=by
 unfold Hg
 rw[show H t=_ from h]
theorem fK.eq{H:Hp}{ts:List Addr}{ps:List (Int×Int)}(h:fK H ts ps):ps=ts.map (Hg H):=by
 unfold fK at h
 induction h with
 |nil=>rfl
 |cons r _ ih=>rw[List.map_cons,←ih,oG r]
theorem fK.of{H:Hp}:∀{ts:List Addr},(∀t∈ts,∃p,jW H t p)->fK H ts (ts.map (Hg H))
 |[],_=>.nil
 |t::ts,h=>by
  obtain⟨p,hp⟩:=h t (List.mem_cons_self ..)
  refine .cons ?_ (fK.of λu hu=>h u (List.mem_cons_of_mem _ hu))
  rw[oG hp]
  exact hp
noncomputable def nZ(ms:List (List Int×Int)):List (Int×Int):=(ms.filter λx=>decide (x.1.getD 0 0=1)).map λx=>(x.1.getD 1 0,x.2)
def n6(ms:List (List Int×Int))(kts:List (Int×Int)):Prop:=kts.Perm (nZ ms)/\kts.Pairwise λx y=>x.1<=y.1
structure MsOk(ms:List (List Int×Int)):Prop where
 three:∀x∈ms,∃k a b,x.1=[k,a,b]
 nd:(ms.map (·.1)).Nodup
theorem val_at{ms:List (List Int×Int)}{i:Nat}{m:List Int}{t:Int}(nd:(ms.map (·.1)).Nodup)(h:ms[i]?=some (m,t)):dN (trk ms) (iD m)=some (.int t):=by
 induction ms generalizing i with
 |nil=>cases h
 |cons x r ih =>
  unfold dN trk
  rw[List.map_cons,List.find?_cons]
  cases i with
  |zero =>
   cases h
   rw[decide_eq_true rfl]
   rfl
  |succ i =>
   have h:r[i]?=some (m,t):=h
   rw[List.map_cons,List.nodup_cons] at nd
   have hm:m∈r.map (·.1):=List.mem_map.mpr ⟨_,List.mem_of_getElem? h,rfl⟩
   rw[decide_eq_false (λz=>nd.1 (by rw[kY z];exact hm))]
   exact ih nd.2 h
theorem tQ(ms:List (List Int×Int))(x:List Int×Int):nZ (ms++[x])=nZ ms++if decide (x.1.getD 0 0=1)=true then [(x.1.getD 1 0,x.2)] else []:=by
 unfold nZ
 rw[List.filter_append,List.map_append,List.filter_cons,List.filter_nil]
 congr 1
 split<;>rfl
noncomputable def retOf:Stmt->Expr
 |.Return (some e) _=>e
 |_=>.Name "x" ⟨0,0,0,0⟩
noncomputable def Fo:Expr->Scope
 |.Call _ [.ListComp _ _ sc _] _ _=>sc
 |.ListComp _ _ sc _=>sc
 |_=>{ kind:=.function,names:=[],isGenerator:=false,isCoroutine:=false }
theorem zV{X:Cx}{K:PySem.W.Frag}(hK:X.K=K):IxR X (rIxT K):=by
 subst hK
 exact cU
section
def HF:Sp:=λvs H Q _=>∃(ta:Addr) (ms:List (List Int×Int)),vs=[.ref ta]/\H ta=some (.dT (trk ms))/\MsOk ms/\ms.length<=100000 /\
 ∀H' ka ts kts,aN H H'->H ka=none->H' ka=some (.lst (ts.map V.ref))->fK H' ts kts->n6 ms kts->Q (.ref ka) H'
theorem scKe:aJ ["tracks","meaning"] ["tracks"] (aA tR):=sc0
theorem blkKe:gM ["tracks","meaning"] (aA tR) (Fo (retOf ((cY tR).getD 0 (.Pass ⟨0,0,0,0⟩)))) [("meaning",1)]:=⟨rfl,dk,dk,dk,dk⟩
theorem Ji{f:Addr}{fd:FuncData}(F:Fun K "keys_in_order" "keys_in_order" tR f fd)(hs:mg "sorted"=none)(hk:∃t,mg "KEY"=some (.int 1 t)):aF P w K mg base CX0 1 f fd ["tracks"] HF:=by
 refine F.ok scKe (λvs H Q E h=>?_) (λcdv A outer s H vs Q E hr h=>?_)
 ·obtain⟨ta,ms,rfl,_⟩:=h
  rfl
 ·obtain⟨ta,ms,rfl,hta,hok,hle,k⟩:=h
  obtain⟨tk,mk⟩:=hk
  have hu:=sV hr
  refine⟨_,az (aO (bJ xP (by rfl) hs PyProof.Rows.boot_sorted (ak (Jw (wC (own:=[("meaning",1)]) rfl scKe.nd (Jz (pv 0)) blkKe (λ_ _ _ _ _=>cF (i:=1) scKe.nd rfl (.inl rfl))
   (λ_ _ _ _ _=>Ag (bG gJ (cz (zV (K:=K) rfl) (pv 1) aC (λ_ _=>rfl)) (aD (v:=.int 1) rfl mk ⟨tk,rfl⟩) (bQ _)))
   (λ_ _ _ _ _=>eE (ak (cz (zV (K:=K) rfl) (pv 1) aC (λ_ _=>rfl)) (ak (Jt ?hu (pv 0) (pv 1) (λ_ _=>rfl)) au))))) au))),?_⟩
  case hu=>exact hu
  refine⟨ta,_,hta,trivial,λod=>?_⟩
  obtain⟨Hl,hHl⟩:∃Hl,Hl=upd H ta (.frz od (.dT (trk ms))):=⟨_,rfl⟩
  rw[←hHl]
  have hlt:Hl ta=some (.frz od (.dT (trk ms))):=by rw[hHl,aj]
  refine⟨_,rfl,ta,od,rfl,.inr ⟨_,hlt,λD hD=>?_⟩⟩
  refine Fq (λi H'=>aN Hl H'/\∃ts,H' D=some (.lst (ts.map V.ref))/\fK H' ts (nZ (ms.take i))) ?_ ?_ ?_ ?_
  ·exact⟨aN.new (.lst []) hD,[],aj,.nil⟩
  ·rintro i H' _ ⟨g,_⟩
   exact g _ _ hlt
  ·rintro i k0 v q H' hkv hq ⟨g,ts,hDl,hps⟩
   unfold trk at hkv
   rw[List.getElem?_map] at hkv
   obtain⟨⟨m,t⟩,hm,e⟩:=Option.map_eq_some_iff.mp hkv
   cases e
   obtain⟨kd,a,b,e3⟩:=hok.three _ (List.mem_of_getElem? hm)
   have e3:m=[kd,a,b]:=e3
   rw[kZ] at hq
   have hlen:ts.length<=100000:=by
    have h1:ts.length=(nZ (ms.take i)).length:=Paired.length hps
    rw[h1]
    unfold nZ
    rw[List.length_map]
    refine Nat.le_trans (List.length_filter_le _ _) ?_
    rw[List.length_take]
    omega
   have htake:ms.take (i+1)=ms.take i++[(m,t)]:=by
    rw[List.take_succ,hm]
    rfl
   refine⟨rfl,?_⟩
   have at0:(m.map V.int)[0]?=some (.int kd):=by rw[e3];rfl
   have at1:(m.map V.int)[1]?=some (.int a):=by rw[e3];rfl
   refine⟨_,rfl,q,_,_,_,rfl,rfl,SqT.of hq,bw (j:=0) at0,rfl,_,rfl,?_⟩
   refine uL (λc=>?_) (λc=>?_)
   ·have c:kd=1:=by simpa using c
    refine⟨_,rfl,q,_,_,_,rfl,rfl,SqT.of hq,bw (j:=1) at1,_,rfl,_,rfl,ta,_,rfl,.inr ⟨trk ms,iD m,q,.inr ⟨od,g _ _ hlt⟩,rfl,by rw[kZ];exact hq,(val_at hok.nd hm).symm⟩,?_⟩
    refine⟨by show 2<=sizeLine;decide,λT hT=>?_⟩
    have nDT:D≠T:=aa hDl hT
    refine⟨ts.map V.ref,by rw[ao nDT];exact hDl,by rw[List.length_map,sizeLine_eq];omega,?_,ts++[T],?_,?_⟩
    ·intro b o z
     have nb:b≠D:=aa z hD
     rw[ao nb,ao (aa (g _ _ z) hT)]
     exact g _ _ z
    ·rw[aj,List.map_append]
     rfl
    ·rw[htake,tQ,show m.getD 0 0=kd by rw[e3];rfl,if_pos (decide_eq_true c)]
     refine Paired.app (hps.keep λb xs z=>?_) (.cons ?_ .nil)
     ·rw[ao (bI z hDl (by intro y;cases y)),ao (aa z hT)]
      exact z
     ·show upd _ _ _ T=_
      rw[ao (Ne.symm nDT),aj]
      rw[show m.getD 1 0=a by rw[e3];rfl]
   ·have c:¬kd=1:=by simpa using c
    refine⟨g,ts,hDl,?_⟩
    rw[htake,tQ,show m.getD 0 0=kd by rw[e3];rfl,if_neg (by simpa using c),List.append_nil]
    exact hps
  ·rintro H' ⟨g,ts,hDl,hps⟩
   have hfin:nZ (ms.take (trk ms).length)=nZ ms:=by
    unfold trk
    rw[List.length_map,List.take_length]
   rw[hfin] at hps
   refine⟨g _ _ hlt,?_⟩
   have nD:D≠ta:=bI hDl (g _ _ hlt) (by intro y;cases y)
   obtain⟨H2,hH2⟩:∃H2,H2=upd H' ta (.dT (trk ms)):=⟨_,rfl⟩
   rw[←hH2]
   have hD2:H2 D=some (.lst (ts.map V.ref)):=by rw[hH2,ao nD];exact hDl
   have hps2:fK H2 ts (nZ ms):=hps.keep λb xs z=>by
    rw[hH2,ao (bI z (g _ _ hlt) (by intro y;cases y))]
    exact z
   have g2:aN H H2:=λb o z=>by
    by_cases hb:b=ta
    ·subst hb
     rw[hta] at z
     rw[hH2,aj]
     exact z
    ·rw[hH2,ao hb]
     refine g _ _ ?_
     rw[hHl,ao hb]
     exact z
   refine⟨D,ts,rfl,SqL.of hD2,hps2.mem,λts' p hperm hpw hp=>?_⟩
   have hmem':∀t∈ts',∃x,jW H2 t x:=λt ht=>hps2.mem t (hperm.mem_iff.mp ht)
   refine k _ p ts' (ts'.map (Hg H2)) (g2.trans (aN.new (.lst (ts'.map V.ref)) hp)) (g2.fresh hp) aj ((fK.of hmem').keep λb xs z=>?_) ⟨?_,?_⟩
   ·rw[ao (aa z hp)]
    exact z
   ·rw[hps2.eq]
    exact hperm.map _
   ·rw[List.pairwise_map]
    refine hpw.imp_of_mem λ{x y} hx hy h=>?_
    obtain⟨px,hpx⟩:=hmem' x hx
    obtain⟨py,hpy⟩:=hmem' y hy
    rw[oG hpx,oG hpy]
    exact h px py hpx hpy
end
noncomputable abbrev Ht:Stmt:=inClass (top 28) 0
noncomputable abbrev JK:Stmt:=top 29
noncomputable abbrev cC:List Str:=["width","split","tail","force","swell","tracks","key_tracks"]
noncomputable def bf(a b c d e g h:V):List (Str×V):=[("width",a),("split",b),("tail",c),("force",d),("swell",e),("tracks",g),("key_tracks",h)]
theorem Ei(a b c d e g h v:V):eY "force" v (bf a b c d e g h)=bf a b c v e g h:=by rfl
theorem Ej(a b c d e g h v:V):eY "swell" v (bf a b c d e g h)=bf a b c d v g h:=by rfl
theorem Bu(a b c d e g h v:V):eY "tracks" v (bf a b c d e g h)=bf a b c d e v h:=by rfl
theorem Ik(a b c d e g h v:V):eY "key_tracks" v (bf a b c d e g h)=bf a b c d e g v:=by rfl
theorem pP{seen:List (List Int)}{bs:List Int}{p q:Nat}{m:List Int}(h:dI seen bs p=.ok (m,q)):(∃k a b,m=[k,a,b])/\m∉seen:=by
 unfold dI at h
 split at h
 ·cases h
 ·split at h
  ·cases h
  ·split at h
   ·cases h
   ·rename_i hn
    cases h
    exact⟨⟨_,_,_,rfl⟩,hn⟩
theorem pQ{wd:Int}{bs:List Int}:∀{n:Nat} {least:Int} {ms ms':List (List Int×Int)} {p:Nat},dF wd bs n least ms p=.ok ms'->MsOk ms->MsOk ms'/\ms'.length<=ms.length+n
 |0,_,_,_,_,h,_=>by
  unfold dF at h
  cases h
 |n+1,least,ms,ms',p,h,ok=>by
  unfold dF at h
  split at h
  ·cases h
   exact⟨ok,Nat.le_add_right _ _⟩
  ·split at h
   ·cases h
   ·split at h
    ·cases h
    ·split at h
     ·cases h
     ·rename_i m p3 hm
      split at h
      ·cases h
      ·obtain⟨h3,hn⟩:=pP hm
       have:=pQ h ⟨λx hx=>?_,?_⟩
       ·rw[List.length_append] at this
        refine⟨this.1,?_⟩
        have:=this.2
        simp only[List.length_cons,List.length_nil] at this
        omega
       ·rcases List.mem_append.mp hx with y|y
        ·exact ok.three x y
        ·rw[List.mem_singleton.mp y]
         exact h3
       ·rw[List.map_append,List.nodup_append]
        refine⟨ok.nd,by simp,?_⟩
        intro a ha b hb
        have hb:b=m:=by simpa using hb
        subst hb
        exact λz=>hn (z▸ha)
structure d7 where
 width:Int
 split:Int
 tail:Int
 force:List Int
 swell:List Int
 tracks:List (List Int×Int)
structure rQ(CB:Addr)(H0 H:Hp)(a:Addr)(B:d7):Prop where
 ex:∃dx fa sa ta ka ts kts,H0 a=none/\H0 ta=none/\H0 ka=none/\H a=some (.ins CB dx (bf (.int B.width) (.int B.split) (.int B.tail) (.ref fa) (.ref sa) (.ref ta) (.ref ka)))/\H fa=some (.tup (B.force.map V.int))/\H sa=some (.tup (B.swell.map V.int))/\H ta=some (.dT (trk B.tracks))/\H ka=some (.lst (ts.map V.ref))/\fK H ts kts/\n6 B.tracks kts
noncomputable def Fw(bs:List Int):Except Nat d7:=match fZ ("bar":Str).cps.toList bs 0 with
 |.error k=>.error k
 |.ok (_,p1)=>match dJ 1 128 bs p1 with
  |.error k=>.error k
  |.ok (wd,p2)=>match dJ 0 128 bs p2 with
   |.error k=>.error k
   |.ok (sp,p3)=>match aG 10 bs p3 with
    |.error k=>.error k
    |.ok (_,p4)=>match fZ ("tail":Str).cps.toList bs p4 with
     |.error k=>.error k
     |.ok (_,p5)=>match dJ 0 15 bs p5 with
      |.error k=>.error k
      |.ok (tl,p6)=>match aG 10 bs p6 with
       |.error k=>.error k
       |.ok (_,p7)=>match jZ ("force":Str).cps.toList 127 bs p7 with
        |.error k=>.error k
        |.ok (fo,p8)=>match jZ ("swell":Str).cps.toList 1023 bs p8 with
         |.error k=>.error k
         |.ok (sw,p9)=>match dF wd bs (bs.length+1) 0 [] p9 with
          |.error k=>.error k
          |.ok ms=>.ok ⟨wd,sp,tl,fo,sw,ms⟩
structure TxB(mg:Str->Option Value):Prop where
 mw:∃t,mg "MOST_WIDTH_bars"=some (.int 128 t)
 ms:∃t,mg "MOST_SPLIT"=some (.int 128 t)
 mt:∃t,mg "MOST_TAIL"=some (.int 15 t)
 mf:∃t,mg "MOST_FORCE_bars"=some (.int 127 t)
 mS:∃t,mg "MOST_SWELL"=some (.int 1023 t)
section
variable {CF fF CR CB fB fR:Addr}
theorem But.new{r a:Addr}{H:Hp}{o:HO}(h:H a=none):But r H (L2.upd H a o):=λb u z n=>by rw[ao (aa z h)];exact z
def HB(CB:Addr):Sp:=λvs H Q _=>∃(r dx:Addr) (a b c:V),vs=[.ref r,a,b,c]/\H r=some (.ins CB dx [])/\∀H' fa sa ta ka,But r H H'->H' r=some (.ins CB dx (bf a b c (.ref fa) (.ref sa) (.ref ta) (.ref ka)))->Q .non H'
theorem scBI:aJ ["self","width","split","tail"] ["self","width","split","tail"] (aA Ht):=sc0
theorem Je{fd:FuncData}(F:Fun K "__init__" "Bar.__init__" Ht fB fd)(T:KC K mg "Bar" CB fB cC):aF P w K mg base CX0 1 fB fd ["self","width","split","tail"] (HB CB):=by
 refine F.ok scBI (λvs H Q E h=>?_) (λcdv A outer s H vs Q E hr h=>?_)
 ·obtain⟨r,dx,a,b,c,rfl,_⟩:=h
  rfl
 ·obtain⟨r,dx,a,b,c,rfl,hr0,k⟩:=h
  refine⟨_,aq (aU (pv 0) (pv 1) rfl) (aq (aU (pv 0) (pv 2) rfl) (aq (aU (pv 0) (pv 3) rfl)
   (aq (aU (pv 0) (eE au) rfl) (aq (aU (pv 0) (eE au) rfl) (aq (aU (pv 0) wA rfl) (az (aU (pv 0) (cD au) rfl))))))),?_⟩
  refine⟨_,rfl,_,rfl,r,CB,dx,_,rfl,hr0,T.cl,T.no _ dk,(by show 0<1000;decide),?_⟩
  refine⟨_,rfl,_,rfl,r,CB,dx,_,rfl,aj,T.cl,T.no _ dk,(by show 1<1000;decide),?_⟩
  refine⟨_,rfl,_,rfl,r,CB,dx,_,rfl,aj,T.cl,T.no _ dk,(by show 2<1000;decide),?_⟩
  refine⟨Nat.zero_le _,λfa hfa=>?_⟩
  refine⟨_,rfl,r,CB,dx,_,rfl,by rw[ao (aa aj hfa),aj],T.cl,T.no _ dk,(by show 3<1000;decide),?_⟩
  refine⟨Nat.zero_le _,λsa hsa=>?_⟩
  refine⟨_,rfl,r,CB,dx,_,rfl,by rw[ao (aa aj hsa),aj],T.cl,T.no _ dk,(by show 4<1000;decide),?_⟩
  intro ta hta
  refine⟨_,rfl,r,CB,dx,_,rfl,by rw[ao (aa aj hta),aj],T.cl,T.no _ dk,(by show 5<1000;decide),?_⟩
  refine⟨Nat.zero_le _,λka hka=>?_⟩
  refine⟨_,rfl,r,CB,dx,_,rfl,by rw[ao (aa aj hka),aj],T.cl,T.no _ dk,(by show 6<1000;decide),?_⟩
  refine k _ fa sa ta ka ?_ aj
  exact(But.upd _ _ _).trans ((But.upd _ _ _).trans ((But.upd _ _ _).trans ((But.new hfa).trans ((But.upd _ _ _).trans ((But.new hsa).trans ((But.upd _ _ _).trans ((But.new hta).trans ((But.upd _ _ _).trans ((But.new hka).trans (But.upd _ _ _))))))))))
def oBar(K:PySem.W.Frag)(CB:Addr):Sp:=λvs H Q E=>∃(tx:Addr) (bs:List Int),vs=[.ref tx]/\SqL K H tx (bs.map V.int)/\bs.length<=30000/\(∀b∈bs,0<=b/\b<=255)/\match Fw bs with
 |.error k=>∀H',aN H H'->xk E (k:Int) H'
 |.ok B=>∀H' a,aN H H'->rQ CB H H' a B->Q (.ref a) H'
theorem Dg:aJ ["text","reader","width","split","tail","bar"] ["text"] (aA JK):=sc0
theorem ok_bar{f fX fW fN fH fT fKe:Addr}{fd fdX fdW fdN fdH fdT fdR fdB fdKe:FuncData}(F:Fun K "read_bar" "read_bar" JK f fd)(T:TxR K mg CF fF CR)(TS:TxS mg)(TT:TxB mg)(TR:KC K mg "Reader" CR fR ["text","place"])(bR:Binds K fdR ["self","text"] [])(GR:aF P w K mg base CX0 1 fR fdR ["self","text"] (mK K CR))(TK:KC K mg "Bar" CB fB cC)(bB:Binds K fdB ["self","width","split","tail"] [])(GB:aF P w K mg base CX0 1 fB fdB ["self","width","split","tail"] (HB CB))(MX:FM K CR "expect" "Reader.expect" fj ["self","byte"] fX fdX)(GX:aF P w K mg base (CXF P w CF "place") 3 fX fdX ["self","byte"] (gR K CR))(MW:FM K CR "expect_word" "Reader.expect_word" tV ["self","word"] fW fdW)(GW:aF P w K mg base (CXF P w CF "place") 4 fW fdW ["self","word"] (Ab K CR))(MN:FG K mg "read_next_number" tU ["reader","least","most"] fN fdN)(GN:aF P w K mg base (CXF P w CF "place") 4 fN fdN ["reader","least","most"] (z9 K CR))(MH:FG K mg "read_three" mJ ["reader","word","most"] fH fdH)(GH:aF P w K mg base (CXF P w CF "place") 5 fH fdH ["reader","word","most"] (FZ K CR))(MT:FG K mg "read_tracks" oO ["reader","width"] fT fdT)(GT:aF P w K mg base (CXF P w CF "place") 6 fT fdT ["reader","width"] (Aa K CR))(MKe:FG K mg "keys_in_order" tR ["tracks"] fKe fdKe)(GKe:aF P w K mg base CX0 1 fKe fdKe ["tracks"] HF) :
  aF P w K mg base (CXF P w CF "place") 7 f fd ["text"] (oBar K CB):=by
 refine F.okX Dg (λvs H Q E h=>?_) (λcdv A outer s H vs Q E hr h=>?_)
 ·obtain⟨tx,bs,rfl,_⟩:=h
  rfl
 ·obtain⟨tx,bs,rfl,hsq,hfit,hby,out⟩:=h
  obtain⟨t1,m1⟩:=TT.mw
  obtain⟨t2,m2⟩:=TT.ms
  obtain⟨t3,m3⟩:=TS.le
  obtain⟨t4,m4⟩:=TT.mt
  obtain⟨t5,m5⟩:=TT.mf
  obtain⟨t6,m6⟩:=TT.mS
  have hr5:bY 5 _:=hr.mono (by decide)
  have hr4:bY 4 _:=hr.mono (by decide)
  have hr3:bY 3 _:=hr.mono (by decide)
  have hr2:bY 2 _:=hr.mono (by decide)
  have hr1:bY 1 _:=hr.mono (by decide)
  refine⟨_,aq (aP (i:=1) Dg.nd rfl (Or.inl rfl) (dZ TR.mkc GR hr2 rfl TR.mg bR .nil aX (ak (pv 0) au)))
   (aq (bh (aQ (pv 1) T.cl MW.mt GW hr4 MW.bd .nil cT (ak lY au)))
   (aq (aP (i:=2) Dg.nd rfl (Or.inl rfl) (bU GN hr4 rfl MN.mg MN.fn.kp MN.bd .nil cT (ak (pv 1) (ak aC (ak (aD (v:=.int 128) rfl m1 ⟨t1,rfl⟩) au)))))
   (aq (aP (i:=3) Dg.nd rfl (Or.inl rfl) (bU GN hr4 rfl MN.mg MN.fn.kp MN.bd .nil cT (ak (pv 1) (ak aC (ak (aD (v:=.int 128) rfl m2 ⟨t2,rfl⟩) au)))))
   (aq (bh (aQ (pv 1) T.cl MX.mt GX hr3 MX.bd .nil cT (ak (aD (v:=.int 10) rfl m3 ⟨t3,rfl⟩) au)))
   (aq (bh (aQ (pv 1) T.cl MW.mt GW hr4 MW.bd .nil cT (ak lY au)))
   (aq (aP (i:=4) Dg.nd rfl (Or.inl rfl) (bU GN hr4 rfl MN.mg MN.fn.kp MN.bd .nil cT (ak (pv 1) (ak aC (ak (aD (v:=.int 15) rfl m4 ⟨t4,rfl⟩) au)))))
   (aq (bh (aQ (pv 1) T.cl MX.mt GX hr3 MX.bd .nil cT (ak (aD (v:=.int 10) rfl m3 ⟨t3,rfl⟩) au)))
   (aq (aP (i:=5) Dg.nd rfl (Or.inl rfl) (dZ TK.mkc GB hr2 rfl TK.mg bB .nil aX (ak (pv 2) (ak (pv 3) (ak (pv 4) au)))))
   (aq (aU (pv 5) (bU GH hr5 rfl MH.mg MH.fn.kp MH.bd .nil cT (ak (pv 1) (ak lY (ak (aD (v:=.int 127) rfl m5 ⟨t5,rfl⟩) au)))) rfl)
   (aq (aU (pv 5) (bU GH hr5 rfl MH.mg MH.fn.kp MH.bd .nil cT (ak (pv 1) (ak lY (ak (aD (v:=.int 1023) rfl m6 ⟨t6,rfl⟩) au)))) rfl)
   (aq (aU (pv 5) (bU GT hr rfl MT.mg MT.fn.kp MT.bd .nil cT (ak (pv 1) (ak (pv 2) au))) rfl)
   (aq (aU (pv 5) (bU GKe hr1 rfl MKe.mg MKe.fn.kp MKe.bd .nil aX (ak (aB (pv 5) rfl) au)) rfl)
   (az (aO (pv 5))))))))))))))),?_⟩
  refine⟨_,rfl,λr dx0 hrn hdn hne0=>⟨r,dx0,tx,rfl,aj,λH1 h1 oth=>⟨rfl,?_⟩⟩⟩
  have g1:aN H H1:=λb o z=>by
   rw[oth b (aa z hrn),ao (aa z hrn),ao (aa z hdn)]
   exact z
  have R1:du K CR H1 r tx bs 0:=⟨⟨dx0,h1⟩,g1.sq hsq,Nat.zero_le _,hfit,hby⟩
  refine⟨_,rfl,r,dx0,_,rfl,h1,cX _ _ dk dk,r,tx,bs,0,_,rfl,R1,?_⟩
  unfold Fw at out
  revert out
  refine rr_go (fZ ("bar":Str).cps.toList bs 0) (λk out H' b=>out H' (g1.but hrn b)) λ_ p1 out=>?_
  dsimp only at out
  intro H2 R2 b2
  have g2:=g1.but hrn b2
  refine⟨_,rfl,r,tx,bs,p1,1,128,rfl,R2,?_⟩
  revert out
  refine rr_go (dJ 1 128 bs p1) (λk out H' b=>out H' (g2.but hrn b)) λwd p2 out=>?_
  dsimp only at out
  intro H3 R3 b3
  have g3:=g2.but hrn b3
  refine⟨_,rfl,r,tx,bs,p2,0,128,rfl,R3,?_⟩
  revert out
  refine rr_go (dJ 0 128 bs p2) (λk out H' b=>out H' (g3.but hrn b)) λsp p3 out=>?_
  dsimp only at out
  intro H4 R4 b4
  have g4:=g3.but hrn b4
  obtain⟨dx4,h4⟩:=R4.obj
  refine⟨_,rfl,r,dx4,_,rfl,h4,cX _ _ dk dk,r,tx,bs,p3,10,rfl,R4,by decide,?_⟩
  revert out
  refine rr_go (aG 10 bs p3) (λk out H' b=>out H' (g4.but hrn b)) λ_ p4 out=>?_
  dsimp only at out
  intro H5 R5 b5
  have g5:=g4.but hrn b5
  obtain⟨dx5,h5⟩:=R5.obj
  refine⟨_,rfl,r,dx5,_,rfl,h5,cX _ _ dk dk,r,tx,bs,p4,_,rfl,R5,?_⟩
  revert out
  refine rr_go (fZ ("tail":Str).cps.toList bs p4) (λk out H' b=>out H' (g5.but hrn b)) λ_ p5 out=>?_
  dsimp only at out
  intro H6 R6 b6
  have g6:=g5.but hrn b6
  refine⟨_,rfl,r,tx,bs,p5,0,15,rfl,R6,?_⟩
  revert out
  refine rr_go (dJ 0 15 bs p5) (λk out H' b=>out H' (g6.but hrn b)) λtl p6 out=>?_
  dsimp only at out
  intro H7 R7 b7
  have g7:=g6.but hrn b7
  obtain⟨dx7,h7⟩:=R7.obj
  refine⟨_,rfl,r,dx7,_,rfl,h7,cX _ _ dk dk,r,tx,bs,p6,10,rfl,R7,by decide,?_⟩
  revert out
  refine rr_go (aG 10 bs p6) (λk out H' b=>out H' (g7.but hrn b)) λ_ p7 out=>?_
  dsimp only at out
  intro H8 R8 b8
  have g8:=g7.but hrn b8
  obtain⟨dx8,h8⟩:=R8.obj
  refine⟨_,rfl,_,rfl,_,rfl,λba bx hba hbx hbb=>⟨ba,bx,_,_,_,rfl,aj,λH9 fa0 sa0 ta0 ka0 b9 h9=>⟨rfl,?_⟩⟩⟩
  have hrb:r≠ba:=aa h8 hba
  have hbH:H ba=none:=g8.fresh hba
  have g8':aN H8 H9:=λb o z=>b9 b o (by rw[ao (aa z hba),ao (aa z hbx)];exact z) (aa z hba)
  have g9:=g8.trans g8'
  have R9:du K CR H9 r tx bs p7:=⟨⟨dx8,g8' _ _ h8⟩,g9.sq hsq,R8.le,hfit,hby⟩
  refine⟨_,rfl,r,tx,bs,p7,_,127,rfl,R9,?_⟩
  revert out
  refine rr_go (jZ ("force":Str).cps.toList 127 bs p7) (λk out H' b=>out H' (g9.but hrn b)) λfo p8 out=>?_
  dsimp only at out
  intro H10 R10 b10 fa hfan hfa
  have hb10:=b10 _ _ h9 (Ne.symm hrb)
  refine⟨_,rfl,ba,CB,bx,_,rfl,hb10,TK.cl,TK.no _ dk,(by show 7<1000;decide),?_⟩
  rw[Ei]
  have nfa:fa≠ba:=bI hfa hb10 (by intro y;cases y)
  have g10:=g9.but hrn b10
  obtain⟨dx10,h10⟩:=R10.obj
  have gup:∀{H':Hp} (o:HO),aN H H'->aN H (upd H' ba o):=λo g b u z=>by
   rw[ao (aa z hbH)]
   exact g _ _ z
  have R10':du K CR (upd H10 ba (.ins CB bx (bf (.int wd) (.int sp) (.int tl) (.ref fa) (.ref sa0) (.ref ta0) (.ref ka0)))) r tx bs p8:=⟨⟨dx10,by rw[ao hrb];exact h10⟩,(gup _ g10).sq hsq,R10.le,hfit,hby⟩
  refine⟨_,rfl,r,tx,bs,p8,_,1023,rfl,R10',?_⟩
  cases hx7:jZ ("swell":Str).cps.toList 1023 bs p8 with
  |error k =>
   rw[hx7] at out
   exact λH' b=>out H' ((gup _ g10).but hrn b)
  |ok x =>
  obtain⟨sw,p9⟩:=x
  rw[hx7] at out
  dsimp only at out
  intro H11 R11 b11 sa hsan hsa
  have hb11:=b11 _ _ aj (Ne.symm hrb)
  refine⟨_,rfl,ba,CB,bx,_,rfl,hb11,TK.cl,TK.no _ dk,(by show 7<1000;decide),?_⟩
  rw[Ej]
  have nsa:sa≠ba:=bI hsa hb11 (by intro y;cases y)
  have g11:=(gup _ g10).but hrn b11
  obtain⟨dx11,h11⟩:=R11.obj
  have nfr:fa≠r:=bI hfa h10 (by intro y;cases y)
  have hfa11:H11 fa=some (.tup (fo.map V.int)):=b11 _ _ (by rw[ao nfa];exact hfa) nfr
  have R11':du K CR (upd H11 ba (.ins CB bx (bf (.int wd) (.int sp) (.int tl) (.ref fa) (.ref sa) (.ref ta0) (.ref ka0)))) r tx bs p9:=⟨⟨dx11,by rw[ao hrb];exact h11⟩,(gup _ g11).sq hsq,R11.le,hfit,hby⟩
  refine⟨_,rfl,_,rfl,r,tx,bs,p9,wd,rfl,R11',?_⟩
  cases hx8:dF wd bs (bs.length+1) 0 [] p9 with
  |error k =>
   rw[hx8] at out
   exact λH' b=>out H' ((gup _ g11).but hrn b)
  |ok ms =>
  rw[hx8] at out
  dsimp only at out
  intro H12 ta b12 htan hta
  have hb12:=b12 _ _ aj (Ne.symm hrb)
  refine⟨_,rfl,ba,CB,bx,_,rfl,hb12,TK.cl,TK.no _ dk,(by show 7<1000;decide),?_⟩
  rw[Bu]
  have nta:ta≠ba:=bI hta hb12 (by intro y;cases y)
  have nsr:sa≠r:=bI hsa h11 (by intro y;cases y)
  have g12:=(gup _ g11).but hrn b12
  obtain⟨mok,mlen⟩:=pQ hx8 ⟨λx hx=>(by cases hx),List.nodup_nil⟩
  have hb12':upd H12 ba (.ins CB bx (bf (.int wd) (.int sp) (.int tl) (.ref fa) (.ref sa) (.ref ta) (.ref ka0))) ba=_:=aj
  obtain⟨H13,hH13⟩:∃H13,H13=upd H12 ba (.ins CB bx (bf (.int wd) (.int sp) (.int tl) (.ref fa) (.ref sa) (.ref ta) (.ref ka0))):=⟨_,rfl⟩
  rw[←hH13] at hb12' ⊢
  have hta13:H13 ta=some (.dT (trk ms)):=by rw[hH13,ao nta];exact hta
  have g13:aN H H13:=by rw[hH13];exact gup _ g12
  refine⟨_,rfl,ba,CB,bx,_,_,rfl,hb12',TK.cl,TK.no _ dk,rfl,ta,ms,rfl,hta13,mok,by simp only[List.length_nil] at mlen;omega,?_⟩
  intro H14 ka ts kts g14 hka hkl hkp hko
  refine⟨_,rfl,ba,CB,bx,_,rfl,g14 _ _ hb12',TK.cl,TK.no _ dk,(by show 7<1000;decide),?_⟩
  rw[Ik]
  have nka:ka≠ba:=(aa hb12' hka).symm
  refine⟨_,rfl,out _ ba (gup _ (g13.trans g14)) ⟨bx,fa,sa,ta,ka,ts,kts,hbH,(gup _ g11).fresh htan,g13.fresh hka,aj,?_,?_,?_,?_,?_,hko⟩⟩
  ·rw[ao nfa]
   refine g14 _ _ ?_
   rw[hH13,ao nfa]
   exact b12 _ _ (by rw[ao nfa];exact hfa11) nfr
  ·rw[ao nsa]
   refine g14 _ _ ?_
   rw[hH13,ao nsa]
   exact b12 _ _ (by rw[ao nsa];exact hsa) nsr
  ·rw[ao nta]
   exact g14 _ _ hta13
  ·rw[ao nka]
   exact hkl
  ·refine hkp.keep λb xs z=>?_
   rw[ao (bI z (g14 _ _ hb12') (by intro y;cases y))]
   exact z
end
noncomputable abbrev yP:Stmt:=inClass (top 95) 0
noncomputable abbrev qG:Stmt:=inClass (top 94) 0
noncomputable abbrev ik:List Str:=["which","behind","numbers","text"]
noncomputable def hmN(wh:Int):Option Nat:=if wh=1 then some 4 else if wh=2 then some 0 else if wh=3 then some 0 else if wh=4 then some 2 else if wh=5 then some 1 else if wh=6 then some 0 else none
structure HowAt(P:Program)(w:World)(K:PySem.W.Frag)(mg:Str->Option Value)(a:Addr)(kvs:List (Key×V)):Prop where
 mg:mg "HOW_MANY_NUMBERS"=some (.ref a)
 top:xu P w K a kvs
 val:∀wh n,hmN wh=some n->dN kvs (.inl wh)=some (.int n)
structure zB(K:PySem.W.Frag)(mg:Str->Option Value)(a:Addr):Prop where
 mg:mg "CALLS_WITH_TEXT"=some (.ref a)
 at_:∀H,SqT K H a [.int 1,.int 2]
noncomputable def cf(wh b na ta:V):List (Str×V):=[("which",wh),("behind",b),("numbers",na),("text",ta)]
noncomputable def part(l:List Int)(i n:Nat):List Int:=(l.drop i).take n
theorem vP{l:List Int}{i n:Nat}(h:i+n<=l.length):vN (l.map V.int) (some (i:Int)) (some ((i+n:Nat):Int))=(part l i n).map V.int:=by
 unfold vN part
 rw[HT.Ak,HT.Ak,List.length_map,Nat.min_eq_left h,Nat.min_eq_left (by omega),List.map_take,List.map_drop,show i+n-i=n by omega]
theorem via{α:Type}{P F:α->Prop}{x:α}(hF:F x)(h:∀y,F y->P y):P x:=h x hF
section
variable {CC fC CH fH:Addr}
def ue(CH:Addr):Sp:=λvs H Q _=>∃(r dx:Addr),vs=[.ref r]/\H r=some (.ins CH dx [])/\Q .non (upd H r (.ins CH dx [("player",.non)]))
theorem scHo:aJ ["self"] ["self"] (aA qG):=sc0
theorem yC{fd:FuncData}(F:Fun K "__init__" "Holder.__init__" qG fH fd)(T:KC K mg "Holder" CH fH ["player"]):aF P w K mg base CX0 1 fH fd ["self"] (ue CH):=by
 refine F.ok scHo (λvs H Q E h=>?_) (λcdv A outer s H vs Q E hr h=>?_)
 ·obtain⟨r,dx,rfl,_⟩:=h
  rfl
 ·obtain⟨r,dx,rfl,hr0,k⟩:=h
  refine⟨_,az (aU (pv 0) pe_non rfl),?_⟩
  exact⟨_,rfl,r,CH,dx,_,rfl,hr0,T.cl,T.no _ dk,(by show 0<1000;decide),k⟩
structure CallAt(l:List Int)(p:Nat)(wh:Int)(n:Nat)(m:Option Nat):Prop where
 at_:l[p]?=some wh
 hm:hmN wh=some n
 le:p+1+n<=l.length
 no:m=none->wh≠1/\wh≠2
 yes:∀k,m=some k->(wh=1∨wh=2)/\l[p+1+n]?=some (k:Int)/\p+1+n+1+k<=l.length
noncomputable def behind(p n:Nat):Option Nat->Nat
 |none=>p+1+n
 |some k=>p+1+n+1+k
noncomputable def textOf(l:List Int)(p n:Nat):Option Nat->List Int
 |none=>[]
 |some k=>part l (p+1+n+1) k
def Aw(K:PySem.W.Frag)(CC:Addr):Sp:=λvs H Q _=>∃(r dx a:Addr) (l:List Int) (p:Nat) (wh:Int) (n:Nat) (m:Option Nat),vs=[.ref r,.ref a,.int p]/\H r=some (.ins CC dx [])/\SqL K H a (l.map V.int)/\CallAt l p wh n m /\
 ∀H' na ta,But r H H'->H na=none->H ta=none->H' r=some (.ins CC dx (cf (.int wh) (.int (behind p n m)) (.ref na) (.ref ta)))->H' na=some (.lst ((part l (p+1) n).map V.int))->H' ta=some (.lst ((textOf l p n m).map V.int))->Q .non H'
theorem scCa:aJ ["self","calls","start","text_start"] ["self","calls","start"] (aA yP):=sc0
theorem But.sq{r:Addr}{H H':Hp}(b:But r H H')(hr:∃C dx fs,H r=some (.ins C dx fs)){a:Addr}{xs:List V}(h:SqL K H a xs):SqL K H' a xs:=by
 obtain⟨C,dx,fs,hr⟩:=hr
 rcases h with (z|⟨o,z⟩)|z
 ·exact .inl (.inl (b _ _ z (bI z hr (by intro y;cases y))))
 ·exact .inl (.inr ⟨o,b _ _ z (bI z hr (by intro y;cases y))⟩)
 ·exact .inr z
theorem Gg{fd:FuncData}{aH aT:Addr}{kvs:List (Key×V)}(F:Fun K "__init__" "Call.__init__" yP fC fd)(T:KC K mg "Call" CC fC ik)(TH:HowAt P w K mg aH kvs)(TT:zB K mg aT):aF P w K mg base CX0 1 fC fd ["self","calls","start"] (Aw K CC):=by
 refine F.ok scCa (λvs H Q E h=>?_) (λcdv A outer s H vs Q E hr h=>?_)
 ·obtain⟨r,dx,a,l,p,wh,n,m,rfl,_⟩:=h
  rfl
 ·obtain⟨r,dx,a,l,p,wh,n,m,rfl,hr0,hsq,C,k⟩:=h
  have nW:=T.no "which" dk
  have nB:=T.no "behind" dk
  have nN:=T.no "numbers" dk
  have nT:=T.no "text" dk
  refine⟨_,aq (aU (pv 0) (cz dg (pv 1) (pv 2) (λ_ _=>rfl)) rfl)
   (aq (aU (pv 0) (bc cV (bc cV (pv 2) aC) (qm (aD (v:=.ref aH) rfl TH.mg rfl) (aB (pv 0) rfl) (λ_ _=>rfl))) rfl)
   (aq (aU (pv 0) (wD Aq (pv 1) (oF (bc cV (pv 2) aC)) (oF (aB (pv 0) rfl))) rfl)
   (aq (aU (pv 0) (cD au) rfl)
   (az (cA (bG CV (aB (pv 0) rfl) (aD (v:=.ref aT) rfl TT.mg rfl) rfl)
    (aq (aP (i:=3) scCa.nd rfl (Or.inl rfl) (bc cV (aB (pv 0) rfl) aC))
    (aq (aU (pv 0) (bc cV (pv 3) (cz dg (pv 1) (aB (pv 0) rfl) (λ_ _=>rfl))) rfl)
    (az (aU (pv 0) (wD Aq (pv 1) (oF (pv 3)) (oF (aB (pv 0) rfl))) rfl)))) aZ))))),?_⟩
  have hri:∃C dx fs,H r=some (.ins C dx fs):=⟨_,_,_,hr0⟩
  refine⟨_,rfl,_,rfl,a,_,_,_,rfl,rfl,hsq,bw (j:=p) (v:=.int wh) (by rw[List.getElem?_map,C.at_];rfl),_,rfl,r,CC,dx,_,rfl,hr0,T.cl,nW,(by show 0<1000;decide),?_⟩
  refine⟨_,rfl,_,_,rfl,rfl,_,rfl,r,CC,dx,_,_,rfl,aj,T.cl,nW,rfl,aH,kvs,.inl wh,.int n,rfl,TH.top,rfl,TH.val _ _ C.hm,_,_,rfl,rfl,_,rfl,r,CC,dx,_,rfl,aj,T.cl,nB,(by show 1<1000;decide),?_⟩
  rw[cG]
  have b1:But r H (upd H r (.ins CC dx [("which",.int wh),("behind",.int ((p:Int)+1+n))])):=But.upd _ _ _
  refine⟨_,rfl,_,rfl,_,_,rfl,rfl,_,rfl,_,rfl,r,CC,dx,_,_,rfl,aj,T.cl,nB,rfl,_,rfl,a,_,rfl,b1.sq hri hsq,λna hna=>?_⟩
  refine⟨_,rfl,r,CC,dx,_,rfl,by rw[ao (aa aj hna)];exact aj,T.cl,nN,(by show 2<1000;decide),?_⟩
  refine⟨Nat.zero_le _,λta hta=>?_⟩
  have nra:r≠na:=aa aj hna
  have nrt:r≠ta:=aa aj hta
  have nat:na≠ta:=by
   rintro rfl
   rw[ao (Ne.symm nra),aj] at hta
   cases hta
  refine⟨_,rfl,r,CC,dx,_,rfl,by rw[ao nrt];exact aj,T.cl,nT,(by show 3<1000;decide),?_⟩
  have fna:H na=none:=b1.fresh ⟨_,aj⟩ hna
  have fta:H ta=none:=by
   refine b1.fresh ⟨_,aj⟩ ?_
   rw[ao (Ne.symm nrt),ao (Ne.symm nat)] at hta
   exact hta
  have ecut:vN (l.map V.int) (some ((p:Int)+1)) (some ((p:Int)+1+n))=(part l (p+1) n).map V.int:=vP C.le
  rw[ecut]
  have bb:=b1.trans ((But.new (r:=r) (o:=.lst ((part l (p+1) n).map V.int)) hna).trans ((But.upd r _ (.ins CC dx (eY "numbers" (.ref na) [("which",.int wh),("behind",.int ((p:Int)+1+n))]))).trans ((But.new (r:=r) (o:=.lst []) (by rw[ecut] at hta;exact hta)).trans (But.upd r _ (.ins CC dx (eY "text" (.ref ta) (eY "numbers" (.ref na) [("which",.int wh),("behind",.int ((p:Int)+1+n))])))))))
  dsimp only
  refine via (F:=λH3=>But r H H3/\H3 r=some (.ins CC dx (cf (.int wh) (.int ((p:Int)+1+n)) (.ref na) (.ref ta)))/\H3 na=some (.lst ((part l (p+1) n).map V.int))/\H3 ta=some (.lst [])) ?_ ?_
  ·refine⟨bb,by rw[aj];rfl,?_,?_⟩
   ·rw[ao (Ne.symm nra),ao nat,ao (Ne.symm nra),aj]
   ·rw[ao (Ne.symm nrt),aj]
  rintro H3 ⟨bb,r3,n3,t3⟩
  refine⟨_,rfl,r,CC,dx,_,_,rfl,r3,T.cl,nW,rfl,aT,_,rfl,.inr (TT.at_ _),rfl,rfl,_,rfl,?_⟩
  cases m with
  |none =>
   obtain⟨w1,w2⟩:=C.no rfl
   refine aV ?_ ?_
   ·show ¬inV (.int wh) [.int 1,.int 2]=true
    unfold inV eqV
    simp[Ne.symm w1,Ne.symm w2]
   ·exact k H3 na ta bb fna fta r3 n3 t3
  |some q =>
   obtain⟨hw,hq,hle⟩:=C.yes q rfl
   refine aM ?_ ?_
   ·show inV (.int wh) [.int 1,.int 2]=true
    unfold inV eqV
    rcases hw with rfl|rfl<;>rfl
   ·have hsq3:SqL K H3 a (l.map V.int):=bb.sq hri hsq
    refine⟨_,rfl,r,CC,dx,_,_,rfl,r3,T.cl,nB,rfl,_,_,rfl,rfl,?_⟩
    refine⟨_,rfl,_,rfl,_,rfl,r,CC,dx,_,_,rfl,r3,T.cl,nB,rfl,a,_,_,_,rfl,rfl,hsq3,bw (j:=p+1+n) (v:=.int q) (by rw[List.getElem?_map,hq];rfl),_,_,rfl,rfl,_,rfl,r,CC,dx,_,rfl,r3,T.cl,nB,(by show 4<1000;decide),?_⟩
    have b4:But r H (upd H3 r (.ins CC dx (eY "behind" (.int ((p:Int)+1+n+1+q)) (cf (.int wh) (.int ((p:Int)+1+n)) (.ref na) (.ref ta))))):=bb.trans (But.upd _ _ _)
    refine⟨_,rfl,_,rfl,_,rfl,_,rfl,r,CC,dx,_,_,rfl,aj,T.cl,nB,rfl,_,rfl,a,_,rfl,b4.sq hri hsq,λtb htb=>?_⟩
    have nrb:r≠tb:=aa aj htb
    refine⟨_,rfl,r,CC,dx,_,rfl,by rw[ao nrb];exact aj,T.cl,nT,(by show 4<1000;decide),?_⟩
    have ecut2:vN (l.map V.int) (some ((p:Int)+1+n+1)) (some ((p:Int)+1+n+1+q))=(part l (p+1+n+1) q).map V.int:=vP hle
    rw[ecut2]
    refine k _ na tb ?_ fna (bb.fresh ⟨_,r3⟩ (by rw[ao (Ne.symm nrb)] at htb;exact htb)) aj ?_ ?_
    ·exact b4.trans ((But.new htb).trans (But.upd _ _ _))
    ·have nnb:na≠tb:=aa (by rw[ao (Ne.symm nra)];exact n3) htb
     rw[ao (Ne.symm nra),ao nnb,ao (Ne.symm nra)]
     exact n3
    ·rw[ao (Ne.symm nrb),aj]
     rfl
end
end PR
namespace PR
open NLines (bytesOf)
def AllB(bs:List Int):Prop:=∀b∈bs,0<=b/\b<=255
theorem AllB.drop{bs:List Int}(h:AllB bs)(p:Nat):AllB (bs.drop p):=λb hb=>h b (List.mem_of_mem_drop hb)
theorem AllB.tail{b:Int}{l:List Int}(h:AllB (b::l)):AllB l:=λc hc=>h c (List.mem_cons_of_mem _ hc)
theorem AllB.head{b:Int}{l:List Int}(h:AllB (b::l)):0<=b/\b<=255:=h b (List.mem_cons_self ..)
theorem u8{b:Int}(h0:0<=b)(h1:b<=255):(UInt8.ofNat b.toNat).toNat=b.toNat:=by
 rw[UInt8.toNat_ofNat']
 exact Nat.mod_eq_of_lt (by omega)
theorem uq{b:Int}{c:Nat}(h0:0<=b)(h1:b<=255)(hc:c<256):(UInt8.ofNat c=UInt8.ofNat b.toNat)↔b=(c:Int):=by
 constructor
 ·intro h
  have e:=congrArg UInt8.toNat h
  rw[u8 h0 h1,UInt8.toNat_ofNat',Nat.mod_eq_of_lt (by omega)] at e
  omega
 ·intro h
  rw[h]
  rfl
theorem cu(bs:List Int)(p:Nat):(bytesOf bs).drop p=bytesOf (bs.drop p):=by
 unfold bytesOf
 rw[List.map_drop]
theorem dz(b:Int)(l:List Int):bytesOf (b::l)=UInt8.ofNat b.toNat::bytesOf l:=rfl
theorem dH{bs:List Int}{p:Nat}(h:p<bs.length):bs.drop p=byteAt bs p::bs.drop (p+1):=by
 rw[List.drop_eq_getElem_cons h]
 congr 1
 unfold byteAt
 rw[List.getD_eq_getElem?_getD,List.getElem?_eq_getElem h]
 rfl
theorem ji{bs:List Int}(hb:AllB bs){p:Nat}(h:p<bs.length):0<=byteAt bs p/\byteAt bs p<=255:=by
 have e:=gk h
 exact hb _ (List.mem_of_getElem? e)
theorem xW{b:Int}(h0:0<=b)(h1:b<=255):Rol.isDigit (UInt8.ofNat b.toNat)=isDig b:=by
 unfold Rol.isDigit isDig
 rw[u8 h0 h1]
 congr 1
 ·exact decide_eq_decide.mpr (by omega)
 ·exact decide_eq_decide.mpr (by omega)
theorem xX{b:Int}(h0:0<=b)(h1:b<=255):Rol.isSmall (UInt8.ofNat b.toNat)=kW b:=by
 unfold Rol.isSmall kW
 rw[u8 h0 h1]
 congr 1
 ·exact decide_eq_decide.mpr (by omega)
 ·exact decide_eq_decide.mpr (by omega)
theorem rC{f:UInt8->Bool}{g:Int->Bool}(hfg:∀b,0<=b->b<=255->f (UInt8.ofNat b.toNat)=g b):∀{l:List Int},AllB l->(bytesOf l).takeWhile f=bytesOf (l.takeWhile g)
 |[],_=>rfl
 |b::l,h=>by
  rw[dz,List.takeWhile_cons,List.takeWhile_cons,hfg b h.head.1 h.head.2]
  cases g b with
  |true =>
   simp only[if_true]
   rw[rC hfg h.tail]
   rfl
  |false=>rfl
theorem nM:∀{d:List Int} {a:Nat} {c:Int},(∀b∈d,isDig b=true)->AllB d->c=min (a:Int) 10000 ->
  d.foldl vM c=min (((bytesOf d).foldl (λ(n:Nat) (x:UInt8)=>10*n+(x.toNat-48)) a:Nat):Int) 10000
 |[],a,c,_,_,hc=>hc
 |b::d,a,c,h,hb,hc=>by
  rw[dz,List.foldl_cons,List.foldl_cons,u8 hb.head.1 hb.head.2]
  refine nM (λx hx=>h x (List.mem_cons_of_mem _ hx)) hb.tail ?_
  have hd:=h b (List.mem_cons_self ..)
  unfold isDig at hd
  rw[Bool.and_eq_true,decide_eq_true_eq,decide_eq_true_eq] at hd
  unfold vM
  split<;>omega
def rM{α β:Type}(bs:List Int)(f:α->β->Prop):RR α->Rol.Read β->Prop
 |.error k,.error k'=>k=k'
 |.ok (x,q),.ok (y,q',b)=>f x y/\q'=q/\b=(bytesOf bs).drop q/\q<=bs.length
 |_,_=>False
theorem rM.split{α β:Type}{bs:List Int}{f:α->β->Prop}{m:RR α}{r:Rol.Read β}(h:rM bs f m r):(∃k,m=.error k/\r=.error k)∨∃x q y,m=.ok (x,q)/\r=.ok (y,q,(bytesOf bs).drop q)/\f x y/\q<=bs.length:=by
 match m,r,h with
 |.error k,.error k',h=>exact .inl ⟨k,rfl,by rw[show k=k' from h]⟩
 |.ok (x,q),.ok (y,q',b),⟨h1,h2,h3,h4⟩=>exact .inr ⟨x,q,y,rfl,by rw[h2,h3],h1,h4⟩
theorem xT{d:List Int}(h:AllB d):(bytesOf d).head?=some 48↔d.head?=some 48:=by
 cases d with
 |nil =>
  constructor
  ·intro z
   cases z
  ·intro z
   cases z
 |cons b l =>
  rw[dz]
  simp only[List.head?_cons,Option.some.injEq]
  have:=uq (c:=48) h.head.1 h.head.2 (by decide)
  constructor
  ·intro z
   exact this.mp z.symm
  ·intro z
   exact(this.mpr z).symm
theorem cZ{bs:List Int}(hb:AllB bs){p:Nat}(hp:p<=bs.length){lo hi:Nat}(hl:lo<=10000)(hh:hi<10000):rM bs (λ(x:Int) (y:Nat)=>x=(y:Int)) (dD lo hi bs p) (Rol.numberIn lo hi p ((bytesOf bs).drop p)):=by
 have e:((bytesOf bs).drop p).takeWhile Rol.isDigit=bytesOf (dX (bs.drop p)):=by
  rw[cu]
  exact rC (λb h0 h1=>xW h0 h1) (hb.drop p)
 generalize hd:dX (bs.drop p)=d at e
 have hdd:∀b∈d,isDig b=true:=by
  rw[←hd]
  intro b hb'
  exact List.all_eq_true.mp (List.all_takeWhile (p:=isDig) (l:=bs.drop p)) b hb'
 have hdb:AllB d:=λb hb'=>by
  rw[←hd] at hb'
  exact hb.drop p b ((List.takeWhile_prefix _).subset hb')
 have hlen:(bytesOf d).length=d.length:=by
  unfold bytesOf
  rw[List.length_map]
 have hv:jT d=min ((Rol.number (bytesOf d):Nat):Int) 10000:=nM hdd hdb (by decide)
 have hnil:bytesOf d=[]↔d=[]:=by
  unfold bytesOf
  exact List.map_eq_nil_iff
 have hiff:iJ lo hi d↔(bytesOf d=[]∨((bytesOf d).head?=some 48/\(bytesOf d).length≠1)∨Rol.number (bytesOf d)<lo∨hi<Rol.number (bytesOf d)):=by
  unfold iJ
  rw[hnil,hlen,xT hdb,hv]
  have hpos:d.head?=some 48->0<d.length:=by
   intro z
   cases d with
   |nil=>cases z
   |cons a l=>exact Nat.zero_lt_succ _
  constructor
  ·rintro(h|h|h|⟨h,h'⟩)
   ·exact .inl h
   ·exact .inr (.inr (.inl (by omega)))
   ·exact .inr (.inr (.inr (by omega)))
   ·exact .inr (.inl ⟨h',by omega⟩)
  ·rintro(h|⟨h,h'⟩|h|h)
   ·exact .inl h
   ·have:=hpos h
    exact .inr (.inr (.inr ⟨by omega,h⟩))
   ·exact .inr (.inl (by omega))
   ·exact .inr (.inr (.inl (by omega)))
 unfold dD Rol.numberIn
 rw[e,hd]
 by_cases hn:iJ lo hi d
 ·rw[if_pos hn]
  simp only
  rw[if_pos (hiff.mp hn)]
  rfl
 ·rw[if_neg hn]
  simp only
  rw[if_neg (λz=>hn (hiff.mpr z))]
  have hle:d.length<=bs.length-p:=by
   rw[←hd]
   have:=zL (bs.drop p)
   rw[List.length_drop] at this
   exact this
  refine⟨?_,by rw[hlen],?_,by omega⟩
  ·rw[hv]
   have h2:¬hi<Rol.number (bytesOf d):=λz=>hn (hiff.mpr (.inr (.inr (.inr z))))
   omega
  ·rw[hlen,List.drop_drop]
theorem xR(p:Nat)(b:Rol.Bytes):Rol.exactly [] p b=.ok ((),p,b):=by
 unfold Rol.exactly
 simp
theorem uH(c:UInt8)(a:Rol.Bytes)(p:Nat):Rol.exactly (c::a) p []=.error p:=by
 unfold Rol.exactly Rol.mustBe
 simp
theorem uG(c d:UInt8)(a x:Rol.Bytes)(p:Nat):Rol.exactly (c::a) p (d::x)=if c=d then Rol.exactly a (p+1) x else .error p:=by
 unfold Rol.exactly Rol.mustBe
 by_cases h:c=d
 ·subst h
  simp only[List.isPrefixOf_cons₂,beq_self_eq_true,Bool.true_and,List.zip_cons_cons,List.takeWhile_cons,if_true,List.length_cons,List.drop_succ_cons]
  rw[show p+(a.length+1)=p+1+a.length by omega]
  split
  ·rfl
  ·congr 1
   omega
 ·simp[h]
theorem xQ(a b:Rol.Bytes)(p:Nat)(x:Rol.Bytes):Rol.exactly (a++b) p x=Rol.andThen (Rol.exactly a) (λ_=>Rol.exactly b) p x:=by
 induction a generalizing p x with
 |nil =>
  unfold Rol.andThen
  rw[xR]
  rfl
 |cons c a ih =>
  unfold Rol.andThen at ih ⊢
  cases x with
  |nil =>
   rw[List.cons_append,uH,uH]
  |cons d x =>
   rw[List.cons_append,uG,uG]
   by_cases h:c=d
   ·rw[if_pos h,if_pos h]
    exact ih (p+1) x
   ·rw[if_neg h,if_neg h]
theorem cJ{bs:List Int}(hb:AllB bs){p:Nat}(hp:p<=bs.length){c:Nat}(hc:c<256):rM bs (λ_ _=>True) (aG c bs p) (Rol.exactly [UInt8.ofNat c] p ((bytesOf bs).drop p)):=by
 unfold aG
 rcases Nat.lt_or_eq_of_le hp with h|h
 ·rw[cu,dH h,dz,uG]
  have hy:=ji hb h
  by_cases e:byteAt bs p=(c:Int)
  ·rw[if_pos e,if_pos ((uq hy.1 hy.2 hc).mpr e),xR]
   exact⟨trivial,rfl,by rw[cu],h⟩
  ·rw[if_neg e,if_neg (λz=>e ((uq hy.1 hy.2 hc).mp z))]
   rfl
 ·subst h
  rw[fQ,if_neg (by omega),cu,List.drop_length]
  rw[show bytesOf []=[] from rfl,uH]
  rfl
theorem Ci(bs:List Int)(p:Nat):fZ [] bs p=.ok ((),p):=by
 unfold fZ
 cases bs.drop p<;>rfl
theorem yg(c:Nat)(cs:List Nat)(bs:List Int){p:Nat}(hp:p<=bs.length):fZ (c::cs) bs p=match aG c bs p with|.error k=>.error k|.ok (_,q)=>fZ cs bs q:=by
 unfold fZ aG
 rcases Nat.lt_or_eq_of_le hp with h|h
 ·rw[dH h]
  rw[show dq (c::cs) (byteAt bs p::bs.drop (p+1))=if byteAt bs p=(c:Int) then dq cs (bs.drop (p+1))+1 else 0 from rfl]
  by_cases e:byteAt bs p=(c:Int)
  ·rw[if_pos e,if_pos e]
   simp only[List.length_cons,Nat.add_right_cancel_iff]
   by_cases hc:dq cs (bs.drop (p+1))=cs.length
   ·rw[if_pos hc,if_pos hc,show p+(cs.length+1)=p+1+cs.length by omega]
   ·rw[if_neg hc,if_neg hc,show p+(dq cs (bs.drop (p+1))+1)=p+1+dq cs (bs.drop (p+1)) by omega]
  ·rw[if_neg e,if_neg e]
   simp
 ·subst h
  rw[fQ,if_neg (show ¬(-1:Int)=(c:Int) by omega),List.drop_length]
  simp[dq]
theorem gr{bs:List Int}(hb:AllB bs):∀{cs:List Nat} {p:Nat},p<=bs.length->(∀c∈cs,c<256)->rM bs (λ_ _=>True) (fZ cs bs p) (Rol.exactly (cs.map UInt8.ofNat) p ((bytesOf bs).drop p))
 |[],p,hp,_=>by
  rw[Ci,List.map_nil,xR]
  exact⟨trivial,rfl,rfl,hp⟩
 |c::cs,p,hp,h=>by
  rw[yg c cs bs hp,List.map_cons,show UInt8.ofNat c::cs.map UInt8.ofNat=[UInt8.ofNat c]++cs.map UInt8.ofNat from rfl,xQ]
  unfold Rol.andThen
  rcases (cJ hb hp (h c (List.mem_cons_self ..))).split with ⟨k,e1,e2⟩|⟨x,q,y,e1,e2,_,hq⟩
  ·rw[e1,e2]
   rfl
  ·rw[e1,e2]
   exact gr hb hq λc' hc'=>h c' (List.mem_cons_of_mem _ hc')
noncomputable def bj:List Int->Nat
 |[]=>0
 |t::r=>2 ^ t.toNat+bj r
inductive eQ(hi:Int):Int->List Int->Prop where
 |nil {lo:Int}:eQ hi lo []
 |cons {lo t:Int} {r:List Int} (h1:lo<=t) (h2:t<hi) (h:eQ hi (t+1) r):eQ hi lo (t::r)
theorem eQ.dvd{hi:Int}:∀{lo:Int} {l:List Int},0<=lo->eQ hi lo l->∃m,bj l=2 ^ lo.toNat*m
 |lo,[],_,_=>⟨0,rfl⟩
 |lo,t::r,h0,.cons h1 h2 h=>by
  obtain⟨m,e⟩:=eQ.dvd (by omega) h
  refine⟨2 ^ (t.toNat-lo.toNat)+2 ^ ((t+1).toNat-lo.toNat)*m,?_⟩
  unfold bj
  rw[e,Nat.mul_add,←Nat.mul_assoc,←Nat.pow_add,←Nat.pow_add]
  congr 3<;>omega
theorem eQ.bit{hi:Int}:∀{lo:Int} {l:List Int},0<=lo->eQ hi lo l->∀j:Nat,Nat.testBit (bj l) j=decide ((j:Int)∈l)
 |lo,[],_,_,j=>by simp[bj]
 |lo,t::r,h0,.cons h1 h2 h,j=>by
  obtain⟨m,e⟩:=eQ.dvd (by omega) h
  have ih:=eQ.bit (by omega) h j
  obtain⟨n,rfl⟩:∃n:Nat,t=n:=⟨t.toNat,by omega⟩
  have e':((n:Int)+1).toNat=n+1:=by omega
  rw[e'] at e
  unfold bj
  rw[Int.toNat_natCast,e,Nat.add_comm,Nat.testBit_two_pow_mul_add m (Nat.pow_lt_pow_right (by decide) (Nat.lt_succ_self n)) j]
  rw[e] at ih
  have e2:=Nat.testBit_two_pow_mul_add m (Nat.two_pow_pos (n+1)) j
  rw[Nat.add_zero] at e2
  rw[e2] at ih
  by_cases hj:j<n+1
  ·rw[if_pos hj,Nat.testBit_two_pow]
   rw[if_pos hj] at ih
   have hn:¬(j:Int)∈r:=by
    intro z
    rw[decide_eq_true z] at ih
    simp at ih
   rw[decide_eq_decide]
   constructor
   ·intro z
    subst z
    exact List.mem_cons_self ..
   ·intro z
    rcases List.mem_cons.mp z with z|z
    ·omega
    ·exact absurd z hn
  ·rw[if_neg hj]
   rw[if_neg hj] at ih
   rw[ih,decide_eq_decide]
   constructor
   ·intro z
    exact List.mem_cons_of_mem _ z
   ·intro z
    rcases List.mem_cons.mp z with z|z
    ·omega
    ·exact z
theorem eQ.ext{hi:Int}:∀{lo lo':Int} {l m:List Int},eQ hi lo l->eQ hi lo' m->(∀x,x∈l↔x∈m)->l=m
 |_,_,[],[],_,_,_=>rfl
 |_,_,[],b::m,_,_,h=>by
  have:=(h b).mpr (List.mem_cons_self ..)
  cases this
 |_,_,a::l,[],_,_,h=>by
  have:=(h a).mp (List.mem_cons_self ..)
  cases this
 |_,_,a::l,b::m,.cons a1 a2 ha,.cons b1 b2 hb,h=>by
  have lb:∀{lo:Int} {l:List Int},eQ hi lo l->∀x∈l,lo<=x:=by
   intro lo l hl
   induction hl with
   |nil =>
    intro x hx
    cases hx
   |cons c1 c2 c ih =>
    intro x hx
    rcases List.mem_cons.mp hx with z|z
    ·omega
    ·have:=ih x z
     omega
  have e:a=b:=by
   rcases List.mem_cons.mp ((h a).mp (List.mem_cons_self ..)) with z|z
   ·exact z
   ·rcases List.mem_cons.mp ((h b).mpr (List.mem_cons_self ..)) with y|y
    ·exact y.symm
    ·have:=lb ha _ y
     have:=lb hb _ z
     omega
  subst e
  congr 1
  refine eQ.ext ha hb λx=>?_
  constructor
  ·intro z
   rcases List.mem_cons.mp ((h x).mp (List.mem_cons_of_mem _ z)) with y|y
   ·have:=lb ha _ z
    omega
   ·exact y
  ·intro z
   rcases List.mem_cons.mp ((h x).mpr (List.mem_cons_of_mem _ z)) with y|y
   ·have:=lb hb _ z
    omega
   ·exact y
theorem eQ.inj{hi:Int}{l m:List Int}(hl:eQ hi 0 l)(hm:eQ hi 0 m)(h:bj l=bj m):l=m:=by
 refine eQ.ext hl hm λx=>?_
 have lb:∀{lo:Int} {l:List Int},eQ hi lo l->∀x∈l,lo<=x:=by
  intro lo l hl
  induction hl with
  |nil =>
   intro x hx
   cases hx
  |cons c1 c2 c ih =>
   intro x hx
   rcases List.mem_cons.mp hx with z|z
   ·omega
   ·have:=ih x z
    omega
 by_cases h0:0<=x
 ·have e1:=hl.bit (Int.le_refl 0) x.toNat
  have e2:=hm.bit (Int.le_refl 0) x.toNat
  rw[h,e2,decide_eq_decide,Int.toNat_of_nonneg h0] at e1
  exact e1.symm
 ·exact⟨λz=>absurd (lb hl _ z) h0,λz=>absurd (lb hm _ z) h0⟩
theorem nA{wd:Int}{bs:List Int}:∀{n:Nat} {least:Int} {p q:Nat} {ts:List Int},p<=bs.length->di wd bs n least p=.ok (ts,q)->eQ wd least ts
 |0,_,_,_,_,_,h=>by
  unfold di at h
  cases h
 |n+1,least,p,q,ts,hp,h=>by
  unfold di at h
  split at h
  ·rename_i hb
   have:=eN hp (by omega)
   split at h
   ·cases h
   ·rename_i t q1 hn
    have h1:=cP (by omega) hn
    split at h
    ·cases h
    ·rename_i ts' z hh
     cases h
     exact .cons h1.2.2.1 (by omega) (nA h1.2.1 hh)
  ·cases h
   exact .nil
theorem uM{lo hi:Int}{bs:List Int}{p:Nat}(h:hi<lo):dD lo hi bs p=.error p:=by
 unfold dD
 rw[if_pos]
 unfold iJ
 by_cases z:jT (dX (bs.drop p))<lo
 ·exact .inr (.inl z)
 ·exact .inr (.inr (.inl (by omega)))
theorem rA(w f least p:Nat)(r:Rol.Bytes):Rol.tracksIn w (f+1) least p (32::r)=if w<=least then .error (p+1) else match Rol.numberIn least (w-1) (p+1) r with
  |.error k=>.error k
  |.ok x=>match Rol.tracksIn w f (x.1+1) x.2.1 x.2.2 with
   |.error k=>.error k
   |.ok y=>.ok ((2 ^ x.1+y.1.1,y.1.2),y.2.1,y.2.2):=by rfl
theorem vD(w f least p:Nat)(r:Rol.Bytes):Rol.tracksIn w (f+1) least p (10::r)=.ok ((0,p),p+1,r):=by rfl
theorem pI{bs:List Int}(hb:AllB bs){w:Nat}(hw:w<=128):∀{n f least p:Nat},p<=bs.length->bs.length-p<n->least<=w->w-least<f ->
  match di w bs n least p with
  |.error k=>Rol.tracksIn w f least p ((bytesOf bs).drop p)=.error k
  |.ok (hs,z)=>Rol.tracksIn w f least p ((bytesOf bs).drop p)=if byteAt bs z=10 then .ok ((bj hs,z),z+1,(bytesOf bs).drop (z+1)) else .error z
 |0,_,_,_,_,hn,_,_=>absurd hn (Nat.not_lt_zero _)
 |n+1,0,_,_,_,_,_,hf=>absurd hf (Nat.not_lt_zero _)
 |n+1,f+1,least,p,hp,hn,hl,hf=>by
  rcases Nat.lt_or_eq_of_le hp with h|h
  ·have hy:=ji hb h
   rw[cu,dH h,dz]
   unfold di
   by_cases e:byteAt bs p=32
   ·rw[if_pos e,e]
    rw[show UInt8.ofNat (32:Int).toNat=32 from rfl]
    rw[rA]
    by_cases hwl:w<=least
    ·rw[uM (by omega)]
     dsimp only
     rw[if_pos hwl]
    ·rw[if_neg hwl]
     have hs:=cZ hb (p:=p+1) h (lo:=least) (hi:=w-1) (by omega) (by omega)
     rw[show((w-1:Nat):Int)=(w:Int)-1 by omega,cu] at hs
     rcases hs.split with ⟨k,e1,e2⟩|⟨x,q,y,e1,e2,exy,hq⟩
     ·rw[e1]
      dsimp only
      rw[e2]
     ·have hle:=cP (by omega) e1
      rw[e1,e2]
      dsimp only
      have ih:=pI hb hw (n:=n) (f:=f) (least:=y+1) (p:=q) hq (by omega) (by omega) (by omega)
      rw[show(((y+1:Nat)):Int)=x+1 by omega] at ih
      cases hm:di w bs n (x+1) q with
      |error k =>
       rw[hm] at ih
       dsimp only at ih ⊢
       rw[ih]
      |ok r =>
       obtain⟨ts,z⟩:=r
       rw[hm] at ih
       dsimp only at ih ⊢
       rw[ih]
       by_cases hz:byteAt bs z=10
       ·rw[if_pos hz,if_pos hz]
        dsimp only
        congr 3
        show 2 ^ y+bj ts=2 ^ x.toNat+bj ts
        rw[exy]
        rfl
       ·rw[if_neg hz,if_neg hz]
   ·rw[if_neg e]
    dsimp only
    by_cases e10:byteAt bs p=10
    ·rw[if_pos e10,e10]
     rw[show UInt8.ofNat (10:Int).toNat=10 from rfl]
     rw[vD,cu]
     rfl
    ·rw[if_neg e10]
     have n10:UInt8.ofNat (byteAt bs p).toNat≠10:=λz=>e10 ((uq (c:=10) hy.1 hy.2 (by decide)).mp z.symm)
     have n32:UInt8.ofNat (byteAt bs p).toNat≠32:=λz=>e ((uq (c:=32) hy.1 hy.2 (by decide)).mp z.symm)
     unfold Rol.tracksIn
     split
     ·rename_i hx
      injection hx with hx _
      exact absurd hx n10
     ·rename_i hx
      injection hx with hx _
      exact absurd hx n32
     ·rfl
  ·subst h
   unfold di
   rw[fQ,if_neg (by decide)]
   dsimp only
   rw[fQ,if_neg (by decide),cu,List.drop_length]
   rfl
theorem dh(l:List Int):(bytesOf l).length=l.length:=by
 unfold bytesOf
 rw[List.length_map]
theorem eV{bs:List Int}{p:Nat}(hp:p<=bs.length):(bytesOf bs).drop p=[]↔p=bs.length:=by
 rw[List.drop_eq_nil_iff,dh]
 omega
theorem getLast?_rep{α:Type}(l:List α)(x:α):∀{n:Nat},1<=n->(l++List.replicate n x).getLast?=some x:=by
 intro n hn
 obtain⟨m,rfl⟩:∃m,n=m+1:=⟨n-1,by omega⟩
 rw[List.replicate_succ',←List.append_assoc,List.getLast?_concat]
theorem pO{bs:List Int}(hb:AllB bs){w:Nat}(hw:w<=128)(hw1:1<=w):∀{n f p:Nat} {rows:List (List Int)},p<=bs.length->bs.length-p<n->bs.length-p<f->rows.length<=256->(∀r∈rows,eQ w 0 r) ->
  match jd w bs n rows p with
  |.error k=>Rol.linesIn w f rows.length (rows.getLast?.map bj) p ((bytesOf bs).drop p)=.error k
  |.ok rows'=>(∀r∈rows',eQ w 0 r)/\∃l,Rol.linesIn w f rows.length (rows.getLast?.map bj) p ((bytesOf bs).drop p)=.ok l/\rows'.map bj=rows.map bj++l.flatMap λ(x:Nat×Rol.Row)=>List.replicate x.1 x.2
 |0,_,_,_,_,hn,_,_,_=>absurd hn (Nat.not_lt_zero _)
 |n+1,0,_,_,_,_,hf,_,_=>absurd hf (Nat.not_lt_zero _)
 |n+1,f+1,p,rows,hp,hn,hf,h256,hri=>by
  unfold jd Rol.linesIn
  by_cases hq:p=bs.length
  ·rw[if_pos hq,if_pos ((eV hp).mpr hq)]
   exact⟨hri,[],rfl,by simp⟩
  ·rw[if_neg hq,if_neg (λz=>hq ((eV hp).mp z))]
   have hplt:p<bs.length:=by omega
   unfold yf
   by_cases hfull:Rol.ROWS<=rows.length
   ·rw[if_pos hfull]
    have:(256:Nat)<=rows.length:=hfull
    rw[uM (by omega)]
   ·rw[if_neg hfull]
    have hlt:rows.length<256:=Nat.lt_of_not_le hfull
    have hs:=cZ hb hp (lo:=1) (hi:=Rol.ROWS-rows.length) (by decide) (by show 256-rows.length<10000;omega)
    rw[show(((Rol.ROWS-rows.length:Nat)):Int)=256-(rows.length:Int) by show((256-rows.length:Nat):Int)=_;omega,show((1:Nat):Int)=1 from rfl] at hs
    rcases hs.split with ⟨k,e1,e2⟩|⟨x,q,y,e1,e2,exy,hq'⟩
    ·rw[e1,e2]
    ·have hle:=cP hp e1
     rw[e1,e2]
     dsimp only
     have ht:=pI hb hw (n:=bs.length+1) (f:=w+1) (least:=0) (p:=q) hq' (by omega) (Nat.zero_le _) (by omega)
     rw[show((0:Nat):Int)=0 from rfl] at ht
     cases hm:di w bs (bs.length+1) 0 q with
     |error k =>
      rw[hm] at ht
      dsimp only at ht ⊢
      rw[ht]
     |ok r =>
      obtain⟨hs',z⟩:=r
      rw[hm] at ht
      dsimp only at ht ⊢
      rw[ht]
      have hzl:=lU hq' hm
      have hr:=nA hq' hm
      have hlast:rows.getLast?=some hs'↔rows.getLast?.map bj=some (bj hs'):=by
       cases hg:rows.getLast? with
       |none=>simp
       |some g =>
        have hgm:g∈rows:=List.mem_of_getLast? hg
        rw[Option.map_some,Option.some_inj,Option.some_inj]
        constructor
        ·intro e
         rw[e]
        ·intro e
         exact eQ.inj (hri _ hgm) hr e
      by_cases h10:byteAt bs z=10
      ·rw[if_pos h10]
       dsimp only
       by_cases hl:rows.getLast?=some hs'
       ·rw[if_pos hl,if_pos (hlast.mp hl)]
       ·rw[if_neg hl,if_neg (λy=>hl (hlast.mpr y))]
        have hex:aG 10 bs z=.ok ((),z+1):=by
         unfold aG
         rw[if_pos h10]
        rw[hex]
        dsimp only
        have hz1:=d9 (by decide) hzl.2 hex
        have hx1:1<=x.toNat:=by omega
        have ih:=pO hb hw hw1 (n:=n) (f:=f) (p:=z+1) (rows:=rows++List.replicate x.toNat hs') hz1.2 (by omega) (by omega) (by rw[List.length_append,List.length_replicate];omega) (λr hr'=>by
         rcases List.mem_append.mp hr' with h|h
         ·exact hri _ h
         ·rw[List.eq_of_mem_replicate h]
          exact hr)
        rw[getLast?_rep _ _ hx1,Option.map_some,List.length_append,List.length_replicate,show x.toNat=y by omega] at ih
        rw[show x.toNat=y by omega]
        cases hm2:jd w bs n (rows++List.replicate y hs') (z+1) with
        |error k =>
         rw[hm2] at ih
         dsimp only at ih ⊢
         rw[ih]
        |ok rows' =>
         rw[hm2] at ih
         dsimp only at ih ⊢
         obtain⟨h1,l,h2,h3⟩:=ih
         refine⟨h1,(y,bj hs')::l,by rw[h2],?_⟩
         rw[h3,List.map_append,List.map_replicate,List.flatMap_cons,List.append_assoc]
      ·rw[if_neg h10]
       dsimp only
       by_cases hl:rows.getLast?=some hs'
       ·rw[if_pos hl]
       ·rw[if_neg hl]
        have hex:aG 10 bs z=.error z:=by
         unfold aG
         rw[if_neg h10]
        rw[hex]
theorem v7{wd:Int}{bs:List Int}:∀{n p:Nat} {rows rows':List (List Int)},rows.length<=256->p<=bs.length->jd wd bs n rows p=.ok rows'->rows'.length<=256
 |0,_,_,_,_,_,h=>by
  unfold jd at h
  cases h
 |n+1,p,rows,rows',h256,hp,h=>by
  unfold jd at h
  split at h
  ·cases h
   exact h256
  ·split at h
   ·cases h
   ·rename_i m hs y hm
    have hle:=z8 hp hm
    exact v7 (by rw[List.length_append,List.length_replicate];omega) hle.2.1 h
theorem xU:Rol.HEAD=(("strip":PySem.Str).cps.toList.map UInt8.ofNat)++[UInt8.ofNat 32]:=dk
theorem qT{bs:List Int}(hb:AllB bs):match jY bs with
  |.error k=>Rol.readText (bytesOf bs)=.error k
  |.ok (wd,rows)=>1<=wd/\wd<=128/\rows.length<=256/\(∀r∈rows,eQ wd 0 r)/\∃n,Rol.readText (bytesOf bs)=.ok (⟨wd.toNat,rows.map bj⟩,n):=by
 have hR:Rol.readText (bytesOf bs)=match Rol.exactly Rol.HEAD 0 (bytesOf bs) with
   |.error k=>.error k
   |.ok x=>match Rol.numberIn 1 Rol.TRACKS x.2.1 x.2.2 with
    |.error k=>.error k
    |.ok w=>match w.2.2 with
     |10::r=>(match Rol.linesIn w.1 (r.length+1) 0 none (w.2.1+1) r with
      |.error k=>.error k
      |.ok l=>.ok (⟨w.1,l.flatMap λ(x:Nat×Rol.Row)=>List.replicate x.1 x.2⟩,l.length))
     |_=>.error w.2.1:=by
  unfold Rol.readText Rol.exactly
  cases Rol.HEAD.isPrefixOf (bytesOf bs) with
  |false=>simp
  |true =>
   simp only[Nat.zero_add,if_true,Bool.true_eq_false,if_false]
   rfl
 rw[hR,xU,xQ]
 have hR:Rol.readText (bytesOf bs)=Rol.readText (bytesOf bs):=rfl
 unfold jY Rol.andThen
 rcases (gr hb (cs:=("strip":PySem.Str).cps.toList) (p:=0) (Nat.zero_le _) dk).split with ⟨k,e1,e2⟩|⟨x,p1,y,e1,e2,_,hp1⟩
 ·rw[e1,show Rol.exactly ((("strip":PySem.Str).cps.toList).map UInt8.ofNat) 0 (bytesOf bs)=.error k from e2]
 rw[e1,show Rol.exactly ((("strip":PySem.Str).cps.toList).map UInt8.ofNat) 0 (bytesOf bs)=.ok (y,p1,(bytesOf bs).drop p1) from e2]
 dsimp only
 rcases (cJ hb hp1 (c:=32) (by decide)).split with ⟨k,e1,e2⟩|⟨x,p2,y,e1,e2,_,hp2⟩
 ·rw[show aG 32 bs p1=_ from e1,e2]
 rw[show aG 32 bs p1=_ from e1,e2]
 dsimp only
 rcases (cZ hb hp2 (lo:=1) (hi:=Rol.TRACKS) (by decide) (by decide)).split with ⟨k,e1,e2⟩|⟨wd,p3,w,e1,e2,exy,hp3⟩
 ·rw[show dD 1 128 bs p2=_ from e1,e2]
 rw[show dD 1 128 bs p2=_ from e1,e2]
 dsimp only
 have hle:=cP hp2 e1
 have hw1:1<=wd:=hle.2.2.1
 have hw2:wd<=128:=hle.2.2.2
 subst exy
 by_cases h10:byteAt bs p3=10
 ·have hlt:=eN hp3 (by omega)
  have hex:aG 10 bs p3=.ok ((),p3+1):=by
   unfold aG
   rw[if_pos h10]
  have hd:(bytesOf bs).drop p3=10::(bytesOf bs).drop (p3+1):=by
   rw[cu,dH hlt,dz,h10,cu]
   rfl
  rw[hex,hd]
  dsimp only
  have hl:=pO hb (w:=w) (by omega) (by omega) (n:=bs.length+1) (f:=((bytesOf bs).drop (p3+1)).length+1) (p:=p3+1) (rows:=[]) hlt (by omega) (by rw[List.length_drop,dh];omega) (by decide) (λr hr=>by cases hr)
  rw[show(([]:List (List Int)).getLast?.map bj)=none from rfl,show([]:List (List Int)).length=0 from rfl] at hl
  cases hm:jd w bs (bs.length+1) [] (p3+1) with
  |error k =>
   rw[hm] at hl
   dsimp only at hl ⊢
   show(match Rol.linesIn w (((bytesOf bs).drop (p3+1)).length+1) 0 none (p3+1) ((bytesOf bs).drop (p3+1)) with|.error k=>Except.error k|.ok l=>.ok ((⟨w,l.flatMap λ(x:Nat×Rol.Row)=>List.replicate x.1 x.2⟩:Rol.Strip),l.length))=Except.error k
   rw[hl]
  |ok rows =>
   rw[hm] at hl
   dsimp only at hl ⊢
   obtain⟨h1,l,h2,h3⟩:=hl
   refine⟨hw1,hw2,v7 (by decide) hlt hm,h1,l.length,?_⟩
   show(match Rol.linesIn w (((bytesOf bs).drop (p3+1)).length+1) 0 none (p3+1) ((bytesOf bs).drop (p3+1)) with|.error k=>Except.error k|.ok l=>.ok ((⟨w,l.flatMap λ(x:Nat×Rol.Row)=>List.replicate x.1 x.2⟩:Rol.Strip),l.length))=_
   rw[h2,h3]
   rfl
 ·have hex:aG 10 bs p3=.error p3:=by
   unfold aG
   rw[if_neg h10]
  rw[hex]
  dsimp only
  rcases Nat.lt_or_eq_of_le hp3 with h|h
  ·have hy:=ji hb h
   have n10:UInt8.ofNat (byteAt bs p3).toNat≠10:=λz=>h10 ((uq (c:=10) hy.1 hy.2 (by decide)).mp z.symm)
   rw[cu,dH h,dz]
   split
   ·rename_i hx
    injection hx with hx _
    exact absurd hx n10
   ·rfl
  ·rw[(eV hp3).mpr h]
noncomputable def dm(m:Rol.Means):List Int:=m.nums.map λ(n:Nat)=>(n:Int)
theorem tK{a b:Rol.Means}(h:dm a=dm b):a=b:=by
 cases a<;>cases b<;>simp[dm,Rol.Means.nums] at h ⊢<;>first|omega|exact h|(obtain⟨h1,h2⟩:=h;exact⟨by omega,by omega⟩)
theorem pR:∀{a b:List Nat},(∀c∈a,c<256)->(∀c∈b,c<256)->a.map UInt8.ofNat=b.map UInt8.ofNat->a=b
 |[],[],_,_,_=>rfl
 |[],b::l,_,_,h=>by cases h
 |a::l,[],_,_,h=>by cases h
 |a::l,b::m,ha,hb,h=>by
  rw[List.map_cons,List.map_cons] at h
  injection h with h1 h2
  have e:=congrArg UInt8.toNat h1
  rw[UInt8.toNat_ofNat',UInt8.toNat_ofNat',Nat.mod_eq_of_lt (ha a (List.mem_cons_self ..)),Nat.mod_eq_of_lt (hb b (List.mem_cons_self ..))] at e
  rw[e,pR (λc hc=>ha c (List.mem_cons_of_mem _ hc)) (λc hc=>hb c (List.mem_cons_of_mem _ hc)) h2]
theorem xr:∀x∈Rol.WORDS,∃k∈kinds,x=k.1.cps.toList.map UInt8.ofNat/\∀c∈k.1.cps.toList,c<256:=dk
theorem zx{l:List Nat}(hl:∀c∈l,c<256):match kindOf ⟨l.toArray⟩ with
  |none=>Rol.WORDS.findIdx? (λw=>w==l.map UInt8.ofNat)=none
  |some (kd,ms)=>∃i,Rol.WORDS.findIdx? (λw=>w==l.map UInt8.ofNat)=some i/\(kinds[i]?).map (·.2)=some (kd,ms):=by
 unfold kindOf
 cases hf:kinds.find? λx=>decide (x.1=(⟨l.toArray⟩:PySem.Str)) with
 |none =>
  dsimp only[Option.map_none]
  rw[List.findIdx?_eq_none_iff]
  intro x hx
  obtain⟨k,hk,e,hc⟩:=xr x hx
  rw[List.find?_eq_none] at hf
  have hn:=hf k hk
  rw[beq_eq_false_iff_ne]
  intro z
  rw[e] at z
  have e2:=pR hc hl z
  refine hn (decide_eq_true ?_)
  obtain⟨⟨a⟩,b,c⟩:=k
  dsimp only at e2 ⊢
  rw[←e2]
 |some k =>
  have hm:=List.mem_of_find?_eq_some hf
  have he:decide (k.1=(⟨l.toArray⟩:PySem.Str))=true:=List.find?_some (p:=λx:PySem.Str×Int×List Int=>decide (x.1=(⟨l.toArray⟩:PySem.Str))) hf
  have he:=of_decide_eq_true he
  obtain⟨s,kd,ms⟩:=k
  dsimp only[Option.map_some] at he ⊢
  have hl2:l=s.cps.toList:=by rw[he]
  subst hl2
  have hall:∀k∈kinds,∃i,Rol.WORDS.findIdx? (λw=>w==k.1.cps.toList.map UInt8.ofNat)=some i/\(kinds[i]?).map (·.2)=some k.2:=by
   intro k hk
   have:∀k∈kinds,(Rol.WORDS.findIdx? (λw=>w==k.1.cps.toList.map UInt8.ofNat)).isSome=true/\(kinds[(Rol.WORDS.findIdx? (λw=>w==k.1.cps.toList.map UInt8.ofNat)).getD 0]?).map (·.2)=some k.2:=dk
   obtain⟨h1,h2⟩:=this k hk
   obtain⟨i,hi⟩:=Option.isSome_iff_exists.mp h1
   rw[hi] at h2
   exact⟨i,hi,h2⟩
  exact hall _ hm
theorem lV{bs:List Int}(hb:AllB bs){p:Nat}(hp:p<=bs.length){lo hi:Nat}(hl:lo<=10000)(hh:hi<10000):rM bs (λ(x:Int) (y:Nat)=>x=(y:Int)) (dJ lo hi bs p) (Rol.blankNum lo hi p ((bytesOf bs).drop p)):=by
 unfold dJ Rol.blankNum Rol.andThen
 rcases (cJ hb hp (c:=32) (by decide)).split with ⟨k,e1,e2⟩|⟨x,q,y,e1,e2,_,hq⟩
 ·rw[show aG 32 bs p=_ from e1,show Rol.exactly [32] p ((bytesOf bs).drop p)=_ from e2]
  rfl
 ·rw[show aG 32 bs p=_ from e1,show Rol.exactly [32] p ((bytesOf bs).drop p)=_ from e2]
  exact cZ hb hq hl hh
theorem v9{bs:List Int}(hb:AllB bs){p:Nat}(hp:p<=bs.length){hi:Nat}(hh:hi<10000)(g:Nat->Rol.Means)(kd:Int)(hg:∀n,dm (g n)=[kd,(n:Int),0])(hok:∀n,n<=hi->(g n).ok=true) :
  rM bs (λ(ns:List Int) (m:Rol.Means)=>dm m=[kd,ns.getD 0 0,ns.getD 1 0]/\m.ok=true) (dC bs [(hi:Int)] p) (Rol.andThen (Rol.blankNum 0 hi) (λk=>Rol.gives (g k)) p ((bytesOf bs).drop p)):=by
 unfold dC Rol.andThen
 rcases (lV hb hp (lo:=0) (hi:=hi) (by decide) hh).split with ⟨k,e1,e2⟩|⟨x,q,y,e1,e2,exy,hq⟩
 ·rw[show dJ 0 hi bs p=_ from e1,e2]
  rfl
 ·rw[show dJ 0 hi bs p=_ from e1,e2]
  subst exy
  have hle:=lq hp e1
  exact⟨⟨hg y,hok y (by omega)⟩,rfl,rfl,hq⟩
theorem Fz{bs:List Int}{p:Nat}(hp:p<=bs.length)(m:Rol.Means)(kd:Int)(hg:dm m=[kd,0,0])(hok:m.ok=true) :
  rM bs (λ(ns:List Int) (m:Rol.Means)=>dm m=[kd,ns.getD 0 0,ns.getD 1 0]/\m.ok=true) (dC bs [] p) (Rol.gives m p ((bytesOf bs).drop p)):=⟨⟨hg,hok⟩,rfl,rfl,hp⟩
theorem most2{bs:List Int}(hb:AllB bs){p:Nat}(hp:p<=bs.length):rM bs (λ(ns:List Int) (m:Rol.Means)=>dm m=[4,ns.getD 0 0,ns.getD 1 0]/\m.ok=true) (dC bs [2,1] p) ((Rol.andThen (Rol.blankNum 0 2) λi=>Rol.andThen (Rol.blankNum 0 1) λs=>Rol.gives (.lock i s)) p ((bytesOf bs).drop p)):=by
 unfold dC dC Rol.andThen
 rcases (lV hb hp (lo:=0) (hi:=2) (by decide) (by decide)).split with ⟨k,e1,e2⟩|⟨x,q,y,e1,e2,exy,hq⟩
 ·rw[show dJ 0 2 bs p=_ from e1]
  dsimp only
  rw[e2]
  rfl
 ·rw[show dJ 0 2 bs p=_ from e1]
  dsimp only
  rw[e2]
  dsimp only
  subst exy
  have hle1:=lq hp e1
  rcases (lV hb hq (lo:=0) (hi:=1) (by decide) (by decide)).split with ⟨k,e1,e2⟩|⟨x,q',z,e1,e2,exy,hq⟩
  ·rw[show dJ 0 1 bs q=_ from e1]
   dsimp only
   rw[e2]
   rfl
  ·rw[show dJ 0 1 bs q=_ from e1]
   dsimp only
   rw[e2]
   subst exy
   have hle2:=lq (by omega) e1
   refine⟨⟨rfl,?_⟩,rfl,rfl,hq⟩
   unfold Rol.Means.ok
   rw[Bool.and_eq_true,decide_eq_true_eq,decide_eq_true_eq]
   omega
theorem uN{bs:List Int}(hb:AllB bs){p i:Nat}{kd:Int}{ms:List Int}(hp:p<=bs.length)(h:(kinds[i]?).map (·.2)=some (kd,ms)) :
  rM bs (λ(ns:List Int) (m:Rol.Means)=>dm m=[kd,ns.getD 0 0,ns.getD 1 0]/\m.ok=true) (dC bs ms p) (Rol.meaning (i+1) p ((bytesOf bs).drop p)):=by
 match i,h with
 |0,h=>cases h;exact v9 hb hp (hi:=127) (by decide) Rol.Means.key 1 (λ_=>rfl) λn hn=>decide_eq_true (by omega)
 |1,h=>cases h;exact Fz hp .loud 2 rfl rfl
 |2,h=>cases h;exact Fz hp .soft 3 rfl rfl
 |3,h=>cases h;exact most2 hb hp
 |4,h=>cases h;exact v9 hb hp (hi:=1) (by decide) Rol.Means.cancel 5 (λ_=>rfl) λn hn=>decide_eq_true (by omega)
 |5,h=>cases h;exact v9 hb hp (hi:=1) (by decide) Rol.Means.up 6 (λ_=>rfl) λn hn=>decide_eq_true (by omega)
 |6,h=>cases h;exact v9 hb hp (hi:=1) (by decide) Rol.Means.down 7 (λ_=>rfl) λn hn=>decide_eq_true (by omega)
 |7,h=>cases h;exact v9 hb hp (hi:=1) (by decide) Rol.Means.accent 8 (λ_=>rfl) λn hn=>decide_eq_true (by omega)
 |8,h=>cases h;exact Fz hp .end_ 9 rfl rfl
 |i+9,h=>cases h
theorem nU{bs:List Int}(hb:AllB bs){p:Nat}(hp:p<=bs.length){seen:List (List Int)}{had:List Rol.Means}(hs:∀m,dm m∈seen↔m∈had) :
  match dI seen bs p with
  |.error k=>∀{β:Type} (g:Rol.Means->Rol.Rd β),Rol.andThen Rol.word (λkind=>Rol.andThen (Rol.meaning kind) λm=>if had.contains m=true then Rol.fails p else g m) p ((bytesOf bs).drop p)=.error k
  |.ok (mm,q)=>q<=bs.length/\∃m,dm m=mm/\m.ok=true/\m∉had/\∀{β:Type} (g:Rol.Means->Rol.Rd β),Rol.andThen Rol.word (λkind=>Rol.andThen (Rol.meaning kind) λm=>if had.contains m=true then Rol.fails p else g m) p ((bytesOf bs).drop p)=g m q ((bytesOf bs).drop q):=by
 have ew:((bytesOf bs).drop p).takeWhile Rol.isSmall=bytesOf (lets (bs.drop p)):=by
  rw[cu]
  exact rC (λb h0 h1=>xX h0 h1) (hb.drop p)
 have hlb:AllB (lets (bs.drop p)):=λb hb'=>hb.drop p b ((List.takeWhile_prefix _).subset hb')
 have hlen:(lets (bs.drop p)).length<=bs.length-p:=by
  have:=(List.takeWhile_prefix (l:=bs.drop p) kW).length_le
  rw[List.length_drop] at this
  exact this
 have htab:=zx (l:=(lets (bs.drop p)).map Int.toNat) (λc hc=>by
  obtain⟨b,hb',rfl⟩:=List.mem_map.mp hc
  have:=hlb b hb'
  omega)
 have emap:((lets (bs.drop p)).map Int.toNat).map UInt8.ofNat=bytesOf (lets (bs.drop p)):=by
  rw[List.map_map]
  rfl
 rw[emap] at htab
 unfold dI wordAt
 cases hk:kindOf ⟨((lets (bs.drop p)).map Int.toNat).toArray⟩ with
 |none =>
  rw[hk] at htab
  dsimp only at htab ⊢
  intro β g
  unfold Rol.andThen Rol.word
  rw[ew,htab]
 |some x =>
  obtain⟨kd,ms⟩:=x
  rw[hk] at htab
  dsimp only at htab ⊢
  obtain⟨i,h1,h2⟩:=htab
  have hq:p+(lets (bs.drop p)).length<=bs.length:=by omega
  have hword:Rol.word p ((bytesOf bs).drop p)=.ok (i+1,p+(lets (bs.drop p)).length,(bytesOf bs).drop (p+(lets (bs.drop p)).length)):=by
   unfold Rol.word
   rw[ew,h1,dh,List.drop_drop]
  rcases (uN hb hq h2).split with ⟨k,e1,e2⟩|⟨ns,q,m,e1,e2,⟨em,hok⟩,hq'⟩
  ·rw[e1]
   dsimp only
   intro β g
   unfold Rol.andThen
   rw[hword]
   dsimp only
   rw[e2]
  ·rw[e1]
   dsimp only
   rw[←em]
   have hiff:=hs m
   by_cases hin:dm m∈seen
   ·rw[if_pos hin]
    dsimp only
    intro β g
    unfold Rol.andThen
    rw[hword]
    dsimp only
    rw[e2]
    dsimp only
    rw[if_pos (List.contains_iff_mem.mpr (hiff.mp hin))]
    rfl
   ·rw[if_neg hin]
    refine⟨hq',m,rfl,hok,λz=>hin (hiff.mpr z),?_⟩
    intro β g
    unfold Rol.andThen
    rw[hword]
    dsimp only
    rw[e2]
    dsimp only
    rw[if_neg (λz=>hin (hiff.mpr (List.contains_iff_mem.mp z)))]
noncomputable def rB(l:List (Nat×Rol.Means)):List (List Int×Int):=l.map λx=>(dm x.2,(x.1:Int))
theorem jR{α β:Type}(r:Rol.Rd α)(g:α->Rol.Rd β)(p:Nat)(b:Rol.Bytes):Rol.andThen r g p b=match r p b with
  |.error k=>.error k
  |.ok x=>g x.1 x.2.1 x.2.2:=rfl
theorem vC(w least:Nat)(had:List Rol.Means)(p:Nat)(b:Rol.Bytes):Rol.trackLine w least had p b=match Rol.numberIn least (w-1) p b with
  |.error k=>.error k
  |.ok x=>match Rol.exactly [32] x.2.1 x.2.2 with
   |.error k=>.error k
   |.ok y=>Rol.andThen Rol.word (λkind=>Rol.andThen (Rol.meaning kind) λm=>if had.contains m=true then Rol.fails y.2.1 else Rol.andThen (Rol.exactly [10]) λ_=>Rol.gives (x.1,m)) y.2.1 y.2.2:=by
 unfold Rol.trackLine
 rw[jR,show Rol.num least (w-1) p b=Rol.numberIn least (w-1) p b from rfl]
 cases Rol.numberIn least (w-1) p b with
 |error k=>rfl
 |ok x =>
  dsimp only
  rw[jR]
  cases Rol.exactly [32] x.2.1 x.2.2 with
  |error k=>rfl
  |ok y=>rfl
theorem nR{bs:List Int}(hb:AllB bs){w:Nat}(hw:w<=128):∀{n f least p:Nat} {ms:List (List Int×Int)} {had:List Rol.Means},p<=bs.length->bs.length-p<n->bs.length-p<f->(∀m,dm m∈ms.map (·.1)↔m∈had) ->
  match dF w bs n least ms p with
  |.error k=>Rol.trackLines w f least had p ((bytesOf bs).drop p)=.error k
  |.ok ms'=>∃l,Rol.trackLines w f least had p ((bytesOf bs).drop p)=.ok l/\ms'=ms++rB l/\(∀x∈l,least<=x.1/\x.1<w/\x.2.ok=true/\x.2∉had)/\(l.map (·.2)).Nodup
 |0,_,_,_,_,_,_,hn,_,_=>absurd hn (Nat.not_lt_zero _)
 |n+1,0,_,_,_,_,_,_,hf,_=>absurd hf (Nat.not_lt_zero _)
 |n+1,f+1,least,p,ms,had,hp,hn,hf,hs=>by
  unfold dF Rol.trackLines
  by_cases hq:p=bs.length
  ·rw[if_pos hq,if_pos ((eV hp).mpr hq)]
   exact⟨[],rfl,by simp[rB],(λx hx=>by cases hx),List.nodup_nil⟩
  ·rw[if_neg hq,if_neg (λz=>hq ((eV hp).mp z))]
   by_cases hwl:w<=least
   ·rw[if_pos hwl,uM (by omega)]
   ·rw[if_neg hwl,vC]
    have hs1:=cZ hb hp (lo:=least) (hi:=w-1) (by omega) (by omega)
    rw[show((w-1:Nat):Int)=(w:Int)-1 by omega] at hs1
    rcases hs1.split with ⟨k,e1,e2⟩|⟨x,p1,t,e1,e2,exy,hp1⟩
    ·rw[e1,e2]
    ·have hle:=cP hp e1
     subst exy
     rw[e1,e2]
     dsimp only
     rcases (cJ hb hp1 (c:=32) (by decide)).split with ⟨k,e1,e2⟩|⟨x,p2,y,e1,e2,_,hp2⟩
     ·rw[show aG 32 bs p1=_ from e1,show Rol.exactly [32] p1 ((bytesOf bs).drop p1)=_ from e2]
     ·have hle2:=d9 (by decide) hp1 e1
      rw[show aG 32 bs p1=_ from e1,show Rol.exactly [32] p1 ((bytesOf bs).drop p1)=_ from e2]
      dsimp only
      have hme:=nU hb hp2 hs
      cases hm:dI (ms.map (·.1)) bs p2 with
      |error k =>
       rw[hm] at hme
       dsimp only at hme ⊢
       rw[hme]
      |ok r =>
       obtain⟨mm,p3⟩:=r
       have hle3:=nF hp2 hm
       rw[hm] at hme
       dsimp only at hme ⊢
       obtain⟨hp3,m,em,hok,hnot,hg⟩:=hme
       rw[hg]
       unfold Rol.andThen
       rcases (cJ hb hp3 (c:=10) (by decide)).split with ⟨k,e1,e2⟩|⟨x,p4,y,e1,e2,_,hp4⟩
       ·rw[show aG 10 bs p3=_ from e1,show Rol.exactly [10] p3 ((bytesOf bs).drop p3)=_ from e2]
       ·have hle4:=d9 (by decide) hp3 e1
        rw[show aG 10 bs p3=_ from e1,show Rol.exactly [10] p3 ((bytesOf bs).drop p3)=_ from e2]
        dsimp only[Rol.gives]
        subst em
        have ih:=nR hb hw (n:=n) (f:=f) (least:=t+1) (p:=p4) (ms:=ms++[(dm m,(t:Int))]) (had:=m::had) hp4 (by omega) (by omega) (λm'=>by
         rw[List.map_append,List.mem_append,List.mem_cons,hs m']
         constructor
         ·rintro(z|z)
          ·exact .inr z
          ·have z':dm m'=dm m:=by simpa using z
           exact .inl (tK z')
         ·rintro(z|z)
          ·rw[z]
           exact .inr (by simp)
          ·exact .inl z)
        rw[show(((t+1:Nat)):Int)=(t:Int)+1 by omega] at ih
        cases hm2:dF w bs n ((t:Int)+1) (ms++[(dm m,(t:Int))]) p4 with
        |error k =>
         rw[hm2] at ih
         dsimp only at ih ⊢
         rw[ih]
        |ok ms' =>
         rw[hm2] at ih
         dsimp only at ih ⊢
         obtain⟨l,h1,h2,h3,h4⟩:=ih
         refine⟨(t,m)::l,by rw[h1],?_,?_,?_⟩
         ·rw[h2,List.append_assoc]
          rfl
         ·intro x hx
          rcases List.mem_cons.mp hx with z|z
          ·subst z
           exact⟨by show least<=t;omega,by show t<w;omega,hok,hnot⟩
          ·obtain⟨a,b,c,d⟩:=h3 x z
           exact⟨by omega,b,c,λy=>d (List.mem_cons_of_mem _ y)⟩
         ·rw[List.map_cons,List.nodup_cons]
          refine⟨λz=>?_,h4⟩
          obtain⟨x,hx,ex⟩:=List.mem_map.mp z
          exact(h3 x hx).2.2.2 (by rw[ex];exact List.mem_cons_self ..)
structure eF(B:d7)(b:Rol.Bar):Prop where
 width:B.width=b.wide
 split:B.split=b.split
 tail:B.tail=b.tail
 force:B.force=[(b.base:Int),(b.step:Int),(b.accent:Int)]
 swell:B.swell=[(b.most:Int),(b.up:Int),(b.down:Int)]
 tracks:B.tracks=rB b.tracks
 w1:1<=b.wide
 w2:b.wide<=128
 sp:b.split<=128
 tl:b.tail<=15
 fo:b.base<=127/\b.step<=127/\b.accent<=127
 sw:b.most<=1023/\b.up<=1023/\b.down<=1023
 tr:∀x∈b.tracks,x.1<b.wide/\x.2.ok=true
 nd:(b.tracks.map (·.2)).Nodup
noncomputable abbrev wB(s:PySem.Str):Rol.Bytes:=s.cps.toList.map UInt8.ofNat
theorem as_bar:Rol.ascii "bar "=wB "bar"++[32]:=dk
theorem Ij:10::Rol.ascii "tail "=[10]++(wB "tail"++[32]):=dk
theorem Ec:10::Rol.ascii "force "=[10]++(wB "force"++[32]):=dk
theorem Ed:10::Rol.ascii "swell "=[10]++(wB "swell"++[32]):=dk
def RB(A:Except Nat d7)(B:Except Nat Rol.Bar):Prop:=match A with
 |.error k=>B=.error k
 |.ok A=>∃b,B=.ok b/\eF A b
@[elab_as_elim] theorem rM.go{α β:Type}{bs:List Int}{f:α->β->Prop}{m:RR α}{r:Rol.Read β}{P:RR α->Rol.Read β->Prop}(h:rM bs f m r)(h1:∀k,P (.error k) (.error k))(h2:∀q x y,q<=bs.length->m=.ok (x,q)->f x y->P (.ok (x,q)) (.ok (y,q,(bytesOf bs).drop q))):P m r:=by
 rcases h.split with ⟨k,rfl,rfl⟩|⟨x,q,y,e,rfl,a,b⟩
 ·exact h1 k
 ·rw[e]
  exact h2 q x y b e a
section
variable {bs:List Int}(hb:AllB bs){p:Nat}(hp:p<=bs.length)
include hb hp
@[elab_as_elim] theorem num_go{P:RR Int->Rol.Read Nat->Prop}{l h:Int}{lo hi:Nat}(el:l=lo)(eh:h=hi)(hl:lo<=10000)(hh:hi<10000)(h1:∀k,P (.error k) (.error k))(h2:∀(q y:Nat),q<=bs.length->lo<=y/\y<=hi->P (.ok ((y:Int),q)) (.ok (y,q,(bytesOf bs).drop q))):P (dD l h bs p) (Rol.num lo hi p ((bytesOf bs).drop p)):=by
 subst el eh
 refine(show rM bs _ _ (Rol.num lo hi p ((bytesOf bs).drop p)) from cZ hb hp hl hh).go h1 λq x y a e b=>?_
 subst b
 have:=cP hp e
 exact h2 q y a (by omega)
@[elab_as_elim] theorem exp_go{P:RR Unit->Rol.Read Unit->Prop}{c:Int}{u:UInt8}{n:Nat}(e:c=n)(eu:u=UInt8.ofNat n)(hc:n<256)(h1:∀k,P (.error k) (.error k))(h2:∀q x y,q<=bs.length->P (.ok (x,q)) (.ok (y,q,(bytesOf bs).drop q))):P (aG c bs p) (Rol.exactly [u] p ((bytesOf bs).drop p)):=by
 subst e eu
 exact(cJ hb hp hc).go h1 λq x y a _ _=>h2 q x y a
@[elab_as_elim] theorem word_go{P:RR Unit->Rol.Read Unit->Prop}(s:PySem.Str)(hc:∀c∈s.cps.toList,c<256)(h1:∀k,P (.error k) (.error k))(h2:∀q x y,q<=bs.length->P (.ok (x,q)) (.ok (y,q,(bytesOf bs).drop q))):P (fZ s.cps.toList bs p) (Rol.exactly (wB s) p ((bytesOf bs).drop p)) :=
 (gr hb hp hc).go h1 λq x y a _ _=>h2 q x y a
end
theorem Eh{bs:List Int}(hb:AllB bs):match Fw bs with
  |.error k=>Rol.readBar (bytesOf bs)=.error k
  |.ok B=>∃b,Rol.readBar (bytesOf bs)=.ok b/\eF B b:=by
 show RB (Fw bs) (Rol.readBar (bytesOf bs))
 unfold Fw Rol.readBar Rol.headLines Rol.blankNum
 simp only[jZ,iH,dJ]
 rw[as_bar,Ij,Ec,Ed]
 simp only[jR,xQ]
 have ew:=gr hb (cs:=("bar":PySem.Str).cps.toList) (p:=0) (Nat.zero_le _) dk
 rw[List.drop_zero] at ew
 refine(show rM bs _ _ (Rol.exactly (wB "bar") 0 (bytesOf bs)) from ew).go (λ_=>rfl) λp1 _ _ hp1 _ _=>?_
 dsimp only
 refine exp_go hb hp1 (c:=32) (u:=32) (n:=32) rfl rfl (by decide) (λ_=>rfl) λp2 _ _ hp2=>?_
 dsimp only
 refine num_go hb hp2 (l:=1) (h:=128) (lo:=1) (hi:=128) rfl rfl (by decide) (by decide) (λ_=>rfl) λp3 wd hp3 lwd=>?_
 dsimp only
 refine exp_go hb hp3 (c:=32) (u:=32) (n:=32) rfl rfl (by decide) (λ_=>rfl) λp4 _ _ hp4=>?_
 dsimp only
 refine num_go hb hp4 (l:=0) (h:=128) (lo:=0) (hi:=128) rfl rfl (by decide) (by decide) (λ_=>rfl) λp5 sp hp5 lsp=>?_
 dsimp only
 refine exp_go hb hp5 (c:=10) (u:=10) (n:=10) rfl rfl (by decide) (λ_=>rfl) λp6 _ _ hp6=>?_
 dsimp only
 refine word_go hb hp6 "tail" dk (λ_=>rfl) λp7 _ _ hp7=>?_
 dsimp only
 refine exp_go hb hp7 (c:=32) (u:=32) (n:=32) rfl rfl (by decide) (λ_=>rfl) λp8 _ _ hp8=>?_
 dsimp only
 refine num_go hb hp8 (l:=0) (h:=15) (lo:=0) (hi:=15) rfl rfl (by decide) (by decide) (λ_=>rfl) λp9 tl hp9 ltl=>?_
 dsimp only
 refine exp_go hb hp9 (c:=10) (u:=10) (n:=10) rfl rfl (by decide) (λ_=>rfl) λp10 _ _ hp10=>?_
 dsimp only
 refine word_go hb hp10 "force" dk (λ_=>rfl) λp11 _ _ hp11=>?_
 dsimp only
 refine exp_go hb hp11 (c:=32) (u:=32) (n:=32) rfl rfl (by decide) (λ_=>rfl) λp12 _ _ hp12=>?_
 dsimp only
 refine num_go hb hp12 (l:=0) (h:=127) (lo:=0) (hi:=127) rfl rfl (by decide) (by decide) (λ_=>rfl) λp13 fa hp13 lfa=>?_
 dsimp only
 refine exp_go hb hp13 (c:=32) (u:=32) (n:=32) rfl rfl (by decide) (λ_=>rfl) λp14 _ _ hp14=>?_
 dsimp only
 refine num_go hb hp14 (l:=0) (h:=127) (lo:=0) (hi:=127) rfl rfl (by decide) (by decide) (λ_=>rfl) λp15 fb hp15 lfb=>?_
 dsimp only
 refine exp_go hb hp15 (c:=32) (u:=32) (n:=32) rfl rfl (by decide) (λ_=>rfl) λp16 _ _ hp16=>?_
 dsimp only
 refine num_go hb hp16 (l:=0) (h:=127) (lo:=0) (hi:=127) rfl rfl (by decide) (by decide) (λ_=>rfl) λp17 fc hp17 lfc=>?_
 dsimp only
 refine exp_go hb hp17 (c:=10) (u:=10) (n:=10) rfl rfl (by decide) (λ_=>rfl) λp18 _ _ hp18=>?_
 dsimp only
 refine word_go hb hp18 "swell" dk (λ_=>rfl) λp19 _ _ hp19=>?_
 dsimp only
 refine exp_go hb hp19 (c:=32) (u:=32) (n:=32) rfl rfl (by decide) (λ_=>rfl) λp20 _ _ hp20=>?_
 dsimp only
 refine num_go hb hp20 (l:=0) (h:=1023) (lo:=0) (hi:=1023) rfl rfl (by decide) (by decide) (λ_=>rfl) λp21 sa hp21 lsa=>?_
 dsimp only
 refine exp_go hb hp21 (c:=32) (u:=32) (n:=32) rfl rfl (by decide) (λ_=>rfl) λp22 _ _ hp22=>?_
 dsimp only
 refine num_go hb hp22 (l:=0) (h:=1023) (lo:=0) (hi:=1023) rfl rfl (by decide) (by decide) (λ_=>rfl) λp23 sb hp23 lsb=>?_
 dsimp only
 refine exp_go hb hp23 (c:=32) (u:=32) (n:=32) rfl rfl (by decide) (λ_=>rfl) λp24 _ _ hp24=>?_
 dsimp only
 refine num_go hb hp24 (l:=0) (h:=1023) (lo:=0) (hi:=1023) rfl rfl (by decide) (by decide) (λ_=>rfl) λp25 sc hp25 lsc=>?_
 dsimp only
 refine exp_go hb hp25 (c:=10) (u:=10) (n:=10) rfl rfl (by decide) (λ_=>rfl) λp26 _ _ hp26=>?_
 dsimp only
 have ht:=nR hb (w:=wd) (by omega) (n:=bs.length+1) (f:=((bytesOf bs).drop p26).length+1) (least:=0) (p:=p26) (ms:=[]) (had:=[]) hp26 (by omega) (by rw[List.length_drop,dh];omega) (λm=>by simp)
 rw[show((0:Nat):Int)=0 from rfl] at ht
 dsimp only[Rol.gives,RB]
 cases hm:dF wd bs (bs.length+1) 0 [] p26 with
 |error k =>
  rw[hm] at ht
  dsimp only at ht ⊢
  rw[ht]
 |ok ms =>
  rw[hm] at ht
  dsimp only at ht ⊢
  obtain⟨l,h1,h2,h3,h4⟩:=ht
  rw[h1]
  refine⟨_,rfl,?_⟩
  exact⟨rfl,rfl,rfl,rfl,rfl,by rw[h2];rfl,by show 1<=wd;omega,by show wd<=128;omega,by show sp<=128;omega,by show tl<=15;omega,⟨by show fa<=127;omega,by show fb<=127;omega,by show fc<=127;omega⟩,⟨by show sa<=1023;omega,by show sb<=1023;omega,by show sc<=1023;omega⟩,λx hx=>⟨(h3 x hx).2.1,(h3 x hx).2.2.1⟩,h4⟩
end PR
namespace PR
theorem HY(c:List (List Int)):PyWqazby.whole c=c:=by
 rcases c with _|⟨_|⟨h,t⟩,s⟩
 ·rfl
 ·rfl
 by_cases h1:h=1
 ·subst h1
  rcases t with _|⟨a,_|⟨b,_|⟨c,_|⟨d,_|⟨e,t⟩⟩⟩⟩⟩<;>first|rfl|(rcases s with _|⟨u,_|⟨v,s⟩⟩<;>rfl)
 by_cases h2:h=2
 ·subst h2
  rcases t with _|⟨a,t⟩<;>first|rfl|(rcases s with _|⟨u,_|⟨v,s⟩⟩<;>rfl)
 by_cases h3:h=3
 ·subst h3
  rcases t with _|⟨a,t⟩<;>first|rfl|(rcases s with _|⟨u,s⟩<;>rfl)
 by_cases h4:h=4
 ·subst h4
  rcases t with _|⟨a,_|⟨b,_|⟨c,t⟩⟩⟩<;>first|rfl|(rcases s with _|⟨u,s⟩<;>rfl)
 by_cases h5:h=5
 ·subst h5
  rcases t with _|⟨a,_|⟨b,t⟩⟩<;>first|rfl|(rcases s with _|⟨u,s⟩<;>rfl)
 by_cases h6:h=6
 ·subst h6
  rcases t with _|⟨a,t⟩<;>first|rfl|(rcases s with _|⟨u,s⟩<;>rfl)
 delta PyWqazby.whole PyWqazby.whole.match_1
 exact(dif_neg h1).trans ((dif_neg h2).trans ((dif_neg h3).trans ((dif_neg h4).trans ((dif_neg h5).trans (dif_neg h6)))))
theorem Hv{wh:Int}{n k:Nat}(h:PyWqazby.shape wh=some (n,k)):hmN wh=some n/\((k=0/\wh≠1/\wh≠2)∨(k=1/\(wh=1∨wh=2))):=by
 unfold PyWqazby.shape at h
 unfold hmN
 by_cases h1:wh=1
 ·rw[if_pos h1] at h ⊢
  cases h
  exact⟨rfl,.inr ⟨rfl,.inl h1⟩⟩
 rw[if_neg h1] at h ⊢
 by_cases h2:wh=2
 ·rw[if_pos h2] at h ⊢
  cases h
  exact⟨rfl,.inr ⟨rfl,.inr h2⟩⟩
 rw[if_neg h2] at h ⊢
 by_cases h3:wh=3
 ·rw[if_pos h3] at h ⊢
  cases h
  exact⟨rfl,.inl ⟨rfl,h1,h2⟩⟩
 rw[if_neg h3] at h ⊢
 by_cases h4:wh=4
 ·rw[if_pos h4] at h ⊢
  cases h
  exact⟨rfl,.inl ⟨rfl,h1,h2⟩⟩
 rw[if_neg h4] at h ⊢
 by_cases h5:wh=5
 ·rw[if_pos h5] at h ⊢
  cases h
  exact⟨rfl,.inl ⟨rfl,h1,h2⟩⟩
 rw[if_neg h5] at h ⊢
 by_cases h6:wh=6
 ·rw[if_pos h6] at h ⊢
  cases h
  exact⟨rfl,.inl ⟨rfl,h1,h2⟩⟩
 ·rw[if_neg h6] at h
  cases h
noncomputable def callOf(wh:Int)(ns:List Int):Option (List Int)->List (List Int)
 |none=>[wh::ns]
 |some t=>[wh::ns,t]
theorem vK{l:List Int}{p:Nat}{c:List (List Int)}{t:List Int}(h:PyFlat.call PyWqazby.shape (l.drop p)=some (c,t)) :
  ∃wh n m,CallAt l p wh n m/\c=callOf wh (part l (p+1) n) (m.map λk=>part l (p+1+n+1) k)/\t=l.drop (behind p n m)/\p<behind p n m/\behind p n m<=l.length:=by
 by_cases hp:p<l.length
 ·rw[List.drop_eq_getElem_cons hp] at h
  unfold PyFlat.call at h
  dsimp only at h
  cases hs:PyWqazby.shape l[p] with
  |none =>
   rw[hs] at h
   cases h
  |some x =>
   obtain⟨n,k⟩:=x
   rw[hs] at h
   dsimp only at h
   obtain⟨hm,hk⟩:=Hv hs
   have hat:l[p]?=some l[p]:=List.getElem?_eq_getElem hp
   by_cases hlt:(l.drop (p+1)).length<n
   ·rw[if_pos hlt] at h
    cases h
   ·rw[if_neg hlt] at h
    rw[List.length_drop] at hlt
    rcases hk with ⟨rfl,w1,w2⟩|⟨rfl,hw⟩
    ·unfold PyFlat.rows at h
     dsimp only at h
     cases h
     refine⟨l[p],n,none,⟨hat,hm,by omega,λ_=>⟨w1,w2⟩,λk hk=>by cases hk⟩,rfl,?_,by show p<p+1+n;omega,by show p+1+n<=l.length;omega⟩
     rw[List.drop_drop]
     rfl
    ·unfold PyFlat.rows PyFlat.rows at h
     rw[List.drop_drop] at h
     by_cases hq:p+1+n<l.length
     ·rw[List.drop_eq_getElem_cons hq] at h
      unfold PyFlat.row at h
      dsimp only at h
      by_cases hc:0<=l[p+1+n]/\l[p+1+n].toNat<=(l.drop (p+1+n+1)).length
      ·rw[if_pos hc] at h
       dsimp only at h
       cases h
       rw[List.length_drop] at hc
       obtain⟨k,hk⟩:∃k:Nat,l[p+1+n]=(k:Int):=⟨l[p+1+n].toNat,by omega⟩
       refine⟨l[p],n,some k,⟨hat,hm,by omega,(λz=>by cases z),λk' hk'=>?_⟩,?_,?_,by show p<p+1+n+1+k;omega,by show p+1+n+1+k<=l.length;omega⟩
       ·cases hk'
        exact⟨hw,by rw[List.getElem?_eq_getElem hq,hk],by omega⟩
       ·rw[hk]
        rfl
       ·rw[List.drop_drop,hk]
        rfl
      ·rw[if_neg hc] at h
       cases h
     ·rw[List.drop_eq_nil_of_le (by omega)] at h
      cases h
 ·rw[List.drop_eq_nil_of_le (by omega)] at h
  cases h
theorem xO{l:List Int}{p f:Nat}{cs:List (List (List Int))}(hp:p<=l.length)(h:PyFlat.calls PyWqazby.shape f (l.drop p)=some cs) :
  (p=l.length/\cs=[])∨(p<l.length/\∃wh n m cs' f',CallAt l p wh n m/\cs=callOf wh (part l (p+1) n) (m.map λk=>part l (p+1+n+1) k)::cs'/\p<behind p n m/\behind p n m<=l.length/\PyFlat.calls PyWqazby.shape f' (l.drop (behind p n m))=some cs'):=by
 rcases Nat.lt_or_eq_of_le hp with hlt|e
 ·refine .inr ⟨hlt,?_⟩
  rw[List.drop_eq_getElem_cons hlt] at h
  cases f with
  |zero =>
   unfold PyFlat.calls at h
   cases h
  |succ f =>
   unfold PyFlat.calls at h
   rw[←List.drop_eq_getElem_cons hlt] at h
   cases hc:PyFlat.call PyWqazby.shape (l.drop p) with
   |none =>
    rw[hc] at h
    cases h
   |some x =>
    obtain⟨c,t⟩:=x
    rw[hc] at h
    dsimp only at h
    obtain⟨wh,n,m,C,ec,et,h1,h2⟩:=vK hc
    cases hr:PyFlat.calls PyWqazby.shape f t with
    |none =>
     rw[hr] at h
     cases h
    |some cs' =>
     rw[hr] at h
     cases h
     exact⟨wh,n,m,cs',f,C,by rw[ec],h1,h2,by rw[←et];exact hr⟩
 ·subst e
  rw[List.drop_length] at h
  cases f<;>(unfold PyFlat.calls at h;cases h;exact .inl ⟨rfl,rfl⟩)
end PR
namespace PR
open PySem PySem.Spec PyProof.Rows L2
variable {P:Program}{w:World}{K:PySem.W.Frag}{mg:Str->Option Value}{base:Heap}
noncomputable abbrev eZ:Stmt:=top 96
abbrev RS:=RolG.State
abbrev rT:=Hp->Addr->RS->(Addr->Prop)->Prop
def Off(fp:Addr->Prop)(H H':Hp):Prop:=∀b o,H b=some o->¬fp b->H' b=some o
theorem aN.off{fp:Addr->Prop}{H H':Hp}(g:aN H H'):Off fp H H':=λb o h _=>g b o h
def DW(Hold:rT):Prop:=∀(H H':Hp) (h:Addr) (s:RS) (fp:Addr->Prop),Hold H h s fp->(∀b o,H b=some o->(fp b∨∃xs,o=.tup xs)->H' b=some o)->Hold H' h s fp
structure CAt(CC:Addr)(H:Hp)(c:Addr)(wh:Int)(b:Nat)(ns tx:List Int):Prop where
 ex:∃dx na ta,H c=some (.ins CC dx (cf (.int wh) (.int b) (.ref na) (.ref ta)))/\H na=some (.lst (ns.map V.int))/\H ta=some (.lst (tx.map V.int))
section
variable {CC fC CH fH:Addr}
abbrev DG(Hold:rT)(CC:Addr)(vs:List V)(H:Hp)(Q:VK)(h c:Addr)(s:RS)(fp:Addr->Prop)(wh:Int)(b:Nat)(ns:List Int)(tx:Option (List Int)):Prop :=
 vs=[.ref h,.ref c]/\Hold H h s fp/\CAt CC H c wh b ns (tx.getD [])/\(∀x,fp x->H x≠none)/\(∀dx na ta,H c=some (.ins CC dx (cf (.int wh) (.int b) (.ref na) (.ref ta)))->¬fp c/\¬fp na/\¬fp ta) /\
 RolGNeutral.asked1 (callOf wh ns tx)=true/\tx.isSome=decide (wh=1∨wh=2)/\(tx.getD []).length<=30000 /\
 ∀H' a fp',Off fp H H'->Hold H' h (RolGNeutral.step s (callOf wh ns tx)).1 fp'->(∀x,fp' x->H' x≠none/\(fp x∨H x=none))->¬fp' a->H a=none->H' a=some (.lst (((RolGNeutral.step s (callOf wh ns tx)).2).map V.int))->Q (.ref a) H'
def oCall(Hold:rT)(CC:Addr):Sp:=λvs H Q _=>∃(h c:Addr) (s:RS) (fp:Addr->Prop) (wh:Int) (b:Nat) (ns:List Int) (tx:Option (List Int)),DG Hold CC vs H Q h c s fp wh b ns tx
def pZ(K:PySem.W.Frag):Sp:=λvs H Q _=>∃(a:Addr) (l:List Int) (cs:List (List (List Int))),vs=[.ref a]/\SqL K H a (l.map V.int)/\PyFlat.calls PyWqazby.shape l.length l=some cs/\(∀c∈cs,RolGNeutral.asked1 c=true)/\l.length<=30000 /\
 (PyFlat.told (PyFlat.played RolGNeutral.step RolGNeutral.start cs)).length<=2000000/\∀H' p,H' p=some (.lst ((PyFlat.told (PyFlat.played RolGNeutral.step RolGNeutral.start cs)).map V.int))->Q (.ref p) H'
theorem yS:aJ ["calls","holder","answered","place","call","answer"] ["calls"] (aA eZ):=sc0
theorem uo(a:List Int)(r:List (List Int)):PyFlat.told (a::r)=(a.length:Int)::(a++PyFlat.told r):=by
 unfold PyFlat.told
 rw[List.flatMap_cons]
 rfl
theorem yw{Hold:rT}{f fA:Addr}{fd fdH fdC fdA:FuncData}{k:Nat}(F:Fun K "answers" "answers" eZ f fd)(hk:2<=k)(hlen:mg "len"=none)(TH:KC K mg "Holder" CH fH ["player"])(bH:Binds K fdH ["self"] [])(GH:aF P w K mg base CX0 1 fH fdH ["self"] (ue CH))(TC:KC K mg "Call" CC fC ik)(bC:Binds K fdC ["self","calls","start"] [])(GC:aF P w K mg base CX0 1 fC fdC ["self","calls","start"] (Aw K CC))(kA:PySem.W.keepIn K (.ref fA)=true)(mA:mg "answer_call"=some (.ref fA))(bA:Binds K fdA ["holder","call"] [])(GA:aF P w K mg base CX0 k fA fdA ["holder","call"] (oCall Hold CC))(new:∀(H:Hp) (h dx:Addr),H h=some (.ins CH dx [("player",.non)])->Hold H h RolGNeutral.start λx=>x=h)(stay:DW Hold) :
  aF P w K mg base CX0 (k+1) f fd ["calls"] (pZ K):=by
 refine F.ok yS (λvs H Q E h=>?_) (λcdv A outer s H vs Q E hr h=>?_)
 ·obtain⟨a,l,cs,rfl,_⟩:=h
  rfl
 ·obtain⟨a,l,cs,rfl,hsq,hcs,hask,hl3,htot,kq⟩:=h
  have hr2:bY 2 _:=hr.mono hk
  refine⟨_,aq (aP (i:=1) yS.nd rfl (Or.inl rfl) (Hc TH.mkc GH hr2 rfl TH.mg bH .nil aX))
   (aq (aP (i:=2) yS.nd rfl (Or.inl rfl) (cD au))
   (aq (aP (i:=3) yS.nd rfl (Or.inl rfl) aC)
   (aq (eX PassesOwn.never (bG tL (pv 3) (bJ bz (by rfl) hlen PySem.boot_len (ak (pv 0) au)) (bQ _))
    (aq (aP (i:=4) yS.nd rfl (Or.inl rfl) (dZ TC.mkc GC hr2 rfl TC.mg bC .nil aX (ak (pv 0) (ak (pv 3) au))))
    (aq (aP (i:=5) yS.nd rfl (Or.inl rfl) (bU GA hr rfl mA kA bA .nil aX (ak (pv 1) (ak (pv 4) au))))
    (aq (bh (f9 PySem.F.plainAttrs_list PySem.F.slot_list_append PySem.F.type_list_append gn (pv 2) (ak (bJ bz (by rfl) hlen PySem.boot_len (ak (pv 5) au)) au)))
    (aq (bh (f9 PySem.F.plainAttrs_list PySem.F.slot_list_extend PySem.F.type_list_extend eO (pv 2) (ak (pv 5) au)))
    (az (aP (i:=3) yS.nd rfl (Or.inl rfl) (aB (pv 4) rfl))))))))
   (az (aO (pv 2)))))),?_⟩
  intro h dx0 hh hdx0 hne0
  refine⟨h,dx0,rfl,aj,rfl,?_⟩
  rw[cG]
  have g1:aN H (upd (upd H dx0 (.own h)) h (.ins CH dx0 [("player",.non)])):=λb o z=>by
   rw[ao (aa z hh),ao (aa z hdx0)]
   exact z
  refine⟨Nat.zero_le _,λla hla=>?_⟩
  have nhl:h≠la:=aa aj hla
  have g2:=g1.trans (aN.new (.lst []) hla)
  have hlaH:H la=none:=g1.fresh hla
  obtain⟨W,hW⟩:∃W:Nat->L2.St->Hp->Prop,W=λm σ H'=>∃(p f:Nat) (s:RS) (fp:Addr->Prop) (acc:List Int) (cs':List (List (List Int))) (v4 v5:Option V),m=l.length-p/\p<=l.length/\σ=[some (.ref a),some (.ref h),some (.ref la),some (.int p),v4,v5]/\Hold H' h s fp/\(∀x,fp x->H' x≠none/\H x=none)/\¬fp la /\
   H' la=some (.lst (acc.map V.int))/\aN H H'/\PyFlat.calls PyWqazby.shape f (l.drop p)=some cs'/\(∀c∈cs',RolGNeutral.asked1 c=true)/\PyFlat.told (PyFlat.played RolGNeutral.step RolGNeutral.start cs)=acc++PyFlat.told (PyFlat.played RolGNeutral.step s cs'):=⟨_,rfl⟩
  refine⟨W,⟨l.length,?_⟩,?_⟩
  ·rw[hW]
   refine⟨0,l.length,RolGNeutral.start,λx=>x=h,[],cs,none,none,rfl,Nat.zero_le _,rfl,new _ h dx0 (by rw[ao nhl,aj]),?_,λz=>nhl z.symm,aj,g2,hcs,hask,rfl⟩
   rintro x rfl
   exact⟨by rw[ao nhl,aj];exact Option.some_ne_none _,hh⟩
  ·intro m σ H' hw
   rw[hW] at hw
   obtain⟨p,f',s',fp,acc,cs',v4,v5,rfl,hp,rfl,hold,hfp,hfl,hl',g',hcs',hask',htl⟩:=hw
   refine⟨_,rfl,_,rfl,a,_,rfl,.inl (g'.sq hsq),_,_,rfl,rfl,_,rfl,?_⟩
   rcases xO hp hcs' with ⟨e,ecs⟩|⟨hlt,wh,n,m,cs2,f2,C,ecs,hb1,hb2,hcs2⟩
   ·refine aV (by rw[List.length_map,e];simp) ?_
    subst ecs
    rw[show PyFlat.played RolGNeutral.step s' []=[] from rfl,show PyFlat.told []=[] from rfl,List.append_nil] at htl
    refine⟨_,rfl,kq _ _ ?_⟩
    rw[htl]
    exact hl'
   ·refine aM (decide_eq_true (by rw[List.length_map];omega)) ⟨λσ' H3=>∃m',m'<l.length-p/\W m' σ' H3,λ_ _ z=>z,?_⟩
    refine⟨_,rfl,_,rfl,λc dx hc hdx hcd=>⟨c,dx,a,l,p,wh,n,m,rfl,aj,?_,C,λH1 na ta b1 hna hta r1 n1 t1=>⟨rfl,?_⟩⟩⟩
    ·refine(aN.sq ?_ (g'.sq hsq))
     intro b o z
     rw[ao (aa z hc),ao (aa z hdx)]
     exact z
    ·have g1':aN H' H1:=λb o z=>b1 b o (by rw[ao (aa z hc),ao (aa z hdx)];exact z) (aa z hc)
     have hun:∀{x:Addr},upd (upd H' dx (.own c)) c (.ins CC dx []) x=none->H' x=none:=λ{x} z=>by
      cases e:H' x with
      |none=>rfl
      |some o =>
       rw[ao (aa e hc),ao (aa e hdx),e] at z
       cases z
     have nfp:∀{x:Addr},H' x=none->¬fp x:=λ{x} z y=>(hfp x y).1 z
     have hold1:Hold H1 h s' fp:=stay _ _ _ _ _ hold λb o z _=>g1' _ _ z
     have hl1:H1 la=some (.lst (acc.map V.int)):=g1' _ _ hl'
     subst ecs
     have hask1:=hask' _ (List.mem_cons_self ..)
     have hsz:∀x,fp x->H1 x≠none:=λx hx z=>(hfp x hx).1 (g1'.fresh z)
     have etx:(m.map λk=>part l (p+1+n+1) k).getD []=textOf l p n m:=by cases m<;>rfl
     refine⟨_,rfl,_,rfl,h,c,s',fp,wh,behind p n m,part l (p+1) n,m.map λk=>part l (p+1+n+1) k,rfl,hold1,⟨dx,na,ta,r1,n1,by rw[etx];exact t1⟩,hsz,?_,hask1,?_,?_,?_⟩
     ·intro dx' na' ta' e
      rw[r1] at e
      injection e with e
      injection e with e1 e2 e3
      have e4:na=na'/\ta=ta':=by
       simp only[cf,List.cons.injEq,Prod.mk.injEq,true_and,and_true] at e3
       exact⟨by injection e3.1,by injection e3.2⟩
      rw[←e4.1,←e4.2]
      exact⟨nfp hc,nfp (hun hna),nfp (hun hta)⟩
     ·cases m with
      |none =>
       obtain⟨w1,w2⟩:=C.no rfl
       simp[w1,w2]
      |some k =>
       have:=(C.yes k rfl).1
       simp[this]
     ·rw[etx]
      cases m with
      |none=>exact Nat.zero_le _
      |some k =>
       show(part l (p+1+n+1) k).length<=30000
       unfold part
       rw[List.length_take,List.length_drop]
       omega
     ·intro H2 b fp' off hold2 hfp' hnb hbn hb
      generalize hst:RolGNeutral.step s' (callOf wh (part l (p+1) n) (m.map λk=>part l (p+1+n+1) k))=st at hold2 hb htl
      have hl2:H2 la=some (.lst (acc.map V.int)):=off _ _ hl1 hfl
      have nbl:b≠la:=λz=>by
       rw[z,hl1] at hbn
       cases hbn
      have hfl':¬fp' la:=λz=>by
       rcases (hfp' la z).2 with y|y
       ·exact hfl y
       ·rw[hl1] at y
        cases y
      have g2':aN H H2:=λx o z=>off _ _ (g1' _ _ (g' _ _ z)) λy=>by
       rw[(hfp x y).2] at z
       cases z
      have nfc:¬fp c:=nfp hc
      have r2:=off _ _ r1 nfc
      have ncl:c≠la:=bI r2 hl2 (by intro y;cases y)
      rw[show PyFlat.played RolGNeutral.step s' (callOf wh (part l (p+1) n) (m.map λk=>part l (p+1+n+1) k)::cs2)=(RolGNeutral.step s' (callOf wh (part l (p+1) n) (m.map λk=>part l (p+1+n+1) k))).2::PyFlat.played RolGNeutral.step (RolGNeutral.step s' (callOf wh (part l (p+1) n) (m.map λk=>part l (p+1+n+1) k))).1 cs2 from rfl,hst,uo] at htl
      have hlen:=htot
      rw[htl,List.length_append,List.length_cons,List.length_append] at hlen
      refine⟨_,rfl,.inl ⟨rfl,_,SqL.of hl2⟩,_,rfl,b,_,rfl,.inl (SqL.of hb),la,_,_,rfl,rfl,hl2,?_,?_⟩
      ·rw[List.length_map,sizeLine_eq]
       omega
      refine⟨_,rfl,.inl ⟨rfl,_,SqL.of aj⟩,_,rfl,la,b,_,_,rfl,rfl,aj,by rw[ao nbl];exact hb,?_,?_⟩
      ·rw[List.length_append,List.length_map,List.length_map,sizeLine_eq]
       show acc.length+1+st.2.length<=16777216
       omega
      rw[cG]
      refine⟨_,rfl,c,CC,dx,_,_,rfl,by rw[ao ncl];exact r2,TC.cl,TC.no _ dk,rfl,l.length-behind p n m,by omega,?_⟩
      rw[hW]
      refine⟨behind p n m,f2,st.1,fp',acc++(st.2.length:Int)::st.2,cs2,_,_,rfl,hb2,rfl,?_,?_,hfl',?_,?_,hcs2,λc' hc'=>hask' _ (List.mem_cons_of_mem _ hc'),?_⟩
      ·refine stay _ _ _ _ _ hold2 λx o z y=>?_
       have nx:x≠la:=by
        rintro rfl
        rcases y with y|y
        ·exact hfl' y
        ·obtain⟨xs,y⟩:=y
         rw[hl2,y] at z
         cases z
       rw[ao nx]
       exact z
      ·intro x hx
       refine⟨?_,?_⟩
       ·have nx:x≠la:=λz=>hfl' (z▸hx)
        rw[ao nx]
        exact(hfp' x hx).1
       ·rcases (hfp' x hx).2 with y|y
        ·exact(hfp x y).2
        ·exact(g'.trans g1').fresh y
      ·rw[aj,List.map_append,List.map_cons,List.length_map,List.append_assoc]
       rfl
      ·intro x o z
       rw[ao (aa z hlaH)]
       exact g2' _ _ z
      ·rw[htl]
       simp
end
end PR
namespace PR
theorem ju:∀(s:RolGNeutral.State) (cs:List RolGNeutral.Call),RolGNeutral.play s cs=PyFlat.played RolGNeutral.step s cs
 |_,[]=>rfl
 |s,c::r=>by
  unfold RolGNeutral.play PyFlat.played
  dsimp only
  rw[ju]
theorem qt:∀(s:RolGNeutral.State) (cs:List RolGNeutral.Call),(PyFlat.played RolGNeutral.step s cs).length=cs.length
 |_,[]=>rfl
 |s,c::r=>by
  unfold PyFlat.played
  rw[List.length_cons,List.length_cons,qt]
theorem xj:∀(l:List (List Int)) (n:Nat),(PyFlat.told l).length+n<=l.foldl (λ(n:Nat) (a:List Int)=>n+RolGNeutral.sizeOf a) n+3*l.length
 |[],n=>by simp[PyFlat.told]
 |a::r,n=>by
  rw[uo,List.foldl_cons,List.length_cons,List.length_append,List.length_cons]
  have ih:=xj r (n+RolGNeutral.sizeOf a)
  have:a.length+1<=RolGNeutral.sizeOf a+3:=by
   unfold RolGNeutral.sizeOf
   split<;>omega
  omega
theorem Eg{l:List Int}(h:PyWqazby.answers_asked l=true):∃cs,PyFlat.calls PyWqazby.shape l.length l=some cs/\(∀c∈cs,RolGNeutral.asked1 c=true) /\
  PyWqazby.answers l=PyFlat.told (PyFlat.played RolGNeutral.step RolGNeutral.start cs)/\(PyFlat.told (PyFlat.played RolGNeutral.step RolGNeutral.start cs)).length<=2000000:=by
 unfold PyWqazby.answers_asked at h
 unfold PyWqazby.answers
 cases hc:PyWqazby.calls l with
 |none =>
  rw[hc] at h
  cases h
 |some cs =>
  rw[hc] at h
  dsimp only at h ⊢
  unfold PyWqazby.calls at hc
  cases hf:PyFlat.calls PyWqazby.shape l.length l with
  |none =>
   rw[hf] at hc
   cases hc
  |some cs' =>
   rw[hf] at hc
   dsimp only at hc
   have e:cs'=cs:=by
    have hid:cs'.map PyWqazby.whole=cs':=by
     rw[show PyWqazby.whole=id from funext HY]
     exact List.map_id _
    rw[hid] at hc
    exact Option.some.inj hc
   subst e
   rw[Bool.and_eq_true] at h
   have ha:=h.2
   unfold RolGNeutral.asked at ha
   rw[Bool.and_eq_true,Bool.and_eq_true,Bool.and_eq_true,decide_eq_true_eq,decide_eq_true_eq,decide_eq_true_eq] at ha
   refine⟨cs',rfl,λc hc'=>List.all_eq_true.mp ha.1.1.1 c hc',rfl,?_⟩
   have h1:=xj (PyFlat.played RolGNeutral.step RolGNeutral.start cs') 0
   rw[qt,←ju] at h1
   rw[←ju]
   have h2:=ha.2
   have h3:=ha.1.2
   omega
end PR
namespace PR
open PySem PySem.Spec PyProof.Rows L2
variable {P:Program}{w:World}{K:PySem.W.Frag}{mg:Str->Option Value}{base:Heap}
noncomputable abbrev qK:Stmt:=top 102
section
variable {CC fC CH fH CF fF CR CB CS:Addr}
noncomputable def kJ(z:Int)(ns:List Int):List Int:=if ns.length=0 then [z] else z::(ns.length:Int)::(ns++[0])
def qR:Sp:=λvs H Q _=>∃(z:Int) (na:Addr) (ns:List Int),vs=[.int z,.ref na]/\H na=some (.lst (ns.map V.int))/\ns.length<=1000000/\∀H' a,aN H H'->H a=none->H' a=some (.lst ((kJ z ns).map V.int))->Q (.ref a) H'
theorem scWi:aJ ["number","numbers"] ["number","numbers"] (aA qK):=sc0
theorem Jo{f:Addr}{fd:FuncData}(F:Fun K "answer_with_list" "answer_with_list" qK f fd)(hlen:mg "len"=none):j9 P w K mg base 1 f fd ["number","numbers"] qR:=by
 refine F.okH scWi (λvs H Q E h=>?_) (λcdv A outer s H vs Q E hr h=>?_)
 ·obtain⟨z,na,ns,rfl,_⟩:=h
  rfl
 ·obtain⟨z,na,ns,rfl,hna,hle,k⟩:=h
  refine⟨_,aq (cA (bG gJ (bJ bz (by rfl) hlen PySem.boot_len (ak (pv 1) au)) aC (bQ _)) (az (aO (cD (ak (pv 0) au)))) aZ)
   (az (aO (bc GZ (bc GZ (cD (ak (pv 0) (ak (bJ bz (by rfl) hlen PySem.boot_len (ak (pv 1) au)) au))) (pv 1)) (cD (ak aC au))))),?_⟩
  refine⟨_,rfl,na,_,rfl,.inl (SqL.of hna),rfl,_,rfl,?_⟩
  refine uL (λc=>?_) (λc=>?_)
  ·have c:ns.length=0:=by simpa using c
   refine⟨_,rfl,by show 1<=sizeLine;decide,λp1 h1=>?_⟩
   refine k _ p1 (aN.new (.lst _) h1) h1 ?_
   rw[aj]
   unfold kJ
   rw[if_pos c]
   rfl
  have c:¬ns.length=0:=by simpa using c
  refine⟨_,rfl,_,rfl,na,_,rfl,.inl (SqL.of hna),by show 2<=sizeLine;decide,λp1 h1=>?_⟩
  have n1:na≠p1:=aa hna h1
  refine⟨_,rfl,p1,na,_,_,rfl,rfl,aj,by rw[ao n1];exact hna,?_,λp2 h2=>?_⟩
  ·rw[List.length_map,sizeLine_eq]
   show 2+ns.length<=16777216
   omega
  refine⟨by show 1<=sizeLine;decide,λp3 h3=>?_⟩
  have n3:p2≠p3:=aa aj h3
  refine⟨p2,p3,_,_,rfl,rfl,by rw[ao n3,aj],aj,?_,λp4 h4=>?_⟩
  ·rw[List.length_append,List.length_map,sizeLine_eq]
   show 2+ns.length+1<=16777216
   omega
  refine k _ p4 ((aN.new (.lst _) h1).trans ((aN.new (.lst _) h2).trans ((aN.new (.lst _) h3).trans (aN.new (.lst _) h4)))) ?_ ?_
  ·exact((aN.new (.lst _) h1).trans ((aN.new (.lst _) h2).trans (aN.new (.lst _) h3))).fresh h4
  ·rw[aj,List.length_map]
   unfold kJ
   rw[if_neg c]
   simp
end
noncomputable abbrev vd:Stmt:=top 56
noncomputable abbrev vh:Stmt:=inClass (top 55) 0
noncomputable def wN:List (Int×Int):=[(1,1000000),(0,10000),(1,100000),(1,60000000)]
noncomputable def inR(ns:List Int):Bool:=(ns.zip wN).all λx=>decide (x.2.1<=x.1)&&decide (x.1<=x.2.2)
structure oZ(K:PySem.W.Frag)(mg:Str->Option Value)(a:Addr)(es:List Addr):Prop where
 mg:mg "RANGES"=some (.ref a)
 at_:∀H,SqT K H a (es.map V.ref)
 ea:∀(i:Nat) (e:Addr) (lo hi:Int),es[i]?=some e->wN[i]?=some (lo,hi)->∀H,SqT K H e [.int lo,.int hi]
 len:es.length=4
section
variable {CC fC CH fH CF fF CR CB CS:Addr}
def Bc:Sp:=λvs H Q _=>∃(na:Addr) (ns:List Int),vs=[.ref na]/\H na=some (.lst (ns.map V.int))/\ns.length=4/\∀H',aN H H'->Q (.bl (inR ns)) H'
theorem scRa:aJ ["numbers","number","ends"] ["numbers"] (aA vd):=sc0
theorem zR{ns:List Int}{i:Nat}{z lo hi:Int}(h1:ns[i]?=some z)(h2:wN[i]?=some (lo,hi))(h:z<lo∨hi<z):inR ns=false:=by
 unfold inR
 rw[List.all_eq_false]
 have hz:(ns.zip wN)[i]?=some (z,lo,hi):=by rw[List.getElem?_zip_eq_some];exact⟨h1,h2⟩
 refine⟨_,List.mem_of_getElem? hz,?_⟩
 rw[Bool.and_eq_true,decide_eq_true_eq,decide_eq_true_eq]
 show ¬(lo<=z/\z<=hi)
 omega
theorem Fi{ns:List Int}(h:∀(i:Nat) (z lo hi:Int),ns[i]?=some z->wN[i]?=some (lo,hi)->lo<=z/\z<=hi):inR ns=true:=by
 unfold inR
 rw[List.all_eq_true]
 rintro⟨z,lo,hi⟩ hx
 obtain⟨i,hi'⟩:=List.getElem?_of_mem hx
 rw[List.getElem?_zip_eq_some] at hi'
 have:=h i z lo hi hi'.1 hi'.2
 rw[Bool.and_eq_true,decide_eq_true_eq,decide_eq_true_eq]
 exact this
theorem Gs{f aR:Addr}{es:List Addr}{fd:FuncData}(F:Fun K "are_in_range" "are_in_range" vd f fd)(TR:oZ K mg aR es)(hzip:mg "zip"=none):aF P w K mg base CX0 1 f fd ["numbers"] Bc:=by
 refine F.ok scRa (λvs H Q E h=>?_) (λcdv A outer s H vs Q E hr h=>?_)
 ·obtain⟨na,ns,rfl,_⟩:=h
  rfl
 ·obtain⟨na,ns,rfl,hna,hl4,k⟩:=h
  refine⟨_,aq (iM PassesOwn.never rfl (JB rfl hzip (ak (pv 0) (ak (aD (v:=.ref aR) rfl TR.mg rfl) au)))
    (lZ rfl (dB (cF (i:=1) scRa.nd rfl (.inl rfl)) (dB (cF (i:=2) scRa.nd rfl (.inl rfl)) jG)))
    (az (cA (PW.pt (wJ (bG tL (pv 1) (cz cU (pv 2) aC (λ_ _=>rfl)) (bQ _)) (qx (bG nO (pv 1) (cz cU (pv 2) aC (λ_ _=>rfl)) (bQ _))))) (az (aO lA)) aZ)))
   (az (aO lA)),?_⟩
  refine⟨_,rfl,na,aR,_,_,rfl,SqL.of hna,TR.at_ _,?_⟩
  refine Fe (xs:=ns.map V.int) (ys:=es.map V.ref) (by rw[List.length_map,List.length_map,hl4,TR.len]) (λi σ H'=>aN H H'/\(∃v1 v2,σ=[some (.ref na),v1,v2])/\∀(j:Nat) (z lo hi:Int),j<i->ns[j]?=some z->wN[j]?=some (lo,hi)->lo<=z/\z<=hi) ?_ ?_ ?_ ?_
  ·exact⟨aN.refl _,⟨none,none,rfl⟩,λj _ _ _ hj=>absurd hj (Nat.not_lt_zero _)⟩
  ·rintro i σ H' ⟨g,_,_⟩
   exact⟨SqL.of (g _ _ hna),TR.at_ _⟩
  ·rintro i x y σ H' T hx hy ⟨g,⟨v1,v2,rfl⟩,hall⟩ hT
   rw[List.getElem?_map] at hx hy
   obtain⟨z,hz,rfl⟩:=Option.map_eq_some_iff.mp hx
   obtain⟨e,he,rfl⟩:=Option.map_eq_some_iff.mp hy
   have hi4:i<4:=by
    have:=(List.getElem?_eq_some_iff.mp he).1
    rw[TR.len] at this
    exact this
   obtain⟨⟨lo,hi⟩,hr'⟩:∃r,wN[i]?=some r:=⟨_,List.getElem?_eq_getElem (by show i<4;exact hi4)⟩
   have gT:=g.trans (aN.new (.tup [.int z,.ref e]) hT)
   refine⟨T,_,rfl,SqT.of aj,rfl,_,_,rfl,_,_,rfl,rfl,?_⟩
   refine⟨_,rfl,_,rfl,e,_,_,_,rfl,rfl,TR.ea i e lo hi he hr' _,rfl,_,_,rfl,rfl,_,rfl,?_⟩
   by_cases h1:z<lo
   ·refine aM (decide_eq_true h1) (aM rfl ?_)
    have:=k _ gT
    rw[zR hz hr' (.inl h1)] at this
    exact this
   ·refine aV (by rw[decide_eq_false h1];exact Bool.false_ne_true) ?_
    refine⟨_,rfl,_,rfl,e,_,_,_,rfl,rfl,TR.ea i e lo hi he hr' _,rfl,_,_,rfl,rfl,_,rfl,?_⟩
    by_cases h2:hi<z
    ·refine aM (decide_eq_true h2) ?_
     have:=k _ gT
     rw[zR hz hr' (.inr h2)] at this
     exact this
    ·refine aV (by rw[decide_eq_false h2];exact Bool.false_ne_true) ?_
     refine⟨gT,⟨_,_,rfl⟩,λj z' lo' hi' hj hz' hr''=>?_⟩
     rcases Nat.lt_or_eq_of_le (Nat.le_of_lt_succ hj) with h|h
     ·exact hall j z' lo' hi' h hz' hr''
     ·subst h
      rw[hz] at hz'
      rw[hr'] at hr''
      cases hz'
      cases hr''
      omega
  ·rintro σ H' ⟨g,_,hall⟩
   have:=k _ g
   rw[Fi λi z lo hi h1 h2=>hall i z lo hi (by rw[List.length_map];exact(List.getElem?_eq_some_iff.mp h1).1) h1 h2] at this
   exact this
noncomputable abbrev bV:List Str:=["first_turn","more_a_turn","row_length","turn_time"]
end
end PR
namespace PR
open Rol
theorem tri(n:Nat):(n+1)*(n+1-1) / 2=n*(n-1) / 2+n:=by
 cases n with
 |zero=>rfl
 |succ k =>
  rw[show(k+1+1)*(k+1+1-1)=(k+1)*(k+1-1)+(k+1)*2 by
   show(k+2)*(k+1)=(k+1)*k+(k+1)*2
   rw[Nat.mul_comm (k+2),←Nat.mul_add]]
  exact Nat.add_mul_div_right _ _ (by decide)
theorem qi(s:Spool)(n:Nat):s.paper (n+1)=s.paper n+s.first+s.more*n:=by
 unfold Spool.paper
 rw[tri,Nat.mul_add,Nat.succ_mul]
 omega
theorem qg{s:Spool}(h:1<=s.first){n m:Nat}(hn:n<m):s.paper n<s.paper m:=by
 induction m with
 |zero=>omega
 |succ m ih =>
  rw[qi]
  rcases Nat.lt_or_eq_of_le (Nat.le_of_lt_succ hn) with h1|h1
  ·have:=ih h1
   omega
  ·subst h1
   omega
theorem qe(s:Spool)(n:Nat):n*s.first<=s.paper n:=by
 unfold Spool.paper
 omega
theorem iW{s:Spool}{x:Nat}:∀(f lo hi:Nat),lo<=hi->hi-lo<2 ^ f->s.paper lo<=x->x<s.paper (hi+1)->s.paper (s.turnsIn x f lo hi)<=x/\x<s.paper (s.turnsIn x f lo hi+1)
 |0,lo,hi,h1,h2,h3,h4=>by
  have e:hi=lo:=by
   rw[Nat.pow_zero] at h2
   omega
  subst e
  exact⟨h3,h4⟩
 |f+1,lo,hi,h1,h2,h3,h4=>by
  unfold Spool.turnsIn
  by_cases hl:hi<=lo
  ·have e:hi=lo:=by omega
   subst e
   rw[if_pos hl]
   exact⟨h3,h4⟩
  ·rw[if_neg hl]
   have hp:2 ^ (f+1)=2*2 ^ f:=by rw[Nat.pow_succ,Nat.mul_comm]
   dsimp only
   by_cases hm:s.paper ((lo+hi+1) / 2)<=x
   ·rw[if_pos hm]
    exact iW f _ hi (by omega) (by omega) hm h4
   ·rw[if_neg hm]
    refine iW f lo _ (by omega) (by omega) h3 ?_
    rw[show(lo+hi+1) / 2-1+1=(lo+hi+1) / 2 by omega]
    omega
theorem iY{s:Spool}(h1:1<=s.first){i:Nat}(hi:i*s.step<2 ^ 64):s.paper (s.turns i)<=i*s.step/\i*s.step<s.paper (s.turns i+1):=by
 unfold Spool.turns
 refine iW 64 0 _ (Nat.zero_le _) ?_ ?_ ?_
 ·rw[Nat.sub_zero]
  exact Nat.lt_of_le_of_lt (Nat.div_le_self _ _) hi
 ·show 0*s.first+s.more*(0*(0-1) / 2)<=_
  simp
 ·refine Nat.lt_of_lt_of_le ?_ (qe s _)
  rw[Nat.succ_mul]
  have h:=Nat.div_add_mod (i*s.step) s.first
  have h2:=Nat.mod_lt (i*s.step) (show s.first > 0 by omega)
  rw[Nat.mul_comm] at h
  omega
theorem zr{s:Spool}(h1:1<=s.first){i n:Nat}(hi:i*s.step<2 ^ 64)(ha:s.paper n<=i*s.step)(hb:i*s.step<s.paper (n+1)):s.turns i=n:=by
 obtain⟨h2,h3⟩:=iY h1 hi
 rcases Nat.lt_trichotomy (s.turns i) n with h|h|h
 ·rcases Nat.lt_or_eq_of_le (show s.turns i+1<=n from h) with y|y
  ·have:=qg h1 y
   omega
  ·rw[y] at h3
   omega
 ·exact h
 ·rcases Nat.lt_or_eq_of_le (show n+1<=s.turns i from h) with y|y
  ·have:=qg h1 y
   omega
  ·rw[←y] at h2
   omega
theorem qy(w:Nat)(p:Nat->Bool):rowOf (w+1) p=rowOf w p+if p w=true then 2 ^ w else 0:=by
 unfold rowOf
 rw[List.range_succ,List.map_append,List.foldl_append]
 rfl
theorem lt_aux{a n:Nat}{c:Prop}[Decidable c](h:a<n):a+(if c then n else 0)<n*2:=by
 split<;>omega
theorem wO(p:Nat->Bool):∀w:Nat,rowOf w p<2 ^ w
 |0=>by
  show 0<1
  decide
 |w+1=>by
  have ih:=wO p w
  rw[qy,Nat.pow_succ]
  exact lt_aux ih
theorem my(p:Nat->Bool)(t:Nat):∀w:Nat,Nat.testBit (rowOf w p) t=(decide (t<w)&&p t)
 |0=>by
  rw[show rowOf 0 p=0 from rfl,Nat.zero_testBit,decide_eq_false (Nat.not_lt_zero t)]
  rfl
 |w+1=>by
  have ih:=my p t w
  have hlt:=wO p w
  rw[qy]
  by_cases hp:p w=true
  ·rw[if_pos hp,Nat.add_comm,show 2 ^ w+rowOf w p=2 ^ w*1+rowOf w p by rw[Nat.mul_one],Nat.testBit_two_pow_mul_add 1 hlt t]
   by_cases h:t<w
   ·rw[if_pos h,ih,decide_eq_true h,decide_eq_true (Nat.lt_succ_of_lt h)]
   ·rw[if_neg h]
    by_cases e:t=w
    ·subst e
     rw[Nat.sub_self,decide_eq_true (Nat.lt_succ_self t),hp]
     rfl
    ·rw[decide_eq_false (show ¬t<w+1 by omega)]
     obtain⟨k,hk⟩:∃k,t-w=k+1:=⟨t-w-1,by omega⟩
     rw[hk,Bool.false_and,Nat.testBit_succ]
     simp
  ·rw[if_neg hp,Nat.add_zero,ih]
   by_cases h:t<w
   ·rw[decide_eq_true h,decide_eq_true (Nat.lt_succ_of_lt h)]
   ·by_cases e:t=w
    ·subst e
     have hp:p t=false:=by simpa using hp
     rw[hp,Bool.and_false,Bool.and_false]
    ·rw[decide_eq_false h,decide_eq_false (show ¬t<w+1 by omega)]
theorem sU(b:Bar)(x k:Nat):Nat.testBit (b.heard x) k=(decide (k<128)&&b.has x (.key k)):=by
 unfold Bar.heard
 rw[my]
 rfl
theorem Fv(x y t:Nat):Nat.testBit (less x y) t=(decide (t<128)&&(Nat.testBit x t&&!Nat.testBit y t)):=by
 unfold less
 rw[my]
 rfl
theorem jU{p q:Nat->Bool}{n:Nat}(h:∀k,k<n->p k=q k):(List.range n).filter p=(List.range n).filter q:=by
 apply List.filter_congr
 intro k hk
 exact h k (List.mem_range.mp hk)
theorem Ca(b:Bar)(x y:Nat):keysIn (less (b.heard x) (b.heard y))=(List.range 128).filter λk=>b.has x (.key k)&&!b.has y (.key k):=by
 unfold keysIn Row.hole
 refine jU λk hk=>?_
 rw[Fv,sU,sU,decide_eq_true hk]
 rfl
theorem or_bit(l:List Nat)(a t:Nat):Nat.testBit (l.foldl (λ(a b:Nat)=>a ||| b) a) t=(Nat.testBit a t || l.any λx=>Nat.testBit x t):=by
 induction l generalizing a with
 |nil=>simp
 |cons x r ih =>
  rw[List.foldl_cons,ih,Nat.testBit_or,List.any_cons,Bool.or_assoc]
theorem Dl(w:Nat)(rows:List Row)(g i t:Nat):Nat.testBit (Strip.soundRow ⟨w,rows⟩ g i) t=(decide (t<w)&&((rows.take (i+1)).drop (i-g)).any λx=>Nat.testBit x t):=by
 unfold Strip.soundRow
 dsimp only
 rw[Nat.testBit_mod_two_pow,or_bit,Nat.zero_testBit,Bool.false_or]
theorem vU(m:Means):∀l:List (Nat×Means),L2.dN (trk (rB l)) (iD (dm m))=((l.find? λ(x:Nat×Means)=>x.2==m).map λ(x:Nat×Means)=>(x.1:Int)).map L2.V.int
 |[]=>rfl
 |x::l=>by
  have ih:=vU m l
  unfold L2.dN trk rB at ih ⊢
  rw[List.map_cons,List.map_cons,List.find?_cons,List.find?_cons]
  by_cases h:x.2=m
  ·rw[decide_eq_true (by rw[h]),show(x.2==m)=true by rw[h];exact beq_self_eq_true m]
   rfl
  ·rw[decide_eq_false (λz=>h (tK (kY z))),show(x.2==m)=false from beq_eq_false_iff_ne.mpr h]
   exact ih
theorem iR(p:Player):p.begin_.rows=p.rows:=rfl
theorem eG(p:Player):p.begin_.begun=p.begun+1:=rfl
theorem mU(p:Player)(f k:Nat):p.upTo (f+1) k=if p.untold≠[] then (p,k,none) else if p.done=true then (p,k,some 2) else if k=0 then (p,k,some 0) else if p.rows<=p.begun then (p,k,some 1) else p.begin_.upTo f (k-1):=by
 rw[Player.upTo]
theorem ur:∀(f k:Nat) (p:Player),p.rows-p.begun<f->p.upTo (f+1) k=p.upTo f k
 |0,k,p,h=>absurd h (Nat.not_lt_zero _)
 |f+1,k,p,h=>by
  rw[mU p (f+1) k,mU p f k]
  by_cases h1:p.untold≠[]
  ·rw[if_pos h1,if_pos h1]
  rw[if_neg h1,if_neg h1]
  by_cases h2:p.done=true
  ·rw[if_pos h2,if_pos h2]
  rw[if_neg h2,if_neg h2]
  by_cases h3:k=0
  ·rw[if_pos h3,if_pos h3]
  rw[if_neg h3,if_neg h3]
  by_cases h4:p.rows<=p.begun
  ·rw[if_pos h4,if_pos h4]
  rw[if_neg h4,if_neg h4]
  refine ur f (k-1) p.begin_ ?_
  rw[iR,eG]
  omega
open RolG in
theorem qY{p:Player}(hf:p.rows-p.begun<1000)(m k:Nat):telling m k p =
  if p.untold≠[] then (match m with
   |0=>(p,[],3)
   |m'+1=>match p.untold with
    |e::_=>((telling m' k p.tell).1,e::(telling m' k p.tell).2.1,(telling m' k p.tell).2.2)
    |[]=>(p,[],1))
  else if p.done=true then (p,[],2) else if k=0 then (p,[],0) else if p.rows<=p.begun then (p,[],1) else telling m (k-1) p.begin_:=by
 have hF:∀k',p.begin_.upTo 1023 k'=p.begin_.upTo FUEL k':=by
  intro k'
  refine(ur 1023 k' p.begin_ ?_).symm
  rw[iR,eG]
  omega
 have hu:p.upTo FUEL k=if p.untold≠[] then (p,k,none) else if p.done=true then (p,k,some 2) else if k=0 then (p,k,some 0) else if p.rows<=p.begun then (p,k,some 1) else p.begin_.upTo FUEL (k-1):=by
  rw[←hF]
  exact mU p 1023 k
 by_cases h1:p.untold≠[]
 ·rw[if_pos h1] at hu ⊢
  cases m with
  |zero =>
   unfold telling
   rw[hu]
  |succ m =>
   conv=>lhs;unfold telling
   rw[hu]
   dsimp only
   cases p.untold with
   |nil=>rfl
   |cons e r=>rfl
 rw[if_neg h1] at hu ⊢
 by_cases h2:p.done=true
 ·rw[if_pos h2] at hu ⊢
  cases m<;>(unfold telling;rw[hu])
 rw[if_neg h2] at hu ⊢
 by_cases h3:k=0
 ·rw[if_pos h3] at hu ⊢
  cases m<;>(unfold telling;rw[hu])
 rw[if_neg h3] at hu ⊢
 by_cases h4:p.rows<=p.begun
 ·rw[if_pos h4] at hu ⊢
  cases m<;>(unfold telling;rw[hu])
 rw[if_neg h4] at hu ⊢
 cases m<;>(unfold telling;rw[hu])
structure Good(p:Player):Prop where
 bar:∃B,eF B p.bar
 sp:p.spool.ok=true
 fl:p.fed.length<=512
 fw:∀x∈p.fed,x<2 ^ p.bar.wide
 bg:p.begun<=p.rows
 ls:p.state.bass.lock<=7/\p.state.treble.lock<=7
 ss:p.state.bass.swell<=p.bar.most/\p.state.treble.swell<=p.bar.most
 fr:p.fromRow<=p.begun
 un:p.untold≠[]->0<p.begun
theorem Good.tail{p:Player}(g:Good p):p.bar.tail<=15:=let ⟨_,h⟩:=g.bar;h.tl
theorem Good.rows{p:Player}(g:Good p):p.rows<=528:=by
 have h1:=g.fl
 have h2:=g.tail
 unfold Player.rows
 split<;>omega
theorem Good.few{p:Player}(g:Good p):p.rows-p.begun<1000:=by
 have:=g.rows
 omega
theorem vV{B:d7}{b:Bar}{s:Spool}(h:eF B b)(hs:s.ok=true):Good (opened b s) :=
 ⟨⟨B,h⟩,hs,Nat.zero_le _,(λx hx=>by cases hx),Nat.zero_le _,⟨Nat.zero_le _,Nat.zero_le _⟩,⟨Nat.zero_le _,Nat.zero_le _⟩,Nat.le_refl _,λh=>absurd rfl h⟩
theorem qb{a b:Nat}(ha:a<=7)(hb:b<=7):a ||| b<=7:=by
 have:=Nat.or_lt_two_pow (x:=a) (y:=b) (n:=3) (by omega) (by omega)
 omega
theorem ye(b:Bar)(x k:Nat):locksIn b x k<=7:=by
 unfold locksIn
 rw[show List.range 3=[0,1,2] from rfl]
 simp only[List.foldl_cons,List.foldl_nil]
 refine qb (qb (qb (by decide) ?_) ?_) ?_<;>(split<;>decide)
theorem iT(b:Bar)(x k:Nat){s:Side}(h1:s.lock<=7)(h2:s.swell<=b.most):(s.at_ b x k).lock<=7/\(s.at_ b x k).swell<=b.most:=by
 unfold Side.at_
 refine⟨qb ?_ (ye b x k),?_⟩
 ·split
  ·decide
  ·exact h1
 ·dsimp only
  split
  ·exact Nat.min_le_left _ _
  ·split
   ·omega
   ·exact h2
theorem Good.begin_{p:Player}(g:Good p)(h:p.begun<p.rows):Good p.begin_:=by
 refine⟨g.bar,g.sp,g.fl,g.fw,?_,?_,?_,?_,?_⟩
 ·rw[iR,eG]
  exact h
 ·exact⟨(iT p.bar _ 0 g.ls.1 g.ss.1).1,(iT p.bar _ 1 g.ls.2 g.ss.2).1⟩
 ·exact⟨(iT p.bar _ 0 g.ls.1 g.ss.1).2,(iT p.bar _ 1 g.ls.2 g.ss.2).2⟩
 ·exact Nat.le_succ_of_le g.fr
 ·intro _
  exact Nat.succ_pos _
theorem Good.tell{p:Player}(g:Good p):Good p.tell:=by
 unfold Player.tell
 cases hu:p.untold with
 |nil=>exact g
 |cons e r =>
  dsimp only
  have hb:=g.un (by rw[hu];exact List.cons_ne_nil _ _)
  split
  ·exact⟨g.bar,g.sp,g.fl,g.fw,g.bg,g.ls,g.ss,g.fr,λz=>absurd rfl z⟩
  ·exact⟨g.bar,g.sp,g.fl,g.fw,g.bg,g.ls,g.ss,g.fr,λ_=>hb⟩
theorem Good.last{p:Player}(g:Good p):Good p.last.2:=by
 unfold Player.last
 split
 ·exact g
 ·refine⟨g.bar,g.sp,g.fl,g.fw,?_,g.ls,g.ss,g.fr,g.un⟩
  have:=g.bg
  rename_i h
  have h1:p.over=false:=by
   cases ho:p.over with
   |false=>rfl
   |true=>exact absurd (Or.inl ho) h
  unfold Player.rows at this ⊢
  rw[h1] at this
  simp only[Bool.false_eq_true,if_false] at this
  simp only[if_true]
  omega
theorem Good.feed{p:Player}(g:Good p){r:List Row}:Good (p.feed r).2:=by
 unfold Player.feed
 split
 ·exact g
 split
 ·exact g
 split
 ·exact g
 ·rename_i h1 h2 h3
  have ho:p.over=false:=by
   cases ho:p.over with
   |false=>rfl
   |true=>exact absurd (Or.inl ho) h1
  have h2:∀x∈r,x<2 ^ p.bar.wide:=by
   have h2:(r.all λ(x:Row)=>decide (x<2 ^ p.bar.wide))=true:=by simpa using h2
   intro x hx
   exact of_decide_eq_true (List.all_eq_true.mp h2 x hx)
  refine⟨g.bar,g.sp,?_,?_,?_,g.ls,g.ss,g.fr,g.un⟩
  ·show(p.fed++r).length<=512
   rw[List.length_append]
   omega
  ·intro x hx
   rcases List.mem_append.mp hx with y|y
   ·exact g.fw x y
   ·exact h2 x y
  ·have:=g.bg
   unfold Player.rows at this ⊢
   rw[ho] at this
   simp only[Bool.false_eq_true,if_false] at this
   dsimp only
   rw[ho]
   simp only[Bool.false_eq_true,if_false]
   rw[List.length_append]
   omega
theorem Good.lever{p:Player}(g:Good p)(t:Nat):Good (p.lever t).2:=by
 unfold Player.lever
 split
 ·exact g
 ·rename_i h
  refine⟨g.bar,?_,g.fl,g.fw,g.bg,g.ls,g.ss,?_,g.un⟩
  ·have hs:=g.sp
   unfold Spool.ok at hs ⊢
   simp only[Bool.and_eq_true,decide_eq_true_eq] at hs ⊢
   omega
  ·dsimp only
   unfold Player.lastRow
   split<;>omega
end PR
namespace L2
open PySem PySem.Spec PyProof.Rows
def CDivB(i j:Int):Prop:=0<j/\j<2 ^ 200
theorem G4{X:Cx}:OpR X (binaryOp .FloorDiv) (rI CDivB λi j=>.int (i / j)):=opI λi j _ _ _ _ _ hc q=>by
 have h1:(0:Int)<j:=hc.1
 have h2:j<2 ^ 200:=hc.2
 refine floordiv_int (by omega) (by rw[Int.fdiv_eq_ediv_of_nonneg i (by omega)];exact q) (.inl (PyProof.noPylong_of_log2 ?_))
 have h3:j.natAbs<2 ^ 200:=by omega
 have h4:j.natAbs.log2<200:=(Nat.log2_lt (by omega)).mpr h3
 omega
end L2
namespace PR
open PySem PySem.Spec PyProof.Rows L2
variable {P:Program}{w:World}{K:PySem.W.Frag}{mg:Str->Option Value}{base:Heap}
noncomputable abbrev qH:Stmt:=inClass (top 55) 1
noncomputable abbrev vz:Stmt:=inClass (top 55) 2
noncomputable abbrev mz:Stmt:=inClass (top 55) 3
noncomputable abbrev oJ:Stmt:=top 57
noncomputable abbrev vf:Stmt:=top 48
noncomputable def spf(sp:Rol.Spool):List (Str×V):=[("first_turn",.int (sp.first:Nat)),("more_a_turn",.int (sp.more:Nat)),("row_length",.int (sp.step:Nat)),("turn_time",.int (sp.turn:Nat))]
def SpA(CL:Addr):Hp->Addr->Rol.Spool->Prop:=λH a sp=>∃dx,H a=some (.ins CL dx (spf sp))
theorem aY{ns:List Str}{m:Str}:∀{fs:List (Str×V)},fs.map (·.1)=ns->m∉ns->fs.lookup m=none
 |[],_,_=>rfl
 |p::fs,e,h=>by
  subst e
  rw[List.map_cons,List.mem_cons,not_or] at h
  obtain⟨k,v⟩:=p
  rw[List.lookup_cons,show(m==k)=false from beq_eq_false_iff_ne.mpr h.1]
  exact aY rfl h.2
structure xG(sp:Rol.Spool):Prop where
 f1:1<=sp.first
 f2:sp.first<=1000000
 m:sp.more<=10000
 s1:1<=sp.step
 s2:sp.step<=100000
 t1:1<=sp.turn
 t2:sp.turn<=60000000
theorem yX{sp:Rol.Spool}(h:sp.ok=true):xG sp:=by
 unfold Rol.Spool.ok at h
 simp only[Bool.and_eq_true,decide_eq_true_eq] at h
 obtain⟨a,b,c,d,e,f,g⟩:=h
 exact⟨a,b,c,d,e,f,g⟩
theorem Dd(sp:Rol.Spool)(n:Nat):((sp.paper n:Nat):Int)=(n:Int)*(sp.first:Int)+(sp.more:Int)*(n:Int)*((n:Int)-1) / 2:=by
 unfold Rol.Spool.paper
 rw[Int.natCast_add,Int.natCast_mul]
 congr 1
 cases n with
 |zero=>simp
 |succ k =>
  obtain⟨c,hc⟩:∃c,(k+1)*k=2*c:=by
   rcases Nat.mod_two_eq_zero_or_one k with h|h
   ·exact⟨(k+1)*(k / 2),by rw[Nat.mul_left_comm,show 2*(k / 2)=k by omega]⟩
   ·exact⟨(k+1) / 2*k,by rw[←Nat.mul_assoc,show 2*((k+1) / 2)=k+1 by omega]⟩
  rw[show k+1-1=k by omega,hc,show 2*c / 2=c by omega]
  rw[show((k+1:Nat):Int)-1=(k:Int) by omega,Int.mul_assoc,←Int.natCast_mul,hc]
  rw[show(sp.more:Int)*((2*c:Nat):Int)=2*((sp.more*c:Nat):Int) by push_cast;rw[Int.mul_left_comm]]
  omega
section
variable {CL fL:Addr}
abbrev SpT:=Hp->Addr->Rol.Spool->Prop
def wZ(SpA:SpT)(CL:Addr):Sp:=λvs H Q _=>∃(r dx na:Addr) (c q p u:Nat),vs=[.ref r,.ref na]/\H r=some (.ins CL dx [])/\H na=some (.lst ([(c:Int),(q:Int),(p:Int),(u:Int)].map V.int))/\∀H',But r H H'->SpA H' r ⟨c,q,p,u⟩->Q .non H'
theorem scSpI:aJ ["self","numbers"] ["self","numbers"] (aA vh):=sc0
theorem CG{fd:FuncData}(F:Fun K "__init__" "Spool.__init__" vh fL fd)(T:KC K mg "Spool" CL fL bV):aF P w K mg base CX0 1 fL fd ["self","numbers"] (wZ (SpA CL) CL):=by
 refine F.ok scSpI (λvs H Q E h=>?_) (λcdv A outer s H vs Q E hr h=>?_)
 ·obtain⟨r,dx,na,c,q,p,u,rfl,_⟩:=h
  rfl
 ·obtain⟨r,dx,na,c,q,p,u,rfl,hr0,hna,k⟩:=h
  have nr:na≠r:=bI hna hr0 (by intro y;cases y)
  refine⟨_,aq (aU (pv 0) (cz dg (pv 1) aC (λ_ _=>rfl)) rfl) (aq (aU (pv 0) (cz dg (pv 1) aC (λ_ _=>rfl)) rfl)
   (aq (aU (pv 0) (cz dg (pv 1) aC (λ_ _=>rfl)) rfl) (az (aU (pv 0) (cz dg (pv 1) aC (λ_ _=>rfl)) rfl)))),?_⟩
  refine⟨_,rfl,na,_,_,_,rfl,rfl,SqL.of hna,bw (j:=0) (v:=.int c) rfl,_,rfl,r,CL,dx,_,rfl,hr0,T.cl,T.no _ dk,(by show 0<1000;decide),?_⟩
  refine⟨_,rfl,na,_,_,_,rfl,rfl,SqL.of (by rw[ao nr];exact hna),bw (j:=1) (v:=.int q) rfl,_,rfl,r,CL,dx,_,rfl,aj,T.cl,T.no _ dk,(by show 1<1000;decide),?_⟩
  rw[cG]
  refine⟨_,rfl,na,_,_,_,rfl,rfl,SqL.of (by rw[ao nr];exact hna),bw (j:=2) (v:=.int p) rfl,_,rfl,r,CL,dx,_,rfl,aj,T.cl,T.no _ dk,(by show 2<1000;decide),?_⟩
  rw[cG]
  refine⟨_,rfl,na,_,_,_,rfl,rfl,SqL.of (by rw[ao nr];exact hna),bw (j:=3) (v:=.int u) rfl,_,rfl,r,CL,dx,_,rfl,aj,T.cl,T.no _ dk,(by show 3<1000;decide),?_⟩
  rw[cG]
  exact k _ (But.upd _ _ _) ⟨dx,aj⟩
def vB(CL:Addr):Sp:=λvs H Q _=>∃(a:Addr) (sp:Rol.Spool) (n:Nat),vs=[.ref a,.int (n:Nat)]/\SpA CL H a sp/\sp.ok=true/\n<=2 ^ 40/\Q (.int (sp.paper n:Nat)) H
theorem scPa:aJ ["self","turns"] ["self","turns"] (aA qH):=sc0
theorem Gr{f:Addr}{fd:FuncData}(F:Fun K "paper_of" "Spool.paper_of" qH f fd)(T:KC K mg "Spool" CL fL bV):aF P w K mg base CX0 1 f fd ["self","turns"] (vB CL):=by
 refine F.ok scPa (λvs H Q E h=>?_) (λcdv A outer s H vs Q E hr h=>?_)
 ·obtain⟨a,sp,n,rfl,_⟩:=h
  rfl
 ·obtain⟨a,sp,n,rfl,⟨dx,ha⟩,hok,hn,k⟩:=h
  have so:=yX hok
  have h1:=so.f2
  have h2:=so.m
  refine⟨_,az (aO (bc cV (bc fY (pv 1) (aB (pv 0) rfl)) (bc oE (bc fY (bc fY (aB (pv 0) rfl) (pv 1)) (bc dW (pv 1) aC)) aC))),?_⟩
  refine⟨_,rfl,_,rfl,a,CL,dx,_,_,rfl,ha,T.cl,T.no _ dk,rfl,_,_,rfl,rfl,.inl ⟨by omega,by omega⟩,?_⟩
  refine⟨_,rfl,a,CL,dx,_,_,rfl,ha,T.cl,T.no _ dk,rfl,_,rfl,_,_,rfl,rfl,.inr ⟨by omega,by omega⟩,?_⟩
  refine⟨_,rfl,_,_,rfl,rfl,_,_,rfl,rfl,.inr ⟨by omega,by omega⟩,_,_,rfl,rfl,⟨by decide,by decide⟩,_,_,rfl,rfl,?_⟩
  rw[Dd] at k
  exact k
def Bk(CL:Addr):Sp:=λvs H Q _=>∃(a:Addr) (sp:Rol.Spool) (x:Nat),vs=[.ref a,.int (x:Nat)]/\SpA CL H a sp/\sp.ok=true/\x<=2 ^ 39/\∀n:Nat,sp.paper n<=x->x<sp.paper (n+1)->Q (.int (n:Nat)) H
theorem Dj:aJ ["self","paper","least","most","middle"] ["self","paper"] (aA vz):=sc0
theorem GQ{f fP:Addr}{fd fdP:FuncData}(F:Fun K "full_turns" "Spool.full_turns" vz f fd)(T:KC K mg "Spool" CL fL bV)(MP:FM K CL "paper_of" "Spool.paper_of" qH ["self","turns"] fP fdP)(GP:aF P w K mg base CX0 1 fP fdP ["self","turns"] (vB CL)):aF P w K mg base CX0 2 f fd ["self","paper"] (Bk CL):=by
 refine F.ok Dj (λvs H Q E h=>?_) (λcdv A outer s H vs Q E hr h=>?_)
 ·obtain⟨a,sp,x,rfl,_⟩:=h
  rfl
 ·obtain⟨a,sp,x,rfl,⟨dx,ha⟩,hok,hx,k⟩:=h
  have so:=yX hok
  refine⟨_,aq (aP (i:=2) Dj.nd rfl (Or.inl rfl) aC) (aq (aP (i:=3) Dj.nd rfl (Or.inl rfl) (pv 1))
   (aq (eX PassesOwn.never (bG tL (pv 2) (pv 3) (bQ _))
    (aq (aP (i:=4) Dj.nd rfl (Or.inl rfl) (bc oE (bc cV (bc cV (pv 2) (pv 3)) aC) aC))
    (az (cA (bG lz (aQ (pv 0) T.cl MP.mt GP hr MP.bd .nil aX (ak (pv 4) au)) (pv 1) (bQ _)) (az (aP (i:=2) Dj.nd rfl (Or.inl rfl) (pv 4)))
     (az (aP (i:=3) Dj.nd rfl (Or.inl rfl) (bc dW (pv 4) aC)))))))
   (az (aO (pv 2))))),?_⟩
  refine⟨_,rfl,?_⟩
  refine⟨λn σ H'=>H'=H/\∃(lo hi:Nat) (v:Option V),n=hi-lo/\σ=[some (.ref a),some (.int (x:Nat)),some (.int (lo:Nat)),some (.int (hi:Nat)),v]/\lo<=hi/\hi<=x/\sp.paper lo<=x/\x<sp.paper (hi+1),⟨_,rfl,0,x,none,rfl,rfl,Nat.zero_le _,Nat.le_refl _,?_,?_⟩,?_⟩
  ·show 0*sp.first+sp.more*(0*(0-1) / 2)<=_
   simp
  ·refine Nat.lt_of_lt_of_le ?_ (qe sp _)
   have:=Nat.mul_le_mul_left (x+1) so.f1
   omega
  ·rintro n σ H' ⟨rfl,lo,hi,v,rfl,rfl,hlh,hhx,hlo,hhi⟩
   refine⟨_,rfl,_,rfl,_,_,rfl,rfl,_,rfl,?_⟩
   by_cases hc:lo<hi
   ·refine aM (decide_eq_true (by omega)) ?_
    refine⟨λσ' H2=>H2=H'/\∃(lo' hi':Nat) (v:Option V),hi'-lo'<hi-lo/\σ'=[some (.ref a),some (.int (x:Nat)),some (.int (lo':Nat)),some (.int (hi':Nat)),v]/\lo'<=hi'/\hi'<=x/\sp.paper lo'<=x/\x<sp.paper (hi'+1),?_,?_⟩
    ·rintro σ' H2 ⟨rfl,lo',hi',v,hm,rfl,r1,r2,r3,r4⟩
     exact⟨_,hm,rfl,lo',hi',v,rfl,rfl,r1,r2,r3,r4⟩
    ·refine⟨_,rfl,_,rfl,_,_,rfl,rfl,_,_,rfl,rfl,_,_,rfl,rfl,⟨by decide,by decide⟩,?_⟩
     have em:((lo:Int)+(hi:Int)+1) / 2=(((lo+hi+1) / 2:Nat):Int):=by omega
     dsimp only
     rw[em]
     refine⟨_,rfl,a,dx,_,rfl,ha,aY (ns:=bV) rfl dk,_,rfl,a,sp,(lo+hi+1) / 2,rfl,⟨dx,ha⟩,hok,by omega,_,rfl,_,_,rfl,rfl,_,rfl,?_⟩
     by_cases hp:sp.paper ((lo+hi+1) / 2)<=x
     ·refine aM (decide_eq_true (by omega)) ?_
      refine⟨_,rfl,rfl,(lo+hi+1) / 2,hi,_,by omega,rfl,by omega,hhx,hp,hhi⟩
     ·refine aV (by rw[decide_eq_false (by omega)];exact Bool.false_ne_true) ?_
      refine⟨_,rfl,_,_,rfl,rfl,rfl,lo,(lo+hi+1) / 2-1,some (.int (((lo+hi+1) / 2:Nat):Int)),by omega,?_,by omega,by omega,hlo,?_⟩
      ·show[_,_,_,some (V.int ((((lo+hi+1) / 2:Nat):Int)-1)),_]=_
       rw[show(((lo+hi+1) / 2:Nat):Int)-1=(((lo+hi+1) / 2-1:Nat):Int) by omega]
      ·rw[show(lo+hi+1) / 2-1+1=(lo+hi+1) / 2 by omega]
       omega
   ·refine aV (by rw[decide_eq_false (by omega)];exact Bool.false_ne_true) ?_
    refine⟨_,rfl,?_⟩
    obtain rfl:lo=hi:=by omega
    exact k lo hlo hhi
noncomputable def dO(sp:Rol.Spool)(i:Nat):Nat:=sp.turns i*sp.next i+sp.over i
def oU(CL:Addr):Sp:=λvs H Q _=>∃(a:Addr) (sp:Rol.Spool) (i:Nat),vs=[.ref a,.int (i:Nat)]/\SpA CL H a sp/\sp.ok=true/\i<=1000/\∀p,H p=none->Q (.ref p) (upd H p (.tup [.int (dO sp i:Nat),.int (sp.next i:Nat)]))
theorem JP:aJ ["self","row","paper","turns","turn_begun"] ["self","row"] (aA mz):=sc0
theorem jz{sp:Rol.Spool}(so:xG sp){i:Nat}(hi:i<=1000):sp.turns i<=100000000/\sp.paper (sp.turns i)<=i*sp.step/\i*sp.step<2 ^ 64:=by
 have h1:i*sp.step<=100000000:=Nat.mul_le_mul hi so.s2
 have h2:=iY so.f1 (i:=i) (by omega)
 have h3:=qe sp (sp.turns i)
 have h4:=Nat.mul_le_mul_left (sp.turns i) so.f1
 omega
theorem uO{sp:Rol.Spool}(so:xG sp){i:Nat}(hi:i<=1000):1<=sp.next i/\sp.next i<=1000001000000:=by
 unfold Rol.Spool.next
 have h1:=jz so hi
 have h2:=Nat.mul_le_mul h1.1 so.m
 have h3:=so.f1
 have h4:=so.f2
 omega
theorem Gd{f fT fP:Addr}{fd fdT fdP:FuncData}(F:Fun K "angle" "Spool.angle" mz f fd)(T:KC K mg "Spool" CL fL bV)(MT:FM K CL "full_turns" "Spool.full_turns" vz ["self","paper"] fT fdT)(GT:aF P w K mg base CX0 2 fT fdT ["self","paper"] (Bk CL))(MP:FM K CL "paper_of" "Spool.paper_of" qH ["self","turns"] fP fdP)(GP:aF P w K mg base CX0 1 fP fdP ["self","turns"] (vB CL)):aF P w K mg base CX0 3 f fd ["self","row"] (oU CL):=by
 refine F.ok JP (λvs H Q E h=>?_) (λcdv A outer s H vs Q E hr h=>?_)
 ·obtain⟨a,sp,i,rfl,_⟩:=h
  rfl
 ·obtain⟨a,sp,i,rfl,⟨dx,ha⟩,hok,hi,k⟩:=h
  have so:=yX hok
  have hr1:bY 1 _:=hr.mono (by decide)
  obtain⟨tl1,tl2,tl3⟩:=jz so hi
  have hpp:i*sp.step<=100000000:=Nat.mul_le_mul hi so.s2
  refine⟨_,aq (aP (i:=2) JP.nd rfl (Or.inl rfl) (bc fY (pv 1) (aB (pv 0) rfl)))
   (aq (aP (i:=3) JP.nd rfl (Or.inl rfl) (aQ (pv 0) T.cl MT.mt GT hr MT.bd .nil aX (ak (pv 2) au)))
   (aq (aP (i:=4) JP.nd rfl (Or.inl rfl) (bc cV (aB (pv 0) rfl) (bc fY (pv 3) (aB (pv 0) rfl))))
   (az (aO (eE (ak (bc dW (bc cV (bc fY (pv 3) (pv 4)) (pv 2)) (aQ (pv 0) T.cl MP.mt GP hr1 MP.bd .nil aX (ak (pv 3) au))) (ak (pv 4) au))))))),?_⟩
  refine⟨_,rfl,_,rfl,a,CL,dx,_,_,rfl,ha,T.cl,T.no _ dk,rfl,_,_,rfl,rfl,.inl ⟨by omega,by omega⟩,?_⟩
  refine⟨_,rfl,a,dx,_,rfl,ha,aY (ns:=bV) rfl dk,_,rfl,a,sp,i*sp.step,by rw[Int.natCast_mul];rfl,⟨dx,ha⟩,hok,by omega,λn hn1 hn2=>?_⟩
  have hn:sp.turns i=n:=zr so.f1 tl3 hn1 hn2
  subst hn
  refine⟨_,rfl,a,CL,dx,_,_,rfl,ha,T.cl,T.no _ dk,rfl,_,rfl,_,rfl,a,CL,dx,_,_,rfl,ha,T.cl,T.no _ dk,rfl,_,_,rfl,rfl,.inl ⟨by omega,by omega⟩,_,_,rfl,rfl,?_⟩
  refine⟨_,rfl,_,rfl,_,_,rfl,rfl,.inl ⟨by omega,by omega⟩,_,rfl,_,_,rfl,rfl,?_⟩
  refine⟨_,rfl,a,dx,_,rfl,ha,aY (ns:=bV) rfl dk,_,rfl,a,sp,sp.turns i,rfl,⟨dx,ha⟩,hok,by omega,_,_,rfl,rfl,_,rfl,by show 2<=sizeLine;decide,λp hp=>?_⟩
  have e1:(sp.first:Int)+(sp.turns i:Int)*(sp.more:Int)=((sp.next i:Nat):Int):=by
   unfold Rol.Spool.next
   push_cast
   rfl
  have e2:(sp.turns i:Int)*((sp.first:Int)+(sp.turns i:Int)*(sp.more:Int))+(i:Int)*(sp.step:Int)-(sp.paper (sp.turns i):Int)=((dO sp i:Nat):Int):=by
   rw[e1]
   unfold dO Rol.Spool.over
   push_cast [tl2]
   omega
  have:=k p hp
  rw[←e2,←e1] at this
  exact this
end
noncomputable abbrev yQ:Stmt:=inClass (top 47) 0
noncomputable abbrev u9:Stmt:=inClass (top 47) 1
noncomputable abbrev oN:Stmt:=inClass (top 47) 2
noncomputable abbrev dR:List Str:=["spool","turn_time","from_angle","from_time"]
noncomputable def pcf(sa:Addr)(t:Int)(fa:Addr)(ft:Int):List (Str×V):=[("spool",.ref sa),("turn_time",.int t),("from_angle",.ref fa),("from_time",.int ft)]
theorem jr{H:Hp}{a b C D dx dy:Addr}{fs gs:List (Str×V)}{ns ms:List Str}(h1:H a=some (.ins C dx fs))(h2:H b=some (.ins D dy gs))(e1:fs.map (·.1)=ns)(e2:gs.map (·.1)=ms)(h:ns≠ms):a≠b:=by
 rintro rfl
 rw[h1] at h2
 cases h2
 exact h (e1.symm.trans e2)
section
variable {CL fL CE fE:Addr}
def wW:Sp:=λvs H Q _=>∃(n:Nat),vs=[.int (n:Nat)]/\Q (.bl (decide (1<=n)&&decide (n<=60000000))) H
theorem scIs:aJ ["number"] ["number"] (aA oJ):=sc0
theorem Cw{f aR:Addr}{es:List Addr}{fd:FuncData}(F:Fun K "is_turn_time" "is_turn_time" oJ f fd)(TR:oZ K mg aR es):aF P w K mg base CX0 1 f fd ["number"] wW:=by
 refine F.ok scIs (λvs H Q E h=>?_) (λcdv A outer s H vs Q E hr h=>?_)
 ·obtain⟨n,rfl,_⟩:=h
  rfl
 ·obtain⟨n,rfl,k⟩:=h
  obtain⟨e,he⟩:∃e,es[3]?=some e:=⟨_,List.getElem?_eq_getElem (by rw[TR.len];decide)⟩
  have h3:=TR.ea 3 e 1 60000000 he rfl
  have hm:(es.map V.ref)[3]?=some (.ref e):=by rw[List.getElem?_map,he];rfl
  refine⟨_,az (aO (Ha lz lz (cz cU (cz cU (aD (v:=.ref aR) rfl TR.mg rfl) aC (λ_ _=>rfl)) aC (λ_ _=>rfl)) (pv 0) (cz cU (cz cU (aD (v:=.ref aR) rfl TR.mg rfl) aC (λ_ _=>rfl)) aC (λ_ _=>rfl)))),?_⟩
  refine⟨aR,_,_,_,rfl,rfl,TR.at_ _,bw (j:=3) hm,e,_,_,_,rfl,rfl,h3 _,bw (j:=0) (v:=.int 1) rfl,_,rfl,_,_,rfl,rfl,_,rfl,?_⟩
  by_cases h1:1<=n
  ·refine aM (decide_eq_true (by omega)) ?_
   refine⟨aR,_,_,_,rfl,rfl,TR.at_ _,bw (j:=3) hm,e,_,_,_,rfl,rfl,h3 _,bw (j:=1) (v:=.int 60000000) rfl,_,_,rfl,rfl,?_⟩
   rw[decide_eq_true h1,Bool.true_and] at k
   rw[show decide (n<=60000000)=decide ((n:Int)<=60000000) by simp only[decide_eq_decide];omega] at k
   exact k
  ·refine aV (by rw[decide_eq_false (by omega)];exact Bool.false_ne_true) ?_
   rw[decide_eq_false h1,Bool.false_and] at k
   exact k
def Bd:Sp:=λvs H Q _=>∃(a b:Nat),vs=[.int (a:Nat),.int (b:Nat)]/\0<b/\(b:Int)<2 ^ 200/\Q (.int (Rol.ceil a b:Nat)) H
theorem scRo:aJ ["above","below"] ["above","below"] (aA vf):=sc0
theorem Gu{f:Addr}{fd:FuncData}(F:Fun K "round_up" "round_up" vf f fd):aF P w K mg base CX0 1 f fd ["above","below"] Bd:=by
 refine F.ok scRo (λvs H Q E h=>?_) (λcdv A outer s H vs Q E hr h=>?_)
 ·obtain⟨a,b,rfl,_⟩:=h
  rfl
 ·obtain⟨a,b,rfl,hb,hb2,k⟩:=h
  refine⟨_,az (aO (bc G4 (bc dW (bc cV (pv 0) (pv 1)) aC) (pv 1))),?_⟩
  refine⟨_,rfl,_,rfl,_,_,rfl,rfl,_,_,rfl,rfl,_,rfl,_,_,rfl,rfl,⟨by omega,hb2⟩,?_⟩
  have e:((a:Int)+(b:Int)-1) / (b:Int)=((Rol.ceil a b:Nat):Int):=by
   unfold Rol.ceil
   rw[Int.natCast_ediv,Int.natCast_sub (by omega),Int.natCast_add]
   rfl
  dsimp only
  rw[e]
  exact k
structure PcA(CE CL:Addr)(H:Hp)(a sa fa:Addr)(sp:Rol.Spool)(fr ft:Nat):Prop where
 obj:∃dx,H a=some (.ins CE dx (pcf sa (sp.turn:Nat) fa (ft:Nat)))
 spo:∃t0,SpA CL H sa { sp with turn:=t0 }/\1<=t0/\t0<=60000000
 ang:H fa=some (.tup [.int (dO sp fr:Nat),.int (sp.next fr:Nat)])
 ok:sp.ok=true
 fr:fr<=1000
theorem Bq(sp:Rol.Spool)(t i:Nat):({ sp with turn:=t }:Rol.Spool).turns i=sp.turns i:=by
 unfold Rol.Spool.turns
 have:∀f lo hi,({ sp with turn:=t }:Rol.Spool).turnsIn (i*sp.step) f lo hi=sp.turnsIn (i*sp.step) f lo hi:=by
  intro f
  induction f with
  |zero=>intro lo hi;rfl
  |succ f ih =>
   intro lo hi
   unfold Rol.Spool.turnsIn
   dsimp only
   rw[ih,ih]
   rfl
 exact this _ _ _
theorem uP(sp:Rol.Spool)(t i:Nat):({ sp with turn:=t }:Rol.Spool).next i=sp.next i:=by
 unfold Rol.Spool.next
 rw[Bq]
theorem xH(sp:Rol.Spool)(t i:Nat):dO { sp with turn:=t } i=dO sp i:=by
 unfold dO Rol.Spool.over
 rw[Bq,uP]
 rfl
theorem ok_t{sp:Rol.Spool}{t:Nat}(h:sp.ok=true)(h1:1<=t)(h2:t<=60000000):({ sp with turn:=t }:Rol.Spool).ok=true:=by
 unfold Rol.Spool.ok at h ⊢
 simp only[Bool.and_eq_true,decide_eq_true_eq] at h ⊢
 omega
theorem Jr{sp:Rol.Spool}(so:xG sp){i:Nat}(hi:i<=1000):sp.over i<sp.next i:=by
 have h1:=jz so hi
 have h2:=(iY so.f1 h1.2.2).2
 rw[qi] at h2
 unfold Rol.Spool.over Rol.Spool.next
 have:=Nat.mul_comm sp.more (sp.turns i)
 omega
theorem zq{sp:Rol.Spool}(so:xG sp){i j:Nat}(hij:i<=j)(hj:j<=1000):sp.turns i<=sp.turns j:=by
 have h1:=(jz so (Nat.le_trans hij hj)).2.1
 have h2:=(iY so.f1 (jz so hj).2.2).2
 have h3:i*sp.step<=j*sp.step:=Nat.mul_le_mul_right _ hij
 rcases Nat.lt_or_ge (sp.turns j) (sp.turns i) with h|h
 ·exfalso
  rcases Nat.lt_or_eq_of_le (show sp.turns j+1<=sp.turns i from h) with y|y
  ·have:=qg so.f1 y
   omega
  ·rw[←y] at h1
   omega
 ·exact h
theorem DX{sp:Rol.Spool}(so:xG sp){i j:Nat}(hij:i<=j)(hj:j<=1000):dO sp i*sp.next j<=dO sp j*sp.next i:=by
 have hi:=Nat.le_trans hij hj
 have h1:=zq so hij hj
 have h2:=Jr so hi
 rcases Nat.lt_or_eq_of_le h1 with h|h
 ·have h3:dO sp i<=(sp.turns i+1)*sp.next i:=by
   unfold dO
   rw[Nat.succ_mul]
   omega
  have h4:sp.turns j*sp.next j<=dO sp j:=Nat.le_add_right _ _
  calc dO sp i*sp.next j<=(sp.turns i+1)*sp.next i*sp.next j:=Nat.mul_le_mul_right _ h3
   _<=sp.turns j*sp.next i*sp.next j:=Nat.mul_le_mul_right _ (Nat.mul_le_mul_right _ h)
   _=sp.turns j*sp.next j*sp.next i:=Nat.mul_right_comm _ _ _
   _<=dO sp j*sp.next i:=Nat.mul_le_mul_right _ h4
 ·have hn:sp.next i=sp.next j:=by
   unfold Rol.Spool.next
   rw[h]
  rw[hn]
  refine Nat.mul_le_mul_right _ ?_
  unfold dO Rol.Spool.over
  rw[h,hn]
  have h3:i*sp.step<=j*sp.step:=Nat.mul_le_mul_right _ hij
  omega
theorem xK{sp:Rol.Spool}(i j:Nat):sp.between i j=Rol.ceil (sp.turn*(dO sp j*sp.next i-dO sp i*sp.next j)) (sp.next j*sp.next i):=by
 unfold Rol.Spool.between
 show Rol.ceil (sp.turn*dO sp j*sp.next i-sp.turn*dO sp i*sp.next j) _=_
 rw[Nat.mul_assoc,Nat.mul_assoc,←Nat.mul_sub,Nat.mul_comm (sp.next i) (sp.next j)]
def Bb(CE CL:Addr):Sp:=λvs H Q _=>∃(r dx sa:Addr) (sp:Rol.Spool),vs=[.ref r,.ref sa]/\H r=some (.ins CE dx [])/\SpA CL H sa sp/\sp.ok=true/\∀H' fa,But r H H'->PcA CE CL H' r sa fa sp 0 0->Q .non H'
theorem scPI:aJ ["self","spool"] ["self","spool"] (aA yQ):=sc0
theorem Gq{fA:Addr}{fd fdA:FuncData}(F:Fun K "__init__" "Pace.__init__" yQ fE fd)(T:KC K mg "Pace" CE fE dR)(TL:KC K mg "Spool" CL fL bV)(MA:FM K CL "angle" "Spool.angle" mz ["self","row"] fA fdA)(GA:aF P w K mg base CX0 3 fA fdA ["self","row"] (oU CL)):aF P w K mg base CX0 4 fE fd ["self","spool"] (Bb CE CL):=by
 refine F.ok scPI (λvs H Q E h=>?_) (λcdv A outer s H vs Q E hr h=>?_)
 ·obtain⟨r,dx,sa,sp,rfl,_⟩:=h
  rfl
 ·obtain⟨r,dx,sa,sp,rfl,hr0,⟨dxs,hs⟩,hok,k⟩:=h
  refine⟨_,aq (aU (pv 0) (pv 1) rfl) (aq (aU (pv 0) (aB (pv 1) rfl) rfl)
   (aq (aU (pv 0) (aQ (pv 1) TL.cl MA.mt GA hr MA.bd .nil aX (ak aC au)) rfl) (az (aU (pv 0) aC rfl)))),?_⟩
  have ns:sa≠r:=λz=>by
   rw[z,hr0] at hs
   cases hs
  refine⟨_,rfl,_,rfl,r,CE,dx,_,rfl,hr0,T.cl,T.no _ dk,(by show 0<1000;decide),?_⟩
  refine⟨_,rfl,sa,CL,dxs,_,_,rfl,by rw[ao ns];exact hs,TL.cl,TL.no _ dk,rfl,_,rfl,r,CE,dx,_,rfl,aj,T.cl,T.no _ dk,(by show 1<1000;decide),?_⟩
  rw[cG]
  refine⟨_,rfl,sa,dxs,_,rfl,by rw[ao ns];exact hs,aY (ns:=bV) rfl dk,sa,sp,0,rfl,⟨dxs,by rw[ao ns];exact hs⟩,hok,by decide,λfa hfa=>?_⟩
  have nf:fa≠r:=λz=>by
   rw[z,aj] at hfa
   cases hfa
  refine⟨_,rfl,r,CE,dx,_,rfl,by rw[ao (Ne.symm nf),aj],T.cl,T.no _ dk,(by show 2<1000;decide),?_⟩
  refine⟨_,rfl,r,CE,dx,_,rfl,aj,T.cl,T.no _ dk,(by show 3<1000;decide),?_⟩
  rw[cG]
  rw[ao nf] at hfa
  refine k _ fa (λb o z n=>?_) ⟨⟨dx,aj⟩,⟨sp.turn,⟨dxs,?_⟩,(yX hok).t1,(yX hok).t2⟩,?_,hok,by decide⟩
  ·rw[ao n,ao (aa z hfa),ao n]
   exact z
  ·rw[ao ns,ao (aa hs hfa),ao ns]
   exact hs
  ·rw[ao nf,aj]
def Ba(CE CL:Addr):Sp:=λvs H Q _=>∃(a sa fa:Addr) (sp:Rol.Spool) (fr ft t i tm:Nat),vs=[.ref a,.int (t:Nat),.int (i:Nat),.int (tm:Nat)]/\PcA CE CL H a sa fa sp fr ft/\1<=t/\t<=60000000/\i<=1000 /\
 ∀H' fa',But a H H'->PcA CE CL H' a sa fa' { sp with turn:=t } i tm->Q .non H'
theorem scPC:aJ ["self","turn_time","row","time"] ["self","turn_time","row","time"] (aA u9):=sc0
theorem Gp{f fA:Addr}{fd fdA:FuncData}(F:Fun K "change" "Pace.change" u9 f fd)(T:KC K mg "Pace" CE fE dR)(TL:KC K mg "Spool" CL fL bV)(MA:FM K CL "angle" "Spool.angle" mz ["self","row"] fA fdA)(GA:aF P w K mg base CX0 3 fA fdA ["self","row"] (oU CL)):aF P w K mg base CX0 4 f fd ["self","turn_time","row","time"] (Ba CE CL):=by
 refine F.ok scPC (λvs H Q E h=>?_) (λcdv A outer s H vs Q E hr h=>?_)
 ·obtain⟨a,sa,fa,sp,fr,ft,t,i,tm,rfl,_⟩:=h
  rfl
 ·obtain⟨a,sa,fa,sp,fr,ft,t,i,tm,rfl,⟨⟨dx,ha⟩,⟨t0,⟨dxs,hs⟩,ht1,ht2⟩,hang,hok,hfr⟩,h1,h2,hi,k⟩:=h
  refine⟨_,aq (aU (pv 0) (pv 1) rfl) (aq (aU (pv 0) (aQ (aB (pv 0) rfl) TL.cl MA.mt GA hr MA.bd .nil aX (ak (pv 2) au)) rfl) (az (aU (pv 0) (pv 3) rfl))),?_⟩
  have ns:sa≠a:=jr (ns:=bV) (ms:=dR) hs ha rfl rfl dk
  refine⟨_,rfl,_,rfl,a,CE,dx,_,rfl,ha,T.cl,T.no _ dk,(by show 4<1000;decide),?_⟩
  have hs1:upd H a (.ins CE dx (pcf sa (t:Nat) fa (ft:Nat))) sa=some (.ins CL dxs (spf { sp with turn:=t0 })):=by rw[ao ns];exact hs
  refine⟨_,rfl,a,CE,dx,_,_,rfl,aj,T.cl,T.no _ dk,rfl,sa,dxs,_,rfl,hs1,aY (ns:=bV) rfl dk,_,rfl,sa,_,i,rfl,⟨dxs,hs1⟩,ok_t hok ht1 ht2,hi,λfa' hfa=>?_⟩
  have nf:fa'≠a:=λz=>by
   rw[z,aj] at hfa
   cases hfa
  refine⟨_,rfl,a,CE,dx,_,rfl,by rw[ao (Ne.symm nf),aj],T.cl,T.no _ dk,(by show 4<1000;decide),?_⟩
  refine⟨_,rfl,_,rfl,a,CE,dx,_,rfl,aj,T.cl,T.no _ dk,(by show 4<1000;decide),?_⟩
  rw[cG]
  rw[ao nf] at hfa
  refine k _ fa' (λb o z n=>?_) ⟨⟨dx,aj⟩,⟨t0,⟨dxs,?_⟩,ht1,ht2⟩,?_,ok_t hok h1 h2,hi⟩
  ·rw[ao n,ao (aa z hfa),ao n]
   exact z
  ·rw[ao ns,ao (aa hs hfa),ao ns]
   exact hs
  ·rw[ao nf,aj,xH sp t,xH sp t0,uP sp t,uP sp t0]
def HN(CE CL:Addr):Sp:=λvs H Q _=>∃(a sa fa:Addr) (sp:Rol.Spool) (fr ft i:Nat),vs=[.ref a,.int (i:Nat)]/\PcA CE CL H a sa fa sp fr ft/\fr<=i/\i<=1000/\∀H',aN H H'->Q (.int (ft+sp.between fr i:Nat)) H'
theorem JT:aJ ["self","row","angle","above","below"] ["self","row"] (aA oN):=sc0
theorem Jm{f fA fR:Addr}{fd fdA fdR:FuncData}(F:Fun K "time_of" "Pace.time_of" oN f fd)(T:KC K mg "Pace" CE fE dR)(TL:KC K mg "Spool" CL fL bV)(MA:FM K CL "angle" "Spool.angle" mz ["self","row"] fA fdA)(GA:aF P w K mg base CX0 3 fA fdA ["self","row"] (oU CL))(MR:FG K mg "round_up" vf ["above","below"] fR fdR)(GR:aF P w K mg base CX0 1 fR fdR ["above","below"] Bd):aF P w K mg base CX0 4 f fd ["self","row"] (HN CE CL):=by
 refine F.ok JT (λvs H Q E h=>?_) (λcdv A outer s H vs Q E hr h=>?_)
 ·obtain⟨a,sa,fa,sp,fr,ft,i,rfl,_⟩:=h
  rfl
 ·obtain⟨a,sa,fa,sp,fr,ft,i,rfl,⟨⟨dx,ha⟩,⟨t0,⟨dxs,hs⟩,ht1,ht2⟩,hang,hok,hfr⟩,hfi,hi,k⟩:=h
  have so:=yX hok
  have hr1:bY 1 _:=hr.mono (by decide)
  obtain⟨n1,n2⟩:=uO so hi
  obtain⟨n3,n4⟩:=uO so hfr
  have hmono:=DX so hfi hi
  have st2:=so.t2
  refine⟨_,aq (aP (i:=2) JT.nd rfl (Or.inl rfl) (aQ (aB (pv 0) rfl) TL.cl MA.mt GA hr MA.bd .nil aX (ak (pv 1) au)))
   (aq (aP (i:=3) JT.nd rfl (Or.inl rfl) (bc dW (bc fY (cz cU (pv 2) aC (λ_ _=>rfl)) (cz cU (aB (pv 0) rfl) aC (λ_ _=>rfl))) (bc fY (cz cU (aB (pv 0) rfl) aC (λ_ _=>rfl)) (cz cU (pv 2) aC (λ_ _=>rfl)))))
   (aq (aP (i:=4) JT.nd rfl (Or.inl rfl) (bc fY (cz cU (pv 2) aC (λ_ _=>rfl)) (cz cU (aB (pv 0) rfl) aC (λ_ _=>rfl))))
   (az (aO (bc cV (aB (pv 0) rfl) (bU GR hr1 rfl MR.mg MR.fn.kp MR.bd .nil aX (ak (bc fY (aB (pv 0) rfl) (pv 3)) (ak (pv 4) au)))))))),?_⟩
  refine⟨_,rfl,a,CE,dx,_,_,rfl,ha,T.cl,T.no _ dk,rfl,sa,dxs,_,rfl,hs,aY (ns:=bV) rfl dk,_,rfl,sa,_,i,rfl,⟨dxs,hs⟩,ok_t hok ht1 ht2,hi,λp hp=>?_⟩
  rw[xH sp t0,uP sp t0]
  have ha1:upd H p (.tup [.int (dO sp i:Nat),.int (sp.next i:Nat)]) a=some (.ins CE dx (pcf sa (sp.turn:Nat) fa (ft:Nat))):=by rw[ao (aa ha hp)];exact ha
  have hf1:upd H p (.tup [.int (dO sp i:Nat),.int (sp.next i:Nat)]) fa=some (.tup [.int (dO sp fr:Nat),.int (sp.next fr:Nat)]):=by rw[ao (aa hang hp)];exact hang
  have hp1:upd H p (.tup [.int (dO sp i:Nat),.int (sp.next i:Nat)]) p=some (.tup [.int (dO sp i:Nat),.int (sp.next i:Nat)]):=aj
  have kk:=k _ (aN.new (.tup [.int (dO sp i:Nat),.int (sp.next i:Nat)]) hp)
  generalize upd H p (.tup [.int (dO sp i:Nat),.int (sp.next i:Nat)])=H1 at ha1 hf1 hp1 kk ⊢
  refine⟨_,rfl,p,_,_,_,rfl,rfl,SqT.of hp1,bw (j:=0) (v:=.int (dO sp i:Nat)) rfl,_,rfl,a,CE,dx,_,_,rfl,ha1,T.cl,T.no _ dk,rfl,fa,_,_,_,rfl,rfl,SqT.of hf1,bw (j:=1) (v:=.int (sp.next fr:Nat)) rfl,_,_,rfl,rfl,.inr ⟨by omega,by omega⟩,?_⟩
  refine⟨_,rfl,a,CE,dx,_,_,rfl,ha1,T.cl,T.no _ dk,rfl,fa,_,_,_,rfl,rfl,SqT.of hf1,bw (j:=0) (v:=.int (dO sp fr:Nat)) rfl,_,rfl,p,_,_,_,rfl,rfl,SqT.of hp1,bw (j:=1) (v:=.int (sp.next i:Nat)) rfl,_,_,rfl,rfl,.inr ⟨by omega,by omega⟩,_,_,rfl,rfl,?_⟩
  refine⟨_,rfl,p,_,_,_,rfl,rfl,SqT.of hp1,bw (j:=1) (v:=.int (sp.next i:Nat)) rfl,_,rfl,a,CE,dx,_,_,rfl,ha1,T.cl,T.no _ dk,rfl,fa,_,_,_,rfl,rfl,SqT.of hf1,bw (j:=1) (v:=.int (sp.next fr:Nat)) rfl,_,_,rfl,rfl,.inr ⟨by omega,by omega⟩,?_⟩
  have e1:(dO sp i:Int)*(sp.next fr:Int)-(dO sp fr:Int)*(sp.next i:Int)=((dO sp i*sp.next fr-dO sp fr*sp.next i:Nat):Int):=by
   rw[Int.natCast_sub hmono,Int.natCast_mul,Int.natCast_mul]
  dsimp only
  rw[e1]
  refine⟨_,rfl,a,CE,dx,_,_,rfl,ha1,T.cl,T.no _ dk,rfl,_,rfl,a,CE,dx,_,_,rfl,ha1,T.cl,T.no _ dk,rfl,_,rfl,_,_,rfl,rfl,.inl ⟨by omega,by omega⟩,_,rfl,?_⟩
  refine⟨sp.turn*(dO sp i*sp.next fr-dO sp fr*sp.next i),sp.next i*sp.next fr,?_,Nat.mul_pos n1 n3,?_,_,_,rfl,rfl,?_⟩
  ·rw[Int.natCast_mul,Int.natCast_mul]
   rfl
  ·have:=Nat.mul_le_mul n2 n4
   have h200:(1000001000000*1000001000000:Nat)<2 ^ 200:=by decide
   have:sp.next i*sp.next fr<2 ^ 200:=Nat.lt_of_le_of_lt this h200
   exact_mod_cast this
  ·rw[xK] at kk
   exact kk
end
noncomputable abbrev mD:Stmt:=inClass (top 28) 1
noncomputable abbrev oM:Stmt:=inClass (top 28) 2
noncomputable abbrev qF:Stmt:=inClass (top 43) 0
noncomputable abbrev lE:Stmt:=inClass (top 43) 1
noncomputable abbrev wR:Stmt:=inClass (top 43) 2
noncomputable abbrev oH:Stmt:=top 45
abbrev rJ(CB:Addr)(H:Hp)(a:Addr)(B:d7):Prop:=rQ CB (λ_=>none) H a B
noncomputable def soK(w x:Nat):List (Key×V):=(Rol.Row.tracks w x).map λ(t:Nat)=>(Sum.inl (t:Int),.bl true)
theorem ym{w x t:Nat}:t∈Rol.Row.tracks w x↔t<w/\Nat.testBit x t=true:=by
 unfold Rol.Row.tracks Rol.Row.hole
 rw[List.mem_filter,List.mem_range]
theorem Ar(w x t:Nat):(dN (soK w x) (.inl (t:Int))).isSome=(decide (t<w)&&Nat.testBit x t):=by
 rw[Bool.eq_iff_iff,Bool.and_eq_true,decide_eq_true_eq,←ym]
 unfold dN soK
 rw[Option.isSome_map,List.find?_isSome]
 constructor
 ·rintro⟨p,hp,h⟩
  obtain⟨u,hu,rfl⟩:=List.mem_map.mp hp
  have h:=of_decide_eq_true h
  have h:(u:Int)=(t:Int):=Sum.inl.inj h
  have:u=t:=by omega
  rw[←this]
  exact hu
 ·intro h
  exact⟨_,List.mem_map.mpr ⟨t,h,rfl⟩,decide_eq_true rfl⟩
theorem Hw(w x:Nat):∀p∈soK w x,∃i,p.1=Sum.inl i:=by
 intro p hp
 obtain⟨u,_,rfl⟩:=List.mem_map.mp hp
 exact⟨_,rfl⟩
noncomputable def wu:Option Nat->V
 |some t=>.int (t:Nat)
 |none=>.non
noncomputable def hears(x:Nat):Option Nat->Bool
 |some t=>Nat.testBit x t
 |none=>false
theorem qM{H:Hp}{d:Addr}{w x:Nat}{o:Option Nat}(h:H d=some (.dK (soK w x)))(ho:∀t,o=some t->t<w):DN H d (wu o) (hears x o):=by
 refine⟨_,.inl h,?_⟩
 cases o with
 |none=>exact .inr ⟨rfl,rfl,Hw w x⟩
 |some t =>
  refine .inl ⟨(t:Int),rfl,?_⟩
  rw[Ar,decide_eq_true (ho t rfl)]
  rfl
theorem gG(b:Rol.Bar)(x:Nat)(m:Rol.Means):b.has x m=hears x (b.find m):=by
 unfold Rol.Bar.has hears
 cases b.find m<;>rfl
theorem oA{B:d7}{b:Rol.Bar}(hb:eF B b){m:Rol.Means}{t:Nat}(h:b.find m=some t):t<b.wide:=by
 unfold Rol.Bar.find at h
 obtain⟨x,hx,e⟩:=Option.map_eq_some_iff.mp h
 have:=(hb.tr x (List.mem_of_find?_eq_some hx)).1
 rw[←e]
 exact this
theorem kI{B:d7}{b:Rol.Bar}(hb:eF B b)(m:Rol.Means):(dN (trk B.tracks) (iD (dm m))).getD .non=wu (b.find m):=by
 rw[hb.tracks,vU]
 unfold Rol.Bar.find
 cases b.tracks.find? λ(x:Nat×Rol.Means)=>x.2==m<;>rfl
section
variable {CB fB CN fN:Addr}
def oW(K:PySem.W.Frag)(CB:Addr):Sp:=λvs H Q _=>∃(a ma d:Addr) (B:d7) (b:Rol.Bar) (m:Rol.Means) (x:Nat),vs=[.ref a,.ref ma,.ref d]/\rJ CB H a B/\eF B b/\SqT K H ma ((dm m).map V.int)/\H d=some (.dK (soK b.wide x))/\Q (.bl (b.has x m)) H
theorem scHe:aJ ["self","meaning","sounding"] ["self","meaning","sounding"] (aA mD):=sc0
theorem Gi{f:Addr}{fd:FuncData}(F:Fun K "is_heard" "Bar.is_heard" mD f fd)(T:KC K mg "Bar" CB fB cC):aF P w K mg base CX0 1 f fd ["self","meaning","sounding"] (oW K CB):=by
 refine F.ok scHe (λvs H Q E h=>?_) (λcdv A outer s H vs Q E hr h=>?_)
 ·obtain⟨a,ma,d,B,b,m,x,rfl,_⟩:=h
  rfl
 ·obtain⟨a,ma,d,B,b,m,x,rfl,hB,hb,hm,hd,k⟩:=h
  obtain⟨dx,fa,sa,ta,ka,ts,kts,_,_,_,h1,h2,h3,h4,h5,h6,h7⟩:=hB.ex
  have hu:=sV hr
  refine⟨_,az (aO (ql (uQ hu (iK (K:=K) rfl hu (aB (pv 0) rfl) (pv 1) ⟨rfl,rfl,rfl,rfl⟩) (pv 2)))),?_⟩
  refine⟨_,rfl,a,CB,dx,_,_,rfl,h1,T.cl,T.no _ dk,rfl,ta,rfl,.inr ⟨_,.inl h4⟩,_,rfl,_,iD (dm m),ma,.inl h4,rfl,by rw[kZ];exact hm,_,rfl,d,_,rfl,?_,k⟩
  rw[kI hb,gG]
  exact qM hd λt ht=>oA hb ht
def wY(CB:Addr):Sp:=λvs H Q _=>∃(a:Addr) (B:d7) (b:Rol.Bar) (key:Nat),vs=[.ref a,.int (key:Nat)]/\rJ CB H a B/\eF B b/\Q (.int (b.side key:Nat)) H
theorem scSo:aJ ["self","key"] ["self","key"] (aA oM):=sc0
theorem Cz{f:Addr}{fd:FuncData}(F:Fun K "side_of" "Bar.side_of" oM f fd)(T:KC K mg "Bar" CB fB cC):aF P w K mg base CX0 1 f fd ["self","key"] (wY CB):=by
 refine F.ok scSo (λvs H Q E h=>?_) (λcdv A outer s H vs Q E hr h=>?_)
 ·obtain⟨a,B,b,key,rfl,_⟩:=h
  rfl
 ·obtain⟨a,B,b,key,rfl,hB,hb,k⟩:=h
  obtain⟨dx,fa,sa,ta,ka,ts,kts,_,_,_,h1,h2,h3,h4,h5,h6,h7⟩:=hB.ex
  refine⟨_,az (aO (qp (bG tL (pv 1) (aB (pv 0) rfl) (bQ _)) aC aC)),?_⟩
  refine⟨_,rfl,_,rfl,a,CB,dx,_,_,rfl,h1,T.cl,T.no _ dk,rfl,_,_,rfl,rfl,_,rfl,?_⟩
  unfold Rol.Bar.side at k
  rw[hb.split]
  by_cases h:key<b.split
  ·rw[if_pos h] at k
   exact aM (decide_eq_true (by omega)) k
  ·rw[if_neg h] at k
   exact aV (by rw[decide_eq_false (by omega)];exact Bool.false_ne_true) k
noncomputable abbrev eU:List Str:=["before","after"]
noncomputable def chf(d0 d1:Addr):List (Str×V):=[("before",.ref d0),("after",.ref d1)]
structure ChA(CN:Addr)(H:Hp)(a:Addr)(wd y x:Nat):Prop where
 ex:∃dx d0 d1,H a=some (.ins CN dx (chf d0 d1))/\H d0=some (.dK (soK wd y))/\H d1=some (.dK (soK wd x))
def uc(CN:Addr):Sp:=λvs H Q _=>∃(r dx d0 d1:Addr),vs=[.ref r,.ref d0,.ref d1]/\H r=some (.ins CN dx [])/\Q .non (upd H r (.ins CN dx (chf d0 d1)))
theorem scCI:aJ ["self","before","after"] ["self","before","after"] (aA qF):=sc0
theorem yx{fd:FuncData}(F:Fun K "__init__" "Change.__init__" qF fN fd)(T:KC K mg "Change" CN fN eU):aF P w K mg base CX0 1 fN fd ["self","before","after"] (uc CN):=by
 refine F.ok scCI (λvs H Q E h=>?_) (λcdv A outer s H vs Q E hr h=>?_)
 ·obtain⟨r,dx,d0,d1,rfl,_⟩:=h
  rfl
 ·obtain⟨r,dx,d0,d1,rfl,hr0,k⟩:=h
  refine⟨_,aq (aU (pv 0) (pv 1) rfl) (az (aU (pv 0) (pv 2) rfl)),?_⟩
  refine⟨_,rfl,_,rfl,r,CN,dx,_,rfl,hr0,T.cl,T.no _ dk,(by show 0<1000;decide),?_⟩
  refine⟨_,rfl,_,rfl,r,CN,dx,_,rfl,aj,T.cl,T.no _ dk,(by show 1<1000;decide),?_⟩
  rw[cG]
  exact k
def qN(CN:Addr):Sp:=λvs H Q _=>∃(a:Addr) (wd y x:Nat) (o:Option Nat),vs=[.ref a,wu o]/\ChA CN H a wd y x/\(∀t,o=some t->t<wd)/\Q (.bl (hears x o&&!hears y o)) H
def yW(CN:Addr):Sp:=λvs H Q _=>∃(a:Addr) (wd y x:Nat) (o:Option Nat),vs=[.ref a,wu o]/\ChA CN H a wd y x/\(∀t,o=some t->t<wd)/\Q (.bl (hears y o&&!hears x o)) H
theorem scBg:aJ ["self","track"] ["self","track"] (aA lE):=sc0
theorem scEn:aJ ["self","track"] ["self","track"] (aA wR):=sc0
theorem Cr{f:Addr}{fd:FuncData}(F:Fun K "begins" "Change.begins" lE f fd)(T:KC K mg "Change" CN fN eU):aF P w K mg base CX0 1 f fd ["self","track"] (qN CN):=by
 refine F.ok scBg (λvs H Q E h=>?_) (λcdv A outer s H vs Q E hr h=>?_)
 ·obtain⟨a,wd,y,x,o,rfl,_⟩:=h
  rfl
 ·obtain⟨a,wd,y,x,o,rfl,⟨dx,d0,d1,ha,h0,h1⟩,ho,k⟩:=h
  have hu:=sV hr
  refine⟨_,az (aO (G9 (ql (uQ hu (pv 1) (aB (pv 0) rfl))) (Hd (ql (qj hu (pv 1) (aB (pv 0) rfl)))))),?_⟩
  refine⟨_,rfl,_,rfl,a,CN,dx,_,_,rfl,ha,T.cl,T.no _ dk,rfl,d1,_,rfl,qM h1 ho,_,rfl,?_⟩
  cases hx:hears x o with
  |false =>
   rw[hx,Bool.false_and] at k
   exact aV Bool.false_ne_true k
  |true =>
   rw[hx,Bool.true_and] at k
   exact aM rfl ⟨_,rfl,_,rfl,a,CN,dx,_,_,rfl,ha,T.cl,T.no _ dk,rfl,d0,_,rfl,qM h0 ho,k⟩
theorem Jg{f:Addr}{fd:FuncData}(F:Fun K "ends" "Change.ends" wR f fd)(T:KC K mg "Change" CN fN eU):aF P w K mg base CX0 1 f fd ["self","track"] (yW CN):=by
 refine F.ok scEn (λvs H Q E h=>?_) (λcdv A outer s H vs Q E hr h=>?_)
 ·obtain⟨a,wd,y,x,o,rfl,_⟩:=h
  rfl
 ·obtain⟨a,wd,y,x,o,rfl,⟨dx,d0,d1,ha,h0,h1⟩,ho,k⟩:=h
  have hu:=sV hr
  refine⟨_,az (aO (G9 (ql (uQ hu (pv 1) (aB (pv 0) rfl))) (Hd (ql (qj hu (pv 1) (aB (pv 0) rfl)))))),?_⟩
  refine⟨_,rfl,_,rfl,a,CN,dx,_,_,rfl,ha,T.cl,T.no _ dk,rfl,d0,_,rfl,qM h0 ho,_,rfl,?_⟩
  cases hx:hears y o with
  |false =>
   rw[hx,Bool.false_and] at k
   exact aV Bool.false_ne_true k
  |true =>
   rw[hx,Bool.true_and] at k
   exact aM rfl ⟨_,rfl,_,rfl,a,CN,dx,_,_,rfl,ha,T.cl,T.no _ dk,rfl,d1,_,rfl,qM h1 ho,k⟩
noncomputable def evB(now was:Bool)(kb ke:Int):List (List Int):=if (now&&!was)=true then [[kb,0,0]] else if (was&&!now)=true then [[ke,0,0]] else []
def wV(CN:Addr):Sp:=λvs H Q _=>∃(a:Addr) (wd y x:Nat) (o:Option Nat) (kb ke:Int),vs=[.ref a,wu o,.int kb,.int ke]/\ChA CN H a wd y x/\(∀t,o=some t->t<wd) /\
 ∀H' l,aN H H'->H l=none->cM H' l (evB (hears x o) (hears y o) kb ke)->Q (.ref l) H'
theorem scBE:aJ ["change","track","kind_of_beginning","kind_of_end"] ["change","track","kind_of_beginning","kind_of_end"] (aA oH):=sc0
theorem Cq{f fG fE:Addr}{fd fdG fdE:FuncData}(F:Fun K "begin_or_end" "begin_or_end" oH f fd)(T:KC K mg "Change" CN fN eU)(MG:FM K CN "begins" "Change.begins" lE ["self","track"] fG fdG)(GG:aF P w K mg base CX0 1 fG fdG ["self","track"] (qN CN))(ME:FM K CN "ends" "Change.ends" wR ["self","track"] fE fdE)(GE:aF P w K mg base CX0 1 fE fdE ["self","track"] (yW CN)):aF P w K mg base CX0 2 f fd ["change","track","kind_of_beginning","kind_of_end"] (wV CN):=by
 refine F.ok scBE (λvs H Q E h=>?_) (λcdv A outer s H vs Q E hr h=>?_)
 ·obtain⟨a,wd,y,x,o,kb,ke,rfl,_⟩:=h
  rfl
 ·obtain⟨a,wd,y,x,o,kb,ke,rfl,hC,ho,k⟩:=h
  obtain⟨dx,d0,d1,ha,h0,h1⟩:=hC.ex
  refine⟨_,aq (cA (cH (aQ (pv 0) T.cl MG.mt GG hr MG.bd .nil aX (ak (pv 1) au))) (az (aO (cD (ak (eE (ak (pv 2) (ak aC (ak aC au)))) au)))) aZ)
   (aq (cA (cH (aQ (pv 0) T.cl ME.mt GE hr ME.bd .nil aX (ak (pv 1) au))) (az (aO (cD (ak (eE (ak (pv 3) (ak aC (ak aC au)))) au)))) aZ)
   (az (aO (cD au)))),?_⟩
  have one:∀kk:Int,evB (hears x o) (hears y o) kb ke=[[kk,0,0]]->∀T,H T=none->∀l,upd H T (.tup [.int kk,.int 0,.int 0]) l=none->Q (.ref l) (upd (upd H T (.tup [.int kk,.int 0,.int 0])) l (.lst [.ref T])):=by
   intro kk e T hT l hl
   have nl:T≠l:=aa aj hl
   refine k _ l ((aN.new _ hT).trans (aN.new _ hl)) ?_ ?_
   ·rw[ao (Ne.symm nl)] at hl
    exact hl
   ·rw[e]
    exact⟨[T],aj,.cons (by rw[ao nl,aj];rfl) .nil⟩
  refine⟨_,rfl,a,dx,_,rfl,ha,aY (ns:=eU) rfl dk,_,rfl,a,wd,y,x,o,rfl,hC,ho,_,rfl,?_⟩
  by_cases hb:(hears x o&&!hears y o)=true
  ·refine aM hb ?_
   refine⟨_,rfl,by show 3<=sizeLine;decide,λT hT=>⟨by show 1<=sizeLine;decide,λl hl=>one kb ?_ T hT l hl⟩⟩
   unfold evB
   rw[if_pos hb]
  ·refine aV hb ?_
   refine⟨_,rfl,a,dx,_,rfl,ha,aY (ns:=eU) rfl dk,_,rfl,a,wd,y,x,o,rfl,hC,ho,_,rfl,?_⟩
   by_cases he:(hears y o&&!hears x o)=true
   ·refine aM he ?_
    refine⟨_,rfl,by show 3<=sizeLine;decide,λT hT=>⟨by show 1<=sizeLine;decide,λl hl=>one ke ?_ T hT l hl⟩⟩
    unfold evB
    rw[if_neg hb,if_pos he]
   ·refine aV he ?_
    refine⟨Nat.zero_le _,λl hl=>k _ l (aN.new _ hl) hl ?_⟩
    unfold evB
    rw[if_neg hb,if_neg he]
    exact⟨[],aj,.nil⟩
end
end PR
namespace PR
open Rol
noncomputable def jn(b:Bar):List (Nat×Nat):=b.tracks.filterMap λx=>match x.2 with
 |.key k=>some (k,x.1)
 |_=>none
noncomputable def cst(p:Nat×Nat):Int×Int:=((p.1:Int),(p.2:Int))
theorem Ah:∀l:List (Nat×Means),nZ (rB l)=(l.filterMap λx=>match x.2 with|.key k=>some (k,x.1)|_=>none).map cst
 |[]=>rfl
 |x::l=>by
  have ih:=Ah l
  obtain⟨t,m⟩:=x
  unfold nZ rB at ih ⊢
  rw[List.map_cons,List.filter_cons,List.filterMap_cons]
  cases m<;>(first
   |(dsimp only;rw[if_pos (by rfl),List.map_cons,List.map_cons,ih];rfl)
   |(dsimp only;rw[if_neg (by simp[dm,Means.nums]),ih]))
noncomputable def toN(p:Int×Int):Nat×Nat:=(p.1.toNat,p.2.toNat)
theorem Bp(p:Nat×Nat):toN (cst p)=p:=by
 unfold toN cst
 simp
theorem CZ{B:d7}{b:Bar}(hb:eF B b){kts:List (Int×Int)}(h:n6 B.tracks kts):∃kn:List (Nat×Nat),kts=kn.map cst/\kn.Perm (jn b)/\kn.Pairwise λx y=>x.1<=y.1:=by
 obtain⟨hp,hw⟩:=h
 rw[hb.tracks,Ah] at hp
 have hp:kts.Perm ((jn b).map cst):=hp
 have e:kts=(kts.map toN).map cst:=by
  rw[List.map_map]
  conv=>lhs;rw[←List.map_id kts]
  refine List.map_congr_left λx hx=>?_
  obtain⟨p,_,rfl⟩:=List.mem_map.mp (hp.mem_iff.mp hx)
  show cst p=cst (toN (cst p))
  rw[Bp]
 refine⟨kts.map toN,e,?_,?_⟩
 ·have:=hp.map toN
  rw[List.map_map,List.map_congr_left (f:=toN ∘ cst) (g:=id) (λp _=>Bp p),List.map_id] at this
  exact this
 ·rw[e,List.pairwise_map] at hw
  refine hw.imp λ{x y} h=>?_
  have h:(x.1:Int)<=(y.1:Int):=h
  omega
theorem tG{B:d7}{b:Bar}(hb:eF B b){k t:Nat}:(k,t)∈jn b↔b.find (.key k)=some t:=by
 unfold jn Bar.find
 rw[List.mem_filterMap]
 constructor
 ·rintro⟨⟨t',m⟩,hm,e⟩
  cases m with
  |key k' =>
   have nd:=hb.nd
   have:∀(k t:Nat) (l:List (Nat×Means)),(l.map (·.2)).Nodup->(t,Means.key k)∈l->((l.find? λ(x:Nat×Means)=>x.2==.key k).map λ(x:Nat×Means)=>x.1)=some t:=by
    intro k t l
    induction l with
    |nil=>intro _ h;cases h
    |cons y l ih =>
     intro nd h
     rw[List.map_cons,List.nodup_cons] at nd
     rw[List.find?_cons]
     rcases List.mem_cons.mp h with z|z
     ·subst z
      simp
     ·have:(y.2==Means.key k)=false:=by
       refine beq_eq_false_iff_ne.mpr λe=>nd.1 ?_
       rw[e]
       exact List.mem_map.mpr ⟨_,z,rfl⟩
      rw[this]
      exact ih nd.2 z
   cases e
   exact this _ _ b.tracks nd hm
  |_=>cases e
 ·intro h
  obtain⟨x,hx,e⟩:=Option.map_eq_some_iff.mp h
  have h1:=List.find?_some hx
  have h1:x.2=.key k:=by simpa using h1
  refine⟨x,List.mem_of_find?_eq_some hx,?_⟩
  rw[h1]
  show some (k,x.1)=_
  rw[show x.1=t from e]
theorem xY{B:d7}{b:Bar}(hb:eF B b){k t:Nat}(h:(k,t)∈jn b):k<128/\t<b.wide:=by
 unfold jn at h
 obtain⟨⟨t',m⟩,hm,e⟩:=List.mem_filterMap.mp h
 have:=hb.tr _ hm
 cases m with
 |key k' =>
  cases e
  exact⟨of_decide_eq_true this.2,this.1⟩
 |_=>cases e
theorem uV:∀{l m:List Nat},l.Pairwise (·<·)->m.Pairwise (·<·)->(∀x,x∈l↔x∈m)->l=m
 |[],[],_,_,_=>rfl
 |[],y::m,_,_,h=>absurd ((h y).mpr (List.mem_cons_self ..)) (by simp)
 |x::l,[],_,_,h=>absurd ((h x).mp (List.mem_cons_self ..)) (by simp)
 |x::l,y::m,hl,hm,h=>by
  rw[List.pairwise_cons] at hl hm
  have e:x=y:=by
   rcases List.mem_cons.mp ((h x).mp (List.mem_cons_self ..)) with z|z
   ·exact z
   ·rcases List.mem_cons.mp ((h y).mpr (List.mem_cons_self ..)) with v|v
    ·exact v.symm
    ·have h1:=hm.1 x z
     have h2:=hl.1 y v
     omega
  subst e
  rw[uV hl.2 hm.2 λz=>?_]
  constructor
  ·intro hz
   rcases List.mem_cons.mp ((h z).mp (List.mem_cons_of_mem _ hz)) with v|v
   ·subst v
    have:=hl.1 z hz
    omega
   ·exact v
  ·intro hz
   rcases List.mem_cons.mp ((h z).mpr (List.mem_cons_of_mem _ hz)) with v|v
   ·subst v
    have:=hm.1 z hz
    omega
   ·exact v
theorem sZ{B:d7}{b:Bar}(hb:eF B b){kn:List (Nat×Nat)}(hp:kn.Perm (jn b))(hw:kn.Pairwise λx y=>x.1<=y.1):kn.Pairwise λx y=>x.1<y.1:=by
 have nd:(kn.map (·.1)).Nodup:=by
  have h1:((jn b).map (·.1)).Nodup:=by
   unfold jn
   have:∀l:List (Nat×Means),(l.map (·.2)).Nodup->((l.filterMap λx=>match x.2 with|.key k=>some (k,x.1)|_=>none).map (·.1)).Nodup:=by
    intro l
    induction l with
    |nil=>intro _;exact List.nodup_nil
    |cons y l ih =>
     intro nd
     rw[List.map_cons,List.nodup_cons] at nd
     obtain⟨t,m⟩:=y
     have h2:=ih nd.2
     rw[List.filterMap_cons]
     cases m with
     |key k =>
      dsimp only
      rw[List.map_cons,List.nodup_cons]
      refine⟨λh=>nd.1 ?_,h2⟩
      obtain⟨⟨k',t'⟩,h3,e⟩:=List.mem_map.mp h
      have e:k'=k:=e
      subst e
      obtain⟨⟨t2,m2⟩,h4,e2⟩:=List.mem_filterMap.mp h3
      cases m2 with
      |key k2 =>
       cases e2
       exact List.mem_map.mpr ⟨_,h4,rfl⟩
      |_=>cases e2
     |_=>exact h2
   exact this _ hb.nd
  exact(hp.map _).nodup_iff.mpr h1
 have nd:kn.Pairwise λx y=>x.1≠y.1:=List.pairwise_map.mp nd
 exact(hw.and nd).imp λh=>by omega
theorem zW{B:d7}{b:Bar}(hb:eF B b){kn:List (Nat×Nat)}(hp:kn.Perm (jn b))(hw:kn.Pairwise λx y=>x.1<=y.1)(x y:Nat) :
  (kn.filter λp=>hears x (some p.2)&&!hears y (some p.2)).map (·.1)=keysIn (less (b.heard x) (b.heard y)):=by
 rw[Ca]
 refine uV ?_ ?_ λk=>?_
 ·rw[List.pairwise_map]
  exact(sZ hb hp hw).filter _
 ·exact(List.pairwise_lt_range).filter _
 ·rw[List.mem_map,List.mem_filter,List.mem_range]
  constructor
  ·rintro⟨⟨k',t⟩,h1,e⟩
   have e:k'=k:=e
   subst e
   obtain⟨h2,h3⟩:=List.mem_filter.mp h1
   have h2:=hp.mem_iff.mp h2
   refine⟨(xY hb h2).1,?_⟩
   rw[gG,gG,(tG hb).mp h2]
   exact h3
  ·rintro⟨hk,h⟩
   rw[gG,gG] at h
   cases hf:b.find (.key k) with
   |none =>
    rw[hf] at h
    cases h
   |some t =>
    rw[hf] at h
    exact⟨(k,t),List.mem_filter.mpr ⟨hp.mem_iff.mpr ((tG hb).mpr hf),h⟩,rfl⟩
end PR
namespace PR
open PySem PySem.Spec PyProof.Rows L2
variable {P:Program}{w:World}{K:PySem.W.Frag}{mg:Str->Option Value}{base:Heap}
noncomputable abbrev mH:Stmt:=top 44
abbrev GI(mg:Str->Option Value)(nm:Str)(i:Int):Prop:=∃t,mg nm=some (.int i t)
structure uz(K:PySem.W.Frag)(mg:Str->Option Value)(nm:Str)(a:Addr)(l:List Int):Prop where
 mg:mg nm=some (.ref a)
 at_:∀H,SqT K H a (l.map V.int)
theorem rQ.grow{CB:Addr}{H0 H H':Hp}{a:Addr}{B:d7}(h:rQ CB H0 H a B)(g:aN H H'):rQ CB H0 H' a B:=by
 obtain⟨dx,fa,sa,ta,ka,ts,kts,z1,z2,z3,h1,h2,h3,h4,h5,h6,h7⟩:=h.ex
 exact⟨dx,fa,sa,ta,ka,ts,kts,z1,z2,z3,g _ _ h1,g _ _ h2,g _ _ h3,g _ _ h4,g _ _ h5,h6.keep λb xs z=>g _ _ z,h7⟩
theorem ChA.grow{CN:Addr}{H H':Hp}{a:Addr}{wd y x:Nat}(h:ChA CN H a wd y x)(g:aN H H'):ChA CN H' a wd y x:=by
 obtain⟨dx,d0,d1,h1,h2,h3⟩:=h.ex
 exact⟨dx,d0,d1,g _ _ h1,g _ _ h2,g _ _ h3⟩
theorem jJ{H:Hp}{l T:Addr}{ts:List Addr}{rows:List (List Int)}{row:List Int}(hl:H l=some (.lst (ts.map V.ref)))(ht:jg H ts rows)(hT:H T=none) :
  cM (upd (upd H T (.tup (row.map V.int))) l (.lst (ts.map V.ref++[.ref T]))) l (rows++[row]):=by
 have n:l≠T:=aa hl hT
 refine⟨ts++[T],by rw[aj,List.map_append];rfl,Paired.app (ht.keep λb xs z=>?_) (.cons ?_ .nil)⟩
 ·rw[ao (bI z hl (by intro y;cases y)),ao (aa z hT)]
  exact z
 ·rw[ao (Ne.symm n),aj]
theorem qz{H:Hp}{l:Addr}{ts us:List Addr}{rows more:List (List Int)}(hl:H l=some (.lst (ts.map V.ref)))(ht:jg H ts rows)(hu:jg H us more) :
  cM (upd H l (.lst (ts.map V.ref++us.map V.ref))) l (rows++more):=by
 refine⟨ts++us,by rw[aj,List.map_append],Paired.app (ht.keep λb xs z=>?_) (hu.keep λb xs z=>?_)⟩ <;>
 ·rw[ao (bI z hl (by intro y;cases y))]
  exact z
theorem cM.len{H:Hp}{l:Addr}{rows:List (List Int)}(h:cM H l rows):∃ts:List Addr,H l=some (.lst (ts.map V.ref))/\jg H ts rows/\ts.length=rows.length:=by
 obtain⟨ts,h1,h2⟩:=h.ex
 exact⟨ts,h1,h2,Paired.len' h2⟩
theorem Jx{X:Cx}{es:List Expr}{k:Nat}{t:TGs}{n:Nat}{pos:Pos}{K:PySem.W.Frag}(hK:X.K=K)(hc:X.calm=true)(h:PGs X es t)(hn:(assignEach es X.env).length=n)(hst:(assignEach es X.env).findIdx? (·.1)=none):PG X (.Tuple es k pos) (gTup K n t):=by
 subst hK
 exact lZ hc h hn hst
noncomputable def gw(x y:Nat)(p:Nat×Nat):Bool:=hears x (some p.2)&&!hears y (some p.2)
noncomputable def evI(b:Rol.Bar)(y x f0 f1:Nat):List (List Int) :=
 (((((Rol.keysIn (Rol.less (b.heard y) (b.heard x))).map λ(k:Nat)=>[(1:Int),(k:Int),0])++evB (b.has x .loud) (b.has y .loud) 3 4)++evB (b.has x .soft) (b.has y .soft) 5 6) ++
 ((Rol.keysIn (Rol.less (b.heard x) (b.heard y))).map λ(k:Nat)=>[(2:Int),(k:Int),((if b.side k=0 then f0 else f1:Nat):Int)]))++if (b.has x .end_&&!b.has y .end_)=true then [[7,0,0]] else []
theorem Hs{l:List Nat}{n:Nat}(h:l.Pairwise (·<·))(hn:∀x∈l,x<n):l.length<=n:=by
 have e:l=(List.range n).filter λx=>decide (x∈l):=by
  refine uV h ((List.pairwise_lt_range).filter _) λx=>?_
  rw[List.mem_filter,List.mem_range,decide_eq_true_eq]
  exact⟨λhx=>⟨hn x hx,hx⟩,λhx=>hx.2⟩
 have:=List.length_filter_le (λx=>decide (x∈l)) (List.range n)
 rw[←e,List.length_range] at this
 exact this
theorem kn_len{B:d7}{b:Rol.Bar}(hb:eF B b){kn:List (Nat×Nat)}(hp:kn.Perm (jn b))(hw:kn.Pairwise λx y=>x.1<=y.1):kn.length<=128:=by
 have:=Hs (n:=128) (l:=kn.map (·.1)) (List.pairwise_map.mpr (sZ hb hp hw)) λk hk=>by
  obtain⟨⟨k',t⟩,h1,rfl⟩:=List.mem_map.mp hk
  exact(xY hb (hp.mem_iff.mp h1)).1
 rw[List.length_map] at this
 exact this
structure EvTop(K:PySem.W.Frag)(mg:Str->Option Value)(aL aS aE:Addr):Prop where
 g1:GI mg "LET_GO" 1
 g2:GI mg "STRUCK" 2
 g3:GI mg "LOUD_BEGINS" 3
 g4:GI mg "LOUD_ENDS" 4
 g5:GI mg "SOFT_BEGINS" 5
 g6:GI mg "SOFT_ENDS" 6
 g7:GI mg "END_BEGINS" 7
 tl:uz K mg "LOUD" aL [2,0,0]
 ts:uz K mg "SOFT" aS [3,0,0]
 te:uz K mg "END" aE [9,0,0]
section
variable {CB fB CN fN:Addr}
def Be(CB CN:Addr):Sp:=λvs H Q _=>∃(ba ca fo:Addr) (B:d7) (b:Rol.Bar) (y x f0 f1:Nat),vs=[.ref ba,.ref ca,.ref fo]/\rJ CB H ba B/\eF B b/\ChA CN H ca b.wide y x/\H fo=some (.lst [.int (f0:Nat),.int (f1:Nat)]) /\
 ∀H' l,aN H H'->H l=none->cM H' l (evI b y x f0 f1)->Q (.ref l) H'
theorem Dh:aJ ["bar","change","forces","events","key","track"] ["bar","change","forces"] (aA mH):=sc0
theorem blkRE:gM ["bar","change","forces","events","key","track"] (aA mH) (lcSc ((cY mH).getD 0 (.Pass ⟨0,0,0,0⟩))) [("key",4),("track",5)]:=⟨rfl,dk,dk,dk,dk⟩
theorem Gv{f fG fE fBE fSo aL aS aE:Addr}{fd fdG fdE fdBE fdSo:FuncData}(F:Fun K "row_events" "row_events" mH f fd)(TB:KC K mg "Bar" CB fB cC)(T:KC K mg "Change" CN fN eU)(TE:EvTop K mg aL aS aE)(MG:FM K CN "begins" "Change.begins" lE ["self","track"] fG fdG)(GG:aF P w K mg base CX0 1 fG fdG ["self","track"] (qN CN))(ME:FM K CN "ends" "Change.ends" wR ["self","track"] fE fdE)(GE:aF P w K mg base CX0 1 fE fdE ["self","track"] (yW CN))(MB:FG K mg "begin_or_end" oH ["change","track","kind_of_beginning","kind_of_end"] fBE fdBE)(GB:aF P w K mg base CX0 2 fBE fdBE ["change","track","kind_of_beginning","kind_of_end"] (wV CN))(MS:FM K CB "side_of" "Bar.side_of" oM ["self","key"] fSo fdSo)(GS:aF P w K mg base CX0 1 fSo fdSo ["self","key"] (wY CB)) :
  aF P w K mg base CX0 3 f fd ["bar","change","forces"] (Be CB CN):=by
 refine F.ok Dh (λvs H Q E h=>?_) (λcdv A outer s H vs Q E hr h=>?_)
 ·obtain⟨ba,ca,fo,B,b,y,x,f0,f1,rfl,_⟩:=h
  rfl
 ·obtain⟨ba,ca,fo,B,b,y,x,f0,f1,rfl,hB,hb,hC,hfo,k⟩:=h
  obtain⟨t1,m1⟩:=TE.g1
  obtain⟨t2,m2⟩:=TE.g2
  obtain⟨t3,m3⟩:=TE.g3
  obtain⟨t4,m4⟩:=TE.g4
  obtain⟨t5,m5⟩:=TE.g5
  obtain⟨t6,m6⟩:=TE.g6
  obtain⟨t7,m7⟩:=TE.g7
  have hr1:bY 1 _:=hr.mono (by decide)
  have hu:=sV hr
  refine⟨_,aq (wI (i:=3) (own:=[("key",4),("track",5)]) rfl Dh.nd rfl rfl rfl (gb (aB (pv 0) rfl)) blkRE
    (λ_ _ _ _ _=>Jx (K:=K) (n:=2) rfl rfl (dB (cF (i:=4) Dh.nd rfl (.inl rfl)) (dB (cF (i:=5) Dh.nd rfl (.inl rfl)) jG)) rfl rfl)
    (λ_ _ _ _ _=>Ag (cH (aQ (pv 1) T.cl ME.mt GE ?room ME.bd .nil aX (ak (pv 5) au))))
    (λ_ _ _ _ _=>eE (ak (aD (v:=.int 1) rfl m1 ⟨t1,rfl⟩) (ak (pv 4) (ak aC au)))))
   (aq (bh (f9 PySem.F.plainAttrs_list PySem.F.slot_list_extend PySem.F.type_list_extend eO (pv 3) (ak (bU GB hr rfl MB.mg MB.fn.kp MB.bd .nil aX
     (ak (pv 1) (ak (iK (K:=K) rfl hu (aB (pv 0) rfl) (aD (v:=.ref aL) rfl TE.tl.mg rfl) ⟨rfl,rfl,rfl,rfl⟩) (ak (aD (v:=.int 3) rfl m3 ⟨t3,rfl⟩) (ak (aD (v:=.int 4) rfl m4 ⟨t4,rfl⟩) au))))) au)))
   (aq (bh (f9 PySem.F.plainAttrs_list PySem.F.slot_list_extend PySem.F.type_list_extend eO (pv 3) (ak (bU GB hr rfl MB.mg MB.fn.kp MB.bd .nil aX
     (ak (pv 1) (ak (iK (K:=K) rfl hu (aB (pv 0) rfl) (aD (v:=.ref aS) rfl TE.ts.mg rfl) ⟨rfl,rfl,rfl,rfl⟩) (ak (aD (v:=.int 5) rfl m5 ⟨t5,rfl⟩) (ak (aD (v:=.int 6) rfl m6 ⟨t6,rfl⟩) au))))) au)))
   (aq (iM PassesOwn.never rfl (gb (aB (pv 0) rfl)) (lZ rfl (dB (cF (i:=4) Dh.nd rfl (.inl rfl)) (dB (cF (i:=5) Dh.nd rfl (.inl rfl)) jG)))
    (az (cA (cH (aQ (pv 1) T.cl MG.mt GG hr1 MG.bd .nil aX (ak (pv 5) au)))
     (az (bh (f9 PySem.F.plainAttrs_list PySem.F.slot_list_append PySem.F.type_list_append gn (pv 3) (ak (eE (ak (aD (v:=.int 2) rfl m2 ⟨t2,rfl⟩) (ak (pv 4) (ak (cz dg (pv 2) (aQ (pv 0) TB.cl MS.mt GS hr1 MS.bd .nil aX (ak (pv 4) au)) (λ_ _=>rfl)) au)))) au))))
     aZ)))
   (aq (cA (cH (aQ (pv 1) T.cl MG.mt GG hr1 MG.bd .nil aX (ak (iK (K:=K) rfl hu (aB (pv 0) rfl) (aD (v:=.ref aE) rfl TE.te.mg rfl) ⟨rfl,rfl,rfl,rfl⟩) au)))
    (az (bh (f9 PySem.F.plainAttrs_list PySem.F.slot_list_append PySem.F.type_list_append gn (pv 3) (ak (eE (ak (aD (v:=.int 7) rfl m7 ⟨t7,rfl⟩) (ak aC (ak aC au)))) au)))) aZ)
   (az (aO (pv 3))))))),?_⟩
  case room=>exact hr1
  obtain⟨dx,fa,sa,ta,ka,ts0,kts,_,_,_,h1,h2,h3,h4,h5,h6,h7⟩:=hB.ex
  obtain⟨kn,ekn,hp,hw⟩:=CZ hb h7
  subst ekn
  have hkl:=kn_len hb hp hw
  obtain⟨dxc,d0,d1,hca,hd0,hd1⟩:=hC.ex
  have item:∀{i:Nat} {t:Addr},ts0[i]?=some t->∃p,kn[i]?=some p/\jW H t (cst p)/\p.2<b.wide:=by
   intro i t ht
   obtain⟨q,hq,hpr⟩:=gK h6 ht
   rw[List.getElem?_map] at hq
   obtain⟨p,hpn,rfl⟩:=Option.map_eq_some_iff.mp hq
   exact⟨p,hpn,hpr,(xY hb (hp.mem_iff.mp (List.mem_of_getElem? hpn))).2⟩
  have tak:∀{i:Nat} {p:Nat×Nat} (q:Nat×Nat->Bool),kn[i]?=some p->(kn.take (i+1)).filter q=(kn.take i).filter q++if q p=true then [p] else []:=by
   intro i p q h
   rw[List.take_succ,h,List.filter_append]
   congr 1
   rw[Option.toList_some,List.filter_cons,List.filter_nil]
  have tkl:∀(i:Nat) (q:Nat×Nat->Bool),((kn.take i).filter q).length<=128:=by
   intro i q
   refine Nat.le_trans (List.length_filter_le _ _) ?_
   rw[List.length_take]
   omega
  have hlen0:ts0.length=kn.length:=by
   have:=Paired.len' h6
   rw[List.length_map] at this
   exact this
  refine⟨_,rfl,ba,CB,dx,_,_,rfl,h1,TB.cl,TB.no _ dk,rfl,ka,rfl,⟨_,SqL.of h5⟩,λD hD=>?_⟩
  refine jE (K:=K) (a:=ka) (xs:=ts0.map V.ref) (λi H'=>aN H H'/\∃ts,H' D=some (.lst (ts.map V.ref))/\jg H' ts (((kn.take i).filter (gw y x)).map λp=>[(1:Int),(p.1:Int),0])) ?_ ?_ ?_ ?_
  ·exact⟨aN.new (.lst []) hD,[],aj,.nil⟩
  ·rintro i H' _ ⟨g,_⟩
   exact SqL.of (g _ _ h5)
  ·rintro i xv H' hx ⟨g,ts,hDl,hts⟩
   rw[List.getElem?_map] at hx
   obtain⟨t,ht,rfl⟩:=Option.map_eq_some_iff.mp hx
   obtain⟨p,hpn,hpr,hpw⟩:=item ht
   refine⟨t,_,rfl,SqT.of (g _ _ hpr),rfl,_,_,rfl,_,_,rfl,rfl,rfl,?_⟩
   refine⟨_,rfl,ca,dxc,_,rfl,g _ _ hca,aY (ns:=eU) rfl dk,_,rfl,ca,b.wide,y,x,some p.2,rfl,hC.grow g,(λt' e=>by cases e;exact hpw),_,rfl,?_⟩
   have hl:=tkl i (gw y x)
   have hle:ts.length=((kn.take i).filter (gw y x)).length:=by
    have:=Paired.len' hts
    rw[List.length_map] at this
    exact this
   rw[tak (gw y x) hpn]
   by_cases hc:(hears y (some p.2)&&!hears x (some p.2))=true
   ·rw[if_pos (show gw y x p=true from hc),List.map_append]
    refine aM hc ?_
    refine⟨_,rfl,by show 3<=sizeLine;decide,λT hT=>?_⟩
    have nDT:D≠T:=aa hDl hT
    refine⟨ts.map V.ref,by rw[ao nDT];exact hDl,by rw[List.length_map,sizeLine_eq];omega,?_,?_⟩
    ·intro b' o z
     rw[ao (aa z hD),ao (aa (g _ _ z) hT)]
     exact g _ _ z
    ·exact(jJ (row:=[(1:Int),(p.1:Int),0]) hDl hts hT).ex
   ·rw[if_neg (show ¬gw y x p=true from hc),List.append_nil]
    exact aV hc ⟨g,ts,hDl,hts⟩
  ·rintro H1 ⟨g1,hR⟩
   rw[List.length_map,hlen0,List.take_length] at hR
   have e1:((kn.filter (gw y x)).map λp=>[(1:Int),(p.1:Int),0])=(Rol.keysIn (Rol.less (b.heard y) (b.heard x))).map λ(k:Nat)=>[(1:Int),(k:Int),0]:=by
    rw[←zW hb hp hw y x,List.map_map]
    rfl
   rw[e1] at hR
   have l1:((Rol.keysIn (Rol.less (b.heard y) (b.heard x))).map λ(k:Nat)=>[(1:Int),(k:Int),0]).length<=128:=by
    rw[←e1,List.length_map]
    have:=tkl kn.length (gw y x)
    rw[List.take_length] at this
    exact this
   generalize hR1:((Rol.keysIn (Rol.less (b.heard y) (b.heard x))).map λ(k:Nat)=>[(1:Int),(k:Int),0])=R1 at hR l1
   obtain⟨ts1,hD1,hts1⟩:=hR
   have lt1:ts1.length=R1.length:=Paired.len' hts1
   have evl:∀(n' s':Bool) (a' b':Int),(evB n' s' a' b').length<=1:=by
    intro n' s' a' b'
    unfold evB
    split
    ·exact Nat.le_refl 1
    ·split
     ·exact Nat.le_refl 1
     ·exact Nat.zero_le 1
   refine⟨_,rfl,.inl ⟨rfl,_,SqL.of hD1⟩,_,rfl,_,rfl,ba,CB,dx,_,_,rfl,g1 _ _ h1,TB.cl,TB.no _ dk,rfl,ta,rfl,.inr ⟨_,.inl (g1 _ _ h4)⟩,_,iD (dm .loud),aL,.inl (g1 _ _ h4),rfl,TE.tl.at_ _,?_⟩
   rw[kI hb]
   refine⟨ca,b.wide,y,x,b.find .loud,3,4,rfl,hC.grow g1,λt ht=>oA hb ht,λH2 l2 g2 hl2 hr2=>?_⟩
   rw[←gG,←gG] at hr2
   obtain⟨us,hl2',hus,lus⟩:=hr2.len
   have v1:=evl (b.has x .loud) (b.has y .loud) 3 4
   refine⟨D,l2,_,_,rfl,rfl,g2 _ _ hD1,hl2',by rw[List.length_map,List.length_map,sizeLine_eq];omega,?_⟩
   have hR2:=qz (g2 _ _ hD1) (hts1.grow g2) hus
   have g3:aN H (upd H2 D (.lst (ts1.map V.ref++us.map V.ref))):=λb' o z=>by
    rw[ao (aa z hD)]
    exact g2 _ _ (g1 _ _ z)
   generalize upd H2 D (.lst (ts1.map V.ref++us.map V.ref))=H3 at hR2 g3 ⊢
   obtain⟨ts3,hD3,hts3,lt3⟩:=hR2.len
   rw[List.length_append] at lt3
   refine⟨_,rfl,.inl ⟨rfl,_,SqL.of hD3⟩,_,rfl,_,rfl,ba,CB,dx,_,_,rfl,g3 _ _ h1,TB.cl,TB.no _ dk,rfl,ta,rfl,.inr ⟨_,.inl (g3 _ _ h4)⟩,_,iD (dm .soft),aS,.inl (g3 _ _ h4),rfl,TE.ts.at_ _,?_⟩
   rw[kI hb]
   refine⟨ca,b.wide,y,x,b.find .soft,5,6,rfl,hC.grow g3,λt ht=>oA hb ht,λH4 l4 g4 hl4 hr4=>?_⟩
   rw[←gG,←gG] at hr4
   obtain⟨vs,hl4',hvs,lvs⟩:=hr4.len
   have v2:=evl (b.has x .soft) (b.has y .soft) 5 6
   refine⟨D,l4,_,_,rfl,rfl,g4 _ _ hD3,hl4',by rw[List.length_map,List.length_map,sizeLine_eq];omega,?_⟩
   have hR4:=qz (g4 _ _ hD3) (hts3.grow g4) hvs
   have g5:aN H (upd H4 D (.lst (ts3.map V.ref++vs.map V.ref))):=λb' o z=>by
    rw[ao (aa z hD)]
    exact g4 _ _ (g3 _ _ z)
   generalize upd H4 D (.lst (ts3.map V.ref++vs.map V.ref))=H5 at hR4 g5 ⊢
   generalize hR5:(R1++evB (b.has x .loud) (b.has y .loud) 3 4)++evB (b.has x .soft) (b.has y .soft) 5 6=R5 at hR4
   have l5:R5.length<=130:=by
    rw[←hR5,List.length_append,List.length_append]
    omega
   refine⟨_,rfl,ba,CB,dx,_,_,rfl,g5 _ _ h1,TB.cl,TB.no _ dk,rfl,ka,rfl,⟨_,SqL.of (g5 _ _ h5)⟩,?_⟩
   refine pD (K:=K) (xs:=ts0.map V.ref) (λi σ H'=>aN H H'/\(∃v1 v2,σ=[some (.ref ba),some (.ref ca),some (.ref fo),some (.ref D),v1,v2]) /\
    cM H' D (R5++((kn.take i).filter (gw x y)).map λp=>[(2:Int),(p.1:Int),((if b.side p.1=0 then f0 else f1:Nat):Int)])) ?_ ?_ ?_ ?_
   ·refine⟨g5,⟨none,none,rfl⟩,?_⟩
    rw[List.take_zero,List.filter_nil,List.map_nil,List.append_nil]
    exact hR4
   ·rintro i σ H' _ ⟨g,_,_⟩
    exact SqL.of (g _ _ h5)
   ·rintro i xv σ H' hx ⟨g,⟨v1,v2,rfl⟩,hR⟩
    rw[List.getElem?_map] at hx
    obtain⟨t,ht,rfl⟩:=Option.map_eq_some_iff.mp hx
    obtain⟨p,hpn,hpr,hpw⟩:=item ht
    obtain⟨ts,hDl,hts,hle⟩:=hR.len
    rw[List.length_append,List.length_map] at hle
    have hl:=tkl i (gw x y)
    refine⟨t,_,rfl,SqT.of (g _ _ hpr),rfl,_,_,rfl,_,_,rfl,rfl,?_⟩
    refine⟨_,rfl,ca,dxc,_,rfl,g _ _ hca,aY (ns:=eU) rfl dk,_,rfl,ca,b.wide,y,x,some p.2,rfl,hC.grow g,(λt' e=>by cases e;exact hpw),_,rfl,?_⟩
    rw[tak (gw x y) hpn]
    by_cases hc:(hears x (some p.2)&&!hears y (some p.2))=true
    ·rw[if_pos (show gw x y p=true from hc),List.map_append,←List.append_assoc]
     refine aM hc ?_
     have hside:[V.int (f0:Nat),V.int (f1:Nat)][b.side p.1]?=some (.int ((if b.side p.1=0 then f0 else f1:Nat):Int)):=by
      unfold Rol.Bar.side
      by_cases hs:p.1<b.split
      ·rw[if_pos hs]
       rfl
      ·rw[if_neg hs]
       rfl
     refine⟨_,rfl,.inl ⟨rfl,_,SqL.of hDl⟩,_,rfl,_,rfl,_,rfl,ba,dx,_,rfl,g _ _ h1,aY (ns:=cC) rfl dk,_,rfl,ba,B,b,p.1,rfl,hB.grow g,hb,fo,_,_,_,rfl,rfl,SqL.of (g _ _ hfo),bw hside,by show 3<=sizeLine;decide,λT hT=>?_⟩
     have nDT:D≠T:=aa hDl hT
     refine⟨D,_,_,rfl,rfl,by rw[ao nDT];exact hDl,by rw[List.length_map,sizeLine_eq];omega,?_,⟨_,_,rfl⟩,?_⟩
     ·intro b' o z
      rw[ao (aa z hD),ao (aa (g _ _ z) hT)]
      exact g _ _ z
     ·exact jJ (row:=[(2:Int),(p.1:Int),((if b.side p.1=0 then f0 else f1:Nat):Int)]) hDl hts hT
    ·rw[if_neg (show ¬gw x y p=true from hc),List.append_nil]
     exact aV hc ⟨g,⟨_,_,rfl⟩,hR⟩
   ·rintro σ H6 ⟨g6,⟨v1,v2,rfl⟩,hR6⟩
    rw[List.length_map,hlen0,List.take_length] at hR6
    have e6:((kn.filter (gw x y)).map λp=>[(2:Int),(p.1:Int),((if b.side p.1=0 then f0 else f1:Nat):Int)])=(Rol.keysIn (Rol.less (b.heard x) (b.heard y))).map λ(k:Nat)=>[(2:Int),(k:Int),((if b.side k=0 then f0 else f1:Nat):Int)]:=by
     rw[←zW hb hp hw x y,List.map_map]
     rfl
    have l6:=tkl kn.length (gw x y)
    rw[List.take_length] at l6
    obtain⟨ts,hDl,hts,hle⟩:=hR6.len
    rw[List.length_append,List.length_map] at hle
    rw[e6] at hR6 hts
    unfold evI at k
    rw[hR1,hR5] at k
    generalize hR7:R5++((Rol.keysIn (Rol.less (b.heard x) (b.heard y))).map λ(k:Nat)=>[(2:Int),(k:Int),((if b.side k=0 then f0 else f1:Nat):Int)])=R7 at hR6 hts k
    refine⟨_,rfl,ca,dxc,_,rfl,g6 _ _ hca,aY (ns:=eU) rfl dk,_,rfl,ba,CB,dx,_,_,rfl,g6 _ _ h1,TB.cl,TB.no _ dk,rfl,ta,rfl,.inr ⟨_,.inl (g6 _ _ h4)⟩,_,iD (dm .end_),aE,.inl (g6 _ _ h4),rfl,TE.te.at_ _,?_⟩
    rw[kI hb]
    refine⟨ca,b.wide,y,x,b.find .end_,rfl,hC.grow g6,λt ht=>oA hb ht,_,rfl,?_⟩
    rw[←gG,←gG]
    by_cases hc:(b.has x .end_&&!b.has y .end_)=true
    ·rw[if_pos hc] at k
     refine aM hc ?_
     refine⟨_,rfl,.inl ⟨rfl,_,SqL.of hDl⟩,by show 3<=sizeLine;decide,λT hT=>?_⟩
     have nDT:D≠T:=aa hDl hT
     refine⟨D,_,_,rfl,rfl,by rw[ao nDT];exact hDl,by rw[List.length_map,sizeLine_eq];omega,_,rfl,?_⟩
     refine k _ D ?_ hD (jJ (row:=[(7:Int),0,0]) hDl hts hT)
     intro b' o z
     rw[ao (aa z hD),ao (aa (g6 _ _ z) hT)]
     exact g6 _ _ z
    ·rw[if_neg hc,List.append_nil] at k
     exact aV hc ⟨_,rfl,k _ D g6 hD hR6⟩
end
end PR
namespace L2
open PySem PySem.Spec PyProof.Rows
theorem BR{K:PySem.W.Frag}{a:Addr}{xs:List V}{g:TG}{tb:TS}{D:Ends}{σ:St}{H:Hp}(Pv:Nat->St->Hp->Prop)(h0:Pv 0 σ H)(hl:∀i σ H,Pv i σ H->SqL K H a xs)(hs:∀i x σ H T,xs[i]?=some x->Pv i σ H->H T=none->g (.ref T) σ (upd H T (.tup [.int (i:Nat),x])) λσ2 H2=>tb { D with nx:=Pv (i+1),ct:=Pv (i+1),bk:=D.nx } σ2 H2)(hd:∀σ H,Pv xs.length σ H->D.nx σ H) :
  ∃W:Nat->Nat->St->Hp->Prop,(∃m,W 0 m σ H)/\∀i m σ H,W i m σ H ->
   ((Ite K a).stop i H/\D.nx σ H)∨((Ite K a).go i H/\∃N:St->Hp->Prop,(∀σ' H',N σ' H'->∃m',m'<m/\W (i+1) m' σ' H')/\∀v H',(Ite K a).yld i H v H'->g v σ H' λσ2 H2=>tb { D with nx:=N,ct:=N,bk:=D.nx } σ2 H2):=by
 refine⟨λi m σ H=>m=xs.length-i/\i<=xs.length/\Pv i σ H,⟨xs.length,by simp,Nat.zero_le _,h0⟩,?_⟩
 rintro i m σ H ⟨rfl,hi,p⟩
 by_cases hlt:i<xs.length
 ·refine .inr ⟨⟨xs,xs[i],hl _ _ _ p,by simp[hlt]⟩,Pv (i+1),λσ' H' p'=>⟨xs.length-(i+1),by omega,rfl,hlt,p'⟩,λv H' y=>?_⟩
  obtain⟨T,x,e,n,e2,hx⟩:=y
  subst e e2
  exact hs i x σ H T (hx xs (hl _ _ _ p)) p n
 ·have e:i=xs.length:=by omega
  subst e
  exact .inl ⟨⟨xs,hl _ _ _ p,Nat.le_refl _⟩,hd σ H p⟩
end L2
namespace PR
open PySem PySem.Spec PyProof.Rows L2
variable {P:Program}{w:World}{K:PySem.W.Frag}{mg:Str->Option Value}{base:Heap}
noncomputable abbrev vy:Stmt:=inClass (top 59) 0
noncomputable abbrev iu:Stmt:=inClass (top 59) 1
noncomputable abbrev ir:Stmt:=inClass (top 59) 2
noncomputable abbrev fV:List Str:=["tail","rows_left"]
noncomputable def tnf(tl:Nat)(la:Addr):List (Str×V):=[("tail",.int (tl:Nat)),("rows_left",.ref la)]
noncomputable def nV(l:List Nat):List V:=l.map λn=>V.int (n:Nat)
structure TnA(CT:Addr)(H:Hp)(a la:Addr)(lefts:List Nat)(tl:Nat):Prop where
 obj:∃dx,H a=some (.ins CT dx (tnf tl la))
 lst:H la=some (.lst (nV lefts))
section
variable {CT fT:Addr}
def xf(CT:Addr):Sp:=λvs H Q _=>∃(r dx:Addr) (wd tl:Nat),vs=[.ref r,.int (wd:Nat),.int (tl:Nat)]/\H r=some (.ins CT dx [])/\wd<=128/\∀H' la,But r H H'->H la=none->TnA CT H' r la (List.replicate wd 0) tl->Q .non H'
theorem scTI:aJ ["self","width","tail"] ["self","width","tail"] (aA vy):=sc0
theorem CK{fd:FuncData}(F:Fun K "__init__" "Tones.__init__" vy fT fd)(T:KC K mg "Tones" CT fT fV):aF P w K mg base CX0 1 fT fd ["self","width","tail"] (xf CT):=by
 refine F.ok scTI (λvs H Q E h=>?_) (λcdv A outer s H vs Q E hr h=>?_)
 ·obtain⟨r,dx,wd,tl,rfl,_⟩:=h
  rfl
 ·obtain⟨r,dx,wd,tl,rfl,hr0,hwd,k⟩:=h
  refine⟨_,aq (aU (pv 0) (pv 2) rfl) (az (aU (pv 0) (bc G6 (cD (ak aC au)) (pv 1)) rfl)),?_⟩
  refine⟨_,rfl,_,rfl,r,CT,dx,_,rfl,hr0,T.cl,T.no _ dk,(by show 0<1000;decide),?_⟩
  refine⟨by show 1<=sizeLine;decide,λp hp=>?_⟩
  refine⟨_,rfl,p,_,_,rfl,rfl,aj,by omega,by omega,?_,λla hla=>?_⟩
  ·rw[Int.toNat_natCast,sizeLine_eq]
   show 1*wd<=16777216
   omega
  have nr:r≠p:=aa aj hp
  have nl:r≠la:=aa (by rw[ao nr,aj]) hla
  refine⟨_,rfl,r,CT,dx,_,rfl,by rw[ao nl,ao nr,aj],T.cl,T.no _ dk,(by show 1<1000;decide),?_⟩
  have hp0:H p=none:=by
   rw[ao (Ne.symm nr)] at hp
   exact hp
  have npl:la≠p:=(aa aj hla).symm
  have hl0:H la=none:=by
   rw[ao npl,ao (Ne.symm nl)] at hla
   exact hla
  refine k _ la (λb o z n=>?_) hl0 ⟨⟨dx,aj⟩,?_⟩
  ·rw[ao n,ao (aa z hl0),ao (aa z hp0),ao n]
   exact z
  ·rw[ao (Ne.symm nl),aj]
   unfold nV
   rw[Int.toNat_natCast,List.map_replicate]
   congr 2
   have:∀n:Nat,(List.replicate n [V.int 0]).flatten=List.replicate n (V.int ((0:Nat):Int)):=by
    intro n
    induction n with
    |zero=>rfl
    |succ n ih=>rw[List.replicate_succ,List.flatten_cons,ih,List.replicate_succ];rfl
   exact this wd
noncomputable def qU(tr:List Nat)(tl:Nat)(lefts:List Nat):List Nat:=lefts.mapIdx λt n=>if t∈tr then tl+1 else n-1
def ul(CT:Addr):Sp:=λvs H Q _=>∃(a la ho:Addr) (lefts tr:List Nat) (tl:Nat),vs=[.ref a,.ref ho]/\TnA CT H a la lefts tl/\H ho=some (.tup (nV tr))/\(∀t∈tr,t<lefts.length)/\lefts.length<=128 /\
 ∀H' la',But a H H'->H la'=none->TnA CT H' a la' (qU tr tl lefts) tl->Q .non H'
theorem JS:aJ ["self","holes","track","left"] ["self","holes"] (aA iu):=sc0
noncomputable def valOf:Stmt->Expr
 |.Assign _ e _=>e
 |_=>.Name "x" ⟨0,0,0,0⟩
theorem blkTk:gM ["self","holes","track","left"] (aA iu) (Fo (valOf ((cY iu).getD 0 (.Pass ⟨0,0,0,0⟩)))) [("left",3)]:=⟨rfl,dk,dk,dk,dk⟩
theorem yJ{f:Addr}{fd:FuncData}(F:Fun K "take_row" "Tones.take_row" iu f fd)(T:KC K mg "Tones" CT fT fV)(hmax:mg "max"=none):aF P w K mg base CX0 1 f fd ["self","holes"] (ul CT):=by
 refine F.ok JS (λvs H Q E h=>?_) (λcdv A outer s H vs Q E hr h=>?_)
 ·obtain⟨a,la,ho,lefts,tr,tl,rfl,_⟩:=h
  rfl
 ·obtain⟨a,la,ho,lefts,tr,tl,rfl,⟨⟨dx,ha⟩,hla⟩,hho,htr,hle,k⟩:=h
  refine⟨_,aq (aU (pv 0) (wC (own:=[("left",3)]) rfl JS.nd (gb (aB (pv 0) rfl)) blkTk (λ_ _ _ _ _=>cF (i:=3) JS.nd rfl (.inl rfl)) (λ_ _ _ _ _=>jH)
    (λ_ _ _ _ _=>bJ (jA rfl) (by rfl) hmax PyProof.Rows.boot_max (ak (bc dW (pv 3) aC) (ak aC au)))) rfl)
   (az (iM PassesOwn.never rfl (pi_tup (pv 1)) (cF (i:=2) JS.nd rfl (.inl rfl)) (az (Hi (bc cV (aB (pv 0) rfl) aC) (Hf (aB (pv 0) rfl) (pv 2) set_list))))),?_⟩
  refine⟨_,rfl,a,CT,dx,_,_,rfl,ha,T.cl,T.no _ dk,rfl,la,rfl,⟨_,SqL.of hla⟩,λD hD=>?_⟩
  refine jE (K:=K) (a:=la) (xs:=nV lefts) (λi H'=>aN H H'/\H' D=some (.lst (nV ((lefts.take i).map (·-1))))) ?_ ?_ ?_ ?_
  ·exact⟨aN.new (.lst []) hD,aj⟩
  ·rintro i H' _ ⟨g,_⟩
   exact SqL.of (g _ _ hla)
  ·rintro i xv H' hx ⟨g,hDl⟩
   unfold nV at hx
   rw[List.getElem?_map] at hx
   obtain⟨n,hn,rfl⟩:=Option.map_eq_some_iff.mp hx
   refine⟨rfl,vG (aM rfl ?_)⟩
   refine⟨_,rfl,_,_,rfl,rfl,_,_,rfl,_,hDl,?_,?_,?_⟩
   ·unfold nV
    rw[List.length_map,List.length_map,List.length_take,sizeLine_eq]
    omega
   ·intro b o z
    rw[ao (aa z hD)]
    exact g _ _ z
   ·rw[aj,List.take_succ,hn]
    unfold nV
    rw[List.map_append,List.map_append]
    have e:(if (0:Int) > (n:Int)-1 then (0:Int) else (n:Int)-1)=((n-1:Nat):Int):=by
     split<;>omega
    show some (HO.lst (_++[V.int (if (0:Int) > (n:Int)-1 then (0:Int) else (n:Int)-1)]))=_
    rw[e]
    rfl
  ·rintro H1 ⟨g1,hD1⟩
   rw[show(nV lefts).length=lefts.length from List.length_map _,List.take_length] at hD1
   refine⟨_,rfl,a,CT,dx,_,rfl,g1 _ _ ha,T.cl,T.no _ dk,(by show 2<1000;decide),?_⟩
   have nDa:D≠a:=(aa ha hD).symm
   have nho:ho≠a:=bI hho ha (by intro y;cases y)
   have nhoD:ho≠D:=aa hho hD
   refine⟨_,rfl,ho,rfl,⟨_,SqT.of (by rw[ao nho];exact g1 _ _ hho)⟩,?_⟩
   refine Iw (K:=K) (xs:=nV tr) (λi σ H'=>(∃v,σ=[some (.ref a),some (.ref ho),v,none])/\But a H H'/\H' a=some (.ins CT dx (tnf tl D))/\H' D=some (.lst (nV (qU (tr.take i) tl lefts)))) ?_ ?_ ?_ ?_
   ·refine⟨⟨none,rfl⟩,λb o z n=>?_,aj,?_⟩
    ·rw[ao n]
     exact g1 _ _ z
    ·rw[ao nDa,hD1,List.take_zero]
     congr 3
     unfold qU
     apply List.ext_getElem?
     intro j
     rw[List.getElem?_map,List.getElem?_mapIdx]
     cases lefts[j]?<;>simp
   ·rintro i σ H' _ ⟨_,b',_,_⟩
    exact SqT.of (b' _ _ hho nho)
   ·rintro i xv σ H' hx ⟨⟨v,rfl⟩,b',ha',hD'⟩
    unfold nV at hx
    rw[List.getElem?_map] at hx
    obtain⟨t,ht,rfl⟩:=Option.map_eq_some_iff.mp hx
    have htl:=htr t (List.mem_of_getElem? ht)
    refine⟨_,rfl,a,CT,dx,_,_,rfl,ha',T.cl,T.no _ dk,rfl,_,_,rfl,rfl,?_⟩
    refine⟨_,rfl,a,CT,dx,_,_,rfl,ha',T.cl,T.no _ dk,rfl,_,rfl,D,_,_,t,rfl,rfl,hD',?_,⟨_,rfl⟩,?_,?_,?_⟩
    ·unfold ixN nV qU
     rw[List.length_map,List.length_mapIdx]
     simp
     omega
    ·intro b o z n
     rw[ao (aa z hD)]
     exact b' _ _ z n
    ·rw[ao (Ne.symm nDa)]
     exact ha'
    ·rw[aj]
     congr 2
     unfold nV qU
     apply List.ext_getElem?
     intro j
     rw[List.getElem?_set,List.getElem?_map,List.getElem?_map,List.getElem?_mapIdx,List.getElem?_mapIdx,List.length_map,List.length_mapIdx,List.take_succ,ht]
     by_cases hj:t=j
     ·subst hj
      rw[if_pos rfl,if_pos htl,List.getElem?_eq_getElem htl]
      simp
     ·rw[if_neg hj]
      cases lefts[j]? with
      |none=>rfl
      |some n =>
       have:j∈tr.take i++(some t).toList↔j∈tr.take i:=by
        simp[Ne.symm hj]
       simp only[Option.map_some]
       by_cases hm:j∈tr.take i
       ·rw[if_pos hm,if_pos (this.mpr hm)]
       ·rw[if_neg hm,if_neg (λz=>hm (this.mp z))]
   ·rintro σ H' ⟨_,b',ha',hD'⟩
    rw[show(nV tr).length=tr.length from List.length_map _,List.take_length] at hD'
    exact k _ D b' hD ⟨⟨dx,ha'⟩,hD'⟩
structure LeftX(lefts:List Nat)(wd x:Nat):Prop where
 len:lefts.length=wd
 bit:∀t n,lefts[t]?=some n->decide (0<n)=Nat.testBit x t
theorem Hz(i x:Nat):soK (i+1) x=soK i x++if Nat.testBit x i=true then [(Sum.inl (i:Int),.bl true)] else []:=by
 unfold soK Rol.Row.tracks Rol.Row.hole
 rw[List.range_succ,List.filter_append,List.map_append]
 congr 1
 rw[List.filter_cons,List.filter_nil]
 split<;>rfl
def j4(CT:Addr):Sp:=λvs H Q _=>∃(a la:Addr) (lefts:List Nat) (tl wd x:Nat),vs=[.ref a]/\TnA CT H a la lefts tl/\LeftX lefts wd x/\wd<=128/\∀H' d,aN H H'->H d=none->H' d=some (.dK (soK wd x))->Q (.ref d) H'
theorem JQ:aJ ["self","tracks","track","left"] ["self"] (aA ir):=sc0
theorem ww{f:Addr}{fd:FuncData}(F:Fun K "sounding" "Tones.sounding" ir f fd)(T:KC K mg "Tones" CT fT fV)(hen:mg "enumerate"=none):aF P w K mg base CX0 1 f fd ["self"] (j4 CT):=by
 refine F.ok JQ (λvs H Q E h=>?_) (λcdv A outer s H vs Q E hr h=>?_)
 ·obtain⟨a,la,lefts,tl,wd,x,rfl,_⟩:=h
  rfl
 ·obtain⟨a,la,lefts,tl,wd,x,rfl,⟨⟨dx,ha⟩,hla⟩,hx,hwd,k⟩:=h
  have hu:=sV hr
  refine⟨_,aq (aP (i:=1) JQ.nd rfl (Or.inl rfl) Hb)
   (aq (iM PassesOwn.never rfl (Jy rfl hen (ak (aB (pv 0) rfl) au)) (lZ rfl (dB (cF (i:=2) JQ.nd rfl (.inl rfl)) (dB (cF (i:=3) JQ.nd rfl (.inl rfl)) jG)))
    (az (cA (bG nO (pv 3) aC (bQ _)) (az (Ae hu (pv 1) (pv 2) lA rfl)) aZ)))
   (az (aO (pv 1)))),?_⟩
  intro d hd
  have g0:aN H (upd H d (.dK [])):=aN.new _ hd
  refine⟨_,rfl,a,CT,dx,_,_,rfl,g0 _ _ ha,T.cl,T.no _ dk,rfl,la,_,rfl,SqL.of (g0 _ _ hla),?_⟩
  refine BR (K:=K) (xs:=nV lefts) (λi σ H'=>aN H H'/\(∃v1 v2,σ=[some (.ref a),some (.ref d),v1,v2])/\H' d=some (.dK (soK i x))) ?_ ?_ ?_ ?_
  ·exact⟨g0,⟨none,none,rfl⟩,aj⟩
  ·rintro i σ H' ⟨g,_,_⟩
   exact SqL.of (g _ _ hla)
  ·rintro i xv σ H' T' hxv ⟨g,⟨v1,v2,rfl⟩,hd'⟩ hT
   unfold nV at hxv
   rw[List.getElem?_map] at hxv
   obtain⟨n,hn,rfl⟩:=Option.map_eq_some_iff.mp hxv
   have hi:i<wd:=by
    rw[←hx.len]
    exact(List.getElem?_eq_some_iff.mp hn).1
   have ndT:d≠T':=aa hd' hT
   have hdT:upd H' T' (.tup [.int (i:Nat),.int (n:Nat)]) d=some (.dK (soK i x)):=by rw[ao ndT];exact hd'
   have gT:aN H (upd H' T' (.tup [.int (i:Nat),.int (n:Nat)])):=g.trans (aN.new _ hT)
   refine⟨T',_,rfl,SqT.of aj,rfl,_,_,rfl,_,_,rfl,rfl,?_⟩
   refine⟨_,rfl,_,_,rfl,rfl,_,rfl,?_⟩
   have hb:=hx.bit i n hn
   rw[Hz,←hb]
   by_cases h0:0<n
   ·rw[if_pos (decide_eq_true h0)]
    refine aM (decide_eq_true (by omega)) ?_
    have hno:dN (soK i x) (.inl (i:Int))=none:=by
     have:=Ar i x i
     rw[decide_eq_false (Nat.lt_irrefl i),Bool.false_and] at this
     exact Option.not_isSome_iff_eq_none.mp (by rw[this];exact Bool.false_ne_true)
    have hlen:(soK i x).length<=128:=by
     unfold soK Rol.Row.tracks
     rw[List.length_map]
     refine Nat.le_trans (List.length_filter_le _ _) ?_
     rw[List.length_range]
     omega
    have hput:putK (soK i x) (.inl (i:Int)) (.bl true)=soK i x++[(Sum.inl (i:Int),.bl true)]:=by
     unfold putK
     rw[if_neg]
     rw[rD,hno]
     exact Bool.false_ne_true
    refine⟨_,rfl,_,rfl,d,_,rfl,vH.k (k:=Sum.inl (i:Int)) hdT (by rw[sizeLine_eq];omega),?_,⟨_,_,rfl⟩,?_⟩
    ·intro b o z
     rw[ao (aa z hd)]
     exact gT _ _ z
    ·rw[aj,hput]
   ·rw[if_neg (by rw[decide_eq_false h0];exact Bool.false_ne_true),List.append_nil]
    exact aV (by rw[decide_eq_false (by omega)];exact Bool.false_ne_true) ⟨gT,⟨_,_,rfl⟩,hdT⟩
  ·rintro σ H' ⟨g,⟨v1,v2,rfl⟩,hd'⟩
   rw[show(nV lefts).length=lefts.length from List.length_map _,hx.len] at hd'
   exact⟨_,rfl,k _ d g hd hd'⟩
end
noncomputable abbrev yR:Stmt:=inClass (top 52) 0
noncomputable abbrev mG:Stmt:=inClass (top 52) 1
noncomputable abbrev vg:Stmt:=inClass (top 52) 2
noncomputable abbrev u6:Stmt:=inClass (top 52) 3
noncomputable abbrev vq:Stmt:=inClass (top 52) 4
noncomputable abbrev uX:Stmt:=inClass (top 52) 5
noncomputable abbrev cR:List Str:=["bar","number","locks","swell"]
noncomputable def sdf(ba:Addr)(k lock swell:Nat):List (Str×V):=[("bar",.ref ba),("number",.int (k:Nat)),("locks",.int (lock:Nat)),("swell",.int (swell:Nat))]
theorem Dk(ba:Addr)(k l sw l':Nat):eY "locks" (.int (l':Nat)) (sdf ba k l sw)=sdf ba k l' sw:=by rfl
theorem tW(ba:Addr)(k l sw s':Nat):eY "swell" (.int (s':Nat)) (sdf ba k l sw)=sdf ba k l s':=by rfl
theorem bitOr8:∀a b:Fin 8,Builtin.bitOr (a.val:Int) (b.val:Int)=((a.val ||| b.val:Nat):Int):=dk
theorem Ek{a b:Nat}(ha:a<8)(hb:b<8):Builtin.bitOr (a:Int) (b:Int)=((a ||| b:Nat):Int):=bitOr8 ⟨a,ha⟩ ⟨b,hb⟩
structure zz(K:PySem.W.Frag)(mg:Str->Option Value)(aW aS:Addr):Prop where
 g4:GI mg "LOCK" 4
 g5:GI mg "CANCEL" 5
 g6:GI mg "UP" 6
 g7:GI mg "DOWN" 7
 g8:GI mg "ACCENT" 8
 mf:GI mg "MOST_FORCE_sides" 127
 tw:uz K mg "LOCK_WEIGHTS" aW [1,2,4]
 ts:uz K mg "SOFT" aS [3,0,0]
section
variable {CB fB CD fD:Addr}
def SdA(CD:Addr)(H:Hp)(a ba:Addr)(k:Nat)(sd:Rol.Side):Prop:=∃dx,H a=some (.ins CD dx (sdf ba k sd.lock sd.swell))
def Bg(CD:Addr):Sp:=λvs H Q _=>∃(r dx ba:Addr) (k:Nat),vs=[.ref r,.ref ba,.int (k:Nat)]/\H r=some (.ins CD dx [])/\Q .non (upd H r (.ins CD dx (sdf ba k 0 0)))
theorem scDI:aJ ["self","bar","number"] ["self","bar","number"] (aA yR):=sc0
theorem Gx{fd:FuncData}(F:Fun K "__init__" "Side.__init__" yR fD fd)(T:KC K mg "Side" CD fD cR):aF P w K mg base CX0 1 fD fd ["self","bar","number"] (Bg CD):=by
 refine F.ok scDI (λvs H Q E h=>?_) (λcdv A outer s H vs Q E hr h=>?_)
 ·obtain⟨r,dx,ba,k,rfl,_⟩:=h
  rfl
 ·obtain⟨r,dx,ba,k,rfl,hr0,kk⟩:=h
  refine⟨_,aq (aU (pv 0) (pv 1) rfl) (aq (aU (pv 0) (pv 2) rfl) (aq (aU (pv 0) aC rfl) (az (aU (pv 0) aC rfl)))),?_⟩
  refine⟨_,rfl,_,rfl,r,CD,dx,_,rfl,hr0,T.cl,T.no _ dk,(by show 0<1000;decide),?_⟩
  refine⟨_,rfl,_,rfl,r,CD,dx,_,rfl,aj,T.cl,T.no _ dk,(by show 1<1000;decide),?_⟩
  rw[cG]
  refine⟨_,rfl,r,CD,dx,_,rfl,aj,T.cl,T.no _ dk,(by show 2<1000;decide),?_⟩
  rw[cG]
  refine⟨_,rfl,r,CD,dx,_,rfl,aj,T.cl,T.no _ dk,(by show 3<1000;decide),?_⟩
  rw[cG]
  exact kk
structure dU(CB CD:Addr)(H:Hp)(a ba d:Addr)(B:d7)(b:Rol.Bar)(k x:Nat)(sd:Rol.Side):Prop where
 me:SdA CD H a ba k sd
 bar:rJ CB H ba B
 bi:eF B b
 so:H d=some (.dK (soK b.wide x))
 l7:sd.lock<=7
 sw:sd.swell<=b.most
theorem dU.grow{H H':Hp}{a ba d:Addr}{B:d7}{b:Rol.Bar}{k x:Nat}{sd:Rol.Side}(h:dU CB CD H a ba d B b k x sd)(g:aN H H'):dU CB CD H' a ba d B b k x sd:=by
 obtain⟨⟨dx,h1⟩,h2,h3,h4,h5,h6⟩:=h
 exact⟨⟨dx,g _ _ h1⟩,h2.grow g,h3,g _ _ h4,h5,h6⟩
theorem rJ.but{H H':Hp}{r ba:Addr}{B:d7}(h:rJ CB H ba B)(b:But r H H')(hr:∃dx fs,H r=some (.ins CD dx fs)/\fs.map (·.1)=cR):rJ CB H' ba B:=by
 obtain⟨dxr,fs,hr,hfs⟩:=hr
 obtain⟨dx,fa,sa,ta,ka,ts,kts,z1,z2,z3,h1,h2,h3,h4,h5,h6,h7⟩:=h.ex
 refine⟨dx,fa,sa,ta,ka,ts,kts,z1,z2,z3,b _ _ h1 ?_,b _ _ h2 ?_,b _ _ h3 ?_,b _ _ h4 ?_,b _ _ h5 ?_,h6.keep λc xs z=>b _ _ z ?_,h7⟩
 ·exact jr (ns:=cC) h1 hr rfl hfs dk
 all_goals exact bI (by assumption) hr (by intro y;cases y)
theorem dU.moved{H H':Hp}{a ba d:Addr}{B:d7}{b:Rol.Bar}{k x:Nat}{sd sd':Rol.Side}(h:dU CB CD H a ba d B b k x sd)(g:But a H H')(h':SdA CD H' a ba k sd')(l7:sd'.lock<=7)(sw:sd'.swell<=b.most):dU CB CD H' a ba d B b k x sd':=by
 obtain⟨⟨dx,h1⟩,h2,h3,h4,h5,h6⟩:=h
 exact⟨h',h2.but g ⟨dx,_,h1,rfl⟩,h3,g _ _ h4 (bI h4 h1 (by intro y;cases y)),l7,sw⟩
def oX(CB CD:Addr):Sp:=λvs H Q _=>∃(a ba d:Addr) (B:d7) (b:Rol.Bar) (k x:Nat) (sd:Rol.Side) (kd:Int) (m:Rol.Means),vs=[.ref a,.int kd,.ref d]/\dU CB CD H a ba d B b k x sd/\dm m=[kd,(k:Int),0]/\∀H',aN H H'->Q (.bl (b.has x m)) H'
theorem scHr:aJ ["self","kind","sounding"] ["self","kind","sounding"] (aA mG):=sc0
theorem Gj{f fH:Addr}{fd fdH:FuncData}(F:Fun K "hears" "Side.hears" mG f fd)(T:KC K mg "Side" CD fD cR)(TB:KC K mg "Bar" CB fB cC)(MH:FM K CB "is_heard" "Bar.is_heard" mD ["self","meaning","sounding"] fH fdH)(GH:aF P w K mg base CX0 1 fH fdH ["self","meaning","sounding"] (oW K CB)):aF P w K mg base CX0 2 f fd ["self","kind","sounding"] (oX CB CD):=by
 refine F.ok scHr (λvs H Q E h=>?_) (λcdv A outer s H vs Q E hr h=>?_)
 ·obtain⟨a,ba,d,B,b,k,x,sd,kd,m,rfl,_⟩:=h
  rfl
 ·obtain⟨a,ba,d,B,b,k,x,sd,kd,m,rfl,S,hm,kk⟩:=h
  obtain⟨dx,ha⟩:=S.me
  obtain⟨dxb,fa,sa,ta,ka,ts,kts,_,_,_,hb1,_⟩:=S.bar.ex
  refine⟨_,az (aO (aQ (aB (pv 0) rfl) TB.cl MH.mt GH hr MH.bd .nil aX (ak (eE (ak (pv 1) (ak (aB (pv 0) rfl) (ak aC au)))) (ak (pv 2) au)))),?_⟩
  refine⟨_,rfl,a,CD,dx,_,_,rfl,ha,T.cl,T.no _ dk,rfl,ba,dxb,_,rfl,hb1,aY (ns:=cC) rfl dk,?_⟩
  refine⟨_,rfl,_,rfl,a,CD,dx,_,_,rfl,ha,T.cl,T.no _ dk,rfl,by show 3<=sizeLine;decide,λt ht=>?_⟩
  have g:aN H (upd H t (.tup [.int kd,.int (k:Nat),.int 0])):=aN.new _ ht
  refine⟨_,rfl,ba,t,d,B,b,m,x,rfl,S.bar.grow g,S.bi,?_,g _ _ S.so,kk _ g⟩
  rw[hm]
  exact SqT.of aj
noncomputable def lkI(b:Rol.Bar)(x k l0 i:Nat):Nat:=(List.range i).foldl (λ(a i:Nat)=>a ||| (if b.has x (.lock i k)=true then 2 ^ i else 0)) l0
theorem gH(b:Rol.Bar)(x k l0 i:Nat):lkI b x k l0 (i+1)=lkI b x k l0 i ||| (if b.has x (.lock i k)=true then 2 ^ i else 0):=by
 unfold lkI
 rw[List.range_succ,List.foldl_append]
 rfl
theorem Cg(b:Rol.Bar)(x k l0:Nat):lkI b x k l0 3=l0 ||| Rol.locksIn b x k:=by
 show _=l0 ||| lkI b x k 0 3
 rw[gH,gH,gH,gH b x k 0,gH b x k 0,gH b x k 0]
 show((l0 ||| _) ||| _) ||| _=l0 ||| (((0 ||| _) ||| _) ||| _)
 rw[Nat.zero_or,Nat.or_assoc,Nat.or_assoc,Nat.or_assoc]
def Az(CB CD:Addr):Sp:=λvs H Q _=>∃(a ba d:Addr) (B:d7) (b:Rol.Bar) (k x:Nat) (sd:Rol.Side),vs=[.ref a,.ref d]/\dU CB CD H a ba d B b k x sd /\
 ∀H',But a H H'->SdA CD H' a ba k ⟨(sd.at_ b x k).lock,sd.swell⟩->Q .non H'
theorem scLo:aJ ["self","sounding","lock","weight"] ["self","sounding"] (aA u6):=sc0
theorem Gn{f fH fR aW aS:Addr}{fd fdH fdR:FuncData}(F:Fun K "change_locks" "Side.change_locks" u6 f fd)(T:KC K mg "Side" CD fD cR)(TB:KC K mg "Bar" CB fB cC)(TS:zz K mg aW aS)(hen:mg "enumerate"=none)(MH:FM K CB "is_heard" "Bar.is_heard" mD ["self","meaning","sounding"] fH fdH)(GH:aF P w K mg base CX0 1 fH fdH ["self","meaning","sounding"] (oW K CB))(MR:FM K CD "hears" "Side.hears" mG ["self","kind","sounding"] fR fdR)(GR:aF P w K mg base CX0 2 fR fdR ["self","kind","sounding"] (oX CB CD)):aF P w K mg base CX0 3 f fd ["self","sounding"] (Az CB CD):=by
 refine F.ok scLo (λvs H Q E h=>?_) (λcdv A outer s H vs Q E hr h=>?_)
 ·obtain⟨a,ba,d,B,b,k,x,sd,rfl,_⟩:=h
  rfl
 ·obtain⟨a,ba,d,B,b,k,x,sd,rfl,S,kk⟩:=h
  obtain⟨t4,m4⟩:=TS.g4
  obtain⟨t5,m5⟩:=TS.g5
  have hr1:bY 1 _:=hr.mono (by decide)
  obtain⟨dx,ha⟩:=S.me
  refine⟨_,aq (cA (cH (aQ (pv 0) T.cl MR.mt GR hr MR.bd .nil aX (ak (aD (v:=.int 5) rfl m5 ⟨t5,rfl⟩) (ak (pv 1) au)))) (az (aU (pv 0) aC rfl)) aZ)
   (az (iM PassesOwn.never rfl (wF rfl hen (ak (aD (v:=.ref aW) rfl TS.tw.mg rfl) au)) (lZ rfl (dB (cF (i:=2) scLo.nd rfl (.inl rfl)) (dB (cF (i:=3) scLo.nd rfl (.inl rfl)) jG)))
    (az (cA (cH (aQ (aB (pv 0) rfl) TB.cl MH.mt GH hr1 MH.bd .nil aX (ak (eE (ak (aD (v:=.int 4) rfl m4 ⟨t4,rfl⟩) (ak (pv 2) (ak (aB (pv 0) rfl) au)))) (ak (pv 1) au))))
     (az (aU (pv 0) (bc op_or (aB (pv 0) rfl) (pv 3)) rfl)) aZ)))),?_⟩
  refine⟨_,rfl,a,dx,_,rfl,ha,aY (ns:=cR) rfl dk,_,rfl,a,ba,d,B,b,k,x,sd,5,.cancel k,rfl,S,rfl,λH1 g1=>⟨_,rfl,?_⟩⟩
  have S1:=S.grow g1
  refine uL (λc=>?yes) (λc=>?no)
  case' yes =>
   refine⟨_,rfl,a,CD,dx,_,rfl,g1 _ _ ha,T.cl,T.no _ dk,(by show 4<1000;decide),?_⟩
   dsimp only
   refine via (F:=λH2=>But a H H2/\dU CB CD H2 a ba d B b k x ⟨if b.has x (.cancel k)=true then 0 else sd.lock,sd.swell⟩) ?_ ?_
   ·have bt:But a H (upd H1 a (.ins CD dx (eY "locks" (.int 0) (sdf ba k sd.lock sd.swell)))):=λb' o z n=>by
     rw[ao n]
     exact g1 _ _ z
    refine⟨bt,S.moved bt ⟨dx,?_⟩ ?_ S.sw⟩
    ·rw[aj,if_pos c]
     rfl
    ·rw[if_pos c]
     exact Nat.zero_le _
  case' no =>
   dsimp only
   refine via (F:=λH2=>But a H H2/\dU CB CD H2 a ba d B b k x ⟨if b.has x (.cancel k)=true then 0 else sd.lock,sd.swell⟩) ?_ ?_
   ·have bt:But a H H1:=λb' o z n=>g1 _ _ z
    refine⟨bt,S.moved bt ⟨dx,?_⟩ ?_ S.sw⟩
    ·rw[if_neg c]
     exact g1 _ _ ha
    ·rw[if_neg c]
     exact S.l7
  all_goals
   clear c
   rintro H2 ⟨b2,S2⟩
   generalize hl0:(if b.has x (.cancel k)=true then 0 else sd.lock)=l0 at S2
   obtain⟨dx2,ha2⟩:=S2.me
   have l07:l0<=7:=S2.l7
   refine⟨aW,_,rfl,TS.tw.at_ _,?_⟩
   refine sO (xs:=[.int 1,.int 2,.int 4]) (λi σ H'=>(∃v1 v2,σ=[some (.ref a),some (.ref d),v1,v2])/\But a H H'/\dU CB CD H' a ba d B b k x ⟨lkI b x k l0 i,sd.swell⟩) ?_ (λ_ _ _ _=>TS.tw.at_ _) ?_ ?_
   ·exact⟨⟨none,none,rfl⟩,b2,S2⟩
   ·rintro i xv σ H' T' hxv ⟨⟨v1,v2,rfl⟩,b',S'⟩ hT
    have hi:i<3:=(List.getElem?_eq_some_iff.mp hxv).1
    have hw:xv=.int ((2 ^ i:Nat):Int):=by
     match i,hi,hxv with
     |0,_,h=>cases h;rfl
     |1,_,h=>cases h;rfl
     |2,_,h=>cases h;rfl
    subst hw
    have gT:aN H' (upd H' T' (.tup [.int (i:Nat),.int ((2 ^ i:Nat):Int)])):=aN.new _ hT
    have ST:=S'.grow gT
    have bT:But a H (upd H' T' (.tup [.int (i:Nat),.int ((2 ^ i:Nat):Int)])):=λb' o z n=>gT _ _ (by first|exact b2 _ _ z n|(rename_i bb;exact bb _ _ z n)|assumption)
    refine⟨T',_,rfl,SqT.of aj,rfl,_,_,rfl,_,_,rfl,rfl,?_⟩
    generalize upd H' T' (.tup [.int (i:Nat),.int ((2 ^ i:Nat):Int)])=H3 at ST bT ⊢
    obtain⟨dx3,ha3⟩:=ST.me
    obtain⟨dxb,fa,sa,ta,ka,ts,kts,_,_,_,hb1,_⟩:=ST.bar.ex
    refine⟨_,rfl,a,CD,dx3,_,_,rfl,ha3,T.cl,T.no _ dk,rfl,ba,dxb,_,rfl,hb1,aY (ns:=cC) rfl dk,?_⟩
    refine⟨_,rfl,_,rfl,a,CD,dx3,_,_,rfl,ha3,T.cl,T.no _ dk,rfl,by show 3<=sizeLine;decide,λt ht=>?_⟩
    have g:aN H3 (upd H3 t (.tup [.int 4,.int (i:Nat),.int (k:Nat)])):=aN.new _ ht
    refine⟨_,rfl,ba,t,d,B,b,.lock i k,x,rfl,ST.bar.grow g,ST.bi,SqT.of aj,g _ _ ST.so,_,rfl,?_⟩
    have S4:=ST.grow g
    have b4:But a H (upd H3 t (.tup [.int 4,.int (i:Nat),.int (k:Nat)])):=λb' o z n=>g _ _ (bT _ _ z n)
    generalize upd H3 t (.tup [.int 4,.int (i:Nat),.int (k:Nat)])=H4 at S4 b4 ⊢
    rw[gH]
    by_cases hc:b.has x (.lock i k)=true
    ·rw[if_pos hc]
     refine aM hc ?_
     obtain⟨dx4,ha4⟩:=S4.me
     have h2i:2 ^ i<=4:=by
      match i,hi with
      |0,_=>decide
      |1,_=>decide
      |2,_=>decide
     have hlk:lkI b x k l0 i<=7:=S4.l7
     refine⟨_,rfl,a,CD,dx4,_,_,rfl,ha4,T.cl,T.no _ dk,rfl,_,rfl,_,_,rfl,rfl,?_⟩
     dsimp only
     rw[Ek (by omega) (by omega)]
     refine⟨_,rfl,a,CD,dx4,_,rfl,ha4,T.cl,T.no _ dk,(by show 4<1000;decide),⟨_,_,rfl⟩,?_,?_⟩
     ·exact b4.trans (But.upd _ _ _)
     ·exact S4.moved (But.upd _ _ _) ⟨dx4,by rw[aj,Dk]⟩ (qb hlk (by omega)) S4.sw
    ·rw[if_neg hc,Nat.or_zero]
     exact aV hc ⟨⟨_,_,rfl⟩,b4,S4⟩
   ·rintro σ H' ⟨⟨v1,v2,rfl⟩,b',S'⟩
    obtain⟨dx',ha'⟩:=S'.me
    refine kk _ b' ⟨dx',?_⟩
    rw[ha']
    show some (HO.ins CD dx' (sdf ba k (lkI b x k l0 3) sd.swell))=_
    rw[Cg,←hl0]
    rfl
end
section
variable {CB fB CD fD:Addr}
def Bj(CB CD:Addr):Sp:=λvs H Q _=>∃(a ba d:Addr) (B:d7) (b:Rol.Bar) (k x:Nat) (sd:Rol.Side),vs=[.ref a,.ref d]/\dU CB CD H a ba d B b k x sd /\
 ∀H',But a H H'->SdA CD H' a ba k ⟨sd.lock,(sd.at_ b x k).swell⟩->Q .non H'
theorem scSw:aJ ["self","sounding","up","down"] ["self","sounding"] (aA vq):=sc0
theorem GJ{f fR aW aS:Addr}{fd fdR:FuncData}(F:Fun K "change_swell" "Side.change_swell" vq f fd)(T:KC K mg "Side" CD fD cR)(TB:KC K mg "Bar" CB fB cC)(TS:zz K mg aW aS)(hmin:mg "min"=none)(hmax:mg "max"=none)(MR:FM K CD "hears" "Side.hears" mG ["self","kind","sounding"] fR fdR)(GR:aF P w K mg base CX0 2 fR fdR ["self","kind","sounding"] (oX CB CD)):aF P w K mg base CX0 3 f fd ["self","sounding"] (Bj CB CD):=by
 refine F.ok scSw (λvs H Q E h=>?_) (λcdv A outer s H vs Q E hr h=>?_)
 ·obtain⟨a,ba,d,B,b,k,x,sd,rfl,_⟩:=h
  rfl
 ·obtain⟨a,ba,d,B,b,k,x,sd,rfl,S,kk⟩:=h
  obtain⟨t6,m6⟩:=TS.g6
  obtain⟨t7,m7⟩:=TS.g7
  obtain⟨dx,ha⟩:=S.me
  refine⟨_,aq (aP (i:=2) scSw.nd rfl (Or.inl rfl) (aQ (pv 0) T.cl MR.mt GR hr MR.bd .nil aX (ak (aD (v:=.int 6) rfl m6 ⟨t6,rfl⟩) (ak (pv 1) au))))
   (aq (aP (i:=3) scSw.nd rfl (Or.inl rfl) (aQ (pv 0) T.cl MR.mt GR hr MR.bd .nil aX (ak (aD (v:=.int 7) rfl m7 ⟨t7,rfl⟩) (ak (pv 1) au))))
   (aq (cA (PW.pt (j0 (cH (pv 2)) (iQ (jw (cH (pv 3))))))
    (az (aU (pv 0) (bJ (jB rfl) (by rfl) hmin PyProof.Rows.boot_min (ak (bc cV (aB (pv 0) rfl) (cz cU (aB (aB (pv 0) rfl) rfl) aC (λ_ _=>rfl))) (ak (cz cU (aB (aB (pv 0) rfl) rfl) aC (λ_ _=>rfl)) au))) rfl)) aZ)
   (az (cA (PW.pt (j0 (cH (pv 3)) (iQ (jw (cH (pv 2))))))
    (az (aU (pv 0) (bJ (jA rfl) (by rfl) hmax PyProof.Rows.boot_max (ak (bc dW (aB (pv 0) rfl) (cz cU (aB (aB (pv 0) rfl) rfl) aC (λ_ _=>rfl))) (ak aC au))) rfl)) aZ)))),?_⟩
  refine⟨_,rfl,a,dx,_,rfl,ha,aY (ns:=cR) rfl dk,_,rfl,a,ba,d,B,b,k,x,sd,6,.up k,rfl,S,rfl,λH1 g1=>?_⟩
  have S1:=S.grow g1
  refine⟨_,rfl,a,dx,_,rfl,g1 _ _ ha,aY (ns:=cR) rfl dk,_,rfl,a,ba,d,B,b,k,x,sd,7,.down k,rfl,S1,rfl,λH2 g2=>?_⟩
  have S2:=S1.grow g2
  have g12:=g1.trans g2
  have ha2:=g12 _ _ ha
  obtain⟨dxb,fa,sa,ta,ka,ts,kts,_,_,_,hb1,hb2,hb3,_⟩:=S2.bar.ex
  have nsa:sa≠a:=bI hb3 ha2 (by intro y;cases y)
  have b12:But a H H2:=λb' o z n=>g12 _ _ z
  rw[S.bi.swell] at hb3
  have hsw:=S.bi.sw
  have hs:=S.sw
  have fin:∀sw':Nat,(sd.at_ b x k).swell=sw'->Q .non (upd H2 a (.ins CD dx (sdf ba k sd.lock sw'))):=λsw' e=>kk _ (b12.trans (But.upd _ _ _)) ⟨dx,by rw[aj,e]⟩
  have fin0:(sd.at_ b x k).swell=sd.swell->Q .non H2:=λe=>kk _ b12 ⟨dx,by rw[ha2,e]⟩
  refine⟨_,rfl,_,rfl,?_⟩
  unfold Rol.Side.at_ at fin fin0
  dsimp only at fin fin0
  cases hu:b.has x (.up k) with
  |true =>
   cases hd:b.has x (.down k) with
   |true =>
    rw[hu,hd] at fin0
    refine aM rfl ⟨_,rfl,_,rfl,?_⟩
    refine aV (by decide) ?_
    refine⟨_,rfl,_,rfl,aM rfl ⟨_,rfl,_,rfl,aV (by decide) (fin0 rfl)⟩⟩
   |false =>
    rw[hu,hd] at fin
    refine aM rfl ⟨_,rfl,_,rfl,?_⟩
    refine aM rfl ?_
    refine⟨_,rfl,a,CD,dx,_,_,rfl,ha2,T.cl,T.no _ dk,rfl,_,rfl,a,CD,dx,_,_,rfl,ha2,T.cl,T.no _ dk,rfl,ba,CB,dxb,_,_,rfl,hb1,TB.cl,TB.no _ dk,rfl,sa,_,_,_,rfl,rfl,SqT.of hb3,bw (j:=1) (v:=.int (b.up:Nat)) rfl,_,_,rfl,rfl,?_⟩
    refine⟨_,rfl,a,CD,dx,_,_,rfl,ha2,T.cl,T.no _ dk,rfl,ba,CB,dxb,_,_,rfl,hb1,TB.cl,TB.no _ dk,rfl,sa,_,_,_,rfl,rfl,SqT.of hb3,bw (j:=0) (v:=.int (b.most:Nat)) rfl,_,_,rfl,?_⟩
    refine⟨_,rfl,a,CD,dx,_,rfl,ha2,T.cl,T.no _ dk,(by show 4<1000;decide),?_⟩
    have e:(if (b.most:Int)<(sd.swell:Int)+(b.up:Int) then (b.most:Int) else (sd.swell:Int)+(b.up:Int))=((min b.most (sd.swell+b.up):Nat):Int):=by
     split<;>omega
    dsimp only
    rw[e,tW]
    refine⟨_,rfl,_,rfl,aV (by decide) ?_⟩
    exact fin _ (if_pos ⟨rfl,rfl⟩)
  |false =>
   cases hd:b.has x (.down k) with
   |true =>
    rw[hu,hd] at fin
    refine aV (by decide) (aV (by decide) ?_)
    refine⟨_,rfl,_,rfl,aM rfl ⟨_,rfl,_,rfl,aM rfl ?_⟩⟩
    refine⟨_,rfl,a,CD,dx,_,_,rfl,ha2,T.cl,T.no _ dk,rfl,_,rfl,a,CD,dx,_,_,rfl,ha2,T.cl,T.no _ dk,rfl,ba,CB,dxb,_,_,rfl,hb1,TB.cl,TB.no _ dk,rfl,sa,_,_,_,rfl,rfl,SqT.of hb3,bw (j:=2) (v:=.int (b.down:Nat)) rfl,_,_,rfl,rfl,_,_,rfl,?_⟩
    refine⟨_,rfl,a,CD,dx,_,rfl,ha2,T.cl,T.no _ dk,(by show 4<1000;decide),?_⟩
    have e:(if (0:Int) > (sd.swell:Int)-(b.down:Int) then (0:Int) else (sd.swell:Int)-(b.down:Int))=((sd.swell-b.down:Nat):Int):=by
     split<;>omega
    dsimp only
    rw[e,tW]
    exact fin _ (by rw[if_neg (by simp),if_pos ⟨rfl,rfl⟩])
   |false =>
    rw[hu,hd] at fin0
    refine aV (by decide) (aV (by decide) ?_)
    refine⟨_,rfl,_,rfl,aV (by decide) (aV (by decide) (fin0 rfl))⟩
def Bf(CB CD:Addr):Sp:=λvs H Q _=>∃(a ba d:Addr) (B:d7) (b:Rol.Bar) (k x:Nat) (sd:Rol.Side),vs=[.ref a,.ref d]/\dU CB CD H a ba d B b k x sd /\
 ∀H',But a H H'->SdA CD H' a ba k (sd.at_ b x k)->Q .non H'
theorem scST:aJ ["self","sounding"] ["self","sounding"] (aA vg):=sc0
theorem Gw{f fL fW:Addr}{fd fdL fdW:FuncData}(F:Fun K "take_row" "Side.take_row" vg f fd)(T:KC K mg "Side" CD fD cR)(ML:FM K CD "change_locks" "Side.change_locks" u6 ["self","sounding"] fL fdL)(GL:aF P w K mg base CX0 3 fL fdL ["self","sounding"] (Az CB CD))(MW:FM K CD "change_swell" "Side.change_swell" vq ["self","sounding"] fW fdW)(GW:aF P w K mg base CX0 3 fW fdW ["self","sounding"] (Bj CB CD)):aF P w K mg base CX0 4 f fd ["self","sounding"] (Bf CB CD):=by
 refine F.ok scST (λvs H Q E h=>?_) (λcdv A outer s H vs Q E hr h=>?_)
 ·obtain⟨a,ba,d,B,b,k,x,sd,rfl,_⟩:=h
  rfl
 ·obtain⟨a,ba,d,B,b,k,x,sd,rfl,S,kk⟩:=h
  obtain⟨dx,ha⟩:=S.me
  refine⟨_,aq (bh (aQ (pv 0) T.cl ML.mt GL hr ML.bd .nil aX (ak (pv 1) au))) (az (bh (aQ (pv 0) T.cl MW.mt GW hr MW.bd .nil aX (ak (pv 1) au)))),?_⟩
  refine⟨_,rfl,a,dx,_,rfl,ha,aY (ns:=cR) rfl dk,_,rfl,a,ba,d,B,b,k,x,sd,rfl,S,λH1 b1 s1=>?_⟩
  have S1:=S.moved b1 s1 (iT b x k S.l7 S.sw).1 S.sw
  obtain⟨dx1,ha1⟩:=s1
  refine⟨_,rfl,a,dx1,_,rfl,ha1,aY (ns:=cR) rfl dk,_,rfl,a,ba,d,B,b,k,x,_,rfl,S1,λH2 b2 s2=>?_⟩
  exact kk _ (b1.trans b2) s2
def Ax(CB CD:Addr):Sp:=λvs H Q _=>∃(a ba d:Addr) (B:d7) (b:Rol.Bar) (k x:Nat) (sd:Rol.Side),vs=[.ref a,.ref d]/\dU CB CD H a ba d B b k x sd /\
 ∀H',aN H H'->Q (.int (Rol.force b x k sd:Nat)) H'
theorem Hu:aJ ["self","sounding","force"] ["self","sounding"] (aA uX):=sc0
theorem Gh{f fH fR aW aS:Addr}{fd fdH fdR:FuncData}(F:Fun K "force_at" "Side.force_at" uX f fd)(T:KC K mg "Side" CD fD cR)(TB:KC K mg "Bar" CB fB cC)(TS:zz K mg aW aS)(hmin:mg "min"=none)(MH:FM K CB "is_heard" "Bar.is_heard" mD ["self","meaning","sounding"] fH fdH)(GH:aF P w K mg base CX0 1 fH fdH ["self","meaning","sounding"] (oW K CB))(MR:FM K CD "hears" "Side.hears" mG ["self","kind","sounding"] fR fdR)(GR:aF P w K mg base CX0 2 fR fdR ["self","kind","sounding"] (oX CB CD)):aF P w K mg base CX0 3 f fd ["self","sounding"] (Ax CB CD):=by
 refine F.ok Hu (λvs H Q E h=>?_) (λcdv A outer s H vs Q E hr h=>?_)
 ·obtain⟨a,ba,d,B,b,k,x,sd,rfl,_⟩:=h
  rfl
 ·obtain⟨a,ba,d,B,b,k,x,sd,rfl,S,kk⟩:=h
  obtain⟨t8,m8⟩:=TS.g8
  obtain⟨tf,mf⟩:=TS.mf
  have hr1:bY 1 _:=hr.mono (by decide)
  obtain⟨dx,ha⟩:=S.me
  obtain⟨dxb,fa,sa,ta,ka,ts,kts,_,_,_,hb1,hb2,hb3,_⟩:=S.bar.ex
  rw[S.bi.force] at hb2
  have hfo:=S.bi.fo
  have hsw:=S.bi.sw
  have hl:=S.l7
  have hs:=S.sw
  refine⟨_,aq (aP (i:=2) Hu.nd rfl (Or.inl rfl) (bc cV (bc cV (cz cU (aB (aB (pv 0) rfl) rfl) aC (λ_ _=>rfl)) (bc fY (cz cU (aB (aB (pv 0) rfl) rfl) aC (λ_ _=>rfl)) (aB (pv 0) rfl))) (bc oE (aB (pv 0) rfl) aC)))
   (aq (cA (cH (aQ (pv 0) T.cl MR.mt GR hr MR.bd .nil aX (ak (aD (v:=.int 8) rfl m8 ⟨t8,rfl⟩) (ak (pv 1) au)))) (az (Hj (i:=2) Hu.nd rfl (Or.inl rfl) (cz cU (aB (aB (pv 0) rfl) rfl) aC (λ_ _=>rfl)) ip_add)) aZ)
   (aq (aP (i:=2) Hu.nd rfl (Or.inl rfl) (bJ (jB rfl) (by rfl) hmin PyProof.Rows.boot_min (ak (pv 2) (ak (aD (v:=.int 127) rfl mf ⟨tf,rfl⟩) au))))
   (aq (cA (cH (aQ (aB (pv 0) rfl) TB.cl MH.mt GH hr1 MH.bd .nil aX (ak (aD (v:=.ref aS) rfl TS.ts.mg rfl) (ak (pv 1) au)))) (az (Hj (i:=2) Hu.nd rfl (Or.inl rfl) (bc oE (pv 2) aC) ip_sub)) aZ)
   (az (aO (pv 2)))))),?_⟩
  refine⟨_,rfl,a,CD,dx,_,_,rfl,ha,T.cl,T.no _ dk,rfl,ba,CB,dxb,_,_,rfl,hb1,TB.cl,TB.no _ dk,rfl,fa,_,_,_,rfl,rfl,SqT.of hb2,bw (j:=0) (v:=.int (b.base:Nat)) rfl,?_⟩
  refine⟨_,rfl,a,CD,dx,_,_,rfl,ha,T.cl,T.no _ dk,rfl,ba,CB,dxb,_,_,rfl,hb1,TB.cl,TB.no _ dk,rfl,fa,_,_,_,rfl,rfl,SqT.of hb2,bw (j:=1) (v:=.int (b.step:Nat)) rfl,?_⟩
  refine⟨_,rfl,a,CD,dx,_,_,rfl,ha,T.cl,T.no _ dk,rfl,_,_,rfl,rfl,.inl ⟨by omega,by omega⟩,_,_,rfl,rfl,?_⟩
  refine⟨_,rfl,a,CD,dx,_,_,rfl,ha,T.cl,T.no _ dk,rfl,_,_,rfl,rfl,⟨by decide,by decide⟩,_,_,rfl,rfl,?_⟩
  have e0:(b.base:Int)+(b.step:Int)*(sd.lock:Int)+(sd.swell:Int) / 8=((b.base+b.step*sd.lock+sd.swell / 8:Nat):Int):=by
   push_cast
   rfl
  dsimp only
  rw[e0]
  generalize hf0:b.base+b.step*sd.lock+sd.swell / 8=f0
  refine⟨_,rfl,a,dx,_,rfl,ha,aY (ns:=cR) rfl dk,_,rfl,a,ba,d,B,b,k,x,sd,8,.accent k,rfl,S,rfl,λH1 g1=>⟨_,rfl,?_⟩⟩
  obtain⟨f1,hf1⟩:∃f1,f1=f0+(if b.has x (.accent k)=true then b.accent else 0):=⟨_,rfl⟩
  refine uL (λc=>?yes) (λc=>?no)
  case' yes =>
   refine⟨_,rfl,_,rfl,a,CD,dx,_,_,rfl,g1 _ _ ha,T.cl,T.no _ dk,rfl,ba,CB,dxb,_,_,rfl,g1 _ _ hb1,TB.cl,TB.no _ dk,rfl,fa,_,_,_,rfl,rfl,SqT.of (g1 _ _ hb2),bw (j:=2) (v:=.int (b.accent:Nat)) rfl,_,_,rfl,rfl,?_⟩
   have ef:(f0:Int)+(b.accent:Int)=((f1:Nat):Int):=by
    rw[hf1,if_pos c]
    push_cast
    rfl
   dsimp only
   rw[ef]
  case' no =>
   have ef:(f0:Int)=((f1:Nat):Int):=by
    rw[hf1,if_neg c]
    rfl
   dsimp only
   rw[ef]
  all_goals
   refine⟨_,rfl,_,_,rfl,?_⟩
   have e1:(if (127:Int)<(f1:Int) then (127:Int) else (f1:Int))=((min 127 f1:Nat):Int):=by
    split<;>omega
   dsimp only
   rw[e1]
   generalize hf2:min 127 f1=f2
   have hh1:H1 ba=_:=g1 _ _ hb1
   refine⟨_,rfl,a,CD,dx,_,_,rfl,g1 _ _ ha,T.cl,T.no _ dk,rfl,ba,dxb,_,rfl,hh1,aY (ns:=cC) rfl dk,_,rfl,ba,aS,d,B,b,.soft,x,rfl,S.bar.grow g1,S.bi,TS.ts.at_ _,g1 _ _ S.so,_,rfl,?_⟩
   have hk:=kk _ g1
   unfold Rol.force at hk
   dsimp only at hk
   rw[hf0,←hf1,hf2] at hk
   refine uL (λc2=>?_) (λc2=>?_)
   ·rw[if_pos c2] at hk
    refine⟨_,rfl,_,rfl,_,_,rfl,rfl,⟨by decide,by decide⟩,_,_,rfl,rfl,_,rfl,?_⟩
    have e2:(f2:Int)-(f2:Int) / 4=((f2-f2 / 4:Nat):Int):=by omega
    dsimp only
    rw[e2]
    exact hk
   ·rw[if_neg c2] at hk
    exact⟨_,rfl,hk⟩
end
end PR
namespace PR
open Rol
noncomputable def d8(fed:List Row)(i t:Nat):Bool:=match fed[i]? with
 |some x=>Nat.testBit x t
 |none=>false
noncomputable def jo(fed:List Row)(g:Nat):Nat->Nat->Nat
 |0,_=>0
 |i+1,t=>if d8 fed i t=true then g+1 else jo fed g i t-1
theorem vZ(fed:List Row)(g t:Nat):∀i k:Nat,k<jo fed g i t↔∃j,j<i/\d8 fed j t=true/\i+k<=g+1+j
 |0,k=>by
  unfold jo
  constructor
  ·intro h;omega
  ·rintro⟨j,h,_⟩;omega
 |i+1,k=>by
  unfold jo
  by_cases h:d8 fed i t=true
  ·rw[if_pos h]
   constructor
   ·intro hk
    exact⟨i,by omega,h,by omega⟩
   ·rintro⟨j,h1,h2,h3⟩
    omega
  ·rw[if_neg h]
   have ih:=vZ fed g t i (k+1)
   constructor
   ·intro hk
    obtain⟨j,h1,h2,h3⟩:=ih.mp (by omega)
    exact⟨j,by omega,h2,by omega⟩
   ·rintro⟨j,h1,h2,h3⟩
    have hj:j≠i:=λe=>h (e▸h2)
    have:=ih.mpr ⟨j,by omega,h2,by omega⟩
    omega
noncomputable def bM(p:Player):List Nat:=(List.range p.bar.wide).map λt=>jo p.fed p.bar.tail p.begun t
noncomputable def Player.nowX(p:Player):Nat:=if p.begun=0 then 0 else p.sounds (p.begun-1)
theorem Ih(fed:List Row)(g i t:Nat):(((fed.take (i+1)).drop (i-g)).any λx=>Nat.testBit x t)=true↔∃j,j<i+1/\d8 fed j t=true/\i+1<=g+1+j:=by
 rw[List.any_eq_true]
 constructor
 ·rintro⟨x,hx,hb⟩
  obtain⟨n,hn⟩:=List.getElem?_of_mem hx
  rw[List.getElem?_drop,List.getElem?_take] at hn
  split at hn
  ·refine⟨i-g+n,by omega,?_,by omega⟩
   unfold d8
   rw[hn]
   exact hb
  ·cases hn
 ·rintro⟨j,h1,h2,h3⟩
  unfold d8 at h2
  cases hf:fed[j]? with
  |none =>
   rw[hf] at h2
   cases h2
  |some x =>
   rw[hf] at h2
   refine⟨x,List.mem_of_getElem? (i:=j-(i-g)) ?_,h2⟩
   rw[List.getElem?_drop,List.getElem?_take,show i-g+(j-(i-g))=j by omega,if_pos h1]
   exact hf
theorem lg(p:Player):LeftX (bM p) p.bar.wide (Player.nowX p):=by
 refine⟨by unfold bM;rw[List.length_map,List.length_range],λt n h=>?_⟩
 unfold bM at h
 rw[List.getElem?_map] at h
 obtain⟨t',ht,e⟩:=Option.map_eq_some_iff.mp h
 obtain⟨h1,h2⟩:=List.getElem?_eq_some_iff.mp ht
 rw[List.getElem_range] at h2
 subst h2
 rw[List.length_range] at h1
 subst e
 unfold Player.nowX
 cases hb:p.begun with
 |zero =>
  rw[if_pos rfl,Nat.zero_testBit]
  rfl
 |succ i =>
  rw[if_neg (Nat.succ_ne_zero i),show i+1-1=i from rfl]
  unfold Player.sounds
  rw[Dl,decide_eq_true h1,Bool.true_and,Bool.eq_iff_iff,decide_eq_true_eq,Ih,vZ]
theorem xZ(p:Player){tr:List Nat}(h:∀t,t<p.bar.wide->(t∈tr↔d8 p.fed p.begun t=true)):qU tr p.bar.tail (bM p)=bM p.begin_:=by
 unfold qU bM
 apply List.ext_getElem?
 intro t
 rw[List.getElem?_mapIdx,List.getElem?_map,List.getElem?_map]
 show _=Option.map (λt=>jo p.fed p.bar.tail (p.begun+1) t) ((List.range p.bar.wide)[t]?)
 by_cases ht:t<p.bar.wide
 ·rw[List.getElem?_range ht]
  show some _=some _
  congr 1
  show(if t∈tr then p.bar.tail+1 else jo p.fed p.bar.tail p.begun t-1)=if d8 p.fed p.begun t=true then p.bar.tail+1 else jo p.fed p.bar.tail p.begun t-1
  by_cases hh:d8 p.fed p.begun t=true
  ·rw[if_pos hh,if_pos ((h t ht).mpr hh)]
  ·rw[if_neg hh,if_neg λz=>hh ((h t ht).mp z)]
 ·rw[List.getElem?_eq_none (by rw[List.length_range];omega)]
  rfl
theorem pM(fed r:List Row)(g t:Nat):∀i:Nat,i<=fed.length->jo (fed++r) g i t=jo fed g i t
 |0,_=>rfl
 |i+1,h=>by
  unfold jo
  rw[pM fed r g t i (by omega)]
  have:d8 (fed++r) i t=d8 fed i t:=by
   unfold d8
   rw[List.getElem?_append_left (by omega)]
  rw[this]
noncomputable def ev5(e:Event):List Int:=[(e.kind:Int),(e.key:Int),(e.force:Int),(e.row:Int),(e.time:Int)]
theorem sI(now was:Bool)(kind i tm:Nat):(evB now was (kind:Int) ((kind+1:Nat):Int)).map (·++[(i:Int),(tm:Int)])=(pedal kind now was i tm).map ev5:=by
 unfold evB pedal
 cases now<;>cases was<;>rfl
theorem Eu(b:Bar)(y x:Nat)(u:State)(i tm:Nat):(evI b y x (force b x 0 u.bass) (force b x 1 u.treble)).map (·++[(i:Int),(tm:Int)])=(eventsAt b x y u i tm).map ev5:=by
 unfold evI eventsAt
 rw[List.map_append,List.map_append,List.map_append,List.map_append,List.map_append,List.map_append,List.map_append,List.map_append,List.append_assoc,List.append_assoc,List.append_assoc]
 have e1:=sI (b.has x .loud) (b.has y .loud) 3 i tm
 have e2:=sI (b.has x .soft) (b.has y .soft) 5 i tm
 have e1:(evB (b.has x .loud) (b.has y .loud) 3 4).map (·++[(i:Int),(tm:Int)])=(pedal 3 (b.has x .loud) (b.has y .loud) i tm).map ev5:=e1
 have e2:(evB (b.has x .soft) (b.has y .soft) 5 6).map (·++[(i:Int),(tm:Int)])=(pedal 5 (b.has x .soft) (b.has y .soft) i tm).map ev5:=e2
 rw[e1,e2]
 congr 1
 ·rw[List.map_map,List.map_map]
  rfl
 congr 2
 congr 1
 ·rw[List.map_map,List.map_map]
  refine List.map_congr_left λk _=>?_
  show[(2:Int),(k:Int),((if b.side k=0 then force b x 0 u.bass else force b x 1 u.treble:Nat):Int),(i:Int),(tm:Int)]=ev5 ⟨2,k,force b x (b.side k) (u.side (b.side k)),i,tm⟩
  unfold ev5
  dsimp only
  have:force b x (b.side k) (u.side (b.side k))=if b.side k=0 then force b x 0 u.bass else force b x 1 u.treble:=by
   unfold Bar.side State.side
   by_cases h:k<b.split
   ·rw[if_pos h]
    rfl
   ·rw[if_neg h]
    rfl
  rw[this]
  rfl
 ·cases hx:b.has x .end_<;>cases hy:b.has y .end_<;>rfl
def iy(l:List Event):Prop:=∀i e,l[i]?=some e->e.kind=7->i+1=l.length
theorem jl:iy []:=λi e h=>by cases h
theorem uF{e:Event}{r:List Event}(h:iy (e::r)):iy r:=λi x hx hk=>by
 have:=h (i+1) x hx hk
 rw[List.length_cons] at this
 omega
theorem uE{l:List Event}(h:∀e∈l,e.kind≠7)(m:List Event)(hm:m.length<=1):iy (l++m):=by
 intro i e he hk
 rw[List.length_append]
 by_cases hi:i<l.length
 ·rw[List.getElem?_append_left hi] at he
  exact absurd hk (h e (List.mem_of_getElem? he))
 ·rw[List.getElem?_append_right (by omega)] at he
  have:=(List.getElem?_eq_some_iff.mp he).1
  omega
theorem pC(b:Bar)(x y:Nat)(u:State)(i tm:Nat):iy (eventsAt b x y u i tm):=by
 unfold eventsAt
 rw[←List.append_assoc,←List.append_assoc,←List.append_assoc]
 refine uE (λe he=>?_) _ ?_
 ·have pd:∀kind now was,kind<=5->∀e∈pedal kind now was i tm,e.kind≠7:=by
   intro kind now was hk e he
   unfold pedal at he
   split at he
   ·rw[List.mem_singleton.mp he]
    show kind≠7
    omega
   ·split at he
    ·rw[List.mem_singleton.mp he]
     show kind+1≠7
     omega
    ·cases he
  rcases List.mem_append.mp he with he|he
  ·rcases List.mem_append.mp he with he|he
   ·rcases List.mem_append.mp he with he|he
    ·obtain⟨k,_,rfl⟩:=List.mem_map.mp he
     show(1:Nat)≠7
     decide
    ·exact pd _ _ _ (by decide) e he
   ·exact pd _ _ _ (by decide) e he
  ·obtain⟨k,_,rfl⟩:=List.mem_map.mp he
   show(2:Nat)≠7
   decide
 ·split
  ·exact Nat.le_refl 1
  ·exact Nat.zero_le 1
structure fu(p:Player):Prop where
 good:Good p
 last:iy p.untold
theorem fu.opened{B:d7}{b:Bar}{s:Spool}(h:eF B b)(hs:s.ok=true):fu (opened b s):=⟨vV h hs,jl⟩
theorem fu.begin_{p:Player}(f:fu p)(h:p.begun<p.rows):fu p.begin_:=⟨f.good.begin_ h,pC _ _ _ _ _ _⟩
theorem fu.tell{p:Player}(f:fu p):fu p.tell:=by
 refine⟨f.good.tell,?_⟩
 have hl:=f.last
 unfold Player.tell
 cases hu:p.untold with
 |nil =>
  show iy p.untold
  rw[hu]
  exact jl
 |cons e r =>
  rw[hu] at hl
  dsimp only
  split
  ·exact jl
  ·exact uF hl
theorem fu.feed{p:Player}(f:fu p){r:List Row}:fu (p.feed r).2:=⟨f.good.feed,by
 have hl:=f.last
 unfold Player.feed
 split
 ·exact hl
 split
 ·exact hl
 split
 ·exact hl
 ·exact hl⟩
theorem fu.lasts{p:Player}(f:fu p):fu p.last.2:=⟨f.good.last,by
 have hl:=f.last
 unfold Player.last
 split
 ·exact hl
 ·exact hl⟩
theorem fu.lever{p:Player}(f:fu p)(t:Nat):fu (p.lever t).2:=⟨f.good.lever t,by
 have hl:=f.last
 unfold Player.lever
 split
 ·exact hl
 ·exact hl⟩
theorem uC{sp:Spool}(so:xG sp){i:Nat}(hi:i<=1000):sp.between i i=0:=by
 unfold Spool.between ceil
 rw[Nat.sub_self]
 have h1:=(uO so hi).1
 have h2:0<sp.next i*sp.next i:=Nat.mul_pos h1 h1
 exact Nat.div_eq_of_lt (by omega)
end PR
namespace PR
open PySem PySem.Spec PyProof.Rows L2
variable {P:Program}{w:World}{K:PySem.W.Frag}{mg:Str->Option Value}{base:Heap}
theorem wL{hi:Int}:∀{r:List Int} {lo:Int},eQ hi lo r->0<=lo->(∀c:Nat,Nat.testBit (bj r) c=decide ((c:Int)∈r))/\(∃q,bj r=2 ^ lo.toNat*q)/\∀t∈r,lo<=t/\t<hi
 |[],lo,_,_=>⟨λc=>by
   show Nat.testBit 0 c=_
   rw[Nat.zero_testBit,decide_eq_false (by simp)],⟨0,rfl⟩,λt ht=>by cases ht⟩
 |t::r,lo,h,h0=>by
  cases h with
  |cons h1 h2 h3 =>
   obtain⟨i1,⟨q,hq⟩,i3⟩:=wL h3 (by omega)
   have et:(t+1).toNat=t.toNat+1:=by omega
   rw[et] at hq
   refine⟨λc=>?_,?_,?_⟩
   ·show Nat.testBit (2 ^ t.toNat+bj r) c=_
    have hlt:2 ^ t.toNat<2 ^ (t.toNat+1):=by
     rw[Nat.pow_succ]
     have:=Nat.two_pow_pos t.toNat
     omega
    rw[Nat.add_comm,hq,Nat.testBit_two_pow_mul_add q hlt c]
    have hr:=i1 c
    rw[hq,show 2 ^ (t.toNat+1)*q=2 ^ (t.toNat+1)*q+0 from rfl,Nat.testBit_two_pow_mul_add q (Nat.two_pow_pos _) c] at hr
    by_cases hc:c<t.toNat+1
    ·rw[if_pos hc,Nat.testBit_two_pow]
     rw[Bool.eq_iff_iff,decide_eq_true_eq,decide_eq_true_eq,List.mem_cons]
     constructor
     ·intro e
      exact .inl (by omega)
     ·rintro(e|e)
      ·omega
      ·have:=(i3 _ e).1
       omega
    ·rw[if_neg hc] at hr ⊢
     rw[hr,Bool.eq_iff_iff,decide_eq_true_eq,decide_eq_true_eq,List.mem_cons]
     constructor
     ·exact .inr
     ·rintro(e|e)
      ·omega
      ·exact e
   ·refine⟨2 ^ (t.toNat-lo.toNat)*(1+2*q),?_⟩
    show 2 ^ t.toNat+bj r=_
    rw[hq,←Nat.mul_assoc,←Nat.pow_add,show lo.toNat+(t.toNat-lo.toNat)=t.toNat by omega,Nat.mul_add,Nat.mul_one,Nat.pow_succ,Nat.mul_assoc]
   ·intro x hx
    rcases List.mem_cons.mp hx with e|e
    ·subst e
     exact⟨h1,h2⟩
    ·have:=i3 x e
     exact⟨by omega,this.2⟩
theorem wM{wd:Nat}{r:List Int}(h:eQ (wd:Int) 0 r):r.map V.int=nV (r.map Int.toNat)/\(∀t∈r.map Int.toNat,t<wd)/\∀t:Nat,t∈r.map Int.toNat↔Nat.testBit (bj r) t=true:=by
 obtain⟨h1,_,h3⟩:=wL h (Int.le_refl 0)
 refine⟨?_,λt ht=>?_,λt=>?_⟩
 ·unfold nV
  rw[List.map_map]
  refine List.map_congr_left λx hx=>?_
  show V.int x=V.int ((x.toNat:Nat):Int)
  rw[Int.toNat_of_nonneg (h3 x hx).1]
 ·obtain⟨x,hx,rfl⟩:=List.mem_map.mp ht
  have:=h3 x hx
  omega
 ·rw[h1 t,decide_eq_true_eq,List.mem_map]
  constructor
  ·rintro⟨x,hx,rfl⟩
   rw[Int.toNat_of_nonneg (h3 x hx).1]
   exact hx
  ·intro hx
   exact⟨_,hx,rfl⟩
theorem JH{wd:Nat}{r:List Int}(h:eQ (wd:Int) 0 r):bj r<2 ^ wd:=by
 apply Nat.lt_pow_two_of_testBit
 intro i hi
 cases hb:Nat.testBit (bj r) i with
 |false=>rfl
 |true =>
  have h2:=(wM h).2
  have:=h2.1 i ((h2.2 i).mpr hb)
  omega
structure j8(H:Hp)(ra:Addr)(fed:List Nat)(wd:Nat):Prop where
 ex:∃ts rs,H ra=some (.lst (ts.map V.ref))/\jg H ts rs/\(∀r∈rs,eQ (wd:Int) 0 r)/\fed=rs.map bj
structure rK(CB:Addr)(H:Hp)(a ta ka:Addr)(B:d7):Prop where
 ex:∃dx fa sa ts kts,H a=some (.ins CB dx (bf (.int B.width) (.int B.split) (.int B.tail) (.ref fa) (.ref sa) (.ref ta) (.ref ka)))/\H fa=some (.tup (B.force.map V.int))/\H sa=some (.tup (B.swell.map V.int))/\H ta=some (.dT (trk B.tracks))/\H ka=some (.lst (ts.map V.ref))/\fK H ts kts/\n6 B.tracks kts
theorem rK.barA{CB:Addr}{H:Hp}{a ta ka:Addr}{B:d7}(h:rK CB H a ta ka B):rJ CB H a B:=by
 obtain⟨dx,fa,sa,ts,kts,h1,h2,h3,h4,h5,h6,h7⟩:=h.ex
 exact⟨dx,fa,sa,ta,ka,ts,kts,rfl,rfl,rfl,h1,h2,h3,h4,h5,h6,h7⟩
theorem rK.keep{CB:Addr}{H H':Hp}{a ta ka:Addr}{B:d7}(h:rK CB H a ta ka B)(k:∀b o,H b=some o->(b=a∨b=ta∨b=ka∨∃xs,o=.tup xs)->H' b=some o):rK CB H' a ta ka B:=by
 obtain⟨dx,fa,sa,ts,kts,h1,h2,h3,h4,h5,h6,h7⟩:=h.ex
 exact⟨dx,fa,sa,ts,kts,k _ _ h1 (.inl rfl),k _ _ h2 (.inr (.inr (.inr ⟨_,rfl⟩))),k _ _ h3 (.inr (.inr (.inr ⟨_,rfl⟩))),k _ _ h4 (.inr (.inl rfl)),k _ _ h5 (.inr (.inr (.inl rfl))),h6.keep λb xs z=>k _ _ z (.inr (.inr (.inr ⟨_,rfl⟩))),h7⟩
structure PAd where
 p:Addr
 ba:Addr
 td:Addr
 ka:Addr
 pa:Addr
 spa:Addr
 ta:Addr
 la:Addr
 sia:Addr
 s0:Addr
 s1:Addr
 ra:Addr
 ua:Addr
noncomputable abbrev PAd.all(A:PAd):List Addr:=[A.ua,A.ra,A.sia,A.s1,A.s0,A.la,A.ta,A.pa,A.spa,A.ka,A.td,A.ba,A.p]
theorem mi{A:PAd}{a:Addr}(i:Nat)(h:A.all[i]?=some a):a∈A.all:=List.mem_of_getElem? h
theorem bZ{l:List Addr}(nd:l.Nodup){i j:Nat}{a b:Addr}(hi:l[i]?=some a)(hj:l[j]?=some b)(h:i≠j):a≠b:=by
 rintro rfl
 obtain⟨h1,e1⟩:=List.getElem?_eq_some_iff.mp hi
 obtain⟨h2,e2⟩:=List.getElem?_eq_some_iff.mp hj
 exact h ((List.getElem_inj nd).mp (e1.trans e2.symm))
structure PCl where
 CP:Addr
 CB:Addr
 CE:Addr
 CL:Addr
 CT:Addr
 CD:Addr
noncomputable abbrev cQ:List Str:=["bar","pace","tones","sides","rows","begun","time","untold","no_more","done"]
noncomputable def plv(ba pa ta sia ra:Addr)(begun time:Nat)(ua:Addr)(nm dn:Bool):List (Str×V):=[("bar",.ref ba),("pace",.ref pa),("tones",.ref ta),("sides",.ref sia),("rows",.ref ra),("begun",.int (begun:Nat)),("time",.int (time:Nat)),("untold",.ref ua),("no_more",.bl nm),("done",.bl dn)]
noncomputable abbrev plf(A:PAd)(pl:Rol.Player):List (Str×V):=plv A.ba A.pa A.ta A.sia A.ra pl.begun pl.time A.ua pl.over pl.done
structure fJ(C:PCl)(A:PAd)(H:Hp)(pl:Rol.Player):Prop where
 obj:∃dx,H A.p=some (.ins C.CP dx (plf A pl))
 bar:∃B,rK C.CB H A.ba A.td A.ka B/\eF B pl.bar
 pace:∃fa,PcA C.CE C.CL H A.pa A.spa fa pl.spool pl.fromRow pl.fromTime
 tn:TnA C.CT H A.ta A.la (bM pl) pl.bar.tail
 sl:H A.sia=some (.lst [.ref A.s0,.ref A.s1])
 sb:SdA C.CD H A.s0 A.ba 0 pl.state.bass
 st:SdA C.CD H A.s1 A.ba 1 pl.state.treble
 rows:j8 H A.ra pl.fed pl.bar.wide
 un:cM H A.ua (pl.untold.map ev5)
 fine:fu pl
theorem PcA.keep{CE CL:Addr}{H H':Hp}{a sa fa:Addr}{sp:Rol.Spool}{fr ft:Nat}(h:PcA CE CL H a sa fa sp fr ft)(k:∀b o,H b=some o->(b=a∨b=sa∨∃xs,o=.tup xs)->H' b=some o):PcA CE CL H' a sa fa sp fr ft:=by
 obtain⟨⟨dx,h1⟩,⟨t0,⟨dxs,h2⟩,h3⟩,h4,h5,h6⟩:=h
 exact⟨⟨dx,k _ _ h1 (.inl rfl)⟩,⟨t0,⟨dxs,k _ _ h2 (.inr (.inl rfl))⟩,h3⟩,k _ _ h4 (.inr (.inr ⟨_,rfl⟩)),h5,h6⟩
theorem TnA.keep{CT:Addr}{H H':Hp}{a la:Addr}{lefts:List Nat}{tl:Nat}(h:TnA CT H a la lefts tl)(k:∀b o,H b=some o->(b=a∨b=la)->H' b=some o):TnA CT H' a la lefts tl:=by
 obtain⟨⟨dx,h1⟩,h2⟩:=h
 exact⟨⟨dx,k _ _ h1 (.inl rfl)⟩,k _ _ h2 (.inr rfl)⟩
theorem j8.keep{H H':Hp}{ra:Addr}{fed:List Nat}{wd:Nat}(h:j8 H ra fed wd)(k:∀b o,H b=some o->(b=ra∨∃xs,o=.tup xs)->H' b=some o):j8 H' ra fed wd:=by
 obtain⟨ts,rs,h1,h2,h3⟩:=h.ex
 exact⟨ts,rs,k _ _ h1 (.inl rfl),h2.keep λb xs z=>k _ _ z (.inr ⟨_,rfl⟩),h3⟩
theorem cM.keep{H H':Hp}{ra:Addr}{rows:List (List Int)}(h:cM H ra rows)(k:∀b o,H b=some o->(b=ra∨∃xs,o=.tup xs)->H' b=some o):cM H' ra rows:=by
 obtain⟨ts,h1,h2⟩:=h.ex
 exact⟨ts,k _ _ h1 (.inl rfl),h2.keep λb xs z=>k _ _ z (.inr ⟨_,rfl⟩)⟩
theorem SdA.keep{CD:Addr}{H H':Hp}{a ba:Addr}{k:Nat}{sd:Rol.Side}(h:SdA CD H a ba k sd)(kk:∀o,H a=some o->H' a=some o):SdA CD H' a ba k sd:=by
 obtain⟨dx,h1⟩:=h
 exact⟨dx,kk _ h1⟩
theorem fJ.stay{C:PCl}{A:PAd}{H H':Hp}{pl:Rol.Player}(h:fJ C A H pl)(k:∀b o,H b=some o->(b∈A.all∨∃xs,o=.tup xs)->H' b=some o):fJ C A H' pl:=by
 obtain⟨⟨dx,h1⟩,⟨B,h2,h2'⟩,⟨fa,h3⟩,h4,h5,h6,h7,h8,h9,h10⟩:=h
 refine⟨⟨dx,k _ _ h1 (.inl (mi 12 rfl))⟩,⟨B,h2.keep λb o z y=>k _ _ z ?_,h2'⟩,⟨fa,h3.keep λb o z y=>k _ _ z ?_⟩,h4.keep λb o z y=>k _ _ z ?_,k _ _ h5 (.inl (mi 2 rfl)),h6.keep λo z=>k _ _ z (.inl (mi 4 rfl)),h7.keep λo z=>k _ _ z (.inl (mi 3 rfl)),h8.keep λb o z y=>k _ _ z ?_,h9.keep λb o z y=>k _ _ z ?_,h10⟩
 ·rcases y with rfl|rfl|rfl|y
  ·exact .inl (mi 11 rfl)
  ·exact .inl (mi 10 rfl)
  ·exact .inl (mi 9 rfl)
  ·exact .inr y
 ·rcases y with rfl|rfl|y
  ·exact .inl (mi 7 rfl)
  ·exact .inl (mi 8 rfl)
  ·exact .inr y
 ·rcases y with rfl|rfl
  ·exact .inl (mi 6 rfl)
  ·exact .inl (mi 5 rfl)
 ·rcases y with rfl|y
  ·exact .inl (mi 1 rfl)
  ·exact .inr y
 ·rcases y with rfl|y
  ·exact .inl (mi 0 rfl)
  ·exact .inr y
theorem fJ.kind{C:PCl}{A:PAd}{H:Hp}{pl:Rol.Player}(h:fJ C A H pl):∀x∈A.all,∃o,H x=some o/\∀xs,o≠.tup xs:=by
 obtain⟨⟨dx,h1⟩,⟨B,h2,h2'⟩,⟨fa,h3⟩,h4,h5,⟨dx6,h6⟩,⟨dx7,h7⟩,h8,h9,h10⟩:=h
 obtain⟨dxb,fa',sa,ts,kts,b1,b2,b3,b4,b5,b6,b7⟩:=h2.ex
 obtain⟨⟨dx3,p1⟩,⟨t0,⟨dxs,p2⟩,_⟩,_⟩:=h3
 obtain⟨⟨dx4,t1⟩,t2⟩:=h4
 obtain⟨ts8,rs8,r1,_⟩:=h8.ex
 obtain⟨ts9,u1,_⟩:=h9.ex
 intro x hx
 simp only[PAd.all,List.mem_cons,List.not_mem_nil,or_false] at hx
 rcases hx with rfl|rfl|rfl|rfl|rfl|rfl|rfl|rfl|rfl|rfl|rfl|rfl|rfl
 all_goals exact⟨_,by assumption,λxs y=>by cases y⟩
theorem fJ.there{C:PCl}{A:PAd}{H:Hp}{pl:Rol.Player}(h:fJ C A H pl):∀x∈A.all,H x≠none:=λx hx z=>by
 obtain⟨o,h1,_⟩:=h.kind x hx
 rw[z] at h1
 cases h1
theorem fJ.tup{C:PCl}{A:PAd}{H:Hp}{pl:Rol.Player}(h:fJ C A H pl){t:Addr}{xs:List V}(ht:H t=some (.tup xs)):t∉A.all:=λhx=>by
 obtain⟨o,h1,h2⟩:=h.kind t hx
 rw[ht] at h1
 cases h1
 exact h2 _ rfl
def Pl(C:PCl):Hp->Addr->Rol.Player->(Addr->Prop)->Prop:=λH p pl fq=>∃A:PAd,A.p=p/\(fq=λx=>x∈A.all)/\A.all.Nodup/\fJ C A H pl
theorem Pl.stays(C:PCl)(H H':Hp)(p:Addr)(pl:Rol.Player)(fq:Addr->Prop)(h:Pl C H p pl fq)(k:∀b o,H b=some o->(fq b∨∃xs,o=.tup xs)->H' b=some o):Pl C H' p pl fq:=by
 obtain⟨A,e,ef,nd,h⟩:=h
 subst ef
 exact⟨A,e,rfl,nd,h.stay k⟩
theorem But.some'{r:Addr}{H H':Hp}(b:But r H H')(hr:H' r≠none):∀x,H x≠none->H' x≠none:=λx hx=>by
 by_cases e:x=r
 ·rw[e]
  exact hr
 ·cases hz:H x with
  |none=>exact absurd hz hx
  |some o =>
   rw[b _ _ hz e]
   exact Option.some_ne_none o
theorem aN.some'{H H':Hp}(g:aN H H'):∀x,H x≠none->H' x≠none:=λx hx=>by
 cases hz:H x with
 |none=>exact absurd hz hx
 |some o =>
  rw[g _ _ hz]
  exact Option.some_ne_none o
structure Mv(H:Hp)(fq:Addr->Prop)(H':Hp)(fq':Addr->Prop):Prop where
 off:∀b o,H b=some o->¬fq b->H' b=some o
 new:∀x,fq' x->fq x∨H x=none
 th:∀x,H x≠none->H' x≠none
theorem Mv.refl(H:Hp)(fq:Addr->Prop):Mv H fq H fq:=⟨λ_ _ h _=>h,λ_ h=>.inl h,λ_ h=>h⟩
theorem Mv.trans{H H1 H2:Hp}{f f1 f2:Addr->Prop}(a:Mv H f H1 f1)(b:Mv H1 f1 H2 f2):Mv H f H2 f2:=by
 refine⟨λc o h n=>b.off _ _ (a.off _ _ h n) λy=>?_,λx hx=>?_,λx hx=>b.th x (a.th x hx)⟩
 ·rcases a.new _ y with z|z
  ·exact n z
  ·rw[z] at h
   cases h
 ·rcases b.new x hx with y|y
  ·exact a.new x y
  ·cases hz:H x with
   |none=>exact .inr rfl
   |some o =>
    left
    apply Classical.byContradiction
    intro n
    rw[a.off _ _ hz n] at y
    cases y
theorem Mv.grow{H H' H2:Hp}{f f2:Addr->Prop}(g:aN H H')(m:Mv H' f H2 f2):Mv H f H2 f2:=⟨λb o h n=>m.off _ _ (g _ _ h) n,λx hx=>(m.new x hx).imp id g.fresh,λx hx=>m.th x (g.some' x hx)⟩
noncomputable abbrev qI:Stmt:=inClass (top 74) 0
abbrev PlT:=Hp->Addr->Rol.Player->(Addr->Prop)->Prop
def uh(Pl:PlT)(SpA:SpT)(CP CB:Addr):Sp:=λvs H Q _=>∃(H0:Hp) (r dx ba sa:Addr) (B:d7) (b:Rol.Bar) (sp:Rol.Spool),vs=[.ref r,.ref ba,.ref sa]/\H r=some (.ins CP dx [])/\aN H0 H/\H0 r=none/\rQ CB H0 H ba B/\eF B b/\SpA H sa sp/\H0 sa=none/\sp.ok=true /\
 ∀H' fq,But r H H'->Pl H' r (Rol.opened b sp) fq->(∀x,fq x->H' x≠none/\H0 x=none)->Q .non H'
structure Laid(H0:Hp)(L:List Addr)(H:Hp):Prop where
 nd:L.Nodup
 th:∀x∈L,H x≠none/\H0 x=none
 g:aN H0 H
theorem Laid.move{H0 H H':Hp}{L:List Addr}(h:Laid H0 L H)(k:∀x,H x≠none->H' x≠none)(g:aN H0 H'):Laid H0 L H':=⟨h.nd,λx hx=>⟨k x (h.th x hx).1,(h.th x hx).2⟩,g⟩
theorem Laid.add{H0 H H':Hp}{L:List Addr}{a:Addr}(h:Laid H0 L H)(ha:H a=none)(ha':H' a≠none)(k:∀x,H x≠none->H' x≠none)(g:aN H0 H'):Laid H0 (a::L) H' :=
 ⟨List.nodup_cons.mpr ⟨λhx=>(h.th a hx).1 ha,h.nd⟩,λx hx=>by
  rcases List.mem_cons.mp hx with rfl|hx
  ·exact⟨ha',h.g.fresh ha⟩
  ·exact⟨k x (h.th x hx).1,(h.th x hx).2⟩,g⟩
section
variable {C:PCl}{fP fB fE fL fT fD:Addr}
theorem scPl:aJ ["self","bar","spool"] ["self","bar","spool"] (aA qI):=sc0
theorem yH{fd fdE fdT fdD:FuncData}(F:Fun K "__init__" "Player.__init__" qI fP fd)(T:KC K mg "Player" C.CP fP cQ)(TB:KC K mg "Bar" C.CB fB cC)(TE:KC K mg "Pace" C.CE fE dR)(bE:Binds K fdE ["self","spool"] [])(GE:aF P w K mg base CX0 4 fE fdE ["self","spool"] (Bb C.CE C.CL))(TT:KC K mg "Tones" C.CT fT fV)(bT:Binds K fdT ["self","width","tail"] [])(GT:aF P w K mg base CX0 1 fT fdT ["self","width","tail"] (xf C.CT))(TD:KC K mg "Side" C.CD fD cR)(bD:Binds K fdD ["self","bar","number"] [])(GD:aF P w K mg base CX0 1 fD fdD ["self","bar","number"] (Bg C.CD)) :
  aF P w K mg base CX0 6 fP fd ["self","bar","spool"] (uh (Pl C) (SpA C.CL) C.CP C.CB):=by
 refine F.ok scPl (λvs H Q E h=>?_) (λcdv A outer s H vs Q E hr h=>?_)
 ·obtain⟨H0,r,dx,ba,sa,B,b,sp,rfl,_⟩:=h
  rfl
 ·obtain⟨H0,r,dx,ba,sa,B,b,sp,rfl,hr0,g0,hr00,hB,hb,hS,hs0,hok,k⟩:=h
  have hr2:bY 2 _:=hr.mono (by decide)
  refine⟨_,aq (aU (pv 0) (pv 1) rfl)
   (aq (aU (pv 0) (dZ TE.mkc GE hr rfl TE.mg bE .nil aX (ak (pv 2) au)) rfl)
   (aq (aU (pv 0) (dZ TT.mkc GT hr2 rfl TT.mg bT .nil aX (ak (aB (pv 1) rfl) (ak (aB (pv 1) rfl) au))) rfl)
   (aq (aU (pv 0) (cD (ak (dZ TD.mkc GD hr2 rfl TD.mg bD .nil aX (ak (pv 1) (ak aC au))) (ak (dZ TD.mkc GD hr2 rfl TD.mg bD .nil aX (ak (pv 1) (ak aC au))) au))) rfl)
   (aq (aU (pv 0) (cD au) rfl)
   (aq (aU (pv 0) aC rfl)
   (aq (aU (pv 0) aC rfl)
   (aq (aU (pv 0) (cD au) rfl)
   (aq (aU (pv 0) lA rfl)
   (az (aU (pv 0) lA rfl)))))))))),?_⟩
  obtain⟨dxb,fa,swa,td,ka,ts,kts,z1,z2,z3,b1,b2,b3,b4,b5,b6,b7⟩:=hB.ex
  obtain⟨dxs,s1⟩:=hS
  have nrb:r≠ba:=jr (ns:=[]) (ms:=cC) hr0 b1 rfl rfl dk
  have nrs:r≠sa:=jr (ns:=[]) (ms:=bV) hr0 s1 rfl rfl dk
  have nbs:ba≠sa:=jr (ns:=cC) (ms:=bV) b1 s1 rfl rfl dk
  have L0:Laid H0 [sa,ka,td,ba,r] H:=by
   refine⟨?_,?_,g0⟩
   ·have e1:sa≠ka:=bI s1 b5 (by intro y;cases y)
    have e2:sa≠td:=bI s1 b4 (by intro y;cases y)
    have e3:ka≠td:=bI b5 b4 (by intro y;cases y)
    have e4:ka≠ba:=bI b5 b1 (by intro y;cases y)
    have e5:ka≠r:=bI b5 hr0 (by intro y;cases y)
    have e6:td≠ba:=bI b4 b1 (by intro y;cases y)
    have e7:td≠r:=bI b4 hr0 (by intro y;cases y)
    simp only[List.nodup_cons,List.mem_cons,List.not_mem_nil,or_false,not_or,not_false_eq_true,List.nodup_nil,and_true]
    exact⟨⟨e1,e2,Ne.symm nbs,Ne.symm nrs⟩,⟨e3,e4,e5⟩,⟨e6,e7⟩,Ne.symm nrb⟩
   ·intro x hx
    simp only[List.mem_cons,List.not_mem_nil,or_false] at hx
    rcases hx with rfl|rfl|rfl|rfl|rfl
    ·exact⟨by rw[s1];exact Option.some_ne_none _,hs0⟩
    ·exact⟨by rw[b5];exact Option.some_ne_none _,z3⟩
    ·exact⟨by rw[b4];exact Option.some_ne_none _,z2⟩
    ·exact⟨by rw[b1];exact Option.some_ne_none _,z1⟩
    ·exact⟨by rw[hr0];exact Option.some_ne_none _,hr00⟩
  have growB:∀{H':Hp},But r H H'->aN H0 H':=λbt c o z=>bt _ _ (g0 _ _ z) (aa z hr00)
  refine⟨_,rfl,_,rfl,r,C.CP,dx,_,rfl,hr0,T.cl,T.no _ dk,(by show 0<1000;decide),?_⟩
  dsimp only
  refine via (F:=λH1=>But r H H1/\H1 r=some (.ins C.CP dx [("bar",.ref ba)])/\Laid H0 [sa,ka,td,ba,r] H1) ?_ ?_
  ·have bt:=But.upd r H (.ins C.CP dx [("bar",.ref ba)])
   exact⟨bt,aj,L0.move (bt.some' (by rw[aj];exact Option.some_ne_none _)) (growB bt)⟩
  rintro H1 ⟨t1,hr1,L1⟩
  refine⟨_,rfl,λpa dxp hpa hdxp hnp=>?_⟩
  have gN:aN H1 (upd (upd H1 dxp (.own pa)) pa (.ins C.CE dxp [])):=λc o z=>by
   rw[ao (aa z hpa),ao (aa z hdxp)]
   exact z
  refine⟨pa,dxp,sa,sp,rfl,aj,⟨dxs,gN _ _ (t1 _ _ s1 (Ne.symm nrs))⟩,hok,λH2 pfa b2' hpc=>⟨rfl,?_⟩⟩
  have npr:pa≠r:=(aa hr1 hpa).symm
  have g2:aN H1 H2:=λc o z=>b2' _ _ (gN _ _ z) (aa z hpa)
  refine⟨_,rfl,r,C.CP,dx,_,rfl,g2 _ _ hr1,T.cl,T.no _ dk,(by show 1<1000;decide),?_⟩
  dsimp only
  have ins_ne:∀{Hx:Hp} {fs:List (Str×V)} {c:Addr} {xs:List V},Hx r=some (.ins C.CP dx fs)->Hx c=some (.tup xs)->c≠r:=λhx hc=>bI hc hx (by intro y;cases y)
  have pcR:∀{Hx Hy:Hp} {fs:List (Str×V)},But r Hx Hy->Hx r=some (.ins C.CP dx fs)->PcA C.CE C.CL Hx pa sa pfa sp 0 0->PcA C.CE C.CL Hy pa sa pfa sp 0 0:=λ{Hx Hy fs} bt hx h=>h.keep λc o z y=>by
   refine bt _ _ z ?_
   rcases y with rfl|rfl|⟨xs,rfl⟩
   ·exact npr
   ·exact Ne.symm nrs
   ·exact ins_ne hx z
  refine via (F:=λH3=>But r H H3/\H3 r=some (.ins C.CP dx [("bar",.ref ba),("pace",.ref pa)])/\Laid H0 [pa,sa,ka,td,ba,r] H3/\PcA C.CE C.CL H3 pa sa pfa sp 0 0) ?_ ?_
  ·have bu:=But.upd r H2 (.ins C.CP dx [("bar",.ref ba),("pace",.ref pa)])
   have bt:But r H (upd H2 r (.ins C.CP dx [("bar",.ref ba),("pace",.ref pa)])):=λc o z n=>bu _ _ (g2 _ _ (t1 _ _ z n)) n
   refine⟨bt,aj,?_,pcR bu (g2 _ _ hr1) hpc⟩
   obtain⟨dxp',hp'⟩:=hpc.obj
   refine L1.add hpa ?_ (λx hx=>bu.some' (by rw[aj];exact Option.some_ne_none _) x (g2.some' x hx)) (growB bt)
   rw[ao npr,hp']
   exact Option.some_ne_none _
  rintro H3 ⟨t3,hr3,L3,pc3⟩
  refine⟨_,rfl,ba,C.CB,dxb,_,_,rfl,t3 _ _ b1 (Ne.symm nrb),TB.cl,TB.no _ dk,rfl,_,rfl,ba,C.CB,dxb,_,_,rfl,t3 _ _ b1 (Ne.symm nrb),TB.cl,TB.no _ dk,rfl,λta dxt hta hdxt hnt=>?_⟩
  have gN3:aN H3 (upd (upd H3 dxt (.own ta)) ta (.ins C.CT dxt [])):=λc o z=>by
   rw[ao (aa z hta),ao (aa z hdxt)]
   exact z
  refine⟨ta,dxt,b.wide,b.tail,by rw[hb.width,hb.tail];rfl,aj,hb.w2,λH4 la b4' hla htn=>⟨rfl,?_⟩⟩
  have ntr:ta≠r:=(aa hr3 hta).symm
  have g4:aN H3 H4:=λc o z=>b4' _ _ (gN3 _ _ z) (aa z hta)
  have hla3:H3 la=none:=gN3.fresh hla
  have nlr:la≠r:=(aa hr3 hla3).symm
  have nlt:la≠ta:=λz=>by
   rw[z,aj] at hla
   cases hla
  refine⟨_,rfl,r,C.CP,dx,_,rfl,g4 _ _ hr3,T.cl,T.no _ dk,(by show 2<1000;decide),?_⟩
  dsimp only
  have tnR:∀{Hx Hy:Hp},But r Hx Hy->TnA C.CT Hx ta la (List.replicate b.wide 0) b.tail->TnA C.CT Hy ta la (List.replicate b.wide 0) b.tail:=λbt h=>h.keep λc o z y=>by
   refine bt _ _ z ?_
   rcases y with rfl|rfl
   ·exact ntr
   ·exact nlr
  refine via (F:=λH5=>But r H H5/\H5 r=some (.ins C.CP dx [("bar",.ref ba),("pace",.ref pa),("tones",.ref ta)])/\Laid H0 [la,ta,pa,sa,ka,td,ba,r] H5/\PcA C.CE C.CL H5 pa sa pfa sp 0 0/\TnA C.CT H5 ta la (List.replicate b.wide 0) b.tail) ?_ ?_
  ·have bu:=But.upd r H4 (.ins C.CP dx [("bar",.ref ba),("pace",.ref pa),("tones",.ref ta)])
   have bt:But r H (upd H4 r (.ins C.CP dx [("bar",.ref ba),("pace",.ref pa),("tones",.ref ta)])):=λc o z n=>bu _ _ (g4 _ _ (t3 _ _ z n)) n
   refine⟨bt,aj,?_,pcR (λc o z n=>bu _ _ (g4 _ _ z) n) hr3 pc3,tnR bu htn⟩
   obtain⟨dxt',ht'⟩:=htn.obj
   have La:Laid H0 (ta::[pa,sa,ka,td,ba,r]) (upd (upd H3 dxt (.own ta)) ta (.ins C.CT dxt [])):=L3.add hta (by rw[aj];exact Option.some_ne_none _) gN3.some' (λc o z=>gN3 _ _ (L3.g _ _ z))
   refine La.add hla ?_ (λx hx=>bu.some' (by rw[aj];exact Option.some_ne_none _) x (b4'.some' (by rw[ht'];exact Option.some_ne_none _) x hx)) (growB bt)
   rw[ao nlr,htn.lst]
   exact Option.some_ne_none _
  rintro H5 ⟨t5,hr5,L5,pc5,tn5⟩
  refine⟨_,rfl,λs0 dx0 hs0 hd0 hn0=>⟨s0,dx0,ba,0,rfl,aj,⟨rfl,?_⟩⟩⟩
  rw[cG]
  have n0r:s0≠r:=(aa hr5 hs0).symm
  have g6:aN H5 (upd (upd H5 dx0 (.own s0)) s0 (.ins C.CD dx0 (sdf ba 0 0 0))):=λc o z=>by
   rw[ao (aa z hs0),ao (aa z hd0)]
   exact z
  have h6s:upd (upd H5 dx0 (.own s0)) s0 (.ins C.CD dx0 (sdf ba 0 0 0)) s0=some (.ins C.CD dx0 (sdf ba 0 0 0)):=aj
  generalize upd (upd H5 dx0 (.own s0)) s0 (.ins C.CD dx0 (sdf ba 0 0 0))=H6 at g6 h6s ⊢
  refine⟨_,rfl,λs1' dx1 hs1 hd1 hn1=>⟨s1',dx1,ba,1,rfl,aj,⟨rfl,?_⟩⟩⟩
  rw[cG]
  have g7:aN H6 (upd (upd H6 dx1 (.own s1')) s1' (.ins C.CD dx1 (sdf ba 1 0 0))):=λc o z=>by
   rw[ao (aa z hs1),ao (aa z hd1)]
   exact z
  have h7s:upd (upd H6 dx1 (.own s1')) s1' (.ins C.CD dx1 (sdf ba 1 0 0)) s1'=some (.ins C.CD dx1 (sdf ba 1 0 0)):=aj
  have L7:Laid H0 [s1',s0,la,ta,pa,sa,ka,td,ba,r] (upd (upd H6 dx1 (.own s1')) s1' (.ins C.CD dx1 (sdf ba 1 0 0))):=by
   have La:Laid H0 (s0::[la,ta,pa,sa,ka,td,ba,r]) H6:=L5.add hs0 (by rw[h6s];exact Option.some_ne_none _) g6.some' (λc o z=>g6 _ _ (L5.g _ _ z))
   exact La.add hs1 (by rw[h7s];exact Option.some_ne_none _) g7.some' (λc o z=>g7 _ _ (La.g _ _ z))
  generalize upd (upd H6 dx1 (.own s1')) s1' (.ins C.CD dx1 (sdf ba 1 0 0))=H7 at g7 h7s L7 ⊢
  refine⟨by show 2<=sizeLine;decide,λsia hsia=>?_⟩
  have g8:aN H7 (upd H7 sia (.lst [.ref s0,.ref s1'])):=aN.new _ hsia
  have g58:aN H5 (upd H7 sia (.lst [.ref s0,.ref s1'])):=(g6.trans g7).trans g8
  refine⟨_,rfl,r,C.CP,dx,_,rfl,g58 _ _ hr5,T.cl,T.no _ dk,(by show 3<1000;decide),?_⟩
  dsimp only
  have n1r:s1'≠r:=(aa (g6 _ _ hr5) hs1).symm
  have nsr:sia≠r:=(aa (g7 _ _ (g6 _ _ hr5)) hsia).symm
  refine via (F:=λH9=>But r H H9/\H9 r=some (.ins C.CP dx [("bar",.ref ba),("pace",.ref pa),("tones",.ref ta),("sides",.ref sia)])/\Laid H0 [sia,s1',s0,la,ta,pa,sa,ka,td,ba,r] H9/\PcA C.CE C.CL H9 pa sa pfa sp 0 0/\TnA C.CT H9 ta la (List.replicate b.wide 0) b.tail /\
   H9 sia=some (.lst [.ref s0,.ref s1'])/\H9 s0=some (.ins C.CD dx0 (sdf ba 0 0 0))/\H9 s1'=some (.ins C.CD dx1 (sdf ba 1 0 0))) ?_ ?_
  ·have bu:=But.upd r (upd H7 sia (.lst [.ref s0,.ref s1'])) (.ins C.CP dx [("bar",.ref ba),("pace",.ref pa),("tones",.ref ta),("sides",.ref sia)])
   have b5':But r H5 (upd (upd H7 sia (.lst [.ref s0,.ref s1'])) r (.ins C.CP dx [("bar",.ref ba),("pace",.ref pa),("tones",.ref ta),("sides",.ref sia)])):=λc o z n=>bu _ _ (g58 _ _ z) n
   have bt:=t5.trans b5'
   refine⟨bt,aj,?_,pcR b5' hr5 pc5,tnR b5' tn5,?_,?_,?_⟩
   ·refine L7.add hsia ?_ (λx hx=>bu.some' (by rw[aj];exact Option.some_ne_none _) x (g8.some' x hx)) (growB bt)
    rw[ao nsr,aj]
    exact Option.some_ne_none _
   ·rw[ao nsr,aj]
   ·exact bu _ _ (g8 _ _ (g7 _ _ h6s)) n0r
   ·exact bu _ _ (g8 _ _ h7s) n1r
  rintro H9 ⟨t9,hr9,L9,pc9,tn9,si9,s09,s19⟩
  refine⟨Nat.zero_le _,λra hra=>?_⟩
  have g10:aN H9 (upd H9 ra (.lst [])):=aN.new _ hra
  have nrr:ra≠r:=(aa hr9 hra).symm
  refine⟨_,rfl,r,C.CP,dx,_,rfl,g10 _ _ hr9,T.cl,T.no _ dk,(by show 4<1000;decide),?_⟩
  refine⟨_,rfl,r,C.CP,dx,_,rfl,aj,T.cl,T.no _ dk,(by show 5<1000;decide),?_⟩
  rw[cG]
  refine⟨_,rfl,r,C.CP,dx,_,rfl,aj,T.cl,T.no _ dk,(by show 6<1000;decide),?_⟩
  rw[cG]
  dsimp only
  refine via (F:=λH11=>But r H9 H11/\H11 r=some (.ins C.CP dx [("bar",.ref ba),("pace",.ref pa),("tones",.ref ta),("sides",.ref sia),("rows",.ref ra),("begun",.int 0),("time",.int 0)])/\Laid H0 [ra,sia,s1',s0,la,ta,pa,sa,ka,td,ba,r] H11/\H11 ra=some (.lst [])) ?_ ?_
  ·have bu:=But.upd r (upd H9 ra (.lst [])) (.ins C.CP dx [("bar",.ref ba),("pace",.ref pa),("tones",.ref ta),("sides",.ref sia),("rows",.ref ra),("begun",.int 0),("time",.int 0)])
   have b9':But r H9 (upd (upd H9 ra (.lst [])) r (.ins C.CP dx [("bar",.ref ba),("pace",.ref pa),("tones",.ref ta),("sides",.ref sia),("rows",.ref ra),("begun",.int 0),("time",.int 0)])):=λc o z n=>bu _ _ (g10 _ _ z) n
   refine⟨b9',by rw[aj];rfl,?_,?_⟩
   ·refine L9.add hra ?_ (λx hx=>bu.some' (by rw[aj];exact Option.some_ne_none _) x (g10.some' x hx)) (growB (t9.trans b9'))
    rw[ao nrr,aj]
    exact Option.some_ne_none _
   ·rw[ao nrr,aj]
  rintro H11 ⟨t11,hr11,L11,ra11⟩
  refine⟨Nat.zero_le _,λua hua=>?_⟩
  have g12:aN H11 (upd H11 ua (.lst [])):=aN.new _ hua
  have nur:ua≠r:=(aa hr11 hua).symm
  refine⟨_,rfl,r,C.CP,dx,_,rfl,g12 _ _ hr11,T.cl,T.no _ dk,(by show 7<1000;decide),?_⟩
  refine⟨_,rfl,r,C.CP,dx,_,rfl,aj,T.cl,T.no _ dk,(by show 8<1000;decide),?_⟩
  rw[cG]
  refine⟨_,rfl,r,C.CP,dx,_,rfl,aj,T.cl,T.no _ dk,(by show 9<1000;decide),?_⟩
  rw[cG]
  obtain⟨A',hA'⟩:∃A':PAd,A'=⟨r,ba,td,ka,pa,sa,ta,la,sia,s0,s1',ra,ua⟩:=⟨_,rfl⟩
  have fin:∀H13:Hp,But r H11 H13->H13 r=some (.ins C.CP dx (plv ba pa ta sia ra 0 0 ua false false))->H13 ua=some (.lst [])->Q .non H13:=by
   intro H13 t13 hr13 ua13
   have b9':=t11.trans t13
   have bt:=t9.trans b9'
   have nua:∀x∈[ra,sia,s1',s0,la,ta,pa,sa,ka,td,ba,r],ua≠x:=λx hx e=>(L11.th x hx).1 (e▸hua)
   have L13:Laid H0 A'.all H13:=by
    subst hA'
    have:=L11.add (H':=H13) hua (by rw[ua13];exact Option.some_ne_none _) (t13.some' (by rw[hr13];exact Option.some_ne_none _)) (growB bt)
    exact this
   refine k _ (λx=>x∈A'.all) bt ⟨A',by rw[hA'],rfl,L13.nd,?_⟩ L13.th
   subst hA'
   refine⟨⟨dx,?_⟩,⟨B,⟨dxb,fa,swa,ts,kts,bt _ _ b1 (Ne.symm nrb),bt _ _ b2 (ins_ne hr0 b2),bt _ _ b3 (ins_ne hr0 b3),bt _ _ b4 (bI b4 hr0 (by intro y;cases y)),bt _ _ b5 (bI b5 hr0 (by intro y;cases y)),b6.keep (λc xs z=>bt _ _ z (ins_ne hr0 z)),b7⟩,hb⟩,⟨pfa,pcR b9' hr9 pc9⟩,?_,b9' _ _ si9 nsr,⟨dx0,b9' _ _ s09 n0r⟩,⟨dx1,b9' _ _ s19 n1r⟩,⟨[],[],t13 _ _ ra11 nrr,.nil,(λx hx=>by cases hx),rfl⟩,⟨[],ua13,.nil⟩,fu.opened hb hok⟩
   ·rw[hr13]
    rfl
   ·have:bM (Rol.opened b sp)=List.replicate b.wide 0:=by
     unfold bM
     show(List.range b.wide).map (λ_=>0)=_
     rw[List.map_const',List.length_range]
    rw[this]
    exact tnR b9' tn9
  refine fin _ ?_ ?_ ?_
  ·intro c o z n
   rw[ao n]
   exact g12 _ _ z
  ·rw[aj]
   rfl
  ·rw[ao nur,aj]
end
noncomputable abbrev lF:Stmt:=inClass (top 74) 2
noncomputable abbrev jK:Stmt:=inClass (top 74) 5
noncomputable abbrev lG:Stmt:=inClass (top 74) 7
noncomputable abbrev uZ:Stmt:=inClass (top 74) 8
noncomputable abbrev vm:Stmt:=inClass (top 74) 10
theorem fJ.obj'{C:PCl}{A:PAd}{H H':Hp}{pl pl':Rol.Player}{dx:Addr}(h:fJ C A H pl)(nd:A.all.Nodup)(b:But A.p H H')(ho:H' A.p=some (.ins C.CP dx (plf A pl')))(e1:pl'.bar=pl.bar)(e2:pl'.spool=pl.spool)(e3:pl'.fed=pl.fed)(e4:pl'.begun=pl.begun)(e5:pl'.untold=pl.untold)(e6:pl'.state=pl.state)(e7:pl'.fromRow=pl.fromRow)(e8:pl'.fromTime=pl.fromTime)(f:fu pl'):fJ C A H' pl':=by
 have hp:∀{t:Addr} {xs:List V},H t=some (.tup xs)->t≠A.p:=λht e=>h.tup ht (e▸mi 12 rfl)
 have np:∀{i:Nat} {a:Addr},A.all[i]?=some a->i≠12->a≠A.p:=λhi hn=>bZ nd hi (j:=12) rfl hn
 obtain⟨_,⟨B,h2,h2'⟩,⟨fa,h3⟩,h4,h5,h6,h7,h8,h9,h10⟩:=h
 have el:bM pl'=bM pl:=by
  unfold bM
  rw[e1,e3,e4]
 have r2:rK C.CB H' A.ba A.td A.ka B:=h2.keep λc o z y=>b _ _ z (by
  rcases y with rfl|rfl|rfl|⟨xs,rfl⟩
  ·exact np (i:=11) rfl (by decide)
  ·exact np (i:=10) rfl (by decide)
  ·exact np (i:=9) rfl (by decide)
  ·exact hp z)
 have r3:PcA C.CE C.CL H' A.pa A.spa fa pl.spool pl.fromRow pl.fromTime:=h3.keep λc o z y=>b _ _ z (by
  rcases y with rfl|rfl|⟨xs,rfl⟩
  ·exact np (i:=7) rfl (by decide)
  ·exact np (i:=8) rfl (by decide)
  ·exact hp z)
 have r4:TnA C.CT H' A.ta A.la (bM pl) pl.bar.tail:=h4.keep λc o z y=>b _ _ z (by
  rcases y with rfl|rfl
  ·exact np (i:=6) rfl (by decide)
  ·exact np (i:=5) rfl (by decide))
 have r8:j8 H' A.ra pl.fed pl.bar.wide:=h8.keep λc o z y=>b _ _ z (by
  rcases y with rfl|⟨xs,rfl⟩
  ·exact np (i:=1) rfl (by decide)
  ·exact hp z)
 have r9:cM H' A.ua (pl.untold.map ev5):=h9.keep λc o z y=>b _ _ z (by
  rcases y with rfl|⟨xs,rfl⟩
  ·exact np (i:=0) rfl (by decide)
  ·exact hp z)
 exact⟨⟨dx,ho⟩,⟨B,r2,by rw[e1];exact h2'⟩,⟨fa,by rw[e2,e7,e8];exact r3⟩,by rw[el,e1];exact r4,b _ _ h5 (np (i:=2) rfl (by decide)),by rw[e6];exact h6.keep λo z=>b _ _ z (np (i:=4) rfl (by decide)),by rw[e6];exact h7.keep λo z=>b _ _ z (np (i:=3) rfl (by decide)),by rw[e3,e1];exact r8,by rw[e5];exact r9,f⟩
theorem cM.no{H:Hp}{l:Addr}{rows:List (List Int)}(h:cM H l rows):∃xs,H l=some (.lst xs)/\xs.length=rows.length:=by
 obtain⟨ts,h1,h2,h3⟩:=h.len
 exact⟨_,h1,by rw[List.length_map,h3]⟩
theorem j8.no{H:Hp}{l:Addr}{fed:List Nat}{wd:Nat}(h:j8 H l fed wd):∃xs,H l=some (.lst xs)/\xs.length=fed.length:=by
 obtain⟨ts,rs,h1,h2,h3,h4⟩:=h.ex
 exact⟨_,h1,by rw[List.length_map,h4,List.length_map,Paired.len' h2]⟩
theorem Good.begun_le{p:Rol.Player}(g:Good p):p.begun<=1000:=by
 have h1:=g.bg
 have h2:=g.rows
 omega
theorem Good.fed_le{p:Rol.Player}(g:Good p)(h:p.over=false):p.begun<=p.fed.length:=by
 have h1:=g.bg
 unfold Rol.Player.rows at h1
 rw[h] at h1
 exact h1
section
variable {C:PCl}{fP fB fE fL fT fD:Addr}
def Bh(C:PCl):Sp:=λvs H Q _=>∃(A:PAd) (pl:Rol.Player),vs=[.ref A.p]/\fJ C A H pl/\Q (.int ((if pl.done=true then 2 else if pl.over=true then 1 else 0:Nat):Int)) H
theorem scSg:aJ ["self"] ["self"] (aA vm):=sc0
theorem Gy{f:Addr}{fd:FuncData}(F:Fun K "stage" "Player.stage" vm f fd)(T:KC K mg "Player" C.CP fP cQ):aF P w K mg base CX0 1 f fd ["self"] (Bh C):=by
 refine F.ok scSg (λvs H Q E h=>?_) (λcdv A outer s H vs Q E hr h=>?_)
 ·obtain⟨A,pl,rfl,_⟩:=h
  rfl
 ·obtain⟨A,pl,rfl,h,k⟩:=h
  obtain⟨dx,h1⟩:=h.obj
  refine⟨_,aq (cA (cH (aB (pv 0) rfl)) (az (aO aC)) aZ) (az (aO (qp (cH (aB (pv 0) rfl)) aC aC))),?_⟩
  refine⟨_,rfl,A.p,C.CP,dx,_,_,rfl,h1,T.cl,T.no _ dk,rfl,_,rfl,?_⟩
  refine uL (λc=>?_) (λc=>?_)
  ·rw[if_pos c] at k
   exact k
  ·rw[if_neg c] at k
   refine⟨_,rfl,A.p,C.CP,dx,_,_,rfl,h1,T.cl,T.no _ dk,rfl,_,rfl,?_⟩
   refine uL (λc2=>?_) (λc2=>?_)
   ·rw[if_pos c2] at k
    exact k
   ·rw[if_neg c2] at k
    exact k
noncomputable def jy(pl:Rol.Player)(er:Nat):Int:=if pl.untold≠[] then 3 else if pl.done=true then 2 else if pl.begun=er then 0 else if pl.begun=pl.fed.length/\pl.over=false then 1 else -1
structure o6(mg:Str->Option Value):Prop where
 len:mg "len"=none
 g0:GI mg "ROWS_BEGUN" 0
 g1:GI mg "ROW_NOT_FED" 1
 g2:GI mg "PLAYER_DONE" 2
 g3:GI mg "EVENTS_UNTOLD" 3
 gm:GI mg "GOES_ON" (-1)
 mw:GI mg "MOST_WAITING" 256
 mf:GI mg "MOST_FED" 512
 mt:GI mg "MOST_TOLD" 512
 dw:GI mg "DONE_WELL" 0
 orr:GI mg "OUT_OF_RANGE_playing" (-1)
 nm:GI mg "NO_MORE_ROWS" (-4)
 ow:GI mg "OTHER_WIDTH" (-5)
 tm:GI mg "TOO_MANY_ROWS" (-10)
 eb:GI mg "END_BEGINS" 7
def qQ(C:PCl):Sp:=λvs H Q _=>∃(A:PAd) (pl:Rol.Player) (er:Nat),vs=[.ref A.p,.int (er:Nat)]/\fJ C A H pl/\Q (.int (jy pl er)) H
theorem scSd:aJ ["self","end_row"] ["self","end_row"] (aA jK):=sc0
theorem wy{f:Addr}{fd:FuncData}(F:Fun K "standing" "Player.standing" jK f fd)(T:KC K mg "Player" C.CP fP cQ)(TS:o6 mg):aF P w K mg base CX0 1 f fd ["self","end_row"] (qQ C):=by
 refine F.ok scSd (λvs H Q E h=>?_) (λcdv A outer s H vs Q E hr h=>?_)
 ·obtain⟨A,pl,er,rfl,_⟩:=h
  rfl
 ·obtain⟨A,pl,er,rfl,h,k⟩:=h
  obtain⟨dx,h1⟩:=h.obj
  obtain⟨xs,hu,lu⟩:=h.un.no
  obtain⟨ys,hra,lr⟩:=h.rows.no
  rw[List.length_map] at lu
  obtain⟨t0,m0⟩:=TS.g0
  obtain⟨t1,m1⟩:=TS.g1
  obtain⟨t2,m2⟩:=TS.g2
  obtain⟨t3,m3⟩:=TS.g3
  obtain⟨tm,mm⟩:=TS.gm
  have len:=TS.len
  refine⟨_,aq (cA (bG nO (bJ bz (by rfl) len PySem.boot_len (ak (aB (pv 0) rfl) au)) aC (bQ _)) (az (aO (aD (v:=.int 3) rfl m3 ⟨t3,rfl⟩))) aZ)
   (aq (cA (cH (aB (pv 0) rfl)) (az (aO (aD (v:=.int 2) rfl m2 ⟨t2,rfl⟩))) aZ)
   (aq (cA (bG gJ (aB (pv 0) rfl) (pv 1) (bQ _)) (az (aO (aD (v:=.int 0) rfl m0 ⟨t0,rfl⟩))) aZ)
   (aq (cA (PW.pt (j0 (bG gJ (aB (pv 0) rfl) (bJ bz (by rfl) len PySem.boot_len (ak (aB (pv 0) rfl) au)) (bQ _)) (iQ (jw (cH (aB (pv 0) rfl)))))) (az (aO (aD (v:=.int 1) rfl m1 ⟨t1,rfl⟩))) aZ)
   (az (aO (aD (v:=.int (-1)) rfl mm ⟨tm,rfl⟩)))))),?_⟩
  unfold jy at k
  refine⟨_,rfl,A.p,C.CP,dx,_,_,rfl,h1,T.cl,T.no _ dk,rfl,A.ua,_,rfl,.inl (SqL.of hu),_,_,rfl,rfl,_,rfl,?_⟩
  by_cases c1:pl.untold≠[]
  ·rw[if_pos c1] at k
   have:0<pl.untold.length:=List.length_pos_iff.mpr c1
   exact aM (decide_eq_true (by omega)) k
  rw[if_neg c1] at k
  have c1:pl.untold=[]:=by simpa using c1
  refine aV (by rw[decide_eq_false (by rw[lu,c1];simp)];exact Bool.false_ne_true) ?_
  refine⟨_,rfl,A.p,C.CP,dx,_,_,rfl,h1,T.cl,T.no _ dk,rfl,_,rfl,?_⟩
  by_cases c2:pl.done=true
  ·rw[if_pos c2] at k
   exact aM c2 k
  rw[if_neg c2] at k
  refine aV c2 ?_
  refine⟨_,rfl,A.p,C.CP,dx,_,_,rfl,h1,T.cl,T.no _ dk,rfl,_,rfl,rfl,_,rfl,?_⟩
  by_cases c3:pl.begun=er
  ·rw[if_pos c3] at k
   exact aM (decide_eq_true (by rw[c3])) k
  rw[if_neg c3] at k
  refine aV (by rw[decide_eq_false (by intro z;injection z with z;omega)];exact Bool.false_ne_true) ?_
  refine⟨_,rfl,A.p,C.CP,dx,_,_,rfl,h1,T.cl,T.no _ dk,rfl,_,rfl,A.p,C.CP,dx,_,_,rfl,h1,T.cl,T.no _ dk,rfl,A.ra,_,rfl,.inl (SqL.of hra),rfl,_,rfl,?_⟩
  by_cases c4:pl.begun=pl.fed.length
  ·refine aM (decide_eq_true (by rw[lr,c4])) ?_
   refine⟨_,rfl,A.p,C.CP,dx,_,_,rfl,h1,T.cl,T.no _ dk,rfl,_,rfl,?_⟩
   cases ho:pl.over with
   |true =>
    rw[if_neg (by rw[ho];simp)] at k
    exact aV (by decide) k
   |false =>
    rw[if_pos ⟨c4,ho⟩] at k
    exact aM rfl k
  ·rw[if_neg (λz=>c4 z.1)] at k
   refine aV (by rw[decide_eq_false (by intro z;injection z with z;omega)];exact Bool.false_ne_true) ?_
   exact aV Bool.false_ne_true k
def uf(C:PCl):Sp:=λvs H Q _=>∃(A:PAd) (pl:Rol.Player) (i:Nat),vs=[.ref A.p,.int (i:Nat)]/\fJ C A H pl /\
 ∀H' t tr,aN H H'->H' t=some (.tup (nV tr))->(∀c∈tr,c<pl.bar.wide)->(∀c,c∈tr↔d8 pl.fed i c=true)->Q (.ref t) H'
theorem scHO:aJ ["self","row"] ["self","row"] (aA lG):=sc0
theorem yD{f:Addr}{fd:FuncData}(F:Fun K "holes_of" "Player.holes_of" lG f fd)(T:KC K mg "Player" C.CP fP cQ)(len:mg "len"=none):aF P w K mg base CX0 1 f fd ["self","row"] (uf C):=by
 refine F.ok scHO (λvs H Q E h=>?_) (λcdv A outer s H vs Q E hr h=>?_)
 ·obtain⟨A,pl,i,rfl,_⟩:=h
  rfl
 ·obtain⟨A,pl,i,rfl,h,k⟩:=h
  obtain⟨dx,h1⟩:=h.obj
  obtain⟨ts,rs,hra,hts,hri,hfe⟩:=h.rows.ex
  have hlt:ts.length=rs.length:=Paired.len' hts
  refine⟨_,az (aO (qp (bG tL (pv 1) (bJ bz (by rfl) len PySem.boot_len (ak (aB (pv 0) rfl) au)) (bQ _)) (cz dg (aB (pv 0) rfl) (pv 1) (λ_ _=>rfl)) (eE au))),?_⟩
  refine⟨_,rfl,_,rfl,A.p,C.CP,dx,_,_,rfl,h1,T.cl,T.no _ dk,rfl,A.ra,_,rfl,.inl (SqL.of hra),_,_,rfl,rfl,_,rfl,?_⟩
  rw[List.length_map]
  by_cases c:i<ts.length
  ·refine aM (decide_eq_true (by omega)) ?_
   obtain⟨t,ht⟩:∃t,ts[i]?=some t:=⟨_,List.getElem?_eq_getElem c⟩
   obtain⟨r,hr',hrt⟩:=gK hts ht
   have hrise:=hri r (List.mem_of_getElem? hr')
   obtain⟨n1,n2,n3⟩:=wM hrise
   refine⟨_,rfl,A.p,C.CP,dx,_,_,rfl,h1,T.cl,T.no _ dk,rfl,_,rfl,A.ra,_,_,_,rfl,rfl,SqL.of hra,bw (j:=i) (v:=.ref t) (by rw[List.getElem?_map,ht];rfl),?_⟩
   refine k _ t (r.map Int.toNat) (aN.refl _) (by rw[←n1];exact hrt) n2 λc'=>?_
   rw[n3]
   unfold d8
   rw[hfe,List.getElem?_map,hr']
   exact Iff.rfl
  ·refine aV (by rw[decide_eq_false (by omega)];exact Bool.false_ne_true) ?_
   refine⟨Nat.zero_le _,λt ht=>k _ t [] (aN.new _ ht) aj (λc' hc'=>by cases hc') λc'=>?_⟩
   unfold d8
   rw[hfe,List.getElem?_eq_none (by rw[List.length_map];omega)]
   simp
def ud(C:PCl):Sp:=λvs H Q _=>∃(p:Addr) (pl:Rol.Player) (fq:Addr->Prop),vs=[.ref p]/\Pl C H p pl fq/\∀H' fq',Mv H fq H' fq'->Pl C H' p pl.last.2 fq'->Q (.int pl.last.1) H'
theorem scEF:aJ ["self"] ["self"] (aA lF):=sc0
theorem Ce{p:Rol.Player}(g:Good p)(h1:p.over=false)(h2:p.done=false):({ p with over:=true }:Rol.Player).done=false:=by
 have h3:=g.fed_le h1
 unfold Rol.Player.done at h2 ⊢
 rw[h1] at h2
 simp only[Bool.false_and,Bool.or_false] at h2
 simp only[h2,Bool.true_and,Bool.false_or,decide_eq_false_iff_not]
 unfold Rol.Player.rows
 simp only[if_true]
 omega
theorem yz{f:Addr}{fd:FuncData}(F:Fun K "end_feeding" "Player.end_feeding" lF f fd)(T:KC K mg "Player" C.CP fP cQ)(TS:o6 mg):aF P w K mg base CX0 1 f fd ["self"] (ud C):=by
 refine F.ok scEF (λvs H Q E h=>?_) (λcdv A outer s H vs Q E hr h=>?_)
 ·obtain⟨p,pl,fq,rfl,_⟩:=h
  rfl
 ·obtain⟨p,pl,fq,rfl,hPl,k⟩:=h
  obtain⟨A',rfl,rfl,nd,h⟩:=hPl
  obtain⟨dx,h1⟩:=h.obj
  obtain⟨t1,m1⟩:=TS.nm
  obtain⟨t2,m2⟩:=TS.dw
  refine⟨_,aq (cA (PW.pt (wJ (cH (aB (pv 0) rfl)) (qx (cH (aB (pv 0) rfl))))) (az (aO (aD (v:=.int (-4)) rfl m1 ⟨t1,rfl⟩))) aZ)
   (aq (aU (pv 0) lA rfl) (az (aO (aD (v:=.int 0) rfl m2 ⟨t2,rfl⟩)))),?_⟩
  have fine':=h.fine.lasts
  unfold Rol.Player.last at k fine'
  refine⟨_,rfl,A'.p,C.CP,dx,_,_,rfl,h1,T.cl,T.no _ dk,rfl,_,rfl,?_⟩
  cases ho:pl.over with
  |true =>
   rw[if_pos (.inl ho)] at k
   exact aM rfl (aM rfl (k _ _ (Mv.refl _ _) ⟨A',rfl,rfl,nd,h⟩))
  |false =>
   refine aV Bool.false_ne_true ?_
   refine⟨_,rfl,A'.p,C.CP,dx,_,_,rfl,h1,T.cl,T.no _ dk,rfl,_,rfl,?_⟩
   cases hd:pl.done with
   |true =>
    rw[if_pos (.inr hd)] at k
    exact aM rfl (k _ _ (Mv.refl _ _) ⟨A',rfl,rfl,nd,h⟩)
   |false =>
    have hn:¬(pl.over=true∨pl.done=true):=by
     rw[ho,hd]
     simp
    rw[if_neg hn] at k fine'
    refine aV Bool.false_ne_true ?_
    refine⟨_,rfl,A'.p,C.CP,dx,_,rfl,h1,T.cl,T.no _ dk,(by show 10<1000;decide),?_⟩
    have bt:=But.upd A'.p H (.ins C.CP dx (plv A'.ba A'.pa A'.ta A'.sia A'.ra pl.begun pl.time A'.ua true pl.done))
    refine k _ (λx=>x∈A'.all) ⟨λc o z n=>bt _ _ z (λe=>n (e▸mi 12 rfl)),λx hx=>.inl hx,bt.some' (by rw[aj];exact Option.some_ne_none _)⟩ ⟨A',rfl,rfl,nd,h.obj' (dx:=dx) nd bt ?_ rfl rfl rfl rfl rfl rfl rfl rfl fine'⟩
    have hd':=Ce h.fine.good ho hd
    have:plf A' { pl with over:=true }=plv A'.ba A'.pa A'.ta A'.sia A'.ra pl.begun pl.time A'.ua true pl.done:=by
     unfold plf
     rw[hd',hd]
     rfl
    rw[aj,this]
    rfl
theorem JZ{p:Rol.Player}(g:Good p):(if p.begun=0 then 0 else p.lastRow)=p.begun-1:=by
 unfold Rol.Player.lastRow
 split<;>omega
theorem yd{p:Rol.Player}(g:Good p){t:Nat}(h:¬(t<1∨60000000<t)):(p.lever t).2.time=p.time:=by
 have hg:=g.lever t
 unfold Rol.Player.lever at hg ⊢
 rw[if_neg h] at hg ⊢
 dsimp only at hg ⊢
 unfold Rol.Player.time
 dsimp only
 by_cases hb:p.begun=0
 ·rw[if_pos hb,if_pos hb]
 ·rw[if_neg hb,if_neg hb]
  unfold Rol.Player.timeOf
  dsimp only
  rw[if_neg hb]
  show p.timeOf p.lastRow+Rol.Spool.between _ p.lastRow p.lastRow=_
  have hl:p.lastRow<=1000:=by
   have:=g.begun_le
   unfold Rol.Player.lastRow
   omega
  rw[uC (yX hg.sp) hl]
  rfl
def Ay(C:PCl):Sp:=λvs H Q _=>∃(p:Addr) (pl:Rol.Player) (fq:Addr->Prop) (t:Nat),vs=[.ref p,.int (t:Nat)]/\Pl C H p pl fq/\∀H' fq',Mv H fq H' fq'->Pl C H' p (pl.lever t).2 fq'->Q (.int (pl.lever t).1) H'
theorem scLe:aJ ["self","turn_time"] ["self","turn_time"] (aA uZ):=sc0
theorem Gm{f fI fC:Addr}{fd fdI fdC:FuncData}(F:Fun K "set_lever" "Player.set_lever" uZ f fd)(T:KC K mg "Player" C.CP fP cQ)(TE:KC K mg "Pace" C.CE fE dR)(TS:o6 mg)(hmax:mg "max"=none)(MI:FG K mg "is_turn_time" oJ ["number"] fI fdI)(GI':aF P w K mg base CX0 1 fI fdI ["number"] wW)(MC:FM K C.CE "change" "Pace.change" u9 ["self","turn_time","row","time"] fC fdC)(GC:aF P w K mg base CX0 4 fC fdC ["self","turn_time","row","time"] (Ba C.CE C.CL)):aF P w K mg base CX0 5 f fd ["self","turn_time"] (Ay C):=by
 refine F.ok scLe (λvs H Q E h=>?_) (λcdv A outer s H vs Q E hr h=>?_)
 ·obtain⟨p,pl,fq,t,rfl,_⟩:=h
  rfl
 ·obtain⟨p,pl,fq,t,rfl,hPl,k⟩:=h
  obtain⟨A',rfl,rfl,nd,h⟩:=hPl
  obtain⟨dx,h1⟩:=h.obj
  obtain⟨t1,m1⟩:=TS.orr
  obtain⟨t2,m2⟩:=TS.dw
  have hr1:bY 1 _:=hr.mono (by decide)
  obtain⟨fa,hpc⟩:=h.pace
  obtain⟨dxp,hp1⟩:=hpc.obj
  refine⟨_,aq (cA (jw (cH (bU GI' hr1 rfl MI.mg MI.fn.kp MI.bd .nil aX (ak (pv 1) au)))) (az (aO (aD (v:=.int (-1)) rfl m1 ⟨t1,rfl⟩))) aZ)
   (aq (bh (aQ (aB (pv 0) rfl) TE.cl MC.mt GC hr MC.bd .nil aX (ak (pv 1) (ak (bJ (jA rfl) (by rfl) hmax PyProof.Rows.boot_max (ak (bc dW (aB (pv 0) rfl) aC) (ak aC au))) (ak (aB (pv 0) rfl) au)))))
   (az (aO (aD (v:=.int 0) rfl m2 ⟨t2,rfl⟩)))),?_⟩
  refine⟨_,rfl,t,rfl,_,rfl,?_⟩
  by_cases c:t<1∨60000000<t
  ·have:(decide (1<=t)&&decide (t<=60000000))=false:=by
    rw[Bool.and_eq_false_iff,decide_eq_false_iff_not,decide_eq_false_iff_not]
    omega
   refine aM (by rw[this];rfl) ?_
   unfold Rol.Player.lever at k
   rw[if_pos c] at k
   exact k _ _ (Mv.refl _ _) ⟨A',rfl,rfl,nd,h⟩
  ·have:(decide (1<=t)&&decide (t<=60000000))=true:=by
    rw[Bool.and_eq_true,decide_eq_true_eq,decide_eq_true_eq]
    omega
   refine aV (by rw[this];decide) ?_
   have hbl:=h.fine.good.begun_le
   have fine':=h.fine.lever t
   have ht':=yd h.fine.good c
   unfold Rol.Player.lever at k fine' ht'
   rw[if_neg c] at k fine' ht'
   rw[JZ h.fine.good] at k fine' ht'
   dsimp only at k fine' ht'
   refine⟨_,rfl,A'.p,C.CP,dx,_,_,rfl,h1,T.cl,T.no _ dk,rfl,A'.pa,dxp,_,rfl,hp1,aY (ns:=dR) rfl dk,_,rfl,_,rfl,A'.p,C.CP,dx,_,_,rfl,h1,T.cl,T.no _ dk,rfl,_,_,rfl,rfl,_,_,rfl,?_⟩
   have em:(if (0:Int) > (pl.begun:Int)-1 then (0:Int) else (pl.begun:Int)-1)=((pl.begun-1:Nat):Int):=by
    split<;>omega
   dsimp only
   rw[em]
   refine⟨_,rfl,A'.p,C.CP,dx,_,_,rfl,h1,T.cl,T.no _ dk,rfl,?_⟩
   refine⟨A'.pa,A'.spa,fa,pl.spool,pl.fromRow,pl.fromTime,t,pl.begun-1,pl.time,rfl,hpc,by omega,by omega,by omega,λH1 fa' b1 hpc'=>?_⟩
   have ht:∀{c:Addr} {xs:List V},H c=some (.tup xs)->c≠A'.pa:=λhc e=>h.tup hc (e▸mi 7 rfl)
   have np:∀{i:Nat} {a:Addr},A'.all[i]?=some a->i≠7->a≠A'.pa:=λhi hn=>bZ nd hi (j:=7) rfl hn
   refine k _ (λx=>x∈A'.all) ⟨λc o z n=>b1 _ _ z (λe=>n (e▸mi 7 rfl)),λx hx=>.inl hx,b1.some' (by obtain⟨dxq,hq⟩:=hpc'.obj;rw[hq];exact Option.some_ne_none _)⟩ ⟨A',rfl,rfl,nd,?_⟩
   obtain⟨_,⟨B,h2,h2'⟩,_,h4,h5,h6,h7,h8,h9,h10⟩:=h
   refine⟨⟨dx,?_⟩,⟨B,h2.keep λc o z y=>b1 _ _ z ?_,h2'⟩,⟨fa',hpc'⟩,h4.keep λc o z y=>b1 _ _ z ?_,b1 _ _ h5 (np (i:=2) rfl (by decide)),h6.keep λo z=>b1 _ _ z (np (i:=4) rfl (by decide)),h7.keep λo z=>b1 _ _ z (np (i:=3) rfl (by decide)),h8.keep λc o z y=>b1 _ _ z ?_,h9.keep λc o z y=>b1 _ _ z ?_,fine'⟩
   ·rw[b1 _ _ h1 (np (i:=12) rfl (by decide))]
    unfold plf
    dsimp only
    rw[ht']
    rfl
   ·rcases y with rfl|rfl|rfl|⟨xs,rfl⟩
    ·exact np (i:=11) rfl (by decide)
    ·exact np (i:=10) rfl (by decide)
    ·exact np (i:=9) rfl (by decide)
    ·exact ht z
   ·rcases y with rfl|rfl
    ·exact np (i:=6) rfl (by decide)
    ·exact np (i:=5) rfl (by decide)
   ·rcases y with rfl|⟨xs,rfl⟩
    ·exact np (i:=1) rfl (by decide)
    ·exact ht z
   ·rcases y with rfl|⟨xs,rfl⟩
    ·exact np (i:=0) rfl (by decide)
    ·exact ht z
end
noncomputable abbrev Aj:Stmt:=inClass (top 74) 1
noncomputable abbrev Am:Stmt:=inClass (top 74) 4
structure Comp(C:PCl)(A:PAd)(I:List Nat)(H:Hp)(pl:Rol.Player):Prop where
 bar:11∉I->10∉I->9∉I->∃B,rK C.CB H A.ba A.td A.ka B/\eF B pl.bar
 pace:7∉I->8∉I->∃fa,PcA C.CE C.CL H A.pa A.spa fa pl.spool pl.fromRow pl.fromTime
 tn:6∉I->5∉I->TnA C.CT H A.ta A.la (bM pl) pl.bar.tail
 sl:2∉I->H A.sia=some (.lst [.ref A.s0,.ref A.s1])
 sb:4∉I->SdA C.CD H A.s0 A.ba 0 pl.state.bass
 st:3∉I->SdA C.CD H A.s1 A.ba 1 pl.state.treble
 rows:1∉I->j8 H A.ra pl.fed pl.bar.wide
 un:0∉I->cM H A.ua (pl.untold.map ev5)
theorem fJ.comp{C:PCl}{A:PAd}{H H':Hp}{pl:Rol.Player}(h:fJ C A H pl)(I:List Nat)(k:∀b o,H b=some o->(∃i,i∉I/\A.all[i]?=some b)∨(∃xs,o=.tup xs)->H' b=some o):Comp C A I H' pl:=by
 obtain⟨_,⟨B,h2,h2'⟩,⟨fa,h3⟩,h4,h5,h6,h7,h8,h9,h10⟩:=h
 refine⟨λn1 n2 n3=>⟨B,h2.keep λc o z y=>k _ _ z ?_,h2'⟩,λn1 n2=>⟨fa,h3.keep λc o z y=>k _ _ z ?_⟩,λn1 n2=>h4.keep λc o z y=>k _ _ z ?_,λn=>k _ _ h5 (.inl ⟨2,n,rfl⟩),λn=>h6.keep λo z=>k _ _ z (.inl ⟨4,n,rfl⟩),λn=>h7.keep λo z=>k _ _ z (.inl ⟨3,n,rfl⟩),λn=>h8.keep λc o z y=>k _ _ z ?_,λn=>h9.keep λc o z y=>k _ _ z ?_⟩
 ·rcases y with rfl|rfl|rfl|y
  ·exact .inl ⟨11,n1,rfl⟩
  ·exact .inl ⟨10,n2,rfl⟩
  ·exact .inl ⟨9,n3,rfl⟩
  ·exact .inr y
 ·rcases y with rfl|rfl|y
  ·exact .inl ⟨7,n1,rfl⟩
  ·exact .inl ⟨8,n2,rfl⟩
  ·exact .inr y
 ·rcases y with rfl|rfl
  ·exact .inl ⟨6,n1,rfl⟩
  ·exact .inl ⟨5,n2,rfl⟩
 ·rcases y with rfl|y
  ·exact .inl ⟨1,n,rfl⟩
  ·exact .inr y
 ·rcases y with rfl|y
  ·exact .inl ⟨0,n,rfl⟩
  ·exact .inr y
noncomputable def mZ(pl:Rol.Player)(wd:Int)(rows:List (List Int)):Int×Rol.Player:=if wd≠(pl.bar.wide:Int) then (-5,pl) else (if (pl.feed (rows.map bj)).1=-2 then -10 else (pl.feed (rows.map bj)).1,(pl.feed (rows.map bj)).2)
section
variable {C:PCl}{fP fB fE fL fT fD CS fS:Addr}
def HD(C:PCl)(CS:Addr):Sp:=λvs H Q _=>∃(p sa:Addr) (pl:Rol.Player) (fq:Addr->Prop) (wd:Int) (rows:List (List Int)),vs=[.ref p,.ref sa]/\Pl C H p pl fq/\zA CS H sa wd rows/\(∀r∈rows,eQ wd 0 r)/\(∀dx ra,H sa=some (.ins CS dx [("width",.int wd),("rows",.ref ra)])->¬fq ra) /\
 ∀H' fq',Mv H fq H' fq'->Pl C H' p (mZ pl wd rows).2 fq'->Q (.int (mZ pl wd rows).1) H'
theorem scFd:aJ ["self","strip","fed"] ["self","strip"] (aA Aj):=sc0
theorem Jh{f:Addr}{fd:FuncData}(F:Fun K "feed" "Player.feed" Aj f fd)(T:KC K mg "Player" C.CP fP cQ)(TB:KC K mg "Bar" C.CB fB cC)(TK:KC K mg "Strip" CS fS ["width","rows"])(TS:o6 mg):aF P w K mg base CX0 1 f fd ["self","strip"] (HD C CS):=by
 refine F.ok scFd (λvs H Q E h=>?_) (λcdv A outer s H vs Q E hr h=>?_)
 ·obtain⟨p,sa,pl,fq,wd,rows,rfl,_⟩:=h
  rfl
 ·obtain⟨p,sa,pl,fq,wd,rows,rfl,hPl,hSt,hri,hnf,k⟩:=h
  obtain⟨A',rfl,rfl,nd,h⟩:=hPl
  obtain⟨dx,h1⟩:=h.obj
  obtain⟨dxs,ra,hs1,hrr⟩:=hSt.ex
  obtain⟨us,hra,hus,lus⟩:=hrr.len
  have hl256:=hSt.le
  obtain⟨ts,rs,hta,hts,hrs,hfe⟩:=h.rows.ex
  have lts:ts.length=rs.length:=Paired.len' hts
  have lfe:pl.fed.length=rs.length:=by rw[hfe,List.length_map]
  obtain⟨B,hBX,hbi⟩:=h.bar
  obtain⟨dxb,bfa,bsa,bts,bkts,hb1,_⟩:=hBX.ex
  obtain⟨t1,m1⟩:=TS.ow
  obtain⟨t2,m2⟩:=TS.nm
  obtain⟨t3,m3⟩:=TS.mw
  obtain⟨t4,m4⟩:=TS.mf
  obtain⟨t5,m5⟩:=TS.tm
  obtain⟨t6,m6⟩:=TS.dw
  have len:=TS.len
  have nra:=hnf _ _ hs1
  refine⟨_,aq (cA (bG G5 (aB (pv 1) rfl) (aB (aB (pv 0) rfl) rfl) (bQ _)) (az (aO (aD (v:=.int (-5)) rfl m1 ⟨t1,rfl⟩))) aZ)
   (aq (cA (PW.pt (wJ (cH (aB (pv 0) rfl)) (qx (cH (aB (pv 0) rfl))))) (az (aO (aD (v:=.int (-4)) rfl m2 ⟨t2,rfl⟩))) aZ)
   (aq (aP (i:=2) scFd.nd rfl (Or.inl rfl) (bc cV (bJ bz (by rfl) len PySem.boot_len (ak (aB (pv 0) rfl) au)) (bJ bz (by rfl) len PySem.boot_len (ak (aB (pv 1) rfl) au))))
   (aq (cA (PW.pt (wJ (bG nO (bc dW (pv 2) (aB (pv 0) rfl)) (aD (v:=.int 256) rfl m3 ⟨t3,rfl⟩) (bQ _)) (qx (bG nO (pv 2) (aD (v:=.int 512) rfl m4 ⟨t4,rfl⟩) (bQ _))))) (az (aO (aD (v:=.int (-10)) rfl m5 ⟨t5,rfl⟩))) aZ)
   (aq (bh (f9 PySem.F.plainAttrs_list PySem.F.slot_list_extend PySem.F.type_list_extend eO (aB (pv 0) rfl) (ak (aB (pv 1) rfl) au)))
   (az (aO (aD (v:=.int 0) rfl m6 ⟨t6,rfl⟩))))))),?_⟩
  have same:=k _ _ (Mv.refl H _)
  unfold mZ at k same
  refine⟨_,rfl,sa,CS,dxs,_,_,rfl,hs1,TK.cl,TK.no _ dk,rfl,_,rfl,A'.p,C.CP,dx,_,_,rfl,h1,T.cl,T.no _ dk,rfl,A'.ba,C.CB,dxb,_,_,rfl,hb1,TB.cl,TB.no _ dk,rfl,rfl,_,rfl,?_⟩
  rw[hbi.width]
  by_cases c1:wd=(pl.bar.wide:Int)
  ·have c1n:¬wd≠(pl.bar.wide:Int):=λz=>z c1
   rw[if_neg c1n] at k same
   refine aV (by rw[c1];simp) ?_
   unfold Rol.Player.feed at k same
   refine⟨_,rfl,A'.p,C.CP,dx,_,_,rfl,h1,T.cl,T.no _ dk,rfl,_,rfl,?_⟩
   cases ho:pl.over with
   |true =>
    rw[if_pos (show pl.over=true∨pl.done=true from .inl ho)] at same
    exact aM rfl (aM rfl (same ⟨A',rfl,rfl,nd,h⟩))
   |false =>
    refine aV Bool.false_ne_true ?_
    refine⟨_,rfl,A'.p,C.CP,dx,_,_,rfl,h1,T.cl,T.no _ dk,rfl,_,rfl,?_⟩
    cases hd:pl.done with
    |true =>
     rw[if_pos (show pl.over=true∨pl.done=true from .inr hd)] at same
     exact aM rfl (same ⟨A',rfl,rfl,nd,h⟩)
    |false =>
     have hn:¬(pl.over=true∨pl.done=true):=by
      rw[ho,hd]
      simp
     have hall:¬(((rows.map bj).all λ(x:Rol.Row)=>decide (x<2 ^ pl.bar.wide))=false):=by
      rw[Bool.not_eq_false,List.all_eq_true]
      intro x hx
      obtain⟨r,hr',rfl⟩:=List.mem_map.mp hx
      have:=hri r hr'
      rw[c1] at this
      exact decide_eq_true (JH this)
     rw[if_neg hn,if_neg hall] at k same
     have hbf:=h.fine.good.fed_le ho
     have hfl:=h.fine.good.fl
     refine aV Bool.false_ne_true ?_
     refine⟨_,rfl,A'.p,C.CP,dx,_,_,rfl,h1,T.cl,T.no _ dk,rfl,A'.ra,_,rfl,.inl (SqL.of hta),_,rfl,sa,CS,dxs,_,_,rfl,hs1,TK.cl,TK.no _ dk,rfl,ra,_,rfl,.inl (SqL.of hra),_,_,rfl,rfl,?_⟩
     refine⟨_,rfl,_,rfl,A'.p,C.CP,dx,_,_,rfl,h1,T.cl,T.no _ dk,rfl,_,_,rfl,rfl,_,_,rfl,rfl,_,rfl,?_⟩
     have le1:(ts.map V.ref).length=ts.length:=List.length_map _
     have le2:(us.map V.ref).length=us.length:=List.length_map _
     rw[List.length_map] at k same
     by_cases c2:256<pl.fed.length-pl.begun+rows.length
     ·rw[if_pos (show 256<pl.fed.length-pl.begun+rows.length∨512<pl.fed.length+rows.length from .inl c2)] at same
      refine aM (decide_eq_true (by omega)) (aM rfl ?_)
      exact same ⟨A',rfl,rfl,nd,h⟩
     ·refine aV (by rw[decide_eq_false (by omega)];exact Bool.false_ne_true) ?_
      refine⟨_,rfl,_,_,rfl,rfl,_,rfl,?_⟩
      by_cases c3:512<pl.fed.length+rows.length
      ·rw[if_pos (show 256<pl.fed.length-pl.begun+rows.length∨512<pl.fed.length+rows.length from .inr c3)] at same
       refine aM (decide_eq_true (by omega)) ?_
       exact same ⟨A',rfl,rfl,nd,h⟩
      ·have hn2:¬(256<pl.fed.length-pl.begun+rows.length∨512<pl.fed.length+rows.length):=by omega
       rw[if_neg hn2] at k
       refine aV (by rw[decide_eq_false (by omega)];exact Bool.false_ne_true) ?_
       refine⟨_,rfl,A'.p,C.CP,dx,_,_,rfl,h1,T.cl,T.no _ dk,rfl,.inl ⟨rfl,_,SqL.of hta⟩,_,rfl,sa,CS,dxs,_,_,rfl,hs1,TK.cl,TK.no _ dk,rfl,A'.ra,ra,_,_,rfl,rfl,hta,hra,by rw[List.length_map,List.length_map,sizeLine_eq];omega,?_⟩
       have np:∀{i:Nat} {a:Addr},A'.all[i]?=some a->i≠1->a≠A'.ra:=λhi hn=>bZ nd hi (j:=1) rfl hn
       have bt:=But.upd A'.ra H (.lst (ts.map V.ref++us.map V.ref))
       have fine':fu { pl with fed:=pl.fed++rows.map bj }:=by
        have:=h.fine.feed (r:=rows.map bj)
        unfold Rol.Player.feed at this
        rw[if_neg hn,if_neg hall,List.length_map,if_neg hn2] at this
        exact this
       have cp:=h.comp (H':=upd H A'.ra (.lst (ts.map V.ref++us.map V.ref))) [1] λb o z y=>bt _ _ z (by
        rcases y with ⟨i,hi,ha⟩|⟨xs,rfl⟩
        ·exact np ha (by simpa using hi)
        ·exact λe=>h.tup z (e▸mi 1 rfl))
       refine k _ (λx=>x∈A'.all) ⟨λc o z n=>bt _ _ z (λe=>n (e▸mi 1 rfl)),λx hx=>.inl hx,bt.some' (by rw[aj];exact Option.some_ne_none _)⟩ ⟨A',rfl,rfl,nd,⟨dx,?_⟩,cp.bar (by decide) (by decide) (by decide),cp.pace (by decide) (by decide),?_,cp.sl (by decide),cp.sb (by decide),cp.st (by decide),?_,cp.un (by decide),fine'⟩
       ·rw[bt _ _ h1 (np (i:=12) rfl (by decide))]
        have:({ pl with fed:=pl.fed++rows.map bj }:Rol.Player).done=pl.done:=by
         unfold Rol.Player.done
         dsimp only
         rw[ho,Bool.false_and,Bool.false_and]
        unfold plf
        rw[this]
        rfl
       ·have:bM { pl with fed:=pl.fed++rows.map bj }=bM pl:=by
         unfold bM
         exact List.map_congr_left λt _=>pM _ _ _ _ _ hbf
        rw[this]
        exact cp.tn (by decide) (by decide)
       ·obtain⟨ts2,q1,q2⟩:=(qz hta hts hus).ex
        refine⟨ts2,rs++rows,q1,q2,?_,?_⟩
        ·intro r hr'
         rcases List.mem_append.mp hr' with y|y
         ·exact hrs r y
         ·have:=hri r y
          rw[c1] at this
          exact this
        ·rw[List.map_append,←hfe]
  ·rw[if_pos c1] at same
   refine aM (by simpa using c1) ?_
   exact same ⟨A',rfl,rfl,nd,h⟩
end
noncomputable def bK:Nat->Rol.Player->Rol.Player
 |0,p=>p
 |n+1,p=>(bK n p).tell
theorem fu.tells{p:Rol.Player}(f:fu p):∀n,fu (bK n p)
 |0=>f
 |n+1=>(f.tells n).tell
theorem nQ{p:Rol.Player}(f:fu p):p.tell.untold=p.untold.tail:=by
 have hl:=f.last
 unfold Rol.Player.tell
 cases hu:p.untold with
 |nil=>exact hu
 |cons e r =>
  dsimp only
  rw[hu] at hl
  split
  ·rename_i h
   have:=hl 0 e rfl h
   rw[List.length_cons] at this
   have:r=[]:=List.length_eq_zero_iff.mp (by omega)
   rw[this]
   rfl
  ·rfl
theorem gh{p:Rol.Player}(f:fu p):∀n,(bK n p).untold=p.untold.drop n
 |0=>rfl
 |n+1=>by
  show(bK n p).tell.untold=_
  rw[nQ (f.tells n),gh f n,List.tail_drop]
theorem mR(p:Rol.Player):p.tell.bar=p.bar/\p.tell.spool=p.spool/\p.tell.fed=p.fed/\p.tell.begun=p.begun/\p.tell.state=p.state/\p.tell.fromRow=p.fromRow/\p.tell.fromTime=p.fromTime/\p.tell.over=p.over:=by
 unfold Rol.Player.tell
 cases p.untold with
 |nil=>exact⟨rfl,rfl,rfl,rfl,rfl,rfl,rfl,rfl⟩
 |cons e r =>
  dsimp only
  split<;>exact⟨rfl,rfl,rfl,rfl,rfl,rfl,rfl,rfl⟩
theorem Dq(p:Rol.Player):p.tell.time=p.time:=by
 obtain⟨h1,h2,h3,h4,h5,h6,h7,h8⟩:=mR p
 unfold Rol.Player.time Rol.Player.timeOf Rol.Player.lastRow
 rw[h2,h4,h6,h7]
theorem Do{p:Rol.Player}{e:Rol.Event}{r:List Rol.Event}(h:p.untold=e::r):p.tell.done=(decide (e.kind=7) || p.done):=by
 unfold Rol.Player.tell
 rw[h]
 dsimp only
 by_cases hk:e.kind=7
 ·rw[if_pos hk,decide_eq_true hk]
  unfold Rol.Player.done
  rfl
 ·rw[if_neg hk,decide_eq_false hk]
  rfl
section
variable {C:PCl}{fP fB fE fL fT fD CS fS:Addr}
def HJ(C:PCl):Sp:=λvs H Q _=>∃(A:PAd) (D:Addr) (pl:Rol.Player) (evs:List (List Int)) (m:Nat),vs=[.ref A.p,.ref D,.int (m:Nat)]/\A.all.Nodup/\fJ C A H pl/\cM H D evs/\D∉A.all/\m<=512 /\
 ∀H',(∀b o,H b=some o->b∉A.all->b≠D->H' b=some o)->fJ C A H' (bK (min pl.untold.length (m-evs.length)) pl)->cM H' D (evs++(pl.untold.take (min pl.untold.length (m-evs.length))).map ev5)->Q .non H'
theorem scTe:aJ ["self","told","most","event"] ["self","told","most"] (aA Am):=sc0
theorem Jl{f:Addr}{fd:FuncData}(F:Fun K "tell" "Player.tell" Am f fd)(T:KC K mg "Player" C.CP fP cQ)(TS:o6 mg):aF P w K mg base CX0 1 f fd ["self","told","most"] (HJ C):=by
 refine F.ok scTe (λvs H Q E h=>?_) (λcdv A outer s H vs Q E hr h=>?_)
 ·obtain⟨A,D,pl,evs,m,rfl,_⟩:=h
  rfl
 ·obtain⟨A',D,pl,evs,m,rfl,nd,h,hD,nD,hm,k⟩:=h
  obtain⟨t7,m7⟩:=TS.eb
  have len:=TS.len
  obtain⟨n,hn⟩:∃n,n=min pl.untold.length (m-evs.length):=⟨_,rfl⟩
  rw[←hn] at k
  have hnl:n<=pl.untold.length:=by omega
  have hnm:n<=m-evs.length:=by omega
  have fine:=h.fine
  refine⟨_,az (eX PassesOwn.never (PW.pt (j0 (bG nO (bJ bz (by rfl) len PySem.boot_len (ak (aB (pv 0) rfl) au)) aC (bQ _)) (iQ (bG tL (bJ bz (by rfl) len PySem.boot_len (ak (pv 1) au)) (pv 2) (bQ _)))))
   (aq (aP (i:=3) scTe.nd rfl (Or.inl rfl) (f9 PySem.F.plainAttrs_list PySem.F.slot_list_pop PySem.F.type_list_pop FJ (aB (pv 0) rfl) (ak aC au)))
   (aq (bh (f9 PySem.F.plainAttrs_list PySem.F.slot_list_append PySem.F.type_list_append gn (pv 1) (ak (pv 3) au)))
   (az (cA (bG gJ (cz cU (pv 3) aC (λ_ _=>rfl)) (aD (v:=.int 7) rfl m7 ⟨t7,rfl⟩) (bQ _)) (az (aU (pv 0) lA rfl)) aZ))))),?_⟩
  refine⟨λmm σ H'=>∃(i:Nat) (v:Option V),mm=n-i/\i<=n/\σ=[some (.ref A'.p),some (.ref D),some (.int (m:Nat)),v]/\(∀b o,H b=some o->b∉A'.all->b≠D->H' b=some o)/\fJ C A' H' (bK i pl)/\cM H' D (evs++(pl.untold.take i).map ev5),
   ⟨n,0,none,rfl,Nat.zero_le _,rfl,(λb o z _ _=>z),h,by rw[List.take_zero,List.map_nil,List.append_nil];exact hD⟩,?_⟩
  rintro mm σ H' ⟨i,v,rfl,hi,rfl,kp,h',hD'⟩
  obtain⟨dx,h1⟩:=h'.obj
  have hu:=gh fine i
  obtain⟨ts,hua,hts,lts⟩:=h'.un.len
  rw[hu,List.length_map,List.length_drop] at lts
  obtain⟨us,hDl,hus,lus⟩:=hD'.len
  rw[List.length_append,List.length_map,List.length_take,Nat.min_eq_left (Nat.le_trans hi hnl)] at lus
  have le1:(ts.map V.ref).length=ts.length:=List.length_map _
  have le2:(us.map V.ref).length=us.length:=List.length_map _
  have fin:i=n->Q .non H':=by
   intro e
   subst e
   exact k H' kp h' hD'
  refine⟨_,rfl,A'.p,C.CP,dx,_,_,rfl,h1,T.cl,T.no _ dk,rfl,A'.ua,_,rfl,.inl (SqL.of hua),_,_,rfl,rfl,_,rfl,?_⟩
  by_cases c1:0<ts.length
  ·refine aM (decide_eq_true (by clear hn lus lts;omega)) ?_
   refine⟨_,rfl,D,_,rfl,.inl (SqL.of hDl),_,rfl,_,_,rfl,rfl,_,rfl,?_⟩
   by_cases c2:us.length<m
   ·have hin:i<n:=by omega
    refine aM (decide_eq_true (by clear hn lus lts;omega)) ?_
    refine⟨λσ' H2=>∃(v:Option V),σ'=[some (.ref A'.p),some (.ref D),some (.int (m:Nat)),v]/\(∀b o,H b=some o->b∉A'.all->b≠D->H2 b=some o)/\fJ C A' H2 (bK (i+1) pl)/\cM H2 D (evs++(pl.untold.take (i+1)).map ev5),?_,?_⟩
    ·rintro σ' H2 ⟨v,rfl,q1,q2,q3⟩
     exact⟨n-(i+1),by clear hn lus lts;omega,i+1,v,rfl,hin,rfl,q1,q2,q3⟩
    obtain⟨e,he⟩:∃e,pl.untold[i]?=some e:=⟨_,List.getElem?_eq_getElem (Nat.lt_of_lt_of_le hin hnl)⟩
    have hdrop:(bK i pl).untold=e::pl.untold.drop (i+1):=by
     rw[hu]
     obtain⟨hlt,e'⟩:=List.getElem?_eq_some_iff.mp he
     rw[List.drop_eq_getElem_cons hlt,e']
    cases ts with
    |nil=>cases c1
    |cons t0 ts =>
     rw[List.map_cons] at hua
     have hts0:=hts
     rw[hdrop,List.map_cons] at hts0
     cases hts0 with
     |cons ht0 hts1 =>
      have nua:A'.ua≠D:=λz=>nD (z▸mi 0 rfl)
      refine⟨_,rfl,A'.p,C.CP,dx,_,_,rfl,h1,T.cl,T.no _ dk,rfl,.inl ⟨rfl,_,SqL.of hua⟩,A'.ua,_,_,0,_,rfl,rfl,hua,by decide,by decide,by simp[seqIndex?],rfl,?_⟩
      have hDl1:upd H' A'.ua (.lst ((V.ref t0::ts.map V.ref).eraseIdx 0)) D=some (.lst (us.map V.ref)):=by rw[ao (Ne.symm nua)];exact hDl
      refine⟨_,rfl,.inl ⟨rfl,_,SqL.of hDl1⟩,_,rfl,D,_,_,rfl,rfl,hDl1,by rw[List.length_map,sizeLine_eq];omega,?_⟩
      obtain⟨H2,hH2⟩:∃H2,H2=upd (upd H' A'.ua (.lst ((V.ref t0::ts.map V.ref).eraseIdx 0))) D (.lst (us.map V.ref++[.ref t0])):=⟨_,rfl⟩
      have tupN:∀{c:Addr} {xs:List V},H' c=some (.tup xs)->H2 c=some (.tup xs):=by
       intro c xs hc
       rw[hH2,ao (bI hc hDl (by intro y;cases y)),ao (bI hc hua (by intro y;cases y))]
       exact hc
      have npu:A'.p≠A'.ua:=bZ nd (i:=12) (j:=0) rfl rfl (by decide)
      have npD:A'.p≠D:=λz=>nD (z▸mi 12 rfl)
      have hp2:H2 A'.p=some (.ins C.CP dx (plf A' (bK i pl))):=by
       rw[hH2,ao npD,ao npu]
       exact h1
      have hua2:H2 A'.ua=some (.lst (ts.map V.ref)):=by
       rw[hH2,ao nua,aj]
       rfl
      have hD2:H2 D=some (.lst (us.map V.ref++[.ref t0])):=by rw[hH2,aj]
      have kp2:∀b o,H' b=some o->b≠A'.ua->b≠D->H2 b=some o:=λb o z n1 n2=>by
       rw[hH2,ao n2,ao n1]
       exact z
      rw[←hH2]
      refine⟨_,rfl,t0,_,_,_,rfl,rfl,SqT.of (tupN ht0),bw (j:=0) (v:=.int (e.kind:Nat)) rfl,rfl,_,rfl,?_⟩
      obtain⟨s1,s2,s3,s4,s5,s6,s7,s8⟩:=mR (bK i pl)
      have hun:(bK (i+1) pl).untold=pl.untold.drop (i+1):=gh fine (i+1)
      have turn:∀H3:Hp,But A'.p H2 H3->H3 A'.p=some (.ins C.CP dx (plf A' (bK (i+1) pl)))->∃(v:Option V),[some (V.ref A'.p),some (V.ref D),some (V.int (m:Nat)),some (V.ref t0)]=[some (.ref A'.p),some (.ref D),some (.int (m:Nat)),v]/\(∀b o,H b=some o->b∉A'.all->b≠D->H3 b=some o)/\fJ C A' H3 (bK (i+1) pl)/\cM H3 D (evs++(pl.untold.take (i+1)).map ev5):=by
       intro H3 b3 hp3
       have tup3:∀{c:Addr} {xs:List V},H' c=some (.tup xs)->H3 c=some (.tup xs):=λ{c xs} hc=>b3 _ _ (tupN hc) (bI (tupN hc) hp2 (by intro y;cases y))
       have cp:=h'.comp (H':=H3) [0,12] λb o z y=>by
        rcases y with ⟨j,hj,ha⟩|⟨xs,rfl⟩
        ·simp only[List.mem_cons,List.not_mem_nil,or_false,not_or] at hj
         exact b3 _ _ (kp2 _ _ z (bZ nd ha (j:=0) rfl hj.1) λe=>nD (e▸List.mem_of_getElem? ha)) (bZ nd ha (j:=12) rfl hj.2)
        ·exact tup3 z
       refine⟨_,rfl,λb o z n1 n2=>?_,⟨⟨dx,hp3⟩,?_,?_,?_,cp.sl (by decide),?_,?_,?_,?_,fine.tells (i+1)⟩,?_⟩
       ·refine b3 _ _ (kp2 _ _ (kp _ _ z n1 n2) (λe=>n1 (e▸mi 0 rfl)) n2) λe=>n1 (e▸mi 12 rfl)
       ·obtain⟨B,q1,q2⟩:=cp.bar (by decide) (by decide) (by decide)
        exact⟨B,q1,by show eF B (bK i pl).tell.bar;rw[s1];exact q2⟩
       ·obtain⟨fa,q⟩:=cp.pace (by decide) (by decide)
        refine⟨fa,?_⟩
        show PcA _ _ _ _ _ _ (bK i pl).tell.spool (bK i pl).tell.fromRow (bK i pl).tell.fromTime
        rw[s2,s6,s7]
        exact q
       ·have q:=cp.tn (by decide) (by decide)
        have el:bM (bK (i+1) pl)=bM (bK i pl):=by
         show bM (bK i pl).tell=_
         unfold bM
         rw[s1,s3,s4]
        rw[el]
        show TnA _ _ _ _ _ (bK i pl).tell.bar.tail
        rw[s1]
        exact q
       ·have q:=cp.sb (by decide)
        show SdA _ _ _ _ _ (bK i pl).tell.state.bass
        rw[s5]
        exact q
       ·have q:=cp.st (by decide)
        show SdA _ _ _ _ _ (bK i pl).tell.state.treble
        rw[s5]
        exact q
       ·have q:=cp.rows (by decide)
        show j8 _ _ (bK i pl).tell.fed (bK i pl).tell.bar.wide
        rw[s1,s3]
        exact q
       ·rw[hun]
        exact⟨ts,b3 _ _ hua2 (Ne.symm npu),jg.keep hts1 λc xs hc=>tup3 hc⟩
       ·have et:pl.untold.take (i+1)=pl.untold.take i++[e]:=by
         rw[List.take_succ,he]
         rfl
        rw[et,List.map_append,←List.append_assoc]
        refine⟨us++[t0],?_,Paired.app (jg.keep hus λc xs hc=>tup3 hc) (.cons (tup3 ht0) .nil)⟩
        rw[b3 _ _ hD2 (Ne.symm npD),List.map_append]
        rfl
      have hdn:=Do hdrop
      have htm:=Dq (bK i pl)
      have plfE:plf A' (bK (i+1) pl)=plv A'.ba A'.pa A'.ta A'.sia A'.ra (bK i pl).begun (bK i pl).time A'.ua (bK i pl).over (decide (e.kind=7) || (bK i pl).done):=by
       show plf A' (bK i pl).tell=_
       unfold plf
       rw[hdn,htm,s4,s8]
      refine uL (λc=>?_) (λc=>?_)
      ·have c:e.kind=7:=by
        have:=of_decide_eq_true c
        injection this with this
        omega
       refine⟨_,rfl,A'.p,C.CP,dx,_,rfl,hp2,T.cl,T.no _ dk,(by show 10<1000;decide),?_⟩
       refine turn _ (But.upd _ _ _) ?_
       rw[aj,plfE,decide_eq_true c]
       rfl
      ·have c:¬e.kind=7:=λz=>c (decide_eq_true (by rw[z];rfl))
       refine turn _ (But.refl _ _) ?_
       rw[hp2,plfE,decide_eq_false c,Bool.false_or]
   ·refine aV (by rw[decide_eq_false (by clear hn lus lts;omega)];exact Bool.false_ne_true) ?_
    exact fin (by clear hn lts;omega)
  ·refine aV (by rw[decide_eq_false (by clear hn lus lts;omega)];exact Bool.false_ne_true) ?_
   exact aV Bool.false_ne_true (fin (by clear hn lus;omega))
end
noncomputable abbrev jx:Stmt:=inClass (top 74) 6
theorem G3{X:Cx}{K:PySem.W.Frag}(hK:X.K=K):OpR X (binaryOp .Add) (rCatT K):=by
 subst hK
 exact Jq
theorem uR{X:Cx}{o:Expr}{ta:TE}{f:Str}{pos:Pos}{K:PySem.W.Frag}(ho:PE X o ta)(hK:X.K=K)(hbs:attributeBase o f X.env (eval o X.env)=eval o X.env):PE X (.Attribute o f pos) (tFld K ta f):=by
 subst hK
 exact aB ho hbs
theorem tH{l:List Addr}(nd:l.Nodup){x:Addr}(hx:x∉l)(i:Nat):(l.set i x).Nodup:=by
 unfold List.Nodup at nd ⊢
 rw[List.pairwise_iff_getElem] at nd ⊢
 intro a b ha hb hab
 rw[List.length_set] at ha hb
 rw[List.getElem_set,List.getElem_set]
 split
 ·split
  ·omega
  ·exact λe=>hx (e▸List.getElem_mem hb)
 ·split
  ·exact λe=>hx (e▸List.getElem_mem ha)
  ·exact nd a b ha hb hab
theorem BL(b:Rol.Bar)(y x f0 f1:Nat):∀r∈evI b y x f0 f1,r.length=3:=by
 intro r hr
 have eb:∀(n s:Bool) (a c:Int),∀r∈evB n s a c,r.length=3:=by
  intro n s a c r hr
  unfold evB at hr
  split at hr
  ·rw[List.mem_singleton.mp hr]
   rfl
  ·split at hr
   ·rw[List.mem_singleton.mp hr]
    rfl
   ·cases hr
 unfold evI at hr
 rcases List.mem_append.mp hr with hr|hr
 ·rcases List.mem_append.mp hr with hr|hr
  ·rcases List.mem_append.mp hr with hr|hr
   ·rcases List.mem_append.mp hr with hr|hr
    ·obtain⟨k,_,rfl⟩:=List.mem_map.mp hr
     rfl
    ·exact eb _ _ _ _ r hr
   ·exact eb _ _ _ _ r hr
  ·obtain⟨k,_,rfl⟩:=List.mem_map.mp hr
   rfl
 ·split at hr
  ·rw[List.mem_singleton.mp hr]
   rfl
  ·cases hr
theorem xJ{p:Rol.Player}(hd:p.done=false)(hb:p.begun<p.rows):p.begin_.done=(p.over&&decide (p.begun+1=p.fed.length+p.bar.tail+1)):=by
 unfold Rol.Player.done at hd ⊢
 have h1:p.ended=false:=by
  cases he:p.ended with
  |false=>rfl
  |true =>
   rw[he] at hd
   cases hd
 show(p.ended || (p.over&&decide (p.rows<=p.begun+1)))=_
 rw[h1,Bool.false_or]
 cases ho:p.over with
 |false=>rfl
 |true =>
  rw[Bool.true_and,Bool.true_and,decide_eq_decide]
  unfold Rol.Player.rows at hb ⊢
  rw[ho] at hb ⊢
  simp only[if_true] at hb ⊢
  omega
section
variable {C:PCl}{fP fB fE fL fT fD CN fN:Addr}
def Av(C:PCl):Sp:=λvs H Q _=>∃(A:PAd) (pl:Rol.Player),vs=[.ref A.p]/\A.all.Nodup/\fJ C A H pl/\pl.done=false/\pl.begun<pl.rows /\
 ∀H' A',A'.p=A.p->A'.all.Nodup->Mv H (λx=>x∈A.all) H' (λx=>x∈A'.all)->fJ C A' H' pl.begin_->Q .non H'
theorem rO:aJ ["self","row","before","after","side","forces","changes","event"] ["self"] (aA jx):=sc0
theorem blkB1:gM ["self","row","before","after","side","forces","changes","event"] (aA jx) (lcSc ((cY jx).getD 5 (.Pass ⟨0,0,0,0⟩))) [("side",4)]:=⟨rfl,dk,dk,dk,dk⟩
theorem blkB2:gM ["self","row","before","after","side","forces","changes","event"] (aA jx) (Fo (valOf ((cY jx).getD 8 (.Pass ⟨0,0,0,0⟩)))) [("event",7)]:=⟨rfl,dk,dk,dk,dk⟩
theorem Gf{f fSo fTk fHo fST fFo fTm fRE:Addr}{fd fdSo fdTk fdHo fdST fdFo fdTm fdRE fdN:FuncData}(F:Fun K "begin_row" "Player.begin_row" jx f fd)(T:KC K mg "Player" C.CP fP cQ)(TB:KC K mg "Bar" C.CB fB cC)(TT:KC K mg "Tones" C.CT fT fV)(TD:KC K mg "Side" C.CD fD cR)(TE:KC K mg "Pace" C.CE fE dR)(len:mg "len"=none)(MSo:FM K C.CT "sounding" "Tones.sounding" ir ["self"] fSo fdSo)(GSo:aF P w K mg base CX0 1 fSo fdSo ["self"] (j4 C.CT))(MTk:FM K C.CT "take_row" "Tones.take_row" iu ["self","holes"] fTk fdTk)(GTk:aF P w K mg base CX0 1 fTk fdTk ["self","holes"] (ul C.CT))(MHo:FM K C.CP "holes_of" "Player.holes_of" lG ["self","row"] fHo fdHo)(GHo:aF P w K mg base CX0 1 fHo fdHo ["self","row"] (uf C))(MST:FM K C.CD "take_row" "Side.take_row" vg ["self","sounding"] fST fdST)(GST:aF P w K mg base CX0 4 fST fdST ["self","sounding"] (Bf C.CB C.CD))(MFo:FM K C.CD "force_at" "Side.force_at" uX ["self","sounding"] fFo fdFo)(GFo:aF P w K mg base CX0 3 fFo fdFo ["self","sounding"] (Ax C.CB C.CD))(MTm:FM K C.CE "time_of" "Pace.time_of" oN ["self","row"] fTm fdTm)(GTm:aF P w K mg base CX0 4 fTm fdTm ["self","row"] (HN C.CE C.CL))(MRE:FG K mg "row_events" mH ["bar","change","forces"] fRE fdRE)(GRE:aF P w K mg base CX0 3 fRE fdRE ["bar","change","forces"] (Be C.CB CN))(TN:KC K mg "Change" CN fN eU)(bN:Binds K fdN ["self","before","after"] [])(GN:aF P w K mg base CX0 1 fN fdN ["self","before","after"] (uc CN)) :
  aF P w K mg base CX0 5 f fd ["self"] (Av C):=by
 refine F.ok rO (λvs H Q E h=>?_) (λcdv A outer s H vs Q E hr h=>?_)
 ·obtain⟨A,pl,rfl,_⟩:=h
  rfl
 ·obtain⟨A',pl,rfl,nd,h,hdn,hbg,k⟩:=h
  have hr1:bY 1 _:=hr.mono (by decide)
  have hr2:bY 2 _:=hr.mono (by decide)
  have hr3:bY 3 _:=hr.mono (by decide)
  refine⟨_,aq (aP (i:=1) rO.nd rfl (Or.inr rfl) (aB (pv 0) rfl))
   (aq (aP (i:=2) rO.nd rfl (Or.inl rfl) (cO (aB (pv 0) rfl) TT.cl MSo.mt GSo hr1 MSo.bd .nil aX))
   (aq (bh (aQ (aB (pv 0) rfl) TT.cl MTk.mt GTk hr1 MTk.bd .nil aX (ak (aQ (pv 0) T.cl MHo.mt GHo hr1 MHo.bd .nil aX (ak (pv 1) au)) au)))
   (aq (aP (i:=3) rO.nd rfl (Or.inr rfl) (cO (aB (pv 0) rfl) TT.cl MSo.mt GSo hr1 MSo.bd .nil aX))
   (aq (iM PassesOwn.never rfl (gb (aB (pv 0) rfl)) (cF (i:=4) rO.nd rfl (.inl rfl)) (az (bh (aQ (pv 4) TD.cl MST.mt GST hr MST.bd .nil aX (ak (pv 3) au)))))
   (aq (wI (i:=5) (own:=[("side",4)]) rfl rO.nd rfl rfl rfl (gb (aB (pv 0) rfl)) blkB1 (λ_ _ _ _ _=>cF (i:=4) rO.nd rfl (.inl rfl)) (λ_ _ _ _ _=>jH)
    (λ_ _ _ _ _=>aQ (pv 4) TD.cl MFo.mt GFo ?room MFo.bd .nil aX (ak (pv 3) au)))
   (aq (aU (pv 0) (aQ (aB (pv 0) rfl) TE.cl MTm.mt GTm hr MTm.bd .nil aX (ak (pv 1) au)) rfl)
   (aq (aP (i:=6) rO.nd rfl (Or.inl rfl) (bU GRE hr3 rfl MRE.mg MRE.fn.kp MRE.bd .nil aX (ak (aB (pv 0) rfl) (ak (dZ TN.mkc GN hr2 rfl TN.mg bN .nil aX (ak (pv 2) (ak (pv 3) au))) (ak (pv 5) au)))))
   (aq (aU (pv 0) (wC (own:=[("event",7)]) rfl rO.nd (gb (pv 6)) blkB2 (λ_ _ _ _ _=>cF (i:=7) rO.nd rfl (.inl rfl)) (λ_ _ _ _ _=>jH)
    (λ_ _ _ _ _=>bc (G3 (K:=K) rfl) (pv 7) (eE (ak (pv 1) (ak (uR (K:=K) (pv 0) rfl rfl) au))))) rfl)
   (aq (aU (pv 0) (bc cV (pv 1) aC) rfl)
   (az (cA (PW.pt (j0 (cH (aB (pv 0) rfl)) (iQ (bG gJ (aB (pv 0) rfl) (bc cV (bc cV (bJ bz (by rfl) len PySem.boot_len (ak (aB (pv 0) rfl) au)) (aB (aB (pv 0) rfl) rfl)) aC) (bQ _))))) (az (aU (pv 0) lA rfl)) aZ))))))))))),?_⟩
  case room=>exact hr3
  have fine:=h.fine
  have good:=fine.good
  have hbl:=good.begun_le
  obtain⟨dx,h1⟩:=h.obj
  obtain⟨B,hBX,hbi⟩:=h.bar
  obtain⟨pfa,hpc⟩:=h.pace
  obtain⟨dxt,ht1⟩:=h.tn.obj
  have npt:A'.p≠A'.ta:=bZ nd (i:=12) (j:=6) rfl rfl (by decide)
  have nps0:A'.p≠A'.s0:=bZ nd (i:=12) (j:=4) rfl rfl (by decide)
  have nps1:A'.p≠A'.s1:=bZ nd (i:=12) (j:=3) rfl rfl (by decide)
  have nts0:A'.ta≠A'.s0:=bZ nd (i:=6) (j:=4) rfl rfl (by decide)
  have nts1:A'.ta≠A'.s1:=bZ nd (i:=6) (j:=3) rfl rfl (by decide)
  have ns01:A'.s0≠A'.s1:=bZ nd (i:=4) (j:=3) rfl rfl (by decide)
  have inA:∀{x:Addr},x∈A'.all->H x≠none:=λ{x} hx=>h.there x hx
  obtain⟨xx,hxx⟩:∃xx,xx=pl.sounds pl.begun:=⟨_,rfl⟩
  obtain⟨yy,hyy⟩:∃yy,yy=Player.nowX pl:=⟨_,rfl⟩
  refine⟨_,rfl,A'.p,C.CP,dx,_,_,rfl,h1,T.cl,T.no _ dk,rfl,?_⟩
  refine⟨_,rfl,A'.p,C.CP,dx,_,_,rfl,h1,T.cl,T.no _ dk,rfl,A'.ta,dxt,_,rfl,ht1,aY (ns:=fV) rfl dk,A'.ta,A'.la,bM pl,pl.bar.tail,pl.bar.wide,yy,rfl,h.tn,by rw[hyy];exact lg pl,hbi.w2,λH1 d0 g1 hd0 hd0'=>?_⟩
  refine⟨_,rfl,A'.p,C.CP,dx,_,_,rfl,g1 _ _ h1,T.cl,T.no _ dk,rfl,A'.ta,dxt,_,rfl,g1 _ _ ht1,aY (ns:=fV) rfl dk,_,rfl,A'.p,dx,_,rfl,g1 _ _ h1,aY (ns:=cQ) rfl dk,_,rfl,A',pl,pl.begun,rfl,h.stay (λb o z _=>g1 _ _ z),λH2 ho tr g2 hho htrw htr=>?_⟩
  have g12:=g1.trans g2
  have hll:(bM pl).length=pl.bar.wide:=(lg pl).len
  refine⟨A'.ta,A'.la,ho,bM pl,tr,pl.bar.tail,rfl,h.tn.keep (λb o z _=>g12 _ _ z),hho,by rw[hll];exact htrw,by rw[hll];exact hbi.w2,λH3 la' b3 hla2 htn3=>?_⟩
  rw[xZ pl (λt _=>htr t)] at htn3
  have hlaH:H la'=none:=g12.fresh hla2
  have hp3:=b3 _ _ (g12 _ _ h1) npt
  obtain⟨dxt3,ht3⟩:=htn3.obj
  have hd03:H3 d0=some (.dK (soK pl.bar.wide yy)):=b3 _ _ (g2 _ _ hd0') (bI (g2 _ _ hd0') (g12 _ _ ht1) (by intro y;cases y))
  have hnx:Player.nowX pl.begin_=xx:=by
   rw[hxx]
   rfl
  refine⟨_,rfl,A'.p,C.CP,dx,_,_,rfl,hp3,T.cl,T.no _ dk,rfl,A'.ta,dxt3,_,rfl,ht3,aY (ns:=fV) rfl dk,A'.ta,la',bM pl.begin_,pl.bar.tail,pl.bar.wide,xx,rfl,htn3,by rw[←hnx];exact lg pl.begin_,hbi.w2,λH4 d1 g4 hd1 hd1'=>?_⟩
  have kp4:∀b o,H b=some o->b≠A'.ta->H4 b=some o:=λb o z n=>g4 _ _ (b3 _ _ (g12 _ _ z) n)
  have hp4:=g4 _ _ hp3
  have htn4:TnA C.CT H4 A'.ta la' (bM pl.begin_) pl.bar.tail:=htn3.keep λb o z _=>g4 _ _ z
  have hd04:=g4 _ _ hd03
  have hsl4:H4 A'.sia=some (.lst [.ref A'.s0,.ref A'.s1]):=kp4 _ _ h.sl (bZ nd (i:=2) (j:=6) rfl rfl (by decide))
  obtain⟨dxs0,hs0⟩:=h.sb
  obtain⟨dxs1,hs1⟩:=h.st
  have hs04:=kp4 _ _ hs0 (Ne.symm nts0)
  have hs14:=kp4 _ _ hs1 (Ne.symm nts1)
  have barK:∀{Hx:Hp},(∀b o,H b=some o->b≠A'.ta->b≠A'.s0->b≠A'.s1->b≠A'.p->Hx b=some o)->rK C.CB Hx A'.ba A'.td A'.ka B:=λ{Hx} kx=>hBX.keep λb o z y=>by
   have nn:b≠A'.ta/\b≠A'.s0/\b≠A'.s1/\b≠A'.p:=by
    rcases y with rfl|rfl|rfl|⟨xs,rfl⟩
    ·exact⟨bZ nd (i:=11) (j:=6) rfl rfl (by decide),bZ nd (i:=11) (j:=4) rfl rfl (by decide),bZ nd (i:=11) (j:=3) rfl rfl (by decide),bZ nd (i:=11) (j:=12) rfl rfl (by decide)⟩
    ·exact⟨bZ nd (i:=10) (j:=6) rfl rfl (by decide),bZ nd (i:=10) (j:=4) rfl rfl (by decide),bZ nd (i:=10) (j:=3) rfl rfl (by decide),bZ nd (i:=10) (j:=12) rfl rfl (by decide)⟩
    ·exact⟨bZ nd (i:=9) (j:=6) rfl rfl (by decide),bZ nd (i:=9) (j:=4) rfl rfl (by decide),bZ nd (i:=9) (j:=3) rfl rfl (by decide),bZ nd (i:=9) (j:=12) rfl rfl (by decide)⟩
    ·exact⟨λe=>h.tup z (e▸mi 6 rfl),λe=>h.tup z (e▸mi 4 rfl),λe=>h.tup z (e▸mi 3 rfl),λe=>h.tup z (e▸mi 12 rfl)⟩
   exact kx _ _ z nn.1 nn.2.1 nn.2.2.1 nn.2.2.2
  refine⟨_,rfl,A'.p,C.CP,dx,_,_,rfl,hp4,T.cl,T.no _ dk,rfl,A'.sia,rfl,⟨_,SqL.of hsl4⟩,?_⟩
  refine pD (K:=K) (xs:=[.ref A'.s0,.ref A'.s1]) (λi σ H'=>(∃v,σ=[some (.ref A'.p),some (.int (pl.begun:Nat)),some (.ref d0),some (.ref d1),v,none,none,none])/\(∀b o,H4 b=some o->b≠A'.s0->b≠A'.s1->H' b=some o) /\
   SdA C.CD H' A'.s0 A'.ba 0 (if i=0 then pl.state.bass else pl.state.bass.at_ pl.bar xx 0)/\SdA C.CD H' A'.s1 A'.ba 1 (if i<=1 then pl.state.treble else pl.state.treble.at_ pl.bar xx 1)) ?_ ?_ ?_ ?_
  ·exact⟨⟨none,rfl⟩,λb o z _ _=>z,⟨dxs0,hs04⟩,⟨dxs1,hs14⟩⟩
  ·rintro i σ H' _ ⟨_,kx,_,_⟩
   exact SqL.of (kx _ _ hsl4 (bZ nd (i:=2) (j:=4) rfl rfl (by decide)) (bZ nd (i:=2) (j:=3) rfl rfl (by decide)))
  ·rintro i xv σ H' hx ⟨⟨v,rfl⟩,kx,q0,q1⟩
   have hB':rJ C.CB H' A'.ba B:=(barK λb o z n1 n2 n3 n4=>kx _ _ (kp4 _ _ z n1) n2 n3).barA
   have hd1':H' d1=some (.dK (soK pl.bar.wide xx)):=kx _ _ hd1' (bI hd1' hs04 (by intro y;cases y)) (bI hd1' hs14 (by intro y;cases y))
   match i,hx with
   |0,hx =>
    cases hx
    obtain⟨dxq,hq0⟩:=q0
    refine⟨_,rfl,A'.s0,dxq,_,rfl,hq0,aY (ns:=cR) rfl dk,_,rfl,A'.s0,A'.ba,d1,B,pl.bar,0,xx,pl.state.bass,rfl,⟨⟨dxq,hq0⟩,hB',hbi,hd1',good.ls.1,good.ss.1⟩,λH'' b'' s''=>⟨⟨_,rfl⟩,λb o z n1 n2=>b'' _ _ (kx _ _ z n1 n2) n1,s'',?_⟩⟩
    obtain⟨dxr,hq1⟩:=q1
    exact⟨dxr,b'' _ _ hq1 (Ne.symm ns01)⟩
   |1,hx =>
    cases hx
    obtain⟨dxq,hq1⟩:=q1
    refine⟨_,rfl,A'.s1,dxq,_,rfl,hq1,aY (ns:=cR) rfl dk,_,rfl,A'.s1,A'.ba,d1,B,pl.bar,1,xx,pl.state.treble,rfl,⟨⟨dxq,hq1⟩,hB',hbi,hd1',good.ls.2,good.ss.2⟩,λH'' b'' s''=>⟨⟨_,rfl⟩,λb o z n1 n2=>b'' _ _ (kx _ _ z n1 n2) n2,?_,s''⟩⟩
    obtain⟨dxr,hq0⟩:=q0
    exact⟨dxr,b'' _ _ hq0 ns01⟩
  rintro σ H5 ⟨⟨v,rfl⟩,kx5,q0,q1⟩
  have q0:SdA C.CD H5 A'.s0 A'.ba 0 (pl.state.bass.at_ pl.bar xx 0):=q0
  have q1:SdA C.CD H5 A'.s1 A'.ba 1 (pl.state.treble.at_ pl.bar xx 1):=q1
  have kp5:∀b o,H b=some o->b≠A'.ta->b≠A'.s0->b≠A'.s1->H5 b=some o:=λb o z n1 n2 n3=>kx5 _ _ (kp4 _ _ z n1) n2 n3
  have hp5:=kx5 _ _ hp4 nps0 nps1
  have hd15:H5 d1=some (.dK (soK pl.bar.wide xx)):=kx5 _ _ hd1' (bI hd1' hs04 (by intro y;cases y)) (bI hd1' hs14 (by intro y;cases y))
  have hd05:H5 d0=some (.dK (soK pl.bar.wide yy)):=kx5 _ _ hd04 (bI hd04 hs04 (by intro y;cases y)) (bI hd04 hs14 (by intro y;cases y))
  have htn5:TnA C.CT H5 A'.ta la' (bM pl.begin_) pl.bar.tail:=htn4.keep λb o z y=>by
   refine kx5 _ _ z ?_ ?_
   ·rcases y with rfl|rfl
    ·exact nts0
    ·exact bI htn4.lst hs04 (by intro y;cases y)
   ·rcases y with rfl|rfl
    ·exact nts1
    ·exact bI htn4.lst hs14 (by intro y;cases y)
  have hsl5:=kx5 _ _ hsl4 (bZ nd (i:=2) (j:=4) rfl rfl (by decide)) (bZ nd (i:=2) (j:=3) rfl rfl (by decide))
  have hB5:rJ C.CB H5 A'.ba B:=(barK λb o z n1 n2 n3 n4=>kp5 _ _ z n1 n2 n3).barA
  have sa0:=iT pl.bar xx 0 good.ls.1 good.ss.1
  have sa1:=iT pl.bar xx 1 good.ls.2 good.ss.2
  have S0:dU C.CB C.CD H5 A'.s0 A'.ba d1 B pl.bar 0 xx (pl.state.bass.at_ pl.bar xx 0):=⟨q0,hB5,hbi,hd15,sa0.1,sa0.2⟩
  have S1:dU C.CB C.CD H5 A'.s1 A'.ba d1 B pl.bar 1 xx (pl.state.treble.at_ pl.bar xx 1):=⟨q1,hB5,hbi,hd15,sa1.1,sa1.2⟩
  obtain⟨f0,hf0⟩:∃f0,f0=Rol.force pl.bar xx 0 (pl.state.bass.at_ pl.bar xx 0):=⟨_,rfl⟩
  obtain⟨f1,hf1⟩:∃f1,f1=Rol.force pl.bar xx 1 (pl.state.treble.at_ pl.bar xx 1):=⟨_,rfl⟩
  refine⟨_,rfl,A'.p,C.CP,dx,_,_,rfl,hp5,T.cl,T.no _ dk,rfl,A'.sia,rfl,⟨_,SqL.of hsl5⟩,λD hD=>?_⟩
  refine jE (K:=K) (a:=A'.sia) (xs:=[.ref A'.s0,.ref A'.s1]) (λi H'=>aN H5 H'/\H' D=some (.lst ([V.int (f0:Nat),V.int (f1:Nat)].take i))) ?_ ?_ ?_ ?_
  ·exact⟨aN.new (.lst []) hD,aj⟩
  ·rintro i H' _ ⟨g,_⟩
   exact SqL.of (g _ _ hsl5)
  ·rintro i xv H' hx ⟨g,hDl⟩
   have gD:∀{Hx:Hp} {o:HO},aN H5 Hx->aN H5 (upd Hx D o):=λgx b o z=>by
    rw[ao (aa z hD)]
    exact gx _ _ z
   match i,hx with
   |0,hx =>
    cases hx
    obtain⟨dxq,hq0⟩:=q0
    refine⟨rfl,vG (aM rfl ?_)⟩
    refine⟨_,rfl,A'.s0,dxq,_,rfl,g _ _ hq0,aY (ns:=cR) rfl dk,_,rfl,A'.s0,A'.ba,d1,B,pl.bar,0,xx,_,rfl,S0.grow g,λH'' g''=>⟨_,g'' _ _ hDl,by show 0<sizeLine;decide,gD (g.trans g''),?_⟩⟩
    rw[aj,←hf0]
    rfl
   |1,hx =>
    cases hx
    obtain⟨dxq,hq1⟩:=q1
    refine⟨rfl,vG (aM rfl ?_)⟩
    refine⟨_,rfl,A'.s1,dxq,_,rfl,g _ _ hq1,aY (ns:=cR) rfl dk,_,rfl,A'.s1,A'.ba,d1,B,pl.bar,1,xx,_,rfl,S1.grow g,λH'' g''=>⟨_,g'' _ _ hDl,by show 1<sizeLine;decide,gD (g.trans g''),?_⟩⟩
    rw[aj,←hf1]
    rfl
  rintro H6 ⟨g6,hD6⟩
  have hD6:H6 D=some (.lst [V.int (f0:Nat),V.int (f1:Nat)]):=hD6
  have hpa6:PcA C.CE C.CL H6 A'.pa A'.spa pfa pl.spool pl.fromRow pl.fromTime:=hpc.keep λb o z y=>by
   have nn:b≠A'.ta/\b≠A'.s0/\b≠A'.s1:=by
    rcases y with rfl|rfl|⟨xs,rfl⟩
    ·exact⟨bZ nd (i:=7) (j:=6) rfl rfl (by decide),bZ nd (i:=7) (j:=4) rfl rfl (by decide),bZ nd (i:=7) (j:=3) rfl rfl (by decide)⟩
    ·exact⟨bZ nd (i:=8) (j:=6) rfl rfl (by decide),bZ nd (i:=8) (j:=4) rfl rfl (by decide),bZ nd (i:=8) (j:=3) rfl rfl (by decide)⟩
    ·exact⟨λe=>h.tup z (e▸mi 6 rfl),λe=>h.tup z (e▸mi 4 rfl),λe=>h.tup z (e▸mi 3 rfl)⟩
   exact g6 _ _ (kp5 _ _ z nn.1 nn.2.1 nn.2.2)
  obtain⟨dxp6,hpo6⟩:=hpa6.obj
  refine⟨_,rfl,A'.p,C.CP,dx,_,_,rfl,g6 _ _ hp5,T.cl,T.no _ dk,rfl,A'.pa,dxp6,_,rfl,hpo6,aY (ns:=dR) rfl dk,_,rfl,A'.pa,A'.spa,pfa,pl.spool,pl.fromRow,pl.fromTime,pl.begun,rfl,hpa6,good.fr,hbl,λH7 g7=>?_⟩
  have g57:=g6.trans g7
  refine⟨_,rfl,A'.p,C.CP,dx,_,rfl,g57 _ _ hp5,T.cl,T.no _ dk,(by show 10<1000;decide),?_⟩
  dsimp only
  obtain⟨tm,htm⟩:∃tm,tm=pl.timeOf pl.begun:=⟨_,rfl⟩
  refine via (F:=λH8=>But A'.p H7 H8/\H8 A'.p=some (.ins C.CP dx (plv A'.ba A'.pa A'.ta A'.sia A'.ra pl.begun tm A'.ua pl.over pl.done))) ?_ ?_
  ·refine⟨But.upd _ _ _,?_⟩
   rw[aj,htm]
   rfl
  rintro H8 ⟨b8,hp8⟩
  have b58:But A'.p H5 H8:=λb o z n=>b8 _ _ (g57 _ _ z) n
  have hBX8:rK C.CB H8 A'.ba A'.td A'.ka B:=barK λb o z n1 n2 n3 n4=>b58 _ _ (kp5 _ _ z n1 n2 n3) n4
  refine⟨_,rfl,A'.p,C.CP,dx,_,_,rfl,hp8,T.cl,T.no _ dk,rfl,_,rfl,_,rfl,λcn dxc hcn hdxc hnc=>⟨cn,dxc,d0,d1,rfl,aj,⟨rfl,?_⟩⟩⟩
  rw[cG]
  have g9:aN H8 (upd (upd H8 dxc (.own cn)) cn (.ins CN dxc (chf d0 d1))):=λb o z=>by
   rw[ao (aa z hcn),ao (aa z hdxc)]
   exact z
  have hcn9:upd (upd H8 dxc (.own cn)) cn (.ins CN dxc (chf d0 d1)) cn=some (.ins CN dxc (chf d0 d1)):=aj
  generalize upd (upd H8 dxc (.own cn)) cn (.ins CN dxc (chf d0 d1))=H9 at g9 hcn9 ⊢
  have hd09:H9 d0=some (.dK (soK pl.bar.wide yy)):=g9 _ _ (b58 _ _ hd05 (bI hd05 hp5 (by intro y;cases y)))
  have hd19:H9 d1=some (.dK (soK pl.bar.wide xx)):=g9 _ _ (b58 _ _ hd15 (bI hd15 hp5 (by intro y;cases y)))
  have hD9:H9 D=some (.lst [V.int (f0:Nat),V.int (f1:Nat)]):=g9 _ _ (b8 _ _ (g7 _ _ hD6) (bI (g7 _ _ hD6) (g57 _ _ hp5) (by intro y;cases y)))
  refine⟨_,rfl,A'.ba,cn,D,B,pl.bar,yy,xx,f0,f1,rfl,(hBX8.barA).grow g9,hbi,⟨dxc,d0,d1,hcn9,hd09,hd19⟩,hD9,λH10 l g10 hl hrows=>?_⟩
  have g810:=g9.trans g10
  obtain⟨ts,hl',hts,lts⟩:=hrows.len
  have hp10:=g810 _ _ hp8
  refine⟨_,rfl,l,rfl,⟨_,SqL.of hl'⟩,λU hU=>?_⟩
  have hev3:=BL pl.bar yy xx f0 f1
  generalize hev:evI pl.bar yy xx f0 f1=evs at hrows hts lts hev3
  have hel:evs.length<=1000:=by
   rw[←hev]
   have:=congrArg List.length (Eu pl.bar yy xx ⟨pl.state.bass.at_ pl.bar xx 0,pl.state.treble.at_ pl.bar xx 1⟩ 0 0)
   rw[List.length_map,List.length_map] at this
   rw[hf0,hf1,this]
   unfold Rol.eventsAt
   simp only[List.length_append,List.length_map]
   have kl:∀z,(Rol.keysIn z).length<=128:=λz=>by
    unfold Rol.keysIn
    have:=List.length_filter_le (λk=>Rol.Row.hole z k) (List.range 128)
    rw[List.length_range] at this
    exact this
   have pdl:∀a b c d e,(Rol.pedal a b c d e).length<=1:=λa b c d e=>by
    unfold Rol.pedal
    split
    ·exact Nat.le_refl 1
    ·split
     ·exact Nat.le_refl 1
     ·exact Nat.zero_le 1
   have k1:=kl (Rol.less (pl.bar.heard yy) (pl.bar.heard xx))
   have k2:=kl (Rol.less (pl.bar.heard xx) (pl.bar.heard yy))
   have p1:=pdl 3 (pl.bar.has xx .loud) (pl.bar.has yy .loud) 0 0
   have p2:=pdl 5 (pl.bar.has xx .soft) (pl.bar.has yy .soft) 0 0
   split<;>simp only[List.length_cons,List.length_nil]<;>omega
  refine jE (K:=K) (a:=l) (xs:=ts.map V.ref) (λi H'=>aN H10 H'/\cM H' U ((evs.take i).map (·++[(pl.begun:Int),(tm:Int)]))) ?_ ?_ ?_ ?_
  ·exact⟨aN.new (.lst []) hU,[],aj,.nil⟩
  ·rintro i H' _ ⟨g,_⟩
   exact SqL.of (g _ _ hl')
  ·rintro i xv H' hx ⟨g,hR⟩
   rw[List.getElem?_map] at hx
   obtain⟨t,ht,rfl⟩:=Option.map_eq_some_iff.mp hx
   obtain⟨row,hrow,hrt⟩:=gK hts ht
   have h3:=hev3 row (List.mem_of_getElem? hrow)
   obtain⟨us,hUl,hus,lus⟩:=hR.len
   rw[List.length_map,List.length_take] at lus
   refine⟨rfl,vG (aM rfl ?_)⟩
   refine⟨_,rfl,_,rfl,_,rfl,A'.p,C.CP,dx,_,_,rfl,g _ _ hp10,T.cl,T.no _ dk,rfl,by show 2<=sizeLine;decide,λT2 hT2=>?_⟩
   have hUl2:upd H' T2 (.tup [.int (pl.begun:Nat),.int (tm:Nat)]) U=some (.lst (us.map V.ref)):=by rw[ao (aa hUl hT2)];exact hUl
   have g2':aN H' (upd H' T2 (.tup [.int (pl.begun:Nat),.int (tm:Nat)])):=aN.new _ hT2
   refine⟨t,T2,row.map V.int,[.int (pl.begun:Nat),.int (tm:Nat)],rfl,rfl,SqT.of (g2' _ _ (g _ _ hrt)),SqT.of aj,?_,?_,?_,?_⟩
   ·intro z
    have:=congrArg List.length z
    rw[List.length_map,h3] at this
    cases this
   ·rw[List.length_map,h3,sizeLine_eq]
    show 3+2<=16777216
    decide
   ·intro z
    cases z
   ·intro _ q hq
    have nUq:U≠q:=aa hUl2 hq
    refine⟨us.map V.ref,by rw[ao nUq];exact hUl2,by rw[List.length_map,sizeLine_eq];omega,?_,?_⟩
    ·intro b o z
     rw[ao (aa z hU),ao (aa (g2' _ _ (g _ _ z)) hq)]
     exact g2' _ _ (g _ _ z)
    ·rw[List.take_succ,hrow,List.map_append]
     have:=jJ (row:=row++[(pl.begun:Int),(tm:Int)]) hUl2 (hus.grow g2') hq
     rw[List.map_append] at this
     exact this
  rintro H11 ⟨g11,hR11⟩
  rw[List.length_map,lts,List.take_length] at hR11
  have hall:=Eu pl.bar yy xx ⟨pl.state.bass.at_ pl.bar xx 0,pl.state.treble.at_ pl.bar xx 1⟩ pl.begun tm
  dsimp only at hall
  rw[←hf0,←hf1,hev] at hall
  rw[hall] at hR11
  have hun:pl.begin_.untold=Rol.eventsAt pl.bar xx yy ⟨pl.state.bass.at_ pl.bar xx 0,pl.state.treble.at_ pl.bar xx 1⟩ pl.begun tm:=by
   rw[hxx,hyy,htm]
   rfl
  rw[←hun] at hR11
  refine⟨_,rfl,A'.p,C.CP,dx,_,rfl,g11 _ _ hp10,T.cl,T.no _ dk,(by show 10<1000;decide),?_⟩
  refine⟨_,rfl,_,_,rfl,rfl,_,rfl,A'.p,C.CP,dx,_,rfl,aj,T.cl,T.no _ dk,(by show 10<1000;decide),?_⟩
  rw[cG]
  dsimp only
  refine via (F:=λH12=>But A'.p H11 H12/\H12 A'.p=some (.ins C.CP dx (plv A'.ba A'.pa A'.ta A'.sia A'.ra (pl.begun+1) tm U pl.over pl.done))) ?_ ?_
  ·refine⟨But.upd _ _ _,?_⟩
   rw[aj]
   rfl
  rintro H12 ⟨b12,hp12⟩
  have b512:But A'.p H5 H12:=λb o z n=>b12 _ _ (g11 _ _ (g810 _ _ (b58 _ _ z n))) n
  have hU5:H5 U=none:=by
   have z10:H8 U=none:=g810.fresh hU
   cases hz:H5 U with
   |none=>rfl
   |some o =>
    by_cases e:U=A'.p
    ·rw[e,hp8] at z10
     cases z10
    ·rw[b58 _ _ hz e] at z10
     cases z10
  have nUp:U≠A'.p:=(aa hp5 hU5).symm
  have bk5:∀b o,H b=some o->b≠A'.ta->b≠A'.s0->b≠A'.s1->b≠A'.p->H12 b=some o:=λb o z n1 n2 n3 n4=>b512 _ _ (kp5 _ _ z n1 n2 n3) n4
  have hUH:U∉A'.all:=by
   intro hx
   obtain⟨o,ho1,_⟩:=h.kind U hx
   by_cases e1:U=A'.ta
   ·obtain⟨dxz,hz⟩:=htn5.obj
    rw[←e1,hU5] at hz
    cases hz
   ·by_cases e2:U=A'.s0
    ·obtain⟨dxz,hz⟩:=q0
     rw[←e2,hU5] at hz
     cases hz
    ·by_cases e3:U=A'.s1
     ·obtain⟨dxz,hz⟩:=q1
      rw[←e3,hU5] at hz
      cases hz
     ·rw[kp5 _ _ ho1 e1 e2 e3] at hU5
      cases hU5
  have hlaA:la'∉A'.all:=λhx=>h.there la' hx hlaH
  have nUla:U≠la':=(aa htn5.lst hU5).symm
  obtain⟨A2,hA2⟩:∃A2:PAd,A2={ A' with la:=la',ua:=U }:=⟨_,rfl⟩
  have hall2:A2.all=(A'.all.set 0 U).set 5 la':=by
   rw[hA2]
   rfl
  have nd2:A2.all.Nodup:=by
   rw[hall2]
   refine tH (tH nd hUH 0) ?_ 5
   intro hx
   rcases List.mem_or_eq_of_mem_set hx with y|y
   ·exact hlaA y
   ·exact nUla y.symm
  have hnew:∀x,x∈A2.all->x∈A'.all∨H x=none:=by
   intro x hx
   rw[hall2] at hx
   rcases List.mem_or_eq_of_mem_set hx with y|y
   ·rcases List.mem_or_eq_of_mem_set y with y|y
    ·exact .inl y
    ·right
     rw[y]
     cases hz:H U with
     |none=>rfl
     |some o =>
      have n1:U≠A'.ta:=λe=>hUH (e▸mi 6 rfl)
      have n2:U≠A'.s0:=λe=>hUH (e▸mi 4 rfl)
      have n3:U≠A'.s1:=λe=>hUH (e▸mi 3 rfl)
      rw[kp5 _ _ hz n1 n2 n3] at hU5
      cases hU5
   ·exact .inr (y▸hlaH)
  have fin:∀H13:Hp,But A'.p H12 H13->H13 A'.p=some (.ins C.CP dx (plv A'.ba A'.pa A'.ta A'.sia A'.ra (pl.begun+1) tm U pl.over pl.begin_.done))->Q .non H13:=by
   intro H13 b13 hp13
   have bk:∀b o,H b=some o->b≠A'.ta->b≠A'.s0->b≠A'.s1->b≠A'.p->H13 b=some o:=λb o z n1 n2 n3 n4=>b13 _ _ (bk5 _ _ z n1 n2 n3 n4) n4
   have b5:But A'.p H5 H13:=b512.trans b13
   have th13:∀x,H x≠none->H13 x≠none:=λx hx=>by
    cases hz:H x with
    |none=>exact absurd hz hx
    |some o =>
     by_cases e1:x=A'.ta
     ·obtain⟨dxz,hz'⟩:=htn5.obj
      rw[e1,b5 _ _ hz' (Ne.symm npt)]
      exact Option.some_ne_none _
     ·by_cases e2:x=A'.s0
      ·obtain⟨dxz,hz'⟩:=q0
       rw[e2,b5 _ _ hz' (Ne.symm nps0)]
       exact Option.some_ne_none _
      ·by_cases e3:x=A'.s1
       ·obtain⟨dxz,hz'⟩:=q1
        rw[e3,b5 _ _ hz' (Ne.symm nps1)]
        exact Option.some_ne_none _
       ·by_cases e4:x=A'.p
        ·rw[e4,hp13]
         exact Option.some_ne_none _
        ·rw[bk _ _ hz e1 e2 e3 e4]
         exact Option.some_ne_none _
   refine k H13 A2 (by rw[hA2]) nd2 ⟨λb o z n=>bk _ _ z (λe=>n (e▸mi 6 rfl)) (λe=>n (e▸mi 4 rfl)) (λe=>n (e▸mi 3 rfl)) (λe=>n (e▸mi 12 rfl)),hnew,th13⟩ ?_
   have cp:=h.comp (H':=H13) [12,6,5,4,3,0] λb o z y=>by
    rcases y with ⟨j,hj,ha⟩|⟨xs,rfl⟩
    ·simp only[List.mem_cons,List.not_mem_nil,or_false,not_or] at hj
     exact bk _ _ z (bZ nd ha (j:=6) rfl hj.2.1) (bZ nd ha (j:=4) rfl hj.2.2.2.1) (bZ nd ha (j:=3) rfl hj.2.2.2.2.1) (bZ nd ha (j:=12) rfl hj.1)
    ·exact bk _ _ z (λe=>h.tup z (e▸mi 6 rfl)) (λe=>h.tup z (e▸mi 4 rfl)) (λe=>h.tup z (e▸mi 3 rfl)) (λe=>h.tup z (e▸mi 12 rfl))
   subst hA2
   refine⟨⟨dx,?_⟩,cp.bar (by decide) (by decide) (by decide),cp.pace (by decide) (by decide),?_,cp.sl (by decide),?_,?_,cp.rows (by decide),?_,fine.begin_ hbg⟩
   ·rw[hp13]
    have:pl.begin_.time=tm:=by
     rw[htm]
     rfl
    show _=some (HO.ins C.CP dx (plv A'.ba A'.pa A'.ta A'.sia A'.ra (pl.begun+1) pl.begin_.time U pl.over pl.begin_.done))
    rw[this]
   ·refine htn5.keep λb o z y=>b5 _ _ z ?_
    rcases y with rfl|rfl
    ·exact Ne.symm npt
    ·exact bI htn5.lst hp5 (by intro y;cases y)
   ·have:pl.begin_.state.bass=pl.state.bass.at_ pl.bar xx 0:=by
     rw[hxx]
     rfl
    show SdA C.CD H13 A'.s0 A'.ba 0 pl.begin_.state.bass
    rw[this]
    exact q0.keep λo z=>b5 _ _ z (Ne.symm nps0)
   ·have:pl.begin_.state.treble=pl.state.treble.at_ pl.bar xx 1:=by
     rw[hxx]
     rfl
    show SdA C.CD H13 A'.s1 A'.ba 1 pl.begin_.state.treble
    rw[this]
    exact q1.keep λo z=>b5 _ _ z (Ne.symm nps1)
   ·refine hR11.keep λb o z y=>b13 _ _ (b12 _ _ z ?_) ?_ <;>
    ·rcases y with rfl|⟨xs,rfl⟩
     ·exact nUp
     ·exact bI z (g11 _ _ hp10) (by intro y;cases y)
  have hbd:=xJ hdn hbg
  obtain⟨dxb,bfa,bsa,bts,bkts,hb1,_⟩:=(barK (Hx:=H12) bk5).ex
  obtain⟨ys,hra,lra⟩:=h.rows.no
  have hra12:H12 A'.ra=some (.lst ys):=bk5 _ _ hra (bZ nd (i:=1) (j:=6) rfl rfl (by decide)) (bZ nd (i:=1) (j:=4) rfl rfl (by decide)) (bZ nd (i:=1) (j:=3) rfl rfl (by decide)) (bZ nd (i:=1) (j:=12) rfl rfl (by decide))
  refine⟨_,rfl,A'.p,C.CP,dx,_,_,rfl,hp12,T.cl,T.no _ dk,rfl,_,rfl,?_⟩
  cases ho:pl.over with
  |false =>
   rw[ho] at hbd hp12
   rw[Bool.false_and] at hbd
   refine aV Bool.false_ne_true (aV Bool.false_ne_true ?_)
   refine fin H12 (But.refl _ _) ?_
   rw[hp12,hbd,hdn,ho]
  |true =>
   rw[ho] at hbd hp12
   rw[Bool.true_and] at hbd
   refine aM rfl ?_
   refine⟨_,rfl,A'.p,C.CP,dx,_,_,rfl,hp12,T.cl,T.no _ dk,rfl,_,rfl,A'.p,C.CP,dx,_,_,rfl,hp12,T.cl,T.no _ dk,rfl,A'.ra,_,rfl,.inl (SqL.of hra12),_,rfl,A'.p,C.CP,dx,_,_,rfl,hp12,T.cl,T.no _ dk,rfl,A'.ba,C.CB,dxb,_,_,rfl,hb1,TB.cl,TB.no _ dk,rfl,_,_,rfl,rfl,_,_,rfl,rfl,rfl,_,rfl,?_⟩
   rw[hbi.tail,lra]
   by_cases hc:pl.begun+1=pl.fed.length+pl.bar.tail+1
   ·rw[decide_eq_true hc] at hbd
    refine aM (decide_eq_true ?_) ?_
    ·show V.int ((pl.begun+1:Nat):Int)=V.int ((pl.fed.length:Int)+(pl.bar.tail:Int)+1)
     rw[hc]
     push_cast
     rfl
    ·refine⟨_,rfl,A'.p,C.CP,dx,_,rfl,hp12,T.cl,T.no _ dk,(by show 10<1000;decide),?_⟩
     refine fin _ (But.upd _ _ _) ?_
     rw[aj,hbd,ho]
     rfl
   ·rw[decide_eq_false hc] at hbd
    refine aV ?_ ?_
    ·rw[decide_eq_false]
     ·exact Bool.false_ne_true
     ·intro z
      injection z with z
      push_cast at z
      omega
    ·refine fin H12 (But.refl _ _) ?_
     rw[hp12,hbd,hdn,ho]
end
noncomputable abbrev wU:Stmt:=inClass (top 74) 9
noncomputable abbrev Al:Stmt:=inClass (top 74) 3
theorem g_via{i:Nat}{v:V}{σ:L2.St}{H:Hp}{Q:L2.St->Hp->Prop}{F:Hp->Prop}(hF:F H)(h:∀y,F y->Q (σ.set i (some v)) y):pF i v σ H Q:=h H hF
noncomputable def Ez:Stmt->Expr
 |.Expr e _=>e
 |_=>.Name "x" ⟨0,0,0,0⟩
theorem yp(p:Rol.Player):(if p.begun=0 then [] else Rol.Row.tracks p.bar.wide (p.sounds p.lastRow))=Rol.Row.tracks p.bar.wide (Player.nowX p):=by
 unfold Player.nowX
 by_cases h:p.begun=0
 ·rw[if_pos h,if_pos h]
  unfold Rol.Row.tracks Rol.Row.hole
  rw[List.filter_eq_nil_iff.mpr]
  intro t _
  rw[Nat.zero_testBit]
  exact Bool.false_ne_true
 ·rw[if_neg h,if_neg h]
  rfl
theorem FN(p:Rol.Player):RolG.nowNums p=([p.begun,p.fed.length-p.begun,p.untold.length,if p.done=true then 2 else if p.over=true then 1 else 0,p.time]++[p.state.bass.lock,p.state.treble.lock]++[p.state.bass.swell,p.state.treble.swell])++Rol.Row.tracks p.bar.wide (Player.nowX p):=by
 unfold RolG.nowNums
 rw[yp]
 rfl
section
variable {C:PCl}{fP fB fE fL fT fD CN fN:Addr}
def spNow(C:PCl):Sp:=λvs H Q _=>∃(A:PAd) (pl:Rol.Player),vs=[.ref A.p]/\fJ C A H pl/\∀H' l,aN H H'->H l=none->H' l=some (.lst (nV (RolG.nowNums pl)))->Q (.ref l) H'
theorem yV:aJ ["self","waiting","numbers","side"] ["self"] (aA wU):=sc0
theorem blkN1:gM ["self","waiting","numbers","side"] (aA wU) (Fo (Ez ((cY wU).getD 2 (.Pass ⟨0,0,0,0⟩)))) [("side",3)]:=⟨rfl,dk,dk,dk,dk⟩
theorem blkN2:gM ["self","waiting","numbers","side"] (aA wU) (Fo (Ez ((cY wU).getD 3 (.Pass ⟨0,0,0,0⟩)))) [("side",3)]:=⟨rfl,dk,dk,dk,dk⟩
theorem ok_now{f fSo fSg:Addr}{fd fdSo fdSg:FuncData}(F:Fun K "now" "Player.now" wU f fd)(T:KC K mg "Player" C.CP fP cQ)(TT:KC K mg "Tones" C.CT fT fV)(TD:KC K mg "Side" C.CD fD cR)(len:mg "len"=none)(hmax:mg "max"=none)(hlist:mg "list"=none)(MSo:FM K C.CT "sounding" "Tones.sounding" ir ["self"] fSo fdSo)(GSo:aF P w K mg base CX0 1 fSo fdSo ["self"] (j4 C.CT))(MSg:FM K C.CP "stage" "Player.stage" vm ["self"] fSg fdSg)(GSg:aF P w K mg base CX0 1 fSg fdSg ["self"] (Bh C)):aF P w K mg base CX0 2 f fd ["self"] (spNow C):=by
 refine F.ok yV (λvs H Q E h=>?_) (λcdv A outer s H vs Q E hr h=>?_)
 ·obtain⟨A,pl,rfl,_⟩:=h
  rfl
 ·obtain⟨A',pl,rfl,h,k⟩:=h
  refine⟨_,aq (aP (i:=1) yV.nd rfl (Or.inl rfl) (bJ (jA rfl) (by rfl) hmax PyProof.Rows.boot_max (ak (bc dW (bJ bz (by rfl) len PySem.boot_len (ak (aB (pv 0) rfl) au)) (aB (pv 0) rfl)) (ak aC au))))
   (aq (aP (i:=2) yV.nd rfl (Or.inl rfl) (cD (ak (aB (pv 0) rfl) (ak (pv 1) (ak (bJ bz (by rfl) len PySem.boot_len (ak (aB (pv 0) rfl) au)) (ak (cO (pv 0) T.cl MSg.mt GSg hr MSg.bd .nil aX) (ak (aB (pv 0) rfl) au)))))))
   (aq (bh (f9 PySem.F.plainAttrs_list PySem.F.slot_list_extend PySem.F.type_list_extend eO (pv 2) (ak (wC (own:=[("side",3)]) rfl yV.nd (gb (aB (pv 0) rfl)) blkN1 (λ_ _ _ _ _=>cF (i:=3) yV.nd rfl (.inl rfl)) (λ_ _ _ _ _=>jH) (λ_ _ _ _ _=>uR (K:=K) (pv 3) rfl rfl)) au)))
   (aq (bh (f9 PySem.F.plainAttrs_list PySem.F.slot_list_extend PySem.F.type_list_extend eO (pv 2) (ak (wC (own:=[("side",3)]) rfl yV.nd (gb (aB (pv 0) rfl)) blkN2 (λ_ _ _ _ _=>cF (i:=3) yV.nd rfl (.inl rfl)) (λ_ _ _ _ _=>jH) (λ_ _ _ _ _=>uR (K:=K) (pv 3) rfl rfl)) au)))
   (aq (bh (f9 PySem.F.plainAttrs_list PySem.F.slot_list_extend PySem.F.type_list_extend eO (pv 2) (ak (lX (o8 rfl) rfl hlist dk (ak (cO (aB (pv 0) rfl) TT.cl MSo.mt GSo hr MSo.bd .nil aX) au)) au)))
   (az (aO (pv 2))))))),?_⟩
  obtain⟨dx,h1⟩:=h.obj
  obtain⟨xs,hua,lua⟩:=h.un.no
  rw[List.length_map] at lua
  obtain⟨ys,hra,lra⟩:=h.rows.no
  obtain⟨dxt,ht1⟩:=h.tn.obj
  obtain⟨dxs0,hs0⟩:=h.sb
  obtain⟨dxs1,hs1⟩:=h.st
  obtain⟨B,hBX,hbi⟩:=h.bar
  refine⟨_,rfl,A'.p,C.CP,dx,_,_,rfl,h1,T.cl,T.no _ dk,rfl,A'.ra,_,rfl,.inl (SqL.of hra),_,rfl,A'.p,C.CP,dx,_,_,rfl,h1,T.cl,T.no _ dk,rfl,_,_,rfl,rfl,_,_,rfl,?_⟩
  have ew:(if (0:Int) > (ys.length:Int)-(pl.begun:Int) then (0:Int) else (ys.length:Int)-(pl.begun:Int))=((pl.fed.length-pl.begun:Nat):Int):=by
   rw[lra]
   split<;>omega
  dsimp only
  rw[ew]
  refine⟨_,rfl,A'.p,C.CP,dx,_,_,rfl,h1,T.cl,T.no _ dk,rfl,_,rfl,_,rfl,A'.p,C.CP,dx,_,_,rfl,h1,T.cl,T.no _ dk,rfl,A'.ua,_,rfl,.inl (SqL.of hua),_,rfl,A'.p,dx,_,rfl,h1,aY (ns:=cQ) rfl dk,A',pl,rfl,h,_,rfl,A'.p,C.CP,dx,_,_,rfl,h1,T.cl,T.no _ dk,rfl,by show 5<=sizeLine;decide,λL hL=>?_⟩
  rw[lua]
  have g1:aN H (upd H L (.lst (nV [pl.begun,pl.fed.length-pl.begun,pl.untold.length,if pl.done=true then 2 else if pl.over=true then 1 else 0,pl.time]))):=aN.new _ hL
  refine g_via (F:=λH1=>aN H H1/\H1 L=some (.lst (nV [pl.begun,pl.fed.length-pl.begun,pl.untold.length,if pl.done=true then 2 else if pl.over=true then 1 else 0,pl.time]))) ⟨g1,aj⟩ ?_
  rintro H1 ⟨g1,hL1⟩
  refine⟨_,rfl,.inl ⟨rfl,_,SqL.of hL1⟩,_,rfl,A'.p,C.CP,dx,_,_,rfl,g1 _ _ h1,T.cl,T.no _ dk,rfl,A'.sia,rfl,⟨_,SqL.of (g1 _ _ h.sl)⟩,λD hD=>?_⟩
  refine jE (K:=K) (a:=A'.sia) (xs:=[.ref A'.s0,.ref A'.s1]) (λi H'=>aN H1 H'/\H' D=some (.lst ((nV [pl.state.bass.lock,pl.state.treble.lock]).take i))) ?_ ?_ ?_ ?_
  ·exact⟨aN.new (.lst []) hD,aj⟩
  ·rintro i H' _ ⟨g,_⟩
   exact SqL.of (g _ _ (g1 _ _ h.sl))
  ·rintro i xv H' hx ⟨g,hDl⟩
   have gD:∀{o:HO},aN H1 (upd H' D o):=λb o z=>by
    rw[ao (aa z hD)]
    exact g _ _ z
   match i,hx with
   |0,hx =>
    cases hx
    refine⟨rfl,vG (aM rfl ?_)⟩
    refine⟨_,rfl,A'.s0,C.CD,dxs0,_,_,rfl,g _ _ (g1 _ _ hs0),TD.cl,TD.no _ dk,rfl,_,hDl,by show 0<sizeLine;decide,gD,?_⟩
    rw[aj]
    rfl
   |1,hx =>
    cases hx
    refine⟨rfl,vG (aM rfl ?_)⟩
    refine⟨_,rfl,A'.s1,C.CD,dxs1,_,_,rfl,g _ _ (g1 _ _ hs1),TD.cl,TD.no _ dk,rfl,_,hDl,by show 1<sizeLine;decide,gD,?_⟩
    rw[aj]
    rfl
  rintro H2 ⟨g2,hD2⟩
  have hD2:H2 D=some (.lst (nV [pl.state.bass.lock,pl.state.treble.lock])):=hD2
  refine⟨L,D,_,_,rfl,rfl,g2 _ _ hL1,hD2,by show 5+2<=sizeLine;decide,?_⟩
  dsimp only
  refine via (F:=λH3=>aN H H3/\H3 L=some (.lst (nV ([pl.begun,pl.fed.length-pl.begun,pl.untold.length,if pl.done=true then 2 else if pl.over=true then 1 else 0,pl.time]++[pl.state.bass.lock,pl.state.treble.lock])))) ⟨λb o z=>by rw[ao (aa z hL)];exact g2 _ _ (g1 _ _ z),aj⟩ ?_
  rintro H3 ⟨g3,hL3⟩
  refine⟨_,rfl,.inl ⟨rfl,_,SqL.of hL3⟩,_,rfl,A'.p,C.CP,dx,_,_,rfl,g3 _ _ h1,T.cl,T.no _ dk,rfl,A'.sia,rfl,⟨_,SqL.of (g3 _ _ h.sl)⟩,λD' hD'=>?_⟩
  refine jE (K:=K) (a:=A'.sia) (xs:=[.ref A'.s0,.ref A'.s1]) (λi H'=>aN H3 H'/\H' D'=some (.lst ((nV [pl.state.bass.swell,pl.state.treble.swell]).take i))) ?_ ?_ ?_ ?_
  ·exact⟨aN.new (.lst []) hD',aj⟩
  ·rintro i H' _ ⟨g,_⟩
   exact SqL.of (g _ _ (g3 _ _ h.sl))
  ·rintro i xv H' hx ⟨g,hDl⟩
   have gD:∀{o:HO},aN H3 (upd H' D' o):=λb o z=>by
    rw[ao (aa z hD')]
    exact g _ _ z
   match i,hx with
   |0,hx =>
    cases hx
    refine⟨rfl,vG (aM rfl ?_)⟩
    refine⟨_,rfl,A'.s0,C.CD,dxs0,_,_,rfl,g _ _ (g3 _ _ hs0),TD.cl,TD.no _ dk,rfl,_,hDl,by show 0<sizeLine;decide,gD,?_⟩
    rw[aj]
    rfl
   |1,hx =>
    cases hx
    refine⟨rfl,vG (aM rfl ?_)⟩
    refine⟨_,rfl,A'.s1,C.CD,dxs1,_,_,rfl,g _ _ (g3 _ _ hs1),TD.cl,TD.no _ dk,rfl,_,hDl,by show 1<sizeLine;decide,gD,?_⟩
    rw[aj]
    rfl
  rintro H4 ⟨g4,hD4⟩
  have hD4:H4 D'=some (.lst (nV [pl.state.bass.swell,pl.state.treble.swell])):=hD4
  refine⟨L,D',_,_,rfl,rfl,g4 _ _ hL3,hD4,by show 7+2<=sizeLine;decide,?_⟩
  dsimp only
  refine via (F:=λH5=>aN H H5/\H5 L=some (.lst (nV ([pl.begun,pl.fed.length-pl.begun,pl.untold.length,if pl.done=true then 2 else if pl.over=true then 1 else 0,pl.time]++[pl.state.bass.lock,pl.state.treble.lock]++[pl.state.bass.swell,pl.state.treble.swell])))) ⟨λb o z=>by rw[ao (aa z hL)];exact g4 _ _ (g3 _ _ z),aj⟩ ?_
  rintro H5 ⟨g5,hL5⟩
  refine⟨_,rfl,.inl ⟨rfl,_,SqL.of hL5⟩,_,rfl,A'.p,C.CP,dx,_,_,rfl,g5 _ _ h1,T.cl,T.no _ dk,rfl,A'.ta,dxt,_,rfl,g5 _ _ ht1,aY (ns:=fV) rfl dk,A'.ta,A'.la,bM pl,pl.bar.tail,pl.bar.wide,Player.nowX pl,rfl,h.tn.keep (λb o z _=>g5 _ _ z),lg pl,hbi.w2,λH6 d g6 hd hd'=>⟨d,_,rfl,hd',λl2 hl2=>?_⟩⟩
  have ek:((soK pl.bar.wide (Player.nowX pl)).map λq=>kV q.1)=nV (Rol.Row.tracks pl.bar.wide (Player.nowX pl)):=by
   unfold soK nV
   rw[List.map_map]
   rfl
  rw[ek]
  have nLl:L≠l2:=aa (g6 _ _ hL5) hl2
  have hltr:(Rol.Row.tracks pl.bar.wide (Player.nowX pl)).length<=128:=by
   unfold Rol.Row.tracks
   refine Nat.le_trans (List.length_filter_le _ _) ?_
   rw[List.length_range]
   exact hbi.w2
  refine⟨L,l2,_,_,rfl,rfl,by rw[ao nLl];exact g6 _ _ hL5,aj,?_,_,rfl,?_⟩
  ·unfold nV
   rw[List.length_map,List.length_map,sizeLine_eq]
   show 9+_<=16777216
   omega
  ·refine k _ L ?_ hL ?_
   ·intro b o z
    rw[ao (aa z hL),ao (aa (g6 _ _ (g5 _ _ z)) hl2)]
    exact g6 _ _ (g5 _ _ z)
   ·rw[aj,FN]
    unfold nV
    simp only[List.map_append]
end
theorem qX(p:Rol.Player):∀n,bK n p.tell=bK (n+1) p
 |0=>rfl
 |n+1=>by
  show(bK n p.tell).tell=(bK (n+1) p).tell
  rw[qX p n]
theorem jP(k:Nat):∀(m:Nat) {p:Rol.Player},fu p->RolG.telling m k p =
  ((RolG.telling (m-min p.untold.length m) k (bK (min p.untold.length m) p)).1,p.untold.take (min p.untold.length m)++(RolG.telling (m-min p.untold.length m) k (bK (min p.untold.length m) p)).2.1,(RolG.telling (m-min p.untold.length m) k (bK (min p.untold.length m) p)).2.2)
 |0,p,f=>by
  rw[Nat.min_zero]
  rfl
 |m+1,p,f=>by
  cases hu:p.untold with
  |nil =>
   rw[List.length_nil,Nat.zero_min]
   rfl
  |cons e r =>
   have ih:=jP k m f.tell
   have ht:p.tell.untold=r:=by
    rw[nQ f,hu]
    rfl
   rw[ht] at ih
   rw[qY f.good.few,if_pos (by rw[hu];exact List.cons_ne_nil _ _)]
   dsimp only
   rw[hu]
   dsimp only
   have em:min (e::r).length (m+1)=min r.length m+1:=by
    rw[List.length_cons]
    omega
   rw[em,ih,qX,show m+1-(min r.length m+1)=m-min r.length m by omega]
   rfl
theorem qZ(p:Rol.Player):∀n,(bK n p).begun=p.begun/\(bK n p).rows=p.rows/\(bK n p).over=p.over/\(bK n p).fed=p.fed
 |0=>⟨rfl,rfl,rfl,rfl⟩
 |n+1=>by
  obtain⟨h1,h2,h3,h4⟩:=qZ p n
  obtain⟨s1,s2,s3,s4,s5,s6,s7,s8⟩:=mR (bK n p)
  refine⟨s4.trans h1,?_,s8.trans h3,s3.trans h4⟩
  rw[←h2]
  show(bK n p).tell.rows=_
  unfold Rol.Player.rows
  rw[s1,s3,s8]
theorem yZ{p:Rol.Player}(f:fu p){er m:Nat}(hb:p.begun<=er)(hm:p.untold≠[]->m=0):(jy p er≠-1->RolG.telling m (er-p.begun) p=(p,[],jy p er)) /\
  (jy p er=-1->p.done=false/\p.begun<p.rows/\p.begun<er/\RolG.telling m (er-p.begun) p=RolG.telling m (er-(p.begun+1)) p.begin_):=by
 rw[qY f.good.few]
 unfold jy
 by_cases c1:p.untold≠[]
 ·have:=hm c1
  subst this
  rw[if_pos c1,if_pos c1]
  exact⟨λ_=>rfl,λz=>absurd z (by decide)⟩
 rw[if_neg c1,if_neg c1]
 by_cases c2:p.done=true
 ·rw[if_pos c2,if_pos c2]
  exact⟨λ_=>rfl,λz=>absurd z (by decide)⟩
 rw[if_neg c2,if_neg c2]
 have hd:p.done=false:=by simpa using c2
 by_cases c3:p.begun=er
 ·rw[if_pos c3,if_pos (show er-p.begun=0 by omega)]
  exact⟨λ_=>rfl,λz=>absurd z (by decide)⟩
 rw[if_neg c3,if_neg (show ¬er-p.begun=0 by omega)]
 have hbg:=f.good.bg
 by_cases c4:p.begun=p.fed.length/\p.over=false
 ·rw[if_pos c4,if_pos (show p.rows<=p.begun by unfold Rol.Player.rows;rw[c4.2];simp only[Bool.false_eq_true,if_false];omega)]
  exact⟨λ_=>rfl,λz=>absurd z (by decide)⟩
 ·have hlt:p.begun<p.rows:=by
   cases ho:p.over with
   |false =>
    have hr:p.rows=p.fed.length:=by
     unfold Rol.Player.rows
     rw[ho]
     rfl
    have:p.begun≠p.fed.length:=λz=>c4 ⟨z,ho⟩
    omega
   |true =>
    unfold Rol.Player.done at hd
    rw[ho] at hd
    simp only[Bool.true_and,Bool.or_eq_false_iff,decide_eq_false_iff_not] at hd
    omega
  rw[if_neg c4,if_neg (show ¬p.rows<=p.begun by omega)]
  refine⟨λz=>absurd rfl z,λ_=>⟨hd,hlt,by omega,?_⟩⟩
  rw[show er-p.begun-1=er-(p.begun+1) by omega]
section
variable {C:PCl}{fP fB fE fL fT fD CN fN:Addr}
def HH(C:PCl):Sp:=λvs H Q _=>∃(p:Addr) (pl:Rol.Player) (fq:Addr->Prop) (k m:Nat),vs=[.ref p,.int (k:Nat),.int (m:Nat)]/\Pl C H p pl fq /\
 ∀H' fq' t D,Mv H fq H' fq'->Pl C H' p (RolG.telling (min m 512) k pl).1 fq'->H' t=some (.tup [.int (RolG.telling (min m 512) k pl).2.2,.ref D])->cM H' D ((RolG.telling (min m 512) k pl).2.1.map ev5)->¬fq' D->H D=none->(RolG.telling (min m 512) k pl).2.1.length<=512->Q (.ref t) H'
theorem JR:aJ ["self","most_rows","most_told","end_row","told","standing"] ["self","most_rows","most_told"] (aA Al):=sc0
theorem Jk{f fTe fSd fBn:Addr}{fd fdTe fdSd fdBn:FuncData}(F:Fun K "take_step" "Player.take_step" Al f fd)(T:KC K mg "Player" C.CP fP cQ)(TS:o6 mg)(hmin:mg "min"=none)(MTe:FM K C.CP "tell" "Player.tell" Am ["self","told","most"] fTe fdTe)(GTe:aF P w K mg base CX0 1 fTe fdTe ["self","told","most"] (HJ C))(MSd:FM K C.CP "standing" "Player.standing" jK ["self","end_row"] fSd fdSd)(GSd:aF P w K mg base CX0 1 fSd fdSd ["self","end_row"] (qQ C))(MBn:FM K C.CP "begin_row" "Player.begin_row" jx ["self"] fBn fdBn)(GBn:aF P w K mg base CX0 5 fBn fdBn ["self"] (Av C)):aF P w K mg base CX0 6 f fd ["self","most_rows","most_told"] (HH C):=by
 refine F.ok JR (λvs H Q E h=>?_) (λcdv A outer s H vs Q E hr h=>?_)
 ·obtain⟨p,pl,fq,k,m,rfl,_⟩:=h
  rfl
 ·obtain⟨p,pl,fq,kk,m,rfl,hPl,k⟩:=h
  obtain⟨A0,rfl,rfl,nd0,h0⟩:=hPl
  obtain⟨t1,m1⟩:=TS.mt
  obtain⟨t2,m2⟩:=TS.gm
  have hr1:bY 1 _:=hr.mono (by decide)
  refine⟨_,aq (aP (i:=3) JR.nd rfl (Or.inl rfl) (bc cV (aB (pv 0) rfl) (pv 1)))
   (aq (aP (i:=4) JR.nd rfl (Or.inl rfl) (cD au))
   (az (eX PassesOwn.never (cH lA)
    (aq (bh (aQ (pv 0) T.cl MTe.mt GTe hr1 MTe.bd .nil aX (ak (pv 4) (ak (bJ (jB rfl) (by rfl) hmin PyProof.Rows.boot_min (ak (pv 2) (ak (aD (v:=.int 512) rfl m1 ⟨t1,rfl⟩) au))) au))))
    (aq (aP (i:=5) JR.nd rfl (Or.inl rfl) (aQ (pv 0) T.cl MSd.mt GSd hr1 MSd.bd .nil aX (ak (pv 3) au)))
    (aq (cA (bG G5 (pv 5) (aD (v:=.int (-1)) rfl m2 ⟨t2,rfl⟩) (bQ _)) (az (aO (eE (ak (pv 5) (ak (pv 4) au))))) aZ)
    (az (bh (cO (pv 0) T.cl MBn.mt GBn hr MBn.bd .nil aX)))))))))
   ,?_⟩
  obtain⟨dx,h1⟩:=h0.obj
  obtain⟨mm,hmm⟩:∃mm,mm=min m 512:=⟨_,rfl⟩
  rw[←hmm] at k
  obtain⟨er,her⟩:∃er,er=pl.begun+kk:=⟨_,rfl⟩
  refine⟨_,rfl,A0.p,C.CP,dx,_,_,rfl,h1,T.cl,T.no _ dk,rfl,_,rfl,_,_,rfl,rfl,Nat.zero_le _,λD hD=>?_⟩
  have nD0:D∉A0.all:=λhx=>h0.there D hx hD
  refine⟨λn σ H'=>∃(A1:PAd) (pl1:Rol.Player) (evs:List Rol.Event) (v:Option V),n=pl1.rows-pl1.begun/\σ=[some (.ref A0.p),some (.int (kk:Nat)),some (.int (m:Nat)),some (.int (er:Nat)),some (.ref D),v]/\A1.p=A0.p/\A1.all.Nodup/\fJ C A1 H' pl1/\Mv H (λx=>x∈A0.all) H' (λx=>x∈A1.all)/\D∉A1.all/\cM H' D (evs.map ev5)/\evs.length<=mm/\pl1.begun<=er /\
   RolG.telling mm kk pl=((RolG.telling (mm-evs.length) (er-pl1.begun) pl1).1,evs++(RolG.telling (mm-evs.length) (er-pl1.begun) pl1).2.1,(RolG.telling (mm-evs.length) (er-pl1.begun) pl1).2.2),
   ⟨_,A0,pl,[],none,rfl,?_,rfl,nd0,h0.stay (λb o z _=>aN.new _ hD _ _ z),⟨λb o z _=>aN.new _ hD _ _ z,λx hx=>.inl hx,(aN.new _ hD).some'⟩,nD0,⟨[],aj,.nil⟩,Nat.zero_le _,by omega,?_⟩,?_⟩
  ·rw[her]
   show _=[some (V.ref A0.p),some (V.int (kk:Nat)),some (V.int (m:Nat)),some (V.int ((pl.begun+kk:Nat):Int)),some (V.ref D),none]
   rw[show((pl.begun+kk:Nat):Int)=(pl.begun:Int)+(kk:Int) by omega]
   rfl
  ·rw[show er-pl.begun=kk by omega,List.length_nil,Nat.sub_zero]
   rfl
  rintro n σ H' ⟨A1,pl1,evs,v,rfl,rfl,e1,nd1,h',mv,nD1,hR,hle,hbe,htel⟩
  refine⟨_,rfl,aM rfl ?_⟩
  refine⟨λσ' H2=>∃(A2:PAd) (pl2:Rol.Player) (evs:List Rol.Event) (v:Option V),pl2.rows-pl2.begun<pl1.rows-pl1.begun/\σ'=[some (.ref A0.p),some (.int (kk:Nat)),some (.int (m:Nat)),some (.int (er:Nat)),some (.ref D),v]/\A2.p=A0.p/\A2.all.Nodup/\fJ C A2 H2 pl2/\Mv H (λx=>x∈A0.all) H2 (λx=>x∈A2.all)/\D∉A2.all/\cM H2 D (evs.map ev5)/\evs.length<=mm/\pl2.begun<=er /\
   RolG.telling mm kk pl=((RolG.telling (mm-evs.length) (er-pl2.begun) pl2).1,evs++(RolG.telling (mm-evs.length) (er-pl2.begun) pl2).2.1,(RolG.telling (mm-evs.length) (er-pl2.begun) pl2).2.2),?_,?_⟩
  ·rintro σ' H2 ⟨A2,pl2,evs2,v2,q0,q1,q2,q3,q4,q5,q6,q7,q8,q9,q10⟩
   exact⟨_,q0,A2,pl2,evs2,v2,rfl,q1,q2,q3,q4,q5,q6,q7,q8,q9,q10⟩
  obtain⟨dx1,hp1⟩:=h'.obj
  rw[e1] at hp1
  have em:(if (512:Int)<(m:Int) then (512:Int) else (m:Int))=((mm:Nat):Int):=by
   rw[hmm]
   split<;>omega
  refine⟨_,rfl,A0.p,dx1,_,rfl,hp1,aY (ns:=cQ) rfl dk,_,rfl,_,rfl,_,_,rfl,?_⟩
  dsimp only
  rw[em]
  have hm5:mm<=512:=by omega
  clear em hmm
  have fine1:=h'.fine
  refine⟨A1,D,pl1,evs.map ev5,mm,by rw[e1];rfl,nd1,h',hR,nD1,hm5,λH2 kp2 h2 hR2=>?_⟩
  rw[List.length_map] at h2 hR2
  obtain⟨nn,hnn⟩:∃nn,nn=min pl1.untold.length (mm-evs.length):=⟨_,rfl⟩
  rw[←hnn] at h2 hR2
  have hn1:nn<=pl1.untold.length:=by omega
  have hn2:nn<=mm-evs.length:=by omega
  rw[←List.map_append] at hR2
  have htt:=jP (er-pl1.begun) (mm-evs.length) fine1
  rw[←hnn] at htt
  obtain⟨ts1,ts2,ts3,ts4⟩:=qZ pl1 nn
  have hun:=gh fine1 nn
  have fine2:=fine1.tells nn
  have hlen2:(evs++pl1.untold.take nn).length=evs.length+nn:=by
   rw[List.length_append,List.length_take,Nat.min_eq_left hn1]
  have htel2:RolG.telling mm kk pl=((RolG.telling (mm-(evs++pl1.untold.take nn).length) (er-(bK nn pl1).begun) (bK nn pl1)).1,(evs++pl1.untold.take nn)++(RolG.telling (mm-(evs++pl1.untold.take nn).length) (er-(bK nn pl1).begun) (bK nn pl1)).2.1,(RolG.telling (mm-(evs++pl1.untold.take nn).length) (er-(bK nn pl1).begun) (bK nn pl1)).2.2):=by
   rw[htel,htt,hlen2,ts1,show mm-(evs.length+nn)=mm-evs.length-nn by omega]
   dsimp only
   rw[List.append_assoc]
  have mv2:Mv H (λx=>x∈A0.all) H2 (λx=>x∈A1.all):=by
   refine⟨λb o z n=>?_,mv.new,λx hx=>?_⟩
   rotate_left
   ·have hx':=mv.th x hx
    by_cases y1:x∈A1.all
    ·exact h2.there x y1
    ·by_cases y2:x=D
     ·obtain⟨xs,hq,_⟩:=hR2.no
      rw[y2,hq]
      exact Option.some_ne_none _
     ·cases hz:H' x with
      |none=>exact absurd hz hx'
      |some o =>
       rw[kp2 _ _ hz y1 y2]
       exact Option.some_ne_none _
   have nb:b≠D:=aa z hD
   have hb':=mv.off _ _ z n
   refine kp2 _ _ hb' (λhx=>?_) nb
   rcases mv.new b hx with y|y
   ·exact n y
   ·rw[y] at z
    cases z
  generalize hpl2:bK nn pl1=pl2 at h2 hun fine2 htel2 ts1 ts2 ts3 ts4
  generalize hevs2:evs++pl1.untold.take nn=evs2 at hR2 hlen2 htel2
  have hmz:pl2.untold≠[]->mm-evs2.length=0:=by
   intro hne
   rw[hun] at hne
   have:0<(pl1.untold.drop nn).length:=List.length_pos_iff.mpr hne
   rw[List.length_drop] at this
   omega
  have hbe2:pl2.begun<=er:=by omega
  obtain⟨st1,st2⟩:=yZ fine2 (er:=er) (m:=mm-evs2.length) hbe2 hmz
  obtain⟨dx2,hp2⟩:=h2.obj
  rw[e1] at hp2
  refine⟨_,rfl,A0.p,dx2,_,rfl,hp2,aY (ns:=cQ) rfl dk,_,rfl,A1,pl2,er,by rw[e1];rfl,h2,?_⟩
  refine⟨_,rfl,rfl,_,rfl,?_⟩
  by_cases c:jy pl2 er=-1
  ·obtain⟨hd2,hb2,hb3,ht2⟩:=st2 c
   refine aV (by rw[c];decide) ?_
   refine⟨_,rfl,A0.p,dx2,_,rfl,hp2,aY (ns:=cQ) rfl dk,A1,pl2,by rw[e1];rfl,nd1,h2,hd2,hb2,λH3 A3 e3 nd3 mv3 h3=>?_⟩
   have nD3:D∉A3.all:=by
    intro hx
    rcases mv3.new D hx with y|y
    ·exact nD1 y
    ·obtain⟨xs,hq,_⟩:=hR2.no
     rw[hq] at y
     cases y
   refine⟨A3,pl2.begin_,evs2,_,?_,rfl,e3.trans e1,nd3,h3,mv2.trans mv3,nD3,?_,by clear hnn st1 st2;omega,?_,?_⟩
   ·rw[iR,eG]
    clear hnn st1 st2 hn2 hn1
    omega
   ·refine hR2.keep λb o z y=>mv3.off _ _ z ?_
    rcases y with rfl|⟨xs,rfl⟩
    ·exact nD1
    ·exact h2.tup z
   ·rw[eG]
    exact hb3
   ·rw[eG,htel2,ht2]
  ·have ht2:=st1 c
   rw[ht2] at htel2
   rw[List.append_nil] at htel2
   rw[htel2] at k
   refine aM (by simpa using c) ?_
   refine⟨_,rfl,_,rfl,by show 2<=sizeLine;decide,λt ht=>?_⟩
   have g3:aN H2 (upd H2 t (.tup [.int (jy pl2 er),.ref D])):=aN.new _ ht
   refine k _ (λx=>x∈A1.all) t D ⟨λb o z n=>g3 _ _ (mv2.off _ _ z n),mv2.new,λx hx=>g3.some' x (mv2.th x hx)⟩ ⟨A1,e1,rfl,nd1,h2.stay λb o z _=>g3 _ _ z⟩ aj (hR2.keep λb o z _=>g3 _ _ z) nD1 hD ?_
   show evs2.length<=512
   clear hnn st1 st2
   omega
end
noncomputable abbrev lK:Stmt:=top 99
def rR(Pl:PlT)(CH:Addr):rT:=λH h s fp=>∃dx,match s with
 |none=>H h=some (.ins CH dx [("player",.non)])/\fp=λx=>x=h
 |some pl=>∃p fq,H h=some (.ins CH dx [("player",.ref p)])/\Pl H p pl fq/\¬fq h/\fp=λx=>x=h∨fq x
theorem Ef{ns tx:List Int}(h:RolGNeutral.asked1 (callOf 1 ns (some tx))=true):∃c q p u:Nat,ns=[(c:Int),(q:Int),(p:Int),(u:Int)]/\AllB tx:=by
 match ns,h with
 |[c,q,p,u],h =>
  have h:(((RolGNeutral.long tx 66000 0 255&&RolGNeutral.whole32 c)&&RolGNeutral.whole32 q)&&RolGNeutral.whole32 p&&RolGNeutral.whole32 u)=true:=h
  simp only[Bool.and_eq_true,RolGNeutral.long,RolGNeutral.whole32,decide_eq_true_eq,List.all_eq_true] at h
  obtain⟨⟨⟨⟨⟨h1,h2⟩,h3⟩,h4⟩,h5⟩,h6⟩:=h
  refine⟨c.toNat,q.toNat,p.toNat,u.toNat,?_,λb hb=>h2 b hb⟩
  rw[Int.toNat_of_nonneg h3.1,Int.toNat_of_nonneg h4.1,Int.toNat_of_nonneg h5.1,Int.toNat_of_nonneg h6.1]
 |[],h=>cases h
 |[_],h=>cases h
 |[_,_],h=>cases h
 |[_,_,_],h=>cases h
 |_::_::_::_::_::_,h=>cases h
theorem xg(c q p u:Nat):inR [(c:Int),(q:Int),(p:Int),(u:Int)]=(⟨c,q,p,u⟩:Rol.Spool).ok:=by
 unfold inR wN Rol.Spool.ok
 simp only[List.zip_cons_cons,List.zip_nil_left,List.all_cons,List.all_nil,Bool.and_true]
 rw[Bool.eq_iff_iff]
 simp only[Bool.and_eq_true,decide_eq_true_eq]
 omega
noncomputable def told1(r:RS×Rol.Ans):RS×List Int:=(r.1,NLines.flat r.2.ret r.2.nums (r.2.text.map λ(b:UInt8)=>(b.toNat:Int)))
theorem CW(s:RS)(c q p u:Nat){tx:List Int}(hb:AllB tx)(hl:tx.length<=30000):RolGNeutral.step s (callOf 1 [(c:Int),(q:Int),(p:Int),(u:Int)] (some tx))=match Rol.readBar (NLines.bytesOf tx) with
  |.error k=>(s,[-6,1,(k:Int),0])
  |.ok b=>if inR [(c:Int),(q:Int),(p:Int),(u:Int)]=true then (some (Rol.opened b ⟨c,q,p,u⟩),[0]) else (s,[-1]):=by
 have ht:¬Rol.TEXT<(NLines.bytesOf tx).length:=by
  rw[dh]
  show ¬65536<tx.length
  omega
 have e1:RolGNeutral.step s (callOf 1 [(c:Int),(q:Int),(p:Int),(u:Int)] (some tx))=told1 (RolG.step s (.open_ (NLines.bytesOf tx) c q p u)):=rfl
 have e2:RolG.step s (.open_ (NLines.bytesOf tx) c q p u)=if Rol.TEXT<(NLines.bytesOf tx).length then (s,Rol.says (-2)) else match Rol.readBar (NLines.bytesOf tx) with
  |.error k=>(s,Rol.tells (-6) [k])
  |.ok b=>if (⟨c,q,p,u⟩:Rol.Spool).ok=true then (some (Rol.opened b ⟨c,q,p,u⟩),Rol.says 0) else (s,Rol.says (-1)):=rfl
 rw[e1,e2,if_neg ht,xg]
 cases Rol.readBar (NLines.bytesOf tx) with
 |error k=>rfl
 |ok b =>
  dsimp only
  by_cases h:(⟨c,q,p,u⟩:Rol.Spool).ok=true
  ·rw[if_pos h,if_pos h]
   rfl
  ·rw[if_neg h,if_neg h]
   rfl
theorem Ju{X:Cx}{o:Expr}{ta:TE}{f:Str}{pos:Pos}{K:PySem.W.Frag}(ho:PE X o ta)(hK:X.K=K)(hbs:attributeBase o f X.env (eval o X.env)=eval o X.env):PE X (.Attribute o f pos) (tFld K ta f):=by
 subst hK
 exact aB ho hbs
section
variable {CC fC CH fH CF fF CR CB CP fP CL fL:Addr}{Pl:PlT}{SpA:SpT}
def wk(Hold:rT)(CC:Addr):Sp:=λvs H Q _=>∃(h c:Addr) (s:RS) (fp:Addr->Prop) (b:Nat) (ns tx:List Int),DG Hold CC vs H Q h c s fp 1 b ns (some tx)
theorem scOp:aJ ["holder","call","bar","fault"] ["holder","call"] (aA lK):=sc0
theorem yG{f fB fW fR:Addr}{fd fdB fdW fdR fdP fdL:FuncData}(F:Fun K "answer_opening" "answer_opening" lK f fd)(T:TxR K mg CF fF CR)(MB:FG K mg "read_bar" JK ["text"] fB fdB)(GB:aF P w K mg base (CXF P w CF "place") 7 fB fdB ["text"] (oBar K CB))(MW:FG K mg "answer_with_list" qK ["number","numbers"] fW fdW)(GW:j9 P w K mg base 1 fW fdW ["number","numbers"] qR)(MR:FG K mg "are_in_range" vd ["numbers"] fR fdR)(GR:aF P w K mg base CX0 1 fR fdR ["numbers"] Bc)(TP:Mk K CP fP)(mP:mg "Player"=some (.ref CP))(bP:Binds K fdP ["self","bar","spool"] [])(GP:aF P w K mg base CX0 6 fP fdP ["self","bar","spool"] (uh Pl SpA CP CB))(TL:Mk K CL fL)(mL:mg "Spool"=some (.ref CL))(bL:Binds K fdL ["self","numbers"] [])(GL:aF P w K mg base CX0 1 fL fdL ["self","numbers"] (wZ SpA CL))(TC:KC K mg "Call" CC fC ik)(TH:KC K mg "Holder" CH fH ["player"])(stay:DW (rR Pl CH))(pstay:∀(H H':Hp) (p:Addr) (pl:Rol.Player) (fq:Addr->Prop),Pl H p pl fq->(∀b o,H b=some o->(fq b∨∃xs,o=.tup xs)->H' b=some o)->Pl H' p pl fq)(sstay:∀(H H':Hp) (a:Addr) (sp:Rol.Spool),SpA H a sp->aN H H'->SpA H' a sp)(mF:∃t,mg "AT_FAULT"=some (.int (-6) t))(mO:∃t,mg "OUT_OF_RANGE_player"=some (.int (-1) t))(mT:∃t,mg "TAKEN"=some (.int 0 t)) :
  aF P w K mg base CX0 8 f fd ["holder","call"] (wk (rR Pl CH) CC):=by
 refine F.ok scOp (λvs H Q E h=>?_) (λcdv A outer s H vs Q E hr h=>?_)
 ·obtain⟨h,c,s,fp,b,ns,tx,rfl,_⟩:=h
  rfl
 ·obtain⟨h,c,s',fp,b,ns,tx,rfl,hold,C,hfp,hsep,hask,htx,hlen,k⟩:=h
  obtain⟨t1,m1⟩:=mF
  obtain⟨t2,m2⟩:=mO
  obtain⟨t3,m3⟩:=mT
  have hr2:bY 2 _:=hr.mono (by decide)
  have hr1:bY 1 _:=hr.mono (by decide)
  have hr3:bY 3 _:=hr.mono (by decide)
  refine⟨_,aq (Af (j:=3) ⟨rfl,rfl⟩ T.xk rfl T.mF scOp.nd rfl rfl
    (λl E=>az (aP (i:=2) scOp.nd rfl (Or.inl rfl) (bU GB hr rfl MB.mg MB.fn.kp MB.bd .nil cT (ak (Ju (K:=K) (pv 1) rfl rfl) au))))
    (λe=>az (aO (wz GW ⟨hr1.dp,hr1.un⟩ rfl MW.mg MW.fn.kp MW.bd (ak (aD (v:=.int (-6)) rfl m1 ⟨t1,rfl⟩) (ak (cD (ak (Ad T.xk (pv 3) rfl) au)) au))))))
   (aq (cA (jw (cH (bU GR hr1 rfl MR.mg MR.fn.kp MR.bd .nil aX (ak (aB (pv 1) rfl) au)))) (az (aO (cD (ak (aD (v:=.int (-1)) rfl m2 ⟨t2,rfl⟩) au)))) aZ)
   (aq (aU (pv 0) (dZ TP GP hr rfl mP bP .nil aX (ak (pv 2) (ak (dZ TL GL hr2 rfl mL bL .nil aX (ak (aB (pv 1) rfl) au)) au))) rfl)
   (az (aO (cD (ak (aD (v:=.int 0) rfl m3 ⟨t3,rfl⟩) au)))))),?_⟩
  obtain⟨cn,qn,pn,un,ens,hby⟩:=Ef hask
  subst ens
  have hlen:tx.length<=30000:=hlen
  rw[CW s' cn qn pn un hby hlen] at k
  have hbar:=Eh hby
  obtain⟨dx,na,ta,hc,hna,hta⟩:=C.ex
  have hta:H ta=some (.lst (tx.map V.int)):=hta
  obtain⟨s1,s2,s3⟩:=hsep dx na ta hc
  refine⟨_,rfl,c,CC,dx,_,_,rfl,hc,TC.cl,TC.no _ dk,rfl,ta,tx,rfl,SqL.of hta,hlen,hby,?_⟩
  have fresh_of:∀{H1:Hp} {a:Addr},aN H H1->H1 a=none->¬fp a:=λg z y=>hfp _ y (g.fresh z)
  have keepH:∀{H1:Hp},aN H H1->rR Pl CH H1 h s' fp:=λ{H1} g=>stay _ _ _ _ _ hold λb o z _=>g _ _ z
  cases hm:Fw tx with
  |error kk =>
   rw[hm] at hbar
   dsimp only at hbar ⊢
   rw[hbar] at k
   dsimp only at k
   intro H1 g1 i ei σ1 e dxe hl1 he hdxe hne
   cases ei
   have hset:(σ1.set 3 (some (V.ref e)))[3]?=some (some (.ref e)):=List.getElem?_set_self (by rw[hl1];show 3<4;decide)
   have g2:aN H (upd (upd H1 dxe (xdH dxe "place" (kk:Int))) e (Ew e CF dxe)):=λb o z=>by
    rw[ao (aa (g1 _ _ z) he),ao (aa (g1 _ _ z) hdxe)]
    exact g1 _ _ z
   refine⟨_,hset,e,dxe,(kk:Int),rfl,aj,by rw[ao hne,aj],by show 1<=sizeLine;decide,λp1 hp1=>?_⟩
   refine⟨-6,p1,[(kk:Int)],rfl,aj,by show 1<=1000000;decide,λH3 a g3 ha hal=>?_⟩
   have g4:=(g2.trans (aN.new (.lst [.int (kk:Int)]) hp1)).trans g3
   have hfa:¬fp a:=fresh_of (g2.trans (aN.new (.lst [.int (kk:Int)]) hp1)) ha
   exact k H3 a fp (g4.off) (keepH g4) (λx hx=>⟨λz=>hfp x hx (g4.fresh z),.inl hx⟩) hfa ((g2.trans (aN.new (.lst [.int (kk:Int)]) hp1)).fresh ha) hal
  |ok B =>
   rw[hm] at hbar
   dsimp only at hbar ⊢
   obtain⟨bb,hrb,hbi⟩:=hbar
   rw[hrb] at k
   dsimp only at k
   intro H1 ba g1 hB
   refine⟨_,rfl,c,CC,dx,_,_,rfl,g1 _ _ hc,TC.cl,TC.no _ dk,rfl,na,_,rfl,g1 _ _ hna,rfl,λH2 g2=>⟨_,rfl,?_⟩⟩
   have g12:=g1.trans g2
   cases hin:inR [(cn:Int),(qn:Int),(pn:Int),(un:Int)] with
   |false =>
    rw[hin] at k
    refine aM rfl ?_
    refine⟨by show 1<=sizeLine;decide,λp1 hp1=>?_⟩
    have g3:=g12.trans (aN.new (.lst [.int (-1)]) hp1)
    exact k _ p1 fp g3.off (keepH g3) (λx hx=>⟨λz=>hfp x hx (g3.fresh z),.inl hx⟩) (fresh_of g12 hp1) (g12.fresh hp1) aj
   |true =>
    rw[hin] at k
    rw[xg] at hin
    refine aV (by decide) ?_
    refine⟨_,rfl,_,rfl,c,CC,dx,_,_,rfl,g12 _ _ hc,TC.cl,TC.no _ dk,rfl,λsa dxs hsa hdxs hns=>⟨sa,dxs,na,cn,qn,pn,un,rfl,aj,?_,λH3 b3 hS=>⟨rfl,?_⟩⟩⟩
    ·rw[ao (aa (g12 _ _ hna) hsa),ao (aa (g12 _ _ hna) hdxs)]
     exact g12 _ _ hna
    ·have g23:aN H2 H3:=λb o z=>b3 b o (by rw[ao (aa z hsa),ao (aa z hdxs)];exact z) (aa z hsa)
     have g13:=g12.trans g23
     intro r dxr hrn hdxr hnr
     have g3':aN H3 (upd (upd H3 dxr (.own r)) r (.ins CP dxr [])):=λb o z=>by
      rw[ao (aa z hrn),ao (aa z hdxr)]
      exact z
     have gB:=(g2.trans g23).trans g3'
     refine⟨H,r,dxr,ba,sa,B,bb,⟨cn,qn,pn,un⟩,rfl,aj,g13.trans g3',g13.fresh hrn,hB.grow gB,hbi,sstay _ _ _ _ hS g3',g12.fresh hsa,hin,λH4 fq b4 hPl hfq=>⟨rfl,?_⟩⟩
     have g34:aN H3 H4:=λb o z=>b4 b o (g3' _ _ z) (aa z hrn)
     have g14:=g13.trans g34
     obtain⟨dxh,hh⟩:∃dxh v,H h=some (.ins CH dxh [("player",v)]):=by
      obtain⟨dxh,hd⟩:=hold
      cases s' with
      |none=>exact⟨dxh,_,hd.1⟩
      |some pl =>
       obtain⟨p',fq',hd,_⟩:=hd
       exact⟨dxh,_,hd⟩
     obtain⟨v,hh⟩:=hh
     have nfh:¬fq h:=λz=>by
      rw[(hfq h z).2] at hh
      cases hh
     refine⟨_,rfl,h,CH,dxh,_,rfl,g14 _ _ hh,TH.cl,TH.no _ dk,(by show 1<1000;decide),?_⟩
     refine⟨by show 1<=sizeLine;decide,λp1 hp1=>?_⟩
     have hph:h≠p1:=aa aj hp1
     have fph:fp h:=by
      obtain⟨dxh,hd⟩:=hold
      cases s' with
      |none =>
       rw[hd.2]
      |some pl =>
       obtain⟨p',fq',_,_,_,hd⟩:=hd
       rw[hd]
       exact .inl rfl
     have hp4:H4 p1=none:=by
      rw[ao (Ne.symm hph)] at hp1
      exact hp1
     refine k _ p1 (λx=>x=h∨fq x) ?_ ⟨dxh,r,fq,?_,?_,nfh,rfl⟩ ?_ ?_ (g14.fresh hp4) aj
     ·intro b o z nf
      have nb:b≠h:=λy=>nf (y▸fph)
      rw[ao (aa (g14 _ _ z) hp4),ao nb]
      exact g14 _ _ z
     ·rw[ao hph,aj]
      rfl
     ·refine pstay _ _ _ _ _ hPl λb o z y=>?_
      have nb:b≠h:=by
       rintro rfl
       rcases y with y|⟨xs,y⟩
       ·exact nfh y
       ·rw[g14 _ _ hh,y] at z
        cases z
      rw[ao (aa z hp4),ao nb]
      exact z
     ·rintro x (rfl|hx)
      ·exact⟨by rw[ao hph,aj];exact Option.some_ne_none _,.inl fph⟩
      ·have hx':=hfq x hx
       refine⟨?_,.inr hx'.2⟩
       by_cases y:x=p1
       ·rw[y,aj]
        exact Option.some_ne_none _
       ·have nxh:x≠h:=λy=>nfh (y▸hx)
        rw[ao y,ao nxh]
        exact hx'.1
     ·rintro(y|y)
      ·exact hph y.symm
      ·exact(hfq p1 y).1 hp4
end
noncomputable abbrev qC:Stmt:=top 97
noncomputable abbrev lD:Stmt:=top 98
noncomputable abbrev lB:Stmt:=top 100
noncomputable abbrev lC:Stmt:=top 101
theorem asked_no{wh:Int}{ns:List Int}{s:List (List Int)}(h:RolGNeutral.asked1 ((wh::ns)::s)=true):wh=1∨wh=2∨wh=3∨wh=4∨wh=5∨wh=6:=by
 by_cases h1:wh=1
 ·exact .inl h1
 by_cases h2:wh=2
 ·exact .inr (.inl h2)
 by_cases h3:wh=3
 ·exact .inr (.inr (.inl h3))
 by_cases h4:wh=4
 ·exact .inr (.inr (.inr (.inl h4)))
 by_cases h5:wh=5
 ·exact .inr (.inr (.inr (.inr (.inl h5))))
 by_cases h6:wh=6
 ·exact .inr (.inr (.inr (.inr (.inr h6))))
 have e:RolGNeutral.asked1 ((wh::ns)::s)=false:=by
  delta RolGNeutral.asked1 RolGNeutral.asked1.match_1
  exact(dif_neg h1).trans ((dif_neg h2).trans ((dif_neg h3).trans ((dif_neg h4).trans ((dif_neg h5).trans (dif_neg h6)))))
 rw[e] at h
 cases h
theorem rY{wh:Int}{ns:List Int}{tx:Option (List Int)}(h:RolGNeutral.asked1 (callOf wh ns tx)=true):wh=1∨(wh=2/\ns=[]/\∃t,tx=some t/\AllB t)∨(wh=3/\ns=[]/\tx=none)∨(wh=4/\tx=none/\∃k m:Nat,ns=[(k:Int),(m:Int)])∨(wh=5/\tx=none/\∃t:Nat,ns=[(t:Int)])∨(wh=6/\ns=[]/\tx=none):=by
 have nn:∀{z:Int},RolGNeutral.whole32 z=true->∃n:Nat,z=(n:Int):=by
  intro z hz
  unfold RolGNeutral.whole32 at hz
  rw[Bool.and_eq_true,decide_eq_true_eq,decide_eq_true_eq] at hz
  exact⟨z.toNat,(Int.toNat_of_nonneg hz.1).symm⟩
 cases tx with
 |none =>
  have h:RolGNeutral.asked1 [wh::ns]=true:=h
  rcases asked_no h with e|e|e|e|e|e<;>subst e
  ·exact .inl rfl
  ·rcases ns with _|⟨_,_⟩<;>cases h
  ·rcases ns with _|⟨_,_⟩
   ·exact .inr (.inr (.inl ⟨rfl,rfl,rfl⟩))
   ·cases h
  ·rcases ns with _|⟨k,_|⟨m,_|⟨_,_⟩⟩⟩
   ·cases h
   ·cases h
   ·have h:(RolGNeutral.whole32 k&&RolGNeutral.whole32 m)=true:=h
    rw[Bool.and_eq_true] at h
    obtain⟨a,ha⟩:=nn h.1
    obtain⟨b,hb⟩:=nn h.2
    exact .inr (.inr (.inr (.inl ⟨rfl,rfl,a,b,by rw[ha,hb]⟩)))
   ·cases h
  ·rcases ns with _|⟨t,_|⟨_,_⟩⟩
   ·cases h
   ·obtain⟨a,ha⟩:=nn (show RolGNeutral.whole32 t=true from h)
    exact .inr (.inr (.inr (.inr (.inl ⟨rfl,rfl,a,by rw[ha]⟩))))
   ·cases h
  ·rcases ns with _|⟨_,_⟩
   ·exact .inr (.inr (.inr (.inr (.inr ⟨rfl,rfl,rfl⟩))))
   ·cases h
 |some t =>
  have h:RolGNeutral.asked1 [wh::ns,t]=true:=h
  rcases asked_no h with e|e|e|e|e|e<;>subst e
  ·exact .inl rfl
  ·rcases ns with _|⟨_,_⟩
   ·have h:RolGNeutral.long t 66000 0 255=true:=h
    unfold RolGNeutral.long at h
    rw[Bool.and_eq_true,List.all_eq_true] at h
    refine .inr (.inl ⟨rfl,rfl,t,rfl,λb hb=>?_⟩)
    have:=h.2 b hb
    rw[Bool.and_eq_true,decide_eq_true_eq,decide_eq_true_eq] at this
    exact this
   ·cases h
  ·rcases ns with _|⟨_,_⟩<;>cases h
  ·rcases ns with _|⟨k,_|⟨m,_|⟨_,_⟩⟩⟩<;>cases h
  ·rcases ns with _|⟨t,_|⟨_,_⟩⟩<;>cases h
  ·rcases ns with _|⟨_,_⟩<;>cases h
theorem zQ(z:Int)(ns:List Int):NLines.flat z ns []=kJ z ns:=by
 unfold NLines.flat kJ
 by_cases h:ns=[]
 ·rw[if_pos ⟨h,rfl⟩,h]
  rfl
 ·rw[if_neg (λy=>h y.1),if_neg (λy=>h (List.length_eq_zero_iff.mp y))]
  rfl
noncomputable def Bs(pl:Rol.Player)(tx:List Int):Rol.Player×List Int:=match jY tx with
 |.error k=>(pl,[-6,1,(k:Int),0])
 |.ok (wd,rows)=>((mZ pl wd rows).2,[(mZ pl wd rows).1])
theorem BP(pl:Rol.Player){tx:List Int}(hb:AllB tx)(hl:tx.length<=30000):RolGNeutral.step (some pl) (callOf 2 [] (some tx))=(some (Bs pl tx).1,(Bs pl tx).2):=by
 have ht:¬Rol.TEXT<(NLines.bytesOf tx).length:=by
  rw[dh]
  show ¬65536<tx.length
  omega
 have e1:RolGNeutral.step (some pl) (callOf 2 [] (some tx))=told1 (RolG.step (some pl) (.feed (NLines.bytesOf tx))):=rfl
 have e2:RolG.step (some pl) (.feed (NLines.bytesOf tx))=if Rol.TEXT<(NLines.bytesOf tx).length then (some pl,Rol.says (-2)) else match Rol.readText (NLines.bytesOf tx) with
  |.error k=>(some pl,Rol.tells (-6) [k])
  |.ok x=>if x.1.wide≠pl.bar.wide then (some pl,Rol.says (-5)) else (some (pl.feed x.1.rows).2,Rol.says (if (pl.feed x.1.rows).1=-2 then -10 else (pl.feed x.1.rows).1)):=rfl
 rw[e1,e2,if_neg ht]
 have hs:=qT hb
 unfold Bs
 cases hm:jY tx with
 |error k =>
  rw[hm] at hs
  have hs:Rol.readText (NLines.bytesOf tx)=.error k:=hs
  rw[hs]
  rfl
 |ok x =>
  obtain⟨wd,rows⟩:=x
  rw[hm] at hs
  obtain⟨h1,h2,h3,h4,n,h5⟩:=hs
  have h5:Rol.readText (NLines.bytesOf tx)=.ok (⟨wd.toNat,rows.map bj⟩,n):=h5
  rw[h5]
  dsimp only
  unfold mZ
  by_cases hw:wd=(pl.bar.wide:Int)
  ·rw[if_neg (show ¬wd.toNat≠pl.bar.wide by omega),if_neg (show ¬wd≠(pl.bar.wide:Int) from λz=>z hw)]
   rfl
  ·rw[if_pos (show wd.toNat≠pl.bar.wide by omega),if_pos hw]
   rfl
theorem last_step(pl:Rol.Player):RolGNeutral.step (some pl) (callOf 3 [] none)=(some pl.last.2,[pl.last.1]):=rfl
theorem yc(pl:Rol.Player)(t:Nat):RolGNeutral.step (some pl) (callOf 5 [(t:Int)] none)=(some (pl.lever t).2,[(pl.lever t).1]):=rfl
noncomputable def DY(pl:Rol.Player)(k m:Nat):Rol.Player×List Int:=((RolG.telling (min m 512) k pl).1,kJ (RolG.telling (min m 512) k pl).2.2 (((RolG.telling (min m 512) k pl).2.1.map ev5).flatten))
theorem Et(l:List Rol.Event):(l.flatMap RolG.eventRow).map (λ(n:Nat)=>(n:Int))=(l.map ev5).flatten:=by
 induction l with
 |nil=>rfl
 |cons e l ih =>
  rw[List.flatMap_cons,List.map_append,ih,List.map_cons,List.flatten_cons]
  rfl
theorem Dn(pl:Rol.Player)(k m:Nat):RolGNeutral.step (some pl) (callOf 4 [(k:Int),(m:Int)] none)=(some (DY pl k m).1,(DY pl k m).2):=by
 have e1:RolGNeutral.step (some pl) (callOf 4 [(k:Int),(m:Int)] none)=(some (RolG.telling (min m 512) k pl).1,NLines.flat (RolG.telling (min m 512) k pl).2.2 (((RolG.telling (min m 512) k pl).2.1.flatMap RolG.eventRow).map (λ(n:Nat)=>(n:Int))) []):=rfl
 rw[e1,zQ,Et]
 rfl
theorem FP(pl:Rol.Player):RolGNeutral.step (some pl) (callOf 6 [] none)=(some pl,kJ 0 ((RolG.nowNums pl).map λ(n:Nat)=>(n:Int))):=by
 have e1:RolGNeutral.step (some pl) (callOf 6 [] none)=(some pl,NLines.flat 0 ((RolG.nowNums pl).map λ(n:Nat)=>(n:Int)) []):=rfl
 rw[e1,zQ]
theorem Cj{wh:Int}{ns:List Int}{tx:Option (List Int)}(h:RolGNeutral.asked1 (callOf wh ns tx)=true)(h1:wh≠1):RolGNeutral.step none (callOf wh ns tx)=(none,[-8]):=by
 rcases rY h with e|⟨rfl,rfl,t,rfl,_⟩|⟨rfl,rfl,rfl⟩|⟨rfl,rfl,k,m,rfl⟩|⟨rfl,rfl,t,rfl⟩|⟨rfl,rfl,rfl⟩
 ·exact absurd e h1
 all_goals rfl
theorem Pl.there{C:PCl}{H:Hp}{p:Addr}{pl:Rol.Player}{fq:Addr->Prop}(h:Pl C H p pl fq):∀x,fq x->H x≠none:=by
 obtain⟨A,rfl,rfl,nd,h⟩:=h
 exact λx hx=>h.there x hx
theorem Pl.grow{C:PCl}{H H':Hp}{p:Addr}{pl:Rol.Player}{fq:Addr->Prop}(h:Pl C H p pl fq)(g:aN H H'):Pl C H' p pl fq:=Pl.stays C H H' p pl fq h λb o z _=>g _ _ z
theorem Pl.obj{C:PCl}{H:Hp}{p:Addr}{pl:Rol.Player}{fq:Addr->Prop}(h:Pl C H p pl fq):∃dx fs,H p=some (.ins C.CP dx fs)/\fs.map (·.1)=cQ:=by
 obtain⟨A,rfl,rfl,nd,h⟩:=h
 obtain⟨dx,h1⟩:=h.obj
 exact⟨dx,_,h1,rfl⟩
theorem Mv.of_grow{H H':Hp}{fq:Addr->Prop}(g:aN H H'):Mv H fq H' fq:=⟨λb o z _=>g _ _ z,λx hx=>.inl hx,g.some'⟩
def j6(C:PCl)(H:Hp)(Q:VK)(p:Addr)(pl:Rol.Player)(fq:Addr->Prop)(r:Rol.Player×List Int):Prop:=Pl C H p pl fq/\∀H' a fq',Mv H fq H' fq'->Pl C H' p r.1 fq'->¬fq' a->H a=none->H' a=some (.lst (r.2.map V.int))->Q (.ref a) H'
theorem j6.fin{C:PCl}{H:Hp}{Q:VK}{p:Addr}{pl pl':Rol.Player}{fq fq':Addr->Prop}{r:Rol.Player×List Int}(k:∀H' a fq',Mv H fq H' fq'->Pl C H' p r.1 fq'->¬fq' a->H a=none->H' a=some (.lst (r.2.map V.int))->Q (.ref a) H'){H1 H2:Hp}{a:Addr}(e:r.1=pl')(mv:Mv H fq H1 fq')(hPl:Pl C H1 p pl' fq')(g:aN H1 H2)(ha:H1 a=none)(h2:H2 a=some (.lst (r.2.map V.int))):Q (.ref a) H2:=by
 refine k H2 a fq' (mv.trans (Mv.of_grow g)) (by rw[e];exact hPl.grow g) (λy=>hPl.there a y ha) ?_ h2
 cases hz:H a with
 |none=>rfl
 |some o=>exact absurd ha (mv.th a (by rw[hz];exact Option.some_ne_none _))
section
variable {C:PCl}{fP CC fC CH fH CF fF CR CS:Addr}
def tX(C:PCl):Sp:=λvs H Q _=>∃(p ta:Addr) (pl:Rol.Player) (fq:Addr->Prop) (tx:List Int),vs=[.ref p,.ref ta]/\H ta=some (.lst (tx.map V.int))/\tx.length<=30000/\AllB tx/\j6 C H Q p pl fq (Bs pl tx)
theorem scAF:aJ ["player","text","strip","fault"] ["player","text"] (aA lB):=sc0
theorem yr{f fS fW fFd:Addr}{fd fdS fdW fdFd:FuncData}(F:Fun K "answer_feeding" "answer_feeding" lB f fd)(T:TxR K mg CF fF CR)(TP:KC K mg "Player" C.CP fP cQ)(MS:FG K mg "read_strip" vo ["text"] fS fdS)(GS:aF P w K mg base (CXF P w CF "place") 6 fS fdS ["text"] (FW K CS))(MW:FG K mg "answer_with_list" qK ["number","numbers"] fW fdW)(GW:j9 P w K mg base 1 fW fdW ["number","numbers"] qR)(MF:FM K C.CP "feed" "Player.feed" Aj ["self","strip"] fFd fdFd)(GF:aF P w K mg base CX0 1 fFd fdFd ["self","strip"] (HD C CS))(mF:∃t,mg "AT_FAULT"=some (.int (-6) t)):aF P w K mg base CX0 7 f fd ["player","text"] (tX C):=by
 refine F.ok scAF (λvs H Q E h=>?_) (λcdv A outer s H vs Q E hr h=>?_)
 ·obtain⟨p,ta,pl,fq,tx,rfl,_⟩:=h
  rfl
 ·obtain⟨p,ta,pl,fq,tx,rfl,hta,hlen,hby,hPl,k⟩:=h
  obtain⟨t1,m1⟩:=mF
  have hr1:bY 1 _:=hr.mono (by decide)
  refine⟨_,aq (Af (j:=3) ⟨rfl,rfl⟩ T.xk rfl T.mF scAF.nd rfl rfl
    (λl E=>az (aP (i:=2) scAF.nd rfl (Or.inl rfl) (bU GS hr rfl MS.mg MS.fn.kp MS.bd .nil cT (ak (pv 1) au))))
    (λe=>az (aO (wz GW ⟨hr1.dp,hr1.un⟩ rfl MW.mg MW.fn.kp MW.bd (ak (aD (v:=.int (-6)) rfl m1 ⟨t1,rfl⟩) (ak (cD (ak (Ad T.xk (pv 3) rfl) au)) au))))))
   (az (aO (cD (ak (aQ (pv 0) TP.cl MF.mt GF hr1 MF.bd .nil aX (ak (pv 2) au)) au)))),?_⟩
  refine⟨_,rfl,ta,tx,rfl,SqL.of hta,hlen,hby,?_⟩
  have hss:=qT hby
  unfold Bs at k
  cases hm:jY tx with
  |error kk =>
   rw[hm] at k
   dsimp only at k ⊢
   intro H1 g1 i ei σ1 e dxe hl1 he hdxe hne
   cases ei
   have hset:(σ1.set 3 (some (V.ref e)))[3]?=some (some (.ref e)):=List.getElem?_set_self (by rw[hl1];show 3<4;decide)
   have g2:aN H (upd (upd H1 dxe (xdH dxe "place" (kk:Int))) e (Ew e CF dxe)):=λb o z=>by
    rw[ao (aa (g1 _ _ z) he),ao (aa (g1 _ _ z) hdxe)]
    exact g1 _ _ z
   refine⟨_,hset,e,dxe,(kk:Int),rfl,aj,by rw[ao hne,aj],by show 1<=sizeLine;decide,λp1 hp1=>?_⟩
   refine⟨-6,p1,[(kk:Int)],rfl,aj,by show 1<=1000000;decide,λH3 a g3 ha hal=>?_⟩
   have g4:=g2.trans (aN.new (.lst [.int (kk:Int)]) hp1)
   exact j6.fin (pl:=pl) (r:=(pl,[-6,1,(kk:Int),0])) k rfl (Mv.of_grow g4) (hPl.grow g4) g3 ha hal
  |ok x =>
   obtain⟨wd,rows⟩:=x
   rw[hm] at hss k
   dsimp only at k ⊢
   obtain⟨q1,q2,q3,q4,_⟩:=hss
   intro H1 sa g1 hS hfr
   have hPl1:=hPl.grow g1
   obtain⟨dx,fs,ho,hfs⟩:=hPl1.obj
   refine⟨_,rfl,p,dx,fs,rfl,ho,aY hfs dk,_,rfl,p,sa,pl,fq,wd,rows,rfl,hPl1,hS,q4,λdx' ra e hfq=>hPl.there ra hfq (hfr dx' ra e),λH2 fq2 mv2 hPl2=>⟨by show 1<=sizeLine;decide,λa ha=>?_⟩⟩
   exact j6.fin (pl:=pl) (r:=((mZ pl wd rows).2,[(mZ pl wd rows).1])) k rfl (Mv.grow g1 mv2) hPl2 (aN.new _ ha) ha aj
def tY(C:PCl):Sp:=λvs H Q _=>∃(p na:Addr) (pl:Rol.Player) (fq:Addr->Prop) (kk m:Nat),vs=[.ref p,.ref na]/\H na=some (.lst [.int (kk:Nat),.int (m:Nat)])/\¬fq na/\j6 C H Q p pl fq (DY pl kk m)
theorem JN:aJ ["player","numbers","stepped","told","event"] ["player","numbers"] (aA lC):=sc0
theorem yt{f fS fW:Addr}{fd fdS fdW:FuncData}(F:Fun K "answer_step" "answer_step" lC f fd)(TP:KC K mg "Player" C.CP fP cQ)(MS:FM K C.CP "take_step" "Player.take_step" Al ["self","most_rows","most_told"] fS fdS)(GS:aF P w K mg base CX0 6 fS fdS ["self","most_rows","most_told"] (HH C))(MW:FG K mg "answer_with_list" qK ["number","numbers"] fW fdW)(GW:j9 P w K mg base 1 fW fdW ["number","numbers"] qR):aF P w K mg base CX0 7 f fd ["player","numbers"] (tY C):=by
 refine F.ok JN (λvs H Q E h=>?_) (λcdv A outer s H vs Q E hr h=>?_)
 ·obtain⟨p,na,pl,fq,kk,m,rfl,_⟩:=h
  rfl
 ·obtain⟨p,na,pl,fq,kk,m,rfl,hna,nna,hPl,k⟩:=h
  have hr1:bY 1 _:=hr.mono (by decide)
  refine⟨_,aq (aP (i:=2) JN.nd rfl (Or.inl rfl) (aQ (pv 0) TP.cl MS.mt GS hr MS.bd .nil aX (ak (cz dg (pv 1) aC (λ_ _=>rfl)) (ak (cz dg (pv 1) aC (λ_ _=>rfl)) au))))
   (aq (aP (i:=3) JN.nd rfl (Or.inl rfl) (cD au))
   (aq (iM PassesOwn.never rfl (gb (cz cU (pv 2) aC (λ_ _=>rfl))) (cF (i:=4) JN.nd rfl (.inl rfl)) (az (bh (f9 PySem.F.plainAttrs_list PySem.F.slot_list_extend PySem.F.type_list_extend yo (pv 3) (ak (pv 4) au)))))
   (az (aO (bU GW.ok hr1 rfl MW.mg MW.fn.kp MW.bd .nil aX (ak (cz cU (pv 2) aC (λ_ _=>rfl)) (ak (pv 3) au))))))),?_⟩
  obtain⟨dx,fs,ho,hfs⟩:=hPl.obj
  refine⟨_,rfl,p,dx,fs,rfl,ho,aY hfs dk,_,rfl,na,_,_,_,rfl,rfl,SqL.of hna,bw (j:=0) (v:=.int (kk:Nat)) rfl,_,rfl,na,_,_,_,rfl,rfl,SqL.of hna,bw (j:=1) (v:=.int (m:Nat)) rfl,?_⟩
  refine⟨p,pl,fq,kk,m,rfl,hPl,λH1 fq1 t D mv hPl1 ht hD nD hDn hlen=>?_⟩
  unfold DY at k
  generalize RolG.telling (min m 512) kk pl=R at k hPl1 ht hD hlen
  obtain⟨pl',evs,st⟩:=R
  dsimp only at k hPl1 ht hD hlen
  obtain⟨ts,hDl,hts,lts⟩:=hD.len
  rw[List.length_map] at lts
  refine⟨Nat.zero_le _,λL hL=>?_⟩
  have g2:aN H1 (upd H1 L (.lst [])):=aN.new _ hL
  refine⟨_,rfl,t,_,_,_,rfl,rfl,SqT.of (g2 _ _ ht),bw (j:=1) (v:=.ref D) rfl,D,rfl,⟨_,SqL.of (g2 _ _ hDl)⟩,?_⟩
  have fl5:∀i,((evs.map ev5).take i).flatten.length<=5*i:=by
   intro i
   induction i with
   |zero=>simp
   |succ i ih =>
    rw[List.take_succ,List.flatten_append,List.length_append]
    have:((evs.map ev5)[i]?.toList).flatten.length<=5:=by
     rw[List.getElem?_map]
     cases evs[i]? with
     |none=>simp
     |some e=>simp[ev5]
    omega
  refine pD (K:=K) (xs:=ts.map V.ref) (λi σ H'=>aN H1 H'/\(∃v,σ=[some (.ref p),some (.ref na),some (.ref t),some (.ref L),v])/\H' L=some (.lst (((evs.map ev5).take i).flatten.map V.int))) ?_ ?_ ?_ ?_
  ·exact⟨g2,⟨none,rfl⟩,aj⟩
  ·rintro i σ H' _ ⟨g,_,_⟩
   exact SqL.of (g _ _ hDl)
  ·rintro i xv σ H' hx ⟨g,⟨v,rfl⟩,hLl⟩
   rw[List.getElem?_map] at hx
   obtain⟨t',ht',rfl⟩:=Option.map_eq_some_iff.mp hx
   obtain⟨row,hrow,hrt⟩:=gK hts ht'
   have hi:i<evs.length:=by
    have:=(List.getElem?_eq_some_iff.mp ht').1
    omega
   have hr5:row.length=5:=by
    rw[List.getElem?_map] at hrow
    obtain⟨e,_,rfl⟩:=Option.map_eq_some_iff.mp hrow
    rfl
   have hf:=fl5 i
   refine⟨_,rfl,.inl ⟨rfl,_,SqL.of hLl⟩,_,rfl,L,t',_,_,rfl,rfl,hLl,SqT.of (g _ _ hrt),by rw[List.length_map,List.length_map,hr5,sizeLine_eq];omega,?_,⟨_,rfl⟩,?_⟩
   ·intro b o z
    rw[ao (aa z hL)]
    exact g _ _ z
   ·rw[aj,List.take_succ,hrow,List.flatten_append,List.map_append]
    simp
  ·rintro σ H' ⟨g,⟨v,rfl⟩,hLl⟩
   rw[List.length_map,lts,List.take_of_length_le (by rw[List.length_map];exact Nat.le_refl _)] at hLl
   have hf:=fl5 evs.length
   rw[List.take_of_length_le (by rw[List.length_map];exact Nat.le_refl _)] at hf
   refine⟨_,rfl,t,_,_,_,rfl,rfl,SqT.of (g _ _ ht),bw (j:=0) (v:=.int st) rfl,_,rfl,?_⟩
   refine⟨st,L,_,rfl,hLl,by omega,λH3 a g3 ha hal=>?_⟩
   exact j6.fin (pl:=pl) (r:=(pl',kJ st ((evs.map ev5).flatten))) k rfl (mv.trans (Mv.of_grow g)) (hPl1.grow g) g3 ha hal
end
structure Dz(mg:Str->Option Value):Prop where
 o1:GI mg "OPENING" 1
 o2:GI mg "FEEDING" 2
 o3:GI mg "LAST" 3
 o4:GI mg "STEP" 4
 o5:GI mg "LEVER" 5
 t0:GI mg "TAKEN" 0
 np:GI mg "NO_PLAYER" (-8)
section
variable {C:PCl}{fP CC fC CH fH CF fF CR CS:Addr}
def tZ(C:PCl)(CC:Addr):Sp:=λvs H Q _=>∃(p c:Addr) (pl:Rol.Player) (fq:Addr->Prop) (wh:Int) (b:Nat) (ns:List Int) (tx:Option (List Int)),vs=[.ref p,.ref c]/\Pl C H p pl fq/\CAt CC H c wh b ns (tx.getD []) /\
 (∀dx na ta,H c=some (.ins CC dx (cf (.int wh) (.int b) (.ref na) (.ref ta)))->¬fq na)/\RolGNeutral.asked1 (callOf wh ns tx)=true/\wh≠1/\(tx.getD []).length<=30000 /\
 ∀r:Rol.Player×List Int,RolGNeutral.step (some pl) (callOf wh ns tx)=(some r.1,r.2)->∀H' a fq',Mv H fq H' fq'->Pl C H' p r.1 fq'->¬fq' a->H a=none->H' a=some (.lst (r.2.map V.int))->Q (.ref a) H'
theorem scAW:aJ ["player","call"] ["player","call"] (aA lD):=sc0
theorem yu{f fF' fS fW fE' fL' fN':Addr}{fd fdF fdS fdW fdE fdL fdN:FuncData}(F:Fun K "answer_with_player" "answer_with_player" lD f fd)(TP:KC K mg "Player" C.CP fP cQ)(TC:KC K mg "Call" CC fC ik)(TA:Dz mg)(MF:FG K mg "answer_feeding" lB ["player","text"] fF' fdF)(GF:aF P w K mg base CX0 7 fF' fdF ["player","text"] (tX C))(MS:FG K mg "answer_step" lC ["player","numbers"] fS fdS)(GS:aF P w K mg base CX0 7 fS fdS ["player","numbers"] (tY C))(MW:FG K mg "answer_with_list" qK ["number","numbers"] fW fdW)(GW:j9 P w K mg base 1 fW fdW ["number","numbers"] qR)(ME:FM K C.CP "end_feeding" "Player.end_feeding" lF ["self"] fE' fdE)(GE:aF P w K mg base CX0 1 fE' fdE ["self"] (ud C))(ML:FM K C.CP "set_lever" "Player.set_lever" uZ ["self","turn_time"] fL' fdL)(GL:aF P w K mg base CX0 5 fL' fdL ["self","turn_time"] (Ay C))(MN:FM K C.CP "now" "Player.now" wU ["self"] fN' fdN)(GN:aF P w K mg base CX0 2 fN' fdN ["self"] (spNow C)):aF P w K mg base CX0 8 f fd ["player","call"] (tZ C CC):=by
 refine F.ok scAW (λvs H Q E h=>?_) (λcdv A outer s H vs Q E hr h=>?_)
 ·obtain⟨p,c,pl,fq,wh,b,ns,tx,rfl,_⟩:=h
  rfl
 ·obtain⟨p,c,pl,fq,wh,b,ns,tx,rfl,hPl,hC,hsep,hask,h1,hlen,k⟩:=h
  obtain⟨u2,m2⟩:=TA.o2
  obtain⟨u3,m3⟩:=TA.o3
  obtain⟨u4,m4⟩:=TA.o4
  obtain⟨u5,m5⟩:=TA.o5
  obtain⟨u0,m0⟩:=TA.t0
  have hr1:bY 1 _:=hr.mono (by decide)
  have hr2:bY 2 _:=hr.mono (by decide)
  have hr5:bY 5 _:=hr.mono (by decide)
  refine⟨_,aq (cA (bG gJ (aB (pv 1) rfl) (aD (v:=.int 2) rfl m2 ⟨u2,rfl⟩) (bQ _)) (az (aO (bU GF hr rfl MF.mg MF.fn.kp MF.bd .nil aX (ak (pv 0) (ak (aB (pv 1) rfl) au))))) aZ)
   (aq (cA (bG gJ (aB (pv 1) rfl) (aD (v:=.int 3) rfl m3 ⟨u3,rfl⟩) (bQ _)) (az (aO (cD (ak (cO (pv 0) TP.cl ME.mt GE hr1 ME.bd .nil aX) au)))) aZ)
   (aq (cA (bG gJ (aB (pv 1) rfl) (aD (v:=.int 4) rfl m4 ⟨u4,rfl⟩) (bQ _)) (az (aO (bU GS hr rfl MS.mg MS.fn.kp MS.bd .nil aX (ak (pv 0) (ak (aB (pv 1) rfl) au))))) aZ)
   (aq (cA (bG gJ (aB (pv 1) rfl) (aD (v:=.int 5) rfl m5 ⟨u5,rfl⟩) (bQ _)) (az (aO (cD (ak (aQ (pv 0) TP.cl ML.mt GL hr5 ML.bd .nil aX (ak (cz dg (aB (pv 1) rfl) aC (λ_ _=>rfl)) au)) au)))) aZ)
   (az (aO (bU GW.ok hr1 rfl MW.mg MW.fn.kp MW.bd .nil aX (ak (aD (v:=.int 0) rfl m0 ⟨u0,rfl⟩) (ak (cO (pv 0) TP.cl MN.mt GN hr2 MN.bd .nil aX) au)))))))),?_⟩
  obtain⟨dx,na,ta,hc,hna,hta⟩:=hC.ex
  obtain⟨dxp,fs,ho,hfs⟩:=hPl.obj
  have nna:=hsep dx na ta hc
  rcases rY hask with e|⟨rfl,rfl,t,rfl,hby⟩|⟨rfl,rfl,rfl⟩|⟨rfl,rfl,kk,m,rfl⟩|⟨rfl,rfl,t,rfl⟩|⟨rfl,rfl,rfl⟩
  ·exact absurd e h1
  ·refine⟨_,rfl,c,CC,dx,_,_,rfl,hc,TC.cl,TC.no _ dk,rfl,rfl,_,rfl,aM rfl ?_⟩
   refine⟨_,rfl,_,rfl,c,CC,dx,_,_,rfl,hc,TC.cl,TC.no _ dk,rfl,p,ta,pl,fq,t,rfl,hta,hlen,hby,hPl,k (Bs pl t) (BP pl hby hlen)⟩
  ·refine⟨_,rfl,c,CC,dx,_,_,rfl,hc,TC.cl,TC.no _ dk,rfl,rfl,_,rfl,aV (by decide) ?_⟩
   refine⟨_,rfl,c,CC,dx,_,_,rfl,hc,TC.cl,TC.no _ dk,rfl,rfl,_,rfl,aM rfl ?_⟩
   refine⟨_,rfl,p,dxp,fs,rfl,ho,aY hfs dk,p,pl,fq,rfl,hPl,λH1 fq1 mv hPl1=>⟨by show 1<=sizeLine;decide,λa ha=>?_⟩⟩
   exact j6.fin (pl:=pl) (r:=(pl.last.2,[pl.last.1])) (k _ (last_step pl)) rfl mv hPl1 (aN.new _ ha) ha aj
  ·refine⟨_,rfl,c,CC,dx,_,_,rfl,hc,TC.cl,TC.no _ dk,rfl,rfl,_,rfl,aV (by decide) ?_⟩
   refine⟨_,rfl,c,CC,dx,_,_,rfl,hc,TC.cl,TC.no _ dk,rfl,rfl,_,rfl,aV (by decide) ?_⟩
   refine⟨_,rfl,c,CC,dx,_,_,rfl,hc,TC.cl,TC.no _ dk,rfl,rfl,_,rfl,aM rfl ?_⟩
   exact⟨_,rfl,_,rfl,c,CC,dx,_,_,rfl,hc,TC.cl,TC.no _ dk,rfl,p,na,pl,fq,kk,m,rfl,hna,nna,hPl,k (DY pl kk m) (Dn pl kk m)⟩
  ·refine⟨_,rfl,c,CC,dx,_,_,rfl,hc,TC.cl,TC.no _ dk,rfl,rfl,_,rfl,aV (by decide) ?_⟩
   refine⟨_,rfl,c,CC,dx,_,_,rfl,hc,TC.cl,TC.no _ dk,rfl,rfl,_,rfl,aV (by decide) ?_⟩
   refine⟨_,rfl,c,CC,dx,_,_,rfl,hc,TC.cl,TC.no _ dk,rfl,rfl,_,rfl,aV (by decide) ?_⟩
   refine⟨_,rfl,c,CC,dx,_,_,rfl,hc,TC.cl,TC.no _ dk,rfl,rfl,_,rfl,aM rfl ?_⟩
   refine⟨_,rfl,p,dxp,fs,rfl,ho,aY hfs dk,_,rfl,c,CC,dx,_,_,rfl,hc,TC.cl,TC.no _ dk,rfl,na,_,_,_,rfl,rfl,SqL.of hna,bw (j:=0) (v:=.int (t:Nat)) rfl,p,pl,fq,t,rfl,hPl,λH1 fq1 mv hPl1=>⟨by show 1<=sizeLine;decide,λa ha=>?_⟩⟩
   exact j6.fin (pl:=pl) (r:=((pl.lever t).2,[(pl.lever t).1])) (k _ (yc pl t)) rfl mv hPl1 (aN.new _ ha) ha aj
  ·refine⟨_,rfl,c,CC,dx,_,_,rfl,hc,TC.cl,TC.no _ dk,rfl,rfl,_,rfl,aV (by decide) ?_⟩
   refine⟨_,rfl,c,CC,dx,_,_,rfl,hc,TC.cl,TC.no _ dk,rfl,rfl,_,rfl,aV (by decide) ?_⟩
   refine⟨_,rfl,c,CC,dx,_,_,rfl,hc,TC.cl,TC.no _ dk,rfl,rfl,_,rfl,aV (by decide) ?_⟩
   refine⟨_,rfl,c,CC,dx,_,_,rfl,hc,TC.cl,TC.no _ dk,rfl,rfl,_,rfl,aV (by decide) ?_⟩
   obtain⟨A',e1,e2,nd,hok⟩:=hPl
   have hPl:Pl C H p pl fq:=⟨A',e1,e2,nd,hok⟩
   have hln:(RolG.nowNums pl).length<=1000:=by
    obtain⟨B,_,hbi⟩:=hok.bar
    rw[FN,List.length_append]
    unfold Rol.Row.tracks
    have:=List.length_filter_le (λt=>Rol.Row.hole (Player.nowX pl) t) (List.range pl.bar.wide)
    rw[List.length_range] at this
    have:=hbi.w2
    show 9+_<=1000
    omega
   subst e1
   refine⟨_,rfl,A'.p,dxp,fs,rfl,ho,aY hfs dk,A',pl,rfl,hok,λH1 l g1 hl hl'=>?_⟩
   have hl2:H1 l=some (.lst (((RolG.nowNums pl).map λ(n:Nat)=>(n:Int)).map V.int)):=by
    rw[hl']
    unfold nV
    rw[List.map_map]
    rfl
   refine⟨0,l,_,rfl,hl2,by rw[List.length_map];omega,λH2 a g2 ha hal=>?_⟩
   exact j6.fin (pl:=pl) (r:=(pl,kJ 0 ((RolG.nowNums pl).map λ(n:Nat)=>(n:Int)))) (k _ (FP pl)) rfl (Mv.of_grow g1) (hPl.grow g1) g2 ha hal
theorem scAC:aJ ["holder","call"] ["holder","call"] (aA qC):=sc0
theorem pH(C:PCl)(CH:Addr):DW (rR (Pl C) CH):=by
 intro H H' h s fp hold k
 obtain⟨dx,hd⟩:=hold
 cases s with
 |none =>
  obtain⟨h1,h2⟩:=hd
  subst h2
  exact⟨dx,k _ _ h1 (.inl rfl),rfl⟩
 |some pl =>
  obtain⟨p,fq,h1,h2,h3,h4⟩:=hd
  subst h4
  exact⟨dx,p,fq,k _ _ h1 (.inl (.inl rfl)),Pl.stays C H H' p pl fq h2 (λb o z y=>k _ _ z (y.imp .inr id)),h3,rfl⟩
theorem yq{f fO fW:Addr}{fd fdO fdW:FuncData}(F:Fun K "answer_call" "answer_call" qC f fd)(TC:KC K mg "Call" CC fC ik)(TH:KC K mg "Holder" CH fH ["player"])(TA:Dz mg)(MO:FG K mg "answer_opening" lK ["holder","call"] fO fdO)(GO:aF P w K mg base CX0 8 fO fdO ["holder","call"] (wk (rR (Pl C) CH) CC))(MW:FG K mg "answer_with_player" lD ["player","call"] fW fdW)(GW:aF P w K mg base CX0 8 fW fdW ["player","call"] (tZ C CC)):aF P w K mg base CX0 9 f fd ["holder","call"] (oCall (rR (Pl C) CH) CC):=by
 refine F.ok scAC (λvs H Q E h=>?_) (λcdv A outer s H vs Q E hr h=>?_)
 ·obtain⟨h,c,s,fp,wh,b,ns,tx,rfl,_⟩:=h
  rfl
 ·obtain⟨h,c,s',fp,wh,b,ns,tx,rfl,hold,hC,hfp,hsep,hask,htx,hlen,k⟩:=h
  obtain⟨u1,m1⟩:=TA.o1
  obtain⟨u8,m8⟩:=TA.np
  obtain⟨dx,na,ta,hc,hna,hta⟩:=hC.ex
  refine⟨_,aq (cA (bG gJ (aB (pv 1) rfl) (aD (v:=.int 1) rfl m1 ⟨u1,rfl⟩) (bQ _)) (az (aO (bU GO hr rfl MO.mg MO.fn.kp MO.bd .nil aX (ak (pv 0) (ak (pv 1) au))))) aZ)
   (aq (cA (yL (pc_isN (aB (pv 0) rfl))) (az (aO (cD (ak (aD (v:=.int (-8)) rfl m8 ⟨u8,rfl⟩) au)))) aZ)
   (az (aO (bU GW hr rfl MW.mg MW.fn.kp MW.bd .nil aX (ak (aB (pv 0) rfl) (ak (pv 1) au)))))),?_⟩
  refine⟨_,rfl,c,CC,dx,_,_,rfl,hc,TC.cl,TC.no _ dk,rfl,rfl,_,rfl,?_⟩
  by_cases e1:wh=1
  ·subst e1
   refine aM rfl ?_
   cases tx with
   |none =>
    exfalso
    have:(false:Bool)=decide ((1:Int)=1∨(1:Int)=2):=htx
    revert this
    decide
   |some t =>
    exact⟨_,rfl,_,rfl,h,c,s',fp,b,ns,t,rfl,hold,hC,hfp,hsep,hask,htx,hlen,k⟩
  ·refine aV (by rw[decide_eq_false (by intro z;injection z with z;exact e1 z)];exact Bool.false_ne_true) ?_
   obtain⟨dxh,hd⟩:=hold
   cases s' with
   |none =>
    obtain⟨hh,efp⟩:=hd
    rw[Cj hask e1] at k
    refine⟨_,rfl,h,CH,dxh,_,_,rfl,hh,TH.cl,TH.no _ dk,rfl,_,rfl,aM rfl ?_⟩
    refine⟨by show 1<=sizeLine;decide,λa ha=>?_⟩
    have g:aN H (upd H a (.lst [.int (-8)])):=aN.new _ ha
    subst efp
    exact k _ a (λx=>x=h) g.off ⟨dxh,g _ _ hh,rfl⟩ (λx hx=>⟨by rw[show x=h from hx,g _ _ hh];exact Option.some_ne_none _,.inl hx⟩) (λe=>by rw[show a=h from e] at ha;rw[hh] at ha;cases ha) ha aj
   |some pl =>
    obtain⟨p,fq,hh,hPl,nfh,efp⟩:=hd
    subst efp
    refine⟨_,rfl,h,CH,dxh,_,_,rfl,hh,TH.cl,TH.no _ dk,rfl,_,rfl,aV (by rw[decide_eq_false (by intro z;cases z)];exact Bool.false_ne_true) ?_⟩
    refine⟨_,rfl,h,CH,dxh,_,_,rfl,hh,TH.cl,TH.no _ dk,rfl,_,rfl,p,c,pl,fq,wh,b,ns,tx,rfl,hPl,hC,λdx' na' ta' e y=>(hsep dx' na' ta' e).2.1 (.inr y),hask,e1,hlen,λr hr' H' a fq' mv hPl' nfa ha hal=>?_⟩
    rw[hr'] at k
    have hh':H' h=some (.ins CH dxh [("player",.ref p)]):=mv.off _ _ hh nfh
    have nfh':¬fq' h:=λy=>by
     rcases mv.new h y with z|z
     ·exact nfh z
     ·rw[z] at hh
      cases hh
    refine k H' a (λx=>x=h∨fq' x) (λx o z n=>mv.off _ _ z (λy=>n (.inr y))) ⟨dxh,p,fq',hh',hPl',nfh',rfl⟩ ?_ ?_ ha hal
    ·rintro x (rfl|hx)
     ·exact⟨by rw[hh'];exact Option.some_ne_none _,.inl (.inl rfl)⟩
     ·refine⟨hPl'.there x hx,?_⟩
      rcases mv.new x hx with z|z
      ·exact .inl (.inr z)
      ·exact .inr z
    ·rintro(y|y)
     ·rw[y,hh] at ha
      cases ha
     ·exact nfa y
end
end PR
namespace PR
open PySem PySem.Spec PyProof.Rows L2
variable {P:Program}{w:World}{K:PySem.W.Frag}{mg:Str->Option Value}{base:Heap}
theorem cI{K:PySem.W.Frag}{a:Addr}{its:List Value}{xs:List V}{n:Nat}(h:K.lookup a=some { cls:=.type "tuple",data:=.seq its.toArray n })(r:Vals xs its)(hs:its.length<=sizeLine)(H:Hp):SqT K H a xs :=
 .inr ⟨_,its.toArray,n,h,rfl,rfl,by rw[List.size_toArray];exact hs,by simpa using r⟩
theorem rE(wd:Str):∀L:List ((Str×Int×List Int)×Addr×Addr),dN (L.map λx=>((.inr x.1.1:Key),V.ref x.2.1)) (.inr wd)=(L.find? λx=>decide (x.1.1=wd)).map λx=>V.ref x.2.1
 |[]=>rfl
 |x::L=>by
  have ih:=rE wd L
  unfold dN at ih ⊢
  rw[List.map_cons,List.find?_cons,List.find?_cons]
  by_cases h:x.1.1=wd
  ·rw[decide_eq_true h,decide_eq_true (by rw[h])]
   rfl
  ·rw[decide_eq_false h,decide_eq_false (λz=>h (Sum.inr.inj z))]
   exact ih
theorem Fl{P:Program}{w:World}{K:PySem.W.Frag}{mg:Str->Option Value}{a:Addr}(L:List ((Str×Int×List Int)×Addr×Addr))(hL:L.map (·.1)=kinds)(hm:mg "KINDS"=some (.ref a))(ht:xu P w K a (L.map λx=>((.inr x.1.1:Key),V.ref x.2.1)))(h:∀x∈L,(∀H,SqT K H x.2.1 [.int x.1.2.1,.ref x.2.2])/\∀H,SqT K H x.2.2 (x.1.2.2.map V.int)):zy P w K mg a (L.map λx=>((.inr x.1.1:Key),V.ref x.2.1)):=by
 have hk:∀wd,kindOf wd=(L.find? λx=>decide (x.1.1=wd)).map λx=>x.1.2:=by
  intro wd
  unfold kindOf
  rw[←hL,List.find?_map,Option.map_map]
  rfl
 refine⟨hm,ht,λwd hw=>?_,λwd kd ms hw=>?_⟩
 ·rw[hk,Option.map_eq_none_iff] at hw
  rw[rE,hw]
  rfl
 ·rw[hk] at hw
  obtain⟨x,hx,e⟩:=Option.map_eq_some_iff.mp hw
  have:=h x (List.mem_of_find?_eq_some hx)
  rw[e] at this
  exact⟨x.2.1,x.2.2,by rw[rE,hx];rfl,this.1,this.2⟩
theorem gbinds{K:PySem.W.Frag}{x qual:Str}{st:Stmt}{f:Addr}{fd:FuncData}{ps:List Str}(F:Fun K x qual st f fd)(h:∀(kV doc pm:Value) (an:Option Addr) (cdv ct:Value) (us:List Value),us.length=ps.length->bindArgs (PySem.W.fnOf x qual (jD st) (cY st) (aA st) .none kV doc pm an cdv ct) ⟨us,[]⟩=pure (ps.zip us)):Binds K fd ps []:=F.binds h
def BA(n q:Str)(st:Stmt)(ps:List Str):Prop:=∀(kV doc pm:Value) (an:Option Addr) (cdv ct:Value) (us:List Value),us.length=ps.length->bindArgs (PySem.W.fnOf n q (jD st) (cY st) (aA st) .none kV doc pm an cdv ct) ⟨us,[]⟩=pure (ps.zip us)
def MF(K:PySem.W.Frag)(C:Addr)(n q:Str)(st:Stmt)(ps:List Str):Prop:=∃f fd,FM K C n q st ps f fd
def GF(K:PySem.W.Frag)(n:Str)(st:Stmt)(ps:List Str):Prop:=∃f fd,Fun K n n st f fd/\Binds K fd ps []/\PySem.W.nsIn K mainGlobals n=some (some (.ref f))
section
variable {K:PySem.W.Frag}{C f:Addr}{n q:Str}{st:Stmt}{ps:List Str}{od an:Option Addr}{osl:Array (Option Value)}{oc kV doc pm cdv ct:Value}{h:Heap}{mg:Str->Option Value}
theorem mf(b:BA n q st ps)(a:PySem.W.findIn K (.ref C) n=some (some (.ref f)))(i:PySem.W.isFn K (.ref f)=true)(l:K.lookup f=some ⟨oc,od,.func (PySem.W.fnOf n q (jD st) (cY st) (aA st) .none kV doc pm an cdv ct),osl⟩)(c:PySem.W.codeIn K cdv q=true)(k:PySem.W.keepIn K (.ref f)=true):MF K C n q st ps :=
 ⟨f,_,fun_mk l c k,gbinds (fun_mk l c k) b,⟨a,i,k⟩⟩
theorem gf(b:BA n n st ps)(a:PySem.W.nsIn K mainGlobals n=some (some (.ref f)))(l:K.lookup f=some ⟨oc,od,.func (PySem.W.fnOf n n (jD st) (cY st) (aA st) .none kV doc pm an cdv ct),osl⟩)(c:PySem.W.codeIn K cdv n=true)(k:PySem.W.keepIn K (.ref f)=true):GF K n st ps :=
 ⟨f,_,fun_mk l c k,gbinds (fun_mk l c k) b,a⟩
theorem GF.fg(d:GF K n st ps)(X:K.In h)(G:h.Ns mainGlobals mg):∃f fd,FG K mg n st ps f fd :=
 let ⟨f,fd,a,b,c⟩:=d
 ⟨f,fd,a,b,PySem.W.mg_of X G c⟩
def NoAll(K:PySem.W.Frag)(C:Addr):List Str->Prop
 |[]=>True
 |x::r=>PySem.W.findIn K (.ref C) x=some none/\NoAll K C r
theorem NoAll.no:∀{l:List Str},NoAll K C l->∀x∈l,ig K C x
 |_::_,h,x,hx=>by
  rcases List.mem_cons.mp hx with e|e
  ·subst e
   exact h.1
  ·exact NoAll.no h.2 x e
structure jh(K:PySem.W.Frag)(nm:Str)(C:Addr)(ns:List Str):Prop where
 a:PySem.W.nsIn K mainGlobals nm=some (some (.ref C))
 cl:Cls K C
 mks:PySem.W.makesIn K C=true
 kp:PySem.W.keepIn K (.ref C)=true
 no:NoAll K C ns
theorem jh.kc{nm:Str}{ns:List Str}{fd:FuncData}(c:jh K nm C ns)(X:K.In h)(G:h.Ns mainGlobals mg)(M:FM K C "__init__" q st ps f fd):KC K mg nm C f ns:=⟨⟨c.mks,M.mt.at_,M.mt.fn,c.kp⟩,c.cl,c.no.no,PySem.W.mg_of X G c.a⟩
def GAll(K:PySem.W.Frag):List (Str×Int)->Prop
 |[]=>True
 |(n,z)::r=>(∃t,PySem.W.nsIn K mainGlobals n=some (some (.int z t)))/\GAll K r
theorem GAll.gi(X:K.In h)(G:h.Ns mainGlobals mg):∀{l:List (Str×Int)},GAll K l->∀n z,(n,z)∈l->GI mg n z
 |(_,_)::_,g,n,z,hx=>by
  rcases List.mem_cons.mp hx with e|e
  ·cases e
   obtain⟨t,ht⟩:=g.1
   exact⟨t,PySem.W.mg_of X G ht⟩
  ·exact GAll.gi X G g.2 n z e
def ZAll(K:PySem.W.Frag):List Str->Prop
 |[]=>True
 |x::r=>PySem.W.nsIn K mainGlobals x=some none/\ZAll K r
theorem ZAll.z(X:K.In h)(G:h.Ns mainGlobals mg):∀{l:List Str},ZAll K l->∀n,n∈l->mg n=none
 |_::_,g,n,hx=>by
  rcases List.mem_cons.mp hx with e|e
  ·subst e
   exact PySem.W.mg_none_of X G g.1
  ·exact ZAll.z X G g.2 n e
end
theorem IV:∀wh n,hmN wh=some n->dN ([(.inl 1,.int 4),(.inl 2,.int 0),(.inl 3,.int 0),(.inl 4,.int 2),(.inl 5,.int 1),(.inl 6,.int 0)]:List (Key×V)) (.inl wh)=some (.int n):=by
 intro wh n h
 unfold hmN at h
 split at h
 ·rename_i e
  subst e
  cases h
  rfl
 split at h
 ·rename_i e
  subst e
  cases h
  rfl
 split at h
 ·rename_i e
  subst e
  cases h
  rfl
 split at h
 ·rename_i e
  subst e
  cases h
  rfl
 split at h
 ·rename_i e
  subst e
  cases h
  rfl
 split at h
 ·rename_i e
  subst e
  cases h
  rfl
 ·cases h
theorem all_mk{P:Program}{w:World}{K:PySem.W.Frag}{h:Heap}{mg:Str->Option Value}{fa:Addr}{C_Reader C_Strip C_Bar C_Change C_Pace C_Side C_Spool C_Tones C_Player C_Holder C_Call C_Fault:Addr}{xN:Addr}{xnm xq:Str}{xbs xsub:List Value}{xsn:List Str}{xab:Bool}{xcol:Option Bool}{xdd:Option Addr}{x0 x1 x2 x3 x5:Option Value}{od_aA an_aA:Option Addr}{sl_aA:Array (Option Value)}{f_aA:Addr}{oc_aA kV_aA dc_aA pm_aA cd_aA ct_aA:Value}{gt0 gt1 gt2 gt3 gt4 gt5 gt6 gt7 gt8 gt9 gt10 gt11 gt12 gt13 gt14 gt15 gt16 gt17 gt18 gt19 gt20 gt21 gt22 gt23 gt24 gt25 gt26 gt27 gt28 gt29 gt30 gt31 gt32 gt33 gt34 gt35 gt36 gt37 gt38 gt39 gt40 gt41 gt42 gt43 gt44 gt45 gt46 gt47 gt48 gt49 gt50:Tok}{t_LT:Tok}{aK:Addr}{oK:Obj}{kt0 km0 kt1 km1 kt2 km2 kt3 km3 kt4 km4 kt5 km5 kt6 km6 kt7 km7 kt8 km8:Addr}{ku0 kx0 ku1 kx1 ku2 kx2 ku3 kx3 ku4 kx4 ku5 kx5 ku6 kx6 ku7 kx7 ku8 kx8:Tok}{epK:Nat}{kv0_0 kv3_0 kv3_1 kv4_0 kv5_0 kv6_0 kv7_0:Tok}{kn0 kl0 kn1 kl1 kn2 kl2 kn3 kl3 kn4 kl4 kn5 kl5 kn6 kl6 kn7 kl7 kn8 kl8:Nat}{aT_LOUD aT_SOFT aT_END aT_LOCK_WEIGHTS aT_CALLS_WITH_TEXT:Addr}{tt_LOUD_0 tt_LOUD_1 tt_LOUD_2 tt_SOFT_0 tt_SOFT_1 tt_SOFT_2 tt_END_0 tt_END_1 tt_END_2 tt_LOCK_WEIGHTS_0 tt_LOCK_WEIGHTS_1 tt_LOCK_WEIGHTS_2 tt_CALLS_WITH_TEXT_0 tt_CALLS_WITH_TEXT_1:Tok}{nT_LOUD nT_SOFT nT_END nT_LOCK_WEIGHTS nT_CALLS_WITH_TEXT:Nat}{aRG:Addr}{aR0 aR1 aR2 aR3:Addr}{rl0 rh0 rl1 rh1 rl2 rh2 rl3 rh3:Tok}{nRG nR0 nR1 nR2 nR3:Nat}{aHM:Addr}{oHM:Obj}{hk0 hv0 hk1 hv1 hk2 hv2 hk3 hv3 hk4 hv4 hk5 hv5:Tok}{epH:Nat}(X:K.In h)(G:h.Ns mainGlobals mg)(hfa:mg "answers"=some (.ref fa))(c_Reader:jh K "Reader" C_Reader ["text","place"])(c_Strip:jh K "Strip" C_Strip ["width","rows"])(c_Bar:jh K "Bar" C_Bar ["width","split","tail","force","swell","tracks","key_tracks"])(c_Change:jh K "Change" C_Change ["before","after"])(c_Pace:jh K "Pace" C_Pace ["spool","turn_time","from_angle","from_time"])(c_Side:jh K "Side" C_Side ["bar","number","locks","swell"])(c_Spool:jh K "Spool" C_Spool ["first_turn","more_a_turn","row_length","turn_time"])(c_Tones:jh K "Tones" C_Tones ["tail","rows_left"])(c_Player:jh K "Player" C_Player ["bar","pace","tones","sides","rows","begun","time","untold","no_more","done"])(c_Holder:jh K "Holder" C_Holder ["player"])(c_Call:jh K "Call" C_Call ["which","behind","numbers","text"])(a_Fault:PySem.W.nsIn K mainGlobals "Fault"=some (some (.ref C_Fault)))(ga_Fault:PySem.W.findIn K (.ref C_Fault) "__getattribute__"=some (some (.builtin "BaseException.__getattribute__")))(gt_Fault:PySem.W.findIn K (.ref C_Fault) "__getattr__"=some none)(hd_Fault:PySem.W.hasDictIn K C_Fault=true)(sub_Fault:PySem.W.mroIn K C_Fault (.type "BaseException")=some true)(o_Fault:K.lookup C_Fault=some (excClassObj xnm xq C_Fault xN xbs [.type "Exception",.type "BaseException",.type "object"] true xsn xsub xab xcol xdd x0 x1 x2 x3 x5 "Exception.__new__"))(kc_Fault:PySem.W.keepIn K (.ref C_Fault)=true)(sa_Fault:PySem.W.findIn K (.ref C_Fault) "__setattr__"=some (some (.builtin "object.__setattr__")))(n_Fault_place:PySem.W.findIn K (.ref C_Fault) "place"=some none)(d_fI:MF K C_Fault "__init__" "Fault.__init__" uW ["self","place"])(d_rI:MF K C_Reader "__init__" "Reader.__init__" qJ ["self","text"])(d_aE:MF K C_Reader "at_end" "Reader.at_end" mC ["self"])(d_bH:MF K C_Reader "byte_here" "Reader.byte_here" qD ["self"])(d_eX:MF K C_Reader "expect" "Reader.expect" fj ["self","byte"])(d_eW:MF K C_Reader "expect_word" "Reader.expect_word" tV ["self","word"])(d_rN:MF K C_Reader "read_number" "Reader.read_number" gW ["self","least","most"])(d_rL:MF K C_Reader "read_letters" "Reader.read_letters" lH ["self"])(d_sI:MF K C_Strip "__init__" "Strip.__init__" vp ["self","width","rows"])(d_bI:MF K C_Bar "__init__" "Bar.__init__" Ht ["self","width","split","tail"])(d_bHd:MF K C_Bar "is_heard" "Bar.is_heard" mD ["self","meaning","sounding"])(d_bSo:MF K C_Bar "side_of" "Bar.side_of" oM ["self","key"])(d_rH:GF K "read_holes" uY ["reader","width"])(d_rU:GF K "read_run" JM ["reader","width","rows_before"])(d_rS:GF K "read_strip" vo ["text"])(d_nN:GF K "read_next_number" tU ["reader","least","most"])(d_r3:GF K "read_three" mJ ["reader","word","most"])(d_nM:GF K "read_new_meaning" lJ ["reader","tracks"])(d_rT:GF K "read_tracks" oO ["reader","width"])(d_rB:GF K "read_bar" JK ["text"])(d_kO:GF K "keys_in_order" tR ["tracks"])(d_cI:MF K C_Change "__init__" "Change.__init__" qF ["self","before","after"])(d_cB:MF K C_Change "begins" "Change.begins" lE ["self","track"])(d_cE:MF K C_Change "ends" "Change.ends" wR ["self","track"])(d_rE:GF K "row_events" mH ["bar","change","forces"])(d_bE:GF K "begin_or_end" oH ["change","track","kind_of_beginning","kind_of_end"])(d_pI:MF K C_Pace "__init__" "Pace.__init__" yQ ["self","spool"])(d_pC:MF K C_Pace "change" "Pace.change" u9 ["self","turn_time","row","time"])(d_pT:MF K C_Pace "time_of" "Pace.time_of" oN ["self","row"])(d_rO:GF K "round_up" vf ["above","below"])(d_dI:MF K C_Side "__init__" "Side.__init__" yR ["self","bar","number"])(d_dH:MF K C_Side "hears" "Side.hears" mG ["self","kind","sounding"])(d_dT:MF K C_Side "take_row" "Side.take_row" vg ["self","sounding"])(d_dL:MF K C_Side "change_locks" "Side.change_locks" u6 ["self","sounding"])(d_dW:MF K C_Side "change_swell" "Side.change_swell" vq ["self","sounding"])(d_dF:MF K C_Side "force_at" "Side.force_at" uX ["self","sounding"])(d_lI:MF K C_Spool "__init__" "Spool.__init__" vh ["self","numbers"])(d_lP:MF K C_Spool "paper_of" "Spool.paper_of" qH ["self","turns"])(d_lT:MF K C_Spool "full_turns" "Spool.full_turns" vz ["self","paper"])(d_lA:MF K C_Spool "angle" "Spool.angle" mz ["self","row"])(d_iR:GF K "are_in_range" vd ["numbers"])(d_iT:GF K "is_turn_time" oJ ["number"])(d_tI:MF K C_Tones "__init__" "Tones.__init__" vy ["self","width","tail"])(d_tT:MF K C_Tones "take_row" "Tones.take_row" iu ["self","holes"])(d_tS:MF K C_Tones "sounding" "Tones.sounding" ir ["self"])(d_yI:MF K C_Player "__init__" "Player.__init__" qI ["self","bar","spool"])(d_yF:MF K C_Player "feed" "Player.feed" Aj ["self","strip"])(d_yE:MF K C_Player "end_feeding" "Player.end_feeding" lF ["self"])(d_yS:MF K C_Player "take_step" "Player.take_step" Al ["self","most_rows","most_told"])(d_yT:MF K C_Player "tell" "Player.tell" Am ["self","told","most"])(d_yD:MF K C_Player "standing" "Player.standing" jK ["self","end_row"])(d_yB:MF K C_Player "begin_row" "Player.begin_row" jx ["self"])(d_yH:MF K C_Player "holes_of" "Player.holes_of" lG ["self","row"])(d_yL:MF K C_Player "set_lever" "Player.set_lever" uZ ["self","turn_time"])(d_yN:MF K C_Player "now" "Player.now" wU ["self"])(d_yG:MF K C_Player "stage" "Player.stage" vm ["self"])(d_hI:MF K C_Holder "__init__" "Holder.__init__" qG ["self"])(d_qI:MF K C_Call "__init__" "Call.__init__" yP ["self","calls","start"])(d_aC:GF K "answer_call" qC ["holder","call"])(d_aP:GF K "answer_with_player" lD ["player","call"])(d_aO:GF K "answer_opening" lK ["holder","call"])(d_aF:GF K "answer_feeding" lB ["player","text"])(d_aS:GF K "answer_step" lC ["player","numbers"])(d_aL:GF K "answer_with_list" qK ["number","numbers"])(a_aA:PySem.W.nsIn K mainGlobals "answers"=some (some (.ref f_aA)))(l_aA:K.lookup f_aA=some ⟨oc_aA,od_aA,.func (PySem.W.fnOf "answers" "answers" (jD eZ) (cY eZ) (aA eZ) .none kV_aA dc_aA pm_aA an_aA cd_aA ct_aA),sl_aA⟩)(c_aA:PySem.W.codeIn K cd_aA "answers"=true)(k_aA:PySem.W.keepIn K (.ref f_aA)=true)(gi0:PySem.W.nsIn K mainGlobals "NO_BYTE"=some (some (.int (-1) gt0)))(gi1:PySem.W.nsIn K mainGlobals "FIRST_DIGIT"=some (some (.int 48 gt1)))(gi2:PySem.W.nsIn K mainGlobals "LAST_DIGIT"=some (some (.int 57 gt2)))(gi3:PySem.W.nsIn K mainGlobals "TOO_GREAT"=some (some (.int 10000 gt3)))(gi4:PySem.W.nsIn K mainGlobals "FIRST_LETTER"=some (some (.int 97 gt4)))(gi5:PySem.W.nsIn K mainGlobals "LAST_LETTER"=some (some (.int 122 gt5)))(gi6:PySem.W.nsIn K mainGlobals "BLANK"=some (some (.int 32 gt6)))(gi7:PySem.W.nsIn K mainGlobals "LINE_END"=some (some (.int 10 gt7)))(gi8:PySem.W.nsIn K mainGlobals "MOST_ROWS"=some (some (.int 256 gt8)))(gi9:PySem.W.nsIn K mainGlobals "MOST_WIDTH_strips"=some (some (.int 128 gt9)))(gi10:PySem.W.nsIn K mainGlobals "MOST_WIDTH_bars"=some (some (.int 128 gt10)))(gi11:PySem.W.nsIn K mainGlobals "MOST_SPLIT"=some (some (.int 128 gt11)))(gi12:PySem.W.nsIn K mainGlobals "MOST_TAIL"=some (some (.int 15 gt12)))(gi13:PySem.W.nsIn K mainGlobals "MOST_FORCE_bars"=some (some (.int 127 gt13)))(gi14:PySem.W.nsIn K mainGlobals "MOST_SWELL"=some (some (.int 1023 gt14)))(gi15:PySem.W.nsIn K mainGlobals "KEY"=some (some (.int 1 gt15)))(gi16:PySem.W.nsIn K mainGlobals "LOCK"=some (some (.int 4 gt16)))(gi17:PySem.W.nsIn K mainGlobals "CANCEL"=some (some (.int 5 gt17)))(gi18:PySem.W.nsIn K mainGlobals "UP"=some (some (.int 6 gt18)))(gi19:PySem.W.nsIn K mainGlobals "DOWN"=some (some (.int 7 gt19)))(gi20:PySem.W.nsIn K mainGlobals "ACCENT"=some (some (.int 8 gt20)))(gi21:PySem.W.nsIn K mainGlobals "LET_GO"=some (some (.int 1 gt21)))(gi22:PySem.W.nsIn K mainGlobals "STRUCK"=some (some (.int 2 gt22)))(gi23:PySem.W.nsIn K mainGlobals "LOUD_BEGINS"=some (some (.int 3 gt23)))(gi24:PySem.W.nsIn K mainGlobals "LOUD_ENDS"=some (some (.int 4 gt24)))(gi25:PySem.W.nsIn K mainGlobals "SOFT_BEGINS"=some (some (.int 5 gt25)))(gi26:PySem.W.nsIn K mainGlobals "SOFT_ENDS"=some (some (.int 6 gt26)))(gi27:PySem.W.nsIn K mainGlobals "END_BEGINS"=some (some (.int 7 gt27)))(gi28:PySem.W.nsIn K mainGlobals "MOST_FORCE_sides"=some (some (.int 127 gt28)))(gi29:PySem.W.nsIn K mainGlobals "MOST_WAITING"=some (some (.int 256 gt29)))(gi30:PySem.W.nsIn K mainGlobals "MOST_FED"=some (some (.int 512 gt30)))(gi31:PySem.W.nsIn K mainGlobals "MOST_TOLD"=some (some (.int 512 gt31)))(gi32:PySem.W.nsIn K mainGlobals "DONE_WELL"=some (some (.int 0 gt32)))(gi33:PySem.W.nsIn K mainGlobals "OUT_OF_RANGE_playing"=some (some (.int (-1) gt33)))(gi34:PySem.W.nsIn K mainGlobals "NO_MORE_ROWS"=some (some (.int (-4) gt34)))(gi35:PySem.W.nsIn K mainGlobals "OTHER_WIDTH"=some (some (.int (-5) gt35)))(gi36:PySem.W.nsIn K mainGlobals "TOO_MANY_ROWS"=some (some (.int (-10) gt36)))(gi37:PySem.W.nsIn K mainGlobals "ROWS_BEGUN"=some (some (.int 0 gt37)))(gi38:PySem.W.nsIn K mainGlobals "ROW_NOT_FED"=some (some (.int 1 gt38)))(gi39:PySem.W.nsIn K mainGlobals "PLAYER_DONE"=some (some (.int 2 gt39)))(gi40:PySem.W.nsIn K mainGlobals "EVENTS_UNTOLD"=some (some (.int 3 gt40)))(gi41:PySem.W.nsIn K mainGlobals "GOES_ON"=some (some (.int (-1) gt41)))(gi42:PySem.W.nsIn K mainGlobals "OPENING"=some (some (.int 1 gt42)))(gi43:PySem.W.nsIn K mainGlobals "FEEDING"=some (some (.int 2 gt43)))(gi44:PySem.W.nsIn K mainGlobals "LAST"=some (some (.int 3 gt44)))(gi45:PySem.W.nsIn K mainGlobals "STEP"=some (some (.int 4 gt45)))(gi46:PySem.W.nsIn K mainGlobals "LEVER"=some (some (.int 5 gt46)))(gi47:PySem.W.nsIn K mainGlobals "TAKEN"=some (some (.int 0 gt47)))(gi48:PySem.W.nsIn K mainGlobals "OUT_OF_RANGE_player"=some (some (.int (-1) gt48)))(gi49:PySem.W.nsIn K mainGlobals "AT_FAULT"=some (some (.int (-6) gt49)))(gi50:PySem.W.nsIn K mainGlobals "NO_PLAYER"=some (some (.int (-8) gt50)))(g_LT:PySem.W.nsIn K mainGlobals "LETTERS"=some (some (.str "abcdefghijklmnopqrstuvwxyz" t_LT)))(zs:ZAll K ["len","ord","min","max","Exception","tuple","range","enumerate","sorted","zip","list"])(a_KINDS:PySem.W.nsIn K mainGlobals "KINDS"=some (some (.ref aK)))(l_KINDS:K.lookup aK=some oK)(s_KINDS:(aK==sysModules)=false)(e_KINDS:oK={ cls:=.type "dict",data:=.dict (([(.inr "key",ku0,.ref kt0),(.inr "loud",ku1,.ref kt1),(.inr "soft",ku2,.ref kt2),(.inr "lock",ku3,.ref kt3),(.inr "cancel",ku4,.ref kt4),(.inr "up",ku5,.ref kt5),(.inr "down",ku6,.ref kt6),(.inr "accent",ku7,.ref kt7),(.inr "end",ku8,.ref kt8)]:List (Key×Tok×Value)).map (BK w)).toArray epK })(kt_0:K.lookup kt0=some { cls:=.type "tuple",data:=.seq #[.int 1 kx0,.ref km0] kn0 })(km_0:K.lookup km0=some { cls:=.type "tuple",data:=.seq #[.int 127 kv0_0] kl0 })(kt_1:K.lookup kt1=some { cls:=.type "tuple",data:=.seq #[.int 2 kx1,.ref km1] kn1 })(km_1:K.lookup km1=some { cls:=.type "tuple",data:=.seq #[] kl1 })(kt_2:K.lookup kt2=some { cls:=.type "tuple",data:=.seq #[.int 3 kx2,.ref km2] kn2 })(km_2:K.lookup km2=some { cls:=.type "tuple",data:=.seq #[] kl2 })(kt_3:K.lookup kt3=some { cls:=.type "tuple",data:=.seq #[.int 4 kx3,.ref km3] kn3 })(km_3:K.lookup km3=some { cls:=.type "tuple",data:=.seq #[.int 2 kv3_0,.int 1 kv3_1] kl3 })(kt_4:K.lookup kt4=some { cls:=.type "tuple",data:=.seq #[.int 5 kx4,.ref km4] kn4 })(km_4:K.lookup km4=some { cls:=.type "tuple",data:=.seq #[.int 1 kv4_0] kl4 })(kt_5:K.lookup kt5=some { cls:=.type "tuple",data:=.seq #[.int 6 kx5,.ref km5] kn5 })(km_5:K.lookup km5=some { cls:=.type "tuple",data:=.seq #[.int 1 kv5_0] kl5 })(kt_6:K.lookup kt6=some { cls:=.type "tuple",data:=.seq #[.int 7 kx6,.ref km6] kn6 })(km_6:K.lookup km6=some { cls:=.type "tuple",data:=.seq #[.int 1 kv6_0] kl6 })(kt_7:K.lookup kt7=some { cls:=.type "tuple",data:=.seq #[.int 8 kx7,.ref km7] kn7 })(km_7:K.lookup km7=some { cls:=.type "tuple",data:=.seq #[.int 1 kv7_0] kl7 })(kt_8:K.lookup kt8=some { cls:=.type "tuple",data:=.seq #[.int 9 kx8,.ref km8] kn8 })(km_8:K.lookup km8=some { cls:=.type "tuple",data:=.seq #[] kl8 })(at_LOUD:PySem.W.nsIn K mainGlobals "LOUD"=some (some (.ref aT_LOUD)))(lt_LOUD:K.lookup aT_LOUD=some { cls:=.type "tuple",data:=.seq #[.int 2 tt_LOUD_0,.int 0 tt_LOUD_1,.int 0 tt_LOUD_2] nT_LOUD })(at_SOFT:PySem.W.nsIn K mainGlobals "SOFT"=some (some (.ref aT_SOFT)))(lt_SOFT:K.lookup aT_SOFT=some { cls:=.type "tuple",data:=.seq #[.int 3 tt_SOFT_0,.int 0 tt_SOFT_1,.int 0 tt_SOFT_2] nT_SOFT })(at_END:PySem.W.nsIn K mainGlobals "END"=some (some (.ref aT_END)))(lt_END:K.lookup aT_END=some { cls:=.type "tuple",data:=.seq #[.int 9 tt_END_0,.int 0 tt_END_1,.int 0 tt_END_2] nT_END })(at_LOCK_WEIGHTS:PySem.W.nsIn K mainGlobals "LOCK_WEIGHTS"=some (some (.ref aT_LOCK_WEIGHTS)))(lt_LOCK_WEIGHTS:K.lookup aT_LOCK_WEIGHTS=some { cls:=.type "tuple",data:=.seq #[.int 1 tt_LOCK_WEIGHTS_0,.int 2 tt_LOCK_WEIGHTS_1,.int 4 tt_LOCK_WEIGHTS_2] nT_LOCK_WEIGHTS })(at_CALLS_WITH_TEXT:PySem.W.nsIn K mainGlobals "CALLS_WITH_TEXT"=some (some (.ref aT_CALLS_WITH_TEXT)))(lt_CALLS_WITH_TEXT:K.lookup aT_CALLS_WITH_TEXT=some { cls:=.type "tuple",data:=.seq #[.int 1 tt_CALLS_WITH_TEXT_0,.int 2 tt_CALLS_WITH_TEXT_1] nT_CALLS_WITH_TEXT })(a_RANGES:PySem.W.nsIn K mainGlobals "RANGES"=some (some (.ref aRG)))(l_RANGES:K.lookup aRG=some { cls:=.type "tuple",data:=.seq #[.ref aR0,.ref aR1,.ref aR2,.ref aR3] nRG })(l_R0:K.lookup aR0=some { cls:=.type "tuple",data:=.seq #[.int 1 rl0,.int 1000000 rh0] nR0 })(l_R1:K.lookup aR1=some { cls:=.type "tuple",data:=.seq #[.int 0 rl1,.int 10000 rh1] nR1 })(l_R2:K.lookup aR2=some { cls:=.type "tuple",data:=.seq #[.int 1 rl2,.int 100000 rh2] nR2 })(l_R3:K.lookup aR3=some { cls:=.type "tuple",data:=.seq #[.int 1 rl3,.int 60000000 rh3] nR3 })(a_HOW:PySem.W.nsIn K mainGlobals "HOW_MANY_NUMBERS"=some (some (.ref aHM)))(l_HOW:K.lookup aHM=some oHM)(s_HOW:(aHM==sysModules)=false)(e_HOW:oHM={ cls:=.type "dict",data:=.dict (([(.inl 1,hk0,.int 4 hv0),(.inl 2,hk1,.int 0 hv1),(.inl 3,hk2,.int 0 hv2),(.inl 4,hk3,.int 2 hv3),(.inl 5,hk4,.int 1 hv4),(.inl 6,hk5,.int 0 hv5)]:List (Key×Tok×Value)).map (BK w)).toArray epH }) :
  ∃fd:FuncData,(∀(s:Shared) (us:List Value),us.length=(["calls"]:List Str).length->BindsTo s fd ⟨us,[]⟩ ((["calls"]:List Str).zip us))/\∀base:Heap,K.In base->base.Ns mainGlobals mg->aF P w K mg base CX0 10 fa fd ["calls"] (pZ K):=by
 have efa:=hfa.symm.trans (PySem.W.mg_of X G a_aA)
 cases efa
 have gI:=GAll.gi (l:=("NO_BYTE",-1)::("FIRST_DIGIT",48)::("LAST_DIGIT",57)::("TOO_GREAT",10000)::("FIRST_LETTER",97)::("LAST_LETTER",122)::("BLANK",32)::("LINE_END",10)::("MOST_ROWS",256)::("MOST_WIDTH_strips",128)::("MOST_WIDTH_bars",128)::("MOST_SPLIT",128)::("MOST_TAIL",15)::("MOST_FORCE_bars",127)::("MOST_SWELL",1023)::("KEY",1)::("LOCK",4)::("CANCEL",5)::("UP",6)::("DOWN",7)::("ACCENT",8)::("LET_GO",1)::("STRUCK",2)::("LOUD_BEGINS",3)::("LOUD_ENDS",4)::("SOFT_BEGINS",5)::("SOFT_ENDS",6)::("END_BEGINS",7)::("MOST_FORCE_sides",127)::("MOST_WAITING",256)::("MOST_FED",512)::("MOST_TOLD",512)::("DONE_WELL",0)::("OUT_OF_RANGE_playing",-1)::("NO_MORE_ROWS",-4)::("OTHER_WIDTH",-5)::("TOO_MANY_ROWS",-10)::("ROWS_BEGUN",0)::("ROW_NOT_FED",1)::("PLAYER_DONE",2)::("EVENTS_UNTOLD",3)::("GOES_ON",-1)::("OPENING",1)::("FEEDING",2)::("LAST",3)::("STEP",4)::("LEVER",5)::("TAKEN",0)::("OUT_OF_RANGE_player",-1)::("AT_FAULT",-6)::("NO_PLAYER",-8)::[]) X G ⟨⟨_,gi0⟩,⟨_,gi1⟩,⟨_,gi2⟩,⟨_,gi3⟩,⟨_,gi4⟩,⟨_,gi5⟩,⟨_,gi6⟩,⟨_,gi7⟩,⟨_,gi8⟩,⟨_,gi9⟩,⟨_,gi10⟩,⟨_,gi11⟩,⟨_,gi12⟩,⟨_,gi13⟩,⟨_,gi14⟩,⟨_,gi15⟩,⟨_,gi16⟩,⟨_,gi17⟩,⟨_,gi18⟩,⟨_,gi19⟩,⟨_,gi20⟩,⟨_,gi21⟩,⟨_,gi22⟩,⟨_,gi23⟩,⟨_,gi24⟩,⟨_,gi25⟩,⟨_,gi26⟩,⟨_,gi27⟩,⟨_,gi28⟩,⟨_,gi29⟩,⟨_,gi30⟩,⟨_,gi31⟩,⟨_,gi32⟩,⟨_,gi33⟩,⟨_,gi34⟩,⟨_,gi35⟩,⟨_,gi36⟩,⟨_,gi37⟩,⟨_,gi38⟩,⟨_,gi39⟩,⟨_,gi40⟩,⟨_,gi41⟩,⟨_,gi42⟩,⟨_,gi43⟩,⟨_,gi44⟩,⟨_,gi45⟩,⟨_,gi46⟩,⟨_,gi47⟩,⟨_,gi48⟩,⟨_,gi49⟩,⟨_,gi50⟩,trivial⟩
 have zI:=zs.z X G
 obtain⟨f_fI,fd_fI,M_fI⟩:=d_fI
 obtain⟨f_rI,fd_rI,M_rI⟩:=d_rI
 obtain⟨f_aE,fd_aE,M_aE⟩:=d_aE
 obtain⟨f_bH,fd_bH,M_bH⟩:=d_bH
 obtain⟨f_eX,fd_eX,M_eX⟩:=d_eX
 obtain⟨f_eW,fd_eW,M_eW⟩:=d_eW
 obtain⟨f_rN,fd_rN,M_rN⟩:=d_rN
 obtain⟨f_rL,fd_rL,M_rL⟩:=d_rL
 obtain⟨f_sI,fd_sI,M_sI⟩:=d_sI
 obtain⟨f_bI,fd_bI,M_bI⟩:=d_bI
 obtain⟨f_bHd,fd_bHd,M_bHd⟩:=d_bHd
 obtain⟨f_bSo,fd_bSo,M_bSo⟩:=d_bSo
 obtain⟨f_rH,fd_rH,M_rH⟩:=d_rH.fg X G
 obtain⟨f_rU,fd_rU,M_rU⟩:=d_rU.fg X G
 obtain⟨f_rS,fd_rS,M_rS⟩:=d_rS.fg X G
 obtain⟨f_nN,fd_nN,M_nN⟩:=d_nN.fg X G
 obtain⟨f_r3,fd_r3,M_r3⟩:=d_r3.fg X G
 obtain⟨f_nM,fd_nM,M_nM⟩:=d_nM.fg X G
 obtain⟨f_rT,fd_rT,M_rT⟩:=d_rT.fg X G
 obtain⟨f_rB,fd_rB,M_rB⟩:=d_rB.fg X G
 obtain⟨f_kO,fd_kO,M_kO⟩:=d_kO.fg X G
 obtain⟨f_cI,fd_cI,M_cI⟩:=d_cI
 obtain⟨f_cB,fd_cB,M_cB⟩:=d_cB
 obtain⟨f_cE,fd_cE,M_cE⟩:=d_cE
 obtain⟨f_rE,fd_rE,M_rE⟩:=d_rE.fg X G
 obtain⟨f_bE,fd_bE,M_bE⟩:=d_bE.fg X G
 obtain⟨f_pI,fd_pI,M_pI⟩:=d_pI
 obtain⟨f_pC,fd_pC,M_pC⟩:=d_pC
 obtain⟨f_pT,fd_pT,M_pT⟩:=d_pT
 obtain⟨f_rO,fd_rO,M_rO⟩:=d_rO.fg X G
 obtain⟨f_dI,fd_dI,M_dI⟩:=d_dI
 obtain⟨f_dH,fd_dH,M_dH⟩:=d_dH
 obtain⟨f_dT,fd_dT,M_dT⟩:=d_dT
 obtain⟨f_dL,fd_dL,M_dL⟩:=d_dL
 obtain⟨f_dW,fd_dW,M_dW⟩:=d_dW
 obtain⟨f_dF,fd_dF,M_dF⟩:=d_dF
 obtain⟨f_lI,fd_lI,M_lI⟩:=d_lI
 obtain⟨f_lP,fd_lP,M_lP⟩:=d_lP
 obtain⟨f_lT,fd_lT,M_lT⟩:=d_lT
 obtain⟨f_lA,fd_lA,M_lA⟩:=d_lA
 obtain⟨f_iR,fd_iR,M_iR⟩:=d_iR.fg X G
 obtain⟨f_iT,fd_iT,M_iT⟩:=d_iT.fg X G
 obtain⟨f_tI,fd_tI,M_tI⟩:=d_tI
 obtain⟨f_tT,fd_tT,M_tT⟩:=d_tT
 obtain⟨f_tS,fd_tS,M_tS⟩:=d_tS
 obtain⟨f_yI,fd_yI,M_yI⟩:=d_yI
 obtain⟨f_yF,fd_yF,M_yF⟩:=d_yF
 obtain⟨f_yE,fd_yE,M_yE⟩:=d_yE
 obtain⟨f_yS,fd_yS,M_yS⟩:=d_yS
 obtain⟨f_yT,fd_yT,M_yT⟩:=d_yT
 obtain⟨f_yD,fd_yD,M_yD⟩:=d_yD
 obtain⟨f_yB,fd_yB,M_yB⟩:=d_yB
 obtain⟨f_yH,fd_yH,M_yH⟩:=d_yH
 obtain⟨f_yL,fd_yL,M_yL⟩:=d_yL
 obtain⟨f_yN,fd_yN,M_yN⟩:=d_yN
 obtain⟨f_yG,fd_yG,M_yG⟩:=d_yG
 obtain⟨f_hI,fd_hI,M_hI⟩:=d_hI
 obtain⟨f_qI,fd_qI,M_qI⟩:=d_qI
 obtain⟨f_aC,fd_aC,M_aC⟩:=d_aC.fg X G
 obtain⟨f_aP,fd_aP,M_aP⟩:=d_aP.fg X G
 obtain⟨f_aO,fd_aO,M_aO⟩:=d_aO.fg X G
 obtain⟨f_aF,fd_aF,M_aF⟩:=d_aF.fg X G
 obtain⟨f_aS,fd_aS,M_aS⟩:=d_aS.fg X G
 obtain⟨f_aL,fd_aL,M_aL⟩:=d_aL.fg X G
 have T_Reader:=c_Reader.kc X G M_rI
 have T_Strip:=c_Strip.kc X G M_sI
 have T_Bar:=c_Bar.kc X G M_bI
 have T_Change:=c_Change.kc X G M_cI
 have T_Pace:=c_Pace.kc X G M_pI
 have T_Side:=c_Side.kc X G M_dI
 have T_Spool:=c_Spool.kc X G M_lI
 have T_Tones:=c_Tones.kc X G M_tI
 have T_Player:=c_Player.kc X G M_yI
 have T_Holder:=c_Holder.kc X G M_hI
 have T_Call:=c_Call.kc X G M_qI
 have T:TxR K mg C_Fault f_fI C_Reader:=⟨⟨⟨ga_Fault,gt_Fault,hd_Fault,sub_Fault⟩,⟨_,_,_,_,_,_,_,_,_,_,_,_,_,_,o_Fault⟩,M_fI.mt.at_,M_fI.mt.fn,kc_Fault,sa_Fault,n_Fault_place⟩,PySem.W.mg_of X G a_Fault,T_Reader.cl,T_Reader.no _ dk,T_Reader.no _ dk,(gI _ _ dk),(zI _ dk),(zI _ dk),(zI _ dk),(zI _ dk)⟩
 have TN:TxN mg:=⟨(gI _ _ dk),(gI _ _ dk),(gI _ _ dk),(gI _ _ dk),(gI _ _ dk),⟨_,PySem.W.mg_of X G g_LT⟩⟩
 have TS:TxS mg:=⟨(gI _ _ dk),(gI _ _ dk),(zI _ dk)⟩
 have TT:TxT mg:=⟨(gI _ _ dk),(gI _ _ dk)⟩
 have TB:TxB mg:=⟨(gI _ _ dk),(gI _ _ dk),(gI _ _ dk),(gI _ _ dk),(gI _ _ dk)⟩
 have TK:=Fl (P:=P) (w:=w) (K:=K) (mg:=mg) [(("key",1,[127]),kt0,km0),(("loud",2,[]),kt1,km1),(("soft",3,[]),kt2,km2),(("lock",4,[2,1]),kt3,km3),(("cancel",5,[1]),kt4,km4),(("up",6,[1]),kt5,km5),(("down",7,[1]),kt6,km6),(("accent",8,[1]),kt7,km7),(("end",9,[]),kt8,km8)] rfl (PySem.W.mg_of X G a_KINDS) (zN _ l_KINDS e_KINDS s_KINDS (show([.inr "key",.inr "loud",.inr "soft",.inr "lock",.inr "cancel",.inr "up",.inr "down",.inr "accent",.inr "end"]:List Key).Nodup by decide +kernel) (.cons ⟨rfl,rfl⟩ (.cons ⟨rfl,rfl⟩ (.cons ⟨rfl,rfl⟩ (.cons ⟨rfl,rfl⟩ (.cons ⟨rfl,rfl⟩ (.cons ⟨rfl,rfl⟩ (.cons ⟨rfl,rfl⟩ (.cons ⟨rfl,rfl⟩ (.cons ⟨rfl,rfl⟩ (.nil))))))))))) (by
  intro x hx
  simp only[List.mem_cons,List.mem_nil_iff,or_false] at hx
  rcases hx with rfl|rfl|rfl|rfl|rfl|rfl|rfl|rfl|rfl
  ·exact⟨cI (its:=[.int 1 kx0,.ref km0]) kt_0 (.cons ⟨_,rfl⟩ (.cons rfl (.nil))) (by show 2<=sizeLine;decide),cI (its:=[.int 127 kv0_0]) km_0 (.cons ⟨_,rfl⟩ (.nil)) (by show 1<=sizeLine;decide)⟩
  ·exact⟨cI (its:=[.int 2 kx1,.ref km1]) kt_1 (.cons ⟨_,rfl⟩ (.cons rfl (.nil))) (by show 2<=sizeLine;decide),cI (its:=[]) km_1 (.nil) (by show 0<=sizeLine;decide)⟩
  ·exact⟨cI (its:=[.int 3 kx2,.ref km2]) kt_2 (.cons ⟨_,rfl⟩ (.cons rfl (.nil))) (by show 2<=sizeLine;decide),cI (its:=[]) km_2 (.nil) (by show 0<=sizeLine;decide)⟩
  ·exact⟨cI (its:=[.int 4 kx3,.ref km3]) kt_3 (.cons ⟨_,rfl⟩ (.cons rfl (.nil))) (by show 2<=sizeLine;decide),cI (its:=[.int 2 kv3_0,.int 1 kv3_1]) km_3 (.cons ⟨_,rfl⟩ (.cons ⟨_,rfl⟩ (.nil))) (by show 2<=sizeLine;decide)⟩
  ·exact⟨cI (its:=[.int 5 kx4,.ref km4]) kt_4 (.cons ⟨_,rfl⟩ (.cons rfl (.nil))) (by show 2<=sizeLine;decide),cI (its:=[.int 1 kv4_0]) km_4 (.cons ⟨_,rfl⟩ (.nil)) (by show 1<=sizeLine;decide)⟩
  ·exact⟨cI (its:=[.int 6 kx5,.ref km5]) kt_5 (.cons ⟨_,rfl⟩ (.cons rfl (.nil))) (by show 2<=sizeLine;decide),cI (its:=[.int 1 kv5_0]) km_5 (.cons ⟨_,rfl⟩ (.nil)) (by show 1<=sizeLine;decide)⟩
  ·exact⟨cI (its:=[.int 7 kx6,.ref km6]) kt_6 (.cons ⟨_,rfl⟩ (.cons rfl (.nil))) (by show 2<=sizeLine;decide),cI (its:=[.int 1 kv6_0]) km_6 (.cons ⟨_,rfl⟩ (.nil)) (by show 1<=sizeLine;decide)⟩
  ·exact⟨cI (its:=[.int 8 kx7,.ref km7]) kt_7 (.cons ⟨_,rfl⟩ (.cons rfl (.nil))) (by show 2<=sizeLine;decide),cI (its:=[.int 1 kv7_0]) km_7 (.cons ⟨_,rfl⟩ (.nil)) (by show 1<=sizeLine;decide)⟩
  ·exact⟨cI (its:=[.int 9 kx8,.ref km8]) kt_8 (.cons ⟨_,rfl⟩ (.cons rfl (.nil))) (by show 2<=sizeLine;decide),cI (its:=[]) km_8 (.nil) (by show 0<=sizeLine;decide)⟩)
 have TP_LOUD:uz K mg "LOUD" aT_LOUD [2,0,0]:=⟨PySem.W.mg_of X G at_LOUD,cI (its:=[.int 2 tt_LOUD_0,.int 0 tt_LOUD_1,.int 0 tt_LOUD_2]) lt_LOUD (.cons ⟨_,rfl⟩ (.cons ⟨_,rfl⟩ (.cons ⟨_,rfl⟩ (.nil)))) (by show 3<=sizeLine;decide)⟩
 have TP_SOFT:uz K mg "SOFT" aT_SOFT [3,0,0]:=⟨PySem.W.mg_of X G at_SOFT,cI (its:=[.int 3 tt_SOFT_0,.int 0 tt_SOFT_1,.int 0 tt_SOFT_2]) lt_SOFT (.cons ⟨_,rfl⟩ (.cons ⟨_,rfl⟩ (.cons ⟨_,rfl⟩ (.nil)))) (by show 3<=sizeLine;decide)⟩
 have TP_END:uz K mg "END" aT_END [9,0,0]:=⟨PySem.W.mg_of X G at_END,cI (its:=[.int 9 tt_END_0,.int 0 tt_END_1,.int 0 tt_END_2]) lt_END (.cons ⟨_,rfl⟩ (.cons ⟨_,rfl⟩ (.cons ⟨_,rfl⟩ (.nil)))) (by show 3<=sizeLine;decide)⟩
 have TP_LOCK_WEIGHTS:uz K mg "LOCK_WEIGHTS" aT_LOCK_WEIGHTS [1,2,4]:=⟨PySem.W.mg_of X G at_LOCK_WEIGHTS,cI (its:=[.int 1 tt_LOCK_WEIGHTS_0,.int 2 tt_LOCK_WEIGHTS_1,.int 4 tt_LOCK_WEIGHTS_2]) lt_LOCK_WEIGHTS (.cons ⟨_,rfl⟩ (.cons ⟨_,rfl⟩ (.cons ⟨_,rfl⟩ (.nil)))) (by show 3<=sizeLine;decide)⟩
 have TX:zB K mg aT_CALLS_WITH_TEXT:=⟨PySem.W.mg_of X G at_CALLS_WITH_TEXT,cI (its:=[.int 1 tt_CALLS_WITH_TEXT_0,.int 2 tt_CALLS_WITH_TEXT_1]) lt_CALLS_WITH_TEXT (.cons ⟨_,rfl⟩ (.cons ⟨_,rfl⟩ (.nil))) (by show 2<=sizeLine;decide)⟩
 have TR:oZ K mg aRG [aR0,aR1,aR2,aR3]:=⟨PySem.W.mg_of X G a_RANGES,cI (its:=[.ref aR0,.ref aR1,.ref aR2,.ref aR3]) l_RANGES (.cons rfl (.cons rfl (.cons rfl (.cons rfl .nil)))) (by show 4<=sizeLine;decide),(by
  intro i e lo hi h1 h2
  match i,h1,h2 with
  |0,h1,h2 =>
   cases h1
   cases h2
   exact cI (its:=[.int 1 rl0,.int 1000000 rh0]) l_R0 (.cons ⟨_,rfl⟩ (.cons ⟨_,rfl⟩ (.nil))) (by show 2<=sizeLine;decide)
  |1,h1,h2 =>
   cases h1
   cases h2
   exact cI (its:=[.int 0 rl1,.int 10000 rh1]) l_R1 (.cons ⟨_,rfl⟩ (.cons ⟨_,rfl⟩ (.nil))) (by show 2<=sizeLine;decide)
  |2,h1,h2 =>
   cases h1
   cases h2
   exact cI (its:=[.int 1 rl2,.int 100000 rh2]) l_R2 (.cons ⟨_,rfl⟩ (.cons ⟨_,rfl⟩ (.nil))) (by show 2<=sizeLine;decide)
  |3,h1,h2 =>
   cases h1
   cases h2
   exact cI (its:=[.int 1 rl3,.int 60000000 rh3]) l_R3 (.cons ⟨_,rfl⟩ (.cons ⟨_,rfl⟩ (.nil))) (by show 2<=sizeLine;decide)
  |n+4,h1,_=>cases h1),rfl⟩
 have TH:HowAt P w K mg aHM [(.inl 1,.int 4),(.inl 2,.int 0),(.inl 3,.int 0),(.inl 4,.int 2),(.inl 5,.int 1),(.inl 6,.int 0)]:=⟨PySem.W.mg_of X G a_HOW,zN _ l_HOW e_HOW s_HOW (show([.inl 1,.inl 2,.inl 3,.inl 4,.inl 5,.inl 6]:List Key).Nodup by decide +kernel) (.cons ⟨rfl,⟨_,rfl⟩⟩ (.cons ⟨rfl,⟨_,rfl⟩⟩ (.cons ⟨rfl,⟨_,rfl⟩⟩ (.cons ⟨rfl,⟨_,rfl⟩⟩ (.cons ⟨rfl,⟨_,rfl⟩⟩ (.cons ⟨rfl,⟨_,rfl⟩⟩ (.nil))))))),IV⟩
 have TEv:EvTop K mg aT_LOUD aT_SOFT aT_END:=⟨(gI _ _ dk),(gI _ _ dk),(gI _ _ dk),(gI _ _ dk),(gI _ _ dk),(gI _ _ dk),(gI _ _ dk),TP_LOUD,TP_SOFT,TP_END⟩
 have TSd:zz K mg aT_LOCK_WEIGHTS aT_SOFT:=⟨(gI _ _ dk),(gI _ _ dk),(gI _ _ dk),(gI _ _ dk),(gI _ _ dk),(gI _ _ dk),TP_LOCK_WEIGHTS,TP_SOFT⟩
 have TSt:o6 mg:=⟨(zI _ dk),(gI _ _ dk),(gI _ _ dk),(gI _ _ dk),(gI _ _ dk),(gI _ _ dk),(gI _ _ dk),(gI _ _ dk),(gI _ _ dk),(gI _ _ dk),(gI _ _ dk),(gI _ _ dk),(gI _ _ dk),(gI _ _ dk),(gI _ _ dk)⟩
 have TAn:Dz mg:=⟨(gI _ _ dk),(gI _ _ dk),(gI _ _ dk),(gI _ _ dk),(gI _ _ dk),(gI _ _ dk),(gI _ _ dk)⟩
 have F_aA:=fun_mk (st:=eZ) l_aA c_aA k_aA
 refine⟨PySem.W.fnOf "answers" "answers" (jD eZ) (cY eZ) (aA eZ) .none kV_aA dc_aA pm_aA an_aA cd_aA ct_aA,λs us hu=>match us,hu with|[_],_=>.of_eq rfl,λbase _ _=>?_⟩
 have G_fI:=Cv (P:=P) (w:=w) (base:=base) M_fI.fn T
 have G_rI:=yI (P:=P) (w:=w) (base:=base) M_rI.fn T
 have G_aE:=Ge (P:=P) (w:=w) (base:=base) M_aE.fn T
 have G_bH:=Jf (P:=P) (w:=w) (base:=base) M_bH.fn T M_aE G_aE
 have G_eX0:=Cu (P:=P) (w:=w) (base:=base) M_eX.fn T M_fI.bd G_fI M_bH G_bH
 have G_eX:=Dr G_eX0
 have G_eW:=J0 (Jp (P:=P) (w:=w) (base:=base) M_eW.fn T M_eX G_eX0)
 have G_rN:=to_num (Cy (P:=P) (w:=w) (base:=base) M_rN.fn T TN M_fI.bd G_fI M_bH G_bH)
 have G_rL:=yE (P:=P) (w:=w) (base:=base) M_rL.fn T TN M_bH G_bH
 have G_sI:=CJ (P:=P) (w:=w) (base:=base) M_sI.fn T_Strip
 have G_bI:=Je (P:=P) (w:=w) (base:=base) M_bI.fn T_Bar
 have G_rH:=Gk (P:=P) (w:=w) (base:=base) M_rH.fn T TS M_bH G_bH M_eX G_eX M_rN G_rN
 have G_rU:=ok_run (P:=P) (w:=w) (base:=base) M_rU.fn T TS TT M_fI.bd G_fI M_eX G_eX M_rN G_rN M_rH G_rH
 have G_rS:=Gz (P:=P) (w:=w) (base:=base) M_rS.fn T TS TT T_Reader M_rI.bd G_rI T_Strip M_sI.bd G_sI M_aE G_aE M_eX G_eX M_eW G_eW M_rN G_rN M_rU G_rU
 have G_nN:=Jj (P:=P) (w:=w) (base:=base) M_nN.fn T TS M_eX G_eX M_rN G_rN
 have G_r3:=GK (P:=P) (w:=w) (base:=base) M_r3.fn T TS (zI _ dk) M_eX G_eX M_eW G_eW M_nN G_nN
 have G_nM:=yF (P:=P) (w:=w) (base:=base) M_nM.fn T TK (zI _ dk) M_fI.bd G_fI M_rL G_rL M_nN G_nN
 have G_rT:=CQ (P:=P) (w:=w) (base:=base) M_rT.fn T TS M_aE G_aE M_eX G_eX M_rN G_rN M_nM G_nM
 have G_kO:=Ji (P:=P) (w:=w) (base:=base) M_kO.fn (zI _ dk) (gI _ _ dk)
 have G_rB:=ok_bar (P:=P) (w:=w) (base:=base) M_rB.fn T TS TB T_Reader M_rI.bd G_rI T_Bar M_bI.bd G_bI M_eX G_eX M_eW G_eW M_nN G_nN M_r3 G_r3 M_rT G_rT M_kO G_kO
 have G_bHd:=Gi (P:=P) (w:=w) (base:=base) M_bHd.fn T_Bar
 have G_bSo:=Cz (P:=P) (w:=w) (base:=base) M_bSo.fn T_Bar
 have G_cI:=yx (P:=P) (w:=w) (base:=base) M_cI.fn T_Change
 have G_cB:=Cr (P:=P) (w:=w) (base:=base) M_cB.fn T_Change
 have G_cE:=Jg (P:=P) (w:=w) (base:=base) M_cE.fn T_Change
 have G_bE:=Cq (P:=P) (w:=w) (base:=base) M_bE.fn T_Change M_cB G_cB M_cE G_cE
 have G_rE:=Gv (P:=P) (w:=w) (base:=base) M_rE.fn T_Bar T_Change TEv M_cB G_cB M_cE G_cE M_bE G_bE M_bSo G_bSo
 have G_lI:=CG (P:=P) (w:=w) (base:=base) M_lI.fn T_Spool
 have G_lP:=Gr (P:=P) (w:=w) (base:=base) M_lP.fn T_Spool
 have G_lT:=GQ (P:=P) (w:=w) (base:=base) M_lT.fn T_Spool M_lP G_lP
 have G_lA:=Gd (P:=P) (w:=w) (base:=base) M_lA.fn T_Spool M_lT G_lT M_lP G_lP
 have G_rO:=Gu (P:=P) (w:=w) (base:=base) (mg:=mg) M_rO.fn
 have G_pI:=Gq (P:=P) (w:=w) (base:=base) M_pI.fn T_Pace T_Spool M_lA G_lA
 have G_pC:=Gp (P:=P) (w:=w) (base:=base) M_pC.fn T_Pace T_Spool M_lA G_lA
 have G_pT:=Jm (P:=P) (w:=w) (base:=base) M_pT.fn T_Pace T_Spool M_lA G_lA M_rO G_rO
 have G_dI:=Gx (P:=P) (w:=w) (base:=base) M_dI.fn T_Side
 have G_dH:=Gj (P:=P) (w:=w) (base:=base) M_dH.fn T_Side T_Bar M_bHd G_bHd
 have G_dL:=Gn (P:=P) (w:=w) (base:=base) M_dL.fn T_Side T_Bar TSd (zI _ dk) M_bHd G_bHd M_dH G_dH
 have G_dW:=GJ (P:=P) (w:=w) (base:=base) M_dW.fn T_Side T_Bar TSd (zI _ dk) (zI _ dk) M_dH G_dH
 have G_dT:=Gw (P:=P) (w:=w) (base:=base) M_dT.fn T_Side M_dL G_dL M_dW G_dW
 have G_dF:=Gh (P:=P) (w:=w) (base:=base) M_dF.fn T_Side T_Bar TSd (zI _ dk) M_bHd G_bHd M_dH G_dH
 have G_iR:=Gs (P:=P) (w:=w) (base:=base) M_iR.fn TR (zI _ dk)
 have G_iT:=Cw (P:=P) (w:=w) (base:=base) M_iT.fn TR
 have G_tI:=CK (P:=P) (w:=w) (base:=base) M_tI.fn T_Tones
 have G_tT:=yJ (P:=P) (w:=w) (base:=base) M_tT.fn T_Tones (zI _ dk)
 have G_tS:=ww (P:=P) (w:=w) (base:=base) M_tS.fn T_Tones (zI _ dk)
 have G_yI:=yH (P:=P) (w:=w) (base:=base) (C:=⟨C_Player,C_Bar,C_Pace,C_Spool,C_Tones,C_Side⟩) M_yI.fn T_Player T_Bar T_Pace M_pI.bd G_pI T_Tones M_tI.bd G_tI T_Side M_dI.bd G_dI
 have G_yG:=Gy (P:=P) (w:=w) (base:=base) (C:=⟨C_Player,C_Bar,C_Pace,C_Spool,C_Tones,C_Side⟩) M_yG.fn T_Player
 have G_yD:=wy (P:=P) (w:=w) (base:=base) (C:=⟨C_Player,C_Bar,C_Pace,C_Spool,C_Tones,C_Side⟩) M_yD.fn T_Player TSt
 have G_yH:=yD (P:=P) (w:=w) (base:=base) (C:=⟨C_Player,C_Bar,C_Pace,C_Spool,C_Tones,C_Side⟩) M_yH.fn T_Player (zI _ dk)
 have G_yE:=yz (P:=P) (w:=w) (base:=base) (C:=⟨C_Player,C_Bar,C_Pace,C_Spool,C_Tones,C_Side⟩) M_yE.fn T_Player TSt
 have G_yL:=Gm (P:=P) (w:=w) (base:=base) (C:=⟨C_Player,C_Bar,C_Pace,C_Spool,C_Tones,C_Side⟩) M_yL.fn T_Player T_Pace TSt (zI _ dk) M_iT G_iT M_pC G_pC
 have G_yF:=Jh (P:=P) (w:=w) (base:=base) (C:=⟨C_Player,C_Bar,C_Pace,C_Spool,C_Tones,C_Side⟩) M_yF.fn T_Player T_Bar T_Strip TSt
 have G_yT:=Jl (P:=P) (w:=w) (base:=base) (C:=⟨C_Player,C_Bar,C_Pace,C_Spool,C_Tones,C_Side⟩) M_yT.fn T_Player TSt
 have G_yB:=Gf (P:=P) (w:=w) (base:=base) (C:=⟨C_Player,C_Bar,C_Pace,C_Spool,C_Tones,C_Side⟩) M_yB.fn T_Player T_Bar T_Tones T_Side T_Pace (zI _ dk) M_tS G_tS M_tT G_tT M_yH G_yH M_dT G_dT M_dF G_dF M_pT G_pT M_rE G_rE T_Change M_cI.bd G_cI
 have G_yN:=ok_now (P:=P) (w:=w) (base:=base) (C:=⟨C_Player,C_Bar,C_Pace,C_Spool,C_Tones,C_Side⟩) M_yN.fn T_Player T_Tones T_Side (zI _ dk) (zI _ dk) (zI _ dk) M_tS G_tS M_yG G_yG
 have G_yS:=Jk (P:=P) (w:=w) (base:=base) (C:=⟨C_Player,C_Bar,C_Pace,C_Spool,C_Tones,C_Side⟩) M_yS.fn T_Player TSt (zI _ dk) M_yT G_yT M_yD G_yD M_yB G_yB
 have G_aL:=Jo (P:=P) (w:=w) (base:=base) M_aL.fn (zI _ dk)
 have G_aF:=yr (P:=P) (w:=w) (base:=base) (C:=⟨C_Player,C_Bar,C_Pace,C_Spool,C_Tones,C_Side⟩) M_aF.fn T T_Player M_rS G_rS M_aL G_aL M_yF G_yF (gI _ _ dk)
 have G_aS:=yt (P:=P) (w:=w) (base:=base) (C:=⟨C_Player,C_Bar,C_Pace,C_Spool,C_Tones,C_Side⟩) M_aS.fn T_Player M_yS G_yS M_aL G_aL
 have G_aP:=yu (P:=P) (w:=w) (base:=base) (C:=⟨C_Player,C_Bar,C_Pace,C_Spool,C_Tones,C_Side⟩) M_aP.fn T_Player T_Call TAn M_aF G_aF M_aS G_aS M_aL G_aL M_yE G_yE M_yL G_yL M_yN G_yN
 have G_aO:=yG (P:=P) (w:=w) (base:=base) M_aO.fn T M_rB G_rB M_aL G_aL M_iR G_iR T_Player.mkc T_Player.mg M_yI.bd G_yI T_Spool.mkc T_Spool.mg M_lI.bd G_lI T_Call T_Holder (pH _ C_Holder) (Pl.stays _) (λH H' a sp h' g'=>let ⟨dx,q⟩:=h';⟨dx,g' _ _ q⟩) (gI _ _ dk) (gI _ _ dk) (gI _ _ dk)
 have G_aC:=yq (P:=P) (w:=w) (base:=base) M_aC.fn T_Call T_Holder TAn M_aO G_aO M_aP G_aP
 have G_hI:=yC (P:=P) (w:=w) (base:=base) M_hI.fn T_Holder
 have G_qI:=Gg (P:=P) (w:=w) (base:=base) M_qI.fn T_Call TH TX
 exact yw (P:=P) (w:=w) (base:=base) (k:=9) F_aA (by decide) (zI _ dk) T_Holder M_hI.bd G_hI T_Call M_qI.bd G_qI M_aC.fn.kp M_aC.mg M_aC.bd G_aC (λH h' dx hh=>⟨dx,hh,rfl⟩) (pH _ C_Holder)
end PR
theorem PR.b1{P:List PySem.Value->Prop}(h:∀a,P [a]):∀u:List PySem.Value,u.length=1->P u|[_],_=>h _
theorem PR.b2{P:List PySem.Value->Prop}(h:∀a b,P [a,b]):∀u:List PySem.Value,u.length=2->P u|[_,_],_=>h _ _
theorem PR.b3{P:List PySem.Value->Prop}(h:∀a b c,P [a,b,c]):∀u:List PySem.Value,u.length=3->P u|[_,_,_],_=>h _ _ _
theorem PR.b4{P:List PySem.Value->Prop}(h:∀a b c d,P [a,b,c,d]):∀u:List PySem.Value,u.length=4->P u|[_,_,_,_],_=>h _ _ _ _
namespace PySem.W.Fast
def tw1843409370272435706:=0
def tw6185509306427490438:=0
def tw9276561556420080725:=0
def tw13997865852524454367:=0
def tw15044658319077830812:=0
def tw8132627141914612712:=0
def tw15508099116803584952:=0
def tw9020780127775752919:=0
def tw15165124730200037500:=0
def tw5679995045778775287:=0
def tw354431092975598005:=0
def tw10021659397185463741:=0
def tw7626764354359319247:=0
def tw15224376465291305105:=0
def tw14682286303214171003:=0
def tw1468330229402494644:=0
def tw1226925075062448355:=0
def tw690871937933218980:=0
def tw3475841892656317213:=0
def tw7386930393147642233:=0
def tw2366539795571392407:=0
def tw2128056322785258977:=0
def tw18104610368823710623:=0
def tw8622920608720478972:=0
def tw17804142299646827876:=0
def tw5946146926855449579:=0
def tw10307702325001672388:=0
def tw9633841539004663441:=0
def tw12249288941140394244:=0
def tw16277829641675487105:=0
def tw1156322782119184768:=0
def tw7162698282041380403:=0
def tw3915518755019986355:=0
def tw3546293843159633812:=0
def tw4506085178303958124:=0
def tw7763477192527176865:=0
def tw10064136249870923632:=0
def tw15328145802714209092:=0
def tw8254846610861750579:=0
def tw13100634511401580679:=0
def tw748079441175447954:=0
def tw1119173650073115798:=0
def tw7719668399512092105:=0
def tw9651125460251653350:=0
def tw16993768600624848852:=0
def tw13963476835999703067:=0
def tw6225268596870300229:=0
def tw18059842977818935676:=0
def tw8290452563355809830:=0
def tw12591504311172451327:=0
def tw15411082327537393989:=0
def tw750772401541680190:=0
def tw16670657956929678975:=0
def tw15135799527975098389:=0
def tw16257513263116650930:=0
def tw17525154004987828336:=0
def tw16245274651556643615:=0
def tw5726306748721743530:=0
def tw4027768363326564782:=0
def tw9948222915010746980:=0
def tw14070848473661758913:=0
def tw1552900795045969677:=0
def tw13043361124698189771:=0
def tw4821646613736703438:=0
def tw17071217067315153708:=0
def tw6123699207976697040:=0
def tw6480319044709614481:=0
def tw4291323411704276058:=0
def tw2885819811014850824:=0
def tw17943377473222490607:=0
def tw18189976011487968242:=0
def tw11292044423380616727:=0
def tw4347345073733697545:=0
def tw10464374867873244826:=0
def tw2376692660985920358:=0
def tw10546186233228929283:=0
def tw17733536666099369889:=0
def tw16063298082499867040:=0
def tw3826472839773288150:=0
def tw2395970400446319354:=0
def tw11359759003035370699:=0
def tw13907609383604429832:=0
def tw10703276031804153465:=0
def tw10485009926607352800:=0
def tw11645047530348859447:=0
def tw7173996946243662600:=0
def tw2263512461489781558:=0
def tw9330454932438064414:=0
def tw12036224347859899548:=0
def tw17403946194843674150:=0
def tw17174411832665838208:=0
def tw16416701564188241661:=0
def tw8807032902476033167:=0
def tw16636899108571586063:=0
def tw6408386170074337378:=0
def tw9753738556023870291:=0
def tw18293591653385388998:=0
def tw503490191250157644:=0
def tw5464796067857303691:=0
def tw6081131536368549713:=0
def tw14343352025965099:=0
def tw1720997072141964364:=0
def tw3731434286326431453:=0
def tw3095188726964316687:=0
def tw16896966798847842914:=0
def tw13150520928109166444:=0
def tw4921316750397295076:=0
def tw17206705995888604995:=0
def tw6187705201273522210:=0
def tw4949970677634992644:=0
def tw12089331595195261284:=0
def tw12286979597471792556:=0
def tw13722583558263266868:=0
def tw17542078271012128663:=0
def tw6911106561419708863:=0
def tw6592414155077621336:=0
def tw8903899588277504226:=0
def tw18346035022212025727:=0
def tw16146890133445125639:=0
def tw3159855502320066107:=0
def tw15003044118101817634:=0
def tw8119439414108260599:=0
def tw2464637794398854784:=0
def tw16249565571802687384:=0
def tw3044788916747053398:=0
def tw5425193140590984123:=0
def tw14707707599253534123:=0
def tw3215200809789364796:=0
def tw7763323499365619447:=0
def tw5084362430522780521:=0
def tw15013557713449262883:=0
def tw5771674146910070164:=0
def tw12003748472880605341:=0
def tw2950031191384381995:=0
def tw4825149595050108785:=0
def tw10712486669272706250:=0
def tw10789423957512891212:=0
def tw10422028556657838034:=0
def tw4208594584158058463:=0
def tw2628709866296264732:=0
def tw11405383950545482933:=0
def tw46559139023981032:=0
def tw247284423062952782:=0
def tw9137563662960484038:=0
def tw16184452792751824234:=0
def tw1128731919278839155:=0
def tw897650281582984463:=0
def tw10591124004558524389:=0
def tw14050249874723226879:=0
def tw6103390967793089008:=0
def tw8502626111102056156:=0
def tw11817739633552140656:=0
def tw6946783255601483077:=0
def tw4528318854262457245:=0
def tw2186291114513993949:=0
def tw15020606895807321950:=0
def tw12653169035842764838:=0
def tw14512746800112267177:=0
def tw2735163273789682575:=0
def tw18094427473525719999:=0
def tw3346850622381310915:=0
def tw2723210914128313372:=0
def tw4922773397772541783:=0
def tw6692815277008226423:=0
def tw11886695695915876841:=0
def tw9507254601113415759:=0
def tw694778164396344821:=0
def tw3115221807802460018:=0
def tw2951030927387946932:=0
def tw9171804608478276630:=0
def tw721856596706927190:=0
def tw15176824051697325599:=0
def tw4016586779587400700:=0
def tw7133961070434378621:=0
def tw7538115356809323516:=0
def tw2341055887197272608:=0
def tw6083751647256555475:=0
def tw8817104279336205641:=0
def tw12466073838510042435:=0
def tw6644502209289158002:=0
def tw16508453751856343652:=0
def tw9852331717310076238:=0
def tw3735430425312212664:=0
def tw18010345204266178604:=0
def tw16141939980216483613:=0
def tw12392003606800257710:=0
def tw18330517898036923289:=0
def tw4673038709682613080:=0
def tw15181746483868900669:=0
def tw7929610119544551742:=0
def tw13675913105404502944:=0
def tw4578542609506445054:=0
def tw17288279126934940487:=0
def tw15261845871538383432:=0
def tw12671290436340394829:=0
def tw7976590848041469755:=0
def tw10400255616491334926:=0
def tw4314956127990045064:=0
def tw8517634287975154007:=0
def tw6796646435187654307:=0
end PySem.W.Fast
open PySem PySem.W PyProof.Rows
set_option maxHeartbeats 0 in
theorem PySem.Challenge.cw_paperroll_s01_answers_holds : PySem.Challenge.rw_paperroll_s01_answers.Holds := by
 w_on;k_headS;(case hw=>exact⟨[.list [.int 3]],by decide +kernel,by decide +kernel⟩)
 k_fillS
 refine L2.zu (r:=PySem.Challenge.rw_paperroll_s01_answers) (k:=10) (CX:=L2.CX0) (ps:=["calls"]) (sp:=PR.pZ) (by decide +kernel) rfl rfl ⟨rfl,by decide,by decide⟩ (λw h Y=>PySem.W.kIn_of Y) ?F ?S (λ_ _ _ _ z=>z)
 case F =>
  intro w mg fa h Y KX G hmg
  refine' PR.all_mk KX G hmg ?c_Reader ?c_Strip ?c_Bar ?c_Change ?c_Pace ?c_Side ?c_Spool ?c_Tones ?c_Player ?c_Holder ?c_Call ?a_Fault ?ga_Fault ?gt_Fault ?hd_Fault ?sub_Fault ?o_Fault ?kc_Fault ?sa_Fault ?n_Fault_place ?d_fI ?d_rI ?d_aE ?d_bH ?d_eX ?d_eW ?d_rN ?d_rL ?d_sI ?d_bI ?d_bHd ?d_bSo ?d_rH ?d_rU ?d_rS ?d_nN ?d_r3 ?d_nM ?d_rT ?d_rB ?d_kO ?d_cI ?d_cB ?d_cE ?d_rE ?d_bE ?d_pI ?d_pC ?d_pT ?d_rO ?d_dI ?d_dH ?d_dT ?d_dL ?d_dW ?d_dF ?d_lI ?d_lP ?d_lT ?d_lA ?d_iR ?d_iT ?d_tI ?d_tT ?d_tS ?d_yI ?d_yF ?d_yE ?d_yS ?d_yT ?d_yD ?d_yB ?d_yH ?d_yL ?d_yN ?d_yG ?d_hI ?d_qI ?d_aC ?d_aP ?d_aO ?d_aF ?d_aS ?d_aL ?a_aA ?l_aA ?c_aA ?k_aA ?gi0 ?gi1 ?gi2 ?gi3 ?gi4 ?gi5 ?gi6 ?gi7 ?gi8 ?gi9 ?gi10 ?gi11 ?gi12 ?gi13 ?gi14 ?gi15 ?gi16 ?gi17 ?gi18 ?gi19 ?gi20 ?gi21 ?gi22 ?gi23 ?gi24 ?gi25 ?gi26 ?gi27 ?gi28 ?gi29 ?gi30 ?gi31 ?gi32 ?gi33 ?gi34 ?gi35 ?gi36 ?gi37 ?gi38 ?gi39 ?gi40 ?gi41 ?gi42 ?gi43 ?gi44 ?gi45 ?gi46 ?gi47 ?gi48 ?gi49 ?gi50 ?g_LT ?zs ?a_KINDS ?l_KINDS ?s_KINDS ?e_KINDS ?kt_0 ?km_0 ?kt_1 ?km_1 ?kt_2 ?km_2 ?kt_3 ?km_3 ?kt_4 ?km_4 ?kt_5 ?km_5 ?kt_6 ?km_6 ?kt_7 ?km_7 ?kt_8 ?km_8 ?at_LOUD ?lt_LOUD ?at_SOFT ?lt_SOFT ?at_END ?lt_END ?at_LOCK_WEIGHTS ?lt_LOCK_WEIGHTS ?at_CALLS_WITH_TEXT ?lt_CALLS_WITH_TEXT ?a_RANGES ?l_RANGES ?l_R0 ?l_R1 ?l_R2 ?l_R3 ?a_HOW ?l_HOW ?s_HOW ?e_HOW
  (case c_Reader|c_Strip|c_Change|c_Tones=>exact⟨by k_is,⟨by k_is,by k_is,by k_is,by k_is⟩,by k_is,by k_is,⟨by k_is,by k_is,trivial⟩⟩)
  (case c_Bar=>exact⟨by k_is,⟨by k_is,by k_is,by k_is,by k_is⟩,by k_is,by k_is,⟨by k_is,by k_is,by k_is,by k_is,by k_is,by k_is,by k_is,trivial⟩⟩)
  (case c_Pace|c_Side|c_Spool|c_Call=>exact⟨by k_is,⟨by k_is,by k_is,by k_is,by k_is⟩,by k_is,by k_is,⟨by k_is,by k_is,by k_is,by k_is,trivial⟩⟩)
  (case c_Player=>exact⟨by k_is,⟨by k_is,by k_is,by k_is,by k_is⟩,by k_is,by k_is,⟨by k_is,by k_is,by k_is,by k_is,by k_is,by k_is,by k_is,by k_is,by k_is,by k_is,trivial⟩⟩)
  (case c_Holder=>exact⟨by k_is,⟨by k_is,by k_is,by k_is,by k_is⟩,by k_is,by k_is,⟨by k_is,trivial⟩⟩)
  (case a_Fault|ga_Fault|gt_Fault|hd_Fault|sub_Fault|o_Fault|kc_Fault|sa_Fault|n_Fault_place|a_aA|l_aA|c_aA|k_aA|gi0|gi1|gi2|gi3|gi4|gi5|gi6|gi7|gi8|gi9|gi10|gi11|gi12|gi13|gi14|gi15|gi16|gi17|gi18|gi19|gi20|gi21|gi22|gi23|gi24|gi25|gi26|gi27|gi28|gi29|gi30|gi31|gi32|gi33|gi34|gi35|gi36|gi37|gi38|gi39|gi40|gi41|gi42|gi43|gi44|gi45|gi46|gi47|gi48|gi49|gi50|g_LT|a_KINDS|l_KINDS=>k_is)
  (case s_KINDS|e_KINDS=>rfl)
  (case kt_0|km_0|kt_1|km_1|kt_2|km_2|kt_3|km_3|kt_4|km_4|kt_5|km_5|kt_6|km_6|kt_7|km_7|kt_8|km_8|at_LOUD|lt_LOUD|at_SOFT|lt_SOFT|at_END|lt_END|at_LOCK_WEIGHTS|lt_LOCK_WEIGHTS|at_CALLS_WITH_TEXT|lt_CALLS_WITH_TEXT|a_RANGES|l_RANGES|l_R0|l_R1|l_R2|l_R3|a_HOW|l_HOW=>k_is)
  (case s_HOW|e_HOW=>rfl)
  (case d_fI|d_rI|d_eX|d_eW|d_bSo|d_cB|d_cE|d_pI|d_pT|d_dT|d_dL|d_dW|d_dF|d_lI|d_lP|d_lT|d_lA|d_tT|d_yF|d_yD|d_yH|d_yL=>exact PR.mf (λ_ _ _ _ _ _=>PR.b2 λ_ _=>rfl) (by k_is) (by k_is) (by k_is) (by k_is) (by k_is))
  (case d_aE|d_bH|d_rL|d_tS|d_yE|d_yB|d_yN|d_yG|d_hI=>exact PR.mf (λ_ _ _ _ _ _=>PR.b1 λ_=>rfl) (by k_is) (by k_is) (by k_is) (by k_is) (by k_is))
  (case d_rN|d_sI|d_bHd|d_cI|d_dI|d_dH|d_tI|d_yI|d_yS|d_yT|d_qI=>exact PR.mf (λ_ _ _ _ _ _=>PR.b3 λ_ _ _=>rfl) (by k_is) (by k_is) (by k_is) (by k_is) (by k_is))
  (case d_bI|d_pC=>exact PR.mf (λ_ _ _ _ _ _=>PR.b4 λ_ _ _ _=>rfl) (by k_is) (by k_is) (by k_is) (by k_is) (by k_is))
  (case d_rH|d_nM|d_rT|d_rO|d_aC|d_aP|d_aO|d_aF|d_aS|d_aL=>exact PR.gf (λ_ _ _ _ _ _=>PR.b2 λ_ _=>rfl) (by k_is) (by k_is) (by k_is) (by k_is))
  (case d_rU|d_nN|d_r3|d_rE=>exact PR.gf (λ_ _ _ _ _ _=>PR.b3 λ_ _ _=>rfl) (by k_is) (by k_is) (by k_is) (by k_is))
  (case d_rS|d_rB|d_kO|d_iR|d_iT=>exact PR.gf (λ_ _ _ _ _ _=>PR.b1 λ_=>rfl) (by k_is) (by k_is) (by k_is) (by k_is))
  (case d_bE=>exact PR.gf (λ_ _ _ _ _ _=>PR.b4 λ_ _ _ _=>rfl) (by k_is) (by k_is) (by k_is) (by k_is))
  (case zs=>exact⟨by k_is,by k_is,by k_is,by k_is,by k_is,by k_is,by k_is,by k_is,by k_is,by k_is,by k_is,trivial⟩)
 case S =>
  intro K H xs a hO hwi hask hx
  cases hx with
  |cons h1 h2 =>
   cases h2
   cases h1 with
   |lst hs ha =>
    have e:=L2.zT a.1 _ ha
    subst e
    have q:((Codec.inLen 0 30000 a.1&&a.1.all (Codec.inInt 0 4294967295))&&true)=true:=hwi
    rw[Bool.and_eq_true,Bool.and_eq_true] at q
    obtain⟨cs,c1,c2,c3,c4⟩:=PR.Eg (l:=a.1) hask
    exact⟨_,a.1,cs,rfl,hs,c1,c2,(Codec.inNat_iff.mp q.1.1).2,c4,λH' p hp=>.lst (L2.SqL.of hp) (by rw[←c3];exact L2.zO _)⟩
