import PyProof.Rows.All
import Wide.All
import OpenK.AllK
import Wide.FinOn
import PyProof.EqAt
import PyProof.EqKinds
import PyProof.TupleCall
import KE.BitLaws
import Open.SpecLaws
import KE.OsHead
import KE.OsGo
import PyProof.ExcInit
import PyProof.InstStoreFacts
import PyProof.ExcArgsOwn
import PyProof.ExcAttrAll.Exception
import PyProof.ExcBaseAll.Exception
import PyProof.RulesAs
import PyProof.MinMaxWalk
import PyProof.Rows.SortShellAny
import PyProof.Rows.SetFrom
import PyProof.CollectWalk
import PyProof.Rows.SortWalk
import PySem.Challenge.RW_rollcut_s01_answers
set_option Elab.async false
set_option linter.all false
set_option genSizeOf false
set_option maxRecDepth 100000
set_option maxHeartbeats 2000000
section
namespace L2
open PySem PySem.Spec PyProof.Rows
noncomputable abbrev Key:=Sum Int Str
noncomputable def zJL:Key->Value->Bool
 | .inl k,v=>Value.isInt k v
 | .inr x,v=>Value.isStrOf x v
noncomputable def keyH (w:World):Key->Int
 | .inl k=>hashInt k
 | .inr x=>hashStr w x
theorem zAH:∀ {k:Key} {v:Value},zJL k v=true->(∃ i t,k=Sum.inl i/\v=Value.int i t)\/(∃ x t,k=Sum.inr x/\v=Value.str x t)
 | .inl i,v,h=>by
  obtain ⟨t,e⟩:=Value.isInt_shape (k:=i) (v:=v) h
  exact .inl ⟨i,t,rfl,e⟩
 | .inr x,v,h=>by
  obtain ⟨t,e⟩:=Value.isStrOf_shape (x:=x) (v:=v) h
  exact .inr ⟨x,t,rfl,e⟩
theorem zMa (i:Int) (t:Tok):zJL (.inl i) (.int i t)=true:=by simp [zJL,Value.isInt]
theorem zLZ (x:Str) (t:Tok):zJL (.inr x) (.str x t)=true:=by simp [zJL,Value.isStrOf]
theorem key_ll (a b:Int):decide ((Sum.inl a:Key)=Sum.inl b)=(a==b):=by
 by_cases e:a=b
 ·subst e; simp
 ·have h:¬ (Sum.inl a:Key)=Sum.inl b:=fun q=>e (Sum.inl.inj q)
  rw [decide_eq_false h]
  exact (beq_eq_false_iff_ne.mpr e).symm
theorem key_rr (a b:Str):decide ((Sum.inr a:Key)=Sum.inr b)=decide (a=b):=by
 by_cases e:a=b
 ·subst e; simp
 ·have h:¬ (Sum.inr a:Key)=Sum.inr b:=fun q=>e (Sum.inr.inj q)
  rw [decide_eq_false h,decide_eq_false e]
theorem key_lr (a:Int) (b:Str):decide ((Sum.inl a:Key)=Sum.inr b)=false:=decide_eq_false (fun q=>nomatch q)
theorem key_rl (a:Str) (b:Int):decide ((Sum.inr a:Key)=Sum.inl b)=false:=decide_eq_false (fun q=>nomatch q)
noncomputable def zAV (prog:Program) (w:World):PySem.KeyKind prog w Key where
 is:=zJL
 hash:=keyH w
 inj:=fun v a b ha hb=>by
  rcases zAH ha with ⟨i,t,rfl,rfl⟩ | ⟨x,t,rfl,rfl⟩
  ·rcases zAH hb with ⟨j,u,rfl,e⟩ | ⟨y,u,rfl,e⟩
   ·injection e with e1 _; rw [e1]
   ·exact nomatch e
  ·rcases zAH hb with ⟨j,u,rfl,e⟩ | ⟨y,u,rfl,e⟩
   ·exact nomatch e
   ·injection e with e1 _; rw [e1]
 byValue:=fun k v h=>by
  rcases zAH h with ⟨i,t,rfl,rfl⟩ | ⟨x,t,rfl,rfl⟩ <;> rfl
 pyHash:=fun hv h=>by
  rcases zAH hv with ⟨i,t,rfl,rfl⟩ | ⟨x,t,rfl,rfl⟩
  ·exact wpAny_pyHash_int h
  ·exact wpAny_pyHash_str h
 eqBool:=fun hu hv h=>by
  rcases zAH hu with ⟨i,t,rfl,rfl⟩ | ⟨x,t,rfl,rfl⟩
  ·rcases zAH hv with ⟨j,u,rfl,rfl⟩ | ⟨y,u,rfl,rfl⟩
   ·rw [key_ll] at h; exact wpAny_eqBool_int h
   ·rw [key_lr] at h; exact SeqAt.EqAt.int_str i t y u _ _ _ _ h
  ·rcases zAH hv with ⟨j,u,rfl,rfl⟩ | ⟨y,u,rfl,rfl⟩
   ·rw [key_rl] at h; exact SeqAt.EqAt.str_int x t j u _ _ _ _ h
   ·rw [key_rr] at h; exact wpAny_eqBool_str h
 «strs»:=fun k x t v h=>by
  rcases zAH h with ⟨i,u,rfl,e⟩ | ⟨y,u,rfl,e⟩
  ·exact nomatch e
  ·injection e with e1 _
   subst e1
   cases v <;> rfl
theorem zIm (prog:Program) (w:World) (i:Int) (t:Tok):(zAV prog w).is (.inl i) (.int i t)=true:=zMa i t
theorem zIl (prog:Program) (w:World) (x:Str) (t:Tok):(zAV prog w).is (.inr x) (.str x t)=true:=zLZ x t
end L2
namespace L2
open PySem PySem.Spec PyProof.Rows
inductive V where
 | non | bl (b:Bool) | int (i:Int) | str (x:Str) | byt (b:Array UInt8) | flt (b:UInt64) | ref (a:Addr) | ty (n:String)
 deriving DecidableEq
noncomputable def RelV:V->Value->Prop
 | .non,u=>u=Value.none
 | .bl b,u=>u=Value.bool b
 | .int i,u=>∃ t,u=Value.int i t
 | .str x,u=>∃ t,u=Value.str x t
 | .byt b,u=>∃ t,u=Value.bytes b t
 | .flt b,u=>∃ t,u=Value.float b t
 | .ref a,u=>u=Value.ref a
 | .ty n,u=>u=Value.type n
noncomputable abbrev Vals:List V->List Value->Prop:=Paired RelV
theorem Vals.length {xs:List V} {us:List Value} (r:Vals xs us):xs.length=us.length:=Paired.length r
theorem Vals.get:∀ {xs:List V} {us:List Value} {i:Nat} {x:V},Vals xs us->xs[i]? = some x->∃ u,us[i]? = some u/\RelV x u
 | _,_,_,_,.nil,e=>by simp at e
 | _,_,0,_,.cons r _,e=>by simp at e; subst e; exact ⟨_,rfl,r⟩
 | _,_,i+1,x,.cons _ t,e=>by
  obtain ⟨u,h1,h2⟩:=Vals.get (i:=i) (x:=x) t (by simpa using e)
  exact ⟨u,by simpa using h1,h2⟩
theorem Vals.append:∀ {xs ys:List V} {us ws:List Value},Vals xs us->Vals ys ws->Vals (xs++ys) (us++ws)
 | _,_,_,_,.nil,s=>s
 | _,_,_,_,.cons r t,s=>.cons r (Vals.append t s)
theorem Vals.take:∀ {xs:List V} {us:List Value} (n:Nat),Vals xs us->Vals (xs.take n) (us.take n)
 | _,_,0,_=>.nil
 | _,_,_+1,.nil=>.nil
 | _,_,n+1,.cons r t=>.cons r (Vals.take n t)
theorem Vals.drop:∀ {xs:List V} {us:List Value} (n:Nat),Vals xs us->Vals (xs.drop n) (us.drop n)
 | _,_,0,r=>r
 | _,_,_+1,.nil=>.nil
 | _,_,n+1,.cons _ t=>Vals.drop n t
noncomputable def RelO:Option V->Option Value->Prop
 | some v,some u=>RelV v u
 | none,none=>True
 | _,_=>False
noncomputable def KV {κ:Type}:List (κ×V)->List (κ×Value)->Prop:=Paired fun (p:κ×V) (q:κ×Value)=>p.1=q.1/\RelV p.2 q.2
noncomputable def kV:Key->V
 | .inl i=>.int i
 | .inr x=>.str x
inductive HO where
 | lst (xs:List V)
 | tup (xs:List V)
 | dK (kvs:List (Key×V)) | dT (kvs:List (List Key×V))
 | set (S:Int->Bool) (n:Nat)
 | ins (C dx:Addr) (fs:List (Str×V))
 | own (x:Addr)
 | xd (fs:List (Str×V))
 | met (f x:Addr)
 | rng (lo hi:Int)
 | frz (o:Obj) (u:HO)
 | tbl (ps:Array Value)
 | ext (φ:Heap->Prop)
noncomputable abbrev Hp:=Addr->Option HO
noncomputable def upd (H:Hp) (a:Addr) (o:HO):Hp:=fun b=>if b=a then some o else H b
theorem uS {H:Hp} {a:Addr} {o:HO}:upd H a o a=some o:=by unfold upd; rw [if_pos rfl]
theorem uN {H:Hp} {a b:Addr} {o:HO} (h:b≠a):upd H a o b=H b:=by unfold upd; rw [if_neg h]
theorem zAx {H:Hp} {a:Addr} {o u:HO}:upd (upd H a o) a u=upd H a u:=by
 funext b; unfold upd; split <;> rfl
theorem zCc {H:Hp} {a b:Addr} {o u:HO} (h:H a=some o) (h':H b=some u) (d:o≠u):a≠b:=by
 intro e; subst e; rw [h] at h'; exact d (Option.some.inj h')
theorem nN {H:Hp} {a b:Addr} {o:HO} (h:H a=some o) (h':H b=none):a≠b:=by
 intro e; subst e; rw [h] at h'; cases h'
section
variable (P:Program) (w:World)
noncomputable def zBa (H:Hp) (h:Heap) (a:Addr):HO->Prop
 | .lst xs=>xs.length<=sizeLine/\∃ (its:List Value) (n:Nat),Vals xs its/\h.get? a=some { cls:=.type "list",data:=.seq its.toArray n }
 | .tup xs=>xs.length<=sizeLine/\∃ its:List Value,Vals xs its/\IsTup h a its.toArray
 | .dK kvs=>kvs.length<=sizeLine/\(a==sysModules)=false/\∃ vs,KV kvs vs/\h.DictOf (zAV P w) a vs
 | .dT kvs=>kvs.length<=sizeLine/\(a==sysModules)=false/\∃ xs:List (List Key×Addr×Value),
   Paired (fun (p:List Key×V) (q:List Key×Addr×Value)=>p.1=q.1/\H q.2.1=some (.tup (p.1.map kV))/\RelV p.2 q.2.2) kvs xs/\
   ∃ o es ep,h.get? a=some o/\o.ExactDict/\o.data = .dict es ep/\es.toList=xs.map (entryOfKey (tupleKind (zAV P w)))/\(xs.map (·.1)).Nodup
 | .set S n=>h.SetOf (intKind P w) a S n
 | .ins C dx fs=>H dx=some (.own a)/\fs.length<=1000/\dx≠a/\h.get? a=some (PySem.W.instObj C dx)/\
   ∃ mA,h.Ns1 dx mA/\(∀ f,RelO (fs.lookup f) (mA f))/\PySem.Within mA (fs.map (·.1))
 | .own _=>∃ o,h.get? a=some o
 | .xd fs=>∃ mA,h.Ns1 a mA/\∀ f,RelO (fs.lookup f) (mA f)
 | .rng lo hi=>∃ t u v,h.get? a=some { cls:=.type "range",data:=.fields #[.int lo t,.int hi u,.int 1 v] }
 | .frz o u=>h.get? a=some o/\zBa H h a u
 | .tbl ps=>h.get? a=some { cls:=.none,data:=.fields ps }
 | .met f x=>h.get? a=some (PySem.W.methodObj (.ref f) (.ref x))
 | .ext φ=>φ h/\(∃ o,h.get? a=some o)/\∀ h1 h2:Heap,φ h1->(∀ o,h1.get? a=some o->h2.get? a=some o)->φ h2
def HOk (H:Hp) (h:Heap):Prop:=∀ a o,H a=some o->zBa P w H h a o
end
section
variable {P:Program} {w:World} {H H':Hp} {h h':Heap} {a:Addr} {o:HO}
theorem zBa.lt (x:zBa P w H h a o):a<h.objs.size:=by
 cases o with
 | lst xs=>obtain ⟨_,_,_,_,e⟩:=x; exact Heap.lt_size e
 | tup xs=>obtain ⟨_,_,_,p⟩:=x; exact p.lt
 | dK kvs=>obtain ⟨_,_,_,_,o,_,_,e,_⟩:=x; exact Heap.lt_size e
 | dT kvs=>obtain ⟨_,_,_,_,o,_,_,e,_⟩:=x; exact Heap.lt_size e
 | set S n=>obtain ⟨o,_,_,_,e,_⟩:=x; exact Heap.lt_size e
 | ins C dx fs=>obtain ⟨_,_,_,e,_⟩:=x; exact Heap.lt_size e
 | own y=>obtain ⟨_,e⟩:=x; exact Heap.lt_size e
 | xd fs=>obtain ⟨_,⟨_,_,_,e,_⟩,_⟩:=x; exact Heap.lt_size e
 | rng lo hi=>obtain ⟨_,_,_,e⟩:=x; exact Heap.lt_size e
 | frz ob u=>obtain ⟨e,_⟩:=x; exact Heap.lt_size e
 | tbl ps=>exact Heap.lt_size (show h.get? a=some _ from x)
 | met f y=>exact Heap.lt_size (show h.get? a=some _ from x)
 | ext φ=>obtain ⟨_,⟨_,e⟩,_⟩:=x; exact Heap.lt_size e
theorem Paired.mapP {α β:Type} {F G:α->β->Prop}:∀ {l₁:List α} {l₂:List β},Paired F l₁ l₂->(∀ a b,F a b->G a b)->Paired G l₁ l₂
 | _,_,.nil,_=>.nil
 | _,_,.cons r t,f=>.cons (f _ _ r) (Paired.mapP t f)
theorem zBa.stay (x:zBa P w H h a o) (k:∀ b u,(b=a\/H b=some (.own a))->h.get? b=some u->h'.get? b=some u)
  (ho:∀ b,H b=some (.own a)->H' b=some (.own a)) (ht:∀ b xs,H b=some (.tup xs)->H' b=some (.tup xs)):zBa P w H' h' a o:=by
 induction o with
 | lst xs=>obtain ⟨z,its,n,r,e⟩:=x; exact ⟨z,its,n,r,k _ _ (.inl rfl) e⟩
 | tup xs=>obtain ⟨z,its,r,ob,e,c⟩:=x; exact ⟨z,its,r,ob,k _ _ (.inl rfl) e,c⟩
 | dK kvs=>obtain ⟨z,y,vs,r,ob,es,ep,e,c⟩:=x; exact ⟨z,y,vs,r,ob,es,ep,k _ _ (.inl rfl) e,c⟩
 | dT kvs=>
  obtain ⟨z,y,xs,r,ob,es,ep,e,c⟩:=x
  exact ⟨z,y,xs,Paired.mapP r fun p q z=>⟨z.1,ht _ _ z.2.1,z.2.2⟩,ob,es,ep,k _ _ (.inl rfl) e,c⟩
 | set S n=>obtain ⟨ob,es,ep,t,e,c⟩:=x; exact ⟨ob,es,ep,t,k _ _ (.inl rfl) e,c⟩
 | ins C dx fs=>
  obtain ⟨d,z,ne,e,mA,⟨od,es,ep,e2,c⟩,r⟩:=x
  exact ⟨ho _ d,z,ne,k _ _ (.inl rfl) e,mA,⟨od,es,ep,k _ _ (.inr d) e2,c⟩,r⟩
 | own y=>obtain ⟨ob,e⟩:=x; exact ⟨ob,k _ _ (.inl rfl) e⟩
 | xd fs=>obtain ⟨mA,⟨od,es,ep,e,c⟩,r⟩:=x; exact ⟨mA,⟨od,es,ep,k _ _ (.inl rfl) e,c⟩,r⟩
 | rng lo hi=>obtain ⟨t,u,v,e⟩:=x; exact ⟨t,u,v,k _ _ (.inl rfl) e⟩
 | frz ob u ih=>obtain ⟨e,q⟩:=x; exact ⟨k _ _ (.inl rfl) e,ih q⟩
 | tbl ps=>
  have e:h.get? a=some { cls:=.none,data:=.fields ps }:=x
  show h'.get? a=some { cls:=.none,data:=.fields ps }
  exact k a _ (.inl rfl) e
 | met f y=>
  have e:h.get? a=some (PySem.W.methodObj (.ref f) (.ref y)):=x
  show h'.get? a=some (PySem.W.methodObj (.ref f) (.ref y))
  exact k a _ (.inl rfl) e
 | ext φ=>obtain ⟨p,⟨o,e⟩,st⟩:=x; exact ⟨st _ _ p fun o q=>k _ _ (.inl rfl) q,⟨o,k _ _ (.inl rfl) e⟩,st⟩
theorem HOk.lt (x:HOk P w H h) (e:H a=some o):a<h.objs.size:=(x a o e).lt
theorem HOk.fresh (x:HOk P w H h) (e:h.objs.size<=a):H a=none:=by
 cases q:H a with
 | none=>rfl
 | some u=>exact absurd (Nat.lt_of_lt_of_le (x.lt q) e) (Nat.lt_irrefl _)
theorem HOk.kept (x:HOk P w H h) (k:∀ b u,h.get? b=some u->h'.get? b=some u):HOk P w H h':=fun a o e=>
 (x a o e).stay (fun b u _ q=>k b u q) (fun _ q=>q) fun _ _ q=>q
theorem HOk.laid (x:HOk P w H h) (k:∀ b u,h.get? b=some u->h'.get? b=some u) (hp:h.objs.size<=a) (new:zBa P w (upd H a o) h' a o):HOk P w (upd H a o) h':=fun b u e=>by
 have hn:=x.fresh hp
 by_cases hb:b=a
 ·subst hb; rw [uS] at e; cases e; exact new
 ·rw [uN hb] at e
  exact (x b u e).stay (fun c v _ q=>k c v q) (fun c q=>by rw [uN (nN q hn)]; exact q) fun c xs q=>by rw [uN (nN q hn)]; exact q
end
def Rd (H:Hp) (a:Addr) (u:HO):Prop:=H a=some u\/∃ o,H a=some (.frz o u)
theorem Rd.ok {P:Program} {w:World} {H:Hp} {h:Heap} {a:Addr} {u:HO} (r:Rd H a u) (x:HOk P w H h):zBa P w H h a u:=by
 rcases r with r | ⟨o,r⟩
 ·exact x a u r
 ·obtain ⟨_,q⟩:=x a _ r
  exact q
noncomputable def Mut:Option HO->Prop
 | some (.lst _)=>True
 | some (.dK _)=>True
 | some (.dT _)=>True
 | some (.set _ _)=>True
 | some (.ins _ _ _)=>True
 | some (.ext _)=>True
 | _=>False
section
variable {P:Program} {w:World} {H:Hp} {h h':Heap} {x e:Addr} {o':HO}
theorem HOk.write (ok:HOk P w H h) (mu:Mut (H x)) (he:e=x\/H e=some (.own x)) (k:∀ b u,b≠e->h.get? b=some u->h'.get? b=some u) (heo:∃ u,h'.get? e=some u)
  (new:zBa P w (upd H x o') h' x o'):HOk P w (upd H x o') h':=fun b u q=>by
 have nown:∀ c y,H c=some (.own y)->c≠x:=fun c y r z=>by subst z; rw [r] at mu; exact mu
 have ntup:∀ c xs,H c=some (.tup xs)->c≠x:=fun c xs r z=>by subst z; rw [r] at mu; exact mu
 by_cases hb:b=x
 ·subst hb; rw [uS] at q; cases q; exact new
 ·rw [uN hb] at q
  by_cases hbe:b=e
  ·have q':H b=some (.own x):=by
    rcases he with z | z
    ·exact absurd (hbe.trans z) hb
    ·rw [hbe]; exact z
   rw [q] at q'; cases q'
   obtain ⟨v,hv⟩:=heo
   exact ⟨v,by rw [hbe]; exact hv⟩
  ·refine (ok b u q).stay (fun c v hc r=>k c v ?_ r) (fun c r=>by rw [uN (nown c b r)]; exact r) fun c xs r=>by rw [uN (ntup c xs r)]; exact r
   rcases hc with rfl | hc
   ·exact hbe
   ·rintro rfl
    rcases he with z | z
    ·exact nown c b hc z
    ·rw [hc] at z; cases z; exact hb rfl
end
structure Un (fs ex:List Addr) (H H':Hp) (h h':Heap):Prop where
 keep:∀ b o,h.get? b=some o->H b=none->b∉fs->b∉ex->h'.get? b=some o
 slot:∀ b o,h.get? b=some o->H b=none->b∈fs->b∉ex->∃ sl,h'.get? b=some { o with slots:=sl }
 free:∀ b o,h.get? b=some o->H b=none->b∉ex->H' b=none
 there:∀ b o,h.get? b=some o->b∉ex->∃ o',h'.get? b=some o'
 tups:∀ b xs,H b=some (.tup xs)->H' b=some (.tup xs)
 frzs:∀ b o u,H b=some (.frz o u)->H' b=some (.frz o u)
 tbls:∀ b ps,H b=some (.tbl ps)->∃ more,H' b=some (.tbl (ps++more))
section
variable {fs fs' ex ex':List Addr} {H H1 H2:Hp} {h h1 h2 h':Heap} {a x e:Addr} {o:HO}
theorem Un.any (u:Un fs ex H H1 h h1) {b:Addr} {ob:Obj} (q:h.get? b=some ob) (n:H b=none) (hx:b∉ex):∃ sl,h1.get? b=some { ob with slots:=sl }:=by
 by_cases hb:b∈fs
 ·exact u.slot b ob q n hb hx
 ·exact ⟨ob.slots,u.keep b ob q n hb hx⟩
theorem Un.kept (k:∀ b u,h.get? b=some u->h'.get? b=some u):Un fs ex H H h h':=
 ⟨fun b ob q _ _ _=>k b ob q,fun b ob q _ _ _=>⟨ob.slots,k b ob q⟩,fun _ _ _ n _=>n,fun b ob q _=>⟨ob,k b ob q⟩,fun _ _ q=>q,fun _ _ _ q=>q,fun _ ps q=>⟨#[],by rw [q]; simp⟩⟩
theorem Un.refl:Un fs ex H H h h:=Un.kept fun _ _ q=>q
theorem Un.laid (k:∀ b u,h.get? b=some u->h'.get? b=some u) (hp:h.objs.size<=a) (hn:H a=none):Un fs ex H (upd H a o) h h' where
 keep:=fun b u q _ _ _=>k b u q
 slot:=fun b u q _ _ _=>⟨u.slots,k b u q⟩
 free:=fun b u q n _=>by rw [uN (Nat.ne_of_lt (Nat.lt_of_lt_of_le (Heap.lt_size q) hp))]; exact n
 there:=fun b u q _=>⟨u,k b u q⟩
 tups:=fun b xs q=>by rw [uN (nN q hn)]; exact q
 frzs:=fun b u xs q=>by rw [uN (nN q hn)]; exact q
 tbls:=fun b ps q=>⟨#[],by rw [uN (nN q hn),q]; simp⟩
theorem Un.write (mu:Mut (H x)) (he:e=x\/H e=some (.own x)) (k:∀ b u,b≠e->h.get? b=some u->h'.get? b=some u) (heo:∃ u,h'.get? e=some u):Un fs ex H (upd H x o) h h':=by
 have hx:∀ b,H b=none->b≠x:=fun b n z=>by subst z; rw [n] at mu; exact mu
 have hb:∀ b,H b=none->b≠e:=fun b n z=>by
  subst z
  rcases he with r | r
  ·exact hx b n r
  ·rw [n] at r; cases r
 have hm:∀ b u,H b=some u->¬ Mut (some u)->b≠x:=fun b u q nm z=>by subst z; rw [q] at mu; exact nm mu
 refine ⟨fun b u q n _ _=>k b u (hb b n) q,fun b u q n _ _=>⟨u.slots,k b u (hb b n) q⟩,fun b u q n _=>by rw [uN (hx b n)]; exact n,fun b u q _=>?_,
  fun b xs q=>by rw [uN (hm b _ q fun z=>z)]; exact q,fun b u xs q=>by rw [uN (hm b _ q fun z=>z)]; exact q,fun b ps q=>⟨#[],by rw [uN (hm b _ q fun z=>z),q]; simp⟩⟩
 by_cases hbe:b=e
 ·subst hbe; exact heo
 ·exact ⟨u,k b u hbe q⟩
end
noncomputable def trk (h:Heap) (H:Hp):List Addr:=(List.range h.objs.size).filter fun a=>(H a).isSome
noncomputable def hidT (h:Heap) (H:Hp):Heap:=PySem.W.hideAll h (trk h H)
theorem zMl (h:Heap) (H:Hp):(hidT h H).objs.size=h.objs.size:=PySem.W.hideAll_size _ _
theorem zNK {h:Heap} {H:Hp} {b:Addr} {o:Obj} (e:h.get? b=some o) (n:H b=none):(hidT h H).get? b=some o:=
 PySem.W.hideAll_get _ e fun hm=>by
  have q:(H b).isSome=true:=(List.mem_filter.mp hm).2
  rw [n] at q; simp at q
theorem of_hidT {h:Heap} {H:Hp} {b:Addr} {o:Obj} (e:(hidT h H).get? b=some o):h.get? b=some o/\H b=none:=by
 have e':h.get? b=some o:=PySem.W.of_hideAll (trk h H) e
 refine ⟨e',?_⟩
 cases q:H b with
 | none=>rfl
 | some x=>
  have hm:b∈trk h H:=List.mem_filter.mpr ⟨List.mem_range.mpr (Heap.lt_size e'),by simp [q]⟩
  have z:(hidT h H).get? b=none:=PySem.W.hideAll_none (trk h H) hm
  rw [z] at e; cases e
noncomputable def allNews (g h:Heap) (L:Addr):List (Addr×Obj):=(List.range h.objs.size).filterMap fun a=>if a=L\/(g.get? a).isSome=true then none else (h.get? a).map fun o=>(a,o)
noncomputable def rest (g h:Heap) (L d:Addr):List (Addr×Obj):=(allNews g h L).filter fun p=>decide (p.1≠d)
end L2
namespace L2
open PySem PySem.Spec PyProof.Rows
structure Mod (K:PySem.W.Frag) (mg:Str->Option Value) (base:Heap):Prop where
 kin:K.In base
 glob:base.Ns mainGlobals mg
 blt:∃ mb,base.Ns builtinsNs mb/\∀ x:Str,x≠ "__name__" -> mb x=bootBuiltins x
 nolimit:base.NoLimit
structure Cx where
 prog:Program
 w:World
 K:PySem.W.Frag
 mg:Str->Option Value
 base:Heap
 A:Around
 N:List Str
 s_0:Shared
 H_0:Hp
 env:Env
 outer:List Env
 stack:List Env
 ex:List Addr
 fn:Str->Bool
 calm:Bool
 pn:List (Addr×Obj)
 xe:Value->Shared->Prop
noncomputable def frs (l:List Env):List Addr:=l.filterMap (·.frame)
noncomputable abbrev Cx.fs (X:Cx):List Addr:=frs X.outer
def Vis (sc:Scope) (x:Str):Prop:=sc.names.lookup x=some .local\/sc.names.lookup x=some .cell\/sc.names.lookup x=some .free
def Loc (sc:Scope) (x:Str):Prop:=sc.names.lookup x=some .local\/sc.names.lookup x=some .cell
def Look (env:Env) (h:Heap) (m:Str->Option Value) (x:Str) (u:Value):Prop:=
 (env.kindOf x=some .local/\m x=some u)\/((env.kindOf x=some .cell\/env.kindOf x=some .free)/\∃ c,env.cells.lookup x=some c/\h.IsCell c (some u))
structure Cx.Ok (X:Cx):Prop where
 mod:Mod X.K X.mg X.base
 kind:X.env.scope.kind = .function
 glob:X.env.globals=mainGlobals
 blt:X.env.builtins=builtinsNs
 above:X.s_0.heap.objs.size<=X.env.locals
 inj:∀ x y c,X.env.cells.lookup x=some c->X.env.cells.lookup y=some c->x=y
 has:∀ x,(X.env.kindOf x=some .cell\/X.env.kindOf x=some .free)->∃ c,X.env.cells.lookup x=some c
 cab:∀ x c,X.fn x=true->X.env.cells.lookup x=some c->X.s_0.heap.objs.size<=c
 hd:X.calm=true->X.A.handled=none
 frames:X.A.frames=some X.stack
 stk:X.stack=X.outer\/(X.stack=X.env::X.outer/\X.env.frame=some X.env.locals)
 exf:∀ b∈X.ex,b≠X.env.locals/\∀ x c,X.env.cells.lookup x=some c->c≠b
 bs:∀ b o,X.base.get? b=some o->X.s_0.heap.get? b=some o/\X.H_0 b=none
 bsz:X.base.objs.size<=X.s_0.heap.objs.size
 noex:∀ b o,X.base.get? b=some o->b∉X.ex
 exfs:∀ b∈X.ex,b∉X.fs
 funs:X.s_0.heap.FunFrames X.base X.outer
 frf:∀ b∈X.fs,X.H_0 b=none
structure Inv (X:Cx) (pins:List (Addr×Obj)) (σ:List (Option V)) (H:Hp) (s:Shared):Prop where
 ok:X.Ok
 os:s.os=X.s_0.os
 bare:AllBare s.gens
 base:Un X.fs X.ex X.H_0 H X.s_0.heap s.heap
 loc:∃ m,s.heap.Ns X.env.locals m/\∀ (i:Nat) (x:Str) (v:V),X.N[i]? = some x->σ[i]? = some (some v)->Vis X.env.scope x->∃ u,RelV v u/\Look X.env s.heap m x u
 cell:∀ x c,X.env.cells.lookup x=some c->∃ v,s.heap.IsCell c v
 free:H X.env.locals=none
 freeC:∀ x c,X.env.cells.lookup x=some c->H c=none
 pin:∀ p∈X.pn++pins,s.heap.get? p.1=some p.2/\H p.1=none/\p.1≠X.env.locals/\p.1∉X.fs/\∀ v,p.2.data ≠ .cell v
 hok:HOk X.prog X.w H s.heap
 len:σ.length=X.N.length
section
variable {X:Cx} {pins:List (Addr×Obj)} {σ:List (Option V)} {H H':Hp} {s:Shared} {h':Heap}
theorem Cx.Ok.nofr (ok:X.Ok) {b:Addr} {o:Obj} (e:X.base.get? b=some o):b∉X.fs:=fun hb=>by
 have:=(ok.funs.mem hb).1
 rw [e] at this; cases this
theorem Inv.bs (I:Inv X pins σ H s):∀ b o,X.base.get? b=some o->s.heap.get? b=some o/\H b=none:=fun b o e=>
 ⟨I.base.keep b o (I.ok.bs b o e).1 (I.ok.bs b o e).2 (I.ok.nofr e) (I.ok.noex b o e),I.base.free b o (I.ok.bs b o e).1 (I.ok.bs b o e).2 (I.ok.noex b o e)⟩
theorem Inv.bk (I:Inv X pins σ H s):∀ b o,X.base.get? b=some o->s.heap.get? b=some o:=fun b o e=>(I.bs b o e).1
theorem Inv.mod (I:Inv X pins σ H s):Mod X.K X.mg X.base:=I.ok.mod
theorem Inv.kIn (I:Inv X pins σ H s):X.K.In s.heap:=I.ok.mod.kin.keeps I.bk
theorem Inv.fr (I:Inv X pins σ H s):∃ m,Fr X.base X.env.locals s.heap m:=
 let ⟨m,hn,_⟩:=I.loc
 ⟨m,hn,I.bk,Nat.le_trans I.ok.bsz I.ok.above⟩
theorem Inv.lt (I:Inv X pins σ H s):X.env.locals<s.heap.objs.size:=let ⟨_,hn,_⟩:=I.loc; hn.lt
theorem Inv.sz (I:Inv X pins σ H s):X.s_0.heap.objs.size<=s.heap.objs.size:=Nat.le_trans I.ok.above (Nat.le_of_lt I.lt)
theorem Inv.nofs (I:Inv X pins σ H s) {a:Addr} (h:s.heap.objs.size<=a):a∉X.fs:=fun hb=>by
 obtain ⟨_,o,ho,_⟩:=I.ok.funs.mem hb
 exact absurd (Nat.lt_of_lt_of_le (Heap.lt_size ho) (Nat.le_trans I.sz h)) (Nat.lt_irrefl _)
theorem Inv.cne (I:Inv X pins σ H s):∀ x c,X.env.cells.lookup x=some c->c≠X.env.locals:=fun x c e z=>by
 obtain ⟨v,o,ho,hd⟩:=I.cell x c e
 obtain ⟨m,⟨o',es,ep,ho',hd',_⟩,_⟩:=I.loc
 rw [z,ho'] at ho; cases ho; rw [hd'] at hd; cases hd
theorem Inv.funs (I:Inv X pins σ H s):s.heap.FunFrames X.base X.outer:=by
 have all:∀ (l:List Env),(∀ b∈frs l,b∈X.fs)->X.s_0.heap.FunFrames X.base l->s.heap.FunFrames X.base l:=by
  intro l
  induction l with
  | nil=>intro _ _; trivial
  | cons env r ih=>
   intro hs hl
   obtain ⟨hk,⟨L,o,hf,hn,ho,hd⟩,hr⟩:=hl
   have hL:L∈X.fs:=hs L (by unfold frs; rw [List.filterMap_cons,hf]; exact List.mem_cons_self)
   obtain ⟨sl,e⟩:=I.base.slot L o ho (I.ok.frf L hL) hL fun z=>I.ok.exfs L z hL
   exact ⟨hk,⟨L,_,hf,hn,e,hd⟩,ih (fun b hb=>hs b (by unfold frs; rw [List.filterMap_cons,hf]; exact List.mem_cons_of_mem _ hb)) hr⟩
 exact all X.outer (fun _ hb=>hb) I.ok.funs
theorem Inv.stack (I:Inv X pins σ H s):s.heap.FunFrames X.base X.stack:=by
 rcases I.ok.stk with e | ⟨e,hf⟩
 ·rw [e]; exact I.funs
 ·rw [e]
  obtain ⟨m,hn,_⟩:=I.loc
  refine .cons (by rw [I.ok.kind]; decide) hf hn ?_ I.funs
  exact Heap.get?_none_of_le (Nat.le_trans I.ok.bsz I.ok.above)
theorem Inv.stkSub (I:Inv X pins σ H s):∀ b∈frs X.stack,b∈X.env.locals::X.fs:=fun b hb=>by
 rcases I.ok.stk with e | ⟨e,hf⟩
 ·rw [e] at hb; exact List.mem_cons_of_mem _ hb
 ·rw [e] at hb
  unfold frs at hb
  rw [List.filterMap_cons,hf] at hb
  exact hb
theorem Inv.stkFree (I:Inv X pins σ H s):∀ b∈frs X.stack,H b=none:=fun b hb=>by
 rcases List.mem_cons.mp (I.stkSub b hb) with e | hb
 ·rw [e]; exact I.free
 ·obtain ⟨_,o,ho,_⟩:=I.ok.funs.mem hb
  exact I.base.free b o ho (I.ok.frf b hb) fun z=>I.ok.exfs b z hb
theorem Inv.step {g':Array GenState} {t':Nat} {d':Drawn} {ch:List Addr} (I:Inv X pins σ H s)
  (hch:∀ b∈ch,(b∈X.ex\/X.s_0.heap.objs.size<=b)/\b≠X.env.locals/\(∀ x c,X.env.cells.lookup x=some c->c≠b)/\∀ p∈X.pn++pins,p.1≠b)
  (keep:∀ b o,b≠X.env.locals->b∉X.fs->b∉ch->s.heap.get? b=some o->H b=none->h'.get? b=some o)
  (slot:∀ b o,b≠X.env.locals->b∈X.fs->b∉ch->s.heap.get? b=some o->H b=none->∃ sl,h'.get? b=some { o with slots:=sl }) (free:∀ b o,b∉ch->s.heap.get? b=some o->H b=none->H' b=none)
  (there:∀ b o,b∉ch->s.heap.get? b=some o->∃ o',h'.get? b=some o')
  (tups:∀ b xs,H b=some (.tup xs)->H' b=some (.tup xs)) (frzs:∀ b o u,H b=some (.frz o u)->H' b=some (.frz o u)) (tbls:∀ b ps,H b=some (.tbl ps)->∃ more,H' b=some (.tbl (ps++more)))
  (ns:∀ m,s.heap.Ns X.env.locals m->h'.Ns X.env.locals m) (hok:HOk X.prog X.w H' h') (hg:AllBare g'):
  Inv X pins σ H' { s with heap:=h',gens:=g',drawn:=d',toks:=t' }:=by
 have neL:∀ b o,X.s_0.heap.get? b=some o->b≠X.env.locals:=fun b o e=>Nat.ne_of_lt (Nat.lt_of_lt_of_le (Heap.lt_size e) I.ok.above)
 have neC:∀ b o,X.s_0.heap.get? b=some o->b∉X.ex->b∉ch:=fun b o e hx hb=>by
  rcases (hch b hb).1 with z | z
  ·exact hx z
  ·exact absurd (Nat.lt_of_lt_of_le (Heap.lt_size e) z) (Nat.lt_irrefl _)
 have cellK:∀ x c,X.env.cells.lookup x=some c->∀ v,s.heap.IsCell c v->h'.IsCell c v:=fun x c e v ⟨o,ho,hd⟩=>by
  have nch:c∉ch:=fun z=>(hch c z).2.2.1 x c e rfl
  by_cases hc:c∈X.fs
  ·obtain ⟨sl,q⟩:=slot c o (I.cne x c e) hc nch ho (I.freeC x c e)
   exact ⟨_,q,hd⟩
  ·exact ⟨o,keep c o (I.cne x c e) hc nch ho (I.freeC x c e),hd⟩
 refine ⟨I.ok,I.os,hg,⟨fun b o e n hb hx=>?_,fun b o e n hb hx=>?_,fun b o e n hx=>?_,fun b o e hx=>?_,fun b xs e=>tups b xs (I.base.tups b xs e),fun b o xs e=>frzs b o xs (I.base.frzs b o xs e),fun b ps e=>?_⟩,?_,fun x c e=>?_,?_,fun x c e=>?_,fun p hp=>?_,hok,I.len⟩
 ·exact keep b o (neL b o e) hb (neC b o e hx) (I.base.keep b o e n hb hx) (I.base.free b o e n hx)
 ·obtain ⟨sl,e1⟩:=I.base.slot b o e n hb hx
  obtain ⟨sl',e2⟩:=slot b _ (neL b o e) hb (neC b o e hx) e1 (I.base.free b o e n hx)
  exact ⟨sl',e2⟩
 ·obtain ⟨o',e1⟩:=I.base.there b o e hx
  exact free b o' (neC b o e hx) e1 (I.base.free b o e n hx)
 ·obtain ⟨o',e1⟩:=I.base.there b o e hx
  exact there b o' (neC b o e hx) e1
 ·obtain ⟨m1,e1⟩:=I.base.tbls b ps e
  obtain ⟨m2,e2⟩:=tbls b _ e1
  exact ⟨m1++m2,by rw [e2,Array.append_assoc]⟩
 ·obtain ⟨m,hn,hl⟩:=I.loc
  refine ⟨m,ns m hn,fun i x v e1 e2 e3=>?_⟩
  obtain ⟨u,r,l⟩:=hl i x v e1 e2 e3
  refine ⟨u,r,?_⟩
  rcases l with l | ⟨k,c,e,z⟩
  ·exact .inl l
  ·exact .inr ⟨k,c,e,cellK x c e _ z⟩
 ·obtain ⟨v,z⟩:=I.cell x c e
  exact ⟨v,cellK x c e v z⟩
 ·obtain ⟨m,⟨o,_,_,ho,_⟩,_⟩:=I.loc
  exact free _ o (fun z=>(hch _ z).2.1 rfl) ho I.free
 ·obtain ⟨v,o,ho,hd⟩:=I.cell x c e
  exact free c o (fun z=>(hch c z).2.2.1 x c e rfl) ho (I.freeC x c e)
 ·obtain ⟨e,n,ne,nf,d⟩:=I.pin p hp
  have nch:p.1∉ch:=fun z=>(hch p.1 z).2.2.2 p hp rfl
  exact ⟨keep p.1 p.2 ne nf nch e n,free p.1 p.2 nch e n,ne,nf,d⟩
theorem Inv.un {t':Nat} (I:Inv X pins σ H s) (u:Un X.fs [] H H' s.heap h') (hok:HOk X.prog X.w H' h'):Inv X pins σ H' { s with heap:=h',toks:=t' }:=by
 obtain ⟨m,⟨o,es,ep,ho,r⟩,_⟩:=id I.loc
 obtain ⟨sl,hL⟩:=u.any ho I.free (by simp)
 exact I.step (g':=s.gens) (d':=s.drawn) (ch:=[]) (fun _ z=>nomatch z) (fun b o _ hb _ e n=>u.keep b o e n hb (by simp)) (fun b o _ hb _ e n=>u.slot b o e n hb (by simp)) (fun b o _ e n=>u.free b o e n (by simp)) (fun b o _ e=>u.there b o e (by simp)) u.tups u.frzs u.tbls (fun m' hm=>by
  obtain ⟨o',es',ep',ho',r'⟩:=hm
  rw [ho] at ho'; cases ho'
  exact ⟨_,es',ep',hL,r'⟩) hok I.bare
theorem Inv.call {g':Array GenState} {t':Nat} {d':Drawn} {ch:List Addr} (I:Inv X pins σ H s) (u:Un (frs X.stack) ch H H' s.heap h') (hok:HOk X.prog X.w H' h') (hg:AllBare g')
  (hch:∀ b∈ch,(b∈X.ex\/X.s_0.heap.objs.size<=b)/\b≠X.env.locals/\(∀ x c,X.env.cells.lookup x=some c->c≠b)/\∀ p∈X.pn++pins,p.1≠b):
  Inv X pins σ H' { s with heap:=h',gens:=g',drawn:=d',toks:=t' }:=by
 obtain ⟨m,⟨o,es,ep,ho,r⟩,_⟩:=id I.loc
 obtain ⟨sl,hL⟩:=u.any ho I.free fun z=>(hch _ z).2.1 rfl
 exact I.step (ch:=ch) hch (fun b o hL hb hc e n=>u.keep b o e n (fun z=>(List.mem_cons.mp (I.stkSub b z)).elim hL hb) hc) (fun b o _ _ hc e n=>u.any e n hc) (fun b o hc e n=>u.free b o e n hc) (fun b o hc e=>u.there b o e hc) u.tups u.frzs u.tbls (fun m' hm=>by
  obtain ⟨o',es',ep',ho',r'⟩:=hm
  rw [ho] at ho'; cases ho'
  exact ⟨_,es',ep',hL,r'⟩) hok hg
theorem Inv.turned {t':Nat} {it:Addr} (I:Inv X pins σ H s) (k:∀ b o,b≠it->s.heap.get? b=some o->h'.get? b=some o) (hn:H it=none) (hL:it≠X.env.locals)
  (h1:it∈X.ex\/X.s_0.heap.objs.size<=it) (h2:∀ x c,X.env.cells.lookup x=some c->c≠it) (h3:∀ p∈X.pn++pins,p.1≠it):Inv X pins σ H { s with heap:=h',toks:=t' }:=by
 have nit:∀ b u,H b=some u->b≠it:=fun b u e z=>by rw [z,hn] at e; cases e
 refine I.step (g':=s.gens) (d':=s.drawn) (ch:=[it]) (fun b hb=>?_) (fun b o _ _ hc e _=>k b o (fun z=>hc (by simp [z])) e) (fun b o _ _ hc e _=>⟨o.slots,k b o (fun z=>hc (by simp [z])) e⟩) (fun _ _ _ _ n=>n)
  (fun b o hc e=>⟨o,k b o (fun z=>hc (by simp [z])) e⟩) (fun _ _ e=>e) (fun _ _ _ e=>e) (fun b ps e=>⟨#[],by rw [e]; simp⟩) (fun m hm=>?_) (fun b u e=>?_) I.bare
 ·have e:b=it:=by simpa using hb
  subst e
  exact ⟨h1,hL,h2,h3⟩
 ·obtain ⟨o,es,ep,ho,r⟩:=hm
  exact ⟨o,es,ep,k _ o (Ne.symm hL) ho,r⟩
 ·refine (I.hok b u e).stay (fun c v hc q=>k c v ?_ q) (fun _ q=>q) fun _ _ q=>q
  rcases hc with z | z
  ·rw [z]; exact nit b u e
  ·exact nit c _ z
theorem Inv.tok (I:Inv X pins σ H s) (t:Nat):Inv X pins σ H { s with toks:=t }:=I.un (h':=s.heap) (t':=t) Un.refl I.hok
theorem Inv.kept {t':Nat} (I:Inv X pins σ H s) (k:∀ b u,s.heap.get? b=some u->h'.get? b=some u):Inv X pins σ H { s with heap:=h',toks:=t' }:=I.un (Un.kept k) (I.hok.kept k)
theorem Inv.laid {a:Addr} {o:HO} {t':Nat} (I:Inv X pins σ H s) (k:∀ b u,s.heap.get? b=some u->h'.get? b=some u) (hp:s.heap.objs.size<=a) (new:zBa X.prog X.w (upd H a o) h' a o):
  Inv X pins σ (upd H a o) { s with heap:=h',toks:=t' }:=I.un (Un.laid k hp (I.hok.fresh hp)) (I.hok.laid k hp new)
theorem Inv.write {x e:Addr} {o:HO} {t':Nat} (I:Inv X pins σ H s) (mu:Mut (H x)) (he:e=x\/H e=some (.own x)) (k:∀ b u,b≠e->s.heap.get? b=some u->h'.get? b=some u) (heo:∃ u,h'.get? e=some u)
  (new:zBa X.prog X.w (upd H x o) h' x o):Inv X pins σ (upd H x o) { s with heap:=h',toks:=t' }:=I.un (Un.write mu he k heo) (I.hok.write mu he k heo new)
theorem Inv.weak {σ':List (Option V)} (I:Inv X pins σ H s) (hl:σ'.length=σ.length) (w:∀ (i:Nat) v,σ'[i]? = some (some v)->σ[i]? = some (some v)):Inv X pins σ' H s:=
 ⟨I.ok,I.os,I.bare,I.base,let ⟨m,hn,hl'⟩:=I.loc; ⟨m,hn,fun i x v e1 e2 e3=>hl' i x v e1 (w i v e2) e3⟩,I.cell,I.free,I.freeC,I.pin,I.hok,hl.trans I.len⟩
theorem Inv.pins_of {pins':List (Addr×Obj)} (I:Inv X pins σ H s) (h:∀ p∈pins',s.heap.get? p.1=some p.2/\H p.1=none/\p.1≠X.env.locals/\p.1∉X.fs/\∀ v,p.2.data ≠ .cell v):Inv X pins' σ H s:=
 ⟨I.ok,I.os,I.bare,I.base,I.loc,I.cell,I.free,I.freeC,fun p hp=>(List.mem_append.mp hp).elim (fun z=>I.pin p (List.mem_append_left _ z)) (h p),I.hok,I.len⟩
theorem zGi {N:List Str} (hN:N.Nodup) {i j:Nat} {x:Str} (a:N[i]? = some x) (b:N[j]? = some x):i=j:=by
 obtain ⟨h1,e1⟩:=List.getElem?_eq_some_iff.mp a
 obtain ⟨h2,e2⟩:=List.getElem?_eq_some_iff.mp b
 exact (List.getElem_inj hN).mp (e1.trans e2.symm)
theorem zGM {M:Model} {A:Around} {E:Value->Shared->Prop} {i:Nat} {x:Str} {v:V} {u:Value} {Q:Unit->Shared->Prop} (I:Inv X pins σ H s) (hN:X.N.Nodup) (hi:X.N[i]? = some x) (hx:Loc X.env.scope x) (r:RelV v u)
  (h:∀ s',Inv X pins (σ.set i (some v)) H s'->(∃ a,Heap.SameBut a s.heap s'.heap/\(a=X.env.locals\/X.env.cells.lookup x=some a))->Q () s') (hf:X.fn x=true\/X.env.scope.names.lookup x=some .local:=by first | exact .inl rfl | exact .inr rfl | assumption):wpAny M A (storeName X.env x u) Q E s:=by
 obtain ⟨m,hn,hl⟩:=id I.loc
 have hcls:(X.env.scope.kind == .class||(X.env.scope.kind == .module&&X.env.locals != X.env.globals))=false:=by rw [I.ok.kind]; rfl
 have hiσ:i<σ.length:=by rw [I.len]; exact (List.getElem?_eq_some_iff.mp hi).1
 have cne:=I.cne
 have tracked:∀ {a:Addr} {h':Heap},(∃ o,s.heap.get? a=some o/\H a=none)->Heap.SameBut a s.heap h'->HOk X.prog X.w H h':=fun {a h'} ha hs b ob e=>by
  obtain ⟨_,_,hfree⟩:=ha
  refine (I.hok b ob e).stay (fun c w' hc q=>(hs.2 c ?_).trans q) (fun _ q=>q) fun _ _ q=>q
  rintro rfl
  rcases hc with rfl | hc
  ·rw [hfree] at e; cases e
  ·rw [hfree] at hc; cases hc
 rcases hx with hk | hk
 ·refine wpAny_storeName_local hk hn (fun h' hn' hs=>?_) hcls
  obtain ⟨oL,_,_,hoL,_⟩:=id hn
  refine h _ ⟨I.ok,I.os,I.bare,⟨fun b o e n hb hx=>?_,fun b o e n hb hx=>?_,I.base.free,fun b o e hx=>?_,I.base.tups,I.base.frzs,I.base.tbls⟩,⟨_,hn',fun j y v' e1 e2 e3=>?_⟩,fun y c e=>?_,I.free,I.freeC,fun p hp=>?_,tracked ⟨oL,hoL,I.free⟩ hs,by simpa using I.len⟩ ⟨_,hs,.inl rfl⟩
  ·exact (hs.2 b (Nat.ne_of_lt (Nat.lt_of_lt_of_le (Heap.lt_size e) I.ok.above))).trans (I.base.keep b o e n hb hx)
  ·obtain ⟨sl,e1⟩:=I.base.slot b o e n hb hx
   exact ⟨sl,(hs.2 b (Nat.ne_of_lt (Nat.lt_of_lt_of_le (Heap.lt_size e) I.ok.above))).trans e1⟩
  ·obtain ⟨o',e1⟩:=I.base.there b o e hx
   exact ⟨o',(hs.2 b (Nat.ne_of_lt (Nat.lt_of_lt_of_le (Heap.lt_size e) I.ok.above))).trans e1⟩
  ·by_cases hj:j=i
   ·subst hj
    rw [hi] at e1; cases e1
    rw [List.getElem?_set_self hiσ] at e2
    cases e2
    exact ⟨u,r,.inl ⟨hk,by simp⟩⟩
   ·rw [List.getElem?_set_ne (Ne.symm hj)] at e2
    obtain ⟨u',r',q⟩:=hl j y v' e1 e2 e3
    refine ⟨u',r',?_⟩
    rcases q with ⟨k,e⟩ | ⟨k,c,e,z⟩
    ·refine .inl ⟨k,?_⟩
     have:y≠x:=fun e=>hj (zGi hN e1 (e ▸ hi))
     simp [this,e]
    ·exact .inr ⟨k,c,e,z.sameBut hs (cne y c e)⟩
  ·obtain ⟨w',z⟩:=I.cell y c e
   exact ⟨w',z.sameBut hs (cne y c e)⟩
  ·obtain ⟨e,n,ne,nf,d⟩:=I.pin p hp
   exact ⟨(hs.2 p.1 ne).trans e,n,ne,nf,d⟩
 ·have hfn:X.fn x=true:=by
   rcases hf with z | z
   ·exact z
   ·rw [z] at hk; cases hk
  obtain ⟨c,hc⟩:=I.ok.has x (.inl hk)
  obtain ⟨w',z⟩:=I.cell x c hc
  refine wpAny_storeName_cell I.ok.kind hk hc z (fun h' hc' hs=>?_)
  obtain ⟨oc,hoc,hocd⟩:=id z
  refine h { s with heap:=h' } ⟨I.ok,I.os,I.bare,⟨fun b o e n hb hx=>?_,fun b o e n hb hx=>?_,I.base.free,fun b o e hx=>?_,I.base.tups,I.base.frzs,I.base.tbls⟩,⟨m,hn.sameBut hs (Ne.symm (cne x c hc)),fun j y v' e1 e2 e3=>?_⟩,fun y c' e=>?_,I.free,I.freeC,fun p hp=>?_,tracked ⟨oc,hoc,I.freeC x c hc⟩ hs,by simpa using I.len⟩ ⟨c,hs,.inr hc⟩
  ·exact (hs.2 b (Nat.ne_of_lt (Nat.lt_of_lt_of_le (Heap.lt_size e) (I.ok.cab x c hfn hc)))).trans (I.base.keep b o e n hb hx)
  ·obtain ⟨sl,e1⟩:=I.base.slot b o e n hb hx
   exact ⟨sl,(hs.2 b (Nat.ne_of_lt (Nat.lt_of_lt_of_le (Heap.lt_size e) (I.ok.cab x c hfn hc)))).trans e1⟩
  ·obtain ⟨o',e1⟩:=I.base.there b o e hx
   exact ⟨o',(hs.2 b (Nat.ne_of_lt (Nat.lt_of_lt_of_le (Heap.lt_size e) (I.ok.cab x c hfn hc)))).trans e1⟩
  ·by_cases hj:j=i
   ·subst hj
    rw [hi] at e1; cases e1
    rw [List.getElem?_set_self hiσ] at e2
    cases e2
    exact ⟨u,r,.inr ⟨.inl hk,c,hc,hc'⟩⟩
   ·rw [List.getElem?_set_ne (Ne.symm hj)] at e2
    obtain ⟨u',r',q⟩:=hl j y v' e1 e2 e3
    refine ⟨u',r',?_⟩
    rcases q with q | ⟨k,c',e,z'⟩
    ·exact .inl q
    ·refine .inr ⟨k,c',e,z'.sameBut hs ?_⟩
     rintro rfl
     exact hj (zGi hN e1 (I.ok.inj _ _ _ e hc ▸ hi))
  ·by_cases hcc:c'=c
   ·subst hcc; exact ⟨_,hc'⟩
   ·obtain ⟨w2,z2⟩:=I.cell y c' e
    exact ⟨w2,z2.sameBut hs hcc⟩
  ·obtain ⟨e,n,ne,nf,d⟩:=I.pin p hp
   refine ⟨(hs.2 p.1 ?_).trans e,n,ne,nf,d⟩
   intro q
   rw [q,hoc] at e
   have q':oc=p.2:=Option.some.inj e
   exact d w' (by rw [<- q']; exact hocd)
theorem zDZ {M:Model} {A:Around} {E:Value->Shared->Prop} {i:Nat} {x:Str} {v:V} {u:Value} {Q:Unit->Shared->Prop} (I:Inv X pins σ H s) (hN:X.N.Nodup) (hi:X.N[i]? = some x) (hx:Loc X.env.scope x) (r:RelV v u)
  (h:∀ s',Inv X pins (σ.set i (some v)) H s'->Q () s') (hf:X.fn x=true\/X.env.scope.names.lookup x=some .local:=by first | exact .inl rfl | exact .inr rfl | assumption):wpAny M A (storeName X.env x u) Q E s:=
 zGM I hN hi hx r (fun s' I' _=>h s' I') hf
theorem Inv.call' {s':Shared} {ch:List Addr} (I:Inv X pins σ H s) (ho:s'.os=s.os) (u:Un (frs X.stack) ch H H' s.heap s'.heap) (hok:HOk X.prog X.w H' s'.heap) (hg:AllBare s'.gens)
  (hch:∀ b∈ch,(b∈X.ex\/X.s_0.heap.objs.size<=b)/\b≠X.env.locals/\(∀ x c,X.env.cells.lookup x=some c->c≠b)/\∀ p∈X.pn++pins,p.1≠b):Inv X pins σ H' s':=by
 obtain ⟨h',g',d',t',o'⟩:=s'
 have e:o'=s.os:=ho
 subst e
 exact I.call (g':=g') (t':=t') (d':=d') u hok hg hch
end
noncomputable abbrev XK:=Value->Option Addr->Hp->Prop
noncomputable abbrev St:=List (Option V)
noncomputable abbrev VK:=V->Hp->Prop
noncomputable abbrev TE:=St->Hp->VK->Prop
noncomputable abbrev TT:=St->Hp->(Bool->Hp->Prop)->Prop
noncomputable abbrev TA:=St->Hp->(List V->Hp->Prop)->Prop
structure Ends where
 nx:St->Hp->Prop
 rt:VK
 bk:St->Hp->Prop:=fun _ _=>False
 ct:St->Hp->Prop:=fun _ _=>False
noncomputable abbrev TS:=Ends->St->Hp->Prop
def EP (X:Cx) (pins:List (Addr×Obj)) (σ:St) (Q:VK) (u:Value) (s':Shared):Prop:=∃ v H',Inv X pins σ H' s'/\RelV v u/\Q v H'
def TP (X:Cx) (pins:List (Addr×Obj)) (σ:St) (Q:Bool->Hp->Prop) (b:Bool) (s':Shared):Prop:=∃ H',Inv X pins σ H' s'/\Q b H'
def AP (X:Cx) (pins:List (Addr×Obj)) (σ:St) (Q:List V->Hp->Prop) (us:List Value) (s':Shared):Prop:=∃ vs H',Inv X pins σ H' s'/\Vals vs us/\Q vs H'
def SP (X:Cx) (pins:List (Addr×Obj)) (D:Ends) (f:Flow) (s':Shared):Prop:=
 match f with
 | .next=>∃ σ' H',Inv X pins σ' H' s'/\D.nx σ' H'
 | .brk=>∃ σ' H',Inv X pins σ' H' s'/\D.bk σ' H'
 | .cont=>∃ σ' H',Inv X pins σ' H' s'/\D.ct σ' H'
 | .ret u=>∃ v σ' H',Inv X pins σ' H' s'/\RelV v u/\D.rt v H'
def PE (X:Cx) (e:Expr) (t:TE):Prop:=
 ∀ (pins:List (Addr×Obj)) (s:Shared) (σ:St) (H:Hp) (Q:VK),Inv X pins σ H s->t σ H Q->wpAny (model X.prog X.w) X.A (eval e X.env) (EP X pins σ Q) X.xe s
def PT (X:Cx) (e:Expr) (t:TT):Prop:=
 ∀ (pins:List (Addr×Obj)) (s:Shared) (σ:St) (H:Hp) (Q:Bool->Hp->Prop),Inv X pins σ H s->t σ H Q->wpAny (model X.prog X.w) X.A (isTrue e X.env (eval e X.env)) (TP X pins σ Q) X.xe s
def PW (X:Cx) (e:Expr) (t:TT):Prop:=
 ∀ (whole:Sem Value) (pins:List (Addr×Obj)) (s:Shared) (σ:St) (H:Hp) (Q:Bool->Hp->Prop),Inv X pins σ H s->t σ H Q->wpAny (model X.prog X.w) X.A (isTrue e X.env whole) (TP X pins σ Q) X.xe s
theorem PW.pt {X:Cx} {e:Expr} {t:TT} (h:PW X e t):PT X e t:=h _
def PA (X:Cx) (es:List Expr) (t:TA):Prop:=
 ∀ (pos:Pos) (pins:List (Addr×Obj)) (s:Shared) (σ:St) (H:Hp) (Q:List V->Hp->Prop),Inv X pins σ H s->t σ H Q->wpAny (model X.prog X.w) X.A (spliced (backTo pos (starEach es X.env))) (AP X pins σ Q) X.xe s
def PS (X:Cx) (st:Stmt) (t:TS):Prop:=
 ∀ (pins:List (Addr×Obj)) (s:Shared) (σ:St) (H:Hp) (D:Ends),Inv X pins σ H s->t D σ H->wpAny (model X.prog X.w) X.A (exec st X.env) (SP X pins D) X.xe s
def PSs (X:Cx) (st:List Stmt) (t:TS):Prop:=
 ∀ (pins:List (Addr×Obj)) (s:Shared) (σ:St) (H:Hp) (D:Ends),Inv X pins σ H s->t D σ H->wpAny (model X.prog X.w) X.A (execs st X.env) (SP X pins D) X.xe s
theorem thn {α:Type} {t:Sem α} {Q Q':α->Shared->Prop} {M:Model} {A:Around} {E:Value->Shared->Prop} {s:Shared} (h:wpAny M A t Q E s) (hQ:∀ a s,Q a s->Q' a s):wpAny M A t Q' E s:=wpAny_mono h hQ fun _ _ x=>x
end L2
namespace L2
open PySem PySem.Spec PyProof.Rows
section
variable {X:Cx}
noncomputable def tVar (i:Nat):TE:=fun σ H Q=>∃ v,σ[i]? = some (some v)/\Q v H
noncomputable def tC (v:V):TE:=fun _ H Q=>Q v H
theorem pe_var {i:Nat} {x:Str} {pos:Pos} (hN:X.N[i]? = some x) (hv:Vis X.env.scope x) (hd:(x==("__debug__" : Str))=false:=by decide) (hcd:(x==("__classdict__" : Str))=false:=by decide):PE X (.Name x pos) (tVar i):=by
 intro pins s σ H Q I h
 obtain ⟨v,e,h⟩:=h
 obtain ⟨m,hn,hl⟩:=I.loc
 obtain ⟨u,r,l⟩:=hl i x v hN e hv
 have fin:EP X pins σ Q u s:=⟨v,H,I,r,h⟩
 rcases l with ⟨hk,hm⟩ | ⟨hk,c,hc,hcell⟩
 ·exact wpAny_Name (wpAny_loadName_local I.ok.kind hk hn hm fin) hd
 ·rcases hk with hk | hk
  ·exact wpAny_Name (wpAny_loadName_cell I.ok.kind hk hc hcell fin) hd
  ·exact wpAny_Name (wpAny_loadName_free I.ok.kind hk hc hcell fin hcd) hd
theorem zAb {i j pos}:PE X (.Constant (.int i) j pos) (tC (.int i)):=fun _ _ _ H _ I h=>wpAny_Constant_int ⟨.int i,H,I.tok _,⟨_,rfl⟩,h⟩
theorem zBD {j pos}:PE X (.Constant .none j pos) (tC .non):=fun _ _ _ H _ I h=>Constant_none ⟨.non,H,I,rfl,h⟩
theorem zIR {x j pos}:PE X (.Constant (.str x) j pos) (tC (.str x)):=fun _ _ _ H _ I h=>Calls.Constant_str ⟨.str x,H,I.tok _,⟨_,rfl⟩,h⟩
def Gl (X:Cx) (x:Str):Prop:=X.env.kindOf x=some .globalImplicit
theorem zCR {E:Value->Shared->Prop} {pins:List (Addr×Obj)} {s:Shared} {σ:St} {H:Hp} {x:Str} {u:Value} {pos:Pos} {Q:Value->Shared->Prop} (I:Inv X pins σ H s) (hg:Gl X x) (hm:X.mg x=some u) (h:Q u s)
  (hd:(x==("__debug__" : Str))=false:=by decide):wpAny (model X.prog X.w) X.A (eval (.Name x pos) X.env) Q E s:=
 Calls.Name_function_global I.ok.kind hg (Calls.loadGlobal_global (by rw [I.ok.glob]; exact I.mod.glob.keeps I.bk) hm h) hd
theorem zDL {E:Value->Shared->Prop} {pins:List (Addr×Obj)} {s:Shared} {σ:St} {H:Hp} {x:Str} {u:Value} {pos:Pos} {Q:Value->Shared->Prop} (I:Inv X pins σ H s) (hg:Gl X x) (hm:X.mg x=none) (hv:bootBuiltins x=some u) (h:Q u s)
  (hn:x≠ "__name__" := by decide) (hd:(x==("__debug__" : Str))=false:=by decide):wpAny (model X.prog X.w) X.A (eval (.Name x pos) X.env) Q E s:=by
 obtain ⟨mb,h1,h2⟩:=I.mod.blt
 exact Calls.Name_function_global I.ok.kind hg (Calls.loadGlobal_builtin (by rw [I.ok.glob]; exact I.mod.glob.keeps I.bk) hm (by rw [I.ok.blt]; exact h1.keeps I.bk) ((h2 x hn).trans hv) h) hd
theorem zGh {x:Str} {v:V} {u:Value} {pos:Pos} (hg:Gl X x) (hm:X.mg x=some u) (r:RelV v u) (hd:(x==("__debug__" : Str))=false:=by decide):PE X (.Name x pos) (tC v):=
 fun _ _ _ H _ I h=>zCR I hg hm ⟨v,H,I,r,h⟩ hd
variable {a b:Expr} {ta tb:TE} {pos:Pos}
def PC (X:Cx) (op:CmpOp) (a b:Expr) (t:TE):Prop:=
 ∀ (pins:List (Addr×Obj)) (s:Shared) (σ:St) (H:Hp) (Q:VK),Inv X pins σ H s->t σ H Q->
  wpAny (model X.prog X.w) X.A (eval a X.env) (fun v s₁=>wpAny (model X.prog X.w) X.A (eval b X.env) (fun u s₂=>wpAny (model X.prog X.w) X.A (compareOp op v u) (EP X pins σ Q) X.xe s₂) X.xe s₁) X.xe s
theorem zND (b:Expr) {op:CmpOp} (h:op ≠ .In) (h2:op ≠ .NotIn):behindInMarks op b=false:=by
 have e1:(op==CmpOp.In)=false:=by cases op <;> first | rfl | exact absurd rfl h
 have e2:(op==CmpOp.NotIn)=false:=by cases op <;> first | rfl | exact absurd rfl h2
 cases b <;> simp [behindInMarks,e1,e2]
noncomputable def tB (t:TE):TT:=fun σ H Q=>t σ H fun x H1=>∃ c,x = .bl c/\Q c H1
theorem pt_cmp {op:CmpOp} {t:TE} (h:PC X op a b t) (h1:behindInMarks op b=false:=by first | exact zND _ (by decide) (by decide) | rfl):PT X (.Compare a [op] [b] pos) (tB t):=by
 intro pins s σ H Q I hw
 refine wpAny_isTrue_Compare1 (thn (h pins s σ H _ I hw) fun v s1 h1=>thn h1 fun u s2 h2=>thn h2 fun c s3 ⟨x,H1,I1,r1,q1⟩=>?_) h1
 obtain ⟨d,rfl,q⟩:=q1
 cases r1
 exact wpAny_truthy_bool ⟨H1,I1,q⟩
theorem zEG {e:Expr} {t:TE} (h:PE X e t) (he:∀ whole,isTrue e X.env whole=(do let v <- whole; standAt e.pos; holding [v] (truthy v)):=by intro _; rfl):PT X e (tB t):=by
 intro pins s σ H Q I hw
 refine isTrue_plain (thn (h pins s σ H _ I hw) fun v s1 ⟨x,H1,I1,r1,q1⟩=>?_) (he _)
 obtain ⟨d,rfl,q⟩:=q1
 cases r1
 exact wpAny_truthy_bool ⟨H1,I1,q⟩
variable {tA tB':TT} {rest:List Expr}
noncomputable def tAnd (t u:TT):TT:=fun σ H Q=>t σ H fun c H1=>if c=true then u σ H1 Q else Q false H1
noncomputable def tOr (t u:TT):TT:=fun σ H Q=>t σ H fun c H1=>if c=true then Q true H1 else u σ H1 Q
noncomputable def tNot (t:TT):TT:=fun σ H Q=>t σ H fun c H1=>Q (!c) H1
theorem zCN (ha:PT X a tA):PW X (.BoolOp .And [a] pos) tA:=by
 intro wh pins s σ H Q I h
 refine isTrue_and (thn (ha pins s σ H Q I h) fun c s1 e=>?_)
 cases c with
 | true=>exact isTrue_and_nil e
 | false=>exact e
theorem zED (ha:PT X a tA):PW X (.BoolOp .Or [a] pos) tA:=by
 intro wh pins s σ H Q I h
 refine isTrue_or (thn (ha pins s σ H Q I h) fun c s1 e=>?_)
 cases c with
 | false=>exact isTrue_or_nil e
 | true=>exact e
theorem zEF (ha:PT X a tA) (hb:PW X (.BoolOp .And (b::rest) pos) tB'):PW X (.BoolOp .And (a::b::rest) pos) (tAnd tA tB'):=by
 intro wh pins s σ H Q I h
 refine isTrue_and (thn (ha pins s σ H _ I h) fun c s1 ⟨H1,I1,q1⟩=>?_)
 cases c with
 | true=>exact hb wh pins s1 σ H1 Q I1 q1
 | false=>exact ⟨H1,I1,q1⟩
theorem zEE (ha:PT X a tA) (hb:PW X (.BoolOp .Or (b::rest) pos) tB'):PW X (.BoolOp .Or (a::b::rest) pos) (tOr tA tB'):=by
 intro wh pins s σ H Q I h
 refine isTrue_or (thn (ha pins s σ H _ I h) fun c s1 ⟨H1,I1,q1⟩=>?_)
 cases c with
 | true=>exact ⟨H1,I1,q1⟩
 | false=>exact hb wh pins s1 σ H1 Q I1 q1
theorem zDI (ha:PT X a tA):PT X (.UnaryOp .Not a pos) (tNot tA):=by
 intro pins s σ H Q I h
 exact isTrue_not (ha pins s σ H (fun c H1=>Q (!c) H1) I h)
noncomputable def tAndV (ta tb:TE):TE:=fun σ H Q=>ta σ H fun x H1=>∃ c,x = .bl c/\if c=true then tb σ H1 Q else Q (.bl false) H1
noncomputable def tNotV (ta:TE):TE:=fun σ H Q=>ta σ H fun x H1=>∃ c,x = .bl c/\Q (.bl (!c)) H1
theorem zIS {op} {t:TE} (h:PE X a t):PE X (.BoolOp op [a] pos) t:=fun pins s σ H Q I hw=>BoolOp_one (h pins s σ H Q I hw)
theorem zIW (ha:PE X a ta) (hb:PE X (.BoolOp .And (b::rest) pos) tb):PE X (.BoolOp .And (a::b::rest) pos) (tAndV ta tb):=by
 intro pins s σ H Q I h
 refine BoolOp_and (thn (ha pins s σ H _ I h) fun v s1 ⟨x,H1,I1,r1,q1⟩=>?_)
 obtain ⟨c,rfl,q1⟩:=q1
 cases r1
 refine wpAny_truthy_bool ?_
 cases c with
 | true=>exact hb pins s1 σ H1 Q I1 q1
 | false=>exact ⟨.bl false,H1,I1,rfl,q1⟩
theorem pe_not (ha:PE X a ta):PE X (.UnaryOp .Not a pos) (tNotV ta):=by
 intro pins s σ H Q I h
 refine UnaryOp_ (thn (ha pins s σ H _ I h) fun v s1 ⟨x,H1,I1,r1,q1⟩=>?_)
 obtain ⟨c,rfl,q1⟩:=q1
 cases r1
 exact not_of (wpAny_truthy_bool ⟨.bl (!c),H1,I1,rfl,q1⟩)
noncomputable def tIf (t:TT) (ta tb:TE):TE:=fun σ H Q=>t σ H fun c H1=>if c=true then ta σ H1 Q else tb σ H1 Q
theorem zIT {c:Expr} (hc:PT X c tA) (ha:PE X a ta) (hb:PE X b tb):PE X (.IfExp c a b pos) (tIf tA ta tb):=by
 intro pins s σ H Q I h
 refine wpAny_IfExp (thn (hc pins s σ H _ I h) fun d s1 ⟨H1,I1,q1⟩=>?_)
 cases d with
 | true=>exact ha pins s1 σ H1 Q I1 q1
 | false=>exact hb pins s1 σ H1 Q I1 q1
end
end L2
namespace L2
open PySem PySem.Spec PyProof.Rows
def SqL (K:PySem.W.Frag) (H:Hp) (a:Addr) (xs:List V):Prop:=
 Rd H a (.lst xs)\/
  ∃ (o:Obj) (its:Array Value) (n:Nat),K.lookup a=some o/\o.cls = .type "list" /\ o.dict=none/\o.data = .seq its n/\its.size<=sizeLine/\Vals xs its.toList
def SqT (K:PySem.W.Frag) (H:Hp) (a:Addr) (xs:List V):Prop:=
 Rd H a (.tup xs)\/
  ∃ (o:Obj) (its:Array Value) (n:Nat),K.lookup a=some o/\o.cls = .type "tuple" /\ o.data = .seq its n/\its.size<=sizeLine/\Vals xs its.toList
noncomputable def absV:Value->Option V
 | .none=>some .non
 | .bool b=>some (.bl b)
 | .int i _=>some (.int i)
 | .str x _=>some (.str x)
 | .bytes b _=>some (.byt b)
 | .float b _=>some (.flt b)
 | .ref a=>some (.ref a)
 | .type n=>some (.ty n)
 | _=>none
theorem RelV.abs {x:V} {u:Value} (r:RelV x u):absV u=some x:=by
 cases x with
 | non=>cases r; rfl
 | bl _=>cases r; rfl
 | int _=>obtain ⟨t,rfl⟩:=r; rfl
 | str _=>obtain ⟨t,rfl⟩:=r; rfl
 | byt _=>obtain ⟨t,rfl⟩:=r; rfl
 | flt _=>obtain ⟨t,rfl⟩:=r; rfl
 | ref _=>cases r; rfl
 | ty _=>cases r; rfl
theorem RelV.inj {x y:V} {u:Value} (r:RelV x u) (q:RelV y u):x=y:=Option.some.inj (r.abs.symm.trans q.abs)
theorem Vals.inj:∀ {xs ys:List V} {us:List Value},Vals xs us->Vals ys us->xs=ys
 | _,_,_,.nil,.nil=>rfl
 | _,_,_,.cons r t,.cons r' t'=>by rw [r.inj r',Vals.inj t t']
section
variable {X:Cx} {pins:List (Addr×Obj)} {σ:St} {H:Hp} {s:Shared} {a:Addr} {xs ys:List V}
theorem SqL.of {K:PySem.W.Frag} (h:H a=some (.lst xs)):SqL K H a xs:=.inl (.inl h)
theorem SqT.of {K:PySem.W.Frag} (h:H a=some (.tup xs)):SqT K H a xs:=.inl (.inl h)
theorem Inv.list (I:Inv X pins σ H s) (h:SqL X.K H a xs):∃ its:List Value,Vals xs its/\PlainL s.heap a its.toArray/\xs.length<=sizeLine:=by
 rcases h with h | ⟨o,its,n,hk,hc,hd,hs,hz,r⟩
 ·obtain ⟨z,its,n,r,e⟩:=h.ok I.hok
  exact ⟨its,r,⟨_,n,e,rfl,rfl,rfl⟩,z⟩
 ·refine ⟨its.toList,r,⟨o,n,I.kIn a o hk,hc,hd,by simpa using hs⟩,?_⟩
  have e:=r.length
  simp only [Array.length_toList] at e
  omega
theorem Inv.tuple (I:Inv X pins σ H s) (h:SqT X.K H a xs):∃ its:List Value,Vals xs its/\IsTup s.heap a its.toArray/\xs.length<=sizeLine:=by
 rcases h with h | ⟨o,its,n,hk,hc,hs,hz,r⟩
 ·obtain ⟨z,its,r,p⟩:=h.ok I.hok
  exact ⟨its,r,p,z⟩
 ·refine ⟨its.toList,r,⟨o,I.kIn a o hk,hc,n,by simpa using hs⟩,?_⟩
  have e:=r.length
  simp only [Array.length_toList] at e
  omega
theorem Inv.list_inj (I:Inv X pins σ H s) (h:SqL X.K H a xs) (h':SqL X.K H a ys):xs=ys:=by
 obtain ⟨its,r,⟨o,n,e,_,_,d⟩,_⟩:=I.list h
 obtain ⟨its',r',⟨o',n',e',_,_,d'⟩,_⟩:=I.list h'
 rw [e] at e'; cases e'
 rw [d] at d'
 injection d' with d1 _
 have:its=its':=by simpa using congrArg Array.toList d1
 subst this
 exact r.inj r'
theorem Inv.tuple_inj (I:Inv X pins σ H s) (h:SqT X.K H a xs) (h':SqT X.K H a ys):xs=ys:=by
 obtain ⟨its,r,⟨o,e,_,n,d⟩,_⟩:=I.tuple h
 obtain ⟨its',r',⟨o',e',_,n',d'⟩,_⟩:=I.tuple h'
 rw [e] at e'; cases e'
 rw [d] at d'
 injection d' with d1 _
 have:its=its':=by simpa using congrArg Array.toList d1
 subst this
 exact r.inj r'
end
noncomputable abbrev Cx.wish (X:Cx) (E:Value->Shared->Prop):Cx:={ X with xe:=E }
noncomputable abbrev Cx.nox (X:Cx):Cx:=X.wish fun _ _=>False
theorem Cx.Ok.wish {X:Cx} (ok:X.Ok) (E:Value->Shared->Prop):(X.wish E).Ok:=
 ⟨ok.mod,ok.kind,ok.glob,ok.blt,ok.above,ok.inj,ok.has,ok.cab,ok.hd,ok.frames,ok.stk,ok.exf,ok.bs,ok.bsz,ok.noex,ok.exfs,ok.funs,ok.frf⟩
theorem Cx.Ok.unwish {X:Cx} {E:Value->Shared->Prop} (ok:(X.wish E).Ok):X.Ok:=
 ⟨ok.mod,ok.kind,ok.glob,ok.blt,ok.above,ok.inj,ok.has,ok.cab,ok.hd,ok.frames,ok.stk,ok.exf,ok.bs,ok.bsz,ok.noex,ok.exfs,ok.funs,ok.frf⟩
section
variable {X:Cx} {pins:List (Addr×Obj)} {σ:St} {H:Hp} {s:Shared} {E:Value->Shared->Prop}
theorem Inv.wish (I:Inv X pins σ H s) (E:Value->Shared->Prop):Inv (X.wish E) pins σ H s:=⟨I.ok.wish E,I.os,I.bare,I.base,I.loc,I.cell,I.free,I.freeC,I.pin,I.hok,I.len⟩
theorem Inv.unwish (I:Inv (X.wish E) pins σ H s):Inv X pins σ H s:=⟨I.ok.unwish,I.os,I.bare,I.base,I.loc,I.cell,I.free,I.freeC,I.pin,I.hok,I.len⟩
theorem SP.unwish {D:Ends} {f:Flow} {s':Shared} (h:SP (X.wish E) pins D f s'):SP X pins D f s':=by
 cases f with
 | next=>obtain ⟨σ',H',I,q⟩:=h; exact ⟨σ',H',I.unwish,q⟩
 | brk=>obtain ⟨σ',H',I,q⟩:=h; exact ⟨σ',H',I.unwish,q⟩
 | cont=>obtain ⟨σ',H',I,q⟩:=h; exact ⟨σ',H',I.unwish,q⟩
 | ret u=>obtain ⟨v,σ',H',I,r,q⟩:=h; exact ⟨v,σ',H',I.unwish,r,q⟩
theorem PSs.nox {st:List Stmt} {t:TS} (h:PSs X.nox st t):PSs X st t:=fun pins s σ H D I hw=>
 wpAny_mono (h pins s σ H D (I.wish _) hw) (fun _ _ q=>q.unwish) fun _ _ z=>False.elim z
end
section
variable {X:Cx} {st:Stmt} {rest:List Stmt} {t u:TS} {e:Expr} {te:TE} {pos:Pos}
noncomputable def zMQ:TS:=fun D σ H=>D.nx σ H
noncomputable def tSeq (t u:TS):TS:=fun D σ H=>t { D with nx:=u D } σ H
theorem zAf:PSs X [] zMQ:=fun _ _ σ H _ I h=>wpAny_execs_nil ⟨σ,H,I,h⟩
theorem pC (h1:PS X st t) (h2:PSs X rest u):PSs X (st::rest) (tSeq t u):=by
 intro pins s σ H D I h
 refine wpAny_execs_cons (thn (h1 pins s σ H { D with nx:=u D } I h) fun f s1 q=>?_)
 cases f with
 | next=>
  obtain ⟨σ',H',I',q⟩:=q
  exact h2 pins s1 σ' H' D I' q
 | ret v=>exact q
 | brk=>exact q
 | cont=>exact q
theorem pO (h1:PS X st t):PSs X [st] t:=by
 intro pins s σ H D I h
 refine wpAny_execs_cons (thn (h1 pins s σ H D I h) fun f s1 q=>?_)
 cases f with
 | next=>exact wpAny_execs_nil q
 | ret v=>exact q
 | brk=>exact q
 | cont=>exact q
theorem Inv.quiet {pins:List (Addr×Obj)} {σ:St} {H:Hp} {s:Shared} (I:Inv X pins σ H s):interactive X.env=false:=by simp [interactive,I.ok.kind]
noncomputable def zHI (te:TE):TS:=fun D σ H=>te σ H fun _ H1=>D.nx σ H1
theorem zAA (he:PE X e te) (hs:swapsWith e none pos.line X.env=pure false:=by rfl):PS X (.Expr e pos) (zHI te):=by
 intro pins s σ H D I h
 exact wpAny_Expr_any (thn (he pins s σ H _ I h) fun v s1 ⟨x,H1,I1,r1,q1⟩=>⟨σ,H1,I1,q1⟩) I.quiet hs
noncomputable def tRet (te:TE):TS:=fun D σ H=>te σ H D.rt
theorem pR (he:PE X e te):PS X (.Return (some e) pos) (tRet te):=by
 intro pins s σ H D I h
 exact wpAny_Return_some (thn (he pins s σ H _ I h) fun v s1 ⟨x,H1,I1,r1,q1⟩=>⟨x,σ,H1,I1,r1,q1⟩)
noncomputable def tIfS (c:TT) (t u:TS):TS:=fun D σ H=>c σ H fun b H1=>if b=true then t D σ H1 else u D σ H1
theorem zAC {c:Expr} {a b:List Stmt} {tc:TT} (hc:PT X c tc) (ha:PSs X a t) (hb:PSs X b u):PS X (.If c a b pos) (tIfS tc t u):=by
 intro pins s σ H D I h
 refine wpAny_If (thn (hc pins s σ H _ I h) fun d s1 ⟨H1,I1,q1⟩=>?_)
 cases d with
 | true=>exact ha pins s1 σ H1 D I1 q1
 | false=>exact hb pins s1 σ H1 D I1 q1
end
noncomputable abbrev TG:=V->St->Hp->(St->Hp->Prop)->Prop
noncomputable abbrev TGs:=List V->St->Hp->(St->Hp->Prop)->Prop
def PG (X:Cx) (target:Expr) (t:TG):Prop:=
 ∀ (pins:List (Addr×Obj)) (s:Shared) (σ:St) (H:Hp) (v:V) (u:Value) (Q:St->Hp->Prop),Inv X pins σ H s->RelV v u->t v σ H Q->
  wpAny (model X.prog X.w) X.A (assign target X.env u) (fun _ s'=>∃ σ' H',Inv X pins σ' H' s'/\Q σ' H') X.xe s
def PGs (X:Cx) (ts:List Expr) (t:TGs):Prop:=
 ∀ (pins:List (Addr×Obj)) (s:Shared) (σ:St) (H:Hp) (vs:List V) (us:List Value) (Q:St->Hp->Prop),Inv X pins σ H s->Vals vs us->t vs σ H Q->
  wpAny (model X.prog X.w) X.A (assignInOrder ((assignEach ts X.env).map (·.2)) us) (fun _ s'=>∃ σ' H',Inv X pins σ' H' s'/\Q σ' H') X.xe s
noncomputable abbrev TIp:=V->V->Hp->VK->Prop
def PIp (X:Cx) (op:Operator) (t:TIp):Prop:=
 ∀ (pins:List (Addr×Obj)) (s:Shared) (σ:St) (H:Hp) (x y:V) (v u:Value) (Q:VK),Inv X pins σ H s->RelV x v->RelV y u->t x y H Q->
  wpAny (model X.prog X.w) X.A (inplaceOp op v u) (EP X pins σ Q) X.xe s
section
variable {X:Cx} {pos:Pos}
noncomputable def zER (i:Nat):TG:=fun v σ H Q=>Q (σ.set i (some v)) H
theorem zAn {i:Nat} {x:Str} (hN:X.N.Nodup) (hi:X.N[i]? = some x) (hx:Loc X.env.scope x) (hf:X.fn x=true\/X.env.scope.names.lookup x=some .local:=by first | exact .inl rfl | exact .inr rfl | assumption):PG X (.Name x pos) (zER i):=by
 intro pins s σ H v u Q I r h
 exact wpAny_assign_Name (zDZ I hN hi hx r (fun s' I'=>⟨_,H,I',h⟩) hf)
noncomputable def gNil:TGs:=fun vs σ H Q=>vs=[]/\Q σ H
noncomputable def gCons (t:TG) (u:TGs):TGs:=fun vs σ H Q=>∃ v r,vs=v::r/\t v σ H fun σ' H'=>u r σ' H' Q
theorem zIh:PGs X [] gNil:=by
 intro pins s σ H vs us Q I r h
 obtain ⟨e,h⟩:=h
 subst e
 cases r
 exact assignInOrder_nil ⟨σ,H,I,h⟩
theorem zCw {e:Expr} {es:List Expr} {t:TG} {u:TGs} (h1:PG X e t) (h2:PGs X es u)
  (hs:(assignEach (e::es) X.env).map (·.2)=assign e X.env::(assignEach es X.env).map (·.2):=by rfl):PGs X (e::es) (gCons t u):=by
 intro pins s σ H vs us Q I r h
 obtain ⟨v,vr,e1,h⟩:=h
 subst e1
 cases r with
 | cons r rr=>
  rw [hs]
  refine assignInOrder_cons (thn (h1 pins s σ H _ _ _ I r h) fun _ s1 ⟨σ1,H1,I1,q1⟩=>?_)
  exact h2 pins s1 σ1 H1 _ _ Q I1 rr q1
noncomputable def gTup (K:PySem.W.Frag) (n:Nat) (t:TGs):TG:=fun v σ H Q=>∃ a xs,v = .ref a/\SqT K H a xs/\xs.length=n/\t xs σ H Q
theorem zLo {es:List Expr} {k:Nat} {t:TGs} {n:Nat} (hc:X.calm=true) (h:PGs X es t)
  (hn:(assignEach es X.env).length=n:=by rfl) (hst:(assignEach es X.env).findIdx? (·.1)=none:=by rfl):PG X (.Tuple es k pos) (gTup X.K n t):=by
 intro pins s σ H v u Q I r hw
 obtain ⟨a,xs,e1,hq,hl,hw⟩:=hw
 subst e1
 cases r
 obtain ⟨its,rv,ht,hz⟩:=I.tuple hq
 refine assign_Tuple_tuple (I.ok.hd hc) ht (by simp [hn,<- hl,rv.length]) hst fun h' hx=>?_
 have I1:Inv X pins σ H { s with heap:=h' }:=I.kept (t':=s.toks) fun b o e=>hx b o (Nat.ne_of_lt (Heap.lt_size e)) e
 exact h pins _ σ H xs _ Q I1 (by simpa using rv) hw
noncomputable def tAsg (te:TE) (g:TG):TS:=fun D σ H=>te σ H fun x H1=>g x σ H1 D.nx
theorem pS {i:Nat} {x:Str} {e:Expr} {te:TE} {pos':Pos} (hN:X.N.Nodup) (hi:X.N[i]? = some x) (hx:Loc X.env.scope x) (he:PE X e te) (hs:swapsWith e (some (.Name x pos')) pos.line X.env=pure false:=by rfl) (hf:X.fn x=true\/X.env.scope.names.lookup x=some .local:=by first | exact .inl rfl | exact .inr rfl | assumption):
  PS X (.Assign [.Name x pos'] e pos) (tAsg te (zER i)):=by
 intro pins s σ H D I h
 refine wpAny_Assign_Name (thn (he pins s σ H _ I h) fun v s1 ⟨y,H1,I1,r1,q1⟩=>?_) hs
 exact zDZ I1 hN hi hx r1 (fun s2 I2=>⟨_,H1,I2,q1⟩) hf
noncomputable def tAug (i:Nat) (te:TE) (ti:TIp):TS:=fun D σ H=>∃ x,σ[i]? = some (some x)/\te σ H fun y H1=>ti x y H1 fun z H2=>D.nx (σ.set i (some z)) H2
theorem zFk {i:Nat} {x:Str} {e:Expr} {te:TE} {op:Operator} {ti:TIp} {pos':Pos} (hN:X.N.Nodup) (hi:X.N[i]? = some x) (hx:Loc X.env.scope x) (he:PE X e te) (ho:PIp X op ti) (hf:X.fn x=true\/X.env.scope.names.lookup x=some .local:=by first | exact .inl rfl | exact .inr rfl | assumption):
  PS X (.AugAssign (.Name x pos') op e pos) (tAug i te ti):=by
 intro pins s σ H D I h
 obtain ⟨v,e1,h⟩:=h
 obtain ⟨m,hn,hl⟩:=I.loc
 have vis:Vis X.env.scope x:=by rcases hx with k | k; exact .inl k; exact .inr (.inl k)
 obtain ⟨u,r,l⟩:=hl i x v hi e1 vis
 refine wpAny_AugAssign_Name ?_
 have go:wpAny (model X.prog X.w) X.A (eval e X.env) (fun w s₂=>wpAny (model X.prog X.w) X.A (inplaceOp op u w) (fun r s₃=>wpAny (model X.prog X.w) X.A (storeName X.env x r) (fun _=>SP X pins D .next) X.xe s₃) X.xe s₂) X.xe s:=by
  refine thn (he pins s σ H _ I h) fun w s1 ⟨y,H1,I1,r1,q1⟩=>?_
  refine thn (ho pins s1 σ H1 v y u w _ I1 r r1 q1) fun z s2 ⟨zv,H2,I2,r2,q2⟩=>?_
  exact zDZ I2 hN hi hx r2 (fun s3 I3=>⟨_,H2,I3,q2⟩) hf
 rcases l with ⟨hk,hm⟩ | ⟨hk,c,hc,hcell⟩
 ·exact wpAny_loadName_local I.ok.kind hk hn hm go
 ·rcases hk with hk | hk
  ·exact wpAny_loadName_cell I.ok.kind hk hc hcell go
  ·rcases hx with k | k
   ·have:X.env.scope.names.lookup x=some .free:=hk
    rw [k] at this; cases this
   ·have:X.env.scope.names.lookup x=some .free:=hk
    rw [k] at this; cases this
noncomputable def ipI (f:Int->Int->Int):TIp:=fun x y H Q=>∃ i j,x = .int i/\y = .int j/\Q (.int (f i j)) H
theorem zHo:PIp X .Add (ipI fun i j=>i+j):=by
 intro pins s σ H x y v u Q I r1 r2 h
 obtain ⟨i,j,e1,e2,q⟩:=h
 subst e1; subst e2
 obtain ⟨t,rfl⟩:=r1
 obtain ⟨t',rfl⟩:=r2
 exact iadd_int ⟨.int _,H,I.tok _,⟨_,rfl⟩,q⟩
theorem ip_sub:PIp X .Sub (ipI fun i j=>i-j):=by
 intro pins s σ H x y v u Q I r1 r2 h
 obtain ⟨i,j,e1,e2,q⟩:=h
 subst e1; subst e2
 obtain ⟨t,rfl⟩:=r1
 obtain ⟨t',rfl⟩:=r2
 exact isub_int ⟨.int _,H,I.tok _,⟨_,rfl⟩,q⟩
end
section
variable {X:Cx} {pos:Pos}
noncomputable def tWhile (c:TT) (tb:TS):TS:=fun D σ H=>∃ W:Nat->St->Hp->Prop,(∃ m,W m σ H)/\∀ m σ H,W m σ H->
 c σ H fun b H1=>if b=true then ∃ N:St->Hp->Prop,(∀ σ' H',N σ' H'->∃ m',m'<m/\W m' σ' H')/\tb { D with nx:=N,ct:=N,bk:=D.nx } σ H1 else D.nx σ H1
theorem zDe {c:Expr} {body:List Stmt} {tc:TT} {tb:TS} (hp:PassesOwn (model X.prog X.w) X.A X.env X.xe) (hc:PT X c tc) (hb:PSs X body tb):PS X (.While c body [] pos) (tWhile tc tb):=by
 intro pins s σ H D I h
 obtain ⟨W,⟨m0,w0⟩,turn⟩:=h
 refine wpAny_While (codeAny_whileLoop (fun n s'=>∃ σ' H',Inv X pins σ' H' s'/\W n σ' H') ?_ m0 ⟨σ,H,I,w0⟩)
 rintro n s1 ⟨σ1,H1,I1,w1⟩
 refine wpAny_passesOwn hp (thn (hc pins s1 σ1 H1 _ I1 (turn n σ1 H1 w1)) fun b s2 ⟨H2,I2,q2⟩=>?_)
 cases b with
 | true=>
  obtain ⟨N,hN,q2⟩:=q2
  rw [if_pos rfl]
  refine wpAny_passesOwn hp (thn (hb pins s2 σ1 H2 _ I2 q2) fun f s3 q3=>?_)
  cases f with
  | next=>
   obtain ⟨σ3,H3,I3,n3⟩:=q3
   obtain ⟨m',hm,w3⟩:=hN σ3 H3 n3
   exact ⟨m',hm,σ3,H3,I3,w3⟩
  | cont=>
   obtain ⟨σ3,H3,I3,n3⟩:=q3
   obtain ⟨m',hm,w3⟩:=hN σ3 H3 n3
   exact ⟨m',hm,σ3,H3,I3,w3⟩
  | brk=>exact q3
  | ret v=>exact q3
 | false=>
  rw [if_neg Bool.false_ne_true]
  exact wpAny_execs_nil ⟨σ1,H2,I2,q2⟩
end
structure It where
 go:Nat->Hp->Prop
 yld:Nat->Hp->V->Hp->Prop
 stop:Nat->Hp->Prop
def FpOk (X:Cx) (pins:List (Addr×Obj)) (H:Hp) (b:Addr):Prop:=
 H b=none/\b≠X.env.locals/\b∉X.fs/\(b∈X.ex\/X.s_0.heap.objs.size<=b)/\(∀ x c,X.env.cells.lookup x=some c->c≠b)/\∀ p∈X.pn++pins,p.1≠b
theorem Inv.fpOk {X:Cx} {pins:List (Addr×Obj)} {σ:St} {H H':Hp} {s:Shared} {b:Addr} (I:Inv X pins σ H s) (hb:s.heap.objs.size<=b) (hn:H' b=none):FpOk X pins H' b:=by
 refine ⟨hn,Nat.ne_of_gt (Nat.lt_of_lt_of_le I.lt hb),I.nofs hb,.inr (Nat.le_trans I.sz hb),fun x c e z=>?_,fun p hp z=>?_⟩
 ·obtain ⟨v,q⟩:=I.cell x c e
  exact absurd (Nat.lt_of_lt_of_le q.lt (by rw [z]; exact hb)) (Nat.lt_irrefl _)
 ·exact absurd (Nat.lt_of_lt_of_le (Heap.lt_size (I.pin p hp).1) (by rw [z]; exact hb)) (Nat.lt_irrefl _)
structure Turn (P:Program) (w:World) (K:PySem.W.Frag) (tg:Expr) (J:It) (fp:List Addr) (it:Addr) (tn:Nat->Heap->Prop):Prop where
 mem:it∈fp
 obj:∀ i h,tn i h->∀ b∈fp,∃ o,h.get? b=some o/\∀ v,o.data ≠ .cell v
 keep:∀ i h h',tn i h->(∀ b∈fp,∀ o,h.get? b=some o->h'.get? b=some o)->tn i h'
 item:∀ (X:Cx),X.prog=P->X.w=w->X.K=K->X.calm=true->∀ (i:Nat) (pins:List (Addr×Obj)) (s:Shared) (σ:St) (H:Hp) (E:Value->Shared->Prop),Inv X pins σ H s->(∀ b∈fp,FpOk X pins H b)->tn i s.heap->J.go i H->
  wpAny (model P w) X.A (pyNext (.ref it)) (fun r s1=>∃ u,r=some u/\
   wpAny (model P w) X.A (letOwnedTupleGo tg (.ref it) u) (fun _ s2=>∃ x H',Inv X pins σ H' s2/\RelV x u/\J.yld i H x H'/\tn (i+1) s2.heap/\∀ b∈fp,H' b=none) E s1) E s
 done:∀ (X:Cx),X.prog=P->X.w=w->X.K=K->X.calm=true->∀ (i:Nat) (pins:List (Addr×Obj)) (s:Shared) (σ:St) (H:Hp) (E:Value->Shared->Prop),Inv X pins σ H s->(∀ b∈fp,FpOk X pins H b)->tn i s.heap->J.stop i H->
  wpAny (model P w) X.A (pyNext (.ref it)) (fun r s1=>r=none/\Inv X pins σ H s1) E s
 self:∀ (A:Around) (i:Nat) (s:Shared) (Q:Value->Shared->Prop) (E:Value->Shared->Prop),tn i s.heap->Q (.ref it) s->wpAny (model P w) A (pyIter (.ref it)) Q E s
noncomputable abbrev TI:=St->Hp->(It->Hp->Prop)->Prop
def PIE (X:Cx) (pins:List (Addr×Obj)) (σ:St) (tg:Expr) (R:It->Hp->Prop) (itv:Value) (s2:Shared):Prop:=
 ∃ (it:Addr) (fp:List Addr) (tn:Nat->Heap->Prop) (J:It) (H':Hp),itv = .ref it/\Inv X pins σ H' s2/\Turn X.prog X.w X.K tg J fp it tn/\tn 0 s2.heap/\(∀ b∈fp,FpOk X pins H' b)/\R J H'
def PI (X:Cx) (tg iter:Expr) (wi:TI):Prop:=
 ∀ (pins:List (Addr×Obj)) (s:Shared) (σ:St) (H:Hp) (R:It->Hp->Prop),Inv X pins σ H s->wi σ H R->
  wpAny (model X.prog X.w) X.A (eval iter X.env) (fun v s1=>wpAny (model X.prog X.w) X.A (pyIter v) (PIE X pins σ tg R) X.xe s1) X.xe s
theorem zNM {M:Model} {A:Around} {E:Value->Shared->Prop} {s:Shared} {tg:Expr} {it:Addr} {u:Value} {o:Obj} {n:String} {vs:Array Value} {Q:Unit->Shared->Prop} (ho:s.heap.get? it=some o) (hc:o.cls = .type n) (hd:o.data = .fields vs)
    (hn:["enumerate","zip","dict_itemiterator","dict_reverseitemiterator","odict_iterator","itertools.zip_longest","itertools.pairwise"].contains n=false) (hQ:Q () s):wpAny M A (letOwnedTupleGo tg (.ref it) u) Q E s:=by
  unfold letOwnedTupleGo
  cases tg <;> first
    | exact wpAny_pure hQ
    | (cases u <;> first
        | exact wpAny_pure hQ
        | (refine wpAny_bind (wpAny_load ho ?_)
           rw [hc,hd]
           show wpAny M A (if (["enumerate","zip","dict_itemiterator","dict_reverseitemiterator","odict_iterator","itertools.zip_longest","itertools.pairwise"].contains n&&vs[0]? == some (rawInt _))=true then _ else _) Q E s
           rw [if_neg (by intro h; rw [hn,Bool.false_and] at h; cases h)]
           exact wpAny_pure hQ))
noncomputable def Itl (K:PySem.W.Frag) (a:Addr):It:=
 ⟨fun i H=>∃ xs x,SqL K H a xs/\xs[i]? = some x,fun i H x H'=>H'=H/\∀ xs,SqL K H a xs->xs[i]? = some x,fun i H=>∃ xs,SqL K H a xs/\xs.length<=i⟩
noncomputable def Itr (lo:Int) (n:Nat):It:=⟨fun i _=>i<n,fun i H x H'=>H'=H/\x = .int (lo+i),fun i _=>n<=i⟩
theorem zKl {P:Program} {w:World} {K:PySem.W.Frag} {tg:Expr} (a it:Addr):Turn P w K tg (Itl K a) [it] it (fun i h=>h.IsListIter it a i) where
 mem:=by simp
 obj:=fun i h st b hb=>by
  have e:b=it:=by simpa using hb
  subst e
  obtain ⟨o,e,c,d⟩:=st
  exact ⟨o,e,fun v z=>by rw [d] at z; cases z⟩
 keep:=fun i h h' st k=>st.at fun o e=>k it (by simp) o e
 item:=by
  intro X hP hw hK hc i pins s σ H E I hf st hg
  subst hP hw hK
  obtain ⟨xs,x,hq,hx⟩:=hg
  obtain ⟨its,rv,p,hz⟩:=I.list hq
  obtain ⟨u,hu,ru⟩:=rv.get hx
  obtain ⟨f0,f1,f2,f3,f4,f5⟩:=hf it (by simp)
  refine wpAny_pyNext_list_item st p.isList (x:=u) (by simpa using hu) fun h' st' sb=>?_
  have I1:Inv X pins σ H { s with heap:=h' }:=I.turned (t':=s.toks) (fun b o hb e=>(sb.2 b hb).trans e) f0 f1 f3 f4 f5
  obtain ⟨o,e,c,d⟩:=id st'
  exact ⟨u,rfl,zNM (s:={ s with heap:=h' }) e c d (by decide) ⟨x,H,I1,ru,⟨rfl,fun ys hy=>by rw [I.list_inj hy hq]; exact hx⟩,st',fun b hb=>(hf b hb).1⟩⟩
 done:=by
  intro X hP hw hK hc i pins s σ H E I hf st hg
  subst hP hw hK
  obtain ⟨xs,hq,hx⟩:=hg
  obtain ⟨its,rv,p,hz⟩:=I.list hq
  obtain ⟨f0,f1,f2,f3,f4,f5⟩:=hf it (by simp)
  have hl:=rv.length
  exact wpAny_pyNext_list_end (I.ok.hd hc) st p.isList (by simp; omega) fun h' eb=>⟨rfl,I.turned (t':=s.toks) (fun b o hb e=>eb b o hb e) f0 f1 f3 f4 f5⟩
 self:=fun _ _ _ _ _ st h=>wpAny_pyIter_listiter st h
theorem zJv {P:Program} {w:World} {K:PySem.W.Frag} {tg:Expr} (it:Addr) (lo:Int) (n:Nat):Turn P w K tg (Itr lo n) [it] it (fun i h=>IsRangeIter h it (lo+(i:Nat)*1) ((n:Int)-(i:Nat)) 1) where
 mem:=by simp
 obj:=fun i h st b hb=>by
  have e:b=it:=by simpa using hb
  subst e
  exact ⟨_,st,fun v z=>by
   have z':Data.fields _=Data.cell v:=z
   cases z'⟩
 keep:=fun i h h' st k=>k it (by simp) _ st
 item:=by
  intro X hP hw hK hc i pins s σ H E I hf st hg
  subst hP hw hK
  obtain ⟨f0,f1,f2,f3,f4,f5⟩:=hf it (by simp)
  have W:=Walks.range (prog:=X.prog) (w:=X.w) (I.ok.hd hc) it lo 1 n
  refine W.item i s _ _ hg st fun v h' tk hv st' kk=>?_
  obtain ⟨t,rfl⟩:=hv
  have I1:Inv X pins σ H { s with heap:=h',toks:=tk }:=I.turned (fun b o hb e=>kk b o (by simpa using hb) e) f0 f1 f3 f4 f5
  refine ⟨_,rfl,zNM (s:={ s with heap:=h',toks:=tk }) (n:= "range_iterator") st' rfl rfl (by decide) ⟨.int (lo+i),H,I1,⟨t,?_⟩,⟨rfl,rfl⟩,st',fun b hb=>(hf b hb).1⟩⟩
  rw [Int.mul_one]
 done:=by
  intro X hP hw hK hc i pins s σ H E I hf st hg
  subst hP hw hK
  obtain ⟨f0,f1,f2,f3,f4,f5⟩:=hf it (by simp)
  exact wpAny_pyNext_range_end (I.ok.hd hc) st (by have:n<=i:=hg; omega) fun h' eb=>⟨rfl,I.turned (t':=s.toks) (fun b o hb e=>eb b o hb e) f0 f1 f3 f4 f5⟩
 self:=fun _ _ _ _ _ st h=>wpAny_pyIter_rangeiter st h
end L2
namespace L2
open PySem PySem.Spec PyProof.Rows
section
variable {X:Cx} {tg:Expr}
noncomputable def iList (K:PySem.W.Frag) (tl:TE):TI:=fun σ H R=>tl σ H fun x H1=>∃ a,x = .ref a/\(∃ xs,SqL K H1 a xs)/\R (Itl K a) H1
theorem zAR {l:Expr} {tl:TE} (hl:PE X l tl):PI X tg l (iList X.K tl):=by
 intro pins s σ H R I h
 refine thn (hl pins s σ H _ I h) fun v s1 ⟨x,H1,I1,r1,q1⟩=>?_
 obtain ⟨a,e,⟨xs,hq⟩,q⟩:=q1
 subst e
 cases r1
 obtain ⟨its,rv,p,hz⟩:=I1.list hq
 refine wpAny_pyIter_list p.isList ?_
 refine ⟨s1.heap.objs.size,[s1.heap.objs.size],_,_,H1,rfl,I1.kept (t':=s1.toks) fun b o e=>Heap.get?_push_of_some _ e,zKl a _,⟨_,Heap.get?_push_size _ rfl,rfl,rfl⟩,fun b hb=>?_,q⟩
 have e:b=s1.heap.objs.size:=by simpa using hb
 subst e
 exact I1.fpOk (Nat.le_refl _) (I1.hok.fresh (Nat.le_refl _))
theorem zIO {pins:List (Addr×Obj)} {σ:St} {H:Hp} {s:Shared} {R:It->Hp->Prop} {E:Value->Shared->Prop} {lo hi:Int} {t u v:Tok} {tk:Nat} (I:Inv X pins σ H s) (h1 : -(2 ^ 62)<=lo) (h2:lo<2 ^ 62) (h3 : -(2 ^ 62)<=hi) (h4:hi<2 ^ 62)
  (q:R (Itr lo (hi-lo).toNat) H):wpAny (model X.prog X.w) X.A (pyIter (.ref s.heap.objs.size)) (PIE X pins σ tg R) E { s with heap:=s.heap.push { cls:=.type "range",data:=.fields #[.int lo t,.int hi u,.int 1 v] },toks:=tk }:=by
 refine wpAny_pyIter_range (IsRange.new ..) (small_one h1 h2 h3 h4) ?_
 have I1:Inv X pins σ H { s with heap:=s.heap.push { cls:=.type "range",data:=.fields #[.int lo t,.int hi u,.int 1 v] },toks:=tk }:=I.kept fun b o e=>Heap.get?_push_of_some _ e
 refine ⟨(s.heap.push { cls:=.type "range",data:=.fields #[.int lo t,.int hi u,.int 1 v] }).objs.size,[(s.heap.push { cls:=.type "range",data:=.fields #[.int lo t,.int hi u,.int 1 v] }).objs.size],_,_,H,rfl,
  I1.kept (t':=tk) fun b o e=>Heap.get?_push_of_some _ e,zJv _ lo (hi-lo).toNat,?_,fun b hb=>?_,q⟩
 ·have e1:lo+((0:Nat):Int)*1=lo:=by simp
  have e2:(((hi-lo).toNat:Nat):Int)-((0:Nat):Int)=Builtin.Range.rangeSize lo hi 1:=by rw [rangeSize_one]; split <;> omega
  show IsRangeIter _ _ (lo+((0:Nat):Int)*1) ((((hi-lo).toNat:Nat):Int)-((0:Nat):Int)) 1
  rw [e1,e2]
  exact Heap.get?_push_size _ rfl
 ·have e:b=(s.heap.push { cls:=.type "range",data:=.fields #[.int lo t,.int hi u,.int 1 v] }).objs.size:=by simpa using hb
  subst e
  exact I1.fpOk (Nat.le_refl _) (I1.hok.fresh (Nat.le_refl _))
noncomputable def iRng1 (ta:TA):TI:=fun σ H R=>ta σ H fun vs H1=>∃ j:Int,vs=[.int j] /\ -(2 ^ 62)<=j/\j<2 ^ 62/\R (Itr 0 j.toNat) H1
noncomputable def iRng2 (ta:TA):TI:=fun σ H R=>ta σ H fun vs H1=>∃ i j:Int,vs=[.int i,.int j]/\(-(2 ^ 62)<=i/\i<2 ^ 62 /\ -(2 ^ 62)<=j/\j<2 ^ 62)/\R (Itr i (j-i).toNat) H1
theorem zHh {a:Expr} {ta:TA} {p pos:Pos} (hg:Gl X "range") (hm:X.mg "range" = none) (ha:PA X [a] ta) (hs:starEach [a] X.env=[(false,eval a X.env)]:=by rfl):PI X tg (.Call (.Name "range" p) [a] [] pos) (iRng1 ta):=by
 intro pins s σ H R I h
 refine Call_ (zDL I hg hm boot_range (PyProof.Rows.callWith_type1 (thn (ha pos pins s σ H _ I h) fun us s1 ⟨vs,H1,I1,r1,q1⟩=>?_) hs rfl))
 obtain ⟨j,e,q1,q2,q⟩:=q1
 subst e
 cases r1 with
 | cons r rr=>
  cases rr
  obtain ⟨t,rfl⟩:=r
  exact call_range_1 (zIO I1 (by omega) (by omega) q1 q2 (by simpa using q))
theorem zLm {a b:Expr} {ta:TA} {p pos:Pos} (hg:Gl X "range") (hm:X.mg "range" = none) (ha:PA X [a,b] ta) (hs:starEach [a,b] X.env=[(false,eval a X.env),(false,eval b X.env)]:=by rfl) (hs2:starEach [b] X.env=[(false,eval b X.env)]:=by rfl):
  PI X tg (.Call (.Name "range" p) [a,b] [] pos) (iRng2 ta):=by
 intro pins s σ H R I h
 refine Call_ (zDL I hg hm boot_range (PyProof.Rows.callWith_type1 (thn (ha pos pins s σ H _ I h) fun us s1 ⟨vs,H1,I1,r1,q1⟩=>?_) (by rw [hs,hs2]) (by rw [hs2]; rfl)))
 obtain ⟨i,j,e,⟨q1,q2,q3,q4⟩,q⟩:=q1
 subst e
 cases r1 with
 | cons r rr=>
  cases rr with
  | cons r' rr=>
   cases rr
   obtain ⟨t,rfl⟩:=r
   obtain ⟨t',rfl⟩:=r'
   exact call_range_2 (zIO I1 q1 q2 q3 q4 q)
noncomputable def tFor (wi:TI) (g:TG) (tb:TS):TS:=fun D σ H=>wi σ H fun J H1=>∃ W:Nat->Nat->St->Hp->Prop,(∃ m,W 0 m σ H1)/\∀ i m σ H,W i m σ H->
 (J.stop i H/\D.nx σ H)\/(J.go i H/\∃ N:St->Hp->Prop,(∀ σ' H',N σ' H'->∃ m',m'<m/\W (i+1) m' σ' H')/\∀ x H',J.yld i H x H'->g x σ H' fun σ2 H2=>tb { D with nx:=N,ct:=N,bk:=D.nx } σ2 H2)
noncomputable def zHf (fp:List Addr) (h:Heap):List (Addr×Obj):=fp.filterMap fun b=>(h.get? b).map fun o=>(b,o)
theorem zDy {fp:List Addr} {h:Heap} {b:Addr} {o:Obj} (hb:b∈fp) (e:h.get? b=some o):(b,o)∈zHf fp h:=List.mem_filterMap.mpr ⟨b,hb,by rw [e]; rfl⟩
theorem zLJ {fp:List Addr} {h:Heap} {p:Addr×Obj} (hp:p∈zHf fp h):p.1∈fp/\h.get? p.1=some p.2:=by
 obtain ⟨b,hb,e⟩:=List.mem_filterMap.mp hp
 cases q:h.get? b with
 | none=>rw [q] at e; cases e
 | some o=>
  rw [q] at e
  have e':(b,o)=p:=Option.some.inj e
  subst e'
  exact ⟨hb,q⟩
theorem Inv.pinned {pins:List (Addr×Obj)} {σ:St} {H:Hp} {s:Shared} {fp:List Addr} (I:Inv X pins σ H s) (hf:∀ b∈fp,FpOk X pins H b) (ho:∀ b∈fp,∃ o,s.heap.get? b=some o/\∀ v,o.data ≠ .cell v):Inv X (pins++zHf fp s.heap) σ H s:=
 I.pins_of fun p hp=>(List.mem_append.mp hp).elim (fun z=>I.pin p (List.mem_append_right _ z)) fun z=>by
  obtain ⟨hb,e⟩:=zLJ z
  obtain ⟨f0,f1,f2,_⟩:=hf p.1 hb
  obtain ⟨o,e',d⟩:=ho p.1 hb
  rw [e] at e'; cases e'
  exact ⟨e,f0,f1,f2,d⟩
theorem Inv.unpinned {pins pl:List (Addr×Obj)} {σ:St} {H:Hp} {s:Shared} (I:Inv X (pins++pl) σ H s):Inv X pins σ H s:=I.pins_of fun p hp=>I.pin p (List.mem_append_right _ (List.mem_append_left _ hp))
theorem zBb {iter:Expr} {body:List Stmt} {wi:TI} {g:TG} {tb:TS} {pos:Pos} (hp:PassesOwn (model X.prog X.w) X.A X.env X.xe) (hc:X.calm=true) (hi:PI X tg iter wi) (hg:PG X tg g) (hb:PSs X body tb)
  (hs:∀ x,foldedSetIterable iter X.env x=pure x:=by intro _; rfl):PS X (.For tg iter body [] pos) (tFor wi g tb):=by
 intro pins s σ H D I h
 refine wpAny_For (thn (hi pins s σ H _ I h) fun v s1 h1=>thn h1 fun itv s2 h2=>?_) hs
 obtain ⟨it,fp,tn,J,H2,e,I2,T,st2,f2,W,⟨m0,w0⟩,turn⟩:=h2
 subst e
 have stat:∀ {H':Hp},(∀ b∈fp,H' b=none)->∀ b∈fp,FpOk X pins H' b:=fun hn b hb=>⟨hn b hb,(f2 b hb).2⟩
 refine codeAny_forLoop_any (fun n s'=>∃ i σ' H',Inv X pins σ' H' s'/\tn i s'.heap/\(∀ b∈fp,H' b=none)/\W i n σ' H') ?_ m0 ⟨0,σ,H2,I2,st2,fun b hb=>(f2 b hb).1,w0⟩
 rintro n s3 ⟨i,σ3,H3,I3,st3,fr3,w3⟩
 rcases turn i n σ3 H3 w3 with ⟨stop,qn⟩ | ⟨go,N,hN,step⟩
 ·refine wpAny_passesOwn hp (thn (T.done X rfl rfl rfl hc i pins s3 σ3 H3 X.xe I3 (stat fr3) st3 stop) fun r s4 ⟨hr,I4⟩=>?_)
  subst hr
  exact wpAny_execs_nil ⟨σ3,H3,I4,qn⟩
 ·refine wpAny_passesOwn hp (thn (T.item X rfl rfl rfl hc i pins s3 σ3 H3 X.xe I3 (stat fr3) st3 go) fun r s4 ⟨u,hr,h4⟩=>?_)
  subst hr
  refine wpAny_passesOwn hp (thn h4 fun _ s5 ⟨x,H5,I5,r5,y5,st5,fr5⟩=>?_)
  have I5':=I5.pinned (stat fr5) (T.obj _ _ st5)
  refine wpAny_passesOwn hp (thn (hg _ s5 σ3 H5 x u _ I5' r5 (step x H5 y5)) fun _ s6 ⟨σ6,H6,I6,q6⟩=>?_)
  refine wpAny_passesOwn hp (thn (hb _ s6 σ6 H6 _ I6 q6) fun f s7 q7=>?_)
  have again:∀ {σ7:St} {H7:Hp},Inv X (pins++zHf fp s5.heap) σ7 H7 s7->N σ7 H7->∃ m,m<n/\∃ i σ' H',Inv X pins σ' H' s7/\tn i s7.heap/\(∀ b∈fp,H' b=none)/\W i m σ' H':=fun {σ7 H7} I7 n7=>by
   obtain ⟨m',hm,w7⟩:=hN σ7 H7 n7
   refine ⟨m',hm,i+1,σ7,H7,I7.unpinned,T.keep _ _ _ st5 fun b hb o e=>(I7.pin (b,o) (List.mem_append_right _ (List.mem_append_right _ (zDy hb e)))).1,fun b hb=>?_,w7⟩
   obtain ⟨o,e,d⟩:=T.obj _ _ st5 b hb
   exact (I7.pin (b,o) (List.mem_append_right _ (List.mem_append_right _ (zDy hb e)))).2.1
  cases f with
  | next=>obtain ⟨σ7,H7,I7,n7⟩:=q7; exact again I7 n7
  | cont=>obtain ⟨σ7,H7,I7,n7⟩:=q7; exact again I7 n7
  | brk=>obtain ⟨σ7,H7,I7,q7⟩:=q7; exact ⟨σ7,H7,I7.unpinned,q7⟩
  | ret v=>obtain ⟨x7,σ7,H7,I7,r7,q7⟩:=q7; exact ⟨x7,σ7,H7,I7.unpinned,r7,q7⟩
end
theorem zAI {K:PySem.W.Frag} {a:Addr} {xs:List V} {g:TG} {tb:TS} {D:Ends} {σ:St} {H:Hp} (Pv:Nat->St->Hp->Prop) (h0:Pv 0 σ H) (hl:∀ i σ H,i<=xs.length->Pv i σ H->SqL K H a xs)
  (hs:∀ i x σ H,xs[i]? = some x->Pv i σ H->g x σ H fun σ2 H2=>tb { D with nx:=Pv (i+1),ct:=Pv (i+1),bk:=D.nx } σ2 H2) (hd:∀ σ H,Pv xs.length σ H->D.nx σ H):
  ∃ W:Nat->Nat->St->Hp->Prop,(∃ m,W 0 m σ H)/\∀ i m σ H,W i m σ H->
   ((Itl K a).stop i H/\D.nx σ H)\/((Itl K a).go i H/\∃ N:St->Hp->Prop,(∀ σ' H',N σ' H'->∃ m',m'<m/\W (i+1) m' σ' H')/\∀ x H',(Itl K a).yld i H x H'->g x σ H' fun σ2 H2=>tb { D with nx:=N,ct:=N,bk:=D.nx } σ2 H2):=by
 refine ⟨fun i m σ H=>m=xs.length-i/\i<=xs.length/\Pv i σ H,⟨xs.length,by simp,Nat.zero_le _,h0⟩,?_⟩
 rintro i m σ H ⟨rfl,hi,p⟩
 have q:=hl i σ H hi p
 by_cases hlt:i<xs.length
 ·refine .inr ⟨⟨xs,xs[i],q,by simp [hlt]⟩,Pv (i+1),fun σ' H' p'=>⟨xs.length-(i+1),by omega,rfl,hlt,p'⟩,fun x H' y=>?_⟩
  obtain ⟨e,y⟩:=y
  subst e
  exact hs i x σ _ (y xs q) p
 ·have e:i=xs.length:=by omega
  subst e
  exact .inl ⟨⟨xs,q,Nat.le_refl _⟩,hd σ H p⟩
theorem zMr {lo:Int} {n:Nat} {g:TG} {tb:TS} {D:Ends} {σ:St} {H:Hp} (Pv:Nat->St->Hp->Prop) (h0:Pv 0 σ H)
  (hs:∀ i σ H,i<n->Pv i σ H->g (.int (lo+i)) σ H fun σ2 H2=>tb { D with nx:=Pv (i+1),ct:=Pv (i+1),bk:=D.nx } σ2 H2) (hd:∀ σ H,Pv n σ H->D.nx σ H):
  ∃ W:Nat->Nat->St->Hp->Prop,(∃ m,W 0 m σ H)/\∀ i m σ H,W i m σ H->
   ((Itr lo n).stop i H/\D.nx σ H)\/((Itr lo n).go i H/\∃ N:St->Hp->Prop,(∀ σ' H',N σ' H'->∃ m',m'<m/\W (i+1) m' σ' H')/\∀ x H',(Itr lo n).yld i H x H'->g x σ H' fun σ2 H2=>tb { D with nx:=N,ct:=N,bk:=D.nx } σ2 H2):=by
 refine ⟨fun i m σ H=>m=n-i/\i<=n/\Pv i σ H,⟨n,by simp,Nat.zero_le _,h0⟩,?_⟩
 rintro i m σ H ⟨rfl,hi,p⟩
 by_cases hlt:i<n
 ·refine .inr ⟨hlt,Pv (i+1),fun σ' H' p'=>⟨n-(i+1),by omega,rfl,hlt,p'⟩,fun x H' y=>?_⟩
  obtain ⟨e,y⟩:=y
  subst e y
  exact hs i σ _ hlt p
 ·have e:i=n:=by omega
  subst e
  exact .inl ⟨Nat.le_refl _,hd σ H p⟩
end L2
namespace L2
open PySem PySem.Spec PyProof.Rows
noncomputable abbrev R2:=V->V->Hp->VK->Prop
def OpR (X:Cx) (f:Value->Value->Sem Value) (r:R2):Prop:=
 ∀ (pins:List (Addr×Obj)) (s:Shared) (σ:St) (H:Hp) (x y:V) (v u:Value) (Q:VK),Inv X pins σ H s->RelV x v->RelV y u->r x y H Q->
  wpAny (model X.prog X.w) X.A (f v u) (EP X pins σ Q) X.xe s
def UnR (X:Cx) (f:Value->Sem Value) (r:V->Hp->VK->Prop):Prop:=
 ∀ (pins:List (Addr×Obj)) (s:Shared) (σ:St) (H:Hp) (x:V) (v:Value) (Q:VK),Inv X pins σ H s->RelV x v->r x H Q->
  wpAny (model X.prog X.w) X.A (f v) (EP X pins σ Q) X.xe s
def zFe (X:Cx) (f:Value) (r:List V->Hp->VK->Prop):Prop:=
 ∀ (pins:List (Addr×Obj)) (s:Shared) (σ:St) (H:Hp) (xs:List V) (us:List Value) (Q:VK),Inv X pins σ H s->Vals xs us->r xs H Q->
  wpAny (model X.prog X.w) X.A (call f us) (EP X pins σ Q) X.xe s
def TruR (X:Cx) (r:V->Hp->(Bool->Hp->Prop)->Prop):Prop:=
 ∀ (pins:List (Addr×Obj)) (s:Shared) (σ:St) (H:Hp) (x:V) (v:Value) (Q:Bool->Hp->Prop),Inv X pins σ H s->RelV x v->r x H Q->
  wpAny (model X.prog X.w) X.A (truthy v) (TP X pins σ Q) X.xe s
noncomputable def tOp (r:R2) (ta tb:TE):TE:=fun σ H Q=>ta σ H fun x H1=>tb σ H1 fun y H2=>r x y H2 Q
noncomputable def tUn (r:V->Hp->VK->Prop) (ta:TE):TE:=fun σ H Q=>ta σ H fun x H1=>r x H1 Q
noncomputable def rI (C:Int->Int->Prop) (g:Int->Int->V):R2:=fun x y H Q=>∃ i j,x = .int i/\y = .int j/\C i j/\Q (g i j) H
noncomputable def rI0 (g:Int->Int->V):R2:=fun x y H Q=>∃ i j,x = .int i/\y = .int j/\Q (g i j) H
noncomputable def rU (g:Int->V):V->Hp->VK->Prop:=fun x H Q=>∃ i,x = .int i/\Q (g i) H
section
variable {X:Cx} {a b c:Expr} {ta tb tc:TE} {pos:Pos}
theorem binT (ha:PE X a ta) (hb:PE X b tb) {pins:List (Addr×Obj)} {s:Shared} {σ:St} {H:Hp} {R:V->V->Hp->Prop} (I:Inv X pins σ H s)
  (h:ta σ H fun x H1=>tb σ H1 fun y H2=>R x y H2) {Q:Value->Shared->Prop} {f:Value->Value->Sem Value}
  (hf:∀ v u s2 x y H2,Inv X pins σ H2 s2->RelV x v->RelV y u->R x y H2->wpAny (model X.prog X.w) X.A (f v u) Q X.xe s2):
  wpAny (model X.prog X.w) X.A (eval a X.env) (fun v s₁=>wpAny (model X.prog X.w) X.A (eval b X.env) (fun u s₂=>wpAny (model X.prog X.w) X.A (f v u) Q X.xe s₂) X.xe s₁) X.xe s:=by
 refine thn (ha pins s σ H _ I h) fun v s1 ⟨x,H1,I1,r1,q1⟩=>?_
 refine thn (hb pins s1 σ H1 _ I1 q1) fun u s2 ⟨y,H2,I2,r2,q2⟩=>?_
 exact hf v u s2 x y H2 I2 r1 r2 q2
theorem zAs {op:Operator} {r:R2} (ho:OpR X (binaryOp op) r) (ha:PE X a ta) (hb:PE X b tb):PE X (.BinOp a op b pos) (tOp r ta tb):=by
 intro pins s σ H Q I h
 exact wpAny_BinOp (binT ha hb I h fun v u s2 x y H2 I2 rx ry q=>ho pins s2 σ H2 x y v u Q I2 rx ry q)
theorem pe_un {op:UnaryOp} {r:V->Hp->VK->Prop} (ho:UnR X (unaryOp op) r) (ha:PE X a ta):PE X (.UnaryOp op a pos) (tUn r ta):=by
 intro pins s σ H Q I h
 exact UnaryOp_ (thn (ha pins s σ H _ I h) fun v s1 ⟨x,H1,I1,r1,q1⟩=>ho pins s1 σ H1 x v Q I1 r1 q1)
theorem opI {f:Value->Value->Sem Value} {C:Int->Int->Prop} {g:Int->Int->Int}
  (rule:∀ (i j:Int) (t u:Tok) (s:Shared) (Q:Value->Shared->Prop) (E:Value->Shared->Prop),C i j->Q (.int (g i j) s.toks) { s with toks:=s.toks+1 }->wpAny (model X.prog X.w) X.A (f (.int i t) (.int j u)) Q E s):
  OpR X f (rI C fun i j=>.int (g i j)):=by
 intro pins s σ H x y v u Q I rx ry h
 obtain ⟨i,j,rfl,rfl,hc,q⟩:=h
 obtain ⟨t,rfl⟩:=rx
 obtain ⟨t',rfl⟩:=ry
 exact rule i j t t' s _ _ hc ⟨.int (g i j),H,I.tok _,⟨_,rfl⟩,q⟩
theorem opI0 {f:Value->Value->Sem Value} {g:Int->Int->Int}
  (rule:∀ (i j:Int) (t u:Tok) (s:Shared) (Q:Value->Shared->Prop) (E:Value->Shared->Prop),Q (.int (g i j) s.toks) { s with toks:=s.toks+1 }->wpAny (model X.prog X.w) X.A (f (.int i t) (.int j u)) Q E s):
  OpR X f (rI0 fun i j=>.int (g i j)):=by
 intro pins s σ H x y v u Q I rx ry h
 obtain ⟨i,j,rfl,rfl,q⟩:=h
 obtain ⟨t,rfl⟩:=rx
 obtain ⟨t',rfl⟩:=ry
 exact rule i j t t' s _ _ ⟨.int (g i j),H,I.tok _,⟨_,rfl⟩,q⟩
theorem opB0 {f:Value->Value->Sem Value} {g:Int->Int->Bool}
  (rule:∀ (i j:Int) (t u:Tok) (s:Shared) (Q:Value->Shared->Prop) (E:Value->Shared->Prop),Q (.bool (g i j)) s->wpAny (model X.prog X.w) X.A (f (.int i t) (.int j u)) Q E s):
  OpR X f (rI0 fun i j=>.bl (g i j)):=by
 intro pins s σ H x y v u Q I rx ry h
 obtain ⟨i,j,rfl,rfl,q⟩:=h
 obtain ⟨t,rfl⟩:=rx
 obtain ⟨t',rfl⟩:=ry
 exact rule i j t t' s _ _ ⟨.bl (g i j),H,I,rfl,q⟩
def CDiv (i j:Int):Prop:=0<j/\j<1073741824
def CMul (i j:Int):Prop:=(-(2 ^ 64)<i/\i<2 ^ 64)\/(-(2 ^ 64)<j/\j<2 ^ 64)
theorem CMul.ok {i j:Int} (h:CMul i j):IntMulOk i j:=by
 rcases h with ⟨h1,h2⟩ | ⟨h1,h2⟩
 ·exact .of_left (intBits_le_64 h1 h2)
 ·exact .of_right (intBits_le_64 h1 h2)
theorem zBc:OpR X (binaryOp .Add) (rI0 fun i j=>.int (i+j)):=opI0 fun _ _ _ _ _ _ _ q=>add_int q
theorem zBx:OpR X (binaryOp .Sub) (rI0 fun i j=>.int (i-j)):=opI0 fun _ _ _ _ _ _ _ q=>sub_int q
theorem zFm:OpR X (binaryOp .Mult) (rI CMul fun i j=>.int (i*j)):=opI fun _ _ _ _ _ _ _ hc q=>mul_int q hc.ok
theorem op_fdiv:OpR X (binaryOp .FloorDiv) (rI CDiv fun i j=>.int (i / j)):=opI fun i j _ _ _ _ _ hc q=>by
 have h1:(0:Int)<j:=hc.1
 have h2:j<1073741824:=hc.2
 exact floordiv_int (by omega) (by rw [Int.fdiv_eq_ediv_of_nonneg i (by omega)]; exact q) (.inl (PyProof.noPylong_small (by omega)))
theorem op_mod:OpR X (binaryOp .Mod) (rI (fun _ j=>0<j) fun i j=>.int (i % j)):=opI fun i j _ _ _ _ _ hc q=>by
 have h1:(0:Int)<j:=hc
 exact mod_int' (by omega) (by rw [Int.fmod_eq_emod_of_nonneg i (by omega)]; exact q)
theorem unI {f:Value->Sem Value} {g:Int->Int}
  (rule:∀ (i:Int) (t:Tok) (s:Shared) (Q:Value->Shared->Prop) (E:Value->Shared->Prop),Q (.int (g i) s.toks) { s with toks:=s.toks+1 }->wpAny (model X.prog X.w) X.A (f (.int i t)) Q E s):
  UnR X f (rU fun i=>.int (g i)):=by
 intro pins s σ H x v Q I rx h
 obtain ⟨i,rfl,q⟩:=h
 obtain ⟨t,rfl⟩:=rx
 exact rule i t s _ _ ⟨.int (g i),H,I.tok _,⟨_,rfl⟩,q⟩
theorem un_neg:UnR X (unaryOp .USub) (rU fun i=>.int (-i)):=unI fun _ _ _ _ _ q=>neg_int q
end
noncomputable def scal:V->V->Bool
 | .non,.non=>true | .non,.int _=>true | .int _,.non=>true | .non,.bl _=>true | .bl _,.non=>true | .non,.str _=>true | .str _,.non=>true
 | .int _,.int _=>true | .bl _,.bl _=>true | .str _,.str _=>true | .byt _,.byt _=>true
 | .int _,.str _=>true | .str _,.int _=>true | .bl _,.str _=>true | .str _,.bl _=>true
 | _,_=>false
noncomputable def rEq:R2:=fun x y H Q=>scal x y=true/\Q (.bl (decide (x=y))) H
noncomputable def rNe:R2:=fun x y H Q=>scal x y=true/\Q (.bl (!decide (x=y))) H
theorem zBl {i j:Int}:decide (V.int i=V.int j)=(i==j):=by
 rw [Bool.eq_iff_iff]
 simp
theorem dec_bl {i j:Bool}:decide (V.bl i=V.bl j)=(i==j):=by
 rw [Bool.eq_iff_iff]
 simp
theorem zMt {i j:Str}:decide (V.str i=V.str j)=(i==j):=by
 rw [Bool.eq_iff_iff]
 simp
theorem zMu {i j:Array UInt8}:decide (V.byt i=V.byt j)=(i.toList==j.toList):=by
 rw [Bool.eq_iff_iff]
 cases i
 cases j
 simp
section
variable {X:Cx} {a b c:Expr} {ta tb tc:TE} {pos:Pos}
theorem zAw {pins:List (Addr×Obj)} {σ:St} {H:Hp} {s:Shared} {Q:VK} {k k':Bool} (I:Inv X pins σ H s) (q:Q (.bl k) H) (e:k=k'):EP X pins σ Q (.bool k') s:=by
 subst e
 exact ⟨.bl k,H,I,rfl,q⟩
theorem zCD:OpR X (compareOp .Eq) rEq:=by
 intro pins s σ H x y v u Q I rx ry h
 obtain ⟨hs,q⟩:=h
 cases x with
 | non=>
  cases rx
  cases y with
  | non=>cases ry; exact PySem.EqNone.eq_none_none (zAw I q (by simp))
  | bl j=>cases ry; exact PySem.EqNone.eq_none_bool (zAw I q (by simp))
  | int j=>obtain ⟨t',rfl⟩:=ry; exact PySem.EqNone.eq_none_int (zAw I q (by simp))
  | str j=>obtain ⟨t',rfl⟩:=ry; exact PySem.EqNone.eq_none_str (zAw I q (by simp))
  | _=>exact absurd (show false=true from hs) Bool.false_ne_true
 | bl i=>
  cases rx
  cases y with
  | non=>cases ry; exact PySem.EqNone.eq_bool_none (zAw I q (by simp))
  | bl j=>cases ry; exact eq_bool (zAw I q dec_bl)
  | str j=>obtain ⟨t',rfl⟩:=ry; exact PySem.EqMixed.eq_bool_str (zAw I q (by simp))
  | _=>exact absurd (show false=true from hs) Bool.false_ne_true
 | int i=>
  obtain ⟨t,rfl⟩:=rx
  cases y with
  | non=>cases ry; exact PySem.EqNone.eq_int_none (zAw I q (by simp))
  | int j=>obtain ⟨t',rfl⟩:=ry; exact eq_int (zAw I q zBl)
  | str j=>obtain ⟨t',rfl⟩:=ry; exact PySem.EqMixed.eq_int_str (zAw I q (by simp))
  | _=>exact absurd (show false=true from hs) Bool.false_ne_true
 | str i=>
  obtain ⟨t,rfl⟩:=rx
  cases y with
  | non=>cases ry; exact PySem.EqNone.eq_str_none (zAw I q (by simp))
  | bl j=>cases ry; exact PySem.EqMixed.eq_str_bool (zAw I q (by simp))
  | int j=>obtain ⟨t',rfl⟩:=ry; exact PySem.EqMixed.eq_str_int (zAw I q (by simp))
  | str j=>obtain ⟨t',rfl⟩:=ry; exact eq_str (zAw I q zMt)
  | _=>exact absurd (show false=true from hs) Bool.false_ne_true
 | byt i=>
  obtain ⟨t,rfl⟩:=rx
  cases y with
  | byt j=>obtain ⟨t',rfl⟩:=ry; exact PySem.W.eq_bytes (zAw I q zMu)
  | _=>exact absurd (show false=true from hs) Bool.false_ne_true
 | _=>cases y <;> exact absurd (show false=true from hs) Bool.false_ne_true
theorem op_ne:OpR X (compareOp .NotEq) rNe:=by
 intro pins s σ H x y v u Q I rx ry h
 obtain ⟨hs,q⟩:=h
 cases x with
 | non=>
  cases rx
  cases y with
  | non=>cases ry; exact PySem.EqNone.ne_none_none (zAw I q (by simp))
  | bl j=>cases ry; exact PySem.EqNone.ne_none_bool (zAw I q (by simp))
  | int j=>obtain ⟨t',rfl⟩:=ry; exact PySem.EqNone.ne_none_int (zAw I q (by simp))
  | str j=>obtain ⟨t',rfl⟩:=ry; exact PySem.EqNone.ne_none_str (zAw I q (by simp))
  | _=>exact absurd (show false=true from hs) Bool.false_ne_true
 | bl i=>
  cases rx
  cases y with
  | non=>cases ry; exact PySem.EqNone.ne_bool_none (zAw I q (by simp))
  | bl j=>cases ry; exact ne_bool (zAw I q (congrArg not dec_bl))
  | str j=>obtain ⟨t',rfl⟩:=ry; exact PySem.EqMixed.ne_bool_str (zAw I q (by simp))
  | _=>exact absurd (show false=true from hs) Bool.false_ne_true
 | int i=>
  obtain ⟨t,rfl⟩:=rx
  cases y with
  | non=>cases ry; exact PySem.EqNone.ne_int_none (zAw I q (by simp))
  | int j=>obtain ⟨t',rfl⟩:=ry; exact ne_int (zAw I q (congrArg not zBl))
  | str j=>obtain ⟨t',rfl⟩:=ry; exact PySem.EqMixed.ne_int_str (zAw I q (by simp))
  | _=>exact absurd (show false=true from hs) Bool.false_ne_true
 | str i=>
  obtain ⟨t,rfl⟩:=rx
  cases y with
  | non=>cases ry; exact PySem.EqNone.ne_str_none (zAw I q (by simp))
  | bl j=>cases ry; exact PySem.EqMixed.ne_str_bool (zAw I q (by simp))
  | int j=>obtain ⟨t',rfl⟩:=ry; exact PySem.EqMixed.ne_str_int (zAw I q (by simp))
  | str j=>obtain ⟨t',rfl⟩:=ry; exact ne_str (zAw I q (congrArg not zMt))
  | _=>exact absurd (show false=true from hs) Bool.false_ne_true
 | byt i=>
  obtain ⟨t,rfl⟩:=rx
  cases y with
  | byt j=>obtain ⟨t',rfl⟩:=ry; exact PySem.W.ne_bytes (zAw I q (congrArg not zMu))
  | _=>exact absurd (show false=true from hs) Bool.false_ne_true
 | _=>cases y <;> exact absurd (show false=true from hs) Bool.false_ne_true
theorem zCC:OpR X (compareOp .Lt) (rI0 fun i j=>.bl (decide (i<j))):=opB0 fun _ _ _ _ _ _ _ q=>lt_int q
theorem zLt:OpR X (compareOp .LtE) (rI0 fun i j=>.bl (decide (i<=j))):=opB0 fun _ _ _ _ _ _ _ q=>le_int q
theorem zEL:OpR X (compareOp .Gt) (rI0 fun i j=>.bl (decide (j<i))):=opB0 fun _ _ _ _ _ _ _ q=>gt_int q
theorem op_ge:OpR X (compareOp .GtE) (rI0 fun i j=>.bl (decide (j<=i))):=opB0 fun _ _ _ _ _ _ _ q=>ge_int q
theorem zFn:OpR X (compareOp .Is) (fun x y H Q=>y = .non/\Q (.bl (decide (x = .non))) H):=by
 intro pins s σ H x y v u Q I rx ry h
 obtain ⟨rfl,q⟩:=h
 cases ry
 refine is_none_gen (zAw I q ?_)
 cases x <;> first
  | (cases rx; rfl)
  | (obtain ⟨t,rfl⟩:=rx; rfl)
theorem zIj:OpR X (compareOp .IsNot) (fun x y H Q=>y = .non/\Q (.bl (!decide (x = .non))) H):=by
 intro pins s σ H x y v u Q I rx ry h
 obtain ⟨rfl,q⟩:=h
 cases ry
 refine isnot_none_gen (zAw I q ?_)
 cases x <;> first
  | (cases rx; rfl)
  | (obtain ⟨t,rfl⟩:=rx; rfl)
theorem zAe (b:Expr) {op:CmpOp} (h:op ≠ .In:=by decide) (h2:op ≠ .NotIn:=by decide):behindInMarks op b=false:=by
 have e1:(op==CmpOp.In)=false:=by cases op <;> first | rfl | exact absurd rfl h
 have e2:(op==CmpOp.NotIn)=false:=by cases op <;> first | rfl | exact absurd rfl h2
 cases b <;> simp [behindInMarks,e1,e2]
theorem zDw {op:CmpOp} {r:R2} (ho:OpR X (compareOp op) r) (ha:PE X a ta) (hb:PE X b tb) (hm:behindInMarks op b=false):PE X (.Compare a [op] [b] pos) (tOp r ta tb):=by
 intro pins s σ H Q I h
 exact wpAny_Compare1 (binT ha hb I h fun v u s2 x y H2 I2 rx ry q=>ho pins s2 σ H2 x y v u Q I2 rx ry q) hm
noncomputable def zHH (t:TE):TT:=fun σ H Q=>t σ H fun x H'=>∃ k,x = .bl k/\Q k H'
theorem cR {op:CmpOp} {r:R2} (ho:OpR X (compareOp op) r) (ha:PE X a ta) (hb:PE X b tb) (hm:behindInMarks op b=false):PT X (.Compare a [op] [b] pos) (zHH (tOp r ta tb)):=by
 intro pins s σ H Q I h
 refine wpAny_isTrue_Compare1 (thn (ha pins s σ H _ I h) fun v s1 ⟨x,H1,I1,r1,q1⟩=>thn (hb pins s1 σ H1 _ I1 q1) fun u s2 ⟨y,H2,I2,r2,q2⟩=>
  thn (ho pins s2 σ H2 x y v u _ I2 r1 r2 q2) fun c s3 ⟨z,H3,I3,r3,k,e,q3⟩=>?_) hm
 subst e
 cases r3
 exact wpAny_truthy_bool ⟨H3,I3,q3⟩
noncomputable def tChain (r r':R2) (ta tb tc:TE):TE:=fun σ H Q=>ta σ H fun x H1=>tb σ H1 fun y H2=>r x y H2 fun z H3=>∃ k,z = .bl k/\
 (if k=true then tc σ H3 fun w' H4=>r' y w' H4 Q else Q (.bl false) H3)
theorem zIV {op op':CmpOp} {r r':R2} (ho:OpR X (compareOp op) r) (ho':OpR X (compareOp op') r') (ha:PE X a ta) (hb:PE X b tb) (hc:PE X c tc)
  (hm:lastMarks [op,op'] [b,c]=false:=by with_unfolding_all rfl):PE X (.Compare a [op,op'] [b,c] pos) (tChain r r' ta tb tc):=by
 intro pins s σ H Q I h
 refine Compare_chain (thn (ha pins s σ H _ I h) fun v s1 ⟨x,H1,I1,r1,q1⟩=>chain_link (thn (hb pins s1 σ H1 _ I1 q1) fun u s2 ⟨y,H2,I2,r2,q2⟩=>
  thn (ho pins s2 σ H2 x y v u _ I2 r1 r2 q2) fun d s3 ⟨z,H3,I3,r3,k,e,q3⟩=>?_)) hm
 subst e
 cases r3
 refine wpAny_truthy_bool ?_
 cases k with
 | false=>exact ite_ff ⟨.bl false,H3,I3,rfl,q3⟩
 | true=>exact ite_tt (chain_last (thn (hc pins s3 σ H3 _ I3 q3) fun w' s4 ⟨z',H4,I4,r4,q4⟩=>ho' pins s4 σ H4 y z' u w' Q I4 r2 r4 q4))
theorem zNi {op op':CmpOp} {r r':R2} (ho:OpR X (compareOp op) r) (ho':OpR X (compareOp op') r') (ha:PE X a ta) (hb:PE X b tb) (hc:PE X c tc)
  (hm:lastMarks [op,op'] [b,c]=false:=by with_unfolding_all rfl):PT X (.Compare a [op,op'] [b,c] pos) (zHH (tChain r r' ta tb tc)):=by
 intro pins s σ H Q I h
 refine isTrue_chain (thn (ha pins s σ H _ I h) fun v s1 ⟨x,H1,I1,r1,q1⟩=>test_link (thn (hb pins s1 σ H1 _ I1 q1) fun u s2 ⟨y,H2,I2,r2,q2⟩=>
  thn (ho pins s2 σ H2 x y v u _ I2 r1 r2 q2) fun d s3 ⟨z,H3,I3,r3,k,e,q3⟩=>?_)) hm
 subst e
 cases r3
 refine wpAny_truthy_bool ?_
 cases k with
 | false=>
  obtain ⟨k',e',q'⟩:=q3
  cases e'
  exact ite_ff ⟨H3,I3,q'⟩
 | true=>
  refine ite_tt (test_last (thn (hc pins s3 σ H3 _ I3 q3) fun w' s4 ⟨z',H4,I4,r4,q4⟩=>thn (ho' pins s4 σ H4 y z' u w' _ I4 r2 r4 q4) fun d' s5 ⟨z2,H5,I5,r5,k2,e2,q5⟩=>?_))
  subst e2
  cases r5
  exact wpAny_truthy_bool ⟨H5,I5,q5⟩
def TruV (K:PySem.W.Frag) (x:V) (H:Hp) (k:Bool):Prop:=
 match x with
 | .non=>k=false
 | .bl b=>k=b
 | .int i=>k=(i != 0)
 | .str y=>y.length<=sizeLine/\k=((y.length:Int) != 0)
 | .byt y=>y.size<=sizeLine/\k=((y.size:Int) != 0)
 | .ref p=>(∃ xs,SqL K H p xs/\k=!xs.isEmpty)\/(∃ xs,SqT K H p xs/\k=!xs.isEmpty)\/∃ kvs,H p=some (.dK kvs)/\k=!kvs.isEmpty
 | _=>False
theorem zJN {κ:Type} {kvs:List (κ×V)} {vs:List (κ×Value)} (r:KV kvs vs):(!vs.isEmpty)=!kvs.isEmpty:=by
 cases r <;> rfl
theorem zFu {xs:List V} {its:List Value} (r:Vals xs its):(!its.toArray.isEmpty)=!xs.isEmpty:=by
 cases r <;> simp
theorem zJf:(sizeLine:Nat)<2 ^ 63:=by rw [sizeLine_eq]; decide
theorem tru_ok:TruR X (fun x H Q=>∃ k,TruV X.K x H k/\Q k H):=by
 intro pins s σ H x v Q I rx h
 obtain ⟨k,e,q⟩:=h
 have hl:=zJf
 have hs:sizeLine=16777216:=sizeLine_eq
 cases x with
 | non=>
  cases rx
  have e':k=false:=e
  subst e'
  exact truthy_none ⟨H,I,q⟩
 | bl b=>
  cases rx
  have e':k=b:=e
  subst e'
  exact wpAny_truthy_bool ⟨H,I,q⟩
 | int i=>
  obtain ⟨t,rfl⟩:=rx
  have e':k=(i != 0):=e
  subst e'
  exact PySem.P.truthy_int ⟨H,I,q⟩
 | str y=>
  obtain ⟨t,rfl⟩:=rx
  obtain ⟨hy,e'⟩:y.length<=sizeLine/\k=((y.length:Int) != 0):=e
  subst e'
  exact PySem.P.truthy_str (by omega) ⟨H,I.tok _,q⟩
 | byt y=>
  obtain ⟨t,rfl⟩:=rx
  obtain ⟨hy,e'⟩:y.size<=sizeLine/\k=((y.size:Int) != 0):=e
  subst e'
  exact PySem.W.truthy_bytes (by omega) ⟨H,I.tok _,q⟩
 | ref p=>
  cases rx
  have e':(∃ xs,SqL X.K H p xs/\k=!xs.isEmpty)\/(∃ xs,SqT X.K H p xs/\k=!xs.isEmpty)\/∃ kvs,H p=some (.dK kvs)/\k=!kvs.isEmpty:=e
  rcases e' with ⟨xs,hx,e'⟩ | ⟨xs,hx,e'⟩ | ⟨kvs,hx,e'⟩
  ·subst e'
   obtain ⟨its,r,pl,hz⟩:=I.list hx
   have hlen:=r.length
   exact wpAny_truthy_list pl.isList (by simp only [List.size_toArray]; omega) ⟨H,I.tok _,by rw [zFu r]; exact q⟩
  ·subst e'
   obtain ⟨its,r,pl,hz⟩:=I.tuple hx
   have hlen:=r.length
   exact truthy_tuple pl (by simp only [List.size_toArray]; omega) ⟨H,I.tok _,by rw [zFu r]; exact q⟩
  ·subst e'
   obtain ⟨hz,hS,vs,r,m⟩:kvs.length<=sizeLine/\(p==sysModules)=false/\∃ vs,KV kvs vs/\s.heap.DictOf (zAV X.prog X.w) p vs:=I.hok p _ hx
   have hlen:kvs.length=vs.length:=Paired.length r
   exact wpAny_truthy_dict hS m (by omega) ⟨H,I.tok _,by rw [zJN r]; exact q⟩
 | _=>exact (show False from e).elim
theorem zCv (ha:PE X a ta) (he:∀ whole,isTrue a X.env whole=(do let v <- whole; standAt a.pos; holding [v] (truthy v))):
  PT X a (fun σ H Q=>ta σ H fun x H'=>∃ k,TruV X.K x H' k/\Q k H'):=by
 intro pins s σ H Q I h
 exact isTrue_plain (thn (ha pins s σ H _ I h) fun v s1 ⟨x,H1,I1,r1,q1⟩=>tru_ok pins s1 σ H1 x v Q I1 r1 q1) (he _)
theorem zDx:OpR X (binaryOp .Add) (fun x y H Q=>∃ i j,x = .str i/\y = .str j/\i.length+j.length<=sizeLine/\Q (.str (i++j)) H):=by
 intro pins s σ H x y v u Q I rx ry h
 obtain ⟨i,j,rfl,rfl,hz,q⟩:=h
 obtain ⟨t,rfl⟩:=rx
 obtain ⟨t',rfl⟩:=ry
 exact add_str (fun t' tk=>⟨.str (i++j),H,I.tok _,⟨_,rfl⟩,q⟩) hz
theorem zML {x:V} {us:List Value} (r:Vals [x] us):∃ u,us=[u]/\RelV x u:=by
 cases r with
 | cons r1 r2=>cases r2; exact ⟨_,rfl,r1⟩
theorem vals2 {x y:V} {us:List Value} (r:Vals [x,y] us):∃ u w',us=[u,w']/\RelV x u/\RelV y w':=by
 cases r with
 | cons r1 r2=>
  cases r2 with
  | cons r3 r4=>cases r4; exact ⟨_,_,rfl,r1,r3⟩
theorem zMB (hc:X.calm=true):zFe X (.builtin "max") (fun xs H Q=>∃ i j,xs=[.int i,.int j]/\Q (.int (if j>i then j else i)) H):=by
 intro pins s σ H xs us Q I r h
 obtain ⟨i,j,rfl,q⟩:=h
 obtain ⟨u,w',rfl,⟨t,rfl⟩,⟨t',rfl⟩⟩:=vals2 r
 refine max_two_ints (I.ok.hd hc) fun h' tk k=>⟨_,H,I.kept k,?_,q⟩
 by_cases hj:j>i
 ·rw [if_pos hj,if_pos hj]; exact ⟨_,rfl⟩
 ·rw [if_neg hj,if_neg hj]; exact ⟨_,rfl⟩
theorem zDQ:zFe X (.type "str") (fun xs H Q=>∃ i,xs=[.int i]/\i.natAbs.log2<1920/\Q (.str (toString i)) H):=by
 intro pins s σ H xs us Q I r h
 obtain ⟨i,rfl,hz,q⟩:=h
 obtain ⟨u,rfl,t,rfl⟩:=zML r
 exact PySem.P.str_of_int hz ⟨.str _,H,I.tok _,⟨_,rfl⟩,q⟩
theorem zJq:zFe X (.builtin "ord") (fun xs H Q=>∃ x,xs=[.str x]/\x.length=1/\Q (.int (x.cps.getD 0 0:Nat)) H):=by
 intro pins s σ H xs us Q I r h
 obtain ⟨x,rfl,hz,q⟩:=h
 obtain ⟨u,rfl,t,rfl⟩:=zML r
 exact ord_of_one hz ⟨.int _,H,I.tok _,⟨_,rfl⟩,q⟩
end
end L2
namespace L2
open PySem PySem.Spec PyProof.Rows
structure ObjM (h:Heap) (x dx C:Addr) (mA:Str->Option Value):Prop where
 obj:h.get? x=some (PySem.W.instObj C dx)
 ns:h.Ns1 dx mA
 ne:dx≠x
theorem zLO {h:Heap} {dx:Addr} {mA:Str->Option Value} (n:h.Ns1 dx mA):∃ od,h.get? dx=some od/\∀ name,PySem.W.lookIn name od=some (mA name):=by
 obtain ⟨o,es,ep,ho,hd,hk,_,hm⟩:=n
 refine ⟨o,ho,fun name=>?_⟩
 have e:=hm name
 unfold nsFind findBy at e
 rw [<- Array.find?_toList] at e
 unfold PySem.W.lookIn
 rw [hd]
 dsimp only
 split
 ·rename_i y q
  rw [q] at e
  exact congrArg some e
 ·rename_i q
  rw [q] at e
  have a:es.toList.any (·.refKey)=false:=by
   rw [List.any_eq_false]
   intro y hy
   obtain ⟨z,t,hkey⟩:=hk y (Array.mem_toList_iff.mp hy)
   simp [DictEntry.refKey,hkey]
  have a':¬ es.toList.any (·.refKey)=true:=by rw [a]; exact Bool.false_ne_true
  rw [if_neg a']
  exact congrArg some e
theorem ObjM.look {h:Heap} {x dx C:Addr} {mA:Str->Option Value} (I:ObjM h x dx C mA):∃ od,PySem.W.InstAt h x (PySem.W.instObj C dx) C (some od)/\∀ name,PySem.W.lookIn name od=some (mA name):=
 let ⟨od,ho,hl⟩:=zLO I.ns
 ⟨od,⟨I.obj,rfl,rfl,ho⟩,hl⟩
section
variable {prog:Program} {w:World} {A:Around} {E:Value->Shared->Prop} {s:Shared} {K:PySem.W.Frag} {x dx C f:Addr} {mA:Str->Option Value} {name:Str} {v:Value}
theorem get_map {expr:Bool} {Q:Value->Shared->Prop} (X:K.In s.heap) (I:ObjM s.heap x dx C mA) (hg:PySem.W.plainGet K C name=true) (hh:PySem.W.hasDictIn K C=true)
  (ha:PySem.W.findIn K (.ref C) name=some none) (hv:mA name=some v) (hv':PySem.W.handedIn v=true) (h:Q v { s with toks:=s.toks+1 }):
  wpAny (model prog w) A (getAttr (.ref x) name expr) Q E s:=by
 obtain ⟨od,J,hl⟩:=I.look
 exact PySem.W.get_value X J (PySem.W.plainGet_of hg).1 (PySem.W.findObj_own hh ha rfl (by rw [hl,hv])) hv' h
theorem zNN {pl:Sem Bool} {Q:Value×List Value->Shared->Prop} (X:K.In s.heap) (I:ObjM s.heap x dx C mA) (hg:PySem.W.plainGet K C name=true)
  (hf:PySem.W.findIn K (.ref C) name=some (some (.ref f))) (ht:PySem.W.isFn K (.ref f)=true) (hv:mA name=none) (h:Q (.ref f,[.ref x]) s):
  wpAny (model prog w) A (getMethod (.ref x) name pl) Q E s:=by
 obtain ⟨od,J,hl⟩:=I.look
 exact PySem.W.method_fn X J (PySem.W.plainGet_of hg).1 (PySem.W.plainGet_of hg).2 hf (beq_iff_eq.mp ht) (by show (PySem.W.lookIn name od).map (·.isSome)=some false; rw [hl,hv]; rfl) h
theorem set_map {ns:List Str} {Q:Unit->Shared->Prop} (X:K.In s.heap) (I:ObjM s.heap x dx C mA)
  (hs:PySem.W.findIn K (.ref C) "__setattr__" = some (some (.builtin "object.__setattr__"))) (hp:PySem.W.plainOver K C=true) (ht:PySem.W.takerIn K C name=some none) (hh:PySem.W.hasDictIn K C=true)
  (hw:PySem.Within mA ns) (hsz:ns.length<=sizeLine)
  (h:∀ h',ObjM h' x dx C (fun y=>if y=name then some v else mA y)->Heap.SameBut dx s.heap h'->Q () { s with heap:=h',toks:=s.toks+2 }):
  wpAny (model prog w) A (setAttr (.ref x) name v) Q E s:=by
 obtain ⟨od,J,hl⟩:=I.look
 refine PySem.W.set_plain X J hs (PySem.W.osa_open (s:={ s with toks:=s.toks+1 }) (r:=none) X J hp ht fun b=>?_)
 obtain ⟨cd,hc,hd'⟩:=PySem.W.any_some hh
 have hx:s.heap.get? x=some ⟨.ref C,some dx,.plain,#[]⟩:=I.obj
 refine wpAny_bind (wpAny_pure (wpAny_bind (wpAny_bind (wpAny_loadPart hx (wpAny_bind (PySem.W.Looks.here (s:={ s with toks:=s.toks+1 }) (PySem.W.looks_clsIn X hc) ?_))))))
 rw [hd']
 refine wpAny_pure (a:=some dx) (wpAny_bind (wpAny_pure (wpAny_bind ?_)))
 refine wpAny_nsSet1 (s:={ s with toks:=s.toks+1 }) I.ns fun h' hn2 hs2=>?_
 obtain ⟨oD,esD,epD,hoD,hdD,hcD⟩:=hn2.count (PySem.Within.cons name v hw)
 refine wpAny_bind (wpAny_lookBehind hoD (by rw [hdD]; exact pastItsLine_dict (Nat.le_trans hcD (by rw [List.length_cons]; omega))) ?_)
 exact wpAny_pure (h _ ⟨(hs2.2 _ (Ne.symm I.ne)).trans I.obj,hn2,I.ne⟩ hs2)
theorem zNH {R:Result->Shared->Prop} {vs:List Value} {kw:List (Str×Value)} (X:K.In s.heap) (hm:PySem.W.makesIn K C=true)
  (hi:PySem.W.findIn K (.ref C) "__init__" = some (some (.ref f))) (hf:PySem.W.typeIn K (.ref f)=some (.type "function"))
  (h:codeAny (model prog w) (A.under (.builtin "type.__call__" ⟨.ref C::vs,kw⟩)) (.call (.ref f) ⟨.ref (s.heap.objs.size+1)::vs,kw⟩) (PySem.W.InitBack (s.heap.objs.size+1) R)
   { s with heap:=(s.heap.push PySem.W.emptyDict).push (PySem.W.instObj C s.heap.objs.size) }):
  codeAny (model prog w) A (.call (.ref C) ⟨vs,kw⟩) R s:=by
 obtain ⟨hh,g,d,t,os⟩:=s
 exact PySem.W.make_core (PySem.W.makes_of X hm) (PySem.W.looks_findIn X hi) (fun self=>PySem.W.bind_fn X self hf) (.inl rfl) h
end
noncomputable def putF (f:Str) (v:V):List (Str×V)->List (Str×V)
 | []=>[(f,v)]
 | (g,x)::r=>if g=f then (g,v)::r else (g,x)::putF f v r
theorem zAo (f g:Str) (v:V):∀ fs:List (Str×V),(putF f v fs).lookup g=if g=f then some v else fs.lookup g
 | []=>by
  show List.lookup g [(f,v)]=_
  by_cases h:g=f
  ·have hb:(g==f)=true:=beq_iff_eq.mpr h
   simp only [List.lookup,hb,if_pos h]
  ·have hb:(g==f)=false:=beq_eq_false_iff_ne.mpr h
   simp only [List.lookup,hb,if_neg h]
 | (k,x)::r=>by
  have ih:=zAo f g v r
  rw [show putF f v ((k,x)::r)=(if k=f then (k,v)::r else (k,x)::putF f v r) from rfl]
  by_cases hk:k=f
  ·rw [if_pos hk]
   by_cases h:g=k
   ·have hb:(g==k)=true:=beq_iff_eq.mpr h
    simp only [List.lookup,hb,if_pos (h.trans hk)]
   ·have hb:(g==k)=false:=beq_eq_false_iff_ne.mpr h
    simp only [List.lookup,hb,if_neg (fun e:g=f=>h (e.trans hk.symm))]
  ·rw [if_neg hk]
   by_cases h:g=k
   ·have hb:(g==k)=true:=beq_iff_eq.mpr h
    simp only [List.lookup,hb,if_neg (fun e:g=f=>hk (h.symm.trans e))]
   ·have hb:(g==k)=false:=beq_eq_false_iff_ne.mpr h
    simp only [List.lookup,hb]
    exact ih
theorem zEP (f:Str) (v:V):∀ fs:List (Str×V),f∈(putF f v fs).map (·.1)/\∀ g,g∈fs.map (·.1)->g∈(putF f v fs).map (·.1)
 | []=>⟨by simp [putF],fun g h=>by simp at h⟩
 | (k,x)::r=>by
  obtain ⟨i1,i2⟩:=zEP f v r
  rw [show putF f v ((k,x)::r)=(if k=f then (k,v)::r else (k,x)::putF f v r) from rfl]
  by_cases hk:k=f
  ·rw [if_pos hk]
   subst hk
   exact ⟨by simp,fun g h=>by simpa using h⟩
  ·rw [if_neg hk]
   refine ⟨?_,fun g h=>?_⟩
   ·rw [List.map_cons]
    exact List.mem_cons_of_mem _ i1
   ·rw [List.map_cons] at h ⊢
    rcases List.mem_cons.mp h with e | e
    ·exact List.mem_cons.mpr (.inl e)
    ·exact List.mem_cons_of_mem _ (i2 g e)
theorem zEO (f:Str) (v:V):∀ fs:List (Str×V),(putF f v fs).length<=fs.length+1
 | []=>by simp [putF]
 | (k,x)::r=>by
  have ih:=zEO f v r
  rw [show putF f v ((k,x)::r)=(if k=f then (k,v)::r else (k,x)::putF f v r) from rfl]
  by_cases hk:k=f
  ·rw [if_pos hk,List.length_cons,List.length_cons]; omega
  ·rw [if_neg hk,List.length_cons,List.length_cons]; omega
theorem RelO.some_of {v:V} {o:Option Value} (r:RelO (some v) o):∃ u,o=some u/\RelV v u:=by
 cases o with
 | none=>exact (show False from r).elim
 | some u=>exact ⟨u,rfl,r⟩
theorem RelO.none_of {o:Option Value} (r:RelO none o):o=none:=by
 cases o with
 | none=>rfl
 | some u=>exact (show False from r).elim
theorem zMm {v:V} {u:Value} (r:RelV v u):PySem.W.handedIn u=true:=by
 cases v with
 | non=>cases (show u=Value.none from r); rfl
 | bl b=>cases (show u=Value.bool b from r); rfl
 | int i=>obtain ⟨t,e⟩:=(show ∃ t,u=Value.int i t from r); cases e; rfl
 | str x=>obtain ⟨t,e⟩:=(show ∃ t,u=Value.str x t from r); cases e; rfl
 | byt b=>obtain ⟨t,e⟩:=(show ∃ t,u=Value.bytes b t from r); cases e; rfl
 | flt b=>obtain ⟨t,e⟩:=(show ∃ t,u=Value.float b t from r); cases e; rfl
 | ref a=>cases (show u=Value.ref a from r); rfl
 | ty n=>cases (show u=Value.type n from r); rfl
section
variable {P:Program} {w:World} {H H':Hp} {h h':Heap} {a C dx:Addr} {fs fs':List (Str×V)}
theorem zIq (hok:HOk P w H h) (e:H a=some (.ins C dx fs)):∃ mA,ObjM h a dx C mA/\(∀ f,RelO (fs.lookup f) (mA f))/\PySem.Within mA (fs.map (·.1))/\fs.length<=1000/\H dx=some (.own a):=by
 obtain ⟨d,z,ne,ob,mA,n,r,q⟩:=(show zBa P w H h a (.ins C dx fs) from hok a _ e)
 exact ⟨mA,⟨ob,n,ne⟩,r,q,z,d⟩
end
structure Cls (K:PySem.W.Frag) (C:Addr):Prop where
 pg:PySem.W.plainGet K C Str.empty=true
 hd:PySem.W.hasDictIn K C=true
 po:PySem.W.plainOver K C=true
 sa:PySem.W.findIn K (.ref C) "__setattr__" = some (some (.builtin "object.__setattr__"))
theorem Cls.get {K:PySem.W.Frag} {C:Addr} (c:Cls K C) (f:Str):PySem.W.plainGet K C f=true:=c.pg
def zDU (K:PySem.W.Frag) (C:Addr) (f:Str):Prop:=PySem.W.findIn K (.ref C) f=some none
theorem zDU.taker {K:PySem.W.Frag} {C:Addr} {f:Str} (n:zDU K C f):PySem.W.takerIn K C f=some none:=by
 unfold PySem.W.takerIn
 rw [show PySem.W.findIn K (.ref C) f=some none from n]
 rfl
structure Meth (K:PySem.W.Frag) (C:Addr) (m:Str) (f:Addr):Prop where
 at_:PySem.W.findIn K (.ref C) m=some (some (.ref f))
 fn:PySem.W.isFn K (.ref f)=true
 kp:PySem.W.keepIn K (.ref f)=true
section
variable {X:Cx} {pins:List (Addr×Obj)} {σ:St} {H:Hp} {s:Shared} {a C dx:Addr} {fs:List (Str×V)} {f:Str} {v:V} {A:Around} {E:Value->Shared->Prop}
theorem zFw {b:Bool} {Q:Value->Shared->Prop} (I:Inv X pins σ H s) (e:H a=some (.ins C dx fs)) (c:Cls X.K C) (n:zDU X.K C f) (l:fs.lookup f=some v)
  (h:∀ u s',Inv X pins σ H s'->RelV v u->Q u s'):wpAny (model X.prog X.w) A (getAttr (.ref a) f b) Q E s:=by
 obtain ⟨mA,O,r,_,_,_⟩:=zIq I.hok e
 obtain ⟨u,hu,ru⟩:=RelO.some_of (v:=v) (o:=mA f) (by rw [<- l]; exact r f)
 exact get_map I.kIn O (c.get f) c.hd n hu (zMm ru) (h u _ (I.tok _) ru)
theorem zFv {m:Str} {g:Addr} {pl:Sem Bool} {Q:Value×List Value->Shared->Prop} (I:Inv X pins σ H s) (e:H a=some (.ins C dx fs)) (c:Cls X.K C) (k:Meth X.K C m g) (l:fs.lookup m=none)
  (h:Q (.ref g,[.ref a]) s):wpAny (model X.prog X.w) A (getMethod (.ref a) m pl) Q E s:=by
 obtain ⟨mA,O,r,_,_,_⟩:=zIq I.hok e
 have hn:mA m=none:=RelO.none_of (by rw [<- l]; exact r m)
 exact zNN I.kIn O (c.get m) k.at_ k.fn hn h
theorem zFi {y:V} {u:Value} {Q:Unit->Shared->Prop} (I:Inv X pins σ H s) (e:H a=some (.ins C dx fs)) (c:Cls X.K C) (n:zDU X.K C f) (hl:fs.length<1000) (ry:RelV y u)
  (h:∀ s',Inv X pins σ (upd H a (.ins C dx (putF f y fs))) s'->Q () s'):wpAny (model X.prog X.w) A (setAttr (.ref a) f u) Q E s:=by
 obtain ⟨mA,O,r,wi,_,ho⟩:=zIq I.hok e
 have hz:(fs.map (·.1)).length<=sizeLine:=by rw [List.length_map,sizeLine_eq]; omega
 refine set_map I.kIn O c.sa c.po n.taker c.hd wi hz fun h' O' sb=>h _ ?_
 have hd:∃ o,h'.get? dx=some o:=let ⟨o,_,_,e',_⟩:=O'.ns; ⟨o,e'⟩
 refine I.write (x:=a) (e:=dx) (by rw [e]; exact True.intro) (.inr ho) (fun b q hb z=>(sb.2 b hb).trans z) hd ?_
 refine ⟨by rw [uN O.ne]; exact ho,?_,O.ne,O'.obj,_,O'.ns,fun g=>?_,fun g hg=>?_⟩
 ·have:=zEO f y fs; omega
 ·show RelO ((putF f y fs).lookup g) (if g=f then some u else mA g)
  rw [zAo]
  by_cases q:g=f
  ·rw [if_pos q,if_pos q]; exact ry
  ·rw [if_neg q,if_neg q]; exact r g
 ·by_cases q:g=f
  ·rw [q]; exact (zEP f y fs).1
  ·refine (zEP f y fs).2 g (wi g fun z=>hg ?_)
   show (if g=f then some u else mA g)=none
   rw [if_neg q]; exact z
theorem Inv.made (I:Inv X pins σ H s):Inv X pins σ (upd (upd H s.heap.objs.size (.own (s.heap.objs.size+1))) (s.heap.objs.size+1) (.ins C s.heap.objs.size []))
  { s with heap:=(s.heap.push PySem.W.emptyDict).push (PySem.W.instObj C s.heap.objs.size) }:=by
 have e1:(s.heap.push PySem.W.emptyDict).get? s.heap.objs.size=some PySem.W.emptyDict:=Heap.get?_push_size s.heap rfl
 have e2:((s.heap.push PySem.W.emptyDict).push (PySem.W.instObj C s.heap.objs.size)).get? (s.heap.objs.size+1)=some (PySem.W.instObj C s.heap.objs.size):=by
  have:=Heap.get?_push_size (s.heap.push PySem.W.emptyDict) (o:=PySem.W.instObj C s.heap.objs.size) rfl
  rwa [Heap.size_push] at this
 have e3:(s.heap.push PySem.W.emptyDict).Ns s.heap.objs.size (fun _=>none):=⟨PySem.W.emptyDict,#[],_,e1,rfl,(fun e he=>absurd he (by simp)),fun _=>rfl⟩
 have I1:=I.laid (a:=s.heap.objs.size) (o:=.own (s.heap.objs.size+1)) (h':=s.heap.push PySem.W.emptyDict) (t':=s.toks) (fun b u q=>Heap.get?_push_of_some _ q) (Nat.le_refl _) ⟨_,e1⟩
 refine I1.laid (a:=s.heap.objs.size+1) (o:=.ins C s.heap.objs.size []) (t':=s.toks) (fun b u q=>Heap.get?_push_of_some _ q) (Nat.le_of_eq (Heap.size_push _ _)) ?_
 have ne:s.heap.objs.size≠s.heap.objs.size+1:=Nat.ne_of_lt (Nat.lt_succ_self _)
 refine ⟨by rw [uN ne,uS],Nat.zero_le _,ne,e2,fun _=>none,(Heap.Ns1.of_empty e3).at fun o q=>Heap.get?_push_of_some _ q,fun _=>True.intro,fun y hy=>absurd rfl hy⟩
theorem zMD {prog:Program} {w:World} {env:Env} {e:Expr} {f:Str} {pos:Pos} {s:Shared} {Q:Value->Shared->Prop} (hb:attributeBase e f env (eval e env)=eval e env)
  (h:wpAny (model prog w) A (eval e env) (fun o s₁=>wpAny (model prog w) A (getAttr o f true) Q E s₁) E s):wpAny (model prog w) A (eval (.Attribute e f pos) env) Q E s:=
 Attribute_any_ h (by rw [arm_eval_Attribute,hb])
end
noncomputable def tFld (K:PySem.W.Frag) (ta:TE) (f:Str):TE:=fun σ H Q=>ta σ H fun x H1=>∃ a C dx fs v,x = .ref a/\H1 a=some (.ins C dx fs)/\Cls K C/\zDU K C f/\fs.lookup f=some v/\Q v H1
noncomputable def sFld (K:PySem.W.Frag) (ta tv:TE) (f:Str):TS:=fun D σ H=>tv σ H fun y H1=>ta σ H1 fun x H2=>∃ a C dx fs,x = .ref a/\H2 a=some (.ins C dx fs)/\Cls K C/\zDU K C f/\fs.length<1000/\
 D.nx σ (upd H2 a (.ins C dx (putF f y fs)))
def InOp (X:Cx) (op:Operator) (rd:V->V->Hp->VK->Prop):Prop:=
 ∀ (pins:List (Addr×Obj)) (s:Shared) (σ:St) (H:Hp) (x y:V) (u v:Value) (Q:VK),Inv X pins σ H s->RelV x u->RelV y v->rd x y H Q->wpAny (model X.prog X.w) X.A (inplaceOp op u v) (EP X pins σ Q) X.xe s
noncomputable def zKS (K:PySem.W.Frag) (ta tv:TE) (rd:V->V->Hp->VK->Prop) (f:Str):TS:=fun D σ H=>ta σ H fun x H1=>∃ a C dx fs v,x = .ref a/\H1 a=some (.ins C dx fs)/\Cls K C/\zDU K C f/\fs.lookup f=some v/\
 tv σ H1 fun y H2=>rd v y H2 fun z H3=>∃ dx' fs',H3 a=some (.ins C dx' fs')/\fs'.length<1000/\D.nx σ (upd H3 a (.ins C dx' (putF f z fs')))
section
variable {X:Cx} {o e value:Expr} {f:Str} {pos pos' tpos:Pos} {ta tv:TE}
theorem pF (he:PE X e ta) (hb:attributeBase e f X.env (eval e X.env)=eval e X.env):PE X (.Attribute e f pos) (tFld X.K ta f):=by
 intro pins s σ H Q I h
 refine zMD hb (thn (he pins s σ H _ I h) fun u s1 ⟨x,H1,I1,rx,a,C,dx,fs,v,ex,ea,c,n,l,q⟩=>?_)
 subst ex
 obtain rfl:u=Value.ref a:=rx
 exact zFw I1 ea c n l fun u' s2 I2 ru=>⟨v,H1,I2,ru,q⟩
theorem zBt (ha:PE X o ta) (hv:PE X value tv) (hs:swapsWith value (some (.Attribute o f pos')) pos.line X.env=pure false):PS X (.Assign [.Attribute o f pos'] value pos) (sFld X.K ta tv f):=by
 intro pins s σ H D I h
 refine plainObj_wpAny_Assign_Attribute (thn (hv pins s σ H _ I h) fun u s1 ⟨y,H1,I1,ry,q⟩=>thn (ha pins s1 σ H1 _ I1 q) fun ov s2 ⟨x,H2,I2,rx,a,C,dx,fs,ex,ea,c,n,l,q2⟩=>?_) hs
 subst ex
 obtain rfl:ov=Value.ref a:=rx
 exact zFi I2 ea c n l ry fun s3 I3=>⟨σ,_,I3,q2⟩
theorem zEI {op:Operator} {rd:V->V->Hp->VK->Prop} (ha:PE X o ta) (hv:PE X value tv) (hop:InOp X op rd):PS X (.AugAssign (.Attribute o f tpos) op value pos) (zKS X.K ta tv rd f):=by
 intro pins s σ H D I h
 refine wpAny_AugAssign_AttributeAny (thn (ha pins s σ H _ I h) fun ov s1 ⟨x,H1,I1,rx,a,C,dx,fs,v,ex,ea,c,n,l,q⟩=>?_)
 subst ex
 obtain rfl:ov=Value.ref a:=rx
 refine zFw I1 ea c n l fun u s2 I2 ru=>thn (hv pins s2 σ H1 _ I2 q) fun w3 s3 ⟨y,H2,I3,ry,q3⟩=>thn (hop pins s3 σ H2 v y u w3 _ I3 ru ry q3) fun w4 s4 ⟨z,H3,I4,rz,dx',fs',ea',l',q4⟩=>?_
 exact zFi I4 ea' c n l' rz fun s5 I5=>⟨σ,_,I5,q4⟩
noncomputable def rAdd:V->V->Hp->VK->Prop:=fun x y H Q=>∃ i j,x = .int i/\y = .int j/\Q (.int (i+j)) H
theorem zMj:InOp X .Add rAdd:=by
 rintro pins s σ H x y u v Q I rx ry ⟨i,j,rfl,rfl,q⟩
 obtain ⟨t,rfl⟩:=(show ∃ t,u=Value.int i t from rx)
 obtain ⟨t',rfl⟩:=(show ∃ t',v=Value.int j t' from ry)
 exact PyProof.Rows.iadd_int ⟨.int (i+j),H,I.tok _,⟨_,rfl⟩,q⟩
end
end L2
namespace L2
open PySem PySem.Spec PyProof.Rows
structure Room (k:Nat) (A:Around):Prop where
 hd:A.handled=none
 dp:A.depth+3*k+5<recursionLimit
 un:A.units+16*k+200<cLine
theorem Room.mono {j k:Nat} {A:Around} (r:Room k A) (h:j<=k):Room j A:=⟨r.hd,by have:=r.dp; omega,by have:=r.un; omega⟩
theorem Room.deeper {k:Nat} {A:Around} (r:Room (k+1) A) (env:Env):Room k (A.deeper env):=
 ⟨r.hd,by have:=r.dp; show A.depth+1+3*k+5<_; omega,by have:=r.un; show A.units+3+16*k+200<_; omega⟩
theorem zJK {A:Around} {C:Addr} {us:List Value} {kw:List (Str×Value)}:(A.under (.builtin "type.__call__" ⟨.ref C::us,kw⟩)).depth=A.depth+1:=by
 first | rfl | simp [Around.under,Code.weight,Code.isCreation,Code.isGuard,Code.isCaller,Code.frames,Code.isFrame,guardIds]
theorem zJJ {A:Around} {C:Addr} {us:List Value} {kw:List (Str×Value)}:(A.under (.builtin "type.__call__" ⟨.ref C::us,kw⟩)).units=A.units+1:=by
 first | rfl | simp [Around.under,Code.cUnits,Code.frames,Code.isFrame]
theorem Room.make {k:Nat} {A:Around} (r:Room (k+1) A) (C:Addr) (us:List Value) (kw:List (Str×Value)):Room k (A.under (.builtin "type.__call__" ⟨.ref C::us,kw⟩)):=
 ⟨r.hd,by have:=r.dp; rw [zJK]; omega,by have:=r.un; rw [zJJ]; omega⟩
theorem Room.depth {k:Nat} {A:Around} (r:Room k A):A.depth<recursionLimit:=by have:=r.dp; omega
theorem Room.units {k:Nat} {A:Around} (r:Room k A):A.units+64<cLine:=by have:=r.un; omega
noncomputable def tNil:TA:=fun _ H Q=>Q [] H
noncomputable def zBv (ta:TE) (tr:TA):TA:=fun σ H Q=>ta σ H fun x H1=>tr σ H1 fun xs H2=>Q (x::xs) H2
section
variable {X:Cx} {e:Expr} {es:List Expr} {te:TE} {t:TA} {pos:Pos}
theorem pN:PA X [] tNil:=fun _ _ _ _ H Q I h=>Calls.spliced_nil ⟨[],H,I,.nil,h⟩
theorem pA (ha:PE X e te) (hr:PA X es t) (hs:starEach (e::es) X.env=(false,eval e X.env)::starEach es X.env:=by rfl):PA X (e::es) (zBv te t):=by
 intro pos pins s σ H Q I h
 rw [hs]
 show wpAny _ _ (spliced ((false,eval e X.env)::backTo pos (starEach es X.env))) _ _ s
 refine Calls.spliced_cons (thn (ha pins s σ H _ I h) fun u s1 ⟨x,H1,I1,r1,q1⟩=>?_)
 exact thn (hr pos pins s1 σ H1 _ I1 q1) fun us s2 ⟨xs,H2,I2,r2,q2⟩=>⟨x::xs,H2,I2,.cons r1 r2,q2⟩
noncomputable def tTup (t:TA):TE:=fun σ H Q=>t σ H fun xs H1=>xs.length<=sizeLine/\∀ p,H1 p=none->Q (.ref p) (upd H1 p (.tup xs))
noncomputable def tLst (t:TA):TE:=fun σ H Q=>t σ H fun xs H1=>xs.length<=sizeLine/\∀ p,H1 p=none->Q (.ref p) (upd H1 p (.lst xs))
theorem zFl {x1} (h:PA X es t):PE X (.Tuple es x1 pos) (tTup t):=by
 intro pins s σ H Q I hq
 refine wpAny_Tuple_spliced (thn (h pos pins s σ H _ I hq) fun us s1 ⟨xs,H1,I1,r,z,q⟩=>⟨by rw [<- r.length]; exact z,?_⟩)
 have hf:H1 s1.heap.objs.size=none:=I1.hok.fresh (Nat.le_refl _)
 refine ⟨.ref s1.heap.objs.size,upd H1 s1.heap.objs.size (.tup xs),I1.laid (t':=s1.toks) (fun b u e=>Heap.get?_push_of_some _ e) (Nat.le_refl _) ?_,rfl,q _ hf⟩
 exact ⟨z,us,r,⟨_,Heap.get?_push_size _ rfl,rfl,_,rfl⟩⟩
theorem zAd (h:PA X es t):PE X (.List es pos) (tLst t):=by
 intro pins s σ H Q I hq
 refine wpAny_List_spliced (thn (h pos pins s σ H _ I hq) fun us s1 ⟨xs,H1,I1,r,z,q⟩=>⟨by rw [<- r.length]; exact z,?_⟩)
 have hf:H1 s1.heap.objs.size=none:=I1.hok.fresh (Nat.le_refl _)
 refine ⟨.ref s1.heap.objs.size,upd H1 s1.heap.objs.size (.lst xs),I1.laid (t':=s1.toks) (fun b u e=>Heap.get?_push_of_some _ e) (Nat.le_refl _) ?_,rfl,q _ hf⟩
 exact ⟨z,us,0,r,Heap.get?_push_size _ rfl⟩
end
noncomputable abbrev Sp:=List V->Hp->VK->XK->Prop
noncomputable abbrev CXT:=List Env->Hp->Shared->XK->Value->Shared->Prop
structure Env0 (P:Program) (w:World) (K:PySem.W.Frag) (mg:Str->Option Value) (base:Heap) (A:Around) (outer:List Env) (s:Shared) (H:Hp):Prop where
 frames:A.frames=some outer
 mod:Mod K mg base
 bs:∀ b o,base.get? b=some o->s.heap.get? b=some o/\H b=none
 bsz:base.objs.size<=s.heap.objs.size
 funs:s.heap.FunFrames base outer
 frf:∀ b∈frs outer,H b=none
 hok:HOk P w H s.heap
 bare:AllBare s.gens
def CE (outer:List Env) (P:Program) (w:World) (H:Hp) (s:Shared) (Q:VK) (u:Value) (s':Shared):Prop:=
 ∃ v H',s'.os=s.os/\AllBare s'.gens/\Un (frs outer) [] H H' s.heap s'.heap/\HOk P w H' s'.heap/\RelV v u/\Q v H'
def CR (CX:CXT) (outer:List Env) (P:Program) (w:World) (H:Hp) (s:Shared) (Q:VK) (E:XK) (r:Result) (s':Shared):Prop:=
 match r with
 | .ok (.ret u)=>CE outer P w H s Q u s'
 | .ok _=>False
 | .error e=>CX outer H s E e s'
structure FnOk (P:Program) (w:World) (K:PySem.W.Frag) (mg:Str->Option Value) (base:Heap) (CX:CXT) (k:Nat) (f:Addr) (fd:FuncData) (ps:List Str) (sp:Sp):Prop where
 len:∀ vs H Q E,sp vs H Q E->vs.length=ps.length
 run:∀ (A:Around) (outer:List Env) (s:Shared) (H:Hp) (args:Args) (us:List Value) (vs:List V) (Q:VK) (E:XK),Room k A->Env0 P w K mg base A outer s H->BindsTo s fd args (ps.zip us)->Vals vs us->sp vs H Q E->
  codeAny (model P w) A (.call (.ref f) args) (CR CX outer P w H s Q E) s
theorem Env0.make {P:Program} {w:World} {K:PySem.W.Frag} {mg:Str->Option Value} {base:Heap} {A:Around} {outer:List Env} {s:Shared} {H:Hp} (e:Env0 P w K mg base A outer s H) (C:Addr) (us:List Value) (kw:List (Str×Value)):
  Env0 P w K mg base (A.under (.builtin "type.__call__" ⟨.ref C::us,kw⟩)) outer s H:=⟨by first | exact e.frames | (simpa [Around.under,Code.envs,Code.isFrame,pushEnvs] using e.frames),e.mod,e.bs,e.bsz,e.funs,e.frf,e.hok,e.bare⟩
section
variable {X:Cx} {pins:List (Addr×Obj)} {σ:St} {H:Hp} {s s':Shared}
theorem Inv.env0 (I:Inv X pins σ H s):Env0 X.prog X.w X.K X.mg X.base X.A X.stack s H:=
 ⟨I.ok.frames,I.ok.mod,I.bs,Nat.le_trans I.ok.bsz I.sz,I.stack,I.stkFree,I.hok,I.bare⟩
theorem Inv.after {Q:VK} {u:Value} (I:Inv X pins σ H s) (h:CE X.stack X.prog X.w H s Q u s'):EP X pins σ Q u s':=by
 obtain ⟨v,H',os,bare,un,hok,r,q⟩:=h
 obtain ⟨hh,g,d,t,os'⟩:=s'
 obtain rfl:os'=s.os:=os
 exact ⟨v,H',I.call (h':=hh) (g':=g) (d':=d) (t':=t) (ch:=[]) un hok bare (fun b z=>absurd z (by simp)),r,q⟩
end
noncomputable def tCall (sp:Sp) (dvs:List V) (E:XK) (t:TA):TE:=fun σ H Q=>t σ H fun vs H1=>sp (vs++dvs) H1 Q E
noncomputable def zKp (C:Addr) (m:Str) (sp:Sp) (dvs:List V) (E:XK) (ta:TE) (t:TA):TE:=fun σ H Q=>ta σ H fun x H1=>∃ a dx fs,x = .ref a/\H1 a=some (.ins C dx fs)/\fs.lookup m=none/\
 t σ H1 fun vs H2=>sp (x::(vs++dvs)) H2 Q E
noncomputable def zJy (C:Addr) (sp:Sp) (dvs:List V) (E:XK) (t:TA):TE:=fun σ H Q=>t σ H fun vs H1=>∀ x dx,H1 x=none->H1 dx=none->dx≠x->
 sp (.ref x::(vs++dvs)) (upd (upd H1 dx (.own x)) x (.ins C dx [])) (fun v H2=>v = .non/\Q (.ref x) H2) E
def zBG (K:PySem.W.Frag) (fd:FuncData) (ps:List Str) (ds:List Value):Prop:=
 ∀ (s:Shared) (us:List Value),K.In s.heap->(us++ds).length=ps.length->BindsTo s fd ⟨us,[]⟩ (ps.zip (us++ds))
theorem zBG.all {K:PySem.W.Frag} {fd:FuncData} {ps:List Str} (h:∀ us:List Value,us.length=ps.length->bindArgs fd ⟨us,[]⟩=pure (ps.zip us)):zBG K fd ps []:=fun s us _ hl=>by
 rw [List.append_nil] at hl ⊢
 exact .of_eq (h us hl)
def zBL (CX:CXT) (X:Cx) (E:XK):Prop:=∀ (pins:List (Addr×Obj)) (σ:St) (H:Hp) (s:Shared) (e:Value) (s':Shared),Inv X pins σ H s->CX X.stack H s E e s'->X.xe e s'
section
variable {X:Cx} {CX:CXT} {k:Nat} {f C:Addr} {fd:FuncData} {ps:List Str} {sp:Sp} {dvs:List V} {ds:List Value} {E:XK} {x m:Str} {p pos apos:Pos} {e o:Expr} {es:List Expr} {ta:TE} {t:TA}
theorem zLa {pins:List (Addr×Obj)} {σ:St} {H:Hp} {s:Shared} {Q:VK} {us:List Value} {vs:List V} (F:FnOk X.prog X.w X.K X.mg X.base CX k f fd ps sp) (hr:Room k X.A) (hb:zBG X.K fd ps ds) (hd:Vals dvs ds) (hx:zBL CX X E)
  (I:Inv X pins σ H s) (r:Vals vs us) (h:sp (vs++dvs) H Q E):wpAny (model X.prog X.w) X.A (call (.ref f) us) (EP X pins σ Q) X.xe s:=by
 have r2:Vals (vs++dvs) (us++ds):=r.append hd
 have hl:(us++ds).length=ps.length:=by rw [<- r2.length]; exact F.len _ _ _ _ h
 refine wpAny_call (codeAny_mono (F.run X.A X.stack s H ⟨us,[]⟩ (us++ds) (vs++dvs) Q E hr I.env0 (hb s us I.kIn hl) r2 h) fun r s' hq=>?_)
 cases r with
 | error e=>exact hx pins σ H s e s' I hq
 | ok fl=>
  cases fl with
  | ret u=>exact I.after hq
  | next=>exact False.elim hq
  | brk=>exact False.elim hq
  | cont=>exact False.elim hq
theorem pe_call (F:FnOk X.prog X.w X.K X.mg X.base CX k f fd ps sp) (hr:Room k X.A) (hg:Gl X x) (hm:X.mg x=some (.ref f)) (hk:PySem.W.keepIn X.K (.ref f)=true) (hb:zBG X.K fd ps ds) (hd:Vals dvs ds) (hx:zBL CX X E)
  (ha:PA X (e::es) t) (hdb:(x==("__debug__" : Str))=false:=by decide) (he:starEach (e::es) X.env=(false,eval e X.env)::starEach es X.env:=by rfl) (hpl:(backTo pos (starEach es X.env)).any (·.1)=false:=by rfl):
  PE X (.Call (.Name x p) (e::es) [] pos) (tCall sp dvs E t):=by
 intro pins s σ H Q I h
 refine wpAny_Call_Name_kw (zCR I hg hm ?_ hdb)
 refine PySem.W.callWith_K (h₀:=X.base) I.ok.mod.kin hk (thn (ha pos pins s σ H _ I h) fun us s1 ⟨vs,H1,I1,r,q⟩=>⟨I1.kIn,?_⟩) he hpl
 exact zLa F hr hb hd hx I1 r q
theorem pe_meth {pl:Sem Bool} (he:PE X o ta) (c:Cls X.K C) (hm:Meth X.K C m f) (F:FnOk X.prog X.w X.K X.mg X.base CX k f fd ps sp) (hr:Room k X.A) (hb:zBG X.K fd ps ds) (hd:Vals dvs ds) (hx:zBL CX X E) (ha:PA X (e::es) t)
  (hst:starEach (e::es) X.env=(false,eval e X.env)::starEach es X.env:=by rfl) (hpl:(backTo pos (starEach es X.env)).any (·.1)=false:=by rfl)
  (ht:eval (.Call (.Attribute o m apos) (e::es) [] pos) X.env=(do
   let ov <- eval o X.env
   standAt apos.atName
   let (f,first) <- holding [ov] (getMethod ov m pl)
   callWith pos f first (backTo pos (starEach (e::es) X.env)) (backToKw pos (keywordEach [] X.env))):=by rfl):
  PE X (.Call (.Attribute o m apos) (e::es) [] pos) (zKp C m sp dvs E ta t):=by
 intro pins s σ H Q I h
 refine PySem.W.methodCall_KW (pl:=pl) (thn (he pins s σ H _ I h) fun u s1 ⟨x,H1,I1,rx,a,dx,fs,ex,ea,l,q⟩=>?_) ht
 subst ex
 obtain rfl:u=Value.ref a:=rx
 refine zFv I1 ea c hm l ?_
 refine PySem.W.callWith_K (first:=[.ref a]) (h₀:=X.base) I.ok.mod.kin hm.kp (thn (ha pos pins s1 σ H1 _ I1 q) fun us s2 ⟨vs,H2,I2,r,q2⟩=>⟨I2.kIn,?_⟩) hst hpl
 exact zLa (us:=.ref a::us) (vs:=.ref a::vs) F hr hb hd hx I2 (.cons rfl r) q2
theorem zNm {pl:Sem Bool} (he:PE X o ta) (c:Cls X.K C) (hm:Meth X.K C m f) (F:FnOk X.prog X.w X.K X.mg X.base CX k f fd ps sp) (hr:Room k X.A) (hb:zBG X.K fd ps ds) (hd:Vals dvs ds) (hx:zBL CX X E)
  (ht:eval (.Call (.Attribute o m apos) [] [] pos) X.env=(do
   let ov <- eval o X.env
   standAt apos.atName
   let (f,first) <- holding [ov] (getMethod ov m pl)
   callWith pos f first (backTo pos (starEach [] X.env)) (backToKw pos (keywordEach [] X.env))):=by rfl):
  PE X (.Call (.Attribute o m apos) [] [] pos) (zKp C m sp dvs E ta tNil):=by
 intro pins s σ H Q I h
 refine PySem.W.methodCall_KW (pl:=pl) (thn (he pins s σ H _ I h) fun u s1 ⟨x,H1,I1,rx,a,dx,fs,ex,ea,l,q⟩=>?_) ht
 subst ex
 obtain rfl:u=Value.ref a:=rx
 refine zFv I1 ea c hm l ?_
 exact PySem.W.callWith_K0 (first:=[.ref a]) I1.kIn hm.kp (zLa (us:=[.ref a]) (vs:=[.ref a]) F hr hb hd hx I1 (.cons rfl .nil) q)
structure Mk (K:PySem.W.Frag) (C f:Addr):Prop where
 makes:PySem.W.makesIn K C=true
 init:PySem.W.findIn K (.ref C) "__init__" = some (some (.ref f))
 fn:PySem.W.isFn K (.ref f)=true
 kp:PySem.W.keepIn K (.ref C)=true
theorem zIL {pins:List (Addr×Obj)} {σ:St} {H:Hp} {s:Shared} {Q:VK} {us:List Value} {vs:List V} (M:Mk X.K C f) (F:FnOk X.prog X.w X.K X.mg X.base CX k f fd ps sp) (hr:Room (k+1) X.A) (hb:zBG X.K fd ps ds) (hd:Vals dvs ds)
  (hx:zBL CX X E) (I:Inv X pins σ H s) (r:Vals vs us)
  (h:∀ x dx,H x=none->H dx=none->dx≠x->sp (.ref x::(vs++dvs)) (upd (upd H dx (.own x)) x (.ins C dx [])) (fun v H2=>v = .non/\Q (.ref x) H2) E):
  wpAny (model X.prog X.w) X.A (call (.ref C) us) (EP X pins σ Q) X.xe s:=by
 have hq:=h (s.heap.objs.size+1) s.heap.objs.size (I.hok.fresh (Nat.le_succ _)) (I.hok.fresh (Nat.le_refl _)) (Nat.ne_of_lt (Nat.lt_succ_self _))
 have I2:=Inv.made (C:=C) I
 have r2:Vals (V.ref (s.heap.objs.size+1)::(vs++dvs)) (Value.ref (s.heap.objs.size+1)::(us++ds)):=.cons rfl (r.append hd)
 have hl:(Value.ref (s.heap.objs.size+1)::us++ds).length=ps.length:=by
  have e:=r2.length
  rw [F.len _ _ _ _ hq] at e
  exact e.symm
 refine wpAny_call (zNH (f:=f) I.kIn M.makes M.init (beq_iff_eq.mp M.fn) (codeAny_mono (F.run _ X.stack _ _ ⟨Value.ref (s.heap.objs.size+1)::us,[]⟩ (Value.ref (s.heap.objs.size+1)::(us++ds)) _ _ E (hr.make C us [])
  (I2.env0.make C us []) (hb _ (Value.ref (s.heap.objs.size+1)::us) I2.kIn hl) r2 hq) fun r s' hq'=>?_))
 cases r with
 | error e=>exact hx pins σ _ _ e s' I2 hq'
 | ok fl=>
  cases fl with
  | ret u=>
   obtain ⟨v,H',I3,rv,ev,q3⟩:=I2.after hq'
   subst ev
   exact ⟨rv,⟨V.ref (s.heap.objs.size+1),H',I3,rfl,q3⟩⟩
  | next=>exact False.elim hq'
  | brk=>exact False.elim hq'
  | cont=>exact False.elim hq'
theorem pe_make (M:Mk X.K C f) (F:FnOk X.prog X.w X.K X.mg X.base CX k f fd ps sp) (hr:Room (k+1) X.A) (hg:Gl X x) (hm:X.mg x=some (.ref C)) (hb:zBG X.K fd ps ds) (hd:Vals dvs ds) (hx:zBL CX X E)
  (ha:PA X (e::es) t) (hdb:(x==("__debug__" : Str))=false:=by decide) (he:starEach (e::es) X.env=(false,eval e X.env)::starEach es X.env:=by rfl) (hpl:(backTo pos (starEach es X.env)).any (·.1)=false:=by rfl):
  PE X (.Call (.Name x p) (e::es) [] pos) (zJy C sp dvs E t):=by
 intro pins s σ H Q I h
 refine wpAny_Call_Name_kw (zCR I hg hm ?_ hdb)
 refine PySem.W.callWith_K (h₀:=X.base) I.ok.mod.kin M.kp (thn (ha pos pins s σ H _ I h) fun us s1 ⟨vs,H1,I1,r,q⟩=>⟨I1.kIn,?_⟩) he hpl
 exact zIL M F hr hb hd hx I1 r q
theorem zNn (M:Mk X.K C f) (F:FnOk X.prog X.w X.K X.mg X.base CX k f fd ps sp) (hr:Room (k+1) X.A) (hg:Gl X x) (hm:X.mg x=some (.ref C)) (hb:zBG X.K fd ps ds) (hd:Vals dvs ds) (hx:zBL CX X E)
  (hdb:(x==("__debug__" : Str))=false:=by decide):PE X (.Call (.Name x p) [] [] pos) (zJy C sp dvs E tNil):=by
 intro pins s σ H Q I h
 refine wpAny_Call_Name_kw (zCR I hg hm ?_ hdb)
 exact PySem.W.callWith_K0 I.kIn M.kp (zIL (us:=[]) M F hr hb hd hx I .nil h)
end
structure zAc (N P:List Str) (sc:Scope):Prop where
 kind:sc.kind = .function
 co:sc.isCoroutine=false
 gen:sc.isGenerator=false
 nd:N.Nodup
 pre:N.take P.length=P
 par:∀ x∈P,sc.names.lookup x=some .local\/sc.names.lookup x=some .cell
 nofree:∀ y∈sc.names,y.2 ≠ .free
theorem zHz {kindOf:Str->Option NameKind} {x:Str}:∀ {binds:List (Str×Value)} {m:Str->Option Value},(∀ v,(x,v)∉binds)->bindL kindOf binds m x=m x
 | [],_,_=>rfl
 | (n,v)::r,m,h=>by
  unfold bindL
  rw [zHz fun w hw=>h w (List.mem_cons_of_mem _ hw)]
  split
  ·have:x≠n:=by rintro rfl; exact h v List.mem_cons_self
   simp [this]
  ·rfl
theorem zHB {kindOf:Str->Option NameKind} {x:Str}:∀ {binds:List (Str×Value)} {m:Str->Option Value},(∀ v,(x,v)∉binds)->bindC kindOf binds m x=m x
 | [],_,_=>rfl
 | (n,v)::r,m,h=>by
  unfold bindC
  rw [zHB fun w hw=>h w (List.mem_cons_of_mem _ hw)]
  split
  ·rfl
  ·have:x≠n:=by rintro rfl; exact h v List.mem_cons_self
   simp [this]
theorem zHA {kindOf:Str->Option NameKind} {x:Str} {v:Value}:∀ {P:List Str} {vs:List Value} {i:Nat} {m:Str->Option Value},P.Nodup->P[i]? = some x->vs[i]? = some v->kindOf x=some .local->
  bindL kindOf (P.zip vs) m x=some v
 | [],_,_,_,_,h,_,_=>by simp at h
 | _::_,[],_,_,_,_,h,_=>by simp at h
 | p::P,w::vs,0,m,nd,h1,h2,hk=>by
  simp at h1 h2; subst h1; subst h2
  show bindL kindOf ((p,w)::P.zip vs) m p=_
  unfold bindL
  rw [zHz fun v hv=>(List.nodup_cons.mp nd).1 (List.of_mem_zip hv).1,if_pos hk]
  simp
 | p::P,w::vs,i+1,m,nd,h1,h2,hk=>by
  show bindL kindOf ((p,w)::P.zip vs) m x=_
  unfold bindL
  exact zHA (i:=i) (List.nodup_cons.mp nd).2 (by simpa using h1) (by simpa using h2) hk
theorem zHC {kindOf:Str->Option NameKind} {x:Str} {v:Value}:∀ {P:List Str} {vs:List Value} {i:Nat} {m:Str->Option Value},P.Nodup->P[i]? = some x->vs[i]? = some v->kindOf x≠some .local->
  bindC kindOf (P.zip vs) m x=some v
 | [],_,_,_,_,h,_,_=>by simp at h
 | _::_,[],_,_,_,_,h,_=>by simp at h
 | p::P,w::vs,0,m,nd,h1,h2,hk=>by
  simp at h1 h2; subst h1; subst h2
  show bindC kindOf ((p,w)::P.zip vs) m p=_
  unfold bindC
  rw [zHB fun v hv=>(List.nodup_cons.mp nd).1 (List.of_mem_zip hv).1,if_neg hk]
  simp
 | p::P,w::vs,i+1,m,nd,h1,h2,hk=>by
  show bindC kindOf ((p,w)::P.zip vs) m x=_
  unfold bindC
  exact zHC (i:=i) (List.nodup_cons.mp nd).2 (by simpa using h1) (by simpa using h2) hk
noncomputable def start (N:List Str) (vs:List V):St:=vs.map some++List.replicate (N.length-vs.length) none
noncomputable def cxOf (CX:CXT) (P:Program) (w:World) (K:PySem.W.Frag) (mg:Str->Option Value) (base:Heap) (N:List Str) (qual:Str) (scope:Scope) (f:Addr) (cd:Value) (A:Around) (outer:List Env) (s:Shared) (H:Hp) (E:XK):Cx where
 prog:=P
 w:=w
 K:=K
 mg:=mg
 base:=base
 A:=A.deeper (envOfC qual scope s.heap.objs.size f cd)
 N:=N
 s_0:=s
 H_0:=H
 env:=envOfC qual scope s.heap.objs.size f cd
 outer:=outer
 stack:=envOfC qual scope s.heap.objs.size f cd::outer
 ex:=[]
 calm:=true
 fn:=fun _=>true
 pn:=[]
 xe:=fun e s'=>wpAny (model P w) (A.deeper (envOfC qual scope s.heap.objs.size f cd)) (leaving (envOfC qual scope s.heap.objs.size f cd) e) (fun _ s''=>CX outer H s E e s'') (fun e' s''=>CX outer H s E e' s'') s'
theorem zJp {sc:Scope} {n:Nat} {x:Str} (h:sc.names.lookup x=some .cell):∃ c,(cellsFrom n sc.names []).lookup x=some c:=by
 have q:=PySem.W.cellsFrom_some sc.names n [] (.inl h)
 exact Option.isSome_iff_exists.mp q
theorem zHp {CX:CXT} {P:Program} {w:World} {K:PySem.W.Frag} {mg:Str->Option Value} {base:Heap} {N ps:List Str} {qual:Str} {scope:Scope} {f:Addr} {cd:Value} {A:Around} {outer:List Env} {s s1:Shared} {H:Hp} {E:XK} {us:List Value} {vs:List V}
  (S:zAc N ps scope) (hd:A.handled=none) (e0:Env0 P w K mg base A outer s H) (hl:vs.length=ps.length) (r:Vals vs us)
  (x:InCallC s s.heap.objs.size (bindL (envOfC qual scope s.heap.objs.size f cd).kindOf (ps.zip us) fun _=>none) (cellsFrom (s.heap.objs.size+1) scope.names []) (bindC (envOfC qual scope s.heap.objs.size f cd).kindOf (ps.zip us) fun _=>none) s1):
  Inv (cxOf CX P w K mg base N qual scope f cd A outer s H E) [] (start N vs) H s1:=by
 have hpl:ps.length<=N.length:=by have:=congrArg List.length S.pre; rw [List.length_take] at this; omega
 obtain ⟨h1,tk,rfl,hk⟩:=x.done
 have noA:∀ b:Addr,b∉(cxOf CX P w K mg base N qual scope f cd A outer s H E).ex:=fun b z=>absurd (show b∈([]:List Addr) from z) (by simp)
 refine ⟨⟨e0.mod,S.kind,rfl,rfl,Nat.le_refl _,fun y z c h1 h2=>?_,fun y hy=>?_,fun y c _ h=>?_,fun _=>hd,Around.frames_deeper e0.frames,.inr ⟨rfl,rfl⟩,fun b z=>absurd z (noA b),e0.bs,e0.bsz,fun b _ _=>noA b,fun b z=>absurd z (noA b),e0.funs,e0.frf⟩,
  rfl,e0.bare,Un.kept hk,⟨_,x.toInCall.ns,fun i y v h1 h2 h3=>?_⟩,fun y c h=>⟨_,x.cell y c h⟩,e0.hok.fresh (Nat.le_refl _),fun y c h=>?_,fun p hp=>absurd (show p∈([]:List (Addr×Obj)) from hp) (by simp),e0.hok.kept hk,?_⟩
 ·exact name_of_addr x.apart (PySem.mem_of_lookup h1) (PySem.mem_of_lookup h2)
 ·have hy:scope.names.lookup y=some .cell\/scope.names.lookup y=some .free:=hy
  rcases hy with hy | hy
  ·exact zJp hy
  ·exact absurd rfl (S.nofree _ (PySem.mem_of_lookup hy))
 ·exact Nat.le_of_lt (x.above y c (PySem.mem_of_lookup h))
 ·have hi:i<vs.length:=by
   unfold start at h2
   by_cases hi:i<vs.length
   ·exact hi
   ·rw [List.getElem?_append_right (by simpa using hi)] at h2
    rw [List.getElem?_replicate] at h2
    split at h2 <;> cases h2
  have ha:vs[i]? = some v:=by
   unfold start at h2
   rw [List.getElem?_append_left (by simpa using hi),List.getElem?_map] at h2
   cases e:vs[i]? with
   | none=>rw [e] at h2; cases h2
   | some a=>rw [e] at h2; cases h2; rfl
  obtain ⟨u,hu,rv⟩:=r.get ha
  have hp:ps[i]? = some y:=by
   rw [<- S.pre,List.getElem?_take_of_lt (by omega)]; exact h1
  have ndP:ps.Nodup:=by rw [<- S.pre]; exact S.nd.sublist (List.take_sublist _ _)
  refine ⟨u,rv,?_⟩
  rcases S.par y (List.mem_of_getElem? hp) with k | k
  ·exact .inl ⟨k,zHA ndP hp hu k⟩
  ·obtain ⟨c,e⟩:=zJp (n:=s.heap.objs.size+1) k
   refine .inr ⟨.inl k,c,e,?_⟩
   have q:=x.cell y c e
   rw [zHC ndP hp hu (by show scope.names.lookup y≠_; rw [k]; decide)] at q
   exact q
 ·exact e0.hok.fresh (Nat.le_of_lt (x.above y c (PySem.mem_of_lookup h)))
 ·unfold start
  show _=N.length
  rw [List.length_append,List.length_map,List.length_replicate]
  omega
theorem fn_of {CX:CXT} {P:Program} {w:World} {K:PySem.W.Frag} {mg:Str->Option Value} {base:Heap} {k:Nat} {f:Addr} {name qual:Str} {params:Arguments} {body:List Stmt} {scope:Scope} {dV kV doc pm cdv ct oc:Value} {an od:Option Addr}
  {osl:Array (Option Value)} {N ps:List Str} {sp:Sp} (lk:K.lookup f=some ⟨oc,od,.func (PySem.W.fnOf name qual params body scope dV kV doc pm an cdv ct),osl⟩) (hcd:PySem.W.codeIn K cdv qual=true) (S:zAc N ps scope)
  (len:∀ vs H Q E,sp vs H Q E->vs.length=ps.length)
  (hbody:∀ (A:Around) (outer:List Env) (s:Shared) (H:Hp) (vs:List V) (Q:VK) (E:XK),Room k (A.deeper (envOfC qual scope s.heap.objs.size f cdv))->sp vs H Q E->
   ∃ t,PSs (cxOf CX P w K mg base N qual scope f cdv A outer s H E) body t/\t { nx:=fun _ H'=>Q .non H',rt:=Q } (start N vs) H):
  FnOk P w K mg base CX (k+1) f (PySem.W.fnOf name qual params body scope dV kV doc pm an cdv ct) ps sp:=by
 refine ⟨len,fun A outer s H args us vs Q E hr e0 hb r hsp=>?_⟩
 have hl:=len _ _ _ _ hsp
 have KX:K.In s.heap:=e0.mod.kin.keeps fun b o e=>(e0.bs b o e).1
 have lim:s.heap.NoLimit:=e0.mod.nolimit.keeps fun b o e=>(e0.bs b o e).1
 have hkind:∀ y∈ps.zip us,scope.names.lookup y.1=some .local\/(scope.names.lookup y.1=some .cell/\((cellsFrom (s.heap.objs.size+1) scope.names []).lookup y.1).isSome=true):=fun ⟨n,v⟩ hy=>by
  rcases S.par n (List.of_mem_zip hy).1 with q | q
  ·exact .inl q
  ·exact .inr ⟨q,PySem.W.cellsFrom_some _ _ _ (.inl q)⟩
 refine codeAny_call_function hr.depth (KX _ _ lk) rfl S.co S.gen rfl (PySem.W.codeRec_of KX hcd) (hb _ _ _ _ ?_)
 refine wpAny_newFunctionEnv_cells S.kind hkind fun env he s1 x=>?_
 subst he
 refine ⟨lim.keeps x.toInCall.keep,codeAny_func ?_⟩
 obtain ⟨t,ht,hq⟩:=hbody A outer s H vs Q E (hr.deeper _) hsp
 have I:Inv (cxOf CX P w K mg base N qual scope f cdv A outer s H E) [] (start N vs) H s1:=zHp S hr.hd e0 hl r x
 refine wpAny_mono (ht [] s1 (start N vs) H _ I hq) (fun fl s' hs=>?_) fun e s' hs=>hs
 have fin:∀ {σ':St} {H':Hp} {v:V} {u:Value},Inv (cxOf CX P w K mg base N qual scope f cdv A outer s H E) [] σ' H' s'->RelV v u->Q v H'->CE outer P w H s Q u s':=
  fun {σ' H' v u} J rv q=>⟨v,H',J.os,J.bare,J.base,J.hok,rv,q⟩
 cases fl with
 | ret u=>
  obtain ⟨v,σ',H',J,rv,q⟩:=hs
  exact fin J rv q
 | next=>
  obtain ⟨σ',H',J,q⟩:=hs
  exact fin (v:=V.non) (u:=Value.none) J rfl q
 | brk=>
  obtain ⟨_,_,_,q⟩:=hs
  exact False.elim q
 | cont=>
  obtain ⟨_,_,_,q⟩:=hs
  exact False.elim q
end L2
namespace L2
open PySem PySem.Spec PyProof.Rows
section
variable {X:Cx} {x:Str} {p pos:Pos} {e:Expr} {es:List Expr} {t:TA} {id T:String} {r:List V->Hp->VK->Prop}
noncomputable def tCB (r:List V->Hp->VK->Prop) (t:TA):TE:=fun σ H Q=>t σ H fun vs H1=>r vs H1 Q
theorem zAt (hc:zFe X (.builtin id) r) (hg:Gl X x) (hm:X.mg x=none) (hv:bootBuiltins x=some (.builtin id)) (ha:PA X (e::es) t) (hn:x≠ "__name__" := by decide) (hdb:(x==("__debug__" : Str))=false:=by decide)
  (he:starEach (e::es) X.env=(false,eval e X.env)::starEach es X.env:=by rfl) (hpl:(backTo pos (starEach es X.env)).any (·.1)=false:=by rfl):PE X (.Call (.Name x p) (e::es) [] pos) (tCB r t):=by
 intro pins s σ H Q I h
 refine wpAny_Call_Name_kw (zDL I hg hm hv ?_ hn hdb)
 exact PyProof.Rows.callWith_builtin1 (thn (ha pos pins s σ H _ I h) fun us s1 ⟨vs,H1,I1,r1,q1⟩=>hc pins s1 σ H1 vs us Q I1 r1 q1) he hpl
theorem zEK (hc:zFe X (.type T) r) (hg:Gl X x) (hm:X.mg x=none) (hv:bootBuiltins x=some (.type T)) (ha:PA X (e::es) t) (hn:x≠ "__name__" := by decide) (hdb:(x==("__debug__" : Str))=false:=by decide)
  (he:starEach (e::es) X.env=(false,eval e X.env)::starEach es X.env:=by rfl) (hpl:(backTo pos (starEach es X.env)).any (·.1)=false:=by rfl):PE X (.Call (.Name x p) (e::es) [] pos) (tCB r t):=by
 intro pins s σ H Q I h
 refine wpAny_Call_Name_kw (zDL I hg hm hv ?_ hn hdb)
 exact PyProof.Rows.callWith_type1 (thn (ha pos pins s σ H _ I h) fun us s1 ⟨vs,H1,I1,r1,q1⟩=>hc pins s1 σ H1 vs us Q I1 r1 q1) he hpl
end
end L2
namespace HT
open PySem PyProof.Rows
noncomputable def lexLt:List Int->List Int->Bool
 | [],[]=>false
 | [],_::_=>true
 | _::_,[]=>false
 | x::xs,y::ys=>if x=y then lexLt xs ys else decide (x<y)
theorem zFs (x y:Int) (xs ys:List Int):lexLt (x::xs) (y::ys)=if x=y then lexLt xs ys else decide (x<y):=rfl
theorem zDi:lexLt [] []=false:=rfl
theorem zCG (y:Int) (ys:List Int):lexLt [] (y::ys)=true:=rfl
theorem zCH (x:Int) (xs:List Int):lexLt (x::xs) []=false:=rfl
theorem zJn (A:Around) (s:Shared) (a:Int) (t:Tok) (c:Int) (u:Tok):∃ e,SeqAt.EqAt A s (.int a t) (.int c u) e/\(e=true↔a=c):=
 ⟨(a==c),SeqAt.EqAt.int_int a t c u,by simp⟩
theorem zNd (A:Around) (s:Shared) (a:Int) (t:Tok) (c:Int) (u:Tok) (prog:Program) (w:World) (E:Value->Shared->Prop) (Q:Value->Shared->Prop) (h:Q (.bool (decide (a<c))) s):
  wpAny (model prog w) A (richCompare .Lt (.int a t) (.int c u)) Q E s:=
 (PyProof.Rows.lt_int h:wpAny (model prog w) A (compareOp .Lt (.int a t) (.int c u)) Q E s)
section
open PySem.SeqAt
open PySem.AutoSeq1 (wpAny_loadPart')
open PySem.MeetsSeq PySem.MeetsSeq2 PySem.MeetsSeq3
theorem zFG (l b:Addr) (items items2:Array Value) (n n2:Nat) (dd dd2:Option Addr) (sl sl2:Array (Option Value)) (ns ms:List Int) (hi:IntsAre items.toList ns) (hj:IntsAre items2.toList ms):
  Meets (Builtin.«tuple.__lt__» ⟨[.ref l,.ref b],[]⟩)
   (fun _ R s=>s.heap.get? l=some { cls:=.type "tuple",dict:=dd,data:=.seq items n,slots:=sl }/\s.heap.get? b=some { cls:=.type "tuple",dict:=dd2,data:=.seq items2 n2,slots:=sl2 }/\
    R (.ok (.ret (.bool (lexLt ns ms)))) s):=
 .of_wp fun prog w A R s h=>by
  obtain ⟨hp,g,d,tk,os⟩:=s; obtain ⟨hl,hb,h⟩:=h
  have f2:=AutoSeq1.sub_tuple_tuple
  have z1:items.size=ns.length:=by rw [<- hi.length]; simp
  have z2:items2.size=ms.length:=by rw [<- hj.length]; simp
  wp_walk using wpAny_loadPart' hl,wpAny_loadPart' hb,wpAny_forIn_list _ (fun rest b s'=>b.1=none/\s'=⟨hp,g,d,tk,os⟩/\∃ (vs ws:List Value) (ns' ms':List Int),rest=vs.zip ws/\
   IntsAre vs ns'/\IntsAre ws ms'/\ns'.length+items2.size=ms'.length+items.size/\R (.ok (.ret (.bool (lexLt ns' ms')))) ⟨hp,g,d,tk,os⟩) _
  case turn=>
   rintro ⟨y,x⟩ rest b s' ⟨hb',rfl,vs,ws,ns',ms',hz,hvi,hwi,hlen,hR⟩
   cases hvi with
   | nil=>rw [List.zip_nil_left] at hz; cases hz
   | cons a t hvi'=>
    cases hwi with
    | nil=>rw [List.zip_nil_right] at hz; cases hz
    | cons c u hwi'=>
     rw [List.zip_cons_cons] at hz
     injection hz with hyx hrest
     injection hyx with hy hx
     subst hy hx
     rw [zFs] at hR
     simp only [List.length_cons] at hlen
     obtain ⟨e,he,hiff⟩:=zJn A.in1 ⟨hp,g,d,tk,os⟩ a t c u
     refine wpAny_bind (he prog w _ _ ?_)
     cases e with
     | true=>
      rw [if_pos (hiff.mp rfl)] at hR
      wp_walk
      exact ⟨rfl,rfl,_,_,_,_,hrest,hvi',hwi',by omega,hR⟩
     | false=>
      rw [if_neg (fun q=>absurd (hiff.mpr q) Bool.false_ne_true)] at hR
      have hri:=zNd A.in1 ⟨hp,g,d,tk,os⟩ a t c u prog w
      wp_walk using hri
      exact ⟨_,rfl,by simpa using hR⟩
  case fin=>
   rintro ⟨b1,b2⟩ s' ⟨hb',rfl,vs,ws,ns',ms',hz,hvi,hwi,hlen,hR⟩
   simp only at hb'
   subst hb'
   have hv:lexLt ns' ms'=decide (items.size<items2.size):=by
    cases hvi with
    | nil=>
     cases hwi with
     | nil=>
      simp only [List.length_nil] at hlen
      rw [zDi]
      exact (decide_eq_false (by omega)).symm
     | cons c u hw=>
      simp only [List.length_nil,List.length_cons] at hlen
      rw [zCG]
      exact (decide_eq_true (by omega)).symm
    | cons a t hv=>
     cases hwi with
     | nil=>
      simp only [List.length_nil,List.length_cons] at hlen
      rw [zCH]
      exact (decide_eq_false (by omega)).symm
     | cons c u hw=>
      rw [List.zip_cons_cons] at hz
      cases hz
   rw [hv] at hR
   wp_walk
   exact ⟨_,rfl,by simpa [Builtin.Tuple.tupleCompareSizes] using hR⟩
  case h=>
   exact ⟨rfl,rfl,items.toList,items2.toList,ns,ms,rfl,hi,hj,by omega,h⟩
end
section
variable {prog:Program} {w:World} {A:Around} {E:Value->Shared->Prop} {s:Shared}
theorem lt_tupInts {l b:Addr} {items items2:Array Value} {ns ms:List Int} {Q:Value->Shared->Prop} (hl:IsTup s.heap l items) (hb:IsTup s.heap b items2) (hi:IntsAre items.toList ns) (hj:IntsAre items2.toList ms)
  (hu:A.units<cLine) (h:Q (.bool (lexLt ns ms)) s):wpAny (model prog w) A (compareOp .Lt (.ref l) (.ref b)) Q E s:=by
 obtain ⟨⟨cls,dd,data,sl⟩,ho,hc,n,hd⟩:=id hl
 obtain ⟨⟨cls2,dd2,data2,sl2⟩,ho2,hc2,n2,hd2⟩:=id hb
 simp only at hc hd hc2 hd2
 subst hc hd hc2 hd2
 exact richCompare_meets_room (op := .Lt) ⟨_,ho,rfl⟩ ⟨_,ho2,rfl⟩ PySem.F.slot_tuple_lt PySem.F.entry_tuple_lt (PySem.F.args_tuple_lt_2 _ _) (zFG l b items items2 n n2 dd dd2 sl sl2 ns ms hi hj)
  ⟨ho,ho2,show Value.bool (lexLt ns ms)≠Value.notImplemented/\Q (.bool (lexLt ns ms)) s from ⟨(fun x=>nomatch x),h⟩⟩ hu
noncomputable def sIx (n d:Nat):Option Int->Nat
 | none=>d
 | some v=>if v<0 then (v+(n:Int)).toNat else min v.toNat n
theorem sIx_none (n d:Nat):sIx n d none=d:=rfl
theorem sIx_nat (n d k:Nat):sIx n d (some (k:Int))=min k n:=by
 show (if (k:Int)<0 then ((k:Int)+(n:Int)).toNat else min (k:Int).toNat n)=min k n
 rw [if_neg (by omega),Int.toNat_natCast]
end
end HT
namespace L2
open PySem PySem.Spec PyProof.Rows
noncomputable abbrev TO:=St->Hp->(Option Int->Hp->Prop)->Prop
def PO (X:Cx) (e:Option Expr) (t:TO):Prop:=
 ∀ (pins:List (Addr×Obj)) (s:Shared) (σ:St) (H:Hp) (Q:Option Int->Hp->Prop),Inv X pins σ H s->t σ H Q->
  wpAny (model X.prog X.w) X.A (evalPart e X.env) (fun u s'=>∃ o H',Inv X pins σ H' s'/\IsPart u o/\Q o H') X.xe s
noncomputable def tNoPart:TO:=fun _ H Q=>Q none H
noncomputable def tPart (t:TE):TO:=fun σ H Q=>t σ H fun x H1=>∃ i,x = .int i/\Q (some i) H1
theorem zDB {ns:List Int}:∀ {us:List Value},Vals (ns.map V.int) us->IntsAre us ns:=by
 induction ns with
 | nil=>intro us r; rw [List.map_nil] at r; cases r; exact .nil
 | cons n ns ih=>
  intro us r
  rw [List.map_cons] at r
  cases r with
  | cons r1 r2=>
   obtain ⟨t,e⟩:=r1
   subst e
   exact .cons n t (ih r2)
section
variable {X:Cx} {e:Expr} {te:TE} {lo hi:Option Expr} {tl th:TO} {pos p2:Pos}
theorem zIg:PO X none tNoPart:=by
 intro pins s σ H Q I h
 rw [evalPart_none]
 exact wpAny_pure ⟨none,H,I,.none,h⟩
theorem zEJ (h:PE X e te):PO X (some e) (tPart te):=by
 intro pins s σ H Q I hw
 rw [evalPart_some]
 refine thn (h pins s σ H _ I hw) fun u s1 ⟨x,H1,I1,r1,q1⟩=>?_
 obtain ⟨i,rfl,q⟩:=q1
 obtain ⟨t,rfl⟩:=r1
 exact ⟨some i,H1,I1,.int i t,q⟩
def SlR (X:Cx) (r:V->Option Int->Option Int->Hp->VK->Prop):Prop:=
 ∀ (pins:List (Addr×Obj)) (s:Shared) (σ:St) (H:Hp) (x:V) (v vl vu:Value) (lo hi:Option Int) (sl:Addr) (Q:VK),Inv X pins σ H s->RelV x v->s.heap.IsSliceOf sl vl vu .none->IsPart vl lo->IsPart vu hi->r x lo hi H Q->
  ∃ T id,typeLookup (.type T) "__getitem__" = pure (some (.builtin id))/\s.TypeIs v T/\wpAny (model X.prog X.w) X.A (getItem v (.ref sl)) (EP X pins σ Q) X.xe s
noncomputable def tSl (r:V->Option Int->Option Int->Hp->VK->Prop) (te:TE) (tl th:TO):TE:=fun σ H Q=>te σ H fun x H1=>tl σ H1 fun l H2=>th σ H2 fun u H3=>r x l u H3 Q
theorem zEf {r:V->Option Int->Option Int->Hp->VK->Prop} (hr:SlR X r) (he:PE X e te) (hl:PO X lo tl) (hu:PO X hi th):PE X (.Subscript e (.Slice lo hi none p2) pos) (tSl r te tl th):=by
 intro pins s σ H Q I h
 refine Subscript_ (thn (he pins s σ H _ I h) fun v s1 ⟨x,H1,I1,r1,q1⟩=>?_)
 refine wpAny_Slice (thn (hl pins s1 σ H1 _ I1 q1) fun vl s2 ⟨l,H2,I2,pl,q2⟩=>thn (hu pins s2 σ H2 _ I2 q2) fun vu s3 ⟨u,H3,I3,pu,q3⟩=>?_)
 rw [evalPart_none]
 refine wpAny_pure ?_
 have I4:Inv X pins σ H3 { s3 with heap:=s3.heap.push { cls:=.type "slice",data:=.fields #[vl,vu,.none] } }:=I3.kept (t':=s3.toks) fun b ob q=>Heap.get?_push_of_some _ q
 obtain ⟨T,id,hT,ht,hg⟩:=hr pins { s3 with heap:=s3.heap.push { cls:=.type "slice",data:=.fields #[vl,vu,.none] } } σ H3 x v vl vu l u s3.heap.objs.size Q I4 r1 (Heap.IsSliceOf.new ..) pl pu q3
 show wpAny (model X.prog X.w) X.A (subscriptTail e (.Slice lo hi none p2) v (.ref s3.heap.objs.size)) (EP X pins σ Q) X.xe { s3 with heap:=s3.heap.push { cls:=.type "slice",data:=.fields #[vl,vu,.none] } }
 exact tail_any (ops:=[.ref s3.heap.objs.size,v]) ht hT hg (by with_unfolding_all rfl)
noncomputable def cutV (xs:List V) (lo hi:Option Int):List V:=(xs.drop (HT.sIx xs.length 0 lo)).take (HT.sIx xs.length xs.length hi-HT.sIx xs.length 0 lo)
theorem zIw (xs:List V) (lo hi:Option Int):(cutV xs lo hi).length<=xs.length:=by
 unfold cutV
 rw [List.length_take,List.length_drop]
 omega
end
end L2
namespace L2
open PySem PySem.Spec PyProof.Rows
noncomputable def ixN (n:Nat) (i:Int):Option Nat:=if 0<=i then (if i<n then some i.toNat else none) else if -(n:Int)<=i then some (i+n).toNat else none
noncomputable def atI {α:Type} (xs:List α) (i:Int):Option α:=(ixN xs.length i).bind fun j=>xs[j]?
theorem ixN_seq {n:Nat} {i:Int} {j:Nat} (h:ixN n i=some j):seqIndex? i n=some j/\j<n /\ -(n:Int)<=i/\i<n:=by
 unfold ixN at h
 by_cases h0:0<=i
 ·rw [if_pos h0] at h
  by_cases h1:i<n
  ·rw [if_pos h1] at h
   have e:i.toNat=j:=Option.some.inj h
   exact ⟨by rw [seqIndex_of h0 h1,e],by omega,by omega,h1⟩
  ·rw [if_neg h1] at h; cases h
 ·rw [if_neg h0] at h
  by_cases h1 : -(n:Int)<=i
  ·rw [if_pos h1] at h
   have e:(i+n).toNat=j:=Option.some.inj h
   exact ⟨by rw [seqIndex_neg (by omega) h1,e],by omega,h1,by omega⟩
  ·rw [if_neg h1] at h; cases h
theorem zME {α:Type} {xs:List α} {i:Int} {v:α} (h:atI xs i=some v):∃ j,seqIndex? i xs.length=some j/\xs[j]? = some v/\j<xs.length /\ -(xs.length:Int)<=i/\i<xs.length:=by
 unfold atI at h
 cases e:ixN xs.length i with
 | none=>rw [e] at h; cases h
 | some j=>
  rw [e] at h
  obtain ⟨h1,h2,h3,h4⟩:=ixN_seq e
  exact ⟨j,h1,h,h2,h3,h4⟩
theorem zBZ {α:Type} {xs:List α} {j:Nat} {v:α} (h:xs[j]? = some v):atI xs (j:Int)=some v:=by
 have hj:j<xs.length:=(List.getElem?_eq_some_iff.mp h).1
 have e:ixN xs.length (j:Int)=some j:=by
  unfold ixN
  rw [if_pos (by omega),if_pos (by omega)]; simp
 unfold atI; rw [e]; exact h
theorem zOa {α:Type} (xs:List α) (v:α):atI (xs++[v]) (-1)=some v:=by
 have hl:(xs++[v]).length=xs.length+1:=by simp
 have e:ixN (xs++[v]).length (-1)=some xs.length:=by
  unfold ixN
  rw [hl,if_neg (by decide),if_pos (by omega)]
  congr 1
  omega
 unfold atI
 rw [e]
 show (xs++[v])[xs.length]? = some v
 simp
def PlainIx (b:Expr):Prop:=∀ o i,subscripted b false o i=operate [o,i] (getItem o i)
def IxR (X:Cx) (r:R2):Prop:=
 ∀ (value slice:Expr) (pins:List (Addr×Obj)) (s:Shared) (σ:St) (H:Hp) (x y:V) (v u:Value) (Q:VK),Inv X pins σ H s->RelV x v->RelV y u->r x y H Q->
  subscripted slice false v u=operate [v,u] (getItem v u)->wpAny (model X.prog X.w) X.A (subscriptTail value slice v u) (EP X pins σ Q) X.xe s
def MtR (X:Cx) (id:String) (r:V->List V->Hp->VK->Prop):Prop:=
 ∀ (pins:List (Addr×Obj)) (s:Shared) (σ:St) (H:Hp) (x:V) (xs:List V) (v:Value) (us:List Value) (Q:VK),Inv X pins σ H s->RelV x v->Vals xs us->r x xs H Q->
  wpAny (model X.prog X.w) X.A (call (.builtin id) (v::us)) (EP X pins σ Q) X.xe s
section
variable {X:Cx} {a b:Expr} {ta tb:TE} {pos:Pos}
theorem zAF {r:R2} (hr:IxR X r) (ha:PE X a ta) (hb:PE X b tb) (hs:PlainIx b):PE X (.Subscript a b pos) (tOp r ta tb):=by
 intro pins s σ H Q I h
 exact Subscript_ (binT ha hb I h fun v u s2 x y H2 I2 rx ry q=>hr a b pins s2 σ H2 x y v u Q I2 rx ry q (hs _ _))
noncomputable def rIxL (K:PySem.W.Frag):R2:=fun x y H Q=>∃ p xs i v,x = .ref p/\y = .int i/\SqL K H p xs/\atI xs i=some v/\Q v H
noncomputable def rIxT (K:PySem.W.Frag):R2:=fun x y H Q=>∃ p xs i v,x = .ref p/\y = .int i/\SqT K H p xs/\atI xs i=some v/\Q v H
theorem zAi:IxR X (rIxL X.K):=by
 intro value slice pins s σ H x y v u Q I rx ry h hs
 obtain ⟨p,xs,i,z,rfl,rfl,hq,he,q⟩:=h
 cases rx
 obtain ⟨t,rfl⟩:=ry
 obtain ⟨its,r,pl,hz⟩:=I.list hq
 obtain ⟨j,h1,h2,h3,h4,h5⟩:=zME he
 obtain ⟨w,ew,rw'⟩:=r.get h2
 have hl:=r.length
 have hn:=zJf
 have fin:EP X pins σ Q w s:=⟨z,H,I,rw',q⟩
 by_cases h0:0<=i
 ·have hj:i.toNat=j:=by
   rw [seqIndex_of h0 h5] at h1
   exact Option.some.inj h1
  exact item_listR pl.isList h0 (by omega) (by rw [hj]; simpa using ew) fin hs
 ·have hj:(i+(its.toArray.size:Int)).toNat=j:=by
   rw [seqIndex_neg (by omega) h4] at h1
   rw [List.size_toArray,<- hl]
   exact Option.some.inj h1
  exact subscriptTail_builtinR (x:=w) pl.isList.typeIs slot_list_getitem.lookup
   (wpAny_getItem_list_neg (Q:=fun r s'=>r=w/\EP X pins σ Q r s') pl.isList (by omega) (by rw [List.size_toArray] <;> omega) (by omega) (by rw [hj]; simpa using ew) ⟨rfl,fin⟩) hs
theorem zEQ:IxR X (rIxT X.K):=by
 intro value slice pins s σ H x y v u Q I rx ry h hs
 obtain ⟨p,xs,i,z,rfl,rfl,hq,he,q⟩:=h
 cases rx
 obtain ⟨t,rfl⟩:=ry
 obtain ⟨its,r,pl,hz⟩:=I.tuple hq
 obtain ⟨j,h1,h2,h3,h4,h5⟩:=zME he
 obtain ⟨w,ew,rw'⟩:=r.get h2
 have hl:=r.length
 have hn:=zJf
 have fin:EP X pins σ Q w s:=⟨z,H,I,rw',q⟩
 exact subscriptTail_builtinR (x:=w) pl.typeIs slot_tuple_getitem.lookup
  (getItem_tuple (j:=j) (Q:=fun r s'=>r=w/\EP X pins σ Q r s') pl (by omega) (by omega) (by rw [List.size_toArray,<- hl]; exact h1) (by simpa using ew) ⟨rfl,fin⟩) hs
theorem zGQ (lo hi:Option Int) (n:Nat):(sliceBounds lo hi none n).1=((HT.sIx n 0 lo:Nat):Int)/\(sliceBounds lo hi none n).2.1=((HT.sIx n n hi:Nat):Int)/\(sliceBounds lo hi none n).2.2=1:=by
 refine ⟨?_,?_,rfl⟩
 ·cases lo with
  | none=>simp [sliceBounds,HT.sIx]
  | some i=>
   simp only [sliceBounds,HT.sIx,Option.getD_none,show (1:Int)>0 by decide,if_true]
   by_cases h:i<0
   ·simp only [h,if_true] <;> omega
   ·simp only [h,if_false] <;> omega
 ·cases hi with
  | none=>simp [sliceBounds,HT.sIx]
  | some i=>
   simp only [sliceBounds,HT.sIx,Option.getD_none,show (1:Int)>0 by decide,if_true]
   by_cases h:i<0
   ·simp only [h,if_true] <;> omega
   ·simp only [h,if_false] <;> omega
theorem zFR (its:List Value) (lo hi:Option Int):slicePick its.toArray lo hi none=((its.drop (HT.sIx its.length 0 lo)).take (HT.sIx its.length its.length hi-HT.sIx its.length 0 lo)).toArray:=by
 obtain ⟨h1,h2,h3⟩:=zGQ lo hi its.toArray.size
 unfold slicePick
 rw [h1,h2,h3]
 simp only [sliceRange_one,pick_run,List.size_toArray] <;> rfl
noncomputable def rSlL (K:PySem.W.Frag):V->Option Int->Option Int->Hp->VK->Prop:=fun x lo hi H Q=>∃ a xs,x = .ref a/\SqL K H a xs/\∀ p,H p=none->Q (.ref p) (upd H p (.lst (cutV xs lo hi)))
theorem zFS:SlR X (rSlL X.K):=by
 intro pins s σ H x v vl vu lo hi sl Q I rx hs pl pu h
 obtain ⟨a,xs,rfl,hx,q⟩:=h
 cases rx
 obtain ⟨its,r,ht,hz⟩:=I.list hx
 have hlen:=r.length
 refine ⟨"list",_,slot_list_getitem.lookup,ht.isList.typeIs,?_⟩
 refine wpAny_getItem_list_slice ht.isList hs pl pu .none (by simp) ?_ (by rw [List.size_toArray] <;> omega)
 rw [zFR,<- hlen]
 refine ⟨.ref s.heap.objs.size,_,I.laid (t':=s.toks) (o:=.lst (cutV xs lo hi)) (fun b ob q=>Heap.get?_push_of_some _ q) (Nat.le_refl _) ?_,rfl,q _ (I.hok.fresh (Nat.le_refl _))⟩
 exact ⟨Nat.le_trans (zIw xs lo hi) hz,_,0,(r.drop (HT.sIx xs.length 0 lo)).take (HT.sIx xs.length xs.length hi-HT.sIx xs.length 0 lo),Heap.get?_push_size _ rfl⟩
theorem zAj:zFe X (.builtin "len") (fun xs H Q=>∃ p ys,xs=[.ref p]/\(SqL X.K H p ys\/SqT X.K H p ys)/\Q (.int ys.length) H):=by
 intro pins s σ H xs us Q I r h
 obtain ⟨p,ys,rfl,hq,q⟩:=h
 obtain ⟨u,rfl,rx⟩:=zML r
 cases rx
 have hn:=zJf
 rcases hq with hq | hq
 ·obtain ⟨its,r',pl,hz⟩:=I.list hq
  have hlen:=r'.length
  exact Calls.call_len_list pl.isList (by simp only [List.size_toArray] <;> omega) ⟨.int ys.length,H,I.tok _,⟨s.toks+1,by rw [List.size_toArray,hlen]⟩,q⟩
 ·obtain ⟨its,r',pl,hz⟩:=I.tuple hq
  have hlen:=r'.length
  exact len_tuple pl (by simp only [List.size_toArray] <;> omega) ⟨.int ys.length,H,I.tok _,⟨s.toks+1,by rw [List.size_toArray,hlen]⟩,q⟩
def tyV (K:PySem.W.Frag) (T:String) (x:V) (H:Hp):Prop:=match x with
 | .str _=>T= "str"
 | .int _=>T= "int"
 | .ref p=>(T= "list" /\ ∃ xs,SqL K H p xs)\/(T= "tuple" /\ ∃ o,K.lookup p=some o/\o.cls = .type "tuple" /\ o.dict=none)\/
   (T= "dict" /\ ((∃ kvs,H p=some (.dK kvs))\/∃ kvs,H p=some (.dT kvs)))\/(T= "set" /\ ∃ S n,H p=some (.set S n))
 | _=>False
theorem tyV_is {pins:List (Addr×Obj)} {σ:St} {H:Hp} {s:Shared} {T:String} {x:V} {v:Value} (I:Inv X pins σ H s) (r:RelV x v) (ty:tyV X.K T x H):
  s.TypeIs v T/\∀ a,v = .ref a->∃ ob,s.heap.get? a=some ob/\ob.dict=none:=by
 cases x with
 | str z=>
  obtain ⟨t,rfl⟩:=r
  cases (show T= "str" from ty)
  exact ⟨typeIs_str s z t,fun _ e=>nomatch e⟩
 | int i=>
  obtain ⟨t,rfl⟩:=r
  cases (show T= "int" from ty)
  exact ⟨typeIs_int s i t,fun _ e=>nomatch e⟩
 | ref p=>
  cases r
  rcases ty with ⟨rfl,xs,hq⟩ | ⟨rfl,o,hk,hc,hd⟩ | ⟨rfl,hk⟩ | ⟨rfl,S,n,hk⟩
  ·obtain ⟨its,_,pl,_⟩:=I.list hq
   refine ⟨pl.isList.typeIs,fun a e=>?_⟩
   cases e
   obtain ⟨o,n,e,c,hd,_⟩:=pl
   exact ⟨o,e,hd⟩
  ·refine ⟨⟨o,I.kIn p o hk,hc⟩,fun a e=>?_⟩
   cases e
   exact ⟨o,I.kIn _ o hk,hd⟩
  ·have z:∃ o,s.heap.get? p=some o/\o.ExactDict:=by
    rcases hk with ⟨kvs,hk⟩ | ⟨kvs,hk⟩
    ·obtain ⟨_,_,_,_,o,_,_,e,ex,_⟩:=I.hok p _ hk
     exact ⟨o,e,ex⟩
    ·obtain ⟨_,_,_,_,o,_,_,e,ex,_⟩:=I.hok p _ hk
     exact ⟨o,e,ex⟩
   obtain ⟨o,e,ex⟩:=z
   refine ⟨⟨o,e,ex.1⟩,fun a e2=>?_⟩
   cases e2
   exact ⟨o,e,ex.2.1⟩
  ·obtain ⟨o,_,_,_,e,ex,_⟩:=I.hok p _ hk
   refine ⟨⟨o,e,ex.1⟩,fun a e2=>?_⟩
   cases e2
   exact ⟨o,e,ex.2.1⟩
 | _=>exact False.elim ty
noncomputable def tBM (K:PySem.W.Frag) (T:String) (r:V->List V->Hp->VK->Prop) (to:TE) (t:TA):TE:=fun σ H Q=>to σ H fun x H1=>tyV K T x H1/\t σ H1 fun xs H2=>r x xs H2 Q
variable {o e:Expr} {es:List Expr} {to:TE} {t:TA} {name:Str} {apos cpos:Pos} {T id:String} {r:V->List V->Hp->VK->Prop}
theorem zCj (pa:PlainAttrs T) (slot:Slot T name id) (hty:typeOf (.builtin id)=pure (.type "method_descriptor")) (hm:MtR X id r) (ho:PE X o to) (ha:PA X (e::es) t)
  (hbase:attributeBase o name X.env (eval o X.env)=eval o X.env:=by rfl)
  (hfew:((backTo cpos (starEach (e::es) X.env)).all (fun x=>!x.1)&&(backToKw cpos (keywordEach [] X.env)).all (fun x=>x.1.isSome)
   && decide ((e::es).length+([]:List Keyword).length+(if ([]:List Keyword).isEmpty then 0 else 1)<30))=true:=by rfl)
  (hline:(apos.endLine==cpos.line)=true:=by rfl) (hs:starEach (e::es) X.env=(false,eval e X.env)::starEach es X.env:=by rfl) (hplain:(backTo cpos (starEach es X.env)).any (·.1)=false:=by rfl):
  PE X (.Call (.Attribute o name apos) (e::es) [] cpos) (tBM X.K T r to t):=by
 intro pins s σ H Q I h
 refine wpAny_Call_method_late hbase hfew hline rfl (thn (ho pins s σ H _ I h) fun v s1 ⟨x,H1,I1,r1,ty,q1⟩=>?_)
 obtain ⟨h1,h2⟩:=tyV_is I1 r1 ty
 refine ⟨T,id,pa,slot,hty,h1,h2,?_⟩
 have hA:=ha cpos pins s1 σ H1 _ I1 q1
 rw [hs] at hA ⊢
 refine Calls.callWith_builtin (by show (false||(backTo cpos (starEach es X.env)).any (·.1))=false; rw [hplain] <;> rfl) (Calls.evalArgs_plain ?_)
 exact thn hA fun us s2 ⟨vs,H2,I2,r2,q2⟩=>hm pins s2 σ H2 x vs v us Q I2 r1 r2 q2
end
end L2
namespace L2
open PySem PySem.Spec PyProof.Rows
def MtM (X:Cx) (id:String) (r:V->List V->Hp->VK->Prop):Prop:=
 ∀ (pins:List (Addr×Obj)) (s:Shared) (σ:St) (H:Hp) (x:V) (xs:List V) (v:Value) (us:List Value) (Q:VK),Inv X pins σ H s->RelV x v->Vals xs us->r x xs H Q->
  wpAny (model X.prog X.w) X.A (call (.builtin id) (v::us)) (EP X pins σ Q) X.xe s
theorem Vals.one:∀ {x:V} {us:List Value},Vals [x] us->∃ u,us=[u]/\RelV x u
 | _,_,.cons r .nil=>⟨_,rfl,r⟩
section
variable {X:Cx} {pins:List (Addr×Obj)} {σ:St} {H:Hp} {s:Shared} {l b:Addr} {xs ys zs:List V}
theorem Inv.lset {its its':List Value} {n:Nat} {f:Array Value->Array Value} {t':Nat} (I:Inv X pins σ H s) (hH:H l=some (.lst xs))
  (e:s.heap.get? l=some { cls:=.type "list",data:=.seq its.toArray n }) (hf:f its.toArray=its'.toArray) (hv:Vals ys its') (hz:ys.length<=sizeLine):
  Inv X pins σ (upd H l (.lst ys)) { s with heap:=s.heap.update l (Obj.mapSeq f),toks:=t' }:=by
 have q:=PySem.IsL.update e f
 rw [hf] at q
 refine I.write (x:=l) (e:=l) (by rw [hH]; exact trivial) (.inl rfl) (fun b' u hb hu=>(Heap.get?_update_other s.heap (Obj.mapSeq f) (Ne.symm hb)).trans hu) ⟨_,q⟩ ?_
 exact ⟨hz,its',_,hv,q⟩
theorem Inv.lnew {its:List Value} {t':Nat} (I:Inv X pins σ H s) (hv:Vals ys its) (hz:ys.length<=sizeLine):
  Inv X pins σ (upd H s.heap.objs.size (.lst ys)) { s with heap:=s.heap.push { cls:=.type "list",data:=.seq its.toArray },toks:=t' }:=
 I.laid (fun _ _ q=>Heap.get?_push_of_some _ q) (Nat.le_refl _) ⟨hz,its,0,hv,Heap.get?_push_size _ rfl⟩
theorem Inv.fresh (I:Inv X pins σ H s):H s.heap.objs.size=none:=I.hok.fresh (Nat.le_refl _)
theorem Inv.lstM (I:Inv X pins σ H s) (hH:H l=some (.lst xs)):xs.length<=sizeLine/\∃ (its:List Value) (n:Nat),Vals xs its/\xs.length=its.length/\s.heap.get? l=some { cls:=.type "list",data:=.seq its.toArray n }:=by
 obtain ⟨z,its,n,r,e⟩:=I.hok l _ hH
 exact ⟨z,its,n,r,r.length,e⟩
theorem zIY {n:Nat} (h:n<=sizeLine):Builtin.List.listTooLong n=false:=by
 unfold Builtin.List.listTooLong
 exact decide_eq_false (by omega)
end
section
variable {X:Cx}
noncomputable def zDt:V->List V->Hp->VK->Prop:=fun x vs H Q=>∃ l xs y,x = .ref l/\vs=[y]/\H l=some (.lst xs)/\xs.length<sizeLine/\Q .non (upd H l (.lst (xs++[y])))
theorem zAM:MtM X "list.append" zDt:=by
 intro pins s σ H x vs v us Q I rx rv h
 obtain ⟨l,xs,y,rfl,rfl,hH,hz,q⟩:=h
 cases rx
 obtain ⟨u,rfl,ru⟩:=rv.one
 obtain ⟨z,its,n,r,hl,e⟩:=I.lstM hH
 refine call_meets F.slot_list_append ⟨_,e,rfl⟩ F.entry_list_append (F.args_list_append_2 _ _) (PySem.list_append l its.toArray n u (by rw [List.size_toArray]; omega)) ⟨e,?_⟩
 refine ⟨.non,_,I.lset (its':=its++[u]) hH e (by simp) (r.append (.cons ru .nil)) ?_,rfl,q⟩
 rw [List.length_append,List.length_singleton]
 omega
noncomputable def rExtend:V->List V->Hp->VK->Prop:=fun x vs H Q=>∃ l b xs zs,x = .ref l/\vs=[.ref b]/\H l=some (.lst xs)/\H b=some (.lst zs)/\xs.length+zs.length<=sizeLine/\Q .non (upd H l (.lst (xs++zs)))
theorem zDh:MtM X "list.extend" rExtend:=by
 intro pins s σ H x vs v us Q I rx rv h
 obtain ⟨l,b,xs,zs,rfl,rfl,hH,hB,hz,q⟩:=h
 cases rx
 obtain ⟨u,rfl,ru⟩:=rv.one
 cases ru
 obtain ⟨z,its,n,r,hl,e⟩:=I.lstM hH
 obtain ⟨z2,its2,n2,r2,hl2,e2⟩:=I.lstM hB
 have hsz:its.toArray.size+its2.toArray.size<=sizeLine:=by rw [List.size_toArray,List.size_toArray]; omega
 have hlong:¬ (!its.toArray.isEmpty&&Builtin.List.listTooLong (its.toArray.size+its2.toArray.size))=true:=by
  rw [zIY hsz,Bool.and_false]
  exact Bool.false_ne_true
 refine call_meets F.slot_list_extend ⟨_,e,rfl⟩ F.entry_list_extend (F.args_list_extend_2 _ _)
  (AutoSeq1.list_extend_list_list_0 l its.toArray n b its2.toArray n2 hlong (by rw [List.size_toArray]; omega) (by omega)) ⟨e,e2,?_⟩
 refine ⟨.non,_,I.lset (its':=its++its2) hH e (by simp) (r.append r2) ?_,rfl,q⟩
 rw [List.length_append]
 omega
noncomputable def rCat:R2:=fun x y H Q=>∃ l b xs zs,x = .ref l/\y = .ref b/\H l=some (.lst xs)/\H b=some (.lst zs)/\xs.length+zs.length<=sizeLine/\∀ p,H p=none->Q (.ref p) (upd H p (.lst (xs++zs)))
theorem zFo:OpR X (binaryOp .Add) rCat:=by
 intro pins s σ H x y v u Q I rx ry h
 obtain ⟨l,b,xs,zs,rfl,rfl,hH,hB,hz,q⟩:=h
 cases rx
 cases ry
 obtain ⟨z,its,n,r,hl,e⟩:=I.lstM hH
 obtain ⟨z2,its2,n2,r2,hl2,e2⟩:=I.lstM hB
 refine PySem.P.add_list e e2 ?_ (by rw [List.size_toArray,List.size_toArray]; omega)
 have ea:its.toArray++its2.toArray=(its++its2).toArray:=by simp
 rw [ea]
 exact ⟨.ref _,_,I.lnew (t':=s.toks) (r.append r2) (by rw [List.length_append]; omega),rfl,q _ I.fresh⟩
end
end L2
namespace L2
open PySem PySem.Spec PyProof.Rows
theorem Vals.ints:∀ {ns:List Int} {us:List Value},Vals (ns.map V.int) us->IntsAre us ns
 | [],us,h=>by
  rw [List.map_nil] at h
  cases h
  exact IntsAre.nil
 | n::ns,us,h=>by
  rw [List.map_cons] at h
  cases h with
  | cons r t=>
   obtain ⟨k,rfl⟩:=r
   exact IntsAre.cons n k (Vals.ints t)
theorem zCe:∀ {us:List Value} {ns:List Int},IntsAre us ns->Vals (ns.map V.int) us
 | _,_,.nil=>by rw [List.map_nil]; exact Paired.nil
 | _,_,.cons n t h=>by rw [List.map_cons]; exact Paired.cons (show RelV (V.int n) (Value.int n t) from ⟨t,rfl⟩) (zCe h)
theorem Vals.ref1 {a:Addr} {us:List Value} (r:Vals [V.ref a] us):us=[Value.ref a]:=by
 cases r with
 | cons r t=>
  cases t
  cases r
  rfl
mutual
inductive Dp (K:PySem.W.Frag) (H:Hp):V->PyData->Prop
 | non:Dp K H .non .none
 | bl (b:Bool):Dp K H (.bl b) (.bool b)
 | int (i:Int):Dp K H (.int i) (.int i)
 | str (x:Str):Dp K H (.str x) (.str x)
 | lst {a:Addr} {xs:List V} {ds:List PyData}:SqL K H a xs->zIz K H xs ds->Dp K H (.ref a) (.list ds)
 | tup {a:Addr} {xs:List V} {ds:List PyData}:SqT K H a xs->zIz K H xs ds->Dp K H (.ref a) (.tuple ds)
inductive zIz (K:PySem.W.Frag) (H:Hp):List V->List PyData->Prop
 | nil:zIz K H [] []
 | cons {v:V} {vs:List V} {d:PyData} {ds:List PyData}:Dp K H v d->zIz K H vs ds->zIz K H (v::vs) (d::ds)
end
section
variable {X:Cx} {pins:List (Addr×Obj)} {σ:St} {H:Hp} {s:Shared}
mutual
theorem Dp.reads (I:Inv X pins σ H s):∀ (d:PyData) (v:V) (u:Value),Dp X.K H v d->RelV v u->∃ as,Reads s.heap u d as
 | .none,_,_,h,r=>by
  cases h
  cases r
  exact ⟨_,Reads.none⟩
 | .bool b,_,_,h,r=>by
  cases h
  cases r
  exact ⟨_,Reads.bool b⟩
 | .int i,_,_,h,r=>by
  cases h
  obtain ⟨t,rfl⟩:=r
  exact ⟨_,Reads.int i t⟩
 | .str x,_,_,h,r=>by
  cases h
  obtain ⟨t,rfl⟩:=r
  exact ⟨_,Reads.str x t⟩
 | .list ds,_,_,h,r=>by
  cases h with
  | lst hs ha=>
   cases r
   obtain ⟨its,rv,⟨o,n,ho,hc,_,hd⟩,_⟩:=I.list hs
   obtain ⟨as,hr⟩:=Dp.readsAll I ds _ its ha rv
   exact ⟨_,Reads.list ho hc hd hr⟩
 | .tuple ds,_,_,h,r=>by
  cases h with
  | tup hs ha=>
   cases r
   obtain ⟨its,rv,⟨o,ho,hc,n,hd⟩,_⟩:=I.tuple hs
   obtain ⟨as,hr⟩:=Dp.readsAll I ds _ its ha rv
   exact ⟨_,Reads.tuple ho hc hd hr⟩
 | .dict _,_,_,h,_=>by cases h
theorem Dp.readsAll (I:Inv X pins σ H s):∀ (ds:List PyData) (vs:List V) (us:List Value),zIz X.K H vs ds->Vals vs us->∃ as,ReadsAll s.heap us ds as
 | [],_,_,h,r=>by
  cases h
  cases r
  exact ⟨_,ReadsAll.nil⟩
 | d::ds,_,_,h,r=>by
  cases h with
  | cons h1 h2=>
   cases r with
   | cons r1 r2=>
    obtain ⟨as,q1⟩:=Dp.reads I d _ _ h1 r1
    obtain ⟨bs,q2⟩:=Dp.readsAll I ds _ _ h2 r2
    exact ⟨_,ReadsAll.cons q1 q2⟩
end
end
section
variable {X:Cx}
noncomputable def rEqD (K:PySem.W.Frag):R2:=fun x y H Q=>∃ d e,Dp K H x d/\Dp K H y e/\SeqAt.shaped d=true/\SeqAt.shaped e=true/\Q (.bl (PyData.eqv d e)) H
noncomputable def rNeD (K:PySem.W.Frag):R2:=fun x y H Q=>∃ d e,Dp K H x d/\Dp K H y e/\SeqAt.shaped d=true/\SeqAt.shaped e=true/\Q (.bl (!PyData.eqv d e)) H
theorem op_eqD (hu:X.A.units+64<cLine):OpR X (compareOp .Eq) (rEqD X.K):=by
 intro pins s σ H x y v u Q I rx ry h
 obtain ⟨d,e,hd,he,sd,se,q⟩:=h
 obtain ⟨as,r1⟩:=Dp.reads I d x v hd rx
 obtain ⟨bs,r2⟩:=Dp.reads I e y u he ry
 exact SeqAt.compareEq_shaped r1 r2 sd se hu ⟨.bl _,H,I,rfl,q⟩
theorem op_neD (hu:X.A.units+64<cLine):OpR X (compareOp .NotEq) (rNeD X.K):=by
 intro pins s σ H x y v u Q I rx ry h
 obtain ⟨d,e,hd,he,sd,se,q⟩:=h
 obtain ⟨as,r1⟩:=Dp.reads I d x v hd rx
 obtain ⟨bs,r2⟩:=Dp.reads I e y u he ry
 exact SeqAt.compareNe_shaped r1 r2 sd se hu ⟨.bl _,H,I,rfl,q⟩
end
end L2
namespace L2
open PySem PySem.Spec PyProof.Rows
abbrev CellAt (h:Heap) (c:Addr) (v:Option Value):Prop:=h.IsCell c v
noncomputable def relS (scope sc:Scope):Scope:=
 { scope with names:=scope.names.map fun (n,k)=>if (k == .free&&sc.kind == .function&&sc.names.lookup n==some .cell) then (n,.cell) else (n,k) }
noncomputable def zAD (cells:List (Str×Addr)):List (Str×NameKind)->List (Str×Addr)->List (Str×Addr)
 | [],acc=>acc
 | (n,k)::r,acc=>if k == .free then zAD cells r ((n,(cells.lookup n).getD 0)::acc) else zAD cells r acc
theorem zDP (env:Env) (f:Str×NameKind->List (Str×Addr)->Sem (ForInStep (List (Str×Addr))))
  (hf:∀ n k c,f (n,k) c=if k == .free then (do let a <- cellOf env n; pure (.yield ((n,a)::c))) else pure (.yield c)):
  ∀ (names:List (Str×NameKind)) (acc:List (Str×Addr)),(∀ y∈names,y.2 = .free->∃ c,env.cells.lookup y.1=some c)->forIn names acc f=pure (zAD env.cells names acc)
 | [],acc,_=>by rw [List.forIn_nil]; rfl
 | (n,k)::r,acc,h=>by
  rw [List.forIn_cons,hf]
  have ih:=fun acc=>zDP env f hf r acc fun y hy=>h y (List.mem_cons_of_mem _ hy)
  unfold zAD
  by_cases hk:(k==NameKind.free)=true
  ·rw [if_pos hk,if_pos hk]
   obtain ⟨c,hc⟩:=h (n,k) List.mem_cons_self (by simpa using hk)
   have e:cellOf env n=pure c:=by unfold cellOf; rw [hc]
   rw [e]
   have e2:(env.cells.lookup n).getD 0=c:=by rw [hc]; rfl
   rw [e2]
   exact ih _
  ·rw [if_neg hk,if_neg hk]
   exact ih _
theorem zJU {scope:Scope} {env:Env} (h:∀ y∈scope.names,y.2 = .free->∃ c,env.cells.lookup y.1=some c):closureFor scope env=pure (zAD env.cells scope.names []):=by
 simp only [closureFor]
 rw [zDP env _ (fun n k c=>rfl) scope.names [] h]
 rfl
theorem zDz {α:Type}:∀ {l:List (Str×α)} {n:Str} {c:α},(n,c)∈l->∃ c',l.lookup n=some c'
 | (k,v)::r,n,c,h=>by
  rw [List.lookup_cons]
  cases hb:n==k with
  | true=>exact ⟨_,rfl⟩
  | false=>
   rcases List.mem_cons.mp h with e | h
   ·cases e; simp at hb
   ·exact zDz h
theorem zBY {cells:List (Str×Addr)}:∀ {names:List (Str×NameKind)} {acc:List (Str×Addr)} {n:Str} {c:Addr},(n,c)∈zAD cells names acc->(n,c)∈acc\/((n,.free)∈names/\c=(cells.lookup n).getD 0)
 | [],_,_,_,h=>.inl h
 | (m,k)::r,acc,n,c,h=>by
  unfold zAD at h
  split at h
  ·rename_i hk
   have hk:k = .free:=by simpa using hk
   rcases zBY h with h | ⟨h1,h2⟩
   ·rcases List.mem_cons.mp h with e | h
    ·cases e; exact .inr ⟨hk ▸ List.mem_cons_self,rfl⟩
    ·exact .inl h
   ·exact .inr ⟨List.mem_cons_of_mem _ h1,h2⟩
  ·rcases zBY h with h | ⟨h1,h2⟩
   ·exact .inl h
   ·exact .inr ⟨List.mem_cons_of_mem _ h1,h2⟩
theorem zCU {cells:List (Str×Addr)}:∀ {names:List (Str×NameKind)} {acc:List (Str×Addr)} {p:Str×Addr},p∈acc->p∈zAD cells names acc
 | [],_,_,h=>h
 | (m,k)::r,acc,p,h=>by
  unfold zAD
  split
  ·exact zCU (List.mem_cons_of_mem _ h)
  ·exact zCU h
theorem zCT {cells:List (Str×Addr)}:∀ {names:List (Str×NameKind)} {acc:List (Str×Addr)} {n:Str},(n,.free)∈names->(n,(cells.lookup n).getD 0)∈zAD cells names acc
 | (m,k)::r,acc,n,h=>by
  unfold zAD
  rcases List.mem_cons.mp h with e | h
  ·cases e
   exact zCU List.mem_cons_self
  ·split
   ·exact zCT h
   ·exact zCT h
theorem zCn:∀ {names:List (Str×NameKind)} {h:Heap} {acc:List (Str×Addr)} {x:Str} {c:Addr},(x,c)∈cellsFrom h.objs.size names acc->
  (x,c)∈acc\/((x,.cell)∈names/\h.objs.size<=c/\CellAt (pushCells h names) c none)
 | [],_,_,_,_,h=>.inl h
 | (n,k)::r,h,acc,x,c,hm=>by
  unfold cellsFrom at hm
  unfold pushCells
  split at hm
  ·rename_i hk
   rw [if_pos hk]
   have hk:k = .cell:=by simpa using hk
   rw [<- Heap.size_push h { cls:=.type "cell",data:=.cell none }] at hm
   rcases zCn hm with hm | ⟨h1,h2,h3⟩
   ·rcases List.mem_cons.mp hm with e | hm
    ·cases e
     exact .inr ⟨hk ▸ List.mem_cons_self,Nat.le_refl _,_,pushCells_keeps r _ _ _ (Heap.get?_push_size _ rfl),rfl⟩
    ·exact .inl hm
   ·rw [Heap.size_push] at h2
    exact .inr ⟨List.mem_cons_of_mem _ h1,Nat.le_of_succ_le h2,h3⟩
  ·rename_i hk
   rw [if_neg hk]
   rcases zCn hm with hm | ⟨h1,h2,h3⟩
   ·exact .inl hm
   ·exact .inr ⟨List.mem_cons_of_mem _ h1,h2,h3⟩
theorem zDm:∀ {names:List (Str×NameKind)} {n:Nat} {acc:List (Str×Addr)} {p:Str×Addr},p∈acc->p∈cellsFrom n names acc
 | [],_,_,_,h=>h
 | (m,k)::r,n,acc,p,h=>by
  unfold cellsFrom
  split
  ·exact zDm (List.mem_cons_of_mem _ h)
  ·exact zDm h
theorem zEX:∀ {names:List (Str×NameKind)} {n:Nat} {acc:List (Str×Addr)} {x:Str},(x,.cell)∈names->∃ c,(x,c)∈cellsFrom n names acc
 | (m,k)::r,n,acc,x,h=>by
  unfold cellsFrom
  rcases List.mem_cons.mp h with e | h
  ·cases e
   exact ⟨n,zDm List.mem_cons_self⟩
  ·split
   ·exact zEX h
   ·exact zEX h
theorem zEW:∀ {names:List (Str×NameKind)} {h:Heap} {acc:List (Str×Addr)} {x y:Str} {c:Addr},(∀ p∈acc,p.2<h.objs.size)->(∀ x y c,(x,c)∈acc->(y,c)∈acc->x=y)->
  (x,c)∈cellsFrom h.objs.size names acc->(y,c)∈cellsFrom h.objs.size names acc->x=y
 | [],_,_,_,_,_,_,hi,h1,h2=>hi _ _ _ h1 h2
 | (n,k)::r,h,acc,x,y,c,hl,hi,h1,h2=>by
  unfold cellsFrom at h1 h2
  split at h1
  ·rename_i hk
   rw [if_pos hk] at h2
   rw [<- Heap.size_push h { cls:=.type "cell",data:=.cell none }] at h1 h2
   refine zEW (h:=h.push _) (fun p hp=>?_) (fun x y c a b=>?_) h1 h2
   ·rw [Heap.size_push]
    rcases List.mem_cons.mp hp with rfl | hp
    ·exact Nat.lt_succ_self _
    ·exact Nat.lt_succ_of_lt (hl p hp)
   ·rcases List.mem_cons.mp a with e | a <;> rcases List.mem_cons.mp b with e' | b
    ·cases e; cases e'; rfl
    ·cases e; exact absurd (hl _ b) (Nat.lt_irrefl _)
    ·cases e'; exact absurd (hl _ a) (Nat.lt_irrefl _)
    ·exact hi _ _ _ a b
  ·rename_i hk
   rw [if_neg hk] at h2
   exact zEW hl hi h1 h2
theorem zIk {M:Model} {A:Around} {E:Value->Shared->Prop} {s:Shared} {scope:Scope} {globals:Addr} {closure:List (Str×Addr)} {qual:Str} {func:Option Addr} {code:Value} {around:Env} {builtins:Addr} {Q:Env->Shared->Prop}
  (h:Q (newEnv scope s.heap.objs.size globals (cellsFrom (s.heap.objs.size+1) scope.names closure) qual func code (some around) builtins)
   { s with heap:=pushCells (s.heap.push { cls:=.type "dict",data:=.dict #[] }) scope.names }):
  wpAny M A (newFunctionEnv scope globals closure [] qual func code (some around) builtins) Q E s:=by
 simp only [newFunctionEnv,Option.isSome_some,if_true]
 refine wpAny_bind (wpAny_alloc ?_)
 refine wpAny_bind (wpAny_layCells _ (fun n k c=>rfl) scope.names closure _ _ ?_)
 rw [show ({ s with heap:=s.heap.push { cls:=.type "dict",data:=.dict #[] } }:Shared).heap.objs.size=s.heap.objs.size+1 from Heap.size_push ..]
 rw [List.forIn_nil]
 exact wpAny_bind (wpAny_pure (wpAny_pure h))
theorem zCQ {sc:Scope}:∀ {names:List (Str×NameKind)} {x:Str} {k:NameKind},
  (names.map fun (n,k)=>if (k==NameKind.free&&sc.kind == .function&&sc.names.lookup n==some .cell) then (n,NameKind.cell) else (n,k)).lookup x=some k->
  ∃ k',names.lookup x=some k'/\(k=k'\/(k' = .free/\k = .cell))
 | [],_,_,h=>by simp at h
 | (n,k₀)::r,x,k,h=>by
  have ih := @zCQ sc r x k
  have h':List.lookup x ((if (k₀==NameKind.free&&sc.kind == .function&&sc.names.lookup n==some .cell)=true then (n,NameKind.cell) else (n,k₀))::(r.map _))=some k:=h
  cases hx:x==n with
  | true=>
   simp only [List.lookup_cons,hx]
   by_cases hc:(k₀==NameKind.free&&sc.kind == .function&&sc.names.lookup n==some .cell)=true
   ·rw [if_pos hc] at h'
    simp only [List.lookup_cons,hx] at h'
    cases h'
    simp only [Bool.and_eq_true,beq_iff_eq] at hc
    exact ⟨k₀,rfl,.inr ⟨hc.1.1,rfl⟩⟩
   ·rw [if_neg hc] at h'
    simp only [List.lookup_cons,hx] at h'
    cases h'
    exact ⟨_,rfl,.inl rfl⟩
  | false=>
   simp only [List.lookup_cons,hx]
   by_cases hc:(k₀==NameKind.free&&sc.kind == .function&&sc.names.lookup n==some .cell)=true
   ·rw [if_pos hc] at h'
    simp only [List.lookup_cons,hx] at h'
    exact ih h'
   ·rw [if_neg hc] at h'
    simp only [List.lookup_cons,hx] at h'
    exact ih h'
structure zMJ (N:List Str) (sc scope:Scope) (own:List (Str×Nat)):Prop where
 kind:scope.kind = .function
 uniq:∀ y∈scope.names,scope.names.lookup y.1=some y.2
 ix:∀ p∈own,N[p.2]? = some p.1
 free:∀ y∈scope.names,y.2 = .free->sc.names.lookup y.1=some .cell\/sc.names.lookup y.1=some .free
 own:∀ y∈scope.names,y.2 = .local\/y.2 = .cell->y.1∈own.map (·.1)\/y.1∉N
noncomputable def wipe (σ:St):List Nat->St
 | []=>σ
 | v::vs=>(wipe σ vs).set v none
theorem zCJ (σ:St):∀ vs:List Nat,(wipe σ vs).length=σ.length
 | []=>rfl
 | v::vs=>by unfold wipe; rw [List.length_set,zCJ σ vs]
theorem zEj {σ:St} {i:Nat} {x:V}:∀ {vs:List Nat},(wipe σ vs)[i]? = some (some x)->σ[i]? = some (some x)/\i∉vs
 | [],h=>⟨h,by simp⟩
 | v::vs,h=>by
  unfold wipe at h
  by_cases hi:v=i
  ·subst hi
   by_cases hv:v<(wipe σ vs).length
   ·rw [List.getElem?_set_self hv] at h; cases h
   ·rw [List.getElem?_eq_none (by simpa using hv)] at h; cases h
  ·rw [List.getElem?_set_ne hi] at h
   obtain ⟨h1,h2⟩:=zEj h
   exact ⟨h1,by simp only [List.mem_cons,not_or]; exact ⟨fun e=>hi e.symm,h2⟩⟩
noncomputable abbrev Cx.blk (X:Cx) (s:Shared) (H:Hp) (scope:Scope) (cenv:Env) (fp:List Addr):Cx:={ X with s_0:=s,H_0:=H,env:=cenv,outer:=X.stack,ex:=fp,fn:=fun x=>scope.names.lookup x==some .cell,pn:=[],xe:=fun _ _=>False }
section
variable {X:Cx} {pins:List (Addr×Obj)} {σ:St} {H:Hp} {s:Shared}
theorem zIx {scope:Scope} {own:List (Str×Nat)} {fp:List Addr} (I:Inv X pins σ H s) (ok:zMJ X.N X.env.scope scope own) (hN:X.N.Nodup) (hfp:∀ b∈fp,FpOk X pins H b/\b<s.heap.objs.size):
  Inv (X.blk s H scope (compEnvC scope (cellsFrom (s.heap.objs.size+1) scope.names (zAD X.env.cells scope.names [])) s.heap.objs.size X.env) fp) [] (wipe σ (own.map (·.2))) H { s with heap:=pushCells (s.heap.push { cls:=.type "dict",data:=.dict #[] }) scope.names }:=by
 have hfree:∀ y∈scope.names,y.2 = .free->∃ c,X.env.cells.lookup y.1=some c:=fun y hy e=>by
  rcases ok.free y hy e with k | k
  ·exact I.ok.has _ (.inl k)
  ·exact I.ok.has _ (.inr k)
 generalize hcenv:compEnvC scope (cellsFrom (s.heap.objs.size+1) scope.names (zAD X.env.cells scope.names [])) s.heap.objs.size X.env=cenv
 have kp:∀ b o,s.heap.get? b=some o->(pushCells (s.heap.push { cls:=.type "dict",data:=.dict #[] }) scope.names).get? b=some o:=fun b o e=>pushCells_keeps _ _ _ _ (Heap.get?_push_of_some _ e)
 have hL:cenv.locals=s.heap.objs.size:=by rw [<- hcenv]; rfl
 have hcl:cenv.cells=cellsFrom (s.heap.objs.size+1) scope.names (zAD X.env.cells scope.names []):=by rw [<- hcenv]; rfl
 have hsc:cenv.scope=relS scope X.env.scope:=by rw [<- hcenv]; rfl
 rw [<- Heap.size_push s.heap { cls:=.type "dict",data:=.dict #[] }] at hcl
 have cm:∀ {y c},(y,c)∈zAD X.env.cells scope.names []->X.env.cells.lookup y=some c/\c<s.heap.objs.size:=fun {y c} hm=>by
  rcases zBY hm with hm | ⟨h1,rfl⟩
  ·cases hm
  ·obtain ⟨c,hc⟩:=hfree _ h1 rfl
   rw [hc]
   obtain ⟨w,z⟩:=I.cell _ _ hc
   exact ⟨rfl,z.lt⟩
 have mem:∀ {y c},cenv.cells.lookup y=some c->(X.env.cells.lookup y=some c/\c<s.heap.objs.size)\/(s.heap.objs.size+1<=c/\CellAt (pushCells (s.heap.push { cls:=.type "dict",data:=.dict #[] }) scope.names) c none):=fun {y c} e=>by
  rw [hcl] at e
  rcases zCn (PySem.mem_of_lookup e) with hm | ⟨_,h2,h3⟩
  ·exact .inl (cm hm)
  ·rw [Heap.size_push] at h2; exact .inr ⟨h2,h3⟩
 have look:∀ {y},scope.names.lookup y=some .free->∃ c,cenv.cells.lookup y=some c/\X.env.cells.lookup y=some c:=fun {y} hl=>by
  have hy:(y,NameKind.free)∈scope.names:=PySem.mem_of_lookup hl
  obtain ⟨c',e'⟩:=zDz (zDm (names:=scope.names) (n:=(s.heap.push { cls:=.type "dict",data:=.dict #[] }).objs.size) (zCT (cells:=X.env.cells) (acc:=[]) hy))
  rw [<- hcl] at e'
  refine ⟨c',e',?_⟩
  rw [hcl] at e'
  rcases zCn (PySem.mem_of_lookup e') with hm | ⟨h1,_,_⟩
  ·exact (cm hm).1
  ·have:=ok.uniq _ h1
   rw [hl] at this; cases this
 have okB:(X.blk s H scope cenv fp).Ok:=by
  refine ⟨I.ok.mod,by show cenv.scope.kind=_; rw [hsc]; exact ok.kind,by show cenv.globals=_; rw [<- hcenv]; exact I.ok.glob,by show cenv.builtins=_; rw [<- hcenv]; exact I.ok.blt,by show s.heap.objs.size<=cenv.locals; rw [hL]; exact Nat.le_refl _,
   fun y z c e1 e2=>?_,fun y hy=>?_,fun y c z e=>?_,I.ok.hd,I.ok.frames,.inl rfl,fun b hb=>⟨?_,fun y c e z=>?_⟩,I.bs,Nat.le_trans I.ok.bsz I.sz,fun b o e hb=>?_,fun b hb z=>?_,I.stack,I.stkFree⟩
  ·have e1:cenv.cells.lookup y=some c:=e1
   have e2:cenv.cells.lookup z=some c:=e2
   rw [hcl] at e1 e2
   refine zEW (fun p hp=>?_) (fun y z c a b=>I.ok.inj y z c (cm a).1 (cm b).1) (PySem.mem_of_lookup e1) (PySem.mem_of_lookup e2)
   rw [Heap.size_push]
   exact Nat.lt_succ_of_lt (cm (y:=p.1) (c:=p.2) hp).2
  ·show ∃ c,cenv.cells.lookup y=some c
   have key:∀ k,cenv.kindOf y=some k->(k = .cell\/k = .free)->∃ c,cenv.cells.lookup y=some c:=fun k hk hk'=>by
    unfold Env.kindOf at hk
    rw [hsc] at hk
    obtain ⟨k',e,r⟩:=zCQ hk
    have:k' = .cell\/k' = .free:=by
     rcases r with rfl | ⟨rfl,_⟩
     ·exact hk'
     ·exact .inr rfl
    rcases this with rfl | rfl
    ·obtain ⟨c,hm⟩:=zEX (n:=(s.heap.push { cls:=.type "dict",data:=.dict #[] }).objs.size) (acc:=zAD X.env.cells scope.names []) (PySem.mem_of_lookup e)
     obtain ⟨c',e'⟩:=zDz hm
     exact ⟨c',by rw [hcl]; exact e'⟩
    ·obtain ⟨c,h1,_⟩:=look e
     exact ⟨c,h1⟩
   rcases hy with hy | hy
   ·exact key _ hy (.inl rfl)
   ·exact key _ hy (.inr rfl)
  ·have z:(scope.names.lookup y==some NameKind.cell)=true:=z
   have z:scope.names.lookup y=some .cell:=by simpa using z
   have e:cenv.cells.lookup y=some c:=e
   rw [hcl] at e
   rcases zCn (PySem.mem_of_lookup e) with hm | ⟨_,h2,_⟩
   ·rcases zBY hm with hm | ⟨h1,_⟩
    ·cases hm
    ·have q:=ok.uniq _ h1
     rw [z] at q; cases q
   ·rw [Heap.size_push] at h2
    exact Nat.le_of_succ_le h2
  ·show b≠cenv.locals
   rw [hL]; exact Nat.ne_of_lt (hfp b hb).2
  ·have e:cenv.cells.lookup y=some c:=e
   rcases mem e with ⟨h1,_⟩ | ⟨h1,_⟩
   ·exact (hfp b hb).1.2.2.2.2.1 y c h1 z
   ·have h2:s.heap.objs.size+1<=b:=by rw [<- z]; exact h1
    exact absurd (Nat.lt_of_lt_of_le (hfp b hb).2 (Nat.le_of_succ_le h2)) (Nat.lt_irrefl _)
  ·rcases (hfp b hb).1.2.2.2.1 with z | z
   ·exact I.ok.noex b o e z
   ·exact absurd (Nat.lt_of_lt_of_le (Heap.lt_size e) (Nat.le_trans I.ok.bsz z)) (Nat.lt_irrefl _)
  ·rcases List.mem_cons.mp (I.stkSub b z) with z | z
   ·exact (hfp b hb).1.2.1 z
   ·exact (hfp b hb).1.2.2.1 z
 refine ⟨okB,rfl,I.bare,Un.kept kp,⟨fun _=>none,?_,fun i y av e1 e2 e3=>?_⟩,fun y c e=>?_,?_,fun y c e=>?_,fun p hp=>?_,I.hok.kept kp,by rw [zCJ]; exact I.len⟩
 ·show Heap.Ns _ cenv.locals _
  rw [hL]
  exact Heap.Ns.keeps (Heap.Ns.new ..) fun b o e=>pushCells_keeps _ _ _ _ e
 ·obtain ⟨e2,hne⟩:=zEj e2
  have hfr:scope.names.lookup y=some .free/\(cenv.kindOf y=some .cell\/cenv.kindOf y=some .free):=by
   have key:∀ k,cenv.scope.names.lookup y=some k->k = .local\/k = .cell\/k = .free->scope.names.lookup y=some .free/\(cenv.kindOf y=some .cell\/cenv.kindOf y=some .free):=fun k hk hk'=>by
    have hk0:=hk
    rw [hsc] at hk
    obtain ⟨k',e,r⟩:=zCQ hk
    have no:¬ (k' = .local\/k' = .cell):=fun hh=>by
     rcases ok.own _ (PySem.mem_of_lookup e) hh with e' | e'
     ·obtain ⟨p,hp,hpy⟩:=List.mem_map.mp e'
      have e3:=ok.ix p hp
      have:p.1=y:=hpy
      rw [this] at e3
      exact hne (List.mem_map.mpr ⟨p,hp,zGi hN e3 e1⟩)
     ·exact e' (List.mem_of_getElem? e1)
    rcases r with rfl | ⟨rfl,rfl⟩
    ·rcases hk' with rfl | rfl | rfl
     ·exact absurd (.inl rfl) no
     ·exact absurd (.inr rfl) no
     ·exact ⟨e,.inr hk0⟩
    ·exact ⟨e,.inl hk0⟩
   have e3:Vis cenv.scope y:=e3
   rcases e3 with e3 | e3 | e3
   ·exact key _ e3 (.inl rfl)
   ·exact key _ e3 (.inr (.inl rfl))
   ·exact key _ e3 (.inr (.inr rfl))
  obtain ⟨m,hn,hl⟩:=I.loc
  have hvis:Vis X.env.scope y:=(ok.free _ (PySem.mem_of_lookup hfr.1) rfl).elim (fun k=>.inr (.inl k)) (fun k=>.inr (.inr k))
  obtain ⟨w,r,q⟩:=hl i y av e1 e2 hvis
  refine ⟨w,r,.inr ⟨hfr.2,?_⟩⟩
  obtain ⟨c,h1,h2⟩:=look hfr.1
  rcases q with ⟨k,_⟩ | ⟨_,c',e',z⟩
  ·have k:X.env.scope.names.lookup y=some .local:=k
   rcases ok.free _ (PySem.mem_of_lookup hfr.1) rfl with k' | k' <;> rw [show X.env.scope.names.lookup y=_ from k'] at k <;> cases k
  ·rw [h2] at e'; cases e'
   exact ⟨c,h1,z.keeps kp⟩
 ·have e:cenv.cells.lookup y=some c:=e
  rcases mem e with ⟨h1,_⟩ | ⟨_,z⟩
  ·obtain ⟨w,z⟩:=I.cell y c h1
   exact ⟨w,z.keeps kp⟩
  ·exact ⟨_,z⟩
 ·show H cenv.locals=none
  rw [hL]; exact I.hok.fresh (Nat.le_refl _)
 ·have e:cenv.cells.lookup y=some c:=e
  rcases mem e with ⟨h1,_⟩ | ⟨h1,_⟩
  ·exact I.freeC y c h1
  ·exact I.hok.fresh (Nat.le_of_succ_le h1)
 ·exact absurd (show p∈([]:List (Addr×Obj))++[] from hp) (by simp)
theorem app_ok {E:Value->Shared->Prop} {D:Addr} {xs:List V} {y:V} {v:Value} {Q:Value->Shared->Prop} (I:Inv X pins σ H s) (hD:H D=some (.lst xs)) (hz:xs.length<sizeLine) (r:RelV y v)
  (h:∀ s',Inv X pins σ (upd H D (.lst (xs++[y]))) s'->Q .none s'):wpAny (model X.prog X.w) X.A (call (.builtin "list.append") [.ref D,v]) Q E s:=by
 obtain ⟨hz',its,n,ri,e⟩:=I.hok D _ hD
 have hl:=ri.length
 refine append_at (hsz:=by rw [List.size_toArray]; omega) e fun h' sb ho'=>?_
 refine h { s with heap:=h' } (I.write (t':=s.toks) (by rw [hD]; trivial) (.inl rfl) (fun b u hb q=>(sb.2 b hb).trans q) ⟨_,ho'⟩ ⟨by rw [List.length_append]; exact hz,its++[v],n+1,ri.append (.cons r .nil),?_⟩)
 rw [ho']
 simp
def PTs (X:Cx) (ifs:List Expr) (t:TT):Prop:=
 ∀ (pins:List (Addr×Obj)) (s:Shared) (σ:St) (H:Hp) (Q:Bool->Hp->Prop),Inv X pins σ H s->t σ H Q->
  wpAny (model X.prog X.w) X.A (forIn ifs true fun c r=>if r=true then do let ok <- isTrue c X.env (eval c X.env); pure (ForInStep.yield ok) else pure (ForInStep.yield r)) (TP X pins σ Q) X.xe s
noncomputable def tYes:TT:=fun _ H Q=>Q true H
theorem zDu:PTs X [] tYes:=fun _ _ _ H _ I h=>wpAny_tests_nil ⟨H,I,h⟩
end
theorem thnF {α:Type} {t:Sem α} {Q Q':α->Shared->Prop} {M:Model} {A:Around} {E:Value->Shared->Prop} {s:Shared} (h:wpAny M A t Q (fun _ _=>False) s) (hQ:∀ a s,Q a s->Q' a s):wpAny M A t Q' E s:=wpAny_mono h hQ fun _ _ z=>False.elim z
theorem zHv {prog:Program} {w:World} {A:Around} {R:Result->Shared->Prop} {s:Shared} {elt target iter:Expr} {ifs:List Expr} {scope:Scope} {pos:Pos} {it acc:Value} {env:Env} (I:Nat->Shared->Prop)
  (turn:∀ n s,I n s->wpAny (model prog w) A (pyNext it) (fun r s₁=>match r with
   | none=>R (.ok .next) s₁
   | some v=>wpAny (model prog w) A (letOwnedTupleGo target it v) (fun _ s₁'=>wpAny (model prog w) A (assign target env v) (fun _ s₂=>
     wpAny (model prog w) A (forIn ifs true fun c r=>if r=true then do let ok <- isTrue c env (eval c env); pure (ForInStep.yield ok) else pure (ForInStep.yield r)) (fun ok s₃=>
      if ok=true then wpAny (model prog w) A (eval elt env) (fun x s₄=>
       wpAny (model prog w) A (call (.builtin "list.append") [acc,x]) (fun _ s₅=>∃ m,m<n/\I m s₅) (notedBy (model prog w) A env fun e s'=>R (.error e) s') s₄) (notedBy (model prog w) A env fun e s'=>R (.error e) s') s₃
      else ∃ m,m<n/\I m s₃) (notedBy (model prog w) A env fun e s'=>R (.error e) s') s₂) (notedBy (model prog w) A env fun e s'=>R (.error e) s') s₁') (notedBy (model prog w) A env fun e s'=>R (.error e) s') s₁) (notedBy (model prog w) A env fun e s'=>R (.error e) s') s)
  (n:Nat) (h:I n s):
  codeAny (model prog w) A (.compLoop (.ListComp elt [⟨target,iter,ifs,0⟩] scope pos) 0 it acc env) R s:=by
 refine codeAny_loop rfl I (fun n s hI=>?_) n h
 show wpAny _ A ((compTurn (.ListComp elt [⟨target,iter,ifs,0⟩] scope pos) 0 it acc env).onRaise (fun x=>do noteFrame x env; theTreesLotGoes x)) _ _ s
 refine wpAny_noted ?_
 rw [compTurn_list]
 refine wpAny_bind (wpAny_standAt (wpAny_bind (wpAny_mono (turn n s hI) (fun r s₁ h₁=>?_) fun _ _ h'=>h')))
 cases r with
 | none=>exact wpAny_pure h₁
 | some v=>
  refine wpAny_bind (wpAny_mono h₁ (fun _ s₁' h₁'=>?_) fun _ _ h'=>h')
  refine wpAny_bind (wpAny_mono h₁' (fun _ s₂ h₂=>wpAny_bind (wpAny_mono h₂ (fun ok s₃ h₃=>?_) fun _ _ h'=>h')) fun _ _ h'=>h')
  cases ok with
  | false=>exact wpAny_pure ⟨rfl,h₃⟩
  | true=>
   exact wpAny_bind (wpAny_bind (wpAny_mono h₃ (fun x s₄ h₄=>wpAny_bind (wpAny_mono h₄ (fun _ s₅ h₅=>wpAny_pure (wpAny_pure ⟨rfl,h₅⟩)) fun _ _ h'=>h')) fun _ _ h'=>h'))
section
variable {X:Cx}
noncomputable def tLc (wi:TI) (g:TG) (tt:TT) (te:TE) (vs:List Nat):TE:=fun σ H Q=>wi σ H fun J H1=>∀ D,H1 D=none->∃ W:Nat->Nat->Hp->Prop,(∃ m,W 0 m (upd H1 D (.lst [])))/\∀ i m H,W i m H->
 (J.stop i H/\Q (.ref D) H)\/(J.go i H/\∃ Nx:Hp->Prop,(∀ H',Nx H'->∃ m',m'<m/\W (i+1) m' H')/\∀ x H',J.yld i H x H'->g x (wipe σ vs) H' fun σ2 H2=>wipe σ2 vs=wipe σ vs/\tt σ2 H2 fun b H3=>
  if b=true then te σ2 H3 fun y H4=>∃ acc,H4 D=some (.lst acc)/\acc.length<sizeLine/\Nx (upd H4 D (.lst (acc++[y]))) else Nx H3)
theorem zLV {pins:List (Addr×Obj)} {s:Shared} {σ:St} {H:Hp} {Q:VK} {elt tg iter:Expr} {ifs:List Expr} {scope:Scope} {own:List (Str×Nat)} {pos pos':Pos} {wi:TI} {g:TG} {tt:TT} {te:TE} {use:Option (Value->Sem Unit)} {Qf:Value->Shared->Prop}
  (hc:X.calm=true) (hN:X.N.Nodup) (I:Inv X pins σ H s) (hi:PI X tg iter wi) (ok:zMJ X.N X.env.scope scope own)
  (hg:∀ (s:Shared) (H:Hp) (C:Addr) (cl:List (Str×Addr)) (fp:List Addr),PG (X.blk s H scope (compEnvC scope cl C X.env) fp) tg g) (ht:∀ (s:Shared) (H:Hp) (C:Addr) (cl:List (Str×Addr)) (fp:List Addr),PTs (X.blk s H scope (compEnvC scope cl C X.env) fp) ifs tt)
  (he:∀ (s:Shared) (H:Hp) (C:Addr) (cl:List (Str×Addr)) (fp:List Addr),PE (X.blk s H scope (compEnvC scope cl C X.env) fp) elt te) (hs:∀ x,foldedSetIterable iter X.env x=pure x)
  (h:tLc wi g tt te (own.map (·.2)) σ H Q)
  (hRR:∀ D C s' m H',Inv X pins σ H' s'->Q (.ref D) H'->s'.heap.Ns C m->FpOk X pins H' C->compPost (model X.prog X.w) X.A X.xe use Qf (.ref D) C (.ok .next) s'):
  wpAny (model X.prog X.w) X.A (comprehension (.ListComp elt [⟨tg,iter,ifs,0⟩] scope pos) scope X.env pos' (newList []) false (eval iter X.env) use) Qf X.xe s:=by
 have hfree:∀ y∈scope.names,y.2 = .free->∃ c,X.env.cells.lookup y.1=some c:=fun y hy e=>by
  rcases ok.free y hy e with k | k
  ·exact I.ok.has _ (.inl k)
  ·exact I.ok.has _ (.inr k)
 refine wpAny_comprehension_free (use:=use) rfl hs (zJU hfree) ok.kind (fun y hy e=>by rw [ok.uniq y hy,e])
  (thn (hi pins s σ H _ I h) fun xv s1 hx=>thn hx fun itv s2 h2=>?_)
 obtain ⟨it,fp,tn,J,H2,e,I2,T,st2,f2,q⟩:=h2
 subst e
 refine wpAny_newObj_type (zIk ?_) (by show 0<=sizeLine; decide)
 generalize hD:s2.heap.objs.size=D
 have hDn:H2 D=none:=I2.hok.fresh (Nat.le_of_eq hD)
 obtain ⟨W,⟨m0,w0⟩,turn⟩:=q D hDn
 generalize hs3:({ s2 with heap:=s2.heap.push { cls:=.type "list",data:=.seq ([]:List Value).toArray } }:Shared)=s3
 have I3:Inv X pins σ (upd H2 D (.lst [])) s3:=by
  rw [<- hs3]
  refine I2.laid (t':=s2.toks) (fun b o e=>Heap.get?_push_of_some _ e) (Nat.le_of_eq hD) ⟨Nat.zero_le _,[],0,.nil,?_⟩
  rw [<- hD]
  exact Heap.get?_push_size _ rfl
 have h3:s3.heap=s2.heap.push { cls:=.type "list",data:=.seq ([]:List Value).toArray }:=by rw [<- hs3]
 have sz:∀ b∈fp,b<s2.heap.objs.size:=fun b hb=>by
  obtain ⟨o,e,_⟩:=T.obj _ _ st2 b hb
  exact Heap.lt_size e
 have f3:∀ b∈fp,FpOk X pins (upd H2 D (.lst [])) b/\b<s3.heap.objs.size:=fun b hb=>by
  have hlt:=sz b hb
  refine ⟨⟨?_,(f2 b hb).2⟩,by rw [h3,Heap.size_push]; exact Nat.lt_succ_of_lt hlt⟩
  rw [uN (by rw [<- hD]; exact Nat.ne_of_lt hlt)]
  exact (f2 b hb).1
 have st3:tn 0 s3.heap:=T.keep _ _ _ st2 fun b _ o e=>by rw [h3]; exact Heap.get?_push_of_some _ e
 have I4:=zIx I3 ok hN f3
 have pg:=hg s3 (upd H2 D (.lst [])) s3.heap.objs.size (cellsFrom (s3.heap.objs.size+1) scope.names (zAD X.env.cells scope.names [])) fp
 have pt:=ht s3 (upd H2 D (.lst [])) s3.heap.objs.size (cellsFrom (s3.heap.objs.size+1) scope.names (zAD X.env.cells scope.names [])) fp
 have pe:=he s3 (upd H2 D (.lst [])) s3.heap.objs.size (cellsFrom (s3.heap.objs.size+1) scope.names (zAD X.env.cells scope.names [])) fp
 show codeAny _ _ (.compStart (.ListComp elt [⟨tg,iter,ifs,0⟩] scope pos) 0 (.ref it) (.ref D) (compEnvC scope (cellsFrom (s3.heap.objs.size+1) scope.names (zAD X.env.cells scope.names [])) s3.heap.objs.size X.env)) (compPost (model X.prog X.w) X.A X.xe use Qf (.ref D) s3.heap.objs.size) { s3 with heap:=pushCells (s3.heap.push { cls:=.type "dict",data:=.dict #[] }) scope.names }
 have nfp:∀ b∈fp,(upd H2 D (.lst [])) b=none:=fun b hb=>(f3 b hb).1.1
 generalize hce:compEnvC scope (cellsFrom (s3.heap.objs.size+1) scope.names (zAD X.env.cells scope.names [])) s3.heap.objs.size X.env=ce at I4 pg pt pe ⊢
 have cL:ce.locals=s3.heap.objs.size:=by subst hce; rfl
 generalize hH3:upd H2 D (.lst [])=H3 at I3 I4 pg pt pe w0 nfp f3
 generalize hs4:({ s3 with heap:=pushCells (s3.heap.push { cls:=.type "dict",data:=.dict #[] }) scope.names }:Shared)=s4 at I4 ⊢
 have st4:tn 0 s4.heap:=T.keep _ _ _ st3 fun b _ o e=>by rw [<- hs4]; exact pushCells_keeps _ _ _ _ (Heap.get?_push_of_some _ e)
 have stat:∀ {σ':St} {H':Hp} {s':Shared},Inv (X.blk s3 H3 scope ce fp) [] σ' H' s'->(∀ b∈fp,H' b=none)->∀ b∈fp,FpOk (X.blk s3 H3 scope ce fp) [] H' b:=fun {σ' H' s'} I' hn b hb=>
  ⟨hn b hb,(I'.ok.exf b hb).1,I'.ok.exfs b hb,.inl hb,fun x c e=>(I'.ok.exf b hb).2 x c e,fun p hp=>absurd (show p∈([]:List (Addr×Obj))++[] from hp) (by simp)⟩
 have loop:codeAny (model X.prog X.w) X.A (.compLoop (.ListComp elt [⟨tg,iter,ifs,0⟩] scope pos) 0 (.ref it) (.ref D) ce) (compPost (model X.prog X.w) X.A X.xe use Qf (.ref D) s3.heap.objs.size) s4:=by
  refine zHv (fun n s'=>∃ i H',Inv (X.blk s3 H3 scope ce fp) [] (wipe σ (own.map (·.2))) H' s'/\tn i s'.heap/\(∀ b∈fp,H' b=none)/\W i n H') ?_ m0 ⟨0,H3,I4,st4,nfp,w0⟩
  rintro n s5 ⟨i,H5,I5,st5,n5,w5⟩
  rcases turn i n H5 w5 with ⟨stop,qq⟩ | ⟨go,Nx,hNx,step⟩
  ·have td:=T.done (X.blk s3 H3 scope ce fp) rfl rfl rfl hc i [] s5 _ H5 (fun _ _=>False) I5 (stat I5 n5) st5 stop
   refine thnF td fun r s6 ⟨hr,I6⟩=>?_
   subst hr
   have I7:Inv X pins σ H5 s6:=I3.call' (ch:=fp) I6.os I6.base I6.hok I6.bare fun b hb=>⟨(f3 b hb).1.2.2.2.1,(f3 b hb).1.2.1,(f3 b hb).1.2.2.2.2.1,(f3 b hb).1.2.2.2.2.2⟩
   have nC:H5 s3.heap.objs.size=none:=by
    have z:H5 ce.locals=none:=I6.free
    rw [cL] at z
    exact z
   obtain ⟨m,hn,_⟩:=I6.loc
   have hn:s6.heap.Ns ce.locals m:=hn
   rw [cL] at hn
   exact hRR D s3.heap.objs.size s6 m H5 I7 qq hn (I3.fpOk (Nat.le_refl _) nC)
  ·have ti:=T.item (X.blk s3 H3 scope ce fp) rfl rfl rfl hc i [] s5 _ H5 (fun _ _=>False) I5 (stat I5 n5) st5 go
   refine thnF ti fun r s6 ⟨u,hr,h6⟩=>?_
   subst hr
   refine thnF h6 fun _ s7 ⟨x,H7,I7,r7,y7,st7,n7⟩=>?_
   have I7':=I7.pinned (stat I7 n7) (T.obj _ _ st7)
   refine thnF (pg _ s7 _ H7 x u _ I7' r7 (step x H7 y7)) fun _ s8 ⟨σ8,H8,I8,hw8,q8⟩=>?_
   refine thnF (pt _ s8 σ8 H8 _ I8 q8) fun b s9 ⟨H9,I9,q9⟩=>?_
   have fin:∀ {s':Shared} {H':Hp},Inv (X.blk s3 H3 scope ce fp) ([]++zHf fp s7.heap) σ8 H' s'->Nx H'->∃ m,m<n/\∃ i H',Inv (X.blk s3 H3 scope ce fp) [] (wipe σ (own.map (·.2))) H' s'/\tn i s'.heap/\(∀ b∈fp,H' b=none)/\W i m H':=fun {s' H'} I' nx=>by
    obtain ⟨m',hm,w'⟩:=hNx H' nx
    have pin':∀ b∈fp,∀ o,s7.heap.get? b=some o->s'.heap.get? b=some o/\H' b=none:=fun b hb o e=>
     let z:=I'.pin (b,o) (List.mem_append_right _ (List.mem_append_right _ (zDy hb e)))
     ⟨z.1,z.2.1⟩
    have hl:(wipe σ (own.map (·.2))).length=σ8.length:=by rw [<- hw8,zCJ]
    refine ⟨m',hm,i+1,H',(I'.unpinned (pins:=[])).weak hl (fun j v e=>?_),T.keep _ _ _ st7 fun b hb o e=>(pin' b hb o e).1,fun b hb=>?_,w'⟩
    ·rw [<- hw8] at e
     exact (zEj e).1
    ·obtain ⟨o,e,_⟩:=T.obj _ _ st7 b hb
     exact (pin' b hb o e).2
   cases b with
   | false=>
    simp only [Bool.false_eq_true,if_false] at q9 ⊢
    exact fin I9 q9
   | true=>
    simp only [if_true] at q9 ⊢
    refine thnF (pe _ s9 σ8 H9 _ I9 q9) fun z s10 ⟨yv,H10,I10,r10,acc,hD10,hz10,nx⟩=>?_
    exact app_ok (X:=X.blk s3 H3 scope ce fp) I10 hD10 hz10 r10 fun s11 I11=>fin I11 nx
 exact codeAny_compStart_list loop (T.self X.A 0 _ _ _ st4 loop)
theorem zLq {elt tg iter:Expr} {ifs:List Expr} {scope:Scope} {own:List (Str×Nat)} {pos:Pos} {wi:TI} {g:TG} {tt:TT} {te:TE} (hc:X.calm=true) (hN:X.N.Nodup) (hi:PI X tg iter wi) (ok:zMJ X.N X.env.scope scope own)
  (hg:∀ (s:Shared) (H:Hp) (C:Addr) (cl:List (Str×Addr)) (fp:List Addr),PG (X.blk s H scope (compEnvC scope cl C X.env) fp) tg g) (ht:∀ (s:Shared) (H:Hp) (C:Addr) (cl:List (Str×Addr)) (fp:List Addr),PTs (X.blk s H scope (compEnvC scope cl C X.env) fp) ifs tt)
  (he:∀ (s:Shared) (H:Hp) (C:Addr) (cl:List (Str×Addr)) (fp:List Addr),PE (X.blk s H scope (compEnvC scope cl C X.env) fp) elt te) (hs:∀ x,foldedSetIterable iter X.env x=pure x:=by intro _; rfl):
  PE X (.ListComp elt [⟨tg,iter,ifs,0⟩] scope pos) (tLc wi g tt te (own.map (·.2))):=by
 intro pins s σ H Q I h
 rw [eval_ListComp]
 refine zLV hc hN I hi ok hg ht he hs h fun D C s' m H' I' q hn f=>⟨m,hn,fun h'' sb=>?_⟩
 obtain ⟨f0,f1,f2,f3,f4,f5⟩:=f
 exact ⟨.ref D,H',I'.turned (t':=s'.toks) (fun b o hb e=>(sb.2 b hb).trans e) f0 f1 f3 f4 f5,rfl,q⟩
theorem zNj {i:Nat} {y:Str} {py:Pos} {elt tg iter:Expr} {ifs:List Expr} {scope:Scope} {own:List (Str×Nat)} {pos spos:Pos} {wi:TI} {g:TG} {tt:TT} {te:TE} (hc:X.calm=true) (hN:X.N.Nodup) (hy:X.N[i]? = some y) (hyl:X.env.scope.names.lookup y=some .local)
  (hsw:swapsWith (.ListComp elt [⟨tg,iter,ifs,0⟩] scope pos) (some (.Name y py)) spos.line X.env=pure true) (hi:PI X tg iter wi) (ok:zMJ X.N X.env.scope scope own)
  (hg:∀ (s:Shared) (H:Hp) (C:Addr) (cl:List (Str×Addr)) (fp:List Addr),PG (X.blk s H scope (compEnvC scope cl C X.env) fp) tg g) (ht:∀ (s:Shared) (H:Hp) (C:Addr) (cl:List (Str×Addr)) (fp:List Addr),PTs (X.blk s H scope (compEnvC scope cl C X.env) fp) ifs tt)
  (he:∀ (s:Shared) (H:Hp) (C:Addr) (cl:List (Str×Addr)) (fp:List Addr),PE (X.blk s H scope (compEnvC scope cl C X.env) fp) elt te) (hs:∀ x,foldedSetIterable iter X.env x=pure x:=by intro _; rfl):
  PS X (.Assign [.Name y py] (.ListComp elt [⟨tg,iter,ifs,0⟩] scope pos) spos) (tAsg (tLc wi g tt te (own.map (·.2))) (zER i)):=by
 intro pins s σ H D I h
 rw [exec_Assign_Name_used _ _ _ _ hsw]
 refine wpAny_bind (wpAny_standAt (wpAny_bind ?_))
 show wpAny _ X.A (do let _ <- comprehension (.ListComp elt [⟨tg,iter,ifs,0⟩] scope pos) scope X.env (firstIterPos [⟨tg,iter,ifs,0⟩] pos) (newList []) false (eval iter X.env) (some (assign (.Name y py) X.env))) _ _ s
 have h:tLc wi g tt te (own.map (·.2)) σ H (fun x H1=>zER i x σ H1 D.nx):=h
 refine wpAny_bind (thn (zLV (Qf:=fun _ s'=>SP X pins D .next s') hc hN I hi ok hg ht he hs h fun L C s' m H' I' q hn f=>?_) fun _ s' hq=>wpAny_pure (wpAny_pure hq))
 show wpAny _ _ (assign (.Name y py) X.env (.ref L)) _ _ _
 refine wpAny_assign_Name (zGM (v:=V.ref L) I' hN hy (.inl hyl) rfl (fun s2 I2 ⟨a,sb,ha⟩=>?_) (.inr hyl))
 obtain ⟨f0,f1,f2,f3,f4,f5⟩:=f
 have haC:C≠a:=by
  rcases ha with z | z
  ·rw [z]; exact f1
  ·exact fun e=>f4 y a z e.symm
 refine ⟨m,hn.sameBut sb haC,fun h3 sb3=>?_⟩
 exact ⟨_,H',I2.turned (t':=s2.toks) (fun b o hb e=>(sb3.2 b hb).trans e) f0 f1 f3 f4 f5,q⟩
end
theorem zJg {lo:Int} {n:Nat} {g:TG} {tt:TT} {te:TE} {vs:List Nat} {σ:St} {H1:Hp} {D:Addr} {Qd:Hp->Prop} (Pv:Nat->Hp->Prop) (h0:Pv 0 (upd H1 D (.lst [])))
  (hs:∀ i H,i<n->Pv i H->g (.int (lo+i)) (wipe σ vs) H fun σ2 H2=>wipe σ2 vs=wipe σ vs/\tt σ2 H2 fun b H3=>
   if b=true then te σ2 H3 fun y H4=>∃ acc,H4 D=some (.lst acc)/\acc.length<sizeLine/\Pv (i+1) (upd H4 D (.lst (acc++[y]))) else Pv (i+1) H3) (hd:∀ H,Pv n H->Qd H):
  ∃ W:Nat->Nat->Hp->Prop,(∃ m,W 0 m (upd H1 D (.lst [])))/\∀ i m H,W i m H->
   ((Itr lo n).stop i H/\Qd H)\/((Itr lo n).go i H/\∃ Nx:Hp->Prop,(∀ H',Nx H'->∃ m',m'<m/\W (i+1) m' H')/\∀ x H',(Itr lo n).yld i H x H'->g x (wipe σ vs) H' fun σ2 H2=>wipe σ2 vs=wipe σ vs/\tt σ2 H2 fun b H3=>
    if b=true then te σ2 H3 fun y H4=>∃ acc,H4 D=some (.lst acc)/\acc.length<sizeLine/\Nx (upd H4 D (.lst (acc++[y]))) else Nx H3):=by
 refine ⟨fun i m H=>m=n-i/\i<=n/\Pv i H,⟨n,by simp,Nat.zero_le _,h0⟩,?_⟩
 rintro i m H ⟨rfl,hi,p⟩
 by_cases hlt:i<n
 ·refine .inr ⟨hlt,Pv (i+1),fun H' p'=>⟨n-(i+1),by omega,rfl,hlt,p'⟩,fun x H' y=>?_⟩
  obtain ⟨e,y⟩:=y
  subst e y
  exact hs i _ hlt p
 ·have e:i=n:=by omega
  subst e
  exact .inl ⟨Nat.le_refl _,hd H p⟩
theorem zLU {K:PySem.W.Frag} {a:Addr} {xs:List V} {g:TG} {tt:TT} {te:TE} {vs:List Nat} {σ:St} {H1:Hp} {D:Addr} {Qd:Hp->Prop} (Pv:Nat->Hp->Prop) (h0:Pv 0 (upd H1 D (.lst []))) (hl:∀ i H,i<=xs.length->Pv i H->SqL K H a xs)
  (hs:∀ i x H,xs[i]? = some x->Pv i H->g x (wipe σ vs) H fun σ2 H2=>wipe σ2 vs=wipe σ vs/\tt σ2 H2 fun b H3=>
   if b=true then te σ2 H3 fun y H4=>∃ acc,H4 D=some (.lst acc)/\acc.length<sizeLine/\Pv (i+1) (upd H4 D (.lst (acc++[y]))) else Pv (i+1) H3) (hd:∀ H,Pv xs.length H->Qd H):
  ∃ W:Nat->Nat->Hp->Prop,(∃ m,W 0 m (upd H1 D (.lst [])))/\∀ i m H,W i m H->
   ((Itl K a).stop i H/\Qd H)\/((Itl K a).go i H/\∃ Nx:Hp->Prop,(∀ H',Nx H'->∃ m',m'<m/\W (i+1) m' H')/\∀ x H',(Itl K a).yld i H x H'->g x (wipe σ vs) H' fun σ2 H2=>wipe σ2 vs=wipe σ vs/\tt σ2 H2 fun b H3=>
    if b=true then te σ2 H3 fun y H4=>∃ acc,H4 D=some (.lst acc)/\acc.length<sizeLine/\Nx (upd H4 D (.lst (acc++[y]))) else Nx H3):=by
 refine ⟨fun i m H=>m=xs.length-i/\i<=xs.length/\Pv i H,⟨xs.length,by simp,Nat.zero_le _,h0⟩,?_⟩
 rintro i m H ⟨rfl,hi,p⟩
 have q:=hl i H hi p
 by_cases hlt:i<xs.length
 ·refine .inr ⟨⟨xs,xs[i],q,by simp [hlt]⟩,Pv (i+1),fun H' p'=>⟨xs.length-(i+1),by omega,rfl,hlt,p'⟩,fun x H' y=>?_⟩
  obtain ⟨e,y⟩:=y
  subst e
  exact hs i x _ (y xs q) p
 ·have e:i=xs.length:=by omega
  subst e
  exact .inl ⟨⟨xs,q,Nat.le_refl _⟩,hd H p⟩
noncomputable def blkC (N:List Str) (sc scope:Scope) (own:List (Str×Nat)):Bool:=
 (match scope.kind with | .function=>true | _=>false)&&(scope.names.all fun y=>decide (scope.names.lookup y.1=some y.2))&&(own.all fun p=>decide (N[p.2]? = some p.1)) &&
  (scope.names.all fun y=>match y.2 with
   | .free=>(match sc.names.lookup y.1 with | some .cell=>true | some .free=>true | _=>false)
   | .local=>decide (y.1∈own.map (·.1))||decide (y.1∉N)
   | .cell=>decide (y.1∈own.map (·.1))||decide (y.1∉N)
   | _=>true)
theorem zCB {N:List Str} {sc scope:Scope} {own:List (Str×Nat)} (h:blkC N sc scope own=true):zMJ N sc scope own:=by
 unfold blkC at h
 simp only [Bool.and_eq_true,List.all_eq_true,decide_eq_true_eq] at h
 obtain ⟨⟨⟨h1,h2⟩,h3⟩,h4⟩:=h
 refine ⟨?_,h2,h3,fun y hy e=>?_,fun y hy e=>?_⟩
 ·split at h1
  ·assumption
  ·cases h1
 ·have q:=h4 y hy
  simp only [e] at q
  split at q <;> first | exact .inl (by assumption) | exact .inr (by assumption) | cases q
 ·have q:=h4 y hy
  rcases e with e | e <;> (simp only [e,Bool.or_eq_true,decide_eq_true_eq] at q; exact q)
end L2
namespace L2
open PySem PySem.Spec PyProof.Rows
section
variable {κ:Type} [DecidableEq κ]
noncomputable def valV (kvs:List (κ×V)) (k:κ):Option V:=(kvs.find? fun kv=>decide (kv.1=k)).map (·.2)
noncomputable def putK (kvs:List (κ×V)) (k:κ) (v:V):List (κ×V):=
 if (kvs.any fun kv=>decide (kv.1=k))=true then kvs.map (fun kv=>if kv.1=k then (kv.1,v) else kv) else kvs++[(k,v)]
theorem zBe {p:κ×V} {r:List (κ×V)} {k:κ} (e:p.1=k):valV (p::r) k=some p.2:=by simp [valV,List.find?_cons,e]
theorem zBf {p:κ×V} {r:List (κ×V)} {k:κ} (e:¬ p.1=k):valV (p::r) k=valV r k:=by simp [valV,List.find?_cons,e]
theorem zDY (k:κ):∀ kvs:List (κ×V),(kvs.any fun kv=>decide (kv.1=k))=(valV kvs k).isSome
 | []=>rfl
 | p::r=>by
  rw [List.any_cons]
  by_cases e:p.1=k
  ·simp only [zBe e,decide_eq_true e,Bool.true_or,Option.isSome_some]
  ·rw [zBf e,decide_eq_false e,Bool.false_or]; exact zDY k r
theorem zIA (k j:κ) (y:V):∀ kvs:List (κ×V),valV (kvs.map fun kv=>if kv.1=k then (kv.1,y) else kv) j=(valV kvs j).map fun x=>if j=k then y else x
 | []=>rfl
 | p::r=>by
  have ih:=zIA k j y r
  rw [List.map_cons]
  by_cases h:p.1=k
  ·rw [if_pos h]
   by_cases e:p.1=j
   ·rw [zBe (p:=(p.1,y)) e,zBe e,Option.map_some,if_pos (e.symm.trans h)]
   ·rw [zBf (p:=(p.1,y)) e,zBf e,ih]
  ·rw [if_neg h]
   by_cases e:p.1=j
   ·rw [zBe (p:=p) e,zBe e,Option.map_some,if_neg (fun z=>h (e.trans z))]
   ·rw [zBf (p:=p) e,zBf e,ih]
theorem zGI (k j:κ) (y:V):∀ kvs:List (κ×V),valV kvs k=none->valV (kvs++[(k,y)]) j=if j=k then some y else valV kvs j
 | [],_=>by
  by_cases e:k=j
  ·rw [if_pos e.symm]; exact zBe (p:=(k,y)) e
  ·rw [if_neg (fun z=>e z.symm)]; exact zBf (p:=(k,y)) e
 | p::r,hn=>by
  rw [List.cons_append]
  have hk:¬ p.1=k:=fun z=>by rw [zBe z] at hn; cases hn
  rw [zBf hk] at hn
  have ih:=zGI k j y r hn
  by_cases e:p.1=j
  ·rw [zBe e,zBe e,if_neg (fun z=>hk (e.trans z))]
  ·rw [zBf e,zBf e,ih]
theorem zMM (kvs:List (κ×V)) (k j:κ) (y:V):valV (putK kvs k y) j=if j=k then some y else valV kvs j:=by
 unfold putK
 by_cases a:(kvs.any fun kv=>decide (kv.1=k))=true
 ·rw [if_pos a,zIA]
  rw [zDY] at a
  by_cases e:j=k
  ·obtain ⟨x,hx⟩:=Option.isSome_iff_exists.mp a
   rw [if_pos e,e,hx,Option.map_some,if_pos rfl]
  ·rw [if_neg e]
   cases valV kvs j with
   | none=>rfl
   | some x=>rw [Option.map_some,if_neg e]
 ·rw [if_neg a]
  refine zGI k j y kvs ?_
  rw [zDY] at a
  cases q:valV kvs k with
  | none=>rfl
  | some x=>rw [q] at a; exact (a rfl).elim
theorem zEN (kvs:List (κ×V)) (k:κ) (v:V):(putK kvs k v).length<=kvs.length+1:=by
 unfold putK
 split
 ·rw [List.length_map]; omega
 ·rw [List.length_append,List.length_cons,List.length_nil]; omega
theorem RelO.isSome_eq {o:Option V} {u:Option Value} (r:RelO o u):o.isSome=u.isSome:=by
 cases o with
 | none=>cases u with
  | none=>rfl
  | some _=>exact (show False from r).elim
 | some _=>cases u with
  | none=>exact (show False from r).elim
  | some _=>rfl
theorem RelO.getD {o:Option V} {u:Option Value} {d:V} {d':Value} (r:RelO o u) (rd:RelV d d'):RelV (o.getD d) (u.getD d'):=by
 cases o with
 | none=>cases u with
  | none=>exact rd
  | some _=>exact (show False from r).elim
 | some _=>cases u with
  | none=>exact (show False from r).elim
  | some _=>exact r
theorem KV.val {kvs:List (κ×V)} {vs:List (κ×Value)} (r:KV kvs vs) (k:κ):RelO (valV kvs k) (valueAt vs k):=by
 unfold KV at r
 induction r with
 | nil=>exact True.intro
 | @cons p q ps qs h t ih=>
  obtain ⟨h1,h2⟩:=h
  by_cases e:p.1=k
  ·have e':q.1=k:=h1.symm.trans e
   have b:valueAt (q::qs) k=some q.2:=by simp [valueAt,List.find?_cons,e']
   rw [zBe e,b]; exact h2
  ·have e':¬ q.1=k:=fun z=>e (h1.trans z)
   have b:valueAt (q::qs) k=valueAt qs k:=by simp [valueAt,List.find?_cons,e']
   rw [zBf e,b]; exact ih
theorem KV.any {kvs:List (κ×V)} {vs:List (κ×Value)} (r:KV kvs vs) (k:κ):(kvs.any fun kv=>decide (kv.1=k))=vs.any fun kv=>decide (kv.1=k):=by
 unfold KV at r
 induction r with
 | nil=>rfl
 | cons h t ih=>rw [List.any_cons,List.any_cons,ih,h.1]
theorem KV.repl {kvs:List (κ×V)} {vs:List (κ×Value)} (r:KV kvs vs) (k:κ) {y:V} {u:Value} (ry:RelV y u):
  KV (kvs.map fun kv=>if kv.1=k then (kv.1,y) else kv) (vs.map fun kv=>if kv.1=k then (kv.1,u) else kv):=by
 unfold KV at r ⊢
 induction r with
 | nil=>exact .nil
 | @cons p q ps qs h t ih=>
  rw [List.map_cons,List.map_cons]
  refine .cons ?_ ih
  obtain ⟨h1,h2⟩:=h
  by_cases e:p.1=k
  ·rw [if_pos e,if_pos (h1.symm.trans e)]; exact ⟨h1,ry⟩
  ·rw [if_neg e,if_neg (fun z=>e (h1.trans z))]; exact ⟨h1,h2⟩
theorem KV.put {kvs:List (κ×V)} {vs:List (κ×Value)} (r:KV kvs vs) (k:κ) {y:V} {u:Value} (ry:RelV y u):KV (putK kvs k y) (stored vs k u):=by
 unfold putK stored
 rw [r.any k]
 by_cases e:(vs.any fun kv=>decide (kv.1=k))=true
 ·rw [if_pos e,if_pos e]; exact r.repl k ry
 ·rw [if_neg e,if_neg e]; exact Paired.snoc r ⟨rfl,ry⟩
theorem KV.length {kvs:List (κ×V)} {vs:List (κ×Value)} (r:KV kvs vs):kvs.length=vs.length:=Paired.length r
end
theorem zMc {P:Program} {w:World} {k:Key} {u:Value} (r:RelV (kV k) u):(zAV P w).is k u=true:=by
 cases k with
 | inl i=>obtain ⟨t,e⟩:=(show ∃ t,u=Value.int i t from r); subst e; exact zIm P w i t
 | inr x=>obtain ⟨t,e⟩:=(show ∃ t,u=Value.str x t from r); subst e; exact zIl P w x t
theorem zHn {P:Program} {w:World}:∀ {ks:List Key} {us:List Value},Vals (ks.map kV) us->ItemsAre (zAV P w) ks us
 | [],_,r=>by rw [List.map_nil] at r; cases r; exact .nil
 | k::ks,_,r=>by
  rw [List.map_cons] at r
  cases r with
  | cons h t=>exact .cons (zMc h) (zHn t)
noncomputable abbrev KT (H:Hp):List (List Key×V)->List (List Key×Addr×Value)->Prop:=Paired fun p q=>p.1=q.1/\H q.2.1=some (.tup (p.1.map kV))/\RelV p.2 q.2.2
theorem KT.val {H:Hp} {kvs:List (List Key×V)} {xs:List (List Key×Addr×Value)} (r:KT H kvs xs) (k:List Key):RelO (valV kvs k) ((atKey xs k).map (·.2)):=by
 induction r with
 | nil=>exact True.intro
 | @cons p q ps qs h t ih=>
  obtain ⟨h1,_,h2⟩:=h
  by_cases e:p.1=k
  ·have e':q.1=k:=h1.symm.trans e
   have b:atKey (q::qs) k=some q.2:=by simp [atKey,List.find?_cons,e']
   rw [zBe e,b]; exact h2
  ·have e':¬ q.1=k:=fun z=>e (h1.trans z)
   have b:atKey (q::qs) k=atKey qs k:=by simp [atKey,List.find?_cons,e']
   rw [zBf e,b]; exact ih
theorem KT.repl {H:Hp} {kvs:List (List Key×V)} {xs:List (List Key×Addr×Value)} (r:KT H kvs xs) (k:List Key) {y:V} {u:Value} (ry:RelV y u):
  KT H (kvs.map fun kv=>if kv.1=k then (kv.1,y) else kv) (xs.map (putAt k u)):=by
 induction r with
 | nil=>exact .nil
 | @cons p q ps qs h t ih=>
  rw [List.map_cons,List.map_cons]
  refine .cons ?_ ih
  obtain ⟨h1,h2,h3⟩:=h
  unfold putAt
  by_cases e:p.1=k
  ·rw [if_pos e,if_pos (h1.symm.trans e)]; exact ⟨h1,h2,ry⟩
  ·rw [if_neg e,if_neg (fun z=>e (h1.trans z))]; exact ⟨h1,h2,h3⟩
theorem KT.put {H:Hp} {kvs:List (List Key×V)} {xs:List (List Key×Addr×Value)} (r:KT H kvs xs) (k:List Key) {b:Addr} {y:V} {u:Value} (hb:H b=some (.tup (k.map kV))) (ry:RelV y u):
  KT H (putK kvs k y) (storedH xs k b u):=by
 have e:(kvs.any fun kv=>decide (kv.1=k))=(atKey xs k).isSome:=by
  rw [zDY,(r.val k).isSome_eq,Option.isSome_map]
 unfold putK storedH
 rw [e]
 by_cases q:(atKey xs k).isSome=true
 ·rw [if_pos q,if_pos q]; exact r.repl k ry
 ·rw [if_neg q,if_neg q]; exact Paired.snoc r ⟨rfl,hb,ry⟩
theorem KT.keeps {H H':Hp} {kvs:List (List Key×V)} {xs:List (List Key×Addr×Value)} (r:KT H kvs xs) (ht:∀ b ys,H b=some (.tup ys)->H' b=some (.tup ys)):KT H' kvs xs:=
 Paired.mapP r fun _ _ z=>⟨z.1,ht _ _ z.2.1,z.2.2⟩
section
variable {P:Program} {w:World} {H:Hp} {h:Heap} {a:Addr}
theorem rd_of {u:HO} (ok:HOk P w H h) (e:Rd H a u):zBa P w H h a u:=e.ok ok
theorem zJQ {kvs:List (Key×V)} (ok:HOk P w H h) (e:Rd H a (.dK kvs)):kvs.length<=sizeLine/\(a==sysModules)=false/\∃ vs,KV kvs vs/\h.DictOf (zAV P w) a vs:=
 show zBa P w H h a (.dK kvs) from rd_of ok e
theorem dk_of {kvs:List (Key×V)} (ok:HOk P w H h) (e:H a=some (.dK kvs)):kvs.length<=sizeLine/\(a==sysModules)=false/\∃ vs,KV kvs vs/\h.DictOf (zAV P w) a vs:=zJQ ok (.inl e)
theorem zHm {ks:List Key} (ok:HOk P w H h) (e:H a=some (.tup (ks.map kV))):(tupleKind (zAV P w)).is h ks a:=by
 obtain ⟨_,its,r,o,h1,h2,n,h3⟩:=(show zBa P w H h a (.tup (ks.map kV)) from ok a _ e)
 exact ⟨o,its.toArray,n,h1,h2,h3,by simpa using zHn r⟩
theorem zJP {kvs:List (List Key×V)} (ok:HOk P w H h) (e:Rd H a (.dT kvs)):kvs.length<=sizeLine/\(a==sysModules)=false/\
  ∃ xs,KT H kvs xs/\h.DictOfH (tupleKind (zAV P w)) a xs:=by
 obtain ⟨z,y,xs,r,o,es,ep,h1,h2,h3,h4,h5⟩:=(show zBa P w H h a (.dT kvs) from rd_of ok e)
 refine ⟨z,y,xs,r,o,es,ep,h1,h2,h3,h4,fun x hx=>?_,h5⟩
 have all:∀ {l:List (List Key×V)} {m:List (List Key×Addr×Value)},KT H l m->∀ x∈m,(tupleKind (zAV P w)).is h x.1 x.2.1:=by
  intro l m q
  induction q with
  | nil=>intro x hx; exact nomatch hx
  | @cons p q ps qs hq t ih=>
   intro x hx
   rcases List.mem_cons.mp hx with e | hx
   ·subst e
    exact zHm ok (by rw [<- hq.1]; exact hq.2.1)
   ·exact ih x hx
 exact all r x hx
theorem dt_of {kvs:List (List Key×V)} (ok:HOk P w H h) (e:H a=some (.dT kvs)):kvs.length<=sizeLine/\(a==sysModules)=false/\
  ∃ xs,KT H kvs xs/\h.DictOfH (tupleKind (zAV P w)) a xs:=zJP ok (.inl e)
end
def DGet (H:Hp) (a:Addr) (y:V) (r:Option V):Prop:=
 (∃ kvs k,Rd H a (.dK kvs)/\y=kV k/\r=valV kvs k)\/∃ kvs k b,Rd H a (.dT kvs)/\y = .ref b/\H b=some (.tup (k.map kV))/\r=valV kvs k
def DPut (H:Hp) (a:Addr) (y v:V) (H':Hp):Prop:=
 (∃ kvs k,H a=some (.dK kvs)/\y=kV k/\kvs.length<sizeLine/\H'=upd H a (.dK (putK kvs k v)))\/
 ∃ kvs k b,H a=some (.dT kvs)/\y = .ref b/\H b=some (.tup (k.map kV))/\kvs.length<sizeLine/\H'=upd H a (.dT (putK kvs k v))
theorem DGet.k {H:Hp} {a:Addr} {kvs:List (Key×V)} {k:Key} (e:H a=some (.dK kvs)):DGet H a (kV k) (valV kvs k):=.inl ⟨kvs,k,.inl e,rfl,rfl⟩
theorem DPut.k {H:Hp} {a:Addr} {kvs:List (Key×V)} {k:Key} {v:V} (e:H a=some (.dK kvs)) (hl:kvs.length<sizeLine):DPut H a (kV k) v (upd H a (.dK (putK kvs k v))):=.inl ⟨kvs,k,e,rfl,hl,rfl⟩
section
variable {X:Cx} {pins:List (Addr×Obj)} {σ:St} {H:Hp} {s:Shared} {a:Addr} {y v:V} {u r:Value} {o:Option V} {A:Around} {E:Value->Shared->Prop}
theorem Inv.big (I:Inv X pins σ H s):sysModules<s.heap.objs.size:=by
 have h:mainGlobals<s.heap.objs.size:=(I.mod.glob.keeps I.bk).lt
 exact Nat.lt_trans (by decide) h
theorem zMx {Q:Value->Shared->Prop} (hu:A.units+1<cLine) (I:Inv X pins σ H s) (g:DGet H a y (some v)) (ry:RelV y u) (h:∀ w' s',Inv X pins σ H s'->RelV v w'->Q w' s'):
  wpAny (model X.prog X.w) A (getItem (.ref a) u) Q E s:=by
 rcases g with ⟨kvs,k,e,ey,l⟩ | ⟨kvs,k,b,e,ey,eb,l⟩
 ·subst ey
  obtain ⟨z,hd,vs,rel,dd⟩:=zJQ I.hok e
  obtain ⟨w',hw,rw'⟩:=RelO.some_of (v:=v) (o:=valueAt vs k) (by rw [l]; exact rel.val k)
  exact wpAny_getItem_of (zMc ry) dd.mapOf hw (h w' _ (I.tok _) rw')
 ·subst ey
  cases (show u=Value.ref b from ry)
  obtain ⟨z,hd,xs,rel,dd⟩:=zJP I.hok e
  obtain ⟨w',hw,rw'⟩:=RelO.some_of (v:=v) (o:=(atKey xs k).map (·.2)) (by rw [l]; exact rel.val k)
  obtain ⟨p,hp,hp2⟩:=Option.map_eq_some_iff.mp hw
  refine wpAny_getItem_heap (tupleKind_room_in1 hu) (zHm I.hok eb) dd hp ?_
  rw [hp2]
  exact h w' _ (I.tok _) rw'
theorem d_in {Q:Value->Shared->Prop} (hu:A.units+1<cLine) (I:Inv X pins σ H s) (g:DGet H a y o) (ry:RelV y u) (h:∀ s',Inv X pins σ H s'->Q (.bool o.isSome) s'):
  wpAny (model X.prog X.w) A (compareOp .In u (.ref a)) Q E s:=by
 rcases g with ⟨kvs,k,e,ey,l⟩ | ⟨kvs,k,b,e,ey,eb,l⟩
 ·subst ey
  obtain ⟨z,hd,vs,rel,dd⟩:=zJQ I.hok e
  refine wpAny_in_of (zMc ry) hd dd.mapOf ?_
  rw [<- (rel.val k).isSome_eq,<- l]
  exact h _ (I.tok _)
 ·subst ey
  cases (show u=Value.ref b from ry)
  obtain ⟨z,hd,xs,rel,dd⟩:=zJP I.hok e
  refine wpAny_in_heap (tupleKind_room_in1 hu) (zHm I.hok eb) hd dd ?_
  have q:=(rel.val k).isSome_eq
  rw [Option.isSome_map] at q
  rw [<- q,<- l]
  exact h _ (I.tok _)
theorem zMv {h':Heap} {t':Nat} {ob:HO} (I:Inv X pins σ H s) (mu:Mut (H a)) (hs:Heap.SameBut a s.heap h') (he:∃ q,h'.get? a=some q) (new:zBa X.prog X.w (upd H a ob) h' a ob):
  Inv X pins σ (upd H a ob) { s with heap:=h',toks:=t' }:=
 I.write (x:=a) (e:=a) mu (.inl rfl) (fun b q hb z=>(hs.2 b hb).trans z) he new
theorem dk_new {P:Program} {w:World} {H':Hp} {h':Heap} {kvs:List (Key×V)} {vs:List (Key×Value)} (z:kvs.length<=sizeLine) (hd:(a==sysModules)=false) (rel:KV kvs vs) (dd:h'.DictOf (zAV P w) a vs):
  zBa P w H' h' a (.dK kvs):=⟨z,hd,vs,rel,dd⟩
theorem zMw {H':Hp} {Q:Unit->Shared->Prop} (hu:A.units+1<cLine) (I:Inv X pins σ H s) (g:DPut H a y v H') (ry:RelV y u) (rv:RelV v r) (h:∀ s',Inv X pins σ H' s'->Q () s'):
  wpAny (model X.prog X.w) A (setItem (.ref a) u r) Q E s:=by
 rcases g with ⟨kvs,k,e,ey,l,eH⟩ | ⟨kvs,k,b,e,ey,eb,l,eH⟩
 ·subst ey eH
  obtain ⟨z,hd,vs,rel,dd⟩:=dk_of I.hok e
  have hz:vs.length<=sizeLine:=by rw [<- rel.length]; exact z
  have hl:(putK kvs k v).length<=sizeLine:=by have:=zEN kvs k v; omega
  refine wpAny_setItem_pairs (hsz:=hz) (zMc ry) dd fun h' dd' hs=>h _ ?_
  have he:∃ q,h'.get? a=some q:=let ⟨q,_,_,hq,_⟩:=dd'; ⟨q,hq⟩
  exact zMv I (by rw [e]; exact True.intro) hs he (dk_new hl hd (rel.put k rv) dd')
 ·subst ey eH
  cases (show u=Value.ref b from ry)
  obtain ⟨z,hd,xs,rel,dd⟩:=dt_of I.hok e
  have hz:xs.length<=sizeLine:=by rw [<- Paired.length rel]; exact z
  have hl:(putK kvs k v).length<=sizeLine:=by have:=zEN kvs k v; omega
  refine wpAny_setItem_heap (hsz:=hz) (tupleKind_room_in1 hu) (zHm I.hok eb) dd fun h' dd' hs=>h _ ?_
  obtain ⟨q,es,ep,hq,h2,h3,h4,_,h5⟩:=dd'
  refine zMv I (by rw [e]; exact True.intro) hs ⟨q,hq⟩ ⟨hl,hd,_,(rel.put k eb rv).keeps fun c ys ec=>?_,q,es,ep,hq,h2,h3,h4,h5⟩
  rw [uN (zCc ec e (fun z=>nomatch z))]
  exact ec
end
def NoSl (i:Expr):Prop:=∀ ov iv,subscripted i false ov iv=operate [ov,iv] (getItem ov iv)
theorem zKq {prog:Program} {w:World} {A:Around} {E:Value->Shared->Prop} {s:Shared} {env:Env} {value slice:Expr} {pos:Pos} {T id:String} {Q:Value->Shared->Prop}
  (hl:typeLookup (.type T) "__getitem__" = pure (some (.builtin id))) (hs:NoSl slice)
  (h:wpAny (model prog w) A (eval value env) (fun o s₁=>wpAny (model prog w) A (eval slice env) (fun i s₂=>s₂.TypeIs o T/\wpAny (model prog w) A (getItem o i) Q E s₂) E s₁) E s):
  wpAny (model prog w) A (eval (.Subscript value slice pos) env) Q E s:=by
 refine Subscript_ (wpAny_mono h (fun o s₁ h₁=>wpAny_mono h₁ (fun i s₂ h₂=>?_) fun _ _ x=>x) fun _ _ x=>x)
 obtain ⟨hT,h₂⟩:=h₂
 unfold subscriptTail
 refine wpAny_bind ?_
 rw [getitemInPython_of_ne hT.not_modules]
 refine wpAny_bind (wpAny_specialOf hT hl ?_)
 have fin:wpAny (model prog w) A (subscripted slice false o i) (fun r s₃=>wpAny (model prog w) A (letTemporaryGo value o r >>= fun _=>pure r) Q E s₃) E s₂:=by
  rw [hs o i]
  exact wpAny_operating (wpAny_mono h₂ (fun r s₃ h₃=>wpAny_bind (wpAny_letTemporaryGo (wpAny_pure h₃))) fun _ _ x=>x)
 first
  | exact wpAny_pure (wpAny_bind fin)
  | exact wpAny_bind (wpAny_pure (wpAny_bind fin))
  | exact wpAny_bind fin
theorem zIu {X:Cx} {pins:List (Addr×Obj)} {σ:St} {H:Hp} {s:Shared} {a:Addr} {y:V} {o:Option V} (I:Inv X pins σ H s) (g:DGet H a y o):s.TypeIs (.ref a) "dict" := by
 rcases g with ⟨kvs,k,e,_,_⟩ | ⟨kvs,k,b,e,_,_,_⟩
 ·obtain ⟨_,_,vs,_,dd⟩:=zJQ I.hok e
  exact dd.typeIs
 ·obtain ⟨_,_,xs,_,dd⟩:=zJP I.hok e
  exact dd.typeIs
noncomputable def tDGet (td ty:TE):TE:=fun σ H Q=>td σ H fun x H1=>ty σ H1 fun y H2=>∃ a v,x = .ref a/\DGet H2 a y (some v)/\Q v H2
noncomputable def tDIn (ty td:TE):TE:=fun σ H Q=>ty σ H fun y H1=>td σ H1 fun x H2=>∃ a o,x = .ref a/\DGet H2 a y o/\Q (.bl o.isSome) H2
noncomputable def zNa (td ty tv:TE):TS:=fun D σ H=>tv σ H fun v H1=>td σ H1 fun x H2=>ty σ H2 fun y H3=>∃ a H4,x = .ref a/\DPut H3 a y v H4/\D.nx σ H4
section
variable {X:Cx} {o i e value:Expr} {pos pos' tpos:Pos} {td ty tv:TE}
theorem zIi (hu:X.A.units+1<cLine) (ho:PE X o td) (hi:PE X i ty) (hs:NoSl i):PE X (.Subscript o i pos) (tDGet td ty):=by
 intro pins s σ H Q I h
 refine zKq PySem.F.slot_dict_getitem.lookup hs (thn (ho pins s σ H _ I h) fun u s1 ⟨x,H1,I1,rx,q1⟩=>thn (hi pins s1 σ H1 _ I1 q1) fun iv s2 ⟨y,H2,I2,ry,a,v,ex,g,q2⟩=>?_)
 subst ex
 obtain rfl:u=Value.ref a:=rx
 exact ⟨zIu I2 g,zMx hu I2 g ry fun w' s3 I3 rw'=>⟨v,H2,I3,rw',q2⟩⟩
theorem pc_din (hu:X.A.units+1<cLine) (hi:PE X i ty) (ho:PE X o td):PC X .In i o (tDIn ty td):=by
 intro pins s σ H Q I h
 refine thn (hi pins s σ H _ I h) fun iv s1 ⟨y,H1,I1,ry,q1⟩=>thn (ho pins s1 σ H1 _ I1 q1) fun u s2 ⟨x,H2,I2,rx,a,ov,ex,g,q2⟩=>?_
 subst ex
 obtain rfl:u=Value.ref a:=rx
 exact d_in hu I2 g ry fun s3 I3=>⟨.bl ov.isSome,H2,I3,rfl,q2⟩
theorem zGg (hu:X.A.units+1<cLine) (ho:PE X o td) (hi:PE X i ty) (hv:PE X value tv) (hs:swapsWith value (some (.Subscript o i pos')) pos.line X.env=pure false):
  PS X (.Assign [.Subscript o i pos'] value pos) (zNa td ty tv):=by
 intro pins s σ H D I h
 refine wpAny_Assign_Subscript (thn (hv pins s σ H _ I h) fun r s1 ⟨v,H1,I1,rv,q1⟩=>thn (ho pins s1 σ H1 _ I1 q1) fun u s2 ⟨x,H2,I2,rx,q2⟩=>thn (hi pins s2 σ H2 _ I2 q2) fun iv s3 ⟨y,H3,I3,ry,a,H4,ex,g,q3⟩=>?_) hs
 subst ex
 obtain rfl:u=Value.ref a:=rx
 exact zMw hu I3 g ry rv fun s4 I4=>⟨σ,H4,I4,q3⟩
end
theorem zNV {P:Program} {w:World} {H:Hp} (h:Heap) (hb:sysModules<h.objs.size):zBa P w H (h.push { cls:=.type "dict",data:=.dict #[] }) h.objs.size (.dK []):=
 ⟨Nat.zero_le _,beq_eq_false_iff_ne.mpr (Ne.symm (Nat.ne_of_lt hb)),[],.nil,Heap.DictOf.new h⟩
noncomputable def tDNewK:TE:=fun _ H Q=>∀ p,H p=none->Q (.ref p) (upd H p (.dK []))
section
variable {X:Cx} {pos:Pos}
theorem zEg:PE X (.Dict [] [] pos) tDNewK:=fun pins s σ H Q I h=>
 wpAny_Dict_empty ⟨.ref s.heap.objs.size,_,I.laid (a:=s.heap.objs.size) (o:=.dK []) (t':=s.toks) (fun _ _ q=>Heap.get?_push_of_some _ q) (Nat.le_refl _) (zNV s.heap I.big),rfl,h _ (I.hok.fresh (Nat.le_refl _))⟩
end
structure M1 (X:Cx) (o:Expr) (m:Str) (apos:Pos) (e:Expr) (cpos:Pos):Prop where
 base:attributeBase o m X.env (eval o X.env)=eval o X.env
 few:((backTo cpos (starEach [e] X.env)).all (fun x=>!x.1)&&(backToKw cpos (keywordEach [] X.env)).all (fun x=>x.1.isSome)
  && decide (([e]:List Expr).length+([]:List Keyword).length+(if ([]:List Keyword).isEmpty then 0 else 1)<30))=true
 line:(apos.endLine==cpos.line)=true
 trees:backTo cpos (starEach [e] X.env)=[(false,eval e X.env)]
def IsD (H:Hp) (a:Addr):Prop:=(∃ kvs,Rd H a (.dK kvs))\/∃ kvs,Rd H a (.dT kvs)
theorem isD_at {X:Cx} {pins:List (Addr×Obj)} {σ:St} {H:Hp} {s:Shared} {a:Addr} (I:Inv X pins σ H s) (d:IsD H a):
  s.TypeIs (.ref a) "dict" /\ (∀ b,Value.ref a = .ref b->∃ ob,s.heap.get? b=some ob/\ob.dict=none)/\(a==sysModules)=false:=by
 rcases d with ⟨kvs,e⟩ | ⟨kvs,e⟩
 ·obtain ⟨_,hd,vs,_,dd⟩:=zJQ I.hok e
  refine ⟨dd.typeIs,fun b q=>?_,hd⟩
  cases q
  obtain ⟨ob,_,_,h1,h2,_⟩:=dd
  exact ⟨ob,h1,h2.2.1⟩
 ·obtain ⟨_,hd,xs,_,dd⟩:=zJP I.hok e
  refine ⟨dd.typeIs,fun b q=>?_,hd⟩
  cases q
  obtain ⟨ob,_,_,h1,h2,_⟩:=dd
  exact ⟨ob,h1,h2.2.1⟩
section
variable {X:Cx} {pins:List (Addr×Obj)} {σ:St} {H:Hp} {s:Shared} {a:Addr} {y d:V} {u r:Value} {o:Option V} {A:Around} {E:Value->Shared->Prop}
theorem d_get1 {Q:Value->Shared->Prop} (hu:A.units+1<cLine) (I:Inv X pins σ H s) (g:DGet H a y o) (ry:RelV y u) (h:∀ w' s',Inv X pins σ H s'->RelV (o.getD .non) w'->Q w' s'):
  wpAny (model X.prog X.w) A (call (.builtin "dict.get") [.ref a,u]) Q E s:=by
 rcases g with ⟨kvs,k,e,ey,l⟩ | ⟨kvs,k,b,e,ey,eb,l⟩
 ·subst ey
  obtain ⟨z,hd,vs,rel,dd⟩:=zJQ I.hok e
  refine call_meetsIn PySem.F.slot_dict_get dd.typeIs PySem.F.entry_dict_get (PySem.F.args_dict_get_2 _ _) (meets_dict_get (zAV X.prog X.w) a (zMc ry) hd) ⟨_,dd.mapOf,h _ _ (I.tok _) ?_⟩
  rw [l]
  exact (rel.val k).getD rfl
 ·subst ey
  cases (show u=Value.ref b from ry)
  obtain ⟨z,hd,xs,rel,dd⟩:=zJP I.hok e
  refine call_meetsIn PySem.F.slot_dict_get dd.typeIs PySem.F.entry_dict_get (PySem.F.args_dict_get_2 _ _) (meetsH_dict_get (tupleKind (zAV X.prog X.w)) a b hd) ⟨tupleKind_room_in1 hu,k,xs,zHm I.hok eb,dd,h _ _ (I.tok _) ?_⟩
  rw [l]
  exact (rel.val k).getD rfl
end
noncomputable def tDGet1 (td ty:TE):TE:=fun σ H Q=>td σ H fun x H1=>∃ a,x = .ref a/\IsD H1 a/\ty σ H1 fun y H2=>∃ o,DGet H2 a y o/\Q (o.getD .non) H2
section
variable {X:Cx} {o e f:Expr} {apos cpos:Pos} {td ty tx:TE}
theorem zIU (hu:X.A.units+1<cLine) (ho:PE X o td) (he:PE X e ty) (m:M1 X o "get" apos e cpos):PE X (.Call (.Attribute o "get" apos) [e] [] cpos) (tDGet1 td ty):=by
 intro pins s σ H Q I h
 refine wpAny_Call_method m.base m.few m.line PySem.F.plainAttrs_dict PySem.F.slot_dict_get PySem.F.type_dict_get (thn (ho pins s σ H _ I h) fun u s1 ⟨x,H1,I1,rx,a,ex,d,q1⟩=>?_)
 subst ex
 obtain rfl:u=Value.ref a:=rx
 obtain ⟨t1,t2,_⟩:=isD_at I1 d
 refine ⟨t1,t2,?_⟩
 rw [m.trees]
 refine Calls.callWith_builtin rfl (Calls.evalArgs_plain (Calls.spliced_cons (thn (he pins s1 σ H1 _ I1 q1) fun iv s2 ⟨y,H2,I2,ry,ov,g,q2⟩=>Calls.spliced_nil ?_)))
 exact d_get1 hu I2 g ry fun w' s3 I3 rw'=>⟨_,H2,I3,rw',q2⟩
end
end L2
namespace L2
open PySem PySem.Spec PyProof.Rows
section
variable {X:Cx} {pins:List (Addr×Obj)} {σ:St} {H:Hp} {s:Shared} {h':Heap}
theorem Inv.turnedL {t':Nat} {ch:List Addr} (I:Inv X pins σ H s) (k:∀ b o,b∉ch->s.heap.get? b=some o->h'.get? b=some o) (hf:∀ b∈ch,FpOk X pins H b):Inv X pins σ H { s with heap:=h',toks:=t' }:=by
 have nit:∀ b u,H b=some u->b∉ch:=fun b u e z=>by
  have q:=(hf b z).1
  rw [q] at e; cases e
 refine I.step (g':=s.gens) (d':=s.drawn) (ch:=ch) (fun b hb=>⟨(hf b hb).2.2.2.1,(hf b hb).2.1,(hf b hb).2.2.2.2.1,(hf b hb).2.2.2.2.2⟩) (fun b o _ _ hc e _=>k b o hc e) (fun b o _ _ hc e _=>⟨o.slots,k b o hc e⟩)
  (fun _ _ _ _ n=>n) (fun b o hc e=>⟨o,k b o hc e⟩) (fun _ _ e=>e) (fun _ _ _ e=>e) (fun b ps e=>⟨#[],by rw [e]; simp⟩) (fun m hm=>?_) (fun b u e=>?_) I.bare
 ·obtain ⟨o,es,ep,ho,r⟩:=hm
  exact ⟨o,es,ep,k _ o (fun z=>(hf _ z).2.1 rfl) ho,r⟩
 ·refine (I.hok b u e).stay (fun c v hc q=>k c v ?_ q) (fun _ q=>q) fun _ _ q=>q
  rcases hc with z | z
  ·rw [z]; exact nit b u e
  ·exact nit c _ z
theorem Inv.turnedNew {t':Nat} {ch:List Addr} {T:Addr} {ob:HO} (I:Inv X pins σ H s) (k:∀ b o,b∉ch->s.heap.get? b=some o->h'.get? b=some o) (hf:∀ b∈ch,FpOk X pins H b) (hT:s.heap.objs.size<=T)
  (new:zBa X.prog X.w (upd H T ob) h' T ob):Inv X pins σ (upd H T ob) { s with heap:=h',toks:=t' }:=by
 have hn:H T=none:=I.hok.fresh hT
 have nit:∀ b u,H b=some u->b∉ch:=fun b u e z=>by
  have q:=(hf b z).1
  rw [q] at e; cases e
 refine I.step (g':=s.gens) (d':=s.drawn) (ch:=ch) (fun b hb=>⟨(hf b hb).2.2.2.1,(hf b hb).2.1,(hf b hb).2.2.2.2.1,(hf b hb).2.2.2.2.2⟩) (fun b o _ _ hc e _=>k b o hc e) (fun b o _ _ hc e _=>⟨o.slots,k b o hc e⟩)
  (fun b o _ e n=>?_) (fun b o hc e=>⟨o,k b o hc e⟩) (fun b xs e=>?_) (fun b o u e=>?_) (fun b ps e=>⟨#[],?_⟩) (fun m hm=>?_) (fun b u e=>?_) I.bare
 ·rw [uN (Nat.ne_of_lt (Nat.lt_of_lt_of_le (Heap.lt_size e) hT))]; exact n
 ·rw [uN (nN e hn)]; exact e
 ·rw [uN (nN e hn)]; exact e
 ·rw [uN (nN e hn),e]; simp
 ·obtain ⟨o,es,ep,ho,r⟩:=hm
  exact ⟨o,es,ep,k _ o (fun z=>(hf _ z).2.1 rfl) ho,r⟩
 ·by_cases hb:b=T
  ·subst hb
   rw [uS] at e
   cases e
   exact new
  ·rw [uN hb] at e
   refine (I.hok b u e).stay (fun c v hc q=>k c v ?_ q) (fun c q=>by rw [uN (nN q hn)]; exact q) fun c xs q=>by rw [uN (nN q hn)]; exact q
   rcases hc with z | z
   ·rw [z]; exact nit b u e
   ·exact nit c _ z
end
section
variable {X:Cx}
theorem zLn {tg:Expr} {pins:List (Addr×Obj)} {σ:St} {H:Hp} {s:Shared} {R:It->Hp->Prop} {J:It} {tn:Nat->Heap->Prop} {tk:Nat} (I:Inv X pins σ H s) (o:Obj)
  (T:Turn X.prog X.w X.K tg J [s.heap.objs.size] s.heap.objs.size tn) (st:tn 0 (s.heap.push o)) (q:R J H):PIE X pins σ tg R (.ref s.heap.objs.size) { s with heap:=s.heap.push o,toks:=tk }:=by
 refine ⟨s.heap.objs.size,[s.heap.objs.size],tn,J,H,rfl,I.kept fun b ob e=>Heap.get?_push_of_some _ e,T,st,fun b hb=>?_,q⟩
 have e:b=s.heap.objs.size:=by simpa using hb
 subst e
 exact I.fpOk (Nat.le_refl _) (I.hok.fresh (Nat.le_refl _))
end
noncomputable def Itc (lo c:Int) (n:Nat):It:=⟨fun i _=>i<n,fun i H x H'=>H'=H/\x = .int (lo+(i:Nat)*c),fun i _=>n<=i⟩
theorem zHG {P:Program} {w:World} {K:PySem.W.Frag} {tg:Expr} (it:Addr) (lo c:Int) (n:Nat):Turn P w K tg (Itc lo c n) [it] it (fun i h=>IsRangeIter h it (lo+(i:Nat)*c) ((n:Int)-(i:Nat)) c) where
 mem:=by simp
 obj:=fun i h st b hb=>by
  have e:b=it:=by simpa using hb
  subst e
  exact ⟨_,st,fun v z=>nomatch z⟩
 keep:=fun i h h' st k=>k it (by simp) _ st
 item:=by
  intro X hP hw hK hc i pins s σ H E I hf st hg
  subst hP hw hK
  obtain ⟨f0,f1,f2,f3,f4,f5⟩:=hf it (by simp)
  have W:=Walks.range (prog:=X.prog) (w:=X.w) (I.ok.hd hc) it lo c n
  refine W.item i s _ _ hg st fun v h' tk hv st' kk=>?_
  obtain ⟨t,rfl⟩:=hv
  have I1:Inv X pins σ H { s with heap:=h',toks:=tk }:=I.turned (fun b o hb e=>kk b o (by simpa using hb) e) f0 f1 f3 f4 f5
  exact ⟨_,rfl,zNM (s:={ s with heap:=h',toks:=tk }) (n:= "range_iterator") st' rfl rfl (by decide) ⟨.int (lo+(i:Nat)*c),H,I1,⟨t,rfl⟩,⟨rfl,rfl⟩,st',fun b hb=>(hf b hb).1⟩⟩
 done:=by
  intro X hP hw hK hc i pins s σ H E I hf st hg
  subst hP hw hK
  obtain ⟨f0,f1,f2,f3,f4,f5⟩:=hf it (by simp)
  exact wpAny_pyNext_range_end (I.ok.hd hc) st (by have:n<=i:=hg; omega) fun h' eb=>⟨rfl,I.turned (t':=s.toks) (fun b o hb e=>eb b o hb e) f0 f1 f3 f4 f5⟩
 self:=fun A i s Q E st h=>wpAny_pyIter_rangeiter st h
def RgC (i j c:Int) (n:Nat):Prop:=c≠0/\c.natAbs<1073741824/\Builtin.Range.small i j c=true/\Builtin.Range.rangeSize i j c=n
noncomputable def iRng3 (ta:TA):TI:=fun σ H R=>ta σ H fun vs H1=>∃ (i j c:Int) (n:Nat),vs=[.int i,.int j,.int c]/\RgC i j c n/\R (Itc i c n) H1
section
variable {X:Cx} {tg:Expr}
theorem zLl {a b c:Expr} {ta:TA} {p pos:Pos} (hg:Gl X "range") (hm:X.mg "range" = none) (ha:PA X [a,b,c] ta)
  (hs:starEach [a,b,c] X.env=(false,eval a X.env)::starEach [b,c] X.env:=by rfl) (hpl:(backTo pos (starEach [b,c] X.env)).any (·.1)=false:=by rfl):
  PI X tg (.Call (.Name "range" p) [a,b,c] [] pos) (iRng3 ta):=by
 intro pins s σ H R I h
 refine Call_ (zDL I hg hm boot_range (PyProof.Rows.callWith_type1 (thn (ha pos pins s σ H _ I h) fun us s1 ⟨vs,H1,I1,r1,q1⟩=>?_) hs hpl))
 obtain ⟨i,j,k,n,e,⟨c0,c1,c2,c3⟩,q⟩:=q1
 subst e
 cases r1 with
 | cons r rr=>
  cases rr with
  | cons r' rr=>
   cases rr with
   | cons r'' rr=>
    cases rr
    obtain ⟨t,rfl⟩:=r
    obtain ⟨t',rfl⟩:=r'
    obtain ⟨t'',rfl⟩:=r''
    refine call_range_3 c0 ?_ (.inl (PyProof.noPylong_small c1))
    refine wpAny_pyIter_range (IsRange.new ..) c2 ?_
    have I2:Inv X pins σ H1 { s1 with heap:=s1.heap.push { cls:=.type "range",data:=.fields #[.int i t,.int j t',.int k t''] } }:=I1.kept (t':=s1.toks) fun b o e=>Heap.get?_push_of_some _ e
    refine zLn (tk:=s1.toks) I2 _ (zHG _ i k n) ?_ q
    have e1:i+((0:Nat):Int)*k=i:=by simp
    have e2:(n:Int)-((0:Nat):Int)=Builtin.Range.rangeSize i j k:=by rw [c3]; simp
    show IsRangeIter _ _ (i+((0:Nat):Int)*k) ((n:Int)-((0:Nat):Int)) k
    rw [e1,e2]
    exact Heap.get?_push_size _ rfl
end
noncomputable def Its (x:Str):It:=⟨fun i _=>i<x.cps.size,fun i H v H'=>H'=H/\∃ c,x.cps[i]? = some c/\v = .str ⟨#[c]⟩,fun i _=>x.cps.size<=i⟩
theorem zIC {P:Program} {w:World} {K:PySem.W.Frag} {tg:Expr} (it:Addr) (x:Str) (t:Tok) (ty:String) (hty:ty= "str_ascii_iterator" \/ ty= "str_iterator"):
  Turn P w K tg (Its x) [it] it (fun i h=>h.IsStrIter it ty x t i) where
 mem:=by simp
 obj:=fun i h st b hb=>by
  have e:b=it:=by simpa using hb
  subst e
  obtain ⟨o,e,c,d⟩:=st
  exact ⟨o,e,fun v z=>by rw [d] at z; cases z⟩
 keep:=fun i h h' st k=>let ⟨o,ho,r⟩:=st; ⟨o,k it (by simp) o ho,r⟩
 item:=by
  intro X hP hw hK hc i pins s σ H E I hf st hg
  subst hP hw hK
  obtain ⟨f0,f1,f2,f3,f4,f5⟩:=hf it (by simp)
  have W:Walks X.prog X.w X.A it [it] [it] x.cps.size (SignAt x) (fun i h=>h.IsStrIter it ty x t i):=by
   rcases hty with e | e
   ·rw [e]; exact Walks.strAscii (I.ok.hd hc) it x t
   ·rw [e]; exact Walks.strWide (I.ok.hd hc) it x t
  have hno:["enumerate","zip","dict_itemiterator","dict_reverseitemiterator","odict_iterator","itertools.zip_longest","itertools.pairwise"].contains ty=false:=by
   rcases hty with e | e
   ·rw [e]; decide
   ·rw [e]; decide
  refine W.item i s _ _ hg st fun v h' tk hv st' kk=>?_
  obtain ⟨c,u,hcx,rfl⟩:=hv
  have I1:Inv X pins σ H { s with heap:=h',toks:=tk }:=I.turned (fun b o hb e=>kk b o (by simpa using hb) e) f0 f1 f3 f4 f5
  obtain ⟨oi,e,cc,dd⟩:=id st'
  exact ⟨_,rfl,zNM (s:={ s with heap:=h',toks:=tk }) e cc dd hno ⟨.str ⟨#[c]⟩,H,I1,⟨u,rfl⟩,⟨rfl,c,hcx,rfl⟩,st',fun b hb=>(hf b hb).1⟩⟩
 done:=by
  intro X hP hw hK hc i pins s σ H E I hf st hg
  subst hP hw hK
  obtain ⟨f0,f1,f2,f3,f4,f5⟩:=hf it (by simp)
  have hx:x.cps[i]? = none:=Array.getElem?_eq_none hg
  rcases hty with e | e
  ·rw [e] at st
   exact wpAny_pyNext_ascii_end (I.ok.hd hc) st hx fun h' eb=>⟨rfl,I.turned (t':=s.toks) (fun b o hb e=>eb b o hb e) f0 f1 f3 f4 f5⟩
  ·rw [e] at st
   exact wpAny_pyNext_wide_end (I.ok.hd hc) st hx fun h' eb=>⟨rfl,I.turned (t':=s.toks) (fun b o hb e=>eb b o hb e) f0 f1 f3 f4 f5⟩
 self:=fun A i s Q E st h=>by
  rcases hty with e | e
  ·rw [e] at st; exact wpAny_pyIter_striter_ascii st h
  ·rw [e] at st; exact wpAny_pyIter_striter_wide st h
noncomputable def iStr (te:TE):TI:=fun σ H R=>te σ H fun v H1=>∃ x,v = .str x/\R (Its x) H1
theorem pi_str {X:Cx} {tg e:Expr} {te:TE} (he:PE X e te):PI X tg e (iStr te):=by
 intro pins s σ H R I h
 refine thn (he pins s σ H _ I h) fun v s1 ⟨y,H1,I1,r1,x,ex,q⟩=>?_
 subst ex
 obtain ⟨t,rfl⟩:=r1
 cases ha:x.cps.all (· < 128)
 ·exact wpAny_pyIter_wide ha (zLn (tk:=s1.toks) I1 _ (zIC _ x t "str_iterator" (.inr rfl)) ⟨_,Heap.get?_push_size _ rfl,rfl,rfl⟩ q)
 ·exact wpAny_pyIter_ascii ha (zLn (tk:=s1.toks) I1 _ (zIC _ x t "str_ascii_iterator" (.inl rfl)) ⟨_,Heap.get?_push_size _ rfl,rfl,rfl⟩ q)
noncomputable def Ite (K:PySem.W.Frag) (a:Addr):It:=
 ⟨fun i H=>∃ (xs:List V) (x:V),SqL K H a xs/\xs[i]? = some x,fun i H v H'=>∃ T x,v = .ref T/\H T=none/\H'=upd H T (.tup [.int (i:Nat),x])/\∀ xs,SqL K H a xs->xs[i]? = some x,fun i H=>∃ xs:List V,SqL K H a xs/\xs.length<=i⟩
theorem zKm {P:Program} {w:World} {K:PySem.W.Frag} {elts:List Expr} {kk:Nat} {tpos:Pos} (a e it:Addr):
  Turn P w K (.Tuple elts kk tpos) (Ite K a) [e,it] e (fun i h=>(∃ old,IsEnum h e it ((i:Nat):Int) old)/\h.IsListIter it a i/\e≠it) where
 mem:=by simp
 obj:=fun i h st b hb=>by
  obtain ⟨⟨old,he⟩,⟨o,ho,hc,hd⟩,_⟩:=st
  have e':b=e\/b=it:=by simpa using hb
  rcases e' with z | z
  ·rw [z]; exact ⟨_,he,fun v q=>nomatch q⟩
  ·rw [z]; exact ⟨o,ho,fun v q=>by rw [hd] at q; cases q⟩
 keep:=fun i h h' st k=>let ⟨⟨old,he⟩,hi,hne⟩:=st; ⟨⟨old,k e (by simp) _ he⟩,hi.at fun o q=>k it (by simp) o q,hne⟩
 item:=by
  intro X hP hw hK hc i pins s σ H E I hf st hg
  subst hP hw hK
  obtain ⟨⟨old,he⟩,hit,hne⟩:=st
  obtain ⟨xs,x,hq,hx⟩:=hg
  obtain ⟨its,rv,p,hz⟩:=I.list hq
  obtain ⟨u,hu,ru⟩:=rv.get hx
  have hel:e<s.heap.objs.size:=Heap.lt_size he
  have hil:it<s.heap.objs.size:=by obtain ⟨_,q,_⟩:=hit; exact Heap.lt_size q
  refine wpAny_pyNext_enum_item he hit p.isList (x:=u) (by simpa using hu) hne fun h' ho hit' hT hsz hk=>?_
  refine ⟨_,rfl,wpAny_letOwnedTupleGo_enum (s:={ s with heap:=h',toks:=s.toks+1 }) ho fun h'' he' sb=>?_⟩
  have hT2:h''.get? s.heap.objs.size=some { cls:=.type "tuple",data:=.seq #[.int i s.toks,u] }:=(sb.2 _ (Nat.ne_of_gt hel)).trans hT
  have new:zBa X.prog X.w (upd H s.heap.objs.size (.tup [.int (i:Nat),x])) h'' s.heap.objs.size (.tup [.int (i:Nat),x]):=
   ⟨by show 2<=sizeLine; decide,[.int i s.toks,u],.cons ⟨_,rfl⟩ (.cons ru .nil),⟨_,hT2,rfl,_,rfl⟩⟩
  have I1:Inv X pins σ (upd H s.heap.objs.size (.tup [.int (i:Nat),x])) { s with heap:=h'',toks:=s.toks+1 }:=
   I.turnedNew (ch:=[e,it]) (fun b ob hb q=>(sb.2 b (fun z=>hb (by simp [z]))).trans (hk b ob (fun z=>hb (by simp [z])) (fun z=>hb (by simp [z])) q)) hf (Nat.le_refl _) new
  refine ⟨.ref s.heap.objs.size,_,I1,rfl,⟨_,x,rfl,I.hok.fresh (Nat.le_refl _),rfl,fun ys hy=>by rw [I.list_inj hy hq]; exact hx⟩,⟨⟨u,?_⟩,hit'.at fun o q=>(sb.2 it (Ne.symm hne)).trans q,hne⟩,fun b hb=>?_⟩
  ·have e1:((i+1:Nat):Int)=(i:Int)+1:=by omega
   rw [e1]; exact he'
  ·have hb':b<s.heap.objs.size:=by
    have e':b=e\/b=it:=by simpa using hb
    rcases e' with z | z
    ·rw [z]; exact hel
    ·rw [z]; exact hil
   rw [uN (Nat.ne_of_lt hb')]
   exact (hf b hb).1
 done:=by
  intro X hP hw hK hc i pins s σ H E I hf st hg
  subst hP hw hK
  obtain ⟨⟨old,he⟩,hit,hne⟩:=st
  obtain ⟨xs,hq,hx⟩:=hg
  obtain ⟨its,rv,p,hz⟩:=I.list hq
  obtain ⟨f0,f1,f2,f3,f4,f5⟩:=hf it (by simp)
  have hl:=rv.length
  exact wpAny_pyNext_enum_end (I.ok.hd hc) he hit p.isList (by simp; omega) fun h' eb=>⟨rfl,I.turned (t':=s.toks) (fun b o hb q=>eb b o hb q) f0 f1 f3 f4 f5⟩
 self:=fun A i s Q E st h=>let ⟨⟨_,he⟩,_⟩:=st; wpAny_pyIter_enum he h
noncomputable def iEnum (K:PySem.W.Frag) (ta:TA):TI:=fun σ H R=>ta σ H fun vs H1=>∃ a xs,vs=[.ref a]/\SqL K H1 a xs/\R (Ite K a) H1
theorem pi_enum {X:Cx} {e:Expr} {ta:TA} {p pos tpos:Pos} {elts:List Expr} {kk:Nat} (hg:Gl X "enumerate") (hm:X.mg "enumerate" = none) (ha:PA X [e] ta) (hs:starEach [e] X.env=[(false,eval e X.env)]:=by rfl):
  PI X (.Tuple elts kk tpos) (.Call (.Name "enumerate" p) [e] [] pos) (iEnum X.K ta):=by
 intro pins s σ H R I h
 refine Call_ (zDL I hg hm boot_enumerate (PyProof.Rows.callWith_type1 (thn (ha pos pins s σ H _ I h) fun us s1 ⟨vs,H1,I1,r1,q1⟩=>?_) hs rfl))
 obtain ⟨a,xs,ex,hq,q⟩:=q1
 subst ex
 cases r1 with
 | cons r rr=>
  cases rr
  cases r
  obtain ⟨its,rv,p',hz⟩:=I1.list hq
  refine call_enumerate_list p'.isList fun h' he hit hsz hk=>wpAny_pyIter_enum he ?_
  have I2:Inv X pins σ H1 { s1 with heap:=h' }:=I1.kept (t':=s1.toks) hk
  refine ⟨s1.heap.objs.size+1,[s1.heap.objs.size+1,s1.heap.objs.size],_,_,H1,rfl,I2,zKm a (s1.heap.objs.size+1) s1.heap.objs.size,⟨⟨.none,he⟩,hit,Nat.succ_ne_self _⟩,fun b hb=>?_,q⟩
  have e':b=s1.heap.objs.size+1\/b=s1.heap.objs.size:=by simpa using hb
  have hle:s1.heap.objs.size<=b:=by
   rcases e' with z | z
   ·rw [z]; exact Nat.le_add_right _ _
   ·rw [z]; exact Nat.le_refl _
  exact I1.fpOk hle (I1.hok.fresh hle)
theorem zHy:bootBuiltins "zip" = some (.type "zip"):=by decide +kernel
noncomputable def Itz (K:PySem.W.Frag) (a b:Addr):It:=
 ⟨fun i H=>∃ (xs ys:List V) (x y:V),SqL K H a xs/\SqL K H b ys/\xs[i]? = some x/\ys[i]? = some y,
  fun i H v H'=>∃ T x y,v = .ref T/\H T=none/\H'=upd H T (.tup [x,y])/\(∀ xs,SqL K H a xs->xs[i]? = some x)/\∀ ys,SqL K H b ys->ys[i]? = some y,
  fun i H=>∃ xs ys:List V,SqL K H a xs/\SqL K H b ys/\(xs.length<=i\/ys.length<=i)⟩
theorem zMN {P:Program} {w:World} {K:PySem.W.Frag} {elts:List Expr} {kk:Nat} {tpos:Pos} {a b z TI TO i1 i2:Addr} (D:ZipApart z TI TO i1 i2 a b):
  Turn P w K (.Tuple elts kk tpos) (Itz K a b) [z,TI,TO,i1,i2] z (fun i h=>IsZip h z TI TO .none/\IsPair h TI (.ref i1) (.ref i2)/\(∃ x y,IsPair h TO x y)/\h.IsListIter i1 a i/\h.IsListIter i2 b i) where
 mem:=by simp
 obj:=fun i h st c hc=>by
  obtain ⟨hz,hTI,⟨x,y,hTO⟩,⟨o1,e1,_,d1⟩,⟨o2,e2,_,d2⟩⟩:=st
  have e':c=z\/c=TI\/c=TO\/c=i1\/c=i2:=by simpa using hc
  rcases e' with q | q | q | q | q
  ·rw [q]; exact ⟨_,hz,fun v q=>nomatch q⟩
  ·rw [q]; exact ⟨_,hTI,fun v q=>nomatch q⟩
  ·rw [q]; exact ⟨_,hTO,fun v q=>nomatch q⟩
  ·rw [q]; exact ⟨o1,e1,fun v q=>by rw [d1] at q; cases q⟩
  ·rw [q]; exact ⟨o2,e2,fun v q=>by rw [d2] at q; cases q⟩
 keep:=fun i h h' st k=>by
  obtain ⟨hz,hTI,⟨x,y,hTO⟩,h1,h2⟩:=st
  exact ⟨k z (by simp) _ hz,k TI (by simp) _ hTI,⟨x,y,k TO (by simp) _ hTO⟩,h1.at fun o q=>k i1 (by simp) o q,h2.at fun o q=>k i2 (by simp) o q⟩
 item:=by
  intro X hP hw hK hc i pins s σ H E I hf st hg
  subst hP hw hK
  obtain ⟨hz,hTI,⟨x0,y0,hTO⟩,h1,h2⟩:=st
  obtain ⟨xs,ys,x,y,hqx,hqy,hx,hy⟩:=hg
  obtain ⟨its,rv,p,_⟩:=I.list hqx
  obtain ⟨its2,rv2,p2,_⟩:=I.list hqy
  obtain ⟨u,hu,ru⟩:=rv.get hx
  obtain ⟨u2,hu2,ru2⟩:=rv2.get hy
  have hzl:z<s.heap.objs.size:=Heap.lt_size hz
  refine wpAny_pyNext_zip_item D hz hTI hTO h1 h2 p.isList p2.isList (x:=u) (y:=u2) (by simpa using hu) (by simpa using hu2) fun h' z' TO' h1' h2' hT hsz hk=>?_
  refine ⟨_,rfl,wpAny_letOwnedTupleGo_zip (s:={ s with heap:=h' }) z' fun h'' z'' sb=>?_⟩
  have hT2:h''.get? s.heap.objs.size=some { cls:=.type "tuple",data:=.seq #[u,u2] }:=(sb.2 _ (Nat.ne_of_gt hzl)).trans hT
  have new:zBa X.prog X.w (upd H s.heap.objs.size (.tup [x,y])) h'' s.heap.objs.size (.tup [x,y]):=
   ⟨by show 2<=sizeLine; decide,[u,u2],.cons ru (.cons ru2 .nil),⟨_,hT2,rfl,_,rfl⟩⟩
  have I1:Inv X pins σ (upd H s.heap.objs.size (.tup [x,y])) { s with heap:=h'' }:=
   I.turnedNew (t':=s.toks) (ch:=[z,TI,TO,i1,i2]) (fun c o hb q=>(sb.2 c (fun q'=>hb (by simp [q']))).trans (hk c o (fun q'=>hb (by simp [q'])) (fun q'=>hb (by simp [q'])) (fun q'=>hb (by simp [q'])) (fun q'=>hb (by simp [q'])) q)) hf (Nat.le_refl _) new
  refine ⟨.ref s.heap.objs.size,_,I1,rfl,⟨_,x,y,rfl,I.hok.fresh (Nat.le_refl _),rfl,fun l hl=>by rw [I.list_inj hl hqx]; exact hx,fun l hl=>by rw [I.list_inj hl hqy]; exact hy⟩,⟨z'',?_,⟨u,u2,?_⟩,?_,?_⟩,fun c hcm=>?_⟩
  ·exact (sb.2 _ D.TIz).trans (hk _ _ D.TIz D.TITO D.TIi1 D.TIi2 hTI)
  ·exact (sb.2 _ D.TOz).trans TO'
  ·exact h1'.at fun o q=>(sb.2 _ D.i1z).trans q
  ·exact h2'.at fun o q=>(sb.2 _ D.i2z).trans q
  ·have hlt:c<s.heap.objs.size:=by
    have e':c=z\/c=TI\/c=TO\/c=i1\/c=i2:=by simpa using hcm
    rcases e' with q | q | q | q | q
    ·rw [q]; exact hzl
    ·rw [q]; exact Heap.lt_size hTI
    ·rw [q]; exact Heap.lt_size hTO
    ·rw [q]; obtain ⟨_,e1,_⟩:=h1; exact Heap.lt_size e1
    ·rw [q]; obtain ⟨_,e2,_⟩:=h2; exact Heap.lt_size e2
   rw [uN (Nat.ne_of_lt hlt)]
   exact (hf c hcm).1
 done:=by
  intro X hP hw hK hc i pins s σ H E I hf st hg
  subst hP hw hK
  obtain ⟨hz,hTI,⟨x0,y0,hTO⟩,h1,h2⟩:=st
  obtain ⟨xs,ys,hqx,hqy,hend⟩:=hg
  obtain ⟨its,rv,p,_⟩:=I.list hqx
  obtain ⟨its2,rv2,p2,_⟩:=I.list hqy
  have l1:=rv.length
  have l2:=rv2.length
  have he:its.toArray[i]? = none\/its2.toArray[i]? = none:=by
   rcases hend with q | q
   ·exact .inl (by simp; omega)
   ·exact .inr (by simp; omega)
  exact wpAny_pyNext_zip_end (I.ok.hd hc) D hz hTI hTO h1 h2 p.isList p2.isList he fun h' hk=>⟨rfl,I.turnedL (t':=s.toks) (ch:=[z,TI,TO,i1,i2]) (fun c o hb q=>
   hk c o (fun q'=>hb (by simp [q'])) (fun q'=>hb (by simp [q'])) (fun q'=>hb (by simp [q'])) (fun q'=>hb (by simp [q'])) q) hf⟩
 self:=fun A i s Q E st h=>wpAny_pyIter_zip st.1 h
noncomputable def iZip (K:PySem.W.Frag) (ta:TA):TI:=fun σ H R=>ta σ H fun vs H1=>∃ a b xs ys,vs=[.ref a,.ref b]/\SqL K H1 a xs/\SqL K H1 b ys/\R (Itz K a b) H1
theorem pi_zip {X:Cx} {e e2:Expr} {ta:TA} {p pos tpos:Pos} {elts:List Expr} {kk:Nat} (hg:Gl X "zip") (hm:X.mg "zip" = none) (ha:PA X [e,e2] ta)
  (hs:starEach [e,e2] X.env=(false,eval e X.env)::starEach [e2] X.env:=by rfl) (hpl:(backTo pos (starEach [e2] X.env)).any (·.1)=false:=by rfl):
  PI X (.Tuple elts kk tpos) (.Call (.Name "zip" p) [e,e2] [] pos) (iZip X.K ta):=by
 intro pins s σ H R I h
 refine Call_ (zDL I hg hm zHy (PyProof.Rows.callWith_type1 (thn (ha pos pins s σ H _ I h) fun us s1 ⟨vs,H1,I1,r1,q1⟩=>?_) hs hpl))
 obtain ⟨a,b,xs,ys,ex,hqx,hqy,q⟩:=q1
 subst ex
 cases r1 with
 | cons r rr=>
  cases rr with
  | cons r' rr=>
   cases rr
   cases r
   cases r'
   obtain ⟨its,rv,p1,_⟩:=I1.list hqx
   obtain ⟨its2,rv2,p2,_⟩:=I1.list hqy
   have la:a<s1.heap.objs.size:=p1.lt
   have lb:b<s1.heap.objs.size:=p2.lt
   refine call_zip_2 p1.isList p2.isList fun h' hz hTI hTO h1 h2 hsz hk=>wpAny_pyIter_zip hz ?_
   have I2:Inv X pins σ H1 { s1 with heap:=h' }:=I1.kept (t':=s1.toks) hk
   refine ⟨s1.heap.objs.size+4,[s1.heap.objs.size+4,s1.heap.objs.size+2,s1.heap.objs.size+3,s1.heap.objs.size,s1.heap.objs.size+1],_,_,H1,rfl,I2,zMN (PySem.W.ktu_apart s1.heap.objs.size a b la lb),⟨hz,hTI,⟨_,_,hTO⟩,h1,h2⟩,fun c hcm=>?_,q⟩
   have e':c=s1.heap.objs.size+4\/c=s1.heap.objs.size+2\/c=s1.heap.objs.size+3\/c=s1.heap.objs.size\/c=s1.heap.objs.size+1:=by simpa using hcm
   have hle:s1.heap.objs.size<=c:=by
    rcases e' with z | z | z | z | z
    ·rw [z]; exact Nat.le_add_right _ _
    ·rw [z]; exact Nat.le_add_right _ _
    ·rw [z]; exact Nat.le_add_right _ _
    ·rw [z]; exact Nat.le_refl _
    ·rw [z]; exact Nat.le_add_right _ _
   exact I1.fpOk hle (I1.hok.fresh hle)
end L2
section
namespace TL
open PySem PySem.Builtin PySem.Builtin.Str PySem.StrLaws
theorem join_eq (y:Str) (parts:List Str):Txt.join y parts=Str.join y parts:=glued_eq_join y parts
end TL
end
namespace L2
open PySem PySem.Spec PyProof.Rows
theorem zCf:∀ {ys:List Str} {us:List Value},Vals (ys.map V.str) us->StrsAre us ys
 | [],_,.nil=>.nil
 | y::ys,_,.cons r t=>by
  obtain ⟨k,rfl⟩:=r
  exact .cons y k (zCf t)
section
variable {X:Cx}
theorem mt_join:MtR X "str.join" (fun x xs H Q=>∃ a p,∃ ys:List Str,x = .str a/\xs=[.ref p]/\(SqL X.K H p (ys.map V.str)\/SqT X.K H p (ys.map V.str))/\
  (ys.map (·.length)).sum+ys.length*a.length<=16777216/\Q (.str (Txt.join a ys)) H):=by
 intro pins s σ H x xs v us Q I rx rs h
 obtain ⟨a,p,ys,rfl,rfl,hp,hz,h⟩:=h
 obtain ⟨t,rfl⟩:=rx
 cases rs with
 | cons r1 rs=>
  cases rs
  cases r1
  rcases hp with hp | hp
  ·obtain ⟨its,r,⟨o,n,ho,hc,_,hd⟩,_⟩:=I.list hp
   exact PyProof.Rows.join_list (items:=its.toArray) ⟨o,ho,hc,n,hd⟩ (by rw [List.toList_toArray]; exact zCf r) hz fun t' k=>⟨.str _,H,I.tok k,⟨t',rfl⟩,h⟩
  ·obtain ⟨its,r,ht,_⟩:=I.tuple hp
   exact PyProof.Rows.join_tuple (items:=its.toArray) ht (by rw [List.toList_toArray]; exact zCf r) hz fun t' k=>⟨.str _,H,I.tok k,⟨t',rfl⟩,h⟩
end
section
variable {X:Cx} {o e:Expr} {to te:TE}
noncomputable def tM1 (r:V->List V->Hp->VK->Prop) (to te:TE):TE:=fun σ H Q=>to σ H fun x H1=>(∃ a,x = .str a)/\te σ H1 fun y H2=>r x [y] H2 Q
theorem pe_m1 {id:String} {name:Str} {apos pos:Pos} {r:V->List V->Hp->VK->Prop} (slot:Slot "str" name id) (ty:typeOf (.builtin id)=pure (.type "method_descriptor")) (rule:MtR X id r) (ho:PE X o to) (he:PE X e te)
  (hs:starEach [e] X.env=[(false,eval e X.env)]:=by rfl) (hbase:attributeBase o name X.env (eval o X.env)=eval o X.env:=by rfl) (hline:(apos.endLine==pos.line)=true:=by rfl):
  PE X (.Call (.Attribute o name apos) [e] [] pos) (tM1 r to te):=by
 intro pins s σ H Q I h
 refine PySem.Call_method1 hbase hs hline (thn (ho pins s σ H _ I h) fun v s1 ⟨x,H1,I1,r1,q1⟩=>?_)
 obtain ⟨⟨a,rfl⟩,q1⟩:=q1
 obtain ⟨t,rfl⟩:=_root_.id r1
 refine ⟨"str",_,F.plainAttrs_str,slot,ty,typeIs_str _ _ _,(fun _ e=>nomatch e),Calls.callWith_builtin rfl (Calls.evalArgs_plain (Calls.spliced_cons ?_))⟩
 exact thn (he pins s1 σ H1 _ I1 q1) fun u s2 ⟨y,H2,I2,r2,q2⟩=>Calls.spliced_nil (rule pins s2 σ H2 _ [y] _ [u] Q I2 r1 (.cons r2 .nil) q2)
theorem zLr {apos pos:Pos} (ho:PE X o to) (he:PE X e te) (hs:starEach [e] X.env=[(false,eval e X.env)]:=by rfl) (hbase:attributeBase o "join" X.env (eval o X.env)=eval o X.env:=by rfl) (hline:(apos.endLine==pos.line)=true:=by rfl):
  PE X (.Call (.Attribute o "join" apos) [e] [] pos) (tM1 (fun x xs H Q=>∃ a p,∃ ys:List Str,x = .str a/\xs=[.ref p]/\(SqL X.K H p (ys.map V.str)\/SqT X.K H p (ys.map V.str))/\
   (ys.map (·.length)).sum+ys.length*a.length<=16777216/\Q (.str (Txt.join a ys)) H) to te):=
 pe_m1 F.slot_str_join F.type_str_join mt_join ho he hs hbase hline
end
end L2
namespace L2
open PySem PySem.Spec PyProof.Rows
noncomputable def zAB (s:Stmt) (j:Nat):Stmt:=match s with
 | .ClassDef _ _ _ body _ _ _ _ _ _ _=>body.getD j (.Pass ⟨0,0,0,0⟩)
 | _ => .Pass ⟨0,0,0,0⟩
noncomputable def zBw (s:Stmt):Arguments:=match s with
 | .FunctionDef _ a _ _ _ _ _ _ _ _=>a
 | _=>{ posonlyargs:=[],args:=[],vararg:=none,kwonlyargs:=[],kw_defaults:=[],kwarg:=none,defaults:=[] }
noncomputable def zAZ (s:Stmt):List Stmt:=match s with
 | .FunctionDef _ _ b _ _ _ _ _ _ _=>b
 | _=>[]
noncomputable def zAa (s:Stmt):Scope:=match s with
 | .FunctionDef _ _ _ _ _ _ sc _ _ _=>sc
 | _=>{ kind:=.function,names:=[],isGenerator:=false,isCoroutine:=false }
noncomputable abbrev CX0:CXT:=fun _ _ _ _ _ _=>False
noncomputable abbrev E0:XK:=fun _ _ _=>False
theorem zAh {X:Cx}:zBL CX0 X E0:=fun _ _ _ _ _ _ _ h=>h.elim
structure Fun (K:PySem.W.Frag) (x qual:Str) (st:Stmt) (f:Addr) (fd:FuncData):Prop where
 ex:∃ (oc:Value) (od:Option Addr) (kV doc pm:Value) (an:Option Addr) (cdv ct:Value) (osl:Array (Option Value)),
  fd=PySem.W.fnOf x qual (zBw st) (zAZ st) (zAa st) .none kV doc pm an cdv ct/\K.lookup f=some ⟨oc,od,.func fd,osl⟩/\PySem.W.codeIn K cdv qual=true
 kp:PySem.W.keepIn K (.ref f)=true
section
variable {P:Program} {w:World} {K:PySem.W.Frag} {mg:Str->Option Value} {base:Heap}
theorem Fun.ok {x qual:Str} {st:Stmt} {f:Addr} {fd:FuncData} {N ps:List Str} {k:Nat} {sp:Sp} (F:Fun K x qual st f fd) (S:zAc N ps (zAa st)) (len:∀ vs H Q E,sp vs H Q E->vs.length=ps.length)
  (hbody:∀ (cdv:Value) (A:Around) (outer:List Env) (s:Shared) (H:Hp) (vs:List V) (Q:VK) (E:XK),Room k (A.deeper (envOfC qual (zAa st) s.heap.objs.size f cdv))->sp vs H Q E->
   ∃ t,PSs (cxOf CX0 P w K mg base N qual (zAa st) f cdv A outer s H E).nox (zAZ st) t/\t { nx:=fun _ H'=>Q .non H',rt:=Q } (start N vs) H):FnOk P w K mg base CX0 (k+1) f fd ps sp:=by
 obtain ⟨oc,od,kV,doc,pm,an,cdv,ct,osl,rfl,lk,hcd⟩:=F.ex
 refine fn_of lk hcd S len fun A outer s H vs Q E hr hsp=>?_
 obtain ⟨t,h,q⟩:=hbody cdv A outer s H vs Q E hr hsp
 exact ⟨t,h.nox,q⟩
theorem Fun.binds {x qual:Str} {st:Stmt} {f:Addr} {fd:FuncData} {ps:List Str} (F:Fun K x qual st f fd)
  (h:∀ (kV doc pm:Value) (an:Option Addr) (cdv ct:Value) (us:List Value),us.length=ps.length->bindArgs (PySem.W.fnOf x qual (zBw st) (zAZ st) (zAa st) .none kV doc pm an cdv ct) ⟨us,[]⟩=pure (ps.zip us)):zBG K fd ps []:=by
 obtain ⟨oc,od,kV,doc,pm,an,cdv,ct,osl,rfl,lk,hcd⟩:=F.ex
 exact .all (h kV doc pm an cdv ct)
theorem zDj {x qual:Str} {st:Stmt} {f:Addr} {oc:Value} {od an:Option Addr} {osl:Array (Option Value)} {kV doc pm cdv ct:Value} (l:K.lookup f=some ⟨oc,od,.func (PySem.W.fnOf x qual (zBw st) (zAZ st) (zAa st) .none kV doc pm an cdv ct),osl⟩)
  (c:PySem.W.codeIn K cdv qual=true) (k:PySem.W.keepIn K (.ref f)=true):Fun K x qual st f (PySem.W.fnOf x qual (zBw st) (zAZ st) (zAa st) .none kV doc pm an cdv ct):=⟨⟨oc,od,kV,doc,pm,an,cdv,ct,osl,rfl,l,c⟩,k⟩
end
theorem zIr {A:Around} {k:Nat} (hr:Room k A):A.units+1<cLine:=Nat.lt_of_le_of_lt (Nat.add_le_add_left (by decide:1<=64) _) hr.units
theorem zAq {n:Nat} (h:n<=1000):n<sizeLine:=Nat.lt_of_le_of_lt h (by decide)
section
variable {X:Cx}
theorem pv (i:Nat) {x:Str} {pos:Pos} (hN:X.N[i]? = some x:=by rfl) (hv:Vis X.env.scope x:=by first | exact Or.inl rfl | exact Or.inr (Or.inl rfl) | exact Or.inr (Or.inr rfl)) (hd:(x==("__debug__" : Str))=false:=by decide)
  (hcd:(x==("__classdict__" : Str))=false:=by decide):PE X (.Name x pos) (tVar i):=pe_var hN hv hd hcd
end
theorem iteF {A B:Prop} (h:B):if false=true then A else B:=by
 rw [if_neg Bool.false_ne_true]
 exact h
theorem iteT {A B:Prop} (h:A):if true=true then A else B:=by
 rw [if_pos rfl]
 exact h
theorem ite2 {c A B:Prop} [Decidable c] (h1:c->A) (h2:¬ c->B):if c then A else B:=by
 by_cases h:c
 ·rw [if_pos h]
  exact h1 h
 ·rw [if_neg h]
  exact h2 h
def Same (H H':Hp):Prop:=∀ b o,H b=some o->H' b=some o
theorem Same.refl (H:Hp):Same H H:=fun _ _ h=>h
theorem Same.trans {H H1 H2:Hp} (a:Same H H1) (b:Same H1 H2):Same H H2:=fun c o h=>b c o (a c o h)
theorem Same.free {H H':Hp} (e:Same H H') {l:Addr} (h:H' l=Option.none):H l=Option.none:=by
 cases q:H l with
 | none=>rfl
 | some o=>
  rw [e l o q] at h
  cases h
theorem Same.seq {K:PySem.W.Frag} {H H':Hp} {a:Addr} {xs:List V} (e:Same H H') (h:SqL K H a xs):SqL K H' a xs:=by
 rcases h with (h | ⟨o,h⟩) | h
 ·exact .inl (.inl (e _ _ h))
 ·exact .inl (.inr ⟨o,e _ _ h⟩)
 ·exact .inr h
end L2
end
section
section
namespace L2
open PySem PySem.Spec PyProof.Rows
open PySem.W (WData Codec OpenSpec Well WellAll ReadsW ReadsAllW)
mutual
inductive Dw (K:PySem.W.Frag) (H:Hp):V->WData->Prop
 | non:Dw K H .non .none
 | bl (b:Bool):Dw K H (.bl b) (.bool b)
 | int (i:Int):Dw K H (.int i) (.int i)
 | str (x:Str):Dw K H (.str x) (.str x)
 | byt (b:Array UInt8):Dw K H (.byt b) (.bytes b.toList)
 | lst {a:Addr} {xs:List V} {ds:List WData}:SqL K H a xs->zDV K H xs ds->Dw K H (.ref a) (.list ds)
 | tup {a:Addr} {xs:List V} {ds:List WData}:SqT K H a xs->zDV K H xs ds->Dw K H (.ref a) (.tuple ds)
inductive zDV (K:PySem.W.Frag) (H:Hp):List V->List WData->Prop
 | nil:zDV K H [] []
 | cons {v:V} {vs:List V} {d:WData} {ds:List WData}:Dw K H v d->zDV K H vs ds->zDV K H (v::vs) (d::ds)
end
theorem dw_ints {K:PySem.W.Frag} {H:Hp}:∀ ns:List Int,zDV K H (ns.map V.int) (ns.map WData.int)
 | []=>.nil
 | n::r=>.cons (.int n) (dw_ints r)
theorem ints_dw {K:PySem.W.Frag} {H:Hp}:∀ (ns:List Int) (xs:List V),zDV K H xs (ns.map WData.int)->xs=ns.map V.int
 | [],xs,h=>by
  cases h
  rfl
 | n::r,xs,h=>by
  cases h with
  | cons h1 h2=>
   cases h1
   rw [ints_dw r _ h2] <;> rfl
section
variable {P:Program} {w:World} {K:PySem.W.Frag} {H:Hp} {h:Heap} {R:PySem.W.WRecords} {cl:Str->Option Addr}
theorem sqL_at {a:Addr} {xs:List V} (hok:HOk P w H h) (KX:K.In h) (q:SqL K H a xs):∃ (its:List Value) (o:Obj) (n:Nat),Vals xs its/\h.get? a=some o/\o.cls = .type "list" /\ o.data = .seq its.toArray n:=by
 rcases q with q | ⟨o,its,n,e,hc,_,hd,_,hv⟩
 ·obtain ⟨_,its,n,hv,e⟩:=(show zBa P w H h a (.lst xs) from q.ok hok)
  exact ⟨its,_,n,hv,e,rfl,rfl⟩
 ·exact ⟨its.toList,o,n,hv,KX _ _ e,hc,by simp [hd]⟩
theorem sqT_at {a:Addr} {xs:List V} (hok:HOk P w H h) (KX:K.In h) (q:SqT K H a xs):∃ (its:List Value) (o:Obj) (n:Nat),Vals xs its/\h.get? a=some o/\o.cls = .type "tuple" /\ o.data = .seq its.toArray n:=by
 rcases q with q | ⟨o,its,n,e,hc,hd,_,hv⟩
 ·obtain ⟨_,its,hv,o,e,hc,n,hd⟩:=(show zBa P w H h a (.tup xs) from q.ok hok)
  exact ⟨its,o,n,hv,e,hc,hd⟩
 ·exact ⟨its.toList,o,n,hv,KX _ _ e,hc,by simp [hd]⟩
mutual
theorem Dw.reads (hok:HOk P w H h) (KX:K.In h):∀ (d:WData) (v:V) (u:Value),Dw K H v d->RelV v u->∃ as,ReadsW R cl h u d as
 | .none,_,_,x,r=>by
  cases x
  cases r
  exact ⟨_,ReadsW.none⟩
 | .bool b,_,_,x,r=>by
  cases x
  cases r
  exact ⟨_,ReadsW.bool b⟩
 | .int i,_,_,x,r=>by
  cases x
  obtain ⟨t,rfl⟩:=r
  exact ⟨_,ReadsW.int i t⟩
 | .str s,_,_,x,r=>by
  cases x
  obtain ⟨t,rfl⟩:=r
  exact ⟨_,ReadsW.str s t⟩
 | .bytes b,_,_,x,r=>by
  cases x
  obtain ⟨t,rfl⟩:=r
  exact ⟨_,ReadsW.bytes _ t⟩
 | .list ds,_,_,x,r=>by
  cases x with
  | lst hs ha=>
   cases r
   obtain ⟨its,o,n,rv,ho,hc,hd⟩:=sqL_at hok KX hs
   obtain ⟨as,hr⟩:=Dw.readsAll hok KX ds _ its ha rv
   exact ⟨_,ReadsW.list ho hc hd hr⟩
 | .tuple ds,_,_,x,r=>by
  cases x with
  | tup hs ha=>
   cases r
   obtain ⟨its,o,n,rv,ho,hc,hd⟩:=sqT_at hok KX hs
   obtain ⟨as,hr⟩:=Dw.readsAll hok KX ds _ its ha rv
   exact ⟨_,ReadsW.tuple ho hc hd hr⟩
 | .float _,_,_,x,_=>by cases x
 | .dict _,_,_,x,_=>by cases x
 | .bytearray _,_,_,x,_=>by cases x
 | .set _,_,_,x,_=>by cases x
 | .frozenset _,_,_,x,_=>by cases x
 | .obj _ _,_,_,x,_=>by cases x
theorem Dw.readsAll (hok:HOk P w H h) (KX:K.In h):∀ (ds:List WData) (vs:List V) (us:List Value),zDV K H vs ds->Vals vs us->∃ as,ReadsAllW R cl h us ds as
 | [],_,_,x,r=>by
  cases x
  cases r
  exact ⟨_,ReadsAllW.nil⟩
 | d::ds,_,_,x,r=>by
  cases x with
  | cons h1 h2=>
   cases r with
   | cons r1 r2=>
    obtain ⟨as,q1⟩:=Dw.reads hok KX d _ _ h1 r1
    obtain ⟨bs,q2⟩:=Dw.readsAll hok KX ds _ _ h2 r2
    exact ⟨_,ReadsAllW.cons q1 q2⟩
end
end
mutual
def plW:WData->Bool
 | .none=>true
 | .bool _=>true
 | .int _=>true
 | .str _=>true
 | .bytes _=>true
 | .list xs=>plWs xs
 | .tuple xs=>plWs xs
 | _=>false
def plWs:List WData->Bool
 | []=>true
 | x::r=>plW x&&plWs r
end
theorem zIQ {α:Type} {f:α->WData} (h:∀ a,plW (f a)=true):∀ l:List α,plWs (l.map f)=true
 | []=>rfl
 | x::r=>by
  show (plW (f x)&&plWs (r.map f))=true
  rw [h x,zIQ h r] <;> rfl
theorem zDJ:∀ (c:Codec) (a:c.denote),plW (c.enc a)=true
 | .unit,_=>rfl
 | .bool,_=>rfl
 | .int _ _,_=>rfl
 | .nat _ _,_=>rfl
 | .u8,_=>rfl
 | .bytes _ _,_=>rfl
 | .text _ _ _ _,_=>rfl
 | .list _ _ c,a=>zIQ (fun x=>zDJ c x) a
 | .pair c d,a=>by
  show (plW (c.enc a.1)&&(plW (d.enc a.2)&&true))=true
  rw [zDJ c a.1,zDJ d a.2] <;> rfl
 | .triple c d e,a=>by
  show (plW (c.enc a.1)&&(plW (d.enc a.2.1)&&(plW (e.enc a.2.2)&&true)))=true
  rw [zDJ c a.1,zDJ d a.2.1,zDJ e a.2.2] <;> rfl
 | .option c,none=>rfl
 | .option c,some x=>zDJ c x
theorem zHe:∀ (cs:List Codec) (a:Codec.denoteAll cs),plWs (Codec.encAll cs a)=true
 | [],_=>rfl
 | c::cs,a=>by
  show (plW (c.enc a.1)&&plWs (Codec.encAll cs a.2))=true
  rw [zDJ c a.1,zHe cs a.2] <;> rfl
theorem zDo:∀ {xs:List WData} {d:WData},d∈xs->d.weight<=WData.weightAll xs
 | [],d,h=>absurd h (by simp)
 | x::r,d,h=>by
  show d.weight<=x.weight+1+WData.weightAll r
  rcases List.mem_cons.mp h with e | m
  ·rw [e]
   omega
  ·have z:=zDo m
   omega
noncomputable def toV:Value->V
 | .none=>.non
 | .bool b=>.bl b
 | .int i _=>.int i
 | .str x _=>.str x
 | .bytes b _=>.byt b
 | .ref a=>.ref a
 | _=>.non
noncomputable def OkU (A:List Addr):Value->Prop
 | .none=>True
 | .bool _=>True
 | .int _ _=>True
 | .str _ _=>True
 | .bytes _ _=>True
 | .ref a=>a∈A
 | _=>False
theorem OkU.mono {A B:List Addr} (h:∀ a∈A,a∈B):∀ {u:Value},OkU A u->OkU B u:=fun {u} x=>by
 cases u with
 | ref a=>exact h a x
 | none=>trivial
 | bool b=>trivial
 | int i t=>trivial
 | str s t=>trivial
 | bytes b t=>trivial
 | _=>exact False.elim x
theorem zNb {A:List Addr} {u:Value} (x:OkU A u):RelV (toV u) u:=by
 cases u with
 | ref a=>rfl
 | none=>rfl
 | bool b=>rfl
 | int i t=>exact ⟨t,rfl⟩
 | str s t=>exact ⟨t,rfl⟩
 | bytes b t=>exact ⟨t,rfl⟩
 | _=>exact False.elim x
theorem zCr {A:List Addr}:∀ {vs:List Value},(∀ u∈vs,OkU A u)->Vals (vs.map toV) vs
 | [],_=>.nil
 | u::r,h=>.cons (zNb (h u (List.mem_cons_self ..))) (zCr fun x hx=>h x (List.mem_cons_of_mem _ hx))
def zDW (h:Heap) (A:List Addr) (a:Addr):Prop:=∃ vs:List Value,vs.length<=sizeLine/\(∀ u∈vs,OkU A u)/\
 (h.get? a=some { cls:=.type "list",data:=.seq vs.toArray }\/h.get? a=some { cls:=.type "tuple",data:=.seq vs.toArray })
theorem zDW.mono {h:Heap} {A B:List Addr} {a:Addr} (k:∀ a∈A,a∈B) (x:zDW h A a):zDW h B a:=by
 obtain ⟨vs,h1,h2,h3⟩:=x
 exact ⟨vs,h1,fun u hu=>(h2 u hu).mono k,h3⟩
theorem zBR {P:Params} {h:Heap}:∀ {vs:List Value} {ds:List WData},WellAll P h vs ds->vs.length=ds.length
 | _,_,.nil=>rfl
 | _,_,.cons _ b=>by
  show _+1=_+1
  rw [zBR b]
theorem zGD {P:Params} {h:Heap} {v:Value} {ds:List WData} (x:Well P h v (.list ds)):∃ (a:Addr) (vs:List Value),v = .ref a/\h.get? a=some { cls:=.type "list",data:=.seq vs.toArray }/\WellAll P h vs ds:=by
 cases x with
 | list ho hall=>exact ⟨_,_,rfl,ho,hall⟩
theorem zFf {P:Params} {h:Heap} {v:Value} {ds:List WData} (x:Well P h v (.tuple ds)):∃ (a:Addr) (vs:List Value),v = .ref a/\h.get? a=some { cls:=.type "tuple",data:=.seq vs.toArray }/\WellAll P h vs ds:=by
 cases x with
 | tuple ho hall=>exact ⟨_,_,rfl,ho,hall⟩
theorem zGE {P:Params} {h:Heap} {us:List Value} {d:WData} {ds:List WData} (x:WellAll P h us (d::ds)):∃ (v:Value) (vs:List Value),us=v::vs/\Well P h v d/\WellAll P h vs ds:=by
 cases x with
 | cons a b=>exact ⟨_,_,rfl,a,b⟩
theorem zLQ {n:Nat} (h:n<=1048576):n<=sizeLine:=Nat.le_trans h (by decide)
section
variable {P:Params} {h:Heap}
mutual
theorem zOc:∀ (d:WData) (v:Value),Well P h v d->plW d=true->d.weight<=1048576->∃ A:List Addr,OkU A v/\∀ a∈A,zDW h A a
 | .none,_,x,_,_=>by
  cases x
  exact ⟨[],trivial,fun a m=>absurd m (by simp)⟩
 | .bool b,_,x,_,_=>by
  cases x
  exact ⟨[],trivial,fun a m=>absurd m (by simp)⟩
 | .int i,_,x,_,_=>by
  cases x
  exact ⟨[],trivial,fun a m=>absurd m (by simp)⟩
 | .str s,_,x,_,_=>by
  cases x
  exact ⟨[],trivial,fun a m=>absurd m (by simp)⟩
 | .bytes b,_,x,_,_=>by
  cases x
  exact ⟨[],trivial,fun a m=>absurd m (by simp)⟩
 | .list ds,_,x,p,z=>by
  obtain ⟨a,vs,rfl,ho,hall⟩:=zGD x
  have z2:WData.weightAll ds<=1048576:=z
  obtain ⟨A,h1,h2⟩:=zEi ds _ hall p fun d hd=>Nat.le_trans (zDo hd) z2
  have k:∀ b∈A,b∈a::A:=fun b hb=>List.mem_cons_of_mem _ hb
  refine ⟨a::A,List.mem_cons_self ..,fun b hb=>?_⟩
  rcases List.mem_cons.mp hb with e | m
  ·rw [e]
   exact ⟨vs,zLQ (by rw [zBR hall]; exact Nat.le_trans (PySem.W.length_le_weightAllW ds) z2),fun u hu=>(h1 u hu).mono k,.inl ho⟩
  ·exact (h2 b m).mono k
 | .tuple ds,_,x,p,z=>by
  obtain ⟨a,vs,rfl,ho,hall⟩:=zFf x
  have z2:WData.weightAll ds<=1048576:=z
  obtain ⟨A,h1,h2⟩:=zEi ds _ hall p fun d hd=>Nat.le_trans (zDo hd) z2
  have k:∀ b∈A,b∈a::A:=fun b hb=>List.mem_cons_of_mem _ hb
  refine ⟨a::A,List.mem_cons_self ..,fun b hb=>?_⟩
  rcases List.mem_cons.mp hb with e | m
  ·rw [e]
   exact ⟨vs,zLQ (by rw [zBR hall]; exact Nat.le_trans (PySem.W.length_le_weightAllW ds) z2),fun u hu=>(h1 u hu).mono k,.inr ho⟩
  ·exact (h2 b m).mono k
 | .float _,_,_,p,_=>Bool.noConfusion (show false=true from p)
 | .dict _,_,_,p,_=>Bool.noConfusion (show false=true from p)
 | .bytearray _,_,_,p,_=>Bool.noConfusion (show false=true from p)
 | .set _,_,_,p,_=>Bool.noConfusion (show false=true from p)
 | .frozenset _,_,_,p,_=>Bool.noConfusion (show false=true from p)
 | .obj _ _,_,_,p,_=>Bool.noConfusion (show false=true from p)
theorem zEi:∀ (ds:List WData) (vs:List Value),WellAll P h vs ds->plWs ds=true->(∀ d∈ds,d.weight<=1048576)->∃ A:List Addr,(∀ u∈vs,OkU A u)/\∀ a∈A,zDW h A a
 | [],_,x,_,_=>by
  cases x
  exact ⟨[],fun u m=>absurd m (by simp),fun a m=>absurd m (by simp)⟩
 | d::ds,_,x,p,z=>by
  obtain ⟨v,vs,rfl,x1,x2⟩:=zGE x
  have q:plW d=true/\plWs ds=true:=Bool.and_eq_true_iff.mp p
  obtain ⟨A,a1,a2⟩:=zOc d v x1 q.1 (z d (List.mem_cons_self ..))
  obtain ⟨B,b1,b2⟩:=zEi ds vs x2 q.2 fun e he=>z e (List.mem_cons_of_mem _ he)
  have kA:∀ b∈A,b∈A++B:=fun b hb=>List.mem_append.mpr (.inl hb)
  have kB:∀ b∈B,b∈A++B:=fun b hb=>List.mem_append.mpr (.inr hb)
  refine ⟨A++B,fun u hu=>?_,fun b hb=>?_⟩
  ·rcases List.mem_cons.mp hu with e | m
   ·rw [e]
    exact a1.mono kA
   ·exact (b1 u m).mono kB
  ·rcases List.mem_append.mp hb with m | m
   ·exact (a2 b m).mono kA
   ·exact (b2 b m).mono kB
end
end
noncomputable def hoOf (o:Obj):Option HO:=match o.data with
 | .seq vs _=>if (o.cls==Value.type "list")=true then some (.frz o (.lst (vs.toList.map toV))) else some (.frz o (.tup (vs.toList.map toV)))
 | _=>none
noncomputable def argH (K:PySem.W.Frag) (h:Heap) (A:List Addr):Hp:=fun b=>if b∈A then (if (K.lookup b).isNone=true then (h.get? b).bind hoOf else none) else none
def zMH (H:Hp):Prop:=∀ b,H b=none\/∃ o u,H b=some (.frz o u)
theorem zJi (vs:List Value):hoOf { cls:=.type "list",data:=.seq vs.toArray }=some (.frz { cls:=.type "list",data:=.seq vs.toArray } (.lst (vs.map toV))):=by
 show (if (Value.type "list" == Value.type "list")=true then some (HO.frz { cls:=.type "list",data:=.seq vs.toArray } (.lst (vs.toArray.toList.map toV))) else some (HO.frz { cls:=.type "list",data:=.seq vs.toArray } (.tup (vs.toArray.toList.map toV))))=_
 rw [if_pos (beq_self_eq_true _)]
theorem zJh (vs:List Value):hoOf { cls:=.type "tuple",data:=.seq vs.toArray }=some (.frz { cls:=.type "tuple",data:=.seq vs.toArray } (.tup (vs.map toV))):=by
 show (if (Value.type "tuple" == Value.type "list")=true then some (HO.frz { cls:=.type "tuple",data:=.seq vs.toArray } (.lst (vs.toArray.toList.map toV))) else some (HO.frz { cls:=.type "tuple",data:=.seq vs.toArray } (.tup (vs.toArray.toList.map toV))))=_
 rw [if_neg (by decide)]
section
variable {P:Program} {w:World} {K:PySem.W.Frag} {h:Heap} {A:List Addr}
theorem zGz {b:Addr} {o:Obj} (hb:b∈A) (hk:K.lookup b=none) (e:h.get? b=some o):argH K h A b=hoOf o:=by
 unfold argH
 rw [if_pos hb,hk,if_pos (show (none:Option Obj).isNone=true from rfl),e] <;> rfl
theorem of_argH {b:Addr} {u:HO} (q:argH K h A b=some u):b∈A/\K.lookup b=none:=by
 unfold argH at q
 by_cases hb:b∈A
 ·rw [if_pos hb] at q
  cases hk:K.lookup b with
  | none=>exact ⟨hb,rfl⟩
  | some o=>
   rw [hk,if_neg (by simp)] at q
   cases q
 ·rw [if_neg hb] at q
  cases q
theorem zGy (ar:∀ a∈A,zDW h A a) {b:Addr} {u:HO} (q:argH K h A b=some u):K.lookup b=none/\∃ vs:List Value,vs.length<=sizeLine/\(∀ u∈vs,OkU A u)/\
    ((h.get? b=some { cls:=.type "list",data:=.seq vs.toArray }/\u = .frz { cls:=.type "list",data:=.seq vs.toArray } (.lst (vs.map toV)))\/
     (h.get? b=some { cls:=.type "tuple",data:=.seq vs.toArray }/\u = .frz { cls:=.type "tuple",data:=.seq vs.toArray } (.tup (vs.map toV)))):=by
  obtain ⟨hb,hk⟩:=of_argH q
  obtain ⟨vs,h1,h2,h3⟩:=ar b hb
  refine ⟨hk,vs,h1,h2,?_⟩
  rcases h3 with e | e
  · rw [zGz hb hk e,zJi] at q
    exact .inl ⟨e,(Option.some.inj q).symm⟩
  · rw [zGz hb hk e,zJh] at q
    exact .inr ⟨e,(Option.some.inj q).symm⟩
theorem zMF (ar:∀ a∈A,zDW h A a):zMH (argH K h A):=fun b=>by
 cases q:argH K h A b with
 | none=>exact .inl rfl
 | some u=>
  obtain ⟨_,vs,_,_,⟨_,e⟩ | ⟨_,e⟩⟩:=zGy ar q
  ·exact .inr ⟨_,_,by rw [e]⟩
  ·exact .inr ⟨_,_,by rw [e]⟩
theorem argH_ok (ar:∀ a∈A,zDW h A a):HOk P w (argH K h A) h:=fun b u q=>by
 obtain ⟨_,vs,h1,h2,⟨e,rfl⟩ | ⟨e,rfl⟩⟩:=zGy ar q
 ·exact ⟨e,by rw [List.length_map]; exact h1,vs,_,zCr h2,e⟩
 ·exact ⟨e,by rw [List.length_map]; exact h1,vs,zCr h2,_,e,rfl,_,rfl⟩
theorem zFT {c c':Value} {vs us:List Value} (e:(some { cls:=c,data:=.seq vs.toArray }:Option Obj)=some { cls:=c',data:=.seq us.toArray }):c=c'/\vs=us:=by
 have e1:=Option.some.inj e
 have e2:c=c':=congrArg Obj.cls e1
 have e3:Data.seq vs.toArray=Data.seq us.toArray:=congrArg Obj.data e1
 injection e3 with e4
 refine ⟨e2,?_⟩
 have e5:=congrArg Array.toList e4
 simpa using e5
theorem argL (KX:K.In h) (ar:∀ a∈A,zDW h A a) {a:Addr} {vs:List Value} (ha:a∈A) (e:h.get? a=some { cls:=.type "list",data:=.seq vs.toArray }):(∀ u∈vs,OkU A u)/\SqL K (argH K h A) a (vs.map toV):=by
 obtain ⟨us,h1,h2,h3⟩:=ar a ha
 have hu:us=vs:=by
  rcases h3 with q | q
  ·rw [e] at q
   exact (zFT q).2.symm
  ·rw [e] at q
   exact absurd (Value.type.inj (zFT q).1) (by decide)
 subst hu
 refine ⟨h2,?_⟩
 cases hk:K.lookup a with
 | none=>exact .inl (.inr ⟨_,by rw [zGz ha hk e,zJi]⟩)
 | some o=>
  have e2:=KX a o hk
  rw [e] at e2
  obtain rfl:=Option.some.inj e2
  exact .inr ⟨_,us.toArray,_,hk,rfl,rfl,rfl,by rw [List.size_toArray]; exact h1,by simpa using zCr h2⟩
theorem argT (KX:K.In h) (ar:∀ a∈A,zDW h A a) {a:Addr} {vs:List Value} (ha:a∈A) (e:h.get? a=some { cls:=.type "tuple",data:=.seq vs.toArray }):(∀ u∈vs,OkU A u)/\SqT K (argH K h A) a (vs.map toV):=by
 obtain ⟨us,h1,h2,h3⟩:=ar a ha
 have hu:us=vs:=by
  rcases h3 with q | q
  ·rw [e] at q
   exact absurd (Value.type.inj (zFT q).1) (by decide)
  ·rw [e] at q
   exact (zFT q).2.symm
 subst hu
 refine ⟨h2,?_⟩
 cases hk:K.lookup a with
 | none=>exact .inl (.inr ⟨_,by rw [zGz ha hk e,zJh]⟩)
 | some o=>
  have e2:=KX a o hk
  rw [e] at e2
  obtain rfl:=Option.some.inj e2
  exact .inr ⟨_,us.toArray,_,hk,rfl,rfl,by rw [List.size_toArray]; exact h1,by simpa using zCr h2⟩
mutual
theorem dw_one {Pm:Params} (KX:K.In h) (ar:∀ a∈A,zDW h A a):∀ (d:WData) (v:Value),Well Pm h v d->plW d=true->OkU A v->Dw K (argH K h A) (toV v) d
 | .none,_,x,_,_=>by
  cases x
  exact .non
 | .bool b,_,x,_,_=>by
  cases x
  exact .bl b
 | .int i,_,x,_,_=>by
  cases x
  exact .int i
 | .str s,_,x,_,_=>by
  cases x
  exact .str s
 | .bytes b,_,x,_,_=>by
  cases x
  have z:=Dw.byt (K:=K) (H:=argH K h A) b.toArray
  exact z
 | .list ds,_,x,p,hu=>by
  obtain ⟨a,vs,rfl,ho,hall⟩:=zGD x
  obtain ⟨h2,hs⟩:=argL KX ar hu ho
  exact .lst hs (zJo KX ar ds _ hall p h2)
 | .tuple ds,_,x,p,hu=>by
  obtain ⟨a,vs,rfl,ho,hall⟩:=zFf x
  obtain ⟨h2,hs⟩:=argT KX ar hu ho
  exact .tup hs (zJo KX ar ds _ hall p h2)
 | .float _,_,_,p,_=>Bool.noConfusion (show false=true from p)
 | .dict _,_,_,p,_=>Bool.noConfusion (show false=true from p)
 | .bytearray _,_,_,p,_=>Bool.noConfusion (show false=true from p)
 | .set _,_,_,p,_=>Bool.noConfusion (show false=true from p)
 | .frozenset _,_,_,p,_=>Bool.noConfusion (show false=true from p)
 | .obj _ _,_,_,p,_=>Bool.noConfusion (show false=true from p)
theorem zJo {Pm:Params} (KX:K.In h) (ar:∀ a∈A,zDW h A a):∀ (ds:List WData) (vs:List Value),WellAll Pm h vs ds->plWs ds=true->(∀ u∈vs,OkU A u)->zDV K (argH K h A) (vs.map toV) ds
 | [],_,x,_,_=>by
  cases x
  exact .nil
 | d::ds,_,x,p,hu=>by
  obtain ⟨v,vs,rfl,x1,x2⟩:=zGE x
  have q:plW d=true/\plWs ds=true:=Bool.and_eq_true_iff.mp p
  exact .cons (dw_one KX ar d v x1 q.1 (hu _ (List.mem_cons_self ..))) (zJo KX ar ds vs x2 q.2 fun u m=>hu u (List.mem_cons_of_mem _ m))
end
end
theorem zKs {P:Program} {w:World} {K:PySem.W.Frag} {mg mb:Str->Option Value} {CX:CXT} {k:Nat} {fa:Addr} {fd:FuncData} {ps:List Str} {sp:Sp} {s₁:Shared} {vals:List Value} {ds:List WData} {R:PySem.W.WRecords} {cl:Str->Option Addr} {d0:WData}
  (KX:K.In s₁.heap) (hns:s₁.heap.Ns mainGlobals mg) (hb:s₁.heap.Ns builtinsNs mb) (hbb:∀ x:Str,x≠ "__name__" -> mb x=bootBuiltins x) (hlim:s₁.heap.NoLimit) (hg:s₁.gens = #[])
  (hwl:WellAll w.params s₁.heap vals ds) (hpl:plWs ds=true) (hwt:∀ d∈ds,d.weight<=1048576) (hr:Room k callerA)
  (F:∀ base:Heap,K.In base->base.Ns mainGlobals mg->FnOk P w K mg base CX k fa fd ps sp) (hbind:∀ (s:Shared) (us:List Value),us.length=ps.length->BindsTo s fd ⟨us,[]⟩ (ps.zip us)) (hlen:ds.length=ps.length)
  (hsp:∀ (H:Hp) (xs:List V),zMH H->zDV K H xs ds->sp xs H (fun v H'=>Dw K H' v d0) fun _ _ _=>False)
  (hCX:∀ H e s',CX [] H s₁ (fun _ _ _=>False) e s'->False):
  codeAny (model P w) callerA (.call (.ref fa) ⟨vals,[]⟩) (fun r s'=>∃ u as,r = .ok (.ret u)/\ReadsW R cl s'.heap u d0 as/\OldK s₁.heap s'.heap/\s'.os=s₁.os/\AllBare s'.gens) s₁:=by
 obtain ⟨A,ho,ar⟩:=zEi ds vals hwl hpl hwt
 have hO:zMH (argH K s₁.heap A):=zMF ar
 have hok:HOk P w (argH K s₁.heap A) s₁.heap:=argH_ok ar
 have hS:=zJo KX ar ds vals hwl hpl ho
 have hV:=zCr ho
 have hK:∀ b u,argH K s₁.heap A b=some u->K.lookup b=none:=fun b u q=>(zGy ar q).1
 have noA:∀ {b:Addr} {o:Obj} {es:Array DictEntry} {ep:Nat},s₁.heap.get? b=some o->o.data = .dict es ep->argH K s₁.heap A b=none:=fun {b o es ep} e d=>by
  cases q:argH K s₁.heap A b with
  | none=>rfl
  | some u=>
   obtain ⟨_,vs,_,_,⟨e2,_⟩ | ⟨e2,_⟩⟩:=zGy ar q
   ·rw [e2] at e
    cases e
    have d':Data.seq vs.toArray _=Data.dict es ep:=d
    cases d'
   ·rw [e2] at e
    cases e
    have d':Data.seq vs.toArray _=Data.dict es ep:=d
    cases d'
 generalize argH K s₁.heap A=H at hO hok hS hK noA
 have base_of:∀ {b:Addr} {o:Obj},s₁.heap.get? b=some o->H b=none->(hidT s₁.heap H).get? b=some o:=fun e n=>zNK e n
 have nsK:∀ {b:Addr} {m:Str->Option Value},s₁.heap.Ns b m->(hidT s₁.heap H).Ns b m:=fun {b m} ⟨o,es,ep,e,d,r⟩=>⟨o,es,ep,base_of e (noA e d),d,r⟩
 have nK:∀ b o,K.lookup b=some o->H b=none:=fun b o e=>by
  cases q:H b with
  | none=>rfl
  | some u=>
   rw [hK b u q] at e
   cases e
 have hKb:K.In (hidT s₁.heap H):=fun b o e=>base_of (KX b o e) (nK b o e)
 have hM:Mod K mg (hidT s₁.heap H):=⟨hKb,nsK hns,⟨mb,nsK hb,hbb⟩,let ⟨mc,h1,h2⟩:=hlim; ⟨mc,nsK h1,h2⟩⟩
 have e0:Env0 P w K mg (hidT s₁.heap H) callerA [] s₁ H:=⟨rfl,hM,fun b o e=>of_hidT e,Nat.le_of_eq (zMl _ _),trivial,fun b hb=>absurd (show b∈([]:List Addr) from hb) (by simp),hok,.of_eq hg⟩
 have hl:vals.length=ps.length:=by rw [zBR hwl]; exact hlen
 refine codeAny_mono ((F _ hKb (nsK hns)).run callerA [] s₁ H ⟨vals,[]⟩ vals (vals.map toV) _ _ hr e0 (hbind s₁ vals hl) hV (hsp H _ hO hS)) fun r s' x=>?_
 cases r with
 | error e=>exact (hCX H e s' x).elim
 | ok fl=>
  cases fl with
  | next=>exact False.elim x
  | brk=>exact False.elim x
  | cont=>exact False.elim x
  | ret u=>
   obtain ⟨v,H',os,bare,un,hok',r',q⟩:=x
   have kept:∀ b o,s₁.heap.get? b=some o->s'.heap.get? b=some o:=fun b o e=>by
    cases q2:H b with
    | none=>exact un.keep b o e q2 (by intro z; exact absurd (show b∈([]:List Addr) from z) (by simp)) (by simp)
    | some u2=>
     rcases hO b with z | ⟨ob,u3,z⟩
     ·rw [q2] at z
      cases z
     ·have z2:=un.frzs b ob _ z
      obtain ⟨e1,_⟩:=hok b _ z
      obtain ⟨e2,_⟩:=hok' b _ z2
      rw [e] at e1
      cases e1
      exact e2
   have KX':K.In s'.heap:=fun b o e=>kept b o (KX b o e)
   obtain ⟨as,hrd⟩:=Dw.reads (R:=R) (cl:=cl) hok' KX' d0 v u q r'
   exact ⟨u,as,rfl,hrd,OldK.of_keep kept,os,bare⟩
theorem zFb {ds:List WData} (h:WData.layableAll ds=true):∀ d∈ds,d.weight<=1048576:=fun d hd=>
 (PySem.W.layableW_iff.mp (List.all_eq_true.mp h d hd)).2.2
theorem zFA:∀ (cs:List Codec) (a:Codec.denoteAll cs),(Codec.encAll cs a).length=cs.length
 | [],_=>rfl
 | c::cs,a=>by
  show (Codec.encAll cs a.2).length+1=cs.length+1
  rw [zFA cs a.2]
theorem zKg {r:OpenSpec} {k:Nat} {q:Program} {loose:List Str} {XP:(Str->Option Value)->Heap->Prop} {YP:World->Heap->Prop} {d:DefRec} {K:Params->PySem.W.Frag} {CX:World->CXT} {ps:List Str} {sp:World->Sp}
  (hwell:r.wellSaid=true) (hdf:d.params.defaults=[]) (hlen:r.args.length=ps.length) (hr:Room k callerA)
  (hY:∀ (w:World) (h:Heap),YP w h->(K w.params).In h)
  (F:∀ (w:World) (mg:Str->Option Value) (fa:Addr) (h:Heap),YP w h->(K w.params).In h->h.Ns mainGlobals mg->mg d.name=some (.ref fa)->
   ∃ fd:FuncData,(∀ (s:Shared) (us:List Value),us.length=ps.length->BindsTo s fd ⟨us,[]⟩ (ps.zip us))/\
    ∀ base:Heap,(K w.params).In base->base.Ns mainGlobals mg->FnOk r.prog w (K w.params) mg base (CX w) k fa fd ps (sp w))
  (hsp:∀ (w:World) (H:Hp) (xs:List V) (a:Codec.denoteAll r.args),zMH H->Codec.withinAll r.args a=true->Codec.app r.args r.asked a=true->zDV (K w.params) H xs (Codec.encAll r.args a)->
   sp w xs H (fun v H'=>Dw (K w.params) H' v (r.ret.enc (Codec.app r.args r.f a))) fun _ _ _=>False)
  (hCX:∀ (w:World) (H:Hp) (s:Shared) (e:Value) (s':Shared),CX w [] H s (fun _ _ _=>False) e s'->False):
  PySem.W.WalkOS q loose XP YP r d [] (fun f vs=>PySem.call f vs):=by
 intro w s_0 s₁ mg mb G Y fa o pm cd doc dV kV ho hd hcd hD hmg hg args vals as hpre hlay hrd hwl hlo
 obtain ⟨a,e1,e2⟩:=PySem.W.os_pre_some hpre
 obtain ⟨e3,hwi⟩:=Codec.encAll_of_decAll r.args args a e1
 subst e3
 have KX:=hY w _ Y
 obtain ⟨fd,hb,hF⟩:=F w mg fa _ Y KX G.T.g hmg
 refine PySem.W.enter_call (codeAny_mono (zKs (R:=[]) (cl:=classAt s_0.heap) (d0:=r.ret.enc (Codec.app r.args r.f a)) KX G.T.g G.T.b G.T.builtins G.T.nolimit hg hwl (zHe _ _) (zFb hlay) hr hF hb (by rw [zFA]; exact hlen)
  (fun H xs hO hS=>hsp w H xs a hO hwi e2 hS) fun H e s'=>hCX w H s₁ e s') fun r' s' hq=>?_)
 obtain ⟨u,as',rfl,h1,h2,h3,h4⟩:=hq
 exact ⟨.inl ⟨u,_,as',rfl,fun _=>rfl,h1,(OpenSpec.post_iff hwell hwi _ _).mpr rfl,fun z=>Bool.noConfusion (show false=true from z)⟩,h2,h3,h4⟩
theorem walk_specK {r:OpenSpec} {k:Nat} {q:Program} {loose:List Str} {XP:(Str->Option Value)->Heap->Prop} {YP:World->Heap->Prop} {d:DefRec} {K:Params->PySem.W.Frag} {CX:CXT} {ps:List Str} {sp:PySem.W.Frag->Sp}
  (hwell:r.wellSaid=true) (hdf:d.params.defaults=[]) (hlen:r.args.length=ps.length) (hr:Room k callerA)
  (hY:∀ (w:World) (h:Heap),YP w h->(K w.params).In h)
  (F:∀ (w:World) (mg:Str->Option Value) (fa:Addr) (h:Heap),YP w h->(K w.params).In h->h.Ns mainGlobals mg->mg d.name=some (.ref fa)->
   ∃ fd:FuncData,(∀ (s:Shared) (us:List Value),us.length=ps.length->BindsTo s fd ⟨us,[]⟩ (ps.zip us))/\
    ∀ base:Heap,(K w.params).In base->base.Ns mainGlobals mg->FnOk r.prog w (K w.params) mg base CX k fa fd ps (sp (K w.params)))
  (hsp:∀ (K:PySem.W.Frag) (H:Hp) (xs:List V) (a:Codec.denoteAll r.args),zMH H->Codec.withinAll r.args a=true->Codec.app r.args r.asked a=true->zDV K H xs (Codec.encAll r.args a)->
   sp K xs H (fun v H'=>Dw K H' v (r.ret.enc (Codec.app r.args r.f a))) fun _ _ _=>False)
  (hCX:∀ (H:Hp) (s:Shared) (e:Value) (s':Shared),CX [] H s (fun _ _ _=>False) e s'->False):
  PySem.W.WalkOS q loose XP YP r d [] (fun f vs=>PySem.call f vs):=
 zKg (K:=K) (CX:=fun _=>CX) (sp:=fun w=>sp (K w.params)) hwell hdf hlen hr hY F (fun w H xs a h1 h2 h3 h4=>hsp (K w.params) H xs a h1 h2 h3 h4) fun _ H s e s'=>hCX H s e s'
end L2
end
end
section
namespace RC
abbrev Up (l:List Nat):Prop:=l.Pairwise (· < ·)
theorem Up.ext:∀ {l m:List Nat},Up l->Up m->(∀ x,x∈l↔x∈m)->l=m
 | [],[],_,_,_=>rfl
 | [],b::m,_,_,h=>absurd ((h b).mpr List.mem_cons_self) (by simp)
 | a::l,[],_,_,h=>absurd ((h a).mp List.mem_cons_self) (by simp)
 | a::l,b::m,h1,h2,h=>by
  have ha:=List.pairwise_cons.mp h1
  have hb:=List.pairwise_cons.mp h2
  have e:a=b:=by
   have q1:=(h a).mp List.mem_cons_self
   have q2:=(h b).mpr List.mem_cons_self
   rcases List.mem_cons.mp q1 with q1 | q1
   ·exact q1
   ·rcases List.mem_cons.mp q2 with q2 | q2
    ·exact q2.symm
    ·have:=hb.1 a q1
     have:=ha.1 b q2
     omega
  subst e
  congr 1
  refine Up.ext ha.2 hb.2 fun x=>?_
  constructor
  ·intro hx
   have:=ha.1 x hx
   rcases List.mem_cons.mp ((h x).mp (List.mem_cons_of_mem _ hx)) with q | q
   ·omega
   ·exact q
  ·intro hx
   have:=hb.1 x hx
   rcases List.mem_cons.mp ((h x).mpr (List.mem_cons_of_mem _ hx)) with q | q
   ·omega
   ·exact q
theorem zEe (n:Nat):Up (List.range n):=List.pairwise_lt_range
theorem zCl {p:Nat->Bool} {l:List Nat} (h:Up l):Up (l.filter p):=List.Pairwise.filter p h
noncomputable def mask:List Nat->Nat
 | []=>0
 | t::r=>2 ^ t+mask r
theorem zJc:∀ {l:List Nat} {a:Nat},Up l->(∀ x∈l,a<=x)->∃ q,mask l=2 ^ a*q
 | [],_,_,_=>⟨0,rfl⟩
 | t::r,a,h,ha=>by
  have h':=List.pairwise_cons.mp h
  obtain ⟨q,hq⟩:=zJc (a:=t) h'.2 fun x hx=>Nat.le_of_lt (h'.1 x hx)
  have ht:=ha t List.mem_cons_self
  refine ⟨2 ^ (t-a)*(1+q),?_⟩
  show 2 ^ t+mask r=_
  rw [hq,<- Nat.mul_assoc,<- Nat.pow_add,show a+(t-a)=t by omega,Nat.mul_add,Nat.mul_one]
theorem zBs:∀ {l:List Nat},Up l->∀ t,(mask l).testBit t=decide (t∈l)
 | [],_,t=>by simp [mask]
 | a::r,h,t=>by
  have h':=List.pairwise_cons.mp h
  obtain ⟨q,hq⟩:=zJc (a:=a+1) h'.2 fun x hx=>h'.1 x hx
  have ih:=zBs h'.2 t
  have hlt:2 ^ a<2 ^ (a+1):=Nat.pow_lt_pow_right (by decide) (Nat.lt_succ_self a)
  have e:mask (a::r)=mask r ||| 2 ^ a:=by
   show 2 ^ a+mask r=_
   rw [Nat.add_comm,hq]
   exact Nat.two_pow_add_eq_or_of_lt hlt q
  rw [e,Nat.testBit_or,ih,Nat.testBit_two_pow]
  by_cases hta:a=t
  ·subst hta; simp
  ·simp [hta,List.mem_cons,Ne.symm hta]
theorem zBF {l:List Nat} (h:Up l) (t:Nat):Rol.Row.hole (mask l) t=decide (t∈l):=zBs h t
theorem tracks_mask {l:List Nat} {w:Nat} (h:Up l) (hw:∀ x∈l,x<w):Rol.Row.tracks w (mask l)=l:=by
 refine Up.ext (zCl (zEe w)) h fun x=>?_
 unfold Rol.Row.tracks
 rw [List.mem_filter,List.mem_range,zBF h,decide_eq_true_eq]
 exact ⟨fun q=>q.2,fun q=>⟨hw x q,q⟩⟩
theorem zJd {l m:List Nat} (h1:Up l) (h2:Up m) (e:mask l=mask m):l=m:=by
 refine Up.ext h1 h2 fun x=>?_
 have q:(mask l).testBit x=(mask m).testBit x:=by rw [e]
 rw [zBs h1,zBs h2] at q
 simpa using q
noncomputable abbrev Run:=Nat×List Nat
structure Strip where
 wide:Nat
 runs:List Run
noncomputable def zDX:List Run->Prop
 | []=>True
 | [_]=>True
 | a::b::r=>a.2≠b.2/\zDX (b::r)
noncomputable def zAL (l:List Run):List Nat:=l.flatMap fun r=>List.replicate r.1 (mask r.2)
noncomputable def total (l:List Run):Nat:=(l.map (·.1)).sum
structure RunOk (w:Nat) (r:Run):Prop where
 pos:1<=r.1
 up:Up r.2
 low:∀ t∈r.2,t<w
structure Strip.Ok (s:Strip):Prop where
 w1:1<=s.wide
 w2:s.wide<=128
 all:∀ r∈s.runs,RunOk s.wide r
 apart:zDX s.runs
 few:total s.runs<=256
noncomputable def Strip.spec (s:Strip):Rol.Strip:=⟨s.wide,zAL s.runs⟩
theorem zDd (l:List Run):(zAL l).length=total l:=by
 unfold zAL total
 rw [List.length_flatMap]
 simp
theorem zGf {x:Nat} {l:List Nat}:∀ {n:Nat},1<=n->(∀ m y r,Rol.runs l=(m,y)::r->x≠y)->Rol.runs (List.replicate n x++l)=(n,x)::Rol.runs l
 | 0,h,_=>absurd h (by decide)
 | 1,_,h=>by
  show Rol.runs (x::l)=_
  rw [Rol.runs]
  cases e:Rol.runs l with
  | nil=>rfl
  | cons p r=>
   obtain ⟨m,y⟩:=p
   show (if x=y then _ else _)=_
   rw [if_neg (h m y r e)]
 | n+2,_,h=>by
  have ih:=zGf (n:=n+1) (by omega) h
  show Rol.runs (x::(List.replicate (n+1) x++l))=_
  rw [Rol.runs,ih]
  simp
theorem zEA {w:Nat}:∀ {l:List Run},(∀ r∈l,RunOk w r)->zDX l->Rol.runs (zAL l)=l.map fun r=>(r.1,mask r.2)
 | [],_,_=>rfl
 | [a],h,_=>by
  have:=h a List.mem_cons_self
  show Rol.runs (List.replicate a.1 (mask a.2)++[])=_
  rw [zGf this.pos (by intro m y r e; cases e)]
  rfl
 | a::b::r,h,hA=>by
  have ih:=zEA (l:=b::r) (fun x hx=>h x (List.mem_cons_of_mem _ hx)) hA.2
  have ha:=h a List.mem_cons_self
  have hb:=h b (List.mem_cons_of_mem _ List.mem_cons_self)
  show Rol.runs (List.replicate a.1 (mask a.2)++zAL (b::r))=_
  rw [zGf ha.pos,ih]
  ·rfl
  ·intro m y q e
   rw [ih] at e
   rw [List.map_cons] at e
   injection e with e1 e2
   injection e1 with e3 e4
   intro e5
   exact hA.1 (zJd ha.up hb.up (e5.trans e4.symm))
end RC
end
section
namespace RC
open Rol (Paper Row)
noncomputable abbrev W3:=Nat×Nat×Nat
noncomputable def lexLt (a b:W3):Bool:=decide (a.1<b.1)||(decide (a.1=b.1)&&(decide (a.2.1<b.2.1)||(decide (a.2.1=b.2.1)&&decide (a.2.2<b.2.2))))
noncomputable def lexMin:List W3->Option W3
 | []=>none
 | a::r=>some (r.foldl (fun m x=>if lexLt x m=true then x else m) a)
theorem lexLt_iff {a b:W3}:lexLt a b=true↔a.1<b.1\/(a.1=b.1/\(a.2.1<b.2.1\/(a.2.1=b.2.1/\a.2.2<b.2.2))):=by
 unfold lexLt
 simp only [Bool.or_eq_true,Bool.and_eq_true,decide_eq_true_eq]
theorem zDN:∀ (l:List W3) (a:W3),let m:=l.foldl (fun m x=>if lexLt x m=true then x else m) a
  (m=a\/m∈l)/\lexLt a m=false/\∀ x∈l,lexLt x m=false
 | [],a=>by
  refine ⟨Or.inl rfl,?_,fun x hx=>by simp at hx⟩
  rw [Bool.eq_false_iff,ne_eq,lexLt_iff]
  show ¬ _
  simp only [List.foldl_nil]
  omega
 | b::l,a=>by
  obtain ⟨h1,h2,h3⟩:=zDN l (if lexLt b a=true then b else a)
  simp only [List.foldl_cons]
  generalize hm:l.foldl (fun m x=>if lexLt x m=true then x else m) (if lexLt b a=true then b else a)=m at h1 h2 h3
  have hh:lexLt a m=false/\lexLt b m=false:=by
   rw [Bool.eq_false_iff,Bool.eq_false_iff,ne_eq,ne_eq,lexLt_iff,lexLt_iff]
   rw [Bool.eq_false_iff,ne_eq,lexLt_iff] at h2
   by_cases hc:lexLt b a=true
   ·rw [if_pos hc] at h2
    rw [lexLt_iff] at hc
    omega
   ·rw [if_neg hc] at h2
    rw [lexLt_iff] at hc
    omega
  refine ⟨?_,hh.1,?_⟩
  ·rcases h1 with h1 | h1
   ·split at h1
    ·exact Or.inr (by rw [h1]; exact List.mem_cons_self)
    ·exact Or.inl h1
   ·exact Or.inr (List.mem_cons_of_mem _ h1)
  ·intro x hx
   rcases List.mem_cons.mp hx with rfl | hx
   ·exact hh.2
   ·exact h3 x hx
theorem zGk {l:List W3} {m:W3} (h:m∈l) (h2:∀ x∈l,lexLt x m=false):lexMin l=some m:=by
 cases l with
 | nil=>simp at h
 | cons a r=>
  obtain ⟨h3,h4,h5⟩:=zDN r a
  show some (r.foldl (fun m x=>if lexLt x m=true then x else m) a)=some m
  revert h3 h4 h5
  generalize r.foldl (fun m x=>if lexLt x m=true then x else m) a=z
  intro h3 h4 h5
  have e1:lexLt z m=false:=by
   rcases h3 with h3 | h3
   ·rw [h3]; exact h2 a List.mem_cons_self
   ·exact h2 z (List.mem_cons_of_mem _ h3)
  have e2:lexLt m z=false:=by
   rcases List.mem_cons.mp h with rfl | h
   ·exact h4
   ·exact h5 m h
  rw [Bool.eq_false_iff,ne_eq,lexLt_iff] at e1 e2
  obtain ⟨z1,z2,z3⟩:=z
  obtain ⟨m1,m2,m3⟩:=m
  simp only [Option.some.injEq,Prod.mk.injEq]
  simp only at e1 e2
  omega
noncomputable def side (x:Row):Nat->Nat
 | 0=>0
 | t+1=>if Row.hole x t=true then side x t+1 else 0
noncomputable abbrev F:=Nat->Nat×Option Nat
def bad (p:Paper) (f:F) (x:Row) (i t k:Nat):Prop:=Row.hole x t=true/\
 ((k=1/\p.longest<=(f t).1)\/(k=2/\(f t).1=0/\∃ j,(f t).2=some j/\i<j+1+p.bridge)\/(k=3/\p.near<=side x t))
noncomputable def stOf (f:F) (w:Nat):List (Nat×Option Nat):=(List.range' 0 w).map f
theorem zCd {p:Paper} {f:F} {x:Row} {i:Nat} (hl:1<=p.longest) (hc:∀ t,(f t).1<=p.longest):∀ (n t0 sd:Nat),sd=side x t0->sd<=p.near->
  match Rol.wrongIn p i x t0 sd ((List.range' t0 n).map f) with
  | none=>∀ t,t0<=t->t<t0+n->∀ k,¬ bad p f x i t k
  | some z=>∃ t k,z=(k,i,t)/\t0<=t/\t<t0+n/\bad p f x i t k/\∀ t' k',t0<=t'->t'<t0+n->bad p f x i t' k'->t<t'\/(t=t'/\k<=k')
 | 0,t0,sd,_,_=>by
  show ∀ t,_
  intro t h1 h2
  omega
 | n+1,t0,sd,hs,hn=>by
  rw [List.range'_succ,List.map_cons,Rol.wrongIn]
  by_cases hh:Row.hole x t0=false
  ·rw [if_pos hh]
   have ih:=zCd (i:=i) hl hc n (t0+1) 0 (by rw [side,if_neg (by rw [hh]; decide)]) (Nat.zero_le _)
   have nb:∀ k,¬ bad p f x i t0 k:=fun k hb=>absurd hb.1 (by rw [hh]; decide)
   split at ih
   ·intro t h1 h2 k hb
    by_cases ht:t=t0
    ·subst ht; exact nb k hb
    ·exact ih t (by omega) (by omega) k hb
   ·obtain ⟨t,k,h1,h2,h3,h4,h5⟩:=ih
    refine ⟨t,k,h1,by omega,by omega,h4,fun t' k' q1 q2 hb=>?_⟩
    by_cases ht:t'=t0
    ·subst ht; exact absurd hb (nb k')
    ·exact h5 t' k' (by omega) (by omega) hb
  ·rw [if_neg hh]
   have hh':Row.hole x t0=true:=by simpa using hh
   have hct:=hc t0
   by_cases h1:(f t0).1=p.longest
   ·rw [if_pos h1]
    refine ⟨t0,1,rfl,Nat.le_refl _,by omega,⟨hh',Or.inl ⟨rfl,by omega⟩⟩,fun t' k' q1 q2 hb=>?_⟩
    by_cases ht:t'=t0
    ·refine Or.inr ⟨ht.symm,?_⟩
     rcases hb.2 with h | h | h <;> omega
    ·exact Or.inl (by omega)
   ·rw [if_neg h1]
    have n1:¬ p.longest<=(f t0).1:=by omega
    by_cases h2:(f t0).1=0/\((f t0).2.any fun (j:Nat)=>decide (i<j+1+p.bridge))=true
    ·rw [if_pos h2]
     obtain ⟨h2a,h2b⟩:=h2
     obtain ⟨j,hj,hj2⟩:∃ j,(f t0).2=some j/\i<j+1+p.bridge:=by
      cases e:(f t0).2 with
      | none=>rw [e] at h2b; cases h2b
      | some j=>rw [e] at h2b; exact ⟨j,rfl,by simpa using h2b⟩
     refine ⟨t0,2,rfl,Nat.le_refl _,by omega,⟨hh',Or.inr (Or.inl ⟨rfl,h2a,j,hj,hj2⟩)⟩,fun t' k' q1 q2 hb=>?_⟩
     by_cases ht:t'=t0
     ·refine Or.inr ⟨ht.symm,?_⟩
      subst ht
      rcases hb.2 with h | h | h <;> omega
     ·exact Or.inl (by omega)
    ·rw [if_neg h2]
     have n2:¬ ((f t0).1=0/\∃ j,(f t0).2=some j/\i<j+1+p.bridge):=by
      rintro ⟨q1,j,q2,q3⟩
      refine h2 ⟨q1,?_⟩
      rw [q2]
      simpa using q3
     by_cases h3:sd=p.near
     ·rw [if_pos h3]
      refine ⟨t0,3,rfl,Nat.le_refl _,by omega,⟨hh',Or.inr (Or.inr ⟨rfl,by omega⟩)⟩,fun t' k' q1 q2 hb=>?_⟩
      by_cases ht:t'=t0
      ·refine Or.inr ⟨ht.symm,?_⟩
       subst ht
       rcases hb.2 with h | h | h
       ·exact absurd h.2 n1
       ·exact absurd h.2 n2
       ·omega
      ·exact Or.inl (by omega)
     ·rw [if_neg h3]
      have nb:∀ k,¬ bad p f x i t0 k:=fun k hb=>by
       rcases hb.2 with h | h | h
       ·exact n1 h.2
       ·exact n2 h.2
       ·omega
      have ih:=zCd (i:=i) hl hc n (t0+1) (sd+1) (by rw [side,if_pos hh',hs]) (by omega)
      split at ih
      ·intro t h1 h2 k hb
       by_cases ht:t=t0
       ·subst ht; exact nb k hb
       ·exact ih t (by omega) (by omega) k hb
      ·obtain ⟨t,k,h1,h2,h3,h4,h5⟩:=ih
       refine ⟨t,k,h1,by omega,by omega,h4,fun t' k' q1 q2 hb=>?_⟩
       by_cases ht:t'=t0
       ·subst ht; exact absurd hb (nb k')
       ·exact h5 t' k' (by omega) (by omega) hb
noncomputable def up1 (f:F) (x:Row) (i:Nat):F:=fun t=>if Row.hole x t=true then ((f t).1+1,some i) else (0,(f t).2)
theorem stOf_up (f:F) (x:Row) (i w:Nat):((stOf f w).zipIdx.map fun (z:(Nat×Option Nat)×Nat)=>if Row.hole x z.2=true then (z.1.1+1,some i) else (0,z.1.2))=stOf (up1 f x i) w:=by
 refine List.ext_getElem? fun j=>?_
 unfold stOf up1
 simp only [List.getElem?_map,List.getElem?_zipIdx]
 by_cases hj:j<w
 ·rw [List.getElem?_range' (by omega)]
  simp
 ·rw [List.getElem?_eq_none (by simp; omega)]
  rfl
noncomputable def fm (f:F) (x:Row) (i:Nat):Nat->F
 | 0=>f
 | m+1=>up1 (fm f x i m) x (i+m)
theorem zCz (f:F) (x:Row) (i:Nat):∀ m,fm (up1 f x i) x (i+1) m=fm f x i (m+1)
 | 0=>rfl
 | m+1=>by
  rw [fm,zCz f x i m]
  conv=>rhs; rw [fm]
  rw [show i+1+m=i+(m+1) by omega]
theorem zDO (f:F) (x:Row) (i:Nat):∀ m t,fm f x i (m+1) t=if Row.hole x t=true then ((f t).1+(m+1),some (i+m)) else (0,(f t).2)
 | 0,t=>rfl
 | m+1,t=>by
  rw [fm,up1,zDO f x i m t]
  by_cases h:Row.hole x t=true
  ·simp [h]; omega
  ·simp [h]
def zDR (p:Paper) (f:F) (x:Row) (i n w:Nat) (z:W3):Prop:=∃ m,m<n/\z.1=i+m/\z.2.1<w/\bad p (fm f x i m) x (i+m) z.2.1 z.2.2
theorem zCV {p:Paper} {x:Row} {w:Nat} {rest:List Row} (hl:1<=p.longest):∀ (n:Nat) (f:F) (i:Nat),(∀ t,(f t).1<=p.longest)->(∀ t,w<=t->(f t).1=0)->(∀ t,w<=t->Row.hole x t=false)->
  (∃ z,zDR p f x i n w z/\(∀ z',zDR p f x i n w z'->lexLt z' z=false)/\Rol.wrongFrom p i (stOf f w) (List.replicate n x++rest)=some (z.2.2,z.1,z.2.1))
  \/ ((∀ z,¬ zDR p f x i n w z)/\Rol.wrongFrom p i (stOf f w) (List.replicate n x++rest)=Rol.wrongFrom p (i+n) (stOf (fm f x i n) w) rest/\(∀ t,(fm f x i n t).1<=p.longest)/\(∀ t,w<=t->(fm f x i n t).1=0))
 | 0,f,i,hc,hw,hx=>Or.inr ⟨fun z ⟨m,hm,_⟩=>absurd hm (Nat.not_lt_zero m),rfl,hc,hw⟩
 | n+1,f,i,hc,hw,hx=>by
  have h0:=zCd (i:=i) (x:=x) hl hc w 0 0 rfl (Nat.zero_le _)
  rw [List.replicate_succ,List.cons_append,Rol.wrongFrom]
  change match Rol.wrongIn p i x 0 0 (stOf f w) with | none=>_ | some z=>_ at h0
  cases e:Rol.wrongIn p i x 0 0 (stOf f w) with
  | some z=>
   rw [e] at h0
   obtain ⟨t,k,h1,h2,h3,h4,h5⟩:=h0
   refine Or.inl ⟨(i,t,k),⟨0,by omega,rfl,by simpa using h3,h4⟩,?_,by rw [h1]⟩
   rintro ⟨r',t',k'⟩ ⟨m,hm,e1,hw',hb⟩
   rw [Bool.eq_false_iff,ne_eq,lexLt_iff]
   simp only at e1 hb hw' ⊢
   by_cases hm0:m=0
   ·subst hm0
    have:=h5 t' k' (Nat.zero_le _) (by omega) hb
    omega
   ·omega
  | none=>
   rw [e] at h0
   simp only
   rw [stOf_up]
   have hc':∀ t,(up1 f x i t).1<=p.longest:=fun t=>by
    unfold up1
    split
    ·rename_i hh
     by_cases ht:t<w
     ·have:=h0 t (Nat.zero_le _) (by omega) 1
      have h':¬ p.longest<=(f t).1:=fun q=>this ⟨hh,Or.inl ⟨rfl,q⟩⟩
      show (f t).1+1<=_
      omega
     ·rw [hx t (by omega)] at hh; cases hh
    ·exact Nat.zero_le _
   have hw':∀ t,w<=t->(up1 f x i t).1=0:=fun t ht=>by
    unfold up1
    rw [if_neg (by rw [hx t ht]; decide)]
   have nb:∀ t k,t<w->¬ bad p f x i t k:=fun t k ht=>h0 t (Nat.zero_le _) (by omega) k
   have hbr:∀ z,zDR p (up1 f x i) x (i+1) n w z↔zDR p f x i (n+1) w z:=by
    intro z
    constructor
    ·rintro ⟨m,hm,h1,h2,h3⟩
     refine ⟨m+1,by omega,by omega,h2,?_⟩
     rw [zCz] at h3
     rw [show i+(m+1)=i+1+m by omega]
     exact h3
    ·rintro ⟨m,hm,h1,h2,h3⟩
     cases m with
     | zero=>exact absurd h3 (nb _ _ h2)
     | succ m=>
      refine ⟨m,by omega,by omega,h2,?_⟩
      rw [zCz,show i+1+m=i+(m+1) by omega]
      exact h3
   rcases zCV hl n (up1 f x i) (i+1) hc' hw' hx with ⟨z,h1,h2,h3⟩ | ⟨h1,h2,h3,h4⟩
   ·exact Or.inl ⟨z,(hbr z).mp h1,fun z' hz'=>h2 z' ((hbr z').mpr hz'),h3⟩
   ·refine Or.inr ⟨fun z hz=>h1 z ((hbr z).mpr hz),?_,?_,?_⟩
    ·rw [h2,zCz,show i+1+n=i+(n+1) by omega]
    ·rw [zCz] at h3; exact h3
    ·rw [zCz] at h4; exact h4
end RC
end
section
namespace RC
open Rol (Paper Row)
noncomputable abbrev D:=Nat->Option Nat
noncomputable def closeAt (row bridge:Nat) (ends:D) (t:Nat):Bool:=match ends t with
 | some e=>decide (e<row)&&decide (row<e+bridge)
 | none=>false
noncomputable def closeWrongs (row bridge:Nat) (ends:D) (ts:List Nat):List W3:=(ts.filter (closeAt row bridge ends)).map fun t=>(row,t,2)
noncomputable def besideOf (b:Nat) (bf:Option Nat) (t:Nat):Nat:=if bf.map (· + 1)=some t then b+1 else 1
noncomputable def nearWrongs (row near:Nat):Nat->Option Nat->List Nat->List W3
 | _,_,[]=>[]
 | b,bf,t::r=>(if near<besideOf b bf t then [(row,t,3)] else [])++nearWrongs row near (besideOf b bf t) (some t) r
noncomputable def begun (row:Nat) (begins ends:D) (ts:List Nat):D:=fun t=>if t∈ts/\ends t≠some row then some row else begins t
noncomputable def longAt (row n longest:Nat) (begins:D) (t:Nat):Bool:=decide ((begins t).getD 0+longest<row+n)
noncomputable def longWrongs (row n longest:Nat) (begins:D) (ts:List Nat):List W3:=(ts.filter (longAt row n longest begins)).map fun t=>((begins t).getD 0+longest,t,1)
noncomputable def endsBy (row:Nat) (ends:D) (ts:List Nat):D:=fun t=>if t∈ts then some row else ends t
noncomputable def wrongsOf (p:Paper) (row:Nat) (begins ends:D) (r:Run):List W3:=(closeWrongs row p.bridge ends r.2++nearWrongs row p.near 0 none r.2)++longWrongs row r.1 p.longest (begun row begins ends r.2) r.2
noncomputable def firstWrong (p:Paper):Nat->D->D->List Run->Option W3
 | _,_,_,[]=>none
 | row,begins,ends,r::l=>match lexMin (wrongsOf p row begins ends r) with
  | some z=>some z
  | none=>firstWrong p (row+r.1) (begun row begins ends r.2) (endsBy (row+r.1) ends r.2) l
theorem zJa {row near:Nat} {x:Row}:∀ (ts:List Nat) (b:Nat) (bf:Option Nat),Up ts->(∀ t,t∈ts->Row.hole x t=true)->
  (∀ u,bf=some u->(∀ t∈ts,u<t)/\(∀ t,u<t->(Row.hole x t=true↔t∈ts))/\b=side x (u+1))->
  (bf=none->∀ t,Row.hole x t=true↔t∈ts)->
  ∀ z,z∈nearWrongs row near b bf ts↔∃ t,t∈ts/\near<=side x t/\z=(row,t,3)
 | [],_,_,_,_,_,_,z=>by simp [nearWrongs]
 | t::r,b,bf,hu,hh,hs,hn,z=>by
  have hu':=List.pairwise_cons.mp hu
  have hb:besideOf b bf t=side x t+1:=by
   unfold besideOf
   cases bf with
   | none=>
    rw [if_neg (by simp)]
    cases t with
    | zero=>rfl
    | succ t=>
     have:¬ Row.hole x t=true:=fun q=>by
      have q':=(hn rfl t).mp q
      rcases List.mem_cons.mp q' with q' | q'
      ·omega
      ·have:=hu'.1 t q'; omega
     rw [side,if_neg this]
   | some u=>
    obtain ⟨h1,h2,h3⟩:=hs u rfl
    have hut:=h1 t List.mem_cons_self
    by_cases e:u+1=t
    ·subst e
     rw [if_pos (show Option.map (· + 1) (some u)=some (u+1) from rfl),h3]
    ·rw [if_neg (by simpa using e)]
     cases t with
     | zero=>omega
     | succ t=>
      have:¬ Row.hole x t=true:=fun q=>by
       have q':=(h2 t (by omega)).mp q
       rcases List.mem_cons.mp q' with q' | q'
       ·omega
       ·have:=hu'.1 t q'; omega
      rw [side,if_neg this]
  have ht:Row.hole x t=true:=hh t List.mem_cons_self
  have ih:=zJa (row:=row) (near:=near) r (besideOf b bf t) (some t) hu'.2 (fun t' q=>hh t' (List.mem_cons_of_mem _ q)) (fun u e=>by
   cases e
   refine ⟨hu'.1,fun t' q=>⟨fun q2=>?_,fun q2=>hh t' (List.mem_cons_of_mem _ q2)⟩,?_⟩
   ·have:t'∈t::r:=by
     cases bf with
     | none=>exact (hn rfl t').mp q2
     | some u=>
      obtain ⟨h1,h2,h3⟩:=hs u rfl
      have:=h1 t List.mem_cons_self
      exact (h2 t' (by omega)).mp q2
    rcases List.mem_cons.mp this with q3 | q3
    ·omega
    ·exact q3
   ·rw [hb,side,if_pos ht]) (fun e=>by cases e) z
  rw [nearWrongs,List.mem_append,ih,hb]
  constructor
  ·rintro (h | ⟨t',h1,h2,h3⟩)
   ·split at h
    ·exact ⟨t,List.mem_cons_self,by omega,by simpa using h⟩
    ·simp at h
   ·exact ⟨t',List.mem_cons_of_mem _ h1,h2,h3⟩
  ·rintro ⟨t',h1,h2,h3⟩
   rcases List.mem_cons.mp h1 with rfl | h1
   ·left; rw [if_pos (by omega)]; simpa using h3
   ·exact Or.inr ⟨t',h1,h2,h3⟩
structure Held (f:F) (begins ends:D) (i:Nat):Prop where
 last:∀ t,(f t).2=(ends t).map (· - 1)
 ends_:∀ t e,ends t=some e->1<=e/\e<=i
 cnt:∀ t,ends t=some i->∃ b,begins t=some b/\b<i/\(f t).1=i-b
 cnt0:∀ t,ends t≠some i->(f t).1=0
theorem Held.le {f:F} {begins ends:D} {i:Nat} (h:Held f begins ends i) (t:Nat):(f t).1<=i:=by
 by_cases e:ends t=some i
 ·obtain ⟨b,_,_,q⟩:=h.cnt t e; omega
 ·rw [h.cnt0 t e]; exact Nat.zero_le _
theorem Held.begun {f:F} {begins ends:D} {i:Nat} (h:Held f begins ends i) {ts:List Nat} {t:Nat} (ht:t∈ts):begun i begins ends ts t=some (i-(f t).1):=by
 unfold RC.begun
 by_cases e:ends t=some i
 ·rw [if_neg (fun q=>q.2 e)]
  obtain ⟨b,h1,h2,h3⟩:=h.cnt t e
  rw [h1]
  congr 1
  omega
 ·rw [if_pos ⟨ht,e⟩,h.cnt0 t e,Nat.sub_zero]
theorem Held.next {f:F} {begins ends:D} {i n:Nat} (h:Held f begins ends i) {ts:List Nat} (hu:Up ts) (hn:1<=n):Held (fm f (mask ts) i n) (RC.begun i begins ends ts) (endsBy (i+n) ends ts) (i+n):=by
 obtain ⟨m,rfl⟩:∃ m,n=m+1:=⟨n-1,by omega⟩
 refine ⟨fun t=>?_,fun t e=>?_,fun t=>?_,fun t=>?_⟩
 ·rw [zDO,zBF hu]
  unfold endsBy
  by_cases ht:t∈ts
  ·simp [ht]
  ·simp [ht,h.last t]
 ·unfold endsBy
  by_cases ht:t∈ts
  ·rw [if_pos ht]; intro q; cases q; omega
  ·rw [if_neg ht]; intro q; have:=h.ends_ t e q; omega
 ·unfold endsBy
  by_cases ht:t∈ts
  ·intro _
   refine ⟨_,h.begun ht,?_,?_⟩
   ·omega
   ·rw [zDO,zBF hu]
    have:=h.le t
    simp [ht]; omega
  ·rw [if_neg ht]; intro q; have:=h.ends_ t _ q; omega
 ·unfold endsBy
  by_cases ht:t∈ts
  ·rw [if_pos ht]; intro q; exact absurd rfl q
  ·intro _
   rw [zDO,zBF hu]
   simp [ht]
theorem zJt {p:Paper} {f:F} {begins ends:D} {i w:Nat} {r:Run} (H:Held f begins ends i) (ok:RunOk w r) (hc:∀ t,(f t).1<=p.longest):
  (∀ z,z∈wrongsOf p i begins ends r->zDR p f (mask r.2) i r.1 w z)/\
  (∀ z,zDR p f (mask r.2) i r.1 w z->(∀ z',zDR p f (mask r.2) i r.1 w z'->lexLt z' z=false)->z∈wrongsOf p i begins ends r):=by
 have hn:∀ t,Row.hole (mask r.2) t=true↔t∈r.2:=fun t=>by rw [zBF ok.up,decide_eq_true_eq]
 have near:=zJa (row:=i) (near:=p.near) (x:=mask r.2) r.2 0 none ok.up (fun t q=>(hn t).mpr q) (fun u e=>by cases e) (fun _=>hn)
 constructor
 ·rintro ⟨o,t,k⟩ hz
  unfold wrongsOf at hz
  rw [List.mem_append,List.mem_append] at hz
  rcases hz with (hz | hz) | hz
  ·unfold closeWrongs at hz
   rw [List.mem_map] at hz
   obtain ⟨t',h1,h2⟩:=hz
   rw [List.mem_filter] at h1
   simp only [Prod.mk.injEq] at h2
   obtain ⟨rfl,rfl,rfl⟩:=h2
   obtain ⟨h1,h2⟩:=h1
   unfold closeAt at h2
   cases e:ends t' with
   | none=>rw [e] at h2; cases h2
   | some v=>
    rw [e] at h2
    simp only [Bool.and_eq_true,decide_eq_true_eq] at h2
    refine ⟨0,ok.pos,rfl,ok.low _ h1,(hn t').mpr h1,Or.inr (Or.inl ⟨rfl,H.cnt0 t' (by rw [e]; intro q; cases q; omega),v-1,?_,?_⟩)⟩
    ·show (f t').2=_
     rw [H.last,e]; rfl
    ·have:=H.ends_ t' v e
     show i<_
     omega
  ·obtain ⟨t',h1,h2,h3⟩:=(near _).mp hz
   simp only [Prod.mk.injEq] at h3
   obtain ⟨rfl,rfl,rfl⟩:=h3
   exact ⟨0,ok.pos,rfl,ok.low _ h1,(hn _).mpr h1,Or.inr (Or.inr ⟨rfl,h2⟩)⟩
  ·unfold longWrongs at hz
   rw [List.mem_map] at hz
   obtain ⟨t',h1,h2⟩:=hz
   rw [List.mem_filter] at h1
   obtain ⟨h1,h3⟩:=h1
   unfold longAt at h3
   rw [H.begun h1] at h2 h3
   simp only [Option.getD_some,decide_eq_true_eq,Prod.mk.injEq] at h2 h3
   obtain ⟨rfl,rfl,rfl⟩:=h2
   have hle:=H.le t'
   have hct:=hc t'
   refine ⟨p.longest-(f t').1,by omega,by show _+_=_; omega,ok.low _ h1,(hn t').mpr h1,Or.inl ⟨rfl,?_⟩⟩
   show p.longest<=(fm f (mask r.2) i (p.longest-(f t').1) t').1
   cases e:p.longest-(f t').1 with
   | zero=>show _<=(f t').1; omega
   | succ m=>
    rw [zDO,if_pos ((hn t').mpr h1)]
    show _<=(f t').1+(m+1)
    omega
 ·rintro ⟨o,t,k⟩ ⟨m,hm,e1,hw,hb⟩ hmin
  simp only at e1 hw hb
  subst e1
  have ht:t∈r.2:=(hn t).mp hb.1
  unfold wrongsOf
  rw [List.mem_append,List.mem_append]
  cases m with
  | zero=>
   rcases hb.2 with ⟨hk,h⟩ | ⟨hk,h1,j,h2,h3⟩ | ⟨hk,h⟩
   ·right
    subst hk
    unfold longWrongs
    rw [List.mem_map]
    have h:p.longest<=(f t).1:=h
    have hct:=hc t
    have hle:=H.le t
    refine ⟨t,List.mem_filter.mpr ⟨ht,?_⟩,?_⟩
    ·unfold longAt
     rw [H.begun ht]
     simp only [Option.getD_some,decide_eq_true_eq]
     omega
    ·rw [H.begun ht]
     simp only [Option.getD_some,Prod.mk.injEq,and_true,true_and]
     omega
   ·left; left
    subst hk
    unfold closeWrongs
    rw [List.mem_map]
    refine ⟨t,List.mem_filter.mpr ⟨ht,?_⟩,rfl⟩
    have h1:(f t).1=0:=h1
    have h2:(f t).2=some j:=h2
    rw [H.last] at h2
    unfold closeAt
    cases e:ends t with
    | none=>rw [e] at h2; cases h2
    | some v=>
     rw [e] at h2
     cases h2
     have h3:i<v-1+1+p.bridge:=h3
     have hv:=H.ends_ t v e
     have:v≠i:=fun q=>by
      subst q
      obtain ⟨b,_,h5,h6⟩:=H.cnt t e
      omega
     simp only [Bool.and_eq_true,decide_eq_true_eq]
     omega
   ·left; right
    subst hk
    exact (near _).mpr ⟨t,ht,h,rfl⟩
  | succ m=>
   have nb:∀ t' k',t'<w->∀ m',m'<m+1->¬ bad p (fm f (mask r.2) i m') (mask r.2) (i+m') t' k':=fun t' k' hw' m' hm' hb'=>by
    have:=hmin (i+m',t',k') ⟨m',by omega,rfl,hw',hb'⟩
    rw [Bool.eq_false_iff,ne_eq,lexLt_iff] at this
    simp only at this
    omega
   rcases hb.2 with ⟨hk,h⟩ | ⟨hk,h1,_⟩ | ⟨hk,h⟩
   ·right
    subst hk
    unfold longWrongs
    rw [List.mem_map]
    have hle:=H.le t
    have hct:=hc t
    rw [zDO,if_pos hb.1] at h
    have h:p.longest<=(f t).1+(m+1):=h
    have h2:¬ p.longest<=(fm f (mask r.2) i m t).1:=fun q=>nb t 1 hw m (by omega) ⟨hb.1,Or.inl ⟨rfl,q⟩⟩
    have h3:(fm f (mask r.2) i m t).1=(f t).1+m:=by
     cases m with
     | zero=>rfl
     | succ m=>rw [zDO,if_pos hb.1]
    refine ⟨t,List.mem_filter.mpr ⟨ht,?_⟩,?_⟩
    ·unfold longAt
     rw [H.begun ht]
     simp only [Option.getD_some,decide_eq_true_eq]
     omega
    ·rw [H.begun ht]
     simp only [Option.getD_some,Prod.mk.injEq,and_true]
     omega
   ·rw [zDO,if_pos hb.1] at h1
    exact absurd h1 (by show ¬ (f t).1+(m+1)=0; omega)
   ·exact absurd ⟨hb.1,Or.inr (Or.inr ⟨hk,h⟩)⟩ (nb t k hw 0 (by omega))
noncomputable def turn (z:W3):W3:=(z.2.2,z.1,z.2.1)
theorem zDl {p:Paper} {w:Nat} (hl:1<=p.longest):∀ (l:List Run) (f:F) (begins ends:D) (i:Nat),Held f begins ends i->(∀ r∈l,RunOk w r)->(∀ t,(f t).1<=p.longest)->(∀ t,w<=t->(f t).1=0)->
  Rol.wrongFrom p i (stOf f w) (zAL l)=(firstWrong p i begins ends l).map turn
 | [],_,_,_,_,_,_,_,_=>rfl
 | r::l,f,begins,ends,i,H,ok,hc,hw=>by
  have okr:=ok r List.mem_cons_self
  obtain ⟨h1,h2⟩:=zJt (p:=p) H okr hc
  show Rol.wrongFrom p i (stOf f w) (List.replicate r.1 (mask r.2)++zAL l)=_
  rw [firstWrong]
  rcases zCV (p:=p) (x:=mask r.2) (w:=w) (rest:=zAL l) hl r.1 f i hc hw (fun t ht=>by
   rw [zBF okr.up,decide_eq_false_iff_not]; intro q; have:=okr.low t q; omega) with ⟨z,q1,q2,q3⟩ | ⟨q1,q2,q3,q4⟩
  ·rw [q3,zGk (h2 z q1 q2) fun x hx=>q2 x (h1 x hx)]
   rfl
  ·have e:wrongsOf p i begins ends r=[]:=by
    rw [List.eq_nil_iff_forall_not_mem]
    exact fun z hz=>q1 z (h1 z hz)
   rw [q2,e]
   exact zDl hl l _ _ _ _ (H.next okr.up okr.pos) (fun x hx=>ok x (List.mem_cons_of_mem _ hx)) q3 q4
theorem judged {s:Strip} {p:Paper} (ok:s.Ok) (hp:1<=p.longest):s.spec.wrong p=(firstWrong p 0 (fun _=>none) (fun _=>none) s.runs).map turn:=by
 unfold Rol.Strip.wrong Strip.spec
 have e:List.replicate s.wide ((0,none):Nat×Option Nat)=stOf (fun _=>(0,none)) s.wide:=by
  unfold stOf
  rw [List.map_const',List.length_range']
 show Rol.wrongFrom p 0 (List.replicate s.wide (0,none)) (zAL s.runs)=_
 rw [e]
 exact zDl hp s.runs _ _ _ 0 ⟨fun _=>rfl,(fun _ _ q=>by cases q),(fun _ q=>by cases q),fun _ _=>rfl⟩ ok.all (fun _=>Nat.zero_le _) fun _ _=>rfl
end RC
end
section
namespace RC
open Rol (Paper Row)
noncomputable def zAv:List Run->Nat->Nat->Bool
 | [],_,_=>false
 | r::l,i,t=>if i<r.1 then decide (t∈r.2) else zAv l (i-r.1) t
theorem zMk {w:Nat}:∀ {l:List Run},(∀ r∈l,RunOk w r)->∀ i t,(match (zAL l)[i]? with | some x=>Row.hole x t | none=>false)=zAv l i t
 | [],_,i,t=>by simp [zAL,zAv]
 | r::l,h,i,t=>by
  have ih:=zMk (l:=l) (fun x hx=>h x (List.mem_cons_of_mem _ hx)) (i-r.1) t
  have hr:=h r List.mem_cons_self
  have e:zAL (r::l)=List.replicate r.1 (mask r.2)++zAL l:=rfl
  rw [e,zAv]
  by_cases hi:i<r.1
  ·rw [List.getElem?_append_left (by simpa using hi),List.getElem?_replicate,if_pos hi,if_pos hi]
   exact zBF hr.up t
  ·rw [List.getElem?_append_right (by simpa using hi),List.length_replicate,if_neg hi]
   exact ih
theorem zCZ {s:Strip} (ok:s.Ok) (i t:Nat):s.spec.hole i t=zAv s.runs i t:=zMk ok.all i t
noncomputable def gathered (tail row:Nat):Nat->List Run->List Nat
 | _,[]=>[]
 | first,r::l=>(if first<=row/\row<first+r.1+tail then r.2 else [])++gathered tail row (first+r.1) l
theorem zBK {w tail row t:Nat}:∀ {l:List Run} {first:Nat},(∀ r∈l,RunOk w r)->
  (t∈gathered tail row first l↔∃ i,zAv l i t=true/\first+i<=row/\row<=first+i+tail)
 | [],first,_=>by simp [gathered,zAv]
 | r::l,first,h=>by
  have hr:=h r List.mem_cons_self
  have hp:=hr.pos
  rw [gathered,List.mem_append,zBK (l:=l) fun x hx=>h x (List.mem_cons_of_mem _ hx)]
  constructor
  ·rintro (q | ⟨i,q1,q2,q3⟩)
   ·split at q
    ·rename_i hc
     refine ⟨if row<first+r.1 then row-first else r.1-1,?_,?_,?_⟩
     ·rw [zAv,if_pos (by split <;> omega)]
      exact decide_eq_true q
     ·split <;> omega
     ·split <;> omega
    ·simp at q
   ·refine ⟨r.1+i,?_,by omega,by omega⟩
    rw [zAv,if_neg (by omega),Nat.add_sub_cancel_left]
    exact q1
  ·rintro ⟨i,q1,q2,q3⟩
   rw [zAv] at q1
   by_cases hi:i<r.1
   ·rw [if_pos hi] at q1
    left
    rw [if_pos (by omega)]
    exact of_decide_eq_true q1
   ·rw [if_neg hi] at q1
    exact Or.inr ⟨i-r.1,q1,by omega,by omega⟩
theorem gathered_low {w tail row t:Nat}:∀ {l:List Run} {first:Nat},(∀ r∈l,RunOk w r)->t∈gathered tail row first l->t<w
 | [],_,_,h=>by simp [gathered] at h
 | r::l,first,h,q=>by
  rw [gathered,List.mem_append] at q
  rcases q with q | q
  ·split at q
   ·exact (h r List.mem_cons_self).low t q
   ·simp at q
  ·exact gathered_low (fun x hx=>h x (List.mem_cons_of_mem _ hx)) q
theorem zKB {s:Strip} (ok:s.Ok) (g j:Nat) {l:List Nat} (hu:Up l) (hm:∀ t,t∈l↔t∈gathered g j 0 s.runs):(List.range s.spec.wide).filter (s.spec.sounds g j)=l:=by
 refine Up.ext (zCl (zEe _)) hu fun t=>?_
 rw [hm,zBK ok.all,List.mem_filter,List.mem_range]
 unfold Rol.Strip.sounds
 rw [List.any_eq_true]
 constructor
 ·rintro ⟨_,d,h1,h2⟩
  rw [List.mem_range] at h1
  rw [Bool.and_eq_true,decide_eq_true_eq,zCZ ok] at h2
  exact ⟨j-d,h2.2,by omega,by omega⟩
 ·rintro ⟨i,h1,h2,h3⟩
  refine ⟨gathered_low ok.all ((zBK (tail:=g) (row:=j) (first:=0) ok.all).mpr ⟨i,h1,h2,h3⟩),j-i,List.mem_range.mpr (by omega),?_⟩
  rw [Bool.and_eq_true,decide_eq_true_eq,zCZ ok]
  exact ⟨by omega,by rw [show j-(j-i)=i by omega]; exact h1⟩
theorem zFy (t:Nat):∀ (l:List Nat) (a:Nat),(l.foldl (fun (a b:Nat)=>a ||| b) a).testBit t=(a.testBit t||l.any fun x=>x.testBit t)
 | [],a=>by simp
 | x::l,a=>by
  rw [List.foldl_cons,zFy t l,Nat.testBit_or,List.any_cons,Bool.or_assoc]
theorem zGO {s:Strip} (ok:s.Ok) (g i t:Nat):Row.hole (s.spec.soundRow g i) t=true↔∃ k,zAv s.runs k t=true/\k<=i/\i<=k+g:=by
 unfold Rol.Strip.soundRow Row.hole
 rw [Nat.testBit_mod_two_pow,zFy,Bool.and_eq_true,decide_eq_true_eq,Nat.zero_testBit,Bool.false_or,List.any_eq_true]
 constructor
 ·rintro ⟨_,x,h1,h2⟩
  obtain ⟨j,hj⟩:=List.mem_iff_getElem?.mp h1
  rw [List.getElem?_drop,List.getElem?_take] at hj
  split at hj
  ·rename_i hlt
   refine ⟨i-g+j,?_,by omega,by omega⟩
   rw [<- zCZ ok]
   unfold Rol.Strip.hole
   rw [hj]
   exact h2
  ·cases hj
 ·rintro ⟨k,h1,h2,h3⟩
  have h1':=h1
  rw [<- zCZ ok] at h1
  unfold Rol.Strip.hole at h1
  split at h1
  ·rename_i x hx
   refine ⟨?_,x,?_,h1⟩
   ·exact gathered_low (tail:=0) (row:=k) (first:=0) ok.all ((zBK ok.all).mpr ⟨k,h1',by omega,by omega⟩)
   ·rw [List.mem_iff_getElem?]
    refine ⟨k-(i-g),?_⟩
    rw [List.getElem?_drop,List.getElem?_take,if_pos (by omega),show i-g+(k-(i-g))=k by omega]
    exact hx
  ·cases h1
end RC
end
section
namespace RC
open Rol (Paper Row)
noncomputable abbrev T3:=Nat×Nat×Nat
noncomputable def fin (g:Nat):List Run->Nat->Nat->Nat->Nat
 | [],_,_,e=>e
 | r::l,row,t,e=>fin g l (row+r.1) t (if t∈r.2/\row<=e then row+r.1+g else e)
noncomputable def fresh (ends:Nat->Option Nat) (row t:Nat):Bool:=match ends t with
 | some e=>decide (e<row)
 | none=>true
noncomputable def zEV (e:Nat) (ends:Nat->Option Nat) (ts:List Nat):Nat->Option Nat:=fun t=>if t∈ts then some e else ends t
noncomputable def zEm (g:Nat):List Run->Nat->(Nat->Option Nat)->List T3
 | [],_,_=>[]
 | r::l,row,ends=>(r.2.filter (fresh ends row)).map (fun t=>(t,row,fin g l (row+r.1) t (row+r.1+g)))++zEm g l (row+r.1) (zEV (row+r.1+g) ends r.2)
theorem fin_lt (g:Nat):∀ (l:List Run) (row t e:Nat),e<row->fin g l row t e=e
 | [],_,_,_,_=>rfl
 | r::l,row,t,e,h=>by
  rw [fin,if_neg (by omega)]
  exact fin_lt g l _ _ _ (by omega)
def snd (R:List Run) (g i t:Nat):Prop:=∃ k,zAv R k t=true/\k<=i/\i<=k+g
theorem zGq {R:List Run} {g t w:Nat}:∀ (l:List Run) (row e k0:Nat),(∀ r∈l,RunOk w r)->(∀ k,row<=k->zAv R k t=zAv l (k-row) t)->zAv R k0 t=true->k0<row->e=k0+1+g->(∀ k,k0<k->k<row->zAv R k t=false)->row<=e->
  row<=fin g l row t e/\fin g l row t e<=row+total l+g/\(∀ j,row<=j->j<fin g l row t e->snd R g j t)/\¬ snd R g (fin g l row t e) t
 | [],row,e,k0,ok,hh,h0,h1,h2,h3,h4=>by
  show row<=e/\e<=row+0+g/\(∀ j,row<=j->j<e->snd R g j t)/\¬ snd R g e t
  refine ⟨h4,by omega,fun j q1 q2=>⟨k0,h0,by omega,by omega⟩,?_⟩
  rintro ⟨k,q1,q2,q3⟩
  by_cases hk:row<=k
  ·rw [hh k hk] at q1; simp [zAv] at q1
  ·rw [h3 k (by omega) (by omega)] at q1; cases q1
 | r::l,row,e,k0,ok,hh,h0,h1,h2,h3,h4=>by
  have hr:=ok r List.mem_cons_self
  have hp:=hr.pos
  have ok':∀ r∈l,RunOk w r:=fun x hx=>ok x (List.mem_cons_of_mem _ hx)
  have et:total (r::l)=r.1+total l:=by simp [total]
  have hin:∀ k,row<=k->k<row+r.1->zAv R k t=decide (t∈r.2):=fun k q1 q2=>by
   rw [hh k q1,zAv,if_pos (by omega)]
  have hout:∀ k,row+r.1<=k->zAv R k t=zAv l (k-(row+r.1)) t:=fun k q1=>by
   rw [hh k (by omega),zAv,if_neg (by omega),Nat.sub_sub]
  rw [fin,et]
  by_cases ht:t∈r.2
  ·rw [if_pos ⟨ht,h4⟩]
   have ih:=zGq (R:=R) (g:=g) (t:=t) (w:=w) l (row+r.1) (row+r.1+g) (row+r.1-1) ok' hout (by rw [hin _ (by omega) (by omega)]; exact decide_eq_true ht) (by omega) (by omega) (fun k q1 q2=>by omega) (by omega)
   obtain ⟨i1,i2,i3,i4⟩:=ih
   refine ⟨by omega,by omega,fun j q1 q2=>?_,i4⟩
   by_cases hj:j<row+r.1
   ·exact ⟨j,by rw [hin j q1 hj]; exact decide_eq_true ht,by omega,by omega⟩
   ·exact i3 j (by omega) q2
  ·rw [if_neg (fun q=>ht q.1)]
   have hno:∀ k,k0<k->k<row+r.1->zAv R k t=false:=fun k q1 q2=>by
    by_cases hk:k<row
    ·exact h3 k q1 hk
    ·rw [hin k (by omega) q2]; exact decide_eq_false ht
   by_cases he:row+r.1<=e
   ·obtain ⟨i1,i2,i3,i4⟩:=zGq (R:=R) (g:=g) (t:=t) (w:=w) l (row+r.1) e k0 ok' hout h0 (by omega) h2 hno he
    refine ⟨by omega,by omega,fun j q1 q2=>?_,i4⟩
    by_cases hj:j<row+r.1
    ·exact ⟨k0,h0,by omega,by omega⟩
    ·exact i3 j (by omega) q2
   ·rw [fin_lt g l _ _ _ (by omega)]
    refine ⟨h4,by omega,fun j q1 q2=>⟨k0,h0,by omega,by omega⟩,?_⟩
    rintro ⟨k,q1,q2,q3⟩
    rw [hno k (by omega) (by omega)] at q1
    cases q1
noncomputable def zBp (S:Nat->Row) (m i:Nat):List Row:=(List.range' i (m-i)).map S
theorem zBg {S:Nat->Row} {m i:Nat} (h:i<m):zBp S m i=S i::zBp S m (i+1):=by
 unfold zBp
 rw [show m-i=(m-(i+1))+1 by omega,List.range'_succ,List.map_cons]
theorem zDM {S:Nat->Row} {m t:Nat}:∀ (c i:Nat),i+c<=m->(∀ j,i<=j->j<i+c->Row.hole (S j) t=true)->(i+c<m->Row.hole (S (i+c)) t=false)->Rol.holesFrom t (zBp S m i)=c
 | 0,i,h1,_,h3=>by
  by_cases h:i<m
  ·rw [zBg h,Rol.holesFrom,if_neg (by rw [show Row.hole (S i) t=false from h3 h]; decide)]
  ·unfold zBp
   rw [show m-i=0 by omega]
   rfl
 | c+1,i,h1,h2,h3=>by
  rw [zBg (by omega),Rol.holesFrom,if_pos (h2 i (by omega) (by omega)),zDM c (i+1) (by omega) (fun j q1 q2=>h2 j (by omega) (by omega)) (fun q=>by
   rw [show i+1+c=i+(c+1) by omega]; exact h3 (by omega))]
theorem zCF {n w:Nat}:∀ (l:List Row) (i:Nat) (prev:Row),n<=i->Rol.tonesFrom n w i prev l=[]
 | [],_,_,_=>rfl
 | x::l,i,prev,h=>by
  rw [Rol.tonesFrom,if_neg (by omega),zCF l (i+1) x (by omega)]
  rfl
theorem zLN (x prev t:Nat):Row.hole (x ^^^ (x &&& prev)) t=(Row.hole x t&&!Row.hole prev t):=by
 unfold Row.hole
 rw [Nat.testBit_xor,Nat.testBit_and]
 cases x.testBit t <;> cases prev.testBit t <;> rfl
theorem zCE {n w:Nat} {S:Nat->Row} {m:Nat}:∀ (c i:Nat),i+c<m->(∀ j t,i<=j->j<i+c->Row.hole (S (j+1)) t=true->Row.hole (S j) t=true)->
  Rol.tonesFrom n w (i+1) (S i) (zBp S m (i+1))=Rol.tonesFrom n w (i+1+c) (S (i+c)) (zBp S m (i+1+c))
 | 0,i,_,_=>rfl
 | c+1,i,h1,h2=>by
  rw [zBg (by omega),Rol.tonesFrom]
  have e:Row.tracks w (S (i+1) ^^^ (S (i+1) &&& S i))=[]:=by
   unfold Row.tracks
   rw [List.filter_eq_nil_iff]
   intro t _
   rw [zLN]
   cases q:Row.hole (S (i+1)) t with
   | false=>simp
   | true=>rw [h2 i t (by omega) (by omega) q]; simp
  rw [e]
  have ih:=zCE (n:=n) (w:=w) (S:=S) (m:=m) c (i+1) (by omega) fun j t q1 q2=>h2 j t (by omega) (by omega)
  rw [show i+1+(c+1)=i+1+1+c by omega,show i+(c+1)=i+1+c by omega,<- ih]
  split <;> rfl
noncomputable def zAy (x:T3):Rol.Tone:=⟨x.1,x.2.1,x.2.2⟩
theorem zGJ {R:List Run} {g w n:Nat} {S:Nat->Row} (hS:∀ i t,Row.hole (S i) t=true↔snd R g i t) (hR:∀ r∈R,RunOk w r) (hn:n=total R):∀ (l:List Run) (row:Nat) (ends:Nat->Option Nat) (prev:Row),(∀ r∈l,RunOk w r)->
  (∀ k t,row<=k->zAv R k t=zAv l (k-row) t)->row+total l=n->
  (∀ t,ends t=none->∀ k,k<row->zAv R k t=false)->(∀ t e,ends t=some e->∃ k,k<row/\zAv R k t=true/\e=k+1+g/\∀ k',k<k'->k'<row->zAv R k' t=false)->
  (∀ t,Row.hole prev t=true↔∃ e,ends t=some e/\row<=e)->
  Rol.tonesFrom n w row prev (zBp S (n+g) row)=(zEm g l row ends).map zAy
 | [],row,ends,prev,_,_,ht,_,_,_=>by
  rw [zCF _ _ _ (by simp [total] at ht; omega)]
  rfl
 | r::l,row,ends,prev,ok,hh,htot,hnone,hsome,hprev=>by
  have hr:=ok r List.mem_cons_self
  have hp:=hr.pos
  have ok':∀ r∈l,RunOk w r:=fun x hx=>ok x (List.mem_cons_of_mem _ hx)
  have et:total (r::l)=r.1+total l:=by simp [total]
  have hin:∀ k t,row<=k->k<row+r.1->zAv R k t=decide (t∈r.2):=fun k t q1 q2=>by
   rw [hh k t q1,zAv,if_pos (by omega)]
  have hout:∀ k t,row+r.1<=k->zAv R k t=zAv l (k-(row+r.1)) t:=fun k t q1=>by
   rw [hh k t (by omega),zAv,if_neg (by omega),Nat.sub_sub]
  have hsnd:∀ i t,row<=i->i<row+r.1->(Row.hole (S i) t=true↔t∈r.2\/∃ e,ends t=some e/\i<e):=fun i t q1 q2=>by
   rw [hS]
   constructor
   ·rintro ⟨k,k1,k2,k3⟩
    by_cases hk:row<=k
    ·rw [hin k t hk (by omega)] at k1
     exact Or.inl (of_decide_eq_true k1)
    ·right
     cases e:ends t with
     | none=>rw [hnone t e k (by omega)] at k1; cases k1
     | some v=>
      obtain ⟨k',a1,a2,a3,a4⟩:=hsome t v e
      refine ⟨v,rfl,?_⟩
      have:¬ k'<k:=fun q=>by rw [a4 k q (by omega)] at k1; cases k1
      omega
   ·rintro (q | ⟨e,q3,q4⟩)
    ·exact ⟨i,by rw [hin i t q1 q2]; exact decide_eq_true q,Nat.le_refl _,by omega⟩
    ·obtain ⟨k',a1,a2,a3,a4⟩:=hsome t e q3
     exact ⟨k',a2,by omega,by omega⟩
  rw [zBg (by omega),Rol.tonesFrom,if_pos (by omega),zEm,List.map_append,List.map_map]
  congr 1
  ·
   have e1:Row.tracks w (S row ^^^ (S row &&& prev))=r.2.filter (fresh ends row):=by
    refine Up.ext (zCl (zEe w)) (zCl hr.up) fun t=>?_
    unfold Row.tracks
    rw [List.mem_filter,List.mem_filter,List.mem_range,zLN,Bool.and_eq_true,hsnd row t (Nat.le_refl _) (by omega)]
    have hpt:=hprev t
    unfold fresh
    constructor
    ·rintro ⟨q1,q2,q3⟩
     have nq:¬ Row.hole prev t=true:=by simpa using q3
     rw [hpt] at nq
     have q4:t∈r.2:=by
      rcases q2 with q2 | ⟨e,q5,q6⟩
      ·exact q2
      ·exact absurd ⟨e,q5,Nat.le_of_lt q6⟩ nq
     refine ⟨q4,?_⟩
     cases e:ends t with
     | none=>rfl
     | some v=>exact decide_eq_true (by have:¬ row<=v:=fun q=>nq ⟨v,e,q⟩; omega)
    ·rintro ⟨q1,q2⟩
     refine ⟨hr.low t q1,Or.inl q1,?_⟩
     have nq:¬ Row.hole prev t=true:=by
      rw [hpt]
      rintro ⟨e,q5,q6⟩
      rw [q5] at q2
      have:=of_decide_eq_true q2
      omega
     simpa using nq
   rw [e1]
   refine List.map_congr_left fun t ht=>?_
   have ht':t∈r.2:=(List.mem_filter.mp ht).1
   obtain ⟨i1,i2,i3,i4⟩:=zGq (R:=R) (g:=g) (t:=t) (w:=w) l (row+r.1) (row+r.1+g) (row+r.1-1) ok' (fun k q=>hout k t q) (by rw [hin _ _ (by omega) (by omega)]; exact decide_eq_true ht') (by omega) (by omega) (fun k q1 q2=>by omega) (by omega)
   rw [<- zBg (by omega)]
   have hc:=zDM (S:=S) (m:=n+g) (t:=t) (fin g l (row+r.1) t (row+r.1+g)-row) row (by omega) (fun j q1 q2=>by
    rw [hS]
    by_cases hj:j<row+r.1
    ·exact ⟨j,by rw [hin j t q1 hj]; exact decide_eq_true ht',by omega,by omega⟩
    ·exact i3 j (by omega) (by omega)) (fun _=>by
    rw [show row+(fin g l (row+r.1) t (row+r.1+g)-row)=fin g l (row+r.1) t (row+r.1+g) by omega,Bool.eq_false_iff,ne_eq,hS]
    exact i4)
   rw [hc,show row+(fin g l (row+r.1) t (row+r.1+g)-row)=fin g l (row+r.1) t (row+r.1+g) by omega]
   rfl
  ·have sk:=zCE (n:=n) (w:=w) (S:=S) (m:=n+g) (r.1-1) row (by omega) (fun j t q1 q2 q3=>by
    rw [hsnd (j+1) t (by omega) (by omega)] at q3
    rw [hsnd j t q1 (by omega)]
    rcases q3 with q3 | ⟨e,q4,q5⟩
    ·exact Or.inl q3
    ·exact Or.inr ⟨e,q4,by omega⟩)
   rw [sk,show row+1+(r.1-1)=row+r.1 by omega]
   refine zGJ hS hR hn l (row+r.1) _ _ ok' hout (by omega) ?_ ?_ ?_
   ·intro t q k hk
    unfold zEV at q
    by_cases ht:t∈r.2
    ·rw [if_pos ht] at q; cases q
    ·rw [if_neg ht] at q
     by_cases hk':k<row
     ·exact hnone t q k hk'
     ·rw [hin k t (by omega) hk]; exact decide_eq_false ht
   ·intro t e q
    unfold zEV at q
    by_cases ht:t∈r.2
    ·rw [if_pos ht] at q
     cases q
     exact ⟨row+r.1-1,by omega,by rw [hin _ _ (by omega) (by omega)]; exact decide_eq_true ht,by omega,fun k' q1 q2=>by omega⟩
    ·rw [if_neg ht] at q
     obtain ⟨k,a1,a2,a3,a4⟩:=hsome t e q
     refine ⟨k,by omega,a2,a3,fun k' q1 q2=>?_⟩
     by_cases hk':k'<row
     ·exact a4 k' q1 hk'
     ·rw [hin k' t (by omega) q2]; exact decide_eq_false ht
   ·intro t
    rw [show row+(r.1-1)=row+r.1-1 by omega,hsnd (row+r.1-1) t (by omega) (by omega)]
    unfold zEV
    by_cases ht:t∈r.2
    ·rw [if_pos ht]
     exact ⟨fun _=>⟨_,rfl,by omega⟩,fun _=>Or.inl ht⟩
    ·rw [if_neg ht]
     constructor
     ·rintro (q | ⟨e,q1,q2⟩)
      ·exact absurd q ht
      ·exact ⟨e,q1,by omega⟩
     ·rintro ⟨e,q1,q2⟩
      exact Or.inr ⟨e,q1,by omega⟩
theorem zMP {s:Strip} (ok:s.Ok) (g:Nat):s.spec.tones g=(zEm g s.runs 0 fun _=>none).map zAy:=by
 unfold Rol.Strip.tones
 have hl:s.spec.rows.length=total s.runs:=zDd s.runs
 have e:(List.range (s.spec.rows.length+g)).map (s.spec.soundRow g)=zBp (s.spec.soundRow g) (total s.runs+g) 0:=by
  unfold zBp
  rw [hl,List.range_eq_range',Nat.sub_zero]
 rw [e,hl]
 exact zGJ (R:=s.runs) (S:=s.spec.soundRow g) (fun i t=>zGO ok g i t) ok.all rfl s.runs 0 _ 0 ok.all (fun _ _ _=>rfl) (by omega) (fun _ _ k hk=>absurd hk (by omega)) (fun _ _ q=>by cases q) (fun t=>by
  unfold Row.hole
  rw [Nat.zero_testBit]
  simp)
structure TSt where
 cur:List T3
 idx:Nat->Option Nat
noncomputable def TSt.fresh (s:TSt) (row t:Nat):Bool:=match s.idx t with
 | some j=>match s.cur[j]? with
  | some x=>decide (x.2.2<row)
  | none=>true
 | none=>true
noncomputable def TSt.new (s:TSt) (t row e:Nat):TSt:=⟨s.cur++[(t,row,e)],fun u=>if u=t then some s.cur.length else s.idx u⟩
noncomputable def setEnd (e:Nat) (x:T3):T3:=(x.1,x.2.1,e)
noncomputable def TSt.more (s:TSt) (t e:Nat):TSt:=⟨s.cur.modify ((s.idx t).getD 0) (setEnd e),s.idx⟩
noncomputable def tstep (row e:Nat) (s:TSt) (t:Nat):TSt:=if s.fresh row t=true then s.new t row e else s.more t e
noncomputable def trun (g:Nat):Nat->TSt->List Run->TSt
 | _,s,[]=>s
 | row,s,r::l=>trun g (row+r.1) (r.2.foldl (tstep row (row+r.1+g)) s) l
structure TSt.Ok (s:TSt) (row:Nat):Prop where
 at_:∀ t j,s.idx t=some j->∃ x,s.cur[j]? = some x/\x.1=t
 old:∀ j x,s.cur[j]? = some x->s.idx x.1=some j\/x.2.2<row
noncomputable def TSt.ends (s:TSt):Nat->Option Nat:=fun t=>(s.idx t).bind fun j=>s.cur[j]?.map (·.2.2)
theorem TSt.fresh_eq {s:TSt} {row t:Nat} (ok:s.Ok row):s.fresh row t=RC.fresh s.ends row t:=by
 unfold TSt.fresh RC.fresh TSt.ends
 cases e:s.idx t with
 | none=>rfl
 | some j=>
  obtain ⟨x,h1,_⟩:=ok.at_ t j e
  simp [h1]
noncomputable def zGl (row e:Nat) (ts:List Nat) (x:T3):T3:=(x.1,x.2.1,if x.1∈ts/\row<=x.2.2 then e else x.2.2)
theorem step_ok {s:TSt} {row e t:Nat} (ok:s.Ok row) (he:row<=e):(tstep row e s t).Ok row/\(∀ u,(tstep row e s t).ends u=if u=t then some e else s.ends u):=by
 unfold tstep
 split
 ·rename_i hf
  rw [TSt.fresh_eq ok] at hf
  refine ⟨⟨fun u j h=>?_,fun j x h=>?_⟩,fun u=>?_⟩
  ·unfold TSt.new at h ⊢
   simp only at h ⊢
   by_cases hu:u=t
   ·rw [if_pos hu] at h
    cases h
    exact ⟨(t,row,e),by simp,hu.symm⟩
   ·rw [if_neg hu] at h
    obtain ⟨x,h1,h2⟩:=ok.at_ u j h
    refine ⟨x,?_,h2⟩
    rw [List.getElem?_append_left (List.getElem?_eq_some_iff.mp h1).1]
    exact h1
  ·unfold TSt.new at h ⊢
   simp only at h ⊢
   by_cases hj:j<s.cur.length
   ·rw [List.getElem?_append_left hj] at h
    rcases ok.old j x h with q | q
    ·by_cases hx:x.1=t
     ·right
      unfold RC.fresh TSt.ends at hf
      rw [<- hx,q] at hf
      simp only [Option.bind_some,h,Option.map_some,decide_eq_true_eq] at hf
      exact hf
     ·left; rw [if_neg hx]; exact q
    ·exact Or.inr q
   ·rw [List.getElem?_append_right (by omega)] at h
    have hj0:j-s.cur.length=0:=by
     have:=(List.getElem?_eq_some_iff.mp h).1
     simp at this
     omega
    rw [hj0] at h
    simp at h
    subst h
    left
    simp
    omega
  ·unfold TSt.new TSt.ends
   simp only
   by_cases hu:u=t
   ·simp [hu]
   ·simp only [hu,if_false]
    cases q:s.idx u with
    | none=>rfl
    | some j=>
     obtain ⟨x,h1,h2⟩:=ok.at_ u j q
     simp only [Option.bind_some]
     rw [List.getElem?_append_left (List.getElem?_eq_some_iff.mp h1).1]
 ·rename_i hf
  rw [TSt.fresh_eq ok] at hf
  obtain ⟨j,hj⟩:∃ j,s.idx t=some j:=by
   cases q:s.idx t with
   | none=>exact absurd (by unfold RC.fresh TSt.ends; rw [q]; rfl) hf
   | some j=>exact ⟨j,rfl⟩
  obtain ⟨x,hx1,hx2⟩:=ok.at_ t j hj
  have hget:∀ i,(s.more t e).cur[i]? = if j=i then some (setEnd e x) else s.cur[i]? := fun i=>by
   unfold TSt.more
   simp only [hj,Option.getD_some,List.getElem?_modify]
   by_cases h:j=i
   ·subst h; simp [hx1]
   ·simp [h]
  have hidx:(s.more t e).idx=s.idx:=rfl
  refine ⟨⟨fun u i h=>?_,fun i y h=>?_⟩,fun u=>?_⟩
  ·rw [hidx] at h
   obtain ⟨y,h1,h2⟩:=ok.at_ u i h
   rw [hget]
   by_cases hi:j=i
   ·rw [if_pos hi]
    subst hi
    rw [hx1] at h1
    cases h1
    exact ⟨_,rfl,h2⟩
   ·rw [if_neg hi]; exact ⟨y,h1,h2⟩
  ·rw [hidx]
   rw [hget] at h
   by_cases hi:j=i
   ·rw [if_pos hi] at h
    cases h
    left
    show s.idx x.1=_
    rw [hx2,hj,hi]
   ·rw [if_neg hi] at h
    exact ok.old i y h
  ·unfold TSt.ends
   rw [hidx]
   by_cases hu:u=t
   ·rw [if_pos hu,hu,hj]
    simp only [Option.bind_some]
    rw [hget,if_pos rfl]
    rfl
   ·rw [if_neg hu]
    cases q:s.idx u with
    | none=>rfl
    | some i=>
     simp only [Option.bind_some]
     rw [hget,if_neg]
     intro h
     subst h
     obtain ⟨y,h1,h2⟩:=ok.at_ u _ q
     rw [hx1] at h1
     cases h1
     exact hu (h2.symm.trans hx2)
theorem zJl {row e:Nat} (he:row<=e):∀ (ts:List Nat) (s:TSt),ts.Nodup->s.Ok row->(ts.foldl (tstep row e) s).Ok row/\(ts.foldl (tstep row e) s).ends=zEV e s.ends ts/\
  (ts.foldl (tstep row e) s).cur=s.cur.map (zGl row e ts)++(ts.filter (RC.fresh s.ends row)).map fun t=>(t,row,e)
 | [],s,_,ok=>by
  refine ⟨ok,?_,?_⟩
  ·funext t; simp [zEV]
  ·have:zGl row e []=id:=by funext x; simp [zGl]
   simp [this]
 | t::r,s,nd,ok=>by
  have nd':=List.nodup_cons.mp nd
  obtain ⟨ok1,en1⟩:=step_ok (t:=t) ok he
  obtain ⟨h1,h2,h3⟩:=zJl he r (tstep row e s t) nd'.2 ok1
  rw [List.foldl_cons]
  refine ⟨h1,?_,?_⟩
  ·rw [h2]
   funext u
   unfold zEV
   rw [en1]
   by_cases hu:u∈r
   ·simp [hu]
   ·by_cases hut:u=t
    ·simp [hut]
    ·simp [hu,hut]
  ·rw [h3]
   have ef:r.filter (RC.fresh (tstep row e s t).ends row)=r.filter (RC.fresh s.ends row):=by
    refine List.filter_congr fun u hu=>?_
    unfold RC.fresh
    rw [en1,if_neg (fun q=>nd'.1 (by rw [<- q]; exact hu))]
   rw [ef]
   by_cases hf:s.fresh row t=true
   ·have es:tstep row e s t=s.new t row e:=by unfold tstep; rw [if_pos hf]
    rw [es,List.filter_cons,if_pos (by rw [<- TSt.fresh_eq ok]; exact hf)]
    show (s.cur++[(t,row,e)]).map (zGl row e r)++_=_
    rw [List.map_append,List.map_cons,List.map_nil,List.map_cons,List.append_assoc]
    congr 1
    ·refine List.map_congr_left fun x hx=>?_
     obtain ⟨j,hj⟩:=List.mem_iff_getElem?.mp hx
     unfold zGl
     by_cases hxt:x.1=t
     ·have:x.2.2<row:=by
       rcases ok.old j x hj with q | q
       ·rw [TSt.fresh_eq ok] at hf
        unfold RC.fresh TSt.ends at hf
        rw [<- hxt,q] at hf
        simp only [Option.bind_some,hj,Option.map_some,decide_eq_true_eq] at hf
        exact hf
       ·exact q
      rw [if_neg (by omega),if_neg (by omega)]
     ·simp [hxt]
    ·have:zGl row e r (t,row,e)=(t,row,e):=by
      unfold zGl
      simp [nd'.1]
     rw [this]
     rfl
   ·have es:tstep row e s t=s.more t e:=by unfold tstep; rw [if_neg hf]
    rw [es,List.filter_cons,if_neg (by rw [<- TSt.fresh_eq ok]; exact hf)]
    congr 1
    refine List.ext_getElem? fun i=>?_
    rw [List.getElem?_map,List.getElem?_map]
    obtain ⟨j,hj⟩:∃ j,s.idx t=some j:=by
     cases q:s.idx t with
     | none=>exact absurd (by unfold TSt.fresh; rw [q]) hf
     | some j=>exact ⟨j,rfl⟩
    obtain ⟨x,hx1,hx2⟩:=ok.at_ t j hj
    unfold TSt.more
    simp only [hj,Option.getD_some,List.getElem?_modify]
    by_cases h:j=i
    ·subst h
     simp only [hx1,if_true,Option.map_some,Option.map_eq_map]
     have hxe:row<=x.2.2:=by
      unfold TSt.fresh at hf
      rw [hj] at hf
      simp only [hx1,decide_eq_true_eq] at hf
      omega
     unfold zGl setEnd
     simp [hx2,nd'.1,hxe]
    ·simp only [h,if_false,Option.map_eq_map,Option.map_id']
     cases q:s.cur[i]? with
     | none=>simp
     | some y=>
      simp only [id_eq,Option.map_some,Option.some.injEq]
      unfold zGl
      by_cases hyt:y.1=t
      ·have:y.2.2<row:=by
        rcases ok.old i y q with q2 | q2
        ·rw [hyt,hj] at q2; exact absurd (Option.some.inj q2) h
        ·exact q2
       rw [if_neg (by omega),if_neg (by omega)]
      ·simp [hyt]
theorem TSt.Ok.mono {s:TSt} {a b:Nat} (ok:s.Ok a) (h:a<=b):s.Ok b:=⟨ok.at_,fun j x q=>(ok.old j x q).imp_right fun q2=>Nat.lt_of_lt_of_le q2 h⟩
theorem zKo {g w:Nat}:∀ (l:List Run) (row:Nat) (s:TSt),(∀ r∈l,RunOk w r)->s.Ok row->(trun g row s l).cur=s.cur.map (fun x=>(x.1,x.2.1,fin g l row x.1 x.2.2))++zEm g l row s.ends
 | [],row,s,_,_=>by simp [trun,zEm,fin]
 | r::l,row,s,ok,hs=>by
  have hr:=ok r List.mem_cons_self
  obtain ⟨h1,h2,h3⟩:=zJl (row:=row) (e:=row+r.1+g) (by omega) r.2 s (List.Pairwise.imp (fun q=>Nat.ne_of_lt q) hr.up) hs
  rw [trun,zKo l (row+r.1) _ (fun x hx=>ok x (List.mem_cons_of_mem _ hx)) (h1.mono (by omega)),h2,h3,zEm,List.map_append,List.map_map,List.map_map,List.append_assoc]
  rfl
noncomputable def noTones:TSt:=⟨[],fun _=>none⟩
theorem zJx {s:Strip} (ok:s.Ok) (g:Nat):s.spec.tones g=(trun g 0 noTones s.runs).cur.map zAy:=by
 rw [zMP ok,zKo (w:=s.wide) s.runs 0 noTones ok.all ⟨(fun _ _ q=>by cases q),(fun _ _ q=>by simp [noTones] at q)⟩]
 rfl
end RC
end
section
namespace RC
open Rol (Paper Row)
noncomputable def slotsOf (p:Paper) (sounding:Nat):List (Nat×Nat):=match Rol.chain p ⟨0,0,sounding⟩ with
 | some l=>l.map fun a=>(a.first,a.len)
 | none=>[]
noncomputable def shareL (n r:Nat):List Nat:=(List.range n).map (Rol.share n r)
noncomputable def laid:Nat->List (Nat×Nat)->List (Nat×Nat)
 | _,[]=>[]
 | first,x::l=>(first,x.1)::laid (first+(x.1+x.2)) l
theorem zBB (n r i:Nat):Rol.shared n r (i+1)=Rol.shared n r i+Rol.share n r i:=by
 unfold Rol.shared Rol.share
 rw [Nat.succ_mul]
 split <;> omega
theorem zFh {n r:Nat} (h:1<=n):Rol.shared n r n=r:=by
 unfold Rol.shared
 have h1:=Nat.mod_lt r (show n>0 by omega)
 have h2:=Nat.div_add_mod r n
 rw [Nat.min_eq_right (by omega)]
 exact h2
theorem zLY {f b P:Nat->Nat} {k:Nat}:∀ (n i:Nat),i+n=k->(∀ j,j+1<k->P (j+1)=P j+(f j+b j))->laid (P i) (((List.range' i n).map f).zip ((List.range' i n).map b))=(List.range' i n).map fun j=>(P j,f j)
 | 0,_,_,_=>rfl
 | n+1,i,h,hP=>by
  rw [List.range'_succ,List.map_cons,List.map_cons,List.zip_cons_cons,laid,List.map_cons]
  congr 1
  cases n with
  | zero=>rfl
  | succ n=>
   rw [<- hP i (by omega)]
   exact zLY (n+1) (i+1) (by omega) hP
theorem zJX {k c:Nat} (h:1<=k):shareL (k-1) c++[0]=(List.range' 0 k).map fun i=>if i<k-1 then Rol.share (k-1) c i else 0:=by
 unfold shareL
 obtain ⟨n,rfl⟩:∃ n,k=n+1:=⟨k-1,by omega⟩
 rw [Nat.add_sub_cancel,<- List.range_eq_range',List.range_succ,List.map_append]
 congr 1
 ·refine List.map_congr_left fun i hi=>?_
  rw [if_pos (List.mem_range.mp hi)]
 ·simp
theorem zDD {k r c:Nat} (h:1<=k):laid 0 ((shareL k r).zip (shareL (k-1) c++[0]))=(List.range k).map fun i=>(Rol.shared k r i+(if k=1 then 0 else Rol.shared (k-1) c i),Rol.share k r i):=by
 rw [zJX h]
 unfold shareL
 rw [List.range_eq_range']
 have:=zLY (f:=Rol.share k r) (b:=fun i=>if i<k-1 then Rol.share (k-1) c i else 0) (P:=fun i=>Rol.shared k r i+(if k=1 then 0 else Rol.shared (k-1) c i)) (k:=k) k 0 (by omega) (fun j hj=>by
  rw [if_neg (by omega),if_neg (by omega),if_pos (by omega),zBB,zBB]
  omega)
 have e0:Rol.shared k r 0+(if k=1 then 0 else Rol.shared (k-1) c 0)=0:=by
  unfold Rol.shared
  split <;> simp
 rw [<- this]
 show laid 0 _=laid (Rol.shared k r 0+(if k=1 then 0 else Rol.shared (k-1) c 0)) _
 rw [e0]
structure Few (p:Paper) (m k:Nat):Prop where
 pos:1<=k
 low:∀ j,1<=j->j<k->j*p.longest+(j-1)*p.tail<m
 high:m<=k*p.longest+(k-1)*p.tail
theorem Few.eq {p:Paper} {m k:Nat} (hl:1<=p.longest) (h:Few p m k):max 1 ((m+p.tail+(p.longest+p.tail-1)) / (p.longest+p.tail))=k:=by
 generalize hd:p.longest+p.tail=d
 have d1:1<=d:=by omega
 have key:∀ j,1<=j->(j*p.longest+(j-1)*p.tail)+p.tail=j*d:=fun j hj=>by
  obtain ⟨i,rfl⟩:∃ i,j=i+1:=⟨j-1,by omega⟩
  rw [<- hd,Nat.mul_add,Nat.add_sub_cancel,Nat.succ_mul i p.tail]
  omega
 have h1:=h.high
 have h2:=key k h.pos
 generalize hq:(m+p.tail+(d-1)) / d=q
 have u1:q<=k:=by
  rw [<- hq]
  have:m+p.tail+(d-1)<(k+1)*d:=by rw [Nat.succ_mul]; omega
  have:=(Nat.div_lt_iff_lt_mul (by omega)).mpr this
  omega
 have u2:m+p.tail<=q*d:=by
  have e1:=Nat.div_add_mod (m+p.tail+(d-1)) d
  have e2:=Nat.mod_lt (m+p.tail+(d-1)) (show d>0 by omega)
  rw [hq,Nat.mul_comm] at e1
  omega
 have hp:=h.pos
 by_cases hk:max 1 q<k
 ·have h3:=h.low (max 1 q) (by omega) hk
  have h4:=key (max 1 q) (by omega)
  have h5:q*d<=max 1 q*d:=Nat.mul_le_mul_right d (by omega)
  omega
 ·omega
theorem fewest_eq {p:Paper} {m k:Nat} (hl:1<=p.longest) (h:Few p m k):Rol.fewest p m=if k+(k-1)*p.bridge<=m/\(k=1\/p.bridge<=p.tail) then some k else none:=by
 unfold Rol.fewest
 simp only
 rw [h.eq hl]
 unfold Rol.canBe
 have h1:=h.pos
 have h2:=h.high
 by_cases hc:k+(k-1)*p.bridge<=m/\(k=1\/p.bridge<=p.tail)
 ·rw [if_pos hc,if_pos]
  simp [h1,h2,hc.1,hc.2]
 ·rw [if_neg hc,if_neg]
  simp only [Bool.and_eq_true,decide_eq_true_eq,Bool.or_eq_true,beq_iff_eq]
  rintro ⟨_,q1,_,q2⟩
  exact hc ⟨q1,q2⟩
theorem Few.exists (p:Paper) (m:Nat) (hl:1<=p.longest):∃ k,Few p m k:=by
 have key:∀ n j,1<=j->m<=j*p.longest+(j-1)*p.tail+n->(∀ i,1<=i->i<j->i*p.longest+(i-1)*p.tail<m)->∃ k,Few p m k:=by
  intro n
  induction n with
  | zero=>exact fun j h1 h2 h3=>⟨j,h1,h3,h2⟩
  | succ n ih=>
   intro j h1 h2 h3
   by_cases hj:m<=j*p.longest+(j-1)*p.tail
   ·exact ⟨j,h1,h3,hj⟩
   ·refine ih (j+1) (by omega) ?_ fun i q1 q2=>?_
    ·have:(j+1)*p.longest=j*p.longest+p.longest:=Nat.succ_mul _ _
     have:(j-1)*p.tail<=(j+1-1)*p.tail:=Nat.mul_le_mul_right _ (by omega)
     omega
    ·by_cases hi:i<j
     ·exact h3 i q1 hi
     ·obtain rfl:i=j:=by omega
      omega
 exact key m 1 (by omega) (by omega) fun i q1 q2=>by omega
theorem slots_none {p:Paper} {s:Nat} (h:s<=p.tail):slotsOf p s=[]:=by
 unfold slotsOf Rol.chain
 simp only
 rw [if_pos (by omega)]
theorem slots_few {p:Paper} {s k:Nat} (hl:1<=p.longest) (h:p.tail<s) (F:Few p (s-p.tail) k):
  slotsOf p s=if k+(k-1)*p.bridge<=s-p.tail/\(k=1\/p.bridge<=p.tail) then
   laid 0 ((shareL k (s-p.tail-Rol.closedIn p (s-p.tail) k)).zip (shareL (k-1) (Rol.closedIn p (s-p.tail) k)++[0])) else []:=by
 unfold slotsOf Rol.chain
 simp only
 rw [if_neg (by omega),Nat.sub_zero,fewest_eq hl F]
 split
 ·rename_i l e
  split at e
  ·rename_i hc
   rw [if_pos hc,zDD F.pos]
   cases e
   rw [List.map_map]
   refine List.map_congr_left fun i _=>?_
   show (0+_+_,_)=_
   rw [Nat.zero_add]
  ·cases e
 ·rename_i e
  split at e
  ·cases e
  ·rename_i hc
   rw [if_neg hc]
theorem zGu (p:Paper) (x:Rol.Tone):Rol.chain p x=if x.end_<=x.first+p.tail\/slotsOf p (x.end_-x.first)=[] then none else some ((slotsOf p (x.end_-x.first)).map fun a=>⟨x.track,x.first+a.1,a.2⟩):=by
 unfold slotsOf Rol.chain
 simp only
 by_cases h:x.end_<=x.first+p.tail
 ·rw [if_pos h,if_pos (Or.inl h)]
 ·rw [if_neg h,Nat.sub_zero,if_neg (show ¬ x.end_-x.first<=0+p.tail by omega)]
  cases e:Rol.fewest p (x.end_-x.first-p.tail) with
  | none=>simp
  | some k=>
   have hk:1<=k:=by
    unfold Rol.fewest at e
    simp only at e
    split at e
    ·cases e; omega
    ·cases e
   simp only [Option.map_some,List.map_map]
   rw [if_neg]
   ·refine congrArg some (List.map_congr_left fun i _=>?_)
    show (⟨_,_,_⟩:Rol.Slot)=⟨_,_,_⟩
    congr 1
    show x.first+_+_=x.first+(0+_+_)
    omega
   ·rintro (q | q)
    ·exact h q
    ·have:=congrArg List.length q
     simp at this
     omega
theorem zIv (p:Paper) (a e:Nat) (h:a<e):Rol.cuttable p a e=!(slotsOf p (e-a)).isEmpty:=by
 unfold Rol.cuttable
 have hc:=zGu p ⟨0,a,e⟩
 simp only at hc
 unfold Rol.chain at hc
 simp only at hc
 by_cases h1:e<=a+p.tail
 ·rw [slots_none (show e-a<=p.tail by omega),decide_eq_false (show ¬ a+p.tail<e by omega)]
  rfl
 ·rw [decide_eq_true (show a+p.tail<e by omega)]
  rw [if_neg h1] at hc
  cases q:Rol.fewest p (e-a-p.tail) with
  | none=>
   rw [q] at hc
   by_cases h2:slotsOf p (e-a)=[]
   ·rw [h2]; rfl
   ·rw [if_neg (by rintro (z | z); exact h1 z; exact h2 z)] at hc
    cases hc
  | some k=>
   rw [q] at hc
   cases z:slotsOf p (e-a) with
   | nil=>
    rw [if_pos (Or.inr z)] at hc
    cases hc
   | cons _ _=>rfl
theorem zEw {p:Paper} (hl:1<=p.longest) (s:Nat):(slotsOf p s).Pairwise (fun a b=>a.1+a.2<=b.1)/\∀ a∈slotsOf p s,a.1+a.2+p.tail<=s:=by
 by_cases h:s<=p.tail
 ·rw [slots_none h]; exact ⟨.nil,fun a ha=>by simp at ha⟩
 ·obtain ⟨k,F⟩:=Few.exists p (s-p.tail) hl
  rw [slots_few hl (by omega) F]
  split
  ·rename_i hc
   have hk:=F.pos
   rw [zDD hk]
   generalize hcc:Rol.closedIn p (s-p.tail) k=c
   have hcm:c<=s-p.tail:=by
    rw [<- hcc]
    unfold Rol.closedIn
    have:=hc.1
    omega
   generalize hr:s-p.tail-c=r
   have step:∀ i,i+1<k->(Rol.shared k r i+(if k=1 then 0 else Rol.shared (k-1) c i))+Rol.share k r i<=Rol.shared k r (i+1)+(if k=1 then 0 else Rol.shared (k-1) c (i+1)):=fun i hi=>by
    rw [zBB,if_neg (by omega),if_neg (by omega),zBB]
    omega
   have mono:∀ d i,i+d<k->Rol.shared k r i+(if k=1 then 0 else Rol.shared (k-1) c i)<=Rol.shared k r (i+d)+(if k=1 then 0 else Rol.shared (k-1) c (i+d)):=by
    intro d
    induction d with
    | zero=>exact fun i _=>Nat.le_refl _
    | succ d ih=>
     intro i hi
     have h1:=ih i (by omega)
     have h2:=step (i+d) (by omega)
     rw [show i+(d+1)=i+d+1 by omega]
     omega
   constructor
   ·rw [List.pairwise_map]
    refine List.Pairwise.imp_of_mem ?_ (List.pairwise_lt_range (n:=k))
    intro a b ha hb hab
    have hb':=List.mem_range.mp hb
    have h1:=step a (by omega)
    have h2:=mono (b-(a+1)) (a+1) (by omega)
    rw [show a+1+(b-(a+1))=b by omega] at h2
    simp only
    omega
   ·intro a ha
    obtain ⟨i,hi,rfl⟩:=List.mem_map.mp ha
    have hi':=List.mem_range.mp hi
    simp only
    have h2:=mono (k-1-i) i (by omega)
    rw [show i+(k-1-i)=k-1 by omega] at h2
    have e1:Rol.shared k r (k-1)+Rol.share k r (k-1)=r:=by
     rw [<- zBB,show k-1+1=k by omega,zFh hk]
    have e2:(if k=1 then 0 else Rol.shared (k-1) c (k-1))<=c:=by
     split
     ·exact Nat.zero_le _
     ·rw [zFh (by omega)]; exact Nat.le_refl _
    by_cases hik:i+1<k
    ·have h3:=step i hik
     have h4:=mono (k-1-(i+1)) (i+1) (by omega)
     rw [show i+1+(k-1-(i+1))=k-1 by omega] at h4
     omega
    ·obtain rfl:i=k-1:=by omega
     omega
  ·exact ⟨.nil,fun a ha=>by simp at ha⟩
theorem slots_length {p:Paper} (hl:1<=p.longest) (s:Nat):(slotsOf p s).length<=s:=by
 by_cases h:s<=p.tail
 ·rw [slots_none h]; exact Nat.zero_le _
 ·obtain ⟨k,F⟩:=Few.exists p (s-p.tail) hl
  rw [slots_few hl (by omega) F]
  split
  ·rename_i hc
   rw [zDD F.pos,List.length_map,List.length_range]
   omega
  ·exact Nat.zero_le _
end RC
end
section
namespace RC
open Rol (Paper Row)
noncomputable def endsLate (ends:D) (x:T3):Bool:=match ends x.1 with
 | some e=>decide (x.2.1<=e)
 | none=>false
noncomputable def behind (bf:Option T3) (x:T3):Bool:=match bf with
 | some b=>decide (b.2.1<x.2.1)||(decide (b.2.1=x.2.1)&&decide (b.1<x.1))
 | none=>true
noncomputable def fitsIn (n w:Nat) (p:Paper) (x:T3):Bool:=decide (x.1<w)&&(decide (x.2.1<x.2.2)&&decide (x.2.2<=n+p.tail))
noncomputable def toneBad (n w:Nat) (p:Paper) (bf:Option T3) (ends:D) (x:T3):Bool:=
 !(fitsIn n w p x&&!(slotsOf p (x.2.2-x.2.1)).isEmpty)||(!behind bf x||endsLate ends x)
noncomputable def faultFrom (n w:Nat) (p:Paper):Nat->Option T3->D->List T3->Option Nat
 | _,_,_,[]=>none
 | i,bf,ends,x::r=>if toneBad n w p bf ends x=true then some i else faultFrom n w p (i+1) (some x) (fun t=>if t=x.1 then some x.2.2 else ends t) r
theorem zFE {n w:Nat} {p:Paper}:∀ (l:List T3) (i:Nat) (L:List Rol.Tone) (ends:D) (bf:Option T3),L.head? = bf.map zAy->
  (∀ t,ends t=none->∀ b∈L,b.track≠t)->(∀ t e,ends t=some e->(∃ b∈L,b.track=t/\b.end_=e)/\∀ b∈L,b.track=t->b.end_<=e)->
  Rol.badTone n w p i L (l.map zAy)=faultFrom n w p i bf ends l
 | [],_,_,_,_,_,_,_=>rfl
 | x::r,i,L,ends,bf,hb,h1,h2=>by
  rw [List.map_cons,Rol.badTone,faultFrom]
  have key:Rol.toneFits n w p L (zAy x)=!toneBad n w p bf ends x:=by
   unfold Rol.toneFits toneBad fitsIn
   have e1:(L.head?.all fun (b:Rol.Tone)=>Rol.Tone.before b (zAy x))=behind bf x:=by
    rw [hb]
    cases bf with
    | none=>rfl
    | some b=>
     show Rol.Tone.before (zAy b) (zAy x)=behind (some b) x
     unfold Rol.Tone.before zAy behind
     congr 2
   have e2:(L.all fun (b:Rol.Tone)=>b.track != (zAy x).track||decide (b.end_<(zAy x).first))=!endsLate ends x:=by
    unfold endsLate
    rw [Bool.eq_iff_iff,List.all_eq_true]
    cases e:ends x.1 with
    | none=>
     simp only [Bool.not_false,iff_true]
     intro b hb'
     have:=h1 x.1 e b hb'
     rw [Bool.or_eq_true]
     left
     simpa [zAy] using this
    | some v=>
     obtain ⟨⟨b0,g1,g2,g3⟩,g4⟩:=h2 x.1 v e
     simp only [Bool.not_eq_true',decide_eq_false_iff_not,Nat.not_le]
     constructor
     ·intro q
      have:=q b0 g1
      rw [Bool.or_eq_true,decide_eq_true_eq] at this
      rcases this with q2 | q2
      ·simp [zAy,g2] at q2
      ·rw [<- g3]; exact q2
     ·intro q b hb'
      rw [Bool.or_eq_true,decide_eq_true_eq]
      by_cases hbt:b.track=x.1
      ·right
       have:=g4 b hb' hbt
       show b.end_<x.2.1
       omega
      ·left
       simpa [zAy] using hbt
   rw [e1,e2]
   show (decide (x.1<w)&&(decide (x.2.1<x.2.2)&&(decide (x.2.2<=n+p.tail)&&(behind bf x&&(!endsLate ends x&&Rol.cuttable p x.2.1 x.2.2)))))=_
   by_cases hx:x.2.1<x.2.2
   ·rw [zIv p _ _ hx]
    cases decide (x.1<w) <;> cases decide (x.2.1<x.2.2) <;> cases decide (x.2.2<=n+p.tail) <;> cases behind bf x <;> cases endsLate ends x <;> cases (slotsOf p (x.2.2-x.2.1)).isEmpty <;> rfl
   ·rw [decide_eq_false hx]
    cases decide (x.1<w) <;> rfl
  rw [key]
  by_cases hbad:toneBad n w p bf ends x=true
  ·rw [if_pos hbad,if_neg (by rw [hbad]; decide)]
  ·rw [if_neg hbad,if_pos (by simpa using hbad)]
   have hlate:endsLate ends x=false:=by
    unfold toneBad at hbad
    cases q:endsLate ends x with
    | false=>rfl
    | true=>rw [q] at hbad; simp at hbad
   have hfit:x.2.1<x.2.2:=by
    unfold toneBad fitsIn at hbad
    by_cases q:x.2.1<x.2.2
    ·exact q
    ·rw [decide_eq_false q] at hbad; simp at hbad
   refine zFE r (i+1) (zAy x::L) _ (some x) rfl ?_ ?_
   ·intro t ht b hb'
    split at ht
    ·cases ht
    ·rename_i hne
     rcases List.mem_cons.mp hb' with rfl | hb'
     ·exact fun q=>hne q.symm
     ·exact h1 t ht b hb'
   ·intro t e ht
    split at ht
    ·rename_i heq
     cases ht
     subst heq
     refine ⟨⟨zAy x,List.mem_cons_self,rfl,rfl⟩,fun b hb' hbt=>?_⟩
     rcases List.mem_cons.mp hb' with rfl | hb'
     ·exact Nat.le_refl _
     ·cases q:ends x.1 with
      | none=>exact absurd hbt (h1 x.1 q b hb')
      | some v=>
       have:=(h2 x.1 v q).2 b hb' hbt
       unfold endsLate at hlate
       rw [q] at hlate
       have:=of_decide_eq_false hlate
       omega
    ·rename_i hne
     obtain ⟨⟨b0,g1,g2,g3⟩,g4⟩:=h2 t e ht
     refine ⟨⟨b0,List.mem_cons_of_mem _ g1,g2,g3⟩,fun b hb' hbt=>?_⟩
     rcases List.mem_cons.mp hb' with rfl | hb'
     ·exact absurd hbt.symm hne
     ·exact g4 b hb' hbt
theorem zNU (n w:Nat) (p:Paper) (l:List T3):Rol.badTone n w p 0 [] (l.map zAy)=faultFrom n w p 0 none (fun _=>none) l:=
 zFE l 0 [] _ none rfl (fun _ _ b hb=>by simp at hb) (fun _ _ q=>by cases q)
noncomputable def toneSlots (p:Paper) (x:T3):List T3:=(slotsOf p (x.2.2-x.2.1)).map fun a=>(x.1,x.2.1+a.1,a.2)
noncomputable def zKG (a:T3):Rol.Slot:=⟨a.1,a.2.1,a.2.2⟩
noncomputable def covers (i:Nat) (a:T3):Bool:=decide (a.2.1<=i)&&decide (i<a.2.1+a.2.2)
noncomputable def holesAt (l:List T3) (i:Nat):List Nat:=(l.filter (covers i)).map (·.1)
theorem fault_none {n w:Nat} {p:Paper}:∀ (l:List T3) (i:Nat) (bf:Option T3) (ends:D),faultFrom n w p i bf ends l=none->
  (∀ x∈l,fitsIn n w p x=true/\slotsOf p (x.2.2-x.2.1)≠[])/\l.Pairwise (fun a b=>a.1=b.1->a.2.2<b.2.1)/\∀ x∈l,∀ e,ends x.1=some e->e<x.2.1
 | [],_,_,_,_=>⟨(fun x hx=>by simp at hx),.nil,fun x hx=>by simp at hx⟩
 | x::r,i,bf,ends,h=>by
  rw [faultFrom] at h
  split at h
  ·cases h
  ·rename_i hb
   obtain ⟨h1,h2,h3⟩:=fault_none r _ _ _ h
   have hx:fitsIn n w p x=true/\slotsOf p (x.2.2-x.2.1)≠[]/\endsLate ends x=false:=by
    unfold toneBad at hb
    simp only [Bool.or_eq_true,Bool.not_eq_true',not_or,Bool.not_eq_false,Bool.and_eq_true,Bool.not_eq_true] at hb
    refine ⟨hb.1.1,?_,hb.2.2⟩
    intro q
    rw [q] at hb
    exact absurd hb.1.2 (by decide)
   have hxe:x.2.1<x.2.2:=by
    have:=hx.1
    unfold fitsIn at this
    simp only [Bool.and_eq_true,decide_eq_true_eq] at this
    omega
   refine ⟨fun y hy=>?_,?_,fun y hy e he=>?_⟩
   ·rcases List.mem_cons.mp hy with rfl | hy
    ·exact ⟨hx.1,hx.2.1⟩
    ·exact h1 y hy
   ·refine List.pairwise_cons.mpr ⟨fun y hy q=>?_,h2⟩
    exact h3 y hy x.2.2 (by rw [if_pos q.symm])
   ·rcases List.mem_cons.mp hy with rfl | hy
    ·have:=hx.2.2
     unfold endsLate at this
     rw [he] at this
     have:=of_decide_eq_false this
     omega
    ·by_cases q:y.1=x.1
     ·have h4:=h3 y hy x.2.2 (by rw [if_pos q])
      have:=hx.2.2
      unfold endsLate at this
      rw [<- q,he] at this
      have:=of_decide_eq_false this
      omega
     ·exact h3 y hy e (by rw [if_neg q]; exact he)
theorem slots_disjoint {n w:Nat} {p:Paper} (hl:1<=p.longest) {l:List T3} (h1:∀ x∈l,fitsIn n w p x=true) (h2:l.Pairwise fun a b=>a.1=b.1->a.2.2<b.2.1):
  (l.flatMap (toneSlots p)).Pairwise (fun a b=>a.1=b.1->a.2.1+a.2.2<=b.2.1)/\∀ a∈l.flatMap (toneSlots p),a.1<w/\a.2.1+a.2.2<=n:=by
 have inside:∀ x a,a∈toneSlots p x->a.1=x.1/\x.2.1<=a.2.1/\a.2.1+a.2.2+p.tail<=x.2.1+(x.2.2-x.2.1):=fun x a ha=>by
  unfold toneSlots at ha
  obtain ⟨b,hb,rfl⟩:=List.mem_map.mp ha
  have:=(zEw hl (x.2.2-x.2.1)).2 b hb
  refine ⟨rfl,?_,?_⟩
  ·show x.2.1<=x.2.1+b.1; omega
  ·show x.2.1+b.1+b.2+p.tail<=_; omega
 have fit:∀ x∈l,x.1<w/\x.2.1<x.2.2/\x.2.2<=n+p.tail:=fun x hx=>by
  have:=h1 x hx
  unfold fitsIn at this
  simp only [Bool.and_eq_true,decide_eq_true_eq] at this
  exact this
 constructor
 ·rw [List.pairwise_flatMap]
  constructor
  ·intro x hx
   unfold toneSlots
   rw [List.pairwise_map]
   refine List.Pairwise.imp ?_ (zEw hl (x.2.2-x.2.1)).1
   intro a b hab _
   show x.2.1+a.1+a.2<=x.2.1+b.1
   omega
  ·refine List.Pairwise.imp_of_mem ?_ h2
   intro x y hx hy hxy a ha b hb e
   obtain ⟨a1,a2,a3⟩:=inside x a ha
   obtain ⟨b1,b2,b3⟩:=inside y b hb
   have:=hxy (by rw [<- a1,<- b1]; exact e)
   have:=fit x hx
   omega
 ·intro a ha
  obtain ⟨x,hx,ha⟩:=List.mem_flatMap.mp ha
  obtain ⟨a1,a2,a3⟩:=inside x a ha
  have:=fit x hx
  omega
theorem holesAt_nodup {l:List T3} (h:l.Pairwise fun a b=>a.1=b.1->a.2.1+a.2.2<=b.2.1) (i:Nat):(holesAt l i).Nodup:=by
 unfold holesAt
 rw [List.Nodup,List.pairwise_map]
 refine List.Pairwise.imp_of_mem ?_ (List.Pairwise.filter _ h)
 intro a b ha hb hab e
 have h1:=(List.mem_filter.mp ha).2
 have h2:=(List.mem_filter.mp hb).2
 unfold covers at h1 h2
 simp only [Bool.and_eq_true,decide_eq_true_eq] at h1 h2
 have:=hab e
 omega
theorem zDk (w i t:Nat):∀ (l:List Rol.Slot) (x:Row),Row.hole (l.foldl (fun (x:Row) (a:Rol.Slot)=>if a.track<w/\a.first<=i/\i<a.first+a.len then x ||| 2 ^ a.track else x) x) t=
  (Row.hole x t||l.any fun a=>decide (a.track<w/\a.first<=i/\i<a.first+a.len)&&decide (a.track=t))
 | [],x=>by simp
 | a::l,x=>by
  rw [List.foldl_cons,zDk w i t l,List.any_cons]
  by_cases h:a.track<w/\a.first<=i/\i<a.first+a.len
  ·rw [if_pos h,decide_eq_true h]
   unfold Row.hole
   rw [Nat.testBit_or,Nat.testBit_two_pow,Bool.true_and,Bool.or_assoc]
  ·rw [if_neg h,decide_eq_false h]
   simp
theorem zNY {n w:Nat} {p:Paper} (hl:1<=p.longest) {l:List T3} (hf:faultFrom n w p 0 none (fun _=>none) l=none) {rows:List (List Nat)} (hlen:rows.length=n)
  (hrows:∀ i ts,rows[i]? = some ts->Up ts/\∀ t,t∈ts↔t∈holesAt (l.flatMap (toneSlots p)) i):
  Rol.cut n w p (l.map zAy)=⟨w,rows.map mask⟩/\(∀ ts∈rows,Up ts/\∀ t∈ts,t<w):=by
 obtain ⟨h1,h2,_⟩:=fault_none l _ _ _ hf
 obtain ⟨d1,d2⟩:=slots_disjoint hl (fun x hx=>(h1 x hx).1) h2
 have eS:((l.map zAy).flatMap fun (x:Rol.Tone)=>(Rol.chain p x).getD [])=(l.flatMap (toneSlots p)).map zKG:=by
  rw [List.flatMap_map,List.map_flatMap,List.flatMap,List.flatMap]
  congr 1
  refine List.map_congr_left fun x hx=>?_
  have hx':=(h1 x hx).1
  unfold fitsIn at hx'
  simp only [Bool.and_eq_true,decide_eq_true_eq] at hx'
  rw [zGu,if_neg]
  ·show Option.getD (some _) []=_
   rw [Option.getD_some]
   unfold toneSlots
   rw [List.map_map]
   rfl
  ·rintro (q | q)
   ·have q:x.2.2<=x.2.1+p.tail:=q
    exact (h1 x hx).2 (slots_none (by omega))
   ·exact (h1 x hx).2 q
 constructor
 ·unfold Rol.cut Rol.fill
  rw [eS]
  congr 1
  refine List.ext_getElem? fun i=>?_
  rw [List.getElem?_map,List.getElem?_map]
  by_cases hi:i<n
  ·rw [List.getElem?_range hi]
   obtain ⟨ts,hts⟩:∃ ts,rows[i]? = some ts:=⟨_,List.getElem?_eq_getElem (by omega)⟩
   obtain ⟨u1,u2⟩:=hrows i ts hts
   rw [hts]
   simp only [Option.map_some]
   congr 1
   refine Nat.eq_of_testBit_eq fun t=>?_
   have e1:=zDk w i t ((l.flatMap (toneSlots p)).map zKG) 0
   unfold Row.hole at e1
   rw [e1,zBs u1,Nat.zero_testBit,Bool.false_or,Bool.eq_iff_iff,List.any_eq_true,decide_eq_true_eq,u2]
   unfold holesAt
   rw [List.mem_map]
   constructor
   ·rintro ⟨a,q1,q2⟩
    obtain ⟨b,hb,rfl⟩:=List.mem_map.mp q1
    simp only [Bool.and_eq_true,decide_eq_true_eq] at q2
    refine ⟨b,List.mem_filter.mpr ⟨hb,?_⟩,q2.2⟩
    unfold covers
    simp only [Bool.and_eq_true,decide_eq_true_eq]
    exact q2.1.2
   ·rintro ⟨b,q1,q2⟩
    obtain ⟨q1,q3⟩:=List.mem_filter.mp q1
    refine ⟨zKG b,List.mem_map.mpr ⟨b,q1,rfl⟩,?_⟩
    unfold covers at q3
    simp only [Bool.and_eq_true,decide_eq_true_eq] at q3 ⊢
    exact ⟨⟨(d2 b q1).1,q3⟩,q2⟩
  ·rw [List.getElem?_eq_none (by simp; omega),List.getElem?_eq_none (by omega)]
   rfl
 ·intro ts hts
  obtain ⟨i,hi⟩:=List.mem_iff_getElem?.mp hts
  obtain ⟨u1,u2⟩:=hrows i ts hi
  refine ⟨u1,fun t ht=>?_⟩
  obtain ⟨b,q1,q2⟩:=List.mem_map.mp ((u2 t).mp ht)
  have:=(d2 b (List.mem_filter.mp q1).1).1
  omega
noncomputable def addRow (l:List Run) (ts:List Nat):List Run:=match l.getLast? with
 | some r=>if r.2=ts then l.dropLast++[(r.1+1,ts)] else l++[(1,ts)]
 | none=>l++[(1,ts)]
theorem zDE:∀ {l:List Run} {r:Run},zDX l->(∀ x,l.getLast? = some x->x.2≠r.2)->zDX (l++[r])
 | [],_,_,_=>trivial
 | [a],r,_,h=>⟨h a rfl,trivial⟩
 | a::b::l,r,h,hl=>⟨h.1,zDE (l:=b::l) h.2 fun x hx=>hl x (by rw [List.getLast?_cons_cons]; exact hx)⟩
theorem zFF:∀ {l:List Run} {r r':Run},zDX (l++[r])->r.2=r'.2->zDX (l++[r'])
 | [],_,_,_,_=>trivial
 | [a],r,r',h,e=>⟨by rw [<- e]; exact h.1,trivial⟩
 | a::b::l,r,r',h,e=>⟨h.1,zFF (l:=b::l) h.2 e⟩
theorem zCM (l:List Run) (r:Run):zAL (l++[r])=zAL l++List.replicate r.1 (mask r.2):=by
 unfold zAL
 rw [List.flatMap_append]
 simp
theorem zMG {w:Nat} {l:List Run} {ts:List Nat} (h:∀ r∈l,RunOk w r) (ha:zDX l) (hu:Up ts) (hw:∀ t∈ts,t<w):
  (∀ r∈addRow l ts,RunOk w r)/\zDX (addRow l ts)/\zAL (addRow l ts)=zAL l++[mask ts]:=by
 unfold addRow
 have new:(∀ r∈l++[(1,ts)],RunOk w r)/\zAL (l++[(1,ts)])=zAL l++[mask ts]:=by
  refine ⟨fun r hr=>?_,by rw [zCM]; rfl⟩
  rcases List.mem_append.mp hr with hr | hr
  ·exact h r hr
  ·obtain rfl:r=(1,ts):=by simpa using hr
   exact ⟨Nat.le_refl _,hu,hw⟩
 cases e:l.getLast? with
 | none=>exact ⟨new.1,zDE ha (fun x hx=>by rw [e] at hx; cases hx),new.2⟩
 | some r=>
  simp only
  split
  ·rename_i hr
   have el:l=l.dropLast++[r]:=by
    obtain ⟨ys,hy⟩:=List.getLast?_eq_some_iff.mp e
    rw [hy,List.dropLast_concat]
   have hrm:RunOk w r:=h r (by rw [el]; simp)
   refine ⟨fun x hx=>?_,?_,?_⟩
   ·rcases List.mem_append.mp hx with hx | hx
    ·exact h x (by rw [el]; exact List.mem_append_left _ hx)
    ·obtain rfl:x=(r.1+1,ts):=by simpa using hx
     exact ⟨by show 1<=r.1+1; omega,hu,hw⟩
   ·rw [el] at ha
    exact zFF ha hr
   ·conv=>rhs; rw [el]
    rw [zCM,zCM,List.append_assoc,hr]
    congr 1
    show List.replicate (r.1+1) (mask ts)=_
    rw [List.replicate_succ']
  ·rename_i hr
   exact ⟨new.1,zDE ha (fun x hx=>by rw [e] at hx; cases hx; exact hr),new.2⟩
theorem zMo {w:Nat}:∀ (rows:List (List Nat)) (l:List Run),(∀ r∈l,RunOk w r)->zDX l->(∀ ts∈rows,Up ts/\∀ t∈ts,t<w)->
  (∀ r∈rows.foldl addRow l,RunOk w r)/\zDX (rows.foldl addRow l)/\zAL (rows.foldl addRow l)=zAL l++rows.map mask
 | [],l,h,ha,_=>⟨h,ha,by simp⟩
 | ts::rows,l,h,ha,hr=>by
  obtain ⟨hu,hw⟩:=hr ts List.mem_cons_self
  obtain ⟨a1,a2,a3⟩:=zMG h ha hu hw
  obtain ⟨b1,b2,b3⟩:=zMo rows (addRow l ts) a1 a2 fun x hx=>hr x (List.mem_cons_of_mem _ hx)
  rw [List.foldl_cons]
  refine ⟨b1,b2,?_⟩
  rw [b3,a3,List.map_cons,List.append_assoc]
  rfl
theorem zMy {n w:Nat} {p:Paper} (hl:1<=p.longest) (hw1:1<=w) (hw2:w<=128) (hn:n<=256) {l:List T3} (hf:faultFrom n w p 0 none (fun _=>none) l=none) {rows:List (List Nat)} (hlen:rows.length=n)
  (hrows:∀ i ts,rows[i]? = some ts->Up ts/\∀ t,t∈ts↔t∈holesAt (l.flatMap (toneSlots p)) i):
  Strip.Ok ⟨w,rows.foldl addRow []⟩/\Strip.spec ⟨w,rows.foldl addRow []⟩=Rol.cut n w p (l.map zAy):=by
 obtain ⟨c1,c2⟩:=zNY hl hf hlen hrows
 obtain ⟨g1,g2,g3⟩:=zMo (w:=w) rows [] (fun r hr=>by simp at hr) trivial c2
 have g3:zAL (rows.foldl addRow [])=rows.map mask:=g3
 refine ⟨⟨hw1,hw2,g1,g2,?_⟩,?_⟩
 ·show total (rows.foldl addRow [])<=256
  rw [<- zDd,g3,List.length_map]
  omega
 ·rw [c1]
  unfold Strip.spec
  rw [g3]
end RC
end
section
namespace RC
open Rol (Paper Row)
noncomputable def dig (n:Nat):List Nat:=(Nat.toDigits 10 n).map Char.toNat
noncomputable def headCodes:List Nat:=[115,116,114,105,112,32]
noncomputable def runCodes (r:Run):List Nat:=dig r.1++(r.2.flatMap fun t=>32::dig t)++[10]
noncomputable def textCodes (s:Strip):List Nat:=headCodes++(dig s.wide++(10::s.runs.flatMap runCodes))
theorem dig_low {n c:Nat} (h:c∈dig n):48<=c/\c<=57:=by
 unfold dig at h
 obtain ⟨x,hx,rfl⟩:=List.mem_map.mp h
 have:=Nat.isDigit_of_mem_toDigits (by decide) (by decide) hx
 unfold Char.isDigit at this
 simp only [Bool.and_eq_true,decide_eq_true_eq] at this
 have h1:(48:UInt32).toNat<=x.val.toNat:=UInt32.le_iff_toNat_le.mp this.1
 have h2:x.val.toNat<=(57:UInt32).toNat:=UInt32.le_iff_toNat_le.mp this.2
 exact ⟨h1,h2⟩
theorem zJR {n k:Nat} (hk:0<k) (h:n<10 ^ k):(dig n).length<=k:=by
 unfold dig
 rw [List.length_map]
 exact (Nat.length_toDigits_le_iff (by decide) hk).mpr h
theorem zCS (n:Nat):(Rol.decimal n).map UInt8.toNat=dig n:=by
 unfold Rol.decimal dig
 rw [List.map_map]
 refine List.map_congr_left fun c hc=>?_
 have:c.toNat∈dig n:=List.mem_map.mpr ⟨c,hc,rfl⟩
 have:=dig_low this
 show (UInt8.ofNat c.toNat).toNat=c.toNat
 rw [UInt8.toNat_ofNat']
 omega
theorem zNL:Rol.HEAD.map UInt8.toNat=headCodes:=by
 unfold Rol.HEAD Rol.ascii
 decide +kernel
theorem head_eq:Rol.HEAD=[115,116,114,105,112,32]:=by
 unfold Rol.HEAD Rol.ascii
 decide +kernel
theorem text_eq {s:Strip} (ok:s.Ok):s.spec.text.map UInt8.toNat=textCodes s:=by
 unfold Rol.Strip.text textCodes
 rw [List.map_append,zNL,List.map_append,zCS,List.map_cons]
 show headCodes++(dig s.wide++(10::_))=_
 congr 3
 show ((Rol.runs (zAL s.runs)).flatMap (Rol.runText s.wide)).map UInt8.toNat=_
 rw [zEA ok.all ok.apart,List.flatMap_map,List.map_flatMap,List.flatMap,List.flatMap]
 congr 1
 refine List.map_congr_left fun r hr=>?_
 have hr':=ok.all r hr
 unfold Rol.runText runCodes
 simp only
 rw [List.map_append,List.map_append,zCS,tracks_mask hr'.up hr'.low,List.map_flatMap]
 congr 2
 rw [List.flatMap,List.flatMap]
 congr 1
 refine List.map_congr_left fun t _=>?_
 rw [List.map_cons,zCS]
 rfl
theorem dig_short {n:Nat} (h:n<=256):(dig n).length<=3:=zJR (by decide) (by omega)
theorem zFz {w:Nat}:∀ (l:List Run),(∀ r∈l,RunOk w r)->w<=128->total l<=256->(l.flatMap runCodes).length<=600*total l
 | [],_,_,_=>by simp
 | r::l,h,hw,ht=>by
  have et:total (r::l)=r.1+total l:=by simp [total]
  have hr:=h r List.mem_cons_self
  have ih:=zFz l (fun x hx=>h x (List.mem_cons_of_mem _ hx)) hw (by omega)
  rw [List.flatMap_cons,List.length_append]
  have hp:=hr.pos
  have hlen:r.2.length<=128:=by
   have e:=tracks_mask hr.up hr.low
   rw [<- e]
   unfold Row.tracks
   have:=List.length_filter_le (fun t=>Row.hole (mask r.2) t) (List.range w)
   rw [List.length_range] at this
   omega
  have h1:(r.2.flatMap fun t=>32::dig t).length<=4*r.2.length:=by
   have:∀ (l:List Nat),(∀ t∈l,t<w)->(l.flatMap fun t=>32::dig t).length<=4*l.length:=by
    intro l
    induction l with
    | nil=>intro _; simp
    | cons t l ih=>
     intro q
     have:=ih fun x hx=>q x (List.mem_cons_of_mem _ hx)
     have:=dig_short (n:=t) (by have:=q t List.mem_cons_self; omega)
     rw [List.flatMap_cons,List.length_append,List.length_cons,List.length_cons]
     omega
   exact this _ hr.low
  have h2:=dig_short (n:=r.1) (by omega)
  have h3:(runCodes r).length=(dig r.1).length+(r.2.flatMap fun t=>32::dig t).length+1:=by
   unfold runCodes
   rw [List.length_append,List.length_append]
   rfl
  omega
theorem text_short {s:Strip} (ok:s.Ok):(textCodes s).length<=160000:=by
 unfold textCodes headCodes
 have h1:=zFz s.runs ok.all ok.w2 ok.few
 have h2:=dig_short (n:=s.wide) (by have:=ok.w2; omega)
 have:=ok.few
 simp only [List.length_append,List.length_cons,List.length_nil]
 omega
noncomputable def isDig (c:Nat):Bool:=decide (48<=c)&&decide (c<=57)
noncomputable def num (l:List Nat):Nat:=l.foldl (fun n c=>10*n+(c-48)) 0
noncomputable def numberM (lo hi p:Nat) (g:List Nat):Except Nat (Nat×Nat×List Nat):=
 let d:=g.takeWhile isDig
 if d=[]\/(d.head? = some 48/\d.length≠1)\/num d<lo\/hi<num d then .error p else .ok (num d,p+d.length,g.drop d.length)
noncomputable def tracksM (w:Nat):Nat->Nat->Nat->List Nat->Except Nat (List Nat×Nat×List Nat)
 | 0,_,p,_=>.error p
 | f+1,least,p,g=>match g with
  | 32::r=>match numberM least (w-1) (p+1) r with
   | .error k=>.error k
   | .ok x=>match tracksM w f (x.1+1) x.2.1 x.2.2 with
    | .error k=>.error k
    | .ok y=>.ok (x.1::y.1,y.2)
  | _=>.ok ([],p,g)
noncomputable def onLine {Z:Type} (r:List Nat) (q:Nat) (F:List Nat->Except Nat Z):Except Nat Z:=match r with
 | 10::r'=>F r'
 | _=>.error q
theorem onLine_other {Z:Type} {r:List Nat} {q:Nat} {F:List Nat->Except Nat Z} (h:r.head? ≠ some 10):onLine r q F = .error q:=by
 unfold onLine
 split
 ·exact absurd rfl h
 ·rfl
noncomputable def lineM (w had:Nat) (last:Option (List Nat)) (p:Nat) (g:List Nat):Except Nat (Run×Nat×List Nat):=match numberM 1 (256-had) p g with
 | .error k=>.error k
 | .ok n=>match tracksM w (w+1) 0 n.2.1 n.2.2 with
  | .error k=>.error k
  | .ok x=>if last=some x.1 then .error x.2.1 else onLine x.2.2 x.2.1 fun r=>.ok ((n.1,x.1),x.2.1+1,r)
noncomputable def linesM (w:Nat):Nat->Nat->Option (List Nat)->Nat->List Nat->Except Nat (List Run)
 | 0,_,_,p,_=>.error p
 | f+1,had,last,p,g=>if g=[] then .ok [] else match lineM w had last p g with
  | .error k=>.error k
  | .ok x=>match linesM w f (had+x.1.1) (some x.1.2) x.2.1 x.2.2 with
   | .error k=>.error k
   | .ok l=>.ok (x.1::l)
noncomputable def headM:List Nat->Nat->List Nat->Except Nat (Nat×List Nat)
 | [],p,g=>.ok (p,g)
 | c::cs,p,g=>match g with
  | []=>.error p
  | x::r=>if x=c then headM cs (p+1) r else .error p
noncomputable def readM (g:List Nat):Except Nat Strip:=match headM headCodes 0 g with
 | .error k=>.error k
 | .ok a=>match numberM 1 128 a.1 a.2 with
  | .error k=>.error k
  | .ok w=>onLine w.2.2 w.2.1 fun r=>match linesM w.1 (r.length+1) 0 none (w.2.1+1) r with
    | .error k=>.error k
    | .ok l=>.ok ⟨w.1,l⟩
noncomputable def by8 (g:List Nat):List UInt8:=g.map UInt8.ofNat
def Low (g:List Nat):Prop:=∀ c∈g,c<256
theorem zGv {c:Nat} (h:c<256):(UInt8.ofNat c).toNat=c:=by
 rw [UInt8.toNat_ofNat']; omega
theorem zHx {a b:Nat} (ha:a<256) (hb:b<256):UInt8.ofNat a=UInt8.ofNat b↔a=b:=by
 constructor
 ·intro h
  have:=congrArg UInt8.toNat h
  rwa [zGv ha,zGv hb] at this
 ·intro h; rw [h]
theorem zMd {c:Nat} (h:c<256):Rol.isDigit (UInt8.ofNat c)=isDig c:=by
 unfold Rol.isDigit isDig
 rw [zGv h]
theorem zCY:∀ {g:List Nat},Low g->(by8 g).takeWhile Rol.isDigit=by8 (g.takeWhile isDig)
 | [],_=>rfl
 | c::g,h=>by
  have hc:=h c List.mem_cons_self
  show (UInt8.ofNat c::by8 g).takeWhile _=_
  rw [List.takeWhile_cons,List.takeWhile_cons,zMd hc]
  split
  ·rw [zCY fun x hx=>h x (List.mem_cons_of_mem _ hx)]; rfl
  ·rfl
theorem zCX {g:List Nat} (h:Low g):Low (g.takeWhile isDig):=fun c hc=>h c ((List.takeWhile_sublist _).subset hc)
theorem zBX {g:List Nat} (h:Low g) (n:Nat):Low (g.drop n):=fun c hc=>h c (List.mem_of_mem_drop hc)
theorem zJH {d:List Nat} (h:Low d):Rol.number (by8 d)=num d:=by
 unfold Rol.number num by8
 rw [List.foldl_map]
 have:∀ (l:List Nat) (a:Nat),Low l->l.foldl (fun (n:Nat) (c:Nat)=>10*n+((UInt8.ofNat c).toNat-48)) a=l.foldl (fun n c=>10*n+(c-48)) a:=by
  intro l
  induction l with
  | nil=>intro _ _; rfl
  | cons c l ih=>
   intro a q
   rw [List.foldl_cons,List.foldl_cons,zGv (q c List.mem_cons_self),ih _ fun x hx=>q x (List.mem_cons_of_mem _ hx)]
 exact this d 0 h
theorem zCO {lo hi p:Nat} {g:List Nat} (h:Low g):Rol.numberIn lo hi p (by8 g)=match numberM lo hi p g with | .error k=>.error k | .ok x=>.ok (x.1,x.2.1,by8 x.2.2):=by
 unfold Rol.numberIn numberM
 simp only
 rw [zCY h,zJH (zCX h)]
 have e1:(by8 (g.takeWhile isDig)).length=(g.takeWhile isDig).length:=List.length_map ..
 have e2:(by8 (g.takeWhile isDig)=[])↔g.takeWhile isDig=[]:=by unfold by8; rw [List.map_eq_nil_iff]
 have e3:(by8 (g.takeWhile isDig)).head? = some 48↔(g.takeWhile isDig).head? = some 48:=by
  have hl:=zCX h
  cases e:g.takeWhile isDig with
  | nil=>simp [by8]
  | cons c r=>
   rw [e] at hl
   show some (UInt8.ofNat c)=some 48↔some c=some 48
   rw [Option.some.injEq,Option.some.injEq]
   exact zHx (hl c List.mem_cons_self) (by decide)
 simp only [e1,e2,e3]
 split
 ·rfl
 ·simp only
  unfold by8
  rw [List.map_drop]
theorem numberM_ok {lo hi p:Nat} {g:List Nat} {x:Nat×Nat×List Nat} (h:numberM lo hi p g = .ok x):lo<=x.1/\x.1<=hi/\∃ n,1<=n/\n<=g.length/\x.2.1=p+n/\x.2.2=g.drop n:=by
 unfold numberM at h
 simp only at h
 split at h
 ·cases h
 ·rename_i hc
  cases h
  simp only [not_or] at hc
  refine ⟨by omega,by omega,(g.takeWhile isDig).length,?_,?_,rfl,rfl⟩
  ·have:(g.takeWhile isDig).length≠0:=fun q=>hc.1 (List.length_eq_zero_iff.mp q)
   omega
  ·exact (List.takeWhile_sublist _).length_le
theorem tracksM_ok {w:Nat}:∀ (f least p:Nat) (g:List Nat) (x:List Nat×Nat×List Nat),tracksM w f least p g = .ok x->Up x.1/\(∀ t∈x.1,least<=t/\t<=w-1)/\∃ n,n<=g.length/\x.2.1=p+n/\x.2.2=g.drop n/\x.2.2.head? ≠ some 32
 | 0,_,_,_,_,h=>by cases h
 | f+1,least,p,g,x,h=>by
  rw [tracksM.eq_def] at h
  simp only at h
  split at h
  ·rename_i r
   cases e:numberM least (w-1) (p+1) r with
   | error k=>rw [e] at h; cases h
   | ok y=>
    rw [e] at h
    simp only at h
    obtain ⟨h1,h2,n,h3,h4,h5,h6⟩:=numberM_ok e
    cases e2:tracksM w f (y.1+1) y.2.1 y.2.2 with
    | error k=>rw [e2] at h; cases h
    | ok z=>
     rw [e2] at h
     cases h
     obtain ⟨i1,i2,m,i3,i4,i5,i6⟩:=tracksM_ok f _ _ _ _ e2
     refine ⟨List.pairwise_cons.mpr ⟨fun t ht=>(i2 t ht).1,i1⟩,fun t ht=>?_,n+1+m,?_,?_,?_,i6⟩
     ·rcases List.mem_cons.mp ht with rfl | ht
      ·exact ⟨h1,h2⟩
      ·have:=i2 t ht; omega
     ·rw [h6,List.length_drop] at i3
      rw [List.length_cons]
      omega
     ·simp only; omega
     ·simp only
      rw [i5,h6,List.drop_drop,show n+1+m=(n+m)+1 by omega,List.drop_succ_cons]
  ·rename_i hne
   cases h
   refine ⟨.nil,(fun t ht=>by simp at ht),0,Nat.zero_le _,rfl,rfl,?_⟩
   simp only
   intro q
   cases g with
   | nil=>cases q
   | cons c r=>cases q; exact hne r rfl
theorem tracksM_other {w f least p c:Nat} {r:List Nat} (h:c≠32):tracksM w (f+1) least p (c::r) = .ok ([],p,c::r):=by
 rw [tracksM.eq_def]
 simp only
 split
 ·rename_i e; cases e; exact absurd rfl h
 ·rfl
theorem tracksM_blank {w f least p:Nat} {r:List Nat}:tracksM w (f+1) least p (32::r)=match numberM least (w-1) (p+1) r with
   | .error k=>.error k
   | .ok x=>match tracksM w f (x.1+1) x.2.1 x.2.2 with
    | .error k=>.error k
    | .ok y=>.ok (x.1::y.1,y.2):=rfl
theorem zEl {w:Nat} (hw:1<=w):∀ (f least p:Nat) (g:List Nat),Low g->least<=w->w+1<=f+least->Rol.tracksIn w f least p (by8 g)=match tracksM w f least p g with
  | .error k=>.error k
  | .ok x=>onLine x.2.2 x.2.1 fun r=>.ok ((mask x.1,x.2.1),x.2.1+1,by8 r)
 | 0,_,_,_,_,h1,h2=>by omega
 | f+1,least,p,g,hl,h1,h2=>by
  rw [Rol.tracksIn.eq_def]
  cases g with
  | nil=>rfl
  | cons c r=>
   have hc:=hl c List.mem_cons_self
   have hr:Low r:=fun x hx=>hl x (List.mem_cons_of_mem _ hx)
   show (match UInt8.ofNat c::by8 r with | 10::r=>_ | 32::r=>_ | _=>_)=_
   by_cases c10:c=10
   ·subst c10; rfl
   ·by_cases c32:c=32
    ·subst c32
     show (if w<=least then _ else match Rol.numberIn least (w-1) (p+1) (by8 r) with | .error k=>_ | .ok x=>_)=_
     rw [zCO hr,tracksM_blank]
     by_cases hwl:w<=least
     ·rw [if_pos hwl]
      have:numberM least (w-1) (p+1) r = .error (p+1):=by
       unfold numberM
       simp only
       rw [if_pos]
       omega
      rw [this]
     ·rw [if_neg hwl]
      cases e:numberM least (w-1) (p+1) r with
      | error k=>rfl
      | ok x=>
       obtain ⟨q1,q2,n,q3,q4,q5,q6⟩:=numberM_ok e
       simp only
       rw [zEl hw f (x.1+1) x.2.1 x.2.2 (by rw [q6]; exact zBX hr n) (by omega) (by omega)]
       cases e2:tracksM w f (x.1+1) x.2.1 x.2.2 with
       | error k=>rfl
       | ok y=>
        obtain ⟨ts,q,rr⟩:=y
        simp only
        by_cases hh:rr.head? = some 10
        ·obtain ⟨rr',rfl⟩:∃ rr',rr=10::rr':=by
          cases rr with
          | nil=>cases hh
          | cons a rr=>cases hh; exact ⟨rr,rfl⟩
         rfl
        ·rw [onLine_other hh,onLine_other hh]
    ·rw [tracksM_other c32]
     simp only
     split
     ·rename_i e; injection e with e1 e2
      exact absurd ((zHx hc (by decide)).mp (e1:UInt8.ofNat c=UInt8.ofNat 10)) c10
     ·rename_i e; injection e with e1 e2
      exact absurd ((zHx hc (by decide)).mp (e1:UInt8.ofNat c=UInt8.ofNat 32)) c32
     ·rw [onLine_other]
      intro e
      cases e
      exact c10 rfl
end RC
end
section
namespace RC
open Rol (Paper Row)
theorem zNI {w had:Nat} {last:Option (List Nat)} {p:Nat} {g:List Nat} {x:Run×Nat×List Nat} (hw:1<=w) (h:lineM w had last p g = .ok x):
  RunOk w x.1/\x.1.1<=256-had/\last≠some x.1.2/\∃ n,1<=n/\n<=g.length/\x.2.1=p+n/\x.2.2=g.drop n:=by
 unfold lineM at h
 cases e:numberM 1 (256-had) p g with
 | error k=>rw [e] at h; cases h
 | ok n=>
  rw [e] at h
  simp only at h
  obtain ⟨q1,q2,m,q3,q4,q5,q6⟩:=numberM_ok e
  cases e2:tracksM w (w+1) 0 n.2.1 n.2.2 with
  | error k=>rw [e2] at h; cases h
  | ok y=>
   rw [e2] at h
   simp only at h
   obtain ⟨r1,r2,m2,r3,r4,r5,r6⟩:=tracksM_ok _ _ _ _ _ e2
   split at h
   ·cases h
   ·rename_i hne
    by_cases hh:y.2.2.head? = some 10
    ·obtain ⟨r,er⟩:∃ r,y.2.2=10::r:=by
      cases er:y.2.2 with
      | nil=>rw [er] at hh; cases hh
      | cons a r=>rw [er] at hh; cases hh; exact ⟨r,rfl⟩
     rw [er] at h
     cases h
     refine ⟨⟨q1,r1,fun t ht=>by have:=r2 t ht; omega⟩,q2,hne,m+m2+1,by omega,?_,?_,?_⟩
     ·have h1:(n.2.2.drop m2).length=r.length+1:=by rw [<- r5,er]; rfl
      rw [q6,List.length_drop,List.length_drop] at h1
      omega
     ·simp only; omega
     ·simp only
      have h1:n.2.2.drop m2=10::r:=by rw [<- r5,er]
      rw [q6,List.drop_drop] at h1
      rw [<- List.drop_drop,h1]
      rfl
    ·rw [onLine_other hh] at h; cases h
theorem zFr {w:Nat} (hw:1<=w):∀ (f had:Nat) (last:Option (List Nat)) (p:Nat) (g:List Nat),Low g->(∀ ts,last=some ts->Up ts)->Rol.linesIn w f had (last.map mask) p (by8 g)=match linesM w f had last p g with
  | .error k=>.error k
  | .ok l=>.ok (l.map fun r=>(r.1,mask r.2))
 | 0,_,_,_,_,_,_=>rfl
 | f+1,had,last,p,g,hl,hu=>by
  rw [Rol.linesIn,linesM]
  have e0:by8 g=[]↔g=[]:=by unfold by8; rw [List.map_eq_nil_iff]
  by_cases hg:g=[]
  ·rw [if_pos (e0.mpr hg),if_pos hg]; rfl
  ·rw [if_neg (fun q=>hg (e0.mp q)),if_neg hg]
   unfold lineM
   by_cases hbig:Rol.ROWS<=had
   ·rw [if_pos hbig]
    have hbig:256<=had:=hbig
    have:numberM 1 (256-had) p g = .error p:=by
     unfold numberM
     simp only
     rw [if_pos]
     omega
    rw [this]
   rw [if_neg hbig,show Rol.ROWS-had=256-had from rfl,zCO hl]
   cases e:numberM 1 (256-had) p g with
   | error k=>rfl
   | ok n=>
    obtain ⟨q1,q2,m,q3,q4,q5,q6⟩:=numberM_ok e
    simp only
    rw [zEl hw (w+1) 0 n.2.1 n.2.2 (by rw [q6]; exact zBX hl m) (Nat.zero_le _) (by omega)]
    cases e3:tracksM w (w+1) 0 n.2.1 n.2.2 with
    | error k=>rfl
    | ok x=>
     obtain ⟨ts,q,r⟩:=x
     obtain ⟨r1,r2,m2,r3,r4,r5,r6⟩:=tracksM_ok _ _ _ _ _ e3
     simp only at r1 r5 ⊢
     have hlast:last.map mask=some (mask ts)↔last=some ts:=by
      cases last with
      | none=>simp
      | some us=>
       simp only [Option.map_some,Option.some.injEq]
       exact ⟨fun q=>zJd (hu us rfl) r1 q,fun q=>by rw [q]⟩
     by_cases h10:∃ r',r=10::r'
     ·obtain ⟨r',rfl⟩:=h10
      simp only [hlast,onLine]
      by_cases hls:last=some ts
      ·rw [if_pos hls,if_pos hls]
      ·rw [if_neg hls,if_neg hls]
       have hlow:Low r':=fun c hc=>by
        have h1:Low (n.2.2.drop m2):=by rw [q6]; exact zBX (zBX hl m) m2
        rw [<- r5] at h1
        exact h1 c (List.mem_cons_of_mem _ hc)
       have ih:=zFr hw f (had+n.1) (some ts) (q+1) r' hlow (fun us hus=>by cases hus; exact r1)
       simp only [Option.map_some] at ih
       simp only [onLine]
       rw [ih]
       cases linesM w f (had+n.1) (some ts) (q+1) r' <;> rfl
     ·have hh:r.head? ≠ some 10:=fun z=>by
       cases r with
       | nil=>cases z
       | cons a r=>cases z; exact h10 ⟨r,rfl⟩
      rw [onLine_other hh,onLine_other hh,ite_self]
theorem zHl {w:Nat} (hw:1<=w):∀ (f had:Nat) (last:Option (List Nat)) (p:Nat) (g:List Nat) (l:List Run),had<=256->linesM w f had last p g = .ok l->
  (∀ r∈l,RunOk w r)/\zDX l/\had+total l<=256/\(∀ r,l.head? = some r->last≠some r.2)
 | 0,_,_,_,_,_,_,h=>by cases h
 | f+1,had,last,p,g,l,hh,h=>by
  rw [linesM] at h
  split at h
  ·cases h
   exact ⟨(fun r hr=>by simp at hr),trivial,by simpa [total] using hh,fun r hr=>by simp at hr⟩
  ·cases e:lineM w had last p g with
   | error k=>rw [e] at h; cases h
   | ok x=>
    rw [e] at h
    simp only at h
    obtain ⟨a1,a2,a3,n,a4,a5,a6,a7⟩:=zNI hw e
    have hp:=a1.pos
    cases e2:linesM w f (had+x.1.1) (some x.1.2) x.2.1 x.2.2 with
    | error k=>rw [e2] at h; cases h
    | ok l'=>
     rw [e2] at h
     cases h
     obtain ⟨b1,b2,b3,b4⟩:=zHl hw f _ _ _ _ l' (by omega) e2
     have et:total (x.1::l')=x.1.1+total l':=by simp [total]
     refine ⟨fun r hr=>?_,?_,by omega,fun r hr=>?_⟩
     ·rcases List.mem_cons.mp hr with rfl | hr
      ·exact a1
      ·exact b1 r hr
     ·cases l' with
      | nil=>trivial
      | cons b l'=>exact ⟨fun q=>b4 b rfl (by rw [q]),b2⟩
     ·cases hr; exact a3
theorem zJj:∀ (cs:List Nat) (p:Nat) (g:List Nat),Low cs->Low g->headM cs p g=if (by8 cs).isPrefixOf (by8 g)=false then .error (p+Rol.mustBe (by8 cs) (by8 g)) else .ok (p+cs.length,g.drop cs.length)
 | [],p,g,_,_=>by
  rw [headM]
  rfl
 | c::cs,p,[],_,_=>by
  rw [headM]
  rfl
 | c::cs,p,x::g,hc,hg=>by
  rw [headM]
  have hc1:=hc c List.mem_cons_self
  have hx1:=hg x List.mem_cons_self
  have ih:=zJj cs (p+1) g (fun y hy=>hc y (List.mem_cons_of_mem _ hy)) (fun y hy=>hg y (List.mem_cons_of_mem _ hy))
  show _=if (UInt8.ofNat c::by8 cs).isPrefixOf (UInt8.ofNat x::by8 g)=false then (.error (p+Rol.mustBe (UInt8.ofNat c::by8 cs) (UInt8.ofNat x::by8 g)):Except Nat (Nat×List Nat)) else _
  rw [List.isPrefixOf]
  by_cases h:x=c
  ·subst h
   rw [if_pos rfl,ih,beq_self_eq_true,Bool.true_and]
   have em:Rol.mustBe (UInt8.ofNat x::by8 cs) (UInt8.ofNat x::by8 g)=Rol.mustBe (by8 cs) (by8 g)+1:=by
    unfold Rol.mustBe
    rw [List.zip_cons_cons,List.takeWhile_cons,if_pos (beq_self_eq_true _),List.length_cons]
   rw [em]
   congr 2
   ·omega
   ·rw [List.length_cons,List.drop_succ_cons]
    congr 1
    omega
  ·have hne:¬ UInt8.ofNat c=UInt8.ofNat x:=fun q=>h ((zHx hc1 hx1).mp q).symm
   have hb:(UInt8.ofNat c==UInt8.ofNat x)=false:=by simpa using hne
   have em:Rol.mustBe (UInt8.ofNat c::by8 cs) (UInt8.ofNat x::by8 g)=0:=by
    unfold Rol.mustBe
    rw [List.zip_cons_cons,List.takeWhile_cons,if_neg (by simpa using hne)]
    rfl
   rw [if_neg h,hb,em]
   rfl
theorem read_eq {g:List Nat} (hg:Low g):Rol.readText (by8 g)=match readM g with
  | .error k=>.error k
  | .ok s=>.ok (s.spec,s.runs.length):=by
 unfold Rol.readText readM
 have eh:by8 headCodes=Rol.HEAD:=by rw [head_eq]; rfl
 rw [zJj headCodes 0 g (by unfold Low headCodes; decide) hg,eh]
 by_cases hp:Rol.HEAD.isPrefixOf (by8 g)=false
 ·rw [if_pos hp,if_pos hp,Nat.zero_add]
 ·rw [if_neg hp,if_neg hp]
  simp only
  have el:Rol.HEAD.length=headCodes.length:=by rw [<- eh]; exact List.length_map ..
  have ed:(by8 g).drop Rol.HEAD.length=by8 (g.drop headCodes.length):=by rw [el]; unfold by8; rw [List.map_drop]
  rw [ed,zCO (zBX hg _),el,Nat.zero_add]
  show (match (match numberM 1 128 headCodes.length (g.drop headCodes.length) with | .error k=>.error k | .ok x=>.ok (x.1,x.2.1,by8 x.2.2):Rol.Read Nat) with | .error k=>_ | .ok w=>_)=_
  cases e:numberM 1 128 headCodes.length (g.drop headCodes.length) with
  | error k=>rfl
  | ok x=>
   obtain ⟨w,q,r⟩:=x
   obtain ⟨q1,q2,m,q3,q4,q5,q6⟩:=numberM_ok e
   simp only at q1 q2 q6 ⊢
   match r,q6 with
   | [],_=>rfl
   | a::r,q6=>
    have hlow:Low (a::r):=by rw [q6]; exact zBX (zBX hg _) _
    have hr:Low r:=fun c hc=>hlow c (List.mem_cons_of_mem _ hc)
    by_cases ha:a=10
    ·subst ha
     show (match Rol.linesIn w ((by8 r).length+1) 0 none (q+1) (by8 r) with | .error k=>_ | .ok l=>_)=_
     have:=zFr q1 ((by8 r).length+1) 0 none (q+1) r hr (fun _ h=>by cases h)
     simp only [Option.map_none] at this
     rw [this,show (by8 r).length=r.length from List.length_map ..]
     simp only [onLine]
     cases linesM w (r.length+1) 0 none (q+1) r with
     | error k=>rfl
     | ok l=>
      simp only [List.length_map]
      unfold Strip.spec zAL
      rw [List.flatMap_map]
    ·have hne:¬ UInt8.ofNat a=10:=fun z=>ha ((zHx (hlow a List.mem_cons_self) (by decide)).mp (z:UInt8.ofNat a=UInt8.ofNat 10))
     show (match UInt8.ofNat a::by8 r with | 10::r=>_ | _=>_)=_
     split
     ·rename_i z; injection z with z1 z2; exact absurd z1 hne
     ·rw [onLine_other]
      intro z
      cases z
      exact ha rfl
theorem zNc {g:List Nat} {s:Strip} (h:readM g = .ok s):s.Ok:=by
 unfold readM at h
 cases e:headM headCodes 0 g with
 | error k=>rw [e] at h; cases h
 | ok a=>
  rw [e] at h
  simp only at h
  cases e2:numberM 1 128 a.1 a.2 with
  | error k=>rw [e2] at h; cases h
  | ok w=>
   rw [e2] at h
   simp only at h
   obtain ⟨q1,q2,m,q3,q4,q5,q6⟩:=numberM_ok e2
   by_cases hh:w.2.2.head? = some 10
   ·obtain ⟨r,er⟩:∃ r,w.2.2=10::r:=by
     cases er:w.2.2 with
     | nil=>rw [er] at hh; cases hh
     | cons a r=>rw [er] at hh; cases hh; exact ⟨r,rfl⟩
    rw [er] at h
    simp only [onLine] at h
    cases e3:linesM w.1 (r.length+1) 0 none (w.2.1+1) r with
    | error k=>rw [e3] at h; cases h
    | ok l=>
     rw [e3] at h
     cases h
     obtain ⟨b1,b2,b3,_⟩:=zHl q1 _ _ _ _ _ _ (by decide) e3
     exact ⟨q1,q2,b1,b2,by simpa using b3⟩
   ·rw [onLine_other hh] at h; cases h
noncomputable def cap (hi v c:Nat):Nat:=if v<=hi then v*10+(c-48) else v
theorem zMz {hi:Nat}:∀ (d:List Nat) (v n:Nat),(v<=hi->v=n)->(hi<v->hi<n)->(d.foldl (cap hi) v<=hi->d.foldl (cap hi) v=d.foldl (fun n c=>10*n+(c-48)) n)/\(hi<d.foldl (cap hi) v->hi<d.foldl (fun n c=>10*n+(c-48)) n)
 | [],_,_,h1,h2=>⟨h1,h2⟩
 | c::d,v,n,h1,h2=>by
  rw [List.foldl_cons,List.foldl_cons]
  refine zMz d _ _ ?_ ?_
  ·unfold cap
   split
   ·rename_i q; have:=h1 q; intro _; omega
   ·intro q; omega
  ·unfold cap
   split
   ·rename_i q; have:=h1 q; intro _; omega
   ·rename_i q; have:=h2 (by omega); intro _; omega
theorem numberM_cap (lo hi p:Nat) (g:List Nat):numberM lo hi p g=(let d:=g.takeWhile isDig; let v:=d.foldl (cap hi) 0
  if d.length=0\/(1<d.length/\d.head? = some 48)\/v<lo\/hi<v then .error p else .ok (v,p+d.length,g.drop d.length)):=by
 unfold numberM
 simp only
 obtain ⟨h1,h2⟩:=zMz (hi:=hi) (g.takeWhile isDig) 0 0 (fun _=>rfl) (fun q=>q)
 generalize hv:(g.takeWhile isDig).foldl (cap hi) 0=v at h1 h2
 have hn:(g.takeWhile isDig).foldl (fun n c=>10*n+(c-48)) 0=num (g.takeWhile isDig):=rfl
 rw [hn] at h1 h2
 have e0:g.takeWhile isDig=[]↔(g.takeWhile isDig).length=0:=List.length_eq_zero_iff.symm
 by_cases hc:(g.takeWhile isDig).length=0\/(1<(g.takeWhile isDig).length/\(g.takeWhile isDig).head? = some 48)\/v<lo\/hi<v
 ·rw [if_pos hc,if_pos]
  rcases hc with hc | hc | hc | hc
  ·exact Or.inl (e0.mpr hc)
  ·exact Or.inr (Or.inl ⟨hc.2,by omega⟩)
  ·by_cases q:hi<v
   ·exact Or.inr (Or.inr (Or.inr (h2 q)))
   ·have:=h1 (by omega)
    exact Or.inr (Or.inr (Or.inl (by omega)))
  ·exact Or.inr (Or.inr (Or.inr (h2 hc)))
 ·simp only [not_or] at hc
  have hvn:=h1 (by omega)
  rw [if_neg,if_neg (by simp only [not_or]; exact hc),hvn]
  rintro (q | ⟨q1,q2⟩ | q | q)
  ·exact hc.1 (e0.mp q)
  ·exact hc.2.1 ⟨by have:=hc.1; omega,q1⟩
  ·omega
  ·omega
end RC
end
section
namespace RC
open Rol (Paper Row)
structure St where
 strips:List Strip
 paper:Option Paper
noncomputable def St.spec (s:St):RolC.State:=⟨s.strips.map Strip.spec,s.paper⟩
structure PaperOk (p:Paper):Prop where
 t:p.tail<=15
 l1:1<=p.longest
 l2:p.longest<=65535
 b1:1<=p.bridge
 b2:p.bridge<=65535
 n1:1<=p.near
 n2:p.near<=128
theorem paperOk_iff (p:Paper):p.ok=true↔PaperOk p:=by
 unfold Rol.Paper.ok Rol.tailOk
 simp only [Bool.and_eq_true,decide_eq_true_eq]
 exact ⟨fun ⟨a,b,c,d,e,f,g⟩=>⟨a,b,c,d,e,f,g⟩,fun ⟨a,b,c,d,e,f,g⟩=>⟨a,b,c,d,e,f,g⟩⟩
structure St.Ok (s:St):Prop where
 all:∀ x∈s.strips,x.Ok
 few:s.strips.length<=32
 pap:∀ p,s.paper=some p->PaperOk p
noncomputable def start:St:=⟨[],none⟩
noncomputable def inz (l:List Nat):List Int:=l.map fun (n:Nat)=>(n:Int)
noncomputable abbrev row (z:Int) (l t:List Nat):List Int:=NLines.flat z (inz l) (inz t)
noncomputable def mkeep (s:St) (x:Strip):St×List Int:=if s.strips.length=32 then (s,row (-10) [] []) else (⟨s.strips++[x],s.paper⟩,row s.strips.length [] [])
noncomputable def mread (s:St) (g:List Nat):St×List Int:=match readM g with
 | .error k=>(s,row (-6) [k] [])
 | .ok x=>mkeep s x
noncomputable def mtext (s:St) (i:Nat):List Int:=match s.strips[i]? with
 | none=>row (-4) [] []
 | some x=>row (textCodes x).length [] (textCodes x)
noncomputable def mpaper (s:St) (p:Paper):St×List Int:=if p.ok=true then (⟨s.strips,some p⟩,row 0 [] []) else (s,row (-1) [] [])
noncomputable def mwith (s:St) (i:Nat) (f:Paper->Strip->List Int):List Int:=match s.paper with
 | none=>row (-8) [] []
 | some p=>match s.strips[i]? with
  | none=>row (-4) [] []
  | some x=>f p x
noncomputable def wrong3 (z:W3):List Nat:=[z.2.2,z.1,z.2.1]
noncomputable def judgeL (p:Paper) (x:Strip):Option W3:=firstWrong p 0 (fun _=>none) (fun _=>none) x.runs
noncomputable def mjudge (p:Paper) (x:Strip):List Int:=match judgeL p x with
 | some z=>row 1 (wrong3 z) []
 | none=>row 0 [] []
noncomputable def upOf (w:Nat) (l:List Nat):List Nat:=(List.range w).filter fun t=>decide (t∈l)
noncomputable def soundL (p:Paper) (x:Strip) (j:Nat):List Nat:=upOf x.wide (gathered p.tail j 0 x.runs)
noncomputable def tonesL (p:Paper) (x:Strip):List T3:=(trun p.tail 0 noTones x.runs).cur
noncomputable def flat3 (l:List T3):List Nat:=l.flatMap fun x=>[x.1,x.2.1,x.2.2]
noncomputable def flat2 (l:List (Nat×Nat)):List Nat:=l.flatMap fun x=>[x.1,x.2]
noncomputable def mtones (p:Paper) (x:Strip):List Int:=row (tonesL p x).length (flat3 (tonesL p x)) []
noncomputable def mchain (s:St) (n:Nat):List Int:=match s.paper with
 | none=>row (-8) [] []
 | some p=>if 271<n then row (-1) [] [] else if slotsOf p n=[] then row (-3) [] [] else row (slotsOf p n).length (flat2 (slotsOf p n)) []
noncomputable def cutRows (n w:Nat) (p:Paper) (l:List T3):List (List Nat):=(List.range n).map fun i=>upOf w (holesAt (l.flatMap (toneSlots p)) i)
noncomputable def cutStrip (n w:Nat) (p:Paper) (l:List T3):Strip:=⟨w,(cutRows n w p l).foldl addRow []⟩
noncomputable def mcut (s:St) (w n:Nat) (l:List T3):St×List Int:=match s.paper with
 | none=>(s,row (-8) [] [])
 | some p=>if w<1\/128<w\/256<n\/512<l.length then (s,row (-1) [] []) else match faultFrom n w p 0 none (fun _=>none) l with
  | some i=>(s,row (-3) [i] [])
  | none=>match judgeL p (cutStrip n w p l) with
   | some z=>(s,row (-9) (wrong3 z) [])
   | none=>mkeep s (cutStrip n w p l)
theorem upOf_up (w:Nat) (l:List Nat):Up (upOf w l):=zCl (zEe w)
theorem mem_upOf {w t:Nat} {l:List Nat} (h:∀ x∈l,x<w):t∈upOf w l↔t∈l:=by
 unfold upOf
 rw [List.mem_filter,List.mem_range,decide_eq_true_eq]
 exact ⟨fun q=>q.2,fun q=>⟨h t q,q⟩⟩
theorem cutStrip_ok {n w:Nat} {p:Paper} (hl:1<=p.longest) (hw1:1<=w) (hw2:w<=128) (hn:n<=256) {l:List T3} (hf:faultFrom n w p 0 none (fun _=>none) l=none):
  (cutStrip n w p l).Ok/\(cutStrip n w p l).spec=Rol.cut n w p (l.map zAy):=by
 refine zMy hl hw1 hw2 hn hf (rows:=cutRows n w p l) (by simp [cutRows]) fun i ts h=>?_
 unfold cutRows at h
 rw [List.getElem?_map] at h
 by_cases hi:i<n
 ·rw [List.getElem?_range hi] at h
  cases h
  refine ⟨upOf_up _ _,fun t=>mem_upOf fun x hx=>?_⟩
  obtain ⟨h1,h2,_⟩:=fault_none l _ _ _ hf
  obtain ⟨_,d2⟩:=slots_disjoint hl (fun x hx=>(h1 x hx).1) h2
  unfold holesAt at hx
  obtain ⟨b,q1,q2⟩:=List.mem_map.mp hx
  have:=(d2 b (List.mem_filter.mp q1).1).1
  omega
 ·rw [List.getElem?_eq_none (by simp; omega)] at h
  cases h
theorem zFp {s:St} (i:Nat) (f:Rol.Strip->Rol.Ans):Rol.ofStrip s.spec.strips i f=match s.strips[i]? with | none=>Rol.says (-4) | some x=>f x.spec:=by
 unfold Rol.ofStrip St.spec
 simp only [List.getElem?_map]
 cases s.strips[i]? <;> rfl
noncomputable def zBh (a:Rol.Ans):List Int:=NLines.flat a.ret a.nums (a.text.map fun (b:UInt8)=>(b.toNat:Int))
theorem zMb {s:St} (ok:s.Ok) {x:Strip} (hx:x.Ok):(Rol.kept s.spec.strips x.spec).1=(mkeep s x).1.spec.strips/\zBh (Rol.kept s.spec.strips x.spec).2=(mkeep s x).2/\(mkeep s x).1.Ok/\(mkeep s x).1.paper=s.paper:=by
 unfold Rol.kept mkeep
 have e:s.spec.strips.length=s.strips.length:=List.length_map ..
 have hf:=ok.few
 rw [e]
 by_cases h:s.strips.length=32
 ·rw [if_pos (show Rol.STRIPS<=_ by show 32<=_; omega),if_pos h]
  exact ⟨rfl,rfl,ok,rfl⟩
 ·rw [if_neg (show ¬ Rol.STRIPS<=_ by show ¬ 32<=_; omega),if_neg h]
  refine ⟨?_,rfl,⟨fun y hy=>?_,?_,ok.pap⟩,rfl⟩
  ·show s.strips.map Strip.spec++[x.spec]=(s.strips++[x]).map Strip.spec
   rw [List.map_append]; rfl
  ·rcases List.mem_append.mp hy with hy | hy
   ·exact ok.all y hy
   ·obtain rfl:y=x:=by simpa using hy
    exact hx
  ·show (s.strips++[x]).length<=32
   rw [List.length_append]
   show _+1<=32
   omega
theorem zLf {s:St} (ok:s.Ok) {g:List Nat} (hg:Low g) (hlen:g.length<=65536):let r:=RolC.step s.spec (.read (by8 g)); r.1=(mread s g).1.spec/\zBh r.2=(mread s g).2/\(mread s g).1.Ok:=by
 intro r
 have e:r=(let z:=Rol.readIn s.spec.strips (by8 g); ({ s.spec with strips:=z.1 },z.2)):=rfl
 unfold Rol.readIn at e
 rw [if_neg (show ¬ Rol.TEXT<(by8 g).length by show ¬ 65536<(by8 g).length; rw [show (by8 g).length=g.length from List.length_map ..]; omega),read_eq hg] at e
 unfold mread
 cases q:readM g with
 | error k=>
  rw [q] at e
  rw [e]
  exact ⟨rfl,rfl,ok⟩
 | ok x=>
  rw [q] at e
  simp only at e ⊢
  obtain ⟨k1,k2,k3,k4⟩:=zMb ok (zNc q)
  rw [e]
  refine ⟨?_,k2,k3⟩
  show ({ s.spec with strips:=(Rol.kept s.spec.strips x.spec).1 }:RolC.State)=_
  rw [k1]
  unfold St.spec
  simp only
  rw [k4]
theorem zGK {s:St} (ok:s.Ok) (i:Nat):let r:=RolC.step s.spec (.text i); r.1=s.spec/\zBh r.2=mtext s i:=by
 refine ⟨rfl,?_⟩
 show zBh (Rol.ofStrip s.spec.strips i fun x=>Rol.writes x.text)=_
 rw [zFp]
 unfold mtext
 cases q:s.strips[i]? with
 | none=>rfl
 | some x=>
  have hx:=ok.all x (List.mem_of_getElem? q)
  have ht:=text_eq hx
  show zBh (Rol.writes x.spec.text)=_
  unfold zBh Rol.writes row inz
  simp only
  rw [<- ht,List.map_map,List.length_map]
  rfl
theorem zJA {s:St} (ok:s.Ok) (a b c d:Nat):let r:=RolC.step s.spec (.paper a b c d); r.1=(mpaper s ⟨a,b,c,d⟩).1.spec/\zBh r.2=(mpaper s ⟨a,b,c,d⟩).2/\(mpaper s ⟨a,b,c,d⟩).1.Ok:=by
 intro r
 have e:r=if (⟨a,b,c,d⟩:Paper).ok=true then ({ s.spec with paper:=some ⟨a,b,c,d⟩ },Rol.says 0) else (s.spec,Rol.says (-1)):=rfl
 unfold mpaper
 by_cases h:(⟨a,b,c,d⟩:Paper).ok=true
 ·rw [if_pos h] at e ⊢
  rw [e]
  refine ⟨rfl,rfl,ok.all,ok.few,fun p hp=>?_⟩
  cases hp
  exact (paperOk_iff _).mp h
 ·rw [if_neg h] at e ⊢
  rw [e]
  exact ⟨rfl,rfl,ok⟩
theorem zHF {s:St} (i:Nat) (f:Paper->Rol.Strip->Rol.Ans):zBh (RolC.ofPaper s.spec fun p=>Rol.ofStrip s.spec.strips i (f p))=mwith s i fun p x=>zBh (f p x.spec):=by
 unfold RolC.ofPaper mwith
 show zBh (match s.paper with | none=>_ | some p=>_)=_
 cases s.paper with
 | none=>rfl
 | some p=>
  simp only
  rw [zFp]
  cases s.strips[i]? <;> rfl
theorem zCP {s:St} (ok:s.Ok) {i:Nat} {f f':Paper->Strip->List Int} (h:∀ p x,PaperOk p->x.Ok->f p x=f' p x):mwith s i f=mwith s i f':=by
 unfold mwith
 cases e:s.paper with
 | none=>rfl
 | some p=>
  simp only
  cases q:s.strips[i]? with
  | none=>rfl
  | some x=>exact h p x (ok.pap p e) (ok.all x (List.mem_of_getElem? q))
theorem zFt {s:St} (ok:s.Ok) (i:Nat):let r:=RolC.step s.spec (.judge i); r.1=s.spec/\zBh r.2=mwith s i mjudge:=by
 refine ⟨rfl,?_⟩
 refine (zHF i _).trans (zCP ok fun p x hp hx=>?_)
 rw [judged hx hp.l1]
 unfold mjudge judgeL
 cases firstWrong p 0 (fun _=>none) (fun _=>none) x.runs <;> rfl
theorem zKC {p:Paper} {x:Strip} (hx:x.Ok) (j:Nat):(List.range x.spec.wide).filter (x.spec.sounds p.tail j)=soundL p x j:=
 zKB hx p.tail j (upOf_up _ _) fun _=>mem_upOf fun _ h=>gathered_low hx.all h
theorem zEv {s:St} (ok:s.Ok) (i j:Nat):let r:=RolC.step s.spec (.sounds i j); r.1=s.spec/\zBh r.2=mwith s i fun p x=>row 0 (soundL p x j) []:=by
 refine ⟨rfl,?_⟩
 refine (zHF i _).trans (zCP ok fun p x hp hx=>?_)
 rw [zKC hx]
 rfl
theorem zFg {s:St} (ok:s.Ok) (i:Nat):let r:=RolC.step s.spec (.tones i); r.1=s.spec/\zBh r.2=mwith s i mtones:=by
 refine ⟨rfl,?_⟩
 refine (zHF i _).trans (zCP ok fun p x hp hx=>?_)
 rw [zJx hx]
 unfold mtones tonesL flat3
 rw [List.length_map,List.flatMap_map]
 rfl
theorem zFC {s:St} (n:Nat):let r:=RolC.step s.spec (.chain n); r.1=s.spec/\zBh r.2=mchain s n:=by
 refine ⟨rfl,?_⟩
 show zBh (RolC.ofPaper s.spec fun p=>if Rol.ROWS+15<n then Rol.says (-1) else match Rol.chain p ⟨0,0,n⟩ with
  | some l=>Rol.tells (l.length:Int) (l.flatMap fun (a:Rol.Slot)=>[a.first,a.len])
  | none=>Rol.says (-3))=_
 unfold RolC.ofPaper mchain
 show zBh (match s.paper with | none=>_ | some p=>_)=_
 cases s.paper with
 | none=>rfl
 | some p=>
  simp only
  by_cases h:271<n
  ·rw [if_pos h,if_pos (show Rol.ROWS+15<n from h)]
   rfl
  ·rw [if_neg h,if_neg (show ¬ Rol.ROWS+15<n from h),zGu]
   simp only [Nat.sub_zero,Nat.zero_add]
   by_cases hs:slotsOf p n=[]
   ·rw [if_pos hs,if_pos (Or.inr hs)]
    rfl
   ·rw [if_neg hs,if_neg]
    ·simp only [List.length_map,List.flatMap_map]
     rfl
    ·rintro (q | q)
     ·exact hs (slots_none q)
     ·exact hs q
theorem zNX {s:St} (ok:s.Ok) (w n:Nat) (l:List T3):let r:=RolC.step s.spec (.cut w n (l.map zAy)); r.1=(mcut s w n l).1.spec/\zBh r.2=(mcut s w n l).2/\(mcut s w n l).1.Ok:=by
 intro r
 have e:r=match s.paper with
  | none=>(s.spec,Rol.says (-8))
  | some p=>if Rol.widthOk w=false\/Rol.ROWS<n\/RolC.TONES<(l.map zAy).length then (s.spec,Rol.says (-1)) else match Rol.badTone n w p 0 [] (l.map zAy) with
   | some i=>(s.spec,Rol.tells (-3) [i])
   | none=>match (Rol.cut n w p (l.map zAy)).wrong p with
    | some x=>(s.spec,Rol.tells (-9) [x.1,x.2.1,x.2.2])
    | none=>let r:=Rol.kept s.spec.strips (Rol.cut n w p (l.map zAy))
     ({ s.spec with strips:=r.1 },r.2):=rfl
 unfold mcut
 cases hp:s.paper with
 | none=>
  rw [hp] at e
  rw [e]
  exact ⟨rfl,rfl,ok⟩
 | some p=>
  rw [hp] at e
  simp only at e ⊢
  have hpo:=ok.pap p hp
  have hc:(Rol.widthOk w=false\/Rol.ROWS<n\/RolC.TONES<(l.map zAy).length)↔(w<1\/128<w\/256<n\/512<l.length):=by
   unfold Rol.widthOk
   rw [List.length_map]
   show _\/256<n\/512<l.length↔_
   have:((decide (1<=w)&&decide (w<=Rol.TRACKS))=false)↔(w<1\/128<w):=by
    rw [Bool.and_eq_false_iff,decide_eq_false_iff_not,decide_eq_false_iff_not]
    show _\/¬ w<=128↔_
    omega
   rw [this]
   omega
  by_cases h:w<1\/128<w\/256<n\/512<l.length
  ·rw [if_pos h]
   rw [if_pos (hc.mpr h)] at e
   rw [e]
   exact ⟨rfl,rfl,ok⟩
  ·rw [if_neg h]
   rw [if_neg (fun q=>h (hc.mp q)),zNU] at e
   cases hf:faultFrom n w p 0 none (fun _=>none) l with
   | some i=>
    rw [hf] at e
    rw [e]
    exact ⟨rfl,rfl,ok⟩
   | none=>
    rw [hf] at e
    simp only at e ⊢
    obtain ⟨co,cs⟩:=cutStrip_ok hpo.l1 (by omega) (by omega) (by omega) hf
    rw [<- cs,judged co hpo.l1] at e
    change r=match (judgeL p (cutStrip n w p l)).map turn with | some x=>_ | none=>_ at e
    cases hj:judgeL p (cutStrip n w p l) with
    | some z=>
     rw [hj] at e
     rw [e]
     exact ⟨rfl,rfl,ok⟩
    | none=>
     rw [hj] at e
     simp only [Option.map_none] at e ⊢
     obtain ⟨k1,k2,k3,k4⟩:=zMb ok co
     rw [e]
     refine ⟨?_,k2,k3⟩
     show ({ s.spec with strips:=(Rol.kept s.spec.strips (cutStrip n w p l).spec).1 }:RolC.State)=_
     rw [k1]
     unfold St.spec
     simp only
     rw [k4]
end RC
end
section
namespace RC
open Rol (Paper Row)
inductive Call where
 | read (g:List Nat)
 | text (i:Nat)
 | paper (p:Paper)
 | judge (i:Nat)
 | sounds (i j:Nat)
 | tones (i:Nat)
 | chain (n:Nat)
 | cut (w n:Nat) (l:List T3)
def T3Ok (x:T3):Prop:=x.1<=4294967295/\x.2.1<=4294967295/\x.2.2<=4294967295
noncomputable def Call.Ok:Call->Prop
 | .read g=>Low g
 | .text i=>i<=4294967295
 | .paper p=>p.tail<=4294967295/\p.longest<=4294967295/\p.bridge<=4294967295/\p.near<=4294967295
 | .judge i=>i<=4294967295
 | .sounds i j=>i<=4294967295/\j<=4294967295
 | .tones i=>i<=4294967295
 | .chain n=>n<=4294967295
 | .cut w n l=>w<=4294967295/\n<=4294967295/\∀ x∈l,T3Ok x
noncomputable def Call.flat:Call->List Int
 | .read g=>1::(g.length:Int)::inz g
 | .text i=>[2,(i:Int)]
 | .paper p=>[3,(p.tail:Int),(p.longest:Int),(p.bridge:Int),(p.near:Int)]
 | .judge i=>[4,(i:Int)]
 | .sounds i j=>[5,(i:Int),(j:Int)]
 | .tones i=>[6,(i:Int)]
 | .chain n=>[7,(n:Int)]
 | .cut w n l=>8::(w:Int)::(n:Int)::((flat3 l).length:Int)::inz (flat3 l)
noncomputable def Call.spec:Call->RolC.Call
 | .read g=>.read (by8 g)
 | .text i=>.text i
 | .paper p=>.paper p.tail p.longest p.bridge p.near
 | .judge i=>.judge i
 | .sounds i j=>.sounds i j
 | .tones i=>.tones i
 | .chain n=>.chain n
 | .cut w n l=>.cut w n (l.map zAy)
noncomputable def mstep (s:St):Call->St×List Int
 | .read g=>mread s g
 | .text i=>(s,mtext s i)
 | .paper p=>mpaper s p
 | .judge i=>(s,mwith s i mjudge)
 | .sounds i j=>(s,mwith s i fun p x=>row 0 (soundL p x j) [])
 | .tones i=>(s,mwith s i mtones)
 | .chain n=>(s,mchain s n)
 | .cut w n l=>mcut s w n l
theorem step_spec {s:St} (ok:s.Ok) {c:Call} (hc:c.Ok) (hlen:c.flat.length<=60000):let r:=RolC.step s.spec c.spec; r.1=(mstep s c).1.spec/\zBh r.2=(mstep s c).2/\(mstep s c).1.Ok:=by
 cases c with
 | read g=>exact zLf ok hc (by
   have:g.length+2<=60000:=by simpa [Call.flat,inz] using hlen
   omega)
 | text i=>exact ⟨(zGK ok i).1,(zGK ok i).2,ok⟩
 | paper p=>exact zJA ok p.tail p.longest p.bridge p.near
 | judge i=>exact ⟨(zFt ok i).1,(zFt ok i).2,ok⟩
 | sounds i j=>exact ⟨(zEv ok i j).1,(zEv ok i j).2,ok⟩
 | tones i=>exact ⟨(zFg ok i).1,(zFg ok i).2,ok⟩
 | chain n=>exact ⟨(zFC n).1,(zFC n).2,ok⟩
 | cut w n l=>exact zNX ok w n l
noncomputable def mplay (s:St):List Call->List (List Int)
 | []=>[]
 | c::r=>(mstep s c).2::mplay (mstep s c).1 r
theorem ints_of {l:List Int} (h:∀ z∈l,0<=z):inz (l.map Int.toNat)=l:=by
 unfold inz
 rw [List.map_map]
 conv=>rhs; rw [<- List.map_id l]
 refine List.map_congr_left fun z hz=>?_
 have:=h z hz
 show ((z.toNat:Nat):Int)=z
 omega
theorem ints_length (l:List Nat):(inz l).length=l.length:=List.length_map ..
theorem zKj:∀ (n:Nat) (l:List Nat),l.length=3*n->∃ ts:List T3,l=flat3 ts/\ts.length=n
 | 0,l,h=>⟨[],List.eq_nil_of_length_eq_zero (by omega),rfl⟩
 | n+1,l,h=>by
  match l,h with
  | a::b::c::r,h=>
   obtain ⟨ts,h1,h2⟩:=zKj n r (by simp only [List.length_cons] at h; omega)
   exact ⟨(a,b,c)::ts,by rw [h1]; rfl,by rw [List.length_cons,h2]⟩
  | [],h=>simp at h
  | [_],h=>simp at h; omega
  | [_,_],h=>simp at h; omega
theorem flat3_length:∀ (l:List T3),(flat3 l).length=3*l.length
 | []=>rfl
 | x::l=>by
  show ([x.1,x.2.1,x.2.2]++flat3 l).length=_
  simp only [List.length_append,List.length_cons,List.length_nil,flat3_length l]
  omega
theorem zHg:∀ (f:Nat) (ts:List T3),(flat3 ts).length<=f->(NLines.pieces 3 f (inz (flat3 ts))).map (fun (r:List Int)=>(⟨RolCNeutral.nat (r.getD 0 0),RolCNeutral.nat (r.getD 1 0),RolCNeutral.nat (r.getD 2 0)⟩:Rol.Tone))=ts.map zAy
 | 0,[],_=>rfl
 | 0,x::ts,h=>by rw [flat3_length,List.length_cons] at h; omega
 | f+1,[],_=>rfl
 | f+1,x::ts,h=>by
  have e:inz (flat3 (x::ts))=(x.1:Int)::(x.2.1:Int)::(x.2.2:Int)::inz (flat3 ts):=rfl
  rw [e,NLines.pieces,if_neg (by simp)]
  show (⟨_,_,_⟩:Rol.Tone)::(NLines.pieces 3 f (inz (flat3 ts))).map _=_
  rw [zHg f ts (by rw [flat3_length] at h ⊢; rw [List.length_cons] at h; omega)]
  rfl
theorem zEk {z:Int}:RolCNeutral.whole32 z=true↔0<=z/\z<=4294967295:=by
 unfold RolCNeutral.whole32
 rw [Bool.and_eq_true,decide_eq_true_eq,decide_eq_true_eq]
theorem zCb {z:Int} (h:RolCNeutral.whole32 z=true):∃ n:Nat,z=(n:Int)/\n<=4294967295/\RolCNeutral.nat z=n:=by
 have:=zEk.mp h
 exact ⟨z.toNat,by omega,by omega,rfl⟩
theorem zIM {r x t:List Int} (h:PyFlat.row r=some (x,t)):r=(x.length:Int)::(x++t):=by
 cases r with
 | nil=>cases h
 | cons n r=>
  have h:(if 0<=n/\n.toNat<=r.length then some (r.take n.toNat,r.drop n.toNat) else none)=some (x,t):=h
  by_cases hc:0<=n/\n.toNat<=r.length
  ·rw [if_pos hc] at h
   cases h
   rw [List.length_take,Nat.min_eq_left hc.2,List.take_append_drop,Int.toNat_of_nonneg hc.1]
  ·rw [if_neg hc] at h
   cases h
theorem zMA {l t:List Int} {c:List (List Int)} (h:PyFlat.call PyWqazbs.shape l=some (c,t)) (ha:RolCNeutral.asked1 (PyWqazbs.whole c)=true):
  ∃ mc:Call,mc.Ok/\l=mc.flat++t/\RolCNeutral.callOf (PyWqazbs.whole c)=some mc.spec:=by
 cases l with
 | nil=>cases h
 | cons p r=>
  unfold PyFlat.call at h
  unfold PyWqazbs.shape at h
  dsimp only at h
  have rows0:∀ (u:List Int),PyFlat.rows 0 u=some ([],u):=fun _=>rfl
  have rows1:∀ (u:List Int),PyFlat.rows 1 u=match PyFlat.row u with | none=>none | some (x,s)=>some ([x],s):=fun u=>by
   show (match PyFlat.row u with | none=>none | some (x,s)=>match PyFlat.rows 0 s with | none=>none | some (xs,t)=>some (x::xs,t))=_
   cases PyFlat.row u <;> rfl
  by_cases p1:p=1
  ·subst p1
   simp only [if_true] at h
   rw [if_neg (by omega),rows1] at h
   cases e:PyFlat.row (r.drop 0) with
   | none=>rw [e] at h; cases h
   | some y=>
    obtain ⟨x,s⟩:=y
    rw [e] at h
    simp only [List.take_zero,Option.some.injEq,Prod.mk.injEq] at h
    obtain ⟨rfl,rfl⟩:=h
    have er:=zIM e
    have ha':RolCNeutral.long x 66000 0 255=true:=ha
    unfold RolCNeutral.long at ha'
    rw [Bool.and_eq_true,List.all_eq_true] at ha'
    have hx:∀ z∈x,0<=z/\z<=255:=fun z hz=>by
     have:=ha'.2 z hz
     rw [Bool.and_eq_true,decide_eq_true_eq,decide_eq_true_eq] at this
     exact this
    have ex:=ints_of fun z hz=>(hx z hz).1
    refine ⟨.read (x.map Int.toNat),?_,?_,?_⟩
    ·intro c hc
     obtain ⟨z,hz,rfl⟩:=List.mem_map.mp hc
     have:=hx z hz
     omega
    ·show _=(1::((x.map Int.toNat).length:Int)::inz (x.map Int.toNat))++s
     rw [ex,List.length_map]
     rw [List.drop_zero] at er
     rw [er]
     rfl
    ·show some (RolC.Call.read (NLines.bytesOf x))=some (RolC.Call.read (by8 (x.map Int.toNat)))
     unfold NLines.bytesOf by8
     rw [List.map_map]
     rfl
  rw [if_neg p1] at h
  by_cases p2:p=2
  ·subst p2
   simp only [if_true] at h
   split at h
   ·cases h
   ·rename_i hl
    match r,hl with
    | a::r,_=>
     cases h
     obtain ⟨n,rfl,hn,en⟩:=zCb (show RolCNeutral.whole32 a=true from ha)
     exact ⟨.text n,hn,rfl,by show some (RolC.Call.text (RolCNeutral.nat _))=_; rw [en]; rfl⟩
    | [],hl=>simp at hl
  rw [if_neg p2] at h
  by_cases p3:p=3
  ·subst p3
   simp only [if_true] at h
   split at h
   ·cases h
   ·rename_i hl
    match r,hl with
    | a::b::c::d::r,_=>
     cases h
     have ha':(RolCNeutral.whole32 a&&RolCNeutral.whole32 b&&RolCNeutral.whole32 c&&RolCNeutral.whole32 d)=true:=ha
     simp only [Bool.and_eq_true] at ha'
     obtain ⟨na,rfl,ha1,ea⟩:=zCb ha'.1.1.1
     obtain ⟨nb,rfl,hb1,eb⟩:=zCb ha'.1.1.2
     obtain ⟨nc,rfl,hc1,ec⟩:=zCb ha'.1.2
     obtain ⟨nd,rfl,hd1,ed⟩:=zCb ha'.2
     exact ⟨.paper ⟨na,nb,nc,nd⟩,⟨ha1,hb1,hc1,hd1⟩,rfl,by show some (RolC.Call.paper (RolCNeutral.nat _) (RolCNeutral.nat _) (RolCNeutral.nat _) (RolCNeutral.nat _))=_; rw [ea,eb,ec,ed]; rfl⟩
    | [],hl=>simp at hl
    | [_],hl=>simp at hl
    | [_,_],hl=>simp at hl
    | [_,_,_],hl=>simp at hl
  rw [if_neg p3] at h
  by_cases p4:p=4
  ·subst p4
   simp only [if_true] at h
   split at h
   ·cases h
   ·rename_i hl
    match r,hl with
    | a::r,_=>
     cases h
     obtain ⟨n,rfl,hn,en⟩:=zCb (show RolCNeutral.whole32 a=true from ha)
     exact ⟨.judge n,hn,rfl,by show some (RolC.Call.judge (RolCNeutral.nat _))=_; rw [en]; rfl⟩
    | [],hl=>simp at hl
  rw [if_neg p4] at h
  by_cases p5:p=5
  ·subst p5
   simp only [if_true] at h
   split at h
   ·cases h
   ·rename_i hl
    match r,hl with
    | a::b::r,_=>
     cases h
     have ha':(RolCNeutral.whole32 a&&RolCNeutral.whole32 b)=true:=ha
     rw [Bool.and_eq_true] at ha'
     obtain ⟨n,rfl,hn,en⟩:=zCb ha'.1
     obtain ⟨m,rfl,hm,em⟩:=zCb ha'.2
     exact ⟨.sounds n m,⟨hn,hm⟩,rfl,by show some (RolC.Call.sounds (RolCNeutral.nat _) (RolCNeutral.nat _))=_; rw [en,em]; rfl⟩
    | [],hl=>simp at hl
    | [_],hl=>simp at hl
  rw [if_neg p5] at h
  by_cases p6:p=6
  ·subst p6
   simp only [if_true] at h
   split at h
   ·cases h
   ·rename_i hl
    match r,hl with
    | a::r,_=>
     cases h
     obtain ⟨n,rfl,hn,en⟩:=zCb (show RolCNeutral.whole32 a=true from ha)
     exact ⟨.tones n,hn,rfl,by show some (RolC.Call.tones (RolCNeutral.nat _))=_; rw [en]; rfl⟩
    | [],hl=>simp at hl
  rw [if_neg p6] at h
  by_cases p7:p=7
  ·subst p7
   simp only [if_true] at h
   split at h
   ·cases h
   ·rename_i hl
    match r,hl with
    | a::r,_=>
     cases h
     obtain ⟨n,rfl,hn,en⟩:=zCb (show RolCNeutral.whole32 a=true from ha)
     exact ⟨.chain n,hn,rfl,by show some (RolC.Call.chain (RolCNeutral.nat _))=_; rw [en]; rfl⟩
    | [],hl=>simp at hl
  rw [if_neg p7] at h
  by_cases p8:p=8
  ·subst p8
   simp only [if_true] at h
   split at h
   ·cases h
   ·rename_i hl
    match r,hl with
    | a::b::r,_=>
     rw [rows1] at h
     cases e:PyFlat.row ((a::b::r).drop 2) with
     | none=>rw [e] at h; cases h
     | some y=>
      obtain ⟨x,s⟩:=y
      rw [e] at h
      cases h
      have er:=zIM e
      have ha':(RolCNeutral.whole32 a&&RolCNeutral.whole32 b&&decide (x.length<=3000)&&x.all RolCNeutral.whole32&&decide (x.length % 3=0))=true:=ha
      simp only [Bool.and_eq_true,decide_eq_true_eq,List.all_eq_true] at ha'
      obtain ⟨n,rfl,hn,en⟩:=zCb ha'.1.1.1.1
      obtain ⟨m,rfl,hm,em⟩:=zCb ha'.1.1.1.2
      have hx:∀ z∈x,0<=z/\z<=4294967295:=fun z hz=>zEk.mp (ha'.1.2 z hz)
      have ex:=ints_of fun z hz=>(hx z hz).1
      obtain ⟨ts,et,elen⟩:=zKj (x.length / 3) (x.map Int.toNat) (by rw [List.length_map]; have:=ha'.2; omega)
      rw [et] at ex
      have hlow:∀ n∈flat3 ts,n<=4294967295:=fun n hn=>by
       rw [<- et] at hn
       obtain ⟨z,hz,rfl⟩:=List.mem_map.mp hn
       have:=hx z hz
       omega
      refine ⟨.cut n m ts,⟨hn,hm,fun y hy=>?_⟩,?_,?_⟩
      ·have hmem:∀ q∈[y.1,y.2.1,y.2.2],q<=4294967295:=fun q hq=>hlow q (List.mem_flatMap.mpr ⟨y,hy,hq⟩)
       exact ⟨hmem _ (by simp),hmem _ (by simp),hmem _ (by simp)⟩
      ·have er:r=(x.length:Int)::(x++t):=er
       rw [er]
       have el:x.length=(flat3 ts).length:=by rw [<- ex,ints_length]
       show 8::(n:Int)::(m:Int)::(x.length:Int)::(x++t)=8::(n:Int)::(m:Int)::((flat3 ts).length:Int)::(inz (flat3 ts)++t)
       rw [ex,el]
      ·show some (RolC.Call.cut (RolCNeutral.nat _) (RolCNeutral.nat _) ((NLines.inPieces 3 x).map _))=some (RolC.Call.cut n m (ts.map zAy))
       rw [en,em]
       unfold NLines.inPieces
       rw [<- ex,zHg _ ts (by rw [ints_length]; exact Nat.le_refl _)]
    | [],hl=>simp at hl
    | [_],hl=>simp at hl
  rw [if_neg p8] at h
  cases h
theorem zFD:∀ (f:Nat) (l:List Int) (cs:List (List (List Int))),PyFlat.calls PyWqazbs.shape f l=some cs->(∀ c∈cs,RolCNeutral.asked1 (PyWqazbs.whole c)=true)->
  ∃ ms:List Call,(∀ c∈ms,c.Ok)/\l=ms.flatMap Call.flat/\cs.map (fun c=>RolCNeutral.callOf (PyWqazbs.whole c))=ms.map fun m=>some m.spec
 | _,[],cs,h,_=>by
  have:cs=[]:=by
   unfold PyFlat.calls at h
   exact (Option.some.inj h).symm
  subst this
  exact ⟨[],(fun c hc=>by simp at hc),rfl,rfl⟩
 | 0,_::_,cs,h,_=>by cases h
 | f+1,p::r,cs,h,ha=>by
  rw [PyFlat.calls] at h
  cases e:PyFlat.call PyWqazbs.shape (p::r) with
  | none=>rw [e] at h; cases h
  | some y=>
   obtain ⟨c,t⟩:=y
   rw [e] at h
   simp only at h
   cases e2:PyFlat.calls PyWqazbs.shape f t with
   | none=>rw [e2] at h; cases h
   | some cs'=>
    rw [e2] at h
    cases h
    obtain ⟨mc,m1,m2,m3⟩:=zMA e (ha c List.mem_cons_self)
    obtain ⟨ms,i1,i2,i3⟩:=zFD f t cs' e2 fun x hx=>ha x (List.mem_cons_of_mem _ hx)
    refine ⟨mc::ms,fun x hx=>?_,?_,?_⟩
    ·rcases List.mem_cons.mp hx with rfl | hx
     ·exact m1
     ·exact i1 x hx
    ·rw [m2,List.flatMap_cons,i2]
    ·rw [List.map_cons,List.map_cons,m3,i3]
theorem zHd:∀ (cs:List (List (List Int))) (ms:List Call) (s:St),s.Ok->(∀ m∈ms,m.Ok/\m.flat.length<=60000)->(cs.map RolCNeutral.callOf=ms.map fun m=>some m.spec)->PyFlat.played RolCNeutral.step s.spec cs=mplay s ms/\RolCNeutral.play s.spec cs=mplay s ms
 | [],[],_,_,_,_=>⟨rfl,rfl⟩
 | [],_::_,_,_,_,h=>by cases h
 | _::_,[],_,_,_,h=>by cases h
 | c::cs,m::ms,s,ok,hm,h=>by
  rw [List.map_cons,List.map_cons] at h
  injection h with h1 h2
  obtain ⟨hm1,hm2⟩:=hm m List.mem_cons_self
  obtain ⟨s1,s2,s3⟩:=step_spec ok hm1 hm2
  have es:RolCNeutral.step s.spec c=((mstep s m).1.spec,(mstep s m).2):=by
   unfold RolCNeutral.step
   rw [h1]
   show (_,zBh _)=_
   rw [s2,s1]
  obtain ⟨i1,i2⟩:=zHd cs ms (mstep s m).1 s3 (fun x hx=>hm x (List.mem_cons_of_mem _ hx)) h2
  constructor
  ·show (RolCNeutral.step s.spec c).2::PyFlat.played RolCNeutral.step (RolCNeutral.step s.spec c).1 cs=_
   rw [es,i1]; rfl
  ·show (RolCNeutral.step s.spec c).2::RolCNeutral.play (RolCNeutral.step s.spec c).1 cs=_
   rw [es,i2]; rfl
theorem zEn:∀ (l:List (List Int)) (n:Nat),(PyFlat.told l).length+n<=l.foldl (fun (n:Nat) (a:List Int)=>n+RolCNeutral.sizeOf a) n+3*l.length
 | [],n=>by simp [PyFlat.told]
 | a::l,n=>by
  have ih:=zEn l (n+RolCNeutral.sizeOf a)
  have e:PyFlat.told (a::l)=((a.length:Int)::a)++PyFlat.told l:=rfl
  rw [e,List.foldl_cons,List.length_append,List.length_cons,List.length_cons]
  have:a.length<=RolCNeutral.sizeOf a+2:=by
   unfold RolCNeutral.sizeOf
   split <;> omega
  omega
theorem zDK:∀ (ms:List Call) (s:St),(mplay s ms).length=ms.length
 | [],_=>rfl
 | c::r,s=>by show (_::mplay _ r).length=_; rw [List.length_cons,zDK r,List.length_cons]
theorem due {l:List Int} (hlen:l.length<=30000) (ha:PyWqazbs.answers_asked l=true):
  ∃ ms:List Call,(∀ m∈ms,m.Ok)/\l=ms.flatMap Call.flat/\ms.length<=400/\PyWqazbs.answers l=PyFlat.told (mplay start ms)/\(PyFlat.told (mplay start ms)).length<=1001200:=by
 unfold PyWqazbs.answers_asked at ha
 unfold PyWqazbs.answers
 cases e:PyWqazbs.calls l with
 | none=>rw [e] at ha; cases ha
 | some cs=>
  rw [e] at ha
  simp only at ha
  unfold PyWqazbs.calls at e
  cases e2:PyFlat.calls PyWqazbs.shape l.length l with
  | none=>rw [e2] at e; cases e
  | some cs0=>
   rw [e2] at e
   cases e
   unfold RolCNeutral.asked at ha
   simp only [Bool.and_eq_true,decide_eq_true_eq,List.all_eq_true] at ha
   obtain ⟨_,⟨⟨h1,h2⟩,h3⟩,h4⟩:=ha
   obtain ⟨ms,m1,m2,m3⟩:=zFD _ l cs0 e2 fun c hc=>h1 _ (List.mem_map.mpr ⟨c,hc,rfl⟩)
   have hms:ms.length=cs0.length:=by
    have:=congrArg List.length m3
    rw [List.length_map,List.length_map] at this
    exact this.symm
   have hok:∀ m∈ms,m.Ok/\m.flat.length<=60000:=fun m hm=>⟨m1 m hm,by
    have:m.flat.length<=(ms.flatMap Call.flat).length:=by
     clear m1 m3 hms
     have aux:∀ (ms:List Call),m∈ms->m.flat.length<=(ms.flatMap Call.flat).length:=by
      intro ms
      induction ms with
      | nil=>intro q; simp at q
      | cons a r ih=>
       intro q
       rw [List.flatMap_cons,List.length_append]
       rcases List.mem_cons.mp q with rfl | q
       ·omega
       ·have:=ih q; omega
     exact aux ms hm
    rw [<- m2] at this
    omega⟩
   have hstart:start.Ok:=⟨(fun x hx=>by simp [start] at hx),by simp [start],fun p hp=>by simp [start] at hp⟩
   obtain ⟨p1,p2⟩:=zHd (cs0.map PyWqazbs.whole) ms start hstart hok (by rw [List.map_map]; exact m3)
   have es:start.spec=RolCNeutral.start:=rfl
   rw [es] at p1 p2
   rw [List.length_map] at h3
   refine ⟨ms,m1,m2,by omega,by rw [<- p1],?_⟩
   have:=zEn (mplay start ms) 0
   rw [zDK] at this
   rw [p2] at h4
   omega
end RC
end
section
namespace RB
open PySem PySem.Spec PyProof.Rows L2
open PySem.W (Codec)
noncomputable def top (i:Nat):Stmt:=PySem.Challenge.pw_rollcut_s01_answers.main.body.getD i (.Pass ⟨0,0,0,0⟩)
noncomputable abbrev zKV:Stmt:=top 1
noncomputable abbrev zHY:Stmt:=top 2
noncomputable abbrev zFZ:Stmt:=top 3
noncomputable abbrev sLaid:Stmt:=top 4
noncomputable abbrev sRunI:Stmt:=zAB (top 8) 0
noncomputable abbrev zHU:Stmt:=zAB (top 9) 0
noncomputable abbrev zHV:Stmt:=zAB (top 10) 0
noncomputable abbrev zKQ:Stmt:=zAB (top 11) 0
noncomputable abbrev zKT:Stmt:=top 13
noncomputable abbrev sFits:Stmt:=top 14
noncomputable abbrev zIa:Stmt:=top 15
noncomputable abbrev zCh:Stmt:=top 16
noncomputable abbrev zGc:Stmt:=top 17
noncomputable abbrev zHW:Stmt:=top 18
noncomputable abbrev zKO:Stmt:=top 23
noncomputable abbrev zKW:Stmt:=top 24
noncomputable abbrev sLong:Stmt:=top 25
noncomputable abbrev zKU:Stmt:=top 26
noncomputable abbrev sNear:Stmt:=top 27
noncomputable abbrev zEy:Stmt:=top 29
noncomputable abbrev zKP:Stmt:=top 30
noncomputable abbrev zCL:Stmt:=zAB (top 37) 0
noncomputable abbrev zGa:Stmt:=zAB (top 38) 0
noncomputable abbrev zKZ:Stmt:=zAB (top 38) 1
noncomputable abbrev sIsAt:Stmt:=zAB (top 38) 2
noncomputable abbrev zGb:Stmt:=zAB (top 38) 3
noncomputable abbrev sTake:Stmt:=zAB (top 38) 4
noncomputable abbrev zHX:Stmt:=zAB (top 38) 5
noncomputable abbrev sRead:Stmt:=top 39
noncomputable abbrev sRun:Stmt:=top 40
noncomputable abbrev zMX:Stmt:=top 41
noncomputable abbrev zMY:Stmt:=top 42
noncomputable abbrev zIf:Stmt:=top 55
noncomputable abbrev sTold:Stmt:=top 56
noncomputable abbrev zMZ:Stmt:=top 57
noncomputable abbrev zHZ:Stmt:=zAB (top 58) 0
noncomputable abbrev zKY:Stmt:=zAB (top 58) 1
noncomputable abbrev sKeep:Stmt:=zAB (top 58) 2
noncomputable abbrev zKX:Stmt:=zAB (top 58) 3
noncomputable abbrev zIc:Stmt:=zAB (top 58) 4
noncomputable abbrev zKR:Stmt:=zAB (top 58) 5
noncomputable abbrev zId:Stmt:=zAB (top 58) 6
noncomputable abbrev zGe:Stmt:=zAB (top 58) 7
noncomputable abbrev zIb:Stmt:=zAB (top 58) 8
noncomputable abbrev zIe:Stmt:=zAB (top 58) 9
noncomputable abbrev sBCut:Stmt:=zAB (top 58) 10
noncomputable abbrev zBV:Stmt:=top 69
noncomputable abbrev zGd:Stmt:=top 70
noncomputable abbrev zEz:Stmt:=top 71
end RB
namespace L2
open PySem PySem.Spec PyProof.Rows
theorem Same.new {H H1:Hp} {p:Addr} {o:HO} (s:Same H H1) (h:H1 p=none):Same H (upd H1 p o):=fun b u e=>by
 have q:=s b u e
 rw [uN (nN q h)]
 exact q
theorem Same.own {H H1:Hp} {p:Addr} {o:HO} (s:Same H H1) (h:H p=none):Same H (upd H1 p o):=fun b u e=>by
 rw [uN (nN e h)]
 exact s b u e
end L2
namespace RB
open PySem PySem.Spec PyProof.Rows L2
open PySem.W (Codec)
noncomputable def vi (n:Nat):V:=.int (n:Int)
noncomputable def vis (l:List Nat):List V:=l.map vi
theorem zAg (l:List Nat):(vis l).length=l.length:=List.length_map ..
theorem zAU (l m:List Nat):vis (l++m)=vis l++vis m:=List.map_append
theorem zBM {l:List Nat} {i:Nat} {v:V} (h:(vis l)[i]? = some v):∃ n,l[i]? = some n/\v=vi n:=by
 unfold vis at h
 rw [List.getElem?_map] at h
 cases e:l[i]? with
 | none=>rw [e] at h; cases h
 | some n=>rw [e] at h; exact ⟨n,rfl,(Option.some.inj h).symm⟩
theorem zGF {l:List Nat} {i n:Nat} (h:l[i]? = some n):(vis l)[i]? = some (vi n):=by
 unfold vis
 rw [List.getElem?_map,h]
 rfl
theorem zGG {a b:Nat} (h:vi a=vi b):a=b:=by
 unfold vi at h
 injection h with h
 omega
theorem zAl {α:Type}:∀ {l:List α} {i:Nat} {x:α},l[i]? = some x->l.take (i+1)=l.take i++[x]
 | [],i,x,h=>by simp at h
 | a::l,0,x,h=>by
  have e:a=x:=Option.some.inj h
  subst e
  rfl
 | a::l,i+1,x,h=>by
  have ih:=zAl (l:=l) (i:=i) (x:=x) h
  show a::l.take (i+1)=a::l.take i++[x]
  rw [ih]
  rfl
noncomputable def rec2 (a b:Str) (x y:V):List (Str×V):=putF b y (putF a x [])
noncomputable def rec3 (a b c:Str) (x y z:V):List (Str×V):=putF c z (rec2 a b x y)
noncomputable def rec4 (a b c d:Str) (x y z u:V):List (Str×V):=putF d u (rec3 a b c x y z)
section
variable {a b c d f:Str} {x y z u v:V}
theorem zHc (h:a≠b):(rec2 a b x y).lookup a=some x:=by
 unfold rec2
 rw [zAo,if_neg h,zAo,if_pos rfl]
theorem zHb:(rec2 a b x y).lookup b=some y:=by
 unfold rec2
 rw [zAo,if_pos rfl]
theorem zLe (h1:f≠a) (h2:f≠b):(rec2 a b x y).lookup f=none:=by
 unfold rec2
 rw [zAo,if_neg h2,zAo,if_neg h1]
 rfl
theorem zEC (h:a≠b):rec2 a b x y=[(a,x),(b,y)]:=by
 unfold rec2
 show (if a=b then _ else _)=_
 rw [if_neg h]
 rfl
theorem zHa (h:a≠b):putF a v (rec2 a b x y)=rec2 a b v y:=by
 rw [zEC h,zEC h]
 show (if a=a then _ else _)=_
 rw [if_pos rfl]
theorem zGZ (h:a≠b):putF b v (rec2 a b x y)=rec2 a b x v:=by
 rw [zEC h,zEC h]
 show (if a=b then _ else (a,x)::(if b=b then _ else _))=_
 rw [if_neg h,if_pos rfl]
theorem rec3_a (h1:a≠b) (h2:a≠c):(rec3 a b c x y z).lookup a=some x:=by
 unfold rec3
 rw [zAo,if_neg h2,zHc h1]
theorem rec3_b (h2:b≠c):(rec3 a b c x y z).lookup b=some y:=by
 unfold rec3
 rw [zAo,if_neg h2,zHb]
theorem rec3_c:(rec3 a b c x y z).lookup c=some z:=by
 unfold rec3
 rw [zAo,if_pos rfl]
theorem zLd (h1:a≠b) (h2:a≠c) (h3:b≠c):rec3 a b c x y z=[(a,x),(b,y),(c,z)]:=by
 unfold rec3
 rw [zEC h1]
 show (if a=c then _ else (a,x)::(if b=c then _ else _))=_
 rw [if_neg h2,if_neg h3]
 rfl
theorem zGY (h1:a≠b) (h2:a≠c) (h3:b≠c):putF c v (rec3 a b c x y z)=rec3 a b c x y v:=by
 rw [zLd h1 h2 h3,zLd h1 h2 h3]
 show (if a=c then _ else (a,x)::(if b=c then _ else (b,y)::(if c=c then _ else _)))=_
 rw [if_neg h2,if_neg h3,if_pos rfl]
theorem rec4_a (h1:a≠b) (h2:a≠c) (h3:a≠d):(rec4 a b c d x y z u).lookup a=some x:=by
 unfold rec4
 rw [zAo,if_neg h3,rec3_a h1 h2]
theorem rec4_b (h2:b≠c) (h3:b≠d):(rec4 a b c d x y z u).lookup b=some y:=by
 unfold rec4
 rw [zAo,if_neg h3,rec3_b h2]
theorem rec4_c (h3:c≠d):(rec4 a b c d x y z u).lookup c=some z:=by
 unfold rec4
 rw [zAo,if_neg h3,rec3_c]
theorem rec4_d:(rec4 a b c d x y z u).lookup d=some u:=by
 unfold rec4
 rw [zAo,if_pos rfl]
end
section
variable (P:Program) (w:World) (K:PySem.W.Frag) (mg:Str->Option Value) (base:Heap)
def GF (CX:CXT) (k:Nat) (x:Str) (ps:List Str) (sp:Sp):Prop:=∃ (f:Addr) (fd:FuncData),FnOk P w K mg base CX k f fd ps sp/\mg x=some (.ref f)/\PySem.W.keepIn K (.ref f)=true/\zBG K fd ps []
def GM (CX:CXT) (k:Nat) (C:Addr) (m:Str) (ps:List Str) (sp:Sp):Prop:=∃ (f:Addr) (fd:FuncData),FnOk P w K mg base CX k f fd ps sp/\Meth K C m f/\zBG K fd ps []
def GC (k:Nat) (x:Str) (C:Addr) (ps:List Str) (sp:Sp):Prop:=∃ (f:Addr) (fd:FuncData),FnOk P w K mg base CX0 k f fd ps sp/\mg x=some (.ref C)/\Mk K C f/\zBG K fd ps []
end
section
variable {X:Cx} {CX:CXT} {k:Nat} {C:Addr} {x m:Str} {ps:List Str} {sp:Sp} {E:XK} {p pos apos:Pos} {e o:Expr} {es:List Expr} {ta:TE} {t:TA}
theorem cG (g:GF X.prog X.w X.K X.mg X.base CX k x ps sp) (hr:Room k X.A) (hx:zBL CX X E) (ha:PA X (e::es) t) (hg:Gl X x:=by rfl) (hdb:(x==("__debug__" : Str))=false:=by decide)
  (he:starEach (e::es) X.env=(false,eval e X.env)::starEach es X.env:=by rfl) (hpl:(backTo pos (starEach es X.env)).any (·.1)=false:=by rfl):
  PE X (.Call (.Name x p) (e::es) [] pos) (tCall sp [] E t):=by
 obtain ⟨f,fd,h1,h2,h3,h4⟩:=g
 exact pe_call h1 hr hg h2 h3 h4 .nil hx ha hdb he hpl
theorem zAp {pl:Sem Bool} (c:Cls X.K C) (g:GM X.prog X.w X.K X.mg X.base CX k C m ps sp) (ho:PE X o ta) (hr:Room k X.A) (hx:zBL CX X E) (ha:PA X (e::es) t)
  (hst:starEach (e::es) X.env=(false,eval e X.env)::starEach es X.env:=by rfl) (hpl:(backTo pos (starEach es X.env)).any (·.1)=false:=by rfl)
  (ht:eval (.Call (.Attribute o m apos) (e::es) [] pos) X.env=(do
   let ov <- eval o X.env
   standAt apos.atName
   let (f,first) <- holding [ov] (getMethod ov m pl)
   callWith pos f first (backTo pos (starEach (e::es) X.env)) (backToKw pos (keywordEach [] X.env))):=by rfl):
  PE X (.Call (.Attribute o m apos) (e::es) [] pos) (zKp C m sp [] E ta t):=by
 obtain ⟨f,fd,h1,h2,h3⟩:=g
 exact pe_meth ho c h2 h1 hr h3 .nil hx ha hst hpl ht
theorem zDf {pl:Sem Bool} (c:Cls X.K C) (g:GM X.prog X.w X.K X.mg X.base CX k C m ps sp) (ho:PE X o ta) (hr:Room k X.A) (hx:zBL CX X E)
  (ht:eval (.Call (.Attribute o m apos) [] [] pos) X.env=(do
   let ov <- eval o X.env
   standAt apos.atName
   let (f,first) <- holding [ov] (getMethod ov m pl)
   callWith pos f first (backTo pos (starEach [] X.env)) (backToKw pos (keywordEach [] X.env))):=by rfl):
  PE X (.Call (.Attribute o m apos) [] [] pos) (zKp C m sp [] E ta tNil):=by
 obtain ⟨f,fd,h1,h2,h3⟩:=g
 exact zNm ho c h2 h1 hr h3 .nil hx ht
theorem zBJ (g:GC X.prog X.w X.K X.mg X.base k x C ps sp) (hr:Room (k+1) X.A) (ha:PA X (e::es) t) (hg:Gl X x:=by rfl) (hdb:(x==("__debug__" : Str))=false:=by decide)
  (he:starEach (e::es) X.env=(false,eval e X.env)::starEach es X.env:=by rfl) (hpl:(backTo pos (starEach es X.env)).any (·.1)=false:=by rfl):
  PE X (.Call (.Name x p) (e::es) [] pos) (zJy C sp [] E0 t):=by
 obtain ⟨f,fd,h1,h2,h3,h4⟩:=g
 exact pe_make h3 h1 hr hg h2 h4 .nil zAh ha hdb he hpl
theorem zLp (g:GC X.prog X.w X.K X.mg X.base k x C ps sp) (hr:Room (k+1) X.A) (hg:Gl X x:=by rfl) (hdb:(x==("__debug__" : Str))=false:=by decide):
  PE X (.Call (.Name x p) [] [] pos) (zJy C sp [] E0 tNil):=by
 obtain ⟨f,fd,h1,h2,h3,h4⟩:=g
 exact zNn h3 h1 hr hg h2 h4 .nil zAh hdb
def GI (mg:Str->Option Value) (x:Str) (n:Int):Prop:=∃ u,mg x=some u/\RelV (.int n) u
theorem zAG {n:Int} (g:GI X.mg x n) (hg:Gl X x:=by rfl) (hd:(x==("__debug__" : Str))=false:=by decide):PE X (.Name x pos) (tC (.int n)):=by
 obtain ⟨u,h1,h2⟩:=g
 exact zGh hg h1 h2 hd
end
end RB
end
section
namespace RB
open PySem PySem.Spec PyProof.Rows L2
structure Cl (K:PySem.W.Frag) (C:Addr) (fs:List Str):Prop where
 cl:Cls K C
 no:∀ f∈fs,zDU K C f
section
variable {P:Program} {w:World} {K:PySem.W.Frag} {mg:Str->Option Value} {base:Heap}
noncomputable def spI2 (C:Addr) (a b:Str):Sp:=fun vs H Q _=>∃ (p dx:Addr) (x y:V),vs=[.ref p,x,y]/\H p=some (.ins C dx [])/\Q .non (upd H p (.ins C dx (rec2 a b x y)))
noncomputable def spI3 (C:Addr) (a b c:Str):Sp:=fun vs H Q _=>∃ (p dx:Addr) (x y z:V),vs=[.ref p,x,y,z]/\H p=some (.ins C dx [])/\Q .non (upd H p (.ins C dx (rec3 a b c x y z)))
noncomputable def spI4 (C:Addr) (a b c d:Str):Sp:=fun vs H Q _=>∃ (p dx:Addr) (x y z u:V),vs=[.ref p,x,y,z,u]/\H p=some (.ins C dx [])/\Q .non (upd H p (.ins C dx (rec4 a b c d x y z u)))
theorem scRunI:zAc ["self","rows","tracks"] ["self","rows","tracks"] (zAa sRunI):=⟨rfl,rfl,rfl,by decide +kernel,rfl,by decide +kernel,by decide +kernel⟩
theorem ok_runI {f C:Addr} {fd:FuncData} (F:Fun K "__init__" "Run.__init__" sRunI f fd) (T:Cl K C ["rows","tracks"]):FnOk P w K mg base CX0 1 f fd ["self","rows","tracks"] (spI2 C "rows" "tracks"):=by
 refine F.ok scRunI (fun vs H Q E h=>?_) (fun cdv A outer s H vs Q E hr h=>?_)
 ·obtain ⟨p,dx,x,y,rfl,_⟩:=h
  rfl
 ·obtain ⟨p,dx,x,y,rfl,hp,k⟩:=h
  refine ⟨_,pC (zBt (pv 0) (pv 1) rfl) (pO (zBt (pv 0) (pv 2) rfl)),?_⟩
  refine ⟨_,rfl,_,rfl,p,C,dx,[],rfl,hp,T.cl,T.no _ (by simp),(by show 0<1000; decide),?_⟩
  refine ⟨_,rfl,_,rfl,p,C,dx,_,rfl,uS,T.cl,T.no _ (by simp),(by show 1<1000; decide),?_⟩
  rw [zAx]
  exact k
end
end RB
end
section
namespace RX
open PySem PySem.Spec PyProof.Rows
def Lit (h:Heap) (x:Addr) (vs:Array Value) (T:Option Addr):Prop:=match T with
 | none=>vs[1]? = some .none
 | some t=>vs[1]? = some (.ref t)/\t≠x/\∃ oT ts,h.get? t=some oT/\oT.data = .fields ts/\ts[3]? = some .none
structure Gone (fs:List Addr) (x:Addr) (T0:Option Addr) (o:Obj) (h h':Heap):Prop where
 keep:∀ b u,b∉fs->b≠x->T0≠some b->h.get? b=some u->h'.get? b=some u
 slot:∀ b u,b≠x->T0≠some b->h.get? b=some u->∃ sl,h'.get? b=some { u with slots:=sl }
 exc:∃ o' vs' T,h'.get? x=some o'/\o'.cls=o.cls/\o'.dict=o.dict/\o'.data = .fields vs'/\Lit h' x vs' (some T)/\h.objs.size<=T
section
variable {M:Model} {A A':Around} {E E':Value->Shared->Prop} {s:Shared}
theorem zNW (o:Obj) (f:Array Value->Array Value):(o.mapFields f).dict=o.dict:=by
 obtain ⟨c,d,dt,sl⟩:=o
 cases dt <;> rfl
theorem zHt {base:Heap} {env:Env} {outer:List Env} {L x:Addr} {o:Obj} {vs:Array Value} {head:Value} {hn:Bool} {Q:Unit->Shared->Prop}
  (hfr:A.frames=some (env::outer)) (hl:s.heap.FunFrames base (env::outer)) (hf:env.frame=some L) (hx:s.heap.get? x=some o) (hd:o.data = .fields vs) (hsz:1<vs.size)
  (h:∀ h',Gone ((env::outer).filterMap (·.frame)) x none o s.heap h'->Q () { s with heap:=h' }):
  wpAny M A (do
   let a <- frameOf env
   let pl <- entryPlaceOf L hn
   let b <- EntryCells.newEntry head a .none (rawInt L) .none pl
   setField (.ref x) 1 b) (fun _ s'=>wpAny M A' (setFlight (.ref x) none) Q E' s') E s:=by
 have nx:x∉(env::outer).filterMap (·.frame):=fun m=>by
  obtain ⟨_,u,e1,e2⟩:=hl.mem m
  have:u=o:=Option.some.inj (e1.symm.trans hx)
  subst this
  exact e2 vs hd
 refine wpAny_bind (wpAny_frameOf_fun hfr hl hf fun g hg=>wpAny_bind (wpAny_entryPlaceOf fun pl hpl=>?_))
 unfold EntryCells.newEntry newFields
 refine wpAny_bind (wpAny_newObj_type ?_ (hpl.sizeOk5 ..))
 generalize hW:([head,Value.ref L,Value.none,rawInt L,Value.none]++(if pl.isEmpty=true then List.replicate 6 Value.none else pl)).toArray=W
 have W3:3<W.size:=by
  rw [<- hW]
  simp only [List.size_toArray,List.length_append,List.length_cons,List.length_nil]
  omega
 have xg:g.get? x=some o:=by rw [hg.2.1 x nx]; exact hx
 have xp:=Heap.get?_push_of_some (h:=g) { cls:=.type "traceback",dict:=none,data:=.fields W } xg
 refine wpAny_setField xp hd hsz ?_
 have ne1:g.objs.size≠x:=(Nat.ne_of_lt (Heap.lt_size xg)).symm
 have d1:=Obj.data_mapFields hd (·.setIfInBounds 1 (Value.ref g.objs.size))
 have xu:=Heap.get?_update_self (Obj.mapFields (·.setIfInBounds 1 (Value.ref g.objs.size))) xp (Obj.isFreed_of_fields d1)
 have tu:=(Heap.get?_update_other (g.push { cls:=.type "traceback",dict:=none,data:=.fields W }) (Obj.mapFields (·.setIfInBounds 1 (Value.ref g.objs.size))) ne1.symm).trans (Heap.get?_push_size g rfl)
 have v1:(vs.setIfInBounds 1 (Value.ref g.objs.size))[1]? = some (.ref g.objs.size):=by simp [hsz]
 unfold setFlight
 refine wpAny_bind (wpAny_field xu d1 v1 ?_)
 rw [if_pos (by simp:(Value.ref g.objs.size != Value.none)=true)]
 refine wpAny_setField tu rfl W3 (h _ ?_)
 have old:∀ b u,b≠x->g.get? b=some u->((((g.push { cls:=.type "traceback",dict:=none,data:=.fields W }).update x (Obj.mapFields (·.setIfInBounds 1 (Value.ref g.objs.size)))).update g.objs.size
   (Obj.mapFields (·.setIfInBounds 3 ((none:Option Addr).elim Value.none fun f=>rawInt f)))).get? b=some u):=fun b u hb e=>by
  rw [Heap.get?_update_other _ _ (Nat.ne_of_lt (Heap.lt_size e)).symm,Heap.get?_update_other _ _ hb.symm]
  exact Heap.get?_push_of_some _ e
 refine ⟨fun b u hb hbx _ e=>old b u hbx (by rw [hg.2.1 b hb]; exact e),fun b u hbx _ e=>?_,?_⟩
 ·obtain ⟨sl,e'⟩:=hg.2.2 b u e
  exact ⟨sl,old b _ hbx e'⟩
 ·refine ⟨_,_,g.objs.size,?_,Obj.cls_mapFields _ _,zNW _ _,d1,⟨v1,ne1,_,_,Heap.get?_update_self _ tu (Obj.isFreed_of_fields (Obj.data_mapFields rfl _)),Obj.data_mapFields rfl _,?_⟩,?_⟩
  ·rw [Heap.get?_update_other _ _ ne1]
   exact xu
  ·simp [W3]
  ·rw [hg.1]; exact Nat.le_refl _
theorem zIX {base:Heap} {env:Env} {outer:List Env} {L x:Addr} {o:Obj} {vs:Array Value} {T0:Option Addr} {Q:Unit->Shared->Prop}
  (hfr:A.frames=some (env::outer)) (hl:s.heap.FunFrames base (env::outer)) (hf:env.frame=some L) (hx:s.heap.get? x=some o) (hd:o.data = .fields vs) (hT:Lit s.heap x vs T0)
  (h:∀ h',Gone ((env::outer).filterMap (·.frame)) x T0 o s.heap h'->Q () { s with heap:=h' }):
  wpAny M A (noteFrame (.ref x) env) (fun _ s'=>wpAny M A' (setFlight (.ref x) none) Q E' s') E s:=by
 unfold noteFrame
 simp only [hf]
 cases T0 with
 | none=>
  have hT:vs[1]? = some .none:=hT
  refine wpAny_bind (wpAny_field hx hd hT ?_)
  rw [if_neg (by decide)]
  exact zHt hfr hl hf hx hd (Array.getElem?_eq_some_iff.mp hT).1 h
 | some t=>
  obtain ⟨h1,hne,oT,ts,ht,hdt,h3⟩:=hT
  have sz3:3<ts.size:=(Array.getElem?_eq_some_iff.mp h3).1
  refine wpAny_bind (wpAny_field hx hd h1 ?_)
  rw [if_pos (by simp:(Value.ref t != Value.none)=true)]
  refine wpAny_bind (wpAny_field ht hdt h3 ?_)
  rw [if_neg (by simp [rawInt]:¬ (Value.none==rawInt L)=true)]
  refine wpAny_bind (wpAny_setField ht hdt sz3 ?_)
  have oth:∀ b,b≠t->(s.heap.update t (Obj.mapFields (·.setIfInBounds 3 Value.none))).get? b=s.heap.get? b:=fun b hb=>Heap.get?_update_other _ _ hb.symm
  have nf:∀ b u,s.heap.get? b=some u->(∀ vs,u.data ≠ .fields vs)->b≠t:=fun b u e hu q=>by
   subst q
   rw [ht] at e
   cases e
   exact hu ts hdt
  refine zHt hfr (hl.of_keeps fun b u e hu=>⟨u,by rw [oth b (nf b u e hu)]; exact e,rfl⟩) hf (by rw [oth x hne.symm]; exact hx) hd (Array.getElem?_eq_some_iff.mp h1).1 fun h' G=>h h' ?_
  refine ⟨fun b u hb hbx hbt e=>G.keep b u hb hbx (by simp) (by rw [oth b (fun q=>hbt (by rw [q]))]; exact e),fun b u hbx hbt e=>G.slot b u hbx (by simp) (by rw [oth b (fun q=>hbt (by rw [q]))]; exact e),?_⟩
  obtain ⟨o',vs',T,e1,e2,e3,e4,e5,e6⟩:=G.exc
  refine ⟨o',vs',T,e1,e2,e3,e4,e5,?_⟩
  rw [Heap.size_update] at e6
  exact e6
theorem zLS {base:Heap} {env:Env} {outer:List Env} {L x:Addr} {o:Obj} {vs:Array Value} {T0:Option Addr} {Q:Unit->Shared->Prop}
  (hfr:A.frames=some (env::outer)) (hl:s.heap.FunFrames base (env::outer)) (hf:env.frame=some L) (hx:s.heap.get? x=some o) (hd:o.data = .fields vs) (hT:Lit s.heap x vs T0)
  (h:∀ h',Gone ((env::outer).filterMap (·.frame)) x T0 o s.heap h'->Q () { s with heap:=h' }):wpAny M A (leaving env (.ref x)) Q E s:=by
 unfold leaving
 exact wpAny_bind (zIX hfr hl hf hx hd hT h)
end
end RX
end
section
namespace RX
open PySem PySem.Spec PyProof.Rows
open PySem.W (nsIn nsOkIn typeIn)
noncomputable abbrev excB:List Value:=[.type "Exception",.type "BaseException",.type "object"]
structure TF (K:PySem.W.Frag) (C N fI:Addr):Prop where
 obj:∃ nm q bs sn sub ab col dd k0 k1 k2 k3 k5,K.lookup C=some (excClassObj nm q C N bs excB true sn sub ab col dd k0 k1 k2 k3 k5 "Exception.__new__")
 ns:nsOkIn K N=true
 init:nsIn K N "__init__" = some (some (.ref fI))
 noPlace:nsIn K N "place" = some none
 noSet:nsIn K N "__setattr__" = some none
 noGet:nsIn K N "__getattribute__" = some none
 noGetattr:nsIn K N "__getattr__" = some none
 fn:typeIn K (.ref fI)=some (.type "function")
theorem ns_some {K:PySem.W.Frag} {h:Heap} {N:Addr} {mN:Str->Option Value} {n:Str} {v:Value} (X:K.In h) (G:h.Ns N mN) (e:nsIn K N n=some (some v)):mN n=some v:=by
 obtain ⟨o,es,ep,ho,hd,_,hf⟩:=G
 unfold nsIn at e
 split at e
 ·rename_i q
  have z:=X _ _ q
  rw [ho] at z
  cases z
  cases hd
  split at e
  ·rename_i he
   cases e
   rw [<- hf]
   unfold nsFind findBy
   rw [<- Array.find?_toList,he]
   rfl
  ·split at e <;> cases e
 ·cases e
section
variable {K:PySem.W.Frag} {C N fI:Addr} {h:Heap}
theorem TF.at (T:TF K C N fI) (X:K.In h):∃ nm q bs sn sub ab col dd k0 k1 k2 k3 k5 mN,h.get? C=some (excClassObj nm q C N bs excB true sn sub ab col dd k0 k1 k2 k3 k5 "Exception.__new__")/\h.Ns N mN/\mN "__init__" = some (.ref fI)/\
  mN "place" = none/\mN "__setattr__" = none/\mN "__getattribute__" = none/\mN "__getattr__" = none/\∃ oI,h.get? fI=some oI/\oI.cls = .type "function" := by
 obtain ⟨nm,q,bs,sn,sub,ab,col,dd,k0,k1,k2,k3,k5,e⟩:=T.obj
 have hn:h.Ns N (h.nsMap N):=.of_isNs (PySem.W.isNs_of_in X T.ns)
 refine ⟨nm,q,bs,sn,sub,ab,col,dd,k0,k1,k2,k3,k5,h.nsMap N,X _ _ e,hn,ns_some X hn T.init,PySem.W.ns_none_of X hn T.noPlace,PySem.W.ns_none_of X hn T.noSet,PySem.W.ns_none_of X hn T.noGet,PySem.W.ns_none_of X hn T.noGetattr,?_⟩
 have f:Option.map (fun u=>u.cls) (K.lookup fI)=some (.type "function"):=T.fn
 cases z:K.lookup fI with
 | none=>rw [z] at f; cases f
 | some oI=>
  rw [z] at f
  exact ⟨oI,X _ _ z,Option.some.inj f⟩
end
noncomputable abbrev zGr (C t:Addr):Obj:={ cls:=.ref C,data:=.fields #[.ref t,.none,.none,.none,.bool false,.none] }
noncomputable abbrev zIt (C t d:Addr):Obj:={ cls:=.ref C,dict:=some d,data:=.fields #[.ref t,.none,.none,.none,.bool false,.none] }
section
variable {M:Model} {A:Around} {E:Value->Shared->Prop} {env:Env}
variable {nm q:Str} {C N:Addr} {bs:List Value} {hdct:Bool} {sn:List Str} {sub:List Value} {ab:Bool} {col:Option Bool} {dd:Option Addr} {k0 k1 k2 k3 k5:Option Value} {newId:String}
theorem zLh {s:Shared} {x:Sem Value} {Q:Flow->Shared->Prop} (hh:A.handled=none)
  (h:wpAny M A x (fun v s1=>∃ e t d,v = .ref e/\s1.heap.get? C=some (excClassObj nm q C N bs excB hdct sn sub ab col dd k0 k1 k2 k3 k5 newId)/\s1.heap.get? e=some (zIt C t d)/\E (.ref e) s1) E s):
  wpAny M A (raiseStmt env (some x) none) Q E s:=by
 have hB:(Value.ref C::excB).contains (.type "BaseException")=true:=by
  rw [List.contains_cons]
  exact Bool.or_true _
 unfold raiseStmt
 refine wpAny_bind (wpAny_mono h (fun v s1 h1=>?_) fun _ _ z=>z)
 obtain ⟨e,t,d,rfl,hC,he,hE⟩:=h1
 obtain ⟨hp,g,dr,tk,os⟩:=s1
 repeat (first | with_reducible refine wpAny_loadPart_at he ?_ | with_reducible refine wpAny_loadPart_at hC ?_ | (with_reducible refine wpAny_isSubtype_exc hC ?_; rw [hB]) | wp_step)
 exact wpAny_raiseNew_none hh hE
end
end RX
end
section
namespace RX
open PySem PySem.Spec PyProof.Rows
open Builtin Builtin.ObjectAttr
section
variable {prog:Program} {w:World} {A:Around} {E:Value->Shared->Prop} {h:Heap} {g:Array GenState} {d:Drawn} {t:Nat} {os:OsState}
variable {nm q:Str} {C N x t0:Addr} {bs:List Value} {sn:List Str} {sub:List Value} {ab:Bool} {col:Option Bool} {dd:Option Addr} {k0 k1 k2 k3 k5:Option Value} {newId:String} {mN:Str->Option Value} {name:Str} {v:Value} {bm:List Value} {B sa owner:String}
theorem zLi {tk:Tok} {Q:Fin->Shared->Prop} (SF:StoreFacts B bm sa owner) (hC:h.get? C=some (excClassObj nm q C N bs bm true sn sub ab col dd k0 k1 k2 k3 k5 newId)) (hn:h.Ns N mN) (hna:mN name=none)
  (hB:typeLookup (.type B) name=pure none) (hx:h.get? x=some (zGr C t0))
  (hq:∀ h' tk',h'.Ns1 h.objs.size (fun y=>if y=name then some v else none)->h'.get? x=some (zIt C t0 h.objs.size)->(∀ b o,b≠x->h.get? b=some o->h'.get? b=some o)->Q (.done (.ret .none)) ⟨h',g,d,tk',os⟩):
  wpAny (model prog w) A (Builtin.«object.__setattr__» ⟨[.ref x,.str name tk,v],[]⟩) Q E ⟨h,g,d,t,os⟩:=by
 have pass:=SF.passes (.ref x)
 obtain ⟨o,hx0,hc,hdn,hnc,ho⟩:∃ o,h.get? x=some o/\o.cls = .ref C/\o.dict=none/\(∀ c,o.data ≠ .cls c)/\o=zGr C t0:=⟨_,hx,rfl,rfl,(fun c z=>by cases z),rfl⟩
 unfold Builtin.«object.__setattr__»
 repeat (first
  | rw [refuse_eq]
  | (rw [refuseLoop_ref,pass])
  | (with_reducible refine wpAny_loadPart_at hx0 ?_; rw [hc])
  | with_reducible refine wpAny_mroOf_exc hC ?_
  | (with_reducible refine wpAny_typeLookup_exc hC hn SF.mro hB ?_; rw [hna])
  | wp_step)
 rw [hdn,if_neg (by simp [typeHasDict])]
 split
 ·rename_i z
  cases z
 split
 ·rename_i c z
  exact absurd z (hnc c)
 subst ho
 have xp:(h.push { cls:=.type "dict",data:=.dict #[] }).get? x=some (zGr C t0):=Heap.get?_push_of_some _ hx
 have xs:x≠h.objs.size:=Nat.ne_of_lt (Heap.lt_size hx)
 refine wpAny_bind (wpAny_alloc' (wpAny_bind (wpAny_update' xp (wpAny_pure ?_))))
 have gd:((h.push { cls:=.type "dict",data:=.dict #[] }).update x fun o=>{ cls:=o.cls,dict:=some h.objs.size,data:=o.data,slots:=o.slots }).get? h.objs.size=some { cls:=.type "dict",data:=.dict #[] }:=
  (Heap.get?_update_ne _ _ _ _ xs.symm).trans (Heap.get?_push_at rfl rfl)
 have nd:((h.push { cls:=.type "dict",data:=.dict #[] }).update x fun o=>{ cls:=o.cls,dict:=some h.objs.size,data:=o.data,slots:=o.slots }).Ns h.objs.size (fun _=>none):=
  ⟨_,#[],_,gd,rfl,fun e he=>absurd he (by simp),fun _=>rfl⟩
 show wpAny _ _ (storeInDict h.objs.size (.str name tk) name v) _ _ _
 unfold storeInDict newKeyGuard
 refine wpAny_bind (wpAny_pure (wpAny_bind (wpAny_nsSet1 (Heap.Ns1.of_empty nd) fun h' hn' hs=>?_)))
 obtain ⟨oD,esD,epD,hoD,hdD,hcD⟩:=hn'.count (Within.cons name v Within.nil)
 refine wpAny_bind (wpAny_lookBehind hoD (by
  rw [hdD]
  exact pastItsLine_dict (Nat.le_trans hcD (by rw [List.length_cons,List.length_nil,sizeLine_eq]; omega))) ?_)
 wp_walk
 refine hq h' _ hn' ?_ fun b o hb e=>?_
 ·rw [hs.2 x xs]
  exact Heap.get?_update_self _ xp rfl
 ·rw [hs.2 b (Nat.ne_of_lt (Heap.lt_size e)),Heap.get?_update_ne _ _ _ _ hb]
  exact Heap.get?_push_of_some _ e
theorem zNf {tk:Tok} {R:Result->Shared->Prop} (SF:StoreFacts B bm sa owner) (hC:h.get? C=some (excClassObj nm q C N bs bm true sn sub ab col dd k0 k1 k2 k3 k5 newId)) (hn:h.Ns N mN) (hna:mN name=none)
  (hB:typeLookup (.type B) name=pure none) (hx:h.get? x=some (zGr C t0))
  (hq:∀ h' tk',h'.Ns1 h.objs.size (fun y=>if y=name then some v else none)->h'.get? x=some (zIt C t0 h.objs.size)->(∀ b o,b≠x->h.get? b=some o->h'.get? b=some o)->R (.ok (.ret .none)) ⟨h',g,d,tk',os⟩):
  codeAny (model prog w) A (.call (.builtin sa) ⟨[.ref x,.str name tk,v],[]⟩) R ⟨h,g,d,t,os⟩:=by
 have hc:(zGr C t0).cls = .ref C:=rfl
 exact codeAny_call_builtin SF.slot.plain SF.entry (wpAny_check_sa SF hC hx hc (zLi SF hC hn hna hB hx hq))
theorem zNg {Q:Unit->Shared->Prop} (SF:StoreFacts B bm sa owner) (hC:h.get? C=some (excClassObj nm q C N bs bm true sn sub ab col dd k0 k1 k2 k3 k5 newId)) (hn:h.Ns N mN) (hns:mN "__setattr__" = none) (hna:mN name=none)
  (hB:typeLookup (.type B) name=pure none) (hx:h.get? x=some (zGr C t0))
  (hq:∀ h' tk',h'.Ns1 h.objs.size (fun y=>if y=name then some v else none)->h'.get? x=some (zIt C t0 h.objs.size)->(∀ b o,b≠x->h.get? b=some o->h'.get? b=some o)->Q () ⟨h',g,d,tk',os⟩):
  wpAny (model prog w) A (setAttr (.ref x) name v) Q E ⟨h,g,d,t,os⟩:=by
 have bd:=SF.slot.bind (.ref x)
 obtain ⟨o,hx0,hc⟩:∃ o,h.get? x=some o/\o.cls = .ref C:=⟨_,hx,rfl⟩
 unfold setAttr callSpecial? specialOf
 repeat (any_goals (first
  | assumption
  | (with_reducible refine wpAny_loadPart_at hx0 ?_; rw [hc])
  | (with_reducible refine wpAny_typeLookup_exc hC hn SF.mro SF.slot.lookup ?_; rw [hns])
  | wp_step))
 refine zNf SF hC hn hna hB hx fun h' tk' a1 a2 a3=>?_
 repeat (any_goals (first | assumption | wp_step))
 exact hq h' tk' a1 a2 a3
end
theorem zIZ:typeLookup (.type "Exception") "place" = pure none:=by rw [typeLookup_type,builtinLookup_eq_fast]; kernel_rfl
end RX
end
section
namespace RX
open PySem PySem.Spec PyProof.Rows
open Builtin Builtin.ObjectAttr
section
variable {prog:Program} {w:World} {A:Around} {E:Value->Shared->Prop} {h:Heap} {g:Array GenState} {d:Drawn} {t:Nat} {os:OsState}
variable {nm q:Str} {C N x dx:Addr} {bs bm:List Value} {sn:List Str} {sub:List Value} {ab:Bool} {col:Option Bool} {dd:Option Addr} {k0 k1 k2 k3 k5:Option Value} {newId B:String} {mN mA:Str->Option Value} {name:Str} {v:Value} {o:Obj}
theorem zMp {tk:Tok} {Q:Fin->Shared->Prop} (FB:ExcAttrBase B bm) (hC:h.get? C=some (excClassObj nm q C N bs bm true sn sub ab col dd k0 k1 k2 k3 k5 newId)) (hn:h.Ns N mN) (hna:mN name=none)
  (hB:typeLookup (.type B) name=pure none) (hx:h.get? x=some o) (hc:o.cls = .ref C) (hnc:∀ c,o.data ≠ .cls c) (hdx:o.dict=some dx) (hA:h.Ns dx mA) (hv:mA name=some v) (hq:Q (.done (.ret v)) ⟨h,g,d,t,os⟩):
  wpAny (model prog w) A (Builtin.«object.__getattribute__» ⟨[.ref x,.str name tk],[]⟩) Q E ⟨h,g,d,t,os⟩:=by
 unfold Builtin.«object.__getattribute__»
 repeat (first
  | (with_reducible refine wpAny_loadPart_at hx ?_; rw [hc])
  | (with_reducible refine wpAny_typeLookup_exc hC hn FB.mro hB ?_; rw [hna])
  | wp_step)
 split
 ·rename_i c z
  exact absurd z (hnc c)
 unfold instanceDict
 repeat (first
  | (with_reducible refine wpAny_loadPart_at hx ?_; rw [hc])
  | with_reducible refine wpAny_loadPart_at hC ?_
  | wp_step)
 rw [hdx]
 repeat (first | (with_reducible refine wpAny_nsGet hA ?_; rw [hv]) | wp_step)
 exact hq
theorem zMq {M:Model} {nameV:Value} {Q:Unit->Shared->Prop} (FB:ExcAttrBase B bm) (hC:h.get? C=some (excClassObj nm q C N bs bm true sn sub ab col dd k0 k1 k2 k3 k5 newId))
  (hx:h.get? x=some o) (hc:o.cls = .ref C) (hq:Q () ⟨h,g,d,t,os⟩):wpAny M A (checkBuiltinCall "BaseException.__getattribute__" ⟨[.ref x,nameV],[]⟩) Q E ⟨h,g,d,t,os⟩:=by
 have e1:builtinKind "BaseException.__getattribute__" = some .slot:=by decide +kernel
 have e2:splitId "BaseException.__getattribute__" = some ("BaseException","__getattribute__"):=by decide +kernel
 have e3:(Value.ref C::bm).contains (.type "BaseException")=true:=by
  rw [List.contains_cons,FB.hasBase]
  exact Bool.or_true _
 have ha:=F.args_bexc_ga (.ref x) nameV
 simp only [checkBuiltinCall,e1,e2]
 refine wpAny_bind ?_
 unfold isInstance
 repeat (first
  | (with_reducible refine wpAny_loadPart_at hx ?_; rw [hc])
  | (with_reducible refine wpAny_isSubtype_exc hC ?_; rw [e3])
  | wp_step)
 exact hq
theorem zNO {tk:Tok} {R:Result->Shared->Prop} (FB:ExcAttrBase B bm) (hC:h.get? C=some (excClassObj nm q C N bs bm true sn sub ab col dd k0 k1 k2 k3 k5 newId)) (hn:h.Ns N mN) (hna:mN name=none)
  (hB:typeLookup (.type B) name=pure none) (hx:h.get? x=some o) (hc:o.cls = .ref C) (hnc:∀ c,o.data ≠ .cls c) (hdx:o.dict=some dx) (hA:h.Ns dx mA) (hv:mA name=some v) (hq:R (.ok (.ret v)) ⟨h,g,d,t,os⟩):
  codeAny (model prog w) A (.call (.builtin "BaseException.__getattribute__") ⟨[.ref x,.str name tk],[]⟩) R ⟨h,g,d,t,os⟩:=
 codeAny_call_builtin FB.ga.plain F.entry_bexc_ga (zMq FB hC hx hc (zMp FB hC hn hna hB hx hc hnc hdx hA hv hq))
theorem get_by {tk tv:Tok} {k:Int} {fill expr:Bool} {Q:Value->Shared->Prop} (FB:ExcAttrBase B bm) (hC:h.get? C=some (excClassObj nm q C N bs bm true sn sub ab col dd k0 k1 k2 k3 k5 newId)) (hn:h.Ns N mN) (hna:mN name=none)
  (hng:mN "__getattribute__" = none) (hnh:mN "__getattr__" = none)
  (hB:typeLookup (.type B) name=pure none) (hx:h.get? x=some o) (hc:o.cls = .ref C) (hnc:∀ c,o.data ≠ .cls c) (hdx:o.dict=some dx) (hA:h.Ns dx mA) (hv:mA name=some (.int k tv)) (hq:Q (.int k tv) ⟨h,g,d,t,os⟩):
  wpAny (model prog w) A (getAttrBy (.ref x) (.str name tk) fill expr) Q E ⟨h,g,d,t,os⟩:=by
 have f3:=FB.ga.bind (.ref x)
 have z0:(expr&&onTheHeap (Value.builtin "BaseException.__getattribute__"))=false:=by cases expr <;> rfl
 have z2:(Value.builtin "BaseException.__getattribute__" == Value.builtin "object.__getattribute__")=false:=by decide +kernel
 have z1:(onTheHeap (Value.ref C)&&Value.builtin "BaseException.__getattribute__" == Value.builtin "object.__getattribute__")=false:=by
  rw [z2]
  rfl
 repeat (any_goals (first
  | assumption
  | (with_reducible refine wpAny_loadPart_at hx ?_; rw [hc])
  | (with_reducible refine wpAny_typeLookup_exc hC hn FB.mro FB.ga.lookup ?_; rw [hng])
  | (with_reducible refine wpAny_typeLookup_exc hC hn FB.mro FB.noGetattr ?_; rw [hnh])
  | wp_step))
 refine zNO FB hC hn hna hB hx hc hnc hdx hA hv ?_
 repeat (any_goals (first | assumption | wp_step))
theorem zNP {expr:Bool} {tv:Tok} {k:Int} {Q:Value->Shared->Prop} (FB:ExcAttrBase B bm) (hC:h.get? C=some (excClassObj nm q C N bs bm true sn sub ab col dd k0 k1 k2 k3 k5 newId)) (hn:h.Ns N mN) (hna:mN name=none)
  (hng:mN "__getattribute__" = none) (hnh:mN "__getattr__" = none)
  (hB:typeLookup (.type B) name=pure none) (hx:h.get? x=some o) (hc:o.cls = .ref C) (hnc:∀ c,o.data ≠ .cls c) (hdx:o.dict=some dx) (hA:h.Ns dx mA) (hv:mA name=some (.int k tv)) (hq:Q (.int k tv) ⟨h,g,d,t+1,os⟩):
  wpAny (model prog w) A (getAttr (.ref x) name expr) Q E ⟨h,g,d,t,os⟩:=by
 unfold getAttr
 repeat (any_goals (first | assumption | with_reducible apply get_by FB hC hn hna hng hnh hB hx hc hnc hdx hA hv | wp_step))
end
end RX
end
section
namespace RB
open PySem PySem.Spec PyProof.Rows L2 RX
theorem zNs {P:Program} {w:World} {H:Hp} {h:Heap} {a:Addr}:∀ {o:HO},zBa P w H h a o->∃ u,h.get? a=some u
 | .lst _,⟨_,_,_,_,e⟩=>⟨_,e⟩
 | .tup _,⟨_,_,_,_,e,_⟩=>⟨_,e⟩
 | .dK _,⟨_,_,_,_,_,_,_,e,_⟩=>⟨_,e⟩
 | .dT _,⟨_,_,_,_,_,_,_,e,_⟩=>⟨_,e⟩
 | .set _ _,⟨_,_,_,_,e,_⟩=>⟨_,e⟩
 | .ins _ _ _,⟨_,_,_,e,_⟩=>⟨_,e⟩
 | .own _,⟨_,e⟩=>⟨_,e⟩
 | .xd _,⟨_,⟨_,_,_,e,_⟩,_⟩=>⟨_,e⟩
 | .rng _ _,⟨_,_,_,e⟩=>⟨_,e⟩
 | .frz _ _,⟨e,_⟩=>⟨_,e⟩
 | .tbl _,e=>⟨_,e⟩
 | .met _ _,e=>⟨_,e⟩
 | .ext _,⟨_,e,_⟩=>e
theorem zGm {P:Program} {w:World} {H:Hp} {h:Heap} {a:Addr} (ok:HOk P w H h) (e:h.get? a=none):H a=none:=by
 cases q:H a with
 | none=>rfl
 | some o=>
  obtain ⟨u,z⟩:=zNs (ok a o q)
  rw [e] at z
  cases z
noncomputable def exO (x C t:Addr):HO:=.ext fun h=>h.get? x=some (zGr C t)
noncomputable def exD (x C t d:Addr):HO:=.ext fun h=>h.get? x=some (zIt C t d)
theorem exO_ok {P:Program} {w:World} {H:Hp} {h:Heap} {x C t:Addr} (e:h.get? x=some (zGr C t)):zBa P w H h x (exO x C t):=⟨e,⟨_,e⟩,fun _ _ p k=>k _ p⟩
theorem exD_ok {P:Program} {w:World} {H:Hp} {h:Heap} {x C t d:Addr} (e:h.get? x=some (zIt C t d)):zBa P w H h x (exD x C t d):=⟨e,⟨_,e⟩,fun _ _ p k=>k _ p⟩
noncomputable def CXF (P:Program) (w:World) (C:Addr):CXT:=fun outer H s E e s'=>∃ (x dx:Addr) (H':Hp),e = .ref x/\s'.os=s.os/\AllBare s'.gens/\Un (frs outer) [] H H' s.heap s'.heap/\HOk P w H' s'.heap/\
 H' x=none/\s.heap.get? x=none/\
 (∃ o vs T,s'.heap.get? x=some o/\o.cls = .ref C/\o.dict=some dx/\o.data = .fields vs/\Lit s'.heap x vs (some T)/\s.heap.get? T=none/\H' T=none)/\E (.ref C) (some dx) H'
section
variable {X:Cx} {pins:List (Addr×Obj)} {σ:L2.St} {H H':Hp} {s s2:Shared} {C:Addr} {E:XK}
theorem leftF {x dx:Addr} {T0:Option Addr} {o:Obj} {vs:Array Value} {EE:Value->Shared->Prop} (I:Inv X pins σ H' s2) (hst:X.stack=X.env::X.outer) (hfr:X.env.frame=some X.env.locals) (hex:X.ex=[])
  (hx:s2.heap.get? x=some o) (hc:o.cls = .ref C) (hdx:o.dict=some dx) (hd:o.data = .fields vs) (hT:Lit s2.heap x vs T0) (hxn:H' x=none) (hx0:X.s_0.heap.get? x=none) (hTn:∀ t,T0=some t->H' t=none/\X.s_0.heap.get? t=none)
  (hE:E (.ref C) (some dx) H'):
  wpAny (model X.prog X.w) X.A (leaving X.env (.ref x)) (fun _ s''=>CXF X.prog X.w C X.outer X.H_0 X.s_0 E (.ref x) s'') EE s2:=by
 have hA:X.A.frames=some (X.env::X.outer):=by rw [<- hst]; exact I.ok.frames
 have hF:s2.heap.FunFrames X.base (X.env::X.outer):=by rw [<- hst]; exact I.stack
 have efr:(X.env::X.outer).filterMap (·.frame)=X.env.locals::frs X.outer:=by
  rw [List.filterMap_cons,hfr]
  rfl
 have hfree:∀ b∈(X.env::X.outer).filterMap (·.frame),H' b=none:=fun b hb=>I.stkFree b (by rw [hst]; exact hb)
 refine zLS hA hF hfr hx hd hT fun h' G=>?_
 have u:=I.base
 rw [hex] at u
 have hno:∀ b:Addr,b∉([]:List Addr):=fun b hb=>by simp at hb
 have nx:∀ b ob,X.s_0.heap.get? b=some ob->b≠x/\T0≠some b/\b≠X.env.locals:=fun b ob e=>
  ⟨(fun q=>by rw [q,hx0] at e; cases e),(fun q=>by rw [(hTn b q).2] at e; cases e),fun q=>by
   have h1:=Heap.lt_size e
   have h2:=I.ok.above
   rw [<- q] at h2
   exact absurd h1 (Nat.not_lt.mpr h2)⟩
 obtain ⟨o',vs',T,g1,g2,g3,g4,g5,g6⟩:=G.exc
 have hs2T:s2.heap.get? T=none:=Heap.get?_none_of_le g6
 refine ⟨x,dx,H',rfl,I.os,I.bare,?_,?_,hxn,hx0,⟨o',vs',T,g1,g2.trans hc,g3.trans hdx,g4,g5,?_,zGm I.hok hs2T⟩,hE⟩
 ·refine ⟨fun b ob q n hb _=>?_,fun b ob q n hb _=>?_,fun b ob q n _=>u.free b ob q n (hno b),fun b ob q _=>?_,u.tups,u.frzs,u.tbls⟩
  ·obtain ⟨z1,z2,z3⟩:=nx b ob q
   refine G.keep b ob ?_ z1 z2 (u.keep b ob q n hb (hno b))
   rw [efr]
   exact fun z=>(List.mem_cons.mp z).elim z3 hb
  ·obtain ⟨z1,z2,z3⟩:=nx b ob q
   obtain ⟨sl,e⟩:=u.slot b ob q n hb (hno b)
   obtain ⟨sl',e'⟩:=G.slot b _ z1 z2 e
   exact ⟨sl',e'⟩
  ·obtain ⟨z1,z2,z3⟩:=nx b ob q
   obtain ⟨o1,e⟩:=u.there b ob q (hno b)
   obtain ⟨sl',e'⟩:=G.slot b _ z1 z2 e
   exact ⟨_,e'⟩
 ·intro a u' e
  refine (I.hok a u' e).stay (fun b ob hb r=>?_) (fun b r=>r) fun b xs r=>r
  have hbn:H' b≠none:=by
   rcases hb with rfl | hb
   ·rw [e]; simp
   ·rw [hb]; simp
  exact G.keep b ob (fun z=>hbn (hfree b z)) (fun z=>hbn (by rw [z]; exact hxn)) (fun z=>hbn (hTn b z).1) r
 ·cases q:X.s_0.heap.get? T with
  | none=>rfl
  | some ob=>
   obtain ⟨o1,e⟩:=u.there T ob q (hno T)
   rw [hs2T] at e
   cases e
theorem zJO {a:Addr} {φ:Heap->Prop} (I:Inv X pins σ H s) (ha:H a=some (.ext φ)):Inv X pins σ (fun b=>if b=a then none else H b) s:=by
 have ne:∀ b u,H b=some u->(∀ φ,u ≠ .ext φ)->b≠a:=fun b u e hu q=>by
  subst q
  rw [ha] at e
  exact hu φ (Option.some.inj e).symm
 have keepN:∀ b,H b=none->(if b=a then none else H b)=none:=fun b e=>by
  rw [e]
  exact ite_self _
 have keepS:∀ b u,H b=some u->(∀ φ,u ≠ .ext φ)->(if b=a then none else H b)=some u:=fun b u e hu=>by
  rw [if_neg (ne b u e hu)]
  exact e
 have u:=I.base
 refine ⟨I.ok,I.os,I.bare,⟨u.keep,u.slot,fun b ob q n hx=>keepN b (u.free b ob q n hx),u.there,fun b xs q=>keepS b _ (u.tups b xs q) (fun φ z=>by cases z),fun b ob xs q=>keepS b _ (u.frzs b ob xs q) (fun φ z=>by cases z),fun b ps q=>?_⟩,
  I.loc,I.cell,keepN _ I.free,fun x c e=>keepN _ (I.freeC x c e),fun p hp=>?_,fun b ob e=>?_,I.len⟩
 ·obtain ⟨m,e⟩:=u.tbls b ps q
  exact ⟨m,keepS b _ e (fun φ z=>by cases z)⟩
 ·obtain ⟨p1,p2,p3⟩:=I.pin p hp
  exact ⟨p1,keepN _ p2,p3⟩
 ·by_cases q:b=a
  ·rw [if_pos q] at e
   cases e
  ·rw [if_neg q] at e
   exact (I.hok b ob e).stay (fun _ _ _ r=>r) (fun c r=>keepS c _ r (fun φ z=>by cases z)) fun c xs r=>keepS c _ r (fun φ z=>by cases z)
theorem zMg {h':Heap} {a:Addr} {o:HO} {t':Nat} (I:Inv X pins σ H s) (k:∀ b u,s.heap.get? b=some u->h'.get? b=some u) (hp:s.heap.get? a=none) (new:zBa X.prog X.w (upd H a o) h' a o):
  Inv X pins σ (upd H a o) { s with heap:=h',toks:=t' }:=by
 have hn:H a=none:=zGm I.hok hp
 have ne:∀ b u,s.heap.get? b=some u->b≠a:=fun b u e q=>by rw [q,hp] at e; cases e
 refine I.un ⟨fun b u q _ _ _=>k b u q,fun b u q _ _ _=>⟨u.slots,k b u q⟩,fun b u q n _=>by rw [uN (ne b u q)]; exact n,fun b u q _=>⟨u,k b u q⟩,fun b xs q=>by rw [uN (nN q hn)]; exact q,
  fun b u xs q=>by rw [uN (nN q hn)]; exact q,fun b ps q=>⟨#[],by rw [uN (nN q hn),q]; simp⟩⟩ fun b u e=>?_
 by_cases q:b=a
 ·subst q
  rw [uS] at e
  cases e
  exact new
 ·rw [uN q] at e
  exact (I.hok b u e).stay (fun c v _ r=>k c v r) (fun c r=>by rw [uN (nN r hn)]; exact r) fun c xs r=>by rw [uN (nN r hn)]; exact r
end
theorem zHi {P:Program} {w:World} {K:PySem.W.Frag} {mg:Str->Option Value} {base:Heap} {N:List Str} {qual:Str} {scope:Scope} {f C:Addr} {cd:Value} {A:Around} {outer:List Env} {s:Shared} {H:Hp} {E:XK}:
  zBL (CXF P w C) (cxOf (CXF P w C) P w K mg base N qual scope f cd A outer s H E) E:=by
 intro pins σ H1 s1 e s2 I hx
 obtain ⟨x,dx,H',rfl,ho,hb,hu,hok,hxn,hxs,⟨o,vs,T,e1,e2,e3,e4,e5,e6,e7⟩,hE⟩:=hx
 have I2:=I.call' (ch:=[]) ho hu hok hb (fun b hb=>absurd hb (by simp))
 have old:∀ a,s1.heap.get? a=none->s.heap.get? a=none:=fun a ha=>by
  cases q:s.heap.get? a with
  | none=>rfl
  | some ob=>
   obtain ⟨o1,z⟩:=I.base.there a ob q (fun hb=>absurd (show a∈([]:List Addr) from hb) (by simp))
   rw [ha] at z
   cases z
 exact leftF (T0:=some T) I2 rfl rfl rfl e1 e2 e3 e4 e5 hxn (old x hxs) (fun t ht=>by cases ht; exact ⟨e7,old _ e6⟩) hE
end RB
end
section
namespace RB
open PySem PySem.Spec PyProof.Rows L2 RX
section
variable {X:Cx} {o value:Expr} {pos pos':Pos} {ta tv:TE} {C N fI:Addr}
noncomputable def sEx (C:Addr) (ta tv:TE):TS:=fun D σ H=>tv σ H fun y H1=>ta σ H1 fun v H2=>∃ x t,v = .ref x/\H2 x=some (exO x C t)/\
 ∀ dx,H2 dx=none->dx≠x->D.nx σ (upd (upd H2 dx (.xd [("place",y)])) x (exD x C t dx))
theorem ps_ex (T:TF X.K C N fI) (ha:PE X o ta) (hv:PE X value tv) (hs:swapsWith value (some (.Attribute o "place" pos')) pos.line X.env=pure false):PS X (.Assign [.Attribute o "place" pos'] value pos) (sEx C ta tv):=by
 intro pins s σ H D I h
 refine plainObj_wpAny_Assign_Attribute (thn (hv pins s σ H _ I h) fun u s1 ⟨y,H1,I1,ry,q⟩=>thn (ha pins s1 σ H1 _ I1 q) fun ov s2 ⟨v,H2,I2,rx,x,t,ex,ea,q2⟩=>?_) hs
 subst ex
 obtain rfl:ov=Value.ref x:=rx
 obtain ⟨nm,qn,bs,sn,sub,ab,col,dd,k0,k1,k2,k3,k5,mN,hC,hn,_,hp,hset,_⟩:=T.at I2.kIn
 have hx:s2.heap.get? x=some (zGr C t):=(I2.hok x _ ea).1
 obtain ⟨hp2,g,d,tk,os⟩:=s2
 refine zNg F.store_Exception hC hn hset hp zIZ hx fun h' tk' a1 a2 a3=>?_
 have hfr:H2 hp2.objs.size=none:=I2.hok.fresh (Nat.le_refl _)
 have hne:hp2.objs.size≠x:=(nN ea hfr).symm
 refine ⟨σ,_,?_,q2 hp2.objs.size hfr hne⟩
 have nd:∀ b ob,hp2.get? b=some ob->b≠hp2.objs.size:=fun b ob e=>Nat.ne_of_lt (Heap.lt_size e)
 have un:∀ b,H2 b=none->b≠x:=fun b e=>(nN ea e).symm
 have big:∀ b u,H2 b=some u->(∀ φ,u ≠ .ext φ)->(upd (upd H2 hp2.objs.size (.xd [("place",y)])) x (exD x C t hp2.objs.size)) b=some u:=fun b u e hu=>by
  rw [uN,uN (nN e hfr)]
  ·exact e
  ·intro z
   subst z
   rw [ea] at e
   exact hu _ (Option.some.inj e).symm
 refine I2.un (h':=h') (t':=tk') ⟨fun b ob q n _ _=>a3 b ob (un b n) q,fun b ob q n _ _=>⟨ob.slots,a3 b ob (un b n) q⟩,fun b ob q n _=>by rw [uN (un b n),uN (nd b ob q)]; exact n,fun b ob q _=>?_,fun b xs q=>big b _ q (fun φ z=>by cases z),
  fun b ob xs q=>big b _ q (fun φ z=>by cases z),fun b ps q=>⟨#[],by rw [big b _ q (fun φ z=>by cases z)]; simp⟩⟩ fun b ob e=>?_
 ·by_cases z:b=x
  ·rw [z]; exact ⟨_,a2⟩
  ·exact ⟨ob,a3 b ob z q⟩
 ·by_cases z:b=x
  ·subst z
   rw [uS] at e
   cases e
   exact exD_ok a2
  ·rw [uN z] at e
   by_cases z2:b=hp2.objs.size
   ·subst z2
    rw [uS] at e
    cases e
    refine ⟨_,a1,fun f=>?_⟩
    by_cases hf:f= "place"
    ·subst hf
     show RelO (some y) (some u)
     exact ry
    ·have e1:([("place",y)]:List (Str×V)).lookup f=none:=by
      show (match f==("place" : Str) with | true=>some y | false=>none)=none
      rw [beq_eq_false_iff_ne.mpr hf]
     rw [e1,if_neg hf]
     exact True.intro
   ·rw [uN z2] at e
    refine (I2.hok b ob e).stay (fun c v hc r=>a3 c v ?_ r) (fun c r=>big c _ r (fun φ z=>by cases z)) fun c xs r=>big c _ r (fun φ z=>by cases z)
    rcases hc with rfl | hc
    ·exact z
    ·exact fun q=>by rw [q,ea] at hc; cases hc
end
section
variable {P:Program} {w:World} {K:PySem.W.Frag} {mg:Str->Option Value} {base:Heap}
noncomputable def spFI (C:Addr):Sp:=fun vs H Q _=>∃ (x t:Addr) (y:V),vs=[.ref x,y]/\H x=some (exO x C t)/\∀ dx,H dx=none->dx≠x->Q .non (upd (upd H dx (.xd [("place",y)])) x (exD x C t dx))
theorem scFI:zAc ["self","place"] ["self","place"] (zAa zCL):=⟨rfl,rfl,rfl,by decide +kernel,rfl,by decide +kernel,by decide +kernel⟩
theorem zLB {f C N fI:Addr} {fd:FuncData} (F:Fun K "__init__" "TextFault.__init__" zCL f fd) (T:TF K C N fI):FnOk P w K mg base CX0 1 f fd ["self","place"] (spFI C):=by
 refine F.ok scFI (fun vs H Q E h=>?_) (fun cdv A outer s H vs Q E hr h=>?_)
 ·obtain ⟨x,t,y,rfl,_⟩:=h
  rfl
 ·obtain ⟨x,t,y,rfl,hx,k⟩:=h
  refine ⟨_,pO (ps_ex T (pv 0) (pv 1) rfl),?_⟩
  exact ⟨_,rfl,_,rfl,x,t,rfl,hx,fun dx h1 h2=>k dx h1 h2⟩
end
noncomputable def zIE (C:Addr) (E:XK) (ta:TA):TS:=fun _ σ H=>ta σ H fun vs H1=>∃ v,vs=[v]/\∀ dx,H1 dx=none->E (.ref C) (some dx) (upd H1 dx (.xd [("place",v)]))
theorem zNk {P:Program} {w:World} {K:PySem.W.Frag} {mg:Str->Option Value} {base:Heap} {NN:List Str} {qual:Str} {scope:Scope} {f C N fI:Addr} {cd:Value} {A:Around} {outer:List Env} {s0:Shared} {H0:Hp} {E:XK} {j:Nat} {fd:FuncData}
  {np cpos pos:Pos} {e:Expr} {te:TA} (T:TF K C N fI) (hm:mg "TextFault" = some (.ref C)) (hk:PySem.W.keepIn K (.ref C)=true) (G:FnOk P w K mg base CX0 j fI fd ["self","place"] (spFI C)) (hb:zBG K fd ["self","place"] [])
  (hr:Room (j+1) (cxOf (CXF P w C) P w K mg base NN qual scope f cd A outer s0 H0 E).A)
  (he:PA (cxOf (CXF P w C) P w K mg base NN qual scope f cd A outer s0 H0 E) [e] te) (hg:Gl (cxOf (CXF P w C) P w K mg base NN qual scope f cd A outer s0 H0 E) "TextFault" := by rfl)
  (hst:starEach [e] (cxOf (CXF P w C) P w K mg base NN qual scope f cd A outer s0 H0 E).env=[(false,eval e (cxOf (CXF P w C) P w K mg base NN qual scope f cd A outer s0 H0 E).env)]:=by rfl):
  PS (cxOf (CXF P w C) P w K mg base NN qual scope f cd A outer s0 H0 E) (.Raise (some (.Call (.Name "TextFault" np) [e] [] cpos)) none pos) (zIE C E te):=by
 generalize hX:cxOf (CXF P w C) P w K mg base NN qual scope f cd A outer s0 H0 E=X at *
 have xP:X.prog=P:=by rw [<- hX]; rfl
 have xw:X.w=w:=by rw [<- hX]; rfl
 have xK:X.K=K:=by rw [<- hX]; rfl
 have xm:X.mg=mg:=by rw [<- hX]; rfl
 have xb:X.base=base:=by rw [<- hX]; rfl
 have xc:X.calm=true:=by rw [<- hX]; rfl
 have xst:X.stack=X.env::X.outer:=by rw [<- hX]; rfl
 have xfr:X.env.frame=some X.env.locals:=by rw [<- hX]; rfl
 have xex:X.ex=[]:=by rw [<- hX]; rfl
 have xxe:X.xe=fun e s'=>wpAny (model X.prog X.w) X.A (leaving X.env e) (fun _ s''=>CXF X.prog X.w C X.outer X.H_0 X.s_0 E e s'') (fun e' s''=>CXF X.prog X.w C X.outer X.H_0 X.s_0 E e' s'') s':=by rw [<- hX]; rfl
 subst xP xw xK xm xb
 intro pins s σ H D I h
 rw [arm_exec_Raise]
 show wpAny _ _ (do
  standAt pos
  raiseStmt X.env (some (do
   let v <- eval (.Call (.Name "TextFault" np) [e] [] cpos) X.env
   standAt pos
   pure v)) none) _ _ s
 obtain ⟨nm,qn,bs,sn,sub,ab,col,dd,k0,k1,k2,k3,k5,hlk⟩:=T.obj
 refine wpAny_bind (wpAny_standAt (zLh (nm:=nm) (q:=qn) (C:=C) (N:=N) (bs:=bs) (hdct:=true) (sn:=sn) (sub:=sub) (ab:=ab) (col:=col) (dd:=dd) (k0:=k0) (k1:=k1) (k2:=k2) (k3:=k3) (k5:=k5) (newId:= "Exception.__new__") (I.ok.hd xc) (wpAny_bind ?_)))
 refine wpAny_Call_Name_kw (zCR I hg hm ?_ (by decide))
 refine PySem.W.callWith_K (h₀:=X.base) I.ok.mod.kin hk (thn (he cpos pins s σ H _ I h) fun us s1 ⟨vs,H1,I1,r,v,ev,q⟩=>⟨I1.kIn,?_⟩) hst rfl
 subst ev
 obtain ⟨u,rfl,ru⟩:=zML r
 obtain ⟨nm',qn',bs',sn',sub',ab',col',dd',k0',k1',k2',k3',k5',mN,hC,hn,hi,_,_,_,_,oI,hfI,hfc⟩:=T.at I1.kIn
 obtain ⟨hp,g,d,tk,os⟩:=s1
 refine wpAny_call_exc_init F.excBase_Exception hC hn hi hfI hfc (fun h' x hx=>?_) (by show 1<=sizeLine; decide)
 obtain ⟨t,hxo,htn,ht⟩:=hx.there
 have I2:=zMg (h':=h') (o:=exO x C t) (t':=tk) I1 hx.keeps hx.new (exO_ok hxo)
 have hxH:H1 x=none:=zGm I1.hok hx.new
 have hx0:X.s_0.heap.get? x=none:=by
  cases z:X.s_0.heap.get? x with
  | none=>rfl
  | some ob=>
   obtain ⟨o1,z1⟩:=I1.base.there x ob z (by rw [xex]; simp)
   have:=hx.new
   rw [z1] at this
   cases this
 have hqi:spFI C [V.ref x,v] (upd H1 x (exO x C t)) (fun v' H2=>v' = .non/\∃ dx,H1 dx=none/\dx≠x/\H2=upd (upd (upd H1 x (exO x C t)) dx (.xd [("place",v)])) x (exD x C t dx)) E0:=
  ⟨x,t,v,rfl,uS,fun dx h1 h2=>⟨rfl,dx,by rw [uN h2] at h1; exact h1,h2,rfl⟩⟩
 have r2:Vals [V.ref x,v] [Value.ref x,u]:=.cons rfl (.cons ru .nil)
 refine wpAny_call (codeAny_mono (G.run _ X.stack _ _ ⟨[Value.ref x,u],[]⟩ [Value.ref x,u] _ _ E0 (hr.make C [u] []) (I2.env0.make C [u] []) (hb _ [Value.ref x,u] I2.kIn rfl) r2 hqi) fun res s' hq'=>?_)
 cases res with
 | error z=>exact hq'.elim
 | ok fl=>
  cases fl with
  | next=>exact False.elim hq'
  | brk=>exact False.elim hq'
  | cont=>exact False.elim hq'
  | ret u'=>
   obtain ⟨v',H3,I3,rv',ev',dx,hdx,hne,eH⟩:=I2.after hq'
   subst ev'
   subst eH
   refine ⟨rv',wpAny_bind (wpAny_standAt (wpAny_pure ?_))⟩
   have hx3:s'.heap.get? x=some (zIt C t dx):=(I3.hok x _ uS).1
   have I4:=zJO I3 uS
   have eH4:(fun b=>if b=x then none else upd (upd (upd H1 x (exO x C t)) dx (.xd [("place",v)])) x (exD x C t dx) b)=upd H1 dx (.xd [("place",v)]):=by
    funext b
    by_cases z:b=x
    ·subst z
     rw [if_pos rfl,uN (Ne.symm hne),hxH]
    ·rw [if_neg z,uN z]
     by_cases z2:b=dx
     ·subst z2
      rw [uS,uS]
     ·rw [uN z2,uN z2,uN z]
   rw [eH4] at I4
   refine ⟨x,t,dx,rfl,I4.kIn _ _ hlk,hx3,?_⟩
   rw [xxe]
   exact leftF (T0:=none) I4 xst xfr xex hx3 rfl rfl rfl rfl (by rw [uN (Ne.symm hne)]; exact hxH) hx0 (fun t ht=>by cases ht) (q dx hdx)
end RB
end
section
namespace RB
open PySem PySem.Spec PyProof.Rows L2 RX
section
variable {X:Cx} {pins:List (Addr×Obj)} {σ:L2.St} {H:Hp} {s:Shared}
theorem zMh {h':Heap} {m':Str->Option Value} {t':Nat} (I:Inv X pins σ H s) (hs:Heap.SameBut X.env.locals s.heap h') (hn:h'.Ns X.env.locals m'):Inv X pins (σ.map fun _=>none) H { s with heap:=h',toks:=t' }:=by
 have neL:∀ b ob,X.s_0.heap.get? b=some ob->b≠X.env.locals:=fun b ob e=>Nat.ne_of_lt (Nat.lt_of_lt_of_le (Heap.lt_size e) I.ok.above)
 have u:=I.base
 have gt:∀ b,b≠X.env.locals->h'.get? b=s.heap.get? b:=fun b hb=>hs.2 b hb
 refine ⟨I.ok,I.os,I.bare,⟨fun b ob q n hb hx=>?_,fun b ob q n hb hx=>?_,u.free,fun b ob q hx=>?_,u.tups,u.frzs,u.tbls⟩,⟨m',hn,fun i x v _ e2 _=>?_⟩,fun x c e=>?_,I.free,I.freeC,fun p hp=>?_,fun b ob e=>?_,?_⟩
 ·rw [gt b (neL b ob q)]; exact u.keep b ob q n hb hx
 ·rw [gt b (neL b ob q)]; exact u.slot b ob q n hb hx
 ·rw [gt b (neL b ob q)]; exact u.there b ob q hx
 ·rw [List.getElem?_map] at e2
  cases z:σ[i]? with
  | none=>rw [z] at e2; cases e2
  | some _=>rw [z] at e2; cases e2
 ·obtain ⟨v,z⟩:=I.cell x c e
  exact ⟨v,z.sameBut hs (I.cne x c e)⟩
 ·obtain ⟨p1,p2,p3,p4⟩:=I.pin p hp
  exact ⟨by rw [gt p.1 p3]; exact p1,p2,p3,p4⟩
 ·refine (I.hok b ob e).stay (fun c v hc r=>?_) (fun c r=>r) fun c xs r=>r
  rw [gt c]
  ·exact r
  ·intro q
   subst q
   rcases hc with hc | hc
   ·rw [<- hc,I.free] at e; cases e
   ·rw [I.free] at hc; cases hc
 ·rw [List.length_map]; exact I.len
end
structure zKc (k:Nat) (A:Around):Prop where
 dp:A.depth+3*k+5<recursionLimit
 un:A.units+16*k+200<cLine
theorem room_h {k:Nat} {A:Around} (r:Room k A):zKc k A:=⟨r.dp,r.un⟩
theorem zLb {k:Nat} {A:Around} {v:Option Value} (r:zKc k A):zKc k (A.mark v):=⟨r.dp,r.un⟩
structure zIy (P:Program) (w:World) (K:PySem.W.Frag) (mg:Str->Option Value) (base:Heap) (k:Nat) (f:Addr) (fd:FuncData) (ps:List Str) (sp:Sp):Prop where
 len:∀ vs H Q E,sp vs H Q E->vs.length=ps.length
 run:∀ (A:Around) (outer:List Env) (s:Shared) (H:Hp) (args:Args) (us:List Value) (vs:List V) (Q:VK),zKc k A->Env0 P w K mg base A outer s H->BindsTo s fd args (ps.zip us)->Vals vs us->sp vs H Q E0->
  codeAny (model P w) A (.call (.ref f) args) (CR CX0 outer P w H s Q E0) s
noncomputable def cxH (P:Program) (w:World) (K:PySem.W.Frag) (mg:Str->Option Value) (base:Heap) (N:List Str) (qual:Str) (scope:Scope) (f:Addr) (cd:Value) (A:Around) (outer:List Env) (s:Shared) (H:Hp):Cx:=
 { cxOf CX0 P w K mg base N qual scope f cd A outer s H E0 with calm:=false,xe:=fun _ _=>False }
section
variable {P:Program} {w:World} {K:PySem.W.Frag} {mg:Str->Option Value} {base:Heap}
theorem funH {x qual:Str} {st:Stmt} {f:Addr} {fd:FuncData} {N ps:List Str} {k:Nat} {sp:Sp} (F:Fun K x qual st f fd) (S:zAc N ps (zAa st)) (len:∀ vs H Q E,sp vs H Q E->vs.length=ps.length)
  (hbody:∀ (cdv:Value) (A:Around) (outer:List Env) (s:Shared) (H:Hp) (vs:List V) (Q:VK),zKc k (A.deeper (envOfC qual (zAa st) s.heap.objs.size f cdv))->sp vs H Q E0->
   ∃ t,PSs (cxH P w K mg base N qual (zAa st) f cdv A outer s H) (zAZ st) t/\t { nx:=fun _ H'=>Q .non H',rt:=Q } (L2.start N vs) H):zIy P w K mg base (k+1) f fd ps sp:=by
 obtain ⟨oc,od,kV,doc,pm,an,cdv,ct,osl,rfl,lk,hcd⟩:=F.ex
 refine ⟨len,fun A outer s H args us vs Q hr e0 hb r hsp=>?_⟩
 have hl:=len _ _ _ _ hsp
 have KX:K.In s.heap:=e0.mod.kin.keeps fun b o e=>(e0.bs b o e).1
 have lim:s.heap.NoLimit:=e0.mod.nolimit.keeps fun b o e=>(e0.bs b o e).1
 have hkind:∀ y∈ps.zip us,(zAa st).names.lookup y.1=some .local\/((zAa st).names.lookup y.1=some .cell/\((cellsFrom (s.heap.objs.size+1) (zAa st).names []).lookup y.1).isSome=true):=fun y hy=>by
  rcases S.par y.1 (List.of_mem_zip (show (y.1,y.2)∈ps.zip us from hy)).1 with q | q
  ·exact .inl q
  ·exact .inr ⟨q,PySem.W.cellsFrom_some _ _ _ (.inl q)⟩
 have hdep:A.depth<recursionLimit:=by have:=hr.dp; omega
 refine codeAny_call_function hdep (KX _ _ lk) rfl S.co S.gen rfl (PySem.W.codeRec_of KX hcd) (hb _ _ _ _ (wpAny_newFunctionEnv_cells S.kind hkind fun env he s1 x=>?_))
 subst he
 refine ⟨lim.keeps x.toInCall.keep,codeAny_func ?_⟩
 obtain ⟨t,ht,hq⟩:=hbody cdv A outer s H vs Q ⟨by have:=hr.dp; show A.depth+1+3*k+5<_; omega,by have:=hr.un; show A.units+3+16*k+200<_; omega⟩ hsp
 have e1:Env0 P w K mg base { A with handled:=none } outer s H:=⟨e0.frames,e0.mod,e0.bs,e0.bsz,e0.funs,e0.frf,e0.hok,e0.bare⟩
 have I0:=zHp (CX:=CX0) (E:=E0) (qual:=qual) (f:=f) (cd:=cdv) S rfl e1 hl r x
 have I:Inv (cxH P w K mg base N qual (zAa st) f cdv A outer s H) [] (L2.start N vs) H s1:=
  ⟨⟨I0.ok.mod,I0.ok.kind,I0.ok.glob,I0.ok.blt,I0.ok.above,I0.ok.inj,I0.ok.has,I0.ok.cab,(fun z=>by cases z),Around.frames_deeper e0.frames,I0.ok.stk,I0.ok.exf,I0.ok.bs,I0.ok.bsz,I0.ok.noex,I0.ok.exfs,I0.ok.funs,I0.ok.frf⟩,
   I0.os,I0.bare,I0.base,I0.loc,I0.cell,I0.free,I0.freeC,I0.pin,I0.hok,I0.len⟩
 refine wpAny_mono (ht [] s1 (L2.start N vs) H _ I hq) (fun fl s' hs=>?_) fun e s' hs=>hs.elim
 have fin:∀ {σ':L2.St} {H':Hp} {v:V} {u:Value},Inv (cxH P w K mg base N qual (zAa st) f cdv A outer s H) [] σ' H' s'->RelV v u->Q v H'->CE outer P w H s Q u s':=
  fun {σ' H' v u} J rv q=>⟨v,H',J.os,J.bare,J.base,J.hok,rv,q⟩
 cases fl with
 | ret u=>
  obtain ⟨v,σ',H',J,rv,q⟩:=hs
  exact fin J rv q
 | next=>
  obtain ⟨σ',H',J,q⟩:=hs
  exact fin (v:=V.non) (u:=Value.none) J rfl q
 | brk=>exact False.elim hs.choose_spec.choose_spec.2
 | cont=>exact False.elim hs.choose_spec.choose_spec.2
end
end RB
end
section
namespace RB
open PySem PySem.Spec PyProof.Rows L2 RX
section
variable {P:Program} {w:World} {K:PySem.W.Frag} {mg:Str->Option Value} {base:Heap}
theorem zIy.ok {k:Nat} {f:Addr} {fd:FuncData} {ps:List Str} {sp:Sp} (F:zIy P w K mg base k f fd ps sp) (h:∀ vs H Q E,sp vs H Q E->sp vs H Q E0):FnOk P w K mg base CX0 k f fd ps sp:=
 ⟨F.len,fun A outer s H args us vs Q E hr e0 hb hv hs=>codeAny_mono (F.run A outer s H args us vs Q (room_h hr) e0 hb hv (h _ _ _ _ hs)) fun r s' q=>by
  cases r with
  | error e=>exact q
  | ok fl=>cases fl <;> exact q⟩
noncomputable def zCs:Sp:=fun vs H Q _=>∃ (n:Int) (a b:Addr) (xs ys:List Int),vs=[.int n,.ref a,.ref b]/\H a=some (.lst (xs.map V.int))/\H b=some (.lst (ys.map V.int))/\xs.length+ys.length+3<=sizeLine/\
 ∀ (p:Addr) (H':Hp),Same H H'->H p=none->H' p=some (.lst ((NLines.flat n xs ys).map V.int))->Q (.ref p) H'
theorem zMW:zAc ["number","listed","text"] ["number","listed","text"] (zAa zIf):=⟨rfl,rfl,rfl,by decide +kernel,rfl,by decide +kernel,by decide +kernel⟩
theorem zBE {α β:Type} (f:α->β) (l:List α):(l.map f).isEmpty=l.isEmpty:=by cases l <;> rfl
theorem zLI {f:Addr} {fd:FuncData} (F:Fun K "answer" "answer" zIf f fd) (hlen:mg "len" = none):zIy P w K mg base 1 f fd ["number","listed","text"] zCs:=by
 refine funH F zMW (fun vs H Q E h=>?_) (fun cdv A outer s H vs Q hr h=>?_)
 ·obtain ⟨n,a,b,xs,ys,rfl,_⟩:=h
  rfl
 ·obtain ⟨n,a,b,xs,ys,rfl,ha,hb,hz,k⟩:=h
  refine ⟨_,pC (zAC (PW.pt (zEF (zDI (zCv (pv 1) (fun _=>rfl))) (zCN (zDI (zCv (pv 2) (fun _=>rfl)))))) (pO (pR (zAd (pA (pv 0) pN)))) zAf)
   (pO (pR (zAs zFo (zAs zFo (zAs zFo (zAd (pA (pv 0) (pA (zAt zAj rfl hlen PySem.boot_len (pA (pv 1) pN)) pN))) (pv 1)) (zAd (pA (zAt zAj rfl hlen PySem.boot_len (pA (pv 2) pN)) pN))) (pv 2)))),?_⟩
  have rest:∀ (h:¬ (xs=[]/\ys=[])),(tRet (tOp rCat (tOp rCat (tOp rCat (tLst (zBv (tVar 0) (zBv (tCB (fun xs H Q=>∃ p ys,xs=[.ref p]/\(SqL K H p ys\/SqT K H p ys)/\Q (.int ys.length) H) (zBv (tVar 1) tNil)) tNil))) (tVar 1)) (tLst (zBv (tCB (fun xs H Q=>∃ p ys,xs=[.ref p]/\(SqL K H p ys\/SqT K H p ys)/\Q (.int ys.length) H) (zBv (tVar 2) tNil)) tNil))) (tVar 2))) { nx:=fun _ H'=>Q .non H',rt:=Q } [some (.int n),some (.ref a),some (.ref b)] H:=by
   intro h
   refine ⟨_,rfl,_,rfl,a,_,rfl,.inl (SqL.of ha),(by show 2<=sizeLine; decide),fun p1 h1=>?_⟩
   have na1:a≠p1:=nN ha h1
   have nb1:b≠p1:=nN hb h1
   refine ⟨_,rfl,p1,a,_,_,rfl,rfl,uS,by rw [uN na1]; exact ha,(by simp only [List.length_cons,List.length_nil,List.length_map]; omega),fun p2 h2=>?_⟩
   have n12:p1≠p2:=nN uS h2
   have h2':H p2=none:=by rw [uN n12.symm] at h2; exact h2
   have nb2:b≠p2:=nN hb h2'
   have hb2:(upd (upd H p1 (.lst [.int n,.int ((xs.map V.int).length:Nat)])) p2 (.lst ([.int n,.int ((xs.map V.int).length:Nat)]++xs.map V.int))) b=some (.lst (ys.map V.int)):=by
    rw [uN nb2,uN nb1]; exact hb
   refine ⟨_,rfl,b,_,rfl,.inl (SqL.of hb2),(by show 1<=sizeLine; decide),fun p3 h3=>?_⟩
   have n23:p2≠p3:=nN uS h3
   have h3':H p3=none:=by
    rw [uN n23.symm] at h3
    by_cases z:p3=p1
    ·rw [z,uS] at h3; cases h3
    ·rw [uN z] at h3; exact h3
   refine ⟨p2,p3,_,_,rfl,rfl,by rw [uN n23]; exact uS,uS,(by simp only [List.length_append,List.length_cons,List.length_nil,List.length_map]; omega),fun p4 h4=>?_⟩
   have n34:p3≠p4:=nN uS h4
   have n24:p2≠p4:=fun z=>by rw [<- z,uN n23,uS] at h4; cases h4
   have n14:p1≠p4:=fun z=>by
    rw [<- z] at h4
    by_cases z1:p1=p3
    ·exact n34 (z1.symm.trans z)
    ·rw [uN z1,uN n12,uS] at h4; cases h4
   have h4':H p4=none:=by rw [uN n34.symm,uN n24.symm,uN n14.symm] at h4; exact h4
   have nb3:b≠p3:=nN hb h3'
   have nb4:b≠p4:=nN hb h4'
   refine ⟨_,rfl,p4,b,_,_,rfl,rfl,uS,by rw [uN nb4,uN nb3]; exact hb2,(by simp only [List.length_append,List.length_cons,List.length_nil,List.length_map]; omega),fun p5 h5=>?_⟩
   have n45:p4≠p5:=nN uS h5
   have n35:p3≠p5:=fun z=>by rw [<- z,uN n34,uS] at h5; cases h5
   have n25:p2≠p5:=fun z=>by rw [<- z,uN n24,uN n23,uS] at h5; cases h5
   have n15:p1≠p5:=fun z=>by
    rw [<- z,uN n14] at h5
    by_cases z1:p1=p3
    ·rw [z1,uS] at h5; cases h5
    ·rw [uN z1,uN n12,uS] at h5; cases h5
   have h5':H p5=none:=by rw [uN n45.symm,uN n35.symm,uN n25.symm,uN n15.symm] at h5; exact h5
   refine k p5 _ (Same.new (Same.new (Same.new (Same.new (Same.new (Same.refl H) h1) h2) h3) h4) h5) h5' ?_
   rw [uS]
   unfold NLines.flat
   rw [if_neg h]
   simp only [List.map_cons,List.map_append,List.length_map,List.cons_append,List.nil_append,List.append_assoc]
  refine ⟨_,rfl,!xs.isEmpty,.inl ⟨_,SqL.of ha,by rw [zBE]⟩,?_⟩
  cases hx:xs with
  | cons x0 xr=>
   refine iteF (iteF ?_)
   exact rest (by rw [hx]; simp)
  | nil=>
   refine iteT ⟨_,rfl,!ys.isEmpty,.inl ⟨_,SqL.of hb,by rw [zBE]⟩,?_⟩
   cases hy:ys with
   | cons y0 yr=>
    refine iteF ?_
    exact rest (by rw [hy]; simp)
   | nil=>
    refine iteT ?_
    refine ⟨_,rfl,(by show 1<=sizeLine; decide),fun p hp=>?_⟩
    refine k p _ (Same.new (Same.refl H) hp) hp ?_
    rw [uS,hx,hy]
    rfl
end
end RB
end
section
namespace RB
open PySem PySem.Spec PyProof.Rows L2 RX
theorem un_gone {fs fs':List Addr} {H H':Hp} {h0 h1 h2:Heap} {x:Addr} {T0:Option Addr} {o:Obj} (u:Un fs [] H H' h0 h1) (G:Gone fs' x T0 o h1 h2) (hx:h0.get? x=none) (hT:∀ t,T0=some t->h0.get? t=none)
  (hfs:∀ b ob,h0.get? b=some ob->b∈fs'->b∈fs):Un fs [] H H' h0 h2:=by
 have nx:∀ b ob,h0.get? b=some ob->b≠x/\T0≠some b:=fun b ob e=>⟨(fun q=>by rw [q,hx] at e; cases e),fun q=>by rw [hT b q] at e; cases e⟩
 have hno:∀ b:Addr,b∉([]:List Addr):=fun b hb=>by simp at hb
 refine ⟨fun b ob q n hb _=>?_,fun b ob q n hb _=>?_,u.free,fun b ob q _=>?_,u.tups,u.frzs,u.tbls⟩
 ·obtain ⟨z1,z2⟩:=nx b ob q
  exact G.keep b ob (fun z=>hb (hfs b ob q z)) z1 z2 (u.keep b ob q n hb (hno b))
 ·obtain ⟨z1,z2⟩:=nx b ob q
  obtain ⟨sl,e⟩:=u.slot b ob q n hb (hno b)
  obtain ⟨sl',e'⟩:=G.slot b _ z1 z2 e
  exact ⟨sl',e'⟩
 ·obtain ⟨z1,z2⟩:=nx b ob q
  obtain ⟨o1,e⟩:=u.there b ob q (hno b)
  obtain ⟨sl',e'⟩:=G.slot b _ z1 z2 e
  exact ⟨_,e'⟩
theorem zNJ {P:Program} {w:World} {fs':List Addr} {H':Hp} {h1 h2:Heap} {x:Addr} {T0:Option Addr} {o:Obj} (hok:HOk P w H' h1) (G:Gone fs' x T0 o h1 h2) (hfs:∀ b∈fs',H' b=none) (hx:H' x=none) (hT:∀ t,T0=some t->H' t=none):
  HOk P w H' h2:=by
 intro a u e
 refine (hok a u e).stay (fun b ob hb r=>?_) (fun b r=>r) fun b xs r=>r
 have hbn:H' b≠none:=by
  rcases hb with rfl | hb
  ·rw [e]; simp
  ·rw [hb]; simp
 exact G.keep b ob (fun z=>hbn (hfs b z)) (fun z=>hbn (by rw [z]; exact hx)) (fun z=>hbn (hT b z)) r
noncomputable def XH (X:Cx) (x:Addr) (pn:List (Addr×Obj)):Cx:={ X with A:=X.A.mark (some (.ref x)),calm:=false,xe:=fun _ _=>False,pn:=pn }
section
variable {X:Cx} {pins pins':List (Addr×Obj)} {σ:L2.St} {H:Hp} {s:Shared}
theorem zMe {x:Addr} {pn:List (Addr×Obj)} (I:Inv X pins σ H s) (hp:∀ p∈pn++pins',s.heap.get? p.1=some p.2/\H p.1=none/\p.1≠X.env.locals/\p.1∉X.fs/\∀ v,p.2.data ≠ .cell v):Inv (XH X x pn) pins' σ H s:=
 ⟨⟨I.ok.mod,I.ok.kind,I.ok.glob,I.ok.blt,I.ok.above,I.ok.inj,I.ok.has,I.ok.cab,(fun z=>by cases z),I.ok.frames,I.ok.stk,I.ok.exf,I.ok.bs,I.ok.bsz,I.ok.noex,I.ok.exfs,I.ok.funs,I.ok.frf⟩,
  I.os,I.bare,I.base,I.loc,I.cell,I.free,I.freeC,hp,I.hok,I.len⟩
theorem zMf {x:Addr} {pn:List (Addr×Obj)} (hd:X.calm=true->X.A.handled=none) (I:Inv (XH X x pn) pins' σ H s) (hp:∀ p∈X.pn++pins,p∈pn++pins'):Inv X pins σ H s:=
 ⟨⟨I.ok.mod,I.ok.kind,I.ok.glob,I.ok.blt,I.ok.above,I.ok.inj,I.ok.has,I.ok.cab,hd,I.ok.frames,I.ok.stk,I.ok.exf,I.ok.bs,I.ok.bsz,I.ok.noex,I.ok.exfs,I.ok.funs,I.ok.frf⟩,
  I.os,I.bare,I.base,I.loc,I.cell,I.free,I.freeC,fun p z=>I.pin p (hp p z),I.hok,I.len⟩
theorem inv_pn {pn:List (Addr×Obj)} {EE:Value->Shared->Prop} (I:Inv X pins σ H s) (hp:∀ p∈pn++pins',p∈X.pn++pins):Inv { X with pn:=pn,xe:=EE } pins' σ H s:=
 ⟨⟨I.ok.mod,I.ok.kind,I.ok.glob,I.ok.blt,I.ok.above,I.ok.inj,I.ok.has,I.ok.cab,I.ok.hd,I.ok.frames,I.ok.stk,I.ok.exf,I.ok.bs,I.ok.bsz,I.ok.noex,I.ok.exfs,I.ok.funs,I.ok.frf⟩,
  I.os,I.bare,I.base,I.loc,I.cell,I.free,I.freeC,fun p z=>I.pin p (hp p z),I.hok,I.len⟩
theorem zHq {pn:List (Addr×Obj)} {EE:Value->Shared->Prop} (I:Inv { X with pn:=pn,xe:=EE } pins' σ H s) (hp:∀ p∈X.pn++pins,p∈pn++pins'):Inv X pins σ H s:=
 ⟨⟨I.ok.mod,I.ok.kind,I.ok.glob,I.ok.blt,I.ok.above,I.ok.inj,I.ok.has,I.ok.cab,I.ok.hd,I.ok.frames,I.ok.stk,I.ok.exf,I.ok.bs,I.ok.bsz,I.ok.noex,I.ok.exfs,I.ok.funs,I.ok.frf⟩,
  I.os,I.bare,I.base,I.loc,I.cell,I.free,I.freeC,fun p z=>I.pin p (hp p z),I.hok,I.len⟩
end
noncomputable def tTry (C:Addr) (E':XK) (i:Nat) (tb:TS) (te:Addr->Addr->TE):TS:=fun D σ H=>tb D σ H/\∀ x dx H' σ',E' (.ref C) (some dx) H'->σ'[i]? = some (some (.ref x))->te x dx σ' H' D.rt
theorem ps_try {X:Cx} {C N fI:Addr} {n:Str} {i:Nat} {E':XK} {body:List Stmt} {tb:TS} {te:Addr->Addr->TE} {ecall:Expr} {tp rpos hpos pos:Pos} (T:TF X.K C N fI) (hm:X.mg "TextFault" = some (.ref C)) (hst:X.stack=X.env::X.outer)
  (hfr:X.env.frame=some X.env.locals) (hN:X.N.Nodup) (hi:X.N[i]? = some n) (hl:X.env.scope.names.lookup n=some .local) (hcls:(X.env.scope.kind == .class||(X.env.scope.kind == .module&&X.env.locals != X.env.globals))=false)
  (hb:∀ pn EE,zBL (CXF X.prog X.w C) { X with pn:=pn,xe:=EE } E'->PSs { X with pn:=pn,xe:=EE } body tb)
  (hs:∀ x o dx pn,(x,o)∈pn->o.cls = .ref C->o.dict=some dx->(∀ c,o.data ≠ .cls c)->PE (XH X x pn) ecall (te x dx)) (hg:Gl X "TextFault" := by rfl):
  PS X (.Try body [.ExceptHandler (some (.Name "TextFault" tp)) (some n) [.Return (some ecall) rpos] hpos] [] [] pos) (tTry C E' i tb te):=by
 intro pins s σ H D I h
 obtain ⟨h1,h2⟩:=h
 refine wpAny_Try_except ?_
 have pass:zBL (CXF X.prog X.w C) { X with pn:=X.pn++pins,xe:=fun e s1=>∃ pins' σ1 H1 sc,Inv { X with pn:=X.pn++pins } pins' σ1 H1 sc/\CXF X.prog X.w C X.stack H1 sc E' e s1 } E':=fun pins' σ1 H1 sc e s1 I1 hx=>
  ⟨pins',σ1,H1,sc,zHq (X:={ X with pn:=X.pn++pins }) I1 (fun p z=>z),hx⟩
 have I0:=inv_pn (pn:=X.pn++pins) (pins':=[]) (EE:=fun e s1=>∃ pins' σ1 H1 sc,Inv { X with pn:=X.pn++pins } pins' σ1 H1 sc/\CXF X.prog X.w C X.stack H1 sc E' e s1) I (fun p z=>by rw [List.append_nil] at z; exact z)
 have back:∀ {σ':L2.St} {H':Hp} {s':Shared},Inv { X with pn:=X.pn++pins,xe:=fun e s1=>∃ pins' σ1 H1 sc,Inv { X with pn:=X.pn++pins } pins' σ1 H1 sc/\CXF X.prog X.w C X.stack H1 sc E' e s1 } [] σ' H' s'->Inv X pins σ' H' s':=
  fun J=>zHq J (fun p z=>by rw [List.append_nil]; exact z)
 refine wpAny_mono (hb _ _ pass [] s σ H D I0 h1) (fun f s' hf=>?_) (fun e s' he=>?_)
 ·cases f with
  | next=>
   obtain ⟨σ',H',J,q⟩:=hf
   exact wpAny_execs_nil ⟨σ',H',back J,q⟩
  | brk=>
   obtain ⟨σ',H',J,q⟩:=hf
   exact ⟨σ',H',back J,q⟩
  | cont=>
   obtain ⟨σ',H',J,q⟩:=hf
   exact ⟨σ',H',back J,q⟩
  | ret u=>
   obtain ⟨v,σ',H',J,r,q⟩:=hf
   exact ⟨v,σ',H',back J,r,q⟩
 ·obtain ⟨pins',σ1,H1,sc,I1,x,dx,H',rfl,ho,hbare,hu,hok,hxn,hxs,⟨o,vs,Tt,e1,e2,e3,e4,e5,e6,e7⟩,hE⟩:=he
  have I2:Inv { X with pn:=X.pn++pins } pins' σ1 H' s':=I1.call' (ch:=[]) ho hu hok hbare (fun b z=>absurd z (by simp))
  have hA:X.A.frames=some (X.env::X.outer):=by rw [<- hst]; exact I.ok.frames
  have hF:s'.heap.FunFrames X.base (X.env::X.outer):=by rw [<- hst]; exact I2.stack
  refine zIX hA hF hfr e1 e4 e5 fun h' G=>?_
  have efs:(X.env::X.outer).filterMap (·.frame)=frs X.stack:=by rw [hst]; rfl
  rw [efs] at G
  have hu':=un_gone hu G hxs (fun t z=>by cases z; exact e6) (fun _ _ _ z=>z)
  have hok':HOk X.prog X.w H' h':=zNJ hok G (fun b z=>I2.stkFree b z) hxn (fun t z=>by cases z; exact e7)
  have I3:Inv { X with pn:=X.pn++pins } pins' σ1 H' { s' with heap:=h' }:=I1.call' (s':={ s' with heap:=h' }) (ch:=[]) ho hu' hok' hbare (fun b z=>absurd z (by simp))
  obtain ⟨o',vs',T',g1,g2,g3,g4,⟨g5,g6,oT,ts,g7,g8,g9⟩,g10⟩:=G.exc
  have ncls:∀ c,o'.data ≠ .cls c:=fun c z=>by rw [g4] at z; cases z
  have xl:x≠X.env.locals:=fun z=>by
   obtain ⟨m,⟨ob,_,_,hob,_⟩,_⟩:=I1.loc
   have hob:sc.heap.get? X.env.locals=some ob:=hob
   rw [<- z,hxs] at hob
   cases hob
  have xf:x∉X.fs:=fun z=>by
   obtain ⟨_,ob,hob,hnf⟩:=I3.ok.funs.mem z
   obtain ⟨o1,z1⟩:=I1.base.there x ob hob (fun q=>I1.ok.exfs x q z)
   rw [hxs] at z1
   cases z1
  have I4:Inv (XH X x ((x,o')::(X.pn++pins))) [] σ1 H' { s' with heap:=h' }:=by
   refine zMe (pins:=pins') (X:={ X with pn:=X.pn++pins }) I3 fun p z=>?_
   rw [List.append_nil] at z
   rcases List.mem_cons.mp z with z | z
   ·subst z
    exact ⟨g1,hxn,xl,xf,fun v q=>by rw [g4] at q; cases q⟩
   ·exact I3.pin p (List.mem_append_left _ z)
  refine wpAny_handleBy_cons (codeAny_handlers_test ?_) (by intro q; cases q)
  refine zCR I4 hg hm ?_ (by decide)
  obtain ⟨nm,qn,bs,sn,sub,ab,col,dd,k0,k1,k2,k3,k5,hlk⟩:=T.obj
  have hC:=I4.kIn _ _ hlk
  refine wpAny_excMatches_sub_self hC g1 (g2.trans e2) (by decide) ?_
  refine codeAny_handlers_suite_as ?_
  have sz3:3<ts.size:=(Array.getElem?_eq_some_iff.mp g9).1
  refine wpAny_setFlight_none g1 g4 g5 g7 g8 sz3 ?_
  rw [show ({ s' with heap:=h' }:Shared).heap.update T' (Obj.mapFields (·.setIfInBounds 3 Value.none))=h' from Heap.update_setField_same h' T' oT ts 3 .none g7 g8 g9]
  refine zDZ (X:=XH X x ((x,o')::(X.pn++pins))) (v:=V.ref x) I4 hN hi (.inl hl) rfl (fun s5 I5=>?_) (.inr hl)
  have hi2:i<σ1.length:=by
   have:=I4.len
   rw [this]
   exact (List.getElem?_eq_some_iff.mp hi).1
  have q5:=h2 x dx H' (σ1.set i (some (.ref x))) hE (List.getElem?_set_self hi2)
  have run:=pO (pR (pos:=rpos) (hs x o' dx _ List.mem_cons_self (g2.trans e2) (g3.trans e3) ncls)) [] s5 _ H' { nx:=fun _ _=>False,rt:=D.rt } I5 q5
  refine wpAny_mono run (fun f s6 hf=>?_) (fun e s6 z=>z.elim)
  cases f with
  | next=>exact hf.choose_spec.choose_spec.2.elim
  | brk=>exact hf.choose_spec.choose_spec.2.elim
  | cont=>exact hf.choose_spec.choose_spec.2.elim
  | ret u=>
   obtain ⟨v,σ6,H6,I6,r6,q6⟩:=hf
   have I7:Inv X pins σ6 H6 s6:=zMf I.ok.hd I6 (fun p z=>by rw [List.append_nil]; exact List.mem_cons_of_mem _ z)
   obtain ⟨m,hn6,_⟩:=I7.loc
   refine wpAny_nameGoes hl hn6 hcls fun h8 m8 hn8 hs8=>?_
   exact ⟨v,_,H6,zMh I7 hs8 hn8,r6,q6⟩
end RB
end
section
namespace RB
open PySem PySem.Spec PyProof.Rows L2 RX
noncomputable def tPlace (x dx:Addr) (ta:TE):TE:=fun σ H Q=>ta σ H fun v H1=>v = .ref x/\∃ k,H1 dx=some (.xd [("place",.int k)])/\Q (.int k) H1
theorem zNl {X:Cx} {C N fI x dx:Addr} {o:Obj} {pn:List (Addr×Obj)} {e:Expr} {ta:TE} {pos:Pos} (T:TF X.K C N fI) (hp:(x,o)∈pn) (hc:o.cls = .ref C) (hdx:o.dict=some dx) (hnc:∀ c,o.data ≠ .cls c)
  (he:PE (XH X x pn) e ta) (hb:attributeBase e "place" (XH X x pn).env (eval e (XH X x pn).env)=eval e (XH X x pn).env):PE (XH X x pn) (.Attribute e "place" pos) (tPlace x dx ta):=by
 intro pins s σ H Q I h
 refine zMD hb (thn (he pins s σ H _ I h) fun u s1 ⟨v,H1,I1,rv,ev,k,hk,q⟩=>?_)
 subst ev
 obtain rfl:u=Value.ref x:=rv
 obtain ⟨nm,qn,bs,sn,sub,ab,col,dd,k0,k1,k2,k3,k5,mN,hC,hn,_,hp1,_,hg,hh,_⟩:=T.at I1.kIn
 have hx:s1.heap.get? x=some o:=(I1.pin (x,o) (List.mem_append_left _ hp)).1
 obtain ⟨mA,hA,hm⟩:=I1.hok dx _ hk
 have hv:=hm "place"
 have e1:([("place",V.int k)]:List (Str×V)).lookup ("place" : Str)=some (V.int k):=by
  show (match ("place" : Str)==("place" : Str) with | true=>some (V.int k) | false=>none)=_
  rw [beq_self_eq_true]
 rw [e1] at hv
 obtain ⟨u,hu,t,rfl⟩:=RelO.some_of hv
 obtain ⟨hp2,g,d,tk,os⟩:=s1
 exact zNP F.attrBase_Exception hC hn hp1 hg hh zIZ hx hc hnc hdx hA.ns hu ⟨.int k,H1,I1.tok _,⟨_,rfl⟩,q⟩
theorem zNo {X:Cx} {x1:Addr} {pn:List (Addr×Obj)} {k:Nat} {f:Addr} {fd:FuncData} {ps:List Str} {sp:Sp} {x:Str} {p pos:Pos} {e:Expr} {es:List Expr} {t:TA} (F:zIy X.prog X.w X.K X.mg X.base k f fd ps sp) (hr:zKc k X.A)
  (hm:X.mg x=some (.ref f)) (hk:PySem.W.keepIn X.K (.ref f)=true) (hb:zBG X.K fd ps []) (ha:PA (XH X x1 pn) (e::es) t) (hg:Gl (XH X x1 pn) x:=by rfl) (hdb:(x==("__debug__" : Str))=false:=by decide)
  (he:starEach (e::es) (XH X x1 pn).env=(false,eval e (XH X x1 pn).env)::starEach es (XH X x1 pn).env:=by rfl) (hpl:(backTo pos (starEach es (XH X x1 pn).env)).any (·.1)=false:=by rfl):
  PE (XH X x1 pn) (.Call (.Name x p) (e::es) [] pos) (tCall sp [] E0 t):=by
 intro pins s σ H Q I h
 refine wpAny_Call_Name_kw (zCR I hg hm ?_ hdb)
 refine PySem.W.callWith_K (h₀:=X.base) I.ok.mod.kin hk (thn (ha pos pins s σ H _ I h) fun us s1 ⟨vs,H1,I1,r,q⟩=>⟨I1.kIn,?_⟩) he hpl
 have q:sp (vs++[]) H1 Q E0:=q
 rw [List.append_nil] at q
 have hl:(us++[]).length=ps.length:=by rw [List.append_nil,<- r.length]; exact F.len _ _ _ _ q
 have hb2:=hb s1 us I1.kIn hl
 rw [List.append_nil] at hb2
 refine wpAny_call (codeAny_mono (F.run _ X.stack s1 H1 ⟨us,[]⟩ us vs Q (zLb hr) I1.env0 hb2 r q) fun res s' hq=>?_)
 cases res with
 | error e=>exact hq.elim
 | ok fl=>
  cases fl with
  | ret u=>exact I1.after hq
  | next=>exact False.elim hq
  | brk=>exact False.elim hq
  | cont=>exact False.elim hq
end RB
end
section
namespace RB
open PySem PySem.Spec PyProof.Rows L2
noncomputable def papF (p:Rol.Paper):List (Str×V):=rec4 "tail" "longest" "bridge" "near" (vi p.tail) (vi p.longest) (vi p.bridge) (vi p.near)
def zFc (C:Addr) (H:Hp) (a:Addr) (p:Rol.Paper):Prop:=∃ dx,H a=some (.ins C dx (papF p))
theorem zFc.same {C:Addr} {H H':Hp} {a:Addr} {p:Rol.Paper} (h:zFc C H a p) (s:Same H H'):zFc C H' a p:=let ⟨dx,e⟩:=h; ⟨dx,s _ _ e⟩
theorem zBQ (p:Rol.Paper):(papF p).lookup ("tail" : Str)=some (vi p.tail):=rec4_a (by decide) (by decide) (by decide)
theorem zCk (p:Rol.Paper):(papF p).lookup ("longest" : Str)=some (vi p.longest):=rec4_b (by decide) (by decide)
theorem zBW (p:Rol.Paper):(papF p).lookup ("bridge" : Str)=some (vi p.bridge):=rec4_c (by decide)
theorem zLs (p:Rol.Paper):(papF p).lookup ("near" : Str)=some (vi p.near):=rec4_d
noncomputable abbrev zHk:List Str:=["tail","longest","bridge","near"]
section
variable {P:Program} {w:World} {K:PySem.W.Frag} {mg:Str->Option Value} {base:Heap}
noncomputable def zFJ:Sp:=fun vs H Q _=>∃ (r n:Nat),vs=[vi r,vi n]/\n<=1000/\∀ (p:Addr) (H':Hp),Same H H'->H p=none->H' p=some (.lst (vis (RC.shareL n r)))->Q (.ref p) H'
theorem zFU:zAc ["rows","things","thing"] ["rows","things"] (zAa zFZ):=⟨rfl,rfl,rfl,by decide +kernel,rfl,by decide +kernel,by decide +kernel⟩
theorem zLw {f:Addr} {fd:FuncData} (F:Fun K "shared" "shared" zFZ f fd) (hrange:mg "range" = none):FnOk P w K mg base CX0 1 f fd ["rows","things"] zFJ:=by
 refine F.ok zFU (fun vs H Q E h=>?_) (fun cdv A outer s H vs Q E hr h=>?_)
 ·obtain ⟨r,n,rfl,_⟩:=h
  rfl
 ·obtain ⟨r,n,rfl,hn,k⟩:=h
  refine ⟨_,pO (pR (zLq (own:=[("thing",2)]) rfl zFU.nd (zHh rfl hrange (pA (pv 1) pN)) (zCB (by show blkC ["rows","things","thing"] (zAa zFZ) _ _=true; decide +kernel)) (fun _ _ _ _ _=>zAn (i:=2) zFU.nd rfl (Or.inl rfl)) (fun _ _ _ _ _=>zDu)
   (fun _ _ _ _ _=>zAs zBc (zAs op_fdiv (pv 0) (pv 1)) (zIT (cR zCC (pv 2) (zAs op_mod (pv 0) (pv 1)) (zAe _)) zAb zAb)))),?_⟩
  refine ⟨_,rfl,(n:Int),rfl,by omega,by omega,fun D hD=>?_⟩
  rw [Int.toNat_natCast]
  refine zJg (fun i H'=>Same H H'/\H' D=some (.lst (vis ((RC.shareL n r).take i)))) ⟨Same.new (Same.refl H) hD,uS⟩ ?_ ?_
  ·rintro i H1 hi ⟨s1,h1⟩
   have hlen:((RC.shareL n r).take i).length<=n:=by
    rw [List.length_take]
    have:(RC.shareL n r).length=n:=by simp [RC.shareL]
    omega
   have hget:(RC.shareL n r)[i]? = some (Rol.share n r i):=by
    unfold RC.shareL
    rw [List.getElem?_map,List.getElem?_range hi]
    rfl
   have fin:∀ z:Int,z=((Rol.share n r i:Nat):Int)->∃ acc,H1 D=some (.lst acc)/\acc.length<sizeLine/\Same H (upd H1 D (.lst (acc++[.int z])))/\(upd H1 D (.lst (acc++[.int z]))) D=some (.lst (vis ((RC.shareL n r).take (i+1)))):=fun z hz=>by
    refine ⟨_,h1,?_,Same.own s1 hD,?_⟩
    ·rw [zAg]
     exact zAq (by omega)
    ·rw [uS,zAl hget,zAU,hz]
     rfl
   have hq:((r:Int) / (n:Int))=((r / n:Nat):Int):=by omega
   have hm:((r:Int) % (n:Int))=((r % n:Nat):Int):=by omega
   refine ⟨rfl,?_⟩
   refine ⟨_,rfl,_,rfl,_,_,rfl,rfl,⟨by omega,by omega⟩,_,rfl,_,rfl,_,rfl,_,_,rfl,rfl,(by omega),_,_,rfl,rfl,_,rfl,?_⟩
   unfold Rol.share at fin
   refine ite2 (fun hc=>?_) (fun hc=>?_)
   ·have hc:=of_decide_eq_true hc
    refine ⟨_,_,rfl,rfl,?_⟩
    refine fin _ ?_
    rw [if_pos (by omega)]
    omega
   ·have hc:¬ _:=fun z=>hc (decide_eq_true z)
    refine ⟨_,_,rfl,rfl,?_⟩
    refine fin _ ?_
    rw [if_neg (by omega)]
    omega
  ·rintro H1 ⟨s1,h1⟩
   refine k D H1 s1 hD ?_
   rw [h1,List.take_of_length_le (by simp [RC.shareL])]
end
end RB
end
section
namespace RB
open PySem PySem.Spec PyProof.Rows L2
section
variable {P:Program} {w:World} {K:PySem.W.Frag} {mg:Str->Option Value} {base:Heap}
noncomputable def zAW (p:Rol.Paper) (r:Int):Nat:=if r<=0 then 0 else (Rol.fewest p r.toNat).getD 0
theorem few_end {p:Rol.Paper} {r:Int} {k:Nat} (hp:RC.PaperOk p) (h1:1<=k) (hlow:∀ j:Nat,1<=j->j<k->(j:Int)*p.longest+((j:Int)-1)*p.tail<r) (hhigh:r<=(k:Int)*p.longest+((k:Int)-1)*p.tail):
  zAW p r=if r<(k:Int)+((k:Int)-1)*p.bridge then 0 else if 1<k/\p.tail<p.bridge then 0 else k:=by
 unfold zAW
 have cast:∀ (j q:Nat),1<=j->((j:Int)-1)*(q:Int)=(((j-1)*q:Nat):Int):=fun j q hj=>by
  rw [Int.natCast_mul]
  congr 1
  omega
 by_cases hr:r<=0
 ·rw [if_pos hr,if_pos]
  rw [cast k p.bridge h1]
  omega
 ·rw [if_neg hr]
  have F:RC.Few p r.toNat k:=by
   refine ⟨h1,fun j a b=>?_,?_⟩
   ·have:=hlow j a b
    rw [cast j p.tail a,<- Int.natCast_mul] at this
    omega
   ·rw [cast k p.tail h1,<- Int.natCast_mul] at hhigh
    omega
  rw [RC.fewest_eq hp.l1 F,cast k p.bridge h1]
  by_cases c1:r<(k:Int)+(((k-1)*p.bridge:Nat):Int)
  ·rw [if_pos c1,if_neg (by omega)]
   rfl
  ·rw [if_neg c1]
   by_cases c2:1<k/\p.tail<p.bridge
   ·rw [if_pos c2,if_neg (by omega)]
    rfl
   ·rw [if_neg c2,if_pos (by omega)]
    rfl
noncomputable def zFL (CP:Addr):Sp:=fun vs H Q _=>∃ (r:Int) (a:Addr) (p:Rol.Paper),vs=[.int r,.ref a]/\zFc CP H a p/\RC.PaperOk p/\r<=4294967296/\Q (vi (zAW p r)) H
theorem zFV:zAc ["rows","paper","slots"] ["rows","paper"] (zAa zHY):=⟨rfl,rfl,rfl,by decide +kernel,rfl,by decide +kernel,by decide +kernel⟩
theorem zLA {f CP:Addr} {fd:FuncData} (F:Fun K "fewest_slots" "fewest_slots" zHY f fd) (T:Cl K CP zHk):FnOk P w K mg base CX0 1 f fd ["rows","paper"] (zFL CP):=by
 refine F.ok zFV (fun vs H Q E h=>?_) (fun cdv A outer s H vs Q E hr h=>?_)
 ·obtain ⟨r,a,p,rfl,_⟩:=h
  rfl
 ·obtain ⟨r,a,p,rfl,⟨dx,ha⟩,hp,hb,k⟩:=h
  refine ⟨_,pC (pS (i:=2) zFV.nd rfl (Or.inl rfl) zAb)
   (pC (zDe PassesOwn.never (cR zCC (zAs zBc (zAs zFm (pv 2) (pF (pv 1) rfl)) (zAs zFm (zAs zBx (pv 2) zAb) (pF (pv 1) rfl))) (pv 0) (zAe _)) (pO (zFk (i:=2) zFV.nd rfl (Or.inl rfl) zAb zHo)))
   (pC (zAC (cR zEL (zAs zBc (pv 2) (zAs zFm (zAs zBx (pv 2) zAb) (pF (pv 1) rfl))) (pv 0) (zAe _)) (pO (pR zAb)) zAf)
   (pC (zAC (PW.pt (zEF (cR zEL (pv 2) zAb (zAe _)) (zCN (cR zEL (pF (pv 1) rfl) (pF (pv 1) rfl) (zAe _))))) (pO (pR zAb)) zAf)
   (pO (pR (pv 2)))))),?_⟩
  have hl1:=hp.l1
  have hl2:=hp.l2
  have ht:=hp.t
  have hb2:=hp.b2
  refine ⟨fun m σ H'=>∃ n:Nat,m=(r-n).toNat/\σ=[some (.int r),some (.ref a),some (vi n)]/\H'=H/\1<=n/\∀ j:Nat,1<=j->j<n->(j:Int)*p.longest+((j:Int)-1)*p.tail<r,⟨_,1,rfl,rfl,rfl,by omega,fun j a b=>by omega⟩,?_⟩
  rintro m σ H' ⟨n,rfl,rfl,rfl,hn,hlow⟩
  have bl:CMul (n:Int) (p.longest:Int):=.inr ⟨by omega,by omega⟩
  have bt:CMul ((n:Int)-1) (p.tail:Int):=.inr ⟨by omega,by omega⟩
  have bb:CMul ((n:Int)-1) (p.bridge:Int):=.inr ⟨by omega,by omega⟩
  refine ⟨_,rfl,_,rfl,a,CP,dx,_,_,rfl,ha,T.cl,T.no _ (by simp),zCk p,?_⟩
  refine ⟨_,_,rfl,rfl,bl,_,rfl,_,_,rfl,rfl,_,rfl,a,CP,dx,_,_,rfl,ha,T.cl,T.no _ (by simp),zBQ p,?_⟩
  refine ⟨_,_,rfl,rfl,bt,_,_,rfl,rfl,_,rfl,_,_,rfl,rfl,_,rfl,?_⟩
  refine ite2 (fun hc=>?_) (fun hc=>?_)
  ·have hc:=of_decide_eq_true hc
   refine ⟨fun σ' H2=>∃ n':Nat,n'=n+1/\σ'=[some (.int r),some (.ref a),some (vi n')]/\H2=H' ,?_,?_⟩
   ·rintro σ' H2 ⟨n',rfl,rfl,rfl⟩
    have hnl:(n:Int)<=(n:Int)*p.longest:=by
     have h1:(n:Int)*1<=(n:Int)*(p.longest:Int):=Int.mul_le_mul_of_nonneg_left (by omega) (by omega)
     omega
    have hnt:0<=((n:Int)-1)*(p.tail:Int):=Int.mul_nonneg (by omega) (by omega)
    refine ⟨_,?_,n+1,rfl,rfl,rfl,by omega,fun j a b=>?_⟩
    ·omega
    ·by_cases hj:j<n
     ·exact hlow j a hj
     ·obtain rfl:j=n:=by omega
      exact hc
   ·exact ⟨_,rfl,_,_,rfl,rfl,n+1,rfl,rfl,rfl⟩
  ·have hc:¬ _:=fun z=>hc (decide_eq_true z)
   have e:=few_end hp hn hlow (by omega)
   rw [e] at k
   refine ⟨_,rfl,_,rfl,_,_,rfl,rfl,_,rfl,a,CP,dx,_,_,rfl,ha,T.cl,T.no _ (by simp),zBW p,?_⟩
   refine ⟨_,_,rfl,rfl,bb,_,_,rfl,rfl,_,rfl,_,_,rfl,rfl,_,rfl,?_⟩
   refine ite2 (fun h1=>?_) (fun h1=>?_)
   ·rw [if_pos (of_decide_eq_true h1)] at k
    exact k
   ·rw [if_neg (fun z=>h1 (decide_eq_true z))] at k
    refine ⟨_,rfl,_,_,rfl,rfl,_,rfl,?_⟩
    refine ite2 (fun h2=>?_) (fun h2=>?_)
    ·have h2:=of_decide_eq_true h2
     refine ⟨_,rfl,a,CP,dx,_,_,rfl,ha,T.cl,T.no _ (by simp),zBW p,?_⟩
     refine ⟨_,rfl,a,CP,dx,_,_,rfl,ha,T.cl,T.no _ (by simp),zBQ p,?_⟩
     refine ⟨_,_,rfl,rfl,_,rfl,?_⟩
     refine ite2 (fun h3=>?_) (fun h3=>?_)
     ·have h3:=of_decide_eq_true h3
      rw [if_pos (by omega)] at k
      exact k
     ·have h3:¬ _:=fun z=>h3 (decide_eq_true z)
      rw [if_neg (by omega)] at k
      exact ⟨_,rfl,k⟩
    ·have h2:¬ _:=fun z=>h2 (decide_eq_true z)
     refine iteF ?_
     rw [if_neg (by omega)] at k
     exact ⟨_,rfl,k⟩
end
end RB
end
section
namespace RB
open PySem PySem.Spec PyProof.Rows L2
theorem for_zip {K:PySem.W.Frag} {a b:Addr} {xs ys:List V} {g:TG} {tb:TS} {D:Ends} {σ:L2.St} {H:Hp} (Pv:Nat->L2.St->Hp->Prop) (h0:Pv 0 σ H) (hl:∀ i σ H,Pv i σ H->SqL K H a xs/\SqL K H b ys)
  (hs:∀ i x y T σ H,xs[i]? = some x->ys[i]? = some y->Pv i σ H->H T=none->g (.ref T) σ (upd H T (.tup [x,y])) fun σ2 H2=>tb { D with nx:=Pv (i+1),ct:=Pv (i+1),bk:=D.nx } σ2 H2) (hd:∀ σ H,Pv (min xs.length ys.length) σ H->D.nx σ H):
  ∃ W:Nat->Nat->L2.St->Hp->Prop,(∃ m,W 0 m σ H)/\∀ i m σ H,W i m σ H->
   ((Itz K a b).stop i H/\D.nx σ H)\/((Itz K a b).go i H/\∃ N:L2.St->Hp->Prop,(∀ σ' H',N σ' H'->∃ m',m'<m/\W (i+1) m' σ' H')/\∀ x H',(Itz K a b).yld i H x H'->g x σ H' fun σ2 H2=>tb { D with nx:=N,ct:=N,bk:=D.nx } σ2 H2):=by
 refine ⟨fun i m σ H=>m=min xs.length ys.length-i/\i<=min xs.length ys.length/\Pv i σ H,⟨_,rfl,Nat.zero_le _,h0⟩,?_⟩
 rintro i m σ H ⟨rfl,hi,p⟩
 obtain ⟨q1,q2⟩:=hl i σ H p
 by_cases hlt:i<min xs.length ys.length
 ·have hx:i<xs.length:=by omega
  have hy:i<ys.length:=by omega
  refine .inr ⟨⟨xs,ys,xs[i],ys[i],q1,q2,by simp [hx],by simp [hy]⟩,Pv (i+1),fun σ' H' p'=>⟨min xs.length ys.length-(i+1),by omega,rfl,hlt,p'⟩,fun z H' yl=>?_⟩
  obtain ⟨T,x,y,rfl,hT,rfl,e1,e2⟩:=yl
  exact hs i x y T σ H (e1 xs q1) (e2 ys q2) p hT
 ·have e:i=min xs.length ys.length:=by omega
  subst e
  exact .inl ⟨⟨xs,ys,q1,q2,by omega⟩,hd σ H p⟩
structure zGA (H:Hp) (l:Addr) (xs:List (Nat×Nat)):Prop where
 ex:∃ ts:List Addr,H l=some (.lst (ts.map V.ref))/\ts.length=xs.length/\∀ (i:Nat) (t:Addr) (x:Nat×Nat),ts[i]? = some t->xs[i]? = some x->H t=some (.tup [vi x.1,vi x.2])
theorem zAm {α:Type} {l:List α} {a b:α} {i:Nat} (h:(l++[a])[i]? = some b):(l[i]? = some b/\i<l.length)\/(i=l.length/\b=a):=by
 by_cases hi:i<l.length
 ·rw [List.getElem?_append_left hi] at h
  exact .inl ⟨h,hi⟩
 ·rw [List.getElem?_append_right (by omega)] at h
  have:=(List.getElem?_eq_some_iff.mp h).1
  simp at this
  have e:i-l.length=0:=by omega
  rw [e] at h
  simp at h
  exact .inr ⟨by omega,h.symm⟩
section
variable {P:Program} {w:World} {K:PySem.W.Frag} {mg:Str->Option Value} {base:Heap}
noncomputable def zKx:Sp:=fun vs H Q _=>∃ (a b:Addr) (ls bs:List Nat),vs=[.ref a,.ref b]/\H a=some (.lst (vis ls))/\H b=some (.lst (vis bs))/\ls.length<=1000/\bs.length<=999/\
 ∀ (p:Addr) (H':Hp),Same H H'->H p=none->zGA H' p (RC.laid 0 (ls.zip (bs++[0])))->Q (.ref p) H'
theorem zFj:zAc ["lengths","bridges","slots","first","length","bridge"] ["lengths","bridges"] (zAa sLaid):=⟨rfl,rfl,rfl,by decide +kernel,rfl,by decide +kernel,by decide +kernel⟩
theorem zAT {α:Type} {l:List α} {i:Nat} {x:α} (h:l[i]? = some x):l.drop i=x::l.drop (i+1):=by
 obtain ⟨h1,h2⟩:=List.getElem?_eq_some_iff.mp h
 rw [List.drop_eq_getElem_cons h1,h2]
theorem ok_laid {f:Addr} {fd:FuncData} (F:Fun K "laid_slots" "laid_slots" sLaid f fd) (hzip:mg "zip" = none):FnOk P w K mg base CX0 1 f fd ["lengths","bridges"] zKx:=by
 refine F.ok zFj (fun vs H Q E h=>?_) (fun cdv A outer s H vs Q E hr h=>?_)
 ·obtain ⟨a,b,ls,bs,rfl,_⟩:=h
  rfl
 ·obtain ⟨a,b,ls,bs,rfl,ha,hb,hls,hbs,k⟩:=h
  refine ⟨_,pC (pS (i:=2) zFj.nd rfl (Or.inl rfl) (zAd pN))
   (pC (pS (i:=3) zFj.nd rfl (Or.inl rfl) zAb)
   (pC (zBb PassesOwn.never rfl (pi_zip rfl hzip (pA (pv 0) (pA (zAs zFo (pv 1) (zAd (pA zAb pN))) pN))) (zLo rfl (zCw (zAn (i:=4) zFj.nd rfl (Or.inl rfl)) (zCw (zAn (i:=5) zFj.nd rfl (Or.inl rfl)) zIh)))
    (pC (zAA (zCj PySem.F.plainAttrs_list PySem.F.slot_list_append PySem.F.type_list_append zAM (pv 2) (pA (zFl (pA (pv 3) (pA (pv 4) pN))) pN)))
    (pO (zFk (i:=3) zFj.nd rfl (Or.inl rfl) (zAs zBc (pv 4) (pv 5)) zHo))))
   (pO (pR (pv 2))))),?_⟩
  refine ⟨Nat.zero_le _,fun q hq=>?_⟩
  have s1:Same H (upd H q (.lst [])):=Same.new (Same.refl H) hq
  refine ⟨_,rfl,_,rfl,(by show 1<=sizeLine; decide),fun p1 hp1=>?_⟩
  have s2:Same H (upd (upd H q (.lst [])) p1 (.lst [.int 0])):=Same.new s1 hp1
  have nq1:q≠p1:=nN uS hp1
  have hp1H:H p1=none:=s1.free hp1
  refine ⟨b,p1,_,_,rfl,rfl,s2 _ _ hb,uS,(by rw [zAg]; exact Nat.le_of_lt (zAq (by simp; omega))),fun p2 hp2=>?_⟩
  have s3:=Same.new (o:=.lst (vis bs++[.int 0])) s2 hp2
  have hp2H:H p2=none:=s2.free hp2
  have nq2:q≠p2:=fun z=>by rw [<- z,uN nq1,uS] at hp2; cases hp2
  refine ⟨a,p2,vis ls,vis (bs++[0]),rfl,SqL.of (s3 _ _ ha),SqL.of (by rw [uS,zAU]; rfl),?_⟩
  have ez:∀ i x y,(vis ls)[i]? = some x->(vis (bs++[0]))[i]? = some y->∃ m n,(ls.zip (bs++[0]))[i]? = some (m,n)/\x=vi m/\y=vi n:=fun i x y h1 h2=>by
   obtain ⟨m,e1,e2⟩:=zBM h1
   obtain ⟨n,e3,e4⟩:=zBM h2
   exact ⟨m,n,List.getElem?_zip_eq_some.mpr ⟨e1,e3⟩,e2,e4⟩
  refine for_zip (K:=K) (xs:=vis ls) (ys:=vis (bs++[0])) (fun i σ H'=>∃ (n:Nat) (u v:Option V) (done:List (Nat×Nat)),σ=[some (.ref a),some (.ref b),some (.ref q),some (vi n),u,v]/\Same H H'/\H' p2=some (.lst (vis (bs++[0])))/\zGA H' q done/\done.length=i/\
    RC.laid 0 (ls.zip (bs++[0]))=done++RC.laid n ((ls.zip (bs++[0])).drop i)/\i<=1000)
   ⟨0,none,none,[],rfl,s3,by rw [uS,zAU]; rfl,⟨[],by rw [uN nq2,uN nq1,uS]; rfl,rfl,fun i t x h=>by simp at h⟩,rfl,rfl,Nat.zero_le _⟩ ?_ ?_ ?_
  ·rintro i σ H' ⟨n,u,v,done,rfl,s4,h4,_⟩
   exact ⟨SqL.of (s4 _ _ ha),SqL.of h4⟩
  ·rintro i x y T σ H' hx hy ⟨n,u,v,done,rfl,s4,h4,S4,hlen,hlaid,hi⟩ hT
   obtain ⟨m,n',ez1,rfl,rfl⟩:=ez i x y hx hy
   obtain ⟨ts,t1,t2,t3⟩:=S4.ex
   have hi2:i<ls.length:=by
    have:=(List.getElem?_eq_some_iff.mp ez1).1
    rw [List.length_zip] at this
    omega
   have s5:=Same.new (o:=.tup [vi m,vi n']) s4 hT
   refine ⟨T,_,rfl,SqT.of uS,rfl,_,_,rfl,_,_,rfl,rfl,?_⟩
   have nqT:q≠T:=nN t1 hT
   refine ⟨_,rfl,.inl ⟨rfl,_,SqL.of (by rw [uN nqT]; exact t1)⟩,_,rfl,_,rfl,(by show 2<=sizeLine; decide),fun p hp=>?_⟩
   have nqp:q≠p:=fun z=>by rw [<- z,uN nqT,t1] at hp; cases hp
   refine ⟨q,ts.map V.ref,_,rfl,rfl,by rw [uN nqp,uN nqT]; exact t1,(by rw [List.length_map,t2]; exact zAq (by omega)),?_⟩
   refine ⟨_,rfl,_,rfl,_,rfl,_,_,rfl,rfl,_,_,rfl,rfl,?_⟩
   have s6:=Same.new (o:=.tup [vi n,vi m]) s5 hp
   have hqH:H q=none:=hq
   refine ⟨n+(m+n'),some (vi m),some (vi n'),done++[(n,m)],?_,Same.own s6 hqH,?_,⟨ts++[p],?_,?_,?_⟩,?_,?_,?_⟩
   ·have e:(vi (n+(m+n')))=V.int ((n:Int)+((m:Int)+(n':Int))):=by unfold vi; congr 1
    rw [e]
    rfl
   ·have np2:p2≠q:=nq2.symm
    have np2T:p2≠T:=nN h4 hT
    have np2p:p2≠p:=fun z=>by rw [<- z,uN np2T,h4] at hp; cases hp
    rw [uN np2,uN np2p,uN np2T]
    exact h4
   ·rw [uS,List.map_append]
    rfl
   ·rw [List.length_append,List.length_append,t2]
    rfl
   ·intro j t x h1 h2
    rcases zAm h1 with ⟨g1,g2⟩ | ⟨g1,g2⟩
    ·rcases zAm h2 with ⟨g3,g4⟩ | ⟨g3,g4⟩
     ·have hh:=t3 j t x g1 g3
      have ntq:t≠q:=zCc hh t1 (by intro z; cases z)
      have ntT:t≠T:=nN hh hT
      have ntp:t≠p:=fun z=>by rw [<- z,uN ntT,hh] at hp; cases hp
      rw [uN ntq,uN ntp,uN ntT]
      exact hh
     ·omega
    ·rcases zAm h2 with ⟨g3,g4⟩ | ⟨g3,g4⟩
     ·omega
     ·subst g2
      subst g4
      rw [uN nqp.symm,uS]
   ·rw [List.length_append,hlen]
    rfl
   ·rw [hlaid,zAT ez1,RC.laid,List.append_assoc]
    rfl
   ·omega
  ·rintro σ H' ⟨n,u,v,done,rfl,s4,h4,S4,hlen,hlaid,hi⟩
   have e:(ls.zip (bs++[0])).drop (min (vis ls).length (vis (bs++[0])).length)=[]:=by
    rw [List.drop_eq_nil_iff,List.length_zip,zAg,zAg]
    exact Nat.le_refl _
   rw [e] at hlaid
   have hlaid:RC.laid 0 (ls.zip (bs++[0]))=done:=by rw [hlaid]; exact List.append_nil _
   refine ⟨_,rfl,?_⟩
   refine k q H' s4 hq ?_
   rw [hlaid]
   exact S4
end
end RB
end
section
namespace RB
open PySem PySem.Spec PyProof.Rows L2
theorem zKF {p:Rol.Paper} {s:Nat} (hp:RC.PaperOk p):(zAW p ((s:Int)-p.tail)=0->RC.slotsOf p s=[])/\(zAW p ((s:Int)-p.tail)≠0->∃ mm c:Nat,((s:Int)-p.tail)=mm/\c<=mm/\zAW p ((s:Int)-p.tail)<=mm/\mm<=s/\
  (if ((s:Int)-p.tail)-(zAW p ((s:Int)-p.tail):Int)*p.longest>((zAW p ((s:Int)-p.tail):Int)-1)*p.bridge then ((s:Int)-p.tail)-(zAW p ((s:Int)-p.tail):Int)*p.longest else ((zAW p ((s:Int)-p.tail):Int)-1)*p.bridge)=(c:Int)/\
  RC.slotsOf p s=RC.laid 0 ((RC.shareL (zAW p ((s:Int)-p.tail)) (mm-c)).zip (RC.shareL (zAW p ((s:Int)-p.tail)-1) c++[0]))):=by
 by_cases hs:s<=p.tail
 ·rw [RC.slots_none hs]
  unfold zAW
  rw [if_pos (by omega)]
  exact ⟨fun _=>rfl,fun z=>absurd rfl z⟩
 ·obtain ⟨k,F⟩:=RC.Few.exists p (s-p.tail) hp.l1
  have e1:zAW p ((s:Int)-p.tail)=(if k+(k-1)*p.bridge<=s-p.tail/\(k=1\/p.bridge<=p.tail) then k else 0):=by
   unfold zAW
   rw [if_neg (by omega),show ((s:Int)-p.tail).toNat=s-p.tail by omega,RC.fewest_eq hp.l1 F]
   split <;> rfl
  have hk:=F.pos
  have cast:∀ (j q:Nat),1<=j->((j:Int)-1)*(q:Int)=(((j-1)*q:Nat):Int):=fun j q hj=>by
   rw [Int.natCast_mul]
   congr 1
   omega
  rw [RC.slots_few hp.l1 (by omega) F,e1]
  by_cases hc:k+(k-1)*p.bridge<=s-p.tail/\(k=1\/p.bridge<=p.tail)
  ·rw [if_pos hc,if_pos hc]
   refine ⟨fun z=>by omega,fun _=>⟨s-p.tail,Rol.closedIn p (s-p.tail) k,by omega,?_,by omega,by omega,?_,rfl⟩⟩
   ·unfold Rol.closedIn
    omega
   ·unfold Rol.closedIn
    rw [cast k p.bridge hk,<- Int.natCast_mul]
    split <;> omega
  ·rw [if_neg hc,if_neg hc]
   exact ⟨fun _=>rfl,fun z=>absurd rfl z⟩
section
variable {P:Program} {w:World} {K:PySem.W.Frag} {mg:Str->Option Value} {base:Heap}
noncomputable def zEr (CP:Addr):Sp:=fun vs H Q _=>∃ (s:Nat) (a:Addr) (p:Rol.Paper),vs=[vi s,.ref a]/\zFc CP H a p/\RC.PaperOk p/\s<=300/\
 ∀ (q:Addr) (H':Hp),Same H H'->H q=none->zGA H' q (RC.slotsOf p s)->Q (.ref q) H'
theorem zFW:zAc ["sounding","paper","rows","slots","bridged"] ["sounding","paper"] (zAa zKV):=⟨rfl,rfl,rfl,by decide +kernel,rfl,by decide +kernel,by decide +kernel⟩
theorem zNy {f CP:Addr} {fd:FuncData} (F:Fun K "chain_slots" "chain_slots" zKV f fd) (T:Cl K CP zHk) (hmax:mg "max" = none) (G1:GF P w K mg base CX0 1 "fewest_slots" ["rows","paper"] (zFL CP)) (G2:GF P w K mg base CX0 1 "shared" ["rows","things"] zFJ)
  (G3:GF P w K mg base CX0 1 "laid_slots" ["lengths","bridges"] zKx):FnOk P w K mg base CX0 2 f fd ["sounding","paper"] (zEr CP):=by
 refine F.ok zFW (fun vs H Q E h=>?_) (fun cdv A outer s H vs Q E hr h=>?_)
 ·obtain ⟨r,a,p,rfl,_⟩:=h
  rfl
 ·obtain ⟨s,a,p,rfl,⟨dx,ha⟩,hp,hs,k⟩:=h
  refine ⟨_,pC (pS (i:=2) zFW.nd rfl (Or.inl rfl) (zAs zBx (pv 0) (pF (pv 1) rfl)))
   (pC (pS (i:=3) zFW.nd rfl (Or.inl rfl) (cG G1 hr zAh (pA (pv 2) (pA (pv 1) pN))))
   (pC (zAC (cR zCD (pv 3) zAb (zAe _)) (pO (pR (zAd pN))) zAf)
   (pC (pS (i:=4) zFW.nd rfl (Or.inl rfl) (zAt (zMB rfl) rfl hmax (by decide +kernel) (pA (zAs zFm (zAs zBx (pv 3) zAb) (pF (pv 1) rfl)) (pA (zAs zBx (pv 2) (zAs zFm (pv 3) (pF (pv 1) rfl))) pN))))
   (pO (pR (cG G3 hr zAh (pA (cG G2 hr zAh (pA (zAs zBx (pv 2) (pv 4)) (pA (pv 3) pN))) (pA (cG G2 hr zAh (pA (pv 4) (pA (zAs zBx (pv 3) zAb) pN))) pN)))))))),?_⟩
  have hl1:=hp.l1
  have hl2:=hp.l2
  have ht:=hp.t
  have hb2:=hp.b2
  obtain ⟨v0,v1⟩:=zKF (s:=s) hp
  refine ⟨_,rfl,_,rfl,a,CP,dx,_,_,rfl,ha,T.cl,T.no _ (by simp),zBQ p,_,_,rfl,rfl,?_⟩
  refine ⟨_,rfl,_,rfl,_,a,p,rfl,⟨dx,ha⟩,hp,by omega,?_⟩
  refine ⟨_,rfl,rfl,_,rfl,?_⟩
  generalize hk:zAW p ((s:Int)-p.tail)=n at *
  refine ite2 (fun h0=>?_) (fun h0=>?_)
  ·have h0:n=0:=by
    have:=of_decide_eq_true h0
    unfold vi at this
    injection this with this
    omega
   refine ⟨Nat.zero_le _,fun q hq=>?_⟩
   refine k q _ (Same.new (Same.refl H) hq) hq ?_
   rw [v0 h0]
   exact ⟨[],uS,rfl,fun i t x h=>by simp at h⟩
  ·have h0:n≠0:=fun z=>h0 (decide_eq_true (by rw [z]; rfl))
   obtain ⟨mm,c,e1,e2,e3,e3',e4,e5⟩:=v1 h0
   refine ⟨_,rfl,_,_,rfl,rfl,_,rfl,a,CP,dx,_,_,rfl,ha,T.cl,T.no _ (by simp),zBW p,_,_,rfl,rfl,.inr ⟨by omega,by omega⟩,?_⟩
   refine ⟨_,rfl,_,rfl,_,rfl,a,CP,dx,_,_,rfl,ha,T.cl,T.no _ (by simp),zCk p,_,_,rfl,rfl,.inr ⟨by omega,by omega⟩,_,_,rfl,rfl,_,_,rfl,?_⟩
   rw [e4]
   refine ⟨_,rfl,_,rfl,_,_,rfl,rfl,_,rfl,mm-c,n,?_,by omega,fun q1 H1 s1 hq1 hl1=>?_⟩
   ·have ee:V.int ((s:Int)-(p.tail:Int)-(c:Int))=vi (mm-c):=by
     unfold vi
     congr 1
     omega
    show [V.int ((s:Int)-(p.tail:Int)-(c:Int)),vi n]=_
    rw [ee]
   ·refine ⟨_,rfl,_,rfl,_,_,rfl,rfl,c,n-1,?_,by omega,fun q2 H2 s2 hq2 hl2=>?_⟩
    ·have ee:V.int ((n:Int)-1)=vi (n-1):=by
      unfold vi
      congr 1
      omega
     show [V.int (c:Int),V.int ((n:Int)-1)]=_
     rw [ee]
     rfl
    ·refine ⟨q1,q2,_,_,rfl,s2 _ _ hl1,hl2,(by simp [RC.shareL]; omega),(by simp [RC.shareL]; omega),fun q3 H3 s3 hq3 S3=>?_⟩
     refine k q3 H3 ((s1.trans s2).trans s3) ((s1.trans s2).free hq3) ?_
     rw [e5]
     exact S3
end
end RB
end
section
namespace RB
open PySem PySem.Spec PyProof.Rows L2
noncomputable def runF (n:Nat) (l:Addr):List (Str×V):=rec2 "rows" "tracks" (vi n) (.ref l)
theorem zAX (n:Nat) (l:Addr):(runF n l).lookup ("rows" : Str)=some (vi n):=zHc (by decide)
theorem zAz (n:Nat) (l:Addr):(runF n l).lookup ("tracks" : Str)=some (.ref l):=zHb
structure zGB (CR:Addr) (H:Hp) (a:Addr) (r:RC.Run):Prop where
 ex:∃ dx l,H a=some (.ins CR dx (runF r.1 l))/\H l=some (.lst (vis r.2))
theorem zGB.same {CR:Addr} {H H':Hp} {a:Addr} {r:RC.Run} (h:zGB CR H a r) (s:Same H H'):zGB CR H' a r:=let ⟨dx,l,a1,a2⟩:=h.ex; ⟨dx,l,s _ _ a1,s _ _ a2⟩
structure zAr (H:Hp) (d:Addr) (m:Nat->Option V) (n:Nat):Prop where
 ex:∃ kvs,H d=some (.dK kvs)/\(∀ t:Nat,valV kvs (Sum.inl (t:Int))=m t)/\kvs.length<=n
section
variable {H H':Hp} {d:Addr} {m:Nat->Option V} {n:Nat}
theorem zAr.frame (h:zAr H d m n) (e:H' d=H d):zAr H' d m n:=let ⟨kvs,a,b⟩:=h.ex; ⟨kvs,e.trans a,b⟩
theorem zAr.same (h:zAr H d m n) (s:Same H H'):zAr H' d m n:=let ⟨kvs,a,b⟩:=h.ex; ⟨kvs,s _ _ a,b⟩
theorem zAr.get (h:zAr H d m n) (t:Nat):DGet H d (vi t) (m t):=by
 obtain ⟨kvs,a,b,_⟩:=h.ex
 have:=DGet.k (k:=Sum.inl (t:Int)) a
 rw [b t] at this
 exact this
theorem zAr.isD (h:zAr H d m n):IsD H d:=let ⟨kvs,a,_⟩:=h.ex; .inl ⟨kvs,.inl a⟩
theorem zAr.there (h:zAr H d m n):∃ kvs,H d=some (.dK kvs):=let ⟨kvs,a,_⟩:=h.ex; ⟨kvs,a⟩
theorem zAr.mono (h:zAr H d m n) {n':Nat} (hn:n<=n'):zAr H d m n':=let ⟨kvs,a,b,c⟩:=h.ex; ⟨kvs,a,b,Nat.le_trans c hn⟩
theorem zNh (kvs:List (Key×V)) (k:Key) (v:V):(putK kvs k v).length<=kvs.length+1:=by
 unfold putK
 split
 ·rw [List.length_map]; omega
 ·rw [List.length_append]; exact Nat.le_refl _
theorem zAr.put (h:zAr H d m n) (hn:n<sizeLine) (t:Nat) (v:V):∃ kvs',DPut H d (vi t) v (upd H d (.dK kvs'))/\zAr (upd H d (.dK kvs')) d (fun u=>if u=t then some v else m u) (n+1):=by
 obtain ⟨kvs,a,b,c⟩:=h.ex
 refine ⟨_,DPut.k (k:=Sum.inl (t:Int)) a (Nat.lt_of_le_of_lt c hn),⟨_,uS,fun u=>?_,Nat.le_trans (zNh _ _ _) (by omega)⟩⟩
 rw [zMM]
 by_cases z:u=t
 ·subst z
  rw [if_pos rfl,if_pos rfl]
 ·have z2:¬ (Sum.inl (u:Int):Key)=Sum.inl (t:Int):=fun q=>z (by injection q with q; omega)
  rw [if_neg z2,if_neg z,b u]
end
theorem zKh {H:Hp} {a:Addr} {o:HO} (h:H a=some o):upd H a o=H:=by
 funext b
 by_cases z:b=a
 ·rw [z,uS,h]
 ·rw [uN z]
noncomputable def mD (f:Nat->Option Nat):Nat->Option V:=fun t=>(f t).map vi
structure zBd (H:Hp) (l:Addr) (xs:List (List V)):Prop where
 ex:∃ ts:List Addr,H l=some (.lst (ts.map V.ref))/\ts.length=xs.length/\∀ (i:Nat) (t:Addr) (x:List V),ts[i]? = some t->xs[i]? = some x->H t=some (.tup x)
section
variable {H H':Hp} {l:Addr} {xs:List (List V)}
theorem zBd.same (h:zBd H l xs) (s:Same H H'):zBd H' l xs:=let ⟨ts,a,b,c⟩:=h.ex; ⟨ts,s _ _ a,b,fun i t x h1 h2=>s _ _ (c i t x h1 h2)⟩
theorem zBd.nil (h:H l=some (.lst [])):zBd H l []:=⟨[],h,rfl,fun i t x h1=>by simp at h1⟩
theorem zBd.push (h:zBd H l xs):∃ vs,H l=some (.lst vs)/\vs.length=xs.length/\∀ (p:Addr) (x:List V),H p=none->zBd (upd (upd H p (.tup x)) l (.lst (vs++[.ref p]))) l (xs++[x]):=by
 obtain ⟨ts,t1,t2,t3⟩:=h.ex
 refine ⟨_,t1,by rw [List.length_map,t2],fun p x hp=>⟨ts++[p],?_,?_,?_⟩⟩
 ·rw [uS,List.map_append]
  rfl
 ·rw [List.length_append,List.length_append,t2]
  rfl
 ·intro j t y h1 h2
  have nlp:l≠p:=nN t1 hp
  rcases zAm h1 with ⟨g1,g2⟩ | ⟨g1,g2⟩
  ·rcases zAm h2 with ⟨g3,g4⟩ | ⟨g3,g4⟩
   ·have hh:=t3 j t y g1 g3
    rw [uN (zCc hh t1 (by intro z; cases z)),uN (nN hh hp)]
    exact hh
   ·omega
  ·rcases zAm h2 with ⟨g3,g4⟩ | ⟨g3,g4⟩
   ·omega
   ·subst g2
    subst g4
    rw [uN nlp.symm,uS]
theorem zBd.there (h:zBd H l xs):∃ vs,H l=some (.lst vs)/\vs.length=xs.length:=let ⟨ts,a,b,_⟩:=h.ex; ⟨_,a,by rw [List.length_map,b]⟩
end
noncomputable def w3v (z:RC.W3):List V:=[vi z.1,vi z.2.1,vi z.2.2]
abbrev zAK (H:Hp) (l:Addr) (ws:List RC.W3):Prop:=zBd H l (ws.map w3v)
section
variable {P:Program} {w:World} {K:PySem.W.Frag} {mg:Str->Option Value} {base:Heap}
noncomputable abbrev zEB:List Str:=["rows","tracks"]
noncomputable def zHO (CR:Addr):Sp:=fun vs H Q _=>∃ (a b e:Addr) (r:RC.Run) (row n n':Nat) (begins ends:RC.D),vs=[.ref a,vi row,.ref b,.ref e]/\zGB CR H a r/\zAr H b (mD begins) n/\zAr H e (mD ends) n'/\b≠e/\n+r.2.length<sizeLine/\
 ∀ kvs',zAr (upd H b (.dK kvs')) b (mD (RC.begun row begins ends r.2)) (n+r.2.length)->Q .non (upd H b (.dK kvs'))
theorem zKM:zAc ["run","row","begins","ends","track"] ["run","row","begins","ends"] (zAa zKW):=⟨rfl,rfl,rfl,by decide +kernel,rfl,by decide +kernel,by decide +kernel⟩
theorem zNB {f CR:Addr} {fd:FuncData} (F:Fun K "begin_slots" "begin_slots" zKW f fd) (T:Cl K CR zEB):FnOk P w K mg base CX0 1 f fd ["run","row","begins","ends"] (zHO CR):=by
 refine F.ok zKM (fun vs H Q E h=>?_) (fun cdv A outer s H vs Q E hr h=>?_)
 ·obtain ⟨a,b,e,r,row,n,n',begins,ends,rfl,_⟩:=h
  rfl
 ·obtain ⟨a,b,e,r,row,n,n',begins,ends,rfl,hR,hb,he,hbe,hsz,k⟩:=h
  have hu:=zIr hr
  refine ⟨_,pO (zBb PassesOwn.never rfl (zAR (pF (pv 0) rfl)) (zAn (i:=4) zKM.nd rfl (Or.inl rfl))
   (pO (zAC (cR op_ne (zIU hu (pv 3) (pv 4) ⟨rfl,rfl,rfl,rfl⟩) (pv 1) (zAe _)) (pO (zGg hu (pv 2) (pv 4) (pv 1) rfl)) zAf))),?_⟩
  obtain ⟨dx,l,ha,hl⟩:=hR.ex
  obtain ⟨kb,hkb⟩:=hb.there
  obtain ⟨ke,hke⟩:=he.there
  have nlb:l≠b:=zCc hl hkb (by intro z; cases z)
  have neb:e≠b:=hbe.symm
  refine ⟨_,rfl,a,CR,dx,_,_,rfl,ha,T.cl,T.no _ (by simp),zAz _ _,l,rfl,⟨_,SqL.of hl⟩,zAI (K:=K) (a:=l) (xs:=vis r.2) (fun i σ H'=>∃ (u:Option V) (kvs':List (Key×V)),σ=[some (.ref a),some (vi row),some (.ref b),some (.ref e),u]/\H'=upd H b (.dK kvs')/\
    zAr H' b (mD (RC.begun row begins ends (r.2.take i))) (n+i)) ⟨none,kb,rfl,(zKh hkb).symm,?_⟩ ?_ ?_ ?_⟩
  ·obtain ⟨kvs,a1,a2,a3⟩:=hb.ex
   refine ⟨kvs,a1,fun t=>?_,a3⟩
   rw [a2]
   unfold mD RC.begun
   simp
  ·rintro i σ H' _ ⟨u,kvs',rfl,rfl,_⟩
   exact SqL.of (by rw [uN nlb]; exact hl)
  ·rintro i y σ H' hi ⟨u,kvs',rfl,rfl,hd⟩
   obtain ⟨t,ht,rfl⟩:=zBM hi
   have he':zAr (upd H b (.dK kvs')) e (mD ends) n':=he.frame (uN neb)
   have hil:i<r.2.length:=(List.getElem?_eq_some_iff.mp ht).1
   refine ⟨_,rfl,e,rfl,he'.isD,_,rfl,_,he'.get t,_,rfl,?_⟩
   have hs:scal ((mD ends t).getD .non) (vi row)=true:=by
    unfold mD
    cases ends t <;> rfl
   refine ⟨hs,_,rfl,?_⟩
   have hdec:((mD ends t).getD .non=vi row)↔ends t=some row:=by
    unfold mD
    cases q:ends t with
    | none=>simp [vi]
    | some v=>
     simp only [Option.map_some,Option.getD_some,Option.some.injEq]
     exact ⟨fun z=>zGG z,fun z=>by rw [z]⟩
   refine ite2 (fun hc=>?_) (fun hc=>?_)
   ·have hc:ends t≠some row:=fun z=>by rw [decide_eq_true (hdec.mpr z)] at hc; exact absurd hc (by decide)
    obtain ⟨kvs2,d1,d2⟩:=hd.put (by omega) t (vi row)
    refine ⟨_,rfl,_,rfl,_,rfl,b,_,rfl,d1,_,kvs2,rfl,zAx,?_⟩
    obtain ⟨kk,c1,c2,c3⟩:=d2.ex
    refine ⟨kk,c1,fun u=>?_,c3⟩
    rw [c2 u,zAl ht]
    unfold mD RC.begun
    by_cases z:u=t
    ·subst z
     simp [hc]
    ·simp [z]
   ·have hc:ends t=some row:=by
     by_cases z:ends t=some row
     ·exact z
     ·rw [decide_eq_false (fun q=>z (hdec.mp q))] at hc
      exact absurd rfl hc
    refine ⟨_,kvs',rfl,rfl,?_⟩
    obtain ⟨kk,c1,c2,c3⟩:=hd.ex
    refine ⟨kk,c1,fun u=>?_,by omega⟩
    rw [c2 u,zAl ht]
    unfold mD RC.begun
    by_cases z:u=t
    ·subst z
     simp [hc]
    ·simp [z]
  ·rintro σ H' ⟨u,kvs',rfl,rfl,hd⟩
   rw [zAg,List.take_length] at hd
   exact k kvs' hd
end
end RB
end
section
namespace RB
open PySem PySem.Spec PyProof.Rows L2
section
variable {P:Program} {w:World} {K:PySem.W.Frag} {mg:Str->Option Value} {base:Heap}
theorem zAk {α:Type} {l:List α} {i:Nat} {x:α} (h:l[i]? = some x):i<l.length:=(List.getElem?_eq_some_iff.mp h).1
noncomputable def zHN (CR:Addr):Sp:=fun vs H Q _=>∃ (a e:Addr) (r:RC.Run) (row bridge n:Nat) (ends:RC.D),vs=[.ref a,vi row,.ref e,vi bridge]/\zGB CR H a r/\zAr H e (mD ends) n/\r.2.length<=128/\
 ∀ (q:Addr) (H':Hp),Same H H'->H q=none->zAK H' q (RC.closeWrongs row bridge ends r.2)->Q (.ref q) H'
theorem zHS:zAc ["run","row","ends","bridge","wrongs","track"] ["run","row","ends","bridge"] (zAa zKU):=⟨rfl,rfl,rfl,by decide +kernel,rfl,by decide +kernel,by decide +kernel⟩
theorem zJV (row bridge:Nat) (ends:RC.D) (l:List Nat) (t:Nat):RC.closeWrongs row bridge ends (l++[t])=RC.closeWrongs row bridge ends l++(if RC.closeAt row bridge ends t=true then [(row,t,2)] else []):=by
 unfold RC.closeWrongs
 rw [List.filter_append,List.map_append,List.filter_cons]
 split <;> rfl
theorem zHw (row bridge:Nat) (ends:RC.D) (l:List Nat):(RC.closeWrongs row bridge ends l).length<=l.length:=by
 unfold RC.closeWrongs
 rw [List.length_map]
 exact List.length_filter_le _ _
theorem zNx {f CR:Addr} {fd:FuncData} (F:Fun K "close_wrongs" "close_wrongs" zKU f fd) (T:Cl K CR zEB) (gC:GI mg "TOO_CLOSE" 2):FnOk P w K mg base CX0 1 f fd ["run","row","ends","bridge"] (zHN CR):=by
 refine F.ok zHS (fun vs H Q E h=>?_) (fun cdv A outer s H vs Q E hr h=>?_)
 ·obtain ⟨a,e,r,row,bridge,n,ends,rfl,_⟩:=h
  rfl
 ·obtain ⟨a,e,r,row,bridge,n,ends,rfl,hR,he,hlen,k⟩:=h
  have hu:=zIr hr
  refine ⟨_,pC (pS (i:=4) zHS.nd rfl (Or.inl rfl) (zAd pN))
   (pC (zBb PassesOwn.never rfl (zAR (pF (pv 0) rfl)) (zAn (i:=5) zHS.nd rfl (Or.inl rfl))
    (pO (zAC (PW.pt (zEF (pt_cmp (pc_din hu (pv 5) (pv 2))) (zCN (zNi zCC zCC zAb (zAs zBx (pv 1) (zIi hu (pv 2) (pv 5) (fun _ _=>rfl))) (pv 3)))))
     (pO (zAA (zCj PySem.F.plainAttrs_list PySem.F.slot_list_append PySem.F.type_list_append zAM (pv 4) (pA (zFl (pA (pv 1) (pA (pv 5) (pA (zAG gC) pN)))) pN)))) zAf)))
   (pO (pR (pv 4)))),?_⟩
  obtain ⟨dx,l,ha,hl⟩:=hR.ex
  refine ⟨Nat.zero_le _,fun q hq=>?_⟩
  have s1:Same H (upd H q (.lst [])):=Same.new (Same.refl H) hq
  refine ⟨_,rfl,a,CR,dx,_,_,rfl,s1 _ _ ha,T.cl,T.no _ (by simp),zAz _ _,l,rfl,⟨_,SqL.of (s1 _ _ hl)⟩,zAI (K:=K) (a:=l) (xs:=vis r.2) (fun i σ H'=>∃ (u:Option V),σ=[some (.ref a),some (vi row),some (.ref e),some (vi bridge),some (.ref q),u]/\Same H H'/\
    zAK H' q (RC.closeWrongs row bridge ends (r.2.take i))) ⟨none,rfl,s1,zBd.nil uS⟩ ?_ ?_ ?_⟩
  ·rintro i σ H' _ ⟨u,rfl,s2,_⟩
   exact SqL.of (s2 _ _ hl)
  ·rintro i y σ H' hi ⟨u,rfl,s2,W⟩
   obtain ⟨t,ht,rfl⟩:=zBM hi
   have he':=he.same s2
   have step:=zJV row bridge ends (r.2.take i) t
   rw [<- zAl ht] at step
   have hil:=zAk ht
   have wl:=zHw row bridge ends (r.2.take i)
   rw [List.length_take] at wl
   refine ⟨_,rfl,_,rfl,e,_,rfl,he'.get t,_,rfl,?_⟩
   cases hE:ends t with
   | none=>
    have e1:mD ends t=none:=by unfold mD; rw [hE]; rfl
    rw [e1]
    refine iteF (iteF ?_)
    refine ⟨_,rfl,s2,?_⟩
    rw [step,if_neg (by unfold RC.closeAt; rw [hE]; simp),List.append_nil]
    exact W
   | some v=>
    have e1:mD ends t=some (vi v):=by unfold mD; rw [hE]; rfl
    have g1:=he'.get t
    rw [e1] at g1 ⊢
    refine iteT ?_
    refine ⟨_,rfl,_,rfl,_,rfl,e,vi v,rfl,g1,_,_,rfl,rfl,?_⟩
    have fin:RC.closeAt row bridge ends t=true->(zHI (tBM K "list" zDt (tVar 4) (zBv (tTup (zBv (tVar 1) (zBv (tVar 5) (zBv (tC (.int 2)) tNil)))) tNil))) { nx:=fun σ H'=>∃ (u:Option V),σ=[some (.ref a),some (vi row),some (.ref e),some (vi bridge),some (.ref q),u]/\Same H H'/\zAK H' q (RC.closeWrongs row bridge ends (r.2.take (i+1))),rt:=Q } [some (.ref a),some (vi row),some (.ref e),some (vi bridge),some (.ref q),some (vi t)] H':=fun hc=>by
     obtain ⟨vs,v1,v2,v3⟩:=W.push
     refine ⟨_,rfl,.inl ⟨rfl,_,SqL.of v1⟩,_,rfl,_,rfl,(by show 3<=sizeLine; decide),fun p hp=>?_⟩
     refine ⟨q,vs,_,rfl,rfl,by rw [uN (nN v1 hp)]; exact v1,?_,?_⟩
     ·rw [v2,List.length_map]
      exact zAq (by omega)
     ·refine ⟨_,rfl,Same.own (Same.new s2 hp) hq,?_⟩
      rw [step,if_pos hc,zAK,List.map_append]
      exact v3 p _ hp
    have nofin:RC.closeAt row bridge ends t≠true->∃ (u:Option V),([some (.ref a),some (vi row),some (.ref e),some (vi bridge),some (.ref q),some (vi t)]:L2.St)=[some (.ref a),some (vi row),some (.ref e),some (vi bridge),some (.ref q),u]/\Same H H'/\zAK H' q (RC.closeWrongs row bridge ends (r.2.take (i+1))):=fun hc=>by
     refine ⟨_,rfl,s2,?_⟩
     rw [step,if_neg hc,List.append_nil]
     exact W
    have hat:RC.closeAt row bridge ends t=(decide (v<row)&&decide (row<v+bridge)):=by unfold RC.closeAt; rw [hE]
    refine ⟨_,_,rfl,rfl,_,rfl,?_⟩
    refine ite2 (fun h1=>?_) (fun h1=>?_)
    ·have h1:=of_decide_eq_true h1
     refine ⟨_,rfl,_,_,rfl,rfl,_,rfl,?_⟩
     refine ite2 (fun h2=>?_) (fun h2=>?_)
     ·have h2:=of_decide_eq_true h2
      refine fin ?_
      rw [hat,decide_eq_true (by omega),decide_eq_true (by omega)]
      rfl
     ·have h2:¬ _:=fun z=>h2 (decide_eq_true z)
      refine nofin ?_
      rw [hat,decide_eq_false (p:=row<v+bridge) (by omega)]
      simp
    ·have h1:¬ _:=fun z=>h1 (decide_eq_true z)
     refine ⟨_,rfl,iteF ?_⟩
     refine nofin ?_
     rw [hat,decide_eq_false (p:=v<row) (by omega)]
     simp
  ·rintro σ H' ⟨u,rfl,s2,W⟩
   rw [zAg,List.take_length] at W
   exact ⟨_,rfl,k q H' s2 hq W⟩
noncomputable def zKv (CR:Addr):Sp:=fun vs H Q _=>∃ (a b:Addr) (r:RC.Run) (row longest n:Nat) (begins:RC.D),vs=[.ref a,vi row,.ref b,vi longest]/\zGB CR H a r/\zAr H b (mD begins) n/\r.2.length<=128/\(∀ t∈r.2,begins t≠none)/\
 ∀ (q:Addr) (H':Hp),Same H H'->H q=none->zAK H' q (RC.longWrongs row r.1 longest begins r.2)->Q (.ref q) H'
theorem zIJ:zAc ["run","row","begins","longest","wrongs","track","over"] ["run","row","begins","longest"] (zAa sLong):=⟨rfl,rfl,rfl,by decide +kernel,rfl,by decide +kernel,by decide +kernel⟩
theorem zLP (row m longest:Nat) (begins:RC.D) (l:List Nat) (t:Nat):RC.longWrongs row m longest begins (l++[t])=RC.longWrongs row m longest begins l++(if RC.longAt row m longest begins t=true then [((begins t).getD 0+longest,t,1)] else []):=by
 unfold RC.longWrongs
 rw [List.filter_append,List.map_append,List.filter_cons]
 split <;> rfl
theorem zJe (row m longest:Nat) (begins:RC.D) (l:List Nat):(RC.longWrongs row m longest begins l).length<=l.length:=by
 unfold RC.longWrongs
 rw [List.length_map]
 exact List.length_filter_le _ _
theorem ok_long {f CR:Addr} {fd:FuncData} (F:Fun K "long_wrongs" "long_wrongs" sLong f fd) (T:Cl K CR zEB) (gC:GI mg "TOO_LONG" 1):FnOk P w K mg base CX0 1 f fd ["run","row","begins","longest"] (zKv CR):=by
 refine F.ok zIJ (fun vs H Q E h=>?_) (fun cdv A outer s H vs Q E hr h=>?_)
 ·obtain ⟨a,b,r,row,longest,n,begins,rfl,_⟩:=h
  rfl
 ·obtain ⟨a,b,r,row,longest,n,begins,rfl,hR,hb,hlen,hall,k⟩:=h
  have hu:=zIr hr
  refine ⟨_,pC (pS (i:=4) zIJ.nd rfl (Or.inl rfl) (zAd pN))
   (pC (zBb PassesOwn.never rfl (zAR (pF (pv 0) rfl)) (zAn (i:=5) zIJ.nd rfl (Or.inl rfl))
    (pC (pS (i:=6) zIJ.nd rfl (Or.inl rfl) (zAs zBc (zIi hu (pv 2) (pv 5) (fun _ _=>rfl)) (pv 3)))
    (pO (zAC (cR zCC (pv 6) (zAs zBc (pv 1) (pF (pv 0) rfl)) (zAe _))
     (pO (zAA (zCj PySem.F.plainAttrs_list PySem.F.slot_list_append PySem.F.type_list_append zAM (pv 4) (pA (zFl (pA (pv 6) (pA (pv 5) (pA (zAG gC) pN)))) pN)))) zAf))))
   (pO (pR (pv 4)))),?_⟩
  obtain ⟨dx,l,ha,hl⟩:=hR.ex
  refine ⟨Nat.zero_le _,fun q hq=>?_⟩
  have s1:Same H (upd H q (.lst [])):=Same.new (Same.refl H) hq
  refine ⟨_,rfl,a,CR,dx,_,_,rfl,s1 _ _ ha,T.cl,T.no _ (by simp),zAz _ _,l,rfl,⟨_,SqL.of (s1 _ _ hl)⟩,zAI (K:=K) (a:=l) (xs:=vis r.2) (fun i σ H'=>∃ (u v:Option V),σ=[some (.ref a),some (vi row),some (.ref b),some (vi longest),some (.ref q),u,v]/\Same H H'/\
    zAK H' q (RC.longWrongs row r.1 longest begins (r.2.take i))) ⟨none,none,rfl,s1,zBd.nil uS⟩ ?_ ?_ ?_⟩
  ·rintro i σ H' _ ⟨u,v,rfl,s2,_⟩
   exact SqL.of (s2 _ _ hl)
  ·rintro i y σ H' hi ⟨u,v,rfl,s2,W⟩
   obtain ⟨t,ht,rfl⟩:=zBM hi
   have hb':=hb.same s2
   have step:=zLP row r.1 longest begins (r.2.take i) t
   rw [<- zAl ht] at step
   have hil:=zAk ht
   have wl:=zJe row r.1 longest begins (r.2.take i)
   rw [List.length_take] at wl
   obtain ⟨v0,hv0⟩:∃ v0,begins t=some v0:=Option.ne_none_iff_exists'.mp (hall t (List.mem_of_getElem? ht))
   have e1:mD begins t=some (vi v0):=by unfold mD; rw [hv0]; rfl
   have g1:=hb'.get t
   rw [e1] at g1
   refine ⟨_,rfl,_,rfl,b,vi v0,rfl,g1,_,rfl,_,_,rfl,rfl,?_⟩
   refine ⟨_,rfl,_,rfl,_,rfl,a,CR,dx,_,_,rfl,s2 _ _ ha,T.cl,T.no _ (by simp),zAX _ _,_,_,rfl,rfl,_,_,rfl,rfl,_,rfl,?_⟩
   have hat:RC.longAt row r.1 longest begins t=decide (v0+longest<row+r.1):=by unfold RC.longAt; rw [hv0]; rfl
   refine ite2 (fun h1=>?_) (fun h1=>?_)
   ·have h1:=of_decide_eq_true h1
    obtain ⟨vs,v1,v2,v3⟩:=W.push
    refine ⟨_,rfl,.inl ⟨rfl,_,SqL.of v1⟩,_,rfl,_,rfl,(by show 3<=sizeLine; decide),fun p hp=>?_⟩
    refine ⟨q,vs,_,rfl,rfl,by rw [uN (nN v1 hp)]; exact v1,?_,?_⟩
    ·rw [v2,List.length_map]
     exact zAq (by omega)
    ·refine ⟨_,_,rfl,Same.own (Same.new s2 hp) hq,?_⟩
     rw [step,if_pos (by rw [hat]; exact decide_eq_true (by omega)),zAK,List.map_append,hv0]
     exact v3 p _ hp
   ·have h1:¬ _:=fun z=>h1 (decide_eq_true z)
    refine ⟨_,_,rfl,s2,?_⟩
    rw [step,if_neg (by rw [hat,decide_eq_false (by omega)]; decide),List.append_nil]
    exact W
  ·rintro σ H' ⟨u,v,rfl,s2,W⟩
   rw [zAg,List.take_length] at W
   exact ⟨_,rfl,k q H' s2 hq W⟩
noncomputable def zKu (CR:Addr):Sp:=fun vs H Q _=>∃ (a:Addr) (r:RC.Run) (row near:Nat),vs=[.ref a,vi row,vi near]/\zGB CR H a r/\r.2.length<=128/\
 ∀ (q:Addr) (H':Hp),Same H H'->H q=none->zAK H' q (RC.nearWrongs row near 0 none r.2)->Q (.ref q) H'
theorem zEx:zAc ["run","row","near","wrongs","beside","before","track"] ["run","row","near"] (zAa sNear):=⟨rfl,rfl,rfl,by decide +kernel,rfl,by decide +kernel,by decide +kernel⟩
noncomputable def optV (o:Option Nat):V:=match o with
 | none=>.non
 | some n=>vi n
theorem ok_near {f CR:Addr} {fd:FuncData} (F:Fun K "near_wrongs" "near_wrongs" sNear f fd) (T:Cl K CR zEB) (gC:GI mg "TOO_NEAR" 3):FnOk P w K mg base CX0 1 f fd ["run","row","near"] (zKu CR):=by
 refine F.ok zEx (fun vs H Q E h=>?_) (fun cdv A outer s H vs Q E hr h=>?_)
 ·obtain ⟨a,r,row,near,rfl,_⟩:=h
  rfl
 ·obtain ⟨a,r,row,near,rfl,hR,hlen,k⟩:=h
  refine ⟨_,pC (pS (i:=3) zEx.nd rfl (Or.inl rfl) (zAd pN))
   (pC (pS (i:=4) zEx.nd rfl (Or.inl rfl) zAb)
   (pC (pS (i:=5) zEx.nd rfl (Or.inl rfl) zBD)
   (pC (zBb PassesOwn.never rfl (zAR (pF (pv 0) rfl)) (zAn (i:=6) zEx.nd rfl (Or.inl rfl))
    (pC (pS (i:=4) zEx.nd rfl (Or.inl rfl) (zIT (cR zCD (zAs zBx (pv 6) zAb) (pv 5) (zAe _)) (zAs zBc (pv 4) zAb) zAb))
    (pC (pS (i:=5) zEx.nd rfl (Or.inl rfl) (pv 6))
    (pO (zAC (cR zEL (pv 4) (pv 2) (zAe _))
     (pO (zAA (zCj PySem.F.plainAttrs_list PySem.F.slot_list_append PySem.F.type_list_append zAM (pv 3) (pA (zFl (pA (pv 1) (pA (pv 6) (pA (zAG gC) pN)))) pN)))) zAf)))))
   (pO (pR (pv 3)))))),?_⟩
  obtain ⟨dx,l,ha,hl⟩:=hR.ex
  refine ⟨Nat.zero_le _,fun q hq=>?_⟩
  have s1:Same H (upd H q (.lst [])):=Same.new (Same.refl H) hq
  refine ⟨_,rfl,a,CR,dx,_,_,rfl,s1 _ _ ha,T.cl,T.no _ (by simp),zAz _ _,l,rfl,⟨_,SqL.of (s1 _ _ hl)⟩,zAI (K:=K) (a:=l) (xs:=vis r.2) (fun i σ H'=>∃ (u:Option V) (b:Nat) (bf:Option Nat) (done:List RC.W3),σ=[some (.ref a),some (vi row),some (vi near),some (.ref q),some (vi b),some (optV bf),u]/\Same H H'/\
    zAK H' q done/\done.length<=i/\RC.nearWrongs row near 0 none r.2=done++RC.nearWrongs row near b bf (r.2.drop i)) ⟨none,0,none,[],rfl,s1,zBd.nil uS,Nat.le_refl _,rfl⟩ ?_ ?_ ?_⟩
  ·rintro i σ H' _ ⟨u,b,bf,done,rfl,s2,_⟩
   exact SqL.of (s2 _ _ hl)
  ·rintro i y σ H' hi ⟨u,b,bf,done,rfl,s2,W,hdl,hdone⟩
   obtain ⟨t,ht,rfl⟩:=zBM hi
   have hil:=zAk ht
   rw [zAT ht,RC.nearWrongs] at hdone
   have hcond:(V.int ((t:Int)-1)=optV bf)↔bf.map (· + 1)=some t:=by
    cases bf with
    | none=>simp [optV]
    | some x=>
     unfold optV vi
     simp only [Option.map_some,Option.some.injEq,V.int.injEq]
     omega
   have fin:∀ b':Nat,b'=RC.besideOf b bf t->∀ bv:V,bv=vi b'->(tSeq (tAsg (tVar 6) (zER 5)) (tIfS (zHH (tOp (rI0 fun i j=>.bl (decide (j<i))) (tVar 4) (tVar 2))) (zHI (tBM K "list" zDt (tVar 3) (zBv (tTup (zBv (tVar 1) (zBv (tVar 6) (zBv (tC (.int 3)) tNil)))) tNil))) zMQ))
     { nx:=fun σ H'=>∃ (u:Option V) (b:Nat) (bf:Option Nat) (done:List RC.W3),σ=[some (.ref a),some (vi row),some (vi near),some (.ref q),some (vi b),some (optV bf),u]/\Same H H'/\
    zAK H' q done/\done.length<=i+1/\RC.nearWrongs row near 0 none r.2=done++RC.nearWrongs row near b bf (r.2.drop (i+1)),rt:=Q } [some (.ref a),some (vi row),some (vi near),some (.ref q),some bv,some (optV bf),some (vi t)] H':=by
    intro b' hb' bv hbv
    subst hbv
    rw [<- hb'] at hdone
    refine ⟨_,rfl,_,rfl,_,rfl,_,_,rfl,rfl,_,rfl,?_⟩
    refine ite2 (fun h1=>?_) (fun h1=>?_)
    ·have h1:=of_decide_eq_true h1
     obtain ⟨vs,v1,v2,v3⟩:=W.push
     refine ⟨_,rfl,.inl ⟨rfl,_,SqL.of v1⟩,_,rfl,_,rfl,(by show 3<=sizeLine; decide),fun p hp=>?_⟩
     refine ⟨q,vs,_,rfl,rfl,by rw [uN (nN v1 hp)]; exact v1,?_,?_⟩
     ·rw [v2,List.length_map]
      exact zAq (by omega)
     ·refine ⟨_,b',some t,done++[(row,t,3)],rfl,Same.own (Same.new s2 hp) hq,?_,?_,?_⟩
      ·rw [zAK,List.map_append]
       exact v3 p _ hp
      ·rw [List.length_append]
       show _+1<=_
       omega
      ·rw [hdone,if_pos (by omega),List.append_assoc]
    ·have h1:¬ _:=fun z=>h1 (decide_eq_true z)
     refine ⟨_,b',some t,done,rfl,s2,W,by omega,?_⟩
     rw [hdone,if_neg (by omega)]
     rfl
   refine ⟨_,rfl,_,_,rfl,rfl,_,rfl,?_,_,rfl,?_⟩
   ·cases bf <;> rfl
   ·refine ite2 (fun h1=>?_) (fun h1=>?_)
    ·have h1:=hcond.mp (of_decide_eq_true h1)
     refine ⟨_,rfl,_,_,rfl,rfl,?_⟩
     exact fin (b+1) (by unfold RC.besideOf; rw [if_pos h1]) _ rfl
    ·have h1:¬ _:=fun z=>h1 (decide_eq_true (hcond.mpr z))
     exact fin 1 (by unfold RC.besideOf; rw [if_neg h1]) _ rfl
  ·rintro σ H' ⟨u,b,bf,done,rfl,s2,W,hdl,hdone⟩
   rw [zAg,List.drop_length,RC.nearWrongs,List.append_nil] at hdone
   refine ⟨_,rfl,k q H' s2 hq ?_⟩
   rw [hdone]
   exact W
end
end RB
end
section
namespace RX
open PySem PySem.Spec PyProof.Rows
section
variable {prog:Program} {w:World} {A:Around} {R:Result->Shared->Prop} {I:Addr} {fp wr:List Addr} {n:Nat} {P:Nat->Value->Prop} {St:Nat->Heap->Prop}
def CmpIn (prog:Program) (w:World) (A:Around) (P:Nat->Value->Prop) (bt:Nat->Nat->Bool) (tl:List (Addr×Obj)):Prop:=
 ∀ i j u v (s:Shared) (Q:Value->Shared->Prop) (E:Value->Shared->Prop),P i u->P j v->(∀ p∈tl,s.heap.get? p.1=some p.2)->Q (.bool (bt i j)) s->wpAny (model prog w) A (richCompare .Lt u v) Q E s
theorem minLoop (W:Walks prog w A.in1 I fp wr n P St) (bt:Nat->Nat->Bool) (tl:List (Addr×Obj)) (hcmp:CmpIn prog w A.in1 P bt tl) (S:Addr) (hSf:S∉fp) (htw:∀ p∈tl,p.1∉wr) (htS:∀ p∈tl,p.1≠S):
  ∀ (k j:Nat) (s:Shared) (vb:Value) (c:Nat),n-(j+1)=k->j+1<=n->St (j+1) s.heap->P (argBest bt j) vb->(∀ p∈tl,s.heap.get? p.1=some p.2)->
  s.heap.get? S=some { cls:=.type "list",dict:=none,data:=.seq #[vb,vb] c,slots := #[] }->
  (∀ v h' tk,P (argBest bt (n-1)) v->(∀ b o,b∉wr->b≠S->s.heap.get? b=some o->h'.get? b=some o)->R (.ok (.ret v)) { s with heap:=h',toks:=tk })->
  codeAny (model prog w) A (.builtin "min.loop" ⟨[.ref I,.none,.ref S],[]⟩) R s:=by
 have nw:S∉wr:=fun z=>hSf (W.sub _ z)
 have nm:(toString "min" ++ toString ".loop" : String)= "min.loop" := by decide
 intro k
 induction k with
 | zero=>
  intro j s vb c hk hj st pb ht hS hR
  have hin:j+1=n:=by omega
  refine codeAny_builtin F.entry_min_loop ?_
  rw [Around.under_plainId F.plain_min_loop _]
  show wpAny _ A.in1 (seqItems? (.ref S) >>= _) _ _ s
  refine wpAny_bind (wpAny_seqItems hS rfl ?_)
  show wpAny _ A.in1 (tryCatch (pyNext (.ref I)) _ >>= _) _ _ s
  refine wpAny_bind (wpAny_tryCatch (W.done s _ _ (hin ▸ st) fun h' tk kk=>?_))
  show wpAny _ A.in1 (updateSeq S (fun _ => #[]) >>= _) _ _ _
  refine wpAny_bind (wpAny_updateSeq (kk S _ nw hS) rfl (wpAny_bind (wpAny_letGo (wpAny_pure ?_))))
  refine hR vb _ tk (by rw [<- hin]; exact pb) fun b o b1 b2 e=>?_
  rw [Heap.get?_update_other _ _ b2.symm]
  exact kk b o b1 e
 | succ k ih=>
  intro j s vb c hk hj st pb ht hS hR
  have hlt:j+1<n:=by omega
  refine codeAny_builtin F.entry_min_loop ?_
  rw [Around.under_plainId F.plain_min_loop _]
  show wpAny _ A.in1 (seqItems? (.ref S) >>= _) _ _ s
  refine wpAny_bind (wpAny_seqItems hS rfl ?_)
  show wpAny _ A.in1 (tryCatch (pyNext (.ref I)) _ >>= _) _ _ s
  refine wpAny_bind (wpAny_tryCatch (W.item (j+1) s _ _ hlt st fun v h' tk hP st' kk=>?_))
  have hS':=kk S _ nw hS
  have ht':∀ p∈tl,h'.get? p.1=some p.2:=fun p hp=>kk p.1 p.2 (htw p hp) (ht p hp)
  show wpAny _ A.in1 (tryCatch (holding [v,v] (richCompare .Lt v vb >>= _)) _ >>= _) _ _ _
  refine wpAny_bind (wpAny_tryCatch (wpAny_holding (wpAny_bind (hcmp (j+1) (argBest bt j) v vb _ _ _ hP pb ht' ?_))))
  refine wpAny_bind (wpAny_holding (wpAny_truthy_bool (wpAny_bind (wpAny_letGo (wpAny_pure ?_)))))
  cases hb:bt (j+1) (argBest bt j) with
  | true=>
   simp only [if_true]
   refine wpAny_bind (wpAny_updateSeq hS' rfl (wpAny_bind (wpAny_letGo ?_)))
   rw [nm]
   refine wpAny_pure ⟨plainId_quiet F.plain_min_loop _,ih (j+1) _ v _ (by omega) hlt (W.frame _ _ _ st' fun b hbf o e=>?_) (by simp only [argBest,hb,if_true]; exact hP) (fun p hp=>?_) (Heap.get?_update_self _ hS' rfl) fun v' h2 tk2 p2 k2=>?_⟩
   ·rw [Heap.get?_update_other _ _ (fun z:S=b=>hSf (by rw [z]; exact hbf))]
    exact e
   ·show Heap.get? _ p.1=_
    rw [Heap.get?_update_other _ _ (htS p hp).symm]
    exact ht' p hp
   ·refine hR v' h2 tk2 p2 fun b o b1 b2 e=>k2 b o b1 b2 ?_
    show Heap.get? _ b=_
    rw [Heap.get?_update_other _ _ b2.symm]
    exact kk b o b1 e
  | false=>
   simp only [Bool.false_eq_true,if_false]
   refine wpAny_bind (wpAny_letGo ?_)
   rw [nm]
   refine wpAny_pure ⟨plainId_quiet F.plain_min_loop _,ih (j+1) _ vb c (by omega) hlt st' (by simp only [argBest,hb,Bool.false_eq_true,if_false]; exact pb) ht' hS' fun v' h2 tk2 p2 k2=>?_⟩
   exact hR v' h2 tk2 p2 fun b o b1 b2 e=>k2 b o b1 b2 (kk b o b1 e)
theorem zNG (W:Walks prog w A.in1 I fp wr n P St) (bt:Nat->Nat->Bool) (tl:List (Addr×Obj)) (hcmp:CmpIn prog w A.in1 P bt tl) (S:Addr) (hSf:S∉fp) (htw:∀ p∈tl,p.1∉wr) (htS:∀ p∈tl,p.1≠S) (hn:0<n) {s:Shared} {c:Nat}
  (st:St 0 s.heap) (ht:∀ p∈tl,s.heap.get? p.1=some p.2) (hS:s.heap.get? S=some { cls:=.type "list",dict:=none,data:=.seq #[] c,slots := #[] })
  (hR:∀ v h' tk,P (argBest bt (n-1)) v->(∀ b o,b∉wr->b≠S->s.heap.get? b=some o->h'.get? b=some o)->R (.ok (.ret v)) { s with heap:=h',toks:=tk }):
  codeAny (model prog w) A (.builtin "min.loop" ⟨[.ref I,.none,.ref S],[]⟩) R s:=by
 have nw:S∉wr:=fun z=>hSf (W.sub _ z)
 have nm:(toString "min" ++ toString ".loop" : String)= "min.loop" := by decide
 refine codeAny_builtin F.entry_min_loop ?_
 rw [Around.under_plainId F.plain_min_loop _]
 show wpAny _ A.in1 (seqItems? (.ref S) >>= _) _ _ s
 refine wpAny_bind (wpAny_seqItems hS rfl ?_)
 show wpAny _ A.in1 (tryCatch (pyNext (.ref I)) _ >>= _) _ _ s
 refine wpAny_bind (wpAny_tryCatch (W.item 0 s _ _ hn st fun v h' tk hP st' kk=>?_))
 have hS':=kk S _ nw hS
 show wpAny _ A.in1 (updateSeq S (fun _ => #[v,v]) >>= _) _ _ _
 refine wpAny_bind (wpAny_updateSeq hS' rfl ?_)
 rw [nm]
 refine wpAny_pure ⟨plainId_quiet F.plain_min_loop _,minLoop W bt tl hcmp S hSf htw htS _ 0 _ v _ rfl hn (W.frame _ _ _ st' fun b hbf o e=>?_) hP (fun p hp=>?_) (Heap.get?_update_self _ hS' rfl) fun v' h2 tk2 p2 k2=>?_⟩
 ·rw [Heap.get?_update_other _ _ (fun z:S=b=>hSf (by rw [z]; exact hbf))]
  exact e
 ·show Heap.get? _ p.1=_
  rw [Heap.get?_update_other _ _ (htS p hp).symm]
  exact kk p.1 p.2 (htw p hp) (ht p hp)
 ·refine hR v' h2 tk2 p2 fun b o b1 b2 e=>k2 b o b1 b2 ?_
  show Heap.get? _ b=_
  rw [Heap.get?_update_other _ _ b2.symm]
  exact kk b o b1 e
end
section
variable {prog:Program} {w:World} {A:Around} {E:Value->Shared->Prop} {s:Shared}
theorem zNF {l:Addr} {items:Array Value} {bt:Nat->Nat->Bool} {tl:List (Addr×Obj)} {Q:Value->Shared->Prop} (hh:A.handled=none) (hl:s.heap.IsList l items) (hne:0<items.size) (ht:∀ p∈tl,s.heap.get? p.1=some p.2)
  (hcmp:CmpIn prog w A.in1 (fun i v=>items[i]? = some v) bt tl)
  (h:∀ v h' tk,items[argBest bt (items.size-1)]? = some v->(∀ b o,s.heap.get? b=some o->h'.get? b=some o)->Q v { s with heap:=h',toks:=tk }):wpAny (model prog w) A (call (.builtin "min") [.ref l]) Q E s:=by
 have nm:(toString "min" ++ toString ".loop" : String)= "min.loop" := by decide
 have hlt:l<s.heap.objs.size:=by obtain ⟨_,e,_⟩:=hl; exact Heap.lt_size e
 refine call_function_tree F.kind_min F.plain_min F.entry_min (F.args_min1 _) ?_
 show wpAny _ A.in1 (Builtin.Builtins.bindParams "min" ["key","default"] 0 ⟨[],[]⟩ >>= _) _ _ s
 refine wpAny_bind (wpAny_of_eq (show Builtin.Builtins.bindParams "min" ["key","default"] 0 ⟨[],[]⟩=pure [none,none] from rfl) (wpAny_bind (wpAny_pure (wpAny_bind (wpAny_pyIter_list hl ?_)))))
 have W:Walks prog w A.in1 s.heap.objs.size [s.heap.objs.size,l] [s.heap.objs.size] items.size (fun i v=>items[i]? = some v) (fun i h=>h.IsListIter s.heap.objs.size l i/\h.IsList l items):=Walks.list (A:=A.in1) hh _ l (Nat.ne_of_lt hlt) items
 refine wpAny_bind (wpAny_newObj_type ?_)
 rw [nm]
 have sz:(s.heap.push { cls:=.type "list_iterator",data:=.fields #[.ref l,.int 0 0] }).objs.size=s.heap.objs.size+1:=Heap.size_push ..
 have hIl:(s.heap.push { cls:=.type "list_iterator",data:=.fields #[.ref l,.int 0 0] }).IsListIter s.heap.objs.size l 0:=⟨_,Heap.get?_push_size _ rfl,rfl,rfl⟩
 refine wpAny_pure ⟨plainId_quiet F.plain_min_loop _,zNG W bt tl hcmp _ ?_ ?_ ?_ hne (W.frame _ _ _ ⟨hIl,hl.push _⟩ fun b _ o e=>Heap.get?_push_of_some _ e) (fun p hp=>Heap.get?_push_of_some _ (Heap.get?_push_of_some _ (ht p hp))) (Heap.get?_push_size _ rfl) fun v h' tk hP hk=>?_⟩
 ·rw [sz]
  intro z
  rcases List.mem_cons.mp z with z | z
  ·exact absurd z (Nat.succ_ne_self _)
  ·rcases List.mem_cons.mp z with z | z
   ·exact absurd z (Nat.ne_of_gt (Nat.lt_succ_of_lt hlt))
   ·cases z
 ·intro p hp z
  exact absurd (List.mem_singleton.mp z) (Nat.ne_of_lt (Heap.lt_size (ht p hp)))
 ·intro p hp
  rw [sz]
  exact Nat.ne_of_lt (Nat.lt_succ_of_lt (Heap.lt_size (ht p hp)))
 ·refine h v h' tk hP fun b o e=>hk b o (fun z=>absurd (List.mem_singleton.mp z) (Nat.ne_of_lt (Heap.lt_size e))) ?_ (Heap.get?_push_of_some _ (Heap.get?_push_of_some _ e))
  rw [sz]
  exact Nat.ne_of_lt (Nat.lt_succ_of_lt (Heap.lt_size e))
end
end RX
end
section
namespace RB
open PySem PySem.Spec PyProof.Rows L2 RX
noncomputable def zKr (n:Nat) (l:Addr):List (Str×V):=rec2 "width" "runs" (vi n) (.ref l)
theorem zGL (n:Nat) (l:Addr):(zKr n l).lookup ("width" : Str)=some (vi n):=zHc (by decide)
theorem zBS (n:Nat) (l:Addr):(zKr n l).lookup ("runs" : Str)=some (.ref l):=zHb
noncomputable abbrev zDp:List Str:=["width","runs"]
structure zHE (CR:Addr) (H:Hp) (l:Addr) (rs:List RC.Run):Prop where
 ex:∃ as:List Addr,H l=some (.lst (as.map V.ref))/\as.length=rs.length/\∀ (i:Nat) (a:Addr) (r:RC.Run),as[i]? = some a->rs[i]? = some r->zGB CR H a r
structure zBo (CS CR:Addr) (H:Hp) (a:Addr) (s:RC.Strip):Prop where
 ex:∃ dx l,H a=some (.ins CS dx (zKr s.wide l))/\zHE CR H l s.runs
theorem zHE.same {CR:Addr} {H H':Hp} {l:Addr} {rs:List RC.Run} (h:zHE CR H l rs) (s:Same H H'):zHE CR H' l rs:=let ⟨as,a,b,c⟩:=h.ex; ⟨as,s _ _ a,b,fun i x r h1 h2=>(c i x r h1 h2).same s⟩
theorem zBo.same {CS CR:Addr} {H H':Hp} {a:Addr} {x:RC.Strip} (h:zBo CS CR H a x) (s:Same H H'):zBo CS CR H' a x:=let ⟨dx,l,a1,a2⟩:=h.ex; ⟨dx,l,s _ _ a1,a2.same s⟩
theorem zBk {as:List Addr} {i:Nat} {v:V} (h:(as.map V.ref)[i]? = some v):∃ a,as[i]? = some a/\v = .ref a:=by
 rw [List.getElem?_map] at h
 cases e:as[i]? with
 | none=>rw [e] at h; cases h
 | some a=>rw [e] at h; exact ⟨a,rfl,(Option.some.inj h).symm⟩
theorem zIB {l:List Nat} {w:Nat} (h:RC.Up l) (hw:∀ x∈l,x<w):l.length<=w:=by
 have e:=RC.tracks_mask h hw
 rw [<- e]
 unfold Rol.Row.tracks
 have:=List.length_filter_le (fun t=>Rol.Row.hole (RC.mask l) t) (List.range w)
 rw [List.length_range] at this
 exact this
theorem zEd {w:Nat}:∀ {l:List RC.Run},(∀ r∈l,RC.RunOk w r)->l.length<=RC.total l
 | [],_=>Nat.zero_le _
 | r::l,h=>by
  have ih:=zEd (l:=l) fun x hx=>h x (List.mem_cons_of_mem _ hx)
  have hp:=(h r List.mem_cons_self).pos
  have e:RC.total (r::l)=r.1+RC.total l:=by simp [RC.total]
  rw [List.length_cons]
  omega
noncomputable def onH (S:Addr->Prop) (H:Hp):Hp:=fun c=>open Classical in if S c then H c else none
theorem zBq {S:Addr->Prop} {H:Hp} {c:Addr} {o:HO} (h1:S c) (h2:H c=some o):onH S H c=some o:=by
 unfold onH
 rw [if_pos h1]
 exact h2
theorem onH_of {S:Addr->Prop} {H:Hp} {c:Addr} {o:HO} (h:onH S H c=some o):S c/\H c=some o:=by
 unfold onH at h
 split at h
 ·exact ⟨‹_›,h⟩
 ·cases h
theorem zCx {S S':Addr->Prop} {H H':Hp} (h:∀ c o,S c->H c=some o->S' c/\H' c=some o):Same (onH S H) (onH S' H'):=fun c o e=>by
 obtain ⟨e1,e2⟩:=onH_of e
 obtain ⟨z1,z2⟩:=h c o e1 e2
 exact zBq z1 z2
theorem zLu {S:Addr->Prop} {H:Hp}:Same (onH S H) H:=fun c o e=>(onH_of e).2
noncomputable abbrev newH (H H':Hp):Hp:=onH (fun c=>H c=none) H'
theorem zBd.cat {H:Hp} {l b:Addr} {xs ys:List (List V)} (h1:zBd H l xs) (h2:zBd H b ys):∃ vs ws,H l=some (.lst vs)/\H b=some (.lst ws)/\vs.length=xs.length/\ws.length=ys.length/\
  ∀ (H':Hp) (q:Addr),H' q=some (.lst (vs++ws))->(∀ t x,H t=some (.tup x)->H' t=some (.tup x))->zBd H' q (xs++ys):=by
 obtain ⟨ts,a1,a2,a3⟩:=h1.ex
 obtain ⟨us,b1,b2,b3⟩:=h2.ex
 refine ⟨_,_,a1,b1,by rw [List.length_map,a2],by rw [List.length_map,b2],fun H' q hq hk=>⟨ts++us,?_,?_,?_⟩⟩
 ·rw [hq,List.map_append]
 ·rw [List.length_append,List.length_append,a2,b2]
 ·intro i t x e1 e2
  by_cases hi:i<ts.length
  ·rw [List.getElem?_append_left hi] at e1
   rw [List.getElem?_append_left (by omega)] at e2
   exact hk t x (a3 i t x e1 e2)
  ·rw [List.getElem?_append_right (by omega)] at e1
   rw [List.getElem?_append_right (by omega)] at e2
   rw [a2] at e1
   exact hk t x (b3 _ t x e1 e2)
noncomputable def w3i (z:RC.W3):List Int:=[(z.1:Int),(z.2.1:Int),(z.2.2:Int)]
theorem lex_eq (a b:RC.W3):HT.lexLt (w3i a) (w3i b)=RC.lexLt a b:=by
 obtain ⟨a1,a2,a3⟩:=a
 obtain ⟨b1,b2,b3⟩:=b
 rw [Bool.eq_iff_iff,RC.lexLt_iff]
 unfold w3i
 simp only [HT.lexLt]
 by_cases h1:(a1:Int)=b1
 ·rw [if_pos h1]
  by_cases h2:(a2:Int)=b2
  ·rw [if_pos h2]
   by_cases h3:(a3:Int)=b3
   ·rw [if_pos h3]
    simp
    omega
   ·rw [if_neg h3,decide_eq_true_eq]
    omega
  ·rw [if_neg h2,decide_eq_true_eq]
   omega
 ·rw [if_neg h1,decide_eq_true_eq]
  omega
theorem zDS (a:RC.W3) (r:List RC.W3):∀ k,k<=r.length->argBest (fun i j=>HT.lexLt (w3i ((a::r).getD i a)) (w3i ((a::r).getD j a))) k<(a::r).length/\
  (a::r)[argBest (fun i j=>HT.lexLt (w3i ((a::r).getD i a)) (w3i ((a::r).getD j a))) k]? = some ((r.take k).foldl (fun m x=>if RC.lexLt x m=true then x else m) a)
 | 0,_=>⟨by simp [argBest],rfl⟩
 | k+1,hk=>by
  obtain ⟨ih1,ih2⟩:=zDS a r k (by omega)
  generalize hb:argBest (fun i j=>HT.lexLt (w3i ((a::r).getD i a)) (w3i ((a::r).getD j a))) k=b at ih1 ih2
  obtain ⟨x,hx⟩:∃ x,r[k]? = some x:=⟨_,List.getElem?_eq_getElem (by omega)⟩
  have e1:(a::r).getD (k+1) a=x:=by
   rw [List.getD_eq_getElem?_getD,List.getElem?_cons_succ,hx]
   rfl
  have e2:(a::r).getD b a=(r.take k).foldl (fun m x=>if RC.lexLt x m=true then x else m) a:=by
   rw [List.getD_eq_getElem?_getD,ih2]
   rfl
  rw [argBest,hb,e1,e2,lex_eq,zAl hx,List.foldl_append,List.foldl_cons,List.foldl_nil]
  split
  ·exact ⟨by rw [List.length_cons]; omega,by rw [List.getElem?_cons_succ,hx]⟩
  ·exact ⟨ih1,ih2⟩
theorem zGH:∀ {ts:List Addr} {us:List Value},Vals (ts.map V.ref) us->us=ts.map Value.ref
 | [],_,h=>by cases h; rfl
 | t::ts,_,h=>by
  cases h with
  | cons r rr=>
   cases r
   rw [zGH rr]
   rfl
noncomputable def rMinT:List V->Hp->VK->Prop:=fun vs H Q=>∃ (a:Addr) (ws:List RC.W3),vs=[.ref a]/\zAK H a ws/\ws≠[]/\∀ t z,RC.lexMin ws=some z->H t=some (.tup (w3v z))->Q (.ref t) H
theorem cr_minT {X:Cx} (hc:X.calm=true) (hu:X.A.units+1<cLine):zFe X (.builtin "min") rMinT:=by
 intro pins s σ H vs us Q I r h
 obtain ⟨a,ws,rfl,hW,hne,q⟩:=h
 obtain ⟨ts,t1,t2,t3⟩:=hW.ex
 rw [List.length_map] at t2
 obtain ⟨its,rv,hl,_⟩:=I.list (SqL.of t1)
 obtain rfl:=zGH rv
 rw [Vals.ref1 r]
 obtain ⟨w0,wr,rfl⟩:∃ w0 wr,ws=w0::wr:=by
  cases ws with
  | nil=>exact absurd rfl hne
  | cons w0 wr=>exact ⟨w0,wr,rfl⟩
 have hlen:ts.length=wr.length+1:=by rw [t2,List.length_cons]
 obtain ⟨b1,b2⟩:=zDS w0 wr wr.length (Nat.le_refl _)
 rw [List.take_length] at b2
 have zJw:∀ i t,ts[i]? = some t->H t=some (.tup (w3v ((w0::wr).getD i w0))):=fun i t e=>by
  have hi:=zAk e
  have hg:(w0::wr)[i]? = some ((w0::wr).getD i w0):=by
   rw [List.getD_eq_getElem?_getD,List.getElem?_eq_getElem (by rw [List.length_cons]; omega)]
   rfl
  exact t3 i t _ e (by rw [List.getElem?_map,hg]; rfl)
 have arr:∀ i v,(ts.map Value.ref).toArray[i]? = some v->∃ t,ts[i]? = some t/\v=Value.ref t:=fun i v e=>by
  rw [List.getElem?_toArray,List.getElem?_map] at e
  cases z:ts[i]? with
  | none=>rw [z] at e; cases e
  | some t=>rw [z] at e; exact ⟨t,z,(Option.some.inj e).symm⟩
 refine zNF (I.ok.hd hc) (bt:=fun i j=>HT.lexLt (w3i ((w0::wr).getD i w0)) (w3i ((w0::wr).getD j w0))) (tl:=ts.filterMap fun t=>(s.heap.get? t).map fun o=>(t,o)) hl.isList (by simp; omega) (fun p hp=>?_) ?_ fun v h' tk hv hk=>?_
 ·obtain ⟨t,_,e⟩:=List.mem_filterMap.mp hp
  cases z:s.heap.get? t with
  | none=>rw [z] at e; cases e
  | some o=>rw [z] at e; cases e; exact z
 ·intro i j u v s' Q' E' hu' hv' htl hq
  obtain ⟨ti,ei,rfl⟩:=arr i u hu'
  obtain ⟨tj,ej,rfl⟩:=arr j v hv'
  have key:∀ k t,ts[k]? = some t->∃ its:List Value,IsTup s'.heap t its.toArray/\IntsAre its (w3i ((w0::wr).getD k w0)):=fun k t e=>by
   obtain ⟨_,its,rvs,hit⟩:=I.hok t _ (zJw k t e)
   obtain ⟨o,ho,r1⟩:=hit
   have hm:(t,o)∈ts.filterMap fun t=>(s.heap.get? t).map fun o=>(t,o):=List.mem_filterMap.mpr ⟨t,List.mem_of_getElem? e,by rw [ho]; rfl⟩
   exact ⟨its,⟨o,htl _ hm,r1⟩,zDB (ns:=w3i ((w0::wr).getD k w0)) rvs⟩
  obtain ⟨its1,k1,k2⟩:=key i ti ei
  obtain ⟨its2,k3,k4⟩:=key j tj ej
  exact HT.lt_tupInts (A:=X.A.in1) k1 k3 k2 k4 hu hq
 ·obtain ⟨t,et,rfl⟩:=arr _ v hv
  rw [List.size_toArray,List.length_map,hlen,Nat.add_sub_cancel] at et
  have hz:=zJw _ t et
  have ez:(w0::wr).getD (argBest (fun i j=>HT.lexLt (w3i ((w0::wr).getD i w0)) (w3i ((w0::wr).getD j w0))) wr.length) w0=wr.foldl (fun m x=>if RC.lexLt x m=true then x else m) w0:=by
   rw [List.getD_eq_getElem?_getD,b2]
   rfl
  rw [ez] at hz
  exact ⟨.ref t,H,I.kept hk,rfl,q t _ rfl hz⟩
end RB
end
section
namespace RB
open PySem PySem.Spec PyProof.Rows L2 RX
section
variable {P:Program} {w:World} {K:PySem.W.Frag} {mg:Str->Option Value} {base:Heap}
def WrongV (H:Hp) (v:V) (o:Option RC.W3):Prop:=match o with
 | none=>v = .non
 | some z=>∃ t,v = .ref t/\H t=some (.tup (w3v z))
noncomputable def zFI (CS CR CP:Addr):Sp:=fun vs H Q _=>∃ (a b:Addr) (x:RC.Strip) (p:Rol.Paper),vs=[.ref a,.ref b]/\zBo CS CR H a x/\x.Ok/\zFc CP H b p/\RC.PaperOk p/\
 ∀ (v:V) (H':Hp),Same H H'->WrongV H' v (RC.judgeL p x)->Q v H'
theorem zCg:zAc ["strip","paper","begins","ends","row","run","wrongs","track"] ["strip","paper"] (zAa zKO):=⟨rfl,rfl,rfl,by decide +kernel,rfl,by decide +kernel,by decide +kernel⟩
theorem zJb (row near:Nat):∀ (l:List Nat) (b:Nat) (bf:Option Nat),(RC.nearWrongs row near b bf l).length<=l.length
 | [],_,_=>Nat.le_refl _
 | t::l,b,bf=>by
  have:=zJb row near l (RC.besideOf b bf t) (some t)
  rw [RC.nearWrongs,List.length_append,List.length_cons]
  split <;> simp <;> omega
theorem zNp {f CS CR CP:Addr} {fd:FuncData} (F:Fun K "first_wrong" "first_wrong" zKO f fd) (TS:Cl K CS zDp) (TR:Cl K CR zEB) (TP:Cl K CP zHk) (hmin:mg "min" = none)
  (G1:GF P w K mg base CX0 1 "close_wrongs" ["run","row","ends","bridge"] (zHN CR)) (G2:GF P w K mg base CX0 1 "near_wrongs" ["run","row","near"] (zKu CR)) (G3:GF P w K mg base CX0 1 "begin_slots" ["run","row","begins","ends"] (zHO CR))
  (G4:GF P w K mg base CX0 1 "long_wrongs" ["run","row","begins","longest"] (zKv CR)):FnOk P w K mg base CX0 2 f fd ["strip","paper"] (zFI CS CR CP):=by
 refine F.ok zCg (fun vs H Q E h=>?_) (fun cdv A outer s H vs Q E hr h=>?_)
 ·obtain ⟨a,b,x,p,rfl,_⟩:=h
  rfl
 ·obtain ⟨a,b,x,p,rfl,hS,ok,⟨dp,hP⟩,hp,k⟩:=h
  have hu:=zIr hr
  refine ⟨_,pC (pS (i:=2) zCg.nd rfl (Or.inl rfl) zEg)
   (pC (pS (i:=3) zCg.nd rfl (Or.inl rfl) zEg)
   (pC (pS (i:=4) zCg.nd rfl (Or.inl rfl) zAb)
   (pC (zBb PassesOwn.never rfl (zAR (pF (pv 0) rfl)) (zAn (i:=5) zCg.nd rfl (Or.inl rfl))
    (pC (pS (i:=6) zCg.nd rfl (Or.inl rfl) (zAs zFo (cG G1 hr zAh (pA (pv 5) (pA (pv 4) (pA (pv 3) (pA (pF (pv 1) rfl) pN))))) (cG G2 hr zAh (pA (pv 5) (pA (pv 4) (pA (pF (pv 1) rfl) pN))))))
    (pC (zAA (cG G3 hr zAh (pA (pv 5) (pA (pv 4) (pA (pv 2) (pA (pv 3) pN))))))
    (pC (zAA (zCj PySem.F.plainAttrs_list PySem.F.slot_list_extend PySem.F.type_list_extend zDh (pv 6) (pA (cG G4 hr zAh (pA (pv 5) (pA (pv 4) (pA (pv 2) (pA (pF (pv 1) rfl) pN))))) pN)))
    (pC (zAC (zCv (pv 6) (fun _=>rfl)) (pO (pR (zAt (cr_minT rfl hu) rfl hmin (by decide +kernel) (pA (pv 6) pN)))) zAf)
    (pC (zFk (i:=4) zCg.nd rfl (Or.inl rfl) (pF (pv 5) rfl) zHo)
    (pO (zBb PassesOwn.never rfl (zAR (pF (pv 5) rfl)) (zAn (i:=7) zCg.nd rfl (Or.inl rfl)) (pO (zGg hu (pv 3) (pv 7) (pv 4) rfl))))))))))
   (pO (pR zBD))))),?_⟩
  obtain ⟨dx,l,ha,hRs⟩:=hS.ex
  obtain ⟨as,hl,hlen,hruns⟩:=hRs.ex
  have hrl:=zEd ok.all
  have hfew:=ok.few
  have hw2:=ok.w2
  intro d1 hd1
  intro d2 hd2
  have s1:Same H (upd H d1 (.dK [])):=Same.new (Same.refl H) hd1
  have s2:Same H (upd (upd H d1 (.dK [])) d2 (.dK [])):=Same.new s1 hd2
  have n12:d1≠d2:=nN uS hd2
  have hd2H:H d2=none:=s1.free hd2
  refine ⟨_,rfl,a,CS,dx,_,_,rfl,s2 _ _ ha,TS.cl,TS.no _ (by simp),zBS _ _,l,rfl,⟨_,SqL.of (s2 _ _ hl)⟩,zAI (K:=K) (a:=l) (xs:=as.map V.ref) (fun i σ H'=>∃ (u v t:Option V) (row:Nat) (begins ends:RC.D),σ=[some (.ref a),some (.ref b),some (.ref d1),some (.ref d2),some (vi row),u,v,t]/\Same H H'/\
    zAr H' d1 (mD begins) (128*i)/\zAr H' d2 (mD ends) (128*i)/\RC.judgeL p x=RC.firstWrong p row begins ends (x.runs.drop i)/\∀ t,ends t≠none->begins t≠none)
   ⟨none,none,none,0,fun _=>none,fun _=>none,rfl,s2,⟨[],by rw [uN n12,uS],fun t=>rfl,Nat.le_refl _⟩,⟨[],uS,fun t=>rfl,Nat.le_refl _⟩,rfl,fun t z=>absurd rfl z⟩ ?_ ?_ ?_⟩
  ·rintro i σ H' _ ⟨u,v,t,row,begins,ends,rfl,s3,_⟩
   exact SqL.of (s3 _ _ hl)
  ·rintro i y σ H' hi ⟨u,v,t,row,begins,ends,rfl,s3,D1,D2,hJ,hBE⟩
   obtain ⟨c,hc,rfl⟩:=zBk hi
   have hil:i<x.runs.length:=by have:=zAk hc; omega
   obtain ⟨r,hr'⟩:∃ r,x.runs[i]? = some r:=⟨_,List.getElem?_eq_getElem hil⟩
   have hR:=hruns i c r hc hr'
   have okr:=ok.all r (List.mem_of_getElem? hr')
   have hrl2:r.2.length<=128:=Nat.le_trans (zIB okr.up okr.low) hw2
   rw [zAT hr',RC.firstWrong] at hJ
   refine ⟨_,rfl,_,rfl,_,rfl,_,rfl,b,CP,dp,_,_,rfl,s3 _ _ hP,TP.cl,TP.no _ (by simp),zBW p,c,d2,r,row,p.bridge,_,ends,rfl,hR.same s3,D2,hrl2,fun q1 H1 s4 hq1 W1=>?_⟩
   have s34:=s3.trans s4
   refine ⟨_,rfl,_,rfl,_,rfl,b,CP,dp,_,_,rfl,s34 _ _ hP,TP.cl,TP.no _ (by simp),zLs p,c,r,row,p.near,rfl,hR.same s34,hrl2,fun q2 H2 s5 hq2 W2=>?_⟩
   have s35:=s34.trans s5
   obtain ⟨vs1,vs2,e1,e2,l1,l2,mk3⟩:=(W1.same s5).cat W2
   have cl1:=zHw row p.bridge ends r.2
   have nl1:=zJb row p.near r.2 0 none
   rw [List.length_map] at l1 l2
   refine ⟨q1,q2,vs1,vs2,rfl,rfl,e1,e2,Nat.le_of_lt (zAq (by omega)),fun q3 hq3=>?_⟩
   have s36:=Same.new (o:=.lst (vs1++vs2)) s35 hq3
   have s56:=Same.new (o:=.lst (vs1++vs2)) s5 hq3
   have W3:zBd (upd H2 q3 (.lst (vs1++vs2))) q3 ((RC.closeWrongs row p.bridge ends r.2).map w3v++(RC.nearWrongs row p.near 0 none r.2).map w3v):=mk3 _ q3 uS (fun t x ht=>by rw [uN (nN ht hq3)]; exact ht)
   have hq3H:H q3=none:=s35.free hq3
   obtain ⟨kd1,hkd1⟩:=D1.there
   obtain ⟨kd2,hkd2⟩:=D2.there
   have D1':=(D1.same s4).same s56
   have D2':=(D2.same s4).same s56
   have sz:128*i+128<sizeLine:=by rw [sizeLine_eq]; omega
   refine ⟨_,rfl,_,rfl,_,rfl,_,rfl,c,d1,d2,r,row,_,_,begins,ends,rfl,hR.same s36,D1',D2',n12,by omega,fun kvs1 D1n=>?_⟩
   obtain ⟨kq3,hk3⟩:=W3.there
   have nd1q3:d1≠q3:=nN (s4.trans s5 _ _ hkd1) hq3
   have s37:=Same.own (o:=.dK kvs1) s36 hd1
   have W3':zBd (upd (upd H2 q3 (.lst (vs1++vs2))) d1 (.dK kvs1)) q3 ((RC.closeWrongs row p.bridge ends r.2).map w3v++(RC.nearWrongs row p.near 0 none r.2).map w3v):=by
    obtain ⟨ts,t1,t2,t3⟩:=W3.ex
    exact ⟨ts,by rw [uN nd1q3.symm]; exact t1,t2,fun j t x h1 h2=>by
     have hh:=t3 j t x h1 h2
     obtain ⟨kk,hkk⟩:=D1'.there
     rw [uN (zCc hh hkk (by intro z; cases z))]
     exact hh⟩
   obtain ⟨vs3,hv3,hv3l⟩:=W3'.there
   refine ⟨_,rfl,.inl ⟨rfl,_,SqL.of hv3⟩,_,rfl,_,rfl,_,rfl,_,rfl,b,CP,dp,_,_,rfl,s37 _ _ hP,TP.cl,TP.no _ (by simp),zCk p,c,d1,r,row,p.longest,_,_,rfl,hR.same s37,D1n,hrl2,?_,fun q4 H4 s8 hq4 W4=>?_⟩
   ·intro t ht
    unfold RC.begun
    by_cases z:ends t=some row
    ·rw [if_neg (fun q=>q.2 z)]
     exact hBE t (by rw [z]; simp)
    ·rw [if_pos ⟨ht,z⟩]
     simp
   ·obtain ⟨vs5,vs6,g1,g2,g3,g4,mk5⟩:=(W3'.same s8).cat W4
    have ll1:=zJe row r.1 p.longest (RC.begun row begins ends r.2) r.2
    rw [List.length_append,List.length_map,List.length_map] at g3
    rw [List.length_map] at g4
    refine ⟨q3,q4,vs5,vs6,rfl,rfl,g1,g2,Nat.le_of_lt (zAq (by omega)),?_⟩
    have W5:zAK (upd H4 q3 (.lst (vs5++vs6))) q3 (RC.wrongsOf p row begins ends r):=by
     have:=mk5 (upd H4 q3 (.lst (vs5++vs6))) q3 uS (fun t x ht=>by rw [uN (zCc ht g1 (by intro z; cases z))]; exact ht)
     unfold RC.wrongsOf zAK
     rw [List.map_append,List.map_append]
     exact this
    have s9:Same H (upd H4 q3 (.lst (vs5++vs6))):=Same.own (s37.trans s8) hq3H
    obtain ⟨vs7,hv7,hl7⟩:=W5.there
    refine ⟨_,rfl,!vs7.isEmpty,.inl ⟨_,SqL.of hv7,rfl⟩,?_⟩
    rw [List.length_map] at hl7
    cases hws:RC.wrongsOf p row begins ends r with
    | cons z0 zr=>
     have e7:(!vs7.isEmpty)=true:=by
      cases vs7 with
      | nil=>rw [hws] at hl7; simp at hl7
      | cons _ _=>rfl
     rw [e7]
     refine iteT ?_
     refine ⟨_,rfl,q3,_,rfl,W5,by rw [hws]; simp,fun t z hz ht=>?_⟩
     refine k (.ref t) _ s9 ?_
     rw [hJ,hz]
     exact ⟨t,rfl,ht⟩
    | nil=>
     have e7:(!vs7.isEmpty)=false:=by
      cases vs7 with
      | nil=>rfl
      | cons _ _=>rw [hws] at hl7; simp at hl7
     rw [e7]
     refine iteF ?_
     rw [hws] at hJ
     have hJ:RC.judgeL p x=RC.firstWrong p (row+r.1) (RC.begun row begins ends r.2) (RC.endsBy (row+r.1) ends r.2) (x.runs.drop (i+1)):=hJ
     obtain ⟨dr,lr,hc1,hc2⟩:=hR.ex
     refine ⟨_,rfl,_,rfl,c,CR,dr,_,_,rfl,s9 _ _ hc1,TR.cl,TR.no _ (by simp),zAX _ _,_,_,rfl,rfl,?_⟩
     have nd1q3':d1≠q3:=nd1q3
     have nd2q3:d2≠q3:=nN (s4.trans s5 _ _ hkd2) hq3
     have E1:zAr (upd H4 q3 (.lst (vs5++vs6))) d1 (mD (RC.begun row begins ends r.2)) (128*i+r.2.length):=(D1n.same s8).frame (uN nd1q3)
     have E2:zAr (upd H4 q3 (.lst (vs5++vs6))) d2 (mD ends) (128*i):=((D2'.frame (uN n12.symm)).same s8).frame (uN nd2q3)
     obtain ⟨ke2,hke2⟩:=E2.there
     have nlr:lr≠d2:=nN hc2 hd2H
     refine ⟨_,rfl,c,CR,dr,_,_,rfl,s9 _ _ hc1,TR.cl,TR.no _ (by simp),zAz _ _,lr,rfl,⟨_,SqL.of (s9 _ _ hc2)⟩,zAI (K:=K) (a:=lr) (xs:=vis r.2) (fun j σ H''=>∃ (t:Option V) (kv:List (Key×V)),σ=[some (.ref a),some (.ref b),some (.ref d1),some (.ref d2),some (vi (row+r.1)),some (.ref c),some (.ref q3),t]/\
      H''=upd (upd H4 q3 (.lst (vs5++vs6))) d2 (.dK kv)/\zAr H'' d2 (mD (RC.endsBy (row+r.1) ends (r.2.take j))) (128*i+j)) ⟨_,ke2,rfl,(zKh hke2).symm,?_⟩ ?_ ?_ ?_⟩
     ·obtain ⟨kk,c1,c2,c3⟩:=E2.ex
      refine ⟨kk,c1,fun t=>?_,c3⟩
      rw [c2]
      unfold mD RC.endsBy
      simp
     ·rintro j σ H'' _ ⟨t,kv,rfl,rfl,_⟩
      exact SqL.of (by rw [uN nlr]; exact s9 _ _ hc2)
     ·rintro j y σ H'' hj ⟨t,kv,rfl,rfl,hd⟩
      obtain ⟨t',ht',rfl⟩:=zBM hj
      have hjl:=zAk ht'
      obtain ⟨kvs2,p1,p2⟩:=hd.put (by omega) t' (vi (row+r.1))
      refine ⟨_,rfl,_,rfl,_,rfl,d2,_,rfl,p1,_,kvs2,rfl,zAx,?_⟩
      obtain ⟨kk,c1,c2,c3⟩:=p2.ex
      refine ⟨kk,c1,fun u=>?_,c3⟩
      rw [c2 u,zAl ht']
      unfold mD RC.endsBy
      by_cases z:u=t'
      ·subst z
       simp
      ·simp [z]
     ·rintro σ H'' ⟨t,kv,rfl,rfl,hd⟩
      rw [zAg,List.take_length] at hd
      refine ⟨_,_,_,row+r.1,RC.begun row begins ends r.2,RC.endsBy (row+r.1) ends r.2,rfl,Same.own s9 hd2H,(E1.frame (uN n12)).mono (by omega),hd.mono (by omega),hJ,fun t' ht'=>?_⟩
      unfold RC.begun
      unfold RC.endsBy at ht'
      by_cases z:t'∈r.2
      ·by_cases z2:ends t'=some row
       ·rw [if_neg (fun q=>q.2 z2)]
        exact hBE t' (by rw [z2]; simp)
       ·rw [if_pos ⟨z,z2⟩]
        simp
      ·rw [if_neg z] at ht'
       rw [if_neg (fun q=>z q.1)]
       exact hBE t' ht'
  ·rintro σ H' ⟨u,v,t,row,begins,ends,rfl,s3,D1,D2,hJ,hBE⟩
   rw [List.length_map,hlen,List.drop_length] at hJ
   refine k .non H' s3 ?_
   rw [hJ]
   rfl
end
end RB
end
section
namespace RX
open PySem PyProof.Rows L2 HT
theorem rcGtInt (A:Around) (s:Shared) (a:Int) (t:Tok) (c:Int) (u:Tok) (prog:Program) (w:World) (E:Value->Shared->Prop) (Q:Value->Shared->Prop) (h:Q (.bool (decide (c<a))) s):
  wpAny (model prog w) A (richCompare .Gt (.int a t) (.int c u)) Q E s:=
 (PyProof.Rows.gt_int h:wpAny (model prog w) A (compareOp .Gt (.int a t) (.int c u)) Q E s)
section
open PySem.SeqAt
open PySem.AutoSeq1 (wpAny_loadPart')
open PySem.MeetsSeq PySem.MeetsSeq2 PySem.MeetsSeq3
theorem zKn (l b:Addr) (items items2:Array Value) (n n2:Nat) (dd dd2:Option Addr) (sl sl2:Array (Option Value)) (ns ms:List Int) (hi:IntsAre items.toList ns) (hj:IntsAre items2.toList ms):
  Meets (Builtin.«tuple.__gt__» ⟨[.ref l,.ref b],[]⟩)
   (fun _ R s=>s.heap.get? l=some { cls:=.type "tuple",dict:=dd,data:=.seq items n,slots:=sl }/\s.heap.get? b=some { cls:=.type "tuple",dict:=dd2,data:=.seq items2 n2,slots:=sl2 }/\
    R (.ok (.ret (.bool (lexLt ms ns)))) s):=
 .of_wp fun prog w A R s h=>by
  obtain ⟨hp,g,d,tk,os⟩:=s; obtain ⟨hl,hb,h⟩:=h
  have f2:=AutoSeq1.sub_tuple_tuple
  have z1:items.size=ns.length:=by rw [<- hi.length]; simp
  have z2:items2.size=ms.length:=by rw [<- hj.length]; simp
  wp_walk using wpAny_loadPart' hl,wpAny_loadPart' hb,wpAny_forIn_list _ (fun rest b s'=>b.1=none/\s'=⟨hp,g,d,tk,os⟩/\∃ (vs ws:List Value) (ns' ms':List Int),rest=vs.zip ws/\
   IntsAre vs ns'/\IntsAre ws ms'/\ns'.length+items2.size=ms'.length+items.size/\R (.ok (.ret (.bool (lexLt ms' ns')))) ⟨hp,g,d,tk,os⟩) _
  case turn=>
   rintro ⟨y,x⟩ rest b s' ⟨hb',rfl,vs,ws,ns',ms',hz,hvi,hwi,hlen,hR⟩
   cases hvi with
   | nil=>rw [List.zip_nil_left] at hz; cases hz
   | cons a t hvi'=>
    cases hwi with
    | nil=>rw [List.zip_nil_right] at hz; cases hz
    | cons c u hwi'=>
     rw [List.zip_cons_cons] at hz
     injection hz with hyx hrest
     injection hyx with hy hx
     subst hy hx
     rw [zFs] at hR
     simp only [List.length_cons] at hlen
     obtain ⟨e,he,hiff⟩:=zJn A.in1 ⟨hp,g,d,tk,os⟩ a t c u
     refine wpAny_bind (he prog w _ _ ?_)
     cases e with
     | true=>
      rw [if_pos (hiff.mp rfl).symm] at hR
      wp_walk
      exact ⟨rfl,rfl,_,_,_,_,hrest,hvi',hwi',by omega,hR⟩
     | false=>
      rw [if_neg (fun q=>absurd (hiff.mpr q.symm) Bool.false_ne_true)] at hR
      have hri:=rcGtInt A.in1 ⟨hp,g,d,tk,os⟩ a t c u prog w
      wp_walk using hri
      exact ⟨_,rfl,by simpa using hR⟩
  case fin=>
   rintro ⟨b1,b2⟩ s' ⟨hb',rfl,vs,ws,ns',ms',hz,hvi,hwi,hlen,hR⟩
   simp only at hb'
   subst hb'
   have hv:lexLt ms' ns'=decide (items2.size<items.size):=by
    cases hvi with
    | nil=>
     cases hwi with
     | nil=>
      simp only [List.length_nil] at hlen
      rw [zDi]
      exact (decide_eq_false (by omega)).symm
     | cons c u hw=>
      simp only [List.length_nil,List.length_cons] at hlen
      rw [zCH]
      exact (decide_eq_false (by omega)).symm
    | cons a t hv=>
     cases hwi with
     | nil=>
      simp only [List.length_nil,List.length_cons] at hlen
      rw [zCG]
      exact (decide_eq_true (by omega)).symm
     | cons c u hw=>
      rw [List.zip_cons_cons] at hz
      cases hz
   rw [hv] at hR
   wp_walk
   exact ⟨_,rfl,by simpa [Builtin.Tuple.tupleCompareSizes] using hR⟩
  case h=>
   exact ⟨rfl,rfl,items.toList,items2.toList,ns,ms,rfl,hi,hj,by omega,h⟩
end
section
variable {prog:Program} {w:World} {A:Around} {E:Value->Shared->Prop} {s:Shared}
theorem zMn {l b:Addr} {items items2:Array Value} {ns ms:List Int} {Q:Value->Shared->Prop} (hl:IsTup s.heap l items) (hb:IsTup s.heap b items2) (hi:IntsAre items.toList ns) (hj:IntsAre items2.toList ms)
  (hu:A.units<cLine) (h:Q (.bool (lexLt ms ns)) s):wpAny (model prog w) A (compareOp .Gt (.ref l) (.ref b)) Q E s:=by
 obtain ⟨⟨cls,dd,data,sl⟩,ho,hc,n,hd⟩:=id hl
 obtain ⟨⟨cls2,dd2,data2,sl2⟩,ho2,hc2,n2,hd2⟩:=id hb
 simp only at hc hd hc2 hd2
 subst hc hd hc2 hd2
 exact richCompare_meets_room (op := .Gt) ⟨_,ho,rfl⟩ ⟨_,ho2,rfl⟩ PySem.F.slot_tuple_gt PySem.F.entry_tuple_gt (PySem.F.args_tuple_gt_2 _ _) (zKn l b items items2 n n2 dd dd2 sl sl2 ns ms hi hj)
  ⟨ho,ho2,show Value.bool (lexLt ms ns)≠Value.notImplemented/\Q (.bool (lexLt ms ns)) s from ⟨(fun x=>nomatch x),h⟩⟩ hu
end
end RX
namespace RB
open PySem PySem.Spec PyProof.Rows L2 RX
section
variable {X:Cx}
noncomputable def rGtT (K:PySem.W.Frag):R2:=fun x y H Q=>∃ a b ns ms,x = .ref a/\y = .ref b/\SqT K H a (ns.map V.int)/\SqT K H b (ms.map V.int)/\Q (.bl (HT.lexLt ms ns)) H
theorem op_gtT (hu:X.A.units<cLine):OpR X (compareOp .Gt) (rGtT X.K):=by
 intro pins s σ H x y v u Q I rx ry h
 obtain ⟨a,b,ns,ms,rfl,rfl,ha,hb,q⟩:=h
 cases rx
 cases ry
 obtain ⟨its,r1,p1,_⟩:=I.tuple ha
 obtain ⟨its2,r2,p2,_⟩:=I.tuple hb
 exact zMn p1 p2 (zDB r1) (zDB r2) hu ⟨.bl (HT.lexLt ms ns),H,I,rfl,q⟩
end
end RB
end
section
namespace RB
open PySem PySem.Spec PyProof.Rows L2 RX
noncomputable def zFH (x:RC.T3):List (Str×V):=rec3 "track" "first" "end" (vi x.1) (vi x.2.1) (vi x.2.2)
theorem zAO (x:RC.T3):(zFH x).lookup ("track" : Str)=some (vi x.1):=rec3_a (by decide) (by decide)
theorem zAP (x:RC.T3):(zFH x).lookup ("first" : Str)=some (vi x.2.1):=rec3_b (by decide)
theorem zBO (x:RC.T3):(zFH x).lookup ("end" : Str)=some (vi x.2.2):=rec3_c
noncomputable abbrev zDG:List Str:=["track","first","end"]
structure zCI (CT:Addr) (H:Hp) (a:Addr) (x:RC.T3):Prop where
 ex:∃ dx,H a=some (.ins CT dx (zFH x))
theorem zCI.same {CT:Addr} {H H':Hp} {a:Addr} {x:RC.T3} (h:zCI CT H a x) (s:Same H H'):zCI CT H' a x:=let ⟨dx,e⟩:=h.ex; ⟨dx,s _ _ e⟩
section
variable {P:Program} {w:World} {K:PySem.W.Frag} {mg:Str->Option Value} {base:Heap}
theorem zMS:zAc ["self","width","runs"] ["self","width","runs"] (zAa zHU):=⟨rfl,rfl,rfl,by decide +kernel,rfl,by decide +kernel,by decide +kernel⟩
theorem zLv {f C:Addr} {fd:FuncData} (F:Fun K "__init__" "Strip.__init__" zHU f fd) (T:Cl K C zDp):FnOk P w K mg base CX0 1 f fd ["self","width","runs"] (spI2 C "width" "runs"):=by
 refine F.ok zMS (fun vs H Q E h=>?_) (fun cdv A outer s H vs Q E hr h=>?_)
 ·obtain ⟨p,dx,x,y,rfl,_⟩:=h
  rfl
 ·obtain ⟨p,dx,x,y,rfl,hp,k⟩:=h
  refine ⟨_,pC (zBt (pv 0) (pv 1) rfl) (pO (zBt (pv 0) (pv 2) rfl)),?_⟩
  refine ⟨_,rfl,_,rfl,p,C,dx,[],rfl,hp,T.cl,T.no _ (by simp),(by show 0<1000; decide),?_⟩
  refine ⟨_,rfl,_,rfl,p,C,dx,_,rfl,uS,T.cl,T.no _ (by simp),(by show 1<1000; decide),?_⟩
  rw [zAx]
  exact k
theorem scToneI:zAc ["self","track","first","end"] ["self","track","first","end"] (zAa zKQ):=⟨rfl,rfl,rfl,by decide +kernel,rfl,by decide +kernel,by decide +kernel⟩
theorem zNr {f C:Addr} {fd:FuncData} (F:Fun K "__init__" "Tone.__init__" zKQ f fd) (T:Cl K C zDG):FnOk P w K mg base CX0 1 f fd ["self","track","first","end"] (spI3 C "track" "first" "end"):=by
 refine F.ok scToneI (fun vs H Q E h=>?_) (fun cdv A outer s H vs Q E hr h=>?_)
 ·obtain ⟨p,dx,x,y,z,rfl,_⟩:=h
  rfl
 ·obtain ⟨p,dx,x,y,z,rfl,hp,k⟩:=h
  refine ⟨_,pC (zBt (pv 0) (pv 1) rfl) (pC (zBt (pv 0) (pv 2) rfl) (pO (zBt (pv 0) (pv 3) rfl))),?_⟩
  refine ⟨_,rfl,_,rfl,p,C,dx,[],rfl,hp,T.cl,T.no _ (by simp),(by show 0<1000; decide),?_⟩
  refine ⟨_,rfl,_,rfl,p,C,dx,_,rfl,uS,T.cl,T.no _ (by simp),(by show 1<1000; decide),?_⟩
  refine ⟨_,rfl,_,rfl,p,C,dx,_,rfl,uS,T.cl,T.no _ (by simp),(by show 2<1000; decide),?_⟩
  rw [zAx,zAx]
  exact k
theorem zMT:zAc ["self","tail","longest","bridge","near"] ["self","tail","longest","bridge","near"] (zAa zHV):=⟨rfl,rfl,rfl,by decide +kernel,rfl,by decide +kernel,by decide +kernel⟩
theorem zLx {f C:Addr} {fd:FuncData} (F:Fun K "__init__" "Paper.__init__" zHV f fd) (T:Cl K C zHk):FnOk P w K mg base CX0 1 f fd ["self","tail","longest","bridge","near"] (spI4 C "tail" "longest" "bridge" "near"):=by
 refine F.ok zMT (fun vs H Q E h=>?_) (fun cdv A outer s H vs Q E hr h=>?_)
 ·obtain ⟨p,dx,x,y,z,u,rfl,_⟩:=h
  rfl
 ·obtain ⟨p,dx,x,y,z,u,rfl,hp,k⟩:=h
  refine ⟨_,pC (zBt (pv 0) (pv 1) rfl) (pC (zBt (pv 0) (pv 2) rfl) (pC (zBt (pv 0) (pv 3) rfl) (pO (zBt (pv 0) (pv 4) rfl)))),?_⟩
  refine ⟨_,rfl,_,rfl,p,C,dx,[],rfl,hp,T.cl,T.no _ (by simp),(by show 0<1000; decide),?_⟩
  refine ⟨_,rfl,_,rfl,p,C,dx,_,rfl,uS,T.cl,T.no _ (by simp),(by show 1<1000; decide),?_⟩
  refine ⟨_,rfl,_,rfl,p,C,dx,_,rfl,uS,T.cl,T.no _ (by simp),(by show 2<1000; decide),?_⟩
  refine ⟨_,rfl,_,rfl,p,C,dx,_,rfl,uS,T.cl,T.no _ (by simp),(by show 3<1000; decide),?_⟩
  rw [zAx,zAx,zAx]
  exact k
noncomputable def spRI (C:Addr):Sp:=fun vs H Q _=>∃ (p dx:Addr) (x:V),vs=[.ref p,x]/\H p=some (.ins C dx [])/\Q .non (upd H p (.ins C dx (rec2 "given" "place" x (vi 0))))
noncomputable abbrev zBy:List Str:=["given","place"]
theorem zKJ:zAc ["self","given"] ["self","given"] (zAa zGa):=⟨rfl,rfl,rfl,by decide +kernel,rfl,by decide +kernel,by decide +kernel⟩
theorem zJB {f C:Addr} {fd:FuncData} (F:Fun K "__init__" "Reader.__init__" zGa f fd) (T:Cl K C zBy):FnOk P w K mg base CX0 1 f fd ["self","given"] (spRI C):=by
 refine F.ok zKJ (fun vs H Q E h=>?_) (fun cdv A outer s H vs Q E hr h=>?_)
 ·obtain ⟨p,dx,x,rfl,_⟩:=h
  rfl
 ·obtain ⟨p,dx,x,rfl,hp,k⟩:=h
  refine ⟨_,pC (zBt (pv 0) (pv 1) rfl) (pO (zBt (pv 0) zAb rfl)),?_⟩
  refine ⟨_,rfl,_,rfl,p,C,dx,[],rfl,hp,T.cl,T.no _ (by simp),(by show 0<1000; decide),?_⟩
  refine ⟨_,rfl,p,C,dx,_,rfl,uS,T.cl,T.no _ (by simp),(by show 1<1000; decide),?_⟩
  rw [zAx]
  exact k
noncomputable def spBI (C:Addr):Sp:=fun vs H Q _=>∃ (p dx:Addr),vs=[.ref p]/\H p=some (.ins C dx [])/\∀ l,H l=none->Q .non (upd (upd H l (.lst [])) p (.ins C dx (rec2 "strips" "paper" (.ref l) .non)))
noncomputable abbrev zBm:List Str:=["strips","paper"]
theorem zMU:zAc ["self"] ["self"] (zAa zHZ):=⟨rfl,rfl,rfl,by decide +kernel,rfl,by decide +kernel,by decide +kernel⟩
theorem zLF {f C:Addr} {fd:FuncData} (F:Fun K "__init__" "Bench.__init__" zHZ f fd) (T:Cl K C zBm):FnOk P w K mg base CX0 1 f fd ["self"] (spBI C):=by
 refine F.ok zMU (fun vs H Q E h=>?_) (fun cdv A outer s H vs Q E hr h=>?_)
 ·obtain ⟨p,dx,rfl,_⟩:=h
  rfl
 ·obtain ⟨p,dx,rfl,hp,k⟩:=h
  refine ⟨_,pC (zBt (pv 0) (zAd pN) rfl) (pO (zBt (pv 0) zBD rfl)),?_⟩
  refine ⟨Nat.zero_le _,fun l hl=>⟨_,rfl,p,C,dx,[],rfl,by rw [uN (nN hp hl)]; exact hp,T.cl,T.no _ (by simp),(by show 0<1000; decide),?_⟩⟩
  refine ⟨_,rfl,p,C,dx,_,rfl,uS,T.cl,T.no _ (by simp),(by show 1<1000; decide),?_⟩
  rw [zAx]
  exact k l hl
noncomputable def zKz (CT:Addr):Sp:=fun vs H Q _=>∃ (a:Addr) (x:RC.T3) (wd e:Nat),vs=[.ref a,vi wd,vi e]/\zCI CT H a x/\Q (.bl (decide (x.1<wd)&&(decide (x.2.1<x.2.2)&&decide (x.2.2<=e)))) H
theorem scFits:zAc ["tone","width","last_end"] ["tone","width","last_end"] (zAa sFits):=⟨rfl,rfl,rfl,by decide +kernel,rfl,by decide +kernel,by decide +kernel⟩
theorem zBl (a b:Nat):decide ((a:Int)<(b:Int))=decide (a<b):=decide_eq_decide.mpr (by omega)
theorem zCA (a b:Nat):decide ((a:Int)<=(b:Int))=decide (a<=b):=decide_eq_decide.mpr (by omega)
theorem ok_fits {f CT:Addr} {fd:FuncData} (F:Fun K "fits" "fits" sFits f fd) (T:Cl K CT zDG):FnOk P w K mg base CX0 1 f fd ["tone","width","last_end"] (zKz CT):=by
 refine F.ok scFits (fun vs H Q E h=>?_) (fun cdv A outer s H vs Q E hr h=>?_)
 ·obtain ⟨a,x,wd,e,rfl,_⟩:=h
  rfl
 ·obtain ⟨a,x,wd,e,rfl,hT,k⟩:=h
  obtain ⟨dx,ha⟩:=hT.ex
  refine ⟨_,pO (pR (zIW (zDw zCC (pF (pv 0) rfl) (pv 1) (zAe _)) (zIS (zIV zCC zLt (pF (pv 0) rfl) (pF (pv 0) rfl) (pv 2))))),?_⟩
  refine ⟨_,rfl,a,CT,dx,_,_,rfl,ha,T.cl,T.no _ (by simp),zAO x,_,rfl,_,_,rfl,rfl,_,rfl,?_⟩
  rw [zBl]
  cases h1:decide (x.1<wd) with
  | false=>
   refine iteF ?_
   rw [h1] at k
   exact k
  | true=>
   refine iteT ?_
   rw [h1,Bool.true_and] at k
   refine ⟨_,rfl,a,CT,dx,_,_,rfl,ha,T.cl,T.no _ (by simp),zAP x,_,rfl,a,CT,dx,_,_,rfl,ha,T.cl,T.no _ (by simp),zBO x,_,_,rfl,rfl,_,rfl,?_⟩
   rw [zBl]
   cases h2:decide (x.2.1<x.2.2) with
   | false=>
    refine iteF ?_
    rw [h2] at k
    exact k
   | true=>
    refine iteT ?_
    rw [h2,Bool.true_and] at k
    refine ⟨_,rfl,_,_,rfl,rfl,?_⟩
    show Q (.bl (decide ((x.2.2:Int)<=(e:Int)))) H
    rw [zCA]
    exact k
noncomputable def zFM (CT:Addr):Sp:=fun vs H Q _=>∃ (a b:Addr) (x y:RC.T3),vs=[.ref a,.ref b]/\zCI CT H a x/\zCI CT H b y/\∀ H',Same H H'->Q (.bl (RC.behind (some y) x)) H'
theorem zMV:zAc ["tone","before"] ["tone","before"] (zAa zIa):=⟨rfl,rfl,rfl,by decide +kernel,rfl,by decide +kernel,by decide +kernel⟩
theorem zMC (x y:RC.T3):HT.lexLt [(y.2.1:Int),(y.1:Int)] [(x.2.1:Int),(x.1:Int)]=RC.behind (some y) x:=by
 unfold RC.behind
 simp only [HT.lexLt]
 by_cases h1:(y.2.1:Int)=(x.2.1:Int)
 ·rw [if_pos h1]
  have h1':y.2.1=x.2.1:=by omega
  by_cases h2:(y.1:Int)=(x.1:Int)
  ·rw [if_pos h2,decide_eq_false (show ¬ y.2.1<x.2.1 by omega),decide_eq_false (show ¬ y.1<x.1 by omega),Bool.and_false]
   rfl
  ·rw [if_neg h2,decide_eq_false (show ¬ y.2.1<x.2.1 by omega),decide_eq_true h1',Bool.true_and,Bool.false_or,zBl]
 ·rw [if_neg h1,decide_eq_false (show ¬ y.2.1=x.2.1 by omega),Bool.false_and,Bool.or_false,zBl]
theorem zLG {f CT:Addr} {fd:FuncData} (F:Fun K "stands_behind" "stands_behind" zIa f fd) (T:Cl K CT zDG):FnOk P w K mg base CX0 1 f fd ["tone","before"] (zFM CT):=by
 refine F.ok zMV (fun vs H Q E h=>?_) (fun cdv A outer s H vs Q E hr h=>?_)
 ·obtain ⟨a,b,x,y,rfl,_⟩:=h
  rfl
 ·obtain ⟨a,b,x,y,rfl,hT,hU,k⟩:=h
  obtain ⟨dx,ha⟩:=hT.ex
  obtain ⟨dy,hb⟩:=hU.ex
  refine ⟨_,pO (pR (zDw (op_gtT (Nat.lt_of_succ_lt (zIr hr))) (zFl (pA (pF (pv 0) rfl) (pA (pF (pv 0) rfl) pN))) (zFl (pA (pF (pv 1) rfl) (pA (pF (pv 1) rfl) pN))) (zAe _))),?_⟩
  refine ⟨_,rfl,a,CT,dx,_,_,rfl,ha,T.cl,T.no _ (by simp),zAP x,_,rfl,a,CT,dx,_,_,rfl,ha,T.cl,T.no _ (by simp),zAO x,(by show 2<=sizeLine; decide),fun p hp=>?_⟩
  have s1:Same H (upd H p (.tup [vi x.2.1,vi x.1])):=Same.new (Same.refl H) hp
  refine ⟨_,rfl,b,CT,dy,_,_,rfl,s1 _ _ hb,T.cl,T.no _ (by simp),zAP y,_,rfl,b,CT,dy,_,_,rfl,s1 _ _ hb,T.cl,T.no _ (by simp),zAO y,(by show 2<=sizeLine; decide),fun q hq=>?_⟩
  have npq:p≠q:=nN uS hq
  refine ⟨p,q,[(x.2.1:Int),(x.1:Int)],[(y.2.1:Int),(y.1:Int)],rfl,rfl,SqT.of (by rw [uN npq,uS]; rfl),SqT.of uS,?_⟩
  rw [zMC]
  exact k _ (Same.new s1 hq)
end
end RB
end
section
namespace RB
open PySem PySem.Spec PyProof.Rows L2 RX
noncomputable def zCm (l:List Nat):List PyData:=l.map fun (n:Nat)=>PyData.int (n:Int)
theorem dp_all {K:PySem.W.Frag} {H:Hp}:∀ l:List Nat,zIz K H (vis l) (zCm l)
 | []=>.nil
 | _::l=>.cons (.int _) (dp_all l)
theorem zGs {K:PySem.W.Frag} {H:Hp} {a:Addr} {l:List Nat} (h:H a=some (.lst (vis l))):Dp K H (.ref a) (.list (zCm l)):=.lst (SqL.of h) (dp_all l)
theorem zET:∀ l m:List Nat,PyData.eqvAll (zCm l) (zCm m)=decide (l=m)
 | [],[]=>by simp [zCm,PyData.eqvAll]
 | [],_::_=>by simp [zCm,PyData.eqvAll]
 | _::_,[]=>by simp [zCm,PyData.eqvAll]
 | a::l,b::m=>by
  have ih:=zET l m
  unfold zCm at ih ⊢
  rw [List.map_cons,List.map_cons,PyData.eqvAll,ih,Bool.eq_iff_iff]
  simp [PyData.eqv]
  intro _
  omega
theorem zJm (l m:List Nat):PyData.eqv (.list (zCm l)) (.list (zCm m))=decide (l=m):=by
 rw [PyData.eqv,zET]
theorem zEY:∀ l:List Nat,PyData.canLayAll0 (zCm l)=true
 | []=>by simp [zCm,PyData.canLayAll0]
 | a::l=>by
  have ih:=zEY l
  unfold zCm at ih ⊢
  rw [List.map_cons,PyData.canLayAll0,ih]
  simp [PyData.canLay0]
theorem zFB:∀ l:List Nat,PyData.depthAll (zCm l)=0
 | []=>by simp [zCm,PyData.depthAll]
 | a::l=>by
  have ih:=zFB l
  unfold zCm at ih ⊢
  rw [List.map_cons,PyData.depthAll,ih]
  simp [PyData.depth]
theorem zBT (l:List Nat):SeqAt.shaped (.list (zCm l))=true:=by
 unfold SeqAt.shaped
 rw [PyData.canLay0,zEY,PyData.depth,zFB]
 rfl
section
variable {X:Cx}
noncomputable def zIP (K:PySem.W.Frag):List V->Hp->VK->Prop:=fun vs H Q=>∃ (a:Addr) (ns:List Int),vs=[V.ref a]/\SqL K H a (ns.map V.int)/\
 ∀ (ns':List Int) (p:Addr),ns'.Perm ns->ns'.Pairwise (·<=·)->H p=none->Q (.ref p) (upd H p (.lst (ns'.map V.int)))
theorem zJS:zFe X (.builtin "sorted") (zIP X.K):=by
 intro pins s σ H vs us Q I r h
 obtain ⟨a,ns,rfl,hs,q⟩:=h
 obtain ⟨its,rv,hl,hz⟩:=I.list hs
 rw [Vals.ref1 r]
 have hi:=rv.ints
 have hlz:ns.length<=sizeLine:=by rw [List.length_map] at hz; exact hz
 refine PyProof.Rows.sorted_intsAny hl.isList hi (by rw [hi.length]; exact hlz) fun out ns' h1 h2 h3=>?_
 obtain ⟨ep,he'⟩:=PyProof.Rows.sortedAll_at s.heap its out
 have hlen:(ns'.map V.int).length<=sizeLine:=by rw [List.length_map,h2.length_eq]; exact hlz
 exact ⟨.ref _,upd H (s.heap.objs.size+1) (.lst (ns'.map V.int)),I.laid (t':=s.toks) (fun _ _=>PyProof.Rows.sortedAll_old) (Nat.le_succ _) ⟨hlen,out.toList,ep,zCe h1,he'⟩,rfl,q ns' _ h2 h3 (I.hok.fresh (Nat.le_succ _))⟩
end
structure zBN (H:Hp) (as:List Addr) (hs:List (List Nat)):Prop where
 len:as.length=hs.length
 at_:∀ (i:Nat) (a:Addr) (l:List Nat),as[i]? = some a->hs[i]? = some l->H a=some (.lst (vis l))
theorem zBN.same {H H':Hp} {as:List Addr} {hs:List (List Nat)} (h:zBN H as hs) (s:Same H H'):zBN H' as hs:=⟨h.len,fun i a l h1 h2=>s _ _ (h.at_ i a l h1 h2)⟩
theorem zEM {as:List Addr} (h:as.Nodup) {i j:Nat} {a:Addr} (hi:as[i]? = some a) (hj:as[j]? = some a):i=j:=by
 exact (List.getElem?_inj (List.getElem?_eq_some_iff.mp hi).1 h).mp (hi.trans hj.symm)
noncomputable def zHD (t:Nat) (f n:Nat) (hs:List (List Nat)):List (List Nat):=hs.mapIdx fun i l=>if f<=i/\i<f+n then l++[t] else l
theorem zCo {t f n:Nat} {hs:List (List Nat)} {i:Nat}:(zHD t f n hs)[i]? = (hs[i]?).map fun l=>if f<=i/\i<f+n then l++[t] else l:=by
 unfold zHD
 rw [List.getElem?_mapIdx]
theorem zDT {t f n:Nat} {hs:List (List Nat)}:(zHD t f n hs).length=hs.length:=by unfold zHD; rw [List.length_mapIdx]
section
variable {P:Program} {w:World} {K:PySem.W.Frag} {mg:Str->Option Value} {base:Heap}
noncomputable def zEq:Sp:=fun vs H Q _=>∃ (h:Addr) (as:List Addr) (hs:List (List Nat)) (t f n:Nat),vs=[.ref h,vi t,vi f,vi n]/\H h=some (.lst (as.map V.ref))/\as.Nodup/\h∉as/\zBN H as hs/\f+n<=hs.length/\hs.length<=1000/\
 (∀ l∈hs,l.length<sizeLine)/\∀ H',(∀ b,b∉as->H' b=H b)->zBN H' as (zHD t f n hs)->Q .non H'
theorem zGT:zAc ["holes","track","first","length","row"] ["holes","track","first","length"] (zAa zGc):=⟨rfl,rfl,rfl,by decide +kernel,rfl,by decide +kernel,by decide +kernel⟩
theorem zJD {f:Addr} {fd:FuncData} (F:Fun K "cut_slot" "cut_slot" zGc f fd) (hrange:mg "range" = none):FnOk P w K mg base CX0 1 f fd ["holes","track","first","length"] zEq:=by
 refine F.ok zGT (fun vs H Q E h=>?_) (fun cdv A outer s H vs Q E hr h=>?_)
 ·obtain ⟨h,as,hs,t,f,n,rfl,_⟩:=h
  rfl
 ·obtain ⟨h,as,hs,t,f,n,rfl,hh,hnd,hna,L,hfn,hlen,hsz,k⟩:=h
  refine ⟨_,pO (zBb PassesOwn.never rfl (zLm rfl hrange (pA (pv 2) (pA (zAs zBc (pv 2) (pv 3)) pN))) (zAn (i:=4) zGT.nd rfl (Or.inl rfl))
   (pO (zAA (zCj PySem.F.plainAttrs_list PySem.F.slot_list_append PySem.F.type_list_append zAM (zAF zAi (pv 0) (pv 4) (fun _ _=>rfl)) (pA (pv 1) pN))))),?_⟩
  refine ⟨_,rfl,_,rfl,_,rfl,_,_,rfl,rfl,(f:Int),((f:Int)+(n:Int)),rfl,⟨by omega,by omega,by omega,by omega⟩,?_⟩
  rw [show ((f:Int)+(n:Int)-(f:Int)).toNat=n by omega]
  refine zMr (fun i σ H'=>∃ u,σ=[some (.ref h),some (vi t),some (vi f),some (vi n),u]/\(∀ b,b∉as->H' b=H b)/\zBN H' as (zHD t f i hs)) ⟨none,rfl,fun _ _=>rfl,⟨by rw [zDT]; exact L.len,fun i a l h1 h2=>?_⟩⟩ ?_ ?_
  ·rw [zCo] at h2
   cases e:hs[i]? with
   | none=>rw [e] at h2; cases h2
   | some l'=>
    rw [e,Option.map_some,if_neg (by omega)] at h2
    cases h2
    exact L.at_ i a _ h1 e
  ·rintro i σ H' hi ⟨u,rfl,hk,L'⟩
   have hjl:f+i<hs.length:=by omega
   obtain ⟨a,ha⟩:∃ a,as[f+i]? = some a:=⟨_,List.getElem?_eq_getElem (by rw [L.len]; exact hjl)⟩
   obtain ⟨l,hl⟩:∃ l,hs[f+i]? = some l:=⟨_,List.getElem?_eq_getElem hjl⟩
   have hl':(zHD t f i hs)[f+i]? = some l:=by rw [zCo,hl,Option.map_some,if_neg (by omega)]
   have hHa:=L'.at_ _ a l ha hl'
   have hh':H' h=some (.lst (as.map V.ref)):=by rw [hk h hna]; exact hh
   have hmem:a∈as:=List.mem_of_getElem? ha
   refine ⟨_,rfl,_,rfl,h,_,_,.ref a,rfl,rfl,SqL.of hh',?_,.inl ⟨rfl,_,SqL.of hHa⟩,_,rfl,a,_,_,rfl,rfl,hHa,?_,?_⟩
   ·rw [show ((f:Int)+(i:Nat))=((f+i:Nat):Int) by omega]
    exact zBZ (by rw [List.getElem?_map,ha]; rfl)
   ·rw [zAg]
    exact hsz l (List.mem_of_getElem? hl)
   ·refine ⟨_,rfl,fun b hb=>?_,⟨by rw [zDT]; exact L.len,fun j b m h1 h2=>?_⟩⟩
    ·rw [uN (fun z=>hb (by rw [z]; exact hmem))]
     exact hk b hb
    ·rw [zCo] at h2
     cases e:hs[j]? with
     | none=>rw [e] at h2; cases h2
     | some m0=>
      rw [e,Option.map_some] at h2
      by_cases z:j=f+i
      ·subst z
       rw [ha] at h1
       cases h1
       rw [hl] at e
       cases e
       rw [if_pos (by omega)] at h2
       cases h2
       rw [uS,zAU]
       rfl
      ·have hne:b≠a:=fun q=>z (zEM hnd (by rw [q] at h1; exact h1) ha)
       rw [uN hne]
       refine L'.at_ j b m h1 ?_
       rw [zCo,e,Option.map_some,<- h2]
       by_cases z2:f<=j/\j<f+i
       ·rw [if_pos z2,if_pos (by omega)]
       ·rw [if_neg z2,if_neg (by omega)]
  ·rintro σ H' ⟨u,rfl,hk,L'⟩
   exact k H' hk L'
end
end RB
end
section
namespace RB
open PySem PySem.Spec PyProof.Rows L2 RX
structure zMI (CR:Addr) (as:List Addr) (H0 H:Hp) (q:Addr) (cs:List Addr) (rs:List RC.Run):Prop where
 lst:H q=some (.lst (cs.map V.ref))
 len:cs.length=rs.length
 nd:cs.Nodup
 fr:∀ c∈cs,H0 c=none
 at_:∀ (i:Nat) (c:Addr) (r:RC.Run),cs[i]? = some c->rs[i]? = some r->∃ dx l,H c=some (.ins CR dx (runF r.1 l))/\H0 l=some (.lst (vis r.2))/\l∈as
noncomputable def zLW (cs:List Addr):V:=match cs.getLast? with
 | some c=>.ref c
 | none=>.non
section
variable {P:Program} {w:World} {K:PySem.W.Frag} {mg:Str->Option Value} {base:Heap}
noncomputable def zFK (CS CR:Addr):Sp:=fun vs H Q _=>∃ (h:Addr) (as:List Addr) (rows:List (List Nat)) (wd:Nat),vs=[vi wd,.ref h]/\H h=some (.lst (as.map V.ref))/\zBN H as rows/\rows.length<=1000/\
 ∀ (a:Addr) (H':Hp),Same H H'->H a=none->zBo CS CR (onH (fun c=>H c=none\/c∈as) H') a ⟨wd,rows.foldl RC.addRow []⟩->Q (.ref a) H'
theorem zDa:zAc ["width","rows","runs","latest","tracks"] ["width","rows"] (zAa zHW):=⟨rfl,rfl,rfl,by decide +kernel,rfl,by decide +kernel,by decide +kernel⟩
theorem zKa (l:List RC.Run) (ts:List Nat):(RC.addRow l ts).length<=l.length+1:=by
 unfold RC.addRow
 split
 ·split
  ·rw [List.length_append,List.length_dropLast,List.length_singleton]
   omega
  ·rw [List.length_append,List.length_singleton]
   omega
 ·rw [List.length_append,List.length_singleton]
  omega
theorem zES:∀ (rows:List (List Nat)) (l:List RC.Run),(rows.foldl RC.addRow l).length<=l.length+rows.length
 | [],l=>by simp
 | r::rows,l=>by
  have h1:=zES rows (RC.addRow l r)
  have h2:=zKa l r
  rw [List.foldl_cons,List.length_cons]
  omega
theorem zLy {f CS CR:Addr} {fd:FuncData} (F:Fun K "strip_of_rows" "strip_of_rows" zHW f fd) (TR:Cl K CR zEB) (G1:GC P w K mg base 1 "Run" CR ["self","rows","tracks"] (spI2 CR "rows" "tracks"))
    (G2:GC P w K mg base 1 "Strip" CS ["self","width","runs"] (spI2 CS "width" "runs")):FnOk P w K mg base CX0 3 f fd ["width","rows"] (zFK CS CR):=by
  refine F.ok zDa (fun vs H Q E h=>?_) (fun cdv A outer s H vs Q E hr h=>?_)
  · obtain ⟨h,as,rows,wd,rfl,_⟩:=h
    rfl
  · obtain ⟨h,as,rows,wd,rfl,hh,L,hlen,k⟩:=h
    refine ⟨_,pC (pS (i:=2) zDa.nd rfl (Or.inl rfl) (zAd pN))
      (pC (pS (i:=3) zDa.nd rfl (Or.inl rfl) zBD)
      (pC (zBb PassesOwn.never rfl (zAR (pv 1)) (zAn (i:=4) zDa.nd rfl (Or.inl rfl))
        (pC (zAC (PW.pt (zEE (cR zFn (pv 3) zBD (zAe _)) (zED (cR (op_neD hr.units) (pF (pv 3) rfl) (pv 4) (zAe _)))))
          (pC (pS (i:=3) zDa.nd rfl (Or.inl rfl) (zBJ G1 hr (pA zAb (pA (pv 4) pN))))
            (pO (zAA (zCj PySem.F.plainAttrs_list PySem.F.slot_list_append PySem.F.type_list_append zAM (pv 2) (pA (pv 3) pN))))) zAf)
        (pO (zEI (pv 3) zAb zMj))))
      (pO (pR (zBJ G2 hr (pA (pv 0) (pA (pv 2) pN))))))),?_⟩
    refine ⟨Nat.zero_le _,fun q hq=>?_⟩
    have s1:Same H (upd H q (.lst [])):=Same.new (Same.refl H) hq
    refine ⟨_,rfl,h,rfl,⟨_,SqL.of (s1 _ _ hh)⟩,zAI (K:=K) (a:=h) (xs:=as.map V.ref) (fun i σ H'=>∃ (v:V) (u:Option V) (cs:List Addr),σ=[some (vi wd),some (.ref h),some (.ref q),some v,u]/\Same H H'/\zMI CR as H H' q cs ((rows.take i).foldl RC.addRow [])/\v=zLW cs)
      ⟨.non,none,[],rfl,s1,⟨uS,rfl,List.nodup_nil,fun c hc=>by simp at hc,fun i c r h1=>by simp at h1⟩,rfl⟩ ?_ ?_ ?_⟩
    · rintro i σ H' _ ⟨v,u,cs,rfl,s2,_⟩
      exact SqL.of (s2 _ _ hh)
    · rintro i y σ H' hi ⟨v,u,cs,rfl,s2,R,hv⟩
      obtain ⟨a,ha,rfl⟩:=zBk hi
      have hil:=zAk ha
      obtain ⟨ts,hts⟩:∃ ts,rows[i]? = some ts:=⟨_,List.getElem?_eq_getElem (by rw [<- L.len]; exact hil)⟩
      have hHa:=L.at_ i a ts ha hts
      have hfl:((rows.take i).foldl RC.addRow []).length<=i:=by
        have:=zES (rows.take i) []
        rw [List.length_take,List.length_nil] at this
        omega
      have hcl:cs.length<=i:=by rw [R.len]; exact hfl
      have hil2:i<rows.length:=by rw [<- L.len]; exact hil
      rw [zAl hts,List.foldl_append]
      generalize hdone:(rows.take i).foldl RC.addRow []=done at R hfl ⊢
      rw [List.foldl_cons,List.foldl_nil]
      refine ⟨_,rfl,rfl,_,rfl,?_⟩
      refine (fun (new:(done.getLast? = none\/∃ r,done.getLast? = some r/\r.2≠ts)->?N)=>?main) ?np
      case N=>
        exact tSeq (tAsg (zJy CR (spI2 CR "rows" "tracks") [] E0 (zBv (tC (.int 0)) (zBv (tVar 4) tNil))) (zER 3)) (zHI (tBM K "list" zDt (tVar 2) (zBv (tVar 3) tNil)))
          { nx:=zKS K (tVar 3) (tC (.int 1)) rAdd "rows" { nx:=fun σ H''=>∃ (v:V) (u:Option V) (cs:List Addr),σ=[some (vi wd),some (.ref h),some (.ref q),some v,u]/\Same H H''/\zMI CR as H H'' q cs (RC.addRow done ts)/\v=zLW cs,rt:=Q },
            rt:=Q } [some (vi wd),some (.ref h),some (.ref q),some v,some (.ref a)] H'
      case np=>
        intro hlast
        refine ⟨_,rfl,fun x dx hx hdx hne=>⟨x,dx,_,_,rfl,uS,rfl,?_⟩⟩
        have hxq:q≠x:=nN R.lst hx
        have hdq:q≠dx:=nN R.lst hdx
        have hxH:=s2.free hx
        have hdH:=s2.free hdx
        rw [zAx]
        have hql:(upd (upd H' dx (.own x)) x (.ins CR dx (rec2 "rows" "tracks" (.int 0) (.ref a)))) q=some (.lst (cs.map V.ref)):=by
          rw [uN hxq,uN hdq]
          exact R.lst
        refine ⟨_,rfl,.inl ⟨rfl,_,SqL.of hql⟩,_,rfl,q,_,_,rfl,rfl,hql,?_,?_⟩
        · rw [List.length_map]
          exact zAq (by omega)
        · have hxx:(upd (upd (upd H' dx (.own x)) x (.ins CR dx (rec2 "rows" "tracks" (.int 0) (.ref a)))) q (.lst (cs.map V.ref++[.ref x]))) x=some (.ins CR dx (runF 0 a)):=by
            rw [uN hxq.symm,uS]
            rfl
          refine ⟨_,rfl,x,CR,dx,_,_,rfl,hxx,TR.cl,TR.no _ (by simp),zAX 0 a,_,_,rfl,rfl,dx,_,hxx,(by show 2<1000; decide),?_⟩
          have hadd:RC.addRow done ts=done++[(1,ts)]:=by
            unfold RC.addRow
            rcases hlast with e | ⟨r,e,hrt⟩
            · rw [e]
            · rw [e]
              show (if r.2=ts then _ else _)=_
              rw [if_neg hrt]
          have hput:putF "rows" (V.int ((0:Nat)+1)) (runF 0 a)=runF 1 a:=zHa (by decide)
          refine ⟨_,_,cs++[x],rfl,Same.own (Same.own (Same.own (Same.own s2 hdH) hxH) hq) hxH,⟨?_,?_,?_,?_,?_⟩,?_⟩
          · rw [uN hxq,uS,List.map_append]
            rfl
          · rw [hadd,List.length_append,List.length_append,R.len]
            rfl
          · rw [List.nodup_append]
            refine ⟨R.nd,by simp,fun c hc d hd=>?_⟩
            have:d=x:=by simpa using hd
            subst this
            obtain ⟨j,hj⟩:=List.getElem?_of_mem hc
            obtain ⟨r,hrj⟩:∃ r,done[j]? = some r:=⟨_,List.getElem?_eq_getElem (by rw [<- R.len]; exact zAk hj)⟩
            obtain ⟨_,_,e1,_,_⟩:=R.at_ j c r hj hrj
            exact nN e1 hx
          · intro c hc
            rcases List.mem_append.mp hc with hc | hc
            · exact R.fr c hc
            · have:c=x:=by simpa using hc
              rw [this]
              exact hxH
          · intro j c r h1 h2
            rw [hadd] at h2
            rcases zAm h1 with ⟨g1,g2⟩ | ⟨g1,g2⟩
            · rcases zAm h2 with ⟨g3,g4⟩ | ⟨g3,g4⟩
              · obtain ⟨dx',l,e1,e2,e3⟩:=R.at_ j c r g1 g3
                refine ⟨dx',l,?_,e2,e3⟩
                rw [uN (nN e1 hx),uN (zCc e1 R.lst (by intro z; cases z)),uN (nN e1 hx),uN (nN e1 hdx)]
                exact e1
              · have:=R.len
                omega
            · rcases zAm h2 with ⟨g3,g4⟩ | ⟨g3,g4⟩
              · have:=R.len
                omega
              · subst g2
                subst g4
                refine ⟨dx,a,?_,hHa,List.mem_of_getElem? ha⟩
                rw [uS]
                exact congrArg (fun z=>some (HO.ins CR dx z)) hput
          · unfold zLW
            rw [List.getLast?_concat]
      case main=>
        cases hcl2:cs.getLast? with
        | none=>
          have e0:v = .non:=by rw [hv]; unfold zLW; rw [hcl2]
          have ecs:cs=[]:=List.getLast?_eq_none_iff.mp hcl2
          have edone:done=[]:=List.length_eq_zero_iff.mp (by rw [<- R.len,ecs]; rfl)
          rw [decide_eq_true e0]
          exact iteT (iteT (new (.inl (by rw [edone]; rfl))))
        | some c=>
          have e0:v = .ref c:=by rw [hv]; unfold zLW; rw [hcl2]
          rw [decide_eq_false (by rw [e0]; intro z; cases z)]
          refine iteF ?_
          have hci:cs[cs.length-1]? = some c:=by rw [<- List.getLast?_eq_getElem?]; exact hcl2
          have hcpos:0<cs.length:=by have:=zAk hci; omega
          obtain ⟨r,hri⟩:∃ r,done[cs.length-1]? = some r:=⟨_,List.getElem?_eq_getElem (by rw [<- R.len]; omega)⟩
          have hrl:done.getLast? = some r:=by rw [List.getLast?_eq_getElem?,<- R.len]; exact hri
          obtain ⟨dx,l,e1,e2,e3⟩:=R.at_ _ c r hci hri
          have e2':=s2 _ _ e2
          refine ⟨_,rfl,c,CR,dx,_,_,e0,e1,TR.cl,TR.no _ (by simp),zAz _ _,_,rfl,_,_,zGs e2',zGs (s2 _ _ hHa),zBT _,zBT _,_,rfl,?_⟩
          rw [zJm]
          by_cases heq:r.2=ts
          · rw [decide_eq_true heq]
            refine iteF ?_
            refine ⟨_,rfl,c,CR,dx,_,_,e0,e1,TR.cl,TR.no _ (by simp),zAX _ _,_,_,rfl,rfl,dx,_,e1,(by show 2<1000; decide),?_⟩
            have hadd:RC.addRow done ts=done.dropLast++[(r.1+1,ts)]:=by
              unfold RC.addRow
              rw [hrl]
              show (if r.2=ts then _ else _)=_
              rw [if_pos heq]
            have hput:putF "rows" (V.int ((r.1:Int)+1)) (runF r.1 l)=runF (r.1+1) l:=zHa (by decide)
            have hcf:H c=none:=R.fr c (List.mem_of_getElem? hci)
            have ncq:q≠c:=(zCc e1 R.lst (by intro z; cases z)).symm
            have hdl:(done.dropLast++[(r.1+1,ts)]).length=done.length:=by
              rw [List.length_append,List.length_dropLast]
              have:=R.len
              simp
              omega
            refine ⟨_,_,cs,rfl,Same.own s2 hcf,⟨?_,?_,R.nd,R.fr,?_⟩,hv⟩
            · rw [uN ncq]
              exact R.lst
            · rw [hadd,hdl]
              exact R.len
            · intro j d r' h1 h2
              rw [hadd] at h2
              rcases zAm h2 with ⟨g3,g4⟩ | ⟨g3,g4⟩
              · rw [List.length_dropLast] at g4
                rw [List.getElem?_dropLast,if_pos g4] at g3
                obtain ⟨dx',l',e1',e2',e3'⟩:=R.at_ j d r' h1 g3
                have ndc:d≠c:=fun z=>by
                  rw [z] at h1
                  have:=zEM R.nd h1 hci
                  rw [<- R.len] at g4
                  omega
                exact ⟨dx',l',by rw [uN ndc]; exact e1',e2',e3'⟩
              · rw [List.length_dropLast,<- R.len] at g3
                rw [g3,hci] at h1
                cases h1
                subst g4
                exact ⟨dx,l,by rw [uS]; exact congrArg (fun z=>some (HO.ins CR dx z)) hput,by rw [<- heq]; exact e2,e3⟩
          · rw [decide_eq_false heq]
            exact iteT (new (.inr ⟨r,hrl,heq⟩))
    · rintro σ H' ⟨v,u,cs,rfl,s2,R,hv⟩
      rw [List.length_map,L.len,List.take_length] at R
      refine ⟨_,rfl,_,rfl,fun x dx hx hdx hne=>⟨x,dx,_,_,rfl,uS,rfl,?_⟩⟩
      have s3:=Same.own (o:=.ins CS dx (rec2 "width" "runs" (vi wd) (.ref q))) (Same.own (o:=.ins CS dx []) (Same.own (o:=.own x) s2 (s2.free hdx)) (s2.free hx)) (s2.free hx)
      have s4:=Same.own (o:=.ins CS dx (rec2 "width" "runs" (vi wd) (.ref q))) (Same.own (o:=.ins CS dx []) (Same.own (o:=.own x) (Same.refl H') hdx) hx) hx
      refine k x _ s3 (s2.free hx) ⟨dx,q,zBq (.inl (s2.free hx)) (by rw [uS]; rfl),⟨cs,zBq (.inl hq) (s4 _ _ R.lst),R.len,fun i c r h1 h2=>?_⟩⟩
      obtain ⟨dc,l,e1,e2,e3⟩:=R.at_ i c r h1 h2
      exact ⟨dc,l,zBq (.inl (R.fr c (List.mem_of_getElem? h1))) (s4 _ _ e1),zBq (.inr e3) (s3 _ _ e2)⟩
end
end RB
end
section
namespace RB
open PySem PySem.Spec PyProof.Rows L2 RX
theorem zNS {K:PySem.W.Frag} {a:Addr} {xs:List V} {g:TG} {tb:TS} {D:Ends} {σ:L2.St} {H:Hp} (Pv:Nat->L2.St->Hp->Prop) (h0:Pv 0 σ H) (hl:∀ i σ H,Pv i σ H->SqL K H a xs)
  (hs:∀ i x T σ H,xs[i]? = some x->Pv i σ H->H T=none->g (.ref T) σ (upd H T (.tup [.int (i:Nat),x])) fun σ2 H2=>tb { D with nx:=Pv (i+1),ct:=Pv (i+1),bk:=D.nx } σ2 H2) (hd:∀ σ H,Pv xs.length σ H->D.nx σ H):
  ∃ W:Nat->Nat->L2.St->Hp->Prop,(∃ m,W 0 m σ H)/\∀ i m σ H,W i m σ H->
   ((Ite K a).stop i H/\D.nx σ H)\/((Ite K a).go i H/\∃ N:L2.St->Hp->Prop,(∀ σ' H',N σ' H'->∃ m',m'<m/\W (i+1) m' σ' H')/\∀ x H',(Ite K a).yld i H x H'->g x σ H' fun σ2 H2=>tb { D with nx:=N,ct:=N,bk:=D.nx } σ2 H2):=by
 refine ⟨fun i m σ H=>m=xs.length-i/\i<=xs.length/\Pv i σ H,⟨_,rfl,Nat.zero_le _,h0⟩,?_⟩
 rintro i m σ H ⟨rfl,hi,p⟩
 have q:=hl i σ H p
 by_cases hlt:i<xs.length
 ·refine .inr ⟨⟨xs,xs[i],q,by simp [hlt]⟩,Pv (i+1),fun σ' H' p'=>⟨xs.length-(i+1),by omega,rfl,hlt,p'⟩,fun z H' yl=>?_⟩
  obtain ⟨T,x,rfl,hT,rfl,e⟩:=yl
  exact hs i x T σ H (e xs q) p hT
 ·have e:i=xs.length:=by omega
  subst e
  exact .inl ⟨⟨xs,q,Nat.le_refl _⟩,hd σ H p⟩
structure zCp (CT:Addr) (H:Hp) (l:Addr) (xs:List RC.T3):Prop where
 ex:∃ as:List Addr,H l=some (.lst (as.map V.ref))/\as.length=xs.length/\∀ (i:Nat) (a:Addr) (x:RC.T3),as[i]? = some a->xs[i]? = some x->zCI CT H a x
theorem zCp.same {CT:Addr} {H H':Hp} {l:Addr} {xs:List RC.T3} (h:zCp CT H l xs) (s:Same H H'):zCp CT H' l xs:=let ⟨as,a,b,c⟩:=h.ex; ⟨as,s _ _ a,b,fun i x r h1 h2=>(c i x r h1 h2).same s⟩
def BefV (CT:Addr) (H:Hp) (v:V) (o:Option RC.T3):Prop:=match o with
 | none=>v = .non
 | some x=>∃ a,v = .ref a/\zCI CT H a x
theorem BefV.same {CT:Addr} {H H':Hp} {v:V} {o:Option RC.T3} (h:BefV CT H v o) (s:Same H H'):BefV CT H' v o:=by
 cases o with
 | none=>exact h
 | some x=>exact let ⟨a,e,t⟩:=h; ⟨a,e,t.same s⟩
section
variable {P:Program} {w:World} {K:PySem.W.Frag} {mg:Str->Option Value} {base:Heap}
noncomputable def zHM (CT CP:Addr):Sp:=fun vs H Q _=>∃ (l b:Addr) (xs:List RC.T3) (p:Rol.Paper) (wd n:Nat),vs=[vi wd,vi n,.ref l,.ref b]/\zCp CT H l xs/\zFc CP H b p/\RC.PaperOk p/\n<=256/\xs.length<=512/\
 ∀ (H':Hp),Same H H'->Q (optV (RC.faultFrom n wd p 0 none (fun _=>none) xs)) H'
theorem zDs:zAc ["width","rows","tones","paper","before","ends","place","tone"] ["width","rows","tones","paper"] (zAa zKT):=⟨rfl,rfl,rfl,by decide +kernel,rfl,by decide +kernel,by decide +kernel⟩
theorem zNw {f CT CP:Addr} {fd:FuncData} (F:Fun K "first_fault" "first_fault" zKT f fd) (TT:Cl K CT zDG) (TP:Cl K CP zHk) (henum:mg "enumerate" = none)
    (G1:GF P w K mg base CX0 1 "fits" ["tone","width","last_end"] (zKz CT)) (G2:GF P w K mg base CX0 2 "chain_slots" ["sounding","paper"] (zEr CP)) (G3:GF P w K mg base CX0 1 "stands_behind" ["tone","before"] (zFM CT)):
    FnOk P w K mg base CX0 3 f fd ["width","rows","tones","paper"] (zHM CT CP):=by
  refine F.ok zDs (fun vs H Q E h=>?_) (fun cdv A outer s H vs Q E hr h=>?_)
  · obtain ⟨l,b,xs,p,wd,n,rfl,_⟩:=h
    rfl
  · obtain ⟨l,b,xs,p,wd,n,rfl,hT,⟨dp,hP⟩,hp,hn,hlen,k⟩:=h
    have hu:=zIr hr
    have hr1:=hr.mono (show 1<=2 by decide)
    refine ⟨_,pC (pS (i:=4) zDs.nd rfl (Or.inl rfl) zBD)
      (pC (pS (i:=5) zDs.nd rfl (Or.inl rfl) zEg)
      (pC (zBb PassesOwn.never rfl (pi_enum rfl henum (pA (pv 2) pN)) (zLo rfl (zCw (zAn (i:=6) zDs.nd rfl (Or.inl rfl)) (zCw (zAn (i:=7) zDs.nd rfl (Or.inl rfl)) zIh)))
        (pC (zAC (PW.pt (zEE (zDI (zEG (cG G1 hr1 zAh (pA (pv 7) (pA (pv 0) (pA (zAs zBc (pv 1) (pF (pv 3) rfl)) pN))))))
            (zED (zDI (zCv (cG G2 hr zAh (pA (zAs zBx (pF (pv 7) rfl) (pF (pv 7) rfl)) (pA (pv 3) pN))) (fun _=>rfl)))))) (pO (pR (pv 6))) zAf)
        (pC (zAC (PW.pt (zEF (cR zIj (pv 4) zBD (zAe _)) (zCN (zDI (zEG (cG G3 hr1 zAh (pA (pv 7) (pA (pv 4) pN)))))))) (pO (pR (pv 6))) zAf)
        (pC (zAC (PW.pt (zEF (pt_cmp (pc_din hu (pF (pv 7) rfl) (pv 5))) (zCN (cR op_ge (zIi hu (pv 5) (pF (pv 7) rfl) (fun _ _=>rfl)) (pF (pv 7) rfl) (zAe _))))) (pO (pR (pv 6))) zAf)
        (pC (zGg hu (pv 5) (pF (pv 7) rfl) (pF (pv 7) rfl) rfl)
        (pO (pS (i:=4) zDs.nd rfl (Or.inl rfl) (pv 7))))))))
      (pO (pR zBD)))),?_⟩
    obtain ⟨as,hl,hal,hts⟩:=hT.ex
    intro d hd
    have s1:Same H (upd H d (.dK [])):=Same.new (Same.refl H) hd
    refine ⟨_,rfl,l,_,rfl,SqL.of (s1 _ _ hl),zNS (K:=K) (a:=l) (xs:=as.map V.ref) (fun i σ H'=>∃ (v:V) (u t:Option V) (bf:Option RC.T3) (ends:RC.D),σ=[some (vi wd),some (vi n),some (.ref l),some (.ref b),some v,some (.ref d),u,t]/\Same H H'/\
        zAr H' d (mD ends) i/\BefV CT H' v bf/\RC.faultFrom n wd p 0 none (fun _=>none) xs=RC.faultFrom n wd p i bf ends (xs.drop i))
      ⟨.non,none,none,none,fun _=>none,rfl,s1,⟨[],uS,fun t=>rfl,Nat.le_refl _⟩,rfl,rfl⟩ ?_ ?_ ?_⟩
    · rintro i σ H' ⟨v,u,t,bf,ends,rfl,s2,_⟩
      exact SqL.of (s2 _ _ hl)
    · rintro i y T σ H' hi ⟨v,u,t,bf,ends,rfl,s2,D,hbf,hF⟩ hT
      obtain ⟨a,ha,rfl⟩:=zBk hi
      have hil:=zAk ha
      obtain ⟨x,hx⟩:∃ x,xs[i]? = some x:=⟨_,List.getElem?_eq_getElem (by rw [<- hal]; exact hil)⟩
      have hTa:=hts i a x ha hx
      have s3:=Same.new (o:=.tup [.int (i:Nat),.ref a]) s2 hT
      have s23:=Same.new (o:=.tup [.int (i:Nat),.ref a]) (Same.refl H') hT
      obtain ⟨dx,hax⟩:=(hTa.same s3).ex
      rw [zAT hx,RC.faultFrom] at hF
      refine ⟨T,_,rfl,SqT.of uS,rfl,_,_,rfl,_,_,rfl,rfl,?_⟩
      refine ⟨_,rfl,_,rfl,_,rfl,_,rfl,b,CP,dp,_,_,rfl,s3 _ _ hP,TP.cl,TP.no _ (by simp),zBQ p,_,_,rfl,rfl,a,x,wd,n+p.tail,rfl,hTa.same s3,_,rfl,?_⟩
      have bad:RC.toneBad n wd p bf ends x=true->∀ H'',Same H H''->Q (vi i) H'':=fun hb H'' sq=>by
        rw [if_pos hb] at hF
        have:=k H'' sq
        rw [hF] at this
        exact this
      have hfit:RC.fitsIn n wd p x=(decide (x.1<wd)&&(decide (x.2.1<x.2.2)&&decide (x.2.2<=n+p.tail))):=rfl
      rw [<- hfit]
      unfold RC.toneBad at bad hF
      cases hfc:RC.fitsIn n wd p x with
      | false=>
        refine iteT (iteT ⟨_,rfl,bad (by rw [hfc]; rfl) _ s3⟩)
      | true=>
        rw [hfc,Bool.true_and] at bad hF
        refine iteF ?_
        have hfs:x.1<wd/\x.2.1<x.2.2/\x.2.2<=n+p.tail:=by
          rw [hfit,Bool.and_eq_true,Bool.and_eq_true,decide_eq_true_eq,decide_eq_true_eq,decide_eq_true_eq] at hfc
          exact hfc
        have ht:=hp.t
        refine ⟨_,rfl,a,CT,dx,_,_,rfl,hax,TT.cl,TT.no _ (by simp),zBO x,_,rfl,a,CT,dx,_,_,rfl,hax,TT.cl,TT.no _ (by simp),zAP x,_,_,rfl,rfl,_,rfl,x.2.2-x.2.1,b,p,?_,⟨dp,s3 _ _ hP⟩,hp,by omega,fun q H4 s4 hq S4=>?_⟩
        · have ee:V.int ((x.2.2:Int)-(x.2.1:Int))=vi (x.2.2-x.2.1):=by
            unfold vi
            congr 1
            omega
          show [V.int ((x.2.2:Int)-(x.2.1:Int)),V.ref b]=_
          rw [ee]
        · obtain ⟨ts,q1,q2,q3⟩:=S4.ex
          have s34:=s3.trans s4
          refine ⟨!ts.isEmpty,.inl ⟨_,SqL.of q1,by rw [zBE]⟩,?_⟩
          have hem:ts.isEmpty=(RC.slotsOf p (x.2.2-x.2.1)).isEmpty:=by
            cases ts <;> cases hq2:RC.slotsOf p (x.2.2-x.2.1) <;> simp [hq2] at q2 ⊢
          rw [hem]
          cases hse:(RC.slotsOf p (x.2.2-x.2.1)).isEmpty with
          | true=>
            refine iteT ⟨_,rfl,bad (by rw [hse]; rfl) _ s34⟩
          | false=>
            rw [hse] at bad hF
            refine iteF ?_
            have hax4:=s4 _ _ hax
            have rest:∀ H5,Same H4 H5->(RC.endsLate ends x=true->∀ H'',Same H H''->Q (vi i) H'')->(RC.endsLate ends x=false->RC.faultFrom n wd p 0 none (fun _=>none) xs=RC.faultFrom n wd p (i+1) (some x) (fun t=>if t=x.1 then some x.2.2 else ends t) (xs.drop (i+1)))->
                tSeq (tIfS (tAnd (tB (tDIn (tFld K (tVar 7) "track") (tVar 5))) (zHH (tOp (rI0 fun i j=>.bl (decide (j<=i))) (tDGet (tVar 5) (tFld K (tVar 7) "track")) (tFld K (tVar 7) "first")))) (tRet (tVar 6)) zMQ)
                  (tSeq (zNa (tVar 5) (tFld K (tVar 7) "track") (tFld K (tVar 7) "end")) (tAsg (tVar 7) (zER 4)))
                  { nx:=fun σ H'=>∃ (v:V) (u t:Option V) (bf:Option RC.T3) (ends:RC.D),σ=[some (vi wd),some (vi n),some (.ref l),some (.ref b),some v,some (.ref d),u,t]/\Same H H'/\
                    zAr H' d (mD ends) (i+1)/\BefV CT H' v bf/\RC.faultFrom n wd p 0 none (fun _=>none) xs=RC.faultFrom n wd p (i+1) bf ends (xs.drop (i+1)),rt:=Q }
                  [some (vi wd),some (vi n),some (.ref l),some (.ref b),some v,some (.ref d),some (vi i),some (.ref a)] H5:=by
              intro H5 s5 kb kg
              have s35:=s34.trans s5
              have hax5:=s5 _ _ hax4
              have D5:=((D.same s23).same s4).same s5
              refine ⟨_,rfl,a,CT,dx,_,_,rfl,hax5,TT.cl,TT.no _ (by simp),zAO x,_,rfl,d,_,rfl,D5.get x.1,_,rfl,?_⟩
              have step:RC.endsLate ends x=false->(tSeq (zNa (tVar 5) (tFld K (tVar 7) "track") (tFld K (tVar 7) "end")) (tAsg (tVar 7) (zER 4)))
                  { nx:=fun σ H'=>∃ (v:V) (u t:Option V) (bf:Option RC.T3) (ends:RC.D),σ=[some (vi wd),some (vi n),some (.ref l),some (.ref b),some v,some (.ref d),u,t]/\Same H H'/\
                    zAr H' d (mD ends) (i+1)/\BefV CT H' v bf/\RC.faultFrom n wd p 0 none (fun _=>none) xs=RC.faultFrom n wd p (i+1) bf ends (xs.drop (i+1)),rt:=Q }
                  [some (vi wd),some (vi n),some (.ref l),some (.ref b),some v,some (.ref d),some (vi i),some (.ref a)] H5:=by
                intro hel
                obtain ⟨kvs,p1,p2⟩:=D5.put (by rw [sizeLine_eq]; omega) x.1 (vi x.2.2)
                refine ⟨_,rfl,a,CT,dx,_,_,rfl,hax5,TT.cl,TT.no _ (by simp),zBO x,_,rfl,_,rfl,a,CT,dx,_,_,rfl,hax5,TT.cl,TT.no _ (by simp),zAO x,d,_,rfl,p1,_,rfl,_,_,_,some x,_,rfl,Same.own s35 hd,?_,⟨a,rfl,dx,?_⟩,kg hel⟩
                · obtain ⟨kk,c1,c2,c3⟩:=p2.ex
                  refine ⟨kk,c1,fun u=>?_,c3⟩
                  rw [c2 u]
                  show _=Option.map vi (if u=x.1 then some x.2.2 else ends u)
                  by_cases z:u=x.1
                  · rw [if_pos z,if_pos z]
                    rfl
                  · rw [if_neg z,if_neg z]
                    rfl
                · obtain ⟨kd,hkd⟩:=D5.there
                  rw [uN (zCc hax5 hkd (by intro z; cases z))]
                  exact hax5
              unfold RC.endsLate at kb step
              cases he:ends x.1 with
              | none=>
                rw [he] at step
                have e1:(mD ends x.1).isSome=false:=by unfold mD; rw [he]; rfl
                rw [e1]
                exact iteF (iteF (step rfl))
              | some e=>
                rw [he] at step kb
                have e0:mD ends x.1=some (vi e):=by unfold mD; rw [he]; rfl
                rw [e0]
                refine iteT ⟨_,rfl,_,rfl,a,CT,dx,_,_,rfl,hax5,TT.cl,TT.no _ (by simp),zAO x,d,vi e,rfl,e0 ▸ D5.get x.1,_,rfl,a,CT,dx,_,_,rfl,hax5,TT.cl,TT.no _ (by simp),zAP x,_,_,rfl,rfl,_,rfl,?_⟩
                rw [zCA]
                cases hd2:decide (x.2.1<=e) with
                | true=>exact iteT ⟨_,rfl,kb hd2 _ s35⟩
                | false=>exact iteF (step hd2)
            refine ⟨_,rfl,rfl,_,rfl,?_⟩
            have hbf4:=(hbf.same s23).same s4
            cases bf with
            | none=>
              have e0:v = .non:=hbf
              rw [decide_eq_true e0]
              refine iteF (iteF ?_)
              refine rest H4 (Same.refl _) (fun z=>bad (by rw [z]; rfl)) (fun z=>?_)
              rw [z] at hF
              exact hF
            | some y=>
              obtain ⟨c,e0,hc⟩:=hbf4
              rw [decide_eq_false (by rw [e0]; intro z; cases z)]
              refine iteT ⟨_,rfl,_,rfl,a,c,x,y,by rw [e0]; rfl,⟨dx,hax4⟩,hc,fun H5 s5=>⟨_,rfl,?_⟩⟩
              cases hbh:RC.behind (some y) x with
              | false=>exact iteT ⟨_,rfl,bad (by rw [hbh]; rfl) _ (s34.trans s5)⟩
              | true=>
                rw [hbh] at hF bad
                refine iteF (rest H5 s5 (fun z=>bad (by rw [z]; rfl)) (fun z=>?_))
                rw [z] at hF
                exact hF
    · rintro σ H' ⟨v,u,t,bf,ends,rfl,s2,_,_,hF⟩
      have:=k H' s2
      rw [hF,List.length_map,hal,List.drop_length] at this
      exact this
end
end RB
end
section
namespace RB
open PySem PySem.Spec PyProof.Rows L2 RX
noncomputable def zCa (l:List RC.T3) (n:Nat):List (List Nat):=(List.range n).map (RC.holesAt l)
theorem zBz (l:List RC.T3) (n:Nat):(zCa l n).length=n:=by unfold zCa; rw [List.length_map,List.length_range]
theorem zCu {l:List RC.T3} {n i:Nat} (h:i<n):(zCa l n)[i]? = some (RC.holesAt l i):=by
 unfold zCa
 rw [List.getElem?_map,List.getElem?_range h]
 rfl
theorem zHr (l:List RC.T3) (a:RC.T3) (i:Nat):RC.holesAt (l++[a]) i=if a.2.1<=i/\i<a.2.1+a.2.2 then RC.holesAt l i++[a.1] else RC.holesAt l i:=by
 unfold RC.holesAt
 rw [List.filter_append,List.map_append]
 by_cases h:a.2.1<=i/\i<a.2.1+a.2.2
 ·have:RC.covers i a=true:=by unfold RC.covers; rw [decide_eq_true h.1,decide_eq_true h.2]; rfl
  rw [if_pos h,List.filter_cons_of_pos this]
  rfl
 ·have:¬ RC.covers i a=true:=by
   unfold RC.covers
   rw [Bool.and_eq_true,decide_eq_true_eq,decide_eq_true_eq]
   exact h
  rw [if_neg h,List.filter_cons_of_neg this]
  exact List.append_nil _
theorem zKb (l:List RC.T3) (a:RC.T3) (n:Nat):zHD a.1 a.2.1 a.2.2 (zCa l n)=zCa (l++[a]) n:=by
 apply List.ext_getElem?
 intro i
 rw [zCo]
 by_cases h:i<n
 ·rw [zCu h,zCu h,zHr]
  rfl
 ·rw [List.getElem?_eq_none (by rw [zBz]; omega),List.getElem?_eq_none (by rw [zBz]; omega)]
  rfl
theorem zIs (l:List RC.T3) (i:Nat):(RC.holesAt l i).length<=l.length:=by
 unfold RC.holesAt
 rw [List.length_map]
 exact List.length_filter_le _ _
theorem zGW {l:List RC.T3} {n:Nat} {r:List Nat} (h:r∈zCa l n):r.length<=l.length:=by
 unfold zCa at h
 obtain ⟨i,_,rfl⟩:=List.mem_map.mp h
 exact zIs l i
theorem zCK {p:Rol.Paper} (hl:1<=p.longest):∀ {l:List RC.T3},(∀ x∈l,x.2.2-x.2.1<=271)->(l.flatMap (RC.toneSlots p)).length<=271*l.length
 | [],_=>by simp
 | x::l,h=>by
  have ih:=zCK hl (l:=l) fun y hy=>h y (List.mem_cons_of_mem _ hy)
  have h1:=h x List.mem_cons_self
  have h2:=RC.slots_length hl (x.2.2-x.2.1)
  rw [List.flatMap_cons,List.length_append,List.length_cons]
  unfold RC.toneSlots at ih ⊢
  rw [List.length_map]
  omega
theorem int_pair {ns:List Int} (hnd:ns.Nodup) (hs:ns.Pairwise (·<=·)):ns.Pairwise (· < ·):=by
 have:=List.Pairwise.and hs hnd
 exact this.imp fun {a b} h=>by have:=h.1; have:=h.2; omega
theorem zKD {l:List Nat} {w:Nat} (nd:l.Nodup) (low:∀ t∈l,t<w) {ns:List Int} (hp:ns.Perm (l.map fun (n:Nat)=>(n:Int))) (hs:ns.Pairwise (·<=·)):ns.map V.int=vis (RC.upOf w l):=by
 have hnd:ns.Nodup:=hp.nodup_iff.mpr (List.Pairwise.map _ (fun a b (h:a≠b)=>by omega) nd)
 have hlt:=int_pair hnd hs
 have hpos:∀ z∈ns,0<=z:=fun z hz=>by
  obtain ⟨n,_,rfl⟩:=List.mem_map.mp (hp.mem_iff.mp hz)
  omega
 have hm:ns=RC.inz (ns.map Int.toNat):=(RC.ints_of hpos).symm
 have hup:RC.Up (ns.map Int.toNat):=by
  rw [RC.Up,List.pairwise_map]
  exact List.Pairwise.imp_of_mem (fun {a b} ha hb h=>by have:=hpos a ha; have:=hpos b hb; omega) hlt
 have he:ns.map Int.toNat=RC.upOf w l:=RC.Up.ext hup (RC.upOf_up w l) fun t=>by
  rw [RC.mem_upOf low,List.mem_map]
  constructor
  ·rintro ⟨z,hz,rfl⟩
   obtain ⟨n,hn,rfl⟩:=List.mem_map.mp (hp.mem_iff.mp hz)
   exact hn
  ·intro ht
   exact ⟨(t:Int),hp.mem_iff.mpr (List.mem_map.mpr ⟨t,ht,rfl⟩),by omega⟩
 rw [hm,he]
 unfold RC.inz vis
 rw [List.map_map]
 rfl
structure zDF (H0 H:Hp) (D:Addr) (as:List Addr) (hs:List (List Nat)):Prop where
 lst:H D=some (.lst (as.map V.ref))
 nd:as.Nodup
 out:D∉as
 fr:∀ a∈as,H0 a=none
 ls:zBN H as hs
theorem zDF.same {H0 H H':Hp} {D:Addr} {as:List Addr} {hs:List (List Nat)} (h:zDF H0 H D as hs) (s:Same H H'):zDF H0 H' D as hs:=⟨s _ _ h.lst,h.nd,h.out,h.fr,h.ls.same s⟩
section
variable {P:Program} {w:World} {K:PySem.W.Frag} {mg:Str->Option Value} {base:Heap}
noncomputable def spCut (CS CR CT CP:Addr):Sp:=fun vs H Q _=>∃ (l b:Addr) (xs:List RC.T3) (p:Rol.Paper) (wd n:Nat),vs=[vi wd,vi n,.ref l,.ref b]/\zCp CT H l xs/\zFc CP H b p/\RC.PaperOk p/\n<=256/\xs.length<=512/\
 RC.faultFrom n wd p 0 none (fun _=>none) xs=none/\∀ (a:Addr) (H':Hp),Same H H'->H a=none->zBo CS CR (newH H H') a (RC.cutStrip n wd p xs)->Q (.ref a) H'
theorem zHR:zAc ["width","rows","tones","paper","holes","tone","slot","row","tracks"] ["width","rows","tones","paper"] (zAa zCh):=⟨rfl,rfl,rfl,by decide +kernel,rfl,by decide +kernel,by decide +kernel⟩
theorem ok_cut {f CS CR CT CP:Addr} {fd:FuncData} (F:Fun K "cut_strip" "cut_strip" zCh f fd) (TT:Cl K CT zDG) (hrange:mg "range" = none) (hsort:mg "sorted" = none)
  (G1:GF P w K mg base CX0 1 "cut_slot" ["holes","track","first","length"] zEq) (G2:GF P w K mg base CX0 2 "chain_slots" ["sounding","paper"] (zEr CP)) (G3:GF P w K mg base CX0 3 "strip_of_rows" ["width","rows"] (zFK CS CR)):
  FnOk P w K mg base CX0 4 f fd ["width","rows","tones","paper"] (spCut CS CR CT CP):=by
 refine F.ok zHR (fun vs H Q E h=>?_) (fun cdv A outer s H vs Q E hr h=>?_)
 ·obtain ⟨l,b,xs,p,wd,n,rfl,_⟩:=h
  rfl
 ·obtain ⟨l,b,xs,p,wd,n,rfl,hT,⟨dp,hP⟩,hp,hn,hlen,hfault,k⟩:=h
  have hr1:=hr.mono (show 1<=3 by decide)
  have hr2:=hr.mono (show 2<=3 by decide)
  refine ⟨_,pC (zNj (i:=4) (own:=[("row",7)]) rfl zHR.nd rfl rfl rfl (zHh rfl hrange (pA (pv 1) pN)) (zCB (by show blkC ["width","rows","tones","paper","holes","tone","slot","row","tracks"] (zAa zCh) _ _=true; decide +kernel)) (fun _ _ _ _ _=>zAn (i:=7) zHR.nd rfl (Or.inl rfl)) (fun _ _ _ _ _=>zDu) (fun _ _ _ _ _=>zAd pN))
   (pC (zBb PassesOwn.never rfl (zAR (pv 2)) (zAn (i:=5) zHR.nd rfl (Or.inl rfl))
    (pO (zBb PassesOwn.never rfl (zAR (cG G2 hr2 zAh (pA (zAs zBx (pF (pv 5) rfl) (pF (pv 5) rfl)) (pA (pv 3) pN)))) (zAn (i:=6) zHR.nd rfl (Or.inl rfl))
     (pO (zAA (cG G1 hr1 zAh (pA (pv 4) (pA (pF (pv 5) rfl) (pA (zAs zBc (pF (pv 5) rfl) (zAF zEQ (pv 6) zAb (fun _ _=>rfl))) (pA (zAF zEQ (pv 6) zAb (fun _ _=>rfl)) pN))))))))))
   (pO (pR (cG G3 hr zAh (pA (pv 0) (pA (zLq (own:=[("tracks",8)]) rfl zHR.nd (zAR (pv 4)) (zCB (by show blkC ["width","rows","tones","paper","holes","tone","slot","row","tracks"] (zAa zCh) _ _=true; decide +kernel)) (fun _ _ _ _ _=>zAn (i:=8) zHR.nd rfl (Or.inl rfl)) (fun _ _ _ _ _=>zDu) (fun _ _ _ _ _=>zAt (id:= "sorted") (r:=zIP K) zJS rfl hsort (by decide +kernel) (pA (pv 8) pN))) pN)))))),?_⟩
  obtain ⟨ta,hl,hal,hts⟩:=hT.ex
  obtain ⟨f1,f2,_⟩:=RC.fault_none xs _ _ _ hfault
  obtain ⟨d1,d2⟩:=RC.slots_disjoint hp.l1 (fun x hx=>(f1 x hx).1) f2
  have ht:=hp.t
  have hsz:∀ x∈xs,x.2.1<x.2.2/\x.2.2<=n+p.tail:=fun x hx=>by
   have:=(f1 x hx).1
   unfold RC.fitsIn at this
   rw [Bool.and_eq_true,Bool.and_eq_true,decide_eq_true_eq,decide_eq_true_eq,decide_eq_true_eq] at this
   exact this.2
  have hcount:=zCK hp.l1 (l:=xs) fun x hx=>by have:=hsz x hx; omega
  refine ⟨_,rfl,(n:Int),rfl,by omega,by omega,fun D hD=>?_⟩
  rw [Int.toNat_natCast]
  refine zJg (fun i H'=>Same H H'/\∃ as:List Addr,zDF H H' D as (List.replicate i [])) ⟨Same.new (Same.refl H) hD,[],uS,List.nodup_nil,by simp,by simp,rfl,fun i a l h1=>by simp at h1⟩ ?_ ?_
  ·rintro i H1 hi ⟨s1,as,A1⟩
   refine ⟨rfl,Nat.zero_le _,fun q hq=>?_⟩
   have nDq:D≠q:=nN A1.lst hq
   have hai:as.length=i:=by rw [A1.ls.len,List.length_replicate]
   have qas:q∉as:=fun z=>by
    obtain ⟨j,hj⟩:=List.getElem?_of_mem z
    have:=zAk hj
    have e:=A1.ls.at_ j q [] hj (by rw [List.getElem?_replicate,if_pos (by omega)])
    rw [hq] at e
    cases e
   refine ⟨as.map V.ref,by rw [uN nDq]; exact A1.lst,by rw [List.length_map]; exact zAq (by omega),Same.own (Same.new s1 hq) hD,as++[q],?_,?_,?_,?_,?_,?_⟩
   ·rw [uS,List.map_append]
    rfl
   ·rw [List.nodup_append]
    refine ⟨A1.nd,by simp,fun c hc d hd=>?_⟩
    have:d=q:=by simpa using hd
    subst this
    exact fun z=>qas (z ▸ hc)
   ·intro z
    rcases List.mem_append.mp z with z | z
    ·exact A1.out z
    ·exact nDq (by simpa using z)
   ·intro a ha
    rcases List.mem_append.mp ha with z | z
    ·exact A1.fr a z
    ·have:a=q:=by simpa using z
     rw [this]
     exact s1.free hq
   ·rw [List.length_append,hai,List.length_replicate]
    rfl
   ·intro j a m h1 h2
    rw [List.getElem?_replicate] at h2
    split at h2
    ·cases h2
     rcases zAm h1 with ⟨g1,g2⟩ | ⟨g1,g2⟩
     ·have e:=A1.ls.at_ j a [] g1 (by rw [List.getElem?_replicate,if_pos (by omega)])
      have naD:a≠D:=fun z=>A1.out (by rw [<- z]; exact List.mem_of_getElem? g1)
      rw [uN naD,uN (nN e hq)]
      exact e
     ·subst g2
      rw [uN nDq.symm,uS]
      rfl
    ·cases h2
  ·rintro H1 ⟨s1,as,A1⟩
   have e0:List.replicate n []=zCa [] n:=by
    apply List.ext_getElem?
    intro i
    by_cases h:i<n
    ·rw [zCu h,List.getElem?_replicate,if_pos h]
     rfl
    ·rw [List.getElem?_eq_none (by simp; omega),List.getElem?_eq_none (by rw [zBz]; omega)]
   rw [e0] at A1
   refine ⟨_,rfl,l,rfl,⟨_,SqL.of (s1 _ _ hl)⟩,zAI (K:=K) (a:=l) (xs:=ta.map V.ref) (fun i σ H'=>∃ (u v:Option V),σ=[some (vi wd),some (vi n),some (.ref l),some (.ref b),some (.ref D),u,v,none,none]/\Same H H'/\zDF H H' D as (zCa ((xs.take i).flatMap (RC.toneSlots p)) n))
    ⟨none,none,rfl,s1,A1⟩ ?_ ?_ ?_⟩
   ·rintro i σ H' _ ⟨u,v,rfl,s2,_⟩
    exact SqL.of (s2 _ _ hl)
   ·rintro i y σ H' hi ⟨u,v,rfl,s2,A2⟩
    obtain ⟨a,ha,rfl⟩:=zBk hi
    have hil:=zAk ha
    obtain ⟨x,hx⟩:∃ x,xs[i]? = some x:=⟨_,List.getElem?_eq_getElem (by rw [<- hal]; exact hil)⟩
    have hxm:=List.mem_of_getElem? hx
    have hTa:=hts i a x ha hx
    obtain ⟨dx,hax⟩:=hTa.ex
    have hxs:=hsz x hxm
    refine ⟨_,rfl,a,CT,dx,_,_,rfl,s2 _ _ hax,TT.cl,TT.no _ (by simp),zBO x,_,rfl,a,CT,dx,_,_,rfl,s2 _ _ hax,TT.cl,TT.no _ (by simp),zAP x,_,_,rfl,rfl,_,rfl,x.2.2-x.2.1,b,p,?_,⟨dp,s2 _ _ hP⟩,hp,by omega,fun q H4 s4 hq S4=>?_⟩
    ·have ee:V.int ((x.2.2:Int)-(x.2.1:Int))=vi (x.2.2-x.2.1):=by
      unfold vi
      congr 1
      omega
     show [V.int ((x.2.2:Int)-(x.2.1:Int)),V.ref b]=_
     rw [ee]
    ·obtain ⟨ts,q1,q2,q3⟩:=S4.ex
     have hqas:q∉as:=fun z=>by
      obtain ⟨j,hj⟩:=List.getElem?_of_mem z
      obtain ⟨r,hrj⟩:∃ r,(zCa ((xs.take i).flatMap (RC.toneSlots p)) n)[j]? = some r:=⟨_,List.getElem?_eq_getElem (by rw [<- A2.ls.len]; exact zAk hj)⟩
      have e:=A2.ls.at_ j q r hj hrj
      rw [hq] at e
      cases e
     have htas:∀ t (y:List V) (H6:Hp) (hs:List (List Nat)),zBN H6 as hs->H6 t=some (.tup y)->t∉as:=fun t y H6 hs LL e z=>by
      obtain ⟨j,hj⟩:=List.getElem?_of_mem z
      obtain ⟨r,hrj⟩:∃ r,hs[j]? = some r:=⟨_,List.getElem?_eq_getElem (by rw [<- LL.len]; exact zAk hj)⟩
      have e2:=LL.at_ j t r hj hrj
      rw [e] at e2
      cases e2
     have hsl:(RC.toneSlots p x).length=ts.length:=by unfold RC.toneSlots; rw [List.length_map,q2]
     refine ⟨q,rfl,⟨_,SqL.of q1⟩,zAI (K:=K) (a:=q) (xs:=ts.map V.ref) (fun j σ H''=>∃ (v:Option V),σ=[some (vi wd),some (vi n),some (.ref l),some (.ref b),some (.ref D),some (.ref a),v,none,none]/\Same H H''/\zGA H'' q (RC.slotsOf p (x.2.2-x.2.1))/\H'' q=some (.lst (ts.map V.ref))/\
       zDF H H'' D as (zCa ((xs.take i).flatMap (RC.toneSlots p)++(RC.toneSlots p x).take j) n)) ⟨_,rfl,s2.trans s4,S4,q1,?_⟩ ?_ ?_ ?_⟩
     ·rw [List.take_zero,List.append_nil]
      exact A2.same s4
     ·rintro j σ H'' _ ⟨v,rfl,_,_,h5,_⟩
      exact SqL.of h5
     ·rintro j y σ H'' hj ⟨v,rfl,s5,S5,h5,A5⟩
      obtain ⟨t,ht',rfl⟩:=zBk hj
      have hjl:=zAk ht'
      obtain ⟨sl,hsj⟩:∃ sl,(RC.slotsOf p (x.2.2-x.2.1))[j]? = some sl:=⟨_,List.getElem?_eq_getElem (by rw [<- q2]; exact hjl)⟩
      have hTup:H'' t=some (.tup [vi sl.1,vi sl.2]):=by
       obtain ⟨ts',r1,r2,r3⟩:=S5.ex
       rw [h5] at r1
       injection r1 with r1
       injection r1 with r1
       have:(ts'.map V.ref)[j]? = some (.ref t):=by rw [<- r1]; exact hj
       obtain ⟨t2,e1,e2⟩:=zBk this
       cases e2
       exact r3 j t sl e1 hsj
      have htn:(RC.toneSlots p x)[j]? = some (x.1,x.2.1+sl.1,sl.2):=by
       unfold RC.toneSlots
       rw [List.getElem?_map,hsj]
       rfl
      have hin:x.2.1+sl.1+sl.2<=n:=by
       have:=(d2 (x.1,x.2.1+sl.1,sl.2) (List.mem_flatMap.mpr ⟨x,hxm,List.mem_of_getElem? htn⟩)).2
       exact this
      have hax5:=s5 _ _ hax
      refine ⟨_,rfl,_,rfl,a,CT,dx,_,_,rfl,hax5,TT.cl,TT.no _ (by simp),zAO x,_,rfl,a,CT,dx,_,_,rfl,hax5,TT.cl,TT.no _ (by simp),zAP x,_,rfl,t,_,_,vi sl.1,rfl,rfl,SqT.of hTup,rfl,_,_,rfl,rfl,_,rfl,t,_,_,vi sl.2,rfl,rfl,SqT.of hTup,rfl,D,as,_,x.1,x.2.1+sl.1,sl.2,rfl,A5.lst,A5.nd,A5.out,A5.ls,by rw [zBz]; exact hin,by rw [zBz]; omega,fun r hr=>?_,fun H6 hk L6=>?_⟩
      ·have h1:=zGW hr
       have h2:(((xs.take i).flatMap (RC.toneSlots p)++(RC.toneSlots p x).take j)).length<=271*513:=by
        have h3:=zCK hp.l1 (l:=xs.take i) fun x hx=>by have:=hsz x (List.mem_of_mem_take hx); omega
        have h4:=RC.slots_length hp.l1 (x.2.2-x.2.1)
        have h5:((RC.toneSlots p x).take j).length<=(RC.slotsOf p (x.2.2-x.2.1)).length:=by
         unfold RC.toneSlots
         rw [List.length_take,List.length_map]
         omega
        rw [List.length_append]
        rw [List.length_take] at h3
        omega
       rw [sizeLine_eq]
       omega
      ·have s6:Same H H6:=fun c o e=>by
        rw [hk c (fun z=>by rw [A5.fr c z] at e; cases e)]
        exact s5 _ _ e
       have hq6:H6 q=some (.lst (ts.map V.ref)):=by rw [hk q hqas]; exact h5
       refine ⟨_,rfl,s6,?_,hq6,⟨by rw [hk D A5.out]; exact A5.lst,A5.nd,A5.out,A5.fr,?_⟩⟩
       ·obtain ⟨ts',r1,r2,r3⟩:=S5.ex
        refine ⟨ts',by rw [hk q hqas]; exact r1,r2,fun i2 t2 x2 e1 e2=>?_⟩
        have e3:=r3 i2 t2 x2 e1 e2
        rw [hk t2 (htas t2 _ _ _ A5.ls e3)]
        exact e3
       ·rw [zAl htn,<- List.append_assoc,<- zKb]
        exact L6
     ·rintro σ H'' ⟨v,rfl,s5,S5,h5,A5⟩
      refine ⟨_,_,rfl,s5,?_⟩
      rw [List.length_map,<- hsl,List.take_length] at A5
      rw [zAl hx,List.flatMap_append,List.flatMap_singleton]
      exact A5
   ·rintro σ H' ⟨u,v,rfl,s2,A2⟩
    rw [List.length_map,hal,List.take_length] at A2
    have hrl:(RC.cutRows n wd p xs).length=n:=by unfold RC.cutRows; rw [List.length_map,List.length_range]
    have hal2:as.length=n:=by rw [A2.ls.len,zBz]
    refine ⟨_,rfl,_,rfl,D,rfl,⟨_,SqL.of A2.lst⟩,fun D2 hD2=>?_⟩
    refine zLU (K:=K) (a:=D) (xs:=as.map V.ref) (fun i H''=>Same H' H''/\∃ bs:List Addr,H'' D2=some (.lst (bs.map V.ref))/\zBN H'' bs ((RC.cutRows n wd p xs).take i)/\D2∉bs/\∀ c∈bs,H c=none) ⟨Same.new (Same.refl H') hD2,[],uS,⟨rfl,fun i a l h1=>by simp at h1⟩,by simp,by simp⟩ ?_ ?_ ?_
    ·rintro i H'' _ ⟨s3,_⟩
     exact SqL.of (s3 _ _ A2.lst)
    ·rintro i y H'' hi ⟨s3,bs,hb1,hb2,hb3,hb4⟩
     obtain ⟨a,ha,rfl⟩:=zBk hi
     have hil:=zAk ha
     have hin:i<n:=by omega
     have hra:=s3 _ _ (A2.ls.at_ i a _ ha (zCu hin))
     refine ⟨rfl,_,rfl,a,(RC.holesAt (xs.flatMap (RC.toneSlots p)) i).map fun (n:Nat)=>(n:Int),rfl,SqL.of (by rw [hra]; unfold vis; rw [List.map_map]; rfl),fun ns q hpm hpw hq=>?_⟩
     have hup:=zKD (RC.holesAt_nodup d1 i) (w:=wd) (fun t ht2=>by
      unfold RC.holesAt at ht2
      obtain ⟨c,q1,q2⟩:=List.mem_map.mp ht2
      have:=(d2 c (List.mem_filter.mp q1).1).1
      omega) hpm hpw
     have hcr:(RC.cutRows n wd p xs)[i]? = some (RC.upOf wd (RC.holesAt (xs.flatMap (RC.toneSlots p)) i)):=by
      unfold RC.cutRows
      rw [List.getElem?_map,List.getElem?_range hin]
      rfl
     have nDq:D2≠q:=nN hb1 hq
     have hbl:bs.length=i:=by rw [hb2.len,List.length_take]; omega
     refine ⟨bs.map V.ref,by rw [uN nDq]; exact hb1,by rw [List.length_map]; exact zAq (by omega),Same.own (Same.new s3 hq) hD2,bs++[q],?_,⟨?_,?_⟩,?_,?_⟩
     ·rw [uS,List.map_append]
      rfl
     ·rw [zAl hcr,List.length_append,List.length_append,hb2.len]
      rfl
     ·intro j c m h1 h2
      rw [zAl hcr] at h2
      rcases zAm h1 with ⟨g1,g2⟩ | ⟨g1,g2⟩
      ·rcases zAm h2 with ⟨g3,g4⟩ | ⟨g3,g4⟩
       ·have e:=hb2.at_ j c m g1 g3
        have ncD:c≠D2:=fun z=>hb3 (by rw [<- z]; exact List.mem_of_getElem? g1)
        rw [uN ncD,uN (nN e hq)]
        exact e
       ·have:=hb2.len
        omega
      ·rcases zAm h2 with ⟨g3,g4⟩ | ⟨g3,g4⟩
       ·have:=hb2.len
        omega
       ·subst g2
        subst g4
        rw [uN nDq.symm,uS,hup]
     ·intro z
      rcases List.mem_append.mp z with z | z
      ·exact hb3 z
      ·exact nDq (by simpa using z)
     ·intro c z
      rcases List.mem_append.mp z with z | z
      ·exact hb4 c z
      ·have:c=q:=by simpa using z
       rw [this]
       exact (s2.trans s3).free hq
    ·rintro H'' ⟨s3,bs,hb1,hb2,hb3,hb4⟩
     rw [List.length_map,hal2,List.take_of_length_le (Nat.le_of_eq hrl)] at hb2
     refine ⟨D2,bs,_,wd,rfl,hb1,hb2,by rw [hrl]; omega,fun a H5 s5 ha5 S5=>?_⟩
     refine k a H5 ((s2.trans s3).trans s5) ((s2.trans s3).free ha5) (S5.same (zCx fun c o z e=>⟨?_,e⟩))
     rcases z with z | z
     ·exact (s2.trans s3).free z
     ·exact hb4 c z
end
end RB
end
section
namespace RB
open PySem PySem.Spec PyProof.Rows L2 RX
structure zDn (CT:Addr) (H0 H:Hp) (q:Addr) (as:List Addr) (xs:List RC.T3):Prop where
 lst:H q=some (.lst (as.map V.ref))
 len:as.length=xs.length
 nd:as.Nodup
 fr:∀ a∈as,H0 a=none
 at_:∀ (i:Nat) (a:Addr) (x:RC.T3),as[i]? = some a->xs[i]? = some x->zCI CT H a x
theorem zDn.tones {CT:Addr} {H0 H:Hp} {q:Addr} {as:List Addr} {xs:List RC.T3} (h:zDn CT H0 H q as xs):zCp CT H q xs:=⟨as,h.lst,h.len,h.at_⟩
noncomputable def mT (s:RC.TSt) (as:List Addr):Nat->Option V:=fun t=>(s.idx t).bind fun j=>(as[j]?).map V.ref
def zFd (s:RC.TSt):Prop:=∀ t j,s.idx t=some j->j<s.cur.length
theorem zFd.new {s:RC.TSt} (h:zFd s) (t row e:Nat):zFd (s.new t row e):=by
 intro u j hj
 unfold RC.TSt.new at hj ⊢
 simp only at hj ⊢
 rw [List.length_append,List.length_singleton]
 by_cases z:u=t
 ·rw [if_pos z] at hj
  cases hj
  omega
 ·rw [if_neg z] at hj
  have:=h u j hj
  omega
theorem zFd.more {s:RC.TSt} (h:zFd s) (t e:Nat):zFd (s.more t e):=by
 intro u j hj
 unfold RC.TSt.more at hj ⊢
 simp only at hj ⊢
 rw [List.length_modify]
 exact h u j hj
theorem mT_new {s:RC.TSt} {as:List Addr} (h:zFd s) (hl:as.length=s.cur.length) (t row e:Nat) (x:Addr) (u:Nat):mT (s.new t row e) (as++[x]) u=if u=t then some (.ref x) else mT s as u:=by
 unfold mT RC.TSt.new
 simp only
 by_cases z:u=t
 ·rw [if_pos z,if_pos z,<- hl,Option.bind_some,List.getElem?_append_right (Nat.le_refl _),Nat.sub_self]
  rfl
 ·rw [if_neg z,if_neg z]
  cases e:s.idx u with
  | none=>rfl
  | some j=>
   rw [Option.bind_some,Option.bind_some,List.getElem?_append_left (by rw [hl]; exact h u j e)]
section
variable {P:Program} {w:World} {K:PySem.W.Frag} {mg:Str->Option Value} {base:Heap}
noncomputable def zHJ (CS CR CT:Addr):Sp:=fun vs H Q _=>∃ (a:Addr) (x:RC.Strip) (g:Nat),vs=[.ref a,vi g]/\zBo CS CR H a x/\x.Ok/\
 ∀ (q:Addr) (H':Hp),Same H H'->H q=none->zCp CT H' q (RC.trun g 0 RC.noTones x.runs).cur->(RC.trun g 0 RC.noTones x.runs).cur.length<=32768->Q (.ref q) H'
theorem zBU:zAc ["strip","tail","tones","latest","row","run","track","tone"] ["strip","tail"] (zAa zKP):=⟨rfl,rfl,rfl,by decide +kernel,rfl,by decide +kernel,by decide +kernel⟩
theorem zNq {f CS CR CT:Addr} {fd:FuncData} (F:Fun K "strip_tones" "strip_tones" zKP f fd) (TS:Cl K CS zDp) (TR:Cl K CR zEB) (TT:Cl K CT zDG) (G1:GC P w K mg base 1 "Tone" CT ["self","track","first","end"] (spI3 CT "track" "first" "end")):
    FnOk P w K mg base CX0 3 f fd ["strip","tail"] (zHJ CS CR CT):=by
  refine F.ok zBU (fun vs H Q E h=>?_) (fun cdv A outer s H vs Q E hr h=>?_)
  · obtain ⟨a,x,g,rfl,_⟩:=h
    rfl
  · obtain ⟨a,x,g,rfl,hS,ok,k⟩:=h
    have hu:=zIr hr
    refine ⟨_,pC (pS (i:=2) zBU.nd rfl (Or.inl rfl) (zAd pN))
      (pC (pS (i:=3) zBU.nd rfl (Or.inl rfl) zEg)
      (pC (pS (i:=4) zBU.nd rfl (Or.inl rfl) zAb)
      (pC (zBb PassesOwn.never rfl (zAR (pF (pv 0) rfl)) (zAn (i:=5) zBU.nd rfl (Or.inl rfl))
        (pC (zBb PassesOwn.never rfl (zAR (pF (pv 5) rfl)) (zAn (i:=6) zBU.nd rfl (Or.inl rfl))
          (pC (pS (i:=7) zBU.nd rfl (Or.inl rfl) (zIU hu (pv 3) (pv 6) ⟨rfl,rfl,rfl,rfl⟩))
          (pC (zAC (PW.pt (zEE (cR zFn (pv 7) zBD (zAe _)) (zED (cR zCC (pF (pv 7) rfl) (pv 4) (zAe _)))))
            (pC (pS (i:=7) zBU.nd rfl (Or.inl rfl) (zBJ G1 hr (pA (pv 6) (pA (pv 4) (pA (pv 4) pN)))))
            (pC (zGg hu (pv 3) (pv 6) (pv 7) rfl)
            (pO (zAA (zCj PySem.F.plainAttrs_list PySem.F.slot_list_append PySem.F.type_list_append zAM (pv 2) (pA (pv 7) pN)))))) zAf)
          (pO (zBt (pv 7) (zAs zBc (zAs zBc (pv 4) (pF (pv 5) rfl)) (pv 1)) rfl)))))
        (pO (zFk (i:=4) zBU.nd rfl (Or.inl rfl) (pF (pv 5) rfl) zHo))))
      (pO (pR (pv 2)))))),?_⟩
    obtain ⟨dx,l,ha,hRs⟩:=hS.ex
    obtain ⟨rs,hl,hlen,hruns⟩:=hRs.ex
    have hrl:=zEd ok.all
    have hfew:=ok.few
    have hw2:=ok.w2
    refine ⟨Nat.zero_le _,fun q hq=>?_⟩
    intro d hd
    have s1:Same H (upd H q (.lst [])):=Same.new (Same.refl H) hq
    have s2:Same H (upd (upd H q (.lst [])) d (.dK [])):=Same.new s1 hd
    have nqd:q≠d:=nN uS hd
    have hdH:H d=none:=s1.free hd
    refine ⟨_,rfl,a,CS,dx,_,_,rfl,s2 _ _ ha,TS.cl,TS.no _ (by simp),zBS _ _,l,rfl,⟨_,SqL.of (s2 _ _ hl)⟩,zAI (K:=K) (a:=l) (xs:=rs.map V.ref) (fun i σ H'=>∃ (u v t:Option V) (row:Nat) (st:RC.TSt) (as:List Addr),σ=[some (.ref a),some (vi g),some (.ref q),some (.ref d),some (vi row),u,v,t]/\Same H H'/\
        zDn CT H H' q as st.cur/\zAr H' d (mT st as) (128*i)/\zFd st/\st.cur.length<=128*i/\RC.trun g 0 RC.noTones x.runs=RC.trun g row st (x.runs.drop i))
      ⟨none,none,none,0,RC.noTones,[],rfl,s2,⟨by rw [uN nqd,uS]; rfl,rfl,List.nodup_nil,by simp,fun i a x h1=>by simp at h1⟩,⟨[],uS,fun t=>rfl,Nat.le_refl _⟩,(fun t j h=>by cases h),Nat.le_refl _,rfl⟩ ?_ ?_ ?_⟩
    · rintro i σ H' _ ⟨u,v,t,row,st,as,rfl,s3,_⟩
      exact SqL.of (s3 _ _ hl)
    · rintro i y σ H' hi ⟨u,v,t,row,st,as,rfl,s3,R3,D3,I3,L3,hJ⟩
      obtain ⟨c,hc,rfl⟩:=zBk hi
      have hil:i<x.runs.length:=by have:=zAk hc; omega
      obtain ⟨r,hr'⟩:∃ r,x.runs[i]? = some r:=⟨_,List.getElem?_eq_getElem hil⟩
      have hR:=hruns i c r hc hr'
      have okr:=ok.all r (List.mem_of_getElem? hr')
      have hrl2:r.2.length<=128:=Nat.le_trans (zIB okr.up okr.low) hw2
      obtain ⟨dr,lr,hc1,hc2⟩:=hR.ex
      rw [zAT hr',RC.trun] at hJ
      refine ⟨_,rfl,c,CR,dr,_,_,rfl,s3 _ _ hc1,TR.cl,TR.no _ (by simp),zAz _ _,lr,rfl,⟨_,SqL.of (s3 _ _ hc2)⟩,zAI (K:=K) (a:=lr) (xs:=vis r.2) (fun j σ H''=>∃ (v t:Option V) (st2:RC.TSt) (as:List Addr),σ=[some (.ref a),some (vi g),some (.ref q),some (.ref d),some (vi row),some (.ref c),v,t]/\Same H H''/\
        zDn CT H H'' q as st2.cur/\zAr H'' d (mT st2 as) (128*i+j)/\zFd st2/\st2.cur.length<=128*i+j/\st2=(r.2.take j).foldl (RC.tstep row (row+r.1+g)) st) ⟨_,_,st,as,rfl,s3,R3,D3,I3,L3,by simp⟩ ?_ ?_ ?_⟩
      · rintro j σ H'' _ ⟨v,t,st2,as,rfl,s4,_⟩
        exact SqL.of (s4 _ _ hc2)
      · rintro j y σ H'' hj ⟨v,t,st2,as,rfl,s4,R4,D4,I4,L4,hst⟩
        obtain ⟨tr,htr,rfl⟩:=zBM hj
        have hjl:=zAk htr
        rw [zAl htr,List.foldl_append,<- hst,List.foldl_cons,List.foldl_nil]
        refine ⟨_,rfl,d,rfl,D4.isD,_,rfl,_,D4.get tr,?_⟩
        refine (fun (new:st2.fresh row tr=true->?N)=>?main) ?np
        case N=>
          exact tSeq (tAsg (zJy CT (spI3 CT "track" "first" "end") [] E0 (zBv (tVar 6) (zBv (tVar 4) (zBv (tVar 4) tNil)))) (zER 7)) (tSeq (zNa (tVar 3) (tVar 6) (tVar 7)) (zHI (tBM K "list" zDt (tVar 2) (zBv (tVar 7) tNil))))
            { nx:=sFld K (tVar 7) (tOp (rI0 fun i j=>.int (i+j)) (tOp (rI0 fun i j=>.int (i+j)) (tVar 4) (tFld K (tVar 5) "rows")) (tVar 1)) "end"
                { nx:=fun σ H''=>∃ (v t:Option V) (st3:RC.TSt) (as:List Addr),σ=[some (.ref a),some (vi g),some (.ref q),some (.ref d),some (vi row),some (.ref c),v,t]/\Same H H''/\
                    zDn CT H H'' q as st3.cur/\zAr H'' d (mT st3 as) (128*i+(j+1))/\zFd st3/\st3.cur.length<=128*i+(j+1)/\st3=RC.tstep row (row+r.1+g) st2 tr,rt:=Q },rt:=Q }
            [some (.ref a),some (vi g),some (.ref q),some (.ref d),some (vi row),some (.ref c),some (vi tr),some ((mT st2 as tr).getD .non)] H''
        case np=>
          intro hfresh
          have hstep:RC.tstep row (row+r.1+g) st2 tr=st2.new tr row (row+r.1+g):=by
            unfold RC.tstep
            rw [if_pos hfresh]
          refine ⟨_,rfl,_,rfl,_,rfl,fun z dz hz hdz hne=>⟨z,dz,_,_,_,rfl,uS,rfl,?_⟩⟩
          rw [zAx]
          have hzH:=s4.free hz
          have hdzH:=s4.free hdz
          obtain ⟨kd,hkd⟩:=D4.there
          have ndz:d≠z:=nN hkd hz
          have nddz:d≠dz:=nN hkd hdz
          have nqz:q≠z:=nN R4.lst hz
          have nqdz:q≠dz:=nN R4.lst hdz
          have D5:zAr (upd (upd H'' dz (.own z)) z (.ins CT dz (rec3 "track" "first" "end" (vi tr) (vi row) (vi row)))) d (mT st2 as) (128*i+j):=D4.frame (by rw [uN ndz,uN nddz])
          obtain ⟨kvs,p1,p2⟩:=D5.put (by rw [sizeLine_eq]; omega) tr (.ref z)
          refine ⟨_,rfl,_,rfl,_,rfl,d,_,rfl,p1,?_⟩
          have hql:(upd (upd (upd H'' dz (.own z)) z (.ins CT dz (rec3 "track" "first" "end" (vi tr) (vi row) (vi row)))) d (.dK kvs)) q=some (.lst (as.map V.ref)):=by
            rw [uN nqd,uN nqz,uN nqdz]
            exact R4.lst
          refine ⟨_,rfl,.inl ⟨rfl,_,SqL.of hql⟩,_,rfl,q,_,_,rfl,rfl,hql,?_,?_⟩
          · rw [List.length_map,R4.len,sizeLine_eq]
            omega
          · have hcc:=hc1
            have s5:Same H (upd (upd (upd (upd H'' dz (.own z)) z (.ins CT dz (rec3 "track" "first" "end" (vi tr) (vi row) (vi row)))) d (.dK kvs)) q (.lst (as.map V.ref++[.ref z]))):=Same.own (Same.own (Same.own (Same.own s4 hdzH) hzH) hdH) hq
            have hzz:(upd (upd (upd (upd H'' dz (.own z)) z (.ins CT dz (rec3 "track" "first" "end" (vi tr) (vi row) (vi row)))) d (.dK kvs)) q (.lst (as.map V.ref++[.ref z]))) z=some (.ins CT dz (zFH (tr,row,row))):=by
              rw [uN nqz.symm,uN ndz.symm,uS]
              rfl
            refine ⟨_,rfl,_,rfl,c,CR,dr,_,_,rfl,s5 _ _ hc1,TR.cl,TR.no _ (by simp),zAX _ _,_,_,rfl,rfl,_,rfl,_,_,rfl,rfl,_,rfl,z,CT,dz,_,rfl,hzz,TT.cl,TT.no _ (by simp),(by show 3<1000; decide),?_⟩
            have hput:putF "end" (V.int ((row:Int)+(r.1:Int)+(g:Int))) (zFH (tr,row,row))=zFH (tr,row,row+r.1+g):=zGY (by decide) (by decide) (by decide)
            refine ⟨_,_,_,as++[z],rfl,Same.own s5 hzH,?_,?_,?_,?_,hstep.symm⟩
            · refine ⟨?_,?_,?_,?_,?_⟩
              · rw [uN nqz,uS,List.map_append]
                rfl
              · show (as++[z]).length=(st2.cur++[_]).length
                rw [List.length_append,List.length_append,R4.len]
                rfl
              · rw [List.nodup_append]
                refine ⟨R4.nd,by simp,fun e he e2 he2=>?_⟩
                have:e2=z:=by simpa using he2
                subst this
                obtain ⟨j2,hj2⟩:=List.getElem?_of_mem he
                obtain ⟨y2,hy2⟩:∃ y2,st2.cur[j2]? = some y2:=⟨_,List.getElem?_eq_getElem (by rw [<- R4.len]; exact zAk hj2)⟩
                obtain ⟨_,e1⟩:=(R4.at_ j2 e y2 hj2 hy2).ex
                exact nN e1 hz
              · intro e he
                rcases List.mem_append.mp he with he | he
                · exact R4.fr e he
                · have:e=z:=by simpa using he
                  rw [this]
                  exact hzH
              · intro j2 e y2 h1 h2
                have h2:(st2.cur++[(tr,row,row+r.1+g)])[j2]? = some y2:=h2
                rcases zAm h1 with ⟨g1,g2⟩ | ⟨g1,g2⟩
                · rcases zAm h2 with ⟨g3,g4⟩ | ⟨g3,g4⟩
                  · obtain ⟨de,e1⟩:=(R4.at_ j2 e y2 g1 g3).ex
                    refine ⟨de,?_⟩
                    rw [uN (nN e1 hz),uN (zCc e1 R4.lst (by intro z; cases z)),uN (zCc e1 hkd (by intro z; cases z)),uN (nN e1 hz),uN (nN e1 hdz)]
                    exact e1
                  · have:=R4.len
                    omega
                · rcases zAm h2 with ⟨g3,g4⟩ | ⟨g3,g4⟩
                  · have:=R4.len
                    omega
                  · subst g2
                    subst g4
                    exact ⟨dz,by rw [uS]; exact congrArg (fun z=>some (HO.ins CT dz z)) hput⟩
            · obtain ⟨kk,c1,c2,c3⟩:=p2.ex
              refine ⟨kk,?_,fun u=>?_,by omega⟩
              · rw [uN ndz,uN nqd.symm]
                exact c1
              · rw [c2 u,mT_new I4 R4.len]
            · exact I4.new _ _ _
            · show (st2.cur++[_]).length<=_
              rw [List.length_append,List.length_singleton]
              omega
        case main=>
          refine ⟨_,rfl,rfl,_,rfl,?_⟩
          cases hix:st2.idx tr with
          | none=>
            have e0:mT st2 as tr=none:=by unfold mT; rw [hix]; rfl
            rw [decide_eq_true (by rw [e0]; rfl)]
            refine iteT (iteT (new ?_))
            unfold RC.TSt.fresh
            rw [hix]
          | some jj=>
            have hjj:=I4 tr jj hix
            obtain ⟨e,he⟩:∃ e,as[jj]? = some e:=⟨_,List.getElem?_eq_getElem (by rw [R4.len]; exact hjj)⟩
            obtain ⟨y,hy⟩:∃ y,st2.cur[jj]? = some y:=⟨_,List.getElem?_eq_getElem hjj⟩
            have e0:mT st2 as tr=some (.ref e):=by unfold mT; rw [hix,Option.bind_some,he]; rfl
            have eg:(mT st2 as tr).getD V.non = .ref e:=by rw [e0]; rfl
            rw [decide_eq_false (by rw [eg]; intro z; cases z)]
            refine iteF ?_
            obtain ⟨de,hde⟩:=(R4.at_ jj e y he hy).ex
            refine ⟨_,rfl,e,CT,de,_,_,eg,hde,TT.cl,TT.no _ (by simp),zBO y,_,rfl,_,_,rfl,rfl,_,rfl,?_⟩
            have hfr:st2.fresh row tr=decide (y.2.2<row):=by
              unfold RC.TSt.fresh
              rw [hix]
              show (match st2.cur[jj]? with | some x=>decide (x.2.2<row) | none=>true)=_
              rw [hy]
            rw [zBl,<- hfr]
            cases hf:st2.fresh row tr with
            | true=>exact iteT (new hf)
            | false=>
              refine iteF ?_
              have hstep:RC.tstep row (row+r.1+g) st2 tr=st2.more tr (row+r.1+g):=by
                unfold RC.tstep
                rw [hf]
                rfl
              refine ⟨_,rfl,_,rfl,c,CR,dr,_,_,rfl,s4 _ _ hc1,TR.cl,TR.no _ (by simp),zAX _ _,_,_,rfl,rfl,_,rfl,_,_,rfl,rfl,_,rfl,e,CT,de,_,eg,hde,TT.cl,TT.no _ (by simp),(by show 3<1000; decide),?_⟩
              have hput:putF "end" (V.int ((row:Int)+(r.1:Int)+(g:Int))) (zFH y)=zFH (y.1,y.2.1,row+r.1+g):=zGY (by decide) (by decide) (by decide)
              have heH:=R4.fr e (List.mem_of_getElem? he)
              obtain ⟨kd,hkd⟩:=D4.there
              have ned:d≠e:=(zCc hde hkd (by intro z; cases z)).symm
              have neq:q≠e:=(zCc hde R4.lst (by intro z; cases z)).symm
              have hmore:st2.more tr (row+r.1+g)=⟨st2.cur.modify jj (RC.setEnd (row+r.1+g)),st2.idx⟩:=by
                unfold RC.TSt.more
                rw [hix]
                rfl
              refine ⟨_,_,_,as,rfl,Same.own s4 heH,?_,?_,?_,?_,hstep.symm⟩
              · rw [hmore]
                refine ⟨by rw [uN neq]; exact R4.lst,by rw [List.length_modify]; exact R4.len,R4.nd,R4.fr,fun j2 e2 y2 h1 h2=>?_⟩
                rw [List.getElem?_modify] at h2
                by_cases z:jj=j2
                · subst z
                  rw [he] at h1
                  cases h1
                  rw [hy] at h2
                  simp only [if_pos,Option.map_some] at h2
                  cases h2
                  exact ⟨de,by rw [uS]; exact congrArg (fun z=>some (HO.ins CT de z)) hput⟩
                · have ne2:e2≠e:=fun q=>z (zEM R4.nd (by rw [q] at h1; exact he) (by rw [q] at h1; exact h1))
                  have h2:st2.cur[j2]? = some y2:=by
                    simpa [z] using h2
                  obtain ⟨d2,hd2⟩:=(R4.at_ j2 e2 y2 h1 h2).ex
                  exact ⟨d2,by rw [uN ne2]; exact hd2⟩
              · rw [hmore]
                exact (D4.frame (uN ned)).mono (by omega)
              · exact I4.more _ _
              · rw [hmore]
                show (st2.cur.modify _ _).length<=_
                rw [List.length_modify]
                omega
      · rintro σ H'' ⟨v,t,st2,as,rfl,s4,R4,D4,I4,L4,hst⟩
        rw [zAg] at D4 L4 hst
        rw [List.take_length] at hst
        refine ⟨_,rfl,_,rfl,c,CR,dr,_,_,rfl,s4 _ _ hc1,TR.cl,TR.no _ (by simp),zAX _ _,_,_,rfl,rfl,_,_,_,row+r.1,st2,as,rfl,s4,R4,D4.mono (by omega),I4,by omega,?_⟩
        rw [hst]
        exact hJ
    · rintro σ H' ⟨u,v,t,row,st,as,rfl,s3,R3,D3,I3,L3,hJ⟩
      rw [List.length_map,hlen,List.drop_length,RC.trun] at hJ
      rw [List.length_map,hlen] at L3
      refine ⟨_,rfl,k q H' s3 hq ?_ ?_⟩
      · rw [hJ]
        exact R3.tones
      · rw [hJ]
        omega
end
end RB
end
section
namespace RB
open PySem PySem.Spec PyProof.Rows L2 RX
noncomputable def sOf (l:List Nat):Str:=⟨l.toArray⟩
theorem zBj (a b:List Nat):sOf a++sOf b=sOf (a++b):=by
 show Str.mk (a.toArray++b.toArray)=_
 unfold sOf
 rw [List.append_toArray]
theorem zAE (a:List Nat):(sOf a).length=a.length:=List.size_toArray ..
theorem zBI (n:Nat):Str.ofString (toString (n:Int))=sOf (RC.dig n):=by
 rw [Str.ofString_eq_toList]
 have e:toString (n:Int)=String.ofList (Nat.toDigits 10 n):=rfl
 rw [e,String.toList_ofList]
 rfl
noncomputable def glue (S:List Nat):List (List Nat)->List Nat
 | []=>[]
 | [p]=>p
 | p::q::r=>p++(S++glue S (q::r))
theorem zEc (S:List Nat):∀ ls:List (List Nat),Str.join (sOf S) (ls.map sOf)=sOf (glue S ls)
 | []=>rfl
 | [p]=>rfl
 | p::q::r=>by
  show sOf p++sOf S++Str.join (sOf S) ((q::r).map sOf)=_
  rw [zEc S (q::r),zBj,zBj,List.append_assoc]
  rfl
theorem zJk:∀ ls:List (List Nat),glue [] ls=ls.flatten
 | []=>rfl
 | [p]=>by simp [glue]
 | p::q::r=>by
  rw [glue,zJk (q::r),List.nil_append]
  rfl
theorem zGo:∀ (p:List Nat) (ts:List Nat),glue [32] (p::ts.map RC.dig)=p++ts.flatMap fun t=>32::RC.dig t
 | p,[]=>by simp [glue]
 | p,t::ts=>by
  rw [List.map_cons,glue,zGo (RC.dig t) ts]
  rfl
theorem zGP {n:Nat} (h:n<=1000):((n:Int).natAbs).log2<1920:=by
 rw [Int.natAbs_natCast]
 exact Nat.lt_of_le_of_lt (Nat.log2_le_self n) (by omega)
theorem lc_str {x:Str} {g:TG} {tt:TT} {te:TE} {vs:List Nat} {σ:L2.St} {H1:Hp} {D:Addr} {Qd:Hp->Prop} (Pv:Nat->Hp->Prop) (h0:Pv 0 (upd H1 D (.lst [])))
  (hs:∀ i c H,x.cps[i]? = some c->Pv i H->g (.str ⟨#[c]⟩) (wipe σ vs) H fun σ2 H2=>wipe σ2 vs=wipe σ vs/\tt σ2 H2 fun b H3=>
   if b=true then te σ2 H3 fun y H4=>∃ acc,H4 D=some (.lst acc)/\acc.length<sizeLine/\Pv (i+1) (upd H4 D (.lst (acc++[y]))) else Pv (i+1) H3) (hd:∀ H,Pv x.cps.size H->Qd H):
  ∃ W:Nat->Nat->Hp->Prop,(∃ m,W 0 m (upd H1 D (.lst [])))/\∀ i m H,W i m H->
   ((Its x).stop i H/\Qd H)\/((Its x).go i H/\∃ Nx:Hp->Prop,(∀ H',Nx H'->∃ m',m'<m/\W (i+1) m' H')/\∀ v H',(Its x).yld i H v H'->g v (wipe σ vs) H' fun σ2 H2=>wipe σ2 vs=wipe σ vs/\tt σ2 H2 fun b H3=>
    if b=true then te σ2 H3 fun y H4=>∃ acc,H4 D=some (.lst acc)/\acc.length<sizeLine/\Nx (upd H4 D (.lst (acc++[y]))) else Nx H3):=by
 refine ⟨fun i m H=>m=x.cps.size-i/\i<=x.cps.size/\Pv i H,⟨_,rfl,Nat.zero_le _,h0⟩,?_⟩
 rintro i m H ⟨rfl,hi,p⟩
 by_cases hlt:i<x.cps.size
 ·refine .inr ⟨hlt,Pv (i+1),fun H' p'=>⟨x.cps.size-(i+1),by omega,rfl,hlt,p'⟩,fun v H' y=>?_⟩
  obtain ⟨e,c,hc,rfl⟩:=y
  subst e
  exact hs i c _ hc p
 ·have e:i=x.cps.size:=by omega
  subst e
  exact .inl ⟨Nat.le_refl _,hd H p⟩
def GS (mg:Str->Option Value) (x:Str) (t:Str):Prop:=∃ u,mg x=some u/\RelV (.str t) u
theorem pe_gs {X:Cx} {x t:Str} {pos:Pos} (g:GS X.mg x t) (hg:Gl X x:=by rfl) (hd:(x==("__debug__" : Str))=false:=by decide):PE X (.Name x pos) (tC (.str t)):=by
 obtain ⟨u,h1,h2⟩:=g
 exact zGh hg h1 h2 hd
section
variable {P:Program} {w:World} {K:PySem.W.Frag} {mg:Str->Option Value} {base:Heap}
noncomputable def zKw (CR:Addr):Sp:=fun vs H Q _=>∃ (a:Addr) (r:RC.Run),vs=[.ref a]/\zGB CR H a r/\r.1<=256/\r.2.length<=128/\(∀ t∈r.2,t<=256)/\∀ (H':Hp),Same H H'->Q (.str (sOf (RC.runCodes r))) H'
theorem zIK:zAc ["run","numbers","number"] ["run"] (zAa zMY):=⟨rfl,rfl,rfl,by decide +kernel,rfl,by decide +kernel,by decide +kernel⟩
theorem sum_le {α:Type} (f:α->Nat) (c:Nat):∀ l:List α,(∀ x∈l,f x<=c)->(l.map f).sum<=c*l.length
 | [],_=>by simp
 | x::l,h=>by
  have ih:=sum_le f c l fun y hy=>h y (List.mem_cons_of_mem _ hy)
  have h1:=h x List.mem_cons_self
  rw [List.map_cons,List.sum_cons,List.length_cons,Nat.mul_add]
  omega
theorem ok_line {f CR:Addr} {fd:FuncData} (F:Fun K "run_line" "run_line" zMY f fd) (TR:Cl K CR zEB) (hstr:mg "str" = none):FnOk P w K mg base CX0 1 f fd ["run"] (zKw CR):=by
 refine F.ok zIK (fun vs H Q E h=>?_) (fun cdv A outer s H vs Q E hr h=>?_)
 ·obtain ⟨a,r,rfl,_⟩:=h
  rfl
 ·obtain ⟨a,r,rfl,hR,h1,h2,h3,k⟩:=h
  obtain ⟨dx,l,ha,hl⟩:=hR.ex
  refine ⟨_,pC (pS (i:=1) zIK.nd rfl (Or.inl rfl) (zAs zFo (zAd (pA (pF (pv 0) rfl) pN)) (pF (pv 0) rfl)))
   (pO (pR (zAs zDx (zLr zIR (zLq (own:=[("number",2)]) rfl zIK.nd (zAR (pv 1)) (zCB (by show blkC ["run","numbers","number"] (zAa zMY) _ _=true; decide +kernel)) (fun _ _ _ _ _=>zAn (i:=2) zIK.nd rfl (Or.inl rfl)) (fun _ _ _ _ _=>zDu)
    (fun _ _ _ _ _=>zEK (T:= "str") zDQ rfl hstr (by decide +kernel) (pA (pv 2) pN)))) zIR))),?_⟩
  refine ⟨_,rfl,a,CR,dx,_,_,rfl,ha,TR.cl,TR.no _ (by simp),zAX _ _,(by show 1<=sizeLine; decide),fun p1 hp1=>?_⟩
  have s1:Same H (upd H p1 (.lst [vi r.1])):=Same.new (Same.refl H) hp1
  refine ⟨_,rfl,a,CR,dx,_,_,rfl,s1 _ _ ha,TR.cl,TR.no _ (by simp),zAz _ _,p1,l,_,_,rfl,rfl,uS,s1 _ _ hl,Nat.le_of_lt (zAq (by rw [zAg]; simp; omega)),fun p2 hp2=>?_⟩
  have s2:=Same.new (o:=.lst ([vi r.1]++vis r.2)) s1 hp2
  have e2:(upd (upd H p1 (.lst [vi r.1])) p2 (.lst ([vi r.1]++vis r.2))) p2=some (.lst (vis (r.1::r.2))):=uS
  refine ⟨⟨_,rfl⟩,_,rfl,p2,rfl,⟨_,SqL.of e2⟩,fun D hD=>?_⟩
  have nD2:p2≠D:=nN e2 hD
  have hlow:∀ t∈r.1::r.2,t<=256:=fun t ht=>by
   rcases List.mem_cons.mp ht with z | z
   ·omega
   ·exact h3 t z
  refine zLU (K:=K) (a:=p2) (xs:=vis (r.1::r.2)) (fun i H'=>Same H H'/\H' p2=some (.lst (vis (r.1::r.2)))/\H' D=some (.lst ((((r.1::r.2).take i).map RC.dig).map fun x=>V.str (sOf x)))) ⟨Same.new s2 hD,by rw [uN nD2]; exact e2,uS⟩ ?_ ?_ ?_
  ·rintro i H' _ ⟨_,e,_⟩
   exact SqL.of e
  ·rintro i y H' hi ⟨s3,e3,e4⟩
   obtain ⟨t,ht,rfl⟩:=zBM hi
   have hil:=zAk ht
   have hDH:H D=none:=s2.free hD
   refine ⟨rfl,_,rfl,_,rfl,zGP (Nat.le_trans (hlow t (List.mem_of_getElem? ht)) (by decide)),_,e4,?_,Same.own s3 hDH,by rw [uN nD2]; exact e3,?_⟩
   ·rw [List.length_map,List.length_map,List.length_take]
    rw [List.length_cons] at hil
    exact zAq (by omega)
   ·rw [uS,zAl ht,List.map_append,List.map_append,zBI]
    rfl
  ·rintro H' ⟨s3,e3,e4⟩
   rw [zAg,List.take_length] at e4
   have e5:H' D=some (.lst ((((r.1::r.2).map RC.dig).map sOf).map V.str)):=by
    rw [e4,List.map_map]
    simp [List.map_map]
   have hjoin:Str.join (sOf [32]) (((r.1::r.2).map RC.dig).map sOf)++sOf [10]=sOf (RC.runCodes r):=by
    rw [zEc,zBj]
    rw [List.map_cons,zGo]
    rfl
   have hb:((((r.1::r.2).map RC.dig).map sOf).map (·.length)).sum<=3*(r.1::r.2).length:=by
    rw [List.map_map,List.map_map]
    exact sum_le _ 3 _ fun t ht=>by
     show (sOf (RC.dig t)).length<=3
     rw [zAE]
     exact RC.dig_short (hlow t ht)
   refine ⟨_,D,((r.1::r.2).map RC.dig).map sOf,rfl,rfl,.inl (SqL.of e5),?_,?_⟩
   ·rw [List.length_cons] at hb
    rw [List.length_map,List.length_map,List.length_cons]
    have:(Str.ofString " ").length=1:=by decide +kernel
    rw [this]
    omega
   ·rw [TL.join_eq]
    have e6:Str.ofString " " = sOf [32]:=by decide +kernel
    have e7:Str.ofString "\n" = sOf [10]:=by decide +kernel
    have hz:(RC.runCodes r).length<=1000:=by
     have e8:RC.runCodes r=glue [32] ((r.1::r.2).map RC.dig)++[10]:=by rw [List.map_cons,zGo]; rfl
     have:∀ ts:List Nat,(∀ t∈ts,t<=256)->(ts.flatMap fun t=>32::RC.dig t).length<=4*ts.length:=fun ts hts=>by
      induction ts with
      | nil=>simp
      | cons t ts ih=>
       have:=ih fun x hx=>hts x (List.mem_cons_of_mem _ hx)
       have h4:=RC.dig_short (hts t List.mem_cons_self)
       rw [List.flatMap_cons,List.length_append,List.length_cons,List.length_cons]
       omega
     have h5:=this r.2 h3
     have h6:=RC.dig_short h1
     unfold RC.runCodes
     rw [List.length_append,List.length_append,List.length_singleton]
     omega
    refine ⟨_,_,rfl,rfl,?_,?_⟩
    ·have e9:(Str.join (Str.ofString " ") (((r.1::r.2).map RC.dig).map sOf)).length+(Str.ofString "\n").length=(Str.join (sOf [32]) (((r.1::r.2).map RC.dig).map sOf)++sOf [10]).length:=by
      rw [e6,e7,zEc,zBj,zAE,zAE,zAE,List.length_append]
     rw [e9,hjoin,zAE]
     exact Nat.le_of_lt (zAq hz)
    ·rw [e6,e7,hjoin]
     exact k H' s3
end
end RB
end
section
namespace RB
open PySem PySem.Spec PyProof.Rows L2 RX
theorem zID {r:RC.Run}:∀ {l:List RC.Run},r∈l->r.1<=RC.total l
 | [],h=>by simp at h
 | x::l,h=>by
  have e:RC.total (x::l)=x.1+RC.total l:=by simp [RC.total]
  rcases List.mem_cons.mp h with z | z
  ·rw [z]; omega
  ·have:=zID z; omega
section
variable {P:Program} {w:World} {K:PySem.W.Frag} {mg:Str->Option Value} {base:Heap}
noncomputable def zKt (CS CR:Addr):Sp:=fun vs H Q _=>∃ (a:Addr) (x:RC.Strip),vs=[.ref a]/\zBo CS CR H a x/\x.Ok/\∀ (q:Addr) (H':Hp),Same H H'->H q=none->H' q=some (.lst (vis (RC.textCodes x)))->Q (.ref q) H'
theorem zGS:zAc ["strip","lines","run","sign"] ["strip"] (zAa zMX):=⟨rfl,rfl,rfl,by decide +kernel,rfl,by decide +kernel,by decide +kernel⟩
noncomputable def zCy (x:RC.Strip):List Nat:=RC.headCodes++RC.dig x.wide++[10]
theorem ok_text {f CS CR:Addr} {fd:FuncData} (F:Fun K "strip_text" "strip_text" zMX f fd) (TS:Cl K CS zDp) (hstr:mg "str" = none) (hord:mg "ord" = none) (gH:GS mg "HEAD" (sOf RC.headCodes)) (G1:GF P w K mg base CX0 1 "run_line" ["run"] (zKw CR)):
  FnOk P w K mg base CX0 2 f fd ["strip"] (zKt CS CR):=by
 refine F.ok zGS (fun vs H Q E h=>?_) (fun cdv A outer s H vs Q E hr h=>?_)
 ·obtain ⟨a,x,rfl,_⟩:=h
  rfl
 ·obtain ⟨a,x,rfl,hS,ok,k⟩:=h
  obtain ⟨dx,l,ha,hRs⟩:=hS.ex
  obtain ⟨rs,hl,hlen,hruns⟩:=hRs.ex
  have hrl:=zEd ok.all
  have hfew:=ok.few
  have hw2:=ok.w2
  have e7:Str.ofString "\n" = sOf [10]:=by decide +kernel
  refine ⟨_,pC (pS (i:=1) zGS.nd rfl (Or.inl rfl) (zAd (pA (zAs zDx (zAs zDx (pe_gs gH) (zEK (T:= "str") zDQ rfl hstr (by decide +kernel) (pA (pF (pv 0) rfl) pN))) zIR) pN)))
   (pC (zBb PassesOwn.never rfl (zAR (pF (pv 0) rfl)) (zAn (i:=2) zGS.nd rfl (Or.inl rfl))
    (pO (zAA (zCj PySem.F.plainAttrs_list PySem.F.slot_list_append PySem.F.type_list_append zAM (pv 1) (pA (cG G1 hr zAh (pA (pv 2) pN)) pN)))))
   (pO (pR (zLq (own:=[("sign",3)]) rfl zGS.nd (pi_str (zLr zIR (pv 1))) (zCB (by show blkC ["strip","lines","run","sign"] (zAa zMX) _ _=true; decide +kernel)) (fun _ _ _ _ _=>zAn (i:=3) zGS.nd rfl (Or.inl rfl)) (fun _ _ _ _ _=>zDu)
    (fun _ _ _ _ _=>zAt (id:= "ord") zJq rfl hord (by decide +kernel) (pA (pv 3) pN)))))),?_⟩
  have hdw:(RC.dig x.wide).length<=3:=RC.dig_short (by omega)
  have hbig:1000<=sizeLine:=by rw [sizeLine_eq]; decide
  refine ⟨_,rfl,a,CS,dx,_,_,rfl,ha,TS.cl,TS.no _ (by simp),zGL _ _,_,rfl,zGP (by omega),_,_,rfl,rfl,?_,_,_,rfl,rfl,?_,?_⟩
  ·rw [zBI,zAE,zAE]
   show 6+_<=_
   omega
  ·rw [zBI,zBj,e7,zAE,zAE,List.length_append]
   show 6+_+1<=_
   omega
  ·rw [zBI,zBj,e7,zBj]
   refine ⟨(by show 1<=sizeLine; decide),fun q hq=>?_⟩
   have s1:Same H (upd H q (.lst [V.str (sOf (RC.headCodes++RC.dig x.wide++[10]))])):=Same.new (Same.refl H) hq
   refine ⟨_,rfl,a,CS,dx,_,_,rfl,s1 _ _ ha,TS.cl,TS.no _ (by simp),zBS _ _,l,rfl,⟨_,SqL.of (s1 _ _ hl)⟩,zAI (K:=K) (a:=l) (xs:=rs.map V.ref) (fun i σ H'=>∃ (u:Option V),σ=[some (.ref a),some (.ref q),u,none]/\Same H H'/\
     H' q=some (.lst (((zCy x::(x.runs.take i).map RC.runCodes).map sOf).map V.str))) ⟨none,rfl,s1,uS⟩ ?_ ?_ ?_⟩
   ·rintro i σ H' _ ⟨u,rfl,s2,_⟩
    exact SqL.of (s2 _ _ hl)
   ·rintro i y σ H' hi ⟨u,rfl,s2,e2⟩
    obtain ⟨c,hc,rfl⟩:=zBk hi
    have hil:i<x.runs.length:=by have:=zAk hc; omega
    obtain ⟨r,hr'⟩:∃ r,x.runs[i]? = some r:=⟨_,List.getElem?_eq_getElem hil⟩
    have hR:=hruns i c r hc hr'
    have hrm:=List.mem_of_getElem? hr'
    have okr:=ok.all r hrm
    have hrt:=zID hrm
    refine ⟨_,rfl,.inl ⟨rfl,_,SqL.of e2⟩,_,rfl,c,r,rfl,hR.same s2,by omega,Nat.le_trans (zIB okr.up okr.low) hw2,(fun t ht=>by have:=okr.low t ht; omega),fun H3 s3=>?_⟩
    refine ⟨q,_,_,rfl,rfl,s3 _ _ e2,?_,_,rfl,Same.own (s2.trans s3) hq,?_⟩
    ·rw [List.length_map,List.length_map,List.length_cons,List.length_map,List.length_take]
     exact zAq (by omega)
    ·rw [uS,zAl hr',List.map_append,<- List.cons_append,List.map_append,List.map_append]
     rfl
   ·rintro σ H' ⟨u,rfl,s2,e2⟩
    rw [List.length_map,hlen,List.take_length] at e2
    have e6:Str.ofString "" = sOf []:=by decide +kernel
    have hjoin:Str.join (sOf []) ((zCy x::x.runs.map RC.runCodes).map sOf)=sOf (RC.textCodes x):=by
     rw [zEc,zJk]
     unfold zCy RC.textCodes
     rw [List.flatten_cons,List.flatMap_def]
     simp only [List.append_assoc,List.cons_append,List.nil_append]
    have hsum:∀ ls:List (List Nat),((ls.map sOf).map (·.length)).sum=ls.flatten.length:=fun ls=>by
     rw [List.map_map,List.length_flatten]
     congr 1
    have htl:(zCy x::x.runs.map RC.runCodes).flatten=RC.textCodes x:=by
     unfold zCy RC.textCodes
     rw [List.flatten_cons,List.flatMap_def]
     simp only [List.append_assoc,List.cons_append,List.nil_append]
    have hshort:=RC.text_short ok
    refine ⟨⟨_,rfl⟩,_,rfl,_,q,(zCy x::x.runs.map RC.runCodes).map sOf,rfl,rfl,.inl (SqL.of e2),?_,_,rfl,fun D hD=>?_⟩
    ·rw [hsum,htl,e6,zAE,List.length_nil,Nat.mul_zero]
     omega
    ·rw [TL.join_eq,e6,hjoin]
     have hDH:H D=none:=s2.free hD
     have hsz:(sOf (RC.textCodes x)).cps.size=(RC.textCodes x).length:=zAE _
     refine lc_str (x:=sOf (RC.textCodes x)) (fun i H''=>Same H H''/\H'' D=some (.lst (vis ((RC.textCodes x).take i)))) ⟨Same.new s2 hD,uS⟩ ?_ ?_
     ·rintro i c H'' hi ⟨s3,e3⟩
      have hi2:(RC.textCodes x)[i]? = some c:=by
       unfold sOf at hi
       rw [List.getElem?_toArray] at hi
       exact hi
      have hil:=zAk hi2
      refine ⟨rfl,_,rfl,_,rfl,rfl,_,e3,?_,Same.own s3 hDH,?_⟩
      ·rw [zAg,List.length_take,sizeLine_eq]
       omega
      ·rw [uS,zAl hi2,zAU]
       rfl
     ·rintro H'' ⟨s3,e3⟩
      rw [hsz,List.take_length] at e3
      exact k D H'' s3 hDH e3
end
end RB
end
section
namespace RB
open PySem PySem.Spec PyProof.Rows L2 RX
noncomputable def rdF (g:Addr) (p:Nat):List (Str×V):=rec2 "given" "place" (.ref g) (vi p)
theorem zCi (g:Addr) (p:Nat):(rdF g p).lookup ("given" : Str)=some (.ref g):=zHc (by decide)
theorem zAQ (g:Addr) (p:Nat):(rdF g p).lookup ("place" : Str)=some (vi p):=zHb
theorem zLg (g:Addr) (p q:Nat):putF "place" (vi q) (rdF g p)=rdF g q:=zGZ (by decide)
theorem zBP {m:Str} {g:Addr} {p:Nat} (h1:m≠ "given") (h2:m≠ "place"):(rdF g p).lookup m=none:=zLe h1 h2
structure zGC (CD:Addr) (H:Hp) (a:Addr) (xs:List Nat) (p:Nat):Prop where
 ex:∃ dx g,H a=some (.ins CD dx (rdF g p))/\H g=some (.lst (vis xs))
def zAY (a:Addr) (H H':Hp):Prop:=∀ b o,b≠a->H b=some o->H' b=some o
theorem zAY.refl (a:Addr) (H:Hp):zAY a H H:=fun _ _ _ h=>h
theorem zAY.trans {a:Addr} {H H1 H2:Hp} (h:zAY a H H1) (h':zAY a H1 H2):zAY a H H2:=fun b o n e=>h' b o n (h b o n e)
theorem zAY.put {a:Addr} {H H1:Hp} {o:HO} (h:zAY a H H1):zAY a H (upd H1 a o):=fun b u n e=>by rw [uN n]; exact h b u n e
theorem zAY.new {a x:Addr} {H H1:Hp} {o:HO} (h:zAY a H H1) (hx:H1 x=none):zAY a H (upd H1 x o):=fun b u n e=>by
 have q:=h b u n e
 rw [uN (nN q hx)]
 exact q
def Err (CF a:Addr) (H:Hp) (E:XK) (k:Nat):Prop:=∀ dx H',zAY a H H'->H' dx=some (.xd [("place",vi k)])->E (.ref CF) (some dx) H'
section
variable {P:Program} {w:World} {K:PySem.W.Frag} {mg:Str->Option Value} {base:Heap}
theorem okF {C:Addr} {x qual:Str} {st:Stmt} {f:Addr} {fd:FuncData} {N ps:List Str} {k:Nat} {sp:Sp} (F:Fun K x qual st f fd) (S:zAc N ps (zAa st)) (len:∀ vs H Q E,sp vs H Q E->vs.length=ps.length)
  (hbody:∀ (cdv:Value) (A:Around) (outer:List Env) (s:Shared) (H:Hp) (vs:List V) (Q:VK) (E:XK),Room k (A.deeper (envOfC qual (zAa st) s.heap.objs.size f cdv))->sp vs H Q E->
   ∃ t,PSs (cxOf (CXF P w C) P w K mg base N qual (zAa st) f cdv A outer s H E) (zAZ st) t/\t { nx:=fun _ H'=>Q .non H',rt:=Q } (L2.start N vs) H):FnOk P w K mg base (CXF P w C) (k+1) f fd ps sp:=by
 obtain ⟨oc,od,kV,doc,pm,an,cdv,ct,osl,rfl,lk,hcd⟩:=F.ex
 exact fn_of lk hcd S len fun A outer s H vs Q E hr hsp=>hbody cdv A outer s H vs Q E hr hsp
structure GE (P:Program) (w:World) (K:PySem.W.Frag) (mg:Str->Option Value) (base:Heap) (C:Addr):Prop where
 ex:∃ (N fI:Addr) (fd:FuncData),TF K C N fI/\FnOk P w K mg base CX0 1 fI fd ["self","place"] (spFI C)/\zBG K fd ["self","place"] []
 mg_:mg "TextFault" = some (.ref C)
 kp:PySem.W.keepIn K (.ref C)=true
theorem zEH {NN:List Str} {qual:Str} {scope:Scope} {f C:Addr} {cd:Value} {A:Around} {outer:List Env} {s0:Shared} {H0:Hp} {E:XK} {np cpos pos:Pos} {e:Expr} {te:TA} (G:GE P w K mg base C)
  (hr:Room 2 (cxOf (CXF P w C) P w K mg base NN qual scope f cd A outer s0 H0 E).A)
  (he:PA (cxOf (CXF P w C) P w K mg base NN qual scope f cd A outer s0 H0 E) [e] te) (hg:Gl (cxOf (CXF P w C) P w K mg base NN qual scope f cd A outer s0 H0 E) "TextFault" := by rfl)
  (hst:starEach [e] (cxOf (CXF P w C) P w K mg base NN qual scope f cd A outer s0 H0 E).env=[(false,eval e (cxOf (CXF P w C) P w K mg base NN qual scope f cd A outer s0 H0 E).env)]:=by rfl):
  PS (cxOf (CXF P w C) P w K mg base NN qual scope f cd A outer s0 H0 E) (.Raise (some (.Call (.Name "TextFault" np) [e] [] cpos)) none pos) (zIE C E te):=by
 obtain ⟨N,fI,fd,h1,h2,h3⟩:=G.ex
 exact zNk h1 G.mg_ G.kp h2 h3 hr he hg hst
noncomputable def zEu (CD:Addr):Sp:=fun vs H Q _=>∃ (a:Addr) (xs:List Nat) (p:Nat),vs=[.ref a]/\zGC CD H a xs p/\Q (.bl (decide (p=xs.length))) H
theorem scAtEnd:zAc ["self"] ["self"] (zAa zKZ):=⟨rfl,rfl,rfl,by decide +kernel,rfl,by decide +kernel,by decide +kernel⟩
theorem zNC {f CD:Addr} {fd:FuncData} (F:Fun K "at_end" "Reader.at_end" zKZ f fd) (T:Cl K CD zBy) (hlen:mg "len" = none):FnOk P w K mg base CX0 1 f fd ["self"] (zEu CD):=by
 refine F.ok scAtEnd (fun vs H Q E h=>?_) (fun cdv A outer s H vs Q E hr h=>?_)
 ·obtain ⟨a,xs,p,rfl,_⟩:=h
  rfl
 ·obtain ⟨a,xs,p,rfl,hR,k⟩:=h
  obtain ⟨dx,g,ha,hg⟩:=hR.ex
  refine ⟨_,pO (pR (zDw zCD (pF (pv 0) rfl) (zAt zAj rfl hlen PySem.boot_len (pA (pF (pv 0) rfl) pN)) (zAe _))),?_⟩
  refine ⟨_,rfl,a,CD,dx,_,_,rfl,ha,T.cl,T.no _ (by simp),zAQ g p,_,rfl,a,CD,dx,_,_,rfl,ha,T.cl,T.no _ (by simp),zCi g p,g,_,rfl,.inl (SqL.of hg),rfl,?_⟩
  have e:decide (vi p=V.int ((vis xs).length:Nat))=decide (p=xs.length):=by
   rw [zAg]
   exact decide_eq_decide.mpr ⟨fun z=>zGG z,fun z=>by rw [z]; rfl⟩
  rw [e]
  exact k
noncomputable def zIH (CD:Addr):Sp:=fun vs H Q _=>∃ (a:Addr) (xs:List Nat) (p c:Nat),vs=[.ref a,vi c]/\zGC CD H a xs p/\p<=xs.length/\Q (.bl (decide (xs[p]? = some c))) H
theorem scIsAt:zAc ["self","byte"] ["self","byte"] (zAa sIsAt):=⟨rfl,rfl,rfl,by decide +kernel,rfl,by decide +kernel,by decide +kernel⟩
theorem ok_isAt {f CD:Addr} {fd:FuncData} (F:Fun K "is_at" "Reader.is_at" sIsAt f fd) (T:Cl K CD zBy) (G:GM P w K mg base CX0 1 CD "at_end" ["self"] (zEu CD)):FnOk P w K mg base CX0 2 f fd ["self","byte"] (zIH CD):=by
 refine F.ok scIsAt (fun vs H Q E h=>?_) (fun cdv A outer s H vs Q E hr h=>?_)
 ·obtain ⟨a,xs,p,c,rfl,_⟩:=h
  rfl
 ·obtain ⟨a,xs,p,c,rfl,hR,hp,k⟩:=h
  obtain ⟨dx,g,ha,hg⟩:=hR.ex
  refine ⟨_,pO (pR (zIW (pe_not (zDf T.cl G (pv 0) hr zAh)) (zIS (zDw zCD (zAF zAi (pF (pv 0) rfl) (pF (pv 0) rfl) (fun _ _=>rfl)) (pv 1) (zAe _))))),?_⟩
  refine ⟨_,rfl,a,dx,_,rfl,ha,zBP (by decide) (by decide),a,xs,p,rfl,hR,_,rfl,_,rfl,?_⟩
  by_cases hpe:p=xs.length
  ·rw [decide_eq_true hpe]
   refine iteF ?_
   rw [decide_eq_false (by rw [hpe,List.getElem?_eq_none (Nat.le_refl _)]; intro z; cases z)] at k
   exact k
  ·rw [decide_eq_false hpe]
   refine iteT ?_
   obtain ⟨b,hb⟩:∃ b,xs[p]? = some b:=⟨_,List.getElem?_eq_getElem (by omega)⟩
   refine ⟨_,rfl,a,CD,dx,_,_,rfl,ha,T.cl,T.no _ (by simp),zCi g p,_,rfl,a,CD,dx,_,_,rfl,ha,T.cl,T.no _ (by simp),zAQ g p,g,_,_,vi b,rfl,rfl,SqL.of hg,zBZ (zGF hb),_,rfl,rfl,?_⟩
   have e:decide (vi b=vi c)=decide (xs[p]? = some c):=by
    rw [hb]
    exact decide_eq_decide.mpr ⟨fun z=>by rw [zGG z],fun z=>by cases z; rfl⟩
   rw [e]
   exact k
noncomputable def zEp (CD:Addr):Sp:=fun vs H Q _=>∃ (a:Addr) (xs:List Nat) (p:Nat),vs=[.ref a]/\zGC CD H a xs p/\p<=xs.length/\Q (.bl ((xs[p]?).any RC.isDig)) H
theorem zKK:zAc ["self"] ["self"] (zAa zGb):=⟨rfl,rfl,rfl,by decide +kernel,rfl,by decide +kernel,by decide +kernel⟩
theorem zJC {f CD:Addr} {fd:FuncData} (F:Fun K "is_at_digit" "Reader.is_at_digit" zGb f fd) (T:Cl K CD zBy) (g0:GI mg "DIGIT_0" 48) (g9:GI mg "DIGIT_9" 57) (G:GM P w K mg base CX0 1 CD "at_end" ["self"] (zEu CD)):FnOk P w K mg base CX0 2 f fd ["self"] (zEp CD):=by
 refine F.ok zKK (fun vs H Q E h=>?_) (fun cdv A outer s H vs Q E hr h=>?_)
 ·obtain ⟨a,xs,p,rfl,_⟩:=h
  rfl
 ·obtain ⟨a,xs,p,rfl,hR,hp,k⟩:=h
  obtain ⟨dx,g,ha,hg⟩:=hR.ex
  refine ⟨_,pO (pR (zIW (pe_not (zDf T.cl G (pv 0) hr zAh)) (zIS (zIV zLt zLt (zAG g0) (zAF zAi (pF (pv 0) rfl) (pF (pv 0) rfl) (fun _ _=>rfl)) (zAG g9))))),?_⟩
  refine ⟨_,rfl,a,dx,_,rfl,ha,zBP (by decide) (by decide),a,xs,p,rfl,hR,_,rfl,_,rfl,?_⟩
  by_cases hpe:p=xs.length
  ·rw [decide_eq_true hpe]
   refine iteF ?_
   rw [hpe,List.getElem?_eq_none (Nat.le_refl _)] at k
   exact k
  ·rw [decide_eq_false hpe]
   refine iteT ?_
   obtain ⟨b,hb⟩:∃ b,xs[p]? = some b:=⟨_,List.getElem?_eq_getElem (by omega)⟩
   rw [hb] at k
   have k:Q (.bl (decide (48<=b)&&decide (b<=57))) H:=k
   refine ⟨_,rfl,a,CD,dx,_,_,rfl,ha,T.cl,T.no _ (by simp),zCi g p,_,rfl,a,CD,dx,_,_,rfl,ha,T.cl,T.no _ (by simp),zAQ g p,g,_,_,vi b,rfl,rfl,SqL.of hg,zBZ (zGF hb),_,_,rfl,rfl,_,rfl,?_⟩
   have e:decide ((48:Int)<=(b:Int))=decide (48<=b):=decide_eq_decide.mpr (by omega)
   rw [e]
   cases h1:decide (48<=b) with
   | false=>
    refine iteF ?_
    rw [h1] at k
    exact k
   | true=>
    refine iteT ?_
    rw [h1,Bool.true_and] at k
    refine ⟨_,_,rfl,rfl,?_⟩
    have e2:decide ((b:Int)<=(57:Int))=decide (b<=57):=decide_eq_decide.mpr (by omega)
    show Q (.bl (decide ((b:Int)<=(57:Int)))) H
    rw [e2]
    exact k
noncomputable def zGN (CD CF:Addr):Sp:=fun vs H Q E=>∃ (a:Addr) (xs:List Nat) (p c dx g:Nat),vs=[.ref a,vi c]/\H a=some (.ins CD dx (rdF g p))/\H g=some (.lst (vis xs))/\p<=xs.length/\
 (xs[p]? = some c->Q .non (upd H a (.ins CD dx (rdF g (p+1)))))/\(xs[p]? ≠ some c->Err CF a H E p)
theorem scTake:zAc ["self","byte"] ["self","byte"] (zAa sTake):=⟨rfl,rfl,rfl,by decide +kernel,rfl,by decide +kernel,by decide +kernel⟩
theorem ok_take {f CD CF:Addr} {fd:FuncData} (F:Fun K "take" "Reader.take" sTake f fd) (T:Cl K CD zBy) (GE_:GE P w K mg base CF) (G:GM P w K mg base CX0 2 CD "is_at" ["self","byte"] (zIH CD)):FnOk P w K mg base (CXF P w CF) 3 f fd ["self","byte"] (zGN CD CF):=by
 refine okF F scTake (fun vs H Q E h=>?_) (fun cdv A outer s H vs Q E hr h=>?_)
 ·obtain ⟨a,xs,p,c,dx,g,rfl,_⟩:=h
  rfl
 ·obtain ⟨a,xs,p,c,dx,g,rfl,ha,hg,hp,k1,k2⟩:=h
  refine ⟨_,pC (zAC (zDI (zEG (zAp T.cl G (pv 0) hr zAh (pA (pv 1) pN)))) (pO (zEH GE_ hr (pA (pF (pv 0) rfl) pN))) zAf) (pO (zEI (pv 0) zAb zMj)),?_⟩
  refine ⟨_,rfl,a,dx,_,rfl,ha,zBP (by decide) (by decide),_,rfl,a,xs,p,c,rfl,⟨dx,g,ha,hg⟩,hp,_,rfl,?_⟩
  by_cases hc:xs[p]? = some c
  ·rw [decide_eq_true hc]
   refine iteF ?_
   refine ⟨_,rfl,a,CD,dx,_,_,rfl,ha,T.cl,T.no _ (by simp),zAQ g p,_,_,rfl,rfl,dx,_,ha,(by show 2<1000; decide),?_⟩
   have e:putF "place" (V.int ((p:Int)+1)) (rdF g p)=rdF g (p+1):=zLg g p (p+1)
   rw [e]
   exact k1 hc
  ·rw [decide_eq_false hc]
   refine iteT ?_
   refine ⟨_,rfl,a,CD,dx,_,_,rfl,ha,T.cl,T.no _ (by simp),zAQ g p,_,rfl,fun dz hdz=>?_⟩
   exact k2 hc dz _ ((zAY.refl a H).new hdz) uS
end
end RB
end
section
namespace RB
open PySem PySem.Spec PyProof.Rows L2 RX
theorem zKk {f:Nat->Bool}:∀ {l:List Nat} {i:Nat},i<(l.takeWhile f).length->∃ c,l[i]? = some c/\f c=true/\(l.takeWhile f)[i]? = some c
 | [],i,h=>by simp at h
 | a::l,i,h=>by
  by_cases hf:f a=true
  ·rw [List.takeWhile_cons_of_pos hf] at h ⊢
   cases i with
   | zero=>exact ⟨a,rfl,hf,rfl⟩
   | succ i=>
    have h:i+1<(List.takeWhile f l).length+1:=h
    obtain ⟨c,h1,h2,h3⟩:=zKk (f:=f) (l:=l) (i:=i) (by omega)
    exact ⟨c,h1,h2,h3⟩
  ·rw [List.takeWhile_cons_of_neg hf] at h
   simp at h
theorem tw_end {f:Nat->Bool}:∀ {l:List Nat},(l[(l.takeWhile f).length]?).any f=false
 | []=>rfl
 | a::l=>by
  by_cases hf:f a=true
  ·rw [List.takeWhile_cons_of_pos hf,List.length_cons,List.getElem?_cons_succ]
   exact tw_end
  ·rw [List.takeWhile_cons_of_neg hf]
   show f a=false
   cases h:f a with
   | true=>exact absurd h hf
   | false=>rfl
section
variable {P:Program} {w:World} {K:PySem.W.Frag} {mg:Str->Option Value} {base:Heap}
noncomputable def zEa (CD CF:Addr):Sp:=fun vs H Q E=>∃ (a:Addr) (xs:List Nat) (lo hi p dx g:Nat),vs=[.ref a,vi lo,vi hi]/\H a=some (.ins CD dx (rdF g p))/\H g=some (.lst (vis xs))/\p<=xs.length/\hi<=1000/\
 match RC.numberM lo hi p (xs.drop p) with
 | .ok x=>Q (vi x.1) (upd H a (.ins CD dx (rdF g x.2.1)))
 | .error k=>Err CF a H E k
theorem zCt:zAc ["self","least","most","first","value","digits","needless"] ["self","least","most"] (zAa zHX):=⟨rfl,rfl,rfl,by decide +kernel,rfl,by decide +kernel,by decide +kernel⟩
theorem zLz {f CD CF:Addr} {fd:FuncData} (F:Fun K "take_number" "Reader.take_number" zHX f fd) (T:Cl K CD zBy) (GE_:GE P w K mg base CF) (g0:GI mg "DIGIT_0" 48) (G:GM P w K mg base CX0 2 CD "is_at_digit" ["self"] (zEp CD)):FnOk P w K mg base (CXF P w CF) 3 f fd ["self","least","most"] (zEa CD CF):=by
 refine okF F zCt (fun vs H Q E h=>?_) (fun cdv A outer s H vs Q E hr h=>?_)
 ·obtain ⟨a,xs,lo,hi,p,dx,g,rfl,_⟩:=h
  rfl
 ·obtain ⟨a,xs,lo,hi,p,dx,g,rfl,ha,hg,hp,hhi,k⟩:=h
  refine ⟨_,pC (pS (i:=3) zCt.nd rfl (Or.inl rfl) (pF (pv 0) rfl))
   (pC (pS (i:=4) zCt.nd rfl (Or.inl rfl) zAb)
   (pC (zDe PassesOwn.leaving (zEG (zDf T.cl G (pv 0) hr zAh))
    (pC (zAC (cR zLt (pv 4) (pv 2) (zAe _)) (pO (pS (i:=4) zCt.nd rfl (Or.inl rfl) (zAs zBx (zAs zBc (zAs zFm (pv 4) zAb) (zAF zAi (pF (pv 0) rfl) (pF (pv 0) rfl) (fun _ _=>rfl))) (zAG g0)))) zAf)
    (pO (zEI (pv 0) zAb zMj))))
   (pC (pS (i:=5) zCt.nd rfl (Or.inl rfl) (zAs zBx (pF (pv 0) rfl) (pv 3)))
   (pC (pS (i:=6) zCt.nd rfl (Or.inl rfl) (zIW (zDw zEL (pv 5) zAb (zAe _)) (zIS (zDw zCD (zAF zAi (pF (pv 0) rfl) (pv 3) (fun _ _=>rfl)) (zAG g0) (zAe _)))))
   (pC (zAC (PW.pt (zEE (cR zCD (pv 5) zAb (zAe _)) (zEE (zEG (pv 6)) (zEE (cR zCC (pv 4) (pv 1) (zAe _)) (zED (cR zEL (pv 4) (pv 2) (zAe _))))))) (pO (zEH GE_ hr (pA (pv 3) pN))) zAf)
   (pO (pR (pv 4)))))))),?_⟩
  refine ⟨_,rfl,a,CD,dx,_,_,rfl,ha,T.cl,T.no _ (by simp),zAQ g p,?_⟩
  rw [RC.numberM_cap] at k
  simp only at k
  generalize hd:(xs.drop p).takeWhile RC.isDig=d at k
  have nag:g≠a:=(zCc ha hg (by intro z; cases z)).symm
  have hdl:p+d.length<=xs.length:=by
   have:d.length<=(xs.drop p).length:=by rw [<- hd]; exact List.Sublist.length_le (List.takeWhile_sublist _)
   rw [List.length_drop] at this
   omega
  refine ⟨fun m σ H'=>∃ i:Nat,m=d.length-i/\i<=d.length/\σ=[some (.ref a),some (vi lo),some (vi hi),some (vi p),some (vi ((d.take i).foldl (RC.cap hi) 0)),none,none]/\H'=upd H a (.ins CD dx (rdF g (p+i))),⟨_,0,rfl,Nat.zero_le _,rfl,(zKh ha).symm⟩,?_⟩
  rintro m σ H' ⟨i,rfl,hi',rfl,rfl⟩
  have ha':(upd H a (.ins CD dx (rdF g (p+i)))) a=some (.ins CD dx (rdF g (p+i))):=uS
  have hg':(upd H a (.ins CD dx (rdF g (p+i)))) g=some (.lst (vis xs)):=by rw [uN nag]; exact hg
  refine ⟨_,rfl,a,dx,_,rfl,ha',zBP (by decide) (by decide),a,xs,p+i,rfl,⟨dx,g,ha',hg'⟩,by omega,_,rfl,?_⟩
  by_cases hlt:i<d.length
  ·obtain ⟨c,c1,c2,c3⟩:=zKk (f:=RC.isDig) (l:=xs.drop p) (i:=i) (by rw [hd]; exact hlt)
   rw [hd] at c3
   rw [List.getElem?_drop] at c1
   have hc48:48<=c:=by
    unfold RC.isDig at c2
    rw [Bool.and_eq_true,decide_eq_true_eq] at c2
    exact c2.1
   have e:((xs[p+i]?).any RC.isDig)=true:=by rw [c1]; exact c2
   rw [e]
   refine iteT ⟨fun σ' H'=>σ'=[some (.ref a),some (vi lo),some (vi hi),some (vi p),some (vi ((d.take (i+1)).foldl (RC.cap hi) 0)),none,none]/\H'=upd H a (.ins CD dx (rdF g (p+(i+1)))),fun σ' H' z=>⟨d.length-(i+1),by omega,i+1,rfl,hlt,z.1,z.2⟩,?_⟩
   rw [zAl c3,List.foldl_append,List.foldl_cons,List.foldl_nil]
   generalize (d.take i).foldl (RC.cap hi) 0=v
   refine ⟨_,rfl,_,rfl,_,_,rfl,rfl,_,rfl,?_⟩
   rw [zCA]
   have e2:putF "place" (V.int (((p+i:Nat):Int)+1)) (rdF g (p+i))=rdF g (p+(i+1)):=zLg g (p+i) (p+(i+1))
   by_cases hv:v<=hi
   ·rw [decide_eq_true hv]
    refine iteT ?_
    refine ⟨_,rfl,_,_,rfl,rfl,.inl ⟨by omega,by omega⟩,_,rfl,a,CD,dx,_,_,rfl,ha',T.cl,T.no _ (by simp),zCi _ _,_,rfl,a,CD,dx,_,_,rfl,ha',T.cl,T.no _ (by simp),zAQ _ _,g,_,_,vi c,rfl,rfl,SqL.of hg',zBZ (zGF c1),_,_,rfl,rfl,_,_,rfl,rfl,?_⟩
    refine ⟨_,rfl,a,CD,dx,_,_,rfl,ha',T.cl,T.no _ (by simp),zAQ _ _,_,_,rfl,rfl,dx,_,ha',(by show 2<1000; decide),?_,?_⟩
    ·have e3:V.int ((v:Int)*10+(c:Int)-48)=vi (RC.cap hi v c):=by
      unfold RC.cap vi
      rw [if_pos hv]
      congr 1
      omega
     show [some (V.ref a),some (vi lo),some (vi hi),some (vi p),some (V.int ((v:Int)*10+(c:Int)-48)),none,none]=_
     rw [e3]
    ·rw [e2,zAx]
   ·rw [decide_eq_false hv]
    refine iteF ?_
    refine ⟨_,rfl,a,CD,dx,_,_,rfl,ha',T.cl,T.no _ (by simp),zAQ _ _,_,_,rfl,rfl,dx,_,ha',(by show 2<1000; decide),?_,?_⟩
    ·have e3:RC.cap hi v c=v:=by
      unfold RC.cap
      rw [if_neg hv]
     rw [e3]
    ·rw [e2,zAx]
  ·have hid:i=d.length:=by omega
   subst hid
   have e:((xs[p+d.length]?).any RC.isDig)=false:=by
    have:=tw_end (f:=RC.isDig) (l:=xs.drop p)
    rw [hd,List.getElem?_drop] at this
    exact this
   rw [e]
   refine iteF ?_
   rw [List.take_length]
   generalize hv:d.foldl (RC.cap hi) 0=v at k ⊢
   refine ⟨_,rfl,a,CD,dx,_,_,rfl,ha',T.cl,T.no _ (by simp),zAQ _ _,_,rfl,_,_,rfl,rfl,?_⟩
   have ed:V.int (((p+d.length:Nat):Int)-(p:Int))=vi d.length:=by
    unfold vi
    congr 1
    omega
   show zER 5 (V.int (((p+d.length:Nat):Int)-(p:Int))) _ _ _
   rw [ed]
   have rest:∀ nd:Bool,(nd=true↔(1<d.length/\d.head? = some 48))->tSeq (tIfS (tOr (zHH (tOp rEq (tVar 5) (tC (.int 0)))) (tOr (tB (tVar 6)) (tOr (zHH (tOp (rI0 fun i j=>.bl (decide (i<j))) (tVar 4) (tVar 1))) (zHH (tOp (rI0 fun i j=>.bl (decide (j<i))) (tVar 4) (tVar 2))))))
     (zIE CF E (zBv (tVar 3) tNil)) zMQ) (tRet (tVar 4)) { nx:=fun _ H'=>Q .non H',rt:=Q }
     [some (.ref a),some (vi lo),some (vi hi),some (vi p),some (vi v),some (vi d.length),some (.bl nd)] (upd H a (.ins CD dx (rdF g (p+d.length)))):=by
    intro nd hnd
    have bad:(d.length=0\/(1<d.length/\d.head? = some 48)\/v<lo\/hi<v)->∀ D:Ends,zIE CF E (zBv (tVar 3) tNil) D [some (.ref a),some (vi lo),some (vi hi),some (vi p),some (vi v),some (vi d.length),some (.bl nd)] (upd H a (.ins CD dx (rdF g (p+d.length)))):=fun hb D=>by
     rw [if_pos hb] at k
     refine ⟨_,rfl,_,rfl,fun dz hdz=>?_⟩
     exact k dz _ (((zAY.refl a H).put).new hdz) uS
    refine ⟨_,rfl,rfl,_,rfl,?_⟩
    have e1:decide (vi d.length=V.int 0)=decide (d.length=0):=decide_eq_decide.mpr ⟨fun z=>zGG (b:=0) z,fun z=>by rw [z]; rfl⟩
    rw [e1]
    by_cases h1:d.length=0
    ·rw [decide_eq_true h1]
     exact iteT (iteT (bad (.inl h1) _))
    ·rw [decide_eq_false h1]
     refine iteF ⟨_,rfl,_,rfl,?_⟩
     cases nd with
     | true=>exact iteT (iteT (bad (.inr (.inl (hnd.mp rfl))) _))
     | false=>
      refine iteF ⟨_,rfl,_,rfl,_,_,rfl,rfl,_,rfl,?_⟩
      rw [zBl]
      have h2:¬ (1<d.length/\d.head? = some 48):=fun z=>absurd (hnd.mpr z) (by decide)
      by_cases h3:v<lo
      ·rw [decide_eq_true h3]
       exact iteT (iteT (bad (.inr (.inr (.inl h3))) _))
      ·rw [decide_eq_false h3]
       refine iteF ⟨_,rfl,_,rfl,_,_,rfl,rfl,_,rfl,?_⟩
       rw [zBl]
       by_cases h4:hi<v
       ·rw [decide_eq_true h4]
        exact iteT (bad (.inr (.inr (.inr h4))) _)
       ·rw [decide_eq_false h4]
        refine iteF ⟨_,rfl,?_⟩
        rw [if_neg (by simp only [not_or]; exact ⟨h1,h2,h3,h4⟩)] at k
        exact k
   refine ⟨_,rfl,_,_,rfl,rfl,_,rfl,?_⟩
   have e1:decide ((1:Int)<(d.length:Int))=decide (1<d.length):=decide_eq_decide.mpr (by omega)
   rw [e1]
   by_cases h1:1<d.length
   ·rw [decide_eq_true h1]
    refine iteT ?_
    obtain ⟨c,c1,c2,c3⟩:=zKk (f:=RC.isDig) (l:=xs.drop p) (i:=0) (by rw [hd]; omega)
    rw [hd] at c3
    rw [List.getElem?_drop,Nat.add_zero] at c1
    refine ⟨_,rfl,a,CD,dx,_,_,rfl,ha',T.cl,T.no _ (by simp),zCi _ _,_,rfl,g,_,_,vi c,rfl,rfl,SqL.of hg',zBZ (zGF c1),rfl,?_⟩
    refine rest _ ⟨fun z=>⟨h1,?_⟩,fun z=>?_⟩
    ·have:vi c=vi 48:=of_decide_eq_true z
     rw [<- zGG this,List.head?_eq_getElem?]
     exact c3
    ·have h5:=z.2
     rw [List.head?_eq_getElem?,c3] at h5
     cases h5
     rfl
   ·rw [decide_eq_false h1]
    exact iteF (rest false ⟨(fun z=>by cases z),fun z=>absurd z.1 h1⟩)
end
end RB
end
section
namespace RB
open PySem PySem.Spec PyProof.Rows L2 RX
noncomputable def runM (wd left p:Nat) (g:List Nat):Except Nat (RC.Run×Nat×List Nat):=match RC.numberM 1 left p g with
 | .error k=>.error k
 | .ok n=>match RC.tracksM wd (wd+1) 0 n.2.1 n.2.2 with
  | .error k=>.error k
  | .ok x=>.ok ((n.1,x.1),x.2)
noncomputable def pre (ts:List Nat) (r:Except Nat (List Nat×Nat×List Nat)):Except Nat (List Nat×Nat×List Nat):=match r with
 | .error k=>.error k
 | .ok y=>.ok (ts++y.1,y.2)
theorem Err.keep {CF a:Addr} {H H2:Hp} {E:XK} {k:Nat} (h:Err CF a H E k) (s:zAY a H H2):Err CF a H2 E k:=fun dx H' k1 e=>h dx H' (s.trans k1) e
structure RunNew (CR:Addr) (H H':Hp) (c:Addr) (r:RC.Run):Prop where
 ex:∃ dz l,H' c=some (.ins CR dz (runF r.1 l))/\H' l=some (.lst (vis r.2))/\H l=none
section
variable {P:Program} {w:World} {K:PySem.W.Frag} {mg:Str->Option Value} {base:Heap}
noncomputable def spRun (CD CF CR:Addr):Sp:=fun vs H Q E=>∃ (a:Addr) (xs:List Nat) (left wd p dx g:Nat),vs=[.ref a,vi left,vi wd]/\H a=some (.ins CD dx (rdF g p))/\H g=some (.lst (vis xs))/\p<=xs.length/\left<=256/\1<=wd/\wd<=128/\
 match runM wd left p (xs.drop p) with
 | .ok y=>∀ c H',zAY a H H'->H' a=some (.ins CD dx (rdF g y.2.1))->H c=none->RunNew CR H H' c y.1->Q (.ref c) H'
 | .error k=>Err CF a H E k
theorem zJz:zAc ["reader","rows_left","width","rows","tracks","least","track"] ["reader","rows_left","width"] (zAa sRun):=⟨rfl,rfl,rfl,by decide +kernel,rfl,by decide +kernel,by decide +kernel⟩
theorem ok_run {f CD CF CR:Addr} {fd:FuncData} (F:Fun K "take_run" "take_run" sRun f fd) (T:Cl K CD zBy) (gB:GI mg "BLANK" 32) (G1:GM P w K mg base CX0 2 CD "is_at" ["self","byte"] (zIH CD)) (G2:GM P w K mg base (CXF P w CF) 3 CD "take" ["self","byte"] (zGN CD CF))
  (G3:GM P w K mg base (CXF P w CF) 3 CD "take_number" ["self","least","most"] (zEa CD CF)) (G4:GC P w K mg base 1 "Run" CR ["self","rows","tracks"] (spI2 CR "rows" "tracks")):FnOk P w K mg base (CXF P w CF) 4 f fd ["reader","rows_left","width"] (spRun CD CF CR):=by
 refine okF F zJz (fun vs H Q E h=>?_) (fun cdv A outer s H vs Q E hr h=>?_)
 ·obtain ⟨a,xs,left,wd,p,dx,g,rfl,_⟩:=h
  rfl
 ·obtain ⟨a,xs,left,wd,p,dx,g,rfl,ha,hg,hp,hleft,hwd1,hwd2,k⟩:=h
  have hr2:=hr.mono (show 2<=3 by decide)
  refine ⟨_,pC (pS (i:=3) zJz.nd rfl (Or.inl rfl) (zAp T.cl G3 (pv 0) hr zHi (pA zAb (pA (pv 1) pN))))
   (pC (pS (i:=4) zJz.nd rfl (Or.inl rfl) (zAd pN))
   (pC (pS (i:=5) zJz.nd rfl (Or.inl rfl) zAb)
   (pC (zDe PassesOwn.leaving (zEG (zAp T.cl G1 (pv 0) hr2 zAh (pA (zAG gB) pN)))
    (pC (zAA (zAp T.cl G2 (pv 0) hr zHi (pA (zAG gB) pN)))
    (pC (pS (i:=6) zJz.nd rfl (Or.inl rfl) (zAp T.cl G3 (pv 0) hr zHi (pA (pv 5) (pA (zAs zBx (pv 2) zAb) pN))))
    (pC (zAA (zCj PySem.F.plainAttrs_list PySem.F.slot_list_append PySem.F.type_list_append zAM (pv 4) (pA (pv 6) pN)))
    (pO (pS (i:=5) zJz.nd rfl (Or.inl rfl) (zAs zBc (pv 6) zAb)))))))
   (pO (pR (zBJ G4 hr2 (pA (pv 3) (pA (pv 4) pN)))))))),?_⟩
  refine ⟨_,rfl,a,dx,_,rfl,ha,zBP (by decide) (by decide),_,rfl,a,xs,1,left,p,dx,g,rfl,ha,hg,hp,by omega,?_⟩
  unfold runM at k
  have nag:g≠a:=(zCc ha hg (by intro z; cases z)).symm
  cases e1:RC.numberM 1 left p (xs.drop p) with
  | error kk=>
   rw [e1] at k
   exact k
  | ok n=>
   rw [e1] at k
   simp only at k ⊢
   obtain ⟨n1,n2,nn,n3,n4,n5,n6⟩:=RC.numberM_ok e1
   have hp1:n.2.1<=xs.length:=by rw [List.length_drop] at n4; omega
   have hdr:n.2.2=xs.drop n.2.1:=by rw [n6,List.drop_drop,n5]
   have ka:zAY a H (upd H a (.ins CD dx (rdF g n.2.1))):=(zAY.refl a H).put
   refine ⟨Nat.zero_le _,fun q hq=>?_⟩
   have hqa:q≠a:=fun z=>by rw [z,uS] at hq; cases hq
   have hqH:H q=none:=by rw [uN hqa] at hq; exact hq
   have kb:=ka.new (o:=.lst []) hq
   refine ⟨fun m σ H'=>∃ (t:Option V) (f least p':Nat) (ts:List Nat),m=f/\σ=[some (.ref a),some (vi left),some (vi wd),some (vi n.1),some (.ref q),some (vi least),t]/\zAY a H H'/\H' a=some (.ins CD dx (rdF g p'))/\H' q=some (.lst (vis ts))/\p'<=xs.length/\least<=wd/\wd+1<=f+least/\ts.length<=least/\
    RC.tracksM wd (wd+1) 0 n.2.1 n.2.2=pre ts (RC.tracksM wd f least p' (xs.drop p')),⟨_,none,wd+1,0,n.2.1,[],rfl,rfl,kb,by rw [uN hqa.symm,uS],uS,hp1,by omega,by omega,by simp,?_⟩,?_⟩
   ·rw [hdr]
    cases RC.tracksM wd (wd+1) 0 n.2.1 (xs.drop n.2.1) <;> rfl
   ·rintro m σ H' ⟨t,f,least,p',ts,rfl,rfl,k1,h1,h2,hp',hls,hf,htl,hM⟩
    obtain ⟨f,rfl⟩:∃ f',m=f'+1:=⟨m-1,by omega⟩
    have hgq:g≠q:=nN hg hqH
    have hg':H' g=some (.lst (vis xs)):=k1 _ _ nag hg
    refine ⟨_,rfl,a,dx,_,rfl,h1,zBP (by decide) (by decide),a,xs,p',32,rfl,⟨dx,g,h1,hg'⟩,hp',_,rfl,?_⟩
    by_cases hat:xs[p']? = some 32
    ·rw [decide_eq_true hat]
     have hlt:=zAk hat
     rw [zAT hat,RC.tracksM_blank] at hM
     refine iteT ⟨fun σ' H''=>∃ (t:Option V) (least p':Nat) (ts:List Nat),σ'=[some (.ref a),some (vi left),some (vi wd),some (vi n.1),some (.ref q),some (vi least),t]/\zAY a H H''/\H'' a=some (.ins CD dx (rdF g p'))/\H'' q=some (.lst (vis ts))/\p'<=xs.length/\least<=wd/\wd+1<=f+least/\ts.length<=least/\
      RC.tracksM wd (wd+1) 0 n.2.1 n.2.2=pre ts (RC.tracksM wd f least p' (xs.drop p')),fun σ' H'' z=>⟨f,by omega,?_⟩,?_⟩
     ·obtain ⟨t,least,p',ts,z⟩:=z
      exact ⟨t,f,least,p',ts,rfl,z⟩
     ·refine ⟨_,rfl,a,dx,_,rfl,h1,zBP (by decide) (by decide),a,xs,p',32,dx,g,rfl,h1,hg',hp',fun _=>?_,fun z=>absurd hat z⟩
      have k2:=k1.put (o:=.ins CD dx (rdF g (p'+1)))
      have h2':(upd H' a (.ins CD dx (rdF g (p'+1)))) q=some (.lst (vis ts)):=by rw [uN hqa]; exact h2
      have hg2:(upd H' a (.ins CD dx (rdF g (p'+1)))) g=some (.lst (vis xs)):=by rw [uN nag]; exact hg'
      refine ⟨_,rfl,a,dx,_,rfl,uS,zBP (by decide) (by decide),_,rfl,_,rfl,_,_,rfl,rfl,a,xs,least,wd-1,p'+1,dx,g,?_,uS,hg2,hlt,by omega,?_⟩
      ·have ee:V.int ((wd:Int)-1)=vi (wd-1):=by
        unfold vi
        congr 1
        omega
       show [V.ref a,vi least,V.int ((wd:Int)-1)]=_
       rw [ee]
      ·cases e2:RC.numberM least (wd-1) (p'+1) (xs.drop (p'+1)) with
       | error kk=>
        rw [e2] at hM
        rw [hM] at k
        exact Err.keep k k2
       | ok n'=>
        rw [e2] at hM
        simp only at hM ⊢
        obtain ⟨m1,m2,mm,m3,m4,m5,m6⟩:=RC.numberM_ok e2
        have hp2:n'.2.1<=xs.length:=by rw [List.length_drop] at m4; omega
        have hdr2:n'.2.2=xs.drop n'.2.1:=by rw [m6,List.drop_drop,m5]
        rw [zAx]
        have h3:(upd H' a (.ins CD dx (rdF g n'.2.1))) q=some (.lst (vis ts)):=by rw [uN hqa]; exact h2
        refine ⟨_,rfl,.inl ⟨rfl,_,SqL.of h3⟩,_,rfl,q,_,_,rfl,rfl,h3,by rw [zAg]; exact zAq (by omega),?_⟩
        refine ⟨_,rfl,_,_,rfl,rfl,_,n'.1+1,n'.2.1,ts++[n'.1],rfl,?_,?_,?_,hp2,by omega,by omega,by rw [List.length_append,List.length_singleton]; omega,?_⟩
        ·have k3:=k1.put (o:=.ins CD dx (rdF g n'.2.1))
         intro b o nb e
         have hbq:b≠q:=nN e hqH
         rw [uN hbq]
         exact k3 b o nb e
        ·rw [uN hqa.symm,uS]
        ·rw [uS,zAU]
         rfl
        ·rw [hM,hdr2]
         cases RC.tracksM wd f (n'.1+1) n'.2.1 (xs.drop n'.2.1) with
         | error _=>rfl
         | ok y=>
          show Except.ok (ts++(n'.1::y.1),y.2)=Except.ok ((ts++[n'.1])++y.1,y.2)
          rw [List.append_assoc]
          rfl
    ·rw [decide_eq_false hat]
     have hM2:RC.tracksM wd (wd+1) 0 n.2.1 n.2.2 = .ok (ts,p',xs.drop p'):=by
      rw [hM]
      have:RC.tracksM wd (f+1) least p' (xs.drop p') = .ok ([],p',xs.drop p'):=by
       cases hx:xs.drop p' with
       | nil=>rfl
       | cons c r=>
        refine RC.tracksM_other fun z=>hat ?_
        have:=congrArg (fun l=>l[0]?) hx
        simp only [List.getElem?_drop,Nat.add_zero,List.getElem?_cons_zero] at this
        rw [this,z]
      rw [this]
      show Except.ok (ts++[],p',xs.drop p')=_
      rw [List.append_nil]
     rw [hM2] at k
     refine iteF ⟨_,rfl,_,rfl,fun x dz hx hdz hne=>⟨x,dz,_,_,rfl,uS,rfl,?_⟩⟩
     have hax:a≠x:=nN h1 hx
     have hadz:a≠dz:=nN h1 hdz
     have hxH:H x=none:=by
      cases z:H x with
      | none=>rfl
      | some o=>
       have:=k1 x o hax.symm z
       rw [hx] at this
       cases this
     rw [zAx]
     refine k x _ ((k1.new hdz).new (by rw [uN hne.symm]; exact hx)) (by rw [uN hax,uN hadz]; exact h1) hxH ⟨dz,q,by rw [uS]; rfl,?_,hqH⟩
     rw [uN (nN h2 hx),uN (nN h2 hdz)]
     exact h2
end
end RB
end
section
namespace RB
open PySem PySem.Spec PyProof.Rows L2 RX
theorem for_str {x:Str} {g:TG} {tb:TS} {D:Ends} {σ:L2.St} {H:Hp} (Pv:Nat->L2.St->Hp->Prop) (h0:Pv 0 σ H)
  (hs:∀ i c σ H,x.cps[i]? = some c->Pv i σ H->g (.str ⟨#[c]⟩) σ H fun σ2 H2=>tb { D with nx:=Pv (i+1),ct:=Pv (i+1),bk:=D.nx } σ2 H2) (hd:∀ σ H,Pv x.cps.size σ H->D.nx σ H):
  ∃ W:Nat->Nat->L2.St->Hp->Prop,(∃ m,W 0 m σ H)/\∀ i m σ H,W i m σ H->
   ((Its x).stop i H/\D.nx σ H)\/((Its x).go i H/\∃ N:L2.St->Hp->Prop,(∀ σ' H',N σ' H'->∃ m',m'<m/\W (i+1) m' σ' H')/\∀ v H',(Its x).yld i H v H'->g v σ H' fun σ2 H2=>tb { D with nx:=N,ct:=N,bk:=D.nx } σ2 H2):=by
 refine ⟨fun i m σ H=>m=x.cps.size-i/\i<=x.cps.size/\Pv i σ H,⟨_,rfl,Nat.zero_le _,h0⟩,?_⟩
 rintro i m σ H ⟨rfl,hi,p⟩
 by_cases hlt:i<x.cps.size
 ·refine .inr ⟨hlt,Pv (i+1),fun σ' H' p'=>⟨x.cps.size-(i+1),by omega,rfl,hlt,p'⟩,fun v H' y=>?_⟩
  obtain ⟨e,c,hc,rfl⟩:=y
  subst e
  exact hs i c _ _ hc p
 ·have e:i=x.cps.size:=by omega
  subst e
  exact .inl ⟨Nat.le_refl _,hd σ H p⟩
theorem zLR (w had:Nat) (last:Option (List Nat)) (p:Nat) (g:List Nat):RC.lineM w had last p g=match runM w (256-had) p g with
  | .error k=>.error k
  | .ok y=>if last=some y.1.2 then .error y.2.1 else RC.onLine y.2.2 y.2.1 fun r=>.ok (y.1,y.2.1+1,r):=by
 unfold RC.lineM runM
 cases RC.numberM 1 (256-had) p g with
 | error k=>rfl
 | ok n=>
  simp only
  cases RC.tracksM w (w+1) 0 n.2.1 n.2.2 with
  | error k=>rfl
  | ok x=>rfl
theorem runM_ok {w left p:Nat} {g:List Nat} {y:RC.Run×Nat×List Nat} (h:runM w left p g = .ok y):1<=y.1.1/\y.1.1<=left/\∃ n,1<=n/\n<=g.length/\y.2.1=p+n/\y.2.2=g.drop n:=by
 unfold runM at h
 cases e1:RC.numberM 1 left p g with
 | error k=>rw [e1] at h; cases h
 | ok n=>
  rw [e1] at h
  simp only at h
  cases e2:RC.tracksM w (w+1) 0 n.2.1 n.2.2 with
  | error k=>rw [e2] at h; cases h
  | ok x=>
   rw [e2] at h
   cases h
   obtain ⟨a1,a2,m,a3,a4,a5,a6⟩:=RC.numberM_ok e1
   obtain ⟨_,_,m',b1,b2,b3,_⟩:=RC.tracksM_ok _ _ _ _ _ e2
   rw [a6,List.length_drop] at b1
   refine ⟨a1,a2,m+m',by omega,by omega,?_,?_⟩
   ·show x.2.1=_
    omega
   ·show x.2.2=_
    rw [b3,a6,List.drop_drop]
noncomputable def preL (ts:List RC.Run) (r:Except Nat (List RC.Run)):Except Nat (List RC.Run):=match r with
 | .error k=>.error k
 | .ok y=>.ok (ts++y)
structure zCq (CR a:Addr) (H0 H:Hp) (q:Addr) (cs:List Addr) (rs:List RC.Run):Prop where
 lst:H q=some (.lst (cs.map V.ref))
 len:cs.length=rs.length
 out:∀ c∈cs,c≠a/\H0 c=none
 at_:∀ (i:Nat) (c:Addr) (r:RC.Run),cs[i]? = some c->rs[i]? = some r->∃ dz l,H c=some (.ins CR dz (runF r.1 l))/\H l=some (.lst (vis r.2))/\l≠q/\l≠a/\H0 l=none
theorem zCq.keep {CR a:Addr} {H0 H H':Hp} {q:Addr} {cs:List Addr} {rs:List RC.Run} (h:zCq CR a H0 H q cs rs) (k:zAY a H H') (hq:q≠a):zCq CR a H0 H' q cs rs:=
 ⟨k _ _ hq h.lst,h.len,h.out,fun i c r h1 h2=>let ⟨dz,l,e1,e2,e3,e4,e5⟩:=h.at_ i c r h1 h2; ⟨dz,l,k _ _ (h.out c (List.mem_of_getElem? h1)).1 e1,k _ _ e4 e2,e3,e4,e5⟩⟩
theorem zCq.runs {CR a:Addr} {H0 H:Hp} {q:Addr} {cs:List Addr} {rs:List RC.Run} (h:zCq CR a H0 H q cs rs) (hq:H0 q=none):zHE CR (newH H0 H) q rs:=
 ⟨cs,zBq hq h.lst,h.len,fun i c r h1 h2=>let ⟨dz,l,e1,e2,_,_,e5⟩:=h.at_ i c r h1 h2; ⟨dz,l,zBq (h.out c (List.mem_of_getElem? h1)).2 e1,zBq e5 e2⟩⟩
section
variable {P:Program} {w:World} {K:PySem.W.Frag} {mg:Str->Option Value} {base:Heap}
noncomputable def zHL (CF CS CR:Addr):Sp:=fun vs H Q E=>∃ (g:Addr) (xs:List Nat),vs=[.ref g]/\H g=some (.lst (vis xs))/\
 match RC.readM xs with
 | .ok x=>∀ a H',Same H H'->H a=none->zBo CS CR (newH H H') a x->Q (.ref a) H'
 | .error k=>∀ dx H',Same H H'->H' dx=some (.xd [("place",vi k)])->E (.ref CF) (some dx) H'
theorem zDH:zAc ["given","reader","sign","width","runs","rows_left","run"] ["given"] (zAa sRead):=⟨rfl,rfl,rfl,by decide +kernel,rfl,by decide +kernel,by decide +kernel⟩
theorem zNu {f CD CF CS CR:Addr} {fd:FuncData} (F:Fun K "read_strip" "read_strip" sRead f fd) (T:Cl K CD zBy) (TR:Cl K CR zEB) (GE_:GE P w K mg base CF) (hord:mg "ord" = none) (gH:GS mg "HEAD" (sOf RC.headCodes)) (gT:GI mg "MOST_TRACKS" 128) (gL:GI mg "LINE_END" 10) (gR:GI mg "MOST_ROWS" 256)
    (G0:GC P w K mg base 1 "Reader" CD ["self","given"] (spRI CD)) (G1:GM P w K mg base CX0 1 CD "at_end" ["self"] (zEu CD)) (G2:GM P w K mg base (CXF P w CF) 3 CD "take" ["self","byte"] (zGN CD CF))
    (G3:GM P w K mg base (CXF P w CF) 3 CD "take_number" ["self","least","most"] (zEa CD CF)) (G4:GF P w K mg base (CXF P w CF) 4 "take_run" ["reader","rows_left","width"] (spRun CD CF CR)) (G5:GC P w K mg base 1 "Strip" CS ["self","width","runs"] (spI2 CS "width" "runs")):
    FnOk P w K mg base (CXF P w CF) 5 f fd ["given"] (zHL CF CS CR):=by
  refine okF F zDH (fun vs H Q E h=>?_) (fun cdv A outer s H vs Q E hr h=>?_)
  · obtain ⟨g,xs,rfl,_⟩:=h
    rfl
  · obtain ⟨g,xs,rfl,hg,k⟩:=h
    have hr1:=hr.mono (show 1<=4 by decide)
    have hr2:=hr.mono (show 2<=4 by decide)
    have hr3:=hr.mono (show 3<=4 by decide)
    refine ⟨_,pC (pS (i:=1) zDH.nd rfl (Or.inl rfl) (zBJ G0 hr2 (pA (pv 0) pN)))
      (pC (zBb PassesOwn.leaving rfl (pi_str (pe_gs gH)) (zAn (i:=2) zDH.nd rfl (Or.inl rfl)) (pO (zAA (zAp T.cl G2 (pv 1) hr3 zHi (pA (zAt zJq rfl hord (by decide +kernel) (pA (pv 2) pN)) pN)))))
      (pC (pS (i:=3) zDH.nd rfl (Or.inl rfl) (zAp T.cl G3 (pv 1) hr3 zHi (pA zAb (pA (zAG gT) pN))))
      (pC (zAA (zAp T.cl G2 (pv 1) hr3 zHi (pA (zAG gL) pN)))
      (pC (pS (i:=4) zDH.nd rfl (Or.inl rfl) (zAd pN))
      (pC (pS (i:=5) zDH.nd rfl (Or.inl rfl) (zAG gR))
      (pC (zDe PassesOwn.leaving (zDI (zEG (zDf T.cl G1 (pv 1) hr1 zAh)))
        (pC (pS (i:=6) zDH.nd rfl (Or.inl rfl) (cG G4 hr zHi (pA (pv 1) (pA (pv 5) (pA (pv 3) pN)))))
        (pC (zAC (PW.pt (zEF (zCv (pv 4) (fun _=>rfl)) (zCN (cR (op_eqD hr.units) (pF (zAF zAi (pv 4) (pe_un un_neg zAb) (fun _ _=>rfl)) rfl) (pF (pv 6) rfl) (zAe _))))) (pO (zEH GE_ hr2 (pA (pF (pv 1) rfl) pN))) zAf)
        (pC (zAA (zAp T.cl G2 (pv 1) hr3 zHi (pA (zAG gL) pN)))
        (pC (zAA (zCj PySem.F.plainAttrs_list PySem.F.slot_list_append PySem.F.type_list_append zAM (pv 4) (pA (pv 6) pN)))
        (pO (zFk (i:=5) zDH.nd rfl (Or.inl rfl) (pF (pv 6) rfl) ip_sub)))))))
      (pO (pR (zBJ G5 hr2 (pA (pv 3) (pA (pv 4) pN))))))))))),?_⟩
    refine ⟨_,rfl,fun a dx ha hdx hne=>⟨a,dx,_,rfl,uS,rfl,?_⟩⟩
    rw [zAx]
    have nga:g≠a:=nN hg ha
    have ngd:g≠dx:=nN hg hdx
    generalize hH1:upd (upd H dx (.own a)) a (.ins CD dx (rec2 "given" "place" (.ref g) (vi 0)))=H1
    have h1a:H1 a=some (.ins CD dx (rdF g 0)):=by rw [<- hH1,uS]; rfl
    have h1g:H1 g=some (.lst (vis xs)):=by rw [<- hH1,uN nga,uN ngd]; exact hg
    have s1:Same H H1:=by rw [<- hH1]; exact Same.own (Same.own (Same.refl H) hdx) ha
    have toS:∀ H',zAY a H1 H'->Same H H':=fun H' kk b o e=>kk b o (nN e ha) (s1 _ _ e)
    have toE:∀ kk,RC.readM xs = .error kk->∀ H',zAY a H1 H'->Err CF a H' E kk:=fun kk e H' k1 dz H'' k2 e2=>by
      rw [e] at k
      exact k dz H'' (toS _ (k1.trans k2)) e2
    refine ⟨_,rfl,for_str (fun i σ H'=>∃ u,σ=[some (.ref g),some (.ref a),u,none,none,none,none]/\zAY a H1 H'/\H' a=some (.ins CD dx (rdF g i))/\i<=xs.length/\RC.headM RC.headCodes 0 xs=RC.headM (RC.headCodes.drop i) i (xs.drop i)) ⟨none,rfl,zAY.refl _ _,h1a,Nat.zero_le _,rfl⟩ ?_ ?_⟩
    · rintro i c σ H' hc ⟨u,rfl,k1,h2a,hi,hM⟩
      have hc2:RC.headCodes[i]? = some c:=by
        unfold sOf at hc
        rw [List.getElem?_toArray] at hc
        exact hc
      have h2g:=k1 _ _ nga h1g
      rw [zAT hc2] at hM
      refine ⟨_,rfl,a,dx,_,rfl,h2a,zBP (by decide) (by decide),_,rfl,_,rfl,rfl,a,xs,i,c,dx,g,rfl,h2a,h2g,hi,fun hx=>?_,fun hx=>?_⟩
      · refine ⟨_,rfl,k1.put,uS,zAk hx,?_⟩
        rw [hM,zAT hx,RC.headM]
        simp only
        rw [if_pos trivial]
      · refine toE i ?_ H' k1
        unfold RC.readM
        have:RC.headM (c::RC.headCodes.drop (i+1)) i (xs.drop i) = .error i:=by
          rw [RC.headM.eq_def]
          simp only
          cases hd:xs.drop i with
          | nil=>rfl
          | cons x r=>
            simp only
            rw [if_neg]
            intro z
            refine hx ?_
            have:=congrArg (fun l=>l[0]?) hd
            simp only [List.getElem?_drop,Nat.add_zero,List.getElem?_cons_zero] at this
            rw [this,z]
        rw [hM,this]
    · rintro σ H' ⟨u,rfl,k1,h2a,hi,hM⟩
      have hsz:(sOf RC.headCodes).cps.size=6:=rfl
      rw [hsz] at h2a hi hM
      have hM:RC.headM RC.headCodes 0 xs = .ok (6,xs.drop 6):=hM
      have h2g:=k1 _ _ nga h1g
      refine ⟨_,rfl,a,dx,_,rfl,h2a,zBP (by decide) (by decide),a,xs,1,128,6,dx,g,rfl,h2a,h2g,hi,by omega,?_⟩
      have hread:RC.readM xs=match RC.numberM 1 128 6 (xs.drop 6) with
          | .error k=>.error k
          | .ok w=>RC.onLine w.2.2 w.2.1 fun r=>match RC.linesM w.1 (r.length+1) 0 none (w.2.1+1) r with
            | .error k=>.error k
            | .ok l=>.ok ⟨w.1,l⟩:=by
        unfold RC.readM
        rw [hM]
        try rfl
      cases e1:RC.numberM 1 128 6 (xs.drop 6) with
      | error kk=>
        rw [e1] at hread
        exact toE kk hread H' k1
      | ok wv=>
        rw [e1] at hread
        simp only at hread ⊢
        obtain ⟨w1,w2,nn,n3,n4,n5,n6⟩:=RC.numberM_ok e1
        have hp1:wv.2.1<=xs.length:=by rw [List.length_drop] at n4; omega
        have hdr:wv.2.2=xs.drop wv.2.1:=by rw [n6,List.drop_drop,n5]
        have k2:=k1.put (o:=.ins CD dx (rdF g wv.2.1))
        have h3g:=k2 _ _ nga h1g
        refine ⟨_,rfl,a,dx,_,rfl,uS,zBP (by decide) (by decide),a,xs,wv.2.1,10,dx,g,rfl,uS,h3g,hp1,fun hx=>?_,fun hx=>?_⟩
        · rw [hdr,zAT hx] at hread
          have hp2:=zAk hx
          have hread:RC.readM xs=match RC.linesM wv.1 ((xs.drop (wv.2.1+1)).length+1) 0 none (wv.2.1+1) (xs.drop (wv.2.1+1)) with
            | .error k=>.error k
            | .ok l=>.ok ⟨wv.1,l⟩:=hread
          generalize hLM:RC.linesM wv.1 ((xs.drop (wv.2.1+1)).length+1) 0 none (wv.2.1+1) (xs.drop (wv.2.1+1))=LM at hread
          rw [zAx]
          have k3:=k1.put (o:=.ins CD dx (rdF g (wv.2.1+1)))
          refine ⟨Nat.zero_le _,fun q hq=>?_⟩
          have hqa:q≠a:=fun z=>by rw [z,uS] at hq; cases hq
          have hq1:H1 q=none:=by
            cases z:H1 q with
            | none=>rfl
            | some o=>
              have:=k3 q o hqa z
              rw [hq] at this
              cases this
          have k4:=k3.new (o:=.lst []) hq
          refine ⟨fun m σ H'=>∃ (t u:Option V) (f had p':Nat) (cs:List Addr) (rs:List RC.Run),m=f/\σ=[some (.ref g),some (.ref a),u,some (vi wv.1),some (.ref q),some (vi (256-had)),t]/\zAY a H1 H'/\H' a=some (.ins CD dx (rdF g p'))/\zCq CR a H H' q cs rs/\p'<=xs.length/\had<=256/\rs.length<=had/\xs.length-p'<f/\
            LM=preL rs (RC.linesM wv.1 f had (rs.getLast?.map (·.2)) p' (xs.drop p')),
            ⟨_,none,u,(xs.drop (wv.2.1+1)).length+1,0,wv.2.1+1,[],[],rfl,rfl,k4,by rw [uN hqa.symm,uS],⟨uS,rfl,by simp,fun i c r z=>by simp at z⟩,hp2,by omega,by simp,by rw [List.length_drop]; omega,?_⟩,?_⟩
          · show LM=preL [] (RC.linesM wv.1 _ 0 none _ _)
            rw [hLM]
            cases LM <;> rfl
          · rintro m σ H' ⟨t,u,f,had,p',cs,rs,rfl,rfl,k5,h5a,R5,hp',hhad,hrl,hf,hL⟩
            obtain ⟨f,rfl⟩:∃ f',m=f'+1:=⟨m-1,by omega⟩
            have h5g:=k5 _ _ nga h1g
            refine ⟨_,rfl,a,dx,_,rfl,h5a,zBP (by decide) (by decide),a,xs,p',rfl,⟨dx,g,h5a,h5g⟩,_,rfl,?_⟩
            by_cases hend:p'=xs.length
            · rw [decide_eq_true hend]
              refine iteF ?_
              have hL2:LM = .ok rs:=by
                rw [hL,hend,List.drop_length,RC.linesM]
                rw [if_pos rfl]
                show Except.ok (rs++[])=_
                rw [List.append_nil]
              rw [hL2] at hread
              rw [hread] at k
              refine ⟨_,rfl,_,rfl,fun x dz hx hdz hne2=>⟨x,dz,_,_,rfl,uS,rfl,?_⟩⟩
              have hax:a≠x:=nN h5a hx
              rw [zAx]
              have s5:=toS _ k5
              have s6:Same H' (upd (upd H' dz (.own x)) x (.ins CS dz (rec2 "width" "runs" (vi wv.1) (.ref q)))):=Same.own (Same.own (Same.refl H') hdz) hx
              exact k x _ (s5.trans s6) (s5.free hx) ⟨dz,q,zBq (s5.free hx) (by rw [uS]; rfl),(R5.runs (s1.free hq1)).same (zCx fun c o z e=>⟨z,s6 _ _ e⟩)⟩
            · rw [decide_eq_false hend]
              have hne0:xs.drop p'≠[]:=fun z=>by
                rw [List.drop_eq_nil_iff] at z
                omega
              rw [RC.linesM,if_neg hne0,zLR] at hL
              refine iteT ⟨fun σ' H''=>∃ (t u:Option V) (had p':Nat) (cs:List Addr) (rs:List RC.Run),σ'=[some (.ref g),some (.ref a),u,some (vi wv.1),some (.ref q),some (vi (256-had)),t]/\zAY a H1 H''/\H'' a=some (.ins CD dx (rdF g p'))/\zCq CR a H H'' q cs rs/\p'<=xs.length/\had<=256/\rs.length<=had/\xs.length-p'<f/\
                LM=preL rs (RC.linesM wv.1 f had (rs.getLast?.map (·.2)) p' (xs.drop p')),fun σ' H'' z=>⟨f,by omega,?_⟩,?_⟩
              · obtain ⟨t,u,had,p',cs,rs,z⟩:=z
                exact ⟨t,u,f,had,p',cs,rs,rfl,z⟩
              · have bad:∀ kk,LM = .error kk->RC.readM xs = .error kk:=fun kk e=>by
                  rw [e] at hread
                  exact hread
                refine ⟨_,rfl,_,rfl,_,rfl,a,xs,256-had,wv.1,p',dx,g,rfl,h5a,h5g,hp',by omega,w1,w2,?_⟩
                cases e2:runM wv.1 (256-had) p' (xs.drop p') with
                | error kk=>
                  rw [e2] at hL
                  exact toE kk (bad kk hL) H' k5
                | ok y=>
                  rw [e2] at hL
                  simp only at hL ⊢
                  obtain ⟨y1,y2,ny,y3,y4,y5,y6⟩:=runM_ok e2
                  have hpy:y.2.1<=xs.length:=by rw [List.length_drop] at y4; omega
                  have hdy:y.2.2=xs.drop y.2.1:=by rw [y6,List.drop_drop,y5]
                  intro c H3 k6 h6a hcn hnew
                  have R6:=R5.keep k6 hqa
                  have k56:=k5.trans k6
                  obtain ⟨dz,l,c1,c2,c3⟩:=hnew.ex
                  have h6g:=k56 _ _ nga h1g
                  refine ⟨_,rfl,!cs.isEmpty,.inl ⟨_,SqL.of R6.lst,by rw [zBE]⟩,?_⟩
                  have nlq:l≠q:=(nN R5.lst c3).symm
                  have nla:l≠a:=(nN h5a c3).symm
                  have nca:c≠a:=(nN h5a hcn).symm
                  have ncq:c≠q:=(nN R5.lst hcn).symm
                  refine (fun (rest:rs.getLast?.map (·.2)≠some y.1.2->?N)=>?main) ?np
                  case N=>
                    exact tSeq (zHI (zKp CD "take" (zGN CD CF) [] E (tVar 1) (zBv (tC (.int 10)) tNil))) (tSeq (zHI (tBM K "list" zDt (tVar 4) (zBv (tVar 6) tNil))) (tAug 5 (tFld K (tVar 6) "rows") (ipI fun i j=>i-j)))
                      { nx:=fun σ' H''=>∃ (t u:Option V) (had p':Nat) (cs:List Addr) (rs:List RC.Run),σ'=[some (.ref g),some (.ref a),u,some (vi wv.1),some (.ref q),some (vi (256-had)),t]/\zAY a H1 H''/\H'' a=some (.ins CD dx (rdF g p'))/\zCq CR a H H'' q cs rs/\p'<=xs.length/\had<=256/\rs.length<=had/\xs.length-p'<f/\
                        LM=preL rs (RC.linesM wv.1 f had (rs.getLast?.map (·.2)) p' (xs.drop p')),rt:=Q }
                      [some (.ref g),some (.ref a),u,some (vi wv.1),some (.ref q),some (vi (256-had)),some (.ref c)] H3
                  case main=>
                    cases hcl:cs.getLast? with
                    | none=>
                      have ecs:cs=[]:=List.getLast?_eq_none_iff.mp hcl
                      have ers:rs=[]:=List.length_eq_zero_iff.mp (by rw [<- R5.len,ecs]; rfl)
                      rw [ecs]
                      refine iteF (iteF (rest ?_))
                      rw [ers]
                      simp
                    | some c0=>
                      have hci:cs[cs.length-1]? = some c0:=by rw [<- List.getLast?_eq_getElem?]; exact hcl
                      have hcpos:0<cs.length:=by have:=zAk hci; omega
                      obtain ⟨r,hri⟩:∃ r,rs[cs.length-1]? = some r:=⟨_,List.getElem?_eq_getElem (by rw [<- R5.len]; omega)⟩
                      have hrl2:rs.getLast? = some r:=by rw [List.getLast?_eq_getElem?,<- R5.len]; exact hri
                      have hne2:cs.isEmpty=false:=by cases cs with | nil=>simp at hcpos | cons _ _=>rfl
                      rw [hne2]
                      obtain ⟨d0,l0,e01,e02,e03,e04,_⟩:=R6.at_ _ c0 r hci hri
                      have hlast:atI (cs.map V.ref) (-1)=some (.ref c0):=by
                        obtain ⟨ys,hys⟩:=List.getLast?_eq_some_iff.mp hcl
                        rw [hys,List.map_append]
                        exact zOa _ _
                      refine iteT ⟨_,rfl,_,rfl,q,_,_,.ref c0,rfl,rfl,SqL.of R6.lst,hlast,c0,CR,d0,_,_,rfl,e01,TR.cl,TR.no _ (by simp),zAz _ _,_,rfl,c,CR,dz,_,_,rfl,c1,TR.cl,TR.no _ (by simp),zAz _ _,_,_,zGs e02,zGs c2,zBT _,zBT _,_,rfl,?_⟩
                      rw [zJm]
                      by_cases heq:r.2=y.1.2
                      · rw [decide_eq_true heq]
                        rw [hrl2,Option.map_some,if_pos (by rw [heq])] at hL
                        refine iteT ⟨_,rfl,a,CD,dx,_,_,rfl,h6a,T.cl,T.no _ (by simp),zAQ _ _,_,rfl,fun dv hdv=>?_⟩
                        exact toE y.2.1 (bad _ hL) H3 k56 dv _ ((zAY.refl a H3).new hdv) uS
                      · rw [decide_eq_false heq]
                        refine iteF (rest ?_)
                        rw [hrl2]
                        intro z
                        exact heq (Option.some.inj z)
                  case np=>
                    intro hlast
                    rw [if_neg hlast] at hL
                    refine ⟨_,rfl,a,dx,_,rfl,h6a,zBP (by decide) (by decide),a,xs,y.2.1,10,dx,g,rfl,h6a,h6g,hpy,fun hx2=>?_,fun hx2=>?_⟩
                    · rw [hdy,zAT hx2] at hL
                      have k7:=k56.put (o:=.ins CD dx (rdF g (y.2.1+1)))
                      have k67:zAY a H3 (upd H3 a (.ins CD dx (rdF g (y.2.1+1)))):=(zAY.refl a H3).put
                      have R7:=R6.keep k67 hqa
                      have c1':=k67 _ _ nca c1
                      have c2':=k67 _ _ nla c2
                      refine ⟨_,rfl,.inl ⟨rfl,_,SqL.of R7.lst⟩,_,rfl,q,_,_,rfl,rfl,R7.lst,by rw [List.length_map,R7.len]; exact zAq (by omega),?_⟩
                      have hcq:(upd (upd H3 a (.ins CD dx (rdF g (y.2.1+1)))) q (.lst (cs.map V.ref++[.ref c]))) c=some (.ins CR dz (runF y.1.1 l)):=by rw [uN ncq]; exact c1'
                      refine ⟨_,rfl,_,rfl,c,CR,dz,_,_,rfl,hcq,TR.cl,TR.no _ (by simp),zAX _ _,_,_,rfl,rfl,?_⟩
                      refine ⟨some (.ref c),u,had+y.1.1,y.2.1+1,cs++[c],rs++[y.1],?_,?_,?_,⟨?_,?_,?_,?_⟩,zAk hx2,by omega,by rw [List.length_append,List.length_singleton]; omega,by omega,?_⟩
                      · have e8:V.int (((256-had:Nat):Int)-(y.1.1:Int))=vi (256-(had+y.1.1)):=by
                          unfold vi
                          congr 1
                          omega
                        show [some (V.ref g),some (V.ref a),u,some (vi wv.1),some (V.ref q),some (V.int (((256-had:Nat):Int)-(y.1.1:Int))),some (V.ref c)]=_
                        rw [e8]
                      · intro b o nb e
                        rw [uN (nN e hq1)]
                        exact k7 b o nb e
                      · rw [uN hqa.symm,uS]
                      · rw [uS,List.map_append]
                        rfl
                      · rw [List.length_append,List.length_append,R7.len]
                        rfl
                      · intro c' hc'
                        rcases List.mem_append.mp hc' with z | z
                        · exact R7.out c' z
                        · have:c'=c:=by simpa using z
                          rw [this]
                          exact ⟨nca,(toS _ k5).free hcn⟩
                      · intro j c' r' z1 z2
                        rcases zAm z1 with ⟨g1,g2⟩ | ⟨g1,g2⟩
                        · rcases zAm z2 with ⟨g3,g4⟩ | ⟨g3,g4⟩
                          · obtain ⟨d',l',e1',e2',e3',e4',e5'⟩:=R7.at_ j c' r' g1 g3
                            exact ⟨d',l',by rw [uN (zCc e1' R7.lst (by intro z; cases z))]; exact e1',by rw [uN e3']; exact e2',e3',e4',e5'⟩
                          · have:=R7.len
                            omega
                        · rcases zAm z2 with ⟨g3,g4⟩ | ⟨g3,g4⟩
                          · have:=R7.len
                            omega
                          · subst g2
                            subst g4
                            exact ⟨dz,l,hcq,by rw [uN nlq]; exact c2',nlq,nla,(toS _ k5).free c3⟩
                      · rw [hL,List.getLast?_concat]
                        show preL rs (match RC.linesM wv.1 f (had+y.1.1) (some y.1.2) (y.2.1+1) (xs.drop (y.2.1+1)) with | .error k=>.error k | .ok l=>.ok (y.1::l))=_
                        rw [Option.map_some]
                        cases RC.linesM wv.1 f (had+y.1.1) (some y.1.2) (y.2.1+1) (xs.drop (y.2.1+1)) with
                        | error _=>rfl
                        | ok l=>
                          show Except.ok (rs++(y.1::l))=Except.ok ((rs++[y.1])++l)
                          rw [List.append_assoc]
                          rfl
                    · refine toE y.2.1 (bad _ ?_) H3 k56
                      rw [hL,hdy,RC.onLine_other]
                      · rfl
                      · rw [List.head?_drop]
                        exact hx2
        · refine toE wv.2.1 ?_ _ k2
          rw [hread,hdr,RC.onLine_other]
          rw [List.head?_drop]
          exact hx
end
end RB
end
section
namespace RB
open PySem PySem.Spec PyProof.Rows L2 RX
theorem zLT {lo c:Int} {n:Nat} {g:TG} {tt:TT} {te:TE} {vs:List Nat} {σ:L2.St} {H1:Hp} {D:Addr} {Qd:Hp->Prop} (Pv:Nat->Hp->Prop) (h0:Pv 0 (upd H1 D (.lst [])))
  (hs:∀ i H,i<n->Pv i H->g (.int (lo+(i:Nat)*c)) (wipe σ vs) H fun σ2 H2=>wipe σ2 vs=wipe σ vs/\tt σ2 H2 fun b H3=>
   if b=true then te σ2 H3 fun y H4=>∃ acc,H4 D=some (.lst acc)/\acc.length<sizeLine/\Pv (i+1) (upd H4 D (.lst (acc++[y]))) else Pv (i+1) H3) (hd:∀ H,Pv n H->Qd H):
  ∃ W:Nat->Nat->Hp->Prop,(∃ m,W 0 m (upd H1 D (.lst [])))/\∀ i m H,W i m H->
   ((Itc lo c n).stop i H/\Qd H)\/((Itc lo c n).go i H/\∃ Nx:Hp->Prop,(∀ H',Nx H'->∃ m',m'<m/\W (i+1) m' H')/\∀ v H',(Itc lo c n).yld i H v H'->g v (wipe σ vs) H' fun σ2 H2=>wipe σ2 vs=wipe σ vs/\tt σ2 H2 fun b H3=>
    if b=true then te σ2 H3 fun y H4=>∃ acc,H4 D=some (.lst acc)/\acc.length<sizeLine/\Nx (upd H4 D (.lst (acc++[y]))) else Nx H3):=by
 refine ⟨fun i m H=>m=n-i/\i<=n/\Pv i H,⟨_,rfl,Nat.zero_le _,h0⟩,?_⟩
 rintro i m H ⟨rfl,hi,p⟩
 by_cases hlt:i<n
 ·refine .inr ⟨hlt,Pv (i+1),fun H' p'=>⟨n-(i+1),by omega,rfl,hlt,p'⟩,fun v H' y=>?_⟩
  obtain ⟨e,y⟩:=y
  subst e y
  exact hs i _ hlt p
 ·have e:i=n:=by omega
  subst e
  exact .inl ⟨Nat.le_refl _,hd H p⟩
theorem rgc3 {n:Nat} (h:n<=100000):RgC 0 ((3*n:Nat):Int) 3 n:=by
 have e:Builtin.Range.rangeSize 0 ((3*n:Nat):Int) 3=n:=by
  unfold Builtin.Range.rangeSize
  rw [if_pos (by decide)]
  split <;> omega
 refine ⟨by decide,by decide,?_,e⟩
 have fit:∀ i:Int,0<=i->i<=1000000->Builtin.Range.rangeFitsLong i=true:=fun i h0 h1=>by
  unfold Builtin.Range.rangeFitsLong
  rw [decide_eq_true (by omega),decide_eq_true (by omega)]
  rfl
 unfold Builtin.Range.small
 rw [e,fit 0 (by decide) (by decide),fit _ (by omega) (by omega),fit 3 (by decide) (by decide),fit (n:Int) (by omega) (by omega),if_pos (by decide),fit _ (by omega) (by omega),Bool.or_true]
 rfl
theorem zHs:∀ {l:List RC.T3} {i:Nat} {x:RC.T3},l[i]? = some x->(RC.flat3 l)[3*i]? = some x.1/\(RC.flat3 l)[3*i+1]? = some x.2.1/\(RC.flat3 l)[3*i+2]? = some x.2.2
 | [],i,x,h=>by simp at h
 | a::l,0,x,h=>by
  have e:a=x:=Option.some.inj h
  subst e
  exact ⟨rfl,rfl,rfl⟩
 | a::l,i+1,x,h=>by
  obtain ⟨h1,h2,h3⟩:=zHs (l:=l) (i:=i) (x:=x) h
  have e:∀ j,(RC.flat3 (a::l))[j+3]? = (RC.flat3 l)[j]? := fun j=>rfl
  refine ⟨?_,?_,?_⟩
  ·rw [show 3*(i+1)=3*i+3 by omega,e,h1]
  ·rw [show 3*(i+1)+1=(3*i+1)+3 by omega,e,h2]
  ·rw [show 3*(i+1)+2=(3*i+2)+3 by omega,e,h3]
section
variable {P:Program} {w:World} {K:PySem.W.Frag} {mg:Str->Option Value} {base:Heap}
noncomputable def zIF:Sp:=fun vs H Q _=>∃ (t:Addr) (z:RC.W3),vs=[.ref t]/\H t=some (.tup (w3v z))/\∀ q,H q=none->Q (.ref q) (upd H q (.lst (vis (RC.wrong3 z))))
theorem scTold:zAc ["wrong"] ["wrong"] (zAa sTold):=⟨rfl,rfl,rfl,by decide +kernel,rfl,by decide +kernel,by decide +kernel⟩
theorem ok_told {f:Addr} {fd:FuncData} (F:Fun K "told_wrong" "told_wrong" sTold f fd):FnOk P w K mg base CX0 1 f fd ["wrong"] zIF:=by
 refine F.ok scTold (fun vs H Q E h=>?_) (fun cdv A outer s H vs Q E hr h=>?_)
 ·obtain ⟨t,z,rfl,_⟩:=h
  rfl
 ·obtain ⟨t,z,rfl,ht,k⟩:=h
  refine ⟨_,pO (pR (zAd (pA (zAF zEQ (pv 0) zAb (fun _ _=>rfl)) (pA (zAF zEQ (pv 0) zAb (fun _ _=>rfl)) (pA (zAF zEQ (pv 0) zAb (fun _ _=>rfl)) pN))))),?_⟩
  exact ⟨_,rfl,t,_,_,vi z.2.2,rfl,rfl,SqT.of ht,rfl,_,rfl,t,_,_,vi z.1,rfl,rfl,SqT.of ht,rfl,_,rfl,t,_,_,vi z.2.1,rfl,rfl,SqT.of ht,rfl,(by show 3<=sizeLine; decide),fun q hq=>k q hq⟩
noncomputable def zKy (CT:Addr):Sp:=fun vs H Q _=>∃ (a:Addr) (l:List RC.T3),vs=[.ref a]/\H a=some (.lst (vis (RC.flat3 l)))/\l.length<=100000/\∀ q H',Same H H'->H q=none->zCp CT H' q l->Q (.ref q) H'
theorem zKL:zAc ["numbers","k"] ["numbers"] (zAa zMZ):=⟨rfl,rfl,rfl,by decide +kernel,rfl,by decide +kernel,by decide +kernel⟩
theorem ok_from {f CT:Addr} {fd:FuncData} (F:Fun K "tones_from" "tones_from" zMZ f fd) (hrange:mg "range" = none) (hlen:mg "len" = none) (G1:GC P w K mg base 1 "Tone" CT ["self","track","first","end"] (spI3 CT "track" "first" "end")):
  FnOk P w K mg base CX0 3 f fd ["numbers"] (zKy CT):=by
 refine F.ok zKL (fun vs H Q E h=>?_) (fun cdv A outer s H vs Q E hr h=>?_)
 ·obtain ⟨a,l,rfl,_⟩:=h
  rfl
 ·obtain ⟨a,l,rfl,ha,hl,k⟩:=h
  refine ⟨_,pO (pR (zLq (own:=[("k",1)]) rfl zKL.nd (zLl rfl hrange (pA zAb (pA (zAt zAj rfl hlen PySem.boot_len (pA (pv 0) pN)) (pA zAb pN)))) (zCB (by show blkC ["numbers","k"] (zAa zMZ) _ _=true; decide +kernel)) (fun _ _ _ _ _=>zAn (i:=1) zKL.nd rfl (Or.inl rfl)) (fun _ _ _ _ _=>zDu)
   (fun _ _ _ _ _=>zBJ (X:=Cx.blk _ _ _ _ _ _) G1 hr (pA (zAF (r:=rIxL K) zAi (pv 0) (pv 1) (fun _ _=>rfl)) (pA (zAF (r:=rIxL K) zAi (pv 0) (zAs zBc (pv 1) zAb) (fun _ _=>rfl)) (pA (zAF (r:=rIxL K) zAi (pv 0) (zAs zBc (pv 1) zAb) (fun _ _=>rfl)) pN)))))),?_⟩
  have hfl:=RC.flat3_length l
  refine ⟨_,rfl,a,_,rfl,.inl (SqL.of ha),0,_,3,l.length,rfl,?_,fun D hD=>?_⟩
  ·rw [zAg,hfl]
   exact rgc3 hl
  ·refine zLT (fun i H'=>Same H H'/\∃ as:List Addr,H' D=some (.lst (as.map V.ref))/\as.length=i/\(∀ c∈as,c≠D)/\∀ (j:Nat) (c:Addr) (x:RC.T3),as[j]? = some c->l[j]? = some x->zCI CT H' c x) ⟨Same.new (Same.refl H) hD,[],uS,rfl,by simp,fun j c x z=>by simp at z⟩ ?_ ?_
   ·rintro i H' hi ⟨s1,as,h1,h2,h3,h4⟩
    obtain ⟨x,hx⟩:∃ x,l[i]? = some x:=⟨_,List.getElem?_eq_getElem hi⟩
    obtain ⟨x1,x2,x3⟩:=zHs hx
    have ha':=s1 _ _ ha
    have at_:∀ (d:Nat) (n:Nat),(RC.flat3 l)[3*i+d]? = some n->∀ z:Int,z=(0:Int)+(i:Nat)*3+d->atI (vis (RC.flat3 l)) z=some (vi n):=fun d n e z hz=>by
     have:z=((3*i+d:Nat):Int):=by omega
     rw [this]
     exact zBZ (zGF e)
    refine ⟨rfl,_,rfl,_,rfl,a,_,_,vi x.1,rfl,rfl,SqL.of ha',at_ 0 _ x1 _ (by simp),_,rfl,_,rfl,_,_,rfl,rfl,a,_,_,vi x.2.1,rfl,rfl,SqL.of ha',at_ 1 _ x2 _ (by simp),_,rfl,_,rfl,_,_,rfl,rfl,a,_,_,vi x.2.2,rfl,rfl,SqL.of ha',at_ 2 _ x3 _ (by simp),fun z dz hz hdz hne=>⟨z,dz,_,_,_,rfl,uS,rfl,?_⟩⟩
    rw [zAx]
    have nzD:D≠z:=nN h1 hz
    have ndD:D≠dz:=nN h1 hdz
    have s2:Same H' (upd (upd H' dz (.own z)) z (.ins CT dz (rec3 "track" "first" "end" (vi x.1) (vi x.2.1) (vi x.2.2)))):=Same.own (Same.own (Same.refl H') hdz) hz
    refine ⟨_,s2 _ _ h1,by rw [List.length_map,sizeLine_eq]; omega,Same.own (s1.trans s2) hD,as++[z],?_,?_,?_,?_⟩
    ·rw [uS,List.map_append]
     rfl
    ·rw [List.length_append,h2]
     rfl
    ·intro c hc
     rcases List.mem_append.mp hc with q | q
     ·exact h3 c q
     ·have:c=z:=by simpa using q
      rw [this]
      exact nzD.symm
    ·intro j c y z1 z2
     rcases zAm z1 with ⟨g1,g2⟩ | ⟨g1,g2⟩
     ·obtain ⟨d,e⟩:=(h4 j c y g1 z2).ex
      exact ⟨d,by rw [uN (h3 c (List.mem_of_getElem? g1))]; exact s2 _ _ e⟩
     ·rw [g1,h2,hx] at z2
      cases z2
      subst g2
      exact ⟨dz,by rw [uN nzD.symm,uS]; rfl⟩
   ·rintro H' ⟨s1,as,h1,h2,h3,h4⟩
    exact k D H' s1 hD ⟨as,h1,h2,h4⟩
end
end RB
end
section
namespace RB
open PySem PySem.Spec PyProof.Rows L2 RX
noncomputable def benF (l:Addr) (pv:V):List (Str×V):=rec2 "strips" "paper" (.ref l) pv
theorem zAJ (l:Addr) (pv:V):(benF l pv).lookup ("strips" : Str)=some (.ref l):=zHc (by decide)
theorem zAN (l:Addr) (pv:V):(benF l pv).lookup ("paper" : Str)=some pv:=zHb
theorem zBn {m:Str} {l:Addr} {pv:V} (h1:m≠ "strips") (h2:m≠ "paper"):(benF l pv).lookup m=none:=zLe h1 h2
def PapV (CP:Addr) (H:Hp) (v:V) (o:Option Rol.Paper):Prop:=match o with
 | none=>v = .non
 | some p=>∃ a,v = .ref a/\zFc CP H a p
theorem PapV.same {CP:Addr} {H H':Hp} {v:V} {o:Option Rol.Paper} (h:PapV CP H v o) (s:Same H H'):PapV CP H' v o:=by
 cases o with
 | none=>exact h
 | some p=>exact let ⟨a,e,t⟩:=h; ⟨a,e,t.same s⟩
noncomputable abbrev outH (X:Addr->Prop) (b l:Addr) (H:Hp):Hp:=onH (fun c=>c≠b/\c≠l/\¬ X c) H
structure Cs where
 CB:Addr
 CS:Addr
 CR:Addr
 CP:Addr
structure zAu (C:Cs) (X:Addr->Prop) (H:Hp) (b l:Addr) (s:RC.St):Prop where
 ex:∃ (dx:Addr) (cs:List Addr) (pv:V),H b=some (.ins C.CB dx (benF l pv))/\H l=some (.lst (cs.map V.ref))/\cs.length=s.strips.length/\(∀ (i:Nat) (c:Addr) (x:RC.Strip),cs[i]? = some c->s.strips[i]? = some x->zBo C.CS C.CR (outH X b l H) c x)/\PapV C.CP (outH X b l H) pv s.paper/\∀ c,X c->H c≠none
def zBi (b l:Addr) (H H':Hp):Prop:=∀ c o,c≠b->c≠l->H c=some o->H' c=some o
theorem zBi.of {b l:Addr} {H H':Hp} (h:Same H H'):zBi b l H H':=fun c o _ _ e=>h c o e
theorem zBi.trans {b l:Addr} {H H1 H2:Hp} (h:zBi b l H H1) (h':zBi b l H1 H2):zBi b l H H2:=fun c o n1 n2 e=>h' c o n1 n2 (h c o n1 n2 e)
theorem zBi.out {X:Addr->Prop} {b l:Addr} {H H':Hp} (h:zBi b l H H'):Same (outH X b l H) (outH X b l H'):=zCx fun c o z e=>⟨z,h c o z.1 z.2.1 e⟩
theorem zBi.there {X:Addr->Prop} {b l:Addr} {H H':Hp} (h:zBi b l H H') (hb:H' b≠none) (hl:H' l≠none) (hX:∀ c,X c->H c≠none):∀ c,X c->H' c≠none:=fun c hc=>by
 by_cases z1:c=b
 ·rw [z1]; exact hb
 ·by_cases z2:c=l
  ·rw [z2]; exact hl
  ·cases e:H c with
   | none=>exact absurd e (hX c hc)
   | some o=>rw [h c o z1 z2 e]; simp
theorem zAu.same {C:Cs} {X:Addr->Prop} {H H':Hp} {b l:Addr} {s:RC.St} (h:zAu C X H b l s) (e:Same H H'):zAu C X H' b l s:=
 let ⟨dx,cs,pv,h1,h2,h3,h4,h5,hX⟩:=h.ex
 ⟨dx,cs,pv,e _ _ h1,e _ _ h2,h3,fun i c x z1 z2=>(h4 i c x z1 z2).same (zBi.of e).out,h5.same (zBi.of e).out,(zBi.of e).there (by rw [e _ _ h1]; simp) (by rw [e _ _ h2]; simp) hX⟩
theorem zCW (l:List Nat):vis l=(RC.inz l).map V.int:=by
 unfold RC.inz vis
 rw [List.map_map]
 rfl
theorem zIp {n:Nat} (h:n<=1000000):n+3<=sizeLine:=by rw [sizeLine_eq]; omega
theorem rd0 {n:Int} {H:Hp} {Q:VK} (k:∀ q H',Same H H'->H q=none->H' q=some (.lst ((RC.row n [] []).map V.int))->Q (.ref q) H'):
  ([]:List V).length<=sizeLine/\∀ a1,H a1=none->(([]:List V).length<=sizeLine/\∀ a2,(upd H a1 (.lst [])) a2=none->zCs [.int n,.ref a1,.ref a2] (upd (upd H a1 (.lst [])) a2 (.lst [])) Q E0):=by
 refine ⟨Nat.zero_le _,fun a1 h1=>⟨Nat.zero_le _,fun a2 h2=>⟨n,a1,a2,[],[],rfl,?_,uS,zIp (by decide),fun q H' s hq e=>?_⟩⟩⟩
 ·have ne:a1≠a2:=nN uS h2
  rw [uN ne]
  exact uS
 ·have s1:=Same.new (o:=.lst []) (Same.new (o:=.lst []) (Same.refl H) h1) h2
  exact k q H' (s1.trans s) (s1.free hq) e
theorem rd1 {n:Int} {H:Hp} {Q:VK} {a:Addr} {l:List Nat} (ha:H a=some (.lst (vis l))) (hl:l.length<=1000000) (k:∀ q H',Same H H'->H q=none->H' q=some (.lst ((RC.row n l []).map V.int))->Q (.ref q) H'):
  ([]:List V).length<=sizeLine/\∀ a2,H a2=none->zCs [.int n,.ref a,.ref a2] (upd H a2 (.lst [])) Q E0:=by
 refine ⟨Nat.zero_le _,fun a2 h2=>⟨n,a,a2,RC.inz l,[],rfl,?_,uS,?_,fun q H' s hq e=>?_⟩⟩
 ·rw [uN (nN ha h2),<- zCW]
  exact ha
 ·rw [RC.ints_length]
  exact zIp hl
 ·have s1:=Same.new (o:=.lst []) (Same.refl H) h2
  exact k q H' (s1.trans s) (s1.free hq) e
section
variable {P:Program} {w:World} {K:PySem.W.Frag} {mg:Str->Option Value} {base:Heap}
abbrev Gans (P:Program) (w:World) (K:PySem.W.Frag) (mg:Str->Option Value) (base:Heap):Prop:=GF P w K mg base CX0 1 "answer" ["number","listed","text"] zCs
noncomputable def zIG (C:Cs):Sp:=fun vs H Q _=>∃ (X:Addr->Prop) (b l a:Addr) (s:RC.St) (x:RC.Strip),vs=[.ref b,.ref a]/\zAu C X H b l s/\s.Ok/\zBo C.CS C.CR (outH X b l H) a x/\
 ∀ q H',zBi b l H H'->zAu C X H' b l (RC.mkeep s x).1->H q=none->H' q=some (.lst ((RC.mkeep s x).2.map V.int))->Q (.ref q) H'
theorem scKeep:zAc ["self","strip"] ["self","strip"] (zAa sKeep):=⟨rfl,rfl,rfl,by decide +kernel,rfl,by decide +kernel,by decide +kernel⟩
theorem ok_keep {f:Addr} {C:Cs} {fd:FuncData} (F:Fun K "keep" "Bench.keep" sKeep f fd) (T:Cl K C.CB zBm) (hlen:mg "len" = none) (g1:GI mg "MOST_STRIPS" 32) (g2:GI mg "NO_ROOM" (-10)) (G:Gans P w K mg base):FnOk P w K mg base CX0 2 f fd ["self","strip"] (zIG C):=by
 refine F.ok scKeep (fun vs H Q E h=>?_) (fun cdv A outer s H vs Q E hr h=>?_)
 ·obtain ⟨X,b,l,a,s,x,rfl,_⟩:=h
  rfl
 ·obtain ⟨X,b,l,a,st,x,rfl,hB,ok,hS,k⟩:=h
  obtain ⟨dx,cs,pv,h1,h2,h3,h4,h5,hX⟩:=hB.ex
  refine ⟨_,pC (zAC (cR zCD (zAt zAj rfl hlen PySem.boot_len (pA (pF (L2.pv 0) rfl) pN)) (zAG g1) (zAe _)) (pO (pR (cG G hr zAh (pA (zAG g2) (pA (zAd pN) (pA (zAd pN) pN)))))) zAf)
   (pC (zAA (zCj PySem.F.plainAttrs_list PySem.F.slot_list_append PySem.F.type_list_append zAM (pF (L2.pv 0) rfl) (pA (L2.pv 1) pN)))
   (pO (pR (cG G hr zAh (pA (zAs zBx (zAt zAj rfl hlen PySem.boot_len (pA (pF (L2.pv 0) rfl) pN)) zAb) (pA (zAd pN) (pA (zAd pN) pN))))))),?_⟩
  refine ⟨_,rfl,b,C.CB,dx,_,_,rfl,h1,T.cl,T.no _ (by simp),zAJ _ _,l,_,rfl,.inl (SqL.of h2),rfl,_,rfl,?_⟩
  have e:decide (V.int (((cs.map V.ref).length:Nat):Int)=V.int 32)=decide (st.strips.length=32):=by
   rw [List.length_map,h3]
   refine decide_eq_decide.mpr ⟨fun z=>?_,fun z=>by rw [z]; rfl⟩
   injection z with z
   omega
  rw [e]
  have nlb:l≠b:=(zCc h1 h2 (by intro z; cases z)).symm
  by_cases hf:st.strips.length=32
  ·rw [decide_eq_true hf]
   refine iteT (rd0 fun q H' s hq e=>?_)
   have ek:RC.mkeep st x=(st,RC.row (-10) [] []):=by unfold RC.mkeep; rw [if_pos hf]
   rw [ek] at k
   exact k q H' (zBi.of s) (hB.same s) hq e
  ·rw [decide_eq_false hf]
   refine iteF ?_
   have hfew:=ok.few
   refine ⟨_,rfl,b,C.CB,dx,_,_,rfl,h1,T.cl,T.no _ (by simp),zAJ _ _,.inl ⟨rfl,_,SqL.of h2⟩,_,rfl,l,_,_,rfl,rfl,h2,by rw [List.length_map]; exact zAq (by omega),?_⟩
   have hb':(upd H l (.lst (cs.map V.ref++[.ref a]))) b=some (.ins C.CB dx (benF l pv)):=by rw [uN nlb.symm]; exact h1
   refine ⟨_,rfl,b,C.CB,dx,_,_,rfl,hb',T.cl,T.no _ (by simp),zAJ _ _,l,_,rfl,.inl (SqL.of uS),_,_,rfl,rfl,?_⟩
   have ek:RC.mkeep st x=(⟨st.strips++[x],st.paper⟩,RC.row st.strips.length [] []):=by unfold RC.mkeep; rw [if_neg hf]
   rw [ek] at k
   have en:(((cs.map V.ref++[V.ref a]).length:Nat):Int)-1=(st.strips.length:Int):=by
    rw [List.length_append,List.length_map,h3,List.length_singleton]
    omega
   refine rd0 (n:=(((cs.map V.ref++[V.ref a]).length:Nat):Int)-1) fun q H' s hq e=>?_
   rw [en] at e
   have k1:zBi b l H (upd H l (.lst (cs.map V.ref++[.ref a]))):=fun c o n1 n2 z=>by rw [uN n2]; exact z
   have hql:q≠l:=fun z=>by rw [z,uS] at hq; cases hq
   have hqH:H q=none:=by rw [uN hql] at hq; exact hq
   refine k q H' (k1.trans (zBi.of s)) ⟨dx,cs++[a],pv,s _ _ hb',by rw [s _ _ uS,List.map_append]; rfl,?_,?_,h5.same (k1.trans (zBi.of s)).out,(k1.trans (zBi.of s)).there (by rw [s _ _ hb']; simp) (by rw [s _ _ uS]; simp) hX⟩ hqH e
   ·show (cs++[a]).length=(st.strips++[x]).length
    rw [List.length_append,List.length_append,h3]
    rfl
   ·intro i c y z1 z2
    have z2:(st.strips++[x])[i]? = some y:=z2
    rcases zAm z1 with ⟨g1,g2⟩ | ⟨g1,g2⟩
    ·rcases zAm z2 with ⟨g3,g4⟩ | ⟨g3,g4⟩
     ·exact (h4 i c y g1 g3).same (k1.trans (zBi.of s)).out
     ·omega
    ·rcases zAm z2 with ⟨g3,g4⟩ | ⟨g3,g4⟩
     ·omega
     ·subst g2
      subst g4
      exact hS.same (k1.trans (zBi.of s)).out
end
end RB
end
section
namespace RX
open PySem PyProof.Rows L2
section
open PySem.SeqAt
open PySem.AutoSeq1 (wpAny_loadPart')
open PySem.MeetsSeq PySem.MeetsSeq2 PySem.MeetsSeq3
theorem extTup (l:Addr) (items:Array Value) (n:Nat) (b:Addr) (more:Array Value) (k:Nat) (dd:Option Addr) (sl:Array (Option Value)) (h0:¬(!items.isEmpty&&Builtin.List.listTooLong (items.size+more.size))=true) (h1:items.size<=sizeLine) (h2:items.size+more.size<=sizeLine+1):
  Meets (Builtin.«list.extend» ⟨[.ref l,.ref b],[]⟩) (fun _ R s=>s.heap.get? l=some { cls:=.type "list",dict:=none,data:=.seq items n,slots := #[] }/\s.heap.get? b=some { cls:=.type "tuple",dict:=dd,data:=.seq more k,slots:=sl }/\
   R (.ok (.ret Value.none)) { s with heap:=s.heap.update l (Obj.mapSeq fun x=>x++more),toks:=s.toks }):=
 .of_wp fun prog w A R s h=>by
  obtain ⟨hp,g,d,tk,os⟩:=s
  obtain ⟨hl,hb,h⟩:=h
  have f1:=AutoSeq1.idx_int
  have f2:=AutoSeq1.sub_tuple_tuple
  have f3:=AutoSeq1.sub_list_list
  have f4:=AutoSeq1.sub_tuple_list
  have f5:=AutoSeq1.sub_list_tuple
  have hz':(items++more).size<=sizeLine+1:=by rw [Array.size_append]; exact h2
  wp_walk using (wpAny_updateSeq hl rfl (hz:=h1) (_hz':=hz')),wpAny_loadPart' hl,wpAny_loadPart' hb
  exact ⟨_,rfl,h⟩
end
end RX
namespace RB
open PySem PySem.Spec PyProof.Rows L2 RX
section
variable {X:Cx}
noncomputable def rExtT (K:PySem.W.Frag):V->List V->Hp->VK->Prop:=fun x vs H Q=>∃ l b xs zs,x = .ref l/\vs=[.ref b]/\H l=some (.lst xs)/\SqT K H b zs/\xs.length+zs.length<=sizeLine/\Q .non (upd H l (.lst (xs++zs)))
theorem mt_extT:MtM X "list.extend" (rExtT X.K):=by
 intro pins s σ H x vs v us Q I rx rv h
 obtain ⟨l,b,xs,zs,rfl,rfl,hH,hB,hz,q⟩:=h
 cases rx
 obtain ⟨u,rfl,ru⟩:=rv.one
 cases ru
 obtain ⟨z,its,n,r,hl,e⟩:=I.lstM hH
 obtain ⟨its2,r2,⟨⟨cls2,dd2,data2,sl2⟩,ho2,hc2,n2,hd2⟩,_⟩:=I.tuple hB
 simp only at hc2 hd2
 subst hc2 hd2
 have hl2:=r2.length
 have hsz:its.toArray.size+its2.toArray.size<=sizeLine:=by rw [List.size_toArray,List.size_toArray]; omega
 have hlong:¬ (!its.toArray.isEmpty&&Builtin.List.listTooLong (its.toArray.size+its2.toArray.size))=true:=by
  rw [zIY hsz,Bool.and_false]
  exact Bool.false_ne_true
 refine call_meets F.slot_list_extend ⟨_,e,rfl⟩ F.entry_list_extend (F.args_list_extend_2 _ _) (extTup l its.toArray n b its2.toArray n2 dd2 sl2 hlong (by rw [List.size_toArray]; omega) (by omega)) ⟨e,ho2,?_⟩
 refine ⟨.non,_,I.lset (its':=its++its2) hH e (by simp) (r.append r2) ?_,rfl,q⟩
 rw [List.length_append]
 omega
end
end RB
end
section
namespace RB
open PySem PySem.Spec PyProof.Rows L2 RX
theorem zDg {X:Addr->Prop} {b l:Addr} {H:Hp}:Same (outH X b l H) H:=zLu
def zEZ (H:Hp) (r:List Int) (Q:VK):Prop:=∀ q H',Same H H'->H q=none->H' q=some (.lst (r.map V.int))->Q (.ref q) H'
theorem zEZ.up {H H1:Hp} {r:List Int} {Q:VK} (h:zEZ H r Q) (s:Same H H1):zEZ H1 r Q:=fun q H' s1 hq e=>h q H' (s.trans s1) (s.free hq) e
section
variable {P:Program} {w:World} {K:PySem.W.Frag} {mg:Str->Option Value} {base:Heap}
noncomputable def zHP (C:Cs):Sp:=fun vs H Q _=>∃ (X:Addr->Prop) (b l:Addr) (i:Nat) (s:RC.St),vs=[.ref b,vi i]/\zAu C X H b l s/\s.Ok/\zEZ H (RC.mtext s i) Q
theorem zKN:zAc ["self","s","text"] ["self","s"] (zAa zKX):=⟨rfl,rfl,rfl,by decide +kernel,rfl,by decide +kernel,by decide +kernel⟩
theorem zNz {f:Addr} {C:Cs} {fd:FuncData} (F:Fun K "tell_text" "Bench.tell_text" zKX f fd) (T:Cl K C.CB zBm) (hlen:mg "len" = none) (g1:GI mg "NO_STRIP" (-4)) (G:Gans P w K mg base) (G2:GF P w K mg base CX0 2 "strip_text" ["strip"] (zKt C.CS C.CR)):
  FnOk P w K mg base CX0 3 f fd ["self","s"] (zHP C):=by
 refine F.ok zKN (fun vs H Q E h=>?_) (fun cdv A outer s H vs Q E hr h=>?_)
 ·obtain ⟨X,b,l,i,s,rfl,_⟩:=h
  rfl
 ·obtain ⟨X,b,l,i,st,rfl,hB,ok,k⟩:=h
  obtain ⟨dx,cs,pv,h1,h2,h3,h4,h5,hX⟩:=hB.ex
  have hr1:=hr.mono (show 1<=2 by decide)
  refine ⟨_,pC (zAC (cR op_ge (L2.pv 1) (zAt zAj rfl hlen PySem.boot_len (pA (pF (L2.pv 0) rfl) pN)) (zAe _)) (pO (pR (cG G hr1 zAh (pA (zAG g1) (pA (zAd pN) (pA (zAd pN) pN)))))) zAf)
   (pC (pS (i:=2) zKN.nd rfl (Or.inl rfl) (cG G2 hr zAh (pA (zAF zAi (pF (L2.pv 0) rfl) (L2.pv 1) (fun _ _=>rfl)) pN)))
   (pO (pR (cG G hr1 zAh (pA (zAt zAj rfl hlen PySem.boot_len (pA (L2.pv 2) pN)) (pA (zAd pN) (pA (L2.pv 2) pN))))))),?_⟩
  refine ⟨_,rfl,_,rfl,b,C.CB,dx,_,_,rfl,h1,T.cl,T.no _ (by simp),zAJ _ _,l,_,rfl,.inl (SqL.of h2),_,_,rfl,rfl,_,rfl,?_⟩
  have e:decide ((((cs.map V.ref).length:Nat):Int)<=(i:Int))=decide (st.strips.length<=i):=by
   rw [List.length_map,h3]
   exact zCA _ _
  rw [e]
  unfold RC.mtext at k
  by_cases hi:st.strips.length<=i
  ·rw [decide_eq_true hi]
   rw [List.getElem?_eq_none hi] at k
   exact iteT (rd0 k)
  ·rw [decide_eq_false hi]
   obtain ⟨x,hx⟩:∃ x,st.strips[i]? = some x:=⟨_,List.getElem?_eq_getElem (by omega)⟩
   obtain ⟨c,hc⟩:∃ c,cs[i]? = some c:=⟨_,List.getElem?_eq_getElem (by omega)⟩
   rw [hx] at k
   have hS:=(h4 i c x hc hx).same zDg
   have hxo:=ok.all x (List.mem_of_getElem? hx)
   have hsh:=RC.text_short hxo
   refine iteF ⟨_,rfl,b,C.CB,dx,_,_,rfl,h1,T.cl,T.no _ (by simp),zAJ _ _,_,rfl,l,_,_,.ref c,rfl,rfl,SqL.of h2,zBZ (by rw [List.getElem?_map,hc]; rfl),c,x,rfl,hS,hxo,fun t H1 s1 ht e1=>?_⟩
   refine ⟨_,rfl,t,_,rfl,.inl (SqL.of e1),Nat.zero_le _,fun a1 ha1=>⟨_,rfl,_,a1,t,[],RC.inz (RC.textCodes x),rfl,uS,?_,?_,fun q H' s2 hq e2=>?_⟩⟩
   ·rw [uN (nN e1 ha1),<- zCW]
    exact e1
   ·rw [RC.ints_length,List.length_nil]
    exact zIp (by omega)
   ·have s3:=s1.trans (Same.new (o:=.lst []) (Same.refl H1) ha1)
    refine k q H' (s3.trans s2) (s3.free hq) ?_
    rw [e2,zAg]
    rfl
noncomputable def zIo (s:RC.St) (i:Nat):Int:=match s.paper with
 | none => -8
 | some _=>if s.strips.length<=i then -4 else 0
noncomputable def zEo (C:Cs):Sp:=fun vs H Q _=>∃ (X:Addr->Prop) (b l:Addr) (i:Nat) (s:RC.St),vs=[.ref b,vi i]/\zAu C X H b l s/\Q (.int (zIo s i)) H
theorem scLacks:zAc ["self","s"] ["self","s"] (zAa zKR):=⟨rfl,rfl,rfl,by decide +kernel,rfl,by decide +kernel,by decide +kernel⟩
theorem zNv {f:Addr} {C:Cs} {fd:FuncData} (F:Fun K "lacks" "Bench.lacks" zKR f fd) (T:Cl K C.CB zBm) (hlen:mg "len" = none) (g1:GI mg "NO_STRIP" (-4)) (g2:GI mg "NO_PAPER" (-8)):FnOk P w K mg base CX0 1 f fd ["self","s"] (zEo C):=by
 refine F.ok scLacks (fun vs H Q E h=>?_) (fun cdv A outer s H vs Q E hr h=>?_)
 ·obtain ⟨X,b,l,i,s,rfl,_⟩:=h
  rfl
 ·obtain ⟨X,b,l,i,st,rfl,hB,k⟩:=h
  obtain ⟨dx,cs,pv,h1,h2,h3,h4,h5,hX⟩:=hB.ex
  refine ⟨_,pC (zAC (cR zFn (pF (L2.pv 0) rfl) zBD (zAe _)) (pO (pR (zAG g2))) zAf)
   (pC (zAC (cR op_ge (L2.pv 1) (zAt zAj rfl hlen PySem.boot_len (pA (pF (L2.pv 0) rfl) pN)) (zAe _)) (pO (pR (zAG g1))) zAf)
   (pO (pR zAb))),?_⟩
  refine ⟨_,rfl,b,C.CB,dx,_,_,rfl,h1,T.cl,T.no _ (by simp),zAN _ _,rfl,_,rfl,?_⟩
  unfold zIo at k
  cases hp:st.paper with
  | none=>
   rw [hp] at h5 k
   have e0:pv = .non:=h5
   rw [decide_eq_true e0]
   exact iteT k
  | some p=>
   rw [hp] at h5 k
   obtain ⟨a,e0,_⟩:=h5
   rw [decide_eq_false (by rw [e0]; intro z; cases z)]
   refine iteF ⟨_,rfl,_,rfl,b,C.CB,dx,_,_,rfl,h1,T.cl,T.no _ (by simp),zAJ _ _,l,_,rfl,.inl (SqL.of h2),_,_,rfl,rfl,_,rfl,?_⟩
   have e:decide ((((cs.map V.ref).length:Nat):Int)<=(i:Int))=decide (st.strips.length<=i):=by
    rw [List.length_map,h3]
    exact zCA _ _
   rw [e]
   simp only at k
   by_cases hi:st.strips.length<=i
   ·rw [decide_eq_true hi]
    rw [if_pos hi] at k
    exact iteT k
   ·rw [decide_eq_false hi]
    rw [if_neg hi] at k
    exact iteF k
end
end RB
end
section
namespace RB
open PySem PySem.Spec PyProof.Rows L2 RX
theorem zDA (s:RC.St) (i:Nat):(zIo s i<0/\∀ f,RC.mwith s i f=RC.row (zIo s i) [] [])\/(zIo s i=0/\∃ p x,s.paper=some p/\s.strips[i]? = some x/\∀ f,RC.mwith s i f=f p x):=by
 unfold zIo RC.mwith
 cases hp:s.paper with
 | none=>exact .inl ⟨(by show (-8:Int)<0; decide),fun f=>rfl⟩
 | some p=>
  simp only
  by_cases hi:s.strips.length<=i
  ·rw [if_pos hi,List.getElem?_eq_none hi]
   exact .inl ⟨by decide,fun f=>rfl⟩
  ·rw [if_neg hi]
   obtain ⟨x,hx⟩:∃ x,s.strips[i]? = some x:=⟨_,List.getElem?_eq_getElem (by omega)⟩
   rw [hx]
   exact .inr ⟨rfl,p,x,rfl,rfl,fun f=>rfl⟩
theorem zAu.both {C:Cs} {X:Addr->Prop} {H:Hp} {b l:Addr} {s:RC.St} {i:Nat} {p:Rol.Paper} {x:RC.Strip} (hB:zAu C X H b l s) (ok:s.Ok) (hp:s.paper=some p) (hx:s.strips[i]? = some x):
  ∃ (dx:Addr) (cs:List Addr) (c a:Addr),H b=some (.ins C.CB dx (benF l (.ref a)))/\H l=some (.lst (cs.map V.ref))/\atI (cs.map V.ref) (i:Int)=some (.ref c)/\zBo C.CS C.CR H c x/\zFc C.CP H a p/\x.Ok/\RC.PaperOk p:=by
 obtain ⟨dx,cs,pv,h1,h2,h3,h4,h5,hX⟩:=hB.ex
 have hi:=zAk hx
 obtain ⟨c,hc⟩:∃ c,cs[i]? = some c:=⟨_,List.getElem?_eq_getElem (by omega)⟩
 rw [hp] at h5
 obtain ⟨a,rfl,ha⟩:=h5
 exact ⟨dx,cs,c,a,h1,h2,zBZ (by rw [List.getElem?_map,hc]; rfl),(h4 i c x hc hx).same zDg,ha.same zDg,ok.all x (List.mem_of_getElem? hx),ok.pap p hp⟩
section
variable {P:Program} {w:World} {K:PySem.W.Frag} {mg:Str->Option Value} {base:Heap}
noncomputable def zFP (C:Cs):Sp:=fun vs H Q _=>∃ (X:Addr->Prop) (b l:Addr) (i:Nat) (s:RC.St),vs=[.ref b,vi i]/\zAu C X H b l s/\s.Ok/\zEZ H (RC.mwith s i RC.mjudge) Q
theorem zFY:zAc ["self","s","refusal","wrong"] ["self","s"] (zAa zId):=⟨rfl,rfl,rfl,by decide +kernel,rfl,by decide +kernel,by decide +kernel⟩
theorem zLE {f:Addr} {C:Cs} {fd:FuncData} (F:Fun K "judge" "Bench.judge" zId f fd) (T:Cl K C.CB zBm) (G:Gans P w K mg base) (G1:GM P w K mg base CX0 1 C.CB "lacks" ["self","s"] (zEo C)) (G2:GF P w K mg base CX0 2 "first_wrong" ["strip","paper"] (zFI C.CS C.CR C.CP)) (G3:GF P w K mg base CX0 1 "told_wrong" ["wrong"] zIF):
  FnOk P w K mg base CX0 3 f fd ["self","s"] (zFP C):=by
 refine F.ok zFY (fun vs H Q E h=>?_) (fun cdv A outer s H vs Q E hr h=>?_)
 ·obtain ⟨X,b,l,i,s,rfl,_⟩:=h
  rfl
 ·obtain ⟨X,b,l,i,st,rfl,hB,ok,k⟩:=h
  have hr1:=hr.mono (show 1<=2 by decide)
  refine ⟨_,pC (pS (i:=2) zFY.nd rfl (Or.inl rfl) (zAp T.cl G1 (L2.pv 0) hr1 zAh (pA (L2.pv 1) pN)))
   (pC (zAC (cR zCC (L2.pv 2) zAb (zAe _)) (pO (pR (cG G hr1 zAh (pA (L2.pv 2) (pA (zAd pN) (pA (zAd pN) pN)))))) zAf)
   (pC (pS (i:=3) zFY.nd rfl (Or.inl rfl) (cG G2 hr zAh (pA (zAF zAi (pF (L2.pv 0) rfl) (L2.pv 1) (fun _ _=>rfl)) (pA (pF (L2.pv 0) rfl) pN))))
   (pC (zAC (cR zFn (L2.pv 3) zBD (zAe _)) (pO (pR (cG G hr1 zAh (pA zAb (pA (zAd pN) (pA (zAd pN) pN)))))) zAf)
   (pO (pR (cG G hr1 zAh (pA zAb (pA (cG G3 hr1 zAh (pA (L2.pv 3) pN)) (pA (zAd pN) pN))))))))),?_⟩
  obtain ⟨dx0,cs0,pv0,hb0,_⟩:=hB.ex
  refine ⟨_,rfl,b,dx0,_,rfl,hb0,zBn (by decide) (by decide),_,rfl,X,b,l,i,st,rfl,hB,?_⟩
  refine ⟨_,rfl,_,_,rfl,rfl,_,rfl,?_⟩
  rcases zDA st i with ⟨h0,hm⟩ | ⟨h0,p,x,hp,hx,hm⟩
  ·rw [decide_eq_true h0]
   rw [hm] at k
   exact iteT ⟨_,rfl,rd0 k⟩
  ·rw [decide_eq_false (by omega)]
   rw [hm] at k
   obtain ⟨dx,cs,c,a,h1,h2,h3,hS,hP,xo,po⟩:=hB.both ok hp hx
   refine iteF ⟨_,rfl,b,C.CB,dx,_,_,rfl,h1,T.cl,T.no _ (by simp),zAJ _ _,_,rfl,l,_,_,.ref c,rfl,rfl,SqL.of h2,h3,_,rfl,b,C.CB,dx,_,_,rfl,h1,T.cl,T.no _ (by simp),zAN _ _,c,a,x,p,rfl,hS,xo,hP,po,fun v H1 s1 hW=>?_⟩
   refine ⟨_,rfl,rfl,_,rfl,?_⟩
   unfold RC.mjudge at k
   cases hj:RC.judgeL p x with
   | none=>
    rw [hj] at hW k
    have e0:v = .non:=hW
    rw [decide_eq_true e0]
    exact iteT (rd0 (k.up s1))
   | some z=>
    rw [hj] at hW k
    obtain ⟨t,e0,ht⟩:=hW
    rw [decide_eq_false (by rw [e0]; intro z; cases z)]
    refine iteF ⟨_,rfl,t,z,by rw [e0]; rfl,ht,fun q hq=>?_⟩
    exact rd1 (n:=1) uS (by simp [RC.wrong3]) (k.up (s1.trans (Same.new (Same.refl H1) hq)))
noncomputable def zHK (CS CR:Addr):Sp:=fun vs H Q _=>∃ (a:Addr) (x:RC.Strip) (g j:Nat),vs=[.ref a,vi g,vi j]/\zBo CS CR H a x/\x.Ok/\g<=15/\
 ∀ q H',Same H H'->H q=none->H' q=some (.lst (vis (RC.upOf x.wide (RC.gathered g j 0 x.runs))))->Q (.ref q) H'
noncomputable def zEt (C:Cs):Sp:=fun vs H Q _=>∃ (X:Addr->Prop) (b l:Addr) (i j:Nat) (s:RC.St),vs=[.ref b,vi i,vi j]/\zAu C X H b l s/\s.Ok/\zEZ H (RC.mwith s i fun p x=>RC.row 0 (RC.soundL p x j) []) Q
theorem zGU:zAc ["self","s","row","refusal"] ["self","s","row"] (zAa zGe):=⟨rfl,rfl,rfl,by decide +kernel,rfl,by decide +kernel,by decide +kernel⟩
theorem zJF {f:Addr} {C:Cs} {fd:FuncData} (F:Fun K "tell_sounds" "Bench.tell_sounds" zGe f fd) (T:Cl K C.CB zBm) (TP:Cl K C.CP zHk) (G:Gans P w K mg base) (G1:GM P w K mg base CX0 1 C.CB "lacks" ["self","s"] (zEo C)) (G2:GF P w K mg base CX0 1 "sounding_tracks" ["strip","tail","row"] (zHK C.CS C.CR)):
  FnOk P w K mg base CX0 3 f fd ["self","s","row"] (zEt C):=by
 refine F.ok zGU (fun vs H Q E h=>?_) (fun cdv A outer s H vs Q E hr h=>?_)
 ·obtain ⟨X,b,l,i,j,s,rfl,_⟩:=h
  rfl
 ·obtain ⟨X,b,l,i,j,st,rfl,hB,ok,k⟩:=h
  have hr1:=hr.mono (show 1<=2 by decide)
  refine ⟨_,pC (pS (i:=3) zGU.nd rfl (Or.inl rfl) (zAp T.cl G1 (L2.pv 0) hr1 zAh (pA (L2.pv 1) pN)))
   (pC (zAC (cR zCC (L2.pv 3) zAb (zAe _)) (pO (pR (cG G hr1 zAh (pA (L2.pv 3) (pA (zAd pN) (pA (zAd pN) pN)))))) zAf)
   (pO (pR (cG G hr1 zAh (pA zAb (pA (cG G2 hr1 zAh (pA (zAF zAi (pF (L2.pv 0) rfl) (L2.pv 1) (fun _ _=>rfl)) (pA (pF (pF (L2.pv 0) rfl) rfl) (pA (L2.pv 2) pN)))) (pA (zAd pN) pN))))))),?_⟩
  obtain ⟨dx0,cs0,pv0,hb0,_⟩:=hB.ex
  refine ⟨_,rfl,b,dx0,_,rfl,hb0,zBn (by decide) (by decide),_,rfl,X,b,l,i,st,rfl,hB,?_⟩
  refine ⟨_,rfl,_,_,rfl,rfl,_,rfl,?_⟩
  rcases zDA st i with ⟨h0,hm⟩ | ⟨h0,p,x,hp,hx,hm⟩
  ·rw [decide_eq_true h0]
   rw [hm] at k
   exact iteT ⟨_,rfl,rd0 k⟩
  ·rw [decide_eq_false (by omega)]
   rw [hm] at k
   obtain ⟨dx,cs,c,a,h1,h2,h3,hS,⟨dp,hP⟩,xo,po⟩:=hB.both ok hp hx
   refine iteF ⟨_,rfl,b,C.CB,dx,_,_,rfl,h1,T.cl,T.no _ (by simp),zAJ _ _,_,rfl,l,_,_,.ref c,rfl,rfl,SqL.of h2,h3,_,rfl,b,C.CB,dx,_,_,rfl,h1,T.cl,T.no _ (by simp),zAN _ _,a,C.CP,dp,_,_,rfl,hP,TP.cl,TP.no _ (by simp),zBQ p,_,rfl,c,x,p.tail,j,rfl,hS,xo,po.t,fun q H1 s1 hq e1=>?_⟩
   have hl:(RC.upOf x.wide (RC.gathered p.tail j 0 x.runs)).length<=1000000:=by
    unfold RC.upOf
    have h6:=List.length_filter_le (fun t=>decide (t∈RC.gathered p.tail j 0 x.runs)) (List.range x.wide)
    rw [List.length_range] at h6
    have:=xo.w2
    omega
   exact rd1 (n:=0) e1 hl (k.up s1)
noncomputable def zFN (C:Cs):Sp:=fun vs H Q _=>∃ (X:Addr->Prop) (b l:Addr) (i:Nat) (s:RC.St),vs=[.ref b,vi i]/\zAu C X H b l s/\s.Ok/\zEZ H (RC.mwith s i RC.mtones) Q
theorem zDc:zAc ["self","s","refusal","tones","listed","tone"] ["self","s"] (zAa zIb):=⟨rfl,rfl,rfl,by decide +kernel,rfl,by decide +kernel,by decide +kernel⟩
theorem zLC {f CT:Addr} {C:Cs} {fd:FuncData} (F:Fun K "tell_tones" "Bench.tell_tones" zIb f fd) (T:Cl K C.CB zBm) (TP:Cl K C.CP zHk) (TT:Cl K CT zDG) (hlen:mg "len" = none) (G:Gans P w K mg base) (G1:GM P w K mg base CX0 1 C.CB "lacks" ["self","s"] (zEo C)) (G2:GF P w K mg base CX0 3 "strip_tones" ["strip","tail"] (zHJ C.CS C.CR CT)):
  FnOk P w K mg base CX0 4 f fd ["self","s"] (zFN C):=by
 refine F.ok zDc (fun vs H Q E h=>?_) (fun cdv A outer s H vs Q E hr h=>?_)
 ·obtain ⟨X,b,l,i,s,rfl,_⟩:=h
  rfl
 ·obtain ⟨X,b,l,i,st,rfl,hB,ok,k⟩:=h
  have hr1:=hr.mono (show 1<=3 by decide)
  refine ⟨_,pC (pS (i:=2) zDc.nd rfl (Or.inl rfl) (zAp T.cl G1 (L2.pv 0) hr1 zAh (pA (L2.pv 1) pN)))
   (pC (zAC (cR zCC (L2.pv 2) zAb (zAe _)) (pO (pR (cG G hr1 zAh (pA (L2.pv 2) (pA (zAd pN) (pA (zAd pN) pN)))))) zAf)
   (pC (pS (i:=3) zDc.nd rfl (Or.inl rfl) (cG G2 hr zAh (pA (zAF zAi (pF (L2.pv 0) rfl) (L2.pv 1) (fun _ _=>rfl)) (pA (pF (pF (L2.pv 0) rfl) rfl) pN))))
   (pC (pS (i:=4) zDc.nd rfl (Or.inl rfl) (zAd pN))
   (pC (zBb PassesOwn.never rfl (zAR (L2.pv 3)) (zAn (i:=5) zDc.nd rfl (Or.inl rfl)) (pO (zAA (zCj PySem.F.plainAttrs_list PySem.F.slot_list_extend PySem.F.type_list_extend zDh (L2.pv 4) (pA (zAd (pA (pF (L2.pv 5) rfl) (pA (pF (L2.pv 5) rfl) (pA (pF (L2.pv 5) rfl) pN)))) pN)))))
   (pO (pR (cG G hr1 zAh (pA (zAt zAj rfl hlen PySem.boot_len (pA (L2.pv 3) pN)) (pA (L2.pv 4) (pA (zAd pN) pN)))))))))),?_⟩
  obtain ⟨dx0,cs0,pv0,hb0,_⟩:=hB.ex
  refine ⟨_,rfl,b,dx0,_,rfl,hb0,zBn (by decide) (by decide),_,rfl,X,b,l,i,st,rfl,hB,?_⟩
  refine ⟨_,rfl,_,_,rfl,rfl,_,rfl,?_⟩
  rcases zDA st i with ⟨h0,hm⟩ | ⟨h0,p,x,hp,hx,hm⟩
  ·rw [decide_eq_true h0]
   rw [hm] at k
   exact iteT ⟨_,rfl,rd0 k⟩
  ·rw [decide_eq_false (by omega)]
   rw [hm] at k
   obtain ⟨dx,cs,c,a,h1,h2,h3,hS,⟨dp,hP⟩,xo,po⟩:=hB.both ok hp hx
   refine iteF ⟨_,rfl,b,C.CB,dx,_,_,rfl,h1,T.cl,T.no _ (by simp),zAJ _ _,_,rfl,l,_,_,.ref c,rfl,rfl,SqL.of h2,h3,_,rfl,b,C.CB,dx,_,_,rfl,h1,T.cl,T.no _ (by simp),zAN _ _,a,C.CP,dp,_,_,rfl,hP,TP.cl,TP.no _ (by simp),zBQ p,c,x,p.tail,rfl,hS,xo,fun t H1 s1 ht hT hsh=>?_⟩
   obtain ⟨as,t1,t2,t3⟩:=hT.ex
   refine ⟨Nat.zero_le _,fun q hq=>?_⟩
   have s2:=Same.new (o:=.lst []) s1 hq
   have s12:=Same.new (o:=.lst []) (Same.refl H1) hq
   have hqH:H q=none:=s1.free hq
   refine ⟨_,rfl,t,rfl,⟨_,SqL.of (s12 _ _ t1)⟩,zAI (K:=K) (a:=t) (xs:=as.map V.ref) (fun j σ H'=>∃ u,σ=[some (.ref b),some (vi i),some (.int (zIo st i)),some (.ref t),some (.ref q),u]/\Same H1 H'/\H' q=some (.lst (vis (RC.flat3 ((RC.tonesL p x).take j))))) ⟨none,rfl,s12,uS⟩ ?_ ?_ ?_⟩
   ·rintro j σ H' _ ⟨u,rfl,s3,_⟩
    exact SqL.of (s3 _ _ t1)
   ·rintro j y σ H' hj ⟨u,rfl,s3,e3⟩
    obtain ⟨c2,hc2,rfl⟩:=zBk hj
    have hjl:=zAk hc2
    obtain ⟨z,hz⟩:∃ z,(RC.tonesL p x)[j]? = some z:=⟨_,List.getElem?_eq_getElem (by show j<(RC.trun p.tail 0 RC.noTones x.runs).cur.length; omega)⟩
    obtain ⟨dz,hdz⟩:=((t3 j c2 z hc2 hz).same s3).ex
    refine ⟨_,rfl,.inl ⟨rfl,_,SqL.of e3⟩,_,rfl,c2,CT,dz,_,_,rfl,hdz,TT.cl,TT.no _ (by simp),zAO z,_,rfl,c2,CT,dz,_,_,rfl,hdz,TT.cl,TT.no _ (by simp),zAP z,_,rfl,c2,CT,dz,_,_,rfl,hdz,TT.cl,TT.no _ (by simp),zBO z,(by show 3<=sizeLine; decide),fun v hv=>?_⟩
    have nqv:q≠v:=nN e3 hv
    refine ⟨q,v,_,_,rfl,rfl,by rw [uN nqv]; exact e3,uS,?_,_,rfl,Same.own (Same.new s3 hv) hq,?_⟩
    ·rw [zAg,RC.flat3_length,List.length_take]
     show 3*min j (RC.trun p.tail 0 RC.noTones x.runs).cur.length+3<=_
     rw [sizeLine_eq]
     omega
    ·rw [uS,zAl hz]
     unfold RC.flat3
     rw [List.flatMap_append,zAU]
     rfl
   ·rintro σ H' ⟨u,rfl,s3,e3⟩
    have hlt:(RC.tonesL p x).length=as.length:=t2.symm
    rw [List.length_map,<- hlt,List.take_length] at e3
    refine ⟨_,rfl,t,_,rfl,.inl (SqL.of (s3 _ _ t1)),_,rfl,?_⟩
    have k2:=k.up (s1.trans s3)
    unfold RC.mtones at k2
    have e5:((as.map V.ref).length:Nat)=(RC.tonesL p x).length:=by rw [List.length_map,hlt]
    refine rd1 (n:=((as.map V.ref).length:Nat)) e3 ?_ (by rw [e5]; exact k2)
    rw [RC.flat3_length]
    show 3*(RC.trun p.tail 0 RC.noTones x.runs).cur.length<=_
    omega
noncomputable def zFQ (C:Cs):Sp:=fun vs H Q _=>∃ (X:Addr->Prop) (b l:Addr) (n:Nat) (s:RC.St),vs=[.ref b,vi n]/\zAu C X H b l s/\s.Ok/\zEZ H (RC.mchain s n) Q
theorem zEb:zAc ["self","rows","slots","listed","slot"] ["self","rows"] (zAa zIe):=⟨rfl,rfl,rfl,by decide +kernel,rfl,by decide +kernel,by decide +kernel⟩
theorem zLH {f:Addr} {C:Cs} {fd:FuncData} (F:Fun K "tell_chain" "Bench.tell_chain" zIe f fd) (T:Cl K C.CB zBm) (hlen:mg "len" = none) (g1:GI mg "NO_PAPER" (-8)) (g2:GI mg "MOST_SOUNDING_ROWS" 271) (g3:GI mg "OUT_OF_RANGE" (-1)) (g4:GI mg "NOT_TO_BE_CUT" (-3)) (G:Gans P w K mg base)
  (G2:GF P w K mg base CX0 2 "chain_slots" ["sounding","paper"] (zEr C.CP)):FnOk P w K mg base CX0 3 f fd ["self","rows"] (zFQ C):=by
 refine F.ok zEb (fun vs H Q E h=>?_) (fun cdv A outer s H vs Q E hr h=>?_)
 ·obtain ⟨X,b,l,n,s,rfl,_⟩:=h
  rfl
 ·obtain ⟨X,b,l,n,st,rfl,hB,ok,k⟩:=h
  have hr1:=hr.mono (show 1<=2 by decide)
  refine ⟨_,pC (zAC (cR zFn (pF (L2.pv 0) rfl) zBD (zAe _)) (pO (pR (cG G hr1 zAh (pA (zAG g1) (pA (zAd pN) (pA (zAd pN) pN)))))) zAf)
   (pC (zAC (cR zEL (L2.pv 1) (zAG g2) (zAe _)) (pO (pR (cG G hr1 zAh (pA (zAG g3) (pA (zAd pN) (pA (zAd pN) pN)))))) zAf)
   (pC (pS (i:=2) zEb.nd rfl (Or.inl rfl) (cG G2 hr zAh (pA (L2.pv 1) (pA (pF (L2.pv 0) rfl) pN))))
   (pC (zAC (zDI (zCv (L2.pv 2) (fun _=>rfl))) (pO (pR (cG G hr1 zAh (pA (zAG g4) (pA (zAd pN) (pA (zAd pN) pN)))))) zAf)
   (pC (pS (i:=3) zEb.nd rfl (Or.inl rfl) (zAd pN))
   (pC (zBb PassesOwn.never rfl (zAR (L2.pv 2)) (zAn (i:=4) zEb.nd rfl (Or.inl rfl)) (pO (zAA (zCj PySem.F.plainAttrs_list PySem.F.slot_list_extend PySem.F.type_list_extend mt_extT (L2.pv 3) (pA (L2.pv 4) pN)))))
   (pO (pR (cG G hr1 zAh (pA (zAt zAj rfl hlen PySem.boot_len (pA (L2.pv 2) pN)) (pA (L2.pv 3) (pA (zAd pN) pN))))))))))),?_⟩
  obtain ⟨dx,cs,pv,h1,h2,h3,h4,h5,hX⟩:=hB.ex
  refine ⟨_,rfl,b,C.CB,dx,_,_,rfl,h1,T.cl,T.no _ (by simp),zAN _ _,rfl,_,rfl,?_⟩
  unfold RC.mchain at k
  cases hp:st.paper with
  | none=>
   rw [hp] at h5 k
   have e0:pv = .non:=h5
   rw [decide_eq_true e0]
   exact iteT (rd0 k)
  | some p=>
   rw [hp] at h5 k
   obtain ⟨a,e0,hP⟩:=h5
   have po:=ok.pap p hp
   simp only at k
   rw [decide_eq_false (by rw [e0]; intro z; cases z)]
   refine iteF ⟨_,rfl,_,_,rfl,rfl,_,rfl,?_⟩
   have e1:decide ((271:Int)<(n:Int))=decide (271<n):=decide_eq_decide.mpr (by omega)
   rw [e1]
   by_cases hn:271<n
   ·rw [decide_eq_true hn]
    rw [if_pos hn] at k
    exact iteT (rd0 k)
   ·rw [decide_eq_false hn]
    rw [if_neg hn] at k
    refine iteF ⟨_,rfl,_,rfl,b,C.CB,dx,_,_,rfl,h1,T.cl,T.no _ (by simp),zAN _ _,n,a,p,by rw [e0]; rfl,hP.same zDg,po,by omega,fun t H1 s1 ht S1=>?_⟩
    obtain ⟨ts,q1,q2,q3⟩:=S1.ex
    refine ⟨_,rfl,!ts.isEmpty,.inl ⟨_,SqL.of q1,by rw [zBE]⟩,?_⟩
    have hsl:=RC.slots_length po.l1 n
    by_cases hse:RC.slotsOf p n=[]
    ·rw [if_pos hse] at k
     have:ts=[]:=List.length_eq_zero_iff.mp (by rw [q2,hse]; rfl)
     rw [this]
     exact iteT (rd0 (k.up s1))
    ·rw [if_neg hse] at k
     have:ts.isEmpty=false:=by
      cases ts with
      | nil=>exact absurd (List.length_eq_zero_iff.mp q2.symm) hse
      | cons _ _=>rfl
     rw [this]
     refine iteF ⟨Nat.zero_le _,fun q hq=>?_⟩
     have s12:=Same.new (o:=.lst []) (Same.refl H1) hq
     refine ⟨_,rfl,t,rfl,⟨_,SqL.of (s12 _ _ q1)⟩,zAI (K:=K) (a:=t) (xs:=ts.map V.ref) (fun j σ H'=>∃ u,σ=[some (.ref b),some (vi n),some (.ref t),some (.ref q),u]/\Same H1 H'/\H' q=some (.lst (vis (RC.flat2 ((RC.slotsOf p n).take j))))) ⟨none,rfl,s12,uS⟩ ?_ ?_ ?_⟩
     ·rintro j σ H' _ ⟨u,rfl,s3,_⟩
      exact SqL.of (s3 _ _ q1)
     ·rintro j y σ H' hj ⟨u,rfl,s3,e3⟩
      obtain ⟨c2,hc2,rfl⟩:=zBk hj
      have hjl:=zAk hc2
      obtain ⟨z,hz⟩:∃ z,(RC.slotsOf p n)[j]? = some z:=⟨_,List.getElem?_eq_getElem (by omega)⟩
      have hT:=s3 _ _ (q3 j c2 z hc2 hz)
      refine ⟨_,rfl,.inl ⟨rfl,_,SqL.of e3⟩,_,rfl,q,c2,_,_,rfl,rfl,e3,SqT.of hT,?_,_,rfl,Same.own s3 hq,?_⟩
      ·have:∀ l:List (Nat×Nat),(RC.flat2 l).length=2*l.length:=fun l=>by
        induction l with
        | nil=>rfl
        | cons x l ih=>
         show (RC.flat2 l).length+2=_
         rw [ih,List.length_cons]
         omega
       rw [zAg,this,List.length_take]
       show _+2<=_
       rw [sizeLine_eq]
       omega
      ·rw [uS,zAl hz]
       unfold RC.flat2
       rw [List.flatMap_append,zAU]
       rfl
     ·rintro σ H' ⟨u,rfl,s3,e3⟩
      rw [List.length_map,q2,List.take_length] at e3
      refine ⟨_,rfl,t,_,rfl,.inl (SqL.of (s3 _ _ q1)),_,rfl,?_⟩
      have e5:((ts.map V.ref).length:Nat)=(RC.slotsOf p n).length:=by rw [List.length_map,q2]
      refine rd1 (n:=((ts.map V.ref).length:Nat)) e3 ?_ (by rw [e5]; exact k.up (s1.trans s3))
      have:∀ l:List (Nat×Nat),(RC.flat2 l).length=2*l.length:=fun l=>by
       induction l with
       | nil=>rfl
       | cons x l ih=>
        show (RC.flat2 l).length+2=_
        rw [ih,List.length_cons]
        omega
      rw [this]
      omega
end
end RB
end
section
namespace RX
open PySem PyProof.Rows
open Sem (wp)
section
variable {prog:Program} {w:World} {A:Around} {E:Value->Shared->Prop} {s:Shared}
theorem zJw {h h':Heap} {a t:Addr} {i:Nat} (x:IsTupIter h a t i) (e:∀ o,h.get? a=some o->h'.get? a=some o):IsTupIter h' a t i:=let ⟨o,ho,r⟩:=x; ⟨o,e _ ho,r⟩
theorem zLM {it b:Addr} {i:Nat} {its:Array Value} {x:Value} {Q:Value->Shared->Prop} (ki:IsTupIter s.heap it b i) (kb:IsTup s.heap b its) (kx:its[i]? = some x)
  (kq:∀ h',IsTupIter h' it b (i+1)->Heap.SameBut it s.heap h'->Q x { s with heap:=h' }):wpAny (model prog w) A (Builtin.SmallTypes.nextOf (.ref it)) Q E s:=by
 obtain ⟨o,ko,kc,kd⟩:=id ki
 obtain ⟨ob,kob,_,nb,kdb⟩:=kb
 unfold Builtin.SmallTypes.nextOf; refine wpAny_bind ?_
 refine wpAny_callSpecial?_slot (name:=Str.ofString "__next__") ki.typeIs slot_tupleiter_next (wpAny_call_entry slot_tupleiter_next ki.typeIs entry_tupleiter_next ?_ (args_tupleiter_next _))
 show wpAny _ _ (field (.ref it) (0:Nat) >>= _) _ _ s
 refine wpAny_bind (wpAny_field ko kd (x:=.ref b) rfl ?_)
 show wpAny _ _ (if (Value.ref b==Value.none)=true then _ else _) _ _ s
 rw [if_neg (show ¬ ((Value.ref b==Value.none)=true) from Bool.false_ne_true)]
 show wpAny _ _ (field (.ref it) (1:Nat) >>= _) _ _ s
 refine wpAny_bind (wpAny_field ko kd (x:=.int i 0) rfl ?_)
 show wpAny _ _ (seqItems? (.ref b) >>= _) _ _ s
 refine wpAny_bind (wpAny_seqItems kob kdb ?_)
 simp only [kx,Int.toNat_natCast]
 refine wpAny_bind (wpAny_setField ko kd (by simp) (wpAny_pure ⟨x,rfl,wpAny_pure (kq _ ?_ (Heap.SameBut.update ..))⟩))
 refine ⟨_,Heap.get?_update_self _ ko (Obj.isFreed_of_fields (Obj.data_mapFields kd _)),(Obj.cls_mapFields ..).trans kc,?_⟩
 rw [Obj.data_mapFields kd]
 simp [rawInt]
theorem zJs {z TI TO i1 i2 l1 l2:Addr} {k1 k2:Nat} {us ws:Array Value} {x y a b:Value} {Q:Value->Shared->Prop} (Y:ZipApart z TI TO i1 i2 l1 l2)
  (kz:IsZip s.heap z TI TO .none) (kI:IsPair s.heap TI (.ref i1) (.ref i2)) (kO:IsPair s.heap TO a b)
  (j1:s.heap.IsListIter i1 l1 k1) (j2:IsTupIter s.heap i2 l2 k2) (m1:s.heap.IsList l1 us) (m2:IsTup s.heap l2 ws) (kx:us[k1]? = some x) (ky:ws[k2]? = some y)
  (kq:∀ h',IsZip h' z TI TO (rawInt s.heap.objs.size)->IsPair h' TO x y->h'.IsListIter i1 l1 (k1+1)->IsTupIter h' i2 l2 (k2+1)->IsPair h' s.heap.objs.size x y->h'.objs.size=s.heap.objs.size+1->
   (∀ c o,c≠z->c≠TO->c≠i1->c≠i2->s.heap.get? c=some o->h'.get? c=some o)->Q (.ref s.heap.objs.size) { s with heap:=h' }):
  wpAny (model prog w) A (Builtin.«zip.__next__» ⟨[.ref z],[]⟩) (fun fin s'=>∃ v,fin = .done (.ret v)/\Q v s') E s:=by
 show wpAny _ _ (field (.ref z) 2 >>= _) _ E _
 refine wpAny_bind (wpAny_field kz rfl (x:=.bool false) rfl ?_)
 show wpAny _ _ (field (.ref z) 3 >>= _) _ E _
 refine wpAny_bind (wpAny_field kz rfl (x:=.ref TI) rfl ?_)
 refine wpAny_bind (wpAny_seqItems kI rfl ?_)
 show wpAny _ _ (Builtin.SmallTypes.ownedTupleIsFree (.ref z) >>= _) _ E _
 refine wpAny_bind ?_
 unfold Builtin.SmallTypes.ownedTupleIsFree; skip
 refine wpAny_bind (wpAny_field kz rfl (x:=.none) rfl (wpAny_pure ?_))
 simp only [if_true]
 refine wpAny_bind (wpAny_rule (?_))
 refine wpAny_bind (wpAny_field kz rfl (x:=.ref TO) rfl ?_)
 refine wpAny_bind (wpAny_setField_rec kz (by simp) fun g₁ kz₁ t₁=>?_)
 replace kz₁:IsZip g₁ z TI TO .ellipsis:=kz₁
 refine wpAny_bind ?_
 simp only [List.forIn_cons,List.forIn_nil,List.zipIdx_cons,List.zipIdx_nil]
 refine wpAny_bind (wpAny_bind (wpAny_onRaise (?_)))
 show wpAny _ _ (Builtin.SmallTypes.nextOf (.ref i1) >>= _) _ _ (_:Shared)
 refine wpAny_bind (wpAny_nextOf_list_item (j1.extBut t₁.extBut Y.i1z) (m1.extBut t₁.extBut Y.l1z) kx fun g₂ j1₂ t₂=>wpAny_pure ?_)
 have kO₂:IsPair g₂ TO a b:=t₂.extBut _ _ Y.TOi1 (t₁.extBut _ _ Y.TOz kO)
 refine wpAny_bind (wpAny_seqItems kO₂ rfl ?_)
 refine wpAny_bind (wpAny_updateSeq_pair kO₂ fun g₃ kO₃ t₃=>?_)
 replace kO₃:IsPair g₃ TO x b:=kO₃
 refine wpAny_bind (wpAny_letGo (wpAny_pure (?_)))
 refine wpAny_bind (wpAny_bind (wpAny_onRaise (?_)))
 show wpAny _ _ (Builtin.SmallTypes.nextOf (.ref i2) >>= _) _ _ (_:Shared)
 refine wpAny_bind (zLM (((j2.extBut t₁.extBut Y.i2z).extBut t₂.extBut Y.i12.symm).extBut t₃.extBut Y.TOi2.symm)
  (((m2.extBut t₁.extBut Y.l2z).extBut t₂.extBut Y.l2i1).extBut t₃.extBut Y.l2TO) ky fun g₄ j2₄ t₄=>wpAny_pure ?_)
 have kO₄:IsPair g₄ TO x b:=t₄.extBut _ _ Y.TOi2 kO₃
 refine wpAny_bind (wpAny_seqItems kO₄ rfl ?_)
 refine wpAny_bind (wpAny_updateSeq_pair kO₄ fun g₅ kO₅ t₅=>?_)
 replace kO₅:IsPair g₅ TO x y:=kO₅
 refine wpAny_bind (wpAny_letGo (wpAny_pure (wpAny_pure (?_))))
 refine wpAny_bind (wpAny_seqItems kO₅ rfl ?_)
 refine wpAny_bind (wpAny_newTuple (?_))
 have ksz:g₅.objs.size=s.heap.objs.size:=by rw [t₅.1,t₄.1,t₃.1,t₂.1,t₁.1]
 have kz₅:IsZip g₅ z TI TO .ellipsis:=t₅.extBut _ _ Y.TOz.symm (t₄.extBut _ _ Y.i2z.symm (t₃.extBut _ _ Y.TOz.symm (t₂.extBut _ _ Y.i1z.symm kz₁)))
 have kk₅:∀ c o,c≠z->c≠TO->c≠i1->c≠i2->s.heap.get? c=some o->g₅.get? c=some o:=fun c o c1 c2 c3 c4 e=>
  t₅.extBut _ _ c2 (t₄.extBut _ _ c4 (t₃.extBut _ _ c2 (t₂.extBut _ _ c3 (t₁.extBut _ _ c1 e))))
 have j1₅:g₅.IsListIter i1 l1 (k1+1):=((j1₂.extBut t₃.extBut Y.TOi1.symm).extBut t₄.extBut Y.i12).extBut t₅.extBut Y.TOi1.symm
 have j2₅:IsTupIter g₅ i2 l2 (k2+1):=j2₄.extBut t₅.extBut Y.TOi2.symm
 have kzlt:z<g₅.objs.size:=Heap.lt_size kz₅
 have kOlt:TO<g₅.objs.size:=Heap.lt_size kO₅
 have ki1:i1<g₅.objs.size:=by obtain ⟨_,e,_⟩:=j1₅; exact Heap.lt_size e
 have ki2:i2<g₅.objs.size:=by obtain ⟨_,e,_⟩:=j2₅; exact Heap.lt_size e
 show wpAny _ _ (Builtin.SmallTypes.ownedTupleHandOut (.ref z) (.ref g₅.objs.size) >>= _) _ _ _
 refine wpAny_bind ?_
 unfold Builtin.SmallTypes.ownedTupleHandOut; skip
 have kz₆:IsZip (g₅.push { cls:=.type "tuple",data:=.seq #[x,y] }) z TI TO .ellipsis:=Heap.get?_push_of_some _ kz₅
 refine wpAny_bind (wpAny_setField_rec kz₆ (by simp) fun g₇ kz₇ t₇=>?_)
 replace kz₇:IsZip g₇ z TI TO (rawInt g₅.objs.size):=kz₇
 refine wpAny_setField_rec kz₇ (by simp) fun g₈ kz₈ t₈=>?_
 replace kz₈:IsZip g₈ z TI TO (rawInt g₅.objs.size):=kz₈
 have upp:∀ c o,c≠z->g₅.get? c=some o->g₈.get? c=some o:=fun c o c1 e=>t₈.extBut _ _ c1 (t₇.extBut _ _ c1 (Heap.get?_push_of_some _ e))
 have kT₈:IsPair g₈ g₅.objs.size x y:=t₈.extBut _ _ (Nat.ne_of_gt kzlt) (t₇.extBut _ _ (Nat.ne_of_gt kzlt) (Heap.get?_push_size _ rfl))
 have kz8:g₈.objs.size=g₅.objs.size+1:=by rw [t₈.1,t₇.1,Heap.size_push]
 rw [ksz] at kz₈ kT₈ kz8
 refine wpAny_pure ⟨_,rfl,?_⟩
 show Q (.ref g₅.objs.size) _
 rw [ksz]
 exact kq g₈ kz₈ (upp _ _ Y.TOz kO₅) (j1₅.at fun o e=>upp _ o Y.i1z e) (zJw j2₅ fun o e=>upp _ o Y.i2z e) kT₈ kz8 fun c o c1 c2 c3 c4 e=>upp c o c1 (kk₅ c o c1 c2 c3 c4 e)
theorem zKd {z TI TO i1 i2 l1 l2:Addr} {k1 k2:Nat} {us ws:Array Value} {a b:Value} {Q:Fin->Shared->Prop} (kh:A.handled=none) (Y:ZipApart z TI TO i1 i2 l1 l2)
  (kz:IsZip s.heap z TI TO .none) (kI:IsPair s.heap TI (.ref i1) (.ref i2)) (kO:IsPair s.heap TO a b)
  (j1:s.heap.IsListIter i1 l1 k1) (j2:IsTupIter s.heap i2 l2 k2) (m1:s.heap.IsList l1 us) (m2:IsTup s.heap l2 ws) (kend:us[k1]? = none)
  (kE:∀ h' e,(∀ c o,c≠z->c≠TO->c≠i1->c≠i2->s.heap.get? c=some o->h'.get? c=some o)->(∃ o,h'.get? e=some o/\o.cls = .type "StopIteration")->E (.ref e) { s with heap:=h' }):
  wpAny (model prog w) A (Builtin.«zip.__next__» ⟨[.ref z],[]⟩) Q E s:=by
 show wpAny _ _ (field (.ref z) 2 >>= _) _ E _
 refine wpAny_bind (wpAny_field kz rfl (x:=.bool false) rfl ?_)
 show wpAny _ _ (field (.ref z) 3 >>= _) _ E _
 refine wpAny_bind (wpAny_field kz rfl (x:=.ref TI) rfl ?_)
 refine wpAny_bind (wpAny_seqItems kI rfl ?_)
 show wpAny _ _ (Builtin.SmallTypes.ownedTupleIsFree (.ref z) >>= _) _ E _
 refine wpAny_bind ?_
 unfold Builtin.SmallTypes.ownedTupleIsFree; skip
 refine wpAny_bind (wpAny_field kz rfl (x:=.none) rfl (wpAny_pure ?_))
 simp only [if_true]
 refine wpAny_bind (wpAny_rule (?_))
 refine wpAny_bind (wpAny_field kz rfl (x:=.ref TO) rfl ?_)
 refine wpAny_bind (wpAny_setField_rec kz (by simp) fun g₁ kz₁ t₁=>?_)
 replace kz₁:IsZip g₁ z TI TO .ellipsis:=kz₁
 refine wpAny_bind ?_
 simp only [List.forIn_cons,List.forIn_nil,List.zipIdx_cons,List.zipIdx_nil]
 refine wpAny_bind (wpAny_bind (wpAny_onRaise (?_)))
 show wpAny _ _ (Builtin.SmallTypes.nextOf (.ref i1) >>= _) _ _ (_:Shared)
 refine wpAny_bind (wpAny_nextOf_list_end kh (j1.extBut t₁.extBut Y.i1z) (m1.extBut t₁.extBut Y.l1z) kend fun g₂ e t₂ he=>?_)
 obtain ⟨oe,koe,kce⟩:=he
 have kz₂:IsZip g₂ z TI TO .ellipsis:=t₂ _ _ Y.i1z.symm kz₁
 have kez:e≠z:=fun x=>by subst x; rw [kz₂] at koe; cases koe; simp at kce
 refine wpAny_setField_rec kz₂ (by simp) fun g₃ _ t₃=>kE g₃ e (fun c o c1 _ c3 _ x=>t₃.extBut _ _ c1 (t₂ _ _ c3 (t₁.extBut _ _ c1 x))) ⟨oe,t₃.extBut _ _ kez koe,kce⟩
theorem zJI {z TI TO i1 i2 l1 l2:Addr} {k1 k2:Nat} {us ws:Array Value} {x y a b:Value} {Q:Option Value->Shared->Prop} (Y:ZipApart z TI TO i1 i2 l1 l2)
  (kz:IsZip s.heap z TI TO .none) (kI:IsPair s.heap TI (.ref i1) (.ref i2)) (kO:IsPair s.heap TO a b)
  (j1:s.heap.IsListIter i1 l1 k1) (j2:IsTupIter s.heap i2 l2 k2) (m1:s.heap.IsList l1 us) (m2:IsTup s.heap l2 ws) (kx:us[k1]? = some x) (ky:ws[k2]? = some y)
  (kq:∀ h',IsZip h' z TI TO (rawInt s.heap.objs.size)->IsPair h' TO x y->h'.IsListIter i1 l1 (k1+1)->IsTupIter h' i2 l2 (k2+1)->IsPair h' s.heap.objs.size x y->h'.objs.size=s.heap.objs.size+1->
   (∀ c o,c≠z->c≠TO->c≠i1->c≠i2->s.heap.get? c=some o->h'.get? c=some o)->Q (some (.ref s.heap.objs.size)) { s with heap:=h' }):
  wpAny (model prog w) A (pyNext (.ref z)) Q E s:=by
 have hT:s.TypeIs (.ref z) "zip" := ⟨_,kz,rfl⟩
 unfold pyNext
 exact wpAny_bind (wpAny_attempt (wpAny_callSpecial?_slot (name:=Str.ofString "__next__") hT F.slot_zip_next
  (wpAny_call_entry F.slot_zip_next hT F.entry_zip_next
   (zJs Y kz kI kO j1 j2 m1 m2 kx ky fun h' a1 a2 a3 a4 a5 a6 a7=>wpAny_pure (kq h' a1 a2 a3 a4 a5 a6 a7)) (F.args_zip_next_1 _))))
theorem zGj {z TI TO i1 i2 l1 l2:Addr} {k1 k2:Nat} {us ws:Array Value} {a b:Value} {Q:Option Value->Shared->Prop} (kh:A.handled=none) (Y:ZipApart z TI TO i1 i2 l1 l2)
  (kz:IsZip s.heap z TI TO .none) (kI:IsPair s.heap TI (.ref i1) (.ref i2)) (kO:IsPair s.heap TO a b)
  (j1:s.heap.IsListIter i1 l1 k1) (j2:IsTupIter s.heap i2 l2 k2) (m1:s.heap.IsList l1 us) (m2:IsTup s.heap l2 ws) (kend:us[k1]? = none)
  (kq:∀ h',(∀ c o,c≠z->c≠TO->c≠i1->c≠i2->s.heap.get? c=some o->h'.get? c=some o)->Q none { s with heap:=h' }):wpAny (model prog w) A (pyNext (.ref z)) Q E s:=by
 have hT:s.TypeIs (.ref z) "zip" := ⟨_,kz,rfl⟩
 unfold pyNext
 refine wpAny_bind (wpAny_attempt (wpAny_callSpecial?_slot (name:=Str.ofString "__next__") hT F.slot_zip_next
  (wpAny_call_entry F.slot_zip_next hT F.entry_zip_next (zKd kh Y kz kI kO j1 j2 m1 m2 kend fun h' e hk he=>?_) (F.args_zip_next_1 _))))
 obtain ⟨o,ho,hc⟩:=he
 refine wpAny_bind (wpAny_isInstance (T:= "StopIteration") (b:=true) ⟨o,ho,hc⟩ isSubtype_stop ?_)
 exact wpAny_pure (kq _ hk)
end
noncomputable abbrev zt1 (h:Heap) (a:Addr):Heap:=h.push { cls:=.type "list_iterator",data:=.fields #[.ref a,.int 0 0] }
noncomputable abbrev zt2 (h:Heap) (a b:Addr):Heap:=(zt1 h a).push { cls:=.type "tuple_iterator",data:=.fields #[.ref b,.int 0 0] }
noncomputable abbrev zt3 (h:Heap) (a b:Addr):Heap:=(zt2 h a b).push { cls:=.type "tuple",data:=.seq #[.ref h.objs.size,.ref (zt1 h a).objs.size] }
noncomputable abbrev zt4 (h:Heap) (a b:Addr):Heap:=(zt3 h a b).push { cls:=.type "tuple",data:=.seq #[.none,.none] }
noncomputable abbrev zt5 (h:Heap) (a b:Addr):Heap:=(zt4 h a b).push { cls:=.type "zip",data:=.fields #[.none,.bool false,.bool false,.ref (zt2 h a b).objs.size,.ref (zt3 h a b).objs.size] }
theorem zIn (l1 l2:Addr) (us ws:Array Value):
  Meets (Builtin.«zip.__new__» ⟨[.type "zip",.ref l1,.ref l2],[]⟩) (fun _ R s=>s.heap.IsList l1 us/\IsTup s.heap l2 ws/\
   R (.ok (.ret (.ref (zt4 s.heap l1 l2).objs.size))) { s with heap:=zt5 s.heap l1 l2 }):=
 .of_wp fun prog w A R s h=>by
  obtain ⟨hp,g,d,tk,os⟩:=s
  obtain ⟨m1,m2,h⟩:=h
  have ksub:=sub_zip
  have kL1:Heap.IsList (Shared.heap ⟨hp,g,d,tk,os⟩) l1 us:=m1
  have kL2:IsTup (Shared.heap ⟨hp.push { cls:=.type "list_iterator",data:=.fields #[.ref l1,.int 0 0] },g,d,tk,os⟩) l2 ws:=IsTup.push m2 _
  wp_walk using wpAny_pyIter_list kL1,iter_tuple kL2
  exact ⟨_,rfl,h⟩
section
variable {prog:Program} {w:World} {A:Around} {E:Value->Shared->Prop} {s:Shared}
theorem zJW {l1 l2:Addr} {us ws:Array Value} {Q:Value->Shared->Prop} (m1:s.heap.IsList l1 us) (m2:IsTup s.heap l2 ws)
  (h:∀ h',IsZip h' (s.heap.objs.size+4) (s.heap.objs.size+2) (s.heap.objs.size+3) .none->IsPair h' (s.heap.objs.size+2) (.ref s.heap.objs.size) (.ref (s.heap.objs.size+1))->
   IsPair h' (s.heap.objs.size+3) .none .none->h'.IsListIter s.heap.objs.size l1 0->IsTupIter h' (s.heap.objs.size+1) l2 0->h'.objs.size=s.heap.objs.size+5->
   (∀ c o,s.heap.get? c=some o->h'.get? c=some o)->Q (.ref (s.heap.objs.size+4)) { s with heap:=h' }):
  wpAny (model prog w) A (call (.type "zip") [.ref l1,.ref l2]) Q E s:=by
 refine callType_new F.called_zip (by decide) (F.typeCall_zip_2 _ _) (F.newCall_zip_2 _ _) (fun obj=>F.args_object_init_3 obj _ _) F.entry_zip_new
  (zIn l1 l2 us ws) ⟨m1,m2,?_⟩
 have z1:(zt1 s.heap l1).objs.size=s.heap.objs.size+1:=Heap.size_push ..
 have z2:(zt2 s.heap l1 l2).objs.size=s.heap.objs.size+2:=by rw [Heap.size_push,z1]
 have z3:(zt3 s.heap l1 l2).objs.size=s.heap.objs.size+3:=by rw [Heap.size_push,z2]
 have z4:(zt4 s.heap l1 l2).objs.size=s.heap.objs.size+4:=by rw [Heap.size_push,z3]
 have z5:(zt5 s.heap l1 l2).objs.size=s.heap.objs.size+5:=by rw [Heap.size_push,z4]
 have g5:(zt5 s.heap l1 l2).get? (zt4 s.heap l1 l2).objs.size=some _:=Heap.get?_push_size _ rfl
 have g4:(zt5 s.heap l1 l2).get? (zt3 s.heap l1 l2).objs.size=some _:=Heap.get?_push_of_some _ (Heap.get?_push_size _ rfl)
 have g3:(zt5 s.heap l1 l2).get? (zt2 s.heap l1 l2).objs.size=some _:=Heap.get?_push_of_some _ (Heap.get?_push_of_some _ (Heap.get?_push_size _ rfl))
 have g2:(zt5 s.heap l1 l2).get? (zt1 s.heap l1).objs.size=some _:=Heap.get?_push_of_some _ (Heap.get?_push_of_some _ (Heap.get?_push_of_some _ (Heap.get?_push_size _ rfl)))
 have g1:(zt5 s.heap l1 l2).get? s.heap.objs.size=some _:=Heap.get?_push_of_some _ (Heap.get?_push_of_some _ (Heap.get?_push_of_some _ (Heap.get?_push_of_some _ (Heap.get?_push_size _ rfl))))
 show _/\_
 rw [z2,z3,z4] at g5
 rw [z1,z2] at g3
 rw [z3] at g4
 rw [z1] at g2
 rw [z4]
 exact ⟨⟨_,g5,rfl⟩,h _ g5 g3 g4 ⟨_,g1,rfl,rfl⟩ ⟨_,g2,rfl,rfl⟩ z5 fun c o x=>
  Heap.get?_push_of_some _ (Heap.get?_push_of_some _ (Heap.get?_push_of_some _ (Heap.get?_push_of_some _ (Heap.get?_push_of_some _ x))))⟩
end
end RX
namespace RB
open PySem PySem.Spec PyProof.Rows L2 RX
noncomputable def ItzT (K:PySem.W.Frag) (a b:Addr):It:=
 ⟨fun i H=>∃ (xs ys:List V) (x y:V),SqL K H a xs/\SqT K H b ys/\xs[i]? = some x/\ys[i]? = some y,
  fun i H v H'=>∃ T x y,v = .ref T/\H T=none/\H'=upd H T (.tup [x,y])/\(∀ xs,SqL K H a xs->xs[i]? = some x)/\∀ ys,SqT K H b ys->ys[i]? = some y,
  fun i H=>∃ xs ys:List V,SqL K H a xs/\SqT K H b ys/\xs.length<=i⟩
theorem zMO {P:Program} {w:World} {K:PySem.W.Frag} {elts:List Expr} {kk:Nat} {tpos:Pos} {a b z TI TO i1 i2:Addr} (D:ZipApart z TI TO i1 i2 a b):
  Turn P w K (.Tuple elts kk tpos) (ItzT K a b) [z,TI,TO,i1,i2] z (fun i h=>IsZip h z TI TO .none/\IsPair h TI (.ref i1) (.ref i2)/\(∃ x y,IsPair h TO x y)/\h.IsListIter i1 a i/\IsTupIter h i2 b i) where
 mem:=by simp
 obj:=fun i h st c hc=>by
  obtain ⟨hz,hTI,⟨x,y,hTO⟩,⟨o1,e1,_,d1⟩,⟨o2,e2,_,d2⟩⟩:=st
  have e':c=z\/c=TI\/c=TO\/c=i1\/c=i2:=by simpa using hc
  rcases e' with q | q | q | q | q
  ·rw [q]; exact ⟨_,hz,fun v q=>nomatch q⟩
  ·rw [q]; exact ⟨_,hTI,fun v q=>nomatch q⟩
  ·rw [q]; exact ⟨_,hTO,fun v q=>nomatch q⟩
  ·rw [q]; exact ⟨o1,e1,fun v q=>by rw [d1] at q; cases q⟩
  ·rw [q]; exact ⟨o2,e2,fun v q=>by rw [d2] at q; cases q⟩
 keep:=fun i h h' st k=>by
  obtain ⟨hz,hTI,⟨x,y,hTO⟩,h1,h2⟩:=st
  exact ⟨k z (by simp) _ hz,k TI (by simp) _ hTI,⟨x,y,k TO (by simp) _ hTO⟩,h1.at fun o q=>k i1 (by simp) o q,zJw h2 fun o q=>k i2 (by simp) o q⟩
 item:=by
  intro X hP hw hK hc i pins s σ H E I hf st hg
  subst hP hw hK
  obtain ⟨hz,hTI,⟨x0,y0,hTO⟩,h1,h2⟩:=st
  obtain ⟨xs,ys,x,y,hqx,hqy,hx,hy⟩:=hg
  obtain ⟨its,rv,p,_⟩:=I.list hqx
  obtain ⟨its2,rv2,p2,_⟩:=I.tuple hqy
  obtain ⟨u,hu,ru⟩:=rv.get hx
  obtain ⟨u2,hu2,ru2⟩:=rv2.get hy
  have hzl:z<s.heap.objs.size:=Heap.lt_size hz
  refine zJI D hz hTI hTO h1 h2 p.isList p2 (x:=u) (y:=u2) (by simpa using hu) (by simpa using hu2) fun h' z' TO' h1' h2' hT hsz hk=>?_
  refine ⟨_,rfl,wpAny_letOwnedTupleGo_zip (s:={ s with heap:=h' }) z' fun h'' z'' sb=>?_⟩
  have hT2:h''.get? s.heap.objs.size=some { cls:=.type "tuple",data:=.seq #[u,u2] }:=(sb.2 _ (Nat.ne_of_gt hzl)).trans hT
  have new:zBa X.prog X.w (upd H s.heap.objs.size (.tup [x,y])) h'' s.heap.objs.size (.tup [x,y]):=
   ⟨by show 2<=sizeLine; decide,[u,u2],.cons ru (.cons ru2 .nil),⟨_,hT2,rfl,_,rfl⟩⟩
  have I1:Inv X pins σ (upd H s.heap.objs.size (.tup [x,y])) { s with heap:=h'' }:=
   I.turnedNew (t':=s.toks) (ch:=[z,TI,TO,i1,i2]) (fun c o hb q=>(sb.2 c (fun q'=>hb (by simp [q']))).trans (hk c o (fun q'=>hb (by simp [q'])) (fun q'=>hb (by simp [q'])) (fun q'=>hb (by simp [q'])) (fun q'=>hb (by simp [q'])) q)) hf (Nat.le_refl _) new
  refine ⟨.ref s.heap.objs.size,_,I1,rfl,⟨_,x,y,rfl,I.hok.fresh (Nat.le_refl _),rfl,fun l hl=>by rw [I.list_inj hl hqx]; exact hx,fun l hl=>by rw [I.tuple_inj hl hqy]; exact hy⟩,⟨z'',?_,⟨u,u2,?_⟩,?_,?_⟩,fun c hcm=>?_⟩
  ·exact (sb.2 _ D.TIz).trans (hk _ _ D.TIz D.TITO D.TIi1 D.TIi2 hTI)
  ·exact (sb.2 _ D.TOz).trans TO'
  ·exact h1'.at fun o q=>(sb.2 _ D.i1z).trans q
  ·exact zJw h2' fun o q=>(sb.2 _ D.i2z).trans q
  ·have hlt:c<s.heap.objs.size:=by
    have e':c=z\/c=TI\/c=TO\/c=i1\/c=i2:=by simpa using hcm
    rcases e' with q | q | q | q | q
    ·rw [q]; exact hzl
    ·rw [q]; exact Heap.lt_size hTI
    ·rw [q]; exact Heap.lt_size hTO
    ·rw [q]; obtain ⟨_,e1,_⟩:=h1; exact Heap.lt_size e1
    ·rw [q]; obtain ⟨_,e2,_⟩:=h2; exact Heap.lt_size e2
   rw [uN (Nat.ne_of_lt hlt)]
   exact (hf c hcm).1
 done:=by
  intro X hP hw hK hc i pins s σ H E I hf st hg
  subst hP hw hK
  obtain ⟨hz,hTI,⟨x0,y0,hTO⟩,h1,h2⟩:=st
  obtain ⟨xs,ys,hqx,hqy,hend⟩:=hg
  obtain ⟨its,rv,p,_⟩:=I.list hqx
  obtain ⟨its2,rv2,p2,_⟩:=I.tuple hqy
  have l1:=rv.length
  exact zGj (I.ok.hd hc) D hz hTI hTO h1 h2 p.isList p2 (by simp; omega) fun h' hk=>⟨rfl,I.turnedL (t':=s.toks) (ch:=[z,TI,TO,i1,i2]) (fun c o hb q=>
   hk c o (fun q'=>hb (by simp [q'])) (fun q'=>hb (by simp [q'])) (fun q'=>hb (by simp [q'])) (fun q'=>hb (by simp [q'])) q) hf⟩
 self:=fun A i s Q E st h=>wpAny_pyIter_zip st.1 h
noncomputable def iZipT (K:PySem.W.Frag) (ta:TA):TI:=fun σ H R=>ta σ H fun vs H1=>∃ a b xs ys,vs=[.ref a,.ref b]/\SqL K H1 a xs/\SqT K H1 b ys/\R (ItzT K a b) H1
theorem pi_zipT {X:Cx} {e e2:Expr} {ta:TA} {p pos tpos:Pos} {elts:List Expr} {kk:Nat} (hg:Gl X "zip") (hm:X.mg "zip" = none) (ha:PA X [e,e2] ta)
  (hs:starEach [e,e2] X.env=(false,eval e X.env)::starEach [e2] X.env:=by rfl) (hpl:(backTo pos (starEach [e2] X.env)).any (·.1)=false:=by rfl):
  PI X (.Tuple elts kk tpos) (.Call (.Name "zip" p) [e,e2] [] pos) (iZipT X.K ta):=by
 intro pins s σ H R I h
 refine Call_ (zDL I hg hm zHy (PyProof.Rows.callWith_type1 (thn (ha pos pins s σ H _ I h) fun us s1 ⟨vs,H1,I1,r1,q1⟩=>?_) hs hpl))
 obtain ⟨a,b,xs,ys,ex,hqx,hqy,q⟩:=q1
 subst ex
 cases r1 with
 | cons r rr=>
  cases rr with
  | cons r' rr=>
   cases rr
   cases r
   cases r'
   obtain ⟨its,rv,p1,_⟩:=I1.list hqx
   obtain ⟨its2,rv2,p2,_⟩:=I1.tuple hqy
   have la:a<s1.heap.objs.size:=p1.lt
   have lb:b<s1.heap.objs.size:=p2.lt
   refine zJW p1.isList p2 fun h' hz hTI hTO h1 h2 hsz hk=>wpAny_pyIter_zip hz ?_
   have I2:Inv X pins σ H1 { s1 with heap:=h' }:=I1.kept (t':=s1.toks) hk
   refine ⟨s1.heap.objs.size+4,[s1.heap.objs.size+4,s1.heap.objs.size+2,s1.heap.objs.size+3,s1.heap.objs.size,s1.heap.objs.size+1],_,_,H1,rfl,I2,zMO (PySem.W.ktu_apart s1.heap.objs.size a b la lb),⟨hz,hTI,⟨_,_,hTO⟩,h1,h2⟩,fun c hcm=>?_,q⟩
   have e':c=s1.heap.objs.size+4\/c=s1.heap.objs.size+2\/c=s1.heap.objs.size+3\/c=s1.heap.objs.size\/c=s1.heap.objs.size+1:=by simpa using hcm
   have hle:s1.heap.objs.size<=c:=by
    rcases e' with z | z | z | z | z
    ·rw [z]; exact Nat.le_add_right _ _
    ·rw [z]; exact Nat.le_add_right _ _
    ·rw [z]; exact Nat.le_add_right _ _
    ·rw [z]; exact Nat.le_refl _
    ·rw [z]; exact Nat.le_add_right _ _
   exact I1.fpOk hle (I1.hok.fresh hle)
theorem zNR {K:PySem.W.Frag} {a b:Addr} {xs ys:List V} {g:TG} {tb:TS} {D:Ends} {σ:L2.St} {H:Hp} (Pv:Nat->L2.St->Hp->Prop) (hle:xs.length<=ys.length) (h0:Pv 0 σ H) (hl:∀ i σ H,Pv i σ H->SqL K H a xs/\SqT K H b ys)
  (hs:∀ i x y T σ H,xs[i]? = some x->ys[i]? = some y->Pv i σ H->H T=none->g (.ref T) σ (upd H T (.tup [x,y])) fun σ2 H2=>tb { D with nx:=Pv (i+1),ct:=Pv (i+1),bk:=D.nx } σ2 H2) (hd:∀ σ H,Pv xs.length σ H->D.nx σ H):
  ∃ W:Nat->Nat->L2.St->Hp->Prop,(∃ m,W 0 m σ H)/\∀ i m σ H,W i m σ H->
   ((ItzT K a b).stop i H/\D.nx σ H)\/((ItzT K a b).go i H/\∃ N:L2.St->Hp->Prop,(∀ σ' H',N σ' H'->∃ m',m'<m/\W (i+1) m' σ' H')/\∀ x H',(ItzT K a b).yld i H x H'->g x σ H' fun σ2 H2=>tb { D with nx:=N,ct:=N,bk:=D.nx } σ2 H2):=by
 refine ⟨fun i m σ H=>m=xs.length-i/\i<=xs.length/\Pv i σ H,⟨_,rfl,Nat.zero_le _,h0⟩,?_⟩
 rintro i m σ H ⟨rfl,hi,p⟩
 obtain ⟨q1,q2⟩:=hl i σ H p
 by_cases hlt:i<xs.length
 ·have hy:i<ys.length:=by omega
  refine .inr ⟨⟨xs,ys,xs[i],ys[i],q1,q2,by simp [hlt],by simp [hy]⟩,Pv (i+1),fun σ' H' p'=>⟨xs.length-(i+1),by omega,rfl,hlt,p'⟩,fun z H' yl=>?_⟩
  obtain ⟨T,x,y,rfl,hT,rfl,e1,e2⟩:=yl
  exact hs i x y T σ H (e1 xs q1) (e2 ys q2) p hT
 ·have e:i=xs.length:=by omega
  subst e
  exact .inl ⟨⟨xs,ys,q1,q2,Nat.le_refl _⟩,hd σ H p⟩
end RB
end
section
namespace RB
open PySem PySem.Spec PyProof.Rows L2 RX
def Does (C:Cs) (X:Addr->Prop) (b l:Addr) (H:Hp) (r:RC.St×List Int) (Q:VK):Prop:=∀ q H',zBi b l H H'->zAu C X H' b l r.1->H q=none->H' q=some (.lst (r.2.map V.int))->Q (.ref q) H'
theorem Does.tells {C:Cs} {X:Addr->Prop} {b l:Addr} {H H1:Hp} {s:RC.St} {r:List Int} {Q:VK} (h:Does C X b l H (s,r) Q) (hB:zAu C X H b l s) (s1:Same H H1):zEZ H1 r Q:=fun q H' s2 hq e=>h q H' (zBi.of (s1.trans s2)) (hB.same (s1.trans s2)) (s1.free hq) e
section
variable {P:Program} {w:World} {K:PySem.W.Frag} {mg:Str->Option Value} {base:Heap}
noncomputable def zKA (C:Cs):Sp:=fun vs H Q _=>∃ (X:Addr->Prop) (b l a:Addr) (wd n:Nat) (ts:List RC.T3) (s:RC.St),vs=[.ref b,vi wd,vi n,.ref a]/\zAu C X H b l s/\s.Ok/\H a=some (.lst (vis (RC.flat3 ts)))/\ts.length<=100000/\Does C X b l H (RC.mcut s wd n ts) Q
theorem zGV:zAc ["self","width","rows","numbers","tones","fault","strip","wrong"] ["self","width","rows","numbers"] (zAa sBCut):=⟨rfl,rfl,rfl,by decide +kernel,rfl,by decide +kernel,by decide +kernel⟩
theorem ok_bcut {f CT:Addr} {C:Cs} {fd:FuncData} (F:Fun K "cut" "Bench.cut" sBCut f fd) (T:Cl K C.CB zBm) (hlen:mg "len" = none) (g1:GI mg "NO_PAPER" (-8)) (g2:GI mg "MOST_TRACKS" 128) (g3:GI mg "MOST_ROWS" 256) (g4:GI mg "MOST_TONES" 512) (g5:GI mg "OUT_OF_RANGE" (-1)) (g6:GI mg "NOT_TO_BE_CUT" (-3)) (g7:GI mg "WRONG_STRIP" (-9))
  (G:Gans P w K mg base) (G1:GF P w K mg base CX0 3 "tones_from" ["numbers"] (zKy CT)) (G2:GF P w K mg base CX0 3 "first_fault" ["width","rows","tones","paper"] (zHM CT C.CP)) (G3:GF P w K mg base CX0 4 "cut_strip" ["width","rows","tones","paper"] (spCut C.CS C.CR CT C.CP))
  (G4:GF P w K mg base CX0 2 "first_wrong" ["strip","paper"] (zFI C.CS C.CR C.CP)) (G5:GF P w K mg base CX0 1 "told_wrong" ["wrong"] zIF) (G6:GM P w K mg base CX0 2 C.CB "keep" ["self","strip"] (zIG C)):
  FnOk P w K mg base CX0 5 f fd ["self","width","rows","numbers"] (zKA C):=by
 refine F.ok zGV (fun vs H Q E h=>?_) (fun cdv A outer s H vs Q E hr h=>?_)
 ·obtain ⟨X,b,l,a,wd,n,ts,s,rfl,_⟩:=h
  rfl
 ·obtain ⟨X,b,l,a,wd,n,ts,st,rfl,hB,ok,ha,htl,k⟩:=h
  have hr1:=hr.mono (show 1<=4 by decide)
  have hr2:=hr.mono (show 2<=4 by decide)
  have hr3:=hr.mono (show 3<=4 by decide)
  refine ⟨_,pC (zAC (cR zFn (pF (L2.pv 0) rfl) zBD (zAe _)) (pO (pR (cG G hr1 zAh (pA (zAG g1) (pA (zAd pN) (pA (zAd pN) pN)))))) zAf)
   (pC (pS (i:=4) zGV.nd rfl (Or.inl rfl) (cG G1 hr3 zAh (pA (L2.pv 3) pN)))
   (pC (zAC (PW.pt (zEE (cR zCC (L2.pv 1) zAb (zAe _)) (zEE (cR zEL (L2.pv 1) (zAG g2) (zAe _)) (zEE (cR zEL (L2.pv 2) (zAG g3) (zAe _)) (zED (cR zEL (zAt zAj rfl hlen PySem.boot_len (pA (L2.pv 4) pN)) (zAG g4) (zAe _)))))))
    (pO (pR (cG G hr1 zAh (pA (zAG g5) (pA (zAd pN) (pA (zAd pN) pN)))))) zAf)
   (pC (pS (i:=5) zGV.nd rfl (Or.inl rfl) (cG G2 hr3 zAh (pA (L2.pv 1) (pA (L2.pv 2) (pA (L2.pv 4) (pA (pF (L2.pv 0) rfl) pN))))))
   (pC (zAC (cR zIj (L2.pv 5) zBD (zAe _)) (pO (pR (cG G hr1 zAh (pA (zAG g6) (pA (zAd (pA (L2.pv 5) pN)) (pA (zAd pN) pN)))))) zAf)
   (pC (pS (i:=6) zGV.nd rfl (Or.inl rfl) (cG G3 hr zAh (pA (L2.pv 1) (pA (L2.pv 2) (pA (L2.pv 4) (pA (pF (L2.pv 0) rfl) pN))))))
   (pC (pS (i:=7) zGV.nd rfl (Or.inl rfl) (cG G4 hr2 zAh (pA (L2.pv 6) (pA (pF (L2.pv 0) rfl) pN))))
   (pC (zAC (cR zIj (L2.pv 7) zBD (zAe _)) (pO (pR (cG G hr1 zAh (pA (zAG g7) (pA (cG G5 hr1 zAh (pA (L2.pv 7) pN)) (pA (zAd pN) pN)))))) zAf)
   (pO (pR (zAp T.cl G6 (L2.pv 0) hr2 zAh (pA (L2.pv 6) pN))))))))))),?_⟩
  obtain ⟨dx,cs,pv,h1,h2,h3,h4,h5,hX⟩:=hB.ex
  refine ⟨_,rfl,b,C.CB,dx,_,_,rfl,h1,T.cl,T.no _ (by simp),zAN _ _,rfl,_,rfl,?_⟩
  unfold RC.mcut at k
  cases hp:st.paper with
  | none=>
   rw [hp] at h5 k
   have e0:pv = .non:=h5
   rw [decide_eq_true e0]
   exact iteT (rd0 (k.tells hB (Same.refl H)))
  | some p=>
   rw [hp] at h5 k
   obtain ⟨pa,e0,hP0⟩:=h5
   have hP:=hP0.same zDg
   have po:=ok.pap p hp
   simp only at k
   rw [decide_eq_false (by rw [e0]; intro z; cases z)]
   refine iteF ⟨_,rfl,a,ts,rfl,ha,htl,fun t H1 s1 ht hT=>?_⟩
   obtain ⟨tas,t1,t2,t3⟩:=hT.ex
   have bad:(wd<1\/128<wd\/256<n\/512<ts.length)->zEZ H1 (RC.row (-1) [] []) Q:=fun hb=>by
    rw [if_pos hb] at k
    exact k.tells hB s1
   refine ⟨_,rfl,_,_,rfl,rfl,_,rfl,?_⟩
   have e1:decide ((wd:Int)<(1:Int))=decide (wd<1):=decide_eq_decide.mpr (by omega)
   rw [e1]
   by_cases c1:wd<1
   ·rw [decide_eq_true c1]
    exact iteT (iteT (rd0 (bad (.inl c1))))
   rw [decide_eq_false c1]
   refine iteF ⟨_,rfl,_,_,rfl,rfl,_,rfl,?_⟩
   have e2:decide ((128:Int)<(wd:Int))=decide (128<wd):=decide_eq_decide.mpr (by omega)
   rw [e2]
   by_cases c2:128<wd
   ·rw [decide_eq_true c2]
    exact iteT (iteT (rd0 (bad (.inr (.inl c2)))))
   rw [decide_eq_false c2]
   refine iteF ⟨_,rfl,_,_,rfl,rfl,_,rfl,?_⟩
   have e3:decide ((256:Int)<(n:Int))=decide (256<n):=decide_eq_decide.mpr (by omega)
   rw [e3]
   by_cases c3:256<n
   ·rw [decide_eq_true c3]
    exact iteT (iteT (rd0 (bad (.inr (.inr (.inl c3))))))
   rw [decide_eq_false c3]
   refine iteF ⟨_,rfl,t,_,rfl,.inl (SqL.of t1),_,_,rfl,rfl,_,rfl,?_⟩
   have e4:decide ((512:Int)<(((tas.map V.ref).length:Nat):Int))=decide (512<ts.length):=by
    rw [List.length_map,t2]
    exact decide_eq_decide.mpr (by omega)
   rw [e4]
   by_cases c4:512<ts.length
   ·rw [decide_eq_true c4]
    exact iteT (rd0 (bad (.inr (.inr (.inr c4)))))
   rw [decide_eq_false c4]
   rw [if_neg (by simp only [not_or]; exact ⟨c1,c2,c3,c4⟩)] at k
   refine iteF ⟨_,rfl,_,rfl,_,rfl,_,rfl,b,C.CB,dx,_,_,rfl,s1 _ _ h1,T.cl,T.no _ (by simp),zAN _ _,t,pa,ts,p,wd,n,by rw [e0]; rfl,hT,hP.same s1,po,by omega,by omega,fun H2 s2=>?_⟩
   have s12:=s1.trans s2
   refine ⟨_,rfl,rfl,_,rfl,?_⟩
   cases hf:RC.faultFrom n wd p 0 none (fun _=>none) ts with
   | some i=>
    rw [hf] at k
    refine iteT ⟨_,rfl,(by show 1<=sizeLine; decide),fun a1 ha1=>?_⟩
    exact rd1 (n := -3) (l:=[i]) uS (by simp) (k.tells hB (s12.trans (Same.new (Same.refl H2) ha1)))
   | none=>
    rw [hf] at k
    simp only at k
    have h1':=s12 _ _ h1
    refine iteF ⟨_,rfl,_,rfl,_,rfl,_,rfl,b,C.CB,dx,_,_,rfl,h1',T.cl,T.no _ (by simp),zAN _ _,t,pa,ts,p,wd,n,by rw [e0]; rfl,hT.same s2,hP.same s12,po,by omega,by omega,hf,fun c H3 s3 hc hS=>?_⟩
    have s13:=s12.trans s3
    obtain ⟨xo,_⟩:=RC.cutStrip_ok po.l1 (by omega) (by omega) (by omega) hf
    refine ⟨_,rfl,_,rfl,b,C.CB,dx,_,_,rfl,s13 _ _ h1,T.cl,T.no _ (by simp),zAN _ _,c,pa,_,p,by rw [e0]; rfl,hS.same zLu,xo,hP.same s13,po,fun v H4 s4 hW=>?_⟩
    have s14:=s13.trans s4
    refine ⟨_,rfl,rfl,_,rfl,?_⟩
    cases hj:RC.judgeL p (RC.cutStrip n wd p ts) with
    | some z=>
     rw [hj] at hW k
     obtain ⟨w3,e5,hw3⟩:=hW
     rw [decide_eq_false (by rw [e5]; intro z; cases z)]
     refine iteT ⟨_,rfl,w3,z,by rw [e5]; rfl,hw3,fun q hq=>?_⟩
     exact rd1 (n := -9) uS (by simp [RC.wrong3]) (k.tells hB (s14.trans (Same.new (Same.refl H4) hq)))
    | none=>
     rw [hj] at hW k
     have e5:v = .non:=hW
     rw [decide_eq_true e5]
     simp only at k
     refine iteF ⟨_,rfl,b,dx,_,rfl,s14 _ _ h1,zBn (by decide) (by decide),_,rfl,X,b,l,c,st,RC.cutStrip n wd p ts,rfl,hB.same s14,ok,?_,fun q H5 k5 B5 hq e=>?_⟩
     ·refine hS.same (zCx fun d o z e=>⟨⟨?_,?_,fun hx=>hX d hx (s12.free z)⟩,s4 _ _ e⟩)
      ·exact (nN h1' z).symm
      ·exact (nN (s12 _ _ h2) z).symm
     ·exact k q H5 ((zBi.of s14).trans k5) B5 (s14.free hq) e
end
end RB
end
section
namespace RB
open PySem PySem.Spec PyProof.Rows L2 RX
def KT (K:PySem.W.Frag) (a:Addr) (xs:List V):Prop:=∃ (o:Obj) (its:Array Value) (n:Nat),K.lookup a=some o/\o.cls = .type "tuple" /\ o.data = .seq its n/\its.size<=sizeLine/\Vals xs its.toList
theorem KT.sq {K:PySem.W.Frag} {a:Addr} {xs:List V} (h:KT K a xs) (H:Hp):SqT K H a xs:=.inr h
noncomputable def los:List Nat:=[0,1,1,1]
noncomputable def his:List Nat:=[15,65535,65535,128]
noncomputable def nums (p:Rol.Paper):List Nat:=[p.tail,p.longest,p.bridge,p.near]
structure GR (K:PySem.W.Frag) (mg:Str->Option Value):Prop where
 ex:∃ (R:Addr) (ts:List Addr),mg "PAPER_RANGES" = some (.ref R)/\KT K R (ts.map V.ref)/\ts.length=4/\∀ (i:Nat) (t:Addr),ts[i]? = some t->KT K t [vi (los.getD i 0),vi (his.getD i 0)]
theorem zHj (p:Rol.Paper):RC.PaperOk p↔∀ i,i<4->los.getD i 0<=(nums p).getD i 0/\(nums p).getD i 0<=his.getD i 0:=by
 constructor
 ·intro h i hi
  match i,hi with
  | 0,_=>exact ⟨Nat.zero_le _,h.t⟩
  | 1,_=>exact ⟨h.l1,h.l2⟩
  | 2,_=>exact ⟨h.b1,h.b2⟩
  | 3,_=>exact ⟨h.n1,h.n2⟩
 ·intro h
  exact ⟨(h 0 (by decide)).2,(h 1 (by decide)).1,(h 1 (by decide)).2,(h 2 (by decide)).1,(h 2 (by decide)).2,(h 3 (by decide)).1,(h 3 (by decide)).2⟩
section
variable {P:Program} {w:World} {K:PySem.W.Frag} {mg:Str->Option Value} {base:Heap}
noncomputable def zFO (C:Cs):Sp:=fun vs H Q _=>∃ (X:Addr->Prop) (b l a:Addr) (p:Rol.Paper) (s:RC.St),vs=[.ref b,.ref a]/\zAu C X H b l s/\s.Ok/\H a=some (.lst (vis (nums p)))/\Does C X b l H (RC.mpaper s p) Q
theorem zFX:zAc ["self","numbers","number","ends"] ["self","numbers"] (zAa zIc):=⟨rfl,rfl,rfl,by decide +kernel,rfl,by decide +kernel,by decide +kernel⟩
theorem zLD {f:Addr} {C:Cs} {fd:FuncData} (F:Fun K "lay_paper" "Bench.lay_paper" zIc f fd) (T:Cl K C.CB zBm) (hzip:mg "zip" = none) (gR:GR K mg) (g1:GI mg "OUT_OF_RANGE" (-1)) (G:Gans P w K mg base) (G1:GC P w K mg base 1 "Paper" C.CP ["self","tail","longest","bridge","near"] (spI4 C.CP "tail" "longest" "bridge" "near")):
  FnOk P w K mg base CX0 3 f fd ["self","numbers"] (zFO C):=by
 refine F.ok zFX (fun vs H Q E h=>?_) (fun cdv A outer s H vs Q E hr h=>?_)
 ·obtain ⟨X,b,l,a,p,s,rfl,_⟩:=h
  rfl
 ·obtain ⟨X,b,l,a,p,st,rfl,hB,ok,ha,k⟩:=h
  obtain ⟨R,ts,r1,r2,r3,r4⟩:=gR.ex
  have hr1:=hr.mono (show 1<=2 by decide)
  refine ⟨_,pC (zBb PassesOwn.never rfl (pi_zipT rfl hzip (pA (L2.pv 1) (pA (zGh (v:=.ref R) rfl r1 rfl) pN))) (zLo rfl (zCw (zAn (i:=2) zFX.nd rfl (Or.inl rfl)) (zCw (zAn (i:=3) zFX.nd rfl (Or.inl rfl)) zIh)))
    (pO (zAC (PW.pt (zEE (cR zCC (L2.pv 2) (zAF zEQ (L2.pv 3) zAb (fun _ _=>rfl)) (zAe _)) (zED (cR zEL (L2.pv 2) (zAF zEQ (L2.pv 3) zAb (fun _ _=>rfl)) (zAe _))))) (pO (pR (cG G hr1 zAh (pA (zAG g1) (pA (zAd pN) (pA (zAd pN) pN)))))) zAf)))
   (pC (zBt (L2.pv 0) (zBJ G1 hr (pA (zAF zAi (L2.pv 1) zAb (fun _ _=>rfl)) (pA (zAF zAi (L2.pv 1) zAb (fun _ _=>rfl)) (pA (zAF zAi (L2.pv 1) zAb (fun _ _=>rfl)) (pA (zAF zAi (L2.pv 1) zAb (fun _ _=>rfl)) pN))))) rfl)
   (pO (pR (cG G hr1 zAh (pA zAb (pA (zAd pN) (pA (zAd pN) pN))))))),?_⟩
  have hbad:∀ i,i<4->¬ (los.getD i 0<=(nums p).getD i 0/\(nums p).getD i 0<=his.getD i 0)->∀ H1,Same H H1->zEZ H1 (RC.row (-1) [] []) Q:=fun i hi hn H1 s1=>by
   have:RC.mpaper st p=(st,RC.row (-1) [] []):=by
    unfold RC.mpaper
    rw [if_neg]
    rw [RC.paperOk_iff]
    exact fun z=>hn ((zHj p).mp z i hi)
   rw [this] at k
   exact k.tells hB s1
  refine ⟨_,rfl,a,R,_,_,rfl,SqL.of ha,r2.sq H,zNR (K:=K) (xs:=vis (nums p)) (ys:=ts.map V.ref) (fun i σ H'=>∃ (u v:Option V),σ=[some (.ref b),some (.ref a),u,v]/\Same H H'/\∀ j,j<i->los.getD j 0<=(nums p).getD j 0/\(nums p).getD j 0<=his.getD j 0)
   (by rw [zAg,List.length_map,r3]; exact Nat.le_refl _) ⟨none,none,rfl,Same.refl H,fun j hj=>absurd hj (Nat.not_lt_zero _)⟩ ?_ ?_ ?_⟩
  ·rintro i σ H' ⟨u,v,rfl,s1,_⟩
   exact ⟨SqL.of (s1 _ _ ha),r2.sq H'⟩
  ·rintro i x y T' σ H' hx hy ⟨u,v,rfl,s1,hall⟩ hT'
   obtain ⟨n,hn,rfl⟩:=zBM hx
   obtain ⟨t,ht,rfl⟩:=zBk hy
   have hi:i<4:=zAk hn
   have hng:(nums p).getD i 0=n:=by rw [List.getD_eq_getElem?_getD,hn]; rfl
   have kt:=(r4 i t ht).sq (upd H' T' (.tup [vi n,.ref t]))
   have s2:=Same.new (o:=.tup [vi n,.ref t]) s1 hT'
   refine ⟨T',_,rfl,SqT.of uS,rfl,_,_,rfl,_,_,rfl,rfl,?_⟩
   refine ⟨_,rfl,_,rfl,t,_,_,vi (los.getD i 0),rfl,rfl,kt,rfl,_,_,rfl,rfl,_,rfl,?_⟩
   rw [zBl]
   by_cases c1:n<los.getD i 0
   ·rw [decide_eq_true c1]
    exact iteT (iteT (rd0 (hbad i hi (by rw [hng]; omega) _ s2)))
   ·rw [decide_eq_false c1]
    refine iteF ⟨_,rfl,_,rfl,t,_,_,vi (his.getD i 0),rfl,rfl,kt,rfl,_,_,rfl,rfl,_,rfl,?_⟩
    rw [zBl]
    by_cases c2:his.getD i 0<n
    ·rw [decide_eq_true c2]
     exact iteT (rd0 (hbad i hi (by rw [hng]; omega) _ s2))
    ·rw [decide_eq_false c2]
     refine iteF ⟨_,_,rfl,s2,fun j hj=>?_⟩
     by_cases z:j=i
     ·rw [z,hng]
      omega
     ·exact hall j (by omega)
  ·rintro σ H' ⟨u,v,rfl,s1,hall⟩
   have hall:∀ j,j<4->los.getD j 0<=(nums p).getD j 0/\(nums p).getD j 0<=his.getD j 0:=hall
   have po:=(zHj p).mpr hall
   have ek:RC.mpaper st p=(⟨st.strips,some p⟩,RC.row 0 [] []):=by
    unfold RC.mpaper
    rw [if_pos ((RC.paperOk_iff p).mpr po)]
   rw [ek] at k
   have ha':=s1 _ _ ha
   obtain ⟨dx,cs,pv,h1,h2,h3,h4,h5,hX⟩:=hB.ex
   refine ⟨_,rfl,a,_,_,vi p.tail,rfl,rfl,SqL.of ha',rfl,_,rfl,a,_,_,vi p.longest,rfl,rfl,SqL.of ha',rfl,_,rfl,a,_,_,vi p.bridge,rfl,rfl,SqL.of ha',rfl,_,rfl,a,_,_,vi p.near,rfl,rfl,SqL.of ha',rfl,fun x dz hx hdz hne=>⟨x,dz,_,_,_,_,rfl,uS,rfl,?_⟩⟩
   rw [zAx]
   have hb':=s1 _ _ h1
   have hl':=s1 _ _ h2
   have nbx:b≠x:=nN hb' hx
   have nlx:l≠x:=nN hl' hx
   have s2:Same H' (upd (upd H' dz (.own x)) x (.ins C.CP dz (rec4 "tail" "longest" "bridge" "near" (vi p.tail) (vi p.longest) (vi p.bridge) (vi p.near)))):=Same.own (Same.own (Same.refl H') hdz) hx
   refine ⟨_,rfl,b,C.CB,dx,_,rfl,s2 _ _ hb',T.cl,T.no _ (by simp),(by show 2<1000; decide),?_⟩
   have eput:putF "paper" (.ref x) (benF l pv)=benF l (.ref x):=zGZ (by decide)
   rw [eput]
   have nlb:l≠b:=(zCc h1 h2 (by intro z; cases z)).symm
   refine rd0 (n:=0) fun q H3 s3 hq e=>?_
   have k12:zBi b l H (upd (upd (upd H' dz (.own x)) x (.ins C.CP dz (rec4 "tail" "longest" "bridge" "near" (vi p.tail) (vi p.longest) (vi p.bridge) (vi p.near)))) b (.ins C.CB dx (benF l (.ref x)))):=fun c o n1 n2 z=>by
    rw [uN n1]
    exact s2 _ _ (s1 _ _ z)
   have k13:=k12.trans (zBi.of s3)
   refine k q H3 k13 ⟨dx,cs,.ref x,s3 _ _ uS,s3 _ _ (by rw [uN nlb]; exact s2 _ _ hl'),h3,fun i c y z1 z2=>(h4 i c y z1 z2).same k13.out,⟨x,rfl,dz,zBq ⟨nbx.symm,nlx.symm,fun hx2=>hX x hx2 (s1.free hx)⟩ (s3 _ _ (by rw [uN nbx.symm,uS]; rfl))⟩,k13.there (by rw [s3 _ _ uS]; simp) (by rw [s3 _ _ (show _=some _ by rw [uN nlb]; exact s2 _ _ hl')]; simp) hX⟩ ?_ e
   have hqb:q≠b:=fun z=>by rw [z,uS] at hq; cases hq
   rw [uN hqb] at hq
   exact (s1.trans s2).free hq
noncomputable def zHQ (C:Cs):Sp:=fun vs H Q _=>∃ (X:Addr->Prop) (b l a:Addr) (xs:List Nat) (s:RC.St),vs=[.ref b,.ref a]/\zAu C X H b l s/\s.Ok/\H a=some (.lst (vis xs))/\Does C X b l H (RC.mread s xs) Q
theorem zHT:zAc ["self","text","strip","fault"] ["self","text"] (zAa zKY):=⟨rfl,rfl,rfl,by decide +kernel,rfl,by decide +kernel,by decide +kernel⟩
theorem zNA {f CF:Addr} {C:Cs} {fd:FuncData} (F:Fun K "read" "Bench.read" zKY f fd) (T:Cl K C.CB zBm) (GE_:GE P w K mg base CF) (g1:GI mg "NO_STRIP_TEXT" (-6)) (GA:∃ (fa:Addr) (fda:FuncData),zIy P w K mg base 1 fa fda ["number","listed","text"] zCs/\mg "answer" = some (.ref fa)/\PySem.W.keepIn K (.ref fa)=true/\zBG K fda ["number","listed","text"] [])
  (G1:GF P w K mg base (CXF P w CF) 5 "read_strip" ["given"] (zHL CF C.CS C.CR)) (G2:GM P w K mg base CX0 2 C.CB "keep" ["self","strip"] (zIG C)):
  FnOk P w K mg base CX0 6 f fd ["self","text"] (zHQ C):=by
 obtain ⟨NF,fI,fdI,TF_,_,_⟩:=GE_.ex
 obtain ⟨fa,fda,ga1,ga2,ga3,ga4⟩:=GA
 refine F.ok zHT (fun vs H Q E h=>?_) (fun cdv A outer s H vs Q E hr h=>?_)
 ·obtain ⟨X,b,l,a,xs,s,rfl,_⟩:=h
  rfl
 ·obtain ⟨X,b,l,a,xs,st,rfl,hB,ok,ha,k⟩:=h
  have hr2:=hr.mono (show 2<=5 by decide)
  have hr1:=hr.mono (show 1<=5 by decide)
  refine ⟨_,pC (ps_try (i:=3) (E':=fun c d H'=>c = .ref CF/\∃ dx k,d=some dx/\Same H H'/\H' dx=some (.xd [("place",vi k)])/\RC.readM xs = .error k) TF_ GE_.mg_ rfl rfl zHT.nd rfl rfl rfl
    (fun pn EE hp=>pO (pS (i:=2) zHT.nd rfl (Or.inl rfl) (cG G1 hr hp (pA (L2.pv 1) pN))))
    (fun x o dx pn h1 h2 h3 h4=>zNo ga1 (room_h hr1) ga2 ga3 ga4 (pA (zAG g1) (pA (zAd (pA (zNl TF_ h1 h2 h3 h4 (L2.pv 3) rfl) pN)) (pA (zAd pN) pN)))))
   (pO (pR (zAp T.cl G2 (L2.pv 0) hr2 zAh (pA (L2.pv 2) pN)))),?_⟩
  obtain ⟨dx,cs,pv,h1,h2,h3,h4,h5,hX⟩:=hB.ex
  unfold RC.mread at k
  refine ⟨⟨_,rfl,a,xs,rfl,ha,?_⟩,?_⟩
  ·cases hm:RC.readM xs with
   | error kk=>exact fun dz H' s1 e=>⟨rfl,dz,kk,rfl,s1,e,rfl⟩
   | ok x=>
    rw [hm] at k
    simp only at k ⊢
    intro c H1 s1 hc hS
    refine ⟨_,rfl,b,dx,_,rfl,s1 _ _ h1,zBn (by decide) (by decide),_,rfl,X,b,l,c,st,x,rfl,hB.same s1,ok,?_,fun q H5 k5 B5 hq e=>?_⟩
    ·refine hS.same (zCx fun d o z e=>⟨⟨?_,?_,fun hx=>hX d hx z⟩,e⟩)
     ·exact (nN h1 z).symm
     ·exact (nN h2 z).symm
    ·exact k q H5 ((zBi.of s1).trans k5) B5 (s1.free hq) e
  ·rintro x dz H1 σ' ⟨_,dz',kk,e0,s1,e1,hm⟩ hσ
   cases e0
   rw [hm] at k
   simp only at k
   refine ⟨_,hσ,rfl,(kk:Int),e1,(by show 1<=sizeLine; decide),fun a1 ha1=>?_⟩
   exact rd1 (n := -6) (l:=[kk]) uS (by simp) (k.tells hB (s1.trans (Same.new (Same.refl H1) ha1)))
end
end RB
end
section
namespace RX
open PySem PyProof.Rows
def Rise (xs:Array Nat):Prop:=xs.toList.Pairwise (· < ·)
theorem Rise.lt {xs:Array Nat} (h:Rise xs) {i k:Nat} (hik:i<k) (hk:k<xs.size):xs[i]'(by omega)<xs[k]:=by
 have:=List.pairwise_iff_getElem.mp h i k (by rw [Array.length_toList]; omega) (by rw [Array.length_toList]; exact hk) hik
 simpa using this
structure zMK (xs:Array Nat) (j p:Nat):Prop where
 le:p<=xs.size
 lo:∀ i (h:i<xs.size),i<p->xs[i]<j
 hi:∀ i (h:i<xs.size),p<=i->j<=xs[i]
theorem zMK.uniq {xs:Array Nat} {j p q:Nat} (a:zMK xs j p) (b:zMK xs j q):p=q:=by
 rcases Nat.lt_trichotomy p q with h | h | h
 ·have hp:p<xs.size:=Nat.lt_of_lt_of_le h b.le
  have h1:=b.lo p hp h
  have h2:=a.hi p hp (Nat.le_refl _)
  omega
 ·exact h
 ·have hp:q<xs.size:=Nat.lt_of_lt_of_le h a.le
  have h1:=a.lo q hp h
  have h2:=b.hi q hp (Nat.le_refl _)
  omega
theorem zGn {xs:Array Nat} {j:Nat} (R:Rise xs):∀ (fuel lo hi:Nat),lo<=hi->hi<=xs.size->hi-lo<=fuel->(∀ i (h:i<xs.size),i<lo->xs[i]<j)->(∀ i (h:i<xs.size),hi<=i->j<=xs[i])->zMK xs j (SetTable.below.go xs j fuel lo hi)
 | 0,lo,hi,h1,h2,h3,h4,h5=>by
  have e:lo=hi:=by omega
  unfold SetTable.below.go
  exact ⟨by omega,h4,by rw [e]; exact h5⟩
 | fuel+1,lo,hi,h1,h2,h3,h4,h5=>by
  unfold SetTable.below.go
  by_cases hlt:lo<hi
  ·rw [if_pos hlt]
   have hm:(lo+hi) / 2<xs.size:=by omega
   have hg:xs.getD ((lo+hi) / 2) j=xs[(lo+hi) / 2]:=by simp [Array.getD,hm]
   simp only [hg]
   by_cases hc:xs[(lo+hi) / 2]<j
   ·rw [if_pos hc]
    refine zGn R fuel _ _ (by omega) h2 (by omega) (fun i h hi'=>?_) h5
    by_cases z:i=(lo+hi) / 2
    ·subst z
     exact hc
    ·have:=R.lt (i:=i) (k:=(lo+hi) / 2) (by omega) hm
     omega
   ·rw [if_neg hc]
    refine zGn R fuel _ _ (by omega) (by omega) (by omega) h4 (fun i h hi'=>?_)
    by_cases z:i=(lo+hi) / 2
    ·subst z
     omega
    ·have:=R.lt (i:=(lo+hi) / 2) (k:=i) (by omega) h
     omega
  ·rw [if_neg hlt]
   have e:lo=hi:=by omega
   exact ⟨by omega,h4,by rw [e]; exact h5⟩
theorem zGw {xs:Array Nat} (R:Rise xs) (j:Nat):zMK xs j (SetTable.below xs j):=zGn R _ _ _ (Nat.zero_le _) (Nat.le_refl _) (by omega) (fun i h z=>by omega) (fun i h z=>by omega)
theorem zJY {xs:Array Nat} (R:Rise xs):SetTable.below xs 0=0:=(zGw R 0).uniq ⟨Nat.zero_le _,fun i h z=>by omega,fun i h z=>Nat.zero_le _⟩
theorem zJZ {xs:Array Nat} (R:Rise xs) {i:Nat} (hi:i<xs.size):SetTable.below xs (xs[i]+1)=i+1:=by
 refine (zGw R _).uniq ⟨hi,fun k h z=>?_,fun k h z=>?_⟩
 ·by_cases q:k=i
  ·subst q
   omega
  ·have:=R.lt (i:=k) (k:=i) (by omega) hi
   omega
 ·have:=R.lt (i:=i) (k:=k) (by omega) h
  omega
theorem zNe {xs:Array Nat} (R:Rise xs) {j:Nat} (hj:xs[SetTable.below xs j]? ≠ some j):Rise (SetTable.insertAt xs (SetTable.below xs j) j):=by
 have B:=zGw R j
 generalize SetTable.below xs j=p at B hj
 unfold Rise
 rw [SetTable.toList_insertAt]
 have hge:∀ i (h:i<xs.size),p<=i->j<xs[i]:=fun i h hpi=>by
  have h1:=B.hi p (by omega) (Nat.le_refl _)
  have h2:xs[p]'(by omega)≠j:=fun z=>hj (by rw [Array.getElem?_eq_getElem (by omega),z])
  by_cases q:i=p
  ·subst q
   omega
  ·have:=R.lt (i:=p) (k:=i) (by omega) h
   omega
 have mt:∀ y∈xs.toList.take p,y<j:=fun y hy=>by
  obtain ⟨i,hi,rfl⟩:=List.getElem_of_mem hy
  rw [List.length_take,Array.length_toList] at hi
  rw [List.getElem_take,Array.getElem_toList]
  exact B.lo i (by omega) (by omega)
 have md:∀ y∈xs.toList.drop p,j<y:=fun y hy=>by
  obtain ⟨i,hi,rfl⟩:=List.getElem_of_mem hy
  rw [List.length_drop,Array.length_toList] at hi
  rw [List.getElem_drop,Array.getElem_toList]
  exact hge (p+i) (by omega) (by omega)
 rw [List.pairwise_append]
 refine ⟨R.sublist (List.take_sublist _ _),List.pairwise_cons.mpr ⟨md,R.sublist (List.drop_sublist _ _)⟩,fun a ha b hb=>?_⟩
 rcases List.mem_cons.mp hb with rfl | hb
 ·exact mt a ha
 ·have:=mt a ha
  have:=md b hb
  omega
def zFa (t:SetTable) (j:Nat):Prop:=t.place[SetTable.below t.place j]? ≠ some j
theorem zFq {t:SetTable} {j:Nat} (h:t.slot j = .empty\/t.slot j = .dummy):zFa t j:=by
 intro z
 unfold SetTable.slot at h
 simp only [z] at h
 rcases h with h | h <;> simp at h
theorem zDv {t:SetTable} {f:Nat->Int} {h:Int}:∀ (fuel:Nat) (p:SetTable.Probe) (j:Nat) (d:Option Nat),(∀ x,p.dummy=some x->zFa t x)->SetTable.probe.go t f h fuel p=some (.empty j d)->zFa t j/\∀ x,d=some x->zFa t x
 | 0,p,j,d,_,e=>by unfold SetTable.probe.go at e; cases e
 | fuel+1,p,j,d,hp,e=>by
  have adv:∀ q:SetTable.Probe,(t.advance q).dummy=q.dummy:=fun q=>by
   unfold SetTable.advance
   split
   ·rfl
   ·rfl
  unfold SetTable.probe.go at e
  cases hs:t.slot p.j with
  | empty=>
   rw [hs] at e
   cases e
   exact ⟨zFq (.inl hs),hp⟩
  | dummy=>
   rw [hs] at e
   refine zDv fuel _ j d (fun x hx=>?_) e
   rw [adv] at hx
   cases hx
   exact zFq (.inr hs)
  | live i=>
   rw [hs] at e
   simp only at e
   split at e
   ·cases e
   ·refine zDv fuel _ j d (fun x hx=>?_) e
    rw [adv] at hx
    exact hp x hx
theorem zGp {t:SetTable} {h:Int} {slot:Nat} {b:Bool} (e:t.freeSlot h=some (slot,b)):zFa t slot:=by
 unfold SetTable.freeSlot at e
 split at e
 ·rename_i j d hp
  obtain ⟨h1,h2⟩:=zDv _ _ _ _ (fun x hx=>by cases hx) hp
  cases e
  cases d with
  | none=>exact h1
  | some x=>exact h2 x rfl
 ·cases e
theorem zBH (t:SetTable) (n:Nat):Rise (t.standIn n).place:=by
 unfold Rise SetTable.standIn
 simp only [Array.toList_range]
 exact List.pairwise_lt_range
structure Good (t:SetTable) (led:Bool):Prop where
 rise:Rise t.place
 led:t.led=led
theorem Good.orStandIn {t:SetTable} {b:Bool} (g:Good t b) (n:Nat):Good (t.orStandIn n) b:=by
 unfold SetTable.orStandIn
 split
 ·exact g
 ·exact ⟨zBH t n,g.led⟩
theorem Good.layNew {t:SetTable} {b:Bool} (g:Good t b) (es:Array (Int×Value)) (h:Int) (x:Value):Good (layNew t es h x).2.1 b:=by
 unfold PySem.layNew
 split
 ·rename_i slot wd e
  exact Good.orStandIn (t:=(t.put slot).1) ⟨zNe g.rise (zGp e),g.led⟩ _
 ·exact ⟨zBH t _,g.led⟩
theorem zLX {mask finger moves:Nat} {led plain:Bool} {hs:Array Int} {t:SetTable} {o:Array Nat} (e:SetTable.laid mask finger moves led plain hs=some (t,o)):Good t led:=by
 unfold SetTable.laid at e
 cases hc:SetTable.layClean mask hs with
 | none=>rw [hc] at e; cases e
 | some owner=>
  rw [hc] at e
  have e:some (_,_)=some (t,o):=e
  cases e
  refine ⟨?_,rfl⟩
  unfold Rise
  rw [List.map_filterMap]
  have hsub:List.Sublist ((List.range (mask+1)).filterMap fun j=>Option.map (·.1) ((owner.getD j none).map (j,·))) (List.range (mask+1)):=by
   have:∀ l:List Nat,List.Sublist (l.filterMap fun j=>Option.map (·.1) ((owner.getD j none).map (j,·))) l:=fun l=>by
    induction l with
    | nil=>exact .slnil
    | cons a l ih=>
     rw [List.filterMap_cons]
     cases owner.getD a none with
     | none=>exact ih.cons a
     | some v=>exact ih.cons_cons a
   exact this _
  exact List.pairwise_lt_range.sublist hsub
theorem Good.relayAll {t:SetTable} {b:Bool} (g:Good t b) (es:Array (Int×Value)) (n:Nat):Good (relayAll t es n).2.1 b:=by
 unfold PySem.relayAll
 split
 ·rename_i t' order e
  dsimp only
  split
  ·unfold SetTable.relaid at e
   have:=zLX e
   exact ⟨this.rise,this.led.trans g.led⟩
  ·exact ⟨zBH t _,g.led⟩
 ·exact ⟨zBH t _,g.led⟩
theorem Good.plainOff {t:SetTable} {b:Bool} (g:Good t b):Good { t with plain:=false } b:=⟨g.rise,g.led⟩
theorem zDC {α:Type}:∀ {l:List α} {i:Nat} (h:i<l.length),(l[i]::l.eraseIdx i).Perm l
 | a::l,0,_=>.refl _
 | a::l,i+1,h=>by
  have h':i<l.length:=by rw [List.length_cons] at h; omega
  have ih:=zDC (l:=l) (i:=i) h'
  rw [List.eraseIdx_cons_succ,List.getElem_cons_succ]
  exact (List.Perm.swap _ _ _).trans (ih.cons a)
theorem zLk {α:Type} (next:Nat->Nat):∀ (fuel k:Nat) (left:List α) (out:Array α),fuel=left.length->(pickOrder.go next fuel k left out).toList.Perm (out.toList++left)
 | 0,k,left,out,h=>by
  unfold pickOrder.go
  have:left=[]:=List.length_eq_zero_iff.mp h.symm
  rw [this,List.append_nil]
 | fuel+1,k,left,out,h=>by
  unfold pickOrder.go
  have hlt:next k % left.length<left.length:=Nat.mod_lt _ (by omega)
  rw [List.getElem?_eq_getElem hlt]
  simp only
  refine (zLk next fuel (k+1) _ _ (by rw [List.length_eraseIdx,if_pos hlt]; omega)).trans ?_
  rw [Array.toList_push,List.append_assoc]
  refine List.Perm.append_left _ ?_
  exact zDC hlt
theorem zLj {α:Type} (next:Nat->Nat) (xs:Array α):(pickOrder next xs).toList.Perm xs.toList:=by
 have:=zLk next xs.size 0 xs.toList #[] (by rw [Array.length_toList])
 simpa [pickOrder] using this
end RX
end
section
namespace RX
open PySem PySem.Spec PyProof.Rows
noncomputable def byTx (w:World):Bool:=w.params.followText "set-order"
noncomputable def ival:Value->Int
 | .int i _=>i
 | _=>0
noncomputable def vk (e:Int×Value):Int:=ival e.2
noncomputable abbrev kI (prog:Program) (w:World):PySem.KeyKind prog w Int:=PySem.intKind prog w
theorem el_int {prog:Program} {w:World} {l:List (Int×Value)} (h:ElemsOf (kI prog w) l) {e:Int×Value} (he:e∈l):∃ t,e.2 = .int (vk e) t:=by
 obtain ⟨⟨k,h1,_⟩,_⟩:=h e he
 obtain ⟨t,h2⟩:=Value.isInt_shape h1
 refine ⟨t,?_⟩
 unfold vk
 rw [h2]
 rfl
theorem el_is {prog:Program} {w:World} {l:List (Int×Value)} (h:ElemsOf (kI prog w) l) {e:Int×Value} (he:e∈l) (k:Int):(kI prog w).is k e.2=true↔k=vk e:=by
 obtain ⟨t,h1⟩:=el_int h he
 constructor
 ·intro h2
  exact (kI prog w).inj e.2 k (vk e) h2 (by rw [h1]; exact intKind_is prog w _ _)
 ·rintro rfl
  rw [h1]
  exact intKind_is prog w _ _
structure SGo (prog:Program) (w:World) (o:Obj) (es:Array (Int×Value)) (ep:Nat) (t:SetTable) (L:List Int) (m:Nat):Prop where
 ex:o.ExactSet
 dat:o.data = .set es ep t
 el:ElemsOf (kI prog w) es.toList
 nd:(es.toList.map vk).Nodup
 mem:∀ z,z∈es.toList.map vk↔z∈L
 few:es.size<=m
 fits:t.fits es.size=true
 good:Good t (!byTx w)
def SG (prog:Program) (w:World) (h:Heap) (a:Addr) (L:List Int) (m:Nat):Prop:=∃ o es ep t,h.get? a=some o/\SGo prog w o es ep t L m
theorem SG.keep {prog:Program} {w:World} {h h':Heap} {a:Addr} {L:List Int} {m:Nat} (s:SG prog w h a L m) (e:∀ o,h.get? a=some o->h'.get? a=some o):SG prog w h' a L m:=
 let ⟨o,es,ep,t,ho,g⟩:=s; ⟨o,es,ep,t,e _ ho,g⟩
section
variable {prog:Program} {w:World} {A:Around} {E:Value->Shared->Prop} {s:Shared}
theorem stored {h:Heap} {a:Addr} {o:Obj} {es es':Array (Int×Value)} {ep:Nat} {t t':SetTable} (ho:h.get? a=some o) (hd:o.data = .set es ep t):(h.update a (Obj.putSet es' t')).get? a=some { o with data:=.set es' (ep+1) t' }:=by
 have:=Heap.get?_update_self (Obj.putSet es' t') ho (by rw [putSet_of es' t' hd]; rfl)
 rw [putSet_of es' t' hd] at this
 exact this
theorem addEnd {g:Bool->Sem Unit} (hg:∀ (b:Bool) (s₁:Shared) (Q':Unit->Shared->Prop),Q' () s₁->wpAny (model prog w) A (g b) Q' E s₁) {a:Addr} {o:Obj} {es:Array (Int×Value)} {ep:Nat} {t:SetTable} {L L':List Int} {m m':Nat}
  (ho:s.heap.get? a=some o) (G:SGo prog w o es ep t L m) {es1:Array (Int×Value)} {t2:SetTable} (hm':m'<scanBound)
  (G1:∀ o' ep',o'.ExactSet->o'.data = .set es1 ep' t2->SGo prog w o' es1 ep' t2 L' m') {wd:Bool} {R:Option Bool->Shared->Prop}
  (h:∀ h',Heap.SameBut a s.heap h'->SG prog w h' a L' m'->R (some true) { s with heap:=h' }):
  wpAny (model prog w) A (do
    storeSet a es1 t2
    if (!wd&&t2.tooFull)=true then do
      g (relayAll t2 es1 (SetTable.grown es1.size)).2.2
      storeSet a (relayAll t2 es1 (SetTable.grown es1.size)).1 (relayAll t2 es1 (SetTable.grown es1.size)).2.1
      pure (some true)
     else pure (some true)) R E s:=by
 have G2:=G1 { o with data:=.set es1 (ep+1) t2 } (ep+1) G.ex rfl
 refine wpAny_bind (wpAny_storeSet_of ho G.dat ?_ (fits_of_scanBound (Nat.lt_of_le_of_lt G2.few hm')))
 have ho1:=stored (es':=es1) (t':=t2) ho G.dat
 have sb1:=Heap.SameBut.update s.heap a (Obj.putSet es1 t2)
 split
 ·have hp:=relayAll_perm t2 es1 (SetTable.grown es1.size)
  have hf:=relayAll_fits t2 es1 (SetTable.grown es1.size)
  have hg2:=G2.good.relayAll es1 (SetTable.grown es1.size)
  generalize relayAll t2 es1 (SetTable.grown es1.size)=rl at hp hf hg2 ⊢
  obtain ⟨es2,t3,gv⟩:=rl
  simp only at hp hf hg2 ⊢
  have hsz:es2.size=es1.size:=by rw [<- Array.length_toList,hp.length_eq,Array.length_toList]
  refine wpAny_bind (hg _ _ _ ?_)
  refine wpAny_bind (wpAny_storeSet_of ho1 rfl ?_ (fits_of_scanBound (by rw [hsz]; exact Nat.lt_of_le_of_lt G2.few hm')))
  have ho2:=stored (es':=es2) (t':=t3) ho1 rfl
  refine wpAny_pure (h _ (sb1.trans (Heap.SameBut.update _ a _)) ⟨_,es2,_,t3,ho2,⟨G.ex,rfl,G2.el.perm hp,(hp.map vk).nodup_iff.mpr G2.nd,fun z=>((hp.map vk).mem_iff).trans (G2.mem z),by rw [hsz]; exact G2.few,hf,hg2⟩⟩)
 ·exact wpAny_pure (h _ sb1 ⟨_,es1,_,t2,ho1,G2⟩)
theorem addInt {a:Addr} {L:List Int} {m:Nat} {k:Int} {tk:Tok} {Q:Bool->Shared->Prop} (hS:SG prog w s.heap a L m) (hroom:m+1<scanBound)
  (h:∀ b h',Heap.SameBut a s.heap h'->SG prog w h' a (L++[k]) (m+1)->Q b { s with heap:=h' }):wpAny (model prog w) A (setAddHashed a (.int k tk) ((kI prog w).hash k)) Q E s:=by
 obtain ⟨o,es,ep,t,ho,G⟩:=hS
 have hkey:(kI prog w).is k (.int k tk)=true:=intKind_is prog w k tk
 have hb:es.size<scanBound:=by have:=G.few; omega
 have hsc:(Value.int k tk).scannable=true:=rfl
 unfold setAddHashed setAddHashedIn
 refine wpAny_holding (wpAny_bind (wpAny_setState_of ho G.dat G.fits ?_))
 simp only
 rw [byScan_of (knd:=kI prog w) hsc hb G.el,if_pos rfl]
 unfold setAddByScan
 refine wpAny_bind (wpAny_bind (wpAny_rule (wpAny_bind (wpAny_setScan_of (knd:=kI prog w) hkey ho G.dat G.fits G.el ?_))))
 cases hr:List.findIdx? (fun e=>(kI prog w).is k e.2) es.toList with
 | some j=>
  simp only
  obtain ⟨hj,hpj,_⟩:=List.findIdx?_eq_some_iff_getElem.mp hr
  have hin:=List.getElem_mem hj
  have hkv:=(el_is G.el hin k).mp hpj
  have hkL:k∈L:=(G.mem k).mp (by rw [hkv]; exact List.mem_map_of_mem hin)
  refine wpAny_pure (wpAny_pure ?_)
  have:=h false s.heap (Heap.SameBut.refl a s.heap) ⟨o,es,ep,t,ho,⟨G.ex,G.dat,G.el,G.nd,fun z=>?_,Nat.le_succ_of_le G.few,G.fits,G.good⟩⟩
  ·exact this
  ·rw [G.mem z,List.mem_append,List.mem_singleton]
   exact ⟨.inl,fun q=>q.elim id fun q=>by rw [q]; exact hkL⟩
 | none=>
  simp only
  have hnot:k∉es.toList.map vk:=fun q=>by
   obtain ⟨e,he,hk⟩:=List.mem_map.mp q
   have h1:=List.findIdx?_eq_none_iff.mp hr e he
   rw [(el_is G.el he k).mpr hk.symm] at h1
   cases h1
  have hperm:=layNew_perm t es ((kI prog w).hash k) (.int k tk)
  have hfits:=layNew_fits t es ((kI prog w).hash k) (.int k tk)
  have hgood:=G.good.layNew es ((kI prog w).hash k) (.int k tk)
  generalize layNew t es ((kI prog w).hash k) (.int k tk)=ln at hperm hfits hgood ⊢
  obtain ⟨es1,t1,wd,gv⟩:=ln
  simp only at hperm hfits hgood ⊢
  rw [Array.toList_push] at hperm
  have hsz1:es1.size=es.size+1:=by rw [<- Array.length_toList,hperm.length_eq,List.length_append,Array.length_toList]; rfl
  have hmp:=hperm.map vk
  rw [List.map_append] at hmp
  have mk:∀ t2:SetTable,t2.fits es1.size=true->Good t2 (!byTx w)->∀ o' ep',o'.ExactSet->o'.data = .set es1 ep' t2->SGo prog w o' es1 ep' t2 (L++[k]) (m+1):=fun t2 f2 g2 o' ep' x' d'=>by
   refine ⟨x',d',(G.el.push hkey hsc).perm hperm,hmp.nodup_iff.mpr ?_,fun z=>hmp.mem_iff.trans ?_,by have:=G.few; omega,f2,g2⟩
   ·rw [List.nodup_append]
    refine ⟨G.nd,by simp,fun x hx y hy=>?_⟩
    have:y=k:=by simpa [vk,ival] using hy
    rw [this]
    exact fun q=>hnot (by rw [<- q]; exact hx)
   ·rw [List.mem_append,List.mem_append,G.mem z]
    show _\/z∈[k]↔_
    exact Iff.rfl
  have hgw:∀ (b:Bool) (s₁:Shared) (Q':Unit->Shared->Prop),Q' () s₁->wpAny (model prog w) A (match b with | true=>rule "set.scan.the-table-gave-way" | false=>pure ()) Q' E s₁:=fun b s₁ Q' hq=>by
   cases b
   ·exact wpAny_pure hq
   ·exact wpAny_rule hq
  refine wpAny_bind (hgw _ _ _ ?_)
  split
  ·refine wpAny_bind ?_
   rw [hashByValue_scannable 8 hsc]
   refine wpAny_pure (addEnd (L':=L++[k]) (m':=m+1) ?_ ho G hroom ?_ fun h' sb S'=>wpAny_pure (h true h' sb S'))
   ·intro b s₁ Q' hq
    cases b
    ·exact wpAny_pure hq
    ·exact wpAny_rule hq
   ·split
    ·exact mk t1 hfits hgood
    ·exact mk _ (SetTable.fits_plain_off hfits) hgood.plainOff
  ·refine wpAny_bind (wpAny_pure ?_)
   simp only [↓reduceIte]
   refine addEnd (L':=L++[k]) (m':=m+1) ?_ ho G hroom (mk t1 hfits hgood) fun h' sb S'=>wpAny_pure (h true h' sb S')
   intro b s₁ Q' hq
   cases b
   ·exact wpAny_pure hq
   ·exact wpAny_rule hq
end
end RX
end
section
namespace RX
open PySem PySem.Spec PyProof.Rows
section
variable {prog:Program} {w:World} {A:Around} {R:Result->Shared->Prop} {I:Addr} {fp wr:List Addr} {G:Array GenState->Array GenState->Prop} {P:Nat->Value->Prop} {St:Nat->Shared->Prop}
theorem zKi {ns:List Int} (W:WalksS prog w A.in1 I fp wr G ns.length P St) (S:Addr) (hS:S∉fp) (hval:∀ i v,P i v->∃ t,v = .int (ns.getD i 0) t) (hb:ns.length+1<scanBound):
  ∀ (k i:Nat) (s:Shared),ns.length-i=k->i<=ns.length->St i s->SG prog w s.heap S (ns.take i) i->
   (∀ s',Moved (S::wr) G s s'->SG prog w s'.heap S ns ns.length->R (.ok (.ret .none)) s')->codeAny (model prog w) A (.builtin "set.update.loop" ⟨[.ref S,.ref I],[]⟩) R s
 | 0,i,s,hk,hi,st,g,hR=>by
  have e:i=ns.length:=by omega
  subst e
  refine codeAny_builtin PyProof.Rows.F.entry_set_update_loop ?_
  rw [Around.under_plainId PyProof.Rows.F.plain_set_update_loop]
  show wpAny _ A.in1 (pyNext (.ref I) >>= _) _ _ (s:Shared)
  refine wpAny_bind (W.done s _ _ st fun s' hm=>wpAny_pure (hR s' (hm.mono fun b z=>List.mem_cons_of_mem _ z) ?_))
  rw [List.take_length] at g
  exact g.keep fun o q=>hm.heap S _ (fun z=>hS (W.sub _ z)) q
 | k+1,i,s,hk,hi,st,g,hR=>by
  have hlt:i<ns.length:=by omega
  have hw:S∉wr:=fun z=>hS (W.sub _ z)
  refine codeAny_builtin PyProof.Rows.F.entry_set_update_loop ?_
  rw [Around.under_plainId PyProof.Rows.F.plain_set_update_loop]
  show wpAny _ A.in1 (pyNext (.ref I) >>= _) _ _ (s:Shared)
  refine wpAny_bind (W.item i s _ _ hlt st fun v s' hP st' hm=>?_)
  obtain ⟨t,rfl⟩:=hval i v hP
  have hget:ns.getD i 0=ns[i]:=by rw [List.getD_eq_getElem?_getD,List.getElem?_eq_getElem hlt]; rfl
  have g':SG prog w s'.heap S (ns.take i) i:=g.keep fun o q=>hm.heap S _ hw q
  show wpAny _ A.in1 (holding [Value.int (ns.getD i 0) t] (setAdd S (.int (ns.getD i 0) t)) >>= _) _ _ (s':Shared)
  refine wpAny_bind (wpAny_holding ?_)
  unfold setAdd
  refine wpAny_holding (wpAny_bind ((kI prog w).pyHash (k:=ns.getD i 0) (intKind_is _ _ _ _) ?_))
  refine addInt (s:={ s' with toks:=s'.toks+1 }) g' (by omega) fun b h' sb S2=>wpAny_pure ⟨plainId_quiet PyProof.Rows.F.plain_set_update_loop _,zKi W S hS hval hb k (i+1) _ (by omega) hlt (W.frame _ s' _ _ st' (Nat.le_succ _) fun c hc o q=>?_) ?_ fun s2 hm2 S3=>hR s2 ?_ S3⟩
  ·rw [sb.2 c (fun z:c=S=>hS (by rw [<- z]; exact hc))]
   exact q
  ·have e:ns.take (i+1)=ns.take i++[ns.getD i 0]:=by rw [hget,List.take_succ_eq_append_getElem hlt]
   rw [e]
   exact S2
  ·refine Moved.trans W.gtrans ((hm.mono fun b z=>List.mem_cons_of_mem _ z).then_heap (Nat.le_succ _) fun c o hc q=>?_) hm2
   rw [sb.2 c (fun z:c=S=>hc (by rw [z]; exact List.mem_cons_self))]
   exact q
end
section
variable {prog:Program} {w:World} {A:Around} {E:Value->Shared->Prop} {s:Shared}
noncomputable abbrev zBr (w:World):Obj:={ cls:=.type "set",dict:=none,data:=.set #[] 0 (.fresh 0 0 (!byTx w)) }
theorem setNew1 (a:Value) {Q₁:Value->Shared->Prop} (h:Q₁ (.ref s.heap.objs.size) { s with heap:=s.heap.push (zBr w) }):
  codeAny (model prog w) A (.call (.builtin "set.__new__") ⟨[.type "set",a],[]⟩) (wants Q₁ E) s:=by
 refine codeAny_of_tree ?_
 show wpAny _ A.in1 (do checkBuiltinCall "set.__new__" ⟨[.type "set",a],[]⟩; again (.builtin "set.__new__" ⟨[.type "set",a],[]⟩)) (_) (_) s
 refine wpAny_bind (wpAny_of_eq (PySem.F.newCall_set_1 a) (wpAny_pure ⟨plainId_quiet PySem.F.plain_set_new _,codeAny_builtin PySem.F.entry_set_new (?_)⟩))
 rw [Around.under_plainId PySem.F.plain_set_new]
 unfold Builtin.«set.__new__» Builtin.Frozenset.newClass; skip
 have ksub:=sub_set_self
 obtain ⟨hp,g,d,tk,os⟩:=s
 simp only
 wp_walk
 refine wpAny_askSetting (wpAny_pure (?_))
 simp only [newObj]
 refine wpAny_bind (wpAny_alloc (wpAny_pure (?_)))
 exact wpAny_pure h
theorem zNQ {h:Heap} {a:Addr} (e:h.get? a=some (zBr w)):SG prog w h a [] 0:=
 ⟨_,#[],0,_,e,⟨⟨rfl,rfl,rfl⟩,rfl,(fun x hx=>by simp at hx),by simp,fun z=>by simp,Nat.le_refl _,rfl,⟨by show List.Pairwise _ []; exact .nil,rfl⟩⟩⟩
theorem zKI {l:Addr} {its:Array Value} {ns:List Int} {Q:Value->Shared->Prop} (kh:A.handled=none) (hl:s.heap.IsList l its) (hi:IntsAre its.toList ns) (hb:ns.length+1<scanBound)
  (h:∀ (h':Heap) (tk:Nat),SG prog w h' s.heap.objs.size ns ns.length->(∀ b o,s.heap.get? b=some o->h'.get? b=some o)->Q (.ref s.heap.objs.size) { s with heap:=h',toks:=tk }):
  wpAny (model prog w) A (call (.type "set") [.ref l]) Q E s:=by
 have hz:its.size=ns.length:=by rw [<- hi.length,Array.length_toList]
 obtain ⟨c,tl,kmro⟩:=PySem.F.called_set.mro
 have kmade:=PySem.F.called_set.made
 have ksub:=PySem.F.called_set.sub
 refine wpAny_call (codeAny_of_tree (?_))
 show wpAny _ _ (callAny (.type "set") _) (_) (_) _
 refine wpAny_pure ⟨Code.quiet_builtin _ (by decide +kernel),codeAny_builtin PySem.F.entry_type_call (?_)⟩
 rw [Around.under_plain (weight_type_call_type "set" [Value.ref l] []) rfl]
 have k1:=PySem.F.called_set.notType
 have k2:=PySem.F.called_set.canCreate
 have kct:=PySem.F.typeCall_set_1 (.ref l)
 repeat (any_goals (first | wp_step | assumption))
 refine codeAny_mono (setNew1 (.ref l) (E:=E) (Q₁:=fun obj s₁=>obj = .ref s.heap.objs.size/\s₁={ s with heap:=s.heap.push (zBr w) }) ⟨rfl,rfl⟩) fun r s₁ hr=>?_
 cases r with
 | error e=>exact hr
 | ok fl=>
  cases fl with
  | ret obj=>
   obtain ⟨rfl,rfl⟩:=hr
   have kS:(s.heap.push (zBr w)).get? s.heap.objs.size=some (zBr w):=Heap.get?_push_size _ rfl
   have kT:Shared.TypeIs { s with heap:=s.heap.push (zBr w) } (.ref s.heap.objs.size) "set" := ⟨_,kS,rfl⟩
   have kli:=PySem.F.called_set.init.lookup
   have kbi:=PySem.F.called_set.init.bind (.ref s.heap.objs.size)
   repeat (any_goals (first | wp_step | assumption))
   refine codeAny_mono (codeAny_call_builtin (R:=wants (fun r s₂=>r = .none/\∃ h' tk,s₂={ s with heap:=h',toks:=tk }/\SG prog w h' s.heap.objs.size ns ns.length/\(∀ b o,s.heap.get? b=some o->h'.get? b=some o)) E) PySem.F.called_set.init.plain PySem.F.entry_set_init (check_set_init_1 kT (?_))) fun r₂ s₂ hr₂=>?_
   ·obtain ⟨ol,hol,kcl,nl,kdl⟩:=hl
    obtain ⟨ocls,odict,odata,oslots⟩:=ol
    simp only at kcl kdl
    subst kcl kdl
    have kol:(s.heap.push (zBr w)).get? l=some { cls:=.type "list",dict:=odict,data:=.seq its nl,slots:=oslots }:=Heap.get?_push_of_some _ hol
    have ksls:=PySem.F.sub_list_set
    have kslf:=PySem.F.sub_list_frozenset
    have kne:(Value.type "list" == Value.type "dict")=false:=by decide
    have kl1:(s.heap.push (zBr w)).IsList l its:=⟨_,kol,rfl,nl,rfl⟩
    unfold Builtin.«set.__init__» noKeywords Builtin.Frozenset.updateFrom; skip
    generalize kPI:pyIter=PI
    wp_walk
    subst kPI
    refine wpAny_pyIter_list kl1 (wpAny_bind (wpAny_runValue ?_))
    have klS:l<s.heap.objs.size:=Heap.lt_size hol
    have kh3:A.in1.in1.in1.handled=none:=by simp [kh]
    have kneI:l≠(s.heap.push (zBr w)).objs.size:=by
     rw [Heap.size_push]
     exact Nat.ne_of_lt (Nat.lt_succ_of_lt klS)
    have kSf:s.heap.objs.size∉[(s.heap.push (zBr w)).objs.size,l]:=by
     rw [Heap.size_push]
     simp only [List.mem_cons,List.not_mem_nil,or_false,not_or]
     exact ⟨Nat.ne_of_lt (Nat.lt_succ_self _),Nat.ne_of_gt klS⟩
    have kval:∀ (i:Nat) (v:Value),its[i]? = some v->∃ t,v = .int (ns.getD i 0) t:=fun i v hv=>IntsAre.int_at hi i v (by rw [Array.getElem?_toList]; exact hv)
    have W:=(Walks.list (prog:=prog) (w:=w) kh3 _ l kneI its).toS
    rw [hz] at W
    refine zKi W s.heap.objs.size kSf kval hb (ns.length-0) 0 _ rfl (Nat.zero_le _) ⟨⟨_,Heap.get?_push_size _ rfl,rfl,rfl⟩,(kl1.push _)⟩ ?_ fun s' hm S'=>?_
    ·exact zNQ (Heap.get?_push_of_some _ kS)
    ·obtain ⟨h',g',d',tk',os'⟩:=s'
     obtain rfl:g'=s.gens:=hm.gens
     obtain rfl:d'=s.drawn:=hm.drawn
     obtain rfl:os'=s.os:=hm.os
     refine wpAny_pure (wpAny_pure ⟨rfl,h',tk',rfl,S',fun b o q=>?_⟩)
     have hb':=Heap.lt_size q
     refine hm.heap b o ?_ (Heap.get?_push_of_some _ (Heap.get?_push_of_some _ q))
     rw [Heap.size_push]
     simp only [List.mem_cons,List.not_mem_nil,or_false,not_or]
     exact ⟨Nat.ne_of_lt hb',Nat.ne_of_lt (Nat.lt_succ_of_lt hb')⟩
   ·cases r₂ with
    | error e=>exact hr₂
    | ok fl₂=>
     cases fl₂ with
     | ret r=>
      obtain ⟨rfl,h',tk,rfl,S',k'⟩:=hr₂
      repeat (any_goals (first | wp_step | assumption))
      exact h _ _ S' k'
     | _=>exact hr₂.elim
  | _=>exact hr.elim
end
end RX
end
section
namespace RX
open PySem PySem.Spec PyProof.Rows
theorem zBA:Slot "set_iterator" "__next__" "set_iterator.__next__" :=
 .of (owner:= "set_iterator") (n:= "__next__") (by rw [typeLookup_type,builtinLookup_eq_fast]; kernel_rfl) (by decide +kernel) (by decide +kernel) (by decide +kernel) (by first | exact .inl (by decide +kernel) | exact .inr (by decide +kernel)) (by rw [isSubtype_type]; kernel_rfl)
theorem zEh:entryFor table "set_iterator.__next__" = some Builtin.«set_iterator.__next__»:=entryFor_of_fast (by kernel_rfl)
theorem zGx (a:Value):argsOk "set_iterator.__next__" ⟨[a],[]⟩:=by unfold argsOk; kernel_rfl
theorem zEU:entryFor table "set.__iter__" = some Builtin.«frozenset.__iter__»:=entryFor_alias (id':= "frozenset.__iter__") (by kernel_rfl) rfl (by decide +kernel) (by kernel_rfl)
theorem zII:Slot "set_iterator" "__iter__" "set_iterator.__iter__" :=
 .of (owner:= "set_iterator") (n:= "__iter__") (by rw [typeLookup_type,builtinLookup_eq_fast]; kernel_rfl) (by decide +kernel) (by decide +kernel) (by decide +kernel) (by first | exact .inl (by decide +kernel) | exact .inr (by decide +kernel)) (by rw [isSubtype_type]; kernel_rfl)
theorem zMs:entryFor table "set_iterator.__iter__" = some Builtin.«dict_keyiterator.__iter__»:=entryFor_alias (id':= "dict_keyiterator.__iter__") (by kernel_rfl) rfl (by decide +kernel) (by kernel_rfl)
theorem zOb (a:Value):argsOk "set_iterator.__iter__" ⟨[a],[]⟩:=by unfold argsOk; kernel_rfl
noncomputable abbrev zKH (first:Value) (i:Nat) (S:Addr) (n ep:Nat):Obj:={ cls:=.type "set_iterator",data:=.fields #[first,.int i 0,.ref S,.int n 0,.int ep 0] }
section
variable {prog:Program} {w:World} {A:Around} {E:Value->Shared->Prop} {s:Shared}
def zOd (prog:Program) (w:World) (S:Addr) (o:Obj) (n ep:Nat) (vs:List Value) (slotAt:Nat->Nat):Prop:=∀ (A:Around) (E:Value->Shared->Prop) (s:Shared) (i:Nat) (Q:Option (Value×Nat)->Shared->Prop),s.heap.get? S=some o->i<=n->
 Q ((vs[i]?).map fun v=>(v,slotAt (i+1))) s->wpAny (model prog w) A (setNext S (slotAt i) i ep) Q E s
theorem siSelf {I S:Addr} {f:Value} {i n ep:Nat} {Q:Value->Shared->Prop} (hI:s.heap.get? I=some (zKH f i S n ep)) (h:Q (.ref I) s):wpAny (model prog w) A (pyIter (.ref I)) Q E s:=by
 have hT:s.TypeIs (.ref I) "set_iterator" := ⟨_,hI,rfl⟩
 refine wpAny_pyIter_slot hT zII (wpAny_call_entry zII hT zMs ?_ (zOb _))
 show wpAny _ _ (ret (.ref I)) _ _ (s:Shared)
 exact wpAny_pure ⟨_,rfl,"set_iterator",_,hT,zBA.lookup,h⟩
theorem siSlots {I S:Addr} {o:Obj} {es:Array (Int×Value)} {ep:Nat} {t:SetTable} {vs:List Value} {slotAt:Nat->Nat} (kh:A.handled=none) (hne:S≠I) (hd:o.data = .set es ep t) (hf:t.fits es.size=true) (hv:vs.length=es.size) (N:zOd prog w S o es.size ep vs slotAt):
  Walks prog w A I [I,S] [I] es.size (fun i v=>vs[i]? = some v) (fun i h=>h.get? I=some (zKH (.int (slotAt i) 0) i S es.size ep)/\h.get? S=some o) where
 sub:=fun b hb=>by simp at hb; simp [hb]
 frame:=fun i h h' st hk=>⟨hk I (by simp) _ st.1,hk S (by simp) _ st.2⟩
 item:=fun i s Q E hi st hQ=>by
  obtain ⟨h1,h2⟩:=st
  have hT:s.TypeIs (.ref I) "set_iterator" := ⟨_,h1,rfl⟩
  unfold pyNext
  refine wpAny_bind (wpAny_attempt (wpAny_callSpecial?_slot (name:=Str.ofString "__next__") hT zBA (wpAny_call_entry zBA hT zEh ?_ (zGx _))))
  unfold Builtin.«set_iterator.__next__»
  refine wpAny_bind (m:=slotArgs "__next__" 0 _) (wpAny_pure ?_)
  refine wpAny_bind (wpAny_fieldsOf h1 rfl ?_)
  simp only
  refine wpAny_bind (wpAny_setEntries_of h2 hd hf ?_)
  rw [if_neg (by simp)]
  simp only [Int.toNat_natCast]
  obtain ⟨v,hv2⟩:∃ v,vs[i]? = some v:=⟨_,List.getElem?_eq_getElem (by omega)⟩
  refine wpAny_bind (N _ _ _ i _ h2 (by omega) ?_)
  rw [hv2]
  simp only [Option.map_some]
  refine wpAny_bind (wpAny_setField_rec h1 (by simp) fun ha g1 sb1=>?_)
  refine wpAny_bind (wpAny_setField_rec g1 (by simp) fun hb g2 sb2=>?_)
  refine wpAny_pure ⟨v,rfl,wpAny_pure (hQ v hb s.toks hv2 ⟨?_,?_⟩ fun b ob hb' q=>?_)⟩
  ·rw [g2]
   simp [rawInt]
  ·exact sb2.extBut _ _ hne (sb1.extBut _ _ hne h2)
  ·have:b≠I:=fun z=>hb' (by simp [z])
   exact sb2.extBut _ _ this (sb1.extBut _ _ this q)
 done:=fun s Q E st hQ=>by
  obtain ⟨h1,h2⟩:=st
  have hT:s.TypeIs (.ref I) "set_iterator" := ⟨_,h1,rfl⟩
  unfold pyNext
  refine wpAny_bind (wpAny_attempt (wpAny_callSpecial?_slot (name:=Str.ofString "__next__") hT zBA (wpAny_call_entry zBA hT zEh ?_ (zGx _))))
  unfold Builtin.«set_iterator.__next__»
  refine wpAny_bind (m:=slotArgs "__next__" 0 _) (wpAny_pure ?_)
  refine wpAny_bind (wpAny_fieldsOf h1 rfl ?_)
  simp only
  refine wpAny_bind (wpAny_setEntries_of h2 hd hf ?_)
  rw [if_neg (by simp)]
  simp only [Int.toNat_natCast]
  refine wpAny_bind (N _ _ _ es.size _ h2 (Nat.le_refl _) ?_)
  rw [List.getElem?_eq_none (by omega)]
  simp only [Option.map_none]
  refine wpAny_bind (wpAny_setField_rec h1 (by simp) fun ha g1 sb1=>?_)
  refine wpAny_bind ?_
  simp only [newExc,newTuple]
  refine wpAny_bind (wpAny_newObj_type ?_ (by size_fits))
  refine wpAny_bind (m:=firstArgMember _ _) (wpAny_of_eq (a:=Value.none) (by first | rfl | (simp only [firstArgMember]; rfl)) ?_)
  refine wpAny_newObj_type ?_ (by size_fits)
  simp only [raiseNew]
  refine wpAny_bind (wpAny_handled ?_)
  rw [show A.in1.handled=none from kh]
  refine wpAny_bind (wpAny_pure (wpAny_throw ?_))
  refine wpAny_bind (wpAny_isInstance (T:= "StopIteration") (b:=true) ⟨_,Heap.get?_push_size _ rfl,rfl⟩ isSubtype_stop ?_)
  refine wpAny_pure (hQ _ s.toks fun b ob hb' q=>?_)
  have:b≠I:=fun z=>hb' (by simp [z])
  exact Heap.get?_push_of_some _ (Heap.get?_push_of_some _ (sb1.extBut _ _ this q))
 self:=fun i s Q E st h=>siSelf st.1 h
theorem siDrawn {I S T:Addr} {o:Obj} {es:Array (Int×Value)} {ep:Nat} {t:SetTable} {ps:List Nat} (kh:A.handled=none) (hne:S≠I) (hTI:T≠I) (hd:o.data = .set es ep t) (hf:t.fits es.size=true) (hp:ps.Perm (List.range es.size)):
  Walks prog w A I [I,S,T] [I] es.size (fun i v=>(ps.filterMap fun p=>(es[p]?).map (·.2))[i]? = some v)
   (fun i h=>h.get? I=some (zKH (if i<=es.size then .ref T else .ref T) i S es.size ep)/\h.get? S=some o/\h.get? T=some { cls:=.type "tuple",data:=.seq (ps.map fun (p:Nat)=>rawInt p).toArray }) where
 sub:=fun b hb=>by simp at hb; simp [hb]
 frame:=fun i h h' st hk=>⟨hk I (by simp) _ st.1,hk S (by simp) _ st.2.1,hk T (by simp) _ st.2.2⟩
 item:=fun i s Q E hi st hQ=>by
  obtain ⟨h1,h2,h3⟩:=st
  rw [if_pos (by omega)] at h1
  have hT:s.TypeIs (.ref I) "set_iterator" := ⟨_,h1,rfl⟩
  have hlen:ps.length=es.size:=by rw [hp.length_eq,List.length_range]
  obtain ⟨p,hpi⟩:∃ p,ps[i]? = some p:=⟨_,List.getElem?_eq_getElem (by omega)⟩
  have hpl:p<es.size:=List.mem_range.mp (hp.mem_iff.mp (List.mem_of_getElem? hpi))
  have hpl2:∀ q∈ps,q<es.size:=fun q hq=>List.mem_range.mp (hp.mem_iff.mp hq)
  have hfm:ps.filterMap (fun p=>(es[p]?).map (·.2))=ps.map fun p=>(es.getD p (0,.none)).2:=by
   have:∀ l:List Nat,(∀ q∈l,q<es.size)->l.filterMap (fun p=>(es[p]?).map (·.2))=l.map fun p=>(es.getD p (0,.none)).2:=fun l hl=>by
    induction l with
    | nil=>rfl
    | cons a l ih=>
     have ha:=hl a List.mem_cons_self
     rw [List.filterMap_cons,List.map_cons,Array.getElem?_eq_getElem ha,ih fun q hq=>hl q (List.mem_cons_of_mem _ hq)]
     simp [Array.getD,ha]
   exact this ps hpl2
  have hv:(ps.filterMap fun p=>(es[p]?).map (·.2))[i]? = some es[p].2:=by
   rw [hfm,List.getElem?_map,hpi]
   simp [Array.getD,hpl]
  unfold pyNext
  refine wpAny_bind (wpAny_attempt (wpAny_callSpecial?_slot (name:=Str.ofString "__next__") hT zBA (wpAny_call_entry zBA hT zEh ?_ (zGx _))))
  unfold Builtin.«set_iterator.__next__»
  refine wpAny_bind (m:=slotArgs "__next__" 0 _) (wpAny_pure ?_)
  refine wpAny_bind (wpAny_fieldsOf h1 rfl ?_)
  simp only
  refine wpAny_bind (wpAny_setEntries_of h2 hd hf ?_)
  rw [if_neg (by simp)]
  simp only [Int.toNat_natCast]
  refine wpAny_bind (wpAny_seqItems h3 rfl ?_)
  simp only
  have hpt:(ps.map fun (p:Nat)=>rawInt p).toArray[i]? = some (.int p 0):=by
   rw [List.getElem?_toArray,List.getElem?_map,hpi]
   rfl
  rw [hpt]
  simp only [Int.toNat_natCast]
  unfold setNextDrawn
  refine wpAny_bind (wpAny_bind (wpAny_setState_of h2 hd hf ?_))
  simp only
  rw [if_neg (by simp),Array.getElem?_eq_getElem hpl]
  refine wpAny_pure ?_
  refine wpAny_bind (wpAny_setField_rec h1 (by simp) fun hb g2 sb2=>?_)
  refine wpAny_pure ⟨_,rfl,wpAny_pure (hQ _ hb s.toks hv ⟨?_,?_,?_⟩ fun b ob hb' q=>?_)⟩
  ·rw [g2]
   simp [rawInt]
  ·exact sb2.extBut _ _ hne h2
  ·exact sb2.extBut _ _ hTI h3
  ·exact sb2.extBut _ _ (fun z=>hb' (by simp [z])) q
 done:=fun s Q E st hQ=>by
  obtain ⟨h1,h2,h3⟩:=st
  rw [if_pos (Nat.le_refl _)] at h1
  have hT:s.TypeIs (.ref I) "set_iterator" := ⟨_,h1,rfl⟩
  have hlen:ps.length=es.size:=by rw [hp.length_eq,List.length_range]
  unfold pyNext
  refine wpAny_bind (wpAny_attempt (wpAny_callSpecial?_slot (name:=Str.ofString "__next__") hT zBA (wpAny_call_entry zBA hT zEh ?_ (zGx _))))
  unfold Builtin.«set_iterator.__next__»
  refine wpAny_bind (m:=slotArgs "__next__" 0 _) (wpAny_pure ?_)
  refine wpAny_bind (wpAny_fieldsOf h1 rfl ?_)
  simp only
  refine wpAny_bind (wpAny_setEntries_of h2 hd hf ?_)
  rw [if_neg (by simp)]
  simp only [Int.toNat_natCast]
  refine wpAny_bind (wpAny_seqItems h3 rfl ?_)
  simp only
  have hpt:(ps.map fun (p:Nat)=>rawInt p).toArray[es.size]? = none:=by
   rw [List.getElem?_toArray,List.getElem?_eq_none]
   rw [List.length_map]
   omega
  rw [hpt]
  simp only
  refine wpAny_bind (wpAny_setField_rec h1 (by simp) fun h0 g0 sb0=>?_)
  refine wpAny_bind (wpAny_setField_rec g0 (by simp) fun ha g1 sb1=>?_)
  refine wpAny_bind ?_
  simp only [newExc,newTuple]
  refine wpAny_bind (wpAny_newObj_type ?_ (by size_fits))
  refine wpAny_bind (m:=firstArgMember _ _) (wpAny_of_eq (a:=Value.none) (by first | rfl | (simp only [firstArgMember]; rfl)) ?_)
  refine wpAny_newObj_type ?_ (by size_fits)
  simp only [raiseNew]
  refine wpAny_bind (wpAny_handled ?_)
  rw [show A.in1.handled=none from kh]
  refine wpAny_bind (wpAny_pure (wpAny_throw ?_))
  refine wpAny_bind (wpAny_isInstance (T:= "StopIteration") (b:=true) ⟨_,Heap.get?_push_size _ rfl,rfl⟩ isSubtype_stop ?_)
  refine wpAny_pure (hQ _ s.toks fun b ob hb' q=>?_)
  have:b≠I:=fun z=>hb' (by simp [z])
  exact Heap.get?_push_of_some _ (Heap.get?_push_of_some _ (sb1.extBut _ _ this (sb0.extBut _ _ this q)))
 self:=fun i s Q E st h=>siSelf st.1 h
theorem zLL {S:Addr} {o:Obj} {es:Array (Int×Value)} {ep:Nat} {t:SetTable} (hx:byTx w=true) (hd:o.data = .set es ep t) (hf:t.fits es.size=true):zOd prog w S o es.size ep ((pickOrder (w.params.setOrder S ep) es).toList.map (·.2)) (fun _=>0):=by
 intro A E s i Q h1 hi h
 unfold setNext
 refine wpAny_bind (wpAny_setState_of h1 hd hf ?_)
 simp only
 unfold setsByText
 refine wpAny_bind (wpAny_bind (wpAny_askSetting (wpAny_pure ?_)))
 have hx':(model prog w).w.params.followText "set-order" = true:=hx
 simp only [hx',↓reduceIte,bne_self_eq_false,Bool.false_eq_true]
 refine wpAny_bind ?_
 unfold setWalk
 refine wpAny_bind (wpAny_setState_of h1 hd hf ?_)
 simp only
 unfold setsByText
 refine wpAny_bind (wpAny_bind (wpAny_askSetting (wpAny_pure ?_)))
 simp only [hx',↓reduceIte]
 refine wpAny_bind (wpAny_askSetting (wpAny_pure (wpAny_pure ?_)))
 have e:((pickOrder (w.params.setOrder S ep) es)[i]?).map (fun e=>(e.2,0))=(((pickOrder (w.params.setOrder S ep) es).toList.map (·.2))[i]?).map fun v=>(v,0):=by
  rw [List.getElem?_map,Array.getElem?_toList,Option.map_map]
  rfl
 rw [<- e] at h
 exact h
noncomputable def zDq (t:SetTable):Nat->Nat
 | 0=>0
 | i+1=>t.place.getD i 0+1
theorem zNE {S:Addr} {o:Obj} {es:Array (Int×Value)} {ep:Nat} {t:SetTable} (hx:byTx w=false) (hd:o.data = .set es ep t) (hf:t.fits es.size=true) (g:Good t true) (hn:(!t.plain&&decide (es.size>1))=false):zOd prog w S o es.size ep (es.toList.map (·.2)) (zDq t):=by
 intro A E s i Q h1 hi h
 have hps:t.place.size=es.size:=by
  unfold SetTable.fits at hf
  simp only [Bool.and_eq_true,beq_iff_eq] at hf
  exact hf.1
 unfold setNext
 refine wpAny_bind (wpAny_setState_of h1 hd hf ?_)
 simp only
 unfold setsByText
 refine wpAny_bind (wpAny_bind (wpAny_askSetting (wpAny_pure ?_)))
 have hx':(model prog w).w.params.followText "set-order" = false:=hx
 simp only [hx',Bool.false_eq_true,↓reduceIte]
 show wpAny _ _ (if (!t.plain&&decide (es.size>1))=true then _ else _) _ _ _
 rw [hn,if_neg (by decide)]
 have hled:t.led=true:=g.led
 show wpAny _ _ ((if (!t.led&&!es.isEmpty)=true then unsupported "set:maker-not-led" else pure ()) >>= _) _ _ _
 rw [hled,if_neg (by simp)]
 refine wpAny_bind (wpAny_pure (wpAny_pure ?_))
 have hbi:SetTable.below t.place (zDq t i)=i:=by
  cases i with
  | zero=>exact zJY g.rise
  | succ i=>
   have hlt:i<t.place.size:=by omega
   have:zDq t (i+1)=t.place[i]+1:=by simp [zDq,Array.getD,hlt]
   rw [this]
   exact zJZ g.rise hlt
 rw [hbi]
 rw [List.getElem?_map,Array.getElem?_toList] at h
 by_cases hlt:i<es.size
 ·have hl2:i<t.place.size:=by omega
  rw [Array.getElem?_eq_getElem hlt,Array.getElem?_eq_getElem hl2]
  rw [Array.getElem?_eq_getElem hlt] at h
  have:zDq t (i+1)=t.place[i]+1:=by simp [zDq,Array.getD,hl2]
  rw [this] at h
  exact h
 ·rw [Array.getElem?_eq_none (by omega)]
  rw [Array.getElem?_eq_none (by omega)] at h
  exact h
theorem zJu {src:Source} {n:Nat} {Q:Nat->Shared->Prop} (hn:n≠0) (h:∀ i d,i<n->Q i { s with drawn:=d }):wpAny (model prog w) A (choose src n) Q E s:=fun _ _ _=>⟨hn,h _ _ (Nat.mod_lt _ (Nat.pos_of_ne_zero hn))⟩
theorem zHu {α:Type}:∀ (n:Nat) (xs:List α) (s:Shared) (Q:List α->Shared->Prop),n=xs.length->(∀ ys d,ys.Perm xs->Q ys { s with drawn:=d })->wpAny (model prog w) A (drawOrder n xs) Q E s
 | 0,xs,s,Q,h,k=>by
  have:xs=[]:=List.length_eq_zero_iff.mp h.symm
  subst this
  exact wpAny_pure (k [] s.drawn (.refl _))
 | n+1,[],s,Q,h,k=>by cases h
 | n+1,x::xs,s,Q,h,k=>by
  unfold drawOrder
  refine wpAny_bind (zJu (by simp) fun i d hi=>?_)
  rw [List.getElem?_eq_getElem hi]
  simp only
  refine wpAny_bind (zHu n _ _ _ (by rw [List.length_eraseIdx,if_pos hi]; simp at h ⊢; omega) fun ys d' hp=>wpAny_pure (k _ d' ?_))
  exact (hp.cons _).trans (zDC hi)
end
end RX
end
section
namespace RX
open PySem PySem.Spec PyProof.Rows
theorem zMi {vs:List Value} (h:∀ v∈vs,∃ t,v = .int (ival v) t):IntsAre vs (vs.map ival):=by
 induction vs with
 | nil=>exact .nil
 | cons v vs ih=>
  obtain ⟨t,e⟩:=h v List.mem_cons_self
  rw [List.map_cons]
  have:=ih fun x hx=>h x (List.mem_cons_of_mem _ hx)
  rw [e]
  exact .cons _ _ this
section
variable {prog:Program} {w:World} {A:Around} {E:Value->Shared->Prop} {s:Shared}
structure zJr (L:List Int) (m:Nat) (vs:List Value):Prop where
 are:IntsAre vs (vs.map ival)
 nd:(vs.map ival).Nodup
 mem:∀ z,z∈vs.map ival↔z∈L
 few:vs.length<=m
theorem zKe {o:Obj} {es:Array (Int×Value)} {ep:Nat} {t:SetTable} {L:List Int} {m:Nat} {vs:List Value} (G:SGo prog w o es ep t L m) (hp:vs.Perm (es.toList.map (·.2))):zJr L m vs:=by
 have e:(es.toList.map (·.2)).map ival=es.toList.map vk:=by rw [List.map_map]; rfl
 have hp2:=hp.map ival
 rw [e] at hp2
 refine ⟨zMi fun v hv=>?_,hp2.nodup_iff.mpr G.nd,fun z=>hp2.mem_iff.trans (G.mem z),?_⟩
 ·obtain ⟨x,hx,rfl⟩:=List.mem_map.mp (hp.mem_iff.mp hv)
  exact el_int G.el hx
 ·rw [hp.length_eq,List.length_map,Array.length_toList]
  exact G.few
theorem iterSet {S:Addr} {L:List Int} {m:Nat} {Q:Value->Shared->Prop} (hS:SG prog w s.heap S L m) (hm:m<scanBound)
  (h:∀ (I:Addr) (h':Heap) (d:Drawn) (fp:List Addr) (n:Nat) (vs:List Value) (St:Nat->Heap->Prop),n=vs.length->(∀ A':Around,A'.handled=none->Walks prog w A' I fp [I] n (fun i v=>vs[i]? = some v) St)->St 0 h'->s.heap.objs.size<=I->(∀ b∈fp,b=S\/s.heap.objs.size<=b)->
   (∀ b o,s.heap.get? b=some o->h'.get? b=some o)->zJr L m vs->Q (.ref I) { s with heap:=h',drawn:=d }):wpAny (model prog w) A (pyIter (.ref S)) Q E s:=by
 obtain ⟨o,es,ep,t,ho,G⟩:=hS
 have hT:s.TypeIs (.ref S) "set" := ⟨o,ho,G.ex.1⟩
 have hSlt:S<s.heap.objs.size:=Heap.lt_size ho
 have hz:es.size<=sizeLine:=fits_of_scanBound (Nat.lt_of_le_of_lt G.few hm)
 refine wpAny_pyIter_slot hT PySem.F.slot_set_iter (wpAny_call_entry PySem.F.slot_set_iter hT zEU ?_ (PySem.F.args_set_iter_1 _))
 unfold Builtin.«frozenset.__iter__» Builtin.Frozenset.slot0
 refine wpAny_bind (wpAny_bind (m:=slotArgs "__iter__" 0 _) (wpAny_pure ?_))
 refine wpAny_pure ?_
 unfold Builtin.Frozenset.sizeOf
 refine wpAny_bind (wpAny_bind (wpAny_setEntries_of ho G.dat G.fits (wpAny_pure ?_)))
 unfold setDrawn
 refine wpAny_bind (wpAny_bind (wpAny_setState_of ho G.dat G.fits ?_))
 simp only
 unfold setsByText
 refine wpAny_bind (wpAny_bind (wpAny_askSetting (wpAny_pure ?_)))
 refine wpAny_pure ?_
 show wpAny _ _ (if (!byTx w&&(!t.plain&&decide (es.size>1)))=true then _ else _) _ _ _
 have led:(!byTx w&&(!t.plain&&decide (es.size>1)))=false->∃ (vs:List Value) (sl:Nat->Nat),zOd prog w S o es.size ep vs sl/\vs.length=es.size/\sl 0=0/\zJr L m vs:=fun hc=>by
  cases hx:byTx w with
  | true=>
   have pp:=zLj (w.params.setOrder S ep) es
   exact ⟨_,_,zLL hx G.dat G.fits,by rw [List.length_map,pp.length_eq,Array.length_toList],rfl,zKe G (pp.map _)⟩
  | false=>
   rw [hx,Bool.not_false,Bool.true_and] at hc
   have g:=G.good
   rw [hx] at g
   exact ⟨_,_,zNE hx G.dat G.fits g hc,by rw [List.length_map,Array.length_toList],rfl,zKe G (.refl _)⟩
 cases hc:(!byTx w&&(!t.plain&&decide (es.size>1))) with
 | false=>
  obtain ⟨vs,sl,N,hl,h0,Y⟩:=led hc
  rw [if_neg (by decide)]
  refine wpAny_bind (wpAny_pure ?_)
  refine wpAny_bind (wpAny_setEpoch_of ho G.dat G.fits ?_)
  refine wpAny_bind (wpAny_newObj_type ?_ (by size_fits))
  refine wpAny_pure ⟨_,rfl,"set_iterator",_,⟨_,Heap.get?_push_size _ rfl,rfl⟩,zBA.lookup,?_⟩
  refine h s.heap.objs.size _ s.drawn [s.heap.objs.size,S] es.size vs (fun i h=>h.get? s.heap.objs.size=some (zKH (.int (sl i) 0) i S es.size ep)/\h.get? S=some o) hl.symm (fun A' kh=>?_) ⟨?_,Heap.get?_push_of_some _ ho⟩ (Nat.le_refl _) ?_ (fun b ob q=>Heap.get?_push_of_some _ q) Y
  ·exact siSlots (prog:=prog) (w:=w) (A:=A') (I:=s.heap.objs.size) kh (Nat.ne_of_lt hSlt) G.dat G.fits hl N
  ·rw [h0]
   exact Heap.get?_push_size _ rfl
  ·intro b hb
   have:b=s.heap.objs.size\/b=S:=by simpa using hb
   rcases this with z | z
   ·rw [z]
    exact .inr (Nat.le_refl _)
   ·exact .inl z
 | true=>
  rw [if_pos rfl]
  refine wpAny_bind (zHu _ _ _ _ (by rw [List.length_range]) fun ps d hp=>?_)
  have hpl:ps.length=es.size:=by rw [hp.length_eq,List.length_range]
  refine wpAny_bind (wpAny_newTuple ?_ (by rw [List.length_map,hpl]; exact hz))
  have ho1:(s.heap.push { cls:=.type "tuple",data:=.seq (ps.map fun (p:Nat)=>rawInt p).toArray }).get? S=some o:=Heap.get?_push_of_some _ ho
  refine wpAny_bind (wpAny_setEpoch_of ho1 G.dat G.fits ?_)
  refine wpAny_bind (wpAny_newObj_type ?_ (by size_fits))
  refine wpAny_pure ⟨_,rfl,"set_iterator",_,⟨_,Heap.get?_push_size _ rfl,rfl⟩,zBA.lookup,?_⟩
  have hT1:(s.heap.push { cls:=.type "tuple",data:=.seq (ps.map fun (p:Nat)=>rawInt p).toArray }).objs.size=s.heap.objs.size+1:=Heap.size_push ..
  have hvl:(ps.filterMap fun p=>(es[p]?).map (·.2)).Perm (es.toList.map (·.2)):=by
   have h1:=hp.filterMap fun p=>(es[p]?).map (·.2)
   refine h1.trans ?_
   have h2:=filterMap_getElem?_range es
   have h3:(List.range es.size).filterMap (fun p=>(es[p]?).map (·.2))=((List.range es.size).filterMap fun i=>es[i]?).map (·.2):=by rw [List.map_filterMap]
   rw [h3,h2]
  have hvl2:(ps.filterMap fun p=>(es[p]?).map (·.2)).length=es.size:=by rw [hvl.length_eq,List.length_map,Array.length_toList]
  refine h (s.heap.push { cls:=.type "tuple",data:=.seq (ps.map fun (p:Nat)=>rawInt p).toArray }).objs.size _ d [(s.heap.push { cls:=.type "tuple",data:=.seq (ps.map fun (p:Nat)=>rawInt p).toArray }).objs.size,S,s.heap.objs.size] es.size _ (fun i h=>h.get? (s.heap.push { cls:=.type "tuple",data:=.seq (ps.map fun (p:Nat)=>rawInt p).toArray }).objs.size=some (zKH (if i<=es.size then .ref s.heap.objs.size else .ref s.heap.objs.size) i S es.size ep)/\h.get? S=some o/\h.get? s.heap.objs.size=some { cls:=.type "tuple",data:=.seq (ps.map fun (p:Nat)=>rawInt p).toArray }) hvl2.symm (fun A' kh=>?_) ⟨?_,Heap.get?_push_of_some _ ho1,Heap.get?_push_of_some _ (Heap.get?_push_size _ rfl)⟩ (by rw [hT1]; exact Nat.le_succ _) ?_ (fun b ob q=>Heap.get?_push_of_some _ (Heap.get?_push_of_some _ q)) (zKe G hvl)
  ·exact siDrawn (prog:=prog) (w:=w) (A:=A') (S:=S) (T:=s.heap.objs.size) kh (by rw [hT1]; exact Nat.ne_of_lt (Nat.lt_succ_of_lt hSlt)) (by rw [hT1]; exact Nat.ne_of_lt (Nat.lt_succ_self _)) G.dat G.fits hp
  ·rw [if_pos (Nat.zero_le _)]
   exact Heap.get?_push_size _ rfl
  ·intro b hb
   have:b=(s.heap.push { cls:=.type "tuple",data:=.seq (ps.map fun (p:Nat)=>rawInt p).toArray }).objs.size\/b=S\/b=s.heap.objs.size:=by simpa using hb
   rcases this with z | z | z
   ·rw [z,hT1]
    exact .inr (Nat.le_succ _)
   ·exact .inl z
   ·rw [z]
    exact .inr (Nat.le_refl _)
end
end RX
end
section
namespace RX
open PySem PySem.Spec PyProof.Rows
section
variable {prog:Program} {w:World} {A:Around} {E:Value->Shared->Prop} {s:Shared}
theorem zGR:typeLookup (.type "set") "__len__" = pure (some (.builtin "set.__len__")):=PySem.F.slot_set_len.lookup
theorem zJM {vs:List Value} {acc:Array Value} (h:ItemsOf (fun i v=>vs[i]? = some v) acc vs.length):acc.toList=vs:=by
 apply List.ext_getElem?
 intro i
 rw [Array.getElem?_toList]
 by_cases hi:i<vs.length
 ·have hl:i<acc.size:=by rw [h.1]; exact hi
  have:=h.2 i acc[i] (Array.getElem?_eq_getElem hl)
  rw [Array.getElem?_eq_getElem hl,this]
 ·rw [Array.getElem?_eq_none (by rw [h.1]; omega),List.getElem?_eq_none (by omega)]
theorem zJT {S:Addr} {L:List Int} {m:Nat} {Q:List Value->Shared->Prop} (kh:A.handled=none) (hS:SG prog w s.heap S L m) (hm:m<scanBound)
  (h:∀ (vs:List Value) (h':Heap) (d:Drawn) (tk:Nat),zJr L m vs->s.heap.objs.size<h'.objs.size->(∀ b o,s.heap.get? b=some o->h'.get? b=some o)->Q vs { s with heap:=h',drawn:=d,toks:=tk }):wpAny (model prog w) A (collect (.ref S)) Q E s:=by
 have hSlt:S<s.heap.objs.size:=by
  obtain ⟨o,_,_,_,ho,_⟩:=hS
  exact Heap.lt_size ho
 have hSl:Builtin.List.listSameRef (.ref s.heap.objs.size) (.ref S)=false:=by
  have:s.heap.objs.size≠S:=Nat.ne_of_gt hSlt
  simp [Builtin.List.listSameRef,this]
 unfold collect
 refine wpAny_bind (wpAny_runValue (codeAny_builtin PySem.F.entry_proto_collect (?_)))
 rw [Around.under_plainId PySem.F.plain_proto_collect]
 show wpAny _ A.in1 (newList [] >>= fun l=>again (.builtin "list.__iadd__" ⟨[l,.ref S],[]⟩)) _ _ (s:Shared)
 refine wpAny_bind (wpAny_newObj_type (wpAny_pure ⟨plainId_quiet PySem.F.plain_list_iadd _,codeAny_builtin PySem.F.entry_list_iadd ?_⟩))
 rw [Around.under_plainId PySem.F.plain_list_iadd]
 have hS1:SG prog w (s.heap.push { cls:=.type "list",data:=.seq ([]:List Value).toArray }) S L m:=hS.keep fun o q=>Heap.get?_push_of_some _ q
 have hTS:∀ s':Shared,SG prog w s'.heap S L m->s'.TypeIs (.ref S) "set" := fun s' g=>let ⟨o,_,_,_,ho,G⟩:=g; ⟨o,ho,G.ex.1⟩
 show wpAny _ A.in1 (Builtin.List.listExtendWith (.ref s.heap.objs.size) (.ref S) (.ref s.heap.objs.size)) _ _ _
 unfold Builtin.List.listExtendWith
 refine wpAny_bind (wpAny_typeOf (hTS _ hS1) ?_)
 rw [if_neg (by rw [hSl]; decide)]
 refine wpAny_bind (iterSet (s:={ s with heap:=s.heap.push { cls:=.type "list",data:=.seq ([]:List Value).toArray } }) hS1 hm fun I h1 d fp n vs St hn W st0 hI hfp hk Y=>?_)
 have hS2:SG prog w h1 S L m:=hS1.keep fun o q=>hk _ _ q
 refine wpAny_bind (wpAny_holding ?_)
 unfold Builtin.List.listLengthHint
 refine wpAny_bind (wpAny_specialOf (hTS _ hS2) zGR ?_)
 generalize hid:("set.__len__" : String)=id0
 wp_delta
 rw [show splitId id0=some ("set","__len__") from by subst hid; decide +kernel]
 subst hid
 refine wpAny_bind (wpAny_isInstance (b:=true) (hTS _ hS2) (by rw [isSubtype_type]; kernel_rfl) ?_)
 rw [if_neg (by decide)]
 refine wpAny_bind (wpAny_typeOf (hTS _ hS2) ?_)
 refine wpAny_pure ?_
 rw [if_pos (by decide)]
 refine wpAny_bind (wpAny_rule ?_)
 have hl1:h1.get? s.heap.objs.size=some { cls:=.type "list",data:=.seq ([]:List Value).toArray }:=hk _ _ (Heap.get?_push_size _ rfl)
 have hlf:s.heap.objs.size∉fp:=fun z=>by
  rcases hfp _ z with q | q
  ·exact absurd q (Nat.ne_of_gt hSlt)
  ·have:(s.heap.push { cls:=.type "list",data:=.seq ([]:List Value).toArray }).objs.size<=s.heap.objs.size:=q
   rw [Heap.size_push] at this
   exact Nat.not_succ_le_self _ this
 refine wpAny_bind ?_
 show wpAny _ A.in1 (updateSeq s.heap.objs.size (·.push .none) >>= fun _=>updateSeq s.heap.objs.size (·.pop)) _ _ (_:Shared)
 refine wpAny_bind (wpAny_updateSeq hl1 rfl ?_)
 have hl2:=Heap.get?_update_self (Obj.mapSeq (·.push Value.none)) hl1 rfl
 refine wpAny_updateSeq hl2 rfl ?_
 have hl3:=Heap.get?_update_self (Obj.mapSeq (·.pop)) hl2 rfl
 have oth:∀ b o,b≠s.heap.objs.size->h1.get? b=some o->((h1.update s.heap.objs.size (Obj.mapSeq (·.push Value.none))).update s.heap.objs.size (Obj.mapSeq (·.pop))).get? b=some o:=
  fun b o hb q=>(Heap.get?_update_other _ _ (Ne.symm hb)).trans ((Heap.get?_update_other _ _ (Ne.symm hb)).trans q)
 have W1:=W A.in1 (show A.in1.handled=none from kh)
 have hz:n<=sizeLine:=by rw [hn]; exact fits_of_scanBound (Nat.lt_of_le_of_lt Y.few hm)
 refine wpAny_pure ⟨plainId_quiet PySem.F.plain_extend_loop _,codeAny_extend_loopS W1.toS hz _ hlf _ n 0 _ _ _ rfl (Nat.zero_le _) (W1.frame 0 _ _ st0 fun b hb o q=>oth b o (fun z=>hlf (by rw [<- z]; exact hb)) q) hl3 (ItemsOf.nil _) fun s' acc' c' hm' hS' hacc=>?_⟩
 show wpAny _ A (load s.heap.objs.size >>= _) _ _ (s':Shared)
 refine wpAny_bind (wpAny_load hS' (wpAny_pure ?_))
 rw [hn] at hacc
 rw [zJM hacc]
 obtain ⟨h',g',d',tk',os'⟩:=s'
 obtain rfl:g'=s.gens:=hm'.gens
 obtain rfl:d'=d:=hm'.drawn
 obtain rfl:os'=s.os:=hm'.os
 refine h vs h' d' tk' Y (Heap.lt_size hS') fun b o q=>hm'.heap b o ?_ (oth b o ?_ (hk b o (Heap.get?_push_of_some _ q)))
 ·have hb:=Heap.lt_size q
  have hI':s.heap.objs.size<I:=by
   have:(s.heap.push { cls:=.type "list",data:=.seq ([]:List Value).toArray }).objs.size<=I:=hI
   rw [Heap.size_push] at this
   exact this
  simp only [List.mem_cons,List.not_mem_nil,or_false,not_or]
  exact ⟨Nat.ne_of_lt hb,Nat.ne_of_lt (Nat.lt_trans hb hI')⟩
 ·exact Nat.ne_of_lt (Heap.lt_size q)
theorem zKE {S:Addr} {L:List Int} {m:Nat} {Q:Value->Shared->Prop} (kh:A.handled=none) (hS:SG prog w s.heap S L m) (hm:m<scanBound)
  (h:∀ (ns:List Int) (out:Array Value) (p:Addr) (ep:Nat) (h':Heap) (d:Drawn) (tk:Nat),IntsAre out.toList ns->ns.Pairwise (· < ·)->(∀ z,z∈ns↔z∈L)->ns.length<=m->s.heap.get? p=none->h'.get? p=some (seqObj "list" out ep)->s.heap.objs.size<=p->
   (∀ b o,s.heap.get? b=some o->h'.get? b=some o)->Q (.ref p) { s with heap:=h',drawn:=d,toks:=tk }):wpAny (model prog w) A (call (.builtin "sorted") [.ref S]) Q E s:=by
 refine Calls.call_function_entry kind_sorted plain_sorted entry_sorted (args_sorted1 _) ?_
 unfold Builtin.«sorted»
 refine wpAny_bind (m:=checkCount "sorted" 1 1 _) (wpAny_pure (?_))
 refine wpAny_bind (zJT (A:=A.in1) kh hS hm fun vs h1 d tk Y hsz' k1=>?_)
 have hL:vs.length<=sizeLine:=fits_of_scanBound (Nat.lt_of_le_of_lt Y.few hm)
 refine wpAny_bind (wpAny_newList (?_) hL)
 have hsz:s.heap.objs.size<=h1.objs.size:=Nat.le_of_lt hsz'
 have hoL:(h1.push (seqObj "list" vs.toArray 0)).get? h1.objs.size=some (seqObj "list" vs.toArray 0):=Heap.get?_push_size _ rfl
 refine wpAny_bind (wpAny_holding (wpAny_call_entry slot_list_sort ⟨_,hoL,rfl⟩ entry_list_sort (list_sort_treeAny hoL Y.are hL fun out ns a1 a2 a3=>⟨_,rfl,?_⟩) (args_list_sort _)))
 refine wpAny_pure ⟨_,rfl,?_⟩
 obtain ⟨ep,e⟩:=sortedHeap_at (out:=out) hoL
 have hnd:ns.Nodup:=a2.nodup_iff.mpr Y.nd
 refine h ns out h1.objs.size ep _ d tk a1 (RB.int_pair hnd a3) (fun z=>a2.mem_iff.trans (Y.mem z)) ?_ ?_ e hsz fun b o q=>?_
 ·rw [a2.length_eq,List.length_map]
  exact Y.few
 ·exact Heap.get?_none_of_le hsz
 ·have q1:=k1 b o q
  rw [sortedHeap_old (Nat.ne_of_lt (Heap.lt_size q1)) (by rw [Heap.size_push]; exact Nat.lt_succ_of_lt (Heap.lt_size q1))]
  exact Heap.get?_push_of_some _ q1
end
end RX
end
section
namespace RB
open PySem PySem.Spec PyProof.Rows L2 RX
noncomputable def setO (P:Program) (w:World) (p:Addr) (L:List Int) (m:Nat):HO:=.ext fun h=>SG P w h p L m
theorem setO_ok {P:Program} {w:World} {H:Hp} {h:Heap} {p:Addr} {L:List Int} {m:Nat} (g:SG P w h p L m):zBa P w H h p (setO P w p L m):=
 ⟨g,(let ⟨o,_,_,_,e,_⟩:=g; ⟨o,e⟩),fun _ _ q k=>q.keep k⟩
section
variable {X:Cx}
noncomputable def rSetE (P:Program) (w:World) (K:PySem.W.Frag):List V->Hp->VK->Prop:=fun xs H Q=>∃ (a:Addr) (ns:List Int),xs=[.ref a]/\SqL K H a (ns.map V.int)/\ns.length+1<scanBound/\∀ p,H p=none->Q (.ref p) (upd H p (setO P w p ns ns.length))
theorem cr_set (hc:X.calm=true):zFe X (.type "set") (rSetE X.prog X.w X.K):=by
 intro pins s σ H vs us Q I r h
 obtain ⟨a,ns,rfl,hs,hb,q⟩:=h
 obtain ⟨its,rv,hl,hz⟩:=I.list hs
 rw [Vals.ref1 r]
 have hi:=rv.ints
 refine zKI (I.ok.hd hc) hl.isList (by simpa using hi) hb fun h' tk S k=>?_
 exact ⟨.ref s.heap.objs.size,_,I.laid (t':=tk) k (Nat.le_refl _) (setO_ok S),rfl,q _ (I.hok.fresh (Nat.le_refl _))⟩
noncomputable def rSortE (P:Program) (w:World):List V->Hp->VK->Prop:=fun xs H Q=>∃ (a:Addr) (L:List Int) (m:Nat),xs=[.ref a]/\H a=some (setO P w a L m)/\m<scanBound/\
 ∀ (ns:List Int) p,H p=none->ns.Pairwise (· < ·)->(∀ z,z∈ns↔z∈L)->Q (.ref p) (upd H p (.lst (ns.map V.int)))
theorem zNZ (hc:X.calm=true):zFe X (.builtin "sorted") (rSortE X.prog X.w):=by
 intro pins s σ H vs us Q I r h
 obtain ⟨a,L,m,rfl,hs,hb,q⟩:=h
 rw [Vals.ref1 r]
 have S:SG X.prog X.w s.heap a L m:=(I.hok a _ hs).1
 refine zKE (I.ok.hd hc) S hb fun ns out p ep h' d tk a1 a2 a3 a4 a5 a6 a7 k=>?_
 have I2:Inv X pins σ (upd H p (.lst (ns.map V.int))) { s with heap:=h',toks:=tk }:=
  I.laid k a7 ⟨by rw [List.length_map]; exact fits_of_scanBound (Nat.lt_of_le_of_lt a4 hb),out.toList,ep,zCe a1,by rw [a6]⟩
 have I3:Inv X pins σ (upd H p (.lst (ns.map V.int))) { s with heap:=h',toks:=tk,drawn:=d }:=⟨I2.ok,I2.os,I2.bare,I2.base,I2.loc,I2.cell,I2.free,I2.freeC,I2.pin,I2.hok,I2.len⟩
 exact ⟨.ref p,_,I3,rfl,q ns p (I.hok.fresh a7) a2 a3⟩
end
theorem up_of {l:List Nat} {w:Nat} (low:∀ t∈l,t<w) {ns:List Int} (hs:ns.Pairwise (· < ·)) (hm:∀ z,z∈ns↔z∈l.map fun (n:Nat)=>(n:Int)):ns.map V.int=vis (RC.upOf w l):=by
 have hpos:∀ z∈ns,0<=z:=fun z hz=>by
  obtain ⟨n,_,rfl⟩:=List.mem_map.mp ((hm z).mp hz)
  omega
 have hn:ns=RC.inz (ns.map Int.toNat):=(RC.ints_of hpos).symm
 have hup:RC.Up (ns.map Int.toNat):=by
  rw [RC.Up,List.pairwise_map]
  exact List.Pairwise.imp_of_mem (fun {a b} ha hb h=>by have:=hpos a ha; have:=hpos b hb; omega) hs
 have he:ns.map Int.toNat=RC.upOf w l:=RC.Up.ext hup (RC.upOf_up w l) fun t=>by
  rw [RC.mem_upOf low,List.mem_map]
  constructor
  ·rintro ⟨z,hz,rfl⟩
   obtain ⟨n,hn,rfl⟩:=List.mem_map.mp ((hm z).mp hz)
   exact hn
  ·intro ht
   exact ⟨(t:Int),(hm _).mpr (List.mem_map.mpr ⟨t,ht,rfl⟩),by omega⟩
 rw [hn,he,<- zCW]
theorem zFx {w tail row:Nat} (hw:w<=128):∀ {l:List RC.Run} {first:Nat},(∀ r∈l,RC.RunOk w r)->(RC.gathered tail row first l).length<=128*(row+1-max first (row-tail))
 | [],_,_=>Nat.zero_le _
 | r::l,first,h=>by
  have ih:=zFx (tail:=tail) (row:=row) hw (l:=l) (first:=first+r.1) fun x hx=>h x (List.mem_cons_of_mem _ hx)
  have ok:=h r List.mem_cons_self
  have hp:=ok.pos
  have hl:=Nat.le_trans (zIB ok.up ok.low) hw
  rw [RC.gathered,List.length_append]
  by_cases hc:first<=row/\row<first+r.1+tail
  ·rw [if_pos hc]
   have h1:row+1-max (first+r.1) (row-tail)+1<=row+1-max first (row-tail):=by omega
   have h2:128*(row+1-max (first+r.1) (row-tail))+128<=128*(row+1-max first (row-tail)):=by
    have:=Nat.mul_le_mul_left 128 h1
    rw [Nat.mul_add] at this
    exact this
   omega
  ·rw [if_neg hc]
   have h1:row+1-max (first+r.1) (row-tail)<=row+1-max first (row-tail):=by omega
   have h2:=Nat.mul_le_mul_left 128 h1
   simp only [List.length_nil]
   omega
section
variable {P:Program} {w:World} {K:PySem.W.Frag} {mg:Str->Option Value} {base:Heap}
theorem zDr:zAc ["strip","tail","row","tracks","first","run","behind"] ["strip","tail","row"] (zAa zEy):=⟨rfl,rfl,rfl,by decide +kernel,rfl,by decide +kernel,by decide +kernel⟩
theorem zNt {f CS CR:Addr} {fd:FuncData} (F:Fun K "sounding_tracks" "sounding_tracks" zEy f fd) (TS:Cl K CS zDp) (TR:Cl K CR zEB) (hsort:mg "sorted" = none) (hset:mg "set" = none):FnOk P w K mg base CX0 1 f fd ["strip","tail","row"] (zHK CS CR):=by
 refine F.ok zDr (fun vs H Q E h=>?_) (fun cdv A outer s H vs Q E hr h=>?_)
 ·obtain ⟨a,x,g,j,rfl,_⟩:=h
  rfl
 ·obtain ⟨a,x,g,j,rfl,hS,ok,hg,k⟩:=h
  refine ⟨_,pC (pS (i:=3) zDr.nd rfl (Or.inl rfl) (zAd pN))
   (pC (pS (i:=4) zDr.nd rfl (Or.inl rfl) zAb)
   (pC (zBb PassesOwn.never rfl (zAR (pF (pv 0) rfl)) (zAn (i:=5) zDr.nd rfl (Or.inl rfl))
    (pC (pS (i:=6) zDr.nd rfl (Or.inl rfl) (zAs zBc (pv 4) (pF (pv 5) rfl)))
    (pC (zAC (PW.pt (zEF (cR zLt (pv 4) (pv 2) (zAe _)) (zCN (cR zCC (zAs zBx (pv 2) (pv 1)) (pv 6) (zAe _)))))
     (pO (zAA (zCj PySem.F.plainAttrs_list PySem.F.slot_list_extend PySem.F.type_list_extend zDh (pv 3) (pA (pF (pv 5) rfl) pN)))) zAf)
    (pO (pS (i:=4) zDr.nd rfl (Or.inl rfl) (pv 6))))))
   (pO (pR (zAt (zNZ rfl) rfl hsort (by decide +kernel) (pA (zEK (cr_set rfl) rfl hset (by decide +kernel) (pA (pv 3) pN)) pN)))))),?_⟩
  obtain ⟨dx,l,ha,hRs⟩:=hS.ex
  obtain ⟨rs,hl,hlen,hruns⟩:=hRs.ex
  have hw2:=ok.w2
  have hgl:=zFx hw2 (tail:=g) (row:=j) (first:=0) ok.all
  have hgb:(RC.gathered g j 0 x.runs).length<=2048:=by
   have:j+1-max 0 (j-g)<=16:=by omega
   have:=Nat.mul_le_mul_left 128 this
   omega
  refine ⟨Nat.zero_le _,fun q hq=>?_⟩
  have s1:Same H (upd H q (.lst [])):=Same.new (Same.refl H) hq
  refine ⟨_,rfl,a,CS,dx,_,_,rfl,s1 _ _ ha,TS.cl,TS.no _ (by simp),zBS _ _,l,rfl,⟨_,SqL.of (s1 _ _ hl)⟩,zAI (K:=K) (a:=l) (xs:=rs.map V.ref) (fun i σ H'=>∃ (u v:Option V) (first:Nat) (done:List Nat),σ=[some (.ref a),some (vi g),some (vi j),some (.ref q),some (vi first),u,v]/\Same H H'/\
    H' q=some (.lst (vis done))/\RC.gathered g j 0 x.runs=done++RC.gathered g j first (x.runs.drop i)) ⟨none,none,0,[],rfl,s1,uS,rfl⟩ ?_ ?_ ?_⟩
  ·rintro i σ H' _ ⟨u,v,first,done,rfl,s3,_⟩
   exact SqL.of (s3 _ _ hl)
  ·rintro i y σ H' hi ⟨u,v,first,done,rfl,s3,hd,hG⟩
   obtain ⟨c,hc,rfl⟩:=zBk hi
   have hil:i<x.runs.length:=by have:=zAk hc; omega
   obtain ⟨r,hr'⟩:∃ r,x.runs[i]? = some r:=⟨_,List.getElem?_eq_getElem hil⟩
   have hR:=hruns i c r hc hr'
   obtain ⟨dr,lr,hc1,hc2⟩:=hR.ex
   rw [zAT hr',RC.gathered] at hG
   have hdl:done.length+r.2.length<=2048\/¬ (first<=j/\j<first+r.1+g):=by
    by_cases z:first<=j/\j<first+r.1+g
    ·rw [if_pos z] at hG
     rw [hG,List.length_append,List.length_append] at hgb
     exact .inl (by omega)
    ·exact .inr z
   refine ⟨_,rfl,_,rfl,c,CR,dr,_,_,rfl,s3 _ _ hc1,TR.cl,TR.no _ (by simp),zAX _ _,_,_,rfl,rfl,?_⟩
   refine ⟨_,rfl,_,rfl,_,_,rfl,rfl,_,rfl,?_⟩
   rw [zCA]
   by_cases c1:first<=j
   ·rw [decide_eq_true c1]
    refine iteT ⟨_,rfl,_,rfl,_,_,rfl,rfl,_,rfl,_,_,rfl,rfl,_,rfl,?_⟩
    have e2:decide ((j:Int)-(g:Int)<((first:Int)+(r.1:Int)))=decide (j<first+r.1+g):=decide_eq_decide.mpr (by omega)
    rw [e2]
    by_cases c2:j<first+r.1+g
    ·rw [decide_eq_true c2]
     rw [if_pos ⟨c1,c2⟩] at hG
     refine iteT ⟨_,rfl,.inl ⟨rfl,_,SqL.of hd⟩,_,rfl,c,CR,dr,_,_,rfl,s3 _ _ hc1,TR.cl,TR.no _ (by simp),zAz _ _,q,lr,_,_,rfl,rfl,hd,s3 _ _ hc2,?_,?_⟩
     ·rw [zAg,zAg,sizeLine_eq]
      rcases hdl with z | z
      ·omega
      ·exact absurd ⟨c1,c2⟩ z
     ·refine ⟨_,rfl,_,_,first+r.1,done++r.2,rfl,Same.own s3 hq,by rw [uS,zAU],?_⟩
      rw [hG,List.append_assoc]
    ·rw [decide_eq_false c2]
     rw [if_neg (fun z=>c2 z.2)] at hG
     refine iteF ⟨_,rfl,_,_,first+r.1,done,rfl,s3,hd,?_⟩
     rw [hG]
     rfl
   ·rw [decide_eq_false c1]
    rw [if_neg (fun z=>c1 z.1)] at hG
    refine iteF (iteF ⟨_,rfl,_,_,first+r.1,done,rfl,s3,hd,?_⟩)
    rw [hG]
    rfl
  ·rintro σ H' ⟨u,v,first,done,rfl,s3,hd,hG⟩
   rw [List.length_map,hlen,List.drop_length,RC.gathered,List.append_nil] at hG
   rw [<- hG] at hd
   refine ⟨_,rfl,q,(RC.gathered g j 0 x.runs).map fun (n:Nat)=>(n:Int),rfl,SqL.of (by rw [hd]; unfold vis; rw [List.map_map]; rfl),?_,fun p hp=>?_⟩
   ·rw [List.length_map]
    show _<4096
    omega
   ·refine ⟨p,_,_,rfl,uS,?_,fun ns z hz h1 h2=>?_⟩
    ·rw [List.length_map]
     show _<4096
     omega
    ·have hup:=up_of (w:=x.wide) (fun t ht=>RC.gathered_low ok.all ht) h1 h2
     refine k z _ (Same.new (Same.new s3 hp) hz) ((Same.new s3 hp).free hz) ?_
     rw [uS,hup]
end
end RB
end
section
namespace RB
open PySem PySem.Spec PyProof.Rows L2 RX
def KD (P:Program) (w:World) (K:PySem.W.Frag) (D:Addr) (f:Int->Option Int):Prop:=∀ h:Heap,K.In h->∃ g:Int->Option Value,h.MapOf (kI P w) D g/\∀ k v,f k=some v->∃ t,g k=some (.int v t)
noncomputable def tDGK (D:Addr) (f:Int->Option Int) (td ty:TE):TE:=fun σ H Q=>td σ H fun x H1=>ty σ H1 fun y H2=>∃ k v,x = .ref D/\y = .int k/\f k=some v/\Q (.int v) H2
theorem pe_dgk {X:Cx} {o i:Expr} {pos:Pos} {td ty:TE} {D:Addr} {f:Int->Option Int} (hD:KD X.prog X.w X.K D f) (ho:PE X o td) (hi:PE X i ty) (hs:NoSl i):PE X (.Subscript o i pos) (tDGK D f td ty):=by
 intro pins s σ H Q I h
 refine zKq PySem.F.slot_dict_getitem.lookup hs (thn (ho pins s σ H _ I h) fun u s1 ⟨x,H1,I1,rx,q1⟩=>thn (hi pins s1 σ H1 _ I1 q1) fun iv s2 ⟨y,H2,I2,ry,k,v,ex,ey,hf,q2⟩=>?_)
 subst ex
 subst ey
 obtain rfl:u=Value.ref D:=rx
 obtain ⟨t,rfl⟩:=ry
 obtain ⟨g,hm,hg⟩:=hD _ I2.kIn
 obtain ⟨t2,e⟩:=hg k v hf
 exact ⟨hm.typeIs,wpAny_getItem_of (intKind_is X.prog X.w k t) hm e ⟨.int v,H2,I2.tok _,⟨_,rfl⟩,q2⟩⟩
noncomputable def whole:Int->Option Int
 | 1=>some 0
 | 2=>some 1
 | 3=>some 4
 | 4=>some 1
 | 5=>some 2
 | 6=>some 1
 | 7=>some 1
 | 8=>some 2
 | _=>none
theorem int_at {l:List Int} {p:Nat} {z:Int} (h:l[p]? = some z):atI (l.map V.int) (p:Int)=some (.int z):=zBZ (by rw [List.getElem?_map,h]; rfl)
theorem at_off {l a b:List Int} {p i:Nat} {z:Int} (h:l.drop p=a++b) (hz:a[i]? = some z):l[p+i]? = some z:=by
 rw [<- List.getElem?_drop,h,List.getElem?_append_left (List.getElem?_eq_some_iff.mp hz).1]
 exact hz
theorem cut_to {l a b:List Int} {p q:Nat} (h:l.drop p=a++b) (hq:q=p+a.length):cutV (l.map V.int) (some (p:Int)) (some (q:Int))=a.map V.int:=by
 unfold cutV
 rw [HT.sIx_nat,HT.sIx_nat,List.length_map]
 have hl:l.length-p=a.length+b.length:=by rw [<- List.length_drop,h,List.length_append]
 by_cases hp:p<=l.length
 ·rw [Nat.min_eq_left hp,Nat.min_eq_left (by omega),show q-p=a.length by omega,<- List.map_drop,h,List.map_append,List.take_append_of_le_length (by rw [List.length_map]; exact Nat.le_refl _),List.take_of_length_le (by rw [List.length_map]; exact Nat.le_refl _)]
 ·have:a=[]:=List.length_eq_zero_iff.mp (by omega)
  subst this
  rw [List.drop_eq_nil_iff.mpr (by rw [List.length_map]; omega),List.take_nil]
  rfl
theorem zGt {l:List V} {p:Nat}:cutV l (some (p:Int)) none=l.drop p:=by
 unfold cutV
 rw [HT.sIx_nat,HT.sIx_none]
 by_cases hp:p<=l.length
 ·rw [Nat.min_eq_left hp,List.take_of_length_le (by rw [List.length_drop]; exact Nat.le_refl _)]
 ·rw [Nat.min_eq_right (by omega),List.drop_length,List.drop_eq_nil_iff.mpr (by omega),List.take_nil]
section
variable {P:Program} {w:World} {K:PySem.W.Frag} {mg:Str->Option Value} {base:Heap}
noncomputable def zEs (K:PySem.W.Frag):Sp:=fun vs H Q _=>∃ (c:Addr) (p:Nat) (l rest:List Int) (m:RC.Call),vs=[.ref c,vi p]/\SqL K H c (l.map V.int)/\l.drop p=m.flat++rest/\Q (vi (p+m.flat.length)) H
theorem zDb:zAc ["calls","place","number","behind"] ["calls","place"] (zAa zGd):=⟨rfl,rfl,rfl,by decide +kernel,rfl,by decide +kernel,by decide +kernel⟩
noncomputable def zAS:RC.Call->Nat
 | .read _=>1
 | .text _=>2
 | .paper _=>3
 | .judge _=>4
 | .sounds _ _=>5
 | .tones _=>6
 | .chain _=>7
 | .cut _ _ _=>8
noncomputable def zBu:RC.Call->Nat
 | .read _=>0
 | .text _=>1
 | .paper _=>4
 | .judge _=>1
 | .sounds _ _=>2
 | .tones _=>1
 | .chain _=>1
 | .cut _ _ _=>2
theorem zLK (m:RC.Call):m.flat[0]? = some (zAS m:Int):=by cases m <;> rfl
theorem zKf (m:RC.Call):whole (zAS m:Int)=some (zBu m:Int):=by cases m <;> rfl
noncomputable def zGX:RC.Call->Option Nat
 | .read g=>some g.length
 | .cut _ _ l=>some (RC.flat3 l).length
 | _=>none
theorem zIN {m:RC.Call} {n:Nat} (h:zGX m=some n):(zAS m=1\/zAS m=8)/\m.flat[1+zBu m]? = some (n:Int)/\m.flat.length=1+zBu m+(1+n):=by
 cases m <;> simp only [zGX,reduceCtorEq,Option.some.injEq] at h
 ·subst h
  refine ⟨.inl rfl,rfl,?_⟩
  simp [RC.Call.flat,RC.ints_length,zBu]
  omega
 ·subst h
  refine ⟨.inr rfl,rfl,?_⟩
  simp [RC.Call.flat,RC.ints_length,zBu]
  omega
theorem zLc:∀ {m:RC.Call},zGX m=none->zAS m≠1/\zAS m≠8/\m.flat.length=1+zBu m
 | .text _,_=>⟨(by show ¬ 2=1; decide),(by show ¬ 2=8; decide),rfl⟩
 | .paper _,_=>⟨(by show ¬ 3=1; decide),(by show ¬ 3=8; decide),rfl⟩
 | .judge _,_=>⟨(by show ¬ 4=1; decide),(by show ¬ 4=8; decide),rfl⟩
 | .sounds _ _,_=>⟨(by show ¬ 5=1; decide),(by show ¬ 5=8; decide),rfl⟩
 | .tones _,_=>⟨(by show ¬ 6=1; decide),(by show ¬ 6=8; decide),rfl⟩
 | .chain _,_=>⟨(by show ¬ 7=1; decide),(by show ¬ 7=8; decide),rfl⟩
 | .read _,h=>by cases h
 | .cut _ _ _,h=>by cases h
theorem zJE {f D:Addr} {fd:FuncData} (F:Fun K "call_end" "call_end" zGd f fd) (hD:mg "WHOLE_NUMBERS" = some (.ref D)) (gD:KD P w K D whole) (g1:GI mg "READ" 1) (g8:GI mg "CUT" 8):FnOk P w K mg base CX0 1 f fd ["calls","place"] (zEs K):=by
 refine F.ok zDb (fun vs H Q E h=>?_) (fun cdv A outer s H vs Q E hr h=>?_)
 ·obtain ⟨c,p,l,rest,m,rfl,_⟩:=h
  rfl
 ·obtain ⟨c,p,l,rest,m,rfl,hc,hl,k⟩:=h
  refine ⟨_,pC (pS (i:=2) zDb.nd rfl (Or.inl rfl) (zAF zAi (pv 0) (pv 1) (fun _ _=>rfl)))
   (pC (pS (i:=3) zDb.nd rfl (Or.inl rfl) (zAs zBc (zAs zBc (pv 1) zAb) (pe_dgk gD (zGh (v:=.ref D) rfl hD rfl) (pv 2) (fun _ _=>rfl))))
   (pC (zAC (PW.pt (zEE (cR zCD (pv 2) (zAG g1) (zAe _)) (zED (cR zCD (pv 2) (zAG g8) (zAe _))))) (pO (zFk (i:=3) zDb.nd rfl (Or.inl rfl) (zAs zBc zAb (zAF zAi (pv 0) (pv 3) (fun _ _=>rfl))) zHo)) zAf)
   (pO (pR (pv 3))))),?_⟩
  have h0:=at_off hl (zLK m)
  refine ⟨_,rfl,_,rfl,c,_,_,.int (zAS m:Int),rfl,rfl,hc,int_at h0,?_⟩
  refine ⟨_,rfl,_,_,rfl,rfl,_,rfl,_,_,rfl,rfl,zKf m,_,_,rfl,rfl,?_⟩
  have eb:V.int ((p:Int)+1+(zBu m:Int))=vi (p+(1+zBu m)):=by
   unfold vi
   congr 1
   omega
  show zER 3 (V.int ((p:Int)+1+(zBu m:Int))) _ _ _
  rw [eb]
  have d1:∀ n:Nat,decide (V.int (zAS m:Int)=V.int (n:Int))=decide (zAS m=n):=fun n=>decide_eq_decide.mpr ⟨fun z=>by injection z with z; omega,fun z=>by rw [z]⟩
  refine ⟨_,rfl,rfl,_,rfl,?_⟩
  rw [show (V.int (1:Int))=V.int ((1:Nat):Int) from rfl,d1 1]
  have more:∀ n,zGX m=some n->tSeq (tAug 3 (tOp (rI0 fun i j=>.int (i+j)) (tC (.int 1)) (tOp (rIxL K) (tVar 0) (tVar 3))) (ipI fun i j=>i+j)) (tRet (tVar 3)) { nx:=fun _ H'=>Q .non H',rt:=Q } [some (.ref c),some (vi p),some (.int (zAS m:Int)),some (vi (p+(1+zBu m)))] H:=fun n hn=>by
   obtain ⟨_,r2,r3⟩:=zIN hn
   refine ⟨_,rfl,_,rfl,_,rfl,c,_,_,.int (n:Int),rfl,rfl,hc,int_at (at_off hl r2),_,_,rfl,rfl,_,_,rfl,rfl,_,rfl,?_⟩
   have ee:V.int (((p+(1+zBu m):Nat):Int)+(1+(n:Int)))=vi (p+m.flat.length):=by
    unfold vi
    congr 1
    omega
   show Q (V.int (((p+(1+zBu m):Nat):Int)+(1+(n:Int)))) H
   rw [ee]
   exact k
  cases hr2:zGX m with
  | some n=>
   obtain ⟨r1,_,_⟩:=zIN hr2
   rcases r1 with r1 | r1
   ·rw [decide_eq_true r1]
    exact iteT (iteT (more n hr2))
   ·rw [decide_eq_false (by omega)]
    refine iteF ⟨_,rfl,rfl,_,rfl,?_⟩
    rw [show (V.int (8:Int))=V.int ((8:Nat):Int) from rfl,d1 8,decide_eq_true r1]
    exact iteT (more n hr2)
  | none=>
   obtain ⟨r1,r2,r3⟩:=zLc hr2
   rw [decide_eq_false r1]
   refine iteF ⟨_,rfl,rfl,_,rfl,?_⟩
   rw [show (V.int (8:Int))=V.int ((8:Nat):Int) from rfl,d1 8,decide_eq_false r2]
   refine iteF ⟨_,rfl,?_⟩
   rw [r3] at k
   exact k
end
end RB
end
section
namespace RB
open PySem PySem.Spec PyProof.Rows L2 RX
theorem Does.up {C:Cs} {X:Addr->Prop} {b l:Addr} {H H1:Hp} {r:RC.St×List Int} {Q:VK} (h:Does C X b l H r Q) (s:Same H H1):Does C X b l H1 r Q:=fun q H' k B hq e=>h q H' ((zBi.of s).trans k) B (s.free hq) e
section
variable {P:Program} {w:World} {K:PySem.W.Frag} {mg:Str->Option Value} {base:Heap}
noncomputable def spTo (C:Cs):Sp:=fun vs H Q _=>∃ (X:Addr->Prop) (b l q:Addr) (m:RC.Call) (s:RC.St),vs=[.ref b,.ref q]/\zAu C X H b l s/\s.Ok/\H q=some (.lst (m.flat.map V.int))/\m.flat.length<=30000/\Does C X b l H (RC.mstep s m) Q
theorem scTo:zAc ["bench","call"] ["bench","call"] (zAa zEz):=⟨rfl,rfl,rfl,by decide +kernel,rfl,by decide +kernel,by decide +kernel⟩
structure GB (P:Program) (w:World) (K:PySem.W.Frag) (mg:Str->Option Value) (base:Heap) (C:Cs):Prop where
 read:GM P w K mg base CX0 6 C.CB "read" ["self","text"] (zHQ C)
 text:GM P w K mg base CX0 3 C.CB "tell_text" ["self","s"] (zHP C)
 paper:GM P w K mg base CX0 3 C.CB "lay_paper" ["self","numbers"] (zFO C)
 judge:GM P w K mg base CX0 3 C.CB "judge" ["self","s"] (zFP C)
 sounds:GM P w K mg base CX0 3 C.CB "tell_sounds" ["self","s","row"] (zEt C)
 tones:GM P w K mg base CX0 4 C.CB "tell_tones" ["self","s"] (zFN C)
 chain:GM P w K mg base CX0 3 C.CB "tell_chain" ["self","rows"] (zFQ C)
 cut:GM P w K mg base CX0 5 C.CB "cut" ["self","width","rows","numbers"] (zKA C)
theorem ok_to {f:Addr} {C:Cs} {fd:FuncData} (F:Fun K "answer_to" "answer_to" zEz f fd) (T:Cl K C.CB zBm) (G:GB P w K mg base C) (g1:GI mg "READ" 1) (g2:GI mg "TEXT" 2) (g3:GI mg "PAPER" 3) (g4:GI mg "JUDGE" 4) (g5:GI mg "SOUNDS" 5) (g6:GI mg "TONES" 6) (g7:GI mg "CHAIN" 7):
  FnOk P w K mg base CX0 7 f fd ["bench","call"] (spTo C):=by
 refine F.ok scTo (fun vs H Q E h=>?_) (fun cdv A outer s H vs Q E hr h=>?_)
 ·obtain ⟨X,b,l,q,m,s,rfl,_⟩:=h
  rfl
 ·obtain ⟨X,b,l,q,m,st,rfl,hB,ok,hq,hlen,k⟩:=h
  have hr3:=hr.mono (show 3<=6 by decide)
  have hr4:=hr.mono (show 4<=6 by decide)
  have hr5:=hr.mono (show 5<=6 by decide)
  refine ⟨_,pC (zAC (cR zCD (zAF zAi (L2.pv 1) zAb (fun _ _=>rfl)) (zAG g1) (zAe _)) (pO (pR (zAp T.cl G.read (L2.pv 0) hr zAh (pA (zEf zFS (L2.pv 1) (zEJ zAb) zIg) pN)))) zAf)
   (pC (zAC (cR zCD (zAF zAi (L2.pv 1) zAb (fun _ _=>rfl)) (zAG g2) (zAe _)) (pO (pR (zAp T.cl G.text (L2.pv 0) hr3 zAh (pA (zAF zAi (L2.pv 1) zAb (fun _ _=>rfl)) pN)))) zAf)
   (pC (zAC (cR zCD (zAF zAi (L2.pv 1) zAb (fun _ _=>rfl)) (zAG g3) (zAe _)) (pO (pR (zAp T.cl G.paper (L2.pv 0) hr3 zAh (pA (zEf zFS (L2.pv 1) (zEJ zAb) zIg) pN)))) zAf)
   (pC (zAC (cR zCD (zAF zAi (L2.pv 1) zAb (fun _ _=>rfl)) (zAG g4) (zAe _)) (pO (pR (zAp T.cl G.judge (L2.pv 0) hr3 zAh (pA (zAF zAi (L2.pv 1) zAb (fun _ _=>rfl)) pN)))) zAf)
   (pC (zAC (cR zCD (zAF zAi (L2.pv 1) zAb (fun _ _=>rfl)) (zAG g5) (zAe _)) (pO (pR (zAp T.cl G.sounds (L2.pv 0) hr3 zAh (pA (zAF zAi (L2.pv 1) zAb (fun _ _=>rfl)) (pA (zAF zAi (L2.pv 1) zAb (fun _ _=>rfl)) pN))))) zAf)
   (pC (zAC (cR zCD (zAF zAi (L2.pv 1) zAb (fun _ _=>rfl)) (zAG g6) (zAe _)) (pO (pR (zAp T.cl G.tones (L2.pv 0) hr4 zAh (pA (zAF zAi (L2.pv 1) zAb (fun _ _=>rfl)) pN)))) zAf)
   (pC (zAC (cR zCD (zAF zAi (L2.pv 1) zAb (fun _ _=>rfl)) (zAG g7) (zAe _)) (pO (pR (zAp T.cl G.chain (L2.pv 0) hr3 zAh (pA (zAF zAi (L2.pv 1) zAb (fun _ _=>rfl)) pN)))) zAf)
   (pO (pR (zAp T.cl G.cut (L2.pv 0) hr5 zAh (pA (zAF zAi (L2.pv 1) zAb (fun _ _=>rfl)) (pA (zAF zAi (L2.pv 1) zAb (fun _ _=>rfl)) (pA (zEf zFS (L2.pv 1) (zEJ zAb) zIg) pN)))))))))))),?_⟩
  obtain ⟨dx,cs,pv,hb,_⟩:=hB.ex
  have d1:∀ n:Nat,decide (V.int (zAS m:Int)=V.int (n:Int))=decide (zAS m=n):=fun n=>decide_eq_decide.mpr ⟨fun z=>by injection z with z; omega,fun z=>by rw [z]⟩
  have h0:atI (m.flat.map V.int) (0:Int)=some (.int (zAS m:Int)):=int_at (p:=0) (zLK m)
  refine ⟨_,rfl,q,_,_,.int (zAS m:Int),rfl,rfl,SqL.of hq,h0,rfl,_,rfl,?_⟩
  rw [show (V.int (1:Int))=V.int ((1:Nat):Int) from rfl,d1 1]
  by_cases c1:zAS m=1
  ·rw [decide_eq_true c1]
   obtain ⟨g,rfl⟩:∃ g,m = .read g:=by cases m <;> first | exact ⟨_,rfl⟩ | (simp [zAS] at c1)
   refine iteT ⟨_,rfl,b,dx,_,rfl,hb,zBn (by decide) (by decide),_,rfl,_,rfl,q,_,rfl,SqL.of hq,fun p hp=>?_⟩
   have s1:Same H (upd H p (.lst (cutV ((RC.Call.read g).flat.map V.int) (some 2) none))):=Same.new (Same.refl H) hp
   refine ⟨X,b,l,p,g,st,rfl,hB.same s1,ok,?_,k.up s1⟩
   exact uS.trans (congrArg (fun z=>some (HO.lst z)) ((zGt (p:=2)).trans (zCW g).symm))
  rw [decide_eq_false c1]
  refine iteF ⟨_,rfl,q,_,_,.int (zAS m:Int),rfl,rfl,SqL.of hq,h0,rfl,_,rfl,?_⟩
  rw [show (V.int (2:Int))=V.int ((2:Nat):Int) from rfl,d1 2]
  by_cases c2:zAS m=2
  ·rw [decide_eq_true c2]
   obtain ⟨i,rfl⟩:∃ i,m = .text i:=by cases m <;> first | exact ⟨_,rfl⟩ | (simp [zAS] at c2)
   refine iteT ⟨_,rfl,b,dx,_,rfl,hb,zBn (by decide) (by decide),_,rfl,q,_,_,vi i,rfl,rfl,SqL.of hq,rfl,X,b,l,i,st,rfl,hB,ok,k.tells hB (Same.refl H)⟩
  rw [decide_eq_false c2]
  refine iteF ⟨_,rfl,q,_,_,.int (zAS m:Int),rfl,rfl,SqL.of hq,h0,rfl,_,rfl,?_⟩
  rw [show (V.int (3:Int))=V.int ((3:Nat):Int) from rfl,d1 3]
  by_cases c3:zAS m=3
  ·rw [decide_eq_true c3]
   obtain ⟨p,rfl⟩:∃ p,m = .paper p:=by cases m <;> first | exact ⟨_,rfl⟩ | (simp [zAS] at c3)
   refine iteT ⟨_,rfl,b,dx,_,rfl,hb,zBn (by decide) (by decide),_,rfl,_,rfl,q,_,rfl,SqL.of hq,fun a ha=>?_⟩
   have s1:Same H (upd H a (.lst (cutV ((RC.Call.paper p).flat.map V.int) (some 1) none))):=Same.new (Same.refl H) ha
   refine ⟨X,b,l,a,p,st,rfl,hB.same s1,ok,?_,k.up s1⟩
   exact uS.trans (congrArg (fun z=>some (HO.lst z)) ((zGt (p:=1)).trans rfl))
  rw [decide_eq_false c3]
  refine iteF ⟨_,rfl,q,_,_,.int (zAS m:Int),rfl,rfl,SqL.of hq,h0,rfl,_,rfl,?_⟩
  rw [show (V.int (4:Int))=V.int ((4:Nat):Int) from rfl,d1 4]
  by_cases c4:zAS m=4
  ·rw [decide_eq_true c4]
   obtain ⟨i,rfl⟩:∃ i,m = .judge i:=by cases m <;> first | exact ⟨_,rfl⟩ | (simp [zAS] at c4)
   refine iteT ⟨_,rfl,b,dx,_,rfl,hb,zBn (by decide) (by decide),_,rfl,q,_,_,vi i,rfl,rfl,SqL.of hq,rfl,X,b,l,i,st,rfl,hB,ok,k.tells hB (Same.refl H)⟩
  rw [decide_eq_false c4]
  refine iteF ⟨_,rfl,q,_,_,.int (zAS m:Int),rfl,rfl,SqL.of hq,h0,rfl,_,rfl,?_⟩
  rw [show (V.int (5:Int))=V.int ((5:Nat):Int) from rfl,d1 5]
  by_cases c5:zAS m=5
  ·rw [decide_eq_true c5]
   obtain ⟨i,j,rfl⟩:∃ i j,m = .sounds i j:=by cases m <;> first | exact ⟨_,_,rfl⟩ | (simp [zAS] at c5)
   refine iteT ⟨_,rfl,b,dx,_,rfl,hb,zBn (by decide) (by decide),_,rfl,q,_,_,vi i,rfl,rfl,SqL.of hq,rfl,_,rfl,q,_,_,vi j,rfl,rfl,SqL.of hq,rfl,X,b,l,i,j,st,rfl,hB,ok,k.tells hB (Same.refl H)⟩
  rw [decide_eq_false c5]
  refine iteF ⟨_,rfl,q,_,_,.int (zAS m:Int),rfl,rfl,SqL.of hq,h0,rfl,_,rfl,?_⟩
  rw [show (V.int (6:Int))=V.int ((6:Nat):Int) from rfl,d1 6]
  by_cases c6:zAS m=6
  ·rw [decide_eq_true c6]
   obtain ⟨i,rfl⟩:∃ i,m = .tones i:=by cases m <;> first | exact ⟨_,rfl⟩ | (simp [zAS] at c6)
   refine iteT ⟨_,rfl,b,dx,_,rfl,hb,zBn (by decide) (by decide),_,rfl,q,_,_,vi i,rfl,rfl,SqL.of hq,rfl,X,b,l,i,st,rfl,hB,ok,k.tells hB (Same.refl H)⟩
  rw [decide_eq_false c6]
  refine iteF ⟨_,rfl,q,_,_,.int (zAS m:Int),rfl,rfl,SqL.of hq,h0,rfl,_,rfl,?_⟩
  rw [show (V.int (7:Int))=V.int ((7:Nat):Int) from rfl,d1 7]
  by_cases c7:zAS m=7
  ·rw [decide_eq_true c7]
   obtain ⟨i,rfl⟩:∃ i,m = .chain i:=by cases m <;> first | exact ⟨_,rfl⟩ | (simp [zAS] at c7)
   refine iteT ⟨_,rfl,b,dx,_,rfl,hb,zBn (by decide) (by decide),_,rfl,q,_,_,vi i,rfl,rfl,SqL.of hq,rfl,X,b,l,i,st,rfl,hB,ok,k.tells hB (Same.refl H)⟩
  rw [decide_eq_false c7]
  obtain ⟨wd,n,ts,rfl⟩:∃ wd n ts,m = .cut wd n ts:=by cases m <;> first | exact ⟨_,_,_,rfl⟩ | (simp [zAS] at c1 c2 c3 c4 c5 c6 c7)
  refine iteF ⟨_,rfl,b,dx,_,rfl,hb,zBn (by decide) (by decide),_,rfl,q,_,_,vi wd,rfl,rfl,SqL.of hq,int_at (p:=1) rfl,_,rfl,q,_,_,vi n,rfl,rfl,SqL.of hq,int_at (p:=2) rfl,_,rfl,_,rfl,q,_,rfl,SqL.of hq,fun a ha=>?_⟩
  have s1:Same H (upd H a (.lst (cutV ((RC.Call.cut wd n ts).flat.map V.int) (some 4) none))):=Same.new (Same.refl H) ha
  have hfl:=RC.flat3_length ts
  refine ⟨X,b,l,a,wd,n,ts,st,rfl,hB.same s1,ok,?_,?_,k.up s1⟩
  ·exact uS.trans (congrArg (fun z=>some (HO.lst z)) ((zGt (p:=4)).trans (zCW (RC.flat3 ts)).symm))
  ·have:(RC.Call.cut wd n ts).flat.length=4+(RC.flat3 ts).length:=by
    simp [RC.Call.flat,RC.ints_length]
    omega
   omega
end
end RB
end
section
namespace RB
open PySem PySem.Spec PyProof.Rows L2 RX
section
variable {P:Program} {w:World} {K:PySem.W.Frag} {mg:Str->Option Value} {base:Heap}
noncomputable def spAnswers (K:PySem.W.Frag):Sp:=fun vs H Q _=>∃ (c:Addr) (l:List Int) (ms:List RC.Call),vs=[.ref c]/\SqL K H c (l.map V.int)/\l.length<=30000/\(∀ m∈ms,m.Ok)/\l=ms.flatMap RC.Call.flat/\(PyFlat.told (RC.mplay RC.start ms)).length<=1001200/\
 ∀ q H',H' q=some (.lst ((PyFlat.told (RC.mplay RC.start ms)).map V.int))->Q (.ref q) H'
theorem zBC:zAc ["calls","bench","given","place","behind","row"] ["calls"] (zAa zBV):=⟨rfl,rfl,rfl,by decide +kernel,rfl,by decide +kernel,by decide +kernel⟩
theorem zAu.putX {C:Cs} {H:Hp} {b l g:Addr} {s:RC.St} {o:HO} (h:zAu C (fun c=>c=g) H b l s) (nb:g≠b) (nl:g≠l):zAu C (fun c=>c=g) (upd H g o) b l s:=by
 obtain ⟨dx,cs,pv,h1,h2,h3,h4,h5,hX⟩:=h.ex
 have sm:Same (outH (fun c=>c=g) b l H) (outH (fun c=>c=g) b l (upd H g o)):=zCx fun c u z e=>⟨z,by rw [uN z.2.2]; exact e⟩
 refine ⟨dx,cs,pv,by rw [uN nb.symm]; exact h1,by rw [uN nl.symm]; exact h2,h3,fun i c x z1 z2=>(h4 i c x z1 z2).same sm,h5.same sm,fun c hc=>?_⟩
 rw [hc,uS]
 simp
theorem zNT (m:RC.Call):1<=m.flat.length:=by cases m <;> simp [RC.Call.flat]
theorem zMR:RC.start.Ok:=⟨(fun x hx=>by simp [RC.start] at hx),by simp [RC.start],(fun p hp=>by simp [RC.start] at hp)⟩
theorem zJG {f:Addr} {C:Cs} {fd:FuncData} (F:Fun K "answers" "answers" zBV f fd) (hlen:mg "len" = none) (G0:GC P w K mg base 1 "Bench" C.CB ["self"] (spBI C.CB)) (G1:GF P w K mg base CX0 1 "call_end" ["calls","place"] (zEs K)) (G2:GF P w K mg base CX0 7 "answer_to" ["bench","call"] (spTo C)):
  FnOk P w K mg base CX0 8 f fd ["calls"] (spAnswers K):=by
 refine F.ok zBC (fun vs H Q E h=>?_) (fun cdv A outer s H vs Q E hr h=>?_)
 ·obtain ⟨c,l,ms,rfl,_⟩:=h
  rfl
 ·obtain ⟨c,L,ms,rfl,hc,hL,hok,hflat,htold,k⟩:=h
  have hr1:=hr.mono (show 1<=7 by decide)
  have hr2:=hr.mono (show 2<=7 by decide)
  refine ⟨_,pC (pS (i:=1) zBC.nd rfl (Or.inl rfl) (zLp G0 hr2))
   (pC (pS (i:=2) zBC.nd rfl (Or.inl rfl) (zAd pN))
   (pC (pS (i:=3) zBC.nd rfl (Or.inl rfl) zAb)
   (pC (zDe PassesOwn.never (cR zCC (pv 3) (zAt zAj rfl hlen PySem.boot_len (pA (pv 0) pN)) (zAe _))
    (pC (pS (i:=4) zBC.nd rfl (Or.inl rfl) (cG G1 hr1 zAh (pA (pv 0) (pA (pv 3) pN))))
    (pC (pS (i:=5) zBC.nd rfl (Or.inl rfl) (cG G2 hr zAh (pA (pv 1) (pA (zEf zFS (pv 0) (zEJ (pv 3)) (zEJ (pv 4))) pN))))
    (pC (zAA (zCj PySem.F.plainAttrs_list PySem.F.slot_list_append PySem.F.type_list_append zAM (pv 2) (pA (zAt zAj rfl hlen PySem.boot_len (pA (pv 5) pN)) pN)))
    (pC (zAA (zCj PySem.F.plainAttrs_list PySem.F.slot_list_extend PySem.F.type_list_extend zDh (pv 2) (pA (pv 5) pN)))
    (pO (pS (i:=3) zBC.nd rfl (Or.inl rfl) (pv 4))))))))
   (pO (pR (pv 2)))))),?_⟩
  intro b dx hb hdx hne
  refine ⟨b,dx,rfl,uS,fun l hl=>⟨rfl,?_⟩⟩
  have nbl:b≠l:=nN uS hl
  have hlH:H l=none:=by
   rw [uN nbl.symm] at hl
   by_cases z:l=dx
   ·rw [z,uS] at hl
    cases hl
   ·rw [uN z] at hl
    exact hl
  generalize hH1:upd (upd (upd (upd H dx (.own b)) b (.ins C.CB dx [])) l (.lst [])) b (.ins C.CB dx (rec2 "strips" "paper" (.ref l) .non))=H1
  have s1:Same H H1:=by rw [<- hH1]; exact Same.own (Same.own (Same.own (Same.own (Same.refl H) hdx) hb) hlH) hb
  have hb1:H1 b=some (.ins C.CB dx (benF l .non)):=by rw [<- hH1,uS]; rfl
  have hl1:H1 l=some (.lst []):=by rw [<- hH1,uN nbl.symm,uS]
  refine ⟨Nat.zero_le _,fun g hg=>?_⟩
  have hgH:H g=none:=s1.free hg
  have ngb:g≠b:=(nN hb1 hg).symm
  have ngl:g≠l:=(nN hl1 hg).symm
  have s2:Same H1 (upd H1 g (.lst [])):=Same.new (Same.refl H1) hg
  have hB2:zAu C (fun c=>c=g) (upd H1 g (.lst [])) b l RC.start:=⟨dx,[],.non,s2 _ _ hb1,s2 _ _ hl1,rfl,(fun i c x z=>by simp at z),rfl,fun c hc=>by rw [hc,uS]; simp⟩
  refine ⟨fun m σ H'=>∃ (u v:Option V) (p:Nat) (st:RC.St) (done:List (List Int)) (rest:List RC.Call),m=rest.length/\σ=[some (.ref c),some (.ref b),some (.ref g),some (vi p),u,v]/\Same H H'/\zAu C (fun c=>c=g) H' b l st/\st.Ok/\H' g=some (.lst ((PyFlat.told done).map V.int))/\
   (∀ x∈rest,x.Ok)/\p<=L.length/\L.drop p=rest.flatMap RC.Call.flat/\RC.mplay RC.start ms=done++RC.mplay st rest,
   ⟨_,none,none,0,RC.start,[],ms,rfl,rfl,s1.trans s2,hB2,zMR,uS,hok,Nat.zero_le _,hflat,rfl⟩,?_⟩
  rintro m σ H' ⟨u,v,p,st,done,rest,rfl,rfl,s3,B3,ok3,g3,hrest,hp,hd,hpl⟩
  have hc3:SqL K H' c (L.map V.int):=s3.seq hc
  refine ⟨_,rfl,_,rfl,c,_,rfl,.inl hc3,_,_,rfl,rfl,_,rfl,?_⟩
  have e1:decide ((p:Int)<(((L.map V.int).length:Nat):Int))=decide (p<L.length):=by
   rw [List.length_map]
   exact zBl _ _
  rw [e1]
  cases rest with
  | nil=>
   have hpe:L.length<=p:=List.drop_eq_nil_iff.mp hd
   rw [decide_eq_false (by omega)]
   refine iteF ⟨_,rfl,?_⟩
   have hpl:RC.mplay RC.start ms=done:=by rw [hpl]; exact List.append_nil _
   refine k g H' ?_
   rw [hpl]
   exact g3
  | cons x rest=>
   have hd:L.drop p=x.flat++rest.flatMap RC.Call.flat:=hd
   have hxp:=zNT x
   have hlen2:L.length-p=x.flat.length+(rest.flatMap RC.Call.flat).length:=by rw [<- List.length_drop,hd,List.length_append]
   rw [decide_eq_true (by omega)]
   have hxo:=hrest x List.mem_cons_self
   obtain ⟨_,_,ok4⟩:=RC.step_spec ok3 hxo (by omega)
   refine iteT ⟨fun σ' H''=>∃ (u v:Option V) (p:Nat) (st:RC.St) (done:List (List Int)),σ'=[some (.ref c),some (.ref b),some (.ref g),some (vi p),u,v]/\Same H H''/\zAu C (fun c=>c=g) H'' b l st/\st.Ok/\H'' g=some (.lst ((PyFlat.told done).map V.int))/\
    p<=L.length/\L.drop p=rest.flatMap RC.Call.flat/\RC.mplay RC.start ms=done++RC.mplay st rest,fun σ' H'' z=>⟨rest.length,by simp,?_⟩,?_⟩
   ·obtain ⟨u,v,p,st,done,z1,z2,z3,z4,z5,z6,z7,z8⟩:=z
    exact ⟨u,v,p,st,done,rest,rfl,z1,z2,z3,z4,z5,fun y hy=>hrest y (List.mem_cons_of_mem _ hy),z6,z7,z8⟩
   ·refine ⟨_,rfl,_,rfl,c,p,L,_,x,rfl,hc3,hd,?_⟩
    refine ⟨_,rfl,_,rfl,_,rfl,_,rfl,_,rfl,_,rfl,c,_,rfl,hc3,fun q hq=>?_⟩
    have s4:Same H' (upd H' q (.lst (cutV (L.map V.int) (some (p:Int)) (some ((p+x.flat.length:Nat):Int))))):=Same.new (Same.refl H') hq
    have hcut:cutV (L.map V.int) (some (p:Int)) (some ((p+x.flat.length:Nat):Int))=x.flat.map V.int:=cut_to hd rfl
    refine ⟨fun c=>c=g,b,l,q,x,st,rfl,B3.same s4,ok3,by rw [<- hcut]; exact uS,by omega,fun r H5 k5 B5 hr5 e5=>?_⟩
    have hbH:H b=none:=hb
    have g4:=s4 _ _ g3
    have g5:=k5 _ _ ngb ngl g4
    have s5:Same H H5:=fun a o z=>k5 a o (nN z hbH) (nN z hlH) (s4 _ _ (s3 _ _ z))
    have ngr:g≠r:=nN g4 hr5
    have hbound:(PyFlat.told (done++[(RC.mstep st x).2])).length<=1001200:=by
     have hpl2:RC.mplay RC.start ms=(done++[(RC.mstep st x).2])++RC.mplay (RC.mstep st x).1 rest:=by
      rw [hpl,List.append_assoc]
      rfl
     rw [hpl2] at htold
     unfold PyFlat.told at htold ⊢
     rw [List.flatMap_append,List.length_append] at htold
     omega
    have htd:PyFlat.told (done++[(RC.mstep st x).2])=PyFlat.told done++(((RC.mstep st x).2.length:Nat):Int)::(RC.mstep st x).2:=by
     unfold PyFlat.told
     rw [List.flatMap_append]
     simp
    rw [htd,List.length_append,List.length_cons] at hbound
    refine ⟨_,rfl,.inl ⟨rfl,_,SqL.of g5⟩,_,rfl,r,_,rfl,.inl (SqL.of e5),g,_,_,rfl,rfl,g5,by rw [List.length_map,sizeLine_eq]; omega,?_⟩
    have e6:(upd H5 g (.lst ((PyFlat.told done).map V.int++[.int (((RC.mstep st x).2.map V.int).length:Nat)]))) r=some (.lst ((RC.mstep st x).2.map V.int)):=by
     rw [uN ngr.symm]
     exact e5
    refine ⟨_,rfl,.inl ⟨rfl,_,SqL.of uS⟩,_,rfl,g,r,_,_,rfl,rfl,uS,e6,by rw [List.length_append,List.length_map,List.length_map,List.length_singleton,sizeLine_eq]; omega,?_⟩
    rw [zAx]
    refine ⟨_,rfl,_,_,p+x.flat.length,(RC.mstep st x).1,done++[(RC.mstep st x).2],rfl,Same.own s5 hgH,B5.putX ngb ngl,ok4,?_,by omega,?_,?_⟩
    ·rw [uS,htd,List.map_append,List.map_cons,List.length_map,List.append_assoc]
     rfl
    ·rw [<- List.drop_drop,hd,List.drop_append_of_le_length (Nat.le_refl _),List.drop_length,List.nil_append]
    ·rw [hpl,List.append_assoc]
     rfl
end
end RB
end
section
namespace RB
open PySem PySem.Spec PyProof.Rows L2 RX
section
variable {K:PySem.W.Frag} {h:Heap} {mg:Str->Option Value}
def HF (K:PySem.W.Frag) (mg:Str->Option Value) (x:Str) (st:Stmt) (ps:List Str):Prop:=∃ f fd,Fun K x x st f fd/\mg x=some (.ref f)/\zBG K fd ps []
def HM (K:PySem.W.Frag) (C:Addr) (m qual:Str) (st:Stmt) (ps:List Str):Prop:=∃ f fd,Fun K m qual st f fd/\Meth K C m f/\zBG K fd ps []
def HC (K:PySem.W.Frag) (mg:Str->Option Value) (x:Str) (C:Addr) (qual:Str) (st:Stmt) (ps:List Str):Prop:=mg x=some (.ref C)/\∃ f fd,Fun K "__init__" qual st f fd/\Mk K C f/\zBG K fd ps []
theorem mkHF {x:Str} {st:Stmt} {ps:List Str} {f:Addr} {oc:Value} {od an:Option Addr} {osl:Array (Option Value)} {kV doc pm cdv ct:Value} (X:K.In h) (G:h.Ns mainGlobals mg) (a:PySem.W.nsIn K mainGlobals x=some (some (.ref f)))
  (l:K.lookup f=some ⟨oc,od,.func (PySem.W.fnOf x x (zBw st) (zAZ st) (zAa st) .none kV doc pm an cdv ct),osl⟩) (c:PySem.W.codeIn K cdv x=true) (k:PySem.W.keepIn K (.ref f)=true)
  (b:∀ (kV doc pm:Value) (an:Option Addr) (cdv ct:Value) (us:List Value),us.length=ps.length->bindArgs (PySem.W.fnOf x x (zBw st) (zAZ st) (zAa st) .none kV doc pm an cdv ct) ⟨us,[]⟩=pure (ps.zip us)):HF K mg x st ps:=
 ⟨f,_,zDj l c k,PySem.W.mg_of X G a,(zDj l c k).binds b⟩
theorem mkHM {C:Addr} {m qual:Str} {st:Stmt} {ps:List Str} {f:Addr} {oc:Value} {od an:Option Addr} {osl:Array (Option Value)} {kV doc pm cdv ct:Value} (a:PySem.W.findIn K (.ref C) m=some (some (.ref f))) (i:PySem.W.isFn K (.ref f)=true)
  (l:K.lookup f=some ⟨oc,od,.func (PySem.W.fnOf m qual (zBw st) (zAZ st) (zAa st) .none kV doc pm an cdv ct),osl⟩) (c:PySem.W.codeIn K cdv qual=true) (k:PySem.W.keepIn K (.ref f)=true)
  (b:∀ (kV doc pm:Value) (an:Option Addr) (cdv ct:Value) (us:List Value),us.length=ps.length->bindArgs (PySem.W.fnOf m qual (zBw st) (zAZ st) (zAa st) .none kV doc pm an cdv ct) ⟨us,[]⟩=pure (ps.zip us)):HM K C m qual st ps:=
 ⟨f,_,zDj l c k,⟨a,i,k⟩,(zDj l c k).binds b⟩
theorem mkHC {x:Str} {C:Addr} {qual:Str} {st:Stmt} {ps:List Str} {f:Addr} {oc:Value} {od an:Option Addr} {osl:Array (Option Value)} {kV doc pm cdv ct:Value} (X:K.In h) (G:h.Ns mainGlobals mg) (ac:PySem.W.nsIn K mainGlobals x=some (some (.ref C)))
  (a:PySem.W.findIn K (.ref C) "__init__" = some (some (.ref f))) (i:PySem.W.isFn K (.ref f)=true)
  (l:K.lookup f=some ⟨oc,od,.func (PySem.W.fnOf "__init__" qual (zBw st) (zAZ st) (zAa st) .none kV doc pm an cdv ct),osl⟩) (c:PySem.W.codeIn K cdv qual=true) (k:PySem.W.keepIn K (.ref f)=true) (mk:PySem.W.makesIn K C=true) (kc:PySem.W.keepIn K (.ref C)=true)
  (b:∀ (kV doc pm:Value) (an:Option Addr) (cdv ct:Value) (us:List Value),us.length=ps.length->bindArgs (PySem.W.fnOf "__init__" qual (zBw st) (zAZ st) (zAa st) .none kV doc pm an cdv ct) ⟨us,[]⟩=pure (ps.zip us)):HC K mg x C qual st ps:=
 ⟨PySem.W.mg_of X G ac,f,_,zDj l c k,⟨mk,a,i,kc⟩,(zDj l c k).binds b⟩
theorem mkCl2 {C:Addr} {a b:Str} (pg:PySem.W.plainGet K C Str.empty=true) (hd:PySem.W.hasDictIn K C=true) (po:PySem.W.plainOver K C=true) (sa:PySem.W.findIn K (.ref C) "__setattr__" = some (some (.builtin "object.__setattr__")))
  (n1:PySem.W.findIn K (.ref C) a=some none) (n2:PySem.W.findIn K (.ref C) b=some none):Cl K C [a,b]:=⟨⟨pg,hd,po,sa⟩,fun f hf=>by
 have:f=a\/f=b:=by simpa using hf
 rcases this with z | z
 ·rw [z]; exact n1
 ·rw [z]; exact n2⟩
theorem mkCl3 {C:Addr} {a b c:Str} (pg:PySem.W.plainGet K C Str.empty=true) (hd:PySem.W.hasDictIn K C=true) (po:PySem.W.plainOver K C=true) (sa:PySem.W.findIn K (.ref C) "__setattr__" = some (some (.builtin "object.__setattr__")))
  (n1:PySem.W.findIn K (.ref C) a=some none) (n2:PySem.W.findIn K (.ref C) b=some none) (n3:PySem.W.findIn K (.ref C) c=some none):Cl K C [a,b,c]:=⟨⟨pg,hd,po,sa⟩,fun f hf=>by
 have:f=a\/f=b\/f=c:=by simpa using hf
 rcases this with z | z | z
 ·rw [z]; exact n1
 ·rw [z]; exact n2
 ·rw [z]; exact n3⟩
theorem mkCl4 {C:Addr} {a b c d:Str} (pg:PySem.W.plainGet K C Str.empty=true) (hd:PySem.W.hasDictIn K C=true) (po:PySem.W.plainOver K C=true) (sa:PySem.W.findIn K (.ref C) "__setattr__" = some (some (.builtin "object.__setattr__")))
  (n1:PySem.W.findIn K (.ref C) a=some none) (n2:PySem.W.findIn K (.ref C) b=some none) (n3:PySem.W.findIn K (.ref C) c=some none) (n4:PySem.W.findIn K (.ref C) d=some none):Cl K C [a,b,c,d]:=⟨⟨pg,hd,po,sa⟩,fun f hf=>by
 have:f=a\/f=b\/f=c\/f=d:=by simpa using hf
 rcases this with z | z | z | z
 ·rw [z]; exact n1
 ·rw [z]; exact n2
 ·rw [z]; exact n3
 ·rw [z]; exact n4⟩
theorem mkGI {x:Str} {n:Int} {t:Tok} (X:K.In h) (G:h.Ns mainGlobals mg) (a:PySem.W.nsIn K mainGlobals x=some (some (.int n t))):GI mg x n:=⟨_,PySem.W.mg_of X G a,t,rfl⟩
theorem mkGS {x s:Str} {t:Tok} (X:K.In h) (G:h.Ns mainGlobals mg) (a:PySem.W.nsIn K mainGlobals x=some (some (.str s t))):GS mg x s:=⟨_,PySem.W.mg_of X G a,t,rfl⟩
theorem mkNo {x:Str} (X:K.In h) (G:h.Ns mainGlobals mg) (a:PySem.W.nsIn K mainGlobals x=some none):mg x=none:=PySem.W.ns_none_of X G a
theorem mkKT2 {a:Addr} {x y:Int} {t u:Tok} {n:Nat} {dd:Option Addr} {sl:Array (Option Value)} (l:K.lookup a=some ⟨.type "tuple",dd,.seq #[.int x t,.int y u] n,sl⟩):KT K a [.int x,.int y]:=
 ⟨_,_,n,l,rfl,rfl,(by show 2<=sizeLine; decide),.cons ⟨_,rfl⟩ (.cons ⟨_,rfl⟩ .nil)⟩
theorem mkGR {R a b c d:Addr} {n:Nat} {dd:Option Addr} {sl:Array (Option Value)} (X:K.In h) (G:h.Ns mainGlobals mg) (aR:PySem.W.nsIn K mainGlobals "PAPER_RANGES" = some (some (.ref R))) (l:K.lookup R=some ⟨.type "tuple",dd,.seq #[.ref a,.ref b,.ref c,.ref d] n,sl⟩)
  (ka:KT K a [.int 0,.int 15]) (kb:KT K b [.int 1,.int 65535]) (kc:KT K c [.int 1,.int 65535]) (kd:KT K d [.int 1,.int 128]):GR K mg:=by
 refine ⟨R,[a,b,c,d],PySem.W.mg_of X G aR,⟨_,_,n,l,rfl,rfl,(by show 4<=sizeLine; decide),.cons rfl (.cons rfl (.cons rfl (.cons rfl .nil)))⟩,rfl,fun i t ht=>?_⟩
 match i,ht with
 | 0,ht=>cases ht; exact ka
 | 1,ht=>cases ht; exact kb
 | 2,ht=>cases ht; exact kc
 | 3,ht=>cases ht; exact kd
theorem mkKD {P:Program} {w:World} {D:Addr} {n:Nat} {t1 t2 t3 t4 t5 t6 t7 t8 u1 u2 u3 u4 u5 u6 u7 u8:Tok}
  (l:K.lookup D=some ⟨.type "dict",none,.dict #[⟨1,.int 1 t1,.int 0 u1⟩,⟨2,.int 2 t2,.int 1 u2⟩,⟨3,.int 3 t3,.int 4 u3⟩,⟨4,.int 4 t4,.int 1 u4⟩,⟨5,.int 5 t5,.int 2 u5⟩,⟨6,.int 6 t6,.int 1 u6⟩,⟨7,.int 7 t7,.int 1 u7⟩,⟨8,.int 8 t8,.int 2 u8⟩] n,#[]⟩):KD P w K D whole:=by
 intro h X
 refine ⟨_,⟨_,_,n,X _ _ l,⟨rfl,rfl,rfl⟩,rfl,fun e he=>?_,fun k=>rfl⟩,fun k v hv=>?_⟩
 ·have he:e∈[_,_,_,_,_,_,_,_]:=Array.mem_toList_iff.mpr he
  simp only [List.mem_cons,List.not_mem_nil,or_false] at he
  rcases he with rfl | rfl | rfl | rfl | rfl | rfl | rfl | rfl
  ·exact ⟨1,rfl,(by show (1:Int)=hashInt 1; decide +kernel)⟩
  ·exact ⟨2,rfl,(by show (2:Int)=hashInt 2; decide +kernel)⟩
  ·exact ⟨3,rfl,(by show (3:Int)=hashInt 3; decide +kernel)⟩
  ·exact ⟨4,rfl,(by show (4:Int)=hashInt 4; decide +kernel)⟩
  ·exact ⟨5,rfl,(by show (5:Int)=hashInt 5; decide +kernel)⟩
  ·exact ⟨6,rfl,(by show (6:Int)=hashInt 6; decide +kernel)⟩
  ·exact ⟨7,rfl,(by show (7:Int)=hashInt 7; decide +kernel)⟩
  ·exact ⟨8,rfl,(by show (8:Int)=hashInt 8; decide +kernel)⟩
 ·unfold whole at hv
  split at hv <;> cases hv <;> exact ⟨_,rfl⟩
end
end RB
end
section
namespace RB
open PySem PySem.Spec PyProof.Rows L2 RX
structure Has (K:PySem.W.Frag) (mg:Str->Option Value) (CR CS CP CT CD CB CF:Addr):Prop where
 f8_:HF K mg "fewest_slots" zHY ["rows","paper"]
 f17_:HF K mg "shared" zFZ ["rows","things"]
 f12_:HF K mg "laid_slots" sLaid ["lengths","bridges"]
 f4_:HF K mg "chain_slots" zKV ["sounding","paper"]
 f2_:HF K mg "begin_slots" zKW ["run","row","begins","ends"]
 f5_:HF K mg "close_wrongs" zKU ["run","row","ends","bridge"]
 f13_:HF K mg "long_wrongs" sLong ["run","row","begins","longest"]
 f14_:HF K mg "near_wrongs" sNear ["run","row","near"]
 f10_:HF K mg "first_wrong" zKO ["strip","paper"]
 f11_:HF K mg "fits" sFits ["tone","width","last_end"]
 f19_:HF K mg "stands_behind" zIa ["tone","before"]
 f6_:HF K mg "cut_slot" zGc ["holes","track","first","length"]
 f20_:HF K mg "strip_of_rows" zHW ["width","rows"]
 f9_:HF K mg "first_fault" zKT ["width","rows","tones","paper"]
 f7_:HF K mg "cut_strip" zCh ["width","rows","tones","paper"]
 f22_:HF K mg "strip_tones" zKP ["strip","tail"]
 f18_:HF K mg "sounding_tracks" zEy ["strip","tail","row"]
 f16_:HF K mg "run_line" zMY ["run"]
 f21_:HF K mg "strip_text" zMX ["strip"]
 f23_:HF K mg "take_run" sRun ["reader","rows_left","width"]
 f15_:HF K mg "read_strip" sRead ["given"]
 f0_:HF K mg "answer" zIf ["number","listed","text"]
 f24_:HF K mg "told_wrong" sTold ["wrong"]
 f25_:HF K mg "tones_from" zMZ ["numbers"]
 f3_:HF K mg "call_end" zGd ["calls","place"]
 f1_:HF K mg "answer_to" zEz ["bench","call"]
 c3_:HC K mg "Run" CR "Run.__init__" sRunI ["self","rows","tracks"]
 t3_:Cl K CR zEB
 c4_:HC K mg "Strip" CS "Strip.__init__" zHU ["self","width","runs"]
 t4_:Cl K CS zDp
 c1_:HC K mg "Paper" CP "Paper.__init__" zHV ["self","tail","longest","bridge","near"]
 t1_:Cl K CP zHk
 c5_:HC K mg "Tone" CT "Tone.__init__" zKQ ["self","track","first","end"]
 t5_:Cl K CT zDG
 c2_:HC K mg "Reader" CD "Reader.__init__" zGa ["self","given"]
 t2_:Cl K CD zBy
 c0_:HC K mg "Bench" CB "Bench.__init__" zHZ ["self"]
 t0_:Cl K CB zBm
 m10_:HM K CD "at_end" "Reader.at_end" zKZ ["self"]
 m11_:HM K CD "is_at" "Reader.is_at" sIsAt ["self","byte"]
 m12_:HM K CD "is_at_digit" "Reader.is_at_digit" zGb ["self"]
 m13_:HM K CD "take" "Reader.take" sTake ["self","byte"]
 m14_:HM K CD "take_number" "Reader.take_number" zHX ["self","least","most"]
 m5_:HM K CB "read" "Bench.read" zKY ["self","text"]
 m2_:HM K CB "keep" "Bench.keep" sKeep ["self","strip"]
 m8_:HM K CB "tell_text" "Bench.tell_text" zKX ["self","s"]
 m4_:HM K CB "lay_paper" "Bench.lay_paper" zIc ["self","numbers"]
 m3_:HM K CB "lacks" "Bench.lacks" zKR ["self","s"]
 m1_:HM K CB "judge" "Bench.judge" zId ["self","s"]
 m7_:HM K CB "tell_sounds" "Bench.tell_sounds" zGe ["self","s","row"]
 m9_:HM K CB "tell_tones" "Bench.tell_tones" zIb ["self","s"]
 m6_:HM K CB "tell_chain" "Bench.tell_chain" zIe ["self","rows"]
 m0_:HM K CB "cut" "Bench.cut" sBCut ["self","width","rows","numbers"]
 i23_:GI mg "TOO_CLOSE" 2
 i24_:GI mg "TOO_LONG" 1
 i25_:GI mg "TOO_NEAR" 3
 i3_:GI mg "DIGIT_0" 48
 i4_:GI mg "DIGIT_9" 57
 i0_:GI mg "BLANK" 32
 i11_:GI mg "MOST_TRACKS" 128
 i6_:GI mg "LINE_END" 10
 i7_:GI mg "MOST_ROWS" 256
 i9_:GI mg "MOST_STRIPS" 32
 i14_:GI mg "NO_ROOM" (-10)
 i15_:GI mg "NO_STRIP" (-4)
 i13_:GI mg "NO_PAPER" (-8)
 i8_:GI mg "MOST_SOUNDING_ROWS" 271
 i17_:GI mg "OUT_OF_RANGE" (-1)
 i12_:GI mg "NOT_TO_BE_CUT" (-3)
 i10_:GI mg "MOST_TONES" 512
 i26_:GI mg "WRONG_STRIP" (-9)
 i16_:GI mg "NO_STRIP_TEXT" (-6)
 i19_:GI mg "READ" 1
 i21_:GI mg "TEXT" 2
 i18_:GI mg "PAPER" 3
 i5_:GI mg "JUDGE" 4
 i20_:GI mg "SOUNDS" 5
 i22_:GI mg "TONES" 6
 i1_:GI mg "CHAIN" 7
 i2_:GI mg "CUT" 8
 n5_:mg "range" = none
 n9_:mg "zip" = none
 n2_:mg "max" = none
 n3_:mg "min" = none
 n1_:mg "len" = none
 n8_:mg "str" = none
 n4_:mg "ord" = none
 n0_:mg "enumerate" = none
 n7_:mg "sorted" = none
 n6_:mg "set" = none
 head:GS mg "HEAD" (sOf RC.headCodes)
 ranges:GR K mg
 whole:∃ D,mg "WHOLE_NUMBERS" = some (.ref D)/\∀ (P:Program) (w:World),KD P w K D whole
 fault:∃ N fI fd,TF K CF N fI/\Fun K "__init__" "TextFault.__init__" zCL fI fd/\zBG K fd ["self","place"] []
 faultM:mg "TextFault" = some (.ref CF)
 faultK:PySem.W.keepIn K (.ref CF)=true
theorem all_ok {P:Program} {w:World} {K:PySem.W.Frag} {mg:Str->Option Value} {base:Heap} {CR CS CP CT CD CB CF fa:Addr} {fda:FuncData} (h:Has K mg CR CS CP CT CD CB CF) (FA:Fun K "answers" "answers" zBV fa fda):
  FnOk P w K mg base CX0 8 fa fda ["calls"] (spAnswers K):=by
 have g18_:GC P w K mg base 1 "Run" CR ["self","rows","tracks"] (spI2 CR "rows" "tracks"):=by
  obtain ⟨m,f,fd,F,k,b⟩:=h.c3_
  exact ⟨f,fd,ok_runI F h.t3_,m,k,b⟩
 have g19_:GC P w K mg base 1 "Strip" CS ["self","width","runs"] (spI2 CS "width" "runs"):=by
  obtain ⟨m,f,fd,F,k,b⟩:=h.c4_
  exact ⟨f,fd,zLv F h.t4_,m,k,b⟩
 have g11_:GC P w K mg base 1 "Paper" CP ["self","tail","longest","bridge","near"] (spI4 CP "tail" "longest" "bridge" "near"):=by
  obtain ⟨m,f,fd,F,k,b⟩:=h.c1_
  exact ⟨f,fd,zLx F h.t1_,m,k,b⟩
 have g20_:GC P w K mg base 1 "Tone" CT ["self","track","first","end"] (spI3 CT "track" "first" "end"):=by
  obtain ⟨m,f,fd,F,k,b⟩:=h.c5_
  exact ⟨f,fd,zNr F h.t5_,m,k,b⟩
 have g12_:GC P w K mg base 1 "Reader" CD ["self","given"] (spRI CD):=by
  obtain ⟨m,f,fd,F,k,b⟩:=h.c2_
  exact ⟨f,fd,zJB F h.t2_,m,k,b⟩
 have g0_:GC P w K mg base 1 "Bench" CB ["self"] (spBI CB):=by
  obtain ⟨m,f,fd,F,k,b⟩:=h.c0_
  exact ⟨f,fd,zLF F h.t0_,m,k,b⟩
 have g28_:GF P w K mg base CX0 1 "fewest_slots" ["rows","paper"] (zFL CP):=by
  obtain ⟨f,fd,F,m,b⟩:=h.f8_
  exact ⟨f,fd,zLA F h.t1_,m,F.kp,b⟩
 have g37_:GF P w K mg base CX0 1 "shared" ["rows","things"] zFJ:=by
  obtain ⟨f,fd,F,m,b⟩:=h.f17_
  exact ⟨f,fd,zLw F h.n5_,m,F.kp,b⟩
 have g32_:GF P w K mg base CX0 1 "laid_slots" ["lengths","bridges"] zKx:=by
  obtain ⟨f,fd,F,m,b⟩:=h.f12_
  exact ⟨f,fd,ok_laid F h.n9_,m,F.kp,b⟩
 have g24_:GF P w K mg base CX0 2 "chain_slots" ["sounding","paper"] (zEr CP):=by
  obtain ⟨f,fd,F,m,b⟩:=h.f4_
  exact ⟨f,fd,zNy F h.t1_ h.n2_ g28_ g37_ g32_,m,F.kp,b⟩
 have g22_:GF P w K mg base CX0 1 "begin_slots" ["run","row","begins","ends"] (zHO CR):=by
  obtain ⟨f,fd,F,m,b⟩:=h.f2_
  exact ⟨f,fd,zNB F h.t3_,m,F.kp,b⟩
 have g25_:GF P w K mg base CX0 1 "close_wrongs" ["run","row","ends","bridge"] (zHN CR):=by
  obtain ⟨f,fd,F,m,b⟩:=h.f5_
  exact ⟨f,fd,zNx F h.t3_ h.i23_,m,F.kp,b⟩
 have g33_:GF P w K mg base CX0 1 "long_wrongs" ["run","row","begins","longest"] (zKv CR):=by
  obtain ⟨f,fd,F,m,b⟩:=h.f13_
  exact ⟨f,fd,ok_long F h.t3_ h.i24_,m,F.kp,b⟩
 have g34_:GF P w K mg base CX0 1 "near_wrongs" ["run","row","near"] (zKu CR):=by
  obtain ⟨f,fd,F,m,b⟩:=h.f14_
  exact ⟨f,fd,ok_near F h.t3_ h.i25_,m,F.kp,b⟩
 have g30_:GF P w K mg base CX0 2 "first_wrong" ["strip","paper"] (zFI CS CR CP):=by
  obtain ⟨f,fd,F,m,b⟩:=h.f10_
  exact ⟨f,fd,zNp F h.t4_ h.t3_ h.t1_ h.n3_ g25_ g34_ g22_ g33_,m,F.kp,b⟩
 have g31_:GF P w K mg base CX0 1 "fits" ["tone","width","last_end"] (zKz CT):=by
  obtain ⟨f,fd,F,m,b⟩:=h.f11_
  exact ⟨f,fd,ok_fits F h.t5_,m,F.kp,b⟩
 have g39_:GF P w K mg base CX0 1 "stands_behind" ["tone","before"] (zFM CT):=by
  obtain ⟨f,fd,F,m,b⟩:=h.f19_
  exact ⟨f,fd,zLG F h.t5_,m,F.kp,b⟩
 have g26_:GF P w K mg base CX0 1 "cut_slot" ["holes","track","first","length"] zEq:=by
  obtain ⟨f,fd,F,m,b⟩:=h.f6_
  exact ⟨f,fd,zJD F h.n5_,m,F.kp,b⟩
 have g40_:GF P w K mg base CX0 3 "strip_of_rows" ["width","rows"] (zFK CS CR):=by
  obtain ⟨f,fd,F,m,b⟩:=h.f20_
  exact ⟨f,fd,zLy F h.t3_ g18_ g19_,m,F.kp,b⟩
 have g29_:GF P w K mg base CX0 3 "first_fault" ["width","rows","tones","paper"] (zHM CT CP):=by
  obtain ⟨f,fd,F,m,b⟩:=h.f9_
  exact ⟨f,fd,zNw F h.t5_ h.t1_ h.n0_ g31_ g24_ g39_,m,F.kp,b⟩
 have g27_:GF P w K mg base CX0 4 "cut_strip" ["width","rows","tones","paper"] (spCut CS CR CT CP):=by
  obtain ⟨f,fd,F,m,b⟩:=h.f7_
  exact ⟨f,fd,ok_cut F h.t5_ h.n5_ h.n7_ g26_ g24_ g40_,m,F.kp,b⟩
 have g42_:GF P w K mg base CX0 3 "strip_tones" ["strip","tail"] (zHJ CS CR CT):=by
  obtain ⟨f,fd,F,m,b⟩:=h.f22_
  exact ⟨f,fd,zNq F h.t4_ h.t3_ h.t5_ g20_,m,F.kp,b⟩
 have g38_:GF P w K mg base CX0 1 "sounding_tracks" ["strip","tail","row"] (zHK CS CR):=by
  obtain ⟨f,fd,F,m,b⟩:=h.f18_
  exact ⟨f,fd,zNt F h.t4_ h.t3_ h.n7_ h.n6_,m,F.kp,b⟩
 have g36_:GF P w K mg base CX0 1 "run_line" ["run"] (zKw CR):=by
  obtain ⟨f,fd,F,m,b⟩:=h.f16_
  exact ⟨f,fd,ok_line F h.t3_ h.n8_,m,F.kp,b⟩
 have g41_:GF P w K mg base CX0 2 "strip_text" ["strip"] (zKt CS CR):=by
  obtain ⟨f,fd,F,m,b⟩:=h.f21_
  exact ⟨f,fd,ok_text F h.t4_ h.n8_ h.n4_ h.head g36_,m,F.kp,b⟩
 have ge:GE P w K mg base CF:=by
  obtain ⟨N,fI,fd,T,F,b⟩:=h.fault
  exact ⟨⟨N,fI,fd,T,zLB F T,b⟩,h.faultM,h.faultK⟩
 have g13_:GM P w K mg base CX0 1 CD "at_end" ["self"] (zEu CD):=by
  obtain ⟨f,fd,F,m,b⟩:=h.m10_
  exact ⟨f,fd,zNC F h.t2_ h.n1_,m,b⟩
 have g14_:GM P w K mg base CX0 2 CD "is_at" ["self","byte"] (zIH CD):=by
  obtain ⟨f,fd,F,m,b⟩:=h.m11_
  exact ⟨f,fd,ok_isAt F h.t2_ g13_,m,b⟩
 have g15_:GM P w K mg base CX0 2 CD "is_at_digit" ["self"] (zEp CD):=by
  obtain ⟨f,fd,F,m,b⟩:=h.m12_
  exact ⟨f,fd,zJC F h.t2_ h.i3_ h.i4_ g13_,m,b⟩
 have g16_:GM P w K mg base (CXF P w CF) 3 CD "take" ["self","byte"] (zGN CD CF):=by
  obtain ⟨f,fd,F,m,b⟩:=h.m13_
  exact ⟨f,fd,ok_take F h.t2_ ge g14_,m,b⟩
 have g17_:GM P w K mg base (CXF P w CF) 3 CD "take_number" ["self","least","most"] (zEa CD CF):=by
  obtain ⟨f,fd,F,m,b⟩:=h.m14_
  exact ⟨f,fd,zLz F h.t2_ ge h.i3_ g15_,m,b⟩
 have g43_:GF P w K mg base (CXF P w CF) 4 "take_run" ["reader","rows_left","width"] (spRun CD CF CR):=by
  obtain ⟨f,fd,F,m,b⟩:=h.f23_
  exact ⟨f,fd,ok_run F h.t2_ h.i0_ g14_ g16_ g17_ g18_,m,F.kp,b⟩
 have g35_:GF P w K mg base (CXF P w CF) 5 "read_strip" ["given"] (zHL CF CS CR):=by
  obtain ⟨f,fd,F,m,b⟩:=h.f15_
  exact ⟨f,fd,zNu F h.t2_ h.t3_ ge h.n4_ h.head h.i11_ h.i6_ h.i7_ g12_ g13_ g16_ g17_ g43_ g19_,m,F.kp,b⟩
 have ga:∃ (fa:Addr) (fda:FuncData),zIy P w K mg base 1 fa fda ["number","listed","text"] zCs/\mg "answer" = some (.ref fa)/\PySem.W.keepIn K (.ref fa)=true/\zBG K fda ["number","listed","text"] []:=by
  obtain ⟨f,fd,F,m,b⟩:=h.f0_
  exact ⟨f,fd,zLI F h.n1_,m,F.kp,b⟩
 have gn:Gans P w K mg base:=by
  obtain ⟨f,fd,F,m,k,b⟩:=ga
  exact ⟨f,fd,F.ok (fun vs H Q E z=>z),m,k,b⟩
 have g44_:GF P w K mg base CX0 1 "told_wrong" ["wrong"] zIF:=by
  obtain ⟨f,fd,F,m,b⟩:=h.f24_
  exact ⟨f,fd,ok_told F ,m,F.kp,b⟩
 have g45_:GF P w K mg base CX0 3 "tones_from" ["numbers"] (zKy CT):=by
  obtain ⟨f,fd,F,m,b⟩:=h.f25_
  exact ⟨f,fd,ok_from F h.n5_ h.n1_ g20_,m,F.kp,b⟩
 let C:Cs:=⟨CB,CS,CR,CP⟩
 have g3_:GM P w K mg base CX0 2 C.CB "keep" ["self","strip"] (zIG C):=by
  obtain ⟨f,fd,F,m,b⟩:=h.m2_
  exact ⟨f,fd,ok_keep F h.t0_ h.n1_ h.i9_ h.i14_ gn,m,b⟩
 have g9_:GM P w K mg base CX0 3 C.CB "tell_text" ["self","s"] (zHP C):=by
  obtain ⟨f,fd,F,m,b⟩:=h.m8_
  exact ⟨f,fd,zNz F h.t0_ h.n1_ h.i15_ gn g41_,m,b⟩
 have g4_:GM P w K mg base CX0 1 C.CB "lacks" ["self","s"] (zEo C):=by
  obtain ⟨f,fd,F,m,b⟩:=h.m3_
  exact ⟨f,fd,zNv F h.t0_ h.n1_ h.i15_ h.i13_,m,b⟩
 have g2_:GM P w K mg base CX0 3 C.CB "judge" ["self","s"] (zFP C):=by
  obtain ⟨f,fd,F,m,b⟩:=h.m1_
  exact ⟨f,fd,zLE F h.t0_ gn g4_ g30_ g44_,m,b⟩
 have g8_:GM P w K mg base CX0 3 C.CB "tell_sounds" ["self","s","row"] (zEt C):=by
  obtain ⟨f,fd,F,m,b⟩:=h.m7_
  exact ⟨f,fd,zJF F h.t0_ h.t1_ gn g4_ g38_,m,b⟩
 have g10_:GM P w K mg base CX0 4 C.CB "tell_tones" ["self","s"] (zFN C):=by
  obtain ⟨f,fd,F,m,b⟩:=h.m9_
  exact ⟨f,fd,zLC F h.t0_ h.t1_ h.t5_ h.n1_ gn g4_ g42_,m,b⟩
 have g7_:GM P w K mg base CX0 3 C.CB "tell_chain" ["self","rows"] (zFQ C):=by
  obtain ⟨f,fd,F,m,b⟩:=h.m6_
  exact ⟨f,fd,zLH F h.t0_ h.n1_ h.i13_ h.i8_ h.i17_ h.i12_ gn g24_,m,b⟩
 have g1_:GM P w K mg base CX0 5 C.CB "cut" ["self","width","rows","numbers"] (zKA C):=by
  obtain ⟨f,fd,F,m,b⟩:=h.m0_
  exact ⟨f,fd,ok_bcut F h.t0_ h.n1_ h.i13_ h.i11_ h.i7_ h.i10_ h.i17_ h.i12_ h.i26_ gn g45_ g29_ g27_ g30_ g44_ g3_,m,b⟩
 have g5_:GM P w K mg base CX0 3 C.CB "lay_paper" ["self","numbers"] (zFO C):=by
  obtain ⟨f,fd,F,m,b⟩:=h.m4_
  exact ⟨f,fd,zLD F h.t0_ h.n9_ h.ranges h.i17_ gn g11_,m,b⟩
 have g6_:GM P w K mg base CX0 6 C.CB "read" ["self","text"] (zHQ C):=by
  obtain ⟨f,fd,F,m,b⟩:=h.m5_
  exact ⟨f,fd,zNA F h.t0_ ge h.i16_ ga g35_ g3_,m,b⟩
 have g23_:GF P w K mg base CX0 1 "call_end" ["calls","place"] (zEs K):=by
  obtain ⟨f,fd,F,m,b⟩:=h.f3_
  obtain ⟨D,d1,d2⟩:=h.whole
  exact ⟨f,fd,zJE F d1 (d2 P w) h.i19_ h.i2_,m,F.kp,b⟩
 have g21_:GF P w K mg base CX0 7 "answer_to" ["bench","call"] (spTo C):=by
  obtain ⟨f,fd,F,m,b⟩:=h.f1_
  exact ⟨f,fd,ok_to F h.t0_ ⟨g6_,g9_,g5_,g2_,g8_,g10_,g7_,g1_⟩ h.i19_ h.i21_ h.i18_ h.i5_ h.i20_ h.i22_ h.i1_,m,F.kp,b⟩
 exact zJG (C:=C) FA h.n1_ g0_ g23_ g21_
end RB
end
section
namespace RB
open PySem PySem.Spec PyProof.Rows L2 RX
def HA (K:PySem.W.Frag) (mg:Str->Option Value):Prop:=∃ f fd,Fun K "answers" "answers" zBV f fd/\mg "answers" = some (.ref f)/\∀ (s:Shared) (us:List Value),us.length=(["calls"]:List Str).length->BindsTo s fd ⟨us,[]⟩ ((["calls"]:List Str).zip us)
theorem mkHA {K:PySem.W.Frag} {h:Heap} {mg:Str->Option Value} {f:Addr} {oc:Value} {od an:Option Addr} {osl:Array (Option Value)} {kV doc pm cdv ct:Value} (X:K.In h) (G:h.Ns mainGlobals mg) (a:PySem.W.nsIn K mainGlobals "answers" = some (some (.ref f)))
  (l:K.lookup f=some ⟨oc,od,.func (PySem.W.fnOf "answers" "answers" (zBw zBV) (zAZ zBV) (zAa zBV) .none kV doc pm an cdv ct),osl⟩) (c:PySem.W.codeIn K cdv "answers" = true) (k:PySem.W.keepIn K (.ref f)=true):HA K mg:=
 ⟨f,_,zDj l c k,PySem.W.mg_of X G a,fun s us hu=>match us,hu with | [_],_=>.of_eq rfl⟩
theorem fin_mk {P:Program} {w:World} {K:PySem.W.Frag} {mg:Str->Option Value} {CR CS CP CT CD CB CF fa:Addr} (hmg:mg "answers" = some (.ref fa)) (ha:HA K mg) (h:Has K mg CR CS CP CT CD CB CF):
  ∃ fd:FuncData,(∀ (s:Shared) (us:List Value),us.length=(["calls"]:List Str).length->BindsTo s fd ⟨us,[]⟩ ((["calls"]:List Str).zip us))/\∀ base:Heap,K.In base->base.Ns mainGlobals mg->FnOk P w K mg base CX0 8 fa fd ["calls"] (spAnswers K):=by
 obtain ⟨f,fd,F,m,b⟩:=ha
 cases hmg.symm.trans m
 exact ⟨fd,b,fun base _ _=>all_ok h F⟩
theorem head_eq:sOf RC.headCodes=("strip " : Str):=by decide +kernel
theorem mkTF {K:PySem.W.Frag} {C N fI:Addr} {ob:Obj} {nm q:Str} {bs:List Value} {sn:List Str} {sub:List Value} {ab:Bool} {col:Option Bool} {dd:Option Addr} {k0 k1 k2 k3 k5:Option Value} {oc:Value} {od an:Option Addr} {osl:Array (Option Value)} {kV doc pm cdv ct:Value}
  (o:K.lookup C=some ob) (e:ob=PySem.excClassObj nm q C N bs excB true sn sub ab col dd k0 k1 k2 k3 k5 "Exception.__new__") (ini:PySem.W.nsIn K N "__init__" = some (some (.ref fI))) {nc:Value} {nd:Option Addr} {es:Array DictEntry} {ep:Nat} {nsl:Array (Option Value)} (ln:K.lookup N=some ⟨nc,nd,.dict es ep,nsl⟩) (ne:(es.toList.all fun e=>match e.key with | .str _ _=>true | _=>false)=true) (np:PySem.W.nsIn K N "place" = some none) (nst:PySem.W.nsIn K N "__setattr__" = some none)
  (ng:PySem.W.nsIn K N "__getattribute__" = some none) (nga:PySem.W.nsIn K N "__getattr__" = some none) (fn:PySem.W.typeIn K (.ref fI)=some (.type "function"))
  (l:K.lookup fI=some ⟨oc,od,.func (PySem.W.fnOf "__init__" "TextFault.__init__" (zBw zCL) (zAZ zCL) (zAa zCL) .none kV doc pm an cdv ct),osl⟩) (c:PySem.W.codeIn K cdv "TextFault.__init__" = true) (k:PySem.W.keepIn K (.ref fI)=true):
  ∃ N fI fd,TF K C N fI/\Fun K "__init__" "TextFault.__init__" zCL fI fd/\zBG K fd ["self","place"] []:=
 ⟨N,fI,_,⟨⟨nm,q,bs,sn,sub,ab,col,dd,k0,k1,k2,k3,k5,by rw [o,e]⟩,(by unfold PySem.W.nsOkIn; rw [ln]; exact (Array.all_toList ..).symm.trans ne),ini,np,nst,ng,nga,fn⟩,zDj l c k,(zDj l c k).binds (fun _ _ _ _ _ _ us hl=>match us,hl with | [_,_],_=>rfl)⟩
theorem due_sp {K:PySem.W.Frag} {H:Hp} {c:Addr} {l:List Int} {d:PySem.W.WData} (hs:SqL K H c (l.map V.int)) (hl:l.length<=30000) (ha:PyWqazbs.answers_asked l=true)
  (hd:∀ q H',H' q=some (.lst ((PyWqazbs.answers l).map V.int))->Dw K H' (.ref q) d):spAnswers K [.ref c] H (fun v H'=>Dw K H' v d) fun _ _ _=>False:=by
 obtain ⟨ms,m1,m2,_,m4,m5⟩:=RC.due hl ha
 exact ⟨c,l,ms,rfl,hs,hl,m1,m2,m5,fun q H' z=>hd q H' (by rw [m4]; exact z)⟩
end RB
end
namespace PySem.W.Fast
def tw8132391863629033536:=()
def tw7108438199984411744:=()
def tw15286668015283937408:=()
def tw10567297041656967328:=()
def tw6484482198895591616:=()
def tw9994491815672784096:=()
def tw16574959415828070624:=()
def tw2357666051222116736:=()
def tw6442679269171434880:=()
def tw8598385839903861120:=()
def tw13522903060067820960:=()
def tw167185334772516384:=()
def tw16791294034431140480:=()
def tw17331092239249219328:=()
def tw7923718526152434496:=()
def tw7506219343170996064:=()
def tw9192689959450904448:=()
def tw6157296206661238688:=()
def tw11372447622474564641:=()
def tw12874256178635945089:=()
def tw4282664017395142881:=()
def tw60692291231685889:=()
def tw8325947711042603265:=()
def tw16931775793742545185:=()
def tw10675212599065646433:=()
def tw15673105795394161313:=()
def tw9635937567668695713:=()
def tw11309991229342253761:=()
def tw16273138644504214241:=()
def tw9114266638313368289:=()
def tw700417622115348225:=()
def tw2797324264258331650:=()
def tw8355427761203274818:=()
def tw17456772866129073282:=()
def tw3459243885213883554:=()
def tw1324871071290262754:=()
def tw1936322804137297250:=()
def tw3115622617844285858:=()
def tw10445012269909360066:=()
def tw2063587143833303490:=()
def tw16391240050102580802:=()
def tw4045337570542135938:=()
def tw9939493254144675458:=()
def tw16018793875561893538:=()
def tw11864254972791524034:=()
def tw16787358097895973762:=()
def tw16816062244783083458:=()
def tw1717758007996409826:=()
def tw14043152737147703331:=()
def tw11871618106066030691:=()
def tw6092456875160624227:=()
def tw2958347659976287395:=()
def tw18191710860625540259:=()
def tw2553359716571675843:=()
def tw10630770218359341283:=()
def tw4387993535484075267:=()
def tw1292386764877793571:=()
def tw13676544610861931875:=()
def tw227157682026977635:=()
def tw532646420980111779:=()
def tw15691307348041260483:=()
def tw6139127254330548707:=()
def tw3819502964149543427:=()
def tw2439449691032534563:=()
def tw17417163398154387011:=()
def tw1160102418328916579:=()
def tw14630971698589746851:=()
def tw7327434015874691875:=()
def tw16314331825764294467:=()
def tw7640817388864140195:=()
def tw2231308822172231716:=()
def tw17050650379813580868:=()
def tw8641260079163836516:=()
def tw9754151830118298852:=()
def tw10881485563549119748:=()
def tw4517617529457491204:=()
def tw6774883642253628708:=()
def tw3653883111416209700:=()
def tw3525280808786067780:=()
def tw2873067081705459044:=()
def tw6331247071879188868:=()
def tw13176033834750949796:=()
def tw12163957835771208100:=()
def tw9938986167934081508:=()
def tw11042773168948904484:=()
def tw4502880939389620900:=()
def tw13382731569336936292:=()
def tw11608485858996164548:=()
def tw6479547085386392709:=()
def tw5395525740298647717:=()
def tw700783007244195141:=()
def tw18248831914461332869:=()
def tw1568335041172766117:=()
def tw1428293447326858821:=()
def tw5535310208410517093:=()
def tw8830544949989787301:=()
def tw131121659217123077:=()
def tw18428356319719115589:=()
def tw15616615736625557413:=()
def tw952355017818083334:=()
def tw10316795726158872614:=()
def tw9376859257924811910:=()
def tw17063260348716627366:=()
def tw2082831032745932390:=()
def tw9005531746108732102:=()
def tw4853236440908566374:=()
def tw18216059059864125286:=()
def tw2627248580641695718:=()
def tw16258570478680328519:=()
def tw10687886693457242471:=()
def tw10407192022712039783:=()
def tw13325186995011673447:=()
def tw2995610989228548519:=()
def tw5207859373465826823:=()
def tw11383682035247243879:=()
def tw13909981850090668743:=()
def tw16603589420380237511:=()
def tw2282832805003496199:=()
def tw13289830285681479495:=()
def tw15326925026787143655:=()
def tw5228929580964213832:=()
def tw11852657082366903400:=()
def tw13995550394473775304:=()
def tw15375231116278596840:=()
def tw16659706213859139848:=()
def tw1370973960669179144:=()
def tw15004036931543066088:=()
def tw17476711800178625096:=()
def tw13605056483617647176:=()
def tw6038373868089618056:=()
def tw14069184712917922472:=()
def tw6718815213634519816:=()
def tw3283292559378634600:=()
def tw9136869904166565800:=()
def tw14785239039760929736:=()
def tw8265439883064936424:=()
def tw10316417329168290889:=()
def tw3654102128302758025:=()
def tw1937145973006138505:=()
def tw4863566824467174601:=()
def tw14147143888230240489:=()
def tw15082016306127692073:=()
def tw6554469670904138057:=()
def tw17415935125217066345:=()
def tw17956223361525638569:=()
def tw12498545700752779689:=()
def tw2382736842789348905:=()
def tw6086678327279965993:=()
def tw17315404215390008105:=()
def tw3175985605557190441:=()
def tw11491162059831505833:=()
def tw11876839978525743081:=()
def tw17456984564397368394:=()
def tw9507728726493707370:=()
def tw2750985181752206666:=()
def tw14401171743662883306:=()
def tw3311091887157798762:=()
def tw6708868516949460874:=()
def tw15349186766121784331:=()
def tw13453319726493029515:=()
def tw5739229163608515883:=()
def tw14919129441091778891:=()
def tw2264765341443362315:=()
def tw17883351986386411019:=()
def tw3711284639915156011:=()
def tw6461559995668743819:=()
def tw3040667036816213707:=()
def tw17796148220515369771:=()
def tw8850595180276942667:=()
def tw14908311829012557803:=()
def tw11060581990605060108:=()
def tw12690108904892353644:=()
def tw3076315641305816236:=()
def tw12258889517610373356:=()
def tw1492175685566545356:=()
def tw10623876727808815596:=()
def tw9050408147121427052:=()
def tw16778375800896990828:=()
def tw4227137779923488492:=()
def tw11521603835374987084:=()
def tw16534208232452981612:=()
def tw11207447819189433228:=()
def tw13476391131462251404:=()
def tw13216348599413587852:=()
def tw16637535897804027981:=()
def tw233191400628876429:=()
def tw13603517904621189421:=()
def tw7964960177882466701:=()
def tw9434673393856860557:=()
def tw14522864831654289901:=()
def tw16620177921639129581:=()
def tw5288121539652673069:=()
def tw9224647724859622029:=()
def tw2484234968436959917:=()
def tw14985409846391790349:=()
def tw13004883390400994157:=()
def tw36226746257792973:=()
def tw4163087201635743693:=()
def tw8332674500749571053:=()
def tw1742860487409167341:=()
def tw13176146079365021742:=()
def tw5458524388880064782:=()
def tw17556636472538313102:=()
def tw12354368316039518702:=()
def tw13108389811660666382:=()
def tw12034474405968123534:=()
def tw10554179175728644878:=()
def tw8677903260646563630:=()
def tw12178996775346563886:=()
def tw10490291400452768590:=()
def tw4946711688118630415:=()
def tw12244076627181296687:=()
def tw11074836041068421263:=()
def tw15520343135932678511:=()
def tw7705535981487834575:=()
def tw12012569106990224847:=()
def tw11716541072686513775:=()
def tw3433871171805553391:=()
def tw17714311561036082991:=()
def tw3680883548449360815:=()
def tw2076063047461908431:=()
def tw6621332733887684784:=()
def tw17707863206911419696:=()
def tw2642869714088827248:=()
def tw11588180558928931184:=()
def tw17476432273609874832:=()
def tw8974328319943144080:=()
def tw11704016697128426128:=()
def tw8080797567826536272:=()
def tw15587355486502896496:=()
def tw3911101264566808432:=()
def tw14529398151368373104:=()
def tw12259757718835030992:=()
def tw4442358246345570288:=()
def tw15684555399490919441:=()
def tw17930660914684002449:=()
def tw10891289084792830129:=()
def tw9598204334392446385:=()
def tw567514945754101361:=()
def tw12072575083958012561:=()
def tw15326858315072076465:=()
def tw17753158468180846353:=()
def tw13548019662130425649:=()
def tw801408061521341265:=()
def tw13964496321836787665:=()
def tw15355267284468277266:=()
def tw14957836753957695538:=()
def tw1600824226360854706:=()
def tw14381040848217983154:=()
def tw13043008835718077618:=()
def tw18291741577356344498:=()
def tw13705082343479376146:=()
def tw6509874815963954450:=()
def tw13278827431839244722:=()
def tw8454095574067281394:=()
def tw7037731327027858994:=()
def tw12197011190795655730:=()
def tw2443987968406097586:=()
def tw2262484636198520594:=()
def tw2781044556680003506:=()
def tw16323774593563374578:=()
def tw9426649386679578643:=()
def tw3695414813480073299:=()
def tw1513069213876077747:=()
def tw1212093827615438067:=()
def tw4293344287017526579:=()
def tw4423046967676125651:=()
def tw17941614631186782803:=()
def tw16682571630822317683:=()
def tw6198948550985204371:=()
def tw6106662647686055699:=()
def tw6317691546413878163:=()
def tw15066931568299475891:=()
def tw462737786324778931:=()
def tw5888722793377062964:=()
def tw10346230240828093620:=()
def tw12565660325907514548:=()
def tw15424543227755795732:=()
def tw3311395149276783956:=()
def tw8003202569784284532:=()
def tw18300440252972538292:=()
def tw6238706082371512788:=()
def tw16983983274249821652:=()
def tw12955580206212847220:=()
def tw232322845878487764:=()
def tw15723015594916024244:=()
def tw1816247595142409140:=()
def tw4047175614165784693:=()
def tw15110070329927712885:=()
def tw12213919239132173429:=()
def tw17227254804022492309:=()
def tw13096638279804848277:=()
def tw4192298147346141333:=()
def tw10422084850139415765:=()
def tw5127463281896126741:=()
def tw10397269169686252821:=()
def tw7058634853345758485:=()
def tw11968294479685854549:=()
def tw8346822483403157845:=()
def tw16644330494943806805:=()
def tw11685754922285732245:=()
def tw17614486493411187093:=()
def tw3077191474869518773:=()
def tw11041580769879635381:=()
def tw11903367236072299061:=()
def tw10391627944876694133:=()
def tw4720401635685357333:=()
def tw14108668196806973237:=()
def tw16904860304882743093:=()
def tw3377675001271422837:=()
def tw9418925228492241813:=()
def tw7437837748994404277:=()
def tw12974867746762946678:=()
def tw11265606262080337046:=()
def tw12310949213925874870:=()
def tw13121356049275704534:=()
def tw15360940083709849878:=()
def tw6227898883835031894:=()
def tw7452673686514263414:=()
def tw18033159492852571638:=()
def tw1305854174084941334:=()
def tw7943520528145201846:=()
def tw5892431704661521334:=()
def tw7464565843583357910:=()
def tw18143811120531534903:=()
def tw6231447805540242615:=()
def tw4502501181768545495:=()
def tw4546444130863460567:=()
def tw2334099474621443351:=()
def tw2371731308300396823:=()
def tw3823507618358145591:=()
def tw329023384956189431:=()
def tw1179603981928679255:=()
def tw18127442287838994295:=()
def tw15027809155202871287:=()
def tw5409745835912486903:=()
def tw17928780469792038008:=()
def tw16771780205353906552:=()
def tw8589867790551638456:=()
def tw16855429363327438360:=()
def tw10053869302051586776:=()
def tw7678419448412182296:=()
def tw4100298910830305048:=()
def tw14553534814781466552:=()
def tw12425329373393758265:=()
def tw3573655877189877817:=()
def tw10174969619042774137:=()
def tw641297979782011033:=()
def tw13283508298954565913:=()
def tw6365803756608672153:=()
def tw5085188226783889977:=()
def tw11440222506052238041:=()
def tw16092929371786128185:=()
def tw8075168997760862137:=()
def tw16474964882411511769:=()
def tw4180105962012626074:=()
def tw9648437183266232506:=()
def tw8564386926499049978:=()
def tw16598016199804401370:=()
def tw3653334756181562170:=()
def tw2495078884697097082:=()
def tw16709993898294311834:=()
def tw4759427618036132762:=()
def tw17257774015900256218:=()
def tw2186583119664691227:=()
def tw6511892796771332795:=()
def tw1073574842565999355:=()
def tw15655953861126563739:=()
def tw16592466731921203163:=()
def tw9882519020898629660:=()
def tw17409212211540231292:=()
def tw4019869259968840860:=()
def tw18201672538401818812:=()
def tw1061026639460071644:=()
def tw17987562588943268092:=()
def tw15036932309966651676:=()
def tw17116181870584849756:=()
def tw11784211452819174844:=()
def tw12258090902766984700:=()
def tw12645973784252092924:=()
def tw2074175388993256988:=()
def tw10469103230059349596:=()
def tw3140939409080763068:=()
def tw15865324019741937532:=()
def tw5530169705779359644:=()
def tw13203568441023414204:=()
def tw5124733873391976637:=()
def tw6567428659560139965:=()
def tw12763780555038705885:=()
def tw8630518872383588733:=()
def tw7971004798025469405:=()
def tw10559501509752491549:=()
def tw6577567834442738237:=()
def tw17154014742374658621:=()
def tw14061527328835339037:=()
def tw17751883000686500701:=()
def tw7740047797472578429:=()
def tw11284582209319889821:=()
def tw506952269607201757:=()
def tw12582293143415943165:=()
def tw8026593768685789181:=()
def tw16057013536997881918:=()
def tw6030588309884054654:=()
def tw4171440732624591070:=()
def tw3980734712652189918:=()
def tw18309977527745034494:=()
def tw4707684039430453662:=()
def tw6953922133538906590:=()
def tw7015323294980727358:=()
def tw5762086265092912766:=()
def tw7310215115925868222:=()
def tw15780812950211138398:=()
def tw2143937266579294206:=()
def tw15930468991202141343:=()
def tw6634675792168857759:=()
def tw1178710581472449983:=()
def tw2897946340240529919:=()
def tw6129476128946992895:=()
def tw3598447987802950463:=()
def tw2146281493418722271:=()
def tw16217547597913158616:=()
end PySem.W.Fast
section
open PySem PySem.W PyProof.Rows
set_option maxRecDepth 100000 in
set_option maxHeartbeats 0 in
theorem PySem.Challenge.cw_rollcut_s01_answers_holds : PySem.Challenge.rw_rollcut_s01_answers.Holds := by
  w_on; k_headS; (case hw => exact ⟨[.list [.int 7, .int 1]], by decide +kernel, by decide +kernel⟩)
  k_fillS
  refine L2.walk_specK (r := PySem.Challenge.rw_rollcut_s01_answers) (k := 8) (CX := L2.CX0) (ps := ["calls"]) (sp := RB.spAnswers) (by decide +kernel) rfl rfl ⟨rfl, by decide, by decide⟩ (fun w h Y => PySem.W.kIn_of Y) ?F ?S (fun _ _ _ _ z => z)
  case F =>
    intro w mg fa h Y KX G hmg
    refine' RB.fin_mk hmg ?HA {c3_:=?c3_,t3_:=?t3_,c4_:=?c4_,t4_:=?t4_,c1_:=?c1_,t1_:=?t1_,c5_:=?c5_,t5_:=?t5_,c2_:=?c2_,t2_:=?t2_,c0_:=?c0_,t0_:=?t0_,f8_:=?f8_,f17_:=?f17_,f12_:=?f12_,f4_:=?f4_,f2_:=?f2_,f5_:=?f5_,f13_:=?f13_,f14_:=?f14_,f10_:=?f10_,f11_:=?f11_,f19_:=?f19_,f6_:=?f6_,f20_:=?f20_,f9_:=?f9_,f7_:=?f7_,f22_:=?f22_,f18_:=?f18_,f16_:=?f16_,f21_:=?f21_,f23_:=?f23_,f15_:=?f15_,f0_:=?f0_,f24_:=?f24_,f25_:=?f25_,f3_:=?f3_,f1_:=?f1_,m10_:=?m10_,m11_:=?m11_,m12_:=?m12_,m13_:=?m13_,m14_:=?m14_,m5_:=?m5_,m2_:=?m2_,m8_:=?m8_,m4_:=?m4_,m3_:=?m3_,m1_:=?m1_,m7_:=?m7_,m9_:=?m9_,m6_:=?m6_,m0_:=?m0_,i23_:=?i23_,i24_:=?i24_,i25_:=?i25_,i3_:=?i3_,i4_:=?i4_,i0_:=?i0_,i11_:=?i11_,i6_:=?i6_,i7_:=?i7_,i9_:=?i9_,i14_:=?i14_,i15_:=?i15_,i13_:=?i13_,i8_:=?i8_,i17_:=?i17_,i12_:=?i12_,i10_:=?i10_,i26_:=?i26_,i16_:=?i16_,i19_:=?i19_,i21_:=?i21_,i18_:=?i18_,i5_:=?i5_,i20_:=?i20_,i22_:=?i22_,i1_:=?i1_,i2_:=?i2_,n5_:=?n5_,n9_:=?n9_,n2_:=?n2_,n3_:=?n3_,n1_:=?n1_,n8_:=?n8_,n4_:=?n4_,n0_:=?n0_,n7_:=?n7_,n6_:=?n6_,head:=?head,ranges:=?ranges,whole:=?whole,faultM:=?faultM,faultK:=?faultK,fault:=?fault}
    case HA=>refine' RB.mkHA KX G ?a ?l ?c ?k;(case a=>k_is);(case l=>k_is);(case c=>k_is);(case k=>k_is)
    case c3_=>refine' RB.mkHC KX G ?ac ?a ?i ?l ?c ?k ?mk ?kc (fun _ _ _ _ _ _ us hl=>match us,hl with | [_, _,_], _ => rfl);(case ac=>k_is);(case a=>k_is);(case i=>k_is);(case l=>k_is);(case c=>k_is);(case k=>k_is);(case mk=>k_is);(case kc=>k_is)
    case t3_=>refine' RB.mkCl2 ?pg ?hd ?po ?sa ?n1 ?n2;(case pg=>k_is);(case hd=>k_is);(case po=>k_is);(case sa=>k_is);(case n1=>k_is);(case n2=>k_is)
    case c4_=>refine' RB.mkHC KX G ?ac ?a ?i ?l ?c ?k ?mk ?kc (fun _ _ _ _ _ _ us hl=>match us,hl with | [_, _,_], _ => rfl);(case ac=>k_is);(case a=>k_is);(case i=>k_is);(case l=>k_is);(case c=>k_is);(case k=>k_is);(case mk=>k_is);(case kc=>k_is)
    case t4_=>refine' RB.mkCl2 ?pg ?hd ?po ?sa ?n1 ?n2;(case pg=>k_is);(case hd=>k_is);(case po=>k_is);(case sa=>k_is);(case n1=>k_is);(case n2=>k_is)
    case c1_=>refine' RB.mkHC KX G ?ac ?a ?i ?l ?c ?k ?mk ?kc (fun _ _ _ _ _ _ us hl=>match us,hl with | [_, _, _, _,_], _ => rfl);(case ac=>k_is);(case a=>k_is);(case i=>k_is);(case l=>k_is);(case c=>k_is);(case k=>k_is);(case mk=>k_is);(case kc=>k_is)
    case t1_=>refine' RB.mkCl4 ?pg ?hd ?po ?sa ?n1 ?n2 ?n3 ?n4;(case pg=>k_is);(case hd=>k_is);(case po=>k_is);(case sa=>k_is);(case n1=>k_is);(case n2=>k_is);(case n3=>k_is);(case n4=>k_is)
    case c5_=>refine' RB.mkHC KX G ?ac ?a ?i ?l ?c ?k ?mk ?kc (fun _ _ _ _ _ _ us hl=>match us,hl with | [_, _, _,_], _ => rfl);(case ac=>k_is);(case a=>k_is);(case i=>k_is);(case l=>k_is);(case c=>k_is);(case k=>k_is);(case mk=>k_is);(case kc=>k_is)
    case t5_=>refine' RB.mkCl3 ?pg ?hd ?po ?sa ?n1 ?n2 ?n3;(case pg=>k_is);(case hd=>k_is);(case po=>k_is);(case sa=>k_is);(case n1=>k_is);(case n2=>k_is);(case n3=>k_is)
    case c2_=>refine' RB.mkHC KX G ?ac ?a ?i ?l ?c ?k ?mk ?kc (fun _ _ _ _ _ _ us hl=>match us,hl with | [_,_], _ => rfl);(case ac=>k_is);(case a=>k_is);(case i=>k_is);(case l=>k_is);(case c=>k_is);(case k=>k_is);(case mk=>k_is);(case kc=>k_is)
    case t2_=>refine' RB.mkCl2 ?pg ?hd ?po ?sa ?n1 ?n2;(case pg=>k_is);(case hd=>k_is);(case po=>k_is);(case sa=>k_is);(case n1=>k_is);(case n2=>k_is)
    case c0_=>refine' RB.mkHC KX G ?ac ?a ?i ?l ?c ?k ?mk ?kc (fun _ _ _ _ _ _ us hl=>match us,hl with | [_], _ => rfl);(case ac=>k_is);(case a=>k_is);(case i=>k_is);(case l=>k_is);(case c=>k_is);(case k=>k_is);(case mk=>k_is);(case kc=>k_is)
    case t0_=>refine' RB.mkCl2 ?pg ?hd ?po ?sa ?n1 ?n2;(case pg=>k_is);(case hd=>k_is);(case po=>k_is);(case sa=>k_is);(case n1=>k_is);(case n2=>k_is)
    case f8_=>refine' RB.mkHF KX G ?a ?l ?c ?k (fun _ _ _ _ _ _ us hl=>match us,hl with | [_,_], _ => rfl);(case a=>k_is);(case l=>k_is);(case c=>k_is);(case k=>k_is)
    case f17_=>refine' RB.mkHF KX G ?a ?l ?c ?k (fun _ _ _ _ _ _ us hl=>match us,hl with | [_,_], _ => rfl);(case a=>k_is);(case l=>k_is);(case c=>k_is);(case k=>k_is)
    case f12_=>refine' RB.mkHF KX G ?a ?l ?c ?k (fun _ _ _ _ _ _ us hl=>match us,hl with | [_,_], _ => rfl);(case a=>k_is);(case l=>k_is);(case c=>k_is);(case k=>k_is)
    case f4_=>refine' RB.mkHF KX G ?a ?l ?c ?k (fun _ _ _ _ _ _ us hl=>match us,hl with | [_,_], _ => rfl);(case a=>k_is);(case l=>k_is);(case c=>k_is);(case k=>k_is)
    case f2_=>refine' RB.mkHF KX G ?a ?l ?c ?k (fun _ _ _ _ _ _ us hl=>match us,hl with | [_, _, _,_], _ => rfl);(case a=>k_is);(case l=>k_is);(case c=>k_is);(case k=>k_is)
    case f5_=>refine' RB.mkHF KX G ?a ?l ?c ?k (fun _ _ _ _ _ _ us hl=>match us,hl with | [_, _, _,_], _ => rfl);(case a=>k_is);(case l=>k_is);(case c=>k_is);(case k=>k_is)
    case f13_=>refine' RB.mkHF KX G ?a ?l ?c ?k (fun _ _ _ _ _ _ us hl=>match us,hl with | [_, _, _,_], _ => rfl);(case a=>k_is);(case l=>k_is);(case c=>k_is);(case k=>k_is)
    case f14_=>refine' RB.mkHF KX G ?a ?l ?c ?k (fun _ _ _ _ _ _ us hl=>match us,hl with | [_, _,_], _ => rfl);(case a=>k_is);(case l=>k_is);(case c=>k_is);(case k=>k_is)
    case f10_=>refine' RB.mkHF KX G ?a ?l ?c ?k (fun _ _ _ _ _ _ us hl=>match us,hl with | [_,_], _ => rfl);(case a=>k_is);(case l=>k_is);(case c=>k_is);(case k=>k_is)
    case f11_=>refine' RB.mkHF KX G ?a ?l ?c ?k (fun _ _ _ _ _ _ us hl=>match us,hl with | [_, _,_], _ => rfl);(case a=>k_is);(case l=>k_is);(case c=>k_is);(case k=>k_is)
    case f19_=>refine' RB.mkHF KX G ?a ?l ?c ?k (fun _ _ _ _ _ _ us hl=>match us,hl with | [_,_], _ => rfl);(case a=>k_is);(case l=>k_is);(case c=>k_is);(case k=>k_is)
    case f6_=>refine' RB.mkHF KX G ?a ?l ?c ?k (fun _ _ _ _ _ _ us hl=>match us,hl with | [_, _, _,_], _ => rfl);(case a=>k_is);(case l=>k_is);(case c=>k_is);(case k=>k_is)
    case f20_=>refine' RB.mkHF KX G ?a ?l ?c ?k (fun _ _ _ _ _ _ us hl=>match us,hl with | [_,_], _ => rfl);(case a=>k_is);(case l=>k_is);(case c=>k_is);(case k=>k_is)
    case f9_=>refine' RB.mkHF KX G ?a ?l ?c ?k (fun _ _ _ _ _ _ us hl=>match us,hl with | [_, _, _,_], _ => rfl);(case a=>k_is);(case l=>k_is);(case c=>k_is);(case k=>k_is)
    case f7_=>refine' RB.mkHF KX G ?a ?l ?c ?k (fun _ _ _ _ _ _ us hl=>match us,hl with | [_, _, _,_], _ => rfl);(case a=>k_is);(case l=>k_is);(case c=>k_is);(case k=>k_is)
    case f22_=>refine' RB.mkHF KX G ?a ?l ?c ?k (fun _ _ _ _ _ _ us hl=>match us,hl with | [_,_], _ => rfl);(case a=>k_is);(case l=>k_is);(case c=>k_is);(case k=>k_is)
    case f18_=>refine' RB.mkHF KX G ?a ?l ?c ?k (fun _ _ _ _ _ _ us hl=>match us,hl with | [_, _,_], _ => rfl);(case a=>k_is);(case l=>k_is);(case c=>k_is);(case k=>k_is)
    case f16_=>refine' RB.mkHF KX G ?a ?l ?c ?k (fun _ _ _ _ _ _ us hl=>match us,hl with | [_], _ => rfl);(case a=>k_is);(case l=>k_is);(case c=>k_is);(case k=>k_is)
    case f21_=>refine' RB.mkHF KX G ?a ?l ?c ?k (fun _ _ _ _ _ _ us hl=>match us,hl with | [_], _ => rfl);(case a=>k_is);(case l=>k_is);(case c=>k_is);(case k=>k_is)
    case f23_=>refine' RB.mkHF KX G ?a ?l ?c ?k (fun _ _ _ _ _ _ us hl=>match us,hl with | [_, _,_], _ => rfl);(case a=>k_is);(case l=>k_is);(case c=>k_is);(case k=>k_is)
    case f15_=>refine' RB.mkHF KX G ?a ?l ?c ?k (fun _ _ _ _ _ _ us hl=>match us,hl with | [_], _ => rfl);(case a=>k_is);(case l=>k_is);(case c=>k_is);(case k=>k_is)
    case f0_=>refine' RB.mkHF KX G ?a ?l ?c ?k (fun _ _ _ _ _ _ us hl=>match us,hl with | [_, _,_], _ => rfl);(case a=>k_is);(case l=>k_is);(case c=>k_is);(case k=>k_is)
    case f24_=>refine' RB.mkHF KX G ?a ?l ?c ?k (fun _ _ _ _ _ _ us hl=>match us,hl with | [_], _ => rfl);(case a=>k_is);(case l=>k_is);(case c=>k_is);(case k=>k_is)
    case f25_=>refine' RB.mkHF KX G ?a ?l ?c ?k (fun _ _ _ _ _ _ us hl=>match us,hl with | [_], _ => rfl);(case a=>k_is);(case l=>k_is);(case c=>k_is);(case k=>k_is)
    case f3_=>refine' RB.mkHF KX G ?a ?l ?c ?k (fun _ _ _ _ _ _ us hl=>match us,hl with | [_,_], _ => rfl);(case a=>k_is);(case l=>k_is);(case c=>k_is);(case k=>k_is)
    case f1_=>refine' RB.mkHF KX G ?a ?l ?c ?k (fun _ _ _ _ _ _ us hl=>match us,hl with | [_,_], _ => rfl);(case a=>k_is);(case l=>k_is);(case c=>k_is);(case k=>k_is)
    case m10_=>refine' RB.mkHM ?a ?i ?l ?c ?k (fun _ _ _ _ _ _ us hl=>match us,hl with | [_], _ => rfl);(case a=>k_is);(case i=>k_is);(case l=>k_is);(case c=>k_is);(case k=>k_is)
    case m11_=>refine' RB.mkHM ?a ?i ?l ?c ?k (fun _ _ _ _ _ _ us hl=>match us,hl with | [_,_], _ => rfl);(case a=>k_is);(case i=>k_is);(case l=>k_is);(case c=>k_is);(case k=>k_is)
    case m12_=>refine' RB.mkHM ?a ?i ?l ?c ?k (fun _ _ _ _ _ _ us hl=>match us,hl with | [_], _ => rfl);(case a=>k_is);(case i=>k_is);(case l=>k_is);(case c=>k_is);(case k=>k_is)
    case m13_=>refine' RB.mkHM ?a ?i ?l ?c ?k (fun _ _ _ _ _ _ us hl=>match us,hl with | [_,_], _ => rfl);(case a=>k_is);(case i=>k_is);(case l=>k_is);(case c=>k_is);(case k=>k_is)
    case m14_=>refine' RB.mkHM ?a ?i ?l ?c ?k (fun _ _ _ _ _ _ us hl=>match us,hl with | [_, _,_], _ => rfl);(case a=>k_is);(case i=>k_is);(case l=>k_is);(case c=>k_is);(case k=>k_is)
    case m5_=>refine' RB.mkHM ?a ?i ?l ?c ?k (fun _ _ _ _ _ _ us hl=>match us,hl with | [_,_], _ => rfl);(case a=>k_is);(case i=>k_is);(case l=>k_is);(case c=>k_is);(case k=>k_is)
    case m2_=>refine' RB.mkHM ?a ?i ?l ?c ?k (fun _ _ _ _ _ _ us hl=>match us,hl with | [_,_], _ => rfl);(case a=>k_is);(case i=>k_is);(case l=>k_is);(case c=>k_is);(case k=>k_is)
    case m8_=>refine' RB.mkHM ?a ?i ?l ?c ?k (fun _ _ _ _ _ _ us hl=>match us,hl with | [_,_], _ => rfl);(case a=>k_is);(case i=>k_is);(case l=>k_is);(case c=>k_is);(case k=>k_is)
    case m4_=>refine' RB.mkHM ?a ?i ?l ?c ?k (fun _ _ _ _ _ _ us hl=>match us,hl with | [_,_], _ => rfl);(case a=>k_is);(case i=>k_is);(case l=>k_is);(case c=>k_is);(case k=>k_is)
    case m3_=>refine' RB.mkHM ?a ?i ?l ?c ?k (fun _ _ _ _ _ _ us hl=>match us,hl with | [_,_], _ => rfl);(case a=>k_is);(case i=>k_is);(case l=>k_is);(case c=>k_is);(case k=>k_is)
    case m1_=>refine' RB.mkHM ?a ?i ?l ?c ?k (fun _ _ _ _ _ _ us hl=>match us,hl with | [_,_], _ => rfl);(case a=>k_is);(case i=>k_is);(case l=>k_is);(case c=>k_is);(case k=>k_is)
    case m7_=>refine' RB.mkHM ?a ?i ?l ?c ?k (fun _ _ _ _ _ _ us hl=>match us,hl with | [_, _,_], _ => rfl);(case a=>k_is);(case i=>k_is);(case l=>k_is);(case c=>k_is);(case k=>k_is)
    case m9_=>refine' RB.mkHM ?a ?i ?l ?c ?k (fun _ _ _ _ _ _ us hl=>match us,hl with | [_,_], _ => rfl);(case a=>k_is);(case i=>k_is);(case l=>k_is);(case c=>k_is);(case k=>k_is)
    case m6_=>refine' RB.mkHM ?a ?i ?l ?c ?k (fun _ _ _ _ _ _ us hl=>match us,hl with | [_,_], _ => rfl);(case a=>k_is);(case i=>k_is);(case l=>k_is);(case c=>k_is);(case k=>k_is)
    case m0_=>refine' RB.mkHM ?a ?i ?l ?c ?k (fun _ _ _ _ _ _ us hl=>match us,hl with | [_, _, _,_], _ => rfl);(case a=>k_is);(case i=>k_is);(case l=>k_is);(case c=>k_is);(case k=>k_is)
    case i23_=>refine' RB.mkGI KX G ?a;(case a=>k_is)
    case i24_=>refine' RB.mkGI KX G ?a;(case a=>k_is)
    case i25_=>refine' RB.mkGI KX G ?a;(case a=>k_is)
    case i3_=>refine' RB.mkGI KX G ?a;(case a=>k_is)
    case i4_=>refine' RB.mkGI KX G ?a;(case a=>k_is)
    case i0_=>refine' RB.mkGI KX G ?a;(case a=>k_is)
    case i11_=>refine' RB.mkGI KX G ?a;(case a=>k_is)
    case i6_=>refine' RB.mkGI KX G ?a;(case a=>k_is)
    case i7_=>refine' RB.mkGI KX G ?a;(case a=>k_is)
    case i9_=>refine' RB.mkGI KX G ?a;(case a=>k_is)
    case i14_=>refine' RB.mkGI KX G ?a;(case a=>k_is)
    case i15_=>refine' RB.mkGI KX G ?a;(case a=>k_is)
    case i13_=>refine' RB.mkGI KX G ?a;(case a=>k_is)
    case i8_=>refine' RB.mkGI KX G ?a;(case a=>k_is)
    case i17_=>refine' RB.mkGI KX G ?a;(case a=>k_is)
    case i12_=>refine' RB.mkGI KX G ?a;(case a=>k_is)
    case i10_=>refine' RB.mkGI KX G ?a;(case a=>k_is)
    case i26_=>refine' RB.mkGI KX G ?a;(case a=>k_is)
    case i16_=>refine' RB.mkGI KX G ?a;(case a=>k_is)
    case i19_=>refine' RB.mkGI KX G ?a;(case a=>k_is)
    case i21_=>refine' RB.mkGI KX G ?a;(case a=>k_is)
    case i18_=>refine' RB.mkGI KX G ?a;(case a=>k_is)
    case i5_=>refine' RB.mkGI KX G ?a;(case a=>k_is)
    case i20_=>refine' RB.mkGI KX G ?a;(case a=>k_is)
    case i22_=>refine' RB.mkGI KX G ?a;(case a=>k_is)
    case i1_=>refine' RB.mkGI KX G ?a;(case a=>k_is)
    case i2_=>refine' RB.mkGI KX G ?a;(case a=>k_is)
    case n5_=>refine' RB.mkNo KX G ?a;(case a=>k_is)
    case n9_=>refine' RB.mkNo KX G ?a;(case a=>k_is)
    case n2_=>refine' RB.mkNo KX G ?a;(case a=>k_is)
    case n3_=>refine' RB.mkNo KX G ?a;(case a=>k_is)
    case n1_=>refine' RB.mkNo KX G ?a;(case a=>k_is)
    case n8_=>refine' RB.mkNo KX G ?a;(case a=>k_is)
    case n4_=>refine' RB.mkNo KX G ?a;(case a=>k_is)
    case n0_=>refine' RB.mkNo KX G ?a;(case a=>k_is)
    case n7_=>refine' RB.mkNo KX G ?a;(case a=>k_is)
    case n6_=>refine' RB.mkNo KX G ?a;(case a=>k_is)
    case head=>rw [RB.head_eq];refine' RB.mkGS KX G ?a;(case a=>k_is)
    case ranges=>refine' RB.mkGR KX G ?aR ?l ?ka ?kb ?kc ?kd;(case aR=>k_is);(case l=>k_is);(case ka => refine' RB.mkKT2 ?l; (case l=>k_is));(case kb => refine' RB.mkKT2 ?l; (case l=>k_is));(case kc => refine' RB.mkKT2 ?l; (case l=>k_is));(case kd => refine' RB.mkKT2 ?l; (case l=>k_is))
    case whole=>refine' ⟨?D, PySem.W.mg_of KX G ?a, fun P w => RB.mkKD ?l⟩;(case a=>k_is);(case l=>k_is)
    case faultM=>refine' PySem.W.mg_of KX G ?a;(case a=>k_is)
    case faultK=>k_is
    case fault=>refine' RB.mkTF ?o ?e ?ini ?ln ?ne ?np ?nst ?ng ?nga ?fn ?l ?c ?k;(case o=>k_is);(case e => exact rfl);(case ini=>k_is);(case ln=>k_is);(case ne => exact rfl);(case np=>k_is);(case nst=>k_is);(case ng=>k_is);(case nga=>k_is);(case fn=>k_is);(case l=>k_is);(case c=>k_is);(case k=>k_is)
  case S =>
    intro K H xs a hO hwi hask hx
    cases hx with
    | cons h1 h2 =>
      cases h2
      cases h1 with
      | lst hs ha =>
        have e := L2.ints_dw a.1 _ ha
        subst e
        have q : ((Codec.inLen 0 30000 a.1 && a.1.all (Codec.inInt 0 4294967295)) && true) = true := hwi
        rw [Bool.and_eq_true, Bool.and_eq_true] at q
        exact RB.due_sp hs (Codec.inNat_iff.mp q.1.1).2 hask (fun p H' hp => .lst (L2.SqL.of hp) (L2.dw_ints _))
end
