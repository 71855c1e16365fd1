import PyProof.Rows.All
import Wide.All
import OpenK.AllK
import Wide.FinOn
import PyProof.EqAt
import PyProof.EqKinds
import PyProof.TupleCall
import KE.BitLaws
import KE.KDictSum
import KE.KSortTupG
import KE.KSortTupUse
import PyProof.Rows.CountFlat
import Open.SpecLaws
import KE.OsHead
import KE.OsGo
import PySem.Challenge.RW_packetends_s01_answers
set_option Elab.async false
set_option linter.all false
set_option maxRecDepth 100000
set_option maxHeartbeats 4500000
open List (length_map getElem?_map mem_range mem_map mem_append getElem?_eq_getElem map_cons length_append mem_cons size_toArray any_eq_true mem_cons_of_mem mem_filter mem_of_getElem? map_append mem_append_left nodup_append length_cons length_take map_map mem_append_right append_assoc mem_flatMap mem_cons_self append_nil take_length map_congr_left getElem?_eq_none length_singleton nil_append contains_iff_mem nodup_nil flatMap_append getElem?_range drop_drop length_drop)
namespace L2
open PySem PySem.Spec PyProof.Rows
open PySem.W (Frag)
abbrev Key:=Sum Int Str
def iP:Key→Value→Bool
 | .inl k,v=>Value.isInt k v
 | .inr x,v=>Value.isStrOf x v
def keyH(w:World):Key→Int
 | .inl k=>hashInt k
 | .inr x=>hashStr w x
theorem bo:∀ {k:Key} {v:Value},iP k v=true→(∃ i t,k=Sum.inl i∧v=Value.int i t)∨(∃ x t,k=Sum.inr x∧v=Value.str x t)
 | .inl i,v,h=>by
  obtain⟨t,e⟩:=Value.isInt_shape (k:=i) (v:=v) h
  exact .inl ⟨i,t,rfl,e⟩
 | .inr x,v,h=>by
  obtain⟨t,e⟩:=Value.isStrOf_shape (x:=x) (v:=v) h
  exact .inr ⟨x,t,rfl,e⟩
theorem tU(i:Int)(t:Tok):iP (.inl i) (.int i t)=true:=by simp[iP,Value.isInt]
theorem tT(x:Str)(t:Tok):iP (.inr x) (.str x t)=true:=by simp[iP,Value.isStrOf]
theorem key_ll(a b:Int):decide ((Sum.inl a:Key)=Sum.inl b)=(a == b):=by
 by_cases e:a=b
 ·subst e;simp
 ·have h:¬ (Sum.inl a:Key)=Sum.inl b:=fun q=>e (Sum.inl.inj q)
  rw[decide_eq_false h]
  exact(beq_eq_false_iff_ne.mpr e).symm
theorem key_rr(a b:Str):decide ((Sum.inr a:Key)=Sum.inr b)=decide (a=b):=by
 by_cases e:a=b
 ·subst e;simp
 ·have h:¬ (Sum.inr a:Key)=Sum.inr b:=fun q=>e (Sum.inr.inj q)
  rw[decide_eq_false h,decide_eq_false e]
theorem key_lr(a:Int)(b:Str):decide ((Sum.inl a:Key)=Sum.inr b)=false:=decide_eq_false (fun q=>nomatch q)
theorem key_rl(a:Str)(b:Int):decide ((Sum.inr a:Key)=Sum.inl b)=false:=decide_eq_false (fun q=>nomatch q)
def bj(prog:Program)(w:World):PySem.KeyKind prog w Key where
 is:=iP
 hash:=keyH w
 inj:=fun v a b ha hb=>by
  rcases bo ha with⟨i,t,rfl,rfl⟩ | ⟨x,t,rfl,rfl⟩
  ·rcases bo hb with⟨j,u,rfl,e⟩ | ⟨y,u,rfl,e⟩
   ·injection e with e1 _;rw[e1]
   ·exact nomatch e
  ·rcases bo hb with⟨j,u,rfl,e⟩ | ⟨y,u,rfl,e⟩
   ·exact nomatch e
   ·injection e with e1 _;rw[e1]
 byValue:=fun k v h=>by
  rcases bo h with⟨i,t,rfl,rfl⟩ | ⟨x,t,rfl,rfl⟩<;>rfl
 pyHash:=fun hv h=>by
  rcases bo hv with⟨i,t,rfl,rfl⟩ | ⟨x,t,rfl,rfl⟩
  ·exact wpAny_pyHash_int h
  ·exact wpAny_pyHash_str h
 eqBool:=fun hu hv h=>by
  rcases bo hu with⟨i,t,rfl,rfl⟩ | ⟨x,t,rfl,rfl⟩
  ·rcases bo hv with⟨j,u,rfl,rfl⟩ | ⟨y,u,rfl,rfl⟩
   ·rw[key_ll] at h;exact wpAny_eqBool_int h
   ·rw[key_lr] at h;exact SeqAt.EqAt.int_str i t y u _ _ _ _ h
  ·rcases bo hv with⟨j,u,rfl,rfl⟩ | ⟨y,u,rfl,rfl⟩
   ·rw[key_rl] at h;exact SeqAt.EqAt.str_int x t j u _ _ _ _ h
   ·rw[key_rr] at h;exact wpAny_eqBool_str h
 «strs»:=fun k x t v h=>by
  rcases bo h with⟨i,u,rfl,e⟩ | ⟨y,u,rfl,e⟩
  ·exact nomatch e
  ·injection e with e1 _
   subst e1
   cases v<;>rfl
theorem oQ(prog:Program)(w:World)(i:Int)(t:Tok):(bj prog w).is (.inl i) (.int i t)=true:=tU i t
theorem oP(prog:Program)(w:World)(x:Str)(t:Tok):(bj prog w).is (.inr x) (.str x t)=true:=tT x t
inductive V where
 | non | bl (b:Bool) | int (i:Int) | str (x:Str) | byt (b:Array UInt8) | flt (b:UInt64) | ref (a:Addr) | ty (n:String)
 deriving DecidableEq
def RelV:V→Value→Prop
 | .non,u=>u=Value.none
 | .bl b,u=>u=Value.bool b
 | .int i,u=>∃ t,u=Value.int i t
 | .str x,u=>∃ t,u=Value.str x t
 | .byt b,u=>∃ t,u=Value.bytes b t
 | .flt b,u=>∃ t,u=Value.float b t
 | .ref a,u=>u=Value.ref a
 | .ty n,u=>u=Value.type n
abbrev Vals:List V→List Value→Prop:=Paired RelV
theorem Vals.length{xs:List V}{us:List Value}(r:Vals xs us):xs.length=us.length:=Paired.length r
theorem Vals.get:∀ {xs:List V} {us:List Value} {i:Nat} {x:V},Vals xs us→xs[i]?=some x→∃ u,us[i]?=some u∧RelV x u
 | _,_,_,_,.nil,e=>by simp at e
 | _,_,0,_,.cons r _,e=>by simp at e;subst e;exact⟨_,rfl,r⟩
 | _,_,i+1,x,.cons _ t,e=>by
  obtain⟨u,h1,h2⟩:=Vals.get (i:=i) (x:=x) t (by simpa using e)
  exact⟨u,by simpa using h1,h2⟩
theorem Vals.set{x:V}{u:Value}(r:RelV x u):∀ {xs:List V} {us:List Value} (i:Nat),Vals xs us→Vals (xs.set i x) (us.set i u)
 | _,_,_,.nil=>.nil
 | _,_,0,.cons _ t=>.cons r t
 | _,_,i+1,.cons q t=>.cons q (Vals.set r i t)
theorem Vals.append:∀ {xs ys:List V} {us ws:List Value},Vals xs us→Vals ys ws→Vals (xs++ys) (us++ws)
 | _,_,_,_,.nil,s=>s
 | _,_,_,_,.cons r t,s=>.cons r (Vals.append t s)
theorem Vals.take:∀ {xs:List V} {us:List Value} (n:Nat),Vals xs us→Vals (xs.take n) (us.take n)
 | _,_,0,_=>.nil
 | _,_,_+1,.nil=>.nil
 | _,_,n+1,.cons r t=>.cons r (Vals.take n t)
theorem Vals.drop:∀ {xs:List V} {us:List Value} (n:Nat),Vals xs us→Vals (xs.drop n) (us.drop n)
 | _,_,0,r=>r
 | _,_,_+1,.nil=>.nil
 | _,_,n+1,.cons _ t=>Vals.drop n t
def RelO:Option V→Option Value→Prop
 | some v,some u=>RelV v u
 | none,none=>True
 | _,_=>False
def KV{κ:Type}:List (κ × V)→List (κ × Value)→Prop:=Paired fun(p:κ × V) (q:κ × Value)=>p.1=q.1∧RelV p.2 q.2
def kV:Key→V
 | .inl i=>.int i
 | .inr x=>.str x
inductive HO where
 | lst (xs:List V)
 | tup (xs:List V)
 | dK (kvs:List (Key × V)) | dT (kvs:List (List Key × V))
 | set (S:Int→Bool) (n:Nat)
 | ins (C dx:Addr) (fs:List (Str × V))
 | own (x:Addr)
 | xd (fs:List (Str × V))
 | met (f x:Addr)
 | rng (lo hi:Int)
 | frz (o:Obj) (u:HO)
 | tbl (ps:Array Value)
 | ext (φ:Heap→Prop)
abbrev Hp:=Addr→Option HO
def upd(H:Hp)(a:Addr)(o:HO):Hp:=fun b=>if b=a then some o else H b
theorem ac{H:Hp}{a:Addr}{o:HO}:upd H a o a=some o:=by unfold upd;rw[if_pos rfl]
theorem ag{H:Hp}{a b:Addr}{o:HO}(h:b≠a):upd H a o b=H b:=by unfold upd;rw[if_neg h]
theorem qV{H:Hp}{a:Addr}{o u:HO}:upd (upd H a o) a u=upd H a u:=by
 funext b;unfold upd;split<;>rfl
theorem aP{H:Hp}{a b:Addr}{o u:HO}(h:H a=some o)(h':H b=some u)(d:o≠u):a≠b:=by
 intro e;subst e;rw[h] at h';exact d (Option.some.inj h')
theorem ae{H:Hp}{a b:Addr}{o:HO}(h:H a=some o)(h':H b=none):a≠b:=by
 intro e;subst e;rw[h] at h';cases h'
section
variable(P:Program)(w:World)
def bA(H:Hp)(h:Heap)(a:Addr):HO→Prop
 | .lst xs=>xs.length≤sizeLine∧∃ (its:List Value) (n:Nat),Vals xs its∧h.get? a=some { cls:=.type "list",data:=.seq its.toArray n }
 | .tup xs=>xs.length≤sizeLine∧∃ its:List Value,Vals xs its∧IsTup h a its.toArray
 | .dK kvs=>kvs.length≤sizeLine∧(a == sysModules)=false∧∃ vs,KV kvs vs∧h.DictOf (bj P w) a vs
 | .dT kvs=>kvs.length≤sizeLine∧(a == sysModules)=false∧∃ xs:List (List Key × Addr × Value),
   Paired (fun(p:List Key × V) (q:List Key × Addr × Value)=>p.1=q.1∧H q.2.1=some (.tup (p.1.map kV))∧RelV p.2 q.2.2) kvs xs∧
   ∃ o es ep,h.get? a=some o∧o.ExactDict∧o.data=.dict es ep∧es.toList=xs.map (entryOfKey (tupleKind (bj P w)))∧(xs.map (·.1)).Nodup
 | .set S n=>h.SetOf (intKind P w) a S n
 | .ins C dx fs=>H dx=some (.own a)∧fs.length≤1000∧dx≠a∧h.get? a=some (PySem.W.instObj C dx)∧
   ∃ mA,h.Ns1 dx mA∧(∀ f,RelO (fs.lookup f) (mA f))∧PySem.Within mA (fs.map (·.1))
 | .own _=>∃ o,h.get? a=some o
 | .xd fs=>∃ mA,h.Ns1 a mA∧∀ f,RelO (fs.lookup f) (mA f)
 | .rng lo hi=>∃ t u v,h.get? a=some { cls:=.type "range",data:=.fields #[.int lo t,.int hi u,.int 1 v] }
 | .frz o u=>h.get? a=some o∧bA H h a u
 | .tbl ps=>h.get? a=some { cls:=.none,data:=.fields ps }
 | .met f x=>h.get? a=some (PySem.W.methodObj (.ref f) (.ref x))
 | .ext φ=>φ h∧(∃ o,h.get? a=some o)∧∀ h1 h2:Heap,φ h1→(∀ o,h1.get? a=some o→h2.get? a=some o)→φ h2
def HOk(H:Hp)(h:Heap):Prop:=∀ a o,H a=some o→bA P w H h a o
end
section
variable{P:Program}{w:World}{H H':Hp}{h h':Heap}{a:Addr}{o:HO}
theorem bA.lt(x:bA P w H h a o):a < h.objs.size:=by
 cases o with
 | lst xs=>obtain⟨_,_,_,_,e⟩:=x;exact Heap.lt_size e
 | tup xs=>obtain⟨_,_,_,p⟩:=x;exact p.lt
 | dK kvs=>obtain⟨_,_,_,_,o,_,_,e,_⟩:=x;exact Heap.lt_size e
 | dT kvs=>obtain⟨_,_,_,_,o,_,_,e,_⟩:=x;exact Heap.lt_size e
 | set S n=>obtain⟨o,_,_,_,e,_⟩:=x;exact Heap.lt_size e
 | ins C dx fs=>obtain⟨_,_,_,e,_⟩:=x;exact Heap.lt_size e
 | own y=>obtain⟨_,e⟩:=x;exact Heap.lt_size e
 | xd fs=>obtain⟨_,⟨_,_,_,e,_⟩,_⟩:=x;exact Heap.lt_size e
 | rng lo hi=>obtain⟨_,_,_,e⟩:=x;exact Heap.lt_size e
 | frz ob u=>obtain⟨e,_⟩:=x;exact Heap.lt_size e
 | tbl ps=>exact Heap.lt_size (show h.get? a=some _ from x)
 | met f y=>exact Heap.lt_size (show h.get? a=some _ from x)
 | ext φ=>obtain⟨_,⟨_,e⟩,_⟩:=x;exact Heap.lt_size e
theorem Paired.mapP{α β:Type}{F G:α→β→Prop}:∀ {l₁:List α} {l₂:List β},Paired F l₁ l₂→(∀ a b,F a b→G a b)→Paired G l₁ l₂
 | _,_,.nil,_=>.nil
 | _,_,.cons r t,f=>.cons (f _ _ r) (Paired.mapP t f)
theorem bA.stay(x:bA P w H h a o)(k:∀ b u,(b=a∨H b=some (.own a))→h.get? b=some u→h'.get? b=some u)
  (ho:∀ b,H b=some (.own a)→H' b=some (.own a)) (ht:∀ b xs,H b=some (.tup xs)→H' b=some (.tup xs)):bA P w H' h' a o:=by
 induction o with
 | lst xs=>obtain⟨z,its,n,r,e⟩:=x;exact⟨z,its,n,r,k _ _ (.inl rfl) e⟩
 | tup xs=>obtain⟨z,its,r,ob,e,c⟩:=x;exact⟨z,its,r,ob,k _ _ (.inl rfl) e,c⟩
 | dK kvs=>obtain⟨z,y,vs,r,ob,es,ep,e,c⟩:=x;exact⟨z,y,vs,r,ob,es,ep,k _ _ (.inl rfl) e,c⟩
 | dT kvs=>
  obtain⟨z,y,xs,r,ob,es,ep,e,c⟩:=x
  exact⟨z,y,xs,Paired.mapP r fun p q z=>⟨z.1,ht _ _ z.2.1,z.2.2⟩,ob,es,ep,k _ _ (.inl rfl) e,c⟩
 | set S n=>obtain⟨ob,es,ep,t,e,c⟩:=x;exact⟨ob,es,ep,t,k _ _ (.inl rfl) e,c⟩
 | ins C dx fs=>
  obtain⟨d,z,ne,e,mA,⟨od,es,ep,e2,c⟩,r⟩:=x
  exact⟨ho _ d,z,ne,k _ _ (.inl rfl) e,mA,⟨od,es,ep,k _ _ (.inr d) e2,c⟩,r⟩
 | own y=>obtain⟨ob,e⟩:=x;exact⟨ob,k _ _ (.inl rfl) e⟩
 | xd fs=>obtain⟨mA,⟨od,es,ep,e,c⟩,r⟩:=x;exact⟨mA,⟨od,es,ep,k _ _ (.inl rfl) e,c⟩,r⟩
 | rng lo hi=>obtain⟨t,u,v,e⟩:=x;exact⟨t,u,v,k _ _ (.inl rfl) e⟩
 | frz ob u ih=>obtain⟨e,q⟩:=x;exact⟨k _ _ (.inl rfl) e,ih q⟩
 | tbl ps=>
  have e:h.get? a=some { cls:=.none,data:=.fields ps }:=x
  show h'.get? a=some { cls:=.none,data:=.fields ps }
  exact k a _ (.inl rfl) e
 | met f y=>
  have e:h.get? a=some (PySem.W.methodObj (.ref f) (.ref y)):=x
  show h'.get? a=some (PySem.W.methodObj (.ref f) (.ref y))
  exact k a _ (.inl rfl) e
 | ext φ=>obtain⟨p,⟨o,e⟩,st⟩:=x;exact⟨st _ _ p fun o q=>k _ _ (.inl rfl) q,⟨o,k _ _ (.inl rfl) e⟩,st⟩
theorem HOk.lt(x:HOk P w H h)(e:H a=some o):a < h.objs.size:=(x a o e).lt
theorem HOk.fresh(x:HOk P w H h)(e:h.objs.size≤a):H a=none:=by
 cases q:H a with
 | none=>rfl
 | some u=>exact absurd (Nat.lt_of_lt_of_le (x.lt q) e) (Nat.lt_irrefl _)
theorem HOk.kept(x:HOk P w H h)(k:∀ b u,h.get? b=some u→h'.get? b=some u):HOk P w H h':=fun a o e=>
 (x a o e).stay (fun b u _ q=>k b u q) (fun _ q=>q) fun _ _ q=>q
theorem HOk.laid(x:HOk P w H h)(k:∀ b u,h.get? b=some u→h'.get? b=some u)(hp:h.objs.size≤a)(new:bA P w (upd H a o) h' a o):HOk P w (upd H a o) h':=fun b u e=>by
 have hn:=x.fresh hp
 by_cases hb:b=a
 ·subst hb;rw[ac] at e;cases e;exact new
 ·rw[ag hb] at e
  exact(x b u e).stay (fun c v _ q=>k c v q) (fun c q=>by rw[ag (ae q hn)];exact q) fun c xs q=>by rw[ag (ae q hn)];exact q
end
def Rd(H:Hp)(a:Addr)(u:HO):Prop:=H a=some u∨∃ o,H a=some (.frz o u)
theorem Rd.ok{P:Program}{w:World}{H:Hp}{h:Heap}{a:Addr}{u:HO}(r:Rd H a u)(x:HOk P w H h):bA P w H h a u:=by
 rcases r with r | ⟨o,r⟩
 ·exact x a u r
 ·obtain⟨_,q⟩:=x a _ r
  exact q
def Mut:Option HO→Prop
 | some (.lst _)=>True
 | some (.dK _)=>True
 | some (.dT _)=>True
 | some (.set _ _)=>True
 | some (.ins _ _ _)=>True
 | some (.ext _)=>True
 | _=>False
section
variable{P:Program}{w:World}{H:Hp}{h h':Heap}{x e:Addr}{o':HO}
theorem HOk.write(ok:HOk P w H h)(mu:Mut (H x))(he:e=x∨H e=some (.own x))(k:∀ b u,b≠e→h.get? b=some u→h'.get? b=some u)(heo:∃ u,h'.get? e=some u)
  (new:bA P w (upd H x o') h' x o'):HOk P w (upd H x o') h':=fun b u q=>by
 have nown:∀ c y,H c=some (.own y)→c≠x:=fun c y r z=>by subst z;rw[r] at mu;exact mu
 have ntup:∀ c xs,H c=some (.tup xs)→c≠x:=fun c xs r z=>by subst z;rw[r] at mu;exact mu
 by_cases hb:b=x
 ·subst hb;rw[ac] at q;cases q;exact new
 ·rw[ag hb] at q
  by_cases hbe:b=e
  ·have q':H b=some (.own x):=by
    rcases he with z | z
    ·exact absurd (hbe.trans z) hb
    ·rw[hbe];exact z
   rw[q] at q';cases q'
   obtain⟨v,hv⟩:=heo
   exact⟨v,by rw[hbe];exact hv⟩
  ·refine(ok b u q).stay (fun c v hc r=>k c v ?_ r) (fun c r=>by rw[ag (nown c b r)];exact r) fun c xs r=>by rw[ag (ntup c xs r)];exact r
   rcases hc with rfl | hc
   ·exact hbe
   ·rintro rfl
    rcases he with z | z
    ·exact nown c b hc z
    ·rw[hc] at z;cases z;exact hb rfl
end
structure Un(fs ex:List Addr)(H H':Hp)(h h':Heap):Prop where
 keep:∀ b o,h.get? b=some o→H b=none→b ∉ fs→b ∉ ex→h'.get? b=some o
 slot:∀ b o,h.get? b=some o→H b=none→b∈fs→b ∉ ex→∃ sl,h'.get? b=some { o with slots:=sl }
 free:∀ b o,h.get? b=some o→H b=none→b ∉ ex→H' b=none
 there:∀ b o,h.get? b=some o→b ∉ ex→∃ o',h'.get? b=some o'
 tups:∀ b xs,H b=some (.tup xs)→H' b=some (.tup xs)
 frzs:∀ b o u,H b=some (.frz o u)→H' b=some (.frz o u)
 tbls:∀ b ps,H b=some (.tbl ps)→∃ more,H' b=some (.tbl (ps++more))
section
variable{fs fs' ex ex':List Addr}{H H1 H2:Hp}{h h1 h2 h':Heap}{a x e:Addr}{o:HO}
theorem Un.any(u:Un fs ex H H1 h h1){b:Addr}{ob:Obj}(q:h.get? b=some ob)(n:H b=none)(hx:b ∉ ex):∃ sl,h1.get? b=some { ob with slots:=sl }:=by
 by_cases hb:b∈fs
 ·exact u.slot b ob q n hb hx
 ·exact⟨ob.slots,u.keep b ob q n hb hx⟩
theorem Un.kept(k:∀ b u,h.get? b=some u→h'.get? b=some u):Un fs ex H H h h':=
 ⟨fun b ob q _ _ _=>k b ob q,fun b ob q _ _ _=>⟨ob.slots,k b ob q⟩,fun _ _ _ n _=>n,fun b ob q _=>⟨ob,k b ob q⟩,fun _ _ q=>q,fun _ _ _ q=>q,fun _ ps q=>⟨#[],by rw[q];simp⟩⟩
theorem Un.refl:Un fs ex H H h h:=Un.kept fun _ _ q=>q
theorem Un.laid(k:∀ b u,h.get? b=some u→h'.get? b=some u)(hp:h.objs.size≤a)(hn:H a=none):Un fs ex H (upd H a o) h h' where
 keep:=fun b u q _ _ _=>k b u q
 slot:=fun b u q _ _ _=>⟨u.slots,k b u q⟩
 free:=fun b u q n _=>by rw[ag (Nat.ne_of_lt (Nat.lt_of_lt_of_le (Heap.lt_size q) hp))];exact n
 there:=fun b u q _=>⟨u,k b u q⟩
 tups:=fun b xs q=>by rw[ag (ae q hn)];exact q
 frzs:=fun b u xs q=>by rw[ag (ae q hn)];exact q
 tbls:=fun b ps q=>⟨#[],by rw[ag (ae q hn),q];simp⟩
theorem Un.write(mu:Mut (H x))(he:e=x∨H e=some (.own x))(k:∀ b u,b≠e→h.get? b=some u→h'.get? b=some u)(heo:∃ u,h'.get? e=some u):Un fs ex H (upd H x o) h h':=by
 have hx:∀ b,H b=none→b≠x:=fun b n z=>by subst z;rw[n] at mu;exact mu
 have hb:∀ b,H b=none→b≠e:=fun b n z=>by
  subst z
  rcases he with r | r
  ·exact hx b n r
  ·rw[n] at r;cases r
 have hm:∀ b u,H b=some u→¬ Mut (some u)→b≠x:=fun b u q nm z=>by subst z;rw[q] at mu;exact nm mu
 refine⟨fun b u q n _ _=>k b u (hb b n) q,fun b u q n _ _=>⟨u.slots,k b u (hb b n) q⟩,fun b u q n _=>by rw[ag (hx b n)];exact n,fun b u q _=>?_,
  fun b xs q=>by rw[ag (hm b _ q fun z=>z)];exact q,fun b u xs q=>by rw[ag (hm b _ q fun z=>z)];exact q,fun b ps q=>⟨#[],by rw[ag (hm b _ q fun z=>z),q];simp⟩⟩
 by_cases hbe:b=e
 ·subst hbe;exact heo
 ·exact⟨u,k b u hbe q⟩
end
def trk(h:Heap)(H:Hp):List Addr:=(List.range h.objs.size).filter fun a=>(H a).isSome
def hidT(h:Heap)(H:Hp):Heap:=PySem.W.hideAll h (trk h H)
theorem tX(h:Heap)(H:Hp):(hidT h H).objs.size=h.objs.size:=PySem.W.hideAll_size _ _
theorem vT{h:Heap}{H:Hp}{b:Addr}{o:Obj}(e:h.get? b=some o)(n:H b=none):(hidT h H).get? b=some o:=
 PySem.W.hideAll_get _ e fun hm=>by
  have q:(H b).isSome=true:=(mem_filter.mp hm).2
  rw[n] at q;simp at q
theorem xg{h:Heap}{H:Hp}{b:Addr}{o:Obj}(e:(hidT h H).get? b=some o):h.get? b=some o∧H b=none:=by
 have e':h.get? b=some o:=PySem.W.of_hideAll (trk h H) e
 refine⟨e',?_⟩
 cases q:H b with
 | none=>rfl
 | some x=>
  have hm:b∈trk h H:=mem_filter.mpr ⟨mem_range.mpr (Heap.lt_size e'),by simp[q]⟩
  have z:(hidT h H).get? b=none:=PySem.W.hideAll_none (trk h H) hm
  rw[z] at e;cases e
structure Mod(K:Frag)(mg:Str→Option Value)(base:Heap):Prop where
 kin:K.In base
 glob:base.Ns mainGlobals mg
 blt:∃ mb,base.Ns builtinsNs mb∧∀ x:Str,x≠"__name__"→mb x=bootBuiltins x
 nolimit:base.NoLimit
structure Cx where
 prog:Program
 w:World
 K:Frag
 mg:Str→Option Value
 base:Heap
 A:Around
 N:List Str
 s_0:Shared
 H_0:Hp
 env:Env
 outer:List Env
 stack:List Env
 ex:List Addr
 fn:Str→Bool
 calm:Bool
 pn:List (Addr × Obj)
 xe:Value→Shared→Prop
def frs(l:List Env):List Addr:=l.filterMap (·.frame)
abbrev Cx.fs(X:Cx):List Addr:=frs X.outer
def Vis(sc:Scope)(x:Str):Prop:=sc.names.lookup x=some .local∨sc.names.lookup x=some .cell∨sc.names.lookup x=some .free
def Loc(sc:Scope)(x:Str):Prop:=sc.names.lookup x=some .local∨sc.names.lookup x=some .cell
def Look(env:Env)(h:Heap)(m:Str→Option Value)(x:Str)(u:Value):Prop:=
 (env.kindOf x=some .local∧m x=some u)∨((env.kindOf x=some .cell∨env.kindOf x=some .free)∧∃ c,env.cells.lookup x=some c∧h.IsCell c (some u))
structure Cx.Ok(X:Cx):Prop where
 mod:Mod X.K X.mg X.base
 kind:X.env.scope.kind=.function
 glob:X.env.globals=mainGlobals
 blt:X.env.builtins=builtinsNs
 above:X.s_0.heap.objs.size≤X.env.locals
 inj:∀ x y c,X.env.cells.lookup x=some c→X.env.cells.lookup y=some c→x=y
 has:∀ x,(X.env.kindOf x=some .cell∨X.env.kindOf x=some .free)→∃ c,X.env.cells.lookup x=some c
 cab:∀ x c,X.fn x=true→X.env.cells.lookup x=some c→X.s_0.heap.objs.size≤c
 hd:X.calm=true→X.A.handled=none
 frames:X.A.frames=some X.stack
 stk:X.stack=X.outer∨(X.stack=X.env::X.outer∧X.env.frame=some X.env.locals)
 exf:∀ b∈X.ex,b≠X.env.locals∧∀ x c,X.env.cells.lookup x=some c→c≠b
 bs:∀ b o,X.base.get? b=some o→X.s_0.heap.get? b=some o∧X.H_0 b=none
 bsz:X.base.objs.size≤X.s_0.heap.objs.size
 noex:∀ b o,X.base.get? b=some o→b ∉ X.ex
 exfs:∀ b∈X.ex,b ∉ X.fs
 funs:X.s_0.heap.FunFrames X.base X.outer
 frf:∀ b∈X.fs,X.H_0 b=none
structure Inv(X:Cx)(pins:List (Addr × Obj))(σ:List (Option V))(H:Hp)(s:Shared):Prop where
 ok:X.Ok
 os:s.os=X.s_0.os
 bare:AllBare s.gens
 base:Un X.fs X.ex X.H_0 H X.s_0.heap s.heap
 loc:∃ m,s.heap.Ns X.env.locals m∧∀ (i:Nat) (x:Str) (v:V),X.N[i]?=some x→σ[i]?=some (some v)→Vis X.env.scope x→∃ u,RelV v u∧Look X.env s.heap m x u
 cell:∀ x c,X.env.cells.lookup x=some c→∃ v,s.heap.IsCell c v
 free:H X.env.locals=none
 freeC:∀ x c,X.env.cells.lookup x=some c→H c=none
 pin:∀ p∈X.pn++pins,s.heap.get? p.1=some p.2∧H p.1=none∧p.1≠X.env.locals∧p.1 ∉ X.fs∧∀ v,p.2.data≠.cell v
 hok:HOk X.prog X.w H s.heap
 len:σ.length=X.N.length
section
variable{X:Cx}{pins:List (Addr × Obj)}{σ:List (Option V)}{H H':Hp}{s:Shared}{h':Heap}
theorem Cx.Ok.nofr(ok:X.Ok){b:Addr}{o:Obj}(e:X.base.get? b=some o):b ∉ X.fs:=fun hb=>by
 have:=(ok.funs.mem hb).1
 rw[e] at this;cases this
theorem Inv.bs(I:Inv X pins σ H s):∀ b o,X.base.get? b=some o→s.heap.get? b=some o∧H b=none:=fun b o e=>
 ⟨I.base.keep b o (I.ok.bs b o e).1 (I.ok.bs b o e).2 (I.ok.nofr e) (I.ok.noex b o e),I.base.free b o (I.ok.bs b o e).1 (I.ok.bs b o e).2 (I.ok.noex b o e)⟩
theorem Inv.bk(I:Inv X pins σ H s):∀ b o,X.base.get? b=some o→s.heap.get? b=some o:=fun b o e=>(I.bs b o e).1
theorem Inv.mod(I:Inv X pins σ H s):Mod X.K X.mg X.base:=I.ok.mod
theorem Inv.kIn(I:Inv X pins σ H s):X.K.In s.heap:=I.ok.mod.kin.keeps I.bk
theorem Inv.lt(I:Inv X pins σ H s):X.env.locals < s.heap.objs.size:=let ⟨_,hn,_⟩:=I.loc;hn.lt
theorem Inv.sz(I:Inv X pins σ H s):X.s_0.heap.objs.size≤s.heap.objs.size:=Nat.le_trans I.ok.above (Nat.le_of_lt I.lt)
theorem Inv.nofs(I:Inv X pins σ H s){a:Addr}(h:s.heap.objs.size≤a):a ∉ X.fs:=fun hb=>by
 obtain⟨_,o,ho,_⟩:=I.ok.funs.mem hb
 exact absurd (Nat.lt_of_lt_of_le (Heap.lt_size ho) (Nat.le_trans I.sz h)) (Nat.lt_irrefl _)
theorem Inv.cne(I:Inv X pins σ H s):∀ x c,X.env.cells.lookup x=some c→c≠X.env.locals:=fun x c e z=>by
 obtain⟨v,o,ho,hd⟩:=I.cell x c e
 obtain⟨m,⟨o',es,ep,ho',hd',_⟩,_⟩:=I.loc
 rw[z,ho'] at ho;cases ho;rw[hd'] at hd;cases hd
theorem Inv.funs(I:Inv X pins σ H s):s.heap.FunFrames X.base X.outer:=by
 have all:∀ (l:List Env),(∀ b∈frs l,b∈X.fs)→X.s_0.heap.FunFrames X.base l→s.heap.FunFrames X.base l:=by
  intro l
  induction l with
  | nil=>intro _ _;trivial
  | cons env r ih=>
   intro hs hl
   obtain⟨hk,⟨L,o,hf,hn,ho,hd⟩,hr⟩:=hl
   have hL:L∈X.fs:=hs L (by unfold frs;rw[List.filterMap_cons,hf];exact mem_cons_self)
   obtain⟨sl,e⟩:=I.base.slot L o ho (I.ok.frf L hL) hL fun z=>I.ok.exfs L z hL
   exact⟨hk,⟨L,_,hf,hn,e,hd⟩,ih (fun b hb=>hs b (by unfold frs;rw[List.filterMap_cons,hf];exact mem_cons_of_mem _ hb)) hr⟩
 exact all X.outer (fun _ hb=>hb) I.ok.funs
theorem Inv.stack(I:Inv X pins σ H s):s.heap.FunFrames X.base X.stack:=by
 rcases I.ok.stk with e | ⟨e,hf⟩
 ·rw[e];exact I.funs
 ·rw[e]
  obtain⟨m,hn,_⟩:=I.loc
  refine .cons (by rw[I.ok.kind];decide) hf hn ?_ I.funs
  exact Heap.get?_none_of_le (Nat.le_trans I.ok.bsz I.ok.above)
theorem Inv.stkSub(I:Inv X pins σ H s):∀ b∈frs X.stack,b∈X.env.locals::X.fs:=fun b hb=>by
 rcases I.ok.stk with e | ⟨e,hf⟩
 ·rw[e] at hb;exact mem_cons_of_mem _ hb
 ·rw[e] at hb
  unfold frs at hb
  rw[List.filterMap_cons,hf] at hb
  exact hb
theorem Inv.stkFree(I:Inv X pins σ H s):∀ b∈frs X.stack,H b=none:=fun b hb=>by
 rcases mem_cons.mp (I.stkSub b hb) with e | hb
 ·rw[e];exact I.free
 ·obtain⟨_,o,ho,_⟩:=I.ok.funs.mem hb
  exact I.base.free b o ho (I.ok.frf b hb) fun z=>I.ok.exfs b z hb
theorem Inv.step{g':Array GenState}{t':Nat}{d':Drawn}{ch:List Addr}(I:Inv X pins σ H s)
  (hch:∀ b∈ch,(b∈X.ex∨X.s_0.heap.objs.size≤b)∧b≠X.env.locals∧(∀ x c,X.env.cells.lookup x=some c→c≠b)∧∀ p∈X.pn++pins,p.1≠b)
  (keep:∀ b o,b≠X.env.locals→b ∉ X.fs→b ∉ ch→s.heap.get? b=some o→H b=none→h'.get? b=some o)
  (slot:∀ b o,b≠X.env.locals→b∈X.fs→b ∉ ch→s.heap.get? b=some o→H b=none→∃ sl,h'.get? b=some { o with slots:=sl }) (free:∀ b o,b ∉ ch→s.heap.get? b=some o→H b=none→H' b=none)
  (there:∀ b o,b ∉ ch→s.heap.get? b=some o→∃ o',h'.get? b=some o')
  (tups:∀ b xs,H b=some (.tup xs)→H' b=some (.tup xs)) (frzs:∀ b o u,H b=some (.frz o u)→H' b=some (.frz o u)) (tbls:∀ b ps,H b=some (.tbl ps)→∃ more,H' b=some (.tbl (ps++more)))
  (ns:∀ m,s.heap.Ns X.env.locals m→h'.Ns X.env.locals m) (hok:HOk X.prog X.w H' h') (hg:AllBare g') :
  Inv X pins σ H' { s with heap:=h',gens:=g',drawn:=d',toks:=t' }:=by
 have neL:∀ b o,X.s_0.heap.get? b=some o→b≠X.env.locals:=fun b o e=>Nat.ne_of_lt (Nat.lt_of_lt_of_le (Heap.lt_size e) I.ok.above)
 have neC:∀ b o,X.s_0.heap.get? b=some o→b ∉ X.ex→b ∉ ch:=fun b o e hx hb=>by
  rcases (hch b hb).1 with z | z
  ·exact hx z
  ·exact absurd (Nat.lt_of_lt_of_le (Heap.lt_size e) z) (Nat.lt_irrefl _)
 have cellK:∀ x c,X.env.cells.lookup x=some c→∀ v,s.heap.IsCell c v→h'.IsCell c v:=fun x c e v ⟨o,ho,hd⟩=>by
  have nch:c ∉ ch:=fun z=>(hch c z).2.2.1 x c e rfl
  by_cases hc:c∈X.fs
  ·obtain⟨sl,q⟩:=slot c o (I.cne x c e) hc nch ho (I.freeC x c e)
   exact⟨_,q,hd⟩
  ·exact⟨o,keep c o (I.cne x c e) hc nch ho (I.freeC x c e),hd⟩
 refine⟨I.ok,I.os,hg,⟨fun b o e n hb hx=>?_,fun b o e n hb hx=>?_,fun b o e n hx=>?_,fun b o e hx=>?_,fun b xs e=>tups b xs (I.base.tups b xs e),fun b o xs e=>frzs b o xs (I.base.frzs b o xs e),fun b ps e=>?_⟩,?_,fun x c e=>?_,?_,fun x c e=>?_,fun p hp=>?_,hok,I.len⟩
 ·exact keep b o (neL b o e) hb (neC b o e hx) (I.base.keep b o e n hb hx) (I.base.free b o e n hx)
 ·obtain⟨sl,e1⟩:=I.base.slot b o e n hb hx
  obtain⟨sl',e2⟩:=slot b _ (neL b o e) hb (neC b o e hx) e1 (I.base.free b o e n hx)
  exact⟨sl',e2⟩
 ·obtain⟨o',e1⟩:=I.base.there b o e hx
  exact free b o' (neC b o e hx) e1 (I.base.free b o e n hx)
 ·obtain⟨o',e1⟩:=I.base.there b o e hx
  exact there b o' (neC b o e hx) e1
 ·obtain⟨m1,e1⟩:=I.base.tbls b ps e
  obtain⟨m2,e2⟩:=tbls b _ e1
  exact⟨m1++m2,by rw[e2,Array.append_assoc]⟩
 ·obtain⟨m,hn,hl⟩:=I.loc
  refine⟨m,ns m hn,fun i x v e1 e2 e3=>?_⟩
  obtain⟨u,r,l⟩:=hl i x v e1 e2 e3
  refine⟨u,r,?_⟩
  rcases l with l | ⟨k,c,e,z⟩
  ·exact .inl l
  ·exact .inr ⟨k,c,e,cellK x c e _ z⟩
 ·obtain⟨v,z⟩:=I.cell x c e
  exact⟨v,cellK x c e v z⟩
 ·obtain⟨m,⟨o,_,_,ho,_⟩,_⟩:=I.loc
  exact free _ o (fun z=>(hch _ z).2.1 rfl) ho I.free
 ·obtain⟨v,o,ho,hd⟩:=I.cell x c e
  exact free c o (fun z=>(hch c z).2.2.1 x c e rfl) ho (I.freeC x c e)
 ·obtain⟨e,n,ne,nf,d⟩:=I.pin p hp
  have nch:p.1 ∉ ch:=fun z=>(hch p.1 z).2.2.2 p hp rfl
  exact⟨keep p.1 p.2 ne nf nch e n,free p.1 p.2 nch e n,ne,nf,d⟩
theorem Inv.un{t':Nat}(I:Inv X pins σ H s)(u:Un X.fs [] H H' s.heap h')(hok:HOk X.prog X.w H' h'):Inv X pins σ H' { s with heap:=h',toks:=t' }:=by
 obtain⟨m,⟨o,es,ep,ho,r⟩,_⟩:=id I.loc
 obtain⟨sl,hL⟩:=u.any ho I.free (by simp)
 exact I.step (g':=s.gens) (d':=s.drawn) (ch:=[]) (fun _ z=>nomatch z) (fun b o _ hb _ e n=>u.keep b o e n hb (by simp)) (fun b o _ hb _ e n=>u.slot b o e n hb (by simp)) (fun b o _ e n=>u.free b o e n (by simp)) (fun b o _ e=>u.there b o e (by simp)) u.tups u.frzs u.tbls (fun m' hm=>by
  obtain⟨o',es',ep',ho',r'⟩:=hm
  rw[ho] at ho';cases ho'
  exact⟨_,es',ep',hL,r'⟩) hok I.bare
theorem Inv.call{g':Array GenState}{t':Nat}{d':Drawn}{ch:List Addr}(I:Inv X pins σ H s)(u:Un (frs X.stack) ch H H' s.heap h')(hok:HOk X.prog X.w H' h')(hg:AllBare g')
  (hch:∀ b∈ch,(b∈X.ex∨X.s_0.heap.objs.size≤b)∧b≠X.env.locals∧(∀ x c,X.env.cells.lookup x=some c→c≠b)∧∀ p∈X.pn++pins,p.1≠b) :
  Inv X pins σ H' { s with heap:=h',gens:=g',drawn:=d',toks:=t' }:=by
 obtain⟨m,⟨o,es,ep,ho,r⟩,_⟩:=id I.loc
 obtain⟨sl,hL⟩:=u.any ho I.free fun z=>(hch _ z).2.1 rfl
 exact I.step (ch:=ch) hch (fun b o hL hb hc e n=>u.keep b o e n (fun z=>(mem_cons.mp (I.stkSub b z)).elim hL hb) hc) (fun b o _ _ hc e n=>u.any e n hc) (fun b o hc e n=>u.free b o e n hc) (fun b o hc e=>u.there b o e hc) u.tups u.frzs u.tbls (fun m' hm=>by
  obtain⟨o',es',ep',ho',r'⟩:=hm
  rw[ho] at ho';cases ho'
  exact⟨_,es',ep',hL,r'⟩) hok hg
theorem Inv.turned{t':Nat}{it:Addr}(I:Inv X pins σ H s)(k:∀ b o,b≠it→s.heap.get? b=some o→h'.get? b=some o)(hn:H it=none)(hL:it≠X.env.locals)
  (h1:it∈X.ex∨X.s_0.heap.objs.size≤it) (h2:∀ x c,X.env.cells.lookup x=some c→c≠it) (h3:∀ p∈X.pn++pins,p.1≠it):Inv X pins σ H { s with heap:=h',toks:=t' }:=by
 have nit:∀ b u,H b=some u→b≠it:=fun b u e z=>by rw[z,hn] at e;cases e
 refine I.step (g':=s.gens) (d':=s.drawn) (ch:=[it]) (fun b hb=>?_) (fun b o _ _ hc e _=>k b o (fun z=>hc (by simp[z])) e) (fun b o _ _ hc e _=>⟨o.slots,k b o (fun z=>hc (by simp[z])) e⟩) (fun _ _ _ _ n=>n)
  (fun b o hc e=>⟨o,k b o (fun z=>hc (by simp[z])) e⟩) (fun _ _ e=>e) (fun _ _ _ e=>e) (fun b ps e=>⟨#[],by rw[e];simp⟩) (fun m hm=>?_) (fun b u e=>?_) I.bare
 ·have e:b=it:=by simpa using hb
  subst e
  exact⟨h1,hL,h2,h3⟩
 ·obtain⟨o,es,ep,ho,r⟩:=hm
  exact⟨o,es,ep,k _ o (Ne.symm hL) ho,r⟩
 ·refine(I.hok b u e).stay (fun c v hc q=>k c v ?_ q) (fun _ q=>q) fun _ _ q=>q
  rcases hc with z | z
  ·rw[z];exact nit b u e
  ·exact nit c _ z
theorem Inv.tok(I:Inv X pins σ H s)(t:Nat):Inv X pins σ H { s with toks:=t }:=I.un (h':=s.heap) (t':=t) Un.refl I.hok
theorem Inv.kept{t':Nat}(I:Inv X pins σ H s)(k:∀ b u,s.heap.get? b=some u→h'.get? b=some u):Inv X pins σ H { s with heap:=h',toks:=t' }:=I.un (Un.kept k) (I.hok.kept k)
theorem Inv.laid{a:Addr}{o:HO}{t':Nat}(I:Inv X pins σ H s)(k:∀ b u,s.heap.get? b=some u→h'.get? b=some u)(hp:s.heap.objs.size≤a)(new:bA X.prog X.w (upd H a o) h' a o) :
  Inv X pins σ (upd H a o) { s with heap:=h',toks:=t' }:=I.un (Un.laid k hp (I.hok.fresh hp)) (I.hok.laid k hp new)
theorem Inv.write{x e:Addr}{o:HO}{t':Nat}(I:Inv X pins σ H s)(mu:Mut (H x))(he:e=x∨H e=some (.own x))(k:∀ b u,b≠e→s.heap.get? b=some u→h'.get? b=some u)(heo:∃ u,h'.get? e=some u)
  (new:bA X.prog X.w (upd H x o) h' x o):Inv X pins σ (upd H x o) { s with heap:=h',toks:=t' }:=I.un (Un.write mu he k heo) (I.hok.write mu he k heo new)
theorem Inv.weak{σ':List (Option V)}(I:Inv X pins σ H s)(hl:σ'.length=σ.length)(w:∀ (i:Nat) v,σ'[i]?=some (some v)→σ[i]?=some (some v)):Inv X pins σ' H s:=
 ⟨I.ok,I.os,I.bare,I.base,let ⟨m,hn,hl'⟩:=I.loc;⟨m,hn,fun i x v e1 e2 e3=>hl' i x v e1 (w i v e2) e3⟩,I.cell,I.free,I.freeC,I.pin,I.hok,hl.trans I.len⟩
theorem Inv.pins_of{pins':List (Addr × Obj)}(I:Inv X pins σ H s)(h:∀ p∈pins',s.heap.get? p.1=some p.2∧H p.1=none∧p.1≠X.env.locals∧p.1 ∉ X.fs∧∀ v,p.2.data≠.cell v):Inv X pins' σ H s:=
 ⟨I.ok,I.os,I.bare,I.base,I.loc,I.cell,I.free,I.freeC,fun p hp=>(mem_append.mp hp).elim (fun z=>I.pin p (mem_append_left _ z)) (h p),I.hok,I.len⟩
theorem jW{N:List Str}(hN:N.Nodup){i j:Nat}{x:Str}(a:N[i]?=some x)(b:N[j]?=some x):i=j:=by
 obtain⟨h1,e1⟩:=List.getElem?_eq_some_iff.mp a
 obtain⟨h2,e2⟩:=List.getElem?_eq_some_iff.mp b
 exact(List.getElem_inj hN).mp (e1.trans e2.symm)
theorem gI{M:Model}{A:Around}{E:Value→Shared→Prop}{i:Nat}{x:Str}{v:V}{u:Value}{Q:Unit→Shared→Prop}(I:Inv X pins σ H s)(hN:X.N.Nodup)(hi:X.N[i]?=some x)(hx:Loc X.env.scope x)(r:RelV v u)
  (h:∀ s',Inv X pins (σ.set i (some v)) H s'→(∃ a,Heap.SameBut a s.heap s'.heap∧(a=X.env.locals∨X.env.cells.lookup x=some a))→Q () s') (hf:X.fn x=true∨X.env.scope.names.lookup x=some .local:=by first | exact .inl rfl | exact .inr rfl | assumption):wpAny M A (storeName X.env x u) Q E s:=by
 obtain⟨m,hn,hl⟩:=id I.loc
 have hcls:(X.env.scope.kind == .class || (X.env.scope.kind == .module && X.env.locals != X.env.globals))=false:=by rw[I.ok.kind];rfl
 have hiσ:i < σ.length:=by rw[I.len];exact(List.getElem?_eq_some_iff.mp hi).1
 have cne:=I.cne
 have tracked:∀ {a:Addr} {h':Heap},(∃ o,s.heap.get? a=some o∧H a=none)→Heap.SameBut a s.heap h'→HOk X.prog X.w H h':=fun {a h'} ha hs b ob e=>by
  obtain⟨_,_,hfree⟩:=ha
  refine(I.hok b ob e).stay (fun c w' hc q=>(hs.2 c ?_).trans q) (fun _ q=>q) fun _ _ q=>q
  rintro rfl
  rcases hc with rfl | hc
  ·rw[hfree] at e;cases e
  ·rw[hfree] at hc;cases hc
 rcases hx with hk | hk
 ·refine wpAny_storeName_local hk hn (fun h' hn' hs=>?_) hcls
  obtain⟨oL,_,_,hoL,_⟩:=id hn
  refine h _ ⟨I.ok,I.os,I.bare,⟨fun b o e n hb hx=>?_,fun b o e n hb hx=>?_,I.base.free,fun b o e hx=>?_,I.base.tups,I.base.frzs,I.base.tbls⟩,⟨_,hn',fun j y v' e1 e2 e3=>?_⟩,fun y c e=>?_,I.free,I.freeC,fun p hp=>?_,tracked ⟨oL,hoL,I.free⟩ hs,by simpa using I.len⟩ ⟨_,hs,.inl rfl⟩
  ·exact(hs.2 b (Nat.ne_of_lt (Nat.lt_of_lt_of_le (Heap.lt_size e) I.ok.above))).trans (I.base.keep b o e n hb hx)
  ·obtain⟨sl,e1⟩:=I.base.slot b o e n hb hx
   exact⟨sl,(hs.2 b (Nat.ne_of_lt (Nat.lt_of_lt_of_le (Heap.lt_size e) I.ok.above))).trans e1⟩
  ·obtain⟨o',e1⟩:=I.base.there b o e hx
   exact⟨o',(hs.2 b (Nat.ne_of_lt (Nat.lt_of_lt_of_le (Heap.lt_size e) I.ok.above))).trans e1⟩
  ·by_cases hj:j=i
   ·subst hj
    rw[hi] at e1;cases e1
    rw[List.getElem?_set_self hiσ] at e2
    cases e2
    exact⟨u,r,.inl ⟨hk,by simp⟩⟩
   ·rw[List.getElem?_set_ne (Ne.symm hj)] at e2
    obtain⟨u',r',q⟩:=hl j y v' e1 e2 e3
    refine⟨u',r',?_⟩
    rcases q with⟨k,e⟩ | ⟨k,c,e,z⟩
    ·refine .inl ⟨k,?_⟩
     have:y≠x:=fun e=>hj (jW hN e1 (e ▸ hi))
     simp[this,e]
    ·exact .inr ⟨k,c,e,z.sameBut hs (cne y c e)⟩
  ·obtain⟨w',z⟩:=I.cell y c e
   exact⟨w',z.sameBut hs (cne y c e)⟩
  ·obtain⟨e,n,ne,nf,d⟩:=I.pin p hp
   exact⟨(hs.2 p.1 ne).trans e,n,ne,nf,d⟩
 ·have hfn:X.fn x=true:=by
   rcases hf with z | z
   ·exact z
   ·rw[z] at hk;cases hk
  obtain⟨c,hc⟩:=I.ok.has x (.inl hk)
  obtain⟨w',z⟩:=I.cell x c hc
  refine wpAny_storeName_cell I.ok.kind hk hc z (fun h' hc' hs=>?_)
  obtain⟨oc,hoc,hocd⟩:=id z
  refine h { s with heap:=h' } ⟨I.ok,I.os,I.bare,⟨fun b o e n hb hx=>?_,fun b o e n hb hx=>?_,I.base.free,fun b o e hx=>?_,I.base.tups,I.base.frzs,I.base.tbls⟩,⟨m,hn.sameBut hs (Ne.symm (cne x c hc)),fun j y v' e1 e2 e3=>?_⟩,fun y c' e=>?_,I.free,I.freeC,fun p hp=>?_,tracked ⟨oc,hoc,I.freeC x c hc⟩ hs,by simpa using I.len⟩ ⟨c,hs,.inr hc⟩
  ·exact(hs.2 b (Nat.ne_of_lt (Nat.lt_of_lt_of_le (Heap.lt_size e) (I.ok.cab x c hfn hc)))).trans (I.base.keep b o e n hb hx)
  ·obtain⟨sl,e1⟩:=I.base.slot b o e n hb hx
   exact⟨sl,(hs.2 b (Nat.ne_of_lt (Nat.lt_of_lt_of_le (Heap.lt_size e) (I.ok.cab x c hfn hc)))).trans e1⟩
  ·obtain⟨o',e1⟩:=I.base.there b o e hx
   exact⟨o',(hs.2 b (Nat.ne_of_lt (Nat.lt_of_lt_of_le (Heap.lt_size e) (I.ok.cab x c hfn hc)))).trans e1⟩
  ·by_cases hj:j=i
   ·subst hj
    rw[hi] at e1;cases e1
    rw[List.getElem?_set_self hiσ] at e2
    cases e2
    exact⟨u,r,.inr ⟨.inl hk,c,hc,hc'⟩⟩
   ·rw[List.getElem?_set_ne (Ne.symm hj)] at e2
    obtain⟨u',r',q⟩:=hl j y v' e1 e2 e3
    refine⟨u',r',?_⟩
    rcases q with q | ⟨k,c',e,z'⟩
    ·exact .inl q
    ·refine .inr ⟨k,c',e,z'.sameBut hs ?_⟩
     rintro rfl
     exact hj (jW hN e1 (I.ok.inj _ _ _ e hc ▸ hi))
  ·by_cases hcc:c'=c
   ·subst hcc;exact⟨_,hc'⟩
   ·obtain⟨w2,z2⟩:=I.cell y c' e
    exact⟨w2,z2.sameBut hs hcc⟩
  ·obtain⟨e,n,ne,nf,d⟩:=I.pin p hp
   refine⟨(hs.2 p.1 ?_).trans e,n,ne,nf,d⟩
   intro q
   rw[q,hoc] at e
   have q':oc=p.2:=Option.some.inj e
   exact d w' (by rw[←q'];exact hocd)
theorem jk{M:Model}{A:Around}{E:Value→Shared→Prop}{i:Nat}{x:Str}{v:V}{u:Value}{Q:Unit→Shared→Prop}(I:Inv X pins σ H s)(hN:X.N.Nodup)(hi:X.N[i]?=some x)(hx:Loc X.env.scope x)(r:RelV v u)
  (h:∀ s',Inv X pins (σ.set i (some v)) H s'→Q () s') (hf:X.fn x=true∨X.env.scope.names.lookup x=some .local:=by first | exact .inl rfl | exact .inr rfl | assumption):wpAny M A (storeName X.env x u) Q E s:=
 gI I hN hi hx r (fun s' I' _=>h s' I') hf
theorem Inv.call'{s':Shared}{ch:List Addr}(I:Inv X pins σ H s)(ho:s'.os=s.os)(u:Un (frs X.stack) ch H H' s.heap s'.heap)(hok:HOk X.prog X.w H' s'.heap)(hg:AllBare s'.gens)
  (hch:∀ b∈ch,(b∈X.ex∨X.s_0.heap.objs.size≤b)∧b≠X.env.locals∧(∀ x c,X.env.cells.lookup x=some c→c≠b)∧∀ p∈X.pn++pins,p.1≠b):Inv X pins σ H' s':=by
 obtain⟨h',g',d',t',o'⟩:=s'
 have e:o'=s.os:=ho
 subst e
 exact I.call (g':=g') (t':=t') (d':=d') u hok hg hch
end
abbrev XK:=Value→Option Addr→Hp→Prop
abbrev St:=List (Option V)
abbrev VK:=V→Hp→Prop
abbrev TE:=St→Hp→VK→Prop
abbrev TT:=St→Hp→(Bool→Hp→Prop)→Prop
abbrev TA:=St→Hp→(List V→Hp→Prop)→Prop
structure Ends where
 nx:St→Hp→Prop
 rt:VK
 bk:St→Hp→Prop:=fun _ _=>False
 ct:St→Hp→Prop:=fun _ _=>False
abbrev TS:=Ends→St→Hp→Prop
def EP(X:Cx)(pins:List (Addr × Obj))(σ:St)(Q:VK)(u:Value)(s':Shared):Prop:=∃ v H',Inv X pins σ H' s'∧RelV v u∧Q v H'
def TP(X:Cx)(pins:List (Addr × Obj))(σ:St)(Q:Bool→Hp→Prop)(b:Bool)(s':Shared):Prop:=∃ H',Inv X pins σ H' s'∧Q b H'
def AP(X:Cx)(pins:List (Addr × Obj))(σ:St)(Q:List V→Hp→Prop)(us:List Value)(s':Shared):Prop:=∃ vs H',Inv X pins σ H' s'∧Vals vs us∧Q vs H'
def SP(X:Cx)(pins:List (Addr × Obj))(D:Ends)(f:Flow)(s':Shared):Prop:=
 match f with
 | .next=>∃ σ' H',Inv X pins σ' H' s'∧D.nx σ' H'
 | .brk=>∃ σ' H',Inv X pins σ' H' s'∧D.bk σ' H'
 | .cont=>∃ σ' H',Inv X pins σ' H' s'∧D.ct σ' H'
 | .ret u=>∃ v σ' H',Inv X pins σ' H' s'∧RelV v u∧D.rt v H'
def PE(X:Cx)(e:Expr)(t:TE):Prop:=
 ∀ (pins:List (Addr × Obj)) (s:Shared) (σ:St) (H:Hp) (Q:VK),Inv X pins σ H s→t σ H Q→wpAny (model X.prog X.w) X.A (eval e X.env) (EP X pins σ Q) X.xe s
def PT(X:Cx)(e:Expr)(t:TT):Prop:=
 ∀ (pins:List (Addr × Obj)) (s:Shared) (σ:St) (H:Hp) (Q:Bool→Hp→Prop),Inv X pins σ H s→t σ H Q→wpAny (model X.prog X.w) X.A (isTrue e X.env (eval e X.env)) (TP X pins σ Q) X.xe s
def PW(X:Cx)(e:Expr)(t:TT):Prop:=
 ∀ (whole:Sem Value) (pins:List (Addr × Obj)) (s:Shared) (σ:St) (H:Hp) (Q:Bool→Hp→Prop),Inv X pins σ H s→t σ H Q→wpAny (model X.prog X.w) X.A (isTrue e X.env whole) (TP X pins σ Q) X.xe s
theorem PW.pt{X:Cx}{e:Expr}{t:TT}(h:PW X e t):PT X e t:=h _
def PA(X:Cx)(es:List Expr)(t:TA):Prop:=
 ∀ (pos:Pos) (pins:List (Addr × Obj)) (s:Shared) (σ:St) (H:Hp) (Q:List V→Hp→Prop),Inv X pins σ H s→t σ H Q→wpAny (model X.prog X.w) X.A (spliced (backTo pos (starEach es X.env))) (AP X pins σ Q) X.xe s
def PS(X:Cx)(st:Stmt)(t:TS):Prop:=
 ∀ (pins:List (Addr × Obj)) (s:Shared) (σ:St) (H:Hp) (D:Ends),Inv X pins σ H s→t D σ H→wpAny (model X.prog X.w) X.A (exec st X.env) (SP X pins D) X.xe s
def PSs(X:Cx)(st:List Stmt)(t:TS):Prop:=
 ∀ (pins:List (Addr × Obj)) (s:Shared) (σ:St) (H:Hp) (D:Ends),Inv X pins σ H s→t D σ H→wpAny (model X.prog X.w) X.A (execs st X.env) (SP X pins D) X.xe s
theorem thn{α:Type}{t:Sem α}{Q Q':α→Shared→Prop}{M:Model}{A:Around}{E:Value→Shared→Prop}{s:Shared}(h:wpAny M A t Q E s)(hQ:∀ a s,Q a s→Q' a s):wpAny M A t Q' E s:=wpAny_mono h hQ fun _ _ x=>x
section
variable{X:Cx}
def tVar(i:Nat):TE:=fun σ H Q=>∃ v,σ[i]?=some (some v)∧Q v H
def tC(v:V):TE:=fun _ H Q=>Q v H
theorem pe_var{i:Nat}{x:Str}{pos:Pos}(hN:X.N[i]?=some x)(hv:Vis X.env.scope x)(hd:(x == ("__debug__":Str))=false:=by decide)(hcd:(x == ("__classdict__":Str))=false:=by decide):PE X (.Name x pos) (tVar i):=by
 intro pins s σ H Q I h
 obtain⟨v,e,h⟩:=h
 obtain⟨m,hn,hl⟩:=I.loc
 obtain⟨u,r,l⟩:=hl i x v hN e hv
 have fin:EP X pins σ Q u s:=⟨v,H,I,r,h⟩
 rcases l with⟨hk,hm⟩ | ⟨hk,c,hc,hcell⟩
 ·exact wpAny_Name (wpAny_loadName_local I.ok.kind hk hn hm fin) hd
 ·rcases hk with hk | hk
  ·exact wpAny_Name (wpAny_loadName_cell I.ok.kind hk hc hcell fin) hd
  ·exact wpAny_Name (wpAny_loadName_free I.ok.kind hk hc hcell fin hcd) hd
theorem ak{i j pos}:PE X (.Constant (.int i) j pos) (tC (.int i)):=fun _ _ _ H _ I h=>wpAny_Constant_int ⟨.int i,H,I.tok _,⟨_,rfl⟩,h⟩
theorem eB{b j pos}:PE X (.Constant (.bool b) j pos) (tC (.bl b)):=fun _ _ _ H _ I h=>Constant_bool ⟨.bl b,H,I,rfl,h⟩
theorem mI{j pos}:PE X (.Constant .none j pos) (tC .non):=fun _ _ _ H _ I h=>Constant_none ⟨.non,H,I,rfl,h⟩
theorem cb{x j pos}:PE X (.Constant (.str x) j pos) (tC (.str x)):=fun _ _ _ H _ I h=>Calls.Constant_str ⟨.str x,H,I.tok _,⟨_,rfl⟩,h⟩
def Gl(X:Cx)(x:Str):Prop:=X.env.kindOf x=some .globalImplicit
theorem fk{E:Value→Shared→Prop}{pins:List (Addr × Obj)}{s:Shared}{σ:St}{H:Hp}{x:Str}{u:Value}{pos:Pos}{Q:Value→Shared→Prop}(I:Inv X pins σ H s)(hg:Gl X x)(hm:X.mg x=some u)(h:Q u s)
  (hd:(x == ("__debug__":Str))=false:=by decide):wpAny (model X.prog X.w) X.A (eval (.Name x pos) X.env) Q E s:=
 Calls.Name_function_global I.ok.kind hg (Calls.loadGlobal_global (by rw[I.ok.glob];exact I.mod.glob.keeps I.bk) hm h) hd
theorem j5{E:Value→Shared→Prop}{pins:List (Addr × Obj)}{s:Shared}{σ:St}{H:Hp}{x:Str}{u:Value}{pos:Pos}{Q:Value→Shared→Prop}(I:Inv X pins σ H s)(hg:Gl X x)(hm:X.mg x=none)(hv:bootBuiltins x=some u)(h:Q u s)
  (hn:x≠"__name__":=by decide) (hd:(x == ("__debug__":Str))=false:=by decide):wpAny (model X.prog X.w) X.A (eval (.Name x pos) X.env) Q E s:=by
 obtain⟨mb,h1,h2⟩:=I.mod.blt
 exact Calls.Name_function_global I.ok.kind hg (Calls.loadGlobal_builtin (by rw[I.ok.glob];exact I.mod.glob.keeps I.bk) hm (by rw[I.ok.blt];exact h1.keeps I.bk) ((h2 x hn).trans hv) h) hd
theorem bT{x:Str}{v:V}{u:Value}{pos:Pos}(hg:Gl X x)(hm:X.mg x=some u)(r:RelV v u)(hd:(x == ("__debug__":Str))=false:=by decide):PE X (.Name x pos) (tC v):=
 fun _ _ _ H _ I h=>fk I hg hm ⟨v,H,I,r,h⟩ hd
variable{a b:Expr}{ta tb:TE}{pos:Pos}
def PC(X:Cx)(op:CmpOp)(a b:Expr)(t:TE):Prop:=
 ∀ (pins:List (Addr × Obj)) (s:Shared) (σ:St) (H:Hp) (Q:VK),Inv X pins σ H s→t σ H Q→
  wpAny (model X.prog X.w) X.A (eval a X.env) (fun v s₁=>wpAny (model X.prog X.w) X.A (eval b X.env) (fun u s₂=>wpAny (model X.prog X.w) X.A (compareOp op v u) (EP X pins σ Q) X.xe s₂) X.xe s₁) X.xe s
theorem oO(b:Expr){op:CmpOp}(h:op≠.In)(h2:op≠.NotIn):behindInMarks op b=false:=by
 have e1:(op == CmpOp.In)=false:=by cases op<;>first | rfl | exact absurd rfl h
 have e2:(op == CmpOp.NotIn)=false:=by cases op<;>first | rfl | exact absurd rfl h2
 cases b<;>simp[behindInMarks,e1,e2]
def tIsN(ta:TE):TE:=fun σ H Q=>ta σ H fun x H1=>Q (.bl (decide (x=.non))) H1
def tNotN(ta:TE):TE:=fun σ H Q=>ta σ H fun x H1=>Q (.bl (!decide (x=.non))) H1
theorem RelV.none_iff{x:V}{v:Value}(r:RelV x v):(v == Value.none)=decide (x=.non):=by
 cases x with
 | non=>cases r;rfl
 | bl _=>cases r;rfl
 | int _=>obtain⟨t,rfl⟩:=r;rfl
 | str _=>obtain⟨t,rfl⟩:=r;rfl
 | byt _=>obtain⟨t,rfl⟩:=r;rfl
 | flt _=>obtain⟨t,rfl⟩:=r;rfl
 | ref _=>cases r;rfl
 | ty _=>cases r;rfl
theorem hG{j pos'}(ha:PE X a ta):PC X .Is a (.Constant .none j pos') (tIsN ta):=by
 intro pins s σ H Q I h
 refine thn (ha pins s σ H _ I h) fun v s1 ⟨x,H1,I1,r1,q1⟩=>?_
 exact Constant_none (is_none_gen ⟨.bl _,H1,I1,by rw[r1.none_iff];rfl,q1⟩)
theorem jc{j pos'}(ha:PE X a ta):PC X .IsNot a (.Constant .none j pos') (tNotN ta):=by
 intro pins s σ H Q I h
 refine thn (ha pins s σ H _ I h) fun v s1 ⟨x,H1,I1,r1,q1⟩=>?_
 exact Constant_none (isnot_none_gen ⟨.bl _,H1,I1,by rw[r1.none_iff];rfl,q1⟩)
def tB(t:TE):TT:=fun σ H Q=>t σ H fun x H1=>∃ c,x=.bl c∧Q c H1
theorem pe_cmp{op:CmpOp}{t:TE}(h:PC X op a b t)(h1:behindInMarks op b=false:=by first | exact oO _ (by decide) (by decide) | rfl):PE X (.Compare a [op] [b] pos) t:=fun pins s σ H Q I hw=>wpAny_Compare1 (h pins s σ H Q I hw) h1
theorem bN{op:CmpOp}{t:TE}(h:PC X op a b t)(h1:behindInMarks op b=false:=by first | exact oO _ (by decide) (by decide) | rfl):PT X (.Compare a [op] [b] pos) (tB t):=by
 intro pins s σ H Q I hw
 refine wpAny_isTrue_Compare1 (thn (h pins s σ H _ I hw) fun v s1 h1=>thn h1 fun u s2 h2=>thn h2 fun c s3 ⟨x,H1,I1,r1,q1⟩=>?_) h1
 obtain⟨d,rfl,q⟩:=q1
 cases r1
 exact wpAny_truthy_bool ⟨H1,I1,q⟩
theorem cv{e:Expr}{t:TE}(h:PE X e t)(he:∀ whole,isTrue e X.env whole=(do let v←whole;standAt e.pos;holding [v] (truthy v)):=by intro _;rfl):PT X e (tB t):=by
 intro pins s σ H Q I hw
 refine isTrue_plain (thn (h pins s σ H _ I hw) fun v s1 ⟨x,H1,I1,r1,q1⟩=>?_) (he _)
 obtain⟨d,rfl,q⟩:=q1
 cases r1
 exact wpAny_truthy_bool ⟨H1,I1,q⟩
variable{tA tB':TT}{rest:List Expr}
def tAnd(t u:TT):TT:=fun σ H Q=>t σ H fun c H1=>if c=true then u σ H1 Q else Q false H1
def tOr(t u:TT):TT:=fun σ H Q=>t σ H fun c H1=>if c=true then Q true H1 else u σ H1 Q
def tNot(t:TT):TT:=fun σ H Q=>t σ H fun c H1=>Q (!c) H1
theorem cy(ha:PT X a tA):PW X (.BoolOp .And [a] pos) tA:=by
 intro wh pins s σ H Q I h
 refine isTrue_and (thn (ha pins s σ H Q I h) fun c s1 e=>?_)
 cases c with
 | true=>exact isTrue_and_nil e
 | false=>exact e
theorem uW(ha:PT X a tA):PW X (.BoolOp .Or [a] pos) tA:=by
 intro wh pins s σ H Q I h
 refine isTrue_or (thn (ha pins s σ H Q I h) fun c s1 e=>?_)
 cases c with
 | false=>exact isTrue_or_nil e
 | true=>exact e
theorem dw(ha:PT X a tA)(hb:PW X (.BoolOp .And (b::rest) pos) tB'):PW X (.BoolOp .And (a::b::rest) pos) (tAnd tA tB'):=by
 intro wh pins s σ H Q I h
 refine isTrue_and (thn (ha pins s σ H _ I h) fun c s1 ⟨H1,I1,q1⟩=>?_)
 cases c with
 | true=>exact hb wh pins s1 σ H1 Q I1 q1
 | false=>exact⟨H1,I1,q1⟩
theorem uX(ha:PT X a tA)(hb:PW X (.BoolOp .Or (b::rest) pos) tB'):PW X (.BoolOp .Or (a::b::rest) pos) (tOr tA tB'):=by
 intro wh pins s σ H Q I h
 refine isTrue_or (thn (ha pins s σ H _ I h) fun c s1 ⟨H1,I1,q1⟩=>?_)
 cases c with
 | true=>exact⟨H1,I1,q1⟩
 | false=>exact hb wh pins s1 σ H1 Q I1 q1
theorem dy(ha:PT X a tA):PT X (.UnaryOp .Not a pos) (tNot tA):=by
 intro pins s σ H Q I h
 exact isTrue_not (ha pins s σ H (fun c H1=>Q (!c) H1) I h)
def tAndV(ta tb:TE):TE:=fun σ H Q=>ta σ H fun x H1=>∃ c,x=.bl c∧if c=true then tb σ H1 Q else Q (.bl false) H1
theorem ve{op}{t:TE}(h:PE X a t):PE X (.BoolOp op [a] pos) t:=fun pins s σ H Q I hw=>BoolOp_one (h pins s σ H Q I hw)
theorem qf(ha:PE X a ta)(hb:PE X (.BoolOp .And (b::rest) pos) tb):PE X (.BoolOp .And (a::b::rest) pos) (tAndV ta tb):=by
 intro pins s σ H Q I h
 refine BoolOp_and (thn (ha pins s σ H _ I h) fun v s1 ⟨x,H1,I1,r1,q1⟩=>?_)
 obtain⟨c,rfl,q1⟩:=q1
 cases r1
 refine wpAny_truthy_bool ?_
 cases c with
 | true=>exact hb pins s1 σ H1 Q I1 q1
 | false=>exact⟨.bl false,H1,I1,rfl,q1⟩
def tIf(t:TT)(ta tb:TE):TE:=fun σ H Q=>t σ H fun c H1=>if c=true then ta σ H1 Q else tb σ H1 Q
theorem gj{c:Expr}(hc:PT X c tA)(ha:PE X a ta)(hb:PE X b tb):PE X (.IfExp c a b pos) (tIf tA ta tb):=by
 intro pins s σ H Q I h
 refine wpAny_IfExp (thn (hc pins s σ H _ I h) fun d s1 ⟨H1,I1,q1⟩=>?_)
 cases d with
 | true=>exact ha pins s1 σ H1 Q I1 q1
 | false=>exact hb pins s1 σ H1 Q I1 q1
end
def SqL(K:Frag)(H:Hp)(a:Addr)(xs:List V):Prop:=
 Rd H a (.lst xs)∨
  ∃ (o:Obj) (its:Array Value) (n:Nat),K.lookup a=some o∧o.cls=.type "list"∧o.dict=none∧o.data=.seq its n∧its.size≤sizeLine∧Vals xs its.toList
def SqT(K:Frag)(H:Hp)(a:Addr)(xs:List V):Prop:=
 Rd H a (.tup xs)∨
  ∃ (o:Obj) (its:Array Value) (n:Nat),K.lookup a=some o∧o.cls=.type "tuple"∧o.data=.seq its n∧its.size≤sizeLine∧Vals xs its.toList
def absV:Value→Option V
 | .none=>some .non
 | .bool b=>some (.bl b)
 | .int i _=>some (.int i)
 | .str x _=>some (.str x)
 | .bytes b _=>some (.byt b)
 | .float b _=>some (.flt b)
 | .ref a=>some (.ref a)
 | .type n=>some (.ty n)
 | _=>none
theorem RelV.abs{x:V}{u:Value}(r:RelV x u):absV u=some x:=by
 cases x with
 | non=>cases r;rfl
 | bl _=>cases r;rfl
 | int _=>obtain⟨t,rfl⟩:=r;rfl
 | str _=>obtain⟨t,rfl⟩:=r;rfl
 | byt _=>obtain⟨t,rfl⟩:=r;rfl
 | flt _=>obtain⟨t,rfl⟩:=r;rfl
 | ref _=>cases r;rfl
 | ty _=>cases r;rfl
theorem RelV.inj{x y:V}{u:Value}(r:RelV x u)(q:RelV y u):x=y:=Option.some.inj (r.abs.symm.trans q.abs)
theorem Vals.inj:∀ {xs ys:List V} {us:List Value},Vals xs us→Vals ys us→xs=ys
 | _,_,_,.nil,.nil=>rfl
 | _,_,_,.cons r t,.cons r' t'=>by rw[r.inj r',Vals.inj t t']
section
variable{X:Cx}{pins:List (Addr × Obj)}{σ:St}{H:Hp}{s:Shared}{a:Addr}{xs ys:List V}
theorem SqL.of{K:Frag}(h:H a=some (.lst xs)):SqL K H a xs:=.inl (.inl h)
theorem SqT.of{K:Frag}(h:H a=some (.tup xs)):SqT K H a xs:=.inl (.inl h)
theorem Inv.list(I:Inv X pins σ H s)(h:SqL X.K H a xs):∃ its:List Value,Vals xs its∧PlainL s.heap a its.toArray∧xs.length≤sizeLine:=by
 rcases h with h | ⟨o,its,n,hk,hc,hd,hs,hz,r⟩
 ·obtain⟨z,its,n,r,e⟩:=h.ok I.hok
  exact⟨its,r,⟨_,n,e,rfl,rfl,rfl⟩,z⟩
 ·refine⟨its.toList,r,⟨o,n,I.kIn a o hk,hc,hd,by simpa using hs⟩,?_⟩
  have e:=r.length
  simp only[Array.length_toList] at e
  omega
theorem Inv.tuple(I:Inv X pins σ H s)(h:SqT X.K H a xs):∃ its:List Value,Vals xs its∧IsTup s.heap a its.toArray∧xs.length≤sizeLine:=by
 rcases h with h | ⟨o,its,n,hk,hc,hs,hz,r⟩
 ·obtain⟨z,its,r,p⟩:=h.ok I.hok
  exact⟨its,r,p,z⟩
 ·refine⟨its.toList,r,⟨o,I.kIn a o hk,hc,n,by simpa using hs⟩,?_⟩
  have e:=r.length
  simp only[Array.length_toList] at e
  omega
theorem Inv.list_inj(I:Inv X pins σ H s)(h:SqL X.K H a xs)(h':SqL X.K H a ys):xs=ys:=by
 obtain⟨its,r,⟨o,n,e,_,_,d⟩,_⟩:=I.list h
 obtain⟨its',r',⟨o',n',e',_,_,d'⟩,_⟩:=I.list h'
 rw[e] at e';cases e'
 rw[d] at d'
 injection d' with d1 _
 have:its=its':=by simpa using congrArg Array.toList d1
 subst this
 exact r.inj r'
theorem Inv.tuple_inj(I:Inv X pins σ H s)(h:SqT X.K H a xs)(h':SqT X.K H a ys):xs=ys:=by
 obtain⟨its,r,⟨o,e,_,n,d⟩,_⟩:=I.tuple h
 obtain⟨its',r',⟨o',e',_,n',d'⟩,_⟩:=I.tuple h'
 rw[e] at e';cases e'
 rw[d] at d'
 injection d' with d1 _
 have:its=its':=by simpa using congrArg Array.toList d1
 subst this
 exact r.inj r'
end
abbrev Cx.wish(X:Cx)(E:Value→Shared→Prop):Cx:={ X with xe:=E }
abbrev Cx.nox(X:Cx):Cx:=X.wish fun _ _=>False
theorem Cx.Ok.wish{X:Cx}(ok:X.Ok)(E:Value→Shared→Prop):(X.wish E).Ok:=
 ⟨ok.mod,ok.kind,ok.glob,ok.blt,ok.above,ok.inj,ok.has,ok.cab,ok.hd,ok.frames,ok.stk,ok.exf,ok.bs,ok.bsz,ok.noex,ok.exfs,ok.funs,ok.frf⟩
theorem Cx.Ok.unwish{X:Cx}{E:Value→Shared→Prop}(ok:(X.wish E).Ok):X.Ok:=
 ⟨ok.mod,ok.kind,ok.glob,ok.blt,ok.above,ok.inj,ok.has,ok.cab,ok.hd,ok.frames,ok.stk,ok.exf,ok.bs,ok.bsz,ok.noex,ok.exfs,ok.funs,ok.frf⟩
section
variable{X:Cx}{pins:List (Addr × Obj)}{σ:St}{H:Hp}{s:Shared}{E:Value→Shared→Prop}
theorem Inv.wish(I:Inv X pins σ H s)(E:Value→Shared→Prop):Inv (X.wish E) pins σ H s:=⟨I.ok.wish E,I.os,I.bare,I.base,I.loc,I.cell,I.free,I.freeC,I.pin,I.hok,I.len⟩
theorem Inv.unwish(I:Inv (X.wish E) pins σ H s):Inv X pins σ H s:=⟨I.ok.unwish,I.os,I.bare,I.base,I.loc,I.cell,I.free,I.freeC,I.pin,I.hok,I.len⟩
theorem SP.unwish{D:Ends}{f:Flow}{s':Shared}(h:SP (X.wish E) pins D f s'):SP X pins D f s':=by
 cases f with
 | next=>obtain⟨σ',H',I,q⟩:=h;exact⟨σ',H',I.unwish,q⟩
 | brk=>obtain⟨σ',H',I,q⟩:=h;exact⟨σ',H',I.unwish,q⟩
 | cont=>obtain⟨σ',H',I,q⟩:=h;exact⟨σ',H',I.unwish,q⟩
 | ret u=>obtain⟨v,σ',H',I,r,q⟩:=h;exact⟨v,σ',H',I.unwish,r,q⟩
theorem PSs.nox{st:List Stmt}{t:TS}(h:PSs X.nox st t):PSs X st t:=fun pins s σ H D I hw=>
 wpAny_mono (h pins s σ H D (I.wish _) hw) (fun _ _ q=>q.unwish) fun _ _ z=>False.elim z
end
section
variable{X:Cx}{st:Stmt}{rest:List Stmt}{t u:TS}{e:Expr}{te:TE}{pos:Pos}
def tNext:TS:=fun D σ H=>D.nx σ H
def tSeq(t u:TS):TS:=fun D σ H=>t { D with nx:=u D } σ H
theorem aK:PSs X [] tNext:=fun _ _ σ H _ I h=>wpAny_execs_nil ⟨σ,H,I,h⟩
theorem ad(h1:PS X st t)(h2:PSs X rest u):PSs X (st::rest) (tSeq t u):=by
 intro pins s σ H D I h
 refine wpAny_execs_cons (thn (h1 pins s σ H { D with nx:=u D } I h) fun f s1 q=>?_)
 cases f with
 | next=>
  obtain⟨σ',H',I',q⟩:=q
  exact h2 pins s1 σ' H' D I' q
 | ret v=>exact q
 | brk=>exact q
 | cont=>exact q
theorem ah(h1:PS X st t):PSs X [st] t:=by
 intro pins s σ H D I h
 refine wpAny_execs_cons (thn (h1 pins s σ H D I h) fun f s1 q=>?_)
 cases f with
 | next=>exact wpAny_execs_nil q
 | ret v=>exact q
 | brk=>exact q
 | cont=>exact q
def tBreak:TS:=fun D σ H=>D.bk σ H
theorem ot:PS X (.Break pos) tBreak:=fun _ _ σ H _ I h=>wpAny_Break ⟨σ,H,I,h⟩
theorem Inv.quiet{pins:List (Addr × Obj)}{σ:St}{H:Hp}{s:Shared}(I:Inv X pins σ H s):interactive X.env=false:=by simp[interactive,I.ok.kind]
def tDrop(te:TE):TS:=fun D σ H=>te σ H fun _ H1=>D.nx σ H1
theorem b9(he:PE X e te)(hs:swapsWith e none pos.line X.env=pure false:=by rfl):PS X (.Expr e pos) (tDrop te):=by
 intro pins s σ H D I h
 exact wpAny_Expr_any (thn (he pins s σ H _ I h) fun v s1 ⟨x,H1,I1,r1,q1⟩=>⟨σ,H1,I1,q1⟩) I.quiet hs
def tRet(te:TE):TS:=fun D σ H=>te σ H D.rt
theorem au(he:PE X e te):PS X (.Return (some e) pos) (tRet te):=by
 intro pins s σ H D I h
 exact wpAny_Return_some (thn (he pins s σ H _ I h) fun v s1 ⟨x,H1,I1,r1,q1⟩=>⟨x,σ,H1,I1,r1,q1⟩)
def tRetN:TS:=fun D _ H=>D.rt .non H
theorem rJ:PS X (.Return none pos) tRetN:=fun _ _ σ H _ I h=>wpAny_Return_none ⟨.non,σ,H,I,rfl,h⟩
def tIfS(c:TT)(t u:TS):TS:=fun D σ H=>c σ H fun b H1=>if b=true then t D σ H1 else u D σ H1
theorem bi{c:Expr}{a b:List Stmt}{tc:TT}(hc:PT X c tc)(ha:PSs X a t)(hb:PSs X b u):PS X (.If c a b pos) (tIfS tc t u):=by
 intro pins s σ H D I h
 refine wpAny_If (thn (hc pins s σ H _ I h) fun d s1 ⟨H1,I1,q1⟩=>?_)
 cases d with
 | true=>exact ha pins s1 σ H1 D I1 q1
 | false=>exact hb pins s1 σ H1 D I1 q1
def tNever:TS:=fun _ _ _=>False
theorem lH{sts:List Stmt}:PSs X sts tNever:=fun _ _ _ _ _ _ h=>h.elim
end
abbrev TG:=V→St→Hp→(St→Hp→Prop)→Prop
abbrev TGs:=List V→St→Hp→(St→Hp→Prop)→Prop
def PG(X:Cx)(target:Expr)(t:TG):Prop:=
 ∀ (pins:List (Addr × Obj)) (s:Shared) (σ:St) (H:Hp) (v:V) (u:Value) (Q:St→Hp→Prop),Inv X pins σ H s→RelV v u→t v σ H Q→
  wpAny (model X.prog X.w) X.A (assign target X.env u) (fun _ s'=>∃ σ' H',Inv X pins σ' H' s'∧Q σ' H') X.xe s
def PGs(X:Cx)(ts:List Expr)(t:TGs):Prop:=
 ∀ (pins:List (Addr × Obj)) (s:Shared) (σ:St) (H:Hp) (vs:List V) (us:List Value) (Q:St→Hp→Prop),Inv X pins σ H s→Vals vs us→t vs σ H Q→
  wpAny (model X.prog X.w) X.A (assignInOrder ((assignEach ts X.env).map (·.2)) us) (fun _ s'=>∃ σ' H',Inv X pins σ' H' s'∧Q σ' H') X.xe s
abbrev TSet:=V→V→V→Hp→(Hp→Prop)→Prop
def PSet(X:Cx)(t:TSet):Prop:=
 ∀ (pins:List (Addr × Obj)) (s:Shared) (σ:St) (H:Hp) (o i v:V) (ov iv u:Value) (Q:Hp→Prop),Inv X pins σ H s→RelV o ov→RelV i iv→RelV v u→t o i v H Q→
  wpAny (model X.prog X.w) X.A (setItem ov iv u) (fun _ s'=>∃ H',Inv X pins σ H' s'∧Q H') X.xe s
abbrev TIp:=V→V→Hp→VK→Prop
def PIp(X:Cx)(op:Operator)(t:TIp):Prop:=
 ∀ (pins:List (Addr × Obj)) (s:Shared) (σ:St) (H:Hp) (x y:V) (v u:Value) (Q:VK),Inv X pins σ H s→RelV x v→RelV y u→t x y H Q→
  wpAny (model X.prog X.w) X.A (inplaceOp op v u) (EP X pins σ Q) X.xe s
section
variable{X:Cx}{pos:Pos}
def aY(i:Nat):TG:=fun v σ H Q=>Q (σ.set i (some v)) H
theorem ay{i:Nat}{x:Str}(hN:X.N.Nodup)(hi:X.N[i]?=some x)(hx:Loc X.env.scope x)(hf:X.fn x=true∨X.env.scope.names.lookup x=some .local:=by first | exact .inl rfl | exact .inr rfl | assumption):PG X (.Name x pos) (aY i):=by
 intro pins s σ H v u Q I r h
 exact wpAny_assign_Name (jk I hN hi hx r (fun s' I'=>⟨_,H,I',h⟩) hf)
def gNil:TGs:=fun vs σ H Q=>vs=[]∧Q σ H
def eL(t:TG)(u:TGs):TGs:=fun vs σ H Q=>∃ v r,vs=v::r∧t v σ H fun σ' H'=>u r σ' H' Q
theorem dM:PGs X [] gNil:=by
 intro pins s σ H vs us Q I r h
 obtain⟨e,h⟩:=h
 subst e
 cases r
 exact assignInOrder_nil ⟨σ,H,I,h⟩
theorem bv{e:Expr}{es:List Expr}{t:TG}{u:TGs}(h1:PG X e t)(h2:PGs X es u)
  (hs:(assignEach (e::es) X.env).map (·.2)=assign e X.env::(assignEach es X.env).map (·.2):=by rfl):PGs X (e::es) (eL t u):=by
 intro pins s σ H vs us Q I r h
 obtain⟨v,vr,e1,h⟩:=h
 subst e1
 cases r with
 | cons r rr=>
  rw[hs]
  refine assignInOrder_cons (thn (h1 pins s σ H _ _ _ I r h) fun _ s1 ⟨σ1,H1,I1,q1⟩=>?_)
  exact h2 pins s1 σ1 H1 _ _ Q I1 rr q1
def gTup(K:Frag)(n:Nat)(t:TGs):TG:=fun v σ H Q=>∃ a xs,v=.ref a∧SqT K H a xs∧xs.length=n∧t xs σ H Q
theorem fO{es:List Expr}{k:Nat}{t:TGs}{n:Nat}(hc:X.calm=true)(h:PGs X es t)
  (hn:(assignEach es X.env).length=n:=by rfl) (hst:(assignEach es X.env).findIdx? (·.1)=none:=by rfl):PG X (.Tuple es k pos) (gTup X.K n t):=by
 intro pins s σ H v u Q I r hw
 obtain⟨a,xs,e1,hq,hl,hw⟩:=hw
 subst e1
 cases r
 obtain⟨its,rv,ht,hz⟩:=I.tuple hq
 refine assign_Tuple_tuple (I.ok.hd hc) ht (by simp[hn,←hl,rv.length]) hst fun h' hx=>?_
 have I1:Inv X pins σ H { s with heap:=h' }:=I.kept (t':=s.toks) fun b o e=>hx b o (Nat.ne_of_lt (Heap.lt_size e)) e
 exact h pins _ σ H xs _ Q I1 (by simpa using rv) hw
def gSub(to ti:TE)(t:TSet):TG:=fun v σ H Q=>to σ H fun o H1=>ti σ H1 fun i H2=>t o i v H2 fun H3=>Q σ H3
theorem pg_sub{o i:Expr}{to ti:TE}{t:TSet}(ho:PE X o to)(hi:PE X i ti)(hs:PSet X t)
  (ha:∀ v,assign (.Subscript o i pos) X.env v=(do
   let ov←holding [v] (eval o X.env)
   let iv←holding [v,ov] (eval i X.env)
   standAt pos
   holding [v,ov,iv] (setItem ov iv v)
   release [v,ov,iv] []):=by intro _;rfl):PG X (.Subscript o i pos) (gSub to ti t):=by
 intro pins s σ H v u Q I r h
 rw[ha]
 refine wpAny_bind (wpAny_holding (thn (ho pins s σ H _ I h) fun ov s1 ⟨x,H1,I1,r1,q1⟩=>?_))
 refine wpAny_bind (wpAny_holding (thn (hi pins s1 σ H1 _ I1 q1) fun iv s2 ⟨y,H2,I2,r2,q2⟩=>?_))
 refine wpAny_bind (wpAny_standAt (wpAny_bind (wpAny_holding (thn (hs pins s2 σ H2 x y v ov iv u _ I2 r1 r2 r q2) fun _ s3 ⟨H3,I3,q3⟩=>?_))))
 exact wpAny_release ⟨σ,H3,I3,q3⟩
def tAsg(te:TE)(g:TG):TS:=fun D σ H=>te σ H fun x H1=>g x σ H1 D.nx
theorem ps_asg{tg e:Expr}{te:TE}{g:TG}(he:PE X e te)(hg:PG X tg g)(hs:swapsWithSole [tg] e pos.line X.env=pure false:=by rfl)(hw:swappedStores [tg] e X.env=pure none:=by rfl)
  (h1:(assignEach [tg] X.env).map (·.2)=[assign tg X.env]:=by rfl):PS X (.Assign [tg] e pos) (tAsg te g):=by
 intro pins s σ H D I h
 refine wpAny_Assign_stores (thn (he pins s σ H _ I h) fun v s1 ⟨x,H1,I1,r1,q1⟩=>?_) hs hw
 rw[h1]
 exact thn (hg pins s1 σ H1 x v _ I1 r1 q1) fun _ s2 q=>q
theorem ao{i:Nat}{x:Str}{e:Expr}{te:TE}{pos':Pos}(hN:X.N.Nodup)(hi:X.N[i]?=some x)(hx:Loc X.env.scope x)(he:PE X e te)(hs:swapsWith e (some (.Name x pos')) pos.line X.env=pure false:=by rfl)(hf:X.fn x=true∨X.env.scope.names.lookup x=some .local:=by first | exact .inl rfl | exact .inr rfl | assumption) :
  PS X (.Assign [.Name x pos'] e pos) (tAsg te (aY i)):=by
 intro pins s σ H D I h
 refine wpAny_Assign_Name (thn (he pins s σ H _ I h) fun v s1 ⟨y,H1,I1,r1,q1⟩=>?_) hs
 exact jk I1 hN hi hx r1 (fun s2 I2=>⟨_,H1,I2,q1⟩) hf
def tAug(i:Nat)(te:TE)(ti:TIp):TS:=fun D σ H=>∃ x,σ[i]?=some (some x)∧te σ H fun y H1=>ti x y H1 fun z H2=>D.nx (σ.set i (some z)) H2
theorem u5{i:Nat}{x:Str}{e:Expr}{te:TE}{op:Operator}{ti:TIp}{pos':Pos}(hN:X.N.Nodup)(hi:X.N[i]?=some x)(hx:Loc X.env.scope x)(he:PE X e te)(ho:PIp X op ti)(hf:X.fn x=true∨X.env.scope.names.lookup x=some .local:=by first | exact .inl rfl | exact .inr rfl | assumption) :
  PS X (.AugAssign (.Name x pos') op e pos) (tAug i te ti):=by
 intro pins s σ H D I h
 obtain⟨v,e1,h⟩:=h
 obtain⟨m,hn,hl⟩:=I.loc
 have vis:Vis X.env.scope x:=by rcases hx with k | k;exact .inl k;exact .inr (.inl k)
 obtain⟨u,r,l⟩:=hl i x v hi e1 vis
 refine wpAny_AugAssign_Name ?_
 have go:wpAny (model X.prog X.w) X.A (eval e X.env) (fun w s₂=>wpAny (model X.prog X.w) X.A (inplaceOp op u w) (fun r s₃=>wpAny (model X.prog X.w) X.A (storeName X.env x r) (fun _=>SP X pins D .next) X.xe s₃) X.xe s₂) X.xe s:=by
  refine thn (he pins s σ H _ I h) fun w s1 ⟨y,H1,I1,r1,q1⟩=>?_
  refine thn (ho pins s1 σ H1 v y u w _ I1 r r1 q1) fun z s2 ⟨zv,H2,I2,r2,q2⟩=>?_
  exact jk I2 hN hi hx r2 (fun s3 I3=>⟨_,H2,I3,q2⟩) hf
 rcases l with⟨hk,hm⟩ | ⟨hk,c,hc,hcell⟩
 ·exact wpAny_loadName_local I.ok.kind hk hn hm go
 ·rcases hk with hk | hk
  ·exact wpAny_loadName_cell I.ok.kind hk hc hcell go
  ·rcases hx with k | k
   ·have:X.env.scope.names.lookup x=some .free:=hk
    rw[k] at this;cases this
   ·have:X.env.scope.names.lookup x=some .free:=hk
    rw[k] at this;cases this
def ipI(f:Int→Int→Int):TIp:=fun x y H Q=>∃ i j,x=.int i∧y=.int j∧Q (.int (f i j)) H
theorem vR:PIp X .Add (ipI fun i j=>i+j):=by
 intro pins s σ H x y v u Q I r1 r2 h
 obtain⟨i,j,e1,e2,q⟩:=h
 subst e1;subst e2
 obtain⟨t,rfl⟩:=r1
 obtain⟨t',rfl⟩:=r2
 exact iadd_int ⟨.int _,H,I.tok _,⟨_,rfl⟩,q⟩
end
section
variable{X:Cx}{pos:Pos}
def tWhile(c:TT)(tb:TS):TS:=fun D σ H=>∃ W:Nat→St→Hp→Prop,(∃ m,W m σ H)∧∀ m σ H,W m σ H→
 c σ H fun b H1=>if b=true then ∃ N:St→Hp→Prop,(∀ σ' H',N σ' H'→∃ m',m' < m∧W m' σ' H')∧tb { D with nx:=N,ct:=N,bk:=D.nx } σ H1 else D.nx σ H1
theorem gc{c:Expr}{body:List Stmt}{tc:TT}{tb:TS}(hp:PassesOwn (model X.prog X.w) X.A X.env X.xe)(hc:PT X c tc)(hb:PSs X body tb):PS X (.While c body [] pos) (tWhile tc tb):=by
 intro pins s σ H D I h
 obtain⟨W,⟨m0,w0⟩,turn⟩:=h
 refine wpAny_While (codeAny_whileLoop (fun n s'=>∃ σ' H',Inv X pins σ' H' s'∧W n σ' H') ?_ m0 ⟨σ,H,I,w0⟩)
 rintro n s1 ⟨σ1,H1,I1,w1⟩
 refine wpAny_passesOwn hp (thn (hc pins s1 σ1 H1 _ I1 (turn n σ1 H1 w1)) fun b s2 ⟨H2,I2,q2⟩=>?_)
 cases b with
 | true=>
  obtain⟨N,hN,q2⟩:=q2
  rw[if_pos rfl]
  refine wpAny_passesOwn hp (thn (hb pins s2 σ1 H2 _ I2 q2) fun f s3 q3=>?_)
  cases f with
  | next=>
   obtain⟨σ3,H3,I3,n3⟩:=q3
   obtain⟨m',hm,w3⟩:=hN σ3 H3 n3
   exact⟨m',hm,σ3,H3,I3,w3⟩
  | cont=>
   obtain⟨σ3,H3,I3,n3⟩:=q3
   obtain⟨m',hm,w3⟩:=hN σ3 H3 n3
   exact⟨m',hm,σ3,H3,I3,w3⟩
  | brk=>exact q3
  | ret v=>exact q3
 | false=>
  rw[if_neg Bool.false_ne_true]
  exact wpAny_execs_nil ⟨σ1,H2,I2,q2⟩
end
structure It where
 go:Nat→Hp→Prop
 yld:Nat→Hp→V→Hp→Prop
 stop:Nat→Hp→Prop
def FpOk(X:Cx)(pins:List (Addr × Obj))(H:Hp)(b:Addr):Prop:=
 H b=none∧b≠X.env.locals∧b ∉ X.fs∧(b∈X.ex∨X.s_0.heap.objs.size≤b)∧(∀ x c,X.env.cells.lookup x=some c→c≠b)∧∀ p∈X.pn++pins,p.1≠b
theorem Inv.fpOk{X:Cx}{pins:List (Addr × Obj)}{σ:St}{H H':Hp}{s:Shared}{b:Addr}(I:Inv X pins σ H s)(hb:s.heap.objs.size≤b)(hn:H' b=none):FpOk X pins H' b:=by
 refine⟨hn,Nat.ne_of_gt (Nat.lt_of_lt_of_le I.lt hb),I.nofs hb,.inr (Nat.le_trans I.sz hb),fun x c e z=>?_,fun p hp z=>?_⟩
 ·obtain⟨v,q⟩:=I.cell x c e
  exact absurd (Nat.lt_of_lt_of_le q.lt (by rw[z];exact hb)) (Nat.lt_irrefl _)
 ·exact absurd (Nat.lt_of_lt_of_le (Heap.lt_size (I.pin p hp).1) (by rw[z];exact hb)) (Nat.lt_irrefl _)
structure Turn(P:Program)(w:World)(K:Frag)(tg:Expr)(J:It)(fp:List Addr)(it:Addr)(tn:Nat→Heap→Prop):Prop where
 mem:it∈fp
 obj:∀ i h,tn i h→∀ b∈fp,∃ o,h.get? b=some o∧∀ v,o.data≠.cell v
 keep:∀ i h h',tn i h→(∀ b∈fp,∀ o,h.get? b=some o→h'.get? b=some o)→tn i h'
 item:∀ (X:Cx),X.prog=P→X.w=w→X.K=K→X.calm=true→∀ (i:Nat) (pins:List (Addr × Obj)) (s:Shared) (σ:St) (H:Hp) (E:Value→Shared→Prop),Inv X pins σ H s→(∀ b∈fp,FpOk X pins H b)→tn i s.heap→J.go i H→
  wpAny (model P w) X.A (pyNext (.ref it)) (fun r s1=>∃ u,r=some u∧
   wpAny (model P w) X.A (letOwnedTupleGo tg (.ref it) u) (fun _ s2=>∃ x H',Inv X pins σ H' s2∧RelV x u∧J.yld i H x H'∧tn (i+1) s2.heap∧∀ b∈fp,H' b=none) E s1) E s
 done:∀ (X:Cx),X.prog=P→X.w=w→X.K=K→X.calm=true→∀ (i:Nat) (pins:List (Addr × Obj)) (s:Shared) (σ:St) (H:Hp) (E:Value→Shared→Prop),Inv X pins σ H s→(∀ b∈fp,FpOk X pins H b)→tn i s.heap→J.stop i H→
  wpAny (model P w) X.A (pyNext (.ref it)) (fun r s1=>r=none∧Inv X pins σ H s1) E s
 self:∀ (A:Around) (i:Nat) (s:Shared) (Q:Value→Shared→Prop) (E:Value→Shared→Prop),tn i s.heap→Q (.ref it) s→wpAny (model P w) A (pyIter (.ref it)) Q E s
abbrev TI:=St→Hp→(It→Hp→Prop)→Prop
def PIE(X:Cx)(pins:List (Addr × Obj))(σ:St)(tg:Expr)(R:It→Hp→Prop)(itv:Value)(s2:Shared):Prop:=
 ∃ (it:Addr) (fp:List Addr) (tn:Nat→Heap→Prop) (J:It) (H':Hp),itv=.ref it∧Inv X pins σ H' s2∧Turn X.prog X.w X.K tg J fp it tn∧tn 0 s2.heap∧(∀ b∈fp,FpOk X pins H' b)∧R J H'
def PI(X:Cx)(tg iter:Expr)(wi:TI):Prop:=
 ∀ (pins:List (Addr × Obj)) (s:Shared) (σ:St) (H:Hp) (R:It→Hp→Prop),Inv X pins σ H s→wi σ H R→
  wpAny (model X.prog X.w) X.A (eval iter X.env) (fun v s1=>wpAny (model X.prog X.w) X.A (pyIter v) (PIE X pins σ tg R) X.xe s1) X.xe s
theorem km{M:Model}{A:Around}{E:Value→Shared→Prop}{s:Shared}{tg:Expr}{it:Addr}{u:Value}{o:Obj}{n:String}{vs:Array Value}{Q:Unit→Shared→Prop}(ho:s.heap.get? it=some o)(hc:o.cls=.type n)(hd:o.data=.fields vs)
  (hn:["enumerate","zip","dict_itemiterator","dict_reverseitemiterator","odict_iterator","itertools.zip_longest","itertools.pairwise"].contains n=false) (hQ:Q () s):wpAny M A (letOwnedTupleGo tg (.ref it) u) Q E s:=by
 unfold letOwnedTupleGo
 cases tg<;>first
  | exact wpAny_pure hQ
  | (cases u<;>first
    | exact wpAny_pure hQ
    | (refine wpAny_bind (wpAny_load ho ?_)
       rw[hc,hd]
       show wpAny M A (if(["enumerate","zip","dict_itemiterator","dict_reverseitemiterator","odict_iterator","itertools.zip_longest","itertools.pairwise"].contains n && vs[0]? == some (rawInt _))=true then _ else _) Q E s
       rw[if_neg (by intro h;rw[hn,Bool.false_and] at h;cases h)]
       exact wpAny_pure hQ))
def Itl(K:Frag)(a:Addr):It:=
 ⟨fun i H=>∃ xs x,SqL K H a xs∧xs[i]?=some x,fun i H x H'=>H'=H∧∀ xs,SqL K H a xs→xs[i]?=some x,fun i H=>∃ xs,SqL K H a xs∧xs.length≤i⟩
def Itt(K:Frag)(a:Addr):It:=
 ⟨fun i H=>∃ xs x,SqT K H a xs∧xs[i]?=some x,fun i H x H'=>H'=H∧∀ xs,SqT K H a xs→xs[i]?=some x,fun i H=>∃ xs,SqT K H a xs∧xs.length≤i⟩
def Itr(lo:Int)(n:Nat):It:=⟨fun i _=>i < n,fun i H x H'=>H'=H∧x=.int (lo+i),fun i _=>n≤i⟩
theorem sK{P:Program}{w:World}{K:Frag}{tg:Expr}(a it:Addr):Turn P w K tg (Itl K a) [it] it (fun i h=>h.IsListIter it a i) where
 mem:=by simp
 obj:=fun i h st b hb=>by
  have e:b=it:=by simpa using hb
  subst e
  obtain⟨o,e,c,d⟩:=st
  exact⟨o,e,fun v z=>by rw[d] at z;cases z⟩
 keep:=fun i h h' st k=>st.at fun o e=>k it (by simp) o e
 item:=by
  intro X hP hw hK hc i pins s σ H E I hf st hg
  subst hP hw hK
  obtain⟨xs,x,hq,hx⟩:=hg
  obtain⟨its,rv,p,hz⟩:=I.list hq
  obtain⟨u,hu,ru⟩:=rv.get hx
  obtain⟨f0,f1,f2,f3,f4,f5⟩:=hf it (by simp)
  refine wpAny_pyNext_list_item st p.isList (x:=u) (by simpa using hu) fun h' st' sb=>?_
  have I1:Inv X pins σ H { s with heap:=h' }:=I.turned (t':=s.toks) (fun b o hb e=>(sb.2 b hb).trans e) f0 f1 f3 f4 f5
  obtain⟨o,e,c,d⟩:=id st'
  exact⟨u,rfl,km (s:={ s with heap:=h' }) e c d (by decide) ⟨x,H,I1,ru,⟨rfl,fun ys hy=>by rw[I.list_inj hy hq];exact hx⟩,st',fun b hb=>(hf b hb).1⟩⟩
 done:=by
  intro X hP hw hK hc i pins s σ H E I hf st hg
  subst hP hw hK
  obtain⟨xs,hq,hx⟩:=hg
  obtain⟨its,rv,p,hz⟩:=I.list hq
  obtain⟨f0,f1,f2,f3,f4,f5⟩:=hf it (by simp)
  have hl:=rv.length
  exact wpAny_pyNext_list_end (I.ok.hd hc) st p.isList (by simp;omega) fun h' eb=>⟨rfl,I.turned (t':=s.toks) (fun b o hb e=>eb b o hb e) f0 f1 f3 f4 f5⟩
 self:=fun _ _ _ _ _ st h=>wpAny_pyIter_listiter st h
theorem pK{P:Program}{w:World}{K:Frag}{tg:Expr}(a it:Addr):Turn P w K tg (Itt K a) [it] it (fun i h=>h.IsTupleIter it a i) where
 mem:=by simp
 obj:=fun i h st b hb=>by
  have e:b=it:=by simpa using hb
  subst e
  obtain⟨o,e,c,d⟩:=st
  exact⟨o,e,fun v z=>by rw[d] at z;cases z⟩
 keep:=fun i h h' st k=>st.at fun o e=>k it (by simp) o e
 item:=by
  intro X hP hw hK hc i pins s σ H E I hf st hg
  subst hP hw hK
  obtain⟨xs,x,hq,hx⟩:=hg
  obtain⟨its,rv,p,hz⟩:=I.tuple hq
  obtain⟨u,hu,ru⟩:=rv.get hx
  obtain⟨f0,f1,f2,f3,f4,f5⟩:=hf it (by simp)
  refine wpAny_pyNext_tuple_item st (show s.heap.IsTuple a its.toArray from p) (x:=u) (by simpa using hu) fun h' st' sb=>?_
  have I1:Inv X pins σ H { s with heap:=h' }:=I.turned (t':=s.toks) (fun b o hb e=>(sb.2 b hb).trans e) f0 f1 f3 f4 f5
  obtain⟨o,e,c,d⟩:=id st'
  exact⟨u,rfl,km (s:={ s with heap:=h' }) e c d (by decide) ⟨x,H,I1,ru,⟨rfl,fun ys hy=>by rw[I.tuple_inj hy hq];exact hx⟩,st',fun b hb=>(hf b hb).1⟩⟩
 done:=by
  intro X hP hw hK hc i pins s σ H E I hf st hg
  subst hP hw hK
  obtain⟨xs,hq,hx⟩:=hg
  obtain⟨its,rv,p,hz⟩:=I.tuple hq
  obtain⟨f0,f1,f2,f3,f4,f5⟩:=hf it (by simp)
  have hl:=rv.length
  exact wpAny_pyNext_tuple_end (I.ok.hd hc) st (show s.heap.IsTuple a its.toArray from p) (by simp;omega) fun h' eb=>⟨rfl,I.turned (t':=s.toks) (fun b o hb e=>eb b o hb e) f0 f1 f3 f4 f5⟩
 self:=fun _ _ _ _ _ st h=>wpAny_pyIter_tupleiter st h
theorem pL{P:Program}{w:World}{K:Frag}{tg:Expr}(it:Addr)(lo:Int)(n:Nat):Turn P w K tg (Itr lo n) [it] it (fun i h=>IsRangeIter h it (lo+(i:Nat)*1) ((n:Int) - (i:Nat)) 1) where
 mem:=by simp
 obj:=fun i h st b hb=>by
  have e:b=it:=by simpa using hb
  subst e
  exact⟨_,st,fun v z=>by
   have z':Data.fields _=Data.cell v:=z
   cases z'⟩
 keep:=fun i h h' st k=>k it (by simp) _ st
 item:=by
  intro X hP hw hK hc i pins s σ H E I hf st hg
  subst hP hw hK
  obtain⟨f0,f1,f2,f3,f4,f5⟩:=hf it (by simp)
  have W:=Walks.range (prog:=X.prog) (w:=X.w) (I.ok.hd hc) it lo 1 n
  refine W.item i s _ _ hg st fun v h' tk hv st' kk=>?_
  obtain⟨t,rfl⟩:=hv
  have I1:Inv X pins σ H { s with heap:=h',toks:=tk }:=I.turned (fun b o hb e=>kk b o (by simpa using hb) e) f0 f1 f3 f4 f5
  refine⟨_,rfl,km (s:={ s with heap:=h',toks:=tk }) (n:="range_iterator") st' rfl rfl (by decide) ⟨.int (lo+i),H,I1,⟨t,?_⟩,⟨rfl,rfl⟩,st',fun b hb=>(hf b hb).1⟩⟩
  rw[Int.mul_one]
 done:=by
  intro X hP hw hK hc i pins s σ H E I hf st hg
  subst hP hw hK
  obtain⟨f0,f1,f2,f3,f4,f5⟩:=hf it (by simp)
  exact wpAny_pyNext_range_end (I.ok.hd hc) st (by have:n≤i:=hg;omega) fun h' eb=>⟨rfl,I.turned (t':=s.toks) (fun b o hb e=>eb b o hb e) f0 f1 f3 f4 f5⟩
 self:=fun _ _ _ _ _ st h=>wpAny_pyIter_rangeiter st h
section
variable{X:Cx}{tg:Expr}
def iList(K:Frag)(tl:TE):TI:=fun σ H R=>tl σ H fun x H1=>∃ a,x=.ref a∧(∃ xs,SqL K H1 a xs)∧R (Itl K a) H1
def iTup(K:Frag)(tl:TE):TI:=fun σ H R=>tl σ H fun x H1=>∃ a,x=.ref a∧(∃ xs,SqT K H1 a xs)∧R (Itt K a) H1
theorem be{l:Expr}{tl:TE}(hl:PE X l tl):PI X tg l (iList X.K tl):=by
 intro pins s σ H R I h
 refine thn (hl pins s σ H _ I h) fun v s1 ⟨x,H1,I1,r1,q1⟩=>?_
 obtain⟨a,e,⟨xs,hq⟩,q⟩:=q1
 subst e
 cases r1
 obtain⟨its,rv,p,hz⟩:=I1.list hq
 refine wpAny_pyIter_list p.isList ?_
 refine⟨s1.heap.objs.size,[s1.heap.objs.size],_,_,H1,rfl,I1.kept (t':=s1.toks) fun b o e=>Heap.get?_push_of_some _ e,sK a _,⟨_,Heap.get?_push_size _ rfl,rfl,rfl⟩,fun b hb=>?_,q⟩
 have e:b=s1.heap.objs.size:=by simpa using hb
 subst e
 exact I1.fpOk (Nat.le_refl _) (I1.hok.fresh (Nat.le_refl _))
theorem vc{l:Expr}{tl:TE}(hl:PE X l tl):PI X tg l (iTup X.K tl):=by
 intro pins s σ H R I h
 refine thn (hl pins s σ H _ I h) fun v s1 ⟨x,H1,I1,r1,q1⟩=>?_
 obtain⟨a,e,⟨xs,hq⟩,q⟩:=q1
 subst e
 cases r1
 obtain⟨its,rv,p,hz⟩:=I1.tuple hq
 refine wpAny_pyIter_tuple (show s1.heap.IsTuple a its.toArray from p) ?_
 refine⟨s1.heap.objs.size,[s1.heap.objs.size],_,_,H1,rfl,I1.kept (t':=s1.toks) fun b o e=>Heap.get?_push_of_some _ e,pK a _,⟨_,Heap.get?_push_size _ rfl,rfl,rfl⟩,fun b hb=>?_,q⟩
 have e:b=s1.heap.objs.size:=by simpa using hb
 subst e
 exact I1.fpOk (Nat.le_refl _) (I1.hok.fresh (Nat.le_refl _))
theorem uS{pins:List (Addr × Obj)}{σ:St}{H:Hp}{s:Shared}{R:It→Hp→Prop}{E:Value→Shared→Prop}{lo hi:Int}{t u v:Tok}{tk:Nat}(I:Inv X pins σ H s)(h1:-(2 ^ 62)≤lo)(h2:lo < 2 ^ 62)(h3:-(2 ^ 62)≤hi)(h4:hi < 2 ^ 62)
  (q:R (Itr lo (hi - lo).toNat) H):wpAny (model X.prog X.w) X.A (pyIter (.ref s.heap.objs.size)) (PIE X pins σ tg R) E { s with heap:=s.heap.push { cls:=.type "range",data:=.fields #[.int lo t,.int hi u,.int 1 v] },toks:=tk }:=by
 refine wpAny_pyIter_range (IsRange.new ..) (small_one h1 h2 h3 h4) ?_
 have I1:Inv X pins σ H { s with heap:=s.heap.push { cls:=.type "range",data:=.fields #[.int lo t,.int hi u,.int 1 v] },toks:=tk }:=I.kept fun b o e=>Heap.get?_push_of_some _ e
 refine⟨(s.heap.push { cls:=.type "range",data:=.fields #[.int lo t,.int hi u,.int 1 v] }).objs.size,[(s.heap.push { cls:=.type "range",data:=.fields #[.int lo t,.int hi u,.int 1 v] }).objs.size],_,_,H,rfl,
  I1.kept (t':=tk) fun b o e=>Heap.get?_push_of_some _ e,pL _ lo (hi - lo).toNat,?_,fun b hb=>?_,q⟩
 ·have e1:lo+((0:Nat):Int)*1=lo:=by simp
  have e2:(((hi - lo).toNat:Nat):Int) - ((0:Nat):Int)=Builtin.Range.rangeSize lo hi 1:=by rw[rangeSize_one];split<;>omega
  show IsRangeIter _ _ (lo+((0:Nat):Int)*1) ((((hi - lo).toNat:Nat):Int) - ((0:Nat):Int)) 1
  rw[e1,e2]
  exact Heap.get?_push_size _ rfl
 ·have e:b=(s.heap.push { cls:=.type "range",data:=.fields #[.int lo t,.int hi u,.int 1 v] }).objs.size:=by simpa using hb
  subst e
  exact I1.fpOk (Nat.le_refl _) (I1.hok.fresh (Nat.le_refl _))
def iRng1(ta:TA):TI:=fun σ H R=>ta σ H fun vs H1=>∃ j:Int,vs=[.int j]∧-(2 ^ 62)≤j∧j < 2 ^ 62∧R (Itr 0 j.toNat) H1
theorem bJ{a:Expr}{ta:TA}{p pos:Pos}(hg:Gl X "range")(hm:X.mg "range"=none)(ha:PA X [a] ta)(hs:starEach [a] X.env=[(false,eval a X.env)]:=by rfl):PI X tg (.Call (.Name "range" p) [a] [] pos) (iRng1 ta):=by
 intro pins s σ H R I h
 refine Call_ (j5 I hg hm boot_range (PyProof.Rows.callWith_type1 (thn (ha pos pins s σ H _ I h) fun us s1 ⟨vs,H1,I1,r1,q1⟩=>?_) hs rfl))
 obtain⟨j,e,q1,q2,q⟩:=q1
 subst e
 cases r1 with
 | cons r rr=>
  cases rr
  obtain⟨t,rfl⟩:=r
  exact call_range_1 (uS I1 (by omega) (by omega) q1 q2 (by simpa using q))
def tFor(wi:TI)(g:TG)(tb:TS):TS:=fun D σ H=>wi σ H fun J H1=>∃ W:Nat→Nat→St→Hp→Prop,(∃ m,W 0 m σ H1)∧∀ i m σ H,W i m σ H→
 (J.stop i H∧D.nx σ H)∨(J.go i H∧∃ N:St→Hp→Prop,(∀ σ' H',N σ' H'→∃ m',m' < m∧W (i+1) m' σ' H')∧∀ x H',J.yld i H x H'→g x σ H' fun σ2 H2=>tb { D with nx:=N,ct:=N,bk:=D.nx } σ2 H2)
def gY(fp:List Addr)(h:Heap):List (Addr × Obj):=fp.filterMap fun b=>(h.get? b).map fun o=>(b,o)
theorem dQ{fp:List Addr}{h:Heap}{b:Addr}{o:Obj}(hb:b∈fp)(e:h.get? b=some o):(b,o)∈gY fp h:=List.mem_filterMap.mpr ⟨b,hb,by rw[e];rfl⟩
theorem tL{fp:List Addr}{h:Heap}{p:Addr × Obj}(hp:p∈gY fp h):p.1∈fp∧h.get? p.1=some p.2:=by
 obtain⟨b,hb,e⟩:=List.mem_filterMap.mp hp
 cases q:h.get? b with
 | none=>rw[q] at e;cases e
 | some o=>
  rw[q] at e
  have e':(b,o)=p:=Option.some.inj e
  subst e'
  exact⟨hb,q⟩
theorem Inv.pinned{pins:List (Addr × Obj)}{σ:St}{H:Hp}{s:Shared}{fp:List Addr}(I:Inv X pins σ H s)(hf:∀ b∈fp,FpOk X pins H b)(ho:∀ b∈fp,∃ o,s.heap.get? b=some o∧∀ v,o.data≠.cell v):Inv X (pins++gY fp s.heap) σ H s:=
 I.pins_of fun p hp=>(mem_append.mp hp).elim (fun z=>I.pin p (mem_append_right _ z)) fun z=>by
  obtain⟨hb,e⟩:=tL z
  obtain⟨f0,f1,f2,_⟩:=hf p.1 hb
  obtain⟨o,e',d⟩:=ho p.1 hb
  rw[e] at e';cases e'
  exact⟨e,f0,f1,f2,d⟩
theorem Inv.unpinned{pins pl:List (Addr × Obj)}{σ:St}{H:Hp}{s:Shared}(I:Inv X (pins++pl) σ H s):Inv X pins σ H s:=I.pins_of fun p hp=>I.pin p (mem_append_right _ (mem_append_left _ hp))
theorem bx{iter:Expr}{body:List Stmt}{wi:TI}{g:TG}{tb:TS}{pos:Pos}(hp:PassesOwn (model X.prog X.w) X.A X.env X.xe)(hc:X.calm=true)(hi:PI X tg iter wi)(hg:PG X tg g)(hb:PSs X body tb)
  (hs:∀ x,foldedSetIterable iter X.env x=pure x:=by intro _;rfl):PS X (.For tg iter body [] pos) (tFor wi g tb):=by
 intro pins s σ H D I h
 refine wpAny_For (thn (hi pins s σ H _ I h) fun v s1 h1=>thn h1 fun itv s2 h2=>?_) hs
 obtain⟨it,fp,tn,J,H2,e,I2,T,st2,f2,W,⟨m0,w0⟩,turn⟩:=h2
 subst e
 have stat:∀ {H':Hp},(∀ b∈fp,H' b=none)→∀ b∈fp,FpOk X pins H' b:=fun hn b hb=>⟨hn b hb,(f2 b hb).2⟩
 refine codeAny_forLoop_any (fun n s'=>∃ i σ' H',Inv X pins σ' H' s'∧tn i s'.heap∧(∀ b∈fp,H' b=none)∧W i n σ' H') ?_ m0 ⟨0,σ,H2,I2,st2,fun b hb=>(f2 b hb).1,w0⟩
 rintro n s3 ⟨i,σ3,H3,I3,st3,fr3,w3⟩
 rcases turn i n σ3 H3 w3 with⟨stop,qn⟩ | ⟨go,N,hN,step⟩
 ·refine wpAny_passesOwn hp (thn (T.done X rfl rfl rfl hc i pins s3 σ3 H3 X.xe I3 (stat fr3) st3 stop) fun r s4 ⟨hr,I4⟩=>?_)
  subst hr
  exact wpAny_execs_nil ⟨σ3,H3,I4,qn⟩
 ·refine wpAny_passesOwn hp (thn (T.item X rfl rfl rfl hc i pins s3 σ3 H3 X.xe I3 (stat fr3) st3 go) fun r s4 ⟨u,hr,h4⟩=>?_)
  subst hr
  refine wpAny_passesOwn hp (thn h4 fun _ s5 ⟨x,H5,I5,r5,y5,st5,fr5⟩=>?_)
  have I5':=I5.pinned (stat fr5) (T.obj _ _ st5)
  refine wpAny_passesOwn hp (thn (hg _ s5 σ3 H5 x u _ I5' r5 (step x H5 y5)) fun _ s6 ⟨σ6,H6,I6,q6⟩=>?_)
  refine wpAny_passesOwn hp (thn (hb _ s6 σ6 H6 _ I6 q6) fun f s7 q7=>?_)
  have again:∀ {σ7:St} {H7:Hp},Inv X (pins++gY fp s5.heap) σ7 H7 s7→N σ7 H7→∃ m,m < n∧∃ i σ' H',Inv X pins σ' H' s7∧tn i s7.heap∧(∀ b∈fp,H' b=none)∧W i m σ' H':=fun {σ7 H7} I7 n7=>by
   obtain⟨m',hm,w7⟩:=hN σ7 H7 n7
   refine⟨m',hm,i+1,σ7,H7,I7.unpinned,T.keep _ _ _ st5 fun b hb o e=>(I7.pin (b,o) (mem_append_right _ (mem_append_right _ (dQ hb e)))).1,fun b hb=>?_,w7⟩
   obtain⟨o,e,d⟩:=T.obj _ _ st5 b hb
   exact(I7.pin (b,o) (mem_append_right _ (mem_append_right _ (dQ hb e)))).2.1
  cases f with
  | next=>obtain⟨σ7,H7,I7,n7⟩:=q7;exact again I7 n7
  | cont=>obtain⟨σ7,H7,I7,n7⟩:=q7;exact again I7 n7
  | brk=>obtain⟨σ7,H7,I7,q7⟩:=q7;exact⟨σ7,H7,I7.unpinned,q7⟩
  | ret v=>obtain⟨x7,σ7,H7,I7,r7,q7⟩:=q7;exact⟨x7,σ7,H7,I7.unpinned,r7,q7⟩
end
theorem bP{K:Frag}{a:Addr}{xs:List V}{g:TG}{tb:TS}{D:Ends}{σ:St}{H:Hp}(Pv:Nat→St→Hp→Prop)(h0:Pv 0 σ H)(hl:∀ i σ H,i≤xs.length→Pv i σ H→SqL K H a xs)
  (hs:∀ i x σ H,xs[i]?=some x→Pv i σ H→g x σ H fun σ2 H2=>tb { D with nx:=Pv (i+1),ct:=Pv (i+1),bk:=D.nx } σ2 H2) (hd:∀ σ H,Pv xs.length σ H→D.nx σ H) :
  ∃ W:Nat→Nat→St→Hp→Prop,(∃ m,W 0 m σ H)∧∀ i m σ H,W i m σ H→
   ((Itl K a).stop i H∧D.nx σ H)∨((Itl K a).go i H∧∃ N:St→Hp→Prop,(∀ σ' H',N σ' H'→∃ m',m' < m∧W (i+1) m' σ' H')∧∀ x H',(Itl K a).yld i H x H'→g x σ H' fun σ2 H2=>tb { D with nx:=N,ct:=N,bk:=D.nx } σ2 H2):=by
 refine⟨fun i m σ H=>m=xs.length - i∧i≤xs.length∧Pv i σ H,⟨xs.length,by simp,Nat.zero_le _,h0⟩,?_⟩
 rintro i m σ H ⟨rfl,hi,p⟩
 have q:=hl i σ H hi p
 by_cases hlt:i < xs.length
 ·refine .inr ⟨⟨xs,xs[i],q,by simp[hlt]⟩,Pv (i+1),fun σ' H' p'=>⟨xs.length - (i+1),by omega,rfl,hlt,p'⟩,fun x H' y=>?_⟩
  obtain⟨e,y⟩:=y
  subst e
  exact hs i x σ _ (y xs q) p
 ·have e:i=xs.length:=by omega
  subst e
  exact .inl ⟨⟨xs,q,Nat.le_refl _⟩,hd σ H p⟩
theorem ft{lo:Int}{n:Nat}{g:TG}{tb:TS}{D:Ends}{σ:St}{H:Hp}(Pv:Nat→St→Hp→Prop)(h0:Pv 0 σ H)
  (hs:∀ i σ H,i < n→Pv i σ H→g (.int (lo+i)) σ H fun σ2 H2=>tb { D with nx:=Pv (i+1),ct:=Pv (i+1),bk:=D.nx } σ2 H2) (hd:∀ σ H,Pv n σ H→D.nx σ H) :
  ∃ W:Nat→Nat→St→Hp→Prop,(∃ m,W 0 m σ H)∧∀ i m σ H,W i m σ H→
   ((Itr lo n).stop i H∧D.nx σ H)∨((Itr lo n).go i H∧∃ N:St→Hp→Prop,(∀ σ' H',N σ' H'→∃ m',m' < m∧W (i+1) m' σ' H')∧∀ x H',(Itr lo n).yld i H x H'→g x σ H' fun σ2 H2=>tb { D with nx:=N,ct:=N,bk:=D.nx } σ2 H2):=by
 refine⟨fun i m σ H=>m=n - i∧i≤n∧Pv i σ H,⟨n,by simp,Nat.zero_le _,h0⟩,?_⟩
 rintro i m σ H ⟨rfl,hi,p⟩
 by_cases hlt:i < n
 ·refine .inr ⟨hlt,Pv (i+1),fun σ' H' p'=>⟨n - (i+1),by omega,rfl,hlt,p'⟩,fun x H' y=>?_⟩
  obtain⟨e,y⟩:=y
  subst e y
  exact hs i σ _ hlt p
 ·have e:i=n:=by omega
  subst e
  exact .inl ⟨Nat.le_refl _,hd σ H p⟩
abbrev R2:=V→V→Hp→VK→Prop
def OpR(X:Cx)(f:Value→Value→Sem Value)(r:R2):Prop:=
 ∀ (pins:List (Addr × Obj)) (s:Shared) (σ:St) (H:Hp) (x y:V) (v u:Value) (Q:VK),Inv X pins σ H s→RelV x v→RelV y u→r x y H Q→
  wpAny (model X.prog X.w) X.A (f v u) (EP X pins σ Q) X.xe s
def UnR(X:Cx)(f:Value→Sem Value)(r:V→Hp→VK→Prop):Prop:=
 ∀ (pins:List (Addr × Obj)) (s:Shared) (σ:St) (H:Hp) (x:V) (v:Value) (Q:VK),Inv X pins σ H s→RelV x v→r x H Q→
  wpAny (model X.prog X.w) X.A (f v) (EP X pins σ Q) X.xe s
def fK(X:Cx)(f:Value)(r:List V→Hp→VK→Prop):Prop:=
 ∀ (pins:List (Addr × Obj)) (s:Shared) (σ:St) (H:Hp) (xs:List V) (us:List Value) (Q:VK),Inv X pins σ H s→Vals xs us→r xs H Q→
  wpAny (model X.prog X.w) X.A (call f us) (EP X pins σ Q) X.xe s
def TruR(X:Cx)(r:V→Hp→(Bool→Hp→Prop)→Prop):Prop:=
 ∀ (pins:List (Addr × Obj)) (s:Shared) (σ:St) (H:Hp) (x:V) (v:Value) (Q:Bool→Hp→Prop),Inv X pins σ H s→RelV x v→r x H Q→
  wpAny (model X.prog X.w) X.A (truthy v) (TP X pins σ Q) X.xe s
def tOp(r:R2)(ta tb:TE):TE:=fun σ H Q=>ta σ H fun x H1=>tb σ H1 fun y H2=>r x y H2 Q
def tUn(r:V→Hp→VK→Prop)(ta:TE):TE:=fun σ H Q=>ta σ H fun x H1=>r x H1 Q
def rI(C:Int→Int→Prop)(g:Int→Int→V):R2:=fun x y H Q=>∃ i j,x=.int i∧y=.int j∧C i j∧Q (g i j) H
def rI0(g:Int→Int→V):R2:=fun x y H Q=>∃ i j,x=.int i∧y=.int j∧Q (g i j) H
def rU(g:Int→V):V→Hp→VK→Prop:=fun x H Q=>∃ i,x=.int i∧Q (g i) H
section
variable{X:Cx}{a b c:Expr}{ta tb tc:TE}{pos:Pos}
theorem binT(ha:PE X a ta)(hb:PE X b tb){pins:List (Addr × Obj)}{s:Shared}{σ:St}{H:Hp}{R:V→V→Hp→Prop}(I:Inv X pins σ H s)
  (h:ta σ H fun x H1=>tb σ H1 fun y H2=>R x y H2) {Q:Value→Shared→Prop} {f:Value→Value→Sem Value}
  (hf:∀ v u s2 x y H2,Inv X pins σ H2 s2→RelV x v→RelV y u→R x y H2→wpAny (model X.prog X.w) X.A (f v u) Q X.xe s2) :
  wpAny (model X.prog X.w) X.A (eval a X.env) (fun v s₁=>wpAny (model X.prog X.w) X.A (eval b X.env) (fun u s₂=>wpAny (model X.prog X.w) X.A (f v u) Q X.xe s₂) X.xe s₁) X.xe s:=by
 refine thn (ha pins s σ H _ I h) fun v s1 ⟨x,H1,I1,r1,q1⟩=>?_
 refine thn (hb pins s1 σ H1 _ I1 q1) fun u s2 ⟨y,H2,I2,r2,q2⟩=>?_
 exact hf v u s2 x y H2 I2 r1 r2 q2
theorem bG{op:Operator}{r:R2}(ho:OpR X (binaryOp op) r)(ha:PE X a ta)(hb:PE X b tb):PE X (.BinOp a op b pos) (tOp r ta tb):=by
 intro pins s σ H Q I h
 exact wpAny_BinOp (binT ha hb I h fun v u s2 x y H2 I2 rx ry q=>ho pins s2 σ H2 x y v u Q I2 rx ry q)
theorem pe_un{op:UnaryOp}{r:V→Hp→VK→Prop}(ho:UnR X (unaryOp op) r)(ha:PE X a ta):PE X (.UnaryOp op a pos) (tUn r ta):=by
 intro pins s σ H Q I h
 exact UnaryOp_ (thn (ha pins s σ H _ I h) fun v s1 ⟨x,H1,I1,r1,q1⟩=>ho pins s1 σ H1 x v Q I1 r1 q1)
theorem opI{f:Value→Value→Sem Value}{C:Int→Int→Prop}{g:Int→Int→Int}
  (rule:∀ (i j:Int) (t u:Tok) (s:Shared) (Q:Value→Shared→Prop) (E:Value→Shared→Prop),C i j→Q (.int (g i j) s.toks) { s with toks:=s.toks+1 }→wpAny (model X.prog X.w) X.A (f (.int i t) (.int j u)) Q E s) :
  OpR X f (rI C fun i j=>.int (g i j)):=by
 intro pins s σ H x y v u Q I rx ry h
 obtain⟨i,j,rfl,rfl,hc,q⟩:=h
 obtain⟨t,rfl⟩:=rx
 obtain⟨t',rfl⟩:=ry
 exact rule i j t t' s _ _ hc ⟨.int (g i j),H,I.tok _,⟨_,rfl⟩,q⟩
theorem opI0{f:Value→Value→Sem Value}{g:Int→Int→Int}
  (rule:∀ (i j:Int) (t u:Tok) (s:Shared) (Q:Value→Shared→Prop) (E:Value→Shared→Prop),Q (.int (g i j) s.toks) { s with toks:=s.toks+1 }→wpAny (model X.prog X.w) X.A (f (.int i t) (.int j u)) Q E s) :
  OpR X f (rI0 fun i j=>.int (g i j)):=by
 intro pins s σ H x y v u Q I rx ry h
 obtain⟨i,j,rfl,rfl,q⟩:=h
 obtain⟨t,rfl⟩:=rx
 obtain⟨t',rfl⟩:=ry
 exact rule i j t t' s _ _ ⟨.int (g i j),H,I.tok _,⟨_,rfl⟩,q⟩
theorem opB0{f:Value→Value→Sem Value}{g:Int→Int→Bool}
  (rule:∀ (i j:Int) (t u:Tok) (s:Shared) (Q:Value→Shared→Prop) (E:Value→Shared→Prop),Q (.bool (g i j)) s→wpAny (model X.prog X.w) X.A (f (.int i t) (.int j u)) Q E s) :
  OpR X f (rI0 fun i j=>.bl (g i j)):=by
 intro pins s σ H x y v u Q I rx ry h
 obtain⟨i,j,rfl,rfl,q⟩:=h
 obtain⟨t,rfl⟩:=rx
 obtain⟨t',rfl⟩:=ry
 exact rule i j t t' s _ _ ⟨.bl (g i j),H,I,rfl,q⟩
def CDiv(i j:Int):Prop:=0 < j∧j < 1073741824
def CPow(i j:Int):Prop:=0≤j∧j≤1000000∧i.natAbs < 2 ^ 64
theorem cX:OpR X (binaryOp .Add) (rI0 fun i j=>.int (i+j)):=opI0 fun _ _ _ _ _ _ _ q=>add_int q
theorem jQ:OpR X (binaryOp .Sub) (rI0 fun i j=>.int (i - j)):=opI0 fun _ _ _ _ _ _ _ q=>sub_int q
theorem wX:OpR X (binaryOp .FloorDiv) (rI CDiv fun i j=>.int (i / j)):=opI fun i j _ _ _ _ _ hc q=>by
 have h1:(0:Int) < j:=hc.1
 have h2:j < 1073741824:=hc.2
 exact floordiv_int (by omega) (by rw[Int.fdiv_eq_ediv_of_nonneg i (by omega)];exact q) (.inl (PyProof.noPylong_small (by omega)))
theorem vm:OpR X (binaryOp .LShift) (rI CPow fun i j=>.int (i*2 ^ j.toNat)):=opI fun _ _ _ _ _ _ _ hc q=>lshift_int_small hc.1 hc.2.1 hc.2.2 q
theorem qk:OpR X (binaryOp .BitAnd) (rI0 fun i j=>.int (Builtin.bitAnd i j)):=opI0 fun _ _ _ _ _ _ _ q=>and_int q
theorem unI{f:Value→Sem Value}{g:Int→Int}
  (rule:∀ (i:Int) (t:Tok) (s:Shared) (Q:Value→Shared→Prop) (E:Value→Shared→Prop),Q (.int (g i) s.toks) { s with toks:=s.toks+1 }→wpAny (model X.prog X.w) X.A (f (.int i t)) Q E s) :
  UnR X f (rU fun i=>.int (g i)):=by
 intro pins s σ H x v Q I rx h
 obtain⟨i,rfl,q⟩:=h
 obtain⟨t,rfl⟩:=rx
 exact rule i t s _ _ ⟨.int (g i),H,I.tok _,⟨_,rfl⟩,q⟩
theorem un_neg:UnR X (unaryOp .USub) (rU fun i=>.int (-i)):=unI fun _ _ _ _ _ q=>neg_int q
end
def scal:V→V→Bool
 | .non,.non=>true | .non,.int _=>true | .int _,.non=>true | .non,.bl _=>true | .bl _,.non=>true | .non,.str _=>true | .str _,.non=>true
 | .int _,.int _=>true | .bl _,.bl _=>true | .str _,.str _=>true | .byt _,.byt _=>true
 | .int _,.str _=>true | .str _,.int _=>true | .bl _,.str _=>true | .str _,.bl _=>true
 | _,_=>false
def rEq:R2:=fun x y H Q=>scal x y=true∧Q (.bl (decide (x=y))) H
def rNe:R2:=fun x y H Q=>scal x y=true∧Q (.bl (!decide (x=y))) H
theorem bU{i j:Int}:decide (V.int i=V.int j)=(i == j):=by
 rw[Bool.eq_iff_iff]
 simp
theorem wm{i j:Bool}:decide (V.bl i=V.bl j)=(i == j):=by
 rw[Bool.eq_iff_iff]
 simp
theorem sf{i j:Str}:decide (V.str i=V.str j)=(i == j):=by
 rw[Bool.eq_iff_iff]
 simp
theorem sg{i j:Array UInt8}:decide (V.byt i=V.byt j)=(i.toList == j.toList):=by
 rw[Bool.eq_iff_iff]
 cases i
 cases j
 simp
section
variable{X:Cx}{a b c:Expr}{ta tb tc:TE}{pos:Pos}
theorem aZ{pins:List (Addr × Obj)}{σ:St}{H:Hp}{s:Shared}{Q:VK}{k k':Bool}(I:Inv X pins σ H s)(q:Q (.bl k) H)(e:k=k'):EP X pins σ Q (.bool k') s:=by
 subst e
 exact⟨.bl k,H,I,rfl,q⟩
theorem bY:OpR X (compareOp .Eq) rEq:=by
 intro pins s σ H x y v u Q I rx ry h
 obtain⟨hs,q⟩:=h
 cases x with
 | non=>
  cases rx
  cases y with
  | non=>cases ry;exact PySem.EqNone.eq_none_none (aZ I q (by simp))
  | bl j=>cases ry;exact PySem.EqNone.eq_none_bool (aZ I q (by simp))
  | int j=>obtain⟨t',rfl⟩:=ry;exact PySem.EqNone.eq_none_int (aZ I q (by simp))
  | str j=>obtain⟨t',rfl⟩:=ry;exact PySem.EqNone.eq_none_str (aZ I q (by simp))
  | _=>exact absurd (show false=true from hs) Bool.false_ne_true
 | bl i=>
  cases rx
  cases y with
  | non=>cases ry;exact PySem.EqNone.eq_bool_none (aZ I q (by simp))
  | bl j=>cases ry;exact eq_bool (aZ I q wm)
  | str j=>obtain⟨t',rfl⟩:=ry;exact PySem.EqMixed.eq_bool_str (aZ I q (by simp))
  | _=>exact absurd (show false=true from hs) Bool.false_ne_true
 | int i=>
  obtain⟨t,rfl⟩:=rx
  cases y with
  | non=>cases ry;exact PySem.EqNone.eq_int_none (aZ I q (by simp))
  | int j=>obtain⟨t',rfl⟩:=ry;exact eq_int (aZ I q bU)
  | str j=>obtain⟨t',rfl⟩:=ry;exact PySem.EqMixed.eq_int_str (aZ I q (by simp))
  | _=>exact absurd (show false=true from hs) Bool.false_ne_true
 | str i=>
  obtain⟨t,rfl⟩:=rx
  cases y with
  | non=>cases ry;exact PySem.EqNone.eq_str_none (aZ I q (by simp))
  | bl j=>cases ry;exact PySem.EqMixed.eq_str_bool (aZ I q (by simp))
  | int j=>obtain⟨t',rfl⟩:=ry;exact PySem.EqMixed.eq_str_int (aZ I q (by simp))
  | str j=>obtain⟨t',rfl⟩:=ry;exact eq_str (aZ I q sf)
  | _=>exact absurd (show false=true from hs) Bool.false_ne_true
 | byt i=>
  obtain⟨t,rfl⟩:=rx
  cases y with
  | byt j=>obtain⟨t',rfl⟩:=ry;exact PySem.W.eq_bytes (aZ I q sg)
  | _=>exact absurd (show false=true from hs) Bool.false_ne_true
 | _=>cases y<;>exact absurd (show false=true from hs) Bool.false_ne_true
theorem vn:OpR X (compareOp .NotEq) rNe:=by
 intro pins s σ H x y v u Q I rx ry h
 obtain⟨hs,q⟩:=h
 cases x with
 | non=>
  cases rx
  cases y with
  | non=>cases ry;exact PySem.EqNone.ne_none_none (aZ I q (by simp))
  | bl j=>cases ry;exact PySem.EqNone.ne_none_bool (aZ I q (by simp))
  | int j=>obtain⟨t',rfl⟩:=ry;exact PySem.EqNone.ne_none_int (aZ I q (by simp))
  | str j=>obtain⟨t',rfl⟩:=ry;exact PySem.EqNone.ne_none_str (aZ I q (by simp))
  | _=>exact absurd (show false=true from hs) Bool.false_ne_true
 | bl i=>
  cases rx
  cases y with
  | non=>cases ry;exact PySem.EqNone.ne_bool_none (aZ I q (by simp))
  | bl j=>cases ry;exact ne_bool (aZ I q (congrArg not wm))
  | str j=>obtain⟨t',rfl⟩:=ry;exact PySem.EqMixed.ne_bool_str (aZ I q (by simp))
  | _=>exact absurd (show false=true from hs) Bool.false_ne_true
 | int i=>
  obtain⟨t,rfl⟩:=rx
  cases y with
  | non=>cases ry;exact PySem.EqNone.ne_int_none (aZ I q (by simp))
  | int j=>obtain⟨t',rfl⟩:=ry;exact ne_int (aZ I q (congrArg not bU))
  | str j=>obtain⟨t',rfl⟩:=ry;exact PySem.EqMixed.ne_int_str (aZ I q (by simp))
  | _=>exact absurd (show false=true from hs) Bool.false_ne_true
 | str i=>
  obtain⟨t,rfl⟩:=rx
  cases y with
  | non=>cases ry;exact PySem.EqNone.ne_str_none (aZ I q (by simp))
  | bl j=>cases ry;exact PySem.EqMixed.ne_str_bool (aZ I q (by simp))
  | int j=>obtain⟨t',rfl⟩:=ry;exact PySem.EqMixed.ne_str_int (aZ I q (by simp))
  | str j=>obtain⟨t',rfl⟩:=ry;exact ne_str (aZ I q (congrArg not sf))
  | _=>exact absurd (show false=true from hs) Bool.false_ne_true
 | byt i=>
  obtain⟨t,rfl⟩:=rx
  cases y with
  | byt j=>obtain⟨t',rfl⟩:=ry;exact PySem.W.ne_bytes (aZ I q (congrArg not sg))
  | _=>exact absurd (show false=true from hs) Bool.false_ne_true
 | _=>cases y<;>exact absurd (show false=true from hs) Bool.false_ne_true
theorem iI:OpR X (compareOp .Lt) (rI0 fun i j=>.bl (decide (i < j))):=opB0 fun _ _ _ _ _ _ _ q=>lt_int q
theorem iJ:OpR X (compareOp .LtE) (rI0 fun i j=>.bl (decide (i≤j))):=opB0 fun _ _ _ _ _ _ _ q=>le_int q
theorem op_gt:OpR X (compareOp .Gt) (rI0 fun i j=>.bl (decide (j < i))):=opB0 fun _ _ _ _ _ _ _ q=>gt_int q
theorem aR(b:Expr){op:CmpOp}(h:op≠.In:=by decide)(h2:op≠.NotIn:=by decide):behindInMarks op b=false:=by
 have e1:(op == CmpOp.In)=false:=by cases op<;>first | rfl | exact absurd rfl h
 have e2:(op == CmpOp.NotIn)=false:=by cases op<;>first | rfl | exact absurd rfl h2
 cases b<;>simp[behindInMarks,e1,e2]
theorem gk{op:CmpOp}{r:R2}(ho:OpR X (compareOp op) r)(ha:PE X a ta)(hb:PE X b tb)(hm:behindInMarks op b=false):PE X (.Compare a [op] [b] pos) (tOp r ta tb):=by
 intro pins s σ H Q I h
 exact wpAny_Compare1 (binT ha hb I h fun v u s2 x y H2 I2 rx ry q=>ho pins s2 σ H2 x y v u Q I2 rx ry q) hm
def fE(t:TE):TT:=fun σ H Q=>t σ H fun x H'=>∃ k,x=.bl k∧Q k H'
theorem aL{op:CmpOp}{r:R2}(ho:OpR X (compareOp op) r)(ha:PE X a ta)(hb:PE X b tb)(hm:behindInMarks op b=false):PT X (.Compare a [op] [b] pos) (fE (tOp r ta tb)):=by
 intro pins s σ H Q I h
 refine wpAny_isTrue_Compare1 (thn (ha pins s σ H _ I h) fun v s1 ⟨x,H1,I1,r1,q1⟩=>thn (hb pins s1 σ H1 _ I1 q1) fun u s2 ⟨y,H2,I2,r2,q2⟩=>
  thn (ho pins s2 σ H2 x y v u _ I2 r1 r2 q2) fun c s3 ⟨z,H3,I3,r3,k,e,q3⟩=>?_) hm
 subst e
 cases r3
 exact wpAny_truthy_bool ⟨H3,I3,q3⟩
def um(r r':R2)(ta tb tc:TE):TE:=fun σ H Q=>ta σ H fun x H1=>tb σ H1 fun y H2=>r x y H2 fun z H3=>∃ k,z=.bl k∧
 (if k=true then tc σ H3 fun w' H4=>r' y w' H4 Q else Q (.bl false) H3)
theorem dF{op op':CmpOp}{r r':R2}(ho:OpR X (compareOp op) r)(ho':OpR X (compareOp op') r')(ha:PE X a ta)(hb:PE X b tb)(hc:PE X c tc)
  (hm:lastMarks [op,op'] [b,c]=false:=by with_unfolding_all rfl):PE X (.Compare a [op,op'] [b,c] pos) (um r r' ta tb tc):=by
 intro pins s σ H Q I h
 refine Compare_chain (thn (ha pins s σ H _ I h) fun v s1 ⟨x,H1,I1,r1,q1⟩=>chain_link (thn (hb pins s1 σ H1 _ I1 q1) fun u s2 ⟨y,H2,I2,r2,q2⟩=>
  thn (ho pins s2 σ H2 x y v u _ I2 r1 r2 q2) fun d s3 ⟨z,H3,I3,r3,k,e,q3⟩=>?_)) hm
 subst e
 cases r3
 refine wpAny_truthy_bool ?_
 cases k with
 | false=>exact ite_ff ⟨.bl false,H3,I3,rfl,q3⟩
 | true=>exact ite_tt (chain_last (thn (hc pins s3 σ H3 _ I3 q3) fun w' s4 ⟨z',H4,I4,r4,q4⟩=>ho' pins s4 σ H4 y z' u w' Q I4 r2 r4 q4))
theorem u4{op op':CmpOp}{r r':R2}(ho:OpR X (compareOp op) r)(ho':OpR X (compareOp op') r')(ha:PE X a ta)(hb:PE X b tb)(hc:PE X c tc)
  (hm:lastMarks [op,op'] [b,c]=false:=by with_unfolding_all rfl):PT X (.Compare a [op,op'] [b,c] pos) (fE (um r r' ta tb tc)):=by
 intro pins s σ H Q I h
 refine isTrue_chain (thn (ha pins s σ H _ I h) fun v s1 ⟨x,H1,I1,r1,q1⟩=>test_link (thn (hb pins s1 σ H1 _ I1 q1) fun u s2 ⟨y,H2,I2,r2,q2⟩=>
  thn (ho pins s2 σ H2 x y v u _ I2 r1 r2 q2) fun d s3 ⟨z,H3,I3,r3,k,e,q3⟩=>?_)) hm
 subst e
 cases r3
 refine wpAny_truthy_bool ?_
 cases k with
 | false=>
  obtain⟨k',e',q'⟩:=q3
  cases e'
  exact ite_ff ⟨H3,I3,q'⟩
 | true=>
  refine ite_tt (test_last (thn (hc pins s3 σ H3 _ I3 q3) fun w' s4 ⟨z',H4,I4,r4,q4⟩=>thn (ho' pins s4 σ H4 y z' u w' _ I4 r2 r4 q4) fun d' s5 ⟨z2,H5,I5,r5,k2,e2,q5⟩=>?_))
  subst e2
  cases r5
  exact wpAny_truthy_bool ⟨H5,I5,q5⟩
def TruV(K:Frag)(x:V)(H:Hp)(k:Bool):Prop:=
 match x with
 | .non=>k=false
 | .bl b=>k=b
 | .int i=>k=(i != 0)
 | .str y=>y.length≤sizeLine∧k=((y.length:Int) != 0)
 | .byt y=>y.size≤sizeLine∧k=((y.size:Int) != 0)
 | .ref p=>(∃ xs,SqL K H p xs∧k=!xs.isEmpty)∨(∃ xs,SqT K H p xs∧k=!xs.isEmpty)∨∃ kvs,H p=some (.dK kvs)∧k=!kvs.isEmpty
 | _=>False
theorem qI{κ:Type}{kvs:List (κ × V)}{vs:List (κ × Value)}(r:KV kvs vs):(!vs.isEmpty)=!kvs.isEmpty:=by
 cases r<;>rfl
theorem ki{xs:List V}{its:List Value}(r:Vals xs its):(!its.toArray.isEmpty)=!xs.isEmpty:=by
 cases r<;>simp
theorem jZ:(sizeLine:Nat) < 2 ^ 63:=by rw[sizeLine_eq];decide
theorem tru_ok:TruR X (fun x H Q=>∃ k,TruV X.K x H k∧Q k H):=by
 intro pins s σ H x v Q I rx h
 obtain⟨k,e,q⟩:=h
 have hl:=jZ
 have hs:sizeLine=16777216:=sizeLine_eq
 cases x with
 | non=>
  cases rx
  have e':k=false:=e
  subst e'
  exact truthy_none ⟨H,I,q⟩
 | bl b=>
  cases rx
  have e':k=b:=e
  subst e'
  exact wpAny_truthy_bool ⟨H,I,q⟩
 | int i=>
  obtain⟨t,rfl⟩:=rx
  have e':k=(i != 0):=e
  subst e'
  exact PySem.P.truthy_int ⟨H,I,q⟩
 | str y=>
  obtain⟨t,rfl⟩:=rx
  obtain⟨hy,e'⟩:y.length≤sizeLine∧k=((y.length:Int) != 0):=e
  subst e'
  exact PySem.P.truthy_str (by omega) ⟨H,I.tok _,q⟩
 | byt y=>
  obtain⟨t,rfl⟩:=rx
  obtain⟨hy,e'⟩:y.size≤sizeLine∧k=((y.size:Int) != 0):=e
  subst e'
  exact PySem.W.truthy_bytes (by omega) ⟨H,I.tok _,q⟩
 | ref p=>
  cases rx
  have e':(∃ xs,SqL X.K H p xs∧k=!xs.isEmpty)∨(∃ xs,SqT X.K H p xs∧k=!xs.isEmpty)∨∃ kvs,H p=some (.dK kvs)∧k=!kvs.isEmpty:=e
  rcases e' with⟨xs,hx,e'⟩ | ⟨xs,hx,e'⟩ | ⟨kvs,hx,e'⟩
  ·subst e'
   obtain⟨its,r,pl,hz⟩:=I.list hx
   have hlen:=r.length
   exact wpAny_truthy_list pl.isList (by simp only[size_toArray];omega) ⟨H,I.tok _,by rw[ki r];exact q⟩
  ·subst e'
   obtain⟨its,r,pl,hz⟩:=I.tuple hx
   have hlen:=r.length
   exact truthy_tuple pl (by simp only[size_toArray];omega) ⟨H,I.tok _,by rw[ki r];exact q⟩
  ·subst e'
   obtain⟨hz,hS,vs,r,m⟩:kvs.length≤sizeLine∧(p == sysModules)=false∧∃ vs,KV kvs vs∧s.heap.DictOf (bj X.prog X.w) p vs:=I.hok p _ hx
   have hlen:kvs.length=vs.length:=Paired.length r
   exact wpAny_truthy_dict hS m (by omega) ⟨H,I.tok _,by rw[qI r];exact q⟩
 | _=>exact(show False from e).elim
theorem uZ(ha:PE X a ta)(he:∀ whole,isTrue a X.env whole=(do let v←whole;standAt a.pos;holding [v] (truthy v))) :
  PT X a (fun σ H Q=>ta σ H fun x H'=>∃ k,TruV X.K x H' k∧Q k H'):=by
 intro pins s σ H Q I h
 exact isTrue_plain (thn (ha pins s σ H _ I h) fun v s1 ⟨x,H1,I1,r1,q1⟩=>tru_ok pins s1 σ H1 x v Q I1 r1 q1) (he _)
theorem jg{x:V}{us:List Value}(r:Vals [x] us):∃ u,us=[u]∧RelV x u:=by
 cases r with
 | cons r1 r2=>cases r2;exact⟨_,rfl,r1⟩
end
structure ObjM(h:Heap)(x dx C:Addr)(mA:Str→Option Value):Prop where
 obj:h.get? x=some (PySem.W.instObj C dx)
 ns:h.Ns1 dx mA
 ne:dx≠x
theorem tO{h:Heap}{dx:Addr}{mA:Str→Option Value}(n:h.Ns1 dx mA):∃ od,h.get? dx=some od∧∀ name,PySem.W.lookIn name od=some (mA name):=by
 obtain⟨o,es,ep,ho,hd,hk,_,hm⟩:=n
 refine⟨o,ho,fun name=>?_⟩
 have e:=hm name
 unfold nsFind findBy at e
 rw[←Array.find?_toList] at e
 unfold PySem.W.lookIn
 rw[hd]
 dsimp only
 split
 ·rename_i y q
  rw[q] at e
  exact congrArg some e
 ·rename_i q
  rw[q] at e
  have a:es.toList.any (·.refKey)=false:=by
   rw[List.any_eq_false]
   intro y hy
   obtain⟨z,t,hkey⟩:=hk y (Array.mem_toList_iff.mp hy)
   simp[DictEntry.refKey,hkey]
  have a':¬ es.toList.any (·.refKey)=true:=by rw[a];exact Bool.false_ne_true
  rw[if_neg a']
  exact congrArg some e
theorem ObjM.look{h:Heap}{x dx C:Addr}{mA:Str→Option Value}(I:ObjM h x dx C mA):∃ od,PySem.W.InstAt h x (PySem.W.instObj C dx) C (some od)∧∀ name,PySem.W.lookIn name od=some (mA name):=
 let ⟨od,ho,hl⟩:=tO I.ns
 ⟨od,⟨I.obj,rfl,rfl,ho⟩,hl⟩
section
variable{prog:Program}{w:World}{A:Around}{E:Value→Shared→Prop}{s:Shared}{K:Frag}{x dx C f:Addr}{mA:Str→Option Value}{name:Str}{v:Value}
theorem xt{expr:Bool}{Q:Value→Shared→Prop}(X:K.In s.heap)(I:ObjM s.heap x dx C mA)(hg:PySem.W.plainGet K C name=true)(hh:PySem.W.hasDictIn K C=true)
  (ha:PySem.W.findIn K (.ref C) name=some none) (hv:mA name=some v) (hv':PySem.W.handedIn v=true) (h:Q v { s with toks:=s.toks+1 }) :
  wpAny (model prog w) A (getAttr (.ref x) name expr) Q E s:=by
 obtain⟨od,J,hl⟩:=I.look
 exact PySem.W.get_value X J (PySem.W.plainGet_of hg).1 (PySem.W.findObj_own hh ha rfl (by rw[hl,hv])) hv' h
theorem vV{pl:Sem Bool}{Q:Value × List Value→Shared→Prop}(X:K.In s.heap)(I:ObjM s.heap x dx C mA)(hg:PySem.W.plainGet K C name=true)
  (hf:PySem.W.findIn K (.ref C) name=some (some (.ref f))) (ht:PySem.W.isFn K (.ref f)=true) (hv:mA name=none) (h:Q (.ref f,[.ref x]) s) :
  wpAny (model prog w) A (getMethod (.ref x) name pl) Q E s:=by
 obtain⟨od,J,hl⟩:=I.look
 exact PySem.W.method_fn X J (PySem.W.plainGet_of hg).1 (PySem.W.plainGet_of hg).2 hf (beq_iff_eq.mp ht) (by show(PySem.W.lookIn name od).map (·.isSome)=some false;rw[hl,hv];rfl) h
theorem wJ{ns:List Str}{Q:Unit→Shared→Prop}(X:K.In s.heap)(I:ObjM s.heap x dx C mA)
  (hs:PySem.W.findIn K (.ref C) "__setattr__"=some (some (.builtin "object.__setattr__"))) (hp:PySem.W.plainOver K C=true) (ht:PySem.W.takerIn K C name=some none) (hh:PySem.W.hasDictIn K C=true)
  (hw:PySem.Within mA ns) (hsz:ns.length≤sizeLine)
  (h:∀ h',ObjM h' x dx C (fun y=>if y=name then some v else mA y)→Heap.SameBut dx s.heap h'→Q () { s with heap:=h',toks:=s.toks+2 }) :
  wpAny (model prog w) A (setAttr (.ref x) name v) Q E s:=by
 obtain⟨od,J,hl⟩:=I.look
 refine PySem.W.set_plain X J hs (PySem.W.osa_open (s:={ s with toks:=s.toks+1 }) (r:=none) X J hp ht fun b=>?_)
 obtain⟨cd,hc,hd'⟩:=PySem.W.any_some hh
 have hx:s.heap.get? x=some ⟨.ref C,some dx,.plain,#[]⟩:=I.obj
 refine wpAny_bind (wpAny_pure (wpAny_bind (wpAny_bind (wpAny_loadPart hx (wpAny_bind (PySem.W.Looks.here (s:={ s with toks:=s.toks+1 }) (PySem.W.looks_clsIn X hc) ?_))))))
 rw[hd']
 refine wpAny_pure (a:=some dx) (wpAny_bind (wpAny_pure (wpAny_bind ?_)))
 refine wpAny_nsSet1 (s:={ s with toks:=s.toks+1 }) I.ns fun h' hn2 hs2=>?_
 obtain⟨oD,esD,epD,hoD,hdD,hcD⟩:=hn2.count (PySem.Within.cons name v hw)
 refine wpAny_bind (wpAny_lookBehind hoD (by rw[hdD];exact pastItsLine_dict (Nat.le_trans hcD (by rw[length_cons];omega))) ?_)
 exact wpAny_pure (h _ ⟨(hs2.2 _ (Ne.symm I.ne)).trans I.obj,hn2,I.ne⟩ hs2)
theorem vH{R:Result→Shared→Prop}{vs:List Value}{kw:List (Str × Value)}(X:K.In s.heap)(hm:PySem.W.makesIn K C=true)
  (hi:PySem.W.findIn K (.ref C) "__init__"=some (some (.ref f))) (hf:PySem.W.typeIn K (.ref f)=some (.type "function"))
  (h:codeAny (model prog w) (A.under (.builtin "type.__call__" ⟨.ref C::vs,kw⟩)) (.call (.ref f) ⟨.ref (s.heap.objs.size+1)::vs,kw⟩) (PySem.W.InitBack (s.heap.objs.size+1) R)
   { s with heap:=(s.heap.push PySem.W.emptyDict).push (PySem.W.instObj C s.heap.objs.size) }) :
  codeAny (model prog w) A (.call (.ref C) ⟨vs,kw⟩) R s:=by
 obtain⟨hh,g,d,t,os⟩:=s
 exact PySem.W.make_core (PySem.W.makes_of X hm) (PySem.W.looks_findIn X hi) (fun self=>PySem.W.bind_fn X self hf) (.inl rfl) h
end
def putF(f:Str)(v:V):List (Str × V)→List (Str × V)
 | []=>[(f,v)]
 | (g,x)::r=>if g=f then(g,v)::r else(g,x)::putF f v r
theorem iM(f g:Str)(v:V):∀ fs:List (Str × V),(putF f v fs).lookup g=if g=f then some v else fs.lookup g
 | []=>by
  show List.lookup g [(f,v)]=_
  by_cases h:g=f
  ·have hb:(g == f)=true:=beq_iff_eq.mpr h
   simp only[List.lookup,hb,if_pos h]
  ·have hb:(g == f)=false:=beq_eq_false_iff_ne.mpr h
   simp only[List.lookup,hb,if_neg h]
 | (k,x)::r=>by
  have ih:=iM f g v r
  rw[show putF f v ((k,x)::r)=(if k=f then(k,v)::r else(k,x)::putF f v r) from rfl]
  by_cases hk:k=f
  ·rw[if_pos hk]
   by_cases h:g=k
   ·have hb:(g == k)=true:=beq_iff_eq.mpr h
    simp only[List.lookup,hb,if_pos (h.trans hk)]
   ·have hb:(g == k)=false:=beq_eq_false_iff_ne.mpr h
    simp only[List.lookup,hb,if_neg (fun e:g=f=>h (e.trans hk.symm))]
  ·rw[if_neg hk]
   by_cases h:g=k
   ·have hb:(g == k)=true:=beq_iff_eq.mpr h
    simp only[List.lookup,hb,if_neg (fun e:g=f=>hk (h.symm.trans e))]
   ·have hb:(g == k)=false:=beq_eq_false_iff_ne.mpr h
    simp only[List.lookup,hb]
    exact ih
theorem ig(f:Str)(v:V):∀ fs:List (Str × V),f∈(putF f v fs).map (·.1)∧∀ g,g∈fs.map (·.1)→g∈(putF f v fs).map (·.1)
 | []=>⟨by simp[putF],fun g h=>by simp at h⟩
 | (k,x)::r=>by
  obtain⟨i1,i2⟩:=ig f v r
  rw[show putF f v ((k,x)::r)=(if k=f then(k,v)::r else(k,x)::putF f v r) from rfl]
  by_cases hk:k=f
  ·rw[if_pos hk]
   subst hk
   exact⟨by simp,fun g h=>by simpa using h⟩
  ·rw[if_neg hk]
   refine⟨?_,fun g h=>?_⟩
   ·rw[map_cons]
    exact mem_cons_of_mem _ i1
   ·rw[map_cons] at h ⊢
    rcases mem_cons.mp h with e | e
    ·exact mem_cons.mpr (.inl e)
    ·exact mem_cons_of_mem _ (i2 g e)
theorem iO(f:Str)(v:V):∀ fs:List (Str × V),(putF f v fs).length≤fs.length+1
 | []=>by simp[putF]
 | (k,x)::r=>by
  have ih:=iO f v r
  rw[show putF f v ((k,x)::r)=(if k=f then(k,v)::r else(k,x)::putF f v r) from rfl]
  by_cases hk:k=f
  ·rw[if_pos hk,length_cons,length_cons];omega
  ·rw[if_neg hk,length_cons,length_cons];omega
theorem RelO.some_of{v:V}{o:Option Value}(r:RelO (some v) o):∃ u,o=some u∧RelV v u:=by
 cases o with
 | none=>exact(show False from r).elim
 | some u=>exact⟨u,rfl,r⟩
theorem RelO.none_of{o:Option Value}(r:RelO none o):o=none:=by
 cases o with
 | none=>rfl
 | some u=>exact(show False from r).elim
theorem tY{v:V}{u:Value}(r:RelV v u):PySem.W.handedIn u=true:=by
 cases v with
 | non=>cases (show u=Value.none from r);rfl
 | bl b=>cases (show u=Value.bool b from r);rfl
 | int i=>obtain⟨t,e⟩:=(show ∃ t,u=Value.int i t from r);cases e;rfl
 | str x=>obtain⟨t,e⟩:=(show ∃ t,u=Value.str x t from r);cases e;rfl
 | byt b=>obtain⟨t,e⟩:=(show ∃ t,u=Value.bytes b t from r);cases e;rfl
 | flt b=>obtain⟨t,e⟩:=(show ∃ t,u=Value.float b t from r);cases e;rfl
 | ref a=>cases (show u=Value.ref a from r);rfl
 | ty n=>cases (show u=Value.type n from r);rfl
section
variable{P:Program}{w:World}{H H':Hp}{h h':Heap}{a C dx:Addr}{fs fs':List (Str × V)}
theorem m5(hok:HOk P w H h)(e:H a=some (.ins C dx fs)):∃ mA,ObjM h a dx C mA∧(∀ f,RelO (fs.lookup f) (mA f))∧PySem.Within mA (fs.map (·.1))∧fs.length≤1000∧H dx=some (.own a):=by
 obtain⟨d,z,ne,ob,mA,n,r,q⟩:=(show bA P w H h a (.ins C dx fs) from hok a _ e)
 exact⟨mA,⟨ob,n,ne⟩,r,q,z,d⟩
end
structure Cls(K:Frag)(C:Addr):Prop where
 pg:PySem.W.plainGet K C Str.empty=true
 hd:PySem.W.hasDictIn K C=true
 po:PySem.W.plainOver K C=true
 sa:PySem.W.findIn K (.ref C) "__setattr__"=some (some (.builtin "object.__setattr__"))
theorem Cls.get{K:Frag}{C:Addr}(c:Cls K C)(f:Str):PySem.W.plainGet K C f=true:=c.pg
def bn(K:Frag)(C:Addr)(f:Str):Prop:=PySem.W.findIn K (.ref C) f=some none
theorem bn.taker{K:Frag}{C:Addr}{f:Str}(n:bn K C f):PySem.W.takerIn K C f=some none:=by
 unfold PySem.W.takerIn
 rw[show PySem.W.findIn K (.ref C) f=some none from n]
 rfl
structure Meth(K:Frag)(C:Addr)(m:Str)(f:Addr):Prop where
 at_:PySem.W.findIn K (.ref C) m=some (some (.ref f))
 fn:PySem.W.isFn K (.ref f)=true
 kp:PySem.W.keepIn K (.ref f)=true
section
variable{X:Cx}{pins:List (Addr × Obj)}{σ:St}{H:Hp}{s:Shared}{a C dx:Addr}{fs:List (Str × V)}{f:Str}{v:V}{A:Around}{E:Value→Shared→Prop}
theorem kr{b:Bool}{Q:Value→Shared→Prop}(I:Inv X pins σ H s)(e:H a=some (.ins C dx fs))(c:Cls X.K C)(n:bn X.K C f)(l:fs.lookup f=some v)
  (h:∀ u s',Inv X pins σ H s'→RelV v u→Q u s'):wpAny (model X.prog X.w) A (getAttr (.ref a) f b) Q E s:=by
 obtain⟨mA,O,r,_,_,_⟩:=m5 I.hok e
 obtain⟨u,hu,ru⟩:=RelO.some_of (v:=v) (o:=mA f) (by rw[←l];exact r f)
 exact xt I.kIn O (c.get f) c.hd n hu (tY ru) (h u _ (I.tok _) ru)
theorem kq{m:Str}{g:Addr}{pl:Sem Bool}{Q:Value × List Value→Shared→Prop}(I:Inv X pins σ H s)(e:H a=some (.ins C dx fs))(c:Cls X.K C)(k:Meth X.K C m g)(l:fs.lookup m=none)
  (h:Q (.ref g,[.ref a]) s):wpAny (model X.prog X.w) A (getMethod (.ref a) m pl) Q E s:=by
 obtain⟨mA,O,r,_,_,_⟩:=m5 I.hok e
 have hn:mA m=none:=RelO.none_of (by rw[←l];exact r m)
 exact vV I.kIn O (c.get m) k.at_ k.fn hn h
theorem jq{y:V}{u:Value}{Q:Unit→Shared→Prop}(I:Inv X pins σ H s)(e:H a=some (.ins C dx fs))(c:Cls X.K C)(n:bn X.K C f)(hl:fs.length < 1000)(ry:RelV y u)
  (h:∀ s',Inv X pins σ (upd H a (.ins C dx (putF f y fs))) s'→Q () s'):wpAny (model X.prog X.w) A (setAttr (.ref a) f u) Q E s:=by
 obtain⟨mA,O,r,wi,_,ho⟩:=m5 I.hok e
 have hz:(fs.map (·.1)).length≤sizeLine:=by rw[length_map,sizeLine_eq];omega
 refine wJ I.kIn O c.sa c.po n.taker c.hd wi hz fun h' O' sb=>h _ ?_
 have hd:∃ o,h'.get? dx=some o:=let ⟨o,_,_,e',_⟩:=O'.ns;⟨o,e'⟩
 refine I.write (x:=a) (e:=dx) (by rw[e];exact True.intro) (.inr ho) (fun b q hb z=>(sb.2 b hb).trans z) hd ?_
 refine⟨by rw[ag O.ne];exact ho,?_,O.ne,O'.obj,_,O'.ns,fun g=>?_,fun g hg=>?_⟩
 ·have:=iO f y fs;omega
 ·show RelO ((putF f y fs).lookup g) (if g=f then some u else mA g)
  rw[iM]
  by_cases q:g=f
  ·rw[if_pos q,if_pos q];exact ry
  ·rw[if_neg q,if_neg q];exact r g
 ·by_cases q:g=f
  ·rw[q];exact(ig f y fs).1
  ·refine(ig f y fs).2 g (wi g fun z=>hg ?_)
   show(if g=f then some u else mA g)=none
   rw[if_neg q];exact z
theorem Inv.made(I:Inv X pins σ H s):Inv X pins σ (upd (upd H s.heap.objs.size (.own (s.heap.objs.size+1))) (s.heap.objs.size+1) (.ins C s.heap.objs.size []))
  { s with heap:=(s.heap.push PySem.W.emptyDict).push (PySem.W.instObj C s.heap.objs.size) }:=by
 have e1:(s.heap.push PySem.W.emptyDict).get? s.heap.objs.size=some PySem.W.emptyDict:=Heap.get?_push_size s.heap rfl
 have e2:((s.heap.push PySem.W.emptyDict).push (PySem.W.instObj C s.heap.objs.size)).get? (s.heap.objs.size+1)=some (PySem.W.instObj C s.heap.objs.size):=by
  have:=Heap.get?_push_size (s.heap.push PySem.W.emptyDict) (o:=PySem.W.instObj C s.heap.objs.size) rfl
  rwa [Heap.size_push] at this
 have e3:(s.heap.push PySem.W.emptyDict).Ns s.heap.objs.size (fun _=>none):=⟨PySem.W.emptyDict,#[],_,e1,rfl,(fun e he=>absurd he (by simp)),fun _=>rfl⟩
 have I1:=I.laid (a:=s.heap.objs.size) (o:=.own (s.heap.objs.size+1)) (h':=s.heap.push PySem.W.emptyDict) (t':=s.toks) (fun b u q=>Heap.get?_push_of_some _ q) (Nat.le_refl _) ⟨_,e1⟩
 refine I1.laid (a:=s.heap.objs.size+1) (o:=.ins C s.heap.objs.size []) (t':=s.toks) (fun b u q=>Heap.get?_push_of_some _ q) (Nat.le_of_eq (Heap.size_push _ _)) ?_
 have ne:s.heap.objs.size≠s.heap.objs.size+1:=Nat.ne_of_lt (Nat.lt_succ_self _)
 refine⟨by rw[ag ne,ac],Nat.zero_le _,ne,e2,fun _=>none,(Heap.Ns1.of_empty e3).at fun o q=>Heap.get?_push_of_some _ q,fun _=>True.intro,fun y hy=>absurd rfl hy⟩
theorem xD{prog:Program}{w:World}{env:Env}{e:Expr}{f:Str}{pos:Pos}{s:Shared}{Q:Value→Shared→Prop}(hb:attributeBase e f env (eval e env)=eval e env)
  (h:wpAny (model prog w) A (eval e env) (fun o s₁=>wpAny (model prog w) A (getAttr o f true) Q E s₁) E s):wpAny (model prog w) A (eval (.Attribute e f pos) env) Q E s:=
 Attribute_any_ h (by rw[arm_eval_Attribute,hb])
end
def tFld(K:Frag)(ta:TE)(f:Str):TE:=fun σ H Q=>ta σ H fun x H1=>∃ a C dx fs v,x=.ref a∧H1 a=some (.ins C dx fs)∧Cls K C∧bn K C f∧fs.lookup f=some v∧Q v H1
def sFld(K:Frag)(ta tv:TE)(f:Str):TS:=fun D σ H=>tv σ H fun y H1=>ta σ H1 fun x H2=>∃ a C dx fs,x=.ref a∧H2 a=some (.ins C dx fs)∧Cls K C∧bn K C f∧fs.length < 1000∧
 D.nx σ (upd H2 a (.ins C dx (putF f y fs)))
def InOp(X:Cx)(op:Operator)(rd:V→V→Hp→VK→Prop):Prop:=
 ∀ (pins:List (Addr × Obj)) (s:Shared) (σ:St) (H:Hp) (x y:V) (u v:Value) (Q:VK),Inv X pins σ H s→RelV x u→RelV y v→rd x y H Q→wpAny (model X.prog X.w) X.A (inplaceOp op u v) (EP X pins σ Q) X.xe s
def wL(K:Frag)(ta tv:TE)(rd:V→V→Hp→VK→Prop)(f:Str):TS:=fun D σ H=>ta σ H fun x H1=>∃ a C dx fs v,x=.ref a∧H1 a=some (.ins C dx fs)∧Cls K C∧bn K C f∧fs.lookup f=some v∧
 tv σ H1 fun y H2=>rd v y H2 fun z H3=>∃ dx' fs',H3 a=some (.ins C dx' fs')∧fs'.length < 1000∧D.nx σ (upd H3 a (.ins C dx' (putF f z fs')))
section
variable{X:Cx}{o e value:Expr}{f:Str}{pos pos' tpos:Pos}{ta tv:TE}
theorem aD(he:PE X e ta)(hb:attributeBase e f X.env (eval e X.env)=eval e X.env):PE X (.Attribute e f pos) (tFld X.K ta f):=by
 intro pins s σ H Q I h
 refine xD hb (thn (he pins s σ H _ I h) fun u s1 ⟨x,H1,I1,rx,a,C,dx,fs,v,ex,ea,c,n,l,q⟩=>?_)
 subst ex
 obtain rfl:u=Value.ref a:=rx
 exact kr I1 ea c n l fun u' s2 I2 ru=>⟨v,H1,I2,ru,q⟩
theorem bO(ha:PE X o ta)(hv:PE X value tv)(hs:swapsWith value (some (.Attribute o f pos')) pos.line X.env=pure false):PS X (.Assign [.Attribute o f pos'] value pos) (sFld X.K ta tv f):=by
 intro pins s σ H D I h
 refine plainObj_wpAny_Assign_Attribute (thn (hv pins s σ H _ I h) fun u s1 ⟨y,H1,I1,ry,q⟩=>thn (ha pins s1 σ H1 _ I1 q) fun ov s2 ⟨x,H2,I2,rx,a,C,dx,fs,ex,ea,c,n,l,q2⟩=>?_) hs
 subst ex
 obtain rfl:ov=Value.ref a:=rx
 exact jq I2 ea c n l ry fun s3 I3=>⟨σ,_,I3,q2⟩
theorem sZ{op:Operator}{rd:V→V→Hp→VK→Prop}(ha:PE X o ta)(hv:PE X value tv)(hop:InOp X op rd):PS X (.AugAssign (.Attribute o f tpos) op value pos) (wL X.K ta tv rd f):=by
 intro pins s σ H D I h
 refine wpAny_AugAssign_AttributeAny (thn (ha pins s σ H _ I h) fun ov s1 ⟨x,H1,I1,rx,a,C,dx,fs,v,ex,ea,c,n,l,q⟩=>?_)
 subst ex
 obtain rfl:ov=Value.ref a:=rx
 refine kr I1 ea c n l fun u s2 I2 ru=>thn (hv pins s2 σ H1 _ I2 q) fun w3 s3 ⟨y,H2,I3,ry,q3⟩=>thn (hop pins s3 σ H2 v y u w3 _ I3 ru ry q3) fun w4 s4 ⟨z,H3,I4,rz,dx',fs',ea',l',q4⟩=>?_
 exact jq I4 ea' c n l' rz fun s5 I5=>⟨σ,_,I5,q4⟩
def rAdd:V→V→Hp→VK→Prop:=fun x y H Q=>∃ i j,x=.int i∧y=.int j∧Q (.int (i+j)) H
theorem in_add:InOp X .Add rAdd:=by
 rintro pins s σ H x y u v Q I rx ry ⟨i,j,rfl,rfl,q⟩
 obtain⟨t,rfl⟩:=(show ∃ t,u=Value.int i t from rx)
 obtain⟨t',rfl⟩:=(show ∃ t',v=Value.int j t' from ry)
 exact PyProof.Rows.iadd_int ⟨.int (i+j),H,I.tok _,⟨_,rfl⟩,q⟩
end
section
variable{X:Cx}{pins:List (Addr × Obj)}{σ:St}{H:Hp}{s:Shared}{A:Around}{E:Value→Shared→Prop}{Q:Value→Shared→Prop}{c:Value}{b:Bool}
end
structure Room(k:Nat)(A:Around):Prop where
 hd:A.handled=none
 dp:A.depth+3*k+5 < recursionLimit
 un:A.units+16*k+200 < cLine
theorem Room.mono{j k:Nat}{A:Around}(r:Room k A)(h:j≤k):Room j A:=⟨r.hd,by have:=r.dp;omega,by have:=r.un;omega⟩
theorem Room.deeper{k:Nat}{A:Around}(r:Room (k+1) A)(env:Env):Room k (A.deeper env):=
 ⟨r.hd,by have:=r.dp;show A.depth+1+3*k+5 < _;omega,by have:=r.un;show A.units+3+16*k+200 < _;omega⟩
theorem qB{A:Around}{C:Addr}{us:List Value}{kw:List (Str × Value)}:(A.under (.builtin "type.__call__" ⟨.ref C::us,kw⟩)).depth=A.depth+1:=by
 first | rfl | simp[Around.under,Code.weight,Code.isCreation,Code.isGuard,Code.isCaller,Code.frames,Code.isFrame,guardIds]
theorem qA{A:Around}{C:Addr}{us:List Value}{kw:List (Str × Value)}:(A.under (.builtin "type.__call__" ⟨.ref C::us,kw⟩)).units=A.units+1:=by
 first | rfl | simp[Around.under,Code.cUnits,Code.frames,Code.isFrame]
theorem Room.make{k:Nat}{A:Around}(r:Room (k+1) A)(C:Addr)(us:List Value)(kw:List (Str × Value)):Room k (A.under (.builtin "type.__call__" ⟨.ref C::us,kw⟩)):=
 ⟨r.hd,by have:=r.dp;rw[qB];omega,by have:=r.un;rw[qA];omega⟩
theorem Room.depth{k:Nat}{A:Around}(r:Room k A):A.depth < recursionLimit:=by have:=r.dp;omega
theorem Room.units{k:Nat}{A:Around}(r:Room k A):A.units+64 < cLine:=by have:=r.un;omega
def tNil:TA:=fun _ H Q=>Q [] H
def cC(ta:TE)(tr:TA):TA:=fun σ H Q=>ta σ H fun x H1=>tr σ H1 fun xs H2=>Q (x::xs) H2
section
variable{X:Cx}{e:Expr}{es:List Expr}{te:TE}{t:TA}{pos:Pos}
theorem af:PA X [] tNil:=fun _ _ _ _ H Q I h=>Calls.spliced_nil ⟨[],H,I,.nil,h⟩
theorem aa(ha:PE X e te)(hr:PA X es t)(hs:starEach (e::es) X.env=(false,eval e X.env)::starEach es X.env:=by rfl):PA X (e::es) (cC te t):=by
 intro pos pins s σ H Q I h
 rw[hs]
 show wpAny _ _ (spliced ((false,eval e X.env)::backTo pos (starEach es X.env))) _ _ s
 refine Calls.spliced_cons (thn (ha pins s σ H _ I h) fun u s1 ⟨x,H1,I1,r1,q1⟩=>?_)
 exact thn (hr pos pins s1 σ H1 _ I1 q1) fun us s2 ⟨xs,H2,I2,r2,q2⟩=>⟨x::xs,H2,I2,.cons r1 r2,q2⟩
def tTup(t:TA):TE:=fun σ H Q=>t σ H fun xs H1=>xs.length≤sizeLine∧∀ p,H1 p=none→Q (.ref p) (upd H1 p (.tup xs))
def tLst(t:TA):TE:=fun σ H Q=>t σ H fun xs H1=>xs.length≤sizeLine∧∀ p,H1 p=none→Q (.ref p) (upd H1 p (.lst xs))
theorem aU{x1}(h:PA X es t):PE X (.Tuple es x1 pos) (tTup t):=by
 intro pins s σ H Q I hq
 refine wpAny_Tuple_spliced (thn (h pos pins s σ H _ I hq) fun us s1 ⟨xs,H1,I1,r,z,q⟩=>⟨by rw[←r.length];exact z,?_⟩)
 have hf:H1 s1.heap.objs.size=none:=I1.hok.fresh (Nat.le_refl _)
 refine⟨.ref s1.heap.objs.size,upd H1 s1.heap.objs.size (.tup xs),I1.laid (t':=s1.toks) (fun b u e=>Heap.get?_push_of_some _ e) (Nat.le_refl _) ?_,rfl,q _ hf⟩
 exact⟨z,us,r,⟨_,Heap.get?_push_size _ rfl,rfl,_,rfl⟩⟩
theorem bz(h:PA X es t):PE X (.List es pos) (tLst t):=by
 intro pins s σ H Q I hq
 refine wpAny_List_spliced (thn (h pos pins s σ H _ I hq) fun us s1 ⟨xs,H1,I1,r,z,q⟩=>⟨by rw[←r.length];exact z,?_⟩)
 have hf:H1 s1.heap.objs.size=none:=I1.hok.fresh (Nat.le_refl _)
 refine⟨.ref s1.heap.objs.size,upd H1 s1.heap.objs.size (.lst xs),I1.laid (t':=s1.toks) (fun b u e=>Heap.get?_push_of_some _ e) (Nat.le_refl _) ?_,rfl,q _ hf⟩
 exact⟨z,us,0,r,Heap.get?_push_size _ rfl⟩
end
abbrev Sp:=List V→Hp→VK→XK→Prop
abbrev CXT:=List Env→Hp→Shared→XK→Value→Shared→Prop
structure Env0(P:Program)(w:World)(K:Frag)(mg:Str→Option Value)(base:Heap)(A:Around)(outer:List Env)(s:Shared)(H:Hp):Prop where
 frames:A.frames=some outer
 mod:Mod K mg base
 bs:∀ b o,base.get? b=some o→s.heap.get? b=some o∧H b=none
 bsz:base.objs.size≤s.heap.objs.size
 funs:s.heap.FunFrames base outer
 frf:∀ b∈frs outer,H b=none
 hok:HOk P w H s.heap
 bare:AllBare s.gens
def CE(outer:List Env)(P:Program)(w:World)(H:Hp)(s:Shared)(Q:VK)(u:Value)(s':Shared):Prop:=
 ∃ v H',s'.os=s.os∧AllBare s'.gens∧Un (frs outer) [] H H' s.heap s'.heap∧HOk P w H' s'.heap∧RelV v u∧Q v H'
def CR(CX:CXT)(outer:List Env)(P:Program)(w:World)(H:Hp)(s:Shared)(Q:VK)(E:XK)(r:Result)(s':Shared):Prop:=
 match r with
 | .ok (.ret u)=>CE outer P w H s Q u s'
 | .ok _=>False
 | .error e=>CX outer H s E e s'
structure FnOk(P:Program)(w:World)(K:Frag)(mg:Str→Option Value)(base:Heap)(CX:CXT)(k:Nat)(f:Addr)(fd:FuncData)(ps:List Str)(sp:Sp):Prop where
 len:∀ vs H Q E,sp vs H Q E→vs.length=ps.length
 run:∀ (A:Around) (outer:List Env) (s:Shared) (H:Hp) (args:Args) (us:List Value) (vs:List V) (Q:VK) (E:XK),Room k A→Env0 P w K mg base A outer s H→BindsTo s fd args (ps.zip us)→Vals vs us→sp vs H Q E→
  codeAny (model P w) A (.call (.ref f) args) (CR CX outer P w H s Q E) s
theorem FnOk.mono{P:Program}{w:World}{K:Frag}{mg:Str→Option Value}{base:Heap}{CX:CXT}{j k:Nat}{f:Addr}{fd:FuncData}{ps:List Str}{sp:Sp}(F:FnOk P w K mg base CX j f fd ps sp)(h:j≤k) :
  FnOk P w K mg base CX k f fd ps sp:=⟨F.len,fun A outer s H args us vs Q E hr=>F.run A outer s H args us vs Q E (hr.mono h)⟩
theorem Env0.make{P:Program}{w:World}{K:Frag}{mg:Str→Option Value}{base:Heap}{A:Around}{outer:List Env}{s:Shared}{H:Hp}(e:Env0 P w K mg base A outer s H)(C:Addr)(us:List Value)(kw:List (Str × Value)) :
  Env0 P w K mg base (A.under (.builtin "type.__call__" ⟨.ref C::us,kw⟩)) outer s H:=⟨by first | exact e.frames | (simpa [Around.under,Code.envs,Code.isFrame,pushEnvs] using e.frames),e.mod,e.bs,e.bsz,e.funs,e.frf,e.hok,e.bare⟩
section
variable{X:Cx}{pins:List (Addr × Obj)}{σ:St}{H:Hp}{s s':Shared}
theorem Inv.env0(I:Inv X pins σ H s):Env0 X.prog X.w X.K X.mg X.base X.A X.stack s H:=
 ⟨I.ok.frames,I.ok.mod,I.bs,Nat.le_trans I.ok.bsz I.sz,I.stack,I.stkFree,I.hok,I.bare⟩
theorem Inv.after{Q:VK}{u:Value}(I:Inv X pins σ H s)(h:CE X.stack X.prog X.w H s Q u s'):EP X pins σ Q u s':=by
 obtain⟨v,H',os,bare,un,hok,r,q⟩:=h
 obtain⟨hh,g,d,t,os'⟩:=s'
 obtain rfl:os'=s.os:=os
 exact⟨v,H',I.call (h':=hh) (g':=g) (d':=d) (t':=t) (ch:=[]) un hok bare (fun b z=>absurd z (by simp)),r,q⟩
end
def jj(sp:Sp)(dvs:List V)(E:XK)(t:TA):TE:=fun σ H Q=>t σ H fun vs H1=>sp (vs++dvs) H1 Q E
def qX(C:Addr)(m:Str)(sp:Sp)(dvs:List V)(E:XK)(ta:TE)(t:TA):TE:=fun σ H Q=>ta σ H fun x H1=>∃ a dx fs,x=.ref a∧H1 a=some (.ins C dx fs)∧fs.lookup m=none∧
 t σ H1 fun vs H2=>sp (x::(vs++dvs)) H2 Q E
def tMake(C:Addr)(sp:Sp)(dvs:List V)(E:XK)(t:TA):TE:=fun σ H Q=>t σ H fun vs H1=>∀ x dx,H1 x=none→H1 dx=none→dx≠x→
 sp (.ref x::(vs++dvs)) (upd (upd H1 dx (.own x)) x (.ins C dx [])) (fun v H2=>v=.non∧Q (.ref x) H2) E
def cj(K:Frag)(fd:FuncData)(ps:List Str)(ds:List Value):Prop:=
 ∀ (s:Shared) (us:List Value),K.In s.heap→(us++ds).length=ps.length→BindsTo s fd ⟨us,[]⟩ (ps.zip (us++ds))
theorem cj.all{K:Frag}{fd:FuncData}{ps:List Str}(h:∀ us:List Value,us.length=ps.length→bindArgs fd ⟨us,[]⟩=pure (ps.zip us)):cj K fd ps []:=fun s us _ hl=>by
 rw[append_nil] at hl ⊢
 exact .of_eq (h us hl)
def bQ(CX:CXT)(X:Cx)(E:XK):Prop:=∀ (pins:List (Addr × Obj)) (σ:St) (H:Hp) (s:Shared) (e:Value) (s':Shared),Inv X pins σ H s→CX X.stack H s E e s'→X.xe e s'
section
variable{X:Cx}{CX:CXT}{k:Nat}{f C:Addr}{fd:FuncData}{ps:List Str}{sp:Sp}{dvs:List V}{ds:List Value}{E:XK}{x m:Str}{p pos apos:Pos}{e o:Expr}{es:List Expr}{ta:TE}{t:TA}
theorem mD{pins:List (Addr × Obj)}{σ:St}{H:Hp}{s:Shared}{Q:VK}{us:List Value}{vs:List V}(F:FnOk X.prog X.w X.K X.mg X.base CX k f fd ps sp)(hr:Room k X.A)(hb:cj X.K fd ps ds)(hd:Vals dvs ds)(hx:bQ CX X E)
  (I:Inv X pins σ H s) (r:Vals vs us) (h:sp (vs++dvs) H Q E):wpAny (model X.prog X.w) X.A (call (.ref f) us) (EP X pins σ Q) X.xe s:=by
 have r2:Vals (vs++dvs) (us++ds):=r.append hd
 have hl:(us++ds).length=ps.length:=by rw[←r2.length];exact F.len _ _ _ _ h
 refine wpAny_call (codeAny_mono (F.run X.A X.stack s H ⟨us,[]⟩ (us++ds) (vs++dvs) Q E hr I.env0 (hb s us I.kIn hl) r2 h) fun r s' hq=>?_)
 cases r with
 | error e=>exact hx pins σ H s e s' I hq
 | ok fl=>
  cases fl with
  | ret u=>exact I.after hq
  | next=>exact False.elim hq
  | brk=>exact False.elim hq
  | cont=>exact False.elim hq
theorem wV(F:FnOk X.prog X.w X.K X.mg X.base CX k f fd ps sp)(hr:Room k X.A)(hg:Gl X x)(hm:X.mg x=some (.ref f))(hk:PySem.W.keepIn X.K (.ref f)=true)(hb:cj X.K fd ps ds)(hd:Vals dvs ds)(hx:bQ CX X E)
  (ha:PA X (e::es) t) (hdb:(x == ("__debug__":Str))=false:=by decide) (he:starEach (e::es) X.env=(false,eval e X.env)::starEach es X.env:=by rfl) (hpl:(backTo pos (starEach es X.env)).any (·.1)=false:=by rfl) :
  PE X (.Call (.Name x p) (e::es) [] pos) (jj sp dvs E t):=by
 intro pins s σ H Q I h
 refine wpAny_Call_Name_kw (fk I hg hm ?_ hdb)
 refine PySem.W.callWith_K (h₀:=X.base) I.ok.mod.kin hk (thn (ha pos pins s σ H _ I h) fun us s1 ⟨vs,H1,I1,r,q⟩=>⟨I1.kIn,?_⟩) he hpl
 exact mD F hr hb hd hx I1 r q
theorem wS{pl:Sem Bool}(he:PE X o ta)(c:Cls X.K C)(hm:Meth X.K C m f)(F:FnOk X.prog X.w X.K X.mg X.base CX k f fd ps sp)(hr:Room k X.A)(hb:cj X.K fd ps ds)(hd:Vals dvs ds)(hx:bQ CX X E)(ha:PA X (e::es) t)
  (hst:starEach (e::es) X.env=(false,eval e X.env)::starEach es X.env:=by rfl) (hpl:(backTo pos (starEach es X.env)).any (·.1)=false:=by rfl)
  (ht:eval (.Call (.Attribute o m apos) (e::es) [] pos) X.env=(do
   let ov←eval o X.env
   standAt apos.atName
   let (f,first)←holding [ov] (getMethod ov m pl)
   callWith pos f first (backTo pos (starEach (e::es) X.env)) (backToKw pos (keywordEach [] X.env))):=by rfl) :
  PE X (.Call (.Attribute o m apos) (e::es) [] pos) (qX C m sp dvs E ta t):=by
 intro pins s σ H Q I h
 refine PySem.W.methodCall_KW (pl:=pl) (thn (he pins s σ H _ I h) fun u s1 ⟨x,H1,I1,rx,a,dx,fs,ex,ea,l,q⟩=>?_) ht
 subst ex
 obtain rfl:u=Value.ref a:=rx
 refine kq I1 ea c hm l ?_
 refine PySem.W.callWith_K (first:=[.ref a]) (h₀:=X.base) I.ok.mod.kin hm.kp (thn (ha pos pins s1 σ H1 _ I1 q) fun us s2 ⟨vs,H2,I2,r,q2⟩=>⟨I2.kIn,?_⟩) hst hpl
 exact mD (us:=.ref a::us) (vs:=.ref a::vs) F hr hb hd hx I2 (.cons rfl r) q2
theorem vf{pl:Sem Bool}(he:PE X o ta)(c:Cls X.K C)(hm:Meth X.K C m f)(F:FnOk X.prog X.w X.K X.mg X.base CX k f fd ps sp)(hr:Room k X.A)(hb:cj X.K fd ps ds)(hd:Vals dvs ds)(hx:bQ CX X E)
  (ht:eval (.Call (.Attribute o m apos) [] [] pos) X.env=(do
   let ov←eval o X.env
   standAt apos.atName
   let (f,first)←holding [ov] (getMethod ov m pl)
   callWith pos f first (backTo pos (starEach [] X.env)) (backToKw pos (keywordEach [] X.env))):=by rfl) :
  PE X (.Call (.Attribute o m apos) [] [] pos) (qX C m sp dvs E ta tNil):=by
 intro pins s σ H Q I h
 refine PySem.W.methodCall_KW (pl:=pl) (thn (he pins s σ H _ I h) fun u s1 ⟨x,H1,I1,rx,a,dx,fs,ex,ea,l,q⟩=>?_) ht
 subst ex
 obtain rfl:u=Value.ref a:=rx
 refine kq I1 ea c hm l ?_
 exact PySem.W.callWith_K0 (first:=[.ref a]) I1.kIn hm.kp (mD (us:=[.ref a]) (vs:=[.ref a]) F hr hb hd hx I1 (.cons rfl .nil) q)
structure Mk(K:Frag)(C f:Addr):Prop where
 makes:PySem.W.makesIn K C=true
 init:PySem.W.findIn K (.ref C) "__init__"=some (some (.ref f))
 fn:PySem.W.isFn K (.ref f)=true
 kp:PySem.W.keepIn K (.ref C)=true
theorem uK{pins:List (Addr × Obj)}{σ:St}{H:Hp}{s:Shared}{Q:VK}{us:List Value}{vs:List V}(M:Mk X.K C f)(F:FnOk X.prog X.w X.K X.mg X.base CX k f fd ps sp)(hr:Room (k+1) X.A)(hb:cj X.K fd ps ds)(hd:Vals dvs ds)
  (hx:bQ CX X E) (I:Inv X pins σ H s) (r:Vals vs us)
  (h:∀ x dx,H x=none→H dx=none→dx≠x→sp (.ref x::(vs++dvs)) (upd (upd H dx (.own x)) x (.ins C dx [])) (fun v H2=>v=.non∧Q (.ref x) H2) E) :
  wpAny (model X.prog X.w) X.A (call (.ref C) us) (EP X pins σ Q) X.xe s:=by
 have hq:=h (s.heap.objs.size+1) s.heap.objs.size (I.hok.fresh (Nat.le_succ _)) (I.hok.fresh (Nat.le_refl _)) (Nat.ne_of_lt (Nat.lt_succ_self _))
 have I2:=Inv.made (C:=C) I
 have r2:Vals (V.ref (s.heap.objs.size+1)::(vs++dvs)) (Value.ref (s.heap.objs.size+1)::(us++ds)):=.cons rfl (r.append hd)
 have hl:(Value.ref (s.heap.objs.size+1)::us++ds).length=ps.length:=by
  have e:=r2.length
  rw[F.len _ _ _ _ hq] at e
  exact e.symm
 refine wpAny_call (vH (f:=f) I.kIn M.makes M.init (beq_iff_eq.mp M.fn) (codeAny_mono (F.run _ X.stack _ _ ⟨Value.ref (s.heap.objs.size+1)::us,[]⟩ (Value.ref (s.heap.objs.size+1)::(us++ds)) _ _ E (hr.make C us [])
  (I2.env0.make C us []) (hb _ (Value.ref (s.heap.objs.size+1)::us) I2.kIn hl) r2 hq) fun r s' hq'=>?_))
 cases r with
 | error e=>exact hx pins σ _ _ e s' I2 hq'
 | ok fl=>
  cases fl with
  | ret u=>
   obtain⟨v,H',I3,rv,ev,q3⟩:=I2.after hq'
   subst ev
   exact⟨rv,⟨V.ref (s.heap.objs.size+1),H',I3,rfl,q3⟩⟩
  | next=>exact False.elim hq'
  | brk=>exact False.elim hq'
  | cont=>exact False.elim hq'
theorem wT(M:Mk X.K C f)(F:FnOk X.prog X.w X.K X.mg X.base CX k f fd ps sp)(hr:Room (k+1) X.A)(hg:Gl X x)(hm:X.mg x=some (.ref C))(hb:cj X.K fd ps ds)(hd:Vals dvs ds)(hx:bQ CX X E)
  (ha:PA X (e::es) t) (hdb:(x == ("__debug__":Str))=false:=by decide) (he:starEach (e::es) X.env=(false,eval e X.env)::starEach es X.env:=by rfl) (hpl:(backTo pos (starEach es X.env)).any (·.1)=false:=by rfl) :
  PE X (.Call (.Name x p) (e::es) [] pos) (tMake C sp dvs E t):=by
 intro pins s σ H Q I h
 refine wpAny_Call_Name_kw (fk I hg hm ?_ hdb)
 refine PySem.W.callWith_K (h₀:=X.base) I.ok.mod.kin M.kp (thn (ha pos pins s σ H _ I h) fun us s1 ⟨vs,H1,I1,r,q⟩=>⟨I1.kIn,?_⟩) he hpl
 exact uK M F hr hb hd hx I1 r q
end
section
variable{X:Cx}{CX:CXT}{k:Nat}{f C:Addr}{fd:FuncData}{ps ks:List Str}{sp:Sp}{E:XK}{x m:Str}{p pos apos kpos:Pos}{e o:Expr}{es:List Expr}{kws:List Keyword}{te ta:TE}{t tk:TA}{nm:Option Str}
variable{g:List Value→List Value→List Value}{gV:List V→List V→List V}
end
structure al(N P:List Str)(sc:Scope):Prop where
 kind:sc.kind=.function
 co:sc.isCoroutine=false
 gen:sc.isGenerator=false
 nd:N.Nodup
 pre:N.take P.length=P
 par:∀ x∈P,sc.names.lookup x=some .local∨sc.names.lookup x=some .cell
 nofree:∀ y∈sc.names,y.2≠.free
theorem me{kindOf:Str→Option NameKind}{x:Str}:∀ {binds:List (Str × Value)} {m:Str→Option Value},(∀ v,(x,v) ∉ binds)→bindL kindOf binds m x=m x
 | [],_,_=>rfl
 | (n,v)::r,m,h=>by
  unfold bindL
  rw[me fun w hw=>h w (mem_cons_of_mem _ hw)]
  split
  ·have:x≠n:=by rintro rfl;exact h v mem_cons_self
   simp[this]
  ·rfl
theorem mh{kindOf:Str→Option NameKind}{x:Str}:∀ {binds:List (Str × Value)} {m:Str→Option Value},(∀ v,(x,v) ∉ binds)→bindC kindOf binds m x=m x
 | [],_,_=>rfl
 | (n,v)::r,m,h=>by
  unfold bindC
  rw[mh fun w hw=>h w (mem_cons_of_mem _ hw)]
  split
  ·rfl
  ·have:x≠n:=by rintro rfl;exact h v mem_cons_self
   simp[this]
theorem mf{kindOf:Str→Option NameKind}{x:Str}{v:Value}:∀ {P:List Str} {vs:List Value} {i:Nat} {m:Str→Option Value},P.Nodup→P[i]?=some x→vs[i]?=some v→kindOf x=some .local→
  bindL kindOf (P.zip vs) m x=some v
 | [],_,_,_,_,h,_,_=>by simp at h
 | _::_,[],_,_,_,_,h,_=>by simp at h
 | p::P,w::vs,0,m,nd,h1,h2,hk=>by
  simp at h1 h2;subst h1;subst h2
  show bindL kindOf ((p,w)::P.zip vs) m p=_
  unfold bindL
  rw[me fun v hv=>(List.nodup_cons.mp nd).1 (List.of_mem_zip hv).1,if_pos hk]
  simp
 | p::P,w::vs,i+1,m,nd,h1,h2,hk=>by
  show bindL kindOf ((p,w)::P.zip vs) m x=_
  unfold bindL
  exact mf (i:=i) (List.nodup_cons.mp nd).2 (by simpa using h1) (by simpa using h2) hk
theorem mi{kindOf:Str→Option NameKind}{x:Str}{v:Value}:∀ {P:List Str} {vs:List Value} {i:Nat} {m:Str→Option Value},P.Nodup→P[i]?=some x→vs[i]?=some v→kindOf x≠some .local→
  bindC kindOf (P.zip vs) m x=some v
 | [],_,_,_,_,h,_,_=>by simp at h
 | _::_,[],_,_,_,_,h,_=>by simp at h
 | p::P,w::vs,0,m,nd,h1,h2,hk=>by
  simp at h1 h2;subst h1;subst h2
  show bindC kindOf ((p,w)::P.zip vs) m p=_
  unfold bindC
  rw[mh fun v hv=>(List.nodup_cons.mp nd).1 (List.of_mem_zip hv).1,if_neg hk]
  simp
 | p::P,w::vs,i+1,m,nd,h1,h2,hk=>by
  show bindC kindOf ((p,w)::P.zip vs) m x=_
  unfold bindC
  exact mi (i:=i) (List.nodup_cons.mp nd).2 (by simpa using h1) (by simpa using h2) hk
def start(N:List Str)(vs:List V):St:=vs.map some++List.replicate (N.length - vs.length) none
def cxOf(CX:CXT)(P:Program)(w:World)(K:Frag)(mg:Str→Option Value)(base:Heap)(N:List Str)(qual:Str)(scope:Scope)(f:Addr)(cd:Value)(A:Around)(outer:List Env)(s:Shared)(H:Hp)(E:XK):Cx where
 prog:=P
 w:=w
 K:=K
 mg:=mg
 base:=base
 A:=A.deeper (envOfC qual scope s.heap.objs.size f cd)
 N:=N
 s_0:=s
 H_0:=H
 env:=envOfC qual scope s.heap.objs.size f cd
 outer:=outer
 stack:=envOfC qual scope s.heap.objs.size f cd::outer
 ex:=[]
 calm:=true
 fn:=fun _=>true
 pn:=[]
 xe:=fun e s'=>wpAny (model P w) (A.deeper (envOfC qual scope s.heap.objs.size f cd)) (leaving (envOfC qual scope s.heap.objs.size f cd) e) (fun _ s''=>CX outer H s E e s'') (fun e' s''=>CX outer H s E e' s'') s'
theorem pj{sc:Scope}{n:Nat}{x:Str}(h:sc.names.lookup x=some .cell):∃ c,(cellsFrom n sc.names []).lookup x=some c:=by
 have q:=PySem.W.cellsFrom_some sc.names n [] (.inl h)
 exact Option.isSome_iff_exists.mp q
theorem tW{CX:CXT}{P:Program}{w:World}{K:Frag}{mg:Str→Option Value}{base:Heap}{N ps:List Str}{qual:Str}{scope:Scope}{f:Addr}{cd:Value}{A:Around}{outer:List Env}{s s1:Shared}{H:Hp}{E:XK}{us:List Value}{vs:List V}
  (S:al N ps scope) (hd:A.handled=none) (e0:Env0 P w K mg base A outer s H) (hl:vs.length=ps.length) (r:Vals vs us)
  (x:InCallC s s.heap.objs.size (bindL (envOfC qual scope s.heap.objs.size f cd).kindOf (ps.zip us) fun _=>none) (cellsFrom (s.heap.objs.size+1) scope.names []) (bindC (envOfC qual scope s.heap.objs.size f cd).kindOf (ps.zip us) fun _=>none) s1) :
  Inv (cxOf CX P w K mg base N qual scope f cd A outer s H E) [] (start N vs) H s1:=by
 have hpl:ps.length≤N.length:=by have:=congrArg List.length S.pre;rw[length_take] at this;omega
 obtain⟨h1,tk,rfl,hk⟩:=x.done
 have noA:∀ b:Addr,b ∉ (cxOf CX P w K mg base N qual scope f cd A outer s H E).ex:=fun b z=>absurd (show b∈([]:List Addr) from z) (by simp)
 refine⟨⟨e0.mod,S.kind,rfl,rfl,Nat.le_refl _,fun y z c h1 h2=>?_,fun y hy=>?_,fun y c _ h=>?_,fun _=>hd,Around.frames_deeper e0.frames,.inr ⟨rfl,rfl⟩,fun b z=>absurd z (noA b),e0.bs,e0.bsz,fun b _ _=>noA b,fun b z=>absurd z (noA b),e0.funs,e0.frf⟩,
  rfl,e0.bare,Un.kept hk,⟨_,x.toInCall.ns,fun i y v h1 h2 h3=>?_⟩,fun y c h=>⟨_,x.cell y c h⟩,e0.hok.fresh (Nat.le_refl _),fun y c h=>?_,fun p hp=>absurd (show p∈([]:List (Addr × Obj)) from hp) (by simp),e0.hok.kept hk,?_⟩
 ·exact name_of_addr x.apart (PySem.mem_of_lookup h1) (PySem.mem_of_lookup h2)
 ·have hy:scope.names.lookup y=some .cell∨scope.names.lookup y=some .free:=hy
  rcases hy with hy | hy
  ·exact pj hy
  ·exact absurd rfl (S.nofree _ (PySem.mem_of_lookup hy))
 ·exact Nat.le_of_lt (x.above y c (PySem.mem_of_lookup h))
 ·have hi:i < vs.length:=by
   unfold start at h2
   by_cases hi:i < vs.length
   ·exact hi
   ·rw[List.getElem?_append_right (by simpa using hi)] at h2
    rw[List.getElem?_replicate] at h2
    split at h2<;>cases h2
  have ha:vs[i]?=some v:=by
   unfold start at h2
   rw[List.getElem?_append_left (by simpa using hi),getElem?_map] at h2
   cases e:vs[i]? with
   | none=>rw[e] at h2;cases h2
   | some a=>rw[e] at h2;cases h2;rfl
  obtain⟨u,hu,rv⟩:=r.get ha
  have hp:ps[i]?=some y:=by
   rw[←S.pre,List.getElem?_take_of_lt (by omega)];exact h1
  have ndP:ps.Nodup:=by rw[←S.pre];exact S.nd.sublist (List.take_sublist _ _)
  refine⟨u,rv,?_⟩
  rcases S.par y (mem_of_getElem? hp) with k | k
  ·exact .inl ⟨k,mf ndP hp hu k⟩
  ·obtain⟨c,e⟩:=pj (n:=s.heap.objs.size+1) k
   refine .inr ⟨.inl k,c,e,?_⟩
   have q:=x.cell y c e
   rw[mi ndP hp hu (by show scope.names.lookup y≠_;rw[k];decide)] at q
   exact q
 ·exact e0.hok.fresh (Nat.le_of_lt (x.above y c (PySem.mem_of_lookup h)))
 ·unfold start
  show _=N.length
  rw[length_append,length_map,List.length_replicate]
  omega
theorem fn_of{CX:CXT}{P:Program}{w:World}{K:Frag}{mg:Str→Option Value}{base:Heap}{k:Nat}{f:Addr}{name qual:Str}{params:Arguments}{body:List Stmt}{scope:Scope}{dV kV doc pm cdv ct oc:Value}{an od:Option Addr}
  {osl:Array (Option Value)} {N ps:List Str} {sp:Sp} (lk:K.lookup f=some ⟨oc,od,.func (PySem.W.fnOf name qual params body scope dV kV doc pm an cdv ct),osl⟩) (hcd:PySem.W.codeIn K cdv qual=true) (S:al N ps scope)
  (len:∀ vs H Q E,sp vs H Q E→vs.length=ps.length)
  (hbody:∀ (A:Around) (outer:List Env) (s:Shared) (H:Hp) (vs:List V) (Q:VK) (E:XK),Room k (A.deeper (envOfC qual scope s.heap.objs.size f cdv))→sp vs H Q E→
   ∃ t,PSs (cxOf CX P w K mg base N qual scope f cdv A outer s H E) body t∧t { nx:=fun _ H'=>Q .non H',rt:=Q } (start N vs) H) :
  FnOk P w K mg base CX (k+1) f (PySem.W.fnOf name qual params body scope dV kV doc pm an cdv ct) ps sp:=by
 refine⟨len,fun A outer s H args us vs Q E hr e0 hb r hsp=>?_⟩
 have hl:=len _ _ _ _ hsp
 have KX:K.In s.heap:=e0.mod.kin.keeps fun b o e=>(e0.bs b o e).1
 have lim:s.heap.NoLimit:=e0.mod.nolimit.keeps fun b o e=>(e0.bs b o e).1
 have hkind:∀ y∈ps.zip us,scope.names.lookup y.1=some .local∨(scope.names.lookup y.1=some .cell∧((cellsFrom (s.heap.objs.size+1) scope.names []).lookup y.1).isSome=true):=fun⟨n,v⟩ hy=>by
  rcases S.par n (List.of_mem_zip hy).1 with q | q
  ·exact .inl q
  ·exact .inr ⟨q,PySem.W.cellsFrom_some _ _ _ (.inl q)⟩
 refine codeAny_call_function hr.depth (KX _ _ lk) rfl S.co S.gen rfl (PySem.W.codeRec_of KX hcd) (hb _ _ _ _ ?_)
 refine wpAny_newFunctionEnv_cells S.kind hkind fun env he s1 x=>?_
 subst he
 refine⟨lim.keeps x.toInCall.keep,codeAny_func ?_⟩
 obtain⟨t,ht,hq⟩:=hbody A outer s H vs Q E (hr.deeper _) hsp
 have I:Inv (cxOf CX P w K mg base N qual scope f cdv A outer s H E) [] (start N vs) H s1:=tW S hr.hd e0 hl r x
 refine wpAny_mono (ht [] s1 (start N vs) H _ I hq) (fun fl s' hs=>?_) fun e s' hs=>hs
 have fin:∀ {σ':St} {H':Hp} {v:V} {u:Value},Inv (cxOf CX P w K mg base N qual scope f cdv A outer s H E) [] σ' H' s'→RelV v u→Q v H'→CE outer P w H s Q u s':=
  fun {σ' H' v u} J rv q=>⟨v,H',J.os,J.bare,J.base,J.hok,rv,q⟩
 cases fl with
 | ret u=>
  obtain⟨v,σ',H',J,rv,q⟩:=hs
  exact fin J rv q
 | next=>
  obtain⟨σ',H',J,q⟩:=hs
  exact fin (v:=V.non) (u:=Value.none) J rfl q
 | brk=>
  obtain⟨_,_,_,q⟩:=hs
  exact False.elim q
 | cont=>
  obtain⟨_,_,_,q⟩:=hs
  exact False.elim q
section
variable{X:Cx}{x:Str}{p pos:Pos}{e:Expr}{es:List Expr}{t:TA}{id T:String}{r:List V→Hp→VK→Prop}
def tCB(r:List V→Hp→VK→Prop)(t:TA):TE:=fun σ H Q=>t σ H fun vs H1=>r vs H1 Q
theorem aM(hc:fK X (.builtin id) r)(hg:Gl X x)(hm:X.mg x=none)(hv:bootBuiltins x=some (.builtin id))(ha:PA X (e::es) t)(hn:x≠"__name__":=by decide)(hdb:(x == ("__debug__":Str))=false:=by decide)
  (he:starEach (e::es) X.env=(false,eval e X.env)::starEach es X.env:=by rfl) (hpl:(backTo pos (starEach es X.env)).any (·.1)=false:=by rfl):PE X (.Call (.Name x p) (e::es) [] pos) (tCB r t):=by
 intro pins s σ H Q I h
 refine wpAny_Call_Name_kw (j5 I hg hm hv ?_ hn hdb)
 exact PyProof.Rows.callWith_builtin1 (thn (ha pos pins s σ H _ I h) fun us s1 ⟨vs,H1,I1,r1,q1⟩=>hc pins s1 σ H1 vs us Q I1 r1 q1) he hpl
theorem gZ(hc:fK X (.type T) r)(hg:Gl X x)(hm:X.mg x=none)(hv:bootBuiltins x=some (.type T))(ha:PA X (e::es) t)(hn:x≠"__name__":=by decide)(hdb:(x == ("__debug__":Str))=false:=by decide)
  (he:starEach (e::es) X.env=(false,eval e X.env)::starEach es X.env:=by rfl) (hpl:(backTo pos (starEach es X.env)).any (·.1)=false:=by rfl):PE X (.Call (.Name x p) (e::es) [] pos) (tCB r t):=by
 intro pins s σ H Q I h
 refine wpAny_Call_Name_kw (j5 I hg hm hv ?_ hn hdb)
 exact PyProof.Rows.callWith_type1 (thn (ha pos pins s σ H _ I h) fun us s1 ⟨vs,H1,I1,r1,q1⟩=>hc pins s1 σ H1 vs us Q I1 r1 q1) he hpl
end
end L2
namespace HT
open PySem PyProof.Rows
def lexLt:List Int→List Int→Bool
 | [],[]=>false
 | [],_::_=>true
 | _::_,[]=>false
 | x::xs,y::ys=>if x=y then lexLt xs ys else decide (x < y)
theorem lexLt_cons(x y:Int)(xs ys:List Int):lexLt (x::xs) (y::ys)=if x=y then lexLt xs ys else decide (x < y):=rfl
section
open PySem.SeqAt
open PySem.AutoSeq1 (wpAny_loadPart')
open PySem.MeetsSeq PySem.MeetsSeq2 PySem.MeetsSeq3
end
section
variable{prog:Program}{w:World}{A:Around}{E:Value→Shared→Prop}{s:Shared}
def sIx(n d:Nat):Option Int→Nat
 | none=>d
 | some v=>if v < 0 then(v+(n:Int)).toNat else min v.toNat n
theorem sIx_none(n d:Nat):sIx n d none=d:=rfl
theorem sIx_nat(n d k:Nat):sIx n d (some (k:Int))=min k n:=by
 show(if(k:Int) < 0 then((k:Int)+(n:Int)).toNat else min (k:Int).toNat n)=min k n
 rw[if_neg (by omega),Int.toNat_natCast]
theorem sIx_le(n d:Nat)(hd:d≤n)(o:Option Int):sIx n d o≤n:=by
 cases o with
 | none=>exact hd
 | some v=>
  show(if v < 0 then(v+(n:Int)).toNat else min v.toNat n)≤n
  by_cases hv:v < 0
  ·rw[if_pos hv];omega
  ·rw[if_neg hv];exact Nat.min_le_right _ _
theorem sj(v:Int)(n d:Nat):(if v < 0 then max (v+(n:Int)) 0 else min v (n:Int))=((sIx n d (some v):Nat):Int):=by
 show(if v < 0 then max (v+(n:Int)) 0 else min v (n:Int))=(((if v < 0 then(v+(n:Int)).toNat else min v.toNat n):Nat):Int)
 by_cases hv:v < 0
 ·simp only[if_pos hv];omega
 ·simp only[if_neg hv];omega
theorem qS(lo hi:Option Int)(n:Nat):Builtin.Slice.sliceAdjust lo hi 1 (n:Int)=(((sIx n 0 lo:Nat):Int),((sIx n n hi:Nat):Int)):=by
 have h1:¬ ((1:Int) < 0):=by omega
 unfold Builtin.Slice.sliceAdjust
 simp only[h1,if_false]
 refine Prod.ext ?_ ?_
 ·cases lo with
  | none=>rfl
  | some v=>exact sj v n 0
 ·cases hi with
  | none=>rfl
  | some v=>exact sj v n n
theorem qc(i j:Nat):Builtin.Slice.slicePlaces (i:Int) (j:Int) 1=j - i:=by
 unfold Builtin.Slice.slicePlaces
 have h1:(1:Int) > 0:=by omega
 simp only[h1,if_true,Int.ediv_one]
 split<;>omega
theorem jp{v:Value}{o:Option Int}{Q:Option Int→Shared→Prop}(p:IsPart v o)(h:Q o s):wpAny (model prog w) A (Builtin.Slice.slicePartIndex v) Q E s:=by
 cases p with
 | none=>exact slicePart_none h
 | int i t=>exact slicePart_int h
theorem sliceApplied_gen{sl:Addr}{vl vu:Value}{lo hi:Option Int}{n:Nat}{Q:Int × Int × Nat→Shared→Prop}(hs:s.heap.IsSliceOf sl vl vu .none)(pl:IsPart vl lo)(pu:IsPart vu hi)
  (h:Q (((sIx n 0 lo:Nat):Int),1,sIx n n hi - sIx n 0 lo) s):wpAny (model prog w) A (Builtin.Slice.sliceApplied (.ref sl) (pure (n:Int))) Q E s:=by
 obtain⟨os,hos,hcs,hds⟩:=id hs
 unfold Builtin.Slice.sliceApplied Builtin.Slice.sliceFields
 refine wpAny_bind (wpAny_bind (wpAny_field hos hds (x:=vl) rfl (wpAny_bind (wpAny_field hos hds (x:=vu) rfl (wpAny_bind (wpAny_field hos hds (x:=.none) rfl (wpAny_pure ?_)))))))
 refine wpAny_bind (slicePart_none ?_)
 show wpAny _ _ (if((1:Int) == 0)=true then _ else _) _ _ s
 rw[if_neg (by decide)]
 refine wpAny_bind (jp pl (wpAny_bind (jp pu (wpAny_bind (wpAny_pure ?_)))))
 show wpAny _ _ (match Builtin.Slice.sliceAdjust lo hi 1 (n:Int) with | (lo,hi)=>pure (lo,(1:Int),Builtin.Slice.slicePlaces lo hi 1)) _ _ s
 rw[qS lo hi n]
 show wpAny _ _ (pure (((sIx n 0 lo:Nat):Int),(1:Int),Builtin.Slice.slicePlaces ((sIx n 0 lo:Nat):Int) ((sIx n n hi:Nat):Int) 1)) _ _ s
 rw[qc]
 exact wpAny_pure h
theorem vb(xs:Array Value)(i k:Nat):((List.range k).filterMap fun(m:Nat)=>xs[((i:Int)+(m:Int)*1).toNat]?).toArray=((xs.toList.drop i).take k).toArray:=by
 have e:(fun(m:Nat)=>xs[((i:Int)+(m:Int)*1).toNat]?)=fun m=>xs[i+m]?:=by
  funext m
  have:((i:Int)+(m:Int)*1).toNat=i+m:=by omega
  rw[this]
 rw[e]
 have:=pick_run xs i k
 rw[List.filterMap_map] at this
 have e2:((fun x=>xs[x]?) ∘ fun x=>i+x)=fun m=>xs[i+m]?:=rfl
 rw[e2] at this
 rw[this]
theorem getItem_tuple_cut{t sl:Addr}{items:Array Value}{vl vu:Value}{lo hi:Option Int}{Q:Value→Shared→Prop}(ht:IsTup s.heap t items)(hs:s.heap.IsSliceOf sl vl vu .none)(pl:IsPart vl lo)(pu:IsPart vu hi)
  (hw:¬ (sIx items.size 0 lo=0∧sIx items.size items.size hi=items.size))
  (h:Q (.ref s.heap.objs.size) { s with heap:=s.heap.push { cls:=.type "tuple",data:=.seq ((items.toList.drop (sIx items.size 0 lo)).take (sIx items.size items.size hi - sIx items.size 0 lo)).toArray } })
  (hsz:items.size≤sizeLine):wpAny (model prog w) A (getItem (.ref t) (.ref sl)) Q E s:=by
 have htake:sizeOk (.seq ((items.toList.drop (sIx items.size 0 lo)).take (sIx items.size items.size hi - sIx items.size 0 lo)).toArray):=by
  show((items.toList.drop (sIx items.size 0 lo)).take (sIx items.size items.size hi - sIx items.size 0 lo)).toArray.size≤sizeLine
  rw[size_toArray,length_take,length_drop,Array.length_toList]
  omega
 have hj:sIx items.size items.size hi≤items.size:=sIx_le _ _ (Nat.le_refl _) hi
 obtain⟨os,hos,hcs,hds⟩:=id hs
 have hTs:s.TypeIs (.ref sl) "slice":=⟨os,hos,hcs⟩
 unfold getItem
 try with_reducible refine wpAny_holding ?_
 first | refine wpAny_bind (wpAny_pure ?_) | skip
 refine wpAny_bind (wpAny_sequenceKey ht.typeIs (by decide) ?_)
 refine wpAny_bind (wpAny_callSpecial?_slot (name:=Str.ofString "__getitem__") ht.typeIs PyProof.Rows.slot_tuple_getitem
  (wpAny_call_entry PyProof.Rows.slot_tuple_getitem ht.typeIs entry_tuple_getitem ?_ (args_tuple_getitem _ _)))
 show wpAny _ _ (Builtin.Tuple.tupleItemsOf (.ref t) >>= _) _ _ s
 refine wpAny_bind (tupleItemsOf_ ht ?_)
 refine wpAny_bind (wpAny_typeOf hTs ?_)
 rw[if_pos (by decide)]
 refine wpAny_bind (sliceApplied_gen hs pl pu ?_)
 have hno:¬ ((((sIx items.size 0 lo:Nat):Int) == 0 && (1:Int) == 1 && (sIx items.size items.size hi - sIx items.size 0 lo) == items.size)=true):=by
  intro q
  rw[Bool.and_eq_true,Bool.and_eq_true] at q
  have q1:((sIx items.size 0 lo:Nat):Int)=0:=eq_of_beq q.1.1
  have q2:sIx items.size items.size hi - sIx items.size 0 lo=items.size:=eq_of_beq q.2
  exact hw ⟨by omega,by omega⟩
 show wpAny _ _ (if(((sIx items.size 0 lo:Nat):Int) == 0 && (1:Int) == 1 && (sIx items.size items.size hi - sIx items.size 0 lo) == items.size)=true then _ else _) _ _ s
 rw[if_neg hno,vb]
 first
  | exact wpAny_bind (m:=Builtin.Tuple.tupleExact _) (wpAny_newObj_type (wpAny_pure ⟨_,rfl,wpAny_pure h⟩) htake)
  | exact wpAny_bind (m:=Builtin.Tuple.tupleExact _) (wpAny_newObj_type (wpAny_bind (wpAny_pure (wpAny_pure ⟨_,rfl,wpAny_pure h⟩))) htake)
  | exact wpAny_bind (wpAny_bind (m:=Builtin.Tuple.tupleExact _) (wpAny_newObj_type (wpAny_pure (wpAny_pure ⟨_,rfl,wpAny_pure h⟩)) htake))
  | exact wpAny_bind (wpAny_bind (m:=Builtin.Tuple.tupleExact _) (wpAny_newObj_type (wpAny_pure ⟨_,rfl,wpAny_pure h⟩) htake))
end
end HT
namespace L2
open PySem PySem.Spec PyProof.Rows
open PySem.W (Frag)
abbrev TO:=St→Hp→(Option Int→Hp→Prop)→Prop
def PO(X:Cx)(e:Option Expr)(t:TO):Prop:=
 ∀ (pins:List (Addr × Obj)) (s:Shared) (σ:St) (H:Hp) (Q:Option Int→Hp→Prop),Inv X pins σ H s→t σ H Q→
  wpAny (model X.prog X.w) X.A (evalPart e X.env) (fun u s'=>∃ o H',Inv X pins σ H' s'∧IsPart u o∧Q o H') X.xe s
def wH:TO:=fun _ H Q=>Q none H
def tPart(t:TE):TO:=fun σ H Q=>t σ H fun x H1=>∃ i,x=.int i∧Q (some i) H1
theorem qK{ns:List Int}:∀ {us:List Value},Vals (ns.map V.int) us→IntsAre us ns:=by
 induction ns with
 | nil=>intro us r;rw[List.map_nil] at r;cases r;exact .nil
 | cons n ns ih=>
  intro us r
  rw[map_cons] at r
  cases r with
  | cons r1 r2=>
   obtain⟨t,e⟩:=r1
   subst e
   exact .cons n t (ih r2)
section
variable{X:Cx}{e:Expr}{te:TE}{lo hi:Option Expr}{tl th:TO}{pos p2:Pos}
theorem ff:PO X none wH:=by
 intro pins s σ H Q I h
 rw[evalPart_none]
 exact wpAny_pure ⟨none,H,I,.none,h⟩
theorem cz(h:PE X e te):PO X (some e) (tPart te):=by
 intro pins s σ H Q I hw
 rw[evalPart_some]
 refine thn (h pins s σ H _ I hw) fun u s1 ⟨x,H1,I1,r1,q1⟩=>?_
 obtain⟨i,rfl,q⟩:=q1
 obtain⟨t,rfl⟩:=r1
 exact⟨some i,H1,I1,.int i t,q⟩
def SlR(X:Cx)(r:V→Option Int→Option Int→Hp→VK→Prop):Prop:=
 ∀ (pins:List (Addr × Obj)) (s:Shared) (σ:St) (H:Hp) (x:V) (v vl vu:Value) (lo hi:Option Int) (sl:Addr) (Q:VK),Inv X pins σ H s→RelV x v→s.heap.IsSliceOf sl vl vu .none→IsPart vl lo→IsPart vu hi→r x lo hi H Q→
  ∃ T id,typeLookup (.type T) "__getitem__"=pure (some (.builtin id))∧s.TypeIs v T∧wpAny (model X.prog X.w) X.A (getItem v (.ref sl)) (EP X pins σ Q) X.xe s
def tSl(r:V→Option Int→Option Int→Hp→VK→Prop)(te:TE)(tl th:TO):TE:=fun σ H Q=>te σ H fun x H1=>tl σ H1 fun l H2=>th σ H2 fun u H3=>r x l u H3 Q
theorem cG{r:V→Option Int→Option Int→Hp→VK→Prop}(hr:SlR X r)(he:PE X e te)(hl:PO X lo tl)(hu:PO X hi th):PE X (.Subscript e (.Slice lo hi none p2) pos) (tSl r te tl th):=by
 intro pins s σ H Q I h
 refine Subscript_ (thn (he pins s σ H _ I h) fun v s1 ⟨x,H1,I1,r1,q1⟩=>?_)
 refine wpAny_Slice (thn (hl pins s1 σ H1 _ I1 q1) fun vl s2 ⟨l,H2,I2,pl,q2⟩=>thn (hu pins s2 σ H2 _ I2 q2) fun vu s3 ⟨u,H3,I3,pu,q3⟩=>?_)
 rw[evalPart_none]
 refine wpAny_pure ?_
 have I4:Inv X pins σ H3 { s3 with heap:=s3.heap.push { cls:=.type "slice",data:=.fields #[vl,vu,.none] } }:=I3.kept (t':=s3.toks) fun b ob q=>Heap.get?_push_of_some _ q
 obtain⟨T,id,hT,ht,hg⟩:=hr pins { s3 with heap:=s3.heap.push { cls:=.type "slice",data:=.fields #[vl,vu,.none] } } σ H3 x v vl vu l u s3.heap.objs.size Q I4 r1 (Heap.IsSliceOf.new ..) pl pu q3
 show wpAny (model X.prog X.w) X.A (subscriptTail e (.Slice lo hi none p2) v (.ref s3.heap.objs.size)) (EP X pins σ Q) X.xe { s3 with heap:=s3.heap.push { cls:=.type "slice",data:=.fields #[vl,vu,.none] } }
 exact tail_any (ops:=[.ref s3.heap.objs.size,v]) ht hT hg (by with_unfolding_all rfl)
def cutV(xs:List V)(lo hi:Option Int):List V:=(xs.drop (HT.sIx xs.length 0 lo)).take (HT.sIx xs.length xs.length hi - HT.sIx xs.length 0 lo)
theorem iU(xs:List V)(lo hi:Option Int):(cutV xs lo hi).length≤xs.length:=by
 unfold cutV
 rw[length_take,length_drop]
 omega
def rSlT(K:Frag):V→Option Int→Option Int→Hp→VK→Prop:=fun x lo hi H Q=>∃ a xs,x=.ref a∧SqT K H a xs∧
 ¬ (HT.sIx xs.length 0 lo=0∧HT.sIx xs.length xs.length hi=xs.length)∧∀ p,H p=none→Q (.ref p) (upd H p (.tup (cutV xs lo hi)))
theorem sl_tup:SlR X (rSlT X.K):=by
 intro pins s σ H x v vl vu lo hi sl Q I rx hs pl pu h
 obtain⟨a,xs,rfl,hx,hw,q⟩:=h
 cases rx
 obtain⟨its,r,ht,hz⟩:=I.tuple hx
 have hlen:its.toArray.size=xs.length:=by rw[size_toArray];exact r.length.symm
 refine⟨"tuple",_,PyProof.Rows.slot_tuple_getitem.lookup,ht.typeIs,?_⟩
 refine HT.getItem_tuple_cut ht hs pl pu (by rw[hlen];exact hw) ?_ (by rw[hlen];exact hz)
 rw[hlen]
 refine⟨.ref s.heap.objs.size,_,I.laid (t':=s.toks) (o:=.tup (cutV xs lo hi)) (fun b ob q=>Heap.get?_push_of_some _ q) (Nat.le_refl _) ?_,rfl,q _ (I.hok.fresh (Nat.le_refl _))⟩
 exact⟨Nat.le_trans (iU xs lo hi) hz,_,(r.drop (HT.sIx xs.length 0 lo)).take (HT.sIx xs.length xs.length hi - HT.sIx xs.length 0 lo),IsTup.new _ _⟩
end
def ixN(n:Nat)(i:Int):Option Nat:=if 0≤i then(if i < n then some i.toNat else none) else if -(n:Int)≤i then some (i+n).toNat else none
def atI{α:Type}(xs:List α)(i:Int):Option α:=(ixN xs.length i).bind fun j=>xs[j]?
theorem rV{n:Nat}{i:Int}{j:Nat}(h:ixN n i=some j):seqIndex? i n=some j∧j < n∧-(n:Int)≤i∧i < n:=by
 unfold ixN at h
 by_cases h0:0≤i
 ·rw[if_pos h0] at h
  by_cases h1:i < n
  ·rw[if_pos h1] at h
   have e:i.toNat=j:=Option.some.inj h
   exact⟨by rw[seqIndex_of h0 h1,e],by omega,by omega,h1⟩
  ·rw[if_neg h1] at h;cases h
 ·rw[if_neg h0] at h
  by_cases h1:-(n:Int)≤i
  ·rw[if_pos h1] at h
   have e:(i+n).toNat=j:=Option.some.inj h
   exact⟨by rw[seqIndex_neg (by omega) h1,e],by omega,h1,by omega⟩
  ·rw[if_neg h1] at h;cases h
theorem sk{α:Type}{xs:List α}{i:Int}{v:α}(h:atI xs i=some v):∃ j,seqIndex? i xs.length=some j∧xs[j]?=some v∧j < xs.length∧-(xs.length:Int)≤i∧i < xs.length:=by
 unfold atI at h
 cases e:ixN xs.length i with
 | none=>rw[e] at h;cases h
 | some j=>
  rw[e] at h
  obtain⟨h1,h2,h3,h4⟩:=rV e
  exact⟨j,h1,h,h2,h3,h4⟩
theorem ax{α:Type}{xs:List α}{j:Nat}{v:α}(h:xs[j]?=some v):atI xs (j:Int)=some v:=by
 have hj:j < xs.length:=(List.getElem?_eq_some_iff.mp h).1
 have e:ixN xs.length (j:Int)=some j:=by
  unfold ixN
  rw[if_pos (by omega),if_pos (by omega)];simp
 unfold atI;rw[e];exact h
theorem wr{α:Type}(xs:List α)(v:α):atI (xs++[v]) (-1)=some v:=by
 have hl:(xs++[v]).length=xs.length+1:=by simp
 have e:ixN (xs++[v]).length (-1)=some xs.length:=by
  unfold ixN
  rw[hl,if_neg (by decide),if_pos (by omega)]
  congr 1
  omega
 unfold atI
 rw[e]
 show(xs++[v])[xs.length]?=some v
 simp
def xH(b:Expr):Prop:=∀ o i,subscripted b false o i=operate [o,i] (getItem o i)
def IxR(X:Cx)(r:R2):Prop:=
 ∀ (value slice:Expr) (pins:List (Addr × Obj)) (s:Shared) (σ:St) (H:Hp) (x y:V) (v u:Value) (Q:VK),Inv X pins σ H s→RelV x v→RelV y u→r x y H Q→
  subscripted slice false v u=operate [v,u] (getItem v u)→wpAny (model X.prog X.w) X.A (subscriptTail value slice v u) (EP X pins σ Q) X.xe s
def MtR(X:Cx)(id:String)(r:V→List V→Hp→VK→Prop):Prop:=
 ∀ (pins:List (Addr × Obj)) (s:Shared) (σ:St) (H:Hp) (x:V) (xs:List V) (v:Value) (us:List Value) (Q:VK),Inv X pins σ H s→RelV x v→Vals xs us→r x xs H Q→
  wpAny (model X.prog X.w) X.A (call (.builtin id) (v::us)) (EP X pins σ Q) X.xe s
section
variable{X:Cx}{a b:Expr}{ta tb:TE}{pos:Pos}
theorem aE{r:R2}(hr:IxR X r)(ha:PE X a ta)(hb:PE X b tb)(hs:xH b):PE X (.Subscript a b pos) (tOp r ta tb):=by
 intro pins s σ H Q I h
 exact Subscript_ (binT ha hb I h fun v u s2 x y H2 I2 rx ry q=>hr a b pins s2 σ H2 x y v u Q I2 rx ry q (hs _ _))
def rIxL(K:Frag):R2:=fun x y H Q=>∃ p xs i v,x=.ref p∧y=.int i∧SqL K H p xs∧atI xs i=some v∧Q v H
def rIxT(K:Frag):R2:=fun x y H Q=>∃ p xs i v,x=.ref p∧y=.int i∧SqT K H p xs∧atI xs i=some v∧Q v H
theorem aB:IxR X (rIxL X.K):=by
 intro value slice pins s σ H x y v u Q I rx ry h hs
 obtain⟨p,xs,i,z,rfl,rfl,hq,he,q⟩:=h
 cases rx
 obtain⟨t,rfl⟩:=ry
 obtain⟨its,r,pl,hz⟩:=I.list hq
 obtain⟨j,h1,h2,h3,h4,h5⟩:=sk he
 obtain⟨w,ew,rw'⟩:=r.get h2
 have hl:=r.length
 have hn:=jZ
 have fin:EP X pins σ Q w s:=⟨z,H,I,rw',q⟩
 by_cases h0:0≤i
 ·have hj:i.toNat=j:=by
   rw[seqIndex_of h0 h5] at h1
   exact Option.some.inj h1
  exact item_listR pl.isList h0 (by omega) (by rw[hj];simpa using ew) fin hs
 ·have hj:(i+(its.toArray.size:Int)).toNat=j:=by
   rw[seqIndex_neg (by omega) h4] at h1
   rw[size_toArray,←hl]
   exact Option.some.inj h1
  exact subscriptTail_builtinR (x:=w) pl.isList.typeIs slot_list_getitem.lookup
   (wpAny_getItem_list_neg (Q:=fun r s'=>r=w∧EP X pins σ Q r s') pl.isList (by omega) (by rw[size_toArray]<;>omega) (by omega) (by rw[hj];simpa using ew) ⟨rfl,fin⟩) hs
theorem bg:IxR X (rIxT X.K):=by
 intro value slice pins s σ H x y v u Q I rx ry h hs
 obtain⟨p,xs,i,z,rfl,rfl,hq,he,q⟩:=h
 cases rx
 obtain⟨t,rfl⟩:=ry
 obtain⟨its,r,pl,hz⟩:=I.tuple hq
 obtain⟨j,h1,h2,h3,h4,h5⟩:=sk he
 obtain⟨w,ew,rw'⟩:=r.get h2
 have hl:=r.length
 have hn:=jZ
 have fin:EP X pins σ Q w s:=⟨z,H,I,rw',q⟩
 exact subscriptTail_builtinR (x:=w) pl.typeIs slot_tuple_getitem.lookup
  (getItem_tuple (j:=j) (Q:=fun r s'=>r=w∧EP X pins σ Q r s') pl (by omega) (by omega) (by rw[size_toArray,←hl];exact h1) (by simpa using ew) ⟨rfl,fin⟩) hs
theorem qz(its:List Value)(n j:Nat)(u:Value):Obj.mapSeq (·.setIfInBounds j u) { cls:=.type "list",data:=.seq its.toArray n }={ cls:=.type "list",data:=.seq (its.set j u).toArray n }:=by
 simp[Obj.mapSeq]
theorem Inv.lst{pins:List (Addr × Obj)}{σ:St}{H:Hp}{s:Shared}{p:Addr}{xs:List V}(I:Inv X pins σ H s)(h:H p=some (.lst xs)) :
  ∃ (its:List Value) (n:Nat),Vals xs its∧s.heap.get? p=some { cls:=.type "list",data:=.seq its.toArray n }∧xs.length≤sizeLine:=by
 obtain⟨z,its,n,r,e⟩:=I.hok p _ h
 exact⟨its,n,r,e,z⟩
theorem Inv.lstUpd{pins:List (Addr × Obj)}{σ:St}{H:Hp}{s:Shared}{p:Addr}{xs ys:List V}{its its':List Value}{n n':Nat}{f:Obj→Obj}(I:Inv X pins σ H s)(h:H p=some (.lst xs))
  (ho:s.heap.get? p=some { cls:=.type "list",data:=.seq its.toArray n }) (hf:f { cls:=.type "list",data:=.seq its.toArray n }={ cls:=.type "list",data:=.seq its'.toArray n' }) (r:Vals ys its') (hz:ys.length≤sizeLine) (t:Nat) :
  Inv X pins σ (upd H p (.lst ys)) { s with heap:=s.heap.update p f,toks:=t }:=by
 have e:(s.heap.update p f).get? p=some { cls:=.type "list",data:=.seq its'.toArray n' }:=by
  rw[Heap.get?_update_self f ho (by rw[hf]<;>rfl),hf]
 refine I.write (x:=p) (e:=p) (by rw[h];trivial) (.inl rfl) (fun b u hb q=>(Heap.get?_update_other _ _ (Ne.symm hb)).trans q) ⟨_,e⟩ ?_
 exact⟨hz,its',n',r,e⟩
def rSetL:V→V→V→Hp→(Hp→Prop)→Prop:=fun o i v H Q=>∃ p xs k j,o=.ref p∧i=.int k∧H p=some (.lst xs)∧ixN xs.length k=some j∧Q (upd H p (.lst (xs.set j v)))
theorem ux:PSet X rSetL:=by
 intro pins s σ H o i v ov iv u Q I ro ri rv h
 obtain⟨p,xs,k,j,rfl,rfl,hp,hj,q⟩:=h
 cases ro
 obtain⟨t,rfl⟩:=ri
 obtain⟨its,n,r,ho,hz⟩:=I.lst hp
 obtain⟨h1,h2,h3,h4⟩:=rV hj
 have hl:=r.length
 have hn:=jZ
 have I':Inv X pins σ (upd H p (.lst (xs.set j v))) { s with heap:=s.heap.update p (Obj.mapSeq (·.setIfInBounds j u)) }:=
  I.lstUpd hp ho (qz its n j u) (r.set rv j) (by rw[List.length_set];exact hz) s.toks
 by_cases h0:0≤k
 ·have hk:k.toNat=j:=by
   rw[seqIndex_of h0 h4] at h1
   exact Option.some.inj h1
  exact PySem.W.ki_setAt ho h0 (by omega) (by rw[size_toArray,←hl];exact h4) (by rw[hk];exact⟨_,I',q⟩)
 ·have hk:(k+(its.toArray.size:Int)).toNat=j:=by
   rw[seqIndex_neg (by omega) h3] at h1
   rw[size_toArray,←hl]
   exact Option.some.inj h1
  exact PySem.W.ki_setBack ho (by omega) (by rw[size_toArray,←hl];exact h3) (by omega) (by rw[hk];exact⟨_,I',q⟩)
theorem mq(lo hi:Option Int)(n:Nat):(sliceBounds lo hi none n).1=((HT.sIx n 0 lo:Nat):Int)∧(sliceBounds lo hi none n).2.1=((HT.sIx n n hi:Nat):Int)∧(sliceBounds lo hi none n).2.2=1:=by
 refine⟨?_,?_,rfl⟩
 ·cases lo with
  | none=>simp[sliceBounds,HT.sIx]
  | some i=>
   simp only[sliceBounds,HT.sIx,Option.getD_none,show(1:Int) > 0 by decide,if_true]
   by_cases h:i < 0
   ·simp only[h,if_true]<;>omega
   ·simp only[h,if_false]<;>omega
 ·cases hi with
  | none=>simp[sliceBounds,HT.sIx]
  | some i=>
   simp only[sliceBounds,HT.sIx,Option.getD_none,show(1:Int) > 0 by decide,if_true]
   by_cases h:i < 0
   ·simp only[h,if_true]<;>omega
   ·simp only[h,if_false]<;>omega
theorem kL(its:List Value)(lo hi:Option Int):slicePick its.toArray lo hi none=((its.drop (HT.sIx its.length 0 lo)).take (HT.sIx its.length its.length hi - HT.sIx its.length 0 lo)).toArray:=by
 obtain⟨h1,h2,h3⟩:=mq lo hi its.toArray.size
 unfold slicePick
 rw[h1,h2,h3]
 simp only[sliceRange_one,pick_run,size_toArray]<;>rfl
def rSlL(K:Frag):V→Option Int→Option Int→Hp→VK→Prop:=fun x lo hi H Q=>∃ a xs,x=.ref a∧SqL K H a xs∧∀ p,H p=none→Q (.ref p) (upd H p (.lst (cutV xs lo hi)))
theorem eY:SlR X (rSlL X.K):=by
 intro pins s σ H x v vl vu lo hi sl Q I rx hs pl pu h
 obtain⟨a,xs,rfl,hx,q⟩:=h
 cases rx
 obtain⟨its,r,ht,hz⟩:=I.list hx
 have hlen:=r.length
 refine⟨"list",_,slot_list_getitem.lookup,ht.isList.typeIs,?_⟩
 refine wpAny_getItem_list_slice ht.isList hs pl pu .none (by simp) ?_ (by rw[size_toArray]<;>omega)
 rw[kL,←hlen]
 refine⟨.ref s.heap.objs.size,_,I.laid (t':=s.toks) (o:=.lst (cutV xs lo hi)) (fun b ob q=>Heap.get?_push_of_some _ q) (Nat.le_refl _) ?_,rfl,q _ (I.hok.fresh (Nat.le_refl _))⟩
 exact⟨Nat.le_trans (iU xs lo hi) hz,_,0,(r.drop (HT.sIx xs.length 0 lo)).take (HT.sIx xs.length xs.length hi - HT.sIx xs.length 0 lo),Heap.get?_push_size _ rfl⟩
def iR:V→Bool
 | .non=>true
 | .bl _=>true
 | .int _=>true
 | .str _=>true
 | _=>false
def eqV:V→V→Bool
 | .non,.non=>true
 | .bl a,.bl b=>a == b
 | .bl a,.int b=>(if a then 1 else 0) == b
 | .int a,.bl b=>a == (if b then 1 else 0)
 | .int a,.int b=>a == b
 | .str a,.str b=>a == b
 | _,_=>false
theorem eqAt_V{A:Around}{s:Shared}{y x:V}{u v:Value}(ry:RelV y u)(rx:RelV x v)(fy:iR y=true)(fx:iR x=true):SeqAt.EqAt A s u v (eqV y x):=by
 cases y with
 | non=>
  cases ry
  cases x with
  | non=>cases rx;exact SeqAt.EqAt.same _
  | bl b=>cases rx;exact SeqAt.EqAt.none_bool b
  | int b=>obtain⟨t,rfl⟩:=rx;exact SeqAt.EqAt.none_int b t
  | str b=>obtain⟨t,rfl⟩:=rx;exact SeqAt.EqAt.none_str b t
  | _=>exact absurd (show false=true from fx) Bool.false_ne_true
 | bl a=>
  cases ry
  cases x with
  | non=>cases rx;exact SeqAt.EqAt.bool_none a
  | bl b=>cases rx;exact SeqAt.EqAt.bool_bool a b
  | int b=>obtain⟨t,rfl⟩:=rx;exact SeqAt.EqAt.bool_int a b t
  | str b=>obtain⟨t,rfl⟩:=rx;exact SeqAt.EqAt.bool_str a b t
  | _=>exact absurd (show false=true from fx) Bool.false_ne_true
 | int a=>
  obtain⟨t',rfl⟩:=ry
  cases x with
  | non=>cases rx;exact SeqAt.EqAt.int_none a t'
  | bl b=>cases rx;exact SeqAt.EqAt.int_bool a t' b
  | int b=>obtain⟨t,rfl⟩:=rx;exact SeqAt.EqAt.int_int a t' b t
  | str b=>obtain⟨t,rfl⟩:=rx;exact SeqAt.EqAt.int_str a t' b t
  | _=>exact absurd (show false=true from fx) Bool.false_ne_true
 | str a=>
  obtain⟨t',rfl⟩:=ry
  cases x with
  | non=>cases rx;exact SeqAt.EqAt.str_none a t'
  | bl b=>cases rx;exact SeqAt.EqAt.str_bool a t' b
  | int b=>obtain⟨t,rfl⟩:=rx;exact SeqAt.EqAt.str_int a t' b t
  | str b=>obtain⟨t,rfl⟩:=rx;exact SeqAt.EqAt.str_str a t' b t
  | _=>exact absurd (show false=true from fx) Bool.false_ne_true
 | _=>exact absurd (show false=true from fy) Bool.false_ne_true
def eqU(x:V)(u:Value):Bool:=match u with
 | .none=>eqV .non x
 | .bool b=>eqV (.bl b) x
 | .int i _=>eqV (.int i) x
 | .str z _=>eqV (.str z) x
 | _=>false
theorem wc{x y:V}{u:Value}(r:RelV y u)(f:iR y=true):eqU x u=eqV y x:=by
 cases y with
 | non=>cases r;rfl
 | bl b=>cases r;rfl
 | int i=>obtain⟨t,rfl⟩:=r;rfl
 | str z=>obtain⟨t,rfl⟩:=r;rfl
 | _=>exact absurd (show false=true from f) Bool.false_ne_true
theorem gC{x:V}:∀ {xs:List V} {us:List Value},Vals xs us→xs.all iR=true→us.any (eqU x)=xs.any fun y=>eqV y x
 | _,_,.nil,_=>rfl
 | y::xs,u::us,.cons r t,f=>by
  rw[List.all_cons,Bool.and_eq_true] at f
  rw[List.any_cons,List.any_cons,wc r f.1,gC t f.2]
theorem eF{A:Around}{s:Shared}{x:V}{v:Value}(rx:RelV x v)(fx:iR x=true):∀ {xs:List V} {us:List Value},Vals xs us→xs.all iR=true→∀ u∈us,SeqAt.EqAt A s u v (eqU x u)
 | _,_,.nil,_=>fun u hu=>by cases hu
 | y::xs,u::us,.cons r t,f=>fun u' hu=>by
  rw[List.all_cons,Bool.and_eq_true] at f
  rcases mem_cons.mp hu with rfl | hu
  ·rw[wc r f.1];exact eqAt_V r rx f.1 fx
  ·exact eF rx fx t f.2 u' hu
def inV(x:V)(xs:List V):Bool:=xs.any fun y=>eqV y x
def rIn(K:Frag)(neg:Bool):R2:=fun x y H Q=>∃ p xs,y=.ref p∧(SqL K H p xs∨SqT K H p xs)∧iR x=true∧xs.all iR=true∧Q (.bl (if neg then !inV x xs else inV x xs)) H
theorem tE:OpR X (compareOp .In) (rIn X.K false):=by
 intro pins s σ H x y v u Q I rx ry h
 obtain⟨p,xs,rfl,hq,fx,fs,q⟩:=h
 cases ry
 rcases hq with hq | hq
 ·obtain⟨its,r,pl,hz⟩:=I.list hq
  refine SeqAt.in_listAt (eqU x) pl.isList (fun w hw=>eF rx fx r fs w (by simpa using hw)) ⟨.bl _,H,I,rfl,?_⟩
  rw[show its.toArray.any (eqU x)=its.any (eqU x) by simp,gC r fs]
  exact q
 ·obtain⟨its,r,pl,hz⟩:=I.tuple hq
  refine SeqAt.in_tupleAt (eqU x) pl (fun w hw=>eF rx fx r fs w (by simpa using hw)) ⟨.bl _,H,I,rfl,?_⟩
  rw[show its.toArray.any (eqU x)=its.any (eqU x) by simp,gC r fs]
  exact q
theorem mK:OpR X (compareOp .NotIn) (rIn X.K true):=by
 intro pins s σ H x y v u Q I rx ry h
 obtain⟨p,xs,rfl,hq,fx,fs,q⟩:=h
 cases ry
 rcases hq with hq | hq
 ·obtain⟨its,r,pl,hz⟩:=I.list hq
  refine SeqAt.notIn_listAt (eqU x) pl.isList (fun w hw=>eF rx fx r fs w (by simpa using hw)) ⟨.bl _,H,I,rfl,?_⟩
  rw[show its.toArray.any (eqU x)=its.any (eqU x) by simp,gC r fs]
  exact q
 ·obtain⟨its,r,pl,hz⟩:=I.tuple hq
  refine SeqAt.notIn_tupleAt (eqU x) pl (fun w hw=>eF rx fx r fs w (by simpa using hw)) ⟨.bl _,H,I,rfl,?_⟩
  rw[show its.toArray.any (eqU x)=its.any (eqU x) by simp,gC r fs]
  exact q
theorem aG:fK X (.builtin "len") (fun xs H Q=>∃ p ys,xs=[.ref p]∧(SqL X.K H p ys∨SqT X.K H p ys)∧Q (.int ys.length) H):=by
 intro pins s σ H xs us Q I r h
 obtain⟨p,ys,rfl,hq,q⟩:=h
 obtain⟨u,rfl,rx⟩:=jg r
 cases rx
 have hn:=jZ
 rcases hq with hq | hq
 ·obtain⟨its,r',pl,hz⟩:=I.list hq
  have hlen:=r'.length
  exact Calls.call_len_list pl.isList (by simp only[size_toArray]<;>omega) ⟨.int ys.length,H,I.tok _,⟨s.toks+1,by rw[size_toArray,hlen]⟩,q⟩
 ·obtain⟨its,r',pl,hz⟩:=I.tuple hq
  have hlen:=r'.length
  exact len_tuple pl (by simp only[size_toArray]<;>omega) ⟨.int ys.length,H,I.tok _,⟨s.toks+1,by rw[size_toArray,hlen]⟩,q⟩
theorem gA:fK X (.type "list") (fun xs H Q=>∃ p ys,xs=[.ref p]∧(SqL X.K H p ys∨SqT X.K H p ys)∧∀ l,H l=none→Q (.ref l) (upd H l (.lst ys))):=by
 intro pins s σ H xs us Q I r h
 obtain⟨p,ys,rfl,hq,q⟩:=h
 obtain⟨u,rfl,rx⟩:=jg r
 cases rx
 have fin:∀ (its:List Value),Vals ys its→ys.length≤sizeLine→∀ (h':Heap) (c':Nat),(∀ b o',s.heap.get? b=some o'→h'.get? b=some o')→
   h'.get? s.heap.objs.size=some { cls:=.type "list",dict:=none,data:=.seq its.toArray c',slots:=#[] }→EP X pins σ Q (.ref s.heap.objs.size) { s with heap:=h' }:=fun its r' hz h' c' kp e=>
  ⟨.ref s.heap.objs.size,_,I.laid (t':=s.toks) kp (Nat.le_refl _) (show bA X.prog X.w _ h' _ (.lst ys) from⟨hz,its,c',r',e⟩),rfl,q _ (I.hok.fresh (Nat.le_refl _))⟩
 rcases hq with hq | hq
 ·obtain⟨its,r',pl,hz⟩:=I.list hq
  have hlen:=r'.length
  obtain⟨o,ho,hc,n,hd⟩:=pl.isList
  exact call_list_seq p (.inl rfl) ho hc hd (fun h' c' kp e=>fin its r' hz h' c' kp e) (by simp only[size_toArray]<;>omega)
 ·obtain⟨its,r',pl,hz⟩:=I.tuple hq
  have hlen:=r'.length
  obtain⟨o,ho,hc,n,hd⟩:=pl
  exact call_list_seq p (.inr rfl) ho hc hd (fun h' c' kp e=>fin its r' hz h' c' kp e) (by simp only[size_toArray]<;>omega)
def tyV(K:Frag)(T:String)(x:V)(H:Hp):Prop:=match x with
 | .str _=>T="str"
 | .int _=>T="int"
 | .ref p=>(T="list"∧∃ xs,SqL K H p xs)∨(T="tuple"∧∃ o,K.lookup p=some o∧o.cls=.type "tuple"∧o.dict=none)∨
   (T="dict"∧((∃ kvs,H p=some (.dK kvs))∨∃ kvs,H p=some (.dT kvs)))∨(T="set"∧∃ S n,H p=some (.set S n))
 | _=>False
theorem tyV_is{pins:List (Addr × Obj)}{σ:St}{H:Hp}{s:Shared}{T:String}{x:V}{v:Value}(I:Inv X pins σ H s)(r:RelV x v)(ty:tyV X.K T x H) :
  s.TypeIs v T∧∀ a,v=.ref a→∃ ob,s.heap.get? a=some ob∧ob.dict=none:=by
 cases x with
 | str z=>
  obtain⟨t,rfl⟩:=r
  cases (show T="str" from ty)
  exact⟨typeIs_str s z t,fun _ e=>nomatch e⟩
 | int i=>
  obtain⟨t,rfl⟩:=r
  cases (show T="int" from ty)
  exact⟨typeIs_int s i t,fun _ e=>nomatch e⟩
 | ref p=>
  cases r
  rcases ty with⟨rfl,xs,hq⟩ | ⟨rfl,o,hk,hc,hd⟩ | ⟨rfl,hk⟩ | ⟨rfl,S,n,hk⟩
  ·obtain⟨its,_,pl,_⟩:=I.list hq
   refine⟨pl.isList.typeIs,fun a e=>?_⟩
   cases e
   obtain⟨o,n,e,c,hd,_⟩:=pl
   exact⟨o,e,hd⟩
  ·refine⟨⟨o,I.kIn p o hk,hc⟩,fun a e=>?_⟩
   cases e
   exact⟨o,I.kIn _ o hk,hd⟩
  ·have z:∃ o,s.heap.get? p=some o∧o.ExactDict:=by
    rcases hk with⟨kvs,hk⟩ | ⟨kvs,hk⟩
    ·obtain⟨_,_,_,_,o,_,_,e,ex,_⟩:=I.hok p _ hk
     exact⟨o,e,ex⟩
    ·obtain⟨_,_,_,_,o,_,_,e,ex,_⟩:=I.hok p _ hk
     exact⟨o,e,ex⟩
   obtain⟨o,e,ex⟩:=z
   refine⟨⟨o,e,ex.1⟩,fun a e2=>?_⟩
   cases e2
   exact⟨o,e,ex.2.1⟩
  ·obtain⟨o,_,_,_,e,ex,_⟩:=I.hok p _ hk
   refine⟨⟨o,e,ex.1⟩,fun a e2=>?_⟩
   cases e2
   exact⟨o,e,ex.2.1⟩
 | _=>exact False.elim ty
def tBM(K:Frag)(T:String)(r:V→List V→Hp→VK→Prop)(to:TE)(t:TA):TE:=fun σ H Q=>to σ H fun x H1=>tyV K T x H1∧t σ H1 fun xs H2=>r x xs H2 Q
variable{o e:Expr}{es:List Expr}{to:TE}{t:TA}{name:Str}{apos cpos:Pos}{T id:String}{r:V→List V→Hp→VK→Prop}
theorem eu(pa:PlainAttrs T)(slot:Slot T name id)(hty:typeOf (.builtin id)=pure (.type "method_descriptor"))(hm:MtR X id r)(ho:PE X o to)(ha:PA X (e::es) t)
  (hbase:attributeBase o name X.env (eval o X.env)=eval o X.env:=by rfl)
  (hfew:((backTo cpos (starEach (e::es) X.env)).all (fun x=>!x.1) && (backToKw cpos (keywordEach [] X.env)).all (fun x=>x.1.isSome)
   && decide ((e::es).length+([]:List Keyword).length+(if([]:List Keyword).isEmpty then 0 else 1) < 30))=true:=by rfl)
  (hline:(apos.endLine == cpos.line)=true:=by rfl) (hs:starEach (e::es) X.env=(false,eval e X.env)::starEach es X.env:=by rfl) (hplain:(backTo cpos (starEach es X.env)).any (·.1)=false:=by rfl) :
  PE X (.Call (.Attribute o name apos) (e::es) [] cpos) (tBM X.K T r to t):=by
 intro pins s σ H Q I h
 refine wpAny_Call_method_late hbase hfew hline rfl (thn (ho pins s σ H _ I h) fun v s1 ⟨x,H1,I1,r1,ty,q1⟩=>?_)
 obtain⟨h1,h2⟩:=tyV_is I1 r1 ty
 refine⟨T,id,pa,slot,hty,h1,h2,?_⟩
 have hA:=ha cpos pins s1 σ H1 _ I1 q1
 rw[hs] at hA ⊢
 refine Calls.callWith_builtin (by show(false || (backTo cpos (starEach es X.env)).any (·.1))=false;rw[hplain]<;>rfl) (Calls.evalArgs_plain ?_)
 exact thn hA fun us s2 ⟨vs,H2,I2,r2,q2⟩=>hm pins s2 σ H2 x vs v us Q I2 r1 r2 q2
end
def MtM(X:Cx)(id:String)(r:V→List V→Hp→VK→Prop):Prop:=
 ∀ (pins:List (Addr × Obj)) (s:Shared) (σ:St) (H:Hp) (x:V) (xs:List V) (v:Value) (us:List Value) (Q:VK),Inv X pins σ H s→RelV x v→Vals xs us→r x xs H Q→
  wpAny (model X.prog X.w) X.A (call (.builtin id) (v::us)) (EP X pins σ Q) X.xe s
theorem Vals.one:∀ {x:V} {us:List Value},Vals [x] us→∃ u,us=[u]∧RelV x u
 | _,_,.cons r .nil=>⟨_,rfl,r⟩
section
variable{X:Cx}{pins:List (Addr × Obj)}{σ:St}{H:Hp}{s:Shared}{l b:Addr}{xs ys zs:List V}
theorem Inv.lset{its its':List Value}{n:Nat}{f:Array Value→Array Value}{t':Nat}(I:Inv X pins σ H s)(hH:H l=some (.lst xs))
  (e:s.heap.get? l=some { cls:=.type "list",data:=.seq its.toArray n }) (hf:f its.toArray=its'.toArray) (hv:Vals ys its') (hz:ys.length≤sizeLine) :
  Inv X pins σ (upd H l (.lst ys)) { s with heap:=s.heap.update l (Obj.mapSeq f),toks:=t' }:=by
 have q:=PySem.IsL.update e f
 rw[hf] at q
 refine I.write (x:=l) (e:=l) (by rw[hH];exact trivial) (.inl rfl) (fun b' u hb hu=>(Heap.get?_update_other s.heap (Obj.mapSeq f) (Ne.symm hb)).trans hu) ⟨_,q⟩ ?_
 exact⟨hz,its',_,hv,q⟩
theorem Inv.lnew{its:List Value}{t':Nat}(I:Inv X pins σ H s)(hv:Vals ys its)(hz:ys.length≤sizeLine) :
  Inv X pins σ (upd H s.heap.objs.size (.lst ys)) { s with heap:=s.heap.push { cls:=.type "list",data:=.seq its.toArray },toks:=t' }:=
 I.laid (fun _ _ q=>Heap.get?_push_of_some _ q) (Nat.le_refl _) ⟨hz,its,0,hv,Heap.get?_push_size _ rfl⟩
theorem Inv.fresh(I:Inv X pins σ H s):H s.heap.objs.size=none:=I.hok.fresh (Nat.le_refl _)
theorem Inv.lstM(I:Inv X pins σ H s)(hH:H l=some (.lst xs)):xs.length≤sizeLine∧∃ (its:List Value) (n:Nat),Vals xs its∧xs.length=its.length∧s.heap.get? l=some { cls:=.type "list",data:=.seq its.toArray n }:=by
 obtain⟨z,its,n,r,e⟩:=I.hok l _ hH
 exact⟨z,its,n,r,r.length,e⟩
theorem oK{n:Nat}(h:n≤sizeLine):Builtin.List.listTooLong n=false:=by
 unfold Builtin.List.listTooLong
 exact decide_eq_false (by omega)
end
section
variable{X:Cx}
def wR:V→List V→Hp→VK→Prop:=fun x vs H Q=>∃ l xs y,x=.ref l∧vs=[y]∧H l=some (.lst xs)∧xs.length < sizeLine∧Q .non (upd H l (.lst (xs++[y])))
theorem fh:MtM X "list.append" wR:=by
 intro pins s σ H x vs v us Q I rx rv h
 obtain⟨l,xs,y,rfl,rfl,hH,hz,q⟩:=h
 cases rx
 obtain⟨u,rfl,ru⟩:=rv.one
 obtain⟨z,its,n,r,hl,e⟩:=I.lstM hH
 refine call_meets F.slot_list_append ⟨_,e,rfl⟩ F.entry_list_append (F.args_list_append_2 _ _) (PySem.list_append l its.toArray n u (by rw[size_toArray];omega)) ⟨e,?_⟩
 refine⟨.non,_,I.lset (its':=its++[u]) hH e (by simp) (r.append (.cons ru .nil)) ?_,rfl,q⟩
 rw[length_append,length_singleton]
 omega
def wP:V→List V→Hp→VK→Prop:=fun x vs H Q=>∃ l b xs zs,x=.ref l∧vs=[.ref b]∧H l=some (.lst xs)∧H b=some (.lst zs)∧xs.length+zs.length≤sizeLine∧Q .non (upd H l (.lst (xs++zs)))
theorem ib:MtM X "list.extend" wP:=by
 intro pins s σ H x vs v us Q I rx rv h
 obtain⟨l,b,xs,zs,rfl,rfl,hH,hB,hz,q⟩:=h
 cases rx
 obtain⟨u,rfl,ru⟩:=rv.one
 cases ru
 obtain⟨z,its,n,r,hl,e⟩:=I.lstM hH
 obtain⟨z2,its2,n2,r2,hl2,e2⟩:=I.lstM hB
 have hsz:its.toArray.size+its2.toArray.size≤sizeLine:=by rw[size_toArray,size_toArray];omega
 have hlong:¬ (!its.toArray.isEmpty && Builtin.List.listTooLong (its.toArray.size+its2.toArray.size))=true:=by
  rw[oK hsz,Bool.and_false]
  exact Bool.false_ne_true
 refine call_meets F.slot_list_extend ⟨_,e,rfl⟩ F.entry_list_extend (F.args_list_extend_2 _ _)
  (AutoSeq1.list_extend_list_list_0 l its.toArray n b its2.toArray n2 hlong (by rw[size_toArray];omega) (by omega)) ⟨e,e2,?_⟩
 refine⟨.non,_,I.lset (its':=its++its2) hH e (by simp) (r.append r2) ?_,rfl,q⟩
 rw[length_append]
 omega
def rCat:R2:=fun x y H Q=>∃ l b xs zs,x=.ref l∧y=.ref b∧H l=some (.lst xs)∧H b=some (.lst zs)∧xs.length+zs.length≤sizeLine∧∀ p,H p=none→Q (.ref p) (upd H p (.lst (xs++zs)))
theorem qj:OpR X (binaryOp .Add) rCat:=by
 intro pins s σ H x y v u Q I rx ry h
 obtain⟨l,b,xs,zs,rfl,rfl,hH,hB,hz,q⟩:=h
 cases rx
 cases ry
 obtain⟨z,its,n,r,hl,e⟩:=I.lstM hH
 obtain⟨z2,its2,n2,r2,hl2,e2⟩:=I.lstM hB
 refine PySem.P.add_list e e2 ?_ (by rw[size_toArray,size_toArray];omega)
 have ea:its.toArray++its2.toArray=(its++its2).toArray:=by simp
 rw[ea]
 exact⟨.ref _,_,I.lnew (t':=s.toks) (r.append r2) (by rw[length_append];omega),rfl,q _ I.fresh⟩
end
section
variable{prog:Program}{w:World}{A:Around}{E:Value→Shared→Prop}{s:Shared}
end
section
variable{X:Cx}
end
theorem Vals.ints:∀ {ns:List Int} {us:List Value},Vals (ns.map V.int) us→IntsAre us ns
 | [],us,h=>by
  rw[List.map_nil] at h
  cases h
  exact IntsAre.nil
 | n::ns,us,h=>by
  rw[map_cons] at h
  cases h with
  | cons r t=>
   obtain⟨k,rfl⟩:=r
   exact IntsAre.cons n k (Vals.ints t)
theorem Vals.bls:∀ {bs:List Bool} {us:List Value},Vals (bs.map V.bl) us→us=bs.map Value.bool
 | [],us,h=>by
  rw[List.map_nil] at h
  cases h
  rfl
 | b::bs,us,h=>by
  rw[map_cons] at h
  cases h with
  | cons r t=>
   cases r
   rw[Vals.bls t,map_cons]
theorem Vals.ref1{a:Addr}{us:List Value}(r:Vals [V.ref a] us):us=[Value.ref a]:=by
 cases r with
 | cons r t=>
  cases t
  cases r
  rfl
section
variable{prog:Program}{w:World}{A:Around}{E:Value→Shared→Prop}{s:Shared}{l:Addr}{its:List Value}{ns:List Int}{Q:Value→Shared→Prop}
theorem xk(hh:A.handled=none)(hl:s.heap.IsList l its.toArray)(hi:IntsAre its ns)(hne:0 < ns.length)
  (h:∀ h' tk M t',(∀ b o,s.heap.get? b=some o→h'.get? b=some o)→M∈ns→(∀ a,a∈ns→a≤M)→Q (.int M t') { s with heap:=h',toks:=tk }):wpAny (model prog w) A (call (.builtin "max") [.ref l]) Q E s:=by
 obtain⟨xs,e⟩:=hi.allInts.items
 have hn:numsOf (intItems xs).toList=ns:=by rw[←e];exact hi.numsOf
 rw[nums_intItems] at hn
 subst hn
 rw[e] at hl
 have hsz:0 < xs.size:=by simpa using hne
 refine PySem.max_intList hh hl hsz fun v h' tk hv hk=>?_
 obtain⟨t,rfl⟩:=intItems_at hv
 obtain⟨h1,h2⟩:=argBest_gt (numAt xs) (xs.size - 1)
 refine h h' tk _ t hk ?_ fun a ha=>?_
 ·rw[numAt_eq];exact PySem.getD_mem (by rw[length_map,Array.length_toList];omega)
 ·obtain⟨j,hj,rfl⟩:=mem_getD ha
  rw[length_map,Array.length_toList] at hj
  rw[←numAt_eq];exact h2 j (by omega)
theorem xj(hh:A.handled=none)(hl:s.heap.IsList l its.toArray)(hi:IntsAre its ns)(hne:0 < ns.length)
  (h:∀ h' tk M t',(∀ b o,s.heap.get? b=some o→h'.get? b=some o)→M∈ns→(∀ a,a∈ns→M≤a)→Q (.int M t') { s with heap:=h',toks:=tk }):wpAny (model prog w) A (call (.builtin "min") [.ref l]) Q E s:=by
 obtain⟨xs,e⟩:=hi.allInts.items
 have hn:numsOf (intItems xs).toList=ns:=by rw[←e];exact hi.numsOf
 rw[nums_intItems] at hn
 subst hn
 rw[e] at hl
 have hsz:0 < xs.size:=by simpa using hne
 refine PySem.min_intList hh hl hsz fun v h' tk hv hk=>?_
 obtain⟨t,rfl⟩:=intItems_at hv
 obtain⟨h1,h2⟩:=argBest_lt (numAt xs) (xs.size - 1)
 refine h h' tk _ t hk ?_ fun a ha=>?_
 ·rw[numAt_eq];exact PySem.getD_mem (by rw[length_map,Array.length_toList];omega)
 ·obtain⟨j,hj,rfl⟩:=mem_getD ha
  rw[length_map,Array.length_toList] at hj
  rw[←numAt_eq];exact h2 j (by omega)
end
section
variable{X:Cx}
def rMax(K:Frag):List V→Hp→VK→Prop:=fun vs H Q=>∃ (a:Addr) (ns:List Int),vs=[V.ref a]∧SqL K H a (ns.map V.int)∧0 < ns.length∧∀ m,m∈ns→(∀ y,y∈ns→y≤m)→Q (.int m) H
def rMin(K:Frag):List V→Hp→VK→Prop:=fun vs H Q=>∃ (a:Addr) (ns:List Int),vs=[V.ref a]∧SqL K H a (ns.map V.int)∧0 < ns.length∧∀ m,m∈ns→(∀ y,y∈ns→m≤y)→Q (.int m) H
theorem cr_max(hc:X.calm=true):fK X (.builtin "max") (rMax X.K):=by
 intro pins s σ H vs us Q I r h
 obtain⟨a,ns,rfl,hs,hne,q⟩:=h
 obtain⟨its,rv,hl,_⟩:=I.list hs
 rw[Vals.ref1 r]
 exact xk (I.ok.hd hc) hl.isList rv.ints hne fun h' tk m t' hk h1 h2=>⟨.int _,H,I.kept hk,⟨_,rfl⟩,q m h1 h2⟩
theorem cr_min(hc:X.calm=true):fK X (.builtin "min") (rMin X.K):=by
 intro pins s σ H vs us Q I r h
 obtain⟨a,ns,rfl,hs,hne,q⟩:=h
 obtain⟨its,rv,hl,_⟩:=I.list hs
 rw[Vals.ref1 r]
 exact xj (I.ok.hd hc) hl.isList rv.ints hne fun h' tk m t' hk h1 h2=>⟨.int _,H,I.kept hk,⟨_,rfl⟩,q m h1 h2⟩
end
section
variable{X:Cx}
end
section
variable{X:Cx}
end
section
variable{X:Cx}
end
mutual
inductive Dp(K:Frag)(H:Hp):V→PyData→Prop
 | non:Dp K H .non .none
 | bl (b:Bool):Dp K H (.bl b) (.bool b)
 | int (i:Int):Dp K H (.int i) (.int i)
 | str (x:Str):Dp K H (.str x) (.str x)
 | lst {a:Addr} {xs:List V} {ds:List PyData}:SqL K H a xs→iX K H xs ds→Dp K H (.ref a) (.list ds)
 | tup {a:Addr} {xs:List V} {ds:List PyData}:SqT K H a xs→iX K H xs ds→Dp K H (.ref a) (.tuple ds)
inductive iX(K:Frag)(H:Hp):List V→List PyData→Prop
 | nil:iX K H [] []
 | cons {v:V} {vs:List V} {d:PyData} {ds:List PyData}:Dp K H v d→iX K H vs ds→iX K H (v::vs) (d::ds)
end
section
variable{X:Cx}{pins:List (Addr × Obj)}{σ:St}{H:Hp}{s:Shared}
mutual
theorem Dp.reads(I:Inv X pins σ H s):∀ (d:PyData) (v:V) (u:Value),Dp X.K H v d→RelV v u→∃ as,Reads s.heap u d as
 | .none,_,_,h,r=>by
  cases h
  cases r
  exact⟨_,Reads.none⟩
 | .bool b,_,_,h,r=>by
  cases h
  cases r
  exact⟨_,Reads.bool b⟩
 | .int i,_,_,h,r=>by
  cases h
  obtain⟨t,rfl⟩:=r
  exact⟨_,Reads.int i t⟩
 | .str x,_,_,h,r=>by
  cases h
  obtain⟨t,rfl⟩:=r
  exact⟨_,Reads.str x t⟩
 | .list ds,_,_,h,r=>by
  cases h with
  | lst hs ha=>
   cases r
   obtain⟨its,rv,⟨o,n,ho,hc,_,hd⟩,_⟩:=I.list hs
   obtain⟨as,hr⟩:=Dp.readsAll I ds _ its ha rv
   exact⟨_,Reads.list ho hc hd hr⟩
 | .tuple ds,_,_,h,r=>by
  cases h with
  | tup hs ha=>
   cases r
   obtain⟨its,rv,⟨o,ho,hc,n,hd⟩,_⟩:=I.tuple hs
   obtain⟨as,hr⟩:=Dp.readsAll I ds _ its ha rv
   exact⟨_,Reads.tuple ho hc hd hr⟩
 | .dict _,_,_,h,_=>by cases h
theorem Dp.readsAll(I:Inv X pins σ H s):∀ (ds:List PyData) (vs:List V) (us:List Value),iX X.K H vs ds→Vals vs us→∃ as,ReadsAll s.heap us ds as
 | [],_,_,h,r=>by
  cases h
  cases r
  exact⟨_,ReadsAll.nil⟩
 | d::ds,_,_,h,r=>by
  cases h with
  | cons h1 h2=>
   cases r with
   | cons r1 r2=>
    obtain⟨as,q1⟩:=Dp.reads I d _ _ h1 r1
    obtain⟨bs,q2⟩:=Dp.readsAll I ds _ _ h2 r2
    exact⟨_,ReadsAll.cons q1 q2⟩
end
end
section
variable{X:Cx}
def rEqD(K:Frag):R2:=fun x y H Q=>∃ d e,Dp K H x d∧Dp K H y e∧SeqAt.shaped d=true∧SeqAt.shaped e=true∧Q (.bl (PyData.eqv d e)) H
theorem jR(hu:X.A.units+64 < cLine):OpR X (compareOp .Eq) (rEqD X.K):=by
 intro pins s σ H x y v u Q I rx ry h
 obtain⟨d,e,hd,he,sd,se,q⟩:=h
 obtain⟨as,r1⟩:=Dp.reads I d x v hd rx
 obtain⟨bs,r2⟩:=Dp.reads I e y u he ry
 exact SeqAt.compareEq_shaped r1 r2 sd se hu ⟨.bl _,H,I,rfl,q⟩
end
abbrev wC(h:Heap)(c:Addr)(v:Option Value):Prop:=h.IsCell c v
def relS(scope sc:Scope):Scope:=
 { scope with names:=scope.names.map fun(n,k)=>if(k == .free && sc.kind == .function && sc.names.lookup n == some .cell) then(n,.cell) else(n,k) }
def aO(cells:List (Str × Addr)):List (Str × NameKind)→List (Str × Addr)→List (Str × Addr)
 | [],acc=>acc
 | (n,k)::r,acc=>if k == .free then aO cells r ((n,(cells.lookup n).getD 0)::acc) else aO cells r acc
theorem gx(env:Env)(f:Str × NameKind→List (Str × Addr)→Sem (ForInStep (List (Str × Addr))))
  (hf:∀ n k c,f (n,k) c=if k == .free then(do let a←cellOf env n;pure (.yield ((n,a)::c))) else pure (.yield c)) :
  ∀ (names:List (Str × NameKind)) (acc:List (Str × Addr)),(∀ y∈names,y.2=.free→∃ c,env.cells.lookup y.1=some c)→forIn names acc f=pure (aO env.cells names acc)
 | [],acc,_=>by rw[List.forIn_nil];rfl
 | (n,k)::r,acc,h=>by
  rw[List.forIn_cons,hf]
  have ih:=fun acc=>gx env f hf r acc fun y hy=>h y (mem_cons_of_mem _ hy)
  unfold aO
  by_cases hk:(k == NameKind.free)=true
  ·rw[if_pos hk,if_pos hk]
   obtain⟨c,hc⟩:=h (n,k) mem_cons_self (by simpa using hk)
   have e:cellOf env n=pure c:=by unfold cellOf;rw[hc]
   rw[e]
   have e2:(env.cells.lookup n).getD 0=c:=by rw[hc];rfl
   rw[e2]
   exact ih _
  ·rw[if_neg hk,if_neg hk]
   exact ih _
theorem kG{scope:Scope}{env:Env}(h:∀ y∈scope.names,y.2=.free→∃ c,env.cells.lookup y.1=some c):closureFor scope env=pure (aO env.cells scope.names []):=by
 simp only[closureFor]
 rw[gx env _ (fun n k c=>rfl) scope.names [] h]
 rfl
theorem fP{α:Type}:∀ {l:List (Str × α)} {n:Str} {c:α},(n,c)∈l→∃ c',l.lookup n=some c'
 | (k,v)::r,n,c,h=>by
  rw[List.lookup_cons]
  cases hb:n == k with
  | true=>exact⟨_,rfl⟩
  | false=>
   rcases mem_cons.mp h with e | h
   ·cases e;simp at hb
   ·exact fP h
theorem dv{cells:List (Str × Addr)}:∀ {names:List (Str × NameKind)} {acc:List (Str × Addr)} {n:Str} {c:Addr},(n,c)∈aO cells names acc→(n,c)∈acc∨((n,.free)∈names∧c=(cells.lookup n).getD 0)
 | [],_,_,_,h=>.inl h
 | (m,k)::r,acc,n,c,h=>by
  unfold aO at h
  split at h
  ·rename_i hk
   have hk:k=.free:=by simpa using hk
   rcases dv h with h | ⟨h1,h2⟩
   ·rcases mem_cons.mp h with e | h
    ·cases e;exact .inr ⟨hk ▸ mem_cons_self,rfl⟩
    ·exact .inl h
   ·exact .inr ⟨mem_cons_of_mem _ h1,h2⟩
  ·rcases dv h with h | ⟨h1,h2⟩
   ·exact .inl h
   ·exact .inr ⟨mem_cons_of_mem _ h1,h2⟩
theorem eO{cells:List (Str × Addr)}:∀ {names:List (Str × NameKind)} {acc:List (Str × Addr)} {p:Str × Addr},p∈acc→p∈aO cells names acc
 | [],_,_,h=>h
 | (m,k)::r,acc,p,h=>by
  unfold aO
  split
  ·exact eO (mem_cons_of_mem _ h)
  ·exact eO h
theorem eN{cells:List (Str × Addr)}:∀ {names:List (Str × NameKind)} {acc:List (Str × Addr)} {n:Str},(n,.free)∈names→(n,(cells.lookup n).getD 0)∈aO cells names acc
 | (m,k)::r,acc,n,h=>by
  unfold aO
  rcases mem_cons.mp h with e | h
  ·cases e
   exact eO mem_cons_self
  ·split
   ·exact eN h
   ·exact eN h
theorem dJ:∀ {names:List (Str × NameKind)} {h:Heap} {acc:List (Str × Addr)} {x:Str} {c:Addr},(x,c)∈cellsFrom h.objs.size names acc→
  (x,c)∈acc∨((x,.cell)∈names∧h.objs.size≤c∧wC (pushCells h names) c none)
 | [],_,_,_,_,h=>.inl h
 | (n,k)::r,h,acc,x,c,hm=>by
  unfold cellsFrom at hm
  unfold pushCells
  split at hm
  ·rename_i hk
   rw[if_pos hk]
   have hk:k=.cell:=by simpa using hk
   rw[←Heap.size_push h { cls:=.type "cell",data:=.cell none }] at hm
   rcases dJ hm with hm | ⟨h1,h2,h3⟩
   ·rcases mem_cons.mp hm with e | hm
    ·cases e
     exact .inr ⟨hk ▸ mem_cons_self,Nat.le_refl _,_,pushCells_keeps r _ _ _ (Heap.get?_push_size _ rfl),rfl⟩
    ·exact .inl hm
   ·rw[Heap.size_push] at h2
    exact .inr ⟨mem_cons_of_mem _ h1,Nat.le_of_succ_le h2,h3⟩
  ·rename_i hk
   rw[if_neg hk]
   rcases dJ hm with hm | ⟨h1,h2,h3⟩
   ·exact .inl hm
   ·exact .inr ⟨mem_cons_of_mem _ h1,h2,h3⟩
theorem fw:∀ {names:List (Str × NameKind)} {n:Nat} {acc:List (Str × Addr)} {p:Str × Addr},p∈acc→p∈cellsFrom n names acc
 | [],_,_,_,h=>h
 | (m,k)::r,n,acc,p,h=>by
  unfold cellsFrom
  split
  ·exact fw (mem_cons_of_mem _ h)
  ·exact fw h
theorem ip:∀ {names:List (Str × NameKind)} {n:Nat} {acc:List (Str × Addr)} {x:Str},(x,.cell)∈names→∃ c,(x,c)∈cellsFrom n names acc
 | (m,k)::r,n,acc,x,h=>by
  unfold cellsFrom
  rcases mem_cons.mp h with e | h
  ·cases e
   exact⟨n,fw mem_cons_self⟩
  ·split
   ·exact ip h
   ·exact ip h
theorem io:∀ {names:List (Str × NameKind)} {h:Heap} {acc:List (Str × Addr)} {x y:Str} {c:Addr},(∀ p∈acc,p.2 < h.objs.size)→(∀ x y c,(x,c)∈acc→(y,c)∈acc→x=y)→
  (x,c)∈cellsFrom h.objs.size names acc→(y,c)∈cellsFrom h.objs.size names acc→x=y
 | [],_,_,_,_,_,_,hi,h1,h2=>hi _ _ _ h1 h2
 | (n,k)::r,h,acc,x,y,c,hl,hi,h1,h2=>by
  unfold cellsFrom at h1 h2
  split at h1
  ·rename_i hk
   rw[if_pos hk] at h2
   rw[←Heap.size_push h { cls:=.type "cell",data:=.cell none }] at h1 h2
   refine io (h:=h.push _) (fun p hp=>?_) (fun x y c a b=>?_) h1 h2
   ·rw[Heap.size_push]
    rcases mem_cons.mp hp with rfl | hp
    ·exact Nat.lt_succ_self _
    ·exact Nat.lt_succ_of_lt (hl p hp)
   ·rcases mem_cons.mp a with e | a<;>rcases mem_cons.mp b with e' | b
    ·cases e;cases e';rfl
    ·cases e;exact absurd (hl _ b) (Nat.lt_irrefl _)
    ·cases e';exact absurd (hl _ a) (Nat.lt_irrefl _)
    ·exact hi _ _ _ a b
  ·rename_i hk
   rw[if_neg hk] at h2
   exact io hl hi h1 h2
theorem iK{M:Model}{A:Around}{E:Value→Shared→Prop}{s:Shared}{scope:Scope}{globals:Addr}{closure:List (Str × Addr)}{qual:Str}{func:Option Addr}{code:Value}{around:Env}{builtins:Addr}{Q:Env→Shared→Prop}
  (h:Q (newEnv scope s.heap.objs.size globals (cellsFrom (s.heap.objs.size+1) scope.names closure) qual func code (some around) builtins)
   { s with heap:=pushCells (s.heap.push { cls:=.type "dict",data:=.dict #[] }) scope.names }) :
  wpAny M A (newFunctionEnv scope globals closure [] qual func code (some around) builtins) Q E s:=by
 simp only[newFunctionEnv,Option.isSome_some,if_true]
 refine wpAny_bind (wpAny_alloc ?_)
 refine wpAny_bind (wpAny_layCells _ (fun n k c=>rfl) scope.names closure _ _ ?_)
 rw[show({ s with heap:=s.heap.push { cls:=.type "dict",data:=.dict #[] } }:Shared).heap.objs.size=s.heap.objs.size+1 from Heap.size_push ..]
 rw[List.forIn_nil]
 exact wpAny_bind (wpAny_pure (wpAny_pure h))
theorem eG{sc:Scope}:∀ {names:List (Str × NameKind)} {x:Str} {k:NameKind},
  (names.map fun(n,k)=>if(k == NameKind.free && sc.kind == .function && sc.names.lookup n == some .cell) then(n,NameKind.cell) else(n,k)).lookup x=some k→
  ∃ k',names.lookup x=some k'∧(k=k'∨(k'=.free∧k=.cell))
 | [],_,_,h=>by simp at h
 | (n,k₀)::r,x,k,h=>by
  have ih:=@eG sc r x k
  have h':List.lookup x ((if(k₀ == NameKind.free && sc.kind == .function && sc.names.lookup n == some .cell)=true then(n,NameKind.cell) else(n,k₀))::(r.map _))=some k:=h
  cases hx:x == n with
  | true=>
   simp only[List.lookup_cons,hx]
   by_cases hc:(k₀ == NameKind.free && sc.kind == .function && sc.names.lookup n == some .cell)=true
   ·rw[if_pos hc] at h'
    simp only[List.lookup_cons,hx] at h'
    cases h'
    simp only[Bool.and_eq_true,beq_iff_eq] at hc
    exact⟨k₀,rfl,.inr ⟨hc.1.1,rfl⟩⟩
   ·rw[if_neg hc] at h'
    simp only[List.lookup_cons,hx] at h'
    cases h'
    exact⟨_,rfl,.inl rfl⟩
  | false=>
   simp only[List.lookup_cons,hx]
   by_cases hc:(k₀ == NameKind.free && sc.kind == .function && sc.names.lookup n == some .cell)=true
   ·rw[if_pos hc] at h'
    simp only[List.lookup_cons,hx] at h'
    exact ih h'
   ·rw[if_neg hc] at h'
    simp only[List.lookup_cons,hx] at h'
    exact ih h'
structure iY(N:List Str)(sc scope:Scope)(own:List (Str × Nat)):Prop where
 kind:scope.kind=.function
 uniq:∀ y∈scope.names,scope.names.lookup y.1=some y.2
 ix:∀ p∈own,N[p.2]?=some p.1
 free:∀ y∈scope.names,y.2=.free→sc.names.lookup y.1=some .cell∨sc.names.lookup y.1=some .free
 own:∀ y∈scope.names,y.2=.local∨y.2=.cell→y.1∈own.map (·.1)∨y.1 ∉ N
def wipe(σ:St):List Nat→St
 | []=>σ
 | v::vs=>(wipe σ vs).set v none
theorem db(σ:St):∀ vs:List Nat,(wipe σ vs).length=σ.length
 | []=>rfl
 | v::vs=>by unfold wipe;rw[List.length_set,db σ vs]
theorem eR{σ:St}{i:Nat}{x:V}:∀ {vs:List Nat},(wipe σ vs)[i]?=some (some x)→σ[i]?=some (some x)∧i ∉ vs
 | [],h=>⟨h,by simp⟩
 | v::vs,h=>by
  unfold wipe at h
  by_cases hi:v=i
  ·subst hi
   by_cases hv:v < (wipe σ vs).length
   ·rw[List.getElem?_set_self hv] at h;cases h
   ·rw[getElem?_eq_none (by simpa using hv)] at h;cases h
  ·rw[List.getElem?_set_ne hi] at h
   obtain⟨h1,h2⟩:=eR h
   exact⟨h1,by simp only[mem_cons,not_or];exact⟨fun e=>hi e.symm,h2⟩⟩
abbrev Cx.blk(X:Cx)(s:Shared)(H:Hp)(scope:Scope)(cenv:Env)(fp:List Addr):Cx:={ X with s_0:=s,H_0:=H,env:=cenv,outer:=X.stack,ex:=fp,fn:=fun x=>scope.names.lookup x == some .cell,pn:=[],xe:=fun _ _=>False }
section
variable{X:Cx}{pins:List (Addr × Obj)}{σ:St}{H:Hp}{s:Shared}
theorem iW{scope:Scope}{own:List (Str × Nat)}{fp:List Addr}(I:Inv X pins σ H s)(ok:iY X.N X.env.scope scope own)(hN:X.N.Nodup)(hfp:∀ b∈fp,FpOk X pins H b∧b < s.heap.objs.size) :
  Inv (X.blk s H scope (compEnvC scope (cellsFrom (s.heap.objs.size+1) scope.names (aO X.env.cells scope.names [])) s.heap.objs.size X.env) fp) [] (wipe σ (own.map (·.2))) H { s with heap:=pushCells (s.heap.push { cls:=.type "dict",data:=.dict #[] }) scope.names }:=by
 have hfree:∀ y∈scope.names,y.2=.free→∃ c,X.env.cells.lookup y.1=some c:=fun y hy e=>by
  rcases ok.free y hy e with k | k
  ·exact I.ok.has _ (.inl k)
  ·exact I.ok.has _ (.inr k)
 generalize hcenv:compEnvC scope (cellsFrom (s.heap.objs.size+1) scope.names (aO X.env.cells scope.names [])) s.heap.objs.size X.env=cenv
 have kp:∀ b o,s.heap.get? b=some o→(pushCells (s.heap.push { cls:=.type "dict",data:=.dict #[] }) scope.names).get? b=some o:=fun b o e=>pushCells_keeps _ _ _ _ (Heap.get?_push_of_some _ e)
 have hL:cenv.locals=s.heap.objs.size:=by rw[←hcenv];rfl
 have hcl:cenv.cells=cellsFrom (s.heap.objs.size+1) scope.names (aO X.env.cells scope.names []):=by rw[←hcenv];rfl
 have hsc:cenv.scope=relS scope X.env.scope:=by rw[←hcenv];rfl
 rw[←Heap.size_push s.heap { cls:=.type "dict",data:=.dict #[] }] at hcl
 have cm:∀ {y c},(y,c)∈aO X.env.cells scope.names []→X.env.cells.lookup y=some c∧c < s.heap.objs.size:=fun {y c} hm=>by
  rcases dv hm with hm | ⟨h1,rfl⟩
  ·cases hm
  ·obtain⟨c,hc⟩:=hfree _ h1 rfl
   rw[hc]
   obtain⟨w,z⟩:=I.cell _ _ hc
   exact⟨rfl,z.lt⟩
 have mem:∀ {y c},cenv.cells.lookup y=some c→(X.env.cells.lookup y=some c∧c < s.heap.objs.size)∨(s.heap.objs.size+1≤c∧wC (pushCells (s.heap.push { cls:=.type "dict",data:=.dict #[] }) scope.names) c none):=fun {y c} e=>by
  rw[hcl] at e
  rcases dJ (PySem.mem_of_lookup e) with hm | ⟨_,h2,h3⟩
  ·exact .inl (cm hm)
  ·rw[Heap.size_push] at h2;exact .inr ⟨h2,h3⟩
 have look:∀ {y},scope.names.lookup y=some .free→∃ c,cenv.cells.lookup y=some c∧X.env.cells.lookup y=some c:=fun {y} hl=>by
  have hy:(y,NameKind.free)∈scope.names:=PySem.mem_of_lookup hl
  obtain⟨c',e'⟩:=fP (fw (names:=scope.names) (n:=(s.heap.push { cls:=.type "dict",data:=.dict #[] }).objs.size) (eN (cells:=X.env.cells) (acc:=[]) hy))
  rw[←hcl] at e'
  refine⟨c',e',?_⟩
  rw[hcl] at e'
  rcases dJ (PySem.mem_of_lookup e') with hm | ⟨h1,_,_⟩
  ·exact(cm hm).1
  ·have:=ok.uniq _ h1
   rw[hl] at this;cases this
 have okB:(X.blk s H scope cenv fp).Ok:=by
  refine⟨I.ok.mod,by show cenv.scope.kind=_;rw[hsc];exact ok.kind,by show cenv.globals=_;rw[←hcenv];exact I.ok.glob,by show cenv.builtins=_;rw[←hcenv];exact I.ok.blt,by show s.heap.objs.size≤cenv.locals;rw[hL];exact Nat.le_refl _,
   fun y z c e1 e2=>?_,fun y hy=>?_,fun y c z e=>?_,I.ok.hd,I.ok.frames,.inl rfl,fun b hb=>⟨?_,fun y c e z=>?_⟩,I.bs,Nat.le_trans I.ok.bsz I.sz,fun b o e hb=>?_,fun b hb z=>?_,I.stack,I.stkFree⟩
  ·have e1:cenv.cells.lookup y=some c:=e1
   have e2:cenv.cells.lookup z=some c:=e2
   rw[hcl] at e1 e2
   refine io (fun p hp=>?_) (fun y z c a b=>I.ok.inj y z c (cm a).1 (cm b).1) (PySem.mem_of_lookup e1) (PySem.mem_of_lookup e2)
   rw[Heap.size_push]
   exact Nat.lt_succ_of_lt (cm (y:=p.1) (c:=p.2) hp).2
  ·show ∃ c,cenv.cells.lookup y=some c
   have key:∀ k,cenv.kindOf y=some k→(k=.cell∨k=.free)→∃ c,cenv.cells.lookup y=some c:=fun k hk hk'=>by
    unfold Env.kindOf at hk
    rw[hsc] at hk
    obtain⟨k',e,r⟩:=eG hk
    have:k'=.cell∨k'=.free:=by
     rcases r with rfl | ⟨rfl,_⟩
     ·exact hk'
     ·exact .inr rfl
    rcases this with rfl | rfl
    ·obtain⟨c,hm⟩:=ip (n:=(s.heap.push { cls:=.type "dict",data:=.dict #[] }).objs.size) (acc:=aO X.env.cells scope.names []) (PySem.mem_of_lookup e)
     obtain⟨c',e'⟩:=fP hm
     exact⟨c',by rw[hcl];exact e'⟩
    ·obtain⟨c,h1,_⟩:=look e
     exact⟨c,h1⟩
   rcases hy with hy | hy
   ·exact key _ hy (.inl rfl)
   ·exact key _ hy (.inr rfl)
  ·have z:(scope.names.lookup y == some NameKind.cell)=true:=z
   have z:scope.names.lookup y=some .cell:=by simpa using z
   have e:cenv.cells.lookup y=some c:=e
   rw[hcl] at e
   rcases dJ (PySem.mem_of_lookup e) with hm | ⟨_,h2,_⟩
   ·rcases dv hm with hm | ⟨h1,_⟩
    ·cases hm
    ·have q:=ok.uniq _ h1
     rw[z] at q;cases q
   ·rw[Heap.size_push] at h2
    exact Nat.le_of_succ_le h2
  ·show b≠cenv.locals
   rw[hL];exact Nat.ne_of_lt (hfp b hb).2
  ·have e:cenv.cells.lookup y=some c:=e
   rcases mem e with⟨h1,_⟩ | ⟨h1,_⟩
   ·exact(hfp b hb).1.2.2.2.2.1 y c h1 z
   ·have h2:s.heap.objs.size+1≤b:=by rw[←z];exact h1
    exact absurd (Nat.lt_of_lt_of_le (hfp b hb).2 (Nat.le_of_succ_le h2)) (Nat.lt_irrefl _)
  ·rcases (hfp b hb).1.2.2.2.1 with z | z
   ·exact I.ok.noex b o e z
   ·exact absurd (Nat.lt_of_lt_of_le (Heap.lt_size e) (Nat.le_trans I.ok.bsz z)) (Nat.lt_irrefl _)
  ·rcases mem_cons.mp (I.stkSub b z) with z | z
   ·exact(hfp b hb).1.2.1 z
   ·exact(hfp b hb).1.2.2.1 z
 refine⟨okB,rfl,I.bare,Un.kept kp,⟨fun _=>none,?_,fun i y av e1 e2 e3=>?_⟩,fun y c e=>?_,?_,fun y c e=>?_,fun p hp=>?_,I.hok.kept kp,by rw[db];exact I.len⟩
 ·show Heap.Ns _ cenv.locals _
  rw[hL]
  exact Heap.Ns.keeps (Heap.Ns.new ..) fun b o e=>pushCells_keeps _ _ _ _ e
 ·obtain⟨e2,hne⟩:=eR e2
  have hfr:scope.names.lookup y=some .free∧(cenv.kindOf y=some .cell∨cenv.kindOf y=some .free):=by
   have key:∀ k,cenv.scope.names.lookup y=some k→k=.local∨k=.cell∨k=.free→scope.names.lookup y=some .free∧(cenv.kindOf y=some .cell∨cenv.kindOf y=some .free):=fun k hk hk'=>by
    have hk0:=hk
    rw[hsc] at hk
    obtain⟨k',e,r⟩:=eG hk
    have no:¬ (k'=.local∨k'=.cell):=fun hh=>by
     rcases ok.own _ (PySem.mem_of_lookup e) hh with e' | e'
     ·obtain⟨p,hp,hpy⟩:=mem_map.mp e'
      have e3:=ok.ix p hp
      have:p.1=y:=hpy
      rw[this] at e3
      exact hne (mem_map.mpr ⟨p,hp,jW hN e3 e1⟩)
     ·exact e' (mem_of_getElem? e1)
    rcases r with rfl | ⟨rfl,rfl⟩
    ·rcases hk' with rfl | rfl | rfl
     ·exact absurd (.inl rfl) no
     ·exact absurd (.inr rfl) no
     ·exact⟨e,.inr hk0⟩
    ·exact⟨e,.inl hk0⟩
   have e3:Vis cenv.scope y:=e3
   rcases e3 with e3 | e3 | e3
   ·exact key _ e3 (.inl rfl)
   ·exact key _ e3 (.inr (.inl rfl))
   ·exact key _ e3 (.inr (.inr rfl))
  obtain⟨m,hn,hl⟩:=I.loc
  have hvis:Vis X.env.scope y:=(ok.free _ (PySem.mem_of_lookup hfr.1) rfl).elim (fun k=>.inr (.inl k)) (fun k=>.inr (.inr k))
  obtain⟨w,r,q⟩:=hl i y av e1 e2 hvis
  refine⟨w,r,.inr ⟨hfr.2,?_⟩⟩
  obtain⟨c,h1,h2⟩:=look hfr.1
  rcases q with⟨k,_⟩ | ⟨_,c',e',z⟩
  ·have k:X.env.scope.names.lookup y=some .local:=k
   rcases ok.free _ (PySem.mem_of_lookup hfr.1) rfl with k' | k'<;>rw[show X.env.scope.names.lookup y=_ from k'] at k<;>cases k
  ·rw[h2] at e';cases e'
   exact⟨c,h1,z.keeps kp⟩
 ·have e:cenv.cells.lookup y=some c:=e
  rcases mem e with⟨h1,_⟩ | ⟨_,z⟩
  ·obtain⟨w,z⟩:=I.cell y c h1
   exact⟨w,z.keeps kp⟩
  ·exact⟨_,z⟩
 ·show H cenv.locals=none
  rw[hL];exact I.hok.fresh (Nat.le_refl _)
 ·have e:cenv.cells.lookup y=some c:=e
  rcases mem e with⟨h1,_⟩ | ⟨h1,_⟩
  ·exact I.freeC y c h1
  ·exact I.hok.fresh (Nat.le_of_succ_le h1)
 ·exact absurd (show p∈([]:List (Addr × Obj))++[] from hp) (by simp)
theorem ww{E:Value→Shared→Prop}{D:Addr}{xs:List V}{y:V}{v:Value}{Q:Value→Shared→Prop}(I:Inv X pins σ H s)(hD:H D=some (.lst xs))(hz:xs.length < sizeLine)(r:RelV y v)
  (h:∀ s',Inv X pins σ (upd H D (.lst (xs++[y]))) s'→Q .none s'):wpAny (model X.prog X.w) X.A (call (.builtin "list.append") [.ref D,v]) Q E s:=by
 obtain⟨hz',its,n,ri,e⟩:=I.hok D _ hD
 have hl:=ri.length
 refine append_at (hsz:=by rw[size_toArray];omega) e fun h' sb ho'=>?_
 refine h { s with heap:=h' } (I.write (t':=s.toks) (by rw[hD];trivial) (.inl rfl) (fun b u hb q=>(sb.2 b hb).trans q) ⟨_,ho'⟩ ⟨by rw[length_append];exact hz,its++[v],n+1,ri.append (.cons r .nil),?_⟩)
 rw[ho']
 simp
def PTs(X:Cx)(ifs:List Expr)(t:TT):Prop:=
 ∀ (pins:List (Addr × Obj)) (s:Shared) (σ:St) (H:Hp) (Q:Bool→Hp→Prop),Inv X pins σ H s→t σ H Q→
  wpAny (model X.prog X.w) X.A (forIn ifs true fun c r=>if r=true then do let ok←isTrue c X.env (eval c X.env);pure (ForInStep.yield ok) else pure (ForInStep.yield r)) (TP X pins σ Q) X.xe s
def tYes:TT:=fun _ H Q=>Q true H
theorem b8:PTs X [] tYes:=fun _ _ _ H _ I h=>wpAny_tests_nil ⟨H,I,h⟩
theorem dh{c:Expr}{t:TT}(h:PT X c t):PTs X [c] t:=fun pins s σ H Q I hw=>wpAny_tests_one (h pins s σ H Q I hw)
end
theorem thnF{α:Type}{t:Sem α}{Q Q':α→Shared→Prop}{M:Model}{A:Around}{E:Value→Shared→Prop}{s:Shared}(h:wpAny M A t Q (fun _ _=>False) s)(hQ:∀ a s,Q a s→Q' a s):wpAny M A t Q' E s:=wpAny_mono h hQ fun _ _ z=>False.elim z
theorem gw{prog:Program}{w:World}{A:Around}{R:Result→Shared→Prop}{s:Shared}{elt target iter:Expr}{ifs:List Expr}{scope:Scope}{pos:Pos}{it acc:Value}{env:Env}(I:Nat→Shared→Prop)
  (turn:∀ n s,I n s→wpAny (model prog w) A (pyNext it) (fun r s₁=>match r with
   | none=>R (.ok .next) s₁
   | some v=>wpAny (model prog w) A (letOwnedTupleGo target it v) (fun _ s₁'=>wpAny (model prog w) A (assign target env v) (fun _ s₂=>
     wpAny (model prog w) A (forIn ifs true fun c r=>if r=true then do let ok←isTrue c env (eval c env);pure (ForInStep.yield ok) else pure (ForInStep.yield r)) (fun ok s₃=>
      if ok=true then wpAny (model prog w) A (eval elt env) (fun x s₄=>
       wpAny (model prog w) A (call (.builtin "list.append") [acc,x]) (fun _ s₅=>∃ m,m < n∧I m s₅) (notedBy (model prog w) A env fun e s'=>R (.error e) s') s₄) (notedBy (model prog w) A env fun e s'=>R (.error e) s') s₃
      else ∃ m,m < n∧I m s₃) (notedBy (model prog w) A env fun e s'=>R (.error e) s') s₂) (notedBy (model prog w) A env fun e s'=>R (.error e) s') s₁') (notedBy (model prog w) A env fun e s'=>R (.error e) s') s₁) (notedBy (model prog w) A env fun e s'=>R (.error e) s') s)
  (n:Nat) (h:I n s) :
  codeAny (model prog w) A (.compLoop (.ListComp elt [⟨target,iter,ifs,0⟩] scope pos) 0 it acc env) R s:=by
 refine codeAny_loop rfl I (fun n s hI=>?_) n h
 show wpAny _ A ((compTurn (.ListComp elt [⟨target,iter,ifs,0⟩] scope pos) 0 it acc env).onRaise (fun x=>do noteFrame x env;theTreesLotGoes x)) _ _ s
 refine wpAny_noted ?_
 rw[compTurn_list]
 refine wpAny_bind (wpAny_standAt (wpAny_bind (wpAny_mono (turn n s hI) (fun r s₁ h₁=>?_) fun _ _ h'=>h')))
 cases r with
 | none=>exact wpAny_pure h₁
 | some v=>
  refine wpAny_bind (wpAny_mono h₁ (fun _ s₁' h₁'=>?_) fun _ _ h'=>h')
  refine wpAny_bind (wpAny_mono h₁' (fun _ s₂ h₂=>wpAny_bind (wpAny_mono h₂ (fun ok s₃ h₃=>?_) fun _ _ h'=>h')) fun _ _ h'=>h')
  cases ok with
  | false=>exact wpAny_pure ⟨rfl,h₃⟩
  | true=>
   exact wpAny_bind (wpAny_bind (wpAny_mono h₃ (fun x s₄ h₄=>wpAny_bind (wpAny_mono h₄ (fun _ s₅ h₅=>wpAny_pure (wpAny_pure ⟨rfl,h₅⟩)) fun _ _ h'=>h')) fun _ _ h'=>h'))
section
variable{X:Cx}
def tLc(wi:TI)(g:TG)(tt:TT)(te:TE)(vs:List Nat):TE:=fun σ H Q=>wi σ H fun J H1=>∀ D,H1 D=none→∃ W:Nat→Nat→Hp→Prop,(∃ m,W 0 m (upd H1 D (.lst [])))∧∀ i m H,W i m H→
 (J.stop i H∧Q (.ref D) H)∨(J.go i H∧∃ Nx:Hp→Prop,(∀ H',Nx H'→∃ m',m' < m∧W (i+1) m' H')∧∀ x H',J.yld i H x H'→g x (wipe σ vs) H' fun σ2 H2=>wipe σ2 vs=wipe σ vs∧tt σ2 H2 fun b H3=>
  if b=true then te σ2 H3 fun y H4=>∃ acc,H4 D=some (.lst acc)∧acc.length < sizeLine∧Nx (upd H4 D (.lst (acc++[y]))) else Nx H3)
theorem rS{pins:List (Addr × Obj)}{s:Shared}{σ:St}{H:Hp}{Q:VK}{elt tg iter:Expr}{ifs:List Expr}{scope:Scope}{own:List (Str × Nat)}{pos pos':Pos}{wi:TI}{g:TG}{tt:TT}{te:TE}{use:Option (Value→Sem Unit)}{Qf:Value→Shared→Prop}
  (hc:X.calm=true) (hN:X.N.Nodup) (I:Inv X pins σ H s) (hi:PI X tg iter wi) (ok:iY X.N X.env.scope scope own)
  (hg:∀ (s:Shared) (H:Hp) (C:Addr) (cl:List (Str × Addr)) (fp:List Addr),PG (X.blk s H scope (compEnvC scope cl C X.env) fp) tg g) (ht:∀ (s:Shared) (H:Hp) (C:Addr) (cl:List (Str × Addr)) (fp:List Addr),PTs (X.blk s H scope (compEnvC scope cl C X.env) fp) ifs tt)
  (he:∀ (s:Shared) (H:Hp) (C:Addr) (cl:List (Str × Addr)) (fp:List Addr),PE (X.blk s H scope (compEnvC scope cl C X.env) fp) elt te) (hs:∀ x,foldedSetIterable iter X.env x=pure x)
  (h:tLc wi g tt te (own.map (·.2)) σ H Q)
  (hRR:∀ D C s' m H',Inv X pins σ H' s'→Q (.ref D) H'→s'.heap.Ns C m→FpOk X pins H' C→compPost (model X.prog X.w) X.A X.xe use Qf (.ref D) C (.ok .next) s') :
  wpAny (model X.prog X.w) X.A (comprehension (.ListComp elt [⟨tg,iter,ifs,0⟩] scope pos) scope X.env pos' (newList []) false (eval iter X.env) use) Qf X.xe s:=by
 have hfree:∀ y∈scope.names,y.2=.free→∃ c,X.env.cells.lookup y.1=some c:=fun y hy e=>by
  rcases ok.free y hy e with k | k
  ·exact I.ok.has _ (.inl k)
  ·exact I.ok.has _ (.inr k)
 refine wpAny_comprehension_free (use:=use) rfl hs (kG hfree) ok.kind (fun y hy e=>by rw[ok.uniq y hy,e])
  (thn (hi pins s σ H _ I h) fun xv s1 hx=>thn hx fun itv s2 h2=>?_)
 obtain⟨it,fp,tn,J,H2,e,I2,T,st2,f2,q⟩:=h2
 subst e
 refine wpAny_newObj_type (iK ?_) (by show 0≤sizeLine;decide)
 generalize hD:s2.heap.objs.size=D
 have hDn:H2 D=none:=I2.hok.fresh (Nat.le_of_eq hD)
 obtain⟨W,⟨m0,w0⟩,turn⟩:=q D hDn
 generalize hs3:({ s2 with heap:=s2.heap.push { cls:=.type "list",data:=.seq ([]:List Value).toArray } }:Shared)=s3
 have I3:Inv X pins σ (upd H2 D (.lst [])) s3:=by
  rw[←hs3]
  refine I2.laid (t':=s2.toks) (fun b o e=>Heap.get?_push_of_some _ e) (Nat.le_of_eq hD) ⟨Nat.zero_le _,[],0,.nil,?_⟩
  rw[←hD]
  exact Heap.get?_push_size _ rfl
 have h3:s3.heap=s2.heap.push { cls:=.type "list",data:=.seq ([]:List Value).toArray }:=by rw[←hs3]
 have sz:∀ b∈fp,b < s2.heap.objs.size:=fun b hb=>by
  obtain⟨o,e,_⟩:=T.obj _ _ st2 b hb
  exact Heap.lt_size e
 have f3:∀ b∈fp,FpOk X pins (upd H2 D (.lst [])) b∧b < s3.heap.objs.size:=fun b hb=>by
  have hlt:=sz b hb
  refine⟨⟨?_,(f2 b hb).2⟩,by rw[h3,Heap.size_push];exact Nat.lt_succ_of_lt hlt⟩
  rw[ag (by rw[←hD];exact Nat.ne_of_lt hlt)]
  exact(f2 b hb).1
 have st3:tn 0 s3.heap:=T.keep _ _ _ st2 fun b _ o e=>by rw[h3];exact Heap.get?_push_of_some _ e
 have I4:=iW I3 ok hN f3
 have pg:=hg s3 (upd H2 D (.lst [])) s3.heap.objs.size (cellsFrom (s3.heap.objs.size+1) scope.names (aO X.env.cells scope.names [])) fp
 have pt:=ht s3 (upd H2 D (.lst [])) s3.heap.objs.size (cellsFrom (s3.heap.objs.size+1) scope.names (aO X.env.cells scope.names [])) fp
 have pe:=he s3 (upd H2 D (.lst [])) s3.heap.objs.size (cellsFrom (s3.heap.objs.size+1) scope.names (aO X.env.cells scope.names [])) fp
 show codeAny _ _ (.compStart (.ListComp elt [⟨tg,iter,ifs,0⟩] scope pos) 0 (.ref it) (.ref D) (compEnvC scope (cellsFrom (s3.heap.objs.size+1) scope.names (aO X.env.cells scope.names [])) s3.heap.objs.size X.env)) (compPost (model X.prog X.w) X.A X.xe use Qf (.ref D) s3.heap.objs.size) { s3 with heap:=pushCells (s3.heap.push { cls:=.type "dict",data:=.dict #[] }) scope.names }
 have nfp:∀ b∈fp,(upd H2 D (.lst [])) b=none:=fun b hb=>(f3 b hb).1.1
 generalize hce:compEnvC scope (cellsFrom (s3.heap.objs.size+1) scope.names (aO X.env.cells scope.names [])) s3.heap.objs.size X.env=ce at I4 pg pt pe ⊢
 have cL:ce.locals=s3.heap.objs.size:=by subst hce;rfl
 generalize hH3:upd H2 D (.lst [])=H3 at I3 I4 pg pt pe w0 nfp f3
 generalize hs4:({ s3 with heap:=pushCells (s3.heap.push { cls:=.type "dict",data:=.dict #[] }) scope.names }:Shared)=s4 at I4 ⊢
 have st4:tn 0 s4.heap:=T.keep _ _ _ st3 fun b _ o e=>by rw[←hs4];exact pushCells_keeps _ _ _ _ (Heap.get?_push_of_some _ e)
 have stat:∀ {σ':St} {H':Hp} {s':Shared},Inv (X.blk s3 H3 scope ce fp) [] σ' H' s'→(∀ b∈fp,H' b=none)→∀ b∈fp,FpOk (X.blk s3 H3 scope ce fp) [] H' b:=fun {σ' H' s'} I' hn b hb=>
  ⟨hn b hb,(I'.ok.exf b hb).1,I'.ok.exfs b hb,.inl hb,fun x c e=>(I'.ok.exf b hb).2 x c e,fun p hp=>absurd (show p∈([]:List (Addr × Obj))++[] from hp) (by simp)⟩
 have loop:codeAny (model X.prog X.w) X.A (.compLoop (.ListComp elt [⟨tg,iter,ifs,0⟩] scope pos) 0 (.ref it) (.ref D) ce) (compPost (model X.prog X.w) X.A X.xe use Qf (.ref D) s3.heap.objs.size) s4:=by
  refine gw (fun n s'=>∃ i H',Inv (X.blk s3 H3 scope ce fp) [] (wipe σ (own.map (·.2))) H' s'∧tn i s'.heap∧(∀ b∈fp,H' b=none)∧W i n H') ?_ m0 ⟨0,H3,I4,st4,nfp,w0⟩
  rintro n s5 ⟨i,H5,I5,st5,n5,w5⟩
  rcases turn i n H5 w5 with⟨stop,qq⟩ | ⟨go,Nx,hNx,step⟩
  ·have td:=T.done (X.blk s3 H3 scope ce fp) rfl rfl rfl hc i [] s5 _ H5 (fun _ _=>False) I5 (stat I5 n5) st5 stop
   refine thnF td fun r s6 ⟨hr,I6⟩=>?_
   subst hr
   have I7:Inv X pins σ H5 s6:=I3.call' (ch:=fp) I6.os I6.base I6.hok I6.bare fun b hb=>⟨(f3 b hb).1.2.2.2.1,(f3 b hb).1.2.1,(f3 b hb).1.2.2.2.2.1,(f3 b hb).1.2.2.2.2.2⟩
   have nC:H5 s3.heap.objs.size=none:=by
    have z:H5 ce.locals=none:=I6.free
    rw[cL] at z
    exact z
   obtain⟨m,hn,_⟩:=I6.loc
   have hn:s6.heap.Ns ce.locals m:=hn
   rw[cL] at hn
   exact hRR D s3.heap.objs.size s6 m H5 I7 qq hn (I3.fpOk (Nat.le_refl _) nC)
  ·have ti:=T.item (X.blk s3 H3 scope ce fp) rfl rfl rfl hc i [] s5 _ H5 (fun _ _=>False) I5 (stat I5 n5) st5 go
   refine thnF ti fun r s6 ⟨u,hr,h6⟩=>?_
   subst hr
   refine thnF h6 fun _ s7 ⟨x,H7,I7,r7,y7,st7,n7⟩=>?_
   have I7':=I7.pinned (stat I7 n7) (T.obj _ _ st7)
   refine thnF (pg _ s7 _ H7 x u _ I7' r7 (step x H7 y7)) fun _ s8 ⟨σ8,H8,I8,hw8,q8⟩=>?_
   refine thnF (pt _ s8 σ8 H8 _ I8 q8) fun b s9 ⟨H9,I9,q9⟩=>?_
   have fin:∀ {s':Shared} {H':Hp},Inv (X.blk s3 H3 scope ce fp) ([]++gY fp s7.heap) σ8 H' s'→Nx H'→∃ m,m < n∧∃ i H',Inv (X.blk s3 H3 scope ce fp) [] (wipe σ (own.map (·.2))) H' s'∧tn i s'.heap∧(∀ b∈fp,H' b=none)∧W i m H':=fun {s' H'} I' nx=>by
    obtain⟨m',hm,w'⟩:=hNx H' nx
    have pin':∀ b∈fp,∀ o,s7.heap.get? b=some o→s'.heap.get? b=some o∧H' b=none:=fun b hb o e=>
     let z:=I'.pin (b,o) (mem_append_right _ (mem_append_right _ (dQ hb e)))
     ⟨z.1,z.2.1⟩
    have hl:(wipe σ (own.map (·.2))).length=σ8.length:=by rw[←hw8,db]
    refine⟨m',hm,i+1,H',(I'.unpinned (pins:=[])).weak hl (fun j v e=>?_),T.keep _ _ _ st7 fun b hb o e=>(pin' b hb o e).1,fun b hb=>?_,w'⟩
    ·rw[←hw8] at e
     exact(eR e).1
    ·obtain⟨o,e,_⟩:=T.obj _ _ st7 b hb
     exact(pin' b hb o e).2
   cases b with
   | false=>
    simp only[Bool.false_eq_true,if_false] at q9 ⊢
    exact fin I9 q9
   | true=>
    simp only[if_true] at q9 ⊢
    refine thnF (pe _ s9 σ8 H9 _ I9 q9) fun z s10 ⟨yv,H10,I10,r10,acc,hD10,hz10,nx⟩=>?_
    exact ww (X:=X.blk s3 H3 scope ce fp) I10 hD10 hz10 r10 fun s11 I11=>fin I11 nx
 exact codeAny_compStart_list loop (T.self X.A 0 _ _ _ st4 loop)
theorem gi{elt tg iter:Expr}{ifs:List Expr}{scope:Scope}{own:List (Str × Nat)}{pos:Pos}{wi:TI}{g:TG}{tt:TT}{te:TE}(hc:X.calm=true)(hN:X.N.Nodup)(hi:PI X tg iter wi)(ok:iY X.N X.env.scope scope own)
  (hg:∀ (s:Shared) (H:Hp) (C:Addr) (cl:List (Str × Addr)) (fp:List Addr),PG (X.blk s H scope (compEnvC scope cl C X.env) fp) tg g) (ht:∀ (s:Shared) (H:Hp) (C:Addr) (cl:List (Str × Addr)) (fp:List Addr),PTs (X.blk s H scope (compEnvC scope cl C X.env) fp) ifs tt)
  (he:∀ (s:Shared) (H:Hp) (C:Addr) (cl:List (Str × Addr)) (fp:List Addr),PE (X.blk s H scope (compEnvC scope cl C X.env) fp) elt te) (hs:∀ x,foldedSetIterable iter X.env x=pure x:=by intro _;rfl) :
  PE X (.ListComp elt [⟨tg,iter,ifs,0⟩] scope pos) (tLc wi g tt te (own.map (·.2))):=by
 intro pins s σ H Q I h
 rw[eval_ListComp]
 refine rS hc hN I hi ok hg ht he hs h fun D C s' m H' I' q hn f=>⟨m,hn,fun h'' sb=>?_⟩
 obtain⟨f0,f1,f2,f3,f4,f5⟩:=f
 exact⟨.ref D,H',I'.turned (t':=s'.toks) (fun b o hb e=>(sb.2 b hb).trans e) f0 f1 f3 f4 f5,rfl,q⟩
theorem cF{i:Nat}{y:Str}{py:Pos}{elt tg iter:Expr}{ifs:List Expr}{scope:Scope}{own:List (Str × Nat)}{pos spos:Pos}{wi:TI}{g:TG}{tt:TT}{te:TE}(hc:X.calm=true)(hN:X.N.Nodup)(hy:X.N[i]?=some y)(hyl:X.env.scope.names.lookup y=some .local)
  (hsw:swapsWith (.ListComp elt [⟨tg,iter,ifs,0⟩] scope pos) (some (.Name y py)) spos.line X.env=pure true) (hi:PI X tg iter wi) (ok:iY X.N X.env.scope scope own)
  (hg:∀ (s:Shared) (H:Hp) (C:Addr) (cl:List (Str × Addr)) (fp:List Addr),PG (X.blk s H scope (compEnvC scope cl C X.env) fp) tg g) (ht:∀ (s:Shared) (H:Hp) (C:Addr) (cl:List (Str × Addr)) (fp:List Addr),PTs (X.blk s H scope (compEnvC scope cl C X.env) fp) ifs tt)
  (he:∀ (s:Shared) (H:Hp) (C:Addr) (cl:List (Str × Addr)) (fp:List Addr),PE (X.blk s H scope (compEnvC scope cl C X.env) fp) elt te) (hs:∀ x,foldedSetIterable iter X.env x=pure x:=by intro _;rfl) :
  PS X (.Assign [.Name y py] (.ListComp elt [⟨tg,iter,ifs,0⟩] scope pos) spos) (tAsg (tLc wi g tt te (own.map (·.2))) (aY i)):=by
 intro pins s σ H D I h
 rw[exec_Assign_Name_used _ _ _ _ hsw]
 refine wpAny_bind (wpAny_standAt (wpAny_bind ?_))
 show wpAny _ X.A (do let _←comprehension (.ListComp elt [⟨tg,iter,ifs,0⟩] scope pos) scope X.env (firstIterPos [⟨tg,iter,ifs,0⟩] pos) (newList []) false (eval iter X.env) (some (assign (.Name y py) X.env))) _ _ s
 have h:tLc wi g tt te (own.map (·.2)) σ H (fun x H1=>aY i x σ H1 D.nx):=h
 refine wpAny_bind (thn (rS (Qf:=fun _ s'=>SP X pins D .next s') hc hN I hi ok hg ht he hs h fun L C s' m H' I' q hn f=>?_) fun _ s' hq=>wpAny_pure (wpAny_pure hq))
 show wpAny _ _ (assign (.Name y py) X.env (.ref L)) _ _ _
 refine wpAny_assign_Name (gI (v:=V.ref L) I' hN hy (.inl hyl) rfl (fun s2 I2 ⟨a,sb,ha⟩=>?_) (.inr hyl))
 obtain⟨f0,f1,f2,f3,f4,f5⟩:=f
 have haC:C≠a:=by
  rcases ha with z | z
  ·rw[z];exact f1
  ·exact fun e=>f4 y a z e.symm
 refine⟨m,hn.sameBut sb haC,fun h3 sb3=>?_⟩
 exact⟨_,H',I2.turned (t':=s2.toks) (fun b o hb e=>(sb3.2 b hb).trans e) f0 f1 f3 f4 f5,q⟩
theorem cO{elt:Expr}{gs:List Comprehension}{scope:Scope}{pos py:Pos}{y:Str}{l:Nat}{env:Env}(hk:env.scope.kind=.function)(hy:env.scope.names.lookup y=some .local)(hl:(py.line == pos.line)=true)
  (ha:(scope.names.any fun(n,k)=>n == y && (k == .local || k == .cell))=false):swapsWith (.ListComp elt gs scope pos) (some (.Name y py)) l env=pure true:=by
 have ky:env.kindOf y=some .local:=hy
 have hb:env.blockKind=.function:=by unfold Env.blockKind;rw[hk];rfl
 unfold swapsWith
 simp only[hb,ky,ha,Expr.pos,hl]
 rfl
end
theorem gm{lo:Int}{n:Nat}{g:TG}{tt:TT}{te:TE}{vs:List Nat}{σ:St}{H1:Hp}{D:Addr}{Qd:Hp→Prop}(Pv:Nat→Hp→Prop)(h0:Pv 0 (upd H1 D (.lst [])))
  (hs:∀ i H,i < n→Pv i H→g (.int (lo+i)) (wipe σ vs) H fun σ2 H2=>wipe σ2 vs=wipe σ vs∧tt σ2 H2 fun b H3=>
   if b=true then te σ2 H3 fun y H4=>∃ acc,H4 D=some (.lst acc)∧acc.length < sizeLine∧Pv (i+1) (upd H4 D (.lst (acc++[y]))) else Pv (i+1) H3) (hd:∀ H,Pv n H→Qd H) :
  ∃ W:Nat→Nat→Hp→Prop,(∃ m,W 0 m (upd H1 D (.lst [])))∧∀ i m H,W i m H→
   ((Itr lo n).stop i H∧Qd H)∨((Itr lo n).go i H∧∃ Nx:Hp→Prop,(∀ H',Nx H'→∃ m',m' < m∧W (i+1) m' H')∧∀ x H',(Itr lo n).yld i H x H'→g x (wipe σ vs) H' fun σ2 H2=>wipe σ2 vs=wipe σ vs∧tt σ2 H2 fun b H3=>
    if b=true then te σ2 H3 fun y H4=>∃ acc,H4 D=some (.lst acc)∧acc.length < sizeLine∧Nx (upd H4 D (.lst (acc++[y]))) else Nx H3):=by
 refine⟨fun i m H=>m=n - i∧i≤n∧Pv i H,⟨n,by simp,Nat.zero_le _,h0⟩,?_⟩
 rintro i m H ⟨rfl,hi,p⟩
 by_cases hlt:i < n
 ·refine .inr ⟨hlt,Pv (i+1),fun H' p'=>⟨n - (i+1),by omega,rfl,hlt,p'⟩,fun x H' y=>?_⟩
  obtain⟨e,y⟩:=y
  subst e y
  exact hs i _ hlt p
 ·have e:i=n:=by omega
  subst e
  exact .inl ⟨Nat.le_refl _,hd H p⟩
theorem m4{K:Frag}{a:Addr}{xs:List V}{g:TG}{tt:TT}{te:TE}{vs:List Nat}{σ:St}{H1:Hp}{D:Addr}{Qd:Hp→Prop}(Pv:Nat→Hp→Prop)(h0:Pv 0 (upd H1 D (.lst [])))(hl:∀ i H,i≤xs.length→Pv i H→SqL K H a xs)
  (hs:∀ i x H,xs[i]?=some x→Pv i H→g x (wipe σ vs) H fun σ2 H2=>wipe σ2 vs=wipe σ vs∧tt σ2 H2 fun b H3=>
   if b=true then te σ2 H3 fun y H4=>∃ acc,H4 D=some (.lst acc)∧acc.length < sizeLine∧Pv (i+1) (upd H4 D (.lst (acc++[y]))) else Pv (i+1) H3) (hd:∀ H,Pv xs.length H→Qd H) :
  ∃ W:Nat→Nat→Hp→Prop,(∃ m,W 0 m (upd H1 D (.lst [])))∧∀ i m H,W i m H→
   ((Itl K a).stop i H∧Qd H)∨((Itl K a).go i H∧∃ Nx:Hp→Prop,(∀ H',Nx H'→∃ m',m' < m∧W (i+1) m' H')∧∀ x H',(Itl K a).yld i H x H'→g x (wipe σ vs) H' fun σ2 H2=>wipe σ2 vs=wipe σ vs∧tt σ2 H2 fun b H3=>
    if b=true then te σ2 H3 fun y H4=>∃ acc,H4 D=some (.lst acc)∧acc.length < sizeLine∧Nx (upd H4 D (.lst (acc++[y]))) else Nx H3):=by
 refine⟨fun i m H=>m=xs.length - i∧i≤xs.length∧Pv i H,⟨xs.length,by simp,Nat.zero_le _,h0⟩,?_⟩
 rintro i m H ⟨rfl,hi,p⟩
 have q:=hl i H hi p
 by_cases hlt:i < xs.length
 ·refine .inr ⟨⟨xs,xs[i],q,by simp[hlt]⟩,Pv (i+1),fun H' p'=>⟨xs.length - (i+1),by omega,rfl,hlt,p'⟩,fun x H' y=>?_⟩
  obtain⟨e,y⟩:=y
  subst e
  exact hs i x _ (y xs q) p
 ·have e:i=xs.length:=by omega
  subst e
  exact .inl ⟨⟨xs,q,Nat.le_refl _⟩,hd H p⟩
theorem lc_tup{K:Frag}{a:Addr}{xs:List V}{g:TG}{tt:TT}{te:TE}{vs:List Nat}{σ:St}{H1:Hp}{D:Addr}{Qd:Hp→Prop}(Pv:Nat→Hp→Prop)(h0:Pv 0 (upd H1 D (.lst [])))(hl:∀ i H,i≤xs.length→Pv i H→SqT K H a xs)
  (hs:∀ i x H,xs[i]?=some x→Pv i H→g x (wipe σ vs) H fun σ2 H2=>wipe σ2 vs=wipe σ vs∧tt σ2 H2 fun b H3=>
   if b=true then te σ2 H3 fun y H4=>∃ acc,H4 D=some (.lst acc)∧acc.length < sizeLine∧Pv (i+1) (upd H4 D (.lst (acc++[y]))) else Pv (i+1) H3) (hd:∀ H,Pv xs.length H→Qd H) :
  ∃ W:Nat→Nat→Hp→Prop,(∃ m,W 0 m (upd H1 D (.lst [])))∧∀ i m H,W i m H→
   ((Itt K a).stop i H∧Qd H)∨((Itt K a).go i H∧∃ Nx:Hp→Prop,(∀ H',Nx H'→∃ m',m' < m∧W (i+1) m' H')∧∀ x H',(Itt K a).yld i H x H'→g x (wipe σ vs) H' fun σ2 H2=>wipe σ2 vs=wipe σ vs∧tt σ2 H2 fun b H3=>
    if b=true then te σ2 H3 fun y H4=>∃ acc,H4 D=some (.lst acc)∧acc.length < sizeLine∧Nx (upd H4 D (.lst (acc++[y]))) else Nx H3):=by
 refine⟨fun i m H=>m=xs.length - i∧i≤xs.length∧Pv i H,⟨xs.length,by simp,Nat.zero_le _,h0⟩,?_⟩
 rintro i m H ⟨rfl,hi,p⟩
 have q:=hl i H hi p
 by_cases hlt:i < xs.length
 ·refine .inr ⟨⟨xs,xs[i],q,by simp[hlt]⟩,Pv (i+1),fun H' p'=>⟨xs.length - (i+1),by omega,rfl,hlt,p'⟩,fun x H' y=>?_⟩
  obtain⟨e,y⟩:=y
  subst e
  exact hs i x _ (y xs q) p
 ·have e:i=xs.length:=by omega
  subst e
  exact .inl ⟨⟨xs,q,Nat.le_refl _⟩,hd H p⟩
def blkC(N:List Str)(sc scope:Scope)(own:List (Str × Nat)):Bool:=
 (match scope.kind with | .function=>true | _=>false) && (scope.names.all fun y=>decide (scope.names.lookup y.1=some y.2)) && (own.all fun p=>decide (N[p.2]?=some p.1)) &&
  (scope.names.all fun y=>match y.2 with
   | .free=>(match sc.names.lookup y.1 with | some .cell=>true | some .free=>true | _=>false)
   | .local=>decide (y.1∈own.map (·.1)) || decide (y.1 ∉ N)
   | .cell=>decide (y.1∈own.map (·.1)) || decide (y.1 ∉ N)
   | _=>true)
theorem bb{N:List Str}{sc scope:Scope}{own:List (Str × Nat)}(h:blkC N sc scope own=true):iY N sc scope own:=by
 unfold blkC at h
 simp only[Bool.and_eq_true,List.all_eq_true,decide_eq_true_eq] at h
 obtain⟨⟨⟨h1,h2⟩,h3⟩,h4⟩:=h
 refine⟨?_,h2,h3,fun y hy e=>?_,fun y hy e=>?_⟩
 ·split at h1
  ·assumption
  ·cases h1
 ·have q:=h4 y hy
  simp only[e] at q
  split at q<;>first | exact .inl (by assumption) | exact .inr (by assumption) | cases q
 ·have q:=h4 y hy
  rcases e with e | e<;>(simp only[e,Bool.or_eq_true,decide_eq_true_eq] at q;exact q)
section
variable{prog:Program}{w:World}{A:Around}{R:Result→Shared→Prop}{s:Shared}{elt t0 i0 t1 i1:Expr}{ifs0 ifs1:List Expr}{scope:Scope}{pos:Pos}{it acc:Value}{env:Env}
end
section
variable{X:Cx}
end
section
variable{κ:Type}[DecidableEq κ]
def valV(kvs:List (κ × V))(k:κ):Option V:=(kvs.find? fun kv=>decide (kv.1=k)).map (·.2)
def putK(kvs:List (κ × V))(k:κ)(v:V):List (κ × V):=
 if(kvs.any fun kv=>decide (kv.1=k))=true then kvs.map (fun kv=>if kv.1=k then(kv.1,v) else kv) else kvs++[(k,v)]
theorem jh{k:κ}:valV ([]:List (κ × V)) k=none:=rfl
theorem bD{p:κ × V}{r:List (κ × V)}{k:κ}(e:p.1=k):valV (p::r) k=some p.2:=by simp[valV,List.find?_cons,e]
theorem bE{p:κ × V}{r:List (κ × V)}{k:κ}(e:¬ p.1=k):valV (p::r) k=valV r k:=by simp[valV,List.find?_cons,e]
theorem cB(k:κ):∀ kvs:List (κ × V),(kvs.any fun kv=>decide (kv.1=k))=(valV kvs k).isSome
 | []=>rfl
 | p::r=>by
  rw[List.any_cons]
  by_cases e:p.1=k
  ·simp only[bD e,decide_eq_true e,Bool.true_or,Option.isSome_some]
  ·rw[bE e,decide_eq_false e,Bool.false_or];exact cB k r
theorem nB(k j:κ)(y:V):∀ kvs:List (κ × V),valV (kvs.map fun kv=>if kv.1=k then(kv.1,y) else kv) j=(valV kvs j).map fun x=>if j=k then y else x
 | []=>rfl
 | p::r=>by
  have ih:=nB k j y r
  rw[map_cons]
  by_cases h:p.1=k
  ·rw[if_pos h]
   by_cases e:p.1=j
   ·rw[bD (p:=(p.1,y)) e,bD e,Option.map_some,if_pos (e.symm.trans h)]
   ·rw[bE (p:=(p.1,y)) e,bE e,ih]
  ·rw[if_neg h]
   by_cases e:p.1=j
   ·rw[bD (p:=p) e,bD e,Option.map_some,if_neg (fun z=>h (e.trans z))]
   ·rw[bE (p:=p) e,bE e,ih]
theorem kW(k j:κ)(y:V):∀ kvs:List (κ × V),valV kvs k=none→valV (kvs++[(k,y)]) j=if j=k then some y else valV kvs j
 | [],_=>by
  by_cases e:k=j
  ·rw[if_pos e.symm];exact bD (p:=(k,y)) e
  ·rw[if_neg (fun z=>e z.symm)];exact bE (p:=(k,y)) e
 | p::r,hn=>by
  rw[List.cons_append]
  have hk:¬ p.1=k:=fun z=>by rw[bD z] at hn;cases hn
  rw[bE hk] at hn
  have ih:=kW k j y r hn
  by_cases e:p.1=j
  ·rw[bD e,bD e,if_neg (fun z=>hk (e.trans z))]
  ·rw[bE e,bE e,ih]
theorem bh(kvs:List (κ × V))(k j:κ)(y:V):valV (putK kvs k y) j=if j=k then some y else valV kvs j:=by
 unfold putK
 by_cases a:(kvs.any fun kv=>decide (kv.1=k))=true
 ·rw[if_pos a,nB]
  rw[cB] at a
  by_cases e:j=k
  ·obtain⟨x,hx⟩:=Option.isSome_iff_exists.mp a
   rw[if_pos e,e,hx,Option.map_some,if_pos rfl]
  ·rw[if_neg e]
   cases valV kvs j with
   | none=>rfl
   | some x=>rw[Option.map_some,if_neg e]
 ·rw[if_neg a]
  refine kW k j y kvs ?_
  rw[cB] at a
  cases q:valV kvs k with
  | none=>rfl
  | some x=>rw[q] at a;exact(a rfl).elim
theorem aX(kvs:List (κ × V))(k:κ)(v:V):(putK kvs k v).length≤kvs.length+1:=by
 unfold putK
 split
 ·rw[length_map];omega
 ·rw[length_append,length_cons,List.length_nil];omega
theorem b7{kvs:List (κ × V)}{k:κ}(v:V)(h:valV kvs k=none):putK kvs k v=kvs++[(k,v)]:=by
 unfold putK
 rw[cB,h]
 exact if_neg (by decide)
theorem RelO.isSome_eq{o:Option V}{u:Option Value}(r:RelO o u):o.isSome=u.isSome:=by
 cases o with
 | none=>cases u with
  | none=>rfl
  | some _=>exact(show False from r).elim
 | some _=>cases u with
  | none=>exact(show False from r).elim
  | some _=>rfl
theorem RelO.getD{o:Option V}{u:Option Value}{d:V}{d':Value}(r:RelO o u)(rd:RelV d d'):RelV (o.getD d) (u.getD d'):=by
 cases o with
 | none=>cases u with
  | none=>exact rd
  | some _=>exact(show False from r).elim
 | some _=>cases u with
  | none=>exact(show False from r).elim
  | some _=>exact r
theorem KV.val{kvs:List (κ × V)}{vs:List (κ × Value)}(r:KV kvs vs)(k:κ):RelO (valV kvs k) (valueAt vs k):=by
 unfold KV at r
 induction r with
 | nil=>exact True.intro
 | @cons p q ps qs h t ih=>
  obtain⟨h1,h2⟩:=h
  by_cases e:p.1=k
  ·have e':q.1=k:=h1.symm.trans e
   have b:valueAt (q::qs) k=some q.2:=by simp[valueAt,List.find?_cons,e']
   rw[bD e,b];exact h2
  ·have e':¬ q.1=k:=fun z=>e (h1.trans z)
   have b:valueAt (q::qs) k=valueAt qs k:=by simp[valueAt,List.find?_cons,e']
   rw[bE e,b];exact ih
theorem KV.any{kvs:List (κ × V)}{vs:List (κ × Value)}(r:KV kvs vs)(k:κ):(kvs.any fun kv=>decide (kv.1=k))=vs.any fun kv=>decide (kv.1=k):=by
 unfold KV at r
 induction r with
 | nil=>rfl
 | cons h t ih=>rw[List.any_cons,List.any_cons,ih,h.1]
theorem KV.repl{kvs:List (κ × V)}{vs:List (κ × Value)}(r:KV kvs vs)(k:κ){y:V}{u:Value}(ry:RelV y u) :
  KV (kvs.map fun kv=>if kv.1=k then(kv.1,y) else kv) (vs.map fun kv=>if kv.1=k then(kv.1,u) else kv):=by
 unfold KV at r ⊢
 induction r with
 | nil=>exact .nil
 | @cons p q ps qs h t ih=>
  rw[map_cons,map_cons]
  refine .cons ?_ ih
  obtain⟨h1,h2⟩:=h
  by_cases e:p.1=k
  ·rw[if_pos e,if_pos (h1.symm.trans e)];exact⟨h1,ry⟩
  ·rw[if_neg e,if_neg (fun z=>e (h1.trans z))];exact⟨h1,h2⟩
theorem KV.put{kvs:List (κ × V)}{vs:List (κ × Value)}(r:KV kvs vs)(k:κ){y:V}{u:Value}(ry:RelV y u):KV (putK kvs k y) (stored vs k u):=by
 unfold putK stored
 rw[r.any k]
 by_cases e:(vs.any fun kv=>decide (kv.1=k))=true
 ·rw[if_pos e,if_pos e];exact r.repl k ry
 ·rw[if_neg e,if_neg e];exact Paired.snoc r ⟨rfl,ry⟩
theorem KV.length{kvs:List (κ × V)}{vs:List (κ × Value)}(r:KV kvs vs):kvs.length=vs.length:=Paired.length r
end
theorem ka{P:Program}{w:World}{k:Key}{u:Value}(r:RelV (kV k) u):(bj P w).is k u=true:=by
 cases k with
 | inl i=>obtain⟨t,e⟩:=(show ∃ t,u=Value.int i t from r);subst e;exact oQ P w i t
 | inr x=>obtain⟨t,e⟩:=(show ∃ t,u=Value.str x t from r);subst e;exact oP P w x t
theorem lU{P:Program}{w:World}:∀ {ks:List Key} {us:List Value},Vals (ks.map kV) us→ItemsAre (bj P w) ks us
 | [],_,r=>by rw[List.map_nil] at r;cases r;exact .nil
 | k::ks,_,r=>by
  rw[map_cons] at r
  cases r with
  | cons h t=>exact .cons (ka h) (lU t)
abbrev KT(H:Hp):List (List Key × V)→List (List Key × Addr × Value)→Prop:=Paired fun p q=>p.1=q.1∧H q.2.1=some (.tup (p.1.map kV))∧RelV p.2 q.2.2
theorem KT.val{H:Hp}{kvs:List (List Key × V)}{xs:List (List Key × Addr × Value)}(r:KT H kvs xs)(k:List Key):RelO (valV kvs k) ((atKey xs k).map (·.2)):=by
 induction r with
 | nil=>exact True.intro
 | @cons p q ps qs h t ih=>
  obtain⟨h1,_,h2⟩:=h
  by_cases e:p.1=k
  ·have e':q.1=k:=h1.symm.trans e
   have b:atKey (q::qs) k=some q.2:=by simp[atKey,List.find?_cons,e']
   rw[bD e,b];exact h2
  ·have e':¬ q.1=k:=fun z=>e (h1.trans z)
   have b:atKey (q::qs) k=atKey qs k:=by simp[atKey,List.find?_cons,e']
   rw[bE e,b];exact ih
theorem KT.repl{H:Hp}{kvs:List (List Key × V)}{xs:List (List Key × Addr × Value)}(r:KT H kvs xs)(k:List Key){y:V}{u:Value}(ry:RelV y u) :
  KT H (kvs.map fun kv=>if kv.1=k then(kv.1,y) else kv) (xs.map (putAt k u)):=by
 induction r with
 | nil=>exact .nil
 | @cons p q ps qs h t ih=>
  rw[map_cons,map_cons]
  refine .cons ?_ ih
  obtain⟨h1,h2,h3⟩:=h
  unfold putAt
  by_cases e:p.1=k
  ·rw[if_pos e,if_pos (h1.symm.trans e)];exact⟨h1,h2,ry⟩
  ·rw[if_neg e,if_neg (fun z=>e (h1.trans z))];exact⟨h1,h2,h3⟩
theorem KT.put{H:Hp}{kvs:List (List Key × V)}{xs:List (List Key × Addr × Value)}(r:KT H kvs xs)(k:List Key){b:Addr}{y:V}{u:Value}(hb:H b=some (.tup (k.map kV)))(ry:RelV y u) :
  KT H (putK kvs k y) (storedH xs k b u):=by
 have e:(kvs.any fun kv=>decide (kv.1=k))=(atKey xs k).isSome:=by
  rw[cB,(r.val k).isSome_eq,Option.isSome_map]
 unfold putK storedH
 rw[e]
 by_cases q:(atKey xs k).isSome=true
 ·rw[if_pos q,if_pos q];exact r.repl k ry
 ·rw[if_neg q,if_neg q];exact Paired.snoc r ⟨rfl,hb,ry⟩
theorem KT.keeps{H H':Hp}{kvs:List (List Key × V)}{xs:List (List Key × Addr × Value)}(r:KT H kvs xs)(ht:∀ b ys,H b=some (.tup ys)→H' b=some (.tup ys)):KT H' kvs xs:=
 Paired.mapP r fun _ _ z=>⟨z.1,ht _ _ z.2.1,z.2.2⟩
section
variable{P:Program}{w:World}{H:Hp}{h:Heap}{a:Addr}
theorem rd_of{u:HO}(ok:HOk P w H h)(e:Rd H a u):bA P w H h a u:=e.ok ok
theorem iT{kvs:List (Key × V)}(ok:HOk P w H h)(e:Rd H a (.dK kvs)):kvs.length≤sizeLine∧(a == sysModules)=false∧∃ vs,KV kvs vs∧h.DictOf (bj P w) a vs:=
 show bA P w H h a (.dK kvs) from rd_of ok e
theorem dk_of{kvs:List (Key × V)}(ok:HOk P w H h)(e:H a=some (.dK kvs)):kvs.length≤sizeLine∧(a == sysModules)=false∧∃ vs,KV kvs vs∧h.DictOf (bj P w) a vs:=iT ok (.inl e)
theorem fT{ks:List Key}(ok:HOk P w H h)(e:H a=some (.tup (ks.map kV))):(tupleKind (bj P w)).is h ks a:=by
 obtain⟨_,its,r,o,h1,h2,n,h3⟩:=(show bA P w H h a (.tup (ks.map kV)) from ok a _ e)
 exact⟨o,its.toArray,n,h1,h2,h3,by simpa using lU r⟩
theorem iS{kvs:List (List Key × V)}(ok:HOk P w H h)(e:Rd H a (.dT kvs)):kvs.length≤sizeLine∧(a == sysModules)=false∧
  ∃ xs,KT H kvs xs∧h.DictOfH (tupleKind (bj P w)) a xs:=by
 obtain⟨z,y,xs,r,o,es,ep,h1,h2,h3,h4,h5⟩:=(show bA P w H h a (.dT kvs) from rd_of ok e)
 refine⟨z,y,xs,r,o,es,ep,h1,h2,h3,h4,fun x hx=>?_,h5⟩
 have all:∀ {l:List (List Key × V)} {m:List (List Key × Addr × Value)},KT H l m→∀ x∈m,(tupleKind (bj P w)).is h x.1 x.2.1:=by
  intro l m q
  induction q with
  | nil=>intro x hx;exact nomatch hx
  | @cons p q ps qs hq t ih=>
   intro x hx
   rcases mem_cons.mp hx with e | hx
   ·subst e
    exact fT ok (by rw[←hq.1];exact hq.2.1)
   ·exact ih x hx
 exact all r x hx
theorem dt_of{kvs:List (List Key × V)}(ok:HOk P w H h)(e:H a=some (.dT kvs)):kvs.length≤sizeLine∧(a == sysModules)=false∧
  ∃ xs,KT H kvs xs∧h.DictOfH (tupleKind (bj P w)) a xs:=iS ok (.inl e)
end
def DGet(H:Hp)(a:Addr)(y:V)(r:Option V):Prop:=
 (∃ kvs k,Rd H a (.dK kvs)∧y=kV k∧r=valV kvs k)∨∃ kvs k b,Rd H a (.dT kvs)∧y=.ref b∧H b=some (.tup (k.map kV))∧r=valV kvs k
def DPut(H:Hp)(a:Addr)(y v:V)(H':Hp):Prop:=
 (∃ kvs k,H a=some (.dK kvs)∧y=kV k∧kvs.length < sizeLine∧H'=upd H a (.dK (putK kvs k v)))∨
 ∃ kvs k b,H a=some (.dT kvs)∧y=.ref b∧H b=some (.tup (k.map kV))∧kvs.length < sizeLine∧H'=upd H a (.dT (putK kvs k v))
theorem DGet.t{H:Hp}{a b:Addr}{kvs:List (List Key × V)}{k:List Key}(e:H a=some (.dT kvs))(eb:H b=some (.tup (k.map kV))):DGet H a (.ref b) (valV kvs k):=.inr ⟨kvs,k,b,.inl e,rfl,eb,rfl⟩
theorem DPut.t{H:Hp}{a b:Addr}{kvs:List (List Key × V)}{k:List Key}{v:V}(e:H a=some (.dT kvs))(eb:H b=some (.tup (k.map kV)))(hl:kvs.length < sizeLine) :
  DPut H a (.ref b) v (upd H a (.dT (putK kvs k v))):=.inr ⟨kvs,k,b,e,rfl,eb,hl,rfl⟩
section
variable{X:Cx}{pins:List (Addr × Obj)}{σ:St}{H:Hp}{s:Shared}{a:Addr}{y v:V}{u r:Value}{o:Option V}{A:Around}{E:Value→Shared→Prop}
theorem Inv.big(I:Inv X pins σ H s):sysModules < s.heap.objs.size:=by
 have h:mainGlobals < s.heap.objs.size:=(I.mod.glob.keeps I.bk).lt
 exact Nat.lt_trans (by decide) h
theorem t7{Q:Value→Shared→Prop}(hu:A.units+1 < cLine)(I:Inv X pins σ H s)(g:DGet H a y (some v))(ry:RelV y u)(h:∀ w' s',Inv X pins σ H s'→RelV v w'→Q w' s') :
  wpAny (model X.prog X.w) A (getItem (.ref a) u) Q E s:=by
 rcases g with⟨kvs,k,e,ey,l⟩ | ⟨kvs,k,b,e,ey,eb,l⟩
 ·subst ey
  obtain⟨z,hd,vs,rel,dd⟩:=iT I.hok e
  obtain⟨w',hw,rw'⟩:=RelO.some_of (v:=v) (o:=valueAt vs k) (by rw[l];exact rel.val k)
  exact wpAny_getItem_of (ka ry) dd.mapOf hw (h w' _ (I.tok _) rw')
 ·subst ey
  cases (show u=Value.ref b from ry)
  obtain⟨z,hd,xs,rel,dd⟩:=iS I.hok e
  obtain⟨w',hw,rw'⟩:=RelO.some_of (v:=v) (o:=(atKey xs k).map (·.2)) (by rw[l];exact rel.val k)
  obtain⟨p,hp,hp2⟩:=Option.map_eq_some_iff.mp hw
  refine wpAny_getItem_heap (tupleKind_room_in1 hu) (fT I.hok eb) dd hp ?_
  rw[hp2]
  exact h w' _ (I.tok _) rw'
theorem d_in{Q:Value→Shared→Prop}(hu:A.units+1 < cLine)(I:Inv X pins σ H s)(g:DGet H a y o)(ry:RelV y u)(h:∀ s',Inv X pins σ H s'→Q (.bool o.isSome) s') :
  wpAny (model X.prog X.w) A (compareOp .In u (.ref a)) Q E s:=by
 rcases g with⟨kvs,k,e,ey,l⟩ | ⟨kvs,k,b,e,ey,eb,l⟩
 ·subst ey
  obtain⟨z,hd,vs,rel,dd⟩:=iT I.hok e
  refine wpAny_in_of (ka ry) hd dd.mapOf ?_
  rw[←(rel.val k).isSome_eq,←l]
  exact h _ (I.tok _)
 ·subst ey
  cases (show u=Value.ref b from ry)
  obtain⟨z,hd,xs,rel,dd⟩:=iS I.hok e
  refine wpAny_in_heap (tupleKind_room_in1 hu) (fT I.hok eb) hd dd ?_
  have q:=(rel.val k).isSome_eq
  rw[Option.isSome_map] at q
  rw[←q,←l]
  exact h _ (I.tok _)
theorem xz{Q:Value→Shared→Prop}(hu:A.units+1 < cLine)(I:Inv X pins σ H s)(g:DGet H a y o)(ry:RelV y u)(h:∀ s',Inv X pins σ H s'→Q (.bool (!o.isSome)) s') :
  wpAny (model X.prog X.w) A (compareOp .NotIn u (.ref a)) Q E s:=by
 rcases g with⟨kvs,k,e,ey,l⟩ | ⟨kvs,k,b,e,ey,eb,l⟩
 ·subst ey
  obtain⟨z,hd,vs,rel,dd⟩:=iT I.hok e
  refine wpAny_notIn_of (ka ry) hd dd.mapOf ?_
  rw[←(rel.val k).isSome_eq,←l]
  exact h _ (I.tok _)
 ·subst ey
  cases (show u=Value.ref b from ry)
  obtain⟨z,hd,xs,rel,dd⟩:=iS I.hok e
  refine wpAny_notIn_heap (tupleKind_room_in1 hu) (fT I.hok eb) hd dd ?_
  have q:=(rel.val k).isSome_eq
  rw[Option.isSome_map] at q
  rw[←q,←l]
  exact h _ (I.tok _)
theorem sh{h':Heap}{t':Nat}{ob:HO}(I:Inv X pins σ H s)(mu:Mut (H a))(hs:Heap.SameBut a s.heap h')(he:∃ q,h'.get? a=some q)(new:bA X.prog X.w (upd H a ob) h' a ob) :
  Inv X pins σ (upd H a ob) { s with heap:=h',toks:=t' }:=
 I.write (x:=a) (e:=a) mu (.inl rfl) (fun b q hb z=>(hs.2 b hb).trans z) he new
theorem dk_new{P:Program}{w:World}{H':Hp}{h':Heap}{kvs:List (Key × V)}{vs:List (Key × Value)}(z:kvs.length≤sizeLine)(hd:(a == sysModules)=false)(rel:KV kvs vs)(dd:h'.DictOf (bj P w) a vs) :
  bA P w H' h' a (.dK kvs):=⟨z,hd,vs,rel,dd⟩
theorem t6{H':Hp}{Q:Unit→Shared→Prop}(hu:A.units+1 < cLine)(I:Inv X pins σ H s)(g:DPut H a y v H')(ry:RelV y u)(rv:RelV v r)(h:∀ s',Inv X pins σ H' s'→Q () s') :
  wpAny (model X.prog X.w) A (setItem (.ref a) u r) Q E s:=by
 rcases g with⟨kvs,k,e,ey,l,eH⟩ | ⟨kvs,k,b,e,ey,eb,l,eH⟩
 ·subst ey eH
  obtain⟨z,hd,vs,rel,dd⟩:=dk_of I.hok e
  have hz:vs.length≤sizeLine:=by rw[←rel.length];exact z
  have hl:(putK kvs k v).length≤sizeLine:=by have:=aX kvs k v;omega
  refine wpAny_setItem_pairs (hsz:=hz) (ka ry) dd fun h' dd' hs=>h _ ?_
  have he:∃ q,h'.get? a=some q:=let ⟨q,_,_,hq,_⟩:=dd';⟨q,hq⟩
  exact sh I (by rw[e];exact True.intro) hs he (dk_new hl hd (rel.put k rv) dd')
 ·subst ey eH
  cases (show u=Value.ref b from ry)
  obtain⟨z,hd,xs,rel,dd⟩:=dt_of I.hok e
  have hz:xs.length≤sizeLine:=by rw[←Paired.length rel];exact z
  have hl:(putK kvs k v).length≤sizeLine:=by have:=aX kvs k v;omega
  refine wpAny_setItem_heap (hsz:=hz) (tupleKind_room_in1 hu) (fT I.hok eb) dd fun h' dd' hs=>h _ ?_
  obtain⟨q,es,ep,hq,h2,h3,h4,_,h5⟩:=dd'
  refine sh I (by rw[e];exact True.intro) hs ⟨q,hq⟩ ⟨hl,hd,_,(rel.put k eb rv).keeps fun c ys ec=>?_,q,es,ep,hq,h2,h3,h4,h5⟩
  rw[ag (aP ec e (fun z=>nomatch z))]
  exact ec
end
section
variable{X:Cx}{pins:List (Addr × Obj)}{σ:St}{H:Hp}{s:Shared}{a:Addr}{kvs:List (Key × V)}{k:Key}{u:Value}{A:Around}{E:Value→Shared→Prop}
end
def NoSl(i:Expr):Prop:=∀ ov iv,subscripted i false ov iv=operate [ov,iv] (getItem ov iv)
theorem qZ{prog:Program}{w:World}{A:Around}{E:Value→Shared→Prop}{s:Shared}{env:Env}{value slice:Expr}{pos:Pos}{T id:String}{Q:Value→Shared→Prop}
  (hl:typeLookup (.type T) "__getitem__"=pure (some (.builtin id))) (hs:NoSl slice)
  (h:wpAny (model prog w) A (eval value env) (fun o s₁=>wpAny (model prog w) A (eval slice env) (fun i s₂=>s₂.TypeIs o T∧wpAny (model prog w) A (getItem o i) Q E s₂) E s₁) E s) :
  wpAny (model prog w) A (eval (.Subscript value slice pos) env) Q E s:=by
 refine Subscript_ (wpAny_mono h (fun o s₁ h₁=>wpAny_mono h₁ (fun i s₂ h₂=>?_) fun _ _ x=>x) fun _ _ x=>x)
 obtain⟨hT,h₂⟩:=h₂
 unfold subscriptTail
 refine wpAny_bind ?_
 rw[getitemInPython_of_ne hT.not_modules]
 refine wpAny_bind (wpAny_specialOf hT hl ?_)
 have fin:wpAny (model prog w) A (subscripted slice false o i) (fun r s₃=>wpAny (model prog w) A (letTemporaryGo value o r >>= fun _=>pure r) Q E s₃) E s₂:=by
  rw[hs o i]
  exact wpAny_operating (wpAny_mono h₂ (fun r s₃ h₃=>wpAny_bind (wpAny_letTemporaryGo (wpAny_pure h₃))) fun _ _ x=>x)
 first
  | exact wpAny_pure (wpAny_bind fin)
  | exact wpAny_bind (wpAny_pure (wpAny_bind fin))
  | exact wpAny_bind fin
theorem pd{X:Cx}{pins:List (Addr × Obj)}{σ:St}{H:Hp}{s:Shared}{a:Addr}{y:V}{o:Option V}(I:Inv X pins σ H s)(g:DGet H a y o):s.TypeIs (.ref a) "dict":=by
 rcases g with⟨kvs,k,e,_,_⟩ | ⟨kvs,k,b,e,_,_,_⟩
 ·obtain⟨_,_,vs,_,dd⟩:=iT I.hok e
  exact dd.typeIs
 ·obtain⟨_,_,xs,_,dd⟩:=iS I.hok e
  exact dd.typeIs
def ji(td ty:TE):TE:=fun σ H Q=>td σ H fun x H1=>ty σ H1 fun y H2=>∃ a v,x=.ref a∧DGet H2 a y (some v)∧Q v H2
def tDIn(ty td:TE):TE:=fun σ H Q=>ty σ H fun y H1=>td σ H1 fun x H2=>∃ a o,x=.ref a∧DGet H2 a y o∧Q (.bl o.isSome) H2
def wI(ty td:TE):TE:=fun σ H Q=>ty σ H fun y H1=>td σ H1 fun x H2=>∃ a o,x=.ref a∧DGet H2 a y o∧Q (.bl (!o.isSome)) H2
def sDPut(td ty tv:TE):TS:=fun D σ H=>tv σ H fun v H1=>td σ H1 fun x H2=>ty σ H2 fun y H3=>∃ a H4,x=.ref a∧DPut H3 a y v H4∧D.nx σ H4
section
variable{X:Cx}{o i e value:Expr}{pos pos' tpos:Pos}{td ty tv:TE}
theorem bC(hu:X.A.units+1 < cLine)(ho:PE X o td)(hi:PE X i ty)(hs:NoSl i):PE X (.Subscript o i pos) (ji td ty):=by
 intro pins s σ H Q I h
 refine qZ PySem.F.slot_dict_getitem.lookup hs (thn (ho pins s σ H _ I h) fun u s1 ⟨x,H1,I1,rx,q1⟩=>thn (hi pins s1 σ H1 _ I1 q1) fun iv s2 ⟨y,H2,I2,ry,a,v,ex,g,q2⟩=>?_)
 subst ex
 obtain rfl:u=Value.ref a:=rx
 exact⟨pd I2 g,t7 hu I2 g ry fun w' s3 I3 rw'=>⟨v,H2,I3,rw',q2⟩⟩
theorem mJ(hu:X.A.units+1 < cLine)(hi:PE X i ty)(ho:PE X o td):PC X .In i o (tDIn ty td):=by
 intro pins s σ H Q I h
 refine thn (hi pins s σ H _ I h) fun iv s1 ⟨y,H1,I1,ry,q1⟩=>thn (ho pins s1 σ H1 _ I1 q1) fun u s2 ⟨x,H2,I2,rx,a,ov,ex,g,q2⟩=>?_
 subst ex
 obtain rfl:u=Value.ref a:=rx
 exact d_in hu I2 g ry fun s3 I3=>⟨.bl ov.isSome,H2,I3,rfl,q2⟩
theorem fg(hu:X.A.units+1 < cLine)(hi:PE X i ty)(ho:PE X o td):PC X .NotIn i o (wI ty td):=by
 intro pins s σ H Q I h
 refine thn (hi pins s σ H _ I h) fun iv s1 ⟨y,H1,I1,ry,q1⟩=>thn (ho pins s1 σ H1 _ I1 q1) fun u s2 ⟨x,H2,I2,rx,a,ov,ex,g,q2⟩=>?_
 subst ex
 obtain rfl:u=Value.ref a:=rx
 exact xz hu I2 g ry fun s3 I3=>⟨.bl (!ov.isSome),H2,I3,rfl,q2⟩
theorem bu(hu:X.A.units+1 < cLine)(ho:PE X o td)(hi:PE X i ty)(hv:PE X value tv)(hs:swapsWith value (some (.Subscript o i pos')) pos.line X.env=pure false) :
  PS X (.Assign [.Subscript o i pos'] value pos) (sDPut td ty tv):=by
 intro pins s σ H D I h
 refine wpAny_Assign_Subscript (thn (hv pins s σ H _ I h) fun r s1 ⟨v,H1,I1,rv,q1⟩=>thn (ho pins s1 σ H1 _ I1 q1) fun u s2 ⟨x,H2,I2,rx,q2⟩=>thn (hi pins s2 σ H2 _ I2 q2) fun iv s3 ⟨y,H3,I3,ry,a,H4,ex,g,q3⟩=>?_) hs
 subst ex
 obtain rfl:u=Value.ref a:=rx
 exact t6 hu I3 g ry rv fun s4 I4=>⟨σ,H4,I4,q3⟩
end
theorem wj{P:Program}{w:World}{H:Hp}(h:Heap)(hb:sysModules < h.objs.size):bA P w H (h.push { cls:=.type "dict",data:=.dict #[] }) h.objs.size (.dT []):=
 ⟨Nat.zero_le _,beq_eq_false_iff_ne.mpr (Ne.symm (Nat.ne_of_lt hb)),[],.nil,_,#[],0,Heap.get?_push_size _ rfl,⟨rfl,rfl,rfl⟩,rfl,rfl,nodup_nil⟩
def tDNewT:TE:=fun _ H Q=>∀ p,H p=none→Q (.ref p) (upd H p (.dT []))
section
variable{X:Cx}{pos:Pos}
theorem bH:PE X (.Dict [] [] pos) tDNewT:=fun pins s σ H Q I h=>
 wpAny_Dict_empty ⟨.ref s.heap.objs.size,_,I.laid (a:=s.heap.objs.size) (o:=.dT []) (t':=s.toks) (fun _ _ q=>Heap.get?_push_of_some _ q) (Nat.le_refl _) (wj s.heap I.big),rfl,h _ (I.hok.fresh (Nat.le_refl _))⟩
end
structure M1(X:Cx)(o:Expr)(m:Str)(apos:Pos)(e:Expr)(cpos:Pos):Prop where
 base:attributeBase o m X.env (eval o X.env)=eval o X.env
 few:((backTo cpos (starEach [e] X.env)).all (fun x=>!x.1) && (backToKw cpos (keywordEach [] X.env)).all (fun x=>x.1.isSome)
  && decide (([e]:List Expr).length+([]:List Keyword).length+(if([]:List Keyword).isEmpty then 0 else 1) < 30))=true
 line:(apos.endLine == cpos.line)=true
 trees:backTo cpos (starEach [e] X.env)=[(false,eval e X.env)]
structure M2(X:Cx)(o:Expr)(m:Str)(apos:Pos)(e f:Expr)(cpos:Pos):Prop where
 base:attributeBase o m X.env (eval o X.env)=eval o X.env
 few:((backTo cpos (starEach [e,f] X.env)).all (fun x=>!x.1) && (backToKw cpos (keywordEach [] X.env)).all (fun x=>x.1.isSome)
  && decide (([e,f]:List Expr).length+([]:List Keyword).length+(if([]:List Keyword).isEmpty then 0 else 1) < 30))=true
 line:(apos.endLine == cpos.line)=true
 trees:backTo cpos (starEach [e,f] X.env)=[(false,eval e X.env),(false,eval f X.env)]
def IsD(H:Hp)(a:Addr):Prop:=(∃ kvs,Rd H a (.dK kvs))∨∃ kvs,Rd H a (.dT kvs)
theorem vQ{X:Cx}{pins:List (Addr × Obj)}{σ:St}{H:Hp}{s:Shared}{a:Addr}(I:Inv X pins σ H s)(d:IsD H a) :
  s.TypeIs (.ref a) "dict"∧(∀ b,Value.ref a=.ref b→∃ ob,s.heap.get? b=some ob∧ob.dict=none)∧(a == sysModules)=false:=by
 rcases d with⟨kvs,e⟩ | ⟨kvs,e⟩
 ·obtain⟨_,hd,vs,_,dd⟩:=iT I.hok e
  refine⟨dd.typeIs,fun b q=>?_,hd⟩
  cases q
  obtain⟨ob,_,_,h1,h2,_⟩:=dd
  exact⟨ob,h1,h2.2.1⟩
 ·obtain⟨_,hd,xs,_,dd⟩:=iS I.hok e
  refine⟨dd.typeIs,fun b q=>?_,hd⟩
  cases q
  obtain⟨ob,_,_,h1,h2,_⟩:=dd
  exact⟨ob,h1,h2.2.1⟩
section
variable{X:Cx}{pins:List (Addr × Obj)}{σ:St}{H:Hp}{s:Shared}{a:Addr}{y d:V}{u r:Value}{o:Option V}{A:Around}{E:Value→Shared→Prop}
theorem d_get1{Q:Value→Shared→Prop}(hu:A.units+1 < cLine)(I:Inv X pins σ H s)(g:DGet H a y o)(ry:RelV y u)(h:∀ w' s',Inv X pins σ H s'→RelV (o.getD .non) w'→Q w' s') :
  wpAny (model X.prog X.w) A (call (.builtin "dict.get") [.ref a,u]) Q E s:=by
 rcases g with⟨kvs,k,e,ey,l⟩ | ⟨kvs,k,b,e,ey,eb,l⟩
 ·subst ey
  obtain⟨z,hd,vs,rel,dd⟩:=iT I.hok e
  refine call_meetsIn PySem.F.slot_dict_get dd.typeIs PySem.F.entry_dict_get (PySem.F.args_dict_get_2 _ _) (meets_dict_get (bj X.prog X.w) a (ka ry) hd) ⟨_,dd.mapOf,h _ _ (I.tok _) ?_⟩
  rw[l]
  exact(rel.val k).getD rfl
 ·subst ey
  cases (show u=Value.ref b from ry)
  obtain⟨z,hd,xs,rel,dd⟩:=iS I.hok e
  refine call_meetsIn PySem.F.slot_dict_get dd.typeIs PySem.F.entry_dict_get (PySem.F.args_dict_get_2 _ _) (meetsH_dict_get (tupleKind (bj X.prog X.w)) a b hd) ⟨tupleKind_room_in1 hu,k,xs,fT I.hok eb,dd,h _ _ (I.tok _) ?_⟩
  rw[l]
  exact(rel.val k).getD rfl
theorem d_get2{Q:Value→Shared→Prop}(hu:A.units+1 < cLine)(I:Inv X pins σ H s)(g:DGet H a y o)(ry:RelV y u)(rd:RelV d r)(h:∀ w' s',Inv X pins σ H s'→RelV (o.getD d) w'→Q w' s') :
  wpAny (model X.prog X.w) A (call (.builtin "dict.get") [.ref a,u,r]) Q E s:=by
 rcases g with⟨kvs,k,e,ey,l⟩ | ⟨kvs,k,b,e,ey,eb,l⟩
 ·subst ey
  obtain⟨z,hd,vs,rel,dd⟩:=iT I.hok e
  refine call_meetsIn PySem.F.slot_dict_get dd.typeIs PySem.F.entry_dict_get (PySem.F.args_dict_get_3 _ _ _) (meets_dict_get_default (bj X.prog X.w) a (ka ry) hd r) ⟨_,dd.mapOf,h _ _ (I.tok _) ?_⟩
  rw[l]
  exact(rel.val k).getD rd
 ·subst ey
  cases (show u=Value.ref b from ry)
  obtain⟨z,hd,xs,rel,dd⟩:=iS I.hok e
  refine call_meetsIn PySem.F.slot_dict_get dd.typeIs PySem.F.entry_dict_get (PySem.F.args_dict_get_3 _ _ _) (meetsH_dict_get_default (tupleKind (bj X.prog X.w)) a b hd r) ⟨tupleKind_room_in1 hu,k,xs,fT I.hok eb,dd,h _ _ (I.tok _) ?_⟩
  rw[l]
  exact(rel.val k).getD rd
end
def tDGet1(td ty:TE):TE:=fun σ H Q=>td σ H fun x H1=>∃ a,x=.ref a∧IsD H1 a∧ty σ H1 fun y H2=>∃ o,DGet H2 a y o∧Q (o.getD .non) H2
def tDGet2(td ty tx:TE):TE:=fun σ H Q=>td σ H fun x H1=>∃ a,x=.ref a∧IsD H1 a∧ty σ H1 fun y H2=>tx σ H2 fun z H3=>∃ o,DGet H3 a y o∧Q (o.getD z) H3
section
variable{X:Cx}{o e f:Expr}{apos cpos:Pos}{td ty tx:TE}
theorem vh(hu:X.A.units+1 < cLine)(ho:PE X o td)(he:PE X e ty)(m:M1 X o "get" apos e cpos):PE X (.Call (.Attribute o "get" apos) [e] [] cpos) (tDGet1 td ty):=by
 intro pins s σ H Q I h
 refine wpAny_Call_method m.base m.few m.line PySem.F.plainAttrs_dict PySem.F.slot_dict_get PySem.F.type_dict_get (thn (ho pins s σ H _ I h) fun u s1 ⟨x,H1,I1,rx,a,ex,d,q1⟩=>?_)
 subst ex
 obtain rfl:u=Value.ref a:=rx
 obtain⟨t1,t2,_⟩:=vQ I1 d
 refine⟨t1,t2,?_⟩
 rw[m.trees]
 refine Calls.callWith_builtin rfl (Calls.evalArgs_plain (Calls.spliced_cons (thn (he pins s1 σ H1 _ I1 q1) fun iv s2 ⟨y,H2,I2,ry,ov,g,q2⟩=>Calls.spliced_nil ?_)))
 exact d_get1 hu I2 g ry fun w' s3 I3 rw'=>⟨_,H2,I3,rw',q2⟩
theorem vg(hu:X.A.units+1 < cLine)(ho:PE X o td)(he:PE X e ty)(hf:PE X f tx)(m:M2 X o "get" apos e f cpos):PE X (.Call (.Attribute o "get" apos) [e,f] [] cpos) (tDGet2 td ty tx):=by
 intro pins s σ H Q I h
 refine wpAny_Call_method m.base m.few m.line PySem.F.plainAttrs_dict PySem.F.slot_dict_get PySem.F.type_dict_get (thn (ho pins s σ H _ I h) fun u s1 ⟨x,H1,I1,rx,a,ex,d,q1⟩=>?_)
 subst ex
 obtain rfl:u=Value.ref a:=rx
 obtain⟨t1,t2,_⟩:=vQ I1 d
 refine⟨t1,t2,?_⟩
 rw[m.trees]
 refine Calls.callWith_builtin rfl (Calls.evalArgs_plain (Calls.spliced_cons (thn (he pins s1 σ H1 _ I1 q1) fun iv s2 ⟨y,H2,I2,ry,q2⟩=>
  Calls.spliced_cons (thn (hf pins s2 σ H2 _ I2 q2) fun fv s3 ⟨z,H3,I3,rz,ov,g,q3⟩=>Calls.spliced_nil ?_))))
 exact d_get2 hu I3 g ry rz fun w' s4 I4 rw'=>⟨_,H3,I4,rw',q3⟩
end
section
variable{X:Cx}{pins:List (Addr × Obj)}{σ:St}{H:Hp}{s:Shared}{a:Addr}{kvs:List (Key × V)}{A:Around}{E:Value→Shared→Prop}
end
section
variable{X:Cx}{pins:List (Addr × Obj)}{σ:St}{H:Hp}{s:Shared}{a:Addr}{y:V}{u:Value}{A:Around}{E:Value→Shared→Prop}
end
section
variable{prog:Program}{w:World}{A:Around}{E:Value→Shared→Prop}
end
section
variable{X:Cx}
end
theorem kI:bootBuiltins "reversed"=some (.type "reversed"):=by decide +kernel
section
variable{X:Cx}{pins:List (Addr × Obj)}{σ:St}{H:Hp}{s:Shared}{h':Heap}
theorem Inv.turnedNew{t':Nat}{ch:List Addr}{T:Addr}{ob:HO}(I:Inv X pins σ H s)(k:∀ b o,b ∉ ch→s.heap.get? b=some o→h'.get? b=some o)(hf:∀ b∈ch,FpOk X pins H b)(hT:s.heap.objs.size≤T)
  (new:bA X.prog X.w (upd H T ob) h' T ob):Inv X pins σ (upd H T ob) { s with heap:=h',toks:=t' }:=by
 have hn:H T=none:=I.hok.fresh hT
 have nit:∀ b u,H b=some u→b ∉ ch:=fun b u e z=>by
  have q:=(hf b z).1
  rw[q] at e;cases e
 refine I.step (g':=s.gens) (d':=s.drawn) (ch:=ch) (fun b hb=>⟨(hf b hb).2.2.2.1,(hf b hb).2.1,(hf b hb).2.2.2.2.1,(hf b hb).2.2.2.2.2⟩) (fun b o _ _ hc e _=>k b o hc e) (fun b o _ _ hc e _=>⟨o.slots,k b o hc e⟩)
  (fun b o _ e n=>?_) (fun b o hc e=>⟨o,k b o hc e⟩) (fun b xs e=>?_) (fun b o u e=>?_) (fun b ps e=>⟨#[],?_⟩) (fun m hm=>?_) (fun b u e=>?_) I.bare
 ·rw[ag (Nat.ne_of_lt (Nat.lt_of_lt_of_le (Heap.lt_size e) hT))];exact n
 ·rw[ag (ae e hn)];exact e
 ·rw[ag (ae e hn)];exact e
 ·rw[ag (ae e hn),e];simp
 ·obtain⟨o,es,ep,ho,r⟩:=hm
  exact⟨o,es,ep,k _ o (fun z=>(hf _ z).2.1 rfl) ho,r⟩
 ·by_cases hb:b=T
  ·subst hb
   rw[ac] at e
   cases e
   exact new
  ·rw[ag hb] at e
   refine(I.hok b u e).stay (fun c v hc q=>k c v ?_ q) (fun c q=>by rw[ag (ae q hn)];exact q) fun c xs q=>by rw[ag (ae q hn)];exact q
   rcases hc with z | z
   ·rw[z];exact nit b u e
   ·exact nit c _ z
theorem Inv.lock{d:Addr}{u:HO}(I:Inv X pins σ H s)(h:H d=some u)(mu:Mut (some u)):∃ od,Inv X pins σ (upd H d (.frz od u)) s:=by
 have x:=I.hok d u h
 have ex:∃ od,s.heap.get? d=some od:=by
  cases u with
  | lst xs=>obtain⟨_,_,_,_,e⟩:=x;exact⟨_,e⟩
  | dK kvs=>obtain⟨_,_,_,_,o,_,_,e,_⟩:=x;exact⟨o,e⟩
  | dT kvs=>obtain⟨_,_,_,_,o,_,_,e,_⟩:=x;exact⟨o,e⟩
  | set S n=>obtain⟨o,_,_,_,e,_⟩:=x;exact⟨o,e⟩
  | ins C dx fs=>obtain⟨_,_,_,e,_⟩:=x;exact⟨_,e⟩
  | ext φ=>obtain⟨_,⟨_,e⟩,_⟩:=x;exact⟨_,e⟩
  | _=>exact False.elim mu
 obtain⟨od,e⟩:=ex
 have new:bA X.prog X.w (upd H d (.frz od u)) s.heap d (.frz od u):=by
  refine⟨e,x.stay (fun b v _ q=>q) (fun b q=>?_) fun b xs q=>?_⟩
  ·rw[ag (fun z=>by rw[z,h] at q;cases q;exact mu)];exact q
  ·rw[ag (fun z=>by rw[z,h] at q;cases q;exact mu)];exact q
 exact⟨od,I.write (x:=d) (e:=d) (t':=s.toks) (h':=s.heap) (by rw[h];exact mu) (.inl rfl) (fun b v _ q=>q) ⟨od,e⟩ new⟩
theorem Inv.nofrz{d:Addr}{u:HO}(I:Inv X pins σ H s)(h:H d=some u)(mu:Mut (some u)):∀ o' u',X.H_0 d≠some (.frz o' u'):=fun o' u' e=>by
 have q:=I.base.frzs d o' u' e
 rw[h] at q
 cases q
 exact mu
theorem Inv.unlock{d:Addr}{od:Obj}{u:HO}(I:Inv X pins σ H s)(h:H d=some (.frz od u))(hn:∀ o' u',X.H_0 d≠some (.frz o' u')):Inv X pins σ (upd H d u) s:=by
 have neH:∀ b o,H b=some o→(∀ o' u',o≠.frz o' u')→b≠d:=fun b o e hne z=>by
  rw[z,h] at e
  cases e
  exact hne _ _ rfl
 have neN:∀ b,H b=none→b≠d:=fun b e z=>by rw[z,h] at e;cases e
 refine⟨I.ok,I.os,I.bare,⟨I.base.keep,I.base.slot,fun b o e n hx=>?_,I.base.there,fun b xs e=>?_,fun b o x e=>?_,fun b ps e=>?_⟩,I.loc,I.cell,?_,fun x c e=>?_,fun p hp=>?_,fun b o e=>?_,I.len⟩
 ·rw[ag (neN b (I.base.free b o e n hx))];exact I.base.free b o e n hx
 ·have q:=I.base.tups b xs e
  rw[ag (neH b _ q (fun _ _ z=>nomatch z))];exact q
 ·have q:=I.base.frzs b o x e
  rw[ag (fun z=>by rw[z] at e;exact hn _ _ e)];exact q
 ·obtain⟨m,q⟩:=I.base.tbls b ps e
  exact⟨m,by rw[ag (neH b _ q (fun _ _ z=>nomatch z))];exact q⟩
 ·rw[ag (neN _ I.free)];exact I.free
 ·rw[ag (neN c (I.freeC x c e))];exact I.freeC x c e
 ·obtain⟨e,n,r⟩:=I.pin p hp
  exact⟨e,by rw[ag (neN _ n)];exact n,r⟩
 ·by_cases hb:b=d
  ·rw[hb,ac] at e
   cases e
   rw[hb]
   obtain⟨_,x⟩:=I.hok d _ h
   exact x.stay (fun c v _ q=>q) (fun c q=>by rw[ag (neH c _ q (fun _ _ z=>nomatch z))];exact q) fun c xs q=>by rw[ag (neH c _ q (fun _ _ z=>nomatch z))];exact q
  ·rw[ag hb] at e
   exact(I.hok b o e).stay (fun c v _ q=>q) (fun c q=>by rw[ag (neH c _ q (fun _ _ z=>nomatch z))];exact q) fun c xs q=>by rw[ag (neH c _ q (fun _ _ z=>nomatch z))];exact q
end
def tLock(t:TS):TS:=fun D σ H=>∃ d u,H d=some u∧Mut (some u)∧∀ od,t ⟨fun σ' H'=>H' d=some (.frz od u)∧D.nx σ' (upd H' d u),fun v H'=>H' d=some (.frz od u)∧D.rt v (upd H' d u),fun σ' H'=>H' d=some (.frz od u)∧D.bk σ' (upd H' d u),fun σ' H'=>H' d=some (.frz od u)∧D.ct σ' (upd H' d u)⟩ σ (upd H d (.frz od u))
section
variable{X:Cx}
theorem gd{st:Stmt}{t:TS}(h:PS X st t):PS X st (tLock t):=by
 intro pins s σ H D I hw
 obtain⟨d,u,hd,mu,hw⟩:=hw
 obtain⟨od,I1⟩:=I.lock hd mu
 refine thn (h pins s σ _ _ I1 (hw od)) fun f s1 q=>?_
 cases f with
 | next=>obtain⟨σ',H',I2,e,q⟩:=q;exact⟨σ',_,I2.unlock e (I.nofrz hd mu),q⟩
 | brk=>obtain⟨σ',H',I2,e,q⟩:=q;exact⟨σ',_,I2.unlock e (I.nofrz hd mu),q⟩
 | cont=>obtain⟨σ',H',I2,e,q⟩:=q;exact⟨σ',_,I2.unlock e (I.nofrz hd mu),q⟩
 | ret v=>obtain⟨x,σ',H',I2,r,e,q⟩:=q;exact⟨x,σ',_,I2.unlock e (I.nofrz hd mu),r,q⟩
theorem jP{tg:Expr}{pins:List (Addr × Obj)}{σ:St}{H:Hp}{s:Shared}{R:It→Hp→Prop}{J:It}{tn:Nat→Heap→Prop}{tk:Nat}(I:Inv X pins σ H s)(o:Obj)
  (T:Turn X.prog X.w X.K tg J [s.heap.objs.size] s.heap.objs.size tn) (st:tn 0 (s.heap.push o)) (q:R J H):PIE X pins σ tg R (.ref s.heap.objs.size) { s with heap:=s.heap.push o,toks:=tk }:=by
 refine⟨s.heap.objs.size,[s.heap.objs.size],tn,J,H,rfl,I.kept fun b ob e=>Heap.get?_push_of_some _ e,T,st,fun b hb=>?_,q⟩
 have e:b=s.heap.objs.size:=by simpa using hb
 subst e
 exact I.fpOk (Nat.le_refl _) (I.hok.fresh (Nat.le_refl _))
end
section
variable{X:Cx}{tg:Expr}
end
def Itv(K:Frag)(a:Addr)(n:Nat):It:=
 ⟨fun i H=>i < n∧∃ (xs:List V) (x:V),SqL K H a xs∧xs[n - 1 - i]?=some x,fun i H x H'=>H'=H∧∀ xs,SqL K H a xs→xs[n - 1 - i]?=some x,fun i _=>n≤i⟩
theorem uk{P:Program}{w:World}{K:Frag}{tg:Expr}(a it:Addr)(n:Nat):Turn P w K tg (Itv K a n) [it] it (fun i h=>i≤n∧h.IsRevIter it a ((n:Int) - 1 - (i:Nat))) where
 mem:=by simp
 obj:=fun i h st b hb=>by
  have e:b=it:=by simpa using hb
  subst e
  obtain⟨_,o,e,c,d⟩:=st
  exact⟨o,e,fun v z=>by rw[d] at z;cases z⟩
 keep:=fun i h h' st k=>⟨st.1,st.2.at fun o e=>k it (by simp) o e⟩
 item:=by
  intro X hP hw hK hc i pins s σ H E I hf st hg
  subst hP hw hK
  obtain⟨hin,xs,x,hq,hx⟩:=hg
  obtain⟨its,rv,p,hz⟩:=I.list hq
  obtain⟨u,hu,ru⟩:=rv.get hx
  obtain⟨f0,f1,f2,f3,f4,f5⟩:=hf it (by simp)
  obtain⟨_,hit⟩:=st
  have e1:(n:Int) - 1 - ((i:Nat):Int)=((n - 1 - i:Nat):Int):=by omega
  rw[e1] at hit
  refine wpAny_pyNext_rev_item hit p.isList (x:=u) (by simpa using hu) fun h' st' sb=>?_
  have e2:((n - 1 - i:Nat):Int) - 1=(n:Int) - 1 - ((i+1:Nat):Int):=by omega
  rw[e2] at st'
  have I1:Inv X pins σ H { s with heap:=h' }:=I.turned (t':=s.toks) (fun b o hb e=>(sb.2 b hb).trans e) f0 f1 f3 f4 f5
  obtain⟨o,e,c,d⟩:=id st'
  exact⟨u,rfl,km (s:={ s with heap:=h' }) e c d (by decide) ⟨x,H,I1,ru,⟨rfl,fun ys hy=>by rw[I.list_inj hy hq];exact hx⟩,⟨hin,st'⟩,fun b hb=>(hf b hb).1⟩⟩
 done:=by
  intro X hP hw hK hc i pins s σ H E I hf st hg
  subst hP hw hK
  obtain⟨f0,f1,f2,f3,f4,f5⟩:=hf it (by simp)
  obtain⟨hin,hit⟩:=st
  have hge:n≤i:=hg
  have e1:(n:Int) - 1 - ((i:Nat):Int)=-1:=by omega
  rw[e1] at hit
  exact wpAny_pyNext_rev_end (I.ok.hd hc) hit fun h' eb=>⟨rfl,I.turned (t':=s.toks) (fun b o hb e=>eb b o hb e) f0 f1 f3 f4 f5⟩
 self:=fun A i s Q E st h=>wpAny_pyIter_revIter st.2 h
def iRev(K:Frag)(ta:TA):TI:=fun σ H R=>ta σ H fun vs H1=>∃ (a:Addr) (xs:List V),vs=[.ref a]∧SqL K H1 a xs∧R (Itv K a xs.length) H1
section
variable{X:Cx}{tg:Expr}
theorem ox{e:Expr}{ta:TA}{p pos:Pos}(hg:Gl X "reversed")(hm:X.mg "reversed"=none)(ha:PA X [e] ta)(hs:starEach [e] X.env=[(false,eval e X.env)]:=by rfl):PI X tg (.Call (.Name "reversed" p) [e] [] pos) (iRev X.K ta):=by
 intro pins s σ H R I h
 refine Call_ (j5 I hg hm kI (PyProof.Rows.callWith_type1 (thn (ha pos pins s σ H _ I h) fun us s1 ⟨vs,H1,I1,r1,q1⟩=>?_) hs rfl))
 obtain⟨a,xs,e,hq,q⟩:=q1
 subst e
 cases r1 with
 | cons r rr=>
  cases rr
  cases r
  obtain⟨its,rv,p',hz⟩:=I1.list hq
  have hl:=rv.length
  have e1:((its.toArray.size:Nat):Int) - 1=(xs.length:Int) - 1 - ((0:Nat):Int):=by simp only[size_toArray];omega
  refine call_reversed_list p'.isList (wpAny_pyIter_revIter (l:=a) (i:=((its.toArray.size:Nat):Int) - 1) ⟨_,Heap.get?_push_size _ rfl,rfl,rfl⟩ ?_)
  refine jP (tk:=s1.toks) I1 _ (uk a _ xs.length) ⟨Nat.zero_le _,?_⟩ q
  rw[←e1]
  exact⟨_,Heap.get?_push_size _ rfl,rfl,rfl⟩
end
section
variable{prog:Program}{w:World}{A:Around}{E:Value→Shared→Prop}{s:Shared}
theorem ij{d:Addr}{o:Obj}{es:Array DictEntry}{ep:Nat}{Q:Value→Shared→Prop}(hd:(d == sysModules)=false)(ho:s.heap.get? d=some o)(hc:o.ExactDict)(hdat:o.data=.dict es ep)
  (hQ:Q (.ref s.heap.objs.size) { s with heap:=s.heap.push { cls:=.type "dict_keyiterator",data:=.fields #[.ref d,.int 0 0,.int es.size 0,.int ep 0] } }) :
  wpAny (model prog w) A (pyIter (.ref d)) Q E s:=by
 have hT:s.TypeIs (.ref d) "dict":=⟨o,ho,hc.1⟩
 refine wpAny_pyIter_slot hT F.slot_dict_iter (wpAny_call_entry F.slot_dict_iter hT F.entry_dict_iter ?_ (F.args_dict_iter_1 _))
 unfold Builtin.«dict.__iter__»
 refine wpAny_bind ?_
 unfold Builtin.Dict.dictSlotNone
 refine wpAny_bind (wpAny_notOrdered_dict hT ?_)
 show wpAny _ _ (pure (Value.ref d)) _ _ s
 refine wpAny_pure ?_
 show wpAny _ _ (Builtin.Dict.showsAll d >>= _) _ _ s
 unfold Builtin.Dict.showsAll
 rw[if_neg (by rw[hd];exact Bool.false_ne_true)]
 refine wpAny_bind (wpAny_pure ?_)
 refine wpAny_bind (wpAny_dictEntries ho hdat ?_)
 refine wpAny_bind (wpAny_dictEpoch ho hdat ?_)
 refine wpAny_bind (wpAny_newObj_type (wpAny_pure ⟨_,rfl,"dict_keyiterator",_,⟨_,Heap.get?_push_size _ rfl,rfl⟩,F.slot_dict_keyiterator_next.lookup,?_⟩))
 simpa [rawInt] using hQ
theorem fF{it d:Addr}{i n ep:Nat}{od:Obj}{es:Array DictEntry}{en:DictEntry}{Q:Option Value→Shared→Prop}(hit:s.heap.IsKeyIter it d i n ep)(hod:s.heap.get? d=some od)(hdd:od.data=.dict es ep)
  (hsz:es.size=n) (hx:es[i]?=some en) (hQ:∀ h',h'.IsKeyIter it d (i+1) n ep→Heap.SameBut it s.heap h'→Q (some en.key) { s with heap:=h' }):wpAny (model prog w) A (pyNext (.ref it)) Q E s:=by
 obtain⟨o,ho,hc,hd⟩:=id hit
 unfold pyNext
 refine wpAny_bind (wpAny_attempt (wpAny_callSpecial?_slot (name:=Str.ofString "__next__") hit.typeIs F.slot_dict_keyiterator_next
  (wpAny_call_entry F.slot_dict_keyiterator_next hit.typeIs F.entry_dict_keyiterator_next ?_ (F.args_dict_keyiterator_next_1 _))))
 refine wpAny_bind (wpAny_pure ?_)
 refine wpAny_bind ?_
 refine wpAny_bind ?_
 first | refine wpAny_bind (wpAny_typeNameOfWhole_keyiter hit.typeIs (wpAny_pure ?_)) | refine wpAny_bind (wpAny_typeNameOf_keyiter hit.typeIs (wpAny_pure ?_))
 refine wpAny_bind (wpAny_fieldsOf ho hd ?_)
 have hown:Builtin.Dict_items.ownsTuple "dict_keyiterator"=false:=by decide
 simp only[hown,Bool.false_eq_true,if_false]
 show wpAny _ _ (if(Value.ref d == Value.none)=true then _ else _) _ _ s
 rw[if_neg (show ¬ ((Value.ref d == Value.none)=true) from Bool.false_ne_true)]
 refine wpAny_bind (wpAny_pure ?_)
 refine wpAny_bind (wpAny_dictEntries hod hdd ?_)
 rw[if_neg (by rw[hsz];simp)]
 refine wpAny_bind (wpAny_pure ?_)
 refine wpAny_bind (wpAny_dictEpoch hod hdd ?_)
 rw[if_neg (by simp)]
 refine wpAny_pure ?_
 obtain⟨hlt',hen⟩:=Array.getElem?_eq_some_iff.mp hx
 simp only[show ¬ ((i:Int) < 0) from by omega,if_false,Int.toNat_natCast,Array.getElem?_eq_getElem hlt']
 refine wpAny_bind ?_
 first | refine wpAny_bind (wpAny_typeNameOfWhole_keyiter hit.typeIs (wpAny_pure ?_)) | refine wpAny_bind (wpAny_typeNameOf_keyiter hit.typeIs (wpAny_pure ?_))
 refine wpAny_bind (wpAny_isOneOf_keyiter hit.typeIs ?_)
 show wpAny _ _ (setField (.ref it) 1 (rawInt ((i:Int)+1)) >>= _) _ _ s
 refine wpAny_bind (wpAny_setField ho hd (by simp) ?_)
 have hit':(s.heap.update it (Obj.mapFields (·.setIfInBounds 1 (rawInt ((i:Int)+1))))).IsKeyIter it d (i+1) n ep:=
  ⟨_,Heap.get?_update_self _ ho (Obj.isFreed_of_fields (Obj.data_mapFields hd _)),(Obj.cls_mapFields ..).trans hc,by rw[Obj.data_mapFields hd];simp[rawInt]⟩
 refine wpAny_bind (wpAny_holding ?_)
 refine wpAny_bind (wpAny_isOneOf_keyiter (s:={ s with heap:=s.heap.update it (Obj.mapFields (·.setIfInBounds 1 (rawInt ((i:Int)+1)))) }) hit'.typeIs ?_)
 show wpAny _ _ (pure es[i].key) _ _ _
 rw[hen]
 exact wpAny_pure (wpAny_pure ⟨_,rfl,wpAny_pure (hQ _ hit' (Heap.SameBut.update ..))⟩)
theorem dP{it d:Addr}{i n ep:Nat}{od:Obj}{es:Array DictEntry}{Q:Option Value→Shared→Prop}(hh:A.handled=none)(hit:s.heap.IsKeyIter it d i n ep)(hod:s.heap.get? d=some od)(hdd:od.data=.dict es ep)
  (hsz:es.size=n) (hge:n≤i) (hQ:∀ h',Heap.ExtBut it s.heap h'→Q none { s with heap:=h' }):wpAny (model prog w) A (pyNext (.ref it)) Q E s:=by
 obtain⟨o,ho,hc,hd⟩:=id hit
 unfold pyNext
 refine wpAny_bind (wpAny_attempt (wpAny_callSpecial?_slot (name:=Str.ofString "__next__") hit.typeIs F.slot_dict_keyiterator_next
  (wpAny_call_entry F.slot_dict_keyiterator_next hit.typeIs F.entry_dict_keyiterator_next ?_ (F.args_dict_keyiterator_next_1 _))))
 refine wpAny_bind (wpAny_pure ?_)
 refine wpAny_bind ?_
 refine wpAny_bind ?_
 first | refine wpAny_bind (wpAny_typeNameOfWhole_keyiter hit.typeIs (wpAny_pure ?_)) | refine wpAny_bind (wpAny_typeNameOf_keyiter hit.typeIs (wpAny_pure ?_))
 refine wpAny_bind (wpAny_fieldsOf ho hd ?_)
 have hown:Builtin.Dict_items.ownsTuple "dict_keyiterator"=false:=by decide
 simp only[hown,Bool.false_eq_true,if_false]
 show wpAny _ _ (if(Value.ref d == Value.none)=true then _ else _) _ _ s
 rw[if_neg (show ¬ ((Value.ref d == Value.none)=true) from Bool.false_ne_true)]
 refine wpAny_bind (wpAny_pure ?_)
 refine wpAny_bind (wpAny_dictEntries hod hdd ?_)
 rw[if_neg (by rw[hsz];simp)]
 refine wpAny_bind (wpAny_pure ?_)
 refine wpAny_bind (wpAny_dictEpoch hod hdd ?_)
 rw[if_neg (by simp)]
 refine wpAny_pure ?_
 have hge':es.size≤i:=by rw[hsz];exact hge
 simp only[show ¬ ((i:Int) < 0) from by omega,if_false,Int.toNat_natCast,Array.getElem?_eq_none hge']
 refine wpAny_bind ?_
 first | refine wpAny_bind (wpAny_typeNameOfWhole_keyiter hit.typeIs (wpAny_pure ?_)) | refine wpAny_bind (wpAny_typeNameOf_keyiter hit.typeIs (wpAny_pure ?_))
 show wpAny _ _ (setField (.ref it) 0 .none >>= _) _ _ s
 refine wpAny_bind (wpAny_setField ho hd (by simp) ?_)
 show wpAny _ _ (newExc (.type "StopIteration") [] >>= _) _ _ _
 refine wpAny_bind ?_
 simp only[newExc,newTuple]
 refine wpAny_bind (wpAny_newObj_type ?_ (by size_fits))
 refine wpAny_bind (m:=firstArgMember _ _) (wpAny_of_eq (a:=Value.none) (by first | rfl | (simp only[firstArgMember];rfl)) ?_)
 refine wpAny_newObj_type ?_ (by size_fits)
 simp only[raiseNew]
 refine wpAny_bind (wpAny_handled ?_)
 rw[show A.in1.handled=none from hh]
 refine wpAny_bind (wpAny_pure (wpAny_throw ?_))
 refine wpAny_bind (wpAny_isInstance (T:="StopIteration") (b:=true) ⟨_,Heap.get?_push_size _ rfl,rfl⟩ isSubtype_stop ?_)
 exact wpAny_pure (hQ _ (((Heap.SameBut.update ..).extBut.push _).push _))
end
theorem kv_get{κ:Type}{kvs:List (κ × V)}{vs:List (κ × Value)}(h:KV kvs vs):∀ {i:Nat} {k:κ} {v:V},kvs[i]?=some (k,v)→∃ u,vs[i]?=some (k,u)∧RelV v u:=by
 unfold KV at h
 induction h with
 | nil=>intro i k v e;simp at e
 | @cons a b l₁ l₂ r t ih=>
  intro i k v e
  cases i with
  | zero=>
   simp only[List.getElem?_cons_zero,Option.some.injEq] at e
   subst e
   refine⟨b.2,?_,r.2⟩
   simp only[List.getElem?_cons_zero]
   exact congrArg some (Prod.ext r.1.symm rfl)
  | succ j=>
   simp only[List.getElem?_cons_succ] at e ⊢
   exact ih e
theorem aC{α β:Type}{G:α→β→Prop}{l₁:List α}{l₂:List β}(h:Paired G l₁ l₂):∀ {i:Nat} {a:α},l₁[i]?=some a→∃ b,l₂[i]?=some b∧G a b:=by
 induction h with
 | nil=>intro i a e;simp at e
 | @cons a b l₁ l₂ r t ih=>
  intro i a' e
  cases i with
  | zero=>
   simp only[List.getElem?_cons_zero,Option.some.injEq] at e
   subst e
   exact⟨b,rfl,r⟩
  | succ j=>
   simp only[List.getElem?_cons_succ] at e ⊢
   exact ih e
theorem uR{k:Key}{u:Value}(h:iP k u=true):RelV (kV k) u:=by
 rcases bo h with⟨i,t,rfl,rfl⟩ | ⟨x,t,rfl,rfl⟩
 ·exact⟨t,rfl⟩
 ·exact⟨t,rfl⟩
section
variable{X:Cx}{pins:List (Addr × Obj)}{σ:St}{H:Hp}{s:Shared}{d:Addr}{o:Obj}
theorem Inv.frzK{kvs:List (Key × V)}(I:Inv X pins σ H s)(h:H d=some (.frz o (.dK kvs))) :
  (d == sysModules)=false∧s.heap.get? d=some o∧o.ExactDict∧∃ (es:Array DictEntry) (ep:Nat) (vs:List (Key × Value)),o.data=.dict es ep∧es.size=kvs.length∧KV kvs vs∧s.heap.DictAt (bj X.prog X.w) d vs ep:=by
 obtain⟨hd,z,hs,vs,kv,o',es,ep,ho,hx,hdt,r⟩:=I.hok d _ h
 rw[hd] at ho
 cases ho
 refine⟨hs,hd,hx,es,ep,vs,hdt,?_,kv,o,es,hd,hx,hdt,r⟩
 have l1:=r.2.1.length
 have l2:kvs.length=vs.length:=Paired.length kv
 rw[Array.length_toList] at l1
 omega
theorem Inv.frzT{kvs:List (List Key × V)}(I:Inv X pins σ H s)(h:H d=some (.frz o (.dT kvs))) :
  (d == sysModules)=false∧s.heap.get? d=some o∧o.ExactDict∧∃ (es:Array DictEntry) (ep:Nat),o.data=.dict es ep∧es.size=kvs.length∧
   ∀ (i:Nat) (k:List Key) (v:V),kvs[i]?=some (k,v)→∃ (en:DictEntry) (q:Addr),es[i]?=some en∧en.key=.ref q∧H q=some (.tup (k.map kV)):=by
 obtain⟨hd,z,hs,xs,pr,o',es,ep,ho,hx,hdt,he,_⟩:=I.hok d _ h
 rw[hd] at ho
 cases ho
 refine⟨hs,hd,hx,es,ep,hdt,?_,fun i k v e=>?_⟩
 ·have l1:es.size=xs.length:=size_of_entries he
  have l2:kvs.length=xs.length:=Paired.length pr
  omega
 ·obtain⟨b,hb,e1,e2,_⟩:=aC pr e
  have q:=entry_at he i
  rw[hb] at q
  exact⟨_,b.2.1,q,rfl,e2⟩
end
def Itk(d:Addr)(o:Obj)(kvs:List (Key × V)):It:=
 ⟨fun i H=>H d=some (.frz o (.dK kvs))∧i < kvs.length,fun i H x H'=>H'=H∧∃ k v,kvs[i]?=some (k,v)∧x=kV k,fun i H=>H d=some (.frz o (.dK kvs))∧kvs.length≤i⟩
def Itkt(d:Addr)(o:Obj)(kvs:List (List Key × V)):It:=
 ⟨fun i H=>H d=some (.frz o (.dT kvs))∧i < kvs.length,fun i H x H'=>H'=H∧∃ (k:List Key) (v:V) (q:Addr),kvs[i]?=some (k,v)∧x=.ref q∧H q=some (.tup (k.map kV)),fun i H=>H d=some (.frz o (.dT kvs))∧kvs.length≤i⟩
theorem du{o:Obj}{es es':Array DictEntry}{ep ep':Nat}(h:o.data=.dict es ep)(h':o.data=.dict es' ep'):es'=es∧ep'=ep:=by
 rw[h] at h'
 cases h'
 exact⟨rfl,rfl⟩
section
variable{P:Program}{w:World}{K:Frag}{tg:Expr}{d:Addr}{o:Obj}{es:Array DictEntry}{ep:Nat}
theorem sL{kvs:List (Key × V)}(it:Addr)(hod:o.data=.dict es ep):Turn P w K tg (Itk d o kvs) [it] it (fun i h=>h.IsKeyIter it d i kvs.length ep) where
 mem:=by simp
 obj:=fun i h st b hb=>by
  have e:b=it:=by simpa using hb
  subst e
  obtain⟨oi,e,c,dd⟩:=st
  exact⟨oi,e,fun v z=>by rw[dd] at z;cases z⟩
 keep:=fun i h h' st k=>st.at fun oi e=>k it (by simp) oi e
 item:=by
  intro X hP hw hK hc i pins s σ H E I hf st hg
  subst hP hw hK
  obtain⟨hd,hi⟩:=hg
  obtain⟨f0,f1,f2,f3,f4,f5⟩:=hf it (by simp)
  obtain⟨hs,hgd,hx,es',ep',vs,hdt,hsz,kv,hm⟩:=I.frzK hd
  obtain⟨rfl,rfl⟩:=du hod hdt
  obtain⟨⟨k,v⟩,hkv⟩:∃ p,kvs[i]?=some p:=⟨kvs[i],getElem?_eq_getElem hi⟩
  obtain⟨u,hu,ru⟩:=kv_get kv hkv
  have hl:kvs.length=vs.length:=Paired.length kv
  rw[hl] at st
  refine wpAny_pyNext_dict_item st hm hu fun key h' hkey st' sb=>?_
  have I1:Inv X pins σ H { s with heap:=h' }:=I.turned (t':=s.toks) (fun b ob hb e=>(sb.2 b hb).trans e) f0 f1 f3 f4 f5
  obtain⟨oi,e,c,dd⟩:=id st'
  refine⟨key,rfl,km (s:={ s with heap:=h' }) e c dd (by decide) ⟨kV k,H,I1,uR (show iP k key=true from hkey),⟨rfl,k,v,hkv,rfl⟩,?_,fun b hb=>(hf b hb).1⟩⟩
  show h'.IsKeyIter it d (i+1) kvs.length _
  rw[hl]
  exact st'
 done:=by
  intro X hP hw hK hc i pins s σ H E I hf st hg
  subst hP hw hK
  obtain⟨hd,hi⟩:=hg
  obtain⟨f0,f1,f2,f3,f4,f5⟩:=hf it (by simp)
  obtain⟨hs,hgd,hx,es',ep',vs,hdt,hsz,kv,hm⟩:=I.frzK hd
  obtain⟨rfl,rfl⟩:=du hod hdt
  exact dP (I.ok.hd hc) st hgd hdt hsz hi fun h' eb=>⟨rfl,I.turned (t':=s.toks) (fun b ob hb e=>eb b ob hb e) f0 f1 f3 f4 f5⟩
 self:=fun A i s Q E st h=>wpAny_pyIter_keyiter st h
theorem pM{kvs:List (List Key × V)}(it:Addr)(hod:o.data=.dict es ep):Turn P w K tg (Itkt d o kvs) [it] it (fun i h=>h.IsKeyIter it d i kvs.length ep) where
 mem:=by simp
 obj:=fun i h st b hb=>by
  have e:b=it:=by simpa using hb
  subst e
  obtain⟨oi,e,c,dd⟩:=st
  exact⟨oi,e,fun v z=>by rw[dd] at z;cases z⟩
 keep:=fun i h h' st k=>st.at fun oi e=>k it (by simp) oi e
 item:=by
  intro X hP hw hK hc i pins s σ H E I hf st hg
  subst hP hw hK
  obtain⟨hd,hi⟩:=hg
  obtain⟨f0,f1,f2,f3,f4,f5⟩:=hf it (by simp)
  obtain⟨hs,hgd,hx,es',ep',hdt,hsz,ent⟩:=I.frzT hd
  obtain⟨rfl,rfl⟩:=du hod hdt
  obtain⟨⟨k,v⟩,hkv⟩:∃ p,kvs[i]?=some p:=⟨kvs[i],getElem?_eq_getElem hi⟩
  obtain⟨en,q,hen,hkey,hq⟩:=ent i k v hkv
  refine fF st hgd hdt hsz hen fun h' st' sb=>?_
  have I1:Inv X pins σ H { s with heap:=h' }:=I.turned (t':=s.toks) (fun b ob hb e=>(sb.2 b hb).trans e) f0 f1 f3 f4 f5
  obtain⟨oi,e,c,dd⟩:=id st'
  exact⟨en.key,rfl,km (s:={ s with heap:=h' }) e c dd (by decide) ⟨.ref q,H,I1,hkey,⟨rfl,k,v,q,hkv,rfl,hq⟩,st',fun b hb=>(hf b hb).1⟩⟩
 done:=by
  intro X hP hw hK hc i pins s σ H E I hf st hg
  subst hP hw hK
  obtain⟨hd,hi⟩:=hg
  obtain⟨f0,f1,f2,f3,f4,f5⟩:=hf it (by simp)
  obtain⟨hs,hgd,hx,es',ep',hdt,hsz,ent⟩:=I.frzT hd
  obtain⟨rfl,rfl⟩:=du hod hdt
  exact dP (I.ok.hd hc) st hgd hdt hsz hi fun h' eb=>⟨rfl,I.turned (t':=s.toks) (fun b ob hb e=>eb b ob hb e) f0 f1 f3 f4 f5⟩
 self:=fun A i s Q E st h=>by
  refine wpAny_pyIter_slot st.typeIs F.slot_dict_keyiterator_iter (wpAny_call_entry F.slot_dict_keyiterator_iter st.typeIs F.entry_dict_keyiterator_iter ?_ (F.args_dict_keyiterator_iter_1 _))
  show wpAny _ _ (ret (.ref it)) _ _ s
  exact wpAny_pure ⟨_,rfl,"dict_keyiterator",_,st.typeIs,F.slot_dict_keyiterator_next.lookup,h⟩
end
def iKeys(td:TE):TI:=fun σ H R=>td σ H fun x H1=>∃ d o,x=.ref d∧((∃ kvs,H1 d=some (.frz o (.dK kvs))∧R (Itk d o kvs) H1)∨∃ kvs,H1 d=some (.frz o (.dT kvs))∧R (Itkt d o kvs) H1)
section
variable{X:Cx}{tg e:Expr}{td:TE}{apos cpos:Pos}
theorem rL(he:PE X e td):PI X tg e (iKeys td):=by
 intro pins s σ H R I h
 refine thn (he pins s σ H _ I h) fun u s1 ⟨x,H1,I1,rx,d,o,ex,q⟩=>?_
 subst ex
 obtain rfl:u=Value.ref d:=rx
 rcases q with⟨kvs,hd,q⟩ | ⟨kvs,hd,q⟩
 ·obtain⟨hs,hgd,hx,es,ep,vs,hdt,hsz,kv,hm⟩:=I1.frzK hd
  refine ij hs hgd hx hdt (jP (tk:=s1.toks) I1 _ (sL _ hdt) ⟨_,Heap.get?_push_size _ rfl,rfl,?_⟩ q)
  rw[hsz]<;>rfl
 ·obtain⟨hs,hgd,hx,es,ep,hdt,hsz,ent⟩:=I1.frzT hd
  refine ij hs hgd hx hdt (jP (tk:=s1.toks) I1 _ (pM _ hdt) ⟨_,Heap.get?_push_size _ rfl,rfl,?_⟩ q)
  rw[hsz]<;>rfl
end
def Ite(K:Frag)(a:Addr):It:=
 ⟨fun i H=>∃ (xs:List V) (x:V),SqL K H a xs∧xs[i]?=some x,fun i H v H'=>∃ T x,v=.ref T∧H T=none∧H'=upd H T (.tup [.int (i:Nat),x])∧∀ xs,SqL K H a xs→xs[i]?=some x,fun i H=>∃ xs:List V,SqL K H a xs∧xs.length≤i⟩
theorem sM{P:Program}{w:World}{K:Frag}{elts:List Expr}{kk:Nat}{tpos:Pos}(a e it:Addr) :
  Turn P w K (.Tuple elts kk tpos) (Ite K a) [e,it] e (fun i h=>(∃ old,IsEnum h e it ((i:Nat):Int) old)∧h.IsListIter it a i∧e≠it) where
 mem:=by simp
 obj:=fun i h st b hb=>by
  obtain⟨⟨old,he⟩,⟨o,ho,hc,hd⟩,_⟩:=st
  have e':b=e∨b=it:=by simpa using hb
  rcases e' with z | z
  ·rw[z];exact⟨_,he,fun v q=>nomatch q⟩
  ·rw[z];exact⟨o,ho,fun v q=>by rw[hd] at q;cases q⟩
 keep:=fun i h h' st k=>let ⟨⟨old,he⟩,hi,hne⟩:=st;⟨⟨old,k e (by simp) _ he⟩,hi.at fun o q=>k it (by simp) o q,hne⟩
 item:=by
  intro X hP hw hK hc i pins s σ H E I hf st hg
  subst hP hw hK
  obtain⟨⟨old,he⟩,hit,hne⟩:=st
  obtain⟨xs,x,hq,hx⟩:=hg
  obtain⟨its,rv,p,hz⟩:=I.list hq
  obtain⟨u,hu,ru⟩:=rv.get hx
  have hel:e < s.heap.objs.size:=Heap.lt_size he
  have hil:it < s.heap.objs.size:=by obtain⟨_,q,_⟩:=hit;exact Heap.lt_size q
  refine wpAny_pyNext_enum_item he hit p.isList (x:=u) (by simpa using hu) hne fun h' ho hit' hT hsz hk=>?_
  refine⟨_,rfl,wpAny_letOwnedTupleGo_enum (s:={ s with heap:=h',toks:=s.toks+1 }) ho fun h'' he' sb=>?_⟩
  have hT2:h''.get? s.heap.objs.size=some { cls:=.type "tuple",data:=.seq #[.int i s.toks,u] }:=(sb.2 _ (Nat.ne_of_gt hel)).trans hT
  have new:bA X.prog X.w (upd H s.heap.objs.size (.tup [.int (i:Nat),x])) h'' s.heap.objs.size (.tup [.int (i:Nat),x]):=
   ⟨by show 2≤sizeLine;decide,[.int i s.toks,u],.cons ⟨_,rfl⟩ (.cons ru .nil),⟨_,hT2,rfl,_,rfl⟩⟩
  have I1:Inv X pins σ (upd H s.heap.objs.size (.tup [.int (i:Nat),x])) { s with heap:=h'',toks:=s.toks+1 }:=
   I.turnedNew (ch:=[e,it]) (fun b ob hb q=>(sb.2 b (fun z=>hb (by simp[z]))).trans (hk b ob (fun z=>hb (by simp[z])) (fun z=>hb (by simp[z])) q)) hf (Nat.le_refl _) new
  refine⟨.ref s.heap.objs.size,_,I1,rfl,⟨_,x,rfl,I.hok.fresh (Nat.le_refl _),rfl,fun ys hy=>by rw[I.list_inj hy hq];exact hx⟩,⟨⟨u,?_⟩,hit'.at fun o q=>(sb.2 it (Ne.symm hne)).trans q,hne⟩,fun b hb=>?_⟩
  ·have e1:((i+1:Nat):Int)=(i:Int)+1:=by omega
   rw[e1];exact he'
  ·have hb':b < s.heap.objs.size:=by
    have e':b=e∨b=it:=by simpa using hb
    rcases e' with z | z
    ·rw[z];exact hel
    ·rw[z];exact hil
   rw[ag (Nat.ne_of_lt hb')]
   exact(hf b hb).1
 done:=by
  intro X hP hw hK hc i pins s σ H E I hf st hg
  subst hP hw hK
  obtain⟨⟨old,he⟩,hit,hne⟩:=st
  obtain⟨xs,hq,hx⟩:=hg
  obtain⟨its,rv,p,hz⟩:=I.list hq
  obtain⟨f0,f1,f2,f3,f4,f5⟩:=hf it (by simp)
  have hl:=rv.length
  exact wpAny_pyNext_enum_end (I.ok.hd hc) he hit p.isList (by simp;omega) fun h' eb=>⟨rfl,I.turned (t':=s.toks) (fun b o hb q=>eb b o hb q) f0 f1 f3 f4 f5⟩
 self:=fun A i s Q E st h=>let ⟨⟨_,he⟩,_⟩:=st;wpAny_pyIter_enum he h
def iEnum(K:Frag)(ta:TA):TI:=fun σ H R=>ta σ H fun vs H1=>∃ a xs,vs=[.ref a]∧SqL K H1 a xs∧R (Ite K a) H1
theorem rM{X:Cx}{e:Expr}{ta:TA}{p pos tpos:Pos}{elts:List Expr}{kk:Nat}(hg:Gl X "enumerate")(hm:X.mg "enumerate"=none)(ha:PA X [e] ta)(hs:starEach [e] X.env=[(false,eval e X.env)]:=by rfl) :
  PI X (.Tuple elts kk tpos) (.Call (.Name "enumerate" p) [e] [] pos) (iEnum X.K ta):=by
 intro pins s σ H R I h
 refine Call_ (j5 I hg hm boot_enumerate (PyProof.Rows.callWith_type1 (thn (ha pos pins s σ H _ I h) fun us s1 ⟨vs,H1,I1,r1,q1⟩=>?_) hs rfl))
 obtain⟨a,xs,ex,hq,q⟩:=q1
 subst ex
 cases r1 with
 | cons r rr=>
  cases rr
  cases r
  obtain⟨its,rv,p',hz⟩:=I1.list hq
  refine call_enumerate_list p'.isList fun h' he hit hsz hk=>wpAny_pyIter_enum he ?_
  have I2:Inv X pins σ H1 { s1 with heap:=h' }:=I1.kept (t':=s1.toks) hk
  refine⟨s1.heap.objs.size+1,[s1.heap.objs.size+1,s1.heap.objs.size],_,_,H1,rfl,I2,sM a (s1.heap.objs.size+1) s1.heap.objs.size,⟨⟨.none,he⟩,hit,Nat.succ_ne_self _⟩,fun b hb=>?_,q⟩
  have e':b=s1.heap.objs.size+1∨b=s1.heap.objs.size:=by simpa using hb
  have hle:s1.heap.objs.size≤b:=by
   rcases e' with z | z
   ·rw[z];exact Nat.le_add_right _ _
   ·rw[z];exact Nat.le_refl _
  exact I1.fpOk hle (I1.hok.fresh hle)
end L2
section
namespace Bits
open PySem PyProof.Rows
theorem nat_xor_add_and(m:Nat):∀ n:Nat,(m ^^^ n)+2*(m &&& n)=m+n:=by
 induction m using Nat.strongRecOn with
 | _ m ih=>
  intro n
  by_cases h0:m=0
  ·subst h0
   simp
  ·have ih':=ih (m / 2) (by omega) (n / 2)
   rw[←Nat.xor_div_two,←Nat.and_div_two] at ih'
   have o1:=@Nat.xor_mod_two_eq_one m n
   have a1:=@Nat.and_mod_two_eq_one m n
   omega
end Bits
end
section
namespace TL
open PySem PySem.Builtin PySem.Builtin.Str PySem.StrLaws
end TL
end
namespace L2
open PySem PySem.Spec PyProof.Rows
open PySem.W (Frag)
section
variable{X:Cx}{pins:List (Addr × Obj)}{σ:St}{H:Hp}{s:Shared}{Q:VK}
end
section
variable{X:Cx}
end
section
variable{X:Cx}{o e:Expr}{to te:TE}
end
section
variable{X:Cx}
end
end L2
namespace Att
open PySem PySem.W PySem.Calls PyProof.Rows
section
variable{prog:Program}{w:World}{A:Around}{E:Value→Shared→Prop}{s:Shared}{K:Frag}
end
end Att
namespace L2
open PySem PySem.Spec PyProof.Rows
open PySem.W (Frag)
def bM(s:Stmt)(j:Nat):Stmt:=match s with
 | .ClassDef _ _ _ body _ _ _ _ _ _ _=>body.getD j (.Pass ⟨0,0,0,0⟩)
 | _=>.Pass ⟨0,0,0,0⟩
def cg(s:Stmt):Arguments:=match s with
 | .FunctionDef _ a _ _ _ _ _ _ _ _=>a
 | _=>{ posonlyargs:=[],args:=[],vararg:=none,kwonlyargs:=[],kw_defaults:=[],kwarg:=none,defaults:=[] }
def bq(s:Stmt):List Stmt:=match s with
 | .FunctionDef _ _ b _ _ _ _ _ _ _=>b
 | _=>[]
def aj(s:Stmt):Scope:=match s with
 | .FunctionDef _ _ _ _ _ _ sc _ _ _=>sc
 | _=>{ kind:=.function,names:=[],isGenerator:=false,isCoroutine:=false }
abbrev CX0:CXT:=fun _ _ _ _ _ _=>False
abbrev E0:XK:=fun _ _ _=>False
theorem aA{X:Cx}:bQ CX0 X E0:=fun _ _ _ _ _ _ _ h=>h.elim
structure Fun(K:Frag)(x qual:Str)(st:Stmt)(f:Addr)(fd:FuncData):Prop where
 ex:∃ (oc:Value) (od:Option Addr) (kV doc pm:Value) (an:Option Addr) (cdv ct:Value) (osl:Array (Option Value)),
  fd=PySem.W.fnOf x qual (cg st) (bq st) (aj st) .none kV doc pm an cdv ct∧K.lookup f=some ⟨oc,od,.func fd,osl⟩∧PySem.W.codeIn K cdv qual=true
 kp:PySem.W.keepIn K (.ref f)=true
section
variable{P:Program}{w:World}{K:Frag}{mg:Str→Option Value}{base:Heap}
theorem Fun.ok{x qual:Str}{st:Stmt}{f:Addr}{fd:FuncData}{N ps:List Str}{k:Nat}{sp:Sp}(F:Fun K x qual st f fd)(S:al N ps (aj st))(len:∀ vs H Q E,sp vs H Q E→vs.length=ps.length)
  (hbody:∀ (cdv:Value) (A:Around) (outer:List Env) (s:Shared) (H:Hp) (vs:List V) (Q:VK) (E:XK),Room k (A.deeper (envOfC qual (aj st) s.heap.objs.size f cdv))→sp vs H Q E→
   ∃ t,PSs (cxOf CX0 P w K mg base N qual (aj st) f cdv A outer s H E).nox (bq st) t∧t { nx:=fun _ H'=>Q .non H',rt:=Q } (start N vs) H):FnOk P w K mg base CX0 (k+1) f fd ps sp:=by
 obtain⟨oc,od,kV,doc,pm,an,cdv,ct,osl,rfl,lk,hcd⟩:=F.ex
 refine fn_of lk hcd S len fun A outer s H vs Q E hr hsp=>?_
 obtain⟨t,h,q⟩:=hbody cdv A outer s H vs Q E hr hsp
 exact⟨t,h.nox,q⟩
theorem Fun.binds{x qual:Str}{st:Stmt}{f:Addr}{fd:FuncData}{ps:List Str}(F:Fun K x qual st f fd)
  (h:∀ (kV doc pm:Value) (an:Option Addr) (cdv ct:Value) (us:List Value),us.length=ps.length→bindArgs (PySem.W.fnOf x qual (cg st) (bq st) (aj st) .none kV doc pm an cdv ct) ⟨us,[]⟩=pure (ps.zip us)):cj K fd ps []:=by
 obtain⟨oc,od,kV,doc,pm,an,cdv,ct,osl,rfl,lk,hcd⟩:=F.ex
 exact .all (h kV doc pm an cdv ct)
theorem fU{x qual:Str}{st:Stmt}{f:Addr}{oc:Value}{od an:Option Addr}{osl:Array (Option Value)}{kV doc pm cdv ct:Value}(l:K.lookup f=some ⟨oc,od,.func (PySem.W.fnOf x qual (cg st) (bq st) (aj st) .none kV doc pm an cdv ct),osl⟩)
  (c:PySem.W.codeIn K cdv qual=true) (k:PySem.W.keepIn K (.ref f)=true):Fun K x qual st f (PySem.W.fnOf x qual (cg st) (bq st) (aj st) .none kV doc pm an cdv ct):=⟨⟨oc,od,kV,doc,pm,an,cdv,ct,osl,rfl,l,c⟩,k⟩
end
theorem dr{A:Around}{k:Nat}(hr:Room k A):A.units+1 < cLine:=Nat.lt_of_le_of_lt (Nat.add_le_add_left (by decide:1≤64) _) hr.units
section
variable{X:Cx}
theorem pv(i:Nat){x:Str}{pos:Pos}(hN:X.N[i]?=some x:=by rfl)(hv:Vis X.env.scope x:=by first | exact Or.inl rfl | exact Or.inr (Or.inl rfl) | exact Or.inr (Or.inr rfl))(hd:(x == ("__debug__":Str))=false:=by decide)
  (hcd:(x == ("__classdict__":Str))=false:=by decide):PE X (.Name x pos) (tVar i):=pe_var hN hv hd hcd
end
theorem iteF{A B:Prop}(h:B):if false=true then A else B:=by
 rw[if_neg Bool.false_ne_true]
 exact h
theorem iteT{A B:Prop}(h:A):if true=true then A else B:=by
 rw[if_pos rfl]
 exact h
def Same(H H':Hp):Prop:=∀ b o,H b=some o→H' b=some o
theorem Same.refl(H:Hp):Same H H:=fun _ _ h=>h
theorem Same.trans{H H1 H2:Hp}(a:Same H H1)(b:Same H1 H2):Same H H2:=fun c o h=>b c o (a c o h)
theorem Same.free{H H':Hp}(e:Same H H'){l:Addr}(h:H' l=Option.none):H l=Option.none:=by
 cases q:H l with
 | none=>rfl
 | some o=>
  rw[e l o q] at h
  cases h
theorem Same.seq{K:Frag}{H H':Hp}{a:Addr}{xs:List V}(e:Same H H')(h:SqL K H a xs):SqL K H' a xs:=by
 rcases h with(h | ⟨o,h⟩) | h
 ·exact .inl (.inl (e _ _ h))
 ·exact .inl (.inr ⟨o,e _ _ h⟩)
 ·exact .inr h
section
variable{κ:Type}[DecidableEq κ]
theorem nw{kvs:List (κ × V)}{k:κ}(h:valV kvs k=none):¬ k∈kvs.map (·.1):=by
 intro m
 obtain⟨p,hp,e⟩:=mem_map.mp m
 have q:(kvs.any fun kv=>decide (kv.1=k))=true:=any_eq_true.mpr ⟨p,hp,decide_eq_true e⟩
 rw[cB,h] at q
 exact absurd q (by simp)
theorem i7{kvs:List (κ × V)}{k:κ}{v:V}(h:valV kvs k=some v):k∈kvs.map (·.1):=by
 have q:(kvs.any fun kv=>decide (kv.1=k))=true:=by
  rw[cB,h]
  all_goals rfl
 obtain⟨p,hp,e⟩:=any_eq_true.mp q
 exact mem_map.mpr ⟨p,hp,of_decide_eq_true e⟩
end
theorem at_of{xs:List V}{z:Int}{j:Nat}{v:V}(e:z=(j:Int))(h:xs[j]?=some v):atI xs z=some v:=by
 rw[e]
 exact ax h
open PySem.W (WData Codec OpenSpec Well WellAll ReadsW ReadsAllW)
mutual
inductive Dw(K:Frag)(H:Hp):V→WData→Prop
 | non:Dw K H .non .none
 | bl (b:Bool):Dw K H (.bl b) (.bool b)
 | int (i:Int):Dw K H (.int i) (.int i)
 | str (x:Str):Dw K H (.str x) (.str x)
 | byt (b:Array UInt8):Dw K H (.byt b) (.bytes b.toList)
 | lst {a:Addr} {xs:List V} {ds:List WData}:SqL K H a xs→ed K H xs ds→Dw K H (.ref a) (.list ds)
 | tup {a:Addr} {xs:List V} {ds:List WData}:SqT K H a xs→ed K H xs ds→Dw K H (.ref a) (.tuple ds)
inductive ed(K:Frag)(H:Hp):List V→List WData→Prop
 | nil:ed K H [] []
 | cons {v:V} {vs:List V} {d:WData} {ds:List WData}:Dw K H v d→ed K H vs ds→ed K H (v::vs) (d::ds)
end
theorem r8{K:Frag}{H:Hp}:∀ ns:List Int,ed K H (ns.map V.int) (ns.map WData.int)
 | []=>.nil
 | n::r=>.cons (.int n) (r8 r)
theorem rW{K:Frag}{H:Hp}:∀ (ns:List Int) (xs:List V),ed K H xs (ns.map WData.int)→xs=ns.map V.int
 | [],xs,h=>by
  cases h
  rfl
 | n::r,xs,h=>by
  cases h with
  | cons h1 h2=>
   cases h1
   rw[rW r _ h2]<;>rfl
section
variable{P:Program}{w:World}{K:Frag}{H:Hp}{h:Heap}{R:PySem.W.WRecords}{cl:Str→Option Addr}
theorem sqL_at{a:Addr}{xs:List V}(hok:HOk P w H h)(KX:K.In h)(q:SqL K H a xs):∃ (its:List Value) (o:Obj) (n:Nat),Vals xs its∧h.get? a=some o∧o.cls=.type "list"∧o.data=.seq its.toArray n:=by
 rcases q with q | ⟨o,its,n,e,hc,_,hd,_,hv⟩
 ·obtain⟨_,its,n,hv,e⟩:=(show bA P w H h a (.lst xs) from q.ok hok)
  exact⟨its,_,n,hv,e,rfl,rfl⟩
 ·exact⟨its.toList,o,n,hv,KX _ _ e,hc,by simp[hd]⟩
theorem sqT_at{a:Addr}{xs:List V}(hok:HOk P w H h)(KX:K.In h)(q:SqT K H a xs):∃ (its:List Value) (o:Obj) (n:Nat),Vals xs its∧h.get? a=some o∧o.cls=.type "tuple"∧o.data=.seq its.toArray n:=by
 rcases q with q | ⟨o,its,n,e,hc,hd,_,hv⟩
 ·obtain⟨_,its,hv,o,e,hc,n,hd⟩:=(show bA P w H h a (.tup xs) from q.ok hok)
  exact⟨its,o,n,hv,e,hc,hd⟩
 ·exact⟨its.toList,o,n,hv,KX _ _ e,hc,by simp[hd]⟩
mutual
theorem Dw.reads(hok:HOk P w H h)(KX:K.In h):∀ (d:WData) (v:V) (u:Value),Dw K H v d→RelV v u→∃ as,ReadsW R cl h u d as
 | .none,_,_,x,r=>by
  cases x
  cases r
  exact⟨_,ReadsW.none⟩
 | .bool b,_,_,x,r=>by
  cases x
  cases r
  exact⟨_,ReadsW.bool b⟩
 | .int i,_,_,x,r=>by
  cases x
  obtain⟨t,rfl⟩:=r
  exact⟨_,ReadsW.int i t⟩
 | .str s,_,_,x,r=>by
  cases x
  obtain⟨t,rfl⟩:=r
  exact⟨_,ReadsW.str s t⟩
 | .bytes b,_,_,x,r=>by
  cases x
  obtain⟨t,rfl⟩:=r
  exact⟨_,ReadsW.bytes _ t⟩
 | .list ds,_,_,x,r=>by
  cases x with
  | lst hs ha=>
   cases r
   obtain⟨its,o,n,rv,ho,hc,hd⟩:=sqL_at hok KX hs
   obtain⟨as,hr⟩:=Dw.readsAll hok KX ds _ its ha rv
   exact⟨_,ReadsW.list ho hc hd hr⟩
 | .tuple ds,_,_,x,r=>by
  cases x with
  | tup hs ha=>
   cases r
   obtain⟨its,o,n,rv,ho,hc,hd⟩:=sqT_at hok KX hs
   obtain⟨as,hr⟩:=Dw.readsAll hok KX ds _ its ha rv
   exact⟨_,ReadsW.tuple ho hc hd hr⟩
 | .float _,_,_,x,_=>by cases x
 | .dict _,_,_,x,_=>by cases x
 | .bytearray _,_,_,x,_=>by cases x
 | .set _,_,_,x,_=>by cases x
 | .frozenset _,_,_,x,_=>by cases x
 | .obj _ _,_,_,x,_=>by cases x
theorem Dw.readsAll(hok:HOk P w H h)(KX:K.In h):∀ (ds:List WData) (vs:List V) (us:List Value),ed K H vs ds→Vals vs us→∃ as,ReadsAllW R cl h us ds as
 | [],_,_,x,r=>by
  cases x
  cases r
  exact⟨_,ReadsAllW.nil⟩
 | d::ds,_,_,x,r=>by
  cases x with
  | cons h1 h2=>
   cases r with
   | cons r1 r2=>
    obtain⟨as,q1⟩:=Dw.reads hok KX d _ _ h1 r1
    obtain⟨bs,q2⟩:=Dw.readsAll hok KX ds _ _ h2 r2
    exact⟨_,ReadsAllW.cons q1 q2⟩
end
end
mutual
def plW:WData→Bool
 | .none=>true
 | .bool _=>true
 | .int _=>true
 | .str _=>true
 | .bytes _=>true
 | .list xs=>plWs xs
 | .tuple xs=>plWs xs
 | _=>false
def plWs:List WData→Bool
 | []=>true
 | x::r=>plW x && plWs r
end
theorem ow{α:Type}{f:α→WData}(h:∀ a,plW (f a)=true):∀ l:List α,plWs (l.map f)=true
 | []=>rfl
 | x::r=>by
  show(plW (f x) && plWs (r.map f))=true
  rw[h x,ow h r]<;>rfl
theorem et:∀ (c:Codec) (a:c.denote),plW (c.enc a)=true
 | .unit,_=>rfl
 | .bool,_=>rfl
 | .int _ _,_=>rfl
 | .nat _ _,_=>rfl
 | .u8,_=>rfl
 | .bytes _ _,_=>rfl
 | .text _ _ _ _,_=>rfl
 | .list _ _ c,a=>ow (fun x=>et c x) a
 | .pair c d,a=>by
  show(plW (c.enc a.1) && (plW (d.enc a.2) && true))=true
  rw[et c a.1,et d a.2]<;>rfl
 | .triple c d e,a=>by
  show(plW (c.enc a.1) && (plW (d.enc a.2.1) && (plW (e.enc a.2.2) && true)))=true
  rw[et c a.1,et d a.2.1,et e a.2.2]<;>rfl
 | .option c,none=>rfl
 | .option c,some x=>et c x
theorem lJ:∀ (cs:List Codec) (a:Codec.denoteAll cs),plWs (Codec.encAll cs a)=true
 | [],_=>rfl
 | c::cs,a=>by
  show(plW (c.enc a.1) && plWs (Codec.encAll cs a.2))=true
  rw[et c a.1,lJ cs a.2]<;>rfl
theorem fL:∀ {xs:List WData} {d:WData},d∈xs→d.weight≤WData.weightAll xs
 | [],d,h=>absurd h (by simp)
 | x::r,d,h=>by
  show d.weight≤x.weight+1+WData.weightAll r
  rcases mem_cons.mp h with e | m
  ·rw[e]
   omega
  ·have z:=fL m
   omega
def toV:Value→V
 | .none=>.non
 | .bool b=>.bl b
 | .int i _=>.int i
 | .str x _=>.str x
 | .bytes b _=>.byt b
 | .ref a=>.ref a
 | _=>.non
def OkU(A:List Addr):Value→Prop
 | .none=>True
 | .bool _=>True
 | .int _ _=>True
 | .str _ _=>True
 | .bytes _ _=>True
 | .ref a=>a∈A
 | _=>False
theorem OkU.mono{A B:List Addr}(h:∀ a∈A,a∈B):∀ {u:Value},OkU A u→OkU B u:=fun {u} x=>by
 cases u with
 | ref a=>exact h a x
 | none=>trivial
 | bool b=>trivial
 | int i t=>trivial
 | str s t=>trivial
 | bytes b t=>trivial
 | _=>exact False.elim x
theorem uQ{A:List Addr}{u:Value}(x:OkU A u):RelV (toV u) u:=by
 cases u with
 | ref a=>rfl
 | none=>rfl
 | bool b=>rfl
 | int i t=>exact⟨t,rfl⟩
 | str s t=>exact⟨t,rfl⟩
 | bytes b t=>exact⟨t,rfl⟩
 | _=>exact False.elim x
theorem dz{A:List Addr}:∀ {vs:List Value},(∀ u∈vs,OkU A u)→Vals (vs.map toV) vs
 | [],_=>.nil
 | u::r,h=>.cons (uQ (h u (mem_cons_self ..))) (dz fun x hx=>h x (mem_cons_of_mem _ hx))
def ef(h:Heap)(A:List Addr)(a:Addr):Prop:=∃ vs:List Value,vs.length≤sizeLine∧(∀ u∈vs,OkU A u)∧
 (h.get? a=some { cls:=.type "list",data:=.seq vs.toArray }∨h.get? a=some { cls:=.type "tuple",data:=.seq vs.toArray })
theorem ef.mono{h:Heap}{A B:List Addr}{a:Addr}(k:∀ a∈A,a∈B)(x:ef h A a):ef h B a:=by
 obtain⟨vs,h1,h2,h3⟩:=x
 exact⟨vs,h1,fun u hu=>(h2 u hu).mono k,h3⟩
theorem dc{P:Params}{h:Heap}:∀ {vs:List Value} {ds:List WData},WellAll P h vs ds→vs.length=ds.length
 | _,_,.nil=>rfl
 | _,_,.cons _ b=>by
  show _+1=_+1
  rw[dc b]
theorem kT{P:Params}{h:Heap}{v:Value}{ds:List WData}(x:Well P h v (.list ds)):∃ (a:Addr) (vs:List Value),v=.ref a∧h.get? a=some { cls:=.type "list",data:=.seq vs.toArray }∧WellAll P h vs ds:=by
 cases x with
 | list ho hall=>exact⟨_,_,rfl,ho,hall⟩
theorem jf{P:Params}{h:Heap}{v:Value}{ds:List WData}(x:Well P h v (.tuple ds)):∃ (a:Addr) (vs:List Value),v=.ref a∧h.get? a=some { cls:=.type "tuple",data:=.seq vs.toArray }∧WellAll P h vs ds:=by
 cases x with
 | tuple ho hall=>exact⟨_,_,rfl,ho,hall⟩
theorem kU{P:Params}{h:Heap}{us:List Value}{d:WData}{ds:List WData}(x:WellAll P h us (d::ds)):∃ (v:Value) (vs:List Value),us=v::vs∧Well P h v d∧WellAll P h vs ds:=by
 cases x with
 | cons a b=>exact⟨_,_,rfl,a,b⟩
theorem rP{n:Nat}(h:n≤1048576):n≤sizeLine:=Nat.le_trans h (by decide)
section
variable{P:Params}{h:Heap}
mutual
theorem wv:∀ (d:WData) (v:Value),Well P h v d→plW d=true→d.weight≤1048576→∃ A:List Addr,OkU A v∧∀ a∈A,ef h A a
 | .none,_,x,_,_=>by
  cases x
  exact⟨[],trivial,fun a m=>absurd m (by simp)⟩
 | .bool b,_,x,_,_=>by
  cases x
  exact⟨[],trivial,fun a m=>absurd m (by simp)⟩
 | .int i,_,x,_,_=>by
  cases x
  exact⟨[],trivial,fun a m=>absurd m (by simp)⟩
 | .str s,_,x,_,_=>by
  cases x
  exact⟨[],trivial,fun a m=>absurd m (by simp)⟩
 | .bytes b,_,x,_,_=>by
  cases x
  exact⟨[],trivial,fun a m=>absurd m (by simp)⟩
 | .list ds,_,x,p,z=>by
  obtain⟨a,vs,rfl,ho,hall⟩:=kT x
  have z2:WData.weightAll ds≤1048576:=z
  obtain⟨A,h1,h2⟩:=gB ds _ hall p fun d hd=>Nat.le_trans (fL hd) z2
  have k:∀ b∈A,b∈a::A:=fun b hb=>mem_cons_of_mem _ hb
  refine⟨a::A,mem_cons_self ..,fun b hb=>?_⟩
  rcases mem_cons.mp hb with e | m
  ·rw[e]
   exact⟨vs,rP (by rw[dc hall];exact Nat.le_trans (PySem.W.length_le_weightAllW ds) z2),fun u hu=>(h1 u hu).mono k,.inl ho⟩
  ·exact(h2 b m).mono k
 | .tuple ds,_,x,p,z=>by
  obtain⟨a,vs,rfl,ho,hall⟩:=jf x
  have z2:WData.weightAll ds≤1048576:=z
  obtain⟨A,h1,h2⟩:=gB ds _ hall p fun d hd=>Nat.le_trans (fL hd) z2
  have k:∀ b∈A,b∈a::A:=fun b hb=>mem_cons_of_mem _ hb
  refine⟨a::A,mem_cons_self ..,fun b hb=>?_⟩
  rcases mem_cons.mp hb with e | m
  ·rw[e]
   exact⟨vs,rP (by rw[dc hall];exact Nat.le_trans (PySem.W.length_le_weightAllW ds) z2),fun u hu=>(h1 u hu).mono k,.inr ho⟩
  ·exact(h2 b m).mono k
 | .float _,_,_,p,_=>Bool.noConfusion (show false=true from p)
 | .dict _,_,_,p,_=>Bool.noConfusion (show false=true from p)
 | .bytearray _,_,_,p,_=>Bool.noConfusion (show false=true from p)
 | .set _,_,_,p,_=>Bool.noConfusion (show false=true from p)
 | .frozenset _,_,_,p,_=>Bool.noConfusion (show false=true from p)
 | .obj _ _,_,_,p,_=>Bool.noConfusion (show false=true from p)
theorem gB:∀ (ds:List WData) (vs:List Value),WellAll P h vs ds→plWs ds=true→(∀ d∈ds,d.weight≤1048576)→∃ A:List Addr,(∀ u∈vs,OkU A u)∧∀ a∈A,ef h A a
 | [],_,x,_,_=>by
  cases x
  exact⟨[],fun u m=>absurd m (by simp),fun a m=>absurd m (by simp)⟩
 | d::ds,_,x,p,z=>by
  obtain⟨v,vs,rfl,x1,x2⟩:=kU x
  have q:plW d=true∧plWs ds=true:=Bool.and_eq_true_iff.mp p
  obtain⟨A,a1,a2⟩:=wv d v x1 q.1 (z d (mem_cons_self ..))
  obtain⟨B,b1,b2⟩:=gB ds vs x2 q.2 fun e he=>z e (mem_cons_of_mem _ he)
  have kA:∀ b∈A,b∈A++B:=fun b hb=>mem_append.mpr (.inl hb)
  have kB:∀ b∈B,b∈A++B:=fun b hb=>mem_append.mpr (.inr hb)
  refine⟨A++B,fun u hu=>?_,fun b hb=>?_⟩
  ·rcases mem_cons.mp hu with e | m
   ·rw[e]
    exact a1.mono kA
   ·exact(b1 u m).mono kB
  ·rcases mem_append.mp hb with m | m
   ·exact(a2 b m).mono kA
   ·exact(b2 b m).mono kB
end
end
def hoOf(o:Obj):Option HO:=match o.data with
 | .seq vs _=>if(o.cls == Value.type "list")=true then some (.frz o (.lst (vs.toList.map toV))) else some (.frz o (.tup (vs.toList.map toV)))
 | _=>none
def argH(K:Frag)(h:Heap)(A:List Addr):Hp:=fun b=>if b∈A then(if(K.lookup b).isNone=true then(h.get? b).bind hoOf else none) else none
def pE(H:Hp):Prop:=∀ b,H b=none∨∃ o u,H b=some (.frz o u)
theorem o2(vs:List Value):hoOf { cls:=.type "list",data:=.seq vs.toArray }=some (.frz { cls:=.type "list",data:=.seq vs.toArray } (.lst (vs.map toV))):=by
 show(if(Value.type "list" == Value.type "list")=true then some (HO.frz { cls:=.type "list",data:=.seq vs.toArray } (.lst (vs.toArray.toList.map toV))) else some (HO.frz { cls:=.type "list",data:=.seq vs.toArray } (.tup (vs.toArray.toList.map toV))))=_
 rw[if_pos (beq_self_eq_true _)]
theorem o0(vs:List Value):hoOf { cls:=.type "tuple",data:=.seq vs.toArray }=some (.frz { cls:=.type "tuple",data:=.seq vs.toArray } (.tup (vs.map toV))):=by
 show(if(Value.type "tuple" == Value.type "list")=true then some (HO.frz { cls:=.type "tuple",data:=.seq vs.toArray } (.lst (vs.toArray.toList.map toV))) else some (HO.frz { cls:=.type "tuple",data:=.seq vs.toArray } (.tup (vs.toArray.toList.map toV))))=_
 rw[if_neg (by decide)]
section
variable{P:Program}{w:World}{K:Frag}{h:Heap}{A:List Addr}
theorem je{b:Addr}{o:Obj}(hb:b∈A)(hk:K.lookup b=none)(e:h.get? b=some o):argH K h A b=hoOf o:=by
 unfold argH
 rw[if_pos hb,hk,if_pos (show(none:Option Obj).isNone=true from rfl),e]<;>rfl
theorem xh{b:Addr}{u:HO}(q:argH K h A b=some u):b∈A∧K.lookup b=none:=by
 unfold argH at q
 by_cases hb:b∈A
 ·rw[if_pos hb] at q
  cases hk:K.lookup b with
  | none=>exact⟨hb,rfl⟩
  | some o=>
   rw[hk,if_neg (by simp)] at q
   cases q
 ·rw[if_neg hb] at q
  cases q
theorem jd(ar:∀ a∈A,ef h A a){b:Addr}{u:HO}(q:argH K h A b=some u):K.lookup b=none∧∃ vs:List Value,vs.length≤sizeLine∧(∀ u∈vs,OkU A u)∧
  ((h.get? b=some { cls:=.type "list",data:=.seq vs.toArray }∧u=.frz { cls:=.type "list",data:=.seq vs.toArray } (.lst (vs.map toV)))∨
    (h.get? b=some { cls:=.type "tuple",data:=.seq vs.toArray }∧u=.frz { cls:=.type "tuple",data:=.seq vs.toArray } (.tup (vs.map toV)))):=by
 obtain⟨hb,hk⟩:=xh q
 obtain⟨vs,h1,h2,h3⟩:=ar b hb
 refine⟨hk,vs,h1,h2,?_⟩
 rcases h3 with e | e
 ·rw[je hb hk e,o2] at q
  exact .inl ⟨e,(Option.some.inj q).symm⟩
 ·rw[je hb hk e,o0] at q
  exact .inr ⟨e,(Option.some.inj q).symm⟩
theorem ud(ar:∀ a∈A,ef h A a):pE (argH K h A):=fun b=>by
 cases q:argH K h A b with
 | none=>exact .inl rfl
 | some u=>
  obtain⟨_,vs,_,_,⟨_,e⟩ | ⟨_,e⟩⟩:=jd ar q
  ·exact .inr ⟨_,_,by rw[e]⟩
  ·exact .inr ⟨_,_,by rw[e]⟩
theorem xF(ar:∀ a∈A,ef h A a):HOk P w (argH K h A) h:=fun b u q=>by
 obtain⟨_,vs,h1,h2,⟨e,rfl⟩ | ⟨e,rfl⟩⟩:=jd ar q
 ·exact⟨e,by rw[length_map];exact h1,vs,_,dz h2,e⟩
 ·exact⟨e,by rw[length_map];exact h1,vs,dz h2,_,e,rfl,_,rfl⟩
theorem i9{c c':Value}{vs us:List Value}(e:(some { cls:=c,data:=.seq vs.toArray }:Option Obj)=some { cls:=c',data:=.seq us.toArray }):c=c'∧vs=us:=by
 have e1:=Option.some.inj e
 have e2:c=c':=congrArg Obj.cls e1
 have e3:Data.seq vs.toArray=Data.seq us.toArray:=congrArg Obj.data e1
 injection e3 with e4
 refine⟨e2,?_⟩
 have e5:=congrArg Array.toList e4
 simpa using e5
theorem argL(KX:K.In h)(ar:∀ a∈A,ef h A a){a:Addr}{vs:List Value}(ha:a∈A)(e:h.get? a=some { cls:=.type "list",data:=.seq vs.toArray }):(∀ u∈vs,OkU A u)∧SqL K (argH K h A) a (vs.map toV):=by
 obtain⟨us,h1,h2,h3⟩:=ar a ha
 have hu:us=vs:=by
  rcases h3 with q | q
  ·rw[e] at q
   exact(i9 q).2.symm
  ·rw[e] at q
   exact absurd (Value.type.inj (i9 q).1) (by decide)
 subst hu
 refine⟨h2,?_⟩
 cases hk:K.lookup a with
 | none=>exact .inl (.inr ⟨_,by rw[je ha hk e,o2]⟩)
 | some o=>
  have e2:=KX a o hk
  rw[e] at e2
  obtain rfl:=Option.some.inj e2
  exact .inr ⟨_,us.toArray,_,hk,rfl,rfl,rfl,by rw[size_toArray];exact h1,by simpa using dz h2⟩
theorem argT(KX:K.In h)(ar:∀ a∈A,ef h A a){a:Addr}{vs:List Value}(ha:a∈A)(e:h.get? a=some { cls:=.type "tuple",data:=.seq vs.toArray }):(∀ u∈vs,OkU A u)∧SqT K (argH K h A) a (vs.map toV):=by
 obtain⟨us,h1,h2,h3⟩:=ar a ha
 have hu:us=vs:=by
  rcases h3 with q | q
  ·rw[e] at q
   exact absurd (Value.type.inj (i9 q).1) (by decide)
  ·rw[e] at q
   exact(i9 q).2.symm
 subst hu
 refine⟨h2,?_⟩
 cases hk:K.lookup a with
 | none=>exact .inl (.inr ⟨_,by rw[je ha hk e,o0]⟩)
 | some o=>
  have e2:=KX a o hk
  rw[e] at e2
  obtain rfl:=Option.some.inj e2
  exact .inr ⟨_,us.toArray,_,hk,rfl,rfl,by rw[size_toArray];exact h1,by simpa using dz h2⟩
mutual
theorem dw_one{Pm:Params}(KX:K.In h)(ar:∀ a∈A,ef h A a):∀ (d:WData) (v:Value),Well Pm h v d→plW d=true→OkU A v→Dw K (argH K h A) (toV v) d
 | .none,_,x,_,_=>by
  cases x
  exact .non
 | .bool b,_,x,_,_=>by
  cases x
  exact .bl b
 | .int i,_,x,_,_=>by
  cases x
  exact .int i
 | .str s,_,x,_,_=>by
  cases x
  exact .str s
 | .bytes b,_,x,_,_=>by
  cases x
  have z:=Dw.byt (K:=K) (H:=argH K h A) b.toArray
  exact z
 | .list ds,_,x,p,hu=>by
  obtain⟨a,vs,rfl,ho,hall⟩:=kT x
  obtain⟨h2,hs⟩:=argL KX ar hu ho
  exact .lst hs (ng KX ar ds _ hall p h2)
 | .tuple ds,_,x,p,hu=>by
  obtain⟨a,vs,rfl,ho,hall⟩:=jf x
  obtain⟨h2,hs⟩:=argT KX ar hu ho
  exact .tup hs (ng KX ar ds _ hall p h2)
 | .float _,_,_,p,_=>Bool.noConfusion (show false=true from p)
 | .dict _,_,_,p,_=>Bool.noConfusion (show false=true from p)
 | .bytearray _,_,_,p,_=>Bool.noConfusion (show false=true from p)
 | .set _,_,_,p,_=>Bool.noConfusion (show false=true from p)
 | .frozenset _,_,_,p,_=>Bool.noConfusion (show false=true from p)
 | .obj _ _,_,_,p,_=>Bool.noConfusion (show false=true from p)
theorem ng{Pm:Params}(KX:K.In h)(ar:∀ a∈A,ef h A a):∀ (ds:List WData) (vs:List Value),WellAll Pm h vs ds→plWs ds=true→(∀ u∈vs,OkU A u)→ed K (argH K h A) (vs.map toV) ds
 | [],_,x,_,_=>by
  cases x
  exact .nil
 | d::ds,_,x,p,hu=>by
  obtain⟨v,vs,rfl,x1,x2⟩:=kU x
  have q:plW d=true∧plWs ds=true:=Bool.and_eq_true_iff.mp p
  exact .cons (dw_one KX ar d v x1 q.1 (hu _ (mem_cons_self ..))) (ng KX ar ds vs x2 q.2 fun u m=>hu u (mem_cons_of_mem _ m))
end
end
theorem sR{P:Program}{w:World}{K:Frag}{mg mb:Str→Option Value}{CX:CXT}{k:Nat}{fa:Addr}{fd:FuncData}{ps:List Str}{sp:Sp}{s₁:Shared}{vals:List Value}{ds:List WData}{R:PySem.W.WRecords}{cl:Str→Option Addr}{d0:WData}
  (KX:K.In s₁.heap) (hns:s₁.heap.Ns mainGlobals mg) (hb:s₁.heap.Ns builtinsNs mb) (hbb:∀ x:Str,x≠"__name__"→mb x=bootBuiltins x) (hlim:s₁.heap.NoLimit) (hg:s₁.gens=#[])
  (hwl:WellAll w.params s₁.heap vals ds) (hpl:plWs ds=true) (hwt:∀ d∈ds,d.weight≤1048576) (hr:Room k callerA)
  (F:∀ base:Heap,K.In base→base.Ns mainGlobals mg→FnOk P w K mg base CX k fa fd ps sp) (hbind:∀ (s:Shared) (us:List Value),us.length=ps.length→BindsTo s fd ⟨us,[]⟩ (ps.zip us)) (hlen:ds.length=ps.length)
  (hsp:∀ (H:Hp) (xs:List V),pE H→ed K H xs ds→sp xs H (fun v H'=>Dw K H' v d0) fun _ _ _=>False)
  (hCX:∀ H e s',CX [] H s₁ (fun _ _ _=>False) e s'→False) :
  codeAny (model P w) callerA (.call (.ref fa) ⟨vals,[]⟩) (fun r s'=>∃ u as,r=.ok (.ret u)∧ReadsW R cl s'.heap u d0 as∧OldK s₁.heap s'.heap∧s'.os=s₁.os∧AllBare s'.gens) s₁:=by
 obtain⟨A,ho,ar⟩:=gB ds vals hwl hpl hwt
 have hO:pE (argH K s₁.heap A):=ud ar
 have hok:HOk P w (argH K s₁.heap A) s₁.heap:=xF ar
 have hS:=ng KX ar ds vals hwl hpl ho
 have hV:=dz ho
 have hK:∀ b u,argH K s₁.heap A b=some u→K.lookup b=none:=fun b u q=>(jd ar q).1
 have noA:∀ {b:Addr} {o:Obj} {es:Array DictEntry} {ep:Nat},s₁.heap.get? b=some o→o.data=.dict es ep→argH K s₁.heap A b=none:=fun {b o es ep} e d=>by
  cases q:argH K s₁.heap A b with
  | none=>rfl
  | some u=>
   obtain⟨_,vs,_,_,⟨e2,_⟩ | ⟨e2,_⟩⟩:=jd ar q
   ·rw[e2] at e
    cases e
    have d':Data.seq vs.toArray _=Data.dict es ep:=d
    cases d'
   ·rw[e2] at e
    cases e
    have d':Data.seq vs.toArray _=Data.dict es ep:=d
    cases d'
 generalize argH K s₁.heap A=H at hO hok hS hK noA
 have base_of:∀ {b:Addr} {o:Obj},s₁.heap.get? b=some o→H b=none→(hidT s₁.heap H).get? b=some o:=fun e n=>vT e n
 have nsK:∀ {b:Addr} {m:Str→Option Value},s₁.heap.Ns b m→(hidT s₁.heap H).Ns b m:=fun {b m} ⟨o,es,ep,e,d,r⟩=>⟨o,es,ep,base_of e (noA e d),d,r⟩
 have nK:∀ b o,K.lookup b=some o→H b=none:=fun b o e=>by
  cases q:H b with
  | none=>rfl
  | some u=>
   rw[hK b u q] at e
   cases e
 have hKb:K.In (hidT s₁.heap H):=fun b o e=>base_of (KX b o e) (nK b o e)
 have hM:Mod K mg (hidT s₁.heap H):=⟨hKb,nsK hns,⟨mb,nsK hb,hbb⟩,let ⟨mc,h1,h2⟩:=hlim;⟨mc,nsK h1,h2⟩⟩
 have e0:Env0 P w K mg (hidT s₁.heap H) callerA [] s₁ H:=⟨rfl,hM,fun b o e=>xg e,Nat.le_of_eq (tX _ _),trivial,fun b hb=>absurd (show b∈([]:List Addr) from hb) (by simp),hok,.of_eq hg⟩
 have hl:vals.length=ps.length:=by rw[dc hwl];exact hlen
 refine codeAny_mono ((F _ hKb (nsK hns)).run callerA [] s₁ H ⟨vals,[]⟩ vals (vals.map toV) _ _ hr e0 (hbind s₁ vals hl) hV (hsp H _ hO hS)) fun r s' x=>?_
 cases r with
 | error e=>exact(hCX H e s' x).elim
 | ok fl=>
  cases fl with
  | next=>exact False.elim x
  | brk=>exact False.elim x
  | cont=>exact False.elim x
  | ret u=>
   obtain⟨v,H',os,bare,un,hok',r',q⟩:=x
   have kept:∀ b o,s₁.heap.get? b=some o→s'.heap.get? b=some o:=fun b o e=>by
    cases q2:H b with
    | none=>exact un.keep b o e q2 (by intro z;exact absurd (show b∈([]:List Addr) from z) (by simp)) (by simp)
    | some u2=>
     rcases hO b with z | ⟨ob,u3,z⟩
     ·rw[q2] at z
      cases z
     ·have z2:=un.frzs b ob _ z
      obtain⟨e1,_⟩:=hok b _ z
      obtain⟨e2,_⟩:=hok' b _ z2
      rw[e] at e1
      cases e1
      exact e2
   have KX':K.In s'.heap:=fun b o e=>kept b o (KX b o e)
   obtain⟨as,hrd⟩:=Dw.reads (R:=R) (cl:=cl) hok' KX' d0 v u q r'
   exact⟨u,as,rfl,hrd,OldK.of_keep kept,os,bare⟩
theorem j8{ds:List WData}(h:WData.layableAll ds=true):∀ d∈ds,d.weight≤1048576:=fun d hd=>
 (PySem.W.layableW_iff.mp (List.all_eq_true.mp h d hd)).2.2
theorem kD:∀ (cs:List Codec) (a:Codec.denoteAll cs),(Codec.encAll cs a).length=cs.length
 | [],_=>rfl
 | c::cs,a=>by
  show(Codec.encAll cs a.2).length+1=cs.length+1
  rw[kD cs a.2]
theorem sG{r:OpenSpec}{k:Nat}{q:Program}{loose:List Str}{XP:(Str→Option Value)→Heap→Prop}{YP:World→Heap→Prop}{d:DefRec}{K:Params→Frag}{CX:World→CXT}{ps:List Str}{sp:World→Sp}
  (hwell:r.wellSaid=true) (hdf:d.params.defaults=[]) (hlen:r.args.length=ps.length) (hr:Room k callerA)
  (hY:∀ (w:World) (h:Heap),YP w h→(K w.params).In h)
  (F:∀ (w:World) (mg:Str→Option Value) (fa:Addr) (h:Heap),YP w h→(K w.params).In h→h.Ns mainGlobals mg→mg d.name=some (.ref fa)→
   ∃ fd:FuncData,(∀ (s:Shared) (us:List Value),us.length=ps.length→BindsTo s fd ⟨us,[]⟩ (ps.zip us))∧
    ∀ base:Heap,(K w.params).In base→base.Ns mainGlobals mg→FnOk r.prog w (K w.params) mg base (CX w) k fa fd ps (sp w))
  (hsp:∀ (w:World) (H:Hp) (xs:List V) (a:Codec.denoteAll r.args),pE H→Codec.withinAll r.args a=true→Codec.app r.args r.asked a=true→ed (K w.params) H xs (Codec.encAll r.args a)→
   sp w xs H (fun v H'=>Dw (K w.params) H' v (r.ret.enc (Codec.app r.args r.f a))) fun _ _ _=>False)
  (hCX:∀ (w:World) (H:Hp) (s:Shared) (e:Value) (s':Shared),CX w [] H s (fun _ _ _=>False) e s'→False) :
  PySem.W.WalkOS q loose XP YP r d [] (fun f vs=>PySem.call f vs):=by
 intro w s_0 s₁ mg mb G Y fa o pm cd doc dV kV ho hd hcd hD hmg hg args vals as hpre hlay hrd hwl hlo
 obtain⟨a,e1,e2⟩:=PySem.W.os_pre_some hpre
 obtain⟨e3,hwi⟩:=Codec.encAll_of_decAll r.args args a e1
 subst e3
 have KX:=hY w _ Y
 obtain⟨fd,hb,hF⟩:=F w mg fa _ Y KX G.T.g hmg
 refine PySem.W.enter_call (codeAny_mono (sR (R:=[]) (cl:=classAt s_0.heap) (d0:=r.ret.enc (Codec.app r.args r.f a)) KX G.T.g G.T.b G.T.builtins G.T.nolimit hg hwl (lJ _ _) (j8 hlay) hr hF hb (by rw[kD];exact hlen)
  (fun H xs hO hS=>hsp w H xs a hO hwi e2 hS) fun H e s'=>hCX w H s₁ e s') fun r' s' hq=>?_)
 obtain⟨u,as',rfl,h1,h2,h3,h4⟩:=hq
 exact⟨.inl ⟨u,_,as',rfl,fun _=>rfl,h1,(OpenSpec.post_iff hwell hwi _ _).mpr rfl,fun z=>Bool.noConfusion (show false=true from z)⟩,h2,h3,h4⟩
theorem pH{r:OpenSpec}{k:Nat}{q:Program}{loose:List Str}{XP:(Str→Option Value)→Heap→Prop}{YP:World→Heap→Prop}{d:DefRec}{K:Params→Frag}{CX:CXT}{ps:List Str}{sp:Frag→Sp}
  (hwell:r.wellSaid=true) (hdf:d.params.defaults=[]) (hlen:r.args.length=ps.length) (hr:Room k callerA)
  (hY:∀ (w:World) (h:Heap),YP w h→(K w.params).In h)
  (F:∀ (w:World) (mg:Str→Option Value) (fa:Addr) (h:Heap),YP w h→(K w.params).In h→h.Ns mainGlobals mg→mg d.name=some (.ref fa)→
   ∃ fd:FuncData,(∀ (s:Shared) (us:List Value),us.length=ps.length→BindsTo s fd ⟨us,[]⟩ (ps.zip us))∧
    ∀ base:Heap,(K w.params).In base→base.Ns mainGlobals mg→FnOk r.prog w (K w.params) mg base CX k fa fd ps (sp (K w.params)))
  (hsp:∀ (K:Frag) (H:Hp) (xs:List V) (a:Codec.denoteAll r.args),pE H→Codec.withinAll r.args a=true→Codec.app r.args r.asked a=true→ed K H xs (Codec.encAll r.args a)→
   sp K xs H (fun v H'=>Dw K H' v (r.ret.enc (Codec.app r.args r.f a))) fun _ _ _=>False)
  (hCX:∀ (H:Hp) (s:Shared) (e:Value) (s':Shared),CX [] H s (fun _ _ _=>False) e s'→False) :
  PySem.W.WalkOS q loose XP YP r d [] (fun f vs=>PySem.call f vs):=
 sG (K:=K) (CX:=fun _=>CX) (sp:=fun w=>sp (K w.params)) hwell hdf hlen hr hY F (fun w H xs a h1 h2 h3 h4=>hsp (K w.params) H xs a h1 h2 h3 h4) fun _ H s e s'=>hCX H s e s'
def FlyN(H:Hp)(g:Heap)(a:Addr)(C:Value)(h:Heap):Prop:=
 ∃ (oe:Obj) (vs:Array Value),h.get? a=some oe∧oe.cls=C∧oe.data=.fields vs∧g.get? a=none∧H a=none∧vs[1]?=some .none
def FlyT(H:Hp)(g:Heap)(a:Addr)(C:Value)(h:Heap):Prop:=
 ∃ (oe:Obj) (vs:Array Value) (T:Addr) (oT:Obj) (ts:Array Value),h.get? a=some oe∧oe.cls=C∧oe.data=.fields vs∧g.get? a=none∧H a=none∧vs[1]?=some (.ref T)∧
  T≠a∧g.get? T=none∧H T=none∧h.get? T=some oT∧oT.data=.fields ts∧3 < ts.size
def Fly(H:Hp)(g:Heap)(a:Addr)(C:Value)(h:Heap):Prop:=FlyN H g a C h∨FlyT H g a C h
theorem FlyT.mono{H:Hp}{g g':Heap}{a:Addr}{C:Value}{h:Heap}(f:FlyT H g a C h)(l:∀ b,g.get? b=none→g'.get? b=none):FlyT H g' a C h:=
 let ⟨oe,vs,T,oT,ts,h1,h2,h3,h4,h5,h6,h7,h8,h9⟩:=f
 ⟨oe,vs,T,oT,ts,h1,h2,h3,l _ h4,h5,h6,h7,l _ h8,h9⟩
structure Away(H:Hp)(g:Heap)(fs:List Addr)(h h':Heap):Prop where
 keep:∀ b o,b ∉ fs→(g.get? b≠none∨H b≠none)→h.get? b=some o→h'.get? b=some o
 slot:∀ b o,b∈fs→h.get? b=some o→∃ sl,h'.get? b=some { o with slots:=sl }
theorem Away.refl{H:Hp}{g:Heap}{fs:List Addr}{h:Heap}:Away H g fs h h:=⟨fun _ _ _ _ e=>e,fun _ o _ e=>⟨o.slots,e⟩⟩
theorem Away.trans{H:Hp}{g:Heap}{fs:List Addr}{h h1 h2:Heap}(x:Away H g fs h h1)(y:Away H g fs h1 h2):Away H g fs h h2:=
 ⟨fun b o n c e=>y.keep b o n c (x.keep b o n c e),fun b o m e=>by
  obtain⟨sl,e1⟩:=x.slot b o m e
  obtain⟨sl',e2⟩:=y.slot b _ m e1
  exact⟨sl',e2⟩⟩
section
variable{M:Model}{A:Around}{E:Value→Shared→Prop}{s:Shared}{base:Heap}{env e0:Env}{outer:List Env}{L a:Addr}{C:Value}{H:Hp}{g:Heap}{Q:Unit→Shared→Prop}
theorem oM{b:Addr}{o:Obj}{vs:Array Value}{l:List Env}(hl:s.heap.FunFrames base l)(e:s.heap.get? b=some o)(d:o.data=.fields vs):b ∉ frs l:=fun hm=>by
 obtain⟨_,o',e',n⟩:=hl.mem hm
 rw[e] at e'
 cases e'
 exact n vs d
theorem vZ{Q:Value→Shared→Prop}(hfr:A.frames=some (e0::outer))(hl:s.heap.FunFrames base (e0::outer))(h0:e0.frame=some L)(hf:env.frame=some L)
  (h:∀ h',Heap.SlotsOnly (frs (e0::outer)) s.heap h'→Q (.ref L) { s with heap:=h' }):wpAny M A (PySem.frameOf env) Q E s:=by
 unfold PySem.frameOf
 refine(wpAny_bind (wpAny_frameEnvs hfr ?_))
 have hd:((e0::outer).dropWhile fun x=>x.frame != env.frame)=e0::outer:=by simp[List.dropWhile,h0,hf]
 rw[hd]
 unfold frameObject
 refine wpAny_bind (wpAny_bind (wpAny_readyFrames_fun hl fun h1 hs1=>wpAny_pure ?_))
 rw[h0]
 exact wpAny_pure (h h1 hs1)
theorem ma{oe:Obj}{vs:Array Value}{head:Value}{hadNext:Bool}(hfr:A.frames=some (e0::outer))(hl:s.heap.FunFrames base (e0::outer))(h0:e0.frame=some L)(hf:env.frame=some L)
  (he:s.heap.get? a=some oe) (hc:oe.cls=C) (hd:oe.data=.fields vs) (hsz:1 < vs.size) (hlo:g.get? a=none) (hn:H a=none) (hfresh:∀ b,s.heap.objs.size≤b→H b=none) (hls:∀ b,s.heap.objs.size≤b→g.get? b=none)
  (h:∀ h',Away H g (frs (e0::outer)) s.heap h'→FlyT H g a C h'→Q () { s with heap:=h' }) :
  wpAny M A (do let f←PySem.frameOf env;let pl←entryPlaceOf L hadNext;let t←EntryCells.newEntry head f .none (rawInt L) .none pl;setField (.ref a) 1 t) Q E s:=by
 have na:a ∉ frs (e0::outer):=oM hl he hd
 refine wpAny_bind (vZ hfr hl h0 hf fun h1 hs1=>?_)
 refine wpAny_bind (wpAny_entryPlaceOf fun pl hpl=>?_)
 unfold EntryCells.newEntry newFields;skip
 refine(wpAny_bind (wpAny_newObj_type ?_ (hpl.sizeOk5 _ _ _ _ _)))
 generalize hrec:({ cls:=.type "traceback",dict:=none,data:=.fields ([head,.ref L,.none,rawInt L,.none]++(if pl.isEmpty then List.replicate 6 Value.none else pl)).toArray }:Obj)=rec
 have hrd:∃ ts,rec.data=.fields ts∧3 < ts.size:=by
  rw[←hrec]
  exact⟨_,rfl,by simp only[size_toArray,length_append,length_cons,List.length_nil]<;>omega⟩
 have hnf:rec.isFreed=false:=by
  obtain⟨ts,e,_⟩:=hrd
  exact Obj.isFreed_of_fields e
 have he1:h1.get? a=some oe:=(hs1.2.1 a na).trans he
 have he2:=Heap.get?_push_of_some (h:=h1) rec he1
 refine wpAny_setField he2 hd hsz ?_
 have hTa:h1.objs.size≠a:=Nat.ne_of_gt (Heap.lt_size he1)
 have hd3:=Obj.data_mapFields hd (·.setIfInBounds 1 (Value.ref h1.objs.size))
 have he3:=Heap.get?_update_self (Obj.mapFields (·.setIfInBounds 1 (Value.ref h1.objs.size))) he2 (Obj.isFreed_of_fields hd3)
 have other:∀ b o,b≠a→h1.get? b=some o→((h1.push rec).update a (Obj.mapFields (·.setIfInBounds 1 (Value.ref h1.objs.size)))).get? b=some o:=fun b o hb e=>by
  rw[Heap.get?_update_other _ _ (Ne.symm hb)]
  exact Heap.get?_push_of_some _ e
 have hT:((h1.push rec).update a (Obj.mapFields (·.setIfInBounds 1 (Value.ref h1.objs.size)))).get? h1.objs.size=some rec:=by
  rw[Heap.get?_update_other _ _ (Ne.symm hTa)]
  exact Heap.get?_push_size h1 hnf
 obtain⟨ts,hts,h3⟩:=hrd
 refine h _ ⟨fun b o nb c e=>other b o (fun z=>?_) ((hs1.2.1 b nb).trans e),fun b o mb e=>?_⟩
  ⟨_,_,h1.objs.size,rec,ts,he3,?_,hd3,hlo,hn,by simp[hsz],hTa,hls _ (by rw[hs1.1];exact Nat.le_refl _),hfresh _ (by rw[hs1.1];exact Nat.le_refl _),hT,hts,h3⟩
 ·subst z
  rcases c with c | c
  ·exact c hlo
  ·exact c hn
 ·obtain⟨sl,e1⟩:=hs1.2.2 b o e
  exact⟨sl,other b _ (fun z=>na (z ▸ mb)) e1⟩
 ·rw[Obj.cls_mapFields]
  exact hc
theorem mQ(hfr:A.frames=some (e0::outer))(hl:s.heap.FunFrames base (e0::outer))(h0:e0.frame=some L)(hf:env.frame=some L)(fl:Fly H g a C s.heap)
  (hfresh:∀ b,s.heap.objs.size≤b→H b=none) (hls:∀ b,s.heap.objs.size≤b→g.get? b=none) (h:∀ h',Away H g (frs (e0::outer)) s.heap h'→FlyT H g a C h'→Q () { s with heap:=h' }) :
  wpAny M A (noteFrame (.ref a) env) Q E s:=by
 unfold noteFrame
 simp only[hf]
 rcases fl with⟨oe,vs,he,hc,hd,hlo,hn,h1⟩ | ⟨oe,vs,T,oT,ts,he,hc,hd,hlo,hn,h1,hTa,hlT,hnT,hT,hdT,h3⟩
 ·refine wpAny_bind (wpAny_field he hd h1 ?_)
  rw[if_neg (by decide)]
  exact ma hfr hl h0 hf he hc hd (Array.getElem?_eq_some_iff.mp h1).1 hlo hn hfresh hls h
 ·refine wpAny_bind (wpAny_field he hd h1 ?_)
  rw[if_pos (show(Value.ref T != Value.none)=true from by simp)]
  refine wpAny_bind (wpAny_field hT hdT (x:=ts[3]) (Array.getElem?_eq_getElem h3) ?_)
  by_cases hq:(ts[3] == rawInt L)=true
  ·rw[if_pos hq]
   exact wpAny_pure (h _ Away.refl ⟨oe,vs,T,oT,ts,he,hc,hd,hlo,hn,h1,hTa,hlT,hnT,hT,hdT,h3⟩)
  ·rw[if_neg hq]
   refine wpAny_bind (wpAny_setField hT hdT h3 ?_)
   have nT:T ∉ frs (e0::outer):=oM hl hT hdT
   have other:∀ b,b≠T→(s.heap.update T (Obj.mapFields (·.setIfInBounds 3 Value.none))).get? b=s.heap.get? b:=fun b hb=>Heap.get?_update_other _ _ (Ne.symm hb)
   have aw:Away H g (frs (e0::outer)) s.heap (s.heap.update T (Obj.mapFields (·.setIfInBounds 3 Value.none))):=⟨fun b o _ c e=>(other b fun z=>by
     subst z
     rcases c with c | c
     ·exact c hlT
     ·exact c hnT).trans e,fun b o mb e=>⟨o.slots,(other b fun z=>nT (z ▸ mb)).trans e⟩⟩
   have hsz:(s.heap.update T (Obj.mapFields (·.setIfInBounds 3 Value.none))).objs.size=s.heap.objs.size:=Heap.size_after_update ..
   refine ma (s:={ s with heap:=s.heap.update T (Obj.mapFields (·.setIfInBounds 3 Value.none)) }) hfr (hl.of_keeps fun b o e nf=>⟨o,(other b fun z=>?_).trans e,rfl⟩) h0 hf ((other a (Ne.symm hTa)).trans he) hc hd (Array.getElem?_eq_some_iff.mp h1).1 hlo hn
    (fun b hb=>hfresh b (by rw[←hsz];exact hb)) (fun b hb=>hls b (by rw[←hsz];exact hb)) fun h' aw' fl'=>h h' (aw.trans aw') fl'
   subst z
   rw[hT] at e
   cases e
   exact nf ts hdT
theorem fu{x:Option Addr}(fl:FlyT H g a C s.heap)(fs:List Addr)(hfs:∀ b o vs,s.heap.get? b=some o→o.data=.fields vs→b ∉ fs)(h:∀ h',h'.objs.size=s.heap.objs.size→Away H g fs s.heap h'→FlyT H g a C h'→Q () { s with heap:=h' }) :
  wpAny M A (setFlight (.ref a) x) Q E s:=by
 obtain⟨oe,vs,T,oT,ts,he,hc,hd,hlo,hn,h1,hTa,hlT,hnT,hT,hdT,h3⟩:=fl
 unfold setFlight
 refine(wpAny_bind (wpAny_field he hd h1 ?_))
 rw[if_pos (show(Value.ref T != Value.none)=true from by simp)]
 refine wpAny_setField hT hdT h3 ?_
 have hd3:=Obj.data_mapFields hdT (·.setIfInBounds 3 (x.elim Value.none fun f=>rawInt f))
 have other:∀ b,b≠T→(s.heap.update T (Obj.mapFields (·.setIfInBounds 3 (x.elim Value.none fun f=>rawInt f)))).get? b=s.heap.get? b:=fun b hb=>Heap.get?_update_other _ _ (Ne.symm hb)
 refine h _ (Heap.size_after_update ..) ⟨fun b o _ c e=>(other b fun z=>?_).trans e,fun b o mb e=>⟨o.slots,(other b fun z=>hfs T oT ts hT hdT (z ▸ mb)).trans e⟩⟩
  ⟨oe,vs,T,_,_,(other a (Ne.symm hTa)).trans he,hc,hd,hlo,hn,h1,hTa,hlT,hnT,Heap.get?_update_self _ hT (Obj.isFreed_of_fields hd3),hd3,by simpa using h3⟩
 subst z
 rcases c with c | c
 ·exact c hlT
 ·exact c hnT
theorem vI(hfr:A.frames=some (e0::outer))(hl:s.heap.FunFrames base (e0::outer))(h0:e0.frame=some L)(hf:env.frame=some L)(fl:Fly H g a C s.heap)
  (hfresh:∀ b,s.heap.objs.size≤b→H b=none) (hls:∀ b,s.heap.objs.size≤b→g.get? b=none) (h:∀ h',Away H g (frs (e0::outer)) s.heap h'→FlyT H g a C h'→Q () { s with heap:=h' }) :
  wpAny M A (leaving env (.ref a)) Q E s:=by
 unfold leaving
 refine wpAny_bind (mQ hfr hl h0 hf fl hfresh hls fun h1 aw1 fl1=>?_)
 refine fu (s:={ s with heap:=h1 }) fl1 (frs (e0::outer)) (fun b o vs e d hb=>?_) fun h2 _ aw2 fl2=>h h2 (aw1.trans aw2) fl2
 obtain⟨_,o',e',nd⟩:=hl.mem hb
 obtain⟨sl,q⟩:=aw1.slot b o' hb e'
 rw[e] at q
 cases q
 exact nd vs d
end
def FX(P:Program)(w:World):CXT:=fun outer H s E e s'=>∃ (a:Addr) (C:Value) (H':Hp),e=.ref a∧s'.os=s.os∧AllBare s'.gens∧Un (frs outer) [] H H' s.heap s'.heap∧HOk P w H' s'.heap∧
 FlyT H' s.heap a C s'.heap∧E C none H'
theorem kl{P:Program}{w:World}{H:Hp}{h h':Heap}(x:HOk P w H h)(k:∀ b u,H b≠none→h.get? b=some u→h'.get? b=some u):HOk P w H h':=fun a o e=>
 (x a o e).stay (fun b u hb q=>k b u (by
  rcases hb with z | z
  ·rw[z,e];simp
  ·rw[z];simp) q) (fun _ q=>q) fun _ _ q=>q
section
variable{X:Cx}{pins:List (Addr × Obj)}{σ:St}{H:Hp}{s:Shared}{a:Addr}{C:Value}{EK:XK}
theorem Inv.gone(I:Inv X pins σ H s)(hex:X.ex=[]):∀ b,s.heap.get? b=none→X.s_0.heap.get? b=none:=fun b hb=>by
 cases q:X.s_0.heap.get? b with
 | none=>rfl
 | some o=>
  obtain⟨o',e⟩:=I.base.there b o q (by rw[hex];simp)
  rw[hb] at e
  cases e
theorem xC{h':Heap}(I:Inv X pins σ H s)(hX:X.stack=X.env::X.outer)(hf:X.env.frame=some X.env.locals)(hex:X.ex=[])(aw:Away H X.s_0.heap (frs X.stack) s.heap h'):Un X.fs [] X.H_0 H X.s_0.heap h':=by
 have nl:∀ b o,X.s_0.heap.get? b=some o→b≠X.env.locals:=fun b o e=>Nat.ne_of_lt (Nat.lt_of_lt_of_le (Heap.lt_size e) I.ok.above)
 have nx:∀ b,b ∉ X.ex:=fun b=>by rw[hex];simp
 have sub:∀ b,b∈X.fs→b∈frs X.stack:=fun b hb=>by
  rw[hX]
  unfold frs
  rw[List.filterMap_cons,hf]
  exact mem_cons_of_mem _ hb
 have nst:∀ b o,X.s_0.heap.get? b=some o→b ∉ X.fs→b ∉ frs X.stack:=fun b o e n hb=>(mem_cons.mp (I.stkSub b hb)).elim (nl b o e) n
 refine⟨fun b o e n hb _=>?_,fun b o e n hb _=>?_,fun b o e n _=>I.base.free b o e n (nx b),fun b o e _=>?_,I.base.tups,I.base.frzs,I.base.tbls⟩
 ·exact aw.keep b o (nst b o e hb) (.inl (by rw[e];simp)) (I.base.keep b o e n hb (nx b))
 ·obtain⟨sl,q⟩:=I.base.slot b o e n hb (nx b)
  obtain⟨sl',q'⟩:=aw.slot b _ (sub b hb) q
  exact⟨sl',q'⟩
 ·obtain⟨o',q⟩:=I.base.there b o e (nx b)
  by_cases hb:b∈frs X.stack
  ·obtain⟨sl',q'⟩:=aw.slot b _ hb q
   exact⟨_,q'⟩
  ·exact⟨o',aw.keep b o' hb (.inl (by rw[e];simp)) q⟩
theorem wq{h':Heap}{g:Heap}(I:Inv X pins σ H s)(aw:Away H g (frs X.stack) s.heap h'):HOk X.prog X.w H h':=
 kl I.hok fun b u n q=>aw.keep b u (fun hb=>n (I.stkFree b hb)) (.inr n) q
theorem tS{E':Value→Shared→Prop}(I:Inv X pins σ H s)(hX:X.stack=X.env::X.outer)(hf:X.env.frame=some X.env.locals)(hex:X.ex=[])(fl:Fly H X.s_0.heap a C s.heap)(hE:EK C none H) :
  wpAny (model X.prog X.w) X.A (leaving X.env (.ref a)) (fun _ s''=>FX X.prog X.w X.outer X.H_0 X.s_0 EK (.ref a) s'') E' s:=by
 refine vI (e0:=X.env) (outer:=X.outer) (L:=X.env.locals) (base:=X.base) (by rw[I.ok.frames,hX]) (by rw[←hX];exact I.stack) hf hf fl (fun b hb=>I.hok.fresh hb) (fun b hb=>Heap.get?_none_of_le (Nat.le_trans I.sz hb)) fun h' aw fl'=>?_
 rw[←hX] at aw
 exact⟨a,C,H,rfl,I.os,I.bare,xC I hX hf hex aw,wq I aw,fl',hE⟩
theorem FX.inv{e:Value}{s':Shared}(I:Inv X pins σ H s)(h:FX X.prog X.w X.stack H s EK e s'):∃ a C H',e=.ref a∧Inv X pins σ H' s'∧FlyT H' s.heap a C s'.heap∧EK C none H':=by
 obtain⟨a,C,H',rfl,os,bare,un,hok,fl,hE⟩:=h
 exact⟨a,C,H',rfl,I.call' (ch:=[]) os un hok bare (fun b z=>absurd z (by simp)),fl,hE⟩
end
structure XCx(X:Cx)(EK:XK):Prop where
 stk:X.stack=X.env::X.outer
 frm:X.env.frame=some X.env.locals
 ex0:X.ex=[]
 xe:∀ e s',wpAny (model X.prog X.w) X.A (leaving X.env e) (fun _ s''=>FX X.prog X.w X.outer X.H_0 X.s_0 EK e s'') (fun e' s''=>FX X.prog X.w X.outer X.H_0 X.s_0 EK e' s'') s'→X.xe e s'
theorem XCx.of{P:Program}{w:World}{K:Frag}{mg:Str→Option Value}{base:Heap}{N:List Str}{qual:Str}{scope:Scope}{f:Addr}{cd:Value}{A:Around}{outer:List Env}{s:Shared}{H:Hp}{E:XK} :
  XCx (cxOf (FX P w) P w K mg base N qual scope f cd A outer s H E) E:=⟨rfl,rfl,rfl,fun _ _ h=>h⟩
theorem XCx.go{X:Cx}{EK:XK}(x:XCx X EK){pins:List (Addr × Obj)}{σ:St}{H:Hp}{s:Shared}{a:Addr}{C:Value}(I:Inv X pins σ H s)(fl:Fly H X.s_0.heap a C s.heap)(hE:EK C none H):X.xe (.ref a) s:=
 x.xe _ _ (tS I x.stk x.frm x.ex0 fl hE)
theorem XCx.passes{X:Cx}{EK:XK}(x:XCx X EK):bQ (FX X.prog X.w) X EK:=fun pins σ H s e s' I h=>by
 obtain⟨a,C,H',rfl,I',fl,hE⟩:=FX.inv I h
 exact x.go I' (.inr (fl.mono (I.gone x.ex0))) hE
section
variable{P:Program}{w:World}{K:Frag}{mg:Str→Option Value}{base:Heap}
theorem okX{x qual:Str}{st:Stmt}{f:Addr}{fd:FuncData}{N ps:List Str}{k:Nat}{sp:Sp}(F:Fun K x qual st f fd)(S:al N ps (aj st))(len:∀ vs H Q E,sp vs H Q E→vs.length=ps.length)
  (hbody:∀ (cdv:Value) (A:Around) (outer:List Env) (s:Shared) (H:Hp) (vs:List V) (Q:VK) (E:XK),Room k (A.deeper (envOfC qual (aj st) s.heap.objs.size f cdv))→sp vs H Q E→
   ∃ t,PSs (cxOf (FX P w) P w K mg base N qual (aj st) f cdv A outer s H E) (bq st) t∧t { nx:=fun _ H'=>Q .non H',rt:=Q } (start N vs) H):FnOk P w K mg base (FX P w) (k+1) f fd ps sp:=by
 obtain⟨oc,od,kV,doc,pm,an,cdv,ct,osl,rfl,lk,hcd⟩:=F.ex
 exact fn_of lk hcd S len fun A outer s H vs Q E hr hsp=>hbody cdv A outer s H vs Q E hr hsp
theorem vj{CX:CXT}{N:List Str}{qual:Str}{scope:Scope}{f:Addr}{cd:Value}{A:Around}{outer:List Env}{s:Shared}{H:Hp}{E:XK} :
  PassesOwn (model P w) (cxOf CX P w K mg base N qual scope f cd A outer s H E).A (cxOf CX P w K mg base N qual scope f cd A outer s H E).env (cxOf CX P w K mg base N qual scope f cd A outer s H E).xe:=PassesOwn.leaving
end
structure XCls(K:Frag)(C:Addr):Prop where
 inK:PySem.W.excIn K C [.type "ValueError",.type "Exception",.type "BaseException",.type "object"] "ValueError.__new__"=true
theorem rY{K:Frag}{h:Heap}{C:Addr}{bmB:List Value}{newId:String}(X:K.In h)(q:PySem.W.excIn K C bmB newId=true) :
  ∃ bm N nm qn bs hdct sn sub ab col dd k0 k1 k2 k3 k5 mN,h.get? C=some (excClassObj nm qn C N bs bm hdct sn sub ab col dd k0 k1 k2 k3 k5 newId)∧h.Ns N mN∧mN "__init__"=none∧OwnTail h bmB bm:=by
 unfold PySem.W.excIn at q
 split at q
 ·rename_i dd cd sl ho
  split at q
  ·rename_i C1 bm k0 k1 k2 k3 n k5 hm hs
   simp only[Bool.and_eq_true,beq_iff_eq,Bool.not_eq_true'] at q
   obtain⟨⟨⟨⟨⟨e1,e2⟩,hdel⟩,ht⟩,hok⟩,hni⟩:=q
   subst e1 e2
   obtain⟨nm,bs,mro,ns,qn,hd,sn,sub,ab,col,del⟩:=cd
   dsimp only at hm hdel hok hni
   subst hm hdel
   obtain⟨l⟩:=sl
   have hl:l=[k0,k1,k2,k3,some (.builtin n),k5]:=hs
   subst hl
   refine⟨bm,ns,nm,qn,bs,hd,sn,sub,ab,col,dd,k0,k1,k2,k3,k5,h.nsMap ns,X _ _ ho,?_,?_,?_⟩
   ·exact .of_isNs (PySem.W.isNs_of_in X hok)
   ·exact PySem.W.nsMap_none_of_in X hok hni
   ·exact PySem.W.tail_of_in X ht
  ·cases q
 ·cases q
section
variable{X:Cx}{EK:XK}{x:Str}{C:Addr}{e:Expr}{es:List Expr}{t:TA}{np cpos pos:Pos}
def ul(EK:XK)(C:Addr)(t:TA):TS:=fun _ σ H=>t σ H fun vs H1=>vs.length≤sizeLine∧EK (.ref C) none H1
theorem eh(XE:XCx X EK)(xc:XCls X.K C)(hg:Gl X x)(hm:X.mg x=some (.ref C))(hc:X.calm=true)(ha:PA X (e::es) t)(hd:(x == ("__debug__":Str))=false:=by decide)
  (he:starEach (e::es) X.env=(false,eval e X.env)::starEach es X.env:=by rfl) (hpl:(backTo cpos (starEach es X.env)).any (·.1)=false:=by rfl) :
  PS X (.Raise (some (.Call (.Name x np) (e::es) [] cpos)) none pos) (ul EK C t):=by
 intro pins s σ H D I h
 obtain⟨tl,N,nm,q,bs,hdct,sn,sub,ab,col,dd,k0,k1,k2,k3,k5,mN,hC,hN,hni,T⟩:=rY I.mod.kin xc.inK
 refine wpAny_Raise_call_subT (C:=C) (nm:=nm) (q:=q) (N:=N) (bs:=bs) (bm:=tl) (hdct:=hdct) (sn:=sn) (sub:=sub) (ab:=ab) (col:=col) (dd:=dd) (k0:=k0) (k1:=k1) (k2:=k2) (k3:=k3) (k5:=k5) (mN:=mN)
  PySem.F.excBase_ValueError (T.hasType (by decide +kernel)) (I.ok.hd hc) ?_ hni (fk I hg hm ⟨rfl,?_⟩ hd)
 ·rw[he]
  show(false || (backTo cpos (starEach es X.env)).any (·.1))=false
  rw[hpl]
  rfl
 ·have pa:=ha cpos pins s σ H _ I h
  rw[he] at pa ⊢
  refine Calls.evalArgs_plain (thn pa fun us s2 z=>?_)
  obtain⟨vs,H2,I2,r,hz,hE⟩:=z
  refine⟨rfl,by rw[←r.length];exact hz,I2.bk _ _ hC,hN.keeps I2.bk,T.keeps I2.bk,fun h' a mk=>?_⟩
  obtain⟨t0,ha0,_,_⟩:=mk.there
  have I3:Inv X pins σ H2 { s2 with heap:=h' }:=I2.kept (t':=s2.toks) mk.keeps
  have hn:H2 a=none:=by
   cases z:H2 a with
   | none=>rfl
   | some o=>
    have l:=I2.hok.lt z
    obtain⟨ob,eo⟩:∃ ob,s2.heap.get? a=some ob:=by
     have k:=I2.hok a o z
     cases o with
     | lst xs=>obtain⟨_,_,_,_,e⟩:=k;exact⟨_,e⟩
     | tup xs=>obtain⟨_,_,_,o,e,_⟩:=k;exact⟨_,e⟩
     | dK kvs=>obtain⟨_,_,_,_,o,_,_,e,_⟩:=k;exact⟨_,e⟩
     | dT kvs=>obtain⟨_,_,_,_,o,_,_,e,_⟩:=k;exact⟨_,e⟩
     | set S n=>obtain⟨o,_,_,_,e,_⟩:=k;exact⟨_,e⟩
     | ins C dx fs=>obtain⟨_,_,_,e,_⟩:=k;exact⟨_,e⟩
     | own y=>exact k
     | xd fs=>obtain⟨_,⟨_,_,_,e,_⟩,_⟩:=k;exact⟨_,e⟩
     | rng lo hi=>obtain⟨_,_,_,e⟩:=k;exact⟨_,e⟩
     | frz ob u=>obtain⟨e,_⟩:=k;exact⟨_,e⟩
     | tbl ps=>exact⟨_,k⟩
     | met f y=>exact⟨_,k⟩
     | ext φ=>exact k.2.1
    rw[mk.new] at eo
    cases eo
  exact XE.go I3 (.inl ⟨_,_,ha0,rfl,rfl,I2.gone XE.ex0 _ mk.new,hn,rfl⟩) hE
end
theorem wF{fs:List Addr}{H H':Hp}{g h1 h2:Heap}(u:Un fs [] H H' g h1)(aw:Away H' g fs h1 h2):Un fs [] H H' g h2:=by
 have n0:∀ b:Addr,b ∉ ([]:List Addr):=fun b=>by simp
 refine⟨fun b o e n hb _=>aw.keep b o hb (.inl (by rw[e];simp)) (u.keep b o e n hb (n0 b)),fun b o e n hb _=>?_,u.free,fun b o e _=>?_,u.tups,u.frzs,u.tbls⟩
 ·obtain⟨sl,q⟩:=u.slot b o e n hb (n0 b)
  obtain⟨sl',q'⟩:=aw.slot b _ hb q
  exact⟨sl',q'⟩
 ·obtain⟨o',q⟩:=u.there b o e (n0 b)
  by_cases hb:b∈fs
  ·obtain⟨sl',q'⟩:=aw.slot b _ hb q
   exact⟨_,q'⟩
  ·exact⟨o',aw.keep b o' hb (.inl (by rw[e];simp)) q⟩
abbrev Cx.suite(X:Cx)(e:Value):Cx:={ X with A:=X.A.mark (some e),calm:=false,xe:=fun _ _=>False }
theorem Inv.suite{X:Cx}{pins:List (Addr × Obj)}{σ:St}{H:Hp}{s:Shared}(I:Inv X pins σ H s)(e:Value):Inv (X.suite e) pins σ H s:=by
 obtain⟨k1,k2,k3,k4,k5,k6,k7,k8,k9,k10,k11,k12,k13,k14,k15,k16,k17,k18⟩:=I.ok
 exact⟨⟨k1,k2,k3,k4,k5,k6,k7,k8,fun z=>(by cases z),k10,k11,k12,k13,k14,k15,k16,k17,k18⟩,I.os,I.bare,I.base,I.loc,I.cell,I.free,I.freeC,I.pin,I.hok,I.len⟩
theorem Inv.unsuite{X:Cx}{pins:List (Addr × Obj)}{σ:St}{H:Hp}{s:Shared}{e:Value}(ok:X.Ok)(I:Inv (X.suite e) pins σ H s):Inv X pins σ H s:=
 ⟨ok,I.os,I.bare,I.base,I.loc,I.cell,I.free,I.freeC,I.pin,I.hok,I.len⟩
section
variable{X:Cx}{x fx:Str}{C f:Addr}{e:Expr}{es:List Expr}{t:TA}{k:Nat}{fd:FuncData}{ps:List Str}{sp:Sp}{b0:Stmt}{suite:List Stmt}{ts:TS}{np cpos pos hpos rpos fp:Pos}
def wG(C:Addr)(sp:Sp)(t:TA)(ts:TS):TS:=fun D σ H=>t σ H fun vs H1=>sp vs H1 D.rt fun c _ H2=>c=.ref C∧ts D σ H2
theorem sX(hX:X.stack=X.env::X.outer)(hf:X.env.frame=some X.env.locals)(xc:XCls X.K C)(hgx:Gl X x)(hmx:X.mg x=some (.ref C))
  (F:FnOk X.prog X.w X.K X.mg X.base (FX X.prog X.w) k f fd ps sp) (hr:Room k X.A) (hg:Gl X fx) (hm:X.mg fx=some (.ref f)) (hk:PySem.W.keepIn X.K (.ref f)=true) (hb:cj X.K fd ps []) (ha:PA X.nox (e::es) t)
  (hs:∀ v,PSs (X.suite v) (b0::suite) ts) (hdx:(x == ("__debug__":Str))=false:=by decide) (hdf:(fx == ("__debug__":Str))=false:=by decide)
  (he:starEach (e::es) X.env=(false,eval e X.env)::starEach es X.env:=by rfl) (hpl:(backTo cpos (starEach es X.env)).any (·.1)=false:=by rfl) :
  PS X (.Try [.Return (some (.Call (.Name fx fp) (e::es) [] cpos)) rpos] [.ExceptHandler (some (.Name x np)) none (b0::suite) hpos] [] [] pos) (wG C sp t ts):=by
 intro pins s σ H D I h
 refine wpAny_Try_except (wpAny_execs_cons (wpAny_Return_some ?_))
 refine wpAny_Call_Name_kw (fk I hg hm ?_ hdf)
 refine PySem.W.callWith_K (h₀:=X.base) I.ok.mod.kin hk (thnF (ha cpos pins s σ H _ (I.wish _) h) fun us s1 z=>?_) he hpl
 obtain⟨vs,H1,I1w,r,q⟩:=z
 have I1:Inv X pins σ H1 s1:=I1w.unwish
 refine⟨I1.kIn,?_⟩
 have r2:Vals (vs++[]) (us++[]):=by rw[append_nil,append_nil];exact r
 have q2:sp (vs++[]) H1 D.rt (fun c _ H2=>c=.ref C∧ts D σ H2):=by rw[append_nil];exact q
 have hl:(us++([]:List Value)).length=ps.length:=by rw[←r2.length];exact F.len _ _ _ _ q2
 refine wpAny_call (codeAny_mono (F.run X.A X.stack s1 H1 ⟨us,[]⟩ (us++[]) (vs++[]) D.rt _ hr I1.env0 (hb s1 us I1.kIn hl) r2 q2) fun rr s2 hq=>?_)
 cases rr with
 | ok fl=>
  cases fl with
  | ret u=>
   obtain⟨v,H2,I2,r2,q2⟩:=I1.after hq
   exact⟨v,σ,H2,I2,r2,q2⟩
  | next=>exact False.elim hq
  | brk=>exact False.elim hq
  | cont=>exact False.elim hq
 | error ev=>
  obtain⟨a,C',H2,e1,os,bare,un,hok,fl,eC,hts⟩:=hq
  subst e1 eC
  have frz:∀ b∈frs X.stack,H2 b=none:=fun b hb=>by
   obtain⟨_,o,ho,_⟩:=I1.stack.mem hb
   exact un.free b o ho (I1.stkFree b hb) (by simp)
  have mk:∀ {h3:Heap} {tk:Nat},Away H2 s1.heap (frs X.stack) s2.heap h3→Inv X pins σ H2 { s2 with heap:=h3,toks:=tk }:=fun {h3 tk} aw=>
   I1.call' (s':={ s2 with heap:=h3,toks:=tk }) (ch:=[]) os (wF un aw) (kl hok fun b u n q=>aw.keep b u (fun hb=>n (frz b hb)) (.inr n) q) bare fun b z=>absurd z (by simp)
  have I2:Inv X pins σ H2 s2:=I1.call' (ch:=[]) os un hok bare fun b z=>absurd z (by simp)
  have nf:∀ {h3:Heap},Away H2 s1.heap (frs X.stack) s2.heap h3→∀ b o vs,h3.get? b=some o→o.data=.fields vs→b ∉ frs X.stack:=fun {h3} aw b o vs e d hb=>by
   obtain⟨_,o',e',nd⟩:=I2.stack.mem hb
   obtain⟨sl,q⟩:=aw.slot b o' hb e'
   rw[e] at q
   cases q
   exact nd vs d
  have gone:∀ b,s2.heap.objs.size≤b→s1.heap.get? b=none:=fun b hb=>by
   cases q:s1.heap.get? b with
   | none=>rfl
   | some o=>
    obtain⟨o',e'⟩:=un.there b o q (by simp)
    exact absurd (Heap.lt_size e') (Nat.not_lt.mpr hb)
  refine mQ (e0:=X.env) (outer:=X.outer) (L:=X.env.locals) (base:=X.base) (by rw[I2.ok.frames,hX]) (by rw[←hX];exact I2.stack) hf hf (.inr fl) (fun b hb=>I2.hok.fresh hb) gone fun h3 aw3 fl3=>?_
  rw[←hX] at aw3
  refine fu (s:={ s2 with heap:=h3 }) fl3 (frs X.stack) (nf aw3) fun h4 _ aw4 fl4=>?_
  have aw4':=aw3.trans aw4
  have I4:Inv X pins σ H2 { s2 with heap:=h4,toks:=s2.toks }:=mk aw4'
  obtain⟨tl,N,nm,qn,bs,hdct,sn,sub,ab,col,dd,k0,k1,k2,k3,k5,mN,hC,hN,hni,T⟩:=rY I.mod.kin xc.inK
  refine wpAny_handleBy_cons (codeAny_handlers_test ?_) (by intro z;cases z)
  refine fk (X:=X.suite (.ref a)) (I4.suite (.ref a)) hgx hmx ?_ hdx
  obtain⟨oe,vs',T0,oT,ts0,ha4,hc4,rest4⟩:=id fl4
  refine wpAny_excMatches_sub_self (I4.bk _ _ hC) ha4 hc4 (T.hasType (by decide +kernel)) (codeAny_handlers_suite ?_)
  refine fu (s:={ s2 with heap:=h4 }) fl4 (frs X.stack) (nf aw4') fun h5 _ aw5 fl5=>?_
  have I5:Inv X pins σ H2 { s2 with heap:=h5,toks:=s2.toks }:=mk (aw4'.trans aw5)
  refine thnF (hs (.ref a) pins { s2 with heap:=h5 } σ H2 D (I5.suite (.ref a)) hts) fun fl s6 z=>?_
  cases fl with
  | next=>obtain⟨σ',H',I',q⟩:=z;exact⟨σ',H',I'.unsuite I.ok,q⟩
  | brk=>obtain⟨σ',H',I',q⟩:=z;exact⟨σ',H',I'.unsuite I.ok,q⟩
  | cont=>obtain⟨σ',H',I',q⟩:=z;exact⟨σ',H',I'.unsuite I.ok,q⟩
  | ret u=>obtain⟨v,σ',H',I',rv,q⟩:=z;exact⟨v,σ',H',I'.unsuite I.ok,rv,q⟩
end
theorem wo{X:Cx}{EK:XK}{pins:List (Addr × Obj)}{σ:St}{H3:Hp}{s3:Shared}{scope:Scope}{ce:Env}{fp:List Addr}{use:Option (Value→Sem Unit)}{Qf:Value→Shared→Prop}{D:Addr}(I3:Inv X pins σ H3 s3)(XE:XCx X EK)
  (f3:∀ b∈fp,FpOk X pins H3 b∧b < s3.heap.objs.size) (cL:ce.locals=s3.heap.objs.size) (cfr:ce.frame=X.env.frame) :
  bQ (FX X.prog X.w) ((X.blk s3 H3 scope ce fp).wish (notedBy (model X.prog X.w) X.A ce fun e s'=>compPost (model X.prog X.w) X.A X.xe use Qf (.ref D) s3.heap.objs.size (.error e) s')) EK:=by
 intro pins' σ' H5 s5 e s6 I5w h
 have I5:Inv (X.blk s3 H3 scope ce fp) pins' σ' H5 s5:=I5w.unwish
 obtain⟨a,Cl,H6,rfl,os,bare,un,hok,fl,hE⟩:=h
 have un:Un (frs X.stack) [] H5 H6 s5.heap s6.heap:=un
 have I6:Inv (X.blk s3 H3 scope ce fp) pins' σ' H6 s6:=I5.call' (ch:=[]) os un hok bare fun b z=>absurd z (by simp)
 have stk6:s6.heap.FunFrames X.base X.stack:=I6.stack
 have fr6:∀ b∈frs X.stack,H6 b=none:=I6.stkFree
 have frs3:∀ b∈frs X.stack,b < s3.heap.objs.size:=fun b hb=>by
  obtain⟨_,o,e,_⟩:=I3.stack.mem hb
  exact Heap.lt_size e
 have nC:s3.heap.objs.size ∉ frs X.stack:=fun hb=>absurd (frs3 _ hb) (Nat.lt_irrefl _)
 obtain⟨m,hns,_⟩:=id I5.loc
 have hns:s5.heap.Ns ce.locals m:=hns
 rw[cL] at hns
 have n5:H5 s3.heap.objs.size=none:=by
  have z:H5 ce.locals=none:=I5.free
  rw[cL] at z
  exact z
 obtain⟨oC,esC,epC,hC5,rC⟩:=hns
 have n6:H6 s3.heap.objs.size=none:=un.free _ _ hC5 n5 (by simp)
 have hC6:s6.heap.get? s3.heap.objs.size=some oC:=un.keep _ _ hC5 n5 nC (by simp)
 have gone:∀ b,s6.heap.objs.size≤b→s5.heap.get? b=none:=fun b hb=>by
  cases q:s5.heap.get? b with
  | none=>rfl
  | some o=>
   obtain⟨o',e'⟩:=un.there b o q (by simp)
   exact absurd (Heap.lt_size e') (Nat.not_lt.mpr hb)
 show wpAny (model X.prog X.w) X.A (noteFrame (.ref a) ce) _ _ s6
 have frA:X.A.frames=some (X.env::X.outer):=by rw[I3.ok.frames,XE.stk]
 refine mQ (e0:=X.env) (outer:=X.outer) (L:=X.env.locals) (base:=X.base) frA (by rw[←XE.stk];exact stk6) XE.frm (cfr.trans XE.frm) (.inr fl) (fun b hb=>hok.fresh hb) gone fun h7 aw7 fl7=>?_
 rw[←XE.stk] at aw7
 have hC7:h7.get? s3.heap.objs.size=some oC:=aw7.keep _ _ nC (.inl (by rw[hC5];simp)) hC6
 refine⟨m,⟨oC,esC,epC,hC7,rC⟩,fun h8 sb cenv' _=>?_⟩
 have fl8:FlyT H6 s5.heap a Cl h8:=by
  obtain⟨oe,vs,T,oT,ts,q1,q2,q3,q4,q5,q6,q7,q8,q9,q10,q11,q12⟩:=fl7
  have na:a≠s3.heap.objs.size:=fun z=>by rw[z,hC5] at q4;cases q4
  have nT:T≠s3.heap.objs.size:=fun z=>by rw[z,hC5] at q8;cases q8
  exact⟨oe,vs,T,oT,ts,(sb.2 a na).trans q1,q2,q3,q4,q5,q6,q7,q8,q9,(sb.2 T nT).trans q10,q11,q12⟩
 unfold PySem.passOn
 obtain⟨oe,vs,T,oT,ts,q1,q2,q3,q4,q5,q6,q7,q8,q9,q10,q11,q12⟩:=id fl8
 refine wpAny_bind (wpAny_field q1 q3 q6 ?_)
 rw[if_neg (show ¬ ((Value.ref T == Value.none)=true) from by simp)]
 refine wpAny_bind ?_
 have sl8:∀ b o,b∈frs X.stack→s6.heap.get? b=some o→∃ sl,h8.get? b=some { o with slots:=sl }:=fun b o hb e=>by
  obtain⟨sl,q⟩:=aw7.slot b o hb e
  exact⟨sl,(sb.2 b fun z=>nC (z ▸ hb)).trans q⟩
 refine fu (s:={ s6 with heap:=h8 }) fl8 (frs X.stack) (fun b o vs e d hb=>?_) fun h9 _ aw9 fl9=>wpAny_throw ?_
 ·obtain⟨_,o',e',nd⟩:=stk6.mem hb
  obtain⟨sl,q⟩:=sl8 b o' hb e'
  rw[e] at q
  cases q
  exact nd vs d
 ·have keep:∀ b o,b ∉ frs X.stack→b≠s3.heap.objs.size→(s5.heap.get? b≠none∨H6 b≠none)→s6.heap.get? b=some o→h9.get? b=some o:=fun b o nb nc c e=>aw9.keep b o nb c ((sb.2 b nc).trans (aw7.keep b o nb c e))
  have slot:∀ b o,b∈frs X.stack→s6.heap.get? b=some o→∃ sl,h9.get? b=some { o with slots:=sl }:=fun b o hb e=>by
   obtain⟨sl,q⟩:=sl8 b o hb e
   obtain⟨sl',q'⟩:=aw9.slot b _ hb q
   exact⟨sl',q'⟩
  have b5:Un (frs X.stack) fp H3 H5 s3.heap s5.heap:=I5.base
  have ne3:∀ b o,s3.heap.get? b=some o→b≠s3.heap.objs.size:=fun b o e=>Nat.ne_of_lt (Heap.lt_size e)
  have u9:Un (frs X.stack) fp H3 H6 s3.heap h9:=by
   refine⟨fun b o e n hb hx=>?_,fun b o e n hb hx=>?_,fun b o e n hx=>?_,fun b o e hx=>?_,fun b xs e=>un.tups b xs (b5.tups b xs e),fun b o u e=>un.frzs b o u (b5.frzs b o u e),fun b ps e=>?_⟩
   ·have e5:=b5.keep b o e n hb hx
    exact keep b o hb (ne3 b o e) (.inl (by rw[e5];simp)) (un.keep b o e5 (b5.free b o e n hx) hb (by simp))
   ·obtain⟨sl,e5⟩:=b5.slot b o e n hb hx
    obtain⟨sl6,e6⟩:=un.slot b _ e5 (b5.free b o e n hx) hb (by simp)
    obtain⟨sl9,e9⟩:=slot b _ hb e6
    exact⟨sl9,e9⟩
   ·obtain⟨o',e5⟩:=b5.there b o e hx
    exact un.free b o' e5 (b5.free b o e n hx) (by simp)
   ·obtain⟨o',e5⟩:=b5.there b o e hx
    obtain⟨o6,e6⟩:=un.there b o' e5 (by simp)
    by_cases hb:b∈frs X.stack
    ·obtain⟨sl9,e9⟩:=slot b _ hb e6
     exact⟨_,e9⟩
    ·exact⟨o6,keep b o6 hb (ne3 b o e) (.inl (by rw[e5];simp)) e6⟩
   ·obtain⟨m1,e1⟩:=b5.tbls b ps e
    obtain⟨m2,e2⟩:=un.tbls b _ e1
    exact⟨m1++m2,by rw[e2,Array.append_assoc]⟩
  have hok9:HOk X.prog X.w H6 h9:=kl hok fun b u n q=>keep b u (fun hb=>n (fr6 b hb)) (fun z=>n (by rw[z];exact n6)) (.inr n) q
  have os6:s6.os=s3.os:=os.trans I5.os
  have I9:Inv X pins σ H6 { s6 with heap:=h9 }:=I3.call' (s':={ s6 with heap:=h9 }) (ch:=fp) os6 u9 hok9 bare fun b hb=>⟨(f3 b hb).1.2.2.2.1,(f3 b hb).1.2.1,(f3 b hb).1.2.2.2.2.1,(f3 b hb).1.2.2.2.2.2⟩
  refine XE.go I9 (.inr (fl9.mono fun b hb=>?_)) hE
  cases q:X.s_0.heap.get? b with
  | none=>rfl
  | some o=>
   obtain⟨o3,e3⟩:=I3.base.there b o q (by rw[XE.ex0];simp)
   have nfp:b ∉ fp:=fun hf=>by
    rcases (f3 b hf).1.2.2.2.1 with z | z
    ·rw[XE.ex0] at z
     simp at z
    ·exact absurd (Heap.lt_size q) (Nat.not_lt.mpr z)
   obtain⟨o5,e5⟩:=b5.there b o3 e3 nfp
   rw[hb] at e5
   cases e5
section
variable{X:Cx}
theorem oW{pins:List (Addr × Obj)}{s:Shared}{σ:St}{H:Hp}{Q:VK}{elt tg iter:Expr}{ifs:List Expr}{scope:Scope}{own:List (Str × Nat)}{pos pos':Pos}{wi:TI}{g:TG}{tt:TT}{te:TE}{EK:XK}{use:Option (Value→Sem Unit)}{Qf:Value→Shared→Prop}
  (hc:X.calm=true) (hN:X.N.Nodup) (I:Inv X pins σ H s) (hi:PI X tg iter wi) (ok:iY X.N X.env.scope scope own)
  (hg:∀ (s:Shared) (H:Hp) (C:Addr) (cl:List (Str × Addr)) (fp:List Addr),PG (X.blk s H scope (compEnvC scope cl C X.env) fp) tg g) (ht:∀ (s:Shared) (H:Hp) (C:Addr) (cl:List (Str × Addr)) (fp:List Addr),PTs (X.blk s H scope (compEnvC scope cl C X.env) fp) ifs tt)
  (he:∀ (s:Shared) (H:Hp) (C:Addr) (cl:List (Str × Addr)) (fp:List Addr) (W:Value→Shared→Prop),bQ (FX X.prog X.w) ((X.blk s H scope (compEnvC scope cl C X.env) fp).wish W) EK→PE ((X.blk s H scope (compEnvC scope cl C X.env) fp).wish W) elt te) (XE:XCx X EK) (hs:∀ x,foldedSetIterable iter X.env x=pure x)
  (h:tLc wi g tt te (own.map (·.2)) σ H Q)
  (hRR:∀ D C s' m H',Inv X pins σ H' s'→Q (.ref D) H'→s'.heap.Ns C m→FpOk X pins H' C→compPost (model X.prog X.w) X.A X.xe use Qf (.ref D) C (.ok .next) s') :
  wpAny (model X.prog X.w) X.A (comprehension (.ListComp elt [⟨tg,iter,ifs,0⟩] scope pos) scope X.env pos' (newList []) false (eval iter X.env) use) Qf X.xe s:=by
 have hfree:∀ y∈scope.names,y.2=.free→∃ c,X.env.cells.lookup y.1=some c:=fun y hy e=>by
  rcases ok.free y hy e with k | k
  ·exact I.ok.has _ (.inl k)
  ·exact I.ok.has _ (.inr k)
 refine wpAny_comprehension_free (use:=use) rfl hs (kG hfree) ok.kind (fun y hy e=>by rw[ok.uniq y hy,e])
  (thn (hi pins s σ H _ I h) fun xv s1 hx=>thn hx fun itv s2 h2=>?_)
 obtain⟨it,fp,tn,J,H2,e,I2,T,st2,f2,q⟩:=h2
 subst e
 refine wpAny_newObj_type (iK ?_) (by show 0≤sizeLine;decide)
 generalize hD:s2.heap.objs.size=D
 have hDn:H2 D=none:=I2.hok.fresh (Nat.le_of_eq hD)
 obtain⟨W,⟨m0,w0⟩,turn⟩:=q D hDn
 generalize hs3:({ s2 with heap:=s2.heap.push { cls:=.type "list",data:=.seq ([]:List Value).toArray } }:Shared)=s3
 have I3:Inv X pins σ (upd H2 D (.lst [])) s3:=by
  rw[←hs3]
  refine I2.laid (t':=s2.toks) (fun b o e=>Heap.get?_push_of_some _ e) (Nat.le_of_eq hD) ⟨Nat.zero_le _,[],0,.nil,?_⟩
  rw[←hD]
  exact Heap.get?_push_size _ rfl
 have h3:s3.heap=s2.heap.push { cls:=.type "list",data:=.seq ([]:List Value).toArray }:=by rw[←hs3]
 have sz:∀ b∈fp,b < s2.heap.objs.size:=fun b hb=>by
  obtain⟨o,e,_⟩:=T.obj _ _ st2 b hb
  exact Heap.lt_size e
 have f3:∀ b∈fp,FpOk X pins (upd H2 D (.lst [])) b∧b < s3.heap.objs.size:=fun b hb=>by
  have hlt:=sz b hb
  refine⟨⟨?_,(f2 b hb).2⟩,by rw[h3,Heap.size_push];exact Nat.lt_succ_of_lt hlt⟩
  rw[ag (by rw[←hD];exact Nat.ne_of_lt hlt)]
  exact(f2 b hb).1
 have st3:tn 0 s3.heap:=T.keep _ _ _ st2 fun b _ o e=>by rw[h3];exact Heap.get?_push_of_some _ e
 have I4:=iW I3 ok hN f3
 have pg:=hg s3 (upd H2 D (.lst [])) s3.heap.objs.size (cellsFrom (s3.heap.objs.size+1) scope.names (aO X.env.cells scope.names [])) fp
 have pt:=ht s3 (upd H2 D (.lst [])) s3.heap.objs.size (cellsFrom (s3.heap.objs.size+1) scope.names (aO X.env.cells scope.names [])) fp
 have cfr:(compEnvC scope (cellsFrom (s3.heap.objs.size+1) scope.names (aO X.env.cells scope.names [])) s3.heap.objs.size X.env).frame=X.env.frame:=rfl
 have pe:=fun W hW=>he s3 (upd H2 D (.lst [])) s3.heap.objs.size (cellsFrom (s3.heap.objs.size+1) scope.names (aO X.env.cells scope.names [])) fp W hW
 show codeAny _ _ (.compStart (.ListComp elt [⟨tg,iter,ifs,0⟩] scope pos) 0 (.ref it) (.ref D) (compEnvC scope (cellsFrom (s3.heap.objs.size+1) scope.names (aO X.env.cells scope.names [])) s3.heap.objs.size X.env)) (compPost (model X.prog X.w) X.A X.xe use Qf (.ref D) s3.heap.objs.size) { s3 with heap:=pushCells (s3.heap.push { cls:=.type "dict",data:=.dict #[] }) scope.names }
 have nfp:∀ b∈fp,(upd H2 D (.lst [])) b=none:=fun b hb=>(f3 b hb).1.1
 generalize hce:compEnvC scope (cellsFrom (s3.heap.objs.size+1) scope.names (aO X.env.cells scope.names [])) s3.heap.objs.size X.env=ce at I4 pg pt pe cfr ⊢
 have cL:ce.locals=s3.heap.objs.size:=by subst hce;rfl
 generalize hH3:upd H2 D (.lst [])=H3 at I3 I4 pg pt pe w0 nfp f3
 generalize hs4:({ s3 with heap:=pushCells (s3.heap.push { cls:=.type "dict",data:=.dict #[] }) scope.names }:Shared)=s4 at I4 ⊢
 have st4:tn 0 s4.heap:=T.keep _ _ _ st3 fun b _ o e=>by rw[←hs4];exact pushCells_keeps _ _ _ _ (Heap.get?_push_of_some _ e)
 have stat:∀ {σ':St} {H':Hp} {s':Shared},Inv (X.blk s3 H3 scope ce fp) [] σ' H' s'→(∀ b∈fp,H' b=none)→∀ b∈fp,FpOk (X.blk s3 H3 scope ce fp) [] H' b:=fun {σ' H' s'} I' hn b hb=>
  ⟨hn b hb,(I'.ok.exf b hb).1,I'.ok.exfs b hb,.inl hb,fun x c e=>(I'.ok.exf b hb).2 x c e,fun p hp=>absurd (show p∈([]:List (Addr × Obj))++[] from hp) (by simp)⟩
 have pe2:=pe (notedBy (model X.prog X.w) X.A ce fun e s'=>compPost (model X.prog X.w) X.A X.xe use Qf (.ref D) s3.heap.objs.size (.error e) s') (wo I3 XE f3 cL cfr)
 have loop:codeAny (model X.prog X.w) X.A (.compLoop (.ListComp elt [⟨tg,iter,ifs,0⟩] scope pos) 0 (.ref it) (.ref D) ce) (compPost (model X.prog X.w) X.A X.xe use Qf (.ref D) s3.heap.objs.size) s4:=by
  refine gw (fun n s'=>∃ i H',Inv (X.blk s3 H3 scope ce fp) [] (wipe σ (own.map (·.2))) H' s'∧tn i s'.heap∧(∀ b∈fp,H' b=none)∧W i n H') ?_ m0 ⟨0,H3,I4,st4,nfp,w0⟩
  rintro n s5 ⟨i,H5,I5,st5,n5,w5⟩
  rcases turn i n H5 w5 with⟨stop,qq⟩ | ⟨go,Nx,hNx,step⟩
  ·have td:=T.done (X.blk s3 H3 scope ce fp) rfl rfl rfl hc i [] s5 _ H5 (fun _ _=>False) I5 (stat I5 n5) st5 stop
   refine thnF td fun r s6 ⟨hr,I6⟩=>?_
   subst hr
   have I7:Inv X pins σ H5 s6:=I3.call' (ch:=fp) I6.os I6.base I6.hok I6.bare fun b hb=>⟨(f3 b hb).1.2.2.2.1,(f3 b hb).1.2.1,(f3 b hb).1.2.2.2.2.1,(f3 b hb).1.2.2.2.2.2⟩
   have nC:H5 s3.heap.objs.size=none:=by
    have z:H5 ce.locals=none:=I6.free
    rw[cL] at z
    exact z
   obtain⟨m,hn,_⟩:=I6.loc
   have hn:s6.heap.Ns ce.locals m:=hn
   rw[cL] at hn
   exact hRR D s3.heap.objs.size s6 m H5 I7 qq hn (I3.fpOk (Nat.le_refl _) nC)
  ·have ti:=T.item (X.blk s3 H3 scope ce fp) rfl rfl rfl hc i [] s5 _ H5 (fun _ _=>False) I5 (stat I5 n5) st5 go
   refine thnF ti fun r s6 ⟨u,hr,h6⟩=>?_
   subst hr
   refine thnF h6 fun _ s7 ⟨x,H7,I7,r7,y7,st7,n7⟩=>?_
   have I7':=I7.pinned (stat I7 n7) (T.obj _ _ st7)
   refine thnF (pg _ s7 _ H7 x u _ I7' r7 (step x H7 y7)) fun _ s8 ⟨σ8,H8,I8,hw8,q8⟩=>?_
   refine thnF (pt _ s8 σ8 H8 _ I8 q8) fun b s9 ⟨H9,I9,q9⟩=>?_
   have fin:∀ {s':Shared} {H':Hp},Inv (X.blk s3 H3 scope ce fp) ([]++gY fp s7.heap) σ8 H' s'→Nx H'→∃ m,m < n∧∃ i H',Inv (X.blk s3 H3 scope ce fp) [] (wipe σ (own.map (·.2))) H' s'∧tn i s'.heap∧(∀ b∈fp,H' b=none)∧W i m H':=fun {s' H'} I' nx=>by
    obtain⟨m',hm,w'⟩:=hNx H' nx
    have pin':∀ b∈fp,∀ o,s7.heap.get? b=some o→s'.heap.get? b=some o∧H' b=none:=fun b hb o e=>
     let z:=I'.pin (b,o) (mem_append_right _ (mem_append_right _ (dQ hb e)))
     ⟨z.1,z.2.1⟩
    have hl:(wipe σ (own.map (·.2))).length=σ8.length:=by rw[←hw8,db]
    refine⟨m',hm,i+1,H',(I'.unpinned (pins:=[])).weak hl (fun j v e=>?_),T.keep _ _ _ st7 fun b hb o e=>(pin' b hb o e).1,fun b hb=>?_,w'⟩
    ·rw[←hw8] at e
     exact(eR e).1
    ·obtain⟨o,e,_⟩:=T.obj _ _ st7 b hb
     exact(pin' b hb o e).2
   cases b with
   | false=>
    simp only[Bool.false_eq_true,if_false] at q9 ⊢
    exact fin I9 q9
   | true=>
    simp only[if_true] at q9 ⊢
    refine thn (pe2 _ s9 σ8 H9 _ (I9.wish _) q9) fun z s10 ⟨yv,H10,I10,r10,acc,hD10,hz10,nx⟩=>?_
    exact ww (X:=X.blk s3 H3 scope ce fp) I10.unwish hD10 hz10 r10 fun s11 I11=>fin I11 nx
 exact codeAny_compStart_list loop (T.self X.A 0 _ _ _ st4 loop)
theorem pe_lcX{EK:XK}(XE:XCx X EK){elt tg iter:Expr}{ifs:List Expr}{scope:Scope}{own:List (Str × Nat)}{pos:Pos}{wi:TI}{g:TG}{tt:TT}{te:TE}(hc:X.calm=true)(hN:X.N.Nodup)(hi:PI X tg iter wi)(ok:iY X.N X.env.scope scope own)
  (hg:∀ (s:Shared) (H:Hp) (C:Addr) (cl:List (Str × Addr)) (fp:List Addr),PG (X.blk s H scope (compEnvC scope cl C X.env) fp) tg g) (ht:∀ (s:Shared) (H:Hp) (C:Addr) (cl:List (Str × Addr)) (fp:List Addr),PTs (X.blk s H scope (compEnvC scope cl C X.env) fp) ifs tt)
  (he:∀ (s:Shared) (H:Hp) (C:Addr) (cl:List (Str × Addr)) (fp:List Addr) (W:Value→Shared→Prop),bQ (FX X.prog X.w) ((X.blk s H scope (compEnvC scope cl C X.env) fp).wish W) EK→PE ((X.blk s H scope (compEnvC scope cl C X.env) fp).wish W) elt te) (hs:∀ x,foldedSetIterable iter X.env x=pure x:=by intro _;rfl) :
  PE X (.ListComp elt [⟨tg,iter,ifs,0⟩] scope pos) (tLc wi g tt te (own.map (·.2))):=by
 intro pins s σ H Q I h
 rw[eval_ListComp]
 refine oW hc hN I hi ok hg ht he XE hs h fun D C s' m H' I' q hn f=>⟨m,hn,fun h'' sb=>?_⟩
 obtain⟨f0,f1,f2,f3,f4,f5⟩:=f
 exact⟨.ref D,H',I'.turned (t':=s'.toks) (fun b o hb e=>(sb.2 b hb).trans e) f0 f1 f3 f4 f5,rfl,q⟩
theorem sY{EK:XK}(XE:XCx X EK){i:Nat}{y:Str}{py:Pos}{elt tg iter:Expr}{ifs:List Expr}{scope:Scope}{own:List (Str × Nat)}{pos spos:Pos}{wi:TI}{g:TG}{tt:TT}{te:TE}(hc:X.calm=true)(hN:X.N.Nodup)(hy:X.N[i]?=some y)(hyl:X.env.scope.names.lookup y=some .local)
  (hsw:swapsWith (.ListComp elt [⟨tg,iter,ifs,0⟩] scope pos) (some (.Name y py)) spos.line X.env=pure true) (hi:PI X tg iter wi) (ok:iY X.N X.env.scope scope own)
  (hg:∀ (s:Shared) (H:Hp) (C:Addr) (cl:List (Str × Addr)) (fp:List Addr),PG (X.blk s H scope (compEnvC scope cl C X.env) fp) tg g) (ht:∀ (s:Shared) (H:Hp) (C:Addr) (cl:List (Str × Addr)) (fp:List Addr),PTs (X.blk s H scope (compEnvC scope cl C X.env) fp) ifs tt)
  (he:∀ (s:Shared) (H:Hp) (C:Addr) (cl:List (Str × Addr)) (fp:List Addr) (W:Value→Shared→Prop),bQ (FX X.prog X.w) ((X.blk s H scope (compEnvC scope cl C X.env) fp).wish W) EK→PE ((X.blk s H scope (compEnvC scope cl C X.env) fp).wish W) elt te) (hs:∀ x,foldedSetIterable iter X.env x=pure x:=by intro _;rfl) :
  PS X (.Assign [.Name y py] (.ListComp elt [⟨tg,iter,ifs,0⟩] scope pos) spos) (tAsg (tLc wi g tt te (own.map (·.2))) (aY i)):=by
 intro pins s σ H D I h
 rw[exec_Assign_Name_used _ _ _ _ hsw]
 refine wpAny_bind (wpAny_standAt (wpAny_bind ?_))
 show wpAny _ X.A (do let _←comprehension (.ListComp elt [⟨tg,iter,ifs,0⟩] scope pos) scope X.env (firstIterPos [⟨tg,iter,ifs,0⟩] pos) (newList []) false (eval iter X.env) (some (assign (.Name y py) X.env))) _ _ s
 have h:tLc wi g tt te (own.map (·.2)) σ H (fun x H1=>aY i x σ H1 D.nx):=h
 refine wpAny_bind (thn (oW (Qf:=fun _ s'=>SP X pins D .next s') hc hN I hi ok hg ht he XE hs h fun L C s' m H' I' q hn f=>?_) fun _ s' hq=>wpAny_pure (wpAny_pure hq))
 show wpAny _ _ (assign (.Name y py) X.env (.ref L)) _ _ _
 refine wpAny_assign_Name (gI (v:=V.ref L) I' hN hy (.inl hyl) rfl (fun s2 I2 ⟨a,sb,ha⟩=>?_) (.inr hyl))
 obtain⟨f0,f1,f2,f3,f4,f5⟩:=f
 have haC:C≠a:=by
  rcases ha with z | z
  ·rw[z];exact f1
  ·exact fun e=>f4 y a z e.symm
 refine⟨m,hn.sameBut sb haC,fun h3 sb3=>?_⟩
 exact⟨_,H',I2.turned (t':=s2.toks) (fun b o hb e=>(sb3.2 b hb).trans e) f0 f1 f3 f4 f5,q⟩
end
section
variable{X:Cx}
open PySem.AutoSeq1 (wpAny_loadPart')
open PySem.MeetsSeq PySem.MeetsSeq2 PySem.MeetsSeq3
theorem qN(l:Addr)(items:Array Value)(n:Nat)(b:Addr)(items2:Array Value)(n2:Nat)(d2:Option Addr)(sl2:Array (Option Value))
  (h0:¬(!items.isEmpty && Builtin.List.listTooLong (items.size+items2.size))=true) (h1:items.size≤sizeLine) (h2:items.size+items2.size≤sizeLine+1) :
  Meets (Builtin.«list.extend» ⟨[.ref l,.ref b],[]⟩) (fun _ R s=>s.heap.get? l=some { cls:=.type "list",dict:=none,data:=.seq items n,slots:=#[] }∧
   s.heap.get? b=some { cls:=.type "tuple",dict:=d2,data:=.seq items2 n2,slots:=sl2 }∧R (.ok (.ret Value.none)) { s with heap:=s.heap.update l (Obj.mapSeq fun x=>x++items2),toks:=s.toks }):=
 .of_wp fun prog w A R s h=>by
  obtain⟨hp,g,d,tk,os⟩:=s
  obtain⟨hl,hb,h⟩:=h
  have f2:=PySem.AutoSeq1.sub_tuple_tuple
  have f3:=PySem.AutoSeq1.sub_list_list
  have f4:=PySem.AutoSeq1.sub_tuple_list
  have f5:=PySem.AutoSeq1.sub_list_tuple
  have hz:(items++items2).size≤sizeLine+1:=by
   rw[Array.size_append]
   exact h2
  wp_walk using (wpAny_updateSeq hl rfl (hz:=h1) (_hz':=hz)),wpAny_loadPart' hl,wpAny_loadPart' hb
  exact⟨_,rfl,h⟩
def rExtT(K:Frag):V→List V→Hp→VK→Prop:=fun x vs H Q=>∃ l b xs zs,x=.ref l∧vs=[.ref b]∧H l=some (.lst xs)∧SqT K H b zs∧xs.length+zs.length≤sizeLine∧Q .non (upd H l (.lst (xs++zs)))
theorem mU:MtM X "list.extend" (rExtT X.K):=by
 intro pins s σ H x vs v us Q I rx rv h
 obtain⟨l,b,xs,zs,rfl,rfl,hH,hB,hz,q⟩:=h
 cases rx
 obtain⟨u,rfl,ru⟩:=rv.one
 cases ru
 obtain⟨z,its,n,r,hl,e⟩:=I.lstM hH
 obtain⟨its2,r2,⟨⟨cls,dd,data,sl⟩,ho,hc,n2,hd⟩,hz2⟩:=I.tuple hB
 simp only at hc hd
 subst hc hd
 have hl2:=r2.length
 have hsz:its.toArray.size+its2.toArray.size≤sizeLine:=by
  rw[size_toArray,size_toArray]
  omega
 have hlong:¬ (!its.toArray.isEmpty && Builtin.List.listTooLong (its.toArray.size+its2.toArray.size))=true:=by
  rw[oK hsz,Bool.and_false]
  exact Bool.false_ne_true
 refine call_meets F.slot_list_extend ⟨_,e,rfl⟩ F.entry_list_extend (F.args_list_extend_2 _ _)
  (qN l its.toArray n b its2.toArray n2 dd sl hlong (by rw[size_toArray];omega) (by omega)) ⟨e,ho,?_⟩
 refine⟨.non,_,I.lset (its':=its++its2) hH e (by simp) (r.append r2) ?_,rfl,q⟩
 rw[length_append]
 omega
theorem iE(h:Heap):∀ bs:List Bool,ReadsAll h (bs.map Value.bool) (bs.map PyData.bool) []
 | []=>.nil
 | b::r=>by
  have:=ReadsAll.cons (Reads.bool (h:=h) b) (iE h r)
  simpa using this
theorem fG(k:Bool):∀ bs:List Bool,countIn (.bool k) (bs.map PyData.bool)=((bs.count k:Nat):Int)
 | []=>rfl
 | b::r=>by
  rw[map_cons,countIn,fG k r,List.count_cons]
  cases b<;>cases k<;>simp[same]<;>omega
def wQ(K:Frag):V→List V→Hp→VK→Prop:=fun x vs H Q=>∃ (a:Addr) (k:Bool) (bs:List Bool),x=.ref a∧vs=[.bl k]∧SqL K H a (bs.map V.bl)∧Q (.int (bs.count k:Nat)) H
theorem tN:MtR X "list.count" (wQ X.K):=by
 intro pins s σ H x xs v us Q I rx rxs h
 obtain⟨a,k,bs,rfl,rfl,hs,q⟩:=h
 cases rx
 obtain⟨u,rfl,ru⟩:=jg rxs
 cases ru
 obtain⟨its,rv,hl,_⟩:=I.list hs
 have e:=rv.bls
 subst e
 refine count_list_bools (hp:=s.heap) hl.isList (iE s.heap bs) (by simp[List.all_eq_true,Shape.has]) ?_
 rw[fG]
 exact⟨.int _,H,I.tok _,⟨_,rfl⟩,q⟩
end
theorem gq{prog:Program}{w:World}{A:Around}{E:Value→Shared→Prop}{s:Shared}{t sl:Addr}{items:Array Value}{vl vu:Value}{lo hi:Option Int}{Q:Value→Shared→Prop}(ht:IsTup s.heap t items)(hs:s.heap.IsSliceOf sl vl vu .none)
  (pl:IsPart vl lo) (pu:IsPart vu hi) (h0:HT.sIx items.size 0 lo=0) (h1:HT.sIx items.size items.size hi=items.size) (h:Q (.ref t) s):wpAny (model prog w) A (getItem (.ref t) (.ref sl)) Q E s:=by
 obtain⟨os,hos,hcs,hds⟩:=id hs
 have hTs:s.TypeIs (.ref sl) "slice":=⟨os,hos,hcs⟩
 unfold getItem
 try with_reducible refine wpAny_holding ?_
 first | refine wpAny_bind (wpAny_pure ?_) | skip
 refine wpAny_bind (wpAny_sequenceKey ht.typeIs (by decide) ?_)
 refine wpAny_bind (wpAny_callSpecial?_slot (name:=Str.ofString "__getitem__") ht.typeIs PyProof.Rows.slot_tuple_getitem
  (wpAny_call_entry PyProof.Rows.slot_tuple_getitem ht.typeIs entry_tuple_getitem ?_ (args_tuple_getitem _ _)))
 show wpAny _ _ (Builtin.Tuple.tupleItemsOf (.ref t) >>= _) _ _ s
 refine wpAny_bind (tupleItemsOf_ ht ?_)
 refine wpAny_bind (wpAny_typeOf hTs ?_)
 rw[if_pos (by decide)]
 refine wpAny_bind (HT.sliceApplied_gen hs pl pu ?_)
 rw[h0,h1]
 show wpAny _ _ (if((((0:Nat):Int) == 0) && (1:Int) == 1 && (items.size - 0) == items.size)=true then _ else _) _ _ s
 rw[if_pos (by simp)]
 unfold Builtin.Tuple.tupleIsExact
 refine wpAny_bind (wpAny_bind (wpAny_typeOf ht.typeIs (wpAny_pure ?_)))
 rw[if_pos (by decide)]
 refine wpAny_bind (wpAny_rule ?_)
 first
  | exact wpAny_pure ⟨_,rfl,wpAny_pure h⟩
  | exact wpAny_bind (wpAny_pure (wpAny_pure ⟨_,rfl,wpAny_pure h⟩))
def rSlW(K:Frag):V→Option Int→Option Int→Hp→VK→Prop:=fun x lo hi H Q=>∃ a xs,x=.ref a∧SqT K H a xs∧HT.sIx xs.length 0 lo=0∧HT.sIx xs.length xs.length hi=xs.length∧Q (.ref a) H
theorem sl_all{X:Cx}:SlR X (rSlW X.K):=by
 intro pins s σ H x v vl vu lo hi sl Q I rx hs pl pu h
 obtain⟨a,xs,rfl,hx,h0,h1,q⟩:=h
 cases rx
 obtain⟨its,r,ht,hz⟩:=I.tuple hx
 have hlen:its.toArray.size=xs.length:=by
  rw[size_toArray]
  exact r.length.symm
 refine⟨"tuple",_,PyProof.Rows.slot_tuple_getitem.lookup,ht.typeIs,?_⟩
 exact gq ht hs pl pu (by rw[hlen];exact h0) (by rw[hlen];exact h1) ⟨.ref a,H,I,rfl,q⟩
def cM(h:Heap)(d:Addr)(es:Array DictEntry)(ep:Nat):Prop:=∃ o,h.get? d=some o∧o.ExactDict∧o.data=.dict es ep
theorem cM.typeIs{s:Shared}{d:Addr}{es:Array DictEntry}{ep:Nat}(x:cM s.heap d es ep):s.TypeIs (.ref d) "dict":=let ⟨o,ho,hc,_⟩:=x;⟨o,ho,hc.1⟩
theorem cM.at{h h':Heap}{d:Addr}{es:Array DictEntry}{ep:Nat}(x:cM h d es ep)(k:∀ o,h.get? d=some o→h'.get? d=some o):cM h' d es ep:=let ⟨o,ho,r⟩:=x;⟨o,k o ho,r⟩
section
variable{prog:Program}{w:World}{A:Around}{E:Value→Shared→Prop}{s:Shared}{d:Addr}{es:Array DictEntry}{ep:Nat}
theorem pG(hh:A.handled=none)(I d:Addr)(hne:d≠I)(es:Array DictEntry)(ep:Nat) :
  Walks prog w A I [I,d] [I] es.size (fun i v=>∃ en,es[i]?=some en∧v=en.key) (fun i h=>h.IsKeyIter I d i es.size ep∧cM h d es ep) where
 sub:=fun b hb=>by simp at hb;simp[hb]
 frame:=fun _ _ _ st hk=>⟨st.1.at fun o e=>hk I (by simp) o e,st.2.at fun o e=>hk d (by simp) o e⟩
 item:=fun i s Q E hi st hQ=>by
  obtain⟨o,ho,hc,hdt⟩:=id st.2
  refine fF st.1 ho hdt rfl (Array.getElem?_eq_getElem hi) fun h' st' sb=>?_
  refine hQ _ h' s.toks ⟨_,Array.getElem?_eq_getElem hi,rfl⟩ ⟨st',st.2.at fun o e=>(sb.2 d hne).trans e⟩ fun b o hb e=>?_
  exact(sb.2 b fun z=>hb (by simp[z])).trans e
 done:=fun s Q E st hQ=>by
  obtain⟨o,ho,hc,hdt⟩:=id st.2
  exact dP hh st.1 ho hdt rfl (Nat.le_refl _) fun h' eb=>hQ h' s.toks fun b o hb e=>eb b o (fun z=>hb (by simp[z])) e
 self:=fun _ _ _ _ st hQ=>wpAny_pyIter_keyiter st.1 hQ
theorem nF(lo:(d == sysModules)=false):PySem.W.KdlSrc prog w "dict" d d es.size (fun i v=>∃ en,es[i]?=some en∧v=en.key) (fun h=>cM h d es ep) where
 type:=fun _ hm=>hm.typeIs
 there:=fun _ hm=>let ⟨o,ho,_⟩:=hm;⟨Heap.lt_size ho,Heap.lt_size ho⟩
 keep:=fun _ _ hm hk=>hm.at fun o e=>hk d (.inl rfl) o e
 notList:=by decide
 notTuple:=by decide
 hint:=fun _ _ _ _ hm hq=>PySem.W.kdl_hint_dict hm.typeIs hq
 iter:=fun _ _ hh hm=>by
  obtain⟨o,ho,hc,hdt⟩:=id hm
  refine⟨_,_,fun _ _ hq=>ij lo ho hc hdt hq,pG hh _ d (Nat.ne_of_lt (Heap.lt_size ho)) es ep,⟨_,Heap.get?_push_size _ rfl,rfl,rfl⟩,?_⟩
  exact hm.at fun o e=>Heap.get?_push_of_some _ e
theorem tR{Q:Value→Shared→Prop}(hd:(d == sysModules)=false)(hm:cM s.heap d es ep)(hfit:(es.size:Int) < 2 ^ 63)(h:Q (.int es.size (s.toks+1)) { s with toks:=s.toks+1+1 }) :
  wpAny (model prog w) A (call (.builtin "len") [.ref d]) Q E s:=by
 refine(Calls.call_function_entry kind_len plain_len entry_len (args_len1 _) ?_)
 unfold Builtin.«len»
 refine wpAny_bind (m:=oneArg "len" _) (wpAny_pure ?_)
 refine wpAny_bind (m:=callSpecial? (.ref d) (Str.ofString "__len__")) (wpAny_callSpecial?_slot (name:=Str.ofString "__len__") hm.typeIs F.slot_dict_len
  (call_meetsIn F.slot_dict_len hm.typeIs F.entry_dict_len (F.args_dict_len_1 _) (S:=fun _ R s=>cM s.heap d es ep∧R (.ok (.ret (.int es.size s.toks))) { s with toks:=s.toks+1 }) (.of_wp fun A R s z=>?_) ⟨hm,?_⟩))
 ·obtain⟨⟨o,ho,hc,hdt⟩,q⟩:=z
  show(wpAny _ _ (dictSize d >>= _) _ _ s)
  unfold dictSize
  refine wpAny_bind (wpAny_bind (wpAny_dictEntries ho hdt (wpAny_pure ?_)))
  show(wpAny _ _ (Builtin.Dict.pendingCount d >>= _) _ _ s)
  refine(wpAny_bind (wpAny_pendingCount_other hd ?_))
  refine wpAny_ret_mkInt ?_
  rw[Nat.add_zero]
  exact q
 ·show wpAny _ _ _ _ _ { s with toks:=s.toks+1 }
  refine(wpAny_bind (wpAny_holding (wpAny_pure ?_)))
  refine wpAny_bind (wpAny_letGo ?_)
  show wpAny _ _ (if((es.size:Nat):Int) < 0 then _ else _) _ _ _
  rw[if_neg (by omega)]
  show wpAny _ _ (if((es.size:Nat):Int) ≥ 2 ^ 63 then _ else _) _ _ _
  rw[if_neg (by omega)]
  exact wpAny_bind (wpAny_mkInt (wpAny_pure ⟨_,rfl,h⟩))
end
theorem Inv.dT{X:Cx}{pins:List (Addr × Obj)}{σ:St}{H:Hp}{s:Shared}{a:Addr}{kvs:List (List Key × V)}(I:Inv X pins σ H s)(h:Rd H a (.dT kvs)) :
  (a == sysModules)=false∧kvs.length≤sizeLine∧∃ (es:Array DictEntry) (ep:Nat) (qs:List Addr),cM s.heap a es ep∧es.size=kvs.length∧es.toList.map (·.key)=qs.map Value.ref∧Paired (fun q (p:List Key × V)=>H q=some (.tup (p.1.map kV))) qs kvs:=by
 obtain⟨z,hs,xs,pr,o,es,ep,ho,hx,hdt,he,nd⟩:=h.ok I.hok
 refine⟨hs,z,es,ep,xs.map (·.2.1),⟨o,ho,hx,hdt⟩,?_,?_,?_⟩
 ·rw[size_of_entries he]
  exact(Paired.length pr).symm
 ·rw[he,map_map,map_map]
  rfl
 ·clear he z nd h
  induction pr with
  | nil=>exact .nil
  | cons r t ih=>exact .cons r.2.1 ih
def rLenT:List V→Hp→VK→Prop:=fun xs H Q=>∃ a kvs,xs=[V.ref a]∧Rd H a (.dT kvs)∧Q (.int kvs.length) H
theorem ua{X:Cx}:fK X (.builtin "len") rLenT:=by
 intro pins s σ H xs us Q I r h
 obtain⟨a,kvs,rfl,ha,q⟩:=h
 obtain⟨u,rfl,ru⟩:=jg r
 cases ru
 obtain⟨hs,z,es,ep,qs,hd,hsz,_,_⟩:=I.dT ha
 rw[sizeLine_eq] at z
 refine tR hs hd (by rw[hsz];omega) ⟨.int kvs.length,H,I.tok _,⟨_,by rw[hsz]⟩,q⟩
theorem ke{es:Array DictEntry}{qs:List Addr}{acc:Array Value}(he:es.toList.map (·.key)=qs.map Value.ref)(hi:ItemsOf (fun i v=>∃ en,es[i]?=some en∧v=en.key) acc es.size):acc.toList=qs.map Value.ref:=by
 rw[←he]
 apply List.ext_getElem?
 intro j
 obtain⟨h1,h2⟩:=hi
 rw[Array.getElem?_toList,getElem?_map,Array.getElem?_toList]
 by_cases hj:j < es.size
 ·have hj':j < acc.size:=by omega
  obtain⟨en,e1,e2⟩:=h2 j acc[j] (Array.getElem?_eq_getElem hj')
  rw[Array.getElem?_eq_getElem hj',e1,e2]
  rfl
 ·rw[Array.getElem?_eq_none (by omega),Array.getElem?_eq_none (by omega)]
  rfl
theorem gG:∀ qs:List Addr,Vals (qs.map V.ref) (qs.map Value.ref)
 | []=>.nil
 | q::r=>.cons rfl (gG r)
def rListT:List V→Hp→VK→Prop:=fun xs H Q=>∃ a kvs,xs=[V.ref a]∧Rd H a (.dT kvs)∧∀ qs l,Paired (fun q (p:List Key × V)=>H q=some (.tup (p.1.map kV))) qs kvs→H l=none→Q (.ref l) (upd H l (.lst (qs.map V.ref)))
theorem qQ{X:Cx}(hc:X.calm=true):fK X (.type "list") rListT:=by
 intro pins s σ H xs us Q I r h
 obtain⟨a,kvs,rfl,ha,q⟩:=h
 obtain⟨u,rfl,ru⟩:=jg r
 cases ru
 obtain⟨hs,z,es,ep,qs,hd,hsz,hk,hp⟩:=I.dT ha
 refine PySem.W.kdl_call (nF (es:=es) (ep:=ep) hs) (I.ok.hd hc) hd (by rw[hsz];exact z) fun h' tk acc c' keep hD hacc=>?_
 have e:=ke hk hacc
 have el:acc=(qs.map Value.ref).toArray:=Array.toList_inj.mp (by rw[e])
 rw[el] at hD
 refine⟨.ref s.heap.objs.size,upd H s.heap.objs.size (.lst (qs.map V.ref)),I.laid (t':=tk) keep (Nat.le_refl _) ?_,rfl,q qs _ hp (I.hok.fresh (Nat.le_refl _))⟩
 refine⟨?_,_,c',gG qs,hD⟩
 rw[length_map,Paired.length hp]
 exact z
theorem tu{α β:Type}{f:α→β}{l l':List β}(p:l.Perm l'):∀ ys:List α,l'=ys.map f→∃ ys':List α,ys'.Perm ys∧l=ys'.map f:=by
 induction p with
 | nil=>
  intro ys e
  cases ys with
  | nil=>exact⟨[],.nil,rfl⟩
  | cons a r=>cases e
 | cons x p ih=>
  intro ys e
  cases ys with
  | nil=>cases e
  | cons a r=>
   rw[map_cons] at e
   injection e with e1 e2
   obtain⟨ys',q,e3⟩:=ih r e2
   exact⟨a::ys',q.cons a,by rw[map_cons,e1,e3]⟩
 | swap x y l=>
  intro ys e
  cases ys with
  | nil=>cases e
  | cons a r=>
   rw[map_cons] at e
   injection e with e1 e2
   cases r with
   | nil=>cases e2
   | cons b r=>
    rw[map_cons] at e2
    injection e2 with e2 e3
    exact⟨b::a::r,.swap a b r,by rw[map_cons,map_cons,e1,e2,e3]⟩
 | trans p1 p2 ih1 ih2=>
  intro ys e
  obtain⟨y2,q2,e2⟩:=ih2 ys e
  obtain⟨y1,q1,e1⟩:=ih1 y2 e2
  exact⟨y1,q1.trans q2,e1⟩
theorem oS:∀ a b:List Int,PyProof.Rows.lexLt itemOrd (a.map Sum.inl) (b.map Sum.inl)=HT.lexLt a b
 | [],[]=>rfl
 | [],_::_=>rfl
 | _::_,[]=>rfl
 | x::r,y::t=>by
  rw[map_cons,map_cons,PyProof.Rows.lex_cons,HT.lexLt_cons,oS r t]
  show(decide (x < y) || (!decide (y < x) && HT.lexLt r t))=_
  by_cases h:x=y
  ·subst h
   simp
  ·rw[if_neg h]
   by_cases h2:x < y
   ·simp[h2]
   ·have h3:y < x:=by omega
    simp[h2,h3]
theorem fD:∀ (us:List Value) (ns:List Int) (i:Nat),Vals (ns.map V.int) us→tupItems (fun _=>false) i us=some (ns.map Sum.inl)
 | [],[],_,_=>rfl
 | [],_::_,_,h=>by cases h
 | _::_,[],_,h=>by cases h
 | u::us,n::ns,i,h=>by
  cases h with
  | cons r t=>
   obtain⟨k,rfl⟩:=r
   have ih:=fD us ns (i+1) t
   show(if false=true then none else(tupItems (fun _=>false) (i+1) us).map (Sum.inl n::·))=_
   rw[ih]
   rfl
def rSortT:List V→Hp→VK→Prop:=fun xs H Q=>∃ (a:Addr) (kvs:List (List Key × V)) (ks:List (List Int)),xs=[V.ref a]∧Rd H a (.dT kvs)∧kvs.map (·.1)=ks.map (·.map Sum.inl)∧(∀ k∈ks,k≠[])∧
 ∀ (ys:List (Addr × List Int)) (l:Addr),(ys.map (·.2)).Perm ks→(ys.map (·.2)).Pairwise (fun a b=>HT.lexLt b a=false)→(∀ y∈ys,H y.1=some (.tup (y.2.map V.int)))→H l=none→Q (.ref l) (upd H l (.lst (ys.map fun y=>V.ref y.1)))
theorem rT(k:List Int):(k.map (Sum.inl:Int→Key)).map kV=k.map V.int:=by
 rw[map_map]
 rfl
theorem qP{X:Cx}(hc:X.calm=true):fK X (.builtin "sorted") rSortT:=by
 intro pins s σ H xs us Q I r h
 obtain⟨a,kvs,ks,rfl,ha,hks,hne,q⟩:=h
 obtain⟨u,rfl,ru⟩:=jg r
 cases ru
 obtain⟨hs,z,es,ep,qs,hd,hsz,hk,hp⟩:=I.dT ha
 obtain⟨ys,e1,e2,e3⟩:∃ ys:List (Addr × List Int),qs=ys.map (·.1)∧ks=ys.map (·.2)∧∀ y∈ys,H y.1=some (.tup (y.2.map V.int)):=by
  clear hk hsz q hd hne ha z
  induction hp generalizing ks with
  | nil=>
   cases ks with
   | nil=>exact⟨[],rfl,rfl,fun y hy=>by cases hy⟩
   | cons k r=>cases hks
  | cons rr t ih=>
   rename_i q0 p0 qs0 kvs0
   cases ks with
   | nil=>cases hks
   | cons k r=>
    rw[map_cons,map_cons] at hks
    injection hks with g1 g2
    obtain⟨ys,f1,f2,f3⟩:=ih r g2
    refine⟨(q0,k)::ys,by rw[map_cons,f1],by rw[map_cons,f2],fun y hy=>?_⟩
    rcases mem_cons.mp hy with e | hy
    ·subst e
     show H q0=some (.tup (k.map V.int))
     rw[rr,g1,rT]
    ·exact f3 y hy
 have hlen:ys.length=kvs.length:=by
  have:=Paired.length hp
  rw[e1,length_map] at this
  exact this
 refine(Calls.call_function_entry kind_sorted plain_sorted entry_sorted (args_sorted1 _) ?_)
 unfold Builtin.«sorted»
 refine wpAny_bind (m:=checkCount "sorted" 1 1 _) (wpAny_pure ?_)
 refine wpAny_bind (PySem.W.kdu_collect (A:=X.A.in1) (nF (es:=es) (ep:=ep) hs) (I.ok.hd hc) hd (by rw[hsz];exact z) fun h1 tk acc keep hacc=>?_)
 have ea:=ke hk hacc
 rw[ea,e1,map_map]
 have hlv:(ys.map ((fun x=>Value.ref x) ∘ fun x=>x.1)).length≤sizeLine:=by
  rw[length_map,hlen]
  exact z
 refine wpAny_bind (wpAny_newList ?_ hlv)
 generalize hvs:ys.map ((fun x=>Value.ref x) ∘ fun x=>x.1)=vs at hlv ⊢
 have I1:Inv X pins σ H { s with heap:=h1,toks:=tk }:=I.kept (t':=tk) keep
 have hoL:(h1.push { cls:=.type "list",data:=.seq vs.toArray }).get? h1.objs.size=some (seqObj "list" vs.toArray 0):=Heap.get?_push_size _ rfl
 have I2:Inv X pins σ H { s with heap:=h1.push { cls:=.type "list",data:=.seq vs.toArray },toks:=tk }:=I1.kept (t':=tk) fun b o e=>Heap.get?_push_of_some _ e
 have tup:∀ y∈ys,∃ (o:Obj) (its:List Value) (n:Nat),(h1.push { cls:=.type "list",data:=.seq vs.toArray }).get? y.1=some o∧o.cls=.type "tuple"∧o.data=.seq its.toArray n∧Vals (y.2.map V.int) its:=fun y hy=>by
  obtain⟨_,its,rv,o,ho,hcl,n,hdd⟩:=I2.hok y.1 _ (e3 y hy)
  exact⟨o,its,n,ho,hcl,hdd,rv⟩
 have key:∀ y∈ys,G.tupKeyC (h1.push { cls:=.type "list",data:=.seq vs.toArray }) (fun _=>false) (.ref y.1)=some (y.2.map Sum.inl):=fun y hy=>by
  obtain⟨o,its,n,ho,hcl,hdd,rv⟩:=tup y hy
  exact G.tupKeyC_of ho hcl hdd (fD its y.2 0 rv)
 have tups:∃ fs,TupsOf (h1.push { cls:=.type "list",data:=.seq vs.toArray }) (fun _=>false) vs fs:=by
  have all:∀ y∈ys,∃ f,TupOf (h1.push { cls:=.type "list",data:=.seq vs.toArray }) (fun _=>false) (.ref y.1) f:=fun y hy=>by
   obtain⟨o,its,n,ho,hcl,hdd,rv⟩:=tup y hy
   have ny:y.2≠[]:=hne y.2 (by rw[e2];exact mem_map.mpr ⟨y,hy,rfl⟩)
   cases hy2:y.2 with
   | nil=>exact absurd hy2 ny
   | cons i r=>
    rw[hy2] at rv
    cases rv with
    | cons r1 t=>
     rename_i u1 us1
     obtain⟨t1,rfl⟩:=r1
     exact⟨_,y.1,o,_,n,rfl,ho,hcl,hdd,rfl,fun _=>⟨i,t1,rfl⟩,fun z=>(by cases z)⟩
  rw[←hvs]
  generalize hh:h1.push { cls:=.type "list",data:=.seq (ys.map ((fun x=>Value.ref x) ∘ fun x=>x.1)).toArray }=hh1
  rw[hvs] at hh
  rw[hh] at all
  clear hh hvs e1 e2 e3 hlen key tup ea
  induction ys with
  | nil=>exact⟨[],.nil⟩
  | cons y r ih=>
   obtain⟨f,hf⟩:=all y (mem_cons_self)
   obtain⟨fs,hfs⟩:=ih fun y hy=>all y (mem_cons_of_mem _ hy)
   exact⟨f::fs,.cons hf hfs⟩
 obtain⟨fs,hfs⟩:=tups
 refine wpAny_bind (wpAny_holding (wpAny_call_entry slot_list_sort ⟨_,hoL,rfl⟩ entry_list_sort (G.list_sort_tups (s:={ s with heap:=h1.push { cls:=.type "list",data:=.seq vs.toArray },toks:=tk }) (shape:=fun _=>false) hoL hfs ?_ hlv fun st' p1 p2 _=>⟨_,rfl,?_⟩) (args_list_sort _)))
 ·intro v hv
  rw[←hvs] at hv
  obtain⟨y,hy,rfl⟩:=mem_map.mp hv
  exact⟨_,key y hy⟩
 ·refine wpAny_pure ⟨_,rfl,?_⟩
  have pl:(arrOf st').toList.Perm (ys.map fun y=>((Value.ref y.1,Value.ref y.1):Keyed)):=by
   have e:=Array.perm_iff_toList_perm.mp p1
   rw[pairsOf_toList,←hvs,List.zip_map'] at e
   exact e
  obtain⟨zs,pz,ez⟩:=tu pl ys rfl
  have eo:((arrOf st').map (·.2)).toList=zs.map fun y=>Value.ref y.1:=by
   rw[Array.toList_map,ez,map_map]
   rfl
  have lz:zs.length=vs.length:=by rw[pz.length_eq,←hvs,length_map]
  obtain⟨ep2,he2⟩:=sortedHeap_at (out:=(arrOf st').map (·.2)) hoL
  have e4:(arrOf st').map (·.2)=(zs.map fun y=>Value.ref y.1).toArray:=Array.toList_inj.mp (by rw[eo])
  have old:∀ b o,h1.get? b=some o→(sortedHeap (h1.push { cls:=.type "list",data:=.seq vs.toArray }) h1.objs.size vs ((arrOf st').map (·.2))).get? b=some o:=fun b o e=>by
   have l:=Heap.lt_size e
   rw[sortedHeap_old (Nat.ne_of_lt l) (by rw[size_push'];exact Nat.lt_succ_of_lt l)]
   exact Heap.get?_push_of_some _ e
  have vz:Vals (zs.map fun y=>V.ref y.1) (zs.map fun y=>Value.ref y.1):=by
   have:=gG (zs.map (·.1))
   rw[map_map,map_map] at this
   exact this
  refine⟨.ref h1.objs.size,upd H h1.objs.size (.lst (zs.map fun y=>V.ref y.1)),I1.laid (t':=tk) old (Nat.le_refl _) ⟨?_,_,ep2,vz,?_⟩,rfl,q zs _ ?_ ?_ (fun y hy=>e3 y (pz.mem_iff.mp hy)) (I1.hok.fresh (Nat.le_refl _))⟩
  ·rw[length_map,lz]
   exact hlv
  ·rw[←e4]
   exact he2
  ·rw[e2]
   exact pz.map _
  ·rw[List.pairwise_map,List.pairwise_iff_getElem]
   intro i j hi hj hij
   have hz:=p2 i j (Nat.le_of_lt hij) (by rw[pairsOf_size,←lz];exact hj)
   have kk:∀ (m:Nat) (hm:m < zs.length),KK (G.tupKindC (h1.push { cls:=.type "list",data:=.seq vs.toArray }) (fun _=>false)) (arrOf st') m=(zs[m].2.map Sum.inl:List (Int ⊕ List Nat)):=fun m hm=>by
    have g:(arrOf st')[m]?=some ((Value.ref zs[m].1,Value.ref zs[m].1):Keyed):=by
     rw[←Array.getElem?_toList,ez,getElem?_map,getElem?_eq_getElem hm]
     rfl
    unfold KK
    rw[g]
    show((G.tupKeyC _ _ (.ref zs[m].1)).getD _)=_
    rw[key _ (pz.mem_iff.mp (List.getElem_mem hm))]
    rfl
   rw[kk i hi,kk j hj] at hz
   rw[←oS]
   exact hz
section
variable{prog:Program}{w:World}{A:Around}{E:Value→Shared→Prop}{s:Shared}
theorem qH{v d:Addr}{es:Array DictEntry}{ep:Nat}{Q:Value→Shared→Prop}(hv:s.heap.IsValuesView v d)(hm:cM s.heap d es ep)
  (hQ:Q (.ref s.heap.objs.size) { s with heap:=s.heap.push { cls:=.type "dict_valueiterator",data:=.fields #[.ref d,.int 0 0,.int es.size 0,.int ep 0] } }) :
  wpAny (model prog w) A (pyIter (.ref v)) Q E s:=by
 obtain⟨ov,hov,hcv,hdv⟩:=id hv
 obtain⟨o,ho,hc,hdat⟩:=id hm
 refine wpAny_pyIter_slot hv.typeIs F.slot_dict_values_iter
  (wpAny_call_entry F.slot_dict_values_iter hv.typeIs F.entry_dict_values_iter ?_ (F.args_dict_values_iter_1 _))
 unfold Builtin.«dict_values.__iter__»;skip
 refine(wpAny_bind (wpAny_pure (wpAny_bind ?_)))
 unfold Builtin.Dict_items.dictOf;skip
 refine wpAny_bind (wpAny_field hov hdv (x:=.ref d) rfl (wpAny_pure (wpAny_bind ?_)))
 unfold Builtin.Dict_items.newIterator;skip
 refine wpAny_bind (wpAny_dictEntries ho hdat (wpAny_bind (wpAny_dictEpoch ho hdat ?_)))
 have howned:Builtin.Dict_items.ownsTuple "dict_valueiterator"=false:=by decide
 simp only[howned,Bool.false_eq_true,if_false]
 refine wpAny_newObj_type (wpAny_pure ⟨_,rfl,"dict_valueiterator",_,⟨_,Heap.get?_push_size _ rfl,rfl⟩,
  F.slot_dict_valueiterator_next.lookup,?_⟩)
 simpa [rawInt] using hQ
theorem oR(d:Addr)(hd:(d == sysModules)=false):MeetsIn prog w (Builtin.«dict.values» ⟨[.ref d],[]⟩) (fun _ R s=>(∃ es ep,cM s.heap d es ep)∧
   R (.ok (.ret (.ref s.heap.objs.size))) { s with heap:=s.heap.push { cls:=.type "dict_values",data:=.fields #[.ref d] } }):=
 .of_wp fun A R s ⟨⟨es,ep,hm⟩,h⟩=>by
  refine wpAny_bind ?_
  unfold Builtin.Dict.noArgs
  refine wpAny_bind (wpAny_notOrdered_dict hm.typeIs (show wpAny _ _ (pure d) _ _ s from wpAny_pure ?_))
  show wpAny _ _ (Builtin.Dict.showsAll d >>= _) _ _ s
  unfold Builtin.Dict.showsAll
  rw[if_neg (by rw[hd];exact Bool.false_ne_true)]
  exact wpAny_bind (wpAny_pure (wpAny_bind (wpAny_newObj_type (wpAny_pure ⟨_,rfl,h⟩))))
theorem kN{it d:Addr}{i n ep:Nat}{od:Obj}{es:Array DictEntry}{en:DictEntry}{Q:Option Value→Shared→Prop}(hvi:s.heap.IsValIter it d i n ep)(hod1:s.heap.get? d=some od)(hdd1:od.data=.dict es ep)
  (hsize:es.size=n) (hx:es[i]?=some en) (hQ:∀ h',h'.IsValIter it d (i+1) n ep→Heap.SameBut it s.heap h'→Q (some en.val) { s with heap:=h' }):wpAny (model prog w) A (pyNext (.ref it)) Q E s:=by
 obtain⟨o,hob,hc,hd⟩:=id hvi
 unfold pyNext
 refine wpAny_bind (wpAny_attempt (wpAny_callSpecial?_slot (name:=Str.ofString "__next__") hvi.typeIs F.slot_dict_valueiterator_next
  (wpAny_call_entry F.slot_dict_valueiterator_next hvi.typeIs F.entry_dict_valueiterator_next ?_ (F.args_dict_valueiterator_next_1 _))))
 refine wpAny_bind (wpAny_pure ?_)
 refine wpAny_bind ?_
 refine wpAny_bind ?_
 first | refine wpAny_bind (wpAny_typeNameOfWhole_valiter hvi.typeIs (wpAny_pure ?_)) | refine wpAny_bind (wpAny_typeNameOf_valiter hvi.typeIs (wpAny_pure ?_))
 refine wpAny_bind (wpAny_fieldsOf hob hd ?_)
 have howned:Builtin.Dict_items.ownsTuple "dict_valueiterator"=false:=by decide
 simp only[howned,Bool.false_eq_true,if_false]
 show wpAny _ _ (if(Value.ref d == Value.none)=true then _ else _) _ _ s
 rw[if_neg (show ¬ ((Value.ref d == Value.none)=true) from Bool.false_ne_true)]
 refine wpAny_bind (wpAny_pure ?_)
 refine wpAny_bind (wpAny_dictEntries hod1 hdd1 ?_)
 rw[if_neg (by rw[hsize];simp)]
 refine wpAny_bind (wpAny_pure ?_)
 refine wpAny_bind (wpAny_dictEpoch hod1 hdd1 ?_)
 rw[if_neg (by simp)]
 refine wpAny_pure ?_
 obtain⟨hlt',hen⟩:=Array.getElem?_eq_some_iff.mp hx
 simp only[show ¬ ((i:Int) < 0) from by omega,if_false,Int.toNat_natCast,Array.getElem?_eq_getElem hlt']
 refine wpAny_bind ?_
 first | refine wpAny_bind (wpAny_typeNameOfWhole_valiter hvi.typeIs (wpAny_pure ?_)) | refine wpAny_bind (wpAny_typeNameOf_valiter hvi.typeIs (wpAny_pure ?_))
 refine wpAny_bind (wpAny_isOneOf_valiter hvi.typeIs ?_)
 show wpAny _ _ (setField (.ref it) 1 (rawInt ((i:Int)+1)) >>= _) _ _ s
 refine wpAny_bind (wpAny_setField hob hd (by simp) ?_)
 have hvi':(s.heap.update it (Obj.mapFields (·.setIfInBounds 1 (rawInt ((i:Int)+1))))).IsValIter it d (i+1) n ep:=
  ⟨_,Heap.get?_update_self _ hob (Obj.isFreed_of_fields (Obj.data_mapFields hd _)),(Obj.cls_mapFields ..).trans hc,by rw[Obj.data_mapFields hd];simp[rawInt]⟩
 refine wpAny_bind (wpAny_holding ?_)
 refine wpAny_bind (wpAny_isOneOf_valiter (s:={ s with heap:=s.heap.update it (Obj.mapFields (·.setIfInBounds 1 (rawInt ((i:Int)+1)))) }) hvi'.typeIs ?_)
 rw[if_neg (by decide)]
 refine wpAny_bind (wpAny_isOneOf_valiter (s:={ s with heap:=s.heap.update it (Obj.mapFields (·.setIfInBounds 1 (rawInt ((i:Int)+1)))) }) hvi'.typeIs ?_)
 show(wpAny _ _ (pure es[i].val) _ _ _)
 rw[hen]
 exact wpAny_pure (wpAny_pure ⟨_,rfl,wpAny_pure (hQ _ hvi' (Heap.SameBut.update ..))⟩)
theorem mR{it d:Addr}{i n ep:Nat}{od:Obj}{es:Array DictEntry}{Q:Option Value→Shared→Prop}(hh:A.handled=none)(hvi:s.heap.IsValIter it d i n ep)(hod1:s.heap.get? d=some od)(hdd1:od.data=.dict es ep)
  (hsize:es.size=n) (hge:n≤i) (hQ:∀ h',Heap.ExtBut it s.heap h'→Q none { s with heap:=h' }):wpAny (model prog w) A (pyNext (.ref it)) Q E s:=by
 obtain⟨o,hob,hc,hd⟩:=id hvi
 unfold pyNext
 refine wpAny_bind (wpAny_attempt (wpAny_callSpecial?_slot (name:=Str.ofString "__next__") hvi.typeIs F.slot_dict_valueiterator_next
  (wpAny_call_entry F.slot_dict_valueiterator_next hvi.typeIs F.entry_dict_valueiterator_next ?_ (F.args_dict_valueiterator_next_1 _))))
 refine wpAny_bind (wpAny_pure ?_)
 refine wpAny_bind ?_
 refine wpAny_bind ?_
 first | refine wpAny_bind (wpAny_typeNameOfWhole_valiter hvi.typeIs (wpAny_pure ?_)) | refine wpAny_bind (wpAny_typeNameOf_valiter hvi.typeIs (wpAny_pure ?_))
 refine wpAny_bind (wpAny_fieldsOf hob hd ?_)
 have howned:Builtin.Dict_items.ownsTuple "dict_valueiterator"=false:=by decide
 simp only[howned,Bool.false_eq_true,if_false]
 show wpAny _ _ (if(Value.ref d == Value.none)=true then _ else _) _ _ s
 rw[if_neg (show ¬ ((Value.ref d == Value.none)=true) from Bool.false_ne_true)]
 refine wpAny_bind (wpAny_pure ?_)
 refine wpAny_bind (wpAny_dictEntries hod1 hdd1 ?_)
 rw[if_neg (by rw[hsize];simp)]
 refine wpAny_bind (wpAny_pure ?_)
 refine wpAny_bind (wpAny_dictEpoch hod1 hdd1 ?_)
 rw[if_neg (by simp)]
 refine wpAny_pure ?_
 have hge':es.size≤i:=by rw[hsize];exact hge
 simp only[show ¬ ((i:Int) < 0) from by omega,if_false,Int.toNat_natCast,Array.getElem?_eq_none hge']
 refine wpAny_bind ?_
 first | refine wpAny_bind (wpAny_typeNameOfWhole_valiter hvi.typeIs (wpAny_pure ?_)) | refine wpAny_bind (wpAny_typeNameOf_valiter hvi.typeIs (wpAny_pure ?_))
 show wpAny _ _ (setField (.ref it) 0 .none >>= _) _ _ s
 refine wpAny_bind (wpAny_setField hob hd (by simp) ?_)
 show wpAny _ _ (newExc (.type "StopIteration") [] >>= _) _ _ _
 refine wpAny_bind ?_
 simp only[newExc,newTuple]
 refine wpAny_bind (wpAny_newObj_type ?_ (by size_fits))
 refine wpAny_bind (m:=firstArgMember _ _) (wpAny_of_eq (a:=Value.none) (by first | rfl | (simp only[firstArgMember];rfl)) ?_)
 refine wpAny_newObj_type ?_ (by size_fits)
 simp only[raiseNew]
 refine wpAny_bind (wpAny_handled ?_)
 rw[show A.in1.handled=none from hh]
 refine wpAny_bind (wpAny_pure (wpAny_throw ?_))
 refine wpAny_bind (wpAny_isInstance (T:="StopIteration") (b:=true) ⟨_,Heap.get?_push_size _ rfl,rfl⟩ isSubtype_stop ?_)
 exact wpAny_pure (hQ _ (((Heap.SameBut.update ..).extBut.push _).push _))
end
theorem Inv.frzT2{X:Cx}{pins:List (Addr × Obj)}{σ:St}{H:Hp}{s:Shared}{d:Addr}{o:Obj}{kvs:List (List Key × V)}(I:Inv X pins σ H s)(h:H d=some (.frz o (.dT kvs))) :
  (d == sysModules)=false∧s.heap.get? d=some o∧o.ExactDict∧∃ (es:Array DictEntry) (ep:Nat),o.data=.dict es ep∧es.size=kvs.length∧
   ∀ (i:Nat) (k:List Key) (v:V),kvs[i]?=some (k,v)→∃ (en:DictEntry),es[i]?=some en∧RelV v en.val:=by
 obtain⟨hd,z,hs,xs,pr,o',es,ep,ho,hx,hdt,he,_⟩:=I.hok d _ h
 rw[hd] at ho
 cases ho
 refine⟨hs,hd,hx,es,ep,hdt,?_,fun i k v e=>?_⟩
 ·have l1:es.size=xs.length:=size_of_entries he
  have l2:kvs.length=xs.length:=Paired.length pr
  omega
 ·obtain⟨b,hb,e1,e2,e3⟩:=aC pr e
  have q:=entry_at he i
  rw[hb] at q
  exact⟨_,q,e3⟩
def Itdt(d:Addr)(o:Obj)(kvs:List (List Key × V)):It:=
 ⟨fun i H=>H d=some (.frz o (.dT kvs))∧i < kvs.length,fun i H x H'=>H'=H∧∃ k,kvs[i]?=some (k,x),fun i H=>H d=some (.frz o (.dT kvs))∧kvs.length≤i⟩
section
variable{P:Program}{w:World}{K:Frag}{tg:Expr}{d:Addr}{o:Obj}{es:Array DictEntry}{ep:Nat}
theorem pJ{kvs:List (List Key × V)}(it:Addr)(hod:o.data=.dict es ep):Turn P w K tg (Itdt d o kvs) [it] it (fun i h=>h.IsValIter it d i kvs.length ep) where
 mem:=by simp
 obj:=fun i h st b hb=>by
  have e:b=it:=by simpa using hb
  subst e
  obtain⟨oi,e,c,dd⟩:=st
  exact⟨oi,e,fun v z=>by rw[dd] at z;cases z⟩
 keep:=fun i h h' st k=>st.at fun oi e=>k it (by simp) oi e
 item:=by
  intro X hP hw hK hc i pins s σ H E I hf st hg
  subst hP hw hK
  obtain⟨hd,hi⟩:=hg
  obtain⟨f0,f1,f2,f3,f4,f5⟩:=hf it (by simp)
  obtain⟨hs,hgd,hx,es',ep',hdt,hsz,ent⟩:=I.frzT2 hd
  obtain⟨rfl,rfl⟩:=du hod hdt
  obtain⟨⟨k,v⟩,hkv⟩:∃ p,kvs[i]?=some p:=⟨kvs[i],getElem?_eq_getElem hi⟩
  obtain⟨en,hen,hval⟩:=ent i k v hkv
  refine kN st hgd hdt hsz hen fun h' st' sb=>?_
  have I1:Inv X pins σ H { s with heap:=h' }:=I.turned (t':=s.toks) (fun b ob hb e=>(sb.2 b hb).trans e) f0 f1 f3 f4 f5
  obtain⟨oi,e,c,dd⟩:=id st'
  exact⟨en.val,rfl,km (s:={ s with heap:=h' }) e c dd (by decide) ⟨v,H,I1,hval,⟨rfl,k,hkv⟩,st',fun b hb=>(hf b hb).1⟩⟩
 done:=by
  intro X hP hw hK hc i pins s σ H E I hf st hg
  subst hP hw hK
  obtain⟨hd,hi⟩:=hg
  obtain⟨f0,f1,f2,f3,f4,f5⟩:=hf it (by simp)
  obtain⟨hs,hgd,hx,es',ep',hdt,hsz,ent⟩:=I.frzT2 hd
  obtain⟨rfl,rfl⟩:=du hod hdt
  exact mR (I.ok.hd hc) st hgd hdt hsz hi fun h' eb=>⟨rfl,I.turned (t':=s.toks) (fun b ob hb e=>eb b ob hb e) f0 f1 f3 f4 f5⟩
 self:=fun A i s Q E st h=>wpAny_pyIter_valiter st h
end
def iValsT(td:TE):TI:=fun σ H R=>td σ H fun x H1=>∃ d o kvs,x=.ref d∧H1 d=some (.frz o (.dT kvs))∧R (Itdt d o kvs) H1
theorem qe{X:Cx}{tg e:Expr}{td:TE}{apos cpos:Pos}(he:PE X e td)(hbase:attributeBase e "values" X.env (eval e X.env)=eval e X.env:=by rfl)(hline:(apos.endLine == cpos.line)=true:=by rfl):PI X tg (.Call (.Attribute e "values" apos) [] [] cpos) (iValsT td):=by
 intro pins s σ H R I h
 refine wpAny_Call_method (T:="dict") (id:="dict.values") hbase rfl hline F.plainAttrs_dict F.slot_dict_values F.type_dict_values (thn (he pins s σ H _ I h) fun u s1 ⟨x,H1,I1,rx,d,o,kvs,ex,hd,q⟩=>?_)
 subst ex
 obtain rfl:u=Value.ref d:=rx
 obtain⟨hs,hgd,hx,es,ep,hdt,hsz,ent⟩:=I1.frzT2 hd
 have hE:cM s1.heap d es ep:=⟨o,hgd,hx,hdt⟩
 refine⟨hE.typeIs,fun b e=>?_,?_⟩
 ·cases e
  exact⟨o,hgd,hx.2.1⟩
 have I2:Inv X pins σ H1 { s1 with heap:=s1.heap.push { cls:=.type "dict_values",data:=.fields #[.ref d] } }:=I1.kept (t':=s1.toks) fun b ob q=>Heap.get?_push_of_some _ q
 have fin:wpAny (model X.prog X.w) X.A (pyIter (.ref s1.heap.objs.size)) (PIE X pins σ tg R) X.xe { s1 with heap:=s1.heap.push { cls:=.type "dict_values",data:=.fields #[.ref d] } }:=by
  refine qH (d:=d) (es:=es) (ep:=ep) ⟨_,Heap.get?_push_size _ rfl,rfl,rfl⟩ (hE.at fun ob e=>Heap.get?_push_of_some _ e) (jP (tk:=s1.toks) I2 _ (pJ _ hdt) ⟨_,Heap.get?_push_size _ rfl,rfl,?_⟩ q)
  rw[hsz]<;>rfl
 show wpAny _ _ (callWith cpos (.builtin "dict.values") [.ref d] [] []) _ X.xe s1
 exact method_meetsIn F.slot_dict_values F.entry_dict_values rfl (PySem.evalArgs_none ⟨rfl,hE.typeIs,F.args_dict_values_1 _,_,oR d hs,⟨es,ep,hE⟩,fin⟩)
section
variable{prog:Program}{w:World}{A:Around}{E:Value→Shared→Prop}{s:Shared}
theorem mV(d:Addr)(hd:(d == sysModules)=false):MeetsIn prog w (Builtin.«dict.items» ⟨[.ref d],[]⟩) (fun _ R s=>(∃ es ep,cM s.heap d es ep)∧R (.ok (.ret (.ref s.heap.objs.size))) { s with heap:=s.heap.push { cls:=.type "dict_items",data:=.fields #[.ref d] } }):=.of_wp fun A R s ⟨⟨es,ep,hm⟩,h⟩=>by
 refine wpAny_bind ?_
 unfold Builtin.Dict.noArgs
 refine wpAny_bind (wpAny_notOrdered_dict hm.typeIs (show wpAny _ _ (pure d) _ _ s from wpAny_pure ?_))
 show wpAny _ _ (Builtin.Dict.showsAll d >>= _) _ _ s
 unfold Builtin.Dict.showsAll
 rw[if_neg (by rw[hd];exact Bool.false_ne_true)]
 exact wpAny_bind (wpAny_pure (wpAny_bind (wpAny_newObj_type (wpAny_pure ⟨_,rfl,h⟩))))
theorem oX{v d:Addr}{es:Array DictEntry}{ep:Nat}{Q:Value→Shared→Prop}(hv:s.heap.IsItemsView v d)(hm:cM s.heap d es ep)(hQ:Q (.ref s.heap.objs.size) { s with heap:=s.heap.push { cls:=.type "dict_itemiterator",data:=.fields #[.none,.bool false,.ref d,.int 0 0,.int es.size 0,.int ep 0,.none,.none] } }):wpAny (model prog w) A (pyIter (.ref v)) Q E s:=by
 obtain⟨ov,g1,g2,g3⟩:=id hv
 obtain⟨o,g4,g5,g6⟩:=id hm
 have ht:=hv.typeIs
 refine wpAny_pyIter_slot ht F.slot_dict_items_iter (wpAny_call_entry F.slot_dict_items_iter ht F.entry_dict_items_iter ?_ (F.args_dict_items_iter_1 _))
 unfold Builtin.«dict_items.__iter__»;skip
 refine wpAny_bind (wpAny_pure ?_)
 refine wpAny_bind ?_
 unfold Builtin.Dict_items.dictOf;skip
 refine wpAny_bind (wpAny_field g1 g3 (x:=.ref d) rfl (wpAny_pure ?_))
 refine wpAny_bind ?_
 unfold Builtin.Dict_items.newIterator;skip
 refine wpAny_bind (wpAny_dictEntries g4 g6 (wpAny_bind (wpAny_dictEpoch g4 g6 ?_)))
 have own:Builtin.Dict_items.ownsTuple "dict_itemiterator"=true:=by decide
 simp only[own,if_true]
 refine wpAny_newObj_type (wpAny_pure ⟨_,rfl,"dict_itemiterator",_,⟨_,Heap.get?_push_size _ rfl,rfl⟩,F.slot_dict_itemiterator_next.lookup,?_⟩) (by simp only[sizeOk,Builtin.Dict_items.ownedTupleFields,size_toArray,length_append,length_cons,List.length_nil,sizeLine_eq];omega)
 simpa [rawInt,Builtin.Dict_items.ownedTupleFields] using hQ
theorem iZ{it d:Addr}{i n ep:Nat}{od:Obj}{es:Array DictEntry}{en:DictEntry}{k0 v0:Value}{Q:Option Value→Shared→Prop}(hit:IsItemIter s.heap it d i n ep k0 v0)(hod:s.heap.get? d=some od)(hdd:od.data=.dict es ep)(hsz:es.size=n)(hx:es[i]?=some en)
  (hQ:∀ h',IsItemIterOut h' it d (i+1) n ep en.key en.val s.heap.objs.size→h'.get? s.heap.objs.size=some { cls:=.type "tuple",data:=.seq #[en.key,en.val] }→(∀ b o,b≠it→s.heap.get? b=some o→h'.get? b=some o)→Q (some (.ref s.heap.objs.size)) { s with heap:=h' }):wpAny (model prog w) A (pyNext (.ref it)) Q E s:=by
 obtain⟨hp,gs,dn,tk,os⟩:=s
 have hT:Shared.TypeIs ⟨hp,gs,dn,tk,os⟩ (.ref it) "dict_itemiterator":=⟨_,hit,rfl⟩
 unfold pyNext
 refine wpAny_bind (wpAny_attempt (wpAny_callSpecial?_slot (name:=Str.ofString "__next__") hT F.slot_dict_itemiterator_next (wpAny_call_entry F.slot_dict_itemiterator_next hT F.entry_dict_itemiterator_next ?_ (F.args_dict_itemiterator_next_1 _))))
 refine wpAny_bind (wpAny_pure ?_)
 refine wpAny_bind ?_
 refine wpAny_bind ?_
 first|refine wpAny_bind (wpAny_typeNameOfWhole_itemiter hT (wpAny_pure ?_))|refine wpAny_bind (wpAny_typeNameOf_itemiter hT (wpAny_pure ?_))
 refine(wpAny_bind (wpAny_fieldsOf hit rfl ?_))
 have own:Builtin.Dict_items.ownsTuple "dict_itemiterator"=true:=by decide
 simp only[own,if_true]
 show wpAny _ _ (ite ((Value.ref d == Value.none)=true) _ _) _ _ _
 rw[if_neg (show ¬ ((Value.ref d == Value.none)=true) from Bool.false_ne_true)]
 refine wpAny_bind (wpAny_pure ?_)
 refine wpAny_bind (wpAny_dictEntries hod hdd ?_)
 rw[if_neg (by rw[hsz];simp)]
 refine wpAny_bind (wpAny_pure ?_)
 refine wpAny_bind (wpAny_dictEpoch hod hdd ?_)
 rw[if_neg (by simp)]
 refine wpAny_pure ?_
 obtain⟨lt,hen⟩:=Array.getElem?_eq_some_iff.mp hx
 simp only[show ¬ ((i:Int) < 0) from by omega,if_false,Int.toNat_natCast,Array.getElem?_eq_getElem lt,hen]
 refine wpAny_bind ?_
 first|refine wpAny_bind (wpAny_typeNameOfWhole_itemiter hT (wpAny_pure ?_))|refine wpAny_bind (wpAny_typeNameOf_itemiter hT (wpAny_pure ?_))
 refine(wpAny_bind (wpAny_isOneOf_itemiter hT ?_))
 show wpAny _ _ (setField (.ref it) 3 (rawInt ((i:Int)+1)) >>= _) _ _ ⟨hp,gs,dn,tk,os⟩
 refine wpAny_bind (wpAny_setField_rec hit (by simp) fun p1 i1 b1=>?_)
 have b1:Heap.SameBut it hp p1:=b1
 have i1:IsItemIter p1 it d (i+1) n ep k0 v0:=by
  have z:((i+1:Nat):Int)=(i:Int)+1:=by omega
  unfold IsItemIter
  rw[z]
  simpa [rawInt] using i1
 have t1:Shared.TypeIs ⟨p1,gs,dn,tk,os⟩ (.ref it) "dict_itemiterator":=⟨_,i1,rfl⟩
 refine wpAny_bind (wpAny_holding ?_)
 refine wpAny_bind (wpAny_isOneOf_itemiter t1 ?_)
 refine wpAny_bind (wpAny_isOneOf_itemiter t1 ?_)
 show wpAny _ _ (Builtin.Dict_items.pairFromOwner (.ref it) 6 en.key en.val) _ _ ⟨p1,gs,dn,tk,os⟩
 unfold Builtin.Dict_items.pairFromOwner;skip
 refine(wpAny_bind (wpAny_newTuple ?_))
 have i2:IsItemIter (p1.push { cls:=.type "tuple",data:=.seq #[en.key,en.val] }) it d (i+1) n ep k0 v0:=Heap.get?_push_of_some _ i1
 generalize q2:p1.push { cls:=.type "tuple",data:=.seq #[en.key,en.val] }=p2 at i2
 have z1:p1.objs.size=hp.objs.size:=b1.1
 have il:it < hp.objs.size:=Heap.lt_size hit
 have x2:p2.get? hp.objs.size=some { cls:=.type "tuple",data:=.seq #[en.key,en.val] }:=by
  rw[←q2,←z1]
  exact Heap.get?_push_size _ rfl
 have y2:∀ b o,b≠it→hp.get? b=some o→p2.get? b=some o:=fun b o hb e=>by
  rw[←q2]
  exact Heap.get?_push_of_some _ (b1.extBut b o hb e)
 show wpAny _ _ (Builtin.Dict_items.ownedTupleIsFree (.ref it) >>= _) _ _ ⟨p2,gs,dn,tk,os⟩
 rw[z1]
 clear q2 t1 z1
 refine wpAny_bind ?_
 unfold Builtin.Dict_items.ownedTupleIsFree;skip
 refine wpAny_bind (wpAny_field i2 rfl (x:=.none) rfl (wpAny_pure ?_))
 simp only[if_true]
 refine wpAny_bind (wpAny_field i2 rfl (x:=k0) rfl ?_)
 refine wpAny_bind (wpAny_field i2 rfl (x:=v0) rfl ?_)
 refine wpAny_bind (wpAny_setField_rec i2 (by simp) fun p3 i3 b3=>?_)
 have b3:Heap.SameBut it p2 p3:=b3
 have i3:IsItemIter p3 it d (i+1) n ep en.key v0:=i3
 refine wpAny_bind (wpAny_setField_rec i3 (by simp) fun p4 i4 b4=>?_)
 have b4:Heap.SameBut it p3 p4:=b4
 have i4:IsItemIter p4 it d (i+1) n ep en.key en.val:=i4
 refine wpAny_bind (wpAny_setField_rec i4 (by simp) fun p5 i5 b5=>?_)
 have b5:Heap.SameBut it p4 p5:=b5
 have i5:IsItemIterOut p5 it d (i+1) n ep en.key en.val hp.objs.size:=i5
 refine wpAny_bind (wpAny_setField_rec i5 (by simp) fun p6 i6 b6=>?_)
 have b6:Heap.SameBut it p5 p6:=b6
 have keep:∀ b o,b≠it→p2.get? b=some o→p6.get? b=some o:=fun b o hb e=>b6.extBut b o hb (b5.extBut b o hb (b4.extBut b o hb (b3.extBut b o hb e)))
 exact wpAny_bind (wpAny_letGo (wpAny_pure (wpAny_pure ⟨_,rfl,wpAny_pure (hQ p6 i6 (keep _ _ (Nat.ne_of_gt il) x2) fun b o hb e=>keep b o hb (y2 b o hb e))⟩)))
theorem jX{it d:Addr}{i n ep:Nat}{od:Obj}{es:Array DictEntry}{k0 v0:Value}{Q:Option Value→Shared→Prop}(hh:A.handled=none)(hit:IsItemIter s.heap it d i n ep k0 v0)(hod:s.heap.get? d=some od)(hdd:od.data=.dict es ep)(hsz:es.size=n)(hge:n≤i)(hQ:∀ h',Heap.ExtBut it s.heap h'→Q none { s with heap:=h' }):wpAny (model prog w) A (pyNext (.ref it)) Q E s:=by
 have hT:Shared.TypeIs s (.ref it) "dict_itemiterator":=⟨_,hit,rfl⟩
 unfold pyNext
 refine wpAny_bind (wpAny_attempt (wpAny_callSpecial?_slot (name:=Str.ofString "__next__") hT F.slot_dict_itemiterator_next (wpAny_call_entry F.slot_dict_itemiterator_next hT F.entry_dict_itemiterator_next ?_ (F.args_dict_itemiterator_next_1 _))))
 refine wpAny_bind (wpAny_pure ?_)
 refine wpAny_bind ?_
 refine wpAny_bind ?_
 first|refine wpAny_bind (wpAny_typeNameOfWhole_itemiter hT (wpAny_pure ?_))|refine wpAny_bind (wpAny_typeNameOf_itemiter hT (wpAny_pure ?_))
 refine(wpAny_bind (wpAny_fieldsOf hit rfl ?_))
 have own:Builtin.Dict_items.ownsTuple "dict_itemiterator"=true:=by decide
 simp only[own,if_true]
 show wpAny _ _ (ite ((Value.ref d == Value.none)=true) _ _) _ _ s
 rw[if_neg (show ¬ ((Value.ref d == Value.none)=true) from Bool.false_ne_true)]
 refine wpAny_bind (wpAny_pure ?_)
 refine wpAny_bind (wpAny_dictEntries hod hdd ?_)
 rw[if_neg (by rw[hsz];simp)]
 refine wpAny_bind (wpAny_pure ?_)
 refine wpAny_bind (wpAny_dictEpoch hod hdd ?_)
 rw[if_neg (by simp)]
 refine wpAny_pure ?_
 have ge:es.size≤i:=by rw[hsz];exact hge
 simp only[show ¬ ((i:Int) < 0) from by omega,if_false,Int.toNat_natCast,Array.getElem?_eq_none ge]
 refine wpAny_bind ?_
 first|refine wpAny_bind (wpAny_typeNameOfWhole_itemiter hT (wpAny_pure ?_))|refine wpAny_bind (wpAny_typeNameOf_itemiter hT (wpAny_pure ?_))
 show wpAny _ _ (setField (.ref it) 2 Value.none >>= _) _ _ s
 refine(wpAny_bind (wpAny_setField hit rfl (by simp) ?_))
 show wpAny _ _ (newExc (.type "StopIteration") [] >>= _) _ _ _
 refine wpAny_bind ?_
 simp only[newExc,newTuple]
 refine wpAny_bind (wpAny_newObj_type ?_ (by size_fits))
 refine wpAny_bind (m:=firstArgMember _ _) (wpAny_of_eq (a:=Value.none) (by first | rfl | (simp only[firstArgMember];rfl)) ?_)
 refine wpAny_newObj_type ?_ (by size_fits)
 simp only[raiseNew]
 refine wpAny_bind (wpAny_handled ?_)
 rw[show A.in1.handled=none from hh]
 refine wpAny_bind (wpAny_pure (wpAny_throw ?_))
 refine wpAny_bind (wpAny_isInstance (T:="StopIteration") (b:=true) ⟨_,Heap.get?_push_size _ rfl,rfl⟩ isSubtype_stop ?_)
 exact wpAny_pure (hQ _ (((Heap.SameBut.update ..).extBut.push _).push _))
end
theorem Inv.frzT3{X:Cx}{pins:List (Addr × Obj)}{σ:St}{H:Hp}{s:Shared}{d:Addr}{o:Obj}{kvs:List (List Key × V)}(I:Inv X pins σ H s)(h:H d=some (.frz o (.dT kvs))) :
  (d == sysModules)=false∧s.heap.get? d=some o∧o.ExactDict∧∃ (es:Array DictEntry) (ep:Nat),o.data=.dict es ep∧es.size=kvs.length∧∀ (i:Nat) (k:List Key) (v:V),kvs[i]?=some (k,v)→∃ (en:DictEntry) (q:Addr),es[i]?=some en∧en.key=.ref q∧H q=some (.tup (k.map kV))∧RelV v en.val:=by
 obtain⟨hd,z,hs,xs,pr,o',es,ep,ho,hx,hdt,he,_⟩:=I.hok d _ h
 rw[hd] at ho
 cases ho
 refine⟨hs,hd,hx,es,ep,hdt,?_,fun i k v e=>?_⟩
 ·have l1:es.size=xs.length:=size_of_entries he
  have l2:kvs.length=xs.length:=Paired.length pr
  omega
 ·obtain⟨b,hb,e1,e2,e3⟩:=aC pr e
  have q:=entry_at he i
  rw[hb] at q
  exact⟨_,b.2.1,q,rfl,e2,e3⟩
def Itit(d:Addr)(o:Obj)(kvs:List (List Key × V)):It:=
 ⟨fun i H=>H d=some (.frz o (.dT kvs))∧i < kvs.length,fun i H x H'=>∃ (T:Addr) (k:List Key) (v:V) (q:Addr),kvs[i]?=some (k,v)∧x=.ref T∧H T=none∧H q=some (.tup (k.map kV))∧H'=upd H T (.tup [.ref q,v]),fun i H=>H d=some (.frz o (.dT kvs))∧kvs.length≤i⟩
theorem nE{P:Program}{w:World}{K:Frag}{d:Addr}{o:Obj}{es:Array DictEntry}{ep:Nat}{kvs:List (List Key × V)}{elts:List Expr}{kk:Nat}{tpos:Pos}(it:Addr)(hod:o.data=.dict es ep) :
  Turn P w K (.Tuple elts kk tpos) (Itit d o kvs) [it] it (fun i h=>∃ ok ov,IsItemIter h it d i kvs.length ep ok ov) where
 mem:=by simp
 obj:=fun i h st b hb=>by
  have e:b=it:=by simpa using hb
  subst e
  obtain⟨ok,ov,e⟩:=st
  exact⟨_,e,fun v z=>nomatch z⟩
 keep:=fun i h h' st k=>let ⟨ok,ov,e⟩:=st;⟨ok,ov,k it (by simp) _ e⟩
 item:=by
  intro X hP hw hK hc i pins s σ H E I hf st hg
  subst hP hw hK
  obtain⟨hd,hi⟩:=hg
  obtain⟨hs,hgd,hx,es',ep',hdt,hsz,ent⟩:=I.frzT3 hd
  obtain⟨rfl,rfl⟩:=du hod hdt
  obtain⟨⟨k,v⟩,hkv⟩:∃ p,kvs[i]?=some p:=⟨kvs[i],getElem?_eq_getElem hi⟩
  obtain⟨en,q,hen,hkey,hq,hval⟩:=ent i k v hkv
  obtain⟨ok,ov,he⟩:=st
  have hlt:it < s.heap.objs.size:=Heap.lt_size he
  refine iZ he hgd hdt hsz hen fun h' ho hT hk=>?_
  refine⟨_,rfl,wpAny_letOwnedTupleGo_items (s:={ s with heap:=h' }) ho fun h'' he' sb=>?_⟩
  have hT2:h''.get? s.heap.objs.size=some { cls:=.type "tuple",data:=.seq #[en.key,en.val] }:=(sb.2 _ (Nat.ne_of_gt hlt)).trans hT
  have rk:RelV (.ref q) en.key:=by
   rw[hkey]
   rfl
  have new:bA X.prog X.w (upd H s.heap.objs.size (.tup [.ref q,v])) h'' s.heap.objs.size (.tup [.ref q,v]):=⟨by show 2≤sizeLine;decide,[en.key,en.val],.cons rk (.cons hval .nil),⟨_,hT2,rfl,_,rfl⟩⟩
  have I1:Inv X pins σ (upd H s.heap.objs.size (.tup [.ref q,v])) { s with heap:=h'' }:=I.turnedNew (t':=s.toks) (ch:=[it]) (fun b ob hb e=>(sb.2 b (by simpa using hb)).trans (hk b ob (by simpa using hb) e)) hf (Nat.le_refl _) new
  refine⟨.ref s.heap.objs.size,_,I1,rfl,⟨_,k,v,q,hkv,rfl,I.hok.fresh (Nat.le_refl _),hq,rfl⟩,⟨_,_,he'⟩,fun b hb=>?_⟩
  have e:b=it:=by simpa using hb
  rw[e,ag (Nat.ne_of_lt hlt)]
  exact(hf it (by simp)).1
 done:=by
  intro X hP hw hK hc i pins s σ H E I hf st hg
  subst hP hw hK
  obtain⟨hd,hi⟩:=hg
  obtain⟨f0,f1,f2,f3,f4,f5⟩:=hf it (by simp)
  obtain⟨hs,hgd,hx,es',ep',hdt,hsz,ent⟩:=I.frzT3 hd
  obtain⟨rfl,rfl⟩:=du hod hdt
  obtain⟨ok,ov,he⟩:=st
  exact jX (I.ok.hd hc) he hgd hdt hsz hi fun h' eb=>⟨rfl,I.turned (t':=s.toks) (fun b ob hb e=>eb b ob hb e) f0 f1 f3 f4 f5⟩
 self:=fun A i s Q E st h=>let ⟨_,_,e⟩:=st;PySem.W.kcp_self e h
def xq(td:TE):TI:=fun σ H R=>td σ H fun x H1=>∃ d o kvs,x=.ref d∧H1 d=some (.frz o (.dT kvs))∧R (Itit d o kvs) H1
theorem tq{X:Cx}{e:Expr}{td:TE}{apos cpos:Pos}{elts:List Expr}{kk:Nat}{tpos:Pos}(he:PE X e td)(hbase:attributeBase e "items" X.env (eval e X.env)=eval e X.env:=by rfl)(hline:(apos.endLine == cpos.line)=true:=by rfl) :
  PI X (.Tuple elts kk tpos) (.Call (.Attribute e "items" apos) [] [] cpos) (xq td):=by
 intro pins s σ H R I h
 refine wpAny_Call_method (T:="dict") (id:="dict.items") hbase rfl hline F.plainAttrs_dict F.slot_dict_items F.type_dict_items (thn (he pins s σ H _ I h) fun u s1 ⟨x,H1,I1,rx,d,o,kvs,ex,hd,q⟩=>?_)
 subst ex
 obtain rfl:u=Value.ref d:=rx
 obtain⟨hs,hgd,hx,es,ep,hdt,hsz,ent⟩:=I1.frzT3 hd
 have hE:cM s1.heap d es ep:=⟨o,hgd,hx,hdt⟩
 refine⟨hE.typeIs,fun b e=>?_,?_⟩
 ·cases e
  exact⟨o,hgd,hx.2.1⟩
 have I2:Inv X pins σ H1 { s1 with heap:=s1.heap.push { cls:=.type "dict_items",data:=.fields #[.ref d] } }:=I1.kept (t':=s1.toks) fun b ob q=>Heap.get?_push_of_some _ q
 have fin:wpAny (model X.prog X.w) X.A (pyIter (.ref s1.heap.objs.size)) (PIE X pins σ (.Tuple elts kk tpos) R) X.xe { s1 with heap:=s1.heap.push { cls:=.type "dict_items",data:=.fields #[.ref d] } }:=by
  refine oX (d:=d) (es:=es) (ep:=ep) ⟨_,Heap.get?_push_size _ rfl,rfl,rfl⟩ (hE.at fun ob e=>Heap.get?_push_of_some _ e) (jP (tk:=s1.toks) I2 _ (nE _ hdt) ⟨.none,.none,?_⟩ q)
  rw[←hsz]
  exact Heap.get?_push_size _ rfl
 show wpAny _ _ (callWith cpos (.builtin "dict.items") [.ref d] [] []) _ X.xe s1
 exact method_meetsIn F.slot_dict_items F.entry_dict_items rfl (PySem.evalArgs_none ⟨rfl,hE.typeIs,F.args_dict_items_1 _,_,mV d hs,⟨es,ep,hE⟩,fin⟩)
def rInD(K:Frag):R2:=fun x y H Q=>∃ d ds,Dp K H x d∧Dp K H y (.tuple ds)∧PyData.canLayAll0 ds=true∧d.canLay0=true∧d.depth≤60∧Q (.bl (ds.any fun z=>z.eqv d)) H
theorem op_inD{X:Cx}(hu:X.A.units+64 < cLine):OpR X (compareOp .In) (rInD X.K):=by
 intro pins s σ H x y v u Q I rx ry h
 obtain⟨d,ds,hd,he,cl,cd,dp,q⟩:=h
 obtain⟨as,r1⟩:=Dp.reads I d x v hd rx
 obtain⟨bs,r2⟩:=Dp.reads I _ y u he ry
 refine SeqAt.in_tuple_reads r2 r1 cl cd ?_ ⟨.bl _,H,I,rfl,q⟩
 have:min (PyData.depthAll ds) d.depth≤d.depth:=Nat.min_le_right _ _
 omega
end L2
namespace Mm
open VapktBase
theorem gn(a b:Nat):PySem.Builtin.bitAnd (a:Int) (b:Int)=((Nat.land a b:Nat):Int):=by
 rw[PyProof.Rows.bitAnd_pp (by omega) (by omega),Int.toNat_natCast,Int.toNat_natCast]
 rfl
theorem wN(h m b:Nat)(hb:Nat.land b m=b):(h:Int) - ((Nat.land h m:Nat):Int)+(b:Int)=((rewritten ⟨m,b⟩ h:Nat):Int):=by
 have hb':b &&& m=b:=hb
 have e1:(h ^^^ (h &&& m)) ^^^ (h &&& m)=h:=by rw[Nat.xor_assoc,Nat.xor_self,Nat.xor_zero]
 have z1:(h ^^^ (h &&& m)) &&& (h &&& m)=0:=by
  apply Nat.eq_of_testBit_eq
  intro i
  simp only[Nat.testBit_and,Nat.testBit_xor,Nat.zero_testBit]
  cases h.testBit i<;>cases m.testBit i<;>rfl
 have k1:=Bits.nat_xor_add_and (h ^^^ (h &&& m)) (h &&& m)
 rw[e1,z1] at k1
 have z2:(h ^^^ (h &&& m)) &&& b=0:=by
  apply Nat.eq_of_testBit_eq
  intro i
  have hbi:(b.testBit i && m.testBit i)=b.testBit i:=by rw[←Nat.testBit_and,hb']
  simp only[Nat.testBit_and,Nat.testBit_xor,Nat.zero_testBit]
  revert hbi
  cases h.testBit i<;>cases m.testBit i<;>cases b.testBit i<;>simp
 have k2:=Bits.nat_xor_add_and (h ^^^ (h &&& m)) b
 rw[z2] at k2
 have e2:(h ^^^ (h &&& m)) ||| b=(h ^^^ (h &&& m)) ^^^ b:=by
  apply Nat.eq_of_testBit_eq
  intro i
  have zi:((h ^^^ (h &&& m)).testBit i && b.testBit i)=false:=by rw[←Nat.testBit_and,z2,Nat.zero_testBit]
  simp only[Nat.testBit_or,Nat.testBit_xor] at zi ⊢
  revert zi
  cases h.testBit i<;>cases (h &&& m).testBit i<;>cases b.testBit i<;>simp
 have e3:rewritten ⟨m,b⟩ h=(h ^^^ (h &&& m)) ||| b:=rfl
 rw[e3,e2]
 have e4:(Nat.land h m:Nat)=h &&& m:=rfl
 rw[e4]
 omega
def setN:List Bool→Nat
 | []=>0
 | b::r=>(if b then 1 else 0)+2*setN r
theorem rf:∀ l:List Bool,setN l < 2 ^ l.length
 | []=>by decide
 | b::r=>by
  have:=rf r
  rw[length_cons,Nat.pow_succ]
  show(if b then 1 else 0)+2*setN r < _
  split<;>omega
theorem iz:∀ a b:List Bool,setN (a++b)=setN a+2 ^ a.length*setN b
 | [],b=>by simp[setN]
 | x::a,b=>by
  show(if x then 1 else 0)+2*setN (a++b)=(if x then 1 else 0)+2*setN a+2 ^ (a.length+1)*setN b
  rw[iz a b,Nat.pow_succ,Nat.mul_add,←Nat.mul_assoc,Nat.mul_comm (2 ^ a.length) 2]
  omega
theorem jt:∀ {a b:List Bool},a.length=b.length→setN a=setN b→a=b
 | [],[],_,_=>rfl
 | [],_::_,h,_=>by cases h
 | _::_,[],h,_=>by cases h
 | x::a,y::b,h,e=>by
  have e:(if x then 1 else 0)+2*setN a=(if y then 1 else 0)+2*setN b:=e
  have l:a.length=b.length:=by simpa using h
  cases x<;>cases y<;>simp at e
  ·rw[jt l (by omega)]
  ·omega
  ·omega
  ·rw[jt l (by omega)]
theorem nL:∀ (l:List Bool) (i:Nat),(setN l).testBit i=l.getD i false
 | [],i=>by simp[setN]
 | b::r,0=>by
  show((if b then 1 else 0)+2*setN r).testBit 0=b
  rw[Nat.testBit_zero]
  cases b<;>simp<;>omega
 | b::r,i+1=>by
  show((if b then 1 else 0)+2*setN r).testBit (i+1)=r.getD i false
  rw[Nat.testBit_succ,←nL r i]
  congr 1
  cases b<;>simp<;>omega
def cn:Nat→List Bool→List Pattern
 | 0,l=>if l.getD 0 false then[⟨0,0⟩] else[]
 | w+1,l=>if l.take (2 ^ w)=l.drop (2 ^ w) then cn w (l.take (2 ^ w))
  else(cn w (l.take (2 ^ w))).map (fun p=>⟨p.told+2 ^ w,p.bits⟩)++(cn w (l.drop (2 ^ w))).map fun p=>⟨p.told+2 ^ w,p.bits+2 ^ w⟩
theorem m8:∀ (w:Nat) (l:List Bool),l.length=2 ^ w→formOf w (setN l)=cn w l
 | 0,l,h=>by
  match l,h with
  | [b],_=>cases b<;>rfl
 | w+1,l,h=>by
  have h1:(l.take (2 ^ w)).length=2 ^ w:=by rw[length_take,h,Nat.pow_succ];omega
  have h2:(l.drop (2 ^ w)).length=2 ^ w:=by rw[length_drop,h,Nat.pow_succ];omega
  have e:setN l=setN (l.take (2 ^ w))+2 ^ (2 ^ w)*setN (l.drop (2 ^ w)):=by
   conv=>lhs;rw[←List.take_append_drop (2 ^ w) l]
   rw[iz,h1]
  have lt:=rf (l.take (2 ^ w))
  rw[h1] at lt
  have lo:setN l % 2 ^ headers w=setN (l.take (2 ^ w)):=by
   unfold headers
   rw[e,Nat.add_mul_mod_self_left,Nat.mod_eq_of_lt lt]
  have hi:setN l / 2 ^ headers w=setN (l.drop (2 ^ w)):=by
   unfold headers
   rw[e,Nat.add_mul_div_left _ _ (Nat.two_pow_pos _),Nat.div_eq_of_lt lt,Nat.zero_add]
  show(if setN l % 2 ^ headers w=setN l / 2 ^ headers w then formOf w (setN l % 2 ^ headers w) else _)=_
  rw[lo,hi,m8 w _ h1,m8 w _ h2]
  show _=(if l.take (2 ^ w)=l.drop (2 ^ w) then _ else _)
  by_cases q:l.take (2 ^ w)=l.drop (2 ^ w)
  ·rw[if_pos q,if_pos (by rw[q])]
  ·rw[if_neg q,if_neg (fun z=>q (jt (h1.trans h2.symm) z))]
theorem dH:∀ (w:Nat) (l:List Bool),(cn w l).length≤2 ^ w
 | 0,l=>by
  show(if l.getD 0 false then[(⟨0,0⟩:Pattern)] else[]).length≤1
  split<;>simp
 | w+1,l=>by
  have i1:=dH w (l.take (2 ^ w))
  have i2:=dH w (l.drop (2 ^ w))
  rw[Nat.pow_succ]
  unfold cn
  split
  ·omega
  ·rw[length_append,length_map,length_map]
   omega
def aT(w:Nat)(s:Set_):List Bool:=(List.range (2 ^ w)).map fun h=>s.testBit h
theorem px(w:Nat)(s:Set_):(aT w s).length=2 ^ w:=by simp[aT]
theorem pN{w:Nat}{s:Set_}(h:s < 2 ^ (2 ^ w)):setN (aT w s)=s:=by
 apply Nat.eq_of_testBit_eq
 intro i
 rw[nL]
 unfold aT
 rw[List.getD_eq_getElem?_getD,getElem?_map]
 by_cases hi:i < 2 ^ w
 ·rw[getElem?_range hi]
  rfl
 ·rw[getElem?_eq_none (by simpa using hi)]
  symm
  exact Nat.testBit_lt_two_pow (Nat.lt_of_lt_of_le h (Nat.pow_le_pow_right (by decide) (by omega)))
theorem kQ:∀ (w:Nat) (s:Set_),((aT w s).count true)=VapktBase.size w s:=by
 intro w s
 unfold aT VapktBase.size members headers
 rw[List.count_eq_countP,List.countP_map,List.countP_eq_length_filter]
 congr 1
 apply List.filter_congr
 intro x _
 show(s.testBit x == true)=has s x
 unfold has
 cases s.testBit x<;>rfl
theorem jr(f:Nat→Bool):∀ (n:Nat) (s0:Set_) (i:Nat),((List.range n).foldl (fun s h=>if f h then Nat.lor s (2 ^ h) else s) s0).testBit i=(s0.testBit i || (decide (i < n) && f i))
 | 0,s0,i=>by simp
 | n+1,s0,i=>by
  rw[List.range_succ,List.foldl_append]
  show(if f n then Nat.lor _ (2 ^ n) else _).testBit i=_
  have ih:=jr f n s0 i
  by_cases hf:f n
  ·rw[if_pos hf]
   show(_ ||| 2 ^ n).testBit i=_
   rw[Nat.testBit_or,ih,Nat.testBit_two_pow]
   by_cases e:n=i
   ·subst e
    simp[hf]
   ·have:(decide (i < n+1))=decide (i < n):=by
     rw[decide_eq_decide]
     omega
    rw[this]
    simp[e]
  ·rw[if_neg hf,ih]
   by_cases e:i=n
   ·subst e
    simp[hf]
   ·have:(decide (i < n+1))=decide (i < n):=by
     rw[decide_eq_decide]
     omega
    rw[this]
theorem gL(w:Nat)(f:Nat→Bool)(i:Nat):(setOf w f).testBit i=(decide (i < 2 ^ w) && f i):=by
 unfold setOf headers
 rw[jr,Nat.zero_testBit,Bool.false_or]
theorem fQ{s n:Nat}(h:∀ i,n≤i→s.testBit i=false):s < 2 ^ n:=Nat.lt_pow_two_of_testBit _ fun i hi=>h i hi
theorem nJ(w:Nat)(f:Nat→Bool):setOf w f < 2 ^ (2 ^ w):=fQ fun i hi=>by
 rw[gL]
 have:decide (i < 2 ^ w)=false:=decide_eq_false (by omega)
 rw[this,Bool.false_and]
theorem iV(w:Nat)(f:Nat→Bool):aT w (setOf w f)=(List.range (2 ^ w)).map f:=by
 unfold aT
 apply map_congr_left
 intro i hi
 rw[gL,decide_eq_true (mem_range.mp hi),Bool.true_and]
end Mm
namespace Mw
open VapktBase
structure WF(n:Net):Prop where
 w1:1≤n.wide
 w7:n.wide≤7
 t1:1≤n.tables.length
 t5:n.tables.length≤5
 rules:∀ t∈n.tables,t.length≤8
 send:∀ t∈n.tables,∀ r∈t,∀ rw p,r.action=.send rw p→Nat.land rw.bits rw.mask=rw.bits∧rw.mask < 2 ^ n.wide∧rw.bits < 2 ^ n.wide∧p≤5
 pat:∀ t∈n.tables,∀ r∈t,r.pattern.told < 2 ^ n.wide∧r.pattern.bits < 2 ^ n.wide
 l10:n.links.length≤10
 ports:∀ l∈n.links,l.1.switch < n.tables.length∧l.1.port≤5∧l.2.switch < n.tables.length∧l.2.port≤5
 apart:linksApart n.links=true
def InU(n:Net)(x:Packet):Prop:=x.switch < n.tables.length∧x.header < 2 ^ n.wide
theorem iL{n:Net}{x:Packet}:x∈Vapktc.packets n↔InU n x:=by
 unfold Vapktc.packets InU headers
 rw[mem_flatMap]
 constructor
 ·rintro⟨s,hs,h⟩
  obtain⟨k,hk,rfl⟩:=mem_map.mp h
  exact⟨mem_range.mp hs,mem_range.mp hk⟩
 ·rintro⟨h1,h2⟩
  exact⟨x.switch,mem_range.mpr h1,mem_map.mpr ⟨x.header,mem_range.mpr h2,rfl⟩⟩
theorem oy(n:Net):(Vapktc.packets n).length=n.tables.length*2 ^ n.wide:=by
 unfold Vapktc.packets headers
 have:∀ k:Nat,((List.range k).flatMap fun s=>(List.range (2 ^ n.wide)).map fun h=>(⟨s,h⟩:Packet)).length=k*2 ^ n.wide:=by
  intro k
  induction k with
  | zero=>simp
  | succ k ih=>
   rw[List.range_succ,flatMap_append,length_append,ih]
   simp[Nat.succ_mul]
 exact this _
theorem kM(n:Net):(Vapktc.packets n).Nodup:=by
 unfold Vapktc.packets
 have inj:∀ s:Nat,((List.range (headers n.wide)).map fun h=>(⟨s,h⟩:Packet)).Nodup:=fun s=>by
  rw[List.Nodup,List.pairwise_map]
  exact(List.nodup_range (n:=headers n.wide)).imp fun h e=>h (by injection e)
 have:∀ k:Nat,((List.range k).flatMap fun s=>(List.range (headers n.wide)).map fun h=>(⟨s,h⟩:Packet)).Nodup:=by
  intro k
  induction k with
  | zero=>simp
  | succ k ih=>
   rw[List.range_succ,flatMap_append]
   refine nodup_append.mpr ⟨ih,by simpa using inj k,fun a ha b hb e=>?_⟩
   subst e
   obtain⟨s,hs,h⟩:=mem_flatMap.mp ha
   obtain⟨x,_,rfl⟩:=mem_map.mp h
   simp at hb
   have:=mem_range.mp hs
   omega
 exact this _
theorem few{n:Net}{l:List Packet}(nd:l.Nodup)(h:∀ x∈l,InU n x):l.length≤n.tables.length*2 ^ n.wide:=by
 rw[←oy n]
 have gen:∀ (l m:List Packet),l.Nodup→(∀ x∈l,x∈m)→l.length≤m.length:=by
  intro l
  induction l with
  | nil=>intro m _ _;simp
  | cons a l ih=>
   intro m nd h
   obtain⟨h1,h2⟩:=List.nodup_cons.mp nd
   have ha:a∈m:=h a (by simp)
   have:=ih (m.erase a) h2 fun x hx=>(List.mem_erase_of_ne (a:=x) (b:=a) (fun e=>h1 (by rw[←e];exact hx))).mpr (h x (by simp[hx]))
   rw[List.length_erase_of_mem ha] at this
   have:0 < m.length:=List.length_pos_of_mem ha
   simp
   omega
 exact gen l _ nd fun x hx=>iL.mpr (h x hx)
theorem gH{n:Net}{s:Nat}(h:s < n.tables.length):n.table s∈n.tables:=by
 unfold Net.table
 rw[getElem?_eq_getElem h]
 exact List.getElem_mem h
theorem eg{t:Table}{h i:Nat}(e:ruleFor t h=some i):∃ r,t[i]?=some r∧matchesIt r.pattern h=true:=by
 unfold ruleFor at e
 obtain⟨hi,h1,_⟩:=List.findIdx?_eq_some_iff_getElem.mp e
 exact⟨t[i],getElem?_eq_getElem hi,h1⟩
theorem xm{n:Net}(W:WF n){p q:Port}(h:linkFrom n p=some q):q.switch < n.tables.length:=by
 unfold linkFrom at h
 obtain⟨l,hl,e⟩:=List.exists_of_findSome?_eq_some h
 have:=W.ports l hl
 split at e
 ·cases e
  exact this.2.2.1
 ·split at e
  ·cases e
   exact this.1
  ·cases e
theorem uP{w:Nat}{r:Rewrite}{h:Nat}(hh:h < 2 ^ w)(hb:r.bits < 2 ^ w):rewritten r h < 2 ^ w:=by
 unfold rewritten
 have h1:Nat.land h r.mask < 2 ^ w:=Nat.lt_of_le_of_lt Nat.and_le_left hh
 exact Nat.or_lt_two_pow (Nat.xor_lt_two_pow hh h1) hb
theorem cx{n:Net}(W:WF n){x y:Packet}(hx:InU n x)(h:stepOf n x=.ok y):InU n y:=by
 unfold stepOf at h
 split at h
 ·cases h
 ·rename_i i hi
  obtain⟨r,hr,_⟩:=eg hi
  have hm:r∈n.table x.switch:=mem_of_getElem? hr
  unfold actionAt at h
  rw[hr] at h
  simp only[Option.map_some,Option.getD_some] at h
  split at h
  ·rename_i rw p ha
   have s:=W.send _ (gH hx.1) r hm rw p ha
   split at h
   ·cases h
   ·rename_i q hq
    cases h
    exact⟨xm W hq,uP hx.2 s.2.2.1⟩
  ·cases h
theorem jm{n:Net}{x:Packet}:stepOf n x≠.error .round:=by
 unfold stepOf
 split
 ·intro h;cases h
 ·split
  ·split
   ·intro h;cases h
   ·intro h;cases h
  ·intro h;cases h
inductive ba(n:Net):List Packet→Packet→List Packet→End_→Prop
 | stop {been:List Packet} {x:Packet} {e:End_}:x ∉ been→stepOf n x=.error e→ba n been x [x] e
 | round {been:List Packet} {x:Packet}:x∈been→ba n been x [] .round
 | step {been:List Packet} {x y:Packet} {l:List Packet} {e:End_}:x ∉ been→stepOf n x=.ok y→ba n (been++[x]) y l e→ba n been x (x::l) e
theorem ba.way{n:Net}{been:List Packet}{x:Packet}{l:List Packet}{e:End_}(c:ba n been x l e):∀ f,l.length < f→wayFrom n f been x=⟨been++l,e⟩:=by
 induction c with
 | stop h s=>
  intro f hf
  cases f with
  | zero=>simp at hf
  | succ f=>
   unfold wayFrom
   rw[if_neg (by simpa using h),s]
 | round h=>
  intro f hf
  cases f with
  | zero=>simp at hf
  | succ f=>
   unfold wayFrom
   rw[if_pos (by simpa using h),append_nil]
 | step h s c ih=>
  intro f hf
  cases f with
  | zero=>simp at hf
  | succ f=>
   unfold wayFrom
   rw[if_neg (by simpa using h),s]
   have:=ih f (by simpa using hf)
   rw[append_assoc] at this
   exact this
theorem ba.nodup{n:Net}{been:List Packet}{x:Packet}{l:List Packet}{e:End_}(c:ba n been x l e):been.Nodup→(been++l).Nodup:=by
 induction c with
 | stop h s=>
  intro nd
  exact nodup_append.mpr ⟨nd,by simp,fun a ha b hb e=>by simp at hb;subst hb;subst e;exact h ha⟩
 | round h=>
  intro nd
  rw[append_nil]
  exact nd
 | step h s c ih=>
  intro nd
  have:=ih (nodup_append.mpr ⟨nd,by simp,fun a ha b hb e=>by simp at hb;subst hb;subst e;exact h ha⟩)
  rw[append_assoc] at this
  exact this
theorem ba.inU{n:Net}(W:WF n){been:List Packet}{x:Packet}{l:List Packet}{e:End_}(c:ba n been x l e):InU n x→∀ y∈l,InU n y:=by
 induction c with
 | stop h s=>
  intro hx y hy
  simp at hy
  rw[hy]
  exact hx
 | round h=>
  intro _ y hy
  cases hy
 | step h s c ih=>
  intro hx y hy
  rcases mem_cons.mp hy with e | hy
  ·rw[e]
   exact hx
  ·exact ih (cx W hx s) y hy
theorem pi{n:Net}(W:WF n):∀ (k:Nat) (been:List Packet) (x:Packet),been.Nodup→(∀ y∈been,InU n y)→InU n x→n.tables.length*2 ^ n.wide - been.length≤k→∃ l e,ba n been x l e:=by
 intro k
 induction k with
 | zero=>
  intro been x nd hb hx hk
  by_cases h:x∈been
  ·exact⟨_,_,.round h⟩
  ·have:=few (n:=n) (l:=been++[x]) (nodup_append.mpr ⟨nd,by simp,fun a ha b hb e=>by simp at hb;subst hb;subst e;exact h ha⟩) (fun y hy=>by
    rcases mem_append.mp hy with z | z
    ·exact hb y z
    ·simp at z
     rw[z]
     exact hx)
   rw[length_append] at this
   simp at this
   omega
 | succ k ih=>
  intro been x nd hb hx hk
  by_cases h:x∈been
  ·exact⟨_,_,.round h⟩
  ·cases s:stepOf n x with
   | error e=>exact⟨_,_,.stop h s⟩
   | ok y=>
    have nd2:(been++[x]).Nodup:=nodup_append.mpr ⟨nd,by simp,fun a ha b hb e=>by simp at hb;subst hb;subst e;exact h ha⟩
    have hb2:∀ y∈been++[x],InU n y:=fun y hy=>by
     rcases mem_append.mp hy with z | z
     ·exact hb y z
     ·simp at z
      rw[z]
      exact hx
    have:=few nd2 hb2
    obtain⟨l,e,c⟩:=ih (been++[x]) y nd2 hb2 (cx W hx s) (by rw[length_append] at *;simp at *;omega)
    exact⟨_,_,.step h s c⟩
theorem bc{n:Net}(W:WF n){x:Packet}(hx:InU n x):∃ l e,ba n [] x l e∧wayOf n x=⟨l,e⟩:=by
 obtain⟨l,e,c⟩:=pi W _ [] x nodup_nil (fun y hy=>by cases hy) hx (Nat.le_refl _)
 refine⟨l,e,c,?_⟩
 have nd:=c.nodup nodup_nil
 have:=few (n:=n) (l:=l) (by simpa using nd) (c.inU W hx)
 have:=c.way (enough n) (by unfold enough headers;omega)
 rw[nil_append] at this
 exact this
theorem ba.less{n:Net}{a y0:Packet}(ha:stepOf n a=.ok y0):∀ {been:List Packet} {x:Packet} {l:List Packet} {e:End_},ba n (a::been) x l e→(y0∈been∨y0∈l∨y0=a∨y0=x)→a ∉ been→ba n been x l e∨(e=.round∧ba n been x (l++[a]) .round):=by
 intro been x l e c
 generalize hb:a::been=B at c
 induction c generalizing been with
 | stop h s=>
  intro _ _
  subst hb
  exact .inl (.stop (fun z=>h (mem_cons_of_mem _ z)) s)
 | round h=>
  intro hy na
  subst hb
  rcases mem_cons.mp h with z | z
  ·subst z
   refine .inr ⟨rfl,?_⟩
   rw[nil_append]
   refine .step na ha (.round ?_)
   rcases hy with z | z | z | z
   ·exact mem_append_left _ z
   ·cases z
   ·simp[z]
   ·simp[z]
  ·exact .inl (.round z)
 | step h s c ih=>
  rename_i B' x' y' l' e'
  intro hy na
  subst hb
  have nx:x' ∉ been:=fun z=>h (mem_cons_of_mem _ z)
  have nax:a≠x':=fun z=>h (by simp[z])
  have hy':y0∈been++[x']∨y0∈l'∨y0=a∨y0=y':=by
   rcases hy with z | z | z | z
   ·exact .inl (mem_append_left _ z)
   ·rcases mem_cons.mp z with z | z
    ·exact .inl (by simp[z])
    ·exact .inr (.inl z)
   ·exact .inr (.inr (.inl z))
   ·exact .inl (by simp[z])
  rcases ih (been:=been++[x']) (by simp) hy' (by simp[na,nax]) with z | ⟨z1,z2⟩
  ·exact .inl (.step nx s z)
  ·exact .inr ⟨z1,.step nx s z2⟩
theorem dI{n:Net}:∀ {been:List Packet} {x:Packet} {l l':List Packet} {e e':End_},ba n been x l e→ba n been x l' e'→l=l'∧e=e':=by
 intro been x l l' e e' c c'
 have h1:=c.way (l.length+l'.length+1) (by omega)
 have h2:=c'.way (l.length+l'.length+1) (by omega)
 rw[h1] at h2
 injection h2 with h2 h3
 exact⟨List.append_cancel_left h2,h3⟩
theorem ug{n:Net}(W:WF n){x y:Packet}(hx:InU n x)(s:stepOf n x=.ok y):endOf n x=endOf n y∧∃ l,(wayOf n x).packets=x::l∧((wayOf n y).packets=l∨(wayOf n y).packets=l++[x]):=by
 obtain⟨l,e,c,hw⟩:=bc W hx
 obtain⟨l2,e2,c2,hw2⟩:=bc W (cx W hx s)
 unfold endOf
 rw[hw,hw2]
 cases c with
 | stop h s'=>
  rw[s] at s'
  cases s'
 | round h=>cases h
 | step h s' c'=>
  rename_i y' l'
  rw[s] at s'
  cases s'
  rw[nil_append] at c'
  rcases ba.less s (been:=[]) c' (by simp) (by simp) with z | ⟨z1,z2⟩
  ·obtain⟨e1,e2'⟩:=dI c2 z
   exact⟨e2'.symm,l',rfl,.inl e1⟩
  ·obtain⟨e1,e2'⟩:=dI c2 z2
   exact⟨by rw[e2',z1],l',rfl,.inr e1⟩
theorem nr{n:Net}{x:Packet}{e:End_}(s:stepOf n x=.error e):wayOf n x=⟨[x],e⟩:=by
 have:enough n=(n.tables.length*headers n.wide)+1:=rfl
 unfold wayOf
 rw[this]
 unfold wayFrom
 rw[if_neg (by simp),s]
 rfl
def fsW{α:Type}(n:Net)(st:Packet→Option α)(ov:α)(x:Packet):α:=((wayOf n x).packets.findSome? st).getD ov
theorem vY{α:Type}{n:Net}(W:WF n){st:Packet→Option α}{ov:α}{x:Packet}(hx:InU n x):fsW n st ov x=match st x with
  | some v=>v
  | none=>match stepOf n x with
   | .error _=>ov
   | .ok y=>fsW n st ov y:=by
 cases s:stepOf n x with
 | error e=>
  unfold fsW
  rw[nr s]
  simp only[List.findSome?_cons,List.findSome?_nil]
  cases st x<;>rfl
 | ok y=>
  obtain⟨_,l,h1,h2⟩:=ug W hx s
  unfold fsW
  rw[h1,List.findSome?_cons]
  cases hs:st x with
  | some v=>rfl
  | none=>
   simp only
   rcases h2 with z | z
   ·rw[z]
   ·rw[z,List.findSome?_append,List.findSome?_cons,hs]
    simp
theorem qM{α:Type}{n:Net}(W:WF n){st:Packet→Option α}{ov:α}{T:List Packet}(hT:∀ x∈T,InU n x∧st x=none∧∃ y,stepOf n x=.ok y∧y∈T){x:Packet}(hx:x∈T):fsW n st ov x=ov:=by
 obtain⟨l,e,c,hw⟩:=bc W (hT x hx).1
 have all:∀ {been:List Packet} {x:Packet} {l:List Packet} {e:End_},ba n been x l e→x∈T→∀ y∈l,y∈T:=by
  intro been x l e c
  induction c with
  | stop h s=>
   intro hx y hy
   simp at hy
   rw[hy]
   exact hx
  | round h=>
   intro _ y hy
   cases hy
  | step h s c ih=>
   intro hx y hy
   rcases mem_cons.mp hy with e | hy
   ·rw[e]
    exact hx
   ·obtain⟨_,_,y',s',h'⟩:=hT _ hx
    rw[s] at s'
    cases s'
    exact ih h' y hy
 unfold fsW
 rw[hw]
 have:l.findSome? st=none:=List.findSome?_eq_none_iff.mpr fun y hy=>(hT y (all c hx y hy)).2.1
 rw[this]
 rfl
end Mw
namespace Ms
open VapktBase
def Inv{A:Type}(r:Reader A)(fl:A→List Int)(P:A→Prop):Prop:=∀ x a t,r x=some (a,t)→x=fl a++t∧P a
theorem cQ(lo hi:Nat):Inv (readNat lo hi) (fun a=>[int a]) (fun a=>lo≤a∧a≤hi):=by
 intro x a t h
 cases x with
 | nil=>cases h
 | cons z r=>
  unfold readNat at h
  simp only at h
  split at h
  ·rename_i hz
   cases h
   unfold int at hz
   have:((z.toNat:Nat):Int)=z:=Int.toNat_of_nonneg (by omega)
   refine⟨?_,by omega,by omega⟩
   show z::t=int z.toNat::t
   unfold int
   rw[this]
  ·cases h
theorem eK{A B:Type}{a:Reader A}{b:Reader B}{fa:A→List Int}{fb:B→List Int}{P:A→Prop}{Q:B→Prop}(ha:Inv a fa P)(hb:Inv b fb Q):Inv (readPair a b) (fun u=>fa u.1++fb u.2) (fun u=>P u.1∧Q u.2):=by
 intro x u t h
 unfold readPair at h
 obtain⟨u1,h1,h2⟩:=Option.bind_eq_some_iff.mp h
 obtain⟨v,h3,h4⟩:=Option.map_eq_some_iff.mp h2
 cases h4
 obtain⟨e1,p1⟩:=ha _ _ _ h1
 obtain⟨e2,p2⟩:=hb _ _ _ h3
 refine⟨?_,p1,p2⟩
 rw[e1,e2,append_assoc]
theorem lV{A:Type}{a:Reader A}{fa:A→List Int}{P:A→Prop}(ha:Inv a fa P):∀ n,Inv (readTimes a n) (fun l=>l.flatMap fa) (fun l=>l.length=n∧∀ y∈l,P y):=by
 intro n
 induction n with
 | zero=>
  intro x l t h
  unfold readTimes at h
  cases h
  exact⟨by simp,rfl,fun y hy=>by cases hy⟩
 | succ n ih=>
  intro x l t h
  unfold readTimes at h
  obtain⟨u1,h1,h2⟩:=Option.bind_eq_some_iff.mp h
  obtain⟨v,h3,h4⟩:=Option.map_eq_some_iff.mp h2
  cases h4
  obtain⟨e1,p1⟩:=ha _ _ _ h1
  obtain⟨e2,p2,p3⟩:=ih _ _ _ h3
  refine⟨?_,by simp[p2],fun y hy=>?_⟩
  ·rw[e1,e2]
   dsimp only
   rw[List.flatMap_cons,append_assoc]
  ·rcases mem_cons.mp hy with e | hy
   ·rw[e]
    exact p1
   ·exact p3 y hy
theorem kj{A:Type}{a:Reader A}{fa:A→List Int}{P:A→Prop}(ha:Inv a fa P)(most:Nat):Inv (readListed most a) (fun l=>int l.length::l.flatMap fa) (fun l=>l.length≤most∧∀ y∈l,P y):=by
 intro x l t h
 unfold readListed at h
 obtain⟨u,h1,h2⟩:=Option.bind_eq_some_iff.mp h
 obtain⟨e1,_,p1⟩:=cQ _ _ _ _ _ h1
 obtain⟨e2,p2,p3⟩:=lV ha _ _ _ _ h2
 refine⟨?_,by omega,p3⟩
 rw[e1,e2]
 dsimp only
 rw[p2]
 rfl
def PatOk(w:Nat)(p:Pattern):Prop:=Nat.land p.bits p.told=p.bits∧p.told < 2 ^ w∧p.bits < 2 ^ w
theorem iQ(w:Nat):Inv (readPattern w) flatPattern (PatOk w):=by
 intro x p t h
 unfold readPattern at h
 obtain⟨u,h1,h2⟩:=Option.bind_eq_some_iff.mp h
 split at h2
 ·rename_i hb
  cases h2
  obtain⟨e,p1,p2⟩:=eK (cQ _ _) (cQ _ _) _ _ _ h1
  have:0 < headers w:=Nat.two_pow_pos w
  refine⟨e,hb,?_,?_⟩
  ·show u.1.1 < headers w
   omega
  ·show u.1.2 < headers w
   omega
 ·cases h2
def RewOk(w:Nat)(r:Rewrite):Prop:=Nat.land r.bits r.mask=r.bits∧r.mask < 2 ^ w∧r.bits < 2 ^ w
theorem oY(w:Nat):Inv (readRewrite w) (fun r=>[int r.mask,int r.bits]) (RewOk w):=by
 intro x p t h
 unfold readRewrite at h
 obtain⟨u,h1,h2⟩:=Option.map_eq_some_iff.mp h
 cases h2
 obtain⟨e,p1⟩:=iQ w _ _ _ h1
 exact⟨e,p1⟩
def ActOk(w:Nat)(a:Action):Prop:=∀ rw p,a=.send rw p→RewOk w rw∧p≤5
theorem qJ(w:Nat):Inv (readAction w) flatAction (ActOk w):=by
 intro x a t h
 unfold readAction at h
 split at h
 ·cases h
  exact⟨rfl,fun rw p e=>by cases e⟩
 ·rename_i r
  obtain⟨u,h1,h2⟩:=Option.map_eq_some_iff.mp h
  cases h2
  obtain⟨e,p1,p2⟩:=eK (oY w) (cQ _ _) _ _ _ h1
  refine⟨?_,fun rw p z=>?_⟩
  ·rw[e]
   rfl
  ·cases z
   exact⟨p1,p2.2⟩
 ·cases h
def wA(w:Nat)(r:Rule):Prop:=PatOk w r.pattern∧ActOk w r.action
theorem vS(w:Nat):Inv (readRule w) flatRule (wA w):=by
 intro x a t h
 unfold readRule at h
 obtain⟨u,h1,h2⟩:=Option.map_eq_some_iff.mp h
 cases h2
 exact eK (iQ w) (qJ w) _ _ _ h1
theorem tV(w:Nat):Inv (readTable w) flatTable (fun t=>t.length≤8∧∀ r∈t,wA w r):=kj (vS w) _
theorem oZ(k:Nat):Inv (readPort k) flatPort (fun p=>p.switch≤k - 1∧p.port≤5):=by
 intro x a t h
 unfold readPort at h
 obtain⟨u,h1,h2⟩:=Option.map_eq_some_iff.mp h
 cases h2
 obtain⟨e,p1,p2⟩:=eK (cQ _ _) (cQ _ _) _ _ _ h1
 exact⟨e,p1.2,p2.2⟩
theorem xp:Inv readNet flatNet Mw.WF:=by
 intro x n t h
 unfold readNet at h
 obtain⟨w,h1,h⟩:=Option.bind_eq_some_iff.mp h
 obtain⟨k,h2,h⟩:=Option.bind_eq_some_iff.mp h
 obtain⟨ts,h3,h⟩:=Option.bind_eq_some_iff.mp h
 obtain⟨l,h4,h⟩:=Option.bind_eq_some_iff.mp h
 split at h
 ·rename_i ap
  cases h
  obtain⟨e1,a1,b1⟩:=cQ _ _ _ _ _ h1
  obtain⟨e2,a2,b2⟩:=cQ _ _ _ _ _ h2
  obtain⟨e3,a3,b3⟩:=lV (tV w.1) _ _ _ _ h3
  obtain⟨e4,a4,b4⟩:=kj (eK (oZ k.1) (oZ k.1)) _ _ _ _ h4
  have b1':w.1≤7:=b1
  have b2':k.1≤5:=b2
  have a4':l.1.length≤10:=a4
  refine⟨?_,⟨a1,b1',by show 1≤ts.1.length;omega,by show ts.1.length≤5;omega,fun q hq=>(b3 q hq).1,?_,?_,a4',?_,ap⟩⟩
  ·show x=int w.1::int ts.1.length::(_++(_::_))++_
   rw[e1,e2,e3,e4,a3]
   simp[append_assoc]
  ·intro q hq r hr rw p e
   have:=(b3 q hq).2 r hr
   exact⟨(this.2 rw p e).1.1,(this.2 rw p e).1.2.1,(this.2 rw p e).1.2.2,(this.2 rw p e).2⟩
  ·intro q hq r hr
   have:=(b3 q hq).2 r hr
   exact⟨this.1.2.1,this.1.2.2⟩
  ·intro e he
   have:=b4 e he
   show e.1.switch < ts.1.length∧e.1.port≤5∧e.2.switch < ts.1.length∧e.2.port≤5
   omega
 ·cases h
theorem vG{x:List Int}{n:Net}(h:netOf x=some n):x=flatNet n∧Mw.WF n:=by
 unfold netOf at h
 split at h
 ·rename_i m e
  cases h
  have:=xp _ _ _ e
  rw[append_nil] at this
  exact this
 ·cases h
end Ms
namespace Ms
open VapktBase Mw Mm
theorem t8{n:Net}(W:WF n){been:List Packet}{x:Packet}{l:List Packet}{e:End_}(c:ba n been x l e):InU n x→e=.round∨∃ y∈l,InU n y∧stepOf n y=.error e:=by
 induction c with
 | stop h s=>
  intro hx
  exact .inr ⟨_,by simp,hx,s⟩
 | round h=>
  intro _
  exact .inl rfl
 | step h s c ih=>
  intro hx
  rcases ih (cx W hx s) with z | ⟨y,hy,z⟩
  ·exact .inl z
  ·exact .inr ⟨y,by simp[hy],z⟩
theorem kR{α:Type}{n:Net}{st:Packet→Option α}(hst:∀ y,InU n y→((st y).isSome=true↔∃ e,stepOf n y=.error e))(W:WF n){been:List Packet}{x:Packet}{l:List Packet}{e:End_}(c:ba n been x l e):InU n x→(e=.round∧l.findSome? st=none)∨∃ y v,InU n y∧stepOf n y=.error e∧st y=some v∧l.findSome? st=some v:=by
 induction c with
 | stop h s=>
  intro hx
  rename_i x e
  obtain⟨v,hv⟩:=Option.isSome_iff_exists.mp ((hst x hx).mpr ⟨e,s⟩)
  exact .inr ⟨x,v,hx,s,hv,by rw[List.findSome?_cons,hv]⟩
 | round h=>
  intro _
  exact .inl ⟨rfl,rfl⟩
 | step h s c ih=>
  intro hx
  rename_i x y l e
  have hn:st x=none:=by
   cases hv:st x with
   | none=>rfl
   | some v=>
    obtain⟨e,he⟩:=(hst x hx).mp (by rw[hv];rfl)
    rw[s] at he
    cases he
  rcases ih (cx W hx s) with⟨z1,z2⟩ | ⟨y,v,z1,z2,z3,z4⟩
  ·exact .inl ⟨z1,by rw[List.findSome?_cons,hn];exact z2⟩
  ·exact .inr ⟨y,v,z1,z2,z3,by rw[List.findSome?_cons,hn];exact z4⟩
theorem xu{α:Type}{n:Net}(W:WF n){st:Packet→Option α}(hst:∀ y,InU n y→((st y).isSome=true↔∃ e,stepOf n y=.error e)){ov:α}{x:Packet}(hx:InU n x):(endOf n x=.round∧fsW n st ov x=ov)∨∃ y v,InU n y∧stepOf n y=.error (endOf n x)∧st y=some v∧fsW n st ov x=v:=by
 obtain⟨l,e,c,hw⟩:=bc W hx
 unfold endOf fsW
 rw[hw]
 rcases kR hst W c hx with⟨z1,z2⟩ | ⟨y,v,z1,z2,z3,z4⟩
 ·exact .inl ⟨z1,by rw[z2];rfl⟩
 ·exact .inr ⟨y,v,z1,z2,z3,by rw[z4];rfl⟩
theorem eT{n:Net}(W:WF n){x:Packet}(hx:InU n x):∀ y∈(wayOf n x).packets,InU n y:=by
 obtain⟨l,e,c,hw⟩:=bc W hx
 rw[hw]
 exact c.inU W hx
theorem sC{n:Net}(W:WF n){x:Packet}(hx:InU n x):(wayOf n x).packets.Nodup:=by
 obtain⟨l,e,c,hw⟩:=bc W hx
 rw[hw]
 have:=c.nodup nodup_nil
 rwa [nil_append] at this
theorem wD{n:Net}(W:WF n){x:Packet}(hx:InU n x):(wayOf n x).packets.length≤n.tables.length*2 ^ n.wide:=few (sC W hx) (eT W hx)
theorem sB{n:Net}(W:WF n){x:Packet}(hx:InU n x):(wayOf n x).packets.length≤640:=by
 have h1:=wD W hx
 have h2:2 ^ n.wide≤2 ^ 7:=Nat.pow_le_pow_right (by decide) W.w7
 have h3:n.tables.length*2 ^ n.wide≤5*2 ^ 7:=Nat.mul_le_mul W.t5 h2
 omega
theorem uq{n:Net}(W:WF n){x:Packet}(hx:InU n x){e:End_}(h:stepOf n x=.error e):(∃ p h,e=.exit p h∧p.switch < n.tables.length∧p.port≤5∧h < 2 ^ n.wide∧linkFrom n p=none)∨(∃ s i,e=.dropped s i∧s < n.tables.length∧i < (n.table s).length)∨∃ s,e=.hole s∧s < n.tables.length:=by
 unfold stepOf at h
 split at h
 ·cases h
  exact .inr (.inr ⟨_,rfl,hx.1⟩)
 ·rename_i i hi
  obtain⟨r,hr,_⟩:=eg hi
  have hm:r∈n.table x.switch:=mem_of_getElem? hr
  unfold actionAt at h
  rw[hr] at h
  simp only[Option.map_some,Option.getD_some] at h
  split at h
  ·rename_i rw p ha
   have s:=W.send _ (gH hx.1) r hm rw p ha
   split at h
   ·rename_i hq
    cases h
    exact .inl ⟨_,_,rfl,hx.1,s.2.2.2,uP hx.2 s.2.2.1,hq⟩
   ·cases h
  ·cases h
   exact .inr (.inl ⟨_,_,rfl,hx.1,(List.getElem?_eq_some_iff.mp hr).1⟩)
theorem qO{n:Net}(W:WF n){x:Packet}(hx:InU n x):endOf n x=.round∨(∃ p h,endOf n x=.exit p h∧p.switch < n.tables.length∧p.port≤5∧h < 2 ^ n.wide∧linkFrom n p=none)∨(∃ s i,endOf n x=.dropped s i∧s < n.tables.length∧i < (n.table s).length)∨∃ s,endOf n x=.hole s∧s < n.tables.length:=by
 obtain⟨l,e,c,hw⟩:=bc W hx
 have he:endOf n x=e:=by
  unfold endOf
  rw[hw]
 rw[he]
 rcases t8 W c hx with z | ⟨y,_,z1,z2⟩
 ·exact .inl z
 ·exact .inr (uq W z1 z2)
abbrev lexLt:=HT.lexLt
theorem mZ:∀ a,lexLt a a=false
 | []=>rfl
 | x::a=>by
  show(if x=x then lexLt a a else decide (x < x))=false
  rw[if_pos rfl,mZ a]
theorem lQ:∀ {a b c},lexLt a b=true→lexLt b c=true→lexLt a c=true
 | [],[],_,h,_=>by cases h
 | [],_::_,[],_,h=>by cases h
 | [],_::_,_::_,_,_=>rfl
 | _::_,[],_,h,_=>by cases h
 | _::_,_::_,[],_,h=>by cases h
 | x::a,y::b,z::c,h1,h2=>by
  have h1:(if x=y then lexLt a b else decide (x < y))=true:=h1
  have h2:(if y=z then lexLt b c else decide (y < z))=true:=h2
  show(if x=z then lexLt a c else decide (x < z))=true
  by_cases e1:x=y
  ·rw[if_pos e1] at h1
   by_cases e2:y=z
   ·rw[if_pos e2] at h2
    rw[if_pos (e1.trans e2)]
    exact lQ h1 h2
   ·rw[if_neg e2] at h2
    rw[if_neg (by rw[e1];exact e2),e1]
    exact h2
  ·rw[if_neg e1] at h1
   by_cases e2:y=z
   ·rw[if_neg (by rw[←e2];exact e1),←e2]
    exact h1
   ·rw[if_neg e2] at h2
    have h1:=of_decide_eq_true h1
    have h2:=of_decide_eq_true h2
    rw[if_neg (by omega)]
    exact(decide_eq_true (by omega))
theorem rQ:∀ {a b},lexLt a b=false→a≠b→lexLt b a=true
 | [],[],_,h=>(h rfl).elim
 | [],_::_,h,_=>by cases h
 | _::_,[],_,_=>rfl
 | x::a,y::b,h,hn=>by
  have h:(if x=y then lexLt a b else decide (x < y))=false:=h
  show(if y=x then lexLt b a else decide (y < x))=true
  by_cases e:x=y
  ·rw[if_pos e] at h
   rw[if_pos e.symm]
   exact rQ h fun z=>hn (by rw[e,z])
  ·rw[if_neg e] at h
   have h:=of_decide_eq_false h
   rw[if_neg (fun z=>e z.symm)]
   exact(decide_eq_true (by omega))
theorem li:∀ {a b:List (List Int)},a.Pairwise (fun x y=>lexLt x y=true)→b.Pairwise (fun x y=>lexLt x y=true)→(∀ x,x∈a↔x∈b)→a=b
 | [],[],_,_,_=>rfl
 | [],y::b,_,_,h=>by
  have:=(h y).mpr (by simp)
  cases this
 | x::a,[],_,_,h=>by
  have:=(h x).mp (by simp)
  cases this
 | x::a,y::b,pa,pb,h=>by
  obtain⟨a1,a2⟩:=List.pairwise_cons.mp pa
  obtain⟨b1,b2⟩:=List.pairwise_cons.mp pb
  have e:x=y:=by
   rcases mem_cons.mp ((h x).mp (by simp)) with z | z
   ·exact z
   ·rcases mem_cons.mp ((h y).mpr (by simp)) with z2 | z2
    ·exact z2.symm
    ·have:=lQ (b1 x z) (a1 y z2)
     rw[mZ] at this
     cases this
  subst e
  have nx:∀ c:List (List Int),(∀ y∈c,lexLt x y=true)→x ∉ c:=fun c hc hx=>by
   have:=hc x hx
   rw[mZ] at this
   cases this
  rw[li a2 b2 fun z=>⟨fun hz=>?_,fun hz=>?_⟩]
  ·rcases mem_cons.mp ((h z).mp (by simp[hz])) with q | q
   ·exact(nx a a1 (by rw[←q];exact hz)).elim
   ·exact q
  ·rcases mem_cons.mp ((h z).mpr (by simp[hz])) with q | q
   ·exact(nx b b1 (by rw[←q];exact hz)).elim
   ·exact q
theorem strict{ys ks:List (List Int)}(nd:ks.Nodup)(hp:ys.Perm ks)(h:ys.Pairwise (fun a b=>lexLt b a=false)):ys.Pairwise (fun x y=>lexLt x y=true):=by
 have nd:ys.Nodup:=hp.nodup_iff.mpr nd
 exact List.Pairwise.imp₂ (fun a b h1 h2=>rQ h1 (fun e=>h2 e.symm)) h nd
def e3(e:End_):List Int:=(flatEnd e).take 3
theorem wg{a b:End_}:e3 a=e3 b↔Vapktc.bare a=Vapktc.bare b:=by
 have ii:∀ i j:Nat,(int i=int j)↔i=j:=fun i j=>by unfold int;omega
 cases a<;>cases b<;>simp[e3,flatEnd,Vapktc.bare,ii]<;>(try (rename_i p _ q _;cases p;cases q;simp))
theorem tD(n:Net):((Vapktc.endOrder n).map e3).Pairwise (fun x y=>lexLt x y=true):=by
 have ii:∀ i j:Nat,(int i=int j)↔i=j:=fun i j=>by unfold int;omega
 have il:∀ i j:Nat,(int i < int j)↔i < j:=fun i j=>by unfold int;omega
 have rg:∀ k,(List.range k).Pairwise (· < ·):=fun k=>List.pairwise_lt_range
 have c3:∀ (x a b c d:Int),(a < c∨a=c∧b < d)→lexLt [x,a,b] [x,c,d]=true:=by
  intro x a b c d h
  show(if x=x then(if a=c then(if b=d then false else decide (b < d)) else decide (a < c)) else decide (x < x))=true
  rw[if_pos rfl]
  rcases h with h | ⟨h1,h2⟩
  ·rw[if_neg (by omega)]
   exact decide_eq_true h
  ·rw[if_pos h1,if_neg (by omega)]
   exact decide_eq_true h2
 rw[List.pairwise_map]
 unfold Vapktc.endOrder
 rw[List.pairwise_append]
 refine⟨?_,?_,?_⟩
 ·rw[List.pairwise_flatMap]
  refine⟨fun s _=>?_,(rg _).imp fun {s s'} hs=>?_⟩
  ·rw[List.pairwise_map]
   exact(rg _).imp fun {p p'} hp=>c3 _ _ _ _ _ (.inr ⟨rfl,(il _ _).mpr hp⟩)
  ·intro x hx y hy
   obtain⟨p,_,rfl⟩:=mem_map.mp hx
   obtain⟨p',_,rfl⟩:=mem_map.mp hy
   exact c3 _ _ _ _ _ (.inl ((il _ _).mpr hs))
 ·rw[List.pairwise_append]
  refine⟨?_,?_,?_⟩
  ·rw[List.pairwise_flatMap]
   refine⟨fun s _=>?_,(rg _).imp fun {s s'} hs=>?_⟩
   ·rw[List.pairwise_map]
    exact(rg _).imp fun {p p'} hp=>c3 _ _ _ _ _ (.inr ⟨rfl,(il _ _).mpr hp⟩)
   ·intro x hx y hy
    obtain⟨p,_,rfl⟩:=mem_map.mp hx
    obtain⟨p',_,rfl⟩:=mem_map.mp hy
    exact c3 _ _ _ _ _ (.inl ((il _ _).mpr hs))
  ·rw[List.pairwise_append]
   refine⟨?_,by simp,?_⟩
   ·rw[List.pairwise_map]
    refine(rg _).imp fun {s s'} hs=>?_
    show(if(2:Int)=2 then(if int s=int s' then false else decide (int s < int s')) else decide ((2:Int) < 2))=true
    rw[if_pos rfl,if_neg (by rw[ii];omega)]
    exact decide_eq_true ((il _ _).mpr hs)
   ·intro x hx y hy
    obtain⟨s,_,rfl⟩:=mem_map.mp hx
    rw[List.mem_singleton] at hy
    subst hy
    rfl
  ·intro x hx y hy
   obtain⟨s,_,hx⟩:=mem_flatMap.mp hx
   obtain⟨i,_,rfl⟩:=mem_map.mp hx
   rcases mem_append.mp hy with hy | hy
   ·obtain⟨s',_,rfl⟩:=mem_map.mp hy
    rfl
   ·rw[List.mem_singleton] at hy
    subst hy
    rfl
 ·intro x hx y hy
  obtain⟨s,_,hx⟩:=mem_flatMap.mp hx
  obtain⟨i,_,rfl⟩:=mem_map.mp hx
  rcases mem_append.mp hy with hy | hy
  ·obtain⟨s',_,hy⟩:=mem_flatMap.mp hy
   obtain⟨i',_,rfl⟩:=mem_map.mp hy
   rfl
  ·rcases mem_append.mp hy with hy | hy
   ·obtain⟨s',_,rfl⟩:=mem_map.mp hy
    rfl
   ·rw[List.mem_singleton] at hy
    subst hy
    rfl
theorem qi{n:Net}{e:End_}(h:e∈Vapktc.endOrder n):Vapktc.bare e=e:=by
 unfold Vapktc.endOrder at h
 rcases mem_append.mp h with h | h
 ·obtain⟨s',_,hy⟩:=mem_flatMap.mp h
  obtain⟨i',_,rfl⟩:=mem_map.mp hy
  rfl
 ·rcases mem_append.mp h with h | h
  ·obtain⟨s',_,hy⟩:=mem_flatMap.mp h
   obtain⟨i',_,rfl⟩:=mem_map.mp hy
   rfl
  ·rcases mem_append.mp h with h | h
   ·obtain⟨s',_,rfl⟩:=mem_map.mp h
    rfl
   ·rw[List.mem_singleton] at h
    subst h
    rfl
theorem ub(e:End_):Vapktc.bare (Vapktc.bare e)=Vapktc.bare e:=by cases e<;>rfl
theorem tZ{n:Net}(W:WF n){x:Packet}(hx:InU n x):Vapktc.bare (endOf n x)∈Vapktc.endOrder n:=by
 unfold Vapktc.endOrder
 rcases qO W hx with e | ⟨p,h,e,h1,h2,_⟩ | ⟨s,i,e,h1,h2⟩ | ⟨s,e,h1⟩
 ·rw[e]
  simp[Vapktc.bare]
 ·rw[e]
  refine mem_append_left _ (mem_flatMap.mpr ⟨p.switch,mem_range.mpr h1,mem_map.mpr ⟨p.port,mem_range.mpr (by show p.port < 6;omega),rfl⟩⟩)
 ·rw[e]
  refine mem_append_right _ (mem_append_left _ (mem_flatMap.mpr ⟨s,mem_range.mpr h1,mem_map.mpr ⟨i,mem_range.mpr h2,rfl⟩⟩))
 ·rw[e]
  exact mem_append_right _ (mem_append_right _ (mem_append_left _ (mem_map.mpr ⟨s,mem_range.mpr h1,rfl⟩)))
def bB(n:Net)(s:Nat):List (List Int):=(List.range (2 ^ n.wide)).map fun h=>e3 (endOf n ⟨s,h⟩)
theorem we{n:Net}(W:WF n){s:Nat}(hs:s < n.tables.length){ys ks:List (List Int)}(nd:ks.Nodup)(hm:∀ k,k∈ks↔k∈bB n s)(hp:ys.Perm ks)(h:ys.Pairwise (fun a b=>lexLt b a=false)) :
  (let l:=Vapktc.endsOf n s;int l.length::l.flatMap fun x=>(match x.1 with
  | .exit p _=>[0,int p.switch,int p.port]
  | e=>flatEnd e)++[int x.2])=int ys.length::ys.flatMap fun k=>k++[(((bB n s).count k:Nat):Int)]:=by
 have st:=strict nd hp h
 have cnt:∀ e∈Vapktc.endOrder n,(((List.range (headers n.wide)).map fun h=>Vapktc.bare (endOf n ⟨s,h⟩)).filter fun x=>x == e).length=(bB n s).count (e3 e):=by
  intro e he
  unfold bB headers
  rw[List.count_eq_countP,List.countP_map,←List.countP_eq_length_filter,List.countP_map]
  apply List.countP_congr
  intro h _
  show((Vapktc.bare (endOf n ⟨s,h⟩) == e)=true↔(e3 (endOf n ⟨s,h⟩) == e3 e)=true)
  rw[beq_iff_eq,beq_iff_eq,wg,qi he]
 have key:(Vapktc.endsOf n s).map (fun x=>e3 x.1)=ys:=by
  refine li ?_ st fun k=>?_
  ·rw[List.pairwise_map]
   unfold Vapktc.endsOf
   dsimp only
   refine List.Pairwise.filter _ ?_
   rw[List.pairwise_map]
   exact List.pairwise_map.mp (tD n)
  ·rw[hp.mem_iff,hm,mem_map]
   unfold Vapktc.endsOf
   dsimp only
   constructor
   ·rintro⟨x,hx,rfl⟩
    rw[mem_filter] at hx
    obtain⟨h1,h2⟩:=hx
    obtain⟨e,he,rfl⟩:=mem_map.mp h1
    dsimp only at h2
    rw[cnt e he] at h2
    exact List.count_pos_iff.mp (of_decide_eq_true h2)
   ·intro hk
    obtain⟨h,hh,e⟩:=mem_map.mp hk
    have hx:InU n ⟨s,h⟩:=⟨hs,mem_range.mp hh⟩
    have ho:=tZ W hx
    have e':e3 (Vapktc.bare (endOf n ⟨s,h⟩))=k:=by
     rw[←e,wg,ub]
    refine⟨(Vapktc.bare (endOf n ⟨s,h⟩),_),mem_filter.mpr ⟨mem_map.mpr ⟨_,ho,rfl⟩,?_⟩,e'⟩
    refine decide_eq_true ?_
    dsimp only
    rw[cnt _ ho,e']
    exact List.count_pos_iff.mpr hk
 have val:∀ x∈Vapktc.endsOf n s,x.2=(bB n s).count (e3 x.1)∧(match x.1 with
  | .exit p _=>[0,int p.switch,int p.port]
  | e=>flatEnd e)=e3 x.1:=by
  intro x hx
  unfold Vapktc.endsOf at hx
  dsimp only at hx
  obtain⟨h1,h2⟩:=mem_filter.mp hx
  obtain⟨e,he,rfl⟩:=mem_map.mp h1
  refine⟨cnt e he,?_⟩
  dsimp only
  cases e<;>rfl
 dsimp only
 rw[←key,length_map,List.flatMap_map]
 congr 1
 rw[List.flatMap_def,List.flatMap_def]
 congr 1
 apply map_congr_left
 intro x hx
 obtain⟨v1,v2⟩:=val x hx
 rw[v2,v1]
 rfl
theorem cJ(n:Net)(s:Nat)(f:Way→Bool):aT n.wide (Vapktc.byWay n s f)=(List.range (2 ^ n.wide)).map fun h=>f (wayOf n ⟨s,h⟩):=iV _ _
theorem eQ(n:Net)(s:Nat)(f:Way→Bool):Vapktc.byWay n s f < 2 ^ (2 ^ n.wide):=nJ _ _
theorem wY(g i:Nat):(one g).testBit i=decide (g=i):=by
 unfold one
 rw[Nat.testBit_two_pow]
theorem kE(a b i:Nat):(either a b).testBit i=(a.testBit i || b.testBit i):=by
 show(a ||| b).testBit i=_
 rw[Nat.testBit_or]
theorem mH{α:Type}(f:α→Option Nat):∀ (l:List α) (s0:Set_) (i:Nat),(l.foldl (fun a h=>match f h with
  | some g=>either a (one g)
  | none=>a) s0).testBit i=(s0.testBit i || l.any fun h=>f h == some i)
 | [],s0,i=>by simp
 | h::l,s0,i=>by
  rw[List.foldl_cons,mH f l,List.any_cons]
  cases e:f h with
  | none=>simp
  | some g=>
   dsimp only
   rw[kE,wY,Bool.or_assoc]
   by_cases q:g=i
   ·simp[q]
   ·have:(g == i)=false:=beq_eq_false_iff_ne.mpr q
    simp[q,this]
def dk(n:Net)(s:Nat)(p:Port)(h:Nat):Option Nat:=match endOf n ⟨s,h⟩ with
 | .exit q g=>if q=p then some g else none
 | _=>none
theorem lM(n:Net)(s:Nat)(p:Port)(i:Nat):(Vapktc.outAt n s p).testBit i=(List.range (2 ^ n.wide)).any fun h=>dk n s p h == some i:=by
 have:Vapktc.outAt n s p=(List.range (headers n.wide)).foldl (fun a h=>match dk n s p h with
  | some g=>either a (one g)
  | none=>a) 0:=by
  unfold Vapktc.outAt
  congr 1
  funext a h
  unfold dk
  cases e:endOf n ⟨s,h⟩ with
  | exit q g=>
   dsimp only
   by_cases z:q=p
   ·rw[if_pos z,if_pos z]
   ·rw[if_neg z,if_neg z]
  | _=>rfl
 rw[this,mH,Nat.zero_testBit,Bool.false_or]
 rfl
theorem vk{n:Net}(W:WF n){s:Nat}(hs:s < n.tables.length)(p:Port):Vapktc.outAt n s p < 2 ^ (2 ^ n.wide):=fQ fun i hi=>by
 rw[lM,List.any_eq_false]
 intro h hh
 unfold dk
 rcases qO W (x:=⟨s,h⟩) ⟨hs,mem_range.mp hh⟩ with e | ⟨q,g,e,h1,h2,h3,_⟩ | ⟨s,i,e,h1,h2⟩ | ⟨s,e,h1⟩
 ·rw[e]
  simp
 ·rw[e]
  dsimp only
  split
  ·simp
   omega
  ·simp
 ·rw[e]
  simp
 ·rw[e]
  simp
theorem pB(w:Nat)(f:Nat→List Packet):∀ (l:List Nat) (s0:Set_) (i:Nat),(l.foldl (fun b h=>(f h).foldl (fun c x=>either c (one x.header)) b) s0).testBit i=(s0.testBit i || l.any fun h=>(f h).any fun x=>x.header == i)
 | [],s0,i=>by simp
 | h::l,s0,i=>by
  rw[List.foldl_cons,pB w f l,List.any_cons]
  have:((f h).foldl (fun c x=>either c (one x.header)) s0).testBit i=(s0.testBit i || (f h).any fun x=>x.header == i):=by
   have:=mH (fun x:Packet=>some x.header) (f h) s0 i
   dsimp only at this
   rw[this]
   simp
  rw[this,Bool.or_assoc]
theorem dU(n:Net)(s:Nat)(a:Set_)(t i:Nat):(Vapktc.arriving n s a t).testBit i=(List.range (2 ^ n.wide)).any fun h=>has a h && (wayOf n ⟨s,h⟩).packets.any fun x=>x.switch == t && x.header == i:=by
 unfold Vapktc.arriving
 rw[pB n.wide (fun h=>((wayOf n ⟨s,h⟩).packets.filter fun x=>x.switch == t)),Nat.zero_testBit,Bool.false_or]
 unfold members headers
 rw[List.any_filter]
 simp only[List.any_filter]
theorem pA{n:Net}(W:WF n){s:Nat}(hs:s < n.tables.length)(a:Set_)(t:Nat):Vapktc.arriving n s a t < 2 ^ (2 ^ n.wide):=fQ fun i hi=>by
 rw[dU,List.any_eq_false]
 intro h hh q
 rw[Bool.and_eq_true] at q
 obtain⟨x,hx,e⟩:=any_eq_true.mp q.2
 have:=eT W (x:=⟨s,h⟩) ⟨hs,mem_range.mp hh⟩ x hx
 simp at e
 have:=this.2
 omega
theorem di{w:Nat}{p:Pattern}{h:Nat}(hh:h < 2 ^ w):has (patternSet w p) h=matchesIt p h:=by
 unfold has patternSet
 rw[gL,decide_eq_true hh,Bool.true_and]
theorem sr{w h:Nat}(hh:h < 2 ^ w):has (allOf w) h=true:=by
 unfold has allOf headers
 rw[Nat.testBit_two_pow_sub_one]
 exact decide_eq_true hh
theorem pw{w:Nat}{s:Set_}{f:Nat→Bool}(h:∀ i,i < 2 ^ w→s.testBit i=f i):aT w s=(List.range (2 ^ w)).map f:=by
 unfold aT
 apply map_congr_left
 intro i hi
 exact h i (mem_range.mp hi)
theorem kJ{n:Net}(W:WF n){s:Nat}(hs:s < n.tables.length)(p:Pattern)(t:Nat):aT n.wide (Vapktc.arriving n s (patternSet n.wide p) t)=(List.range (2 ^ n.wide)).map fun i=>(List.range (2 ^ n.wide)).any fun h=>matchesIt p h && (wayOf n ⟨s,h⟩).packets.any fun x=>x.switch == t && x.header == i:=pw fun i _=>by
 rw[dU]
 rw[Bool.eq_iff_iff,any_eq_true,any_eq_true]
 constructor
 ·rintro⟨h,hh,e⟩
  rw[di (mem_range.mp hh)] at e
  exact⟨h,hh,e⟩
 ·rintro⟨h,hh,e⟩
  rw[←di (mem_range.mp hh)] at e
  exact⟨h,hh,e⟩
theorem kP{n:Net}(W:WF n){s:Nat}(hs:s < n.tables.length)(p:Pattern)(t:Nat):aT n.wide (Vapktc.leading n s t (patternSet n.wide p))=(List.range (2 ^ n.wide)).map fun h=>(wayOf n ⟨s,h⟩).packets.any fun x=>x.switch == t && matchesIt p x.header:=by
 unfold Vapktc.leading
 rw[cJ]
 apply map_congr_left
 intro h hh
 have hx:=eT W (x:=⟨s,h⟩) ⟨hs,mem_range.mp hh⟩
 rw[Bool.eq_iff_iff,any_eq_true,any_eq_true]
 constructor
 ·rintro⟨x,h1,e⟩
  rw[di (hx x h1).2] at e
  exact⟨x,h1,e⟩
 ·rintro⟨x,h1,e⟩
  rw[←di (hx x h1).2] at e
  exact⟨x,h1,e⟩
theorem ph(f:Nat→Set_):∀ (l:List Nat) (s0:Set_) (i:Nat),(l.foldl (fun a q=>either a (f q)) s0).testBit i=(s0.testBit i || l.any fun q=>(f q).testBit i)
 | [],s0,i=>by simp
 | h::l,s0,i=>by
  rw[List.foldl_cons,ph f l,List.any_cons,kE,Bool.or_assoc]
theorem pI(n:Net)(ins:List Nat)(s i:Nat):aT n.wide (Vapktc.used n ins s i)=(List.range (2 ^ n.wide)).map fun h=>(ins.any fun q=>(List.range (2 ^ n.wide)).any fun g=>(wayOf n ⟨q,g⟩).packets.any fun x=>x.switch == s && x.header == h) && ruleFor (n.table s) h == some i:=by
 unfold Vapktc.used
 dsimp only
 rw[iV]
 apply map_congr_left
 intro h hh
 congr 1
 unfold has
 rw[ph,Nat.zero_testBit,Bool.false_or]
 congr 1
 funext q
 rw[dU]
 rw[Bool.eq_iff_iff,any_eq_true,any_eq_true]
 constructor
 ·rintro⟨g,hg,e⟩
  rw[sr (mem_range.mp hg),Bool.true_and] at e
  exact⟨g,hg,e⟩
 ·rintro⟨g,hg,e⟩
  refine⟨g,hg,?_⟩
  rw[sr (mem_range.mp hg),Bool.true_and]
  exact e
theorem wE(n:Net)(ins:List Nat)(s i:Nat):Vapktc.used n ins s i < 2 ^ (2 ^ n.wide):=nJ _ _
def bK(n:Net)(x:Packet):Option Port:=match ruleFor (n.table x.switch) x.header with
 | none=>none
 | some i=>match actionAt (n.table x.switch) i with
  | .drop=>none
  | .send _ p=>some ⟨x.switch,p⟩
theorem qg(n:Net)(s l:Nat){e:Port × Port}(he:n.links[l]?=some e):aT n.wide (Vapktc.overLink n s l)=(List.range (2 ^ n.wide)).map fun h=>(wayOf n ⟨s,h⟩).packets.any fun x=>bK n x == some e.1 || bK n x == some e.2:=by
 unfold Vapktc.overLink
 rw[cJ]
 apply map_congr_left
 intro h hh
 congr 1
 funext x
 unfold bK
 cases ruleFor (n.table x.switch) x.header with
 | none=>rfl
 | some i=>
  dsimp only
  cases actionAt (n.table x.switch) i with
  | drop=>rfl
  | send r p=>
   dsimp only
   rw[he]
   simp only[Option.any_some]
   congr 1
   ·rw[Bool.eq_iff_iff,beq_iff_eq,beq_iff_eq]
    constructor
    ·intro z
     rw[z]
    ·intro z
     injection z with z
     exact z.symm
   ·rw[Bool.eq_iff_iff,beq_iff_eq,beq_iff_eq]
    constructor
    ·intro z
     rw[z]
    ·intro z
     injection z with z
     exact z.symm
end Ms
namespace Mw
open VapktBase
theorem ba.head{n:Net}{been:List Packet}{x:Packet}{l:List Packet}{e:End_}(c:ba n been x l e):x∈been++l:=by
 cases c with
 | stop h s=>simp
 | round h=>simp[h]
 | step h s c=>simp
theorem ba.closed{n:Net}{been:List Packet}{x:Packet}{l:List Packet}{e:End_}(c:ba n been x l e):∀ y∈l,∀ z,stepOf n y=.ok z→z∈been++l:=by
 induction c with
 | stop h s=>
  intro y hy z hz
  simp at hy
  subst hy
  rw[s] at hz
  cases hz
 | round h=>
  intro y hy
  cases hy
 | step h s c ih=>
  intro y hy z hz
  rcases mem_cons.mp hy with e | hy
  ·subst e
   rw[s] at hz
   cases hz
   have:=c.head
   rw[append_assoc] at this
   exact this
  ·have:=ih y hy z hz
   rw[append_assoc] at this
   exact this
theorem ba.within{n:Net}{T:List Packet}(hT:∀ x∈T,∀ y,stepOf n x=.ok y→y∈T){been:List Packet}{x:Packet}{l:List Packet}{e:End_}(c:ba n been x l e):x∈T→∀ y∈l,y∈T:=by
 induction c with
 | stop h s=>
  intro hx y hy
  simp at hy
  rw[hy]
  exact hx
 | round h=>
  intro _ y hy
  cases hy
 | step h s c ih=>
  intro hx y hy
  rcases mem_cons.mp hy with e | hy
  ·rw[e]
   exact hx
  ·exact ih (hT _ hx _ s) y hy
theorem pF{n:Net}(W:WF n){x:Packet}(hx:InU n x):∀ y∈(wayOf n x).packets,∀ z,stepOf n y=.ok z→z∈(wayOf n x).packets:=by
 obtain⟨l,e,c,hw⟩:=bc W hx
 rw[hw]
 intro y hy z hz
 have:=c.closed y hy z hz
 rwa [nil_append] at this
theorem nt{n:Net}(W:WF n){x:Packet}(hx:InU n x):x∈(wayOf n x).packets:=by
 obtain⟨l,e,c,hw⟩:=bc W hx
 rw[hw]
 have:=c.head
 rwa [nil_append] at this
inductive bR(n:Net):List Packet→List Packet→List Packet→Prop
 | nil {been:List Packet}:bR n [] been been
 | cons {been:List Packet} {x:Packet} {xs l r:List Packet} {e:End_}:ba n been x l e→bR n xs (been++l) r→bR n (x::xs) been r
theorem bR.one{n:Net}(W:WF n){x:Packet}(hx:InU n x){r:List Packet}(h:bR n [x] [] r):r=(wayOf n x).packets:=by
 cases h with
 | cons c p=>
  cases p
  obtain⟨l,e,c',hw⟩:=bc W hx
  rw[hw,(dI c c').1]
  rfl
theorem bR.snoc{n:Net}{xs been r l:List Packet}{x:Packet}{e:End_}(h:bR n xs been r)(c:ba n r x l e):bR n (xs++[x]) been (r++l):=by
 induction h with
 | nil=>exact .cons c .nil
 | cons c' p ih=>exact .cons c' (ih c)
theorem bR.mem{n:Net}(W:WF n){xs been r:List Packet}(h:bR n xs been r):(∀ x∈been,∀ y,stepOf n x=.ok y→y∈been)→(∀ x∈xs,InU n x)→∀ y,y∈r↔y∈been∨∃ x∈xs,y∈(wayOf n x).packets:=by
 induction h with
 | nil=>
  intro _ _ y
  simp
 | cons c p ih=>
  rename_i been x xs l r e
  intro hb hU y
  have hx:=hU x (by simp)
  have cl:∀ x'∈been++l,∀ y,stepOf n x'=.ok y→y∈been++l:=fun x' hx' y s=>by
   rcases mem_append.mp hx' with z | z
   ·exact mem_append_left _ (hb x' z y s)
   ·exact c.closed x' z y s
  rw[ih cl (fun x hx=>hU x (by simp[hx])) y]
  obtain⟨l',e',c',hw⟩:=bc W hx
  have k1:∀ y∈(wayOf n x).packets,y∈been++l:=by
   rw[hw]
   exact c'.within cl c.head
  have k2:∀ y∈l,y∈(wayOf n x).packets:=c.within (pF W hx) (nt W hx)
  constructor
  ·rintro(z | ⟨x',h1,h2⟩)
   ·rcases mem_append.mp z with z | z
    ·exact .inl z
    ·exact .inr ⟨x,by simp,k2 y z⟩
   ·exact .inr ⟨x',by simp[h1],h2⟩
  ·rintro(z | ⟨x',h1,h2⟩)
   ·exact .inl (mem_append_left _ z)
   ·rcases mem_cons.mp h1 with q | q
    ·subst q
     exact .inl (k1 y h2)
    ·exact .inr ⟨x',q,h2⟩
theorem bR.mem0{n:Net}(W:WF n){xs r:List Packet}(h:bR n xs [] r)(hU:∀ x∈xs,InU n x)(y:Packet):y∈r↔∃ x∈xs,y∈(wayOf n x).packets:=by
 rw[h.mem W (fun x hx=>by cases hx) hU]
 simp
inductive Path(n:Net):List Packet→Packet→Prop
 | one {x z:Packet}:stepOf n x=.ok z→Path n [x] z
 | cons {x y z:Packet} {l:List Packet}:stepOf n x=.ok y→Path n (y::l) z→Path n (x::y::l) z
theorem ba.first{n:Net}{been:List Packet}{x:Packet}{l:List Packet}{e:End_}(c:ba n been x l e):l=[]∨∃ r,l=x::r:=by
 cases c with
 | stop h s=>exact .inr ⟨_,rfl⟩
 | round h=>exact .inl rfl
 | step h s c=>exact .inr ⟨_,rfl⟩
theorem ba.path{n:Net}{been:List Packet}{x:Packet}{l:List Packet}{e:End_}(c:ba n been x l e):e=.round→l≠[]→∃ z,Path n l z∧z∈been++l:=by
 induction c with
 | stop h s=>
  intro he
  subst he
  exact absurd s jm
 | round h=>exact fun _ h=>absurd rfl h
 | step h s c ih=>
  intro he _
  rename_i x y l e
  rcases c.first with q | ⟨r,q⟩
  ·subst q
   refine⟨_,.one s,?_⟩
   have:=c.head
   rwa [append_nil] at this
  ·subst q
   obtain⟨z,p,hz⟩:=ih he (by simp)
   refine⟨z,.cons s p,?_⟩
   rwa [append_assoc] at hz
theorem Path.chain{n:Net}{l:List Packet}{z:Packet}(p:Path n l z):∀ {been:List Packet} {x:Packet} {r:List Packet},l=x::r→(been++l).Nodup→z∈been++l→ba n been x l .round:=by
 induction p with
 | one s=>
  intro been x r e nd hz
  cases e
  refine .step (fun h=>?_) s (.round hz)
  exact(nodup_append.mp nd).2.2 _ h _ (by simp) rfl
 | cons s p ih=>
  intro been x r e nd hz
  cases e
  refine .step (fun h=>?_) s (ih rfl ?_ ?_)
  ·exact(nodup_append.mp nd).2.2 _ h _ (by simp) rfl
  ·rw[append_assoc]
   exact nd
  ·rw[append_assoc]
   exact hz
theorem Path.tail{n:Net}{z w:Packet}{post:List Packet}:∀ {pre:List Packet},Path n (pre++z::post) w→Path n (z::post) w
 | [],h=>h
 | [a],h=>by
  cases h with
  | cons s p=>exact p
 | a::b::r,h=>by
  cases h with
  | cons s p=>exact Path.tail (pre:=b::r) p
theorem Path.last{n:Net}{l:List Packet}{z:Packet}(p:Path n l z):∃ y,l.getLast?=some y∧stepOf n y=.ok z:=by
 induction p with
 | one s=>exact⟨_,rfl,s⟩
 | cons s p ih=>
  obtain⟨y,h1,h2⟩:=ih
  refine⟨y,?_,h2⟩
  rw[List.getLast?_cons_cons]
  exact h1
theorem ba.last{n:Net}{been:List Packet}{x:Packet}{l:List Packet}{e:End_}(c:ba n been x l e):e≠.round→∃ y,l.getLast?=some y∧stepOf n y=.error e:=by
 induction c with
 | stop h s=>exact fun _=>⟨_,rfl,s⟩
 | round h=>exact fun h=>absurd rfl h
 | step h s c ih=>
  intro he
  obtain⟨y,h1,h2⟩:=ih he
  refine⟨y,?_,h2⟩
  rcases c.first with q | ⟨r,q⟩
  ·rw[q] at h1
   cases h1
  ·rw[q] at h1 ⊢
   rw[List.getLast?_cons_cons]
   exact h1
theorem xl{n:Net}(W:WF n){x:Packet}(hx:InU n x):∃ y,(wayOf n x).packets.getLast?=some y∧InU n y∧match stepOf n y with
  | .error _=>Vapktc.loopOf n x=[]
  | .ok z=>InU n z∧Vapktc.loopOf n x=(wayOf n z).packets:=by
 obtain⟨l,e,c,hw⟩:=bc W hx
 have nd:=c.nodup nodup_nil
 rw[nil_append] at nd
 have inU:=c.inU W hx
 have hne:l≠[]:=by
  have:=c.head
  rw[nil_append] at this
  intro h
  rw[h] at this
  cases this
 unfold Vapktc.loopOf
 rw[hw]
 dsimp only
 by_cases he:e=.round
 ·obtain⟨z,p,hz⟩:=c.path he hne
  rw[nil_append] at hz
  obtain⟨y,hy,s⟩:=p.last
  have hyU:=inU y (List.mem_of_getLast? hy)
  refine⟨y,hy,hyU,?_⟩
  rw[hy,he,s]
  dsimp only
  rw[s]
  dsimp only
  have hzU:=cx W hyU s
  refine⟨hzU,?_⟩
  obtain⟨pre,post,e1⟩:=List.append_of_mem hz
  have hpre:z ∉ pre:=by
   rw[e1] at nd
   exact fun q=>(nodup_append.mp nd).2.2 _ q z (by simp) rfl
  have p2:Path n (z::post) z:=by
   rw[e1] at p
   exact p.tail
  have nd2:(z::post).Nodup:=by
   rw[e1] at nd
   exact(nodup_append.mp nd).2.1
  have c2:ba n [] z (z::post) .round:=p2.chain rfl (by rwa [nil_append]) (by simp)
  obtain⟨l3,e3,c3,hw3⟩:=bc W hzU
  rw[hw3,←(dI c2 c3).1,e1]
  dsimp only
  rw[List.dropWhile_append_of_pos]
  ·simp
  ·intro a ha
   have:a≠z:=fun e=>hpre (by rw[←e];exact ha)
   simpa using this
 ·obtain⟨y,hy,s⟩:=c.last he
  refine⟨y,hy,inU y (List.mem_of_getLast? hy),?_⟩
  rw[hy,s]
  dsimp only
  cases e with
  | round=>exact absurd rfl he
  | _=>rfl
def wlen(n:Net)(x:Packet):Nat:=(wayOf n x).packets.length
theorem su{n:Net}{x:Packet}{e:End_}(s:stepOf n x=.error e):wlen n x=1:=by
 unfold wlen
 rw[nr s]
 rfl
theorem sv{n:Net}(W:WF n){x y:Packet}(hx:InU n x)(s:stepOf n x=.ok y)(hr:endOf n x≠.round):endOf n y≠.round∧wlen n x=wlen n y+1:=by
 obtain⟨l,e,c,hw⟩:=bc W hx
 obtain⟨l2,e2,c2,hw2⟩:=bc W (cx W hx s)
 unfold endOf at hr ⊢
 unfold wlen
 rw[hw] at hr
 rw[hw,hw2]
 cases c with
 | stop h s'=>
  rw[s] at s'
  cases s'
 | round h=>cases h
 | step h s' c'=>
  rename_i y' l'
  rw[s] at s'
  cases s'
  rw[nil_append] at c'
  rcases ba.less s (been:=[]) c' (by simp) (by simp) with z | ⟨z1,z2⟩
  ·obtain⟨e1,e2'⟩:=dI c2 z
   subst e1
   subst e2'
   exact⟨hr,rfl⟩
  ·exact absurd z1 hr
theorem ue{n:Net}(W:WF n){x:Packet}(hx:InU n x):1≤wlen n x:=by
 have:=nt W hx
 unfold wlen
 exact List.length_pos_of_mem this
theorem qG{e:End_}:Vapktc.kindOf e=3↔e=.round:=by
 cases e<;>simp[Vapktc.kindOf]
theorem jl(w:Way):Vapktc.stepsOf w=if w.ended=.round then none else some w.packets.length:=by
 unfold Vapktc.stepsOf
 cases h:w.ended<;>simp
def iN(L:Nat→Option Nat)(k:Nat):Option (Nat × Nat):=(List.range k).foldl (fun m h=>match L h,m with
 | none,m=>m
 | some k,none=>some (k,h)
 | some k,some x=>if x.1 < k then some (k,h) else some x) none
theorem qD(L:Nat→Option Nat)(k:Nat):iN L (k+1)=match L k,iN L k with
 | none,m=>m
 | some a,none=>some (a,k)
 | some a,some x=>if x.1 < a then some (a,k) else some x:=by
 unfold iN
 rw[List.range_succ,List.foldl_append]
 rfl
theorem j0(L:Nat→Option Nat):∀ k,match iN L k with
  | none=>∀ h,h < k→L h=none
  | some (a,b)=>b < k∧L b=some a∧(∀ h,h < k→∀ c,L h=some c→c≤a)∧∀ h,h < b→L h≠some a
 | 0=>by
  show ∀ h,h < 0→L h=none
  intro h hh
  omega
 | k+1=>by
  have ih:=j0 L k
  rw[qD]
  cases hm:iN L k with
  | none=>
   rw[hm] at ih
   cases hL:L k with
   | none=>
    intro h hh
    by_cases e:h=k
    ·rw[e]
     exact hL
    ·exact ih h (by omega)
   | some a=>
    refine⟨by omega,hL,fun h hh c hc=>?_,fun h hh e=>?_⟩
    ·by_cases e:h=k
     ·rw[e,hL] at hc
      cases hc
      exact Nat.le_refl _
     ·rw[ih h (by omega)] at hc
      cases hc
    ·rw[ih h hh] at e
     cases e
  | some x=>
   obtain⟨a,b⟩:=x
   rw[hm] at ih
   obtain⟨i1,i2,i3,i4⟩:=ih
   cases hL:L k with
   | none=>
    refine⟨by omega,i2,fun h hh c hc=>?_,i4⟩
    by_cases e:h=k
    ·rw[e,hL] at hc
     cases hc
    ·exact i3 h (by omega) c hc
   | some c0=>
    dsimp only
    by_cases q:a < c0
    ·rw[if_pos q]
     refine⟨by omega,hL,fun h hh c hc=>?_,fun h hh e=>?_⟩
     ·by_cases e:h=k
      ·rw[e,hL] at hc
       cases hc
       exact Nat.le_refl _
      ·have:=i3 h (by omega) c hc
       omega
     ·have:=i3 h hh c0 e
      omega
    ·rw[if_neg q]
     refine⟨by omega,i2,fun h hh c hc=>?_,i4⟩
     by_cases e:h=k
     ·rw[e,hL] at hc
      cases hc
      omega
     ·exact i3 h (by omega) c hc
def ended(n:Net)(s:Nat):List Nat:=(List.range (2 ^ n.wide)).filter fun h=>decide (endOf n ⟨s,h⟩≠.round)
theorem jY(n:Net)(s:Nat):Vapktc.longest n s=iN (fun h=>Vapktc.stepsOf (wayOf n ⟨s,h⟩)) (2 ^ n.wide):=rfl
theorem mX{n:Net}{s:Nat}(h:ended n s=[]):Vapktc.longest n s=none:=by
 rw[jY]
 have:=j0 (fun h=>Vapktc.stepsOf (wayOf n ⟨s,h⟩)) (2 ^ n.wide)
 cases e:iN (fun h=>Vapktc.stepsOf (wayOf n ⟨s,h⟩)) (2 ^ n.wide) with
 | none=>rfl
 | some x=>
  obtain⟨a,b⟩:=x
  rw[e] at this
  obtain⟨h1,h2,_⟩:=this
  rw[jl] at h2
  split at h2
  ·cases h2
  ·rename_i q
   have:b∈ended n s:=mem_filter.mpr ⟨mem_range.mpr h1,decide_eq_true q⟩
   rw[h] at this
   cases this
theorem mW{n:Net}{s a b:Nat}(hb:b∈ended n s)(ha:wlen n ⟨s,b⟩=a)(hm:∀ h∈ended n s,wlen n ⟨s,h⟩≤a)(hl:∀ h∈ended n s,wlen n ⟨s,h⟩=a→b≤h):Vapktc.longest n s=some (a,b):=by
 rw[jY]
 have key:=j0 (fun h=>Vapktc.stepsOf (wayOf n ⟨s,h⟩)) (2 ^ n.wide)
 have st:∀ h,h∈ended n s→Vapktc.stepsOf (wayOf n ⟨s,h⟩)=some (wlen n ⟨s,h⟩):=fun h hh=>by
  have:=of_decide_eq_true (mem_filter.mp hh).2
  rw[jl]
  exact if_neg this
 have st2:∀ h,h < 2 ^ n.wide→∀ c,Vapktc.stepsOf (wayOf n ⟨s,h⟩)=some c→h∈ended n s∧wlen n ⟨s,h⟩=c:=fun h hh c hc=>by
  rw[jl] at hc
  split at hc
  ·cases hc
  ·rename_i q
   cases hc
   exact⟨mem_filter.mpr ⟨mem_range.mpr hh,decide_eq_true q⟩,rfl⟩
 have bl:=mem_range.mp (mem_filter.mp hb).1
 cases e:iN (fun h=>Vapktc.stepsOf (wayOf n ⟨s,h⟩)) (2 ^ n.wide) with
 | none=>
  rw[e] at key
  have:=key b bl
  rw[st b hb] at this
  cases this
 | some x=>
  obtain⟨a',b'⟩:=x
  rw[e] at key
  obtain⟨k1,k2,k3,k4⟩:=key
  obtain⟨m1,m2⟩:=st2 b' k1 a' k2
  have l1:=hm b' m1
  have l2:=k3 b bl _ (st b hb)
  have ea:a'=a:=by omega
  subst ea
  have l3:=hl b' m1 m2
  have l4:¬ b < b':=fun q=>k4 b q (by rw[st b hb,ha])
  have:b'=b:=by omega
  rw[this]
theorem kC{α:Type}{g:Nat→Option α}{m i:Nat}{v:α}(hi:i < m)(h:g i=some v)(hn:∀ j,j < i→g j=none):(List.range m).findSome? g=some v:=by
 have e:List.range m=List.range i++i::(List.range (m - i - 1)).map (·+(i+1)):=by
  have h1:m=i+(1+(m - i - 1)):=by omega
  conv=>lhs;rw[h1]
  rw[List.range_add,List.range_add,map_append,map_map]
  simp only[List.range_one,map_cons,List.map_nil,Nat.add_zero]
  congr 1
  rw[List.singleton_append]
  congr 1
  apply map_congr_left
  intro k _
  show i+(1+k)=k+(i+1)
  omega
 rw[e,List.findSome?_append]
 have:(List.range i).findSome? g=none:=List.findSome?_eq_none_iff.mpr fun j hj=>hn j (mem_range.mp hj)
 rw[this,List.findSome?_cons,h]
 rfl
theorem oU(n:Net)(k:Nat):Vapktc.leastOfKind n k=(List.range n.tables.length).findSome? fun s=>(List.range (2 ^ n.wide)).findSome? fun h=>if Vapktc.kindOf (endOf n ⟨s,h⟩) == k then some (⟨s,h⟩:Packet) else none:=by
 unfold Vapktc.leastOfKind Vapktc.packets headers
 rw[List.find?_flatMap]
 congr 1
 funext s
 generalize 2 ^ n.wide=m
 have:∀ l:List Nat,(l.map fun h=>(⟨s,h⟩:Packet)).find? (fun x=>Vapktc.kindOf (endOf n x) == k)=l.findSome? fun h=>if Vapktc.kindOf (endOf n ⟨s,h⟩) == k then some (⟨s,h⟩:Packet) else none:=by
  intro l
  induction l with
  | nil=>rfl
  | cons a l ih=>
   rw[map_cons,List.find?_cons,List.findSome?_cons,ih]
   cases Vapktc.kindOf (endOf n ⟨s,a⟩) == k<;>rfl
 exact this _
def nj(n:Net)(k s h:Nat):Prop:=(∀ s',s' < s→∀ h',h' < 2 ^ n.wide→Vapktc.kindOf (endOf n ⟨s',h'⟩)≠k)∧∀ h',h' < h→Vapktc.kindOf (endOf n ⟨s,h'⟩)≠k
theorem qE{n:Net}{k s h:Nat}(hs:s < n.tables.length)(hh:h < 2 ^ n.wide)(hk:Vapktc.kindOf (endOf n ⟨s,h⟩)=k)(hn:nj n k s h):Vapktc.leastOfKind n k=some ⟨s,h⟩:=by
 rw[oU]
 refine kC hs (kC hh (by rw[if_pos (by simpa using hk)]) fun j hj=>?_) fun j hj=>?_
 ·rw[if_neg (by simpa using hn.2 j hj)]
 ·exact List.findSome?_eq_none_iff.mpr fun i hi=>if_neg (by simpa using hn.1 j hj i (mem_range.mp hi))
theorem qF{n:Net}{k:Nat}(hn:nj n k n.tables.length 0):Vapktc.leastOfKind n k=none:=by
 rw[oU]
 exact List.findSome?_eq_none_iff.mpr fun j hj=>List.findSome?_eq_none_iff.mpr fun i hi=>if_neg (by simpa using hn.1 j (mem_range.mp hj) i (mem_range.mp hi))
end Mw
namespace Mc
open PyVapktc
def cnt(k:Nat):Nat:=[0,0,2,1,3,2,2,3,4,4,1,1,2,2,2].getD k 0
structure At(l:List Int)(c:List (List Int))(t:List Int)(k:Nat)(ns row:List Int):Prop where
 k15:k < 15
 len:ns.length=cnt k
 flat:¬ (k=0∨k=13)→l=(k:Int)::(ns++t)∧c=[(k:Int)::ns]∧row=[]
 rows:(k=0∨k=13)→l=(k:Int)::(ns++(row.length:Int)::(row++t))∧c=[(k:Int)::ns,row]
theorem uw{p:Int}{n k:Nat}(h:shape p=some (n,k)):∃ j:Nat,j < 15∧p=(j:Int)∧n=cnt j∧k=if j=0∨j=13 then 1 else 0:=by
 unfold shape at h
 by_cases e0:p=0
 ·rw[if_pos e0] at h
  cases h
  exact⟨0,by decide,e0,rfl,rfl⟩
 rw[if_neg e0] at h
 by_cases e1:p=1
 ·rw[if_pos e1] at h
  cases h
  exact⟨1,by decide,e1,rfl,rfl⟩
 rw[if_neg e1] at h
 by_cases e2:p=2
 ·rw[if_pos e2] at h
  cases h
  exact⟨2,by decide,e2,rfl,rfl⟩
 rw[if_neg e2] at h
 by_cases e3:p=3
 ·rw[if_pos e3] at h
  cases h
  exact⟨3,by decide,e3,rfl,rfl⟩
 rw[if_neg e3] at h
 by_cases e4:p=4
 ·rw[if_pos e4] at h
  cases h
  exact⟨4,by decide,e4,rfl,rfl⟩
 rw[if_neg e4] at h
 by_cases e5:p=5
 ·rw[if_pos e5] at h
  cases h
  exact⟨5,by decide,e5,rfl,rfl⟩
 rw[if_neg e5] at h
 by_cases e6:p=6
 ·rw[if_pos e6] at h
  cases h
  exact⟨6,by decide,e6,rfl,rfl⟩
 rw[if_neg e6] at h
 by_cases e7:p=7
 ·rw[if_pos e7] at h
  cases h
  exact⟨7,by decide,e7,rfl,rfl⟩
 rw[if_neg e7] at h
 by_cases e8:p=8
 ·rw[if_pos e8] at h
  cases h
  exact⟨8,by decide,e8,rfl,rfl⟩
 rw[if_neg e8] at h
 by_cases e9:p=9
 ·rw[if_pos e9] at h
  cases h
  exact⟨9,by decide,e9,rfl,rfl⟩
 rw[if_neg e9] at h
 by_cases e10:p=10
 ·rw[if_pos e10] at h
  cases h
  exact⟨10,by decide,e10,rfl,rfl⟩
 rw[if_neg e10] at h
 by_cases e11:p=11
 ·rw[if_pos e11] at h
  cases h
  exact⟨11,by decide,e11,rfl,rfl⟩
 rw[if_neg e11] at h
 by_cases e12:p=12
 ·rw[if_pos e12] at h
  cases h
  exact⟨12,by decide,e12,rfl,rfl⟩
 rw[if_neg e12] at h
 by_cases e13:p=13
 ·rw[if_pos e13] at h
  cases h
  exact⟨13,by decide,e13,rfl,rfl⟩
 rw[if_neg e13] at h
 by_cases e14:p=14
 ·rw[if_pos e14] at h
  cases h
  exact⟨14,by decide,e14,rfl,rfl⟩
 rw[if_neg e14] at h
 cases h
theorem fz{l:List Int}{c:List (List Int)}{t:List Int}(h:PyFlat.call shape l=some (c,t)):∃ k ns row,At l c t k ns row:=by
 cases l with
 | nil=>cases h
 | cons p r=>
  cases hs:shape p with
  | none=>
   simp only[PyFlat.call,hs] at h
   cases h
  | some nk=>
   obtain⟨n,k⟩:=nk
   simp only[PyFlat.call,hs] at h
   obtain⟨j,hj,hp,hn,hk⟩:=uw hs
   split at h
   ·cases h
   ·rename_i hl
    split at h
    ·cases h
    ·rename_i xs t' hr
     cases h
     have hlen:(r.take n).length=cnt j:=by
      rw[length_take,←hn]
      omega
     by_cases q:j=0∨j=13
     ·rw[if_pos q] at hk
      subst hk
      unfold PyFlat.rows at hr
      split at hr
      ·cases hr
      ·rename_i x s hrow
       have hr:some ([x],s)=some (xs,t):=hr
       cases hr
       unfold PyFlat.row at hrow
       split at hrow
       ·cases hrow
       ·rename_i m r' hd
        split at hrow
        ·rename_i hm
         cases hrow
         refine⟨j,r.take n,r'.take m.toNat,hj,hlen,fun z=>(z q).elim,fun _=>⟨?_,?_⟩⟩
         ·rw[length_take,Nat.min_eq_left hm.2,Int.toNat_of_nonneg hm.1,List.take_append_drop,←hd,List.take_append_drop,hp]
         ·rw[hp]
        ·cases hrow
     ·rw[if_neg q] at hk
      subst hk
      have hr:some ([],r.drop n)=some (xs,t):=hr
      cases hr
      refine⟨j,r.take n,[],hj,hlen,fun _=>⟨?_,?_,rfl⟩,fun z=>(q z).elim⟩
      ·rw[List.take_append_drop,hp]
      ·rw[hp]
theorem kH{f:Nat}{l:List Int}{cs:List (List (List Int))}(h:PyFlat.calls shape f l=some cs)(hl:l≠[]):∃ f' c t cs',cs=c::cs'∧PyFlat.call shape l=some (c,t)∧PyFlat.calls shape f' t=some cs':=by
 cases l with
 | nil=>exact(hl rfl).elim
 | cons p r=>
  cases f with
  | zero=>cases h
  | succ f=>
   unfold PyFlat.calls at h
   split at h
   ·cases h
   ·rename_i c t hc
    split at h
    ·cases h
    ·rename_i cs' hcs
     cases h
     exact⟨f,c,t,cs',rfl,hc,hcs⟩
theorem md{f:Nat}{cs:List (List (List Int))}(h:PyFlat.calls shape f []=some cs):cs=[]:=by
 unfold PyFlat.calls at h
 cases h
 rfl
theorem uf{l:List Int}{c:List (List Int)}{t:List Int}{k:Nat}{ns row:List Int}(a:At l c t k ns row):whole c=c:=by
 have hl:=a.len
 by_cases q:k=0∨k=13
 ·rw[(a.rows q).2]
  rcases q with q | q
  ·subst q
   rw[List.eq_nil_of_length_eq_zero hl]
   rfl
  ·subst q
   rcases ns with _ | ⟨_,_ | ⟨_,_ | ⟨_,_⟩⟩⟩<;>first | rfl | cases hl
 ·rw[(a.flat q).2.1]
  have h15:=a.k15
  have:k=1∨k=2∨k=3∨k=4∨k=5∨k=6∨k=7∨k=8∨k=9∨k=10∨k=11∨k=12∨k=14:=by omega
  clear hl q h15 a
  rcases this with h | h | h | h | h | h | h | h | h | h | h | h | h<;>subst h<;>rcases ns with _ | ⟨_,_ | ⟨_,_ | ⟨_,_ | ⟨_,_ | ⟨_,_⟩⟩⟩⟩⟩<;>rfl
theorem eP:∀ (cs:List (List (List Int))) {f:Nat} {l:List Int},PyFlat.calls shape f l=some cs→cs.map whole=cs
 | [],_,_,_=>rfl
 | c::cs,f,l,h=>by
  by_cases hl:l=[]
  ·subst hl
   cases md h
  ·obtain⟨f',c',t,cs',e,hc,h'⟩:=kH h hl
   cases e
   obtain⟨k,ns,row,a⟩:=fz hc
   rw[map_cons,uf a,eP cs h']
def ans(s:VapktcNeutral.S)(cs:List (List (List Int))):List Int:=PyFlat.told (PyFlat.played VapktcNeutral.step s cs)
theorem xG(s:VapktcNeutral.S):ans s []=[]:=rfl
theorem pD(s:VapktcNeutral.S)(c:List (List Int))(cs:List (List (List Int))):ans s (c::cs)=(((VapktcNeutral.step s c).2.length:Int)::(VapktcNeutral.step s c).2)++ans (VapktcNeutral.step s c).1 cs:=rfl
theorem qR{l:List Int}{cs:List (List (List Int))}(h:PyFlat.calls shape l.length l=some cs):PyVapktc.answers l=ans VapktcNeutral.start cs:=by
 unfold PyVapktc.answers PyVapktc.calls
 rw[h]
 show PyFlat.told (PyFlat.played VapktcNeutral.step VapktcNeutral.start (cs.map whole))=_
 rw[eP cs h]
 rfl
theorem wu{l:List Int}{c:List (List Int)}{t:List Int}{k:Nat}{ns row:List Int}(a:At l c t k ns row)(h:VapktcNeutral.asked1 c=true):row.length≤500:=by
 by_cases q:k=0∨k=13
 ·obtain⟨_,hc⟩:=a.rows q
  have hl:=a.len
  rcases q with q | q
  ·subst q
   have:ns=[]:=List.eq_nil_of_length_eq_zero hl
   subst this
   subst hc
   have h:(row.all (fun z=>VapktcNeutral.whole60 z) && decide (row.length≤500))=true:=h
   rw[Bool.and_eq_true] at h
   exact of_decide_eq_true h.2
  ·subst q
   obtain⟨x,y,e⟩:∃ x y,ns=[x,y]:=by rcases ns with _ | ⟨x,_ | ⟨y,_ | ⟨_,_⟩⟩⟩<;>first | exact⟨x,y,rfl⟩ | cases hl
   subst e
   subst hc
   have h:(VapktcNeutral.whole60 x && (VapktcNeutral.whole60 y && (row.all (fun z=>VapktcNeutral.whole60 z) && decide (row.length≤20))))=true:=h
   simp only[Bool.and_eq_true] at h
   have:=of_decide_eq_true h.2.2.2
   omega
 ·rw[(a.flat q).2.2]
  decide
theorem wt{l:List Int}(h:answers_asked l=true):∃ cs,PyFlat.calls shape l.length l=some cs∧(∀ c∈cs,VapktcNeutral.asked1 c=true)∧cs.length≤60∧(PyVapktc.answers l).length≤10000000:=by
 unfold answers_asked at h
 split at h
 ·cases h
 ·rename_i raw hr
  rw[eP raw hr] at h
  simp only[Bool.and_eq_true] at h
  obtain⟨⟨⟨⟨h1,h2⟩,h3⟩,h4⟩,h5⟩:=h
  unfold VapktcNeutral.asked at h4
  rw[Bool.and_eq_true] at h4
  exact⟨raw,hr,fun c hc=>List.all_eq_true.mp h4.1 c hc,of_decide_eq_true h2,of_decide_eq_true h5⟩
end Mc
namespace L2
open PySem PySem.Spec PyProof.Rows
open PySem.W (Frag)
open VapktBase (Net Packet Port Rule readNat readTimes endOf stepOf readPair ruleFor flatEnd matchesIt readPattern readPort End_ readNet wayOf netOf readTable int rewritten SWITCHES linksApart headers flatNet patternSet readListed)
def top(i:Nat):Stmt:=PySem.Challenge.pw_packetends_s01_answers.main.body.getD i (.Pass ⟨0,0,0,0⟩)
structure TxtF(K:Frag)(mg:Str→Option Value)(x:Str)(st:Stmt)(ps:List Str):Prop where
 ex:∃ f fd,Fun K x x st f fd∧mg x=some (.ref f)∧cj K fd ps []
def aq(P:Program)(w:World)(K:Frag)(mg:Str→Option Value)(base:Heap)(CX:CXT)(k:Nat)(x:Str)(ps:List Str)(sp:Sp):Prop:=
 ∃ f fd,FnOk P w K mg base CX k f fd ps sp∧mg x=some (.ref f)∧PySem.W.keepIn K (.ref f)=true∧cj K fd ps []
section
variable{P:Program}{w:World}{K:Frag}{mg:Str→Option Value}{base:Heap}
theorem aq.mono{CX:CXT}{j k:Nat}{x:Str}{ps:List Str}{sp:Sp}(D:aq P w K mg base CX j x ps sp)(h:j≤k):aq P w K mg base CX k x ps sp:=
 let ⟨f,fd,F,r⟩:=D
 ⟨f,fd,F.mono h,r⟩
theorem TxtF.def0{x:Str}{st:Stmt}{N ps:List Str}{k:Nat}{sp:Sp}(T:TxtF K mg x st ps)(S:al N ps (aj st))(len:∀ vs H Q E,sp vs H Q E→vs.length=ps.length)
  (hbody:∀ (f:Addr) (cdv:Value) (A:Around) (outer:List Env) (s:Shared) (H:Hp) (vs:List V) (Q:VK) (E:XK),Room k (A.deeper (envOfC x (aj st) s.heap.objs.size f cdv))→sp vs H Q E→
   ∃ t,PSs (cxOf CX0 P w K mg base N x (aj st) f cdv A outer s H E).nox (bq st) t∧t { nx:=fun _ H'=>Q .non H',rt:=Q } (start N vs) H):aq P w K mg base CX0 (k+1) x ps sp:=by
 obtain⟨f,fd,F,g,b⟩:=T.ex
 exact⟨f,fd,F.ok S len (hbody f),g,F.kp,b⟩
theorem TxtF.defX{x:Str}{st:Stmt}{N ps:List Str}{k:Nat}{sp:Sp}(T:TxtF K mg x st ps)(S:al N ps (aj st))(len:∀ vs H Q E,sp vs H Q E→vs.length=ps.length)
  (hbody:∀ (f:Addr) (cdv:Value) (A:Around) (outer:List Env) (s:Shared) (H:Hp) (vs:List V) (Q:VK) (E:XK),Room k (A.deeper (envOfC x (aj st) s.heap.objs.size f cdv))→sp vs H Q E→
   ∃ t,PSs (cxOf (FX P w) P w K mg base N x (aj st) f cdv A outer s H E) (bq st) t∧t { nx:=fun _ H'=>Q .non H',rt:=Q } (start N vs) H):aq P w K mg base (FX P w) (k+1) x ps sp:=by
 obtain⟨f,fd,F,g,b⟩:=T.ex
 exact⟨f,fd,okX F S len (hbody f),g,F.kp,b⟩
end
section
variable{X:Cx}{CX:CXT}{k:Nat}{ps:List Str}{sp:Sp}{E:XK}{x:Str}{p pos:Pos}{e:Expr}{es:List Expr}{t:TA}
theorem az(D:aq X.prog X.w X.K X.mg X.base CX k x ps sp)(hr:Room k X.A)(hg:Gl X x)(hx:bQ CX X E)(ha:PA X (e::es) t)(hdb:(x == ("__debug__":Str))=false:=by decide)
  (he:starEach (e::es) X.env=(false,eval e X.env)::starEach es X.env:=by rfl) (hpl:(backTo pos (starEach es X.env)).any (·.1)=false:=by rfl):PE X (.Call (.Name x p) (e::es) [] pos) (jj sp [] E t):=by
 obtain⟨f,fd,F,g,kp,b⟩:=D
 exact wV F hr hg g kp b .nil hx ha hdb he hpl
end
theorem ai{H:Hp}{p:Addr}{o:HO}(h:H p=none):Same H (upd H p o):=fun b u e=>by
 rw[ag (ae e h)]
 exact e
theorem Same.sqT{K:Frag}{H H':Hp}{a:Addr}{xs:List V}(e:Same H H')(h:SqT K H a xs):SqT K H' a xs:=by
 rcases h with(h | ⟨o,h⟩) | h
 ·exact .inl (.inl (e _ _ h))
 ·exact .inl (.inr ⟨o,e _ _ h⟩)
 ·exact .inr h
theorem cD{n m:Nat}(h:n≤m)(hm:m≤100000:=by decide):n≤sizeLine:=by
 rw[sizeLine_eq]
 omega
theorem aH{n m:Nat}(h:n≤m)(hm:m≤100000:=by decide):n < sizeLine:=by
 rw[sizeLine_eq]
 omega
theorem kF{K:Frag}{H:Hp}:∀ bs:List Bool,iX K H (bs.map V.bl) (bs.map PyData.bool)
 | []=>.nil
 | b::r=>.cons (.bl b) (kF r)
theorem cA{K:Frag}{H:Hp}:∀ ns:List Int,iX K H (ns.map V.int) (ns.map PyData.int)
 | []=>.nil
 | n::r=>.cons (.int n) (cA r)
theorem lZ:∀ a b:List Bool,PyData.eqvAll (a.map PyData.bool) (b.map PyData.bool)=decide (a=b)
 | [],[]=>rfl
 | [],_::_=>rfl
 | _::_,[]=>rfl
 | x::a,y::b=>by
  show(x == y && PyData.eqvAll (a.map PyData.bool) (b.map PyData.bool))=_
  rw[lZ a b]
  by_cases h:x=y
  ·subst h
   simp
  ·have:(x == y)=false:=by simpa using h
   rw[this]
   simp[h]
theorem eM:∀ a b:List Int,PyData.eqvAll (a.map PyData.int) (b.map PyData.int)=decide (a=b)
 | [],[]=>rfl
 | [],_::_=>rfl
 | _::_,[]=>rfl
 | x::a,y::b=>by
  show(x == y && PyData.eqvAll (a.map PyData.int) (b.map PyData.int))=_
  rw[eM a b]
  by_cases h:x=y
  ·subst h
   simp
  ·have:(x == y)=false:=by simpa using h
   rw[this]
   simp[h]
theorem lS:∀ bs:List Bool,PyData.canLayAll0 (bs.map PyData.bool)=true∧PyData.depthAll (bs.map PyData.bool)≤1
 | []=>⟨rfl,by simp[PyData.depthAll]⟩
 | b::r=>by
  have ih:=lS r
  constructor
  ·simp[PyData.canLayAll0,PyData.canLay0,ih.1]
  ·simp[PyData.depthAll,PyData.depth] at ih ⊢
   exact ih.2
theorem j9:∀ bs:List Int,PyData.canLayAll0 (bs.map PyData.int)=true∧PyData.depthAll (bs.map PyData.int)≤1
 | []=>⟨rfl,by simp[PyData.depthAll]⟩
 | b::r=>by
  have ih:=j9 r
  constructor
  ·simp[PyData.canLayAll0,PyData.canLay0,ih.1]
  ·simp[PyData.depthAll,PyData.depth] at ih ⊢
   exact ih.2
theorem nh(xs:List V)(k:Nat):cutV xs none (some (k:Int))=xs.take k:=by
 unfold cutV
 rw[HT.sIx_none,HT.sIx_nat,List.drop_zero,Nat.sub_zero]
 by_cases h:k≤xs.length
 ·rw[Nat.min_eq_left h]
 ·rw[Nat.min_eq_right (by omega),take_length,List.take_of_length_le (by omega)]
theorem si(xs:List V)(k:Nat):cutV xs (some (k:Int)) none=xs.drop k:=by
 unfold cutV
 rw[HT.sIx_none,HT.sIx_nat]
 by_cases h:k≤xs.length
 ·rw[Nat.min_eq_left h,List.take_of_length_le (by rw[length_drop];omega)]
 ·rw[Nat.min_eq_right (by omega),Nat.sub_self,List.take_zero,List.drop_of_length_le (by omega)]
theorem xA(xs:List V)(j k:Nat)(h:j≤k)(hk:k≤xs.length):cutV xs (some (j:Int)) (some (k:Int))=(xs.drop j).take (k - j):=by
 unfold cutV
 rw[HT.sIx_nat,HT.sIx_nat,Nat.min_eq_left hk,Nat.min_eq_left (by omega)]
structure TxtB(mg:Str→Option Value):Prop where
 len:mg "len"=none
 range:mg "range"=none
 enumerate:mg "enumerate"=none
 sum:mg "sum"=none
 sorted:mg "sorted"=none
 list:mg "list"=none
 max:mg "max"=none
 min:mg "min"=none
 reversed:mg "reversed"=none
theorem lj(bs:List Bool):SeqAt.shaped (.list (bs.map PyData.bool))=true:=by
 have h:=lS bs
 unfold SeqAt.shaped
 rw[Bool.and_eq_true]
 refine⟨h.1,decide_eq_true ?_⟩
 show PyData.depthAll (bs.map PyData.bool)+1≤64
 omega
theorem dB(bs:List Int):SeqAt.shaped (.tuple (bs.map PyData.int))=true:=by
 have h:=j9 bs
 unfold SeqAt.shaped
 rw[Bool.and_eq_true]
 refine⟨h.1,decide_eq_true ?_⟩
 show PyData.depthAll (bs.map PyData.int)+1≤64
 omega
structure TxtM(K:Frag)(C:Addr)(m qual:Str)(st:Stmt)(ps:List Str):Prop where
 ex:∃ f fd,Fun K m qual st f fd∧Meth K C m f∧cj K fd ps []
structure TxtI(K:Frag)(C:Addr)(qual:Str)(st:Stmt)(ps:List Str):Prop where
 ex:∃ f fd,Fun K "__init__" qual st f fd∧Mk K C f∧cj K fd ps []
def aF(P:Program)(w:World)(K:Frag)(mg:Str→Option Value)(base:Heap)(CX:CXT)(k:Nat)(C:Addr)(m:Str)(ps:List Str)(sp:Sp):Prop:=
 ∃ f fd,FnOk P w K mg base CX k f fd ps sp∧Meth K C m f∧cj K fd ps []
def dZ(P:Program)(w:World)(K:Frag)(mg:Str→Option Value)(base:Heap)(CX:CXT)(k:Nat)(C:Addr)(ps:List Str)(sp:Sp):Prop:=
 ∃ f fd,FnOk P w K mg base CX k f fd ps sp∧Mk K C f∧cj K fd ps []
section
variable{P:Program}{w:World}{K:Frag}{mg:Str→Option Value}{base:Heap}
theorem aF.mono{CX:CXT}{j k:Nat}{C:Addr}{m:Str}{ps:List Str}{sp:Sp}(D:aF P w K mg base CX j C m ps sp)(h:j≤k):aF P w K mg base CX k C m ps sp:=
 let ⟨f,fd,F,r⟩:=D
 ⟨f,fd,F.mono h,r⟩
theorem TxtM.def0{C:Addr}{m x:Str}{st:Stmt}{N ps:List Str}{k:Nat}{sp:Sp}(T:TxtM K C m x st ps)(S:al N ps (aj st))(len:∀ vs H Q E,sp vs H Q E→vs.length=ps.length)
  (hbody:∀ (f:Addr) (cdv:Value) (A:Around) (outer:List Env) (s:Shared) (H:Hp) (vs:List V) (Q:VK) (E:XK),Room k (A.deeper (envOfC x (aj st) s.heap.objs.size f cdv))→sp vs H Q E→
   ∃ t,PSs (cxOf CX0 P w K mg base N x (aj st) f cdv A outer s H E).nox (bq st) t∧t { nx:=fun _ H'=>Q .non H',rt:=Q } (start N vs) H):aF P w K mg base CX0 (k+1) C m ps sp:=by
 obtain⟨f,fd,F,g,b⟩:=T.ex
 exact⟨f,fd,F.ok S len (hbody f),g,b⟩
theorem TxtM.defX{C:Addr}{m x:Str}{st:Stmt}{N ps:List Str}{k:Nat}{sp:Sp}(T:TxtM K C m x st ps)(S:al N ps (aj st))(len:∀ vs H Q E,sp vs H Q E→vs.length=ps.length)
  (hbody:∀ (f:Addr) (cdv:Value) (A:Around) (outer:List Env) (s:Shared) (H:Hp) (vs:List V) (Q:VK) (E:XK),Room k (A.deeper (envOfC x (aj st) s.heap.objs.size f cdv))→sp vs H Q E→
   ∃ t,PSs (cxOf (FX P w) P w K mg base N x (aj st) f cdv A outer s H E) (bq st) t∧t { nx:=fun _ H'=>Q .non H',rt:=Q } (start N vs) H):aF P w K mg base (FX P w) (k+1) C m ps sp:=by
 obtain⟨f,fd,F,g,b⟩:=T.ex
 exact⟨f,fd,okX F S len (hbody f),g,b⟩
theorem TxtI.def0{C:Addr}{x:Str}{st:Stmt}{N ps:List Str}{k:Nat}{sp:Sp}(T:TxtI K C x st ps)(S:al N ps (aj st))(len:∀ vs H Q E,sp vs H Q E→vs.length=ps.length)
  (hbody:∀ (f:Addr) (cdv:Value) (A:Around) (outer:List Env) (s:Shared) (H:Hp) (vs:List V) (Q:VK) (E:XK),Room k (A.deeper (envOfC x (aj st) s.heap.objs.size f cdv))→sp vs H Q E→
   ∃ t,PSs (cxOf CX0 P w K mg base N x (aj st) f cdv A outer s H E).nox (bq st) t∧t { nx:=fun _ H'=>Q .non H',rt:=Q } (start N vs) H):dZ P w K mg base CX0 (k+1) C ps sp:=by
 obtain⟨f,fd,F,g,b⟩:=T.ex
 exact⟨f,fd,F.ok S len (hbody f),g,b⟩
end
section
variable{X:Cx}{CX:CXT}{k:Nat}{C:Addr}{ps:List Str}{sp:Sp}{E:XK}{x m:Str}{p pos apos:Pos}{o e:Expr}{es:List Expr}{ta:TE}{t:TA}
theorem aJ{pl:Sem Bool}(he:PE X o ta)(c:Cls X.K C)(D:aF X.prog X.w X.K X.mg X.base CX k C m ps sp)(hr:Room k X.A)(hx:bQ CX X E)(ha:PA X (e::es) t)
  (hst:starEach (e::es) X.env=(false,eval e X.env)::starEach es X.env:=by rfl) (hpl:(backTo pos (starEach es X.env)).any (·.1)=false:=by rfl)
  (ht:eval (.Call (.Attribute o m apos) (e::es) [] pos) X.env=(do
   let ov←eval o X.env
   standAt apos.atName
   let (f,first)←holding [ov] (getMethod ov m pl)
   callWith pos f first (backTo pos (starEach (e::es) X.env)) (backToKw pos (keywordEach [] X.env))):=by rfl):PE X (.Call (.Attribute o m apos) (e::es) [] pos) (qX C m sp [] E ta t):=by
 obtain⟨f,fd,F,g,b⟩:=D
 exact wS he c g F hr b .nil hx ha hst hpl ht
theorem dE{pl:Sem Bool}(he:PE X o ta)(c:Cls X.K C)(D:aF X.prog X.w X.K X.mg X.base CX k C m ps sp)(hr:Room k X.A)(hx:bQ CX X E)
  (ht:eval (.Call (.Attribute o m apos) [] [] pos) X.env=(do
   let ov←eval o X.env
   standAt apos.atName
   let (f,first)←holding [ov] (getMethod ov m pl)
   callWith pos f first (backTo pos (starEach [] X.env)) (backToKw pos (keywordEach [] X.env))):=by rfl):PE X (.Call (.Attribute o m apos) [] [] pos) (qX C m sp [] E ta tNil):=by
 obtain⟨f,fd,F,g,b⟩:=D
 exact vf he c g F hr b .nil hx ht
theorem gh(D:dZ X.prog X.w X.K X.mg X.base CX k C ps sp)(hr:Room (k+1) X.A)(hg:Gl X x)(hm:X.mg x=some (.ref C))(hx:bQ CX X E)(ha:PA X (e::es) t)(hdb:(x == ("__debug__":Str))=false:=by decide)
  (he:starEach (e::es) X.env=(false,eval e X.env)::starEach es X.env:=by rfl) (hpl:(backTo pos (starEach es X.env)).any (·.1)=false:=by rfl):PE X (.Call (.Name x p) (e::es) [] pos) (tMake C sp [] E t):=by
 obtain⟨f,fd,F,M,b⟩:=D
 exact wT M F hr hg hm b .nil hx ha hdb he hpl
end
def KTab(K:Frag)(a:Addr)(f:Int→Option Value):Prop:=(a == sysModules)=false∧∃ o es ep,K.lookup a=some o∧o.ExactDict∧o.data=.dict es ep∧(∀ e∈es,∃ i,Value.isInt i e.key=true∧e.hash=hashInt i)∧∀ k,findBy Value.isInt es k=f k
theorem KTab.map{P:Program}{w:World}{K:Frag}{a:Addr}{f:Int→Option Value}(t:KTab K a f){h:Heap}(X:K.In h):h.MapOf (PySem.intKind P w) a f:=by
 obtain⟨_,o,es,ep,h1,h2,h3,h4,h5⟩:=t
 exact⟨o,es,ep,X _ _ h1,h2,h3,h4,h5⟩
def tKGet(K:Frag)(td ty:TE):TE:=fun σ H Q=>td σ H fun x H1=>ty σ H1 fun y H2=>∃ a f k u v,x=.ref a∧y=.int k∧KTab K a f∧f k=some u∧RelV v u∧Q v H2
section
variable{X:Cx}{o i e fe:Expr}{es:List Expr}{pos pos':Pos}{td ty tf:TE}{t:TA}{CX:CXT}{k:Nat}{E:XK}
theorem wU(ho:PE X o td)(hi:PE X i ty)(hs:NoSl i):PE X (.Subscript o i pos) (tKGet X.K td ty):=by
 intro pins s σ H Q I h
 refine qZ PySem.F.slot_dict_getitem.lookup hs (thn (ho pins s σ H _ I h) fun u s1 ⟨x,H1,I1,rx,q1⟩=>thn (hi pins s1 σ H1 _ I1 q1) fun iv s2 ⟨y,H2,I2,ry,a,f,k,u',v,ex,ey,tab,hf,rv,q2⟩=>?_)
 subst ex ey
 obtain rfl:u=Value.ref a:=rx
 obtain⟨tk,rfl⟩:=(show ∃ t,iv=Value.int k t from ry)
 have M:=tab.map (P:=X.prog) (w:=X.w) I2.kIn
 exact⟨M.typeIs,wpAny_getItem_of (k:=k) (by show Value.isInt k (.int k tk)=true;simp[Value.isInt]) M hf ⟨v,H2,I2.tok _,rv,q2⟩⟩
def tCallE(X:Cx)(CX:CXT)(k:Nat)(E:XK)(tf:TE)(t:TA):TE:=fun σ H Q=>tf σ H fun x H1=>∃ f fd ps sp,x=.ref f∧FnOk X.prog X.w X.K X.mg X.base CX k f fd ps sp∧PySem.W.keepIn X.K (.ref f)=true∧cj X.K fd ps []∧t σ H1 fun vs H2=>sp vs H2 Q E
theorem vi(hf:PE X fe tf)(hr:Room k X.A)(hx:bQ CX X E)(ha:PA X (e::es) t)
  (hev:eval (.Call fe (e::es) [] pos) X.env=(do callWith pos (←eval fe X.env) [] (backTo pos (starEach (e::es) X.env)) (backToKw pos (keywordEach [] X.env))):=by rfl)
  (he:starEach (e::es) X.env=(false,eval e X.env)::starEach es X.env:=by rfl) (hpl:(backTo pos (starEach es X.env)).any (·.1)=false:=by rfl):PE X (.Call fe (e::es) [] pos) (tCallE X CX k E tf t):=by
 intro pins s σ H Q I h
 rw[hev]
 refine wpAny_bind (thn (hf pins s σ H _ I h) fun u s1 ⟨x,H1,I1,rx,f,fd,ps,sp,ex,F,hk,hb,q⟩=>?_)
 subst ex
 obtain rfl:u=Value.ref f:=rx
 refine PySem.W.callWith_K (h₀:=X.base) I1.ok.mod.kin hk (thn (ha pos pins s1 σ H1 _ I1 q) fun us s2 ⟨vs,H2,I2,r,q2⟩=>⟨I2.kIn,?_⟩) he hpl
 exact mD (dvs:=[]) (ds:=[]) F hr hb .nil hx I2 r (by rw[append_nil];exact q2)
end
abbrev bF:Stmt:=top 2
abbrev cU:Stmt:=top 3
abbrev dg:Stmt:=top 5
abbrev bZ:Stmt:=top 6
section
variable{P:Program}{w:World}{K:Frag}{mg:Str→Option Value}{base:Heap}
def eW(K:Frag):Sp:=fun vs H Q _=>∃ (h a b:Nat) (p:Addr),vs=[.int h,.ref p]∧SqT K H p [.int a,.int b]∧Q (.bl (matchesIt ⟨a,b⟩ h)) H
theorem pQ:al ["header","pattern"] ["header","pattern"] (aj bF):=⟨rfl,rfl,rfl,by decide +kernel,rfl,by decide +kernel,by decide +kernel⟩
theorem jV(T:TxtF K mg "matches" bF ["header","pattern"]):aq P w K mg base CX0 1 "matches" ["header","pattern"] (eW K):=by
 refine T.def0 pQ (fun vs H Q E h=>?_) (fun f cdv A outer s H vs Q E hr h=>?_)
 ·obtain⟨h,a,b,p,rfl,_⟩:=h
  rfl
 ·obtain⟨h,a,b,p,rfl,hp,k⟩:=h
  refine⟨_,ah (au (gk bY (bG qk (pv 0) (aE bg (pv 1) ak (fun _ _=>rfl))) (aE bg (pv 1) ak (fun _ _=>rfl)) (aR _))),?_⟩
  refine⟨_,rfl,_,rfl,p,_,_,_,rfl,rfl,hp,rfl,_,_,rfl,rfl,_,rfl,p,_,_,_,rfl,rfl,hp,rfl,rfl,?_⟩
  have e:decide (V.int (Builtin.bitAnd (h:Int) (a:Int))=V.int (b:Int))=matchesIt ⟨a,b⟩ h:=by
   rw[Mm.gn,bU]
   show(((Nat.land h a:Nat):Int) == (b:Int))=(Nat.land h a == b)
   rw[Bool.eq_iff_iff,beq_iff_eq,beq_iff_eq]
   omega
  rw[e]
  exact k
def iu(K:Frag):Sp:=fun vs H Q _=>∃ (h a b:Nat) (p:Addr),vs=[.int h,.ref p]∧SqT K H p [.int a,.int b]∧Nat.land b a=b∧Q (.int (rewritten ⟨a,b⟩ h:Nat)) H
theorem ms:al ["header","rewrite"] ["header","rewrite"] (aj cU):=⟨rfl,rfl,rfl,by decide +kernel,rfl,by decide +kernel,by decide +kernel⟩
theorem mL(T:TxtF K mg "rewritten" cU ["header","rewrite"]):aq P w K mg base CX0 1 "rewritten" ["header","rewrite"] (iu K):=by
 refine T.def0 ms (fun vs H Q E h=>?_) (fun f cdv A outer s H vs Q E hr h=>?_)
 ·obtain⟨h,a,b,p,rfl,_⟩:=h
  rfl
 ·obtain⟨h,a,b,p,rfl,hp,hb,k⟩:=h
  refine⟨_,ah (au (bG cX (bG jQ (pv 0) (bG qk (pv 0) (aE bg (pv 1) ak (fun _ _=>rfl)))) (aE bg (pv 1) ak (fun _ _=>rfl)))),?_⟩
  refine⟨_,rfl,_,rfl,_,rfl,p,_,_,_,rfl,rfl,hp,rfl,_,_,rfl,rfl,_,_,rfl,rfl,_,rfl,p,_,_,_,rfl,rfl,hp,rfl,_,_,rfl,rfl,?_⟩
  show Q (V.int ((h:Int) - Builtin.bitAnd (h:Int) (a:Int)+(b:Int))) H
  rw[Mm.gn,Mm.wN h a b hb]
  exact k
def ni(H:Hp)(ps:List Addr)(fs:List VapktBase.Pattern):Prop:=Paired (fun q (p:VapktBase.Pattern)=>H q=some (.tup [.int p.told,.int p.bits])) ps fs
def jo(K:Frag)(wd:Nat):Sp:=fun vs H Q _=>∃ (m:Addr) (bs:List Bool),vs=[.ref m]∧SqL K H m (bs.map V.bl)∧bs.length=2 ^ wd∧
 ∀ (H':Hp) (l:Addr) (ps:List Addr),Same H H'→H l=none→H' l=some (.lst (ps.map V.ref))→ni H' ps (Mm.cn wd bs)→Q (.ref l) H'
theorem mw:al ["members","weight","with_zero","with_one","patterns","told","bits"] ["members"] (aj dg):=⟨rfl,rfl,rfl,by decide +kernel,rfl,by decide +kernel,by decide +kernel⟩
theorem vy(T:TxtF K mg "one_form" dg ["members"])(B:TxtB mg):aq P w K mg base CX0 1 "one_form" ["members"] (jo K 0):=by
 refine T.def0 mw (fun vs H Q E h=>?_) (fun f cdv A outer s H vs Q E hr h=>?_)
 ·obtain⟨m,bs,rfl,_⟩:=h
  rfl
 ·obtain⟨m,bs,rfl,hm,hl,k⟩:=h
  refine⟨_,ad (bi (aL bY (aM aG rfl B.len PySem.boot_len (aa (pv 0) af)) ak (aR _))
   (ah (au (gj (uZ (aE aB (pv 0) ak (fun _ _=>rfl)) (fun _=>rfl)) (bz (aa (aU (aa ak (aa ak af))) af)) (bz af)))) aK) lH,?_⟩
  match bs,hl with
  | [b],_=>
   refine⟨_,rfl,m,_,rfl,.inl hm,rfl,_,rfl,iteT ?_⟩
   refine⟨_,rfl,m,_,_,V.bl b,rfl,rfl,hm,rfl,b,rfl,?_⟩
   cases b with
   | true=>
    refine iteT ⟨by show 2≤sizeLine;decide,fun t ht=>⟨by show 1≤sizeLine;decide,fun l hl=>?_⟩⟩
    have n1:t≠l:=ae ac hl
    have hl0:H l=none:=by
     rw[ag n1.symm] at hl
     exact hl
    refine k _ l [t] ((ai ht).trans (ai hl)) hl0 ac (.cons ?_ .nil)
    rw[ag n1,ac]
    rfl
   | false=>exact iteF ⟨Nat.zero_le _,fun l hl=>k _ l [] (ai hl) hl ac .nil⟩
theorem aV{α:Type}:∀ {l:List α} {i:Nat} {x:α},l[i]?=some x→l.take (i+1)=l.take i++[x]
 | [],i,x,h=>by simp at h
 | a::l,0,x,h=>by
  have e:a=x:=Option.some.inj h
  subst e
  rfl
 | a::l,i+1,x,h=>by
  have ih:=aV (l:=l) (i:=i) (x:=x) h
  show a::l.take (i+1)=a::l.take i++[x]
  rw[ih]
  rfl
theorem Paired.snoc{α β:Type}{F:α→β→Prop}{a:α}{b:β}:∀ {l:List α} {r:List β},Paired F l r→F a b→Paired F (l++[a]) (r++[b])
 | _,_,.nil,h=>.cons h .nil
 | _,_,.cons x t,h=>.cons x (Paired.snoc t h)
theorem rR{te:TE}{σ:St}{vs:List Nat}{i5 i6:Nat}{K:Frag}{H1:Hp}{D l0:Addr}{ps:List Addr}{fs:List VapktBase.Pattern}{g:VapktBase.Pattern→VapktBase.Pattern}{Qd:Hp→Prop}(hD:H1 D=none)(hl0:H1 l0=some (.lst (ps.map V.ref)))(hp:ni H1 ps fs)(hz:fs.length≤1000)
  (hw:∀ v5 v6,wipe (((wipe σ vs).set i5 (some v5)).set i6 (some v6)) vs=wipe σ vs)
  (ht:∀ (p:VapktBase.Pattern) (H2:Hp) (Q:VK),(∀ t,H2 t=none→Q (.ref t) (upd H2 t (.tup [.int (g p).told,.int (g p).bits])))→te (((wipe σ vs).set i5 (some (.int p.told))).set i6 (some (.int p.bits))) H2 Q)
  (hd:∀ (H':Hp) (qs:List Addr),Same H1 H'→H' D=some (.lst (qs.map V.ref))→ni H' qs (fs.map g)→Qd H') :
  ∃ W:Nat→Nat→Hp→Prop,(∃ m,W 0 m (upd H1 D (.lst [])))∧∀ i m H,W i m H→
   ((Itl K l0).stop i H∧Qd H)∨((Itl K l0).go i H∧∃ Nx:Hp→Prop,(∀ H',Nx H'→∃ m',m' < m∧W (i+1) m' H')∧∀ x H',(Itl K l0).yld i H x H'→(gTup K 2 (eL (aY i5) (eL (aY i6) gNil))) x (wipe σ vs) H' fun σ2 H2=>wipe σ2 vs=wipe σ vs∧tYes σ2 H2 fun b H3=>
    if b=true then te σ2 H3 fun y H4=>∃ acc,H4 D=some (.lst acc)∧acc.length < sizeLine∧Nx (upd H4 D (.lst (acc++[y]))) else Nx H3):=by
 have hlen:ps.length=fs.length:=Paired.length hp
 have nlD:l0≠D:=ae hl0 hD
 refine m4 (K:=K) (a:=l0) (xs:=ps.map V.ref) (fun i H'=>Same H1 H'∧∃ qs,H' D=some (.lst (qs.map V.ref))∧ni H' qs ((fs.take i).map g)) ⟨ai hD,[],ac,.nil⟩ (fun i H' _ z=>SqL.of (z.1 _ _ hl0)) ?_ ?_
 ·rintro i x H' hx ⟨s1,qs,hDl,hq⟩
  rw[getElem?_map] at hx
  cases e:ps[i]? with
  | none=>
   rw[e] at hx
   cases hx
  | some q=>
   rw[e] at hx
   cases hx
   obtain⟨p,hp1,hp2⟩:=aC hp e
   refine⟨q,_,rfl,SqT.of (s1 _ _ hp2),rfl,_,_,rfl,_,_,rfl,rfl,hw _ _,?_⟩
   unfold tYes
   dsimp only
   rw[if_pos rfl]
   refine ht p H' _ fun t ht'=>?_
   have nD:D≠t:=ae hDl ht'
   have l1:qs.length≤1000:=by
    have:=Paired.length hq
    rw[this,length_map,length_take]
    omega
   refine⟨qs.map V.ref,by rw[ag nD];exact hDl,by rw[length_map];exact aH l1,?_,qs++[t],?_,?_⟩
   ·intro b o hb
    have nb:b≠D:=ae hb hD
    rw[ag nb]
    exact ai ht' _ _ (s1 _ _ hb)
   ·rw[ac,map_append]
    rfl
   ·rw[aV hp1,map_append]
    have sD:∀ b o,H' b=some o→b≠D→upd (upd H' t (.tup [.int (g p).told,.int (g p).bits])) D (.lst (qs.map V.ref++[.ref t])) b=some o:=fun b o hb nb=>by
     rw[ag nb]
     exact ai ht' _ _ hb
    refine Paired.snoc (Paired.mapP hq fun b pt hb=>sD _ _ hb (aP hb hDl (by intro z;cases z))) ?_
    show upd _ D _ t=_
    rw[ag nD.symm,ac]
 ·rintro H' ⟨s1,qs,hDl,hq⟩
  rw[length_map,hlen,take_length] at hq
  exact hd H' qs s1 hDl hq
theorem aW{wd:Nat}(h:wd≤7):2 ^ wd≤128:=Nat.pow_le_pow_right (by decide) h
theorem vx(T:TxtF K mg "one_form" dg ["members"])(B:TxtB mg){wd:Nat}(h7:wd≤6)(D:aq P w K mg base CX0 (wd+1) "one_form" ["members"] (jo K wd)):aq P w K mg base CX0 (wd+1+1) "one_form" ["members"] (jo K (wd+1)):=by
 refine T.def0 mw (fun vs H Q E h=>?_) (fun f cdv A outer s H vs Q E hr h=>?_)
 ·obtain⟨m,bs,rfl,_⟩:=h
  rfl
 ·obtain⟨m,bs,rfl,hm,hl,k⟩:=h
  have nd:=mw.nd
  refine⟨_,ad (bi (aL bY (aM aG rfl B.len PySem.boot_len (aa (pv 0) af)) ak (aR _)) lH aK)
   (ad (ao (i:=1) nd rfl (Or.inr rfl) (bG wX (aM aG rfl B.len PySem.boot_len (aa (pv 0) af)) ak))
   (ad (ao (i:=2) nd rfl (Or.inl rfl) (cG eY (pv 0) ff (cz (pv 1))))
   (ad (ao (i:=3) nd rfl (Or.inl rfl) (cG eY (pv 0) (cz (pv 1)) ff))
   (ad (bi (aL (jR hr.units) (pv 2) (pv 3) (aR _)) (ah (au (az D hr rfl aA (aa (pv 2) af)))) aK)
   (ad (cF (g:=gTup K 2 (eL (aY 5) (eL (aY 6) gNil))) (i:=4) (own:=[("told",5),("bits",6)]) rfl nd rfl rfl (cO rfl rfl rfl rfl) (be (az D hr rfl aA (aa (pv 2) af))) (bb rfl)
    (fun _ _ _ _ _=>fO (n:=2) rfl (bv (ay (i:=5) nd rfl (Or.inl rfl) (Or.inr rfl)) (bv (ay (i:=6) nd rfl (Or.inl rfl) (Or.inr rfl)) dM)))
    (fun _ _ _ _ _=>b8) (fun _ _ _ _ _=>aU (aa (bG cX (pv 5) (pv 1)) (aa (pv 6) af))))
   (ad (b9 (eu PySem.F.plainAttrs_list PySem.F.slot_list_extend PySem.F.type_list_extend ib (pv 4) (aa
    (gi (g:=gTup K 2 (eL (aY 5) (eL (aY 6) gNil))) (own:=[("told",5),("bits",6)]) rfl nd (be (az D hr rfl aA (aa (pv 3) af))) (bb rfl)
     (fun _ _ _ _ _=>fO (n:=2) rfl (bv (ay (i:=5) nd rfl (Or.inl rfl) (Or.inr rfl)) (bv (ay (i:=6) nd rfl (Or.inl rfl) (Or.inr rfl)) dM)))
     (fun _ _ _ _ _=>b8) (fun _ _ _ _ _=>aU (aa (bG cX (pv 5) (pv 1)) (aa (bG cX (pv 6) (pv 1)) af)))) af)))
   (ah (au (pv 4))))))))),?_⟩
  have ew:(((bs.map V.bl).length:Nat):Int) / 2=((2 ^ wd:Nat):Int):=by
   rw[length_map,hl,Nat.pow_succ]
   omega
  have nlen:¬ V.int (((bs.map V.bl).length:Nat):Int)=V.int 1:=by
   rw[length_map,hl,Nat.pow_succ]
   intro z
   injection z with z
   have:=Nat.two_pow_pos wd
   omega
  refine⟨_,rfl,m,_,rfl,.inl hm,rfl,_,rfl,?_⟩
  rw[decide_eq_false nlen]
  refine iteF ?_
  refine⟨_,rfl,m,_,rfl,.inl hm,_,_,rfl,rfl,⟨by decide,by decide⟩,?_⟩
  dsimp only [aY]
  rw[ew]
  refine⟨_,rfl,_,rfl,_,rfl,m,_,rfl,hm,fun z hz=>?_⟩
  rw[nh,←List.map_take]
  have hm1:=(ai (o:=.lst ((bs.take (2 ^ wd)).map V.bl)) hz).seq hm
  refine⟨_,rfl,_,rfl,_,rfl,m,_,rfl,hm1,fun o ho=>?_⟩
  rw[si,←List.map_drop]
  have nzo:z≠o:=ae ac ho
  have ho0:H o=none:=by
   rw[ag nzo.symm] at ho
   exact ho
  generalize hH2:upd (upd H z (.lst ((bs.take (2 ^ wd)).map V.bl))) o (.lst ((bs.drop (2 ^ wd)).map V.bl))=H2
  have s2:Same H H2:=by
   rw[←hH2]
   exact(ai hz).trans (ai ho)
  have hz2:H2 z=some (.lst ((bs.take (2 ^ wd)).map V.bl)):=by rw[←hH2,ag nzo,ac]
  have ho2:H2 o=some (.lst ((bs.drop (2 ^ wd)).map V.bl)):=by rw[←hH2,ac]
  have l1:(bs.take (2 ^ wd)).length=2 ^ wd:=by rw[length_take,hl,Nat.pow_succ];omega
  have l2:(bs.drop (2 ^ wd)).length=2 ^ wd:=by rw[length_drop,hl,Nat.pow_succ];omega
  have f1:=Mm.dH wd (bs.take (2 ^ wd))
  have f2:=Mm.dH wd (bs.drop (2 ^ wd))
  have p7:=aW (wd:=wd) (by omega)
  refine⟨_,rfl,_,rfl,_,_,.lst (SqL.of hz2) (kF _),.lst (SqL.of ho2) (kF _),lj _,lj _,_,rfl,?_⟩
  have ee:PyData.eqv (.list ((bs.take (2 ^ wd)).map PyData.bool)) (.list ((bs.drop (2 ^ wd)).map PyData.bool))=decide (bs.take (2 ^ wd)=bs.drop (2 ^ wd)):=lZ _ _
  rw[ee]
  have unf:Mm.cn (wd+1) bs=if bs.take (2 ^ wd)=bs.drop (2 ^ wd) then Mm.cn wd (bs.take (2 ^ wd))
   else(Mm.cn wd (bs.take (2 ^ wd))).map (fun p=>⟨p.told+2 ^ wd,p.bits⟩)++(Mm.cn wd (bs.drop (2 ^ wd))).map fun p=>⟨p.told+2 ^ wd,p.bits+2 ^ wd⟩:=rfl
  rw[unf] at k
  by_cases hq:bs.take (2 ^ wd)=bs.drop (2 ^ wd)
  ·rw[decide_eq_true hq]
   rw[if_pos hq] at k
   refine iteT ?_
   refine⟨_,rfl,z,bs.take (2 ^ wd),rfl,SqL.of hz2,l1,fun H3 l ps s3 n3 e3 p3=>?_⟩
   exact k H3 l ps (s2.trans s3) (s2.free n3) e3 p3
  ·rw[decide_eq_false hq]
   rw[if_neg hq] at k
   refine iteF ?_
   refine⟨_,rfl,z,bs.take (2 ^ wd),rfl,SqL.of hz2,l1,fun H3 l ps s3 n3 e3 p3=>?_⟩
   refine⟨l,rfl,⟨_,SqL.of e3⟩,fun D1 hD1=>?_⟩
   refine rR (g:=fun p=>⟨p.told+2 ^ wd,p.bits⟩) hD1 e3 p3 (by omega) (fun _ _=>rfl) (fun p H4 Q4 hQ4=>?_) ?_
   ·refine⟨_,rfl,_,rfl,_,_,rfl,rfl,_,rfl,by show 2≤sizeLine;decide,fun t ht=>?_⟩
    have:=hQ4 t ht
    rw[Int.natCast_add] at this
    exact this
   intro H4 qs1 s4 e4 p4
   have D1n:H D1=none:=s2.free (s3.free hD1)
   refine⟨_,rfl,.inl ⟨rfl,_,SqL.of e4⟩,?_⟩
   refine⟨_,rfl,o,bs.drop (2 ^ wd),rfl,SqL.of (s4 _ _ (s3 _ _ ho2)),l2,fun H5 l' ps' s5 n5 e5 p5=>?_⟩
   refine⟨l',rfl,⟨_,SqL.of e5⟩,fun D2 hD2=>?_⟩
   refine rR (g:=fun p=>⟨p.told+2 ^ wd,p.bits+2 ^ wd⟩) hD2 e5 p5 (by omega) (fun _ _=>rfl) (fun p H6 Q6 hQ6=>?_) ?_
   ·refine⟨_,rfl,_,rfl,_,_,rfl,rfl,_,rfl,_,rfl,_,_,rfl,rfl,by show 2≤sizeLine;decide,fun t ht=>?_⟩
    have:=hQ6 t ht
    rw[Int.natCast_add,Int.natCast_add] at this
    exact this
   intro H6 qs2 s6 e6 p6
   have d12:D1≠D2:=ae (s5 _ _ e4) hD2
   have e4':H6 D1=some (.lst (qs1.map V.ref)):=s6 _ _ (s5 _ _ e4)
   have c1:=Paired.length p4
   have c2:=Paired.length p6
   rw[length_map] at c1 c2
   refine⟨D1,D2,_,_,rfl,rfl,e4',e6,?_,?_⟩
   ·rw[length_map,length_map]
    exact cD (m:=1000) (by omega)
   refine⟨_,rfl,?_⟩
   have sa:Same H H6:=((((s2.trans s3).trans s4).trans s5).trans s6)
   have keep:∀ b u,H6 b=some u→b≠D1→upd H6 D1 (.lst (qs1.map V.ref++qs2.map V.ref)) b=some u:=fun b u hb nb=>by
    rw[ag nb]
    exact hb
   refine k _ D1 (qs1++qs2) (fun b u hb=>keep b u (sa _ _ hb) (ae hb D1n)) D1n (by rw[ac,map_append]) ?_
   have ntup:∀ {q:Addr} {xs:List V},H6 q=some (.tup xs)→q≠D1:=fun e=>aP e e4' (by intro z;cases z)
   have app:∀ {l1 l2:List Addr} {r1 r2:List VapktBase.Pattern} {G:Addr→VapktBase.Pattern→Prop},Paired G l1 r1→Paired G l2 r2→Paired G (l1++l2) (r1++r2):=fun {l1 l2 r1 r2 G} a b=>by
    induction a with
    | nil=>exact b
    | cons x t ih=>exact .cons x ih
   refine app (Paired.mapP p4 fun q p e=>?_) (Paired.mapP p6 fun q p e=>keep _ _ e (ntup e))
   have:=s6 _ _ (s5 _ _ e)
   exact keep _ _ this (ntup this)
theorem rN(T:TxtF K mg "one_form" dg ["members"])(B:TxtB mg):∀ wd,wd≤7→aq P w K mg base CX0 (wd+1) "one_form" ["members"] (jo K wd)
 | 0,_=>vy T B
 | wd+1,h=>vx T B (by omega) (rN T B wd (by omega))
def mr(wd:Nat)(bs:List Bool):List Int:=((bs.count true:Nat):Int)::((Mm.cn wd bs).length:Int)::(Mm.cn wd bs).flatMap VapktBase.flatPattern
theorem sT{wd:Nat}{s:VapktBase.Set_}(h:s < 2 ^ (2 ^ wd)):mr wd (Mm.aT wd s)=Vapktc.flatForm wd s:=by
 have e:VapktBase.formOf wd s=Mm.cn wd (Mm.aT wd s):=by
  have:=Mm.m8 wd (Mm.aT wd s) (Mm.px wd s)
  rw[Mm.pN h] at this
  exact this
 unfold mr Vapktc.flatForm
 rw[e,Mm.kQ]
 rfl
def fV(K:Frag):Sp:=fun vs H Q _=>∃ (m:Addr) (bs:List Bool) (wd:Nat),vs=[.ref m]∧SqL K H m (bs.map V.bl)∧bs.length=2 ^ wd∧wd≤7∧
 ∀ (H':Hp) (l:Addr),Same H H'→H l=none→H' l=some (.lst ((mr wd bs).map V.int))→Q (.ref l) H'
theorem uz:al ["members","patterns","numbers","pattern"] ["members"] (aj bZ):=⟨rfl,rfl,rfl,by decide +kernel,rfl,by decide +kernel,by decide +kernel⟩
theorem o9:∀ fs:List VapktBase.Pattern,(fs.flatMap VapktBase.flatPattern).length=2*fs.length
 | []=>rfl
 | p::r=>by
  rw[List.flatMap_cons,length_append,o9 r,length_cons]
  show 2+2*r.length=_
  omega
theorem eD(T:TxtF K mg "set_numbers" bZ ["members"])(TF:TxtF K mg "one_form" dg ["members"])(B:TxtB mg):aq P w K mg base CX0 9 "set_numbers" ["members"] (fV K):=by
 refine T.def0 uz (fun vs H Q E h=>?_) (fun f cdv A outer s H vs Q E hr h=>?_)
 ·obtain⟨m,bs,wd,rfl,_⟩:=h
  rfl
 ·obtain⟨m,bs,wd,rfl,hm,hl,h7,k⟩:=h
  have nd:=uz.nd
  have D:aq P w K mg base CX0 8 "one_form" ["members"] (jo K wd):=(rN TF B wd h7).mono (by omega)
  refine⟨_,ad (ao (i:=1) nd rfl (Or.inl rfl) (az D hr rfl aA (aa (pv 0) af)))
   (ad (ao (i:=2) nd rfl (Or.inl rfl) (bz (aa (eu PySem.F.plainAttrs_list PySem.F.slot_list_count PySem.F.type_list_count tN (pv 0) (aa eB af))
    (aa (aM aG rfl B.len PySem.boot_len (aa (pv 1) af)) af))))
   (ad (bx PassesOwn.never rfl (be (pv 1)) (ay (i:=3) nd rfl (Or.inl rfl)) (ah (b9 (eu PySem.F.plainAttrs_list PySem.F.slot_list_extend PySem.F.type_list_extend mU (pv 2) (aa (pv 3) af)))))
   (ah (au (pv 2))))),?_⟩
  refine⟨_,rfl,m,bs,rfl,hm,hl,fun H1 l ps s1 n1 e1 p1=>?_⟩
  have hm1:=s1.seq hm
  have lp:=Paired.length p1
  have fl:=Mm.dH wd bs
  have p7:=aW h7
  refine⟨_,rfl,.inl ⟨rfl,_,hm1⟩,m,true,bs,rfl,rfl,hm1,_,rfl,l,_,rfl,.inl (SqL.of e1),by show 2≤sizeLine;decide,fun n hn=>?_⟩
  generalize hH2:upd H1 n _=H2
  have s2:Same H1 H2:=by
   rw[←hH2]
   exact ai hn
  have e2:H2 n=some (.lst ((((bs.count true:Nat):Int)::((Mm.cn wd bs).length:Int)::((Mm.cn wd bs).take 0).flatMap VapktBase.flatPattern).map V.int)):=by
   rw[←hH2,ac,length_map,lp]
   rfl
  refine⟨_,rfl,l,rfl,⟨_,SqL.of (s2 _ _ e1)⟩,bP (K:=K) (a:=l) (xs:=ps.map V.ref)
   (fun i σ H'=>∃ v:Option V,σ=[some (.ref m),some (.ref l),some (.ref n),v]∧Same H1 H'∧H' n=some (.lst ((((bs.count true:Nat):Int)::((Mm.cn wd bs).length:Int)::((Mm.cn wd bs).take i).flatMap VapktBase.flatPattern).map V.int)))
   ⟨none,rfl,s2,e2⟩ (fun i σ H' _ ⟨_,_,s3,_⟩=>SqL.of (s3 _ _ e1)) ?_ ?_⟩
  ·rintro i x σ H' hx ⟨v,rfl,s3,e3⟩
   rw[getElem?_map] at hx
   cases e:ps[i]? with
   | none=>
    rw[e] at hx
    cases hx
   | some q=>
    rw[e] at hx
    cases hx
    obtain⟨p,hp1,hp2⟩:=aC p1 e
    refine⟨_,rfl,.inl ⟨rfl,_,SqL.of e3⟩,_,rfl,n,q,_,_,rfl,rfl,e3,SqT.of (s3 _ _ hp2),?_,?_⟩
    ·rw[length_map,length_cons,length_cons,o9,length_take]
     exact cD (m:=1000) (by show _+2≤1000;omega)
    ·refine⟨_,rfl,fun b o hb=>?_,?_⟩
     ·rw[ag (ae hb hn)]
      exact s3 _ _ hb
     ·rw[ac,aV hp1,flatMap_append]
      simp[VapktBase.flatPattern,int]
  ·rintro σ H' ⟨v,rfl,s3,e3⟩
   rw[length_map,lp,take_length] at e3
   exact⟨_,rfl,k H' n (s1.trans s3) (s1.free hn) e3⟩
end
def da(D:Addr)(H H':Hp):Prop:=∀ b u,b≠D→H b=some u→H' b=some u
theorem Same.x{D:Addr}{H H':Hp}(s:Same H H'):da D H H':=fun b u _ e=>s b u e
section
variable{te:TE}{σ:St}{vs:List Nat}{i0:Nat}{K:Frag}{H1:Hp}{D l0:Addr}{xs:List V}{Qd:Hp→Prop}
theorem m3{H' H4:Hp}{ys:List V}{y:V}{i:Nat}{Rep:Nat→V→Hp→Prop}(hD:H1 D=none)(mono:∀ i v H H',da D H H'→Rep i v H→Rep i v H')(s1:Same H1 H4)(s2:Same H' H4)(hDl:H' D=some (.lst ys))(hi:ys.length=i)
  (hr:∀ j y,ys[j]?=some y→Rep j y H') (hy:Rep i y H4) :
  Same H1 (upd H4 D (.lst (ys++[y])))∧∃ zs,upd H4 D (.lst (ys++[y])) D=some (.lst zs)∧zs.length=i+1∧∀ j z,zs[j]?=some z→Rep j z (upd H4 D (.lst (ys++[y]))):=by
 have sx:da D H4 (upd H4 D (.lst (ys++[y]))):=fun b u nb e=>by
  rw[ag nb]
  exact e
 refine⟨fun b u e=>?_,ys++[y],ac,by simp[hi],fun j z hz=>?_⟩
 ·exact sx b u (ae e hD) (s1 b u e)
 ·by_cases q:j < ys.length
  ·rw[List.getElem?_append_left q] at hz
   exact mono _ _ _ _ (fun b u nb e=>sx b u nb (s2 b u e)) (hr j z hz)
  ·rw[List.getElem?_append_right (by omega)] at hz
   have e:j - ys.length=0:=by
    cases h:j - ys.length with
    | zero=>rfl
    | succ k=>
     rw[h] at hz
     cases hz
   rw[e] at hz
   cases hz
   have:j=i:=by omega
   rw[this]
   exact mono _ _ _ _ sx hy
theorem j6{n:Nat}{lo:Int}(Rep:Nat→V→Hp→Prop)(hD:H1 D=none)(hz:n≤100000)(mono:∀ i v H H',da D H H'→Rep i v H→Rep i v H')
  (hw:∀ v,wipe ((wipe σ vs).set i0 (some v)) vs=wipe σ vs)
  (ht:∀ (i:Nat) (H':Hp) (Q:VK),i < n→Same H1 H'→(∃ ys,H' D=some (.lst ys))→(∀ y H4,Same H' H4→Rep i y H4→Q y H4)→te ((wipe σ vs).set i0 (some (.int (lo+i)))) H' Q)
  (hd:∀ (H':Hp) (ys:List V),Same H1 H'→H' D=some (.lst ys)→ys.length=n→(∀ i y,ys[i]?=some y→Rep i y H')→Qd H') :
  ∃ W:Nat→Nat→Hp→Prop,(∃ m,W 0 m (upd H1 D (.lst [])))∧∀ i m H,W i m H→
   ((Itr lo n).stop i H∧Qd H)∨((Itr lo n).go i H∧∃ Nx:Hp→Prop,(∀ H',Nx H'→∃ m',m' < m∧W (i+1) m' H')∧∀ x H',(Itr lo n).yld i H x H'→aY i0 x (wipe σ vs) H' fun σ2 H2=>wipe σ2 vs=wipe σ vs∧tYes σ2 H2 fun b H3=>
    if b=true then te σ2 H3 fun y H4=>∃ acc,H4 D=some (.lst acc)∧acc.length < sizeLine∧Nx (upd H4 D (.lst (acc++[y]))) else Nx H3):=by
 refine gm (fun i H'=>Same H1 H'∧∃ ys,H' D=some (.lst ys)∧ys.length=i∧∀ j y,ys[j]?=some y→Rep j y H') ⟨ai hD,[],ac,rfl,fun j y e=>by simp at e⟩ ?_ ?_
 ·rintro i H' hi ⟨s1,ys,hDl,hl,hr⟩
  refine⟨hw _,?_⟩
  unfold tYes
  dsimp only
  rw[if_pos rfl]
  refine ht i H' _ hi s1 ⟨ys,hDl⟩ fun y H4 s2 hy=>⟨ys,s2 _ _ hDl,aH (m:=100000) (by omega),?_⟩
  exact m3 hD mono (s1.trans s2) s2 hDl hl hr hy
 ·rintro H' ⟨s1,ys,hDl,hl,hr⟩
  exact hd H' ys s1 hDl hl hr
theorem j7(Rep:Nat→V→Hp→Prop)(hD:H1 D=none)(hl0:SqL K H1 l0 xs)(hz:xs.length≤100000)(mono:∀ i v H H',da D H H'→Rep i v H→Rep i v H')
  (hw:∀ v,wipe ((wipe σ vs).set i0 (some v)) vs=wipe σ vs)
  (ht:∀ (i:Nat) (x:V) (H':Hp) (Q:VK),xs[i]?=some x→Same H1 H'→(∃ ys,H' D=some (.lst ys))→(∀ y H4,Same H' H4→Rep i y H4→Q y H4)→te ((wipe σ vs).set i0 (some x)) H' Q)
  (hd:∀ (H':Hp) (ys:List V),Same H1 H'→H' D=some (.lst ys)→ys.length=xs.length→(∀ i y,ys[i]?=some y→Rep i y H')→Qd H') :
  ∃ W:Nat→Nat→Hp→Prop,(∃ m,W 0 m (upd H1 D (.lst [])))∧∀ i m H,W i m H→
   ((Itl K l0).stop i H∧Qd H)∨((Itl K l0).go i H∧∃ Nx:Hp→Prop,(∀ H',Nx H'→∃ m',m' < m∧W (i+1) m' H')∧∀ x H',(Itl K l0).yld i H x H'→aY i0 x (wipe σ vs) H' fun σ2 H2=>wipe σ2 vs=wipe σ vs∧tYes σ2 H2 fun b H3=>
    if b=true then te σ2 H3 fun y H4=>∃ acc,H4 D=some (.lst acc)∧acc.length < sizeLine∧Nx (upd H4 D (.lst (acc++[y]))) else Nx H3):=by
 refine m4 (K:=K) (a:=l0) (xs:=xs) (fun i H'=>Same H1 H'∧∃ ys,H' D=some (.lst ys)∧ys.length=i∧∀ j y,ys[j]?=some y→Rep j y H') ⟨ai hD,[],ac,rfl,fun j y e=>by simp at e⟩ (fun i H' _ z=>z.1.seq hl0) ?_ ?_
 ·rintro i x H' hi ⟨s1,ys,hDl,hl,hr⟩
  refine⟨hw _,?_⟩
  unfold tYes
  dsimp only
  rw[if_pos rfl]
  have:i < xs.length:=(List.getElem?_eq_some_iff.mp hi).1
  refine ht i x H' _ hi s1 ⟨ys,hDl⟩ fun y H4 s2 hy=>⟨ys,s2 _ _ hDl,aH (m:=100000) (by omega),?_⟩
  exact m3 hD mono (s1.trans s2) s2 hDl hl hr hy
 ·rintro H' ⟨s1,ys,hDl,hl,hr⟩
  exact hd H' ys s1 hDl hl hr
theorem vM(Rep:Nat→V→Hp→Prop)(hD:H1 D=none)(hl0:SqT K H1 l0 xs)(hz:xs.length≤100000)(mono:∀ i v H H',da D H H'→Rep i v H→Rep i v H')
  (hw:∀ v,wipe ((wipe σ vs).set i0 (some v)) vs=wipe σ vs)
  (ht:∀ (i:Nat) (x:V) (H':Hp) (Q:VK),xs[i]?=some x→Same H1 H'→(∃ ys,H' D=some (.lst ys))→(∀ y H4,Same H' H4→Rep i y H4→Q y H4)→te ((wipe σ vs).set i0 (some x)) H' Q)
  (hd:∀ (H':Hp) (ys:List V),Same H1 H'→H' D=some (.lst ys)→ys.length=xs.length→(∀ i y,ys[i]?=some y→Rep i y H')→Qd H') :
  ∃ W:Nat→Nat→Hp→Prop,(∃ m,W 0 m (upd H1 D (.lst [])))∧∀ i m H,W i m H→
   ((Itt K l0).stop i H∧Qd H)∨((Itt K l0).go i H∧∃ Nx:Hp→Prop,(∀ H',Nx H'→∃ m',m' < m∧W (i+1) m' H')∧∀ x H',(Itt K l0).yld i H x H'→aY i0 x (wipe σ vs) H' fun σ2 H2=>wipe σ2 vs=wipe σ vs∧tYes σ2 H2 fun b H3=>
    if b=true then te σ2 H3 fun y H4=>∃ acc,H4 D=some (.lst acc)∧acc.length < sizeLine∧Nx (upd H4 D (.lst (acc++[y]))) else Nx H3):=by
 refine lc_tup (K:=K) (a:=l0) (xs:=xs) (fun i H'=>Same H1 H'∧∃ ys,H' D=some (.lst ys)∧ys.length=i∧∀ j y,ys[j]?=some y→Rep j y H') ⟨ai hD,[],ac,rfl,fun j y e=>by simp at e⟩ (fun i H' _ z=>z.1.sqT hl0) ?_ ?_
 ·rintro i x H' hi ⟨s1,ys,hDl,hl,hr⟩
  refine⟨hw _,?_⟩
  unfold tYes
  dsimp only
  rw[if_pos rfl]
  have:i < xs.length:=(List.getElem?_eq_some_iff.mp hi).1
  refine ht i x H' _ hi s1 ⟨ys,hDl⟩ fun y H4 s2 hy=>⟨ys,s2 _ _ hDl,aH (m:=100000) (by omega),?_⟩
  exact m3 hD mono (s1.trans s2) s2 hDl hl hr hy
 ·rintro H' ⟨s1,ys,hDl,hl,hr⟩
  exact hd H' ys s1 hDl hl hr
theorem fm{ys:List V}{n:Nat}{f:Nat→V}(hl:ys.length=n)(h:∀ i y,ys[i]?=some y→y=f i):ys=(List.range n).map f:=by
 apply List.ext_getElem?
 intro i
 by_cases q:i < n
 ·rw[getElem?_map,getElem?_range q,getElem?_eq_getElem (by omega)]
  show some _=some _
  rw[h i _ (getElem?_eq_getElem (by omega))]
 ·rw[getElem?_eq_none (by omega),getElem?_eq_none (by simp;omega)]
end
theorem lY{p:Nat→Bool}{i:Nat}:(List.range (i+1)).filter p=if p i=true then(List.range i).filter p++[i] else(List.range i).filter p:=by
 rw[List.range_succ,List.filter_append,List.filter_cons,List.filter_nil]
 split
 ·rfl
 ·rw[append_nil]
theorem gr{p:Nat→Bool}{i:Nat}:((List.range i).filter p).length≤i:=by
 have:=List.length_filter_le p (List.range i)
 rwa [List.length_range] at this
section
variable{g:TG}{tt:TT}{te:TE}{σ:St}{vs:List Nat}{K:Frag}{H1:Hp}{D l0:Addr}{xs:List V}{Qd:Hp→Prop}
def LfP(H1:Hp)(D:Addr)(p:Nat→Bool)(Rep:Nat→V→Hp→Prop)(i:Nat)(H':Hp):Prop:=Same H1 H'∧∃ ys,H' D=some (.lst ys)∧Paired (fun y j=>Rep j y H') ys ((List.range i).filter p)
theorem LfP.zero{p:Nat→Bool}{Rep:Nat→V→Hp→Prop}(hD:H1 D=none):LfP H1 D p Rep 0 (upd H1 D (.lst [])):=⟨ai hD,[],ac,.nil⟩
theorem LfP.no{p:Nat→Bool}{Rep:Nat→V→Hp→Prop}{i:Nat}{H' H3:Hp}(mono:∀ i v H H',da D H H'→Rep i v H→Rep i v H')(h:LfP H1 D p Rep i H')(hp:p i=false)(s:Same H' H3):LfP H1 D p Rep (i+1) H3:=by
 obtain⟨s1,ys,h1,h2⟩:=h
 refine⟨s1.trans s,ys,s _ _ h1,?_⟩
 rw[lY,if_neg (by simp[hp])]
 exact Paired.mapP h2 fun y j e=>mono _ _ _ _ s.x e
theorem LfP.yes{p:Nat→Bool}{Rep:Nat→V→Hp→Prop}{i:Nat}{H' H4:Hp}{y:V}(hD:H1 D=none)(hi:i≤100000)(mono:∀ i v H H',da D H H'→Rep i v H→Rep i v H')(h:LfP H1 D p Rep i H')(hp:p i=true)(s:Same H' H4)(hy:Rep i y H4):∃ acc,H4 D=some (.lst acc)∧acc.length < sizeLine∧LfP H1 D p Rep (i+1) (upd H4 D (.lst (acc++[y]))):=by
 obtain⟨s1,ys,h1,h2⟩:=h
 have sx:da D H4 (upd H4 D (.lst (ys++[y]))):=fun b u nb e=>by
  rw[ag nb]
  exact e
 have l:=Paired.length h2
 have l2:=gr (p:=p) (i:=i)
 refine⟨ys,s _ _ h1,aH (m:=100000) (by omega),fun b u e=>sx _ _ (ae e hD) (s _ _ (s1 _ _ e)),_,ac,?_⟩
 rw[lY,if_pos hp]
 exact Paired.snoc (Paired.mapP h2 fun z j e=>mono _ _ _ _ (fun b u nb e=>sx _ _ nb (s _ _ e)) e) (mono _ _ _ _ sx hy)
theorem vK{n:Nat}{lo:Int}(p:Nat→Bool)(Rep:Nat→V→Hp→Prop)(hD:H1 D=none)(hz:n≤100000)(mono:∀ i v H H',da D H H'→Rep i v H→Rep i v H')
  (hs:∀ (i:Nat) (H':Hp) (Nx:Hp→Prop),i < n→Same H1 H'→(∃ ys,H' D=some (.lst ys))→(p i=false→∀ H3,Same H' H3→Nx H3)→(p i=true→∀ y H4,Same H' H4→Rep i y H4→∃ acc,H4 D=some (.lst acc)∧acc.length < sizeLine∧Nx (upd H4 D (.lst (acc++[y]))))→
   g (.int (lo+i)) (wipe σ vs) H' fun σ2 H2=>wipe σ2 vs=wipe σ vs∧tt σ2 H2 fun b H3=>if b=true then te σ2 H3 fun y H4=>∃ acc,H4 D=some (.lst acc)∧acc.length < sizeLine∧Nx (upd H4 D (.lst (acc++[y]))) else Nx H3)
  (hd:∀ (H':Hp) (ys:List V),Same H1 H'→H' D=some (.lst ys)→Paired (fun y j=>Rep j y H') ys ((List.range n).filter p)→Qd H') :
  ∃ W:Nat→Nat→Hp→Prop,(∃ m,W 0 m (upd H1 D (.lst [])))∧∀ i m H,W i m H→
   ((Itr lo n).stop i H∧Qd H)∨((Itr lo n).go i H∧∃ Nx:Hp→Prop,(∀ H',Nx H'→∃ m',m' < m∧W (i+1) m' H')∧∀ x H',(Itr lo n).yld i H x H'→g x (wipe σ vs) H' fun σ2 H2=>wipe σ2 vs=wipe σ vs∧tt σ2 H2 fun b H3=>
    if b=true then te σ2 H3 fun y H4=>∃ acc,H4 D=some (.lst acc)∧acc.length < sizeLine∧Nx (upd H4 D (.lst (acc++[y]))) else Nx H3):=by
 refine gm (LfP H1 D p Rep) (LfP.zero hD) ?_ ?_
 ·intro i H' hi h
  exact hs i H' (LfP H1 D p Rep (i+1)) hi h.1 (let ⟨_,ys,e,_⟩:=h;⟨ys,e⟩) (fun hp H3 s=>h.no mono hp s) fun hp y H4 s hy=>h.yes hD (by omega) mono hp s hy
 ·rintro H' ⟨s1,ys,h1,h2⟩
  exact hd H' ys s1 h1 h2
theorem eI(p:Nat→Bool)(Rep:Nat→V→Hp→Prop)(hD:H1 D=none)(hl0:SqL K H1 l0 xs)(hz:xs.length≤100000)(mono:∀ i v H H',da D H H'→Rep i v H→Rep i v H')
  (hs:∀ (i:Nat) (x:V) (H':Hp) (Nx:Hp→Prop),xs[i]?=some x→Same H1 H'→(∃ ys,H' D=some (.lst ys))→(p i=false→∀ H3,Same H' H3→Nx H3)→(p i=true→∀ y H4,Same H' H4→Rep i y H4→∃ acc,H4 D=some (.lst acc)∧acc.length < sizeLine∧Nx (upd H4 D (.lst (acc++[y]))))→
   g x (wipe σ vs) H' fun σ2 H2=>wipe σ2 vs=wipe σ vs∧tt σ2 H2 fun b H3=>if b=true then te σ2 H3 fun y H4=>∃ acc,H4 D=some (.lst acc)∧acc.length < sizeLine∧Nx (upd H4 D (.lst (acc++[y]))) else Nx H3)
  (hd:∀ (H':Hp) (ys:List V),Same H1 H'→H' D=some (.lst ys)→Paired (fun y j=>Rep j y H') ys ((List.range xs.length).filter p)→Qd H') :
  ∃ W:Nat→Nat→Hp→Prop,(∃ m,W 0 m (upd H1 D (.lst [])))∧∀ i m H,W i m H→
   ((Itl K l0).stop i H∧Qd H)∨((Itl K l0).go i H∧∃ Nx:Hp→Prop,(∀ H',Nx H'→∃ m',m' < m∧W (i+1) m' H')∧∀ x H',(Itl K l0).yld i H x H'→g x (wipe σ vs) H' fun σ2 H2=>wipe σ2 vs=wipe σ vs∧tt σ2 H2 fun b H3=>
    if b=true then te σ2 H3 fun y H4=>∃ acc,H4 D=some (.lst acc)∧acc.length < sizeLine∧Nx (upd H4 D (.lst (acc++[y]))) else Nx H3):=by
 refine m4 (K:=K) (a:=l0) (xs:=xs) (LfP H1 D p Rep) (LfP.zero hD) (fun i H' _ z=>z.1.seq hl0) ?_ ?_
 ·intro i x H' hi h
  have:=(List.getElem?_eq_some_iff.mp hi).1
  exact hs i x H' (LfP H1 D p Rep (i+1)) hi h.1 (let ⟨_,ys,e,_⟩:=h;⟨ys,e⟩) (fun hp H3 s=>h.no mono hp s) fun hp y H4 s hy=>h.yes hD (by omega) mono hp s hy
 ·rintro H' ⟨s1,ys,h1,h2⟩
  exact hd H' ys s1 h1 h2
theorem vL{d:Addr}{o:Obj}{kvs:List (List Key × V)}(p:Nat→Bool)(Rep:Nat→V→Hp→Prop)(hD:H1 D=none)(hd0:H1 d=some (.frz o (.dT kvs)))(hz:kvs.length≤100000)(mono:∀ i v H H',da D H H'→Rep i v H→Rep i v H')
  (hs:∀ (i:Nat) (k:List Key) (v:V) (q T:Addr) (H':Hp) (Nx:Hp→Prop),kvs[i]?=some (k,v)→Same H1 H'→(∃ ys,H' D=some (.lst ys))→H' T=none→H' q=some (.tup (k.map kV))→(p i=false→∀ H3,Same H' H3→Nx H3)→(p i=true→∀ y H4,Same H' H4→Rep i y H4→∃ acc,H4 D=some (.lst acc)∧acc.length < sizeLine∧Nx (upd H4 D (.lst (acc++[y]))))→
   g (.ref T) (wipe σ vs) (upd H' T (.tup [.ref q,v])) fun σ2 H2=>wipe σ2 vs=wipe σ vs∧tt σ2 H2 fun b H3=>if b=true then te σ2 H3 fun y H4=>∃ acc,H4 D=some (.lst acc)∧acc.length < sizeLine∧Nx (upd H4 D (.lst (acc++[y]))) else Nx H3)
  (hd:∀ (H':Hp) (ys:List V),Same H1 H'→H' D=some (.lst ys)→Paired (fun y j=>Rep j y H') ys ((List.range kvs.length).filter p)→Qd H') :
  ∃ W:Nat→Nat→Hp→Prop,(∃ m,W 0 m (upd H1 D (.lst [])))∧∀ i m H,W i m H→
   ((Itit d o kvs).stop i H∧Qd H)∨((Itit d o kvs).go i H∧∃ Nx:Hp→Prop,(∀ H',Nx H'→∃ m',m' < m∧W (i+1) m' H')∧∀ x H',(Itit d o kvs).yld i H x H'→g x (wipe σ vs) H' fun σ2 H2=>wipe σ2 vs=wipe σ vs∧tt σ2 H2 fun b H3=>
    if b=true then te σ2 H3 fun y H4=>∃ acc,H4 D=some (.lst acc)∧acc.length < sizeLine∧Nx (upd H4 D (.lst (acc++[y]))) else Nx H3):=by
 refine⟨fun i m H=>m=kvs.length - i∧i≤kvs.length∧LfP H1 D p Rep i H,⟨kvs.length,by simp,Nat.zero_le _,LfP.zero hD⟩,?_⟩
 rintro i m H ⟨rfl,hi,h⟩
 have hdd:=h.1 _ _ hd0
 by_cases q:i < kvs.length
 ·refine .inr ⟨⟨hdd,q⟩,LfP H1 D p Rep (i+1),fun H' p'=>⟨kvs.length - (i+1),by omega,rfl,q,p'⟩,?_⟩
  rintro x H' ⟨T,k,v,q',hk,rfl,hT,hq,rfl⟩
  exact hs i k v q' T H (LfP H1 D p Rep (i+1)) hk h.1 (let ⟨_,ys,e,_⟩:=h;⟨ys,e⟩) hT hq (fun hp H3 s=>h.no mono hp s) fun hp y H4 s hy=>h.yes hD (by omega) mono hp s hy
 ·have e:i=kvs.length:=by omega
  subst e
  obtain⟨s1,ys,h1,h2⟩:=h
  exact .inl ⟨⟨hdd,Nat.le_refl _⟩,hd H ys s1 h1 h2⟩
end
theorem cH{f:Nat→V}:∀ {ys:List V} {js:List Nat} {H:Hp},Paired (fun y j=>y=f j) ys js→ys=js.map f
 | _,_,_,.nil=>rfl
 | _,_,H,.cons h t=>by
  rw[map_cons,h,cH (H:=H) t]
theorem dj{R:Nat→Addr→Prop}:∀ {ys:List V} {js:List Nat},Paired (fun y j=>∃ t,y=.ref t∧R j t) ys js→∃ ts:List Addr,ys=ts.map V.ref∧Paired (fun t j=>R j t) ts js
 | _,_,.nil=>⟨[],rfl,.nil⟩
 | _,_,.cons ⟨t,e,r⟩ h=>by
  obtain⟨ts,e2,r2⟩:=dj h
  exact⟨t::ts,by rw[map_cons,e,e2],.cons r r2⟩
theorem dN{α β γ:Type}{F:α→γ→Prop}{f:β→γ}:∀ {l:List α} {r:List β},Paired (fun a b=>F a (f b)) l r→Paired F l (r.map f)
 | _,_,.nil=>.nil
 | _,_,.cons h t=>.cons h (dN t)
abbrev dL:Stmt:=top 1
abbrev gO:Stmt:=top 4
section
variable{P:Program}{w:World}{K:Frag}{mg:Str→Option Value}{base:Heap}
theorem jI{m:Nat}:-(2 ^ 62)≤((m:Nat):Int):=by omega
theorem jJ{m:Nat}(h:m≤128):((m:Nat):Int) < 2 ^ 62:=by omega
def inN(z:Int)(n:Nat):Bool:=decide (0≤z∧z < (n:Int))
theorem gy{z:Int}{n:Nat}{Q:V→Hp→Prop}{H:Hp}{k:Bool}(hk:k=decide (0≤z))(h:Q (.bl (inN z n)) H):if k=true then Q (.bl (decide (z < (n:Int)))) H else Q (.bl false) H:=by
 subst hk
 by_cases q:0≤z
 ·rw[if_pos (decide_eq_true q)]
  have:inN z n=decide (z < (n:Int)):=by
   unfold inN
   rw[decide_eq_decide]
   omega
  rw[←this]
  exact h
 ·rw[if_neg (by simp[q])]
  have:inN z n=false:=decide_eq_false (by omega)
  rw[←this]
  exact h
def dG(wd:Nat)(z y:Int):Bool:=(readPattern wd [z,y]).isSome
theorem xB{a:Nat}{y:Int}(h:y < 0):0≤Builtin.bitAnd (a:Int) y:=by
 unfold Builtin.bitAnd
 rw[decide_eq_true (show(0:Int)≤(a:Int) by omega),decide_eq_false (show ¬ 0≤y by omega)]
 dsimp only
 rw[Int.toNat_natCast]
 have:=@Nat.and_le_left a (Builtin.bitNot y).toNat
 omega
theorem vP{wd:Nat}{z y:Int}:dG wd z y=(inN z (2 ^ wd) && decide (V.int (Builtin.bitAnd z y)=V.int y)):=by
 unfold dG readPattern readPair readNat inN headers int
 have p2:0 < 2 ^ wd:=Nat.two_pow_pos wd
 have e1:((0:Nat):Int)≤z∧z≤((2 ^ wd - 1:Nat):Int)↔0≤z∧z < ((2 ^ wd:Nat):Int):=by omega
 have e2:((0:Nat):Int)≤y∧y≤((2 ^ wd - 1:Nat):Int)↔0≤y∧y < ((2 ^ wd:Nat):Int):=by omega
 simp only[e1]
 by_cases hz:0≤z∧z < ((2 ^ wd:Nat):Int)
 ·rw[if_pos hz,decide_eq_true hz,Bool.true_and]
  obtain⟨a,rfl⟩:∃ a:Nat,z=(a:Int):=⟨z.toNat,by omega⟩
  have ha:a < 2 ^ wd:=by omega
  by_cases hy:0≤y∧y < ((2 ^ wd:Nat):Int)
  ·obtain⟨b,rfl⟩:∃ b:Nat,y=(b:Int):=⟨y.toNat,by omega⟩
   simp only[if_pos (e2.mpr hy),Option.bind_some,Option.map_some,Int.toNat_natCast]
   rw[Mm.gn]
   by_cases h:Nat.land b a=b
   ·rw[if_pos h]
    have h':Nat.land a b=b:=(Nat.and_comm a b).trans h
    rw[h']
    simp
   ·rw[if_neg h]
    have h':Nat.land a b≠b:=fun e=>h ((Nat.and_comm b a).trans e)
    rw[bU]
    symm
    show((((Nat.land a b:Nat):Int)) == ((b:Nat):Int))=false
    rw[beq_eq_false_iff_ne]
    omega
  ·simp only[if_neg (fun q=>hy (e2.mp q)),Option.bind_some,Option.map_none,Option.bind_none]
   symm
   show decide _=false
   rw[decide_eq_false]
   intro e
   injection e with e
   by_cases n:y < 0
   ·have:=xB (a:=a) n
    omega
   ·obtain⟨b,rfl⟩:∃ b:Nat,y=(b:Int):=⟨y.toNat,by omega⟩
    rw[Mm.gn] at e
    have:Nat.land a b≤a:=Nat.and_le_left
    omega
 ·rw[if_neg hz,decide_eq_false hz]
  rfl
def mn(K:Frag):Sp:=fun vs H Q _=>∃ (wd:Nat) (z y:Int) (p:Addr),vs=[.ref p,.int ((2 ^ wd:Nat):Int)]∧SqT K H p [.int z,.int y]∧Q (.bl (dG wd z y)) H
theorem uA:al ["pattern","size"] ["pattern","size"] (aj dL):=⟨rfl,rfl,rfl,by decide +kernel,rfl,by decide +kernel,by decide +kernel⟩
theorem oF(T:TxtF K mg "is_pattern" dL ["pattern","size"]):aq P w K mg base CX0 1 "is_pattern" ["pattern","size"] (mn K):=by
 refine T.def0 uA (fun vs H Q E h=>?_) (fun f cdv A outer s H vs Q E hr h=>?_)
 ·obtain⟨wd,z,y,p,rfl,_⟩:=h
  rfl
 ·obtain⟨wd,z,y,p,rfl,hp,k⟩:=h
  refine⟨_,ah (au (qf (dF iJ iI ak (aE bg (pv 0) ak (fun _ _=>rfl)) (pv 1))
   (ve (gk bY (bG qk (aE bg (pv 0) ak (fun _ _=>rfl)) (aE bg (pv 0) ak (fun _ _=>rfl))) (aE bg (pv 0) ak (fun _ _=>rfl)) (aR _))))),?_⟩
  rw[vP] at k
  refine⟨_,rfl,p,_,_,_,rfl,rfl,hp,rfl,_,_,rfl,rfl,_,rfl,?_⟩
  have go:inN z (2 ^ wd)=true→Q (.bl (decide (V.int (Builtin.bitAnd z y)=V.int y))) H:=fun e=>by
   rw[e,Bool.true_and] at k
   exact k
  have no:inN z (2 ^ wd)=false→Q (.bl false) H:=fun e=>by
   rw[e,Bool.false_and] at k
   exact k
  split
  ·rename_i e
   have e:0≤z:=of_decide_eq_true e
   refine⟨_,rfl,_,_,rfl,rfl,_,rfl,?_⟩
   split
   ·rename_i e2
    have e2:=of_decide_eq_true e2
    refine⟨_,rfl,p,_,_,_,rfl,rfl,hp,rfl,_,rfl,p,_,_,_,rfl,rfl,hp,rfl,_,_,rfl,rfl,_,rfl,p,_,_,_,rfl,rfl,hp,rfl,rfl,?_⟩
    exact go (decide_eq_true ⟨e,e2⟩)
   ·rename_i e2
    have e2:=fun z=>e2 (decide_eq_true z)
    exact no (decide_eq_false fun q=>e2 q.2)
  ·rename_i e
   have e:¬ 0≤z:=fun z=>e (decide_eq_true z)
   refine⟨_,rfl,?_⟩
   refine iteF ?_
   exact no (decide_eq_false fun q=>e q.1)
def setB(wd:Nat)(hs:List Nat):List Bool:=(List.range (2 ^ wd)).map fun i=>hs.contains i
theorem sS{wd:Nat}{hs:List Nat}{h:Nat}:setB wd (hs++[h])=(setB wd hs).set h true:=by
 unfold setB
 apply List.ext_getElem?
 intro i
 rw[List.getElem?_set]
 by_cases hi:i < 2 ^ wd
 ·rw[getElem?_map,getElem?_range hi,getElem?_map,getElem?_range hi]
  simp only[Option.map_some,length_map,List.length_range]
  by_cases q:h=i
  ·subst q
   simp[hi]
  ·simp[q,Ne.symm q]
 ·have e1:((List.range (2 ^ wd)).map fun i=>(hs++[h]).contains i)[i]?=none:=getElem?_eq_none (by simpa using hi)
  have e2:((List.range (2 ^ wd)).map fun i=>hs.contains i)[i]?=none:=getElem?_eq_none (by simpa using hi)
  rw[e1,e2]
  by_cases q:h=i
  ·subst q
   simp[hi]
  ·simp[q]
def i8(K:Frag):Sp:=fun vs H Q _=>∃ (l:Addr) (wd:Nat) (hs:List Nat),vs=[.ref l,.int ((2 ^ wd:Nat):Int)]∧wd≤7∧H l=some (.lst (hs.map fun(h:Nat)=>V.int (h:Int)))∧(∀ h∈hs,h < 2 ^ wd)∧
 ∀ (H':Hp) (m:Addr),Same H H'→H m=none→H' m=some (.lst ((setB wd hs).map V.bl))→Q (.ref m) H'
theorem nM:al ["headers","size","members","header"] ["headers","size"] (aj gO):=⟨rfl,rfl,rfl,by decide +kernel,rfl,by decide +kernel,by decide +kernel⟩
theorem jU(T:TxtF K mg "set_of" gO ["headers","size"])(B:TxtB mg):aq P w K mg base CX0 1 "set_of" ["headers","size"] (i8 K):=by
 refine T.def0 nM (fun vs H Q E h=>?_) (fun f cdv A outer s H vs Q E hr h=>?_)
 ·obtain⟨l,wd,hs,rfl,_⟩:=h
  rfl
 ·obtain⟨l,wd,hs,rfl,w7,hl,hb,k⟩:=h
  have nd:=nM.nd
  have ps:=aW w7
  refine⟨_,ad (cF (g:=aY 3) (te:=tC (.bl false)) (i:=2) (own:=[("header",3)]) rfl nd rfl rfl (cO rfl rfl rfl rfl) (bJ rfl B.range (aa (pv 1) af)) (bb rfl)
    (fun _ _ _ _ _=>ay (i:=3) nd rfl (Or.inl rfl) (Or.inr rfl)) (fun _ _ _ _ _=>b8) (fun _ _ _ _ _=>eB))
   (ad (bx PassesOwn.never rfl (be (pv 0)) (ay (i:=3) nd rfl (Or.inl rfl)) (ah (ps_asg eB (pg_sub (pv 2) (pv 3) ux))))
   (ah (au (pv 2)))),?_⟩
  refine⟨_,rfl,_,rfl,jI,jJ ps,fun m hm=>?_⟩
  rw[Int.toNat_natCast]
  refine j6 (i0:=3) (n:=2 ^ wd) (fun i v _=>v=.bl false) hm (by omega) (fun _ _ _ _ _ h=>h) (fun v=>rfl) ?_ ?_
  ·rintro i H' Q' hi s3 _ q
   exact q _ _ (Same.refl _) rfl
  ·intro H1 ys s1 hml hly hr'
   have hy:=fm hly hr'
   have e0:ys=(setB wd []).map V.bl:=by
    rw[hy]
    unfold setB
    rw[map_map]
    rfl
   rw[e0] at hml
   have nlm:l≠m:=ae hl hm
   refine⟨_,rfl,l,rfl,⟨_,SqL.of (s1 _ _ hl)⟩,bP (K:=K) (a:=l) (xs:=hs.map fun(h:Nat)=>V.int (h:Int))
    (fun i σ H'=>∃ v3:Option V,σ=[some (.ref l),some (.int ((2 ^ wd:Nat):Int)),some (.ref m),v3]∧Same H H'∧H' m=some (.lst ((setB wd (hs.take i)).map V.bl)))
    ⟨none,rfl,s1,hml⟩ (fun i σ H' _ ⟨_,_,sx,_⟩=>SqL.of (sx _ _ hl)) ?_ ?_⟩
   ·rintro i x σ H' hx ⟨v3,rfl,sx,hm'⟩
    rw[getElem?_map] at hx
    cases e:hs[i]? with
    | none=>
     rw[e] at hx
     cases hx
    | some h=>
     rw[e] at hx
     cases hx
     have hlt:=hb h (mem_of_getElem? e)
     refine⟨_,rfl,_,rfl,m,_,_,h,rfl,rfl,hm',?_,?_⟩
     ·show ixN _ ((h:Nat):Int)=some h
      unfold ixN
      rw[if_pos (by omega),if_pos (by simp[setB];exact_mod_cast hlt),Int.toNat_natCast]
     ·refine⟨_,rfl,fun b o hb=>?_,?_⟩
      ·rw[ag (ae hb hm)]
       exact sx _ _ hb
      ·rw[ac,aV e,sS,List.map_set]
   ·rintro σ H' ⟨v3,rfl,sx,hm'⟩
    rw[length_map,take_length] at hm'
    exact⟨_,rfl,k H' m sx hm hm'⟩
end
open VapktBase (Reader)
abbrev ol:Stmt:=bM (top 50) 0
abbrev uH:Stmt:=bM (top 50) 1
abbrev oj:Stmt:=bM (top 50) 2
abbrev sTake:Stmt:=bM (top 50) 3
abbrev lF:Stmt:=top 51
abbrev jA:Stmt:=top 52
abbrev rF:Stmt:=top 53
abbrev jB:Stmt:=top 54
abbrev jb:Stmt:=top 55
abbrev uF:Stmt:=top 56
structure TxtN(K:Frag)(mg:Str→Option Value)(CN CE:Addr):Prop where
 cl:Cls K CN
 nN:bn K CN "numbers"
 nP:bn K CN "place"
 gN:mg "Numbers"=some (.ref CN)
 gE:mg "NotANetwork"=some (.ref CE)
 xc:XCls K CE
 init:TxtI K CN "Numbers.__init__" ol ["self","numbers"]
 atEnd:TxtM K CN "at_end" "Numbers.at_end" uH ["self"]
 takeAny:TxtM K CN "take_any" "Numbers.take_any" oj ["self"]
 take:TxtM K CN "take" "Numbers.take" sTake ["self","least","most"]
structure Src(K:Frag)(CN:Addr)(H:Hp)(S a:Addr)(xs:List Int)(i:Nat):Prop where
 ins:∃ dx,H S=some (.ins CN dx [("numbers",.ref a),("place",.int (i:Int))])
 lst:H a=some (.lst (xs.map V.int))
 le:i≤xs.length
def aI(S:Addr)(H H':Hp):Prop:=∀ b o,H b=some o→b≠S→H' b=some o
theorem aI.refl(S:Addr)(H:Hp):aI S H H:=fun _ _ h _=>h
theorem aI.trans{S:Addr}{H H1 H2:Hp}(a:aI S H H1)(b:aI S H1 H2):aI S H H2:=fun c o h n=>b c o (a c o h n) n
theorem Same.keepBut{S:Addr}{H H':Hp}(s:Same H H'):aI S H H':=fun b o h _=>s b o h
theorem aI.free{S:Addr}{H H':Hp}(k:aI S H H'){l:Addr}(h:H' l=none)(n:l≠S):H l=none:=by
 cases q:H l with
 | none=>rfl
 | some o=>
  rw[k l o q n] at h
  cases h
theorem Src.same{K:Frag}{CN:Addr}{H H':Hp}{S a:Addr}{xs:List Int}{i:Nat}(h:Src K CN H S a xs i)(s:Same H H'):Src K CN H' S a xs i:=by
 obtain⟨⟨dx,e⟩,l,z⟩:=h
 exact⟨⟨dx,s _ _ e⟩,s _ _ l,z⟩
def spRd{α:Type}(K:Frag)(CN CE:Addr)(more:List V)(R:Reader α)(Rep:α→V→Hp→Prop):Sp:=fun vs H Q E=>∃ (S a:Addr) (xs:List Int) (i:Nat),vs=.ref S::more∧Src K CN H S a xs i∧
 (∀ (x:α) (j:Nat) (v:V) (H':Hp),R (xs.drop i)=some (x,xs.drop j)→aI S H H'→Src K CN H' S a xs j→Rep x v H'→Q v H')∧
 (∀ H':Hp,R (xs.drop i)=none→aI S H H'→E (.ref CE) none H')
def ut{α:Type}(K:Frag)(CN CE:Addr)(more:List V)(R:Reader α)(Rep:α→V→Hp→Prop):Sp:=fun vs H Q E=>∃ (S a:Addr) (xs:List Int) (i:Nat),vs=.ref S::more∧Src K CN H S a xs i∧
 (∀ (x:α) (j:Nat) (v:V) (H':Hp),R (xs.drop i)=some (x,xs.drop j)→aI S H H'→Src K CN H' S a xs j→Rep x v H'→(∀ l,v=.ref l→H l=none)→Q v H')∧
 (∀ H':Hp,R (xs.drop i)=none→aI S H H'→E (.ref CE) none H')
section
variable{P:Program}{w:World}{K:Frag}{mg:Str→Option Value}{base:Heap}{CN CE:Addr}{tP tM:Tok}
def kZ(CN:Addr):Sp:=fun vs H Q _=>∃ (p dx a:Addr),vs=[.ref p,.ref a]∧H p=some (.ins CN dx [])∧∀ H':Hp,H' p=some (.ins CN dx [("numbers",.ref a),("place",.int 0)])→aI p H H'→Q .non H'
theorem pO:al ["self","numbers"] ["self","numbers"] (aj ol):=⟨rfl,rfl,rfl,by decide +kernel,rfl,by decide +kernel,by decide +kernel⟩
theorem ql(T:TxtN K mg CN CE):dZ P w K mg base CX0 1 CN ["self","numbers"] (kZ CN):=by
 refine T.init.def0 pO (fun vs H Q E h=>?_) (fun f cdv A outer s H vs Q E hr h=>?_)
 ·obtain⟨p,dx,a,rfl,_⟩:=h
  rfl
 ·obtain⟨p,dx,a,rfl,hp,k⟩:=h
  refine⟨_,ad (bO (pv 0) (pv 1) rfl) (ah (bO (pv 0) ak rfl)),?_⟩
  refine⟨_,rfl,_,rfl,p,CN,dx,[],rfl,hp,T.cl,T.nN,by show 0 < 1000;decide,?_⟩
  refine⟨_,rfl,p,CN,dx,_,rfl,ac,T.cl,T.nP,by show 1 < 1000;decide,?_⟩
  exact k _ ac fun b o e hb=>by
   rw[ag hb,ag hb]
   exact e
def mo(K:Frag)(CN:Addr):Sp:=fun vs H Q _=>∃ (S a:Addr) (xs:List Int) (i:Nat),vs=[.ref S]∧Src K CN H S a xs i∧Q (.bl (decide (i=xs.length))) H
theorem uC:al ["self"] ["self"] (aj uH):=⟨rfl,rfl,rfl,by decide +kernel,rfl,by decide +kernel,by decide +kernel⟩
theorem oG(T:TxtN K mg CN CE)(B:TxtB mg):aF P w K mg base CX0 1 CN "at_end" ["self"] (mo K CN):=by
 refine T.atEnd.def0 uC (fun vs H Q E h=>?_) (fun f cdv A outer s H vs Q E hr h=>?_)
 ·obtain⟨S,a,xs,i,rfl,_⟩:=h
  rfl
 ·obtain⟨S,a,xs,i,rfl,⟨⟨dx,hS⟩,ha,hi⟩,k⟩:=h
  refine⟨_,ah (au (gk bY (aD (pv 0) rfl) (aM aG rfl B.len PySem.boot_len (aa (aD (pv 0) rfl) af)) (aR _))),?_⟩
  refine⟨_,rfl,S,CN,dx,_,_,rfl,hS,T.cl,T.nP,rfl,_,rfl,S,CN,dx,_,_,rfl,hS,T.cl,T.nN,rfl,a,_,rfl,.inl (SqL.of ha),rfl,?_⟩
  rw[length_map]
  have e:decide (V.int (i:Int)=V.int (xs.length:Int))=decide (i=xs.length):=by
   rw[bU,Bool.eq_iff_iff,beq_iff_eq,decide_eq_true_iff]
   omega
  rw[e]
  exact k
def fc:Reader Int:=fun x=>match x with
 | []=>none
 | z::r=>some (z,r)
def RepZ(z:Int)(v:V)(_:Hp):Prop:=v=.int z
theorem ju:al ["self","number"] ["self"] (aj oj):=⟨rfl,rfl,rfl,by decide +kernel,rfl,by decide +kernel,by decide +kernel⟩
theorem jS(T:TxtN K mg CN CE)(B:TxtB mg):aF P w K mg base (FX P w) 2 CN "take_any" ["self"] (spRd K CN CE [] fc RepZ):=by
 refine T.takeAny.defX ju (fun vs H Q E h=>?_) (fun f cdv A outer s H vs Q E hr h=>?_)
 ·obtain⟨S,a,xs,i,rfl,_⟩:=h
  rfl
 ·obtain⟨S,a,xs,i,rfl,hs,kok,kno⟩:=h
  have nd:=ju.nd
  have D:aF P w K mg base CX0 1 CN "at_end" ["self"] (mo K CN):=oG T B
  obtain⟨⟨dx,hS⟩,ha,hi'⟩:=id hs
  refine⟨_,ad (bi (cv (dE (pv 0) T.cl D hr aA)) (ah (eh XCx.of T.xc rfl T.gE rfl (aa cb af))) aK)
   (ad (ao (i:=1) nd rfl (Or.inl rfl) (aE aB (aD (pv 0) rfl) (aD (pv 0) rfl) (fun _ _=>rfl)))
   (ad (sZ (pv 0) ak in_add)
   (ah (au (pv 1))))),?_⟩
  refine⟨_,rfl,S,dx,_,rfl,hS,rfl,S,a,xs,i,rfl,hs,_,rfl,?_⟩
  by_cases he:i=xs.length
  ·rw[decide_eq_true he]
   refine iteT ⟨by show 1≤sizeLine;decide,kno H ?_ (aI.refl S H)⟩
   rw[he,List.drop_length]
   rfl
  ·rw[decide_eq_false he]
   refine iteF ?_
   have hlt:i < xs.length:=by omega
   obtain⟨z,hz⟩:∃ z,xs[i]?=some z:=⟨_,getElem?_eq_getElem hlt⟩
   have hd:xs.drop i=z::xs.drop (i+1):=by
    rw[List.drop_eq_getElem_cons hlt]
    rw[getElem?_eq_getElem hlt] at hz
    rw[Option.some.inj hz]
   refine⟨_,rfl,S,CN,dx,_,_,rfl,hS,T.cl,T.nN,rfl,_,rfl,S,CN,dx,_,_,rfl,hS,T.cl,T.nP,rfl,a,_,_,V.int z,rfl,rfl,SqL.of ha,at_of (j:=i) rfl (by rw[getElem?_map,hz];rfl),?_⟩
   refine⟨_,rfl,S,CN,dx,_,_,rfl,hS,T.cl,T.nP,rfl,_,_,rfl,rfl,dx,_,hS,by show 2 < 1000;decide,?_⟩
   refine⟨_,rfl,?_⟩
   refine kok z (i+1) _ _ (by rw[hd];rfl) (fun b o e n=>by rw[ag n];exact e) ⟨⟨dx,?_⟩,?_,by omega⟩ rfl
   ·rw[ac]
    rfl
   ·rw[ag (aP ha hS (by intro z;cases z))]
    exact ha
theorem iF{lo hi:Nat}{x:List Int}:readNat lo hi x=(fc x).bind fun u=>if(lo:Int)≤u.1∧u.1≤(hi:Int) then some (u.1.toNat,u.2) else none:=by
 cases x<;>rfl
def RepN(n:Nat)(v:V)(_:Hp):Prop:=v=.int (n:Int)
theorem rj:al ["self","least","most","number"] ["self","least","most"] (aj sTake):=⟨rfl,rfl,rfl,by decide +kernel,rfl,by decide +kernel,by decide +kernel⟩
theorem dl(T:TxtN K mg CN CE)(B:TxtB mg)(lo hi:Nat):aF P w K mg base (FX P w) 3 CN "take" ["self","least","most"] (spRd K CN CE [.int (lo:Int),.int (hi:Int)] (readNat lo hi) RepN):=by
 refine T.take.defX rj (fun vs H Q E h=>?_) (fun f cdv A outer s H vs Q E hr h=>?_)
 ·obtain⟨S,a,xs,i,rfl,_⟩:=h
  rfl
 ·obtain⟨S,a,xs,i,rfl,hs,kok,kno⟩:=h
  have nd:=rj.nd
  have D:aF P w K mg base (FX P w) 2 CN "take_any" ["self"] (spRd K CN CE [] fc RepZ):=jS T B
  obtain⟨⟨dx,hS⟩,ha,hi'⟩:=id hs
  refine⟨_,ad (ao (i:=3) nd rfl (Or.inl rfl) (dE (pv 0) T.cl D hr XCx.of.passes))
   (ad (bi (PW.pt (uX (aL iI (pv 3) (pv 1) (aR _)) (uW (aL op_gt (pv 3) (pv 2) (aR _))))) (ah (eh XCx.of T.xc rfl T.gE rfl (aa cb af))) aK)
   (ah (au (pv 3)))),?_⟩
  refine⟨_,rfl,S,dx,_,rfl,hS,rfl,S,a,xs,i,rfl,hs,fun z j v1 H1 r1 kb1 src1 rep1=>?_,fun H1 r1 kb1=>?_⟩
  ·cases rep1
   have rd:readNat lo hi (xs.drop i)=if(lo:Int)≤z∧z≤(hi:Int) then some (z.toNat,xs.drop j) else none:=by
    rw[iF,r1]
    rfl
   refine⟨_,rfl,_,rfl,_,_,rfl,rfl,_,rfl,?_⟩
   by_cases h1:z < (lo:Int)
   ·rw[decide_eq_true h1]
    refine iteT (iteT ⟨by show 1≤sizeLine;decide,kno H1 ?_ kb1⟩)
    rw[rd,if_neg (by omega)]
   ·rw[decide_eq_false h1]
    refine iteF ⟨_,rfl,_,rfl,_,_,rfl,rfl,_,rfl,?_⟩
    by_cases h2:(hi:Int) < z
    ·rw[decide_eq_true h2]
     refine iteT ⟨by show 1≤sizeLine;decide,kno H1 ?_ kb1⟩
     rw[rd,if_neg (by omega)]
    ·rw[decide_eq_false h2]
     refine iteF ⟨_,rfl,?_⟩
     have hz0:((z.toNat:Nat):Int)=z:=Int.toNat_of_nonneg (by omega)
     exact kok z.toNat j _ _ (by rw[rd,if_pos (by omega)]) kb1 src1 (by show _=_;rw[hz0])
  ·refine kno H1 ?_ kb1
   rw[iF,r1]
   rfl
def RepP(p:VapktBase.Pattern)(v:V)(H:Hp):Prop:=∃ q,v=.ref q∧H q=some (.tup [.int (p.told:Int),.int (p.bits:Int)])
theorem rq:al ["source","size","told","pattern"] ["source","size"] (aj lF):=⟨rfl,rfl,rfl,by decide +kernel,rfl,by decide +kernel,by decide +kernel⟩
theorem kg{wd:Nat}{z y:Int}(h:dG wd z y=true):0≤z∧0≤y∧∀ r,readPattern wd (z::y::r)=some (⟨z.toNat,y.toNat⟩,r):=by
 unfold dG at h
 obtain⟨⟨p,t⟩,e⟩:=Option.isSome_iff_exists.mp h
 have key:∀ r:List Int,readPattern wd (z::y::r)=if(0:Int)≤z∧z≤((2 ^ wd - 1:Nat):Int) then(if(0:Int)≤y∧y≤((2 ^ wd - 1:Nat):Int) then(if Nat.land y.toNat z.toNat=y.toNat then some (⟨z.toNat,y.toNat⟩,r) else none) else none) else none:=fun r=>by
  unfold readPattern readPair readNat headers int
  by_cases hz:(0:Int)≤z∧z≤((2 ^ wd - 1:Nat):Int)
  ·by_cases hy:(0:Int)≤y∧y≤((2 ^ wd - 1:Nat):Int)
   ·simp[hz,hy]
   ·have hy':¬ (((0:Nat):Int)≤y∧y≤((2 ^ wd - 1:Nat):Int)):=hy
    rw[if_pos hz,if_neg hy]
    dsimp only
    rw[if_pos (show((0:Nat):Int)≤z∧z≤((2 ^ wd - 1:Nat):Int) from hz)]
    dsimp only [Option.bind_some]
    rw[if_neg hy']
    rfl
  ·rw[if_neg hz]
   dsimp only
   rw[if_neg (show ¬ (((0:Nat):Int)≤z∧z≤((2 ^ wd - 1:Nat):Int)) from hz)]
   rfl
 rw[key] at e
 split at e
 ·rename_i hz
  split at e
  ·rename_i hy
   split at e
   ·rename_i hb
    refine⟨hz.1,hy.1,fun r=>?_⟩
    rw[key,if_pos hz,if_pos hy,if_pos hb]
   ·cases e
  ·cases e
 ·cases e
theorem kh{wd:Nat}{z y:Int}(h:dG wd z y=false)(r:List Int):readPattern wd (z::y::r)=none:=by
 unfold dG readPattern readPair readNat at h
 unfold readPattern readPair readNat
 dsimp only at h ⊢
 by_cases hz:int 0≤z∧z≤int (headers wd - 1)
 ·rw[if_pos hz] at h ⊢
  dsimp only [Option.bind_some] at h ⊢
  by_cases hy:int 0≤y∧y≤int (headers wd - 1)
  ·rw[if_pos hy] at h ⊢
   dsimp only [Option.map_some,Option.bind_some] at h ⊢
   by_cases hb:Nat.land y.toNat z.toNat=y.toNat
   ·rw[if_pos hb] at h
    cases h
   ·rw[if_neg hb]
  ·rw[if_neg hy]
   rfl
 ·rw[if_neg hz]
  rfl
theorem tz{wd:Nat}{z:Int}:readPattern wd [z]=none:=by
 unfold readPattern readPair readNat
 dsimp only
 split
 ·rfl
 ·rfl
theorem kK{x:List Int}{z:Int}{r:List Int}(h:fc x=some (z,r)):x=z::r:=by
 cases x with
 | nil=>cases h
 | cons a b=>
  cases h
  rfl
theorem pC{x:List Int}(h:fc x=none):x=[]:=by
 cases x with
 | nil=>rfl
 | cons a b=>cases h
theorem w8(T:TxtN K mg CN CE)(B:TxtB mg)(TI:TxtF K mg "is_pattern" dL ["pattern","size"])(TP:TxtF K mg "read_pattern" lF ["source","size"])(wd:Nat):aq P w K mg base (FX P w) 3 "read_pattern" ["source","size"] (spRd K CN CE [.int ((2 ^ wd:Nat):Int)] (readPattern wd) RepP):=by
 refine TP.defX rq (fun vs H Q E h=>?_) (fun f cdv A outer s H vs Q E hr h=>?_)
 ·obtain⟨S,a,xs,i,rfl,_⟩:=h
  rfl
 ·obtain⟨S,a,xs,i,rfl,hs,kok,kno⟩:=h
  have nd:=rq.nd
  have D:aF P w K mg base (FX P w) 2 CN "take_any" ["self"] (spRd K CN CE [] fc RepZ):=jS T B
  have DI:aq P w K mg base CX0 2 "is_pattern" ["pattern","size"] (mn K):=(oF TI).mono (by omega)
  obtain⟨⟨dx,hS⟩,ha,hi'⟩:=id hs
  refine⟨_,ad (ao (i:=2) nd rfl (Or.inl rfl) (dE (pv 0) T.cl D hr XCx.of.passes))
   (ad (ao (i:=3) nd rfl (Or.inl rfl) (aU (aa (pv 2) (aa (dE (pv 0) T.cl D hr XCx.of.passes) af))))
   (ad (bi (dy (cv (az DI hr rfl aA (aa (pv 3) (aa (pv 1) af))))) (ah (eh XCx.of T.xc rfl T.gE rfl (aa cb af))) aK)
   (ah (au (pv 3))))),?_⟩
  refine⟨_,rfl,S,dx,_,rfl,hS,rfl,S,a,xs,i,rfl,hs,fun z j1 v1 H1 r1 kb1 src1 rep1=>?_,fun H1 r1 kb1=>?_⟩
  ·cases rep1
   obtain⟨⟨dx1,hS1⟩,ha1,hi1⟩:=id src1
   refine⟨_,rfl,_,rfl,S,dx1,_,rfl,hS1,rfl,S,a,xs,j1,rfl,src1,fun y j2 v2 H2 r2 kb2 src2 rep2=>?_,fun H2 r2 kb2=>?_⟩
   ·cases rep2
    have hd:xs.drop i=z::y::xs.drop j2:=by
     rw[kK r1,kK r2]
    refine⟨by show 2≤sizeLine;decide,fun t ht=>?_⟩
    refine⟨_,rfl,_,rfl,wd,z,y,t,rfl,SqT.of ac,_,rfl,?_⟩
    cases hq:dG wd z y with
    | true=>
     obtain⟨z0,y0,hp⟩:=kg hq
     refine iteF ⟨_,rfl,?_⟩
     refine kok ⟨z.toNat,y.toNat⟩ j2 _ _ (by rw[hd,hp]) ((kb1.trans kb2).trans (ai ht).keepBut) (src2.same (ai ht)) ⟨t,rfl,?_⟩
     rw[ac]
     dsimp only
     rw[Int.toNat_of_nonneg z0,Int.toNat_of_nonneg y0]
    | false=>
     refine iteT ⟨by show 1≤sizeLine;decide,kno _ ?_ ((kb1.trans kb2).trans (ai ht).keepBut)⟩
     rw[hd,kh hq]
   ·refine kno H2 ?_ (kb1.trans kb2)
    rw[kK r1,pC r2,tz]
  ·refine kno H1 ?_ kb1
   rw[pC r1]
   rfl
def RepQ(p:Port)(v:V)(H:Hp):Prop:=∃ q,v=.ref q∧H q=some (.tup [.int (p.switch:Int),.int (p.port:Int)])
theorem nR:al ["source","switches","switch","port"] ["source","switches"] (aj jB):=⟨rfl,rfl,rfl,by decide +kernel,rfl,by decide +kernel,by decide +kernel⟩
theorem vp(T:TxtN K mg CN CE)(B:TxtB mg)(TP:TxtF K mg "read_port" jB ["source","switches"])(hP:mg "PORTS"=some (.int 6 tP))(n:Nat)(hn:1≤n):aq P w K mg base (FX P w) 4 "read_port" ["source","switches"] (spRd K CN CE [.int (n:Int)] (readPort n) RepQ):=by
 refine TP.defX nR (fun vs H Q E h=>?_) (fun f cdv A outer s H vs Q E hr h=>?_)
 ·obtain⟨S,a,xs,i,rfl,_⟩:=h
  rfl
 ·obtain⟨S,a,xs,i,rfl,hs,kok,kno⟩:=h
  have nd:=nR.nd
  have D:aF P w K mg base (FX P w) 3 CN "take" ["self","least","most"] (spRd K CN CE [.int ((0:Nat):Int),.int ((n - 1:Nat):Int)] (readNat 0 (n - 1)) RepN):=dl T B 0 (n - 1)
  have D2:aF P w K mg base (FX P w) 3 CN "take" ["self","least","most"] (spRd K CN CE [.int ((0:Nat):Int),.int ((5:Nat):Int)] (readNat 0 5) RepN):=dl T B 0 5
  obtain⟨⟨dx,hS⟩,ha,hi'⟩:=id hs
  refine⟨_,ad (ao (i:=2) nd rfl (Or.inl rfl) (aJ (pv 0) T.cl D hr XCx.of.passes (aa ak (aa (bG jQ (pv 1) ak) af))))
   (ad (ao (i:=3) nd rfl (Or.inl rfl) (aJ (pv 0) T.cl D2 hr XCx.of.passes (aa ak (aa (bG jQ (bT (v:=.int 6) rfl hP ⟨_,rfl⟩) ak) af))))
   (ah (au (aU (aa (pv 2) (aa (pv 3) af)))))),?_⟩
  have en:(n:Int) - 1=((n - 1:Nat):Int):=by omega
  have rp:∀ x,readPort n x=(readPair (readNat 0 (n - 1)) (readNat 0 5) x).map fun u=>(⟨u.1.1,u.1.2⟩,u.2):=fun _=>rfl
  refine⟨_,rfl,S,dx,_,rfl,hS,rfl,_,rfl,_,_,rfl,rfl,S,a,xs,i,by rw[←en];rfl,hs,fun x1 j1 v1 H1 r1 kb1 src1 rep1=>?_,fun H1 r1 kb1=>?_⟩
  ·cases rep1
   obtain⟨⟨dx1,hS1⟩,ha1,hi1⟩:=id src1
   refine⟨_,rfl,S,dx1,_,rfl,hS1,rfl,_,_,rfl,rfl,S,a,xs,j1,rfl,src1,fun x2 j2 v2 H2 r2 kb2 src2 rep2=>?_,fun H2 r2 kb2=>?_⟩
   ·cases rep2
    refine⟨_,rfl,_,rfl,by show 2≤sizeLine;decide,fun t ht=>?_⟩
    refine kok ⟨x1,x2⟩ j2 _ _ ?_ ((kb1.trans kb2).trans (ai ht).keepBut) (src2.same (ai ht)) ⟨t,rfl,ac⟩
    rw[rp]
    simp only[readPair,r1,r2,Option.bind_some,Option.map_some]
   ·refine kno H2 ?_ (kb1.trans kb2)
    rw[rp]
    simp only[readPair,r1,r2,Option.bind_some,Option.map_none]
  ·refine kno H1 ?_ kb1
   rw[rp]
   simp only[readPair,r1,Option.bind_none,Option.map_none]
theorem Src.ntup{H:Hp}{S a q:Addr}{xs:List Int}{i:Nat}{ys:List V}(h:Src K CN H S a xs i)(e:H q=some (.tup ys)):q≠S:=by
 obtain⟨dx,z⟩:=h.ins
 exact aP e z (by intro z;cases z)
abbrev lE:Stmt:=bM (top 13) 0
structure TxtR(K:Frag)(mg:Str→Option Value)(CR:Addr):Prop where
 cl:Cls K CR
 n1:bn K CR "pattern"
 n2:bn K CR "drops"
 n3:bn K CR "rewrite"
 n4:bn K CR "port"
 gR:mg "Rule"=some (.ref CR)
 init:TxtI K CR "Rule.__init__" lE ["self","pattern","drops","rewrite","port"]
def cK(a b c d:V):List (Str × V):=[("pattern",a),("drops",b),("rewrite",c),("port",d)]
def jn(CR:Addr):Sp:=fun vs H Q _=>∃ (p dx:Addr) (a b c d:V),vs=[.ref p,a,b,c,d]∧H p=some (.ins CR dx [])∧∀ H':Hp,H' p=some (.ins CR dx (cK a b c d))→aI p H H'→Q .non H'
theorem nO:al ["self","pattern","drops","rewrite","port"] ["self","pattern","drops","rewrite","port"] (aj lE):=⟨rfl,rfl,rfl,by decide +kernel,rfl,by decide +kernel,by decide +kernel⟩
theorem oB{CR:Addr}(T:TxtR K mg CR):dZ P w K mg base CX0 1 CR ["self","pattern","drops","rewrite","port"] (jn CR):=by
 refine T.init.def0 nO (fun vs H Q E h=>?_) (fun f cdv A outer s H vs Q E hr h=>?_)
 ·obtain⟨p,dx,a,b,c,d,rfl,_⟩:=h
  rfl
 ·obtain⟨p,dx,a,b,c,d,rfl,hp,k⟩:=h
  refine⟨_,ad (bO (pv 0) (pv 1) rfl) (ad (bO (pv 0) (pv 2) rfl) (ad (bO (pv 0) (pv 3) rfl) (ah (bO (pv 0) (pv 4) rfl)))),?_⟩
  refine⟨_,rfl,_,rfl,p,CR,dx,[],rfl,hp,T.cl,T.n1,by show 0 < 1000;decide,?_⟩
  refine⟨_,rfl,_,rfl,p,CR,dx,_,rfl,ac,T.cl,T.n2,by show 1 < 1000;decide,?_⟩
  refine⟨_,rfl,_,rfl,p,CR,dx,_,rfl,ac,T.cl,T.n3,by show 2 < 1000;decide,?_⟩
  refine⟨_,rfl,_,rfl,p,CR,dx,_,rfl,ac,T.cl,T.n4,by show 3 < 1000;decide,?_⟩
  exact k _ ac fun b o e hb=>by
   rw[ag hb,ag hb,ag hb,ag hb]
   exact e
def TupN(H:Hp)(q:Addr)(a b:Nat):Prop:=H q=some (.tup [.int (a:Int),.int (b:Int)])
def bV(CR:Addr)(H:Hp)(q:Addr)(r:Rule):Prop:=∃ dx p c,TupN H p r.pattern.told r.pattern.bits∧
 match r.action with
 | .drop=>H q=some (.ins CR dx (cK (.ref p) (.bl true) (.ref c) (.int 0)))
 | .send rw port=>H q=some (.ins CR dx (cK (.ref p) (.bl false) (.ref c) (.int (port:Int))))∧TupN H c rw.mask rw.bits
def RepRl(CR:Addr)(r:Rule)(v:V)(H:Hp):Prop:=∃ q,v=.ref q∧bV CR H q r
theorem bV.same{CR:Addr}{H H':Hp}{q:Addr}{r:Rule}(h:bV CR H q r)(s:∀ b o,H b=some o→((∃ xs,o=.tup xs)∨∃ dx a b c d,o=.ins CR dx (cK a b c d))→H' b=some o):bV CR H' q r:=by
 obtain⟨dx,p,c,h1,h2⟩:=h
 refine⟨dx,p,c,s _ _ h1 (.inl ⟨_,rfl⟩),?_⟩
 cases e:r.action with
 | drop=>
  rw[e] at h2
  exact s _ _ h2 (.inr ⟨_,_,_,_,_,rfl⟩)
 | send rw port=>
  rw[e] at h2
  exact⟨s _ _ h2.1 (.inr ⟨_,_,_,_,_,rfl⟩),s _ _ h2.2 (.inl ⟨_,rfl⟩)⟩
theorem nQ:al ["source","size","pattern","rewrite","port"] ["source","size"] (aj jA):=⟨rfl,rfl,rfl,by decide +kernel,rfl,by decide +kernel,by decide +kernel⟩
theorem fj{H H2:Hp}{x dx C:Addr}{o:HO}(nx:H x=none)(nd:H dx=none)(k:aI x (upd (upd H dx (.own x)) x (.ins C dx [])) H2):Same H H2:=fun b u e=>
 k b u (by rw[ag (ae e nx),ag (ae e nd)];exact e) (ae e nx)
theorem vo{CR:Addr}(T:TxtN K mg CN CE)(TR:TxtR K mg CR)(B:TxtB mg)(TI:TxtF K mg "is_pattern" dL ["pattern","size"])(TP:TxtF K mg "read_pattern" lF ["source","size"])(TQ:TxtF K mg "read_rule" jA ["source","size"])(hP:mg "PORTS"=some (.int 6 tP))(wd:Nat) :
  aq P w K mg base (FX P w) 4 "read_rule" ["source","size"] (spRd K CN CE [.int ((2 ^ wd:Nat):Int)] (VapktBase.readRule wd) (RepRl CR)):=by
 refine TQ.defX nQ (fun vs H Q E h=>?_) (fun f cdv A outer s H vs Q E hr h=>?_)
 ·obtain⟨S,a,xs,i,rfl,_⟩:=h
  rfl
 ·obtain⟨S,a,xs,i,rfl,hs,kok,kno⟩:=h
  have nd:=nQ.nd
  have hr2:Room 2 _:=hr.mono (by decide)
  have DP:aq P w K mg base (FX P w) 3 "read_pattern" ["source","size"] (spRd K CN CE [.int ((2 ^ wd:Nat):Int)] (readPattern wd) RepP):=w8 T B TI TP wd
  have D1:aF P w K mg base (FX P w) 3 CN "take" ["self","least","most"] (spRd K CN CE [.int ((0:Nat):Int),.int ((1:Nat):Int)] (readNat 0 1) RepN):=dl T B 0 1
  have D2:aF P w K mg base (FX P w) 3 CN "take" ["self","least","most"] (spRd K CN CE [.int ((0:Nat):Int),.int ((5:Nat):Int)] (readNat 0 5) RepN):=dl T B 0 5
  have DI:dZ P w K mg base CX0 1 CR ["self","pattern","drops","rewrite","port"] (jn CR):=oB TR
  obtain⟨⟨dx,hS⟩,ha,hi'⟩:=id hs
  refine⟨_,ad (ao (i:=2) nd rfl (Or.inl rfl) (az DP hr rfl XCx.of.passes (aa (pv 0) (aa (pv 1) af))))
   (ad (bi (aL bY (aJ (pv 0) T.cl D1 hr XCx.of.passes (aa ak (aa ak af))) ak (aR _))
    (ah (au (gh DI hr2 rfl TR.gR aA (aa (pv 2) (aa eB (aa (aU (aa ak (aa ak af))) (aa ak af))))))) aK)
   (ad (ao (i:=3) nd rfl (Or.inl rfl) (az DP hr rfl XCx.of.passes (aa (pv 0) (aa (pv 1) af))))
   (ad (ao (i:=4) nd rfl (Or.inl rfl) (aJ (pv 0) T.cl D2 hr XCx.of.passes (aa ak (aa (bG jQ (bT (v:=.int 6) rfl hP ⟨_,rfl⟩) ak) af))))
   (ah (au (gh DI hr2 rfl TR.gR aA (aa (pv 2) (aa eB (aa (pv 3) (aa (pv 4) af)))))))))),?_⟩
  have rr:∀ x,VapktBase.readRule wd x=(readPair (readPattern wd) (VapktBase.readAction wd) x).map fun u=>(⟨u.1.1,u.1.2⟩,u.2):=fun _=>rfl
  refine⟨_,rfl,_,rfl,S,a,xs,i,rfl,hs,fun x1 j1 v1 H1 r1 kb1 src1 rep1=>?_,fun H1 r1 kb1=>?_⟩
  ·obtain⟨p,rfl,hp⟩:=rep1
   obtain⟨⟨dx1,hS1⟩,ha1,hi1⟩:=id src1
   refine⟨_,rfl,S,dx1,_,rfl,hS1,rfl,S,a,xs,j1,rfl,src1,fun x2 j2 v2 H2 r2 kb2 src2 rep2=>?_,fun H2 r2 kb2=>?_⟩
   ·cases rep2
    have hp2:=kb2 _ _ hp (src1.ntup hp)
    have act:∃ r,xs.drop j1=(x2:Int)::r∧r=xs.drop j2∧x2≤1:=by
     cases hd:xs.drop j1 with
     | nil=>
      rw[hd] at r2
      cases r2
     | cons z r=>
      rw[hd] at r2
      have r2':(if(0:Int)≤z∧z≤1 then some (z.toNat,r) else none)=some (x2,xs.drop j2):=r2
      split at r2'
      ·rename_i hc
       cases r2'
       exact⟨_,by rw[Int.toNat_of_nonneg hc.1],rfl,by omega⟩
      ·cases r2'
    obtain⟨r,hd,er,h1⟩:=act
    refine⟨rfl,_,rfl,?_⟩
    by_cases h0:x2=0
    ·subst h0
     refine iteT ⟨_,rfl,by show 2≤sizeLine;decide,fun t ht=>?_⟩
     intro q dq nq ndq neq
     refine⟨q,dq,_,_,_,_,rfl,ac,fun H3 e3 kb3=>⟨rfl,?_⟩⟩
     have s3:Same (upd H2 t _) H3:=fj (o:=.lst []) nq ndq kb3
     have s4:Same H2 H3:=(ai ht).trans s3
     refine kok ⟨x1,.drop⟩ j2 _ _ ?_ ((kb1.trans kb2).trans s4.keepBut) (src2.same s4) ⟨q,rfl,dq,p,t,s4 _ _ hp2,e3⟩
     rw[rr]
     simp only[readPair,r1,Option.bind_some]
     rw[hd,er]
     rfl
    ·have hx:x2=1:=by omega
     subst hx
     have nz:¬ V.int ((1:Nat):Int)=V.int 0:=by intro z;injection z with z;cases z
     rw[decide_eq_false nz]
     refine iteF ?_
     have ra:VapktBase.readAction wd (xs.drop j1)=(readPair (VapktBase.readRewrite wd) (readNat 0 5) (xs.drop j2)).map fun u=>(.send u.1.1 u.1.2,u.2):=by
      rw[hd,er]
      rfl
     refine⟨_,rfl,_,rfl,S,a,xs,j2,rfl,src2,fun x3 j3 v3 H3 r3 kb3 src3 rep3=>?_,fun H3 r3 kb3=>?_⟩
     ·obtain⟨c,rfl,hc⟩:=rep3
      obtain⟨⟨dx3,hS3⟩,ha3,hi3⟩:=id src3
      refine⟨_,rfl,S,dx3,_,rfl,hS3,rfl,_,_,rfl,rfl,S,a,xs,j3,rfl,src3,fun x4 j4 v4 H4 r4 kb4 src4 rep4=>?_,fun H4 r4 kb4=>?_⟩
      ·cases rep4
       refine⟨_,rfl,_,rfl,_,rfl,?_⟩
       intro q dq nq ndq neq
       refine⟨q,dq,_,_,_,_,rfl,ac,fun H5 e5 kb5=>⟨rfl,?_⟩⟩
       have s5:Same H4 H5:=fj (o:=.lst []) nq ndq kb5
       have hp4:=kb4 _ _ (kb3 _ _ hp2 (src2.ntup hp2)) (src3.ntup (kb3 _ _ hp2 (src2.ntup hp2)))
       have hc4:=kb4 _ _ hc (src3.ntup hc)
       refine kok ⟨x1,.send ⟨x3.told,x3.bits⟩ x4⟩ j4 _ _ ?_ ((((kb1.trans kb2).trans kb3).trans kb4).trans s5.keepBut) (src4.same s5) ⟨q,rfl,dq,p,c,s5 _ _ hp4,e5,s5 _ _ hc4⟩
       rw[rr]
       simp only[readPair,r1,Option.bind_some,ra,VapktBase.readRewrite,r3,Option.map_some,r4]
      ·refine kno H4 ?_ (((kb1.trans kb2).trans kb3).trans kb4)
       rw[rr]
       simp only[readPair,r1,Option.bind_some,ra,VapktBase.readRewrite,r3,Option.map_some,r4,Option.map_none]
     ·refine kno H3 ?_ ((kb1.trans kb2).trans kb3)
      rw[rr]
      simp only[readPair,r1,Option.bind_some,ra,VapktBase.readRewrite,r3,Option.map_none,Option.bind_none]
   ·refine kno H2 ?_ (kb1.trans kb2)
    have ra:VapktBase.readAction wd (xs.drop j1)=none:=by
     cases hd:xs.drop j1 with
     | nil=>rfl
     | cons z r=>
      rw[hd] at r2
      have r2':(if(0:Int)≤z∧z≤1 then some (z.toNat,r) else none)=none:=r2
      split at r2'
      ·cases r2'
      ·rename_i hc
       unfold VapktBase.readAction
       split
       ·rename_i e
        injection e with e1 e2
        omega
       ·rename_i e
        injection e with e1 e2
        omega
       ·rfl
    rw[rr]
    simp only[readPair,r1,Option.bind_some,ra,Option.map_none]
  ·refine kno H1 ?_ kb1
   rw[rr]
   simp only[readPair,r1,Option.bind_none,Option.map_none]
theorem Src.nrule{CR:Addr}{H:Hp}{S a q:Addr}{xs:List Int}{i:Nat}{o:HO}(h:Src K CN H S a xs i)(e:H q=some o)(ho:(∃ ys,o=.tup ys)∨(∃ dx a b c d,o=.ins CR dx (cK a b c d))∨∃ ys,o=.lst ys):q≠S:=by
 obtain⟨dx,z⟩:=h.ins
 rcases ho with⟨ys,rfl⟩ | ⟨dx',a',b',c',d',rfl⟩ | ⟨ys,rfl⟩
 ·exact aP e z (by intro z;cases z)
 ·refine aP e z fun q=>?_
  injection q with q1 q2 q3
  injection q3 with q4 _
  injection q4 with q5 _
  exact absurd q5 (by decide)
 ·exact aP e z (by intro z;cases z)
def dX(CR:Addr)(H:Hp)(qs:List Addr)(t:List Rule):Prop:=Paired (fun q r=>bV CR H q r) qs t
def RepT(CR:Addr)(t:List Rule)(v:V)(H:Hp):Prop:=∃ l qs,v=.ref l∧H l=some (.lst (qs.map V.ref))∧dX CR H qs t
theorem bV.keep{CR:Addr}{H H':Hp}{S a q:Addr}{xs:List Int}{i:Nat}{r:Rule}(h:bV CR H q r)(s:Src K CN H S a xs i)(k:aI S H H'):bV CR H' q r:=
 h.same fun b o e ho=>k b o e (s.nrule (CR:=CR) e (ho.imp id Or.inl))
theorem dX.keep{CR:Addr}{H H':Hp}{S a:Addr}{xs:List Int}{i:Nat}{qs:List Addr}{t:List Rule}(h:dX CR H qs t)(s:Src K CN H S a xs i)(k:aI S H H'):dX CR H' qs t:=
 Paired.mapP h fun q r e=>e.keep s k
theorem bV.all{CR:Addr}{H H':Hp}{q:Addr}{r:Rule}(h:bV CR H q r)(s:Same H H'):bV CR H' q r:=h.same fun b o e _=>s b o e
theorem cR{α:Type}{R:Reader α}:∀ {i:Nat} {x r r':List Int} {l:List α} {y:α},readTimes R i x=some (l,r)→R r=some (y,r')→readTimes R (i+1) x=some (l++[y],r')
 | 0,x,r,r',l,y,h1,h2=>by
  cases h1
  show((R x).bind fun u=>(readTimes R 0 u.2).map fun v=>(u.1::v.1,v.2))=_
  rw[h2]
  rfl
 | i+1,x,r,r',l,y,h1,h2=>by
  have h1:((R x).bind fun u=>(readTimes R i u.2).map fun v=>(u.1::v.1,v.2))=some (l,r):=h1
  show((R x).bind fun u=>(readTimes R (i+1) u.2).map fun v=>(u.1::v.1,v.2))=_
  cases e:R x with
  | none=>
   rw[e] at h1
   cases h1
  | some u=>
   rw[e] at h1
   have h1:(readTimes R i u.2).map (fun v=>(u.1::v.1,v.2))=some (l,r):=h1
   cases e2:readTimes R i u.2 with
   | none=>
    rw[e2] at h1
    cases h1
   | some v=>
    rw[e2] at h1
    cases h1
    show(readTimes R (i+1) u.2).map (fun v=>(u.1::v.1,v.2))=_
    rw[cR e2 h2]
    rfl
theorem cS{α:Type}{R:Reader α}:∀ {i n:Nat} {x r:List Int} {l:List α},readTimes R i x=some (l,r)→R r=none→i < n→readTimes R n x=none
 | 0,n+1,x,r,l,h1,h2,_=>by
  cases h1
  show((R x).bind fun u=>(readTimes R n u.2).map fun v=>(u.1::v.1,v.2))=_
  rw[h2]
  rfl
 | i+1,n+1,x,r,l,h1,h2,hn=>by
  have h1:((R x).bind fun u=>(readTimes R i u.2).map fun v=>(u.1::v.1,v.2))=some (l,r):=h1
  show((R x).bind fun u=>(readTimes R n u.2).map fun v=>(u.1::v.1,v.2))=_
  cases e:R x with
  | none=>rfl
  | some u=>
   rw[e] at h1
   have h1:(readTimes R i u.2).map (fun v=>(u.1::v.1,v.2))=some (l,r):=h1
   cases e2:readTimes R i u.2 with
   | none=>
    rw[e2] at h1
    cases h1
   | some v=>
    rw[e2] at h1
    cases h1
    show(readTimes R n u.2).map (fun v=>(u.1::v.1,v.2))=_
    rw[cS e2 h2 (by omega)]
    rfl
theorem eU{α:Type}{R:Reader α}:∀ {i:Nat} {x r:List Int} {l:List α},readTimes R i x=some (l,r)→l.length=i
 | 0,x,r,l,h=>by
  cases h
  rfl
 | i+1,x,r,l,h=>by
  have h:((R x).bind fun u=>(readTimes R i u.2).map fun v=>(u.1::v.1,v.2))=some (l,r):=h
  cases e:R x with
  | none=>
   rw[e] at h
   cases h
  | some u=>
   rw[e] at h
   have h:(readTimes R i u.2).map (fun v=>(u.1::v.1,v.2))=some (l,r):=h
   cases e2:readTimes R i u.2 with
   | none=>
    rw[e2] at h
    cases h
   | some v=>
    rw[e2] at h
    cases h
    show v.1.length+1=_
    rw[eU e2]
theorem rm:al ["source","size","number"] ["source","size"] (aj rF):=⟨rfl,rfl,rfl,by decide +kernel,rfl,by decide +kernel,by decide +kernel⟩
theorem w6{CR:Addr}(T:TxtN K mg CN CE)(TR:TxtR K mg CR)(B:TxtB mg)(TI:TxtF K mg "is_pattern" dL ["pattern","size"])(TP:TxtF K mg "read_pattern" lF ["source","size"])(TQ:TxtF K mg "read_rule" jA ["source","size"])(TT:TxtF K mg "read_table" rF ["source","size"])
  (hP:mg "PORTS"=some (.int 6 tP)) (hM:mg "MOST_RULES"=some (.int 8 tM)) (wd:Nat) :
  aq P w K mg base (FX P w) 5 "read_table" ["source","size"] (ut K CN CE [.int ((2 ^ wd:Nat):Int)] (readTable wd) (RepT CR)):=by
 refine TT.defX rm (fun vs H Q E h=>?_) (fun f cdv A outer s H vs Q E hr h=>?_)
 ·obtain⟨S,a,xs,i,rfl,_⟩:=h
  rfl
 ·obtain⟨S,a,xs,i,rfl,hs,kok,kno⟩:=h
  have nd:=rm.nd
  have hr2:Room 2 _:=hr.mono (by decide)
  have hr3:Room 3 _:=hr.mono (by decide)
  have DR:aq P w K mg base (FX P w) 4 "read_rule" ["source","size"] (spRd K CN CE [.int ((2 ^ wd:Nat):Int)] (VapktBase.readRule wd) (RepRl CR)):=vo T TR B TI TP TQ hP wd
  have D1:aF P w K mg base (FX P w) 3 CN "take" ["self","least","most"] (spRd K CN CE [.int ((0:Nat):Int),.int ((8:Nat):Int)] (readNat 0 8) RepN):=dl T B 0 8
  obtain⟨⟨dx,hS⟩,ha,hi'⟩:=id hs
  refine⟨_,ah (au (pe_lcX (g:=aY 2) (own:=[("number",2)]) XCx.of rfl nd (bJ rfl B.range (aa (aJ (pv 0) T.cl D1 hr3 XCx.of.passes (aa ak (aa (bT (v:=.int 8) rfl hM ⟨_,rfl⟩) af))) af)) (bb rfl)
   (fun _ _ _ _ _=>ay (i:=2) nd rfl (Or.inl rfl) (Or.inr rfl)) (fun _ _ _ _ _=>b8) (fun _ _ _ _ _ _ hW=>az DR hr rfl hW (aa (pv 0) (aa (pv 1) af))))),?_⟩
  have rt:∀ x,readTable wd x=(readNat 0 8 x).bind fun n=>readTimes (VapktBase.readRule wd) n.1 n.2:=fun _=>rfl
  refine⟨_,rfl,S,dx,_,rfl,hS,rfl,S,a,xs,i,rfl,hs,fun n j1 v1 H1 r1 kb1 src1 rep1=>?_,fun H1 r1 kb1=>?_⟩
  ·cases rep1
   have n8:n≤8:=by
    cases hd:xs.drop i with
    | nil=>
     rw[hd] at r1
     cases r1
    | cons z r=>
     rw[hd] at r1
     have r1':(if(0:Int)≤z∧z≤8 then some (z.toNat,r) else none)=some (n,xs.drop j1):=r1
     split at r1'
     ·cases r1'
      omega
     ·cases r1'
   refine⟨(n:Int),rfl,by omega,by omega,fun D hD=>?_⟩
   show ∃ W:Nat→Nat→Hp→Prop,_
   rw[Int.toNat_natCast]
   have nDS:D≠S:=by
    obtain⟨dx1,z⟩:=src1.ins
    exact(ae z hD).symm
   refine gm (lo:=0) (n:=n) (fun i' H'=>∃ (j:Nat) (qs:List Addr) (t:List Rule),(∀ b o,H1 b=some o→b≠S→H' b=some o)∧Src K CN H' S a xs j∧H' D=some (.lst (qs.map V.ref))∧dX CR H' qs t∧readTimes (VapktBase.readRule wd) i' (xs.drop j1)=some (t,xs.drop j)) ?_ ?_ ?_
   ·exact⟨j1,[],[],(ai hD).keepBut,src1.same (ai hD),ac,.nil,rfl⟩
   ·rintro i' H' hi ⟨j,qs,t,kb,src,hDl,hq,rd⟩
    refine⟨rfl,?_⟩
    unfold tYes
    dsimp only
    rw[if_pos rfl]
    have lq:qs.length≤8:=by
     rw[Paired.length hq,eU rd]
     omega
    refine⟨_,rfl,_,rfl,S,a,xs,j,rfl,src,fun x2 j2 v2 H2 r2 kb2 src2 rep2=>?_,fun H2 r2 kb2=>?_⟩
    ·obtain⟨q,rfl,hr2⟩:=rep2
     have hD2:=kb2 _ _ hDl nDS
     refine⟨_,hD2,by rw[length_map];exact aH (m:=8) lq,j2,qs++[q],t++[x2],?_,?_,?_,?_,cR rd r2⟩
     ·intro b o hb nb
      rw[ag (ae hb hD)]
      exact kb2 _ _ (kb b o hb nb) nb
     ·obtain⟨⟨d2,z⟩,l,le⟩:=src2
      refine⟨⟨d2,by rw[ag nDS.symm];exact z⟩,?_,le⟩
      rw[ag (ae src1.lst hD)]
      exact l
     ·rw[ac,map_append]
      rfl
     ·have nlD:∀ b o,H2 b=some o→((∃ xs,o=.tup xs)∨∃ dx a b c d,o=.ins CR dx (cK a b c d))→b≠D:=fun b o e ho=>by
       rcases ho with⟨ys,rfl⟩ | ⟨_,_,_,_,_,rfl⟩
       ·exact aP e hD2 (by intro z;cases z)
       ·exact aP e hD2 (by intro z;cases z)
      have up:∀ {q':Addr} {r':Rule},bV CR H2 q' r'→bV CR (upd H2 D (.lst (qs.map V.ref++[.ref q]))) q' r':=fun h=>h.same fun b o e ho=>by
       rw[ag (nlD b o e ho)]
       exact e
      exact Paired.snoc (Paired.mapP (hq.keep src kb2) fun _ _ h=>up h) (up hr2)
    ·refine kno H2 ?_ (kb1.trans (fun b o hb nb=>kb2 _ _ (kb b o hb nb) nb))
     rw[rt,r1]
     exact cS rd r2 hi
   ·rintro H' ⟨j,qs,t,kb,src,hDl,hq,rd⟩
    refine kok t j _ _ ?_ (kb1.trans kb) src ⟨D,qs,rfl,hDl,hq⟩ (fun l e=>by cases e;exact kb1.free hD nDS)
    rw[rt,r1]
    exact rd
  ·refine kno H1 ?_ kb1
   rw[rt,r1]
   rfl
def aQ(l:List (Port × Port)):List Port:=l.flatMap fun x=>[x.1,x.2]
theorem qT{α:Type}[BEq α][LawfulBEq α]:∀ (ps pre:List α),(ps.zipIdx pre.length).all (fun x=>!((pre++ps).take x.2).contains x.1)=true↔(∀ p∈ps,p ∉ pre)∧ps.Nodup
 | [],pre=>by simp
 | p::r,pre=>by
  have ih:=qT r (pre++[p])
  rw[List.zipIdx_cons,List.all_cons,Bool.and_eq_true]
  have e1:pre.length+1=(pre++[p]).length:=by simp
  have e2:pre++p::r=(pre++[p])++r:=by simp
  rw[e1,e2,ih]
  have e3:((pre++[p]++r).take pre.length).contains p=pre.contains p:=by
   rw[append_assoc,List.take_left]
  simp only[e3,Bool.not_eq_true',List.contains_eq_mem,decide_eq_false_iff_not,mem_append,List.mem_singleton,not_or,List.nodup_cons,mem_cons,forall_eq_or_imp]
  constructor
  ·rintro⟨h1,h2,h3⟩
   exact⟨⟨h1,fun a ha=>(h2 a ha).1⟩,fun hp=>(h2 p hp).2.1 rfl,h3⟩
  ·rintro⟨⟨h1,h2⟩,h3,h4⟩
   exact⟨h1,fun a ha=>⟨h2 a ha,fun e=>h3 (by rw[←e];exact ha),by simp⟩,h4⟩
theorem iq(l:List (Port × Port)):linksApart l=true↔(aQ l).Nodup:=by
 have:=qT (aQ l) []
 rw[List.length_nil] at this
 show((aQ l).zipIdx.all fun x=>!((aQ l).take x.2).contains x.1)=true↔_
 rw[show((aQ l).zipIdx.all fun x=>!((aQ l).take x.2).contains x.1)=((aQ l).zipIdx 0).all fun x=>!(([]++aQ l).take x.2).contains x.1 from rfl,this]
 simp
theorem kX{α:Type}{R:Reader α}:∀ {i n:Nat} {x r r':List Int} {l l':List α},readTimes R i x=some (l,r)→readTimes R n x=some (l',r')→i≤n→∃ more,l'=l++more
 | 0,n,x,r,r',l,l',h1,h2,_=>by
  cases h1
  exact⟨l',rfl⟩
 | i+1,n+1,x,r,r',l,l',h1,h2,hn=>by
  have h1:((R x).bind fun u=>(readTimes R i u.2).map fun v=>(u.1::v.1,v.2))=some (l,r):=h1
  have h2:((R x).bind fun u=>(readTimes R n u.2).map fun v=>(u.1::v.1,v.2))=some (l',r'):=h2
  cases e:R x with
  | none=>
   rw[e] at h1
   cases h1
  | some u=>
   rw[e] at h1 h2
   have h1:(readTimes R i u.2).map (fun v=>(u.1::v.1,v.2))=some (l,r):=h1
   have h2:(readTimes R n u.2).map (fun v=>(u.1::v.1,v.2))=some (l',r'):=h2
   cases e1:readTimes R i u.2 with
   | none=>
    rw[e1] at h1
    cases h1
   | some v1=>
    cases e2:readTimes R n u.2 with
    | none=>
     rw[e2] at h2
     cases h2
    | some v2=>
     rw[e1] at h1
     rw[e2] at h2
     cases h1
     cases h2
     obtain⟨more,e3⟩:=kX e1 e2 (by omega)
     exact⟨more,by rw[e3];rfl⟩
abbrev Lk:=Port × Port
def dm(n:Nat):Reader Lk:=readPair (readPort n) (readPort n)
def fR(n:Nat):Reader (List Lk):=fun x=>(readListed 10 (dm n) x).bind fun l=>if linksApart l.1 then some l else none
theorem tQ{n k i:Nat}{x r r':List Int}{l:List Lk}{pq:Lk}(h1:readTimes (dm n) i x=some (l,r))(h2:dm n r=some (pq,r'))(hb:¬ (aQ (l++[pq])).Nodup)(hi:i < k) :
  ((readTimes (dm n) k x).bind fun l=>if linksApart l.1 then some l else none)=none:=by
 cases e:readTimes (dm n) k x with
 | none=>rfl
 | some v=>
  obtain⟨more,e2⟩:=kX (cR h1 h2) (show _=some (v.1,v.2) from e) (by omega)
  show(if linksApart v.1 then some v else none)=none
  rw[if_neg]
  rw[iq,e2]
  intro nd
  apply hb
  unfold aQ at nd ⊢
  rw[flatMap_append] at nd
  exact(nodup_append.mp nd).1
def pk(p:Port):List Key:=[Sum.inl (p.switch:Int),Sum.inl (p.port:Int)]
theorem va{p q:Port}(h:pk p=pk q):p=q:=by
 unfold pk at h
 injection h with h1 h2
 injection h2 with h2 _
 injection h1 with h1
 injection h2 with h2
 cases p
 cases q
 simp only[Port.mk.injEq]
 constructor
 ·exact Int.ofNat.inj h1
 ·exact Int.ofNat.inj h2
def nn(H:Hp)(t:Addr)(l:Lk):Prop:=∃ a b,H t=some (.tup [.ref a,.ref b])∧TupN H a l.1.switch l.1.port∧TupN H b l.2.switch l.2.port
theorem nn.same{H H':Hp}{t:Addr}{l:Lk}(h:nn H t l)(s:∀ b xs,H b=some (.tup xs)→H' b=some (.tup xs)):nn H' t l:=
 let ⟨a,b,h1,h2,h3⟩:=h
 ⟨a,b,s _ _ h1,s _ _ h2,s _ _ h3⟩
def fC(H:Hp)(ts:List Addr)(l:List Lk):Prop:=Paired (fun t x=>nn H t x) ts l
def RepL(l:List Lk)(v:V)(H:Hp):Prop:=∃ d ts,v=.ref d∧H d=some (.lst (ts.map V.ref))∧fC H ts l
theorem lm:al ["source","switches","links","linked","number","one","other"] ["source","switches"] (aj jb):=⟨rfl,rfl,rfl,by decide +kernel,rfl,by decide +kernel,by decide +kernel⟩
theorem wb(p q:Port):PyData.eqv (.tuple ([(p.switch:Int),(p.port:Int)].map PyData.int)) (.tuple ([(q.switch:Int),(q.port:Int)].map PyData.int))=decide (p=q):=by
 show PyData.eqvAll _ _=_
 rw[eM,decide_eq_decide]
 constructor
 ·intro h
  injection h with h1 h2
  injection h2 with h2 _
  cases p
  cases q
  simp only[Port.mk.injEq]
  exact⟨Int.ofNat.inj h1,Int.ofNat.inj h2⟩
 ·intro h
  rw[h]
theorem tF(T:TxtN K mg CN CE)(B:TxtB mg)(TP:TxtF K mg "read_port" jB ["source","switches"])(TL:TxtF K mg "read_links" jb ["source","switches"])(hP:mg "PORTS"=some (.int 6 tP))(hM:mg "MOST_LINKS"=some (.int 10 tM))(n:Nat)(hn:1≤n) :
  aq P w K mg base (FX P w) 5 "read_links" ["source","switches"] (spRd K CN CE [.int (n:Int)] (fR n) RepL):=by
 refine TL.defX lm (fun vs H Q E h=>?_) (fun f cdv A outer s H vs Q E hr h=>?_)
 ·obtain⟨S,a,xs,i,rfl,_⟩:=h
  rfl
 ·obtain⟨S,a,xs,i,rfl,hs,kok,kno⟩:=h
  have nd:=lm.nd
  have hr2:Room 2 _:=hr.mono (by decide)
  have hr3:Room 3 _:=hr.mono (by decide)
  have hu:=dr hr
  have DP:aq P w K mg base (FX P w) 4 "read_port" ["source","switches"] (spRd K CN CE [.int (n:Int)] (readPort n) RepQ):=vp T B TP hP n hn
  have D1:aF P w K mg base (FX P w) 3 CN "take" ["self","least","most"] (spRd K CN CE [.int ((0:Nat):Int),.int ((10:Nat):Int)] (readNat 0 10) RepN):=dl T B 0 10
  refine⟨_,ad (ao (i:=2) nd rfl (Or.inl rfl) (bz af))
   (ad (ao (i:=3) nd rfl (Or.inl rfl) bH)
   (ad (bx vj rfl (bJ rfl B.range (aa (aJ (pv 0) T.cl D1 hr3 XCx.of.passes (aa ak (aa (bT (v:=.int 10) rfl hM ⟨_,rfl⟩) af))) af)) (ay (i:=4) nd rfl (Or.inl rfl))
    (ad (ao (i:=5) nd rfl (Or.inl rfl) (az DP hr rfl XCx.of.passes (aa (pv 0) (aa (pv 1) af))))
    (ad (ao (i:=6) nd rfl (Or.inl rfl) (az DP hr rfl XCx.of.passes (aa (pv 0) (aa (pv 1) af))))
    (ad (bi (PW.pt (uX (aL (jR hr.units) (pv 5) (pv 6) (aR _)) (uX (bN (mJ hu (pv 5) (pv 3))) (uW (bN (mJ hu (pv 6) (pv 3)))))))
     (ah (eh XCx.of T.xc rfl T.gE rfl (aa cb af))) aK)
    (ad (bu hu (pv 3) (pv 5) eB rfl)
    (ad (bu hu (pv 3) (pv 6) eB rfl)
    (ah (b9 (eu PySem.F.plainAttrs_list PySem.F.slot_list_append PySem.F.type_list_append fh (pv 2) (aa (aU (aa (pv 5) (aa (pv 6) af))) af))))))))))
   (ah (au (pv 2))))),?_⟩
  refine⟨Nat.zero_le _,fun L hL=>?_⟩
  intro M hM0
  have nML:M≠L:=(ae ac hM0).symm
  have hM1:H M=none:=by
   rw[ag nML] at hM0
   exact hM0
  have s1:Same H (upd (upd H L (.lst [])) M (.dT [])):=(ai hL).trans (ai hM0)
  have src0:=hs.same s1
  obtain⟨dx,hS0⟩:=hs.ins
  have nSL:S≠L:=ae hS0 hL
  have nSM:S≠M:=ae hS0 hM1
  have naL:a≠L:=ae hs.lst hL
  have naM:a≠M:=ae hs.lst hM1
  obtain⟨dx0,hS1⟩:=src0.ins
  refine⟨_,rfl,S,dx0,_,rfl,hS1,rfl,S,a,xs,i,rfl,src0,fun k j1 v1 H1 r1 kb1 src1 rep1=>?_,fun H1 r1 kb1=>?_⟩
  ·cases rep1
   have k10:k≤10:=by
    cases hd:xs.drop i with
    | nil=>
     rw[hd] at r1
     cases r1
    | cons z r=>
     rw[hd] at r1
     have r1':(if(0:Int)≤z∧z≤10 then some (z.toNat,r) else none)=some (k,xs.drop j1):=r1
     split at r1'
     ·cases r1'
      omega
     ·cases r1'
   refine⟨(k:Int),rfl,by omega,by omega,?_⟩
   rw[Int.toNat_natCast]
   have lr:fR n (xs.drop i)=(readTimes (dm n) k (xs.drop j1)).bind fun l=>if linksApart l.1 then some l else none:=by
    show((readNat 0 10 (xs.drop i)).bind fun m=>readTimes (dm n) m.1 m.2).bind _=_
    rw[r1]
    rfl
   refine ft (lo:=0) (n:=k) (fun i' σ H'=>∃ (v4 v5 v6:Option V) (j:Nat) (ts:List Addr) (l:List Lk) (kvs:List (List Key × V)),σ=[some (.ref S),some (.int (n:Int)),some (.ref L),some (.ref M),v4,v5,v6]∧
    (∀ b o,H b=some o→b≠S→H' b=some o)∧Src K CN H' S a xs j∧H' L=some (.lst (ts.map V.ref))∧fC H' ts l∧H' M=some (.dT kvs)∧(∀ c,(valV kvs c).isSome=true↔∃ p∈aQ l,c=pk p)∧kvs.length≤2*i'∧(aQ l).Nodup∧
    readTimes (dm n) i' (xs.drop j1)=some (l,xs.drop j)) ?_ ?_ ?_
   ·refine⟨none,none,none,j1,[],[],[],rfl,fun b o hb nb=>kb1 _ _ (s1 _ _ hb) nb,src1,kb1 _ _ ?_ nSL.symm,.nil,kb1 _ _ ac nSM.symm,fun c=>?_,Nat.zero_le _,nodup_nil,rfl⟩
    ·rw[ag nML.symm,ac]
     rfl
    ·rw[jh]
     simp[aQ]
   ·rintro i' σ H' hi ⟨v4,v5,v6,j,ts,l,kvs,rfl,kb,src,hLl,hl,hMd,hdom,hkl,hnd,rd⟩
    have ll:=eU rd
    have lt:ts.length=i':=by rw[Paired.length hl,ll]
    refine⟨_,rfl,_,rfl,S,a,xs,j,rfl,src,fun p j2 v2 H2 r2 kb2 src2 rep2=>?_,fun H2 r2 kb2=>?_⟩
    ·obtain⟨q1,rfl,hq1⟩:=rep2
     refine⟨_,rfl,_,rfl,S,a,xs,j2,rfl,src2,fun q j3 v3 H3 r3 kb3 src3 rep3=>?_,fun H3 r3 kb3=>?_⟩
     ·obtain⟨q2,rfl,hq2⟩:=rep3
      have rdl:dm n (xs.drop j)=some ((p,q),xs.drop j3):=by
       unfold dm readPair
       simp only[r2,r3,Option.bind_some,Option.map_some]
      have hq1':=kb3 _ _ hq1 (src2.ntup hq1)
      have hL3:=kb3 _ _ (kb2 _ _ hLl nSL.symm) nSL.symm
      have hM3:=kb3 _ _ (kb2 _ _ hMd nSM.symm) nSM.symm
      have kbH:∀ b o,H b=some o→b≠S→H3 b=some o:=fun b o hb nb=>kb3 _ _ (kb2 _ _ (kb _ _ hb nb) nb) nb
      have pl:aQ (l++[(p,q)])=aQ l++[p,q]:=by
       unfold aQ
       rw[flatMap_append]
       rfl
      have inD:∀ {r:Port},(valV kvs (pk r)).isSome=true↔r∈aQ l:=fun {r}=>by
       rw[hdom]
       constructor
       ·rintro⟨p',hp',e⟩
        rw[va e]
        exact hp'
       ·intro h
        exact⟨r,h,rfl⟩
      have bad:¬ (aQ (l++[(p,q)])).Nodup→ul E CE (cC (tC (.str "a port is linked twice")) tNil) ⟨fun _ _=>False,fun _ _=>False,fun _ _=>False,fun _ _=>False⟩ [] H3:=fun hb=>
       ⟨by show 1≤sizeLine;decide,kno H3 (by rw[lr];exact tQ rd rdl hb hi) (fun b o hb nb=>kbH b o hb nb)⟩
      refine⟨_,rfl,_,rfl,_,_,.tup (SqT.of hq1') (cA [(p.switch:Int),(p.port:Int)]),.tup (SqT.of hq2) (cA [(q.switch:Int),(q.port:Int)]),dB _,dB _,_,rfl,?_⟩
      rw[wb]
      by_cases hpq:p=q
      ·rw[decide_eq_true hpq]
       refine iteT (iteT (bad ?_))
       rw[pl,hpq]
       intro z
       have:=(nodup_append.mp z).2.1
       simp at this
      ·rw[decide_eq_false hpq]
       refine iteF ⟨_,rfl,_,rfl,M,_,rfl,DGet.t (k:=pk p) hM3 hq1',_,rfl,?_⟩
       by_cases hp:(valV kvs (pk p)).isSome=true
       ·rw[hp]
        refine iteT (iteT (bad ?_))
        rw[pl]
        intro z
        exact(nodup_append.mp z).2.2 p (inD.mp hp) p (by simp) rfl
       ·rw[Bool.not_eq_true] at hp
        rw[hp]
        refine iteF ⟨_,rfl,_,rfl,M,_,rfl,DGet.t (k:=pk q) hM3 hq2,_,rfl,?_⟩
        by_cases hq:(valV kvs (pk q)).isSome=true
        ·rw[hq]
         refine iteT (bad ?_)
         rw[pl]
         intro z
         exact(nodup_append.mp z).2.2 q (inD.mp hq) q (by simp) rfl
        ·rw[Bool.not_eq_true] at hq
         rw[hq]
         refine iteF ?_
         have np:p ∉ aQ l:=fun z=>by rw[inD.mpr z] at hp;cases hp
         have nq:q ∉ aQ l:=fun z=>by rw[inD.mpr z] at hq;cases hq
         have kl1:(putK kvs (pk p) (.bl true)).length≤2*i'+1:=Nat.le_trans (aX _ _ _) (by omega)
         have kl2:(putK (putK kvs (pk p) (.bl true)) (pk q) (.bl true)).length≤2*i'+2:=Nat.le_trans (aX _ _ _) (by omega)
         have n1M:q1≠M:=aP hq1' hM3 (by intro z;cases z)
         have n2M:q2≠M:=aP hq2 hM3 (by intro z;cases z)
         refine⟨_,rfl,_,rfl,M,_,rfl,DPut.t (k:=pk p) hM3 hq1' (aH (m:=20) (by omega)),?_⟩
         refine⟨_,rfl,_,rfl,M,_,rfl,DPut.t (k:=pk q) ac (by rw[ag n2M];exact hq2) (aH (m:=21) (by omega)),?_⟩
         rw[qV]
         generalize hH4:upd H3 M (.dT (putK (putK kvs (pk p) (.bl true)) (pk q) (.bl true)))=H4
         have k4:∀ b o,H3 b=some o→b≠M→H4 b=some o:=fun b o hb nb=>by
          rw[←hH4,ag nb]
          exact hb
         have hM4:H4 M=some (.dT (putK (putK kvs (pk p) (.bl true)) (pk q) (.bl true))):=by rw[←hH4,ac]
         have hL4:=k4 _ _ hL3 nML.symm
         refine⟨_,rfl,.inl ⟨rfl,_,SqL.of hL4⟩,_,rfl,_,rfl,by show 2≤sizeLine;decide,fun t ht=>?_⟩
         have s5:=ai (o:=.tup [.ref q1,.ref q2]) ht
         refine⟨L,_,_,rfl,rfl,s5 _ _ hL4,by rw[length_map];exact aH (m:=10) (by omega),?_⟩
         generalize hH6:upd (upd H4 t _) L _=H6
         have ntL:t≠L:=(ae hL4 ht).symm
         have k6:∀ b o,H4 b=some o→b≠L→H6 b=some o:=fun b o hb nb=>by
          rw[←hH6,ag nb]
          exact s5 _ _ hb
         have tk:∀ b xs,H3 b=some (.tup xs)→H6 b=some (.tup xs):=fun b xs e=>by
          have e4:=k4 _ _ e (aP e hM3 (by intro z;cases z))
          exact k6 _ _ e4 (aP e4 hL4 (by intro z;cases z))
         refine⟨_,_,_,j3,ts++[t],l++[(p,q)],_,rfl,fun b o hb nb=>?_,?_,?_,?_,k6 _ _ hM4 nML,fun c=>?_,by omega,?_,cR rd rdl⟩
         ·exact k6 _ _ (k4 _ _ (kbH b o hb nb) (ae hb hM1)) (ae hb hL)
         ·obtain⟨⟨d3,z⟩,la,le⟩:=src3
          exact⟨⟨d3,k6 _ _ (k4 _ _ z nSM) nSL⟩,k6 _ _ (k4 _ _ la naM) naL,le⟩
         ·rw[←hH6,ac,map_append]
          rfl
         ·refine Paired.snoc (Paired.mapP hl fun b x h=>h.same fun b' xs e=>tk _ _ (kb3 _ _ (kb2 _ _ e (src.ntup e)) (src2.ntup (kb2 _ _ e (src.ntup e))))) ⟨q1,q2,?_,tk _ _ hq1',tk _ _ hq2⟩
          rw[←hH6,ag ntL,ac]
         ·rw[bh,bh,pl]
          by_cases c1:c=pk q
          ·rw[if_pos c1]
           exact⟨fun _=>⟨q,by simp,c1⟩,fun _=>rfl⟩
          ·rw[if_neg c1]
           by_cases c2:c=pk p
           ·rw[if_pos c2]
            exact⟨fun _=>⟨p,by simp,c2⟩,fun _=>rfl⟩
           ·rw[if_neg c2,hdom]
            constructor
            ·rintro⟨r,hr',e⟩
             exact⟨r,mem_append_left _ hr',e⟩
            ·rintro⟨r,hr',e⟩
             rcases mem_append.mp hr' with z | z
             ·exact⟨r,z,e⟩
             ·simp at z
              rcases z with z | z
              ·exact absurd (by rw[e,z]) c2
              ·exact absurd (by rw[e,z]) c1
         ·rw[pl]
          refine nodup_append.mpr ⟨hnd,by simp[hpq],fun x hx y hy e=>?_⟩
          subst e
          simp at hy
          rcases hy with z | z
          ·exact np (z ▸ hx)
          ·exact nq (z ▸ hx)
     ·refine kno H3 ?_ (fun b o hb nb=>kb3 _ _ (kb2 _ _ (kb _ _ hb nb) nb) nb)
      rw[lr,cS rd (by unfold dm readPair;simp only[r2,r3,Option.bind_some,Option.map_none]) hi]
      rfl
    ·refine kno H2 ?_ (fun b o hb nb=>kb2 _ _ (kb _ _ hb nb) nb)
     rw[lr,cS rd (by unfold dm readPair;simp only[r2,Option.bind_none]) hi]
     rfl
   ·rintro σ H' ⟨v4,v5,v6,j,ts,l,kvs,rfl,kb,src,hLl,hl,hMd,hdom,hkl,hnd,rd⟩
    refine⟨_,rfl,kok l j _ _ ?_ (fun b o hb nb=>kb _ _ hb nb) src ⟨L,ts,rfl,hLl,hl⟩⟩
    rw[lr,rd]
    show(if linksApart l then some (l,xs.drop j) else none)=_
    rw[if_pos ((iq l).mpr hnd)]
  ·refine kno H1 ?_ (fun b o hb nb=>kb1 _ _ (s1 _ _ hb) nb)
   show((readNat 0 10 (xs.drop i)).bind fun m=>readTimes (dm n) m.1 m.2).bind _=_
   rw[r1]
   rfl
end
abbrev sFar:Stmt:=top 15
abbrev gb:Stmt:=top 16
abbrev cP:Stmt:=top 17
abbrev mx:Stmt:=top 19
abbrev rG:Stmt:=top 20
abbrev gM:Stmt:=top 18
abbrev cE:Stmt:=top 21
section
variable{P:Program}{w:World}{K:Frag}{mg:Str→Option Value}{base:Heap}{CN CE CR:Addr}{tP tM:Tok}
def ck(l:List Lk)(p:Port):Option Port:=l.findSome? fun l=>if l.1=p then some l.2 else if l.2=p then some l.1 else none
theorem fS{l:List Lk}{p:Port}:ck l p=none↔p ∉ aQ l:=by
 unfold ck aQ
 rw[List.findSome?_eq_none_iff]
 constructor
 ·intro h hp
  obtain⟨x,hx,hm⟩:=mem_flatMap.mp hp
  have:=h x hx
  simp at hm
  rcases hm with e | e
  ·rw[if_pos e.symm] at this
   cases this
  ·by_cases e1:x.1=p
   ·rw[if_pos e1] at this
    cases this
   ·rw[if_neg e1,if_pos e.symm] at this
    cases this
 ·intro h x hx
  have h1:x.1≠p:=fun e=>h (mem_flatMap.mpr ⟨x,hx,by simp[e]⟩)
  have h2:x.2≠p:=fun e=>h (mem_flatMap.mpr ⟨x,hx,by simp[e]⟩)
  rw[if_neg h1,if_neg h2]
theorem qC{l:List Lk}{p q r:Port}(hp:p ∉ aQ l)(hq:q ∉ aQ l)(hpq:p≠q):ck (l++[(p,q)]) r=if r=q then some p else if r=p then some q else ck l r:=by
 unfold ck
 rw[List.findSome?_append]
 by_cases h1:r=q
 ·subst h1
  have:l.findSome? (fun l=>if l.1=r then some l.2 else if l.2=r then some l.1 else none)=none:=fS.mpr hq
  rw[this,if_pos rfl]
  simp[hpq]
 ·rw[if_neg h1]
  by_cases h2:r=p
  ·subst h2
   have:l.findSome? (fun l=>if l.1=r then some l.2 else if l.2=r then some l.1 else none)=none:=fS.mpr hp
   rw[this,if_pos rfl]
   simp
  ·rw[if_neg h2]
   have e:([(p,q)]:List Lk).findSome? (fun l=>if l.1=r then some l.2 else if l.2=r then some l.1 else none)=none:=by
    simp[Ne.symm h1,Ne.symm h2]
   rw[e]
   simp
def fJ(H:Hp)(kvs:List (List Key × V))(l:List Lk):Prop:=∀ p:Port,match ck l p with
 | some r=>∃ q,valV kvs (pk p)=some (.ref q)∧TupN H q r.switch r.port
 | none=>valV kvs (pk p)=none
theorem fJ.same{H H':Hp}{kvs:List (List Key × V)}{l:List Lk}(h:fJ H kvs l)(s:∀ b xs,H b=some (.tup xs)→H' b=some (.tup xs)):fJ H' kvs l:=fun p=>by
 have:=h p
 cases e:ck l p with
 | none=>
  rw[e] at this
  exact this
 | some r=>
  rw[e] at this
  obtain⟨q,h1,h2⟩:=this
  exact⟨q,h1,s _ _ h2⟩
def spFar:Sp:=fun vs H Q _=>∃ (d:Addr) (ts:List Addr) (l:List Lk),vs=[.ref d]∧H d=some (.lst (ts.map V.ref))∧fC H ts l∧(aQ l).Nodup∧l.length≤10∧
 ∀ (H':Hp) (F:Addr) (kvs:List (List Key × V)),Same H H'→H F=none→H' F=some (.dT kvs)→fJ H' kvs l→Q (.ref F) H'
theorem uB:al ["links","far","one","other"] ["links"] (aj sFar):=⟨rfl,rfl,rfl,by decide +kernel,rfl,by decide +kernel,by decide +kernel⟩
theorem qb{l:List Lk}(nd:(aQ l).Nodup){i:Nat}{x:Lk}(h:l[i]?=some x):x.1 ∉ aQ (l.take i)∧x.2 ∉ aQ (l.take i)∧x.1≠x.2:=by
 have e:l=l.take i++(x::l.drop (i+1)):=by
  obtain⟨hi,hx⟩:=List.getElem?_eq_some_iff.mp h
  rw[←hx,←List.drop_eq_getElem_cons hi,List.take_append_drop]
 have e2:aQ l=aQ (l.take i)++([x.1,x.2]++aQ (l.drop (i+1))):=by
  conv=>lhs;rw[e]
  unfold aQ
  rw[flatMap_append,List.flatMap_cons]
 rw[e2] at nd
 obtain⟨_,h2,h3⟩:=nodup_append.mp nd
 refine⟨fun z=>h3 _ z x.1 (by simp) rfl,fun z=>h3 _ z x.2 (by simp) rfl,?_⟩
 have:=(nodup_append.mp h2).1
 simpa using this
theorem ok_far(T:TxtF K mg "far_ports" sFar ["links"]):aq P w K mg base CX0 1 "far_ports" ["links"] spFar:=by
 refine T.def0 uB (fun vs H Q E h=>?_) (fun f cdv A outer s H vs Q E hr h=>?_)
 ·obtain⟨d,ts,l,rfl,_⟩:=h
  rfl
 ·obtain⟨d,ts,l,rfl,hd,hl,hnd,h10,k⟩:=h
  have nd:=uB.nd
  have hu:=dr hr
  refine⟨_,ad (ao (i:=1) nd rfl (Or.inl rfl) bH)
   (ad (bx PassesOwn.never rfl (be (pv 0)) (fO (n:=2) rfl (bv (ay (i:=2) nd rfl (Or.inl rfl)) (bv (ay (i:=3) nd rfl (Or.inl rfl)) dM)))
    (ad (bu hu (pv 1) (pv 2) (pv 3) rfl) (ah (bu hu (pv 1) (pv 3) (pv 2) rfl))))
   (ah (au (pv 1)))),?_⟩
  intro F hF
  have s1:=ai (o:=.dT []) hF
  have lt:ts.length=l.length:=Paired.length hl
  refine⟨_,rfl,d,rfl,⟨_,SqL.of (s1 _ _ hd)⟩,bP (K:=K) (a:=d) (xs:=ts.map V.ref)
   (fun i σ H'=>∃ (v2 v3:Option V) (kvs:List (List Key × V)),σ=[some (.ref d),some (.ref F),v2,v3]∧Same H H'∧H' F=some (.dT kvs)∧fJ H' kvs (l.take i)∧kvs.length≤2*i)
   ⟨none,none,[],rfl,s1,ac,fun p=>by show valV [] (pk p)=none;rfl,Nat.zero_le _⟩ (fun i σ H' _ ⟨_,_,_,_,s2,_⟩=>SqL.of (s2 _ _ hd)) ?_ ?_⟩
  ·rintro i x σ H' hx ⟨v2,v3,kvs,rfl,s2,hFd,hfar,hlen⟩
   rw[getElem?_map] at hx
   cases e:ts[i]? with
   | none=>
    rw[e] at hx
    cases hx
   | some t=>
    rw[e] at hx
    cases hx
    obtain⟨⟨p,q⟩,hx1,a,b,h1,h2,h3⟩:=aC hl e
    obtain⟨np,nq,npq⟩:=qb hnd hx1
    have i10:i≤10:=by
     have:=(List.getElem?_eq_some_iff.mp hx1).1
     omega
    have ha:=s2 _ _ h2
    have hb:=s2 _ _ h3
    have naF:a≠F:=aP ha hFd (by intro z;cases z)
    have nbF:b≠F:=aP hb hFd (by intro z;cases z)
    refine⟨t,_,rfl,SqT.of (s2 _ _ h1),rfl,_,_,rfl,_,_,rfl,rfl,?_⟩
    refine⟨_,rfl,_,rfl,_,rfl,F,_,rfl,DPut.t (k:=pk p) hFd ha (aH (m:=20) (by omega)),?_⟩
    have l1:(putK kvs (pk p) (.ref b)).length≤2*i+1:=Nat.le_trans (aX _ _ _) (by omega)
    refine⟨_,rfl,_,rfl,_,rfl,F,_,rfl,DPut.t (k:=pk q) ac (by rw[ag nbF];exact hb) (aH (m:=21) (by omega)),?_⟩
    rw[qV]
    have l2:(putK (putK kvs (pk p) (.ref b)) (pk q) (.ref a)).length≤2*i+2:=Nat.le_trans (aX _ _ _) (by omega)
    have tk:∀ {o:HO} (b':Addr) (xs:List V),H' b'=some (.tup xs)→upd H' F o b'=some (.tup xs):=fun {o} b' xs e=>by
     rw[ag (aP e hFd (by intro z;cases z))]
     exact e
    refine⟨_,_,_,rfl,fun b' o e'=>?_,ac,fun r=>?_,by omega⟩
    ·rw[ag (ae e' hF)]
     exact s2 _ _ e'
    ·rw[aV hx1,qC np nq npq,bh,bh]
     have inj:∀ {x y:Port},pk x=pk y↔x=y:=⟨va,fun e=>by rw[e]⟩
     simp only[inj]
     by_cases c1:r=q
     ·rw[if_pos c1,if_pos c1]
      exact⟨a,rfl,tk _ _ ha⟩
     ·rw[if_neg c1,if_neg c1]
      by_cases c2:r=p
      ·rw[if_pos c2,if_pos c2]
       exact⟨b,rfl,tk _ _ hb⟩
      ·rw[if_neg c2,if_neg c2]
       exact(fJ.same hfar (H':=upd H' F _) fun b xs e=>tk b xs e) r
  ·rintro σ H' ⟨v2,v3,kvs,rfl,s2,hFd,hfar,hlen⟩
   rw[length_map,lt,take_length] at hfar
   exact⟨_,rfl,k H' F kvs s2 hF hFd hfar⟩
theorem o8{a:Addr}{xs:List V}{g:TG}{tb:TS}{D:Ends}{σ:St}{H:Hp}(Pv:Nat→St→Hp→Prop)(h0:Pv 0 σ H)(hl:∀ i σ H,i≤xs.length→Pv i σ H→SqL K H a xs)
  (hs:∀ i x σ H T,xs[i]?=some x→Pv i σ H→H T=none→g (.ref T) σ (upd H T (.tup [.int (i:Nat),x])) fun σ2 H2=>tb { D with nx:=Pv (i+1),ct:=Pv (i+1),bk:=D.nx } σ2 H2) (hd:∀ σ H,Pv xs.length σ H→D.nx σ H) :
  ∃ W:Nat→Nat→St→Hp→Prop,(∃ m,W 0 m σ H)∧∀ i m σ H,W i m σ H→
   ((Ite K a).stop i H∧D.nx σ H)∨((Ite K a).go i H∧∃ N:St→Hp→Prop,(∀ σ' H',N σ' H'→∃ m',m' < m∧W (i+1) m' σ' H')∧∀ x H',(Ite K a).yld i H x H'→g x σ H' fun σ2 H2=>tb { D with nx:=N,ct:=N,bk:=D.nx } σ2 H2):=by
 refine⟨fun i m σ H=>m=xs.length - i∧i≤xs.length∧Pv i σ H,⟨xs.length,by simp,Nat.zero_le _,h0⟩,?_⟩
 rintro i m σ H ⟨rfl,hi,p⟩
 have q:=hl i σ H hi p
 by_cases hlt:i < xs.length
 ·refine .inr ⟨⟨xs,xs[i],q,by simp[hlt]⟩,Pv (i+1),fun σ' H' p'=>⟨xs.length - (i+1),by omega,rfl,hlt,p'⟩,fun v H' y=>?_⟩
  obtain⟨T,x,rfl,hT,rfl,y⟩:=y
  exact hs i x σ _ T (y xs q) p hT
 ·have e:i=xs.length:=by omega
  subst e
  exact .inl ⟨⟨xs,q,Nat.le_refl _⟩,hd σ H p⟩
def numV:Option Nat→V
 | some i=>.int (i:Int)
 | none=>.non
def nH(CR:Addr):Sp:=fun vs H Q _=>∃ (t:Addr) (qs:List Addr) (tb:List Rule) (h:Nat),vs=[.ref t,.int (h:Int)]∧H t=some (.lst (qs.map V.ref))∧dX CR H qs tb∧∀ H':Hp,Same H H'→Q (numV (ruleFor tb h)) H'
theorem lA:al ["table","header","number","rule"] ["table","header"] (aj gb):=⟨rfl,rfl,rfl,by decide +kernel,rfl,by decide +kernel,by decide +kernel⟩
theorem bV.ins{H:Hp}{q:Addr}{r:Rule}(h:bV CR H q r):∃ dx p b c d,H q=some (.ins CR dx (cK (.ref p) b c d))∧TupN H p r.pattern.told r.pattern.bits:=by
 obtain⟨dx,p,c,h1,h2⟩:=h
 cases e:r.action with
 | drop=>
  rw[e] at h2
  exact⟨dx,p,_,_,_,h2,h1⟩
 | send rw port=>
  rw[e] at h2
  exact⟨dx,p,_,_,_,h2.1,h1⟩
theorem mE{tb:List Rule}{h:Nat}(hn:∀ r∈tb,matchesIt r.pattern h=false):ruleFor tb h=none:=by
 unfold ruleFor
 rw[List.findIdx?_eq_none_iff]
 intro r hr
 exact hn r hr
theorem pZ{tb:List Rule}{h i:Nat}{r:Rule}(hi:tb[i]?=some r)(hm:matchesIt r.pattern h=true)(hn:∀ x∈tb.take i,matchesIt x.pattern h=false):ruleFor tb h=some i:=by
 unfold ruleFor
 obtain⟨hlt,e⟩:=List.getElem?_eq_some_iff.mp hi
 refine List.findIdx?_eq_some_iff_getElem.mpr ⟨hlt,by rw[e];exact hm,fun j hj=>?_⟩
 have:=hn tb[j] (List.mem_take_iff_getElem.mpr ⟨j,by omega,rfl⟩)
 rw[this]
 simp
theorem tH(T:TxtF K mg "rule_that_counts" gb ["table","header"])(TR:TxtR K mg CR)(B:TxtB mg)(TM:TxtF K mg "matches" bF ["header","pattern"]):aq P w K mg base CX0 2 "rule_that_counts" ["table","header"] (nH CR):=by
 refine T.def0 lA (fun vs H Q E h=>?_) (fun f cdv A outer s H vs Q E hr h=>?_)
 ·obtain⟨t,qs,tb,h,rfl,_⟩:=h
  rfl
 ·obtain⟨t,qs,tb,h,rfl,ht,hq,k⟩:=h
  have nd:=lA.nd
  have DM:aq P w K mg base CX0 1 "matches" ["header","pattern"] (eW K):=jV TM
  refine⟨_,ad (bx PassesOwn.never rfl (rM rfl B.enumerate (aa (pv 0) af)) (fO (n:=2) rfl (bv (ay (i:=2) nd rfl (Or.inl rfl)) (bv (ay (i:=3) nd rfl (Or.inl rfl)) dM)))
   (ah (bi (cv (az DM hr rfl aA (aa (pv 1) (aa (aD (pv 3) rfl) af)))) (ah (au (pv 2))) aK))) (ah (au mI)),?_⟩
  have lq:qs.length=tb.length:=Paired.length hq
  refine⟨_,rfl,t,_,rfl,SqL.of ht,o8 (K:=K) (a:=t) (xs:=qs.map V.ref) (fun i σ H'=>∃ v2 v3:Option V,σ=[some (.ref t),some (.int (h:Int)),v2,v3]∧Same H H'∧∀ r∈tb.take i,matchesIt r.pattern h=false)
   ⟨none,none,rfl,Same.refl H,fun r hr=>by cases hr⟩ (fun i σ H' _ ⟨_,_,_,s1,_⟩=>SqL.of (s1 _ _ ht)) ?_ ?_⟩
  ·rintro i x σ H' Tt hx ⟨v2,v3,rfl,s1,hno⟩ hT
   rw[getElem?_map] at hx
   cases e:qs[i]? with
   | none=>
    rw[e] at hx
    cases hx
   | some q=>
    rw[e] at hx
    cases hx
    obtain⟨r,hr1,hra⟩:=aC hq e
    have s2:Same H (upd H' Tt (.tup [.int (i:Nat),.ref q])):=s1.trans (ai hT)
    obtain⟨dx,p,b,c,d,hi,hp⟩:=(hra.all s2).ins
    refine⟨Tt,_,rfl,SqT.of ac,rfl,_,_,rfl,_,_,rfl,rfl,?_⟩
    refine⟨_,rfl,_,rfl,q,CR,dx,_,_,rfl,hi,TR.cl,TR.n1,rfl,h,r.pattern.told,r.pattern.bits,p,rfl,SqT.of hp,_,rfl,?_⟩
    by_cases hm:matchesIt r.pattern h=true
    ·rw[show matchesIt ⟨r.pattern.told,r.pattern.bits⟩ h=true from hm]
     refine iteT ⟨_,rfl,?_⟩
     have:=k _ s2
     rw[pZ hr1 hm hno] at this
     exact this
    ·rw[Bool.not_eq_true] at hm
     rw[show matchesIt ⟨r.pattern.told,r.pattern.bits⟩ h=false from hm]
     refine iteF ⟨_,_,rfl,s2,fun x hx=>?_⟩
     rw[aV hr1] at hx
     rcases mem_append.mp hx with z | z
     ·exact hno x z
     ·simp at z
      rw[z]
      exact hm
  ·rintro σ H' ⟨v2,v3,rfl,s1,hno⟩
   rw[length_map,lq,take_length] at hno
   have:=k _ s1
   rw[mE hno] at this
   exact this
def kk(x:Packet):List Key:=[Sum.inl (x.switch:Int),Sum.inl (x.header:Int)]
theorem eJ{p q:Packet}(h:kk p=kk q):p=q:=by
 unfold kk at h
 injection h with h1 h2
 injection h2 with h2 _
 injection h1 with h1
 injection h2 with h2
 cases p
 cases q
 simp only[Packet.mk.injEq]
 exact⟨Int.ofNat.inj h1,Int.ofNat.inj h2⟩
def OnwV(H:Hp)(v:V):Except End_ Packet→Prop
 | .error _=>v=.non
 | .ok y=>∃ t,v=.ref t∧TupN H t y.switch y.header
def fI(H:Hp)(kvs:List (List Key × V))(n:Net):Prop:=(∀ x,Mw.InU n x→∃ v,valV kvs (kk x)=some v∧OnwV H v (stepOf n x))∧∀ kv∈kvs,∃ x,Mw.InU n x∧kv.1=kk x
theorem fI.same{H H':Hp}{kvs:List (List Key × V)}{n:Net}(h:fI H kvs n)(s:∀ b xs,H b=some (.tup xs)→H' b=some (.tup xs)):fI H' kvs n:=by
 refine⟨fun x hx=>?_,h.2⟩
 obtain⟨v,h1,h2⟩:=h.1 x hx
 refine⟨v,h1,?_⟩
 cases e:stepOf n x with
 | error en=>
  rw[e] at h2
  exact h2
 | ok y=>
  rw[e] at h2
  obtain⟨t,e1,e2⟩:=h2
  exact⟨t,e1,s _ _ e2⟩
def cp(H:Hp)(qs:List Addr)(ps:List Packet):Prop:=Paired (fun q (x:Packet)=>TupN H q x.switch x.header) qs ps
theorem cr{n:Net}(W:Mw.WF n):n.tables.length*2 ^ n.wide≤640:=by
 have h1:=W.t5
 have h2:=aW W.w7
 calc n.tables.length*2 ^ n.wide≤5*128:=Nat.mul_le_mul h1 h2
  _=640:=rfl
theorem DGet.rt{H:Hp}{a b:Addr}{kvs:List (List Key × V)}{k:List Key}(e:Rd H a (.dT kvs))(eb:H b=some (.tup (k.map kV))):DGet H a (.ref b) (valV kvs k):=.inr ⟨kvs,k,b,e,rfl,eb,rfl⟩
theorem Same.rd{H H':Hp}{a:Addr}{o:HO}(s:Same H H')(h:Rd H a o):Rd H' a o:=by
 rcases h with h | ⟨u,h⟩
 ·exact .inl (s _ _ h)
 ·exact .inr ⟨u,s _ _ h⟩
theorem u6{H:Hp}{qs:List Addr}{kp:List (List Key × V)}{been:List Packet}(hp:Paired (fun q (p:List Key × V)=>H q=some (.tup (p.1.map kV))) qs kp):kp.map (·.1)=been.map kk→cp H qs been:=by
 induction hp generalizing been with
 | nil=>
  intro h
  cases been with
  | nil=>exact .nil
  | cons b r=>cases h
 | cons r t ih=>
  intro h
  cases been with
  | nil=>cases h
  | cons b rr=>
   rw[map_cons,map_cons] at h
   injection h with h1 h2
   refine .cons ?_ (ih h2)
   rw[h1] at r
   exact r
theorem cp.same{H H':Hp}{qs:List Addr}{ps:List Packet}(h:cp H qs ps)(s:Same H H'):cp H' qs ps:=Paired.mapP h fun q x e=>s _ _ e
theorem xn{kp:List (List Key × V)}{been:List Packet}(hkeys:kp.map (·.1)=been.map kk)(y:Packet):(valV kp (kk y)).isSome=true↔y∈been:=by
 constructor
 ·intro h
  cases e2:valV kp (kk y) with
  | none=>
   rw[e2] at h
   cases h
  | some u=>
   have:=i7 e2
   rw[hkeys] at this
   obtain⟨z,hz,ez⟩:=mem_map.mp this
   rw[←eJ ez]
   exact hz
 ·intro h
  cases e2:valV kp (kk y) with
  | some u=>rfl
  | none=>
   have:=nw e2
   rw[hkeys] at this
   exact absurd (mem_map.mpr ⟨y,h,rfl⟩) this
def fW:Sp:=fun vs H Q _=>∃ (O sl:Addr) (kvs:List (List Key × V)) (n:Net) (ts:List Addr) (xs:List Packet),vs=[.ref O,.ref sl]∧Rd H O (.dT kvs)∧Mw.WF n∧fI H kvs n∧H sl=some (.lst (ts.map V.ref))∧cp H ts xs∧(∀ x∈xs,Mw.InU n x)∧
 ∀ (H':Hp) (l:Addr) (qs:List Addr) (r:List Packet),Same H H'→H l=none→H' l=some (.lst (qs.map V.ref))→cp H' qs r→r.Nodup→(∀ x∈r,Mw.InU n x)→Mw.bR n xs [] r→Q (.ref l) H'
theorem lw:al ["onward","starts","passed","start","packet"] ["onward","starts"] (aj cP):=⟨rfl,rfl,rfl,by decide +kernel,rfl,by decide +kernel,by decide +kernel⟩
theorem hZ(T:TxtF K mg "packets_passed" cP ["onward","starts"])(B:TxtB mg):aq P w K mg base CX0 1 "packets_passed" ["onward","starts"] fW:=by
 refine T.def0 lw (fun vs H Q E h=>?_) (fun f cdv A outer s H vs Q E hr h=>?_)
 ·obtain⟨O,sl,kvs,n,ts,xs,rfl,_⟩:=h
  rfl
 ·obtain⟨O,sl,kvs,n,ts,xs,rfl,hO,W,hon,hsl,hts,hxs,k⟩:=h
  have nd:=lw.nd
  have hu:=dr hr
  refine⟨_,ad (ao (i:=2) nd rfl (Or.inl rfl) bH)
   (ad (bx PassesOwn.never rfl (be (pv 1)) (ay (i:=3) nd rfl (Or.inl rfl))
    (ad (ao (i:=4) nd rfl (Or.inl rfl) (pv 3))
    (ah (gc PassesOwn.never (PW.pt (dw (bN (jc (pv 4))) (cy (bN (fg hu (pv 4) (pv 2))))))
     (ad (bu hu (pv 2) (pv 4) eB rfl) (ah (ao (i:=4) nd rfl (Or.inl rfl) (bC hu (pv 0) (pv 4) (fun _ _=>rfl)))))))))
   (ah (au (gZ (qQ rfl) rfl B.list PyProof.Rows.boot_list (aa (pv 2) af))))),?_⟩
  intro M hM
  have s1:=ai (o:=.dT []) hM
  have us:=cr W
  have lts:ts.length=xs.length:=Paired.length hts
  refine⟨_,rfl,sl,rfl,⟨_,SqL.of (s1 _ _ hsl)⟩,bP (K:=K) (a:=sl) (xs:=ts.map V.ref)
   (fun i σ H'=>∃ (v3 v4:Option V) (been:List Packet) (kp:List (List Key × V)),σ=[some (.ref O),some (.ref sl),some (.ref M),v3,v4]∧Same H H'∧H' M=some (.dT kp)∧kp.map (·.1)=been.map kk∧been.Nodup∧(∀ y∈been,Mw.InU n y)∧Mw.bR n (xs.take i) [] been)
   ⟨none,none,[],[],rfl,s1,ac,rfl,nodup_nil,(fun y hy=>by cases hy),.nil⟩ (fun i σ H' _ ⟨_,_,_,_,_,s2,_⟩=>SqL.of (s2 _ _ hsl)) ?_ ?_⟩
  ·rintro i x0 σ H1 hx0 ⟨v3,v4,been0,kp0,rfl,s2,hMd0,hkeys0,hnd0,hU0,hpas⟩
   rw[getElem?_map] at hx0
   cases e0:ts[i]? with
   | none=>
    rw[e0] at hx0
    cases hx0
   | some q=>
    rw[e0] at hx0
    cases hx0
    obtain⟨x,hx1,hq⟩:=aC hts e0
    have hx:=hxs x (mem_of_getElem? hx1)
    have hq1:TupN H1 q x.switch x.header:=s2 _ _ hq
    obtain⟨l0,en,c0⟩:=Mw.pi W _ been0 x hnd0 hU0 hx (Nat.le_refl _)
    refine⟨_,rfl,?_⟩
    refine⟨fun m σ H'=>∃ (v:V) (been l:List Packet) (kp:List (List Key × V)),σ=[some (.ref O),some (.ref sl),some (.ref M),some (.ref q),some v]∧Same H H'∧H' M=some (.dT kp)∧kp.map (·.1)=been.map kk∧been.Nodup∧(∀ y∈been,Mw.InU n y)∧been++l=been0++l0∧
      ((v=.non∧l=[]∧m=0)∨∃ (t:Addr) (y:Packet),v=.ref t∧TupN H' t y.switch y.header∧Mw.InU n y∧m+been.length=1000+been0.length∧∃ e,Mw.ba n been y l e),⟨1000,.ref q,been0,l0,kp0,rfl,s2,hMd0,hkeys0,hnd0,hU0,rfl,.inr ⟨q,x,rfl,hq1,hx,rfl,en,c0⟩⟩,?_⟩
    rintro m σ H' ⟨v,been,l,kp,rfl,s2,hMd,hkeys,hnd,hU,hbl,hv⟩
    have lkp:kp.length=been.length:=by
     have:=congrArg List.length hkeys
     rw[length_map,length_map] at this
     exact this
    have lb:=Mw.few hnd hU
    have fin:∀ v:V,l=[]→∃ (v3 v4:Option V) (been:List Packet) (kp:List (List Key × V)),[some (.ref O),some (.ref sl),some (.ref M),some (V.ref q),some v]=[some (.ref O),some (.ref sl),some (.ref M),v3,v4]∧Same H H'∧H' M=some (.dT kp)∧kp.map (·.1)=been.map kk∧been.Nodup∧(∀ y∈been,Mw.InU n y)∧Mw.bR n (xs.take (i+1)) [] been:=fun v hl=>by
     refine⟨_,_,been,kp,rfl,s2,hMd,hkeys,hnd,hU,?_⟩
     rw[hl,append_nil] at hbl
     rw[aV hx1,hbl]
     exact hpas.snoc c0
    rcases hv with⟨rfl,hl,_⟩ | ⟨t,y,rfl,ht,hy,hm,e,c⟩
    ·refine⟨_,rfl,_,rfl,?_⟩
     refine iteF ?_
     exact iteF (fin _ hl)
    ·refine⟨_,rfl,_,rfl,?_⟩
     refine iteT ⟨_,rfl,_,rfl,M,_,rfl,DGet.t (k:=kk y) hMd ht,_,rfl,?_⟩
     have dom:=xn hkeys y
     by_cases hin:y∈been
     ·rw[dom.mpr hin]
      have hl:l=[]:=by
       cases c with
       | stop h s=>exact absurd hin h
       | round h=>rfl
       | step h s c=>exact absurd hin h
      exact iteF (fin _ hl)
     ·have hno:(valV kp (kk y)).isSome=false:=by
       rw[←Bool.not_eq_true,dom]
       exact hin
      rw[hno]
      refine iteT ⟨_,fun _ _ h=>h,?_⟩
      have hnone:valV kp (kk y)=none:=by
       cases e2:valV kp (kk y) with
       | none=>rfl
       | some u=>
        rw[e2] at hno
        cases hno
      refine⟨_,rfl,_,rfl,M,_,rfl,DPut.t (k:=kk y) hMd ht (aH (m:=640) (by omega)),?_⟩
      have ntM:t≠M:=aP ht hMd (by intro z;cases z)
      have s3:Same H (upd H' M (.dT (putK kp (kk y) (.bl true)))):=fun b o hb=>by
       rw[ag (ae hb hM)]
       exact s2 _ _ hb
      have tk:∀ b xs,H' b=some (.tup xs)→upd H' M (.dT (putK kp (kk y) (.bl true))) b=some (.tup xs):=fun b xs e=>by
       rw[ag (aP e hMd (by intro z;cases z))]
       exact e
      obtain⟨u,hu1,hu2⟩:=(hon.same (H':=upd H' M (.dT (putK kp (kk y) (.bl true)))) fun b xs e=>s3 _ _ e).1 y hy
      refine⟨_,rfl,_,rfl,O,u,rfl,?_,?_⟩
      ·rw[←hu1]
       exact DGet.rt (k:=kk y) (s3.rd hO) (tk _ _ ht)
      have nk:putK kp (kk y) (.bl true)=kp++[(kk y,.bl true)]:=b7 _ hnone
      have keys2:(putK kp (kk y) (.bl true)).map (·.1)=(been++[y]).map kk:=by
       rw[nk,map_append,map_append,hkeys]
       rfl
      have nd2:(been++[y]).Nodup:=nodup_append.mpr ⟨hnd,by simp,fun a ha b hb e=>by simp at hb;subst hb;subst e;exact hin ha⟩
      have hU2:∀ z∈been++[y],Mw.InU n z:=fun z hz=>by
       rcases mem_append.mp hz with h | h
       ·exact hU z h
       ·simp at h
        rw[h]
        exact hy
      have lb2:=Mw.few nd2 hU2
      rw[length_append] at lb2
      simp at lb2
      cases c with
      | stop h s=>
       rw[s] at hu2
       have hu2:u=.non:=hu2
       subst hu2
       exact⟨0,by omega,.non,been++[y],[],_,rfl,s3,ac,keys2,nd2,hU2,by simpa using hbl,.inl ⟨rfl,rfl,rfl⟩⟩
      | round h=>exact absurd h hin
      | step h s c=>
       rename_i y2 l2
       rw[s] at hu2
       obtain⟨t2,rfl,ht2⟩:=hu2
       exact⟨m - 1,by omega,.ref t2,been++[y],l2,_,rfl,s3,ac,keys2,nd2,hU2,by rw[append_assoc];exact hbl,.inr ⟨t2,y2,rfl,ht2,Mw.cx W hy s,by rw[length_append,length_singleton];omega,e,c⟩⟩
  ·rintro σ H' ⟨v3,v4,been,kp,rfl,s2,hMd,hkeys,hnd,hU,hpas⟩
   rw[length_map,lts,take_length] at hpas
   refine⟨_,rfl,M,kp,rfl,.inl hMd,fun qs L hp hL=>?_⟩
   exact k _ L qs been (s2.trans (ai hL)) (s2.free hL) ac ((u6 hp hkeys).same (ai hL)) hnd hU hpas
def ml:Sp:=fun vs H Q _=>∃ (O q:Addr) (kvs:List (List Key × V)) (n:Net) (x:Packet),vs=[.ref O,.ref q]∧Rd H O (.dT kvs)∧Mw.WF n∧fI H kvs n∧Mw.InU n x∧TupN H q x.switch x.header∧
 ∀ (H':Hp) (l:Addr) (qs:List Addr),Same H H'→H l=none→H' l=some (.lst (qs.map V.ref))→cp H' qs (wayOf n x).packets→Q (.ref l) H'
theorem uy:al ["onward","packet"] ["onward","packet"] (aj gM):=⟨rfl,rfl,rfl,by decide +kernel,rfl,by decide +kernel,by decide +kernel⟩
theorem oA(TP:TxtF K mg "packets_passed" cP ["onward","starts"])(T:TxtF K mg "way_of" gM ["onward","packet"])(B:TxtB mg):aq P w K mg base CX0 2 "way_of" ["onward","packet"] ml:=by
 refine T.def0 uy (fun vs H Q E h=>?_) (fun f cdv A outer s H vs Q E hr h=>?_)
 ·obtain⟨O,q,kvs,n,x,rfl,_⟩:=h
  rfl
 ·obtain⟨O,q,kvs,n,x,rfl,hO,W,hon,hx,hq,k⟩:=h
  have DP:aq P w K mg base CX0 1 "packets_passed" ["onward","starts"] fW:=hZ TP B
  refine⟨_,ah (au (az DP hr rfl aA (aa (pv 0) (aa (bz (aa (pv 1) af)) af)))),?_⟩
  refine⟨_,rfl,_,rfl,by show 1≤sizeLine;decide,fun L hL=>?_⟩
  have s1:Same H (upd H L (.lst [.ref q])):=ai hL
  refine⟨O,L,kvs,n,[q],[x],rfl,s1.rd hO,W,hon.same fun b xs e=>s1 _ _ e,ac,.cons (s1 _ _ hq) .nil,fun y hy=>by simp at hy;rw[hy];exact hx,fun H' l qs r s2 hl0 hl hqs _ _ hp=>?_⟩
  refine k H' l qs (s1.trans s2) (s1.free hl0) hl ?_
  rw[←hp.one W hx]
  exact hqs
def rb:Sp:=fun vs H Q _=>∃ (O q:Addr) (kvs:List (List Key × V)) (n:Net) (x:Packet),vs=[.ref O,.ref q]∧Rd H O (.dT kvs)∧Mw.WF n∧fI H kvs n∧Mw.InU n x∧TupN H q x.switch x.header∧
 ∀ (H':Hp) (l:Addr) (qs:List Addr),Same H H'→H l=none→H' l=some (.lst (qs.map V.ref))→cp H' qs (Vapktc.loopOf n x)→Q (.ref l) H'
theorem nU:al ["onward","packet","again"] ["onward","packet"] (aj mx):=⟨rfl,rfl,rfl,by decide +kernel,rfl,by decide +kernel,by decide +kernel⟩
theorem iH{α β:Type}{F:α→β→Prop}:∀ {l:List α} {r:List β} {y:β},Paired F l r→r.getLast?=some y→∃ x,l.getLast?=some x∧F x y
 | _,_,_,.nil,h=>by cases h
 | _,_,_,.cons hx .nil,h=>by
  cases h
  exact⟨_,rfl,hx⟩
 | _,_,_,.cons hx (.cons hy t),h=>by
  rw[List.getLast?_cons_cons] at h
  obtain⟨z,h1,h2⟩:=iH (.cons hy t) h
  exact⟨z,by rw[List.getLast?_cons_cons];exact h1,h2⟩
theorem xE{xs:List V}{v:V}(h:xs.getLast?=some v):atI xs (-1)=some v:=by
 obtain⟨ys,rfl⟩:=List.getLast?_eq_some_iff.mp h
 exact wr ys v
theorem vq(TP:TxtF K mg "packets_passed" cP ["onward","starts"])(TW:TxtF K mg "way_of" gM ["onward","packet"])(T:TxtF K mg "round_of" mx ["onward","packet"])(B:TxtB mg):aq P w K mg base CX0 3 "round_of" ["onward","packet"] rb:=by
 refine T.def0 nU (fun vs H Q E h=>?_) (fun f cdv A outer s H vs Q E hr h=>?_)
 ·obtain⟨O,q,kvs,n,x,rfl,_⟩:=h
  rfl
 ·obtain⟨O,q,kvs,n,x,rfl,hO,W,hon,hx,hq,k⟩:=h
  have nd:=nU.nd
  have hu:=dr hr
  have DW:aq P w K mg base CX0 2 "way_of" ["onward","packet"] ml:=oA TP TW B
  refine⟨_,ad (ao (i:=2) nd rfl (Or.inl rfl) (bC hu (pv 0) (aE aB (az DW hr rfl aA (aa (pv 0) (aa (pv 1) af))) (pe_un un_neg ak) (fun _ _=>rfl)) (fun _ _=>rfl)))
   (ah (au (gj (bN (hG (pv 2))) (bz af) (az DW hr rfl aA (aa (pv 0) (aa (pv 2) af)))))),?_⟩
  refine⟨_,rfl,_,rfl,_,rfl,O,q,kvs,n,x,rfl,hO,W,hon,hx,hq,fun H1 l qs s1 hl0 hl hqs=>?_⟩
  obtain⟨y,hy,hyU,hlo⟩:=Mw.xl W hx
  obtain⟨t,ht1,ht2⟩:=iH hqs hy
  have hlast:(qs.map V.ref).getLast?=some (.ref t):=by
   rw[List.getLast?_map,ht1]
   rfl
  have hon1:=hon.same fun b xs e=>s1 _ _ e
  obtain⟨u,hu1,hu2⟩:=hon1.1 y hyU
  refine⟨_,rfl,l,_,_,_,rfl,rfl,SqL.of hl,(xE hlast),O,u,rfl,?_,?_⟩
  ·rw[←hu1]
   exact DGet.rt (k:=kk y) (s1.rd hO) ht2
  cases st:stepOf n y with
  | error e=>
   rw[st] at hlo hu2
   have hu2:u=.non:=hu2
   subst hu2
   refine⟨_,rfl,_,rfl,?_⟩
   refine iteT ⟨by show 0≤sizeLine;decide,fun L hL=>?_⟩
   refine k _ L [] (s1.trans (ai hL)) (s1.free hL) ac ?_
   rw[show Vapktc.loopOf n x=[] from hlo]
   exact .nil
  | ok z=>
   rw[st] at hlo hu2
   obtain⟨hz,hlo⟩:=hlo
   obtain⟨t2,rfl,ht2⟩:=hu2
   refine⟨_,rfl,_,rfl,?_⟩
   refine iteF ⟨_,rfl,_,rfl,O,t2,kvs,n,z,rfl,s1.rd hO,W,hon1,hz,ht2,fun H2 l2 qs2 s2 hl20 hl2 hqs2=>?_⟩
   refine k H2 l2 qs2 (s1.trans s2) (s1.free hl20) hl2 ?_
   rw[hlo]
   exact hqs2
theorem lX{d:Addr}{o:Obj}{kvs:List (List Key × V)}{g:TG}{tb:TS}{D:Ends}{σ:St}{H:Hp}(Pv:Nat→St→Hp→Prop)(h0:Pv 0 σ H)(hl:∀ i σ H,Pv i σ H→H d=some (.frz o (.dT kvs)))
  (hs:∀ i k v q σ H,kvs[i]?=some (k,v)→H q=some (.tup (k.map kV))→Pv i σ H→g (.ref q) σ H fun σ2 H2=>tb { D with nx:=Pv (i+1),ct:=Pv (i+1),bk:=D.nx } σ2 H2) (hd:∀ σ H,Pv kvs.length σ H→D.nx σ H) :
  ∃ W:Nat→Nat→St→Hp→Prop,(∃ m,W 0 m σ H)∧∀ i m σ H,W i m σ H→
   ((Itkt d o kvs).stop i H∧D.nx σ H)∨((Itkt d o kvs).go i H∧∃ N:St→Hp→Prop,(∀ σ' H',N σ' H'→∃ m',m' < m∧W (i+1) m' σ' H')∧∀ x H',(Itkt d o kvs).yld i H x H'→g x σ H' fun σ2 H2=>tb { D with nx:=N,ct:=N,bk:=D.nx } σ2 H2):=by
 refine⟨fun i m σ H=>m=kvs.length - i∧i≤kvs.length∧Pv i σ H,⟨kvs.length,by simp,Nat.zero_le _,h0⟩,?_⟩
 rintro i m σ H ⟨rfl,hi,p⟩
 have q:=hl i σ H p
 by_cases hlt:i < kvs.length
 ·refine .inr ⟨⟨q,hlt⟩,Pv (i+1),fun σ' H' p'=>⟨kvs.length - (i+1),by omega,rfl,hlt,p'⟩,fun v H' y=>?_⟩
  obtain⟨rfl,k,v',q',hk,rfl,hq⟩:=y
  exact hs i k v' q' σ _ hk hq p
 ·have e:i=kvs.length:=by omega
  subst e
  exact .inl ⟨⟨q,Nat.le_refl _⟩,hd σ H p⟩
theorem cN{g:Packet→V}:∀ {xs:List Packet} {y:Packet},valV (xs.map fun x=>(kk x,g x)) (kk y)=if y∈xs then some (g y) else none
 | [],y=>by
  rw[List.map_nil,jh]
  simp
 | x::r,y=>by
  rw[map_cons]
  by_cases e:x=y
  ·subst e
   rw[bD rfl]
   simp
  ·rw[bE (fun z=>e (eJ z)),cN (xs:=r)]
   have:(y∈x::r)↔y∈r:=by
    simp[Ne.symm e]
   simp only[this]
theorem rH{g:Packet→V}{xs:List Packet}{y:Packet}{v:V}(h:y ∉ xs)(hv:v=g y):putK (xs.map fun x=>(kk x,g x)) (kk y) v=(xs++[y]).map fun x=>(kk x,g x):=by
 rw[b7 _ (by rw[cN,if_neg h]),map_append,hv]
 rfl
def gJ:Sp:=fun vs H Q _=>∃ (O Sd:Addr) (ov:V) (kvsO kvsS:List (List Key × V)) (n:Net) (st:Packet→Option V),vs=[.ref O,.ref Sd,ov]∧H O=some (.dT kvsO)∧H Sd=some (.dT kvsS)∧Sd≠O∧Mw.WF n∧fI H kvsO n∧
 (∀ x,Mw.InU n x→valV kvsS (kk x)=st x)∧
 ∀ (H':Hp) (F:Addr) (xs:List Packet),Same H H'→H F=none→H' F=some (.dT (xs.map fun x=>(kk x,Mw.fsW n st ov x)))→xs.Nodup→(∀ x,x∈xs↔Mw.InU n x)→Q (.ref F) H'
theorem jv:al ["onward","settled","otherwise","found","start","trail","verdict","packet","passed"] ["onward","settled","otherwise"] (aj cE):=⟨rfl,rfl,rfl,by decide +kernel,rfl,by decide +kernel,by decide +kernel⟩
theorem jT(T:TxtF K mg "first_settled" cE ["onward","settled","otherwise"]):aq P w K mg base CX0 1 "first_settled" ["onward","settled","otherwise"] gJ:=by
 refine T.def0 jv (fun vs H Q E h=>?_) (fun f cdv A outer s H vs Q E hr h=>?_)
 ·obtain⟨O,Sd,ov,kvsO,kvsS,n,st,rfl,_⟩:=h
  rfl
 ·obtain⟨O,Sd,ov,kvsO,kvsS,n,st,rfl,hO,hSd,hne,W,hon,hst,k⟩:=h
  have nd:=jv.nd
  have hu:=dr hr
  refine⟨_,ad (ao (i:=3) nd rfl (Or.inl rfl) bH)
   (ad (gd (bx PassesOwn.never rfl (rL (pv 0)) (ay (i:=4) nd rfl (Or.inl rfl))
    (ad (ao (i:=5) nd rfl (Or.inl rfl) bH)
    (ad (ao (i:=6) nd rfl (Or.inl rfl) (pv 2))
    (ad (ao (i:=7) nd rfl (Or.inl rfl) (pv 4))
    (ad (gc PassesOwn.never (PW.pt (dw (bN (jc (pv 7))) (cy (bN (fg hu (pv 7) (pv 5))))))
     (ad (bi (bN (mJ hu (pv 7) (pv 3))) (ad (ao (i:=6) nd rfl (Or.inl rfl) (bC hu (pv 3) (pv 7) (fun _ _=>rfl))) (ah ot)) aK)
     (ad (bu hu (pv 5) (pv 7) eB rfl)
     (ad (bi (bN (mJ hu (pv 7) (pv 1))) (ad (ao (i:=6) nd rfl (Or.inl rfl) (bC hu (pv 1) (pv 7) (fun _ _=>rfl))) (ah ot)) aK)
     (ah (ao (i:=7) nd rfl (Or.inl rfl) (bC hu (pv 0) (pv 7) (fun _ _=>rfl))))))))
    (ah (gd (bx PassesOwn.never rfl (rL (pv 5)) (ay (i:=8) nd rfl (Or.inl rfl)) (ah (bu hu (pv 3) (pv 8) (pv 6) rfl)))))))))))
   (ah (au (pv 3)))),?_⟩
  intro F hF
  have s1:=ai (o:=.dT []) hF
  have nFO:F≠O:=(ae hO hF).symm
  have us:=cr W
  refine⟨O,_,s1 _ _ hO,trivial,fun od=>?_⟩
  let Base:Hp→List Packet→Prop:=fun H' xs=>(∀ b o,H b=some o→b≠O→H' b=some o)∧H' O=some (.frz od (.dT kvsO))∧H' F=some (.dT (xs.map fun x=>(kk x,Mw.fsW n st ov x)))∧xs.Nodup∧(∀ x∈xs,Mw.InU n x)
  refine⟨_,rfl,O,od,rfl,.inr ⟨kvsO,ac,lX (fun i σ H'=>∃ (v4 v5 v6 v7 v8:Option V) (xs:List Packet),σ=[some (.ref O),some (.ref Sd),some ov,some (.ref F),v4,v5,v6,v7,v8]∧Base H' xs∧∀ j,j < i→∀ (x:Packet) (v:V),kvsO[j]?=some (kk x,v)→x∈xs)
   ⟨none,none,none,none,none,[],rfl,⟨fun b o e nb=>?_,ac,?_,nodup_nil,(fun x hx=>by cases hx)⟩,fun j hj=>by omega⟩ (fun i σ H' ⟨_,_,_,_,_,_,_,hb,_⟩=>hb.2.1) ?_ ?_⟩⟩
  ·rw[ag nb]
   exact s1 _ _ e
  ·rw[ag nFO]
   exact ac
  ·rintro i key vv q0 σ H1 hkv hq0 ⟨v4,v5,v6,v7,v8,xs,rfl,⟨kb,hOz,hFd,hxn,hxU⟩,hcov⟩
   obtain⟨x0,hx0,ekey⟩:=hon.2 _ (mem_of_getElem? hkv)
   have ekey:key=kk x0:=ekey
   subst ekey
   have lx:=Mw.few hxn hxU
   intro T0 hT
   have nTO:T0≠O:=(ae hOz hT).symm
   have nTF:T0≠F:=(ae hFd hT).symm
   have nTH:H T0=none:=by
    cases q:H T0 with
    | none=>rfl
    | some o=>
     rw[kb _ _ q nTO] at hT
     cases hT
   have s2:=ai (o:=.dT []) hT
   have nSF:Sd≠F:=ae hSd hF
   have nST:Sd≠T0:=ae hSd nTH
   refine⟨_,rfl,?_⟩
   refine⟨_,rfl,?_⟩
   let Aft:St→Hp→Prop:=fun σ H'=>∃ (vd:V) (v7 v8:Option V) (tr:List Packet),σ=[some (.ref O),some (.ref Sd),some ov,some (.ref F),some (.ref q0),some (.ref T0),some vd,v7,v8]∧Base H' xs∧H' T0=some (.dT (tr.map fun x=>(kk x,V.bl true)))∧tr.Nodup∧
    (∀ x∈tr,x ∉ xs∧Mw.InU n x∧Mw.fsW n st ov x=vd)∧(x0∈tr∨x0∈xs)
   have aft:∀ (D:Ends) (σ:St) (H':Hp),(∀ σ H',(∃ (v4 v5 v6 v7 v8:Option V) (xs:List Packet),σ=[some (.ref O),some (.ref Sd),some ov,some (.ref F),v4,v5,v6,v7,v8]∧Base H' xs∧∀ j,j < i+1→∀ (x:Packet) (v:V),kvsO[j]?=some (kk x,v)→x∈xs)→D.nx σ H')→
     Aft σ H'→tLock (tFor (iKeys (tVar 5)) (aY 8) (sDPut (tVar 3) (tVar 8) (tVar 6))) D σ H':=by
    rintro D σ H2 hD ⟨vd,v7',v8',tr,rfl,⟨kb2,hOz2,hFd2,_,_⟩,hT2,htn,htr,hx0in⟩
    refine⟨T0,_,hT2,trivial,fun od2=>?_⟩
    refine⟨_,rfl,T0,od2,rfl,.inr ⟨_,ac,lX (fun j σ H'=>∃ v8:Option V,σ=[some (.ref O),some (.ref Sd),some ov,some (.ref F),some (.ref q0),some (.ref T0),some vd,v7',v8]∧Base H' (xs++tr.take j)∧H' T0=some (.frz od2 (.dT (tr.map fun x=>(kk x,V.bl true)))))
     ⟨v8',rfl,⟨fun b o e nb=>?_,?_,?_,?_,?_⟩,ac⟩ (fun j σ H' ⟨_,_,_,h⟩=>h) ?_ ?_⟩⟩
    ·rw[ag (ae e nTH)]
     exact kb2 _ _ e nb
    ·rw[ag nTO.symm]
     exact hOz2
    ·rw[ag nTF.symm,List.take_zero,append_nil]
     exact hFd2
    ·rw[List.take_zero,append_nil]
     exact hxn
    ·rw[List.take_zero,append_nil]
     exact hxU
    ·rintro j key v q σ H3 hk hq ⟨v8,rfl,⟨kb3,hOz3,hFd3,hn3,hU3⟩,hT3⟩
     rw[getElem?_map] at hk
     cases e:tr[j]? with
     | none=>
      rw[e] at hk
      cases hk
     | some x=>
      rw[e] at hk
      cases hk
      have hxm:x∈tr:=mem_of_getElem? e
      have hnx:x ∉ xs++tr.take j:=by
       intro z
       rcases mem_append.mp z with z | z
       ·exact(htr x hxm).1 z
       ·obtain⟨hj,ej⟩:=List.getElem?_eq_some_iff.mp e
        obtain⟨j',hj',ej'⟩:=List.mem_take_iff_getElem.mp z
        have:=(List.getElem_inj htn).mp (ej'.trans ej.symm)
        omega
      have l3:=Mw.few hn3 hU3
      have nqF:q≠F:=aP hq hFd3 (by intro z;cases z)
      refine⟨_,rfl,_,rfl,_,rfl,F,_,rfl,DPut.t (k:=kk x) hFd3 hq (by rw[length_map];exact aH (m:=640) (by omega)),?_⟩
      rw[rH hnx (htr x hxm).2.2.symm,aV e,←append_assoc]
      have nd4:(xs++tr.take j++[x]).Nodup:=nodup_append.mpr ⟨hn3,by simp,fun a ha b hb ee=>by simp at hb;rw[ee,hb] at ha;exact hnx ha⟩
      refine⟨_,rfl,⟨fun b o e nb=>?_,?_,ac,nd4,fun y hy=>?_⟩,?_⟩
      ·rw[ag (ae e hF)]
       exact kb3 _ _ e nb
      ·rw[ag nFO.symm]
       exact hOz3
      ·rcases mem_append.mp hy with z | z
       ·exact hU3 y z
       ·simp at z
        rw[z]
        exact(htr x hxm).2.1
      ·rw[ag nTF]
       exact hT3
    ·rintro σ H3 ⟨v8,rfl,⟨kb3,hOz3,hFd3,hn3,hU3⟩,hT3⟩
     rw[length_map,take_length] at hFd3 hn3 hU3
     refine⟨hT3,hD _ _ ⟨_,_,_,_,_,xs++tr,rfl,⟨fun b o e nb=>?_,?_,?_,hn3,hU3⟩,fun j hj x v hv=>?_⟩⟩
     ·rw[ag (ae e nTH)]
      exact kb3 _ _ e nb
     ·rw[ag nTO.symm]
      exact hOz3
     ·rw[ag nTF.symm]
      exact hFd3
     ·by_cases hji:j < i
      ·exact mem_append_left _ (hcov j hji x v hv)
      ·have:j=i:=by omega
       subst this
       rw[hkv] at hv
       have e0:kk x0=kk x:=by
        injection hv with hv
        injection hv
       rw[←eJ e0]
       rcases hx0in with z | z
       ·exact mem_append_right _ z
       ·exact mem_append_left _ z
   have b0:Base (upd H1 T0 (.dT [])) xs:=⟨fun b o e nb=>s2 _ _ (kb b o e nb),s2 _ _ hOz,s2 _ _ hFd,hxn,hxU⟩
   refine⟨fun m σ H'=>∃ (v:V) (v8:Option V) (tr:List Packet),σ=[some (.ref O),some (.ref Sd),some ov,some (.ref F),some (.ref q0),some (.ref T0),some ov,some v,v8]∧Base H' xs∧H' T0=some (.dT (tr.map fun x=>(kk x,V.bl true)))∧tr.Nodup∧
    (∀ x∈tr,x ∉ xs∧Mw.InU n x∧st x=none)∧((v=.non∧m=0∧(∀ x∈tr,Mw.fsW n st ov x=ov)∧x0∈tr)∨∃ (t:Addr) (y:Packet),v=.ref t∧TupN H' t y.switch y.header∧Mw.InU n y∧m+tr.length=1000∧
     (∀ x∈tr,Mw.fsW n st ov x=Mw.fsW n st ov y)∧(∀ x∈tr,∃ z,stepOf n x=.ok z∧(z∈tr∨z=y))∧(x0∈tr∨y=x0)),
    ⟨1000,.ref q0,v8,[],rfl,b0,ac,nodup_nil,(fun x hx=>by cases hx),.inr ⟨q0,x0,rfl,s2 _ _ hq0,hx0,rfl,(fun x hx=>by cases hx),(fun x hx=>by cases hx),.inr rfl⟩⟩,?_⟩
   rintro m σ H2 ⟨v,v8,tr,rfl,B2,hT2,htn,htr,hv⟩
   obtain⟨kb2,hOz2,hFd2,_,_⟩:=id B2
   have ltr:=Mw.few htn fun x hx=>(htr x hx).2.1
   rcases hv with⟨rfl,_,hall,hx0t⟩ | ⟨t,y,rfl,ht,hy,hm,hall,hcl,hx0t⟩
   ·refine⟨_,rfl,_,rfl,?_⟩
    refine iteF (iteF (aft _ _ _ (fun _ _ h=>h) ⟨ov,_,_,tr,rfl,B2,hT2,htn,fun x hx=>⟨(htr x hx).1,(htr x hx).2.1,hall x hx⟩,.inl hx0t⟩))
   ·refine⟨_,rfl,_,rfl,?_⟩
    refine iteT ⟨_,rfl,_,rfl,T0,_,rfl,DGet.t (k:=kk y) hT2 ht,_,rfl,?_⟩
    rw[cN]
    by_cases hin:y∈tr
    ·rw[if_pos hin]
     refine iteF (aft _ _ _ (fun _ _ h=>h) ⟨ov,_,_,tr,rfl,B2,hT2,htn,fun x hx=>⟨(htr x hx).1,(htr x hx).2.1,?_⟩,.inl ?_⟩)
     ·rw[hall x hx]
      refine Mw.qM W (T:=tr) (fun z hz=>⟨(htr z hz).2.1,(htr z hz).2.2,?_⟩) hin
      obtain⟨z',h1,h2⟩:=hcl z hz
      exact⟨z',h1,h2.elim id fun e=>e ▸ hin⟩
     ·rcases hx0t with z | z
      ·exact z
      ·rw[←z]
       exact hin
    ·rw[if_neg hin]
     refine iteT ⟨_,fun _ _ h=>h,?_⟩
     refine⟨_,rfl,_,rfl,F,_,rfl,DGet.t (k:=kk y) hFd2 ht,_,rfl,?_⟩
     by_cases hyx:y∈xs
     ·have hval:valV (xs.map fun x=>(kk x,Mw.fsW n st ov x)) (kk y)=some (Mw.fsW n st ov y):=by rw[cN,if_pos hyx]
      rw[hval]
      refine iteT ⟨_,rfl,_,rfl,F,_,rfl,(by rw[←hval];exact DGet.t (k:=kk y) hFd2 ht),?_⟩
      refine aft _ _ _ (fun _ _ h=>h) ⟨_,_,_,tr,rfl,B2,hT2,htn,fun x hx=>⟨(htr x hx).1,(htr x hx).2.1,hall x hx⟩,?_⟩
      rcases hx0t with z | z
      ·exact .inl z
      ·exact .inr (z ▸ hyx)
     ·have hval:valV (xs.map fun x=>(kk x,Mw.fsW n st ov x)) (kk y)=none:=by rw[cN,if_neg hyx]
      rw[hval]
      refine iteF ?_
      have ntT:t≠T0:=aP ht hT2 (by intro z;cases z)
      refine⟨_,rfl,_,rfl,T0,_,rfl,DPut.t (k:=kk y) hT2 ht (by rw[length_map];exact aH (m:=640) (by omega)),?_⟩
      rw[rH (g:=fun _=>V.bl true) hin rfl]
      generalize hH3:upd H2 T0 (.dT ((tr++[y]).map fun x=>(kk x,V.bl true)))=H3
      have k3:∀ b o,H2 b=some o→b≠T0→H3 b=some o:=fun b o e nb=>by
       rw[←hH3,ag nb]
       exact e
      have hT3:H3 T0=some (.dT ((tr++[y]).map fun x=>(kk x,V.bl true))):=by rw[←hH3,ac]
      have B3:Base H3 xs:=⟨fun b o e nb=>k3 _ _ (kb2 _ _ e nb) (ae e nTH),k3 _ _ hOz2 nTO.symm,k3 _ _ hFd2 nTF.symm,hxn,hxU⟩
      have ht3:=k3 _ _ ht ntT
      have nd3:(tr++[y]).Nodup:=nodup_append.mpr ⟨htn,by simp,fun a ha b hb e=>by simp at hb;subst hb;subst e;exact hin ha⟩
      have ltr3:=Mw.few nd3 fun x hx=>by
       rcases mem_append.mp hx with z | z
       ·exact(htr x z).2.1
       ·simp at z
        rw[z]
        exact hy
      simp at ltr3
      have hS3:H3 Sd=some (.dT kvsS):=k3 _ _ (kb2 _ _ hSd hne) nST
      refine⟨_,rfl,_,rfl,Sd,_,rfl,DGet.t (k:=kk y) hS3 ht3,_,rfl,?_⟩
      rw[hst y hy]
      cases hsy:st y with
      | some u=>
       have fy:Mw.fsW n st ov y=u:=by rw[Mw.vY W hy,hsy]
       refine iteT ⟨_,rfl,_,rfl,Sd,u,rfl,(by rw[←hsy,←hst y hy];exact DGet.t (k:=kk y) hS3 ht3),?_⟩
       refine aft _ _ _ (fun _ _ h=>h) ⟨_,_,_,tr++[y],rfl,B3,hT3,nd3,fun x hx=>?_,.inl ?_⟩
       ·rcases mem_append.mp hx with z | z
        ·exact⟨(htr x z).1,(htr x z).2.1,by rw[hall x z,fy]⟩
        ·simp at z
         subst z
         exact⟨hyx,hy,fy⟩
       ·rcases hx0t with z | z
        ·exact mem_append_left _ z
        ·exact mem_append_right _ (by simp[z])
      | none=>
       refine iteF ?_
       obtain⟨u,hu1,hu2⟩:=(hon.same (H':=H3) fun b xs e=>B3.1 _ _ e (aP e hO (by intro z;cases z))).1 y hy
       refine⟨_,rfl,_,rfl,O,u,rfl,(by rw[←hu1];exact DGet.rt (k:=kk y) (.inr ⟨od,B3.2.1⟩) ht3),?_⟩
       have htr3:∀ x∈tr++[y],x ∉ xs∧Mw.InU n x∧st x=none:=fun x hx=>by
        rcases mem_append.mp hx with z | z
        ·exact htr x z
        ·simp at z
         subst z
         exact⟨hyx,hy,hsy⟩
       have hx03:x0∈tr++[y]:=by
        rcases hx0t with z | z
        ·exact mem_append_left _ z
        ·exact mem_append_right _ (by simp[z])
       have feq:=Mw.vY W (st:=st) (ov:=ov) hy
       rw[hsy] at feq
       cases s:stepOf n y with
       | error en=>
        rw[s] at hu2 feq
        have hu2:u=.non:=hu2
        subst hu2
        have feq:Mw.fsW n st ov y=ov:=feq
        refine⟨0,by omega,.non,_,tr++[y],rfl,B3,hT3,nd3,htr3,.inl ⟨rfl,rfl,fun x hx=>?_,hx03⟩⟩
        rcases mem_append.mp hx with z | z
        ·rw[hall x z,feq]
        ·simp at z
         rw[z,feq]
       | ok z0=>
        rw[s] at hu2 feq
        obtain⟨t2,rfl,ht2⟩:=hu2
        have feq:Mw.fsW n st ov y=Mw.fsW n st ov z0:=feq
        refine⟨m - 1,by omega,.ref t2,_,tr++[y],rfl,B3,hT3,nd3,htr3,.inr ⟨t2,z0,rfl,ht2,Mw.cx W hy s,by rw[length_append,length_singleton];omega,fun x hx=>?_,fun x hx=>?_,.inl hx03⟩⟩
        ·rcases mem_append.mp hx with z | z
         ·rw[hall x z,feq]
         ·simp at z
          rw[z,feq]
        ·rcases mem_append.mp hx with z | z
         ·obtain⟨w1,h1,h2⟩:=hcl x z
          refine⟨w1,h1,.inl ?_⟩
          rcases h2 with h2 | h2
          ·exact mem_append_left _ h2
          ·exact mem_append_right _ (by simp[h2])
         ·simp at z
          subst z
          exact⟨z0,s,.inr rfl⟩
  ·rintro σ H1 ⟨v4,v5,v6,v7,v8,xs,rfl,⟨kb,hOz,hFd,hxn,hxU⟩,hcov⟩
   refine⟨hOz,_,rfl,?_⟩
   have sm:Same H (upd H1 O (.dT kvsO)):=fun b o e=>by
    by_cases hb:b=O
    ·subst hb
     rw[ac,←hO,e]
    ·rw[ag hb]
     exact kb b o e hb
   refine k _ F xs sm hF (by rw[ag nFO];exact hFd) hxn fun x=>⟨hxU x,fun hx=>?_⟩
   obtain⟨v,hv,_⟩:=hon.1 x hx
   have hm:(kk x,v)∈kvsO:=by
    unfold valV at hv
    cases e:kvsO.find? (fun kv=>decide (kv.1=kk x)) with
    | none=>
     rw[e] at hv
     cases hv
    | some kv=>
     rw[e] at hv
     cases hv
     have h1:=List.find?_some e
     have h2:=List.mem_of_find?_eq_some e
     have h1:kv.1=kk x:=of_decide_eq_true h1
     rw[←h1]
     exact h2
   obtain⟨j,hj,ej⟩:=List.getElem_of_mem hm
   exact hcov j hj x v (by rw[getElem?_eq_getElem hj,ej])
end
section
variable{P:Program}{w:World}{K:Frag}{mg:Str→Option Value}{base:Heap}
theorem xw{a:Addr}{xs:List V}{g:TG}{tb:TS}{D:Ends}{σ:St}{H:Hp}(Pv:Nat→St→Hp→Prop)(h0:Pv 0 σ H)(hl:∀ i σ H,i≤xs.length→Pv i σ H→SqL K H a xs)
  (hs:∀ i x σ H,i < xs.length→xs[xs.length - 1 - i]?=some x→Pv i σ H→g x σ H fun σ2 H2=>tb { D with nx:=Pv (i+1),ct:=Pv (i+1),bk:=D.nx } σ2 H2) (hd:∀ σ H,Pv xs.length σ H→D.nx σ H) :
  ∃ W:Nat→Nat→St→Hp→Prop,(∃ m,W 0 m σ H)∧∀ i m σ H,W i m σ H→
   ((Itv K a xs.length).stop i H∧D.nx σ H)∨((Itv K a xs.length).go i H∧∃ N:St→Hp→Prop,(∀ σ' H',N σ' H'→∃ m',m' < m∧W (i+1) m' σ' H')∧∀ x H',(Itv K a xs.length).yld i H x H'→g x σ H' fun σ2 H2=>tb { D with nx:=N,ct:=N,bk:=D.nx } σ2 H2):=by
 refine⟨fun i m σ H=>m=xs.length - i∧i≤xs.length∧Pv i σ H,⟨xs.length,by simp,Nat.zero_le _,h0⟩,?_⟩
 rintro i m σ H ⟨rfl,hi,p⟩
 have q:=hl i σ H hi p
 by_cases hlt:i < xs.length
 ·refine .inr ⟨⟨hlt,xs,xs[xs.length - 1 - i],q,getElem?_eq_getElem (by omega)⟩,Pv (i+1),fun σ' H' p'=>⟨xs.length - (i+1),by omega,rfl,hlt,p'⟩,fun x H' y=>?_⟩
  obtain⟨e,y⟩:=y
  subst e
  exact hs i x σ _ hlt (y xs q) p
 ·have e:i=xs.length:=by omega
  subst e
  exact .inl ⟨Nat.le_refl _,hd σ H p⟩
def dY(n:Net)(kp:List (List Key × V)):Prop:=∀ x v,valV kp (kk x)=some v→v=.int (Mw.wlen n x:Nat)
theorem dY.put{n:Net}{kp:List (List Key × V)}(h:dY n kp)(x:Packet):dY n (putK kp (kk x) (.int (Mw.wlen n x:Nat))):=fun y v e=>by
 rw[bh] at e
 split at e
 ·rename_i q
  cases e
  rw[eJ q]
 ·exact h y v e
theorem or{kp:List (List Key × V)}{x y:Packet}{v:V}(h:(valV kp (kk x)).isSome=true):(valV (putK kp (kk y) v) (kk x)).isSome=true:=by
 rw[bh]
 split
 ·rfl
 ·exact h
theorem lR{n:Net}{H0 H1:Hp}{L Tr:Addr}{kp0:List (List Key × V)}{tr:List Addr}{trail:List Packet}{rem:Nat}{c0 c1 c3 c5 c7:Option V}{tb:TS}{D:Ends}{wx:Nat}(hL0:H0 L=none)(s1:Same H0 H1)(hL:H1 L=some (.dT kp0))(hT:H1 Tr=some (.lst (tr.map V.ref)))(htr:cp H1 tr trail)(hok:dY n kp0)(hsm:kp0.length+trail.length < 100000)
  (hlens:∀ j z,trail[j]?=some z→Mw.wlen n z+j=wx) (hrem:rem+trail.length=wx)
  (htb:∀ (D:Ends) (H:Hp) (u:Addr) (y:Packet) (z:Int) (kp:List (List Key × V)),TupN H u y.switch y.header→H L=some (.dT kp)→kp.length < 100000→D.nx [c0,c1,some (.ref L),c3,some (.ref Tr),c5,some (.int (z+1)),some (.ref u)] (upd H L (.dT (putK kp (kk y) (.int (z+1)))))→tb D [c0,c1,some (.ref L),c3,some (.ref Tr),c5,some (.int z),some (.ref u)] H)
  (hd:∀ (z:Int) (v7:Option V) (H':Hp) (kp:List (List Key × V)),Same H0 H'→H' L=some (.dT kp)→dY n kp→kp.length≤kp0.length+trail.length→(∀ x,(valV kp0 (kk x)).isSome=true→(valV kp (kk x)).isSome=true)→(∀ z∈trail,(valV kp (kk z)).isSome=true)→D.nx [c0,c1,some (.ref L),c3,some (.ref Tr),c5,some (.int z),v7] H') :
  ∃ W:Nat→Nat→St→Hp→Prop,(∃ m,W 0 m [c0,c1,some (.ref L),c3,some (.ref Tr),c5,some (.int (rem:Int)),c7] H1)∧∀ i m σ H,W i m σ H→
   ((Itv K Tr (tr.map V.ref).length).stop i H∧D.nx σ H)∨((Itv K Tr (tr.map V.ref).length).go i H∧∃ N:St→Hp→Prop,(∀ σ' H',N σ' H'→∃ m',m' < m∧W (i+1) m' σ' H')∧∀ x H',(Itv K Tr (tr.map V.ref).length).yld i H x H'→aY 7 x σ H' fun σ2 H2=>tb { D with nx:=N,ct:=N,bk:=D.nx } σ2 H2):=by
 have ltr:tr.length=trail.length:=Paired.length htr
 have nTL:Tr≠L:=aP hT hL (by intro z;cases z)
 refine xw (K:=K) (a:=Tr) (xs:=tr.map V.ref) (fun j σ H'=>∃ (v7:Option V) (kp:List (List Key × V)),σ=[c0,c1,some (.ref L),c3,some (.ref Tr),c5,some (.int ((rem+j:Nat):Int)),v7]∧da L H1 H'∧H' L=some (.dT kp)∧dY n kp∧kp.length≤kp0.length+j∧(∀ x,(valV kp0 (kk x)).isSome=true→(valV kp (kk x)).isSome=true)∧∀ i z,trail.length - j≤i→trail[i]?=some z→(valV kp (kk z)).isSome=true)
  ⟨c7,kp0,rfl,fun b o _ e=>e,hL,hok,Nat.le_refl _,fun _ h=>h,fun i z hi hz=>?_⟩ (fun j σ H' _ ⟨_,_,_,sx,_⟩=>SqL.of (sx _ _ nTL hT)) ?_ ?_
 ·have:=(List.getElem?_eq_some_iff.mp hz).1
  omega
 ·rintro j x σ H' hj hx ⟨v7,kp,rfl,sx,hL',hok',hlen,hmono,hin⟩
  rw[length_map] at hj hx
  rw[getElem?_map] at hx
  cases e:tr[tr.length - 1 - j]? with
  | none=>
   rw[e] at hx
   cases hx
  | some u=>
   rw[e] at hx
   cases hx
   obtain⟨y,hy1,hy2⟩:=aC htr e
   have wy:=hlens _ y hy1
   have nuL:u≠L:=aP hy2 hL (by intro z;cases z)
   have e1:((rem+j:Nat):Int)+1=((Mw.wlen n y:Nat):Int):=by omega
   have e2:((rem+j:Nat):Int)+1=((rem+(j+1):Nat):Int):=by omega
   refine htb _ H' u y _ kp (sx _ _ nuL hy2) hL' (by omega) ?_
   have l1:=aX kp (kk y) (V.int (Mw.wlen n y:Nat))
   refine⟨_,putK kp (kk y) (.int (Mw.wlen n y:Nat)),by rw[e2],fun b o nb e=>?_,?_,hok'.put y,by omega,fun x hx=>or (hmono x hx),fun i z hi hz=>?_⟩
   ·rw[ag nb]
    exact sx _ _ nb e
   ·rw[ac,e1]
   ·by_cases q:trail.length - j≤i
    ·exact or (hin i z q hz)
    ·have ei:i=tr.length - 1 - j:=by omega
     rw[ei,hy1] at hz
     cases hz
     rw[bh,if_pos rfl]
     rfl
 ·rintro σ H' ⟨v7,kp,rfl,sx,hL',hok',hlen,hmono,hin⟩
  rw[length_map,ltr] at hlen
  refine hd _ v7 H' kp (fun b o e=>sx _ _ (ae e hL0) (s1 _ _ e)) hL' hok' hlen hmono fun z hz=>?_
  obtain⟨i,hi,ez⟩:=List.mem_iff_getElem.mp hz
  exact hin i z (by rw[length_map];omega) (by rw[←ez];exact getElem?_eq_getElem hi)
def uu:Sp:=fun vs H Q _=>∃ (O sl:Addr) (kvs:List (List Key × V)) (n:Net) (ts:List Addr) (xs:List Packet),vs=[.ref O,.ref sl]∧Rd H O (.dT kvs)∧Mw.WF n∧fI H kvs n∧H sl=some (.lst (ts.map V.ref))∧cp H ts xs∧(∀ x∈xs,Mw.InU n x∧endOf n x≠.round)∧xs.length≤128∧
 ∀ (H':Hp) (L:Addr) (kp:List (List Key × V)),Same H H'→H L=none→H' L=some (.dT kp)→(∀ x∈xs,valV kp (kk x)=some (.int (Mw.wlen n x:Nat)))→Q (.ref L) H'
theorem rB:al ["onward","starts","lengths","start","trail","packet","length","passed"] ["onward","starts"] (aj rG):=⟨rfl,rfl,rfl,by decide +kernel,rfl,by decide +kernel,by decide +kernel⟩
theorem xa(T:TxtF K mg "way_lengths" rG ["onward","starts"])(B:TxtB mg):aq P w K mg base CX0 1 "way_lengths" ["onward","starts"] uu:=by
 refine T.def0 rB (fun vs H Q E h=>?_) (fun f cdv A outer s H vs Q E hr h=>?_)
 ·obtain⟨O,sl,kvs,n,ts,xs,rfl,_⟩:=h
  rfl
 ·obtain⟨O,sl,kvs,n,ts,xs,rfl,hO,W,hon,hsl,hts,hxs,h128,k⟩:=h
  have nd:=rB.nd
  have hu:=dr hr
  refine⟨_,ad (ao (i:=2) nd rfl (Or.inl rfl) bH)
   (ad (bx PassesOwn.never rfl (be (pv 1)) (ay (i:=3) nd rfl (Or.inl rfl))
    (ad (ao (i:=4) nd rfl (Or.inl rfl) (bz af))
    (ad (ao (i:=5) nd rfl (Or.inl rfl) (pv 3))
    (ad (gc PassesOwn.never (PW.pt (dw (bN (jc (pv 5))) (cy (bN (fg hu (pv 5) (pv 2))))))
     (ad (b9 (eu PySem.F.plainAttrs_list PySem.F.slot_list_append PySem.F.type_list_append fh (pv 4) (aa (pv 5) af))) (ah (ao (i:=5) nd rfl (Or.inl rfl) (bC hu (pv 0) (pv 5) (fun _ _=>rfl))))))
    (ad (ao (i:=6) nd rfl (Or.inl rfl) (gj (bN (hG (pv 5))) ak (bC hu (pv 2) (pv 5) (fun _ _=>rfl))))
    (ah (bx PassesOwn.never rfl (ox rfl B.reversed (aa (pv 4) af)) (ay (i:=7) nd rfl (Or.inl rfl))
     (ad (u5 (i:=6) nd rfl (Or.inl rfl) ak vR) (ah (bu hu (pv 2) (pv 7) (pv 6) rfl))))))))))
   (ah (au (pv 2)))),?_⟩
  intro L hL
  have s1:=ai (o:=.dT []) hL
  have us:=cr W
  have lts:ts.length=xs.length:=Paired.length hts
  refine⟨_,rfl,sl,rfl,⟨_,SqL.of (s1 _ _ hsl)⟩,bP (K:=K) (a:=sl) (xs:=ts.map V.ref)
   (fun i σ H'=>∃ (v3 v4 v5 v6 v7:Option V) (kp:List (List Key × V)),σ=[some (.ref O),some (.ref sl),some (.ref L),v3,v4,v5,v6,v7]∧Same H H'∧H' L=some (.dT kp)∧dY n kp∧kp.length≤640*i∧∀ x∈xs.take i,(valV kp (kk x)).isSome=true)
   ⟨none,none,none,none,none,[],rfl,s1,ac,(fun x v e=>by rw[jh] at e;cases e),Nat.zero_le _,fun y hy=>by cases hy⟩ (fun i σ H' _ ⟨_,_,_,_,_,_,_,s2,_⟩=>SqL.of (s2 _ _ hsl)) ?_ ?_⟩
  ·rintro i x0 σ H1 hx0 ⟨v3,v4,v5,v6,v7,kp,rfl,s2,hLd,hok,hlen,hcov⟩
   rw[getElem?_map] at hx0
   cases e0:ts[i]? with
   | none=>
    rw[e0] at hx0
    cases hx0
   | some q=>
    rw[e0] at hx0
    cases hx0
    obtain⟨x,hx1,hq⟩:=aC hts e0
    obtain⟨hx,hxr⟩:=hxs x (mem_of_getElem? hx1)
    have hi:i < 128:=by
     have:=(List.getElem?_eq_some_iff.mp hx1).1
     omega
    have wx:Mw.wlen n x≤640:=Ms.sB W hx
    refine⟨by show 0≤sizeLine;decide,fun Tr hTr=>?_⟩
    have nTL:L≠Tr:=ae hLd hTr
    have hTr0:H Tr=none:=s2.free hTr
    refine⟨_,rfl,?_⟩
    refine⟨fun m σ H'=>∃ (v:V) (tr:List Addr) (trail:List Packet) (rem:Nat),σ=[some (.ref O),some (.ref sl),some (.ref L),some (.ref q),some (.ref Tr),some v,v6,v7]∧Same H H'∧H' L=some (.dT kp)∧H' Tr=some (.lst (tr.map V.ref))∧cp H' tr trail∧m=rem∧
      (∀ j z,trail[j]?=some z→Mw.wlen n z+j=Mw.wlen n x)∧rem+trail.length=Mw.wlen n x∧((v=.non∧rem=0∧trail[0]?=some x)∨∃ (t:Addr) (y:Packet),v=.ref t∧TupN H' t y.switch y.header∧Mw.InU n y∧endOf n y≠.round∧rem=Mw.wlen n y∧((trail=[]∧y=x)∨trail[0]?=some x)),
     ⟨Mw.wlen n x,.ref q,[],[],Mw.wlen n x,rfl,s2.trans (ai hTr),by rw[ag nTL];exact hLd,ac,.nil,rfl,(fun j z e=>by simp at e),rfl,.inr ⟨q,x,rfl,ai hTr _ _ (s2 _ _ hq),hx,hxr,rfl,.inl ⟨rfl,rfl⟩⟩⟩,?_⟩
    rintro m σ H' ⟨v,tr,trail,rem,rfl,s3,hL3,hT3,htr,rfl,hlens,hrem,hv⟩
    have ltr:tr.length=trail.length:=Paired.length htr
    have cov:∀ kp':List (List Key × V),(∀ x,(valV kp (kk x)).isSome=true→(valV kp' (kk x)).isSome=true)→(∀ z∈trail,(valV kp' (kk z)).isSome=true)→(trail[0]?=some x∨(valV kp (kk x)).isSome=true)→∀ y∈xs.take (i+1),(valV kp' (kk y)).isSome=true:=fun kp' hm hz hc y hy=>by
     rw[aV hx1] at hy
     rcases mem_append.mp hy with h | h
     ·exact hm y (hcov y h)
     ·simp at h
      rw[h]
      rcases hc with h | h
      ·exact hz x (mem_of_getElem? h)
      ·exact hm x h
    have hw:∀ v:V,(trail[0]?=some x∨(valV kp (kk x)).isSome=true)→∀ (z:Int) (v7:Option V) (H'':Hp) (kp':List (List Key × V)),Same H H''→H'' L=some (.dT kp')→dY n kp'→kp'.length≤kp.length+trail.length→(∀ x,(valV kp (kk x)).isSome=true→(valV kp' (kk x)).isSome=true)→(∀ z∈trail,(valV kp' (kk z)).isSome=true)→
      ∃ (v3 v4 v5 v6 v7':Option V) (kp:List (List Key × V)),[some (.ref O),some (.ref sl),some (.ref L),some (.ref q),some (.ref Tr),some v,some (.int z),v7]=[some (.ref O),some (.ref sl),some (.ref L),v3,v4,v5,v6,v7']∧Same H H''∧H'' L=some (.dT kp)∧dY n kp∧kp.length≤640*(i+1)∧∀ x∈xs.take (i+1),(valV kp (kk x)).isSome=true:=
     fun v hc z v7 H'' kp' sa hl hk hle hm hz=>⟨_,_,_,_,_,kp',rfl,sa,hl,hk,by omega,cov kp' hm hz hc⟩
    rcases hv with⟨rfl,hr0,hc⟩ | ⟨t,y,rfl,ht,hy,hyr,hre,hc⟩
    ·refine⟨_,rfl,_,rfl,?_⟩
     refine iteF ?_
     refine iteF ⟨_,rfl,_,rfl,?_⟩
     refine iteT ⟨_,rfl,Tr,_,rfl,SqL.of hT3,?_⟩
     subst hr0
     refine lR (n:=n) (rem:=0) (wx:=Mw.wlen n x) hL s3 hL3 hT3 htr hok (by omega) hlens hrem ?_ (hw _ (.inl hc))
     intro D H u y z kp2 hu2 hl2 hlt hnx
     exact⟨_,rfl,_,_,rfl,rfl,_,rfl,_,rfl,_,rfl,L,_,rfl,DPut.t (k:=kk y) hl2 hu2 (aH (m:=99999) (by omega)),hnx⟩
    ·refine⟨_,rfl,_,rfl,?_⟩
     refine iteT ⟨_,rfl,_,rfl,L,_,rfl,DGet.t (k:=kk y) hL3 ht,_,rfl,?_⟩
     cases e2:valV kp (kk y) with
     | some u=>
      have hu:=hok y u e2
      subst hu
      refine iteF ⟨_,rfl,_,rfl,?_⟩
      refine iteF ⟨_,rfl,_,rfl,L,.int (Mw.wlen n y:Nat),rfl,?_,?_⟩
      ·rw[←e2]
       exact DGet.t (k:=kk y) hL3 ht
      ·refine⟨_,rfl,Tr,_,rfl,SqL.of hT3,?_⟩
       rw[←hre]
       refine lR (n:=n) (rem:=m) (wx:=Mw.wlen n x) hL s3 hL3 hT3 htr hok (by omega) hlens hrem ?_ (hw _ ?_)
       ·intro D H u y z kp2 hu2 hl2 hlt hnx
        exact⟨_,rfl,_,_,rfl,rfl,_,rfl,_,rfl,_,rfl,L,_,rfl,DPut.t (k:=kk y) hl2 hu2 (aH (m:=99999) (by omega)),hnx⟩
       ·rcases hc with⟨_,rfl⟩ | hc
        ·right
         rw[e2]
         rfl
        ·exact .inl hc
     | none=>
      refine iteT ⟨_,fun _ _ h=>h,?_⟩
      refine⟨_,rfl,.inl ⟨rfl,_,SqL.of hT3⟩,_,rfl,Tr,_,_,rfl,rfl,hT3,?_,?_⟩
      ·rw[length_map]
       exact aH (m:=1000) (by omega)
      have s4:Same H (upd H' Tr (.lst (tr.map V.ref++[.ref t]))):=fun b o hb=>by
       rw[ag (ae hb hTr0)]
       exact s3 _ _ hb
      have tk:∀ b xs,H' b=some (.tup xs)→upd H' Tr (.lst (tr.map V.ref++[.ref t])) b=some (.tup xs):=fun b xs e=>by
       rw[ag (aP e hT3 (by intro z;cases z))]
       exact e
      obtain⟨u,hu1,hu2⟩:=(hon.same (H':=upd H' Tr (.lst (tr.map V.ref++[.ref t]))) fun b xs e=>s4 _ _ e).1 y hy
      refine⟨_,rfl,_,rfl,O,u,rfl,?_,?_⟩
      ·rw[←hu1]
       exact DGet.rt (k:=kk y) (s4.rd hO) (tk _ _ ht)
      have wp:=Mw.ue W hy
      have lens2:∀ j z,(trail++[y])[j]?=some z→Mw.wlen n z+j=Mw.wlen n x:=fun j z hz=>by
       by_cases qq:j < trail.length
       ·rw[List.getElem?_append_left qq] at hz
        exact hlens j z hz
       ·have hj:=(List.getElem?_eq_some_iff.mp hz).1
        rw[length_append,length_singleton] at hj
        have:j=trail.length:=by omega
        subst this
        rw[List.getElem?_append_right (Nat.le_refl _),Nat.sub_self] at hz
        cases hz
        omega
      have first:(trail++[y])[0]?=some x:=by
       rcases hc with⟨h1,h2⟩ | h
       ·rw[h1,h2]
        rfl
       ·rw[List.getElem?_append_left (List.getElem?_eq_some_iff.mp h).1]
        exact h
      have pks2:cp (upd H' Tr (.lst (tr.map V.ref++[.ref t]))) (tr++[t]) (trail++[y]):=Paired.snoc (Paired.mapP htr fun q x e=>tk _ _ e) (tk _ _ ht)
      have lT:upd H' Tr (.lst (tr.map V.ref++[.ref t])) Tr=some (.lst ((tr++[t]).map V.ref)):=by
       rw[ac,map_append]
       rfl
      have hL4:upd H' Tr (.lst (tr.map V.ref++[.ref t])) L=some (.dT kp):=by
       rw[ag nTL]
       exact hL3
      cases st:stepOf n y with
      | error e=>
       rw[st] at hu2
       have hu2:u=.non:=hu2
       subst hu2
       have w1:=Mw.su st
       exact⟨0,by omega,.non,tr++[t],trail++[y],0,rfl,s4,hL4,lT,pks2,rfl,lens2,by rw[length_append,length_singleton];omega,.inl ⟨rfl,rfl,first⟩⟩
      | ok y2=>
       rw[st] at hu2
       obtain⟨t2,rfl,ht2⟩:=hu2
       obtain⟨r2,w2⟩:=Mw.sv W hy st hyr
       exact⟨Mw.wlen n y2,by omega,.ref t2,tr++[t],trail++[y],Mw.wlen n y2,rfl,s4,hL4,lT,pks2,rfl,lens2,by rw[length_append,length_singleton];omega,.inr ⟨t2,y2,rfl,ht2,Mw.cx W hy st,r2,rfl,.inr first⟩⟩
  ·rintro σ H' ⟨v3,v4,v5,v6,v7,kp,rfl,s2,hLd,hok,hlen,hcov⟩
   rw[length_map,lts,take_length] at hcov
   refine⟨_,rfl,k H' L kp s2 hL hLd fun x hx=>?_⟩
   obtain⟨u,hu⟩:=Option.isSome_iff_exists.mp (hcov x hx)
   rw[hu,hok x u hu]
end
abbrev om:Stmt:=bM (top 14) 0
abbrev sStep:Stmt:=bM (top 14) 1
abbrev jE:Stmt:=bM (top 14) 2
abbrev jF:Stmt:=bM (top 14) 3
abbrev oq:Stmt:=bM (top 14) 4
abbrev oo:Stmt:=bM (top 14) 5
abbrev on:Stmt:=bM (top 14) 6
abbrev uG:Stmt:=bM (top 14) 7
abbrev lG:Stmt:=bM (top 14) 8
def IsC(mg:Str→Option Value)(x:Str)(z:Int):Prop:=∃ t,mg x=some (.int z t)
theorem pe_c{X:Cx}{x:Str}{z:Int}{pos:Pos}(h:IsC X.mg x z)(hg:Gl X x)(hd:(x == ("__debug__":Str))=false:=by decide):PE X (.Name x pos) (tC (.int z)):=by
 obtain⟨t,e⟩:=h
 exact bT hg e ⟨t,rfl⟩ hd
structure TxtC(mg:Str→Option Value):Prop where
 atExit:IsC mg "AT_EXIT" 0
 dropped:IsC mg "DROPPED" 1
 hole:IsC mg "HOLE" 2
 round:IsC mg "ROUND" 3
 ports:IsC mg "PORTS" 6
structure TxtW(K:Frag)(mg:Str→Option Value)(CW:Addr):Prop where
 cl:Cls K CW
 n1:bn K CW "numbers"
 n2:bn K CW "width"
 n3:bn K CW "size"
 n4:bn K CW "tables"
 n5:bn K CW "far"
 n6:bn K CW "onward"
 n7:bn K CW "stops"
 n8:bn K CW "ends"
 n9:bn K CW "links"
 n10:bn K CW "counting"
 n11:bn K CW "sent_by"
 gW:mg "Network"=some (.ref CW)
 init:TxtI K CW "Network.__init__" om ["self","numbers","width","tables","links"]
 step:TxtM K CW "take_step" "Network.take_step" sStep ["self","switch","header"]
 hasSwitch:TxtM K CW "has_switch" "Network.has_switch" jE ["self","switch"]
 hasHeader:TxtM K CW "has_header" "Network.has_header" jF ["self","header"]
 hasExit:TxtM K CW "has_exit" "Network.has_exit" oq ["self","switch","port"]
 hasLink:TxtM K CW "has_link" "Network.has_link" oo ["self","link"]
 hasRule:TxtM K CW "has_rule" "Network.has_rule" on ["self","switch","number"]
 pksAt:TxtM K CW "packets_at" "Network.packets_at" uG ["self","switch","pattern"]
 endsFrom:TxtM K CW "ends_from" "Network.ends_from" lG ["self","switch"]
def gD(CR:Addr)(H:Hp)(l:Addr)(t:List Rule):Prop:=∃ qs:List Addr,H l=some (.lst (qs.map V.ref))∧dX CR H qs t
def cw(CR:Addr)(H:Hp)(tl:Addr)(ts:List (List Rule)):Prop:=∃ ls:List Addr,H tl=some (.lst (ls.map V.ref))∧Paired (fun l t=>gD CR H l t) ls ts
theorem gD.same{CR:Addr}{H H':Hp}{l:Addr}{t:List Rule}(h:gD CR H l t)(s:∀ b o,H b=some o→((∃ xs,o=.lst xs)∨(∃ xs,o=.tup xs)∨∃ dx a b c d,o=.ins CR dx (cK a b c d))→H' b=some o):gD CR H' l t:=by
 obtain⟨qs,h1,h2⟩:=h
 exact⟨qs,s _ _ h1 (.inl ⟨_,rfl⟩),Paired.mapP h2 fun q r e=>e.same fun b o e ho=>s b o e (.inr ho)⟩
theorem cw.same{CR:Addr}{H H':Hp}{tl:Addr}{ts:List (List Rule)}(h:cw CR H tl ts)(s:∀ b o,H b=some o→((∃ xs,o=.lst xs)∨(∃ xs,o=.tup xs)∨∃ dx a b c d,o=.ins CR dx (cK a b c d))→H' b=some o):cw CR H' tl ts:=by
 obtain⟨ls,h1,h2⟩:=h
 exact⟨ls,s _ _ h1 (.inl ⟨_,rfl⟩),Paired.mapP h2 fun q r e=>e.same s⟩
theorem cw.get{CR:Addr}{H:Hp}{tl:Addr}{ts:List (List Rule)}(h:cw CR H tl ts){i:Nat}{t:List Rule}(hi:ts[i]?=some t):∃ (ls:List Addr) (l:Addr),H tl=some (.lst (ls.map V.ref))∧ls[i]?=some l∧gD CR H l t:=by
 obtain⟨ls,h1,h2⟩:=h
 have hl:=Paired.length h2
 obtain⟨hi',e⟩:=List.getElem?_eq_some_iff.mp hi
 have hl':i < ls.length:=by omega
 obtain⟨t',ht,h3⟩:=aC h2 (getElem?_eq_getElem hl')
 rw[hi] at ht
 cases ht
 exact⟨ls,ls[i],h1,getElem?_eq_getElem hl',h3⟩
structure dW(H:Hp)(ku:List (List Key × V))(n:Net)(D:Packet→Prop):Prop where
 each:∀ kv∈ku,∃ (x:Packet) (p:Port) (t:Addr),D x∧kv=(kk x,.ref t)∧Ms.bK n x=some p∧TupN H t p.switch p.port
 all:∀ x,D x→(∃ y,stepOf n x=.ok y)→(valV ku (kk x)).isSome=true
theorem dW.same{H H':Hp}{ku:List (List Key × V)}{n:Net}{D:Packet→Prop}(h:dW H ku n D)(s:∀ b xs,H b=some (.tup xs)→H' b=some (.tup xs)):dW H' ku n D:=
 ⟨fun kv hkv=>by
  obtain⟨x,p,t,h1,h2,h3,h4⟩:=h.each kv hkv
  exact⟨x,p,t,h1,h2,h3,s _ _ h4⟩,h.all⟩
structure NetF(CR:Addr)(H:Hp)(fs:List (Str × V))(n:Net):Prop where
 wf:Mw.WF n
 num:∃ a,fs.lookup ("numbers":Str)=some (.ref a)∧H a=some (.lst ((flatNet n).map V.int))
 numL:(flatNet n).length≤500
 wide:fs.lookup ("width":Str)=some (.int (n.wide:Int))
 size:fs.lookup ("size":Str)=some (.int ((2 ^ n.wide:Nat):Int))
 tabs:∃ a,fs.lookup ("tables":Str)=some (.ref a)∧cw CR H a n.tables
 far:∃ a kvs,fs.lookup ("far":Str)=some (.ref a)∧H a=some (.dT kvs)∧fJ H kvs n.links
 onw:∃ a kvs,fs.lookup ("onward":Str)=some (.ref a)∧H a=some (.dT kvs)∧fI H kvs n
 ends:∃ (a:Addr) (xs:List Packet),∃ g:Packet→V,fs.lookup ("ends":Str)=some (.ref a)∧H a=some (.dT (xs.map fun x=>(kk x,g x)))∧xs.Nodup∧(∀ x,x∈xs↔Mw.InU n x)∧∀ x,Mw.InU n x→∃ t,g x=.ref t∧H t=some (.tup ((flatEnd (endOf n x)).map V.int))
 links:∃ (a:Addr) (ts:List Addr),fs.lookup ("links":Str)=some (.ref a)∧H a=some (.lst (ts.map V.ref))∧fC H ts n.links
 cnt:∃ a kvs,fs.lookup ("counting":Str)=some (.ref a)∧H a=some (.dT kvs)∧∀ x,Mw.InU n x→valV kvs (kk x)=some (numV (ruleFor (n.table x.switch) x.header))
 sent:∃ a kvs,fs.lookup ("sent_by":Str)=some (.ref a)∧H a=some (.dT kvs)∧kvs.length≤640∧dW H kvs n (Mw.InU n)
 noM2:fs.lookup ("has_link":Str)=none∧fs.lookup ("has_rule":Str)=none∧fs.lookup ("packets_at":Str)=none
 noM:fs.lookup ("take_step":Str)=none∧fs.lookup ("has_switch":Str)=none∧fs.lookup ("has_header":Str)=none∧fs.lookup ("has_exit":Str)=none∧fs.lookup ("ends_from":Str)=none
def bI(CR CW:Addr)(H:Hp)(p:Addr)(n:Net):Prop:=∃ dx fs,H p=some (.ins CW dx fs)∧NetF CR H fs n
theorem NetF.same{CR:Addr}{H H':Hp}{fs:List (Str × V)}{n:Net}(h:NetF CR H fs n)(s:Same H H'):NetF CR H' fs n:=by
 refine⟨h.wf,?_,h.numL,h.wide,h.size,?_,?_,?_,?_,?_,?_,?_,h.noM2,h.noM⟩
 ·obtain⟨a,h1,h2⟩:=h.num
  exact⟨a,h1,s _ _ h2⟩
 ·obtain⟨a,h1,h2⟩:=h.tabs
  exact⟨a,h1,h2.same fun b o e _=>s _ _ e⟩
 ·obtain⟨a,kvs,h1,h2,h3⟩:=h.far
  exact⟨a,kvs,h1,s _ _ h2,h3.same fun b xs e=>s _ _ e⟩
 ·obtain⟨a,kvs,h1,h2,h3⟩:=h.onw
  exact⟨a,kvs,h1,s _ _ h2,h3.same fun b xs e=>s _ _ e⟩
 ·obtain⟨a,xs,g,h1,h2,h3,h4,h5⟩:=h.ends
  refine⟨a,xs,g,h1,s _ _ h2,h3,h4,fun x hx=>?_⟩
  obtain⟨t,e1,e2⟩:=h5 x hx
  exact⟨t,e1,s _ _ e2⟩
 ·obtain⟨a,ts,h1,h2,h3⟩:=h.links
  exact⟨a,ts,h1,s _ _ h2,Paired.mapP h3 fun t x h=>h.same fun b xs e=>s _ _ e⟩
 ·obtain⟨a,kvs,h1,h2,h3⟩:=h.cnt
  exact⟨a,kvs,h1,s _ _ h2,h3⟩
 ·obtain⟨a,kvs,h1,h2,h3,h4⟩:=h.sent
  exact⟨a,kvs,h1,s _ _ h2,h3,h4.same fun b xs e=>s _ _ e⟩
theorem bI.same{CR CW:Addr}{H H':Hp}{p:Addr}{n:Net}(h:bI CR CW H p n)(s:Same H H'):bI CR CW H' p n:=by
 obtain⟨dx,fs,h1,h2⟩:=h
 exact⟨dx,fs,s _ _ h1,h2.same s⟩
theorem NetF.keep{CR:Addr}{H H':Hp}{fs:List (Str × V)}{n:Net}(h:NetF CR H fs n)(s:∀ b o,H b=some o→(∀ od u,o≠.frz od u)→H' b=some o):NetF CR H' fs n:=by
 have tp:∀ b xs,H b=some (.tup xs)→H' b=some (.tup xs):=fun b xs e=>s _ _ e (fun _ _ z=>by cases z)
 refine⟨h.wf,?_,h.numL,h.wide,h.size,?_,?_,?_,?_,?_,?_,?_,h.noM2,h.noM⟩
 ·obtain⟨a,h1,h2⟩:=h.num
  exact⟨a,h1,s _ _ h2 (fun _ _ z=>by cases z)⟩
 ·obtain⟨a,h1,h2⟩:=h.tabs
  refine⟨a,h1,h2.same fun b o e ho=>s _ _ e fun od u z=>?_⟩
  rcases ho with⟨_,rfl⟩ | ⟨_,rfl⟩ | ⟨_,_,_,_,_,rfl⟩<;>cases z
 ·obtain⟨a,kvs,h1,h2,h3⟩:=h.far
  exact⟨a,kvs,h1,s _ _ h2 (fun _ _ z=>by cases z),h3.same tp⟩
 ·obtain⟨a,kvs,h1,h2,h3⟩:=h.onw
  exact⟨a,kvs,h1,s _ _ h2 (fun _ _ z=>by cases z),h3.same tp⟩
 ·obtain⟨a,xs,g,h1,h2,h3,h4,h5⟩:=h.ends
  refine⟨a,xs,g,h1,s _ _ h2 (fun _ _ z=>by cases z),h3,h4,fun x hx=>?_⟩
  obtain⟨t,e1,e2⟩:=h5 x hx
  exact⟨t,e1,tp _ _ e2⟩
 ·obtain⟨a,ts,h1,h2,h3⟩:=h.links
  exact⟨a,ts,h1,s _ _ h2 (fun _ _ z=>by cases z),Paired.mapP h3 fun t x h=>h.same tp⟩
 ·obtain⟨a,kvs,h1,h2,h3⟩:=h.cnt
  exact⟨a,kvs,h1,s _ _ h2 (fun _ _ z=>by cases z),h3⟩
 ·obtain⟨a,kvs,h1,h2,h3,h4⟩:=h.sent
  exact⟨a,kvs,h1,s _ _ h2 (fun _ _ z=>by cases z),h3,h4.same tp⟩
theorem bI.keep{CR CW:Addr}{H H':Hp}{p:Addr}{n:Net}(h:bI CR CW H p n)(s:∀ b o,H b=some o→(∀ od u,o≠.frz od u)→H' b=some o):bI CR CW H' p n:=by
 obtain⟨dx,fs,h1,h2⟩:=h
 exact⟨dx,fs,s _ _ h1 (fun _ _ z=>by cases z),h2.keep s⟩
section
variable{P:Program}{w:World}{K:Frag}{mg:Str→Option Value}{base:Heap}{CR CW:Addr}
theorem cw.len{H:Hp}{tl:Addr}{ts:List (List Rule)}(h:cw CR H tl ts):∃ xs:List V,H tl=some (.lst xs)∧xs.length=ts.length:=by
 obtain⟨ls,h1,h2⟩:=h
 exact⟨_,h1,by rw[length_map];exact Paired.length h2⟩
def de(CR CW:Addr):Sp:=fun vs H Q _=>∃ (p:Addr) (n:Net) (z:Int),vs=[.ref p,.int z]∧bI CR CW H p n∧Q (.bl (inN z n.tables.length)) H
theorem mt:al ["self","switch"] ["self","switch"] (aj jE):=⟨rfl,rfl,rfl,by decide +kernel,rfl,by decide +kernel,by decide +kernel⟩
theorem dO(T:TxtW K mg CW)(B:TxtB mg):aF P w K mg base CX0 1 CW "has_switch" ["self","switch"] (de CR CW):=by
 refine T.hasSwitch.def0 mt (fun vs H Q E h=>?_) (fun f cdv A outer s H vs Q E hr h=>?_)
 ·obtain⟨p,n,z,rfl,_⟩:=h
  rfl
 ·obtain⟨p,n,z,rfl,⟨dx,fs,hp,hn⟩,k⟩:=h
  obtain⟨tl,ht1,ht2⟩:=hn.tabs
  obtain⟨xs,hx1,hx2⟩:=ht2.len
  refine⟨_,ah (au (dF iJ iI ak (pv 1) (aM aG rfl B.len PySem.boot_len (aa (aD (pv 0) rfl) af)))),?_⟩
  refine⟨_,rfl,_,_,rfl,rfl,_,rfl,?_⟩
  split
  ·rename_i e
   refine⟨_,rfl,p,CW,dx,fs,_,rfl,hp,T.cl,T.n4,ht1,tl,_,rfl,.inl (SqL.of hx1),_,_,rfl,rfl,?_⟩
   rw[hx2]
   have:=gy (k:=decide (0≤z)) (n:=n.tables.length) (H:=H) (Q:=fun v H=>Q v H) rfl k
   rw[if_pos e] at this
   exact this
  ·rename_i e
   have:=gy (k:=decide (0≤z)) (n:=n.tables.length) (H:=H) (Q:=fun v H=>Q v H) rfl k
   rw[if_neg e] at this
   exact this
def iw(CR CW:Addr):Sp:=fun vs H Q _=>∃ (p:Addr) (n:Net) (z:Int),vs=[.ref p,.int z]∧bI CR CW H p n∧Q (.bl (inN z (2 ^ n.wide))) H
theorem mv:al ["self","header"] ["self","header"] (aj jF):=⟨rfl,rfl,rfl,by decide +kernel,rfl,by decide +kernel,by decide +kernel⟩
theorem mM(T:TxtW K mg CW):aF P w K mg base CX0 1 CW "has_header" ["self","header"] (iw CR CW):=by
 refine T.hasHeader.def0 mv (fun vs H Q E h=>?_) (fun f cdv A outer s H vs Q E hr h=>?_)
 ·obtain⟨p,n,z,rfl,_⟩:=h
  rfl
 ·obtain⟨p,n,z,rfl,⟨dx,fs,hp,hn⟩,k⟩:=h
  refine⟨_,ah (au (dF iJ iI ak (pv 1) (aD (pv 0) rfl))),?_⟩
  refine⟨_,rfl,_,_,rfl,rfl,_,rfl,?_⟩
  split
  ·rename_i e
   refine⟨_,rfl,p,CW,dx,fs,_,rfl,hp,T.cl,T.n3,hn.size,_,_,rfl,rfl,?_⟩
   have:=gy (k:=decide (0≤z)) (n:=2 ^ n.wide) (H:=H) (Q:=fun v H=>Q v H) rfl k
   rw[if_pos e] at this
   exact this
  ·rename_i e
   have:=gy (k:=decide (0≤z)) (n:=2 ^ n.wide) (H:=H) (Q:=fun v H=>Q v H) rfl k
   rw[if_neg e] at this
   exact this
def isEx(n:Net)(q p:Int):Bool:=(Vapktc.exitOf n q p).isSome
theorem bf{z:Int}{m:Nat}:Vapktc.placeOf z m=if inN z (m+1) then some z.toNat else none:=by
 unfold Vapktc.placeOf inN int
 by_cases q:0≤z∧z≤(m:Int)
 ·rw[if_pos q,if_pos (decide_eq_true (by omega))]
 ·rw[if_neg q,if_neg (by simp;omega)]
theorem xo{n:Net}(W:Mw.WF n){q p:Int}:isEx n q p=(inN q n.tables.length && (inN p 6 && (ck n.links ⟨q.toNat,p.toNat⟩).isNone)):=by
 have t1:=W.t1
 have e:n.tables.length - 1+1=n.tables.length:=by omega
 unfold isEx Vapktc.exitOf
 rw[bf,bf,e]
 show(match (if inN q n.tables.length then some q.toNat else none),(if inN p 6 then some p.toNat else none) with
  | some a,some b=>if Vapktc.isExit n ⟨a,b⟩ then some (⟨a,b⟩:Port) else none
  | _,_=>none).isSome=_
 cases h1:inN q n.tables.length with
 | false=>rfl
 | true=>
  cases h2:inN p 6 with
  | false=>rfl
  | true=>
   have h1:=of_decide_eq_true h1
   have h2:=of_decide_eq_true h2
   have hx:Vapktc.isExit n ⟨q.toNat,p.toNat⟩=(ck n.links ⟨q.toNat,p.toNat⟩).isNone:=by
    unfold Vapktc.isExit
    have a1:decide (q.toNat < n.tables.length)=true:=decide_eq_true (by omega)
    have a2:decide (p.toNat < VapktBase.PORTS)=true:=decide_eq_true (by show p.toNat < 6;omega)
    dsimp only
    rw[a1,a2,Bool.true_and,Bool.true_and]
    rfl
   simp only[if_true,hx,Bool.true_and]
   cases (ck n.links ⟨q.toNat,p.toNat⟩).isNone<;>rfl
def lh(CR CW:Addr):Sp:=fun vs H Q _=>∃ (p:Addr) (n:Net) (z y:Int),vs=[.ref p,.int z,.int y]∧bI CR CW H p n∧∀ H',Same H H'→Q (.bl (isEx n z y)) H'
theorem pT:al ["self","switch","port"] ["self","switch","port"] (aj oq):=⟨rfl,rfl,rfl,by decide +kernel,rfl,by decide +kernel,by decide +kernel⟩
theorem qt(T:TxtW K mg CW)(B:TxtB mg)(C:TxtC mg):aF P w K mg base CX0 2 CW "has_exit" ["self","switch","port"] (lh CR CW):=by
 refine T.hasExit.def0 pT (fun vs H Q E h=>?_) (fun f cdv A outer s H vs Q E hr h=>?_)
 ·obtain⟨p,n,z,y,rfl,_⟩:=h
  rfl
 ·obtain⟨p,n,z,y,rfl,hN,k⟩:=h
  have hu:=dr hr
  have D:aF P w K mg base CX0 1 CW "has_switch" ["self","switch"] (de CR CW):=dO T B
  obtain⟨dx,fs,hp,hn⟩:=id hN
  refine⟨_,ah (au (qf (aJ (pv 0) T.cl D hr aA (aa (pv 1) af)) (qf (dF iJ iI ak (pv 2) (pe_c C.ports rfl))
   (ve (pe_cmp (fg hu (aU (aa (pv 1) (aa (pv 2) af))) (aD (pv 0) rfl))))))),?_⟩
  rw[xo hn.wf] at k
  refine⟨_,rfl,p,dx,fs,rfl,hp,hn.noM.2.1,_,rfl,p,n,z,rfl,hN,_,rfl,?_⟩
  cases h1:inN z n.tables.length with
  | false=>
   rw[h1] at k
   refine iteF ?_
   exact k _ (Same.refl _)
  | true=>
   rw[h1,Bool.true_and] at k
   refine iteT ?_
   have z0:=of_decide_eq_true h1
   refine⟨_,rfl,_,_,rfl,rfl,_,rfl,?_⟩
   have rest:inN y 6=true→∀ H',Same H H'→Q (.bl ((ck n.links ⟨z.toNat,y.toNat⟩).isNone)) H':=fun e=>by
    rw[e,Bool.true_and] at k
    exact k
   have c1:inN y 6=false→Q (.bl false) H:=fun e=>by
    rw[e,Bool.false_and] at k
    exact k _ (Same.refl _)
   split
   ·rename_i e
    have e:0≤y:=of_decide_eq_true e
    refine⟨_,_,rfl,rfl,_,rfl,?_⟩
    split
    ·rename_i e2
     have e2:y < 6:=of_decide_eq_true e2
     have iy:inN y 6=true:=decide_eq_true ⟨e,e2⟩
     refine⟨_,rfl,_,rfl,by show 2≤sizeLine;decide,fun t ht=>?_⟩
     obtain⟨fa,kvs,hf1,hf2,hf3⟩:=hn.far
     have s1:Same H (upd H t (.tup [.int z,.int y])):=ai ht
     refine⟨_,rfl,p,CW,dx,fs,_,rfl,s1 _ _ hp,T.cl,T.n5,hf1,fa,_,rfl,DGet.t (k:=pk ⟨z.toNat,y.toNat⟩) (s1 _ _ hf2) ?_,?_⟩
     ·show upd H t _ t=some (.tup [.int ((z.toNat:Nat):Int),.int ((y.toNat:Nat):Int)])
      rw[ac,Int.toNat_of_nonneg z0.1,Int.toNat_of_nonneg e]
     ·have q:=rest iy _ s1
      have fq:=hf3 ⟨z.toNat,y.toNat⟩
      cases hl:ck n.links ⟨z.toNat,y.toNat⟩ with
      | none=>
       rw[hl] at fq q
       dsimp only at fq
       rw[fq]
       exact q
      | some r=>
       rw[hl] at fq q
       obtain⟨q',fq1,_⟩:=fq
       rw[fq1]
       exact q
    ·rename_i e2
     have e2:¬ y < 6:=fun z=>e2 (decide_eq_true z)
     exact c1 (decide_eq_false (by omega))
   ·rename_i e
    have e:¬ 0≤y:=fun z=>e (decide_eq_true z)
    refine⟨_,rfl,?_⟩
    refine iteF ?_
    exact c1 (decide_eq_false (by omega))
def wB(H:Hp)(ts:List Addr)(es:List End_):Prop:=Paired (fun t (e:End_)=>H t=some (.tup ((flatEnd e).map V.int))) ts es
theorem hJ{α β:Type}{F:α→β→Prop}:∀ {l:List α} {r:List β},l.length=r.length→(∀ (i:Nat) (x:α) (y:β),l[i]?=some x→r[i]?=some y→F x y)→Paired F l r
 | [],[],_,_=>.nil
 | [],_::_,h,_=>by cases h
 | _::_,[],h,_=>by cases h
 | a::l,b::r,h,q=>.cons (q 0 a b rfl rfl) (hJ (by simpa using h) fun i x y hx hy=>q (i+1) x y hx hy)
theorem wO{R:Nat→Addr→Prop}:∀ {ys:List V} ,(∀ i y,ys[i]?=some y→∃ t,y=.ref t∧R i t)→∃ ts:List Addr,ys=ts.map V.ref∧∀ i t,ts[i]?=some t→R i t:=by
 intro ys
 induction ys generalizing R with
 | nil=>exact fun _=>⟨[],rfl,fun i t h=>by simp at h⟩
 | cons y ys ih=>
  intro h
  obtain⟨t,e,r⟩:=h 0 y rfl
  obtain⟨ts,e2,r2⟩:=ih (R:=fun i=>R (i+1)) fun i y hy=>h (i+1) y hy
  refine⟨t::ts,by rw[map_cons,e,e2],fun i t' hi=>?_⟩
  cases i with
  | zero=>
   cases hi
   exact r
  | succ i=>exact r2 i t' hi
def gv(n:Net)(s:Nat):List End_:=(List.range (2 ^ n.wide)).map fun h=>endOf n ⟨s,h⟩
def cu(CR CW:Addr):Sp:=fun vs H Q _=>∃ (p:Addr) (n:Net) (s:Nat),vs=[.ref p,.int (s:Int)]∧bI CR CW H p n∧s < n.tables.length∧
 ∀ (H':Hp) (l:Addr) (ts:List Addr),Same H H'→H l=none→H' l=some (.lst (ts.map V.ref))→wB H' ts (gv n s)→Q (.ref l) H'
theorem iA:al ["self","switch","header"] ["self","switch"] (aj lG):=⟨rfl,rfl,rfl,by decide +kernel,rfl,by decide +kernel,by decide +kernel⟩
theorem cI(T:TxtW K mg CW)(B:TxtB mg):aF P w K mg base CX0 1 CW "ends_from" ["self","switch"] (cu CR CW):=by
 refine T.endsFrom.def0 iA (fun vs H Q E h=>?_) (fun f cdv A outer s H vs Q E hr h=>?_)
 ·obtain⟨p,n,z,rfl,_⟩:=h
  rfl
 ·obtain⟨p,n,z,rfl,⟨dx,fs,hp,hn⟩,hz,k⟩:=h
  have hu:=dr hr
  have nd:=iA.nd
  obtain⟨ea,xs,g,he1,he2,he3,he4,he5⟩:=hn.ends
  have ps:=aW hn.wf.w7
  refine⟨_,ah (au (gi (te:=ji (tFld K (tVar 0) "ends") (tTup (cC (tVar 1) (cC (tVar 2) tNil)))) (g:=aY 2) (own:=[("header",2)]) rfl nd (bJ rfl B.range (aa (aD (pv 0) rfl) af)) (bb rfl)
   (fun _ _ _ _ _=>ay (i:=2) nd rfl (Or.inl rfl) (Or.inr rfl)) (fun _ _ _ _ _=>b8) (fun _ _ _ _ _=>bC (by exact hu) (aD (pv 0) (by rfl)) (aU (aa (pv 1) (aa (pv 2) af))) (by exact fun _ _=>rfl)))),?_⟩
  refine⟨_,rfl,p,CW,dx,fs,_,rfl,hp,T.cl,T.n3,hn.size,_,rfl,jI,jJ ps,fun D hD=>?_⟩
  rw[Int.toNat_natCast]
  refine j6 (i0:=2) (n:=2 ^ n.wide) (fun i v H'=>∃ t,v=.ref t∧H' t=some (.tup ((flatEnd (endOf n ⟨z,i⟩)).map V.int))∧t≠D) hD (by omega) ?_ (fun v=>rfl) ?_ ?_
  ·rintro i v H1 H2 sx ⟨t,e1,e2,e3⟩
   exact⟨t,e1,sx _ _ e3 e2,e3⟩
  ·rintro i H' Q' hi s1 ⟨ys,hys⟩ q
   refine⟨_,rfl,p,CW,dx,fs,_,rfl,s1 _ _ hp,T.cl,T.n8,he1,_,rfl,_,rfl,by show 2≤sizeLine;decide,fun t ht=>?_⟩
   have s2:Same H' (upd H' t (.tup [.int (z:Int),.int (0+(i:Int))])):=ai ht
   have hx:Mw.InU n ⟨z,i⟩:=⟨hz,hi⟩
   obtain⟨te,g1,g2⟩:=he5 _ hx
   refine⟨ea,g ⟨z,i⟩,rfl,?_,?_⟩
   ·have:=DGet.t (k:=kk ⟨z,i⟩) (b:=t) (s2 _ _ (s1 _ _ he2)) (by rw[ac,Int.zero_add];rfl)
    rw[cN,if_pos ((he4 _).mpr hx)] at this
    exact this
   ·refine q _ _ s2 ⟨te,g1,s2 _ _ (s1 _ _ g2),?_⟩
    exact ae g2 hD
  ·intro H' ys s1 hDl hl hr
   obtain⟨ts,e1,e2⟩:=wO (R:=fun i t=>H' t=some (.tup ((flatEnd (endOf n ⟨z,i⟩)).map V.int))∧t≠D) hr
   rw[e1] at hDl
   refine k H' D ts s1 hD hDl ?_
   refine hJ ?_ fun i t e ht he=>?_
   ·unfold gv
    rw[length_map,List.length_range,←hl,e1,length_map]
   ·unfold gv at he
    rw[getElem?_map] at he
    by_cases q:i < 2 ^ n.wide
    ·rw[getElem?_range q] at he
     cases he
     exact(e2 i t ht).1
    ·rw[getElem?_eq_none (by simpa using q)] at he
     cases he
theorem m9{z:Int}{n:Nat}{Q:V→Hp→Prop}{H:Hp}(h:Q (.bl (inN z n)) H):(0≤z→Q (.bl (decide (z < (n:Int)))) H)∧(¬ 0≤z→Q (.bl false) H):=by
 constructor
 ·intro q
  have:inN z n=decide (z < (n:Int)):=by
   unfold inN
   rw[decide_eq_decide]
   omega
  rw[←this]
  exact h
 ·intro q
  have:inN z n=false:=decide_eq_false (by omega)
  rw[←this]
  exact h
def lg(CR CW:Addr):Sp:=fun vs H Q _=>∃ (p:Addr) (n:Net) (z:Int),vs=[.ref p,.int z]∧bI CR CW H p n∧Q (.bl (inN z n.links.length)) H
theorem pS:al ["self","link"] ["self","link"] (aj oo):=⟨rfl,rfl,rfl,by decide +kernel,rfl,by decide +kernel,by decide +kernel⟩
theorem qr(T:TxtW K mg CW)(B:TxtB mg):aF P w K mg base CX0 1 CW "has_link" ["self","link"] (lg CR CW):=by
 refine T.hasLink.def0 pS (fun vs H Q E h=>?_) (fun f cdv A outer s H vs Q E hr h=>?_)
 ·obtain⟨p,n,z,rfl,_⟩:=h
  rfl
 ·obtain⟨p,n,z,rfl,⟨dx,fs,hp,hn⟩,k⟩:=h
  obtain⟨la,ts,hl1,hl2,hl3⟩:=hn.links
  have ll:ts.length=n.links.length:=Paired.length hl3
  refine⟨_,ah (au (dF iJ iI ak (pv 1) (aM aG rfl B.len PySem.boot_len (aa (aD (pv 0) rfl) af)))),?_⟩
  refine⟨_,rfl,_,_,rfl,rfl,_,rfl,?_⟩
  split
  ·rename_i e
   refine⟨_,rfl,p,CW,dx,fs,_,rfl,hp,T.cl,T.n9,hl1,la,_,rfl,.inl (SqL.of hl2),_,_,rfl,rfl,?_⟩
   rw[length_map,ll]
   exact(m9 k).1 (of_decide_eq_true e)
  ·rename_i e
   exact(m9 k).2 fun z=>e (decide_eq_true z)
def lf(CR CW:Addr):Sp:=fun vs H Q _=>∃ (p:Addr) (n:Net) (s:Nat) (z:Int),vs=[.ref p,.int (s:Int),.int z]∧bI CR CW H p n∧s < n.tables.length∧Q (.bl (inN z (n.table s).length)) H
theorem pR:al ["self","switch","number"] ["self","switch","number"] (aj on):=⟨rfl,rfl,rfl,by decide +kernel,rfl,by decide +kernel,by decide +kernel⟩
theorem qp(T:TxtW K mg CW)(B:TxtB mg):aF P w K mg base CX0 1 CW "has_rule" ["self","switch","number"] (lf CR CW):=by
 refine T.hasRule.def0 pR (fun vs H Q E h=>?_) (fun f cdv A outer s H vs Q E hr h=>?_)
 ·obtain⟨p,n,s,z,rfl,_⟩:=h
  rfl
 ·obtain⟨p,n,sw,z,rfl,⟨dx,fs,hp,hn⟩,hsw,k⟩:=h
  obtain⟨tl,ht1,ht2⟩:=hn.tabs
  have hti:n.tables[sw]?=some (n.table sw):=by
   unfold Net.table
   rw[getElem?_eq_getElem hsw]
   rfl
  obtain⟨ls,l,hl1,hl2,qs,hq1,hq2⟩:=ht2.get hti
  have lq:qs.length=(n.table sw).length:=Paired.length hq2
  refine⟨_,ah (au (dF iJ iI ak (pv 2) (aM aG rfl B.len PySem.boot_len (aa (aE aB (aD (pv 0) rfl) (pv 1) (fun _ _=>rfl)) af)))),?_⟩
  refine⟨_,rfl,_,_,rfl,rfl,_,rfl,?_⟩
  split
  ·rename_i e
   refine⟨_,rfl,p,CW,dx,fs,_,rfl,hp,T.cl,T.n4,ht1,_,rfl,tl,_,_,_,rfl,rfl,SqL.of hl1,ax (j:=sw) (by rw[getElem?_map,hl2];rfl),l,_,rfl,.inl (SqL.of hq1),_,_,rfl,rfl,?_⟩
   rw[length_map,lq]
   exact(m9 k).1 (of_decide_eq_true e)
  ·rename_i e
   exact(m9 k).2 fun z=>e (decide_eq_true z)
def pksM(n:Net)(s:Nat)(p:VapktBase.Pattern):List Packet:=((List.range (2 ^ n.wide)).filter fun h=>matchesIt p h).map fun h=>⟨s,h⟩
theorem cf{n:Net}{s:Nat}{p:VapktBase.Pattern}{x:Packet}:x∈pksM n s p↔x.switch=s∧x.header < 2 ^ n.wide∧matchesIt p x.header=true:=by
 unfold pksM
 rw[mem_map]
 constructor
 ·rintro⟨h,hh,rfl⟩
  obtain⟨h1,h2⟩:=mem_filter.mp hh
  exact⟨rfl,mem_range.mp h1,h2⟩
 ·rintro⟨h1,h2,h3⟩
  exact⟨x.header,mem_filter.mpr ⟨mem_range.mpr h2,h3⟩,by cases x;cases h1;rfl⟩
theorem gf{n:Net}{s:Nat}{p:VapktBase.Pattern}:(pksM n s p).length≤2 ^ n.wide:=by
 unfold pksM
 rw[length_map]
 exact gr
theorem jO{n:Net}{s:Nat}{p:VapktBase.Pattern}(hs:s < n.tables.length):∀ x∈pksM n s p,Mw.InU n x:=fun x hx=>by
 obtain⟨h1,h2,_⟩:=cf.mp hx
 exact⟨by rw[h1];exact hs,h2⟩
theorem ie(h:Nat):matchesIt ⟨0,0⟩ h=true:=by
 unfold matchesIt
 show((h &&& 0) == 0)=true
 rw[Nat.and_zero]
 rfl
theorem u7{n:Net}{s:Nat}:pksM n s ⟨0,0⟩=(List.range (2 ^ n.wide)).map fun h=>⟨s,h⟩:=by
 unfold pksM
 rw[List.filter_eq_self.mpr fun h _=>ie h]
def eV(K:Frag)(CR CW:Addr):Sp:=fun vs H Q _=>∃ (p q:Addr) (n:Net) (s a b:Nat),vs=[.ref p,.int (s:Int),.ref q]∧bI CR CW H p n∧SqT K H q [.int (a:Int),.int (b:Int)]∧
 ∀ (H':Hp) (l:Addr) (ts:List Addr),Same H H'→H l=none→H' l=some (.lst (ts.map V.ref))→cp H' ts (pksM n s ⟨a,b⟩)→Q (.ref l) H'
theorem nW:al ["self","switch","pattern","header"] ["self","switch","pattern"] (aj uG):=⟨rfl,rfl,rfl,by decide +kernel,rfl,by decide +kernel,by decide +kernel⟩
theorem eE(T:TxtW K mg CW)(B:TxtB mg)(TM:TxtF K mg "matches" bF ["header","pattern"]):aF P w K mg base CX0 2 CW "packets_at" ["self","switch","pattern"] (eV K CR CW):=by
 refine T.pksAt.def0 nW (fun vs H Q E h=>?_) (fun f cdv A outer s H vs Q E hr h=>?_)
 ·obtain⟨p,q,n,s,a,b,rfl,_⟩:=h
  rfl
 ·obtain⟨p,q,n,sw,a,b,rfl,⟨dx,fs,hp,hn⟩,hq,k⟩:=h
  have nd:=nW.nd
  have ps:=aW hn.wf.w7
  have DM:aq P w K mg base CX0 1 "matches" ["header","pattern"] (eW K):=jV TM
  refine⟨_,ah (au (gi (te:=tTup (cC (tVar 1) (cC (tVar 3) tNil))) (tt:=tB (jj (eW K) [] E0 (cC (tVar 3) (cC (tVar 2) tNil)))) (g:=aY 3) (own:=[("header",3)]) rfl nd (bJ rfl B.range (aa (aD (pv 0) rfl) af)) (bb rfl)
   (fun _ _ _ _ _=>ay (i:=3) nd rfl (Or.inl rfl) (Or.inr rfl)) (fun _ _ _ _ _=>dh (cv (az DM (by exact hr) (by rfl) aA (aa (pv 3) (aa (pv 2) af))))) (fun _ _ _ _ _=>aU (aa (pv 1) (aa (pv 3) af))))),?_⟩
  refine⟨_,rfl,p,CW,dx,fs,_,rfl,hp,T.cl,T.n3,hn.size,_,rfl,jI,jJ ps,fun D hD=>?_⟩
  rw[Int.toNat_natCast]
  refine vK (n:=2 ^ n.wide) (fun i=>matchesIt ⟨a,b⟩ i) (fun i v H'=>∃ t,v=.ref t∧(TupN H' t sw i∧t≠D)) hD (by omega) ?_ ?_ ?_
  ·rintro i v H1 H2 sx ⟨t,e1,e2,e3⟩
   exact⟨t,e1,sx _ _ e3 e2,e3⟩
  ·intro i H' Nx hi s1 hys hno hyes
   refine⟨rfl,_,rfl,_,rfl,i,a,b,q,(by rw[Int.zero_add];rfl),s1.sqT hq,_,rfl,?_⟩
   cases hm:matchesIt ⟨a,b⟩ i with
   | true=>
    refine iteT ⟨_,rfl,_,rfl,by show 2≤sizeLine;decide,fun t ht=>?_⟩
    refine hyes hm _ _ (ai ht) ⟨t,rfl,?_,?_⟩
    ·show upd H' t _ t=_
     rw[ac,Int.zero_add]
    ·obtain⟨ys,hys⟩:=hys
     exact(ae hys ht).symm
   | false=>exact iteF (hno hm _ (Same.refl _))
  ·intro H' ys s1 hD1 hpr
   obtain⟨ts,rfl,hts⟩:=dj hpr
   refine k H' D ts s1 hD hD1 ?_
   exact dN (F:=fun t (x:Packet)=>TupN H' t x.switch x.header) (f:=fun h=>(⟨sw,h⟩:Packet)) (Paired.mapP hts fun t j e=>e.1)
end
abbrev pV:Stmt:=top 28
abbrev uI:Stmt:=top 29
abbrev eZ:Stmt:=top 26
abbrev pX:Stmt:=top 30
abbrev jH:Stmt:=top 31
abbrev jG:Stmt:=top 32
abbrev gQ:Stmt:=top 33
abbrev mB:Stmt:=top 34
def spA(CR CW:Addr)(R:Net→List Int→List Int→Prop):Sp:=fun vs H Q _=>∃ (p a:Addr) (n:Net) (ns ans:List Int),vs=[.ref p,.ref a]∧bI CR CW H p n∧H a=some (.lst (ns.map V.int))∧R n ns ans∧
 ∀ (H':Hp) (l:Addr),Same H H'→H l=none→H' l=some (.lst (ans.map V.int))→Q (.ref l) H'
section
variable{P:Program}{w:World}{K:Frag}{mg:Str→Option Value}{base:Heap}{CR CW:Addr}
theorem bL{R:Net→List Int→List Int→Prop}:∀ vs H Q E,spA CR CW R vs H Q E→vs.length=2:=fun vs H Q E h=>by
 obtain⟨p,a,n,ns,ans,rfl,_⟩:=h
 rfl
def rTold(n:Net)(ns ans:List Int):Prop:=ans=Vapktc.listedInts (flatNet n)
theorem uD:al ["network","numbers"] ["network","numbers"] (aj pV):=⟨rfl,rfl,rfl,by decide +kernel,rfl,by decide +kernel,by decide +kernel⟩
theorem vC(TW:TxtW K mg CW)(B:TxtB mg)(T:TxtF K mg "answer_told" pV ["network","numbers"]):aq P w K mg base CX0 1 "answer_told" ["network","numbers"] (spA CR CW rTold):=by
 refine T.def0 uD bL (fun f cdv A outer s H vs Q E hr h=>?_)
 obtain⟨p,a,n,ns,ans,rfl,⟨dx,fs,hp,hn⟩,ha,rfl,k⟩:=h
 obtain⟨na,h1,h2⟩:=hn.num
 refine⟨_,ah (au (bG qj (bz (aa (aM aG rfl B.len PySem.boot_len (aa (aD (pv 0) rfl) af)) af)) (aD (pv 0) rfl))),?_⟩
 refine⟨_,rfl,p,CW,dx,fs,_,rfl,hp,TW.cl,TW.n1,h1,na,_,rfl,.inl (SqL.of h2),by show 1≤sizeLine;decide,fun l hl=>?_⟩
 have s1:Same H (upd H l (.lst [.int (((flatNet n).map V.int).length:Nat)])):=ai hl
 have b:=hn.numL
 refine⟨_,rfl,p,CW,dx,fs,_,rfl,s1 _ _ hp,TW.cl,TW.n1,h1,l,na,_,_,rfl,rfl,ac,s1 _ _ h2,?_,fun q hq=>?_⟩
 ·rw[length_map]
  exact cD (m:=1000) (by show 1+_≤1000;omega)
 ·have hq0:H q=none:=by
   by_cases e:q=l
   ·rw[e]
    exact hl
   ·rw[ag e] at hq
    exact hq
  refine k _ q (s1.trans (ai hq)) hq0 ?_
  rw[ac,length_map]
  rfl
def dA:Sp:=fun vs H Q _=>∃ (t:Addr) (e:End_),vs=[.ref t]∧H t=some (.tup ((flatEnd e).map V.int))∧∀ (H':Hp) (t':Addr),Same H H'→H' t'=some (.tup ((Ms.e3 e).map V.int))→Q (.ref t') H'
theorem sV:al ["end"] ["end"] (aj eZ):=⟨rfl,rfl,rfl,by decide +kernel,rfl,by decide +kernel,by decide +kernel⟩
theorem ia(T:TxtF K mg "without_header" eZ ["end"]):aq P w K mg base CX0 1 "without_header" ["end"] dA:=by
 refine T.def0 sV (fun vs H Q E h=>?_) (fun f cdv A outer s H vs Q E hr h=>?_)
 ·obtain⟨t,e,rfl,_⟩:=h
  rfl
 ·obtain⟨t,e,rfl,ht,k⟩:=h
  by_cases q:∃ p h,e=.exit p h
  ·obtain⟨p,g,rfl⟩:=q
   refine⟨_,ah (au (cG sl_tup (pv 0) ff (cz ak))),?_⟩
   refine⟨_,rfl,_,rfl,t,_,rfl,SqT.of ht,?_,fun z hz=>?_⟩
   ·show ¬ (0=0∧min (3:Int).toNat 4=4)
    decide
   ·exact k _ z (ai hz) (by rw[ac];exact congrArg (fun z=>some (HO.tup z)) (nh _ 3))
  ·refine⟨_,ah (au (cG sl_all (pv 0) ff (cz ak))),?_⟩
   have len:(flatEnd e).length≤3:=by
    cases e with
    | exit p h=>exact(q ⟨p,h,rfl⟩).elim
    | dropped s i=>exact Nat.le_refl 3
    | hole s=>show 2≤3;decide
    | round=>show 1≤3;decide
   refine⟨_,rfl,_,rfl,t,_,rfl,SqT.of ht,rfl,?_,?_⟩
   ·show min (3:Int).toNat _=_
    rw[length_map]
    show min 3 _=_
    omega
   ·refine k _ t (Same.refl _) ?_
    rw[ht]
    unfold Ms.e3
    rw[List.take_of_length_le len]
def mF(n:Net)(ns ans:List Int):Prop:=∃ s k:Nat,ns=[(s:Int),(k:Int)]∧s < n.tables.length∧k≤3∧ans=Vapktc.flatForm n.wide (Vapktc.toKind n s k)
theorem jy:al ["network","numbers","end"] ["network","numbers"] (aj jG):=⟨rfl,rfl,rfl,by decide +kernel,rfl,by decide +kernel,by decide +kernel⟩
theorem fo(e:End_):(flatEnd e)[0]?=some ((Vapktc.kindOf e:Nat):Int):=by cases e<;>rfl
theorem df{n:Net}{S:VapktBase.Set_}{bs:List Bool}(hS:S < 2 ^ (2 ^ n.wide))(hb:bs=Mm.aT n.wide S):mr n.wide bs=Vapktc.flatForm n.wide S:=by
 rw[hb]
 exact sT hS
theorem qv(TW:TxtW K mg CW)(B:TxtB mg)(TF:TxtF K mg "one_form" dg ["members"])(TS:TxtF K mg "set_numbers" bZ ["members"])(T:TxtF K mg "answer_tokind" jG ["network","numbers"]):aq P w K mg base CX0 10 "answer_tokind" ["network","numbers"] (spA CR CW mF):=by
 refine T.def0 jy bL (fun f cdv A outer s H vs Q E hr h=>?_)
 obtain⟨p,a,n,ns,ans,rfl,hN,ha,⟨sw,kd,rfl,hsw,hkd,rfl⟩,k⟩:=h
 obtain⟨dx,fs,hp,hn⟩:=id hN
 have nd:=jy.nd
 have DS:aq P w K mg base CX0 9 "set_numbers" ["members"] (fV K):=eD TS TF B
 have DE:aF P w K mg base CX0 9 CW "ends_from" ["self","switch"] (cu CR CW):=(cI TW B).mono (by omega)
 refine⟨_,ah (au (az DS hr rfl aA (aa (gi (te:=tOp rEq (tOp (rIxT K) (tVar 2) (tC (.int 0))) (tOp (rIxL K) (tVar 1) (tC (.int 1)))) (g:=aY 2) (own:=[("end",2)]) rfl nd (be (aJ (pv 0) TW.cl DE hr aA (aa (aE aB (pv 1) ak (fun _ _=>rfl)) af))) (bb rfl)
   (fun _ _ _ _ _=>ay (i:=2) nd rfl (Or.inl rfl) (Or.inr rfl)) (fun _ _ _ _ _=>b8) (fun _ _ _ _ _=>gk bY (aE bg (pv 2) ak (by exact fun _ _=>rfl)) (aE aB (pv 1) ak (by exact fun _ _=>rfl)) (aR _))) af))),?_⟩
 refine⟨_,rfl,p,dx,fs,rfl,hp,hn.noM.2.2.2.2,_,rfl,a,_,_,_,rfl,rfl,SqL.of ha,ax (j:=0) rfl,p,n,sw,rfl,hN,hsw,fun H1 l ts s1 hl1 hl2 hts=>?_⟩
 refine⟨l,rfl,⟨_,SqL.of hl2⟩,fun D hD=>?_⟩
 have lts:ts.length=2 ^ n.wide:=by
  have:=Paired.length hts
  rw[this]
  simp[gv]
 have ps:=aW hn.wf.w7
 refine j7 (i0:=2) (K:=K) (l0:=l) (xs:=ts.map V.ref) (fun i v _=>v=.bl (Vapktc.kindOf (endOf n ⟨sw,i⟩) == kd)) hD (SqL.of hl2) (by rw[length_map];omega) (fun _ _ _ _ _ h=>h) (fun v=>rfl) ?_ ?_
 ·rintro i x H' Q' hx s2 _ q
  rw[getElem?_map] at hx
  cases e:ts[i]? with
  | none=>
   rw[e] at hx
   cases hx
  | some t=>
   rw[e] at hx
   cases hx
   obtain⟨en,he1,he2⟩:=aC hts e
   have hi:i < 2 ^ n.wide:=by
    rw[←lts]
    exact(List.getElem?_eq_some_iff.mp e).1
   have hen:en=endOf n ⟨sw,i⟩:=by
    unfold gv at he1
    rw[getElem?_map,getElem?_range hi] at he1
    cases he1
    rfl
   refine⟨_,rfl,t,_,_,_,rfl,rfl,SqT.of (s2 _ _ he2),ax (j:=0) (by rw[getElem?_map,fo];rfl),_,rfl,a,_,_,_,rfl,rfl,SqL.of (s2 _ _ (s1 _ _ ha)),ax (j:=1) rfl,rfl,?_⟩
   refine q _ _ (Same.refl _) ?_
   rw[bU,hen]
   congr 1
   rw[Bool.eq_iff_iff,beq_iff_eq,beq_iff_eq]
   omega
 ·intro H' ys s2 hDl hl hr'
  have hy:=fm hl hr'
  rw[length_map,lts] at hy
  have e1:ys=((List.range (2 ^ n.wide)).map fun i=>(Vapktc.kindOf (endOf n ⟨sw,i⟩) == kd)).map V.bl:=by
   rw[hy,map_map]
   rfl
  rw[e1] at hDl
  refine⟨D,_,n.wide,rfl,SqL.of hDl,by simp,hn.wf.w7,fun H2 l2 s3 hl3 hl4=>?_⟩
  refine k H2 l2 ((s1.trans s2).trans s3) ?_ ?_
  ·cases e:H l2 with
   | none=>rfl
   | some o=>
    have:=(s1.trans s2) _ _ e
    rw[hl3] at this
    cases this
  ·exact hl4.trans (congrArg (fun z=>some (HO.lst (List.map V.int z))) (df (S:=Vapktc.toKind n sw kd) (Ms.eQ n sw _) (Ms.cJ n sw fun w=>Vapktc.kindOf w.ended == kd).symm))
theorem gu{n:Net}{s i:Nat}{e:End_}(h:(gv n s)[i]?=some e):i < 2 ^ n.wide∧e=endOf n ⟨s,i⟩:=by
 unfold gv at h
 rw[getElem?_map] at h
 by_cases q:i < 2 ^ n.wide
 ·rw[getElem?_range q] at h
  cases h
  exact⟨q,rfl⟩
 ·rw[getElem?_eq_none (by simpa using q)] at h
  cases h
theorem gt{n:Net}{s:Nat}{H:Hp}{ts:List Addr}(h:wB H ts (gv n s)):ts.length=2 ^ n.wide:=by
 have:=Paired.length h
 rw[this]
 simp[gv]
theorem aN{H H':Hp}{l:Addr}(s:Same H H')(h:H' l=none):H l=none:=by
 cases e:H l with
 | none=>rfl
 | some o=>
  have:=s _ _ e
  rw[h] at this
  cases this
def mG(n:Net)(ns ans:List Int):Prop:=∃ (s:Nat) (e:Port),ns=[(s:Int),(e.switch:Int),(e.port:Int)]∧s < n.tables.length∧ans=Vapktc.flatForm n.wide (Vapktc.toExit n s e)
theorem jz:al ["network","numbers","wanted","end"] ["network","numbers"] (aj jH):=⟨rfl,rfl,rfl,by decide +kernel,rfl,by decide +kernel,by decide +kernel⟩
theorem r0(en:End_)(e:Port):decide (Ms.e3 en=[0,(e.switch:Int),(e.port:Int)])=(match en with
 | .exit q _=>q == e
 | _=>false):=by
 rw[Bool.eq_iff_iff,decide_eq_true_iff]
 cases en with
 | exit q g=>
  show[(0:Int),(q.switch:Int),(q.port:Int)]=[0,(e.switch:Int),(e.port:Int)]↔(q == e)=true
  rw[beq_iff_eq]
  cases q
  cases e
  simp
  omega
 | dropped s i=>simp[Ms.e3,flatEnd]
 | hole s=>simp[Ms.e3,flatEnd]
 | round=>simp[Ms.e3,flatEnd]
theorem qw(TW:TxtW K mg CW)(B:TxtB mg)(C:TxtC mg)(TN:TxtF K mg "without_header" eZ ["end"])(TF:TxtF K mg "one_form" dg ["members"])(TS:TxtF K mg "set_numbers" bZ ["members"])(T:TxtF K mg "answer_toexit" jH ["network","numbers"]):aq P w K mg base CX0 10 "answer_toexit" ["network","numbers"] (spA CR CW mG):=by
 refine T.def0 jz bL (fun f cdv A outer s H vs Q E hr h=>?_)
 obtain⟨p,a,n,ns,ans,rfl,hN,ha,⟨sw,ex,rfl,hsw,rfl⟩,k⟩:=h
 have nd:=jz.nd
 have DS:aq P w K mg base CX0 9 "set_numbers" ["members"] (fV K):=eD TS TF B
 have DN:aq P w K mg base CX0 9 "without_header" ["end"] dA:=(ia TN).mono (by omega)
 have DE:aF P w K mg base CX0 9 CW "ends_from" ["self","switch"] (cu CR CW):=(cI TW B).mono (by omega)
 refine⟨_,ad (ao (i:=2) nd rfl (Or.inr rfl) (aU (aa (pe_c C.atExit rfl) (aa (aE aB (pv 1) ak (fun _ _=>rfl)) (aa (aE aB (pv 1) ak (fun _ _=>rfl)) af)))))
  (ah (au (az DS hr rfl aA (aa (gi (te:=tOp (rEqD K) (jj dA [] E (cC (tVar 3) tNil)) (tVar 2)) (g:=aY 3) (own:=[("end",3)]) rfl nd (be (aJ (pv 0) TW.cl DE hr aA (aa (aE aB (pv 1) ak (fun _ _=>rfl)) af))) (bb rfl)
   (fun _ _ _ _ _=>ay (i:=3) nd rfl (Or.inl rfl) (Or.inr rfl)) (fun _ _ _ _ _=>b8) (fun _ _ _ _ _=>gk (jR (by exact hr.units)) (az DN (by exact hr) rfl aA (aa (pv 3) af)) (pv 2) (aR _))) af)))),?_⟩
 refine⟨_,rfl,a,_,_,_,rfl,rfl,SqL.of ha,ax (j:=1) rfl,_,rfl,a,_,_,_,rfl,rfl,SqL.of ha,ax (j:=2) rfl,by show 3≤sizeLine;decide,fun t ht=>?_⟩
 have s0:Same H (upd H t (.tup [.int 0,.int (ex.switch:Int),.int (ex.port:Int)])):=ai ht
 have hN0:=hN.same s0
 obtain⟨dx,fs,hp,hn⟩:=id hN0
 have ps:=aW hn.wf.w7
 refine⟨_,rfl,p,dx,fs,rfl,hp,hn.noM.2.2.2.2,_,rfl,a,_,_,_,rfl,rfl,SqL.of (s0 _ _ ha),ax (j:=0) rfl,p,n,sw,rfl,hN0,hsw,fun H1 l ts s1 hl1 hl2 hts=>?_⟩
 refine⟨l,rfl,⟨_,SqL.of hl2⟩,fun D hD=>?_⟩
 have lts:=gt hts
 refine j7 (i0:=3) (K:=K) (l0:=l) (xs:=ts.map V.ref) (fun i v _=>v=.bl (Vapktc.endsAt ex (wayOf n ⟨sw,i⟩))) hD (SqL.of hl2) (by rw[length_map];omega) (fun _ _ _ _ _ h=>h) (fun v=>rfl) ?_ ?_
 ·rintro i x H' Q' hx s2 _ q
  rw[getElem?_map] at hx
  cases e:ts[i]? with
  | none=>
   rw[e] at hx
   cases hx
  | some u=>
   rw[e] at hx
   cases hx
   obtain⟨en,he1,he2⟩:=aC hts e
   obtain⟨hi,hen⟩:=gu he1
   refine⟨_,rfl,u,en,rfl,s2 _ _ he2,fun H2 t' s3 ht'=>?_⟩
   have htt:H2 t=some (.tup ([(0:Int),(ex.switch:Int),(ex.port:Int)].map V.int)):=s3 _ _ (s2 _ _ (s1 _ _ ac))
   refine⟨_,rfl,_,_,.tup (SqT.of ht') (cA _),.tup (SqT.of htt) (cA _),dB _,dB _,?_⟩
   refine q _ _ s3 ?_
   show V.bl (PyData.eqvAll _ _)=_
   rw[eM,r0,hen]
   rfl
 ·intro H' ys s2 hDl hl hr'
  have hy:=fm hl hr'
  rw[length_map,lts] at hy
  have e1:ys=((List.range (2 ^ n.wide)).map fun i=>Vapktc.endsAt ex (wayOf n ⟨sw,i⟩)).map V.bl:=by
   rw[hy,map_map]
   rfl
  rw[e1] at hDl
  refine⟨D,_,n.wide,rfl,SqL.of hDl,by simp,hn.wf.w7,fun H2 l2 s3 hl3 hl4=>?_⟩
  refine k H2 l2 (((s0.trans s1).trans s2).trans s3) (aN ((s0.trans s1).trans s2) hl3) ?_
  exact hl4.trans (congrArg (fun z=>some (HO.lst (List.map V.int z))) (df (S:=Vapktc.toExit n sw ex) (Ms.eQ n sw _) (Ms.cJ n sw (Vapktc.endsAt ex)).symm))
end
abbrev jD:Stmt:=top 76
theorem wM{x y1 y2 y3 y4:List Int}{wd k:Nat}{ts:List VapktBase.Table}{ls:List Lk}(r1:readNat 1 7 x=some (wd,y1))(r2:readNat 1 5 y1=some (k,y2))(r3:readTimes (readTable wd) k y2=some (ts,y3))(r4:fR k y3=some (ls,y4)) :
  readNet x=some (⟨wd,ts,ls⟩,y4):=by
 unfold readNet
 rw[show readNat 1 VapktBase.WIDE x=some (wd,y1) from r1]
 show((readNat 1 SWITCHES y1).bind _)=_
 rw[show readNat 1 SWITCHES y1=some (k,y2) from r2]
 show((readTimes (readTable wd) k y2).bind _)=_
 rw[r3]
 unfold fR at r4
 obtain⟨u,h1,h2⟩:=Option.bind_eq_some_iff.mp r4
 show((readListed VapktBase.LINKS (readPair (readPort k) (readPort k)) y3).bind _)=_
 rw[show readListed VapktBase.LINKS (readPair (readPort k) (readPort k)) y3=some u from h1]
 show(if linksApart u.1 then _ else _)=_
 split at h2
 ·rename_i ap
  cases h2
  rw[if_pos ap]
 ·cases h2
theorem uO{x:List Int}(r1:readNat 1 7 x=none):readNet x=none:=by
 unfold readNet
 rw[show readNat 1 VapktBase.WIDE x=none from r1]
 rfl
theorem uN{x y1:List Int}{wd:Nat}(r1:readNat 1 7 x=some (wd,y1))(r2:readNat 1 5 y1=none):readNet x=none:=by
 unfold readNet
 rw[show readNat 1 VapktBase.WIDE x=some (wd,y1) from r1]
 show((readNat 1 SWITCHES y1).bind _)=_
 rw[show readNat 1 SWITCHES y1=none from r2]
 rfl
theorem uM{x y1 y2:List Int}{wd k:Nat}(r1:readNat 1 7 x=some (wd,y1))(r2:readNat 1 5 y1=some (k,y2))(r3:readTimes (readTable wd) k y2=none):readNet x=none:=by
 unfold readNet
 rw[show readNat 1 VapktBase.WIDE x=some (wd,y1) from r1]
 show((readNat 1 SWITCHES y1).bind _)=_
 rw[show readNat 1 SWITCHES y1=some (k,y2) from r2]
 show((readTimes (readTable wd) k y2).bind _)=_
 rw[r3]
 rfl
theorem uL{x y1 y2 y3:List Int}{wd k:Nat}{ts:List VapktBase.Table}(r1:readNat 1 7 x=some (wd,y1))(r2:readNat 1 5 y1=some (k,y2))(r3:readTimes (readTable wd) k y2=some (ts,y3))(r4:fR k y3=none):readNet x=none:=by
 unfold readNet
 rw[show readNat 1 VapktBase.WIDE x=some (wd,y1) from r1]
 show((readNat 1 SWITCHES y1).bind _)=_
 rw[show readNat 1 SWITCHES y1=some (k,y2) from r2]
 show((readTimes (readTable wd) k y2).bind _)=_
 rw[r3]
 show((readListed VapktBase.LINKS (readPair (readPort k) (readPort k)) y3).bind _)=_
 unfold fR at r4
 cases h:readListed VapktBase.LINKS (readPair (readPort k) (readPort k)) y3 with
 | none=>rfl
 | some u=>
  rw[show readListed 10 (dm k) y3=some u from h] at r4
  have r4:(if linksApart u.1 then some u else none)=none:=r4
  show(if linksApart u.1 then _ else _)=_
  split at r4
  ·cases r4
  ·rename_i ap
   rw[if_neg ap]
theorem qy{x:List Int}{n:Net}(h:readNet x=some (n,[])):netOf x=some n:=by
 unfold netOf
 rw[h]
theorem cZ{x:List Int}(h:readNet x=none∨∃ n z r,readNet x=some (n,z::r)):netOf x=none:=by
 unfold netOf
 rcases h with h | ⟨n,z,r,h⟩
 ·rw[h]
 ·rw[h]
theorem mT{lo hi m:Nat}{x y:List Int}(h:readNat lo hi x=some (m,y)):lo≤m∧m≤hi:=(Ms.cQ _ _ _ _ _ h).2
section
variable{P:Program}{w:World}{K:Frag}{mg:Str→Option Value}{base:Heap}{CR CW CN CE:Addr}{tP tM tM2 tM3 tM4:Tok}
def gK(CR CW:Addr):Sp:=fun vs H Q _=>∃ (p dx a tl lk:Addr) (n:Net) (ts:List Addr),vs=[.ref p,.ref a,.int (n.wide:Int),.ref tl,.ref lk]∧H p=some (.ins CW dx [])∧H a=some (.lst ((flatNet n).map V.int))∧
 cw CR H tl n.tables∧H lk=some (.lst (ts.map V.ref))∧fC H ts n.links∧Mw.WF n∧(flatNet n).length≤500∧
 ∀ (H':Hp) (fs:List (Str × V)),H' p=some (.ins CW dx fs)→aI p H H'→NetF CR H' fs n→Q .non H'
def kY(CR CW CE:Addr):Sp:=fun vs H Q E=>∃ (a:Addr) (xs:List Int),vs=[.ref a]∧H a=some (.lst (xs.map V.int))∧xs.length≤500∧
 (∀ (n:Net) (p:Addr) (H':Hp),netOf xs=some n→Same H H'→bI CR CW H' p n→Q (.ref p) H')∧
 (∀ H':Hp,netOf xs=none→Same H H'→E (.ref CE) none H')
theorem rs:al ["numbers","source","width","switches","tables","links","switch"] ["numbers"] (aj uF):=⟨rfl,rfl,rfl,by decide +kernel,rfl,by decide +kernel,by decide +kernel⟩
theorem w9(T:TxtN K mg CN CE)(TR:TxtR K mg CR)(TW:TxtW K mg CW)(B:TxtB mg)(TI:TxtF K mg "is_pattern" dL ["pattern","size"])(TP:TxtF K mg "read_pattern" lF ["source","size"])(TQ:TxtF K mg "read_rule" jA ["source","size"])(TT:TxtF K mg "read_table" rF ["source","size"])
  (TO:TxtF K mg "read_port" jB ["source","switches"]) (TL:TxtF K mg "read_links" jb ["source","switches"]) (TN:TxtF K mg "read_network" uF ["numbers"])
  (hP:mg "PORTS"=some (.int 6 tP)) (hM:mg "MOST_RULES"=some (.int 8 tM)) (hM2:mg "MOST_LINKS"=some (.int 10 tM2)) (hM3:mg "MOST_BITS"=some (.int 7 tM3)) (hM4:mg "MOST_SWITCHES"=some (.int 5 tM4))
  (DI:dZ P w K mg base CX0 4 CW ["self","numbers","width","tables","links"] (gK CR CW)) :
  aq P w K mg base (FX P w) 6 "read_network" ["numbers"] (kY CR CW CE):=by
 refine TN.defX rs (fun vs H Q E h=>?_) (fun f cdv A outer s H vs Q E hr h=>?_)
 ·obtain⟨a,xs,rfl,_⟩:=h
  rfl
 ·obtain⟨a,xs,rfl,ha,hxl,kok,kno⟩:=h
  have nd:=rs.nd
  have hr2:Room 2 _:=hr.mono (by decide)
  have hr3:Room 3 _:=hr.mono (by decide)
  have hr4:Room 4 _:=hr.mono (by decide)
  have hr1:Room 1 _:=hr.mono (by decide)
  have DN:dZ P w K mg base CX0 1 CN ["self","numbers"] (kZ CN):=ql T
  have D7:aF P w K mg base (FX P w) 3 CN "take" ["self","least","most"] (spRd K CN CE [.int ((1:Nat):Int),.int ((7:Nat):Int)] (readNat 1 7) RepN):=dl T B 1 7
  have D5:aF P w K mg base (FX P w) 3 CN "take" ["self","least","most"] (spRd K CN CE [.int ((1:Nat):Int),.int ((5:Nat):Int)] (readNat 1 5) RepN):=dl T B 1 5
  have DA:aF P w K mg base CX0 1 CN "at_end" ["self"] (mo K CN):=oG T B
  obtain⟨wd,hwd⟩:∃ wd:Nat,∀ m y,readNat 1 7 xs=some (m,y)→m=wd:=by
   cases r1:readNat 1 7 xs with
   | none=>exact⟨1,fun m y z=>by cases z⟩
   | some u=>exact⟨u.1,fun m y z=>by cases z;rfl⟩
  obtain⟨k,hk1,hk⟩:∃ k:Nat,1≤k∧∀ m y m' y',readNat 1 7 xs=some (m,y)→readNat 1 5 y=some (m',y')→m'=k:=by
   cases r1:readNat 1 7 xs with
   | none=>exact⟨1,Nat.le_refl 1,fun m y m' y' z=>by cases z⟩
   | some u=>
    cases r2:readNat 1 5 u.2 with
    | none=>exact⟨1,Nat.le_refl 1,fun m y m' y' z z2=>by cases z;rw[r2] at z2;cases z2⟩
    | some u2=>exact⟨u2.1,(mT (m:=u2.1) (y:=u2.2) r2).1,fun m y m' y' z z2=>by cases z;rw[r2] at z2;cases z2;rfl⟩
  have DT:aq P w K mg base (FX P w) 5 "read_table" ["source","size"] (ut K CN CE [.int ((2 ^ wd:Nat):Int)] (readTable wd) (RepT CR)):=w6 T TR B TI TP TQ TT hP hM wd
  have DL:aq P w K mg base (FX P w) 5 "read_links" ["source","switches"] (spRd K CN CE [.int (k:Int)] (fR k) RepL):=tF T B TO TL hP hM2 k hk1
  refine⟨_,ad (ao (i:=1) nd rfl (Or.inr rfl) (gh DN hr2 rfl T.gN aA (aa (pv 0) af)))
   (ad (ao (i:=2) nd rfl (Or.inr rfl) (aJ (pv 1) T.cl D7 hr3 XCx.of.passes (aa ak (aa (bT (v:=.int 7) rfl hM3 ⟨_,rfl⟩) af))))
   (ad (ao (i:=3) nd rfl (Or.inl rfl) (aJ (pv 1) T.cl D5 hr3 XCx.of.passes (aa ak (aa (bT (v:=.int 5) rfl hM4 ⟨_,rfl⟩) af))))
   (ad (sY (te:=jj (ut K CN CE [.int ((2 ^ wd:Nat):Int)] (readTable wd) (RepT CR)) [] E (cC (tVar 1) (cC (tOp (rI CPow fun i j=>.int (i*2 ^ j.toNat)) (tC (.int 1)) (tVar 2)) tNil))) (g:=aY 6) (i:=4) (own:=[("switch",6)]) XCx.of rfl nd rfl rfl (cO rfl rfl rfl rfl) (bJ rfl B.range (aa (pv 3) af)) (bb rfl)
    (fun _ _ _ _ _=>ay (i:=6) nd rfl (Or.inl rfl) (Or.inr rfl)) (fun _ _ _ _ _=>b8) (fun _ _ _ _ _ _ hW=>az DT (by exact hr) rfl hW (aa (pv 1) (aa (bG vm ak (pv 2)) af))))
   (ad (ao (i:=5) nd rfl (Or.inl rfl) (az DL hr rfl XCx.of.passes (aa (pv 1) (aa (pv 3) af))))
   (ad (bi (dy (cv (dE (pv 1) T.cl DA hr1 aA))) (ah (eh XCx.of T.xc rfl T.gE rfl (aa cb af))) aK)
   (ah (au (gh DI hr rfl TW.gW aA (aa (gZ gA rfl B.list PyProof.Rows.boot_list (aa (pv 0) af)) (aa (pv 2) (aa (pv 4) (aa (pv 5) af)))))))))))),?_⟩
  refine⟨_,rfl,?_⟩
  intro S dS nS ndS neS
  refine⟨S,dS,a,rfl,ac,fun H1 e1 kb1=>⟨rfl,?_⟩⟩
  have s1:Same H H1:=fj (o:=.lst []) nS ndS kb1
  have src1:Src K CN H1 S a xs 0:=⟨⟨dS,e1⟩,s1 _ _ ha,Nat.zero_le _⟩
  have back:∀ {H':Hp},aI S H1 H'→Same H H':=fun kb b o hb=>kb _ _ (s1 _ _ hb) (ae hb nS)
  refine⟨_,rfl,S,dS,_,rfl,e1,rfl,S,a,xs,0,rfl,src1,fun wd' j1 v1 H2 r1 kb2 src2 rep2=>?_,fun H2 r1 kb2=>?_⟩
  ·cases rep2
   rw[List.drop_zero] at r1
   have ew:=hwd _ _ r1
   subst ew
   have w7:=mT r1
   obtain⟨⟨dx2,hS2⟩,ha2,hi2⟩:=id src2
   refine⟨_,rfl,S,dx2,_,rfl,hS2,rfl,S,a,xs,j1,rfl,src2,fun k' j2 v2 H3 r2 kb3 src3 rep3=>?_,fun H3 r2 kb3=>?_⟩
   ·cases rep3
    have ek:=hk _ _ _ _ r1 r2
    subst ek
    have k5:=mT r2
    refine⟨_,rfl,(k':Int),rfl,by omega,by omega,fun D hD=>?_⟩
    show ∃ W:Nat→Nat→Hp→Prop,_
    rw[Int.toNat_natCast]
    have nDS:D≠S:=by
     obtain⟨dx1,z⟩:=src3.ins
     exact(ae z hD).symm
    have kb13:aI S H1 H3:=kb2.trans kb3
    refine gm (lo:=0) (n:=k') (fun i' H'=>∃ (j:Nat) (ls:List Addr) (ts:List VapktBase.Table),(∀ b o,H3 b=some o→b≠S→H' b=some o)∧Src K CN H' S a xs j∧H' D=some (.lst (ls.map V.ref))∧Paired (fun l t=>gD CR H' l t) ls ts∧(∀ l∈ls,l≠D)∧readTimes (readTable wd') i' (xs.drop j2)=some (ts,xs.drop j)) ?_ ?_ ?_
    ·exact⟨j2,[],[],(ai hD).keepBut,src3.same (ai hD),ac,.nil,(fun l hl=>by cases hl),rfl⟩
    ·rintro i' H' hi ⟨j,ls,ts,kb,src,hDl,hq,hne,rd⟩
     refine⟨rfl,?_⟩
     unfold tYes
     dsimp only
     rw[if_pos rfl]
     have lq:ls.length≤5:=by
      rw[Paired.length hq,eU rd]
      omega
     refine⟨_,rfl,_,rfl,_,_,rfl,rfl,⟨by omega,by omega,by decide⟩,S,a,xs,j,?_,src,fun x2 j3 v3 H4 r3 kb4 src4 rep4 fresh=>?_,fun H4 r3 kb4=>?_⟩
     ·show[V.ref S,V.int (1*2 ^ ((wd':Int).toNat))]=_
      rw[Int.toNat_natCast]
      simp
     ·obtain⟨l,qs,rfl,hl1,hl2⟩:=rep4
      have hD4:=kb4 _ _ hDl nDS
      have nlD:l≠D:=fun z=>by
       have:=fresh l rfl
       rw[z,hDl] at this
       cases this
      have upX:∀ b o,H4 b=some o→((∃ xs,o=.lst xs)∨(∃ xs,o=.tup xs)∨∃ dx a b c d,o=.ins CR dx (cK a b c d))→b≠D→upd H4 D (.lst (ls.map V.ref++[.ref l])) b=some o:=fun b o e _ nb=>by
       rw[ag nb]
       exact e
      have nrD:∀ b o,H4 b=some o→((∃ xs,o=.tup xs)∨∃ dx a b c d,o=.ins CR dx (cK a b c d))→b≠D:=fun b o e ho=>by
       rcases ho with⟨ys,rfl⟩ | ⟨_,_,_,_,_,rfl⟩
       ·exact aP e hD4 (by intro z;cases z)
       ·exact aP e hD4 (by intro z;cases z)
      have upT:∀ {l':Addr} {t':VapktBase.Table},gD CR H4 l' t'→l'≠D→gD CR (upd H4 D (.lst (ls.map V.ref++[.ref l]))) l' t':=fun {l' t'} h nl=>by
       obtain⟨qs',h1,h2⟩:=h
       exact⟨qs',by rw[ag nl];exact h1,Paired.mapP h2 fun q r e=>e.same fun b o e ho=>by rw[ag (nrD b o e ho)];exact e⟩
      have nS:∀ {l':Addr} {ys:List V},H' l'=some (.lst ys)→l'≠S:=fun e=>by
       obtain⟨dx',z⟩:=src.ins
       exact aP e z (by intro z;cases z)
      refine⟨_,hD4,by rw[length_map];exact aH (m:=8) (by omega),j3,ls++[l],ts++[x2],?_,?_,?_,?_,?_,cR rd r3⟩
      ·intro b o hb nb
       rw[ag (ae hb hD)]
       exact kb4 _ _ (kb b o hb nb) nb
      ·obtain⟨⟨d2,z⟩,ll,le⟩:=src4
       refine⟨⟨d2,by rw[ag nDS.symm];exact z⟩,?_,le⟩
       rw[ag (ae src3.lst hD)]
       exact ll
      ·rw[ac,map_append]
       rfl
      ·refine Paired.snoc ?_ (upT ⟨qs,hl1,hl2⟩ nlD)
       have hq':Paired (fun l t=>gD CR H' l t∧l≠D) ls ts:=by
        refine hJ (Paired.length hq) fun i x y hx hy=>?_
        obtain⟨y',hy1,hy2⟩:=aC hq hx
        rw[hy] at hy1
        cases hy1
        exact⟨hy2,hne x (mem_of_getElem? hx)⟩
       exact Paired.mapP hq' fun l' t' ⟨h,nl⟩=>by
        obtain⟨qs',h1,h2⟩:=h
        exact upT ⟨qs',kb4 _ _ h1 (nS h1),h2.keep src kb4⟩ nl
      ·intro l' hl'
       rcases mem_append.mp hl' with z | z
       ·exact hne l' z
       ·rw[List.mem_singleton.mp z]
        exact nlD
     ·refine kno H4 (cZ (.inl (uM r1 r2 ?_))) (back ((kb13.trans (fun b o hb nb=>kb b o hb nb)).trans kb4))
      exact cS rd r3 hi
    ·rintro H4 ⟨j,ls,ts,kb,src,hDl,hq,hne,rd⟩
     have kb14:aI S H1 H4:=kb13.trans (fun b o hb nb=>kb b o hb nb)
     obtain⟨⟨dx4,hS4⟩,ha4,hi4⟩:=id src
     refine⟨_,rfl,_,rfl,S,a,xs,j,rfl,src,fun lks j4 v4 H5 r4 kb5 src5 rep5=>?_,fun H5 r4 kb5=>?_⟩
     ·obtain⟨lk,tl,rfl,hlk,hla⟩:=rep5
      obtain⟨⟨dx5,hS5⟩,ha5,hi5⟩:=id src5
      refine⟨_,rfl,S,dx5,_,rfl,hS5,rfl,S,a,xs,j4,rfl,src5,_,rfl,?_⟩
      have kb15:=kb14.trans kb5
      have rn:=wM r1 r2 rd r4
      by_cases he:j4=xs.length
      ·rw[decide_eq_true he]
       refine iteF ?_
       rw[he,List.drop_length] at rn
       have hnet:=qy rn
       obtain⟨hfl,W⟩:=Ms.vG hnet
       refine⟨_,rfl,a,_,rfl,.inl (SqL.of ha5),fun z hz=>?_⟩
       refine⟨_,rfl,_,rfl,_,rfl,?_⟩
       intro p dp np ndp nep
       have s6:Same H5 (upd H5 z (.lst (xs.map V.int))):=ai hz
       have nDS':D≠S:=nDS
       have nS:∀ {l':Addr} {ys:List V},H4 l'=some (.lst ys)→l'≠S:=fun e=>aP e hS4 (by intro z;cases z)
       have tabs5:cw CR H5 D ts:=by
        refine⟨ls,kb5 _ _ hDl nDS,Paired.mapP hq fun l' t' h=>?_⟩
        obtain⟨qs',h1,h2⟩:=h
        exact⟨qs',kb5 _ _ h1 (nS h1),h2.keep src kb5⟩
       have s7:Same (upd H5 z (.lst (xs.map V.int))) (upd (upd (upd H5 z (.lst (xs.map V.int))) dp (.own p)) p (.ins CW dp [])):=fun b o e=>by
        rw[ag (ae e np),ag (ae e ndp)]
        exact e
       have s67:=s6.trans s7
       refine⟨p,dp,z,D,lk,⟨wd',ts,lks⟩,tl,rfl,ac,?_,tabs5.same fun b o e _=>s67 _ _ e,s67 _ _ hlk,Paired.mapP hla fun t x h=>h.same fun b xs e=>s67 _ _ e,W,by rw[←hfl];exact hxl,fun H6 fs hp6 kb6 hF=>⟨rfl,?_⟩⟩
       ·rw[←hfl]
        exact s7 _ _ ac
       ·have s8:Same (upd H5 z (.lst (xs.map V.int))) H6:=fj (o:=.lst []) np ndp kb6
        exact kok _ p H6 hnet ((back kb15).trans (s6.trans s8)) ⟨dp,fs,hp6,hF⟩
      ·rw[decide_eq_false he]
       refine iteT ⟨by show 1≤sizeLine;decide,kno H5 (cZ (.inr ?_)) (back kb15)⟩
       cases hd:xs.drop j4 with
       | nil=>
        have:=List.drop_eq_nil_iff.mp hd
        omega
       | cons z r=>
        rw[hd] at rn
        exact⟨_,_,_,rn⟩
     ·exact kno H5 (cZ (.inl (uL r1 r2 rd r4))) (back (kb14.trans kb5))
   ·exact kno H3 (cZ (.inl (uN r1 r2))) (back (kb2.trans kb3))
  ·rw[List.drop_zero] at r1
   exact kno H2 (cZ (.inl (uO r1))) (back kb2)
def lc(CR CW:Addr):Sp:=fun vs H Q _=>∃ (a:Addr) (xs:List Int),vs=[.ref a]∧H a=some (.lst (xs.map V.int))∧xs.length≤500∧
 (∀ (n:Net) (p:Addr) (H':Hp),netOf xs=some n→Same H H'→bI CR CW H' p n→Q (.ref p) H')∧
 (∀ H':Hp,netOf xs=none→Same H H'→Q .non H')
theorem pP:al ["numbers"] ["numbers"] (aj jD):=⟨rfl,rfl,rfl,by decide +kernel,rfl,by decide +kernel,by decide +kernel⟩
theorem qm(TN:TxtN K mg CN CE)(D:aq P w K mg base (FX P w) 6 "read_network" ["numbers"] (kY CR CW CE))(T:TxtF K mg "network_told" jD ["numbers"]):aq P w K mg base CX0 7 "network_told" ["numbers"] (lc CR CW):=by
 refine T.def0 pP (fun vs H Q E h=>?_) (fun f cdv A outer s H vs Q E hr h=>?_)
 ·obtain⟨a,xs,rfl,_⟩:=h
  rfl
 ·obtain⟨a,xs,rfl,ha,hl,kok,kno⟩:=h
  obtain⟨fa,fd,F,g,kp,b⟩:=D
  refine⟨_,ah (sX rfl rfl TN.xc rfl TN.gE F hr rfl g kp b (aa (pv 0) af) (fun e=>ah (au mI))),?_⟩
  exact⟨_,rfl,a,xs,rfl,ha,hl,kok,fun H' hn s=>⟨rfl,kno H' hn s⟩⟩
end
def gF(H:Hp)(ks:List (List Key × V))(n:Net)(x:Packet):Prop:=match stepOf n x with
 | .error e=>∃ t,valV ks (kk x)=some (.ref t)∧H t=some (.tup ((flatEnd e).map V.int))
 | .ok _=>valV ks (kk x)=none
structure ir(H:Hp)(ko ks:List (List Key × V))(n:Net)(D:List Packet):Prop where
 onw:∀ x∈D,∃ v,valV ko (kk x)=some v∧OnwV H v (stepOf n x)
 keysO:∀ kv∈ko,∃ x∈D,kv.1=kk x
 stp:∀ x∈D,gF H ks n x
 keysS:∀ kv∈ks,∃ x∈D,kv.1=kk x
 lenO:ko.length≤D.length
 lenS:ks.length≤D.length
theorem OnwV.same{H H':Hp}{v:V}{e:Except End_ Packet}(h:OnwV H v e)(s:∀ b xs,H b=some (.tup xs)→H' b=some (.tup xs)):OnwV H' v e:=by
 cases e with
 | error en=>exact h
 | ok y=>
  obtain⟨t,h1,h2⟩:=h
  exact⟨t,h1,s _ _ h2⟩
theorem gF.same{H H':Hp}{ks:List (List Key × V)}{n:Net}{x:Packet}(h:gF H ks n x)(s:∀ b xs,H b=some (.tup xs)→H' b=some (.tup xs)):gF H' ks n x:=by
 unfold gF at h ⊢
 cases e:stepOf n x with
 | error en=>
  rw[e] at h
  obtain⟨t,h1,h2⟩:=h
  exact⟨t,h1,s _ _ h2⟩
 | ok y=>
  rw[e] at h
  exact h
theorem bX{ks:List (List Key × V)}{D:List Packet}{x:Packet}(hk:∀ kv∈ks,∃ x∈D,kv.1=kk x)(hx:x ∉ D):valV ks (kk x)=none:=by
 cases e:valV ks (kk x) with
 | none=>rfl
 | some v=>
  obtain⟨p,hp,ep⟩:=mem_map.mp (i7 e)
  obtain⟨y,hy,ey⟩:=hk p hp
  rw[ep] at ey
  rw[eJ ey] at hx
  exact absurd hy hx
theorem ir.more{H H':Hp}{ko ks ks':List (List Key × V)}{n:Net}{D:List Packet}{x:Packet}{v:V}(d:ir H ko ks n D)(hx:x ∉ D)(s:∀ b xs,H b=some (.tup xs)→H' b=some (.tup xs))
  (hv:OnwV H' v (stepOf n x)) (hs:(ks'=ks∧∃ y,stepOf n x=.ok y)∨∃ e t,stepOf n x=.error e∧ks'=putK ks (kk x) (.ref t)∧H' t=some (.tup ((flatEnd e).map V.int))) :
  ir H' (putK ko (kk x) v) ks' n (D++[x]):=by
 have no:=bX d.keysO hx
 have ns:=bX d.keysS hx
 have ne:∀ {y:Packet},y∈D→¬ kk y=kk x:=fun hy e=>hx (eJ e ▸ hy)
 refine⟨fun y hy=>?_,fun kv hkv=>?_,fun y hy=>?_,fun kv hkv=>?_,?_,?_⟩
 ·rw[bh]
  rcases mem_append.mp hy with z | z
  ·rw[if_neg (ne z)]
   obtain⟨u,h1,h2⟩:=d.onw y z
   exact⟨u,h1,h2.same s⟩
  ·simp at z
   subst z
   rw[if_pos rfl]
   exact⟨v,rfl,hv⟩
 ·rw[b7 _ no] at hkv
  rcases mem_append.mp hkv with z | z
  ·obtain⟨y,hy,e⟩:=d.keysO kv z
   exact⟨y,mem_append_left _ hy,e⟩
  ·simp at z
   exact⟨x,by simp,by rw[z]⟩
 ·rcases mem_append.mp hy with z | z
  ·have h:=(d.stp y z).same s
   rcases hs with⟨rfl,_⟩ | ⟨e,t,_,rfl,_⟩
   ·exact h
   ·unfold gF at h ⊢
    rw[bh,if_neg (ne z)]
    exact h
  ·simp at z
   subst z
   unfold gF
   rcases hs with⟨rfl,y',e⟩ | ⟨e,t,h1,rfl,h2⟩
   ·rw[e]
    exact ns
   ·rw[h1]
    exact⟨t,by rw[bh,if_pos rfl],h2⟩
 ·rcases hs with⟨rfl,_⟩ | ⟨e,t,_,rfl,_⟩
  ·obtain⟨y,hy,e⟩:=d.keysS kv hkv
   exact⟨y,mem_append_left _ hy,e⟩
  ·rw[b7 _ ns] at hkv
   rcases mem_append.mp hkv with z | z
   ·obtain⟨y,hy,e⟩:=d.keysS kv z
    exact⟨y,mem_append_left _ hy,e⟩
   ·simp at z
    exact⟨x,by simp,by rw[z]⟩
 ·rw[length_append,length_singleton]
  exact Nat.le_trans (aX _ _ _) (Nat.add_le_add_right d.lenO 1)
 ·rw[length_append,length_singleton]
  rcases hs with⟨rfl,_⟩ | ⟨e,t,_,rfl,_⟩
  ·exact Nat.le_succ_of_le d.lenS
  ·exact Nat.le_trans (aX _ _ _) (Nat.add_le_add_right d.lenS 1)
structure mj(H:Hp)(kc ku:List (List Key × V))(n:Net)(D:List Packet):Prop where
 cnt:∀ x∈D,valV kc (kk x)=some (numV (ruleFor (n.table x.switch) x.header))
 keysC:∀ kv∈kc,∃ x∈D,kv.1=kk x
 lenC:kc.length≤D.length
 lenU:ku.length≤D.length
 sent:dW H ku n (fun x=>x∈D)
theorem dW.keys{H:Hp}{ku:List (List Key × V)}{n:Net}{D:List Packet}(h:dW H ku n (fun x=>x∈D)):∀ kv∈ku,∃ x∈D,kv.1=kk x:=fun kv hkv=>by
 obtain⟨x,p,t,h1,h2,_⟩:=h.each kv hkv
 exact⟨x,h1,by rw[h2]⟩
theorem mj.more{H H':Hp}{kc ku ku':List (List Key × V)}{n:Net}{D:List Packet}{x:Packet}(d:mj H kc ku n D)(hx:x ∉ D)(s:∀ b xs,H b=some (.tup xs)→H' b=some (.tup xs))
  (hs:(ku'=ku∧∃ e,stepOf n x=.error e)∨∃ p t,Ms.bK n x=some p∧ku'=putK ku (kk x) (.ref t)∧TupN H' t p.switch p.port) :
  mj H' (putK kc (kk x) (numV (ruleFor (n.table x.switch) x.header))) ku' n (D++[x]):=by
 have nc:=bX d.keysC hx
 have nu:=bX d.sent.keys hx
 have ne:∀ {y:Packet},y∈D→¬ kk y=kk x:=fun hy e=>hx (eJ e ▸ hy)
 have sn:=d.sent.same s
 refine⟨fun y hy=>?_,fun kv hkv=>?_,?_,?_,⟨fun kv hkv=>?_,fun y hy hok=>?_⟩⟩
 ·rw[bh]
  rcases mem_append.mp hy with z | z
  ·rw[if_neg (ne z)]
   exact d.cnt y z
  ·simp at z
   subst z
   rw[if_pos rfl]
 ·rw[b7 _ nc] at hkv
  rcases mem_append.mp hkv with z | z
  ·obtain⟨y,hy,e⟩:=d.keysC kv z
   exact⟨y,mem_append_left _ hy,e⟩
  ·simp at z
   exact⟨x,by simp,by rw[z]⟩
 ·rw[length_append,length_singleton]
  exact Nat.le_trans (aX _ _ _) (Nat.add_le_add_right d.lenC 1)
 ·rw[length_append,length_singleton]
  rcases hs with⟨rfl,_⟩ | ⟨p,t,_,rfl,_⟩
  ·exact Nat.le_succ_of_le d.lenU
  ·exact Nat.le_trans (aX _ _ _) (Nat.add_le_add_right d.lenU 1)
 ·have old:∀ kv∈ku,∃ (y:Packet) (p:Port) (t:Addr),y∈D++[x]∧kv=(kk y,.ref t)∧Ms.bK n y=some p∧TupN H' t p.switch p.port:=fun kv hkv=>by
   obtain⟨y,p,t,h1,h2⟩:=sn.each kv hkv
   exact⟨y,p,t,mem_append_left _ h1,h2⟩
  rcases hs with⟨rfl,_⟩ | ⟨p,t,h1,rfl,h2⟩
  ·exact old kv hkv
  ·rw[b7 _ nu] at hkv
   rcases mem_append.mp hkv with z | z
   ·exact old kv z
   ·simp at z
    exact⟨x,p,t,by simp,z,h1,h2⟩
 ·rcases mem_append.mp hy with z | z
  ·have:=sn.all y z hok
   rcases hs with⟨rfl,_⟩ | ⟨p,t,_,rfl,_⟩
   ·exact this
   ·rw[bh,if_neg (ne z)]
    exact this
  ·simp at z
   subst z
   rcases hs with⟨rfl,e,he⟩ | ⟨p,t,_,rfl,_⟩
   ·obtain⟨y',hy'⟩:=hok
    rw[he] at hy'
    cases hy'
   ·rw[bh,if_pos rfl]
    rfl
section
variable{P:Program}{w:World}{K:Frag}{mg:Str→Option Value}{base:Heap}{CN CE CR CW:Addr}{tP tM:Tok}
theorem wK{n:Net}{s h i p:Nat}{r:Rule}{rw':VapktBase.Rewrite}(e:ruleFor (n.table s) h=some i)(hi:(n.table s)[i]?=some r)(ha:r.action=.send rw' p):Ms.bK n ⟨s,h⟩=some ⟨s,p⟩:=by
 unfold Ms.bK VapktBase.actionAt
 dsimp only
 rw[e]
 dsimp only
 rw[hi]
 simp only[Option.map_some,Option.getD_some,ha]
theorem qa{ko:List (List Key × V)}{k:List Key}{u v:V}(h:valV ko k=none):putK (putK ko k u) k v=putK ko k v:=by
 rw[b7 u h,b7 v h]
 unfold putK
 rw[if_pos (by simp)]
 rw[map_append]
 have:ko.map (fun kv=>if kv.1=k then(kv.1,v) else kv)=ko:=by
  have nk:=nw h
  conv=>rhs;rw[←List.map_id ko]
  apply map_congr_left
  intro kv hkv
  have:¬ kv.1=k:=fun e=>nk (mem_map.mpr ⟨kv,hkv,e⟩)
  rw[if_neg this]
  rfl
 rw[this]
 simp
theorem sO{n:Net}{s h:Nat}(e:ruleFor (n.table s) h=none):stepOf n ⟨s,h⟩=.error (.hole s):=by
 unfold stepOf
 dsimp only
 rw[e]
theorem sQ{n:Net}{s h i:Nat}{r:Rule}(e:ruleFor (n.table s) h=some i)(hi:(n.table s)[i]?=some r)(ha:r.action=.drop):stepOf n ⟨s,h⟩=.error (.dropped s i):=by
 unfold stepOf VapktBase.actionAt
 dsimp only
 rw[e]
 dsimp only
 rw[hi]
 simp only[Option.map_some,Option.getD_some,ha]
theorem sP{n:Net}{s h i p:Nat}{r:Rule}{rw':VapktBase.Rewrite}(e:ruleFor (n.table s) h=some i)(hi:(n.table s)[i]?=some r)(ha:r.action=.send rw' p)(hl:VapktBase.linkFrom n ⟨s,p⟩=none):stepOf n ⟨s,h⟩=.error (.exit ⟨s,p⟩ (rewritten rw' h)):=by
 unfold stepOf VapktBase.actionAt
 dsimp only
 rw[e]
 dsimp only
 rw[hi]
 simp only[Option.map_some,Option.getD_some,ha,hl]
theorem sN{n:Net}{s h i p:Nat}{r:Rule}{rw':VapktBase.Rewrite}{q:Port}(e:ruleFor (n.table s) h=some i)(hi:(n.table s)[i]?=some r)(ha:r.action=.send rw' p)(hl:VapktBase.linkFrom n ⟨s,p⟩=some q):stepOf n ⟨s,h⟩=.ok ⟨q.switch,rewritten rw' h⟩:=by
 unfold stepOf VapktBase.actionAt
 dsimp only
 rw[e]
 dsimp only
 rw[hi]
 simp only[Option.map_some,Option.getD_some,ha,hl]
def ur(CR CW:Addr):Sp:=fun vs H Q _=>∃ (N dx tl fr O St Cn Sn:Addr) (fs:List (Str × V)) (n:Net) (kf ko ks kc ku:List (List Key × V)) (D:List Packet) (s h:Nat),vs=[.ref N,.int (s:Int),.int (h:Int)]∧
 H N=some (.ins CW dx fs)∧(fs.lookup ("tables":Str)=some (.ref tl)∧fs.lookup ("far":Str)=some (.ref fr)∧fs.lookup ("onward":Str)=some (.ref O)∧fs.lookup ("stops":Str)=some (.ref St)∧fs.lookup ("counting":Str)=some (.ref Cn)∧fs.lookup ("sent_by":Str)=some (.ref Sn))∧Mw.WF n∧Mw.InU n ⟨s,h⟩∧cw CR H tl n.tables∧H fr=some (.dT kf)∧fJ H kf n.links∧(H O=some (.dT ko)∧H St=some (.dT ks)∧H Cn=some (.dT kc)∧H Sn=some (.dT ku))∧(O≠St∧O≠Cn∧O≠Sn∧St≠Cn∧St≠Sn∧Cn≠Sn)∧(fr≠O∧fr≠St∧fr≠Cn∧fr≠Sn)∧
 ir H ko ks n D∧mj H kc ku n D∧(⟨s,h⟩:Packet) ∉ D∧D.length≤640∧
 ∀ (H':Hp) (ko' ks' kc' ku':List (List Key × V)),(∀ b o,H b=some o→b≠O→b≠St→b≠Cn→b≠Sn→H' b=some o)→H' O=some (.dT ko')→H' St=some (.dT ks')→H' Cn=some (.dT kc')→H' Sn=some (.dT ku')→ir H' ko' ks' n (D++[⟨s,h⟩])→mj H' kc' ku' n (D++[⟨s,h⟩])→Q .non H'
theorem rl:al ["self","switch","header","packet","number","rule","changed","port","far"] ["self","switch","header"] (aj sStep):=⟨rfl,rfl,rfl,by decide +kernel,rfl,by decide +kernel,by decide +kernel⟩
theorem wZ(TW:TxtW K mg CW)(TR:TxtR K mg CR)(B:TxtB mg)(C:TxtC mg)(TM:TxtF K mg "matches" bF ["header","pattern"])(TX:TxtF K mg "rewritten" cU ["header","rewrite"])(TC:TxtF K mg "rule_that_counts" gb ["table","header"]):aF P w K mg base CX0 3 CW "take_step" ["self","switch","header"] (ur CR CW):=by
 refine TW.step.def0 rl (fun vs H Q E h=>?_) (fun f cdv A outer s H vs Q E hr h=>?_)
 ·obtain⟨N,dx,tl,fr,O,St,Cn,Sn,fs,n,kf,ko,ks,kc,ku,D,s,h,rfl,_⟩:=h
  rfl
 ·obtain⟨N,dx,tl,fr,O,St,Cn,Sn,fs,n,kf,ko,ks,kc,ku,D,sw,hd,rfl,hN,⟨l1,l2,l3,l4,l5,l6⟩,W,hx,htab,hfr,hfar,⟨hO,hSt,hCn,hSn⟩,⟨nOS,nOC,nOU,nSC,nSU,nCU⟩,⟨nfO,nfS,nfC,nfU⟩,done,done2,hnd,hDl,k⟩:=h
  have nd:=rl.nd
  have hu:=dr hr
  have hr1:Room 1 _:=hr.mono (by decide)
  have DC:aq P w K mg base CX0 2 "rule_that_counts" ["table","header"] (nH CR):=tH TC TR B TM
  have DX:aq P w K mg base CX0 1 "rewritten" ["header","rewrite"] (iu K):=mL TX
  refine⟨_,ad (ao (i:=3) nd rfl (Or.inl rfl) (aU (aa (pv 1) (aa (pv 2) af))))
   (ad (bu hu (aD (pv 0) rfl) (pv 3) mI rfl)
   (ad (ao (i:=4) nd rfl (Or.inl rfl) (az DC hr rfl aA (aa (aE aB (aD (pv 0) rfl) (pv 1) (fun _ _=>rfl)) (aa (pv 2) af))))
   (ad (bu hu (aD (pv 0) rfl) (pv 3) (pv 4) rfl)
   (ad (bi (bN (hG (pv 4))) (ad (bu hu (aD (pv 0) rfl) (pv 3) (aU (aa (pe_c C.hole rfl) (aa (pv 1) af))) rfl) (ah rJ)) aK)
   (ad (ao (i:=5) nd rfl (Or.inl rfl) (aE aB (aE aB (aD (pv 0) rfl) (pv 1) (fun _ _=>rfl)) (pv 4) (fun _ _=>rfl)))
   (ad (bi (cv (aD (pv 5) rfl)) (ad (bu hu (aD (pv 0) rfl) (pv 3) (aU (aa (pe_c C.dropped rfl) (aa (pv 1) (aa (pv 4) af)))) rfl) (ah rJ)) aK)
   (ad (ao (i:=6) nd rfl (Or.inl rfl) (az DX hr1 rfl aA (aa (pv 2) (aa (aD (pv 5) rfl) af))))
   (ad (ao (i:=7) nd rfl (Or.inl rfl) (aU (aa (pv 1) (aa (aD (pv 5) rfl) af))))
   (ad (ao (i:=8) nd rfl (Or.inl rfl) (vh hu (aD (pv 0) rfl) (pv 7) ⟨rfl,rfl,rfl,rfl⟩))
   (ah (bi (bN (hG (pv 8))) (ah (bu hu (aD (pv 0) rfl) (pv 3) (aU (aa (pe_c C.atExit rfl) (aa (pv 1) (aa (aD (pv 5) rfl) (aa (pv 6) af))))) rfl))
    (ad (bu hu (aD (pv 0) rfl) (pv 3) (aU (aa (aE bg (pv 8) ak (fun _ _=>rfl)) (aa (pv 6) af))) rfl)
    (ah (bu hu (aD (pv 0) rfl) (pv 3) (pv 7) rfl)))))))))))))),?_⟩
  have hno:valV ko (kk ⟨sw,hd⟩)=none:=bX done.keysO hnd
  have hns:valV ks (kk ⟨sw,hd⟩)=none:=bX done.keysS hnd
  have notD:∀ b o,H b=some o→(∀ kvs,o≠.dT kvs)→b≠O∧b≠St∧b≠Cn∧b≠Sn:=fun b o e ho=>⟨fun z=>by rw[z,hO] at e;cases e;exact ho _ rfl,fun z=>by rw[z,hSt] at e;cases e;exact ho _ rfl,fun z=>by rw[z,hCn] at e;cases e;exact ho _ rfl,fun z=>by rw[z,hSn] at e;cases e;exact ho _ rfl⟩
  obtain⟨nNO,nNS,nNC,nNU⟩:=notD N _ hN (fun kvs z=>by cases z)
  refine⟨_,rfl,_,rfl,by show 2≤sizeLine;decide,fun t ht=>?_⟩
  have s1:Same H (upd H t (.tup [.int (sw:Int),.int (hd:Int)])):=ai ht
  have nTO:t≠O:=(ae hO ht).symm
  have nTC:t≠Cn:=(ae hCn ht).symm
  have lo:=done.lenO
  have ls':=done.lenS
  have lc':=done2.lenC
  have lu':=done2.lenU
  refine⟨_,rfl,N,CW,dx,fs,_,rfl,s1 _ _ hN,TW.cl,TW.n6,l3,_,rfl,O,_,rfl,DPut.t (k:=kk ⟨sw,hd⟩) (s1 _ _ hO) ac (aH (m:=1000) (by omega)),?_⟩
  generalize hH1:upd (upd H t (.tup [.int (sw:Int),.int (hd:Int)])) O (.dT (putK ko (kk ⟨sw,hd⟩) .non))=H1
  have kO:∀ b o,H b=some o→b≠O→H1 b=some o:=fun b o e nb=>by
   rw[←hH1,ag nb]
   exact s1 _ _ e
  have kinds:∀ {o:HO},((∃ xs,o=.lst xs)∨(∃ xs,o=.tup xs)∨∃ dx a b c d,o=.ins CR dx (cK a b c d))→∀ kvs,o≠.dT kvs:=fun ho kvs z=>by
   rcases ho with⟨_,rfl⟩ | ⟨_,rfl⟩ | ⟨_,_,_,_,_,rfl⟩<;>cases z
  have ht1:H1 t=some (.tup [.int (sw:Int),.int (hd:Int)]):=by rw[←hH1,ag nTO,ac]
  have hO1:H1 O=some (.dT (putK ko (kk ⟨sw,hd⟩) .non)):=by rw[←hH1,ac]
  have hN1:H1 N=some (.ins CW dx fs):=kO _ _ hN nNO
  have tab1:cw CR H1 tl n.tables:=htab.same fun b o e ho=>kO _ _ e (notD b o e (kinds ho)).1
  obtain⟨hsw,hhd⟩:=hx
  have hsw:sw < n.tables.length:=hsw
  have hti:n.tables[sw]?=some (n.table sw):=by
   unfold Net.table
   rw[getElem?_eq_getElem hsw]
   rfl
  obtain⟨ls,l,hl1,hl2,qs,hq1,hq2⟩:=tab1.get hti
  refine⟨_,rfl,N,CW,dx,fs,_,rfl,hN1,TW.cl,TW.n4,l1,_,rfl,tl,_,_,_,rfl,rfl,SqL.of hl1,ax (j:=sw) (by rw[getElem?_map,hl2];rfl),_,rfl,l,qs,n.table sw,hd,rfl,hq1,hq2,fun G2 s2'=>?_⟩
  refine⟨_,rfl,_,rfl,N,CW,dx,fs,_,rfl,s2' _ _ hN1,TW.cl,TW.n10,l5,_,rfl,Cn,_,rfl,DPut.t (k:=kk ⟨sw,hd⟩) (s2' _ _ (kO _ _ hCn nOC.symm)) (s2' _ _ ht1) (aH (m:=1000) (by omega)),?_⟩
  generalize hH2:upd G2 Cn (.dT (putK kc (kk ⟨sw,hd⟩) (numV (ruleFor (n.table sw) hd))))=H2
  have s2:∀ b o,H1 b=some o→b≠Cn→H2 b=some o:=fun b o e nb=>by
   rw[←hH2,ag nb]
   exact s2' _ _ e
  have k2:∀ b o,H b=some o→b≠O→b≠Cn→H2 b=some o:=fun b o e n1 n2=>s2 _ _ (kO _ _ e n1) n2
  have tups2:∀ b xs,H b=some (.tup xs)→H2 b=some (.tup xs):=fun b xs e=>by
   obtain⟨n1,_,n3,_⟩:=notD b _ e (fun kvs z=>by cases z)
   exact k2 _ _ e n1 n3
  have far2:fJ H2 kf n.links:=hfar.same tups2
  have hfr2:H2 fr=some (.dT kf):=k2 _ _ hfr nfO nfC
  have notC:∀ b o,H1 b=some o→(∀ kvs,o≠.dT kvs)→b≠Cn:=fun b o e ho z=>by
   rw[z,kO _ _ hCn nOC.symm] at e
   cases e
   exact ho _ rfl
  have hl12:=s2 _ _ hl1 (notC _ _ hl1 (fun kvs z=>by cases z))
  have hq12:=s2 _ _ hq1 (notC _ _ hq1 (fun kvs z=>by cases z))
  have hN2:H2 N=some (.ins CW dx fs):=k2 _ _ hN nNO nNC
  have ht2:H2 t=some (.tup ((kk ⟨sw,hd⟩).map kV)):=s2 _ _ ht1 nTC
  have hSt2:H2 St=some (.dT ks):=k2 _ _ hSt nOS.symm nSC
  have hO2:H2 O=some (.dT (putK ko (kk ⟨sw,hd⟩) .non)):=s2 _ _ hO1 nOC
  have hCn2:H2 Cn=some (.dT (putK kc (kk ⟨sw,hd⟩) (numV (ruleFor (n.table sw) hd)))):=by rw[←hH2,ac]
  have hSn2:H2 Sn=some (.dT ku):=k2 _ _ hSn nOU.symm nCU.symm
  have nSO:=nOS.symm
  have stop:∀ (e:End_) (H3:Hp) (u:Addr),stepOf n ⟨sw,hd⟩=.error e→Same H2 H3→H3 u=some (.tup ((flatEnd e).map V.int))→u≠St→Q .non (upd H3 St (.dT (putK ks (kk ⟨sw,hd⟩) (.ref u)))):=fun e H3 u he s3 hu' nu=>by
   have tp:∀ b xs,H b=some (.tup xs)→upd H3 St (.dT (putK ks (kk ⟨sw,hd⟩) (.ref u))) b=some (.tup xs):=fun b xs e=>by
    rw[ag (notD b _ e (fun kvs z=>by cases z)).2.1]
    exact s3 _ _ (tups2 _ _ e)
   refine k _ (putK ko (kk ⟨sw,hd⟩) .non) (putK ks (kk ⟨sw,hd⟩) (.ref u)) (putK kc (kk ⟨sw,hd⟩) (numV (ruleFor (n.table sw) hd))) ku (fun b o hb n1 n2 n3 n4=>?_) ?_ ac ?_ ?_ ?_ ?_
   ·rw[ag n2]
    exact s3 _ _ (k2 _ _ hb n1 n3)
   ·rw[ag nOS]
    exact s3 _ _ hO2
   ·rw[ag nSC.symm]
    exact s3 _ _ hCn2
   ·rw[ag nSU.symm]
    exact s3 _ _ hSn2
   ·exact done.more hnd tp (by rw[he];rfl) (.inr ⟨e,u,he,rfl,by rw[ag nu];exact hu'⟩)
   ·exact done2.more hnd tp (.inl ⟨rfl,e,he⟩)
  cases hrf:ruleFor (n.table sw) hd with
  | none=>
   refine⟨_,rfl,_,rfl,?_⟩
   refine iteT ?_
   refine⟨_,rfl,by show 2≤sizeLine;decide,fun u hu'=>?_⟩
   have s3:Same H2 (upd H2 u (.tup [.int 2,.int (sw:Int)])):=ai hu'
   have nu:u≠St:=(ae hSt2 hu').symm
   refine⟨_,rfl,N,CW,dx,fs,_,rfl,s3 _ _ hN2,TW.cl,TW.n7,l4,_,rfl,St,_,rfl,DPut.t (k:=kk ⟨sw,hd⟩) (s3 _ _ hSt2) (s3 _ _ ht2) (aH (m:=1000) (by omega)),?_⟩
   exact stop (.hole sw) _ u (sO hrf) s3 ac nu
  | some i=>
   obtain⟨r,hri,hrm⟩:=Mw.eg hrf
   have lqs:=Paired.length hq2
   have hi:i < (n.table sw).length:=(List.getElem?_eq_some_iff.mp hri).1
   obtain⟨q,hqi⟩:∃ q,qs[i]?=some q:=⟨qs[i]'(by omega),getElem?_eq_getElem (by omega)⟩
   obtain⟨r',hr1',hra⟩:=aC hq2 hqi
   rw[hri] at hr1'
   cases hr1'
   have hra2:bV CR H2 q r:=hra.same fun b o e ho=>s2 _ _ e (notC b o e (kinds (.inr ho)))
   refine⟨_,rfl,_,rfl,?_⟩
   refine iteF ?_
   refine⟨_,rfl,N,CW,dx,fs,_,rfl,hN2,TW.cl,TW.n4,l1,_,rfl,tl,_,_,_,rfl,rfl,SqL.of hl12,ax (j:=sw) (by rw[getElem?_map,hl2];rfl),_,rfl,l,_,_,_,rfl,rfl,SqL.of hq12,ax (j:=i) (by rw[getElem?_map,hqi];rfl),?_⟩
   obtain⟨dq,pq,cq,hp1,hact⟩:=id hra2
   cases ha:r.action with
   | drop=>
    rw[ha] at hact
    refine⟨_,rfl,q,CR,dq,_,_,rfl,hact,TR.cl,TR.n2,rfl,_,rfl,?_⟩
    refine iteT ?_
    refine⟨_,rfl,_,rfl,by show 3≤sizeLine;decide,fun u hu'=>?_⟩
    have s3:Same H2 (upd H2 u (.tup [.int 1,.int (sw:Int),.int (i:Int)])):=ai hu'
    have nu:u≠St:=(ae hSt2 hu').symm
    refine⟨_,rfl,N,CW,dx,fs,_,rfl,s3 _ _ hN2,TW.cl,TW.n7,l4,_,rfl,St,_,rfl,DPut.t (k:=kk ⟨sw,hd⟩) (s3 _ _ hSt2) (s3 _ _ ht2) (aH (m:=1000) (by omega)),?_⟩
    exact stop (.dropped sw i) _ u (sQ hrf hri ha) s3 ac nu
   | send rw' pt=>
    rw[ha] at hact
    obtain⟨hins,hrw⟩:=hact
    have wf:=W.send _ (Mw.gH hsw) r (mem_of_getElem? hri) rw' pt ha
    refine⟨_,rfl,q,CR,dq,_,_,rfl,hins,TR.cl,TR.n2,rfl,_,rfl,?_⟩
    refine iteF ?_
    refine⟨_,rfl,_,rfl,q,CR,dq,_,_,rfl,hins,TR.cl,TR.n3,rfl,hd,rw'.mask,rw'.bits,cq,rfl,SqT.of hrw,wf.1,?_⟩
    refine⟨_,rfl,_,rfl,q,CR,dq,_,_,rfl,hins,TR.cl,TR.n4,rfl,by show 2≤sizeLine;decide,fun z hz=>?_⟩
    have s3:Same H2 (upd H2 z (.tup [.int (sw:Int),.int (pt:Int)])):=ai hz
    have hz3:upd H2 z (.tup [.int (sw:Int),.int (pt:Int)]) z=some (.tup [.int (sw:Int),.int (pt:Int)]):=ac
    generalize upd H2 z (.tup [.int (sw:Int),.int (pt:Int)])=H3 at s3 hz3
    refine⟨_,rfl,N,CW,dx,fs,_,rfl,s3 _ _ hN2,TW.cl,TW.n5,l2,fr,rfl,.inr ⟨kf,.inl (s3 _ _ hfr2)⟩,_,rfl,?_⟩
    refine⟨_,DGet.t (k:=pk ⟨sw,pt⟩) (s3 _ _ hfr2) hz3,?_⟩
    have fq:=far2 ⟨sw,pt⟩
    cases hl:ck n.links ⟨sw,pt⟩ with
    | none=>
     rw[hl] at fq
     have fq:valV kf (pk ⟨sw,pt⟩)=none:=fq
     rw[fq]
     refine⟨_,rfl,_,rfl,?_⟩
     refine iteT ?_
     refine⟨_,rfl,_,rfl,q,CR,dq,_,_,rfl,s3 _ _ hins,TR.cl,TR.n4,rfl,_,rfl,by show 4≤sizeLine;decide,fun u hu'=>?_⟩
     have s4:=s3.trans (ai (o:=.tup [.int 0,.int (sw:Int),.int (pt:Int),.int (rewritten rw' hd:Nat)]) hu')
     have nu:u≠St:=(ae (s3 _ _ hSt2) hu').symm
     refine⟨_,rfl,N,CW,dx,fs,_,rfl,s4 _ _ hN2,TW.cl,TW.n7,l4,_,rfl,St,_,rfl,DPut.t (k:=kk ⟨sw,hd⟩) (s4 _ _ hSt2) (s4 _ _ ht2) (aH (m:=1000) (by omega)),?_⟩
     exact stop (.exit ⟨sw,pt⟩ (rewritten rw' hd)) _ u (sP hrf hri ha hl) s4 ac nu
    | some far=>
     rw[hl] at fq
     obtain⟨fq',fq1,fq2⟩:=fq
     rw[fq1]
     refine⟨_,rfl,_,rfl,?_⟩
     refine iteF ?_
     refine⟨_,rfl,fq',_,_,_,rfl,rfl,SqT.of (s3 _ _ fq2),ax (j:=0) rfl,_,rfl,by show 2≤sizeLine;decide,fun u hu'=>?_⟩
     have s4:=s3.trans (ai (o:=.tup [.int (far.switch:Int),.int (rewritten rw' hd:Nat)]) hu')
     have nu:u≠O:=(ae (s3 _ _ hO2) hu').symm
     have nu2:u≠Sn:=(ae (s3 _ _ hSn2) hu').symm
     have lp:(putK ko (kk ⟨sw,hd⟩) V.non).length≤ko.length+1:=aX _ _ _
     refine⟨_,rfl,N,CW,dx,fs,_,rfl,s4 _ _ hN2,TW.cl,TW.n6,l3,_,rfl,O,_,rfl,DPut.t (k:=kk ⟨sw,hd⟩) (s4 _ _ hO2) (s4 _ _ ht2) (aH (m:=1000) (by omega)),?_⟩
     rw[qa hno]
     have hu4:upd H3 u (.tup [.int (far.switch:Int),.int (rewritten rw' hd:Nat)]) u=some (.tup [.int (far.switch:Int),.int (rewritten rw' hd:Nat)]):=ac
     have hz4:=ai (o:=.tup [.int (far.switch:Int),.int (rewritten rw' hd:Nat)]) hu' _ _ hz3
     generalize upd H3 u (.tup [.int (far.switch:Int),.int (rewritten rw' hd:Nat)])=H4 at s4 hu4 hz4
     have k5:∀ b o,H4 b=some o→b≠O→upd H4 O (.dT (putK ko (kk ⟨sw,hd⟩) (.ref u))) b=some o:=fun b o e nb=>by
      rw[ag nb]
      exact e
     have nzO:z≠O:=aP hz4 (s4 _ _ hO2) (by intro z;cases z)
     have nzU:z≠Sn:=aP hz4 (s4 _ _ hSn2) (by intro z;cases z)
     refine⟨_,rfl,_,rfl,N,CW,dx,fs,_,rfl,k5 _ _ (s4 _ _ hN2) nNO,TW.cl,TW.n11,l6,_,rfl,Sn,_,rfl,DPut.t (k:=kk ⟨sw,hd⟩) (k5 _ _ (s4 _ _ hSn2) nOU.symm) (k5 _ _ (s4 _ _ ht2) nTO) (aH (m:=1000) (by omega)),?_⟩
     have he:=sN hrf hri ha hl
     have tp:∀ b xs,H b=some (.tup xs)→upd (upd H4 O (.dT (putK ko (kk ⟨sw,hd⟩) (.ref u)))) Sn (.dT (putK ku (kk ⟨sw,hd⟩) (.ref z))) b=some (.tup xs):=fun b xs e=>by
      obtain⟨n1,_,_,n4⟩:=notD b _ e (fun kvs z=>by cases z)
      rw[ag n4]
      exact k5 _ _ (s4 _ _ (tups2 _ _ e)) n1
     refine k _ (putK ko (kk ⟨sw,hd⟩) (.ref u)) ks (putK kc (kk ⟨sw,hd⟩) (numV (ruleFor (n.table sw) hd))) (putK ku (kk ⟨sw,hd⟩) (.ref z)) (fun b o hb n1 n2 n3 n4=>?_) ?_ ?_ ?_ ac ?_ ?_
     ·rw[ag n4]
      exact k5 _ _ (s4 _ _ (k2 _ _ hb n1 n3)) n1
     ·rw[ag nOU,ac]
     ·rw[ag nSU]
      exact k5 _ _ (s4 _ _ hSt2) nSO
     ·rw[ag nCU]
      exact k5 _ _ (s4 _ _ hCn2) nOC.symm
     ·refine done.more hnd tp ?_ (.inl ⟨rfl,_,he⟩)
      rw[he]
      refine⟨u,rfl,?_⟩
      show upd _ Sn _ u=_
      rw[ag nu2]
      exact k5 _ _ hu4 nu
     ·have e0:=done2.more (ku':=putK ku (kk ⟨sw,hd⟩) (.ref z)) hnd tp (.inr ⟨⟨sw,pt⟩,z,wK hrf hri ha,rfl,by show upd _ Sn _ z=_;rw[ag nzU];exact k5 _ _ hz4 nzO⟩)
      exact e0
end
section
variable{P:Program}{w:World}{K:Frag}{mg:Str→Option Value}{base:Heap}{CN CE CR CW:Addr}{tP tM:Tok}
def cW(t m:Nat):List Packet:=(List.range m).map fun h=>⟨t,h⟩
theorem ic{t m:Nat}{x:Packet}:x∈cW t m↔x.switch=t∧x.header < m:=by
 unfold cW
 rw[mem_map]
 constructor
 ·rintro⟨h,hh,rfl⟩
  exact⟨rfl,mem_range.mp hh⟩
 ·rintro⟨h1,h2⟩
  exact⟨x.header,mem_range.mpr h2,by cases x;cases h1;rfl⟩
theorem qd(t m:Nat):cW t (m+1)=cW t m++[⟨t,m⟩]:=by
 unfold cW
 rw[List.range_succ,map_append]
 rfl
def dD(m i:Nat):List Packet:=(List.range i).flatMap fun s=>cW s m
theorem jN(m i:Nat):dD m (i+1)=dD m i++cW i m:=by
 unfold dD
 rw[List.range_succ,flatMap_append]
 simp
theorem lO{m i:Nat}{x:Packet}:x∈dD m i↔x.switch < i∧x.header < m:=by
 unfold dD
 rw[mem_flatMap]
 constructor
 ·rintro⟨s,hs,h⟩
  obtain⟨h1,h2⟩:=ic.mp h
  rw[h1]
  exact⟨mem_range.mp hs,h2⟩
 ·rintro⟨h1,h2⟩
  exact⟨x.switch,mem_range.mpr h1,ic.mpr ⟨rfl,h2⟩⟩
theorem lK(m i:Nat):(dD m i).length=i*m:=by
 induction i with
 | zero=>simp[dD]
 | succ i ih=>
  rw[jN,length_append,ih]
  simp[cW,Nat.succ_mul]
theorem jw:al ["self","numbers","width","tables","links","switch","header"] ["self","numbers","width","tables","links"] (aj om):=⟨rfl,rfl,rfl,by decide +kernel,rfl,by decide +kernel,by decide +kernel⟩
theorem qo(TW:TxtW K mg CW)(TR:TxtR K mg CR)(B:TxtB mg)(C:TxtC mg)(TM:TxtF K mg "matches" bF ["header","pattern"])(TX:TxtF K mg "rewritten" cU ["header","rewrite"])(TC:TxtF K mg "rule_that_counts" gb ["table","header"])
  (TF:TxtF K mg "far_ports" sFar ["links"]) (TS:TxtF K mg "first_settled" cE ["onward","settled","otherwise"]):dZ P w K mg base CX0 4 CW ["self","numbers","width","tables","links"] (gK CR CW):=by
 refine TW.init.def0 jw (fun vs H Q E h=>?_) (fun f cdv A outer s H vs Q E hr h=>?_)
 ·obtain⟨p,dx,a,tl,lk,n,ts,rfl,_⟩:=h
  rfl
 ·obtain⟨p,dx,a,tl,lk,n,ts,rfl,hp,ha,htab,hlk,hla,W,hfl,k⟩:=h
  have nd:=jw.nd
  have hr1:Room 1 _:=hr.mono (by decide)
  have DS:aF P w K mg base CX0 3 CW "take_step" ["self","switch","header"] (ur CR CW):=wZ TW TR B C TM TX TC
  have DF:aq P w K mg base CX0 1 "far_ports" ["links"] spFar:=ok_far TF
  have DT:aq P w K mg base CX0 1 "first_settled" ["onward","settled","otherwise"] gJ:=jT TS
  refine⟨_,ad (bO (pv 0) (pv 1) rfl)
   (ad (bO (pv 0) (pv 2) rfl)
   (ad (bO (pv 0) (bG vm ak (pv 2)) rfl)
   (ad (bO (pv 0) (pv 3) rfl)
   (ad (bO (pv 0) (pv 4) rfl)
   (ad (bO (pv 0) (az DF hr1 rfl aA (aa (pv 4) af)) rfl)
   (ad (bO (pv 0) bH rfl)
   (ad (bO (pv 0) bH rfl)
   (ad (bO (pv 0) bH rfl)
   (ad (bO (pv 0) bH rfl)
   (ad (bx PassesOwn.never rfl (bJ rfl B.range (aa (aM aG rfl B.len PySem.boot_len (aa (pv 3) af)) af)) (ay (i:=5) nd rfl (Or.inl rfl))
    (ah (bx PassesOwn.never rfl (bJ rfl B.range (aa (aD (pv 0) rfl) af)) (ay (i:=6) nd rfl (Or.inl rfl))
     (ah (b9 (aJ (pv 0) TW.cl DS hr aA (aa (pv 5) (aa (pv 6) af))))))))
   (ah (bO (pv 0) (az DT hr1 rfl aA (aa (aD (pv 0) rfl) (aa (aD (pv 0) rfl) (aa (aU (aa (pe_c C.round rfl) af)) af)))) rfl)))))))))))),?_⟩
  have w7:=W.w7
  have e2:(1:Int)*2 ^ ((n.wide:Int).toNat)=((2 ^ n.wide:Nat):Int):=by
   rw[Int.toNat_natCast]
   simp
  refine⟨_,rfl,_,rfl,p,CW,dx,[],rfl,hp,TW.cl,TW.n1,by show 0 < 1000;decide,?_⟩
  refine⟨_,rfl,_,rfl,p,CW,dx,_,rfl,ac,TW.cl,TW.n2,by show 1 < 1000;decide,?_⟩
  refine⟨_,rfl,_,_,rfl,rfl,⟨by omega,by omega,by decide⟩,_,rfl,p,CW,dx,_,rfl,ac,TW.cl,TW.n3,by show 2 < 1000;decide,?_⟩
  dsimp only
  rw[e2]
  refine⟨_,rfl,_,rfl,p,CW,dx,_,rfl,ac,TW.cl,TW.n4,by show 3 < 1000;decide,?_⟩
  refine⟨_,rfl,_,rfl,p,CW,dx,_,rfl,ac,TW.cl,TW.n9,by show 4 < 1000;decide,?_⟩
  generalize hH4:upd (upd (upd (upd (upd H p _) p _) p _) p _) p _=H4
  have k4:aI p H H4:=fun b o e nb=>by
   rw[←hH4,ag nb,ag nb,ag nb,ag nb,ag nb]
   exact e
  have hp4:H4 p=some (.ins CW dx [("numbers",.ref a),("width",.int (n.wide:Int)),("size",.int ((2 ^ n.wide:Nat):Int)),("tables",.ref tl),("links",.ref lk)]):=by
   rw[←hH4,ac]
   rfl
  have nl:∀ {b:Addr} {o:HO},H b=some o→(∀ d f,o≠.ins CW d f)→b≠p:=fun {b o} e ho z=>by
   rw[z,hp] at e
   cases e
   exact ho _ _ rfl
  have kinds:∀ {o:HO},((∃ xs,o=.lst xs)∨(∃ xs,o=.tup xs)∨∃ dx a b c d,o=.ins CR dx (cK a b c d))→∀ d,o≠.ins CW d []:=fun ho d z=>by
   rcases ho with⟨_,rfl⟩ | ⟨_,rfl⟩ | ⟨_,_,_,_,_,rfl⟩<;>cases z
  have nk:∀ {b:Addr} {o:HO},H b=some o→((∃ xs,o=.lst xs)∨(∃ xs,o=.tup xs)∨∃ dx a b c d,o=.ins CR dx (cK a b c d))→b≠p:=fun {b o} e ho z=>by
   rw[z,hp] at e
   cases e
   exact kinds ho _ rfl
  have hlk4:=k4 _ _ hlk (nk hlk (.inl ⟨_,rfl⟩))
  have hla4:fC H4 ts n.links:=Paired.mapP hla fun t x h=>h.same fun b xs e=>k4 _ _ e (nk e (.inr (.inl ⟨_,rfl⟩)))
  refine⟨_,rfl,lk,ts,n.links,rfl,hlk4,hla4,(iq _).mp W.apart,W.l10,fun H5 F kf s5 hF0 hF5 far5=>?_⟩
  refine⟨_,rfl,p,CW,dx,_,rfl,s5 _ _ hp4,TW.cl,TW.n5,by show 5 < 1000;decide,?_⟩
  generalize hH6:upd H5 p _=H6
  have hp6:H6 p=some (.ins CW dx [("numbers",.ref a),("width",.int (n.wide:Int)),("size",.int ((2 ^ n.wide:Nat):Int)),("tables",.ref tl),("links",.ref lk),("far",.ref F)]):=by
   rw[←hH6,ac]
   rfl
  have k6:aI p H5 H6:=fun b o e nb=>by
   rw[←hH6,ag nb]
   exact e
  intro Cn hCn
  have nCp:p≠Cn:=ae hp6 hCn
  refine⟨_,rfl,p,CW,dx,_,rfl,(by rw[ag nCp];exact hp6),TW.cl,TW.n10,(by show 6 < 1000;decide),?_⟩
  generalize hG1:upd (upd H6 Cn (.dT [])) p _=G1
  have hpG1:G1 p=some (.ins CW dx [("numbers",.ref a),("width",.int (n.wide:Int)),("size",.int ((2 ^ n.wide:Nat):Int)),("tables",.ref tl),("links",.ref lk),("far",.ref F),("counting",.ref Cn)]):=by
   rw[←hG1,ac]
   rfl
  have kG1:aI p H6 G1:=fun b o e nb=>by
   rw[←hG1,ag nb]
   exact ai hCn _ _ e
  have hCn1:G1 Cn=some (.dT []):=by rw[←hG1,ag nCp.symm,ac]
  intro O hO
  have nOp:p≠O:=ae hpG1 hO
  have nOC:O≠Cn:=(ae hCn1 hO).symm
  refine⟨_,rfl,p,CW,dx,_,rfl,(by rw[ag nOp];exact hpG1),TW.cl,TW.n6,(by show 7 < 1000;decide),?_⟩
  generalize hG2:upd (upd G1 O (.dT [])) p _=G2
  have hpG2:G2 p=some (.ins CW dx [("numbers",.ref a),("width",.int (n.wide:Int)),("size",.int ((2 ^ n.wide:Nat):Int)),("tables",.ref tl),("links",.ref lk),("far",.ref F),("counting",.ref Cn),("onward",.ref O)]):=by
   rw[←hG2,ac]
   rfl
  have kG2:aI p G1 G2:=fun b o e nb=>by
   rw[←hG2,ag nb]
   exact ai hO _ _ e
  have hO2:G2 O=some (.dT []):=by rw[←hG2,ag nOp.symm,ac]
  have hCn2:=kG2 _ _ hCn1 nCp.symm
  intro Sn hSn
  have nUp:p≠Sn:=ae hpG2 hSn
  have nOU:O≠Sn:=ae hO2 hSn
  have nCU:Cn≠Sn:=ae hCn2 hSn
  refine⟨_,rfl,p,CW,dx,_,rfl,(by rw[ag nUp];exact hpG2),TW.cl,TW.n11,(by show 8 < 1000;decide),?_⟩
  generalize hG3:upd (upd G2 Sn (.dT [])) p _=G3
  have hpG3:G3 p=some (.ins CW dx [("numbers",.ref a),("width",.int (n.wide:Int)),("size",.int ((2 ^ n.wide:Nat):Int)),("tables",.ref tl),("links",.ref lk),("far",.ref F),("counting",.ref Cn),("onward",.ref O),("sent_by",.ref Sn)]):=by
   rw[←hG3,ac]
   rfl
  have kG3:aI p G2 G3:=fun b o e nb=>by
   rw[←hG3,ag nb]
   exact ai hSn _ _ e
  have hSn3:G3 Sn=some (.dT []):=by rw[←hG3,ag nUp.symm,ac]
  have hO3:=kG3 _ _ hO2 nOp.symm
  have hCn3:=kG3 _ _ hCn2 nCp.symm
  intro St hSt
  have nSp:p≠St:=ae hpG3 hSt
  have nOS:O≠St:=ae hO3 hSt
  have nSC:St≠Cn:=(ae hCn3 hSt).symm
  have nSU:St≠Sn:=(ae hSn3 hSt).symm
  refine⟨_,rfl,p,CW,dx,_,rfl,(by rw[ag nSp];exact hpG3),TW.cl,TW.n7,(by show 9 < 1000;decide),?_⟩
  generalize hH8:upd (upd G3 St (.dT [])) p _=H8
  obtain⟨fs,hfs⟩:∃ fs:List (Str × V),fs=([("numbers",.ref a),("width",.int (n.wide:Int)),("size",.int ((2 ^ n.wide:Nat):Int)),("tables",.ref tl),("links",.ref lk),("far",.ref F),("counting",.ref Cn),("onward",.ref O),("sent_by",.ref Sn),("stops",.ref St)]:List (Str × V)):=⟨_,rfl⟩
  have hp8:H8 p=some (.ins CW dx fs):=by
   rw[←hH8,ac,hfs]
   rfl
  have k8:aI p G3 H8:=fun b o e nb=>by
   rw[←hH8,ag nb]
   exact ai hSt _ _ e
  have hSt8:H8 St=some (.dT []):=by rw[←hH8,ag nSp.symm,ac]
  have hO8:H8 O=some (.dT []):=k8 _ _ hO3 nOp.symm
  have hCn8:H8 Cn=some (.dT []):=k8 _ _ hCn3 nCp.symm
  have hSn8:H8 Sn=some (.dT []):=k8 _ _ hSn3 nUp.symm
  have nFp:F≠p:=(ae hp4 hF0).symm
  have f6:=k6 _ _ hF5 nFp
  have fG1:=kG1 _ _ f6 nFp
  have fG2:=kG2 _ _ fG1 nFp
  have fG3:=kG3 _ _ fG2 nFp
  have hF8:H8 F=some (.dT kf):=k8 _ _ fG3 nFp
  have nFC:F≠Cn:=ae f6 hCn
  have nFO:F≠O:=ae fG1 hO
  have nFU:F≠Sn:=ae fG2 hSn
  have nFS:F≠St:=ae fG3 hSt
  have k53:aI p H5 G3:=((k6.trans kG1).trans kG2).trans kG3
  have k58:aI p H5 H8:=k53.trans k8
  have k08:aI p H H8:=(k4.trans s5.keepBut).trans k58
  have new4:∀ b o,H b=some o→b≠p→b≠O∧b≠St∧b≠Cn∧b≠Sn:=fun b o e nb=>by
   have e6:=k6 b o (s5 _ _ (k4 _ _ e nb)) nb
   have e7:=kG1 _ _ e6 nb
   have e8:=kG2 _ _ e7 nb
   have e9:=kG3 _ _ e8 nb
   exact⟨ae e7 hO,ae e9 hSt,ae e6 hCn,ae e8 hSn⟩
  have ntp:∀ {b:Addr} {xs:List V},H5 b=some (.tup xs)→b≠p:=fun e=>aP e (s5 _ _ hp4) (by intro z;cases z)
  have far8:fJ H8 kf n.links:=far5.same fun b xs e=>k58 _ _ e (ntp e)
  have tab8:cw CR H8 tl n.tables:=htab.same fun b o e ho=>k08 _ _ e (nk e ho)
  have us:=cr W
  have ps:=aW w7
  have t5:=W.t5
  let Base:Hp→List Packet→Prop:=fun H' D=>(∀ b o,H8 b=some o→b≠O→b≠St→b≠Cn→b≠Sn→H' b=some o)∧∃ ko ks kc ku,H' O=some (.dT ko)∧H' St=some (.dT ks)∧H' Cn=some (.dT kc)∧H' Sn=some (.dT ku)∧ir H' ko ks n D∧mj H' kc ku n D
  obtain⟨ys,hy1,hy2⟩:=tab8.len
  refine⟨_,rfl,tl,_,rfl,.inl (SqL.of hy1),_,rfl,by omega,by omega,?_⟩
  rw[Int.toNat_natCast,hy2]
  refine ft (n:=n.tables.length) (fun i σ H'=>∃ v5 v6:Option V,σ=[some (.ref p),some (.ref a),some (.int (n.wide:Int)),some (.ref tl),some (.ref lk),v5,v6]∧Base H' (dD (2 ^ n.wide) i)) ⟨none,none,rfl,fun b o e _ _ _ _=>e,[],[],[],[],hO8,hSt8,hCn8,hSn8,?_,?_⟩ ?_ ?_
  ·exact⟨(fun x hx=>by cases hx),(fun kv hkv=>by cases hkv),(fun x hx=>by cases hx),(fun kv hkv=>by cases hkv),Nat.zero_le _,Nat.zero_le _⟩
  ·exact⟨(fun x hx=>by cases hx),(fun kv hkv=>by cases hkv),Nat.zero_le _,Nat.zero_le _,⟨(fun kv hkv=>by cases hkv),(fun x hx=>by cases hx)⟩⟩
  ·rintro i σ H' hi ⟨v5,v6,rfl,kb,ko,ks,kc,ku,hOk,hSk,hCk,hUk,done,dne⟩
   have hp':=kb _ _ hp8 nOp nSp nCp nUp
   refine⟨_,rfl,p,CW,dx,fs,_,rfl,hp',TW.cl,TW.n3,by rw[hfs];rfl,_,rfl,jI,jJ ps,?_⟩
   rw[Int.toNat_natCast]
   refine ft (n:=2 ^ n.wide) (fun j σ H'=>∃ v6:Option V,σ=[some (.ref p),some (.ref a),some (.int (n.wide:Int)),some (.ref tl),some (.ref lk),some (.int (0+(i:Int))),v6]∧Base H' (dD (2 ^ n.wide) i++cW i j)) ⟨v6,rfl,kb,ko,ks,kc,ku,hOk,hSk,hCk,hUk,by simpa [cW] using done,by simpa [cW] using dne⟩ ?_ ?_
   ·rintro j σ H2 hj ⟨v6',rfl,kb2,ko2,ks2,kc2,ku2,hO2,hS2,hC2,hU2,done2,dne2⟩
    have hp2:=kb2 _ _ hp8 nOp nSp nCp nUp
    refine⟨_,rfl,p,dx,fs,rfl,hp2,by rw[hfs];rfl,_,rfl,_,rfl,?_⟩
    rw[Int.zero_add,Int.zero_add]
    have kd:∀ b o,H8 b=some o→(∀ kvs,o≠.dT kvs)→H2 b=some o:=fun b o e ho=>kb2 _ _ e (fun z=>by rw[z,hO8] at e;cases e;exact ho _ rfl) (fun z=>by rw[z,hSt8] at e;cases e;exact ho _ rfl) (fun z=>by rw[z,hCn8] at e;cases e;exact ho _ rfl) (fun z=>by rw[z,hSn8] at e;cases e;exact ho _ rfl)
    have kinds2:∀ {o:HO},((∃ xs,o=.lst xs)∨(∃ xs,o=.tup xs)∨∃ dx a b c d,o=.ins CR dx (cK a b c d))→∀ kvs,o≠.dT kvs:=fun ho kvs z=>by
     rcases ho with⟨_,rfl⟩ | ⟨_,rfl⟩ | ⟨_,_,_,_,_,rfl⟩<;>cases z
    have ld:(dD (2 ^ n.wide) i++cW i j).length≤640:=by
     rw[length_append,lK]
     have e1:(cW i j).length=j:=by simp[cW]
     have:i*2 ^ n.wide+2 ^ n.wide≤n.tables.length*2 ^ n.wide:=by
      rw[←Nat.succ_mul]
      exact Nat.mul_le_mul_right _ hi
     omega
    refine⟨p,dx,tl,F,O,St,Cn,Sn,fs,n,kf,ko2,ks2,kc2,ku2,dD (2 ^ n.wide) i++cW i j,i,j,rfl,hp2,(by rw[hfs];exact⟨rfl,rfl,rfl,rfl,rfl,rfl⟩),W,⟨hi,hj⟩,tab8.same fun b o e ho=>kd b o e (kinds2 ho),kb2 _ _ hF8 nFO nFS nFC nFU,far8.same fun b xs e=>kd b _ e (fun kvs z=>by cases z),⟨hO2,hS2,hC2,hU2⟩,⟨nOS,nOC,nOU,nSC,nSU,nCU⟩,⟨nFO,nFS,nFC,nFU⟩,done2,dne2,?_,ld,fun H3 ko' ks' kc' ku' kb3 hO3 hS3 hC3 hU3 done3 dne3=>?_⟩
    ·intro z
     rcases mem_append.mp z with z | z
     ·have:=(lO.mp z).1
      simp at this
     ·have:=(ic.mp z).2
      simp at this
    ·refine⟨_,rfl,fun b o e n1 n2 n3 n4=>kb3 _ _ (kb2 _ _ e n1 n2 n3 n4) n1 n2 n3 n4,ko',ks',kc',ku',hO3,hS3,hC3,hU3,?_⟩
     rw[qd,←append_assoc]
     exact⟨done3,dne3⟩
   ·rintro σ H2 ⟨v6',rfl,kb2,ko2,ks2,kc2,ku2,hO2,hS2,hC2,hU2,done2,dne2⟩
    refine⟨_,_,rfl,kb2,ko2,ks2,kc2,ku2,hO2,hS2,hC2,hU2,?_⟩
    rw[jN]
    exact⟨done2,dne2⟩
  ·rintro σ H9 ⟨v5,v6,rfl,kb,ko,ks,kc,ku,hO9,hS9,hC9,hU9,done,dne⟩
   have hp9:=kb _ _ hp8 nOp nSp nCp nUp
   have hall:∀ x,x∈dD (2 ^ n.wide) n.tables.length↔Mw.InU n x:=fun x=>lO
   refine⟨_,rfl,p,CW,dx,fs,_,rfl,hp9,TW.cl,TW.n6,by rw[hfs];rfl,_,rfl,p,CW,dx,fs,_,rfl,hp9,TW.cl,TW.n7,by rw[hfs];rfl,by show 1≤sizeLine;decide,fun rd hrd=>?_⟩
   have s10:Same H9 (upd H9 rd (.tup [.int 3])):=ai hrd
   have onw:fI (upd H9 rd (.tup [.int 3])) ko n:=⟨fun x hx=>by
    obtain⟨v,h1,h2⟩:=done.onw x ((hall x).mpr hx)
    exact⟨v,h1,h2.same fun b xs e=>s10 _ _ e⟩,fun kv hkv=>by
    obtain⟨x,hx,e⟩:=done.keysO kv hkv
    exact⟨x,(hall x).mp hx,e⟩⟩
   refine⟨O,St,.ref rd,ko,ks,n,fun x=>valV ks (kk x),rfl,s10 _ _ hO9,s10 _ _ hS9,nOS.symm,W,onw,fun x _=>rfl,fun H11 Ed xs s11 hE0 hE hxn hxs=>?_⟩
   have hp11:=s11 _ _ (s10 _ _ hp9)
   refine⟨_,rfl,p,CW,dx,fs,rfl,hp11,TW.cl,TW.n8,(by rw[hfs];show 10 < 1000;decide),?_⟩
   have nEp:p≠Ed:=ae (s10 _ _ hp9) hE0
   have k12:∀ b o,H11 b=some o→b≠p→upd H11 p (.ins CW dx (putF ("ends":Str) (.ref Ed) fs)) b=some o:=fun b o e nb=>by
    rw[ag nb]
    exact e
   have s911:Same H9 H11:=s10.trans s11
   have all12:∀ b o,H9 b=some o→b≠p→upd H11 p (.ins CW dx (putF ("ends":Str) (.ref Ed) fs)) b=some o:=fun b o e nb=>k12 _ _ (s911 _ _ e) nb
   have old:∀ b o,H8 b=some o→b≠O→b≠St→b≠Cn→b≠Sn→b≠p→upd H11 p (.ins CW dx (putF ("ends":Str) (.ref Ed) fs)) b=some o:=fun b o e n1 n2 n3 n4 n5=>all12 _ _ (kb _ _ e n1 n2 n3 n4) n5
   have kd:∀ b o,H8 b=some o→(∀ kvs,o≠.dT kvs)→b≠p→upd H11 p (.ins CW dx (putF ("ends":Str) (.ref Ed) fs)) b=some o:=fun b o e ho=>old _ _ e (fun z=>by rw[z,hO8] at e;cases e;exact ho _ rfl) (fun z=>by rw[z,hSt8] at e;cases e;exact ho _ rfl) (fun z=>by rw[z,hCn8] at e;cases e;exact ho _ rfl) (fun z=>by rw[z,hSn8] at e;cases e;exact ho _ rfl)
   have kinds2:∀ {o:HO},((∃ xs,o=.lst xs)∨(∃ xs,o=.tup xs)∨∃ dx a b c d,o=.ins CR dx (cK a b c d))→∀ kvs,o≠.dT kvs:=fun ho kvs z=>by
    rcases ho with⟨_,rfl⟩ | ⟨_,rfl⟩ | ⟨_,_,_,_,_,rfl⟩<;>cases z
   have tup11:∀ {b:Addr} {xs:List V},H11 b=some (.tup xs)→b≠p:=fun e=>aP e hp11 (by intro z;cases z)
   refine k _ _ ac (fun b o e nb=>?_) ?_
   ·obtain⟨n1,n2,n3,n4⟩:=new4 b o e nb
    exact old _ _ (k08 _ _ e nb) n1 n2 n3 n4 nb
   ·have tupsE:∀ b xs,H9 b=some (.tup xs)→upd H11 p (.ins CW dx (putF ("ends":Str) (.ref Ed) fs)) b=some (.tup xs):=fun b xs e=>all12 _ _ e (aP e hp9 (by intro z;cases z))
    have lall:(dD (2 ^ n.wide) n.tables.length).length≤640:=by
     rw[lK]
     exact us
    have lu:=dne.lenU
    refine⟨W,⟨a,by rw[hfs];rfl,?_⟩,hfl,by rw[hfs];rfl,by rw[hfs];rfl,⟨tl,by rw[hfs];rfl,?_⟩,⟨F,kf,by rw[hfs];rfl,old _ _ hF8 nFO nFS nFC nFU nFp,?_⟩,⟨O,ko,by rw[hfs];rfl,all12 _ _ hO9 nOp.symm,?_⟩,⟨Ed,xs,fun x=>Mw.fsW n (fun x=>valV ks (kk x)) (.ref rd) x,by rw[hfs];rfl,k12 _ _ hE nEp.symm,hxn,hxs,fun x hx=>?_⟩,
     ⟨lk,ts,by rw[hfs];rfl,?_,?_⟩,⟨Cn,kc,by rw[hfs];rfl,all12 _ _ hC9 nCp.symm,fun x hx=>dne.cnt x ((hall x).mpr hx)⟩,⟨Sn,ku,by rw[hfs];rfl,all12 _ _ hU9 nUp.symm,by omega,⟨fun kv hkv=>?_,fun x hx hok=>dne.sent.all x ((hall x).mpr hx) hok⟩⟩,by rw[hfs];exact⟨rfl,rfl,rfl⟩,by rw[hfs];exact⟨rfl,rfl,rfl,rfl,rfl⟩⟩
    ·exact kd _ _ (k08 _ _ ha (nk ha (.inl ⟨_,rfl⟩))) (kinds2 (.inl ⟨_,rfl⟩)) (nk ha (.inl ⟨_,rfl⟩))
    ·exact htab.same fun b o e ho=>kd _ _ (k08 _ _ e (nk e ho)) (kinds2 ho) (nk e ho)
    ·exact far8.same fun b xs e=>by
      have nb:b≠p:=aP e hp8 (by intro z;cases z)
      exact kd _ _ e (fun kvs z=>by cases z) nb
    ·exact(onw.same fun b xs e=>s11 _ _ e).same fun b xs e=>k12 _ _ e (tup11 e)
    ·have hst:∀ y,Mw.InU n y→((valV ks (kk y)).isSome=true↔∃ e,stepOf n y=.error e):=fun y hy=>by
      have:=done.stp y ((hall y).mpr hy)
      unfold gF at this
      cases e:stepOf n y with
      | error en=>
       rw[e] at this
       obtain⟨t,h1,_⟩:=this
       rw[h1]
       exact⟨fun _=>⟨en,rfl⟩,fun _=>rfl⟩
      | ok z=>
       rw[e] at this
       have this:valV ks (kk y)=none:=this
       rw[this]
       exact⟨(fun z=>by cases z),(fun⟨_,z⟩=>by cases z)⟩
     rcases Ms.xu W hst (ov:=V.ref rd) hx with⟨z1,z2⟩ | ⟨y,v,z1,z2,z3,z4⟩
     ·refine⟨rd,z2,?_⟩
      rw[z1]
      exact k12 _ _ (s11 _ _ ac) (tup11 (s11 _ _ ac))
     ·have:=done.stp y ((hall y).mpr z1)
      unfold gF at this
      rw[z2] at this
      obtain⟨t,h1,h2⟩:=this
      rw[z3] at h1
      cases h1
      refine⟨t,z4,?_⟩
      have h11:=s911 _ _ h2
      exact k12 _ _ h11 (tup11 h11)
    ·exact kd _ _ (k08 _ _ hlk (nk hlk (.inl ⟨_,rfl⟩))) (kinds2 (.inl ⟨_,rfl⟩)) (nk hlk (.inl ⟨_,rfl⟩))
    ·exact Paired.mapP hla fun t x h=>h.same fun b xs e=>kd _ _ (k08 _ _ e (nk e (.inr (.inl ⟨_,rfl⟩)))) (fun kvs z=>by cases z) (nk e (.inr (.inl ⟨_,rfl⟩)))
    ·obtain⟨x,q,t,h1,h2,h3,h4⟩:=dne.sent.each kv hkv
     exact⟨x,q,t,(hall x).mp h1,h2,h3,tupsE _ _ h4⟩
end
section
variable{P:Program}{w:World}{K:Frag}{mg:Str→Option Value}{base:Heap}{CR CW:Addr}
def ik(k:List Int):List Key:=k.map Sum.inl
theorem m6:∀ {a b:List Int},ik a=ik b→a=b
 | [],[],_=>rfl
 | [],_::_,h=>by cases h
 | _::_,[],h=>by cases h
 | x::a,y::b,h=>by
  unfold ik at h
  rw[map_cons,map_cons] at h
  injection h with h1 h2
  injection h1 with h1
  rw[h1,m6 (a:=a) (b:=b) h2]
structure fH(kvs:List (List Key × V))(L ks:List (List Int)):Prop where
 keys:kvs.map (·.1)=ks.map ik
 nd:ks.Nodup
 mem:∀ k,k∈ks↔k∈L
 val:∀ k∈ks,valV kvs (ik k)=some (.int (L.count k:Nat))
theorem fH.non{kvs:List (List Key × V)}{L ks:List (List Int)}(t:fH kvs L ks){k:List Int}(h:k ∉ ks):valV kvs (ik k)=none:=by
 cases e:valV kvs (ik k) with
 | none=>rfl
 | some v=>
  have:=i7 e
  rw[t.keys] at this
  obtain⟨k',hk,e'⟩:=mem_map.mp this
  exact(h (m6 e' ▸ hk)).elim
theorem fH.get{kvs:List (List Key × V)}{L ks:List (List Int)}(t:fH kvs L ks)(k:List Int):(valV kvs (ik k)).getD (.int 0)=.int (L.count k:Nat):=by
 by_cases h:k∈ks
 ·rw[t.val k h]
  rfl
 ·rw[t.non h,List.count_eq_zero_of_not_mem (fun z=>h ((t.mem k).mpr z))]
  rfl
theorem sW{kvs:List (List Key × V)}{k:List Key}{v u:V}(h:valV kvs k=some u):(putK kvs k v).map (·.1)=kvs.map (·.1):=by
 unfold putK
 rw[cB,h,if_pos (show(some u).isSome=true from rfl),map_map]
 apply map_congr_left
 intro kv _
 show(if kv.1=k then(kv.1,v) else kv).1=kv.1
 split<;>rfl
theorem fH.put{kvs:List (List Key × V)}{L ks:List (List Int)}(t:fH kvs L ks)(k:List Int):∃ ks',fH (putK kvs (ik k) (.int ((L.count k:Nat)+1:Int))) (L++[k]) ks':=by
 have cnt:∀ j,(L++[k]).count j=L.count j+if j=k then 1 else 0:=fun j=>by
  rw[List.count_append,List.count_singleton]
  by_cases e:j=k
  ·simp[e]
  ·have:(k == j)=false:=by simpa using fun z=>e z.symm
   simp[e,this]
 by_cases h:k∈ks
 ·refine⟨ks,by rw[sW (t.val k h)];exact t.keys,t.nd,fun j=>?_,fun j hj=>?_⟩
  ·rw[t.mem,mem_append,List.mem_singleton]
   constructor
   ·exact .inl
   ·rintro(z | z)
    ·exact z
    ·rw[z]
     exact(t.mem k).mp h
  ·rw[bh,cnt]
   by_cases e:j=k
   ·subst e
    rw[if_pos rfl,if_pos rfl]
    rfl
   ·rw[if_neg (fun z=>e (m6 z)),if_neg e,t.val j hj]
    rfl
 ·have hn:=t.non h
  refine⟨ks++[k],?_,?_,fun j=>?_,fun j hj=>?_⟩
  ·rw[b7 _ hn,map_append,map_append,t.keys]
   rfl
  ·exact nodup_append.mpr ⟨t.nd,by simp,fun a ha b hb e=>by simp at hb;subst hb;subst e;exact h ha⟩
  ·rw[mem_append,mem_append,t.mem]
  ·rw[bh,cnt]
   by_cases e:j=k
   ·subst e
    rw[if_pos rfl,if_pos rfl]
    rfl
   ·rw[if_neg (fun z=>e (m6 z)),if_neg e]
    have:j∈ks:=by
     rcases mem_append.mp hj with z | z
     ·exact z
     ·exact(e (List.mem_singleton.mp z)).elim
    rw[t.val j this]
    rfl
theorem fH.few{kvs:List (List Key × V)}{L ks:List (List Int)}(t:fH kvs L ks):ks.length≤L.length:=by
 have gen:∀ (l m:List (List Int)),l.Nodup→(∀ x∈l,x∈m)→l.length≤m.length:=by
  intro l
  induction l with
  | nil=>intro m _ _;simp
  | cons a l ih=>
   intro m nd h
   obtain⟨h1,h2⟩:=List.nodup_cons.mp nd
   have ha:a∈m:=h a (by simp)
   have:=ih (m.erase a) h2 fun x hx=>(List.mem_erase_of_ne (a:=x) (b:=a) (fun e=>h1 (by rw[←e];exact hx))).mpr (h x (by simp[hx]))
   rw[List.length_erase_of_mem ha] at this
   have:0 < m.length:=List.length_pos_of_mem ha
   simp
   omega
 exact gen ks L t.nd fun x hx=>(t.mem x).mp hx
theorem ik_kV(k:List Int):(ik k).map kV=k.map V.int:=rT k
theorem e3_len(e:End_):(Ms.e3 e).length≤3:=by
 unfold Ms.e3
 rw[length_take]
 omega
theorem e3_ne(e:End_):Ms.e3 e≠[]:=by
 cases e<;>(intro z;cases z)
def rZ(n:Net)(s:Nat):List Int:=let l:=Vapktc.endsOf n s;int l.length::l.flatMap fun x=>(match x.1 with
  | .exit p _=>[0,int p.switch,int p.port]
  | e=>flatEnd e)++[int x.2]
def uV(n:Net)(ns ans:List Int):Prop:=∃ s:Nat,ns=[(s:Int)]∧s < n.tables.length∧ans=rZ n s
theorem og:al ["network","numbers","counts","end","told","answer"] ["network","numbers"] (aj pX):=⟨rfl,rfl,rfl,by decide +kernel,rfl,by decide +kernel,by decide +kernel⟩
theorem kz{β:Type}{g:β→List Int}{m:Nat}:∀ l:List β,(∀ y∈l,(g y).length≤m)→(l.flatMap g).length≤m*l.length
 | [],_=>by simp
 | y::l,h=>by
  rw[List.flatMap_cons,length_append,length_cons,Nat.mul_succ]
  have h1:=h y (by simp)
  have h2:=kz l fun z hz=>h z (by simp[hz])
  omega
theorem vE(TW:TxtW K mg CW)(B:TxtB mg)(TN:TxtF K mg "without_header" eZ ["end"])(T:TxtF K mg "answer_ends" pX ["network","numbers"]):aq P w K mg base CX0 2 "answer_ends" ["network","numbers"] (spA CR CW uV):=by
 refine T.def0 og bL (fun f cdv A outer s H vs Q E hr h=>?_)
 obtain⟨p,a,n,ns,ans,rfl,hN,ha,⟨sw,rfl,hsw,rfl⟩,k⟩:=h
 have nd:=og.nd
 have hu:=dr hr
 have DN:aq P w K mg base CX0 1 "without_header" ["end"] dA:=ia TN
 have DE:aF P w K mg base CX0 1 CW "ends_from" ["self","switch"] (cu CR CW):=cI TW B
 refine⟨_,ad (ao (i:=2) nd rfl (Or.inl rfl) bH)
  (ad (bx PassesOwn.never rfl (be (aJ (pv 0) TW.cl DE hr aA (aa (aE aB (pv 1) ak (fun _ _=>rfl)) af))) (ay (i:=3) nd rfl (Or.inl rfl))
   (ad (ao (i:=4) nd rfl (Or.inl rfl) (az DN hr rfl aA (aa (pv 3) af)))
   (ah (bu hu (pv 2) (pv 4) (bG cX (vg hu (pv 2) (pv 4) ak ⟨rfl,rfl,rfl,rfl⟩) ak) rfl))))
  (ad (ao (i:=5) nd rfl (Or.inl rfl) (bz (aa (aM ua rfl B.len PySem.boot_len (aa (pv 2) af)) af)))
  (ad (bx PassesOwn.never rfl (be (aM (qP rfl) rfl B.sorted rfl (aa (pv 2) af))) (ay (i:=4) nd rfl (Or.inl rfl))
   (ad (b9 (eu PySem.F.plainAttrs_list PySem.F.slot_list_extend PySem.F.type_list_extend mU (pv 5) (aa (pv 4) af)))
   (ah (b9 (eu PySem.F.plainAttrs_list PySem.F.slot_list_append PySem.F.type_list_append fh (pv 5) (aa (bC hu (pv 2) (pv 4) (fun _ _=>rfl)) af))))))
  (ah (au (pv 5)))))),?_⟩
 intro d hd
 have s0:Same H (upd H d (.dT [])):=ai hd
 have hN0:=hN.same s0
 obtain⟨dx,fs,hp,hn⟩:=id hN0
 have W:=hn.wf
 have p7:=aW W.w7
 refine⟨_,rfl,p,dx,fs,rfl,hp,hn.noM.2.2.2.2,_,rfl,a,_,_,_,rfl,rfl,SqL.of (s0 _ _ ha),ax (j:=0) rfl,p,n,sw,rfl,hN0,hsw,fun H1 l ts s1 hl1 hl2 hts=>?_⟩
 have lts:=gt hts
 have ndl:d≠l:=ae ac hl1
 have tk:∀ i,((Ms.bB n sw).take i).length≤128:=fun i=>by
  rw[length_take,Ms.bB,length_map,List.length_range]
  omega
 refine⟨l,rfl,⟨_,SqL.of hl2⟩,bP (K:=K) (a:=l) (xs:=ts.map V.ref)
  (fun i σ H'=>∃ v3 v4:Option V,σ=[some (.ref p),some (.ref a),some (.ref d),v3,v4,none]∧da d H1 H'∧∃ kvs ks,H' d=some (.dT kvs)∧fH kvs ((Ms.bB n sw).take i) ks)
  ⟨none,none,rfl,fun b o _ e=>e,[],[],s1 _ _ ac,rfl,nodup_nil,fun k=>by simp,fun k hk=>by cases hk⟩ (fun i σ H' _ ⟨_,_,_,sx,_⟩=>SqL.of (sx _ _ ndl.symm hl2)) ?_ ?_⟩
 ·rintro i x σ H' hx ⟨v3,v4,rfl,sx,kvs,ks,hdk,tal⟩
  rw[getElem?_map] at hx
  cases e:ts[i]? with
  | none=>
   rw[e] at hx
   cases hx
  | some u=>
   rw[e] at hx
   cases hx
   obtain⟨en,he1,he2⟩:=aC hts e
   obtain⟨hi,hen⟩:=gu he1
   have nud:u≠d:=aP he2 (s1 _ _ ac) (by intro z;cases z)
   refine⟨_,rfl,u,en,rfl,sx _ _ nud he2,fun H2 t' s2 ht'=>?_⟩
   have hsh:(Ms.bB n sw)[i]?=some (Ms.e3 en):=by
    unfold Ms.bB
    rw[getElem?_map,getElem?_range hi,hen]
    rfl
   have kt:H2 t'=some (.tup ((ik (Ms.e3 en)).map kV)):=by
    rw[ik_kV]
    exact ht'
   have hd2:=s2 _ _ hdk
   refine⟨_,rfl,d,rfl,.inr ⟨_,.inl hd2⟩,_,rfl,_,DGet.t (k:=ik (Ms.e3 en)) hd2 kt,?_⟩
   rw[tal.get]
   obtain⟨ks',tal'⟩:=tal.put (Ms.e3 en)
   have fewk:=tal.few
   have lk:kvs.length=ks.length:=by
    have:=congrArg List.length tal.keys
    rwa [length_map,length_map] at this
   refine⟨_,_,rfl,rfl,_,rfl,_,rfl,d,_,rfl,DPut.t (k:=ik (Ms.e3 en)) hd2 kt (aH (m:=1000) (by have:=tk i;omega)),?_⟩
   refine⟨_,_,rfl,fun b o nb e=>?_,_,ks',ac,?_⟩
   ·rw[ag nb]
    exact s2 _ _ (sx _ _ nb e)
   ·rw[aV hsh]
    exact tal'
 ·rintro σ H2 ⟨v3,v4,rfl,sx,kvs,ks,hdk,tal⟩
  have full:(Ms.bB n sw).take ts.length=Ms.bB n sw:=by
   apply List.take_of_length_le
   rw[Ms.bB,length_map,List.length_range,lts]
   exact Nat.le_refl _
  rw[length_map,full] at tal
  have sH:Same H H2:=fun b o hb=>sx _ _ (ae hb hd) (s1 _ _ (s0 _ _ hb))
  have lk:kvs.length=ks.length:=by
   have:=congrArg List.length tal.keys
   rwa [length_map,length_map] at this
  have fewk:ks.length≤128:=by
   have:=tal.few
   rw[Ms.bB,length_map,List.length_range] at this
   omega
  refine⟨_,rfl,d,kvs,rfl,.inl hdk,by show 1≤sizeLine;decide,fun an han=>?_⟩
  rw[lk]
  have s3:Same H2 (upd H2 an (.lst [.int (ks.length:Nat)])):=ai han
  have nda:d≠an:=ae hdk han
  refine⟨_,rfl,d,kvs,ks,rfl,.inl (s3 _ _ hdk),tal.keys,?_,fun ys l2 hperm hsort hys hl2=>?_⟩
  ·intro k' hk'
   have:=(tal.mem k').mp hk'
   obtain⟨h,_,e⟩:=mem_map.mp this
   rw[←e]
   exact e3_ne _
  ·have nal:an≠l2:=ae ac hl2
   have s4:Same (upd H2 an (.lst [.int (ks.length:Nat)])) (upd (upd H2 an (.lst [.int (ks.length:Nat)])) l2 (.lst (ys.map fun y=>V.ref y.1))):=ai hl2
   have ly:ys.length=ks.length:=by
    have:=hperm.length_eq
    rwa [length_map] at this
   refine⟨l2,rfl,⟨_,SqL.of ac⟩,bP (K:=K) (a:=l2) (xs:=ys.map fun y=>V.ref y.1)
    (fun i σ H'=>∃ v4:Option V,σ=[some (.ref p),some (.ref a),some (.ref d),v3,v4,some (.ref an)]∧da an (upd (upd H2 an (.lst [.int (ks.length:Nat)])) l2 (.lst (ys.map fun y=>V.ref y.1))) H'∧H' an=some (.lst ((int ys.length::(ys.take i).flatMap fun y=>y.2++[(((Ms.bB n sw).count y.2:Nat):Int)]).map V.int)))
    ⟨_,rfl,fun b o _ e=>e,?_⟩ (fun i σ H' _ ⟨_,_,sy,_⟩=>SqL.of (sy _ _ nal.symm ac)) ?_ ?_⟩
   ·rw[ag nal,ac,ly]
    rfl
   ·rintro i x σ H' hx ⟨v4',rfl,sy,han'⟩
    rw[getElem?_map] at hx
    cases e:ys[i]? with
    | none=>
     rw[e] at hx
     cases hx
    | some y=>
     rw[e] at hx
     cases hx
     have hymem:y∈ys:=mem_of_getElem? e
     have hy1:=s4 _ _ (hys y hymem)
     have nya:y.1≠an:=aP (s4 _ _ (hys y hymem)) (s4 _ _ ac) (by intro z;cases z)
     have hks:y.2∈ks:=hperm.mem_iff.mp (mem_map.mpr ⟨y,hymem,rfl⟩)
     have y3:∀ z∈ys,z.2.length≤3:=fun z hz=>by
      have:=(tal.mem z.2).mp (hperm.mem_iff.mp (mem_map.mpr ⟨z,hz,rfl⟩))
      obtain⟨h,_,e⟩:=mem_map.mp this
      rw[←e]
      exact e3_len _
     have sz:((int ys.length::(ys.take i).flatMap fun y=>y.2++[(((Ms.bB n sw).count y.2:Nat):Int)]).map V.int).length≤600:=by
      rw[length_map,length_cons]
      have:=kz (g:=fun y:Addr × List Int=>y.2++[(((Ms.bB n sw).count y.2:Nat):Int)]) (m:=4) (ys.take i) fun z hz=>by
       have:=y3 z (List.mem_of_mem_take hz)
       rw[length_append,length_singleton]
       omega
      have l3:(ys.take i).length≤128:=by
       rw[length_take]
       omega
      omega
     refine⟨_,rfl,.inl ⟨rfl,_,SqL.of han'⟩,_,rfl,an,y.1,_,_,rfl,rfl,han',SqT.of (sy _ _ nya hy1),?_,?_⟩
     ·rw[length_map (as:=y.2)]
      exact cD (m:=1000) (by have:=y3 y hymem;omega)
     ·have hdd:d≠an:=nda
      refine⟨_,rfl,.inl ⟨rfl,_,SqL.of ac⟩,_,rfl,_,rfl,d,.int ((Ms.bB n sw).count y.2:Nat),rfl,?_,an,_,_,rfl,rfl,ac,?_,?_⟩
      ·have:=DGet.t (k:=ik y.2) (b:=y.1) (H:=upd H' an (.lst ((int ys.length::(ys.take i).flatMap fun y=>y.2++[(((Ms.bB n sw).count y.2:Nat):Int)]).map V.int++y.2.map V.int))) (by rw[ag hdd];exact sy _ _ hdd (s4 _ _ (s3 _ _ hdk))) (by rw[ag nya,ik_kV];exact sy _ _ nya hy1)
       rw[tal.val _ hks] at this
       exact this
      ·rw[length_append]
       exact aH (m:=1000) (by have:=y3 y hymem;rw[length_map (as:=y.2)];omega)
      ·refine⟨_,rfl,fun b o nb e=>?_,?_⟩
       ·rw[ag nb,ag nb]
        exact sy _ _ nb e
       ·rw[ac,aV e,flatMap_append,List.flatMap_singleton]
        simp
   ·rintro σ H' ⟨v4',rfl,sy,han'⟩
    have sF:Same H H':=fun b o hb=>sy _ _ (ae (sH _ _ hb) han) (s4 _ _ (s3 _ _ (sH _ _ hb)))
    refine⟨_,rfl,k H' an sF (aN sH han) ?_⟩
    rw[han',length_map,take_length]
    have:=Ms.we W hsw tal.nd tal.mem hperm hsort
    have e:rZ n sw=_:=this
    rw[e,length_map,List.flatMap_map]
end
abbrev uJ:Stmt:=top 77
theorem vJ{d:Addr}{o:Obj}{kvs:List (List Key × V)}{g:TG}{tt:TT}{te:TE}{vs:List Nat}{σ:St}{H1:Hp}{D:Addr}{Qd:Hp→Prop}(Pv:Nat→Hp→Prop)(h0:Pv 0 (upd H1 D (.lst [])))(hl:∀ i H,Pv i H→H d=some (.frz o (.dT kvs)))
  (hs:∀ i k x H,kvs[i]?=some (k,x)→Pv i H→g x (wipe σ vs) H fun σ2 H2=>wipe σ2 vs=wipe σ vs∧tt σ2 H2 fun b H3=>
   if b=true then te σ2 H3 fun y H4=>∃ acc,H4 D=some (.lst acc)∧acc.length < sizeLine∧Pv (i+1) (upd H4 D (.lst (acc++[y]))) else Pv (i+1) H3) (hd:∀ H,Pv kvs.length H→Qd H) :
  ∃ W:Nat→Nat→Hp→Prop,(∃ m,W 0 m (upd H1 D (.lst [])))∧∀ i m H,W i m H→
   ((Itdt d o kvs).stop i H∧Qd H)∨((Itdt d o kvs).go i H∧∃ Nx:Hp→Prop,(∀ H',Nx H'→∃ m',m' < m∧W (i+1) m' H')∧∀ x H',(Itdt d o kvs).yld i H x H'→g x (wipe σ vs) H' fun σ2 H2=>wipe σ2 vs=wipe σ vs∧tt σ2 H2 fun b H3=>
    if b=true then te σ2 H3 fun y H4=>∃ acc,H4 D=some (.lst acc)∧acc.length < sizeLine∧Nx (upd H4 D (.lst (acc++[y]))) else Nx H3):=by
 refine⟨fun i m H=>m=kvs.length - i∧i≤kvs.length∧Pv i H,⟨kvs.length,by simp,Nat.zero_le _,h0⟩,?_⟩
 rintro i m H ⟨rfl,hi,p⟩
 by_cases q:i < kvs.length
 ·refine .inr ⟨⟨hl i H p,q⟩,Pv (i+1),fun H' p'=>⟨kvs.length - (i+1),by omega,rfl,q,p'⟩,?_⟩
  rintro x H' ⟨rfl,k,hk⟩
  exact hs i k x _ hk p
 ·have e:i=kvs.length:=by omega
  subst e
  exact .inl ⟨⟨hl _ H p,Nat.le_refl _⟩,hd H p⟩
section
variable{P:Program}{w:World}{K:Frag}{mg:Str→Option Value}{base:Heap}{CR CW:Addr}
def mS(n:Net):List Int:=[int n.tables.length,int n.wide,int ((Vapktc.packets n).filter fun x=>Vapktc.kindOf (endOf n x) == 0).length]
def uv(CR CW:Addr):Sp:=fun vs H Q _=>(vs=[.non]∧∀ l,H l=none→Q (.ref l) (upd H l (.lst [.int (-1)])))∨∃ (p:Addr) (n:Net),vs=[.ref p]∧bI CR CW H p n∧
 ∀ (H':Hp) (l:Addr),Same H H'→H l=none→H' l=some (.lst ((mS n).map V.int))→Q (.ref l) H'
theorem rE:al ["network","at_exits","end"] ["network"] (aj uJ):=⟨rfl,rfl,rfl,by decide +kernel,rfl,by decide +kernel,by decide +kernel⟩
theorem xf(TW:TxtW K mg CW)(B:TxtB mg)(C:TxtC mg)(hT:IsC mg "NOT_TOLD" (-1))(T:TxtF K mg "answer_net" uJ ["network"]):aq P w K mg base CX0 1 "answer_net" ["network"] (uv CR CW):=by
 refine T.def0 rE (fun vs H Q E h=>?_) (fun f cdv A outer s H vs Q E hr h=>?_)
 ·rcases h with⟨rfl,_⟩ | ⟨p,n,rfl,_⟩<;>rfl
 ·have nd:=rE.nd
  refine⟨_,ad (bi (bN (hG (pv 0))) (ah (au (bz (aa (pe_c hT rfl) af)))) aK)
   (ad (gd (cF (g:=aY 2) (te:=tVar 2) (tt:=fE (tOp rEq (tOp (rIxT K) (tVar 2) (tC (.int 0))) (tC (.int 0)))) (i:=1) (own:=[("end",2)]) rfl nd rfl rfl (cO rfl rfl rfl rfl) (qe (aD (pv 0) rfl)) (bb rfl)
    (fun _ _ _ _ _=>ay (i:=2) nd rfl (Or.inl rfl) (Or.inr rfl)) (fun _ _ _ _ _=>dh (aL bY (aE bg (pv 2) ak (by exact fun _ _=>rfl)) (pe_c (by exact C.atExit) (by rfl)) (aR _))) (fun _ _ _ _ _=>pv 2)))
   (ah (au (bz (aa (aM aG rfl B.len PySem.boot_len (aa (aD (pv 0) rfl) af)) (aa (aD (pv 0) rfl) (aa (aM aG rfl B.len PySem.boot_len (aa (pv 1) af)) af))))))),?_⟩
  rcases h with⟨rfl,k⟩ | ⟨p,n,rfl,hN,k⟩
  ·refine⟨_,rfl,_,rfl,?_⟩
   refine iteT ?_
   exact⟨by show 1≤sizeLine;decide,fun l hl=>k l hl⟩
  ·obtain⟨dx,fs,hp,hn⟩:=id hN
   obtain⟨d,xs,g,he1,he2,he3,he4,he5⟩:=hn.ends
   refine⟨_,rfl,_,rfl,?_⟩
   refine iteF ?_
   refine⟨d,_,he2,trivial,fun od=>?_⟩
   have npd:p≠d:=aP hp he2 (by intro z;cases z)
   refine⟨_,rfl,p,CW,dx,fs,_,rfl,by rw[ag npd];exact hp,TW.cl,TW.n8,he1,d,od,_,rfl,ac,fun D hD=>?_⟩
   have nDd:D≠d:=(ae ac hD).symm
   have hD0:H D=none:=by
    rw[ag nDd] at hD
    exact hD
   have kept:∀ x,Mw.InU n x→∃ t,g x=.ref t∧H t=some (.tup ((flatEnd (endOf n x)).map V.int))∧t≠d∧t≠D:=fun x hx=>by
    obtain⟨t,g1,g2⟩:=he5 x hx
    exact⟨t,g1,g2,aP g2 he2 (by intro z;cases z),ae g2 hD0⟩
   have lx:xs.length≤640:=Nat.le_trans (Mw.few he3 fun x hx=>(he4 x).mp hx) (cr hn.wf)
   refine vJ (fun i H'=>(∀ b o,H b=some o→b≠d→H' b=some o)∧H' d=some (.frz od (.dT (xs.map fun x=>(kk x,g x))))∧∃ acc:List V,H' D=some (.lst acc)∧acc.length=((xs.take i).filter fun x=>Vapktc.kindOf (endOf n x) == 0).length)
    ⟨fun b o e nb=>?_,?_,[],ac,rfl⟩ (fun i H' z=>z.2.1) ?_ ?_
   ·rw[ag (ae e hD0),ag nb]
    exact e
   ·rw[ag nDd.symm,ac]
   ·rintro i key v H' hkv ⟨kb,hdz,acc,hac,hal⟩
    rw[getElem?_map] at hkv
    cases e:xs[i]? with
    | none=>
     rw[e] at hkv
     cases hkv
    | some x=>
     rw[e] at hkv
     cases hkv
     have hx:Mw.InU n x:=(he4 x).mp (mem_of_getElem? e)
     obtain⟨t,g1,g2,nt1,nt2⟩:=kept x hx
     refine⟨rfl,_,rfl,t,_,_,_,g1,rfl,SqT.of (kb _ _ g2 nt1),ax (j:=0) (by rw[getElem?_map,fo];rfl),rfl,_,rfl,?_⟩
     have ez:decide (V.int ((Vapktc.kindOf (endOf n x):Nat):Int)=V.int 0)=(Vapktc.kindOf (endOf n x) == 0):=by
      rw[bU,Bool.eq_iff_iff,beq_iff_eq,beq_iff_eq]
      omega
     rw[ez]
     have fs':((xs.take (i+1)).filter fun x=>Vapktc.kindOf (endOf n x) == 0)=((xs.take i).filter fun x=>Vapktc.kindOf (endOf n x) == 0)++(if Vapktc.kindOf (endOf n x) == 0 then[x] else[]):=by
      rw[aV e,List.filter_append,List.filter_cons,List.filter_nil]
     have la:((xs.take i).filter fun x=>Vapktc.kindOf (endOf n x) == 0).length≤640:=by
      have:=List.length_filter_le (fun x=>Vapktc.kindOf (endOf n x) == 0) (xs.take i)
      rw[length_take] at this
      omega
     cases hk:(Vapktc.kindOf (endOf n x) == 0) with
     | true=>
      refine iteT ⟨_,rfl,acc,hac,by rw[hal];exact aH (m:=1000) (by omega),fun b o e nb=>?_,?_,_,ac,?_⟩
      ·rw[ag (ae e hD0)]
       exact kb _ _ e nb
      ·rw[ag nDd.symm]
       exact hdz
      ·rw[fs',hk,length_append,length_append,hal]
       rfl
     | false=>
      refine iteF ⟨kb,hdz,acc,hac,?_⟩
      rw[fs',hk,length_append,hal]
      rfl
   ·rintro H' ⟨kb,hdz,acc,hac,hal⟩
    rw[length_map,take_length] at hal
    refine⟨hdz,?_⟩
    have sF:Same H (upd H' d (.dT (xs.map fun x=>(kk x,g x)))):=fun b o e=>by
     by_cases q:b=d
     ·subst q
      rw[he2] at e
      cases e
      rw[ac]
     ·rw[ag q]
      exact kb _ _ e q
    obtain⟨dx',fs',hp',hn'⟩:=id (hN.same sF)
    obtain⟨tl,ht1,ht2⟩:=hn'.tabs
    obtain⟨ys,hx1,hx2⟩:=ht2.len
    refine⟨_,rfl,p,CW,_,_,_,rfl,hp',TW.cl,TW.n4,ht1,tl,_,rfl,.inl (SqL.of hx1),_,rfl,p,CW,_,_,_,rfl,hp',TW.cl,TW.n2,hn'.wide,_,rfl,D,acc,rfl,.inl (SqL.of (by rw[ag nDd];exact hac)),by show 3≤sizeLine;decide,fun l hl=>?_⟩
    refine k _ l (sF.trans (ai hl)) (aN sF hl) ?_
    rw[ac,hx2,hal]
    have pm:xs.Perm (Vapktc.packets n):=(List.perm_ext_iff_of_nodup he3 (Mw.kM n)).mpr fun x=>by rw[he4,Mw.iL]
    rw[(pm.filter _).length_eq]
    rfl
end
abbrev ga:Stmt:=top 71
abbrev mz:Stmt:=top 72
theorem t9{X:Cx}(hc:X.calm=true):fK X (.builtin "sum") (fun xs H Q=>∃ (a:Addr) (ns:List Int),xs=[.ref a]∧H a=some (.lst (ns.map V.int))∧Q (.int ns.sum) H):=by
 intro pins s σ H xs us Q I r h
 obtain⟨a,ns,rfl,ha,q⟩:=h
 obtain⟨u,rfl,ru⟩:=jg r
 obtain rfl:u=Value.ref a:=ru
 obtain⟨its,n,rv,ho,_⟩:=I.lst ha
 have hi:IntsAre its ns:=qK rv
 obtain⟨xs,e⟩:=hi.allInts.items
 have hl:s.heap.IsList a (intItems xs):=⟨_,ho,rfl,n,by rw[e]⟩
 refine sum_intListG (I.ok.hd hc) hl fun h' tk t' k=>⟨.int ns.sum,H,I.kept k,⟨t',?_⟩,q⟩
 have e2:xs.toList.map (·.1)=ns:=by
  rw[←nums_intItems,←e]
  exact hi.numsOf
 rw[preSum_eq,e2,List.take_of_length_le (by rw[←e2];simp)]
def KTup(K:Frag)(a:Addr)(xs:List V):Prop:=∃ (o:Obj) (its:Array Value) (n:Nat),K.lookup a=some o∧o.cls=.type "tuple"∧o.data=.seq its n∧its.size≤sizeLine∧Vals xs its.toList
theorem KTup.sq{K:Frag}{a:Addr}{xs:List V}{H:Hp}(h:KTup K a xs):SqT K H a xs:=.inr h
def bt(k:Nat):List Str:=([[],[],["switch","header"],["switch"],["switch","exit"],["switch","kind"],["switch","switch"],["switch","exit"],["switch","pattern","switch"],["switch","switch","pattern"],["kind"],["switch"],["switch","link"],["switch","rule"],["switch","header"]]:List (List Str)).getD k []
structure TxtH(K:Frag)(mg:Str→Option Value):Prop where
 ex:∃ (b:Addr) (ws:List Addr),mg "HANDED"=some (.ref b)∧KTup K b (ws.map V.ref)∧ws.length=15∧∀ (k:Nat) (c:Addr),ws[k]?=some c→KTup K c ((bt k).map V.str)
section
variable{P:Program}{w:World}{K:Frag}{mg:Str→Option Value}{base:Heap}{CR CW:Addr}
def cY(x:Str):Nat:=if x="exit"∨x="pattern" then 2 else 1
theorem ss:∀ k,k < 15→((bt k).map fun x=>(cY x:Int)).sum=(Mc.cnt k:Int):=by decide +kernel
theorem kS:∀ k,k < 15→(bt k).length≤3:=by decide +kernel
theorem wn:∀ k,k < 15→Mc.cnt k≤4:=by decide +kernel
def fX:Sp:=fun vs H Q _=>∃ x:Str,vs=[.str x]∧∀ H',Same H H'→Q (.int (cY x:Nat)) H'
theorem sU:al ["word"] ["word"] (aj ga):=⟨rfl,rfl,rfl,by decide +kernel,rfl,by decide +kernel,by decide +kernel⟩
theorem lN(T:TxtF K mg "numbers_for" ga ["word"]):aq P w K mg base CX0 1 "numbers_for" ["word"] fX:=by
 refine T.def0 sU (fun vs H Q E h=>?_) (fun f cdv A outer s H vs Q E hr h=>?_)
 ·obtain⟨x,rfl,_⟩:=h
  rfl
 ·obtain⟨x,rfl,k⟩:=h
  refine⟨_,ah (au (gj (aL tE (pv 0) (aU (aa cb (aa cb af))) rfl) ak ak)),?_⟩
  refine⟨_,rfl,by show 2≤sizeLine;decide,fun t ht=>?_⟩
  refine⟨t,_,rfl,.inr (SqT.of ac),rfl,rfl,_,rfl,?_⟩
  have:=k _ (ai (o:=.tup [.str "exit",.str "pattern"]) ht)
  unfold cY at this
  have e:inV (.str x) [.str "exit",.str "pattern"]=decide (x="exit"∨x="pattern"):=by
   show(eqV (.str "exit") (.str x) || (eqV (.str "pattern") (.str x) || false))=_
   rw[Bool.or_false,Bool.eq_iff_iff,Bool.or_eq_true,decide_eq_true_iff]
   show((_ == _)=true∨(_ == _)=true)↔_
   rw[beq_iff_eq,beq_iff_eq]
   constructor
   ·rintro(z | z)
    ·exact .inl z.symm
    ·exact .inr z.symm
   ·rintro(z | z)
    ·exact .inl z.symm
    ·exact .inr z.symm
  show if(if false then !inV _ _ else inV _ _)=true then _ else _
  rw[if_neg (by decide:¬ (false=true)),e]
  by_cases q:x="exit"∨x="pattern"
  ·rw[if_pos q] at this
   rw[decide_eq_true q]
   exact iteT this
  ·rw[if_neg q] at this
   rw[decide_eq_false q]
   exact iteF this
def nI(K:Frag):Sp:=fun vs H Q _=>∃ (c:Addr) (l:List Int) (pl:Nat) (cc:List (List Int)) (t:List Int) (k:Nat) (ns row:List Int),vs=[.ref c,.int (pl:Int)]∧SqL K H c (l.map V.int)∧l.length≤16000∧pl≤l.length∧Mc.At (l.drop pl) cc t k ns row∧
 ∀ (H':Hp) (u nA rA:Addr) (nx:Nat),Same H H'→H nA=none→H rA=none→H' u=some (.tup [.int (k:Int),.ref nA,.ref rA,.int (nx:Int)])→H' nA=some (.lst (ns.map V.int))→H' rA=some (.lst (row.map V.int))→nx≤l.length→l.drop nx=t→pl < nx→Q (.ref u) H'
theorem lB:al ["calls","place","call","start","after","numbers","row_start","row_end","word"] ["calls","place"] (aj mz):=⟨rfl,rfl,rfl,by decide +kernel,rfl,by decide +kernel,by decide +kernel⟩
theorem pf(l:List Int)(j m:Nat)(h:j+m≤l.length):cutV (l.map V.int) (some (j:Int)) (some ((j+m:Nat):Int))=((l.drop j).take m).map V.int:=by
 rw[xA _ _ _ (by omega) (by rw[length_map];omega),←List.map_drop,←List.map_take]
 congr 2
 omega
theorem tI(B:TxtB mg)(hN:IsC mg "NET" 0)(hU:IsC mg "USED" 13)(TH:TxtH K mg)(TN:TxtF K mg "numbers_for" ga ["word"])(T:TxtF K mg "call_at" mz ["calls","place"]):aq P w K mg base CX0 2 "call_at" ["calls","place"] (nI K):=by
 refine T.def0 lB (fun vs H Q E h=>?_) (fun f cdv A outer s H vs Q E hr h=>?_)
 ·obtain⟨c,l,pl,cc,t,k,ns,row,rfl,_⟩:=h
  rfl
 ·obtain⟨c,l,pl,cc,t,k,ns,row,rfl,hc,hl16,hpl,at',q⟩:=h
  have nd:=lB.nd
  obtain⟨hb,ws,hH,hKb,hw15,hws⟩:=TH.ex
  have DN:aq P w K mg base CX0 1 "numbers_for" ["word"] fX:=lN TN
  refine⟨_,ad (ao (i:=2) nd rfl (Or.inl rfl) (aE aB (pv 0) (pv 1) (fun _ _=>rfl)))
   (ad (ao (i:=3) nd rfl (Or.inl rfl) (bG cX (pv 1) ak))
   (ad (ao (i:=4) nd rfl (Or.inl rfl) (bG cX (pv 3) (aM (t9 rfl) rfl B.sum rfl (aa
    (gi (g:=aY 8) (te:=jj fX [] E0 (cC (tVar 8) tNil)) (own:=[("word",8)]) rfl nd (vc (aE bg (bT (v:=.ref hb) rfl hH rfl) (pv 2) (fun _ _=>rfl))) (bb rfl)
     (fun _ _ _ _ _=>ay (i:=8) nd rfl (Or.inl rfl) (Or.inr rfl)) (fun _ _ _ _ _=>b8) (fun _ _ _ _ _=>az DN (by exact hr) rfl aA (aa (pv 8) af))) af))))
   (ad (ao (i:=5) nd rfl (Or.inl rfl) (cG eY (pv 0) (cz (pv 3)) (cz (pv 4))))
   (ad (bi (aL mK (pv 2) (aU (aa (pe_c hN rfl) (aa (pe_c hU rfl) af))) rfl) (ah (au (aU (aa (pv 2) (aa (pv 5) (aa (bz af) (aa (pv 4) af))))))) aK)
   (ad (ao (i:=6) nd rfl (Or.inl rfl) (bG cX (pv 4) ak))
   (ad (ao (i:=7) nd rfl (Or.inl rfl) (bG cX (pv 6) (aE aB (pv 0) (pv 4) (fun _ _=>rfl))))
   (ah (au (aU (aa (pv 2) (aa (pv 5) (aa (cG eY (pv 0) (cz (pv 6)) (cz (pv 7))) (aa (pv 7) af))))))))))))),?_⟩
  have k15:=at'.k15
  have shape:∃ rest,l.drop pl=(k:Int)::(ns++rest):=by
   by_cases z:k=0∨k=13
   ·exact⟨_,(at'.rows z).1⟩
   ·exact⟨_,(at'.flat z).1⟩
  obtain⟨rest,hrest⟩:=shape
  have hlt:pl < l.length:=by
   by_cases z:pl < l.length
   ·exact z
   ·rw[List.drop_eq_nil_of_le (by omega)] at hrest
    cases hrest
  have hk0:l[pl]?=some (k:Int):=by
   have:=congrArg (fun z=>z[0]?) hrest
   simpa [List.getElem?_drop] using this
  have hd1:l.drop (pl+1)=ns++rest:=by
   rw[←drop_drop,hrest]
   rfl
  have hlen:l.length=pl+1+ns.length+rest.length:=by
   have:=congrArg List.length hd1
   rw[length_drop,length_append] at this
   omega
  have hcnt:=at'.len
  have c4:=wn k k15
  obtain⟨wk,hwk⟩:∃ wk,ws[k]?=some wk:=⟨ws[k]'(by omega),getElem?_eq_getElem (by omega)⟩
  have hKw:=hws k wk hwk
  have e1:(pl:Int)+1=((pl+1:Nat):Int):=by omega
  refine⟨_,rfl,_,rfl,c,_,_,_,rfl,rfl,hc,ax (j:=pl) (by rw[getElem?_map,hk0];rfl),?_⟩
  refine⟨_,rfl,_,_,rfl,rfl,?_⟩
  dsimp only [aY]
  rw[e1]
  refine⟨_,rfl,_,rfl,hb,_,_,_,rfl,rfl,hKb.sq,ax (j:=k) (by rw[getElem?_map,hwk];rfl),wk,rfl,⟨_,hKw.sq⟩,fun D hD=>?_⟩
  refine vM (i0:=8) (K:=K) (l0:=wk) (xs:=(bt k).map V.str) (fun i v _=>∃ x,(bt k)[i]?=some x∧v=.int (cY x:Nat)) hD hKw.sq (by rw[length_map];have:=kS k k15;omega) (fun _ _ _ _ _ h=>h) (fun v=>rfl) ?_ ?_
  ·rintro i x H' Q' hx s2 _ q'
   rw[getElem?_map] at hx
   cases e:(bt k)[i]? with
   | none=>
    rw[e] at hx
    cases hx
   | some y=>
    rw[e] at hx
    cases hx
    exact⟨_,rfl,y,rfl,fun H2 s3=>q' _ _ s3 ⟨y,e,rfl⟩⟩
  ·intro H1 ys s1 hDl hyl hyr
   have ey:ys=((bt k).map fun x=>(cY x:Int)).map V.int:=by
    apply List.ext_getElem?
    intro i
    rw[length_map] at hyl
    by_cases z:i < ys.length
    ·obtain⟨x,hx1,hx2⟩:=hyr i _ (getElem?_eq_getElem z)
     rw[getElem?_eq_getElem z,hx2,getElem?_map,getElem?_map,hx1]
     rfl
    ·rw[getElem?_eq_none (by omega),getElem?_eq_none (by simp;omega)]
   rw[ey] at hDl
   refine⟨D,_,rfl,hDl,_,_,rfl,rfl,?_⟩
   rw[ss k k15]
   have e2:((pl+1:Nat):Int)+(Mc.cnt k:Int)=((pl+1+Mc.cnt k:Nat):Int):=by omega
   dsimp only [aY]
   rw[e2]
   have hc1:=s1.seq hc
   refine⟨_,rfl,_,rfl,_,rfl,_,rfl,_,rfl,c,_,rfl,hc1,fun nA hnA=>?_⟩
   have ecut:cutV (l.map V.int) (some ((pl+1:Nat):Int)) (some ((pl+1+Mc.cnt k:Nat):Int))=ns.map V.int:=by
    rw[pf _ _ _ (by omega),hd1,←hcnt,List.take_left]
   rw[ecut]
   have s2:Same H1 (upd H1 nA (.lst (ns.map V.int))):=ai hnA
   refine⟨_,rfl,by show 2≤sizeLine;decide,fun tt htt=>?_⟩
   have s3:Same (upd H1 nA (.lst (ns.map V.int))) (upd (upd H1 nA (.lst (ns.map V.int))) tt (.tup [.int 0,.int 13])):=ai htt
   have sA:Same H (upd (upd H1 nA (.lst (ns.map V.int))) tt (.tup [.int 0,.int 13])):=(s1.trans s2).trans s3
   have hnA3:upd (upd H1 nA (.lst (ns.map V.int))) tt (.tup [.int 0,.int 13]) nA=some (.lst (ns.map V.int)):=s3 _ _ ac
   refine⟨tt,_,rfl,.inr (SqT.of ac),rfl,rfl,_,rfl,?_⟩
   have ein:inV (.int (k:Int)) [.int 0,.int 13]=decide (k=0∨k=13):=by
    show((0:Int) == (k:Int) || ((13:Int) == (k:Int) || false))=_
    rw[Bool.or_false,Bool.eq_iff_iff,Bool.or_eq_true,decide_eq_true_iff,beq_iff_eq,beq_iff_eq]
    omega
   show if(if true then !inV _ _ else inV _ _)=true then _ else _
   rw[if_pos (rfl:true=true),ein]
   by_cases z:k=0∨k=13
   ·rw[decide_eq_true z]
    refine iteF ?_
    obtain⟨hl1,_⟩:=at'.rows z
    have hr2:rest=(row.length:Int)::(row++t):=by
     rw[hrest] at hl1
     injection hl1 with _ hl1
     exact List.append_cancel_left hl1
    have hd2:l.drop (pl+1+Mc.cnt k)=(row.length:Int)::(row++t):=by
     rw[←hr2,←hcnt,←drop_drop,hd1,List.drop_left]
    have hm:l[pl+1+Mc.cnt k]?=some (row.length:Int):=by
     have:=congrArg (fun z=>z[0]?) hd2
     simpa [List.getElem?_drop] using this
    have hd3:l.drop (pl+1+Mc.cnt k+1)=row++t:=by
     rw[←drop_drop,hd2]
     rfl
    have hlen3:l.length=pl+1+Mc.cnt k+1+row.length+t.length:=by
     have:=congrArg List.length hr2
     simp at this
     omega
    have e3:((pl+1+Mc.cnt k:Nat):Int)+1=((pl+1+Mc.cnt k+1:Nat):Int):=by omega
    have e4:((pl+1+Mc.cnt k+1:Nat):Int)+(row.length:Int)=((pl+1+Mc.cnt k+1+row.length:Nat):Int):=by omega
    refine⟨_,rfl,_,_,rfl,rfl,?_⟩
    dsimp only [aY]
    rw[e3]
    refine⟨_,rfl,_,rfl,_,rfl,c,_,_,_,rfl,rfl,sA.seq hc,ax (j:=pl+1+Mc.cnt k) (by rw[getElem?_map,hm];rfl),_,_,rfl,rfl,?_⟩
    dsimp only [aY]
    rw[e4]
    refine⟨_,rfl,_,rfl,_,rfl,_,rfl,_,rfl,_,rfl,_,rfl,c,_,rfl,sA.seq hc,fun rA hrA=>?_⟩
    have ecut2:cutV (l.map V.int) (some ((pl+1+Mc.cnt k+1:Nat):Int)) (some ((pl+1+Mc.cnt k+1+row.length:Nat):Int))=row.map V.int:=by
     rw[pf _ _ _ (by omega),hd3,List.take_left]
    rw[ecut2]
    refine⟨_,rfl,by show 4≤sizeLine;decide,fun u hu=>?_⟩
    have s4:=ai (o:=.lst (row.map V.int)) hrA
    have s5:=ai (o:=.tup [.int (k:Int),.ref nA,.ref rA,.int ((pl+1+Mc.cnt k+1+row.length:Nat):Int)]) hu
    refine q _ u nA rA _ (sA.trans (s4.trans s5)) (s1.free hnA) (sA.free hrA) ac (s5 _ _ (s4 _ _ hnA3)) (s5 _ _ ac) (by omega) ?_ (by omega)
    rw[←drop_drop,hd3,List.drop_left]
   ·rw[decide_eq_false z]
    refine iteT ?_
    obtain⟨hl1,_,hrow⟩:=at'.flat z
    have hr2:rest=t:=by
     rw[hrest] at hl1
     injection hl1 with _ hl1
     exact List.append_cancel_left hl1
    refine⟨_,rfl,_,rfl,by show 0≤sizeLine;decide,fun rA hrA=>?_⟩
    refine⟨_,rfl,by show 4≤sizeLine;decide,fun u hu=>?_⟩
    have s4:=ai (o:=.lst []) hrA
    have s5:=ai (o:=.tup [.int (k:Int),.ref nA,.ref rA,.int ((pl+1+Mc.cnt k:Nat):Int)]) hu
    refine q _ u nA rA _ (sA.trans (s4.trans s5)) (s1.free hnA) (sA.free hrA) ac (s5 _ _ (s4 _ _ hnA3)) (by rw[hrow];exact s5 _ _ ac) (by omega) ?_ (by omega)
    rw[←hcnt,←drop_drop,hd1,List.drop_left,hr2]
end
abbrev jC:Stmt:=top 25
abbrev pW:Stmt:=top 41
section
variable{P:Program}{w:World}{K:Frag}{mg:Str→Option Value}{base:Heap}{CR CW:Addr}
theorem pc(e:End_):(flatEnd e).length≤4:=by
 cases e with
 | exit p h=>exact Nat.le_refl 4
 | dropped s i=>show 3≤4;decide
 | hole s=>show 2≤4;decide
 | round=>show 1≤4;decide
theorem im:∀ ps:List Packet,(ps.flatMap Vapktc.flatPacket).length=2*ps.length
 | []=>rfl
 | p::r=>by
  rw[List.flatMap_cons,length_append,im r,length_cons]
  show 2+2*r.length=_
  omega
theorem iG{α β:Type}{F:α→β→Prop}:∀ {l:List α} {r:List β} (k:Nat),Paired F l r→Paired F (l.take k) (r.take k)
 | _,_,0,_=>by
  rw[List.take_zero,List.take_zero]
  exact .nil
 | _,_,k+1,.nil=>.nil
 | _,_,k+1,.cons h t=>.cons h (iG k t)
def rK(ps:List Packet):List Int:=(ps.length:Int)::(ps.take 60).flatMap Vapktc.flatPacket
theorem tm(ps:List Packet):(rK ps).length≤121:=by
 unfold rK
 rw[length_cons,im,length_take]
 omega
def mm:Sp:=fun vs H Q _=>∃ (l:Addr) (qs:List Addr) (ps:List Packet),vs=[.ref l]∧H l=some (.lst (qs.map V.ref))∧cp H qs ps∧∀ (H':Hp) (a:Addr),Same H H'→H a=none→H' a=some (.lst ((rK ps).map V.int))→Q (.ref a) H'
theorem nX:al ["packets","numbers","packet"] ["packets"] (aj jC):=⟨rfl,rfl,rfl,by decide +kernel,rfl,by decide +kernel,by decide +kernel⟩
theorem oE(B:TxtB mg)(hS:IsC mg "SHOWN_PACKETS" 60)(T:TxtF K mg "packet_numbers" jC ["packets"]):aq P w K mg base CX0 1 "packet_numbers" ["packets"] mm:=by
 refine T.def0 nX (fun vs H Q E h=>?_) (fun f cdv A outer s H vs Q E hr h=>?_)
 ·obtain⟨l,qs,ps,rfl,_⟩:=h
  rfl
 obtain⟨l,qs,ps,rfl,hl1,hq,k⟩:=h
 have nd:=nX.nd
 refine⟨_,ad (ao (i:=1) nd rfl (Or.inl rfl) (bz (aa (aM aG rfl B.len PySem.boot_len (aa (pv 0) af)) af)))
  (ad (bx PassesOwn.never rfl (be (cG eY (pv 0) ff (cz (pe_c hS rfl)))) (ay (i:=2) nd rfl (Or.inl rfl)) (ah (b9 (eu PySem.F.plainAttrs_list PySem.F.slot_list_extend PySem.F.type_list_extend mU (pv 1) (aa (pv 2) af)))))
  (ah (au (pv 1)))),?_⟩
 have lq:qs.length=ps.length:=Paired.length hq
 refine⟨_,rfl,l,_,rfl,.inl (SqL.of hl1),by show 1≤sizeLine;decide,fun an han=>?_⟩
 rw[length_map,lq]
 have s3:Same H (upd H an (.lst [.int (ps.length:Int)])):=ai han
 refine⟨_,rfl,_,rfl,l,_,rfl,SqL.of (s3 _ _ hl1),fun z hz=>?_⟩
 have hcut:cutV (qs.map V.ref) none (some (60:Int))=(qs.take 60).map V.ref:=by
  rw[show(60:Int)=((60:Nat):Int) from rfl,nh,List.map_take]
 rw[hcut]
 have nza:an≠z:=ae ac hz
 have hq60:=iG 60 hq
 have lq60:=Paired.length hq60
 refine⟨z,rfl,⟨_,SqL.of ac⟩,bP (K:=K) (a:=z) (xs:=(qs.take 60).map V.ref)
  (fun i σ H'=>∃ v:Option V,σ=[some (.ref l),some (.ref an),v]∧Same H H'∧H' z=some (.lst ((qs.take 60).map V.ref))∧H' an=some (.lst (((ps.length:Int)::((ps.take 60).take i).flatMap Vapktc.flatPacket).map V.int)))
  ⟨none,rfl,s3.trans (ai hz),ac,by rw[ag nza];exact ac⟩ (fun i σ H' _ ⟨_,_,_,hz',_⟩=>SqL.of hz') ?_ ?_⟩
 ·rintro i y σ H' hy ⟨v,rfl,s4,hz4,e4⟩
  rw[getElem?_map] at hy
  cases e:(qs.take 60)[i]? with
  | none=>
   rw[e] at hy
   cases hy
  | some q=>
   rw[e] at hy
   cases hy
   obtain⟨pk',hp1',hp2'⟩:=aC hq60 e
   have hi:i < (qs.take 60).length:=(List.getElem?_eq_some_iff.mp e).1
   have hi60:i < 60:=by
    rw[length_take] at hi
    omega
   refine⟨_,rfl,.inl ⟨rfl,_,SqL.of e4⟩,_,rfl,an,q,_,_,rfl,rfl,e4,SqT.of (s4 _ _ hp2'),?_,?_⟩
   ·rw[length_map,length_cons,im,length_take,length_take]
    exact cD (m:=1000) (by show _+2≤1000;omega)
   ·refine⟨_,rfl,fun b o hb=>?_,?_,?_⟩
    ·rw[ag (ae hb han)]
     exact s4 _ _ hb
    ·rw[ag nza.symm]
     exact hz4
    ·rw[ac,aV hp1',flatMap_append,map_cons,map_cons,map_append]
     simp[Vapktc.flatPacket,int]
 ·rintro σ H' ⟨v,rfl,s4,hz4,e4⟩
  refine⟨_,rfl,k H' an s4 han ?_⟩
  rw[e4,length_map,lq60,take_length]
  rfl
def rWay(n:Net)(ns ans:List Int):Prop:=∃ x:Packet,ns=[(x.switch:Int),(x.header:Int)]∧Mw.InU n x∧ans=Vapktc.flatWay (wayOf n x)
theorem rD:al ["network","numbers","packet"] ["network","numbers"] (aj uI):=⟨rfl,rfl,rfl,by decide +kernel,rfl,by decide +kernel,by decide +kernel⟩
theorem xb(TW:TxtW K mg CW)(B:TxtB mg)(hS:IsC mg "SHOWN_PACKETS" 60)(TN:TxtF K mg "packet_numbers" jC ["packets"])(TP:TxtF K mg "packets_passed" cP ["onward","starts"])(TY:TxtF K mg "way_of" gM ["onward","packet"])(T:TxtF K mg "answer_way" uI ["network","numbers"]):aq P w K mg base CX0 3 "answer_way" ["network","numbers"] (spA CR CW rWay):=by
 refine T.def0 rD bL (fun f cdv A outer s H vs Q E hr h=>?_)
 obtain⟨p,a,n,ns,ans,rfl,hN,ha,⟨x,rfl,hx,rfl⟩,k⟩:=h
 have nd:=rD.nd
 have hu:=dr hr
 have DW:aq P w K mg base CX0 2 "way_of" ["onward","packet"] ml:=oA TP TY B
 have DN:aq P w K mg base CX0 2 "packet_numbers" ["packets"] mm:=(oE B hS TN).mono (by omega)
 refine⟨_,ad (ao (i:=2) nd rfl (Or.inl rfl) (aU (aa (aE aB (pv 1) ak (fun _ _=>rfl)) (aa (aE aB (pv 1) ak (fun _ _=>rfl)) af))))
  (ah (au (bG qj (gZ gA rfl B.list PyProof.Rows.boot_list (aa (bC hu (aD (pv 0) rfl) (pv 2) (fun _ _=>rfl)) af))
   (az DN hr rfl aA (aa (az DW hr rfl aA (aa (aD (pv 0) rfl) (aa (pv 2) af))) af))))),?_⟩
 refine⟨_,rfl,a,_,_,_,rfl,rfl,SqL.of ha,ax (j:=0) rfl,_,rfl,a,_,_,_,rfl,rfl,SqL.of ha,ax (j:=1) rfl,by show 2≤sizeLine;decide,fun t ht=>?_⟩
 have s0:Same H (upd H t (.tup [.int (x.switch:Int),.int (x.header:Int)])):=ai ht
 have ht0:upd H t (.tup [.int (x.switch:Int),.int (x.header:Int)]) t=some (.tup [.int (x.switch:Int),.int (x.header:Int)]):=ac
 obtain⟨dx,fs,hp,hn⟩:=id (hN.same s0)
 obtain⟨ea,xs,g,he1,he2,he3,he4,he5⟩:=hn.ends
 obtain⟨te,g1,g2⟩:=he5 x hx
 refine⟨_,rfl,p,CW,_,_,_,rfl,hp,TW.cl,TW.n8,he1,_,rfl,ea,g x,rfl,?_,te,_,g1 ▸ rfl,.inr (SqT.of g2),fun an han=>?_⟩
 ·have:=DGet.t (k:=kk x) (b:=t) he2 ht0
  rw[cN,if_pos ((he4 _).mpr hx)] at this
  exact this
 have s1:=ai (o:=.lst ((flatEnd (endOf n x)).map V.int)) han
 have han1:upd (upd H t (.tup [.int (x.switch:Int),.int (x.header:Int)])) an (.lst ((flatEnd (endOf n x)).map V.int)) an=some (.lst ((flatEnd (endOf n x)).map V.int)):=ac
 obtain⟨dx1,fs1,hp1,hn1⟩:=id (hN.same (s0.trans s1))
 obtain⟨oa,ko,ho1,ho2,ho3⟩:=hn1.onw
 refine⟨_,rfl,p,CW,dx1,fs1,_,rfl,hp1,TW.cl,TW.n6,ho1,_,rfl,oa,t,ko,n,x,rfl,.inl ho2,hn1.wf,ho3,hx,s1 _ _ ht0,fun H1 l qs s2 hl0 hl1 hq=>?_⟩
 refine⟨l,qs,_,rfl,hl1,hq,fun H2 c s3 hc0 hc1=>?_⟩
 have fl:=pc (endOf n x)
 have pl:=tm (wayOf n x).packets
 refine⟨an,c,_,_,rfl,rfl,s3 _ _ (s2 _ _ han1),hc1,?_,fun z hz=>?_⟩
 ·rw[length_map,length_map]
  exact cD (m:=1000) (by omega)
 ·have sA:=(s0.trans s1).trans (s2.trans s3)
  refine k _ z (sA.trans (ai hz)) (aN sA hz) ?_
  rw[ac,←map_append]
  rfl
def uU(n:Net)(ns ans:List Int):Prop:=∃ x:Packet,ns=[(x.switch:Int),(x.header:Int)]∧Mw.InU n x∧ans=rK (Vapktc.loopOf n x)
theorem uE:al ["network","numbers"] ["network","numbers"] (aj pW):=⟨rfl,rfl,rfl,by decide +kernel,rfl,by decide +kernel,by decide +kernel⟩
theorem vD(TW:TxtW K mg CW)(B:TxtB mg)(hS:IsC mg "SHOWN_PACKETS" 60)(TN:TxtF K mg "packet_numbers" jC ["packets"])(TP:TxtF K mg "packets_passed" cP ["onward","starts"])(TY:TxtF K mg "way_of" gM ["onward","packet"])(TR:TxtF K mg "round_of" mx ["onward","packet"])(T:TxtF K mg "answer_loop" pW ["network","numbers"]):aq P w K mg base CX0 4 "answer_loop" ["network","numbers"] (spA CR CW uU):=by
 refine T.def0 uE bL (fun f cdv A outer s H vs Q E hr h=>?_)
 obtain⟨p,a,n,ns,ans,rfl,hN,ha,⟨x,rfl,hx,rfl⟩,k⟩:=h
 have DR:aq P w K mg base CX0 3 "round_of" ["onward","packet"] rb:=vq TP TY TR B
 have DN:aq P w K mg base CX0 3 "packet_numbers" ["packets"] mm:=(oE B hS TN).mono (by omega)
 refine⟨_,ah (au (az DN hr rfl aA (aa (az DR hr rfl aA (aa (aD (pv 0) rfl) (aa (aU (aa (aE aB (pv 1) ak (fun _ _=>rfl)) (aa (aE aB (pv 1) ak (fun _ _=>rfl)) af))) af))) af))),?_⟩
 obtain⟨dx,fs,hp,hn⟩:=id hN
 obtain⟨oa,ko,ho1,ho2,ho3⟩:=hn.onw
 refine⟨_,rfl,p,CW,dx,fs,_,rfl,hp,TW.cl,TW.n6,ho1,_,rfl,a,_,_,_,rfl,rfl,SqL.of ha,ax (j:=0) rfl,_,rfl,a,_,_,_,rfl,rfl,SqL.of ha,ax (j:=1) rfl,by show 2≤sizeLine;decide,fun t ht=>?_⟩
 have s0:Same H (upd H t (.tup [.int (x.switch:Int),.int (x.header:Int)])):=ai ht
 refine⟨oa,t,ko,n,x,rfl,.inl (s0 _ _ ho2),hn.wf,ho3.same fun b xs e=>s0 _ _ e,hx,ac,fun H1 l qs s1 hl0 hl1 hq=>?_⟩
 refine⟨l,qs,_,rfl,hl1,hq,fun H2 c s2 hc0 hc1=>?_⟩
 exact k H2 c ((s0.trans s1).trans s2) (aN (s0.trans s1) hc0) hc1
end
abbrev sHP:Stmt:=top 27
abbrev gT:Stmt:=top 36
structure TxtE(K:Frag)(mg:Str→Option Value):Prop where
 ex:∃ e:Addr,mg "EVERY_HEADER"=some (.ref e)∧∀ H,SqT K H e [.int 0,.int 0]
section
variable{P:Program}{w:World}{K:Frag}{mg:Str→Option Value}{base:Heap}{CR CW:Addr}
theorem fsW_if{α:Type}{n:Net}{f:Packet→Bool}{c d:α}{x:Packet}:Mw.fsW n (fun y=>if f y then some c else none) d x=if(wayOf n x).packets.any f then c else d:=by
 unfold Mw.fsW
 generalize (wayOf n x).packets=l
 induction l with
 | nil=>rfl
 | cons a l ih=>
  rw[List.findSome?_cons,List.any_cons]
  cases f a with
  | true=>simp
  | false=>simpa using ih
def hpB(n:Net)(s:Nat)(xs:List Packet):List Bool:=(List.range (2 ^ n.wide)).map fun h=>(wayOf n ⟨s,h⟩).packets.any fun x=>xs.contains x
theorem m7{n:Net}{s:Nat}{xs:List Packet}:(hpB n s xs).length=2 ^ n.wide:=by simp[hpB]
def spHP(CR CW:Addr):Sp:=fun vs H Q _=>∃ (p l:Addr) (n:Net) (s:Nat) (ts:List Addr) (xs:List Packet),vs=[.ref p,.int (s:Int),.ref l]∧bI CR CW H p n∧s < n.tables.length∧H l=some (.lst (ts.map V.ref))∧cp H ts xs∧xs.length≤1000∧
 ∀ (H':Hp) (m:Addr),Same H H'→H m=none→H' m=some (.lst ((hpB n s xs).map V.bl))→Q (.ref m) H'
theorem sc_hp:al ["network","switch","packets","wanted","packet","passes","header"] ["network","switch","packets"] (aj sHP):=⟨rfl,rfl,rfl,by decide +kernel,rfl,by decide +kernel,by decide +kernel⟩
theorem vw(TW:TxtW K mg CW)(B:TxtB mg)(TY:TxtF K mg "first_settled" cE ["onward","settled","otherwise"])(T:TxtF K mg "headers_passing" sHP ["network","switch","packets"]):aq P w K mg base CX0 2 "headers_passing" ["network","switch","packets"] (spHP CR CW):=by
 refine T.def0 sc_hp (fun vs H Q E h=>?_) (fun f cdv A outer s H vs Q E hr h=>?_)
 ·obtain⟨p,l,n,s,ts,xs,rfl,_⟩:=h
  rfl
 obtain⟨p,l,n,sw,ts,xs,rfl,hN,hsw,hl,hts,hx1000,k⟩:=h
 have nd:=sc_hp.nd
 have hu:=dr hr
 have DT:aq P w K mg base CX0 1 "first_settled" ["onward","settled","otherwise"] gJ:=jT TY
 refine⟨_,ad (ao (i:=3) nd rfl (Or.inl rfl) bH)
  (ad (bx PassesOwn.never rfl (be (pv 2)) (ay (i:=4) nd rfl (Or.inl rfl)) (ah (bu hu (pv 3) (pv 4) eB rfl)))
  (ad (ao (i:=5) nd rfl (Or.inr rfl) (az DT hr rfl aA (aa (aD (pv 0) rfl) (aa (pv 3) (aa eB af)))))
  (ah (au (gi (te:=ji (tVar 5) (tTup (cC (tVar 1) (cC (tVar 6) tNil)))) (g:=aY 6) (own:=[("header",6)]) rfl nd (bJ rfl B.range (aa (aD (pv 0) rfl) af)) (bb rfl)
   (fun _ _ _ _ _=>ay (i:=6) nd rfl (Or.inl rfl) (Or.inr rfl)) (fun _ _ _ _ _=>b8) (fun _ _ _ _ _=>bC (by exact hu) (pv 5) (aU (aa (pv 1) (aa (pv 6) af))) (by exact fun _ _=>rfl))))))),?_⟩
 intro d hd
 have s0:Same H (upd H d (.dT [])):=ai hd
 have lts:ts.length=xs.length:=Paired.length hts
 have nld:l≠d:=ae hl hd
 refine⟨_,rfl,l,rfl,⟨_,SqL.of (s0 _ _ hl)⟩,bP (K:=K) (a:=l) (xs:=ts.map V.ref)
  (fun i σ H'=>∃ (v4:Option V) (kw:List (List Key × V)),σ=[some (.ref p),some (.int (sw:Int)),some (.ref l),some (.ref d),v4,none,none]∧Same H H'∧H' d=some (.dT kw)∧kw.length≤i∧∀ x:Packet,valV kw (kk x)=if(xs.take i).contains x then some (.bl true) else none)
  ⟨none,[],rfl,s0,ac,Nat.le_refl _,fun x=>rfl⟩ (fun i σ H' _ ⟨_,_,_,s2,_⟩=>SqL.of (s2 _ _ hl)) ?_ ?_⟩
 ·rintro i y σ H' hy ⟨v4,kw,rfl,s1,hd1,hlen,hval⟩
  rw[getElem?_map] at hy
  cases e:ts[i]? with
  | none=>
   rw[e] at hy
   cases hy
  | some q=>
   rw[e] at hy
   cases hy
   obtain⟨x,hx1,hq⟩:=aC hts e
   have hi:=(List.getElem?_eq_some_iff.mp hx1).1
   refine⟨_,rfl,_,rfl,d,_,rfl,DPut.t (k:=kk x) hd1 (s1 _ _ hq) (aH (m:=1000) (by omega)),?_⟩
   have l1:=aX kw (kk x) (V.bl true)
   refine⟨_,_,rfl,fun b o hb=>?_,ac,by omega,fun y=>?_⟩
   ·rw[ag (ae hb hd)]
    exact s1 _ _ hb
   ·rw[bh,hval,aV hx1]
    by_cases q:y=x
    ·subst q
     rw[if_pos rfl,if_pos (by simp)]
    ·rw[if_neg (fun z=>q (eJ z))]
     have e1:(xs.take i++[x]).contains y=(xs.take i).contains y:=by
      rw[Bool.eq_iff_iff,contains_iff_mem,contains_iff_mem,mem_append]
      simp[q]
     rw[e1]
 ·rintro σ H1 ⟨v4,kw,rfl,s1,hd1,hlen,hval⟩
  rw[length_map,lts,take_length] at hval
  obtain⟨dx,fs,hp,hn⟩:=id (hN.same s1)
  have ps:=aW hn.wf.w7
  obtain⟨oa,ko,ho1,ho2,ho3⟩:=hn.onw
  have nod:d≠oa:=by
   obtain⟨dx',fs',hp',hn'⟩:=id hN
   obtain⟨oa',ko',ho1',ho2',ho3'⟩:=hn'.onw
   have:=s1 _ _ hp'
   rw[hp] at this
   injection this with this
   injection this with _ _ this
   subst this
   rw[ho1] at ho1'
   injection ho1' with ho1'
   injection ho1' with ho1'
   subst ho1'
   exact(ae ho2' hd).symm
  refine⟨_,rfl,p,CW,dx,fs,_,rfl,hp,TW.cl,TW.n6,ho1,_,rfl,oa,d,.bl false,ko,kw,n,fun x=>if xs.contains x then some (V.bl true) else none,rfl,ho2,hd1,nod,hn.wf,ho3,fun x _=>hval x,fun H2 F ys s2 hF0 hF hnd hys=>?_⟩
  obtain⟨dx,fs,hp2,hn2⟩:=id (hN.same (s1.trans s2))
  refine⟨_,rfl,p,CW,dx,fs,_,rfl,hp2,TW.cl,TW.n3,hn2.size,_,rfl,jI,jJ ps,fun D hD=>?_⟩
  rw[Int.toNat_natCast]
  refine j6 (i0:=6) (n:=2 ^ n.wide) (fun i v _=>v=.bl ((wayOf n ⟨sw,i⟩).packets.any fun x=>xs.contains x)) hD (by omega) (fun _ _ _ _ _ h=>h) (fun v=>rfl) ?_ ?_
  ·rintro i H' Q' hi s3 ⟨zs,hzs⟩ q
   refine⟨_,rfl,_,rfl,_,rfl,by show 2≤sizeLine;decide,fun t ht=>?_⟩
   have s4:Same H' (upd H' t (.tup [.int (sw:Int),.int (0+(i:Int))])):=ai ht
   have hx:Mw.InU n ⟨sw,i⟩:=⟨hsw,hi⟩
   refine⟨F,_,rfl,?_,q _ _ s4 rfl⟩
   have:=DGet.t (k:=kk ⟨sw,i⟩) (b:=t) (s4 _ _ (s3 _ _ hF)) (by rw[ac,Int.zero_add];rfl)
   rw[cN (g:=fun x=>Mw.fsW n _ (V.bl false) x),if_pos ((hys _).mpr hx),fsW_if (f:=fun x=>xs.contains x)] at this
   have e:(if(wayOf n ⟨sw,i⟩).packets.any (fun x=>xs.contains x) then V.bl true else V.bl false)=V.bl ((wayOf n ⟨sw,i⟩).packets.any fun x=>xs.contains x):=by
    cases (wayOf n ⟨sw,i⟩).packets.any (fun x=>xs.contains x)<;>rfl
   rw[e] at this
   exact this
  ·intro H' zs s3 hDl hlz hr'
   have hy:=fm hlz hr'
   have e1:zs=(hpB n sw xs).map V.bl:=by
    rw[hy]
    unfold hpB
    rw[map_map]
    rfl
   rw[e1] at hDl
   exact k H' D ((s1.trans s2).trans s3) (aN (s1.trans s2) hD) hDl
theorem qL{n:Net}(W:Mw.WF n){s t:Nat}(hs:s < n.tables.length)(p:VapktBase.Pattern):hpB n s (pksM n t p)=Mm.aT n.wide (Vapktc.leading n s t (patternSet n.wide p)):=by
 rw[Ms.kP W hs]
 unfold hpB
 apply map_congr_left
 intro h hh
 have hx:=Ms.eT W (x:=⟨s,h⟩) ⟨hs,mem_range.mp hh⟩
 rw[Bool.eq_iff_iff,any_eq_true,any_eq_true]
 constructor
 ·rintro⟨x,h1,e⟩
  obtain⟨e1,e2,e3⟩:=cf.mp (contains_iff_mem.mp e)
  exact⟨x,h1,by rw[Bool.and_eq_true,beq_iff_eq];exact⟨e1,e3⟩⟩
 ·rintro⟨x,h1,e⟩
  rw[Bool.and_eq_true,beq_iff_eq] at e
  exact⟨x,h1,contains_iff_mem.mpr (cf.mpr ⟨e.1,(hx x h1).2,e.2⟩)⟩
theorem oV{n:Net}(W:Mw.WF n){s t:Nat}(hs:s < n.tables.length):hpB n s (pksM n t ⟨0,0⟩)=Mm.aT n.wide (Vapktc.passing n s t):=by
 unfold Vapktc.passing
 rw[Ms.cJ]
 unfold hpB
 apply map_congr_left
 intro h hh
 have hx:=Ms.eT W (x:=⟨s,h⟩) ⟨hs,mem_range.mp hh⟩
 unfold Vapktc.passes
 rw[Bool.eq_iff_iff,any_eq_true,any_eq_true]
 constructor
 ·rintro⟨x,h1,e⟩
  obtain⟨e1,e2,e3⟩:=cf.mp (contains_iff_mem.mp e)
  exact⟨x,h1,by rw[beq_iff_eq];exact e1⟩
 ·rintro⟨x,h1,e⟩
  rw[beq_iff_eq] at e
  exact⟨x,h1,contains_iff_mem.mpr (cf.mpr ⟨e,(hx x h1).2,ie _⟩)⟩
def jK(n:Net)(ns ans:List Int):Prop:=∃ s t:Nat,ns=[(s:Int),(t:Int)]∧s < n.tables.length∧t < n.tables.length∧ans=Vapktc.flatForm n.wide (Vapktc.passing n s t)
theorem iB:al ["network","numbers","there"] ["network","numbers"] (aj gQ):=⟨rfl,rfl,rfl,by decide +kernel,rfl,by decide +kernel,by decide +kernel⟩
theorem oH(TW:TxtW K mg CW)(B:TxtB mg)(TE:TxtE K mg)(TM:TxtF K mg "matches" bF ["header","pattern"])(TY:TxtF K mg "first_settled" cE ["onward","settled","otherwise"])(TH:TxtF K mg "headers_passing" sHP ["network","switch","packets"])(TF:TxtF K mg "one_form" dg ["members"])(TS:TxtF K mg "set_numbers" bZ ["members"])(T:TxtF K mg "answer_passing" gQ ["network","numbers"]):aq P w K mg base CX0 10 "answer_passing" ["network","numbers"] (spA CR CW jK):=by
 refine T.def0 iB bL (fun f cdv A outer s H vs Q E hr h=>?_)
 obtain⟨p,a,n,ns,ans,rfl,hN,ha,⟨sw,tw,rfl,hsw,htw,rfl⟩,k⟩:=h
 have nd:=iB.nd
 obtain⟨ev,hev,hev2⟩:=TE.ex
 have DS:aq P w K mg base CX0 9 "set_numbers" ["members"] (fV K):=eD TS TF B
 have DH:aq P w K mg base CX0 9 "headers_passing" ["network","switch","packets"] (spHP CR CW):=(vw TW B TY TH).mono (by omega)
 have DP:aF P w K mg base CX0 9 CW "packets_at" ["self","switch","pattern"] (eV K CR CW):=(eE TW B TM).mono (by omega)
 refine⟨_,ad (ao (i:=2) nd rfl (Or.inl rfl) (aJ (pv 0) TW.cl DP hr aA (aa (aE aB (pv 1) ak (fun _ _=>rfl)) (aa (bT (v:=.ref ev) rfl hev rfl) af))))
  (ah (au (az DS hr rfl aA (aa (az DH hr rfl aA (aa (pv 0) (aa (aE aB (pv 1) ak (fun _ _=>rfl)) (aa (pv 2) af)))) af)))),?_⟩
 obtain⟨dx,fs,hp,hn⟩:=id hN
 have W:=hn.wf
 have ps:=aW W.w7
 refine⟨_,rfl,p,dx,fs,rfl,hp,hn.noM2.2.2,_,rfl,a,_,_,_,rfl,rfl,SqL.of ha,ax (j:=1) rfl,p,ev,n,tw,0,0,rfl,hN,hev2 _,fun H1 l ts s1 hl0 hl hts=>?_⟩
 refine⟨_,rfl,_,rfl,a,_,_,_,rfl,rfl,SqL.of (s1 _ _ ha),ax (j:=0) rfl,_,rfl,p,l,n,sw,ts,_,rfl,hN.same s1,hsw,hl,hts,Nat.le_trans gf (by omega),fun H2 m s2 hm0 hm=>?_⟩
 refine⟨m,_,n.wide,rfl,SqL.of hm,m7,W.w7,fun H3 l2 s3 hl3 hl4=>?_⟩
 refine k H3 l2 ((s1.trans s2).trans s3) (aN (s1.trans s2) hl3) ?_
 exact hl4.trans (congrArg (fun z=>some (HO.lst (List.map V.int z))) (df (S:=Vapktc.passing n sw tw) (Ms.eQ n sw _) (oV W hsw)))
def jM(n:Net)(ns ans:List Int):Prop:=∃ s t x y:Nat,ns=[(s:Int),(t:Int),(x:Int),(y:Int)]∧s < n.tables.length∧t < n.tables.length∧ans=Vapktc.flatForm n.wide (Vapktc.leading n s t (patternSet n.wide ⟨x,y⟩))
theorem iD:al ["network","numbers","there"] ["network","numbers"] (aj gT):=⟨rfl,rfl,rfl,by decide +kernel,rfl,by decide +kernel,by decide +kernel⟩
theorem oJ(TW:TxtW K mg CW)(B:TxtB mg)(TM:TxtF K mg "matches" bF ["header","pattern"])(TY:TxtF K mg "first_settled" cE ["onward","settled","otherwise"])(TH:TxtF K mg "headers_passing" sHP ["network","switch","packets"])(TF:TxtF K mg "one_form" dg ["members"])(TS:TxtF K mg "set_numbers" bZ ["members"])(T:TxtF K mg "answer_leading" gT ["network","numbers"]):aq P w K mg base CX0 10 "answer_leading" ["network","numbers"] (spA CR CW jM):=by
 refine T.def0 iD bL (fun f cdv A outer s H vs Q E hr h=>?_)
 obtain⟨p,a,n,ns,ans,rfl,hN,ha,⟨sw,tw,x,y,rfl,hsw,htw,rfl⟩,k⟩:=h
 have nd:=iD.nd
 have DS:aq P w K mg base CX0 9 "set_numbers" ["members"] (fV K):=eD TS TF B
 have DH:aq P w K mg base CX0 9 "headers_passing" ["network","switch","packets"] (spHP CR CW):=(vw TW B TY TH).mono (by omega)
 have DP:aF P w K mg base CX0 9 CW "packets_at" ["self","switch","pattern"] (eV K CR CW):=(eE TW B TM).mono (by omega)
 refine⟨_,ad (ao (i:=2) nd rfl (Or.inl rfl) (aJ (pv 0) TW.cl DP hr aA (aa (aE aB (pv 1) ak (fun _ _=>rfl)) (aa (aU (aa (aE aB (pv 1) ak (fun _ _=>rfl)) (aa (aE aB (pv 1) ak (fun _ _=>rfl)) af))) af))))
  (ah (au (az DS hr rfl aA (aa (az DH hr rfl aA (aa (pv 0) (aa (aE aB (pv 1) ak (fun _ _=>rfl)) (aa (pv 2) af)))) af)))),?_⟩
 obtain⟨dx,fs,hp,hn⟩:=id hN
 have W:=hn.wf
 have ps:=aW W.w7
 refine⟨_,rfl,p,dx,fs,rfl,hp,hn.noM2.2.2,_,rfl,a,_,_,_,rfl,rfl,SqL.of ha,ax (j:=1) rfl,_,rfl,a,_,_,_,rfl,rfl,SqL.of ha,ax (j:=2) rfl,_,rfl,a,_,_,_,rfl,rfl,SqL.of ha,ax (j:=3) rfl,by show 2≤sizeLine;decide,fun t ht=>?_⟩
 have s0:Same H (upd H t (.tup [.int (x:Int),.int (y:Int)])):=ai ht
 refine⟨p,t,n,tw,x,y,rfl,hN.same s0,SqT.of ac,fun H1 l ts s1' hl0 hl hts=>?_⟩
 have s1:=s0.trans s1'
 refine⟨_,rfl,_,rfl,a,_,_,_,rfl,rfl,SqL.of (s1 _ _ ha),ax (j:=0) rfl,_,rfl,p,l,n,sw,ts,_,rfl,hN.same s1,hsw,hl,hts,Nat.le_trans gf (by omega),fun H2 m s2 hm0 hm=>?_⟩
 refine⟨m,_,n.wide,rfl,SqL.of hm,m7,W.w7,fun H3 l2 s3 hl3 hl4=>?_⟩
 refine k H3 l2 ((s1.trans s2).trans s3) (aN (s1.trans s2) hl3) ?_
 exact hl4.trans (congrArg (fun z=>some (HO.lst (List.map V.int z))) (df (S:=Vapktc.leading n sw tw (patternSet n.wide ⟨x,y⟩)) (Ms.eQ n sw _) (qL W hsw ⟨x,y⟩)))
end
abbrev fN:Stmt:=top 35
abbrev pU:Stmt:=top 40
section
variable{P:Program}{w:World}{K:Frag}{mg:Str→Option Value}{base:Heap}{CR CW:Addr}
def p8(n:Net)(ns ans:List Int):Prop:=∃ (s:Nat) (e:Port),ns=[(s:Int),(e.switch:Int),(e.port:Int)]∧s < n.tables.length∧ans=Vapktc.flatForm n.wide (Vapktc.outAt n s e)
theorem lC:al ["network","numbers","wanted","headers","end"] ["network","numbers"] (aj mB):=⟨rfl,rfl,rfl,by decide +kernel,rfl,by decide +kernel,by decide +kernel⟩
def outH(n:Net)(s:Nat)(e:Port):List Nat:=((List.range (2 ^ n.wide)).filter fun h=>(Ms.dk n s e h).isSome).map fun h=>(Ms.dk n s e h).getD 0
theorem oz{n:Net}{s:Nat}{e:Port}{i:Nat}:i∈outH n s e↔∃ h,h < 2 ^ n.wide∧Ms.dk n s e h=some i:=by
 unfold outH
 rw[mem_map]
 constructor
 ·rintro⟨h,hh,rfl⟩
  obtain⟨h1,h2⟩:=mem_filter.mp hh
  obtain⟨g,hg⟩:=Option.isSome_iff_exists.mp h2
  exact⟨h,mem_range.mp h1,by rw[hg];rfl⟩
 ·rintro⟨h,h1,h2⟩
  exact⟨h,mem_filter.mpr ⟨mem_range.mpr h1,by rw[h2];rfl⟩,by rw[h2];rfl⟩
theorem wW{n:Net}(W:Mw.WF n){s:Nat}(hs:s < n.tables.length){e:Port}:∀ i∈outH n s e,i < 2 ^ n.wide:=fun i hi=>by
 obtain⟨h,h1,h2⟩:=oz.mp hi
 unfold Ms.dk at h2
 rcases Ms.qO W (x:=⟨s,h⟩) ⟨hs,h1⟩ with z | ⟨p',h',z,_,_,z2,_⟩ | ⟨_,_,z,_⟩ | ⟨_,z,_⟩
 ·rw[z] at h2
  cases h2
 ·rw[z] at h2
  dsimp only at h2
  split at h2
  ·cases h2
   exact z2
  ·cases h2
 ·rw[z] at h2
  cases h2
 ·rw[z] at h2
  cases h2
theorem qh{n:Net}{s:Nat}{e:Port}:setB n.wide (outH n s e)=Mm.aT n.wide (Vapktc.outAt n s e):=by
 symm
 unfold setB
 refine Ms.pw fun i _=>?_
 rw[Ms.lM,Bool.eq_iff_iff,any_eq_true,contains_iff_mem,oz]
 constructor
 ·rintro⟨h,h1,h2⟩
  exact⟨h,mem_range.mp h1,by simpa using h2⟩
 ·rintro⟨h,h1,h2⟩
  exact⟨h,mem_range.mpr h1,by simpa using h2⟩
theorem tJ(TW:TxtW K mg CW)(B:TxtB mg)(C:TxtC mg)(TN:TxtF K mg "without_header" eZ ["end"])(TO:TxtF K mg "set_of" gO ["headers","size"])(TF:TxtF K mg "one_form" dg ["members"])(TS:TxtF K mg "set_numbers" bZ ["members"])(T:TxtF K mg "answer_outat" mB ["network","numbers"]):aq P w K mg base CX0 10 "answer_outat" ["network","numbers"] (spA CR CW p8):=by
 refine T.def0 lC bL (fun f cdv A outer s H vs Q E hr h=>?_)
 obtain⟨p,a,n,ns,ans,rfl,hN,ha,⟨sw,ex,rfl,hsw,rfl⟩,k⟩:=h
 have nd:=lC.nd
 have DS:aq P w K mg base CX0 9 "set_numbers" ["members"] (fV K):=eD TS TF B
 have DO:aq P w K mg base CX0 9 "set_of" ["headers","size"] (i8 K):=(jU TO B).mono (by omega)
 have DN:aq P w K mg base CX0 9 "without_header" ["end"] dA:=(ia TN).mono (by omega)
 have DE:aF P w K mg base CX0 9 CW "ends_from" ["self","switch"] (cu CR CW):=(cI TW B).mono (by omega)
 refine⟨_,ad (ao (i:=2) nd rfl (Or.inr rfl) (aU (aa (pe_c C.atExit rfl) (aa (aE aB (pv 1) ak (fun _ _=>rfl)) (aa (aE aB (pv 1) ak (fun _ _=>rfl)) af)))))
  (ad (cF (g:=aY 4) (te:=tOp (rIxT K) (tVar 4) (tC (.int 3))) (tt:=fE (tOp (rEqD K) (jj dA [] E0 (cC (tVar 4) tNil)) (tVar 2))) (i:=3) (own:=[("end",4)]) rfl nd rfl rfl (cO rfl rfl rfl rfl) (be (aJ (pv 0) TW.cl DE hr aA (aa (aE aB (pv 1) ak (fun _ _=>rfl)) af))) (bb rfl)
   (fun _ _ _ _ _=>ay (i:=4) nd rfl (Or.inl rfl) (Or.inr rfl)) (fun _ _ _ _ _=>dh (aL (jR (by exact hr.units)) (az DN (by exact hr) rfl aA (aa (pv 4) af)) (pv 2) (aR _))) (fun _ _ _ _ _=>aE bg (pv 4) ak (by exact fun _ _=>rfl)))
  (ah (au (az DS hr rfl aA (aa (az DO hr rfl aA (aa (pv 3) (aa (aD (pv 0) rfl) af))) af))))),?_⟩
 refine⟨_,rfl,a,_,_,_,rfl,rfl,SqL.of ha,ax (j:=1) rfl,_,rfl,a,_,_,_,rfl,rfl,SqL.of ha,ax (j:=2) rfl,by show 3≤sizeLine;decide,fun t ht=>?_⟩
 have s0:Same H (upd H t (.tup [.int 0,.int (ex.switch:Int),.int (ex.port:Int)])):=ai ht
 have hN0:=hN.same s0
 obtain⟨dx,fs,hp,hn⟩:=id hN0
 have W:=hn.wf
 have ps:=aW W.w7
 refine⟨_,rfl,p,dx,fs,rfl,hp,hn.noM.2.2.2.2,_,rfl,a,_,_,_,rfl,rfl,SqL.of (s0 _ _ ha),ax (j:=0) rfl,p,n,sw,rfl,hN0,hsw,fun H1 l ts s1 hl1 hl2 hts=>?_⟩
 refine⟨l,rfl,⟨_,SqL.of hl2⟩,fun D hD=>?_⟩
 have lts:=gt hts
 refine eI (K:=K) (l0:=l) (xs:=ts.map V.ref) (fun i=>(Ms.dk n sw ex i).isSome) (fun i v _=>v=.int ((Ms.dk n sw ex i).getD 0:Nat)) hD (SqL.of hl2) (by rw[length_map];omega) (fun _ _ _ _ _ h=>h) ?_ ?_
 ·intro i x H' Nx hx s2 hys hno hyes
  rw[getElem?_map] at hx
  cases e:ts[i]? with
  | none=>
   rw[e] at hx
   cases hx
  | some u=>
   rw[e] at hx
   cases hx
   obtain⟨en,he1,he2⟩:=aC hts e
   obtain⟨hi,hen⟩:=gu he1
   refine⟨rfl,_,rfl,u,en,rfl,s2 _ _ he2,fun H2 t' s3 ht'=>?_⟩
   have htt:H2 t=some (.tup ([(0:Int),(ex.switch:Int),(ex.port:Int)].map V.int)):=s3 _ _ (s2 _ _ (s1 _ _ ac))
   refine⟨_,rfl,_,_,.tup (SqT.of ht') (cA _),.tup (SqT.of htt) (cA _),dB _,dB _,_,rfl,?_⟩
   have ev:PyData.eqv (.tuple ((Ms.e3 en).map PyData.int)) (.tuple ([(0:Int),(ex.switch:Int),(ex.port:Int)].map PyData.int))=(Ms.dk n sw ex i).isSome:=by
    show PyData.eqvAll _ _=_
    rw[eM,r0]
    unfold Ms.dk
    rw[←hen]
    cases en with
    | exit q g=>
     dsimp only
     by_cases hq:q=ex
     ·rw[if_pos hq]
      simpa using hq
     ·rw[if_neg hq]
      simpa using hq
    | _=>rfl
   rw[ev]
   cases ho:Ms.dk n sw ex i with
   | none=>exact iteF (hno (by rw[ho];rfl) _ s3)
   | some g=>
    have hex:∃ q,en=.exit q g:=by
     unfold Ms.dk at ho
     rw[←hen] at ho
     cases en with
     | exit q g'=>
      dsimp only at ho
      split at ho
      ·cases ho
       exact⟨q,rfl⟩
      ·cases ho
     | _=>cases ho
    obtain⟨q,rfl⟩:=hex
    refine iteT ⟨_,rfl,u,_,_,_,rfl,rfl,SqT.of (s3 _ _ (s2 _ _ he2)),ax (j:=3) rfl,?_⟩
    refine hyes (by rw[ho];rfl) _ _ s3 ?_
    rw[ho]
    rfl
 ·intro H2 ys s2 hD2 hpr
  have ey:=cH (H:=H2) hpr
  rw[length_map,lts] at ey
  have ey2:ys=(outH n sw ex).map fun(h:Nat)=>V.int (h:Int):=by
   rw[ey]
   unfold outH
   rw[map_map]
   rfl
  rw[ey2] at hD2
  obtain⟨dx2,fs2,hp2,hn2⟩:=id (hN0.same (s1.trans s2))
  refine⟨_,rfl,_,rfl,p,CW,dx2,fs2,_,rfl,hp2,TW.cl,TW.n3,hn2.size,D,n.wide,outH n sw ex,rfl,W.w7,hD2,wW W hsw,fun H3 m s3 hm0 hm=>?_⟩
  refine⟨m,_,n.wide,rfl,SqL.of hm,by simp[setB],W.w7,fun H4 l2 s4 hl3 hl4=>?_⟩
  have sA:=(s0.trans s1).trans (s2.trans s3)
  refine k H4 l2 (sA.trans s4) (aN sA hl3) ?_
  exact hl4.trans (congrArg (fun z=>some (HO.lst (List.map V.int z))) (df (S:=Vapktc.outAt n sw ex) (Ms.vk W hsw ex) qh))
def gX(n:Net)(ns ans:List Int):Prop:=∃ s x y t:Nat,ns=[(s:Int),(x:Int),(y:Int),(t:Int)]∧s < n.tables.length∧ans=Vapktc.flatForm n.wide (Vapktc.arriving n s (patternSet n.wide ⟨x,y⟩) t)
theorem fZ:al ["network","numbers","starts","passed","headers","switch","header"] ["network","numbers"] (aj fN):=⟨rfl,rfl,rfl,by decide +kernel,rfl,by decide +kernel,by decide +kernel⟩
def hdrs(p:Packet→Bool)(r:List Packet):List Nat:=((List.range r.length).filter fun i=>(r[i]?).any p).map fun i=>((r[i]?).map (·.header)).getD 0
theorem gp{p:Packet→Bool}{r:List Packet}{h:Nat}:h∈hdrs p r↔∃ x∈r,p x=true∧x.header=h:=by
 unfold hdrs
 rw[mem_map]
 constructor
 ·rintro⟨i,hi,rfl⟩
  obtain⟨h1,h2⟩:=mem_filter.mp hi
  have hl:=mem_range.mp h1
  rw[getElem?_eq_getElem hl] at h2 ⊢
  exact⟨r[i],List.getElem_mem hl,by simpa using h2,rfl⟩
 ·rintro⟨x,hx,h1,h2⟩
  obtain⟨i,hi,e⟩:=List.mem_iff_getElem.mp hx
  refine⟨i,mem_filter.mpr ⟨mem_range.mpr hi,?_⟩,?_⟩
  ·rw[getElem?_eq_getElem hi,e]
   simpa using h1
  ·rw[getElem?_eq_getElem hi,e]
   exact h2
theorem o4{p:Packet→Bool}{r:List Packet}{ys:List V}(h:ys=((List.range r.length).filter fun i=>(r[i]?).any p).map fun i=>V.int (((r[i]?).map (·.header)).getD 0:Nat)):ys=(hdrs p r).map fun(h:Nat)=>V.int (h:Int):=by
 rw[h]
 unfold hdrs
 rw[map_map]
 rfl
theorem uc{n:Net}(W:Mw.WF n){s t:Nat}{q:VapktBase.Pattern}(hs:s < n.tables.length){r:List Packet}(hr:Mw.bR n (pksM n s q) [] r):setB n.wide (hdrs (fun x=>x.switch == t) r)=Mm.aT n.wide (Vapktc.arriving n s (patternSet n.wide q) t):=by
 rw[Ms.kJ W hs]
 unfold setB
 apply map_congr_left
 intro i hi
 rw[Bool.eq_iff_iff,contains_iff_mem,gp,any_eq_true]
 constructor
 ·rintro⟨x,hx,h1,h2⟩
  obtain⟨y,hy,hxy⟩:=(hr.mem0 W (jO hs) x).mp hx
  obtain⟨e1,e2,e3⟩:=cf.mp hy
  have ey:y=⟨s,y.header⟩:=by
   cases y
   cases e1
   rfl
  refine⟨y.header,mem_range.mpr e2,?_⟩
  rw[Bool.and_eq_true]
  refine⟨e3,any_eq_true.mpr ⟨x,by rw[←ey];exact hxy,?_⟩⟩
  rw[Bool.and_eq_true]
  exact⟨h1,by simpa using h2⟩
 ·rintro⟨h,hh,e⟩
  rw[Bool.and_eq_true] at e
  obtain⟨x,hx,e2⟩:=any_eq_true.mp e.2
  rw[Bool.and_eq_true] at e2
  exact⟨x,(hr.mem0 W (jO hs) x).mpr ⟨⟨s,h⟩,cf.mpr ⟨rfl,mem_range.mp hh,e.1⟩,hx⟩,e2.1,by simpa using e2.2⟩
theorem mP(TW:TxtW K mg CW)(B:TxtB mg)(TM:TxtF K mg "matches" bF ["header","pattern"])(TP:TxtF K mg "packets_passed" cP ["onward","starts"])(TO:TxtF K mg "set_of" gO ["headers","size"])(TF:TxtF K mg "one_form" dg ["members"])(TS:TxtF K mg "set_numbers" bZ ["members"])(T:TxtF K mg "answer_arriving" fN ["network","numbers"]):aq P w K mg base CX0 10 "answer_arriving" ["network","numbers"] (spA CR CW gX):=by
 refine T.def0 fZ bL (fun f cdv A outer s H vs Q E hr h=>?_)
 obtain⟨p,a,n,ns,ans,rfl,hN,ha,⟨sw,x,y,tw,rfl,hsw,rfl⟩,k⟩:=h
 have nd:=fZ.nd
 have DS:aq P w K mg base CX0 9 "set_numbers" ["members"] (fV K):=eD TS TF B
 have DO:aq P w K mg base CX0 9 "set_of" ["headers","size"] (i8 K):=(jU TO B).mono (by omega)
 have DQ:aq P w K mg base CX0 9 "packets_passed" ["onward","starts"] fW:=(hZ TP B).mono (by omega)
 have DP:aF P w K mg base CX0 9 CW "packets_at" ["self","switch","pattern"] (eV K CR CW):=(eE TW B TM).mono (by omega)
 refine⟨_,ad (ao (i:=2) nd rfl (Or.inl rfl) (aJ (pv 0) TW.cl DP hr aA (aa (aE aB (pv 1) ak (fun _ _=>rfl)) (aa (aU (aa (aE aB (pv 1) ak (fun _ _=>rfl)) (aa (aE aB (pv 1) ak (fun _ _=>rfl)) af))) af))))
  (ad (ao (i:=3) nd rfl (Or.inl rfl) (az DQ hr rfl aA (aa (aD (pv 0) rfl) (aa (pv 2) af))))
  (ad (cF (g:=gTup K 2 (eL (aY 5) (eL (aY 6) gNil))) (te:=tVar 6) (tt:=fE (tOp rEq (tVar 5) (tOp (rIxL K) (tVar 1) (tC (.int 3))))) (i:=4) (own:=[("switch",5),("header",6)]) rfl nd rfl rfl (cO rfl rfl rfl rfl) (be (pv 3)) (bb rfl)
   (fun _ _ _ _ _=>fO (n:=2) rfl (bv (ay (i:=5) nd rfl (Or.inl rfl) (Or.inr rfl)) (bv (ay (i:=6) nd rfl (Or.inl rfl) (Or.inr rfl)) dM))) (fun _ _ _ _ _=>dh (aL bY (pv 5) (aE aB (pv 1) ak (by exact fun _ _=>rfl)) (aR _))) (fun _ _ _ _ _=>pv 6))
  (ah (au (az DS hr rfl aA (aa (az DO hr rfl aA (aa (pv 4) (aa (aD (pv 0) rfl) af))) af)))))),?_⟩
 obtain⟨dx,fs,hp,hn⟩:=id hN
 have W:=hn.wf
 have us:=cr W
 refine⟨_,rfl,p,dx,fs,rfl,hp,hn.noM2.2.2,_,rfl,a,_,_,_,rfl,rfl,SqL.of ha,ax (j:=0) rfl,_,rfl,a,_,_,_,rfl,rfl,SqL.of ha,ax (j:=1) rfl,_,rfl,a,_,_,_,rfl,rfl,SqL.of ha,ax (j:=2) rfl,by show 2≤sizeLine;decide,fun t ht=>?_⟩
 have s0:Same H (upd H t (.tup [.int (x:Int),.int (y:Int)])):=ai ht
 refine⟨p,t,n,sw,x,y,rfl,hN.same s0,SqT.of ac,fun H1 l ts s1' hl0 hl hts=>?_⟩
 have s1:=s0.trans s1'
 obtain⟨dx1,fs1,hp1,hn1⟩:=id (hN.same s1)
 obtain⟨oa,ko,ho1,ho2,ho3⟩:=hn1.onw
 refine⟨_,rfl,p,CW,dx1,fs1,_,rfl,hp1,TW.cl,TW.n6,ho1,_,rfl,oa,l,ko,n,ts,_,rfl,.inl ho2,W,ho3,hl,hts,jO hsw,fun H2 l2 qs r s2 hl20 hl2 hqs hnd hrU hpas=>?_⟩
 have lr:=Mw.few hnd hrU
 have lqs:qs.length=r.length:=Paired.length hqs
 refine⟨_,rfl,l2,rfl,⟨_,SqL.of hl2⟩,fun D hD=>?_⟩
 refine eI (K:=K) (l0:=l2) (xs:=qs.map V.ref) (fun i=>(r[i]?).any fun x=>x.switch == tw) (fun i v _=>v=.int (((r[i]?).map (·.header)).getD 0:Nat)) hD (SqL.of hl2) (by rw[length_map];omega) (fun _ _ _ _ _ h=>h) ?_ ?_
 ·intro i z H' Nx hz s3 hys hno hyes
  rw[getElem?_map] at hz
  cases e:qs[i]? with
  | none=>
   rw[e] at hz
   cases hz
  | some u=>
   rw[e] at hz
   cases hz
   obtain⟨xx,he1,he2⟩:=aC hqs e
   refine⟨u,_,rfl,SqT.of (s3 _ _ he2),rfl,_,_,rfl,_,_,rfl,rfl,rfl,_,rfl,_,rfl,a,_,_,_,rfl,rfl,SqL.of (s3 _ _ (s2 _ _ (s1 _ _ ha))),ax (j:=3) rfl,rfl,_,rfl,?_⟩
   rw[he1] at hno hyes
   have ee:decide (V.int ((xx.switch:Nat):Int)=V.int ((tw:Nat):Int))=(xx.switch == tw):=by
    rw[bU,Bool.eq_iff_iff,beq_iff_eq,beq_iff_eq]
    omega
   rw[ee]
   cases hq:xx.switch == tw with
   | true=>exact iteT ⟨_,rfl,hyes hq _ _ (Same.refl _) rfl⟩
   | false=>exact iteF (hno hq _ (Same.refl _))
 ·intro H3 ys s3 hD3 hpr
  have ey:=cH (H:=H3) hpr
  rw[length_map,lqs] at ey
  rw[o4 ey] at hD3
  obtain⟨dx2,fs2,hp2,hn2⟩:=id (hN.same (s1.trans (s2.trans s3)))
  refine⟨_,rfl,_,rfl,p,CW,dx2,fs2,_,rfl,hp2,TW.cl,TW.n3,hn2.size,D,n.wide,_,rfl,W.w7,hD3,fun h hh=>?_,fun H4 m s4 hm0 hm=>?_⟩
  ·obtain⟨z,hz,_,rfl⟩:=gp.mp hh
   exact(hrU z hz).2
  ·refine⟨m,_,n.wide,rfl,SqL.of hm,by simp[setB],W.w7,fun H5 l3 s5 hl3 hl4=>?_⟩
   have sA:=(s1.trans (s2.trans s3)).trans s4
   refine k H5 l3 (sA.trans s5) (aN sA hl3) ?_
   exact hl4.trans (congrArg (fun z=>some (HO.lst (List.map V.int z))) (df (S:=Vapktc.arriving n sw (patternSet n.wide ⟨x,y⟩) tw) (Ms.pA W hsw _ tw) (uc W hsw hpas)))
def uT(n:Net)(ns ans:List Int):Prop:=∃ (s i:Nat) (ins:List Nat),ns=(s:Int)::(i:Int)::ins.map (fun(q:Nat)=>(q:Int))∧s < n.tables.length∧(∀ q∈ins,q < n.tables.length)∧ins.length≤5∧ans=Vapktc.flatForm n.wide (Vapktc.used n ins s i)
theorem nZ:al ["network","numbers","at_rule","starts","switch","passed","headers","packet"] ["network","numbers"] (aj pU):=⟨rfl,rfl,rfl,by decide +kernel,rfl,by decide +kernel,by decide +kernel⟩
def numD:Option Nat→PyData
 | some i=>.int (i:Int)
 | none=>.none
theorem dp_num{H:Hp}(o:Option Nat):Dp K H (numV o) (numD o):=by
 cases o with
 | none=>exact .non
 | some i=>exact .int _
theorem xi(a b:Nat)(o:Option Nat)(i:Nat):PyData.eqv (.tuple [.int (a:Int),numD o]) (.tuple [.int (b:Int),.int (i:Int)])=(a == b && o == some i):=by
 show(((a:Int) == (b:Int)) && (PyData.eqv (numD o) (.int (i:Int)) && true))=_
 rw[Bool.and_true]
 have e1:((a:Int) == (b:Int))=(a == b):=by
  rw[Bool.eq_iff_iff,beq_iff_eq,beq_iff_eq]
  omega
 rw[e1]
 congr 1
 cases o with
 | none=>rfl
 | some j=>
  show((j:Int) == (i:Int))=(some j == some i)
  rw[Bool.eq_iff_iff,beq_iff_eq,beq_iff_eq]
  constructor
  ·intro z
   rw[Int.ofNat.inj z]
  ·intro z
   cases z
   rfl
theorem qx(a:Nat)(o:Option Nat):SeqAt.shaped (.tuple [.int (a:Int),numD o])=true:=by
 cases o<;>rfl
def gg(n:Net)(ins:List Nat):List Packet:=ins.flatMap fun q=>pksM n q ⟨0,0⟩
theorem fi{n:Net}{ins:List Nat}{x:Packet}:x∈gg n ins↔x.switch∈ins∧x.header < 2 ^ n.wide:=by
 unfold gg
 rw[mem_flatMap]
 constructor
 ·rintro⟨q,hq,h⟩
  obtain⟨h1,h2,_⟩:=cf.mp h
  exact⟨by rw[h1];exact hq,h2⟩
 ·rintro⟨h1,h2⟩
  exact⟨x.switch,h1,cf.mpr ⟨rfl,h2,ie _⟩⟩
theorem lL{n:Net}(W:Mw.WF n):∀ ins:List Nat,(gg n ins).length≤128*ins.length
 | []=>Nat.le_refl _
 | q::r=>by
  have ih:=lL W r
  have h1:=gf (n:=n) (s:=q) (p:=⟨0,0⟩)
  have ps:=aW W.w7
  show(pksM n q ⟨0,0⟩++gg n r).length≤_
  rw[length_append,length_cons]
  omega
theorem uj{n:Net}(W:Mw.WF n){s i:Nat}{ins:List Nat}(hi:∀ q∈ins,q < n.tables.length){r:List Packet}(hr:Mw.bR n (gg n ins) [] r):setB n.wide (hdrs (fun x=>x.switch == s && ruleFor (n.table x.switch) x.header == some i) r)=Mm.aT n.wide (Vapktc.used n ins s i):=by
 have hU:∀ x∈gg n ins,Mw.InU n x:=fun x hx=>by
  obtain⟨h1,h2⟩:=fi.mp hx
  exact⟨hi _ h1,h2⟩
 rw[Ms.pI]
 unfold setB
 apply map_congr_left
 intro h hh
 rw[Bool.eq_iff_iff,contains_iff_mem,gp,Bool.and_eq_true,any_eq_true]
 constructor
 ·rintro⟨x,hx,h1,h2⟩
  rw[Bool.and_eq_true] at h1
  have e1:x.switch=s:=by simpa using h1.1
  obtain⟨y,hy,hxy⟩:=(hr.mem0 W hU x).mp hx
  obtain⟨f1,f2⟩:=fi.mp hy
  refine⟨⟨y.switch,f1,any_eq_true.mpr ⟨y.header,mem_range.mpr f2,any_eq_true.mpr ⟨x,hxy,?_⟩⟩⟩,?_⟩
  ·rw[Bool.and_eq_true]
   exact⟨h1.1,by simpa using h2⟩
  ·rw[←e1,←h2]
   exact h1.2
 ·rintro⟨⟨q,hq,e⟩,h2⟩
  obtain⟨g,hg,e⟩:=any_eq_true.mp e
  obtain⟨x,hx,e⟩:=any_eq_true.mp e
  rw[Bool.and_eq_true] at e
  have e1:x.switch=s:=by simpa using e.1
  have e2:x.header=h:=by simpa using e.2
  refine⟨x,(hr.mem0 W hU x).mpr ⟨⟨q,g⟩,fi.mpr ⟨hq,mem_range.mp hg⟩,hx⟩,?_,e2⟩
  rw[Bool.and_eq_true,e1,e2]
  exact⟨by simp,h2⟩
theorem Paired.app{α β:Type}{F:α→β→Prop}:∀ {l l':List α} {r r':List β},Paired F l r→Paired F l' r'→Paired F (l++l') (r++r')
 | _,_,_,_,.nil,h=>h
 | _,_,_,_,.cons a t,h=>.cons a (Paired.app t h)
theorem vB(TW:TxtW K mg CW)(B:TxtB mg)(TE:TxtE K mg)(TM:TxtF K mg "matches" bF ["header","pattern"])(TP:TxtF K mg "packets_passed" cP ["onward","starts"])(TO:TxtF K mg "set_of" gO ["headers","size"])(TF:TxtF K mg "one_form" dg ["members"])(TS:TxtF K mg "set_numbers" bZ ["members"])(T:TxtF K mg "answer_used" pU ["network","numbers"]):aq P w K mg base CX0 10 "answer_used" ["network","numbers"] (spA CR CW uT):=by
 refine T.def0 nZ bL (fun f cdv A outer s H vs Q E hr h=>?_)
 obtain⟨p,a,n,ns,ans,rfl,hN,ha,⟨sw,ru,ins,rfl,hsw,hins,h5,rfl⟩,k⟩:=h
 have nd:=nZ.nd
 have hu:=dr hr
 obtain⟨ev,hev,hev2⟩:=TE.ex
 have DS:aq P w K mg base CX0 9 "set_numbers" ["members"] (fV K):=eD TS TF B
 have DO:aq P w K mg base CX0 9 "set_of" ["headers","size"] (i8 K):=(jU TO B).mono (by omega)
 have DQ:aq P w K mg base CX0 9 "packets_passed" ["onward","starts"] fW:=(hZ TP B).mono (by omega)
 have DP:aF P w K mg base CX0 9 CW "packets_at" ["self","switch","pattern"] (eV K CR CW):=(eE TW B TM).mono (by omega)
 refine⟨_,ad (ao (i:=2) nd rfl (Or.inr rfl) (aU (aa (aE aB (pv 1) ak (fun _ _=>rfl)) (aa (aE aB (pv 1) ak (fun _ _=>rfl)) af))))
  (ad (ao (i:=3) nd rfl (Or.inl rfl) (bz af))
  (ad (bx PassesOwn.never rfl (be (cG eY (pv 1) (cz ak) ff)) (ay (i:=4) nd rfl (Or.inl rfl)) (ah (b9 (eu PySem.F.plainAttrs_list PySem.F.slot_list_extend PySem.F.type_list_extend ib (pv 3) (aa (aJ (pv 0) TW.cl DP hr aA (aa (pv 4) (aa (bT (v:=.ref ev) rfl hev rfl) af))) af)))))
  (ad (ao (i:=5) nd rfl (Or.inl rfl) (az DQ hr rfl aA (aa (aD (pv 0) rfl) (aa (pv 3) af))))
  (ad (cF (g:=aY 7) (te:=tOp (rIxT K) (tVar 7) (tC (.int 1))) (tt:=fE (tOp (rEqD K) (tTup (cC (tOp (rIxT K) (tVar 7) (tC (.int 0))) (cC (ji (tFld K (tVar 0) "counting") (tVar 7)) tNil))) (tVar 2))) (i:=6) (own:=[("packet",7)]) rfl nd rfl rfl (cO rfl rfl rfl rfl) (be (pv 5)) (bb rfl)
   (fun _ _ _ _ _=>ay (i:=7) nd rfl (Or.inl rfl) (Or.inr rfl)) (fun _ _ _ _ _=>dh (aL (jR (by exact hr.units)) (aU (aa (aE bg (pv 7) ak (by exact fun _ _=>rfl)) (aa (bC (by exact hu) (aD (pv 0) (by rfl)) (pv 7) (by exact fun _ _=>rfl)) af))) (pv 2) (aR _))) (fun _ _ _ _ _=>aE bg (pv 7) ak (by exact fun _ _=>rfl)))
  (ah (au (az DS hr rfl aA (aa (az DO hr rfl aA (aa (pv 6) (aa (aD (pv 0) rfl) af))) af)))))))),?_⟩
 obtain⟨dx,fs,hp,hn⟩:=id hN
 have W:=hn.wf
 have us:=cr W
 refine⟨_,rfl,a,_,_,_,rfl,rfl,SqL.of ha,ax (j:=0) rfl,_,rfl,a,_,_,_,rfl,rfl,SqL.of ha,ax (j:=1) rfl,by show 2≤sizeLine;decide,fun t ht=>?_⟩
 have s0:Same H (upd H t (.tup [.int (sw:Int),.int (ru:Int)])):=ai ht
 have ht0:upd H t (.tup [.int (sw:Int),.int (ru:Int)]) t=some (.tup [.int (sw:Int),.int (ru:Int)]):=ac
 generalize upd H t (.tup [.int (sw:Int),.int (ru:Int)])=H0 at s0 ht0
 refine⟨by show 0≤sizeLine;decide,fun L hL=>?_⟩
 have s1:Same H0 (upd H0 L (.lst [])):=ai hL
 refine⟨_,rfl,_,rfl,a,_,rfl,SqL.of (s1 _ _ (s0 _ _ ha)),fun z hz=>?_⟩
 have hcut:cutV (((sw:Int)::(ru:Int)::ins.map (fun(q:Nat)=>(q:Int))).map V.int) (some (2:Int)) none=ins.map (fun(q:Nat)=>V.int (q:Int)):=by
  rw[show(2:Int)=((2:Nat):Int) from rfl,si]
  show(ins.map (fun(q:Nat)=>(q:Int))).map V.int=_
  rw[map_map]
  rfl
 rw[hcut]
 have nzL:L≠z:=ae ac hz
 have hL0:H L=none:=aN s0 hL
 refine⟨z,rfl,⟨_,SqL.of ac⟩,bP (K:=K) (a:=z) (xs:=ins.map (fun(q:Nat)=>V.int (q:Int)))
  (fun i σ H'=>∃ (v4:Option V) (ts:List Addr),σ=[some (.ref p),some (.ref a),some (.ref t),some (.ref L),v4,none,none,none]∧Same H0 H'∧H' z=some (.lst (ins.map (fun(q:Nat)=>V.int (q:Int))))∧H' L=some (.lst (ts.map V.ref))∧cp H' ts (gg n (ins.take i)))
  ⟨none,[],rfl,s1.trans (ai hz),ac,by rw[ag nzL];exact ac,.nil⟩ (fun i σ H' _ ⟨_,_,_,_,hz',_⟩=>SqL.of hz') ?_ ?_⟩
 ·rintro i y σ H' hy ⟨v4,ts,rfl,s2,hz2,hL2,hts⟩
  rw[getElem?_map] at hy
  cases e:ins[i]? with
  | none=>
   rw[e] at hy
   cases hy
  | some q=>
   rw[e] at hy
   cases hy
   have hq:=hins q (mem_of_getElem? e)
   have hil:=(List.getElem?_eq_some_iff.mp e).1
   have hN2:=hN.same (s0.trans s2)
   obtain⟨dx2,fs2,hp2,hn2⟩:=id hN2
   refine⟨_,rfl,.inl ⟨rfl,_,SqL.of hL2⟩,_,rfl,p,dx2,fs2,rfl,hp2,hn2.noM2.2.2,_,rfl,p,ev,n,q,0,0,rfl,hN2,hev2 _,fun H3 l ts2 s3 hl0 hl hts2=>?_⟩
   have lts:=Paired.length hts
   have lts2:=Paired.length hts2
   have b1:=lL W (ins.take i)
   have b2:=gf (n:=n) (s:=q) (p:=⟨0,0⟩)
   have ps:=aW W.w7
   rw[length_take] at b1
   refine⟨L,l,_,_,rfl,rfl,s3 _ _ hL2,hl,?_,?_⟩
   ·rw[length_map,length_map,lts,lts2]
    exact cD (m:=10000) (by omega)
   ·have nlL:L≠l:=ae hL2 hl0
    have keep:∀ b o,H3 b=some o→b≠L→upd H3 L (.lst (ts.map V.ref++ts2.map V.ref)) b=some o:=fun b o e nb=>by
     rw[ag nb]
     exact e
    have tupk:∀ b xs,H3 b=some (.tup xs)→upd H3 L (.lst (ts.map V.ref++ts2.map V.ref)) b=some (.tup xs):=fun b xs e=>keep _ _ e (aP e (s3 _ _ hL2) (by intro z;cases z))
    refine⟨_,ts++ts2,rfl,fun b o e=>keep _ _ (s3 _ _ (s2 _ _ e)) (ae e hL),keep _ _ (s3 _ _ hz2) nzL.symm,by rw[ac,map_append],?_⟩
    rw[aV e]
    unfold gg
    rw[flatMap_append]
    have e3:[q].flatMap (fun q=>pksM n q ⟨0,0⟩)=pksM n q ⟨0,0⟩:=by simp
    rw[e3]
    exact Paired.app (Paired.mapP hts fun u x e=>tupk _ _ (s3 _ _ e)) (Paired.mapP hts2 fun u x e=>tupk _ _ e)
 ·rintro σ H1 ⟨v4,ts,rfl,s2,hz2,hL2,hts⟩
  rw[length_map,take_length] at hts
  have s1:=s0.trans s2
  obtain⟨dx1,fs1,hp1,hn1⟩:=id (hN.same s1)
  obtain⟨oa,ko,ho1,ho2,ho3⟩:=hn1.onw
  have hU:∀ x∈gg n ins,Mw.InU n x:=fun x hx=>by
   obtain⟨h1,h2⟩:=fi.mp hx
   exact⟨hins _ h1,h2⟩
  refine⟨_,rfl,p,CW,dx1,fs1,_,rfl,hp1,TW.cl,TW.n6,ho1,_,rfl,oa,L,ko,n,ts,_,rfl,.inl ho2,W,ho3,hL2,hts,hU,fun H2 l2 qs r s2' hl20 hl2 hqs hnd hrU hpas=>?_⟩
  have lr:=Mw.few hnd hrU
  have lqs:qs.length=r.length:=Paired.length hqs
  have ht2:=s2' _ _ (s2 _ _ ht0)
  obtain⟨dx2,fs2,hp2,hn2⟩:=id (hN.same (s1.trans s2'))
  obtain⟨ca,kc,hc1,hc2,hc3⟩:=hn2.cnt
  refine⟨_,rfl,l2,rfl,⟨_,SqL.of hl2⟩,fun D hD=>?_⟩
  refine eI (K:=K) (l0:=l2) (xs:=qs.map V.ref) (fun i=>(r[i]?).any fun x=>x.switch == sw && ruleFor (n.table x.switch) x.header == some ru) (fun i v _=>v=.int (((r[i]?).map (·.header)).getD 0:Nat)) hD (SqL.of hl2) (by rw[length_map];omega) (fun _ _ _ _ _ h=>h) ?_ ?_
  ·intro i z H' Nx hz s3 hys hno hyes
   rw[getElem?_map] at hz
   cases e:qs[i]? with
   | none=>
    rw[e] at hz
    cases hz
   | some u=>
    rw[e] at hz
    cases hz
    obtain⟨xx,he1,he2⟩:=aC hqs e
    have hxU:=hrU xx (mem_of_getElem? he1)
    refine⟨rfl,_,rfl,u,_,_,_,rfl,rfl,SqT.of (s3 _ _ he2),ax (j:=0) rfl,_,rfl,p,CW,dx2,fs2,_,rfl,s3 _ _ hp2,TW.cl,TW.n10,hc1,_,rfl,ca,numV (ruleFor (n.table xx.switch) xx.header),rfl,?_,by show 2≤sizeLine;decide,fun t3 ht3=>?_⟩
    ·rw[←hc3 xx hxU]
     exact DGet.t (k:=kk xx) (s3 _ _ hc2) (s3 _ _ he2)
    ·have s4:=ai (o:=.tup [.int (xx.switch:Int),numV (ruleFor (n.table xx.switch) xx.header)]) ht3
     refine⟨_,rfl,_,_,.tup (SqT.of ac) (.cons (.int _) (.cons (dp_num _) .nil)),.tup (SqT.of (s4 _ _ (s3 _ _ ht2))) (.cons (.int _) (.cons (.int _) .nil)),qx _ _,rfl,_,rfl,?_⟩
     rw[xi]
     rw[he1] at hno hyes
     cases hq:(xx.switch == sw && ruleFor (n.table xx.switch) xx.header == some ru) with
     | true=>
      refine iteT ⟨_,rfl,u,_,_,_,rfl,rfl,SqT.of (s4 _ _ (s3 _ _ he2)),ax (j:=1) rfl,?_⟩
      exact hyes hq _ _ s4 rfl
     | false=>exact iteF (hno hq _ s4)
  ·intro H3 ys s3 hD3 hpr
   have ey:=cH (H:=H3) hpr
   rw[length_map,lqs] at ey
   rw[o4 ey] at hD3
   obtain⟨dx3,fs3,hp3,hn3⟩:=id (hN.same (s1.trans (s2'.trans s3)))
   refine⟨_,rfl,_,rfl,p,CW,dx3,fs3,_,rfl,hp3,TW.cl,TW.n3,hn3.size,D,n.wide,_,rfl,W.w7,hD3,fun h hh=>?_,fun H4 m s4 hm0 hm=>?_⟩
   ·obtain⟨z,hz,_,rfl⟩:=gp.mp hh
    exact(hrU z hz).2
   ·refine⟨m,_,n.wide,rfl,SqL.of hm,by simp[setB],W.w7,fun H5 l3 s5 hl3 hl4=>?_⟩
    have sA:=(s1.trans (s2'.trans s3)).trans s4
    refine k H5 l3 (sA.trans s5) (aN sA hl3) ?_
    exact hl4.trans (congrArg (fun z=>some (HO.lst (List.map V.int z))) (df (S:=Vapktc.used n ins sw ru) (Ms.wE n ins sw ru) (uj W hins hpas)))
end
abbrev fM:Stmt:=top 39
section
variable{P:Program}{w:World}{K:Frag}{mg:Str→Option Value}{base:Heap}{CR CW:Addr}
def unkk:List Key→Packet
 | [.inl a,.inl b]=>⟨a.toNat,b.toNat⟩
 | _=>⟨0,0⟩
theorem qW(x:Packet):unkk (kk x)=x:=rfl
def dC(p:Port):PyData:=.tuple ([(p.switch:Int),(p.port:Int)].map PyData.int)
theorem tj(p:Port):(dC p).depth≤60:=by
 have:=(j9 [(p.switch:Int),(p.port:Int)]).2
 show PyData.depthAll _+1≤60
 omega
theorem lI(a b:Port):PyData.eqv (dC a) (dC b)=(some b == some a):=by
 show PyData.eqvAll _ _=_
 rw[eM,Bool.eq_iff_iff,decide_eq_true_iff,beq_iff_eq]
 cases a
 cases b
 simp
 omega
def viaI(n:Net)(ku:List (List Key × V))(e:Lk)(i:Nat):Bool:=(ku[i]?).any fun kv=>Ms.bK n (unkk kv.1) == some e.1 || Ms.bK n (unkk kv.1) == some e.2
def viaX(n:Net)(ku:List (List Key × V))(e:Lk):List Packet:=((List.range ku.length).filter (viaI n ku e)).map fun i=>unkk (((ku[i]?).map (·.1)).getD [])
theorem rh{n:Net}{x:Packet}{q:Port}(h:Ms.bK n x=some q)(hl:(ck n.links q).isSome=true):∃ y,stepOf n x=.ok y:=by
 unfold Ms.bK at h
 unfold stepOf
 cases e:ruleFor (n.table x.switch) x.header with
 | none=>
  rw[e] at h
  cases h
 | some i=>
  rw[e] at h
  dsimp only at h ⊢
  cases e2:VapktBase.actionAt (n.table x.switch) i with
  | drop=>
   rw[e2] at h
   cases h
  | send r p=>
   rw[e2] at h
   cases h
   obtain⟨y,hy⟩:=Option.isSome_iff_exists.mp hl
   have hy:VapktBase.linkFrom n ⟨x.switch,p⟩=some y:=hy
   dsimp only
   rw[hy]
   exact⟨_,rfl⟩
theorem lP{l:List Lk}{e:Lk}(h:e∈l):(ck l e.1).isSome=true∧(ck l e.2).isSome=true:=by
 have key:∀ p,p∈aQ l→(ck l p).isSome=true:=fun p hp=>by
  cases h:ck l p with
  | none=>exact absurd hp (fS.mp h)
  | some q=>rfl
 exact⟨key _ (mem_flatMap.mpr ⟨e,h,by simp⟩),key _ (mem_flatMap.mpr ⟨e,h,by simp⟩)⟩
theorem qU{H:Hp}{n:Net}{ku:List (List Key × V)}(hs:dW H ku n (Mw.InU n)){e:Lk}(he:e∈n.links){x:Packet}(hx:Mw.InU n x):x∈viaX n ku e↔(Ms.bK n x == some e.1 || Ms.bK n x == some e.2)=true:=by
 unfold viaX
 rw[mem_map]
 constructor
 ·rintro⟨i,hi,rfl⟩
  obtain⟨h1,h2⟩:=mem_filter.mp hi
  have hl:=mem_range.mp h1
  unfold viaI at h2
  rw[getElem?_eq_getElem hl] at h2 ⊢
  exact h2
 ·intro h
  have hok:∃ y,stepOf n x=.ok y:=by
   rw[Bool.or_eq_true,beq_iff_eq,beq_iff_eq] at h
   rcases h with z | z
   ·exact rh z (lP he).1
   ·exact rh z (lP he).2
  obtain⟨v,hv⟩:=Option.isSome_iff_exists.mp (hs.all x hx hok)
  obtain⟨kv,hkv,ek⟩:=mem_map.mp (i7 hv)
  obtain⟨i,hi,ei⟩:=List.mem_iff_getElem.mp hkv
  have eq:ku[i]?=some kv:=by rw[getElem?_eq_getElem hi,ei]
  refine⟨i,mem_filter.mpr ⟨mem_range.mpr hi,?_⟩,?_⟩
  ·unfold viaI
   rw[eq]
   show(Ms.bK n (unkk kv.1) == some e.1 || Ms.bK n (unkk kv.1) == some e.2)=true
   rw[ek,qW]
   exact h
  ·rw[eq]
   show unkk kv.1=x
   rw[ek,qW]
theorem sJ{H:Hp}{n:Net}(W:Mw.WF n){ku:List (List Key × V)}(hk:dW H ku n (Mw.InU n)){s l:Nat}(hs:s < n.tables.length){e:Lk}(he:n.links[l]?=some e):hpB n s (viaX n ku e)=Mm.aT n.wide (Vapktc.overLink n s l):=by
 rw[Ms.qg n s l he]
 unfold hpB
 apply map_congr_left
 intro h hh
 have hx:=Ms.eT W (x:=⟨s,h⟩) ⟨hs,mem_range.mp hh⟩
 have hm:=mem_of_getElem? he
 rw[Bool.eq_iff_iff,any_eq_true,any_eq_true]
 constructor
 ·rintro⟨x,h1,e⟩
  exact⟨x,h1,(qU hk hm (hx x h1)).mp (contains_iff_mem.mp e)⟩
 ·rintro⟨x,h1,e⟩
  exact⟨x,h1,contains_iff_mem.mpr ((qU hk hm (hx x h1)).mpr e)⟩
def gU(n:Net)(ns ans:List Int):Prop:=∃ s l:Nat,ns=[(s:Int),(l:Int)]∧s < n.tables.length∧l < n.links.length∧ans=Vapktc.flatForm n.wide (Vapktc.overLink n s l)
theorem fY:al ["network","numbers","link","sent","packet","port"] ["network","numbers"] (aj fM):=⟨rfl,rfl,rfl,by decide +kernel,rfl,by decide +kernel,by decide +kernel⟩
theorem mO(TW:TxtW K mg CW)(B:TxtB mg)(TY:TxtF K mg "first_settled" cE ["onward","settled","otherwise"])(TH:TxtF K mg "headers_passing" sHP ["network","switch","packets"])(TF:TxtF K mg "one_form" dg ["members"])(TS:TxtF K mg "set_numbers" bZ ["members"])(T:TxtF K mg "answer_overlink" fM ["network","numbers"]):aq P w K mg base CX0 10 "answer_overlink" ["network","numbers"] (spA CR CW gU):=by
 refine T.def0 fY bL (fun f cdv A outer s H vs Q E hr h=>?_)
 obtain⟨p,a,n,ns,ans,rfl,hN,ha,⟨sw,lk,rfl,hsw,hlk,rfl⟩,k⟩:=h
 have nd:=fY.nd
 have DS:aq P w K mg base CX0 9 "set_numbers" ["members"] (fV K):=eD TS TF B
 have DH:aq P w K mg base CX0 9 "headers_passing" ["network","switch","packets"] (spHP CR CW):=(vw TW B TY TH).mono (by omega)
 refine⟨_,ad (ao (i:=2) nd rfl (Or.inr rfl) (aE aB (aD (pv 0) rfl) (aE aB (pv 1) ak (fun _ _=>rfl)) (fun _ _=>rfl)))
  (ad (gd (cF (g:=gTup K 2 (eL (aY 4) (eL (aY 5) gNil))) (te:=tVar 4) (tt:=fE (tOp (rInD K) (tVar 5) (tVar 2))) (i:=3) (own:=[("packet",4),("port",5)]) rfl nd rfl rfl (cO rfl rfl rfl rfl) (tq (aD (pv 0) rfl)) (bb rfl)
   (fun _ _ _ _ _=>fO (n:=2) rfl (bv (ay (i:=4) nd rfl (Or.inl rfl) (Or.inr rfl)) (bv (ay (i:=5) nd rfl (Or.inl rfl) (Or.inr rfl)) dM))) (fun _ _ _ _ _=>dh (aL (op_inD (by exact hr.units)) (pv 5) (pv 2) (by rfl))) (fun _ _ _ _ _=>pv 4)))
  (ah (au (az DS hr rfl aA (aa (az DH hr rfl aA (aa (pv 0) (aa (aE aB (pv 1) ak (fun _ _=>rfl)) (aa (pv 3) af)))) af))))),?_⟩
 obtain⟨dx,fs,hp,hn⟩:=id hN
 have W:=hn.wf
 obtain⟨la,ts,hl1,hl2,hl3⟩:=hn.links
 obtain⟨d,ku,hd1,hd2,hd3,hd4⟩:=hn.sent
 have lts:ts.length=n.links.length:=Paired.length hl3
 obtain⟨lt,hlt⟩:∃ lt,ts[lk]?=some lt:=⟨ts[lk]'(by omega),getElem?_eq_getElem (by omega)⟩
 obtain⟨e,he,ea,eb,he1,he2,he3⟩:=aC hl3 hlt
 refine⟨_,rfl,p,CW,dx,fs,_,rfl,hp,TW.cl,TW.n9,hl1,_,rfl,a,_,_,_,rfl,rfl,SqL.of ha,ax (j:=1) rfl,la,_,_,_,rfl,rfl,SqL.of hl2,ax (j:=lk) (by rw[getElem?_map,hlt];rfl),?_⟩
 refine⟨d,_,hd2,trivial,fun od=>?_⟩
 have npd:p≠d:=aP hp hd2 (by intro z;cases z)
 refine⟨_,rfl,p,CW,dx,fs,_,rfl,by rw[ag npd];exact hp,TW.cl,TW.n11,hd1,d,od,ku,rfl,ac,fun D hD=>?_⟩
 have nDd:D≠d:=(ae ac hD).symm
 have hD0:H D=none:=by
  rw[ag nDd] at hD
  exact hD
 have tl:∀ b xs,H b=some (.tup xs)→upd H d (.frz od (.dT ku)) b=some (.tup xs):=fun b xs e=>by
  rw[ag (aP e hd2 (by intro z;cases z))]
  exact e
 refine vL (d:=d) (o:=od) (kvs:=ku) (viaI n ku e) (fun i v H'=>∃ t,v=.ref t∧∀ kv,ku[i]?=some kv→(TupN H' t (unkk kv.1).switch (unkk kv.1).header∧t≠D)) hD ac (by omega) ?_ ?_ ?_
 ·rintro i v H1 H2 sx ⟨t,e1,e2⟩
  exact⟨t,e1,fun kv hkv=>⟨sx _ _ (e2 kv hkv).2 (e2 kv hkv).1,(e2 kv hkv).2⟩⟩
 ·intro i kx v q T H' Nx hkv s1 hys hT hq hno hyes
  obtain⟨x,pt,u,hxU,ekv,hsb,hpu⟩:=hd4.each _ (mem_of_getElem? hkv)
  cases ekv
  have s2:=ai (o:=.tup [.ref q,.ref u]) hT
  have hv:viaI n ku e i=(Ms.bK n x == some e.1 || Ms.bK n x == some e.2):=by
   unfold viaI
   rw[hkv]
   rfl
  have up:upd H' T (.tup [.ref q,.ref u]) u=some (.tup ([(pt.switch:Int),(pt.port:Int)].map V.int)):=s2 _ _ (s1 _ _ (tl _ _ hpu))
  have a1:upd H' T (.tup [.ref q,.ref u]) ea=some (.tup ([(e.1.switch:Int),(e.1.port:Int)].map V.int)):=s2 _ _ (s1 _ _ (tl _ _ he2))
  have a2:upd H' T (.tup [.ref q,.ref u]) eb=some (.tup ([(e.2.switch:Int),(e.2.port:Int)].map V.int)):=s2 _ _ (s1 _ _ (tl _ _ he3))
  have a0:upd H' T (.tup [.ref q,.ref u]) lt=some (.tup [.ref ea,.ref eb]):=s2 _ _ (s1 _ _ (tl _ _ he1))
  refine⟨T,_,rfl,SqT.of ac,rfl,_,_,rfl,_,_,rfl,rfl,rfl,_,rfl,_,rfl,dC pt,[dC e.1,dC e.2],.tup (SqT.of up) (cA _),.tup (SqT.of a0) (.cons (.tup (SqT.of a1) (cA _)) (.cons (.tup (SqT.of a2) (cA _)) .nil)),rfl,rfl,tj pt,_,rfl,?_⟩
  have ev:([dC e.1,dC e.2].any fun z=>z.eqv (dC pt))=viaI n ku e i:=by
   rw[hv,hsb]
   show(PyData.eqv (dC e.1) (dC pt) || (PyData.eqv (dC e.2) (dC pt) || false))=_
   rw[lI,lI,Bool.or_false]
  rw[ev]
  cases hb:viaI n ku e i with
  | true=>
   refine iteT ⟨_,rfl,hyes hb _ _ s2 ⟨q,rfl,fun kv hkv'=>?_⟩⟩
   rw[hkv] at hkv'
   cases hkv'
   obtain⟨ys,hys⟩:=hys
   exact⟨s2 _ _ hq,aP hq hys (by intro z;cases z)⟩
  | false=>exact iteF (hno hb _ s2)
 ·intro H2 ys s1 hD2 hpr
  have hdz:=s1 _ _ (ac (H:=H) (a:=d) (o:=.frz od (.dT ku)))
  refine⟨hdz,?_⟩
  have sF:Same H (upd H2 d (.dT ku)):=fun b o e=>by
   by_cases q:b=d
   ·subst q
    rw[hd2] at e
    cases e
    rw[ac]
   ·rw[ag q]
    exact s1 _ _ (by rw[ag q];exact e)
  obtain⟨us,rfl,hus⟩:=dj hpr
  have hD3:upd H2 d (.dT ku) D=some (.lst (us.map V.ref)):=by
   rw[ag nDd]
   exact hD2
  have pk2:cp (upd H2 d (.dT ku)) us (viaX n ku e):=by
   unfold viaX
   refine dN (F:=fun t (x:Packet)=>TupN (upd H2 d (.dT ku)) t x.switch x.header) (f:=fun(i:Nat)=>unkk (((ku[i]?).map (fun kv=>kv.1)).getD [])) ?_
   have hj:∀ j∈(List.range ku.length).filter (viaI n ku e),j < ku.length:=fun j hj=>mem_range.mp (mem_filter.mp hj).1
   have gen:∀ {us:List Addr} {js:List Nat},Paired (fun t j=>∀ kv,ku[j]?=some kv→(TupN H2 t (unkk kv.1).switch (unkk kv.1).header∧t≠D)) us js→(∀ j∈js,j < ku.length)→Paired (fun t (i:Nat)=>TupN (upd H2 d (.dT ku)) t (unkk (((ku[i]?).map (fun kv=>kv.1)).getD [])).switch (unkk (((ku[i]?).map (fun kv=>kv.1)).getD [])).header) us js:=by
    intro us js h
    induction h with
    | nil=>exact fun _=>.nil
    | cons r t ih=>
     intro hj
     refine .cons ?_ (ih fun j h=>hj j (by simp[h]))
     have hl:=hj _ (mem_cons_self ..)
     obtain⟨h1,h2⟩:=r _ (getElem?_eq_getElem hl)
     rw[getElem?_eq_getElem hl]
     show upd H2 d (.dT ku) _=_
     rw[ag (aP h1 hdz (by intro z;cases z))]
     exact h1
   exact gen hus hj
  have lv:(viaX n ku e).length≤1000:=by
   unfold viaX
   rw[length_map]
   have:=gr (p:=viaI n ku e) (i:=ku.length)
   omega
  refine⟨_,rfl,_,rfl,a,_,_,_,rfl,rfl,SqL.of (sF _ _ ha),ax (j:=0) rfl,_,rfl,p,D,n,sw,us,_,rfl,hN.same sF,hsw,hD3,pk2,lv,fun H3 m s2 hm0 hm=>?_⟩
  refine⟨m,_,n.wide,rfl,SqL.of hm,m7,W.w7,fun H4 l2 s3 hl3 hl4=>?_⟩
  refine k H4 l2 ((sF.trans s2).trans s3) (aN (sF.trans s2) hl3) ?_
  exact hl4.trans (congrArg (fun z=>some (HO.lst (List.map V.int z))) (df (S:=Vapktc.overLink n sw lk) (Ms.eQ n sw _) (sJ W hd4 hsw he)))
end
abbrev mC:Stmt:=top 37
abbrev gS:Stmt:=top 38
section
variable{P:Program}{w:World}{K:Frag}{mg:Str→Option Value}{base:Heap}{CR CW:Addr}
def gl(n:Net)(k:Nat):List Int:=match Vapktc.leastOfKind n k with
 | none=>[0]
 | some y=>1::Vapktc.flatPacket y
def p9(n:Net)(ns ans:List Int):Prop:=∃ k:Nat,ns=[(k:Int)]∧ans=gl n k
theorem lD:al ["network","numbers","switch","header","end"] ["network","numbers"] (aj mC):=⟨rfl,rfl,rfl,by decide +kernel,rfl,by decide +kernel,by decide +kernel⟩
theorem tK(TW:TxtW K mg CW)(B:TxtB mg)(T:TxtF K mg "answer_least" mC ["network","numbers"]):aq P w K mg base CX0 2 "answer_least" ["network","numbers"] (spA CR CW p9):=by
 refine T.def0 lD bL (fun f cdv A outer s H vs Q E hr h=>?_)
 obtain⟨p,a,n,ns,ans,rfl,hN,ha,⟨kd,rfl,rfl⟩,k⟩:=h
 have nd:=lD.nd
 have DE:aF P w K mg base CX0 1 CW "ends_from" ["self","switch"] (cu CR CW):=cI TW B
 refine⟨_,ad (bx PassesOwn.never rfl (bJ rfl B.range (aa (aM aG rfl B.len PySem.boot_len (aa (aD (pv 0) rfl) af)) af)) (ay (i:=2) nd rfl (Or.inl rfl))
   (ah (bx PassesOwn.never rfl (rM rfl B.enumerate (aa (aJ (pv 0) TW.cl DE hr aA (aa (pv 2) af)) af)) (fO (n:=2) rfl (bv (ay (i:=3) nd rfl (Or.inl rfl)) (bv (ay (i:=4) nd rfl (Or.inl rfl)) dM)))
    (ah (bi (aL bY (aE bg (pv 4) ak (fun _ _=>rfl)) (aE aB (pv 1) ak (fun _ _=>rfl)) (aR _)) (ah (au (bz (aa ak (aa (pv 2) (aa (pv 3) af)))))) aK)))))
  (ah (au (bz (aa ak af)))),?_⟩
 obtain⟨dx,fs,hp,hn⟩:=id hN
 have W:=hn.wf
 have t5:=W.t5
 obtain⟨tl,ht1,ht2⟩:=hn.tabs
 obtain⟨xs,hx1,hx2⟩:=ht2.len
 refine⟨_,rfl,p,CW,dx,fs,_,rfl,hp,TW.cl,TW.n4,ht1,tl,_,rfl,.inl (SqL.of hx1),_,rfl,by omega,by omega,?_⟩
 rw[Int.toNat_natCast,hx2]
 refine ft (n:=n.tables.length) (fun i σ H'=>∃ v2 v3 v4:Option V,σ=[some (.ref p),some (.ref a),v2,v3,v4]∧Same H H'∧Mw.nj n kd i 0) ⟨none,none,none,rfl,Same.refl H,fun s' hs'=>by omega,fun h' hh'=>by omega⟩ ?_ ?_
 ·rintro i σ H1 hi ⟨v2,v3,v4,rfl,s1,hno⟩
  have hN1:=hN.same s1
  obtain⟨dx1,fs1,hp1,hn1⟩:=id hN1
  refine⟨_,rfl,p,dx1,fs1,rfl,hp1,hn1.noM.2.2.2.2,_,rfl,p,n,i,by rw[Int.zero_add];rfl,hN1,hi,fun H2 l ts s2 hl1 hl2 hts=>?_⟩
  have lts:=gt hts
  refine⟨l,_,rfl,SqL.of hl2,o8 (K:=K) (a:=l) (xs:=ts.map V.ref) (fun j σ H'=>∃ v3 v4:Option V,σ=[some (.ref p),some (.ref a),some (.int (0+(i:Int))),v3,v4]∧Same H2 H'∧Mw.nj n kd i j)
   ⟨v3,v4,rfl,Same.refl H2,hno⟩ (fun j σ H' _ ⟨_,_,_,s3,_⟩=>SqL.of (s3 _ _ hl2)) ?_ ?_⟩
  ·rintro j x σ H' Tt hx ⟨v3,v4,rfl,s3,hnoj⟩ hT
   rw[getElem?_map] at hx
   cases e:ts[j]? with
   | none=>
    rw[e] at hx
    cases hx
   | some u=>
    rw[e] at hx
    cases hx
    obtain⟨en,he1,he2⟩:=aC hts e
    obtain⟨hj,hen⟩:=gu he1
    have s4:Same H2 (upd H' Tt (.tup [.int (j:Nat),.ref u])):=s3.trans (ai hT)
    refine⟨Tt,_,rfl,SqT.of ac,rfl,_,_,rfl,_,_,rfl,rfl,?_⟩
    refine⟨_,rfl,u,_,_,_,rfl,rfl,SqT.of (s4 _ _ he2),ax (j:=0) (by rw[getElem?_map,fo];rfl),_,rfl,a,_,_,_,rfl,rfl,SqL.of (s4 _ _ (s2 _ _ (s1 _ _ ha))),ax (j:=0) rfl,rfl,_,rfl,?_⟩
    have ez:decide (V.int ((Vapktc.kindOf en:Nat):Int)=V.int ((kd:Nat):Int))=(Vapktc.kindOf (endOf n ⟨i,j⟩) == kd):=by
     rw[bU,Bool.eq_iff_iff,beq_iff_eq,beq_iff_eq,hen]
     omega
    rw[ez]
    cases hk:(Vapktc.kindOf (endOf n ⟨i,j⟩) == kd) with
    | true=>
     refine iteT ⟨_,rfl,_,rfl,by show 3≤sizeLine;decide,fun q hq=>?_⟩
     have sA:=(s1.trans s2).trans s4
     refine k _ q (sA.trans (ai hq)) (aN sA hq) ?_
     rw[ac,Int.zero_add]
     unfold gl
     rw[Mw.qE hi hj (by simpa using hk) hnoj]
     rfl
    | false=>
     refine iteF ⟨_,_,rfl,s4,hnoj.1,fun h' hh'=>?_⟩
     by_cases q:h'=j
     ·rw[q]
      simpa using hk
     ·exact hnoj.2 h' (by omega)
  ·rintro σ H' ⟨v3,v4,rfl,s3,hnoj⟩
   rw[length_map,lts] at hnoj
   refine⟨_,_,_,rfl,(s1.trans s2).trans s3,fun s' hs' h' hh'=>?_,fun h' hh'=>by omega⟩
   by_cases q:s'=i
   ·rw[q]
    exact hnoj.2 h' hh'
   ·exact hnoj.1 s' (by omega) h' hh'
 ·rintro σ H1 ⟨v2,v3,v4,rfl,s1,hno⟩
  refine⟨by show 1≤sizeLine;decide,fun q hq=>?_⟩
  refine k _ q (s1.trans (ai hq)) (aN s1 hq) ?_
  rw[ac]
  unfold gl
  rw[Mw.qF hno]
  rfl
def mY(n:Net)(s:Nat):List Int:=match Vapktc.longest n s with
 | none=>[0]
 | some x=>[1,int x.1,int x.2]
def jL(n:Net)(ns ans:List Int):Prop:=∃ s:Nat,ns=[(s:Int)]∧s < n.tables.length∧ans=mY n s
theorem iC:al ["network","numbers","starts","lengths","most","least","packet"] ["network","numbers"] (aj gS):=⟨rfl,rfl,rfl,by decide +kernel,rfl,by decide +kernel,by decide +kernel⟩
theorem oI(TW:TxtW K mg CW)(B:TxtB mg)(C:TxtC mg)(TE:TxtE K mg)(TM:TxtF K mg "matches" bF ["header","pattern"])(TL:TxtF K mg "way_lengths" rG ["onward","starts"])(T:TxtF K mg "answer_longest" gS ["network","numbers"]):aq P w K mg base CX0 3 "answer_longest" ["network","numbers"] (spA CR CW jL):=by
 refine T.def0 iC bL (fun f cdv A outer s H vs Q E hr h=>?_)
 obtain⟨p,a,n,ns,ans,rfl,hN,ha,⟨sw,rfl,hsw,rfl⟩,k⟩:=h
 have nd:=iC.nd
 have hu:=dr hr
 obtain⟨ev,hev,hev2⟩:=TE.ex
 have DP:aF P w K mg base CX0 2 CW "packets_at" ["self","switch","pattern"] (eV K CR CW):=eE TW B TM
 have DL:aq P w K mg base CX0 2 "way_lengths" ["onward","starts"] uu:=(xa TL B).mono (by omega)
 refine⟨_,ad (cF (g:=aY 6) (te:=tVar 6) (tt:=fE (tOp rNe (tOp (rIxT K) (ji (tFld K (tVar 0) "ends") (tVar 6)) (tC (.int 0))) (tC (.int 3)))) (i:=2) (own:=[("packet",6)]) rfl nd rfl rfl (cO rfl rfl rfl rfl) (be (aJ (pv 0) TW.cl DP hr aA (aa (aE aB (pv 1) ak (fun _ _=>rfl)) (aa (bT (v:=.ref ev) rfl hev rfl) af)))) (bb rfl)
   (fun _ _ _ _ _=>ay (i:=6) nd rfl (Or.inl rfl) (Or.inr rfl)) (fun _ _ _ _ _=>dh (aL vn (aE bg (bC (by exact hu) (aD (pv 0) (by rfl)) (pv 6) (by exact fun _ _=>rfl)) ak (by exact fun _ _=>rfl)) (pe_c (by exact C.round) (by rfl)) (aR _))) (fun _ _ _ _ _=>pv 6))
  (ad (bi (aL bY (aM aG rfl B.len PySem.boot_len (aa (pv 2) af)) ak (aR _)) (ah (au (bz (aa ak af)))) aK)
  (ad (ao (i:=3) nd rfl (Or.inr rfl) (az DL hr rfl aA (aa (aD (pv 0) rfl) (aa (pv 2) af))))
  (ad (ao (i:=4) nd rfl (Or.inr rfl) (aM (cr_max rfl) rfl B.max rfl (aa (gi (g:=aY 6) (te:=ji (tVar 3) (tVar 6)) (own:=[("packet",6)]) rfl nd (be (pv 2)) (bb rfl)
   (fun _ _ _ _ _=>ay (i:=6) nd rfl (Or.inl rfl) (Or.inr rfl)) (fun _ _ _ _ _=>b8) (fun _ _ _ _ _=>bC (by exact hu) (pv 3) (pv 6) (by exact fun _ _=>rfl))) af)))
  (ad (ao (i:=5) nd rfl (Or.inl rfl) (aM (cr_min rfl) rfl B.min rfl (aa (gi (g:=aY 6) (te:=tOp (rIxT K) (tVar 6) (tC (.int 1))) (tt:=fE (tOp rEq (ji (tVar 3) (tVar 6)) (tVar 4))) (own:=[("packet",6)]) rfl nd (be (pv 2)) (bb rfl)
   (fun _ _ _ _ _=>ay (i:=6) nd rfl (Or.inl rfl) (Or.inr rfl)) (fun _ _ _ _ _=>dh (aL bY (bC (by exact hu) (pv 3) (pv 6) (by exact fun _ _=>rfl)) (pv 4) (aR _))) (fun _ _ _ _ _=>aE bg (pv 6) ak (by exact fun _ _=>rfl))) af)))
  (ah (au (bz (aa ak (aa (pv 4) (aa (pv 5) af)))))))))),?_⟩
 obtain⟨dx,fs,hp,hn⟩:=id hN
 have W:=hn.wf
 have ps:=aW W.w7
 refine⟨_,rfl,p,dx,fs,rfl,hp,hn.noM2.2.2,_,rfl,a,_,_,_,rfl,rfl,SqL.of ha,ax (j:=0) rfl,p,ev,n,sw,0,0,rfl,hN,hev2 _,fun H1 l ts s1 hl0 hl hts=>?_⟩
 rw[u7] at hts
 have lts:ts.length=2 ^ n.wide:=by
  have:=Paired.length hts
  rw[this]
  simp
 obtain⟨dx1,fs1,hp1,hn1⟩:=id (hN.same s1)
 obtain⟨ea,xs,g,he1,he2,he3,he4,he5⟩:=hn1.ends
 refine⟨l,rfl,⟨_,SqL.of hl⟩,fun D hD=>?_⟩
 have hget:∀ {i:Nat} {t:Addr},ts[i]?=some t→i < 2 ^ n.wide∧TupN H1 t sw i:=fun {i t} e=>by
  obtain⟨x,h1,h2⟩:=aC hts e
  have hi:i < 2 ^ n.wide:=by
   rw[←lts]
   exact(List.getElem?_eq_some_iff.mp e).1
  rw[getElem?_map,getElem?_range hi] at h1
  cases h1
  exact⟨hi,h2⟩
 refine eI (K:=K) (l0:=l) (xs:=ts.map V.ref) (fun i=>decide (endOf n ⟨sw,i⟩≠.round)) (fun i v H'=>∃ t,v=.ref t∧(TupN H' t sw i∧t≠D)) hD (SqL.of hl) (by rw[length_map];omega) ?_ ?_ ?_
 ·rintro i v H1 H2 sx ⟨t,e1,e2,e3⟩
  exact⟨t,e1,sx _ _ e3 e2,e3⟩
 ·intro i x H' Nx hx s2 hys hno hyes
  rw[getElem?_map] at hx
  cases e:ts[i]? with
  | none=>
   rw[e] at hx
   cases hx
  | some u=>
   rw[e] at hx
   cases hx
   obtain⟨hi,hu1⟩:=hget e
   have hx:Mw.InU n ⟨sw,i⟩:=⟨hsw,hi⟩
   obtain⟨te,g1,g2⟩:=he5 _ hx
   refine⟨rfl,_,rfl,p,CW,dx1,fs1,_,rfl,s2 _ _ hp1,TW.cl,TW.n8,he1,_,rfl,ea,g ⟨sw,i⟩,rfl,?_,te,_,_,_,g1,rfl,SqT.of (s2 _ _ g2),ax (j:=0) (by rw[getElem?_map,fo];rfl),rfl,_,rfl,?_⟩
   ·have:=DGet.t (k:=kk ⟨sw,i⟩) (b:=u) (s2 _ _ he2) (s2 _ _ hu1)
    rw[cN,if_pos ((he4 _).mpr hx)] at this
    exact this
   ·have ez:(!decide (V.int ((Vapktc.kindOf (endOf n ⟨sw,i⟩):Nat):Int)=V.int 3))=decide (endOf n ⟨sw,i⟩≠.round):=by
     rw[bU]
     by_cases q:endOf n ⟨sw,i⟩=.round
     ·rw[q]
      rfl
     ·rw[decide_eq_true q]
      have:Vapktc.kindOf (endOf n ⟨sw,i⟩)≠3:=fun z=>q (Mw.qG.mp z)
      rw[Bool.not_eq_true',beq_eq_false_iff_ne]
      omega
    rw[ez]
    cases hq:decide (endOf n ⟨sw,i⟩≠.round) with
    | true=>
     refine iteT ⟨_,rfl,hyes hq _ _ (Same.refl _) ⟨u,rfl,s2 _ _ hu1,?_⟩⟩
     exact ae hu1 hD
    | false=>exact iteF (hno hq _ (Same.refl _))
 ·intro H2 ys s2 hD2 hpr
  obtain⟨us,rfl,hus⟩:=dj hpr
  rw[length_map,lts] at hus
  have hus:Paired (fun t j=>TupN H2 t sw j∧t≠D) us (Mw.ended n sw):=hus
  have lus:=Paired.length hus
  have l128:(Mw.ended n sw).length≤128:=Nat.le_trans (gr (i:=2 ^ n.wide)) ps
  have pks:cp H2 us ((Mw.ended n sw).map fun h=>(⟨sw,h⟩:Packet)):=dN (F:=fun t (x:Packet)=>TupN H2 t x.switch x.header) (f:=fun h=>(⟨sw,h⟩:Packet)) (Paired.mapP hus fun t j e=>e.1)
  have inE:∀ h∈Mw.ended n sw,Mw.InU n ⟨sw,h⟩∧endOf n ⟨sw,h⟩≠.round:=fun h hh=>by
   obtain⟨h1,h2⟩:=mem_filter.mp hh
   exact⟨⟨hsw,mem_range.mp h1⟩,of_decide_eq_true h2⟩
  refine⟨_,rfl,D,_,rfl,.inl (SqL.of hD2),rfl,_,rfl,?_⟩
  rw[length_map,lus]
  by_cases hz:Mw.ended n sw=[]
  ·rw[hz]
   refine iteT ⟨by show 1≤sizeLine;decide,fun q hq=>?_⟩
   refine k _ q ((s1.trans s2).trans (ai hq)) (aN (s1.trans s2) hq) ?_
   rw[ac]
   unfold mY
   rw[Mw.mX hz]
   rfl
  ·have hpos:0 < (Mw.ended n sw).length:=List.length_pos_iff.mpr hz
   have e0:decide (V.int (((Mw.ended n sw).length:Nat):Int)=V.int 0)=false:=by
    rw[bU,beq_eq_false_iff_ne]
    omega
   rw[e0]
   refine iteF ?_
   obtain⟨dx2,fs2,hp2,hn2⟩:=id (hN.same (s1.trans s2))
   obtain⟨oa,ko,ho1,ho2,ho3⟩:=hn2.onw
   refine⟨_,rfl,p,CW,dx2,fs2,_,rfl,hp2,TW.cl,TW.n6,ho1,_,rfl,oa,D,ko,n,us,_,rfl,.inl ho2,W,ho3,hD2,pks,?_,by rw[length_map];exact l128,fun H3 L kp s3 hL0 hL hkp=>?_⟩
   ·intro x hx
    obtain⟨h,hh,rfl⟩:=mem_map.mp hx
    exact inE h hh
   have hval:∀ h∈Mw.ended n sw,valV kp (kk ⟨sw,h⟩)=some (.int (Mw.wlen n ⟨sw,h⟩:Nat)):=fun h hh=>hkp ⟨sw,h⟩ (mem_map.mpr ⟨h,hh,rfl⟩)
   refine⟨_,rfl,D,rfl,⟨_,SqL.of (s3 _ _ hD2)⟩,fun D2 hDn=>?_⟩
   refine j7 (i0:=6) (K:=K) (l0:=D) (xs:=us.map V.ref) (fun i v _=>∃ h,(Mw.ended n sw)[i]?=some h∧v=.int (Mw.wlen n ⟨sw,h⟩:Nat)) hDn (SqL.of (s3 _ _ hD2)) (by rw[length_map];omega) (fun _ _ _ _ _ h=>h) (fun v=>rfl) ?_ ?_
   ·rintro i x H' Q' hx s4 _ q
    rw[getElem?_map] at hx
    cases e:us[i]? with
    | none=>
     rw[e] at hx
     cases hx
    | some u=>
     rw[e] at hx
     cases hx
     obtain⟨h,hh1,hh2,_⟩:=aC hus e
     refine⟨_,rfl,_,rfl,L,.int (Mw.wlen n ⟨sw,h⟩:Nat),rfl,?_,q _ _ (Same.refl _) ⟨h,hh1,rfl⟩⟩
     rw[←hval h (mem_of_getElem? hh1)]
     exact DGet.t (k:=kk ⟨sw,h⟩) (s4 _ _ hL) (s4 _ _ (s3 _ _ hh2))
   ·intro H4 ys s4 hD4 hly hry
    have ey:ys=((Mw.ended n sw).map fun h=>((Mw.wlen n ⟨sw,h⟩:Nat):Int)).map V.int:=by
     apply List.ext_getElem?
     intro i
     rw[length_map,lus] at hly
     by_cases z:i < ys.length
     ·obtain⟨h,h1,h2⟩:=hry i _ (getElem?_eq_getElem z)
      rw[getElem?_eq_getElem z,h2,getElem?_map,getElem?_map,h1]
      rfl
     ·rw[getElem?_eq_none (by omega),getElem?_eq_none (by rw[length_map,length_map];omega)]
    rw[ey] at hD4
    refine⟨D2,_,rfl,SqL.of hD4,by rw[length_map];exact hpos,fun m hm hmax=>?_⟩
    obtain⟨h0,hh0,em⟩:=mem_map.mp hm
    subst em
    have s34:=s3.trans s4
    refine⟨_,rfl,D,rfl,⟨_,SqL.of (s34 _ _ hD2)⟩,fun D5 hD5=>?_⟩
    refine eI (K:=K) (l0:=D) (xs:=us.map V.ref) (fun i=>((Mw.ended n sw)[i]?).any fun h=>Mw.wlen n ⟨sw,h⟩ == Mw.wlen n ⟨sw,h0⟩) (fun i v _=>v=.int (((Mw.ended n sw)[i]?).getD 0:Nat)) hD5 (SqL.of (s34 _ _ hD2)) (by rw[length_map];omega) (fun _ _ _ _ _ h=>h) ?_ ?_
    ·intro i x H' Nx hx s5 hys hno hyes
     rw[getElem?_map] at hx
     cases e:us[i]? with
     | none=>
      rw[e] at hx
      cases hx
     | some u=>
      rw[e] at hx
      cases hx
      obtain⟨h,hh1,hh2,_⟩:=aC hus e
      rw[hh1] at hno hyes
      refine⟨rfl,_,rfl,_,rfl,L,.int (Mw.wlen n ⟨sw,h⟩:Nat),rfl,?_,_,rfl,rfl,_,rfl,?_⟩
      ·rw[←hval h (mem_of_getElem? hh1)]
       exact DGet.t (k:=kk ⟨sw,h⟩) (s5 _ _ (s4 _ _ hL)) (s5 _ _ (s34 _ _ hh2))
      ·have ez:decide (V.int ((Mw.wlen n ⟨sw,h⟩:Nat):Int)=V.int ((Mw.wlen n ⟨sw,h0⟩:Nat):Int))=(Mw.wlen n ⟨sw,h⟩ == Mw.wlen n ⟨sw,h0⟩):=by
        rw[bU,Bool.eq_iff_iff,beq_iff_eq,beq_iff_eq]
        omega
       rw[ez]
       cases hq:(Mw.wlen n ⟨sw,h⟩ == Mw.wlen n ⟨sw,h0⟩) with
       | true=>
        refine iteT ⟨_,rfl,u,_,_,_,rfl,rfl,SqT.of (s5 _ _ (s34 _ _ hh2)),ax (j:=1) rfl,?_⟩
        exact hyes hq _ _ (Same.refl _) rfl
       | false=>exact iteF (hno hq _ (Same.refl _))
    ·intro H6 zs s6 hD6 hpr6
     have ez:=cH (H:=H6) hpr6
     rw[length_map,lus] at ez
     obtain⟨hs,ehs⟩:∃ hs:List Nat,hs=((List.range (Mw.ended n sw).length).filter fun i=>((Mw.ended n sw)[i]?).any fun h=>Mw.wlen n ⟨sw,h⟩ == Mw.wlen n ⟨sw,h0⟩).map fun i=>((Mw.ended n sw)[i]?).getD 0:=⟨_,rfl⟩
     have ezs:zs=(hs.map fun(h:Nat)=>(h:Int)).map V.int:=by
      rw[ez,ehs,map_map,map_map]
      rfl
     have mem:∀ h,h∈hs↔h∈Mw.ended n sw∧Mw.wlen n ⟨sw,h⟩=Mw.wlen n ⟨sw,h0⟩:=fun h=>by
      rw[ehs,mem_map]
      constructor
      ·rintro⟨i,hi,rfl⟩
       obtain⟨h1,h2⟩:=mem_filter.mp hi
       have hl:=mem_range.mp h1
       rw[getElem?_eq_getElem hl] at h2 ⊢
       exact⟨List.getElem_mem hl,by simpa using h2⟩
      ·rintro⟨h1,h2⟩
       obtain⟨i,hi,e⟩:=List.mem_iff_getElem.mp h1
       refine⟨i,mem_filter.mpr ⟨mem_range.mpr hi,?_⟩,?_⟩
       ·rw[getElem?_eq_getElem hi,e]
        simpa using h2
       ·rw[getElem?_eq_getElem hi,e]
        rfl
     rw[ezs] at hD6
     refine⟨D5,_,rfl,SqL.of hD6,?_,fun b hb hmin=>?_⟩
     ·rw[length_map]
      exact List.length_pos_of_mem ((mem h0).mpr ⟨hh0,rfl⟩)
     ·obtain⟨b0,hb0,eb⟩:=mem_map.mp hb
      subst eb
      refine⟨_,rfl,_,rfl,by show 3≤sizeLine;decide,fun q hq=>?_⟩
      have sA:=(s1.trans s2).trans (s34.trans s6)
      refine k _ q (sA.trans (ai hq)) (aN sA hq) ?_
      rw[ac]
      unfold mY
      obtain⟨m1,m2⟩:=(mem b0).mp hb0
      rw[Mw.mW (a:=Mw.wlen n ⟨sw,h0⟩) (b:=b0) m1 m2 (fun h hh=>?_) (fun h hh e=>?_)]
      ·rfl
      ·have:=hmax _ (mem_map.mpr ⟨h,hh,rfl⟩)
       omega
      ·have:=hmin _ (mem_map.mpr ⟨h,(mem h).mpr ⟨hh,e⟩,rfl⟩)
       omega
end
abbrev my:Stmt:=top 73
abbrev ja:Stmt:=top 74
abbrev gP:Stmt:=top 75
structure TxtZ(mg:Str→Option Value):Prop where
 r2:IsC mg "NO_SWITCH" (-2)
 r3:IsC mg "NO_HEADER" (-3)
 r4:IsC mg "NO_EXIT" (-4)
 r5:IsC mg "NO_PATTERN" (-5)
 r6:IsC mg "NO_KIND" (-6)
 r7:IsC mg "NO_LINK" (-7)
 r9:IsC mg "NO_RULE" (-9)
 most:IsC mg "MOST_LISTED" 5
section
variable{P:Program}{w:World}{K:Frag}{mg:Str→Option Value}{base:Heap}{CR CW:Addr}
def refW(n:Net)(x:Str)(ns:List Int)(pl:Nat):Int:=
 if x="switch" then(if inN (ns.getD pl 0) n.tables.length then 0 else -2)
 else if x="header" then(if inN (ns.getD pl 0) (2 ^ n.wide) then 0 else -3)
 else if x="exit" then(if isEx n (ns.getD pl 0) (ns.getD (pl+1) 0) then 0 else -4)
 else if x="pattern" then(if dG n.wide (ns.getD pl 0) (ns.getD (pl+1) 0) then 0 else -5)
 else if x="kind" then(if inN (ns.getD pl 0) 4 then 0 else -6)
 else if x="link" then(if inN (ns.getD pl 0) n.links.length then 0 else -7)
 else if x="rule" then(if inN (ns.getD pl 0) (n.table (ns.getD (pl - 1) 0).toNat).length then 0 else -9)
 else 0
theorem dR{x v:Str}{t2:TT}{tr:TS}{D:Ends}{σ:St}{H:Hp}{bad:Bool}(hσ:σ[1]?=some (some (.str x)))(h2:x=v→∀ Q:Bool→Hp→Prop,(∀ H',Same H H'→Q bad H')→t2 σ H Q)
  (hbad:x=v→bad=true→∀ H',Same H H'→tr D σ H') (hok:(x=v→bad=false)→∀ H',Same H H'→D.nx σ H'):tIfS (tAnd (fE (tOp rEq (tVar 1) (tC (.str v)))) t2) tr tNext D σ H:=by
 refine⟨_,hσ,rfl,_,rfl,?_⟩
 by_cases q:x=v
 ·rw[show decide (V.str x=V.str v)=true by rw[q];exact decide_eq_true rfl]
  refine iteT (h2 q _ fun H' s=>?_)
  cases hb:bad with
  | true=>exact iteT (hbad q hb H' s)
  | false=>exact iteF (hok (fun _=>hb) H' s)
 ·rw[show decide (V.str x=V.str v)=false from decide_eq_false fun z=>q (by injection z)]
  refine iteF ?_
  exact iteF (hok (fun z=>absurd z q) H (Same.refl H))
def spRef(CR CW:Addr):Sp:=fun vs H Q _=>∃ (p a:Addr) (n:Net) (ns:List Int) (pl:Nat) (x:Str),vs=[.ref p,.str x,.ref a,.int (pl:Int)]∧bI CR CW H p n∧H a=some (.lst (ns.map V.int))∧pl < ns.length∧((x="exit"∨x="pattern")→pl+1 < ns.length)∧(x="rule"→1≤pl∧∃ s:Nat,ns[pl - 1]?=some (s:Int)∧s < n.tables.length)∧
 ∀ H',Same H H'→Q (.int (refW n x ns pl)) H'
theorem nV:al ["network","word","numbers","place","number"] ["network","word","numbers","place"] (aj my):=⟨rfl,rfl,rfl,by decide +kernel,rfl,by decide +kernel,by decide +kernel⟩
theorem rX{ns:List Int}{i:Nat}{z:Int}(h:ns[i]?=some z):ns.getD i 0=z:=by
 rw[List.getD_eq_getElem?_getD,h]
 rfl
theorem vt(TW:TxtW K mg CW)(B:TxtB mg)(C:TxtC mg)(Z:TxtZ mg)(TI:TxtF K mg "is_pattern" dL ["pattern","size"])(T:TxtF K mg "refusal_of" my ["network","word","numbers","place"]):aq P w K mg base CX0 3 "refusal_of" ["network","word","numbers","place"] (spRef CR CW):=by
 refine T.def0 nV (fun vs H Q E h=>?_) (fun f cdv A outer s H vs Q E hr h=>?_)
 ·obtain⟨p,a,n,ns,pl,x,rfl,_⟩:=h
  rfl
 obtain⟨p,a,n,ns,pl,x,rfl,hN,ha,hpl,h2,hrule,k⟩:=h
 have nd:=nV.nd
 have D1:aF P w K mg base CX0 2 CW "has_switch" ["self","switch"] (de CR CW):=(dO TW B).mono (by omega)
 have D2:aF P w K mg base CX0 2 CW "has_header" ["self","header"] (iw CR CW):=(mM TW).mono (by omega)
 have D3:aF P w K mg base CX0 2 CW "has_exit" ["self","switch","port"] (lh CR CW):=qt TW B C
 have D4:aq P w K mg base CX0 2 "is_pattern" ["pattern","size"] (mn K):=(oF TI).mono (by omega)
 have D6:aF P w K mg base CX0 2 CW "has_link" ["self","link"] (lg CR CW):=(qr TW B).mono (by omega)
 have D7:aF P w K mg base CX0 2 CW "has_rule" ["self","switch","number"] (lf CR CW):=(qp TW B).mono (by omega)
 refine⟨_,ad (ao (i:=4) nd rfl (Or.inl rfl) (aE aB (pv 2) (pv 3) (fun _ _=>rfl)))
  (ad (bi (PW.pt (dw (aL bY (pv 1) cb (aR _)) (cy (dy (cv (aJ (pv 0) TW.cl D1 hr aA (aa (pv 4) af))))))) (ah (au (pe_c Z.r2 rfl))) aK)
  (ad (bi (PW.pt (dw (aL bY (pv 1) cb (aR _)) (cy (dy (cv (aJ (pv 0) TW.cl D2 hr aA (aa (pv 4) af))))))) (ah (au (pe_c Z.r3 rfl))) aK)
  (ad (bi (PW.pt (dw (aL bY (pv 1) cb (aR _)) (cy (dy (cv (aJ (pv 0) TW.cl D3 hr aA (aa (pv 4) (aa (aE aB (pv 2) (bG cX (pv 3) ak) (fun _ _=>rfl)) af)))))))) (ah (au (pe_c Z.r4 rfl))) aK)
  (ad (bi (PW.pt (dw (aL bY (pv 1) cb (aR _)) (cy (dy (cv (az D4 hr rfl aA (aa (aU (aa (pv 4) (aa (aE aB (pv 2) (bG cX (pv 3) ak) (fun _ _=>rfl)) af))) (aa (aD (pv 0) rfl) af)))))))) (ah (au (pe_c Z.r5 rfl))) aK)
  (ad (bi (PW.pt (dw (aL bY (pv 1) cb (aR _)) (cy (dy (u4 iJ iJ (pe_c C.atExit rfl) (pv 4) (pe_c C.round rfl)))))) (ah (au (pe_c Z.r6 rfl))) aK)
  (ad (bi (PW.pt (dw (aL bY (pv 1) cb (aR _)) (cy (dy (cv (aJ (pv 0) TW.cl D6 hr aA (aa (pv 4) af))))))) (ah (au (pe_c Z.r7 rfl))) aK)
  (ad (bi (PW.pt (dw (aL bY (pv 1) cb (aR _)) (cy (dy (cv (aJ (pv 0) TW.cl D7 hr aA (aa (aE aB (pv 2) (bG jQ (pv 3) ak) (fun _ _=>rfl)) (aa (pv 4) af)))))))) (ah (au (pe_c Z.r9 rfl))) aK)
  (ah (au ak))))))))),?_⟩
 obtain⟨z,hz⟩:∃ z,ns[pl]?=some z:=⟨_,getElem?_eq_getElem hpl⟩
 have gz:=rX hz
 obtain⟨y,hy⟩:∃ y,ns.getD (pl+1) 0=y:=⟨_,rfl⟩
 have hy2:(x="exit"∨x="pattern")→ns[pl+1]?=some y:=fun q=>by
  have:=h2 q
  rw[getElem?_eq_getElem this,←hy,List.getD_eq_getElem?_getD,getElem?_eq_getElem this]
  rfl
 have ap:(pl:Int)+1=((pl+1:Nat):Int):=by omega
 refine⟨_,rfl,_,rfl,a,_,_,_,rfl,rfl,SqL.of ha,ax (j:=pl) (by rw[getElem?_map,hz];rfl),?_⟩
 refine dR (bad:=!inN z n.tables.length) rfl (fun q Q h=>?_) (fun q hb H' s=>?_) fun f1 H1 s1=>?_
 ·obtain⟨dx,fs,hp,hn⟩:=id hN
  exact⟨_,rfl,p,dx,fs,rfl,hp,hn.noM.2.1,_,rfl,p,n,z,rfl,hN,_,rfl,h _ (Same.refl _)⟩
 ·have:=k H' s
  unfold refW at this
  rw[gz,if_pos q,if_neg (by simpa using hb)] at this
  exact this
 have hN1:=hN.same s1
 refine dR (bad:=!inN z (2 ^ n.wide)) rfl (fun q Q h=>?_) (fun q hb H' s=>?_) fun f2 H2 s2'=>?_
 ·obtain⟨dx,fs,hp,hn⟩:=id hN1
  exact⟨_,rfl,p,dx,fs,rfl,hp,hn.noM.2.2.1,_,rfl,p,n,z,rfl,hN1,_,rfl,h _ (Same.refl _)⟩
 ·have:=k H' (s1.trans s)
  unfold refW at this
  rw[gz,if_neg (by rw[q];decide),if_pos q,if_neg (by simpa using hb)] at this
  exact this
 have s2:=s1.trans s2'
 have hN2:=hN.same s2
 refine dR (bad:=!isEx n z y) rfl (fun q Q h=>?_) (fun q hb H' s=>?_) fun f3 H3 s3'=>?_
 ·obtain⟨dx,fs,hp,hn⟩:=id hN2
  exact⟨_,rfl,p,dx,fs,rfl,hp,hn.noM.2.2.2.1,_,rfl,_,rfl,_,rfl,_,_,rfl,rfl,a,_,_,_,rfl,rfl,SqL.of (s2 _ _ ha),ax (j:=pl+1) (by rw[getElem?_map,hy2 (.inl q)];rfl),p,n,z,y,rfl,hN2,fun H' s=>⟨_,rfl,h _ s⟩⟩
 ·have:=k H' (s2.trans s)
  unfold refW at this
  rw[gz,hy,if_neg (by rw[q];decide),if_neg (by rw[q];decide),if_pos q,if_neg (by simpa using hb)] at this
  exact this
 have s3:=s2.trans s3'
 have hN3:=hN.same s3
 refine dR (bad:=!dG n.wide z y) rfl (fun q Q h=>?_) (fun q hb H' s=>?_) fun f4 H4 s4'=>?_
 ·obtain⟨dx,fs,hp,hn⟩:=id hN3
  refine⟨_,rfl,_,rfl,_,rfl,_,_,rfl,rfl,a,_,_,_,rfl,rfl,SqL.of (s3 _ _ ha),ax (j:=pl+1) (by rw[getElem?_map,hy2 (.inr q)];rfl),by show 2≤sizeLine;decide,fun t ht=>?_⟩
  have s5:=ai (o:=.tup [.int z,.int y]) ht
  exact⟨_,rfl,p,CW,dx,fs,_,rfl,s5 _ _ hp,TW.cl,TW.n3,hn.size,n.wide,z,y,t,rfl,SqT.of ac,_,rfl,h _ s5⟩
 ·have:=k H' (s3.trans s)
  unfold refW at this
  rw[gz,hy,if_neg (by rw[q];decide),if_neg (by rw[q];decide),if_neg (by rw[q];decide),if_pos q,if_neg (by simpa using hb)] at this
  exact this
 have s4:=s3.trans s4'
 have hN4:=hN.same s4
 refine dR (bad:=!inN z 4) rfl (fun q Q h=>?_) (fun q hb H' s=>?_) fun f5 H5 s5'=>?_
 ·refine⟨_,rfl,_,_,rfl,rfl,_,rfl,?_⟩
  have e4:inN z 4=(decide (0≤z) && decide (z≤3)):=by
   unfold inN
   rw[Bool.eq_iff_iff,Bool.and_eq_true,decide_eq_true_iff,decide_eq_true_iff,decide_eq_true_iff]
   omega
  rw[e4] at h
  by_cases z0:0≤z
  ·rw[decide_eq_true z0] at h ⊢
   exact iteT ⟨_,_,rfl,rfl,_,rfl,h _ (Same.refl _)⟩
  ·rw[decide_eq_false z0] at h ⊢
   exact iteF ⟨_,rfl,h _ (Same.refl _)⟩
 ·have:=k H' (s4.trans s)
  unfold refW at this
  rw[gz,if_neg (by rw[q];decide),if_neg (by rw[q];decide),if_neg (by rw[q];decide),if_neg (by rw[q];decide),if_pos q,if_neg (by simpa using hb)] at this
  exact this
 have s5:=s4.trans s5'
 have hN5:=hN.same s5
 refine dR (bad:=!inN z n.links.length) rfl (fun q Q h=>?_) (fun q hb H' s=>?_) fun f6 H6 s6'=>?_
 ·obtain⟨dx,fs,hp,hn⟩:=id hN5
  exact⟨_,rfl,p,dx,fs,rfl,hp,hn.noM2.1,_,rfl,p,n,z,rfl,hN5,_,rfl,h _ (Same.refl _)⟩
 ·have:=k H' (s5.trans s)
  unfold refW at this
  rw[gz,if_neg (by rw[q];decide),if_neg (by rw[q];decide),if_neg (by rw[q];decide),if_neg (by rw[q];decide),if_neg (by rw[q];decide),if_pos q,if_neg (by simpa using hb)] at this
  exact this
 have s6:=s5.trans s6'
 have hN6:=hN.same s6
 refine dR (bad:=!inN z (n.table (ns.getD (pl - 1) 0).toNat).length) rfl (fun q Q h=>?_) (fun q hb H' s=>?_) fun f7 H7 s7'=>?_
 ·obtain⟨dx,fs,hp,hn⟩:=id hN6
  obtain⟨p1,sw,hsw,hsl⟩:=hrule q
  have am:(pl:Int) - 1=((pl - 1:Nat):Int):=by omega
  rw[rX hsw,Int.toNat_natCast] at h
  exact⟨_,rfl,p,dx,fs,rfl,hp,hn.noM2.2.1,_,rfl,_,rfl,_,_,rfl,rfl,a,_,_,_,rfl,rfl,SqL.of (s6 _ _ ha),(by rw[am];exact ax (j:=pl - 1) (by rw[getElem?_map,hsw];rfl)),_,rfl,p,n,sw,z,rfl,hN6,hsl,_,rfl,h _ (Same.refl _)⟩
 ·have:=k H' (s6.trans s)
  unfold refW at this
  rw[gz,if_neg (by rw[q];decide),if_neg (by rw[q];decide),if_neg (by rw[q];decide),if_neg (by rw[q];decide),if_neg (by rw[q];decide),if_neg (by rw[q];decide),if_pos q,if_neg (by simpa using hb)] at this
  exact this
 have:=k H7 (s6.trans s7')
 have e0:refW n x ns pl=0:=by
  unfold refW
  rw[gz,hy]
  split
  ·rename_i q
   rw[if_pos (by simpa using f1 q)]
  ·split
   ·rename_i q
    rw[if_pos (by simpa using f2 q)]
   ·split
    ·rename_i q
     rw[if_pos (by simpa using f3 q)]
    ·split
     ·rename_i q
      rw[if_pos (by simpa using f4 q)]
     ·split
      ·rename_i q
       rw[if_pos (by simpa using f5 q)]
      ·split
       ·rename_i q
        rw[if_pos (by simpa using f6 q)]
       ·split
        ·rename_i q
         rw[if_pos (by simpa using f7 q)]
        ·rfl
 rw[e0] at this
 exact this
def rowW(n:Net)(row:List Int):Int:=if row.length≤5∧row.all (fun z=>inN z n.tables.length)=true then 0 else -2
def nG(CR CW:Addr):Sp:=fun vs H Q _=>∃ (p a:Addr) (n:Net) (row:List Int),vs=[.ref p,.ref a]∧bI CR CW H p n∧H a=some (.lst (row.map V.int))∧row.length≤100000∧Q (.int (rowW n row)) H
theorem ln:al ["network","switches","switch"] ["network","switches"] (aj ja):=⟨rfl,rfl,rfl,by decide +kernel,rfl,by decide +kernel,by decide +kernel⟩
theorem tG(TW:TxtW K mg CW)(B:TxtB mg)(Z:TxtZ mg)(T:TxtF K mg "refusal_of_row" ja ["network","switches"]):aq P w K mg base CX0 2 "refusal_of_row" ["network","switches"] (nG CR CW):=by
 refine T.def0 ln (fun vs H Q E h=>?_) (fun f cdv A outer s H vs Q E hr h=>?_)
 ·obtain⟨p,a,n,row,rfl,_⟩:=h
  rfl
 obtain⟨p,a,n,row,rfl,hN,ha,hrl,k⟩:=h
 have nd:=ln.nd
 have D1:aF P w K mg base CX0 1 CW "has_switch" ["self","switch"] (de CR CW):=dO TW B
 refine⟨_,ad (bi (aL op_gt (aM aG rfl B.len PySem.boot_len (aa (pv 1) af)) (pe_c Z.most rfl) (aR _)) (ah (au (pe_c Z.r2 rfl))) aK)
  (ad (bx PassesOwn.never rfl (be (pv 1)) (ay (i:=2) nd rfl (Or.inl rfl)) (ah (bi (dy (cv (aJ (pv 0) TW.cl D1 hr aA (aa (pv 2) af)))) (ah (au (pe_c Z.r2 rfl))) aK)))
  (ah (au ak))),?_⟩
 refine⟨_,rfl,a,_,rfl,.inl (SqL.of ha),_,_,rfl,rfl,_,rfl,?_⟩
 rw[length_map]
 by_cases q:(5:Int) < (row.length:Int)
 ·rw[decide_eq_true q]
  refine iteT ?_
  unfold rowW at k
  rw[if_neg (by omega)] at k
  exact k
 ·rw[decide_eq_false q]
  refine iteF ?_
  refine⟨_,rfl,a,rfl,⟨_,SqL.of ha⟩,bP (K:=K) (a:=a) (xs:=row.map V.int)
   (fun i σ H'=>∃ v:Option V,σ=[some (.ref p),some (.ref a),v]∧H'=H∧(row.take i).all (fun z=>inN z n.tables.length)=true) ⟨none,rfl,rfl,rfl⟩ (fun i σ H' _ ⟨_,_,e,_⟩=>by rw[e];exact SqL.of ha) ?_ ?_⟩
  ·rintro i x σ H' hx ⟨v,rfl,rfl,hall⟩
   rw[getElem?_map] at hx
   cases e:row[i]? with
   | none=>
    rw[e] at hx
    cases hx
   | some z=>
    rw[e] at hx
    cases hx
    obtain⟨dx,fs,hp,hn⟩:=id hN
    refine⟨_,rfl,p,dx,fs,rfl,hp,hn.noM.2.1,_,rfl,p,n,z,rfl,hN,_,rfl,?_⟩
    cases hz:inN z n.tables.length with
    | false=>
     refine iteT ?_
     unfold rowW at k
     rw[if_neg (fun⟨_,h⟩=>by have:=List.all_eq_true.mp h z (mem_of_getElem? e);rw[hz] at this;cases this)] at k
     exact k
    | true=>
     refine iteF ⟨_,rfl,rfl,?_⟩
     rw[aV e,List.all_append,hall]
     simp[hz]
  ·rintro σ H' ⟨v,rfl,rfl,hall⟩
   rw[length_map,take_length] at hall
   unfold rowW at k
   rw[if_pos ⟨by omega,hall⟩] at k
   exact k
def goW(n:Net)(ns row:List Int):List Str→Nat→Int
 | [],_=>rowW n row
 | x::r,pl=>if refW n x ns pl=0 then goW n ns row r (pl+cY x) else refW n x ns pl
def refF(n:Net)(k:Nat)(ns row:List Int):Int:=goW n ns row (bt k) 0
def plc(k i:Nat):Nat:=(((bt k).take i).map cY).sum
def fitB:Bool:=(List.range 15).all fun k=>(List.range (bt k).length).all fun i=>match (bt k)[i]? with
 | none=>false
 | some x=>decide (plc k i < Mc.cnt k) && (decide ((x="exit"∨x="pattern")→plc k i+1 < Mc.cnt k) && decide (x="rule"→i=1∧plc k i=1∧(bt k)[0]?=some ("switch":Str)))
theorem xy:fitB=true:=by decide +kernel
theorem fit{k i:Nat}{x:Str}(hk:k < 15)(hx:(bt k)[i]?=some x):plc k i < Mc.cnt k∧((x="exit"∨x="pattern")→plc k i+1 < Mc.cnt k)∧(x="rule"→i=1∧plc k i=1∧(bt k)[0]?=some ("switch":Str)):=by
 have h:=xy
 unfold fitB at h
 have h:=List.all_eq_true.mp (List.all_eq_true.mp h k (mem_range.mpr hk)) i (mem_range.mpr (List.getElem?_eq_some_iff.mp hx).1)
 rw[hx] at h
 simp only[Bool.and_eq_true,decide_eq_true_iff] at h
 exact h
theorem ou{k i:Nat}{x:Str}(hx:(bt k)[i]?=some x):plc k (i+1)=plc k i+cY x:=by
 unfold plc
 rw[aV hx,map_append,List.sum_append]
 simp
def rc(K:Frag)(CR CW:Addr):Sp:=fun vs H Q _=>∃ (p c a b:Addr) (n:Net) (k:Nat) (ns row:List Int),vs=[.ref p,.ref c,.ref a,.ref b]∧bI CR CW H p n∧KTup K c ((bt k).map V.str)∧k < 15∧H a=some (.lst (ns.map V.int))∧ns.length=Mc.cnt k∧H b=some (.lst (row.map V.int))∧row.length≤100000∧∀ H',Same H H'→Q (.int (refF n k ns row)) H'
theorem nY:al ["network","words","numbers","row","place","word","refusal"] ["network","words","numbers","row"] (aj gP):=⟨rfl,rfl,rfl,by decide +kernel,rfl,by decide +kernel,by decide +kernel⟩
theorem v9{a:Addr}{xs:List V}{g:TG}{tb:TS}{D:Ends}{σ:St}{H:Hp}(Pv:Nat→St→Hp→Prop)(h0:Pv 0 σ H)(hl:∀ i σ H,i≤xs.length→Pv i σ H→SqT K H a xs)
  (hs:∀ i x σ H,xs[i]?=some x→Pv i σ H→g x σ H fun σ2 H2=>tb { D with nx:=Pv (i+1),ct:=Pv (i+1),bk:=D.nx } σ2 H2) (hd:∀ σ H,Pv xs.length σ H→D.nx σ H) :
  ∃ W:Nat→Nat→St→Hp→Prop,(∃ m,W 0 m σ H)∧∀ i m σ H,W i m σ H→
   ((Itt K a).stop i H∧D.nx σ H)∨((Itt K a).go i H∧∃ N:St→Hp→Prop,(∀ σ' H',N σ' H'→∃ m',m' < m∧W (i+1) m' σ' H')∧∀ x H',(Itt K a).yld i H x H'→g x σ H' fun σ2 H2=>tb { D with nx:=N,ct:=N,bk:=D.nx } σ2 H2):=by
 refine⟨fun i m σ H=>m=xs.length - i∧i≤xs.length∧Pv i σ H,⟨xs.length,by simp,Nat.zero_le _,h0⟩,?_⟩
 rintro i m σ H ⟨rfl,hi,p⟩
 have q:=hl i σ H hi p
 by_cases hlt:i < xs.length
 ·refine .inr ⟨⟨xs,xs[i],q,by simp[hlt]⟩,Pv (i+1),fun σ' H' p'=>⟨xs.length - (i+1),by omega,rfl,hlt,p'⟩,fun x H' y=>?_⟩
  obtain⟨e,y⟩:=y
  subst e
  exact hs i x σ _ (y xs q) p
 ·have e:i=xs.length:=by omega
  subst e
  exact .inl ⟨⟨xs,q,Nat.le_refl _⟩,hd σ H p⟩
theorem vA(TW:TxtW K mg CW)(B:TxtB mg)(C:TxtC mg)(Z:TxtZ mg)(TI:TxtF K mg "is_pattern" dL ["pattern","size"])(TN:TxtF K mg "numbers_for" ga ["word"])(TR:TxtF K mg "refusal_of" my ["network","word","numbers","place"])(TQ:TxtF K mg "refusal_of_row" ja ["network","switches"])(T:TxtF K mg "first_refusal" gP ["network","words","numbers","row"]):aq P w K mg base CX0 4 "first_refusal" ["network","words","numbers","row"] (rc K CR CW):=by
 refine T.def0 nY (fun vs H Q E h=>?_) (fun f cdv A outer s H vs Q E hr h=>?_)
 ·obtain⟨p,c,a,b,n,k,ns,row,rfl,_⟩:=h
  rfl
 obtain⟨p,c,a,b,n,kn,ns,row,rfl,hN,hc,k15,ha,hnl,hb,hrl,k⟩:=h
 have nd:=nY.nd
 have DR:aq P w K mg base CX0 3 "refusal_of" ["network","word","numbers","place"] (spRef CR CW):=vt TW B C Z TI TR
 have DN:aq P w K mg base CX0 3 "numbers_for" ["word"] fX:=(lN TN).mono (by omega)
 have DQ:aq P w K mg base CX0 3 "refusal_of_row" ["network","switches"] (nG CR CW):=(tG TW B Z TQ).mono (by omega)
 refine⟨_,ad (ao (i:=4) nd rfl (Or.inl rfl) ak)
  (ad (bx PassesOwn.never rfl (vc (pv 1)) (ay (i:=5) nd rfl (Or.inl rfl))
   (ad (ao (i:=6) nd rfl (Or.inl rfl) (az DR hr rfl aA (aa (pv 0) (aa (pv 5) (aa (pv 2) (aa (pv 4) af))))))
   (ad (bi (aL vn (pv 6) ak (aR _)) (ah (au (pv 6))) aK)
   (ah (u5 (i:=4) nd rfl (Or.inl rfl) (az DN hr rfl aA (aa (pv 5) af)) vR)))))
  (ah (au (az DQ hr rfl aA (aa (pv 0) (aa (pv 3) af)))))),?_⟩
 have wl:=kS kn k15
 refine⟨_,rfl,c,rfl,⟨_,hc.sq⟩,v9 (K:=K) (a:=c) (xs:=(bt kn).map V.str)
  (fun i σ H'=>∃ v5 v6:Option V,σ=[some (.ref p),some (.ref c),some (.ref a),some (.ref b),some (.int (plc kn i:Nat)),v5,v6]∧Same H H'∧refF n kn ns row=goW n ns row ((bt kn).drop i) (plc kn i)∧∀ j x,j < i→(bt kn)[j]?=some x→refW n x ns (plc kn j)=0)
  ⟨none,none,rfl,Same.refl H,rfl,fun j x hj=>by omega⟩ (fun i σ H' _ _=>hc.sq) ?_ ?_⟩
 ·rintro i y σ H' hy ⟨v5,v6,rfl,s1,hgo,hz⟩
  rw[getElem?_map] at hy
  cases e:(bt kn)[i]? with
  | none=>
   rw[e] at hy
   cases hy
  | some x=>
   rw[e] at hy
   cases hy
   obtain⟨f1,f2,f3⟩:=fit k15 e
   have hdrop:(bt kn).drop i=x::(bt kn).drop (i+1):=by
    obtain⟨hi,ex⟩:=List.getElem?_eq_some_iff.mp e
    rw[List.drop_eq_getElem_cons hi,ex]
   rw[hdrop] at hgo
   have hrule:x="rule"→1≤plc kn i∧∃ s:Nat,ns[plc kn i - 1]?=some (s:Int)∧s < n.tables.length:=fun q=>by
    obtain⟨e1,e2,e3⟩:=f3 q
    have h0:=hz 0 "switch" (by omega) e3
    have p0:plc kn 0=0:=rfl
    rw[p0] at h0
    unfold refW at h0
    rw[if_pos rfl] at h0
    have hin:inN (ns.getD 0 0) n.tables.length=true:=by
     cases hq:inN (ns.getD 0 0) n.tables.length with
     | true=>rfl
     | false=>
      rw[hq] at h0
      cases h0
    have hl:0 < ns.length:=by omega
    have g0:ns[0]?=some (ns.getD 0 0):=by
     rw[List.getD_eq_getElem?_getD,getElem?_eq_getElem hl]
     rfl
    have hin:=of_decide_eq_true hin
    refine⟨by omega,(ns.getD 0 0).toNat,?_,by omega⟩
    rw[e2,Int.toNat_of_nonneg hin.1]
    exact g0
   refine⟨_,rfl,_,rfl,_,rfl,_,rfl,p,a,n,ns,plc kn i,x,rfl,hN.same s1,s1 _ _ ha,by omega,fun q=>by have:=f2 q;omega,hrule,fun H2 s2=>?_⟩
   refine⟨_,rfl,rfl,_,rfl,?_⟩
   by_cases q:refW n x ns (plc kn i)=0
   ·rw[show(!decide (V.int (refW n x ns (plc kn i))=V.int 0))=false by rw[q];rfl]
    refine iteF ⟨_,rfl,_,rfl,x,rfl,fun H3 s3=>?_⟩
    refine⟨_,_,rfl,rfl,?_⟩
    refine⟨some (.str x),some (.int (refW n x ns (plc kn i))),?_,(s1.trans s2).trans s3,?_,fun j x' hj hx'=>?_⟩
    ·rw[ou e]
     have e4:((plc kn i:Nat):Int)+((cY x:Nat):Int)=((plc kn i+cY x:Nat):Int):=by omega
     show[_,_,_,_,some (V.int (((plc kn i:Nat):Int)+((cY x:Nat):Int))),_,_]=_
     rw[e4]
    ·rw[hgo,ou e]
     show(if _=0 then _ else _)=_
     rw[if_pos q]
    ·by_cases z:j=i
     ·rw[z,e] at hx'
      cases hx'
      rw[z]
      exact q
     ·exact hz j x' (by omega) hx'
   ·rw[show(!decide (V.int (refW n x ns (plc kn i))=V.int 0))=true by rw[decide_eq_false fun z=>q (by injection z)];rfl]
    refine iteT ⟨_,rfl,?_⟩
    have:=k H2 (s1.trans s2)
    rw[hgo] at this
    have e5:goW n ns row (x::(bt kn).drop (i+1)) (plc kn i)=refW n x ns (plc kn i):=by
     show(if _=0 then _ else _)=_
     rw[if_neg q]
    rw[e5] at this
    exact this
 ·rintro σ H' ⟨v5,v6,rfl,s1,hgo,hz⟩
  rw[length_map,List.drop_length] at hgo
  refine⟨_,rfl,_,rfl,p,b,n,row,rfl,hN.same s1,s1 _ _ hb,hrl,?_⟩
  have:=k H' s1
  rw[hgo] at this
  exact this
end
def rOf:Nat→Net→List Int→List Int→Prop
 | 1=>rTold
 | 2=>rWay
 | 3=>uV
 | 4=>mG
 | 5=>mF
 | 6=>jK
 | 7=>p8
 | 8=>gX
 | 9=>jM
 | 10=>p9
 | 11=>jL
 | 12=>gU
 | 13=>uT
 | 14=>uU
 | _=>fun _ _ _=>False
def ci(F:Int)(A:List Int)(R:List Int→Prop):Prop:=(F≠0→A=[F])∧(F=0→R A)
theorem bw{A:List Int}{R:List Int→Prop}(h:R A):ci 0 A R:=⟨fun z=>absurd rfl z,fun _=>h⟩
theorem aS{c:Bool}{F r:Int}{A:List Int}{R:List Int→Prop}(hr:r≠0)(no:c=false→A=[r])(yes:c=true→ci F A R):ci (if c=true then F else r) A R:=by
 cases h:c with
 | true=>
  rw[if_pos rfl]
  exact yes h
 | false=>
  rw[if_neg (by decide)]
  exact⟨fun _=>no h,fun z=>absurd z hr⟩
theorem go_c{c:Bool}{r a:Int}(hr:r≠0):(if(if c=true then(0:Int) else r)=0 then a else(if c=true then 0 else r))=if c=true then a else r:=by
 cases c with
 | true=>rfl
 | false=>
  simp only[Bool.false_eq_true,if_false]
  rw[if_neg hr]
section
variable{n:Net}{ns:List Int}{pl:Nat}
theorem uh:refW n "switch" ns pl=if inN (ns.getD pl 0) n.tables.length=true then 0 else -2:=by
 unfold refW
 rw[if_pos rfl]
theorem ui:refW n "header" ns pl=if inN (ns.getD pl 0) (2 ^ n.wide)=true then 0 else -3:=by
 unfold refW
 rw[if_neg (by decide),if_pos rfl]
theorem w_exit:refW n "exit" ns pl=if isEx n (ns.getD pl 0) (ns.getD (pl+1) 0)=true then 0 else -4:=by
 unfold refW
 rw[if_neg (by decide),if_neg (by decide),if_pos rfl]
theorem sI:refW n "pattern" ns pl=if dG n.wide (ns.getD pl 0) (ns.getD (pl+1) 0)=true then 0 else -5:=by
 unfold refW
 rw[if_neg (by decide),if_neg (by decide),if_neg (by decide),if_pos rfl]
theorem w_kind:refW n "kind" ns pl=if inN (ns.getD pl 0) 4=true then 0 else -6:=by
 unfold refW
 rw[if_neg (by decide),if_neg (by decide),if_neg (by decide),if_neg (by decide),if_pos rfl]
theorem w_link:refW n "link" ns pl=if inN (ns.getD pl 0) n.links.length=true then 0 else -7:=by
 unfold refW
 rw[if_neg (by decide),if_neg (by decide),if_neg (by decide),if_neg (by decide),if_neg (by decide),if_pos rfl]
theorem w_rule:refW n "rule" ns pl=if inN (ns.getD pl 0) (n.table (ns.getD (pl - 1) 0).toNat).length=true then 0 else -9:=by
 unfold refW
 rw[if_neg (by decide),if_neg (by decide),if_neg (by decide),if_neg (by decide),if_neg (by decide),if_neg (by decide),if_pos rfl]
theorem bS:rowW n []=0:=by
 unfold rowW
 rw[if_pos ⟨by decide,rfl⟩]
variable{row:List Int}{r:List Str}
theorem dt:goW n ns row [] pl=rowW n row:=rfl
theorem bp:goW n ns row ("switch"::r) pl=if inN (ns.getD pl 0) n.tables.length=true then goW n ns row r (pl+1) else -2:=by
 show(if _=0 then _ else _)=_
 rw[uh,go_c (by decide)]
 rfl
theorem o7:goW n ns row ("header"::r) pl=if inN (ns.getD pl 0) (2 ^ n.wide)=true then goW n ns row r (pl+1) else -3:=by
 show(if _=0 then _ else _)=_
 rw[ui,go_c (by decide)]
 rfl
theorem vX:goW n ns row ("exit"::r) pl=if isEx n (ns.getD pl 0) (ns.getD (pl+1) 0)=true then goW n ns row r (pl+2) else -4:=by
 show(if _=0 then _ else _)=_
 rw[w_exit,go_c (by decide)]
 rfl
theorem lW:goW n ns row ("pattern"::r) pl=if dG n.wide (ns.getD pl 0) (ns.getD (pl+1) 0)=true then goW n ns row r (pl+2) else -5:=by
 show(if _=0 then _ else _)=_
 rw[sI,go_c (by decide)]
 rfl
theorem vW:goW n ns row ("kind"::r) pl=if inN (ns.getD pl 0) 4=true then goW n ns row r (pl+1) else -6:=by
 show(if _=0 then _ else _)=_
 rw[w_kind,go_c (by decide)]
 rfl
theorem g_link:goW n ns row ("link"::r) pl=if inN (ns.getD pl 0) n.links.length=true then goW n ns row r (pl+1) else -7:=by
 show(if _=0 then _ else _)=_
 rw[w_link,go_c (by decide)]
 rfl
theorem g_rule:goW n ns row ("rule"::r) pl=if inN (ns.getD pl 0) (n.table (ns.getD (pl - 1) 0).toNat).length=true then goW n ns row r (pl+1) else -9:=by
 show(if _=0 then _ else _)=_
 rw[w_rule,go_c (by decide)]
 rfl
end
section
variable{n:Net}{z y:Int}{f:Nat→Vapktc.Answer}
theorem br{m:Nat}(h:inN z m=true):∃ a:Nat,z=(a:Int)∧a < m:=by
 have:=of_decide_eq_true h
 exact⟨z.toNat,by omega,by omega⟩
theorem cT(W:Mw.WF n){a:Nat}(h:a < n.tables.length):Vapktc.onSwitch n (a:Int) f=f a:=by
 unfold Vapktc.onSwitch
 have e:n.tables.length - 1+1=n.tables.length:=by have:=W.t1;omega
 rw[bf,e,if_pos (show inN (a:Int) n.tables.length=true from decide_eq_true (by omega)),Int.toNat_natCast]
theorem bW(W:Mw.WF n)(h:inN z n.tables.length=false):Vapktc.onSwitch n z f=[-2]:=by
 unfold Vapktc.onSwitch
 have e:n.tables.length - 1+1=n.tables.length:=by have:=W.t1;omega
 rw[bf,e,h,if_neg (by decide)]
theorem uY(w:Nat):2 ^ w - 1+1=2 ^ w:=by
 have:=Nat.two_pow_pos w
 omega
theorem hd_in{a:Nat}(h:a < 2 ^ n.wide):Vapktc.onHeader n (a:Int) f=f a:=by
 unfold Vapktc.onHeader headers
 rw[bf,uY,if_pos (show inN (a:Int) (2 ^ n.wide)=true from decide_eq_true (by omega)),Int.toNat_natCast]
theorem vU(h:inN z (2 ^ n.wide)=false):Vapktc.onHeader n z f=[-3]:=by
 unfold Vapktc.onHeader headers
 rw[bf,uY,h,if_neg (by decide)]
theorem ex_in{g:Port→Vapktc.Answer}(h:isEx n z y=true):∃ e:Port,z=(e.switch:Int)∧y=(e.port:Int)∧Vapktc.onExit n z y g=g e:=by
 unfold isEx at h
 obtain⟨e,he⟩:=Option.isSome_iff_exists.mp h
 unfold Vapktc.onExit
 rw[he]
 refine⟨e,?_⟩
 unfold Vapktc.exitOf at he
 rw[bf,bf] at he
 cases hz:inN z (n.tables.length - 1+1) with
 | false=>
  rw[hz] at he
  cases he
 | true=>
  cases hy:inN y (VapktBase.PORTS - 1+1) with
  | false=>
   rw[hz,hy] at he
   cases he
  | true=>
   rw[hz,hy] at he
   simp only[if_true] at he
   have a1:=of_decide_eq_true hz
   have a2:=of_decide_eq_true hy
   split at he
   ·cases he
    exact⟨(Int.toNat_of_nonneg a1.1).symm,(Int.toNat_of_nonneg a2.1).symm,rfl⟩
   ·cases he
theorem wa{g:Port→Vapktc.Answer}(h:isEx n z y=false):Vapktc.onExit n z y g=[-4]:=by
 unfold isEx at h
 unfold Vapktc.onExit
 cases e:Vapktc.exitOf n z y with
 | none=>rfl
 | some x=>
  rw[e] at h
  cases h
theorem pt_in{g:VapktBase.Pattern→Vapktc.Answer}(h:dG n.wide z y=true):∃ a b:Nat,z=(a:Int)∧y=(b:Int)∧Vapktc.onPattern n z y g=g ⟨a,b⟩:=by
 obtain⟨z0,y0,hp⟩:=kg h
 refine⟨z.toNat,y.toNat,(Int.toNat_of_nonneg z0).symm,(Int.toNat_of_nonneg y0).symm,?_⟩
 unfold Vapktc.onPattern
 rw[hp]
theorem u0{g:VapktBase.Pattern→Vapktc.Answer}(h:dG n.wide z y=false):Vapktc.onPattern n z y g=[-5]:=by
 unfold Vapktc.onPattern
 rw[kh h]
theorem uo(W:Mw.WF n):∀ {row:List Int},row.all (fun z=>inN z n.tables.length)=true→∃ ins:List Nat,row=ins.map (fun(q:Nat)=>(q:Int))∧(∀ q∈ins,q < n.tables.length)∧(row.mapM fun z=>Vapktc.placeOf z (n.tables.length - 1))=some ins
 | [],_=>⟨[],rfl,(fun q hq=>by cases hq),rfl⟩
 | z::r,h=>by
  rw[List.all_cons,Bool.and_eq_true] at h
  obtain⟨ins,e1,e2,e3⟩:=uo W h.2
  obtain⟨a,ea,ha⟩:=br h.1
  have e:n.tables.length - 1+1=n.tables.length:=by have:=W.t1;omega
  refine⟨a::ins,by rw[map_cons,←e1,ea],fun q hq=>?_,?_⟩
  ·rcases mem_cons.mp hq with z | z
   ·rw[z]
    exact ha
   ·exact e2 q z
  ·rw[List.mapM_cons,bf,e,h.1,e3,if_pos rfl,ea,Int.toNat_natCast]
   rfl
theorem qY(W:Mw.WF n):∀ {row:List Int},row.all (fun z=>inN z n.tables.length)=false→(row.mapM fun z=>Vapktc.placeOf z (n.tables.length - 1))=none
 | [],h=>by cases h
 | z::r,h=>by
  have e:n.tables.length - 1+1=n.tables.length:=by have:=W.t1;omega
  rw[List.mapM_cons,bf,e]
  cases hz:inN z n.tables.length with
  | false=>rfl
  | true=>
   rw[List.all_cons,hz,Bool.true_and] at h
   rw[if_pos rfl,qY W h]
   rfl
end
theorem kd_in{z:Nat}(h:z < 4):Vapktc.placeOf (z:Int) 3=some z:=by
 rw[bf,if_pos (show inN (z:Int) (3+1)=true from decide_eq_true (by omega)),Int.toNat_natCast]
theorem vN{z:Int}(h:inN z 4=false):Vapktc.placeOf z 3=none:=by
 rw[bf,if_neg (show ¬ inN z (3+1)=true by rw[h];decide)]
theorem it_in{α:Type}{l:List α}{z:Nat}(h:z < l.length):(if(z:Int) < 0 then none else l[(z:Int).toNat]?)=some l[z]:=by
 rw[if_neg (by omega),Int.toNat_natCast,getElem?_eq_getElem h]
theorem vO{α:Type}{l:List α}{z:Int}(h:inN z l.length=false):(if z < 0 then none else l[z.toNat]?)=none:=by
 have:=of_decide_eq_false h
 by_cases q:z < 0
 ·rw[if_pos q]
 ·rw[if_neg q,getElem?_eq_none (by omega)]
theorem pp{n:Net}(W:Mw.WF n){l:List Int}{c:List (List Int)}{t:List Int}{k:Nat}{ns row:List Int}(a:Mc.At l c t k ns row)(k1:1≤k) :
  (VapktcNeutral.step ⟨some n⟩ c).1=⟨some n⟩∧ci (refF n k ns row) (VapktcNeutral.step ⟨some n⟩ c).2 (rOf k n (ns++row)):=by
 have k15:=a.k15
 have hl:=a.len
 match k,k1,k15,hl,a with
 | 1,_,_,hl,a=>
  obtain⟨_,rfl,rfl⟩:=a.flat (by omega)
  match ns,hl with
  | [],_=>
   refine⟨rfl,?_⟩
   show ci (goW n _ _ [] 0) _ _
   rw[dt,bS]
   exact bw rfl
 | 2,_,_,hl,a=>
  obtain⟨_,rfl,rfl⟩:=a.flat (by omega)
  match ns,hl with
  | [s,h],_=>
   refine⟨rfl,?_⟩
   show ci (goW n _ _ ["switch","header"] 0) (Vapktc.onSwitch n s _) (rWay n [s,h])
   rw[bp,o7,dt,bS]
   refine aS (by decide) (fun q=>bW (z:=s) W q) fun q=>?_
   obtain⟨s,rfl,hs⟩:=br (z:=s) (m:=n.tables.length) q
   rw[cT W hs]
   refine aS (by decide) (fun q=>vU (z:=h) q) fun q=>?_
   obtain⟨h,rfl,hh⟩:=br (z:=h) (m:=2 ^ n.wide) q
   rw[hd_in hh]
   exact bw ⟨⟨s,h⟩,rfl,⟨hs,hh⟩,rfl⟩
 | 3,_,_,hl,a=>
  obtain⟨_,rfl,rfl⟩:=a.flat (by omega)
  match ns,hl with
  | [s],_=>
   refine⟨rfl,?_⟩
   show ci (goW n _ _ ["switch"] 0) (Vapktc.onSwitch n s _) (uV n [s])
   rw[bp,dt,bS]
   refine aS (by decide) (fun q=>bW (z:=s) W q) fun q=>?_
   obtain⟨s,rfl,hs⟩:=br (z:=s) (m:=n.tables.length) q
   rw[cT W hs]
   exact bw ⟨s,rfl,hs,rfl⟩
 | 4,_,_,hl,a=>
  obtain⟨_,rfl,rfl⟩:=a.flat (by omega)
  match ns,hl with
  | [s,sq,sp],_=>
   refine⟨rfl,?_⟩
   show ci (goW n _ _ ["switch","exit"] 0) (Vapktc.onSwitch n s _) (mG n [s,sq,sp])
   rw[bp,vX,dt,bS]
   refine aS (by decide) (fun q=>bW (z:=s) W q) fun q=>?_
   obtain⟨s,rfl,hs⟩:=br (z:=s) (m:=n.tables.length) q
   rw[cT W hs]
   refine aS (by decide) (fun c=>wa (z:=sq) (y:=sp) c) fun c=>?_
   obtain⟨e,rfl,rfl,he⟩:=ex_in (z:=sq) (y:=sp) c
   rw[he]
   exact bw ⟨s,e,rfl,hs,rfl⟩
 | 5,_,_,hl,a=>
  obtain⟨_,rfl,rfl⟩:=a.flat (by omega)
  match ns,hl with
  | [s,kd],_=>
   refine⟨rfl,?_⟩
   show ci (goW n _ _ ["switch","kind"] 0) (Vapktc.onSwitch n s _) (mF n [s,kd])
   rw[bp,vW,dt,bS]
   refine aS (by decide) (fun q=>bW (z:=s) W q) fun q=>?_
   obtain⟨s,rfl,hs⟩:=br (z:=s) (m:=n.tables.length) q
   rw[cT W hs]
   refine aS (by decide) (fun c=>by rw[vN (z:=kd) c]) fun c=>?_
   obtain⟨kd,rfl,hkd⟩:=br (z:=kd) (m:=4) c
   rw[kd_in hkd]
   exact bw ⟨s,kd,rfl,hs,by omega,rfl⟩
 | 6,_,_,hl,a=>
  obtain⟨_,rfl,rfl⟩:=a.flat (by omega)
  match ns,hl with
  | [s,t],_=>
   refine⟨rfl,?_⟩
   show ci (goW n _ _ ["switch","switch"] 0) (Vapktc.onSwitch n s _) (jK n [s,t])
   rw[bp,bp,dt,bS]
   refine aS (by decide) (fun q=>bW (z:=s) W q) fun q=>?_
   obtain⟨s,rfl,hs⟩:=br (z:=s) (m:=n.tables.length) q
   rw[cT W hs]
   refine aS (by decide) (fun q=>bW (z:=t) W q) fun q=>?_
   obtain⟨t,rfl,ht⟩:=br (z:=t) (m:=n.tables.length) q
   rw[cT W ht]
   exact bw ⟨s,t,rfl,hs,ht,rfl⟩
 | 7,_,_,hl,a=>
  obtain⟨_,rfl,rfl⟩:=a.flat (by omega)
  match ns,hl with
  | [s,sq,sp],_=>
   refine⟨rfl,?_⟩
   show ci (goW n _ _ ["switch","exit"] 0) (Vapktc.onSwitch n s _) (p8 n [s,sq,sp])
   rw[bp,vX,dt,bS]
   refine aS (by decide) (fun q=>bW (z:=s) W q) fun q=>?_
   obtain⟨s,rfl,hs⟩:=br (z:=s) (m:=n.tables.length) q
   rw[cT W hs]
   refine aS (by decide) (fun c=>wa (z:=sq) (y:=sp) c) fun c=>?_
   obtain⟨e,rfl,rfl,he⟩:=ex_in (z:=sq) (y:=sp) c
   rw[he]
   exact bw ⟨s,e,rfl,hs,rfl⟩
 | 8,_,_,hl,a=>
  obtain⟨_,rfl,rfl⟩:=a.flat (by omega)
  match ns,hl with
  | [s,x,y,t],_=>
   refine⟨rfl,?_⟩
   show ci (goW n _ _ ["switch","pattern","switch"] 0) (Vapktc.onSwitch n s _) (gX n [s,x,y,t])
   rw[bp,lW,bp,dt,bS]
   refine aS (by decide) (fun q=>bW (z:=s) W q) fun q=>?_
   obtain⟨s,rfl,hs⟩:=br (z:=s) (m:=n.tables.length) q
   rw[cT W hs]
   refine aS (by decide) (fun c=>u0 (z:=x) (y:=y) c) fun c=>?_
   obtain⟨x,y,rfl,rfl,he⟩:=pt_in (z:=x) (y:=y) c
   rw[he]
   refine aS (by decide) (fun q=>bW (z:=t) W q) fun q=>?_
   obtain⟨t,rfl,ht⟩:=br (z:=t) (m:=n.tables.length) q
   rw[cT W ht]
   exact bw ⟨s,x,y,t,rfl,hs,rfl⟩
 | 9,_,_,hl,a=>
  obtain⟨_,rfl,rfl⟩:=a.flat (by omega)
  match ns,hl with
  | [s,t,x,y],_=>
   refine⟨rfl,?_⟩
   show ci (goW n _ _ ["switch","switch","pattern"] 0) (Vapktc.onSwitch n s _) (jM n [s,t,x,y])
   rw[bp,bp,lW,dt,bS]
   refine aS (by decide) (fun q=>bW (z:=s) W q) fun q=>?_
   obtain⟨s,rfl,hs⟩:=br (z:=s) (m:=n.tables.length) q
   rw[cT W hs]
   refine aS (by decide) (fun q=>bW (z:=t) W q) fun q=>?_
   obtain⟨t,rfl,ht⟩:=br (z:=t) (m:=n.tables.length) q
   rw[cT W ht]
   refine aS (by decide) (fun c=>u0 (z:=x) (y:=y) c) fun c=>?_
   obtain⟨x,y,rfl,rfl,he⟩:=pt_in (z:=x) (y:=y) c
   rw[he]
   exact bw ⟨s,t,x,y,rfl,hs,ht,rfl⟩
 | 10,_,_,hl,a=>
  obtain⟨_,rfl,rfl⟩:=a.flat (by omega)
  match ns,hl with
  | [kd],_=>
   refine⟨rfl,?_⟩
   show ci (goW n _ _ ["kind"] 0) (_) (p9 n [kd])
   rw[vW,dt,bS]
   have e0:(VapktcNeutral.step ⟨some n⟩ [((10:Nat):Int)::[kd]]).2=(match Vapktc.placeOf kd 3 with
    | none=>[-6]
    | some x=>gl n x):=rfl
   rw[e0]
   refine aS (by decide) (fun c=>by rw[vN (z:=kd) c]) fun c=>?_
   obtain⟨kd,rfl,hkd⟩:=br (z:=kd) (m:=4) c
   rw[kd_in hkd]
   exact bw ⟨kd,rfl,rfl⟩
 | 11,_,_,hl,a=>
  obtain⟨_,rfl,rfl⟩:=a.flat (by omega)
  match ns,hl with
  | [s],_=>
   refine⟨rfl,?_⟩
   show ci (goW n _ _ ["switch"] 0) (Vapktc.onSwitch n s _) (jL n [s])
   rw[bp,dt,bS]
   refine aS (by decide) (fun q=>bW (z:=s) W q) fun q=>?_
   obtain⟨s,rfl,hs⟩:=br (z:=s) (m:=n.tables.length) q
   rw[cT W hs]
   exact bw ⟨s,rfl,hs,rfl⟩
 | 12,_,_,hl,a=>
  obtain⟨_,rfl,rfl⟩:=a.flat (by omega)
  match ns,hl with
  | [s,lk],_=>
   refine⟨rfl,?_⟩
   show ci (goW n _ _ ["switch","link"] 0) (Vapktc.onSwitch n s _) (gU n [s,lk])
   rw[bp,g_link,dt,bS]
   refine aS (by decide) (fun q=>bW (z:=s) W q) fun q=>?_
   obtain⟨s,rfl,hs⟩:=br (z:=s) (m:=n.tables.length) q
   rw[cT W hs]
   refine aS (by decide) (fun c=>by rw[vO (z:=lk) c]) fun c=>?_
   obtain⟨lk,rfl,hlk⟩:=br (z:=lk) (m:=n.links.length) c
   rw[it_in hlk]
   exact bw ⟨s,lk,rfl,hs,hlk,by dsimp only;rw[Int.toNat_natCast]⟩
 | 13,_,_,hl,a=>
  obtain⟨_,rfl⟩:=a.rows (by omega)
  match ns,hl with
  | [s,i],_=>
   refine⟨rfl,?_⟩
   show ci (goW n _ _ ["switch","rule"] 0) (Vapktc.onSwitch n s _) (uT n ([s,i]++row))
   rw[bp,g_rule,dt]
   refine aS (by decide) (fun q=>bW (z:=s) W q) fun q=>?_
   obtain⟨s,rfl,hs⟩:=br (z:=s) (m:=n.tables.length) q
   rw[cT W hs]
   refine aS (by decide) (fun c=>by rw[vO (z:=i) (l:=n.table s) c]) fun c=>?_
   obtain⟨i,rfl,hi⟩:=br (z:=i) (m:=(n.table s).length) c
   rw[it_in hi]
   dsimp only
   rw[Int.toNat_natCast]
   by_cases h5:row.length≤5
   ·cases hall:row.all (fun z=>inN z n.tables.length) with
    | true=>
     obtain⟨ins,e1,e2,e3⟩:=uo W hall
     have e4:Vapktc.switchesOf n row=some ins:=by
      unfold Vapktc.switchesOf
      rw[if_pos (show row.length≤SWITCHES from h5)]
      exact e3
     rw[e4,show rowW n row=0 by unfold rowW;rw[if_pos ⟨h5,hall⟩]]
     refine bw ⟨s,i,ins,?_,hs,e2,?_,rfl⟩
     ·rw[e1]
      rfl
     ·rw[e1,length_map] at h5
      exact h5
    | false=>
     have e4:Vapktc.switchesOf n row=none:=by
      unfold Vapktc.switchesOf
      rw[if_pos (show row.length≤SWITCHES from h5)]
      exact qY W hall
     rw[e4,show rowW n row=-2 by unfold rowW;rw[if_neg (by rw[hall];simp)]]
     exact⟨fun _=>rfl,fun z=>by cases z⟩
   ·have e4:Vapktc.switchesOf n row=none:=by
     unfold Vapktc.switchesOf
     rw[if_neg (show ¬ row.length≤SWITCHES from h5)]
    rw[e4,show rowW n row=-2 by unfold rowW;rw[if_neg (fun z=>h5 z.1)]]
    exact⟨fun _=>rfl,fun z=>by cases z⟩
 | 14,_,_,hl,a=>
  obtain⟨_,rfl,rfl⟩:=a.flat (by omega)
  match ns,hl with
  | [s,h],_=>
   refine⟨rfl,?_⟩
   show ci (goW n _ _ ["switch","header"] 0) (Vapktc.onSwitch n s _) (uU n [s,h])
   rw[bp,o7,dt,bS]
   refine aS (by decide) (fun q=>bW (z:=s) W q) fun q=>?_
   obtain⟨s,rfl,hs⟩:=br (z:=s) (m:=n.tables.length) q
   rw[cT W hs]
   refine aS (by decide) (fun q=>vU (z:=h) q) fun q=>?_
   obtain⟨h,rfl,hh⟩:=br (z:=h) (m:=2 ^ n.wide) q
   rw[hd_in hh]
   exact bw ⟨⟨s,h⟩,rfl,⟨hs,hh⟩,rfl⟩
abbrev sATo:Stmt:=top 43
abbrev pY:Stmt:=top 78
abbrev cV:Stmt:=top 79
theorem oN{l:List Int}{c:List (List Int)}{t:List Int}{k:Nat}{ns row:List Int}(a:Mc.At l c t k ns row)(k1:1≤k):VapktcNeutral.step ⟨none⟩ c=(⟨none⟩,[-8]):=by
 have k15:=a.k15
 have hl:=a.len
 match k,k1,k15,hl,a with
 | 1,_,_,hl,a=>
  obtain⟨_,rfl,rfl⟩:=a.flat (by omega)
  match ns,hl with
  | [],_=>rfl
 | 2,_,_,hl,a=>
  obtain⟨_,rfl,rfl⟩:=a.flat (by omega)
  match ns,hl with
  | [x0,x1],_=>rfl
 | 3,_,_,hl,a=>
  obtain⟨_,rfl,rfl⟩:=a.flat (by omega)
  match ns,hl with
  | [x0],_=>rfl
 | 4,_,_,hl,a=>
  obtain⟨_,rfl,rfl⟩:=a.flat (by omega)
  match ns,hl with
  | [x0,x1,x2],_=>rfl
 | 5,_,_,hl,a=>
  obtain⟨_,rfl,rfl⟩:=a.flat (by omega)
  match ns,hl with
  | [x0,x1],_=>rfl
 | 6,_,_,hl,a=>
  obtain⟨_,rfl,rfl⟩:=a.flat (by omega)
  match ns,hl with
  | [x0,x1],_=>rfl
 | 7,_,_,hl,a=>
  obtain⟨_,rfl,rfl⟩:=a.flat (by omega)
  match ns,hl with
  | [x0,x1,x2],_=>rfl
 | 8,_,_,hl,a=>
  obtain⟨_,rfl,rfl⟩:=a.flat (by omega)
  match ns,hl with
  | [x0,x1,x2,x3],_=>rfl
 | 9,_,_,hl,a=>
  obtain⟨_,rfl,rfl⟩:=a.flat (by omega)
  match ns,hl with
  | [x0,x1,x2,x3],_=>rfl
 | 10,_,_,hl,a=>
  obtain⟨_,rfl,rfl⟩:=a.flat (by omega)
  match ns,hl with
  | [x0],_=>rfl
 | 11,_,_,hl,a=>
  obtain⟨_,rfl,rfl⟩:=a.flat (by omega)
  match ns,hl with
  | [x0],_=>rfl
 | 12,_,_,hl,a=>
  obtain⟨_,rfl,rfl⟩:=a.flat (by omega)
  match ns,hl with
  | [x0,x1],_=>rfl
 | 13,_,_,hl,a=>
  obtain⟨_,rfl⟩:=a.rows (by omega)
  match ns,hl with
  | [x0,x1],_=>rfl
 | 14,_,_,hl,a=>
  obtain⟨_,rfl,rfl⟩:=a.flat (by omega)
  match ns,hl with
  | [x0,x1],_=>rfl
theorem rO{l:List Int}{c:List (List Int)}{t:List Int}{ns row:List Int}(a:Mc.At l c t 0 ns row)(s:VapktcNeutral.S):VapktcNeutral.step s c=match netOf row with
  | none=>(s,[-1])
  | some n=>(⟨some n⟩,mS n):=by
 obtain⟨_,rfl⟩:=a.rows (.inl rfl)
 have hl:=a.len
 match ns,hl with
 | [],_=>
  show((Vapktc.step s (.net row)).1,VapktcNeutral.encode (Vapktc.step s (.net row)).2)=_
  have e:Vapktc.step s (.net row)=match netOf row with
   | none=>(s,[-1])
   | some n=>(⟨some n⟩,mS n):=by
   show(match netOf row with
    | none=>_
    | some n=>_)=_
   cases netOf row<;>rfl
  rw[e]
  rfl
section
variable{P:Program}{w:World}{K:Frag}{mg:Str→Option Value}{base:Heap}{CR CW CN CE:Addr}
def TabOk(P:Program)(w:World)(K:Frag)(mg:Str→Option Value)(base:Heap)(CR CW:Addr):Prop:=∃ (b:Addr) (f:Int→Option Value),mg "ANSWERS"=some (.ref b)∧KTab K b f∧∀ k:Nat,1≤k→k < 15→∃ fa fd,f (k:Int)=some (.ref fa)∧FnOk P w K mg base CX0 10 fa fd ["network","numbers"] (spA CR CW (rOf k))∧PySem.W.keepIn K (.ref fa)=true∧cj K fd ["network","numbers"] []
def spATo(CR CW:Addr):Sp:=fun vs H Q _=>∃ (p a:Addr) (n:Net) (k:Nat) (ns ans:List Int),vs=[.ref p,.int (k:Int),.ref a]∧1≤k∧k < 15∧bI CR CW H p n∧H a=some (.lst (ns.map V.int))∧rOf k n ns ans∧
 ∀ (H':Hp) (l:Addr),Same H H'→H l=none→H' l=some (.lst (ans.map V.int))→Q (.ref l) H'
theorem sc_aTo:al ["network","call","numbers"] ["network","call","numbers"] (aj sATo):=⟨rfl,rfl,rfl,by decide +kernel,rfl,by decide +kernel,by decide +kernel⟩
theorem ok_aTo(TA:TabOk P w K mg base CR CW)(T:TxtF K mg "answer_to" sATo ["network","call","numbers"]):aq P w K mg base CX0 11 "answer_to" ["network","call","numbers"] (spATo CR CW):=by
 refine T.def0 sc_aTo (fun vs H Q E h=>?_) (fun f cdv A outer s H vs Q E hr h=>?_)
 ·obtain⟨p,a,n,k,ns,ans,rfl,_⟩:=h
  rfl
 obtain⟨p,a,n,k,ns,ans,rfl,k1,k15,hN,ha,hR,q⟩:=h
 obtain⟨b,tf,hb,hK,htab⟩:=TA
 obtain⟨fa,fd,e1,e2,e3,e4⟩:=htab k k1 k15
 refine⟨_,ah (au (vi (wU (bT (v:=.ref b) rfl hb rfl) (pv 1) (fun _ _=>rfl)) hr aA (aa (pv 0) (aa (pv 2) af)))),?_⟩
 exact⟨_,rfl,b,tf,(k:Int),.ref fa,.ref fa,rfl,rfl,hK,e1,rfl,fa,fd,_,_,rfl,e2,e3,e4,_,rfl,_,rfl,p,a,n,ns,ans,rfl,hN,ha,hR,q⟩
def re(CR CW:Addr):Sp:=fun vs H Q _=>∃ (nv:V) (a b:Addr) (k:Nat) (ns row ans:List Int),vs=[nv,.int (k:Int),.ref a,.ref b]∧1≤k∧k < 15∧H a=some (.lst (ns.map V.int))∧H b=some (.lst (row.map V.int))∧ns.length=Mc.cnt k∧row.length≤500∧
 ((nv=.non∧ans=[-8])∨∃ (p:Addr) (n:Net),nv=.ref p∧bI CR CW H p n∧ci (refF n k ns row) ans (rOf k n (ns++row)))∧
 ∀ (H':Hp) (l:Addr),Same H H'→H l=none→H' l=some (.lst (ans.map V.int))→Q (.ref l) H'
theorem oh:al ["network","call","numbers","row","refusal"] ["network","call","numbers","row"] (aj pY):=⟨rfl,rfl,rfl,by decide +kernel,rfl,by decide +kernel,by decide +kernel⟩
theorem vF(TH:TxtH K mg)(hNN:IsC mg "NO_NETWORK" (-8))(DF:aq P w K mg base CX0 4 "first_refusal" ["network","words","numbers","row"] (rc K CR CW))(DA:aq P w K mg base CX0 11 "answer_to" ["network","call","numbers"] (spATo CR CW))(T:TxtF K mg "answer_call" pY ["network","call","numbers","row"]):aq P w K mg base CX0 12 "answer_call" ["network","call","numbers","row"] (re CR CW):=by
 refine T.def0 oh (fun vs H Q E h=>?_) (fun f cdv A outer s H vs Q E hr h=>?_)
 ·obtain⟨nv,a,b,k,ns,row,ans,rfl,_⟩:=h
  rfl
 obtain⟨nv,a,b,k,ns,row,ans,rfl,k1,k15,ha,hb,hnl,hrl,hv,q⟩:=h
 have nd:=oh.nd
 have hr4:Room 4 _:=hr.mono (by decide)
 obtain⟨hb',ws,hH,hKb,hw15,hws⟩:=TH.ex
 refine⟨_,ad (bi (bN (hG (pv 0))) (ah (au (bz (aa (pe_c hNN rfl) af)))) aK)
  (ad (ao (i:=4) nd rfl (Or.inl rfl) (az DF hr4 rfl aA (aa (pv 0) (aa (aE bg (bT (v:=.ref hb') rfl hH rfl) (pv 1) (fun _ _=>rfl)) (aa (pv 2) (aa (pv 3) af))))))
  (ad (bi (aL vn (pv 4) ak (aR _)) (ah (au (bz (aa (pv 4) af)))) aK)
  (ah (au (az DA hr rfl aA (aa (pv 0) (aa (pv 1) (aa (bG qj (pv 2) (pv 3)) af)))))))),?_⟩
 rcases hv with⟨rfl,rfl⟩ | ⟨p,n,rfl,hN,hg⟩
 ·refine⟨_,rfl,_,rfl,?_⟩
  refine iteT ⟨by show 1≤sizeLine;decide,fun l hl=>?_⟩
  exact q _ l (ai hl) hl ac
 ·refine⟨_,rfl,_,rfl,?_⟩
  refine iteF ?_
  obtain⟨wk,hwk⟩:∃ wk,ws[k]?=some wk:=⟨ws[k]'(by omega),getElem?_eq_getElem (by omega)⟩
  have hKw:=hws k wk hwk
  have c4:=wn k k15
  refine⟨_,rfl,_,rfl,hb',_,_,_,rfl,rfl,hKb.sq,ax (j:=k) (by rw[getElem?_map,hwk];rfl),_,rfl,_,rfl,p,wk,a,b,n,k,ns,row,rfl,hN,hKw,k15,ha,hnl,hb,by omega,fun H1 s1=>?_⟩
  refine⟨_,rfl,rfl,_,rfl,?_⟩
  by_cases z:refF n k ns row=0
  ·rw[show(!decide (V.int (refF n k ns row)=V.int 0))=false by rw[z];rfl]
   refine iteF ⟨_,rfl,_,rfl,_,rfl,_,rfl,a,b,_,_,rfl,rfl,s1 _ _ ha,s1 _ _ hb,?_,fun l hl=>?_⟩
   ·rw[length_map,length_map]
    exact cD (m:=1000) (by omega)
   ·have s2:Same H1 (upd H1 l (.lst (ns.map V.int++row.map V.int))):=ai hl
    refine⟨p,l,n,k,ns++row,ans,rfl,k1,k15,hN.same (s1.trans s2),by rw[ac,map_append],hg.2 z,fun H2 l2 s3 hl0 hl2=>?_⟩
    exact q H2 l2 ((s1.trans s2).trans s3) (aN (s1.trans s2) hl0) hl2
  ·rw[show(!decide (V.int (refF n k ns row)=V.int 0))=true by rw[decide_eq_false fun e=>z (by injection e)];rfl]
   refine iteT ⟨_,rfl,by show 1≤sizeLine;decide,fun l hl=>?_⟩
   refine q _ l (s1.trans (ai hl)) (aN s1 hl) ?_
   rw[ac,hg.1 z]
   rfl
def eX(K:Frag):Sp:=fun vs H Q _=>∃ (c:Addr) (l:List Int) (cs:List (List (List Int))),vs=[.ref c]∧SqL K H c (l.map V.int)∧l.length≤16000∧PyFlat.calls PyVapktc.shape l.length l=some cs∧(∀ x∈cs,VapktcNeutral.asked1 x=true)∧(PyVapktc.answers l).length≤10000000∧
 ∀ (H':Hp) (p:Addr),H' p=some (.lst ((PyVapktc.answers l).map V.int))→Q (.ref p) H'
theorem jx:al ["calls","network","given","place","found","told","answer"] ["calls"] (aj cV):=⟨rfl,rfl,rfl,by decide +kernel,rfl,by decide +kernel,by decide +kernel⟩
def fB(CR CW:Addr)(H:Hp)(v:V)(s:VapktcNeutral.S):Prop:=(v=.non∧s=⟨none⟩)∨∃ (p:Addr) (n:Net),v=.ref p∧bI CR CW H p n∧s=⟨some n⟩
theorem fB.same{H H':Hp}{v:V}{s:VapktcNeutral.S}(h:fB CR CW H v s)(e:Same H H'):fB CR CW H' v s:=by
 rcases h with h | ⟨p,n,h1,h2,h3⟩
 ·exact .inl h
 ·exact .inr ⟨p,n,h1,h2.same e,h3⟩
theorem qu(B:TxtB mg)(hN0:IsC mg "NET" 0)(DC:aq P w K mg base CX0 2 "call_at" ["calls","place"] (nI K))(DT:aq P w K mg base CX0 7 "network_told" ["numbers"] (lc CR CW))(DN:aq P w K mg base CX0 1 "answer_net" ["network"] (uv CR CW))(DA:aq P w K mg base CX0 12 "answer_call" ["network","call","numbers","row"] (re CR CW)){fA:Addr}{fdA:FuncData}(F:Fun K "answers" "answers" cV fA fdA):FnOk P w K mg base CX0 13 fA fdA ["calls"] (eX K):=by
 refine F.ok jx (fun vs H Q E h=>?_) (fun cdv A outer s H vs Q E hr h=>?_)
 ·obtain⟨c,l,cs,rfl,_⟩:=h
  rfl
 obtain⟨c,l,cs0,rfl,hc,hl16,hcs0,hask0,hsize,q⟩:=h
 have nd:=jx.nd
 have hr2:Room 2 _:=hr.mono (by decide)
 have hr7:Room 7 _:=hr.mono (by decide)
 have hr1:Room 1 _:=hr.mono (by decide)
 refine⟨_,ad (ao (i:=1) nd rfl (Or.inl rfl) mI)
  (ad (ao (i:=2) nd rfl (Or.inl rfl) (bz af))
  (ad (ao (i:=3) nd rfl (Or.inl rfl) ak)
  (ad (gc PassesOwn.never (aL iI (pv 3) (aM aG rfl B.len PySem.boot_len (aa (pv 0) af)) (aR _))
   (ad (ao (i:=4) nd rfl (Or.inl rfl) (az DC hr2 rfl aA (aa (pv 0) (aa (pv 3) af))))
   (ad (ao (i:=3) nd rfl (Or.inl rfl) (aE bg (pv 4) ak (fun _ _=>rfl)))
   (ad (bi (aL bY (aE bg (pv 4) ak (fun _ _=>rfl)) (pe_c hN0 rfl) (aR _))
    (ad (gd (ao (i:=5) nd rfl (Or.inl rfl) (az DT hr7 rfl aA (aa (aE bg (pv 4) ak (fun _ _=>rfl)) af))))
    (ad (ao (i:=6) nd rfl (Or.inl rfl) (az DN hr1 rfl aA (aa (pv 5) af)))
    (ah (bi (bN (jc (pv 5))) (ah (ao (i:=1) nd rfl (Or.inl rfl) (pv 5))) aK))))
    (ah (ao (i:=6) nd rfl (Or.inl rfl) (az DA hr rfl aA (aa (pv 1) (aa (aE bg (pv 4) ak (fun _ _=>rfl)) (aa (aE bg (pv 4) ak (fun _ _=>rfl)) (aa (aE bg (pv 4) ak (fun _ _=>rfl)) af))))))))
   (ad (b9 (eu PySem.F.plainAttrs_list PySem.F.slot_list_append PySem.F.type_list_append fh (pv 2) (aa (aM aG rfl B.len PySem.boot_len (aa (pv 6) af)) af)))
   (ah (b9 (eu PySem.F.plainAttrs_list PySem.F.slot_list_extend PySem.F.type_list_extend ib (pv 2) (aa (pv 6) af)))))))))
  (ah (au (pv 2)))))),?_⟩
 refine⟨by show 0≤sizeLine;decide,fun g hg=>?_⟩
 have s0:Same H (upd H g (.lst [])):=ai hg
 refine⟨fun m σ H'=>∃ (nv:V) (v4 v5 v6:Option V) (pl f':Nat) (st:VapktcNeutral.S) (gs:List Int) (cs:List (List (List Int))),σ=[some (.ref c),some nv,some (.ref g),some (.int (pl:Int)),v4,v5,v6]∧Same H H'∧(∃ Hn,fB CR CW Hn nv st∧Same Hn H'∧Hn g=none)∧H' g=some (.lst (gs.map V.int))∧pl≤l.length∧m=l.length - pl∧PyFlat.calls PyVapktc.shape f' (l.drop pl)=some cs∧(∀ x∈cs,VapktcNeutral.asked1 x=true)∧PyVapktc.answers l=gs++Mc.ans st cs,
  ⟨l.length,.non,none,none,none,0,l.length,⟨none⟩,[],cs0,rfl,s0,⟨H,.inl ⟨rfl,rfl⟩,s0,hg⟩,ac,Nat.zero_le _,rfl,hcs0,hask0,Mc.qR hcs0⟩,?_⟩
 rintro m σ H1 ⟨nv,v4,v5,v6,pl,f',st,gs,cs,rfl,s1,⟨Hn,hst,hsn,hgn⟩,hg1,hpl,rfl,hcs,hask,hans⟩
 refine⟨_,rfl,_,rfl,c,_,rfl,.inl (s1.seq hc),_,_,rfl,rfl,_,rfl,?_⟩
 rw[length_map]
 by_cases hlt:(pl:Int) < (l.length:Int)
 ·rw[decide_eq_true hlt]
  refine iteT ?_
  have hne:l.drop pl≠[]:=fun e=>by
   have:=List.drop_eq_nil_iff.mp e
   omega
  obtain⟨f2,cc,t,cs',rfl,hcall,hrest⟩:=Mc.kH hcs hne
  obtain⟨k,ns,row,at'⟩:=Mc.fz hcall
  have hrow:=Mc.wu at' (hask cc (by simp))
  have k15:=at'.k15
  refine⟨_,fun _ _ h=>h,?_⟩
  refine⟨_,rfl,_,rfl,c,l,pl,cc,t,k,ns,row,rfl,s1.seq hc,hl16,hpl,at',fun H2 u nA rA nx s2 nA0 rA0 hu hnA hrA hnx hdrop hplnx=>?_⟩
  refine⟨_,rfl,u,_,_,_,rfl,rfl,SqT.of hu,ax (j:=3) rfl,?_⟩
  refine⟨_,rfl,u,_,_,_,rfl,rfl,SqT.of hu,ax (j:=0) rfl,rfl,_,rfl,?_⟩
  have s12:=s1.trans s2
  have total:(gs++(((VapktcNeutral.step st cc).2.length:Int)::(VapktcNeutral.step st cc).2)).length≤10000000:=by
   rw[hans,Mc.pD] at hsize
   rw[←append_assoc,length_append] at hsize
   omega
  have tl:gs.length+1+(VapktcNeutral.step st cc).2.length≤10000000:=by
   rw[length_append,length_cons] at total
   omega
  obtain⟨A,hA⟩:∃ A,(VapktcNeutral.step st cc).2=A:=⟨_,rfl⟩
  obtain⟨st',hst'⟩:∃ s,(VapktcNeutral.step st cc).1=s:=⟨_,rfl⟩
  rw[hA] at tl
  have ha2:PyVapktc.answers l=(gs++((A.length:Int)::A))++Mc.ans st' cs':=by
   rw[hans,Mc.pD,hA,hst',append_assoc]
  have hg2:H2 g=some (.lst (gs.map V.int)):=s2 _ _ hg1
  have sz:sizeLine=16777216:=sizeLine_eq
  have nug:u≠g:=aP hu hg2 (by intro z;cases z)
  have nrg:rA≠g:=(ae hg1 rA0).symm
  have fin:∀ (H3 H5:Hp) (an:Addr) (nv':V) (v5':Option V),H5=upd (upd H3 g (.lst (gs.map V.int++[.int ((A.map V.int).length:Nat)]))) g (.lst (gs.map V.int++[.int ((A.map V.int).length:Nat)]++A.map V.int))→Same H H3→(∃ Hn,fB CR CW Hn nv' st'∧Same Hn H3∧Hn g=none)→∃ m',m' < l.length - pl∧∃ (nv:V) (v4 v5 v6:Option V) (pl f':Nat) (st:VapktcNeutral.S) (gs:List Int) (cs:List (List (List Int))),[some (.ref c),some nv',some (.ref g),some (.int (nx:Int)),some (.ref u),v5',some (.ref an)]=[some (.ref c),some nv,some (.ref g),some (.int (pl:Int)),v4,v5,v6]∧Same H H5∧(∃ Hn,fB CR CW Hn nv st∧Same Hn H5∧Hn g=none)∧H5 g=some (.lst (gs.map V.int))∧pl≤l.length∧m'=l.length - pl∧PyFlat.calls PyVapktc.shape f' (l.drop pl)=some cs∧(∀ x∈cs,VapktcNeutral.asked1 x=true)∧PyVapktc.answers l=gs++Mc.ans st cs:=by
   rintro H3 H5 an nv' v5' rfl s3 ⟨Hn',h1,h2,h3⟩
   refine⟨l.length - nx,by omega,nv',_,_,_,nx,f2,st',gs++((A.length:Int)::A),cs',rfl,fun b o e=>?_,⟨Hn',h1,fun b o e=>?_,h3⟩,?_,hnx,rfl,by rw[hdrop];exact hrest,fun x hx=>hask x (by simp[hx]),ha2⟩
   ·rw[ag (ae e hg),ag (ae e hg)]
    exact s3 _ _ e
   ·rw[ag (ae e h3),ag (ae e h3)]
    exact h2 _ _ e
   ·rw[ac,map_append,length_map,append_assoc]
    rfl
  have l1:(gs.map V.int).length < sizeLine:=by
   rw[length_map,sz]
   omega
  have l2:(gs.map V.int++[V.int ((A.map V.int).length:Nat)]).length+(A.map V.int).length≤sizeLine:=by
   rw[length_append,length_map,length_map,length_singleton,sz]
   omega
  by_cases k0:k=0
  ·subst k0
   refine iteT ?_
   refine⟨g,_,hg2,trivial,fun od=>?_⟩
   refine⟨_,rfl,u,_,_,_,rfl,rfl,SqT.of (by rw[ag nug];exact hu),ax (j:=2) rfl,rA,row,rfl,by rw[ag nrg];exact hrA,hrow,fun n p H3 hnet s3 hN3=>?_,fun H3 hnet s3=>?_⟩
   ·have hgz:=s3 _ _ (ac (H:=H2) (a:=g) (o:=.frz od (.lst (gs.map V.int))))
    refine⟨hgz,?_⟩
    have sF:Same H2 (upd H3 g (.lst (gs.map V.int))):=fun b o e=>by
     by_cases z:b=g
     ·subst z
      rw[hg2] at e
      cases e
      rw[ac]
     ·rw[ag z]
      exact s3 _ _ (by rw[ag z];exact e)
    have hE:bI CR CW (fun b=>if b=g then none else H3 b) p n:=hN3.keep fun b o e ho=>by
     by_cases z:b=g
     ·rw[z,hgz] at e
      cases e
      exact absurd rfl (ho _ _)
     ·show(if b=g then none else H3 b)=_
      rw[if_neg z]
      exact e
    have sE:Same (fun b=>if b=g then none else H3 b) (upd H3 g (.lst (gs.map V.int))):=fun b o e=>by
     have e:(if b=g then none else H3 b)=some o:=e
     split at e
     ·cases e
     ·rename_i z
      rw[ag z]
      exact e
    have hgF:upd H3 g (.lst (gs.map V.int)) g=some (.lst (gs.map V.int)):=ac
    have hst2:=rO at' st
    rw[hnet] at hst2
    have eA:A=mS n:=by rw[←hA,hst2]
    have eS:st'=⟨some n⟩:=by rw[←hst',hst2]
    generalize upd H3 g (.lst (gs.map V.int))=H4 at sF sE hgF
    refine⟨_,rfl,.inr ⟨p,n,rfl,hE.same sE,fun H5 an s5 han0 han=>?_⟩⟩
    rw[←eA] at han
    refine⟨_,rfl,_,rfl,?_⟩
    refine iteT ⟨_,rfl,?_⟩
    have hg5:=s5 _ _ hgF
    have nag:an≠g:=(ae hgF han0).symm
    refine⟨_,rfl,.inl ⟨rfl,_,SqL.of hg5⟩,_,rfl,an,_,rfl,.inl (SqL.of han),g,_,_,rfl,rfl,hg5,l1,?_⟩
    refine⟨_,rfl,.inl ⟨rfl,_,SqL.of ac⟩,_,rfl,g,an,_,_,rfl,rfl,ac,by rw[ag nag];exact han,l2,?_⟩
    exact fin H5 _ an (.ref p) _ rfl ((s12.trans sF).trans s5) ⟨_,.inr ⟨p,n,rfl,hE,eS⟩,sE.trans s5,if_pos rfl⟩
   ·have hgz:=s3 _ _ (ac (H:=H2) (a:=g) (o:=.frz od (.lst (gs.map V.int))))
    refine⟨hgz,?_⟩
    have sF:Same H2 (upd H3 g (.lst (gs.map V.int))):=fun b o e=>by
     by_cases z:b=g
     ·subst z
      rw[hg2] at e
      cases e
      rw[ac]
     ·rw[ag z]
      exact s3 _ _ (by rw[ag z];exact e)
    have hgF:upd H3 g (.lst (gs.map V.int)) g=some (.lst (gs.map V.int)):=ac
    have hst2:=rO at' st
    rw[hnet] at hst2
    have eA:A=[-1]:=by rw[←hA,hst2]
    have eS:st'=st:=by rw[←hst',hst2]
    generalize upd H3 g (.lst (gs.map V.int))=H4 at sF hgF
    refine⟨_,rfl,.inl ⟨rfl,fun an han0=>?_⟩⟩
    have s5:Same H4 (upd H4 an (.lst [.int (-1)])):=ai han0
    have han:upd H4 an (.lst [.int (-1)]) an=some (.lst (A.map V.int)):=by
     rw[ac,eA]
     rfl
    generalize upd H4 an (.lst [.int (-1)])=H5 at s5 han
    refine⟨_,rfl,_,rfl,?_⟩
    refine iteF ?_
    have hg5:=s5 _ _ hgF
    have nag:an≠g:=(ae hgF han0).symm
    refine⟨_,rfl,.inl ⟨rfl,_,SqL.of hg5⟩,_,rfl,an,_,rfl,.inl (SqL.of han),g,_,_,rfl,rfl,hg5,l1,?_⟩
    refine⟨_,rfl,.inl ⟨rfl,_,SqL.of ac⟩,_,rfl,g,an,_,_,rfl,rfl,ac,by rw[ag nag];exact han,l2,?_⟩
    exact fin H5 _ an nv _ rfl ((s12.trans sF).trans s5) ⟨Hn,by rw[eS];exact hst,((hsn.trans s2).trans sF).trans s5,hgn⟩
  ·have ek:decide (V.int ((k:Nat):Int)=V.int 0)=false:=by
    rw[bU,beq_eq_false_iff_ne]
    omega
   rw[ek]
   refine iteF ?_
   have k1:1≤k:=by omega
   have hst2:=(hst.same hsn).same s2
   refine⟨_,rfl,_,rfl,u,_,_,_,rfl,rfl,SqT.of hu,ax (j:=0) rfl,_,rfl,u,_,_,_,rfl,rfl,SqT.of hu,ax (j:=1) rfl,_,rfl,u,_,_,_,rfl,rfl,SqT.of hu,ax (j:=2) rfl,nv,nA,rA,k,ns,row,A,rfl,k1,k15,hnA,hrA,at'.len,hrow,?_,fun H5 an s5 han0 han=>?_⟩
   ·rcases hst2 with⟨rfl,rfl⟩ | ⟨p,n,rfl,hN2,rfl⟩
    ·refine .inl ⟨rfl,?_⟩
     rw[←hA,oN at' k1]
    ·refine .inr ⟨p,n,rfl,hN2,?_⟩
     rw[←hA]
     obtain⟨_,_,_,hn⟩:=id hN2
     exact(pp hn.wf at' k1).2
   ·have eS:st'=st:=by
     rw[←hst']
     rcases hst2 with⟨rfl,rfl⟩ | ⟨p,n,rfl,hN2,rfl⟩
     ·rw[oN at' k1]
     ·obtain⟨_,_,_,hn⟩:=id hN2
      exact(pp hn.wf at' k1).1
    have hg5:=s5 _ _ hg2
    have nag:an≠g:=(ae hg2 han0).symm
    refine⟨_,rfl,.inl ⟨rfl,_,SqL.of hg5⟩,_,rfl,an,_,rfl,.inl (SqL.of han),g,_,_,rfl,rfl,hg5,l1,?_⟩
    refine⟨_,rfl,.inl ⟨rfl,_,SqL.of ac⟩,_,rfl,g,an,_,_,rfl,rfl,ac,by rw[ag nag];exact han,l2,?_⟩
    exact fin H5 _ an nv _ rfl (s12.trans s5) ⟨Hn,by rw[eS];exact hst,(hsn.trans s2).trans s5,hgn⟩
 ·rw[decide_eq_false hlt]
  refine iteF ⟨_,rfl,?_⟩
  have e:pl=l.length:=by omega
  rw[e,List.drop_length] at hcs
  have:=Mc.md hcs
  subst this
  rw[Mc.xG,append_nil] at hans
  refine q H1 g ?_
  rw[hans]
  exact hg1
end
def so(k:Nat):Str:=(["","answer_told","answer_way","answer_ends","answer_toexit","answer_tokind","answer_passing","answer_outat","answer_arriving","answer_leading","answer_least","answer_longest","answer_overlink","answer_used","answer_loop"]:List Str).getD k ""
structure wz(K:Frag)(mg:Str→Option Value):Prop where
 ex:∃ (b:Addr) (f:Int→Option Value),mg "ANSWERS"=some (.ref b)∧KTab K b f∧∀ k:Nat,1≤k→k < 15→f (k:Int)=mg (so k)
structure AllT(K:Frag)(mg:Str→Option Value)(CR CW CN CE:Addr):Prop where
 B:TxtB mg
 C:TxtC mg
 Z:TxtZ mg
 TE:TxtE K mg
 TH:TxtH K mg
 TA:wz K mg
 TR:TxtR K mg CR
 TW:TxtW K mg CW
 TN:TxtN K mg CN CE
 c_NET:IsC mg "NET" 0
 c_USED:IsC mg "USED" 13
 c_SHOWN_PACKETS:IsC mg "SHOWN_PACKETS" 60
 c_NOT_TOLD:IsC mg "NOT_TOLD" (-1)
 c_NO_NETWORK:IsC mg "NO_NETWORK" (-8)
 c_MOST_RULES:IsC mg "MOST_RULES" 8
 c_MOST_LINKS:IsC mg "MOST_LINKS" 10
 c_MOST_BITS:IsC mg "MOST_BITS" 7
 c_MOST_SWITCHES:IsC mg "MOST_SWITCHES" 5
 f_is_pattern:TxtF K mg "is_pattern" dL ["pattern","size"]
 f_matches:TxtF K mg "matches" bF ["header","pattern"]
 f_rewritten:TxtF K mg "rewritten" cU ["header","rewrite"]
 f_set_of:TxtF K mg "set_of" gO ["headers","size"]
 f_one_form:TxtF K mg "one_form" dg ["members"]
 f_set_numbers:TxtF K mg "set_numbers" bZ ["members"]
 f_far_ports:TxtF K mg "far_ports" sFar ["links"]
 f_rule_that_counts:TxtF K mg "rule_that_counts" gb ["table","header"]
 f_packets_passed:TxtF K mg "packets_passed" cP ["onward","starts"]
 f_way_of:TxtF K mg "way_of" gM ["onward","packet"]
 f_round_of:TxtF K mg "round_of" mx ["onward","packet"]
 f_way_lengths:TxtF K mg "way_lengths" rG ["onward","starts"]
 f_first_settled:TxtF K mg "first_settled" cE ["onward","settled","otherwise"]
 f_packet_numbers:TxtF K mg "packet_numbers" jC ["packets"]
 f_without_header:TxtF K mg "without_header" eZ ["end"]
 f_headers_passing:TxtF K mg "headers_passing" sHP ["network","switch","packets"]
 f_answer_to:TxtF K mg "answer_to" sATo ["network","call","numbers"]
 f_read_pattern:TxtF K mg "read_pattern" lF ["source","size"]
 f_read_rule:TxtF K mg "read_rule" jA ["source","size"]
 f_read_table:TxtF K mg "read_table" rF ["source","size"]
 f_read_port:TxtF K mg "read_port" jB ["source","switches"]
 f_read_links:TxtF K mg "read_links" jb ["source","switches"]
 f_read_network:TxtF K mg "read_network" uF ["numbers"]
 f_numbers_for:TxtF K mg "numbers_for" ga ["word"]
 f_call_at:TxtF K mg "call_at" mz ["calls","place"]
 f_refusal_of:TxtF K mg "refusal_of" my ["network","word","numbers","place"]
 f_refusal_of_row:TxtF K mg "refusal_of_row" ja ["network","switches"]
 f_first_refusal:TxtF K mg "first_refusal" gP ["network","words","numbers","row"]
 f_network_told:TxtF K mg "network_told" jD ["numbers"]
 f_answer_net:TxtF K mg "answer_net" uJ ["network"]
 f_answer_call:TxtF K mg "answer_call" pY ["network","call","numbers","row"]
 f_answer_told:TxtF K mg "answer_told" pV ["network","numbers"]
 f_answer_way:TxtF K mg "answer_way" uI ["network","numbers"]
 f_answer_ends:TxtF K mg "answer_ends" pX ["network","numbers"]
 f_answer_toexit:TxtF K mg "answer_toexit" jH ["network","numbers"]
 f_answer_tokind:TxtF K mg "answer_tokind" jG ["network","numbers"]
 f_answer_passing:TxtF K mg "answer_passing" gQ ["network","numbers"]
 f_answer_outat:TxtF K mg "answer_outat" mB ["network","numbers"]
 f_answer_arriving:TxtF K mg "answer_arriving" fN ["network","numbers"]
 f_answer_leading:TxtF K mg "answer_leading" gT ["network","numbers"]
 f_answer_least:TxtF K mg "answer_least" mC ["network","numbers"]
 f_answer_longest:TxtF K mg "answer_longest" gS ["network","numbers"]
 f_answer_overlink:TxtF K mg "answer_overlink" fM ["network","numbers"]
 f_answer_used:TxtF K mg "answer_used" pU ["network","numbers"]
 f_answer_loop:TxtF K mg "answer_loop" pW ["network","numbers"]
section
variable{P:Program}{w:World}{K:Frag}{mg:Str→Option Value}{base:Heap}{CR CW CN CE:Addr}
theorem tab_of(A:AllT K mg CR CW CN CE):TabOk P w K mg base CR CW:=by
 obtain⟨b,f,h1,h2,h3⟩:=A.TA.ex
 refine⟨b,f,h1,h2,fun k k1 k15=>?_⟩
 have mk:∀ (j:Nat) (sp:Sp),j≤10→aq P w K mg base CX0 j (so k) ["network","numbers"] sp→∃ fa fd,f (k:Int)=some (.ref fa)∧FnOk P w K mg base CX0 10 fa fd ["network","numbers"] sp∧PySem.W.keepIn K (.ref fa)=true∧cj K fd ["network","numbers"] []:=fun j sp hj D=>by
  obtain⟨fa,fd,F,g,kp,bd⟩:=D
  exact⟨fa,fd,(h3 k k1 k15).trans g,F.mono hj,kp,bd⟩
 match k,k1,k15,mk with
 | 1,_,_,mk=>exact mk _ _ (by omega) (vC A.TW A.B A.f_answer_told)
 | 2,_,_,mk=>exact mk _ _ (by omega) (xb A.TW A.B A.c_SHOWN_PACKETS A.f_packet_numbers A.f_packets_passed A.f_way_of A.f_answer_way)
 | 3,_,_,mk=>exact mk _ _ (by omega) (vE A.TW A.B A.f_without_header A.f_answer_ends)
 | 4,_,_,mk=>exact mk _ _ (by omega) (qw A.TW A.B A.C A.f_without_header A.f_one_form A.f_set_numbers A.f_answer_toexit)
 | 5,_,_,mk=>exact mk _ _ (by omega) (qv A.TW A.B A.f_one_form A.f_set_numbers A.f_answer_tokind)
 | 6,_,_,mk=>exact mk _ _ (by omega) (oH A.TW A.B A.TE A.f_matches A.f_first_settled A.f_headers_passing A.f_one_form A.f_set_numbers A.f_answer_passing)
 | 7,_,_,mk=>exact mk _ _ (by omega) (tJ A.TW A.B A.C A.f_without_header A.f_set_of A.f_one_form A.f_set_numbers A.f_answer_outat)
 | 8,_,_,mk=>exact mk _ _ (by omega) (mP A.TW A.B A.f_matches A.f_packets_passed A.f_set_of A.f_one_form A.f_set_numbers A.f_answer_arriving)
 | 9,_,_,mk=>exact mk _ _ (by omega) (oJ A.TW A.B A.f_matches A.f_first_settled A.f_headers_passing A.f_one_form A.f_set_numbers A.f_answer_leading)
 | 10,_,_,mk=>exact mk _ _ (by omega) (tK A.TW A.B A.f_answer_least)
 | 11,_,_,mk=>exact mk _ _ (by omega) (oI A.TW A.B A.C A.TE A.f_matches A.f_way_lengths A.f_answer_longest)
 | 12,_,_,mk=>exact mk _ _ (by omega) (mO A.TW A.B A.f_first_settled A.f_headers_passing A.f_one_form A.f_set_numbers A.f_answer_overlink)
 | 13,_,_,mk=>exact mk _ _ (by omega) (vB A.TW A.B A.TE A.f_matches A.f_packets_passed A.f_set_of A.f_one_form A.f_set_numbers A.f_answer_used)
 | 14,_,_,mk=>exact mk _ _ (by omega) (vD A.TW A.B A.c_SHOWN_PACKETS A.f_packet_numbers A.f_packets_passed A.f_way_of A.f_round_of A.f_answer_loop)
theorem all_ok(A:AllT K mg CR CW CN CE){fA:Addr}{fdA:FuncData}(F:Fun K "answers" "answers" cV fA fdA):FnOk P w K mg base CX0 13 fA fdA ["calls"] (eX K):=by
 obtain⟨tP,hP⟩:=A.C.ports
 obtain⟨t1,h1⟩:=A.c_MOST_RULES
 obtain⟨t2,h2⟩:=A.c_MOST_LINKS
 obtain⟨t3,h3⟩:=A.c_MOST_BITS
 obtain⟨t4,h4⟩:=A.c_MOST_SWITCHES
 have DI:dZ P w K mg base CX0 4 CW ["self","numbers","width","tables","links"] (gK CR CW):=qo A.TW A.TR A.B A.C A.f_matches A.f_rewritten A.f_rule_that_counts A.f_far_ports A.f_first_settled
 exact qu A.B A.c_NET (tI A.B A.c_NET A.c_USED A.TH A.f_numbers_for A.f_call_at)
  (qm A.TN (w9 A.TN A.TR A.TW A.B A.f_is_pattern A.f_read_pattern A.f_read_rule A.f_read_table A.f_read_port A.f_read_links A.f_read_network hP h1 h2 h3 h4 DI) A.f_network_told)
  (xf A.TW A.B A.C A.c_NOT_TOLD A.f_answer_net)
  (vF A.TH A.c_NO_NETWORK (vA A.TW A.B A.C A.Z A.f_is_pattern A.f_numbers_for A.f_refusal_of A.f_refusal_of_row A.f_first_refusal) (ok_aTo (tab_of A) A.f_answer_to) A.f_answer_call) F
variable{h:Heap}
theorem TxtF.mk'{x:Str}{st:Stmt}{ps:List Str}{f:Addr}{oc:Value}{od an:Option Addr}{osl:Array (Option Value)}{kV doc pm cdv ct:Value}(X:K.In h)(G:h.Ns mainGlobals mg)(a:PySem.W.nsIn K mainGlobals x=some (some (.ref f)))
  (l:K.lookup f=some ⟨oc,od,.func (PySem.W.fnOf x x (cg st) (bq st) (aj st) .none kV doc pm an cdv ct),osl⟩) (c:PySem.W.codeIn K cdv x=true) (k:PySem.W.keepIn K (.ref f)=true)
  (b:∀ (kV doc pm:Value) (an:Option Addr) (cdv ct:Value) (us:List Value),us.length=ps.length→bindArgs (PySem.W.fnOf x x (cg st) (bq st) (aj st) .none kV doc pm an cdv ct) ⟨us,[]⟩=pure (ps.zip us)):TxtF K mg x st ps:=
 ⟨_,_,fU (st:=st) l c k,PySem.W.mg_of X G a,(fU (st:=st) l c k).binds b⟩
theorem TxtM.mk'{C:Addr}{m q:Str}{st:Stmt}{ps:List Str}{f:Addr}{oc:Value}{od an:Option Addr}{osl:Array (Option Value)}{kV doc pm cdv ct:Value}(a:PySem.W.findIn K (.ref C) m=some (some (.ref f)))(i:PySem.W.isFn K (.ref f)=true)
  (l:K.lookup f=some ⟨oc,od,.func (PySem.W.fnOf m q (cg st) (bq st) (aj st) .none kV doc pm an cdv ct),osl⟩) (c:PySem.W.codeIn K cdv q=true) (k:PySem.W.keepIn K (.ref f)=true)
  (b:∀ (kV doc pm:Value) (an:Option Addr) (cdv ct:Value) (us:List Value),us.length=ps.length→bindArgs (PySem.W.fnOf m q (cg st) (bq st) (aj st) .none kV doc pm an cdv ct) ⟨us,[]⟩=pure (ps.zip us)):TxtM K C m q st ps:=
 ⟨_,_,fU (st:=st) l c k,⟨a,i,k⟩,(fU (st:=st) l c k).binds b⟩
theorem TxtI.mk'{C:Addr}{q:Str}{st:Stmt}{ps:List Str}{f:Addr}{oc:Value}{od an:Option Addr}{osl:Array (Option Value)}{kV doc pm cdv ct:Value}(mk:PySem.W.makesIn K C=true)(a:PySem.W.findIn K (.ref C) "__init__"=some (some (.ref f)))(i:PySem.W.isFn K (.ref f)=true)(kc:PySem.W.keepIn K (.ref C)=true)
  (l:K.lookup f=some ⟨oc,od,.func (PySem.W.fnOf "__init__" q (cg st) (bq st) (aj st) .none kV doc pm an cdv ct),osl⟩) (c:PySem.W.codeIn K cdv q=true) (k:PySem.W.keepIn K (.ref f)=true)
  (b:∀ (kV doc pm:Value) (an:Option Addr) (cdv ct:Value) (us:List Value),us.length=ps.length→bindArgs (PySem.W.fnOf "__init__" q (cg st) (bq st) (aj st) .none kV doc pm an cdv ct) ⟨us,[]⟩=pure (ps.zip us)):TxtI K C q st ps:=
 ⟨_,_,fU (st:=st) l c k,⟨mk,a,i,kc⟩,(fU (st:=st) l c k).binds b⟩
theorem IsC.mk'{x:Str}{z:Int}{t:Tok}(X:K.In h)(G:h.Ns mainGlobals mg)(a:PySem.W.nsIn K mainGlobals x=some (some (.int z t))):IsC mg x z:=⟨t,PySem.W.mg_of X G a⟩
theorem KTup.ints2{a:Addr}{x y:Int}{t t':Tok}{od:Option Addr}{n:Nat}{sl:Array (Option Value)}(l:K.lookup a=some ⟨.type "tuple",od,.seq #[.int x t,.int y t'] n,sl⟩):KTup K a [.int x,.int y]:=
 ⟨_,_,n,l,rfl,rfl,by show 2≤sizeLine;decide,.cons ⟨t,rfl⟩ (.cons ⟨t',rfl⟩ .nil)⟩
end
section
variable{P:Program}{w:World}{K:Frag}{mg:Str→Option Value}{h:Heap}{CR CW CN CE:Addr}
theorem fin_mk{fa f:Addr}{oc:Value}{od an:Option Addr}{osl:Array (Option Value)}{kV doc pm cdv ct:Value}(X:K.In h)(G:h.Ns mainGlobals mg)(hfa:mg "answers"=some (.ref fa))
  (gR:PySem.W.nsIn K mainGlobals "Rule"=some (some (.ref CR))) (gW:PySem.W.nsIn K mainGlobals "Network"=some (some (.ref CW))) (gN:PySem.W.nsIn K mainGlobals "Numbers"=some (some (.ref CN))) (gE:PySem.W.nsIn K mainGlobals "NotANetwork"=some (some (.ref CE)))
  (A:AllT K mg CR CW CN CE) (a:PySem.W.nsIn K mainGlobals "answers"=some (some (.ref f))) (l:K.lookup f=some ⟨oc,od,.func (PySem.W.fnOf "answers" "answers" (cg cV) (bq cV) (aj cV) .none kV doc pm an cdv ct),osl⟩)
  (c:PySem.W.codeIn K cdv "answers"=true) (k:PySem.W.keepIn K (.ref f)=true) :
  ∃ fd:FuncData,(∀ (s:Shared) (us:List Value),us.length=(["calls"]:List Str).length→BindsTo s fd ⟨us,[]⟩ ((["calls"]:List Str).zip us))∧∀ base:Heap,K.In base→base.Ns mainGlobals mg→FnOk P w K mg base CX0 13 fa fd ["calls"] (eX K):=by
 have e:=hfa.symm.trans (PySem.W.mg_of X G a)
 cases e
 exact⟨_,fun s us hu=>match us,hu with | [_],_=>.of_eq rfl,fun base _ _=>all_ok A (fU (st:=cV) l c k)⟩
theorem xr(X:K.In h)(G:h.Ns mainGlobals mg){b c0 c1 c2 c3 c4 c5 c6 c7 c8 c9 c10 c11 c12 c13 c14:Addr}{od d0 d1 d2 d3 d4 d5 d6 d7 d8 d9 d10 d11 d12 d13 d14:Option Addr}{n n0 n1 n2 n3 n4 n5 n6 n7 n8 n9 n10 n11 n12 n13 n14:Nat}{sl s0 s1 s2 s3 s4 s5 s6 s7 s8 s9 s10 s11 s12 s13 s14:Array (Option Value)}{t2_0 t2_1:Tok}{t3_0:Tok}{t4_0 t4_1:Tok}{t5_0 t5_1:Tok}{t6_0 t6_1:Tok}{t7_0 t7_1:Tok}{t8_0 t8_1 t8_2:Tok}{t9_0 t9_1 t9_2:Tok}{t10_0:Tok}{t11_0:Tok}{t12_0 t12_1:Tok}{t13_0 t13_1:Tok}{t14_0 t14_1:Tok}(a:PySem.W.nsIn K mainGlobals "HANDED"=some (some (.ref b)))
  (l:K.lookup b=some ⟨.type "tuple",od,.seq #[.ref c0,.ref c1,.ref c2,.ref c3,.ref c4,.ref c5,.ref c6,.ref c7,.ref c8,.ref c9,.ref c10,.ref c11,.ref c12,.ref c13,.ref c14] n,sl⟩)
  (l0:K.lookup c0=some ⟨.type "tuple",d0,.seq #[] n0,s0⟩)
  (l1:K.lookup c1=some ⟨.type "tuple",d1,.seq #[] n1,s1⟩)
  (l2:K.lookup c2=some ⟨.type "tuple",d2,.seq #[.str "switch" t2_0,.str "header" t2_1] n2,s2⟩)
  (l3:K.lookup c3=some ⟨.type "tuple",d3,.seq #[.str "switch" t3_0] n3,s3⟩)
  (l4:K.lookup c4=some ⟨.type "tuple",d4,.seq #[.str "switch" t4_0,.str "exit" t4_1] n4,s4⟩)
  (l5:K.lookup c5=some ⟨.type "tuple",d5,.seq #[.str "switch" t5_0,.str "kind" t5_1] n5,s5⟩)
  (l6:K.lookup c6=some ⟨.type "tuple",d6,.seq #[.str "switch" t6_0,.str "switch" t6_1] n6,s6⟩)
  (l7:K.lookup c7=some ⟨.type "tuple",d7,.seq #[.str "switch" t7_0,.str "exit" t7_1] n7,s7⟩)
  (l8:K.lookup c8=some ⟨.type "tuple",d8,.seq #[.str "switch" t8_0,.str "pattern" t8_1,.str "switch" t8_2] n8,s8⟩)
  (l9:K.lookup c9=some ⟨.type "tuple",d9,.seq #[.str "switch" t9_0,.str "switch" t9_1,.str "pattern" t9_2] n9,s9⟩)
  (l10:K.lookup c10=some ⟨.type "tuple",d10,.seq #[.str "kind" t10_0] n10,s10⟩)
  (l11:K.lookup c11=some ⟨.type "tuple",d11,.seq #[.str "switch" t11_0] n11,s11⟩)
  (l12:K.lookup c12=some ⟨.type "tuple",d12,.seq #[.str "switch" t12_0,.str "link" t12_1] n12,s12⟩)
  (l13:K.lookup c13=some ⟨.type "tuple",d13,.seq #[.str "switch" t13_0,.str "rule" t13_1] n13,s13⟩)
  (l14:K.lookup c14=some ⟨.type "tuple",d14,.seq #[.str "switch" t14_0,.str "header" t14_1] n14,s14⟩)
  : TxtH K mg:=by
 refine⟨b,[c0,c1,c2,c3,c4,c5,c6,c7,c8,c9,c10,c11,c12,c13,c14],PySem.W.mg_of X G a,⟨_,_,n,l,rfl,rfl,by show 15≤sizeLine;decide,?_⟩,rfl,fun k c hk=>?_⟩
 ·exact .cons rfl (.cons rfl (.cons rfl (.cons rfl (.cons rfl (.cons rfl (.cons rfl (.cons rfl (.cons rfl (.cons rfl (.cons rfl (.cons rfl (.cons rfl (.cons rfl (.cons rfl (.nil)))))))))))))))
 ·match k,hk with
  | 0,hk=>
   cases hk
   exact⟨_,_,n0,l0,rfl,rfl,by show 0≤sizeLine;decide,.nil⟩
  | 1,hk=>
   cases hk
   exact⟨_,_,n1,l1,rfl,rfl,by show 0≤sizeLine;decide,.nil⟩
  | 2,hk=>
   cases hk
   exact⟨_,_,n2,l2,rfl,rfl,by show 2≤sizeLine;decide,.cons ⟨t2_0,rfl⟩ (.cons ⟨t2_1,rfl⟩ (.nil))⟩
  | 3,hk=>
   cases hk
   exact⟨_,_,n3,l3,rfl,rfl,by show 1≤sizeLine;decide,.cons ⟨t3_0,rfl⟩ (.nil)⟩
  | 4,hk=>
   cases hk
   exact⟨_,_,n4,l4,rfl,rfl,by show 2≤sizeLine;decide,.cons ⟨t4_0,rfl⟩ (.cons ⟨t4_1,rfl⟩ (.nil))⟩
  | 5,hk=>
   cases hk
   exact⟨_,_,n5,l5,rfl,rfl,by show 2≤sizeLine;decide,.cons ⟨t5_0,rfl⟩ (.cons ⟨t5_1,rfl⟩ (.nil))⟩
  | 6,hk=>
   cases hk
   exact⟨_,_,n6,l6,rfl,rfl,by show 2≤sizeLine;decide,.cons ⟨t6_0,rfl⟩ (.cons ⟨t6_1,rfl⟩ (.nil))⟩
  | 7,hk=>
   cases hk
   exact⟨_,_,n7,l7,rfl,rfl,by show 2≤sizeLine;decide,.cons ⟨t7_0,rfl⟩ (.cons ⟨t7_1,rfl⟩ (.nil))⟩
  | 8,hk=>
   cases hk
   exact⟨_,_,n8,l8,rfl,rfl,by show 3≤sizeLine;decide,.cons ⟨t8_0,rfl⟩ (.cons ⟨t8_1,rfl⟩ (.cons ⟨t8_2,rfl⟩ (.nil)))⟩
  | 9,hk=>
   cases hk
   exact⟨_,_,n9,l9,rfl,rfl,by show 3≤sizeLine;decide,.cons ⟨t9_0,rfl⟩ (.cons ⟨t9_1,rfl⟩ (.cons ⟨t9_2,rfl⟩ (.nil)))⟩
  | 10,hk=>
   cases hk
   exact⟨_,_,n10,l10,rfl,rfl,by show 1≤sizeLine;decide,.cons ⟨t10_0,rfl⟩ (.nil)⟩
  | 11,hk=>
   cases hk
   exact⟨_,_,n11,l11,rfl,rfl,by show 1≤sizeLine;decide,.cons ⟨t11_0,rfl⟩ (.nil)⟩
  | 12,hk=>
   cases hk
   exact⟨_,_,n12,l12,rfl,rfl,by show 2≤sizeLine;decide,.cons ⟨t12_0,rfl⟩ (.cons ⟨t12_1,rfl⟩ (.nil))⟩
  | 13,hk=>
   cases hk
   exact⟨_,_,n13,l13,rfl,rfl,by show 2≤sizeLine;decide,.cons ⟨t13_0,rfl⟩ (.cons ⟨t13_1,rfl⟩ (.nil))⟩
  | 14,hk=>
   cases hk
   exact⟨_,_,n14,l14,rfl,rfl,by show 2≤sizeLine;decide,.cons ⟨t14_0,rfl⟩ (.cons ⟨t14_1,rfl⟩ (.nil))⟩
  | k+15,hk=>cases hk
theorem tab_mk(X:K.In h)(G:h.Ns mainGlobals mg){b:Addr}{od:Option Addr}{es:Array DictEntry}{ep:Nat}{sl:Array (Option Value)}{a1 a2 a3 a4 a5 a6 a7 a8 a9 a10 a11 a12 a13 a14:Addr}(a:PySem.W.nsIn K mainGlobals "ANSWERS"=some (some (.ref b)))(hb:(b == sysModules)=false)(l:K.lookup b=some ⟨.type "dict",od,.dict es ep,sl⟩)
  (hx:(⟨.type "dict",od,.dict es ep,sl⟩:Obj).ExactDict) (hk:∀ e∈es,∃ i,Value.isInt i e.key=true∧e.hash=hashInt i)
  (g1:PySem.W.nsIn K mainGlobals "answer_told"=some (some (.ref a1))) (f1:findBy Value.isInt es 1=some (.ref a1))
  (g2:PySem.W.nsIn K mainGlobals "answer_way"=some (some (.ref a2))) (f2:findBy Value.isInt es 2=some (.ref a2))
  (g3:PySem.W.nsIn K mainGlobals "answer_ends"=some (some (.ref a3))) (f3:findBy Value.isInt es 3=some (.ref a3))
  (g4:PySem.W.nsIn K mainGlobals "answer_toexit"=some (some (.ref a4))) (f4:findBy Value.isInt es 4=some (.ref a4))
  (g5:PySem.W.nsIn K mainGlobals "answer_tokind"=some (some (.ref a5))) (f5:findBy Value.isInt es 5=some (.ref a5))
  (g6:PySem.W.nsIn K mainGlobals "answer_passing"=some (some (.ref a6))) (f6:findBy Value.isInt es 6=some (.ref a6))
  (g7:PySem.W.nsIn K mainGlobals "answer_outat"=some (some (.ref a7))) (f7:findBy Value.isInt es 7=some (.ref a7))
  (g8:PySem.W.nsIn K mainGlobals "answer_arriving"=some (some (.ref a8))) (f8:findBy Value.isInt es 8=some (.ref a8))
  (g9:PySem.W.nsIn K mainGlobals "answer_leading"=some (some (.ref a9))) (f9:findBy Value.isInt es 9=some (.ref a9))
  (g10:PySem.W.nsIn K mainGlobals "answer_least"=some (some (.ref a10))) (f10:findBy Value.isInt es 10=some (.ref a10))
  (g11:PySem.W.nsIn K mainGlobals "answer_longest"=some (some (.ref a11))) (f11:findBy Value.isInt es 11=some (.ref a11))
  (g12:PySem.W.nsIn K mainGlobals "answer_overlink"=some (some (.ref a12))) (f12:findBy Value.isInt es 12=some (.ref a12))
  (g13:PySem.W.nsIn K mainGlobals "answer_used"=some (some (.ref a13))) (f13:findBy Value.isInt es 13=some (.ref a13))
  (g14:PySem.W.nsIn K mainGlobals "answer_loop"=some (some (.ref a14))) (f14:findBy Value.isInt es 14=some (.ref a14))
  : wz K mg:=by
 refine⟨b,fun k=>findBy Value.isInt es k,PySem.W.mg_of X G a,⟨hb,_,es,ep,l,hx,rfl,hk,fun _=>rfl⟩,fun k k1 k15=>?_⟩
 match k,k1,k15 with
 | 1,_,_=>exact f1.trans (PySem.W.mg_of X G g1).symm
 | 2,_,_=>exact f2.trans (PySem.W.mg_of X G g2).symm
 | 3,_,_=>exact f3.trans (PySem.W.mg_of X G g3).symm
 | 4,_,_=>exact f4.trans (PySem.W.mg_of X G g4).symm
 | 5,_,_=>exact f5.trans (PySem.W.mg_of X G g5).symm
 | 6,_,_=>exact f6.trans (PySem.W.mg_of X G g6).symm
 | 7,_,_=>exact f7.trans (PySem.W.mg_of X G g7).symm
 | 8,_,_=>exact f8.trans (PySem.W.mg_of X G g8).symm
 | 9,_,_=>exact f9.trans (PySem.W.mg_of X G g9).symm
 | 10,_,_=>exact f10.trans (PySem.W.mg_of X G g10).symm
 | 11,_,_=>exact f11.trans (PySem.W.mg_of X G g11).symm
 | 12,_,_=>exact f12.trans (PySem.W.mg_of X G g12).symm
 | 13,_,_=>exact f13.trans (PySem.W.mg_of X G g13).symm
 | 14,_,_=>exact f14.trans (PySem.W.mg_of X G g14).symm
end
end L2
open PySem PySem.W PyProof.Rows
namespace PySem.W.Fast
def tw10046737891447640401:=Nat
def tw10071108871928271885:=Nat
def tw1011399094121663951:=Nat
def tw10119184625568418549:=Nat
def tw10143584258434021403:=Nat
def tw10163566512693347594:=Nat
def tw10201343504205657278:=Nat
def tw10211813551537176300:=Nat
def tw1024269207224010306:=Nat
def tw10260661256087661442:=Nat
def tw10262544221228802200:=Nat
def tw10279550518058678017:=Nat
def tw10305251220563944536:=Nat
def tw10332828406343807835:=Nat
def tw10350475839822299628:=Nat
def tw10382666742854274020:=Nat
def tw10396388598646987398:=Nat
def tw10426323378320372006:=Nat
def tw10458869042362191663:=Nat
def tw1048085776877639284:=Nat
def tw10519651128483406089:=Nat
def tw10543560666281369415:=Nat
def tw10550298030086262439:=Nat
def tw1055783089915564560:=Nat
def tw10626539868332994551:=Nat
def tw10660169736103242049:=Nat
def tw10683835206313536676:=Nat
def tw10693736747319497999:=Nat
def tw10769207180129661303:=Nat
def tw10856709245832368196:=Nat
def tw10872216868031288705:=Nat
def tw10906658371276144765:=Nat
def tw10963150810960457104:=Nat
def tw11019970185338407107:=Nat
def tw11025117039928916998:=Nat
def tw1108647945992961574:=Nat
def tw11121227665466761947:=Nat
def tw11132953610753292112:=Nat
def tw11156398937206386431:=Nat
def tw11163498358096323563:=Nat
def tw11214503565645858196:=Nat
def tw11252069727981927394:=Nat
def tw11273712284641584643:=Nat
def tw11277222664724286702:=Nat
def tw11285128105575162807:=Nat
def tw11315689178194611957:=Nat
def tw11359275092413625919:=Nat
def tw11381986614958243674:=Nat
def tw11386021954017041217:=Nat
def tw1140644048185703044:=Nat
def tw11425878704116213390:=Nat
def tw1144217447367548301:=Nat
def tw11453660257985399067:=Nat
def tw11511960925432788211:=Nat
def tw11613497679768119552:=Nat
def tw11619554289695885768:=Nat
def tw11650007994411638134:=Nat
def tw11668922116782426655:=Nat
def tw11738030979428338778:=Nat
def tw11740930434782606935:=Nat
def tw11793657391987225073:=Nat
def tw11846511243917540958:=Nat
def tw11867255444937600210:=Nat
def tw11922895851842810812:=Nat
def tw11928417841200929903:=Nat
def tw11979794363248417253:=Nat
def tw11985748900594187596:=Nat
def tw12001731283161840861:=Nat
def tw12002967922499485730:=Nat
def tw12003469368821494970:=Nat
def tw12045109251795173977:=Nat
def tw12055266644620853197:=Nat
def tw12126400606050236518:=Nat
def tw12168905192393174385:=Nat
def tw12209588383669902971:=Nat
def tw12311381106867510748:=Nat
def tw12439451356454339492:=Nat
def tw12459845755667801903:=Nat
def tw12552175765629423849:=Nat
def tw1256246012843419988:=Nat
def tw12584607390135946062:=Nat
def tw12592457615653037145:=Nat
def tw12600053806712158467:=Nat
def tw12618889202011155083:=Nat
def tw12622534443069210424:=Nat
def tw12646828943467171489:=Nat
def tw12686918810271023406:=Nat
def tw12729290950957792472:=Nat
def tw12733129600854496239:=Nat
def tw12760113300375460632:=Nat
def tw12809824386164724713:=Nat
def tw12819872469298560019:=Nat
def tw12848411328368341355:=Nat
def tw12894446737455261527:=Nat
def tw12943727631036704244:=Nat
def tw12955039300403302422:=Nat
def tw13000028658498999623:=Nat
def tw13072693712650278663:=Nat
def tw13086369828976891542:=Nat
def tw13131807819483995862:=Nat
def tw13171862816289607862:=Nat
def tw13242165792424282900:=Nat
def tw13312438770053055753:=Nat
def tw13349671971056498803:=Nat
def tw13378647114604667347:=Nat
def tw13381516464579424344:=Nat
def tw13382056306387989736:=Nat
def tw13411632119801919103:=Nat
def tw13422713885167560667:=Nat
def tw13423806560847002960:=Nat
def tw13454143313797320784:=Nat
def tw13466945554104828010:=Nat
def tw13527497004996679657:=Nat
def tw13547585072563152793:=Nat
def tw13571581752358830852:=Nat
def tw13596278885257743802:=Nat
def tw13619557052855169265:=Nat
def tw13641880742190128001:=Nat
def tw13670603877482935114:=Nat
def tw13683250047178459260:=Nat
def tw13707082655482837628:=Nat
def tw13718383225756571570:=Nat
def tw13731233156426792820:=Nat
def tw13757285168990303730:=Nat
def tw13799980783463013109:=Nat
def tw13859282270885736589:=Nat
def tw13891152282333015825:=Nat
def tw13896815465658182698:=Nat
def tw13964376420504432750:=Nat
def tw14010189702487868316:=Nat
def tw14013113455349398094:=Nat
def tw14051015210298372039:=Nat
def tw14142433531971786583:=Nat
def tw14156498604155260478:=Nat
def tw14207872655881740823:=Nat
def tw14218307678123562988:=Nat
def tw14421431007932660060:=Nat
def tw1450197397392089456:=Nat
def tw14505204648986153292:=Nat
def tw14519552818633970139:=Nat
def tw14569128972503455884:=Nat
def tw14580106392996587574:=Nat
def tw14588399641931771504:=Nat
def tw14608974054513728028:=Nat
def tw14691139686387954438:=Nat
def tw14730918561690624001:=Nat
def tw14737609989616720913:=Nat
def tw14857493131242034622:=Nat
def tw14860316938290990027:=Nat
def tw14894799292844662913:=Nat
def tw14927339846740732713:=Nat
def tw14931364960566714627:=Nat
def tw14959324680728429511:=Nat
def tw1496866414839316267:=Nat
def tw1498701859747406788:=Nat
def tw15049633194096215566:=Nat
def tw15058841361093243983:=Nat
def tw15064629948489438137:=Nat
def tw15170561710992156624:=Nat
def tw15208202314390896994:=Nat
def tw15213875646775852500:=Nat
def tw15235797923491466403:=Nat
def tw15414572674421819394:=Nat
def tw15418238447220337004:=Nat
def tw15430839370536508049:=Nat
def tw15498710950355681997:=Nat
def tw15518242466665574003:=Nat
def tw15571367732110614740:=Nat
def tw15648013516894077839:=Nat
def tw15666134402494123529:=Nat
def tw15683324517546934815:=Nat
def tw1577971215020950521:=Nat
def tw15956594163724096159:=Nat
def tw15969396355034144434:=Nat
def tw16005545998512157015:=Nat
def tw16098218786578809514:=Nat
def tw16125110004479387582:=Nat
def tw1616775653759275717:=Nat
def tw16179712808976159125:=Nat
def tw16224765605041481605:=Nat
def tw16230516957730180213:=Nat
def tw16248673979361609906:=Nat
def tw16284725877894417757:=Nat
def tw16413350905044100396:=Nat
def tw16439861871128722361:=Nat
def tw16478670227912125710:=Nat
def tw16487094322886550658:=Nat
def tw16527767530786712024:=Nat
def tw16548217260833066362:=Nat
def tw16561916042214035029:=Nat
def tw16609739999990869359:=Nat
def tw16614137406188196623:=Nat
def tw16616314330685669999:=Nat
def tw16624162686191427137:=Nat
def tw16651728078240682959:=Nat
def tw16653714271094416665:=Nat
def tw16669686498663742911:=Nat
def tw16696649352472427536:=Nat
def tw167403145455286810:=Nat
def tw16749508422546670199:=Nat
def tw1680079340860001822:=Nat
def tw16821368316729759389:=Nat
def tw1685559491011289216:=Nat
def tw1690339890405357072:=Nat
def tw17022917866603931105:=Nat
def tw17058712865655971968:=Nat
def tw17065470943154777982:=Nat
def tw17114455525155422502:=Nat
def tw17140870342801169259:=Nat
def tw17236723646049255522:=Nat
def tw17248371625468188596:=Nat
def tw17255961612313641486:=Nat
def tw17262285489690147734:=Nat
def tw17289632029101744863:=Nat
def tw17309104597818089476:=Nat
def tw17322677523782901792:=Nat
def tw1734099909662020042:=Nat
def tw17393560024032051629:=Nat
def tw17422033402108788579:=Nat
def tw1744142380007510137:=Nat
def tw17526280067666522693:=Nat
def tw17526538993742362866:=Nat
def tw17642813521368980757:=Nat
def tw17653293793009537624:=Nat
def tw17660693864390848518:=Nat
def tw17724263361524071079:=Nat
def tw17798386684038213404:=Nat
def tw17857124524993037665:=Nat
def tw17908273977886736786:=Nat
def tw17952372463398595254:=Nat
def tw18087043892422793298:=Nat
def tw18089138562071322954:=Nat
def tw18107779358910043644:=Nat
def tw18196348224046301506:=Nat
def tw18242481395213532964:=Nat
def tw18246815291724077824:=Nat
def tw18325905283525441415:=Nat
def tw1901834970083457568:=Nat
def tw2018701365860507930:=Nat
def tw2080080171887885546:=Nat
def tw2087974150968653450:=Nat
def tw2092215931344052531:=Nat
def tw2179187052765478090:=Nat
def tw2183339057953207042:=Nat
def tw2203864329405469862:=Nat
def tw2221767969488954138:=Nat
def tw2223123347547717941:=Nat
def tw2279283661305229940:=Nat
def tw2343845218231142960:=Nat
def tw2347675391136503774:=Nat
def tw2383952576128564208:=Nat
def tw2409498935729583471:=Nat
def tw2414720685811155328:=Nat
def tw2449366372633650333:=Nat
def tw2494901508951723195:=Nat
def tw2521919352814874925:=Nat
def tw2522638515444497027:=Nat
def tw2547791904188460959:=Nat
def tw2688644293253932706:=Nat
def tw2707980701594103906:=Nat
def tw2940981885213566949:=Nat
def tw2957791413398930094:=Nat
def tw2960592438021442283:=Nat
def tw2962746559144130287:=Nat
def tw3021410687135862509:=Nat
def tw3077694241543727180:=Nat
def tw3099117645760046050:=Nat
def tw3099487338630636130:=Nat
def tw3100859490700777649:=Nat
def tw3172232130634754759:=Nat
def tw3189545691765909155:=Nat
def tw3350400362897196024:=Nat
def tw3360280219160377095:=Nat
def tw3457686946524791495:=Nat
def tw3485340914457503488:=Nat
def tw34902047384650599:=Nat
def tw3607448277215533255:=Nat
def tw3622974472353052078:=Nat
def tw3664707113249367475:=Nat
def tw3677930206169276025:=Nat
def tw3686431350928529884:=Nat
def tw3716195627370997867:=Nat
def tw3759227352051949290:=Nat
def tw3779808691129178695:=Nat
def tw3782783790349775762:=Nat
def tw3818555292401456050:=Nat
def tw3854709348360474417:=Nat
def tw3889832139757720039:=Nat
def tw3897396070320632960:=Nat
def tw3917646208999323674:=Nat
def tw4075789235770809509:=Nat
def tw4085553269643766259:=Nat
def tw4086874340537501475:=Nat
def tw4097849290332581974:=Nat
def tw410570671416174361:=Nat
def tw4131267791311301210:=Nat
def tw4190831327680723723:=Nat
def tw4204111265319845060:=Nat
def tw4209151578474786371:=Nat
def tw4215778947391820327:=Nat
def tw4243870824671079452:=Nat
def tw4288882663387322455:=Nat
def tw4313697582573921369:=Nat
def tw4352709521779360958:=Nat
def tw439091253020710661:=Nat
def tw4487978282016147931:=Nat
def tw4507294318600285921:=Nat
def tw4583337040072793319:=Nat
def tw4617296266987025817:=Nat
def tw4639932228824320791:=Nat
def tw4750480102647471186:=Nat
def tw4764597802485840095:=Nat
def tw4908177661639870025:=Nat
def tw4966763353973458215:=Nat
def tw4966938140160216987:=Nat
def tw499313608813230421:=Nat
def tw5054950088447467254:=Nat
def tw5123919105071526498:=Nat
def tw5166336552209614236:=Nat
def tw5175132253207890613:=Nat
def tw5205741222612434142:=Nat
def tw5303645445901703490:=Nat
def tw5318546135085896718:=Nat
def tw5368892208037637180:=Nat
def tw537683784461911260:=Nat
def tw5449470723926862022:=Nat
def tw5514075283152364549:=Nat
def tw5560508975054700901:=Nat
def tw5563343707868399966:=Nat
def tw5600609141191527505:=Nat
def tw5608510566735651117:=Nat
def tw5638124935656891609:=Nat
def tw573161431247096453:=Nat
def tw5735068870582656200:=Nat
def tw5766021799459686951:=Nat
def tw5799788196569233726:=Nat
def tw5811567348286126630:=Nat
def tw5822711303322509354:=Nat
def tw5837609972592178616:=Nat
def tw5847340744888036318:=Nat
def tw5853628645336828743:=Nat
def tw5878524834493926720:=Nat
def tw5880652450574189372:=Nat
def tw5931800727255891493:=Nat
def tw5995927192963820406:=Nat
def tw6085771099201101162:=Nat
def tw6098448457177217998:=Nat
def tw6160824340019045671:=Nat
def tw6202772471257063:=Nat
def tw6244251805337251638:=Nat
def tw6254100010678475049:=Nat
def tw6273996630022697354:=Nat
def tw636496559696203622:=Nat
def tw6368195954994116460:=Nat
def tw6393581717618270141:=Nat
def tw6405056188362793819:=Nat
def tw6549586241601542521:=Nat
def tw6561167888212017471:=Nat
def tw6592709567933942261:=Nat
def tw6611197103264000707:=Nat
def tw6612723986195396090:=Nat
def tw6678938628868047775:=Nat
def tw6736681746058207482:=Nat
def tw6841096815338337617:=Nat
def tw6847120091346277372:=Nat
def tw6923999012030818139:=Nat
def tw6936630338004789134:=Nat
def tw7026788249708674453:=Nat
def tw7028131678620613185:=Nat
def tw7041131761386449362:=Nat
def tw7084929219238384735:=Nat
def tw7118275578542514951:=Nat
def tw7135833339527999280:=Nat
def tw7252066704289009052:=Nat
def tw7326353112144138802:=Nat
def tw7345945857059665381:=Nat
def tw7371439052686052977:=Nat
def tw7452925125486064053:=Nat
def tw7467469420101328098:=Nat
def tw7571671640864572613:=Nat
def tw75979957190540886:=Nat
def tw765857548402208629:=Nat
def tw7737019829701235302:=Nat
def tw7775236072758614150:=Nat
def tw7836488964570739964:=Nat
def tw7919721778696323009:=Nat
def tw7945985902697396600:=Nat
def tw7991570341210088543:=Nat
def tw8057279276339100446:=Nat
def tw8066740147303405694:=Nat
def tw8217585269132395495:=Nat
def tw8238640146290037581:=Nat
def tw8295986043283966536:=Nat
def tw8308240059255795794:=Nat
def tw8322556106246493307:=Nat
def tw8360789808026928897:=Nat
def tw8382057851956588667:=Nat
def tw8384277385183069737:=Nat
def tw8408741876142195387:=Nat
def tw8412513870002975395:=Nat
def tw8451916297964651990:=Nat
def tw8506832036246579859:=Nat
def tw858218718325902095:=Nat
def tw8600924066691508313:=Nat
def tw8728074026777989524:=Nat
def tw8743832149941316860:=Nat
def tw8745762231998275399:=Nat
def tw8765441278298121079:=Nat
def tw880268191907478427:=Nat
def tw8804802224252446529:=Nat
def tw8845107452149629055:=Nat
def tw8865058077926861651:=Nat
def tw8875513919737496146:=Nat
def tw8917730037115718273:=Nat
def tw893350521263893293:=Nat
def tw9132212635114046309:=Nat
def tw914601005028432110:=Nat
def tw9154639558054608058:=Nat
def tw9167577107820606246:=Nat
def tw9228341061232461876:=Nat
def tw9285650778452526769:=Nat
def tw9287483241011646035:=Nat
def tw9308662009993480981:=Nat
def tw9339763652550400272:=Nat
def tw9351482960981509152:=Nat
def tw9409878534408234717:=Nat
def tw94644407608388561:=Nat
def tw9524105034562579908:=Nat
def tw9525963777280752040:=Nat
def tw9578869693621874574:=Nat
def tw9584575931913265591:=Nat
def tw9663204298292892800:=Nat
def tw9665557873143912176:=Nat
def tw9677297266586650827:=Nat
def tw970311434322712274:=Nat
def tw9704904720508473956:=Nat
def tw9706569352792853480:=Nat
def tw9711661222610081987:=Nat
def tw9937666645255880895:=Nat
end PySem.W.Fast
set_option maxHeartbeats 0 in
theorem PySem.Challenge.cw_packetends_s01_answers_holds : PySem.Challenge.rw_packetends_s01_answers.Holds := by
 w_on;k_headS;(case hw=>exact⟨[.list [.int 1]],by decide +kernel,by decide +kernel⟩)
 k_fillS
 refine L2.pH (r:=PySem.Challenge.rw_packetends_s01_answers) (k:=13) (CX:=L2.CX0) (ps:=["calls"]) (sp:=L2.eX) (by decide +kernel) rfl rfl ⟨rfl,by decide,by decide⟩ (fun w h Y=>PySem.W.kIn_of Y) ?F ?S (fun _ _ _ _ z=>z)
 case F=>
  intro w mg fa h Y KX G hmg
  refine' L2.fin_mk KX G hmg ?gR ?gW ?gN ?gE ?A ?a ?l ?c ?k
  (case gR=>k_is);(case gW=>k_is);(case gN=>k_is);(case gE=>k_is)
  (case a=>k_is);(case l=>k_is);(case c=>k_is);(case k=>k_is)
  refine' { B:=?B,C:=?C,Z:=?Z,TE:=?TE,TH:=?TH,TA:=?TA,TR:=?TR,TW:=?TW,TN:=?TN,c_NET:=?c_NET,c_USED:=?c_USED,c_SHOWN_PACKETS:=?c_SHOWN_PACKETS,c_NOT_TOLD:=?c_NOT_TOLD,c_NO_NETWORK:=?c_NO_NETWORK,c_MOST_RULES:=?c_MOST_RULES,c_MOST_LINKS:=?c_MOST_LINKS,c_MOST_BITS:=?c_MOST_BITS,c_MOST_SWITCHES:=?c_MOST_SWITCHES,f_is_pattern:=?f_is_pattern,f_matches:=?f_matches,f_rewritten:=?f_rewritten,f_set_of:=?f_set_of,f_one_form:=?f_one_form,f_set_numbers:=?f_set_numbers,f_far_ports:=?f_far_ports,f_rule_that_counts:=?f_rule_that_counts,f_packets_passed:=?f_packets_passed,f_way_of:=?f_way_of,f_round_of:=?f_round_of,f_way_lengths:=?f_way_lengths,f_first_settled:=?f_first_settled,f_packet_numbers:=?f_packet_numbers,f_without_header:=?f_without_header,f_headers_passing:=?f_headers_passing,f_answer_to:=?f_answer_to,f_read_pattern:=?f_read_pattern,f_read_rule:=?f_read_rule,f_read_table:=?f_read_table,f_read_port:=?f_read_port,f_read_links:=?f_read_links,f_read_network:=?f_read_network,f_numbers_for:=?f_numbers_for,f_call_at:=?f_call_at,f_refusal_of:=?f_refusal_of,f_refusal_of_row:=?f_refusal_of_row,f_first_refusal:=?f_first_refusal,f_network_told:=?f_network_told,f_answer_net:=?f_answer_net,f_answer_call:=?f_answer_call,f_answer_told:=?f_answer_told,f_answer_way:=?f_answer_way,f_answer_ends:=?f_answer_ends,f_answer_toexit:=?f_answer_toexit,f_answer_tokind:=?f_answer_tokind,f_answer_passing:=?f_answer_passing,f_answer_outat:=?f_answer_outat,f_answer_arriving:=?f_answer_arriving,f_answer_leading:=?f_answer_leading,f_answer_least:=?f_answer_least,f_answer_longest:=?f_answer_longest,f_answer_overlink:=?f_answer_overlink,f_answer_used:=?f_answer_used,f_answer_loop:=?f_answer_loop }
  (case B=>exact⟨PySem.W.mg_none_of KX G (by k_is),PySem.W.mg_none_of KX G (by k_is),PySem.W.mg_none_of KX G (by k_is),PySem.W.mg_none_of KX G (by k_is),PySem.W.mg_none_of KX G (by k_is),PySem.W.mg_none_of KX G (by k_is),PySem.W.mg_none_of KX G (by k_is),PySem.W.mg_none_of KX G (by k_is),PySem.W.mg_none_of KX G (by k_is)⟩)
  (case C=>exact⟨L2.IsC.mk' (t:=_) KX G (by k_is),L2.IsC.mk' (t:=_) KX G (by k_is),L2.IsC.mk' (t:=_) KX G (by k_is),L2.IsC.mk' (t:=_) KX G (by k_is),L2.IsC.mk' (t:=_) KX G (by k_is)⟩)
  (case Z=>exact⟨L2.IsC.mk' (t:=_) KX G (by k_is),L2.IsC.mk' (t:=_) KX G (by k_is),L2.IsC.mk' (t:=_) KX G (by k_is),L2.IsC.mk' (t:=_) KX G (by k_is),L2.IsC.mk' (t:=_) KX G (by k_is),L2.IsC.mk' (t:=_) KX G (by k_is),L2.IsC.mk' (t:=_) KX G (by k_is),L2.IsC.mk' (t:=_) KX G (by k_is)⟩)
  (case c_NET=>exact L2.IsC.mk' (t:=_) KX G (by k_is))
  (case c_USED=>exact L2.IsC.mk' (t:=_) KX G (by k_is))
  (case c_SHOWN_PACKETS=>exact L2.IsC.mk' (t:=_) KX G (by k_is))
  (case c_NOT_TOLD=>exact L2.IsC.mk' (t:=_) KX G (by k_is))
  (case c_NO_NETWORK=>exact L2.IsC.mk' (t:=_) KX G (by k_is))
  (case c_MOST_RULES=>exact L2.IsC.mk' (t:=_) KX G (by k_is))
  (case c_MOST_LINKS=>exact L2.IsC.mk' (t:=_) KX G (by k_is))
  (case c_MOST_BITS=>exact L2.IsC.mk' (t:=_) KX G (by k_is))
  (case c_MOST_SWITCHES=>exact L2.IsC.mk' (t:=_) KX G (by k_is))
  (case f_is_pattern=>exact L2.TxtF.mk' KX G (by k_is) (by k_is) (by k_is) (by k_is) (fun _ _ _ _ _ _ us hl=>match us,hl with | [_,_],_=>rfl))
  (case f_matches=>exact L2.TxtF.mk' KX G (by k_is) (by k_is) (by k_is) (by k_is) (fun _ _ _ _ _ _ us hl=>match us,hl with | [_,_],_=>rfl))
  (case f_rewritten=>exact L2.TxtF.mk' KX G (by k_is) (by k_is) (by k_is) (by k_is) (fun _ _ _ _ _ _ us hl=>match us,hl with | [_,_],_=>rfl))
  (case f_set_of=>exact L2.TxtF.mk' KX G (by k_is) (by k_is) (by k_is) (by k_is) (fun _ _ _ _ _ _ us hl=>match us,hl with | [_,_],_=>rfl))
  (case f_one_form=>exact L2.TxtF.mk' KX G (by k_is) (by k_is) (by k_is) (by k_is) (fun _ _ _ _ _ _ us hl=>match us,hl with | [_],_=>rfl))
  (case f_set_numbers=>exact L2.TxtF.mk' KX G (by k_is) (by k_is) (by k_is) (by k_is) (fun _ _ _ _ _ _ us hl=>match us,hl with | [_],_=>rfl))
  (case f_far_ports=>exact L2.TxtF.mk' KX G (by k_is) (by k_is) (by k_is) (by k_is) (fun _ _ _ _ _ _ us hl=>match us,hl with | [_],_=>rfl))
  (case f_rule_that_counts=>exact L2.TxtF.mk' KX G (by k_is) (by k_is) (by k_is) (by k_is) (fun _ _ _ _ _ _ us hl=>match us,hl with | [_,_],_=>rfl))
  (case f_packets_passed=>exact L2.TxtF.mk' KX G (by k_is) (by k_is) (by k_is) (by k_is) (fun _ _ _ _ _ _ us hl=>match us,hl with | [_,_],_=>rfl))
  (case f_way_of=>exact L2.TxtF.mk' KX G (by k_is) (by k_is) (by k_is) (by k_is) (fun _ _ _ _ _ _ us hl=>match us,hl with | [_,_],_=>rfl))
  (case f_round_of=>exact L2.TxtF.mk' KX G (by k_is) (by k_is) (by k_is) (by k_is) (fun _ _ _ _ _ _ us hl=>match us,hl with | [_,_],_=>rfl))
  (case f_way_lengths=>exact L2.TxtF.mk' KX G (by k_is) (by k_is) (by k_is) (by k_is) (fun _ _ _ _ _ _ us hl=>match us,hl with | [_,_],_=>rfl))
  (case f_first_settled=>exact L2.TxtF.mk' KX G (by k_is) (by k_is) (by k_is) (by k_is) (fun _ _ _ _ _ _ us hl=>match us,hl with | [_,_,_],_=>rfl))
  (case f_packet_numbers=>exact L2.TxtF.mk' KX G (by k_is) (by k_is) (by k_is) (by k_is) (fun _ _ _ _ _ _ us hl=>match us,hl with | [_],_=>rfl))
  (case f_without_header=>exact L2.TxtF.mk' KX G (by k_is) (by k_is) (by k_is) (by k_is) (fun _ _ _ _ _ _ us hl=>match us,hl with | [_],_=>rfl))
  (case f_headers_passing=>exact L2.TxtF.mk' KX G (by k_is) (by k_is) (by k_is) (by k_is) (fun _ _ _ _ _ _ us hl=>match us,hl with | [_,_,_],_=>rfl))
  (case f_answer_to=>exact L2.TxtF.mk' KX G (by k_is) (by k_is) (by k_is) (by k_is) (fun _ _ _ _ _ _ us hl=>match us,hl with | [_,_,_],_=>rfl))
  (case f_read_pattern=>exact L2.TxtF.mk' KX G (by k_is) (by k_is) (by k_is) (by k_is) (fun _ _ _ _ _ _ us hl=>match us,hl with | [_,_],_=>rfl))
  (case f_read_rule=>exact L2.TxtF.mk' KX G (by k_is) (by k_is) (by k_is) (by k_is) (fun _ _ _ _ _ _ us hl=>match us,hl with | [_,_],_=>rfl))
  (case f_read_table=>exact L2.TxtF.mk' KX G (by k_is) (by k_is) (by k_is) (by k_is) (fun _ _ _ _ _ _ us hl=>match us,hl with | [_,_],_=>rfl))
  (case f_read_port=>exact L2.TxtF.mk' KX G (by k_is) (by k_is) (by k_is) (by k_is) (fun _ _ _ _ _ _ us hl=>match us,hl with | [_,_],_=>rfl))
  (case f_read_links=>exact L2.TxtF.mk' KX G (by k_is) (by k_is) (by k_is) (by k_is) (fun _ _ _ _ _ _ us hl=>match us,hl with | [_,_],_=>rfl))
  (case f_read_network=>exact L2.TxtF.mk' KX G (by k_is) (by k_is) (by k_is) (by k_is) (fun _ _ _ _ _ _ us hl=>match us,hl with | [_],_=>rfl))
  (case f_numbers_for=>exact L2.TxtF.mk' KX G (by k_is) (by k_is) (by k_is) (by k_is) (fun _ _ _ _ _ _ us hl=>match us,hl with | [_],_=>rfl))
  (case f_call_at=>exact L2.TxtF.mk' KX G (by k_is) (by k_is) (by k_is) (by k_is) (fun _ _ _ _ _ _ us hl=>match us,hl with | [_,_],_=>rfl))
  (case f_refusal_of=>exact L2.TxtF.mk' KX G (by k_is) (by k_is) (by k_is) (by k_is) (fun _ _ _ _ _ _ us hl=>match us,hl with | [_,_,_,_],_=>rfl))
  (case f_refusal_of_row=>exact L2.TxtF.mk' KX G (by k_is) (by k_is) (by k_is) (by k_is) (fun _ _ _ _ _ _ us hl=>match us,hl with | [_,_],_=>rfl))
  (case f_first_refusal=>exact L2.TxtF.mk' KX G (by k_is) (by k_is) (by k_is) (by k_is) (fun _ _ _ _ _ _ us hl=>match us,hl with | [_,_,_,_],_=>rfl))
  (case f_network_told=>exact L2.TxtF.mk' KX G (by k_is) (by k_is) (by k_is) (by k_is) (fun _ _ _ _ _ _ us hl=>match us,hl with | [_],_=>rfl))
  (case f_answer_net=>exact L2.TxtF.mk' KX G (by k_is) (by k_is) (by k_is) (by k_is) (fun _ _ _ _ _ _ us hl=>match us,hl with | [_],_=>rfl))
  (case f_answer_call=>exact L2.TxtF.mk' KX G (by k_is) (by k_is) (by k_is) (by k_is) (fun _ _ _ _ _ _ us hl=>match us,hl with | [_,_,_,_],_=>rfl))
  (case f_answer_told=>exact L2.TxtF.mk' KX G (by k_is) (by k_is) (by k_is) (by k_is) (fun _ _ _ _ _ _ us hl=>match us,hl with | [_,_],_=>rfl))
  (case f_answer_way=>exact L2.TxtF.mk' KX G (by k_is) (by k_is) (by k_is) (by k_is) (fun _ _ _ _ _ _ us hl=>match us,hl with | [_,_],_=>rfl))
  (case f_answer_ends=>exact L2.TxtF.mk' KX G (by k_is) (by k_is) (by k_is) (by k_is) (fun _ _ _ _ _ _ us hl=>match us,hl with | [_,_],_=>rfl))
  (case f_answer_toexit=>exact L2.TxtF.mk' KX G (by k_is) (by k_is) (by k_is) (by k_is) (fun _ _ _ _ _ _ us hl=>match us,hl with | [_,_],_=>rfl))
  (case f_answer_tokind=>exact L2.TxtF.mk' KX G (by k_is) (by k_is) (by k_is) (by k_is) (fun _ _ _ _ _ _ us hl=>match us,hl with | [_,_],_=>rfl))
  (case f_answer_passing=>exact L2.TxtF.mk' KX G (by k_is) (by k_is) (by k_is) (by k_is) (fun _ _ _ _ _ _ us hl=>match us,hl with | [_,_],_=>rfl))
  (case f_answer_outat=>exact L2.TxtF.mk' KX G (by k_is) (by k_is) (by k_is) (by k_is) (fun _ _ _ _ _ _ us hl=>match us,hl with | [_,_],_=>rfl))
  (case f_answer_arriving=>exact L2.TxtF.mk' KX G (by k_is) (by k_is) (by k_is) (by k_is) (fun _ _ _ _ _ _ us hl=>match us,hl with | [_,_],_=>rfl))
  (case f_answer_leading=>exact L2.TxtF.mk' KX G (by k_is) (by k_is) (by k_is) (by k_is) (fun _ _ _ _ _ _ us hl=>match us,hl with | [_,_],_=>rfl))
  (case f_answer_least=>exact L2.TxtF.mk' KX G (by k_is) (by k_is) (by k_is) (by k_is) (fun _ _ _ _ _ _ us hl=>match us,hl with | [_,_],_=>rfl))
  (case f_answer_longest=>exact L2.TxtF.mk' KX G (by k_is) (by k_is) (by k_is) (by k_is) (fun _ _ _ _ _ _ us hl=>match us,hl with | [_,_],_=>rfl))
  (case f_answer_overlink=>exact L2.TxtF.mk' KX G (by k_is) (by k_is) (by k_is) (by k_is) (fun _ _ _ _ _ _ us hl=>match us,hl with | [_,_],_=>rfl))
  (case f_answer_used=>exact L2.TxtF.mk' KX G (by k_is) (by k_is) (by k_is) (by k_is) (fun _ _ _ _ _ _ us hl=>match us,hl with | [_,_],_=>rfl))
  (case f_answer_loop=>exact L2.TxtF.mk' KX G (by k_is) (by k_is) (by k_is) (by k_is) (fun _ _ _ _ _ _ us hl=>match us,hl with | [_,_],_=>rfl))
  case TE=>
   exact⟨⟨_,PySem.W.mg_of KX G (by k_is),fun H=>(L2.KTup.ints2 (by k_is)).sq⟩⟩
  case TH=>
   exact L2.xr KX G (by k_is) (by k_is) (by k_is) (by k_is) (by k_is) (by k_is) (by k_is) (by k_is) (by k_is) (by k_is) (by k_is) (by k_is) (by k_is) (by k_is) (by k_is) (by k_is) (by k_is)
  case TA=>
   exact L2.tab_mk KX G (by k_is) (by decide) (by k_is) ⟨rfl,rfl,rfl⟩ (by intro e he;simp at he;rcases he with rfl | rfl | rfl | rfl | rfl | rfl | rfl | rfl | rfl | rfl | rfl | rfl | rfl | rfl ;exact⟨1,rfl,rfl⟩;exact⟨2,rfl,rfl⟩;exact⟨3,rfl,rfl⟩;exact⟨4,rfl,rfl⟩;exact⟨5,rfl,rfl⟩;exact⟨6,rfl,rfl⟩;exact⟨7,rfl,rfl⟩;exact⟨8,rfl,rfl⟩;exact⟨9,rfl,rfl⟩;exact⟨10,rfl,rfl⟩;exact⟨11,rfl,rfl⟩;exact⟨12,rfl,rfl⟩;exact⟨13,rfl,rfl⟩;exact⟨14,rfl,rfl⟩) (by k_is) (by rfl) (by k_is) (by rfl) (by k_is) (by rfl) (by k_is) (by rfl) (by k_is) (by rfl) (by k_is) (by rfl) (by k_is) (by rfl) (by k_is) (by rfl) (by k_is) (by rfl) (by k_is) (by rfl) (by k_is) (by rfl) (by k_is) (by rfl) (by k_is) (by rfl) (by k_is) (by rfl)
  case TR=>
   refine' { cl:=?cl,n1:=?n1,n2:=?n2,n3:=?n3,n4:=?n4,gR:=?gR,init:=?init }
   (case cl=>(constructor<;>k_is))
   (case n1=>(show PySem.W.findIn _ _ _=some none;k_is))
   (case n2=>(show PySem.W.findIn _ _ _=some none;k_is))
   (case n3=>(show PySem.W.findIn _ _ _=some none;k_is))
   (case n4=>(show PySem.W.findIn _ _ _=some none;k_is))
   (case gR=>exact PySem.W.mg_of KX G (by k_is))
   (case init=>exact L2.TxtI.mk' (by k_is) (by k_is) (by k_is) (by k_is) (by k_is) (by k_is) (by k_is) (fun _ _ _ _ _ _ us hl=>match us,hl with | [_,_,_,_,_],_=>rfl))
  case TW=>
   refine' { cl:=?cl,n1:=?n1,n2:=?n2,n3:=?n3,n4:=?n4,n5:=?n5,n6:=?n6,n7:=?n7,n8:=?n8,n9:=?n9,n10:=?n10,n11:=?n11,gW:=?gW,init:=?init,step:=?step,hasSwitch:=?hasSwitch,hasHeader:=?hasHeader,hasExit:=?hasExit,hasLink:=?hasLink,hasRule:=?hasRule,pksAt:=?pksAt,endsFrom:=?endsFrom }
   (case cl=>(constructor<;>k_is))
   (case n1=>(show PySem.W.findIn _ _ _=some none;k_is))
   (case n2=>(show PySem.W.findIn _ _ _=some none;k_is))
   (case n3=>(show PySem.W.findIn _ _ _=some none;k_is))
   (case n4=>(show PySem.W.findIn _ _ _=some none;k_is))
   (case n5=>(show PySem.W.findIn _ _ _=some none;k_is))
   (case n6=>(show PySem.W.findIn _ _ _=some none;k_is))
   (case n7=>(show PySem.W.findIn _ _ _=some none;k_is))
   (case n8=>(show PySem.W.findIn _ _ _=some none;k_is))
   (case n9=>(show PySem.W.findIn _ _ _=some none;k_is))
   (case n10=>(show PySem.W.findIn _ _ _=some none;k_is))
   (case n11=>(show PySem.W.findIn _ _ _=some none;k_is))
   (case gW=>exact PySem.W.mg_of KX G (by k_is))
   (case init=>exact L2.TxtI.mk' (by k_is) (by k_is) (by k_is) (by k_is) (by k_is) (by k_is) (by k_is) (fun _ _ _ _ _ _ us hl=>match us,hl with | [_,_,_,_,_],_=>rfl))
   (case step=>exact L2.TxtM.mk' (by k_is) (by k_is) (by k_is) (by k_is) (by k_is) (fun _ _ _ _ _ _ us hl=>match us,hl with | [_,_,_],_=>rfl))
   (case hasSwitch=>exact L2.TxtM.mk' (by k_is) (by k_is) (by k_is) (by k_is) (by k_is) (fun _ _ _ _ _ _ us hl=>match us,hl with | [_,_],_=>rfl))
   (case hasHeader=>exact L2.TxtM.mk' (by k_is) (by k_is) (by k_is) (by k_is) (by k_is) (fun _ _ _ _ _ _ us hl=>match us,hl with | [_,_],_=>rfl))
   (case hasExit=>exact L2.TxtM.mk' (by k_is) (by k_is) (by k_is) (by k_is) (by k_is) (fun _ _ _ _ _ _ us hl=>match us,hl with | [_,_,_],_=>rfl))
   (case hasLink=>exact L2.TxtM.mk' (by k_is) (by k_is) (by k_is) (by k_is) (by k_is) (fun _ _ _ _ _ _ us hl=>match us,hl with | [_,_],_=>rfl))
   (case hasRule=>exact L2.TxtM.mk' (by k_is) (by k_is) (by k_is) (by k_is) (by k_is) (fun _ _ _ _ _ _ us hl=>match us,hl with | [_,_,_],_=>rfl))
   (case pksAt=>exact L2.TxtM.mk' (by k_is) (by k_is) (by k_is) (by k_is) (by k_is) (fun _ _ _ _ _ _ us hl=>match us,hl with | [_,_,_],_=>rfl))
   (case endsFrom=>exact L2.TxtM.mk' (by k_is) (by k_is) (by k_is) (by k_is) (by k_is) (fun _ _ _ _ _ _ us hl=>match us,hl with | [_,_],_=>rfl))
  case TN=>
   refine' { cl:=?cl,nN:=?nN,nP:=?nP,gN:=?gN,gE:=?gE,xc:=?xc,init:=?init,atEnd:=?atEnd,takeAny:=?takeAny,take:=?take }
   (case cl=>(constructor<;>k_is))
   (case nN=>(show PySem.W.findIn _ _ _=some none;k_is))
   (case nP=>(show PySem.W.findIn _ _ _=some none;k_is))
   (case gN=>exact PySem.W.mg_of KX G (by k_is))
   (case gE=>exact PySem.W.mg_of KX G (by k_is))
   (case xc=>(constructor;k_exc))
   (case init=>exact L2.TxtI.mk' (by k_is) (by k_is) (by k_is) (by k_is) (by k_is) (by k_is) (by k_is) (fun _ _ _ _ _ _ us hl=>match us,hl with | [_,_],_=>rfl))
   (case atEnd=>exact L2.TxtM.mk' (by k_is) (by k_is) (by k_is) (by k_is) (by k_is) (fun _ _ _ _ _ _ us hl=>match us,hl with | [_],_=>rfl))
   (case takeAny=>exact L2.TxtM.mk' (by k_is) (by k_is) (by k_is) (by k_is) (by k_is) (fun _ _ _ _ _ _ us hl=>match us,hl with | [_],_=>rfl))
   (case take=>exact L2.TxtM.mk' (by k_is) (by k_is) (by k_is) (by k_is) (by k_is) (fun _ _ _ _ _ _ us hl=>match us,hl with | [_,_,_],_=>rfl))
 case S=>
  intro K H xs a hO hwi hask hx
  cases hx with
  | cons h1 h2=>
   cases h2
   cases h1 with
   | lst hs ha=>
    have e:=L2.rW a.1 _ ha
    subst e
    have q:((Codec.inLen 0 16000 a.1 && a.1.all (Codec.inInt (_root_.Int.negSucc 999999999999999999) (_root_.Int.ofNat 1000000000000000000))) && true)=true:=hwi
    rw[Bool.and_eq_true,Bool.and_eq_true] at q
    have hask:PyVapktc.answers_asked a.1=true:=hask
    obtain⟨cs,c1,c2,c3,c4⟩:=Mc.wt hask
    exact⟨_,a.1,cs,rfl,hs,(Codec.inNat_iff.mp q.1.1).2,c1,c2,c4,fun H' p hp=>.lst (L2.SqL.of hp) (L2.r8 _)⟩
