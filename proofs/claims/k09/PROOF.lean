import PyProof.Rows.All
import Wide.All
import OpenK.AllK
import Wide.FinOn
import Lean
import PyProof.EqAt
import PyProof.EqKinds
import PyProof.TupleCall
import PySem.Challenge.RW_manydrawer_k09_whole_packed
set_option Elab.async false
set_option linter.all false
set_option maxRecDepth 100000
namespace L2
open PySem PySem.Spec PyProof.Rows
abbrev Key:=Sum Int Str
def keyIs:Key->Value->Bool
  | .inl k,v=>Value.isInt k v
  | .inr x,v=>Value.isStrOf x v
def keyH (w:World):Key->Int
  | .inl k=>hashInt k
  | .inr x=>hashStr w x
theorem keyIs_shape:∀ {k:Key}{v:Value},keyIs k v=true->(∃ i t,k=Sum.inl i/\v=Value.int i t)\/(∃ x t,k=Sum.inr x/\v=Value.str x t)
  | .inl i,v,h=>by
    obtain⟨t,e⟩:=Value.isInt_shape (k:=i) (v:=v) h
    exact .inl ⟨i,t,rfl,e⟩
  | .inr x,v,h=>by
    obtain⟨t,e⟩:=Value.isStrOf_shape (x:=x) (v:=v) h
    exact .inr ⟨x,t,rfl,e⟩
theorem key_ll (a b:Int):decide ((Sum.inl a:Key)=Sum.inl b)=(a==b):=by
  by_cases e:a=b
  · subst e; simp
  · have h:¬ (Sum.inl a:Key)=Sum.inl b:=fun q=>e (Sum.inl.inj q)
    rw [decide_eq_false h]
    exact (beq_eq_false_iff_ne.mpr e).symm
theorem key_rr (a b:Str):decide ((Sum.inr a:Key)=Sum.inr b)=decide (a=b):=by
  by_cases e:a=b
  · subst e; simp
  · have h:¬ (Sum.inr a:Key)=Sum.inr b:=fun q=>e (Sum.inr.inj q)
    rw [decide_eq_false h,decide_eq_false e]
theorem key_lr (a:Int) (b:Str):decide ((Sum.inl a:Key)=Sum.inr b)=false:=decide_eq_false (fun q=>nomatch q)
theorem key_rl (a:Str) (b:Int):decide ((Sum.inr a:Key)=Sum.inl b)=false:=decide_eq_false (fun q=>nomatch q)
def mixKind (prog:Program) (w:World):PySem.KeyKind prog w Key where
  is:=keyIs
  hash:=keyH w
  inj:=fun v a b ha hb=>by
    rcases keyIs_shape ha with⟨i,t,rfl,rfl⟩ | ⟨x,t,rfl,rfl⟩
    · rcases keyIs_shape hb with⟨j,u,rfl,e⟩ | ⟨y,u,rfl,e⟩
      · injection e with e1 _; rw [e1]
      · exact nomatch e
    · rcases keyIs_shape hb with⟨j,u,rfl,e⟩ | ⟨y,u,rfl,e⟩
      · exact nomatch e
      · injection e with e1 _; rw [e1]
  byValue:=fun k v h=>by
    rcases keyIs_shape h with⟨i,t,rfl,rfl⟩ | ⟨x,t,rfl,rfl⟩<;>rfl
  pyHash:=fun hv h=>by
    rcases keyIs_shape hv with⟨i,t,rfl,rfl⟩ | ⟨x,t,rfl,rfl⟩
    · exact wpAny_pyHash_int h
    · exact wpAny_pyHash_str h
  eqBool:=fun hu hv h=>by
    rcases keyIs_shape hu with⟨i,t,rfl,rfl⟩ | ⟨x,t,rfl,rfl⟩
    · rcases keyIs_shape hv with⟨j,u,rfl,rfl⟩ | ⟨y,u,rfl,rfl⟩
      · rw [key_ll] at h; exact wpAny_eqBool_int h
      · rw [key_lr] at h; exact SeqAt.EqAt.int_str i t y u _ _ _ _ h
    · rcases keyIs_shape hv with⟨j,u,rfl,rfl⟩ | ⟨y,u,rfl,rfl⟩
      · rw [key_rl] at h; exact SeqAt.EqAt.str_int x t j u _ _ _ _ h
      · rw [key_rr] at h; exact wpAny_eqBool_str h
  «strs»:=fun k x t v h=>by
    rcases keyIs_shape h with⟨i,u,rfl,e⟩ | ⟨y,u,rfl,e⟩
    · exact nomatch e
    · injection e with e1 _
      subst e1
      cases v<;>rfl
end L2
namespace L2
open PySem PySem.Spec PyProof.Rows
inductive V where
  | non | bl (b:Bool) | int (i:Int) | str (x:Str) | byt (b:Array UInt8) | flt (b:UInt64) | ref (a:Addr) | ty (n:String)
  deriving DecidableEq
def RelV:V->Value->Prop
  | .non,u=>u=Value.none
  | .bl b,u=>u=Value.bool b
  | .int i,u=>∃ t,u=Value.int i t
  | .str x,u=>∃ t,u=Value.str x t
  | .byt b,u=>∃ t,u=Value.bytes b t
  | .flt b,u=>∃ t,u=Value.float b t
  | .ref a,u=>u=Value.ref a
  | .ty n,u=>u=Value.type n
abbrev Vals:List V->List Value->Prop:=Paired RelV
theorem Vals.length {xs:List V}{us:List Value} (r:Vals xs us):xs.length=us.length:=Paired.length r
theorem Vals.get:∀ {xs:List V}{us:List Value}{i:Nat}{x:V},Vals xs us->xs[i]?=some x->∃ u,us[i]?=some u/\RelV x u
  | _,_,_,_,.nil,e=>by simp at e
  | _,_,0,_,.cons r _,e=>by simp at e; subst e; exact⟨_,rfl,r⟩
  | _,_,i+1,x,.cons _ t,e=>by
    obtain⟨u,h1,h2⟩:=Vals.get (i:=i) (x:=x) t (by simpa using e)
    exact⟨u,by simpa using h1,h2⟩
theorem Vals.set {x:V}{u:Value} (r:RelV x u):∀ {xs:List V}{us:List Value} (i:Nat),Vals xs us->Vals (xs.set i x) (us.set i u)
  | _,_,_,.nil=>.nil
  | _,_,0,.cons _ t=>.cons r t
  | _,_,i+1,.cons q t=>.cons q (Vals.set r i t)
theorem Vals.append:∀ {xs ys:List V}{us ws:List Value},Vals xs us->Vals ys ws->Vals (xs++ys) (us++ws)
  | _,_,_,_,.nil,s=>s
  | _,_,_,_,.cons r t,s=>.cons r (Vals.append t s)
theorem Vals.take:∀ {xs:List V}{us:List Value} (n:Nat),Vals xs us->Vals (xs.take n) (us.take n)
  | _,_,0,_=>.nil
  | _,_,_+1,.nil=>.nil
  | _,_,n+1,.cons r t=>.cons r (Vals.take n t)
theorem Vals.drop:∀ {xs:List V}{us:List Value} (n:Nat),Vals xs us->Vals (xs.drop n) (us.drop n)
  | _,_,0,r=>r
  | _,_,_+1,.nil=>.nil
  | _,_,n+1,.cons _ t=>Vals.drop n t
def RelO:Option V->Option Value->Prop
  | some v,some u=>RelV v u
  | none,none=>True
  | _,_=>False
def KV {κ:Type}:List (κ×V)->List (κ×Value)->Prop:=Paired fun (p:κ×V) (q:κ×Value)=>p.1=q.1/\RelV p.2 q.2
def kV:Key->V
  | .inl i=>.int i
  | .inr x=>.str x
inductive HO where
  | lst (xs:List V)
  | tup (xs:List V)
  | dK (kvs:List (Key×V)) | dT (kvs:List (List Key×V))
  | set (S:Int->Bool) (n:Nat)
  | ins (C dx:Addr) (fs:List (Str×V))
  | own (x:Addr)
  | xd (fs:List (Str×V))
  | met (f x:Addr)
  | rng (lo hi:Int)
  | frz (o:Obj) (u:HO)
  | tbl (ps:Array Value)
  | ext (φ:Heap->Prop)
abbrev Hp:=Addr->Option HO
def upd (H:Hp) (a:Addr) (o:HO):Hp:=fun b=>if b=a then some o else H b
theorem upd_same {H:Hp}{a:Addr}{o:HO}:upd H a o a=some o:=by unfold upd; rw [if_pos rfl]
theorem upd_ne {H:Hp}{a b:Addr}{o:HO} (h:b≠a):upd H a o b=H b:=by unfold upd; rw [if_neg h]
theorem ne_of {H:Hp}{a b:Addr}{o u:HO} (h:H a=some o) (h':H b=some u) (d:o≠u):a≠b:=by
  intro e; subst e; rw [h] at h'; exact d (Option.some.inj h')
theorem ne_of_none {H:Hp}{a b:Addr}{o:HO} (h:H a=some o) (h':H b=none):a≠b:=by
  intro e; subst e; rw [h] at h'; cases h'
section
variable (P:Program) (w:World)
def ObjOk (H:Hp) (h:Heap) (a:Addr):HO->Prop
  | .lst xs=>xs.length<=sizeLine/\∃ (its:List Value) (n:Nat),Vals xs its/\h.get? a=some { cls:=.type "list",data:=.seq its.toArray n }
  | .tup xs=>xs.length<=sizeLine/\∃ its:List Value,Vals xs its/\IsTup h a its.toArray
  | .dK kvs=>kvs.length<=sizeLine/\(a==sysModules)=false/\∃ vs,KV kvs vs/\h.DictOf (mixKind P w) a vs
  | .dT kvs=>kvs.length<=sizeLine/\(a==sysModules)=false/\∃ xs:List (List Key×Addr×Value),
      Paired (fun (p:List Key×V) (q:List Key×Addr×Value)=>p.1=q.1/\H q.2.1=some (.tup (p.1.map kV))/\RelV p.2 q.2.2) kvs xs/\
      ∃ o es ep,h.get? a=some o/\o.ExactDict/\o.data=.dict es ep/\es.toList=xs.map (entryOfKey (tupleKind (mixKind P w)))/\(xs.map (·.1)).Nodup
  | .set S n=>h.SetOf (intKind P w) a S n
  | .ins C dx fs=>H dx=some (.own a)/\fs.length<=1000/\dx≠a/\h.get? a=some (PySem.W.instObj C dx)/\
      ∃ mA,h.Ns1 dx mA/\(∀ f,RelO (fs.lookup f) (mA f))/\PySem.Within mA (fs.map (·.1))
  | .own _=>∃ o,h.get? a=some o
  | .xd fs=>∃ mA,h.Ns1 a mA/\∀ f,RelO (fs.lookup f) (mA f)
  | .rng lo hi=>∃ t u v,h.get? a=some { cls:=.type "range",data:=.fields #[.int lo t,.int hi u,.int 1 v] }
  | .frz o u=>h.get? a=some o/\ObjOk H h a u
  | .tbl ps=>h.get? a=some { cls:=.none,data:=.fields ps }
  | .met f x=>h.get? a=some (PySem.W.methodObj (.ref f) (.ref x))
  | .ext φ=>φ h/\(∃ o,h.get? a=some o)/\∀ h1 h2:Heap,φ h1->(∀ o,h1.get? a=some o->h2.get? a=some o)->φ h2
def HOk (H:Hp) (h:Heap):Prop:=∀ a o,H a=some o->ObjOk P w H h a o
end
section
variable {P:Program}{w:World}{H H':Hp}{h h':Heap}{a:Addr}{o:HO}
theorem ObjOk.lt (x:ObjOk P w H h a o):a < h.objs.size:=by
  cases o with
  | lst xs=>obtain⟨_,_,_,_,e⟩:=x; exact Heap.lt_size e
  | tup xs=>obtain⟨_,_,_,p⟩:=x; exact p.lt
  | dK kvs=>obtain⟨_,_,_,_,o,_,_,e,_⟩:=x; exact Heap.lt_size e
  | dT kvs=>obtain⟨_,_,_,_,o,_,_,e,_⟩:=x; exact Heap.lt_size e
  | set S n=>obtain⟨o,_,_,_,e,_⟩:=x; exact Heap.lt_size e
  | ins C dx fs=>obtain⟨_,_,_,e,_⟩:=x; exact Heap.lt_size e
  | own y=>obtain⟨_,e⟩:=x; exact Heap.lt_size e
  | xd fs=>obtain⟨_,⟨_,_,_,e,_⟩,_⟩:=x; exact Heap.lt_size e
  | rng lo hi=>obtain⟨_,_,_,e⟩:=x; exact Heap.lt_size e
  | frz ob u=>obtain⟨e,_⟩:=x; exact Heap.lt_size e
  | tbl ps=>exact Heap.lt_size (show h.get? a=some _ from x)
  | met f y=>exact Heap.lt_size (show h.get? a=some _ from x)
  | ext φ=>obtain⟨_,⟨_,e⟩,_⟩:=x; exact Heap.lt_size e
theorem Paired.mapP {α β:Type}{F G:α->β->Prop}:∀ {l₁:List α}{l₂:List β},Paired F l₁ l₂->(∀ a b,F a b->G a b)->Paired G l₁ l₂
  | _,_,.nil,_=>.nil
  | _,_,.cons r t,f=>.cons (f _ _ r) (Paired.mapP t f)
theorem ObjOk.stay (x:ObjOk P w H h a o) (k:∀ b u,(b=a\/H b=some (.own a))->h.get? b=some u->h'.get? b=some u)
    (ho:∀ b,H b=some (.own a)->H' b=some (.own a)) (ht:∀ b xs,H b=some (.tup xs)->H' b=some (.tup xs)):ObjOk P w H' h' a o:=by
  induction o with
  | lst xs=>obtain⟨z,its,n,r,e⟩:=x; exact⟨z,its,n,r,k _ _ (.inl rfl) e⟩
  | tup xs=>obtain⟨z,its,r,ob,e,c⟩:=x; exact⟨z,its,r,ob,k _ _ (.inl rfl) e,c⟩
  | dK kvs=>obtain⟨z,y,vs,r,ob,es,ep,e,c⟩:=x; exact⟨z,y,vs,r,ob,es,ep,k _ _ (.inl rfl) e,c⟩
  | dT kvs=>
    obtain⟨z,y,xs,r,ob,es,ep,e,c⟩:=x
    exact⟨z,y,xs,Paired.mapP r fun p q z=>⟨z.1,ht _ _ z.2.1,z.2.2⟩,ob,es,ep,k _ _ (.inl rfl) e,c⟩
  | set S n=>obtain⟨ob,es,ep,t,e,c⟩:=x; exact⟨ob,es,ep,t,k _ _ (.inl rfl) e,c⟩
  | ins C dx fs=>
    obtain⟨d,z,ne,e,mA,⟨od,es,ep,e2,c⟩,r⟩:=x
    exact⟨ho _ d,z,ne,k _ _ (.inl rfl) e,mA,⟨od,es,ep,k _ _ (.inr d) e2,c⟩,r⟩
  | own y=>obtain⟨ob,e⟩:=x; exact⟨ob,k _ _ (.inl rfl) e⟩
  | xd fs=>obtain⟨mA,⟨od,es,ep,e,c⟩,r⟩:=x; exact⟨mA,⟨od,es,ep,k _ _ (.inl rfl) e,c⟩,r⟩
  | rng lo hi=>obtain⟨t,u,v,e⟩:=x; exact⟨t,u,v,k _ _ (.inl rfl) e⟩
  | frz ob u ih=>obtain⟨e,q⟩:=x; exact⟨k _ _ (.inl rfl) e,ih q⟩
  | tbl ps=>
    have e:h.get? a=some { cls:=.none,data:=.fields ps }:=x
    show h'.get? a=some { cls:=.none,data:=.fields ps }
    exact k a _ (.inl rfl) e
  | met f y=>
    have e:h.get? a=some (PySem.W.methodObj (.ref f) (.ref y)):=x
    show h'.get? a=some (PySem.W.methodObj (.ref f) (.ref y))
    exact k a _ (.inl rfl) e
  | ext φ=>obtain⟨p,⟨o,e⟩,st⟩:=x; exact⟨st _ _ p fun o q=>k _ _ (.inl rfl) q,⟨o,k _ _ (.inl rfl) e⟩,st⟩
theorem HOk.lt (x:HOk P w H h) (e:H a=some o):a < h.objs.size:=(x a o e).lt
theorem HOk.fresh (x:HOk P w H h) (e:h.objs.size<=a):H a=none:=by
  cases q:H a with
  | none=>rfl
  | some u=>exact absurd (Nat.lt_of_lt_of_le (x.lt q) e) (Nat.lt_irrefl _)
theorem HOk.kept (x:HOk P w H h) (k:∀ b u,h.get? b=some u->h'.get? b=some u):HOk P w H h':=fun a o e=>
  (x a o e).stay (fun b u _ q=>k b u q) (fun _ q=>q) fun _ _ q=>q
theorem HOk.laid (x:HOk P w H h) (k:∀ b u,h.get? b=some u->h'.get? b=some u) (hp:h.objs.size<=a) (new:ObjOk P w (upd H a o) h' a o):HOk P w (upd H a o) h':=fun b u e=>by
  have hn:=x.fresh hp
  by_cases hb:b=a
  · subst hb; rw [upd_same] at e; cases e; exact new
  · rw [upd_ne hb] at e
    exact (x b u e).stay (fun c v _ q=>k c v q) (fun c q=>by rw [upd_ne (ne_of_none q hn)]; exact q) fun c xs q=>by rw [upd_ne (ne_of_none q hn)]; exact q
end
def Rd (H:Hp) (a:Addr) (u:HO):Prop:=H a=some u\/∃ o,H a=some (.frz o u)
theorem Rd.ok {P:Program}{w:World}{H:Hp}{h:Heap}{a:Addr}{u:HO} (r:Rd H a u) (x:HOk P w H h):ObjOk P w H h a u:=by
  rcases r with r | ⟨o,r⟩
  · exact x a u r
  · obtain⟨_,q⟩:=x a _ r
    exact q
def Mut:Option HO->Prop
  | some (.lst _)=>True
  | some (.dK _)=>True
  | some (.dT _)=>True
  | some (.set _ _)=>True
  | some (.ins _ _ _)=>True
  | some (.ext _)=>True
  | _=>False
section
variable {P:Program}{w:World}{H:Hp}{h h':Heap}{x e:Addr}{o':HO}
theorem HOk.write (ok:HOk P w H h) (mu:Mut (H x)) (he:e=x\/H e=some (.own x)) (k:∀ b u,b≠e->h.get? b=some u->h'.get? b=some u) (heo:∃ u,h'.get? e=some u)
    (new:ObjOk P w (upd H x o') h' x o'):HOk P w (upd H x o') h':=fun b u q=>by
  have nown:∀ c y,H c=some (.own y)->c≠x:=fun c y r z=>by subst z; rw [r] at mu; exact mu
  have ntup:∀ c xs,H c=some (.tup xs)->c≠x:=fun c xs r z=>by subst z; rw [r] at mu; exact mu
  by_cases hb:b=x
  · subst hb; rw [upd_same] at q; cases q; exact new
  · rw [upd_ne hb] at q
    by_cases hbe:b=e
    · have q':H b=some (.own x):=by
        rcases he with z | z
        · exact absurd (hbe.trans z) hb
        · rw [hbe]; exact z
      rw [q] at q'; cases q'
      obtain⟨v,hv⟩:=heo
      exact⟨v,by rw [hbe]; exact hv⟩
    · refine (ok b u q).stay (fun c v hc r=>k c v ?_ r) (fun c r=>by rw [upd_ne (nown c b r)]; exact r) fun c xs r=>by rw [upd_ne (ntup c xs r)]; exact r
      rcases hc with rfl | hc
      · exact hbe
      · rintro rfl
        rcases he with z | z
        · exact nown c b hc z
        · rw [hc] at z; cases z; exact hb rfl
end
structure Un (fs ex:List Addr) (H H':Hp) (h h':Heap):Prop where
  keep:∀ b o,h.get? b=some o->H b=none->b∉fs->b∉ex->h'.get? b=some o
  slot:∀ b o,h.get? b=some o->H b=none->b∈fs->b∉ex->∃ sl,h'.get? b=some { o with slots:=sl }
  free:∀ b o,h.get? b=some o->H b=none->b∉ex->H' b=none
  there:∀ b o,h.get? b=some o->b∉ex->∃ o',h'.get? b=some o'
  tups:∀ b xs,H b=some (.tup xs)->H' b=some (.tup xs)
  frzs:∀ b o u,H b=some (.frz o u)->H' b=some (.frz o u)
  tbls:∀ b ps,H b=some (.tbl ps)->∃ more,H' b=some (.tbl (ps++more))
section
variable {fs fs' ex ex':List Addr}{H H1 H2:Hp}{h h1 h2 h':Heap}{a x e:Addr}{o:HO}
theorem Un.any (u:Un fs ex H H1 h h1) {b:Addr}{ob:Obj} (q:h.get? b=some ob) (n:H b=none) (hx:b∉ex):∃ sl,h1.get? b=some { ob with slots:=sl }:=by
  by_cases hb:b∈fs
  · exact u.slot b ob q n hb hx
  · exact⟨ob.slots,u.keep b ob q n hb hx⟩
theorem Un.kept (k:∀ b u,h.get? b=some u->h'.get? b=some u):Un fs ex H H h h':=
  ⟨fun b ob q _ _ _=>k b ob q,fun b ob q _ _ _=>⟨ob.slots,k b ob q⟩,fun _ _ _ n _=>n,fun b ob q _=>⟨ob,k b ob q⟩,fun _ _ q=>q,fun _ _ _ q=>q,fun _ ps q=>⟨#[],by rw [q]; simp⟩⟩
theorem Un.refl:Un fs ex H H h h:=Un.kept fun _ _ q=>q
theorem Un.laid (k:∀ b u,h.get? b=some u->h'.get? b=some u) (hp:h.objs.size<=a) (hn:H a=none):Un fs ex H (upd H a o) h h' where
  keep:=fun b u q _ _ _=>k b u q
  slot:=fun b u q _ _ _=>⟨u.slots,k b u q⟩
  free:=fun b u q n _=>by rw [upd_ne (Nat.ne_of_lt (Nat.lt_of_lt_of_le (Heap.lt_size q) hp))]; exact n
  there:=fun b u q _=>⟨u,k b u q⟩
  tups:=fun b xs q=>by rw [upd_ne (ne_of_none q hn)]; exact q
  frzs:=fun b u xs q=>by rw [upd_ne (ne_of_none q hn)]; exact q
  tbls:=fun b ps q=>⟨#[],by rw [upd_ne (ne_of_none q hn),q]; simp⟩
theorem Un.write (mu:Mut (H x)) (he:e=x\/H e=some (.own x)) (k:∀ b u,b≠e->h.get? b=some u->h'.get? b=some u) (heo:∃ u,h'.get? e=some u):Un fs ex H (upd H x o) h h':=by
  have hx:∀ b,H b=none->b≠x:=fun b n z=>by subst z; rw [n] at mu; exact mu
  have hb:∀ b,H b=none->b≠e:=fun b n z=>by
    subst z
    rcases he with r | r
    · exact hx b n r
    · rw [n] at r; cases r
  have hm:∀ b u,H b=some u->¬ Mut (some u)->b≠x:=fun b u q nm z=>by subst z; rw [q] at mu; exact nm mu
  refine⟨fun b u q n _ _=>k b u (hb b n) q,fun b u q n _ _=>⟨u.slots,k b u (hb b n) q⟩,fun b u q n _=>by rw [upd_ne (hx b n)]; exact n,fun b u q _=>?_,
    fun b xs q=>by rw [upd_ne (hm b _ q fun z=>z)]; exact q,fun b u xs q=>by rw [upd_ne (hm b _ q fun z=>z)]; exact q,fun b ps q=>⟨#[],by rw [upd_ne (hm b _ q fun z=>z),q]; simp⟩⟩
  by_cases hbe:b=e
  · subst hbe; exact heo
  · exact⟨u,k b u hbe q⟩
end
def trk (h:Heap) (H:Hp):List Addr:=(List.range h.objs.size).filter fun a=>(H a).isSome
def hidT (h:Heap) (H:Hp):Heap:=PySem.W.hideAll h (trk h H)
theorem hidT_size (h:Heap) (H:Hp):(hidT h H).objs.size=h.objs.size:=PySem.W.hideAll_size _ _
theorem hidT_get {h:Heap}{H:Hp}{b:Addr}{o:Obj} (e:h.get? b=some o) (n:H b=none):(hidT h H).get? b=some o:=
  PySem.W.hideAll_get _ e fun hm=>by
    have q:(H b).isSome=true:=(List.mem_filter.mp hm).2
    rw [n] at q; simp at q
theorem of_hidT {h:Heap}{H:Hp}{b:Addr}{o:Obj} (e:(hidT h H).get? b=some o):h.get? b=some o/\H b=none:=by
  have e':h.get? b=some o:=PySem.W.of_hideAll (trk h H) e
  refine⟨e',?_⟩
  cases q:H b with
  | none=>rfl
  | some x=>
    have hm:b∈trk h H:=List.mem_filter.mpr ⟨List.mem_range.mpr (Heap.lt_size e'),by simp [q]⟩
    have z:(hidT h H).get? b=none:=PySem.W.hideAll_none (trk h H) hm
    rw [z] at e; cases e
def allNews (g h:Heap) (L:Addr):List (Addr×Obj):=(List.range h.objs.size).filterMap fun a=>if a=L\/(g.get? a).isSome=true then none else (h.get? a).map fun o=>(a,o)
def rest (g h:Heap) (L d:Addr):List (Addr×Obj):=(allNews g h L).filter fun p=>decide (p.1≠d)
end L2
namespace L2
open PySem PySem.Spec PyProof.Rows
structure Mod (K:PySem.W.Frag) (mg:Str->Option Value) (base:Heap):Prop where
  kin:K.In base
  glob:base.Ns mainGlobals mg
  blt:∃ mb,base.Ns builtinsNs mb/\∀ x:Str,x≠"__name__"->mb x=bootBuiltins x
  nolimit:base.NoLimit
structure Cx where
  prog:Program
  w:World
  K:PySem.W.Frag
  mg:Str->Option Value
  base:Heap
  A:Around
  N:List Str
  s₀:Shared
  H₀:Hp
  env:Env
  outer:List Env
  stack:List Env
  ex:List Addr
  fn:Str->Bool
  calm:Bool
  pn:List (Addr×Obj)
  xe:Value->Shared->Prop
def frs (l:List Env):List Addr:=l.filterMap (·.frame)
abbrev Cx.fs (X:Cx):List Addr:=frs X.outer
def Vis (sc:Scope) (x:Str):Prop:=sc.names.lookup x=some .local\/sc.names.lookup x=some .cell\/sc.names.lookup x=some .free
def Loc (sc:Scope) (x:Str):Prop:=sc.names.lookup x=some .local\/sc.names.lookup x=some .cell
def Look (env:Env) (h:Heap) (m:Str->Option Value) (x:Str) (u:Value):Prop:=
  (env.kindOf x=some .local/\m x=some u)\/((env.kindOf x=some .cell\/env.kindOf x=some .free)/\∃ c,env.cells.lookup x=some c/\h.IsCell c (some u))
structure Cx.Ok (X:Cx):Prop where
  mod:Mod X.K X.mg X.base
  kind:X.env.scope.kind=.function
  glob:X.env.globals=mainGlobals
  blt:X.env.builtins=builtinsNs
  above:X.s₀.heap.objs.size<=X.env.locals
  inj:∀ x y c,X.env.cells.lookup x=some c->X.env.cells.lookup y=some c->x=y
  has:∀ x,(X.env.kindOf x=some .cell\/X.env.kindOf x=some .free)->∃ c,X.env.cells.lookup x=some c
  cab:∀ x c,X.fn x=true->X.env.cells.lookup x=some c->X.s₀.heap.objs.size<=c
  hd:X.calm=true->X.A.handled=none
  frames:X.A.frames=some X.stack
  stk:X.stack=X.outer\/(X.stack=X.env::X.outer/\X.env.frame=some X.env.locals)
  exf:∀ b∈X.ex,b≠X.env.locals/\∀ x c,X.env.cells.lookup x=some c->c≠b
  bs:∀ b o,X.base.get? b=some o->X.s₀.heap.get? b=some o/\X.H₀ b=none
  bsz:X.base.objs.size<=X.s₀.heap.objs.size
  noex:∀ b o,X.base.get? b=some o->b∉X.ex
  exfs:∀ b∈X.ex,b∉X.fs
  funs:X.s₀.heap.FunFrames X.base X.outer
  frf:∀ b∈X.fs,X.H₀ b=none
structure Inv (X:Cx) (pins:List (Addr×Obj)) (σ:List (Option V)) (H:Hp) (s:Shared):Prop where
  ok:X.Ok
  os:s.os=X.s₀.os
  bare:AllBare s.gens
  base:Un X.fs X.ex X.H₀ H X.s₀.heap s.heap
  loc:∃ m,s.heap.Ns X.env.locals m/\∀ (i:Nat) (x:Str) (v:V),X.N[i]?=some x->σ[i]?=some (some v)->Vis X.env.scope x->∃ u,RelV v u/\Look X.env s.heap m x u
  cell:∀ x c,X.env.cells.lookup x=some c->∃ v,s.heap.IsCell c v
  free:H X.env.locals=none
  freeC:∀ x c,X.env.cells.lookup x=some c->H c=none
  pin:∀ p∈X.pn++pins,s.heap.get? p.1=some p.2/\H p.1=none/\p.1≠X.env.locals/\p.1∉X.fs/\∀ v,p.2.data≠.cell v
  hok:HOk X.prog X.w H s.heap
  len:σ.length=X.N.length
section
variable {X:Cx}{pins:List (Addr×Obj)}{σ:List (Option V)}{H H':Hp}{s:Shared}{h':Heap}
theorem Cx.Ok.nofr (ok:X.Ok) {b:Addr}{o:Obj} (e:X.base.get? b=some o):b∉X.fs:=fun hb=>by
  have:=(ok.funs.mem hb).1
  rw [e] at this; cases this
theorem Inv.bs (I:Inv X pins σ H s):∀ b o,X.base.get? b=some o->s.heap.get? b=some o/\H b=none:=fun b o e=>
  ⟨I.base.keep b o (I.ok.bs b o e).1 (I.ok.bs b o e).2 (I.ok.nofr e) (I.ok.noex b o e),I.base.free b o (I.ok.bs b o e).1 (I.ok.bs b o e).2 (I.ok.noex b o e)⟩
theorem Inv.bk (I:Inv X pins σ H s):∀ b o,X.base.get? b=some o->s.heap.get? b=some o:=fun b o e=>(I.bs b o e).1
theorem Inv.mod (I:Inv X pins σ H s):Mod X.K X.mg X.base:=I.ok.mod
theorem Inv.kIn (I:Inv X pins σ H s):X.K.In s.heap:=I.ok.mod.kin.keeps I.bk
theorem Inv.lt (I:Inv X pins σ H s):X.env.locals < s.heap.objs.size:=let ⟨_,hn,_⟩:=I.loc; hn.lt
theorem Inv.sz (I:Inv X pins σ H s):X.s₀.heap.objs.size<=s.heap.objs.size:=Nat.le_trans I.ok.above (Nat.le_of_lt I.lt)
theorem Inv.nofs (I:Inv X pins σ H s) {a:Addr} (h:s.heap.objs.size<=a):a∉X.fs:=fun hb=>by
  obtain⟨_,o,ho,_⟩:=I.ok.funs.mem hb
  exact absurd (Nat.lt_of_lt_of_le (Heap.lt_size ho) (Nat.le_trans I.sz h)) (Nat.lt_irrefl _)
theorem Inv.cne (I:Inv X pins σ H s):∀ x c,X.env.cells.lookup x=some c->c≠X.env.locals:=fun x c e z=>by
  obtain⟨v,o,ho,hd⟩:=I.cell x c e
  obtain⟨m,⟨o',es,ep,ho',hd',_⟩,_⟩:=I.loc
  rw [z,ho'] at ho; cases ho; rw [hd'] at hd; cases hd
theorem Inv.funs (I:Inv X pins σ H s):s.heap.FunFrames X.base X.outer:=by
  have all:∀ (l:List Env),(∀ b∈frs l,b∈X.fs)->X.s₀.heap.FunFrames X.base l->s.heap.FunFrames X.base l:=by
    intro l
    induction l with
    | nil=>intro _ _; trivial
    | cons env r ih=>
      intro hs hl
      obtain⟨hk,⟨L,o,hf,hn,ho,hd⟩,hr⟩:=hl
      have hL:L∈X.fs:=hs L (by unfold frs; rw [List.filterMap_cons,hf]; exact List.mem_cons_self)
      obtain⟨sl,e⟩:=I.base.slot L o ho (I.ok.frf L hL) hL fun z=>I.ok.exfs L z hL
      exact⟨hk,⟨L,_,hf,hn,e,hd⟩,ih (fun b hb=>hs b (by unfold frs; rw [List.filterMap_cons,hf]; exact List.mem_cons_of_mem _ hb)) hr⟩
  exact all X.outer (fun _ hb=>hb) I.ok.funs
theorem Inv.stack (I:Inv X pins σ H s):s.heap.FunFrames X.base X.stack:=by
  rcases I.ok.stk with e | ⟨e,hf⟩
  · rw [e]; exact I.funs
  · rw [e]
    obtain⟨m,hn,_⟩:=I.loc
    refine .cons (by rw [I.ok.kind]; decide) hf hn ?_ I.funs
    exact Heap.get?_none_of_le (Nat.le_trans I.ok.bsz I.ok.above)
theorem Inv.stkSub (I:Inv X pins σ H s):∀ b∈frs X.stack,b∈X.env.locals::X.fs:=fun b hb=>by
  rcases I.ok.stk with e | ⟨e,hf⟩
  · rw [e] at hb; exact List.mem_cons_of_mem _ hb
  · rw [e] at hb
    unfold frs at hb
    rw [List.filterMap_cons,hf] at hb
    exact hb
theorem Inv.stkFree (I:Inv X pins σ H s):∀ b∈frs X.stack,H b=none:=fun b hb=>by
  rcases List.mem_cons.mp (I.stkSub b hb) with e | hb
  · rw [e]; exact I.free
  · obtain⟨_,o,ho,_⟩:=I.ok.funs.mem hb
    exact I.base.free b o ho (I.ok.frf b hb) fun z=>I.ok.exfs b z hb
theorem Inv.step {g':Array GenState}{t':Nat}{d':Drawn}{ch:List Addr} (I:Inv X pins σ H s)
    (hch:∀ b∈ch,(b∈X.ex\/X.s₀.heap.objs.size<=b)/\b≠X.env.locals/\(∀ x c,X.env.cells.lookup x=some c->c≠b)/\∀ p∈X.pn++pins,p.1≠b)
    (keep:∀ b o,b≠X.env.locals->b∉X.fs->b∉ch->s.heap.get? b=some o->H b=none->h'.get? b=some o)
    (slot:∀ b o,b≠X.env.locals->b∈X.fs->b∉ch->s.heap.get? b=some o->H b=none->∃ sl,h'.get? b=some { o with slots:=sl }) (free:∀ b o,b∉ch->s.heap.get? b=some o->H b=none->H' b=none)
    (there:∀ b o,b∉ch->s.heap.get? b=some o->∃ o',h'.get? b=some o')
    (tups:∀ b xs,H b=some (.tup xs)->H' b=some (.tup xs)) (frzs:∀ b o u,H b=some (.frz o u)->H' b=some (.frz o u)) (tbls:∀ b ps,H b=some (.tbl ps)->∃ more,H' b=some (.tbl (ps++more)))
    (ns:∀ m,s.heap.Ns X.env.locals m->h'.Ns X.env.locals m) (hok:HOk X.prog X.w H' h') (hg:AllBare g'):
    Inv X pins σ H' { s with heap:=h',gens:=g',drawn:=d',toks:=t' }:=by
  have neL:∀ b o,X.s₀.heap.get? b=some o->b≠X.env.locals:=fun b o e=>Nat.ne_of_lt (Nat.lt_of_lt_of_le (Heap.lt_size e) I.ok.above)
  have neC:∀ b o,X.s₀.heap.get? b=some o->b∉X.ex->b∉ch:=fun b o e hx hb=>by
    rcases (hch b hb).1 with z | z
    · exact hx z
    · exact absurd (Nat.lt_of_lt_of_le (Heap.lt_size e) z) (Nat.lt_irrefl _)
  have cellK:∀ x c,X.env.cells.lookup x=some c->∀ v,s.heap.IsCell c v->h'.IsCell c v:=fun x c e v ⟨o,ho,hd⟩=>by
    have nch:c∉ch:=fun z=>(hch c z).2.2.1 x c e rfl
    by_cases hc:c∈X.fs
    · obtain⟨sl,q⟩:=slot c o (I.cne x c e) hc nch ho (I.freeC x c e)
      exact⟨_,q,hd⟩
    · exact⟨o,keep c o (I.cne x c e) hc nch ho (I.freeC x c e),hd⟩
  refine⟨I.ok,I.os,hg,⟨fun b o e n hb hx=>?_,fun b o e n hb hx=>?_,fun b o e n hx=>?_,fun b o e hx=>?_,fun b xs e=>tups b xs (I.base.tups b xs e),fun b o xs e=>frzs b o xs (I.base.frzs b o xs e),fun b ps e=>?_⟩,?_,fun x c e=>?_,?_,fun x c e=>?_,fun p hp=>?_,hok,I.len⟩
  · exact keep b o (neL b o e) hb (neC b o e hx) (I.base.keep b o e n hb hx) (I.base.free b o e n hx)
  · obtain⟨sl,e1⟩:=I.base.slot b o e n hb hx
    obtain⟨sl',e2⟩:=slot b _ (neL b o e) hb (neC b o e hx) e1 (I.base.free b o e n hx)
    exact⟨sl',e2⟩
  · obtain⟨o',e1⟩:=I.base.there b o e hx
    exact free b o' (neC b o e hx) e1 (I.base.free b o e n hx)
  · obtain⟨o',e1⟩:=I.base.there b o e hx
    exact there b o' (neC b o e hx) e1
  · obtain⟨m1,e1⟩:=I.base.tbls b ps e
    obtain⟨m2,e2⟩:=tbls b _ e1
    exact⟨m1++m2,by rw [e2,Array.append_assoc]⟩
  · obtain⟨m,hn,hl⟩:=I.loc
    refine⟨m,ns m hn,fun i x v e1 e2 e3=>?_⟩
    obtain⟨u,r,l⟩:=hl i x v e1 e2 e3
    refine⟨u,r,?_⟩
    rcases l with l | ⟨k,c,e,z⟩
    · exact .inl l
    · exact .inr ⟨k,c,e,cellK x c e _ z⟩
  · obtain⟨v,z⟩:=I.cell x c e
    exact⟨v,cellK x c e v z⟩
  · obtain⟨m,⟨o,_,_,ho,_⟩,_⟩:=I.loc
    exact free _ o (fun z=>(hch _ z).2.1 rfl) ho I.free
  · obtain⟨v,o,ho,hd⟩:=I.cell x c e
    exact free c o (fun z=>(hch c z).2.2.1 x c e rfl) ho (I.freeC x c e)
  · obtain⟨e,n,ne,nf,d⟩:=I.pin p hp
    have nch:p.1∉ch:=fun z=>(hch p.1 z).2.2.2 p hp rfl
    exact⟨keep p.1 p.2 ne nf nch e n,free p.1 p.2 nch e n,ne,nf,d⟩
theorem Inv.un {t':Nat} (I:Inv X pins σ H s) (u:Un X.fs [] H H' s.heap h') (hok:HOk X.prog X.w H' h'):Inv X pins σ H' { s with heap:=h',toks:=t' }:=by
  obtain⟨m,⟨o,es,ep,ho,r⟩,_⟩:=id I.loc
  obtain⟨sl,hL⟩:=u.any ho I.free (by simp)
  exact I.step (g':=s.gens) (d':=s.drawn) (ch:=[]) (fun _ z=>nomatch z) (fun b o _ hb _ e n=>u.keep b o e n hb (by simp)) (fun b o _ hb _ e n=>u.slot b o e n hb (by simp)) (fun b o _ e n=>u.free b o e n (by simp)) (fun b o _ e=>u.there b o e (by simp)) u.tups u.frzs u.tbls (fun m' hm=>by
    obtain⟨o',es',ep',ho',r'⟩:=hm
    rw [ho] at ho'; cases ho'
    exact⟨_,es',ep',hL,r'⟩) hok I.bare
theorem Inv.call {g':Array GenState}{t':Nat}{d':Drawn}{ch:List Addr} (I:Inv X pins σ H s) (u:Un (frs X.stack) ch H H' s.heap h') (hok:HOk X.prog X.w H' h') (hg:AllBare g')
    (hch:∀ b∈ch,(b∈X.ex\/X.s₀.heap.objs.size<=b)/\b≠X.env.locals/\(∀ x c,X.env.cells.lookup x=some c->c≠b)/\∀ p∈X.pn++pins,p.1≠b):
    Inv X pins σ H' { s with heap:=h',gens:=g',drawn:=d',toks:=t' }:=by
  obtain⟨m,⟨o,es,ep,ho,r⟩,_⟩:=id I.loc
  obtain⟨sl,hL⟩:=u.any ho I.free fun z=>(hch _ z).2.1 rfl
  exact I.step (ch:=ch) hch (fun b o hL hb hc e n=>u.keep b o e n (fun z=>(List.mem_cons.mp (I.stkSub b z)).elim hL hb) hc) (fun b o _ _ hc e n=>u.any e n hc) (fun b o hc e n=>u.free b o e n hc) (fun b o hc e=>u.there b o e hc) u.tups u.frzs u.tbls (fun m' hm=>by
    obtain⟨o',es',ep',ho',r'⟩:=hm
    rw [ho] at ho'; cases ho'
    exact⟨_,es',ep',hL,r'⟩) hok hg
theorem Inv.turned {t':Nat}{it:Addr} (I:Inv X pins σ H s) (k:∀ b o,b≠it->s.heap.get? b=some o->h'.get? b=some o) (hn:H it=none) (hL:it≠X.env.locals)
    (h1:it∈X.ex\/X.s₀.heap.objs.size<=it) (h2:∀ x c,X.env.cells.lookup x=some c->c≠it) (h3:∀ p∈X.pn++pins,p.1≠it):Inv X pins σ H { s with heap:=h',toks:=t' }:=by
  have nit:∀ b u,H b=some u->b≠it:=fun b u e z=>by rw [z,hn] at e; cases e
  refine I.step (g':=s.gens) (d':=s.drawn) (ch:=[it]) (fun b hb=>?_) (fun b o _ _ hc e _=>k b o (fun z=>hc (by simp [z])) e) (fun b o _ _ hc e _=>⟨o.slots,k b o (fun z=>hc (by simp [z])) e⟩) (fun _ _ _ _ n=>n)
    (fun b o hc e=>⟨o,k b o (fun z=>hc (by simp [z])) e⟩) (fun _ _ e=>e) (fun _ _ _ e=>e) (fun b ps e=>⟨#[],by rw [e]; simp⟩) (fun m hm=>?_) (fun b u e=>?_) I.bare
  · have e:b=it:=by simpa using hb
    subst e
    exact⟨h1,hL,h2,h3⟩
  · obtain⟨o,es,ep,ho,r⟩:=hm
    exact⟨o,es,ep,k _ o (Ne.symm hL) ho,r⟩
  · refine (I.hok b u e).stay (fun c v hc q=>k c v ?_ q) (fun _ q=>q) fun _ _ q=>q
    rcases hc with z | z
    · rw [z]; exact nit b u e
    · exact nit c _ z
theorem Inv.tok (I:Inv X pins σ H s) (t:Nat):Inv X pins σ H { s with toks:=t }:=I.un (h':=s.heap) (t':=t) Un.refl I.hok
theorem Inv.kept {t':Nat} (I:Inv X pins σ H s) (k:∀ b u,s.heap.get? b=some u->h'.get? b=some u):Inv X pins σ H { s with heap:=h',toks:=t' }:=I.un (Un.kept k) (I.hok.kept k)
theorem Inv.laid {a:Addr}{o:HO}{t':Nat} (I:Inv X pins σ H s) (k:∀ b u,s.heap.get? b=some u->h'.get? b=some u) (hp:s.heap.objs.size<=a) (new:ObjOk X.prog X.w (upd H a o) h' a o):
    Inv X pins σ (upd H a o) { s with heap:=h',toks:=t' }:=I.un (Un.laid k hp (I.hok.fresh hp)) (I.hok.laid k hp new)
theorem Inv.write {x e:Addr}{o:HO}{t':Nat} (I:Inv X pins σ H s) (mu:Mut (H x)) (he:e=x\/H e=some (.own x)) (k:∀ b u,b≠e->s.heap.get? b=some u->h'.get? b=some u) (heo:∃ u,h'.get? e=some u)
    (new:ObjOk X.prog X.w (upd H x o) h' x o):Inv X pins σ (upd H x o) { s with heap:=h',toks:=t' }:=I.un (Un.write mu he k heo) (I.hok.write mu he k heo new)
theorem Inv.pins_of {pins':List (Addr×Obj)} (I:Inv X pins σ H s) (h:∀ p∈pins',s.heap.get? p.1=some p.2/\H p.1=none/\p.1≠X.env.locals/\p.1∉X.fs/\∀ v,p.2.data≠.cell v):Inv X pins' σ H s:=
  ⟨I.ok,I.os,I.bare,I.base,I.loc,I.cell,I.free,I.freeC,fun p hp=>(List.mem_append.mp hp).elim (fun z=>I.pin p (List.mem_append_left _ z)) (h p),I.hok,I.len⟩
theorem nodup_ix {N:List Str} (hN:N.Nodup) {i j:Nat}{x:Str} (a:N[i]?=some x) (b:N[j]?=some x):i=j:=by
  obtain⟨h1,e1⟩:=List.getElem?_eq_some_iff.mp a
  obtain⟨h2,e2⟩:=List.getElem?_eq_some_iff.mp b
  exact (List.getElem_inj hN).mp (e1.trans e2.symm)
theorem store_ok2 {M:Model}{A:Around}{E:Value->Shared->Prop}{i:Nat}{x:Str}{v:V}{u:Value}{Q:Unit->Shared->Prop} (I:Inv X pins σ H s) (hN:X.N.Nodup) (hi:X.N[i]?=some x) (hx:Loc X.env.scope x) (r:RelV v u)
    (h:∀ s',Inv X pins (σ.set i (some v)) H s'->(∃ a,Heap.SameBut a s.heap s'.heap/\(a=X.env.locals\/X.env.cells.lookup x=some a))->Q () s') (hf:X.fn x=true\/X.env.scope.names.lookup x=some .local:=by first | exact .inl rfl | exact .inr rfl | assumption):wpAny M A (storeName X.env x u) Q E s:=by
  obtain⟨m,hn,hl⟩:=id I.loc
  have hcls:(X.env.scope.kind==.class||(X.env.scope.kind==.module&&X.env.locals != X.env.globals))=false:=by rw [I.ok.kind]; rfl
  have hiσ:i < σ.length:=by rw [I.len]; exact (List.getElem?_eq_some_iff.mp hi).1
  have cne:=I.cne
  have tracked:∀ {a:Addr}{h':Heap},(∃ o,s.heap.get? a=some o/\H a=none)->Heap.SameBut a s.heap h'->HOk X.prog X.w H h':=fun {a h'} ha hs b ob e=>by
    obtain⟨_,_,hfree⟩:=ha
    refine (I.hok b ob e).stay (fun c w' hc q=>(hs.2 c ?_).trans q) (fun _ q=>q) fun _ _ q=>q
    rintro rfl
    rcases hc with rfl | hc
    · rw [hfree] at e; cases e
    · rw [hfree] at hc; cases hc
  rcases hx with hk | hk
  · refine wpAny_storeName_local hk hn (fun h' hn' hs=>?_) hcls
    obtain⟨oL,_,_,hoL,_⟩:=id hn
    refine h _ ⟨I.ok,I.os,I.bare,⟨fun b o e n hb hx=>?_,fun b o e n hb hx=>?_,I.base.free,fun b o e hx=>?_,I.base.tups,I.base.frzs,I.base.tbls⟩,⟨_,hn',fun j y v' e1 e2 e3=>?_⟩,fun y c e=>?_,I.free,I.freeC,fun p hp=>?_,tracked ⟨oL,hoL,I.free⟩ hs,by simpa using I.len⟩ ⟨_,hs,.inl rfl⟩
    · exact (hs.2 b (Nat.ne_of_lt (Nat.lt_of_lt_of_le (Heap.lt_size e) I.ok.above))).trans (I.base.keep b o e n hb hx)
    · obtain⟨sl,e1⟩:=I.base.slot b o e n hb hx
      exact⟨sl,(hs.2 b (Nat.ne_of_lt (Nat.lt_of_lt_of_le (Heap.lt_size e) I.ok.above))).trans e1⟩
    · obtain⟨o',e1⟩:=I.base.there b o e hx
      exact⟨o',(hs.2 b (Nat.ne_of_lt (Nat.lt_of_lt_of_le (Heap.lt_size e) I.ok.above))).trans e1⟩
    · by_cases hj:j=i
      · subst hj
        rw [hi] at e1; cases e1
        rw [List.getElem?_set_self hiσ] at e2
        cases e2
        exact⟨u,r,.inl ⟨hk,by simp⟩⟩
      · rw [List.getElem?_set_ne (Ne.symm hj)] at e2
        obtain⟨u',r',q⟩:=hl j y v' e1 e2 e3
        refine⟨u',r',?_⟩
        rcases q with⟨k,e⟩ | ⟨k,c,e,z⟩
        · refine .inl ⟨k,?_⟩
          have:y≠x:=fun e=>hj (nodup_ix hN e1 (e▸hi))
          simp [this,e]
        · exact .inr ⟨k,c,e,z.sameBut hs (cne y c e)⟩
    · obtain⟨w',z⟩:=I.cell y c e
      exact⟨w',z.sameBut hs (cne y c e)⟩
    · obtain⟨e,n,ne,nf,d⟩:=I.pin p hp
      exact⟨(hs.2 p.1 ne).trans e,n,ne,nf,d⟩
  · have hfn:X.fn x=true:=by
      rcases hf with z | z
      · exact z
      · rw [z] at hk; cases hk
    obtain⟨c,hc⟩:=I.ok.has x (.inl hk)
    obtain⟨w',z⟩:=I.cell x c hc
    refine wpAny_storeName_cell I.ok.kind hk hc z (fun h' hc' hs=>?_)
    obtain⟨oc,hoc,hocd⟩:=id z
    refine h { s with heap:=h' } ⟨I.ok,I.os,I.bare,⟨fun b o e n hb hx=>?_,fun b o e n hb hx=>?_,I.base.free,fun b o e hx=>?_,I.base.tups,I.base.frzs,I.base.tbls⟩,⟨m,hn.sameBut hs (Ne.symm (cne x c hc)),fun j y v' e1 e2 e3=>?_⟩,fun y c' e=>?_,I.free,I.freeC,fun p hp=>?_,tracked ⟨oc,hoc,I.freeC x c hc⟩ hs,by simpa using I.len⟩ ⟨c,hs,.inr hc⟩
    · exact (hs.2 b (Nat.ne_of_lt (Nat.lt_of_lt_of_le (Heap.lt_size e) (I.ok.cab x c hfn hc)))).trans (I.base.keep b o e n hb hx)
    · obtain⟨sl,e1⟩:=I.base.slot b o e n hb hx
      exact⟨sl,(hs.2 b (Nat.ne_of_lt (Nat.lt_of_lt_of_le (Heap.lt_size e) (I.ok.cab x c hfn hc)))).trans e1⟩
    · obtain⟨o',e1⟩:=I.base.there b o e hx
      exact⟨o',(hs.2 b (Nat.ne_of_lt (Nat.lt_of_lt_of_le (Heap.lt_size e) (I.ok.cab x c hfn hc)))).trans e1⟩
    · by_cases hj:j=i
      · subst hj
        rw [hi] at e1; cases e1
        rw [List.getElem?_set_self hiσ] at e2
        cases e2
        exact⟨u,r,.inr ⟨.inl hk,c,hc,hc'⟩⟩
      · rw [List.getElem?_set_ne (Ne.symm hj)] at e2
        obtain⟨u',r',q⟩:=hl j y v' e1 e2 e3
        refine⟨u',r',?_⟩
        rcases q with q | ⟨k,c',e,z'⟩
        · exact .inl q
        · refine .inr ⟨k,c',e,z'.sameBut hs ?_⟩
          rintro rfl
          exact hj (nodup_ix hN e1 (I.ok.inj _ _ _ e hc▸hi))
    · by_cases hcc:c'=c
      · subst hcc; exact⟨_,hc'⟩
      · obtain⟨w2,z2⟩:=I.cell y c' e
        exact⟨w2,z2.sameBut hs hcc⟩
    · obtain⟨e,n,ne,nf,d⟩:=I.pin p hp
      refine⟨(hs.2 p.1 ?_).trans e,n,ne,nf,d⟩
      intro q
      rw [q,hoc] at e
      have q':oc=p.2:=Option.some.inj e
      exact d w' (by rw [<-q']; exact hocd)
theorem store_ok {M:Model}{A:Around}{E:Value->Shared->Prop}{i:Nat}{x:Str}{v:V}{u:Value}{Q:Unit->Shared->Prop} (I:Inv X pins σ H s) (hN:X.N.Nodup) (hi:X.N[i]?=some x) (hx:Loc X.env.scope x) (r:RelV v u)
    (h:∀ s',Inv X pins (σ.set i (some v)) H s'->Q () s') (hf:X.fn x=true\/X.env.scope.names.lookup x=some .local:=by first | exact .inl rfl | exact .inr rfl | assumption):wpAny M A (storeName X.env x u) Q E s:=
  store_ok2 I hN hi hx r (fun s' I' _=>h s' I') hf
theorem Inv.call' {s':Shared}{ch:List Addr} (I:Inv X pins σ H s) (ho:s'.os=s.os) (u:Un (frs X.stack) ch H H' s.heap s'.heap) (hok:HOk X.prog X.w H' s'.heap) (hg:AllBare s'.gens)
    (hch:∀ b∈ch,(b∈X.ex\/X.s₀.heap.objs.size<=b)/\b≠X.env.locals/\(∀ x c,X.env.cells.lookup x=some c->c≠b)/\∀ p∈X.pn++pins,p.1≠b):Inv X pins σ H' s':=by
  obtain⟨h',g',d',t',o'⟩:=s'
  have e:o'=s.os:=ho
  subst e
  exact I.call (g':=g') (t':=t') (d':=d') u hok hg hch
end
abbrev XK:=Value->Option Addr->Hp->Prop
abbrev St:=List (Option V)
abbrev VK:=V->Hp->Prop
abbrev TE:=St->Hp->VK->Prop
abbrev TT:=St->Hp->(Bool->Hp->Prop)->Prop
abbrev TA:=St->Hp->(List V->Hp->Prop)->Prop
structure Ends where
  nx:St->Hp->Prop
  rt:VK
  bk:St->Hp->Prop:=fun _ _=>False
  ct:St->Hp->Prop:=fun _ _=>False
abbrev TS:=Ends->St->Hp->Prop
def EP (X:Cx) (pins:List (Addr×Obj)) (σ:St) (Q:VK) (u:Value) (s':Shared):Prop:=∃ v H',Inv X pins σ H' s'/\RelV v u/\Q v H'
def TP (X:Cx) (pins:List (Addr×Obj)) (σ:St) (Q:Bool->Hp->Prop) (b:Bool) (s':Shared):Prop:=∃ H',Inv X pins σ H' s'/\Q b H'
def AP (X:Cx) (pins:List (Addr×Obj)) (σ:St) (Q:List V->Hp->Prop) (us:List Value) (s':Shared):Prop:=∃ vs H',Inv X pins σ H' s'/\Vals vs us/\Q vs H'
def SP (X:Cx) (pins:List (Addr×Obj)) (D:Ends) (f:Flow) (s':Shared):Prop:=
  match f with
  | .next=>∃ σ' H',Inv X pins σ' H' s'/\D.nx σ' H'
  | .brk=>∃ σ' H',Inv X pins σ' H' s'/\D.bk σ' H'
  | .cont=>∃ σ' H',Inv X pins σ' H' s'/\D.ct σ' H'
  | .ret u=>∃ v σ' H',Inv X pins σ' H' s'/\RelV v u/\D.rt v H'
def PE (X:Cx) (e:Expr) (t:TE):Prop:=
  ∀ (pins:List (Addr×Obj)) (s:Shared) (σ:St) (H:Hp) (Q:VK),Inv X pins σ H s->t σ H Q->wpAny (model X.prog X.w) X.A (eval e X.env) (EP X pins σ Q) X.xe s
def PT (X:Cx) (e:Expr) (t:TT):Prop:=
  ∀ (pins:List (Addr×Obj)) (s:Shared) (σ:St) (H:Hp) (Q:Bool->Hp->Prop),Inv X pins σ H s->t σ H Q->wpAny (model X.prog X.w) X.A (isTrue e X.env (eval e X.env)) (TP X pins σ Q) X.xe s
def PW (X:Cx) (e:Expr) (t:TT):Prop:=
  ∀ (whole:Sem Value) (pins:List (Addr×Obj)) (s:Shared) (σ:St) (H:Hp) (Q:Bool->Hp->Prop),Inv X pins σ H s->t σ H Q->wpAny (model X.prog X.w) X.A (isTrue e X.env whole) (TP X pins σ Q) X.xe s
theorem PW.pt {X:Cx}{e:Expr}{t:TT} (h:PW X e t):PT X e t:=h _
def PA (X:Cx) (es:List Expr) (t:TA):Prop:=
  ∀ (pos:Pos) (pins:List (Addr×Obj)) (s:Shared) (σ:St) (H:Hp) (Q:List V->Hp->Prop),Inv X pins σ H s->t σ H Q->wpAny (model X.prog X.w) X.A (spliced (backTo pos (starEach es X.env))) (AP X pins σ Q) X.xe s
def PS (X:Cx) (st:Stmt) (t:TS):Prop:=
  ∀ (pins:List (Addr×Obj)) (s:Shared) (σ:St) (H:Hp) (D:Ends),Inv X pins σ H s->t D σ H->wpAny (model X.prog X.w) X.A (exec st X.env) (SP X pins D) X.xe s
def PSs (X:Cx) (st:List Stmt) (t:TS):Prop:=
  ∀ (pins:List (Addr×Obj)) (s:Shared) (σ:St) (H:Hp) (D:Ends),Inv X pins σ H s->t D σ H->wpAny (model X.prog X.w) X.A (execs st X.env) (SP X pins D) X.xe s
theorem thn {α:Type}{t:Sem α}{Q Q':α->Shared->Prop}{M:Model}{A:Around}{E:Value->Shared->Prop}{s:Shared} (h:wpAny M A t Q E s) (hQ:∀ a s,Q a s->Q' a s):wpAny M A t Q' E s:=wpAny_mono h hQ fun _ _ x=>x
end L2
namespace L2
open PySem PySem.Spec PyProof.Rows
section
variable {X:Cx}
theorem bin {a b:Expr}{ta tb:TE} (ha:PE X a ta) (hb:PE X b tb) {pins:List (Addr×Obj)}{s:Shared}{σ:St}{H:Hp}{R:V->V->Hp->Prop} (I:Inv X pins σ H s) (h:ta σ H fun x H1=>tb σ H1 fun y H2=>R x y H2)
    {α:Type}{Q:α->Shared->Prop}{f:Value->Value->Sem α}
    (hf:∀ v u s2 x y H2,Inv X pins σ H2 s2->RelV x v->RelV y u->R x y H2->wpAny (model X.prog X.w) X.A (f v u) Q X.xe s2):
    wpAny (model X.prog X.w) X.A (eval a X.env) (fun v s₁=>wpAny (model X.prog X.w) X.A (eval b X.env) (fun u s₂=>wpAny (model X.prog X.w) X.A (f v u) Q X.xe s₂) X.xe s₁) X.xe s:=by
  refine thn (ha pins s σ H _ I h) fun v s1 ⟨x,H1,I1,r1,q1⟩=>?_
  refine thn (hb pins s1 σ H1 _ I1 q1) fun u s2 ⟨y,H2,I2,r2,q2⟩=>?_
  exact hf v u s2 x y H2 I2 r1 r2 q2
def tVar (i:Nat):TE:=fun σ H Q=>∃ v,σ[i]?=some (some v)/\Q v H
def tC (v:V):TE:=fun _ H Q=>Q v H
theorem pe_var {i:Nat}{x:Str}{pos:Pos} (hN:X.N[i]?=some x) (hv:Vis X.env.scope x) (hd:(x==("__debug__":Str))=false:=by decide) (hcd:(x==("__classdict__":Str))=false:=by decide):PE X (.Name x pos) (tVar i):=by
  intro pins s σ H Q I h
  obtain⟨v,e,h⟩:=h
  obtain⟨m,hn,hl⟩:=I.loc
  obtain⟨u,r,l⟩:=hl i x v hN e hv
  have fin:EP X pins σ Q u s:=⟨v,H,I,r,h⟩
  rcases l with⟨hk,hm⟩ | ⟨hk,c,hc,hcell⟩
  · exact wpAny_Name (wpAny_loadName_local I.ok.kind hk hn hm fin) hd
  · rcases hk with hk | hk
    · exact wpAny_Name (wpAny_loadName_cell I.ok.kind hk hc hcell fin) hd
    · exact wpAny_Name (wpAny_loadName_free I.ok.kind hk hc hcell fin hcd) hd
theorem pe_int {i j pos}:PE X (.Constant (.int i) j pos) (tC (.int i)):=fun _ _ _ H _ I h=>wpAny_Constant_int ⟨.int i,H,I.tok _,⟨_,rfl⟩,h⟩
theorem pe_bl {b j pos}:PE X (.Constant (.bool b) j pos) (tC (.bl b)):=fun _ _ _ H _ I h=>Constant_bool ⟨.bl b,H,I,rfl,h⟩
theorem pe_non {j pos}:PE X (.Constant .none j pos) (tC .non):=fun _ _ _ H _ I h=>Constant_none ⟨.non,H,I,rfl,h⟩
theorem pe_str {x j pos}:PE X (.Constant (.str x) j pos) (tC (.str x)):=fun _ _ _ H _ I h=>Calls.Constant_str ⟨.str x,H,I.tok _,⟨_,rfl⟩,h⟩
def Gl (X:Cx) (x:Str):Prop:=X.env.kindOf x=some .globalImplicit
theorem ld_glob {E:Value->Shared->Prop}{pins:List (Addr×Obj)}{s:Shared}{σ:St}{H:Hp}{x:Str}{u:Value}{pos:Pos}{Q:Value->Shared->Prop} (I:Inv X pins σ H s) (hg:Gl X x) (hm:X.mg x=some u) (h:Q u s)
    (hd:(x==("__debug__":Str))=false:=by decide):wpAny (model X.prog X.w) X.A (eval (.Name x pos) X.env) Q E s:=
  Calls.Name_function_global I.ok.kind hg (Calls.loadGlobal_global (by rw [I.ok.glob]; exact I.mod.glob.keeps I.bk) hm h) hd
theorem ld_blt {E:Value->Shared->Prop}{pins:List (Addr×Obj)}{s:Shared}{σ:St}{H:Hp}{x:Str}{u:Value}{pos:Pos}{Q:Value->Shared->Prop} (I:Inv X pins σ H s) (hg:Gl X x) (hm:X.mg x=none) (hv:bootBuiltins x=some u) (h:Q u s)
    (hn:x≠"__name__":=by decide) (hd:(x==("__debug__":Str))=false:=by decide):wpAny (model X.prog X.w) X.A (eval (.Name x pos) X.env) Q E s:=by
  obtain⟨mb,h1,h2⟩:=I.mod.blt
  exact Calls.Name_function_global I.ok.kind hg (Calls.loadGlobal_builtin (by rw [I.ok.glob]; exact I.mod.glob.keeps I.bk) hm (by rw [I.ok.blt]; exact h1.keeps I.bk) ((h2 x hn).trans hv) h) hd
theorem pe_glob {x:Str}{v:V}{u:Value}{pos:Pos} (hg:Gl X x) (hm:X.mg x=some u) (r:RelV v u) (hd:(x==("__debug__":Str))=false:=by decide):PE X (.Name x pos) (tC v):=
  fun _ _ _ H _ I h=>ld_glob I hg hm ⟨v,H,I,r,h⟩ hd
theorem pe_bltn {x:Str}{v:V}{u:Value}{pos:Pos} (hg:Gl X x) (hm:X.mg x=none) (hv:bootBuiltins x=some u) (r:RelV v u) (hn:x≠"__name__":=by decide) (hd:(x==("__debug__":Str))=false:=by decide):PE X (.Name x pos) (tC v):=
  fun _ _ _ H _ I h=>ld_blt I hg hm hv ⟨v,H,I,r,h⟩ hn hd
def t2I (ta tb:TE) (k:Int->Int->Hp->Prop):St->Hp->Prop:=fun σ H=>ta σ H fun x H1=>tb σ H1 fun y H2=>∃ i j,x=.int i/\y=.int j/\k i j H2
def tAdd (ta tb:TE):TE:=fun σ H Q=>t2I ta tb (fun i j H2=>Q (.int (i+j)) H2) σ H
def tSub (ta tb:TE):TE:=fun σ H Q=>t2I ta tb (fun i j H2=>Q (.int (i - j)) H2) σ H
def tMul (ta tb:TE):TE:=fun σ H Q=>t2I ta tb (fun i j H2=>(-(2 ^ 64) < i/\i < 2 ^ 64)/\Q (.int (i*j)) H2) σ H
variable {a b:Expr}{ta tb:TE}{pos:Pos}
def PC (X:Cx) (op:CmpOp) (a b:Expr) (t:TE):Prop:=
  ∀ (pins:List (Addr×Obj)) (s:Shared) (σ:St) (H:Hp) (Q:VK),Inv X pins σ H s->t σ H Q->
    wpAny (model X.prog X.w) X.A (eval a X.env) (fun v s₁=>wpAny (model X.prog X.w) X.A (eval b X.env) (fun u s₂=>wpAny (model X.prog X.w) X.A (compareOp op v u) (EP X pins σ Q) X.xe s₂) X.xe s₁) X.xe s
def tCmp (p:Int->Int->Bool) (ta tb:TE):TE:=fun σ H Q=>t2I ta tb (fun i j H2=>Q (.bl (p i j)) H2) σ H
abbrev tLt:TE->TE->TE:=tCmp fun i j=>decide (i < j)
abbrev tLe:TE->TE->TE:=tCmp fun i j=>decide (i<=j)
abbrev tGt:TE->TE->TE:=tCmp fun i j=>decide (j < i)
abbrev tGe:TE->TE->TE:=tCmp fun i j=>decide (j<=i)
abbrev tEqI:TE->TE->TE:=tCmp fun i j=>decide (i=j)
abbrev tNeI:TE->TE->TE:=tCmp fun i j=>!decide (i=j)
def tIsN (ta:TE):TE:=fun σ H Q=>ta σ H fun x H1=>Q (.bl (decide (x=.non))) H1
def tNotN (ta:TE):TE:=fun σ H Q=>ta σ H fun x H1=>Q (.bl (!decide (x=.non))) H1
def tB (t:TE):TT:=fun σ H Q=>t σ H fun x H1=>∃ c,x=.bl c/\Q c H1
theorem pt_cmp {op:CmpOp}{t:TE} (h:PC X op a b t) (h1:behindInMarks op b=false:=by first | exact nobehind _ (by decide) (by decide) | rfl):PT X (.Compare a [op] [b] pos) (tB t):=by
  intro pins s σ H Q I hw
  refine wpAny_isTrue_Compare1 (thn (h pins s σ H _ I hw) fun v s1 h1=>thn h1 fun u s2 h2=>thn h2 fun c s3 ⟨x,H1,I1,r1,q1⟩=>?_) h1
  obtain⟨d,rfl,q⟩:=q1
  cases r1
  exact wpAny_truthy_bool ⟨H1,I1,q⟩
theorem pt_val {e:Expr}{t:TE} (h:PE X e t) (he:∀ whole,isTrue e X.env whole=(do let v <-whole; standAt e.pos; holding [v] (truthy v)):=by intro _; rfl):PT X e (tB t):=by
  intro pins s σ H Q I hw
  refine isTrue_plain (thn (h pins s σ H _ I hw) fun v s1 ⟨x,H1,I1,r1,q1⟩=>?_) (he _)
  obtain⟨d,rfl,q⟩:=q1
  cases r1
  exact wpAny_truthy_bool ⟨H1,I1,q⟩
variable {tA tB':TT}{rest:List Expr}
def tAnd (t u:TT):TT:=fun σ H Q=>t σ H fun c H1=>if c=true then u σ H1 Q else Q false H1
def tOr (t u:TT):TT:=fun σ H Q=>t σ H fun c H1=>if c=true then Q true H1 else u σ H1 Q
def tNot (t:TT):TT:=fun σ H Q=>t σ H fun c H1=>Q (!c) H1
theorem pw_and1 (ha:PT X a tA):PW X (.BoolOp .And [a] pos) tA:=by
  intro wh pins s σ H Q I h
  refine isTrue_and (thn (ha pins s σ H Q I h) fun c s1 e=>?_)
  cases c with
  | true=>exact isTrue_and_nil e
  | false=>exact e
theorem pw_or1 (ha:PT X a tA):PW X (.BoolOp .Or [a] pos) tA:=by
  intro wh pins s σ H Q I h
  refine isTrue_or (thn (ha pins s σ H Q I h) fun c s1 e=>?_)
  cases c with
  | false=>exact isTrue_or_nil e
  | true=>exact e
theorem pw_and (ha:PT X a tA) (hb:PW X (.BoolOp .And (b::rest) pos) tB'):PW X (.BoolOp .And (a::b::rest) pos) (tAnd tA tB'):=by
  intro wh pins s σ H Q I h
  refine isTrue_and (thn (ha pins s σ H _ I h) fun c s1 ⟨H1,I1,q1⟩=>?_)
  cases c with
  | true=>exact hb wh pins s1 σ H1 Q I1 q1
  | false=>exact⟨H1,I1,q1⟩
theorem pw_or (ha:PT X a tA) (hb:PW X (.BoolOp .Or (b::rest) pos) tB'):PW X (.BoolOp .Or (a::b::rest) pos) (tOr tA tB'):=by
  intro wh pins s σ H Q I h
  refine isTrue_or (thn (ha pins s σ H _ I h) fun c s1 ⟨H1,I1,q1⟩=>?_)
  cases c with
  | true=>exact⟨H1,I1,q1⟩
  | false=>exact hb wh pins s1 σ H1 Q I1 q1
theorem pt_not (ha:PT X a tA):PT X (.UnaryOp .Not a pos) (tNot tA):=by
  intro pins s σ H Q I h
  exact isTrue_not (ha pins s σ H (fun c H1=>Q (!c) H1) I h)
def tAndV (ta tb:TE):TE:=fun σ H Q=>ta σ H fun x H1=>∃ c,x=.bl c/\if c=true then tb σ H1 Q else Q (.bl false) H1
def tOrV (ta tb:TE):TE:=fun σ H Q=>ta σ H fun x H1=>∃ c,x=.bl c/\if c=true then Q (.bl true) H1 else tb σ H1 Q
def tNotV (ta:TE):TE:=fun σ H Q=>ta σ H fun x H1=>∃ c,x=.bl c/\Q (.bl (!c)) H1
theorem pe_one {op}{t:TE} (h:PE X a t):PE X (.BoolOp op [a] pos) t:=fun pins s σ H Q I hw=>BoolOp_one (h pins s σ H Q I hw)
theorem pe_and (ha:PE X a ta) (hb:PE X (.BoolOp .And (b::rest) pos) tb):PE X (.BoolOp .And (a::b::rest) pos) (tAndV ta tb):=by
  intro pins s σ H Q I h
  refine BoolOp_and (thn (ha pins s σ H _ I h) fun v s1 ⟨x,H1,I1,r1,q1⟩=>?_)
  obtain⟨c,rfl,q1⟩:=q1
  cases r1
  refine wpAny_truthy_bool ?_
  cases c with
  | true=>exact hb pins s1 σ H1 Q I1 q1
  | false=>exact⟨.bl false,H1,I1,rfl,q1⟩
theorem pe_or (ha:PE X a ta) (hb:PE X (.BoolOp .Or (b::rest) pos) tb):PE X (.BoolOp .Or (a::b::rest) pos) (tOrV ta tb):=by
  intro pins s σ H Q I h
  refine BoolOp_or (thn (ha pins s σ H _ I h) fun v s1 ⟨x,H1,I1,r1,q1⟩=>?_)
  obtain⟨c,rfl,q1⟩:=q1
  cases r1
  refine wpAny_truthy_bool ?_
  cases c with
  | false=>exact hb pins s1 σ H1 Q I1 q1
  | true=>exact⟨.bl true,H1,I1,rfl,q1⟩
theorem pe_not (ha:PE X a ta):PE X (.UnaryOp .Not a pos) (tNotV ta):=by
  intro pins s σ H Q I h
  refine UnaryOp_ (thn (ha pins s σ H _ I h) fun v s1 ⟨x,H1,I1,r1,q1⟩=>?_)
  obtain⟨c,rfl,q1⟩:=q1
  cases r1
  exact not_of (wpAny_truthy_bool ⟨.bl (!c),H1,I1,rfl,q1⟩)
def tIf (t:TT) (ta tb:TE):TE:=fun σ H Q=>t σ H fun c H1=>if c=true then ta σ H1 Q else tb σ H1 Q
end
end L2
namespace L2
open PySem PySem.Spec PyProof.Rows
def SqL (K:PySem.W.Frag) (H:Hp) (a:Addr) (xs:List V):Prop:=
  Rd H a (.lst xs)\/
    ∃ (o:Obj) (its:Array Value) (n:Nat),K.lookup a=some o/\o.cls=.type "list"/\o.dict=none/\o.data=.seq its n/\its.size<=sizeLine/\Vals xs its.toList
def SqT (K:PySem.W.Frag) (H:Hp) (a:Addr) (xs:List V):Prop:=
  Rd H a (.tup xs)\/
    ∃ (o:Obj) (its:Array Value) (n:Nat),K.lookup a=some o/\o.cls=.type "tuple"/\o.data=.seq its n/\its.size<=sizeLine/\Vals xs its.toList
def absV:Value->Option V
  | .none=>some .non
  | .bool b=>some (.bl b)
  | .int i _=>some (.int i)
  | .str x _=>some (.str x)
  | .bytes b _=>some (.byt b)
  | .float b _=>some (.flt b)
  | .ref a=>some (.ref a)
  | .type n=>some (.ty n)
  | _=>none
theorem RelV.abs {x:V}{u:Value} (r:RelV x u):absV u=some x:=by
  cases x with
  | non=>cases r; rfl
  | bl _=>cases r; rfl
  | int _=>obtain⟨t,rfl⟩:=r; rfl
  | str _=>obtain⟨t,rfl⟩:=r; rfl
  | byt _=>obtain⟨t,rfl⟩:=r; rfl
  | flt _=>obtain⟨t,rfl⟩:=r; rfl
  | ref _=>cases r; rfl
  | ty _=>cases r; rfl
theorem RelV.inj {x y:V}{u:Value} (r:RelV x u) (q:RelV y u):x=y:=Option.some.inj (r.abs.symm.trans q.abs)
theorem Vals.inj:∀ {xs ys:List V}{us:List Value},Vals xs us->Vals ys us->xs=ys
  | _,_,_,.nil,.nil=>rfl
  | _,_,_,.cons r t,.cons r' t'=>by rw [r.inj r',Vals.inj t t']
section
variable {X:Cx}{pins:List (Addr×Obj)}{σ:St}{H:Hp}{s:Shared}{a:Addr}{xs ys:List V}
theorem SqL.of {K:PySem.W.Frag} (h:H a=some (.lst xs)):SqL K H a xs:=.inl (.inl h)
theorem SqT.of {K:PySem.W.Frag} (h:H a=some (.tup xs)):SqT K H a xs:=.inl (.inl h)
theorem Inv.list (I:Inv X pins σ H s) (h:SqL X.K H a xs):∃ its:List Value,Vals xs its/\PlainL s.heap a its.toArray/\xs.length<=sizeLine:=by
  rcases h with h | ⟨o,its,n,hk,hc,hd,hs,hz,r⟩
  · obtain⟨z,its,n,r,e⟩:=h.ok I.hok
    exact⟨its,r,⟨_,n,e,rfl,rfl,rfl⟩,z⟩
  · refine⟨its.toList,r,⟨o,n,I.kIn a o hk,hc,hd,by simpa using hs⟩,?_⟩
    have e:=r.length
    simp only [Array.length_toList] at e
    omega
theorem Inv.tuple (I:Inv X pins σ H s) (h:SqT X.K H a xs):∃ its:List Value,Vals xs its/\IsTup s.heap a its.toArray/\xs.length<=sizeLine:=by
  rcases h with h | ⟨o,its,n,hk,hc,hs,hz,r⟩
  · obtain⟨z,its,r,p⟩:=h.ok I.hok
    exact⟨its,r,p,z⟩
  · refine⟨its.toList,r,⟨o,I.kIn a o hk,hc,n,by simpa using hs⟩,?_⟩
    have e:=r.length
    simp only [Array.length_toList] at e
    omega
theorem Inv.list_inj (I:Inv X pins σ H s) (h:SqL X.K H a xs) (h':SqL X.K H a ys):xs=ys:=by
  obtain⟨its,r,⟨o,n,e,_,_,d⟩,_⟩:=I.list h
  obtain⟨its',r',⟨o',n',e',_,_,d'⟩,_⟩:=I.list h'
  rw [e] at e'; cases e'
  rw [d] at d'
  injection d' with d1 _
  have:its=its':=by simpa using congrArg Array.toList d1
  subst this
  exact r.inj r'
theorem Inv.tuple_inj (I:Inv X pins σ H s) (h:SqT X.K H a xs) (h':SqT X.K H a ys):xs=ys:=by
  obtain⟨its,r,⟨o,e,_,n,d⟩,_⟩:=I.tuple h
  obtain⟨its',r',⟨o',e',_,n',d'⟩,_⟩:=I.tuple h'
  rw [e] at e'; cases e'
  rw [d] at d'
  injection d' with d1 _
  have:its=its':=by simpa using congrArg Array.toList d1
  subst this
  exact r.inj r'
end
abbrev Cx.wish (X:Cx) (E:Value->Shared->Prop):Cx:={ X with xe:=E }
abbrev Cx.nox (X:Cx):Cx:=X.wish fun _ _=>False
theorem Cx.Ok.wish {X:Cx} (ok:X.Ok) (E:Value->Shared->Prop):(X.wish E).Ok:=
  ⟨ok.mod,ok.kind,ok.glob,ok.blt,ok.above,ok.inj,ok.has,ok.cab,ok.hd,ok.frames,ok.stk,ok.exf,ok.bs,ok.bsz,ok.noex,ok.exfs,ok.funs,ok.frf⟩
theorem Cx.Ok.unwish {X:Cx}{E:Value->Shared->Prop} (ok:(X.wish E).Ok):X.Ok:=
  ⟨ok.mod,ok.kind,ok.glob,ok.blt,ok.above,ok.inj,ok.has,ok.cab,ok.hd,ok.frames,ok.stk,ok.exf,ok.bs,ok.bsz,ok.noex,ok.exfs,ok.funs,ok.frf⟩
section
variable {X:Cx}{pins:List (Addr×Obj)}{σ:St}{H:Hp}{s:Shared}{E:Value->Shared->Prop}
theorem Inv.wish (I:Inv X pins σ H s) (E:Value->Shared->Prop):Inv (X.wish E) pins σ H s:=⟨I.ok.wish E,I.os,I.bare,I.base,I.loc,I.cell,I.free,I.freeC,I.pin,I.hok,I.len⟩
theorem Inv.unwish (I:Inv (X.wish E) pins σ H s):Inv X pins σ H s:=⟨I.ok.unwish,I.os,I.bare,I.base,I.loc,I.cell,I.free,I.freeC,I.pin,I.hok,I.len⟩
theorem SP.unwish {D:Ends}{f:Flow}{s':Shared} (h:SP (X.wish E) pins D f s'):SP X pins D f s':=by
  cases f with
  | next=>obtain⟨σ',H',I,q⟩:=h; exact⟨σ',H',I.unwish,q⟩
  | brk=>obtain⟨σ',H',I,q⟩:=h; exact⟨σ',H',I.unwish,q⟩
  | cont=>obtain⟨σ',H',I,q⟩:=h; exact⟨σ',H',I.unwish,q⟩
  | ret u=>obtain⟨v,σ',H',I,r,q⟩:=h; exact⟨v,σ',H',I.unwish,r,q⟩
theorem PSs.nox {st:List Stmt}{t:TS} (h:PSs X.nox st t):PSs X st t:=fun pins s σ H D I hw=>
  wpAny_mono (h pins s σ H D (I.wish _) hw) (fun _ _ q=>q.unwish) fun _ _ z=>False.elim z
end
section
variable {X:Cx}{st:Stmt}{rest:List Stmt}{t u:TS}{e:Expr}{te:TE}{pos:Pos}
def tNext:TS:=fun D σ H=>D.nx σ H
def tSeq (t u:TS):TS:=fun D σ H=>t { D with nx:=u D } σ H
theorem pss_nil:PSs X [] tNext:=fun _ _ σ H _ I h=>wpAny_execs_nil ⟨σ,H,I,h⟩
theorem pss_cons (h1:PS X st t) (h2:PSs X rest u):PSs X (st::rest) (tSeq t u):=by
  intro pins s σ H D I h
  refine wpAny_execs_cons (thn (h1 pins s σ H { D with nx:=u D } I h) fun f s1 q=>?_)
  cases f with
  | next=>
    obtain⟨σ',H',I',q⟩:=q
    exact h2 pins s1 σ' H' D I' q
  | ret v=>exact q
  | brk=>exact q
  | cont=>exact q
theorem pss_one (h1:PS X st t):PSs X [st] t:=by
  intro pins s σ H D I h
  refine wpAny_execs_cons (thn (h1 pins s σ H D I h) fun f s1 q=>?_)
  cases f with
  | next=>exact wpAny_execs_nil q
  | ret v=>exact q
  | brk=>exact q
  | cont=>exact q
def tBreak:TS:=fun D σ H=>D.bk σ H
def tCont:TS:=fun D σ H=>D.ct σ H
theorem Inv.quiet {pins:List (Addr×Obj)}{σ:St}{H:Hp}{s:Shared} (I:Inv X pins σ H s):interactive X.env=false:=by simp [interactive,I.ok.kind]
def tDrop (te:TE):TS:=fun D σ H=>te σ H fun _ H1=>D.nx σ H1
theorem ps_expr (he:PE X e te) (hs:swapsWith e none pos.line X.env=pure false:=by rfl):PS X (.Expr e pos) (tDrop te):=by
  intro pins s σ H D I h
  exact wpAny_Expr_any (thn (he pins s σ H _ I h) fun v s1 ⟨x,H1,I1,r1,q1⟩=>⟨σ,H1,I1,q1⟩) I.quiet hs
def tRet (te:TE):TS:=fun D σ H=>te σ H D.rt
theorem ps_ret (he:PE X e te):PS X (.Return (some e) pos) (tRet te):=by
  intro pins s σ H D I h
  exact wpAny_Return_some (thn (he pins s σ H _ I h) fun v s1 ⟨x,H1,I1,r1,q1⟩=>⟨x,σ,H1,I1,r1,q1⟩)
def tRetN:TS:=fun D _ H=>D.rt .non H
def tIfS (c:TT) (t u:TS):TS:=fun D σ H=>c σ H fun b H1=>if b=true then t D σ H1 else u D σ H1
theorem ps_if {c:Expr}{a b:List Stmt}{tc:TT} (hc:PT X c tc) (ha:PSs X a t) (hb:PSs X b u):PS X (.If c a b pos) (tIfS tc t u):=by
  intro pins s σ H D I h
  refine wpAny_If (thn (hc pins s σ H _ I h) fun d s1 ⟨H1,I1,q1⟩=>?_)
  cases d with
  | true=>exact ha pins s1 σ H1 D I1 q1
  | false=>exact hb pins s1 σ H1 D I1 q1
def tNever:TS:=fun _ _ _=>False
end
abbrev TG:=V->St->Hp->(St->Hp->Prop)->Prop
abbrev TGs:=List V->St->Hp->(St->Hp->Prop)->Prop
def PG (X:Cx) (target:Expr) (t:TG):Prop:=
  ∀ (pins:List (Addr×Obj)) (s:Shared) (σ:St) (H:Hp) (v:V) (u:Value) (Q:St->Hp->Prop),Inv X pins σ H s->RelV v u->t v σ H Q->
    wpAny (model X.prog X.w) X.A (assign target X.env u) (fun _ s'=>∃ σ' H',Inv X pins σ' H' s'/\Q σ' H') X.xe s
def PGs (X:Cx) (ts:List Expr) (t:TGs):Prop:=
  ∀ (pins:List (Addr×Obj)) (s:Shared) (σ:St) (H:Hp) (vs:List V) (us:List Value) (Q:St->Hp->Prop),Inv X pins σ H s->Vals vs us->t vs σ H Q->
    wpAny (model X.prog X.w) X.A (assignInOrder ((assignEach ts X.env).map (·.2)) us) (fun _ s'=>∃ σ' H',Inv X pins σ' H' s'/\Q σ' H') X.xe s
abbrev TSet:=V->V->V->Hp->(Hp->Prop)->Prop
def PSet (X:Cx) (t:TSet):Prop:=
  ∀ (pins:List (Addr×Obj)) (s:Shared) (σ:St) (H:Hp) (o i v:V) (ov iv u:Value) (Q:Hp->Prop),Inv X pins σ H s->RelV o ov->RelV i iv->RelV v u->t o i v H Q->
    wpAny (model X.prog X.w) X.A (setItem ov iv u) (fun _ s'=>∃ H',Inv X pins σ H' s'/\Q H') X.xe s
abbrev TIp:=V->V->Hp->VK->Prop
def PIp (X:Cx) (op:Operator) (t:TIp):Prop:=
  ∀ (pins:List (Addr×Obj)) (s:Shared) (σ:St) (H:Hp) (x y:V) (v u:Value) (Q:VK),Inv X pins σ H s->RelV x v->RelV y u->t x y H Q->
    wpAny (model X.prog X.w) X.A (inplaceOp op v u) (EP X pins σ Q) X.xe s
section
variable {X:Cx}{pos:Pos}
def gName (i:Nat):TG:=fun v σ H Q=>Q (σ.set i (some v)) H
theorem pg_name {i:Nat}{x:Str} (hN:X.N.Nodup) (hi:X.N[i]?=some x) (hx:Loc X.env.scope x) (hf:X.fn x=true\/X.env.scope.names.lookup x=some .local:=by first | exact .inl rfl | exact .inr rfl | assumption):PG X (.Name x pos) (gName i):=by
  intro pins s σ H v u Q I r h
  exact wpAny_assign_Name (store_ok I hN hi hx r (fun s' I'=>⟨_,H,I',h⟩) hf)
def gNil:TGs:=fun vs σ H Q=>vs=[]/\Q σ H
def gCons (t:TG) (u:TGs):TGs:=fun vs σ H Q=>∃ v r,vs=v::r/\t v σ H fun σ' H'=>u r σ' H' Q
theorem pgs_nil:PGs X [] gNil:=by
  intro pins s σ H vs us Q I r h
  obtain⟨e,h⟩:=h
  subst e
  cases r
  exact assignInOrder_nil ⟨σ,H,I,h⟩
theorem pgs_cons {e:Expr}{es:List Expr}{t:TG}{u:TGs} (h1:PG X e t) (h2:PGs X es u)
    (hs:(assignEach (e::es) X.env).map (·.2)=assign e X.env::(assignEach es X.env).map (·.2):=by rfl):PGs X (e::es) (gCons t u):=by
  intro pins s σ H vs us Q I r h
  obtain⟨v,vr,e1,h⟩:=h
  subst e1
  cases r with
  | cons r rr=>
    rw [hs]
    refine assignInOrder_cons (thn (h1 pins s σ H _ _ _ I r h) fun _ s1 ⟨σ1,H1,I1,q1⟩=>?_)
    exact h2 pins s1 σ1 H1 _ _ Q I1 rr q1
def gTup (K:PySem.W.Frag) (n:Nat) (t:TGs):TG:=fun v σ H Q=>∃ a xs,v=.ref a/\SqT K H a xs/\xs.length=n/\t xs σ H Q
theorem pg_tup {es:List Expr}{k:Nat}{t:TGs}{n:Nat} (hc:X.calm=true) (h:PGs X es t)
    (hn:(assignEach es X.env).length=n:=by rfl) (hst:(assignEach es X.env).findIdx? (·.1)=none:=by rfl):PG X (.Tuple es k pos) (gTup X.K n t):=by
  intro pins s σ H v u Q I r hw
  obtain⟨a,xs,e1,hq,hl,hw⟩:=hw
  subst e1
  cases r
  obtain⟨its,rv,ht,hz⟩:=I.tuple hq
  refine assign_Tuple_tuple (I.ok.hd hc) ht (by simp [hn,<-hl,rv.length]) hst fun h' hx=>?_
  have I1:Inv X pins σ H { s with heap:=h' }:=I.kept (t':=s.toks) fun b o e=>hx b o (Nat.ne_of_lt (Heap.lt_size e)) e
  exact h pins _ σ H xs _ Q I1 (by simpa using rv) hw
def gSub (to ti:TE) (t:TSet):TG:=fun v σ H Q=>to σ H fun o H1=>ti σ H1 fun i H2=>t o i v H2 fun H3=>Q σ H3
theorem pg_sub {o i:Expr}{to ti:TE}{t:TSet} (ho:PE X o to) (hi:PE X i ti) (hs:PSet X t)
    (ha:∀ v,assign (.Subscript o i pos) X.env v=(do
      let ov <-holding [v] (eval o X.env)
      let iv <-holding [v,ov] (eval i X.env)
      standAt pos
      holding [v,ov,iv] (setItem ov iv v)
      release [v,ov,iv] []):=by intro _; rfl):PG X (.Subscript o i pos) (gSub to ti t):=by
  intro pins s σ H v u Q I r h
  rw [ha]
  refine wpAny_bind (wpAny_holding (thn (ho pins s σ H _ I h) fun ov s1 ⟨x,H1,I1,r1,q1⟩=>?_))
  refine wpAny_bind (wpAny_holding (thn (hi pins s1 σ H1 _ I1 q1) fun iv s2 ⟨y,H2,I2,r2,q2⟩=>?_))
  refine wpAny_bind (wpAny_standAt (wpAny_bind (wpAny_holding (thn (hs pins s2 σ H2 x y v ov iv u _ I2 r1 r2 r q2) fun _ s3 ⟨H3,I3,q3⟩=>?_))))
  exact wpAny_release ⟨σ,H3,I3,q3⟩
def tAsg (te:TE) (g:TG):TS:=fun D σ H=>te σ H fun x H1=>g x σ H1 D.nx
theorem ps_asg {tg e:Expr}{te:TE}{g:TG} (he:PE X e te) (hg:PG X tg g) (hs:swapsWithSole [tg] e pos.line X.env=pure false:=by rfl) (hw:swappedStores [tg] e X.env=pure none:=by rfl)
    (h1:(assignEach [tg] X.env).map (·.2)=[assign tg X.env]:=by rfl):PS X (.Assign [tg] e pos) (tAsg te g):=by
  intro pins s σ H D I h
  refine wpAny_Assign_stores (thn (he pins s σ H _ I h) fun v s1 ⟨x,H1,I1,r1,q1⟩=>?_) hs hw
  rw [h1]
  exact thn (hg pins s1 σ H1 x v _ I1 r1 q1) fun _ s2 q=>q
theorem ps_set {i:Nat}{x:Str}{e:Expr}{te:TE}{pos':Pos} (hN:X.N.Nodup) (hi:X.N[i]?=some x) (hx:Loc X.env.scope x) (he:PE X e te) (hs:swapsWith e (some (.Name x pos')) pos.line X.env=pure false:=by rfl) (hf:X.fn x=true\/X.env.scope.names.lookup x=some .local:=by first | exact .inl rfl | exact .inr rfl | assumption):
    PS X (.Assign [.Name x pos'] e pos) (tAsg te (gName i)):=by
  intro pins s σ H D I h
  refine wpAny_Assign_Name (thn (he pins s σ H _ I h) fun v s1 ⟨y,H1,I1,r1,q1⟩=>?_) hs
  exact store_ok I1 hN hi hx r1 (fun s2 I2=>⟨_,H1,I2,q1⟩) hf
def tPar (i j:Nat) (ta:TA):TS:=fun D σ H=>ta σ H fun vs H1=>∃ v w,vs=[v,w]/\D.nx ((σ.set i (some v)).set j (some w)) H1
def tAug (i:Nat) (te:TE) (ti:TIp):TS:=fun D σ H=>∃ x,σ[i]?=some (some x)/\te σ H fun y H1=>ti x y H1 fun z H2=>D.nx (σ.set i (some z)) H2
def tAugS (to ti te:TE) (tget:V->V->Hp->VK->Prop) (tip:TIp) (tset:TSet):TS:=fun D σ H=>to σ H fun o H1=>ti σ H1 fun i H2=>tget o i H2 fun x H3=>te σ H3 fun y H4=>tip x y H4 fun z H5=>tset o i z H5 fun H6=>D.nx σ H6
def PGet (X:Cx) (t:V->V->Hp->VK->Prop):Prop:=
  ∀ (pins:List (Addr×Obj)) (s:Shared) (σ:St) (H:Hp) (o i:V) (ov iv:Value) (Q:VK),Inv X pins σ H s->RelV o ov->RelV i iv->t o i H Q->
    wpAny (model X.prog X.w) X.A (getItem ov iv) (EP X pins σ Q) X.xe s
def ipI (f:Int->Int->Int):TIp:=fun x y H Q=>∃ i j,x=.int i/\y=.int j/\Q (.int (f i j)) H
end
section
variable {X:Cx}{pos:Pos}
def tWhile (c:TT) (tb:TS):TS:=fun D σ H=>∃ W:Nat->St->Hp->Prop,(∃ m,W m σ H)/\∀ m σ H,W m σ H->
  c σ H fun b H1=>if b=true then ∃ N:St->Hp->Prop,(∀ σ' H',N σ' H'->∃ m',m' < m/\W m' σ' H')/\tb { D with nx:=N,ct:=N,bk:=D.nx } σ H1 else D.nx σ H1
theorem ps_while {c:Expr}{body:List Stmt}{tc:TT}{tb:TS} (hp:PassesOwn (model X.prog X.w) X.A X.env X.xe) (hc:PT X c tc) (hb:PSs X body tb):PS X (.While c body [] pos) (tWhile tc tb):=by
  intro pins s σ H D I h
  obtain⟨W,⟨m0,w0⟩,turn⟩:=h
  refine wpAny_While (codeAny_whileLoop (fun n s'=>∃ σ' H',Inv X pins σ' H' s'/\W n σ' H') ?_ m0 ⟨σ,H,I,w0⟩)
  rintro n s1 ⟨σ1,H1,I1,w1⟩
  refine wpAny_passesOwn hp (thn (hc pins s1 σ1 H1 _ I1 (turn n σ1 H1 w1)) fun b s2 ⟨H2,I2,q2⟩=>?_)
  cases b with
  | true=>
    obtain⟨N,hN,q2⟩:=q2
    rw [if_pos rfl]
    refine wpAny_passesOwn hp (thn (hb pins s2 σ1 H2 _ I2 q2) fun f s3 q3=>?_)
    cases f with
    | next=>
      obtain⟨σ3,H3,I3,n3⟩:=q3
      obtain⟨m',hm,w3⟩:=hN σ3 H3 n3
      exact⟨m',hm,σ3,H3,I3,w3⟩
    | cont=>
      obtain⟨σ3,H3,I3,n3⟩:=q3
      obtain⟨m',hm,w3⟩:=hN σ3 H3 n3
      exact⟨m',hm,σ3,H3,I3,w3⟩
    | brk=>exact q3
    | ret v=>exact q3
  | false=>
    rw [if_neg Bool.false_ne_true]
    exact wpAny_execs_nil ⟨σ1,H2,I2,q2⟩
end
structure It where
  go:Nat->Hp->Prop
  yld:Nat->Hp->V->Hp->Prop
  stop:Nat->Hp->Prop
def FpOk (X:Cx) (pins:List (Addr×Obj)) (H:Hp) (b:Addr):Prop:=
  H b=none/\b≠X.env.locals/\b∉X.fs/\(b∈X.ex\/X.s₀.heap.objs.size<=b)/\(∀ x c,X.env.cells.lookup x=some c->c≠b)/\∀ p∈X.pn++pins,p.1≠b
theorem Inv.fpOk {X:Cx}{pins:List (Addr×Obj)}{σ:St}{H H':Hp}{s:Shared}{b:Addr} (I:Inv X pins σ H s) (hb:s.heap.objs.size<=b) (hn:H' b=none):FpOk X pins H' b:=by
  refine⟨hn,Nat.ne_of_gt (Nat.lt_of_lt_of_le I.lt hb),I.nofs hb,.inr (Nat.le_trans I.sz hb),fun x c e z=>?_,fun p hp z=>?_⟩
  · obtain⟨v,q⟩:=I.cell x c e
    exact absurd (Nat.lt_of_lt_of_le q.lt (by rw [z]; exact hb)) (Nat.lt_irrefl _)
  · exact absurd (Nat.lt_of_lt_of_le (Heap.lt_size (I.pin p hp).1) (by rw [z]; exact hb)) (Nat.lt_irrefl _)
structure Turn (P:Program) (w:World) (K:PySem.W.Frag) (tg:Expr) (J:It) (fp:List Addr) (it:Addr) (tn:Nat->Heap->Prop):Prop where
  mem:it∈fp
  obj:∀ i h,tn i h->∀ b∈fp,∃ o,h.get? b=some o/\∀ v,o.data≠.cell v
  keep:∀ i h h',tn i h->(∀ b∈fp,∀ o,h.get? b=some o->h'.get? b=some o)->tn i h'
  item:∀ (X:Cx),X.prog=P->X.w=w->X.K=K->X.calm=true->∀ (i:Nat) (pins:List (Addr×Obj)) (s:Shared) (σ:St) (H:Hp) (E:Value->Shared->Prop),Inv X pins σ H s->(∀ b∈fp,FpOk X pins H b)->tn i s.heap->J.go i H->
    wpAny (model P w) X.A (pyNext (.ref it)) (fun r s1=>∃ u,r=some u/\
      wpAny (model P w) X.A (letOwnedTupleGo tg (.ref it) u) (fun _ s2=>∃ x H',Inv X pins σ H' s2/\RelV x u/\J.yld i H x H'/\tn (i+1) s2.heap/\∀ b∈fp,H' b=none) E s1) E s
  done:∀ (X:Cx),X.prog=P->X.w=w->X.K=K->X.calm=true->∀ (i:Nat) (pins:List (Addr×Obj)) (s:Shared) (σ:St) (H:Hp) (E:Value->Shared->Prop),Inv X pins σ H s->(∀ b∈fp,FpOk X pins H b)->tn i s.heap->J.stop i H->
    wpAny (model P w) X.A (pyNext (.ref it)) (fun r s1=>r=none/\Inv X pins σ H s1) E s
  self:∀ (A:Around) (i:Nat) (s:Shared) (Q:Value->Shared->Prop) (E:Value->Shared->Prop),tn i s.heap->Q (.ref it) s->wpAny (model P w) A (pyIter (.ref it)) Q E s
abbrev TI:=St->Hp->(It->Hp->Prop)->Prop
def PIE (X:Cx) (pins:List (Addr×Obj)) (σ:St) (tg:Expr) (R:It->Hp->Prop) (itv:Value) (s2:Shared):Prop:=
  ∃ (it:Addr) (fp:List Addr) (tn:Nat->Heap->Prop) (J:It) (H':Hp),itv=.ref it/\Inv X pins σ H' s2/\Turn X.prog X.w X.K tg J fp it tn/\tn 0 s2.heap/\(∀ b∈fp,FpOk X pins H' b)/\R J H'
def PI (X:Cx) (tg iter:Expr) (wi:TI):Prop:=
  ∀ (pins:List (Addr×Obj)) (s:Shared) (σ:St) (H:Hp) (R:It->Hp->Prop),Inv X pins σ H s->wi σ H R->
    wpAny (model X.prog X.w) X.A (eval iter X.env) (fun v s1=>wpAny (model X.prog X.w) X.A (pyIter v) (PIE X pins σ tg R) X.xe s1) X.xe s
theorem go_of {M:Model}{A:Around}{E:Value->Shared->Prop}{s:Shared}{tg:Expr}{it:Addr}{u:Value}{o:Obj}{n:String}{vs:Array Value}{Q:Unit->Shared->Prop} (ho:s.heap.get? it=some o) (hc:o.cls=.type n) (hd:o.data=.fields vs)
    (hn:["enumerate","zip","dict_itemiterator","dict_reverseitemiterator","odict_iterator","itertools.zip_longest","itertools.pairwise"].contains n=false) (hQ:Q () s):wpAny M A (letOwnedTupleGo tg (.ref it) u) Q E s:=by
  unfold letOwnedTupleGo
  cases tg<;>first
    | exact wpAny_pure hQ
    | (cases u<;>first
        | exact wpAny_pure hQ
        | (refine wpAny_bind (wpAny_load ho ?_)
           rw [hc,hd]
           show wpAny M A (if (["enumerate","zip","dict_itemiterator","dict_reverseitemiterator","odict_iterator","itertools.zip_longest","itertools.pairwise"].contains n&&vs[0]?==some (rawInt _))=true then _ else _) Q E s
           rw [if_neg (by intro h; rw [hn,Bool.false_and] at h; cases h)]
           exact wpAny_pure hQ))
def Itl (K:PySem.W.Frag) (a:Addr):It:=
  ⟨fun i H=>∃ xs x,SqL K H a xs/\xs[i]?=some x,fun i H x H'=>H'=H/\∀ xs,SqL K H a xs->xs[i]?=some x,fun i H=>∃ xs,SqL K H a xs/\xs.length<=i⟩
def Itt (K:PySem.W.Frag) (a:Addr):It:=
  ⟨fun i H=>∃ xs x,SqT K H a xs/\xs[i]?=some x,fun i H x H'=>H'=H/\∀ xs,SqT K H a xs->xs[i]?=some x,fun i H=>∃ xs,SqT K H a xs/\xs.length<=i⟩
def Itr (lo:Int) (n:Nat):It:=⟨fun i _=>i < n,fun i H x H'=>H'=H/\x=.int (lo+i),fun i _=>n<=i⟩
theorem turn_list {P:Program}{w:World}{K:PySem.W.Frag}{tg:Expr} (a it:Addr):Turn P w K tg (Itl K a) [it] it (fun i h=>h.IsListIter it a i) where
  mem:=by simp
  obj:=fun i h st b hb=>by
    have e:b=it:=by simpa using hb
    subst e
    obtain⟨o,e,c,d⟩:=st
    exact⟨o,e,fun v z=>by rw [d] at z; cases z⟩
  keep:=fun i h h' st k=>st.at fun o e=>k it (by simp) o e
  item:=by
    intro X hP hw hK hc i pins s σ H E I hf st hg
    subst hP hw hK
    obtain⟨xs,x,hq,hx⟩:=hg
    obtain⟨its,rv,p,hz⟩:=I.list hq
    obtain⟨u,hu,ru⟩:=rv.get hx
    obtain⟨f0,f1,f2,f3,f4,f5⟩:=hf it (by simp)
    refine wpAny_pyNext_list_item st p.isList (x:=u) (by simpa using hu) fun h' st' sb=>?_
    have I1:Inv X pins σ H { s with heap:=h' }:=I.turned (t':=s.toks) (fun b o hb e=>(sb.2 b hb).trans e) f0 f1 f3 f4 f5
    obtain⟨o,e,c,d⟩:=id st'
    exact⟨u,rfl,go_of (s:={ s with heap:=h' }) e c d (by decide) ⟨x,H,I1,ru,⟨rfl,fun ys hy=>by rw [I.list_inj hy hq]; exact hx⟩,st',fun b hb=>(hf b hb).1⟩⟩
  done:=by
    intro X hP hw hK hc i pins s σ H E I hf st hg
    subst hP hw hK
    obtain⟨xs,hq,hx⟩:=hg
    obtain⟨its,rv,p,hz⟩:=I.list hq
    obtain⟨f0,f1,f2,f3,f4,f5⟩:=hf it (by simp)
    have hl:=rv.length
    exact wpAny_pyNext_list_end (I.ok.hd hc) st p.isList (by simp; omega) fun h' eb=>⟨rfl,I.turned (t':=s.toks) (fun b o hb e=>eb b o hb e) f0 f1 f3 f4 f5⟩
  self:=fun _ _ _ _ _ st h=>wpAny_pyIter_listiter st h
theorem turn_tuple {P:Program}{w:World}{K:PySem.W.Frag}{tg:Expr} (a it:Addr):Turn P w K tg (Itt K a) [it] it (fun i h=>h.IsTupleIter it a i) where
  mem:=by simp
  obj:=fun i h st b hb=>by
    have e:b=it:=by simpa using hb
    subst e
    obtain⟨o,e,c,d⟩:=st
    exact⟨o,e,fun v z=>by rw [d] at z; cases z⟩
  keep:=fun i h h' st k=>st.at fun o e=>k it (by simp) o e
  item:=by
    intro X hP hw hK hc i pins s σ H E I hf st hg
    subst hP hw hK
    obtain⟨xs,x,hq,hx⟩:=hg
    obtain⟨its,rv,p,hz⟩:=I.tuple hq
    obtain⟨u,hu,ru⟩:=rv.get hx
    obtain⟨f0,f1,f2,f3,f4,f5⟩:=hf it (by simp)
    refine wpAny_pyNext_tuple_item st (show s.heap.IsTuple a its.toArray from p) (x:=u) (by simpa using hu) fun h' st' sb=>?_
    have I1:Inv X pins σ H { s with heap:=h' }:=I.turned (t':=s.toks) (fun b o hb e=>(sb.2 b hb).trans e) f0 f1 f3 f4 f5
    obtain⟨o,e,c,d⟩:=id st'
    exact⟨u,rfl,go_of (s:={ s with heap:=h' }) e c d (by decide) ⟨x,H,I1,ru,⟨rfl,fun ys hy=>by rw [I.tuple_inj hy hq]; exact hx⟩,st',fun b hb=>(hf b hb).1⟩⟩
  done:=by
    intro X hP hw hK hc i pins s σ H E I hf st hg
    subst hP hw hK
    obtain⟨xs,hq,hx⟩:=hg
    obtain⟨its,rv,p,hz⟩:=I.tuple hq
    obtain⟨f0,f1,f2,f3,f4,f5⟩:=hf it (by simp)
    have hl:=rv.length
    exact wpAny_pyNext_tuple_end (I.ok.hd hc) st (show s.heap.IsTuple a its.toArray from p) (by simp; omega) fun h' eb=>⟨rfl,I.turned (t':=s.toks) (fun b o hb e=>eb b o hb e) f0 f1 f3 f4 f5⟩
  self:=fun _ _ _ _ _ st h=>wpAny_pyIter_tupleiter st h
theorem turn_range {P:Program}{w:World}{K:PySem.W.Frag}{tg:Expr} (it:Addr) (lo:Int) (n:Nat):Turn P w K tg (Itr lo n) [it] it (fun i h=>IsRangeIter h it (lo+(i:Nat)*1) ((n:Int) - (i:Nat)) 1) where
  mem:=by simp
  obj:=fun i h st b hb=>by
    have e:b=it:=by simpa using hb
    subst e
    exact⟨_,st,fun v z=>by
      have z':Data.fields _=Data.cell v:=z
      cases z'⟩
  keep:=fun i h h' st k=>k it (by simp) _ st
  item:=by
    intro X hP hw hK hc i pins s σ H E I hf st hg
    subst hP hw hK
    obtain⟨f0,f1,f2,f3,f4,f5⟩:=hf it (by simp)
    have W:=Walks.range (prog:=X.prog) (w:=X.w) (I.ok.hd hc) it lo 1 n
    refine W.item i s _ _ hg st fun v h' tk hv st' kk=>?_
    obtain⟨t,rfl⟩:=hv
    have I1:Inv X pins σ H { s with heap:=h',toks:=tk }:=I.turned (fun b o hb e=>kk b o (by simpa using hb) e) f0 f1 f3 f4 f5
    refine⟨_,rfl,go_of (s:={ s with heap:=h',toks:=tk }) (n:="range_iterator") st' rfl rfl (by decide) ⟨.int (lo+i),H,I1,⟨t,?_⟩,⟨rfl,rfl⟩,st',fun b hb=>(hf b hb).1⟩⟩
    rw [Int.mul_one]
  done:=by
    intro X hP hw hK hc i pins s σ H E I hf st hg
    subst hP hw hK
    obtain⟨f0,f1,f2,f3,f4,f5⟩:=hf it (by simp)
    exact wpAny_pyNext_range_end (I.ok.hd hc) st (by have:n<=i:=hg; omega) fun h' eb=>⟨rfl,I.turned (t':=s.toks) (fun b o hb e=>eb b o hb e) f0 f1 f3 f4 f5⟩
  self:=fun _ _ _ _ _ st h=>wpAny_pyIter_rangeiter st h
end L2
namespace L2
open PySem PySem.Spec PyProof.Rows
section
variable {X:Cx}{tg:Expr}
def iList (K:PySem.W.Frag) (tl:TE):TI:=fun σ H R=>tl σ H fun x H1=>∃ a,x=.ref a/\(∃ xs,SqL K H1 a xs)/\R (Itl K a) H1
def iTup (K:PySem.W.Frag) (tl:TE):TI:=fun σ H R=>tl σ H fun x H1=>∃ a,x=.ref a/\(∃ xs,SqT K H1 a xs)/\R (Itt K a) H1
theorem pi_list {l:Expr}{tl:TE} (hl:PE X l tl):PI X tg l (iList X.K tl):=by
  intro pins s σ H R I h
  refine thn (hl pins s σ H _ I h) fun v s1 ⟨x,H1,I1,r1,q1⟩=>?_
  obtain⟨a,e,⟨xs,hq⟩,q⟩:=q1
  subst e
  cases r1
  obtain⟨its,rv,p,hz⟩:=I1.list hq
  refine wpAny_pyIter_list p.isList ?_
  refine⟨s1.heap.objs.size,[s1.heap.objs.size],_,_,H1,rfl,I1.kept (t':=s1.toks) fun b o e=>Heap.get?_push_of_some _ e,turn_list a _,⟨_,Heap.get?_push_size _ rfl,rfl,rfl⟩,fun b hb=>?_,q⟩
  have e:b=s1.heap.objs.size:=by simpa using hb
  subst e
  exact I1.fpOk (Nat.le_refl _) (I1.hok.fresh (Nat.le_refl _))
theorem pi_tup {l:Expr}{tl:TE} (hl:PE X l tl):PI X tg l (iTup X.K tl):=by
  intro pins s σ H R I h
  refine thn (hl pins s σ H _ I h) fun v s1 ⟨x,H1,I1,r1,q1⟩=>?_
  obtain⟨a,e,⟨xs,hq⟩,q⟩:=q1
  subst e
  cases r1
  obtain⟨its,rv,p,hz⟩:=I1.tuple hq
  refine wpAny_pyIter_tuple (show s1.heap.IsTuple a its.toArray from p) ?_
  refine⟨s1.heap.objs.size,[s1.heap.objs.size],_,_,H1,rfl,I1.kept (t':=s1.toks) fun b o e=>Heap.get?_push_of_some _ e,turn_tuple a _,⟨_,Heap.get?_push_size _ rfl,rfl,rfl⟩,fun b hb=>?_,q⟩
  have e:b=s1.heap.objs.size:=by simpa using hb
  subst e
  exact I1.fpOk (Nat.le_refl _) (I1.hok.fresh (Nat.le_refl _))
theorem range_it {pins:List (Addr×Obj)}{σ:St}{H:Hp}{s:Shared}{R:It->Hp->Prop}{E:Value->Shared->Prop}{lo hi:Int}{t u v:Tok}{tk:Nat} (I:Inv X pins σ H s) (h1:-(2 ^ 62)<=lo) (h2:lo < 2 ^ 62) (h3:-(2 ^ 62)<=hi) (h4:hi < 2 ^ 62)
    (q:R (Itr lo (hi - lo).toNat) H):wpAny (model X.prog X.w) X.A (pyIter (.ref s.heap.objs.size)) (PIE X pins σ tg R) E { s with heap:=s.heap.push { cls:=.type "range",data:=.fields #[.int lo t,.int hi u,.int 1 v] },toks:=tk }:=by
  refine wpAny_pyIter_range (IsRange.new ..) (small_one h1 h2 h3 h4) ?_
  have I1:Inv X pins σ H { s with heap:=s.heap.push { cls:=.type "range",data:=.fields #[.int lo t,.int hi u,.int 1 v] },toks:=tk }:=I.kept fun b o e=>Heap.get?_push_of_some _ e
  refine⟨(s.heap.push { cls:=.type "range",data:=.fields #[.int lo t,.int hi u,.int 1 v] }).objs.size,[(s.heap.push { cls:=.type "range",data:=.fields #[.int lo t,.int hi u,.int 1 v] }).objs.size],_,_,H,rfl,
    I1.kept (t':=tk) fun b o e=>Heap.get?_push_of_some _ e,turn_range _ lo (hi - lo).toNat,?_,fun b hb=>?_,q⟩
  · have e1:lo+((0:Nat):Int)*1=lo:=by simp
    have e2:(((hi - lo).toNat:Nat):Int) - ((0:Nat):Int)=Builtin.Range.rangeSize lo hi 1:=by rw [rangeSize_one]; split<;>omega
    show IsRangeIter _ _ (lo+((0:Nat):Int)*1) ((((hi - lo).toNat:Nat):Int) - ((0:Nat):Int)) 1
    rw [e1,e2]
    exact Heap.get?_push_size _ rfl
  · have e:b=(s.heap.push { cls:=.type "range",data:=.fields #[.int lo t,.int hi u,.int 1 v] }).objs.size:=by simpa using hb
    subst e
    exact I1.fpOk (Nat.le_refl _) (I1.hok.fresh (Nat.le_refl _))
def iRng1 (ta:TA):TI:=fun σ H R=>ta σ H fun vs H1=>∃ j:Int,vs=[.int j]/\-(2 ^ 62)<=j/\j < 2 ^ 62/\R (Itr 0 j.toNat) H1
def iRng2 (ta:TA):TI:=fun σ H R=>ta σ H fun vs H1=>∃ i j:Int,vs=[.int i,.int j]/\(-(2 ^ 62)<=i/\i < 2 ^ 62/\-(2 ^ 62)<=j/\j < 2 ^ 62)/\R (Itr i (j - i).toNat) H1
theorem pi_range1 {a:Expr}{ta:TA}{p pos:Pos} (hg:Gl X "range") (hm:X.mg "range"=none) (ha:PA X [a] ta) (hs:starEach [a] X.env=[(false,eval a X.env)]:=by rfl):PI X tg (.Call (.Name "range" p) [a] [] pos) (iRng1 ta):=by
  intro pins s σ H R I h
  refine Call_ (ld_blt I hg hm boot_range (PyProof.Rows.callWith_type1 (thn (ha pos pins s σ H _ I h) fun us s1 ⟨vs,H1,I1,r1,q1⟩=>?_) hs rfl))
  obtain⟨j,e,q1,q2,q⟩:=q1
  subst e
  cases r1 with
  | cons r rr=>
    cases rr
    obtain⟨t,rfl⟩:=r
    exact call_range_1 (range_it I1 (by omega) (by omega) q1 q2 (by simpa using q))
theorem pi_range2 {a b:Expr}{ta:TA}{p pos:Pos} (hg:Gl X "range") (hm:X.mg "range"=none) (ha:PA X [a,b] ta) (hs:starEach [a,b] X.env=[(false,eval a X.env),(false,eval b X.env)]:=by rfl) (hs2:starEach [b] X.env=[(false,eval b X.env)]:=by rfl):
    PI X tg (.Call (.Name "range" p) [a,b] [] pos) (iRng2 ta):=by
  intro pins s σ H R I h
  refine Call_ (ld_blt I hg hm boot_range (PyProof.Rows.callWith_type1 (thn (ha pos pins s σ H _ I h) fun us s1 ⟨vs,H1,I1,r1,q1⟩=>?_) (by rw [hs,hs2]) (by rw [hs2]; rfl)))
  obtain⟨i,j,e,⟨q1,q2,q3,q4⟩,q⟩:=q1
  subst e
  cases r1 with
  | cons r rr=>
    cases rr with
    | cons r' rr=>
      cases rr
      obtain⟨t,rfl⟩:=r
      obtain⟨t',rfl⟩:=r'
      exact call_range_2 (range_it I1 q1 q2 q3 q4 q)
def tFor (wi:TI) (g:TG) (tb:TS):TS:=fun D σ H=>wi σ H fun J H1=>∃ W:Nat->Nat->St->Hp->Prop,(∃ m,W 0 m σ H1)/\∀ i m σ H,W i m σ H->
  (J.stop i H/\D.nx σ H)\/(J.go i H/\∃ N:St->Hp->Prop,(∀ σ' H',N σ' H'->∃ m',m' < m/\W (i+1) m' σ' H')/\∀ x H',J.yld i H x H'->g x σ H' fun σ2 H2=>tb { D with nx:=N,ct:=N,bk:=D.nx } σ2 H2)
def pinsAt (fp:List Addr) (h:Heap):List (Addr×Obj):=fp.filterMap fun b=>(h.get? b).map fun o=>(b,o)
theorem mem_pinsAt {fp:List Addr}{h:Heap}{b:Addr}{o:Obj} (hb:b∈fp) (e:h.get? b=some o):(b,o)∈pinsAt fp h:=List.mem_filterMap.mpr ⟨b,hb,by rw [e]; rfl⟩
theorem of_pinsAt {fp:List Addr}{h:Heap}{p:Addr×Obj} (hp:p∈pinsAt fp h):p.1∈fp/\h.get? p.1=some p.2:=by
  obtain⟨b,hb,e⟩:=List.mem_filterMap.mp hp
  cases q:h.get? b with
  | none=>rw [q] at e; cases e
  | some o=>
    rw [q] at e
    have e':(b,o)=p:=Option.some.inj e
    subst e'
    exact⟨hb,q⟩
theorem Inv.pinned {pins:List (Addr×Obj)}{σ:St}{H:Hp}{s:Shared}{fp:List Addr} (I:Inv X pins σ H s) (hf:∀ b∈fp,FpOk X pins H b) (ho:∀ b∈fp,∃ o,s.heap.get? b=some o/\∀ v,o.data≠.cell v):Inv X (pins++pinsAt fp s.heap) σ H s:=
  I.pins_of fun p hp=>(List.mem_append.mp hp).elim (fun z=>I.pin p (List.mem_append_right _ z)) fun z=>by
    obtain⟨hb,e⟩:=of_pinsAt z
    obtain⟨f0,f1,f2,_⟩:=hf p.1 hb
    obtain⟨o,e',d⟩:=ho p.1 hb
    rw [e] at e'; cases e'
    exact⟨e,f0,f1,f2,d⟩
theorem Inv.unpinned {pins pl:List (Addr×Obj)}{σ:St}{H:Hp}{s:Shared} (I:Inv X (pins++pl) σ H s):Inv X pins σ H s:=I.pins_of fun p hp=>I.pin p (List.mem_append_right _ (List.mem_append_left _ hp))
theorem ps_for {iter:Expr}{body:List Stmt}{wi:TI}{g:TG}{tb:TS}{pos:Pos} (hp:PassesOwn (model X.prog X.w) X.A X.env X.xe) (hc:X.calm=true) (hi:PI X tg iter wi) (hg:PG X tg g) (hb:PSs X body tb)
    (hs:∀ x,foldedSetIterable iter X.env x=pure x:=by intro _; rfl):PS X (.For tg iter body [] pos) (tFor wi g tb):=by
  intro pins s σ H D I h
  refine wpAny_For (thn (hi pins s σ H _ I h) fun v s1 h1=>thn h1 fun itv s2 h2=>?_) hs
  obtain⟨it,fp,tn,J,H2,e,I2,T,st2,f2,W,⟨m0,w0⟩,turn⟩:=h2
  subst e
  have stat:∀ {H':Hp},(∀ b∈fp,H' b=none)->∀ b∈fp,FpOk X pins H' b:=fun hn b hb=>⟨hn b hb,(f2 b hb).2⟩
  refine codeAny_forLoop_any (fun n s'=>∃ i σ' H',Inv X pins σ' H' s'/\tn i s'.heap/\(∀ b∈fp,H' b=none)/\W i n σ' H') ?_ m0 ⟨0,σ,H2,I2,st2,fun b hb=>(f2 b hb).1,w0⟩
  rintro n s3 ⟨i,σ3,H3,I3,st3,fr3,w3⟩
  rcases turn i n σ3 H3 w3 with⟨stop,qn⟩ | ⟨go,N,hN,step⟩
  · refine wpAny_passesOwn hp (thn (T.done X rfl rfl rfl hc i pins s3 σ3 H3 X.xe I3 (stat fr3) st3 stop) fun r s4 ⟨hr,I4⟩=>?_)
    subst hr
    exact wpAny_execs_nil ⟨σ3,H3,I4,qn⟩
  · refine wpAny_passesOwn hp (thn (T.item X rfl rfl rfl hc i pins s3 σ3 H3 X.xe I3 (stat fr3) st3 go) fun r s4 ⟨u,hr,h4⟩=>?_)
    subst hr
    refine wpAny_passesOwn hp (thn h4 fun _ s5 ⟨x,H5,I5,r5,y5,st5,fr5⟩=>?_)
    have I5':=I5.pinned (stat fr5) (T.obj _ _ st5)
    refine wpAny_passesOwn hp (thn (hg _ s5 σ3 H5 x u _ I5' r5 (step x H5 y5)) fun _ s6 ⟨σ6,H6,I6,q6⟩=>?_)
    refine wpAny_passesOwn hp (thn (hb _ s6 σ6 H6 _ I6 q6) fun f s7 q7=>?_)
    have again:∀ {σ7:St}{H7:Hp},Inv X (pins++pinsAt fp s5.heap) σ7 H7 s7->N σ7 H7->∃ m,m < n/\∃ i σ' H',Inv X pins σ' H' s7/\tn i s7.heap/\(∀ b∈fp,H' b=none)/\W i m σ' H':=fun {σ7 H7} I7 n7=>by
      obtain⟨m',hm,w7⟩:=hN σ7 H7 n7
      refine⟨m',hm,i+1,σ7,H7,I7.unpinned,T.keep _ _ _ st5 fun b hb o e=>(I7.pin (b,o) (List.mem_append_right _ (List.mem_append_right _ (mem_pinsAt hb e)))).1,fun b hb=>?_,w7⟩
      obtain⟨o,e,d⟩:=T.obj _ _ st5 b hb
      exact (I7.pin (b,o) (List.mem_append_right _ (List.mem_append_right _ (mem_pinsAt hb e)))).2.1
    cases f with
    | next=>obtain⟨σ7,H7,I7,n7⟩:=q7; exact again I7 n7
    | cont=>obtain⟨σ7,H7,I7,n7⟩:=q7; exact again I7 n7
    | brk=>obtain⟨σ7,H7,I7,q7⟩:=q7; exact⟨σ7,H7,I7.unpinned,q7⟩
    | ret v=>obtain⟨x7,σ7,H7,I7,r7,q7⟩:=q7; exact⟨x7,σ7,H7,I7.unpinned,r7,q7⟩
end
end L2
namespace L2
open PySem PySem.Spec PyProof.Rows
abbrev R2:=V->V->Hp->VK->Prop
def OpR (X:Cx) (f:Value->Value->Sem Value) (r:R2):Prop:=
  ∀ (pins:List (Addr×Obj)) (s:Shared) (σ:St) (H:Hp) (x y:V) (v u:Value) (Q:VK),Inv X pins σ H s->RelV x v->RelV y u->r x y H Q->
    wpAny (model X.prog X.w) X.A (f v u) (EP X pins σ Q) X.xe s
def UnR (X:Cx) (f:Value->Sem Value) (r:V->Hp->VK->Prop):Prop:=
  ∀ (pins:List (Addr×Obj)) (s:Shared) (σ:St) (H:Hp) (x:V) (v:Value) (Q:VK),Inv X pins σ H s->RelV x v->r x H Q->
    wpAny (model X.prog X.w) X.A (f v) (EP X pins σ Q) X.xe s
def CallR (X:Cx) (f:Value) (r:List V->Hp->VK->Prop):Prop:=
  ∀ (pins:List (Addr×Obj)) (s:Shared) (σ:St) (H:Hp) (xs:List V) (us:List Value) (Q:VK),Inv X pins σ H s->Vals xs us->r xs H Q->
    wpAny (model X.prog X.w) X.A (call f us) (EP X pins σ Q) X.xe s
def TruR (X:Cx) (r:V->Hp->(Bool->Hp->Prop)->Prop):Prop:=
  ∀ (pins:List (Addr×Obj)) (s:Shared) (σ:St) (H:Hp) (x:V) (v:Value) (Q:Bool->Hp->Prop),Inv X pins σ H s->RelV x v->r x H Q->
    wpAny (model X.prog X.w) X.A (truthy v) (TP X pins σ Q) X.xe s
def tOp (r:R2) (ta tb:TE):TE:=fun σ H Q=>ta σ H fun x H1=>tb σ H1 fun y H2=>r x y H2 Q
def tUn (r:V->Hp->VK->Prop) (ta:TE):TE:=fun σ H Q=>ta σ H fun x H1=>r x H1 Q
def rI (C:Int->Int->Prop) (g:Int->Int->V):R2:=fun x y H Q=>∃ i j,x=.int i/\y=.int j/\C i j/\Q (g i j) H
def rI0 (g:Int->Int->V):R2:=fun x y H Q=>∃ i j,x=.int i/\y=.int j/\Q (g i j) H
def rU (g:Int->V):V->Hp->VK->Prop:=fun x H Q=>∃ i,x=.int i/\Q (g i) H
section
variable {X:Cx}{a b c:Expr}{ta tb tc:TE}{pos:Pos}
theorem binT (ha:PE X a ta) (hb:PE X b tb) {pins:List (Addr×Obj)}{s:Shared}{σ:St}{H:Hp}{R:V->V->Hp->Prop} (I:Inv X pins σ H s)
    (h:ta σ H fun x H1=>tb σ H1 fun y H2=>R x y H2) {Q:Value->Shared->Prop}{f:Value->Value->Sem Value}
    (hf:∀ v u s2 x y H2,Inv X pins σ H2 s2->RelV x v->RelV y u->R x y H2->wpAny (model X.prog X.w) X.A (f v u) Q X.xe s2):
    wpAny (model X.prog X.w) X.A (eval a X.env) (fun v s₁=>wpAny (model X.prog X.w) X.A (eval b X.env) (fun u s₂=>wpAny (model X.prog X.w) X.A (f v u) Q X.xe s₂) X.xe s₁) X.xe s:=by
  refine thn (ha pins s σ H _ I h) fun v s1 ⟨x,H1,I1,r1,q1⟩=>?_
  refine thn (hb pins s1 σ H1 _ I1 q1) fun u s2 ⟨y,H2,I2,r2,q2⟩=>?_
  exact hf v u s2 x y H2 I2 r1 r2 q2
theorem pe_op {op:Operator}{r:R2} (ho:OpR X (binaryOp op) r) (ha:PE X a ta) (hb:PE X b tb):PE X (.BinOp a op b pos) (tOp r ta tb):=by
  intro pins s σ H Q I h
  exact wpAny_BinOp (binT ha hb I h fun v u s2 x y H2 I2 rx ry q=>ho pins s2 σ H2 x y v u Q I2 rx ry q)
theorem pe_un {op:UnaryOp}{r:V->Hp->VK->Prop} (ho:UnR X (unaryOp op) r) (ha:PE X a ta):PE X (.UnaryOp op a pos) (tUn r ta):=by
  intro pins s σ H Q I h
  exact UnaryOp_ (thn (ha pins s σ H _ I h) fun v s1 ⟨x,H1,I1,r1,q1⟩=>ho pins s1 σ H1 x v Q I1 r1 q1)
theorem opI {f:Value->Value->Sem Value}{C:Int->Int->Prop}{g:Int->Int->Int}
    (rule:∀ (i j:Int) (t u:Tok) (s:Shared) (Q:Value->Shared->Prop) (E:Value->Shared->Prop),C i j->Q (.int (g i j) s.toks) { s with toks:=s.toks+1 }->wpAny (model X.prog X.w) X.A (f (.int i t) (.int j u)) Q E s):
    OpR X f (rI C fun i j=>.int (g i j)):=by
  intro pins s σ H x y v u Q I rx ry h
  obtain⟨i,j,rfl,rfl,hc,q⟩:=h
  obtain⟨t,rfl⟩:=rx
  obtain⟨t',rfl⟩:=ry
  exact rule i j t t' s _ _ hc ⟨.int (g i j),H,I.tok _,⟨_,rfl⟩,q⟩
theorem opI0 {f:Value->Value->Sem Value}{g:Int->Int->Int}
    (rule:∀ (i j:Int) (t u:Tok) (s:Shared) (Q:Value->Shared->Prop) (E:Value->Shared->Prop),Q (.int (g i j) s.toks) { s with toks:=s.toks+1 }->wpAny (model X.prog X.w) X.A (f (.int i t) (.int j u)) Q E s):
    OpR X f (rI0 fun i j=>.int (g i j)):=by
  intro pins s σ H x y v u Q I rx ry h
  obtain⟨i,j,rfl,rfl,q⟩:=h
  obtain⟨t,rfl⟩:=rx
  obtain⟨t',rfl⟩:=ry
  exact rule i j t t' s _ _ ⟨.int (g i j),H,I.tok _,⟨_,rfl⟩,q⟩
theorem opB0 {f:Value->Value->Sem Value}{g:Int->Int->Bool}
    (rule:∀ (i j:Int) (t u:Tok) (s:Shared) (Q:Value->Shared->Prop) (E:Value->Shared->Prop),Q (.bool (g i j)) s->wpAny (model X.prog X.w) X.A (f (.int i t) (.int j u)) Q E s):
    OpR X f (rI0 fun i j=>.bl (g i j)):=by
  intro pins s σ H x y v u Q I rx ry h
  obtain⟨i,j,rfl,rfl,q⟩:=h
  obtain⟨t,rfl⟩:=rx
  obtain⟨t',rfl⟩:=ry
  exact rule i j t t' s _ _ ⟨.bl (g i j),H,I,rfl,q⟩
def CDiv (i j:Int):Prop:=0 < j/\j < 1073741824
def CDivN (i j:Int):Prop:=j≠0/\j.natAbs < 1073741824
def CPow (i j:Int):Prop:=0<=j/\j<=1000000/\i.natAbs < 2 ^ 64
def CMul (i j:Int):Prop:=(-(2 ^ 64) < i/\i < 2 ^ 64)\/(-(2 ^ 64) < j/\j < 2 ^ 64)
theorem CMul.ok {i j:Int} (h:CMul i j):IntMulOk i j:=by
  rcases h with⟨h1,h2⟩ | ⟨h1,h2⟩
  · exact .of_left (intBits_le_64 h1 h2)
  · exact .of_right (intBits_le_64 h1 h2)
theorem op_add:OpR X (binaryOp .Add) (rI0 fun i j=>.int (i+j)):=opI0 fun _ _ _ _ _ _ _ q=>add_int q
theorem op_sub:OpR X (binaryOp .Sub) (rI0 fun i j=>.int (i - j)):=opI0 fun _ _ _ _ _ _ _ q=>sub_int q
theorem op_fdiv:OpR X (binaryOp .FloorDiv) (rI CDiv fun i j=>.int (i / j)):=opI fun i j _ _ _ _ _ hc q=>by
  have h1:(0:Int) < j:=hc.1
  have h2:j < 1073741824:=hc.2
  exact floordiv_int (by omega) (by rw [Int.fdiv_eq_ediv_of_nonneg i (by omega)]; exact q) (.inl (PyProof.noPylong_small (by omega)))
theorem op_mod:OpR X (binaryOp .Mod) (rI (fun _ j=>0 < j) fun i j=>.int (i % j)):=opI fun i j _ _ _ _ _ hc q=>by
  have h1:(0:Int) < j:=hc
  exact mod_int' (by omega) (by rw [Int.fmod_eq_emod_of_nonneg i (by omega)]; exact q)
theorem op_pow:OpR X (binaryOp .Pow) (rI CPow fun i j=>.int (i ^ j.toNat)):=opI fun _ _ _ _ _ _ _ hc q=>pow_int_small hc.1 hc.2.1 hc.2.2 q
theorem unI {f:Value->Sem Value}{g:Int->Int}
    (rule:∀ (i:Int) (t:Tok) (s:Shared) (Q:Value->Shared->Prop) (E:Value->Shared->Prop),Q (.int (g i) s.toks) { s with toks:=s.toks+1 }->wpAny (model X.prog X.w) X.A (f (.int i t)) Q E s):
    UnR X f (rU fun i=>.int (g i)):=by
  intro pins s σ H x v Q I rx h
  obtain⟨i,rfl,q⟩:=h
  obtain⟨t,rfl⟩:=rx
  exact rule i t s _ _ ⟨.int (g i),H,I.tok _,⟨_,rfl⟩,q⟩
theorem un_neg:UnR X (unaryOp .USub) (rU fun i=>.int (-i)):=unI fun _ _ _ _ _ q=>neg_int q
end
def scal:V->V->Bool
  | .non,.non=>true | .non,.int _=>true | .int _,.non=>true | .non,.bl _=>true | .bl _,.non=>true | .non,.str _=>true | .str _,.non=>true
  | .int _,.int _=>true | .bl _,.bl _=>true | .str _,.str _=>true | .byt _,.byt _=>true
  | .int _,.str _=>true | .str _,.int _=>true | .bl _,.str _=>true | .str _,.bl _=>true
  | _,_=>false
def rEq:R2:=fun x y H Q=>scal x y=true/\Q (.bl (decide (x=y))) H
def rNe:R2:=fun x y H Q=>scal x y=true/\Q (.bl (!decide (x=y))) H
theorem dec_int {i j:Int}:decide (V.int i=V.int j)=(i==j):=by
  rw [Bool.eq_iff_iff]
  simp
theorem dec_bl {i j:Bool}:decide (V.bl i=V.bl j)=(i==j):=by
  rw [Bool.eq_iff_iff]
  simp
theorem dec_str {i j:Str}:decide (V.str i=V.str j)=(i==j):=by
  rw [Bool.eq_iff_iff]
  simp
theorem dec_byt {i j:Array UInt8}:decide (V.byt i=V.byt j)=(i.toList==j.toList):=by
  rw [Bool.eq_iff_iff]
  cases i
  cases j
  simp
section
variable {X:Cx}{a b c:Expr}{ta tb tc:TE}{pos:Pos}
theorem fin_bl {pins:List (Addr×Obj)}{σ:St}{H:Hp}{s:Shared}{Q:VK}{k k':Bool} (I:Inv X pins σ H s) (q:Q (.bl k) H) (e:k=k'):EP X pins σ Q (.bool k') s:=by
  subst e
  exact⟨.bl k,H,I,rfl,q⟩
theorem op_eq:OpR X (compareOp .Eq) rEq:=by
  intro pins s σ H x y v u Q I rx ry h
  obtain⟨hs,q⟩:=h
  cases x with
  | non=>
    cases rx
    cases y with
    | non=>cases ry; exact PySem.EqNone.eq_none_none (fin_bl I q (by simp))
    | bl j=>cases ry; exact PySem.EqNone.eq_none_bool (fin_bl I q (by simp))
    | int j=>obtain⟨t',rfl⟩:=ry; exact PySem.EqNone.eq_none_int (fin_bl I q (by simp))
    | str j=>obtain⟨t',rfl⟩:=ry; exact PySem.EqNone.eq_none_str (fin_bl I q (by simp))
    | _=>exact absurd (show false=true from hs) Bool.false_ne_true
  | bl i=>
    cases rx
    cases y with
    | non=>cases ry; exact PySem.EqNone.eq_bool_none (fin_bl I q (by simp))
    | bl j=>cases ry; exact eq_bool (fin_bl I q dec_bl)
    | str j=>obtain⟨t',rfl⟩:=ry; exact PySem.EqMixed.eq_bool_str (fin_bl I q (by simp))
    | _=>exact absurd (show false=true from hs) Bool.false_ne_true
  | int i=>
    obtain⟨t,rfl⟩:=rx
    cases y with
    | non=>cases ry; exact PySem.EqNone.eq_int_none (fin_bl I q (by simp))
    | int j=>obtain⟨t',rfl⟩:=ry; exact eq_int (fin_bl I q dec_int)
    | str j=>obtain⟨t',rfl⟩:=ry; exact PySem.EqMixed.eq_int_str (fin_bl I q (by simp))
    | _=>exact absurd (show false=true from hs) Bool.false_ne_true
  | str i=>
    obtain⟨t,rfl⟩:=rx
    cases y with
    | non=>cases ry; exact PySem.EqNone.eq_str_none (fin_bl I q (by simp))
    | bl j=>cases ry; exact PySem.EqMixed.eq_str_bool (fin_bl I q (by simp))
    | int j=>obtain⟨t',rfl⟩:=ry; exact PySem.EqMixed.eq_str_int (fin_bl I q (by simp))
    | str j=>obtain⟨t',rfl⟩:=ry; exact eq_str (fin_bl I q dec_str)
    | _=>exact absurd (show false=true from hs) Bool.false_ne_true
  | byt i=>
    obtain⟨t,rfl⟩:=rx
    cases y with
    | byt j=>obtain⟨t',rfl⟩:=ry; exact PySem.W.eq_bytes (fin_bl I q dec_byt)
    | _=>exact absurd (show false=true from hs) Bool.false_ne_true
  | _=>cases y<;>exact absurd (show false=true from hs) Bool.false_ne_true
theorem op_ne:OpR X (compareOp .NotEq) rNe:=by
  intro pins s σ H x y v u Q I rx ry h
  obtain⟨hs,q⟩:=h
  cases x with
  | non=>
    cases rx
    cases y with
    | non=>cases ry; exact PySem.EqNone.ne_none_none (fin_bl I q (by simp))
    | bl j=>cases ry; exact PySem.EqNone.ne_none_bool (fin_bl I q (by simp))
    | int j=>obtain⟨t',rfl⟩:=ry; exact PySem.EqNone.ne_none_int (fin_bl I q (by simp))
    | str j=>obtain⟨t',rfl⟩:=ry; exact PySem.EqNone.ne_none_str (fin_bl I q (by simp))
    | _=>exact absurd (show false=true from hs) Bool.false_ne_true
  | bl i=>
    cases rx
    cases y with
    | non=>cases ry; exact PySem.EqNone.ne_bool_none (fin_bl I q (by simp))
    | bl j=>cases ry; exact ne_bool (fin_bl I q (congrArg not dec_bl))
    | str j=>obtain⟨t',rfl⟩:=ry; exact PySem.EqMixed.ne_bool_str (fin_bl I q (by simp))
    | _=>exact absurd (show false=true from hs) Bool.false_ne_true
  | int i=>
    obtain⟨t,rfl⟩:=rx
    cases y with
    | non=>cases ry; exact PySem.EqNone.ne_int_none (fin_bl I q (by simp))
    | int j=>obtain⟨t',rfl⟩:=ry; exact ne_int (fin_bl I q (congrArg not dec_int))
    | str j=>obtain⟨t',rfl⟩:=ry; exact PySem.EqMixed.ne_int_str (fin_bl I q (by simp))
    | _=>exact absurd (show false=true from hs) Bool.false_ne_true
  | str i=>
    obtain⟨t,rfl⟩:=rx
    cases y with
    | non=>cases ry; exact PySem.EqNone.ne_str_none (fin_bl I q (by simp))
    | bl j=>cases ry; exact PySem.EqMixed.ne_str_bool (fin_bl I q (by simp))
    | int j=>obtain⟨t',rfl⟩:=ry; exact PySem.EqMixed.ne_str_int (fin_bl I q (by simp))
    | str j=>obtain⟨t',rfl⟩:=ry; exact ne_str (fin_bl I q (congrArg not dec_str))
    | _=>exact absurd (show false=true from hs) Bool.false_ne_true
  | byt i=>
    obtain⟨t,rfl⟩:=rx
    cases y with
    | byt j=>obtain⟨t',rfl⟩:=ry; exact PySem.W.ne_bytes (fin_bl I q (congrArg not dec_byt))
    | _=>exact absurd (show false=true from hs) Bool.false_ne_true
  | _=>cases y<;>exact absurd (show false=true from hs) Bool.false_ne_true
theorem op_lt:OpR X (compareOp .Lt) (rI0 fun i j=>.bl (decide (i < j))):=opB0 fun _ _ _ _ _ _ _ q=>lt_int q
theorem op_le:OpR X (compareOp .LtE) (rI0 fun i j=>.bl (decide (i<=j))):=opB0 fun _ _ _ _ _ _ _ q=>le_int q
theorem op_gt:OpR X (compareOp .Gt) (rI0 fun i j=>.bl (decide (j < i))):=opB0 fun _ _ _ _ _ _ _ q=>gt_int q
theorem op_isN:OpR X (compareOp .Is) (fun x y H Q=>y=.non/\Q (.bl (decide (x=.non))) H):=by
  intro pins s σ H x y v u Q I rx ry h
  obtain⟨rfl,q⟩:=h
  cases ry
  refine is_none_gen (fin_bl I q ?_)
  cases x<;>first
    | (cases rx; rfl)
    | (obtain⟨t,rfl⟩:=rx; rfl)
theorem op_notN:OpR X (compareOp .IsNot) (fun x y H Q=>y=.non/\Q (.bl (!decide (x=.non))) H):=by
  intro pins s σ H x y v u Q I rx ry h
  obtain⟨rfl,q⟩:=h
  cases ry
  refine isnot_none_gen (fin_bl I q ?_)
  cases x<;>first
    | (cases rx; rfl)
    | (obtain⟨t,rfl⟩:=rx; rfl)
def isObj:HO->Bool
  | .lst _=>true
  | .ins _ _ _=>true
  | _=>false
theorem obj_there {pins:List (Addr×Obj)}{s:Shared}{σ:St}{H:Hp}{a:Addr}{o:HO} (I:Inv X pins σ H s) (h:H a=some o) (p:isObj o=true):∃ ob,s.heap.get? a=some ob/\ob.cls≠.type "tuple":=by
  cases o with
  | lst xs=>
    obtain⟨_,its,n,_,e⟩:xs.length<=sizeLine/\∃ (its:List Value) (n:Nat),Vals xs its/\s.heap.get? a=some { cls:=.type "list",data:=.seq its.toArray n }:=I.hok a _ h
    exact⟨_,e,(by show Value.type "list"≠.type "tuple"; decide +kernel)⟩
  | ins C dx fs=>
    have x:=I.hok a _ h
    obtain⟨_,_,_,e,_⟩:=x
    exact⟨_,e,(by show Value.ref C≠.type "tuple"; exact fun z=>by cases z)⟩
  | _=>exact absurd (show false=true from p) Bool.false_ne_true
theorem OpR.or {f:Value->Value->Sem Value}{r r':R2} (h:OpR X f r) (h':OpR X f r'):OpR X f (fun x y H Q=>r x y H Q\/r' x y H Q):=by
  intro pins s σ H x y v u Q I rx ry q
  rcases q with q | q
  · exact h pins s σ H x y v u Q I rx ry q
  · exact h' pins s σ H x y v u Q I rx ry q
theorem nomark (b:Expr) {op:CmpOp} (h:op≠.In:=by decide) (h2:op≠.NotIn:=by decide):behindInMarks op b=false:=by
  have e1:(op==CmpOp.In)=false:=by cases op<;>first | rfl | exact absurd rfl h
  have e2:(op==CmpOp.NotIn)=false:=by cases op<;>first | rfl | exact absurd rfl h2
  cases b<;>simp [behindInMarks,e1,e2]
theorem pe_cmpR {op:CmpOp}{r:R2} (ho:OpR X (compareOp op) r) (ha:PE X a ta) (hb:PE X b tb) (hm:behindInMarks op b=false):PE X (.Compare a [op] [b] pos) (tOp r ta tb):=by
  intro pins s σ H Q I h
  exact wpAny_Compare1 (binT ha hb I h fun v u s2 x y H2 I2 rx ry q=>ho pins s2 σ H2 x y v u Q I2 rx ry q) hm
def tTest (t:TE):TT:=fun σ H Q=>t σ H fun x H'=>∃ k,x=.bl k/\Q k H'
theorem pt_cmpR {op:CmpOp}{r:R2} (ho:OpR X (compareOp op) r) (ha:PE X a ta) (hb:PE X b tb) (hm:behindInMarks op b=false):PT X (.Compare a [op] [b] pos) (tTest (tOp r ta tb)):=by
  intro pins s σ H Q I h
  refine wpAny_isTrue_Compare1 (thn (ha pins s σ H _ I h) fun v s1 ⟨x,H1,I1,r1,q1⟩=>thn (hb pins s1 σ H1 _ I1 q1) fun u s2 ⟨y,H2,I2,r2,q2⟩=>
    thn (ho pins s2 σ H2 x y v u _ I2 r1 r2 q2) fun c s3 ⟨z,H3,I3,r3,k,e,q3⟩=>?_) hm
  subst e
  cases r3
  exact wpAny_truthy_bool ⟨H3,I3,q3⟩
def tChain (r r':R2) (ta tb tc:TE):TE:=fun σ H Q=>ta σ H fun x H1=>tb σ H1 fun y H2=>r x y H2 fun z H3=>∃ k,z=.bl k/\
  (if k=true then tc σ H3 fun w' H4=>r' y w' H4 Q else Q (.bl false) H3)
def TruV (K:PySem.W.Frag) (x:V) (H:Hp) (k:Bool):Prop:=
  match x with
  | .non=>k=false
  | .bl b=>k=b
  | .int i=>k=(i != 0)
  | .str y=>y.length<=sizeLine/\k=((y.length:Int) != 0)
  | .byt y=>y.size<=sizeLine/\k=((y.size:Int) != 0)
  | .ref p=>(∃ xs,SqL K H p xs/\k=!xs.isEmpty)\/(∃ xs,SqT K H p xs/\k=!xs.isEmpty)\/∃ kvs,H p=some (.dK kvs)/\k=!kvs.isEmpty
  | _=>False
theorem line63:(sizeLine:Nat) < 2 ^ 63:=by rw [sizeLine_eq]; decide
theorem op_add_str:OpR X (binaryOp .Add) (fun x y H Q=>∃ i j,x=.str i/\y=.str j/\i.length+j.length<=sizeLine/\Q (.str (i++j)) H):=by
  intro pins s σ H x y v u Q I rx ry h
  obtain⟨i,j,rfl,rfl,hz,q⟩:=h
  obtain⟨t,rfl⟩:=rx
  obtain⟨t',rfl⟩:=ry
  exact add_str (fun t' tk=>⟨.str (i++j),H,I.tok _,⟨_,rfl⟩,q⟩) hz
def PlainIxT (b:Expr):Prop:=∀ o i,subscripted b false o i=operate [o,i] (getItem o i)
theorem vals1 {x:V}{us:List Value} (r:Vals [x] us):∃ u,us=[u]/\RelV x u:=by
  cases r with
  | cons r1 r2=>cases r2; exact⟨_,rfl,r1⟩
theorem vals2 {x y:V}{us:List Value} (r:Vals [x,y] us):∃ u w',us=[u,w']/\RelV x u/\RelV y w':=by
  cases r with
  | cons r1 r2=>
    cases r2 with
    | cons r3 r4=>cases r4; exact⟨_,_,rfl,r1,r3⟩
theorem call_max2 (hc:X.calm=true):CallR X (.builtin "max") (fun xs H Q=>∃ i j,xs=[.int i,.int j]/\Q (.int (if j > i then j else i)) H):=by
  intro pins s σ H xs us Q I r h
  obtain⟨i,j,rfl,q⟩:=h
  obtain⟨u,w',rfl,⟨t,rfl⟩,⟨t',rfl⟩⟩:=vals2 r
  refine max_two_ints (I.ok.hd hc) fun h' tk k=>⟨_,H,I.kept k,?_,q⟩
  by_cases hj:j > i
  · rw [if_pos hj,if_pos hj]; exact⟨_,rfl⟩
  · rw [if_neg hj,if_neg hj]; exact⟨_,rfl⟩
theorem call_int1:CallR X (.type "int") (fun xs H Q=>(∃ i,xs=[.int i]/\Q (.int i) H)\/∃ k,xs=[.bl k]/\Q (.int (if k then 1 else 0)) H):=by
  intro pins s σ H xs us Q I r h
  rcases h with⟨i,rfl,q⟩ | ⟨k,rfl,q⟩
  · obtain⟨u,rfl,t,rfl⟩:=vals1 r
    exact call_int_int ⟨.int i,H,I,⟨_,rfl⟩,q⟩
  · obtain⟨u,rfl,r1⟩:=vals1 r
    cases r1
    exact call_int_bool ⟨.int (if k then 1 else 0),H,I.tok _,⟨_,rfl⟩,q⟩
def LenV (K:PySem.W.Frag) (x:V) (H:Hp) (n:Nat):Prop:=
  match x with
  | .str y=>y.length<=sizeLine/\n=y.length
  | .byt y=>y.size<=sizeLine/\n=y.size
  | .ref p=>(∃ xs,SqL K H p xs/\n=xs.length)\/∃ xs,SqT K H p xs/\n=xs.length
  | _=>False
end
end L2
namespace L2
open PySem PySem.Spec PyProof.Rows
structure ObjM (h:Heap) (x dx C:Addr) (mA:Str->Option Value):Prop where
  obj:h.get? x=some (PySem.W.instObj C dx)
  ns:h.Ns1 dx mA
  ne:dx≠x
theorem lookIn_ns {h:Heap}{dx:Addr}{mA:Str->Option Value} (n:h.Ns1 dx mA):∃ od,h.get? dx=some od/\∀ name,PySem.W.lookIn name od=some (mA name):=by
  obtain⟨o,es,ep,ho,hd,hk,_,hm⟩:=n
  refine⟨o,ho,fun name=>?_⟩
  have e:=hm name
  unfold nsFind findBy at e
  rw [<-Array.find?_toList] at e
  unfold PySem.W.lookIn
  rw [hd]
  dsimp only
  split
  · rename_i y q
    rw [q] at e
    exact congrArg some e
  · rename_i q
    rw [q] at e
    have a:es.toList.any (·.refKey)=false:=by
      rw [List.any_eq_false]
      intro y hy
      obtain⟨z,t,hkey⟩:=hk y (Array.mem_toList_iff.mp hy)
      simp [DictEntry.refKey,hkey]
    have a':¬ es.toList.any (·.refKey)=true:=by rw [a]; exact Bool.false_ne_true
    rw [if_neg a']
    exact congrArg some e
theorem ObjM.look {h:Heap}{x dx C:Addr}{mA:Str->Option Value} (I:ObjM h x dx C mA):∃ od,PySem.W.InstAt h x (PySem.W.instObj C dx) C (some od)/\∀ name,PySem.W.lookIn name od=some (mA name):=
  let ⟨od,ho,hl⟩:=lookIn_ns I.ns
  ⟨od,⟨I.obj,rfl,rfl,ho⟩,hl⟩
section
variable {prog:Program}{w:World}{A:Around}{E:Value->Shared->Prop}{s:Shared}{K:PySem.W.Frag}{x dx C f:Addr}{mA:Str->Option Value}{name:Str}{v:Value}
end
def putF (f:Str) (v:V):List (Str×V)->List (Str×V)
  | []=>[(f,v)]
  | (g,x)::r=>if g=f then (g,v)::r else (g,x)::putF f v r
section
variable {P:Program}{w:World}{H H':Hp}{h h':Heap}{a C dx:Addr}{fs fs':List (Str×V)}
theorem ins_get (hok:HOk P w H h) (e:H a=some (.ins C dx fs)):∃ mA,ObjM h a dx C mA/\(∀ f,RelO (fs.lookup f) (mA f))/\PySem.Within mA (fs.map (·.1))/\fs.length<=1000/\H dx=some (.own a):=by
  obtain⟨d,z,ne,ob,mA,n,r,q⟩:=(show ObjOk P w H h a (.ins C dx fs) from hok a _ e)
  exact⟨mA,⟨ob,n,ne⟩,r,q,z,d⟩
end
structure Cls (K:PySem.W.Frag) (C:Addr):Prop where
  pg:PySem.W.plainGet K C Str.empty=true
  hd:PySem.W.hasDictIn K C=true
  po:PySem.W.plainOver K C=true
  sa:PySem.W.findIn K (.ref C) "__setattr__"=some (some (.builtin "object.__setattr__"))
theorem Cls.get {K:PySem.W.Frag}{C:Addr} (c:Cls K C) (f:Str):PySem.W.plainGet K C f=true:=c.pg
def NoAttr (K:PySem.W.Frag) (C:Addr) (f:Str):Prop:=PySem.W.findIn K (.ref C) f=some none
structure Con (K:PySem.W.Frag) (C:Addr) (f:Str) (v:V) (u:Value):Prop where
  at_:PySem.W.findIn K (.ref C) f=some (some u)
  rel:RelV v u
  get:PySem.W.specialIn K u "__get__"=some none
  cp:PySem.W.copiedNames.contains f=false
structure Meth (K:PySem.W.Frag) (C:Addr) (m:Str) (f:Addr):Prop where
  at_:PySem.W.findIn K (.ref C) m=some (some (.ref f))
  fn:PySem.W.isFn K (.ref f)=true
  kp:PySem.W.keepIn K (.ref f)=true
section
variable {X:Cx}{pins:List (Addr×Obj)}{σ:St}{H:Hp}{s:Shared}{a C dx:Addr}{fs:List (Str×V)}{f:Str}{v:V}{A:Around}{E:Value->Shared->Prop}
end
def tFld (K:PySem.W.Frag) (ta:TE) (f:Str):TE:=fun σ H Q=>ta σ H fun x H1=>∃ a C dx fs v,x=.ref a/\H1 a=some (.ins C dx fs)/\Cls K C/\NoAttr K C f/\fs.lookup f=some v/\Q v H1
def tCon (K:PySem.W.Frag) (ta:TE) (f:Str):TE:=fun σ H Q=>ta σ H fun x H1=>∃ a C dx fs v u,x=.ref a/\H1 a=some (.ins C dx fs)/\Cls K C/\Con K C f v u/\fs.lookup f=none/\Q v H1
def sFld (K:PySem.W.Frag) (ta tv:TE) (f:Str):TS:=fun D σ H=>tv σ H fun y H1=>ta σ H1 fun x H2=>∃ a C dx fs,x=.ref a/\H2 a=some (.ins C dx fs)/\Cls K C/\NoAttr K C f/\fs.length < 1000/\
  D.nx σ (upd H2 a (.ins C dx (putF f y fs)))
def InOp (X:Cx) (op:Operator) (rd:V->V->Hp->VK->Prop):Prop:=
  ∀ (pins:List (Addr×Obj)) (s:Shared) (σ:St) (H:Hp) (x y:V) (u v:Value) (Q:VK),Inv X pins σ H s->RelV x u->RelV y v->rd x y H Q->wpAny (model X.prog X.w) X.A (inplaceOp op u v) (EP X pins σ Q) X.xe s
def sFldAug (K:PySem.W.Frag) (ta tv:TE) (rd:V->V->Hp->VK->Prop) (f:Str):TS:=fun D σ H=>ta σ H fun x H1=>∃ a C dx fs v,x=.ref a/\H1 a=some (.ins C dx fs)/\Cls K C/\NoAttr K C f/\fs.lookup f=some v/\
  tv σ H1 fun y H2=>rd v y H2 fun z H3=>∃ dx' fs',H3 a=some (.ins C dx' fs')/\fs'.length < 1000/\D.nx σ (upd H3 a (.ins C dx' (putF f z fs')))
section
variable {X:Cx}{o e value:Expr}{f:Str}{pos pos' tpos:Pos}{ta tv:TE}
def rAdd:V->V->Hp->VK->Prop:=fun x y H Q=>∃ i j,x=.int i/\y=.int j/\Q (.int (i+j)) H
def rSub:V->V->Hp->VK->Prop:=fun x y H Q=>∃ i j,x=.int i/\y=.int j/\Q (.int (i - j)) H
end
section
variable {X:Cx}{pins:List (Addr×Obj)}{σ:St}{H:Hp}{s:Shared}{A:Around}{E:Value->Shared->Prop}{Q:Value->Shared->Prop}{c:Value}{b:Bool}
inductive TyOf (K:PySem.W.Frag) (H:Hp):V->Value->Prop where
  | non:TyOf K H .non (.type "NoneType")
  | bl (x:Bool):TyOf K H (.bl x) (.type "bool")
  | int (i:Int):TyOf K H (.int i) (.type "int")
  | str (x:Str):TyOf K H (.str x) (.type "str")
  | flt (x:UInt64):TyOf K H (.flt x) (.type "float")
  | lst {a:Addr}{xs:List V} (e:H a=some (.lst xs)):TyOf K H (.ref a) (.type "list")
  | frz {a:Addr}{o:Obj}{xs:List V} (e:H a=some (.frz o (.lst xs))):TyOf K H (.ref a) (.type "list")
  | tup {a:Addr}{xs:List V} (e:H a=some (.tup xs)):TyOf K H (.ref a) (.type "tuple")
  | dK {a:Addr}{kvs:List (Key×V)} (e:H a=some (.dK kvs)):TyOf K H (.ref a) (.type "dict")
  | dT {a:Addr}{kvs:List (List Key×V)} (e:H a=some (.dT kvs)):TyOf K H (.ref a) (.type "dict")
  | ins {a C dx:Addr}{fs:List (Str×V)} (e:H a=some (.ins C dx fs)) (cl:Cls K C) (ha:PySem.W.findIn K (.ref C) "__class__"=some (some (.builtin "object.__class__")))
      (hn:PySem.W.specialIn K (.builtin "object.__class__") "__get__"=some (some (.builtin "getset_descriptor.__get__"))) (htk:PySem.W.takesIn K (.builtin "object.__class__")=some true)
      (hm:PySem.W.mroIn K C (.type "object")=some true):TyOf K H (.ref a) (.ref C)
theorem isinst_ok {x:V}{u t:Value} (I:Inv X pins σ H s) (rx:RelV x u) (ty:TyOf X.K H x t) (e:PySem.W.kitOne X.K t c=some b) (h:∀ tk,Q (.bool b) { s with toks:=tk }):
    wpAny (model X.prog X.w) A (call (.builtin "isinstance") [u,c]) Q E s:=by
  cases ty with
  | non=>cases (show u=Value.none from rx); exact PySem.W.kia_one PySem.W.kitx_none I.kIn True.intro e (fun z=>nomatch z) h
  | bl y=>cases (show u=Value.bool y from rx); exact PySem.W.kia_one PySem.W.kitx_bool I.kIn True.intro e (fun z=>nomatch z) h
  | int i=>obtain⟨t,q⟩:=(show ∃ t,u=Value.int i t from rx); cases q; exact PySem.W.kia_one PySem.W.kitx_int I.kIn True.intro e (fun z=>nomatch z) h
  | str y=>obtain⟨t,q⟩:=(show ∃ t,u=Value.str y t from rx); cases q; exact PySem.W.kia_one PySem.W.kitx_str I.kIn True.intro e (fun z=>nomatch z) h
  | flt y=>obtain⟨t,q⟩:=(show ∃ t,u=Value.float y t from rx); cases q; exact PySem.W.kia_one PySem.W.kitx_float I.kIn True.intro e (fun z=>nomatch z) h
  | @lst a xs ea=>
    cases (show u=Value.ref a from rx)
    obtain⟨_,_,n,_,h1⟩:=(show ObjOk X.prog X.w H s.heap a (.lst xs) from I.hok a _ ea)
    exact PySem.W.kia_one PySem.W.kitx_list I.kIn ⟨_,h1,rfl⟩ e (fun z=>nomatch z) h
  | @frz a ob xs ea=>
    cases (show u=Value.ref a from rx)
    obtain⟨_,_,_,n,_,h1⟩:=(show ObjOk X.prog X.w H s.heap a (.frz ob (.lst xs)) from I.hok a _ ea)
    exact PySem.W.kia_one PySem.W.kitx_list I.kIn ⟨_,h1,rfl⟩ e (fun z=>nomatch z) h
  | @tup a xs ea=>
    cases (show u=Value.ref a from rx)
    obtain⟨_,_,_,p⟩:=(show ObjOk X.prog X.w H s.heap a (.tup xs) from I.hok a _ ea)
    obtain⟨o,h1,h2,_⟩:=p
    exact PySem.W.kia_one PySem.W.kitx_tuple I.kIn ⟨o,h1,h2⟩ e (fun z=>nomatch z) h
  | @dK a kvs ea=>
    cases (show u=Value.ref a from rx)
    obtain⟨_,_,vs,_,p⟩:=(show ObjOk X.prog X.w H s.heap a (.dK kvs) from I.hok a _ ea)
    obtain⟨o,es,ep,h1,h2,_⟩:=p
    exact PySem.W.kia_one PySem.W.kitx_dict I.kIn ⟨o,h1,h2.1⟩ e (fun z=>nomatch z) h
  | @dT a kvs ea=>
    cases (show u=Value.ref a from rx)
    obtain⟨_,_,xs,_,o,es,ep,h1,h2,_⟩:=(show ObjOk X.prog X.w H s.heap a (.dT kvs) from I.hok a _ ea)
    exact PySem.W.kia_one PySem.W.kitx_dict I.kIn ⟨o,h1,h2.1⟩ e (fun z=>nomatch z) h
  | @ins a C dx fs ea cl ha hn htk hm=>
    cases (show u=Value.ref a from rx)
    obtain⟨mA,O,_⟩:=ins_get I.hok ea
    obtain⟨od,J,_⟩:=O.look
    exact PySem.W.kia_one (PySem.W.kitx_own (cl.get _) cl.hd ha hn htk hm) I.kIn J e (fun z=>nomatch z) h
end
end L2
namespace L2
open PySem PySem.Spec PyProof.Rows
structure Room (k:Nat) (A:Around):Prop where
  hd:A.handled=none
  dp:A.depth+3*k+5 < recursionLimit
  un:A.units+16*k+200 < cLine
theorem Room.mono {j k:Nat}{A:Around} (r:Room k A) (h:j<=k):Room j A:=⟨r.hd,by have:=r.dp; omega,by have:=r.un; omega⟩
theorem Room.deeper {k:Nat}{A:Around} (r:Room (k+1) A) (env:Env):Room k (A.deeper env):=
  ⟨r.hd,by have:=r.dp; show A.depth+1+3*k+5 < _; omega,by have:=r.un; show A.units+3+16*k+200 < _; omega⟩
theorem Room.depth {k:Nat}{A:Around} (r:Room k A):A.depth < recursionLimit:=by have:=r.dp; omega
def tNil:TA:=fun _ H Q=>Q [] H
def tCons (ta:TE) (tr:TA):TA:=fun σ H Q=>ta σ H fun x H1=>tr σ H1 fun xs H2=>Q (x::xs) H2
section
variable {X:Cx}{e:Expr}{es:List Expr}{te:TE}{t:TA}{pos:Pos}
theorem pa_nil:PA X [] tNil:=fun _ _ _ _ H Q I h=>Calls.spliced_nil ⟨[],H,I,.nil,h⟩
theorem pa_cons (ha:PE X e te) (hr:PA X es t) (hs:starEach (e::es) X.env=(false,eval e X.env)::starEach es X.env:=by rfl):PA X (e::es) (tCons te t):=by
  intro pos pins s σ H Q I h
  rw [hs]
  show wpAny _ _ (spliced ((false,eval e X.env)::backTo pos (starEach es X.env))) _ _ s
  refine Calls.spliced_cons (thn (ha pins s σ H _ I h) fun u s1 ⟨x,H1,I1,r1,q1⟩=>?_)
  exact thn (hr pos pins s1 σ H1 _ I1 q1) fun us s2 ⟨xs,H2,I2,r2,q2⟩=>⟨x::xs,H2,I2,.cons r1 r2,q2⟩
def tTup (t:TA):TE:=fun σ H Q=>t σ H fun xs H1=>xs.length<=sizeLine/\∀ p,H1 p=none->Q (.ref p) (upd H1 p (.tup xs))
def tLst (t:TA):TE:=fun σ H Q=>t σ H fun xs H1=>xs.length<=sizeLine/\∀ p,H1 p=none->Q (.ref p) (upd H1 p (.lst xs))
theorem pe_tup {x1} (h:PA X es t):PE X (.Tuple es x1 pos) (tTup t):=by
  intro pins s σ H Q I hq
  refine wpAny_Tuple_spliced (thn (h pos pins s σ H _ I hq) fun us s1 ⟨xs,H1,I1,r,z,q⟩=>⟨by rw [<-r.length]; exact z,?_⟩)
  have hf:H1 s1.heap.objs.size=none:=I1.hok.fresh (Nat.le_refl _)
  refine⟨.ref s1.heap.objs.size,upd H1 s1.heap.objs.size (.tup xs),I1.laid (t':=s1.toks) (fun b u e=>Heap.get?_push_of_some _ e) (Nat.le_refl _) ?_,rfl,q _ hf⟩
  exact⟨z,us,r,⟨_,Heap.get?_push_size _ rfl,rfl,_,rfl⟩⟩
theorem pe_lst (h:PA X es t):PE X (.List es pos) (tLst t):=by
  intro pins s σ H Q I hq
  refine wpAny_List_spliced (thn (h pos pins s σ H _ I hq) fun us s1 ⟨xs,H1,I1,r,z,q⟩=>⟨by rw [<-r.length]; exact z,?_⟩)
  have hf:H1 s1.heap.objs.size=none:=I1.hok.fresh (Nat.le_refl _)
  refine⟨.ref s1.heap.objs.size,upd H1 s1.heap.objs.size (.lst xs),I1.laid (t':=s1.toks) (fun b u e=>Heap.get?_push_of_some _ e) (Nat.le_refl _) ?_,rfl,q _ hf⟩
  exact⟨z,us,0,r,Heap.get?_push_size _ rfl⟩
end
abbrev Sp:=List V->Hp->VK->XK->Prop
abbrev CXT:=List Env->Hp->Shared->XK->Value->Shared->Prop
structure Env0 (P:Program) (w:World) (K:PySem.W.Frag) (mg:Str->Option Value) (base:Heap) (A:Around) (outer:List Env) (s:Shared) (H:Hp):Prop where
  frames:A.frames=some outer
  mod:Mod K mg base
  bs:∀ b o,base.get? b=some o->s.heap.get? b=some o/\H b=none
  bsz:base.objs.size<=s.heap.objs.size
  funs:s.heap.FunFrames base outer
  frf:∀ b∈frs outer,H b=none
  hok:HOk P w H s.heap
  bare:AllBare s.gens
def CE (outer:List Env) (P:Program) (w:World) (H:Hp) (s:Shared) (Q:VK) (u:Value) (s':Shared):Prop:=
  ∃ v H',s'.os=s.os/\AllBare s'.gens/\Un (frs outer) [] H H' s.heap s'.heap/\HOk P w H' s'.heap/\RelV v u/\Q v H'
def CR (CX:CXT) (outer:List Env) (P:Program) (w:World) (H:Hp) (s:Shared) (Q:VK) (E:XK) (r:Result) (s':Shared):Prop:=
  match r with
  | .ok (.ret u)=>CE outer P w H s Q u s'
  | .ok _=>False
  | .error e=>CX outer H s E e s'
structure FnOk (P:Program) (w:World) (K:PySem.W.Frag) (mg:Str->Option Value) (base:Heap) (CX:CXT) (k:Nat) (f:Addr) (fd:FuncData) (ps:List Str) (sp:Sp):Prop where
  len:∀ vs H Q E,sp vs H Q E->vs.length=ps.length
  run:∀ (A:Around) (outer:List Env) (s:Shared) (H:Hp) (args:Args) (us:List Value) (vs:List V) (Q:VK) (E:XK),Room k A->Env0 P w K mg base A outer s H->BindsTo s fd args (ps.zip us)->Vals vs us->sp vs H Q E->
    codeAny (model P w) A (.call (.ref f) args) (CR CX outer P w H s Q E) s
theorem FnOk.mono {P:Program}{w:World}{K:PySem.W.Frag}{mg:Str->Option Value}{base:Heap}{CX:CXT}{j k:Nat}{f:Addr}{fd:FuncData}{ps:List Str}{sp:Sp} (F:FnOk P w K mg base CX j f fd ps sp) (h:j<=k):
    FnOk P w K mg base CX k f fd ps sp:=⟨F.len,fun A outer s H args us vs Q E hr=>F.run A outer s H args us vs Q E (hr.mono h)⟩
theorem FnOk.imp {P:Program}{w:World}{K:PySem.W.Frag}{mg:Str->Option Value}{base:Heap}{CX:CXT}{k:Nat}{f:Addr}{fd:FuncData}{ps:List Str}{sp sp':Sp} (F:FnOk P w K mg base CX k f fd ps sp)
    (h:∀ vs H Q E,sp' vs H Q E->sp vs H Q E):FnOk P w K mg base CX k f fd ps sp':=
  ⟨fun vs H Q E q=>F.len vs H Q E (h _ _ _ _ q),fun A outer s H args us vs Q E hr he hb hv hs=>F.run A outer s H args us vs Q E hr he hb hv (h _ _ _ _ hs)⟩
section
variable {X:Cx}{pins:List (Addr×Obj)}{σ:St}{H:Hp}{s s':Shared}
theorem Inv.env0 (I:Inv X pins σ H s):Env0 X.prog X.w X.K X.mg X.base X.A X.stack s H:=
  ⟨I.ok.frames,I.ok.mod,I.bs,Nat.le_trans I.ok.bsz I.sz,I.stack,I.stkFree,I.hok,I.bare⟩
theorem Inv.after {Q:VK}{u:Value} (I:Inv X pins σ H s) (h:CE X.stack X.prog X.w H s Q u s'):EP X pins σ Q u s':=by
  obtain⟨v,H',os,bare,un,hok,r,q⟩:=h
  obtain⟨hh,g,d,t,os'⟩:=s'
  obtain rfl:os'=s.os:=os
  exact⟨v,H',I.call (h':=hh) (g':=g) (d':=d) (t':=t) (ch:=[]) un hok bare (fun b z=>absurd z (by simp)),r,q⟩
end
def tCall (sp:Sp) (dvs:List V) (E:XK) (t:TA):TE:=fun σ H Q=>t σ H fun vs H1=>sp (vs++dvs) H1 Q E
def tMeth (C:Addr) (m:Str) (sp:Sp) (dvs:List V) (E:XK) (ta:TE) (t:TA):TE:=fun σ H Q=>ta σ H fun x H1=>∃ a dx fs,x=.ref a/\H1 a=some (.ins C dx fs)/\fs.lookup m=none/\
  t σ H1 fun vs H2=>sp (x::(vs++dvs)) H2 Q E
def tMake (C:Addr) (sp:Sp) (dvs:List V) (E:XK) (t:TA):TE:=fun σ H Q=>t σ H fun vs H1=>∀ x dx,H1 x=none->H1 dx=none->dx≠x->
  sp (.ref x::(vs++dvs)) (upd (upd H1 dx (.own x)) x (.ins C dx [])) (fun v H2=>v=.non/\Q (.ref x) H2) E
def Binds (K:PySem.W.Frag) (fd:FuncData) (ps:List Str) (ds:List Value):Prop:=
  ∀ (s:Shared) (us:List Value),K.In s.heap->(us++ds).length=ps.length->BindsTo s fd ⟨us,[]⟩ (ps.zip (us++ds))
theorem Binds.all {K:PySem.W.Frag}{fd:FuncData}{ps:List Str} (h:∀ us:List Value,us.length=ps.length->bindArgs fd ⟨us,[]⟩=pure (ps.zip us)):Binds K fd ps []:=fun s us _ hl=>by
  rw [List.append_nil] at hl |-
  exact .of_eq (h us hl)
def Passes (CX:CXT) (X:Cx) (E:XK):Prop:=∀ (pins:List (Addr×Obj)) (σ:St) (H:Hp) (s:Shared) (e:Value) (s':Shared),Inv X pins σ H s->CX X.stack H s E e s'->X.xe e s'
section
variable {X:Cx}{CX:CXT}{k:Nat}{f C:Addr}{fd:FuncData}{ps:List Str}{sp:Sp}{dvs:List V}{ds:List Value}{E:XK}{x m:Str}{p pos apos:Pos}{e o:Expr}{es:List Expr}{ta:TE}{t:TA}
theorem run_fn {pins:List (Addr×Obj)}{σ:St}{H:Hp}{s:Shared}{Q:VK}{us:List Value}{vs:List V} (F:FnOk X.prog X.w X.K X.mg X.base CX k f fd ps sp) (hr:Room k X.A) (hb:Binds X.K fd ps ds) (hd:Vals dvs ds) (hx:Passes CX X E)
    (I:Inv X pins σ H s) (r:Vals vs us) (h:sp (vs++dvs) H Q E):wpAny (model X.prog X.w) X.A (call (.ref f) us) (EP X pins σ Q) X.xe s:=by
  have r2:Vals (vs++dvs) (us++ds):=r.append hd
  have hl:(us++ds).length=ps.length:=by rw [<-r2.length]; exact F.len _ _ _ _ h
  refine wpAny_call (codeAny_mono (F.run X.A X.stack s H ⟨us,[]⟩ (us++ds) (vs++dvs) Q E hr I.env0 (hb s us I.kIn hl) r2 h) fun r s' hq=>?_)
  cases r with
  | error e=>exact hx pins σ H s e s' I hq
  | ok fl=>
    cases fl with
    | ret u=>exact I.after hq
    | next=>exact False.elim hq
    | brk=>exact False.elim hq
    | cont=>exact False.elim hq
theorem pe_call (F:FnOk X.prog X.w X.K X.mg X.base CX k f fd ps sp) (hr:Room k X.A) (hg:Gl X x) (hm:X.mg x=some (.ref f)) (hk:PySem.W.keepIn X.K (.ref f)=true) (hb:Binds X.K fd ps ds) (hd:Vals dvs ds) (hx:Passes CX X E)
    (ha:PA X (e::es) t) (hdb:(x==("__debug__":Str))=false:=by decide) (he:starEach (e::es) X.env=(false,eval e X.env)::starEach es X.env:=by rfl) (hpl:(backTo pos (starEach es X.env)).any (·.1)=false:=by rfl):
    PE X (.Call (.Name x p) (e::es) [] pos) (tCall sp dvs E t):=by
  intro pins s σ H Q I h
  refine wpAny_Call_Name_kw (ld_glob I hg hm ?_ hdb)
  refine PySem.W.callWith_K (h₀:=X.base) I.ok.mod.kin hk (thn (ha pos pins s σ H _ I h) fun us s1 ⟨vs,H1,I1,r,q⟩=>⟨I1.kIn,?_⟩) he hpl
  exact run_fn F hr hb hd hx I1 r q
structure Mk (K:PySem.W.Frag) (C f:Addr):Prop where
  makes:PySem.W.makesIn K C=true
  init:PySem.W.findIn K (.ref C) "__init__"=some (some (.ref f))
  fn:PySem.W.isFn K (.ref f)=true
  kp:PySem.W.keepIn K (.ref C)=true
end
def PK (X:Cx) (kws:List Keyword) (t:TA):Prop:=
  ∀ (pos:Pos) (pins:List (Addr×Obj)) (s:Shared) (σ:St) (H:Hp) (Q:List V->Hp->Prop),Inv X pins σ H s->t σ H Q->wpAny (model X.prog X.w) X.A (evalAll ((backToKw pos (keywordEach kws X.env)).map (·.2))) (AP X pins σ Q) X.xe s
section
variable {X:Cx}{CX:CXT}{k:Nat}{f C:Addr}{fd:FuncData}{ps ks:List Str}{sp:Sp}{E:XK}{x m:Str}{p pos apos kpos:Pos}{e o:Expr}{es:List Expr}{kws:List Keyword}{te ta:TE}{t tk:TA}{nm:Option Str}
structure KBinds (K:PySem.W.Frag) (fd:FuncData) (ps ks:List Str) (g:List Value->List Value->List Value) (gV:List V->List V->List V):Prop where
  to:∀ (s:Shared) (us ws:List Value),K.In s.heap->(g us ws).length=ps.length->BindsTo s fd ⟨us,ks.zip ws⟩ (ps.zip (g us ws))
  rel:∀ {vs:List V}{us:List Value}{zs:List V}{ws:List Value},Vals vs us->Vals zs ws->Vals (gV vs zs) (g us ws)
def tCallK (sp:Sp) (gV:List V->List V->List V) (E:XK) (t tk:TA):TE:=fun σ H Q=>t σ H fun vs H1=>tk σ H1 fun zs H2=>sp (gV vs zs) H2 Q E
variable {g:List Value->List Value->List Value}{gV:List V->List V->List V}
end
structure FnScope (N P:List Str) (sc:Scope):Prop where
  kind:sc.kind=.function
  co:sc.isCoroutine=false
  gen:sc.isGenerator=false
  nd:N.Nodup
  pre:N.take P.length=P
  par:∀ x∈P,sc.names.lookup x=some .local\/sc.names.lookup x=some .cell
  nofree:∀ y∈sc.names,y.2≠.free
theorem bindL_out {kindOf:Str->Option NameKind}{x:Str}:∀ {binds:List (Str×Value)}{m:Str->Option Value},(∀ v,(x,v)∉binds)->bindL kindOf binds m x=m x
  | [],_,_=>rfl
  | (n,v)::r,m,h=>by
    unfold bindL
    rw [bindL_out fun w hw=>h w (List.mem_cons_of_mem _ hw)]
    split
    · have:x≠n:=by rintro rfl; exact h v List.mem_cons_self
      simp [this]
    · rfl
theorem bindC_out {kindOf:Str->Option NameKind}{x:Str}:∀ {binds:List (Str×Value)}{m:Str->Option Value},(∀ v,(x,v)∉binds)->bindC kindOf binds m x=m x
  | [],_,_=>rfl
  | (n,v)::r,m,h=>by
    unfold bindC
    rw [bindC_out fun w hw=>h w (List.mem_cons_of_mem _ hw)]
    split
    · rfl
    · have:x≠n:=by rintro rfl; exact h v List.mem_cons_self
      simp [this]
theorem bindL_get {kindOf:Str->Option NameKind}{x:Str}{v:Value}:∀ {P:List Str}{vs:List Value}{i:Nat}{m:Str->Option Value},P.Nodup->P[i]?=some x->vs[i]?=some v->kindOf x=some .local->
    bindL kindOf (P.zip vs) m x=some v
  | [],_,_,_,_,h,_,_=>by simp at h
  | _::_,[],_,_,_,_,h,_=>by simp at h
  | p::P,w::vs,0,m,nd,h1,h2,hk=>by
    simp at h1 h2; subst h1; subst h2
    show bindL kindOf ((p,w)::P.zip vs) m p=_
    unfold bindL
    rw [bindL_out fun v hv=>(List.nodup_cons.mp nd).1 (List.of_mem_zip hv).1,if_pos hk]
    simp
  | p::P,w::vs,i+1,m,nd,h1,h2,hk=>by
    show bindL kindOf ((p,w)::P.zip vs) m x=_
    unfold bindL
    exact bindL_get (i:=i) (List.nodup_cons.mp nd).2 (by simpa using h1) (by simpa using h2) hk
theorem bindC_get {kindOf:Str->Option NameKind}{x:Str}{v:Value}:∀ {P:List Str}{vs:List Value}{i:Nat}{m:Str->Option Value},P.Nodup->P[i]?=some x->vs[i]?=some v->kindOf x≠some .local->
    bindC kindOf (P.zip vs) m x=some v
  | [],_,_,_,_,h,_,_=>by simp at h
  | _::_,[],_,_,_,_,h,_=>by simp at h
  | p::P,w::vs,0,m,nd,h1,h2,hk=>by
    simp at h1 h2; subst h1; subst h2
    show bindC kindOf ((p,w)::P.zip vs) m p=_
    unfold bindC
    rw [bindC_out fun v hv=>(List.nodup_cons.mp nd).1 (List.of_mem_zip hv).1,if_neg hk]
    simp
  | p::P,w::vs,i+1,m,nd,h1,h2,hk=>by
    show bindC kindOf ((p,w)::P.zip vs) m x=_
    unfold bindC
    exact bindC_get (i:=i) (List.nodup_cons.mp nd).2 (by simpa using h1) (by simpa using h2) hk
def start (N:List Str) (vs:List V):St:=vs.map some++List.replicate (N.length - vs.length) none
def cxOf (CX:CXT) (P:Program) (w:World) (K:PySem.W.Frag) (mg:Str->Option Value) (base:Heap) (N:List Str) (qual:Str) (scope:Scope) (f:Addr) (cd:Value) (A:Around) (outer:List Env) (s:Shared) (H:Hp) (E:XK):Cx where
  prog:=P
  w:=w
  K:=K
  mg:=mg
  base:=base
  A:=A.deeper (envOfC qual scope s.heap.objs.size f cd)
  N:=N
  s₀:=s
  H₀:=H
  env:=envOfC qual scope s.heap.objs.size f cd
  outer:=outer
  stack:=envOfC qual scope s.heap.objs.size f cd::outer
  ex:=[]
  calm:=true
  fn:=fun _=>true
  pn:=[]
  xe:=fun e s'=>wpAny (model P w) (A.deeper (envOfC qual scope s.heap.objs.size f cd)) (leaving (envOfC qual scope s.heap.objs.size f cd) e) (fun _ s''=>CX outer H s E e s'') (fun e' s''=>CX outer H s E e' s'') s'
theorem cell_has {sc:Scope}{n:Nat}{x:Str} (h:sc.names.lookup x=some .cell):∃ c,(cellsFrom n sc.names []).lookup x=some c:=by
  have q:=PySem.W.cellsFrom_some sc.names n [] (.inl h)
  exact Option.isSome_iff_exists.mp q
theorem inv_start {CX:CXT}{P:Program}{w:World}{K:PySem.W.Frag}{mg:Str->Option Value}{base:Heap}{N ps:List Str}{qual:Str}{scope:Scope}{f:Addr}{cd:Value}{A:Around}{outer:List Env}{s s1:Shared}{H:Hp}{E:XK}{us:List Value}{vs:List V}
    (S:FnScope N ps scope) (hd:A.handled=none) (e0:Env0 P w K mg base A outer s H) (hl:vs.length=ps.length) (r:Vals vs us)
    (x:InCallC s s.heap.objs.size (bindL (envOfC qual scope s.heap.objs.size f cd).kindOf (ps.zip us) fun _=>none) (cellsFrom (s.heap.objs.size+1) scope.names []) (bindC (envOfC qual scope s.heap.objs.size f cd).kindOf (ps.zip us) fun _=>none) s1):
    Inv (cxOf CX P w K mg base N qual scope f cd A outer s H E) [] (start N vs) H s1:=by
  have hpl:ps.length<=N.length:=by have:=congrArg List.length S.pre; rw [List.length_take] at this; omega
  obtain⟨h1,tk,rfl,hk⟩:=x.done
  have noA:∀ b:Addr,b∉(cxOf CX P w K mg base N qual scope f cd A outer s H E).ex:=fun b z=>absurd (show b∈([]:List Addr) from z) (by simp)
  refine⟨⟨e0.mod,S.kind,rfl,rfl,Nat.le_refl _,fun y z c h1 h2=>?_,fun y hy=>?_,fun y c _ h=>?_,fun _=>hd,Around.frames_deeper e0.frames,.inr ⟨rfl,rfl⟩,fun b z=>absurd z (noA b),e0.bs,e0.bsz,fun b _ _=>noA b,fun b z=>absurd z (noA b),e0.funs,e0.frf⟩,
    rfl,e0.bare,Un.kept hk,⟨_,x.toInCall.ns,fun i y v h1 h2 h3=>?_⟩,fun y c h=>⟨_,x.cell y c h⟩,e0.hok.fresh (Nat.le_refl _),fun y c h=>?_,fun p hp=>absurd (show p∈([]:List (Addr×Obj)) from hp) (by simp),e0.hok.kept hk,?_⟩
  · exact name_of_addr x.apart (PySem.mem_of_lookup h1) (PySem.mem_of_lookup h2)
  · have hy:scope.names.lookup y=some .cell\/scope.names.lookup y=some .free:=hy
    rcases hy with hy | hy
    · exact cell_has hy
    · exact absurd rfl (S.nofree _ (PySem.mem_of_lookup hy))
  · exact Nat.le_of_lt (x.above y c (PySem.mem_of_lookup h))
  · have hi:i < vs.length:=by
      unfold start at h2
      by_cases hi:i < vs.length
      · exact hi
      · rw [List.getElem?_append_right (by simpa using hi)] at h2
        rw [List.getElem?_replicate] at h2
        split at h2<;>cases h2
    have ha:vs[i]?=some v:=by
      unfold start at h2
      rw [List.getElem?_append_left (by simpa using hi),List.getElem?_map] at h2
      cases e:vs[i]? with
      | none=>rw [e] at h2; cases h2
      | some a=>rw [e] at h2; cases h2; rfl
    obtain⟨u,hu,rv⟩:=r.get ha
    have hp:ps[i]?=some y:=by
      rw [<-S.pre,List.getElem?_take_of_lt (by omega)]; exact h1
    have ndP:ps.Nodup:=by rw [<-S.pre]; exact S.nd.sublist (List.take_sublist _ _)
    refine⟨u,rv,?_⟩
    rcases S.par y (List.mem_of_getElem? hp) with k | k
    · exact .inl ⟨k,bindL_get ndP hp hu k⟩
    · obtain⟨c,e⟩:=cell_has (n:=s.heap.objs.size+1) k
      refine .inr ⟨.inl k,c,e,?_⟩
      have q:=x.cell y c e
      rw [bindC_get ndP hp hu (by show scope.names.lookup y≠_; rw [k]; decide)] at q
      exact q
  · exact e0.hok.fresh (Nat.le_of_lt (x.above y c (PySem.mem_of_lookup h)))
  · unfold start
    show _=N.length
    rw [List.length_append,List.length_map,List.length_replicate]
    omega
theorem fn_of {CX:CXT}{P:Program}{w:World}{K:PySem.W.Frag}{mg:Str->Option Value}{base:Heap}{k:Nat}{f:Addr}{name qual:Str}{params:Arguments}{body:List Stmt}{scope:Scope}{dV kV doc pm cdv ct oc:Value}{an od:Option Addr}
    {osl:Array (Option Value)}{N ps:List Str}{sp:Sp} (lk:K.lookup f=some ⟨oc,od,.func (PySem.W.fnOf name qual params body scope dV kV doc pm an cdv ct),osl⟩) (hcd:PySem.W.codeIn K cdv qual=true) (S:FnScope N ps scope)
    (len:∀ vs H Q E,sp vs H Q E->vs.length=ps.length)
    (hbody:∀ (A:Around) (outer:List Env) (s:Shared) (H:Hp) (vs:List V) (Q:VK) (E:XK),Room k (A.deeper (envOfC qual scope s.heap.objs.size f cdv))->sp vs H Q E->
      ∃ t,PSs (cxOf CX P w K mg base N qual scope f cdv A outer s H E) body t/\t { nx:=fun _ H'=>Q .non H',rt:=Q } (start N vs) H):
    FnOk P w K mg base CX (k+1) f (PySem.W.fnOf name qual params body scope dV kV doc pm an cdv ct) ps sp:=by
  refine⟨len,fun A outer s H args us vs Q E hr e0 hb r hsp=>?_⟩
  have hl:=len _ _ _ _ hsp
  have KX:K.In s.heap:=e0.mod.kin.keeps fun b o e=>(e0.bs b o e).1
  have lim:s.heap.NoLimit:=e0.mod.nolimit.keeps fun b o e=>(e0.bs b o e).1
  have hkind:∀ y∈ps.zip us,scope.names.lookup y.1=some .local\/(scope.names.lookup y.1=some .cell/\((cellsFrom (s.heap.objs.size+1) scope.names []).lookup y.1).isSome=true):=fun⟨n,v⟩ hy=>by
    rcases S.par n (List.of_mem_zip hy).1 with q | q
    · exact .inl q
    · exact .inr ⟨q,PySem.W.cellsFrom_some _ _ _ (.inl q)⟩
  refine codeAny_call_function hr.depth (KX _ _ lk) rfl S.co S.gen rfl (PySem.W.codeRec_of KX hcd) (hb _ _ _ _ ?_)
  refine wpAny_newFunctionEnv_cells S.kind hkind fun env he s1 x=>?_
  subst he
  refine⟨lim.keeps x.toInCall.keep,codeAny_func ?_⟩
  obtain⟨t,ht,hq⟩:=hbody A outer s H vs Q E (hr.deeper _) hsp
  have I:Inv (cxOf CX P w K mg base N qual scope f cdv A outer s H E) [] (start N vs) H s1:=inv_start S hr.hd e0 hl r x
  refine wpAny_mono (ht [] s1 (start N vs) H _ I hq) (fun fl s' hs=>?_) fun e s' hs=>hs
  have fin:∀ {σ':St}{H':Hp}{v:V}{u:Value},Inv (cxOf CX P w K mg base N qual scope f cdv A outer s H E) [] σ' H' s'->RelV v u->Q v H'->CE outer P w H s Q u s':=
    fun {σ' H' v u} J rv q=>⟨v,H',J.os,J.bare,J.base,J.hok,rv,q⟩
  cases fl with
  | ret u=>
    obtain⟨v,σ',H',J,rv,q⟩:=hs
    exact fin J rv q
  | next=>
    obtain⟨σ',H',J,q⟩:=hs
    exact fin (v:=V.non) (u:=Value.none) J rfl q
  | brk=>
    obtain⟨_,_,_,q⟩:=hs
    exact False.elim q
  | cont=>
    obtain⟨_,_,_,q⟩:=hs
    exact False.elim q
end L2
namespace L2
open PySem PySem.Spec PyProof.Rows
section
variable {X:Cx}{x:Str}{p pos:Pos}{e:Expr}{es:List Expr}{t:TA}{id T:String}{r:List V->Hp->VK->Prop}
def tCB (r:List V->Hp->VK->Prop) (t:TA):TE:=fun σ H Q=>t σ H fun vs H1=>r vs H1 Q
theorem pe_callB (hc:CallR X (.builtin id) r) (hg:Gl X x) (hm:X.mg x=none) (hv:bootBuiltins x=some (.builtin id)) (ha:PA X (e::es) t) (hn:x≠"__name__":=by decide) (hdb:(x==("__debug__":Str))=false:=by decide)
    (he:starEach (e::es) X.env=(false,eval e X.env)::starEach es X.env:=by rfl) (hpl:(backTo pos (starEach es X.env)).any (·.1)=false:=by rfl):PE X (.Call (.Name x p) (e::es) [] pos) (tCB r t):=by
  intro pins s σ H Q I h
  refine wpAny_Call_Name_kw (ld_blt I hg hm hv ?_ hn hdb)
  exact PyProof.Rows.callWith_builtin1 (thn (ha pos pins s σ H _ I h) fun us s1 ⟨vs,H1,I1,r1,q1⟩=>hc pins s1 σ H1 vs us Q I1 r1 q1) he hpl
theorem pe_callTy (hc:CallR X (.type T) r) (hg:Gl X x) (hm:X.mg x=none) (hv:bootBuiltins x=some (.type T)) (ha:PA X (e::es) t) (hn:x≠"__name__":=by decide) (hdb:(x==("__debug__":Str))=false:=by decide)
    (he:starEach (e::es) X.env=(false,eval e X.env)::starEach es X.env:=by rfl) (hpl:(backTo pos (starEach es X.env)).any (·.1)=false:=by rfl):PE X (.Call (.Name x p) (e::es) [] pos) (tCB r t):=by
  intro pins s σ H Q I h
  refine wpAny_Call_Name_kw (ld_blt I hg hm hv ?_ hn hdb)
  exact PyProof.Rows.callWith_type1 (thn (ha pos pins s σ H _ I h) fun us s1 ⟨vs,H1,I1,r1,q1⟩=>hc pins s1 σ H1 vs us Q I1 r1 q1) he hpl
end
end L2
namespace HT
open PySem PyProof.Rows
def lexLt:List Int->List Int->Bool
  | [],[]=>false
  | [],_::_=>true
  | _::_,[]=>false
  | x::xs,y::ys=>if x=y then lexLt xs ys else decide (x < y)
section
open PySem.SeqAt
open PySem.AutoSeq1 (wpAny_loadPart')
open PySem.MeetsSeq PySem.MeetsSeq2 PySem.MeetsSeq3
end
section
variable {prog:Program}{w:World}{A:Around}{E:Value->Shared->Prop}{s:Shared}
theorem cat_tup {t b:Addr}{vs ws:List Value}{Q:Value->Shared->Prop} (ht:IsTup s.heap t vs.toArray) (hb:IsTup s.heap b ws.toArray) (hv:vs≠[])
    (h1:ws=[]->Q (.ref t) s) (h2:ws≠[]->Q (.ref s.heap.objs.size) { s with heap:=s.heap.push { cls:=.type "tuple",data:=.seq (vs++ws).toArray } })
    (hsz:vs.length+ws.length<=sizeLine):wpAny (model prog w) A (binaryOp .Add (.ref t) (.ref b)) Q E s:=by
  obtain⟨⟨cls,dd,data,sl⟩,ho,hc,n,hd⟩:=id ht
  obtain⟨⟨cls2,dd2,data2,sl2⟩,ho2,hc2,n2,hd2⟩:=id hb
  simp only at hc hd hc2 hd2
  subst hc hd hc2 hd2
  have e:vs.toArray++ws.toArray=(vs++ws).toArray:=by simp
  by_cases hw:ws=[]
  · exact concat_meets ⟨_,ho,rfl⟩ ⟨_,ho2,rfl⟩ noFill_tuple_add seq_tuple_add PySem.F.slot_tuple_add PySem.F.entry_tuple_add (PySem.F.args_tuple_add_2 _ _)
      (tuple_addW1 t b vs.toArray ws.toArray n n2 dd dd2 sl sl2 (by simpa using hv) (by simp [hw])) ⟨ho,ho2,h1 hw⟩
  · refine concat_meets ⟨_,ho,rfl⟩ ⟨_,ho2,rfl⟩ noFill_tuple_add seq_tuple_add PySem.F.slot_tuple_add PySem.F.entry_tuple_add (PySem.F.args_tuple_add_2 _ _)
      (tuple_addW2 t b vs.toArray ws.toArray n n2 dd dd2 sl sl2 (by simpa using hv) (by simpa using hw) (by rw [List.size_toArray,List.size_toArray]; exact hsz)) ⟨ho,ho2,?_⟩
    rw [e]
    exact h2 hw
def sIx (n d:Nat):Option Int->Nat
  | none=>d
  | some v=>if v < 0 then (v+(n:Int)).toNat else min v.toNat n
theorem sIx_none (n d:Nat):sIx n d none=d:=rfl
theorem sIx_nat (n d k:Nat):sIx n d (some (k:Int))=min k n:=by
  show (if (k:Int) < 0 then ((k:Int)+(n:Int)).toNat else min (k:Int).toNat n)=min k n
  rw [if_neg (by omega),Int.toNat_natCast]
theorem sIx_le (n d:Nat) (hd:d<=n) (o:Option Int):sIx n d o<=n:=by
  cases o with
  | none=>exact hd
  | some v=>
    show (if v < 0 then (v+(n:Int)).toNat else min v.toNat n)<=n
    by_cases hv:v < 0
    · rw [if_pos hv]; omega
    · rw [if_neg hv]; exact Nat.min_le_right _ _
theorem clip_eq (v:Int) (n d:Nat):(if v < 0 then max (v+(n:Int)) 0 else min v (n:Int))=((sIx n d (some v):Nat):Int):=by
  show (if v < 0 then max (v+(n:Int)) 0 else min v (n:Int))=(((if v < 0 then (v+(n:Int)).toNat else min v.toNat n):Nat):Int)
  by_cases hv:v < 0
  · simp only [if_pos hv]; omega
  · simp only [if_neg hv]; omega
theorem adjust_gen (lo hi:Option Int) (n:Nat):Builtin.Slice.sliceAdjust lo hi 1 (n:Int)=(((sIx n 0 lo:Nat):Int),((sIx n n hi:Nat):Int)):=by
  have h1:¬ ((1:Int) < 0):=by omega
  unfold Builtin.Slice.sliceAdjust
  simp only [h1,if_false]
  refine Prod.ext ?_ ?_
  · cases lo with
    | none=>rfl
    | some v=>exact clip_eq v n 0
  · cases hi with
    | none=>rfl
    | some v=>exact clip_eq v n n
theorem places_gen (i j:Nat):Builtin.Slice.slicePlaces (i:Int) (j:Int) 1=j - i:=by
  unfold Builtin.Slice.slicePlaces
  have h1:(1:Int) > 0:=by omega
  simp only [h1,if_true,Int.ediv_one]
  split<;>omega
theorem slicePart_ {v:Value}{o:Option Int}{Q:Option Int->Shared->Prop} (p:IsPart v o) (h:Q o s):wpAny (model prog w) A (Builtin.Slice.slicePartIndex v) Q E s:=by
  cases p with
  | none=>exact slicePart_none h
  | int i t=>exact slicePart_int h
theorem sliceApplied_gen {sl:Addr}{vl vu:Value}{lo hi:Option Int}{n:Nat}{Q:Int×Int×Nat->Shared->Prop} (hs:s.heap.IsSliceOf sl vl vu .none) (pl:IsPart vl lo) (pu:IsPart vu hi)
    (h:Q (((sIx n 0 lo:Nat):Int),1,sIx n n hi - sIx n 0 lo) s):wpAny (model prog w) A (Builtin.Slice.sliceApplied (.ref sl) (pure (n:Int))) Q E s:=by
  obtain⟨os,hos,hcs,hds⟩:=id hs
  unfold Builtin.Slice.sliceApplied Builtin.Slice.sliceFields
  refine wpAny_bind (wpAny_bind (wpAny_field hos hds (x:=vl) rfl (wpAny_bind (wpAny_field hos hds (x:=vu) rfl (wpAny_bind (wpAny_field hos hds (x:=.none) rfl (wpAny_pure ?_)))))))
  refine wpAny_bind (slicePart_none ?_)
  show wpAny _ _ (if ((1:Int)==0)=true then _ else _) _ _ s
  rw [if_neg (by decide)]
  refine wpAny_bind (slicePart_ pl (wpAny_bind (slicePart_ pu (wpAny_bind (wpAny_pure ?_)))))
  show wpAny _ _ (match Builtin.Slice.sliceAdjust lo hi 1 (n:Int) with | (lo,hi)=>pure (lo,(1:Int),Builtin.Slice.slicePlaces lo hi 1)) _ _ s
  rw [adjust_gen lo hi n]
  show wpAny _ _ (pure (((sIx n 0 lo:Nat):Int),(1:Int),Builtin.Slice.slicePlaces ((sIx n 0 lo:Nat):Int) ((sIx n n hi:Nat):Int) 1)) _ _ s
  rw [places_gen]
  exact wpAny_pure h
theorem pick_gen (xs:Array Value) (i k:Nat):((List.range k).filterMap fun (m:Nat)=>xs[((i:Int)+(m:Int)*1).toNat]?).toArray=((xs.toList.drop i).take k).toArray:=by
  have e:(fun (m:Nat)=>xs[((i:Int)+(m:Int)*1).toNat]?)=fun m=>xs[i+m]?:=by
    funext m
    have:((i:Int)+(m:Int)*1).toNat=i+m:=by omega
    rw [this]
  rw [e]
  have:=pick_run xs i k
  rw [List.filterMap_map] at this
  have e2:((fun x=>xs[x]?) ∘ fun x=>i+x)=fun m=>xs[i+m]?:=rfl
  rw [e2] at this
  rw [this]
theorem getItem_tuple_cut {t sl:Addr}{items:Array Value}{vl vu:Value}{lo hi:Option Int}{Q:Value->Shared->Prop} (ht:IsTup s.heap t items) (hs:s.heap.IsSliceOf sl vl vu .none) (pl:IsPart vl lo) (pu:IsPart vu hi)
    (hw:¬ (sIx items.size 0 lo=0/\sIx items.size items.size hi=items.size))
    (h:Q (.ref s.heap.objs.size) { s with heap:=s.heap.push { cls:=.type "tuple",data:=.seq ((items.toList.drop (sIx items.size 0 lo)).take (sIx items.size items.size hi - sIx items.size 0 lo)).toArray } })
    (hsz:items.size<=sizeLine):wpAny (model prog w) A (getItem (.ref t) (.ref sl)) Q E s:=by
  have htake:sizeOk (.seq ((items.toList.drop (sIx items.size 0 lo)).take (sIx items.size items.size hi - sIx items.size 0 lo)).toArray):=by
    show ((items.toList.drop (sIx items.size 0 lo)).take (sIx items.size items.size hi - sIx items.size 0 lo)).toArray.size<=sizeLine
    rw [List.size_toArray,List.length_take,List.length_drop,Array.length_toList]
    omega
  have hj:sIx items.size items.size hi<=items.size:=sIx_le _ _ (Nat.le_refl _) hi
  obtain⟨os,hos,hcs,hds⟩:=id hs
  have hTs:s.TypeIs (.ref sl) "slice":=⟨os,hos,hcs⟩
  unfold getItem
  try with_reducible refine wpAny_holding ?_
  first | refine wpAny_bind (wpAny_pure ?_) | skip
  refine wpAny_bind (wpAny_sequenceKey ht.typeIs (by decide) ?_)
  refine wpAny_bind (wpAny_callSpecial?_slot (name:=Str.ofString "__getitem__") ht.typeIs PyProof.Rows.slot_tuple_getitem
    (wpAny_call_entry PyProof.Rows.slot_tuple_getitem ht.typeIs entry_tuple_getitem ?_ (args_tuple_getitem _ _)))
  show wpAny _ _ (Builtin.Tuple.tupleItemsOf (.ref t) >>= _) _ _ s
  refine wpAny_bind (tupleItemsOf_ ht ?_)
  refine wpAny_bind (wpAny_typeOf hTs ?_)
  rw [if_pos (by decide)]
  refine wpAny_bind (sliceApplied_gen hs pl pu ?_)
  have hno:¬ ((((sIx items.size 0 lo:Nat):Int)==0&&(1:Int)==1&&(sIx items.size items.size hi - sIx items.size 0 lo)==items.size)=true):=by
    intro q
    rw [Bool.and_eq_true,Bool.and_eq_true] at q
    have q1:((sIx items.size 0 lo:Nat):Int)=0:=eq_of_beq q.1.1
    have q2:sIx items.size items.size hi - sIx items.size 0 lo=items.size:=eq_of_beq q.2
    exact hw ⟨by omega,by omega⟩
  show wpAny _ _ (if (((sIx items.size 0 lo:Nat):Int)==0&&(1:Int)==1&&(sIx items.size items.size hi - sIx items.size 0 lo)==items.size)=true then _ else _) _ _ s
  rw [if_neg hno,pick_gen]
  first
    | exact wpAny_bind (m:=Builtin.Tuple.tupleExact _) (wpAny_newObj_type (wpAny_pure ⟨_,rfl,wpAny_pure h⟩) htake)
    | exact wpAny_bind (m:=Builtin.Tuple.tupleExact _) (wpAny_newObj_type (wpAny_bind (wpAny_pure (wpAny_pure ⟨_,rfl,wpAny_pure h⟩))) htake)
    | exact wpAny_bind (wpAny_bind (m:=Builtin.Tuple.tupleExact _) (wpAny_newObj_type (wpAny_pure (wpAny_pure ⟨_,rfl,wpAny_pure h⟩)) htake))
    | exact wpAny_bind (wpAny_bind (m:=Builtin.Tuple.tupleExact _) (wpAny_newObj_type (wpAny_pure ⟨_,rfl,wpAny_pure h⟩) htake))
end
end HT
namespace L2
open PySem PySem.Spec PyProof.Rows
abbrev TO:=St->Hp->(Option Int->Hp->Prop)->Prop
def PO (X:Cx) (e:Option Expr) (t:TO):Prop:=
  ∀ (pins:List (Addr×Obj)) (s:Shared) (σ:St) (H:Hp) (Q:Option Int->Hp->Prop),Inv X pins σ H s->t σ H Q->
    wpAny (model X.prog X.w) X.A (evalPart e X.env) (fun u s'=>∃ o H',Inv X pins σ H' s'/\IsPart u o/\Q o H') X.xe s
def tNoPart:TO:=fun _ H Q=>Q none H
def tPart (t:TE):TO:=fun σ H Q=>t σ H fun x H1=>∃ i,x=.int i/\Q (some i) H1
theorem intsAre_of {ns:List Int}:∀ {us:List Value},Vals (ns.map V.int) us->IntsAre us ns:=by
  induction ns with
  | nil=>intro us r; rw [List.map_nil] at r; cases r; exact .nil
  | cons n ns ih=>
    intro us r
    rw [List.map_cons] at r
    cases r with
    | cons r1 r2=>
      obtain⟨t,e⟩:=r1
      subst e
      exact .cons n t (ih r2)
section
variable {X:Cx}{e:Expr}{te:TE}{lo hi:Option Expr}{tl th:TO}{pos p2:Pos}
theorem po_none:PO X none tNoPart:=by
  intro pins s σ H Q I h
  rw [evalPart_none]
  exact wpAny_pure ⟨none,H,I,.none,h⟩
theorem po_some (h:PE X e te):PO X (some e) (tPart te):=by
  intro pins s σ H Q I hw
  rw [evalPart_some]
  refine thn (h pins s σ H _ I hw) fun u s1 ⟨x,H1,I1,r1,q1⟩=>?_
  obtain⟨i,rfl,q⟩:=q1
  obtain⟨t,rfl⟩:=r1
  exact⟨some i,H1,I1,.int i t,q⟩
def SlR (X:Cx) (r:V->Option Int->Option Int->Hp->VK->Prop):Prop:=
  ∀ (pins:List (Addr×Obj)) (s:Shared) (σ:St) (H:Hp) (x:V) (v vl vu:Value) (lo hi:Option Int) (sl:Addr) (Q:VK),Inv X pins σ H s->RelV x v->s.heap.IsSliceOf sl vl vu .none->IsPart vl lo->IsPart vu hi->r x lo hi H Q->
    ∃ T id,typeLookup (.type T) "__getitem__"=pure (some (.builtin id))/\s.TypeIs v T/\wpAny (model X.prog X.w) X.A (getItem v (.ref sl)) (EP X pins σ Q) X.xe s
theorem SlR.or {r r':V->Option Int->Option Int->Hp->VK->Prop} (h:SlR X r) (h':SlR X r'):SlR X (fun x lo hi H Q=>r x lo hi H Q\/r' x lo hi H Q):=by
  intro pins s σ H x v vl vu lo hi sl Q I rx hs pl pu q
  rcases q with q | q
  · exact h pins s σ H x v vl vu lo hi sl Q I rx hs pl pu q
  · exact h' pins s σ H x v vl vu lo hi sl Q I rx hs pl pu q
def tSl (r:V->Option Int->Option Int->Hp->VK->Prop) (te:TE) (tl th:TO):TE:=fun σ H Q=>te σ H fun x H1=>tl σ H1 fun l H2=>th σ H2 fun u H3=>r x l u H3 Q
theorem pe_slice {r:V->Option Int->Option Int->Hp->VK->Prop} (hr:SlR X r) (he:PE X e te) (hl:PO X lo tl) (hu:PO X hi th):PE X (.Subscript e (.Slice lo hi none p2) pos) (tSl r te tl th):=by
  intro pins s σ H Q I h
  refine Subscript_ (thn (he pins s σ H _ I h) fun v s1 ⟨x,H1,I1,r1,q1⟩=>?_)
  refine wpAny_Slice (thn (hl pins s1 σ H1 _ I1 q1) fun vl s2 ⟨l,H2,I2,pl,q2⟩=>thn (hu pins s2 σ H2 _ I2 q2) fun vu s3 ⟨u,H3,I3,pu,q3⟩=>?_)
  rw [evalPart_none]
  refine wpAny_pure ?_
  have I4:Inv X pins σ H3 { s3 with heap:=s3.heap.push { cls:=.type "slice",data:=.fields #[vl,vu,.none] } }:=I3.kept (t':=s3.toks) fun b ob q=>Heap.get?_push_of_some _ q
  obtain⟨T,id,hT,ht,hg⟩:=hr pins { s3 with heap:=s3.heap.push { cls:=.type "slice",data:=.fields #[vl,vu,.none] } } σ H3 x v vl vu l u s3.heap.objs.size Q I4 r1 (Heap.IsSliceOf.new ..) pl pu q3
  show wpAny (model X.prog X.w) X.A (subscriptTail e (.Slice lo hi none p2) v (.ref s3.heap.objs.size)) (EP X pins σ Q) X.xe { s3 with heap:=s3.heap.push { cls:=.type "slice",data:=.fields #[vl,vu,.none] } }
  exact tail_any (ops:=[.ref s3.heap.objs.size,v]) ht hT hg (by with_unfolding_all rfl)
def cutV (xs:List V) (lo hi:Option Int):List V:=(xs.drop (HT.sIx xs.length 0 lo)).take (HT.sIx xs.length xs.length hi - HT.sIx xs.length 0 lo)
theorem cutV_length (xs:List V) (lo hi:Option Int):(cutV xs lo hi).length<=xs.length:=by
  unfold cutV
  rw [List.length_take,List.length_drop]
  omega
def rSlT (K:PySem.W.Frag):V->Option Int->Option Int->Hp->VK->Prop:=fun x lo hi H Q=>∃ a xs,x=.ref a/\SqT K H a xs/\
  ¬ (HT.sIx xs.length 0 lo=0/\HT.sIx xs.length xs.length hi=xs.length)/\∀ p,H p=none->Q (.ref p) (upd H p (.tup (cutV xs lo hi)))
theorem sl_tup:SlR X (rSlT X.K):=by
  intro pins s σ H x v vl vu lo hi sl Q I rx hs pl pu h
  obtain⟨a,xs,rfl,hx,hw,q⟩:=h
  cases rx
  obtain⟨its,r,ht,hz⟩:=I.tuple hx
  have hlen:its.toArray.size=xs.length:=by rw [List.size_toArray]; exact r.length.symm
  refine⟨"tuple",_,PyProof.Rows.slot_tuple_getitem.lookup,ht.typeIs,?_⟩
  refine HT.getItem_tuple_cut ht hs pl pu (by rw [hlen]; exact hw) ?_ (by rw [hlen]; exact hz)
  rw [hlen]
  refine⟨.ref s.heap.objs.size,_,I.laid (t':=s.toks) (o:=.tup (cutV xs lo hi)) (fun b ob q=>Heap.get?_push_of_some _ q) (Nat.le_refl _) ?_,rfl,q _ (I.hok.fresh (Nat.le_refl _))⟩
  exact⟨Nat.le_trans (cutV_length xs lo hi) hz,_,(r.drop (HT.sIx xs.length 0 lo)).take (HT.sIx xs.length xs.length hi - HT.sIx xs.length 0 lo),IsTup.new _ _⟩
def rLtT (K:PySem.W.Frag):R2:=fun x y H Q=>∃ a b ns ms,x=.ref a/\y=.ref b/\SqT K H a (ns.map V.int)/\SqT K H b (ms.map V.int)/\Q (.bl (HT.lexLt ns ms)) H
def rCatT (K:PySem.W.Frag):R2:=fun x y H Q=>∃ a b xs ys,x=.ref a/\y=.ref b/\SqT K H a xs/\SqT K H b ys/\xs≠[]/\xs.length+ys.length<=sizeLine/\
  (ys=[]->Q (.ref a) H)/\(ys≠[]->∀ p,H p=none->Q (.ref p) (upd H p (.tup (xs++ys))))
theorem Vals.nil_iff {xs:List V}{us:List Value} (r:Vals xs us):us=[]↔xs=[]:=by
  cases r with
  | nil=>simp
  | cons _ _=>simp
theorem op_catT:OpR X (binaryOp .Add) (rCatT X.K):=by
  intro pins s σ H x y v u Q I rx ry h
  obtain⟨a,b,xs,ys,rfl,rfl,ha,hb,hx,hz,q1,q2⟩:=h
  cases rx
  cases ry
  obtain⟨its,r1,p1,_⟩:=I.tuple ha
  obtain⟨its2,r2,p2,_⟩:=I.tuple hb
  refine HT.cat_tup p1 p2 (fun z=>hx (r1.nil_iff.mp z)) (fun z=>⟨.ref a,H,I,rfl,q1 (r2.nil_iff.mp z)⟩) (fun z=>?_) (by rw [<-r1.length,<-r2.length]; exact hz)
  refine⟨.ref s.heap.objs.size,_,I.laid (t':=s.toks) (o:=.tup (xs++ys)) (fun b ob q=>Heap.get?_push_of_some _ q) (Nat.le_refl _) ?_,rfl,q2 (fun w=>z (r2.nil_iff.mpr w)) _ (I.hok.fresh (Nat.le_refl _))⟩
  exact⟨by rw [List.length_append]; exact hz,_,r1.append r2,IsTup.new _ _⟩
end
end L2
namespace L2
open PySem PySem.Spec PyProof.Rows
def ixN (n:Nat) (i:Int):Option Nat:=if 0<=i then (if i < n then some i.toNat else none) else if -(n:Int)<=i then some (i+n).toNat else none
def atI {α:Type} (xs:List α) (i:Int):Option α:=(ixN xs.length i).bind fun j=>xs[j]?
theorem ixN_seq {n:Nat}{i:Int}{j:Nat} (h:ixN n i=some j):seqIndex? i n=some j/\j < n/\-(n:Int)<=i/\i < n:=by
  unfold ixN at h
  by_cases h0:0<=i
  · rw [if_pos h0] at h
    by_cases h1:i < n
    · rw [if_pos h1] at h
      have e:i.toNat=j:=Option.some.inj h
      exact⟨by rw [seqIndex_of h0 h1,e],by omega,by omega,h1⟩
    · rw [if_neg h1] at h; cases h
  · rw [if_neg h0] at h
    by_cases h1:-(n:Int)<=i
    · rw [if_pos h1] at h
      have e:(i+n).toNat=j:=Option.some.inj h
      exact⟨by rw [seqIndex_neg (by omega) h1,e],by omega,h1,by omega⟩
    · rw [if_neg h1] at h; cases h
theorem atI_get {α:Type}{xs:List α}{i:Int}{v:α} (h:atI xs i=some v):∃ j,seqIndex? i xs.length=some j/\xs[j]?=some v/\j < xs.length/\-(xs.length:Int)<=i/\i < xs.length:=by
  unfold atI at h
  cases e:ixN xs.length i with
  | none=>rw [e] at h; cases h
  | some j=>
    rw [e] at h
    obtain⟨h1,h2,h3,h4⟩:=ixN_seq e
    exact⟨j,h1,h,h2,h3,h4⟩
def PlainIx (b:Expr):Prop:=∀ o i,subscripted b false o i=operate [o,i] (getItem o i)
def IxR (X:Cx) (r:R2):Prop:=
  ∀ (value slice:Expr) (pins:List (Addr×Obj)) (s:Shared) (σ:St) (H:Hp) (x y:V) (v u:Value) (Q:VK),Inv X pins σ H s->RelV x v->RelV y u->r x y H Q->
    subscripted slice false v u=operate [v,u] (getItem v u)->wpAny (model X.prog X.w) X.A (subscriptTail value slice v u) (EP X pins σ Q) X.xe s
def MtR (X:Cx) (id:String) (r:V->List V->Hp->VK->Prop):Prop:=
  ∀ (pins:List (Addr×Obj)) (s:Shared) (σ:St) (H:Hp) (x:V) (xs:List V) (v:Value) (us:List Value) (Q:VK),Inv X pins σ H s->RelV x v->Vals xs us->r x xs H Q->
    wpAny (model X.prog X.w) X.A (call (.builtin id) (v::us)) (EP X pins σ Q) X.xe s
section
variable {X:Cx}{a b:Expr}{ta tb:TE}{pos:Pos}
theorem IxR.or {r r':R2} (h:IxR X r) (h':IxR X r'):IxR X (fun x y H Q=>r x y H Q\/r' x y H Q):=by
  intro value slice pins s σ H x y v u Q I rx ry q hs
  rcases q with q | q
  · exact h value slice pins s σ H x y v u Q I rx ry q hs
  · exact h' value slice pins s σ H x y v u Q I rx ry q hs
theorem pe_ix {r:R2} (hr:IxR X r) (ha:PE X a ta) (hb:PE X b tb) (hs:PlainIx b):PE X (.Subscript a b pos) (tOp r ta tb):=by
  intro pins s σ H Q I h
  exact Subscript_ (binT ha hb I h fun v u s2 x y H2 I2 rx ry q=>hr a b pins s2 σ H2 x y v u Q I2 rx ry q (hs _ _))
def rIxL (K:PySem.W.Frag):R2:=fun x y H Q=>∃ p xs i v,x=.ref p/\y=.int i/\SqL K H p xs/\atI xs i=some v/\Q v H
def rIxT (K:PySem.W.Frag):R2:=fun x y H Q=>∃ p xs i v,x=.ref p/\y=.int i/\SqT K H p xs/\atI xs i=some v/\Q v H
def rIxS:R2:=fun x y H Q=>∃ z i c,x=.str z/\y=.int i/\z.length<=sizeLine/\atI z.cps.toList i=some c/\Q (.str ⟨#[c]⟩) H
theorem ix_list:IxR X (rIxL X.K):=by
  intro value slice pins s σ H x y v u Q I rx ry h hs
  obtain⟨p,xs,i,z,rfl,rfl,hq,he,q⟩:=h
  cases rx
  obtain⟨t,rfl⟩:=ry
  obtain⟨its,r,pl,hz⟩:=I.list hq
  obtain⟨j,h1,h2,h3,h4,h5⟩:=atI_get he
  obtain⟨w,ew,rw'⟩:=r.get h2
  have hl:=r.length
  have hn:=line63
  have fin:EP X pins σ Q w s:=⟨z,H,I,rw',q⟩
  by_cases h0:0<=i
  · have hj:i.toNat=j:=by
      rw [seqIndex_of h0 h5] at h1
      exact Option.some.inj h1
    exact item_listR pl.isList h0 (by omega) (by rw [hj]; simpa using ew) fin hs
  · have hj:(i+(its.toArray.size:Int)).toNat=j:=by
      rw [seqIndex_neg (by omega) h4] at h1
      rw [List.size_toArray,<-hl]
      exact Option.some.inj h1
    exact subscriptTail_builtinR (x:=w) pl.isList.typeIs slot_list_getitem.lookup
      (wpAny_getItem_list_neg (Q:=fun r s'=>r=w/\EP X pins σ Q r s') pl.isList (by omega) (by rw [List.size_toArray]<;>omega) (by omega) (by rw [hj]; simpa using ew) ⟨rfl,fin⟩) hs
theorem ix_tup:IxR X (rIxT X.K):=by
  intro value slice pins s σ H x y v u Q I rx ry h hs
  obtain⟨p,xs,i,z,rfl,rfl,hq,he,q⟩:=h
  cases rx
  obtain⟨t,rfl⟩:=ry
  obtain⟨its,r,pl,hz⟩:=I.tuple hq
  obtain⟨j,h1,h2,h3,h4,h5⟩:=atI_get he
  obtain⟨w,ew,rw'⟩:=r.get h2
  have hl:=r.length
  have hn:=line63
  have fin:EP X pins σ Q w s:=⟨z,H,I,rw',q⟩
  exact subscriptTail_builtinR (x:=w) pl.typeIs slot_tuple_getitem.lookup
    (getItem_tuple (j:=j) (Q:=fun r s'=>r=w/\EP X pins σ Q r s') pl (by omega) (by omega) (by rw [List.size_toArray,<-hl]; exact h1) (by simpa using ew) ⟨rfl,fin⟩) hs
theorem ix_str:IxR X rIxS:=by
  intro value slice pins s σ H x y v u Q I rx ry h hs
  obtain⟨z,i,c,rfl,rfl,hz,he,q⟩:=h
  obtain⟨t,rfl⟩:=rx
  obtain⟨t',rfl⟩:=ry
  obtain⟨j,h1,h2,h3,h4,h5⟩:=atI_get he
  have hl:z.cps.toList.length=z.length:=by simp [Str.length]
  rw [hl] at h1 h4 h5
  have hn:=line63
  exact tail_any (typeIs_str s z t) slot_str_getitem.lookup (getItem_str (c:=c) (by
    have e1:decide (i < -(2 ^ 63:Int))=false:=decide_eq_false (by omega)
    have e2:decide (i>=2 ^ 63)=false:=decide_eq_false (by omega)
    rw [e1,e2,Bool.or_false]) (by rw [h1]; simpa using h2) ⟨.str ⟨#[c]⟩,H,I.tok _,⟨_,rfl⟩,q⟩) hs
def rIx (K:PySem.W.Frag):R2:=fun x y H Q=>rIxL K x y H Q\/rIxT K x y H Q\/rIxS x y H Q
theorem ix_seq:IxR X (rIx X.K):=ix_list.or (ix_tup.or ix_str)
theorem mapSeq_set (its:List Value) (n j:Nat) (u:Value):Obj.mapSeq (·.setIfInBounds j u) { cls:=.type "list",data:=.seq its.toArray n }={ cls:=.type "list",data:=.seq (its.set j u).toArray n }:=by
  simp [Obj.mapSeq]
theorem Inv.lst {pins:List (Addr×Obj)}{σ:St}{H:Hp}{s:Shared}{p:Addr}{xs:List V} (I:Inv X pins σ H s) (h:H p=some (.lst xs)):
    ∃ (its:List Value) (n:Nat),Vals xs its/\s.heap.get? p=some { cls:=.type "list",data:=.seq its.toArray n }/\xs.length<=sizeLine:=by
  obtain⟨z,its,n,r,e⟩:=I.hok p _ h
  exact⟨its,n,r,e,z⟩
theorem Inv.lstUpd {pins:List (Addr×Obj)}{σ:St}{H:Hp}{s:Shared}{p:Addr}{xs ys:List V}{its its':List Value}{n n':Nat}{f:Obj->Obj} (I:Inv X pins σ H s) (h:H p=some (.lst xs))
    (ho:s.heap.get? p=some { cls:=.type "list",data:=.seq its.toArray n }) (hf:f { cls:=.type "list",data:=.seq its.toArray n }={ cls:=.type "list",data:=.seq its'.toArray n' }) (r:Vals ys its') (hz:ys.length<=sizeLine) (t:Nat):
    Inv X pins σ (upd H p (.lst ys)) { s with heap:=s.heap.update p f,toks:=t }:=by
  have e:(s.heap.update p f).get? p=some { cls:=.type "list",data:=.seq its'.toArray n' }:=by
    rw [Heap.get?_update_self f ho (by rw [hf]<;>rfl),hf]
  refine I.write (x:=p) (e:=p) (by rw [h]; trivial) (.inl rfl) (fun b u hb q=>(Heap.get?_update_other _ _ (Ne.symm hb)).trans q) ⟨_,e⟩ ?_
  exact⟨hz,its',n',r,e⟩
def rSetL:V->V->V->Hp->(Hp->Prop)->Prop:=fun o i v H Q=>∃ p xs k j,o=.ref p/\i=.int k/\H p=some (.lst xs)/\ixN xs.length k=some j/\Q (upd H p (.lst (xs.set j v)))
theorem set_list:PSet X rSetL:=by
  intro pins s σ H o i v ov iv u Q I ro ri rv h
  obtain⟨p,xs,k,j,rfl,rfl,hp,hj,q⟩:=h
  cases ro
  obtain⟨t,rfl⟩:=ri
  obtain⟨its,n,r,ho,hz⟩:=I.lst hp
  obtain⟨h1,h2,h3,h4⟩:=ixN_seq hj
  have hl:=r.length
  have hn:=line63
  have I':Inv X pins σ (upd H p (.lst (xs.set j v))) { s with heap:=s.heap.update p (Obj.mapSeq (·.setIfInBounds j u)) }:=
    I.lstUpd hp ho (mapSeq_set its n j u) (r.set rv j) (by rw [List.length_set]; exact hz) s.toks
  by_cases h0:0<=k
  · have hk:k.toNat=j:=by
      rw [seqIndex_of h0 h4] at h1
      exact Option.some.inj h1
    exact PySem.W.ki_setAt ho h0 (by omega) (by rw [List.size_toArray,<-hl]; exact h4) (by rw [hk]; exact⟨_,I',q⟩)
  · have hk:(k+(its.toArray.size:Int)).toNat=j:=by
      rw [seqIndex_neg (by omega) h3] at h1
      rw [List.size_toArray,<-hl]
      exact Option.some.inj h1
    exact PySem.W.ki_setBack ho (by omega) (by rw [List.size_toArray,<-hl]; exact h3) (by omega) (by rw [hk]; exact⟨_,I',q⟩)
theorem slice_bounds (lo hi:Option Int) (n:Nat):(sliceBounds lo hi none n).1=((HT.sIx n 0 lo:Nat):Int)/\(sliceBounds lo hi none n).2.1=((HT.sIx n n hi:Nat):Int)/\(sliceBounds lo hi none n).2.2=1:=by
  refine⟨?_,?_,rfl⟩
  · cases lo with
    | none=>simp [sliceBounds,HT.sIx]
    | some i=>
      simp only [sliceBounds,HT.sIx,Option.getD_none,show (1:Int) > 0 by decide,if_true]
      by_cases h:i < 0
      · simp only [h,if_true]<;>omega
      · simp only [h,if_false]<;>omega
  · cases hi with
    | none=>simp [sliceBounds,HT.sIx]
    | some i=>
      simp only [sliceBounds,HT.sIx,Option.getD_none,show (1:Int) > 0 by decide,if_true]
      by_cases h:i < 0
      · simp only [h,if_true]<;>omega
      · simp only [h,if_false]<;>omega
theorem slicePick_cut (its:List Value) (lo hi:Option Int):slicePick its.toArray lo hi none=((its.drop (HT.sIx its.length 0 lo)).take (HT.sIx its.length its.length hi - HT.sIx its.length 0 lo)).toArray:=by
  obtain⟨h1,h2,h3⟩:=slice_bounds lo hi its.toArray.size
  unfold slicePick
  rw [h1,h2,h3]
  simp only [sliceRange_one,pick_run,List.size_toArray]<;>rfl
def rSlL (K:PySem.W.Frag):V->Option Int->Option Int->Hp->VK->Prop:=fun x lo hi H Q=>∃ a xs,x=.ref a/\SqL K H a xs/\∀ p,H p=none->Q (.ref p) (upd H p (.lst (cutV xs lo hi)))
theorem sl_list:SlR X (rSlL X.K):=by
  intro pins s σ H x v vl vu lo hi sl Q I rx hs pl pu h
  obtain⟨a,xs,rfl,hx,q⟩:=h
  cases rx
  obtain⟨its,r,ht,hz⟩:=I.list hx
  have hlen:=r.length
  refine⟨"list",_,slot_list_getitem.lookup,ht.isList.typeIs,?_⟩
  refine wpAny_getItem_list_slice ht.isList hs pl pu .none (by simp) ?_ (by rw [List.size_toArray]<;>omega)
  rw [slicePick_cut,<-hlen]
  refine⟨.ref s.heap.objs.size,_,I.laid (t':=s.toks) (o:=.lst (cutV xs lo hi)) (fun b ob q=>Heap.get?_push_of_some _ q) (Nat.le_refl _) ?_,rfl,q _ (I.hok.fresh (Nat.le_refl _))⟩
  exact⟨Nat.le_trans (cutV_length xs lo hi) hz,_,0,(r.drop (HT.sIx xs.length 0 lo)).take (HT.sIx xs.length xs.length hi - HT.sIx xs.length 0 lo),Heap.get?_push_size _ rfl⟩
def flatV:V->Bool
  | .non=>true
  | .bl _=>true
  | .int _=>true
  | .str _=>true
  | _=>false
def eqV:V->V->Bool
  | .non,.non=>true
  | .bl a,.bl b=>a==b
  | .bl a,.int b=>(if a then 1 else 0)==b
  | .int a,.bl b=>a==(if b then 1 else 0)
  | .int a,.int b=>a==b
  | .str a,.str b=>a==b
  | _,_=>false
theorem eqAt_V {A:Around}{s:Shared}{y x:V}{u v:Value} (ry:RelV y u) (rx:RelV x v) (fy:flatV y=true) (fx:flatV x=true):SeqAt.EqAt A s u v (eqV y x):=by
  cases y with
  | non=>
    cases ry
    cases x with
    | non=>cases rx; exact SeqAt.EqAt.same _
    | bl b=>cases rx; exact SeqAt.EqAt.none_bool b
    | int b=>obtain⟨t,rfl⟩:=rx; exact SeqAt.EqAt.none_int b t
    | str b=>obtain⟨t,rfl⟩:=rx; exact SeqAt.EqAt.none_str b t
    | _=>exact absurd (show false=true from fx) Bool.false_ne_true
  | bl a=>
    cases ry
    cases x with
    | non=>cases rx; exact SeqAt.EqAt.bool_none a
    | bl b=>cases rx; exact SeqAt.EqAt.bool_bool a b
    | int b=>obtain⟨t,rfl⟩:=rx; exact SeqAt.EqAt.bool_int a b t
    | str b=>obtain⟨t,rfl⟩:=rx; exact SeqAt.EqAt.bool_str a b t
    | _=>exact absurd (show false=true from fx) Bool.false_ne_true
  | int a=>
    obtain⟨t',rfl⟩:=ry
    cases x with
    | non=>cases rx; exact SeqAt.EqAt.int_none a t'
    | bl b=>cases rx; exact SeqAt.EqAt.int_bool a t' b
    | int b=>obtain⟨t,rfl⟩:=rx; exact SeqAt.EqAt.int_int a t' b t
    | str b=>obtain⟨t,rfl⟩:=rx; exact SeqAt.EqAt.int_str a t' b t
    | _=>exact absurd (show false=true from fx) Bool.false_ne_true
  | str a=>
    obtain⟨t',rfl⟩:=ry
    cases x with
    | non=>cases rx; exact SeqAt.EqAt.str_none a t'
    | bl b=>cases rx; exact SeqAt.EqAt.str_bool a t' b
    | int b=>obtain⟨t,rfl⟩:=rx; exact SeqAt.EqAt.str_int a t' b t
    | str b=>obtain⟨t,rfl⟩:=rx; exact SeqAt.EqAt.str_str a t' b t
    | _=>exact absurd (show false=true from fx) Bool.false_ne_true
  | _=>exact absurd (show false=true from fy) Bool.false_ne_true
def eqU (x:V) (u:Value):Bool:=match u with
  | .none=>eqV .non x
  | .bool b=>eqV (.bl b) x
  | .int i _=>eqV (.int i) x
  | .str z _=>eqV (.str z) x
  | _=>false
def inV (x:V) (xs:List V):Bool:=xs.any fun y=>eqV y x
def rIn (K:PySem.W.Frag) (neg:Bool):R2:=fun x y H Q=>∃ p xs,y=.ref p/\(SqL K H p xs\/SqT K H p xs)/\flatV x=true/\xs.all flatV=true/\Q (.bl (if neg then !inV x xs else inV x xs)) H
theorem call_len_seq:CallR X (.builtin "len") (fun xs H Q=>∃ p ys,xs=[.ref p]/\(SqL X.K H p ys\/SqT X.K H p ys)/\Q (.int ys.length) H):=by
  intro pins s σ H xs us Q I r h
  obtain⟨p,ys,rfl,hq,q⟩:=h
  obtain⟨u,rfl,rx⟩:=vals1 r
  cases rx
  have hn:=line63
  rcases hq with hq | hq
  · obtain⟨its,r',pl,hz⟩:=I.list hq
    have hlen:=r'.length
    exact Calls.call_len_list pl.isList (by simp only [List.size_toArray]<;>omega) ⟨.int ys.length,H,I.tok _,⟨s.toks+1,by rw [List.size_toArray,hlen]⟩,q⟩
  · obtain⟨its,r',pl,hz⟩:=I.tuple hq
    have hlen:=r'.length
    exact len_tuple pl (by simp only [List.size_toArray]<;>omega) ⟨.int ys.length,H,I.tok _,⟨s.toks+1,by rw [List.size_toArray,hlen]⟩,q⟩
theorem call_list_of:CallR X (.type "list") (fun xs H Q=>∃ p ys,xs=[.ref p]/\(SqL X.K H p ys\/SqT X.K H p ys)/\∀ l,H l=none->Q (.ref l) (upd H l (.lst ys))):=by
  intro pins s σ H xs us Q I r h
  obtain⟨p,ys,rfl,hq,q⟩:=h
  obtain⟨u,rfl,rx⟩:=vals1 r
  cases rx
  have fin:∀ (its:List Value),Vals ys its->ys.length<=sizeLine->∀ (h':Heap) (c':Nat),(∀ b o',s.heap.get? b=some o'->h'.get? b=some o')->
      h'.get? s.heap.objs.size=some { cls:=.type "list",dict:=none,data:=.seq its.toArray c',slots:=#[] }->EP X pins σ Q (.ref s.heap.objs.size) { s with heap:=h' }:=fun its r' hz h' c' kp e=>
    ⟨.ref s.heap.objs.size,_,I.laid (t':=s.toks) kp (Nat.le_refl _) (show ObjOk X.prog X.w _ h' _ (.lst ys) from⟨hz,its,c',r',e⟩),rfl,q _ (I.hok.fresh (Nat.le_refl _))⟩
  rcases hq with hq | hq
  · obtain⟨its,r',pl,hz⟩:=I.list hq
    have hlen:=r'.length
    obtain⟨o,ho,hc,n,hd⟩:=pl.isList
    exact call_list_seq p (.inl rfl) ho hc hd (fun h' c' kp e=>fin its r' hz h' c' kp e) (by simp only [List.size_toArray]<;>omega)
  · obtain⟨its,r',pl,hz⟩:=I.tuple hq
    have hlen:=r'.length
    obtain⟨o,ho,hc,n,hd⟩:=pl
    exact call_list_seq p (.inr rfl) ho hc hd (fun h' c' kp e=>fin its r' hz h' c' kp e) (by simp only [List.size_toArray]<;>omega)
theorem call_tuple_of:CallR X (.type "tuple") (fun xs H Q=>∃ p ys,xs=[.ref p]/\((SqL X.K H p ys/\∀ l,H l=none->Q (.ref l) (upd H l (.tup ys)))\/(SqT X.K H p ys/\Q (.ref p) H))):=by
  intro pins s σ H xs us Q I r h
  obtain⟨p,ys,rfl,h⟩:=h
  obtain⟨u,rfl,rx⟩:=vals1 r
  cases rx
  rcases h with⟨hq,q⟩ | ⟨hq,q⟩
  · obtain⟨its,r',pl,hz⟩:=I.list hq
    have hlen:=r'.length
    refine call_tuple_list pl.isList (fun h' kp=>?_) (by simp only [List.size_toArray]<;>omega)
    have I1:Inv X pins σ H { s with heap:=h' }:=I.kept (t':=s.toks) kp
    have I2:Inv X pins σ (upd H h'.objs.size (.tup ys)) { s with heap:=h'.push { cls:=.type "tuple",data:=.seq its.toArray } }:=
      I1.laid (t':=s.toks) (fun b o e=>Heap.get?_push_of_some _ e) (Nat.le_refl _) (show ObjOk X.prog X.w _ _ _ (.tup ys) from⟨hz,its,r',IsTup.new _ _⟩)
    exact⟨.ref h'.objs.size,_,I2,rfl,q _ (I1.hok.fresh (Nat.le_refl _))⟩
  · obtain⟨its,r',pl,hz⟩:=I.tuple hq
    exact call_tuple_same pl ⟨.ref p,H,I,rfl,q⟩
def tyV (K:PySem.W.Frag) (T:String) (x:V) (H:Hp):Prop:=match x with
  | .str _=>T="str"
  | .int _=>T="int"
  | .ref p=>(T="list"/\∃ xs,SqL K H p xs)\/(T="tuple"/\∃ o,K.lookup p=some o/\o.cls=.type "tuple"/\o.dict=none)\/
      (T="dict"/\((∃ kvs,H p=some (.dK kvs))\/∃ kvs,H p=some (.dT kvs)))\/(T="set"/\∃ S n,H p=some (.set S n))
  | _=>False
theorem tyV_is {pins:List (Addr×Obj)}{σ:St}{H:Hp}{s:Shared}{T:String}{x:V}{v:Value} (I:Inv X pins σ H s) (r:RelV x v) (ty:tyV X.K T x H):
    s.TypeIs v T/\∀ a,v=.ref a->∃ ob,s.heap.get? a=some ob/\ob.dict=none:=by
  cases x with
  | str z=>
    obtain⟨t,rfl⟩:=r
    cases (show T="str" from ty)
    exact⟨typeIs_str s z t,fun _ e=>nomatch e⟩
  | int i=>
    obtain⟨t,rfl⟩:=r
    cases (show T="int" from ty)
    exact⟨typeIs_int s i t,fun _ e=>nomatch e⟩
  | ref p=>
    cases r
    rcases ty with⟨rfl,xs,hq⟩ | ⟨rfl,o,hk,hc,hd⟩ | ⟨rfl,hk⟩ | ⟨rfl,S,n,hk⟩
    · obtain⟨its,_,pl,_⟩:=I.list hq
      refine⟨pl.isList.typeIs,fun a e=>?_⟩
      cases e
      obtain⟨o,n,e,c,hd,_⟩:=pl
      exact⟨o,e,hd⟩
    · refine⟨⟨o,I.kIn p o hk,hc⟩,fun a e=>?_⟩
      cases e
      exact⟨o,I.kIn _ o hk,hd⟩
    · have z:∃ o,s.heap.get? p=some o/\o.ExactDict:=by
        rcases hk with⟨kvs,hk⟩ | ⟨kvs,hk⟩
        · obtain⟨_,_,_,_,o,_,_,e,ex,_⟩:=I.hok p _ hk
          exact⟨o,e,ex⟩
        · obtain⟨_,_,_,_,o,_,_,e,ex,_⟩:=I.hok p _ hk
          exact⟨o,e,ex⟩
      obtain⟨o,e,ex⟩:=z
      refine⟨⟨o,e,ex.1⟩,fun a e2=>?_⟩
      cases e2
      exact⟨o,e,ex.2.1⟩
    · obtain⟨o,_,_,_,e,ex,_⟩:=I.hok p _ hk
      refine⟨⟨o,e,ex.1⟩,fun a e2=>?_⟩
      cases e2
      exact⟨o,e,ex.2.1⟩
  | _=>exact False.elim ty
def tBM0 (K:PySem.W.Frag) (T:String) (r:V->List V->Hp->VK->Prop) (to:TE):TE:=fun σ H Q=>to σ H fun x H1=>tyV K T x H1/\r x [] H1 Q
def tBM (K:PySem.W.Frag) (T:String) (r:V->List V->Hp->VK->Prop) (to:TE) (t:TA):TE:=fun σ H Q=>to σ H fun x H1=>tyV K T x H1/\t σ H1 fun xs H2=>r x xs H2 Q
variable {o e:Expr}{es:List Expr}{to:TE}{t:TA}{name:Str}{apos cpos:Pos}{T id:String}{r:V->List V->Hp->VK->Prop}
theorem pe_bm0 (pa:PlainAttrs T) (slot:Slot T name id) (hty:typeOf (.builtin id)=pure (.type "method_descriptor")) (hm:MtR X id r) (ho:PE X o to)
    (hbase:attributeBase o name X.env (eval o X.env)=eval o X.env:=by rfl) (hline:(apos.endLine==cpos.line)=true:=by rfl):PE X (.Call (.Attribute o name apos) [] [] cpos) (tBM0 X.K T r to):=by
  intro pins s σ H Q I h
  refine wpAny_Call_method0_late hbase hline (thn (ho pins s σ H _ I h) fun v s1 ⟨x,H1,I1,r1,ty,q1⟩=>?_)
  obtain⟨h1,h2⟩:=tyV_is I1 r1 ty
  exact⟨T,id,pa,slot,hty,h1,h2,Calls.callWith_builtin rfl (PySem.evalArgs_none (hm pins s1 σ H1 x [] v [] Q I1 r1 .nil q1))⟩
theorem pe_bm (pa:PlainAttrs T) (slot:Slot T name id) (hty:typeOf (.builtin id)=pure (.type "method_descriptor")) (hm:MtR X id r) (ho:PE X o to) (ha:PA X (e::es) t)
    (hbase:attributeBase o name X.env (eval o X.env)=eval o X.env:=by rfl)
    (hfew:((backTo cpos (starEach (e::es) X.env)).all (fun x=>!x.1)&&(backToKw cpos (keywordEach [] X.env)).all (fun x=>x.1.isSome)
      && decide ((e::es).length+([]:List Keyword).length+(if ([]:List Keyword).isEmpty then 0 else 1) < 30))=true:=by rfl)
    (hline:(apos.endLine==cpos.line)=true:=by rfl) (hs:starEach (e::es) X.env=(false,eval e X.env)::starEach es X.env:=by rfl) (hplain:(backTo cpos (starEach es X.env)).any (·.1)=false:=by rfl):
    PE X (.Call (.Attribute o name apos) (e::es) [] cpos) (tBM X.K T r to t):=by
  intro pins s σ H Q I h
  refine wpAny_Call_method_late hbase hfew hline rfl (thn (ho pins s σ H _ I h) fun v s1 ⟨x,H1,I1,r1,ty,q1⟩=>?_)
  obtain⟨h1,h2⟩:=tyV_is I1 r1 ty
  refine⟨T,id,pa,slot,hty,h1,h2,?_⟩
  have hA:=ha cpos pins s1 σ H1 _ I1 q1
  rw [hs] at hA |-
  refine Calls.callWith_builtin (by show (false||(backTo cpos (starEach es X.env)).any (·.1))=false; rw [hplain]<;>rfl) (Calls.evalArgs_plain ?_)
  exact thn hA fun us s2 ⟨vs,H2,I2,r2,q2⟩=>hm pins s2 σ H2 x vs v us Q I2 r1 r2 q2
end
end L2
namespace L2
open PySem PySem.Spec PyProof.Rows
def MtM (X:Cx) (id:String) (r:V->List V->Hp->VK->Prop):Prop:=
  ∀ (pins:List (Addr×Obj)) (s:Shared) (σ:St) (H:Hp) (x:V) (xs:List V) (v:Value) (us:List Value) (Q:VK),Inv X pins σ H s->RelV x v->Vals xs us->r x xs H Q->
    wpAny (model X.prog X.w) X.A (call (.builtin id) (v::us)) (EP X pins σ Q) X.xe s
theorem Vals.one:∀ {x:V}{us:List Value},Vals [x] us->∃ u,us=[u]/\RelV x u
  | _,_,.cons r .nil=>⟨_,rfl,r⟩
theorem Vals.zero:∀ {us:List Value},Vals [] us->us=[]
  | _,.nil=>rfl
theorem Vals.dropLast {xs:List V}{us:List Value} (h:Vals xs us):Vals xs.dropLast us.dropLast:=by
  induction h with
  | nil=>exact .nil
  | cons r t ih=>
    cases t with
    | nil=>exact .nil
    | cons q t'=>exact .cons r ih
theorem Vals.rep {xs:List V}{us:List Value} (h:Vals xs us):∀ k:Nat,Vals (List.replicate k xs).flatten (List.replicate k us).flatten
  | 0=>.nil
  | k+1=>by
    rw [List.replicate_succ,List.replicate_succ,List.flatten_cons,List.flatten_cons]
    exact Vals.append h (Vals.rep h k)
theorem erase_last {α:Type} (l:List α):l.eraseIdx (l.length - 1)=l.dropLast:=by
  induction l with
  | nil=>rfl
  | cons a r ih=>
    cases r with
    | nil=>rfl
    | cons b r=>
      have e:(a::b::r).length - 1=((b::r).length - 1)+1:=by
        have h1:(a::b::r).length=r.length+2:=rfl
        have h2:(b::r).length=r.length+1:=rfl
        omega
      rw [e,List.eraseIdx_cons_succ,ih]
      all_goals rfl
theorem foldl_rep (its:List Value):∀ (k:Nat) (acc:List Value),
    List.foldl (fun x1 x2=>x1++x2) acc.toArray (List.replicate k its.toArray)=(acc++(List.replicate k its).flatten).toArray
  | 0,acc=>by simp
  | k+1,acc=>by
    have e:acc.toArray++its.toArray=(acc++its).toArray:=by simp
    have e2:(acc++its)++(List.replicate k its).flatten=acc++(List.replicate (k+1) its).flatten:=by
      rw [List.replicate_succ,List.flatten_cons,List.append_assoc]
    rw [<-e2,<-foldl_rep its k (acc++its),<-e,List.replicate_succ,List.foldl_cons]
section
variable {X:Cx}{pins:List (Addr×Obj)}{σ:St}{H:Hp}{s:Shared}{l b:Addr}{xs ys zs:List V}
theorem Inv.lset {its its':List Value}{n:Nat}{f:Array Value->Array Value}{t':Nat} (I:Inv X pins σ H s) (hH:H l=some (.lst xs))
    (e:s.heap.get? l=some { cls:=.type "list",data:=.seq its.toArray n }) (hf:f its.toArray=its'.toArray) (hv:Vals ys its') (hz:ys.length<=sizeLine):
    Inv X pins σ (upd H l (.lst ys)) { s with heap:=s.heap.update l (Obj.mapSeq f),toks:=t' }:=by
  have q:=PySem.IsL.update e f
  rw [hf] at q
  refine I.write (x:=l) (e:=l) (by rw [hH]; exact trivial) (.inl rfl) (fun b' u hb hu=>(Heap.get?_update_other s.heap (Obj.mapSeq f) (Ne.symm hb)).trans hu) ⟨_,q⟩ ?_
  exact⟨hz,its',_,hv,q⟩
theorem Inv.lnew {its:List Value}{t':Nat} (I:Inv X pins σ H s) (hv:Vals ys its) (hz:ys.length<=sizeLine):
    Inv X pins σ (upd H s.heap.objs.size (.lst ys)) { s with heap:=s.heap.push { cls:=.type "list",data:=.seq its.toArray },toks:=t' }:=
  I.laid (fun _ _ q=>Heap.get?_push_of_some _ q) (Nat.le_refl _) ⟨hz,its,0,hv,Heap.get?_push_size _ rfl⟩
theorem Inv.fresh (I:Inv X pins σ H s):H s.heap.objs.size=none:=I.hok.fresh (Nat.le_refl _)
theorem Inv.lstM (I:Inv X pins σ H s) (hH:H l=some (.lst xs)):xs.length<=sizeLine/\∃ (its:List Value) (n:Nat),Vals xs its/\xs.length=its.length/\s.heap.get? l=some { cls:=.type "list",data:=.seq its.toArray n }:=by
  obtain⟨z,its,n,r,e⟩:=I.hok l _ hH
  exact⟨z,its,n,r,r.length,e⟩
theorem notLongL {n:Nat} (h:n<=sizeLine):Builtin.List.listTooLong n=false:=by
  unfold Builtin.List.listTooLong
  exact decide_eq_false (by omega)
end
section
variable {X:Cx}
def rAppend:V->List V->Hp->VK->Prop:=fun x vs H Q=>∃ l xs y,x=.ref l/\vs=[y]/\H l=some (.lst xs)/\xs.length < sizeLine/\Q .non (upd H l (.lst (xs++[y])))
theorem mt_append:MtM X "list.append" rAppend:=by
  intro pins s σ H x vs v us Q I rx rv h
  obtain⟨l,xs,y,rfl,rfl,hH,hz,q⟩:=h
  cases rx
  obtain⟨u,rfl,ru⟩:=rv.one
  obtain⟨z,its,n,r,hl,e⟩:=I.lstM hH
  refine call_meets F.slot_list_append ⟨_,e,rfl⟩ F.entry_list_append (F.args_list_append_2 _ _) (PySem.list_append l its.toArray n u (by rw [List.size_toArray]; omega)) ⟨e,?_⟩
  refine⟨.non,_,I.lset (its':=its++[u]) hH e (by simp) (r.append (.cons ru .nil)) ?_,rfl,q⟩
  rw [List.length_append,List.length_singleton]
  omega
def rExtend:V->List V->Hp->VK->Prop:=fun x vs H Q=>∃ l b xs zs,x=.ref l/\vs=[.ref b]/\H l=some (.lst xs)/\H b=some (.lst zs)/\xs.length+zs.length<=sizeLine/\Q .non (upd H l (.lst (xs++zs)))
theorem mt_extend:MtM X "list.extend" rExtend:=by
  intro pins s σ H x vs v us Q I rx rv h
  obtain⟨l,b,xs,zs,rfl,rfl,hH,hB,hz,q⟩:=h
  cases rx
  obtain⟨u,rfl,ru⟩:=rv.one
  cases ru
  obtain⟨z,its,n,r,hl,e⟩:=I.lstM hH
  obtain⟨z2,its2,n2,r2,hl2,e2⟩:=I.lstM hB
  have hsz:its.toArray.size+its2.toArray.size<=sizeLine:=by rw [List.size_toArray,List.size_toArray]; omega
  have hlong:¬ (!its.toArray.isEmpty&&Builtin.List.listTooLong (its.toArray.size+its2.toArray.size))=true:=by
    rw [notLongL hsz,Bool.and_false]
    exact Bool.false_ne_true
  refine call_meets F.slot_list_extend ⟨_,e,rfl⟩ F.entry_list_extend (F.args_list_extend_2 _ _)
    (AutoSeq1.list_extend_list_list_0 l its.toArray n b its2.toArray n2 hlong (by rw [List.size_toArray]; omega) (by omega)) ⟨e,e2,?_⟩
  refine⟨.non,_,I.lset (its':=its++its2) hH e (by simp) (r.append r2) ?_,rfl,q⟩
  rw [List.length_append]
  omega
def rPop:V->List V->Hp->VK->Prop:=fun x vs H Q=>∃ l xs y,x=.ref l/\vs=[]/\H l=some (.lst xs)/\xs[xs.length - 1]?=some y/\Q y (upd H l (.lst xs.dropLast))
theorem mt_pop:MtM X "list.pop" rPop:=by
  intro pins s σ H x vs v us Q I rx rv h
  obtain⟨l,xs,y,rfl,rfl,hH,hy,q⟩:=h
  cases rx
  have hus:=rv.zero
  subst hus
  obtain⟨z,its,n,r,hl,e⟩:=I.lstM hH
  obtain⟨u,hu,ru⟩:=r.get hy
  have hy':its.toArray[its.toArray.size - 1]?=some u:=by
    show its.toArray[its.length - 1]?=some u
    rw [<-Array.getElem?_toList,<-hl]
    exact hu
  refine call_meets F.slot_list_pop ⟨_,e,rfl⟩ F.entry_list_pop (F.args_list_pop_1 _) (MeetsSeq.list_pop_last l its.toArray n u hy' (by rw [List.size_toArray]; omega)) ⟨e,?_⟩
  refine⟨y,_,I.lset (its':=its.dropLast) hH e ?_ r.dropLast ?_,ru,q⟩
  · show its.toArray.eraseIdxIfInBounds (its.toArray.size - 1)=its.dropLast.toArray
    rw [List.size_toArray,List.eraseIdxIfInBounds_toArray,erase_last]
  · rw [List.length_dropLast]
    omega
def rPopAt:V->List V->Hp->VK->Prop:=fun x vs H Q=>∃ l xs i k y,x=.ref l/\vs=[.int i]/\H l=some (.lst xs)/\-(2 ^ 63)<=i/\i < 2 ^ 63/\seqIndex? i xs.length=some k/\xs[k]?=some y/\Q y (upd H l (.lst (xs.eraseIdx k)))
def rReverse:V->List V->Hp->VK->Prop:=fun x vs H Q=>∃ l xs,x=.ref l/\vs=[]/\H l=some (.lst xs)/\Q .non (upd H l (.lst xs.reverse))
def rClear:V->List V->Hp->VK->Prop:=fun x vs H Q=>∃ l xs,x=.ref l/\vs=[]/\H l=some (.lst xs)/\Q .non (upd H l (.lst []))
def rCat:R2:=fun x y H Q=>∃ l b xs zs,x=.ref l/\y=.ref b/\H l=some (.lst xs)/\H b=some (.lst zs)/\xs.length+zs.length<=sizeLine/\∀ p,H p=none->Q (.ref p) (upd H p (.lst (xs++zs)))
theorem op_cat:OpR X (binaryOp .Add) rCat:=by
  intro pins s σ H x y v u Q I rx ry h
  obtain⟨l,b,xs,zs,rfl,rfl,hH,hB,hz,q⟩:=h
  cases rx
  cases ry
  obtain⟨z,its,n,r,hl,e⟩:=I.lstM hH
  obtain⟨z2,its2,n2,r2,hl2,e2⟩:=I.lstM hB
  refine PySem.P.add_list e e2 ?_ (by rw [List.size_toArray,List.size_toArray]; omega)
  have ea:its.toArray++its2.toArray=(its++its2).toArray:=by simp
  rw [ea]
  exact⟨.ref _,_,I.lnew (t':=s.toks) (r.append r2) (by rw [List.length_append]; omega),rfl,q _ I.fresh⟩
def rRep:R2:=fun x y H Q=>∃ l k xs,x=.ref l/\y=.int k/\H l=some (.lst xs)/\-(2 ^ 63)<=k/\k < 2 ^ 63/\xs.length*k.toNat<=sizeLine/\
  ∀ p,H p=none->Q (.ref p) (upd H p (.lst (List.replicate k.toNat xs).flatten))
theorem len_rep {α:Type} (xs:List α) (k:Nat):(List.replicate k xs).flatten.length=k*xs.length:=by
  induction k with
  | zero=>simp
  | succ k ih=>rw [List.replicate_succ,List.flatten_cons,List.length_append,ih,Nat.succ_mul,Nat.add_comm]
theorem op_rep:OpR X (binaryOp .Mult) rRep:=by
  intro pins s σ H x y v u Q I rx ry h
  obtain⟨l,k,xs,rfl,rfl,hH,h1,h2,hz,q⟩:=h
  cases rx
  obtain⟨t,rfl⟩:=ry
  obtain⟨z,its,n,r,hl,e⟩:=I.lstM hH
  have hlen:its.toArray.size*k.toNat<=sizeLine:=by rw [List.size_toArray,<-hl]; exact hz
  have hcap:¬ its.toArray.size*k.toNat > (2 ^ 63 - 1) / 8:=by
    have:(sizeLine:Nat)<=(2 ^ 63 - 1) / 8:=by decide
    omega
  have hfit:¬ (!Builtin.List.listFitsIndex k)=true:=by
    rw [fitsIndex_both h1 h2]
    exact Bool.false_ne_true
  have hlong:¬ Builtin.List.listTooLong (its.toArray.size*k.toNat)=true:=by
    rw [notLongL hlen]
    exact Bool.false_ne_true
  have hnew:List.foldl (fun x1 x2=>x1++x2) #[] (List.replicate (if its.toArray.isEmpty=true then 0 else k.toNat) its.toArray)=(List.replicate k.toNat its).flatten.toArray:=by
    have f0:∀ m:Nat,List.foldl (fun x1 x2=>x1++x2) #[] (List.replicate m its.toArray)=(List.replicate m its).flatten.toArray:=fun m=>by
      have:=foldl_rep its m []
      rw [List.nil_append] at this
      exact this
    rw [f0]
    cases its with
    | nil=>simp
    | cons a r'=>rw [if_neg (by simp)]
  refine wpAny_binaryOp_repeat_ref (T:="list") (U:="int") (by decide) ⟨_,e,rfl⟩ (fun s'=>typeIs_int s' k t) noFill_list_mul F.fills_int_mul F.slot_int_rmul repeat_list F.slot_int_index.lookup
    (call_meets F.slot_int_rmul (typeIs_int s k t) F.entry_int_rmul (F.args_int_rmul_2 _ _) (int___rmul___int_list k t l its.toArray n)
      ⟨e,rfl,⟨_,e,rfl⟩,call_meets F.slot_list_mul ⟨_,e,rfl⟩ F.entry_list_mul (F.args_list_mul_2 _ _) (AutoListH.list___mul___list_int_3 l its.toArray n k t hfit hcap hlong) ⟨e,?_⟩⟩)
  rw [hnew]
  exact⟨.ref _,_,I.lnew (t':=s.toks) (r.rep k.toNat) (by rw [len_rep,Nat.mul_comm]; exact hz),rfl,q _ I.fresh⟩
end
section
variable {prog:Program}{w:World}{A:Around}{E:Value->Shared->Prop}{s:Shared}
set_option maxRecDepth 100000 in
end
section
variable {X:Cx}
end
end L2
namespace Att
open PySem PySem.W PySem.Calls PyProof.Rows
theorem ints_of_wellAll {P:Params}{h:Heap}:∀ (ns:List Int) (vs:List Value),WellAll P h vs (ns.map WData.int)->IntsAre vs ns:=by
  intro ns
  induction ns with
  | nil=>
    intro vs w
    rw [List.map_nil] at w
    cases w
    exact .nil
  | cons n ns ih=>
    intro vs w
    rw [List.map_cons] at w
    cases w with
    | cons a b=>
      cases a
      exact .cons _ _ (ih _ b)
theorem script_of {l:OpenLaw}{n:Nat} (hn:l.most=some n) {P:Params}{h:Heap}{args:List WData}{vals:List Value}
    (hpre:l.row.toRowW.claim.pre args=true) (hwl:WellAll P h vals args):
    ∃ a vs ns,vals=[Value.ref a]/\args=[WData.list (ns.map WData.int)]/\h.get? a=some { cls:=.type "list",data:=.seq vs.toArray }/\IntsAre vs ns/\ns.length<=n:=by
  have hsh:WShape.hasAll [] args [.list .int]=true:=(pre_splitW hpre).1
  have hc:l.pre.holds [] { args:=args }=true:=(pre_splitW hpre).2
  obtain⟨d,r,rfl,h1,h2⟩:=hasAllW_cons hsh
  obtain rfl:=hasAllW_nil h2
  obtain⟨xs,rfl,h3⟩:=hasW_list h1
  obtain⟨ns,rfl⟩:=items_int h3
  have hlen:ns.length<=n:=by
    unfold OpenLaw.pre at hc
    have h4:(WTm.not (.lt (.lit (.int (n:Int))) (.len (.arg 0)))).holds [] { args:=[.list (ns.map .int)] }=true:=by
      have h4:=(holds_andW hc).1
      rw [hn] at h4
      exact h4
    have h5:=condW_of h4 (w_not (w_lt w_lit (w_len_list (w_arg rfl))))
    rw [List.length_map] at h5
    refine Nat.le_of_not_lt fun q=>?_
    have q':(n:Int) < ((ns.length:Nat):Int):=by omega
    first
      | (rw [decide_eq_true q'] at h5; exact absurd h5 (by decide))
      | (simp at h5; omega)
  cases hwl with
  | cons w1 w2=>
    cases w2
    cases w1 with
    | list ho hall=>exact⟨_,_,ns,rfl,rfl,ho,ints_of_wellAll ns _ hall,hlen⟩
theorem post_true (l:OpenLaw) (args:List WData):l.row.toRowW.claim.post args (.bool true) args=true:=
  postW_of (r:=l.row.toRowW) (X:=(true==true))
    (show WShape.has [] (.bool true) .bool=true by first | rfl | decide | simp [WShape.has,WShape.arms,WShape.armsAll])
    (show (WTm.eq .res (.lit (.bool true))).value [] { args:=args,res:=some (.bool true),after:=args }=some (.bool (true==true)) from w_eq_bool (w_res rfl) w_lit) rfl
theorem attach_call {l:OpenLaw}{n:Nat}{q:Program}{loose:List Str}{XP:(Str->Option Value)->Heap->Prop}{YP:World->Heap->Prop}{d:DefRec}
    (hn:l.most=some n) (hdf:d.params.defaults=[])
    (call:∀ (w:World) (s₀ s₁:Shared) (mg mb:Str->Option Value) (fa:Addr) (o:Obj) (pm cd doc:Value) (a:Addr) (vs:List Value) (ns:List Int),
      Ground q loose [] XP w s₀ mg mb s₁.heap->YP w s₁.heap->
      s₁.heap.get? fa=some o->o.data=.func (docDef d.name d.params d.body d.scope pm cd doc)->s₁.heap.CodeRec cd d.name->mg d.name=some (.ref fa)->
      s₁.heap.get? a=some { cls:=.type "list",data:=.seq vs.toArray }->IntsAre vs ns->ns.length<=n->s₁.gens=#[]->
      codeAny (model l.prog w) callerA (.call (.ref fa) ⟨[.ref a],[]⟩) (fun r s'=>r=.ok (.ret (.bool true))/\OldK s₁.heap s'.heap/\s'.os=s₁.os/\AllBare s'.gens) s₁):
    WalkO q loose XP YP l.row.toRowW d [] (fun f vs=>PySem.call f vs):=by
  intro w s₀ s₁ mg mb G Y fa o pm cd doc dV kV ho hd hcd hD hmg hg args vals as hpre hlay hrd hwl hlo
  obtain rfl:dV=.none:=Dflts.none hD hdf
  obtain rfl:kV=.none:=Dflts.noKw hD
  obtain⟨a,vs,ns,rfl,rfl,hobj,hints,hlen⟩:=script_of hn hpre hwl
  refine enter_call (codeAny_mono (call w s₀ s₁ mg mb fa o pm cd doc a vs ns G Y ho (fd_plain hd) hcd hmg hobj hints hlen hg) fun r s' hq=>?_)
  obtain⟨rfl,h2,h3,h4⟩:=hq
  exact⟨.inl ⟨.bool true,.bool true,[],rfl,fun _=>rfl,.bool true,post_true l _,fun _=>⟨List.Pairwise.nil,fun _ hm=>(nomatch hm)⟩⟩,h2,h3,h4⟩
section
variable {prog:Program}{w:World}{A:Around}{E:Value->Shared->Prop}{s:Shared}{K:Frag}
def noObjs (h:Heap):Heap:={ h with objs:=#[] }
def ledger (h:Heap) (L d:Addr):List (Addr×Obj):=(List.range h.objs.size).filterMap fun a=>if a=L\/a=d then none else (h.get? a).map fun o=>(a,o)
end
end Att
namespace L2
open PySem PySem.Spec PyProof.Rows
theorem vals_ints:∀ {vs:List Value}{ns:List Int},IntsAre vs ns->Vals (ns.map V.int) vs
  | _,_,.nil=>.nil
  | _,_,.cons n t h=>.cons ⟨t,rfl⟩ (vals_ints h)
def Only (H:Hp):Prop:=∀ b,H b=none\/∃ o xs,H b=some (.frz o (.lst xs))
theorem law_call {P:Program}{w:World}{K:PySem.W.Frag}{mg mb:Str->Option Value}{CX:CXT}{k:Nat}{fa a:Addr}{fd:FuncData}{x:Str}{sp:Sp}{s₁:Shared}{vs:List Value}{ns:List Int}
    (KX:K.In s₁.heap) (hns:s₁.heap.Ns mainGlobals mg) (hb:s₁.heap.Ns builtinsNs mb) (hbb:∀ x:Str,x≠"__name__"->mb x=bootBuiltins x) (hlim:s₁.heap.NoLimit) (hg:s₁.gens=#[])
    (ha:s₁.heap.get? a=some { cls:=.type "list",data:=.seq vs.toArray }) (hi:IntsAre vs ns) (hl:ns.length<=sizeLine) (hr:Room k callerA)
    (F:∀ base:Heap,K.In base->base.Ns mainGlobals mg->FnOk P w K mg base CX k fa fd [x] sp) (hbind:∀ (s:Shared) (u:Value),BindsTo s fd ⟨[u],[]⟩ [(x,u)])
    (hsp:∀ H:Hp,Only H->SqL K H a (ns.map V.int)->sp [.ref a] H (fun v _=>v=.bl true) fun _ _ _=>False)
    (hCX:∀ H e s',CX [] H s₁ (fun _ _ _=>False) e s'->False):
    codeAny (model P w) callerA (.call (.ref fa) ⟨[.ref a],[]⟩) (fun r s'=>r=.ok (.ret (.bool true))/\OldK s₁.heap s'.heap/\s'.os=s₁.os/\AllBare s'.gens) s₁:=by
  have rv:=vals_ints hi
  have lenV:=hi.length
  have core:∀ H:Hp,Only H->SqL K H a (ns.map V.int)->HOk P w H s₁.heap->(∀ b,H b≠none->b=a)->(H a≠none->K.lookup a=none)->
      codeAny (model P w) callerA (.call (.ref fa) ⟨[.ref a],[]⟩) (fun r s'=>r=.ok (.ret (.bool true))/\OldK s₁.heap s'.heap/\s'.os=s₁.os/\AllBare s'.gens) s₁:=by
    intro H hO hS hok hA hK
    have base_of:∀ {b:Addr}{o:Obj},s₁.heap.get? b=some o->H b=none->(hidT s₁.heap H).get? b=some o:=fun e n=>hidT_get e n
    have noA:∀ {b:Addr}{o:Obj}{es:Array DictEntry}{ep:Nat},s₁.heap.get? b=some o->o.data=.dict es ep->H b=none:=fun {b o es ep} e d=>by
      cases q:H b with
      | none=>rfl
      | some u=>
        have e':b=a:=hA b (by rw [q]; simp)
        subst e'
        rw [ha] at e; cases e
        have d':Data.seq vs.toArray _=Data.dict es ep:=d
        cases d'
    have nsK:∀ {b:Addr}{m:Str->Option Value},s₁.heap.Ns b m->(hidT s₁.heap H).Ns b m:=fun {b m} ⟨o,es,ep,e,d,r⟩=>⟨o,es,ep,base_of e (noA e d),d,r⟩
    have hKb:K.In (hidT s₁.heap H):=fun b o e=>base_of (KX b o e) (by
      cases q:H b with
      | none=>rfl
      | some u=>
        have e':b=a:=hA b (by rw [q]; simp)
        subst e'
        rw [hK (by rw [q]; simp)] at e; cases e)
    have hM:Mod K mg (hidT s₁.heap H):=⟨hKb,nsK hns,⟨mb,nsK hb,hbb⟩,let ⟨mc,h1,h2⟩:=hlim; ⟨mc,nsK h1,h2⟩⟩
    have e0:Env0 P w K mg (hidT s₁.heap H) callerA [] s₁ H:=⟨rfl,hM,fun b o e=>of_hidT e,Nat.le_of_eq (hidT_size _ _),trivial,fun b hb=>absurd (show b∈([]:List Addr) from hb) (by simp),hok,.of_eq hg⟩
    refine codeAny_mono ((F _ hKb (nsK hns)).run callerA [] s₁ H ⟨[.ref a],[]⟩ [.ref a] [.ref a] _ _ hr e0 (hbind s₁ (.ref a)) (.cons rfl .nil) (hsp H hO hS)) fun r s' h=>?_
    cases r with
    | error e=>exact (hCX H e s' h).elim
    | ok fl=>
      cases fl with
      | next=>exact False.elim h
      | brk=>exact False.elim h
      | cont=>exact False.elim h
      | ret u=>
        obtain⟨v,H',os,bare,un,hok',r',q⟩:=h
        have q':v=.bl true:=q
        subst q'
        obtain rfl:u=Value.bool true:=r'
        refine⟨rfl,OldK.of_keep fun b o e=>?_,os,bare⟩
        cases q:H b with
        | none=>exact un.keep b o e q (by intro z; exact absurd (show b∈([]:List Addr) from z) (by simp)) (by simp)
        | some u=>
          rcases hO b with z | ⟨ob,xs,z⟩
          · rw [q] at z; cases z
          · have z2:=un.frzs b ob _ z
            obtain⟨e1,_⟩:=hok b _ z
            obtain⟨e2,_⟩:=hok' b _ z2
            rw [e] at e1; cases e1
            exact e2
  cases hk:K.lookup a with
  | some o=>
    have e:=KX a o hk
    rw [ha] at e
    cases e
    refine core (fun _=>none) (fun _=>.inl rfl) (.inr ⟨_,vs.toArray,_,hk,rfl,rfl,rfl,by rw [List.size_toArray,lenV]; exact hl,by simpa using rv⟩) (fun b u z=>by have z':(none:Option HO)=some u:=z; cases z') (fun b z=>absurd rfl z) fun z=>absurd rfl z
  | none=>
    refine core (fun b=>if b=a then some (.frz { cls:=.type "list",data:=.seq vs.toArray } (.lst (ns.map V.int))) else none) (fun b=>?_) (.inl (.inr ⟨{ cls:=.type "list",data:=.seq vs.toArray },if_pos rfl⟩)) (fun b u z=>?_) (fun b z=>?_) fun _=>hk
    · by_cases hb:b=a
      · exact .inr ⟨_,_,if_pos hb⟩
      · exact .inl (if_neg hb)
    · by_cases hb:b=a
      · have z':=(if_pos hb).symm.trans z
        cases z'
        subst hb
        exact⟨ha,by rw [List.length_map]; exact hl,vs,_,rv,ha⟩
      · have z':=(if_neg hb).symm.trans z
        cases z'
    · by_cases hb:b=a
      · exact hb
      · exact absurd (if_neg hb) z
end L2
namespace L2
open PySem PySem.Spec PyProof.Rows
abbrev KOf {K:PySem.W.Frag}{h:Heap} (_:K.In h):PySem.W.Frag:=K
theorem walk_of {l:PySem.W.OpenLaw}{n k:Nat}{q:Program}{loose:List Str}{XP:(Str->Option Value)->Heap->Prop}{YP:World->Heap->Prop}{d:DefRec}{K:Params->PySem.W.Frag}{CX:World->CXT}{sp:World->Sp}{x:Str}
    (hn:l.most=some n) (hn2:n<=sizeLine) (hdf:d.params.defaults=[]) (hr:Room k callerA)
    (hY:∀ (w:World) (h:Heap),YP w h->(K w.params).In h)
    (F:∀ (w:World) (mg:Str->Option Value) (fa:Addr) (h:Heap),(K w.params).In h->h.Ns mainGlobals mg->mg d.name=some (.ref fa)->
      ∃ fd:FuncData,(∀ (s:Shared) (u:Value),BindsTo s fd ⟨[u],[]⟩ [(x,u)])/\
        ∀ base:Heap,(K w.params).In base->base.Ns mainGlobals mg->FnOk l.prog w (K w.params) mg base (CX w) k fa fd [x] (sp w))
    (hsp:∀ (w:World) (H:Hp) (a:Addr) (ns:List Int),ns.length<=n->Only H->SqL (K w.params) H a (ns.map V.int)->sp w [.ref a] H (fun v _=>v=.bl true) fun _ _ _=>False)
    (hCX:∀ (w:World) (H:Hp) (s:Shared) (e:Value) (s':Shared),CX w [] H s (fun _ _ _=>False) e s'->False):
    PySem.W.WalkO q loose XP YP l.row.toRowW d [] (fun f vs=>PySem.call f vs):=by
  refine Att.attach_call hn hdf fun w s₀ s₁ mg mb fa o pm cd doc a vs ns G Y ho hd hcd hmg hobj hints hlen hg=>?_
  have KX:=hY w _ Y
  obtain⟨fd,hb,hF⟩:=F w mg fa _ KX G.T.g hmg
  exact law_call KX G.T.g G.T.b G.T.builtins G.T.nolimit hg hobj hints (Nat.le_trans hlen hn2) hr hF hb (fun H hO hS=>hsp w H a ns hlen hO hS) fun H e s'=>hCX w H s₁ e s'
end L2
namespace L2
open PySem PySem.Spec PyProof.Rows
def inClass (s:Stmt) (j:Nat):Stmt:=match s with
  | .ClassDef _ _ _ body _ _ _ _ _ _ _=>body.getD j (.Pass ⟨0,0,0,0⟩)
  | _=>.Pass ⟨0,0,0,0⟩
def defArgs (s:Stmt):Arguments:=match s with
  | .FunctionDef _ a _ _ _ _ _ _ _ _=>a
  | _=>{ posonlyargs:=[],args:=[],vararg:=none,kwonlyargs:=[],kw_defaults:=[],kwarg:=none,defaults:=[] }
def defBody (s:Stmt):List Stmt:=match s with
  | .FunctionDef _ _ b _ _ _ _ _ _ _=>b
  | _=>[]
def defScope (s:Stmt):Scope:=match s with
  | .FunctionDef _ _ _ _ _ _ sc _ _ _=>sc
  | _=>{ kind:=.function,names:=[],isGenerator:=false,isCoroutine:=false }
abbrev CX0:CXT:=fun _ _ _ _ _ _=>False
abbrev E0:XK:=fun _ _ _=>False
theorem pass0 {X:Cx}:Passes CX0 X E0:=fun _ _ _ _ _ _ _ h=>h.elim
structure Fun (K:PySem.W.Frag) (x qual:Str) (st:Stmt) (f:Addr) (fd:FuncData):Prop where
  ex:∃ (oc:Value) (od:Option Addr) (kV doc pm:Value) (an:Option Addr) (cdv ct:Value) (osl:Array (Option Value)),
    fd=PySem.W.fnOf x qual (defArgs st) (defBody st) (defScope st) .none kV doc pm an cdv ct/\K.lookup f=some ⟨oc,od,.func fd,osl⟩/\PySem.W.codeIn K cdv qual=true
  kp:PySem.W.keepIn K (.ref f)=true
section
variable {P:Program}{w:World}{K:PySem.W.Frag}{mg:Str->Option Value}{base:Heap}
theorem Fun.ok {x qual:Str}{st:Stmt}{f:Addr}{fd:FuncData}{N ps:List Str}{k:Nat}{sp:Sp} (F:Fun K x qual st f fd) (S:FnScope N ps (defScope st)) (len:∀ vs H Q E,sp vs H Q E->vs.length=ps.length)
    (hbody:∀ (cdv:Value) (A:Around) (outer:List Env) (s:Shared) (H:Hp) (vs:List V) (Q:VK) (E:XK),Room k (A.deeper (envOfC qual (defScope st) s.heap.objs.size f cdv))->sp vs H Q E->
      ∃ t,PSs (cxOf CX0 P w K mg base N qual (defScope st) f cdv A outer s H E).nox (defBody st) t/\t { nx:=fun _ H'=>Q .non H',rt:=Q } (start N vs) H):FnOk P w K mg base CX0 (k+1) f fd ps sp:=by
  obtain⟨oc,od,kV,doc,pm,an,cdv,ct,osl,rfl,lk,hcd⟩:=F.ex
  refine fn_of lk hcd S len fun A outer s H vs Q E hr hsp=>?_
  obtain⟨t,h,q⟩:=hbody cdv A outer s H vs Q E hr hsp
  exact⟨t,h.nox,q⟩
theorem Fun.binds {x qual:Str}{st:Stmt}{f:Addr}{fd:FuncData}{ps:List Str} (F:Fun K x qual st f fd)
    (h:∀ (kV doc pm:Value) (an:Option Addr) (cdv ct:Value) (us:List Value),us.length=ps.length->bindArgs (PySem.W.fnOf x qual (defArgs st) (defBody st) (defScope st) .none kV doc pm an cdv ct) ⟨us,[]⟩=pure (ps.zip us)):Binds K fd ps []:=by
  obtain⟨oc,od,kV,doc,pm,an,cdv,ct,osl,rfl,lk,hcd⟩:=F.ex
  exact .all (h kV doc pm an cdv ct)
theorem fun_mk {x qual:Str}{st:Stmt}{f:Addr}{oc:Value}{od an:Option Addr}{osl:Array (Option Value)}{kV doc pm cdv ct:Value} (l:K.lookup f=some ⟨oc,od,.func (PySem.W.fnOf x qual (defArgs st) (defBody st) (defScope st) .none kV doc pm an cdv ct),osl⟩)
    (c:PySem.W.codeIn K cdv qual=true) (k:PySem.W.keepIn K (.ref f)=true):Fun K x qual st f (PySem.W.fnOf x qual (defArgs st) (defBody st) (defScope st) .none kV doc pm an cdv ct):=⟨⟨oc,od,kV,doc,pm,an,cdv,ct,osl,rfl,l,c⟩,k⟩
end
section
variable {X:Cx}
theorem pv (i:Nat) {x:Str}{pos:Pos} (hN:X.N[i]?=some x:=by rfl) (hv:Vis X.env.scope x:=by first | exact Or.inl rfl | exact Or.inr (Or.inl rfl) | exact Or.inr (Or.inr rfl)) (hd:(x==("__debug__":Str))=false:=by decide)
    (hcd:(x==("__classdict__":Str))=false:=by decide):PE X (.Name x pos) (tVar i):=pe_var hN hv hd hcd
end
theorem iteF {A B:Prop} (h:B):if false=true then A else B:=by
  rw [if_neg Bool.false_ne_true]
  exact h
theorem iteT {A B:Prop} (h:A):if true=true then A else B:=by
  rw [if_pos rfl]
  exact h
def Same (H H':Hp):Prop:=∀ b o,H b=some o->H' b=some o
end L2
set_option Elab.async false
set_option linter.all false
set_option maxRecDepth 100000
set_option maxHeartbeats 8000000
namespace DL
open PySem PySem.Spec PyProof.Rows L2
abbrev St:=L2.St
inductive D where
 | non | bl (b:Bool) | int (i:Int) | str (x:Str) | tup (ds:List D) | lst (n:Nat) | ro (ns:List Int)
inductive O where
 | lst (ds:List D) | dct (kvs:List (Key×D))
abbrev Hh:=List O
abbrev En:=List (Option D)
inductive Res (α:Type) where
 | ok (a:α) (h:Hh) | ex (c:Value) (h:Hh) | bad
inductive Out where
 | nx (e:En) (h:Hh) | rt (d:D) (h:Hh) | bk (e:En) (h:Hh) | ct (e:En) (h:Hh) | ex (c:Value) (e:En) (h:Hh) | bad
abbrev FE:=En->Hh->Res D
abbrev FT:=En->Hh->Res Bool
abbrev FA:=En->Hh->Res (List D)
abbrev FS:=En->Hh->Out
def Res.bind {α β:Type} (r:Res α) (k:α->Hh->Res β):Res β:=match r with
 | .ok a h=>k a h
 | .ex c h=>.ex c h
 | .bad=>.bad
@[simp] theorem Res.bind_ok {α β:Type} (a:α) (h:Hh) (k:α->Hh->Res β):(Res.ok a h).bind k=k a h:=rfl
@[simp] theorem Res.bind_ex {α β:Type} (c:Value) (h:Hh) (k:α->Hh->Res β):(Res.ex c h:Res α).bind k=.ex c h:=rfl
@[simp] theorem Res.bind_bad {α β:Type} (k:α->Hh->Res β):(Res.bad:Res α).bind k=.bad:=rfl
def Res.out {α:Type} (r:Res α) (e:En) (k:α->Hh->Out):Out:=match r with
 | .ok a h=>k a h
 | .ex c h=>.ex c e h
 | .bad=>.bad
@[simp] theorem Res.out_ok {α:Type} (a:α) (h:Hh) (e:En) (k:α->Hh->Out):(Res.ok a h).out e k=k a h:=rfl
@[simp] theorem Res.out_ex {α:Type} (c:Value) (h:Hh) (e:En) (k:α->Hh->Out):(Res.ex c h:Res α).out e k=.ex c e h:=rfl
@[simp] theorem Res.out_bad {α:Type} (e:En) (k:α->Hh->Out):(Res.bad:Res α).out e k=.bad:=rfl
section
variable {α β:Type}{F G:α->β->Prop}
theorem Pd.app:∀ {xs:List α}{us:List β}{ys:List α}{ws:List β},Paired F xs us->Paired F ys ws->Paired F (xs++ys) (us++ws)
 | _,_,_,_,.nil,s=>s
 | _,_,_,_,.cons r t,s=>.cons r (Pd.app t s)
theorem Pd.take:∀ {xs:List α}{us:List β} (n:Nat),Paired F xs us->Paired F (xs.take n) (us.take n)
 | _,_,0,_=>.nil
 | _,_,_+1,.nil=>.nil
 | _,_,n+1,.cons r t=>.cons r (Pd.take n t)
theorem Pd.drop:∀ {xs:List α}{us:List β} (n:Nat),Paired F xs us->Paired F (xs.drop n) (us.drop n)
 | _,_,0,r=>r
 | _,_,_+1,.nil=>.nil
 | _,_,n+1,.cons _ t=>Pd.drop n t
theorem Pd.get:∀ {xs:List α}{us:List β}{i:Nat}{x:α},Paired F xs us->xs[i]?=some x->∃ u,us[i]?=some u/\F x u
 | _,_,_,_,.nil,e=>by simp at e
 | _,_,0,_,.cons r _,e=>by
  simp only [List.getElem?_cons_zero,Option.some.injEq] at e
  subst e
  exact⟨_,by simp,r⟩
 | _,_,i+1,_,.cons _ t,e=>by
  simp only [List.getElem?_cons_succ] at e
  obtain⟨u,e2,r⟩:=Pd.get t e
  exact⟨u,by simpa using e2,r⟩
theorem Pd.set {x:α}{u:β} (r:F x u):∀ {xs:List α}{us:List β} (i:Nat),Paired F xs us->Paired F (xs.set i x) (us.set i u)
 | _,_,_,.nil=>.nil
 | _,_,0,.cons _ t=>.cons r t
 | _,_,i+1,.cons q t=>.cons q (Pd.set r i t)
theorem Pd.imp (f:∀ a b,F a b->G a b):∀ {xs:List α}{us:List β},Paired F xs us->Paired G xs us
 | _,_,.nil=>.nil
 | _,_,.cons r t=>.cons (f _ _ r) (Pd.imp f t)
theorem Pd.len {xs:List α}{us:List β} (r:Paired F xs us):xs.length=us.length:=r.length
theorem Pd.of_get:∀ {xs:List α}{us:List β},xs.length=us.length->(∀ (i:Nat) x u,xs[i]?=some x->us[i]?=some u->F x u)->Paired F xs us
 | [],[],_,_=>.nil
 | [],_::_,h,_=>by simp at h
 | _::_,[],h,_=>by simp at h
 | _::_,_::_,h,f=>.cons (f 0 _ _ (by simp) (by simp)) (Pd.of_get (by simpa using h) fun i x u e1 e2=>f (i+1) x u (by simpa using e1) (by simpa using e2))
theorem Pd.dropLast:∀ {xs:List α}{us:List β},Paired F xs us->Paired F xs.dropLast us.dropLast
 | _,_,.nil=>.nil
 | _,_,.cons _ .nil=>.nil
 | _,_,.cons r (.cons q t)=>.cons r (Pd.dropLast (.cons q t))
theorem Pd.isEmpty:∀ {xs:List α}{us:List β},Paired F xs us->xs.isEmpty=us.isEmpty
 | _,_,.nil=>rfl
 | _,_,.cons _ _=>rfl
end
def SqRo (K:PySem.W.Frag) (H:Hp) (a:Addr) (xs:List V):Prop:=
 (∃ o,H a=some (.frz o (.lst xs)))\/
  ∃ (o:Obj) (its:Array Value) (n:Nat),K.lookup a=some o/\o.cls=.type "list"/\o.dict=none/\o.data=.seq its n/\its.size<=sizeLine/\Vals xs its.toList
theorem SqRo.sq {K:PySem.W.Frag}{H:Hp}{a:Addr}{xs:List V} (h:SqRo K H a xs):SqL K H a xs:=by
 rcases h with⟨o,h⟩ | h
 ·exact .inl (.inr ⟨o,h⟩)
 ·exact .inr h
inductive RelD (K:PySem.W.Frag) (as:List Addr) (H:Hp):D->V->Prop where
 | non:RelD K as H .non .non
 | bl (b:Bool):RelD K as H (.bl b) (.bl b)
 | int (i:Int):RelD K as H (.int i) (.int i)
 | str (x:Str):RelD K as H (.str x) (.str x)
 | tup' {ds:List D}{vs:List V}{a:Addr}:H a=some (.tup vs)->ds.length=vs.length->(∀ (i:Nat) d v,ds[i]?=some d->vs[i]?=some v->RelD K as H d v)->RelD K as H (.tup ds) (.ref a)
 | lst {n:Nat}{a:Addr}:as[n]?=some a->RelD K as H (.lst n) (.ref a)
 | ro {ns:List Int}{a:Addr}:SqRo K H a (ns.map V.int)->RelD K as H (.ro ns) (.ref a)
abbrev RelDs (K:PySem.W.Frag) (as:List Addr) (H:Hp):List D->List V->Prop:=Paired (RelD K as H)
theorem RelD.tup {K:PySem.W.Frag}{as:List Addr}{H:Hp}{ds:List D}{vs:List V}{a:Addr} (h:H a=some (.tup vs)) (r:RelDs K as H ds vs):RelD K as H (.tup ds) (.ref a):=
 .tup' h r.length fun i d v e1 e2=>by
  obtain⟨u,e3,q⟩:=Pd.get r e1
  rw [e2] at e3
  cases e3
  exact q
theorem RelD.tup_inv {K:PySem.W.Frag}{as:List Addr}{H:Hp}{ds:List D}{v:V} (h:RelD K as H (.tup ds) v):∃ a vs,v=.ref a/\H a=some (.tup vs)/\RelDs K as H ds vs:=by
 cases h with
 | tup' h1 h2 h3=>exact⟨_,_,rfl,h1,Pd.of_get h2 h3⟩
structure Ext (as:List Addr) (H:Hp) (as':List Addr) (H':Hp):Prop where
 pre:∃ m,as'=as++m
 tups:∀ b xs,H b=some (.tup xs)->H' b=some (.tup xs)
 frzs:∀ b o u,H b=some (.frz o u)->H' b=some (.frz o u)
theorem Ext.refl (as:List Addr) (H:Hp):Ext as H as H:=⟨⟨[],by simp⟩,fun _ _ h=>h,fun _ _ _ h=>h⟩
theorem Ext.trans {as as1 as2:List Addr}{H H1 H2:Hp} (a:Ext as H as1 H1) (b:Ext as1 H1 as2 H2):Ext as H as2 H2:=by
 obtain⟨m1,e1⟩:=a.pre
 obtain⟨m2,e2⟩:=b.pre
 exact⟨⟨m1++m2,by rw [e2,e1,List.append_assoc]⟩,fun c xs h=>b.tups c xs (a.tups c xs h),fun c o u h=>b.frzs c o u (a.frzs c o u h)⟩
theorem Ext.at {as as1:List Addr}{H H1:Hp} (a:Ext as H as1 H1) {n:Nat}{p:Addr} (h:as[n]?=some p):as1[n]?=some p:=by
 obtain⟨m,rfl⟩:=a.pre
 rw [List.getElem?_append_left (List.getElem?_eq_some_iff.mp h).1]
 exact h
theorem RelD.mono {K:PySem.W.Frag}{as as1:List Addr}{H H1:Hp} (x:Ext as H as1 H1) {d:D}{v:V} (h:RelD K as H d v):RelD K as1 H1 d v:=by
 induction h with
 | non=>exact .non
 | bl b=>exact .bl b
 | int i=>exact .int i
 | str y=>exact .str y
 | tup' h1 h2 h3 ih=>exact .tup' (x.tups _ _ h1) h2 ih
 | lst h=>exact .lst (x.at h)
 | ro h=>
  refine .ro ?_
  rcases h with⟨o,h⟩ | h
  ·exact .inl ⟨o,x.frzs _ _ _ h⟩
  ·exact .inr h
theorem RelDs.mono {K:PySem.W.Frag}{as as1:List Addr}{H H1:Hp} (x:Ext as H as1 H1) {ds:List D}{vs:List V} (h:RelDs K as H ds vs):RelDs K as1 H1 ds vs:=Pd.imp (fun _ _ r=>RelD.mono x r) h
def RelO (K:PySem.W.Frag) (as:List Addr) (H:Hp) (a:Addr):O->Prop
 | .lst ds=>∃ vs,H a=some (.lst vs)/\RelDs K as H ds vs
 | .dct kvs=>∃ ws,H a=some (.dK ws)/\Paired (fun (p:Key×D) (q:Key×V)=>p.1=q.1/\RelD K as H p.2 q.2) kvs ws
structure RelH (K:PySem.W.Frag) (as:List Addr) (H:Hp) (h:Hh):Prop where
 len:as.length=h.length
 nd:as.Nodup
 obj:∀ (n:Nat) a o,as[n]?=some a->h[n]?=some o->RelO K as H a o
theorem RelO.there {K:PySem.W.Frag}{as:List Addr}{H:Hp}{a:Addr}{o:O} (h:RelO K as H a o):∃ u,H a=some u:=by
 cases o with
 | lst ds=>obtain⟨vs,h,_⟩:=h; exact⟨_,h⟩
 | dct kvs=>obtain⟨vs,h,_⟩:=h; exact⟨_,h⟩
theorem RelO.mono {K:PySem.W.Frag}{as as1:List Addr}{H H1:Hp}{a:Addr}{o:O} (x:Ext as H as1 H1) (e:H1 a=H a) (h:RelO K as H a o):RelO K as1 H1 a o:=by
 cases o with
 | lst ds=>obtain⟨vs,h,r⟩:=h; exact⟨vs,by rw [e]; exact h,r.mono x⟩
 | dct kvs=>obtain⟨ws,h,r⟩:=h; exact⟨ws,by rw [e]; exact h,Pd.imp (fun _ _ q=>⟨q.1,q.2.mono x⟩) r⟩
theorem RelH.get {K:PySem.W.Frag}{as:List Addr}{H:Hp}{h:Hh} (r:RelH K as H h) {n:Nat}{o:O} (e:h[n]?=some o):∃ a,as[n]?=some a/\RelO K as H a o:=by
 have hn:n < as.length:=by rw [r.len]; exact (List.getElem?_eq_some_iff.mp e).1
 exact⟨as[n],List.getElem?_eq_getElem hn,r.obj n _ o (List.getElem?_eq_getElem hn) e⟩
theorem RelH.there {K:PySem.W.Frag}{as:List Addr}{H:Hp}{h:Hh} (r:RelH K as H h) {a:Addr} (m:a∈as):∃ u,H a=some u:=by
 obtain⟨n,hn,e⟩:=List.mem_iff_getElem.mp m
 have hn':n < h.length:=by rw [<-r.len]; exact hn
 exact (r.obj n a h[n] (by rw [List.getElem?_eq_getElem hn,e]) (List.getElem?_eq_getElem hn')).there
theorem RelH.not_mem {K:PySem.W.Frag}{as:List Addr}{H:Hp}{h:Hh} (r:RelH K as H h) {p:Addr} (e:H p=none):p∉as:=fun m=>by
 obtain⟨u,q⟩:=r.there m
 rw [e] at q
 cases q
section
variable {K:PySem.W.Frag}{as:List Addr}{H:Hp}{h:Hh}{p a:Addr}
theorem ext_upd {o:HO} (hp:H p=none):Ext as H as (upd H p o):=
 ⟨⟨[],by simp⟩,fun b xs e=>by rw [upd_ne (ne_of_none e hp)]; exact e,fun b o u e=>by rw [upd_ne (ne_of_none e hp)]; exact e⟩
theorem ext_new {o:HO} (hp:H p=none):Ext as H (as++[p]) (upd H p o):=
 ⟨⟨[p],rfl⟩,(ext_upd (as:=as) hp).tups,(ext_upd (as:=as) hp).frzs⟩
theorem ext_set {o u:HO} (ha:H a=some o) (h1:∀ xs,o≠.tup xs) (h2:∀ b x,o≠.frz b x):Ext as H as (upd H a u):=
 ⟨⟨[],by simp⟩,fun b xs e=>by rw [upd_ne (ne_of e ha fun z=>h1 xs z.symm)]; exact e,fun b o' w e=>by rw [upd_ne (ne_of e ha fun z=>h2 o' w z.symm)]; exact e⟩
theorem RelH.tup {vs:List V} (r:RelH K as H h) (hp:H p=none):RelH K as (upd H p (.tup vs)) h:=
 ⟨r.len,r.nd,fun n a o e1 e2=>by
  have q:=r.obj n a o e1 e2
  obtain⟨u,hu⟩:=q.there
  exact q.mono (ext_upd hp) (upd_ne (ne_of_none hu hp))⟩
theorem RelH.new {o:O}{u:HO} (r:RelH K as H h) (hp:H p=none) (ro:RelO K (as++[p]) (upd H p u) p o):RelH K (as++[p]) (upd H p u) (h++[o]):=by
 refine⟨by simp [r.len],?_,fun n a o' e1 e2=>?_⟩
 ·rw [List.nodup_append]
  exact⟨r.nd,by simp,fun x hx y hy=>by
   have:y=p:=by simpa using hy
   subst this
   intro z
   subst z
   exact r.not_mem hp hx⟩
 ·by_cases hn:n < as.length
  ·rw [List.getElem?_append_left hn] at e1
   rw [List.getElem?_append_left (by rw [<-r.len]; exact hn)] at e2
   have q:=r.obj n a o' e1 e2
   obtain⟨w,hw⟩:=q.there
   exact q.mono (ext_new hp) (upd_ne (ne_of_none hw hp))
  ·have hlt:=(List.getElem?_eq_some_iff.mp e1).1
   have hn':n=as.length:=by
    rw [List.length_append,List.length_singleton] at hlt
    omega
   subst hn'
   rw [List.getElem?_concat_length] at e1
   rw [r.len,List.getElem?_concat_length] at e2
   cases e1
   cases e2
   exact ro
theorem RelH.newL {ds:List D}{vs:List V} (r:RelH K as H h) (hp:H p=none) (rd:RelDs K as H ds vs):RelH K (as++[p]) (upd H p (.lst vs)) (h++[.lst ds]):=
 r.new hp ⟨vs,upd_same,rd.mono (ext_new hp)⟩
theorem RelH.put {n:Nat}{o o':O}{u:HO} (r:RelH K as H h) (hn:as[n]?=some a) (ho:h[n]?=some o) (x:Ext as H as (upd H a u)) (ro:RelO K as (upd H a u) a o'):RelH K as (upd H a u) (h.set n o'):=by
 refine⟨by simp [r.len],r.nd,fun m b o2 e1 e2=>?_⟩
 by_cases hm:m=n
 ·subst hm
  rw [hn] at e1
  cases e1
  rw [List.getElem?_set_self (List.getElem?_eq_some_iff.mp ho).1] at e2
  cases e2
  exact ro
 ·rw [List.getElem?_set_ne (Ne.symm hm)] at e2
  have q:=r.obj m b o2 e1 e2
  refine q.mono x (upd_ne ?_)
  intro z
  subst z
  exact hm (nodup_ix' r.nd e1 hn)
where
 nodup_ix' {l:List Addr} (hN:l.Nodup) {i j:Nat}{x:Addr} (a:l[i]?=some x) (b:l[j]?=some x):i=j:=by
  obtain⟨h1,e1⟩:=List.getElem?_eq_some_iff.mp a
  obtain⟨h2,e2⟩:=List.getElem?_eq_some_iff.mp b
  exact (List.getElem_inj hN).mp (e1.trans e2.symm)
theorem ext_lst {n:Nat}{ds:List D}{vs:List V} (r:RelH K as H h) (hn:as[n]?=some a) (ho:h[n]?=some (.lst ds)):Ext as H as (upd H a (.lst vs)):=by
 obtain⟨ws,e,_⟩:=r.obj n a _ hn ho
 exact ext_set e (fun xs z=>by cases z) (fun b x z=>by cases z)
theorem RelH.setL {n:Nat}{ds ds':List D}{vs:List V} (r:RelH K as H h) (hn:as[n]?=some a) (ho:h[n]?=some (.lst ds)) (rd:RelDs K as H ds' vs):RelH K as (upd H a (.lst vs)) (h.set n (.lst ds')):=
 r.put hn ho (ext_lst r hn ho) ⟨vs,upd_same,rd.mono (ext_lst r hn ho)⟩
end
structure RelE (K:PySem.W.Frag) (as:List Addr) (H:Hp) (env:En) (σ:St):Prop where
 len:env.length=σ.length
 at_:∀ (i:Nat) d,env[i]?=some (some d)->∃ v,σ[i]?=some (some v)/\RelD K as H d v
theorem RelE.mono {K:PySem.W.Frag}{as as1:List Addr}{H H1:Hp}{env:En}{σ:St} (x:Ext as H as1 H1) (r:RelE K as H env σ):RelE K as1 H1 env σ:=
 ⟨r.len,fun i d e=>let ⟨v,e1,q⟩:=r.at_ i d e; ⟨v,e1,q.mono x⟩⟩
theorem RelE.set {K:PySem.W.Frag}{as:List Addr}{H:Hp}{env:En}{σ:St} (r:RelE K as H env σ) (i:Nat) {d:D}{v:V} (q:RelD K as H d v):RelE K as H (env.set i (some d)) (σ.set i (some v)):=by
 refine⟨by simp [r.len],fun j d' e=>?_⟩
 by_cases hj:j=i
 ·subst hj
  have hlt:j < env.length:=by
   have:=(List.getElem?_eq_some_iff.mp e).1
   simpa using this
  rw [List.getElem?_set_self hlt] at e
  cases e
  exact⟨v,by rw [List.getElem?_set_self (by rw [<-r.len]; exact hlt)],q⟩
 ·rw [List.getElem?_set_ne (Ne.symm hj)] at e
  rw [List.getElem?_set_ne (Ne.symm hj)]
  exact r.at_ j d' e
def Loose (X:Cx) (pins:List (Addr×Obj)) (H:Hp) (p:Addr):Prop:=X.s₀.heap.get? p=none/\H p=none/\∀ q∈X.pn++pins,q.1≠p
def Fresh (h:Heap) (p:Addr) (c:Value) (L:Addr->Prop):Prop:=∃ oe vs a0,h.get? p=some oe/\oe.cls=c/\oe.data=.fields vs/\vs[0]?=some a0/\L p/\vs[1]?=some .none
def Fly (h:Heap) (p:Addr) (c:Value) (L:Addr->Prop):Prop:=∃ oe vs a0 T oT ts,h.get? p=some oe/\oe.cls=c/\oe.data=.fields vs/\vs[0]?=some a0/\L p/\vs[1]?=some (.ref T)/\T≠p/\h.get? T=some oT/\oT.data=.fields ts/\ts[3]?=some .none/\L T
def Flies (X:Cx) (pins:List (Addr×Obj)) (H:Hp) (e c:Value) (s:Shared):Prop:=∃ p,e=.ref p/\(Fresh s.heap p c (Loose X pins H)\/Fly s.heap p c (Loose X pins H))
def XW (X:Cx) (c:Value) (P:St->Hp->Prop):Prop:=∀ pins σ H e s,Inv X pins σ H s->Flies X pins H e c s->P σ H->X.xe e s
theorem XW.imp {X:Cx}{c:Value}{P P':St->Hp->Prop} (h:XW X c P) (f:∀ σ H,P' σ H->P σ H):XW X c P':=fun pins σ H e s I fl p=>h pins σ H e s I fl (f σ H p)
def PX {α:Type} (X:Cx) (as:List Addr) (H:Hp) (env:En) (r:Res α) (R:List Addr->Hp->Hh->α->Prop):Prop:=match r with
 | .ok a h'=>∀ as' H',Ext as H as' H'->RelH X.K as' H' h'->R as' H' h' a
 | .ex c h'=>XW X c fun σ' H'=>∃ as',Ext as H as' H'/\RelH X.K as' H' h'/\RelE X.K as' H' env σ'
 | .bad=>False
section
variable {α β:Type}{X:Cx}{as as1:List Addr}{H H1:Hp}{env:En}{r:Res α}{R R':List Addr->Hp->Hh->α->Prop}
theorem PX.later (x:Ext as H as1 H1) (h:PX X as H env r R):PX X as1 H1 env r R:=by
 cases r with
 | ok a h'=>exact fun as' H' y rh=>h as' H' (x.trans y) rh
 | ex c h'=>exact XW.imp h fun σ' H' ⟨as',y,z⟩=>⟨as',x.trans y,z⟩
 | bad=>exact h
theorem PX.imp (h:PX X as H env r R) (f:∀ as' H' h' a,Ext as H as' H'->RelH X.K as' H' h'->R as' H' h' a->R' as' H' h' a):PX X as H env r R':=by
 cases r with
 | ok a h'=>exact fun as' H' y rh=>f as' H' h' a y rh (h as' H' y rh)
 | ex c h'=>exact h
 | bad=>exact h
theorem PX.bind {k:α->Hh->Res β}{R:List Addr->Hp->Hh->β->Prop} (h:PX X as H env (r.bind k) R):PX X as H env r fun as1 H1 h1 a=>PX X as1 H1 env (k a h1) R:=by
 cases r with
 | ok a h'=>exact fun as' H' y rh=>PX.later y h
 | ex c h'=>exact h
 | bad=>exact h
end
def tE (X:Cx) (f:FE):TE:=fun σ H Q=>∃ as env h,RelE X.K as H env σ/\RelH X.K as H h/\PX X as H env (f env h) fun as' H' _ d=>∀ v,RelD X.K as' H' d v->Q v H'
def tT (X:Cx) (f:FT):TT:=fun σ H Q=>∃ as env h,RelE X.K as H env σ/\RelH X.K as H h/\PX X as H env (f env h) fun _ H' _ b=>Q b H'
def tA (X:Cx) (f:FA):TA:=fun σ H Q=>∃ as env h,RelE X.K as H env σ/\RelH X.K as H h/\PX X as H env (f env h) fun as' H' _ ds=>∀ vs,RelDs X.K as' H' ds vs->Q vs H'
def POut (X:Cx) (as:List Addr) (H:Hp) (Dn:Ends) (o:Out):Prop:=match o with
 | .nx e h'=>∀ as' H' σ',Ext as H as' H'->RelH X.K as' H' h'->RelE X.K as' H' e σ'->Dn.nx σ' H'
 | .rt d h'=>∀ as' H' v,Ext as H as' H'->RelH X.K as' H' h'->RelD X.K as' H' d v->Dn.rt v H'
 | .bk e h'=>∀ as' H' σ',Ext as H as' H'->RelH X.K as' H' h'->RelE X.K as' H' e σ'->Dn.bk σ' H'
 | .ct e h'=>∀ as' H' σ',Ext as H as' H'->RelH X.K as' H' h'->RelE X.K as' H' e σ'->Dn.ct σ' H'
 | .ex c e h'=>XW X c fun σ' H'=>∃ as',Ext as H as' H'/\RelH X.K as' H' h'/\RelE X.K as' H' e σ'
 | .bad=>False
theorem POut.later {X:Cx}{as as1:List Addr}{H H1:Hp}{Dn:Ends}{o:Out} (x:Ext as H as1 H1) (h:POut X as H Dn o):POut X as1 H1 Dn o:=by
 cases o with
 | nx e h'=>exact fun as' H' σ' y=>h as' H' σ' (x.trans y)
 | rt d h'=>exact fun as' H' v y=>h as' H' v (x.trans y)
 | bk e h'=>exact fun as' H' σ' y=>h as' H' σ' (x.trans y)
 | ct e h'=>exact fun as' H' σ' y=>h as' H' σ' (x.trans y)
 | ex c e h'=>exact XW.imp h fun σ' H' ⟨as',y,z⟩=>⟨as',x.trans y,z⟩
 | bad=>exact h
theorem PX.of_out {α:Type}{X:Cx}{as:List Addr}{H:Hp}{env:En}{Dn:Ends}{r:Res α}{k:α->Hh->Out} (h:POut X as H Dn (r.out env k)):PX X as H env r fun as1 H1 h1 a=>POut X as1 H1 Dn (k a h1):=by
 cases r with
 | ok a h'=>exact fun as' H' y rh=>POut.later y h
 | ex c h'=>exact h
 | bad=>exact h
def tS (X:Cx) (f:FS):TS:=fun Dn σ H=>∃ as env h,RelE X.K as H env σ/\RelH X.K as H h/\POut X as H Dn (f env h)
abbrev DE (X:Cx) (e:Expr) (f:FE):Prop:=PE X e (tE X f)
abbrev DT (X:Cx) (e:Expr) (f:FT):Prop:=PT X e (tT X f)
abbrev DW (X:Cx) (e:Expr) (f:FT):Prop:=PW X e (tT X f)
abbrev DA (X:Cx) (es:List Expr) (f:FA):Prop:=PA X es (tA X f)
abbrev DS (X:Cx) (st:Stmt) (f:FS):Prop:=PS X st (tS X f)
abbrev DSs (X:Cx) (st:List Stmt) (f:FS):Prop:=PSs X st (tS X f)
theorem peOf {X:Cx}{e:Expr}{t t':TE} (h:PE X e t) (f:∀ σ H Q,t' σ H Q->t σ H Q):PE X e t':=fun pins s σ H Q I q=>h pins s σ H Q I (f σ H Q q)
theorem ptOf {X:Cx}{e:Expr}{t t':TT} (h:PT X e t) (f:∀ σ H Q,t' σ H Q->t σ H Q):PT X e t':=fun pins s σ H Q I q=>h pins s σ H Q I (f σ H Q q)
theorem pwOf {X:Cx}{e:Expr}{t t':TT} (h:PW X e t) (f:∀ σ H Q,t' σ H Q->t σ H Q):PW X e t':=fun whole pins s σ H Q I q=>h whole pins s σ H Q I (f σ H Q q)
theorem paOf {X:Cx}{es:List Expr}{t t':TA} (h:PA X es t) (f:∀ σ H Q,t' σ H Q->t σ H Q):PA X es t':=fun pos pins s σ H Q I q=>h pos pins s σ H Q I (f σ H Q q)
theorem psOf {X:Cx}{st:Stmt}{t t':TS} (h:PS X st t) (f:∀ Dn σ H,t' Dn σ H->t Dn σ H):PS X st t':=fun pins s σ H Dn I q=>h pins s σ H Dn I (f Dn σ H q)
theorem pssOf {X:Cx}{st:List Stmt}{t t':TS} (h:PSs X st t) (f:∀ Dn σ H,t' Dn σ H->t Dn σ H):PSs X st t':=fun pins s σ H Dn I q=>h pins s σ H Dn I (f Dn σ H q)
def fC (d:D):FE:=fun _ h=>.ok d h
def getO (o:Option (Option D)) (h:Hh):Res D:=match o with
 | some (some d)=>.ok d h
 | _=>.bad
@[simp] theorem getO_some (d:D) (h:Hh):getO (some (some d)) h=.ok d h:=rfl
def fV (i:Nat):FE:=fun env h=>getO env[i]? h
section
variable {X:Cx}{pos:Pos}
theorem de_int {i:Int}{j:Nat}:DE X (.Constant (.int i) j pos) (fC (.int i)):=
 peOf pe_int fun σ H Q ⟨as,env,h,re,rh,p⟩=>p as H (Ext.refl as H) rh _ (.int i)
theorem de_bl {b:Bool}{j:Nat}:DE X (.Constant (.bool b) j pos) (fC (.bl b)):=
 peOf pe_bl fun σ H Q ⟨as,env,h,re,rh,p⟩=>p as H (Ext.refl as H) rh _ (.bl b)
theorem de_non {j:Nat}:DE X (.Constant .none j pos) (fC .non):=
 peOf pe_non fun σ H Q ⟨as,env,h,re,rh,p⟩=>p as H (Ext.refl as H) rh _ .non
theorem de_str {x:Str}{j:Nat}:DE X (.Constant (.str x) j pos) (fC (.str x)):=
 peOf pe_str fun σ H Q ⟨as,env,h,re,rh,p⟩=>p as H (Ext.refl as H) rh _ (.str x)
theorem dv (i:Nat) {x:Str} (hN:X.N[i]?=some x:=by rfl) (hv:Vis X.env.scope x:=by first | exact Or.inl rfl | exact Or.inr (Or.inl rfl) | exact Or.inr (Or.inr rfl)) (hd:(x==("__debug__":Str))=false:=by decide)
  (hcd:(x==("__classdict__":Str))=false:=by decide):DE X (.Name x pos) (fV i):=
 peOf (pv i hN hv hd hcd) fun σ H Q ⟨as,env,h,re,rh,p⟩=>by
  unfold fV at p
  cases e:env[i]? with
  | none=>rw [e] at p; exact p.elim
  | some o=>
   cases o with
   | none=>rw [e] at p; exact p.elim
   | some d=>
    rw [e] at p
    obtain⟨v,e1,q⟩:=re.at_ i d e
    exact⟨v,e1,p as H (Ext.refl as H) rh v q⟩
end
def Res.ofO {α:Type}:Option (α×Hh)->Res α
 | some (a,h)=>.ok a h
 | none=>.bad
@[simp] theorem ofO_some {α:Type} (a:α) (h:Hh):Res.ofO (some (a,h))=.ok a h:=rfl
@[simp] theorem ofO_none {α:Type}:Res.ofO (none:Option (α×Hh))=.bad:=rfl
def PQ (K:PySem.W.Frag) (as:List Addr) (H:Hp) (r:Option (D×Hh)) (Q:VK):Prop:=match r with
 | some (d,h')=>∀ as' H' v,Ext as H as' H'->RelH K as' H' h'->RelD K as' H' d v->Q v H'
 | none=>False
theorem PX.pq {X:Cx}{as:List Addr}{H:Hp}{env:En}{r:Option (D×Hh)}{Q:VK} (h:PX X as H env (Res.ofO r) fun as' H' _ d=>∀ v,RelD X.K as' H' d v->Q v H'):PQ X.K as H r Q:=by
 cases r with
 | none=>exact h
 | some p=>exact fun as' H' v x rh rd=>h as' H' x rh v rd
abbrev O1:=D->Hh->Option (D×Hh)
abbrev O2:=D->D->Hh->Option (D×Hh)
abbrev OC:=List D->Hh->Option (D×Hh)
def f1 (r:O1) (f:FE):FE:=fun env h=>(f env h).bind fun x h1=>.ofO (r x h1)
def f2 (r:O2) (f g:FE):FE:=fun env h=>(f env h).bind fun x h1=>(g env h1).bind fun y h2=>.ofO (r x y h2)
def fc (r:OC) (f:FA):FE:=fun env h=>(f env h).bind fun x h1=>.ofO (r x h1)
def asB (d:D) (h:Hh):Res Bool:=match d with
 | .bl b=>.ok b h
 | _=>.bad
@[simp] theorem asB_bl (b:Bool) (h:Hh):asB (.bl b) h=.ok b h:=rfl
def fB (f:FE):FT:=fun env h=>(f env h).bind asB
def Im1 (K:PySem.W.Frag) (r1:V->Hp->VK->Prop) (r:O1):Prop:=∀ as H h x v Q,RelH K as H h->RelD K as H x v->PQ K as H (r x h) Q->r1 v H Q
def Im2 (K:PySem.W.Frag) (r2:R2) (r:O2):Prop:=∀ as H h x y v u Q,RelH K as H h->RelD K as H x v->RelD K as H y u->PQ K as H (r x y h) Q->r2 v u H Q
def ImC (K:PySem.W.Frag) (rc:List V->Hp->VK->Prop) (r:OC):Prop:=∀ as H h ds vs Q,RelH K as H h->RelDs K as H ds vs->PQ K as H (r ds h) Q->rc vs H Q
section
variable {X:Cx}{a b:Expr}{f g:FE}{pos:Pos}
theorem tOp_of {r2:R2}{r:O2} (im:Im2 X.K r2 r) (σ:St) (H:Hp) (Q:VK) (q:tE X (f2 r f g) σ H Q):tOp r2 (tE X f) (tE X g) σ H Q:=by
 obtain⟨as,env,h,re,rh,p⟩:=q
 refine⟨as,env,h,re,rh,(PX.bind p).imp fun as1 H1 h1 x e1 rh1 p1 v rv=>?_⟩
 refine⟨as1,env,h1,re.mono e1,rh1,(PX.bind p1).imp fun as2 H2 h2 y e2 rh2 p2 u ru=>?_⟩
 exact im as2 H2 h2 x y v u Q rh2 (rv.mono e2) ru p2.pq
theorem tUn_of {r1:V->Hp->VK->Prop}{r:O1} (im:Im1 X.K r1 r) (σ:St) (H:Hp) (Q:VK) (q:tE X (f1 r f) σ H Q):tUn r1 (tE X f) σ H Q:=by
 obtain⟨as,env,h,re,rh,p⟩:=q
 refine⟨as,env,h,re,rh,(PX.bind p).imp fun as1 H1 h1 x e1 rh1 p1 v rv=>?_⟩
 exact im as1 H1 h1 x v Q rh1 rv p1.pq
theorem tB_of (σ:St) (H:Hp) (Q:Bool->Hp->Prop) (q:tT X (fB f) σ H Q):tE X f σ H fun x H'=>∃ k,x=.bl k/\Q k H':=by
 obtain⟨as,env,h,re,rh,p⟩:=q
 refine⟨as,env,h,re,rh,(PX.bind p).imp fun as1 H1 h1 x e1 rh1 p1 v rv=>?_⟩
 cases x with
 | bl k=>
  cases rv
  exact⟨k,rfl,p1 as1 H1 (Ext.refl _ _) rh1⟩
 | _=>exact p1.elim
theorem de_op {op:Operator}{r2:R2}{r:O2} (ho:OpR X (binaryOp op) r2) (im:Im2 X.K r2 r) (ha:DE X a f) (hb:DE X b g):DE X (.BinOp a op b pos) (f2 r f g):=peOf (pe_op ho ha hb) (tOp_of im)
theorem de_un {op:UnaryOp}{r1:V->Hp->VK->Prop}{r:O1} (ho:UnR X (unaryOp op) r1) (im:Im1 X.K r1 r) (ha:DE X a f):DE X (.UnaryOp op a pos) (f1 r f):=peOf (pe_un ho ha) (tUn_of im)
theorem de_cmp {op:CmpOp}{r2:R2}{r:O2} (ho:OpR X (compareOp op) r2) (im:Im2 X.K r2 r) (hm:behindInMarks op b=false) (ha:DE X a f) (hb:DE X b g):DE X (.Compare a [op] [b] pos) (f2 r f g):=peOf (pe_cmpR ho ha hb hm) (tOp_of im)
theorem dt_cmp {op:CmpOp}{r2:R2}{r:O2} (ho:OpR X (compareOp op) r2) (im:Im2 X.K r2 r) (hm:behindInMarks op b=false) (ha:DE X a f) (hb:DE X b g):DT X (.Compare a [op] [b] pos) (fB (f2 r f g)):=
 ptOf (pt_cmpR ho ha hb hm) fun σ H Q q=>tOp_of im σ H _ (tB_of σ H Q q)
theorem dt_val {e:Expr} (h:DE X e f) (he:∀ whole,isTrue e X.env whole=(do let v <-whole; standAt e.pos; holding [v] (truthy v)):=by intro _; rfl):DT X e (fB f):=
 ptOf (pt_val h he) fun σ H Q q=>tB_of σ H Q q
def fAnd (s t:FT):FT:=fun env h=>(s env h).bind fun b h1=>if b=true then t env h1 else .ok false h1
def fOr (s t:FT):FT:=fun env h=>(s env h).bind fun b h1=>if b=true then .ok true h1 else t env h1
def fNot (s:FT):FT:=fun env h=>(s env h).bind fun b h1=>.ok (!b) h1
def fAndV (s t:FE):FE:=fun env h=>(s env h).bind fun d h1=>(asB d h1).bind fun b h2=>if b=true then t env h2 else .ok (.bl false) h2
def fOrV (s t:FE):FE:=fun env h=>(s env h).bind fun d h1=>(asB d h1).bind fun b h2=>if b=true then .ok (.bl true) h2 else t env h2
def oNot:O1:=fun d h=>match d with
 | .bl b=>some (.bl (!b),h)
 | _=>none
variable {s t:FT}{rest:List Expr}
theorem dw_and1 (ha:DT X a s):DW X (.BoolOp .And [a] pos) s:=pw_and1 ha
theorem dw_or1 (ha:DT X a s):DW X (.BoolOp .Or [a] pos) s:=pw_or1 ha
theorem dw_and (ha:DT X a s) (hb:DW X (.BoolOp .And (b::rest) pos) t):DW X (.BoolOp .And (a::b::rest) pos) (fAnd s t):=
 pwOf (pw_and ha hb) fun σ H Q ⟨as,env,h,re,rh,p⟩=>⟨as,env,h,re,rh,(PX.bind p).imp fun as1 H1 h1 c e1 rh1 p1=>by
  cases c with
  | true=>exact iteT ⟨as1,env,h1,re.mono e1,rh1,p1⟩
  | false=>exact iteF (p1 as1 H1 (Ext.refl _ _) rh1)⟩
theorem dw_or (ha:DT X a s) (hb:DW X (.BoolOp .Or (b::rest) pos) t):DW X (.BoolOp .Or (a::b::rest) pos) (fOr s t):=
 pwOf (pw_or ha hb) fun σ H Q ⟨as,env,h,re,rh,p⟩=>⟨as,env,h,re,rh,(PX.bind p).imp fun as1 H1 h1 c e1 rh1 p1=>by
  cases c with
  | true=>exact iteT (p1 as1 H1 (Ext.refl _ _) rh1)
  | false=>exact iteF ⟨as1,env,h1,re.mono e1,rh1,p1⟩⟩
theorem dt_not (ha:DT X a s):DT X (.UnaryOp .Not a pos) (fNot s):=
 ptOf (pt_not ha) fun σ H Q ⟨as,env,h,re,rh,p⟩=>⟨as,env,h,re,rh,(PX.bind p).imp fun as1 H1 h1 c e1 rh1 p1=>p1 as1 H1 (Ext.refl _ _) rh1⟩
theorem dt_w {e:Expr} (h:DW X e s):DT X e s:=PW.pt h
theorem de_one {op:BoolOp} (h:DE X a f):DE X (.BoolOp op [a] pos) f:=pe_one h
theorem de_and (ha:DE X a f) (hb:DE X (.BoolOp .And (b::rest) pos) g):DE X (.BoolOp .And (a::b::rest) pos) (fAndV f g):=
 peOf (pe_and ha hb) fun σ H Q ⟨as,env,h,re,rh,p⟩=>⟨as,env,h,re,rh,(PX.bind p).imp fun as1 H1 h1 c e1 rh1 p1 v rv=>by
  cases c with
  | bl k=>
   cases rv
   refine⟨k,rfl,?_⟩
   cases k with
   | true=>exact iteT ⟨as1,env,h1,re.mono e1,rh1,p1⟩
   | false=>exact iteF (p1 as1 H1 (Ext.refl _ _) rh1 _ (.bl false))
  | _=>exact p1.elim⟩
theorem de_or (ha:DE X a f) (hb:DE X (.BoolOp .Or (b::rest) pos) g):DE X (.BoolOp .Or (a::b::rest) pos) (fOrV f g):=
 peOf (pe_or ha hb) fun σ H Q ⟨as,env,h,re,rh,p⟩=>⟨as,env,h,re,rh,(PX.bind p).imp fun as1 H1 h1 c e1 rh1 p1 v rv=>by
  cases c with
  | bl k=>
   cases rv
   refine⟨k,rfl,?_⟩
   cases k with
   | true=>exact iteT (p1 as1 H1 (Ext.refl _ _) rh1 _ (.bl true))
   | false=>exact iteF ⟨as1,env,h1,re.mono e1,rh1,p1⟩
  | _=>exact p1.elim⟩
theorem de_not (ha:DE X a f):DE X (.UnaryOp .Not a pos) (f1 oNot f):=
 peOf (pe_not ha) fun σ H Q ⟨as,env,h,re,rh,p⟩=>⟨as,env,h,re,rh,(PX.bind p).imp fun as1 H1 h1 c e1 rh1 p1 v rv=>by
  cases c with
  | bl k=>
   cases rv
   exact⟨k,rfl,p1 as1 H1 (Ext.refl _ _) rh1 _ (.bl (!k))⟩
  | _=>exact p1.elim⟩
end
def fAll:List FE->FA
 | [],_,h=>.ok [] h
 | f::r,env,h=>(f env h).bind fun d h1=>(fAll r env h1).bind fun ds h2=>.ok (d::ds) h2
theorem fAll_len:∀ (fs:List FE) (env:En) (h:Hh) (ds:List D) (h':Hh),fAll fs env h=.ok ds h'->ds.length=fs.length
 | [],_,_,_,_,e=>by cases e; rfl
 | f::r,env,h,ds,h',e=>by
  unfold fAll at e
  cases e1:f env h with
  | ok d h1=>
   rw [e1,Res.bind_ok] at e
   cases e2:fAll r env h1 with
   | ok ds2 h2=>
    rw [e2,Res.bind_ok] at e
    cases e
    simp [fAll_len r env h1 ds2 h' e2]
   | ex c h2=>rw [e2] at e; cases e
   | bad=>rw [e2] at e; cases e
  | ex c h1=>rw [e1] at e; cases e
  | bad=>rw [e1] at e; cases e
section
variable {X:Cx}{e:Expr}{es:List Expr}{f:FE}{fs:List FE}{pos:Pos}
theorem da_nil:DA X [] (fAll []):=paOf pa_nil fun σ H Q ⟨as,env,h,re,rh,p⟩=>p as H (Ext.refl _ _) rh [] .nil
theorem da_cons (ha:DE X e f) (hr:DA X es (fAll fs)) (hs:starEach (e::es) X.env=(false,eval e X.env)::starEach es X.env:=by rfl):DA X (e::es) (fAll (f::fs)):=
 paOf (pa_cons ha hr hs) fun σ H Q ⟨as,env,h,re,rh,p⟩=>⟨as,env,h,re,rh,(PX.bind p).imp fun as1 H1 h1 d e1 rh1 p1 v rv=>
  ⟨as1,env,h1,re.mono e1,rh1,(PX.bind p1).imp fun as2 H2 h2 ds e2 rh2 p2 vs rvs=>p2 as2 H2 (Ext.refl _ _) rh2 _ (.cons (rv.mono e2) rvs)⟩⟩
theorem PX.lenA {env:En}{h:Hh}{as:List Addr}{H:Hp}{R:List Addr->Hp->Hh->List D->Prop} (p:PX X as H env (fAll fs env h) R):PX X as H env (fAll fs env h) fun as' H' h' ds=>ds.length=fs.length/\R as' H' h' ds:=by
 cases e:fAll fs env h with
 | ok ds h'=>rw [e] at p; exact fun as' H' x rh=>⟨fAll_len fs env h ds h' e,p as' H' x rh⟩
 | ex c h'=>rw [e] at p; exact p
 | bad=>rw [e] at p; exact p
def fTup (fs:List FE):FE:=fun env h=>(fAll fs env h).bind fun ds h1=>.ok (.tup ds) h1
def fLst (fs:List FE):FE:=fun env h=>(fAll fs env h).bind fun ds h1=>.ok (.lst h1.length) (h1++[.lst ds])
theorem de_tup {x1} (h:DA X es (fAll fs)) (hl:fs.length<=sizeLine:=by exact Nat.le_of_ble_eq_true rfl):DE X (.Tuple es x1 pos) (fTup fs):=
 peOf (pe_tup h) fun σ H Q ⟨as,env,h,re,rh,p⟩=>⟨as,env,h,re,rh,(PX.bind p).lenA.imp fun as1 H1 h1 ds e1 rh1 p1 vs rvs=>
  ⟨by rw [<-rvs.length,p1.1]; exact hl,fun q hq=>p1.2 as1 _ (ext_upd hq) (rh1.tup hq) _ (.tup upd_same (rvs.mono (ext_upd hq)))⟩⟩
theorem de_lst (h:DA X es (fAll fs)) (hl:fs.length<=sizeLine:=by exact Nat.le_of_ble_eq_true rfl):DE X (.List es pos) (fLst fs):=
 peOf (pe_lst h) fun σ H Q ⟨as,env,h,re,rh,p⟩=>⟨as,env,h,re,rh,(PX.bind p).lenA.imp fun as1 H1 h1 ds e1 rh1 p1 vs rvs=>
  ⟨by rw [<-rvs.length,p1.1]; exact hl,fun q hq=>p1.2 (as1++[q]) _ (ext_new hq) (rh1.newL hq rvs) _ (.lst (by rw [<-rh1.len]; exact List.getElem?_concat_length))⟩⟩
end
section
variable {X:Cx}{x:Str}{p pos:Pos}{e:Expr}{es:List Expr}{fs:List FE}{id T:String}{rc:List V->Hp->VK->Prop}{r:OC}
theorem tCB_of (im:ImC X.K rc r) (σ:St) (H:Hp) (Q:VK) (q:tE X (fc r (fAll fs)) σ H Q):tCB rc (tA X (fAll fs)) σ H Q:=by
 obtain⟨as,env,h,re,rh,p⟩:=q
 exact⟨as,env,h,re,rh,(PX.bind p).imp fun as1 H1 h1 ds e1 rh1 p1 vs rvs=>im as1 H1 h1 ds vs Q rh1 rvs p1.pq⟩
theorem de_callB (hc:CallR X (.builtin id) rc) (im:ImC X.K rc r) (hg:Gl X x) (hm:X.mg x=none) (hv:bootBuiltins x=some (.builtin id)) (ha:DA X (e::es) (fAll fs)) (hn:x≠"__name__":=by decide) (hdb:(x==("__debug__":Str))=false:=by decide)
  (he:starEach (e::es) X.env=(false,eval e X.env)::starEach es X.env:=by rfl) (hpl:(backTo pos (starEach es X.env)).any (·.1)=false:=by rfl):
  DE X (.Call (.Name x p) (e::es) [] pos) (fc r (fAll fs)):=peOf (pe_callB hc hg hm hv ha hn hdb he hpl) (tCB_of im)
theorem de_callTy (hc:CallR X (.type T) rc) (im:ImC X.K rc r) (hg:Gl X x) (hm:X.mg x=none) (hv:bootBuiltins x=some (.type T)) (ha:DA X (e::es) (fAll fs)) (hn:x≠"__name__":=by decide) (hdb:(x==("__debug__":Str))=false:=by decide)
  (he:starEach (e::es) X.env=(false,eval e X.env)::starEach es X.env:=by rfl) (hpl:(backTo pos (starEach es X.env)).any (·.1)=false:=by rfl):
  DE X (.Call (.Name x p) (e::es) [] pos) (fc r (fAll fs)):=peOf (pe_callTy hc hg hm hv ha hn hdb he hpl) (tCB_of im)
end
def fNext:FS:=fun e h=>.nx e h
def fSeq (s t:FS):FS:=fun e h=>match s e h with
 | .nx e1 h1=>t e1 h1
 | o=>o
def fRet (f:FE):FS:=fun e h=>(f e h).out e fun d h1=>.rt d h1
def fIfS (c:FT) (s t:FS):FS:=fun e h=>(c e h).out e fun b h1=>if b=true then s e h1 else t e h1
def fSet (i:Nat) (f:FE):FS:=fun e h=>(f e h).out e fun d h1=>.nx (e.set i (some d)) h1
def fDrop (f:FE):FS:=fun e h=>(f e h).out e fun _ h1=>.nx e h1
section
variable {X:Cx}{st:Stmt}{rest:List Stmt}{s t:FS}{e:Expr}{f:FE}{c:FT}{pos:Pos}
theorem dss_nil:DSs X [] fNext:=pssOf pss_nil fun Dn σ H ⟨as,env,h,re,rh,p⟩=>p as H σ (Ext.refl _ _) rh re
theorem dss_cons (h1:DS X st s) (h2:DSs X rest t):DSs X (st::rest) (fSeq s t):=
 pssOf (pss_cons h1 h2) fun Dn σ H ⟨as,env,h,re,rh,p⟩=>⟨as,env,h,re,rh,by
  unfold fSeq at p
  cases e:s env h with
  | nx e1 h1=>rw [e] at p; exact fun as' H' σ' x rh' re'=>⟨as',e1,h1,re',rh',p.later x⟩
  | rt d h1=>rw [e] at p; exact p
  | bk e1 h1=>rw [e] at p; exact p
  | ct e1 h1=>rw [e] at p; exact p
  | ex c e1 h1=>rw [e] at p; exact p
  | bad=>rw [e] at p; exact p⟩
theorem dss_one (h1:DS X st s):DSs X [st] s:=pss_one h1
theorem ds_ret (he:DE X e f):DS X (.Return (some e) pos) (fRet f):=
 psOf (ps_ret he) fun Dn σ H ⟨as,env,h,re,rh,p⟩=>⟨as,env,h,re,rh,(PX.of_out p).imp fun as1 H1 h1 d e1 rh1 p1 v rv=>p1 as1 H1 v (Ext.refl _ _) rh1 rv⟩
theorem ds_if {c':Expr}{a b:List Stmt} (hc:DT X c' c) (ha:DSs X a s) (hb:DSs X b t):DS X (.If c' a b pos) (fIfS c s t):=
 psOf (ps_if hc ha hb) fun Dn σ H ⟨as,env,h,re,rh,p⟩=>⟨as,env,h,re,rh,(PX.of_out p).imp fun as1 H1 h1 b e1 rh1 p1=>by
  cases b with
  | true=>exact iteT ⟨as1,env,h1,re.mono e1,rh1,p1⟩
  | false=>exact iteF ⟨as1,env,h1,re.mono e1,rh1,p1⟩⟩
theorem ds_set {i:Nat}{x:Str}{pos':Pos} (hN:X.N.Nodup) (he:DE X e f) (hi:X.N[i]?=some x:=by rfl) (hx:Loc X.env.scope x:=by first | exact Or.inl rfl | exact Or.inr rfl)
  (hs:swapsWith e (some (.Name x pos')) pos.line X.env=pure false:=by rfl) (hf:X.fn x=true\/X.env.scope.names.lookup x=some .local:=by first | exact .inl rfl | exact .inr rfl):DS X (.Assign [.Name x pos'] e pos) (fSet i f):=
 psOf (ps_set (i:=i) hN hi hx he hs hf) fun Dn σ H ⟨as,env,h,re,rh,p⟩=>⟨as,env,h,re,rh,(PX.of_out p).imp fun as1 H1 h1 d e1 rh1 p1 v rv=>p1 as1 H1 _ (Ext.refl _ _) rh1 ((re.mono e1).set i rv)⟩
theorem ds_expr (he:DE X e f) (hs:swapsWith e none pos.line X.env=pure false:=by rfl):DS X (.Expr e pos) (fDrop f):=
 psOf (ps_expr he hs) fun Dn σ H ⟨as,env,h,re,rh,p⟩=>⟨as,env,h,re,rh,(PX.of_out p).imp fun as1 H1 h1 d e1 rh1 p1 v rv=>p1 as1 H1 σ (Ext.refl _ _) rh1 (re.mono e1)⟩
def fWhile (c:FT) (t:FS):Nat->FS
 | 0,_,_=>.bad
 | n+1,e,h=>(c e h).out e fun b h1=>if b=true then (match t e h1 with
  | .nx e2 h2=>fWhile c t n e2 h2
  | .ct e2 h2=>fWhile c t n e2 h2
  | .bk e2 h2=>.nx e2 h2
  | o=>o) else .nx e h1
theorem ds_while {c':Expr}{body:List Stmt} (n:Nat) (hp:PassesOwn (model X.prog X.w) X.A X.env X.xe) (hc:DT X c' c) (hb:DSs X body t):DS X (.While c' body [] pos) (fWhile c t n):=
 psOf (ps_while hp hc hb) fun Dn σ H q=>by
  refine⟨fun m σ H=>tS X (fWhile c t m) Dn σ H,⟨n,q⟩,fun m σ H ⟨as,env,h,re,rh,p⟩=>?_⟩
  cases m with
  | zero=>exact p.elim
  | succ m=>
   refine⟨as,env,h,re,rh,(PX.of_out p).imp fun as1 H1 h1 b e1 rh1 p1=>?_⟩
   cases b with
   | false=>exact iteF (p1 as1 H1 σ (Ext.refl _ _) rh1 (re.mono e1))
   | true=>
    refine iteT ⟨fun σ' H'=>tS X (fWhile c t m) Dn σ' H',fun σ' H' z=>⟨m,Nat.lt_succ_self m,z⟩,as1,env,h1,re.mono e1,rh1,?_⟩
    have p2:POut X as1 H1 Dn (match t env h1 with
     | .nx e2 h2=>fWhile c t m e2 h2
     | .ct e2 h2=>fWhile c t m e2 h2
     | .bk e2 h2=>.nx e2 h2
     | o=>o):=p1
    cases e:t env h1 with
    | nx e2 h2=>rw [e] at p2; exact fun as' H' σ' x rh' re'=>⟨as',e2,h2,re',rh',p2.later x⟩
    | ct e2 h2=>rw [e] at p2; exact fun as' H' σ' x rh' re'=>⟨as',e2,h2,re',rh',p2.later x⟩
    | bk e2 h2=>rw [e] at p2; exact p2
    | rt d h2=>rw [e] at p2; exact p2
    | ex c e2 h2=>rw [e] at p2; exact p2
    | bad=>rw [e] at p2; exact p2
end
open Classical in
noncomputable def forG (chk:Hh->Prop) (i:Nat) (t:FS):List D->FS
 | [],e,h=>if chk h then .nx e h else .bad
 | d::r,e,h=>if chk h then (match t (e.set i (some d)) h with
  | .nx e2 h2=>forG chk i t r e2 h2
  | .ct e2 h2=>forG chk i t r e2 h2
  | .bk e2 h2=>.nx e2 h2
  | o=>o) else .bad
theorem tFor_core {X:Cx}{J:It}{i:Nat}{t:FS}{items:List D}{chk:Hh->Prop}{Base:List Addr->Hp->Prop}{Dn:Ends}{σ:St}{H:Hp}{as:List Addr}{env:En}{h:Hh}
  (mono:∀ as H as' H',Ext as H as' H'->Base as H->Base as' H')
  (hgo:∀ (k:Nat) as H h d,RelH X.K as H h->chk h->Base as H->items[k]?=some d->J.go k H/\∀ x H',J.yld k H x H'->H'=H/\RelD X.K as H d x)
  (hstop:∀ as H h,RelH X.K as H h->chk h->Base as H->J.stop items.length H)
  (re:RelE X.K as H env σ) (rh:RelH X.K as H h) (b0:Base as H) (p:POut X as H Dn (forG chk i t items env h)):
  ∃ W:Nat->Nat->St->Hp->Prop,(∃ m,W 0 m σ H)/\∀ k m σ H,W k m σ H->(J.stop k H/\Dn.nx σ H)\/(J.go k H/\∃ N:St->Hp->Prop,(∀ σ' H',N σ' H'->∃ m',m' < m/\W (k+1) m' σ' H')/\
   ∀ x H',J.yld k H x H'->gName i x σ H' fun σ2 H2=>tS X t { Dn with nx:=N,ct:=N,bk:=Dn.nx } σ2 H2):=by
 refine⟨fun k m σ H=>k+m=items.length/\∃ as env h,RelE X.K as H env σ/\RelH X.K as H h/\Base as H/\POut X as H Dn (forG chk i t (items.drop k) env h),⟨items.length,by omega,as,env,h,re,rh,b0,p⟩,?_⟩
 rintro k m σ H ⟨hk,as,env,h,re,rh,b0,p⟩
 cases hd:items.drop k with
 | nil=>
  rw [hd] at p
  unfold forG at p
  by_cases hc:chk h
  ·rw [if_pos hc] at p
   have hlen:items.length<=k:=by
    have:=congrArg List.length hd
    rw [List.length_drop,List.length_nil] at this
    omega
   have hk':k=items.length:=by omega
   exact .inl ⟨hk'▸hstop as H h rh hc b0,p as H σ (Ext.refl _ _) rh re⟩
  ·rw [if_neg hc] at p
   exact p.elim
 | cons d r=>
  rw [hd] at p
  unfold forG at p
  by_cases hc:chk h
  ·rw [if_pos hc] at p
   have hlt:k < items.length:=by
    have:=congrArg List.length hd
    rw [List.length_drop,List.length_cons] at this
    omega
   have hq:=List.drop_eq_getElem_cons hlt
   rw [hd] at hq
   have hd1:items[k]?=some d:=by
    rw [List.getElem?_eq_getElem hlt]
    exact congrArg some (List.cons.inj hq).1.symm
   have hr:items.drop (k+1)=r:=(List.cons.inj hq).2.symm
   obtain⟨g1,g2⟩:=hgo k as H h d rh hc b0 hd1
   refine .inr ⟨g1,fun σ' H'=>(k+1)+(m - 1)=items.length/\∃ as env h,RelE X.K as H' env σ'/\RelH X.K as H' h/\Base as H'/\POut X as H' Dn (forG chk i t (items.drop (k+1)) env h),fun σ' H' z=>⟨m - 1,by omega,z⟩,fun x H' y=>?_⟩
   obtain⟨rfl,rx⟩:=g2 x H' y
   refine⟨as,env.set i (some d),h,re.set i rx,rh,?_⟩
   rw [hr]
   cases e:t (env.set i (some d)) h with
   | nx e2 h2=>rw [e] at p; exact fun as' H' σ' x rh' re'=>⟨by omega,as',e2,h2,re',rh',mono _ _ _ _ x b0,POut.later x p⟩
   | ct e2 h2=>rw [e] at p; exact fun as' H' σ' x rh' re'=>⟨by omega,as',e2,h2,re',rh',mono _ _ _ _ x b0,POut.later x p⟩
   | bk e2 h2=>rw [e] at p; exact p
   | rt d h2=>rw [e] at p; exact p
   | ex c e2 h2=>rw [e] at p; exact p
   | bad=>rw [e] at p; exact p
  ·rw [if_neg hc] at p
   exact p.elim
structure Itm where
 items:List D
 chk:Hh->Prop
abbrev FI:=En->Hh->Res Itm
structure Adm (X:Cx) (it:Itm) (J:It) (Base:List Addr->Hp->Prop):Prop where
 mono:∀ as H as' H',Ext as H as' H'->Base as H->Base as' H'
 go:∀ (k:Nat) as H h d,RelH X.K as H h->it.chk h->Base as H->it.items[k]?=some d->J.go k H/\∀ x H',J.yld k H x H'->H'=H/\RelD X.K as H d x
 stop:∀ as H h,RelH X.K as H h->it.chk h->Base as H->J.stop it.items.length H
def tI (X:Cx) (fi:FI):TI:=fun σ H R=>∃ as env h,RelE X.K as H env σ/\RelH X.K as H h/\PX X as H env (fi env h) fun as' H' _ it=>∀ J Base,Adm X it J Base->Base as' H'->R J H'
abbrev DI (X:Cx) (tg iter:Expr) (fi:FI):Prop:=PI X tg iter (tI X fi)
def itSeq (d:D) (h:Hh):Res Itm:=match d with
 | .tup ds=>.ok ⟨ds,fun _=>True⟩ h
 | .lst n=>(match h[n]? with
  | some (.lst ds)=>.ok ⟨ds,fun h=>h[n]?=some (.lst ds)⟩ h
  | _=>.bad)
 | _=>.bad
def fiSeq (f:FE):FI:=fun env h=>(f env h).bind itSeq
def rng1 (ds:List D):Option (List D):=match ds with
 | [.int j]=>if -(2 ^ 62)<=j/\j < 2 ^ 62 then some ((List.range j.toNat).map fun (k:Nat)=>D.int k) else none
 | _=>none
def rng2 (ds:List D):Option (List D):=match ds with
 | [.int i,.int j]=>if -(2 ^ 62)<=i/\i < 2 ^ 62/\-(2 ^ 62)<=j/\j < 2 ^ 62 then some ((List.range (j - i).toNat).map fun (k:Nat)=>D.int (i+k)) else none
 | _=>none
def itOf (o:Option (List D)) (h:Hh):Res Itm:=match o with
 | some items=>.ok ⟨items,fun _=>True⟩ h
 | none=>.bad
def fiRng (rng:List D->Option (List D)) (fs:List FE):FI:=fun env h=>(fAll fs env h).bind fun ds h1=>itOf (rng ds) h1
section
variable {X:Cx}{tg l:Expr}{pos p:Pos}{f:FE}{fs:List FE}
theorem di_seq (hl:DE X l f):DI X tg l (fiSeq f):=by
 have pT:=pi_tup (tg:=tg) hl
 have pL:=pi_list (tg:=tg) hl
 intro pins s σ H R I q
 obtain⟨as,env,h,re,rh,p⟩:=q
 unfold fiSeq at p
 cases e:f env h with
 | bad=>rw [e] at p; exact p.elim
 | ex c h1=>
  refine pT pins s σ H R I ⟨as,env,h,re,rh,?_⟩
  rw [e] at p |-
  exact p
 | ok d h1=>
  rw [e,Res.bind_ok] at p
  cases d with
  | tup ds=>
   refine pT pins s σ H R I ⟨as,env,h,re,rh,?_⟩
   rw [e]
   intro as1 H1 e1 rh1 v rv
   obtain⟨a,vs,rfl,ha,rvs⟩:=rv.tup_inv
   refine⟨a,rfl,⟨vs,SqT.of ha⟩,?_⟩
   refine p as1 H1 e1 rh1 (Itt X.K a) (fun as H=>H a=some (.tup vs)/\RelDs X.K as H ds vs) ⟨fun as H as' H' x b=>⟨x.tups _ _ b.1,b.2.mono x⟩,?_,?_⟩ ⟨ha,rvs⟩
   ·intro k as H h d _ _ b hd
    obtain⟨v,hv,rd⟩:=Pd.get b.2 hd
    exact⟨⟨vs,v,SqT.of b.1,hv⟩,fun x H' y=>⟨y.1,by
     have:=y.2 vs (SqT.of b.1)
     rw [hv] at this
     cases this
     exact rd⟩⟩
   ·intro as H h _ _ b
    exact⟨vs,SqT.of b.1,by rw [b.2.length]; exact Nat.le_refl _⟩
  | lst n=>
   refine pL pins s σ H R I ⟨as,env,h,re,rh,?_⟩
   rw [e]
   unfold itSeq at p
   dsimp only at p
   cases hn:h1[n]? with
   | none=>rw [hn] at p; exact p.elim
   | some o=>
    cases o with
    | dct kvs=>rw [hn] at p; exact p.elim
    | lst ds=>
     rw [hn] at p
     intro as1 H1 e1 rh1 v rv
     cases rv with
     | @lst _ a ha=>
      obtain⟨vs,hv,rvs⟩:=rh1.obj n a _ ha hn
      refine⟨a,rfl,⟨vs,SqL.of hv⟩,?_⟩
      refine p as1 H1 e1 rh1 (Itl X.K a) (fun as H=>as[n]?=some a) ⟨fun as H as' H' x b=>x.at b,?_,?_⟩ ha
      ·intro k as H h d r1 r2 b hd
       obtain⟨ws,hw,rws⟩:=r1.obj n a _ b r2
       obtain⟨v,hv,rd⟩:=Pd.get rws hd
       exact⟨⟨ws,v,SqL.of hw,hv⟩,fun x H' y=>⟨y.1,by
        have:=y.2 ws (SqL.of hw)
        rw [hv] at this
        cases this
        exact rd⟩⟩
      ·intro as H h r1 r2 b
       obtain⟨ws,hw,rws⟩:=r1.obj n a _ b r2
       exact⟨ws,SqL.of hw,by rw [rws.length]; exact Nat.le_refl _⟩
  | _=>exact p.elim
theorem adm_rng {lo:Int}{n:Nat}{items:List D} (e:items=(List.range n).map fun (k:Nat)=>D.int (lo+k)):Adm X ⟨items,fun _=>True⟩ (Itr lo n) fun _ _=>True:=by
 subst e
 refine⟨fun _ _ _ _ _ b=>b,?_,?_⟩
 ·intro k as H h d _ _ _ hd
  rw [List.getElem?_map] at hd
  obtain⟨m,hm,rfl⟩:=Option.map_eq_some_iff.mp hd
  obtain⟨hlt,e⟩:=List.getElem?_eq_some_iff.mp hm
  rw [List.getElem_range] at e
  subst e
  rw [List.length_range] at hlt
  exact⟨hlt,fun x H' y=>⟨y.1,by
   rw [y.2]
   exact .int _⟩⟩
 ·intro as H h _ _ _
  show n<=_
  rw [List.length_map,List.length_range]
  exact Nat.le_refl _
theorem di_range1 {a:Expr} (hm:X.mg "range"=none) (ha:DA X [a] (fAll fs)) (hg:Gl X "range":=by rfl) (hst:starEach [a] X.env=[(false,eval a X.env)]:=by rfl):DI X tg (.Call (.Name "range" p) [a] [] pos) (fiRng rng1 fs):=by
 intro pins s σ H R I q
 refine pi_range1 (tg:=tg) hg hm ha hst pins s σ H R I ?_
 obtain⟨as,env,h,re,rh,p⟩:=q
 refine⟨as,env,h,re,rh,(PX.bind p).imp fun as1 H1 h1 ds e1 rh1 p1 vs rvs=>?_⟩
 cases hr:rng1 ds with
 | none=>rw [hr] at p1; exact p1.elim
 | some items=>
  rw [hr] at p1
  unfold rng1 at hr
  split at hr
  ·rename_i j
   split at hr
   ·rename_i hj
    cases hr
    cases rvs with
    | cons r1 r2=>
     cases r1
     cases r2
     exact⟨j,rfl,hj.1,hj.2,p1 as1 H1 (Ext.refl _ _) rh1 _ _ (adm_rng (by simp)) trivial⟩
   ·cases hr
  ·cases hr
theorem di_range2 {a b:Expr} (hm:X.mg "range"=none) (ha:DA X [a,b] (fAll fs)) (hg:Gl X "range":=by rfl) (hst:starEach [a,b] X.env=[(false,eval a X.env),(false,eval b X.env)]:=by rfl) (hst2:starEach [b] X.env=[(false,eval b X.env)]:=by rfl):
  DI X tg (.Call (.Name "range" p) [a,b] [] pos) (fiRng rng2 fs):=by
 intro pins s σ H R I q
 refine pi_range2 (tg:=tg) hg hm ha hst hst2 pins s σ H R I ?_
 obtain⟨as,env,h,re,rh,p⟩:=q
 refine⟨as,env,h,re,rh,(PX.bind p).imp fun as1 H1 h1 ds e1 rh1 p1 vs rvs=>?_⟩
 cases hr:rng2 ds with
 | none=>rw [hr] at p1; exact p1.elim
 | some items=>
  rw [hr] at p1
  unfold rng2 at hr
  split at hr
  ·rename_i i' j
   split at hr
   ·rename_i hj
    cases hr
    cases rvs with
    | cons r1 r2=>
     cases r1
     cases r2 with
     | cons r2 r3=>
      cases r2
      cases r3
      exact⟨i',j,rfl,⟨hj.1,hj.2.1,hj.2.2.1,hj.2.2.2⟩,p1 as1 H1 (Ext.refl _ _) rh1 _ _ (adm_rng rfl) trivial⟩
   ·cases hr
  ·cases hr
noncomputable def fFor (i:Nat) (fi:FI) (t:FS):FS:=fun e h=>(fi e h).out e fun it h1=>forG it.chk i t it.items e h1
theorem ds_for {x:Str}{px:Pos}{body:List Stmt}{i:Nat}{fi:FI}{t:FS} (hp:PassesOwn (model X.prog X.w) X.A X.env X.xe) (hcalm:X.calm=true) (hN:X.N.Nodup) (hl:DI X (.Name x px) l fi) (hb:DSs X body t) (hi:X.N[i]?=some x:=by rfl)
  (hx:Loc X.env.scope x:=by first | exact Or.inl rfl | exact Or.inr rfl) (hf:X.fn x=true\/X.env.scope.names.lookup x=some .local:=by first | exact .inl rfl | exact .inr rfl) (hs:∀ x,foldedSetIterable l X.env x=pure x:=by intro _; rfl):
  DS X (.For (.Name x px) l body [] pos) (fFor i fi t):=
 psOf (ps_for (pos:=pos) hp hcalm hl (pg_name hN hi hx hf) hb hs) fun Dn σ H ⟨as,env,h,re,rh,p⟩=>⟨as,env,h,re,rh,(PX.of_out p).imp fun as1 H1 h1 it e1 rh1 p1 J Base ad b0=>
  tFor_core ad.mono ad.go ad.stop (re.mono e1) rh1 b0 p1⟩
end
def spD (K:PySem.W.Frag) (n:Nat) (g:OC):Sp:=fun vs H Q _=>vs.length=n/\∃ as ds h,RelH K as H h/\RelDs K as H ds vs/\PQ K as H (g ds h) Q
def fnOut (o:Out):Option (D×Hh):=match o with
 | .rt d h'=>some (d,h')
 | .nx _ h'=>some (.non,h')
 | _=>none
def startE (n:Nat) (ds:List D):En:=ds.map some++List.replicate (n - ds.length) none
def fnRun (n:Nat) (t:FS):OC:=fun ds h=>fnOut (t (startE n ds) h)
theorem relE_start {K:PySem.W.Frag}{as:List Addr}{H:Hp}{N:List Str}{ds:List D}{vs:List V} (r:RelDs K as H ds vs):RelE K as H (startE N.length ds) (L2.start N vs):=by
 refine⟨by simp [startE,L2.start,r.length],fun i d e=>?_⟩
 unfold startE at e
 by_cases hi:i < ds.length
 ·rw [List.getElem?_append_left (by simpa using hi),List.getElem?_map] at e
  obtain⟨d',hd,e'⟩:=Option.map_eq_some_iff.mp e
  cases e'
  obtain⟨v,hv,rd⟩:=Pd.get r hd
  refine⟨v,?_,rd⟩
  unfold L2.start
  rw [List.getElem?_append_left (by rw [List.length_map,<-r.length]; exact hi),List.getElem?_map,hv]
  rfl
 ·rw [List.getElem?_append_right (by simpa using hi)] at e
  have:=List.mem_of_getElem? e
  rw [List.mem_replicate] at this
  exact nomatch this.2
section
variable {P:Program}{w:World}{K:PySem.W.Frag}{mg:Str->Option Value}{base:Heap}
theorem fn_D {x qual:Str}{st:Stmt}{f:Addr}{fd:FuncData}{N ps:List Str}{k:Nat}{t:FS} (F:Fun K x qual st f fd) (S:FnScope N ps (defScope st))
  (hb:∀ (cdv:Value) (A:Around) (outer:List Env) (s:Shared) (H:Hp) (E:XK),Room k (A.deeper (envOfC qual (defScope st) s.heap.objs.size f cdv))->
   DSs (cxOf CX0 P w K mg base N qual (defScope st) f cdv A outer s H E).nox (defBody st) t):FnOk P w K mg base CX0 (k+1) f fd ps (spD K ps.length (fnRun N.length t)):=by
 refine F.ok S (fun vs H Q E h=>h.1) fun cdv A outer s H vs Q E hr h=>⟨_,hb cdv A outer s H E hr,?_⟩
 obtain⟨hl,as,ds,h,rh,rd,p⟩:=h
 refine⟨as,startE N.length ds,h,relE_start rd,rh,?_⟩
 unfold fnRun at p
 cases e:t (startE N.length ds) h with
 | rt d h'=>rw [e] at p; exact fun as' H' v x rh' rd'=>p as' H' v x rh' rd'
 | nx e1 h'=>rw [e] at p; exact fun as' H' σ' x rh' re'=>p as' H' .non x rh' .non
 | bk e1 h'=>rw [e] at p; exact p.elim
 | ct e1 h'=>rw [e] at p; exact p.elim
 | ex c e1 h'=>rw [e] at p; exact p.elim
 | bad=>rw [e] at p; exact p.elim
end
section
variable {X:Cx}{k:Nat}{f:Addr}{fd:FuncData}{ps:List Str}{x:Str}{p pos:Pos}{e:Expr}{es:List Expr}{fs:List FE}{g:OC}{n:Nat}
theorem de_call (G:FnOk X.prog X.w X.K X.mg X.base CX0 k f fd ps (spD X.K n g)) (hr:Room k X.A) (hm:X.mg x=some (.ref f)) (hk:PySem.W.keepIn X.K (.ref f)=true) (hb:Binds X.K fd ps []) (ha:DA X (e::es) (fAll fs)) (hg:Gl X x:=by rfl) (hl:fs.length=n:=by rfl)
  (hdb:(x==("__debug__":Str))=false:=by decide) (he:starEach (e::es) X.env=(false,eval e X.env)::starEach es X.env:=by rfl) (hpl:(backTo pos (starEach es X.env)).any (·.1)=false:=by rfl):
  DE X (.Call (.Name x p) (e::es) [] pos) (fc g (fAll fs)):=
 peOf (pe_call (dvs:=[]) (E:=E0) G hr hg hm hk hb .nil pass0 ha hdb he hpl) fun σ H Q ⟨as,env,h,re,rh,p⟩=>⟨as,env,h,re,rh,(PX.bind p).lenA.imp fun as1 H1 h1 ds e1 rh1 p1 vs rvs=>by
  show spD X.K n g (vs++[]) H1 Q E0
  rw [List.append_nil]
  exact⟨by rw [<-rvs.length,p1.1,hl],as1,ds,h1,rh1,rvs,p1.2.pq⟩⟩
end
inductive HB (n:Nat):D->Prop where
 | non:HB n .non
 | bl (b:Bool):HB n (.bl b)
 | int (i:Int):HB n (.int i)
 | str (x:Str):HB n (.str x)
 | tup {ds:List D}:(∀ d∈ds,HB n d)->HB n (.tup ds)
 | lst {k:Nat}:k < n->HB n (.lst k)
 | ro (ns:List Int):HB n (.ro ns)
theorem RelD.hb {K:PySem.W.Frag}{as:List Addr}{H:Hp}{d:D}{v:V} (h:RelD K as H d v):HB as.length d:=by
 induction h with
 | non=>exact .non
 | bl b=>exact .bl b
 | int i=>exact .int i
 | str y=>exact .str y
 | @tup' ds vs a h1 h2 h3 ih=>
  refine .tup fun d hd=>?_
  obtain⟨i,hi,e⟩:=List.mem_iff_getElem.mp hd
  exact ih i d vs[i] (by rw [List.getElem?_eq_getElem hi,e]) (List.getElem?_eq_getElem (by rw [<-h2]; exact hi))
 | lst h=>exact .lst (List.getElem?_eq_some_iff.mp h).1
 | ro h=>exact .ro _
theorem RelD.cut {K:PySem.W.Frag}{as m:List Addr}{H:Hp}{d:D}{v:V} (h:RelD K (as++m) H d v) (b:HB as.length d):RelD K as H d v:=by
 induction h with
 | non=>exact .non
 | bl k=>exact .bl k
 | int i=>exact .int i
 | str y=>exact .str y
 | tup' h1 h2 h3 ih=>
  cases b with
  | tup b=>exact .tup' h1 h2 fun i d v e1 e2=>ih i d v e1 e2 (b d (List.mem_of_getElem? e1))
 | lst h=>
  cases b with
  | lst b=>
   rw [List.getElem?_append_left b] at h
   exact .lst h
 | ro h=>exact .ro h
theorem HB.mono {n m:Nat} (h:n<=m) {d:D} (b:HB n d):HB m d:=by
 induction b with
 | non=>exact .non
 | bl b=>exact .bl b
 | int i=>exact .int i
 | str y=>exact .str y
 | tup _ ih=>exact .tup ih
 | lst q=>exact .lst (Nat.lt_of_lt_of_le q h)
 | ro ns=>exact .ro ns
theorem RelH.cut {K:PySem.W.Frag}{as m:List Addr}{H H':Hp}{h junk:Hh} (r0:RelH K as H h) (r:RelH K (as++m) H' (h++junk)):RelH K as H' h:=by
 refine⟨r0.len,(List.nodup_append.mp r.nd).1,fun n a o e1 e2=>?_⟩
 have hn:n < as.length:=(List.getElem?_eq_some_iff.mp e1).1
 have hn':n < h.length:=(List.getElem?_eq_some_iff.mp e2).1
 have q0:=r0.obj n a o e1 e2
 have q:=r.obj n a o (by rw [List.getElem?_append_left hn]; exact e1) (by rw [List.getElem?_append_left hn']; exact e2)
 cases o with
 | lst ds=>
  obtain⟨vs0,_,r0⟩:=q0
  obtain⟨vs,h1,r1⟩:=q
  refine⟨vs,h1,Pd.of_get r1.length fun i d v e1 e2=>?_⟩
  obtain⟨u,_,ru⟩:=Pd.get r0 e1
  obtain⟨v',hv,rv⟩:=Pd.get r1 e1
  rw [e2] at hv
  cases hv
  exact rv.cut ru.hb
 | dct kvs=>
  obtain⟨ws0,_,r0⟩:=q0
  obtain⟨ws,h1,r1⟩:=q
  refine⟨ws,h1,Pd.of_get r1.length fun i d v e1 e2=>?_⟩
  obtain⟨u,_,ru⟩:=Pd.get r0 e1
  obtain⟨v',hv,rv⟩:=Pd.get r1 e1
  rw [e2] at hv
  cases hv
  exact⟨rv.1,rv.2.cut ru.2.hb⟩
def pureF (m:List D->Option D):OC:=fun ds h=>(m ds).map fun d=>(d,h)
theorem fn_pure {P:Program}{w:World}{K:PySem.W.Frag}{mg:Str->Option Value}{base:Heap}{CX:CXT}{k:Nat}{f:Addr}{fd:FuncData}{ps:List Str}{n:Nat}{g:OC}{m:List D->Option D} (G:FnOk P w K mg base CX k f fd ps (spD K n g))
  (hm:∀ ds h d,m ds=some d->∃ junk,g ds h=some (d,h++junk)) (hb:∀ ds d,m ds=some d->HB 0 d):FnOk P w K mg base CX k f fd ps (spD K n (pureF m)):=by
 refine G.imp fun vs H Q E ⟨hl,as,ds,h,rh,rd,p⟩=>⟨hl,as,ds,h,rh,rd,?_⟩
 unfold pureF at p
 cases e:m ds with
 | none=>rw [e] at p; exact p.elim
 | some d=>
  rw [e] at p
  obtain⟨junk,e2⟩:=hm ds h d e
  rw [e2]
  intro as' H' v x rh' rd'
  obtain⟨mo,rfl⟩:=x.pre
  exact p as H' v ⟨⟨[],by simp⟩,x.tups,x.frzs⟩ (rh.cut rh') (rd'.cut ((hb ds d e).mono (Nat.zero_le _)))
section
variable {X:Cx}
def rCatA (K:PySem.W.Frag):R2:=fun x y H Q=>∃ a b xs ys,x=.ref a/\y=.ref b/\SqT K H a xs/\SqT K H b ys/\xs.length+ys.length<=sizeLine/\
 (xs=[]->Q (.ref b) H)/\(xs≠[]->ys=[]->Q (.ref a) H)/\(xs≠[]->ys≠[]->∀ p,H p=none->Q (.ref p) (upd H p (.tup (xs++ys))))
theorem op_catA:OpR X (binaryOp .Add) (rCatA X.K):=by
 intro pins s σ H x y v u Q I rx ry h
 obtain⟨a,b,xs,ys,rfl,rfl,ha,hb,hz,q0,q1,q2⟩:=h
 by_cases hx:xs=[]
 ·cases rx
  cases ry
  obtain⟨its,r1,p1,_⟩:=I.tuple ha
  obtain⟨its2,r2,p2,_⟩:=I.tuple hb
  obtain⟨⟨cls,dd,data,sl⟩,ho,hc,n,hd⟩:=id p1
  obtain⟨⟨cls2,dd2,data2,sl2⟩,ho2,hc2,n2,hd2⟩:=id p2
  simp only at hc hd hc2 hd2
  subst hc hd hc2 hd2
  have e:its=[]:=r1.nil_iff.mpr hx
  exact concat_meets ⟨_,ho,rfl⟩ ⟨_,ho2,rfl⟩ noFill_tuple_add seq_tuple_add PySem.F.slot_tuple_add PySem.F.entry_tuple_add (PySem.F.args_tuple_add_2 _ _)
   (tuple_addW0 a b its.toArray its2.toArray n n2 dd dd2 sl sl2 (by simp [e])) ⟨ho,ho2,.ref b,H,I,rfl,q0 hx⟩
 ·exact op_catT pins s σ H _ _ v u Q I rx ry ⟨a,b,xs,ys,rfl,rfl,ha,hb,hx,hz,q1 hx,q2 hx⟩
theorem getItem_tuple_whole {prog:Program}{w:World}{A:Around}{E:Value->Shared->Prop}{s:Shared}{t sl:Addr}{items:Array Value}{vl vu:Value}{lo hi:Option Int}{Q:Value->Shared->Prop} (ht:IsTup s.heap t items) (hs:s.heap.IsSliceOf sl vl vu .none) (pl:IsPart vl lo) (pu:IsPart vu hi)
  (hw:HT.sIx items.size 0 lo=0/\HT.sIx items.size items.size hi=items.size) (h:Q (.ref t) s):wpAny (model prog w) A (getItem (.ref t) (.ref sl)) Q E s:=by
 obtain⟨os,hos,hcs,hds⟩:=id hs
 have hTs:s.TypeIs (.ref sl) "slice":=⟨os,hos,hcs⟩
 unfold getItem
 try with_reducible refine wpAny_holding ?_
 first | refine wpAny_bind (wpAny_pure ?_) | skip
 refine wpAny_bind (wpAny_sequenceKey ht.typeIs (by decide) ?_)
 refine wpAny_bind (wpAny_callSpecial?_slot (name:=Str.ofString "__getitem__") ht.typeIs PyProof.Rows.slot_tuple_getitem
  (wpAny_call_entry PyProof.Rows.slot_tuple_getitem ht.typeIs entry_tuple_getitem ?_ (args_tuple_getitem _ _)))
 show wpAny _ _ (Builtin.Tuple.tupleItemsOf (.ref t) >>= _) _ _ s
 refine wpAny_bind (tupleItemsOf_ ht ?_)
 refine wpAny_bind (wpAny_typeOf hTs ?_)
 rw [if_pos (by decide)]
 refine wpAny_bind (HT.sliceApplied_gen hs pl pu ?_)
 have hyes:(((HT.sIx items.size 0 lo:Nat):Int)==0&&(1:Int)==1&&(HT.sIx items.size items.size hi - HT.sIx items.size 0 lo)==items.size)=true:=by
  rw [hw.1,hw.2]
  simp
 show wpAny _ _ (if (((HT.sIx items.size 0 lo:Nat):Int)==0&&(1:Int)==1&&(HT.sIx items.size items.size hi - HT.sIx items.size 0 lo)==items.size)=true then _ else _) _ _ s
 rw [if_pos hyes]
 refine wpAny_bind (m:=Builtin.Tuple.tupleIsExact (.ref t)) ?_
 unfold Builtin.Tuple.tupleIsExact
 refine wpAny_bind (wpAny_typeOf ht.typeIs (wpAny_pure ?_))
 rw [if_pos (by decide)]
 first
  | exact wpAny_bind (wpAny_rule (wpAny_pure ⟨_,rfl,wpAny_pure h⟩))
  | exact wpAny_bind (wpAny_rule (wpAny_bind (wpAny_pure ⟨_,rfl,wpAny_pure h⟩)))
  | exact wpAny_bind (wpAny_rule (wpAny_bind (wpAny_pure (wpAny_pure ⟨_,rfl,wpAny_pure h⟩))))
def rSlTA (K:PySem.W.Frag):V->Option Int->Option Int->Hp->VK->Prop:=fun x lo hi H Q=>∃ a xs,x=.ref a/\SqT K H a xs/\
 ((HT.sIx xs.length 0 lo=0/\HT.sIx xs.length xs.length hi=xs.length)->Q (.ref a) H)/\
 (¬ (HT.sIx xs.length 0 lo=0/\HT.sIx xs.length xs.length hi=xs.length)->∀ p,H p=none->Q (.ref p) (upd H p (.tup (cutV xs lo hi))))
theorem sl_tupA:SlR X (rSlTA X.K):=by
 intro pins s σ H x v vl vu lo hi sl Q I rx hs pl pu h
 obtain⟨a,xs,rfl,hx,q1,q2⟩:=h
 by_cases hw:HT.sIx xs.length 0 lo=0/\HT.sIx xs.length xs.length hi=xs.length
 ·cases rx
  obtain⟨its,r,ht,hz⟩:=I.tuple hx
  have hlen:its.toArray.size=xs.length:=by rw [List.size_toArray]; exact r.length.symm
  refine⟨"tuple",_,PyProof.Rows.slot_tuple_getitem.lookup,ht.typeIs,?_⟩
  exact getItem_tuple_whole ht hs pl pu (by rw [hlen]; exact hw) ⟨.ref a,H,I,rfl,q1 hw⟩
 ·exact sl_tup pins s σ H _ v vl vu lo hi sl Q I rx hs pl pu ⟨a,xs,rfl,hx,hw,q2 hw⟩
theorem sl_str:SlR X (fun x lo hi H Q=>∃ z,x=.str z/\z.length<=sizeLine/\Q (.str (Txt.slice z lo hi)) H):=by
 intro pins s σ H x v vl vu lo hi sl Q I rx hs pl pu h
 obtain⟨z,rfl,hz,q⟩:=h
 obtain⟨t,rfl⟩:=rx
 refine⟨"str",_,F.slot_str_getitem.lookup,typeIs_str _ _ _,?_⟩
 cases pl with
 | none=>
  cases pu with
  | none=>exact wpAny_getItem_str_slice (l:=none) (u:=none) (st:=none) hs rfl (post_val_or_str ⟨Nat.le_trans (Txt.slice_le z _ _) hz,fun t' k=>⟨.str _,H,I.tok k,⟨t',rfl⟩,q⟩⟩)
  | int j u=>exact wpAny_getItem_str_slice (l:=none) (u:=some (j,u)) (st:=none) hs rfl (post_val_or_str ⟨Nat.le_trans (Txt.slice_le z _ _) hz,fun t' k=>⟨.str _,H,I.tok k,⟨t',rfl⟩,q⟩⟩)
 | int i u0=>
  cases pu with
  | none=>exact wpAny_getItem_str_slice (l:=some (i,u0)) (u:=none) (st:=none) hs rfl (post_val_or_str ⟨Nat.le_trans (Txt.slice_le z _ _) hz,fun t' k=>⟨.str _,H,I.tok k,⟨t',rfl⟩,q⟩⟩)
  | int j u=>exact wpAny_getItem_str_slice (l:=some (i,u0)) (u:=some (j,u)) (st:=none) hs rfl (post_val_or_str ⟨Nat.le_trans (Txt.slice_le z _ _) hz,fun t' k=>⟨.str _,H,I.tok k,⟨t',rfl⟩,q⟩⟩)
theorem call_sumI (hc:X.calm=true):CallR X (.builtin "sum") (fun xs H Q=>∃ (p:Addr) (ns:List Int),xs=[.ref p]/\SqL X.K H p (ns.map V.int)/\Q (.int ns.sum) H):=by
 intro pins s σ H xs us Q I r h
 obtain⟨p,ns,rfl,hp,q⟩:=h
 obtain⟨u,rfl,ru⟩:=vals1 r
 cases ru
 obtain⟨its,rv,pl,_⟩:=I.list hp
 have hi:IntsAre its ns:=intsAre_of rv
 obtain⟨xs,hx⟩:=hi.allInts.items
 have hl':s.heap.IsList p (intItems xs):=hx▸pl.isList
 refine sum_intListG (I.ok.hd hc) hl' fun h' tk t' hk=>?_
 have e1:ns=xs.toList.map (·.1):=by
  rw [<-nums_intItems,<-hx]
  exact (show numsOf its.toArray.toList=ns from hi.numsOf).symm
 have e2:preSum (numAt xs) xs.size=ns.sum:=by
  rw [preSum_eq,List.take_of_length_le (by simp),e1]
 rw [e2]
 exact⟨.int ns.sum,H,I.kept hk,⟨t',rfl⟩,q⟩
def insV {α:Type} (xs:List α) (i:Int) (y:α):List α:=xs.take (if i < 0 then (i+(xs.length:Int)).toNat else min i.toNat xs.length)++y::xs.drop (if i < 0 then (i+(xs.length:Int)).toNat else min i.toNat xs.length)
end
def oI2 (g:Int->Int->D):O2:=fun x y h=>match x,y with
 | .int i,.int j=>some (g i j,h)
 | _,_=>none
@[simp] theorem oI2_int (g:Int->Int->D) (i j:Int) (h:Hh):oI2 g (.int i) (.int j) h=some (g i j,h):=rfl
theorem im_I2 {K:PySem.W.Frag}{g:Int->Int->D}{gv:Int->Int->V} (hg:∀ as H i j,RelD K as H (g i j) (gv i j)):Im2 K (rI0 gv) (oI2 g):=by
 intro as H h x y v u Q rh rx ry p
 cases x with
 | int i=>
  cases y with
  | int j=>
   cases rx
   cases ry
   exact⟨i,j,rfl,rfl,p as H _ (Ext.refl _ _) rh (hg as H i j)⟩
  | _=>exact p.elim
 | _=>exact p.elim
def oSub:O2:=oI2 fun i j=>.int (i - j)
def oLt:O2:=oI2 fun i j=>.bl (decide (i < j))
def oLe:O2:=oI2 fun i j=>.bl (decide (i<=j))
def oGt:O2:=oI2 fun i j=>.bl (decide (j < i))
@[simp] theorem oSub_int (i j:Int) (h:Hh):oSub (.int i) (.int j) h=some (.int (i - j),h):=rfl
@[simp] theorem oLt_int (i j:Int) (h:Hh):oLt (.int i) (.int j) h=some (.bl (decide (i < j)),h):=rfl
@[simp] theorem oLe_int (i j:Int) (h:Hh):oLe (.int i) (.int j) h=some (.bl (decide (i<=j)),h):=rfl
@[simp] theorem oGt_int (i j:Int) (h:Hh):oGt (.int i) (.int j) h=some (.bl (decide (j < i)),h):=rfl
def oI2c (c:Int->Int->Bool) (g:Int->Int->D):O2:=fun x y h=>match x,y with
 | .int i,.int j=>if c i j=true then some (g i j,h) else none
 | _,_=>none
theorem im_I2c {K:PySem.W.Frag}{c:Int->Int->Bool}{C:Int->Int->Prop}{g:Int->Int->D}{gv:Int->Int->V} (hg:∀ as H i j,RelD K as H (g i j) (gv i j)) (hc:∀ i j,c i j=true->C i j):Im2 K (rI C gv) (oI2c c g):=by
 intro as H h x y v u Q rh rx ry p
 cases x with
 | int i=>
  cases y with
  | int j=>
   cases rx
   cases ry
   by_cases e:c i j=true
   ·have p':PQ K as H (if c i j=true then some (g i j,h) else none) Q:=p
    rw [if_pos e] at p'
    exact⟨i,j,rfl,rfl,hc i j e,p' as H _ (Ext.refl _ _) rh (hg as H i j)⟩
   ·have p':PQ K as H (if c i j=true then some (g i j,h) else none) Q:=p
    rw [if_neg e] at p'
    exact p'.elim
  | _=>exact p.elim
 | _=>exact p.elim
def cMul (i j:Int):Bool:=decide (-(2 ^ 64) < i/\i < 2 ^ 64)||decide (-(2 ^ 64) < j/\j < 2 ^ 64)||decide (i.natAbs < 2 ^ 1000/\j.natAbs < 2 ^ 1000)
theorem cMul_ok {i j:Int} (c:cMul i j=true):IntMulOk i j:=by
 unfold cMul at c
 rw [Bool.or_eq_true,Bool.or_eq_true] at c
 rcases c with (c | c) | c
 ·exact CMul.ok (.inl (of_decide_eq_true c))
 ·exact CMul.ok (.inr (of_decide_eq_true c))
 ·have c':=of_decide_eq_true c
  exact IntMulOk.of_le (m:=1000) (n:=1000) (intBits_le_iff.mpr c'.1) (intBits_le_iff.mpr c'.2) (by decide)
theorem op_mulA {X:Cx}:OpR X (binaryOp .Mult) (rI IntMulOk fun i j=>.int (i*j)):=opI fun _ _ _ _ _ _ _ hc q=>mul_int q hc
def cDiv (_ j:Int):Bool:=decide (0 < j/\j < 1073741824)
def cMod (_ j:Int):Bool:=decide (0 < j)
def cPow (i j:Int):Bool:=decide (0<=j/\j<=1000000/\i.natAbs < 2 ^ 64)
def oMul:O2:=oI2c cMul fun i j=>.int (i*j)
def oDiv:O2:=oI2c cDiv fun i j=>.int (i / j)
def oMod:O2:=oI2c cMod fun i j=>.int (i % j)
def oPow:O2:=oI2c cPow fun i j=>.int (i ^ j.toNat)
theorem oMul_int {i j:Int} (h:Hh) (c:cMul i j=true):oMul (.int i) (.int j) h=some (.int (i*j),h):=if_pos c
theorem oDiv_int {i j:Int} (h:Hh) (c:0 < j/\j < 1073741824):oDiv (.int i) (.int j) h=some (.int (i / j),h):=if_pos (decide_eq_true c)
theorem oMod_int {i j:Int} (h:Hh) (c:0 < j):oMod (.int i) (.int j) h=some (.int (i % j),h):=if_pos (decide_eq_true c)
theorem oPow_int {i j:Int} (h:Hh) (c:0<=j/\j<=1000000/\i.natAbs < 2 ^ 64):oPow (.int i) (.int j) h=some (.int (i ^ j.toNat),h):=if_pos (decide_eq_true c)
def oNeg:O1:=fun x h=>match x with
 | .int i=>some (.int (-i),h)
 | _=>none
@[simp] theorem oNeg_int (i:Int) (h:Hh):oNeg (.int i) h=some (.int (-i),h):=rfl
@[simp] theorem oNot_bl (b:Bool) (h:Hh):oNot (.bl b) h=some (.bl (!b),h):=rfl
def isNon:D->Bool
 | .non=>true
 | _=>false
def oIsN:O2:=fun x y h=>match y with
 | .non=>some (.bl (isNon x),h)
 | _=>none
def oNotN:O2:=fun x y h=>match y with
 | .non=>some (.bl (!isNon x),h)
 | _=>none
@[simp] theorem oIsN_non (x:D) (h:Hh):oIsN x .non h=some (.bl (isNon x),h):=rfl
@[simp] theorem oNotN_non (x:D) (h:Hh):oNotN x .non h=some (.bl (!isNon x),h):=rfl
theorem RelD.isNon {K:PySem.W.Frag}{as:List Addr}{H:Hp}{x:D}{v:V} (r:RelD K as H x v):decide (v=.non)=isNon x:=by
 cases r<;>simp [DL.isNon]
def oAdd:O2:=fun x y h=>match x,y with
 | .int i,.int j=>some (.int (i+j),h)
 | .str a,.str b=>if a.length+b.length<=sizeLine then some (.str (a++b),h) else none
 | .tup a,.tup b=>if a.length+b.length<=sizeLine then some (.tup (a++b),h) else none
 | _,_=>none
@[simp] theorem oAdd_int (i j:Int) (h:Hh):oAdd (.int i) (.int j) h=some (.int (i+j),h):=rfl
theorem oAdd_tup {a b:List D} (h:Hh) (c:a.length+b.length<=sizeLine):oAdd (.tup a) (.tup b) h=some (.tup (a++b),h):=if_pos c
def rAddA (K:PySem.W.Frag):R2:=fun x y H Q=>rI0 (fun i j=>.int (i+j)) x y H Q\/(∃ i j,x=.str i/\y=.str j/\i.length+j.length<=sizeLine/\Q (.str (i++j)) H)\/rCatA K x y H Q
theorem im_add {K:PySem.W.Frag}:Im2 K (rAddA K) oAdd:=by
 intro as H h x y v u Q rh rx ry p
 cases x with
 | int i=>
  cases y with
  | int j=>
   cases rx
   cases ry
   exact .inl ⟨i,j,rfl,rfl,p as H _ (Ext.refl _ _) rh (.int _)⟩
  | _=>exact p.elim
 | str a=>
  cases y with
  | str b=>
   cases rx
   cases ry
   have p':PQ K as H (if a.length+b.length<=sizeLine then some (.str (a++b),h) else none) Q:=p
   by_cases c:a.length+b.length<=sizeLine
   ·rw [if_pos c] at p'
    exact .inr (.inl ⟨a,b,rfl,rfl,c,p' as H _ (Ext.refl _ _) rh (.str _)⟩)
   ·rw [if_neg c] at p'
    exact p'.elim
  | _=>exact p.elim
 | tup a=>
  cases y with
  | tup b=>
   have p':PQ K as H (if a.length+b.length<=sizeLine then some (.tup (a++b),h) else none) Q:=p
   by_cases c:a.length+b.length<=sizeLine
   ·rw [if_pos c] at p'
    obtain⟨x,xs,rfl,hx,rxs⟩:=rx.tup_inv
    obtain⟨y,ys,rfl,hy,rys⟩:=ry.tup_inv
    refine .inr (.inr ⟨x,y,xs,ys,rfl,rfl,SqT.of hx,SqT.of hy,by rw [<-rxs.length,<-rys.length]; exact c,fun z=>?_,fun _ z=>?_,fun _ _ q hq=>?_⟩)
    ·subst z
     cases rxs
     exact p' as H _ (Ext.refl _ _) rh (.tup hy rys)
    ·subst z
     cases rys
     exact p' as H _ (Ext.refl _ _) rh (.tup hx (by rw [List.append_nil]; exact rxs))
    ·exact p' as _ _ (ext_upd hq) (rh.tup hq) (.tup upd_same (RelDs.mono (ext_upd hq) (Pd.app rxs rys)))
   ·rw [if_neg c] at p'
    exact p'.elim
  | _=>exact p.elim
 | _=>exact p.elim
section
variable {X:Cx}{a b:Expr}{f g:FE}{pos:Pos}
theorem de_add (ha:DE X a f) (hb:DE X b g):DE X (.BinOp a .Add b pos) (f2 oAdd f g):=de_op (op_add.or (op_add_str.or op_catA)) im_add ha hb
theorem de_sub (ha:DE X a f) (hb:DE X b g):DE X (.BinOp a .Sub b pos) (f2 oSub f g):=de_op op_sub (im_I2 fun _ _ _ _=>.int _) ha hb
theorem de_mul (ha:DE X a f) (hb:DE X b g):DE X (.BinOp a .Mult b pos) (f2 oMul f g):=de_op op_mulA (im_I2c (fun _ _ _ _=>.int _) fun i j c=>cMul_ok c) ha hb
theorem de_div (ha:DE X a f) (hb:DE X b g):DE X (.BinOp a .FloorDiv b pos) (f2 oDiv f g):=de_op op_fdiv (im_I2c (fun _ _ _ _=>.int _) fun i j c=>(of_decide_eq_true c:0 < j/\j < 1073741824)) ha hb
theorem de_mod (ha:DE X a f) (hb:DE X b g):DE X (.BinOp a .Mod b pos) (f2 oMod f g):=de_op op_mod (im_I2c (fun _ _ _ _=>.int _) fun i j c=>(of_decide_eq_true c:0 < j)) ha hb
theorem de_pow (ha:DE X a f) (hb:DE X b g):DE X (.BinOp a .Pow b pos) (f2 oPow f g):=de_op op_pow (im_I2c (fun _ _ _ _=>.int _) fun i j c=>(of_decide_eq_true c:0<=j/\j<=1000000/\i.natAbs < 2 ^ 64)) ha hb
theorem de_neg (ha:DE X a f):DE X (.UnaryOp .USub a pos) (f1 oNeg f):=de_un un_neg (fun as H h x v Q rh rx p=>by
 cases x with
 | int i=>cases rx; exact⟨i,rfl,p as H _ (Ext.refl _ _) rh (.int _)⟩
 | _=>exact p.elim) ha
theorem de_le (ha:DE X a f) (hb:DE X b g):DE X (.Compare a [.LtE] [b] pos) (f2 oLe f g):=de_cmp op_le (im_I2 fun _ _ _ _=>.bl _) (nomark _) ha hb
theorem de_gt (ha:DE X a f) (hb:DE X b g):DE X (.Compare a [.Gt] [b] pos) (f2 oGt f g):=de_cmp op_gt (im_I2 fun _ _ _ _=>.bl _) (nomark _) ha hb
theorem dt_lt (ha:DE X a f) (hb:DE X b g):DT X (.Compare a [.Lt] [b] pos) (fB (f2 oLt f g)):=dt_cmp op_lt (im_I2 fun _ _ _ _=>.bl _) (nomark _) ha hb
theorem dt_le (ha:DE X a f) (hb:DE X b g):DT X (.Compare a [.LtE] [b] pos) (fB (f2 oLe f g)):=dt_cmp op_le (im_I2 fun _ _ _ _=>.bl _) (nomark _) ha hb
theorem dt_gt (ha:DE X a f) (hb:DE X b g):DT X (.Compare a [.Gt] [b] pos) (fB (f2 oGt f g)):=dt_cmp op_gt (im_I2 fun _ _ _ _=>.bl _) (nomark _) ha hb
theorem im_isN {K:PySem.W.Frag}:Im2 K (fun x y H Q=>y=.non/\Q (.bl (decide (x=.non))) H) oIsN:=fun as H h x y v u Q rh rx ry p=>by
 cases y with
 | non=>cases ry; rw [rx.isNon]; exact⟨rfl,p as H _ (Ext.refl _ _) rh (.bl _)⟩
 | _=>exact p.elim
theorem im_notN {K:PySem.W.Frag}:Im2 K (fun x y H Q=>y=.non/\Q (.bl (!decide (x=.non))) H) oNotN:=fun as H h x y v u Q rh rx ry p=>by
 cases y with
 | non=>cases ry; rw [rx.isNon]; exact⟨rfl,p as H _ (Ext.refl _ _) rh (.bl _)⟩
 | _=>exact p.elim
theorem dt_isN (ha:DE X a f) (hb:DE X b g):DT X (.Compare a [.Is] [b] pos) (fB (f2 oIsN f g)):=dt_cmp op_isN im_isN (nomark _) ha hb
theorem dt_notN (ha:DE X a f) (hb:DE X b g):DT X (.Compare a [.IsNot] [b] pos) (fB (f2 oNotN f g)):=dt_cmp op_notN im_notN (nomark _) ha hb
end
def itemsAt (h:Hh) (n:Nat):Option (List D):=match h[n]? with
 | some (.lst ds)=>some ds
 | _=>none
theorem itemsAt_of {h:Hh}{n:Nat}{ds:List D} (e:h[n]?=some (.lst ds)):itemsAt h n=some ds:=by unfold itemsAt; rw [e]
theorem of_itemsAt {h:Hh}{n:Nat}{ds:List D} (e:itemsAt h n=some ds):h[n]?=some (.lst ds):=by
 unfold itemsAt at e
 split at e
 ·rename_i e2; cases e; exact e2
 ·cases e
def oIx:O2:=fun x y h=>match x,y with
 | .tup ds,.int i=>(atI ds i).map fun d=>(d,h)
 | .lst n,.int i=>(itemsAt h n).bind fun ds=>(atI ds i).map fun d=>(d,h)
 | _,_=>none
@[simp] theorem oIx_tup (ds:List D) (i:Int) (h:Hh):oIx (.tup ds) (.int i) h=(atI ds i).map fun d=>(d,h):=rfl
theorem oIx_lst {n:Nat}{ds:List D}{h:Hh} (e:h[n]?=some (.lst ds)) (i:Int):oIx (.lst n) (.int i) h=(atI ds i).map fun d=>(d,h):=by
 show (itemsAt h n).bind _=_
 rw [itemsAt_of e]
 rfl
theorem Pd.atI {α β:Type}{F:α->β->Prop}{xs:List α}{us:List β}{i:Int}{x:α} (r:Paired F xs us) (e:atI xs i=some x):∃ u,L2.atI us i=some u/\F x u:=by
 unfold L2.atI at e |-
 rw [<-r.length]
 cases q:ixN xs.length i with
 | none=>rw [q] at e; cases e
 | some j=>
  rw [q] at e
  exact Pd.get r e
theorem im_ix {K:PySem.W.Frag}:Im2 K (rIx K) oIx:=by
 intro as H h x y v u Q rh rx ry p
 cases x with
 | tup ds=>
  cases y with
  | int i=>
   cases ry
   obtain⟨a,vs,rfl,ha,rvs⟩:=rx.tup_inv
   rw [oIx_tup] at p
   cases e:L2.atI ds i with
   | none=>rw [e] at p; exact p.elim
   | some d=>
    rw [e] at p
    obtain⟨w,hw,rw'⟩:=Pd.atI rvs e
    exact .inr (.inl ⟨a,vs,i,w,rfl,rfl,SqT.of ha,hw,p as H w (Ext.refl _ _) rh rw'⟩)
  | _=>exact p.elim
 | lst n=>
  cases y with
  | int i=>
   cases ry
   cases rx with
   | @lst _ a ha=>
    have p':PQ K as H ((itemsAt h n).bind fun ds=>(L2.atI ds i).map fun d=>(d,h)) Q:=p
    cases e0:itemsAt h n with
    | none=>rw [e0] at p'; exact p'.elim
    | some ds=>
     rw [e0] at p'
     obtain⟨vs,hv,rvs⟩:=rh.obj n a _ ha (of_itemsAt e0)
     cases e:L2.atI ds i with
     | none=>simp only [Option.bind_some,e] at p'; exact p'.elim
     | some d=>
      simp only [Option.bind_some,e] at p'
      obtain⟨w,hw,rw'⟩:=Pd.atI rvs e
      exact .inl ⟨a,vs,i,w,rfl,rfl,SqL.of hv,hw,p' as H w (Ext.refl _ _) rh rw'⟩
  | _=>exact p.elim
 | _=>exact p.elim
theorem de_ix {X:Cx}{a b:Expr}{f g:FE}{pos:Pos} (ha:DE X a f) (hb:DE X b g) (hs:PlainIx b:=by exact fun _ _=>rfl):DE X (.Subscript a b pos) (f2 oIx f g):=peOf (pe_ix ix_seq ha hb hs) (tOp_of im_ix)
abbrev FO:=En->Hh->Res (Option Int)
def tO (X:Cx) (f:FO):TO:=fun σ H Q=>∃ as env h,RelE X.K as H env σ/\RelH X.K as H h/\PX X as H env (f env h) fun _ H' _ o=>Q o H'
abbrev DO (X:Cx) (e:Option Expr) (f:FO):Prop:=PO X e (tO X f)
def fNoPart:FO:=fun _ h=>.ok none h
def partOf (d:D) (h:Hh):Res (Option Int):=match d with
 | .int i=>.ok (some i) h
 | _=>.bad
@[simp] theorem partOf_int (i:Int) (h:Hh):partOf (.int i) h=.ok (some i) h:=rfl
def fPart (f:FE):FO:=fun env h=>(f env h).bind partOf
theorem do_none {X:Cx}:DO X none fNoPart:=fun pins s σ H Q I ⟨as,env,h,re,rh,p⟩=>po_none pins s σ H Q I (p as H (Ext.refl _ _) rh)
theorem do_some {X:Cx}{e:Expr}{f:FE} (he:DE X e f):DO X (some e) (fPart f):=fun pins s σ H Q I ⟨as,env,h,re,rh,p⟩=>po_some he pins s σ H Q I ⟨as,env,h,re,rh,(PX.bind p).imp fun as1 H1 h1 d e1 rh1 p1 v rv=>by
 cases d with
 | int i=>cases rv; exact⟨i,rfl,p1 as1 H1 (Ext.refl _ _) rh1⟩
 | _=>exact p1.elim⟩
def cutD {α:Type} (xs:List α) (lo hi:Option Int):List α:=(xs.drop (HT.sIx xs.length 0 lo)).take (HT.sIx xs.length xs.length hi - HT.sIx xs.length 0 lo)
theorem Pd.cut {α:Type}{F:α->V->Prop}{xs:List α}{us:List V} (r:Paired F xs us) (lo hi:Option Int):Paired F (cutD xs lo hi) (cutV us lo hi):=by
 unfold cutD cutV
 rw [r.length]
 exact Pd.take _ (Pd.drop _ r)
def oSl (x:D) (lo hi:Option Int) (h:Hh):Option (D×Hh):=match x with
 | .tup ds=>some (.tup (cutD ds lo hi),h)
 | .lst n=>(itemsAt h n).map fun ds=>(.lst h.length,h++[.lst (cutD ds lo hi)])
 | .ro ns=>some (.lst h.length,h++[.lst (cutD (ns.map D.int) lo hi)])
 | .str z=>if z.length<=sizeLine then some (.str (Txt.slice z lo hi),h) else none
 | _=>none
@[simp] theorem oSl_tup (ds:List D) (lo hi:Option Int) (h:Hh):oSl (.tup ds) lo hi h=some (.tup (cutD ds lo hi),h):=rfl
theorem oSl_lst {n:Nat}{ds:List D}{h:Hh} (e:h[n]?=some (.lst ds)) (lo hi:Option Int):oSl (.lst n) lo hi h=some (.lst h.length,h++[.lst (cutD ds lo hi)]):=by
 show (itemsAt h n).map _=_
 rw [itemsAt_of e]
 rfl
def fSl (f:FE) (l u:FO):FE:=fun env h=>(f env h).bind fun x h1=>(l env h1).bind fun lo h2=>(u env h2).bind fun hi h3=>.ofO (oSl x lo hi h3)
theorem relDs_ints {K:PySem.W.Frag}{as:List Addr}{H:Hp}:∀ ns:List Int,RelDs K as H (ns.map D.int) (ns.map V.int)
 | []=>.nil
 | n::r=>.cons (.int n) (relDs_ints r)
theorem im_sl {K:PySem.W.Frag}{as:List Addr}{H:Hp}{h:Hh}{x:D}{v:V}{lo hi:Option Int}{Q:VK} (rh:RelH K as H h) (rx:RelD K as H x v) (p:PQ K as H (oSl x lo hi h) Q):
  rSlTA K v lo hi H Q\/rSlL K v lo hi H Q\/∃ z,v=.str z/\z.length<=sizeLine/\Q (.str (Txt.slice z lo hi)) H:=by
 have hw:∀ {n:Nat}{p:Addr},H p=none->(as++[p])[h.length]?=some p:=fun _=>by rw [<-rh.len]; exact List.getElem?_concat_length
 cases x with
 | tup ds=>
  obtain⟨a,vs,rfl,ha,rvs⟩:=rx.tup_inv
  rw [oSl_tup] at p
  refine .inl ⟨a,vs,rfl,SqT.of ha,fun z=>?_,fun z q hq=>?_⟩
  ·have e:cutD ds lo hi=ds:=by
    unfold cutD
    rw [rvs.length,z.1,z.2,Nat.sub_zero,List.drop_zero,List.take_of_length_le (by rw [rvs.length]; exact Nat.le_refl _)]
   exact p as H _ (Ext.refl _ _) rh (by rw [e]; exact .tup ha rvs)
  ·exact p as _ _ (ext_upd hq) (rh.tup hq) (.tup upd_same (RelDs.mono (ext_upd hq) (Pd.cut rvs lo hi)))
 | lst n=>
  cases rx with
  | @lst _ a ha=>
   have p':PQ K as H ((itemsAt h n).map fun ds=>(D.lst h.length,h++[.lst (cutD ds lo hi)])) Q:=p
   cases e0:itemsAt h n with
   | none=>rw [e0] at p'; exact p'.elim
   | some ds=>
    rw [e0] at p'
    obtain⟨vs,hv,rvs⟩:=rh.obj n a _ ha (of_itemsAt e0)
    exact .inr (.inl ⟨a,vs,rfl,SqL.of hv,fun q hq=>p' (as++[q]) _ _ (ext_new hq) (rh.newL hq (Pd.cut rvs lo hi)) (.lst (hw (n:=0) hq))⟩)
 | ro ns=>
  cases rx with
  | @ro _ a ha=>
   exact .inr (.inl ⟨a,_,rfl,ha.sq,fun q hq=>p (as++[q]) _ _ (ext_new hq) (rh.newL hq (Pd.cut (relDs_ints ns) lo hi)) (.lst (hw (n:=0) hq))⟩)
 | str z=>
  cases rx
  have p':PQ K as H (if z.length<=sizeLine then some (.str (Txt.slice z lo hi),h) else none) Q:=p
  by_cases c:z.length<=sizeLine
  ·rw [if_pos c] at p'
   exact .inr (.inr ⟨z,rfl,c,p' as H _ (Ext.refl _ _) rh (.str _)⟩)
  ·rw [if_neg c] at p'
   exact p'.elim
 | _=>exact p.elim
theorem de_slice {X:Cx}{e:Expr}{lo hi:Option Expr}{f:FE}{l u:FO}{pos p2:Pos} (he:DE X e f) (hl:DO X lo l) (hu:DO X hi u):DE X (.Subscript e (.Slice lo hi none p2) pos) (fSl f l u):=
 peOf (pe_slice (sl_tupA.or (sl_list.or sl_str)) he hl hu) fun σ H Q ⟨as,env,h,re,rh,p⟩=>⟨as,env,h,re,rh,(PX.bind p).imp fun as1 H1 h1 x e1 rh1 p1 v rv=>
  ⟨as1,env,h1,re.mono e1,rh1,(PX.bind p1).imp fun as2 H2 h2 lo e2 rh2 p2=>⟨as2,env,h2,(re.mono e1).mono e2,rh2,(PX.bind p2).imp fun as3 H3 h3 hi e3 rh3 p3=>im_sl rh3 ((rv.mono e2).mono e3) p3.pq⟩⟩⟩
def oLen:OC:=fun ds h=>match ds with
 | [.tup xs]=>some (.int xs.length,h)
 | [.lst n]=>(itemsAt h n).map fun xs=>(.int xs.length,h)
 | _=>none
@[simp] theorem oLen_tup (xs:List D) (h:Hh):oLen [.tup xs] h=some (.int xs.length,h):=rfl
theorem oLen_lst {n:Nat}{ds:List D}{h:Hh} (e:h[n]?=some (.lst ds)):oLen [.lst n] h=some (.int ds.length,h):=by
 show (itemsAt h n).map _=_
 rw [itemsAt_of e]
 rfl
theorem RelDs.one {K:PySem.W.Frag}{as:List Addr}{H:Hp}{d:D}{vs:List V} (r:RelDs K as H [d] vs):∃ v,vs=[v]/\RelD K as H d v:=by
 cases r with
 | cons r1 r2=>cases r2; exact⟨_,rfl,r1⟩
theorem RelDs.two {K:PySem.W.Frag}{as:List Addr}{H:Hp}{d e:D}{vs:List V} (r:RelDs K as H [d,e] vs):∃ v u,vs=[v,u]/\RelD K as H d v/\RelD K as H e u:=by
 cases r with
 | cons r1 r2=>
  obtain⟨u,rfl,r3⟩:=RelDs.one r2
  exact⟨_,_,rfl,r1,r3⟩
def seqOf (d:D) (h:Hh):Option (List D):=match d with
 | .tup xs=>some xs
 | .lst n=>itemsAt h n
 | _=>none
theorem seqOf_rel {K:PySem.W.Frag}{as:List Addr}{H:Hp}{h:Hh}{d:D}{v:V}{xs:List D} (rh:RelH K as H h) (r:RelD K as H d v) (e:seqOf d h=some xs):
  ∃ a vs,v=.ref a/\RelDs K as H xs vs/\((∃ n,d=.lst n/\H a=some (.lst vs))\/(d=.tup xs/\H a=some (.tup vs))):=by
 cases d with
 | tup ys=>
  cases e
  obtain⟨a,vs,rfl,ha,rv⟩:=r.tup_inv
  exact⟨a,vs,rfl,rv,.inr ⟨rfl,ha⟩⟩
 | lst n=>
  cases r with
  | @lst _ a ha=>
   obtain⟨vs,hv,rv⟩:=rh.obj n a _ ha (of_itemsAt e)
   exact⟨a,vs,rfl,rv,.inl ⟨n,rfl,hv⟩⟩
 | _=>cases e
theorem seqOf_or {K:PySem.W.Frag}{as:List Addr}{H:Hp}{h:Hh}{d:D}{v:V}{xs:List D} (rh:RelH K as H h) (r:RelD K as H d v) (e:seqOf d h=some xs):
  ∃ a vs,v=.ref a/\RelDs K as H xs vs/\(SqL K H a vs\/SqT K H a vs):=by
 obtain⟨a,vs,h1,h2,h3⟩:=seqOf_rel rh r e
 rcases h3 with⟨n,_,z⟩ | ⟨_,z⟩
 ·exact⟨a,vs,h1,h2,.inl (SqL.of z)⟩
 ·exact⟨a,vs,h1,h2,.inr (SqT.of z)⟩
theorem oLen_seq (d:D) (h:Hh):oLen [d] h=(seqOf d h).map fun xs=>(.int xs.length,h):=by
 cases d<;>rfl
theorem im_len {K:PySem.W.Frag}:ImC K (fun xs H Q=>∃ p ys,xs=[.ref p]/\(SqL K H p ys\/SqT K H p ys)/\Q (.int ys.length) H) oLen:=by
 intro as H h ds vs Q rh rd p
 match ds,rd,p with
 | [],_,p=>exact p.elim
 | [d],rd,p=>
  rw [oLen_seq] at p
  obtain⟨v,rfl,rv⟩:=rd.one
  cases e:seqOf d h with
  | none=>rw [e] at p; exact p.elim
  | some xs=>
   rw [e] at p
   obtain⟨a,ws,rfl,rw',hs⟩:=seqOf_or rh rv e
   refine⟨a,ws,rfl,hs,?_⟩
   have q:=p as H (.int xs.length) (Ext.refl _ _) rh (.int _)
   rw [rw'.length] at q
   exact q
 | d::e::r,_,p=>
  cases d<;>exact p.elim
def intsD:List D->Option (List Int)
 | []=>some []
 | .int i::r=>(intsD r).map (i::·)
 | _=>none
theorem intsD_of:∀ (ds:List D) (ns:List Int),intsD ds=some ns->ds=ns.map D.int
 | [],ns,e=>by cases e; rfl
 | .int i::r,ns,e=>by
  obtain⟨ms,e1,rfl⟩:=Option.map_eq_some_iff.mp e
  rw [intsD_of r ms e1]
  rfl
 | .non::_,_,e=>nomatch e
 | .bl _::_,_,e=>nomatch e
 | .str _::_,_,e=>nomatch e
 | .tup _::_,_,e=>nomatch e
 | .lst _::_,_,e=>nomatch e
 | .ro _::_,_,e=>nomatch e
@[simp] theorem intsD_map:∀ ns:List Int,intsD (ns.map D.int)=some ns
 | []=>rfl
 | n::r=>by
  show (intsD (r.map D.int)).map (n::·)=_
  rw [intsD_map r]
  rfl
theorem relDs_ints_inv {K:PySem.W.Frag}{as:List Addr}{H:Hp}:∀ (ns:List Int) (vs:List V),RelDs K as H (ns.map D.int) vs->vs=ns.map V.int
 | [],_,r=>by cases r; rfl
 | n::r,_,q=>by
  cases q with
  | cons q1 q2=>cases q1; rw [relDs_ints_inv r _ q2]; rfl
def oSum:OC:=fun ds h=>match ds with
 | [.lst n]=>(itemsAt h n).bind fun xs=>(intsD xs).map fun ns=>(.int ns.sum,h)
 | _=>none
theorem oSum_lst {n:Nat}{ds:List D}{ns:List Int}{h:Hh} (e:h[n]?=some (.lst ds)) (e2:intsD ds=some ns):oSum [.lst n] h=some (.int ns.sum,h):=by
 show (itemsAt h n).bind _=_
 rw [itemsAt_of e]
 show (intsD ds).map _=_
 rw [e2]
 rfl
theorem im_sum {K:PySem.W.Frag}:ImC K (fun xs H Q=>∃ (p:Addr) (ns:List Int),xs=[.ref p]/\SqL K H p (ns.map V.int)/\Q (.int ns.sum) H) oSum:=by
 intro as H h ds vs Q rh rd p
 match ds,rd,p with
 | [.lst n],rd,p=>
  obtain⟨v,rfl,rv⟩:=rd.one
  cases rv with
  | @lst _ a ha=>
   have p':PQ K as H ((itemsAt h n).bind fun xs=>(intsD xs).map fun ns=>(D.int ns.sum,h)) Q:=p
   cases e:itemsAt h n with
   | none=>rw [e] at p'; exact p'.elim
   | some xs=>
    rw [e,Option.bind_some] at p'
    cases e2:intsD xs with
    | none=>rw [e2] at p'; exact p'.elim
    | some ns=>
     rw [e2] at p'
     obtain⟨ws,hw,rw'⟩:=rh.obj n a _ ha (of_itemsAt e)
     rw [intsD_of xs ns e2] at rw'
     have:=relDs_ints_inv ns ws rw'
     subst this
     exact⟨a,ns,rfl,SqL.of hw,p' as H _ (Ext.refl _ _) rh (.int _)⟩
 | [],_,p=>exact p.elim
 | [.non],_,p=>exact p.elim
 | [.bl _],_,p=>exact p.elim
 | [.int _],_,p=>exact p.elim
 | [.str _],_,p=>exact p.elim
 | [.tup _],_,p=>exact p.elim
 | [.ro _],_,p=>exact p.elim
 | d::e::r,_,p=>cases d<;>exact p.elim
def oTuple:OC:=fun ds h=>match ds with
 | [d]=>(seqOf d h).map fun xs=>(.tup xs,h)
 | _=>none
def oList:OC:=fun ds h=>match ds with
 | [d]=>(seqOf d h).map fun xs=>(.lst h.length,h++[.lst xs])
 | _=>none
theorem im_tuple {K:PySem.W.Frag}:ImC K (fun xs H Q=>∃ p ys,xs=[.ref p]/\((SqL K H p ys/\∀ l,H l=none->Q (.ref l) (upd H l (.tup ys)))\/(SqT K H p ys/\Q (.ref p) H))) oTuple:=by
 intro as H h ds vs Q rh rd p
 match ds,rd,p with
 | [],_,p=>exact p.elim
 | [d],rd,p=>
  have p':PQ K as H ((seqOf d h).map fun xs=>(D.tup xs,h)) Q:=p
  obtain⟨v,rfl,rv⟩:=rd.one
  cases e:seqOf d h with
  | none=>rw [e] at p'; exact p'.elim
  | some xs=>
   rw [e] at p'
   obtain⟨a,ws,rfl,rw',hs⟩:=seqOf_rel rh rv e
   rcases hs with⟨n,_,z⟩ | ⟨_,z⟩
   ·exact⟨a,ws,rfl,.inl ⟨SqL.of z,fun l hl=>p' as _ _ (ext_upd hl) (rh.tup hl) (.tup upd_same (RelDs.mono (ext_upd hl) rw'))⟩⟩
   ·exact⟨a,ws,rfl,.inr ⟨SqT.of z,p' as H _ (Ext.refl _ _) rh (.tup z rw')⟩⟩
 | _::_::_,_,p=>exact p.elim
theorem im_list {K:PySem.W.Frag}:ImC K (fun xs H Q=>∃ p ys,xs=[.ref p]/\(SqL K H p ys\/SqT K H p ys)/\∀ l,H l=none->Q (.ref l) (upd H l (.lst ys))) oList:=by
 intro as H h ds vs Q rh rd p
 match ds,rd,p with
 | [],_,p=>exact p.elim
 | [d],rd,p=>
  have p':PQ K as H ((seqOf d h).map fun xs=>(D.lst h.length,h++[.lst xs])) Q:=p
  obtain⟨v,rfl,rv⟩:=rd.one
  cases e:seqOf d h with
  | none=>rw [e] at p'; exact p'.elim
  | some xs=>
   rw [e] at p'
   obtain⟨a,ws,rfl,rw',hs⟩:=seqOf_or rh rv e
   exact⟨a,ws,rfl,hs,fun l hl=>p' (as++[l]) _ _ (ext_new hl) (rh.newL hl rw') (.lst (by rw [<-rh.len]; exact List.getElem?_concat_length))⟩
 | _::_::_,_,p=>exact p.elim
def oMin:OC:=fun ds h=>match ds with
 | [.int i,.int j]=>some (.int (if j < i then j else i),h)
 | _=>none
def oMax:OC:=fun ds h=>match ds with
 | [.int i,.int j]=>some (.int (if j > i then j else i),h)
 | _=>none
@[simp] theorem oMin_int (i j:Int) (h:Hh):oMin [.int i,.int j] h=some (.int (if j < i then j else i),h):=rfl
@[simp] theorem oMax_int (i j:Int) (h:Hh):oMax [.int i,.int j] h=some (.int (if j > i then j else i),h):=rfl
theorem im_max {K:PySem.W.Frag}:ImC K (fun xs H Q=>∃ i j,xs=[.int i,.int j]/\Q (.int (if j > i then j else i)) H) oMax:=by
 intro as H h ds vs Q rh rd p
 unfold oMax at p
 split at p
 ·obtain⟨v,u,rfl,r1,r2⟩:=rd.two
  cases r1
  cases r2
  exact⟨_,_,rfl,p as H _ (Ext.refl _ _) rh (.int _)⟩
 ·exact p.elim
def oInt:OC:=fun ds h=>match ds with
 | [.int i]=>some (.int i,h)
 | [.bl b]=>some (.int (if b then 1 else 0),h)
 | _=>none
@[simp] theorem oInt_bl (b:Bool) (h:Hh):oInt [.bl b] h=some (.int (if b then 1 else 0),h):=rfl
theorem im_int {K:PySem.W.Frag}:ImC K (fun xs H Q=>(∃ i,xs=[.int i]/\Q (.int i) H)\/∃ k,xs=[.bl k]/\Q (.int (if k then 1 else 0)) H) oInt:=by
 intro as H h ds vs Q rh rd p
 unfold oInt at p
 split at p
 ·obtain⟨v,rfl,r1⟩:=rd.one
  cases r1
  exact .inl ⟨_,rfl,p as H _ (Ext.refl _ _) rh (.int _)⟩
 ·obtain⟨v,rfl,r1⟩:=rd.one
  cases r1
  exact .inr ⟨_,rfl,p as H _ (Ext.refl _ _) rh (.int _)⟩
 ·exact p.elim
section
variable {X:Cx}{p pos:Pos}{e:Expr}{es:List Expr}{fs:List FE}
theorem de_len (hm:X.mg "len"=none) (ha:DA X (e::es) (fAll fs)) (hg:Gl X "len":=by rfl) (he:starEach (e::es) X.env=(false,eval e X.env)::starEach es X.env:=by rfl) (hpl:(backTo pos (starEach es X.env)).any (·.1)=false:=by rfl):
  DE X (.Call (.Name "len" p) (e::es) [] pos) (fc oLen (fAll fs)):=de_callB call_len_seq im_len hg hm PySem.boot_len ha (by decide) (by decide) he hpl
theorem de_sum (hm:X.mg "sum"=none) (hcalm:X.calm=true) (ha:DA X (e::es) (fAll fs)) (hg:Gl X "sum":=by rfl) (he:starEach (e::es) X.env=(false,eval e X.env)::starEach es X.env:=by rfl) (hpl:(backTo pos (starEach es X.env)).any (·.1)=false:=by rfl):
  DE X (.Call (.Name "sum" p) (e::es) [] pos) (fc oSum (fAll fs)):=de_callB (call_sumI hcalm) im_sum hg hm boot_sum ha (by decide) (by decide) he hpl
theorem de_max (hm:X.mg "max"=none) (hcalm:X.calm=true) (ha:DA X (e::es) (fAll fs)) (hg:Gl X "max":=by rfl) (he:starEach (e::es) X.env=(false,eval e X.env)::starEach es X.env:=by rfl) (hpl:(backTo pos (starEach es X.env)).any (·.1)=false:=by rfl):
  DE X (.Call (.Name "max" p) (e::es) [] pos) (fc oMax (fAll fs)):=de_callB (call_max2 hcalm) im_max hg hm boot_max ha (by decide) (by decide) he hpl
theorem de_tuple (hm:X.mg "tuple"=none) (ha:DA X (e::es) (fAll fs)) (hg:Gl X "tuple":=by rfl) (he:starEach (e::es) X.env=(false,eval e X.env)::starEach es X.env:=by rfl) (hpl:(backTo pos (starEach es X.env)).any (·.1)=false:=by rfl):
  DE X (.Call (.Name "tuple" p) (e::es) [] pos) (fc oTuple (fAll fs)):=de_callTy call_tuple_of im_tuple hg hm (by decide +kernel) ha (by decide) (by decide) he hpl
theorem de_list (hm:X.mg "list"=none) (ha:DA X (e::es) (fAll fs)) (hg:Gl X "list":=by rfl) (he:starEach (e::es) X.env=(false,eval e X.env)::starEach es X.env:=by rfl) (hpl:(backTo pos (starEach es X.env)).any (·.1)=false:=by rfl):
  DE X (.Call (.Name "list" p) (e::es) [] pos) (fc oList (fAll fs)):=de_callTy call_list_of im_list hg hm (by decide +kernel) ha (by decide) (by decide) he hpl
theorem de_intc (hm:X.mg "int"=none) (ha:DA X (e::es) (fAll fs)) (hg:Gl X "int":=by rfl) (he:starEach (e::es) X.env=(false,eval e X.env)::starEach es X.env:=by rfl) (hpl:(backTo pos (starEach es X.env)).any (·.1)=false:=by rfl):
  DE X (.Call (.Name "int" p) (e::es) [] pos) (fc oInt (fAll fs)):=de_callTy call_int1 im_int hg hm (by decide +kernel) ha (by decide) (by decide) he hpl
end
abbrev OM:=D->List D->Hh->Option (D×Hh)
def ImM (K:PySem.W.Frag) (rm:V->List V->Hp->VK->Prop) (r:OM):Prop:=∀ as H h x ds v vs Q,RelH K as H h->RelD K as H x v->RelDs K as H ds vs->PQ K as H (r x ds h) Q->rm v vs H Q
def lstOk (x:D) (h:Hh):Bool:=match x with
 | .lst n=>(itemsAt h n).isSome
 | _=>false
def fM (r:OM) (f:FE) (fs:List FE):FE:=fun env h=>(f env h).bind fun x h1=>if lstOk x h1=true then (fAll fs env h1).bind fun ds h2=>.ofO (r x ds h2) else .bad
theorem tyV_lst {K:PySem.W.Frag}{as:List Addr}{H:Hp}{h:Hh}{x:D}{v:V} (rh:RelH K as H h) (rx:RelD K as H x v) (e:lstOk x h=true):tyV K "list" v H:=by
 cases x with
 | lst n=>
  cases rx with
  | @lst _ a ha=>
   obtain⟨ds,e1⟩:=Option.isSome_iff_exists.mp (show (itemsAt h n).isSome=true from e)
   obtain⟨vs,hv,_⟩:=rh.obj n a _ ha (of_itemsAt e1)
   exact .inl ⟨rfl,vs,SqL.of hv⟩
 | _=>cases e
section
variable {X:Cx}{o e:Expr}{es:List Expr}{f:FE}{fs:List FE}{name:Str}{apos cpos:Pos}{id:String}{rm:V->List V->Hp->VK->Prop}{r:OM}
theorem de_meth (slot:Slot "list" name id) (hty:typeOf (.builtin id)=pure (.type "method_descriptor")) (hm:MtR X id rm) (im:ImM X.K rm r) (ho:DE X o f) (ha:DA X (e::es) (fAll fs))
  (hbase:attributeBase o name X.env (eval o X.env)=eval o X.env:=by rfl)
  (hfew:((backTo cpos (starEach (e::es) X.env)).all (fun x=>!x.1)&&(backToKw cpos (keywordEach [] X.env)).all (fun x=>x.1.isSome)
   && decide ((e::es).length+([]:List Keyword).length+(if ([]:List Keyword).isEmpty then 0 else 1) < 30))=true:=by rfl)
  (hline:(apos.endLine==cpos.line)=true:=by rfl) (hs:starEach (e::es) X.env=(false,eval e X.env)::starEach es X.env:=by rfl) (hplain:(backTo cpos (starEach es X.env)).any (·.1)=false:=by rfl):
  DE X (.Call (.Attribute o name apos) (e::es) [] cpos) (fM r f fs):=
 peOf (pe_bm F.plainAttrs_list slot hty hm ho ha hbase hfew hline hs hplain) fun σ H Q ⟨as,env,h,re,rh,p⟩=>⟨as,env,h,re,rh,(PX.bind p).imp fun as1 H1 h1 x e1 rh1 p1 v rv=>by
  by_cases c:lstOk x h1=true
  ·rw [if_pos c] at p1
   exact⟨tyV_lst rh1 rv c,as1,env,h1,re.mono e1,rh1,(PX.bind p1).imp fun as2 H2 h2 ds e2 rh2 p2 vs rvs=>im as2 H2 h2 x ds v vs Q rh2 (rv.mono e2) rvs p2.pq⟩
  ·rw [if_neg c] at p1
   exact p1.elim⟩
theorem de_meth0 (slot:Slot "list" name id) (hty:typeOf (.builtin id)=pure (.type "method_descriptor")) (hm:MtR X id rm) (im:ImM X.K rm r) (ho:DE X o f)
  (hbase:attributeBase o name X.env (eval o X.env)=eval o X.env:=by rfl) (hline:(apos.endLine==cpos.line)=true:=by rfl):DE X (.Call (.Attribute o name apos) [] [] cpos) (fM r f []):=
 peOf (pe_bm0 F.plainAttrs_list slot hty hm ho hbase hline) fun σ H Q ⟨as,env,h,re,rh,p⟩=>⟨as,env,h,re,rh,(PX.bind p).imp fun as1 H1 h1 x e1 rh1 p1 v rv=>by
  by_cases c:lstOk x h1=true
  ·rw [if_pos c] at p1
   exact⟨tyV_lst rh1 rv c,im as1 H1 h1 x [] v [] Q rh1 rv .nil (PX.pq (env:=env) p1)⟩
  ·rw [if_neg c] at p1
   exact p1.elim⟩
end
def oAppend:OM:=fun x ds h=>match x,ds with
 | .lst n,[d]=>(itemsAt h n).bind fun xs=>if xs.length < sizeLine then some (.non,h.set n (.lst (xs++[d]))) else none
 | _,_=>none
def oExtend:OM:=fun x ds h=>match x,ds with
 | .lst n,[.lst m]=>(itemsAt h n).bind fun xs=>(itemsAt h m).bind fun ys=>if xs.length+ys.length<=sizeLine then some (.non,h.set n (.lst (xs++ys))) else none
 | _,_=>none
def oPop:OM:=fun x ds h=>match x,ds with
 | .lst n,[]=>(itemsAt h n).bind fun xs=>(xs[xs.length - 1]?).map fun d=>(d,h.set n (.lst xs.dropLast))
 | _,_=>none
theorem oAppend_lst {n:Nat}{xs:List D}{h:Hh} (d:D) (e:h[n]?=some (.lst xs)) (c:xs.length < sizeLine):oAppend (.lst n) [d] h=some (.non,h.set n (.lst (xs++[d]))):=by
 show (itemsAt h n).bind _=_
 rw [itemsAt_of e,Option.bind_some,if_pos c]
theorem oExtend_lst {n m:Nat}{xs ys:List D}{h:Hh} (e:h[n]?=some (.lst xs)) (e2:h[m]?=some (.lst ys)) (c:xs.length+ys.length<=sizeLine):oExtend (.lst n) [.lst m] h=some (.non,h.set n (.lst (xs++ys))):=by
 show (itemsAt h n).bind _=_
 rw [itemsAt_of e,Option.bind_some,itemsAt_of e2,Option.bind_some,if_pos c]
theorem oPop_lst {n:Nat}{xs:List D}{h:Hh}{d:D} (e:h[n]?=some (.lst (xs++[d]))):oPop (.lst n) [] h=some (d,h.set n (.lst xs)):=by
 show (itemsAt h n).bind _=_
 rw [itemsAt_of e,Option.bind_some]
 simp
theorem Pd.ins {α β:Type}{F:α->β->Prop}{xs:List α}{us:List β} (r:Paired F xs us) (i:Int) {x:α}{u:β} (q:F x u):Paired F (insV xs i x) (insV us i u):=by
 unfold insV
 rw [r.length]
 exact Pd.app (Pd.take _ r) (.cons q (Pd.drop _ r))
section
variable {K:PySem.W.Frag}
theorem im_append:ImM K rAppend oAppend:=by
 intro as H h x ds v vs Q rh rx rd p
 unfold oAppend at p
 split at p
 ·rename_i n d
  cases rx with
  | @lst _ a ha=>
   obtain⟨u,rfl,ru⟩:=rd.one
   cases e:itemsAt h n with
   | none=>rw [e] at p; exact p.elim
   | some xs=>
    rw [e,Option.bind_some] at p
    obtain⟨ws,hw,rw'⟩:=rh.obj n a _ ha (of_itemsAt e)
    by_cases c:xs.length < sizeLine
    ·rw [if_pos c] at p
     exact⟨a,ws,u,rfl,rfl,hw,by rw [<-rw'.length]; exact c,p as _ _ (ext_lst rh ha (of_itemsAt e)) (rh.setL ha (of_itemsAt e) (Pd.app rw' (.cons ru .nil))) .non⟩
    ·rw [if_neg c] at p
     exact p.elim
 ·exact p.elim
theorem im_extend:ImM K rExtend oExtend:=by
 intro as H h x ds v vs Q rh rx rd p
 unfold oExtend at p
 split at p
 ·rename_i n m
  cases rx with
  | @lst _ a ha=>
   obtain⟨u,rfl,ru⟩:=rd.one
   cases ru with
   | @lst _ b hb=>
    cases e:itemsAt h n with
    | none=>rw [e] at p; exact p.elim
    | some xs=>
     rw [e,Option.bind_some] at p
     cases e2:itemsAt h m with
     | none=>rw [e2] at p; exact p.elim
     | some ys=>
      rw [e2,Option.bind_some] at p
      obtain⟨ws,hw,rw'⟩:=rh.obj n a _ ha (of_itemsAt e)
      obtain⟨zs,hz,rz⟩:=rh.obj m b _ hb (of_itemsAt e2)
      by_cases c:xs.length+ys.length<=sizeLine
      ·rw [if_pos c] at p
       exact⟨a,b,ws,zs,rfl,rfl,hw,hz,by rw [<-rw'.length,<-rz.length]; exact c,p as _ _ (ext_lst rh ha (of_itemsAt e)) (rh.setL ha (of_itemsAt e) (Pd.app rw' rz)) .non⟩
      ·rw [if_neg c] at p
       exact p.elim
 ·exact p.elim
theorem im_pop:ImM K rPop oPop:=by
 intro as H h x ds v vs Q rh rx rd p
 unfold oPop at p
 split at p
 ·rename_i n
  cases rx with
  | @lst _ a ha=>
   cases rd
   cases e:itemsAt h n with
   | none=>rw [e] at p; exact p.elim
   | some xs=>
    rw [e,Option.bind_some] at p
    obtain⟨ws,hw,rw'⟩:=rh.obj n a _ ha (of_itemsAt e)
    cases e2:xs[xs.length - 1]? with
    | none=>rw [e2] at p; exact p.elim
    | some d=>
     rw [e2] at p
     obtain⟨u,hu,ru⟩:=Pd.get rw' e2
     have ex:=ext_lst (vs:=ws.dropLast) rh ha (of_itemsAt e)
     exact⟨a,ws,u,rfl,rfl,hw,by rw [<-rw'.length]; exact hu,p as _ _ ex (rh.setL ha (of_itemsAt e) (Pd.dropLast rw')) (ru.mono ex)⟩
 ·exact p.elim
end
section
variable {X:Cx}{o e:Expr}{es:List Expr}{f:FE}{fs:List FE}{apos cpos:Pos}
theorem de_append (ho:DE X o f) (ha:DA X [e] (fAll fs)) (hbase:attributeBase o "append" X.env (eval o X.env)=eval o X.env:=by rfl)
  (hfew:((backTo cpos (starEach [e] X.env)).all (fun x=>!x.1)&&(backToKw cpos (keywordEach [] X.env)).all (fun x=>x.1.isSome)&&decide (([e]:List Expr).length+([]:List Keyword).length+(if ([]:List Keyword).isEmpty then 0 else 1) < 30))=true:=by rfl)
  (hline:(apos.endLine==cpos.line)=true:=by rfl) (hs:starEach [e] X.env=(false,eval e X.env)::starEach [] X.env:=by rfl) (hplain:(backTo cpos (starEach [] X.env)).any (·.1)=false:=by rfl):
  DE X (.Call (.Attribute o "append" apos) [e] [] cpos) (fM oAppend f fs):=de_meth F.slot_list_append F.type_list_append mt_append im_append ho ha hbase hfew hline hs hplain
theorem de_extend (ho:DE X o f) (ha:DA X [e] (fAll fs)) (hbase:attributeBase o "extend" X.env (eval o X.env)=eval o X.env:=by rfl)
  (hfew:((backTo cpos (starEach [e] X.env)).all (fun x=>!x.1)&&(backToKw cpos (keywordEach [] X.env)).all (fun x=>x.1.isSome)&&decide (([e]:List Expr).length+([]:List Keyword).length+(if ([]:List Keyword).isEmpty then 0 else 1) < 30))=true:=by rfl)
  (hline:(apos.endLine==cpos.line)=true:=by rfl) (hs:starEach [e] X.env=(false,eval e X.env)::starEach [] X.env:=by rfl) (hplain:(backTo cpos (starEach [] X.env)).any (·.1)=false:=by rfl):
  DE X (.Call (.Attribute o "extend" apos) [e] [] cpos) (fM oExtend f fs):=de_meth F.slot_list_extend F.type_list_extend mt_extend im_extend ho ha hbase hfew hline hs hplain
theorem de_pop (ho:DE X o f) (hbase:attributeBase o "pop" X.env (eval o X.env)=eval o X.env:=by rfl) (hline:(apos.endLine==cpos.line)=true:=by rfl):DE X (.Call (.Attribute o "pop" apos) [] [] cpos) (fM oPop f []):=
 de_meth0 F.slot_list_pop F.type_list_pop mt_pop im_pop ho hbase hline
end
def setIx (x y d:D) (h:Hh):Option Hh:=match x,y with
 | .lst n,.int k=>(itemsAt h n).bind fun ds=>(ixN ds.length k).map fun j=>h.set n (.lst (ds.set j d))
 | _,_=>none
theorem setIx_lst {n:Nat}{k:Int}{j:Nat}{ds:List D}{h:Hh} (d:D) (e:h[n]?=some (.lst ds)) (e2:ixN ds.length k=some j):setIx (.lst n) (.int k) d h=some (h.set n (.lst (ds.set j d))):=by
 show (itemsAt h n).bind _=_
 rw [itemsAt_of e,Option.bind_some,e2]
 rfl
def outO (o:Option Hh) (e:En):Out:=match o with
 | some h=>.nx e h
 | none=>.bad
def fSetIx (f fo fi:FE):FS:=fun e h=>(f e h).out e fun d h1=>(fo e h1).out e fun x h2=>(fi e h2).out e fun y h3=>outO (setIx x y d h3) e
theorem ds_setIx {X:Cx}{o i e:Expr}{f fo fi:FE}{pos pos':Pos} (he:DE X e f) (ho:DE X o fo) (hi:DE X i fi)
  (ha:∀ v,assign (.Subscript o i pos') X.env v=(do
   let ov <-holding [v] (eval o X.env)
   let iv <-holding [v,ov] (eval i X.env)
   standAt pos'
   holding [v,ov,iv] (setItem ov iv v)
   release [v,ov,iv] []):=by intro _; rfl)
  (hs:swapsWithSole [.Subscript o i pos'] e pos.line X.env=pure false:=by rfl) (hw:swappedStores [.Subscript o i pos'] e X.env=pure none:=by rfl)
  (h1:(assignEach [.Subscript o i pos'] X.env).map (·.2)=[assign (.Subscript o i pos') X.env]:=by rfl):DS X (.Assign [.Subscript o i pos'] e pos) (fSetIx f fo fi):=
 psOf (ps_asg he (pg_sub ho hi set_list ha) hs hw h1) fun Dn σ H ⟨as,env,h,re,rh,p⟩=>⟨as,env,h,re,rh,(PX.of_out p).imp fun as1 H1 h1 d e1 rh1 p1 v rv=>
  ⟨as1,env,h1,re.mono e1,rh1,(PX.of_out p1).imp fun as2 H2 h2 x e2 rh2 p2 u ru=>⟨as2,env,h2,(re.mono e1).mono e2,rh2,(PX.of_out p2).imp fun as3 H3 h3 y e3 rh3 p3 w rw'=>by
   have rv3:=(rv.mono e2).mono e3
   have ru3:=ru.mono e3
   have re3:=((re.mono e1).mono e2).mono e3
   unfold setIx at p3
   split at p3
   ·rename_i n k
    cases ru3 with
    | @lst _ a ha=>
     cases rw'
     cases q:itemsAt h3 n with
     | none=>rw [q] at p3; exact p3.elim
     | some ds=>
      rw [q,Option.bind_some] at p3
      obtain⟨ws,hw,rws⟩:=rh3.obj n a _ ha (of_itemsAt q)
      cases q2:ixN ds.length k with
      | none=>rw [q2] at p3; exact p3.elim
      | some j=>
       rw [q2] at p3
       have ex:=ext_lst (vs:=ws.set j v) rh3 ha (of_itemsAt q)
       exact⟨a,ws,k,j,rfl,rfl,hw,by rw [<-rws.length]; exact q2,p3 as3 _ σ ex (rh3.setL ha (of_itemsAt q) (Pd.set rv3 j rws)) (re3.mono ex)⟩
   ·exact p3.elim⟩⟩⟩
def gLst (K:PySem.W.Frag) (n:Nat) (t:TGs):TG:=fun v σ H Q=>∃ a xs,v=.ref a/\SqL K H a xs/\xs.length=n/\t xs σ H Q
theorem pg_lst {X:Cx}{es:List Expr}{k:Nat}{t:TGs}{n:Nat}{pos:Pos} (hc:X.calm=true) (h:PGs X es t)
  (hn:(assignEach es X.env).length=n:=by rfl) (hst:(assignEach es X.env).findIdx? (·.1)=none:=by rfl):PG X (.Tuple es k pos) (gLst X.K n t):=by
 intro pins s σ H v u Q I r hw
 obtain⟨a,xs,e1,hq,hl,hw⟩:=hw
 subst e1
 cases r
 obtain⟨its,rv,pl,hz⟩:=I.list hq
 rw [assign_Tuple]
 refine wpAny_bind (wpAny_standAt ?_)
 unfold unpack
 have hn2:(assignEach es X.env).length=its.toArray.size:=by rw [hn,<-hl,rv.length,List.size_toArray]
 rw [hn2,hst]
 refine wpAny_bind (wpAny_holding (PySem.W.kun_itemsOf (I.ok.hd hc) pl.isList fun h' hx=>?_))
 have I1:Inv X pins σ H { s with heap:=h' }:=I.kept (t':=s.toks) fun b o e=>hx b o (Nat.ne_of_lt (Heap.lt_size e)) e
 exact h pins _ σ H xs _ Q I1 (by simpa using rv) hw
def setAll (env:En):List Nat->List D->Option En
 | [],[]=>some env
 | i::is,d::ds=>setAll (env.set i (some d)) is ds
 | _,_=>none
def fUnp (is:List Nat) (f:FE):FS:=fun e h=>(f e h).out e fun d h1=>match (seqOf d h1).bind (setAll e is) with
 | some e'=>.nx e' h1
 | none=>.bad
theorem ds_unp2 {X:Cx}{x y:Str}{px py pt:Pos}{kt:Nat}{e:Expr}{f:FE}{i j:Nat}{pos:Pos} (hcalm:X.calm=true) (hN:X.N.Nodup) (he:DE X e f)
  (hi:X.N[i]?=some x:=by rfl) (hj:X.N[j]?=some y:=by rfl) (hx:Loc X.env.scope x:=by first | exact Or.inl rfl | exact Or.inr rfl) (hy:Loc X.env.scope y:=by first | exact Or.inl rfl | exact Or.inr rfl)
  (hfx:X.fn x=true\/X.env.scope.names.lookup x=some .local:=by first | exact .inl rfl | exact .inr rfl) (hfy:X.fn y=true\/X.env.scope.names.lookup y=some .local:=by first | exact .inl rfl | exact .inr rfl)
  (hn:(assignEach [.Name x px,.Name y py] X.env).length=2:=by rfl) (hst:(assignEach [.Name x px,.Name y py] X.env).findIdx? (·.1)=none:=by rfl)
  (ha1:(assignEach [.Name x px,.Name y py] X.env).map (·.2)=assign (.Name x px) X.env::(assignEach [.Name y py] X.env).map (·.2):=by rfl)
  (ha2:(assignEach [.Name y py] X.env).map (·.2)=assign (.Name y py) X.env::(assignEach [] X.env).map (·.2):=by rfl)
  (hs:swapsWithSole [.Tuple [.Name x px,.Name y py] kt pt] e pos.line X.env=pure false:=by rfl) (hw:swappedStores [.Tuple [.Name x px,.Name y py] kt pt] e X.env=pure none:=by rfl)
  (h1:(assignEach [.Tuple [.Name x px,.Name y py] kt pt] X.env).map (·.2)=[assign (.Tuple [.Name x px,.Name y py] kt pt) X.env]:=by rfl):
  DS X (.Assign [.Tuple [.Name x px,.Name y py] kt pt] e pos) (fUnp [i,j] f):=by
 have g2:PGs X [.Name x px,.Name y py] (gCons (gName i) (gCons (gName j) gNil)):=pgs_cons (pg_name hN hi hx hfx) (pgs_cons (pg_name hN hj hy hfy) pgs_nil ha2) ha1
 have pT:=ps_asg (pos:=pos) he (pg_tup (k:=kt) (pos:=pt) hcalm g2 hn hst) hs hw h1
 have pL:=ps_asg (pos:=pos) he (pg_lst (k:=kt) (pos:=pt) hcalm g2 hn hst) hs hw h1
 intro pins s σ H Dn I ⟨as,env,h,re,rh,p⟩
 unfold fUnp at p
 cases e1:f env h with
 | bad=>rw [e1] at p; exact p.elim
 | ex c h1=>
  refine pT pins s σ H Dn I ⟨as,env,h,re,rh,?_⟩
  rw [e1] at p |-
  exact p
 | ok d h1=>
  rw [e1,Res.out_ok] at p
  cases e2:seqOf d h1 with
  | none=>rw [e2] at p; exact p.elim
  | some ds=>
   rw [e2,Option.bind_some] at p
   have fin:∀ as1 H1 vs,Ext as H as1 H1->RelH X.K as1 H1 h1->RelDs X.K as1 H1 ds vs->vs.length=2/\gCons (gName i) (gCons (gName j) gNil) vs σ H1 Dn.nx:=by
    intro as1 H1 vs x1 rh1 rvs
    match ds,rvs,p with
    | [],_,p=>exact p.elim
    | [_],_,p=>exact p.elim
    | [d1,d2],rvs,p=>
     obtain⟨v,u,rfl,rv,ru⟩:=rvs.two
     exact⟨rfl,v,[u],rfl,u,[],rfl,rfl,p as1 H1 _ x1 rh1 (((re.mono x1).set i rv).set j ru)⟩
    | _::_::_::_,_,p=>exact p.elim
   cases d with
   | tup xs=>
    cases e2
    refine pT pins s σ H Dn I ⟨as,env,h,re,rh,?_⟩
    rw [e1]
    intro as1 H1 x1 rh1 v rv
    obtain⟨a,vs,rfl,ha,rvs⟩:=rv.tup_inv
    obtain⟨q1,q2⟩:=fin as1 H1 vs x1 rh1 rvs
    exact⟨a,vs,rfl,SqT.of ha,q1,q2⟩
   | lst n=>
    refine pL pins s σ H Dn I ⟨as,env,h,re,rh,?_⟩
    rw [e1]
    intro as1 H1 x1 rh1 v rv
    cases rv with
    | @lst _ a ha=>
     obtain⟨vs,hv,rvs⟩:=rh1.obj n a _ ha (of_itemsAt e2)
     obtain⟨q1,q2⟩:=fin as1 H1 vs x1 rh1 rvs
     exact⟨a,vs,rfl,SqL.of hv,q1,q2⟩
   | _=>cases e2
def tyD (d:D) (h:Hh):Option String:=match d with
 | .non=>some "NoneType"
 | .bl _=>some "bool"
 | .int _=>some "int"
 | .str _=>some "str"
 | .tup _=>some "tuple"
 | .lst n=>(match h[n]? with
  | some (.lst _)=>some "list"
  | some (.dct _)=>some "dict"
  | none=>none)
 | .ro _=>none
def isiB (t T:String):Bool:=t==T||(t=="bool"&&T=="int")
def oIsi (T:String):O1:=fun d h=>(tyD d h).map fun t=>(.bl (isiB t T),h)
def KitT (T:String):Prop:=∀ K:PySem.W.Frag,∀ t∈["NoneType","bool","int","str","tuple","list","dict"],PySem.W.kitOne K (.type t) (.type T)=some (isiB t T)
theorem tyD_of {K:PySem.W.Frag}{as:List Addr}{H:Hp}{h:Hh}{d:D}{v:V}{t:String} (rh:RelH K as H h) (r:RelD K as H d v) (e:tyD d h=some t):TyOf K H v (.type t)/\t∈["NoneType","bool","int","str","tuple","list","dict"]:=by
 cases r with
 | non=>cases e; exact⟨.non,by decide⟩
 | bl b=>cases e; exact⟨.bl b,by decide⟩
 | int i=>cases e; exact⟨.int i,by decide⟩
 | str x=>cases e; exact⟨.str x,by decide⟩
 | tup' h1 h2 h3=>cases e; exact⟨.tup h1,by decide⟩
 | @lst n a ha=>
  unfold tyD at e
  dsimp only at e
  cases q:h[n]? with
  | none=>rw [q] at e; cases e
  | some o=>
   rw [q] at e
   cases o with
   | lst ds=>
    cases e
    obtain⟨vs,hv,_⟩:=rh.obj n a _ ha q
    exact⟨.lst hv,by decide⟩
   | dct kvs=>
    cases e
    obtain⟨vs,hv,_⟩:=rh.obj n a _ ha q
    exact⟨.dK hv,by decide⟩
 | ro h=>cases e
theorem call_isi {X:Cx}{T:String} (kt:KitT T):CallR X (.builtin "isinstance") (fun xs H Q=>∃ v t,xs=[v,.ty T]/\TyOf X.K H v (.type t)/\t∈["NoneType","bool","int","str","tuple","list","dict"]/\Q (.bl (isiB t T)) H):=by
 intro pins s σ H xs us Q I r h
 obtain⟨v,t,rfl,ty,ht,q⟩:=h
 obtain⟨u,c,rfl,ru,rc⟩:=vals2 r
 cases rc
 exact isinst_ok I ru ty (kt X.K t ht) fun tk=>⟨.bl _,H,I.tok tk,rfl,q⟩
theorem boot_isinstance:bootBuiltins "isinstance"=some (.builtin "isinstance"):=by decide +kernel
theorem de_isi {X:Cx}{x:Str}{T:String}{e:Expr}{f:FE}{p pT pos:Pos} (kt:KitT T) (hbT:bootBuiltins x=some (.type T)) (hm:X.mg "isinstance"=none) (hmT:X.mg x=none) (ha:DE X e f) (hg:Gl X "isinstance":=by rfl) (hgT:Gl X x:=by rfl)
  (hn:x≠"__name__":=by decide) (hd:(x==("__debug__":Str))=false:=by decide)
  (hs1:starEach [e,.Name x pT] X.env=(false,eval e X.env)::starEach [.Name x pT] X.env:=by rfl) (hs2:starEach [.Name x pT] X.env=(false,eval (.Name x pT) X.env)::starEach [] X.env:=by rfl)
  (hpl:(backTo pos (starEach [.Name x pT] X.env)).any (·.1)=false:=by rfl):
  DE X (.Call (.Name "isinstance" p) [e,.Name x pT] [] pos) (f1 (oIsi T) f):=
 peOf (pe_callB (call_isi kt) hg hm boot_isinstance (pa_cons ha (pa_cons (pe_bltn (v:=.ty T) hgT hmT hbT rfl hn hd) pa_nil hs2) hs1) (by decide) (by decide) hs1 hpl) fun σ H Q ⟨as,env,h,re,rh,p⟩=>⟨as,env,h,re,rh,(PX.bind p).imp fun as1 H1 h1 d e1 rh1 p1 v rv=>by
  cases q:tyD d h1 with
  | none=>unfold oIsi at p1; rw [q] at p1; exact p1.elim
  | some t=>
   unfold oIsi at p1
   rw [q] at p1
   obtain⟨ty,ht⟩:=tyD_of rh1 rv q
   exact⟨v,t,rfl,ty,ht,p1 as1 H1 (Ext.refl _ _) rh1 _ (.bl _)⟩⟩
theorem kit_int:KitT "int":=fun K t ht=>by
 simp only [List.mem_cons,List.not_mem_nil,or_false] at ht
 rcases ht with rfl | rfl | rfl | rfl | rfl | rfl | rfl<;>kernel_rfl
theorem kit_bool:KitT "bool":=fun K t ht=>by
 simp only [List.mem_cons,List.not_mem_nil,or_false] at ht
 rcases ht with rfl | rfl | rfl | rfl | rfl | rfl | rfl<;>kernel_rfl
theorem kit_str:KitT "str":=fun K t ht=>by
 simp only [List.mem_cons,List.not_mem_nil,or_false] at ht
 rcases ht with rfl | rfl | rfl | rfl | rfl | rfl | rfl<;>kernel_rfl
theorem kit_tuple:KitT "tuple":=fun K t ht=>by
 simp only [List.mem_cons,List.not_mem_nil,or_false] at ht
 rcases ht with rfl | rfl | rfl | rfl | rfl | rfl | rfl<;>kernel_rfl
def eqL (f:D->D->Option Bool):List D->List D->Option Bool
 | [],[]=>some true
 | x::xs,y::ys=>match f x y,eqL f xs ys with
  | some a,some b=>some (a&&b)
  | _,_=>none
 | _,_=>some false
def eqD:Nat->Hh->D->D->Option Bool
 | 0,_,_,_=>none
 | n+1,h,.tup xs,.tup ys=>eqL (eqD n h) xs ys
 | n+1,h,.lst a,.lst b=>match itemsAt h a,itemsAt h b with
  | some xs,some ys=>eqL (eqD n h) xs ys
  | _,_=>none
 | _+1,_,.non,.non=>some true
 | _+1,_,.bl a,.bl b=>some (a==b)
 | _+1,_,.int a,.int b=>some (a==b)
 | _+1,_,.str a,.str b=>some (a==b)
 | _+1,_,.int _,.str _=>some false
 | _+1,_,.str _,.int _=>some false
 | _+1,_,.non,.int _=>some false
 | _+1,_,.int _,.non=>some false
 | _+1,_,.non,.str _=>some false
 | _+1,_,.str _,.non=>some false
 | _,_,_,_=>none
theorem eqL_spec {f:D->D->Option Bool}:∀ {xs ys:List D}{b:Bool},eqL f xs ys=some b->∃ e:Nat->Bool,(∀ (j:Nat) x y,xs[j]?=some x->ys[j]?=some y->f x y=some (e j))/\b=((List.range (min xs.length ys.length)).all e&&xs.length==ys.length)
 | [],[],b,q=>by cases q; exact⟨fun _=>true,fun j x y h=>by simp at h,by simp⟩
 | [],y::ys,b,q=>by cases q; exact⟨fun _=>true,fun j x y h=>by simp at h,by simp⟩
 | x::xs,[],b,q=>by cases q; exact⟨fun _=>true,fun j x y _ h=>by simp at h,by simp⟩
 | x::xs,y::ys,b,q=>by
  unfold eqL at q
  cases e1:f x y with
  | none=>rw [e1] at q; cases q
  | some a=>
   cases e2:eqL f xs ys with
   | none=>rw [e1,e2] at q; cases q
   | some c=>
    rw [e1,e2] at q
    cases q
    obtain⟨e,h1,h2⟩:=eqL_spec e2
    refine⟨fun j=>match j with | 0=>a | j+1=>e j,fun j x' y' hx hy=>?_,?_⟩
    ·cases j with
     | zero=>
      simp only [List.getElem?_cons_zero,Option.some.injEq] at hx hy
      subst hx hy
      exact e1
     | succ j=>
      simp only [List.getElem?_cons_succ] at hx hy
      exact h1 j x' y' hx hy
    ·rw [h2]
     simp only [List.length_cons]
     have e3:min (xs.length+1) (ys.length+1)=min xs.length ys.length+1:=by omega
     rw [e3,List.range_succ_eq_map,List.all_cons,List.all_map]
     have e4:(xs.length+1==ys.length+1)=(xs.length==ys.length):=by
      rw [Bool.eq_iff_iff]; simp
     rw [e4,Bool.and_assoc]
     rfl
theorem eqL_true {f:D->D->Option Bool}{xs ys:List D}{b:Bool} (q:eqL f xs ys=some b) (hl:xs.length=ys.length) (h:∀ (j:Nat) x y c,xs[j]?=some x->ys[j]?=some y->f x y=some c->c=true):b=true:=by
 obtain⟨e,h1,h2⟩:=eqL_spec q
 rw [h2,hl,Nat.min_self,beq_self_eq_true,Bool.and_true,List.all_eq_true]
 intro j hj
 have hj':=List.mem_range.mp hj
 exact h j _ _ _ (List.getElem?_eq_getElem (by omega)) (List.getElem?_eq_getElem hj') (h1 j _ _ (List.getElem?_eq_getElem (by omega)) (List.getElem?_eq_getElem hj'))
theorem eqD_same {K:PySem.W.Frag}{as:List Addr}{H:Hp}{h:Hh} (rh:RelH K as H h):∀ (n:Nat) (x y:D) (v:V) (b:Bool),eqD n h x y=some b->RelD K as H x v->RelD K as H y v->b=true
 | 0,_,_,_,_,q,_,_=>nomatch q
 | n+1,x,y,v,b,q,rx,ry=>by
  cases rx with
  | non=>cases ry; cases q; rfl
  | bl c=>cases ry; cases q; exact beq_self_eq_true c
  | int c=>cases ry; cases q; exact beq_self_eq_true c
  | str c=>cases ry; cases q; exact beq_self_eq_true c
  | @tup' xs vs a h1 h2 h3=>
   cases ry with
   | @tup' ys ws _ k1 k2 k3=>
    rw [h1] at k1
    cases k1
    refine eqL_true (show eqL (eqD n h) xs ys=some b from q) (h2.trans k2.symm) fun j x y c hx hy hc=>?_
    have hj:j < vs.length:=by rw [<-h2]; exact (List.getElem?_eq_some_iff.mp hx).1
    exact eqD_same rh n x y vs[j] c hc (h3 j x _ hx (List.getElem?_eq_getElem hj)) (k3 j y _ hy (List.getElem?_eq_getElem hj))
   | lst _=>exact nomatch q
   | ro _=>exact nomatch q
  | @lst i a ha=>
   cases ry with
   | tup' _ _ _=>exact nomatch q
   | ro _=>exact nomatch q
   | @lst j _ hb=>
    have hij:i=j:=by
     obtain⟨h1,e1⟩:=List.getElem?_eq_some_iff.mp ha
     obtain⟨h2,e2⟩:=List.getElem?_eq_some_iff.mp hb
     exact (List.getElem_inj rh.nd).mp (e1.trans e2.symm)
    subst hij
    unfold eqD at q
    cases e:itemsAt h i with
    | none=>rw [e] at q; cases q
    | some xs=>
     rw [e] at q
     obtain⟨vs,hv,rvs⟩:=rh.obj i a _ ha (of_itemsAt e)
     refine eqL_true (show eqL (eqD n h) xs xs=some b from q) rfl fun j x y c hx hy hc=>?_
     rw [hx] at hy
     cases hy
     obtain⟨u,hu,ru⟩:=Pd.get rvs hx
     exact eqD_same rh n x x u c hc ru ru
  | ro _=>unfold eqD at q; cases y<;>exact nomatch q
theorem eqAt_D {X:Cx}{pins:List (Addr×Obj)}{σ:St}{H:Hp}{s:Shared}{as:List Addr}{h:Hh} (I:Inv X pins σ H s) (rh:RelH X.K as H h):
  ∀ (n:Nat) (A:Around) (x y:D) (v u:V) (vv uu:Value) (b:Bool),A.units+n < cLine->eqD n h x y=some b->RelD X.K as H x v->RelD X.K as H y u->RelV v vv->RelV u uu->SeqAt.EqAt A s vv uu b
 | 0,_,_,_,_,_,_,_,_,_,q,_,_,_,_=>nomatch q
 | n+1,A,x,y,v,u,vv,uu,b,hu,q,rx,ry,rv,ru=>by
  have hA:A.units < cLine:=by omega
  have hA1:A.in1.units+n < cLine:=by
   show A.units+1+n < cLine
   omega
  have pairs:∀ (xs ys:List D) (vs us:List V) (its its2:List Value) (e:Nat->Bool),RelDs X.K as H xs vs->RelDs X.K as H ys us->Vals vs its->Vals us its2->(∀ (j:Nat) x y,xs[j]?=some x->ys[j]?=some y->eqD n h x y=some (e j))->
    ∀ j (h1:j < its.toArray.size) (h2:j < its2.toArray.size),SeqAt.EqAt A.in1 s its.toArray[j] its2.toArray[j] (e j):=by
   intro xs ys vs us its its2 e r1 r2 v1 v2 he j h1 h2
   rw [List.size_toArray] at h1 h2
   have hx:j < xs.length:=by rw [r1.length,v1.length]; exact h1
   have hy:j < ys.length:=by rw [r2.length,v2.length]; exact h2
   obtain⟨v,hv,rv⟩:=Pd.get r1 (List.getElem?_eq_getElem hx)
   obtain⟨u,hu,ru⟩:=Pd.get r2 (List.getElem?_eq_getElem hy)
   obtain⟨vv,hvv,rvv⟩:=v1.get hv
   obtain⟨uu,huu,ruu⟩:=v2.get hu
   have e1:its.toArray[j]=vv:=by
    rw [List.getElem?_eq_getElem h1] at hvv
    exact Option.some.inj hvv
   have e2:its2.toArray[j]=uu:=by
    rw [List.getElem?_eq_getElem h2] at huu
    exact Option.some.inj huu
   rw [e1,e2]
   exact eqAt_D I rh n A.in1 _ _ v u vv uu (e j) hA1 (he j _ _ (List.getElem?_eq_getElem hx) (List.getElem?_eq_getElem hy)) rv ru rvv ruu
  have flat:∀ (v u:V) (vv uu:Value),flatV v=true->flatV u=true->RelV v vv->RelV u uu->SeqAt.EqAt A s vv uu (eqV v u):=fun v u vv uu f1 f2 r1 r2=>eqAt_V r1 r2 f1 f2
  cases rx with
  | non=>
   cases ry with
   | non=>cases q; exact flat _ _ _ _ rfl rfl rv ru
   | int i=>cases q; exact flat _ _ _ _ rfl rfl rv ru
   | str z=>cases q; exact flat _ _ _ _ rfl rfl rv ru
   | _=>exact nomatch q
  | bl c=>
   cases ry with
   | bl d=>cases q; exact flat _ _ _ _ rfl rfl rv ru
   | _=>exact nomatch q
  | int c=>
   cases ry with
   | non=>cases q; exact flat _ _ _ _ rfl rfl rv ru
   | int d=>cases q; exact flat _ _ _ _ rfl rfl rv ru
   | str d=>cases q; exact flat _ _ _ _ rfl rfl rv ru
   | _=>exact nomatch q
  | str c=>
   cases ry with
   | non=>cases q; exact flat _ _ _ _ rfl rfl rv ru
   | int d=>cases q; exact flat _ _ _ _ rfl rfl rv ru
   | str d=>cases q; exact flat _ _ _ _ rfl rfl rv ru
   | _=>exact nomatch q
  | @tup' xs vs a h1 h2 h3=>
   cases ry with
   | @tup' ys us c k1 k2 k3=>
    cases rv
    cases ru
    by_cases hac:a=c
    ·subst hac
     rw [eqD_same rh (n+1) _ _ (.ref a) b q (.tup' h1 h2 h3) (.tup' k1 k2 k3)]
     exact SeqAt.EqAt.same _
    ·obtain⟨its,v1,p1,_⟩:=I.tuple (SqT.of h1)
     obtain⟨its2,v2,p2,_⟩:=I.tuple (SqT.of k1)
     obtain⟨e,he,hb⟩:=eqL_spec (show eqL (eqD n h) xs ys=some b from q)
     have r1:RelDs X.K as H xs vs:=Pd.of_get h2 h3
     have r2:RelDs X.K as H ys us:=Pd.of_get k2 k3
     have hr:=SeqAt.RcAt.tuples (A:=A) (e:=e) p1 p2 hA (pairs xs ys vs us its its2 e r1 r2 v1 v2 he)
     rw [hb,r1.length,r2.length,v1.length,v2.length]
     rw [List.size_toArray,List.size_toArray] at hr
     exact SeqAt.EqAt.of_refs hac hr
   | lst _=>exact nomatch q
   | ro _=>exact nomatch q
   | _=>exact nomatch q
  | @lst i a ha=>
   cases ry with
   | @lst j c hc=>
    cases rv
    cases ru
    by_cases hac:a=c
    ·subst hac
     rw [eqD_same rh (n+1) _ _ (.ref a) b q (.lst ha) (.lst hc)]
     exact SeqAt.EqAt.same _
    ·unfold eqD at q
     cases e1:itemsAt h i with
     | none=>rw [e1] at q; cases q
     | some xs=>
      cases e2:itemsAt h j with
      | none=>rw [e1,e2] at q; cases q
      | some ys=>
       rw [e1,e2] at q
       obtain⟨vs,hv,r1⟩:=rh.obj i a _ ha (of_itemsAt e1)
       obtain⟨us,hu',r2⟩:=rh.obj j c _ hc (of_itemsAt e2)
       obtain⟨its,v1,p1,_⟩:=I.list (SqL.of hv)
       obtain⟨its2,v2,p2,_⟩:=I.list (SqL.of hu')
       obtain⟨e,he,hb⟩:=eqL_spec (show eqL (eqD n h) xs ys=some b from q)
       have l1:xs.length=its.toArray.size:=by rw [List.size_toArray,r1.length,v1.length]
       have l2:ys.length=its2.toArray.size:=by rw [List.size_toArray,r2.length,v2.length]
       by_cases hl:its.toArray.size=its2.toArray.size
       ·have hr:=SeqAt.RcAt.lists (A:=A) (e:=e) p1.isList p2.isList hl hA (pairs xs ys vs us its its2 e r1 r2 v1 v2 he)
        rw [hb,l1,l2,hl,Nat.min_self,beq_self_eq_true,Bool.and_true]
        rw [hl] at hr
        exact SeqAt.EqAt.of_refs hac hr
       ·have hr:=SeqAt.RcAt.lists_lengths (A:=A) p1.isList p2.isList (by simpa using hl) hA
        have:(xs.length==ys.length)=false:=by rw [l1,l2]; simpa using hl
        rw [hb,this,Bool.and_false]
        exact SeqAt.EqAt.of_refs hac hr
   | _=>exact nomatch q
  | ro _=>unfold eqD at q; cases y<;>exact nomatch q
def rEqD (K:PySem.W.Frag) (n:Nat) (neg:Bool):R2:=fun v u H Q=>∃ as h x y b,RelH K as H h/\RelD K as H x v/\RelD K as H y u/\eqD n h x y=some b/\Q (.bl (if neg then !b else b)) H
theorem eq_parts {X:Cx}{pins:List (Addr×Obj)}{σ:St}{H:Hp}{s:Shared}{as:List Addr}{h:Hh}{n:Nat}{A:Around}{xs ys:List D}{vs us:List V}{its its2:List Value}{e:Nat->Bool} (I:Inv X pins σ H s) (rh:RelH X.K as H h) (hA1:A.units+(n+1) < cLine)
  (r1:RelDs X.K as H xs vs) (r2:RelDs X.K as H ys us) (v1:Vals vs its) (v2:Vals us its2) (he:∀ (j:Nat) x y,xs[j]?=some x->ys[j]?=some y->eqD n h x y=some (e j)):
  ∀ j (h1:j < its.toArray.size) (h2:j < its2.toArray.size),SeqAt.EqAt A.in1 s its.toArray[j] its2.toArray[j] (e j):=by
 intro j h1 h2
 rw [List.size_toArray] at h1 h2
 have hx:j < xs.length:=by rw [r1.length,v1.length]; exact h1
 have hy:j < ys.length:=by rw [r2.length,v2.length]; exact h2
 obtain⟨v,hv,rv⟩:=Pd.get r1 (List.getElem?_eq_getElem hx)
 obtain⟨u,hu,ru⟩:=Pd.get r2 (List.getElem?_eq_getElem hy)
 obtain⟨vv,hvv,rvv⟩:=v1.get hv
 obtain⟨uu,huu,ruu⟩:=v2.get hu
 have e1:its.toArray[j]=vv:=by
  rw [List.getElem?_eq_getElem h1] at hvv
  exact Option.some.inj hvv
 have e2:its2.toArray[j]=uu:=by
  rw [List.getElem?_eq_getElem h2] at huu
  exact Option.some.inj huu
 rw [e1,e2]
 exact eqAt_D I rh n A.in1 _ _ v u vv uu (e j) (by show A.units+1+n < cLine; omega) (he j _ _ (List.getElem?_eq_getElem hx) (List.getElem?_eq_getElem hy)) rv ru rvv ruu
theorem eqD_scal {n:Nat}{h:Hh}{x y:D}{b:Bool}{K:PySem.W.Frag}{as:List Addr}{H:Hp}{v u:V} (q:eqD (n+1) h x y=some b) (rx:RelD K as H x v) (ry:RelD K as H y u):
  (scal v u=true/\decide (v=u)=b)\/(∃ xs ys,x=.tup xs/\y=.tup ys)\/(∃ i j,x=.lst i/\y=.lst j):=by
 cases rx with
 | non=>
  cases ry with
  | non=>cases q; exact .inl ⟨rfl,rfl⟩
  | int i=>cases q; exact .inl ⟨rfl,rfl⟩
  | str z=>cases q; exact .inl ⟨rfl,rfl⟩
  | _=>exact nomatch q
 | bl c=>
  cases ry with
  | bl d=>cases q; exact .inl ⟨rfl,dec_bl⟩
  | _=>exact nomatch q
 | int c=>
  cases ry with
  | non=>cases q; exact .inl ⟨rfl,rfl⟩
  | int d=>cases q; exact .inl ⟨rfl,dec_int⟩
  | str d=>cases q; exact .inl ⟨rfl,rfl⟩
  | _=>exact nomatch q
 | str c=>
  cases ry with
  | non=>cases q; exact .inl ⟨rfl,rfl⟩
  | int d=>cases q; exact .inl ⟨rfl,rfl⟩
  | str d=>cases q; exact .inl ⟨rfl,dec_str⟩
  | _=>exact nomatch q
 | tup' _ _ _=>
  cases ry with
  | tup' _ _ _=>exact .inr (.inl ⟨_,_,rfl,rfl⟩)
  | _=>exact nomatch q
 | lst _=>
  cases ry with
  | lst _=>exact .inr (.inr ⟨_,_,rfl,rfl⟩)
  | _=>exact nomatch q
 | ro _=>unfold eqD at q; cases y<;>exact nomatch q
theorem op_eqD {X:Cx}{n:Nat} (hu:X.A.units+(n+1) < cLine):OpR X (compareOp .Eq) (rEqD X.K (n+1) false):=by
 intro pins s σ H v u vv uu Q I rv ru q
 obtain⟨as,h,x,y,b,rh,rx,ry,hb,q⟩:=q
 have hA:X.A.units < cLine:=by omega
 rcases eqD_scal hb rx ry with⟨h1,h2⟩ | ⟨xs,ys,rfl,rfl⟩ | ⟨i,j,rfl,rfl⟩
 ·exact op_eq pins s σ H v u vv uu Q I rv ru ⟨h1,by rw [h2]; exact q⟩
 ·obtain⟨a,vs,rfl,ha,r1⟩:=rx.tup_inv
  obtain⟨c,us,rfl,hc,r2⟩:=ry.tup_inv
  cases rv
  cases ru
  obtain⟨its,v1,p1,_⟩:=I.tuple (SqT.of ha)
  obtain⟨its2,v2,p2,_⟩:=I.tuple (SqT.of hc)
  obtain⟨e,he,hb'⟩:=eqL_spec (show eqL (eqD n h) xs ys=some b from hb)
  refine SeqAt.eq_tupleAt (e:=e) p1 p2 hA (eq_parts I rh hu r1 r2 v1 v2 he) ?_
  rw [List.size_toArray,List.size_toArray,<-v1.length,<-v2.length,<-r1.length,<-r2.length,<-hb']
  exact⟨.bl b,H,I,rfl,q⟩
 ·cases rx with
  | @lst _ a ha=>
   cases ry with
   | @lst _ c hc=>
    cases rv
    cases ru
    unfold eqD at hb
    cases e1:itemsAt h i with
    | none=>rw [e1] at hb; cases hb
    | some xs=>
     cases e2:itemsAt h j with
     | none=>rw [e1,e2] at hb; cases hb
     | some ys=>
      rw [e1,e2] at hb
      obtain⟨vs,hv,r1⟩:=rh.obj i a _ ha (of_itemsAt e1)
      obtain⟨us,hu',r2⟩:=rh.obj j c _ hc (of_itemsAt e2)
      obtain⟨its,v1,p1,_⟩:=I.list (SqL.of hv)
      obtain⟨its2,v2,p2,_⟩:=I.list (SqL.of hu')
      obtain⟨e,he,hb'⟩:=eqL_spec (show eqL (eqD n h) xs ys=some b from hb)
      have l1:its.toArray.size=xs.length:=by rw [List.size_toArray,r1.length,v1.length]
      have l2:its2.toArray.size=ys.length:=by rw [List.size_toArray,r2.length,v2.length]
      by_cases hl:xs.length=ys.length
      ·refine SeqAt.eq_listAt (e:=e) p1.isList p2.isList (by rw [l1,l2,hl]) hA (eq_parts I rh hu r1 r2 v1 v2 he) ?_
       have:(List.range its.toArray.size).all e=b:=by rw [hb',l1,hl,Nat.min_self,beq_self_eq_true,Bool.and_true]
       rw [this]
       exact⟨.bl b,H,I,rfl,q⟩
      ·refine SeqAt.eq_list_lengthsAt p1.isList p2.isList (by rw [l1,l2]; simpa using hl) hA ?_
       have:b=false:=by rw [hb',show (xs.length==ys.length)=false by simpa using hl,Bool.and_false]
       subst this
       exact⟨.bl false,H,I,rfl,q⟩
theorem op_neD {X:Cx}{n:Nat} (hu:X.A.units+(n+1) < cLine):OpR X (compareOp .NotEq) (rEqD X.K (n+1) true):=by
 intro pins s σ H v u vv uu Q I rv ru q
 obtain⟨as,h,x,y,b,rh,rx,ry,hb,q⟩:=q
 have hA:X.A.units < cLine:=by omega
 rcases eqD_scal hb rx ry with⟨h1,h2⟩ | ⟨xs,ys,rfl,rfl⟩ | ⟨i,j,rfl,rfl⟩
 ·exact op_ne pins s σ H v u vv uu Q I rv ru ⟨h1,by rw [h2]; exact q⟩
 ·obtain⟨a,vs,rfl,ha,r1⟩:=rx.tup_inv
  obtain⟨c,us,rfl,hc,r2⟩:=ry.tup_inv
  cases rv
  cases ru
  obtain⟨its,v1,p1,_⟩:=I.tuple (SqT.of ha)
  obtain⟨its2,v2,p2,_⟩:=I.tuple (SqT.of hc)
  obtain⟨e,he,hb'⟩:=eqL_spec (show eqL (eqD n h) xs ys=some b from hb)
  refine SeqAt.RcNeAt.tuples (e:=e) p1 p2 hA (eq_parts I rh hu r1 r2 v1 v2 he) _ _ _ _ ?_
  rw [List.size_toArray,List.size_toArray,<-v1.length,<-v2.length,<-r1.length,<-r2.length,<-hb']
  exact⟨.bl (!b),H,I,rfl,q⟩
 ·cases rx with
  | @lst _ a ha=>
   cases ry with
   | @lst _ c hc=>
    cases rv
    cases ru
    unfold eqD at hb
    cases e1:itemsAt h i with
    | none=>rw [e1] at hb; cases hb
    | some xs=>
     cases e2:itemsAt h j with
     | none=>rw [e1,e2] at hb; cases hb
     | some ys=>
      rw [e1,e2] at hb
      obtain⟨vs,hv,r1⟩:=rh.obj i a _ ha (of_itemsAt e1)
      obtain⟨us,hu',r2⟩:=rh.obj j c _ hc (of_itemsAt e2)
      obtain⟨its,v1,p1,_⟩:=I.list (SqL.of hv)
      obtain⟨its2,v2,p2,_⟩:=I.list (SqL.of hu')
      obtain⟨e,he,hb'⟩:=eqL_spec (show eqL (eqD n h) xs ys=some b from hb)
      have l1:its.toArray.size=xs.length:=by rw [List.size_toArray,r1.length,v1.length]
      have l2:its2.toArray.size=ys.length:=by rw [List.size_toArray,r2.length,v2.length]
      by_cases hl:xs.length=ys.length
      ·refine SeqAt.RcNeAt.lists (e:=e) p1.isList p2.isList (by rw [l1,l2,hl]) hA (eq_parts I rh hu r1 r2 v1 v2 he) _ _ _ _ ?_
       have:(List.range its.toArray.size).all e=b:=by rw [hb',l1,hl,Nat.min_self,beq_self_eq_true,Bool.and_true]
       rw [this]
       exact⟨.bl (!b),H,I,rfl,q⟩
      ·refine SeqAt.RcNeAt.lists_lengths p1.isList p2.isList (by rw [l1,l2]; simpa using hl) hA _ _ _ _ ?_
       have:b=false:=by rw [hb',show (xs.length==ys.length)=false by simpa using hl,Bool.and_false]
       subst this
       exact⟨.bl true,H,I,rfl,q⟩
def oEq:O2:=fun x y h=>(eqD 24 h x y).map fun b=>(.bl b,h)
def oNe:O2:=fun x y h=>(eqD 24 h x y).map fun b=>(.bl (!b),h)
@[simp] theorem oEq_int (i j:Int) (h:Hh):oEq (.int i) (.int j) h=some (.bl (i==j),h):=rfl
@[simp] theorem oNe_int (i j:Int) (h:Hh):oNe (.int i) (.int j) h=some (.bl (!(i==j)),h):=rfl
@[simp] theorem oEq_str (i j:Str) (h:Hh):oEq (.str i) (.str j) h=some (.bl (i==j),h):=rfl
@[simp] theorem oNe_bl (i j:Bool) (h:Hh):oNe (.bl i) (.bl j) h=some (.bl (!(i==j)),h):=rfl
@[simp] theorem oEq_bl (i j:Bool) (h:Hh):oEq (.bl i) (.bl j) h=some (.bl (i==j),h):=rfl
theorem im_eq {K:PySem.W.Frag}:Im2 K (rEqD K 24 false) oEq:=by
 intro as H h x y v u Q rh rx ry p
 unfold oEq at p
 cases e:eqD 24 h x y with
 | none=>rw [e] at p; exact p.elim
 | some b=>
  rw [e] at p
  exact⟨as,h,x,y,b,rh,rx,ry,e,p as H _ (Ext.refl _ _) rh (.bl b)⟩
theorem im_ne {K:PySem.W.Frag}:Im2 K (rEqD K 24 true) oNe:=by
 intro as H h x y v u Q rh rx ry p
 unfold oNe at p
 cases e:eqD 24 h x y with
 | none=>rw [e] at p; exact p.elim
 | some b=>
  rw [e] at p
  exact⟨as,h,x,y,b,rh,rx,ry,e,p as H _ (Ext.refl _ _) rh (.bl (!b))⟩
section
variable {X:Cx}{a b:Expr}{f g:FE}{pos:Pos}{k:Nat}
theorem room24 (hr:Room k X.A):X.A.units+(23+1) < cLine:=by
 have:=hr.un
 omega
theorem de_eq (hr:Room k X.A) (ha:DE X a f) (hb:DE X b g):DE X (.Compare a [.Eq] [b] pos) (f2 oEq f g):=de_cmp (op_eqD (room24 hr)) im_eq (nomark _) ha hb
theorem dt_eq (hr:Room k X.A) (ha:DE X a f) (hb:DE X b g):DT X (.Compare a [.Eq] [b] pos) (fB (f2 oEq f g)):=dt_cmp (op_eqD (room24 hr)) im_eq (nomark _) ha hb
theorem de_ne (hr:Room k X.A) (ha:DE X a f) (hb:DE X b g):DE X (.Compare a [.NotEq] [b] pos) (f2 oNe f g):=de_cmp (op_neD (room24 hr)) im_ne (nomark _) ha hb
theorem dt_ne (hr:Room k X.A) (ha:DE X a f) (hb:DE X b g):DT X (.Compare a [.NotEq] [b] pos) (fB (f2 oNe f g)):=dt_cmp (op_neD (room24 hr)) im_ne (nomark _) ha hb
end
theorem bt_int:bootBuiltins "int"=some (.type "int"):=by decide +kernel
theorem bt_bool:bootBuiltins "bool"=some (.type "bool"):=by decide +kernel
theorem bt_str:bootBuiltins "str"=some (.type "str"):=by decide +kernel
theorem bt_tuple:bootBuiltins "tuple"=some (.type "tuple"):=by decide +kernel
structure Bu (mg:Str->Option Value):Prop where
 len:mg "len"=none
 sum:mg "sum"=none
 min:mg "min"=none
 max:mg "max"=none
 range:mg "range"=none
 tuple:mg "tuple"=none
 list:mg "list"=none
 int:mg "int"=none
 str:mg "str"=none
 bool:mg "bool"=none
 isinstance:mg "isinstance"=none
def Cal (P:Program) (w:World) (K:PySem.W.Frag) (mg:Str->Option Value) (base:Heap) (k:Nat) (x:Str) (ps:List Str) (g:OC):Prop:=
 ∃ f fd,FnOk P w K mg base CX0 k f fd ps (spD K ps.length g)/\mg x=some (.ref f)/\PySem.W.keepIn K (.ref f)=true/\Binds K fd ps []
theorem Cal.mono {P:Program}{w:World}{K:PySem.W.Frag}{mg:Str->Option Value}{base:Heap}{k k':Nat}{x:Str}{ps:List Str}{g:OC} (c:Cal P w K mg base k x ps g) (h:k<=k'):Cal P w K mg base k' x ps g:=by
 obtain⟨f,fd,G,r⟩:=c
 exact⟨f,fd,G.mono h,r⟩
theorem Cal.pure {P:Program}{w:World}{K:PySem.W.Frag}{mg:Str->Option Value}{base:Heap}{k:Nat}{x:Str}{ps:List Str}{g:OC}{m:List D->Option D} (c:Cal P w K mg base k x ps g) (hm:∀ ds h d,m ds=some d->∃ junk,g ds h=some (d,h++junk)) (hb:∀ ds d,m ds=some d->HB 0 d):Cal P w K mg base k x ps (pureF m):=by
 obtain⟨f,fd,G,r⟩:=c
 exact⟨f,fd,fn_pure G hm hb,r⟩
theorem de_cal {X:Cx}{k:Nat}{ps:List Str}{x:Str}{p pos:Pos}{e:Expr}{es:List Expr}{fs:List FE}{g:OC} (c:Cal X.prog X.w X.K X.mg X.base k x ps g) (hr:Room k X.A) (ha:DA X (e::es) (fAll fs)) (hg:Gl X x:=by rfl) (hl:fs.length=ps.length:=by rfl)
  (hdb:(x==("__debug__":Str))=false:=by decide) (he:starEach (e::es) X.env=(false,eval e X.env)::starEach es X.env:=by rfl) (hpl:(backTo pos (starEach es X.env)).any (·.1)=false:=by rfl):
  DE X (.Call (.Name x p) (e::es) [] pos) (fc g (fAll fs)):=by
 obtain⟨f,fd,G,hm,hk,hb⟩:=c
 exact de_call G hr hm hk hb ha hg hl hdb he hpl
theorem cal_mk {P:Program}{w:World}{K:PySem.W.Frag}{mg:Str->Option Value}{base:Heap}{x qual:Str}{st:Stmt}{f:Addr}{fd:FuncData}{N ps:List Str}{k:Nat}{t:FS} (F:Fun K x qual st f fd) (S:FnScope N ps (defScope st)) (hm:mg x=some (.ref f)) (b:Binds K fd ps [])
  (hb:∀ (cdv:Value) (A:Around) (outer:List Env) (s:Shared) (H:Hp) (E:XK),Room k (A.deeper (envOfC qual (defScope st) s.heap.objs.size f cdv))->
   DSs (cxOf CX0 P w K mg base N qual (defScope st) f cdv A outer s H E).nox (defBody st) t):Cal P w K mg base (k+1) x ps (fnRun N.length t):=⟨f,fd,fn_D F S hb,hm,F.kp,b⟩
theorem fSeq_nx {s t:FS}{e e1:En}{h h1:Hh} (q:s e h=.nx e1 h1):fSeq s t e h=t e1 h1:=by unfold fSeq; rw [q]
theorem fSeq_rt {s t:FS}{e:En}{h h1:Hh}{d:D} (q:s e h=.rt d h1):fSeq s t e h=.rt d h1:=by unfold fSeq; rw [q]
theorem fSet_ok {i:Nat}{f:FE}{e:En}{h h1:Hh}{d:D} (q:f e h=.ok d h1):fSet i f e h=.nx (e.set i (some d)) h1:=by unfold fSet; rw [q]; rfl
theorem fRet_ok {f:FE}{e:En}{h h1:Hh}{d:D} (q:f e h=.ok d h1):fRet f e h=.rt d h1:=by unfold fRet; rw [q]; rfl
theorem fDrop_ok {f:FE}{e:En}{h h1:Hh}{d:D} (q:f e h=.ok d h1):fDrop f e h=.nx e h1:=by unfold fDrop; rw [q]; rfl
theorem fIfS_t {c:FT}{s t:FS}{e:En}{h h1:Hh} (q:c e h=.ok true h1):fIfS c s t e h=s e h1:=by unfold fIfS; rw [q]; rfl
theorem fIfS_f {c:FT}{s t:FS}{e:En}{h h1:Hh} (q:c e h=.ok false h1):fIfS c s t e h=t e h1:=by unfold fIfS; rw [q]; rfl
theorem f2_ok {r:O2}{f g:FE}{e:En}{h h1 h2:Hh}{x y:D} (q:f e h=.ok x h1) (q2:g e h1=.ok y h2):f2 r f g e h=Res.ofO (r x y h2):=by
 unfold f2; rw [q,Res.bind_ok,q2,Res.bind_ok]
theorem fc_ok {r:OC}{f:FA}{e:En}{h h1:Hh}{ds:List D} (q:f e h=.ok ds h1):fc r f e h=Res.ofO (r ds h1):=by unfold fc; rw [q]; rfl
theorem fAll_nil (e:En) (h:Hh):fAll [] e h=.ok [] h:=rfl
theorem fAll_cons {f:FE}{fs:List FE}{e:En}{h h1 h2:Hh}{d:D}{ds:List D} (q:f e h=.ok d h1) (q2:fAll fs e h1=.ok ds h2):fAll (f::fs) e h=.ok (d::ds) h2:=by
 unfold fAll; rw [q,Res.bind_ok,q2,Res.bind_ok]
theorem fB_ok {f:FE}{e:En}{h h1:Hh}{b:Bool} (q:f e h=.ok (.bl b) h1):fB f e h=.ok b h1:=by unfold fB; rw [q]; rfl
theorem fFor_ok {i:Nat}{fi:FI}{t:FS}{e:En}{h h1:Hh}{it:Itm} (q:fi e h=.ok it h1):fFor i fi t e h=forG it.chk i t it.items e h1:=by unfold fFor; rw [q]; rfl
theorem fC_ok (d:D) (e:En) (h:Hh):fC d e h=.ok d h:=rfl
theorem fV_ok {i:Nat}{e:En}{d:D} (q:e[i]?=some (some d)) (h:Hh):fV i e h=.ok d h:=by unfold fV; rw [q]; rfl
theorem forG_ex {chk:Hh->Prop}{i:Nat}{t:FS} (P:Nat->En->Hh->Prop):∀ (items:List D) (k:Nat) (e:En) (h:Hh),P k e h->(∀ k e h,P k e h->chk h)->
  (∀ (j:Nat) d e h,items[j]?=some d->P (k+j) e h->∃ e' h',t (e.set i (some d)) h=.nx e' h'/\P (k+j+1) e' h')->∃ e' h',forG chk i t items e h=.nx e' h'/\P (k+items.length) e' h'
 | [],k,e,h,p,hc,_=>⟨e,h,by unfold forG; rw [if_pos (hc k e h p)],p⟩
 | d::r,k,e,h,p,hc,ht=>by
  obtain⟨e1,h1,q1,p1⟩:=ht 0 d e h (by simp) p
  obtain⟨e2,h2,q2,p2⟩:=forG_ex P r (k+1) e1 h1 p1 hc fun j d' e' h' hj p'=>by
   obtain⟨e3,h3,q3,p3⟩:=ht (j+1) d' e' h' (by simpa using hj) (by rw [show k+(j+1)=k+1+j by omega]; exact p')
   exact⟨e3,h3,q3,by rw [show k+1+j+1=k+(j+1)+1 by omega]; exact p3⟩
  refine⟨e2,h2,?_,by rw [List.length_cons,show k+(r.length+1)=k+1+r.length by omega]; exact p2⟩
  unfold forG
  rw [if_pos (hc k e h p),q1]
  exact q2
theorem forG_run {chk:Hh->Prop}{i:Nat}{t:FS} (P:Nat->En->Hh->Prop) (items:List D) (e:En) (h:Hh) (p:P 0 e h) (hc:∀ k e h,P k e h->chk h)
  (ht:∀ (j:Nat) d e h,items[j]?=some d->P j e h->∃ e' h',t (e.set i (some d)) h=.nx e' h'/\P (j+1) e' h'):∃ e' h',forG chk i t items e h=.nx e' h'/\P items.length e' h':=by
 obtain⟨e',h',q,p'⟩:=forG_ex P items 0 e h p hc fun j d e h hj p=>by
  obtain⟨e',h',q,p'⟩:=ht j d e h hj (by rw [Nat.zero_add] at p; exact p)
  exact⟨e',h',q,by rw [Nat.zero_add]; exact p'⟩
 exact⟨e',h',q,by rw [Nat.zero_add] at p'; exact p'⟩
theorem fWhile_ex {c:FT}{t:FS} (P:En->Hh->Prop) (R:En->Hh->Prop) (μ:En->Hh->Nat)
  (hs:∀ e h,P e h->(∃ h1,c e h=.ok false h1/\R e h1)\/∃ h1 e2 h2,c e h=.ok true h1/\t e h1=.nx e2 h2/\P e2 h2/\μ e2 h2 < μ e h):
  ∀ (n:Nat) (e:En) (h:Hh),P e h->μ e h < n->∃ e' h',fWhile c t n e h=.nx e' h'/\R e' h'
 | 0,_,_,_,q=>absurd q (Nat.not_lt_zero _)
 | n+1,e,h,p,q=>by
  rcases hs e h p with⟨h1,q1,r⟩ | ⟨h1,e2,h2,q1,q2,p2,lt⟩
  ·exact⟨e,h1,by unfold fWhile; rw [q1]; rfl,r⟩
  ·obtain⟨e',h',q3,r⟩:=fWhile_ex P R μ hs n e2 h2 p2 (by omega)
   refine⟨e',h',?_,r⟩
   unfold fWhile
   rw [q1,Res.out_ok,if_pos rfl,q2]
   exact q3
theorem fnRun_rt {n:Nat}{t:FS}{ds:List D}{h h1:Hh}{d:D} (q:t (startE n ds) h=.rt d h1):fnRun n t ds h=some (d,h1):=by unfold fnRun; rw [q]; rfl
theorem atI_pos {α:Type}{xs:List α}{i:Int} (h0:0<=i):atI xs i=xs[i.toNat]?:=by
 unfold atI ixN
 rw [if_pos h0]
 split
 ·rfl
 ·rename_i h
  rw [List.getElem?_eq_none (by omega)]
  rfl
@[simp] theorem atI_nat' {α:Type} (xs:List α) (j:Nat):atI xs (j:Int)=xs[j]?:=by
 rw [atI_pos (Int.natCast_nonneg j)]
 rfl
theorem sp_law {K:PySem.W.Frag}{g:OC} (hg:∀ ns:List Int,ns.length<=63->∃ h',g [.ro ns] []=some (.bl true,h')) {H:Hp}{a:Addr}{ns:List Int}{E:XK} (hl:ns.length<=63) (hO:Only H) (hS:SqL K H a (ns.map V.int)):
  spD K 1 g [.ref a] H (fun v _=>v=.bl true) E:=by
 obtain⟨h',e⟩:=hg ns hl
 refine⟨rfl,[],[.ro ns],[],⟨rfl,.nil,fun n a o q=>by simp at q⟩,.cons (.ro ?_) .nil,?_⟩
 ·rcases hS with (q | q) | q
  ·rcases hO a with z | ⟨o,xs,z⟩
   ·rw [z] at q; cases q
   ·rw [z] at q; cases q
  ·exact .inl q
  ·exact .inr q
 ·rw [e]
  intro as' H' v _ _ r
  cases r
  rfl
theorem compLoop_go {prog:Program}{w:World}{A:Around}{R:Result->Shared->Prop}{elt target iter:Expr}{ifs:List Expr}{scope:Scope}{pos:Pos}{it acc:Value}{env:Env}{s:Shared} (I:Nat->Shared->Prop)
  (turn:∀ n s,I n s->wpAny (model prog w) A (pyNext it) (fun r s₁=>match r with
   | none=>R (.ok .next) s₁
   | some v=>wpAny (model prog w) A (letOwnedTupleGo target it v) (fun _ s'=>wpAny (model prog w) A (assign target env v) (fun _ s₂=>
     wpAny (model prog w) A (forIn ifs true fun c r=>if r=true then do let ok <-isTrue c env (eval c env); pure (ForInStep.yield ok) else pure (ForInStep.yield r)) (fun ok s₃=>
      if ok=true then wpAny (model prog w) A (eval elt env) (fun x s₄=>
       wpAny (model prog w) A (call (.builtin "list.append") [acc,x]) (fun _ s₅=>∃ m,m < n/\I m s₅) (notedBy (model prog w) A env fun e s'=>R (.error e) s') s₄) (notedBy (model prog w) A env fun e s'=>R (.error e) s') s₃
      else ∃ m,m < n/\I m s₃) (notedBy (model prog w) A env fun e s'=>R (.error e) s') s₂) (notedBy (model prog w) A env fun e s'=>R (.error e) s') s') (notedBy (model prog w) A env fun e s'=>R (.error e) s') s₁) (notedBy (model prog w) A env fun e s'=>R (.error e) s') s)
  (n:Nat) (h:I n s):codeAny (model prog w) A (.compLoop (.ListComp elt [⟨target,iter,ifs,0⟩] scope pos) 0 it acc env) R s:=by
 refine codeAny_loop rfl I (fun n s hI=>?_) n h
 show wpAny _ A ((compTurn (.ListComp elt [⟨target,iter,ifs,0⟩] scope pos) 0 it acc env).onRaise (fun x=>do noteFrame x env; theTreesLotGoes x)) _ _ s
 refine wpAny_noted ?_
 rw [compTurn_list]
 refine wpAny_bind (wpAny_standAt (wpAny_bind (wpAny_mono (turn n s hI) (fun r s₁ h₁=>?_) fun _ _ h'=>h')))
 cases r with
 | none=>exact wpAny_pure h₁
 | some v=>
  refine wpAny_bind (wpAny_mono h₁ (fun _ s' hs'=>?_) fun _ _ h'=>h')
  refine wpAny_bind (wpAny_mono hs' (fun _ s₂ h₂=>wpAny_bind (wpAny_mono h₂ (fun ok s₃ h₃=>?_) fun _ _ h'=>h')) fun _ _ h'=>h')
  cases ok with
  | false=>exact wpAny_pure ⟨rfl,h₃⟩
  | true=>
   exact wpAny_bind (wpAny_bind (wpAny_mono h₃ (fun x s₄ h₄=>wpAny_bind (wpAny_mono h₄ (fun _ s₅ h₅=>wpAny_pure (wpAny_pure ⟨rfl,h₅⟩)) fun _ _ h'=>h')) fun _ _ h'=>h'))
def clFold (cells:List (Str×Addr)):List (Str×NameKind)->List (Str×Addr)->Option (List (Str×Addr))
 | [],acc=>some acc
 | (n,k)::r,acc=>if k==.free then (match cells.lookup n with
  | some c=>clFold cells r ((n,c)::acc)
  | none=>none) else clFold cells r acc
theorem clFold_closure {scope:Scope}{env:Env}{cl:List (Str×Addr)} (h:clFold env.cells scope.names []=some cl):closureFor scope env=pure cl:=by
 simp only [closureFor]
 generalize scope.names=names at h
 generalize ([]:List (Str×Addr))=acc at h
 induction names generalizing acc with
 | nil=>cases h; rfl
 | cons x r ih=>
  obtain⟨n,k⟩:=x
  unfold clFold at h
  rw [List.forIn_cons]
  by_cases hk:(k==NameKind.free)=true
  ·rw [if_pos hk] at h
   cases hc:env.cells.lookup n with
   | none=>rw [hc] at h; cases h
   | some c=>
    rw [hc] at h
    have:=ih _ h
    simp only [hk,if_true,cellOf,hc]
    exact this
  ·rw [if_neg hk] at h
   have:=ih _ h
   simp only [hk,Bool.false_eq_true,if_false]
   exact this
theorem clFold_sub {cells:List (Str×Addr)}:∀ {names:List (Str×NameKind)}{acc cl:List (Str×Addr)},clFold cells names acc=some cl->(∀ p∈acc,cells.lookup p.1=some p.2)->∀ p∈cl,cells.lookup p.1=some p.2
 | [],_,_,h,ha=>by cases h; exact ha
 | (n,k)::r,acc,cl,h,ha=>by
  unfold clFold at h
  by_cases hk:(k==NameKind.free)=true
  ·rw [if_pos hk] at h
   cases hc:cells.lookup n with
   | none=>rw [hc] at h; cases h
   | some c=>
    rw [hc] at h
    refine clFold_sub h fun p hp=>?_
    rcases List.mem_cons.mp hp with rfl | hp
    ·exact hc
    ·exact ha p hp
  ·rw [if_neg hk] at h
   exact clFold_sub h ha
theorem clFold_acc {cells:List (Str×Addr)}:∀ {names:List (Str×NameKind)}{acc cl:List (Str×Addr)},clFold cells names acc=some cl->∀ p∈acc,p∈cl
 | [],_,_,h=>by cases h; exact fun _ h=>h
 | (n,k)::r,acc,cl,h=>by
  unfold clFold at h
  by_cases hk:(k==NameKind.free)=true
  ·rw [if_pos hk] at h
   cases hc:cells.lookup n with
   | none=>rw [hc] at h; cases h
   | some c=>
    rw [hc] at h
    exact fun p hp=>clFold_acc h p (List.mem_cons_of_mem _ hp)
  ·rw [if_neg hk] at h
   exact clFold_acc h
theorem clFold_has {cells:List (Str×Addr)}:∀ {names:List (Str×NameKind)}{acc cl:List (Str×Addr)},clFold cells names acc=some cl->∀ n,(n,NameKind.free)∈names->∃ c,(n,c)∈cl
 | [],_,_,_,n,hn=>nomatch hn
 | (m,k)::r,acc,cl,h,n,hn=>by
  unfold clFold at h
  by_cases hk:(k==NameKind.free)=true
  ·rw [if_pos hk] at h
   cases hc:cells.lookup m with
   | none=>rw [hc] at h; cases h
   | some c=>
    rw [hc] at h
    rcases List.mem_cons.mp hn with e | hn
    ·cases e
     exact⟨c,clFold_acc h _ List.mem_cons_self⟩
    ·exact clFold_has h n hn
  ·rw [if_neg hk] at h
   rcases List.mem_cons.mp hn with e | hn
   ·cases e
    exact absurd rfl hk
   ·exact clFold_has h n hn
theorem mem_of_lookup {β:Type}{n:Str}{c:β}:∀ {l:List (Str×β)},l.lookup n=some c->(n,c)∈l
 | [],h=>by simp at h
 | (m,d)::r,h=>by
  rw [List.lookup_cons] at h
  split at h
  ·rename_i e
   cases h
   rw [eq_of_beq e]
   exact List.mem_cons_self
  ·exact List.mem_cons_of_mem _ (mem_of_lookup h)
theorem lookup_of_mem {n:Str}{β:Type}:∀ {l:List (Str×β)}{c:β},(n,c)∈l->∃ d,l.lookup n=some d
 | [],_,h=>nomatch h
 | (m,d)::r,c,h=>by
  rw [List.lookup_cons]
  split
  ·exact⟨d,rfl⟩
  ·rename_i e
   rcases List.mem_cons.mp h with z | z
   ·cases z
    simp at e
   ·exact lookup_of_mem z
theorem relabel_kind {env:Env}:∀ {names:List (Str×NameKind)}{x:Str},(∀ y∈names,y.2≠.cell)->
  ((names.map fun (n,k)=>if (k==NameKind.free&&env.scope.kind==.function&&env.kindOf n==some .cell) then (n,NameKind.cell) else (n,k)).lookup x=some .cell\/
  (names.map fun (n,k)=>if (k==NameKind.free&&env.scope.kind==.function&&env.kindOf n==some .cell) then (n,NameKind.cell) else (n,k)).lookup x=some .free)->(x,NameKind.free)∈names:=by
 intro names x hc h
 have key:∀ k',k'=NameKind.cell\/k'=NameKind.free->(names.map fun (n,k)=>if (k==NameKind.free&&env.scope.kind==.function&&env.kindOf n==some .cell) then (n,NameKind.cell) else (n,k)).lookup x=some k'->(x,NameKind.free)∈names:=by
  intro k' hk' h
  obtain⟨⟨n,k⟩,hq,e⟩:=List.mem_map.mp (mem_of_lookup h)
  dsimp only at e
  by_cases c:(k==NameKind.free&&env.scope.kind==.function&&env.kindOf n==some .cell)=true
  ·rw [if_pos c] at e
   rw [Bool.and_eq_true,Bool.and_eq_true] at c
   have e1:n=x:=(Prod.mk.inj e).1
   have e2:k=.free:=eq_of_beq c.1.1
   rw [<-e1,<-e2]
   exact hq
  ·rw [if_neg c] at e
   have e1:n=x:=(Prod.mk.inj e).1
   have e2:k=k':=(Prod.mk.inj e).2
   rcases hk' with rfl | rfl
   ·exact absurd e2 (hc _ hq)
   ·rw [<-e1,<-e2]
    exact hq
 rcases h with h | h
 ·exact key _ (.inl rfl) h
 ·exact key _ (.inr rfl) h
def cxComp (X:Cx) (scope:Scope) (cl:List (Str×Addr)) (C:Addr) (N:List Str) (s₀:Shared) (H₀:Hp) (fp:List Addr):Cx where
 prog:=X.prog
 w:=X.w
 K:=X.K
 mg:=X.mg
 base:=X.base
 A:=X.A
 N:=N
 s₀:=s₀
 H₀:=H₀
 env:=compEnvC scope cl C X.env
 outer:=X.stack
 stack:=X.stack
 ex:=fp
 fn:=fun _=>false
 calm:=X.calm
 pn:=[]
 xe:=fun _ _=>False
structure CompOk (X:Cx) (scope:Scope) (x:Str) (fr:List Nat) (frn:List Str) (cl:List (Str×Addr)):Prop where
 cl:clFold X.env.cells scope.names []=some cl
 cell:∀ y∈scope.names,y.2≠.cell
 kind:scope.kind=.function
 names:∀ y∈scope.names,y.2=.local->scope.names.lookup y.1=some .local
 own:scope.names.lookup x=some .local
 nd:(x::frn).Nodup
 len:fr.length=frn.length
 fr:∀ (j i:Nat) n,fr[j]?=some i->frn[j]?=some n->X.N[i]?=some n/\X.env.kindOf n=some .cell
 frk:∀ n∈frn,(relabel scope X.env).names.lookup n=some .cell\/(relabel scope X.env).names.lookup n=some .free
def freeSt (fr:List Nat) (σ:St):St:=fr.map fun i=>(σ[i]?).getD none
def freeEn (fr:List Nat) (env:En):En:=fr.map fun i=>(env[i]?).getD none
theorem relE_free {K:PySem.W.Frag}{as:List Addr}{H:Hp}{env:En}{σ:St} (r:RelE K as H env σ) (fr:List Nat) (z:Option V):RelE K as H (none::freeEn fr env) (z::freeSt fr σ):=by
 refine⟨by simp [freeEn,freeSt],fun i d e=>?_⟩
 cases i with
 | zero=>simp at e
 | succ i=>
  simp only [List.getElem?_cons_succ,freeEn,List.getElem?_map] at e |-
  obtain⟨j,hj,e1⟩:=Option.map_eq_some_iff.mp e
  cases q:env[j]? with
  | none=>rw [q] at e1; cases e1
  | some o=>
   rw [q] at e1
   have e2:o=some d:=e1
   subst e2
   obtain⟨v,hv,rv⟩:=r.at_ j d q
   refine⟨v,?_,rv⟩
   simp [freeSt,List.getElem?_map,hj,hv]
section
variable {X:Cx}{scope:Scope}{x:Str}{fr:List Nat}{frn:List Str}{cl:List (Str×Addr)}
theorem CompOk.clsub (c:CompOk X scope x fr frn cl) {n:Str}{a:Addr} (h:cl.lookup n=some a):X.env.cells.lookup n=some a:=
 clFold_sub c.cl (fun _ h=>nomatch h) (n,a) (mem_of_lookup h)
theorem CompOk.clhas (c:CompOk X scope x fr frn cl) {n:Str} (h:(relabel scope X.env).names.lookup n=some .cell\/(relabel scope X.env).names.lookup n=some .free):∃ a,cl.lookup n=some a:=by
 obtain⟨a,ha⟩:=clFold_has c.cl n (relabel_kind c.cell h)
 exact lookup_of_mem ha
theorem comp_start {pins:List (Addr×Obj)}{σ:St}{H:Hp}{s₃ s₄:Shared}{C:Addr}{fp:List Addr}{m:Str->Option Value} (c:CompOk X scope x fr frn cl) (hcalm:X.calm=true) (I:Inv X pins σ H s₃) (hC:C=s₃.heap.objs.size)
  (hns:s₄.heap.Ns C m) (keep:∀ b o,s₃.heap.get? b=some o->s₄.heap.get? b=some o) (hos:s₄.os=s₃.os) (hg:s₄.gens=s₃.gens) (hfp:∀ b∈fp,FpOk X pins H b) (hfl:∀ b∈fp,b < s₃.heap.objs.size):
  Inv (cxComp X scope cl C (x::frn) s₃ H fp) [] (none::freeSt fr σ) H s₄:=by
 have hb:∀ b,b < s₃.heap.objs.size->b≠C:=fun b h z=>by rw [z,hC] at h; exact Nat.lt_irrefl _ h
 have fsub:∀ b∈frs X.stack,b∈X.env.locals::X.fs:=I.stkSub
 have ok:(cxComp X scope cl C (x::frn) s₃ H fp).Ok:=by
  refine⟨I.ok.mod,c.kind,I.ok.glob,I.ok.blt,?_,?_,?_,?_,I.ok.hd,I.ok.frames,.inl rfl,?_,I.bs,Nat.le_trans I.ok.bsz I.sz,?_,?_,I.stack,I.stkFree⟩
  ·show s₃.heap.objs.size<=C
   rw [hC]; exact Nat.le_refl _
  ·intro a b z h1 h2
   exact I.ok.inj a b z (c.clsub h1) (c.clsub h2)
  ·intro a h
   exact c.clhas h
  ·intro a b h
   cases h
  ·intro b hbm
   refine⟨hb b (hfl b hbm),fun a z h=>?_⟩
   exact (hfp b hbm).2.2.2.2.1 a z (c.clsub h)
  ·intro b o e hbm
   rcases (hfp b hbm).2.2.2.1 with z | z
   ·exact I.ok.noex b o e z
   ·exact absurd (Nat.lt_of_lt_of_le (Heap.lt_size e) (Nat.le_trans I.ok.bsz z)) (Nat.lt_irrefl _)
  ·intro b hbm z
   rcases List.mem_cons.mp (fsub b z) with e | e
   ·exact (hfp b hbm).2.1 e
   ·exact (hfp b hbm).2.2.1 e
 refine⟨ok,hos,(by rw [hg]; exact I.bare),Un.kept keep,⟨m,hns,?_⟩,?_,?_,?_,(fun p hp=>nomatch hp),I.hok.kept keep,(by simp [cxComp,freeSt,c.len])⟩
 ·intro i n v e1 e2 e3
  cases i with
  | zero=>simp at e2
  | succ j=>
   have e1':frn[j]?=some n:=e1
   have e2':(freeSt fr σ)[j]?=some (some v):=e2
   unfold freeSt at e2'
   rw [List.getElem?_map] at e2'
   obtain⟨i,hi,e4⟩:=Option.map_eq_some_iff.mp e2'
   obtain⟨h1,h2⟩:=c.fr j i n hi e1'
   have e5:σ[i]?=some (some v):=by
    cases q:σ[i]? with
    | none=>rw [q] at e4; cases e4
    | some o=>rw [q] at e4; exact congrArg some e4
   obtain⟨m0,_,hl⟩:=I.loc
   obtain⟨u,ru,lk⟩:=hl i n v h1 e5 (.inr (.inl h2))
   refine⟨u,ru,?_⟩
   rcases lk with⟨k,_⟩ | ⟨_,a,ha,z⟩
   ·rw [h2] at k; cases k
   ·have hk:=c.frk n (List.mem_of_getElem? e1')
    obtain⟨d,hd⟩:=c.clhas hk
    have:=c.clsub hd
    rw [ha] at this
    cases this
    obtain⟨o,ho,hod⟩:=z
    exact .inr ⟨hk,a,hd,o,keep _ _ ho,hod⟩
 ·intro n a h
  obtain⟨v,o,ho,hod⟩:=I.cell n a (c.clsub h)
  exact⟨v,o,keep _ _ ho,hod⟩
 ·show H C=none
  rw [hC]
  exact I.hok.fresh (Nat.le_refl _)
 ·intro n a h
  exact I.freeC n a (c.clsub h)
theorem comp_end {pins:List (Addr×Obj)}{σ σ':St}{H H':Hp}{s₃ s':Shared}{C:Addr}{fp:List Addr} (I:Inv X pins σ H s₃) (hfp:∀ b∈fp,FpOk X pins H b) (Y:Inv (cxComp X scope cl C (x::frn) s₃ H fp) [] σ' H' s'):Inv X pins σ H' s':=
 I.call' (ch:=fp) Y.os Y.base Y.hok Y.bare fun b hb=>⟨(hfp b hb).2.2.2.1,(hfp b hb).2.1,(hfp b hb).2.2.2.2.1,(hfp b hb).2.2.2.2.2⟩
end
open Classical in
noncomputable def compD (chk:Hh->Prop) (n0:Nat) (ft:FT) (fe:FE) (fenv:En):List D->Hh->Option Hh
 | [],h=>if chk h then some h else none
 | d::r,h=>if chk h then (match ft (some d::fenv) h with
  | .ok false h1=>compD chk n0 ft fe fenv r h1
  | .ok true h1=>(match fe (some d::fenv) h1 with
   | .ok d' h2=>(match itemsAt h2 n0 with
    | some ds=>if ds.length < sizeLine then compD chk n0 ft fe fenv r (h2.set n0 (.lst (ds++[d']))) else none
    | none=>none)
   | _=>none)
  | _=>none) else none
def CPost (K:PySem.W.Frag) (G:List Addr->Hp->Hh->Prop) (as:List Addr) (H:Hp) (r:Option Hh):Prop:=match r with
 | some hf=>∀ asf Hf,Ext as H asf Hf->RelH K asf Hf hf->G asf Hf hf
 | none=>False
theorem CPost.later {K:PySem.W.Frag}{G:List Addr->Hp->Hh->Prop}{as as1:List Addr}{H H1:Hp}{r:Option Hh} (x:Ext as H as1 H1) (h:CPost K G as H r):CPost K G as1 H1 r:=by
 cases r with
 | none=>exact h
 | some hf=>exact fun asf Hf y=>h asf Hf (x.trans y)
def fYes:FT:=fun _ h=>.ok true h
inductive DTs (Y:Cx):List Expr->FT->Prop where
 | nil:DTs Y [] fYes
 | one {c:Expr}{f:FT}:DT Y c f->DTs Y [c] f
theorem DTs.run {Y:Cx}{ifs:List Expr}{ft:FT} (d:DTs Y ifs ft) {pins:List (Addr×Obj)}{s:Shared}{σ:St}{H:Hp}{Q:Bool->Hp->Prop} (I:Inv Y pins σ H s) (q:tT Y ft σ H Q):
  wpAny (model Y.prog Y.w) Y.A (forIn ifs true fun c r=>if r=true then do let ok <-isTrue c Y.env (eval c Y.env); pure (ForInStep.yield ok) else pure (ForInStep.yield r)) (TP Y pins σ Q) Y.xe s:=by
 cases d with
 | nil=>
  obtain⟨as,env,h,re,rh,p⟩:=q
  exact wpAny_tests_nil ⟨H,I,p as H (Ext.refl _ _) rh⟩
 | one hc=>exact wpAny_tests_one (hc pins s σ H Q I q)
theorem PX.ok_of {α:Type}{X:Cx}{as:List Addr}{H:Hp}{env:En}{r:Res α}{R:List Addr->Hp->Hh->α->Prop}{a:α}{h':Hh} (e:r=.ok a h') (f:∀ as' H',Ext as H as' H'->RelH X.K as' H' h'->R as' H' h' a):PX X as H env r R:=by
 subst e
 exact f
theorem comp_core {X:Cx}{elt iter:Expr}{x:Str}{px:Pos}{ifs:List Expr}{scope:Scope}{pos:Pos}{fr:List Nat}{frn:List Str}{cl:List (Str×Addr)}{fi:FI}{ft:FT}{fe:FE}
  (c:CompOk X scope x fr frn cl) (hcalm:X.calm=true) (hi:DI X (.Name x px) iter fi)
  (hin:∀ (C:Addr) (s₀:Shared) (H₀:Hp) (fp:List Addr),DTs (cxComp X scope cl C (x::frn) s₀ H₀ fp) ifs ft/\DE (cxComp X scope cl C (x::frn) s₀ H₀ fp) elt fe)
  {pins:List (Addr×Obj)}{σ:St}{H:Hp}{s:Shared}{as:List Addr}{env:En}{h:Hh}{RR:Value->Addr->Result->Shared->Prop} (I:Inv X pins σ H s) (re:RelE X.K as H env σ) (rh:RelH X.K as H h)
  {G:Addr->List Addr->Hp->Hh->Prop}
  (p:PX X as H env (fi env h) fun as1 H1 h1 it=>∀ acc,H1 acc=none->CPost X.K (G acc) (as1++[acc]) (upd H1 acc (.lst [])) (compD it.chk h1.length ft fe (freeEn fr env) it.items (h1++[.lst []])))
  (hRR:∀ acc C H' s' asf hf,G acc asf H' hf->Inv X pins σ H' s'->(∃ m,s'.heap.Ns C m)->H' C=none->C≠X.env.locals->X.s₀.heap.objs.size<=C->(∀ y z,X.env.cells.lookup y=some z->z≠C)->(∀ q∈X.pn++pins,q.1≠C)->RR (.ref acc) C (.ok .next) s'):
  wpAny (model X.prog X.w) X.A (eval iter X.env) (fun xv s₁=>wpAny (model X.prog X.w) X.A (pyIter xv) (fun it s₂=>wpAny (model X.prog X.w) X.A (newList []) (fun acc s₃=>
   wpAny (model X.prog X.w) X.A (newFunctionEnv scope X.env.globals cl [] X.env.qual none .none (some X.env)) (fun cenv s₄=>
    codeAny (model X.prog X.w) X.A (.compStart (.ListComp elt [⟨.Name x px,iter,ifs,0⟩] scope pos) 0 it acc { cenv with scope:=relabel scope X.env }) (RR acc cenv.locals) s₄) X.xe s₃) X.xe s₂) X.xe s₁) X.xe s:=by
 refine thn (hi pins s σ H (fun J H1=>∃ as1 h1 it Base,Ext as H as1 H1/\RelH X.K as1 H1 h1/\Adm X it J Base/\Base as1 H1/\∀ acc,H1 acc=none->CPost X.K (G acc) (as1++[acc]) (upd H1 acc (.lst [])) (compD it.chk h1.length ft fe (freeEn fr env) it.items (h1++[.lst []]))) I
  ⟨as,env,h,re,rh,p.imp fun as1 H1 h1 it e1 rh1 p1 J Base ad b0=>⟨as1,h1,it,Base,e1,rh1,ad,b0,p1⟩⟩) fun xv s₁ q1=>thn q1 fun itv s₂ q2=>?_
 obtain⟨it,fp,tn,J,H1,rfl,I2,T,st0,hfp,as1,h1,itm,Base,e1,rh1,ad,b0,p1⟩:=q2
 have hfl:∀ b∈fp,b < s₂.heap.objs.size:=fun b hb=>by
  obtain⟨o,ho,_⟩:=T.obj 0 _ st0 b hb
  exact Heap.lt_size ho
 refine wpAny_newObj_type (wpAny_newFunctionEnv c.cell (by intro y hy; simp at hy) (fun h₁ hns₁ hsb₁=>?_) c.kind)
 dsimp only at hns₁ hsb₁ |-
 have I3:Inv X pins σ (upd H1 s₂.heap.objs.size (.lst [])) { s₂ with heap:=s₂.heap.push { cls:=.type "list",data:=.seq ([]:List Value).toArray },toks:=s₂.toks }:=I2.lnew (its:=[]) .nil (Nat.zero_le _)
 have hacc0:H1 s₂.heap.objs.size=none:=I2.hok.fresh (Nat.le_refl _)
 have pc:=p1 s₂.heap.objs.size hacc0
 generalize hA:s₂.heap.objs.size=acc at I3 hacc0 pc hfl hns₁ hsb₁ |-
 have hC0:(s₂.heap.push { cls:=.type "list",data:=.seq ([]:List Value).toArray }).objs.size=acc+1:=by rw [Heap.size_push,hA]
 generalize hH2:s₂.heap.push { cls:=.type "list",data:=.seq ([]:List Value).toArray }=H2 at I3 hns₁ hsb₁ hC0 |-
 have hold:∀ b o,H2.get? b=some o->h₁.get? b=some o:=fun b o e=>(hsb₁.2 b (Nat.ne_of_lt (Heap.lt_size e))).trans (Heap.get?_push_of_some _ e)
 have hne:∀ b∈fp,b≠acc:=fun b hb z=>by have:=hfl b hb; rw [z] at this; exact Nat.lt_irrefl _ this
 have hfp3:∀ b∈fp,FpOk X pins (upd H1 acc (.lst [])) b:=fun b hb=>⟨by rw [upd_ne (hne b hb)]; exact (hfp b hb).1,(hfp b hb).2⟩
 have hfl3:∀ b∈fp,b < H2.objs.size:=fun b hb=>by rw [hC0]; exact Nat.lt_succ_of_lt (hfl b hb)
 have IY0:=comp_start (s₃:={ s₂ with heap:=H2,toks:=s₂.toks }) (s₄:={ s₂ with heap:=h₁,toks:=s₂.toks+([]:List (Str×Value)).length }) (C:=H2.objs.size) (fp:=fp) c hcalm I3 rfl hns₁ hold rfl rfl hfp3 hfl3
 obtain⟨hts,hel⟩:=hin H2.objs.size { s₂ with heap:=H2,toks:=s₂.toks } (upd H1 acc (.lst [])) fp
 have hCL:H2.objs.size≠X.env.locals:=(Nat.ne_of_gt I3.lt)
 have hCs:X.s₀.heap.objs.size<=H2.objs.size:=I3.sz
 have hCc:∀ y z,X.env.cells.lookup y=some z->z≠H2.objs.size:=fun y z e w=>by
  obtain⟨v,o,ho,_⟩:=I3.cell y z e
  have:=Heap.lt_size ho
  rw [w] at this
  exact Nat.lt_irrefl _ this
 have hCp:∀ q∈X.pn++pins,q.1≠H2.objs.size:=fun q hq w=>by
  have:=Heap.lt_size (I3.pin q hq).1
  rw [w] at this
  exact Nat.lt_irrefl _ this
 have rhA:RelH X.K (as1++[acc]) (upd H1 acc (.lst [])) (h1++[.lst []]):=rh1.newL hacc0 .nil
 have exA:Ext as1 H1 (as1++[acc]) (upd H1 acc (.lst [])):=ext_new hacc0
 have reY0:RelE X.K (as1++[acc]) (upd H1 acc (.lst [])) (none::freeEn fr env) (none::freeSt fr σ):=relE_free ((re.mono e1).mono exA) fr none
 have hn0:(as1++[acc])[h1.length]?=some acc:=by rw [<-rh1.len]; exact List.getElem?_concat_length
 have ndY:(cxComp X scope cl H2.objs.size (x::frn) { s₂ with heap:=H2,toks:=s₂.toks } (upd H1 acc (.lst [])) fp).N.Nodup:=c.nd
 have locY:Loc (cxComp X scope cl H2.objs.size (x::frn) { s₂ with heap:=H2,toks:=s₂.toks } (upd H1 acc (.lst [])) fp).env.scope x:=.inl (lookup_relabel_local c.own)
 have pgx:PG (cxComp X scope cl H2.objs.size (x::frn) { s₂ with heap:=H2,toks:=s₂.toks } (upd H1 acc (.lst [])) fp) (.Name x px) (gName 0):=pg_name ndY rfl locY (.inr (lookup_relabel_local c.own))
 generalize hY:cxComp X scope cl H2.objs.size (x::frn) { s₂ with heap:=H2,toks:=s₂.toks } (upd H1 acc (.lst [])) fp=Y at IY0 hts hel pgx
 have yP:Y.prog=X.prog:=by rw [<-hY]; rfl
 have yw:Y.w=X.w:=by rw [<-hY]; rfl
 have yK:Y.K=X.K:=by rw [<-hY]; rfl
 have yA:Y.A=X.A:=by rw [<-hY]; rfl
 have yc:Y.calm=true:=by rw [<-hY]; exact hcalm
 have ye:Y.env=compEnvC scope cl H2.objs.size X.env:=by rw [<-hY]; rfl
 have yx:Y.xe=fun _ _=>False:=by rw [<-hY]; rfl
 have yex:Y.ex=fp:=by rw [<-hY]; rfl
 have hfpY0:∀ b∈fp,FpOk Y [] (upd H1 acc (.lst [])) b:=fun b hb=>⟨(hfp3 b hb).1,by rw [ye]; exact Nat.ne_of_lt (hfl3 b hb),by
   rw [<-hY]
   intro z
   rcases List.mem_cons.mp (I3.stkSub b z) with e | e
   ·exact (hfp3 b hb).2.1 e
   ·exact (hfp3 b hb).2.2.1 e,.inl (by rw [yex]; exact hb),fun y z e w=>by
   rw [ye] at e
   exact (hfp3 b hb).2.2.2.2.1 y z (c.clsub e) w,fun q hq=>by rw [<-hY] at hq; exact nomatch hq⟩
 have stay:tn 0 h₁:=T.keep 0 _ _ st0 fun b hb o e=>hold b o (by rw [<-hH2]; exact Heap.get?_push_of_some _ e)
 have loop:∀ s₄:Shared,s₄={ s₂ with heap:=h₁,toks:=s₂.toks+([]:List (Str×Value)).length }->
   codeAny (model X.prog X.w) X.A (.compLoop (.ListComp elt [⟨.Name x px,iter,ifs,0⟩] scope pos) 0 (.ref it) (.ref acc) (compEnvC scope cl H2.objs.size X.env)) (RR (.ref acc) H2.objs.size) s₄:=by
  rintro s₄ rfl
  refine compLoop_go (fun n s'=>∃ (k:Nat) (H':Hp) (σ':St) (as':List Addr) (h':Hh) (z:Option D),k+n=itm.items.length/\Inv Y [] σ' H' s'/\tn k s'.heap/\(∀ b∈fp,FpOk Y [] H' b)/\RelH X.K as' H' h'/\as'[h1.length]?=some acc/\Base as' H'/\
   RelE X.K as' H' (z::freeEn fr env) σ'/\CPost X.K (G acc) as' H' (compD itm.chk h1.length ft fe (freeEn fr env) (itm.items.drop k) h')) ?_ itm.items.length
   ⟨0,_,_,_,_,none,by omega,IY0,stay,hfpY0,rhA,hn0,ad.mono _ _ _ _ exA b0,reY0,pc⟩
  rintro n s' ⟨k,H',σ',as',h',z,hk,IY,stk,hfY,rh',hn',bs',reY,pc'⟩
  cases hd:itm.items.drop k with
  | nil=>
   rw [hd] at pc'
   unfold compD at pc'
   by_cases hch:itm.chk h'
   ·rw [if_pos hch] at pc'
    have hlen:itm.items.length<=k:=by
     have:=congrArg List.length hd
     rw [List.length_drop,List.length_nil] at this
     omega
    have hk':k=itm.items.length:=by omega
    have dn:=T.done Y yP yw yK yc k [] s' σ' H' (notedBy (model X.prog X.w) X.A (compEnvC scope cl H2.objs.size X.env) fun e s'=>RR (.ref acc) H2.objs.size (.error e) s') IY hfY stk (by rw [hk']; exact ad.stop as' H' h' rh' hch bs')
    rw [yA] at dn
    refine thn dn fun r s1 ⟨hr,IY1⟩=>?_
    subst hr
    rw [<-hY] at IY1
    have IX:=comp_end I3 hfp3 IY1
    obtain⟨m1,hm1,_⟩:=IY1.loc
    exact hRR acc H2.objs.size H' s1 as' h' (pc' as' H' (Ext.refl _ _) rh') IX ⟨m1,hm1⟩ IY1.free hCL hCs hCc hCp
   ·rw [if_neg hch] at pc'
    exact pc'.elim
  | cons d r=>
   rw [hd] at pc'
   unfold compD at pc'
   by_cases hch:itm.chk h'
   ·rw [if_pos hch] at pc'
    have hlt:k < itm.items.length:=by
     have:=congrArg List.length hd
     rw [List.length_drop,List.length_cons] at this
     omega
    have hq:=List.drop_eq_getElem_cons hlt
    rw [hd] at hq
    have hd1:itm.items[k]?=some d:=by
     rw [List.getElem?_eq_getElem hlt]
     exact congrArg some (List.cons.inj hq).1.symm
    have hr:itm.items.drop (k+1)=r:=(List.cons.inj hq).2.symm
    obtain⟨g1,g2⟩:=ad.go k as' H' h' d rh' hch bs' hd1
    have im:=T.item Y yP yw yK yc k [] s' σ' H' (notedBy (model X.prog X.w) X.A (compEnvC scope cl H2.objs.size X.env) fun e s'=>RR (.ref acc) H2.objs.size (.error e) s') IY hfY stk g1
    rw [yA] at im
    refine thn im fun rr s1 ⟨u,hru,q1⟩=>?_
    subst hru
    refine thn q1 fun _ s2 ⟨xv,Hn,IY2,ru,hyl,st2,hf2⟩=>?_
    obtain⟨rfl,rxd⟩:=g2 xv Hn hyl
    have hfY2:∀ b∈fp,FpOk Y [] Hn b:=fun b hb=>⟨hf2 b hb,(hfY b hb).2⟩
    have IYp:=IY2.pinned hfY2 (fun b hb=>T.obj (k+1) _ st2 b hb)
    generalize hP:([]:List (Addr×Obj))++pinsAt fp s2.heap=P at IYp
    have again:∀ (s5:Shared) (σ5:St) (H5:Hp),Inv Y P σ5 H5 s5->Inv Y [] σ5 H5 s5/\tn (k+1) s5.heap/\∀ b∈fp,FpOk Y [] H5 b:=by
     intro s5 σ5 H5 I5
     rw [<-hP] at I5
     have pin:∀ b∈fp,∀ o,s2.heap.get? b=some o->s5.heap.get? b=some o/\H5 b=none:=fun b hb o e=>by
      have:=I5.pin (b,o) (by
       rw [List.nil_append]
       exact List.mem_append_right _ (mem_pinsAt hb e))
      exact⟨this.1,this.2.1⟩
     refine⟨I5.unpinned,T.keep (k+1) _ _ st2 fun b hb o e=>(pin b hb o e).1,fun b hb=>?_⟩
     obtain⟨o,ho,_⟩:=T.obj (k+1) _ st2 b hb
     exact⟨(pin b hb o ho).2,(hfY b hb).2⟩
    have hasg:=pgx P s2 σ' Hn xv u (fun σ2 H2'=>σ2=σ'.set 0 (some xv)/\H2'=Hn) IYp ru ⟨rfl,rfl⟩
    rw [yP,yw,yA,ye,yx] at hasg
    refine wpAny_mono hasg (fun _ s3 hq3=>?_) fun _ _ f=>f.elim
    obtain⟨σ2,H2',IY3,e2',e3'⟩:=hq3
    rw [e2',e3'] at IY3
    have reS:RelE X.K as' Hn (some d::freeEn fr env) (σ'.set 0 (some xv)):=reY.set 0 rxd
    cases ht:ft (some d::freeEn fr env) h' with
    | ex cc hh=>rw [ht] at pc'; exact pc'.elim
    | bad=>rw [ht] at pc'; exact pc'.elim
    | ok bb h2=>
     rw [ht] at pc'
     have tst:=hts.run (Q:=fun b H3=>b=bb/\∃ as3,Ext as' Hn as3 H3/\RelH X.K as3 H3 h2) IY3 ⟨as',some d::freeEn fr env,h',by rw [yK]; exact reS,by rw [yK]; exact rh',PX.ok_of ht fun as3 H3 x3 rh3=>⟨rfl,as3,x3,by rw [yK] at rh3; exact rh3⟩⟩
     rw [yP,yw,yA,ye,yx] at tst
     refine wpAny_mono tst (fun b3 s4 hq4=>?_) fun _ _ f=>f.elim
     obtain⟨H3,IY4,rfl,as3,x3,rh3⟩:=hq4
     cases b3 with
     | false=>
      have pc2:CPost X.K (G acc) as' Hn (compD itm.chk h1.length ft fe (freeEn fr env) r h2):=pc'
      rw [if_neg Bool.false_ne_true]
      obtain⟨J1,J2,J3⟩:=again s4 _ H3 IY4
      exact⟨n - 1,by omega,k+1,H3,_,as3,h2,some d,by omega,J1,J2,J3,rh3,x3.at hn',ad.mono _ _ _ _ x3 bs',reS.mono x3,by rw [hr]; exact CPost.later x3 pc2⟩
     | true=>
      rw [if_pos rfl]
      dsimp only at pc'
      cases hf:fe (some d::freeEn fr env) h2 with
      | ex cc hh=>rw [hf] at pc'; exact pc'.elim
      | bad=>rw [hf] at pc'; exact pc'.elim
      | ok d' h3=>
       rw [hf] at pc'
       dsimp only at pc'
       have eli:=hel P s4 _ H3 (fun v H4=>∃ as4,Ext as3 H3 as4 H4/\RelH X.K as4 H4 h3/\RelD X.K as4 H4 d' v) IY4 ⟨as3,some d::freeEn fr env,h2,by rw [yK]; exact reS.mono x3,by rw [yK]; exact rh3,PX.ok_of hf fun as4 H4 x4 rh4 v rv=>⟨as4,x4,by rw [yK] at rh4; exact rh4,by rw [yK] at rv; exact rv⟩⟩
       rw [yP,yw,yA,ye,yx] at eli
       refine wpAny_mono eli (fun uu s5 hq5=>?_) fun _ _ f=>f.elim
       obtain⟨vv,H4,IY5,ruu,as4,x4,rh4,rd4⟩:=hq5
       cases hit:itemsAt h3 h1.length with
       | none=>rw [hit] at pc'; exact pc'.elim
       | some ds=>
        rw [hit] at pc'
        dsimp only at pc'
        by_cases hz:ds.length < sizeLine
        ·rw [if_pos hz] at pc'
         have ha4:as4[h1.length]?=some acc:=x4.at (x3.at hn')
         obtain⟨ws,hw,rws⟩:=rh4.obj h1.length acc _ ha4 (of_itemsAt hit)
         have ex5:=ext_lst (vs:=ws++[vv]) rh4 ha4 (of_itemsAt hit)
         have app:=mt_append (X:=Y) P s5 _ H4 (.ref acc) [vv] (.ref acc) [uu] (fun _ H5=>H5=upd H4 acc (.lst (ws++[vv]))) IY5 rfl (.cons ruu .nil) ⟨acc,ws,vv,rfl,rfl,hw,by rw [<-rws.length]; exact hz,rfl⟩
         rw [yP,yw,yA,yx] at app
         refine wpAny_mono app (fun _ s6 hq6=>?_) fun _ _ f=>f.elim
         obtain⟨_,H5,IY6,_,rfl⟩:=hq6
         obtain⟨J1,J2,J3⟩:=again s6 _ _ IY6
         have xx:=x3.trans (x4.trans ex5)
         exact⟨n - 1,by omega,k+1,_,_,as4,h3.set h1.length (.lst (ds++[d'])),some d,by omega,J1,J2,J3,rh4.setL ha4 (of_itemsAt hit) (Pd.app rws (.cons rd4 .nil)),ha4,ad.mono _ _ _ _ xx bs',reS.mono xx,by rw [hr]; exact CPost.later xx pc'⟩
        ·rw [if_neg hz] at pc'
         exact pc'.elim
   ·rw [if_neg hch] at pc'
    exact pc'.elim
 have self:=T.self X.A 0 { s₂ with heap:=h₁,toks:=s₂.toks+([]:List (Str×Value)).length } (fun it' s'=>codeAny (model X.prog X.w) X.A (.compLoop (.ListComp elt [⟨.Name x px,iter,ifs,0⟩] scope pos) 0 it' (.ref acc) (compEnvC scope cl H2.objs.size X.env)) (RR (.ref acc) H2.objs.size) s')
  (notedBy (model X.prog X.w) X.A (compEnvC scope cl H2.objs.size X.env) fun e s'=>RR (.ref acc) H2.objs.size (.error e) s') stay (loop _ rfl)
 exact codeAny_compStart_list (loop _ rfl) self
noncomputable def fComp (fi:FI) (fr:List Nat) (ft:FT) (fe:FE):FE:=fun env h=>(fi env h).bind fun it h1=>.ofO ((compD it.chk h1.length ft fe (freeEn fr env) it.items (h1++[.lst []])).map fun h2=>(.lst h1.length,h2))
def FrOk (X:Cx) (scope:Scope):List Nat->List Str->Prop
 | [],[]=>True
 | i::r,n::t=>(X.N[i]?=some n/\X.env.kindOf n=some .cell/\((relabel scope X.env).names.lookup n=some .cell\/(relabel scope X.env).names.lookup n=some .free))/\FrOk X scope r t
 | _,_=>False
theorem FrOk.spec {X:Cx}{scope:Scope}:∀ {fr:List Nat}{frn:List Str},FrOk X scope fr frn->fr.length=frn.length/\(∀ (j i:Nat) n,fr[j]?=some i->frn[j]?=some n->X.N[i]?=some n/\X.env.kindOf n=some .cell)/\
  ∀ n∈frn,(relabel scope X.env).names.lookup n=some .cell\/(relabel scope X.env).names.lookup n=some .free
 | [],[],_=>⟨rfl,fun j i n h=>by simp at h,fun n h=>nomatch h⟩
 | i::r,n::t,⟨⟨h1,h2,h3⟩,h4⟩=>by
  obtain⟨q1,q2,q3⟩:=FrOk.spec h4
  refine⟨by simp [q1],fun j i' n' e1 e2=>?_,fun n' hn=>?_⟩
  ·cases j with
   | zero=>
    simp only [List.getElem?_cons_zero,Option.some.injEq] at e1 e2
    subst e1 e2
    exact⟨h1,h2⟩
   | succ j=>
    simp only [List.getElem?_cons_succ] at e1 e2
    exact q2 j i' n' e1 e2
  ·rcases List.mem_cons.mp hn with rfl | hn
   ·exact h3
   ·exact q3 n' hn
theorem compOk_of {X:Cx}{scope:Scope}{x:Str}{fr:List Nat}{frn:List Str}{cl:List (Str×Addr)} (hcl:clFold X.env.cells scope.names []=some cl) (hcell:∀ y∈scope.names,y.2≠.cell) (hkind:scope.kind=.function)
  (hnames:∀ y∈scope.names,y.2=.local->scope.names.lookup y.1=some .local) (hown:scope.names.lookup x=some .local) (hnd:(x::frn).Nodup) (hfr:FrOk X scope fr frn):CompOk X scope x fr frn cl:=
 ⟨hcl,hcell,hkind,hnames,hown,hnd,hfr.spec.1,hfr.spec.2.1,hfr.spec.2.2⟩
section
variable {X:Cx}{elt iter:Expr}{x:Str}{px:Pos}{ifs:List Expr}{scope:Scope}{pos:Pos}{fr:List Nat}{frn:List Str}{cl:List (Str×Addr)}{fi:FI}{ft:FT}{fe:FE}
theorem comp_none {pins:List (Addr×Obj)}{σ:St}{H':Hp}{s':Shared}{C:Addr}{h':Heap} (IX:Inv X pins σ H' s') (hs:Heap.SameBut C s'.heap h') (h1:H' C=none) (h2:C≠X.env.locals) (h3:X.s₀.heap.objs.size<=C)
  (h4:∀ y z,X.env.cells.lookup y=some z->z≠C) (h5:∀ q∈X.pn++pins,q.1≠C):Inv X pins σ H' { s' with heap:=h' }:=
 IX.turned (t':=s'.toks) (it:=C) (fun b o hb e=>(hs.2 b hb).trans e) h1 h2 (.inr h3) h4 h5
theorem de_comp (hcalm:X.calm=true) (hi:DI X (.Name x px) iter fi)
  (hin:∀ (C:Addr) (s₀:Shared) (H₀:Hp) (fp:List Addr),DTs (cxComp X scope cl C (x::frn) s₀ H₀ fp) ifs ft/\DE (cxComp X scope cl C (x::frn) s₀ H₀ fp) elt fe)
  (hcl:clFold X.env.cells scope.names []=some cl:=by rfl) (hcell:∀ y∈scope.names,y.2≠.cell:=by decide) (hkind:scope.kind=.function:=by rfl)
  (hnames:∀ y∈scope.names,y.2=.local->scope.names.lookup y.1=some .local:=by decide) (hown:scope.names.lookup x=some .local:=by rfl) (hnd:(x::frn).Nodup:=by decide)
  (hfr:FrOk X scope fr frn:=by repeat' (first | exact trivial | exact rfl | exact Or.inl rfl | exact Or.inr rfl | refine⟨⟨?_,?_,?_⟩,?_⟩))
  (hs:∀ x,foldedSetIterable iter X.env x=pure x:=by intro _; rfl):DE X (.ListComp elt [⟨.Name x px,iter,ifs,0⟩] scope pos) (fComp fi fr ft fe):=by
 have c:=compOk_of hcl hcell hkind hnames hown hnd hfr
 intro pins s σ H Q I ⟨as,env,h,re,rh,p⟩
 rw [eval_ListComp]
 refine wpAny_comprehension_free (use:=none) rfl hs (clFold_closure c.cl) c.kind c.names ?_
 refine comp_core (RR:=fun acc C=>compPost (model X.prog X.w) X.A X.xe none (EP X pins σ Q) acc C) (G:=fun acc asf Hf hf=>Q (.ref acc) Hf) c hcalm hi hin I re rh ?_ ?_
 ·refine (PX.bind p).imp fun as1 H1 h1 it e1 rh1 p1 acc hacc=>?_
  cases hc:compD it.chk h1.length ft fe (freeEn fr env) it.items (h1++[.lst []]) with
  | none=>rw [hc] at p1; exact p1.elim
  | some hf=>
   rw [hc] at p1
   intro asf Hf y rhf
   exact p1 asf Hf ((ext_new hacc).trans y) rhf (.ref acc) (.lst (y.at (by rw [<-rh1.len]; exact List.getElem?_concat_length)))
 ·intro acc C H' s' asf hf g IX ⟨m,hm⟩ h1 h2 h3 h4 h5
  exact⟨m,hm,fun h' hs'=>⟨.ref acc,H',comp_none IX hs' h1 h2 h3 h4 h5,rfl,g⟩⟩
end
section
variable {X:Cx}{tg:Expr}
end
open Classical in
noncomputable def ofR (R:List D->D->Prop):List D->Option D:=fun ds=>if h:∃ d,R ds d then some h.choose else none
noncomputable def relF (R:List D->D->Prop):OC:=pureF (ofR R)
def Runs (g:OC) (R:List D->D->Prop):Prop:=∀ ds d,R ds d->HB 0 d/\∀ h,∃ junk,g ds h=some (d,h++junk)
def Det (R:List D->D->Prop):Prop:=∀ ds d d',R ds d->R ds d'->d=d'
theorem Runs.det {g:OC}{R:List D->D->Prop} (r:Runs g R):Det R:=fun ds d d' h h'=>by
 obtain⟨j,e⟩:=(r ds d h).2 []
 obtain⟨j',e'⟩:=(r ds d' h').2 []
 rw [e] at e'
 exact (Prod.mk.inj (Option.some.inj e')).1
theorem ofR_some {R:List D->D->Prop}{ds:List D}{d:D} (h:ofR R ds=some d):R ds d:=by
 unfold ofR at h
 split at h
 ·rename_i e
  cases h
  exact e.choose_spec
 ·cases h
theorem ofR_eq {R:List D->D->Prop} (t:Det R) {ds:List D}{d:D} (r:R ds d):ofR R ds=some d:=by
 have e:∃ d,R ds d:=⟨d,r⟩
 unfold ofR
 rw [dif_pos e,t ds _ _ e.choose_spec r]
theorem relF_eq {R:List D->D->Prop} (t:Det R) {ds:List D}{d:D} (r:R ds d) (h:Hh):relF R ds h=some (d,h):=by
 unfold relF pureF
 rw [ofR_eq t r]
 rfl
theorem Cal.rel {P:Program}{w:World}{K:PySem.W.Frag}{mg:Str->Option Value}{base:Heap}{k:Nat}{x:Str}{ps:List Str}{g:OC}{R:List D->D->Prop} (c:Cal P w K mg base k x ps g) (r:Runs g R):Cal P w K mg base k x ps (relF R):=
 c.pure (fun ds h d e=>(r ds d (ofR_some e)).2 h) fun ds d e=>(r ds d (ofR_some e)).1
theorem obj_there {P:Program}{w:World}{H:Hp}{h:Heap}{a:Addr}{o:HO} (x:ObjOk P w H h a o):∃ u,h.get? a=some u:=by
 cases o with
 | lst xs=>obtain⟨_,_,_,_,e⟩:=x; exact⟨_,e⟩
 | tup xs=>obtain⟨_,_,_,_,e,_⟩:=x; exact⟨_,e⟩
 | dK kvs=>obtain⟨_,_,_,_,o,_,_,e,_⟩:=x; exact⟨_,e⟩
 | dT kvs=>obtain⟨_,_,_,_,o,_,_,e,_⟩:=x; exact⟨_,e⟩
 | set S n=>obtain⟨o,_,_,_,e,_⟩:=x; exact⟨_,e⟩
 | ins C dx fs=>obtain⟨_,_,_,e,_⟩:=x; exact⟨_,e⟩
 | own y=>exact x
 | xd fs=>obtain⟨_,⟨_,_,_,e,_⟩,_⟩:=x; exact⟨_,e⟩
 | rng lo hi=>obtain⟨_,_,_,e⟩:=x; exact⟨_,e⟩
 | frz ob u=>obtain⟨e,_⟩:=x; exact⟨_,e⟩
 | tbl ps=>exact⟨_,(show h.get? a=some _ from x)⟩
 | met f y=>exact⟨_,(show h.get? a=some _ from x)⟩
 | ext φ=>obtain⟨_,⟨_,e⟩,_⟩:=x; exact⟨_,e⟩
section
variable {X:Cx}{pins:List (Addr×Obj)}{σ:St}{H:Hp}{s:Shared}
theorem flown {h':Heap}{bad:List Addr} (I:Inv X pins σ H s) (hb:∀ b∈bad,Loose X pins H b/\∃ o vs,s.heap.get? b=some o/\o.data=.fields vs)
  (keep:∀ b o,b∉frs X.stack->b∉bad->s.heap.get? b=some o->h'.get? b=some o) (slot:∀ b o,b∈frs X.stack->s.heap.get? b=some o->∃ sl,h'.get? b=some { o with slots:=sl }):
  Inv X pins σ H { s with heap:=h' }:=by
 have any:∀ b o,b∉bad->s.heap.get? b=some o->∃ sl,h'.get? b=some { o with slots:=sl }:=fun b o nb e=>by
  by_cases m:b∈frs X.stack
  ·exact slot b o m e
  ·exact⟨o.slots,keep b o m nb e⟩
 have old:∀ b o,X.s₀.heap.get? b=some o->b∉bad:=fun b o e z=>by
  rw [(hb b z).1.1] at e
  cases e
 have nrec:∀ b o,s.heap.get? b=some o->(∀ vs,o.data≠.fields vs)->b∉bad:=fun b o e n z=>by
  obtain⟨_,o',vs,e',d⟩:=hb b z
  rw [e] at e'
  cases e'
  exact n vs d
 have cellK:∀ x c,X.env.cells.lookup x=some c->∀ v,s.heap.IsCell c v->h'.IsCell c v:=fun x c e v ⟨o,ho,hd⟩=>by
  obtain⟨sl,q⟩:=any c o (nrec c o ho fun vs z=>by rw [hd] at z; cases z) ho
  exact⟨_,q,hd⟩
 refine⟨I.ok,I.os,I.bare,⟨fun b o e n nb hx=>?_,fun b o e n mb hx=>?_,I.base.free,fun b o e hx=>?_,I.base.tups,I.base.frzs,I.base.tbls⟩,?_,fun x c e=>?_,I.free,I.freeC,fun p hp=>?_,fun b u e=>?_,I.len⟩
 ·refine keep b o (fun m=>?_) (old b o e) (I.base.keep b o e n nb hx)
  rcases List.mem_cons.mp (I.stkSub b m) with z | z
  ·exact absurd (Nat.lt_of_lt_of_le (Heap.lt_size e) I.ok.above) (by rw [z]; exact Nat.lt_irrefl _)
  ·exact nb z
 ·obtain⟨sl,e1⟩:=I.base.slot b o e n mb hx
  obtain⟨sl',e2⟩:=any b _ (old b o e) e1
  exact⟨sl',e2⟩
 ·obtain⟨o',e1⟩:=I.base.there b o e hx
  obtain⟨sl,e2⟩:=any b o' (old b o e) e1
  exact⟨_,e2⟩
 ·obtain⟨m,⟨o,es,ep,ho,hd,r⟩,hl⟩:=I.loc
  obtain⟨sl,q⟩:=any _ o (nrec _ o ho fun vs z=>by rw [hd] at z; cases z) ho
  refine⟨m,⟨_,es,ep,q,hd,r⟩,fun i x v e1 e2 e3=>?_⟩
  obtain⟨u,ru,l⟩:=hl i x v e1 e2 e3
  refine⟨u,ru,?_⟩
  rcases l with l | ⟨k,c,e,z⟩
  ·exact .inl l
  ·exact .inr ⟨k,c,e,cellK x c e _ z⟩
 ·obtain⟨v,z⟩:=I.cell x c e
  exact⟨v,cellK x c e v z⟩
 ·obtain⟨e,n,ne,nf,d⟩:=I.pin p hp
  refine⟨keep p.1 p.2 (fun m=>(List.mem_cons.mp (I.stkSub p.1 m)).elim ne nf) (fun z=>(hb _ z).1.2.2 p hp rfl) e,n,ne,nf,d⟩
 ·refine (I.hok b u e).stay (fun c v hc q=>?_) (fun _ q=>q) fun _ _ q=>q
  have hcn:H c≠none:=by
   rcases hc with z | z
   ·rw [z,e]; exact fun z=>nomatch z
   ·rw [z]; exact fun z=>nomatch z
  exact keep c v (fun m=>hcn (I.stkFree c m)) (fun z=>hcn (hb c z).1.2.1) q
theorem loose_of (I:Inv X pins σ H s) (hex:X.ex=[]) {b:Addr} (e:s.heap.get? b=none) (n:H b=none):Loose X pins H b:=by
 refine⟨?_,n,fun q hq z=>?_⟩
 ·cases q:X.s₀.heap.get? b with
  | none=>rfl
  | some o=>
   obtain⟨o',e'⟩:=I.base.there b o q (by rw [hex]; exact fun z=>nomatch z)
   rw [e] at e'
   cases e'
 ·obtain⟨q1,_⟩:=I.pin q hq
  rw [z,e] at q1
  cases q1
theorem not_tracked (I:Inv X pins σ H s) {b:Addr} (e:s.heap.get? b=none):H b=none:=by
 cases q:H b with
 | none=>rfl
 | some u=>
  obtain⟨o,z⟩:=obj_there (I.hok b u q)
  rw [e] at z
  cases z
theorem Fly.imp {h:Heap}{p:Addr}{c:Value}{L L':Addr->Prop} (f:Fly h p c L) (k:∀ b,L b->L' b):Fly h p c L':=by
 obtain⟨oe,vs,a0,T,oT,ts,e1,e2,e3,e4,e5,e6,e7,e8,e9,e10,e11⟩:=f
 exact⟨oe,vs,a0,T,oT,ts,e1,e2,e3,e4,k _ e5,e6,e7,e8,e9,e10,k _ e11⟩
theorem fly_land {M:Model}{A:Around}{E:Value->Shared->Prop}{Q:Unit->Shared->Prop}{p:Addr}{c:Value} (I:Inv X pins σ H s) (hex:X.ex=[]) (hst:X.stack=X.env::X.outer) (hfr:X.env.frame=some X.env.locals) (hA:A.frames=some X.stack)
  (fl:Fresh s.heap p c (Loose X pins H)\/Fly s.heap p c (Loose X pins H))
  (k:∀ h',Inv X pins σ H { s with heap:=h' }->Fly h' p c (Loose X pins H)->Q () { s with heap:=h' }):
  wpAny M A (noteFrame (.ref p) X.env) (fun _ s1=>wpAny M A (setFlight (.ref p) none) Q E s1) E s:=by
 have hl0:=I.stack
 have main:∀ (bad:List Addr) (a0:Value),p∈bad->(∀ b∈bad,Loose X pins H b/\∃ o vs,s.heap.get? b=some o/\o.data=.fields vs)->
   ∀ h1,Heap.NotedW (PySem.W.hideAll s.heap (frs X.stack++bad)) (X.env::X.outer) p c a0 (rawInt X.env.locals) s.heap h1->wpAny M A (setFlight (.ref p) none) Q E { s with heap:=h1 }:=by
  intro bad a0 hp hb h1 ⟨n1,n2,n3,n4⟩
  refine wpAny_setFlight_noneW (s:={ s with heap:=h1 }) n1 n2 n3 fun h2 j1 j2 j3 j4=>?_
  have keep:∀ b o,b∉frs X.stack->b∉bad->s.heap.get? b=some o->h2.get? b=some o:=fun b o m nb e=>
   j1 b o (PySem.W.hideAll_get _ e fun z=>(List.mem_append.mp z).elim m nb)
  have slot:∀ b o,b∈frs X.stack->s.heap.get? b=some o->∃ sl,h2.get? b=some { o with slots:=sl }:=fun b o m e=>by
   obtain⟨_,o',e',nf⟩:=hl0.mem m
   rw [e] at e'
   cases e'
   obtain⟨sl,q⟩:=n4 b o e nf
   exact⟨sl,j4 b _ q nf⟩
  have I2:=flown I hb keep slot
  refine k h2 I2 ?_
  obtain⟨oe,vs,T,oT,ts,he,⟨hc,h0⟩,hd,t1,hnT,hTp,hT,hdT,t3⟩:=j3
  refine⟨oe,vs,a0,T,oT,ts,he,hc,hd,h0,(hb p hp).1,t1,hTp,hT,hdT,t3,?_⟩
  by_cases mb:T∈bad
  ·exact (hb T mb).1
  ·have no:s.heap.get? T=none:=by
    cases q:s.heap.get? T with
    | none=>rfl
    | some o=>
     by_cases m:T∈frs X.stack
     ·obtain⟨_,o',e',nf⟩:=hl0.mem m
      obtain⟨sl,e2⟩:=slot T o' m e'
      rw [hT] at e2
      cases e2
      exact absurd hdT (nf ts)
     ·have:=PySem.W.hideAll_get (frs X.stack++bad) q fun z=>(List.mem_append.mp z).elim m mb
      rw [hnT] at this
      cases this
   exact loose_of I hex no (not_tracked I no)
 have hfun:∀ bad:List Addr,s.heap.FunFrames (PySem.W.hideAll s.heap (frs X.stack++bad)) (X.env::X.outer):=fun bad=>by
  rw [hst] at hl0 |-
  exact PySem.W.funFrames_hide hl0 fun env he a ha=>List.mem_append_left _ (List.mem_filterMap.mpr ⟨env,he,ha⟩)
 rw [hst] at hA
 rcases fl with⟨oe,vs,a0,he,hc,hd,h0,lp,t1⟩ | ⟨oe,vs,a0,T,oT,ts,he,hc,hd,h0,lp,t1,hTp,hT,hdT,t3,lT⟩
 ·subst hc
  have hb:∀ b∈[p],Loose X pins H b/\∃ o vs,s.heap.get? b=some o/\o.data=.fields vs:=fun b z=>by
   cases List.mem_singleton.mp z
   exact⟨lp,oe,vs,he,hd⟩
  unfold noteFrame
  simp only [hfr]
  refine wpAny_bind (wpAny_field he hd t1 ?_)
  rw [if_neg (by decide)]
  exact wpAny_entryW hA (hfun [p]) hfr he (fun b o z=>PySem.W.of_hideAll _ z) (PySem.W.hideAll_none _ (List.mem_append_right _ (List.mem_singleton.mpr rfl))) hd (Array.getElem?_eq_some_iff.mp t1).1 h0 fun h1 n=>main [p] a0 (List.mem_singleton.mpr rfl) hb h1 n
 ·subst hc
  have hb:∀ b∈[p,T],Loose X pins H b/\∃ o vs,s.heap.get? b=some o/\o.data=.fields vs:=fun b z=>by
   rcases List.mem_cons.mp z with rfl | z
   ·exact⟨lp,oe,vs,he,hd⟩
   ·cases List.mem_singleton.mp z
    exact⟨lT,oT,ts,hT,hdT⟩
  exact wpAny_noteFrame_onW hA (hfun [p,T]) hfr ⟨oe,vs,T,oT,ts,he,⟨rfl,h0⟩,hd,t1,PySem.W.hideAll_none _ (List.mem_append_right _ (by simp)),hTp,hT,hdT,t3⟩ (fun b o z=>PySem.W.of_hideAll _ z) (PySem.W.hideAll_none _ (List.mem_append_right _ (by simp)))
   fun h1 n=>main [p,T] a0 (by simp) hb h1 n
end
def CX1 (P:Program) (w:World):CXT:=fun outer H s E e s'=>∃ p c H',e=.ref p/\s'.os=s.os/\AllBare s'.gens/\Un (frs outer) [] H H' s.heap s'.heap/\HOk P w H' s'.heap/\Fly s'.heap p c (fun b=>s.heap.get? b=none/\H' b=none)/\E c none H'
abbrev OX:=List D->Hh->Res D
def PQX (K:PySem.W.Frag) (as:List Addr) (H:Hp) (r:Res D) (Q:VK) (E:XK):Prop:=match r with
 | .ok d h'=>∀ as' H' v,Ext as H as' H'->RelH K as' H' h'->RelD K as' H' d v->Q v H'
 | .ex c h'=>∀ as' H',Ext as H as' H'->RelH K as' H' h'->E c none H'
 | .bad=>False
def spX (K:PySem.W.Frag) (n:Nat) (g:OX):Sp:=fun vs H Q E=>vs.length=n/\∃ as ds h,RelH K as H h/\RelDs K as H ds vs/\PQX K as H (g ds h) Q E
def fnOutX (o:Out):Res D:=match o with
 | .rt d h'=>.ok d h'
 | .nx _ h'=>.ok .non h'
 | .ex c _ h'=>.ex c h'
 | _=>.bad
def fnRunX (n:Nat) (t:FS):OX:=fun ds h=>fnOutX (t (startE n ds) h)
theorem fnRunX_ex {n:Nat}{t:FS}{ds:List D}{h h1:Hh}{c:Value}{e:En} (q:t (startE n ds) h=.ex c e h1):fnRunX n t ds h=.ex c h1:=by unfold fnRunX; rw [q]; rfl
theorem fnRunX_nx {n:Nat}{t:FS}{ds:List D}{h h1:Hh}{e:En} (q:t (startE n ds) h=.nx e h1):fnRunX n t ds h=.ok .non h1:=by unfold fnRunX; rw [q]; rfl
section
variable {P:Program}{w:World}{K:PySem.W.Frag}{mg:Str->Option Value}{base:Heap}
theorem fn_DX {x qual:Str}{st:Stmt}{f:Addr}{fd:FuncData}{N ps:List Str}{k:Nat}{t:FS} (F:Fun K x qual st f fd) (S:FnScope N ps (defScope st))
  (hb:∀ (cdv:Value) (A:Around) (outer:List Env) (s:Shared) (H:Hp) (E:XK),Room k (A.deeper (envOfC qual (defScope st) s.heap.objs.size f cdv))->
   DSs (cxOf (CX1 P w) P w K mg base N qual (defScope st) f cdv A outer s H E) (defBody st) t):FnOk P w K mg base (CX1 P w) (k+1) f fd ps (spX K ps.length (fnRunX N.length t)):=by
 obtain⟨oc,od,kV,doc,pm,an,cdv,ct,osl,rfl,lk,hcd⟩:=F.ex
 refine fn_of lk hcd S (fun vs H Q E h=>h.1) fun A outer s H vs Q E hr h=>⟨_,hb cdv A outer s H E hr,?_⟩
 obtain⟨hl,as,ds,h,rh,rd,p⟩:=h
 refine⟨as,startE N.length ds,h,relE_start rd,rh,?_⟩
 unfold fnRunX at p
 cases e:t (startE N.length ds) h with
 | rt d h'=>rw [e] at p; exact fun as' H' v x rh' rd'=>p as' H' v x rh' rd'
 | nx e1 h'=>rw [e] at p; exact fun as' H' σ' x rh' re'=>p as' H' .non x rh' .non
 | bk e1 h'=>rw [e] at p; exact p.elim
 | ct e1 h'=>rw [e] at p; exact p.elim
 | bad=>rw [e] at p; exact p.elim
 | ex c e1 h'=>
  rw [e] at p
  rintro pins σ' H' _ s' I ⟨q,rfl,fl⟩ ⟨as',x,rh',re'⟩
  show wpAny _ _ (leaving _ _) _ _ _
  unfold leaving
  refine wpAny_bind (fly_land I rfl rfl rfl I.ok.frames fl fun h2 I2 fl2=>?_)
  exact⟨q,c,H',rfl,I2.os,I2.bare,I2.base,I2.hok,fl2.imp fun b z=>⟨z.1,z.2.1⟩,p as' H' x rh'⟩
end
def CalX (P:Program) (w:World) (K:PySem.W.Frag) (mg:Str->Option Value) (base:Heap) (k:Nat) (x:Str) (ps:List Str) (g:OX):Prop:=
 ∃ f fd,FnOk P w K mg base (CX1 P w) k f fd ps (spX K ps.length g)/\mg x=some (.ref f)/\PySem.W.keepIn K (.ref f)=true/\Binds K fd ps []
theorem CalX.mono {P:Program}{w:World}{K:PySem.W.Frag}{mg:Str->Option Value}{base:Heap}{k k':Nat}{x:Str}{ps:List Str}{g:OX} (c:CalX P w K mg base k x ps g) (h:k<=k'):CalX P w K mg base k' x ps g:=by
 obtain⟨f,fd,c1,c2⟩:=c
 exact⟨f,fd,c1.mono h,c2⟩
theorem calX_mk {P:Program}{w:World}{K:PySem.W.Frag}{mg:Str->Option Value}{base:Heap}{x qual:Str}{st:Stmt}{f:Addr}{fd:FuncData}{N ps:List Str}{k:Nat}{t:FS} (F:Fun K x qual st f fd) (S:FnScope N ps (defScope st)) (hm:mg x=some (.ref f)) (b:Binds K fd ps [])
  (hb:∀ (cdv:Value) (A:Around) (outer:List Env) (s:Shared) (H:Hp) (E:XK),Room k (A.deeper (envOfC qual (defScope st) s.heap.objs.size f cdv))->
   DSs (cxOf (CX1 P w) P w K mg base N qual (defScope st) f cdv A outer s H E) (defBody st) t):CalX P w K mg base (k+1) x ps (fnRunX N.length t):=
 ⟨f,fd,fn_DX F S hb,hm,F.kp,b⟩
def fcX (r:OX) (f:FA):FE:=fun env h=>(f env h).bind fun x h1=>r x h1
section
variable {X:Cx}{k:Nat}{ps:List Str}{x:Str}{p pos:Pos}{e:Expr}{es:List Expr}{fs:List FE}{g:OX}
theorem de_calX (c:CalX X.prog X.w X.K X.mg X.base k x ps g) (hr:Room k X.A) (ha:DA X (e::es) (fAll fs)) (hex:X.ex=[]:=by rfl) (hg:Gl X x:=by rfl) (hl:fs.length=ps.length:=by rfl)
  (hdb:(x==("__debug__":Str))=false:=by decide) (he:starEach (e::es) X.env=(false,eval e X.env)::starEach es X.env:=by rfl) (hpl:(backTo pos (starEach es X.env)).any (·.1)=false:=by rfl):
  DE X (.Call (.Name x p) (e::es) [] pos) (fcX g (fAll fs)):=by
 obtain⟨f,fd,F,hm,hk,hb⟩:=c
 intro pins s σ H Q I ⟨as,env,h,re,rh,p⟩
 refine wpAny_Call_Name_kw (ld_glob I hg hm ?_ hdb)
 have hA:=ha pos pins s σ H (fun vs H1=>vs.length=ps.length/\∃ as1 ds h1,Ext as H as1 H1/\RelH X.K as1 H1 h1/\RelDs X.K as1 H1 ds vs/\PX X as1 H1 env (g ds h1) fun as' H' _ d=>∀ v,RelD X.K as' H' d v->Q v H') I
  ⟨as,env,h,re,rh,(PX.bind p).lenA.imp fun as1 H1 h1 ds e1 rh1 p1 vs rvs=>⟨by rw [<-rvs.length,p1.1,hl],as1,ds,h1,e1,rh1,rvs,p1.2⟩⟩
 refine PySem.W.callWith_K (h₀:=X.base) I.ok.mod.kin hk (thn hA fun us s1 ⟨vs,H1,I1,r,hlen,as1,ds,h1,e1,rh1,rvs,q⟩=>⟨I1.kIn,?_⟩) he hpl
 have hl2:us.length=ps.length:=by rw [<-r.length]; exact hlen
 have hb2:=hb s1 us I1.kIn (by rw [List.append_nil]; exact hl2)
 rw [List.append_nil] at hb2
 refine wpAny_call (codeAny_mono (F.run X.A X.stack s1 H1 ⟨us,[]⟩ us vs Q (fun c _ H'=>∀ e' s',Inv X pins σ H' s'->Flies X pins H' e' c s'->X.xe e' s') hr I1.env0 hb2 r ⟨hlen,as1,ds,h1,rh1,rvs,?_⟩) fun r s' hq=>?_)
 ·cases q0:g ds h1 with
  | bad=>rw [q0] at q; exact q.elim
  | ok d h'=>
   rw [q0] at q
   exact fun as' H' v x rh' rd'=>q as' H' x rh' v rd'
  | ex c h'=>
   rw [q0] at q
   exact fun as' H' x rh' e' s' I' fl=>q pins σ H' e' s' I' fl ⟨as',x,rh',re.mono (e1.trans x)⟩
 ·cases r with
  | error e'=>
   obtain⟨q',c,H',rfl,os,bare,un,hok,fl,w⟩:=hq
   have I2:Inv X pins σ H' s':=I1.call' os un hok bare (fun b z=>absurd z (by simp))
   exact w _ s' I2 ⟨q',rfl,.inr (fl.imp fun b z=>⟨(loose_of I1 hex z.1 (not_tracked I1 z.1)).1,z.2,(loose_of I1 hex z.1 (not_tracked I1 z.1)).2.2⟩)⟩
  | ok fl=>
   cases fl with
   | ret u=>exact I1.after hq
   | next=>exact False.elim hq
   | brk=>exact False.elim hq
   | cont=>exact False.elim hq
end
abbrev bmV:List Value:=[.type "ValueError",.type "Exception",.type "BaseException",.type "object"]
def ExC (K:PySem.W.Frag) (C:Addr) (bm:List Value):Prop:=∃ N nm q bs hdct sn sub ab col dd k0 k1 k2 k3 k5,K.lookup C=some (excClassObj nm q C N bs bm hdct sn sub ab col dd k0 k1 k2 k3 k5 "ValueError.__new__")/\
 PySem.W.tailIn K bmV bm=true/\PySem.W.nsOkIn K N=true/\PySem.W.nsIn K N "__init__"=some none
def fRaise (c:Value) (f:FE):FS:=fun e h=>(fAll [f] e h).out e fun _ h1=>.ex c e h1
theorem ds_raise {X:Cx}{x:Str}{np cpos pos:Pos}{a:Expr}{f:FE}{C:Addr}{bm:List Value} (ec:ExC X.K C bm) (hm:X.mg x=some (.ref C)) (ha:DA X [a] (fAll [f])) (hcalm:X.calm=true:=by rfl) (hex:X.ex=[]:=by rfl) (hg:Gl X x:=by rfl)
  (hdb:(x==("__debug__":Str))=false:=by decide) (he:starEach [a] X.env=(false,eval a X.env)::starEach [] X.env:=by rfl) (hpl:(backTo cpos (starEach [a] X.env)).any (·.1)=false:=by rfl):
  DS X (.Raise (some (.Call (.Name x np) [a] [] cpos)) none pos) (fRaise (.ref C) f):=by
 intro pins s σ H Dn I ⟨as,env,h,re,rh,p⟩
 obtain⟨N,nm,qn,bs,hdct,sn,sub,ab,col,dd,k0,k1,k2,k3,k5,lk,tl,ok,ini⟩:=ec
 have kin:=I.mod.kin
 refine wpAny_Raise_call_subT (C:=C) (N:=N) (nm:=nm) (q:=qn) (bs:=bs) (bm:=bm) (hdct:=hdct) (sn:=sn) (sub:=sub) (ab:=ab) (col:=col) (dd:=dd) (k0:=k0) (k1:=k1) (k2:=k2) (k3:=k3) (k5:=k5) (mN:=X.base.nsMap N) PySem.F.excBase_ValueError
  ((PySem.W.tail_of_in kin tl).hasType (by decide)) (I.ok.hd hcalm) hpl (PySem.W.nsMap_none_of_in kin ok ini) (ld_glob I hg hm ⟨rfl,?_⟩ hdb)
 have hA:=ha cpos pins s σ H (fun vs H1=>vs.length=1/\∃ as1 h1,Ext as H as1 H1/\RelH X.K as1 H1 h1/\POut X as1 H1 Dn (.ex (.ref C) env h1)) I
  ⟨as,env,h,re,rh,(PX.of_out p).lenA.imp fun as1 H1 h1 ds e1 rh1 p1 vs rvs=>⟨by rw [<-rvs.length,p1.1]; rfl,as1,h1,e1,rh1,p1.2⟩⟩
 rw [he] at hA |-
 refine Calls.evalArgs_plain (thn hA fun us s1 ⟨vs,H1,I1,r,hlen,as1,h1,e1,rh1,xw⟩=>⟨rfl,?_,I1.kIn _ _ lk,(Heap.Ns.of_isNs (PySem.W.isNs_of_in kin ok)).keeps I1.bk,PySem.W.tail_of_in I1.kIn tl,fun h' e m=>?_⟩)
 ·show us.length<=sizeLine
  rw [<-r.length,hlen]
  decide
 ·have I2:Inv X pins σ H1 { s1 with heap:=h' }:=I1.kept (t':=s1.toks) m.keeps
  obtain⟨t,he',_,_⟩:=m.there
  exact xw pins σ H1 (.ref e) _ I2 ⟨e,rfl,.inl ⟨_,_,.ref t,he',rfl,rfl,rfl,loose_of I1 hex m.new (not_tracked I1 m.new),rfl⟩⟩ ⟨as1,Ext.refl _ _,rh1,re.mono e1⟩
abbrev onTry (X:Cx) (pn:List (Addr×Obj)) (E:Value->Shared->Prop):Cx:={ X with pn:=pn,xe:=E }
abbrev inExc (X:Cx) (pn:List (Addr×Obj)) (p:Addr):Cx:={ X with pn:=pn,xe:=fun _ _=>False,A:=X.A.mark (some (.ref p)),calm:=false }
section
variable {X:Cx}{pins pins':List (Addr×Obj)}{σ:St}{H:Hp}{s:Shared}{E:Value->Shared->Prop}{p:Addr}
theorem inv_on (I:Inv X pins σ H s) (E:Value->Shared->Prop):Inv (onTry X (X.pn++pins) E) [] σ H s:=
 ⟨⟨I.ok.mod,I.ok.kind,I.ok.glob,I.ok.blt,I.ok.above,I.ok.inj,I.ok.has,I.ok.cab,I.ok.hd,I.ok.frames,I.ok.stk,I.ok.exf,I.ok.bs,I.ok.bsz,I.ok.noex,I.ok.exfs,I.ok.funs,I.ok.frf⟩,I.os,I.bare,I.base,I.loc,I.cell,I.free,I.freeC,
  fun q hq=>I.pin q ((List.mem_append.mp hq).elim id fun z=>nomatch z),I.hok,I.len⟩
theorem inv_off (ok:X.Ok) (I:Inv (onTry X (X.pn++pins) E) pins' σ H s):Inv X pins σ H s:=
 ⟨ok,I.os,I.bare,I.base,I.loc,I.cell,I.free,I.freeC,fun q hq=>I.pin q (List.mem_append_left _ hq),I.hok,I.len⟩
theorem inv_in (I:Inv X pins σ H s) (p:Addr):Inv (inExc X (X.pn++pins) p) [] σ H s:=
 ⟨⟨I.ok.mod,I.ok.kind,I.ok.glob,I.ok.blt,I.ok.above,I.ok.inj,I.ok.has,I.ok.cab,(fun z=>nomatch z),I.ok.frames,I.ok.stk,I.ok.exf,I.ok.bs,I.ok.bsz,I.ok.noex,I.ok.exfs,I.ok.funs,I.ok.frf⟩,I.os,I.bare,I.base,I.loc,I.cell,I.free,I.freeC,
  fun q hq=>I.pin q ((List.mem_append.mp hq).elim id fun z=>nomatch z),I.hok,I.len⟩
theorem inv_out (ok:X.Ok) (I:Inv (inExc X (X.pn++pins) p) pins' σ H s):Inv X pins σ H s:=
 ⟨ok,I.os,I.bare,I.base,I.loc,I.cell,I.free,I.freeC,fun q hq=>I.pin q (List.mem_append_left _ hq),I.hok,I.len⟩
theorem loose_off {a:Addr} (z:Loose (onTry X (X.pn++pins) E) pins' H a):Loose X pins H a:=⟨z.1,z.2.1,fun q hq=>z.2.2 q (List.mem_append_left _ hq)⟩
theorem sp_off {Dn:Ends}{f:Flow} (ok:X.Ok) (h:SP (onTry X (X.pn++pins) E) [] Dn f s):SP X pins Dn f s:=by
 cases f with
 | next=>obtain⟨σ',H',I,q⟩:=h; exact⟨σ',H',inv_off ok I,q⟩
 | brk=>obtain⟨σ',H',I,q⟩:=h; exact⟨σ',H',inv_off ok I,q⟩
 | cont=>obtain⟨σ',H',I,q⟩:=h; exact⟨σ',H',inv_off ok I,q⟩
 | ret u=>obtain⟨v,σ',H',I,r,q⟩:=h; exact⟨v,σ',H',inv_off ok I,r,q⟩
theorem sp_out {Dn:Ends}{f:Flow} (ok:X.Ok) (h:SP (inExc X (X.pn++pins) p) [] Dn f s):SP X pins Dn f s:=by
 cases f with
 | next=>obtain⟨σ',H',I,q⟩:=h; exact⟨σ',H',inv_out ok I,q⟩
 | brk=>obtain⟨σ',H',I,q⟩:=h; exact⟨σ',H',inv_out ok I,q⟩
 | cont=>obtain⟨σ',H',I,q⟩:=h; exact⟨σ',H',inv_out ok I,q⟩
 | ret u=>obtain⟨v,σ',H',I,r,q⟩:=h; exact⟨v,σ',H',inv_out ok I,r,q⟩
end
section
variable {M:Model}{A:Around}{E:Value->Shared->Prop}{s:Shared}
theorem exc_matches {K:PySem.W.Frag}{C C' e:Addr}{bm bm':List Value}{oe:Obj}{b:Bool}{Q:Bool->Shared->Prop} (kin:K.In s.heap) (ec:ExC K C bm) (ec':ExC K C' bm') (he:s.heap.get? e=some oe) (hc:oe.cls=.ref C) (hb:(Value.ref C::bm).contains (.ref C')=b) (q:Q b s):
  wpAny M A (excMatches (.ref e) (.ref C')) Q E s:=by
 obtain⟨N,nm,qn,bs,hdct,sn,sub,ab,col,dd,k0,k1,k2,k3,k5,lk,tl,ok,ini⟩:=ec
 obtain⟨N',nm',qn',bs',hdct',sn',sub',ab',col',dd',k0',k1',k2',k3',k5',lk',tl',ok',ini'⟩:=ec'
 have hC:=kin _ _ lk
 have hC':=kin _ _ lk'
 have t':(Value.ref C'::bm').contains (.type "BaseException")=true:=by
  rw [List.contains_cons,(PySem.W.tail_of_in kin tl').hasType (X:="BaseException") (b:=true) (by decide),Bool.or_true]
 have nt:=tc_notTuple
 obtain⟨hp,g,d,t,os⟩:=s
 unfold excMatches
 repeat (first
  | (with_reducible refine wpAny_loadPart_at he ?_; rw [hc])
  | with_reducible refine wpAny_loadPart_at hC' ?_
  | (with_reducible refine wpAny_isSubtype_exc hC' ?_; rw [t'])
  | (with_reducible refine wpAny_isSubtype_exc hC ?_; rw [hb])
  | wp_step)
 cases b<;>(wp_walk; exact q)
theorem lands {p:Addr}{c:Value}{L:Addr->Prop}{Q:Unit->Shared->Prop} (f:Fly s.heap p c L) (q:Q () s):wpAny M A (setFlight (.ref p) none) Q E s:=by
 obtain⟨oe,vs,a0,T,oT,ts,e1,e2,e3,e4,e5,e6,e7,e8,e9,e10,e11⟩:=f
 refine wpAny_setFlight_none e1 e3 e6 e8 e9 (Array.getElem?_eq_some_iff.mp e10).1 ?_
 rw [Heap.update_setField_same s.heap T oT ts 3 .none e8 e9 e10]
 exact q
end
def DH (X:Cx) (hs:List ExceptHandler) (c:Value) (g:FS):Prop:=∀ pins s σ H Dn p as env h,Inv X pins σ H s->Fly s.heap p c (Loose X pins H)->RelE X.K as H env σ->RelH X.K as H h->POut X as H Dn (g env h)->
 wpAny (model X.prog X.w) X.A (handleBy (.ref p) X.env hs) (SP X pins Dn) X.xe s
def noEx (f:FS):FS:=fun e h=>match f e h with
 | .ex _ _ _=>.bad
 | o=>o
section
variable {X:Cx}{x:Str}{np pos:Pos}{b₀:Stmt}{suite:List Stmt}{rest:List ExceptHandler}{g:FS}{C C':Addr}{bm bm':List Value}
theorem dh_hit (ec:ExC X.K C bm) (ec':ExC X.K C' bm') (hm:X.mg x=some (.ref C')) (hb:(Value.ref C::bm).contains (.ref C')=true) (hs:∀ pn p,DSs (inExc X pn p) (b₀::suite) g) (hg:Gl X x:=by rfl) (hdb:(x==("__debug__":Str))=false:=by decide):
  DH X (.ExceptHandler (some (.Name x np)) none (b₀::suite) pos::rest) (.ref C) (noEx g):=by
 intro pins s σ H Dn p as env h I fl re rh po
 have J:=inv_in I p
 obtain⟨oe,vs,a0,T,oT,ts,e1,e2,_⟩:=id fl
 refine wpAny_handleBy_cons (codeAny_handlers_test (ld_glob (X:=inExc X (X.pn++pins) p) J hg hm (exc_matches J.kIn ec ec' e1 e2 hb ?_) hdb)) (by intro q; cases q)
 refine codeAny_handlers_suite (lands fl ?_)
 refine wpAny_mono (hs (X.pn++pins) p [] s σ H Dn J ⟨as,env,h,re,rh,?_⟩) (fun f s2 q=>sp_out I.ok q) fun _ _ z=>z.elim
 unfold noEx at po
 cases q:g env h with
 | ex c' e' h'=>rw [q] at po; exact po.elim
 | nx e' h'=>rw [q] at po; exact po
 | rt d h'=>rw [q] at po; exact po
 | bk e' h'=>rw [q] at po; exact po
 | ct e' h'=>rw [q] at po; exact po
 | bad=>rw [q] at po; exact po
theorem dh_miss {name:Option Str}{body:List Stmt} (ec:ExC X.K C bm) (ec':ExC X.K C' bm') (hm:X.mg x=some (.ref C')) (hb:(Value.ref C::bm).contains (.ref C')=false) (hr:DH X rest (.ref C) g) (hg:Gl X x:=by rfl) (hdb:(x==("__debug__":Str))=false:=by decide):
  DH X (.ExceptHandler (some (.Name x np)) name body pos::rest) (.ref C) g:=by
 intro pins s σ H Dn p as env h I fl re rh po
 have J:=inv_in I p
 obtain⟨oe,vs,a0,T,oT,ts,e1,e2,_⟩:=id fl
 exact wpAny_handleBy_cons (codeAny_handlers_test (ld_glob (X:=inExc X (X.pn++pins) p) J hg hm (exc_matches J.kIn ec ec' e1 e2 hb (hr pins s σ H Dn p as env h I fl re rh po)) hdb)) (by intro q; cases q)
def fTry (f:FS) (m:Value->Option FS):FS:=fun e h=>match f e h with
 | .ex c e1 h1=>(match m c with
  | some g=>g e1 h1
  | none=>.bad)
 | o=>o
theorem fTry_nx {f:FS}{m:Value->Option FS}{e e1:En}{h h1:Hh} (q:f e h=.nx e1 h1):fTry f m e h=.nx e1 h1:=by unfold fTry; rw [q]
theorem fTry_ex {f g:FS}{m:Value->Option FS}{e e1:En}{h h1:Hh}{c:Value} (q:f e h=.ex c e1 h1) (hm:m c=some g):fTry f m e h=g e1 h1:=by unfold fTry; rw [q]; dsimp only; rw [hm]
theorem ds_try {body:List Stmt}{h₀:ExceptHandler}{hs:List ExceptHandler}{f:FS}{m:Value->Option FS} (hb:∀ pn E,DSs (onTry X pn E) body f) (hh:∀ c g,m c=some g->DH X (h₀::hs) c g)
  (hex:X.ex=[]:=by rfl) (hst:X.stack=X.env::X.outer:=by rfl) (hfr:X.env.frame=some X.env.locals:=by rfl):DS X (.Try body (h₀::hs) [] [] pos) (fTry f m):=by
 intro pins s σ H Dn I ⟨as,env,h,re,rh,p⟩
 refine wpAny_Try_except (wpAny_mono (hb (X.pn++pins) _ [] s σ H Dn (inv_on I _) ⟨as,env,h,re,rh,?_⟩) (fun f s1 q=>?_) fun _ _ z=>z)
 ·unfold fTry at p
  cases q:f env h with
  | nx e' h'=>rw [q] at p; exact p
  | rt d h'=>rw [q] at p; exact p
  | bk e' h'=>rw [q] at p; exact p
  | ct e' h'=>rw [q] at p; exact p
  | bad=>rw [q] at p; exact p
  | ex c e1 h1=>
   rw [q] at p
   dsimp only at p
   cases qm:m c with
   | none=>rw [qm] at p; exact p.elim
   | some g=>
    rw [qm] at p
    rintro pins' σ' H' _ s' J ⟨b,rfl,fl⟩ ⟨as',x,rh',re'⟩
    refine fly_land (inv_off I.ok J) hex hst hfr I.ok.frames (fl.imp (fun⟨oe,vs,a0,e1,e2,e3,e4,e5,e6⟩=>⟨oe,vs,a0,e1,e2,e3,e4,loose_off e5,e6⟩) fun z=>z.imp fun _=>loose_off) fun h2 I2 fl2=>?_
    exact hh c g qm pins _ σ' H' Dn b as' e1 h1 I2 fl2 re' rh' (POut.later x p)
 ·have q':=sp_off I.ok q
  cases f with
  | next=>exact wpAny_execs_nil q'
  | brk=>exact q'
  | cont=>exact q'
  | ret u=>exact q'
end
def mOf:List (Addr×FS)->Value->Option FS
 | [],_=>none
 | (a,g)::r,c=>match c with
  | .ref b=>if b=a then some g else mOf r (.ref b)
  | _=>none
theorem mOf_hit (a:Addr) (g:FS) (r:List (Addr×FS)):mOf ((a,g)::r) (.ref a)=some g:=by
 rw [mOf]
 exact if_pos rfl
theorem mOf_miss {a b:Addr} (g:FS) (r:List (Addr×FS)) (n:b≠a):mOf ((a,g)::r) (.ref b)=mOf r (.ref b):=by
 rw [mOf]
 exact if_neg n
section
variable {X:Cx}{hs:List ExceptHandler}
theorem mh_nil:∀ c g,mOf [] c=some g->DH X hs c g:=fun c g z=>by unfold mOf at z; cases z
theorem mh_cons {a:Addr}{g1:FS}{r:List (Addr×FS)} (h1:DH X hs (.ref a) g1) (h2:∀ c g,mOf r c=some g->DH X hs c g):∀ c g,mOf ((a,g1)::r) c=some g->DH X hs c g:=fun c g z=>by
 cases c with
 | ref b=>
  unfold mOf at z
  dsimp only at z
  split at z
  ·rename_i e
   cases z
   subst e
   exact h1
  ·exact h2 _ g z
 | _=>unfold mOf at z; cases z
end
theorem contains_self (C:Addr) (bm:List Value):(Value.ref C::bm).contains (.ref C)=true:=by simp
inductive RO where
 | ok (d:D) | ex (c:Value)
def RO.res (o:RO) (h:Hh):Res D:=match o with
 | .ok d=>.ok d h
 | .ex c=>.ex c h
def RO.hb (o:RO):Prop:=match o with
 | .ok d=>HB 0 d
 | .ex _=>True
open Classical in
noncomputable def relX (R:List D->RO->Prop):OX:=fun ds h=>if q:∃ o,R ds o then q.choose.res h else .bad
def RunsX (g:OX) (R:List D->RO->Prop):Prop:=∀ ds o,R ds o->o.hb/\∀ h,∃ junk,g ds h=o.res (h++junk)
def DetX (R:List D->RO->Prop):Prop:=∀ ds o o',R ds o->R ds o'->o=o'
theorem RunsX.det {g:OX}{R:List D->RO->Prop} (r:RunsX g R):DetX R:=fun ds o o' h h'=>by
 obtain⟨j,e⟩:=(r ds o h).2 []
 obtain⟨j',e'⟩:=(r ds o' h').2 []
 rw [e] at e'
 cases o<;>cases o'<;>simp [RO.res] at e' |-
 ·exact e'.1
 ·exact e'.1
theorem CalX.rel {P:Program}{w:World}{K:PySem.W.Frag}{mg:Str->Option Value}{base:Heap}{k:Nat}{x:Str}{ps:List Str}{g:OX}{R:List D->RO->Prop} (c:CalX P w K mg base k x ps g) (r:RunsX g R):CalX P w K mg base k x ps (relX R):=by
 obtain⟨f,fd,G,z⟩:=c
 refine⟨f,fd,G.imp fun vs H Q E ⟨hl,as,ds,h,rh,rd,p⟩=>⟨hl,as,ds,h,rh,rd,?_⟩,z⟩
 unfold relX at p
 split at p
 ·rename_i q
  obtain⟨hb,hj⟩:=r ds _ q.choose_spec
  obtain⟨junk,e⟩:=hj h
  rw [e]
  generalize q.choose=o at p hb
  cases o with
  | ok d=>
   intro as' H' v x rh' rd'
   obtain⟨mo,rfl⟩:=x.pre
   exact p as H' v ⟨⟨[],by simp⟩,x.tups,x.frzs⟩ (rh.cut rh') (rd'.cut ((show HB 0 d from hb).mono (Nat.zero_le _)))
  | ex c=>
   intro as' H' x rh'
   obtain⟨mo,rfl⟩:=x.pre
   exact p as H' ⟨⟨[],by simp⟩,x.tups,x.frzs⟩ (rh.cut rh')
 ·exact p.elim
theorem fcX_ok {r:OX}{f:FA}{e:En}{h h1:Hh}{ds:List D} (q:f e h=.ok ds h1):fcX r f e h=r ds h1:=by unfold fcX; rw [q]; rfl
theorem fSeq_ex {s t:FS}{e e1:En}{h h1:Hh}{c:Value} (q:s e h=.ex c e1 h1):fSeq s t e h=.ex c e1 h1:=by unfold fSeq; rw [q]
theorem fSet_ex {i:Nat}{f:FE}{e:En}{h h1:Hh}{c:Value} (q:f e h=.ex c h1):fSet i f e h=.ex c e h1:=by unfold fSet; rw [q]; rfl
theorem fDrop_ex {f:FE}{e:En}{h h1:Hh}{c:Value} (q:f e h=.ex c h1):fDrop f e h=.ex c e h1:=by unfold fDrop; rw [q]; rfl
structure ExK (K:PySem.W.Frag) (C:Addr):Prop where
 ga:PySem.W.findIn K (.ref C) "__getattribute__"=some (some (.builtin "BaseException.__getattribute__"))
 gn:PySem.W.findIn K (.ref C) "__getattr__"=some none
 gc:PySem.W.findIn K (.ref C) "__class__"=some (some (.builtin "object.__class__"))
 so:PySem.W.subIn K (.ref C) (.type "object")=some true
 sb:PySem.W.subIn K (.ref C) (.type "BaseException")=some true
section
variable {prog:Program}{w:World}{A:Around}{E:Value->Shared->Prop}{h:Heap}{g:Array GenState}{d:Drawn}{t:Nat}{os:OsState}{K:PySem.W.Frag}{a C:Addr}{o:Obj}{bm:List Value}
theorem xc_get {R:Result->Shared->Prop} (kin:K.In h) (x:ExK K C) (hx:h.get? a=some o) (hc:o.cls=.ref C) (hq:R (.ok (.ret (.ref C))) ⟨h,g,d,t,os⟩):
  codeAny (model prog w) A (.call (.builtin "getset_descriptor.__get__") ⟨[.builtin "object.__class__",.ref a,.ref C],[]⟩) R ⟨h,g,d,t,os⟩:=by
 have hT5:(⟨h,g,d,t,os⟩:Shared).TypeIs (.builtin "object.__class__") "getset_descriptor":=F.typeOf_object_class
 have sub:PySem.W.Looks (model prog w) h (isSubtype (.ref C) (.type (".".intercalate ("object.__class__".cutAt '.').dropLast))) true:=by
  rw [F.owner_object_class]
  exact PySem.W.looks_subIn kin x.so
 refine codeAny_call_builtin F.slot_gs_get.plain F.entry_gs_get (F.slot_gs_get.check _ _ _ _ _ _ _ _ hT5 (F.args_gs_get _ _ _) ?_)
 repeat (any_goals (first | assumption | (with_reducible refine wpAny_loadPart_at hx ?_; rw [hc]) | with_reducible refine sub.at ?_ | wp_step))
 refine⟨Code.quiet_builtin _ (by decide +kernel),codeAny_builtin F.entry_object_class ?_⟩
 repeat (any_goals (first | assumption | (with_reducible refine wpAny_loadPart_at hx ?_; rw [hc]) | wp_step))
theorem xc_entry {tk:Tok}{Q:Fin->Shared->Prop} (kin:K.In h) (x:ExK K C) (hx:h.get? a=some o) (hc:o.cls=.ref C) (hq:Q (.done (.ret (.ref C))) ⟨h,g,d,t,os⟩):
  wpAny (model prog w) A (Builtin.«object.__getattribute__» ⟨[.ref a,.str "__class__" tk],[]⟩) Q E ⟨h,g,d,t,os⟩:=by
 have hT5:(⟨h,g,d,t,os⟩:Shared).TypeIs (.builtin "object.__class__") "getset_descriptor":=F.typeOf_object_class
 have lk:PySem.W.Looks (model prog w) h (typeLookup (.ref C) "__class__") (some (.builtin "object.__class__")):=PySem.W.looks_findIn kin x.gc
 have f5:=F.typeOf_object_class
 have f6:=F.slot_gs_get.lookup
 have f7:=F.slot_gs_set.lookup
 repeat (any_goals (first | assumption | (with_reducible refine wpAny_loadPart_at hx ?_; rw [hc]) | with_reducible refine lk.at ?_ | wp_step))
 refine xc_get kin x hx hc ?_
 repeat (any_goals (first | assumption | wp_step))
theorem xc_ty {M:Model}{c:Value} (hx:h.get? a=some o) (hc:o.cls=c):PySem.W.Looks M h (typeOf (.ref a)) c:=hc▸(PySem.W.Looks.ld hx).andThen .now
theorem xc_inst {M:Model} (kin:K.In h) (x:ExK K C) (hx:h.get? a=some o) (hc:o.cls=.ref C):PySem.W.Looks M h (isInstance (.ref a) (.type "BaseException")) true:=(xc_ty hx hc).andThen (PySem.W.looks_subIn kin x.sb)
theorem xc_call {tk:Tok}{R:Result->Shared->Prop} (kin:K.In h) (x:ExK K C) (hx:h.get? a=some o) (hc:o.cls=.ref C) (hq:R (.ok (.ret (.ref C))) ⟨h,g,d,t,os⟩):
  codeAny (model prog w) A (.call (.builtin "BaseException.__getattribute__") ⟨[.ref a,.str "__class__" tk],[]⟩) R ⟨h,g,d,t,os⟩:=by
 have li:=xc_inst (M:=model prog w) kin x hx hc
 have pl:=PySem.F.attr_ValueError.ga.plain
 refine codeAny_call_builtin pl F.entry_bexc_ga ?_
 have k1:builtinKind "BaseException.__getattribute__"=some .slot:=by decide +kernel
 have k2:splitId "BaseException.__getattribute__"=some ("BaseException","__getattribute__"):=by decide +kernel
 have ha:argsOk "BaseException.__getattribute__" ⟨.ref a::[.str "__class__" tk],[]⟩:=F.args_bexc_ga (.ref a) (.str "__class__" tk)
 clear pl
 generalize "BaseException.__getattribute__"=i at k1 k2 ha |-
 exact PySem.W.check_slot k1 k2 li ha (xc_entry kin x hx hc hq)
theorem xc_by {tk:Tok}{Q:Value->Shared->Prop} (kin:K.In h) (x:ExK K C) (hx:h.get? a=some o) (hc:o.cls=.ref C) (hq:Q (.ref C) ⟨h,g,d,t,os⟩):wpAny (model prog w) A (getAttrBy (.ref a) (.str "__class__" tk) false) Q E ⟨h,g,d,t,os⟩:=by
 have f3:=PySem.F.attr_ValueError.ga.bind (.ref a)
 have l1:PySem.W.Looks (model prog w) h (typeLookup (.ref C) "__getattribute__") (some (.builtin "BaseException.__getattribute__")):=PySem.W.looks_findIn kin x.ga
 have l2:PySem.W.Looks (model prog w) h (typeLookup (.ref C) "__getattr__") none:=PySem.W.looks_findIn kin x.gn
 have n2:(Value.builtin "BaseException.__getattribute__"==Value.builtin "object.__getattribute__")=false:=by decide +kernel
 have n1:(onTheHeap (Value.ref C)&&Value.builtin "BaseException.__getattribute__"==Value.builtin "object.__getattribute__")=false:=by rw [n2]; rfl
 have n0:(false&&onTheHeap (Value.builtin "BaseException.__getattribute__"))=false:=rfl
 repeat (any_goals (first | assumption | (with_reducible refine wpAny_loadPart_at hx ?_; rw [hc]) | with_reducible refine l1.at ?_ | with_reducible refine l2.at ?_ | wp_step))
 refine xc_call kin x hx hc ?_
 repeat (any_goals (first | assumption | wp_step))
theorem xc_attr {Q:Option Value->Shared->Prop} (kin:K.In h) (x:ExK K C) (hx:h.get? a=some o) (hc:o.cls=.ref C) (hq:Q (some (.ref C)) ⟨h,g,d,t+1,os⟩):wpAny (model prog w) A (getAttr? (.ref a) "__class__") Q E ⟨h,g,d,t,os⟩:=by
 unfold getAttr? getAttrBy?
 repeat (any_goals (first | assumption | with_reducible apply xc_by kin x hx hc | wp_step))
end
theorem kitx_exc {K:PySem.W.Frag}{p C:Addr}{bm:List Value} (x:ExK K C) (ec:ExC K C bm):PySem.W.KitX K (.ref p) (.ref C) (fun h=>∃ o,h.get? p=some o/\o.cls=.ref C) where
 ty:=fun M h _ ⟨o,e,c⟩=>xc_ty e c
 it:=fun M h kin _=>by
  obtain⟨N,nm,qn,bs,hdct,sn,sub,ab,col,dd,k0,k1,k2,k3,k5,lk,_⟩:=ec
  intro A' Q' E' s' k q
  unfold isType loadHead
  exact wpAny_bind (wpAny_loadPart (k _ _ (kin _ _ lk)) (wpAny_pure q))
 ne:=fun h tp dd its n sl kin htp=>by
  obtain⟨N,nm,qn,bs,hdct,sn,sub,ab,col,dd',k0,k1,k2,k3,k5,lk,_⟩:=ec
  refine Bool.eq_false_iff.mpr fun q=>?_
  have e:C=tp:=Value.ref.inj (beq_iff_eq.mp q)
  subst e
  have z:=congrArg Obj.data (Option.some.inj ((kin _ _ lk).symm.trans htp))
  cases z
 ca:=fun {prog w A E Q s} kin ⟨o,e,c⟩ k=>by
  obtain⟨h,g,d,t,os⟩:=s
  exact xc_attr kin x e c k
section
variable {Y:Cx}{p C C':Addr}{oe:Obj}{bm:List Value}{b:Bool}{c:Value}{cv:V}{x:Str}{i:Nat}{en:Str}{p1 p2 p3 pos:Pos}
theorem call_isx (pin:(p,oe)∈Y.pn) (hc:oe.cls=.ref C) (xk:ExK Y.K C) (ec:ExC Y.K C bm) (k1:PySem.W.kitOne Y.K (.ref C) c=some b) (rc:∀ u,RelV cv u->u=c):CallR Y (.builtin "isinstance") (fun xs H Q=>xs=[.ref p,cv]/\Q (.bl b) H):=by
 rintro pins s σ H xs us Q I r ⟨rfl,q⟩
 obtain⟨u,v,rfl,ru,rv⟩:=vals2 r
 cases ru
 cases rc v rv
 exact PySem.W.kia_one (kitx_exc xk ec) I.kIn ⟨oe,(I.pin _ (List.mem_append_left _ pin)).1,hc⟩ k1 (by intro z; cases z) fun tk=>⟨.bl b,H,I.tok tk,rfl,q⟩
def tIsx (i:Nat) (p:Addr) (b:Bool):TE:=fun σ H Q=>σ[i]?=some (some (.ref p))/\Q (.bl b) H
theorem pe_isx (pin:(p,oe)∈Y.pn) (hc:oe.cls=.ref C) (xk:ExK Y.K C) (ec:ExC Y.K C bm) (k1:PySem.W.kitOne Y.K (.ref C) (.ref C')=some b) (hm:Y.mg "isinstance"=none) (hmx:Y.mg x=some (.ref C')) (hN:Y.N[i]?=some en:=by rfl)
  (hv:Vis Y.env.scope en:=by first | exact Or.inl rfl | exact Or.inr (Or.inl rfl)) (hd:(en==("__debug__":Str))=false:=by decide) (hcd:(en==("__classdict__":Str))=false:=by decide) (hg:Gl Y "isinstance":=by rfl) (hgx:Gl Y x:=by rfl) (hdx:(x==("__debug__":Str))=false:=by decide)
  (hs1:starEach [.Name en p2,.Name x p3] Y.env=(false,eval (.Name en p2) Y.env)::starEach [.Name x p3] Y.env:=by rfl) (hs2:starEach [.Name x p3] Y.env=(false,eval (.Name x p3) Y.env)::starEach [] Y.env:=by rfl)
  (hpl:(backTo pos (starEach [.Name x p3] Y.env)).any (·.1)=false:=by rfl):
  PE Y (.Call (.Name "isinstance" p1) [.Name en p2,.Name x p3] [] pos) (tIsx i p b):=
 peOf (pe_callB (call_isx (cv:=.ref C') pin hc xk ec k1 fun u r=>r) hg hm boot_isinstance (pa_cons (pv i hN hv hd hcd) (pa_cons (pe_glob (v:=.ref C') hgx hmx rfl hdx) pa_nil hs2) hs1) (by decide) (by decide) hs1 hpl) fun σ H Q ⟨e,q⟩=>⟨.ref p,e,rfl,q⟩
theorem pe_isy {T:String} (pin:(p,oe)∈Y.pn) (hc:oe.cls=.ref C) (xk:ExK Y.K C) (ec:ExC Y.K C bm) (k1:PySem.W.kitOne Y.K (.ref C) (.type T)=some b) (hm:Y.mg "isinstance"=none) (hmx:Y.mg x=none) (hbT:bootBuiltins x=some (.type T)) (hN:Y.N[i]?=some en:=by rfl)
  (hv:Vis Y.env.scope en:=by first | exact Or.inl rfl | exact Or.inr (Or.inl rfl)) (hd:(en==("__debug__":Str))=false:=by decide) (hcd:(en==("__classdict__":Str))=false:=by decide) (hg:Gl Y "isinstance":=by rfl) (hgx:Gl Y x:=by rfl) (hn:x≠"__name__":=by decide) (hdx:(x==("__debug__":Str))=false:=by decide)
  (hs1:starEach [.Name en p2,.Name x p3] Y.env=(false,eval (.Name en p2) Y.env)::starEach [.Name x p3] Y.env:=by rfl) (hs2:starEach [.Name x p3] Y.env=(false,eval (.Name x p3) Y.env)::starEach [] Y.env:=by rfl)
  (hpl:(backTo pos (starEach [.Name x p3] Y.env)).any (·.1)=false:=by rfl):
  PE Y (.Call (.Name "isinstance" p1) [.Name en p2,.Name x p3] [] pos) (tIsx i p b):=
 peOf (pe_callB (call_isx (cv:=.ty T) pin hc xk ec k1 fun u r=>r) hg hm boot_isinstance (pa_cons (pv i hN hv hd hcd) (pa_cons (pe_bltn (v:=.ty T) hgx hmx hbT rfl hn hdx) pa_nil hs2) hs1) (by decide) (by decide) hs1 hpl) fun σ H Q ⟨e,q⟩=>⟨.ref p,e,rfl,q⟩
end
def rCount:V->List V->Hp->VK->Prop:=fun x vs H Q=>∃ (l:Addr) (bs:List Bool),x=.ref l/\vs=[.bl true]/\H l=some (.lst (bs.map V.bl))/\Q (.int (countIn (.bool true) (bs.map PyData.bool))) H
theorem bools_vals:∀ {bs:List Bool}{its:List Value},Vals (bs.map V.bl) its->its=bs.map Value.bool
 | [],_,r=>by cases r; rfl
 | b::bs,_,r=>by
  cases r with
  | cons r t=>
   cases r
   rw [bools_vals t]
   rfl
theorem bools_read (h:Heap):∀ bs:List Bool,ReadsAll h (bs.map Value.bool) (bs.map PyData.bool) []
 | []=>.nil
 | b::bs=>by
  have:=ReadsAll.cons (h:=h) (.bool b:Reads h (.bool b) (.bool b) []) (bools_read h bs)
  exact this
theorem mt_count {X:Cx}:MtR X "list.count" rCount:=by
 intro pins s σ H x vs v us Q I rx rv h
 obtain⟨l,bs,rfl,rfl,hH,q⟩:=h
 cases rx
 obtain⟨u,rfl,ru⟩:=rv.one
 cases ru
 obtain⟨its,n,r,e,z⟩:=I.lst hH
 have:=bools_vals r
 subst this
 exact count_list_bools ⟨_,e,rfl,n,rfl⟩ (bools_read s.heap bs) (by simp [Shape.has]) ⟨.int _,H,I.tok _,⟨_,rfl⟩,q⟩
theorem inv_pin {X:Cx}{pins:List (Addr×Obj)}{σ:St}{H:Hp}{s:Shared}{p:Addr}{oe:Obj}{vs:Array Value} (I:Inv X pins σ H s) (e:s.heap.get? p=some oe) (d:oe.data=.fields vs) (n:H p=none):Inv (inExc X (X.pn++pins++[(p,oe)]) p) [] σ H s:=by
 have J:=inv_in I p
 refine⟨⟨I.ok.mod,I.ok.kind,I.ok.glob,I.ok.blt,I.ok.above,I.ok.inj,I.ok.has,I.ok.cab,(fun z=>nomatch z),I.ok.frames,I.ok.stk,I.ok.exf,I.ok.bs,I.ok.bsz,I.ok.noex,I.ok.exfs,I.ok.funs,I.ok.frf⟩,I.os,I.bare,I.base,I.loc,I.cell,I.free,I.freeC,fun q hq=>?_,I.hok,I.len⟩
 rcases List.mem_append.mp hq with z | z
 ·rcases List.mem_append.mp z with z | z
  ·exact I.pin q z
  ·cases List.mem_singleton.mp z
   refine⟨e,n,fun z=>?_,fun z=>?_,fun v z=>by rw [d] at z; cases z⟩
   ·obtain⟨m,⟨o,es,ep,ho,hd,_⟩,_⟩:=I.loc
    have ho':s.heap.get? p=some o:=by rw [show p=X.env.locals from z]; exact ho
    rw [e] at ho'
    cases ho'
    rw [d] at hd
    cases hd
   ·obtain⟨_,o,ho,nf⟩:=I.funs.mem z
    rw [e] at ho
    cases ho
    exact nf vs d
 ·exact nomatch z
theorem inv_unpin {X:Cx}{pins pins' more:List (Addr×Obj)}{σ:St}{H:Hp}{s:Shared}{p:Addr} (ok:X.Ok) (I:Inv (inExc X (X.pn++pins++more) p) pins' σ H s):Inv X pins σ H s:=
 ⟨ok,I.os,I.bare,I.base,I.loc,I.cell,I.free,I.freeC,fun q hq=>I.pin q (List.mem_append_left _ (List.mem_append_left _ hq)),I.hok,I.len⟩
theorem name_gone {X:Cx}{M:Model}{A:Around}{E:Value->Shared->Prop}{pins:List (Addr×Obj)}{σ:St}{H:Hp}{s:Shared}{i:Nat}{en:Str}{pos:Pos}{Q:Unit->Shared->Prop} (I:Inv X pins σ H s) (hN:X.N.Nodup) (hi:X.N[i]?=some en) (hloc:X.env.scope.names.lookup en=some .local)
  (k:∀ s',Inv X pins (σ.set i none) H s'->Q () s'):wpAny M A (do bindName X.env en .none; unbindBehindTheSuite X.env en pos) Q E s:=by
 obtain⟨m,hn,hl⟩:=id I.loc
 have hcls:(X.env.scope.kind==.class||(X.env.scope.kind==.module&&X.env.locals != X.env.globals))=false:=by rw [I.ok.kind]; rfl
 refine wpAny_nameGoes_keeps hloc hn hcls fun h' v hn' hs=>k _ ?_
 have nl:∀ b o,X.s₀.heap.get? b=some o->b≠X.env.locals:=fun b o e=>Nat.ne_of_lt (Nat.lt_of_lt_of_le (Heap.lt_size e) I.ok.above)
 refine⟨I.ok,I.os,I.bare,⟨fun b o e n nb hx=>(hs.2 b (nl b o e)).trans (I.base.keep b o e n nb hx),fun b o e n mb hx=>?_,I.base.free,fun b o e hx=>?_,I.base.tups,I.base.frzs,I.base.tbls⟩,⟨_,hn',fun j y v' e1 e2 e3=>?_⟩,fun y c e=>?_,I.free,I.freeC,fun q hq=>?_,fun b u e=>?_,by simpa using I.len⟩
 ·obtain⟨sl,e1⟩:=I.base.slot b o e n mb hx
  exact⟨sl,(hs.2 b (nl b o e)).trans e1⟩
 ·obtain⟨o',e1⟩:=I.base.there b o e hx
  exact⟨o',(hs.2 b (nl b o e)).trans e1⟩
 ·by_cases hj:j=i
  ·subst hj
   have hlt:j < σ.length:=by rw [I.len]; exact (List.getElem?_eq_some_iff.mp hi).1
   rw [List.getElem?_set_self hlt] at e2
   cases e2
  ·rw [List.getElem?_set_ne (Ne.symm hj)] at e2
   obtain⟨u',r',q⟩:=hl j y v' e1 e2 e3
   refine⟨u',r',?_⟩
   rcases q with⟨kk,e⟩ | ⟨kk,c,e,z⟩
   ·have ne:y≠en:=fun z=>hj (nodup_ix hN e1 (z▸hi))
    exact .inl ⟨kk,by simp [ne,e]⟩
   ·exact .inr ⟨kk,c,e,z.sameBut hs (I.cne y c e)⟩
 ·obtain⟨w',z⟩:=I.cell y c e
  exact⟨w',z.sameBut hs (I.cne y c e)⟩
 ·obtain⟨e,n,ne,nf,d⟩:=I.pin q hq
  exact⟨(hs.2 q.1 ne).trans e,n,ne,nf,d⟩
 ·refine (I.hok b u e).stay (fun c w' hc q=>(hs.2 c ?_).trans q) (fun _ q=>q) fun _ _ q=>q
  rintro rfl
  have:=I.free
  rcases hc with z | z
  ·rw [z,e] at this; cases this
  ·rw [z] at this; cases this
def fTrue:FS:=fun _ h=>.rt (.bl true) h
theorem RelH.more {K:PySem.W.Frag}{as:List Addr}{H:Hp}{h:Hh}{p:Addr}{o:HO} (r:RelH K as H h) (hp:H p=none):RelH K as (upd H p o) h:=
 ⟨r.len,r.nd,fun n a o' e1 e2=>by
  have q:=r.obj n a o' e1 e2
  obtain⟨u,hu⟩:=q.there
  exact q.mono (ext_upd hp) (upd_ne (ne_of_none hu hp))⟩
theorem dh_as {X:Cx}{x en:Str}{np pos:Pos}{b₀:Stmt}{suite:List Stmt}{rest:List ExceptHandler}{C C':Addr}{bm bm':List Value}{i:Nat}{tt:Addr->TS} (ec:ExC X.K C bm) (ec':ExC X.K C' bm') (hm:X.mg x=some (.ref C')) (hb:(Value.ref C::bm).contains (.ref C')=true) (hN:X.N.Nodup)
  (hs:∀ pn p oe,(p,oe)∈pn->oe.cls=.ref C->PSs (inExc X pn p) (b₀::suite) (tt p))
  (hr:∀ p Dn σ H,σ.length=X.N.length->σ[i]?=some (some (.ref p))->(∀ l vs,H l=none->Dn.rt (.bl true) (upd H l (.lst vs)))->tt p Dn σ H) (hi:X.N[i]?=some en:=by rfl) (hloc:X.env.scope.names.lookup en=some .local:=by rfl) (hg:Gl X x:=by rfl) (hdb:(x==("__debug__":Str))=false:=by decide):
  DH X (.ExceptHandler (some (.Name x np)) (some en) (b₀::suite) pos::rest) (.ref C) fTrue:=by
 intro pins s σ H Dn p as env h I fl re rh po
 obtain⟨oe,vs,a0,T,oT,ts,e1,e2,e3,e4,lp,_⟩:=id fl
 have J:=inv_pin I e1 e3 lp.2.1
 refine wpAny_handleBy_cons (codeAny_handlers_test (ld_glob (X:=inExc X (X.pn++pins++[(p,oe)]) p) J hg hm (exc_matches J.kIn ec ec' e1 e2 hb ?_) hdb)) (by intro q; cases q)
 refine codeAny_handlers_suite_as (lands fl ?_)
 refine store_ok (X:=inExc X (X.pn++pins++[(p,oe)]) p) (v:=.ref p) J hN hi (Or.inl hloc) rfl (fun s2 J2=>?_) (.inr hloc)
 have hil:i < σ.length:=by rw [I.len]; exact (List.getElem?_eq_some_iff.mp hi).1
 refine wpAny_mono (hs _ p oe (List.mem_append_right _ (List.mem_singleton.mpr rfl)) e2 [] s2 (σ.set i (some (.ref p))) H { nx:=fun _ _=>False,rt:=fun v H'=>v=.bl true/\∃ l vs,H l=none/\H'=upd H l (.lst vs) } J2
  (hr p _ _ H (by rw [List.length_set]; exact I.len) (List.getElem?_set_self hil) fun l vs z=>⟨rfl,l,vs,z,rfl⟩)) (fun f s3 q=>?_) (fun _ _ z=>z.elim)
 cases f with
 | next=>obtain⟨_,_,_,z⟩:=q; exact z.elim
 | brk=>obtain⟨_,_,_,z⟩:=q; exact z.elim
 | cont=>obtain⟨_,_,_,z⟩:=q; exact z.elim
 | ret u=>
  obtain⟨v,σ',H',J3,rv,rfl,l,vs',z,rfl⟩:=q
  refine name_gone (inv_unpin I.ok J3) hN hi hloc fun s4 I4=>?_
  exact⟨.bl true,_,_,I4,rv,po as _ _ (ext_upd z) (rh.more z) (.bl true)⟩
theorem rd_as {n:Nat}{K:PySem.W.Frag}{i j:Nat}{p:Addr}{b1 b2 b3:Bool} (hij:j≠i) (hj:j < n) (hc:countIn (.bool true) ([b1,b2,b3].map PyData.bool)=1) {Dn:Ends}{σ:St}{H:Hp} (hl:σ.length=n) (e:σ[i]?=some (some (.ref p))) (q:∀ l vs,H l=none->Dn.rt (.bl true) (upd H l (.lst vs))):
  (tSeq (tAsg (tLst (tCons (tIsx i p b1) (tCons (tIsx i p b2) (tCons (tIsx i p b3) tNil)))) (gName j)) (tRet (tAndV (tIsx i p true) (tOp rEq (tBM K "list" rCount (tVar j) (tCons (tC (.bl true)) tNil)) (tC (.int 1)))))) Dn σ H:=by
 refine⟨e,e,e,(show 3<=sizeLine by decide),fun l hlz=>?_⟩
 have e':(σ.set j (some (.ref l)))[i]?=some (some (.ref p)):=by rw [List.getElem?_set_ne hij]; exact e
 have ej:(σ.set j (some (.ref l)))[j]?=some (some (.ref l)):=List.getElem?_set_self (by omega)
 refine⟨e',true,rfl,iteT ⟨.ref l,ej,.inl ⟨rfl,_,SqL.of upd_same⟩,l,[b1,b2,b3],rfl,rfl,upd_same,rfl,?_⟩⟩
 rw [hc]
 exact q l _ hlz
theorem bt_ValueError:bootBuiltins "ValueError"=some (.type "ValueError"):=by decide +kernel
theorem exC_mk {K:PySem.W.Frag}{C N:Addr}{nm q:Str}{bs bm sub:List Value}{hdct ab:Bool}{sn:List Str}{col:Option Bool}{dd:Option Addr}{k0 k1 k2 k3 k5:Option Value} (l:K.lookup C=some (excClassObj nm q C N bs bm hdct sn sub ab col dd k0 k1 k2 k3 k5 "ValueError.__new__"))
  (e:PySem.W.excIn K C bmV "ValueError.__new__"=true):ExC K C bm:=by
 refine⟨N,nm,q,bs,hdct,sn,sub,ab,col,dd,k0,k1,k2,k3,k5,l,?_⟩
 unfold PySem.W.excIn at e
 rw [l] at e
 simp only [Bool.and_eq_true,beq_iff_eq,Bool.not_eq_true'] at e
 obtain⟨⟨⟨⟨⟨_,_⟩,_⟩,ht⟩,hok⟩,hni⟩:=e
 exact⟨ht,hok,hni⟩
def oCatL:O2:=fun x y h=>match x,y with
 | .lst n,.lst m=>(itemsAt h n).bind fun ds=>(itemsAt h m).bind fun es=>if ds.length+es.length<=sizeLine then some (.lst h.length,h++[.lst (ds++es)]) else none
 | _,_=>none
def oRepL:O2:=fun x y h=>match x,y with
 | .lst n,.int k=>(itemsAt h n).bind fun ds=>if -(2 ^ 63)<=k/\k < 2 ^ 63/\ds.length*k.toNat<=sizeLine then some (.lst h.length,h++[.lst (List.replicate k.toNat ds).flatten]) else none
 | _,_=>none
theorem oCatL_ok {n m:Nat}{ds es:List D}{h:Hh} (e1:h[n]?=some (.lst ds)) (e2:h[m]?=some (.lst es)) (c:ds.length+es.length<=sizeLine):oCatL (.lst n) (.lst m) h=some (.lst h.length,h++[.lst (ds++es)]):=by
 show ((itemsAt h n).bind fun ds=>(itemsAt h m).bind fun es=>_)=_
 rw [itemsAt_of e1,itemsAt_of e2]
 exact if_pos c
theorem oRepL_ok {n:Nat}{k:Int}{ds:List D}{h:Hh} (e1:h[n]?=some (.lst ds)) (c:-(2 ^ 63)<=k/\k < 2 ^ 63/\ds.length*k.toNat<=sizeLine):oRepL (.lst n) (.int k) h=some (.lst h.length,h++[.lst (List.replicate k.toNat ds).flatten]):=by
 show ((itemsAt h n).bind fun ds=>_)=_
 rw [itemsAt_of e1]
 exact if_pos c
theorem relDs_rep {K:PySem.W.Frag}{as:List Addr}{H:Hp}{ds:List D}{vs:List V} (r:RelDs K as H ds vs):∀ k:Nat,RelDs K as H (List.replicate k ds).flatten (List.replicate k vs).flatten
 | 0=>.nil
 | k+1=>by
  rw [List.replicate_succ,List.replicate_succ,List.flatten_cons,List.flatten_cons]
  exact Pd.app r (relDs_rep r k)
theorem im_catL {K:PySem.W.Frag}:Im2 K rCat oCatL:=by
 intro as H h x y v u Q rh rx ry p
 cases x with
 | lst n=>
  cases y with
  | lst m=>
   cases rx with
   | @lst _ a ha=>
    cases ry with
    | @lst _ b hb=>
     have p':PQ K as H ((itemsAt h n).bind fun ds=>(itemsAt h m).bind fun es=>if ds.length+es.length<=sizeLine then some (.lst h.length,h++[.lst (ds++es)]) else none) Q:=p
     cases e0:itemsAt h n with
     | none=>rw [e0] at p'; exact p'.elim
     | some ds=>
      cases e1:itemsAt h m with
      | none=>rw [e0,e1] at p'; exact p'.elim
      | some es=>
       rw [e0,e1] at p'
       have p':PQ K as H (if ds.length+es.length<=sizeLine then some (.lst h.length,h++[.lst (ds++es)]) else none) Q:=p'
       by_cases c:ds.length+es.length<=sizeLine
       ·rw [if_pos c] at p'
        obtain⟨vs,hv,rvs⟩:=rh.obj n a _ ha (of_itemsAt e0)
        obtain⟨us,hu,rus⟩:=rh.obj m b _ hb (of_itemsAt e1)
        exact⟨a,b,vs,us,rfl,rfl,hv,hu,by rw [<-rvs.length,<-rus.length]; exact c,fun q hq=>p' (as++[q]) _ _ (ext_new hq) (rh.newL hq (Pd.app rvs rus)) (.lst (by rw [<-rh.len]; exact List.getElem?_concat_length))⟩
       ·rw [if_neg c] at p'
        exact p'.elim
  | _=>exact p.elim
 | _=>exact p.elim
theorem im_repL {K:PySem.W.Frag}:Im2 K rRep oRepL:=by
 intro as H h x y v u Q rh rx ry p
 cases x with
 | lst n=>
  cases y with
  | int k=>
   cases rx with
   | @lst _ a ha=>
    cases ry
    have p':PQ K as H ((itemsAt h n).bind fun ds=>if -(2 ^ 63)<=k/\k < 2 ^ 63/\ds.length*k.toNat<=sizeLine then some (.lst h.length,h++[.lst (List.replicate k.toNat ds).flatten]) else none) Q:=p
    cases e0:itemsAt h n with
    | none=>rw [e0] at p'; exact p'.elim
    | some ds=>
     rw [e0] at p'
     have p':PQ K as H (if -(2 ^ 63)<=k/\k < 2 ^ 63/\ds.length*k.toNat<=sizeLine then some (.lst h.length,h++[.lst (List.replicate k.toNat ds).flatten]) else none) Q:=p'
     by_cases c:-(2 ^ 63)<=k/\k < 2 ^ 63/\ds.length*k.toNat<=sizeLine
     ·rw [if_pos c] at p'
      obtain⟨vs,hv,rvs⟩:=rh.obj n a _ ha (of_itemsAt e0)
      exact⟨a,k,vs,rfl,rfl,hv,c.1,c.2.1,by rw [<-rvs.length]; exact c.2.2,fun q hq=>p' (as++[q]) _ _ (ext_new hq) (rh.newL hq (relDs_rep rvs _)) (.lst (by rw [<-rh.len]; exact List.getElem?_concat_length))⟩
     ·rw [if_neg c] at p'
      exact p'.elim
  | _=>exact p.elim
 | _=>exact p.elim
section
variable {X:Cx}{a b:Expr}{f g:FE}{pos:Pos}
theorem de_catL (ha:DE X a f) (hb:DE X b g):DE X (.BinOp a .Add b pos) (f2 oCatL f g):=de_op op_cat im_catL ha hb
theorem de_repL (ha:DE X a f) (hb:DE X b g):DE X (.BinOp a .Mult b pos) (f2 oRepL f g):=de_op op_rep im_repL ha hb
end
end DL
namespace MD
open PySem PySem.Spec PyProof.Rows L2 DL
noncomputable def t__law_whole:FS:=
 (fRet (fAndV (f1 (oIsi "int") (fV 0)) (f1 oNot (f1 (oIsi "bool") (fV 0)))))
noncomputable def t__law_at:FS:=
 (fSeq (fIfS (fB (f2 oLt (fV 1) (fc oLen (fAll [(fV 0)])))) (fRet (f2 oIx (fV 0) (fV 1))) fNext)
  (fRet (fC (.int 0))))
noncomputable def t__law_reach_by (g__law_at:OC):FS:=
 (fSeq (fSet 1 (f2 oMod (fc g__law_at (fAll [(fV 0),(fC (.int 2))])) (f2 oMul (f2 oPow (fC (.int 10)) (fC (.int 48))) (f2 oPow (fC (.int 10)) (fC (.int 48))))))
  (fRet (f2 oIx (fLst [(f2 oPow (fC (.int 10)) (fC (.int 30))),(fC (.int 0)),(fC (.int 90)),(fC (.int 1)),(fV 1)]) (f2 oMod (f2 oDiv (fc g__law_at (fAll [(fV 0),(fC (.int 1))])) (fC (.int 18))) (fC (.int 5))))))
noncomputable def t__law_far:FS:=
 (fSeq (fIfS (fB (f2 oGt (fV 0) (fC (.int 6)))) (fRet (f2 oAdd (fV 0) (fV 1))) fNext)
  (fSeq (fIfS (fB (f2 oLt (fV 0) (f1 oNeg (fC (.int 6))))) (fRet (f2 oSub (fV 0) (fV 1))) fNext)
  (fRet (fV 0))))
noncomputable def t_drawer_of:FS:=
 (fRet (fTup [(fV 0),(fV 1),(f2 oAdd (fc oLen (fAll [(fV 0)])) (fc oSum (fAll [(fComp (fiSeq (fV 1)) [] fYes (f2 oIx (fV 0) (fC (.int 2))))])))]))
noncomputable def t__law_is_drawer (g__law_whole:OC):FS:=
 (fSeq (fIfS (fOr (fNot (fB (f1 (oIsi "tuple") (fV 0)))) (fB (f2 oNe (fc oLen (fAll [(fV 0)])) (fC (.int 3))))) (fRet (fC (.bl false))) fNext)
  (fSeq (fIfS (fOr (fNot (fB (f1 (oIsi "tuple") (f2 oIx (fV 0) (fC (.int 0)))))) (fNot (fB (f1 (oIsi "tuple") (f2 oIx (fV 0) (fC (.int 1))))))) (fRet (fC (.bl false))) fNext)
  (fSeq (fFor 1 (fiSeq (f2 oIx (fV 0) (fC (.int 0)))) (fSeq (fIfS (fOr (fNot (fB (f1 (oIsi "tuple") (fV 1)))) (fB (f2 oNe (fc oLen (fAll [(fV 1)])) (fC (.int 2))))) (fRet (fC (.bl false))) fNext)
  (fIfS (fOr (fNot (fB (fc g__law_whole (fAll [(f2 oIx (fV 1) (fC (.int 0)))])))) (fNot (fB (f1 (oIsi "str") (f2 oIx (fV 1) (fC (.int 1))))))) (fRet (fC (.bl false))) fNext)))
  (fRet (fc g__law_whole (fAll [(f2 oIx (fV 0) (fC (.int 2)))]))))))
noncomputable def t__law_opened (g__law_is_drawer:OC):FS:=
 (fSeq (fSet 4 (fLst []))
  (fSeq (fSet 5 (fLst []))
  (fSeq (fFor 6 (fiRng rng1 [(fc oLen (fAll [(fV 0)]))]) (fSeq (fSet 7 (f2 oIx (fV 0) (fV 6)))
  (fSeq (fSet 8 (fc oLen (fAll [(f2 oIx (fV 7) (fC (.int 0)))])))
  (fSeq (fIfS (fOr (fB (f2 oLt (fV 8) (fV 2))) (fB (f2 oGt (fV 8) (fV 3)))) (fRet (fC .non)) fNext)
  (fSeq (fIfS (fAnd (fB (f2 oNe (fc oLen (fAll [(f2 oIx (fV 7) (fC (.int 1)))])) (fC (.int 0)))) (fB (f2 oNe (fc oLen (fAll [(f2 oIx (fV 7) (fC (.int 1)))])) (f2 oAdd (fV 8) (fC (.int 1)))))) (fRet (fC .non)) fNext)
  (fSeq (fIfS (fB (f2 oNe (f2 oEq (fc oLen (fAll [(f2 oIx (fV 7) (fC (.int 1)))])) (fC (.int 0))) (f2 oEq (fc oLen (fAll [(f2 oIx (f2 oIx (fV 0) (fC (.int 0))) (fC (.int 1)))])) (fC (.int 0))))) (fRet (fC .non)) fNext)
  (fSeq (fSet 9 (fV 8))
  (fSeq (fFor 10 (fiSeq (f2 oIx (fV 7) (fC (.int 1)))) (fSeq (fIfS (fNot (fB (fc g__law_is_drawer (fAll [(fV 10)])))) (fRet (fC .non)) fNext)
  (fSet 9 (f2 oAdd (fV 9) (f2 oIx (fV 10) (fC (.int 2)))))))
  (fSeq (fIfS (fB (f2 oNe (f2 oIx (fV 7) (fC (.int 2))) (fV 9))) (fRet (fC .non)) fNext)
  (fSeq (fDrop (fM oExtend (fV 4) [(fc oList (fAll [(f2 oIx (fV 7) (fC (.int 1)))]))]))
  (fSeq (fDrop (fM oExtend (fV 5) [(fc oList (fAll [(f2 oIx (fV 7) (fC (.int 0)))]))]))
  (fIfS (fB (f2 oLt (fV 6) (fc oLen (fAll [(fV 1)])))) (fDrop (fM oAppend (fV 5) [(f2 oIx (fV 1) (fV 6))])) fNext))))))))))))
  (fRet (fTup [(fV 4),(fV 5)])))))
noncomputable def t__law_walk (g__law_is_drawer:OC) (g__law_opened:OC):FS:=
 (fSeq (fIfS (fNot (fB (fc g__law_is_drawer (fAll [(fV 0)])))) (fRet (fC .non)) fNext)
  (fSeq (fSet 4 (fLst [(fV 0)]))
  (fSeq (fSet 5 (fLst []))
  (fSeq (fSet 6 (fC (.int 0)))
  (fSeq (fSet 7 (fV 1))
  (fSeq (fWhile (fB (f2 oGt (fc oLen (fAll [(fV 4)])) (fC (.int 0)))) (fSeq (fSet 8 (fc g__law_opened (fAll [(fV 4),(fV 5),(fV 7),(fV 3)])))
  (fSeq (fIfS (fB (f2 oIsN (fV 8) (fC .non))) (fRet (fC .non)) fNext)
  (fSeq (fSet 4 (f2 oIx (fV 8) (fC (.int 0))))
  (fSeq (fSet 5 (f2 oIx (fV 8) (fC (.int 1))))
  (fSeq (fSet 6 (f2 oAdd (fV 6) (fC (.int 1))))
  (fSet 7 (fV 2))))))) 2000)
  (fRet (fTup [(fV 6),(fV 5)]))))))))
noncomputable def t_room_on:FS:=
 (fSeq (fSet 2 (fC (.int 1)))
  (fSeq (fFor 3 (fiRng rng1 [(fV 1)]) (fSet 2 (f2 oMul (fV 2) (f2 oAdd (fV 0) (fC (.int 1))))))
  (fRet (fV 2))))
noncomputable def t_fewest_levels (g_room_on:OC):FS:=
 (fSeq (fSet 2 (fC (.int 1)))
  (fSeq (fWhile (fB (f2 oGt (f2 oAdd (fV 1) (fC (.int 1))) (fc g_room_on (fAll [(fV 0),(fV 2)])))) (fSet 2 (f2 oAdd (fV 2) (fC (.int 1)))) 2000)
  (fRet (fV 2))))
noncomputable def t_packed_on (g_drawer_of:OC) (g_room_on:OC) (g_even_parts:OC) (g_packed_on:OC):FS:=
 (fSeq (fIfS (fB (f2 oEq (fV 1) (fC (.int 1)))) (fRet (fc g_drawer_of (fAll [(fV 2),(fTup [])]))) fNext)
  (fSeq (fSet 3 (f2 oAdd (f2 oDiv (fc oLen (fAll [(fV 2)])) (fc g_room_on (fAll [(fV 0),(f2 oSub (fV 1) (fC (.int 1)))]))) (fC (.int 1))))
  (fSeq (fSet 4 (fTup []))
  (fSeq (fSet 5 (fTup []))
  (fSeq (fSet 6 (fC (.int 0)))
  (fSeq (fFor 7 (fiSeq (fc g_even_parts (fAll [(f2 oAdd (fc oLen (fAll [(fV 2)])) (fC (.int 1))),(fV 3)]))) (fSeq (fSet 8 (f2 oSub (f2 oAdd (fV 6) (fV 7)) (fC (.int 1))))
  (fSeq (fSet 5 (f2 oAdd (fV 5) (fTup [(fc g_packed_on (fAll [(fV 0),(f2 oSub (fV 1) (fC (.int 1))),(fSl (fV 2) (fPart (fV 6)) (fPart (fV 8)))]))])))
  (fSeq (fSet 4 (f2 oAdd (fV 4) (fSl (fV 2) (fPart (fV 8)) (fPart (f2 oAdd (fV 8) (fC (.int 1)))))))
  (fSet 6 (f2 oAdd (fV 8) (fC (.int 1))))))))
  (fRet (fc g_drawer_of (fAll [(fV 4),(fV 5)])))))))))
noncomputable def t__law_even (g__law_room_for:OC):FS:=
 (fSeq (fSet 3 (fLst [(fTup [(fV 0),(fV 2)])]))
  (fSeq (fWhile (fB (f2 oGt (fc oLen (fAll [(fV 3)])) (fC (.int 0)))) (fSeq (fUnp [4,5] (fM oPop (fV 3) []))
  (fSeq (fIfS (fAnd (fB (f2 oGt (fV 5) (fC (.int 1)))) (fB (f2 oNe (fc oLen (fAll [(f2 oIx (fV 4) (fC (.int 1)))])) (f2 oAdd (f2 oDiv (f2 oIx (fV 4) (fC (.int 2))) (fc g__law_room_for (fAll [(fV 1),(f2 oSub (fV 5) (fC (.int 1)))]))) (fC (.int 1)))))) (fRet (fC (.bl false))) fNext)
  (fSeq (fFor 6 (fiRng rng2 [(fC (.int 1)),(fc oLen (fAll [(f2 oIx (fV 4) (fC (.int 1)))]))]) (fIfS (fOr (fB (f2 oGt (f2 oIx (f2 oIx (f2 oIx (fV 4) (fC (.int 1))) (fV 6)) (fC (.int 2))) (f2 oIx (f2 oIx (f2 oIx (fV 4) (fC (.int 1))) (f2 oSub (fV 6) (fC (.int 1)))) (fC (.int 2))))) (fB (f2 oLt (f2 oAdd (f2 oIx (f2 oIx (f2 oIx (fV 4) (fC (.int 1))) (fV 6)) (fC (.int 2))) (fC (.int 1))) (f2 oIx (f2 oIx (f2 oIx (fV 4) (fC (.int 1))) (fC (.int 0))) (fC (.int 2)))))) (fRet (fC (.bl false))) fNext))
  (fDrop (fM oExtend (fV 3) [(fComp (fiSeq (f2 oIx (fV 4) (fC (.int 1)))) [5] fYes (fTup [(fV 0),(f2 oSub (fV 1) (fC (.int 1)))]))]))))) 2000)
  (fRet (fC (.bl true)))))
noncomputable def t__law_room_for:FS:=
 (fSeq (fSet 2 (fC (.int 1)))
  (fSeq (fFor 3 (fiRng rng1 [(fV 1)]) (fSet 2 (f2 oMul (fV 2) (f2 oAdd (fV 0) (fC (.int 1))))))
  (fRet (fV 2))))
noncomputable def t__law_same (g__law_whole:OC):FS:=
 (fSeq (fIfS (fB (f2 oNe (fc oLen (fAll [(fV 0)])) (fc oLen (fAll [(fV 1)])))) (fRet (fC (.bl false))) fNext)
  (fSeq (fFor 2 (fiRng rng1 [(fc oLen (fAll [(fV 1)]))]) (fSeq (fIfS (fOr (fNot (fB (f1 (oIsi "tuple") (f2 oIx (fV 0) (fV 2))))) (fB (f2 oNe (fc oLen (fAll [(f2 oIx (fV 0) (fV 2))])) (fc oLen (fAll [(f2 oIx (fV 1) (fV 2))]))))) (fRet (fC (.bl false))) fNext)
  (fSeq (fFor 3 (fiSeq (f2 oIx (fV 0) (fV 2))) (fIfS (fAnd (fB (f2 oNotN (fV 3) (fC .non))) (fAnd (fNot (fB (f1 (oIsi "str") (fV 3)))) (fNot (fB (fc g__law_whole (fAll [(fV 3)])))))) (fRet (fC (.bl false))) fNext))
  (fIfS (fB (f2 oNe (f2 oIx (fV 0) (fV 2)) (f2 oIx (fV 1) (fV 2)))) (fRet (fC (.bl false))) fNext))))
  (fRet (fC (.bl true)))))
noncomputable def t_even_parts:FS:=
 (fSeq (fSet 2 (f2 oDiv (fV 0) (fV 1)))
  (fSeq (fSet 3 (f2 oMod (fV 0) (fV 1)))
  (fRet (f2 oCatL (f2 oRepL (fLst [(f2 oAdd (fV 2) (fC (.int 1)))]) (fV 3)) (f2 oRepL (fLst [(fV 2)]) (f2 oSub (fV 1) (fV 3)))))))
end MD
namespace K09
open PySem PySem.Spec PyProof.Rows L2 DL MD
def top (i:Nat):Stmt:=PySem.Challenge.pw_manydrawer_k09_whole_packed.main.body.getD i (.Pass ⟨0,0,0,0⟩)
abbrev s_check_width:Stmt:=top 6
abbrev s_drawer_of:Stmt:=top 7
abbrev s_check_rising:Stmt:=top 9
abbrev s_room_on:Stmt:=top 10
abbrev s_fewest_levels:Stmt:=top 11
abbrev s_even_parts:Stmt:=top 12
abbrev s_packed_on:Stmt:=top 13
abbrev s_packed:Stmt:=top 14
abbrev s__law_whole:Stmt:=top 16
abbrev s__law_at:Stmt:=top 17
abbrev s__law_is_drawer:Stmt:=top 18
abbrev s__law_opened:Stmt:=top 19
abbrev s__law_walk:Stmt:=top 20
abbrev s__law_reach_by:Stmt:=top 21
abbrev s__law_far:Stmt:=top 22
abbrev s__law_same:Stmt:=top 23
abbrev s__law_even:Stmt:=top 24
abbrev s__law_room_for:Stmt:=top 25
abbrev s__law_refuses:Stmt:=top 26
abbrev s_law:Stmt:=top 27
theorem sc_check_width:FnScope ["width"] ["width"] (defScope s_check_width):=⟨rfl,rfl,rfl,by decide +kernel,rfl,by decide +kernel,by decide +kernel⟩
noncomputable def t_check_width (x_NoWidth:Addr):FS:=
 (fIfS (fB (f2 oLt (fV 0) (fC (.int 2)))) (fRaise (.ref x_NoWidth) (fC (.str "the width is below 2"))) fNext)
theorem ok_check_width {P:Program}{w:World}{K:PySem.W.Frag}{mg:Str->Option Value}{base:Heap}{k:Nat}{fa:Addr}{fd:FuncData} (B:Bu mg) {x_NoWidth:Addr}{bm_NoWidth:List Value} (e_NoWidth:ExC K x_NoWidth bm_NoWidth) (m_NoWidth:mg "NoWidth"=some (.ref x_NoWidth))
  (F:Fun K "check_width" "check_width" s_check_width fa fd) (hm:mg "check_width"=some (.ref fa)) (b:Binds K fd ["width"] []):CalX P w K mg base (k+1) "check_width" ["width"] (fnRunX 1 (t_check_width x_NoWidth)):=
 calX_mk (N:=["width"]) F sc_check_width hm b fun cdv A outer s H E hr=>
  (dss_one (ds_if (dt_lt (dv 0) de_int) (dss_one (ds_raise e_NoWidth m_NoWidth (da_cons de_str da_nil))) dss_nil))
theorem sc_drawer_of:FnScope ["cards","below"] ["cards","below"] (defScope s_drawer_of):=⟨rfl,rfl,rfl,by decide +kernel,rfl,by decide +kernel,by decide +kernel⟩
theorem ok_drawer_of {P:Program}{w:World}{K:PySem.W.Frag}{mg:Str->Option Value}{base:Heap}{k:Nat}{fa:Addr}{fd:FuncData} (B:Bu mg)
  (F:Fun K "drawer_of" "drawer_of" s_drawer_of fa fd) (hm:mg "drawer_of"=some (.ref fa)) (b:Binds K fd ["cards","below"] []):Cal P w K mg base (k+1) "drawer_of" ["cards","below"] (fnRun 2 (t_drawer_of )):=
 cal_mk (N:=["cards","below"]) F sc_drawer_of hm b fun cdv A outer s H E hr=>
  (dss_one (ds_ret (de_tup (da_cons (dv 0) (da_cons (dv 1) (da_cons (de_add (de_len B.len (da_cons (dv 0) da_nil)) (de_sum B.sum rfl (da_cons (de_comp (fr:=[]) (frn:=[]) rfl (di_seq (dv 1)) fun _ _ _ _=>⟨.nil,(de_ix (dv 0) de_int)⟩) da_nil))) da_nil))))))
theorem sc_check_rising:FnScope ["cards","place"] ["cards"] (defScope s_check_rising):=⟨rfl,rfl,rfl,by decide +kernel,rfl,by decide +kernel,by decide +kernel⟩
noncomputable def t_check_rising (x_NotRising:Addr):FS:=
 (fFor 1 (fiRng rng2 [(fC (.int 1)),(fc oLen (fAll [(fV 0)]))]) (fIfS (fB (f2 oLe (f2 oIx (f2 oIx (fV 0) (fV 1)) (fC (.int 0))) (f2 oIx (f2 oIx (fV 0) (f2 oSub (fV 1) (fC (.int 1)))) (fC (.int 0))))) (fRaise (.ref x_NotRising) (fC (.str "a card has a number no greater than that of the card ahead of it"))) fNext))
theorem ok_check_rising {P:Program}{w:World}{K:PySem.W.Frag}{mg:Str->Option Value}{base:Heap}{k:Nat}{fa:Addr}{fd:FuncData} (B:Bu mg) {x_NotRising:Addr}{bm_NotRising:List Value} (e_NotRising:ExC K x_NotRising bm_NotRising) (m_NotRising:mg "NotRising"=some (.ref x_NotRising))
  (F:Fun K "check_rising" "check_rising" s_check_rising fa fd) (hm:mg "check_rising"=some (.ref fa)) (b:Binds K fd ["cards"] []):CalX P w K mg base (k+1) "check_rising" ["cards"] (fnRunX 2 (t_check_rising x_NotRising)):=
 calX_mk (N:=["cards","place"]) F sc_check_rising hm b fun cdv A outer s H E hr=>
  (dss_one (ds_for (i:=1) PassesOwn.leaving rfl sc_check_rising.nd (di_range2 B.range (da_cons de_int (da_cons (de_len B.len (da_cons (dv 0) da_nil)) da_nil))) (dss_one (ds_if (dt_le (de_ix (de_ix (dv 0) (dv 1)) de_int) (de_ix (de_ix (dv 0) (de_sub (dv 1) de_int)) de_int)) (dss_one (ds_raise e_NotRising m_NotRising (da_cons de_str da_nil))) dss_nil))))
theorem sc_room_on:FnScope ["width","levels","room","level"] ["width","levels"] (defScope s_room_on):=⟨rfl,rfl,rfl,by decide +kernel,rfl,by decide +kernel,by decide +kernel⟩
theorem ok_room_on {P:Program}{w:World}{K:PySem.W.Frag}{mg:Str->Option Value}{base:Heap}{k:Nat}{fa:Addr}{fd:FuncData} (B:Bu mg)
  (F:Fun K "room_on" "room_on" s_room_on fa fd) (hm:mg "room_on"=some (.ref fa)) (b:Binds K fd ["width","levels"] []):Cal P w K mg base (k+1) "room_on" ["width","levels"] (fnRun 4 (t_room_on )):=
 cal_mk (N:=["width","levels","room","level"]) F sc_room_on hm b fun cdv A outer s H E hr=>
  (dss_cons (ds_set (i:=2) sc_room_on.nd de_int)
  (dss_cons (ds_for (i:=3) PassesOwn.never rfl sc_room_on.nd (di_range1 B.range (da_cons (dv 1) da_nil)) (dss_one (ds_set (i:=2) sc_room_on.nd (de_mul (dv 2) (de_add (dv 0) de_int)))))
  (dss_one (ds_ret (dv 2)))))
theorem sc_fewest_levels:FnScope ["width","count","levels"] ["width","count"] (defScope s_fewest_levels):=⟨rfl,rfl,rfl,by decide +kernel,rfl,by decide +kernel,by decide +kernel⟩
theorem ok_fewest_levels {P:Program}{w:World}{K:PySem.W.Frag}{mg:Str->Option Value}{base:Heap}{k:Nat}{fa:Addr}{fd:FuncData} (B:Bu mg) {g_room_on:OC} (c_room_on:Cal P w K mg base k "room_on" ["width","levels"] g_room_on)
  (F:Fun K "fewest_levels" "fewest_levels" s_fewest_levels fa fd) (hm:mg "fewest_levels"=some (.ref fa)) (b:Binds K fd ["width","count"] []):Cal P w K mg base (k+1) "fewest_levels" ["width","count"] (fnRun 3 (t_fewest_levels g_room_on)):=
 cal_mk (N:=["width","count","levels"]) F sc_fewest_levels hm b fun cdv A outer s H E hr=>
  (dss_cons (ds_set (i:=2) sc_fewest_levels.nd de_int)
  (dss_cons (ds_while 2000 PassesOwn.never (dt_gt (de_add (dv 1) de_int) (de_cal c_room_on hr (da_cons (dv 0) (da_cons (dv 2) da_nil)))) (dss_one (ds_set (i:=2) sc_fewest_levels.nd (de_add (dv 2) de_int))))
  (dss_one (ds_ret (dv 2)))))
theorem sc_even_parts:FnScope ["total","count","least","greater"] ["total","count"] (defScope s_even_parts):=⟨rfl,rfl,rfl,by decide +kernel,rfl,by decide +kernel,by decide +kernel⟩
theorem ok_even_parts {P:Program}{w:World}{K:PySem.W.Frag}{mg:Str->Option Value}{base:Heap}{k:Nat}{fa:Addr}{fd:FuncData} (B:Bu mg)
  (F:Fun K "even_parts" "even_parts" s_even_parts fa fd) (hm:mg "even_parts"=some (.ref fa)) (b:Binds K fd ["total","count"] []):Cal P w K mg base (k+1) "even_parts" ["total","count"] (fnRun 4 (t_even_parts )):=
 cal_mk (N:=["total","count","least","greater"]) F sc_even_parts hm b fun cdv A outer s H E hr=>
  (dss_cons (ds_set (i:=2) sc_even_parts.nd (de_div (dv 0) (dv 1)))
  (dss_cons (ds_set (i:=3) sc_even_parts.nd (de_mod (dv 0) (dv 1)))
  (dss_one (ds_ret (de_catL (de_repL (de_lst (da_cons (de_add (dv 2) de_int) da_nil)) (dv 3)) (de_repL (de_lst (da_cons (dv 2) da_nil)) (de_sub (dv 1) (dv 3))))))))
theorem sc_packed_on:FnScope ["width","levels","cards","count","kept","below","start","part","end"] ["width","levels","cards"] (defScope s_packed_on):=⟨rfl,rfl,rfl,by decide +kernel,rfl,by decide +kernel,by decide +kernel⟩
theorem ok_packed_on {P:Program}{w:World}{K:PySem.W.Frag}{mg:Str->Option Value}{base:Heap}{k:Nat}{fa:Addr}{fd:FuncData} (B:Bu mg) {g_drawer_of:OC} (c_drawer_of:Cal P w K mg base k "drawer_of" ["cards","below"] g_drawer_of) {g_room_on:OC} (c_room_on:Cal P w K mg base k "room_on" ["width","levels"] g_room_on) {g_even_parts:OC} (c_even_parts:Cal P w K mg base k "even_parts" ["total","count"] g_even_parts) {g_packed_on:OC} (c_packed_on:Cal P w K mg base k "packed_on" ["width","levels","cards"] g_packed_on)
  (F:Fun K "packed_on" "packed_on" s_packed_on fa fd) (hm:mg "packed_on"=some (.ref fa)) (b:Binds K fd ["width","levels","cards"] []):Cal P w K mg base (k+1) "packed_on" ["width","levels","cards"] (fnRun 9 (t_packed_on g_drawer_of g_room_on g_even_parts g_packed_on)):=
 cal_mk (N:=["width","levels","cards","count","kept","below","start","part","end"]) F sc_packed_on hm b fun cdv A outer s H E hr=>
  (dss_cons (ds_if (dt_eq hr (dv 1) de_int) (dss_one (ds_ret (de_cal c_drawer_of hr (da_cons (dv 2) (da_cons (de_tup da_nil) da_nil))))) dss_nil)
  (dss_cons (ds_set (i:=3) sc_packed_on.nd (de_add (de_div (de_len B.len (da_cons (dv 2) da_nil)) (de_cal c_room_on hr (da_cons (dv 0) (da_cons (de_sub (dv 1) de_int) da_nil)))) de_int))
  (dss_cons (ds_set (i:=4) sc_packed_on.nd (de_tup da_nil))
  (dss_cons (ds_set (i:=5) sc_packed_on.nd (de_tup da_nil))
  (dss_cons (ds_set (i:=6) sc_packed_on.nd de_int)
  (dss_cons (ds_for (i:=7) PassesOwn.never rfl sc_packed_on.nd (di_seq (de_cal c_even_parts hr (da_cons (de_add (de_len B.len (da_cons (dv 2) da_nil)) de_int) (da_cons (dv 3) da_nil)))) (dss_cons (ds_set (i:=8) sc_packed_on.nd (de_sub (de_add (dv 6) (dv 7)) de_int))
  (dss_cons (ds_set (i:=5) sc_packed_on.nd (de_add (dv 5) (de_tup (da_cons (de_cal c_packed_on hr (da_cons (dv 0) (da_cons (de_sub (dv 1) de_int) (da_cons (de_slice (dv 2) (do_some (dv 6)) (do_some (dv 8))) da_nil)))) da_nil))))
  (dss_cons (ds_set (i:=4) sc_packed_on.nd (de_add (dv 4) (de_slice (dv 2) (do_some (dv 8)) (do_some (de_add (dv 8) de_int)))))
  (dss_one (ds_set (i:=6) sc_packed_on.nd (de_add (dv 8) de_int)))))))
  (dss_one (ds_ret (de_cal c_drawer_of hr (da_cons (dv 4) (da_cons (dv 5) da_nil)))))))))))
theorem sc_packed:FnScope ["width","cards"] ["width","cards"] (defScope s_packed):=⟨rfl,rfl,rfl,by decide +kernel,rfl,by decide +kernel,by decide +kernel⟩
noncomputable def t_packed (g_check_width:OX) (g_check_rising:OX) (g_fewest_levels:OC) (g_packed_on:OC):FS:=
 (fSeq (fDrop (fcX g_check_width (fAll [(fV 0)])))
  (fSeq (fDrop (fcX g_check_rising (fAll [(fV 1)])))
  (fRet (fc g_packed_on (fAll [(fV 0),(fc g_fewest_levels (fAll [(fV 0),(fc oLen (fAll [(fV 1)]))])),(fc oTuple (fAll [(fV 1)]))])))))
theorem ok_packed {P:Program}{w:World}{K:PySem.W.Frag}{mg:Str->Option Value}{base:Heap}{k:Nat}{fa:Addr}{fd:FuncData} (B:Bu mg) {g_check_width:OX} (c_check_width:CalX P w K mg base k "check_width" ["width"] g_check_width) {g_check_rising:OX} (c_check_rising:CalX P w K mg base k "check_rising" ["cards"] g_check_rising) {g_fewest_levels:OC} (c_fewest_levels:Cal P w K mg base k "fewest_levels" ["width","count"] g_fewest_levels) {g_packed_on:OC} (c_packed_on:Cal P w K mg base k "packed_on" ["width","levels","cards"] g_packed_on)
  (F:Fun K "packed" "packed" s_packed fa fd) (hm:mg "packed"=some (.ref fa)) (b:Binds K fd ["width","cards"] []):CalX P w K mg base (k+1) "packed" ["width","cards"] (fnRunX 2 (t_packed g_check_width g_check_rising g_fewest_levels g_packed_on)):=
 calX_mk (N:=["width","cards"]) F sc_packed hm b fun cdv A outer s H E hr=>
  (dss_cons (ds_expr (de_calX c_check_width hr (da_cons (dv 0) da_nil)))
  (dss_cons (ds_expr (de_calX c_check_rising hr (da_cons (dv 1) da_nil)))
  (dss_one (ds_ret (de_cal c_packed_on hr (da_cons (dv 0) (da_cons (de_cal c_fewest_levels hr (da_cons (dv 0) (da_cons (de_len B.len (da_cons (dv 1) da_nil)) da_nil))) (da_cons (de_tuple B.tuple (da_cons (dv 1) da_nil)) da_nil))))))))
theorem sc__law_whole:FnScope ["_law_found"] ["_law_found"] (defScope s__law_whole):=⟨rfl,rfl,rfl,by decide +kernel,rfl,by decide +kernel,by decide +kernel⟩
theorem ok__law_whole {P:Program}{w:World}{K:PySem.W.Frag}{mg:Str->Option Value}{base:Heap}{k:Nat}{fa:Addr}{fd:FuncData} (B:Bu mg)
  (F:Fun K "_law_whole" "_law_whole" s__law_whole fa fd) (hm:mg "_law_whole"=some (.ref fa)) (b:Binds K fd ["_law_found"] []):Cal P w K mg base (k+1) "_law_whole" ["_law_found"] (fnRun 1 (t__law_whole )):=
 cal_mk (N:=["_law_found"]) F sc__law_whole hm b fun cdv A outer s H E hr=>
  (dss_one (ds_ret (de_and (de_isi kit_int bt_int B.isinstance B.int (dv 0)) (de_one (de_not (de_isi kit_bool bt_bool B.isinstance B.bool (dv 0)))))))
theorem sc__law_at:FnScope ["_law_script","_law_k"] ["_law_script","_law_k"] (defScope s__law_at):=⟨rfl,rfl,rfl,by decide +kernel,rfl,by decide +kernel,by decide +kernel⟩
theorem ok__law_at {P:Program}{w:World}{K:PySem.W.Frag}{mg:Str->Option Value}{base:Heap}{k:Nat}{fa:Addr}{fd:FuncData} (B:Bu mg)
  (F:Fun K "_law_at" "_law_at" s__law_at fa fd) (hm:mg "_law_at"=some (.ref fa)) (b:Binds K fd ["_law_script","_law_k"] []):Cal P w K mg base (k+1) "_law_at" ["_law_script","_law_k"] (fnRun 2 (t__law_at )):=
 cal_mk (N:=["_law_script","_law_k"]) F sc__law_at hm b fun cdv A outer s H E hr=>
  (dss_cons (ds_if (dt_lt (dv 1) (de_len B.len (da_cons (dv 0) da_nil))) (dss_one (ds_ret (de_ix (dv 0) (dv 1)))) dss_nil)
  (dss_one (ds_ret de_int)))
theorem sc__law_is_drawer:FnScope ["_law_found","_law_card"] ["_law_found"] (defScope s__law_is_drawer):=⟨rfl,rfl,rfl,by decide +kernel,rfl,by decide +kernel,by decide +kernel⟩
theorem ok__law_is_drawer {P:Program}{w:World}{K:PySem.W.Frag}{mg:Str->Option Value}{base:Heap}{k:Nat}{fa:Addr}{fd:FuncData} (B:Bu mg) {g__law_whole:OC} (c__law_whole:Cal P w K mg base k "_law_whole" ["_law_found"] g__law_whole)
  (F:Fun K "_law_is_drawer" "_law_is_drawer" s__law_is_drawer fa fd) (hm:mg "_law_is_drawer"=some (.ref fa)) (b:Binds K fd ["_law_found"] []):Cal P w K mg base (k+1) "_law_is_drawer" ["_law_found"] (fnRun 2 (t__law_is_drawer g__law_whole)):=
 cal_mk (N:=["_law_found","_law_card"]) F sc__law_is_drawer hm b fun cdv A outer s H E hr=>
  (dss_cons (ds_if (dt_w (dw_or (dt_not (dt_val (de_isi kit_tuple bt_tuple B.isinstance B.tuple (dv 0)))) (dw_or1 (dt_ne hr (de_len B.len (da_cons (dv 0) da_nil)) de_int)))) (dss_one (ds_ret de_bl)) dss_nil)
  (dss_cons (ds_if (dt_w (dw_or (dt_not (dt_val (de_isi kit_tuple bt_tuple B.isinstance B.tuple (de_ix (dv 0) de_int)))) (dw_or1 (dt_not (dt_val (de_isi kit_tuple bt_tuple B.isinstance B.tuple (de_ix (dv 0) de_int))))))) (dss_one (ds_ret de_bl)) dss_nil)
  (dss_cons (ds_for (i:=1) PassesOwn.never rfl sc__law_is_drawer.nd (di_seq (de_ix (dv 0) de_int)) (dss_cons (ds_if (dt_w (dw_or (dt_not (dt_val (de_isi kit_tuple bt_tuple B.isinstance B.tuple (dv 1)))) (dw_or1 (dt_ne hr (de_len B.len (da_cons (dv 1) da_nil)) de_int)))) (dss_one (ds_ret de_bl)) dss_nil)
  (dss_one (ds_if (dt_w (dw_or (dt_not (dt_val (de_cal c__law_whole hr (da_cons (de_ix (dv 1) de_int) da_nil)))) (dw_or1 (dt_not (dt_val (de_isi kit_str bt_str B.isinstance B.str (de_ix (dv 1) de_int))))))) (dss_one (ds_ret de_bl)) dss_nil))))
  (dss_one (ds_ret (de_cal c__law_whole hr (da_cons (de_ix (dv 0) de_int) da_nil)))))))
theorem sc__law_opened:FnScope ["_law_drawers","_law_marks","_law_least","_law_width","_law_under","_law_cards","_law_k","_law_drawer","_law_size","_law_held","_law_inner"] ["_law_drawers","_law_marks","_law_least","_law_width"] (defScope s__law_opened):=⟨rfl,rfl,rfl,by decide +kernel,rfl,by decide +kernel,by decide +kernel⟩
theorem ok__law_opened {P:Program}{w:World}{K:PySem.W.Frag}{mg:Str->Option Value}{base:Heap}{k:Nat}{fa:Addr}{fd:FuncData} (B:Bu mg) {g__law_is_drawer:OC} (c__law_is_drawer:Cal P w K mg base k "_law_is_drawer" ["_law_found"] g__law_is_drawer)
  (F:Fun K "_law_opened" "_law_opened" s__law_opened fa fd) (hm:mg "_law_opened"=some (.ref fa)) (b:Binds K fd ["_law_drawers","_law_marks","_law_least","_law_width"] []):Cal P w K mg base (k+1) "_law_opened" ["_law_drawers","_law_marks","_law_least","_law_width"] (fnRun 11 (t__law_opened g__law_is_drawer)):=
 cal_mk (N:=["_law_drawers","_law_marks","_law_least","_law_width","_law_under","_law_cards","_law_k","_law_drawer","_law_size","_law_held","_law_inner"]) F sc__law_opened hm b fun cdv A outer s H E hr=>
  (dss_cons (ds_set (i:=4) sc__law_opened.nd (de_lst da_nil))
  (dss_cons (ds_set (i:=5) sc__law_opened.nd (de_lst da_nil))
  (dss_cons (ds_for (i:=6) PassesOwn.never rfl sc__law_opened.nd (di_range1 B.range (da_cons (de_len B.len (da_cons (dv 0) da_nil)) da_nil)) (dss_cons (ds_set (i:=7) sc__law_opened.nd (de_ix (dv 0) (dv 6)))
  (dss_cons (ds_set (i:=8) sc__law_opened.nd (de_len B.len (da_cons (de_ix (dv 7) de_int) da_nil)))
  (dss_cons (ds_if (dt_w (dw_or (dt_lt (dv 8) (dv 2)) (dw_or1 (dt_gt (dv 8) (dv 3))))) (dss_one (ds_ret de_non)) dss_nil)
  (dss_cons (ds_if (dt_w (dw_and (dt_ne hr (de_len B.len (da_cons (de_ix (dv 7) de_int) da_nil)) de_int) (dw_and1 (dt_ne hr (de_len B.len (da_cons (de_ix (dv 7) de_int) da_nil)) (de_add (dv 8) de_int))))) (dss_one (ds_ret de_non)) dss_nil)
  (dss_cons (ds_if (dt_ne hr (de_eq hr (de_len B.len (da_cons (de_ix (dv 7) de_int) da_nil)) de_int) (de_eq hr (de_len B.len (da_cons (de_ix (de_ix (dv 0) de_int) de_int) da_nil)) de_int)) (dss_one (ds_ret de_non)) dss_nil)
  (dss_cons (ds_set (i:=9) sc__law_opened.nd (dv 8))
  (dss_cons (ds_for (i:=10) PassesOwn.never rfl sc__law_opened.nd (di_seq (de_ix (dv 7) de_int)) (dss_cons (ds_if (dt_not (dt_val (de_cal c__law_is_drawer hr (da_cons (dv 10) da_nil)))) (dss_one (ds_ret de_non)) dss_nil)
  (dss_one (ds_set (i:=9) sc__law_opened.nd (de_add (dv 9) (de_ix (dv 10) de_int))))))
  (dss_cons (ds_if (dt_ne hr (de_ix (dv 7) de_int) (dv 9)) (dss_one (ds_ret de_non)) dss_nil)
  (dss_cons (ds_expr (de_extend (dv 4) (da_cons (de_list B.list (da_cons (de_ix (dv 7) de_int) da_nil)) da_nil)))
  (dss_cons (ds_expr (de_extend (dv 5) (da_cons (de_list B.list (da_cons (de_ix (dv 7) de_int) da_nil)) da_nil)))
  (dss_one (ds_if (dt_lt (dv 6) (de_len B.len (da_cons (dv 1) da_nil))) (dss_one (ds_expr (de_append (dv 5) (da_cons (de_ix (dv 1) (dv 6)) da_nil)))) dss_nil)))))))))))))
  (dss_one (ds_ret (de_tup (da_cons (dv 4) (da_cons (dv 5) da_nil))))))))
theorem sc__law_walk:FnScope ["_law_top","_law_own","_law_least","_law_width","_law_drawers","_law_cards","_law_levels","_law_bound","_law_parts"] ["_law_top","_law_own","_law_least","_law_width"] (defScope s__law_walk):=⟨rfl,rfl,rfl,by decide +kernel,rfl,by decide +kernel,by decide +kernel⟩
theorem ok__law_walk {P:Program}{w:World}{K:PySem.W.Frag}{mg:Str->Option Value}{base:Heap}{k:Nat}{fa:Addr}{fd:FuncData} (B:Bu mg) {g__law_is_drawer:OC} (c__law_is_drawer:Cal P w K mg base k "_law_is_drawer" ["_law_found"] g__law_is_drawer) {g__law_opened:OC} (c__law_opened:Cal P w K mg base k "_law_opened" ["_law_drawers","_law_marks","_law_least","_law_width"] g__law_opened)
  (F:Fun K "_law_walk" "_law_walk" s__law_walk fa fd) (hm:mg "_law_walk"=some (.ref fa)) (b:Binds K fd ["_law_top","_law_own","_law_least","_law_width"] []):Cal P w K mg base (k+1) "_law_walk" ["_law_top","_law_own","_law_least","_law_width"] (fnRun 9 (t__law_walk g__law_is_drawer g__law_opened)):=
 cal_mk (N:=["_law_top","_law_own","_law_least","_law_width","_law_drawers","_law_cards","_law_levels","_law_bound","_law_parts"]) F sc__law_walk hm b fun cdv A outer s H E hr=>
  (dss_cons (ds_if (dt_not (dt_val (de_cal c__law_is_drawer hr (da_cons (dv 0) da_nil)))) (dss_one (ds_ret de_non)) dss_nil)
  (dss_cons (ds_set (i:=4) sc__law_walk.nd (de_lst (da_cons (dv 0) da_nil)))
  (dss_cons (ds_set (i:=5) sc__law_walk.nd (de_lst da_nil))
  (dss_cons (ds_set (i:=6) sc__law_walk.nd de_int)
  (dss_cons (ds_set (i:=7) sc__law_walk.nd (dv 1))
  (dss_cons (ds_while 2000 PassesOwn.never (dt_gt (de_len B.len (da_cons (dv 4) da_nil)) de_int) (dss_cons (ds_set (i:=8) sc__law_walk.nd (de_cal c__law_opened hr (da_cons (dv 4) (da_cons (dv 5) (da_cons (dv 7) (da_cons (dv 3) da_nil))))))
  (dss_cons (ds_if (dt_isN (dv 8) de_non) (dss_one (ds_ret de_non)) dss_nil)
  (dss_cons (ds_set (i:=4) sc__law_walk.nd (de_ix (dv 8) de_int))
  (dss_cons (ds_set (i:=5) sc__law_walk.nd (de_ix (dv 8) de_int))
  (dss_cons (ds_set (i:=6) sc__law_walk.nd (de_add (dv 6) de_int))
  (dss_one (ds_set (i:=7) sc__law_walk.nd (dv 2)))))))))
  (dss_one (ds_ret (de_tup (da_cons (dv 6) (da_cons (dv 5) da_nil)))))))))))
theorem sc__law_reach_by:FnScope ["_law_script","_law_some"] ["_law_script"] (defScope s__law_reach_by):=⟨rfl,rfl,rfl,by decide +kernel,rfl,by decide +kernel,by decide +kernel⟩
theorem ok__law_reach_by {P:Program}{w:World}{K:PySem.W.Frag}{mg:Str->Option Value}{base:Heap}{k:Nat}{fa:Addr}{fd:FuncData} (B:Bu mg) {g__law_at:OC} (c__law_at:Cal P w K mg base k "_law_at" ["_law_script","_law_k"] g__law_at)
  (F:Fun K "_law_reach_by" "_law_reach_by" s__law_reach_by fa fd) (hm:mg "_law_reach_by"=some (.ref fa)) (b:Binds K fd ["_law_script"] []):Cal P w K mg base (k+1) "_law_reach_by" ["_law_script"] (fnRun 2 (t__law_reach_by g__law_at)):=
 cal_mk (N:=["_law_script","_law_some"]) F sc__law_reach_by hm b fun cdv A outer s H E hr=>
  (dss_cons (ds_set (i:=1) sc__law_reach_by.nd (de_mod (de_cal c__law_at hr (da_cons (dv 0) (da_cons de_int da_nil))) (de_mul (de_pow de_int de_int) (de_pow de_int de_int))))
  (dss_one (ds_ret (de_ix (de_lst (da_cons (de_pow de_int de_int) (da_cons de_int (da_cons de_int (da_cons de_int (da_cons (dv 1) da_nil)))))) (de_mod (de_div (de_cal c__law_at hr (da_cons (dv 0) (da_cons de_int da_nil))) de_int) de_int)))))
theorem sc__law_far:FnScope ["_law_number","_law_step"] ["_law_number","_law_step"] (defScope s__law_far):=⟨rfl,rfl,rfl,by decide +kernel,rfl,by decide +kernel,by decide +kernel⟩
theorem ok__law_far {P:Program}{w:World}{K:PySem.W.Frag}{mg:Str->Option Value}{base:Heap}{k:Nat}{fa:Addr}{fd:FuncData} (B:Bu mg)
  (F:Fun K "_law_far" "_law_far" s__law_far fa fd) (hm:mg "_law_far"=some (.ref fa)) (b:Binds K fd ["_law_number","_law_step"] []):Cal P w K mg base (k+1) "_law_far" ["_law_number","_law_step"] (fnRun 2 (t__law_far )):=
 cal_mk (N:=["_law_number","_law_step"]) F sc__law_far hm b fun cdv A outer s H E hr=>
  (dss_cons (ds_if (dt_gt (dv 0) de_int) (dss_one (ds_ret (de_add (dv 0) (dv 1)))) dss_nil)
  (dss_cons (ds_if (dt_lt (dv 0) (de_neg de_int)) (dss_one (ds_ret (de_sub (dv 0) (dv 1)))) dss_nil)
  (dss_one (ds_ret (dv 0)))))
theorem sc__law_same:FnScope ["_law_handed","_law_deeds","_law_k","_law_part"] ["_law_handed","_law_deeds"] (defScope s__law_same):=⟨rfl,rfl,rfl,by decide +kernel,rfl,by decide +kernel,by decide +kernel⟩
theorem ok__law_same {P:Program}{w:World}{K:PySem.W.Frag}{mg:Str->Option Value}{base:Heap}{k:Nat}{fa:Addr}{fd:FuncData} (B:Bu mg) {g__law_whole:OC} (c__law_whole:Cal P w K mg base k "_law_whole" ["_law_found"] g__law_whole)
  (F:Fun K "_law_same" "_law_same" s__law_same fa fd) (hm:mg "_law_same"=some (.ref fa)) (b:Binds K fd ["_law_handed","_law_deeds"] []):Cal P w K mg base (k+1) "_law_same" ["_law_handed","_law_deeds"] (fnRun 4 (t__law_same g__law_whole)):=
 cal_mk (N:=["_law_handed","_law_deeds","_law_k","_law_part"]) F sc__law_same hm b fun cdv A outer s H E hr=>
  (dss_cons (ds_if (dt_ne hr (de_len B.len (da_cons (dv 0) da_nil)) (de_len B.len (da_cons (dv 1) da_nil))) (dss_one (ds_ret de_bl)) dss_nil)
  (dss_cons (ds_for (i:=2) PassesOwn.never rfl sc__law_same.nd (di_range1 B.range (da_cons (de_len B.len (da_cons (dv 1) da_nil)) da_nil)) (dss_cons (ds_if (dt_w (dw_or (dt_not (dt_val (de_isi kit_tuple bt_tuple B.isinstance B.tuple (de_ix (dv 0) (dv 2))))) (dw_or1 (dt_ne hr (de_len B.len (da_cons (de_ix (dv 0) (dv 2)) da_nil)) (de_len B.len (da_cons (de_ix (dv 1) (dv 2)) da_nil)))))) (dss_one (ds_ret de_bl)) dss_nil)
  (dss_cons (ds_for (i:=3) PassesOwn.never rfl sc__law_same.nd (di_seq (de_ix (dv 0) (dv 2))) (dss_one (ds_if (dt_w (dw_and (dt_notN (dv 3) de_non) (dw_and (dt_not (dt_val (de_isi kit_str bt_str B.isinstance B.str (dv 3)))) (dw_and1 (dt_not (dt_val (de_cal c__law_whole hr (da_cons (dv 3) da_nil)))))))) (dss_one (ds_ret de_bl)) dss_nil)))
  (dss_one (ds_if (dt_ne hr (de_ix (dv 0) (dv 2)) (de_ix (dv 1) (dv 2))) (dss_one (ds_ret de_bl)) dss_nil)))))
  (dss_one (ds_ret de_bl))))
theorem sc__law_even:FnScope ["_law_top","_law_width","_law_levels","_law_todo","_law_one","_law_left","_law_k"] ["_law_top","_law_width","_law_levels"] (defScope s__law_even):=⟨rfl,rfl,rfl,by decide +kernel,rfl,by decide +kernel,by decide +kernel⟩
theorem ok__law_even {P:Program}{w:World}{K:PySem.W.Frag}{mg:Str->Option Value}{base:Heap}{k:Nat}{fa:Addr}{fd:FuncData} (B:Bu mg) {g__law_room_for:OC} (c__law_room_for:Cal P w K mg base k "_law_room_for" ["_law_width","_law_levels"] g__law_room_for)
  (F:Fun K "_law_even" "_law_even" s__law_even fa fd) (hm:mg "_law_even"=some (.ref fa)) (b:Binds K fd ["_law_top","_law_width","_law_levels"] []):Cal P w K mg base (k+1) "_law_even" ["_law_top","_law_width","_law_levels"] (fnRun 7 (t__law_even g__law_room_for)):=
 cal_mk (N:=["_law_top","_law_width","_law_levels","_law_todo","_law_one","_law_left","_law_k"]) F sc__law_even hm b fun cdv A outer s H E hr=>
  (dss_cons (ds_set (i:=3) sc__law_even.nd (de_lst (da_cons (de_tup (da_cons (dv 0) (da_cons (dv 2) da_nil))) da_nil)))
  (dss_cons (ds_while 2000 PassesOwn.never (dt_gt (de_len B.len (da_cons (dv 3) da_nil)) de_int) (dss_cons (ds_unp2 (i:=4) (j:=5) rfl sc__law_even.nd (de_pop (dv 3)))
  (dss_cons (ds_if (dt_w (dw_and (dt_gt (dv 5) de_int) (dw_and1 (dt_ne hr (de_len B.len (da_cons (de_ix (dv 4) de_int) da_nil)) (de_add (de_div (de_ix (dv 4) de_int) (de_cal c__law_room_for hr (da_cons (dv 1) (da_cons (de_sub (dv 5) de_int) da_nil)))) de_int))))) (dss_one (ds_ret de_bl)) dss_nil)
  (dss_cons (ds_for (i:=6) PassesOwn.never rfl sc__law_even.nd (di_range2 B.range (da_cons de_int (da_cons (de_len B.len (da_cons (de_ix (dv 4) de_int) da_nil)) da_nil))) (dss_one (ds_if (dt_w (dw_or (dt_gt (de_ix (de_ix (de_ix (dv 4) de_int) (dv 6)) de_int) (de_ix (de_ix (de_ix (dv 4) de_int) (de_sub (dv 6) de_int)) de_int)) (dw_or1 (dt_lt (de_add (de_ix (de_ix (de_ix (dv 4) de_int) (dv 6)) de_int) de_int) (de_ix (de_ix (de_ix (dv 4) de_int) de_int) de_int))))) (dss_one (ds_ret de_bl)) dss_nil)))
  (dss_one (ds_expr (de_extend (dv 3) (da_cons (de_comp (fr:=[5]) (frn:=["_law_left"]) rfl (di_seq (de_ix (dv 4) de_int)) fun _ _ _ _=>⟨.nil,(de_tup (da_cons (dv 0) (da_cons (de_sub (dv 1) de_int) da_nil)))⟩) da_nil))))))))
  (dss_one (ds_ret de_bl))))
theorem sc__law_room_for:FnScope ["_law_width","_law_levels","_law_room","_law_level"] ["_law_width","_law_levels"] (defScope s__law_room_for):=⟨rfl,rfl,rfl,by decide +kernel,rfl,by decide +kernel,by decide +kernel⟩
theorem ok__law_room_for {P:Program}{w:World}{K:PySem.W.Frag}{mg:Str->Option Value}{base:Heap}{k:Nat}{fa:Addr}{fd:FuncData} (B:Bu mg)
  (F:Fun K "_law_room_for" "_law_room_for" s__law_room_for fa fd) (hm:mg "_law_room_for"=some (.ref fa)) (b:Binds K fd ["_law_width","_law_levels"] []):Cal P w K mg base (k+1) "_law_room_for" ["_law_width","_law_levels"] (fnRun 4 (t__law_room_for )):=
 cal_mk (N:=["_law_width","_law_levels","_law_room","_law_level"]) F sc__law_room_for hm b fun cdv A outer s H E hr=>
  (dss_cons (ds_set (i:=2) sc__law_room_for.nd de_int)
  (dss_cons (ds_for (i:=3) PassesOwn.never rfl sc__law_room_for.nd (di_range1 B.range (da_cons (dv 1) da_nil)) (dss_one (ds_set (i:=2) sc__law_room_for.nd (de_mul (dv 2) (de_add (dv 0) de_int)))))
  (dss_one (ds_ret (dv 2)))))
theorem sc__law_refuses:FnScope ["_law_width","_law_cards","e","_law_under"] ["_law_width","_law_cards"] (defScope s__law_refuses):=⟨rfl,rfl,rfl,by decide +kernel,rfl,by decide +kernel,by decide +kernel⟩
noncomputable def t__law_refuses (x_NoWidth:Addr) (x_DrawerError:Addr) (x_NotRising:Addr) (x_NoCard:Addr) (g_packed:OX):FS:=
 (fSeq (fTry (fDrop (fcX g_packed (fAll [(fV 0),(fV 1)]))) (mOf [(x_NoWidth,fTrue),(x_NotRising,fTrue)]))
  (fRet (fC (.bl false))))
theorem ok__law_refuses {P:Program}{w:World}{K:PySem.W.Frag}{mg:Str->Option Value}{base:Heap}{k:Nat}{fa:Addr}{fd:FuncData} (B:Bu mg) {x_NoWidth:Addr}{bm_NoWidth:List Value} (e_NoWidth:ExC K x_NoWidth bm_NoWidth) (m_NoWidth:mg "NoWidth"=some (.ref x_NoWidth)) {x_DrawerError:Addr}{bm_DrawerError:List Value} (e_DrawerError:ExC K x_DrawerError bm_DrawerError) (m_DrawerError:mg "DrawerError"=some (.ref x_DrawerError)) {x_NotRising:Addr}{bm_NotRising:List Value} (e_NotRising:ExC K x_NotRising bm_NotRising) (m_NotRising:mg "NotRising"=some (.ref x_NotRising)) {x_NoCard:Addr}{bm_NoCard:List Value} (e_NoCard:ExC K x_NoCard bm_NoCard) (m_NoCard:mg "NoCard"=some (.ref x_NoCard)) (s_NoWidth_DrawerError:(Value.ref x_NoWidth::bm_NoWidth).contains (.ref x_DrawerError)=true) (s_NotRising_DrawerError:(Value.ref x_NotRising::bm_NotRising).contains (.ref x_DrawerError)=true) (xk_NoWidth:ExK K x_NoWidth) (ky_NoWidth:PySem.W.kitOne K (.ref x_NoWidth) (.type "ValueError")=some true) (xk_NotRising:ExK K x_NotRising) (ky_NotRising:PySem.W.kitOne K (.ref x_NotRising) (.type "ValueError")=some true) (mV:mg "ValueError"=none) (ki_NoWidth_NotRising:PySem.W.kitOne K (.ref x_NoWidth) (.ref x_NotRising)=some false) (ki_NoWidth_NoWidth:PySem.W.kitOne K (.ref x_NoWidth) (.ref x_NoWidth)=some true) (ki_NoWidth_NoCard:PySem.W.kitOne K (.ref x_NoWidth) (.ref x_NoCard)=some false) (ki_NotRising_NotRising:PySem.W.kitOne K (.ref x_NotRising) (.ref x_NotRising)=some true) (ki_NotRising_NoWidth:PySem.W.kitOne K (.ref x_NotRising) (.ref x_NoWidth)=some false) (ki_NotRising_NoCard:PySem.W.kitOne K (.ref x_NotRising) (.ref x_NoCard)=some false) {g_packed:OX} (c_packed:CalX P w K mg base k "packed" ["width","cards"] g_packed)
  (F:Fun K "_law_refuses" "_law_refuses" s__law_refuses fa fd) (hm:mg "_law_refuses"=some (.ref fa)) (b:Binds K fd ["_law_width","_law_cards"] []):Cal P w K mg base (k+1) "_law_refuses" ["_law_width","_law_cards"] (fnRun 4 (t__law_refuses x_NoWidth x_DrawerError x_NotRising x_NoCard g_packed)):=
 cal_mk (N:=["_law_width","_law_cards","e","_law_under"]) F sc__law_refuses hm b fun cdv A outer s H E hr=>
  (dss_cons (ds_try (fun _ _=>(dss_one (ds_expr (de_calX c_packed hr (da_cons (dv 0) (da_cons (dv 1) da_nil)))))) (mh_cons (dh_as (i:=2) e_NoWidth e_DrawerError m_DrawerError s_NoWidth_DrawerError sc__law_refuses.nd (fun pn p oe pin hc=>pss_cons (ps_set (i:=3) sc__law_refuses.nd rfl (Or.inl rfl) (pe_lst (pa_cons (pe_isx pin hc xk_NoWidth e_NoWidth ki_NoWidth_NoCard B.isinstance m_NoCard) (pa_cons (pe_isx pin hc xk_NoWidth e_NoWidth ki_NoWidth_NoWidth B.isinstance m_NoWidth) (pa_cons (pe_isx pin hc xk_NoWidth e_NoWidth ki_NoWidth_NotRising B.isinstance m_NotRising) pa_nil))))) (pss_one (ps_ret (pe_and (pe_isy pin hc xk_NoWidth e_NoWidth ky_NoWidth B.isinstance mV bt_ValueError) (pe_one (pe_cmpR op_eq (pe_bm PySem.F.plainAttrs_list PySem.F.slot_list_count PySem.F.type_list_count mt_count (pv 3) (pa_cons pe_bl pa_nil)) pe_int (nomark _))))))) fun p Dn σ H hl e q=>rd_as (n:=4) (by decide) (by decide) (by decide) hl e q) (mh_cons (dh_as (i:=2) e_NotRising e_DrawerError m_DrawerError s_NotRising_DrawerError sc__law_refuses.nd (fun pn p oe pin hc=>pss_cons (ps_set (i:=3) sc__law_refuses.nd rfl (Or.inl rfl) (pe_lst (pa_cons (pe_isx pin hc xk_NotRising e_NotRising ki_NotRising_NoCard B.isinstance m_NoCard) (pa_cons (pe_isx pin hc xk_NotRising e_NotRising ki_NotRising_NoWidth B.isinstance m_NoWidth) (pa_cons (pe_isx pin hc xk_NotRising e_NotRising ki_NotRising_NotRising B.isinstance m_NotRising) pa_nil))))) (pss_one (ps_ret (pe_and (pe_isy pin hc xk_NotRising e_NotRising ky_NotRising B.isinstance mV bt_ValueError) (pe_one (pe_cmpR op_eq (pe_bm PySem.F.plainAttrs_list PySem.F.slot_list_count PySem.F.type_list_count mt_count (pv 3) (pa_cons pe_bl pa_nil)) pe_int (nomark _))))))) fun p Dn σ H hl e q=>rd_as (n:=4) (by decide) (by decide) (by decide) hl e q) mh_nil)))
  (dss_one (ds_ret de_bl)))
theorem sc_law:FnScope ["_law_script","_law_step","_law_seed","_law_width","_law_cards","_law_number","_law_cell","_law_spot","_law_most","_law_spoilt","_law_handed","_law_refused","_law_found","_law_walked","_law_few"] ["_law_script"] (defScope s_law):=⟨rfl,rfl,rfl,by decide +kernel,rfl,by decide +kernel,by decide +kernel⟩
noncomputable def t_law (x_NoWidth:Addr) (x_NotRising:Addr) (g__law_reach_by:OC) (g__law_at:OC) (g__law_far:OC) (g_packed:OX) (g__law_same:OC) (g__law_refuses:OC) (g__law_walk:OC) (g__law_room_for:OC) (g__law_even:OC):FS:=
 (fSeq (fSet 0 (fSl (fV 0) fNoPart (fPart (fC (.int 500)))))
  (fSeq (fSet 1 (fc g__law_reach_by (fAll [(fV 0)])))
  (fSeq (fSet 2 (fc g__law_at (fAll [(fV 0),(fC (.int 0))])))
  (fSeq (fSet 3 (f2 oIx (fLst [(f2 oSub (f2 oMod (fV 2) (fC (.int 13))) (fC (.int 1))),(f2 oAdd (fC (.int 12)) (f2 oMod (f2 oDiv (fV 2) (fC (.int 468))) (fC (.int 60))))]) (fc oInt (fAll [(f2 oEq (f2 oMod (f2 oDiv (fV 2) (fC (.int 52))) (fC (.int 9))) (fC (.int 1)))]))))
  (fSeq (fSet 4 (fLst []))
  (fSeq (fSet 5 (f1 oNeg (fC (.int 10))))
  (fSeq (fFor 6 (fiSeq (fSl (fV 0) (fPart (fC (.int 2))) fNoPart)) (fSeq (fSet 5 (f2 oAdd (f2 oAdd (fV 5) (fC (.int 1))) (f2 oMod (fV 6) (fC (.int 3)))))
  (fSeq (fSet 7 (f2 oMod (f2 oDiv (fV 6) (fC (.int 3))) (fC (.int 4))))
  (fDrop (fM oAppend (fV 4) [(fTup [(fc g__law_far (fAll [(fV 5),(fV 1)])),(f2 oIx (fLst [(fC (.str "")),(fC (.str "a")),(fC (.str " {x}! ")),(fC (.str "No. 4 of c"))]) (fV 7))])])))))
  (fSeq (fSet 8 (fLst [(fc oLen (fAll [(fV 4)])),(fV 3),(f2 oAdd (f2 oMul (fV 3) (fV 3)) (f2 oMul (fC (.int 2)) (fV 3))),(fc oLen (fAll [(fV 4)]))]))
  (fSeq (fSet 4 (fSl (fV 4) fNoPart (fPart (fc oMax (fAll [(fC (.int 0)),(f2 oIx (fV 8) (f2 oMod (f2 oDiv (fc g__law_at (fAll [(fV 0),(fC (.int 0))])) (fC (.int 13))) (fC (.int 4))))])))))
  (fSeq (fSet 9 (fAndV (f2 oEq (f2 oMod (fc g__law_at (fAll [(fV 0),(fC (.int 1))])) (fC (.int 6))) (fC (.int 1))) (f2 oGt (fc oLen (fAll [(fV 4)])) (fC (.int 1)))))
  (fSeq (fIfS (fB (fV 9)) (fSeq (fSet 7 (f2 oAdd (fC (.int 1)) (f2 oMod (f2 oDiv (fc g__law_at (fAll [(fV 0),(fC (.int 1))])) (fC (.int 6))) (f2 oSub (fc oLen (fAll [(fV 4)])) (fC (.int 1))))))
  (fSetIx (fTup [(f2 oSub (f2 oIx (f2 oIx (fV 4) (f2 oSub (fV 7) (fC (.int 1)))) (fC (.int 0))) (f2 oMod (f2 oDiv (fc g__law_at (fAll [(fV 0),(fC (.int 1))])) (fC (.int 6))) (fC (.int 2)))),(fC (.str "d"))]) (fV 4) (fV 7))) fNext)
  (fSeq (fSet 10 (fc oList (fAll [(fV 4)])))
  (fSeq (fSet 11 (fC (.str "")))
  (fSeq (fSet 12 (fC .non))
  (fSeq (fTry (fSet 12 (fcX g_packed (fAll [(fV 3),(fV 10)]))) (mOf [(x_NoWidth,noEx (fSet 11 (fC (.str "width")))),(x_NotRising,noEx (fSet 11 (fC (.str "rising"))))]))
  (fSeq (fIfS (fOr (fNot (fB (fc g__law_same (fAll [(fV 10),(fV 4)])))) (fB (f2 oNe (fc g__law_refuses (fAll [(fV 3),(fV 10)])) (f2 oNe (fV 11) (fC (.str "")))))) (fRet (fC (.bl false))) fNext)
  (fSeq (fIfS (fB (f2 oLt (fV 3) (fC (.int 2)))) (fRet (f2 oEq (fV 11) (fC (.str "width")))) fNext)
  (fSeq (fIfS (fOr (fB (f2 oNe (fV 11) (fC (.str "")))) (fB (fV 9))) (fRet (fAndV (f2 oEq (fV 11) (fC (.str "rising"))) (fV 9))) fNext)
  (fSeq (fSet 13 (fc g__law_walk (fAll [(fV 12),(fC (.int 0)),(f2 oDiv (fV 3) (fC (.int 2))),(fV 3)])))
  (fSeq (fIfS (fOr (fB (f2 oIsN (fV 13) (fC .non))) (fOr (fB (f2 oEq (fc oLen (fAll [(f2 oIx (fV 12) (fC (.int 1)))])) (fC (.int 1)))) (fB (f2 oNe (f2 oIx (fV 13) (fC (.int 1))) (fV 4))))) (fRet (fC (.bl false))) fNext)
  (fSeq (fSet 14 (fOrV (f2 oEq (f2 oIx (fV 13) (fC (.int 0))) (fC (.int 1))) (f2 oLe (fc g__law_room_for (fAll [(fV 3),(f2 oSub (f2 oIx (fV 13) (fC (.int 0))) (fC (.int 1)))])) (fc oLen (fAll [(fV 4)])))))
  (fSeq (fIfS (fOr (fNot (fB (fV 14))) (fNot (fB (fc g__law_even (fAll [(fV 12),(fV 3),(f2 oIx (fV 13) (fC (.int 0)))]))))) (fRet (fC (.bl false))) fNext)
  (fRet (f2 oGt (fc g__law_room_for (fAll [(fV 3),(f2 oIx (fV 13) (fC (.int 0)))])) (fc oLen (fAll [(fV 4)]))))))))))))))))))))))))))
theorem fnok_law {P:Program}{w:World}{K:PySem.W.Frag}{mg:Str->Option Value}{base:Heap}{k:Nat}{fa:Addr}{fd:FuncData} (B:Bu mg) {x_NoWidth:Addr}{bm_NoWidth:List Value} (e_NoWidth:ExC K x_NoWidth bm_NoWidth) (m_NoWidth:mg "NoWidth"=some (.ref x_NoWidth)) {x_NotRising:Addr}{bm_NotRising:List Value} (e_NotRising:ExC K x_NotRising bm_NotRising) (m_NotRising:mg "NotRising"=some (.ref x_NotRising)) (s_NotRising_NoWidth:(Value.ref x_NotRising::bm_NotRising).contains (.ref x_NoWidth)=false) {g__law_reach_by:OC} (c__law_reach_by:Cal P w K mg base k "_law_reach_by" ["_law_script"] g__law_reach_by) {g__law_at:OC} (c__law_at:Cal P w K mg base k "_law_at" ["_law_script","_law_k"] g__law_at) {g__law_far:OC} (c__law_far:Cal P w K mg base k "_law_far" ["_law_number","_law_step"] g__law_far) {g_packed:OX} (c_packed:CalX P w K mg base k "packed" ["width","cards"] g_packed) {g__law_same:OC} (c__law_same:Cal P w K mg base k "_law_same" ["_law_handed","_law_deeds"] g__law_same) {g__law_refuses:OC} (c__law_refuses:Cal P w K mg base k "_law_refuses" ["_law_width","_law_cards"] g__law_refuses) {g__law_walk:OC} (c__law_walk:Cal P w K mg base k "_law_walk" ["_law_top","_law_own","_law_least","_law_width"] g__law_walk) {g__law_room_for:OC} (c__law_room_for:Cal P w K mg base k "_law_room_for" ["_law_width","_law_levels"] g__law_room_for) {g__law_even:OC} (c__law_even:Cal P w K mg base k "_law_even" ["_law_top","_law_width","_law_levels"] g__law_even)
  (F:Fun K "law" "law" s_law fa fd):FnOk P w K mg base CX0 (k+1) fa fd ["_law_script"] (spD K 1 (fnRun 15 (t_law x_NoWidth x_NotRising g__law_reach_by g__law_at g__law_far g_packed g__law_same g__law_refuses g__law_walk g__law_room_for g__law_even))):=
 fn_D (N:=["_law_script","_law_step","_law_seed","_law_width","_law_cards","_law_number","_law_cell","_law_spot","_law_most","_law_spoilt","_law_handed","_law_refused","_law_found","_law_walked","_law_few"]) (ps:=["_law_script"]) F sc_law fun cdv A outer s H E hr=>
  (dss_cons (ds_set (i:=0) sc_law.nd (de_slice (dv 0) do_none (do_some de_int)))
  (dss_cons (ds_set (i:=1) sc_law.nd (de_cal c__law_reach_by hr (da_cons (dv 0) da_nil)))
  (dss_cons (ds_set (i:=2) sc_law.nd (de_cal c__law_at hr (da_cons (dv 0) (da_cons de_int da_nil))))
  (dss_cons (ds_set (i:=3) sc_law.nd (de_ix (de_lst (da_cons (de_sub (de_mod (dv 2) de_int) de_int) (da_cons (de_add de_int (de_mod (de_div (dv 2) de_int) de_int)) da_nil))) (de_intc B.int (da_cons (de_eq hr (de_mod (de_div (dv 2) de_int) de_int) de_int) da_nil))))
  (dss_cons (ds_set (i:=4) sc_law.nd (de_lst da_nil))
  (dss_cons (ds_set (i:=5) sc_law.nd (de_neg de_int))
  (dss_cons (ds_for (i:=6) PassesOwn.never rfl sc_law.nd (di_seq (de_slice (dv 0) (do_some de_int) do_none)) (dss_cons (ds_set (i:=5) sc_law.nd (de_add (de_add (dv 5) de_int) (de_mod (dv 6) de_int)))
  (dss_cons (ds_set (i:=7) sc_law.nd (de_mod (de_div (dv 6) de_int) de_int))
  (dss_one (ds_expr (de_append (dv 4) (da_cons (de_tup (da_cons (de_cal c__law_far hr (da_cons (dv 5) (da_cons (dv 1) da_nil))) (da_cons (de_ix (de_lst (da_cons de_str (da_cons de_str (da_cons de_str (da_cons de_str da_nil))))) (dv 7)) da_nil))) da_nil)))))))
  (dss_cons (ds_set (i:=8) sc_law.nd (de_lst (da_cons (de_len B.len (da_cons (dv 4) da_nil)) (da_cons (dv 3) (da_cons (de_add (de_mul (dv 3) (dv 3)) (de_mul de_int (dv 3))) (da_cons (de_len B.len (da_cons (dv 4) da_nil)) da_nil))))))
  (dss_cons (ds_set (i:=4) sc_law.nd (de_slice (dv 4) do_none (do_some (de_max B.max rfl (da_cons de_int (da_cons (de_ix (dv 8) (de_mod (de_div (de_cal c__law_at hr (da_cons (dv 0) (da_cons de_int da_nil))) de_int) de_int)) da_nil))))))
  (dss_cons (ds_set (i:=9) sc_law.nd (de_and (de_eq hr (de_mod (de_cal c__law_at hr (da_cons (dv 0) (da_cons de_int da_nil))) de_int) de_int) (de_one (de_gt (de_len B.len (da_cons (dv 4) da_nil)) de_int))))
  (dss_cons (ds_if (dt_val (dv 9)) (dss_cons (ds_set (i:=7) sc_law.nd (de_add de_int (de_mod (de_div (de_cal c__law_at hr (da_cons (dv 0) (da_cons de_int da_nil))) de_int) (de_sub (de_len B.len (da_cons (dv 4) da_nil)) de_int))))
  (dss_one (ds_setIx (de_tup (da_cons (de_sub (de_ix (de_ix (dv 4) (de_sub (dv 7) de_int)) de_int) (de_mod (de_div (de_cal c__law_at hr (da_cons (dv 0) (da_cons de_int da_nil))) de_int) de_int)) (da_cons de_str da_nil))) (dv 4) (dv 7)))) dss_nil)
  (dss_cons (ds_set (i:=10) sc_law.nd (de_list B.list (da_cons (dv 4) da_nil)))
  (dss_cons (ds_set (i:=11) sc_law.nd de_str)
  (dss_cons (ds_set (i:=12) sc_law.nd de_non)
  (dss_cons (ds_try (fun _ _=>(dss_one (ds_set (i:=12) sc_law.nd (de_calX c_packed hr (da_cons (dv 3) (da_cons (dv 10) da_nil)))))) (mh_cons (dh_hit e_NoWidth e_NoWidth m_NoWidth (contains_self _ _) fun _ _=>(dss_one (ds_set (i:=11) sc_law.nd de_str))) (mh_cons (dh_miss e_NotRising e_NoWidth m_NoWidth s_NotRising_NoWidth (dh_hit e_NotRising e_NotRising m_NotRising (contains_self _ _) fun _ _=>(dss_one (ds_set (i:=11) sc_law.nd de_str)))) mh_nil)))
  (dss_cons (ds_if (dt_w (dw_or (dt_not (dt_val (de_cal c__law_same hr (da_cons (dv 10) (da_cons (dv 4) da_nil))))) (dw_or1 (dt_ne hr (de_cal c__law_refuses hr (da_cons (dv 3) (da_cons (dv 10) da_nil))) (de_ne hr (dv 11) de_str))))) (dss_one (ds_ret de_bl)) dss_nil)
  (dss_cons (ds_if (dt_lt (dv 3) de_int) (dss_one (ds_ret (de_eq hr (dv 11) de_str))) dss_nil)
  (dss_cons (ds_if (dt_w (dw_or (dt_ne hr (dv 11) de_str) (dw_or1 (dt_val (dv 9))))) (dss_one (ds_ret (de_and (de_eq hr (dv 11) de_str) (de_one (dv 9))))) dss_nil)
  (dss_cons (ds_set (i:=13) sc_law.nd (de_cal c__law_walk hr (da_cons (dv 12) (da_cons de_int (da_cons (de_div (dv 3) de_int) (da_cons (dv 3) da_nil))))))
  (dss_cons (ds_if (dt_w (dw_or (dt_isN (dv 13) de_non) (dw_or (dt_eq hr (de_len B.len (da_cons (de_ix (dv 12) de_int) da_nil)) de_int) (dw_or1 (dt_ne hr (de_ix (dv 13) de_int) (dv 4)))))) (dss_one (ds_ret de_bl)) dss_nil)
  (dss_cons (ds_set (i:=14) sc_law.nd (de_or (de_eq hr (de_ix (dv 13) de_int) de_int) (de_one (de_le (de_cal c__law_room_for hr (da_cons (dv 3) (da_cons (de_sub (de_ix (dv 13) de_int) de_int) da_nil))) (de_len B.len (da_cons (dv 4) da_nil))))))
  (dss_cons (ds_if (dt_w (dw_or (dt_not (dt_val (dv 14))) (dw_or1 (dt_not (dt_val (de_cal c__law_even hr (da_cons (dv 12) (da_cons (dv 3) (da_cons (de_ix (dv 13) de_int) da_nil))))))))) (dss_one (ds_ret de_bl)) dss_nil)
  (dss_one (ds_ret (de_gt (de_cal c__law_room_for hr (da_cons (dv 3) (da_cons (de_ix (dv 13) de_int) da_nil))) (de_len B.len (da_cons (dv 4) da_nil)))))))))))))))))))))))))))
end K09
namespace M
open PySem PySem.Spec PyProof.Rows L2 DL MD
theorem compD_fm {chk:Hh->Prop}{ft:FT}{fe:FE}{fenv:En}{p:D->Bool}{g:D->D}{h1:Hh} (hc:∀ xs,chk (h1++[.lst xs])):∀ (items acc:List D),(∀ d∈items,∀ xs,ft (some d::fenv) (h1++[.lst xs])=.ok (p d) (h1++[.lst xs]))->
  (∀ d∈items,p d=true->∀ xs,fe (some d::fenv) (h1++[.lst xs])=.ok (g d) (h1++[.lst xs]))->acc.length+items.length<=sizeLine->
  compD chk h1.length ft fe fenv items (h1++[.lst acc])=some (h1++[.lst (acc++(items.filter p).map g)])
 | [],acc,_,_,_=>by
  unfold compD
  rw [if_pos (hc acc)]
  simp
 | d::r,acc,ht,he,hl=>by
  have hd:=ht d List.mem_cons_self acc
  unfold compD
  rw [if_pos (hc acc),hd]
  cases hp:p d with
  | false=>
   have:=compD_fm hc r acc (fun x hx=>ht x (List.mem_cons_of_mem _ hx)) (fun x hx=>he x (List.mem_cons_of_mem _ hx)) (by simp at hl; omega)
   simp only [List.filter_cons,hp,Bool.false_eq_true,if_false]
   exact this
  | true=>
   have h2:=he d List.mem_cons_self hp acc
   have e1:(h1++[O.lst acc])[h1.length]?=some (.lst acc):=List.getElem?_concat_length
   have e2:(h1++[O.lst acc]).set h1.length (.lst (acc++[g d]))=h1++[.lst (acc++[g d])]:=by simp
   have:=compD_fm hc r (acc++[g d]) (fun x hx=>ht x (List.mem_cons_of_mem _ hx)) (fun x hx=>he x (List.mem_cons_of_mem _ hx)) (by simp at hl |-; omega)
   simp only [h2,itemsAt_of e1]
   rw [if_pos (by simp at hl; omega),e2,this]
   simp [List.filter_cons,hp]
theorem fComp_run {fi:FI}{fr:List Nat}{ft:FT}{fe:FE}{env:En}{h h1:Hh}{it:Itm}{p:D->Bool}{g:D->D} (q:fi env h=.ok it h1) (hc:∀ xs,it.chk (h1++[.lst xs])) (ht:∀ d∈it.items,∀ xs,ft (some d::freeEn fr env) (h1++[.lst xs])=.ok (p d) (h1++[.lst xs]))
  (he:∀ d∈it.items,p d=true->∀ xs,fe (some d::freeEn fr env) (h1++[.lst xs])=.ok (g d) (h1++[.lst xs])) (hl:it.items.length<=sizeLine):
  fComp fi fr ft fe env h=.ok (.lst h1.length) (h1++[.lst ((it.items.filter p).map g)]):=by
 unfold fComp
 rw [q,Res.bind_ok,compD_fm hc it.items [] ht he (by simpa using hl)]
 simp
theorem fComp_map {fi:FI}{fr:List Nat}{fe:FE}{env:En}{h h1:Hh}{it:Itm}{g:D->D} (q:fi env h=.ok it h1) (hc:∀ xs,it.chk (h1++[.lst xs]))
  (he:∀ d∈it.items,∀ xs,fe (some d::freeEn fr env) (h1++[.lst xs])=.ok (g d) (h1++[.lst xs])) (hl:it.items.length<=sizeLine):
  fComp fi fr fYes fe env h=.ok (.lst h1.length) (h1++[.lst (it.items.map g)]):=by
 have:=fComp_run (ft:=fYes) (p:=fun _=>true) q hc (fun _ _ _=>rfl) (fun d hd _=>he d hd) hl
 rw [this,List.filter_eq_self.mpr (by simp)]
theorem cut_head {α:Type} (xs:List α) (k:Nat):DL.cutD xs none (some (k:Int))=xs.take k:=by
 unfold DL.cutD
 rw [HT.sIx_none,HT.sIx_nat,List.drop_zero,Nat.sub_zero]
 by_cases h:k<=xs.length
 ·rw [Nat.min_eq_left h]
 ·rw [Nat.min_eq_right (by omega),List.take_of_length_le (by omega),List.take_of_length_le (by omega)]
theorem cut_tail {α:Type} (xs:List α) (k:Nat):DL.cutD xs (some (k:Int)) none=xs.drop k:=by
 unfold DL.cutD
 rw [HT.sIx_none,HT.sIx_nat]
 by_cases h:k<=xs.length
 ·rw [Nat.min_eq_left h]
  exact List.take_of_length_le (by rw [List.length_drop]; omega)
 ·rw [Nat.min_eq_right (by omega),List.drop_length,List.drop_eq_nil_of_le (by omega)]
  simp
theorem cut_mid {α:Type} (xs:List α) (i k:Nat):DL.cutD xs (some (i:Int)) (some (k:Int))=(xs.drop i).take (k - i):=by
 unfold DL.cutD
 rw [HT.sIx_nat,HT.sIx_nat]
 by_cases h:i<=xs.length
 ·rw [Nat.min_eq_left h]
  by_cases h2:k<=xs.length
  ·rw [Nat.min_eq_left h2]
  ·rw [Nat.min_eq_right (by omega),List.take_of_length_le (by rw [List.length_drop]; omega),List.take_of_length_le (by rw [List.length_drop]; omega)]
 ·rw [Nat.min_eq_right (show xs.length<=i by omega),List.drop_length,List.drop_eq_nil_of_le (by omega)]
  simp
def heldOf:D->Int
 | .tup [_,_,.int n]=>n
 | _=>0
def IsDr (b:D):Prop:=∃ x y n,b=.tup [x,y,.int n]
def drawerOf (cs bs:List D):D:=.tup [.tup cs,.tup bs,.int (cs.length+(bs.map heldOf).sum)]
@[simp] theorem drawer_ix0 (cs bs:List D) (h:Hh):oIx (drawerOf cs bs) (.int 0) h=some (.tup cs,h):=rfl
@[simp] theorem drawer_ix1 (cs bs:List D) (h:Hh):oIx (drawerOf cs bs) (.int 1) h=some (.tup bs,h):=rfl
@[simp] theorem drawer_ix2 (cs bs:List D) (h:Hh):oIx (drawerOf cs bs) (.int 2) h=some (.int (cs.length+(bs.map heldOf).sum),h):=rfl
@[simp] theorem heldOf_drawer (cs bs:List D):heldOf (drawerOf cs bs)=cs.length+(bs.map heldOf).sum:=rfl
theorem rng1_nat {n:Nat} (h:n<=1000000):rng1 [.int n]=some ((List.range n).map fun (k:Nat)=>D.int k):=by
 have c:-(2 ^ 62)<=(n:Int)/\(n:Int) < 2 ^ 62:=⟨by omega,by omega⟩
 unfold rng1
 dsimp only
 rw [if_pos c,Int.toNat_natCast]
theorem fiRng1_ok {fs:List FE}{env:En}{h h1:Hh}{n:Nat} (q:fAll fs env h=.ok [.int (n:Int)] h1) (hn:n<=1000000):fiRng rng1 fs env h=.ok ⟨(List.range n).map fun (k:Nat)=>D.int k,fun _=>True⟩ h1:=by
 unfold fiRng
 rw [q,Res.bind_ok,rng1_nat hn]
 rfl
theorem range_get {n j:Nat}{d:D} (h:((List.range n).map fun (k:Nat)=>D.int k)[j]?=some d):j < n/\d=.int j:=by
 rw [List.getElem?_map] at h
 obtain⟨k,hk,rfl⟩:=Option.map_eq_some_iff.mp h
 obtain⟨hlt,e⟩:=List.getElem?_eq_some_iff.mp hk
 rw [List.getElem_range] at e
 subst e
 exact⟨by simpa using hlt,rfl⟩
theorem IsDr.of (cs bs:List D):IsDr (drawerOf cs bs):=⟨_,_,_,rfl⟩
def R_drawer (ds:List D) (d:D):Prop:=∃ cs bs:List D,ds=[.tup cs,.tup bs]/\d=drawerOf cs bs/\(∀ b∈bs,IsDr b)/\(∀ x∈cs,HB 0 x)/\(∀ x∈bs,HB 0 x)/\bs.length<=sizeLine
theorem runs_drawer:Runs (fnRun 2 t_drawer_of) R_drawer:=by
 rintro ds d ⟨cs,bs,rfl,rfl,hd,h1,h2,hl⟩
 refine⟨.tup fun x hx=>?_,fun h=>⟨[.lst (bs.map fun b=>.int (heldOf b))],fnRun_rt ?_⟩⟩
 ·simp only [List.mem_cons,List.not_mem_nil,or_false] at hx
  rcases hx with rfl | rfl | rfl
  ·exact .tup h1
  ·exact .tup h2
  ·exact .int _
 unfold t_drawer_of
 refine fRet_ok ?_
 have e:fComp (fiSeq (fV 1)) [] fYes (f2 oIx (fV 0) (fC (.int 2))) (startE 2 [.tup cs,.tup bs]) h=.ok (.lst h.length) (h++[.lst (bs.map fun b=>.int (heldOf b))]):=by
  refine fComp_map (it:=⟨bs,fun _=>True⟩) (h1:=h) (g:=fun b=>.int (heldOf b)) ?_ (fun _=>trivial) (fun b hb xs=>?_) hl
  ·simp [fiSeq,fV,startE,itSeq]
  ·obtain⟨x,y,n,rfl⟩:=hd b hb
   simp [f2,fV,fC,heldOf,atI_pos]
 have es:oSum [.lst h.length] (h++[.lst (bs.map fun b=>.int (heldOf b))])=some (.int (bs.map heldOf).sum,h++[.lst (bs.map fun b=>.int (heldOf b))]):=by
  refine oSum_lst (ds:=bs.map fun b=>.int (heldOf b)) (ns:=bs.map heldOf) (by simp) ?_
  have:=intsD_map (bs.map heldOf)
  rw [List.map_map] at this
  exact this
 have a3:f2 oAdd (fc oLen (fAll [fV 0])) (fc oSum (fAll [fComp (fiSeq (fV 1)) [] fYes (f2 oIx (fV 0) (fC (.int 2)))])) (startE 2 [.tup cs,.tup bs]) h=.ok (.int (cs.length+(bs.map heldOf).sum)) (h++[.lst (bs.map fun b=>.int (heldOf b))]):=by
  rw [f2_ok (x:=.int cs.length) (h1:=h) (y:=.int (bs.map heldOf).sum) (h2:=h++[.lst (bs.map fun b=>.int (heldOf b))]) rfl (by rw [fc_ok (fAll_cons e rfl),es]; rfl)]
  rfl
 unfold fTup
 rw [fAll_cons rfl (fAll_cons rfl (fAll_cons a3 rfl))]
 rfl
theorem det_drawer:Det R_drawer:=runs_drawer.det
inductive Dp:Nat->D->Prop where
 | int {n:Nat} (i:Int):Dp (n+1) (.int i)
 | str {n:Nat} (x:Str):Dp (n+1) (.str x)
 | bl {n:Nat} (b:Bool):Dp (n+1) (.bl b)
 | non {n:Nat}:Dp (n+1) .non
 | tup {n:Nat}{ds:List D}:(∀ d∈ds,Dp n d)->Dp (n+1) (.tup ds)
theorem eqL_refl {f:D->D->Option Bool}:∀ {xs:List D},(∀ x∈xs,f x x=some true)->eqL f xs xs=some true
 | [],_=>rfl
 | x::r,h=>by
  unfold eqL
  rw [h x List.mem_cons_self,eqL_refl fun y hy=>h y (List.mem_cons_of_mem _ hy)]
  rfl
theorem eqD_refl {h:Hh}:∀ {n:Nat}{d:D},Dp n d->eqD n h d d=some true
 | _,_,.int i=>by simp [eqD]
 | _,_,.str x=>by simp [eqD]
 | _,_,.bl b=>by simp [eqD]
 | _,_,.non=>by simp [eqD]
 | _,_,.tup (n:=n) hd=>by
  show eqL (eqD n h) _ _=_
  exact eqL_refl fun x hx=>eqD_refl (hd x hx)
theorem Dp.mono {n m:Nat}{d:D} (h:Dp n d) (hm:n<=m):Dp m d:=by
 induction h generalizing m with
 | int i=>obtain⟨k,rfl⟩:∃ k,m=k+1:=⟨m - 1,by omega⟩; exact .int i
 | str i=>obtain⟨k,rfl⟩:∃ k,m=k+1:=⟨m - 1,by omega⟩; exact .str i
 | bl i=>obtain⟨k,rfl⟩:∃ k,m=k+1:=⟨m - 1,by omega⟩; exact .bl i
 | non=>obtain⟨k,rfl⟩:∃ k,m=k+1:=⟨m - 1,by omega⟩; exact .non
 | tup _ ih=>obtain⟨k,rfl⟩:∃ k,m=k+1:=⟨m - 1,by omega⟩; exact .tup fun d hd=>ih d hd (by omega)
theorem oNe_refl {d:D} (h:Hh) (p:Dp 24 d):oNe d d h=some (.bl false,h):=by
 unfold oNe
 rw [eqD_refl p]
 rfl
def cardD (p:Int×Str):D:=.tup [.int p.1,.str p.2]
theorem hb_card (p:Int×Str):HB 0 (cardD p):=.tup fun x hx=>by
 simp only [List.mem_cons,List.not_mem_nil,or_false] at hx
 rcases hx with rfl | rfl
 ·exact .int _
 ·exact .str _
theorem dp_card (p:Int×Str) (n:Nat):Dp (n+2) (cardD p):=.tup fun x hx=>by
 simp only [List.mem_cons,List.not_mem_nil,or_false] at hx
 rcases hx with rfl | rfl
 ·exact .int _
 ·exact .str _
def IsCard (c:D):Prop:=∃ p,c=cardD p
theorem run_whole (i:Int) (h:Hh):fnRun 1 t__law_whole [.int i] h=some (.bl true,h):=by
 refine fnRun_rt ?_
 unfold t__law_whole
 simp [fSeq,fSet,fRet,fDrop,fIfS,fB,f1,f2,fc,fAll,fTup,fLst,fC,fV,fAnd,fOr,fNot,fAndV,fOrV,fSl,fNoPart,fPart,fNext,startE,getO_some,asB_bl,ofO_some,Res.bind_ok,Res.out_ok,oIsi,tyD,isiB]
theorem run_at {h:Hh}{n:Nat}{ns:List Int}{k:Int} (e:h[n]?=some (.lst (ns.map D.int))) (hk:0<=k):fnRun 2 t__law_at [.lst n,.int k] h=some (.int (ns.getD k.toNat 0),h):=by
 refine fnRun_rt ?_
 unfold t__law_at
 by_cases c:k < (ns.length:Int)
 ·have hlt:k.toNat < ns.length:=by omega
  refine fSeq_rt ?_
  rw [fIfS_t (h1:=h)]
  ·simp [fSeq,fSet,fRet,fDrop,fIfS,fB,f1,f2,fc,fAll,fTup,fLst,fC,fV,fAnd,fOr,fNot,fAndV,fOrV,fSl,fNoPart,fPart,fNext,startE,getO_some,asB_bl,ofO_some,Res.bind_ok,Res.out_ok,oIx_lst e,atI_pos hk,hlt,List.getD_eq_getElem?_getD]
  ·simp [fSeq,fSet,fRet,fDrop,fIfS,fB,f1,f2,fc,fAll,fTup,fLst,fC,fV,fAnd,fOr,fNot,fAndV,fOrV,fSl,fNoPart,fPart,fNext,startE,getO_some,asB_bl,ofO_some,Res.bind_ok,Res.out_ok,oLen_lst e,c]
 ·rw [fSeq_nx (e1:=[some (.lst n),some (.int k)]) (h1:=h)]
  ·have:ns[k.toNat]?=none:=List.getElem?_eq_none (by omega)
   simp [fRet,fC,List.getD_eq_getElem?_getD,this]
  ·rw [fIfS_f (h1:=h)]
   ·rfl
   ·simp [fSeq,fSet,fRet,fDrop,fIfS,fB,f1,f2,fc,fAll,fTup,fLst,fC,fV,fAnd,fOr,fNot,fAndV,fOrV,fSl,fNoPart,fPart,fNext,startE,getO_some,asB_bl,ofO_some,Res.bind_ok,Res.out_ok,oLen_lst e,c]
theorem run_is_drawer {cs:List D}{b:D}{n:Int} (hb:∃ bs,b=.tup bs) (hc:∀ c∈cs,IsCard c) (h:Hh):fnRun 2 (t__law_is_drawer (fnRun 1 t__law_whole)) [.tup [.tup cs,b,.int n]] h=some (.bl true,h):=by
 obtain⟨bs,rfl⟩:=hb
 refine fnRun_rt ?_
 unfold t__law_is_drawer
 rw [fSeq_nx (e1:=[some (.tup [.tup cs,.tup bs,.int n]),none]) (h1:=h) (by simp [fSeq,fSet,fRet,fDrop,fIfS,fB,f1,f2,fc,fAll,fTup,fLst,fC,fV,fAnd,fOr,fNot,fAndV,fOrV,fSl,fNoPart,fPart,fNext,startE,getO_some,asB_bl,ofO_some,Res.bind_ok,Res.out_ok,oIsi,tyD,isiB])]
 rw [fSeq_nx (e1:=[some (.tup [.tup cs,.tup bs,.int n]),none]) (h1:=h) (by simp [fSeq,fSet,fRet,fDrop,fIfS,fB,f1,f2,fc,fAll,fTup,fLst,fC,fV,fAnd,fOr,fNot,fAndV,fOrV,fSl,fNoPart,fPart,fNext,startE,getO_some,asB_bl,ofO_some,Res.bind_ok,Res.out_ok,oIsi,tyD,isiB,atI_pos])]
 obtain⟨e2,h2,q2,k2⟩:=forG_run (chk:=fun _=>True) (i:=1)
  (t:=(fSeq (fIfS (fOr (fNot (fB (f1 (oIsi "tuple") (fV 1)))) (fB (f2 oNe (fc oLen (fAll [(fV 1)])) (fC (.int 2))))) (fRet (fC (.bl false))) fNext)
   (fIfS (fOr (fNot (fB (fc (fnRun 1 t__law_whole) (fAll [(f2 oIx (fV 1) (fC (.int 0)))])))) (fNot (fB (f1 (oIsi "str") (f2 oIx (fV 1) (fC (.int 1))))))) (fRet (fC (.bl false))) fNext)))
  (P:=fun k e h'=>h'=h/\∃ z,e=[some (.tup [.tup cs,.tup bs,.int n]),z]) cs [some (.tup [.tup cs,.tup bs,.int n]),none] h ⟨rfl,none,rfl⟩ (fun _ _ _ _=>trivial) (by
   rintro j d e h' hj ⟨rfl,z,rfl⟩
   obtain⟨p,rfl⟩:=hc d (List.mem_of_getElem? hj)
   exact⟨[some (.tup [.tup cs,.tup bs,.int n]),some (cardD p)],h',by simp [fSeq,fSet,fRet,fDrop,fIfS,fB,f1,f2,fc,fAll,fTup,fLst,fC,fV,fAnd,fOr,fNot,fAndV,fOrV,fSl,fNoPart,fPart,fNext,startE,getO_some,asB_bl,ofO_some,Res.bind_ok,Res.out_ok,oIsi,tyD,isiB,atI_pos,cardD,run_whole],rfl,_,rfl⟩)
 obtain⟨rfl,z,rfl⟩:=k2
 rw [fSeq_nx ((fFor_ok (it:=⟨cs,fun _=>True⟩) (h1:=h2) (by simp [fiSeq,fSeq,fSet,fRet,fDrop,fIfS,fB,f1,f2,fc,fAll,fTup,fLst,fC,fV,fAnd,fOr,fNot,fAndV,fOrV,fSl,fNoPart,fPart,fNext,startE,getO_some,asB_bl,ofO_some,Res.bind_ok,Res.out_ok,itSeq,atI_pos])).trans q2)]
 simp [fSeq,fSet,fRet,fDrop,fIfS,fB,f1,f2,fc,fAll,fTup,fLst,fC,fV,fAnd,fOr,fNot,fAndV,fOrV,fSl,fNoPart,fPart,fNext,startE,getO_some,asB_bl,ofO_some,Res.bind_ok,Res.out_ok,atI_pos,run_whole]
abbrev Card:=Int×Str
inductive T where
 | node (cs:List Card) (bs:List T)
def T.cs:T->List Card
 | .node cs _=>cs
def T.bs:T->List T
 | .node _ bs=>bs
@[simp] theorem T.cs_node (cs:List Card) (bs:List T):(T.node cs bs).cs=cs:=rfl
@[simp] theorem T.bs_node (cs:List Card) (bs:List T):(T.node cs bs).bs=bs:=rfl
mutual
def T.d:T->D
 | .node cs bs=>drawerOf (cs.map cardD) (T.dL bs)
def T.dL:List T->List D
 | []=>[]
 | t::r=>t.d::T.dL r
end
theorem T.dL_map:∀ bs:List T,T.dL bs=bs.map T.d
 | []=>by simp [T.dL]
 | t::r=>by simp [T.dL,T.dL_map r]
theorem T.d_node (cs:List Card) (bs:List T):(T.node cs bs).d=drawerOf (cs.map cardD) (bs.map T.d):=by
 rw [T.d,T.dL_map]
theorem T.isDr (t:T):IsDr t.d:=by
 cases t with
 | node cs bs=>rw [T.d_node]; exact .of _ _
mutual
def T.flat:T->List Card
 | .node cs bs=>T.inter (T.flatL bs) cs
def T.flatL:List T->List (List Card)
 | []=>[]
 | t::r=>t.flat::T.flatL r
def T.inter:List (List Card)->List Card->List Card
 | [],cs=>cs
 | f::r,[]=>f++T.inter r []
 | f::r,c::cs=>f++c::T.inter r cs
end
theorem T.flatL_map:∀ bs:List T,T.flatL bs=bs.map T.flat
 | []=>by simp [T.flatL]
 | t::r=>by simp [T.flatL,T.flatL_map r]
theorem T.flat_node (cs:List Card) (bs:List T):(T.node cs bs).flat=T.inter (bs.map T.flat) cs:=by
 rw [T.flat,T.flatL_map]
def T.V (least w:Nat):Nat->Nat->T->Prop
 | _,0,_=>False
 | own,n+1,.node cs bs=>own<=cs.length/\cs.length<=w/\(n=0->bs=[])/\(0 < n->bs.length=cs.length+1/\∀ b∈bs,T.V least w least n b)
theorem T.V_mono {least w own own' n:Nat} (h:own'<=own) {t:T} (v:T.V least w own n t):T.V least w own' n t:=by
 cases n with
 | zero=>exact v.elim
 | succ n=>
  cases t with
  | node cs bs=>
   unfold T.V at v |-
   exact⟨by omega,v.2⟩
theorem T.hb:∀ (n:Nat) {least w own:Nat}{t:T},T.V least w own n t->HB 0 t.d
 | 0,_,_,_,_,v=>v.elim
 | n+1,least,w,own,.node cs bs,v=>by
  unfold T.V at v
  rw [T.d_node]
  refine .tup fun x hx=>?_
  simp only [List.mem_cons,List.not_mem_nil,or_false] at hx
  rcases hx with rfl | rfl | rfl
  ·exact .tup fun y hy=>by
    obtain⟨p,_,rfl⟩:=List.mem_map.mp hy
    exact hb_card p
  ·refine .tup fun y hy=>?_
   obtain⟨b,hb,rfl⟩:=List.mem_map.mp hy
   cases n with
   | zero=>rw [v.2.2.1 rfl] at hb; exact nomatch hb
   | succ n=>exact T.hb (n+1) ((v.2.2.2 (by omega)).2 b hb)
  ·exact .int _
theorem atI_neg1 {α:Type} (xs:List α):atI xs (-1)=xs[xs.length - 1]?:=by
 unfold L2.atI ixN
 rw [if_neg (by decide)]
 by_cases h:xs.length=0
 ·rw [if_neg (by omega)]
  have:xs=[]:=List.length_eq_zero_iff.mp h
  subst this
  rfl
 ·rw [if_pos (by omega)]
  show xs[((-1:Int)+(xs.length:Int)).toNat]?=_
  rw [show ((-1:Int)+(xs.length:Int)).toNat=xs.length - 1 by omega]
mutual
theorem T.hbd:∀ t:T,HB 0 t.d
 | .node cs bs=>by
  rw [T.d]
  refine .tup fun x hx=>?_
  simp only [List.mem_cons,List.not_mem_nil,or_false] at hx
  rcases hx with rfl | rfl | rfl
  ·exact .tup fun y hy=>by
    obtain⟨p,_,rfl⟩:=List.mem_map.mp hy
    exact hb_card p
  ·exact .tup (T.hbL bs)
  ·exact .int _
theorem T.hbL:∀ (bs:List T),∀ y∈T.dL bs,HB 0 y
 | [],y,hy=>by rw [T.dL] at hy; exact nomatch hy
 | t::r,y,hy=>by
  rw [T.dL] at hy
  rcases List.mem_cons.mp hy with rfl | hy
  ·exact T.hbd t
  ·exact T.hbL r y hy
end
theorem hb_cards (cs:List Card):∀ x∈cs.map cardD,HB 0 x:=fun x hx=>by
 obtain⟨p,_,rfl⟩:=List.mem_map.mp hx
 exact hb_card p
theorem hb_trees (bs:List T):∀ x∈bs.map T.d,HB 0 x:=fun x hx=>by
 obtain⟨p,_,rfl⟩:=List.mem_map.mp hx
 exact p.hbd
theorem t_ix0 (t:T) (h:Hh):oIx t.d (.int 0) h=some (.tup (t.cs.map cardD),h):=by cases t; rw [T.d_node]; rfl
theorem t_ix1 (t:T) (h:Hh):oIx t.d (.int 1) h=some (.tup (t.bs.map T.d),h):=by cases t; rw [T.d_node]; rfl
theorem sz1000 {n:Nat} (h:n<=100000):n<=sizeLine:=Nat.le_trans h (by decide)
theorem relF_dr (cs:List Card) (bs:List T) (hl:bs.length<=10000) (h:Hh):relF R_drawer [.tup (cs.map cardD),.tup (bs.map T.d)] h=some ((T.node cs bs).d,h):=by
 rw [T.d_node]
 exact relF_eq det_drawer ⟨_,_,rfl,rfl,fun b hb=>by obtain⟨t,_,rfl⟩:=List.mem_map.mp hb; exact t.isDr,hb_cards cs,hb_trees bs,by rw [List.length_map]; exact sz1000 (by omega)⟩ h
section
variable {α:Type} (f:α->D)
end
def lentL (cs:List Card) (bs:List T) (p:Nat) (c:Card) (l s:T):T:=
 .node (cs.take p++l.cs.drop (l.cs.length - 1)++cs.drop (p+1)) (bs.take p++[.node l.cs.dropLast l.bs.dropLast,.node (c::s.cs) (l.bs.drop (l.bs.length - 1)++s.bs)]++bs.drop (p+2))
def lentR (cs:List Card) (bs:List T) (p:Nat) (c:Card) (s r:T):T:=
 .node (cs.take p++r.cs.take 1++cs.drop (p+1)) (bs.take p++[.node (s.cs++[c]) (s.bs++r.bs.take 1),.node (r.cs.drop 1) (r.bs.drop 1)]++bs.drop (p+2))
def joinT (cs:List Card) (bs:List T) (p:Nat) (c:Card) (l r:T):T:=
 .node (cs.take p++[]++cs.drop (p+1)) (bs.take p++[.node (l.cs++[c]++r.cs) (l.bs++r.bs)]++bs.drop (p+2))
structure Nb (cs:List Card) (bs:List T) (p:Nat) (c:Card) (l r:T):Prop where
 hc:cs[p]?=some c
 hl:bs[p]?=some l
 hr:bs[p+1]?=some r
 zc:cs.length<=1000
 zb:bs.length<=1000
 zlc:l.cs.length<=1000
 zlb:l.bs.length<=1000
 zrc:r.cs.length<=1000
 zrb:r.bs.length<=1000
theorem ix_trees {bs:List T}{p:Nat}{t:T} (e:bs[p]?=some t) (h:Hh):oIx (.tup (bs.map T.d)) (.int p) h=some (t.d,h):=by
 rw [oIx_tup,atI_nat',List.getElem?_map,e]; rfl
inductive Mend (half:Nat) (cs:List Card) (bs:List T) (p:Nat):T->Prop where
 | asis {t:T} (e:bs[p]?=some t) (h:t.cs.length+1≠half):Mend half cs bs p (.node cs bs)
 | left {q:Nat}{c:Card}{l t:T} (hp:p=q+1) (nb:Nb cs bs q c l t) (h:t.cs.length+1=half) (hl:half < l.cs.length):Mend half cs bs p (lentL cs bs q c l t)
 | right {c:Card}{t r:T} (nb:Nb cs bs p c t r) (h:t.cs.length+1=half) (hr:half < r.cs.length) (hl:∀ l,0 < p->bs[p - 1]?=some l->¬ half < l.cs.length):Mend half cs bs p (lentR cs bs p c t r)
 | joinL {q:Nat}{c:Card}{l t:T} (hp:p=q+1) (nb:Nb cs bs q c l t) (h:t.cs.length+1=half) (hl:¬ half < l.cs.length) (hr:∀ r,bs[p+1]?=some r->¬ half < r.cs.length):Mend half cs bs p (joinT cs bs q c l t)
 | joinR {c:Card}{t r:T} (hp:p=0) (nb:Nb cs bs p c t r) (h:t.cs.length+1=half) (hr:¬ half < r.cs.length):Mend half cs bs p (joinT cs bs p c t r)
theorem t_len0 {t:T}{h:Hh}{f:FE}{e:En}{h0:Hh} (q:f e h0=.ok t.d h):fc oLen (fAll [f2 oIx f (fC (.int 0))]) e h0=.ok (.int t.cs.length) h:=by
 rw [fc_ok (fAll_cons (d:=.tup (t.cs.map cardD)) (h1:=h) (by rw [f2_ok q rfl,t_ix0]; rfl) rfl),oLen_tup,List.length_map]
 rfl
theorem inter_join:∀ {F:List (List Card)}{C:List Card} (G:List (List Card)) (c:Card) (E:List Card),F.length=C.length+1->T.inter (F++G) (C++c::E)=T.inter F C++c::T.inter G E
 | [],C,G,c,E,h=>by simp at h
 | [f],[],G,c,E,h=>by simp [T.inter]
 | [f],d::C,G,c,E,h=>by simp at h
 | f::f2::F,[],G,c,E,h=>by simp at h
 | f::f2::F,d::C,G,c,E,h=>by
  have:=inter_join (F:=f2::F) (C:=C) G c E (by simpa using h)
  simp only [List.cons_append,T.inter,List.append_assoc] at this |-
  rw [this]
theorem inter_one (g:List Card):T.inter [g] []=g:=by simp [T.inter]
theorem inter_nil (cs:List Card):T.inter [] cs=cs:=by cases cs<;>rfl
def T.Fl (bot:Bool) (t:T):Prop:=if bot then t.bs=[] else t.bs.length=t.cs.length+1
theorem T.flat_eq (t:T):t.flat=T.inter (t.bs.map T.flat) t.cs:=by cases t; rw [T.flat_node]; rfl
theorem T.flat_bot {t:T} (h:t.bs=[]):t.flat=t.cs:=by rw [T.flat_eq,h,List.map_nil,inter_nil]
section
variable {cs:List Card}{bs:List T}{p:Nat}{c:Card}{l s r:T}{bot:Bool}
end
theorem T.V.fl {least w own n:Nat}{t:T} (v:T.V least w own (n+1) t):T.Fl (decide (n=0)) t:=by
 cases t with
 | node cs bs=>
  unfold T.V at v
  unfold T.Fl
  by_cases h:n=0
  ·rw [decide_eq_true h,if_pos rfl]; exact v.2.2.1 h
  ·rw [decide_eq_false h,if_neg (by decide)]; exact (v.2.2.2 (by omega)).1
theorem T.V.lo {least w own n:Nat}{t:T} (v:T.V least w own (n+1) t):own<=t.cs.length:=by
 cases t; unfold T.V at v; exact v.1
theorem T.V.hi {least w own n:Nat}{t:T} (v:T.V least w own (n+1) t):t.cs.length<=w:=by
 cases t; unfold T.V at v; exact v.2.1
theorem T.V.kids {least w own n:Nat}{t:T} (v:T.V least w own (n+1) t) (h:0 < n):t.bs.length=t.cs.length+1/\∀ b∈t.bs,T.V least w least n b:=by
 cases t; unfold T.V at v; exact v.2.2.2 h
theorem T.V.leaf {least w own:Nat}{t:T} (v:T.V least w own 1 t):t.bs=[]:=by
 cases t; unfold T.V at v; exact v.2.2.1 rfl
theorem T.V.mk {least w own n:Nat}{cs:List Card}{bs:List T} (h1:own<=cs.length) (h2:cs.length<=w) (h3:n=0->bs=[]) (h4:0 < n->bs.length=cs.length+1/\∀ b∈bs,T.V least w least n b):T.V least w own (n+1) (.node cs bs):=by
 unfold T.V; exact⟨h1,h2,h3,h4⟩
theorem T.V.bsz {least w own n:Nat}{t:T} (v:T.V least w own (n+1) t):t.bs.length<=w+1:=by
 by_cases h:n=0
 ·subst h; rw [v.leaf]; simp
 ·rw [(v.kids (by omega)).1]; have:=v.hi; omega
section
variable {half w n p:Nat}{cs:List Card}{bs:List T}{c:Card}{l s r:T}
structure Short (half w n:Nat) (cs:List Card) (bs:List T) (p:Nat):Prop where
 hp:p < bs.length
 c0:0 < cs.length
 cw:cs.length<=w
 bl:bs.length=cs.length+1
 hh:half=w / 2
 h0:0 < half
 hw:w<=500
 ok:∀ i b,bs[i]?=some b->i≠p->T.V half w half (n+1) b
 at':∀ b,bs[p]?=some b->T.V half w (half - 1) (n+1) b
theorem Short.nb (S:Short half w n cs bs p) {q:Nat} (hq:q+1 < bs.length):∃ c l r,Nb cs bs q c l r:=by
 have h1:=S.bl
 have h2:=S.cw
 have h3:=S.hw
 have sz:∀ i (hi:i < bs.length),(bs[i]).cs.length<=1000/\(bs[i]).bs.length<=1000:=fun i hi=>by
  by_cases e:i=p
  ·subst e
   have v:=S.at' _ (List.getElem?_eq_getElem hi)
   have:=v.hi
   have:=v.bsz
   omega
  ·have v:=S.ok i _ (List.getElem?_eq_getElem hi) e
   have:=v.hi
   have:=v.bsz
   omega
 exact⟨cs[q]'(by omega),bs[q]'(by omega),bs[q+1],List.getElem?_eq_getElem (by omega),List.getElem?_eq_getElem (by omega),List.getElem?_eq_getElem hq,by omega,by omega,(sz q (by omega)).1,(sz q (by omega)).2,(sz (q+1) hq).1,(sz (q+1) hq).2⟩
end
inductive LO (half:Nat):Nat->T->Card->T->Prop where
 | bot {n:Nat}{cs:List Card}{c:Card} (e:cs[cs.length - 1]?=some c):LO half (n+1) (.node cs []) c (.node cs.dropLast [])
 | up {n:Nat}{cs:List Card}{bs:List T}{b:T}{c:Card}{b' t':T} (hb:bs[bs.length - 1]?=some b) (z:bs.length<=1000) (r:LO half n b c b')
   (m:Mend half cs (bs.take (bs.length - 1)++[b']++bs.drop (bs.length - 1+1)) (bs.length - 1) t'):LO half (n+1) (.node cs bs) c t'
theorem relF0 {R:List D->D->Prop} (h:∀ ds d,¬ R ds d) (ds:List D) (hh:Hh):relF R ds hh=none:=by
 unfold relF pureF
 cases e:ofR R ds with
 | none=>rfl
 | some d=>exact absurd (ofR_some e) (h ds d)
theorem cal_none {P:Program}{w:World}{K:PySem.W.Frag}{mg:Str->Option Value}{base:Heap}{x qual:Str}{st:Stmt}{f:Addr}{fd:FuncData}{ps:List Str}{k:Nat}{R:List D->D->Prop} (F:Fun K x qual st f fd) (hm:mg x=some (.ref f)) (b:Binds K fd ps []) (h:∀ ds d,¬ R ds d):
  Cal P w K mg base k x ps (relF R):=by
 refine⟨f,fd,⟨fun vs H Q E q=>q.1,?_⟩,hm,F.kp,b⟩
 rintro A outer s H args us vs Q E hr he hb hv ⟨_,as,ds,h1,_,_,p⟩
 rw [relF0 h] at p
 exact p.elim
def Grow (h h':Hh):Prop:=∃ j,h'=h++j
theorem Grow.refl (h:Hh):Grow h h:=⟨[],by simp⟩
theorem Grow.app (h j:Hh):Grow h (h++j):=⟨j,rfl⟩
theorem Grow.trans {a b c:Hh} (h1:Grow a b) (h2:Grow b c):Grow a c:=by
 obtain⟨j,rfl⟩:=h1
 obtain⟨k,rfl⟩:=h2
 exact⟨j++k,by simp⟩
theorem Grow.set {a b:Hh} (h1:Grow a b) {n:Nat} (hn:a.length<=n) (o:O):Grow a (b.set n o):=by
 obtain⟨j,rfl⟩:=h1
 exact⟨j.set (n - a.length) o,by rw [List.set_append_right _ _ hn]⟩
theorem Grow.len {a b:Hh} (h1:Grow a b):a.length<=b.length:=by
 obtain⟨j,rfl⟩:=h1
 simp
theorem Grow.at' {a b:Hh} (h1:Grow a b) {n:Nat}{o:O} (e:a[n]?=some o):b[n]?=some o:=by
 obtain⟨j,rfl⟩:=h1
 rw [List.getElem?_append_left (List.getElem?_eq_some_iff.mp e).1]
 exact e
theorem at_new (h:Hh) (o:O):(h++[o])[h.length]?=some o:=by simp
theorem at_set {h:Hh}{n:Nat}{o o':O} (e:h[n]?=some o'):(h.set n o)[n]?=some o:=List.getElem?_set_self (List.getElem?_eq_some_iff.mp e).1
theorem at_set_ne {h:Hh}{n m:Nat}{o o':O} (e:h[m]?=some o') (hn:n≠m):(h.set n o)[m]?=some o':=by rw [List.getElem?_set_ne hn]; exact e
theorem Grow.app1 {a b:Hh} (h1:Grow a b) (o:O):Grow a (b++[o]):=h1.trans (.app _ _)
theorem cMul_l {i j:Int} (h1:-1000000<=i) (h2:i<=1000000):cMul i j=true:=by
 unfold cMul
 rw [Bool.or_eq_true,Bool.or_eq_true]
 exact .inl (.inl (decide_eq_true ⟨by omega,by omega⟩))
def far (x step:Int):Int:=if 6 < x then x+step else if x < -6 then x - step else x
theorem far_mono {x y step:Int} (hs:0<=step) (h:x < y):far x step < far y step:=by
 unfold far
 split<;>split<;>(try split)<;>(try split)<;>omega
theorem run_far (x step:Int) (h:Hh):fnRun 2 t__law_far [.int x,.int step] h=some (.int (far x step),h):=by
 refine fnRun_rt ?_
 unfold t__law_far far
 by_cases c:6 < x
 ·refine fSeq_rt ?_
  simp [fIfS,fB,f2,fV,fC,startE,c,fRet]
 ·rw [fSeq_nx (e1:=[some (.int x),some (.int step)]) (h1:=h) (by simp [fIfS,fB,f2,fV,fC,startE,c,fNext])]
  by_cases c2:x < -6
  ·refine fSeq_rt ?_
   simp [fIfS,fB,f2,f1,fV,fC,c,c2,fRet]
  ·rw [fSeq_nx (e1:=[some (.int x),some (.int step)]) (h1:=h) (by simp [fIfS,fB,f2,f1,fV,fC,c2,fNext])]
   simp [fRet,fV,c,c2]
theorem run_reach {h:Hh}{n:Nat}{ns:List Int} (e:h[n]?=some (.lst (ns.map D.int))):∃ v o,0<=v/\fnRun 2 (t__law_reach_by (fnRun 2 t__law_at)) [.lst n] h=some (.int v,h++[o]):=by
 have m1:cMul (10 ^ 48) (10 ^ 48)=true:=by decide +kernel
 have hM:(0:Int) < 10 ^ 48*10 ^ 48:=by decide +kernel
 have h0:=Int.emod_nonneg (ns.getD 2 0) (Int.ne_of_gt hM)
 have p48:oPow (.int 10) (.int 48) h=some (.int (10 ^ 48),h):=by
  rw [oPow_int h (by decide)]; rfl
 have p30:oPow (.int 10) (.int 30) h=some (.int (10 ^ 30),h):=by
  rw [oPow_int h (by decide)]; rfl
 generalize hs:ns.getD 2 0 % (10 ^ 48*10 ^ 48)=some_ at h0
 have hi0:=Int.emod_nonneg (ns.getD 1 0 / 18) (show (5:Int)≠0 by decide)
 have hi5:=Int.emod_lt_of_pos (ns.getD 1 0 / 18) (show (0:Int) < 5 by decide)
 generalize hi:ns.getD 1 0 / 18 % 5=ix at hi0 hi5
 have hat:∃ v,0<=v/\atI [D.int (10 ^ 30),.int 0,.int 90,.int 1,.int some_] ix=some (.int v):=by
  have:ix=0\/ix=1\/ix=2\/ix=3\/ix=4:=by omega
  rcases this with rfl | rfl | rfl | rfl | rfl
  ·exact⟨10 ^ 30,by decide,rfl⟩
  ·exact⟨0,by decide,rfl⟩
  ·exact⟨90,by decide,rfl⟩
  ·exact⟨1,by decide,rfl⟩
  ·exact⟨some_,h0,rfl⟩
 obtain⟨v,hv,hat⟩:=hat
 refine⟨v,.lst [D.int (10 ^ 30),.int 0,.int 90,.int 1,.int some_],hv,fnRun_rt ?_⟩
 unfold t__law_reach_by
 have a2:=run_at (k:=2) e (by decide)
 have e':(h++[O.lst [D.int (10 ^ 30),.int 0,.int 90,.int 1,.int some_]])[n]?=some (.lst (ns.map D.int)):=by
  rw [List.getElem?_append_left (List.getElem?_eq_some_iff.mp e).1]; exact e
 have a1:=run_at (k:=1) e' (by decide)
 rw [fSeq_nx (e1:=[some (.lst n),some (.int some_)]) (h1:=h)]
 ·refine fRet_ok ?_
  rw [f2_ok (x:=.lst h.length) (h1:=h++[O.lst [D.int (10 ^ 30),.int 0,.int 90,.int 1,.int some_]]) (y:=.int ix) (h2:=h++[O.lst [D.int (10 ^ 30),.int 0,.int 90,.int 1,.int some_]])]
  ·rw [oIx_lst (ds:=[D.int (10 ^ 30),.int 0,.int 90,.int 1,.int some_]) (by simp),hat]
   rfl
  ·simp [fLst,fAll,f2,fC,fV,p30]
  ·rw [f2_ok (x:=.int (ns.getD 1 0 / 18)) (h1:=_) (y:=.int 5) (h2:=h++[O.lst [D.int (10 ^ 30),.int 0,.int 90,.int 1,.int some_]]) ?_ rfl]
   ·rw [oMod_int _ (by decide),hi]
    rfl
   ·rw [f2_ok (x:=.int (ns.getD 1 0)) (h1:=_) (y:=.int 18) (h2:=h++[O.lst [D.int (10 ^ 30),.int 0,.int 90,.int 1,.int some_]]) ?_ rfl]
    ·rw [oDiv_int _ (by decide)]
     rfl
    ·rw [fc_ok (ds:=[.lst n,.int 1]) (h1:=_) rfl,a1]
     rfl
 ·refine fSet_ok ?_
  rw [f2_ok (x:=.int (ns.getD 2 0)) (h1:=h) (y:=.int (10 ^ 48*10 ^ 48)) (h2:=h)]
  ·rw [oMod_int _ hM,hs]
   rfl
  ·rw [fc_ok (ds:=[.lst n,.int 2]) (h1:=h) rfl,a2]
   rfl
  ·rw [f2_ok (x:=.int (10 ^ 48)) (h1:=h) (y:=.int (10 ^ 48)) (h2:=h)]
   ·rw [oMul_int _ m1]
    rfl
   ·simp [f2,fC,p48]
   ·simp [f2,fC,p48]
theorem sz1000' {n:Nat} (h:n<=1000000):n<=sizeLine:=Nat.le_trans h (by decide)
theorem fApp_ok {f g:FE}{e:En}{h h2:Hh}{n:Nat}{o:List D}{xs:List D}{d:D} (q:f e h=.ok (.lst n) h) (q0:h[n]?=some (.lst o)) (q1:g e h=.ok d h2) (q2:h2[n]?=some (.lst xs)) (c:xs.length<=100000):fDrop (fM oAppend f [g]) e h=.nx e (h2.set n (.lst (xs++[d]))):=by
 refine fDrop_ok (d:=.non) ?_
 unfold fM
 rw [q,Res.bind_ok,if_pos (show lstOk (.lst n) h=true from (show (itemsAt h n).isSome=true by rw [itemsAt_of q0]; rfl)),fAll_cons q1 rfl,Res.bind_ok,oAppend_lst d q2 (Nat.lt_of_lt_of_le (show xs.length < 1000000 by omega) (by decide))]
 rfl
theorem fAll1 {f:FE}{e:En}{h h1:Hh}{d:D} (q:f e h=.ok d h1):fAll [f] e h=.ok [d] h1:=fAll_cons q rfl
theorem fAll2 {f g:FE}{e:En}{h h1 h2:Hh}{d d2:D} (q:f e h=.ok d h1) (q2:g e h1=.ok d2 h2):fAll [f,g] e h=.ok [d,d2] h2:=fAll_cons q (fAll1 q2)
theorem mul2_ok {f:FE}{e:En}{h:Hh}{x:Int} (q:f e h=.ok (.int x) h):f2 oMul (fC (.int 2)) f e h=.ok (.int (2*x)) h:=by
 rw [f2_ok (fC_ok _ _ _) q,oMul_int _ (cMul_l (by decide) (by decide))]; rfl
theorem add_ok {f g:FE}{e:En}{h:Hh}{x y:Int} (q:f e h=.ok (.int x) h) (q2:g e h=.ok (.int y) h):f2 oAdd f g e h=.ok (.int (x+y)) h:=by
 rw [f2_ok q q2]; rfl
theorem sub_ok {f g:FE}{e:En}{h:Hh}{x y:Int} (q:f e h=.ok (.int x) h) (q2:g e h=.ok (.int y) h):f2 oSub f g e h=.ok (.int (x - y)) h:=by
 rw [f2_ok q q2]; rfl
theorem mod_ok {f g:FE}{e:En}{h:Hh}{x y:Int} (q:f e h=.ok (.int x) h) (q2:g e h=.ok (.int y) h) (c:0 < y):f2 oMod f g e h=.ok (.int (x % y)) h:=by
 rw [f2_ok q q2,oMod_int _ c]; rfl
theorem div_ok {f g:FE}{e:En}{h:Hh}{x y:Int} (q:f e h=.ok (.int x) h) (q2:g e h=.ok (.int y) h) (c:0 < y/\y < 1073741824):f2 oDiv f g e h=.ok (.int (x / y)) h:=by
 rw [f2_ok q q2,oDiv_int _ c]; rfl
structure Rows (h:Hh) (f:Nat) (hs:List Nat) (rows:List (List Nat)):Prop where
 out:h[f]?=some (.lst (hs.map D.lst))
 len:hs.length=rows.length
 row:∀ (i n:Nat) (r:List Nat),hs[i]?=some n->rows[i]?=some r->h[n]?=some (.lst (r.map fun (k:Nat)=>D.int k))
theorem Rows.get {h:Hh}{f:Nat}{hs:List Nat}{rows:List (List Nat)} (R:Rows h f hs rows) {i:Nat}{r:List Nat} (e:rows[i]?=some r):∃ n,hs[i]?=some n/\h[n]?=some (.lst (r.map fun (k:Nat)=>D.int k)):=by
 have hi:i < hs.length:=by rw [R.len]; exact (List.getElem?_eq_some_iff.mp e).1
 exact⟨hs[i],List.getElem?_eq_getElem hi,R.row i _ r (List.getElem?_eq_getElem hi) e⟩
structure FR (w half L:Nat) (rows:List (List Nat)):Prop where
 len:rows.length=L
 lo:1<=L
 hi:L<=3
 hi5:5 < w->L<=2
 head:∃ x,rows[0]?=some [x]/\x<=w/\(1 < L->1<=x/\x<=5/\(5 < w->x<=3))
 next:∀ i r r',rows[i]?=some r->rows[i+1]?=some r'->r'.length=r.sum+r.length
 ent:∀ i r,0 < i->rows[i]?=some r->∀ x∈r,half<=x/\x<=w
theorem sum_le {w:Nat}:∀ {r:List Nat},(∀ x∈r,x<=w)->r.sum<=r.length*w
 | [],_=>by simp
 | a::r,h=>by
  have:=sum_le (r:=r) fun x hx=>h x (List.mem_cons_of_mem _ hx)
  have:=h a List.mem_cons_self
  simp only [List.sum_cons,List.length_cons,Nat.add_mul,Nat.one_mul]
  omega
theorem FR.small {w half L:Nat}{rows:List (List Nat)} (F:FR w half L rows) (hw:w<=35) {i:Nat}{r:List Nat} (e:rows[i]?=some r):r.length+r.sum<=300:=by
 obtain⟨x,hx,xw,xs⟩:=F.head
 have hL:=F.len
 have h3:=F.hi
 have h5:=F.hi5
 have hi:i < rows.length:=(List.getElem?_eq_some_iff.mp e).1
 have b1:∀ r1,rows[1]?=some r1->r1.length<=6/\(5 < w->r1.length<=4)/\r1.sum<=r1.length*w:=fun r1 e1=>by
  have l1:=F.next 0 _ _ hx e1
  have:=(List.getElem?_eq_some_iff.mp e1).1
  have:=xs (by omega)
  simp at l1
  exact⟨by omega,fun z=>by have:=this.2.2 z; omega,sum_le fun y hy=>(F.ent 1 r1 (by omega) e1 y hy).2⟩
 have hi3:i=0\/i=1\/i=2:=by omega
 rcases hi3 with rfl | rfl | rfl
 ·rw [hx] at e
  cases e
  simp
  omega
 ·obtain⟨a,b,c⟩:=b1 r e
  by_cases z:5 < w
  ·have:=b z
   have:r.length*w<=4*35:=Nat.mul_le_mul this hw
   omega
  ·have:r.length*w<=6*5:=Nat.mul_le_mul a (by omega)
   omega
 ·have z:¬ 5 < w:=fun z=>by have:=h5 z; omega
  obtain⟨r1,e1⟩:∃ r1,rows[1]?=some r1:=⟨_,List.getElem?_eq_getElem (by omega)⟩
  obtain⟨a,b,c⟩:=b1 r1 e1
  have l2:=F.next 1 _ _ e1 e
  have:r1.length*w<=6*5:=Nat.mul_le_mul a (by omega)
  have k:=sum_le (w:=w) (r:=r) fun y hy=>(F.ent 2 r (by omega) e y hy).2
  have:r.length*w<=36*5:=Nat.mul_le_mul (by omega) (by omega)
  omega
theorem at_call {e:En}{h:Hh}{n:Nat}{ns:List Int}{g:FE}{k:Nat} (q0:e[0]?=some (some (.lst n))) (q:h[n]?=some (.lst (ns.map D.int))) (qg:g e h=.ok (.int k) h):fc (fnRun 2 t__law_at) (fAll [fV 0,g]) e h=.ok (.int (ns.getD k 0)) h:=by
 rw [fc_ok (fAll2 (fV_ok q0 h) qg),run_at q (by omega),Int.toNat_natCast]
 rfl
theorem Rows.last {h:Hh}{f:Nat}{hs:List Nat}{rows:List (List Nat)} (R:Rows h f hs rows) {j:Nat} (hl:rows.length=j+1):∃ m r,rows[j]?=some r/\h[m]?=some (.lst (r.map fun (k:Nat)=>D.int k))/\oIx (.lst f) (.int (-1)) h=some (.lst m,h):=by
 obtain⟨r,er⟩:∃ r,rows[j]?=some r:=⟨_,List.getElem?_eq_getElem (by omega)⟩
 obtain⟨m,e1,e2⟩:=R.get er
 refine⟨m,r,er,e2,?_⟩
 rw [oIx_lst R.out,atI_neg1,List.length_map,R.len,hl,Nat.add_sub_cancel,List.getElem?_map,e1]
 rfl
section
variable {h:Hh}{n:Nat}{ns:List Int}{w L half f:Nat}
end
def pairs:List T->List Card->List Card
 | t::ts,m::ms=>t.flat++m::pairs ts ms
 | _,_=>[]
section
variable {h:Hh}{f:Nat}{first step:Int}{half w:Nat}{r:List Nat}{dh mh:Nat}
end
theorem held_ix (t:T) (h:Hh):oIx t.d (.int 2) h=some (.int (heldOf t.d),h):=by
 cases t; rw [T.d_node]; rfl
section
variable {h:Hh}{f:Nat}{first step:Int}{half w n:Nat}{r r0:List Nat}{dh mh kh lh:Nat}{ts:List T}{ms:List Card}{z3 z7 z8:Option D}
end
section
variable {h:Hh}{f:Nat}{hs:List Nat}{rows:List (List Nat)}{first step:Int}{half w L N:Nat}
end
theorem fExt_ok {f g:FE}{e:En}{h h2:Hh}{n m:Nat}{o xs ys:List D} (q:f e h=.ok (.lst n) h) (q0:h[n]?=some (.lst o)) (q1:g e h=.ok (.lst m) h2) (q2:h2[n]?=some (.lst xs)) (q3:h2[m]?=some (.lst ys)) (c:xs.length+ys.length<=100000):fDrop (fM oExtend f [g]) e h=.nx e (h2.set n (.lst (xs++ys))):=by
 refine fDrop_ok (d:=.non) ?_
 unfold fM
 rw [q,Res.bind_ok,if_pos (show lstOk (.lst n) h=true from (show (itemsAt h n).isSome=true by rw [itemsAt_of q0]; rfl)),fAll1 q1,Res.bind_ok,oExtend_lst q2 q3 (sz1000 c)]
 rfl
def lay:List T->List Card->List Card
 | [],_=>[]
 | t::r,[]=>t.cs++lay r []
 | t::r,m::ms=>t.cs++m::lay r ms
theorem lay_snoc:∀ (ts:List T) (ms:List Card) (t:T),lay (ts++[t]) ms=lay ts ms++(t.cs++(ms[ts.length]?).toList)
 | [],[],t=>by simp [lay]
 | [],m::ms,t=>by simp [lay]
 | u::ts,[],t=>by
  have:=lay_snoc ts [] t
  simp only [List.cons_append,lay,List.append_assoc] at this |-
  rw [this]
  simp
 | u::ts,m::ms,t=>by
  have:=lay_snoc ts ms t
  simp only [List.cons_append,lay,List.append_assoc] at this |-
  rw [this]
  simp
theorem lay_inter:∀ {ts:List T}{ms:List Card},ms.length < ts.length->lay ts ms=T.inter (ts.map T.cs) ms
 | [],ms,h=>by simp at h
 | [t],[],_=>by simp [lay,T.inter]
 | t::u::r,[],_=>by
  have:=lay_inter (ts:=u::r) (ms:=[]) (by simp)
  simp only [lay,List.map_cons,T.inter] at this |-
  rw [this]
 | t::r,m::ms,h=>by
  have:=lay_inter (ts:=r) (ms:=ms) (by simpa using h)
  simp only [lay,List.map_cons,T.inter] at this |-
  rw [this]
theorem inter_level:∀ {ts:List T}{ms:List Card},(∀ t∈ts,t.bs.length=t.cs.length+1)->ts.length=ms.length+1->
  T.inter ((ts.flatMap T.bs).map T.flat) (T.inter (ts.map T.cs) ms)=T.inter (ts.map T.flat) ms/\(ts.flatMap T.bs).length=(T.inter (ts.map T.cs) ms).length+1
 | [],ms,_,h=>by simp at h
 | [t],[],hb,_=>by
  have:=hb t List.mem_cons_self
  simp only [List.flatMap_cons,List.flatMap_nil,List.append_nil,List.map_cons,List.map_nil,inter_one]
  exact⟨by rw [T.flat_eq],this⟩
 | [t],m::ms,_,h=>by simp at h
 | t::u::r,[],_,h=>by simp at h
 | t::u::r,m::ms,hb,h=>by
  obtain⟨i1,i2⟩:=inter_level (ts:=u::r) (ms:=ms) (fun x hx=>hb x (List.mem_cons_of_mem _ hx)) (by simpa using h)
  have h1:=hb t List.mem_cons_self
  rw [List.flatMap_cons,List.map_append]
  rw [show T.inter ((t::u::r).map T.cs) (m::ms)=t.cs++m::T.inter ((u::r).map T.cs) ms by simp [T.inter]]
  rw [inter_join _ _ _ (by rw [List.length_map]; exact h1),i1]
  refine⟨?_,?_⟩
  ·rw [show T.inter ((t::u::r).map T.flat) (m::ms)=t.flat++m::T.inter ((u::r).map T.flat) ms by simp [T.inter],T.flat_eq t]
  ·simp only [List.length_append,List.length_cons] at i2 |-
   omega
theorem inter_bot {ts:List T} (h:∀ t∈ts,t.bs=[]):ts.map T.flat=ts.map T.cs/\ts.flatMap T.bs=[]:=by
 refine⟨List.map_congr_left fun t ht=>T.flat_bot (h t ht),?_⟩
 rw [List.flatMap_eq_nil_iff]
 exact h
theorem inter_len:∀ (fs:List (List Card)) (cs:List Card),cs.length<=(T.inter fs cs).length
 | [],cs=>by rw [inter_nil]; exact Nat.le_refl _
 | f::r,[]=>by simp
 | f::r,c::cs=>by
  have:=inter_len r cs
  simp only [T.inter,List.length_append,List.length_cons]
  omega
theorem is_drawer_t (t:T) (h:Hh):fnRun 2 (t__law_is_drawer (fnRun 1 t__law_whole)) [t.d] h=some (.bl true,h):=by
 cases t with
 | node cs bs=>
  rw [T.d_node]
  exact run_is_drawer ⟨_,rfl⟩ (fun c hc=>by obtain⟨p,_,rfl⟩:=List.mem_map.mp hc; exact⟨p,rfl⟩) h
noncomputable def openB:FS:=(fSeq (fSet 7 (f2 oIx (fV 0) (fV 6)))
  (fSeq (fSet 8 (fc oLen (fAll [(f2 oIx (fV 7) (fC (.int 0)))])))
  (fSeq (fIfS (fOr (fB (f2 oLt (fV 8) (fV 2))) (fB (f2 oGt (fV 8) (fV 3)))) (fRet (fC .non)) fNext)
  (fSeq (fIfS (fAnd (fB (f2 oNe (fc oLen (fAll [(f2 oIx (fV 7) (fC (.int 1)))])) (fC (.int 0)))) (fB (f2 oNe (fc oLen (fAll [(f2 oIx (fV 7) (fC (.int 1)))])) (f2 oAdd (fV 8) (fC (.int 1)))))) (fRet (fC .non)) fNext)
  (fSeq (fIfS (fB (f2 oNe (f2 oEq (fc oLen (fAll [(f2 oIx (fV 7) (fC (.int 1)))])) (fC (.int 0))) (f2 oEq (fc oLen (fAll [(f2 oIx (f2 oIx (fV 0) (fC (.int 0))) (fC (.int 1)))])) (fC (.int 0))))) (fRet (fC .non)) fNext)
  (fSeq (fSet 9 (fV 8))
  (fSeq (fFor 10 (fiSeq (f2 oIx (fV 7) (fC (.int 1)))) (fSeq (fIfS (fNot (fB (fc (fnRun 2 (t__law_is_drawer (fnRun 1 t__law_whole))) (fAll [(fV 10)])))) (fRet (fC .non)) fNext)
  (fSet 9 (f2 oAdd (fV 9) (f2 oIx (fV 10) (fC (.int 2)))))))
  (fSeq (fIfS (fB (f2 oNe (f2 oIx (fV 7) (fC (.int 2))) (fV 9))) (fRet (fC .non)) fNext)
  (fSeq (fDrop (fM oExtend (fV 4) [(fc oList (fAll [(f2 oIx (fV 7) (fC (.int 1)))]))]))
  (fSeq (fDrop (fM oExtend (fV 5) [(fc oList (fAll [(f2 oIx (fV 7) (fC (.int 0)))]))]))
  (fIfS (fB (f2 oLt (fV 6) (fc oLen (fAll [(fV 1)])))) (fDrop (fM oAppend (fV 5) [(f2 oIx (fV 1) (fV 6))])) fNext)))))))))))
section
variable {h:Hh}{dh mh u c least w half n:Nat}{ts:List T}{ms:List Card}
def OpP (h:Hh) (dh mh least w u c:Nat) (ts:List T) (ms:List Card) (j:Nat) (e:En) (h':Hh):Prop:=∃ z6 z7 z8 z9 z10:Option D,
 e=[some (.lst dh),some (.lst mh),some (.int least),some (.int w),some (.lst u),some (.lst c),z6,z7,z8,z9,z10]/\Grow h h'/\h'[u]?=some (.lst (((ts.take j).flatMap T.bs).map T.d))/\h'[c]?=some (.lst ((lay (ts.take j) ms).map cardD))/\((ts.take j).flatMap T.bs).length<=j*81/\(lay (ts.take j) ms).length<=j*81
theorem t_len1 {t:T}{h:Hh}{f:FE}{e:En}{h0:Hh} (q:f e h0=.ok t.d h):fc oLen (fAll [f2 oIx f (fC (.int 1))]) e h0=.ok (.int t.bs.length) h:=by
 rw [fc_ok (fAll1 (d:=.tup (t.bs.map T.d)) (h1:=h) (by rw [f2_ok q rfl,t_ix1]; rfl)),oLen_tup,List.length_map]
 rfl
theorem open_step (hu:h.length<=u) (hc:h.length<=c) (hne:u≠c) (ed:h[dh]?=some (.lst (ts.map T.d))) (em:h[mh]?=some (.lst (ms.map cardD))) (hw:w<=80) (hz:ts.length<=1001) (hv:∀ t∈ts,T.V half w least (n+1) t) {j:Nat}{t:T} (hj:ts[j]?=some t) {e:En}{h':Hh} (p:OpP h dh mh least w u c ts ms j e h'):
  ∃ e2 h2,openB (e.set 6 (some (.int j))) h'=.nx e2 h2/\OpP h dh mh least w u c ts ms (j+1) e2 h2:=by
 obtain⟨z6,z7,z8,z9,z10,rfl,G,eu,ec,b1,b2⟩:=p
 have hjl:j < ts.length:=(List.getElem?_eq_some_iff.mp hj).1
 have tk:ts.take (j+1)=ts.take j++[t]:=by rw [List.take_add_one,hj]; rfl
 have vt:=hv t (List.mem_of_getElem? hj)
 have lo:=vt.lo
 have hi:=vt.hi
 have bz:=vt.bsz
 have fl:=vt.fl
 obtain⟨t0,et0⟩:∃ t0,ts[0]?=some t0:=⟨_,List.getElem?_eq_getElem (by omega)⟩
 have fl0:=(hv t0 (List.mem_of_getElem? et0)).fl
 have ed':=G.at' ed
 have em':=G.at' em
 unfold openB
 show ∃ e2 h2,fSeq _ _ [some (.lst dh),some (.lst mh),some (.int least),some (.int w),some (.lst u),some (.lst c),some (.int j),z7,z8,z9,z10] h'=_/\_
 rw [fSeq_nx (e1:=[some (.lst dh),some (.lst mh),some (.int least),some (.int w),some (.lst u),some (.lst c),some (.int j),some t.d,z8,z9,z10]) (h1:=h') (fSet_ok (d:=t.d) (by rw [f2_ok (x:=.lst dh) (h1:=h') rfl rfl,oIx_lst ed',atI_nat',List.getElem?_map,hj]; rfl))]
 rw [fSeq_nx (e1:=[some (.lst dh),some (.lst mh),some (.int least),some (.int w),some (.lst u),some (.lst c),some (.int j),some t.d,some (.int t.cs.length),z9,z10]) (h1:=h') (fSet_ok (t_len0 rfl))]
 rw [fSeq_nx (e1:=[some (.lst dh),some (.lst mh),some (.int least),some (.int w),some (.lst u),some (.lst c),some (.int j),some t.d,some (.int t.cs.length),z9,z10]) (h1:=h') (by
  rw [fIfS_f (h1:=h')]
  ·rfl
  ·show Res.bind (Res.ok (decide ((t.cs.length:Int) < least)) h') _=_
   rw [Res.bind_ok,decide_eq_false (by omega),if_neg (by decide)]
   show Res.ok (decide ((w:Int) < (t.cs.length:Int))) h'=_
   rw [decide_eq_false (by omega)])]
 have lenB:∀ {e:En},e[7]?=some (some t.d)->fc oLen (fAll [(f2 oIx (fV 7) (fC (.int 1)))]) e h'=.ok (.int t.bs.length) h':=fun {e} q=>t_len1 (fV_ok q h')
 rw [fSeq_nx (e1:=[some (.lst dh),some (.lst mh),some (.int least),some (.int w),some (.lst u),some (.lst c),some (.int j),some t.d,some (.int t.cs.length),z9,z10]) (h1:=h') (by
  rw [fIfS_f (h1:=h')]
  ·rfl
  ·unfold fAnd
   rw [fB_ok (b:=!((t.bs.length:Int)==0)) (h1:=h') (by rw [f2_ok (lenB rfl) rfl]; rfl),Res.bind_ok]
   by_cases z:n=0
   ·rw [decide_eq_true z] at fl
    rw [show t.bs=[] from fl]
    rfl
   ·rw [decide_eq_false z] at fl
    have fl:t.bs.length=t.cs.length+1:=fl
    rw [show ((t.bs.length:Int)==0)=false from beq_eq_false_iff_ne.mpr (by omega)]
    show fB _ _ _=_
    refine fB_ok ?_
    rw [f2_ok (lenB rfl) (add_ok (x:=t.cs.length) (y:=1) rfl rfl),oNe_int,show ((t.bs.length:Int)==(t.cs.length:Int)+1)=true from beq_iff_eq.mpr (by omega)]
    rfl)]
 rw [fSeq_nx (e1:=[some (.lst dh),some (.lst mh),some (.int least),some (.int w),some (.lst u),some (.lst c),some (.int j),some t.d,some (.int t.cs.length),z9,z10]) (h1:=h') (by
  rw [fIfS_f (h1:=h')]
  ·rfl
  ·refine fB_ok ?_
   have q1:f2 oEq (fc oLen (fAll [(f2 oIx (fV 7) (fC (.int 1)))])) (fC (.int 0)) [some (.lst dh),some (.lst mh),some (.int least),some (.int w),some (.lst u),some (.lst c),some (.int j),some t.d,some (.int t.cs.length),z9,z10] h'=.ok (.bl ((t.bs.length:Int)==0)) h':=by rw [f2_ok (lenB rfl) rfl]; rfl
   have q2:f2 oEq (fc oLen (fAll [(f2 oIx (f2 oIx (fV 0) (fC (.int 0))) (fC (.int 1)))])) (fC (.int 0)) [some (.lst dh),some (.lst mh),some (.int least),some (.int w),some (.lst u),some (.lst c),some (.int j),some t.d,some (.int t.cs.length),z9,z10] h'=.ok (.bl ((t0.bs.length:Int)==0)) h':=by
    rw [f2_ok (t_len1 (t:=t0) (h:=h') (by rw [f2_ok (x:=.lst dh) (h1:=h') (y:=.int ((0:Nat):Int)) (h2:=h') rfl rfl,oIx_lst ed',atI_nat',List.getElem?_map,et0]; rfl)) rfl]; rfl
   have q3:((t.bs.length:Int)==0)=((t0.bs.length:Int)==0):=by
    by_cases z:n=0
    ·rw [decide_eq_true z] at fl fl0
     rw [show t.bs=[] from fl,show t0.bs=[] from fl0]
    ·rw [decide_eq_false z] at fl fl0
     have fl:t.bs.length=t.cs.length+1:=fl
     have fl0:t0.bs.length=t0.cs.length+1:=fl0
     rw [show ((t.bs.length:Int)==0)=false from beq_eq_false_iff_ne.mpr (by omega),show ((t0.bs.length:Int)==0)=false from beq_eq_false_iff_ne.mpr (by omega)]
   rw [f2_ok q1 q2,q3,oNe_bl]
   simp)]
 rw [fSeq_nx (e1:=[some (.lst dh),some (.lst mh),some (.int least),some (.int w),some (.lst u),some (.lst c),some (.int j),some t.d,some (.int t.cs.length),some (.int t.cs.length),z10]) (h1:=h') (fSet_ok rfl)]
 obtain⟨e3,h3,q3,eh3,z3,rfl⟩:=forG_run (chk:=fun _=>True) (i:=10) (t:=(fSeq (fIfS (fNot (fB (fc (fnRun 2 (t__law_is_drawer (fnRun 1 t__law_whole))) (fAll [(fV 10)])))) (fRet (fC .non)) fNext)
  (fSet 9 (f2 oAdd (fV 9) (f2 oIx (fV 10) (fC (.int 2)))))))
  (P:=fun k e2 h2=>h2=h'/\∃ z,e2=[some (.lst dh),some (.lst mh),some (.int least),some (.int w),some (.lst u),some (.lst c),some (.int j),some t.d,some (.int t.cs.length),some (.int (t.cs.length+((t.bs.take k).map fun b=>heldOf b.d).sum)),z])
  (t.bs.map T.d) [some (.lst dh),some (.lst mh),some (.int least),some (.int w),some (.lst u),some (.lst c),some (.int j),some t.d,some (.int t.cs.length),some (.int t.cs.length),z10] h' ⟨rfl,z10,by simp⟩ (fun _ _ _ _=>trivial) (by
   rintro k d e2 h2 hk ⟨rfl,z,rfl⟩
   rw [List.getElem?_map] at hk
   obtain⟨b,hb,rfl⟩:=Option.map_eq_some_iff.mp hk
   refine⟨[some (.lst dh),some (.lst mh),some (.int least),some (.int w),some (.lst u),some (.lst c),some (.int j),some t.d,some (.int t.cs.length),some (.int (t.cs.length+((t.bs.take k).map fun b=>heldOf b.d).sum+heldOf b.d)),some b.d],h2,?_,rfl,some b.d,?_⟩
   ·show fSeq _ _ [some (.lst dh),some (.lst mh),some (.int least),some (.int w),some (.lst u),some (.lst c),some (.int j),some t.d,some (.int t.cs.length),some (.int (t.cs.length+((t.bs.take k).map fun b=>heldOf b.d).sum)),some b.d] h2=_
    rw [fSeq_nx (e1:=[some (.lst dh),some (.lst mh),some (.int least),some (.int w),some (.lst u),some (.lst c),some (.int j),some t.d,some (.int t.cs.length),some (.int (t.cs.length+((t.bs.take k).map fun b=>heldOf b.d).sum)),some b.d]) (h1:=h2) (by
     rw [fIfS_f (h1:=h2)]
     ·rfl
     ·unfold fNot
      rw [fB_ok (b:=true) (h1:=h2) (by rw [fc_ok (fAll1 (d:=b.d) (h1:=h2) rfl),is_drawer_t]; rfl)]
      rfl)]
    exact fSet_ok (d:=.int (t.cs.length+((t.bs.take k).map fun b=>heldOf b.d).sum+heldOf b.d)) (add_ok rfl (by rw [f2_ok (x:=b.d) (h1:=h2) rfl rfl,held_ix]; rfl))
   ·have:((t.bs.take (k+1)).map fun b=>heldOf b.d).sum=((t.bs.take k).map fun b=>heldOf b.d).sum+heldOf b.d:=by
     rw [List.take_add_one,hb,List.map_append,List.sum_append]
     simp
    rw [this,Int.add_assoc])
 rw [eh3] at q3
 rw [fSeq_nx ((fFor_ok (it:=⟨t.bs.map T.d,fun _=>True⟩) (h1:=h') (by
  unfold fiSeq
  rw [f2_ok (x:=t.d) (h1:=h') rfl rfl,t_ix1]
  rfl)).trans q3)]
 rw [List.length_map,List.take_length]
 have held:heldOf t.d=t.cs.length+(t.bs.map fun b=>heldOf b.d).sum:=by
  cases t with
  | node cs bs=>
   rw [T.d_node]
   unfold drawerOf heldOf
   simp [List.map_map,Function.comp_def]
 rw [<-held]
 rw [fSeq_nx (e1:=[some (.lst dh),some (.lst mh),some (.int least),some (.int w),some (.lst u),some (.lst c),some (.int j),some t.d,some (.int t.cs.length),some (.int (heldOf t.d)),z3]) (h1:=h') (by
  rw [fIfS_f (h1:=h')]
  ·rfl
  ·refine fB_ok ?_
   rw [f2_ok (x:=.int (heldOf t.d)) (h1:=h') (y:=.int (heldOf t.d)) (h2:=h') (by rw [f2_ok (x:=t.d) (h1:=h') rfl rfl,held_ix]; rfl) rfl,oNe_int]
   simp)]
 have s1:fc oList (fAll [(f2 oIx (fV 7) (fC (.int 1)))]) [some (.lst dh),some (.lst mh),some (.int least),some (.int w),some (.lst u),some (.lst c),some (.int j),some t.d,some (.int t.cs.length),some (.int (heldOf t.d)),z3] h'=.ok (.lst h'.length) (h'++[.lst (t.bs.map T.d)]):=by
  rw [fc_ok (fAll1 (d:=.tup (t.bs.map T.d)) (h1:=h') (by rw [f2_ok (x:=t.d) (h1:=h') rfl rfl,t_ix1]; rfl))]
  rfl
 have bl1:((ts.take (j+1)).flatMap T.bs).length<=(j+1)*81:=by
  rw [tk,List.flatMap_append,List.length_append,List.flatMap_cons,List.flatMap_nil,List.append_nil]
  omega
 have bl2:(lay (ts.take (j+1)) ms).length<=(j+1)*81:=by
  rw [tk,lay_snoc,List.length_append,List.length_append]
  have:((ms[(ts.take j).length]?).toList).length<=1:=by cases ms[(ts.take j).length]?<;>simp
  omega
 rw [fSeq_nx (fExt_ok (n:=u) rfl eu s1 ((Grow.app _ _).at' eu) (at_new _ _) (by rw [List.length_map,List.length_map]; omega))]
 have g1:=(G.app1 (.lst (t.bs.map T.d))).set hu (.lst (((ts.take j).flatMap T.bs).map T.d++t.bs.map T.d))
 have u1:=at_set (o:=.lst (((ts.take j).flatMap T.bs).map T.d++t.bs.map T.d)) ((Grow.app h' [.lst (t.bs.map T.d)]).at' eu)
 have c1:=at_set_ne (o:=.lst (((ts.take j).flatMap T.bs).map T.d++t.bs.map T.d)) ((Grow.app h' [.lst (t.bs.map T.d)]).at' ec) hne
 generalize (h'++[O.lst (t.bs.map T.d)]).set u (.lst (((ts.take j).flatMap T.bs).map T.d++t.bs.map T.d))=H1 at g1 u1 c1
 have s2:fc oList (fAll [(f2 oIx (fV 7) (fC (.int 0)))]) [some (.lst dh),some (.lst mh),some (.int least),some (.int w),some (.lst u),some (.lst c),some (.int j),some t.d,some (.int t.cs.length),some (.int (heldOf t.d)),z3] H1=.ok (.lst H1.length) (H1++[.lst (t.cs.map cardD)]):=by
  rw [fc_ok (fAll1 (d:=.tup (t.cs.map cardD)) (h1:=H1) (by rw [f2_ok (x:=t.d) (h1:=H1) rfl rfl,t_ix0]; rfl))]
  rfl
 rw [fSeq_nx (fExt_ok (n:=c) rfl c1 s2 ((Grow.app _ _).at' c1) (at_new _ _) (by rw [List.length_map,List.length_map]; omega))]
 have g2:=(g1.app1 (.lst (t.cs.map cardD))).set hc (.lst ((lay (ts.take j) ms).map cardD++t.cs.map cardD))
 have c2:=at_set (o:=.lst ((lay (ts.take j) ms).map cardD++t.cs.map cardD)) ((Grow.app H1 [.lst (t.cs.map cardD)]).at' c1)
 have u2:=at_set_ne (o:=.lst ((lay (ts.take j) ms).map cardD++t.cs.map cardD)) ((Grow.app H1 [.lst (t.cs.map cardD)]).at' u1) (fun z=>hne z.symm)
 generalize (H1++[O.lst (t.cs.map cardD)]).set c (.lst ((lay (ts.take j) ms).map cardD++t.cs.map cardD))=H2 at g2 u2 c2
 have lenM:fc oLen (fAll [fV 1]) [some (.lst dh),some (.lst mh),some (.int least),some (.int w),some (.lst u),some (.lst c),some (.int j),some t.d,some (.int t.cs.length),some (.int (heldOf t.d)),z3] H2=.ok (.int ms.length) H2:=by
  rw [fc_ok (fAll1 rfl),oLen_lst (g2.at' em),List.length_map]; rfl
 have hjt:(ts.take j).length=j:=by rw [List.length_take]; omega
 by_cases z:j < ms.length
 ·have hm:ms[j]?=some ms[j]:=List.getElem?_eq_getElem z
  refine⟨[some (.lst dh),some (.lst mh),some (.int least),some (.int w),some (.lst u),some (.lst c),some (.int j),some t.d,some (.int t.cs.length),some (.int (heldOf t.d)),z3],H2.set c (.lst (((lay (ts.take j) ms).map cardD++t.cs.map cardD)++[cardD ms[j]])),?_,_,_,_,_,_,rfl,g2.set hc _,?_,?_,bl1,bl2⟩
  ·rw [fIfS_t (h1:=H2) (fB_ok (by rw [f2_ok (x:=.int j) (h1:=H2) rfl lenM]; show Res.ok (D.bl (decide ((j:Int) < ms.length))) H2=_; rw [decide_eq_true (by omega)]))]
   refine fApp_ok (n:=c) rfl c2 ?_ c2 (by simp; omega)
   rw [f2_ok (x:=.lst mh) (h1:=H2) rfl rfl,oIx_lst (g2.at' em),atI_nat',List.getElem?_map,hm]
   rfl
  ·rw [at_set_ne u2 (fun z=>hne z.symm),tk,List.flatMap_append]
   simp
  ·rw [at_set c2,tk,lay_snoc,hjt,hm]
   simp
 ·have hm:ms[j]?=none:=List.getElem?_eq_none (by omega)
  refine⟨[some (.lst dh),some (.lst mh),some (.int least),some (.int w),some (.lst u),some (.lst c),some (.int j),some t.d,some (.int t.cs.length),some (.int (heldOf t.d)),z3],H2,?_,_,_,_,_,_,rfl,g2,?_,?_,bl1,bl2⟩
  ·rw [fIfS_f (h1:=H2) (fB_ok (by rw [f2_ok (x:=.int j) (h1:=H2) rfl lenM]; show Res.ok (D.bl (decide ((j:Int) < ms.length))) H2=_; rw [decide_eq_false (by omega)]))]
   rfl
  ·rw [u2,tk,List.flatMap_append]
   simp
  ·rw [c2,tk,lay_snoc,hjt,hm]
   simp
end
theorem opened_eq:t__law_opened (fnRun 2 (t__law_is_drawer (fnRun 1 t__law_whole)))=(fSeq (fSet 4 (fLst [])) (fSeq (fSet 5 (fLst []))
  (fSeq (fFor 6 (fiRng rng1 [(fc oLen (fAll [(fV 0)]))]) openB) (fRet (fTup [(fV 4),(fV 5)]))))):=rfl
section
variable {h:Hh}{dh mh least w half n:Nat}{ts:List T}{ms:List Card}
theorem run_opened (ed:h[dh]?=some (.lst (ts.map T.d))) (em:h[mh]?=some (.lst (ms.map cardD))) (hw:w<=80) (hz:ts.length<=1001) (hv:∀ t∈ts,T.V half w least (n+1) t) (hl:ms.length < ts.length):
  ∃ u c h',fnRun 11 (t__law_opened (fnRun 2 (t__law_is_drawer (fnRun 1 t__law_whole)))) [.lst dh,.lst mh,.int least,.int w] h=some (.tup [.lst u,.lst c],h')/\Grow h h'/\h'[u]?=some (.lst ((ts.flatMap T.bs).map T.d))/\h'[c]?=some (.lst ((T.inter (ts.map T.cs) ms).map cardD)):=by
 rw [opened_eq]
 show ∃ u c h',fnOut (fSeq _ _ [some (.lst dh),some (.lst mh),some (.int least),some (.int w),none,none,none,none,none,none,none] h)=_/\_
 have l1:(h++[O.lst []]).length=h.length+1:=by simp
 rw [fSeq_nx (e1:=[some (.lst dh),some (.lst mh),some (.int least),some (.int w),some (.lst h.length),none,none,none,none,none,none]) (h1:=h++[.lst []]) (fSet_ok (d:=.lst h.length) rfl)]
 rw [fSeq_nx (e1:=[some (.lst dh),some (.lst mh),some (.int least),some (.int w),some (.lst h.length),some (.lst (h.length+1)),none,none,none,none,none]) (h1:=h++[.lst []]++[.lst []]) (fSet_ok (d:=.lst (h.length+1)) (by rw [<-l1]; rfl))]
 have g2:Grow h (h++[O.lst []]++[O.lst []]):=(Grow.app _ _).app1 _
 have b1:(h++[O.lst []]++[O.lst []])[h.length]?=some (.lst []):=(Grow.app _ _).at' (at_new _ _)
 have b2:(h++[O.lst []]++[O.lst []])[h.length+1]?=some (.lst []):=by rw [<-l1]; exact at_new _ _
 obtain⟨e3,h3,q3,z6,z7,z8,z9,z10,rfl,G3,eu,ec,_,_⟩:=forG_run (chk:=fun _=>True) (i:=6) (t:=openB)
  (P:=OpP h dh mh least w h.length (h.length+1) ts ms) ((List.range ts.length).map fun (k:Nat)=>D.int k) _ _
  ⟨none,none,none,none,none,rfl,g2,by simpa using b1,by simpa [lay] using b2,by simp,by simp [lay]⟩ (fun _ _ _ _=>trivial)
  (fun j d e hh hj p=>by
   obtain⟨hlt,rfl⟩:=range_get hj
   exact open_step (Nat.le_refl _) (by omega) (by omega) ed em hw hz hv (List.getElem?_eq_getElem hlt) p)
 rw [fSeq_nx ((fFor_ok (fiRng1_ok (n:=ts.length) (fAll1 (by
  rw [fc_ok (fAll1 rfl),oLen_lst (g2.at' ed),List.length_map]
  rfl)) (by omega))).trans q3)]
 rw [List.length_map,List.length_range,List.take_length] at eu ec
 rw [lay_inter hl] at ec
 exact⟨h.length,h.length+1,h3,rfl,G3,eu,ec⟩
noncomputable def walkB:FS:=(fSeq (fSet 8 (fc (fnRun 11 (t__law_opened (fnRun 2 (t__law_is_drawer (fnRun 1 t__law_whole))))) (fAll [(fV 4),(fV 5),(fV 7),(fV 3)])))
  (fSeq (fIfS (fB (f2 oIsN (fV 8) (fC .non))) (fRet (fC .non)) fNext)
  (fSeq (fSet 4 (f2 oIx (fV 8) (fC (.int 0))))
  (fSeq (fSet 5 (f2 oIx (fV 8) (fC (.int 1))))
  (fSeq (fSet 6 (f2 oAdd (fV 6) (fC (.int 1))))
  (fSet 7 (fV 2)))))))
theorem walk_eq:t__law_walk (fnRun 2 (t__law_is_drawer (fnRun 1 t__law_whole))) (fnRun 11 (t__law_opened (fnRun 2 (t__law_is_drawer (fnRun 1 t__law_whole)))))=
 (fSeq (fIfS (fNot (fB (fc (fnRun 2 (t__law_is_drawer (fnRun 1 t__law_whole))) (fAll [(fV 0)])))) (fRet (fC .non)) fNext)
  (fSeq (fSet 4 (fLst [(fV 0)]))
  (fSeq (fSet 5 (fLst []))
  (fSeq (fSet 6 (fC (.int 0)))
  (fSeq (fSet 7 (fV 1))
  (fSeq (fWhile (fB (f2 oGt (fc oLen (fAll [(fV 4)])) (fC (.int 0)))) walkB 2000)
  (fRet (fTup [(fV 6),(fV 5)])))))))):=rfl
def WkP (h:Hh) (top:T) (own half w L:Nat) (e:En) (h':Hh):Prop:=∃ (k bd dh mh:Nat) (ts:List T) (ms:List Card) (z8:Option D),
 e=[some top.d,some (.int own),some (.int half),some (.int w),some (.lst dh),some (.lst mh),some (.int k),some (.int bd),z8]/\Grow h h'/\h'[dh]?=some (.lst (ts.map T.d))/\h'[mh]?=some (.lst (ms.map cardD))/\
 ((k < L/\ts.length=ms.length+1/\(∀ t∈ts,T.V half w bd (L - k) t)/\T.inter (ts.map T.flat) ms=top.flat)\/(k=L/\ts=[]/\ms=top.flat))
def muW (L:Nat) (e:En):Nat:=match e with | [_,_,_,_,_,_,some (.int k),_,_]=>L - k.toNat | _=>0
theorem walk_step {top:T}{own L:Nat} (hw:w<=80) (hf:top.flat.length<=1000) {e:En}{h':Hh} (p:WkP h top own half w L e h'):
  (∃ h1,(fB (f2 oGt (fc oLen (fAll [(fV 4)])) (fC (.int 0)))) e h'=.ok false h1/\∃ (dh mh:Nat) (bd:Nat) (z8:Option D),e=[some top.d,some (.int own),some (.int half),some (.int w),some (.lst dh),some (.lst mh),some (.int L),some (.int bd),z8]/\Grow h h1/\h1[mh]?=some (.lst (top.flat.map cardD)))\/
  ∃ h1 e2 h2,(fB (f2 oGt (fc oLen (fAll [(fV 4)])) (fC (.int 0)))) e h'=.ok true h1/\walkB e h1=.nx e2 h2/\WkP h top own half w L e2 h2/\muW L e2 < muW L e:=by
 obtain⟨k,bd,dh,mh,ts,ms,z8,rfl,G,ed,em,s⟩:=p
 have len:fc oLen (fAll [(fV 4)]) [some top.d,some (.int own),some (.int half),some (.int w),some (.lst dh),some (.lst mh),some (.int k),some (.int bd),z8] h'=.ok (.int ts.length) h':=by
  rw [fc_ok (fAll1 rfl),oLen_lst ed,List.length_map]; rfl
 rcases s with⟨hk,hl,hv,hi⟩ | ⟨rfl,rfl,rfl⟩
 ·right
  have zz:=inter_len (ts.map T.flat) ms
  rw [hi] at zz
  obtain⟨n,hn⟩:∃ n,L - k=n+1:=⟨L - k - 1,by omega⟩
  rw [hn] at hv
  obtain⟨u,c,h2,q2,G2,eu,ec⟩:=run_opened ed em hw (by omega) hv (by omega)
  refine⟨h',[some top.d,some (.int own),some (.int half),some (.int w),some (.lst u),some (.lst c),some (.int ((k+1:Nat):Int)),some (.int half),some (.tup [.lst u,.lst c])],h2,fB_ok (by rw [f2_ok len rfl]; show Res.ok (D.bl (decide ((0:Int) < ts.length))) h'=_; rw [decide_eq_true (by omega)]),?_,⟨k+1,half,u,c,ts.flatMap T.bs,T.inter (ts.map T.cs) ms,_,rfl,G.trans G2,eu,ec,?_⟩,?_⟩
  ·unfold walkB
   rw [fSeq_nx (e1:=[some top.d,some (.int own),some (.int half),some (.int w),some (.lst dh),some (.lst mh),some (.int k),some (.int bd),some (.tup [.lst u,.lst c])]) (h1:=h2) (fSet_ok (by
    rw [fc_ok (ds:=[.lst dh,.lst mh,.int bd,.int w]) (h1:=h') rfl,q2]; rfl))]
   rw [fSeq_nx (e1:=[some top.d,some (.int own),some (.int half),some (.int w),some (.lst dh),some (.lst mh),some (.int k),some (.int bd),some (.tup [.lst u,.lst c])]) (h1:=h2) (s:=(fIfS (fB (f2 oIsN (fV 8) (fC .non))) (fRet (fC .non)) fNext)) rfl]
   rw [fSeq_nx (e1:=[some top.d,some (.int own),some (.int half),some (.int w),some (.lst u),some (.lst mh),some (.int k),some (.int bd),some (.tup [.lst u,.lst c])]) (h1:=h2) (fSet_ok (d:=.lst u) rfl)]
   rw [fSeq_nx (e1:=[some top.d,some (.int own),some (.int half),some (.int w),some (.lst u),some (.lst c),some (.int k),some (.int bd),some (.tup [.lst u,.lst c])]) (h1:=h2) (fSet_ok (d:=.lst c) rfl)]
   rfl
  ·by_cases z:n=0
   ·subst z
    right
    obtain⟨i1,i2⟩:=inter_bot fun t ht=>(hv t ht).leaf
    exact⟨by omega,i2,by rw [<-i1]; exact hi⟩
   ·left
    obtain⟨i1,i2⟩:=inter_level (fun t ht=>((hv t ht).kids (by omega)).1) hl
    refine⟨by omega,i2,?_,i1.trans hi⟩
    rw [show L - (k+1)=n by omega]
    intro b hb
    obtain⟨t,ht,hb⟩:=List.mem_flatMap.mp hb
    exact ((hv t ht).kids (by omega)).2 b hb
  ·show L - ((k+1:Nat):Int).toNat < L - (k:Int).toNat
   omega
 ·left
  refine⟨h',fB_ok (by rw [f2_ok len rfl]; rfl),dh,mh,bd,z8,rfl,G,em⟩
theorem run_walkG {top:T}{own L:Nat} (hw:w<=80) (hf:top.flat.length<=1000) (hL0:0 < L) (hL:L<=1000) (v:T.V half w own L top):
  ∃ c h',fnRun 9 (t__law_walk (fnRun 2 (t__law_is_drawer (fnRun 1 t__law_whole))) (fnRun 11 (t__law_opened (fnRun 2 (t__law_is_drawer (fnRun 1 t__law_whole)))))) [top.d,.int own,.int half,.int w] h=some (.tup [.int L,.lst c],h')/\Grow h h'/\h'[c]?=some (.lst (top.flat.map cardD)):=by
 rw [walk_eq]
 show ∃ c h',fnOut (fSeq _ _ [some top.d,some (.int own),some (.int half),some (.int w),none,none,none,none,none] h)=_/\_
 have l1:(h++[O.lst [top.d]]).length=h.length+1:=by simp
 rw [fSeq_nx (e1:=[some top.d,some (.int own),some (.int half),some (.int w),none,none,none,none,none]) (h1:=h) (by
  rw [fIfS_f (h1:=h)]
  ·rfl
  ·unfold fNot
   rw [fB_ok (b:=true) (h1:=h) (by rw [fc_ok (fAll1 (d:=top.d) (h1:=h) rfl),is_drawer_t]; rfl)]
   rfl)]
 rw [fSeq_nx (e1:=[some top.d,some (.int own),some (.int half),some (.int w),some (.lst h.length),none,none,none,none]) (h1:=h++[.lst [top.d]]) (fSet_ok (d:=.lst h.length) rfl)]
 rw [fSeq_nx (e1:=[some top.d,some (.int own),some (.int half),some (.int w),some (.lst h.length),some (.lst (h.length+1)),none,none,none]) (h1:=h++[.lst [top.d]]++[.lst []]) (fSet_ok (d:=.lst (h.length+1)) (by rw [<-l1]; rfl))]
 rw [fSeq_nx (e1:=[some top.d,some (.int own),some (.int half),some (.int w),some (.lst h.length),some (.lst (h.length+1)),some (.int ((0:Nat):Int)),none,none]) (h1:=h++[.lst [top.d]]++[.lst []]) (fSet_ok rfl)]
 rw [fSeq_nx (e1:=[some top.d,some (.int own),some (.int half),some (.int w),some (.lst h.length),some (.lst (h.length+1)),some (.int ((0:Nat):Int)),some (.int own),none]) (h1:=h++[.lst [top.d]]++[.lst []]) (fSet_ok rfl)]
 have g2:Grow h (h++[O.lst [top.d]]++[O.lst []]):=(Grow.app _ _).app1 _
 have b1:(h++[O.lst [top.d]]++[O.lst []])[h.length]?=some (.lst [top.d]):=(Grow.app _ _).at' (at_new _ _)
 have b2:(h++[O.lst [top.d]]++[O.lst []])[h.length+1]?=some (.lst []):=by rw [<-l1]; exact at_new _ _
 obtain⟨e3,h3,q3,dh,mh,bd,z8,rfl,G3,em⟩:=fWhile_ex (c:=(fB (f2 oGt (fc oLen (fAll [(fV 4)])) (fC (.int 0))))) (t:=walkB) (P:=WkP h top own half w L)
  (R:=fun e h1=>∃ (dh mh:Nat) (bd:Nat) (z8:Option D),e=[some top.d,some (.int own),some (.int half),some (.int w),some (.lst dh),some (.lst mh),some (.int L),some (.int bd),z8]/\Grow h h1/\h1[mh]?=some (.lst (top.flat.map cardD)))
  (μ:=fun e _=>muW L e)
  (fun e h' p=>walk_step hw hf p) 2000 _ _ ⟨0,own,h.length,h.length+1,[top],[],none,rfl,g2,b1,b2,.inl ⟨hL0,rfl,by simpa using v,by simp [T.inter]⟩⟩ (by
   show L - ((0:Nat):Int).toNat < 2000
   omega)
 rw [fSeq_nx q3]
 exact⟨mh,h3,rfl,G3,em⟩
end
theorem held_sum {least w n:Nat}:∀ {bs:List T},(∀ b∈bs,heldOf b.d=b.flat.length)->(bs.map fun b=>heldOf b.d).sum=((bs.map fun b=>b.flat.length).sum:Nat)
 | [],_=>rfl
 | b::r,h=>by
  have:=held_sum (least:=least) (w:=w) (n:=n) (bs:=r) fun x hx=>h x (List.mem_cons_of_mem _ hx)
  simp only [List.map_cons,List.sum_cons,this,h b List.mem_cons_self]
  omega
theorem inter_count:∀ (fs:List (List Card)) (cs:List Card),(T.inter fs cs).length=(fs.map List.length).sum+cs.length
 | [],cs=>by rw [inter_nil]; simp
 | f::r,[]=>by
  have:=inter_count r []
  simp only [T.inter,List.length_append,this,List.map_cons,List.sum_cons,List.length_nil]
  omega
 | f::r,c::cs=>by
  have:=inter_count r cs
  simp only [T.inter,List.length_append,List.length_cons,this,List.map_cons,List.sum_cons]
  omega
theorem T.V.held {least w:Nat}:∀ {n own:Nat}{t:T},T.V least w own n t->heldOf t.d=t.flat.length
 | 0,_,_,v=>v.elim
 | n+1,own,.node cs bs,v=>by
  have ih:∀ b∈bs,heldOf b.d=b.flat.length:=fun b hb=>by
   cases n with
   | zero=>rw [show bs=[] from v.leaf] at hb; exact nomatch hb
   | succ n=>exact T.V.held ((v.kids (by omega)).2 b hb)
  rw [T.flat_node,inter_count,T.d_node]
  have:=held_sum (least:=least) (w:=w) (n:=n) ih
  show ((cs.map cardD).length:Int)+((bs.map T.d).map heldOf).sum=_
  simp only [List.map_map,Function.comp_def,List.length_map] at this |-
  rw [this]
  omega
theorem LO.mono {half:Nat}{n:Nat}{t:T}{c:Card}{t':T} (r:LO half n t c t'):LO half (n+1) t c t':=by
 induction r with
 | bot e=>exact .bot e
 | up hb z _ m ih=>exact .up hb z ih m
theorem oEq_cards {h:Hh}{a b:Nat}{cs:List Card} (ea:h[a]?=some (.lst (cs.map cardD))) (eb:h[b]?=some (.lst (cs.map cardD))):oEq (.lst a) (.lst b) h=some (.bl true,h):=by
 unfold oEq
 have:eqD 24 h (.lst a) (.lst b)=some true:=by
  show (match itemsAt h a,itemsAt h b with | some xs,some ys=>eqL (eqD 23 h) xs ys | _,_=>none)=_
  rw [itemsAt_of ea,itemsAt_of eb]
  refine eqL_refl fun x hx=>?_
  obtain⟨p,_,rfl⟩:=List.mem_map.mp hx
  exact eqD_refl (dp_card p 21)
 rw [this]
 rfl
theorem FR.total {w half L:Nat}{rows:List (List Nat)} (F:FR w half L rows) (hw:w<=35):(rows.map List.sum).sum<=900:=by
 have:=sum_le (w:=300) (r:=rows.map List.sum) fun x hx=>by
  obtain⟨r,hr,rfl⟩:=List.mem_map.mp hx
  obtain⟨i,hi,e⟩:=List.mem_iff_getElem.mp hr
  have:=F.small hw (i:=i) (r:=r) (by rw [List.getElem?_eq_getElem hi,e])
  omega
 rw [List.length_map,F.len] at this
 have:=F.hi
 omega
abbrev Srt (l:List Card):Prop:=l.Pairwise fun a b=>a.1 < b.1
theorem inter_sub:∀ (fs:List (List Card)) (cs:List Card) (f:List Card),f∈fs->f.Sublist (T.inter fs cs)
 | [],_,f,h=>nomatch h
 | f0::fs,[],f,h=>by
  rw [T.inter]
  rcases List.mem_cons.mp h with rfl | h
  ·exact List.sublist_append_left _ _
  ·exact (inter_sub fs [] f h).trans (List.sublist_append_right _ _)
 | f0::fs,c::cs,f,h=>by
  rw [T.inter]
  rcases List.mem_cons.mp h with rfl | h
  ·exact List.sublist_append_left _ _
  ·exact ((inter_sub fs cs f h).trans (List.sublist_cons_self _ _)).trans (List.sublist_append_right _ _)
theorem srt_below {cs:List Card}{bs:List T} (s:Srt (T.node cs bs).flat) {b:T} (hb:b∈bs):Srt b.flat:=by
 rw [T.flat_node] at s
 exact s.sublist (inter_sub _ _ _ (List.mem_map_of_mem hb))
def Cab (n:Nat) (t:T):Prop:=∃ least w own j,j<=n/\T.V least w own j t/\Srt t.flat/\w<=900
theorem Cab.split {n:Nat}{cs:List Card}{bs:List T} (c:Cab (n+1) (.node cs bs)):cs.length<=900/\(bs=[]\/(bs.length=cs.length+1/\∀ b∈bs,Cab n b))/\(∀ b∈bs,heldOf b.d=b.flat.length)/\Srt (T.inter (bs.map T.flat) cs):=by
 obtain⟨least,w,own,j,hj,v,s,hw⟩:=c
 match j,v with
 | 0,v=>exact v.elim
 | j+1,v=>
  have s':=s
  rw [T.flat_node] at s'
  unfold T.V at v
  obtain⟨-,hc,hb0,hb1⟩:=v
  refine⟨by omega,?_,?_,s'⟩
  ·by_cases hn:j=0
   ·exact .inl (hb0 hn)
   ·obtain⟨bl,bv⟩:=hb1 (by omega)
    exact .inr ⟨bl,fun b hb=>⟨least,w,least,j,by omega,bv b hb,srt_below s hb,hw⟩⟩
  ·intro b hb
   by_cases hn:j=0
   ·rw [hb0 hn] at hb; exact nomatch hb
   ·exact ((hb1 (by omega)).2 b hb).held
theorem Cab.zero {t:T} (c:Cab 0 t):False:=by
 obtain⟨least,w,own,j,hj,v,s,hw⟩:=c
 have:j=0:=by omega
 subst this
 exact v
theorem orT {s t:FT}{e:En}{h h1:Hh} (q:s e h=.ok true h1):fOr s t e h=.ok true h1:=by
 unfold fOr
 rw [q,Res.bind_ok,if_pos rfl]
theorem orF {s t:FT}{e:En}{h h1 h2:Hh}{b:Bool} (q:s e h=.ok false h1) (q2:t e h1=.ok b h2):fOr s t e h=.ok b h2:=by
 unfold fOr
 rw [q,Res.bind_ok,if_neg (by decide),q2]
theorem andF {s t:FT}{e:En}{h h1:Hh} (q:s e h=.ok false h1):fAnd s t e h=.ok false h1:=by
 unfold fAnd
 rw [q,Res.bind_ok,if_neg (by decide)]
theorem andT {s t:FT}{e:En}{h h1 h2:Hh}{b:Bool} (q:s e h=.ok true h1) (q2:t e h1=.ok b h2):fAnd s t e h=.ok b h2:=by
 unfold fAnd
 rw [q,Res.bind_ok,if_pos rfl,q2]
theorem notB {s:FT}{e:En}{h h1:Hh}{b:Bool} (q:s e h=.ok b h1):fNot s e h=.ok (!b) h1:=by
 unfold fNot
 rw [q,Res.bind_ok]
theorem pk_half {half w R c n:Nat} (hh:half=w / 2) (c2:2<=c) (hR:1<=R) (hn:(w+1)*R*(c - 1)<=n):c*(half*R+1)<=n+1:=by
 obtain⟨d,rfl⟩:∃ d,c=d+2:=⟨c - 2,by omega⟩
 obtain⟨r,rfl⟩:∃ r,R=r+1:=⟨R - 1,by omega⟩
 have h1:(2*half+1)*(r+1)*(d+1)<=(w+1)*(r+1)*(d+1):=Nat.mul_le_mul_right _ (Nat.mul_le_mul_right _ (by omega))
 rw [show d+2 - 1=d+1 by omega] at hn
 have h2:(d+2)*(half*(r+1)+1)<=(2*half+1)*(r+1)*(d+1)+1:=by
  generalize ha:half*(r+1)=a
  have e1:(2*half+1)*(r+1)=2*a+r+1:=by rw [Nat.add_mul,Nat.mul_assoc,ha]; omega
  rw [e1]
  have e2:(d+2)*(a+1)=d*a+d+2*a+2:=by rw [Nat.add_mul,Nat.mul_add]; omega
  have e3:(2*a+r+1)*(d+1)=2*(d*a)+d*r+d+(2*a+r+1):=by
   rw [Nat.mul_add,Nat.mul_one,Nat.add_mul,Nat.add_mul,Nat.one_mul,Nat.mul_assoc,Nat.mul_comm a d,Nat.mul_comm r d]
  rw [e2,e3]
  generalize d*a=u
  generalize d*r=v
  omega
 omega
def evenP (total count:Nat):List Nat:=List.replicate (total % count) (total / count+1)++List.replicate (count - total % count) (total / count)
theorem even_len {total count:Nat} (h:0 < count):(evenP total count).length=count:=by
 have:=Nat.mod_lt total h
 unfold evenP
 rw [List.length_append,List.length_replicate,List.length_replicate]
 omega
theorem even_sum {total count:Nat} (h:0 < count):(evenP total count).sum=total:=by
 have h1:=Nat.mod_lt total h
 have h2:=Nat.div_add_mod total count
 unfold evenP
 rw [List.sum_append,List.sum_replicate_nat,List.sum_replicate_nat,Nat.mul_add,Nat.mul_one,Nat.sub_mul]
 have h3:total % count*(total / count)<=count*(total / count):=Nat.mul_le_mul_right _ (by omega)
 generalize total % count*(total / count)=a at*
 generalize count*(total / count)=b at*
 omega
theorem even_mem {total count p:Nat} (h:p∈evenP total count):p=total / count\/p=total / count+1:=by
 unfold evenP at h
 rcases List.mem_append.mp h with z | z
 ·exact .inr (List.eq_of_mem_replicate z)
 ·exact .inl (List.eq_of_mem_replicate z)
def cutP:List Nat->List Card->List (List Card)
 | [],_=>[]
 | p::r,cs=>cs.take (p - 1)::cutP r (cs.drop p)
def keptP:List Nat->List Card->List Card
 | [],_=>[]
 | p::r,cs=>(cs.drop (p - 1)).take 1++keptP r (cs.drop p)
theorem cutP_length:∀ (ps:List Nat) (cs:List Card),(cutP ps cs).length=ps.length
 | [],_=>rfl
 | p::r,cs=>by rw [cutP,List.length_cons,List.length_cons,cutP_length r]
theorem take1_drop {cs:List Card}{p:Nat} (h:p < cs.length):(cs.drop p).take 1=[cs[p]]:=by
 rw [List.drop_eq_getElem_cons h,List.take_succ_cons,List.take_zero]
theorem kept_len:∀ {ps:List Nat}{cs:List Card},ps≠[]->(∀ p∈ps,1<=p)->ps.sum=cs.length+1->(keptP ps cs).length+1=ps.length/\T.inter (cutP ps cs) (keptP ps cs)=cs/\∀ (k p:Nat),ps[k]?=some p->∃ l,(cutP ps cs)[k]?=some l/\l.length+1=p
 | [],_,h,_,_=>absurd rfl h
 | [p],cs,_,h1,hs=>by
  have hp:p=cs.length+1:=by simpa using hs
  subst hp
  have e1:cutP [cs.length+1] cs=[cs]:=by simp [cutP]
  have e2:keptP [cs.length+1] cs=[]:=by simp [keptP]
  rw [e1,e2]
  refine⟨rfl,by simp [T.inter],fun k p hk=>?_⟩
  cases k with
  | zero=>cases hk; exact⟨cs,rfl,rfl⟩
  | succ k=>simp at hk
 | p::q::r,cs,_,h1,hs=>by
  have hp:=h1 p (by simp)
  have hq:=h1 q (by simp)
  have hs':p+(q+r.sum)=cs.length+1:=by simpa using hs
  have hlt:p - 1 < cs.length:=by omega
  have ih:=kept_len (ps:=q::r) (cs:=cs.drop p) (by simp) (fun x hx=>h1 x (List.mem_cons_of_mem _ hx)) (by rw [List.length_drop,List.sum_cons]; omega)
  obtain⟨i1,i2,i3⟩:=ih
  have e2:keptP (p::q::r) cs=cs[p - 1]::keptP (q::r) (cs.drop p):=by rw [keptP,take1_drop hlt]; rfl
  have e1:cutP (p::q::r) cs=cs.take (p - 1)::cutP (q::r) (cs.drop p):=by rw [cutP]
  refine⟨by rw [e2,List.length_cons,i1]; simp,?_,fun k x hk=>?_⟩
  ·rw [e1,e2,T.inter,i2]
   have:cs.drop (p - 1)=cs[p - 1]::cs.drop p:=by
    rw [List.drop_eq_getElem_cons hlt,show p - 1+1=p by omega]
   rw [<-this,List.take_append_drop]
  ·cases k with
   | zero=>
    cases hk
    exact⟨cs.take (p - 1),by rw [e1]; rfl,by rw [List.length_take]; omega⟩
   | succ k=>
    rw [e1]
    exact i3 k x (by simpa using hk)
def packT (w:Nat):Nat->List Card->T
 | 0,cs=>.node cs []
 | j+1,cs=>.node (keptP (evenP (cs.length+1) (cs.length / (w+1) ^ (j+1)+1)) cs) ((cutP (evenP (cs.length+1) (cs.length / (w+1) ^ (j+1)+1)) cs).map (packT w j))
theorem part_ge {n R p:Nat} (hR:0 < R) (h:p∈evenP (n+1) (n / R+1)):1<=p:=by
 have h1:n / R<=n:=Nat.div_le_self _ _
 have h2:1<=(n+1) / (n / R+1):=by rw [Nat.le_div_iff_mul_le (Nat.succ_pos _)]; omega
 rcases even_mem h with z | z<;>omega
theorem part_lo {n c p m:Nat} (hc:0 < c) (h:p∈evenP (n+1) c) (hm:c*m<=n+1):m<=p:=by
 have h2:m<=(n+1) / c:=by rw [Nat.le_div_iff_mul_le hc,Nat.mul_comm]; exact hm
 rcases even_mem h with z | z<;>omega
theorem part_hi {n c p R:Nat} (hc:0 < c) (h:p∈evenP (n+1) c) (hn:n+1<=c*R):p<=R:=by
 have h0:=Nat.div_add_mod (n+1) c
 have h1:=Nat.mod_lt (n+1) hc
 have h2:(n+1) / c<=R:=by
  rw [Nat.mul_comm] at hn
  exact Nat.div_le_of_le_mul (by rw [Nat.mul_comm]; exact hn)
 rcases even_mem h with z | z
 ·omega
 ·by_cases e:(n+1) % c=0
  ·exfalso
   unfold evenP at h
   rw [e] at h
   simp at h
   omega
  ·by_cases e2:(n+1) / c=R
   ·rw [e2] at h0
    omega
   ·omega
theorem pack_ok {w half:Nat} (hh:half=w / 2) (h0:1<=half):∀ (j own:Nat) (cs:List Card),cs.length < (w+1) ^ (j+1)->own*(w+1) ^ j<=cs.length->(j=0\/1<=own)->T.V half w own (j+1) (packT w j cs)/\(packT w j cs).flat=cs
 | 0,own,cs,h1,h2,_=>by
  have h1:cs.length < w+1:=by simpa using h1
  have h2:own<=cs.length:=by simpa using h2
  rw [packT]
  refine⟨?_,?_⟩
  ·unfold T.V
   exact⟨h2,by omega,fun _=>rfl,fun z=>absurd z (Nat.lt_irrefl 0)⟩
  ·rw [T.flat_node,List.map_nil]
   rfl
 | j+1,own,cs,h1,h2,h3=>by
  have h3:1<=own:=by rcases h3 with z | z; exact absurd z (by omega); exact z
  have hR:0 < (w+1) ^ (j+1):=Nat.pow_pos (by omega)
  have hR':0 < (w+1) ^ j:=Nat.pow_pos (by omega)
  have eR:(w+1) ^ (j+1)=(w+1)*(w+1) ^ j:=by rw [Nat.pow_succ,Nat.mul_comm]
  have c1:own<=cs.length / (w+1) ^ (j+1):=by rw [Nat.le_div_iff_mul_le hR]; exact h2
  have c2:cs.length / (w+1) ^ (j+1) < w+1:=by
   rw [Nat.div_lt_iff_lt_mul hR,Nat.mul_comm,<-Nat.pow_succ]
   exact h1
  have c3:cs.length+1<=(cs.length / (w+1) ^ (j+1)+1)*(w+1) ^ (j+1):=by
   have:=Nat.lt_div_mul_add (a:=cs.length) hR
   rw [Nat.add_mul]
   omega
  have c4:(w+1) ^ (j+1)*(cs.length / (w+1) ^ (j+1)+1 - 1)<=cs.length:=by
   rw [Nat.add_sub_cancel]
   exact Nat.mul_div_le _ _
  rw [packT]
  have pge:∀ p∈evenP (cs.length+1) (cs.length / (w+1) ^ (j+1)+1),1<=p:=fun p hp=>part_ge hR hp
  generalize hc:cs.length / (w+1) ^ (j+1)=c at*
  have ln:(evenP (cs.length+1) (c+1)).length=c+1:=even_len (by omega)
  obtain⟨k1,k2,k3⟩:=kept_len (ps:=evenP (cs.length+1) (c+1)) (cs:=cs) (by intro z; rw [z] at ln; simp at ln) pge (even_sum (by omega))
  have kids:∀ l∈cutP (evenP (cs.length+1) (c+1)) cs,T.V half w half (j+1) (packT w j l)/\(packT w j l).flat=l:=by
   intro l hl
   obtain⟨k,hk,rfl⟩:=List.getElem_of_mem hl
   have hk':k < (evenP (cs.length+1) (c+1)).length:=by rw [cutP_length] at hk; exact hk
   obtain⟨l',e1,e2⟩:=k3 k _ (List.getElem?_eq_getElem hk')
   rw [List.getElem?_eq_getElem hk,Option.some.injEq] at e1
   have hm:(evenP (cs.length+1) (c+1))[k]∈evenP (cs.length+1) (c+1):=List.getElem_mem hk'
   have lo:=part_lo (by omega) hm (pk_half (w:=w) (R:=(w+1) ^ j) hh (show 2<=c+1 by omega) hR' (by rw [<-eR]; exact c4))
   have hi:=part_hi (by omega) hm c3
   rw [e1]
   exact pack_ok hh h0 j half l' (by omega) (by omega) (.inr h0)
  refine⟨?_,?_⟩
  ·unfold T.V
   refine⟨by omega,by omega,fun z=>absurd z (by omega),fun _=>⟨by rw [List.length_map,cutP_length]; omega,fun b hb=>?_⟩⟩
   obtain⟨l,hl,rfl⟩:=List.mem_map.mp hb
   exact (kids l hl).1
  ·rw [T.flat_node,List.map_map]
   have:(cutP (evenP (cs.length+1) (c+1)) cs).map (T.flat ∘ packT w j)=(cutP (evenP (cs.length+1) (c+1)) cs):=by
    rw [List.map_congr_left (f:=T.flat ∘ packT w j) (g:=id) fun l hl=>(kids l hl).2,List.map_id]
   rw [this,k2]
theorem cMul_r {i j:Int} (h1:-1000000<=j) (h2:j<=1000000):cMul i j=true:=by
 unfold cMul
 rw [Bool.or_eq_true,Bool.or_eq_true]
 exact .inl (.inr (decide_eq_true ⟨by omega,by omega⟩))
theorem whileM {c:FT}{t:FS} (P:Nat->En->Hh->Prop) (R:En->Hh->Prop)
  (hs:∀ m e h,P m e h->(∃ h1,c e h=.ok false h1/\R e h1)\/∃ h1 e2 h2 m',c e h=.ok true h1/\t e h1=.nx e2 h2/\P m' e2 h2/\m' < m):
  ∀ (n m:Nat) (e:En) (h:Hh),P m e h->m < n->∃ e' h',fWhile c t n e h=.nx e' h'/\R e' h'
 | 0,_,_,_,_,q=>absurd q (Nat.not_lt_zero _)
 | n+1,m,e,h,p,q=>by
  rcases hs m e h p with⟨h1,q1,r⟩ | ⟨h1,e2,h2,m',q1,q2,p2,lt⟩
  ·exact⟨e,h1,by unfold fWhile; rw [q1]; rfl,r⟩
  ·obtain⟨e',h',q3,r⟩:=whileM P R hs n m' e2 h2 p2 (by omega)
   exact⟨e',h',by unfold fWhile; rw [q1,Res.out_ok,if_pos rfl,q2]; exact q3,r⟩
theorem fLst1 {f:FE}{e:En}{h h1:Hh}{d:D} (q:f e h=.ok d h1):fLst [f] e h=.ok (.lst h1.length) (h1++[.lst [d]]):=by
 unfold fLst
 rw [fAll1 q,Res.bind_ok]
theorem room_eq:t__law_room_for=t_room_on:=rfl
theorem run_room {w l:Nat} (hw:w<=900) (hl:l<=1000) (h:Hh):fnRun 4 t_room_on [.int (w:Int),.int (l:Int)] h=some (.int (((w+1) ^ l:Nat):Int),h):=by
 refine fnRun_rt ?_
 unfold t_room_on
 show fSeq _ _ [some (.int (w:Int)),some (.int (l:Int)),none,none] h=_
 rw [fSeq_nx (e1:=[some (.int (w:Int)),some (.int (l:Int)),some (.int ((1:Nat):Int)),none]) (h1:=h) (fSet_ok rfl)]
 obtain⟨e',h',q,z,he,hh⟩:=forG_run (chk:=fun _=>True) (i:=3) (t:=fSet 2 (f2 oMul (fV 2) (f2 oAdd (fV 0) (fC (.int 1)))))
  (P:=fun j e h'=>∃ z,e=[some (.int (w:Int)),some (.int (l:Int)),some (.int (((w+1) ^ j:Nat):Int)),z]/\h'=h)
  ((List.range l).map fun (k:Nat)=>D.int k) [some (.int (w:Int)),some (.int (l:Int)),some (.int ((1:Nat):Int)),none] h ⟨none,by rw [Nat.pow_zero],rfl⟩ (fun _ _ _ _=>trivial)
  (fun j d e hh hj p=>by
   obtain⟨z,re,rh⟩:=p
   subst re
   refine⟨[some (.int (w:Int)),some (.int (l:Int)),some (.int (((w+1) ^ (j+1):Nat):Int)),some d],hh,?_,some d,rfl,rh⟩
   have q:f2 oMul (fV 2) (f2 oAdd (fV 0) (fC (.int 1))) [some (.int (w:Int)),some (.int (l:Int)),some (.int (((w+1) ^ j:Nat):Int)),some d] hh=.ok (.int (((w+1) ^ (j+1):Nat):Int)) hh:=by
    rw [f2_ok (x:=.int (((w+1) ^ j:Nat):Int)) (h1:=hh) rfl (y:=.int ((w:Int)+1)) (h2:=hh) rfl,oMul_int _ (cMul_r (by omega) (by omega))]
    rw [Nat.pow_succ,Int.natCast_mul]
    rfl
   exact fSet_ok q)
 rw [fSeq_nx ((fFor_ok (fiRng1_ok (n:=l) (fAll1 (h1:=h) rfl) (by omega))).trans q),he,hh]
 rw [List.length_map,List.length_range]
 rfl
theorem run_few {w n:Nat} (hw:w<=900) (hn:n<=900) (w1:1<=w) (h:Hh):
  ∃ L:Nat,fnRun 3 (t_fewest_levels (fnRun 4 t_room_on)) [.int (w:Int),.int (n:Int)] h=some (.int (L:Int),h)/\1<=L/\n < (w+1) ^ L/\(L=1\/(w+1) ^ (L - 1)<=n):=by
 have small:∀ l:Nat,1<=l->(l=1\/(w+1) ^ (l - 1)<=n)->l<=901:=fun l l1 hl=>by
  rcases hl with z | z
  ·omega
  ·have:=Nat.lt_pow_self (n:=l - 1) (show 1 < w+1 by omega)
   omega
 obtain⟨e',h',q,L,he,hh,L1,L2,L3⟩:=whileM (c:=fB (f2 oGt (f2 oAdd (fV 1) (fC (.int 1))) (fc (fnRun 4 t_room_on) (fAll [(fV 0),(fV 2)])))) (t:=fSet 2 (f2 oAdd (fV 2) (fC (.int 1))))
  (P:=fun m e h'=>∃ l:Nat,e=[some (.int (w:Int)),some (.int (n:Int)),some (.int (l:Int))]/\h'=h/\1<=l/\(l=1\/(w+1) ^ (l - 1)<=n)/\m=1000 - l)
  (R:=fun e h'=>∃ l:Nat,e=[some (.int (w:Int)),some (.int (n:Int)),some (.int (l:Int))]/\h'=h/\1<=l/\n < (w+1) ^ l/\(l=1\/(w+1) ^ (l - 1)<=n))
  (fun m e h' p=>by
   obtain⟨l,re,rh,l1,l2,hm⟩:=p
   subst re
   have sm:=small l l1 l2
   have qc:fB (f2 oGt (f2 oAdd (fV 1) (fC (.int 1))) (fc (fnRun 4 t_room_on) (fAll [(fV 0),(fV 2)]))) [some (.int (w:Int)),some (.int (n:Int)),some (.int (l:Int))] h'=.ok (decide ((((w+1) ^ l:Nat):Int) < (n:Int)+1)) h':=fB_ok (by
    rw [f2_ok (x:=.int ((n:Int)+1)) (h1:=h') rfl (y:=.int (((w+1) ^ l:Nat):Int)) (h2:=h') (by rw [fc_ok (ds:=[.int (w:Int),.int (l:Int)]) (h1:=h') rfl,run_room hw (by omega)]; rfl)]
    rfl)
   by_cases c:(((w+1) ^ l:Nat):Int) < (n:Int)+1
   ·right
    rw [decide_eq_true c] at qc
    exact⟨h',[some (.int (w:Int)),some (.int (n:Int)),some (.int ((l+1:Nat):Int))],h',1000 - (l+1),qc,fSet_ok rfl,⟨l+1,rfl,rh,by omega,.inr (by rw [Nat.add_sub_cancel]; omega),rfl⟩,by omega⟩
   ·left
    rw [decide_eq_false c] at qc
    exact⟨h',qc,l,rfl,rh,l1,by omega,l2⟩)
  2000 999 [some (.int (w:Int)),some (.int (n:Int)),some (.int ((1:Nat):Int))] h ⟨1,rfl,rfl,by omega,.inl rfl,rfl⟩ (by omega)
 refine⟨L,fnRun_rt ?_,L1,L2,L3⟩
 unfold t_fewest_levels
 show fSeq _ _ [some (.int (w:Int)),some (.int (n:Int)),none] h=_
 rw [fSeq_nx (e1:=[some (.int (w:Int)),some (.int (n:Int)),some (.int ((1:Nat):Int))]) (h1:=h) (fSet_ok rfl)]
 rw [fSeq_nx q,he,hh]
 rfl
theorem rep_ok {e:En}{h:Hh}{f g:FE}{x:D}{k:Nat} (qf:f e h=.ok x h) (qg:∀ h',g e h'=.ok (.int (k:Int)) h') (hk:k<=1000):
  f2 oRepL (fLst [f]) g e h=.ok (.lst (h.length+1)) (h++[.lst [x]]++[.lst (List.replicate k x)]):=by
 rw [f2_ok (fLst1 qf) (qg _),oRepL_ok (at_new _ _) ⟨by omega,by omega,by simpa using sz1000' (by omega)⟩,Int.toNat_natCast,List.flatten_replicate_singleton]
 simp [Res.ofO]
theorem run_evenp {t c:Nat} (ht:t<=1000) (hc:0 < c) (hc2:c<=1000) (h:Hh):∃ n h',fnRun 4 t_even_parts [.int (t:Int),.int (c:Int)] h=some (.lst n,h')/\Grow h h'/\h'[n]?=some (.lst ((evenP t c).map fun (k:Nat)=>D.int k)):=by
 have hm:=Nat.mod_lt t hc
 have r1:=rep_ok (e:=[some (.int (t:Int)),some (.int (c:Int)),some (.int ((t / c:Nat):Int)),some (.int ((t % c:Nat):Int))]) (h:=h) (f:=f2 oAdd (fV 2) (fC (.int 1))) (g:=fV 3) (x:=.int ((t / c+1:Nat):Int)) (k:=t % c) rfl (fun _=>rfl) (by omega)
 have r2:=fun h=>rep_ok (e:=[some (.int (t:Int)),some (.int (c:Int)),some (.int ((t / c:Nat):Int)),some (.int ((t % c:Nat):Int))]) (h:=h) (f:=fV 2) (g:=f2 oSub (fV 1) (fV 3)) (x:=.int ((t / c:Nat):Int)) (k:=c - t % c) rfl (fun h'=>by
  rw [f2_ok (x:=.int (c:Int)) (h1:=h') rfl (y:=.int ((t % c:Nat):Int)) (h2:=h') rfl,oSub_int,show (c:Int) - ((t % c:Nat):Int)=((c - t % c:Nat):Int) by omega]
  rfl) (by omega)
 have g1:Grow h (h++[O.lst [.int ((t / c+1:Nat):Int)]]++[.lst (List.replicate (t % c) (.int ((t / c+1:Nat):Int)))]):=(Grow.app _ _).app1 _
 have a1:(h++[O.lst [.int ((t / c+1:Nat):Int)]]++[.lst (List.replicate (t % c) (.int ((t / c+1:Nat):Int)))])[h.length+1]?=some (.lst (List.replicate (t % c) (.int ((t / c+1:Nat):Int)))):=by
  have:=at_new (h++[O.lst [.int ((t / c+1:Nat):Int)]]) (.lst (List.replicate (t % c) (.int ((t / c+1:Nat):Int))))
  rwa [show (h++[O.lst [.int ((t / c+1:Nat):Int)]]).length=h.length+1 by simp] at this
 generalize h++[O.lst [.int ((t / c+1:Nat):Int)]]++[.lst (List.replicate (t % c) (.int ((t / c+1:Nat):Int)))]=h1 at r1 g1 a1
 have r2:=r2 h1
 have g2:Grow h1 (h1++[O.lst [.int ((t / c:Nat):Int)]]++[.lst (List.replicate (c - t % c) (.int ((t / c:Nat):Int)))]):=(Grow.app _ _).app1 _
 have a2:(h1++[O.lst [.int ((t / c:Nat):Int)]]++[.lst (List.replicate (c - t % c) (.int ((t / c:Nat):Int)))])[h1.length+1]?=some (.lst (List.replicate (c - t % c) (.int ((t / c:Nat):Int)))):=by
  have:=at_new (h1++[O.lst [.int ((t / c:Nat):Int)]]) (.lst (List.replicate (c - t % c) (.int ((t / c:Nat):Int))))
  rwa [show (h1++[O.lst [.int ((t / c:Nat):Int)]]).length=h1.length+1 by simp] at this
 generalize h1++[O.lst [.int ((t / c:Nat):Int)]]++[.lst (List.replicate (c - t % c) (.int ((t / c:Nat):Int)))]=h2 at r2 g2 a2
 refine⟨h2.length,h2++[.lst (List.replicate (t % c) (.int ((t / c+1:Nat):Int))++List.replicate (c - t % c) (.int ((t / c:Nat):Int)))],fnRun_rt ?_,(g1.trans g2).app1 _,?_⟩
 ·unfold t_even_parts
  show fSeq _ _ [some (.int (t:Int)),some (.int (c:Int)),none,none] h=_
  rw [fSeq_nx (e1:=[some (.int (t:Int)),some (.int (c:Int)),some (.int ((t / c:Nat):Int)),none]) (h1:=h) (fSet_ok (by
   rw [div_ok (x:=(t:Int)) (y:=(c:Int)) (fV_ok rfl h) (fV_ok rfl h) (by omega),Int.natCast_ediv]))]
  rw [fSeq_nx (e1:=[some (.int (t:Int)),some (.int (c:Int)),some (.int ((t / c:Nat):Int)),some (.int ((t % c:Nat):Int))]) (h1:=h) (fSet_ok (by
   rw [mod_ok (x:=(t:Int)) (y:=(c:Int)) (fV_ok rfl h) (fV_ok rfl h) (by omega),Int.natCast_emod]))]
  refine fRet_ok ?_
  rw [f2_ok r1 r2,oCatL_ok (g2.at' a1) a2 (by rw [List.length_replicate,List.length_replicate]; exact sz1000' (by omega))]
  rfl
 ·rw [at_new]
  unfold evenP
  rw [List.map_append,List.map_replicate,List.map_replicate]
theorem cutP_snoc (p:Nat):∀ (a:List Nat) (cs:List Card),cutP (a++[p]) cs=cutP a cs++[(cs.drop a.sum).take (p - 1)]
 | [],cs=>by simp [cutP]
 | x::a,cs=>by rw [List.cons_append,cutP,cutP,cutP_snoc p a,List.drop_drop,List.sum_cons]; rfl
theorem keptP_snoc (p:Nat):∀ (a:List Nat) (cs:List Card),keptP (a++[p]) cs=keptP a cs++((cs.drop a.sum).drop (p - 1)).take 1
 | [],cs=>by simp [keptP]
 | x::a,cs=>by rw [List.cons_append,keptP,keptP,keptP_snoc p a,List.sum_cons,List.append_assoc]; simp only [List.drop_drop,Nat.add_assoc]
theorem keptP_length:∀ (a:List Nat) (cs:List Card),(keptP a cs).length<=a.length
 | [],_=>Nat.le_refl _
 | p::a,cs=>by
  have:=keptP_length a (cs.drop p)
  rw [keptP,List.length_append,List.length_take,List.length_cons]
  omega
noncomputable def packB (g:OC):FS:=(fSeq (fSet 8 (f2 oSub (f2 oAdd (fV 6) (fV 7)) (fC (.int 1))))
  (fSeq (fSet 5 (f2 oAdd (fV 5) (fTup [(fc g (fAll [(fV 0),(f2 oSub (fV 1) (fC (.int 1))),(fSl (fV 2) (fPart (fV 6)) (fPart (fV 8)))]))])))
  (fSeq (fSet 4 (f2 oAdd (fV 4) (fSl (fV 2) (fPart (fV 8)) (fPart (f2 oAdd (fV 8) (fC (.int 1)))))))
  (fSet 6 (f2 oAdd (fV 8) (fC (.int 1)))))))
theorem packed_on_eq (g:OC):t_packed_on (relF R_drawer) (fnRun 4 t_room_on) (fnRun 4 t_even_parts) g=
 (fSeq (fIfS (fB (f2 oEq (fV 1) (fC (.int 1)))) (fRet (fc (relF R_drawer) (fAll [(fV 2),(fTup [])]))) fNext)
  (fSeq (fSet 3 (f2 oAdd (f2 oDiv (fc oLen (fAll [(fV 2)])) (fc (fnRun 4 t_room_on) (fAll [(fV 0),(f2 oSub (fV 1) (fC (.int 1)))]))) (fC (.int 1))))
  (fSeq (fSet 4 (fTup []))
  (fSeq (fSet 5 (fTup []))
  (fSeq (fSet 6 (fC (.int 0)))
  (fSeq (fFor 7 (fiSeq (fc (fnRun 4 t_even_parts) (fAll [(f2 oAdd (fc oLen (fAll [(fV 2)])) (fC (.int 1))),(fV 3)]))) (packB g))
  (fRet (fc (relF R_drawer) (fAll [(fV 4),(fV 5)]))))))))):=rfl
def R_pack (n:Nat) (ds:List D) (d:D):Prop:=∃ (w j:Nat) (cs:List Card),ds=[.int (w:Int),.int ((j+1:Nat):Int),.tup (cs.map cardD)]/\d=(packT w j cs).d/\j < n/\w<=900/\j<=900/\cs.length<=900/\(w+1) ^ j < 1073741824
theorem R_pack0 (ds:List D) (d:D):¬ R_pack 0 ds d:=by
 rintro⟨w,j,cs,_,_,h,_⟩
 exact absurd h (Nat.not_lt_zero _)
theorem slT {e:En}{h:Hh}{f g:FE}{cs:List Card}{i k:Nat} (q:e[2]?=some (some (.tup (cs.map cardD)))) (q1:f e h=.ok (.int (i:Int)) h) (q2:g e h=.ok (.int (k:Int)) h):
  fSl (fV 2) (fPart f) (fPart g) e h=.ok (.tup (((cs.drop i).take (k - i)).map cardD)) h:=by
 unfold fSl fPart
 rw [fV_ok q h,Res.bind_ok,q1]
 simp only [Res.bind_ok,partOf_int,q2]
 rw [oSl_tup,cut_mid,<-List.map_drop,<-List.map_take]
 rfl
theorem runs_pack_of {n:Nat} (dt:Det (R_pack n)):Runs (fnRun 9 (t_packed_on (relF R_drawer) (fnRun 4 t_room_on) (fnRun 4 t_even_parts) (relF (R_pack n)))) (R_pack (n+1)):=by
 rintro ds d ⟨w,j,cs,rfl,rfl,hj,hw,hj9,hc,hR⟩
 refine⟨T.hbd _,fun h=>?_⟩
 rw [packed_on_eq]
 cases j with
 | zero=>
  refine⟨[],fnRun_rt ?_⟩
  rw [List.append_nil]
  refine fSeq_rt ?_
  rw [fIfS_t (h1:=h) rfl]
  refine fRet_ok ?_
  rw [fc_ok (ds:=[.tup (cs.map cardD),.tup (([]:List T).map T.d)]) (h1:=h) rfl,relF_dr cs [] (by simp) h]
  rfl
 | succ j=>
  have hR0:0 < (w+1) ^ (j+1):=Nat.pow_pos (by omega)
  have hRj:(w+1) ^ j < 1073741824:=Nat.lt_of_le_of_lt (Nat.pow_le_pow_right (by omega) (by omega)) hR
  have hdl:cs.length / (w+1) ^ (j+1)<=cs.length:=Nat.div_le_self _ _
  have pge:∀ p∈evenP (cs.length+1) (cs.length / (w+1) ^ (j+1)+1),1<=p:=fun p hp=>part_ge hR0 hp
  have lnp:=even_len (total:=cs.length+1) (count:=cs.length / (w+1) ^ (j+1)+1) (Nat.succ_pos _)
  obtain⟨m,h1,q1,G1,em⟩:=run_evenp (t:=cs.length+1) (c:=cs.length / (w+1) ^ (j+1)+1) (by omega) (Nat.succ_pos _) (by omega) h
  rw [packT]
  generalize hps:evenP (cs.length+1) (cs.length / (w+1) ^ (j+1)+1)=ps at pge em lnp
  generalize hct:cs.length / (w+1) ^ (j+1)+1=ct at q1 lnp
  obtain⟨jk,rfl⟩:=G1
  refine⟨jk,fnRun_rt ?_⟩
  show fSeq _ _ [some (.int (w:Int)),some (.int ((j+1+1:Nat):Int)),some (.tup (cs.map cardD)),none,none,none,none,none,none] h=_
  have lc:∀ z3 z4 z5 z6,fc oLen (fAll [fV 2]) [some (.int (w:Int)),some (.int ((j+1+1:Nat):Int)),some (.tup (cs.map cardD)),z3,z4,z5,z6,none,none] h=.ok (.int (cs.length:Int)) h:=fun _ _ _ _=>by
   rw [fc_ok (fAll1 (d:=.tup (cs.map cardD)) (h1:=h) rfl),oLen_tup,List.length_map]; rfl
  rw [fSeq_nx (e1:=[some (.int (w:Int)),some (.int ((j+1+1:Nat):Int)),some (.tup (cs.map cardD)),none,none,none,none,none,none]) (h1:=h) (by
   rw [fIfS_f (h1:=h)]
   ·rfl
   ·refine fB_ok ?_
    rw [f2_ok (x:=.int ((j+1+1:Nat):Int)) (h1:=h) rfl (y:=.int 1) (h2:=h) rfl,oEq_int]
    rw [show (((j+1+1:Nat):Int)==1)=false from beq_eq_false_iff_ne.mpr (by omega)]
    rfl)]
  rw [fSeq_nx (e1:=[some (.int (w:Int)),some (.int ((j+1+1:Nat):Int)),some (.tup (cs.map cardD)),some (.int (ct:Int)),none,none,none,none,none]) (h1:=h) (fSet_ok (by
   rw [<-hct]
   refine add_ok (x:=((cs.length / (w+1) ^ (j+1):Nat):Int)) ?_ (fC_ok (.int 1) _ _)
   rw [div_ok (y:=(((w+1) ^ (j+1):Nat):Int)) (lc _ _ _ _) (by
    rw [fc_ok (ds:=[.int (w:Int),.int ((j+1:Nat):Int)]) (h1:=h) (fAll2 (fV_ok rfl h) (by
     rw [sub_ok (x:=((j+1+1:Nat):Int)) (y:=1) (fV_ok rfl h) rfl,show ((j+1+1:Nat):Int) - 1=((j+1:Nat):Int) by omega])),run_room hw (by omega)]
    rfl) (by omega),Int.natCast_ediv]))]
  rw [fSeq_nx (e1:=[some (.int (w:Int)),some (.int ((j+1+1:Nat):Int)),some (.tup (cs.map cardD)),some (.int (ct:Int)),some (.tup []),none,none,none,none]) (h1:=h) (fSet_ok rfl)]
  rw [fSeq_nx (e1:=[some (.int (w:Int)),some (.int ((j+1+1:Nat):Int)),some (.tup (cs.map cardD)),some (.int (ct:Int)),some (.tup []),some (.tup []),none,none,none]) (h1:=h) (fSet_ok rfl)]
  rw [fSeq_nx (e1:=[some (.int (w:Int)),some (.int ((j+1+1:Nat):Int)),some (.tup (cs.map cardD)),some (.int (ct:Int)),some (.tup []),some (.tup []),some (.int ((0:Nat):Int)),none,none]) (h1:=h) (fSet_ok rfl)]
  obtain⟨e',h',q,z7,z8,he,hh⟩:=forG_run (chk:=fun h'=>h'[m]?=some (.lst (ps.map fun (k:Nat)=>D.int k))) (i:=7) (t:=packB (relF (R_pack n)))
   (P:=fun k e h'=>∃ z7 z8,e=[some (.int (w:Int)),some (.int ((j+1+1:Nat):Int)),some (.tup (cs.map cardD)),some (.int (ct:Int)),some (.tup ((keptP (ps.take k) cs).map cardD)),some (.tup (((cutP (ps.take k) cs).map (packT w j)).map T.d)),some (.int ((ps.take k).sum:Nat)),z7,z8]/\h'=h++jk)
   (ps.map fun (k:Nat)=>D.int k) [some (.int (w:Int)),some (.int ((j+1+1:Nat):Int)),some (.tup (cs.map cardD)),some (.int (ct:Int)),some (.tup []),some (.tup []),some (.int ((0:Nat):Int)),none,none] (h++jk)
   ⟨none,none,by simp [keptP,cutP],rfl⟩ (fun k e h' p=>by
    obtain⟨_,_,_,rh⟩:=p
    rw [rh]
    exact em)
   (fun k d e h' hk p=>by
    obtain⟨z7,z8,re,rh⟩:=p
    subst re
    rw [List.getElem?_map] at hk
    obtain⟨p,hp,rfl⟩:=Option.map_eq_some_iff.mp hk
    have hlt:=(List.getElem?_eq_some_iff.mp hp).1
    have p1:=pge p (List.mem_of_getElem? hp)
    have tk:ps.take (k+1)=ps.take k++[p]:=by rw [List.take_add_one,hp]; rfl
    have l1:(keptP (ps.take k) cs).length<=1000:=by
     have:=keptP_length (ps.take k) cs
     rw [List.length_take] at this
     omega
    have l2:(cutP (ps.take k) cs).length<=1000:=by
     rw [cutP_length,List.length_take]
     omega
    have g1:relF (R_pack n) [.int (w:Int),.int ((j+1:Nat):Int),.tup (((cs.drop (ps.take k).sum).take (p - 1)).map cardD)] h'=some ((packT w j ((cs.drop (ps.take k).sum).take (p - 1))).d,h'):=
     relF_eq dt ⟨w,j,_,rfl,rfl,by omega,hw,by omega,by rw [List.length_take,List.length_drop]; omega,hRj⟩ h'
    refine⟨[some (.int (w:Int)),some (.int ((j+1+1:Nat):Int)),some (.tup (cs.map cardD)),some (.int (ct:Int)),some (.tup ((keptP (ps.take (k+1)) cs).map cardD)),some (.tup (((cutP (ps.take (k+1)) cs).map (packT w j)).map T.d)),some (.int ((ps.take (k+1)).sum:Nat)),some (.int (p:Int)),some (.int (((ps.take k).sum+p - 1:Nat):Int))],h',?_,_,_,rfl,rh⟩
    rw [tk,cutP_snoc,keptP_snoc,List.sum_append,List.sum_singleton,List.drop_drop]
    generalize hK:keptP (ps.take k) cs=K at l1
    generalize hC:cutP (ps.take k) cs=C at l2
    generalize (ps.take k).sum=s at g1
    unfold packB
    show fSeq _ _ [some (.int (w:Int)),some (.int ((j+1+1:Nat):Int)),some (.tup (cs.map cardD)),some (.int (ct:Int)),some (.tup (K.map cardD)),some (.tup ((C.map (packT w j)).map T.d)),some (.int (s:Nat)),some (.int (p:Int)),z8] h'=_
    rw [fSeq_nx (e1:=[some (.int (w:Int)),some (.int ((j+1+1:Nat):Int)),some (.tup (cs.map cardD)),some (.int (ct:Int)),some (.tup (K.map cardD)),some (.tup ((C.map (packT w j)).map T.d)),some (.int (s:Nat)),some (.int (p:Int)),some (.int ((s+p - 1:Nat):Int))]) (h1:=h') (fSet_ok (by
     rw [sub_ok (x:=(s:Int)+(p:Int)) (y:=1) (add_ok (fV_ok rfl h') (fV_ok rfl h')) rfl,show (s:Int)+(p:Int) - 1=((s+p - 1:Nat):Int) by omega]))]
    rw [fSeq_nx (e1:=[some (.int (w:Int)),some (.int ((j+1+1:Nat):Int)),some (.tup (cs.map cardD)),some (.int (ct:Int)),some (.tup (K.map cardD)),some (.tup (((C++[(cs.drop s).take (p - 1)]).map (packT w j)).map T.d)),some (.int (s:Nat)),some (.int (p:Int)),some (.int ((s+p - 1:Nat):Int))]) (h1:=h') (fSet_ok (by
     rw [f2_ok (x:=.tup ((C.map (packT w j)).map T.d)) (h1:=h') rfl (y:=.tup [(packT w j ((cs.drop s).take (p - 1))).d]) (h2:=h') (by
      have sl:=slT (e:=[some (.int (w:Int)),some (.int ((j+1+1:Nat):Int)),some (.tup (cs.map cardD)),some (.int (ct:Int)),some (.tup (K.map cardD)),some (.tup ((C.map (packT w j)).map T.d)),some (.int (s:Nat)),some (.int (p:Int)),some (.int ((s+p - 1:Nat):Int))]) (h:=h') (f:=fV 6) (g:=fV 8) (cs:=cs) (i:=s) (k:=s+p - 1) rfl rfl rfl
      rw [show s+p - 1 - s=p - 1 by omega] at sl
      have al:fAll [(fV 0),(f2 oSub (fV 1) (fC (.int 1))),(fSl (fV 2) (fPart (fV 6)) (fPart (fV 8)))] [some (.int (w:Int)),some (.int ((j+1+1:Nat):Int)),some (.tup (cs.map cardD)),some (.int (ct:Int)),some (.tup (K.map cardD)),some (.tup ((C.map (packT w j)).map T.d)),some (.int (s:Nat)),some (.int (p:Int)),some (.int ((s+p - 1:Nat):Int))] h'=.ok [.int (w:Int),.int ((j+1:Nat):Int),.tup (((cs.drop s).take (p - 1)).map cardD)] h':=
       fAll_cons (fV_ok rfl h') (fAll2 (by rw [sub_ok (x:=((j+1+1:Nat):Int)) (y:=1) (fV_ok rfl h') rfl,show ((j+1+1:Nat):Int) - 1=((j+1:Nat):Int) by omega]) sl)
      unfold fTup
      rw [fAll1 (d:=(packT w j ((cs.drop s).take (p - 1))).d) (h1:=h') (by rw [fc_ok al,g1]; rfl)]
      rfl),oAdd_tup _ (by rw [List.length_map,List.length_map]; exact sz1000' (by simp; omega)),List.map_append,List.map_append]
     rfl))]
    rw [fSeq_nx (e1:=[some (.int (w:Int)),some (.int ((j+1+1:Nat):Int)),some (.tup (cs.map cardD)),some (.int (ct:Int)),some (.tup ((K++(cs.drop (s+(p - 1))).take 1).map cardD)),some (.tup (((C++[(cs.drop s).take (p - 1)]).map (packT w j)).map T.d)),some (.int (s:Nat)),some (.int (p:Int)),some (.int ((s+p - 1:Nat):Int))]) (h1:=h') (fSet_ok (by
     have sl:=slT (e:=[some (.int (w:Int)),some (.int ((j+1+1:Nat):Int)),some (.tup (cs.map cardD)),some (.int (ct:Int)),some (.tup (K.map cardD)),some (.tup (((C++[(cs.drop s).take (p - 1)]).map (packT w j)).map T.d)),some (.int (s:Nat)),some (.int (p:Int)),some (.int ((s+p - 1:Nat):Int))]) (h:=h') (f:=fV 8) (g:=f2 oAdd (fV 8) (fC (.int 1))) (cs:=cs) (i:=s+p - 1) (k:=s+p - 1+1) rfl rfl rfl
     rw [show s+p - 1+1 - (s+p - 1)=1 by omega] at sl
     rw [f2_ok (x:=.tup (K.map cardD)) (h1:=h') rfl sl,oAdd_tup _ (by rw [List.length_map,List.length_map,List.length_take]; exact sz1000' (by omega)),List.map_append,show s+(p - 1)=s+p - 1 by omega]
     rfl))]
    have:((s+p - 1:Nat):Int)+1=((s+p:Nat):Int):=by omega
    rw [fSet_ok (add_ok (fV_ok (i:=8) rfl h') (fC_ok (.int 1) _ _)),this]
    rfl)
  have it:fiSeq (fc (fnRun 4 t_even_parts) (fAll [(f2 oAdd (fc oLen (fAll [(fV 2)])) (fC (.int 1))),(fV 3)])) [some (.int (w:Int)),some (.int ((j+1+1:Nat):Int)),some (.tup (cs.map cardD)),some (.int (ct:Int)),some (.tup []),some (.tup []),some (.int ((0:Nat):Int)),none,none] h=.ok ⟨ps.map fun (k:Nat)=>D.int k,fun h'=>h'[m]?=some (.lst (ps.map fun (k:Nat)=>D.int k))⟩ (h++jk):=by
   unfold fiSeq
   rw [fc_ok (ds:=[.int ((cs.length+1:Nat):Int),.int (ct:Int)]) (h1:=h) (fAll2 (add_ok (lc _ _ _ _) (fC_ok (.int 1) _ _)) rfl),q1]
   show itSeq (.lst m) (h++jk)=_
   unfold itSeq
   simp only [em]
  rw [fSeq_nx ((fFor_ok it).trans q),he,hh,List.length_map,List.take_length]
  refine fRet_ok ?_
  rw [fc_ok (ds:=[.tup ((keptP ps cs).map cardD),.tup (((cutP ps cs).map (packT w j)).map T.d)]) (h1:=h++jk) rfl,relF_dr _ _ (by rw [List.length_map,cutP_length]; omega)]
  rfl
theorem det_pack:∀ n,Det (R_pack n)
 | 0=>fun ds d d' r _=>absurd r (R_pack0 ds d)
 | n+1=>(runs_pack_of (det_pack n)).det
theorem runs_pack (n:Nat):Runs (fnRun 9 (t_packed_on (relF R_drawer) (fnRun 4 t_room_on) (fnRun 4 t_even_parts) (relF (R_pack n)))) (R_pack (n+1)):=runs_pack_of (det_pack n)
theorem T.V.own9 {least w own n:Nat}{t:T} (v:T.V least w own (n+1) t):own<=t.cs.length:=by
 cases t; unfold T.V at v; exact v.1
inductive Ev (w:Nat):Nat->T->Prop where
 | mk {l:Nat}{t:T} (pos:1<=l) (held:heldOf t.d=t.flat.length) (size:1 < l->t.bs.length=t.flat.length / (w+1) ^ (l - 1)+1/\(w+1) ^ (l - 1) < 1073741824/\l<=900)
   (near:∀ (k:Nat) (a b c:T),t.bs[0]?=some a->t.bs[k]?=some b->t.bs[k+1]?=some c->c.flat.length<=b.flat.length/\a.flat.length<=c.flat.length+1)
   (wt:(t.bs.map fun b=>2*b.flat.length+1).sum < 2*t.flat.length+1) (few:t.bs.length<=1000) (kids:∀ b∈t.bs,Ev w (l - 1) b):Ev w l t
theorem wt_sum:∀ bs:List T,(bs.map fun b=>2*b.flat.length+1).sum=2*((bs.map T.flat).map List.length).sum+bs.length
 | []=>rfl
 | b::r=>by
  rw [List.map_cons,List.sum_cons,wt_sum r,List.map_cons,List.map_cons,List.sum_cons,List.length_cons]
  omega
theorem even_get {t c k p:Nat} (h:(evenP t c)[k]?=some p):p=if k < t % c then t / c+1 else t / c:=by
 unfold evenP at h
 rw [List.getElem?_append,List.length_replicate] at h
 split at h
 ·rename_i z
  rw [if_pos z]
  rw [List.getElem?_replicate,if_pos z] at h
  exact (Option.some.inj h).symm
 ·rename_i z
  rw [if_neg z]
  rw [List.getElem?_replicate] at h
  split at h
  ·exact (Option.some.inj h).symm
  ·cases h
theorem mem_le_sum:∀ {l:List Nat}{x:Nat},x∈l->x<=l.sum
 | [],_,h=>nomatch h
 | a::r,x,h=>by
  rw [List.sum_cons]
  rcases List.mem_cons.mp h with rfl | h
  ·omega
  ·have:=mem_le_sum h
   omega
theorem pack_ev {w half:Nat} (hh:half=w / 2) (h0:1<=half):∀ (j own:Nat) (cs:List Card),cs.length < (w+1) ^ (j+1)->own*(w+1) ^ j<=cs.length->(j=0\/1<=own)->cs.length<=900->(w+1) ^ j < 1073741824->j<=800->Ev w (j+1) (packT w j cs)
 | 0,own,cs,h1,h2,h3,_,_,_=>by
  have pk:=pack_ok hh h0 0 own cs h1 h2 h3
  rw [packT] at pk |-
  refine .mk (Nat.le_refl _) pk.1.held (fun z=>absurd z (Nat.lt_irrefl _)) (fun k a b c e=>?_) ?_ (by simp) fun b hb=>?_
  ·simp at e
  ·simp
  ·simp at hb
 | j+1,own,cs,h1,h2,h3,hc9,hR9,hj8=>by
  have pk:=pack_ok hh h0 (j+1) own cs h1 h2 h3
  have h3:1<=own:=by rcases h3 with z | z; exact absurd z (by omega); exact z
  have hR:0 < (w+1) ^ (j+1):=Nat.pow_pos (by omega)
  have hR':0 < (w+1) ^ j:=Nat.pow_pos (by omega)
  have eR:(w+1) ^ (j+1)=(w+1)*(w+1) ^ j:=by rw [Nat.pow_succ,Nat.mul_comm]
  have c1:own<=cs.length / (w+1) ^ (j+1):=by rw [Nat.le_div_iff_mul_le hR]; exact h2
  have c3:cs.length+1<=(cs.length / (w+1) ^ (j+1)+1)*(w+1) ^ (j+1):=by
   have:=Nat.lt_div_mul_add (a:=cs.length) hR
   rw [Nat.add_mul]
   omega
  have c4:(w+1) ^ (j+1)*(cs.length / (w+1) ^ (j+1)+1 - 1)<=cs.length:=by
   rw [Nat.add_sub_cancel]
   exact Nat.mul_div_le _ _
  have c5:cs.length / (w+1) ^ (j+1)<=cs.length:=Nat.div_le_self _ _
  have hRj:(w+1) ^ j < 1073741824:=Nat.lt_of_le_of_lt (Nat.pow_le_pow_right (by omega) (by omega)) hR9
  have pge:∀ p∈evenP (cs.length+1) (cs.length / (w+1) ^ (j+1)+1),1<=p:=fun p hp=>part_ge hR hp
  have kd:=(pk.1.kids (by omega)).1
  have hw:=pk.1.held
  have hf:=pk.2
  rw [packT] at kd hw hf |-
  generalize hct:cs.length / (w+1) ^ (j+1)=c at*
  have ln:(evenP (cs.length+1) (c+1)).length=c+1:=even_len (by omega)
  obtain⟨k1,k2,k3⟩:=kept_len (ps:=evenP (cs.length+1) (c+1)) (cs:=cs) (by intro z; rw [z] at ln; simp at ln) pge (even_sum (by omega))
  have kids:∀ (k:Nat) (l:List Card),(cutP (evenP (cs.length+1) (c+1)) cs)[k]?=some l->∃ p,(evenP (cs.length+1) (c+1))[k]?=some p/\l.length+1=p/\(packT w j l).flat=l/\Ev w (j+1) (packT w j l):=by
   intro k l hl
   have hk:=(List.getElem?_eq_some_iff.mp hl).1
   rw [cutP_length] at hk
   obtain⟨l',e1,e2⟩:=k3 k _ (List.getElem?_eq_getElem hk)
   rw [hl,Option.some.injEq] at e1
   subst e1
   have hm:(evenP (cs.length+1) (c+1))[k]∈evenP (cs.length+1) (c+1):=List.getElem_mem hk
   have lo:=part_lo (by omega) hm (pk_half (w:=w) (R:=(w+1) ^ j) hh (show 2<=c+1 by omega) hR' (by rw [<-eR]; exact c4))
   have hi:=part_hi (by omega) hm c3
   have su:=mem_le_sum hm
   rw [even_sum (by omega)] at su
   exact⟨_,List.getElem?_eq_getElem hk,e2,(pack_ok hh h0 j half l (by omega) (by omega) (.inr h0)).2,pack_ev hh h0 j half l (by omega) (by omega) (.inr h0) (by omega) hRj (by omega)⟩
  have kid:∀ (k:Nat) (b:T),((cutP (evenP (cs.length+1) (c+1)) cs).map (packT w j))[k]?=some b->∃ p,(evenP (cs.length+1) (c+1))[k]?=some p/\b.flat.length+1=p/\Ev w (j+1) b:=by
   intro k b hb
   rw [List.getElem?_map] at hb
   obtain⟨l,hl,rfl⟩:=Option.map_eq_some_iff.mp hb
   obtain⟨p,p1,p2,p3,p4⟩:=kids k l hl
   exact⟨p,p1,by rw [p3]; exact p2,p4⟩
  refine .mk (by omega) hw (fun _=>⟨?_,by rw [Nat.add_sub_cancel]; exact hR9,by omega⟩) (fun k a b d ea eb ed=>?_) ?_ ?_ fun b hb=>?_
  ·rw [hf,T.bs_node,List.length_map,cutP_length,ln,Nat.add_sub_cancel,hct]
  ·rw [T.bs_node] at ea eb ed
   obtain⟨pa,a1,a2,_⟩:=kid 0 a ea
   obtain⟨pb,b1,b2,_⟩:=kid k b eb
   obtain⟨pd,d1,d2,_⟩:=kid (k+1) d ed
   have a3:=even_get a1
   have b3:=even_get b1
   have d3:=even_get d1
   generalize (cs.length+1) / (c+1)=q at a3 b3 d3
   generalize (cs.length+1) % (c+1)=g at a3 b3 d3
   split at a3<;>split at b3<;>split at d3<;>omega
  ·rw [wt_sum]
   have ic:=inter_count ((((cutP (evenP (cs.length+1) (c+1)) cs).map (packT w j))).map T.flat) (keptP (evenP (cs.length+1) (c+1)) cs)
   rw [<-T.flat_node,hf] at ic
   rw [hf,T.bs_node]
   rw [List.length_map,cutP_length,ln]
   omega
  ·rw [T.bs_node,List.length_map,cutP_length,ln]
   omega
  ·rw [T.bs_node] at hb
   obtain⟨k,hk,rfl⟩:=List.getElem_of_mem hb
   obtain⟨p,_,_,r⟩:=kid k _ (List.getElem?_eq_getElem hk)
   exact r
theorem rng1n {fs:List FE}{env:En}{h h1:Hh}{n:Nat} (q:fAll fs env h=.ok [.int 1,.int (n:Int)] h1) (hn:n<=1000000):fiRng rng2 fs env h=.ok ⟨(List.range (n - 1)).map fun (k:Nat)=>D.int (1+(k:Int)),fun _=>True⟩ h1:=by
 unfold fiRng
 rw [q,Res.bind_ok]
 have:rng2 [.int 1,.int (n:Int)]=some ((List.range (n - 1)).map fun (k:Nat)=>D.int (1+(k:Int))):=by
  unfold rng2
  dsimp only
  rw [if_pos (by omega),show ((n:Int) - 1).toNat=n - 1 by omega]
 rw [this]
 rfl
noncomputable def evenL:FS:=(fIfS (fOr (fB (f2 oGt (f2 oIx (f2 oIx (f2 oIx (fV 4) (fC (.int 1))) (fV 6)) (fC (.int 2))) (f2 oIx (f2 oIx (f2 oIx (fV 4) (fC (.int 1))) (f2 oSub (fV 6) (fC (.int 1)))) (fC (.int 2))))) (fB (f2 oLt (f2 oAdd (f2 oIx (f2 oIx (f2 oIx (fV 4) (fC (.int 1))) (fV 6)) (fC (.int 2))) (fC (.int 1))) (f2 oIx (f2 oIx (f2 oIx (fV 4) (fC (.int 1))) (fC (.int 0))) (fC (.int 2)))))) (fRet (fC (.bl false))) fNext)
noncomputable def evenI:FS:=(fIfS (fAnd (fB (f2 oGt (fV 5) (fC (.int 1)))) (fB (f2 oNe (fc oLen (fAll [(f2 oIx (fV 4) (fC (.int 1)))])) (f2 oAdd (f2 oDiv (f2 oIx (fV 4) (fC (.int 2))) (fc (fnRun 4 t_room_on) (fAll [(fV 1),(f2 oSub (fV 5) (fC (.int 1)))]))) (fC (.int 1)))))) (fRet (fC (.bl false))) fNext)
noncomputable def evenX:FS:=(fDrop (fM oExtend (fV 3) [(fComp (fiSeq (f2 oIx (fV 4) (fC (.int 1)))) [5] fYes (fTup [(fV 0),(f2 oSub (fV 1) (fC (.int 1)))]))]))
noncomputable def evenB:FS:=(fSeq (fUnp [4,5] (fM oPop (fV 3) []))
  (fSeq evenI
  (fSeq (fFor 6 (fiRng rng2 [(fC (.int 1)),(fc oLen (fAll [(f2 oIx (fV 4) (fC (.int 1)))]))]) evenL)
  evenX)))
theorem even_eq:t__law_even (fnRun 4 t__law_room_for)=(fSeq (fSet 3 (fLst [(fTup [(fV 0),(fV 2)])])) (fSeq (fWhile (fB (f2 oGt (fc oLen (fAll [(fV 3)])) (fC (.int 0)))) evenB 2000) (fRet (fC (.bl true))))):=rfl
def itD (x:T×Nat):D:=.tup [x.1.d,.int (x.2:Int)]
theorem ix1 {e:En}{h:Hh}{t:T} (q:e[4]?=some (some t.d)):f2 oIx (fV 4) (fC (.int 1)) e h=.ok (.tup (t.bs.map T.d)) h:=by
 rw [f2_ok (fV_ok q h) (fC_ok (.int 1) _ _),t_ix1]; rfl
theorem ix12 {e:En}{h:Hh}{t b:T}{g:FE}{k:Nat} (q:e[4]?=some (some t.d)) (qg:g e h=.ok (.int (k:Int)) h) (hb:t.bs[k]?=some b) (hd:heldOf b.d=b.flat.length):f2 oIx (f2 oIx (f2 oIx (fV 4) (fC (.int 1))) g) (fC (.int 2)) e h=.ok (.int (b.flat.length:Int)) h:=by
 rw [f2_ok (x:=b.d) (h1:=h) (by rw [f2_ok (ix1 q) qg,ix_trees hb]; rfl) (fC_ok (.int 2) _ _),held_ix,hd]; rfl
theorem even_look {a0 a1 a2 a3 z6:Option D}{w l:Nat}{t:T}{h:Hh} (ha:a1=some (.int (w:Int))) (hw:w<=900) (v:Ev w l t):
  evenI [a0,a1,a2,a3,some t.d,some (.int (l:Int)),z6] h=.nx [a0,a1,a2,a3,some t.d,some (.int (l:Int)),z6] h/\
  ∃ z,fFor 6 (fiRng rng2 [(fC (.int 1)),(fc oLen (fAll [(f2 oIx (fV 4) (fC (.int 1)))]))]) evenL [a0,a1,a2,a3,some t.d,some (.int (l:Int)),z6] h=.nx [a0,a1,a2,a3,some t.d,some (.int (l:Int)),z] h:=by
 subst ha
 obtain⟨pos,held,size,near,wt,few,kids⟩:=v
 have len:∀ z,fc oLen (fAll [(f2 oIx (fV 4) (fC (.int 1)))]) [a0,some (.int (w:Int)),a2,a3,some t.d,some (.int (l:Int)),z] h=.ok (.int (t.bs.length:Int)) h:=fun z=>by
  rw [fc_ok (fAll1 (ix1 (t:=t) rfl)),oLen_tup,List.length_map]; rfl
 refine⟨?_,?_⟩
 ·unfold evenI
  have g1:fB (f2 oGt (fV 5) (fC (.int 1))) [a0,some (.int (w:Int)),a2,a3,some t.d,some (.int (l:Int)),z6] h=.ok (decide ((1:Int) < (l:Int))) h:=fB_ok (by rw [f2_ok (x:=.int (l:Int)) (h1:=h) rfl (y:=.int 1) (h2:=h) rfl]; rfl)
  by_cases c:1 < l
  ·obtain⟨s1,s2,s3⟩:=size c
   have hR:0 < (w+1) ^ (l - 1):=Nat.pow_pos (by omega)
   rw [decide_eq_true (by omega)] at g1
   rw [fIfS_f (h1:=h) (andT g1 (fB_ok (b:=false) (h1:=h) ?_))]
   ·rfl
   ·have e1:(l:Int) - 1=((l - 1:Nat):Int):=by omega
    have rm:fc (fnRun 4 t_room_on) (fAll [(fV 1),(f2 oSub (fV 5) (fC (.int 1)))]) [a0,some (.int (w:Int)),a2,a3,some t.d,some (.int (l:Int)),z6] h=.ok (.int (((w+1) ^ (l - 1):Nat):Int)) h:=by
     rw [fc_ok (ds:=[.int (w:Int),.int ((l - 1:Nat):Int)]) (h1:=h) (fAll2 (fV_ok rfl h) (by rw [sub_ok (x:=(l:Int)) (y:=1) (fV_ok rfl h) rfl,e1])),run_room hw (by omega)]; rfl
    have hl:f2 oIx (fV 4) (fC (.int 2)) [a0,some (.int (w:Int)),a2,a3,some t.d,some (.int (l:Int)),z6] h=.ok (.int (t.flat.length:Int)) h:=by
     rw [f2_ok (x:=t.d) (h1:=h) rfl (fC_ok (.int 2) _ _),held_ix,held]; rfl
    rw [f2_ok (len _) (add_ok (div_ok hl rm (by omega)) (fC_ok (.int 1) _ _)),oNe_int,s1]
    have e2:((t.flat.length / (w+1) ^ (l - 1)+1:Nat):Int)=(t.flat.length:Int) / (((w+1) ^ (l - 1):Nat):Int)+1:=by rw [Int.natCast_add,Int.natCast_ediv]; rfl
    rw [e2]
    simp [Res.ofO]
  ·rw [decide_eq_false (by omega)] at g1
   rw [fIfS_f (h1:=h) (andF g1)]
   rfl
 ·obtain⟨e',h',q,z,he,hh⟩:=forG_run (chk:=fun _=>True) (i:=6) (t:=evenL)
   (P:=fun _ e h'=>∃ z,e=[a0,some (.int (w:Int)),a2,a3,some t.d,some (.int (l:Int)),z]/\h'=h)
   ((List.range (t.bs.length - 1)).map fun (k:Nat)=>D.int (1+(k:Int))) [a0,some (.int (w:Int)),a2,a3,some t.d,some (.int (l:Int)),z6] h ⟨z6,rfl,rfl⟩ (fun _ _ _ _=>trivial)
   (fun k d e h' hk p=>by
    obtain⟨z,re,rh⟩:=p
    subst re
    rw [List.getElem?_map] at hk
    obtain⟨k',hk',rfl⟩:=Option.map_eq_some_iff.mp hk
    obtain⟨hlt,ek⟩:=List.getElem?_eq_some_iff.mp hk'
    rw [List.getElem_range] at ek
    subst ek
    rw [List.length_range] at hlt
    obtain⟨a,ea⟩:∃ a,t.bs[0]?=some a:=⟨_,List.getElem?_eq_getElem (by omega)⟩
    obtain⟨b,eb⟩:∃ b,t.bs[k]?=some b:=⟨_,List.getElem?_eq_getElem (by omega)⟩
    obtain⟨c,ec⟩:∃ c,t.bs[k+1]?=some c:=⟨_,List.getElem?_eq_getElem (by omega)⟩
    obtain⟨n1,n2⟩:=near k a b c ea eb ec
    have hd:∀ (i:Nat) (x:T),t.bs[i]?=some x->heldOf x.d=x.flat.length:=fun i x hx=>by
     cases kids x (List.mem_of_getElem? hx); assumption
    refine⟨[a0,some (.int (w:Int)),a2,a3,some t.d,some (.int (l:Int)),some (.int (1+(k:Int)))],h',?_,_,rfl,rh⟩
    show evenL [a0,some (.int (w:Int)),a2,a3,some t.d,some (.int (l:Int)),some (.int (1+(k:Int)))] h'=_
    have vc:=ix12 (e:=[a0,some (.int (w:Int)),a2,a3,some t.d,some (.int (l:Int)),some (.int (1+(k:Int)))]) (h:=h') (g:=fV 6) (k:=k+1) (b:=c) rfl (by rw [show ((k+1:Nat):Int)=1+(k:Int) by omega]; rfl) ec (hd _ _ ec)
    have vb:=ix12 (e:=[a0,some (.int (w:Int)),a2,a3,some t.d,some (.int (l:Int)),some (.int (1+(k:Int)))]) (h:=h') (g:=f2 oSub (fV 6) (fC (.int 1))) (k:=k) (b:=b) rfl (by rw [sub_ok (x:=1+(k:Int)) (y:=1) (fV_ok rfl h') rfl,show 1+(k:Int) - 1=(k:Int) by omega]) eb (hd _ _ eb)
    have va:=ix12 (e:=[a0,some (.int (w:Int)),a2,a3,some t.d,some (.int (l:Int)),some (.int (1+(k:Int)))]) (h:=h') (g:=fC (.int 0)) (k:=0) (b:=a) rfl rfl ea (hd _ _ ea)
    unfold evenL
    rw [fIfS_f (h1:=h') (orF (fB_ok (b:=false) (h1:=h') ?_) (fB_ok (b:=false) (h1:=h') ?_))]
    ·rfl
    ·rw [f2_ok vc vb,oGt_int,decide_eq_false (by omega)]; rfl
    ·rw [f2_ok (add_ok vc (fC_ok (.int 1) _ _)) va,oLt_int,decide_eq_false (by omega)]; rfl)
  refine⟨z,?_⟩
  rw [(fFor_ok (rng1n (n:=t.bs.length) (fAll2 (fC_ok _ _ _) (len _)) (by omega))).trans q,he,hh]
theorem run_even {w L:Nat}{top:T} (hw:w<=900) (hf:top.flat.length<=900) (v:Ev w L top) (h:Hh):∃ h',fnRun 7 (t__law_even (fnRun 4 t__law_room_for)) [top.d,.int (w:Int),.int (L:Int)] h=some (.bl true,h')/\Grow h h':=by
 rw [even_eq]
 have q0:fSet 3 (fLst [(fTup [(fV 0),(fV 2)])]) [some top.d,some (.int (w:Int)),some (.int (L:Int)),none,none,none,none] h=.nx [some top.d,some (.int (w:Int)),some (.int (L:Int)),some (.lst h.length),none,none,none] (h++[.lst [itD (top,L)]]):=fSet_ok (fLst1 (h1:=h) rfl)
 obtain⟨e',h',q,G⟩:=whileM (c:=(fB (f2 oGt (fc oLen (fAll [(fV 3)])) (fC (.int 0))))) (t:=evenB)
  (P:=fun m e h'=>∃ (ts:List (T×Nat)) (z4 z5 z6:Option D),e=[some top.d,some (.int (w:Int)),some (.int (L:Int)),some (.lst h.length),z4,z5,z6]/\h'[h.length]?=some (.lst (ts.map itD))/\Grow h h'/\(∀ x∈ts,Ev w x.2 x.1)/\(ts.map fun x=>2*x.1.flat.length+1).sum=m/\m<=1900)
  (R:=fun _ h'=>Grow h h')
  (fun m e h' p=>by
   obtain⟨ts,z4,z5,z6,re,em,G,vs,hm,hm9⟩:=p
   subst re
   have len:fc oLen (fAll [(fV 3)]) [some top.d,some (.int (w:Int)),some (.int (L:Int)),some (.lst h.length),z4,z5,z6] h'=.ok (.int (ts.length:Int)) h':=by
    rw [fc_ok (fAll1 (d:=.lst h.length) (h1:=h') rfl),oLen_lst em,List.length_map]; rfl
   have qc:fB (f2 oGt (fc oLen (fAll [(fV 3)])) (fC (.int 0))) [some top.d,some (.int (w:Int)),some (.int (L:Int)),some (.lst h.length),z4,z5,z6] h'=.ok (decide ((0:Int) < (ts.length:Int))) h':=fB_ok (by rw [f2_ok len (fC_ok (.int 0) _ _)]; rfl)
   rcases List.eq_nil_or_concat ts with rfl | ⟨rs,x,rfl⟩
   ·left
    exact⟨h',qc,G⟩
   ·right
    rw [List.concat_eq_append] at*
    obtain⟨t,l⟩:=x
    have v:Ev w l t:=vs (t,l) (by simp)
    rw [decide_eq_true (by rw [List.length_append,List.length_singleton]; omega)] at qc
    rw [List.map_append] at em
    have pop:fUnp [4,5] (fM oPop (fV 3) []) [some top.d,some (.int (w:Int)),some (.int (L:Int)),some (.lst h.length),z4,z5,z6] h'=.nx [some top.d,some (.int (w:Int)),some (.int (L:Int)),some (.lst h.length),some t.d,some (.int (l:Int)),z6] (h'.set h.length (.lst (rs.map itD))):=by
     unfold fUnp fM
     rw [fV_ok (d:=.lst h.length) rfl h',Res.bind_ok,if_pos (show lstOk (.lst h.length) h'=true from (show (itemsAt h' h.length).isSome=true by rw [itemsAt_of em]; rfl)),fAll_nil,Res.bind_ok,oPop_lst em]
     rfl
    have G1:Grow h (h'.set h.length (.lst (rs.map itD))):=G.set (Nat.le_refl _) _
    have e1:(h'.set h.length (.lst (rs.map itD)))[h.length]?=some (.lst (rs.map itD)):=at_set em
    generalize h'.set h.length (.lst (rs.map itD))=h1 at pop G1 e1
    obtain⟨lk1,z,lk2⟩:=even_look (a0:=some top.d) (a2:=some (.int (L:Int))) (a3:=some (.lst h.length)) (z6:=z6) (h:=h1) rfl hw v
    obtain⟨pos,held,size,near,wt,few,kids⟩:=v
    have sm:((rs++[(t,l)]).map fun x=>2*x.1.flat.length+1).sum=(rs.map fun x=>2*x.1.flat.length+1).sum+(2*t.flat.length+1):=by rw [List.map_append,List.sum_append]; rfl
    rw [sm] at hm
    have cmp:fComp (fiSeq (f2 oIx (fV 4) (fC (.int 1)))) [5] fYes (fTup [(fV 0),(f2 oSub (fV 1) (fC (.int 1)))]) [some top.d,some (.int (w:Int)),some (.int (L:Int)),some (.lst h.length),some t.d,some (.int (l:Int)),z] h1=.ok (.lst h1.length) (h1++[.lst ((t.bs.map fun b=>(b,l - 1)).map itD)]):=by
     have:=fComp_map (fi:=fiSeq (f2 oIx (fV 4) (fC (.int 1)))) (fr:=[5]) (fe:=fTup [(fV 0),(f2 oSub (fV 1) (fC (.int 1)))]) (env:=[some top.d,some (.int (w:Int)),some (.int (L:Int)),some (.lst h.length),some t.d,some (.int (l:Int)),z]) (h:=h1) (h1:=h1) (it:=⟨t.bs.map T.d,fun _=>True⟩) (g:=fun d=>.tup [d,.int ((l - 1:Nat):Int)])
      (by unfold fiSeq; rw [ix1 (t:=t) rfl]; rfl) (fun _=>trivial) (fun d _ xs=>by
       unfold fTup
       rw [fAll2 (d:=d) (h1:=h1++[.lst xs]) rfl (d2:=.int ((l - 1:Nat):Int)) (h2:=h1++[.lst xs]) (by
        rw [sub_ok (x:=(l:Int)) (y:=1) (fV_ok rfl _) rfl,show (l:Int) - 1=((l - 1:Nat):Int) by omega])]
       rfl) (by rw [List.length_map]; exact sz1000 (by omega))
     rw [this]
     simp only [List.map_map]
     rfl
    have hlen:rs.length<=1900:=by
     have:∀ (l:List (T×Nat)),l.length<=(l.map fun x=>2*x.1.flat.length+1).sum:=fun l=>by
      induction l with
      | nil=>exact Nat.le_refl _
      | cons a r ih=>rw [List.map_cons,List.sum_cons,List.length_cons]; omega
     have:=this rs
     omega
    refine⟨h',[some top.d,some (.int (w:Int)),some (.int (L:Int)),some (.lst h.length),some t.d,some (.int (l:Int)),z],(h1++[O.lst ((t.bs.map fun b=>(b,l - 1)).map itD)]).set h.length (.lst (rs.map itD++(t.bs.map fun b=>(b,l - 1)).map itD)),_,qc,?_,⟨rs++t.bs.map fun b=>(b,l - 1),_,_,_,rfl,?_,(G1.app1 _).set (Nat.le_refl _) _,fun x hx=>?_,rfl,?_⟩,?_⟩
    ·unfold evenB
     rw [fSeq_nx pop,fSeq_nx lk1,fSeq_nx lk2]
     unfold evenX
     exact fExt_ok (fV_ok rfl h1) e1 cmp ((Grow.app h1 _).at' e1) (at_new _ _) (by rw [List.length_map,List.length_map,List.length_map]; omega)
    ·rw [List.map_append]
     exact at_set ((Grow.app h1 _).at' e1)
    ·rcases List.mem_append.mp hx with z | z
     ·exact vs x (List.mem_append_left _ z)
     ·obtain⟨b,hb,rfl⟩:=List.mem_map.mp z
      exact kids b hb
    ·rw [List.map_append,List.sum_append,List.map_map]
     have:((fun x:T×Nat=>2*x.1.flat.length+1) ∘ fun b=>(b,l - 1))=fun b:T=>2*b.flat.length+1:=rfl
     rw [this]
     omega
    ·rw [List.map_append,List.sum_append,List.map_map]
     have:((fun x:T×Nat=>2*x.1.flat.length+1) ∘ fun b=>(b,l - 1))=fun b:T=>2*b.flat.length+1:=rfl
     rw [this]
     omega)
  2000 _ [some top.d,some (.int (w:Int)),some (.int (L:Int)),some (.lst h.length),none,none,none] (h++[.lst [itD (top,L)]]) ⟨[(top,L)],none,none,none,rfl,at_new _ _,.app _ _,by simpa using v,rfl,by simp; omega⟩ (by simp; omega)
 refine⟨h',fnRun_rt ?_,G⟩
 show fSeq _ _ [some top.d,some (.int (w:Int)),some (.int (L:Int)),none,none,none,none] h=_
 rw [fSeq_nx q0,fSeq_nx q]
 rfl
theorem forG_orX {i:Nat}{t:FS} (P:Nat->En->Hh->Prop) (c:Value) (Rr:Hh->Prop):∀ (items:List D) (k:Nat) (e:En) (h:Hh),P k e h->
  (∀ (j:Nat) d e h,items[j]?=some d->P (k+j) e h->(∃ e' h',t (e.set i (some d)) h=.nx e' h'/\P (k+j+1) e' h')\/∃ e' h',t (e.set i (some d)) h=.ex c e' h'/\Rr h')->
  (∃ e' h',forG (fun _=>True) i t items e h=.nx e' h'/\P (k+items.length) e' h')\/∃ e' h',forG (fun _=>True) i t items e h=.ex c e' h'/\Rr h'
 | [],k,e,h,p,_=>.inl ⟨e,h,by unfold forG; rw [if_pos trivial],p⟩
 | d::r,k,e,h,p,ht=>by
  rcases ht 0 d e h (by simp) p with⟨e1,h1,q1,p1⟩ | ⟨e',h',q,rr⟩
  ·rcases forG_orX P c Rr r (k+1) e1 h1 p1 (fun j d' e' h' hj p'=>by
    rcases ht (j+1) d' e' h' (by simpa using hj) (by rw [show k+(j+1)=k+1+j by omega]; exact p') with⟨e3,h3,q3,p3⟩ | z
    ·exact .inl ⟨e3,h3,q3,by rw [show k+1+j+1=k+(j+1)+1 by omega]; exact p3⟩
    ·exact .inr z) with⟨e2,h2,q2,p2⟩ | ⟨e',h',q,rr⟩
   ·refine .inl ⟨e2,h2,?_,by rw [List.length_cons,show k+(r.length+1)=k+1+r.length by omega]; exact p2⟩
    unfold forG
    rw [if_pos trivial,q1]
    exact q2
   ·refine .inr ⟨e',h',?_,rr⟩
    unfold forG
    rw [if_pos trivial,q1]
    exact q
  ·refine .inr ⟨e',h',?_,rr⟩
   unfold forG
   rw [if_pos trivial,q]
def IsDeed (d:D):Prop:=∃ xs:List D,d=.tup xs/\∀ x∈xs,x=.non\/(∃ s,x=.str s)\/∃ i,x=.int i
theorem IsDeed.dp {d:D} (h:IsDeed d) (n:Nat):Dp (n+2) d:=by
 obtain⟨xs,rfl,hx⟩:=h
 refine .tup fun x m=>?_
 rcases hx x m with rfl | ⟨s,rfl⟩ | ⟨i,rfl⟩
 ·exact .non
 ·exact .str _
 ·exact .int _
theorem deed_card (c:Card):IsDeed (cardD c):=⟨_,rfl,fun x hx=>by
 simp only [List.mem_cons,List.not_mem_nil,or_false] at hx
 rcases hx with rfl | rfl
 ·exact .inr (.inr ⟨_,rfl⟩)
 ·exact .inr (.inl ⟨_,rfl⟩)⟩
noncomputable def sameP:FS:=(fIfS (fAnd (fB (f2 oNotN (fV 3) (fC .non))) (fAnd (fNot (fB (f1 (oIsi "str") (fV 3)))) (fNot (fB (fc (fnRun 1 t__law_whole) (fAll [(fV 3)])))))) (fRet (fC (.bl false))) fNext)
noncomputable def sameB:FS:=(fSeq (fIfS (fOr (fNot (fB (f1 (oIsi "tuple") (f2 oIx (fV 0) (fV 2))))) (fB (f2 oNe (fc oLen (fAll [(f2 oIx (fV 0) (fV 2))])) (fc oLen (fAll [(f2 oIx (fV 1) (fV 2))]))))) (fRet (fC (.bl false))) fNext)
  (fSeq (fFor 3 (fiSeq (f2 oIx (fV 0) (fV 2))) sameP)
  (fIfS (fB (f2 oNe (f2 oIx (fV 0) (fV 2)) (f2 oIx (fV 1) (fV 2)))) (fRet (fC (.bl false))) fNext)))
theorem same_eq:t__law_same (fnRun 1 t__law_whole)=(fSeq (fIfS (fB (f2 oNe (fc oLen (fAll [(fV 0)])) (fc oLen (fAll [(fV 1)])))) (fRet (fC (.bl false))) fNext)
  (fSeq (fFor 2 (fiRng rng1 [(fc oLen (fAll [(fV 1)]))]) sameB)
  (fRet (fC (.bl true))))):=rfl
theorem run_same {h:Hh}{a b:Nat}{ds:List D} (ea:h[a]?=some (.lst ds)) (eb:h[b]?=some (.lst ds)) (hd:∀ d∈ds,IsDeed d) (hl:ds.length<=100000):
  fnRun 4 (t__law_same (fnRun 1 t__law_whole)) [.lst a,.lst b] h=some (.bl true,h):=by
 refine fnRun_rt ?_
 rw [same_eq]
 show fSeq _ _ [some (.lst a),some (.lst b),none,none] h=_
 have la:∀ z2 z3,fc oLen (fAll [(fV 0)]) [some (.lst a),some (.lst b),z2,z3] h=.ok (.int (ds.length:Int)) h:=fun _ _=>by
  rw [fc_ok (fAll1 (d:=.lst a) (h1:=h) rfl),oLen_lst ea]; rfl
 have lb:∀ z2 z3,fc oLen (fAll [(fV 1)]) [some (.lst a),some (.lst b),z2,z3] h=.ok (.int (ds.length:Int)) h:=fun _ _=>by
  rw [fc_ok (fAll1 (d:=.lst b) (h1:=h) rfl),oLen_lst eb]; rfl
 rw [fSeq_nx (e1:=[some (.lst a),some (.lst b),none,none]) (h1:=h) (by
  rw [fIfS_f (h1:=h) (fB_ok (by rw [f2_ok (la _ _) (lb _ _),oNe_int,beq_self_eq_true]; rfl))]
  rfl)]
 obtain⟨e',h',q,z2,z3,he,hh⟩:=forG_run (chk:=fun _=>True) (i:=2) (t:=sameB)
  (P:=fun _ e h'=>∃ z2 z3,e=[some (.lst a),some (.lst b),z2,z3]/\h'=h)
  ((List.range ds.length).map fun (k:Nat)=>D.int k) [some (.lst a),some (.lst b),none,none] h ⟨none,none,rfl,rfl⟩ (fun _ _ _ _=>trivial)
  (fun k d e h' hk p=>by
   obtain⟨z2,z3,re,rh⟩:=p
   subst re
   subst rh
   obtain⟨hlt,rfl⟩:=range_get hk
   obtain⟨x,ex⟩:∃ x,ds[k]?=some x:=⟨_,List.getElem?_eq_getElem hlt⟩
   have dx:=hd x (List.mem_of_getElem? ex)
   have xa:∀ z,f2 oIx (fV 0) (fV 2) [some (.lst a),some (.lst b),some (.int (k:Int)),z] h'=.ok x h':=fun z=>by
    rw [f2_ok (x:=.lst a) (h1:=h') rfl (y:=.int (k:Int)) (h2:=h') rfl,oIx_lst ea,atI_nat',ex]; rfl
   have xb:∀ z,f2 oIx (fV 1) (fV 2) [some (.lst a),some (.lst b),some (.int (k:Int)),z] h'=.ok x h':=fun z=>by
    rw [f2_ok (x:=.lst b) (h1:=h') rfl (y:=.int (k:Int)) (h2:=h') rfl,oIx_lst eb,atI_nat',ex]; rfl
   show ∃ e' h'',sameB [some (.lst a),some (.lst b),some (.int (k:Int)),z3] h'=.nx e' h''/\_
   obtain⟨xs,rfl,hx⟩:=id dx
   unfold sameB
   rw [fSeq_nx (e1:=[some (.lst a),some (.lst b),some (.int (k:Int)),z3]) (h1:=h') (by
    rw [fIfS_f (h1:=h') (orF (h1:=h') (notB (b:=true) (fB_ok (by unfold f1; rw [xa]; rfl))) (fB_ok (b:=false) (by
     rw [f2_ok (x:=.int (xs.length:Int)) (h1:=h') (by rw [fc_ok (fAll1 (xa _)),oLen_tup]; rfl) (y:=.int (xs.length:Int)) (h2:=h') (by rw [fc_ok (fAll1 (xb _)),oLen_tup]; rfl),oNe_int,beq_self_eq_true]
     rfl)))]
    rfl)]
   obtain⟨e2,h2,q2,z,he2,hh2⟩:=forG_run (chk:=fun _=>True) (i:=3) (t:=sameP)
    (P:=fun _ e h''=>∃ z,e=[some (.lst a),some (.lst b),some (.int (k:Int)),z]/\h''=h')
    xs [some (.lst a),some (.lst b),some (.int (k:Int)),z3] h' ⟨z3,rfl,rfl⟩ (fun _ _ _ _=>trivial)
    (fun j y e h'' hj p=>by
     obtain⟨z,re,rh⟩:=p
     subst re
     subst rh
     refine⟨[some (.lst a),some (.lst b),some (.int (k:Int)),some y],h'',?_,_,rfl,rfl⟩
     rcases hx y (List.mem_of_getElem? hj) with rfl | ⟨s,rfl⟩ | ⟨i,rfl⟩
     ·rfl
     ·rfl
     ·show sameP [some (.lst a),some (.lst b),some (.int (k:Int)),some (.int i)] h''=_
      unfold sameP
      rw [fIfS_f (h1:=h'') (andT (h1:=h'') (b:=false) rfl (andT (h1:=h'') (b:=false) rfl (notB (b:=true) (fB_ok (by rw [fc_ok (fAll1 (d:=.int i) (h1:=h'') rfl),run_whole]; rfl)))))]
      rfl)
   have it:fiSeq (f2 oIx (fV 0) (fV 2)) [some (.lst a),some (.lst b),some (.int (k:Int)),z3] h'=.ok ⟨xs,fun _=>True⟩ h':=by
    unfold fiSeq
    rw [xa]
    rfl
   rw [fSeq_nx ((fFor_ok it).trans q2),he2,hh2]
   refine⟨[some (.lst a),some (.lst b),some (.int (k:Int)),z],h',?_,_,_,rfl,rfl⟩
   rw [fIfS_f (h1:=h') (fB_ok (b:=false) (by rw [f2_ok (xa _) (xb _),oNe_refl _ (dx.dp 22)]; rfl))]
   rfl)
 rw [fSeq_nx ((fFor_ok (fiRng1_ok (n:=ds.length) (fAll1 (lb _ _)) (by omega))).trans q),he,hh]
 rfl
end M
namespace K09
open PySem PySem.Spec PyProof.Rows L2 DL MD M
theorem run_cw (xW:Addr) (w:Int) (h:Hh):fnRunX 1 (t_check_width xW) [.int w] h=if w < 2 then .ex (.ref xW) h else .ok .non h:=by
 have qc:fB (f2 oLt (fV 0) (fC (.int 2))) [some (.int w)] h=.ok (decide (w < 2)) h:=fB_ok (by rw [f2_ok (x:=.int w) (h1:=h) rfl (y:=.int 2) (h2:=h) rfl]; rfl)
 by_cases c:w < 2
 ·rw [if_pos c]
  rw [decide_eq_true c] at qc
  refine fnRunX_ex (e:=[some (.int w)]) ?_
  show fIfS _ _ _ [some (.int w)] h=_
  rw [fIfS_t qc]
  rfl
 ·rw [if_neg c]
  rw [decide_eq_false c] at qc
  refine fnRunX_nx (e:=[some (.int w)]) ?_
  show fIfS _ _ _ [some (.int w)] h=_
  rw [fIfS_f qc]
  rfl
def Ris (cs:List Card):Prop:=∀ (k:Nat) (a b:Card),cs[k]?=some a->cs[k+1]?=some b->a.1 < b.1
noncomputable def risB (xR:Addr):FS:=(fIfS (fB (f2 oLe (f2 oIx (f2 oIx (fV 0) (fV 1)) (fC (.int 0))) (f2 oIx (f2 oIx (fV 0) (f2 oSub (fV 1) (fC (.int 1)))) (fC (.int 0))))) (fRaise (.ref xR) (fC (.str "a card has a number no greater than that of the card ahead of it"))) fNext)
theorem run_cr {xR:Addr}{c:Nat}{cs:List Card}{h:Hh} (ec:h[c]?=some (.lst (cs.map cardD))) (hl:cs.length<=1000):
  (Ris cs/\fnRunX 2 (t_check_rising xR) [.lst c] h=.ok .non h)\/(¬ Ris cs/\fnRunX 2 (t_check_rising xR) [.lst c] h=.ex (.ref xR) h):=by
 have len:fc oLen (fAll [(fV 0)]) [some (.lst c),none] h=.ok (.int (cs.length:Int)) h:=by
  rw [fc_ok (fAll1 (d:=.lst c) (h1:=h) rfl),oLen_lst ec,List.length_map]; rfl
 have lp:=forG_orX (i:=1) (t:=risB xR) (c:=.ref xR)
  (P:=fun k e h'=>(∃ z,e=[some (.lst c),z])/\h'=h/\∀ (j:Nat) (a b:Card),j < k->cs[j]?=some a->cs[j+1]?=some b->a.1 < b.1)
  (Rr:=fun h'=>h'=h/\¬ Ris cs)
  ((List.range (cs.length - 1)).map fun (k:Nat)=>D.int (1+(k:Int))) 0 [some (.lst c),none] h ⟨⟨none,rfl⟩,rfl,fun j a b z=>absurd z (Nat.not_lt_zero _)⟩
  (fun k d e h' hk p=>by
   obtain⟨⟨z,re⟩,rh,pr⟩:=p
   subst re
   subst rh
   rw [Nat.zero_add] at pr |-
   rw [List.getElem?_map] at hk
   obtain⟨k',hk',rfl⟩:=Option.map_eq_some_iff.mp hk
   obtain⟨hlt,ek⟩:=List.getElem?_eq_some_iff.mp hk'
   rw [List.getElem_range] at ek
   subst ek
   rw [List.length_range] at hlt
   obtain⟨a,ea⟩:∃ a,cs[k]?=some a:=⟨_,List.getElem?_eq_getElem (by omega)⟩
   obtain⟨b,eb⟩:∃ b,cs[k+1]?=some b:=⟨_,List.getElem?_eq_getElem (by omega)⟩
   have xb:f2 oIx (f2 oIx (fV 0) (fV 1)) (fC (.int 0)) [some (.lst c),some (.int (1+(k:Int)))] h'=.ok (.int b.1) h':=by
    rw [f2_ok (x:=cardD b) (h1:=h') (by
     rw [f2_ok (x:=.lst c) (h1:=h') rfl (y:=.int ((k+1:Nat):Int)) (h2:=h') (by rw [show ((k+1:Nat):Int)=1+(k:Int) by omega]; rfl),oIx_lst ec,atI_nat',List.getElem?_map,eb]; rfl) (y:=.int 0) (h2:=h') rfl]
    rfl
   have xa:f2 oIx (f2 oIx (fV 0) (f2 oSub (fV 1) (fC (.int 1)))) (fC (.int 0)) [some (.lst c),some (.int (1+(k:Int)))] h'=.ok (.int a.1) h':=by
    rw [f2_ok (x:=cardD a) (h1:=h') (by
     rw [f2_ok (x:=.lst c) (h1:=h') rfl (y:=.int (k:Int)) (h2:=h') (by rw [sub_ok (x:=1+(k:Int)) (y:=1) (fV_ok rfl h') rfl,show 1+(k:Int) - 1=(k:Int) by omega]),oIx_lst ec,atI_nat',List.getElem?_map,ea]; rfl) (y:=.int 0) (h2:=h') rfl]
    rfl
   have qc:fB (f2 oLe (f2 oIx (f2 oIx (fV 0) (fV 1)) (fC (.int 0))) (f2 oIx (f2 oIx (fV 0) (f2 oSub (fV 1) (fC (.int 1)))) (fC (.int 0)))) [some (.lst c),some (.int (1+(k:Int)))] h'=.ok (decide (b.1<=a.1)) h':=fB_ok (by rw [f2_ok xb xa]; rfl)
   by_cases z:b.1<=a.1
   ·right
    rw [decide_eq_true z] at qc
    refine⟨[some (.lst c),some (.int (1+(k:Int)))],h',?_,rfl,fun r=>by have:=r k a b ea eb; omega⟩
    show risB xR [some (.lst c),some (.int (1+(k:Int)))] h'=_
    unfold risB
    rw [fIfS_t qc]
    rfl
   ·left
    rw [decide_eq_false z] at qc
    refine⟨[some (.lst c),some (.int (1+(k:Int)))],h',?_,⟨_,rfl⟩,rfl,fun j a' b' hj e1 e2=>?_⟩
    ·show risB xR [some (.lst c),some (.int (1+(k:Int)))] h'=_
     unfold risB
     rw [fIfS_f qc]
     rfl
    ·by_cases y:j=k
     ·subst y
      rw [ea] at e1
      rw [eb] at e2
      cases e1
      cases e2
      omega
     ·exact pr j a' b' (by omega) e1 e2)
 have go:t_check_rising xR (startE 2 [.lst c]) h=forG (fun _=>True) 1 (risB xR) ((List.range (cs.length - 1)).map fun (k:Nat)=>D.int (1+(k:Int))) [some (.lst c),none] h:=
  fFor_ok (rng1n (n:=cs.length) (fAll2 (fC_ok _ _ _) len) (by omega))
 rcases lp with⟨e',h',q,⟨z,he⟩,hh,pr⟩ | ⟨e',h',q,hh,nr⟩
 ·left
  subst hh
  rw [Nat.zero_add,List.length_map,List.length_range] at pr
  refine⟨fun k a b ea eb=>pr k a b ?_ ea eb,fnRunX_nx (go.trans q)⟩
  have:=(List.getElem?_eq_some_iff.mp eb).1
  omega
 ·right
  subst hh
  exact⟨nr,fnRunX_ex (go.trans q)⟩
noncomputable abbrev PK (xW xR:Addr):OX:=fnRunX 2 (t_packed (fnRunX 1 (t_check_width xW)) (fnRunX 2 (t_check_rising xR)) (fnRun 3 (t_fewest_levels (fnRun 4 t_room_on))) (relF (R_pack 4)))
inductive PkO (xW xR:Addr) (w:Int) (cs:List Card) (h:Hh):Res D->Prop where
 | wid (hw:w < 2):PkO xW xR w cs h (.ex (.ref xW) h)
 | ris (hw:2<=w) (hr:¬ Ris cs):PkO xW xR w cs h (.ex (.ref xR) h)
 | ok {n L:Nat} (hw:w=n) (h2:2<=n) (hr:Ris cs) (L1:1<=L) (L4:L<=4) (hi:cs.length < (n+1) ^ L) (lo:L=1\/(n+1) ^ (L - 1)<=cs.length):PkO xW xR w cs h (.ok (packT n (L - 1) cs).d h)
theorem run_pk {xW xR:Addr}{w:Int}{c:Nat}{cs:List Card}{h:Hh} (ec:h[c]?=some (.lst (cs.map cardD))) (hl:cs.length<=61) (hw:w<=71):PkO xW xR w cs h (PK xW xR [.int w,.lst c] h):=by
 show PkO xW xR w cs h (fnOutX (fSeq (fDrop (fcX (fnRunX 1 (t_check_width xW)) (fAll [(fV 0)]))) (fSeq (fDrop (fcX (fnRunX 2 (t_check_rising xR)) (fAll [(fV 1)]))) (fRet (fc (relF (R_pack 4)) (fAll [(fV 0),(fc (fnRun 3 (t_fewest_levels (fnRun 4 t_room_on))) (fAll [(fV 0),(fc oLen (fAll [(fV 1)]))])),(fc oTuple (fAll [(fV 1)]))])))) [some (.int w),some (.lst c)] h))
 have s1:fcX (fnRunX 1 (t_check_width xW)) (fAll [(fV 0)]) [some (.int w),some (.lst c)] h=if w < 2 then .ex (.ref xW) h else .ok .non h:=by rw [fcX_ok (ds:=[.int w]) (h1:=h) rfl,run_cw]
 by_cases c1:w < 2
 ·rw [if_pos c1] at s1
  rw [fSeq_ex (fDrop_ex s1)]
  exact PkO.wid c1
 ·rw [if_neg c1] at s1
  rw [fSeq_nx (fDrop_ok s1)]
  rcases run_cr (xR:=xR) ec (by omega) with⟨hr,q⟩ | ⟨hr,q⟩
  ·have s2:fcX (fnRunX 2 (t_check_rising xR)) (fAll [(fV 1)]) [some (.int w),some (.lst c)] h=.ok .non h:=by rw [fcX_ok (ds:=[.lst c]) (h1:=h) rfl,q]
   rw [fSeq_nx (fDrop_ok s2)]
   obtain⟨n,rfl⟩:∃ n:Nat,w=n:=⟨w.toNat,by omega⟩
   obtain⟨L,q3,L1,L2,L3⟩:=run_few (w:=n) (n:=cs.length) (by omega) (by omega) (by omega) h
   have L4:L<=4:=by
    rcases L3 with z | z
    ·omega
    ·by_cases y:L<=4
     ·exact y
     ·exfalso
      have a1:(3:Nat) ^ 4<=3 ^ (L - 1):=Nat.pow_le_pow_right (by omega) (by omega)
      have a2:3 ^ (L - 1)<=(n+1) ^ (L - 1):=Nat.pow_le_pow_left (by omega) _
      have a3:(3:Nat) ^ 4=81:=by decide
      omega
   have hR:(n+1) ^ (L - 1) < 1073741824:=by
    have a1:(n+1) ^ (L - 1)<=72 ^ (L - 1):=Nat.pow_le_pow_left (by omega) _
    have a2:(72:Nat) ^ (L - 1)<=72 ^ 3:=Nat.pow_le_pow_right (by omega) (by omega)
    have a3:(72:Nat) ^ 3=373248:=by decide
    omega
   have len:fc oLen (fAll [(fV 1)]) [some (.int (n:Int)),some (.lst c)] h=.ok (.int (cs.length:Int)) h:=by
    rw [fc_ok (fAll1 (d:=.lst c) (h1:=h) rfl),oLen_lst ec,List.length_map]; rfl
   have fw:fc (fnRun 3 (t_fewest_levels (fnRun 4 t_room_on))) (fAll [(fV 0),(fc oLen (fAll [(fV 1)]))]) [some (.int (n:Int)),some (.lst c)] h=.ok (.int (L:Int)) h:=by
    rw [fc_ok (fAll2 (d:=.int (n:Int)) (h1:=h) rfl len),q3]; rfl
   have tp:fc oTuple (fAll [(fV 1)]) [some (.int (n:Int)),some (.lst c)] h=.ok (.tup (cs.map cardD)) h:=by
    rw [fc_ok (fAll1 (d:=.lst c) (h1:=h) rfl)]
    show Res.ofO ((seqOf (.lst c) h).map fun xs=>(D.tup xs,h))=_
    rw [show seqOf (.lst c) h=some (cs.map cardD) from itemsAt_of ec]
    rfl
   have pk:relF (R_pack 4) [.int (n:Int),.int (L:Int),.tup (cs.map cardD)] h=some ((packT n (L - 1) cs).d,h):=
    relF_eq (det_pack 4) ⟨n,L - 1,cs,by rw [show L - 1+1=L by omega],rfl,by omega,by omega,by omega,by omega,hR⟩ h
   rw [fRet_ok (d:=(packT n (L - 1) cs).d) (h1:=h) (by rw [fc_ok (fAll_cons (d:=.int (n:Int)) (h1:=h) rfl (fAll2 fw tp)),pk]; rfl)]
   exact PkO.ok rfl (by omega) hr L1 L4 L2 L3
  ·have s2:fcX (fnRunX 2 (t_check_rising xR)) (fAll [(fV 1)]) [some (.int w),some (.lst c)] h=.ex (.ref xR) h:=by rw [fcX_ok (ds:=[.lst c]) (h1:=h) rfl,q]
   rw [fSeq_ex (fDrop_ex s2)]
   exact PkO.ris (by omega) hr
theorem oNe_cards9 {h:Hh}{a b:Nat}{cs:List Card} (ea:h[a]?=some (.lst (cs.map cardD))) (eb:h[b]?=some (.lst (cs.map cardD))):oNe (.lst a) (.lst b) h=some (.bl false,h):=by
 have:=oEq_cards ea eb
 unfold oEq at this
 unfold oNe
 cases q:eqD 24 h (.lst a) (.lst b) with
 | none=>rw [q] at this; cases this
 | some v=>
  rw [q] at this
  cases this
  rfl
noncomputable def cardB:FS:=(fSeq (fSet 5 (f2 oAdd (f2 oAdd (fV 5) (fC (.int 1))) (f2 oMod (fV 6) (fC (.int 3))))) (fSeq (fSet 7 (f2 oMod (f2 oDiv (fV 6) (fC (.int 3))) (fC (.int 4)))) (fDrop (fM oAppend (fV 4) [(fTup [(fc (fnRun 2 t__law_far) (fAll [(fV 5),(fV 1)])),(f2 oIx (fLst [(fC (.str "")),(fC (.str "a")),(fC (.str " {x}! ")),(fC (.str "No. 4 of c"))]) (fV 7))])]))))
noncomputable def spoilS:FS:=(fIfS (fB (fV 9)) (fSeq (fSet 7 (f2 oAdd (fC (.int 1)) (f2 oMod (f2 oDiv (fc (fnRun 2 t__law_at) (fAll [(fV 0),(fC (.int 1))])) (fC (.int 6))) (f2 oSub (fc oLen (fAll [(fV 4)])) (fC (.int 1)))))) (fSetIx (fTup [(f2 oSub (f2 oIx (f2 oIx (fV 4) (f2 oSub (fV 7) (fC (.int 1)))) (fC (.int 0))) (f2 oMod (f2 oDiv (fc (fnRun 2 t__law_at) (fAll [(fV 0),(fC (.int 1))])) (fC (.int 6))) (fC (.int 2)))),(fC (.str "d"))]) (fV 4) (fV 7))) fNext)
noncomputable def headS (rest:FS):FS:=
 (fSeq (fSet 0 (fSl (fV 0) fNoPart (fPart (fC (.int 500)))))
  (fSeq (fSet 1 (fc (fnRun 2 (t__law_reach_by (fnRun 2 t__law_at))) (fAll [(fV 0)])))
  (fSeq (fSet 2 (fc (fnRun 2 t__law_at) (fAll [(fV 0),(fC (.int 0))])))
  (fSeq (fSet 3 (f2 oIx (fLst [(f2 oSub (f2 oMod (fV 2) (fC (.int 13))) (fC (.int 1))),(f2 oAdd (fC (.int 12)) (f2 oMod (f2 oDiv (fV 2) (fC (.int 468))) (fC (.int 60))))]) (fc oInt (fAll [(f2 oEq (f2 oMod (f2 oDiv (fV 2) (fC (.int 52))) (fC (.int 9))) (fC (.int 1)))]))))
  (fSeq (fSet 4 (fLst []))
  (fSeq (fSet 5 (f1 oNeg (fC (.int 10))))
  (fSeq (fFor 6 (fiSeq (fSl (fV 0) (fPart (fC (.int 2))) fNoPart)) cardB)
  (fSeq (fSet 8 (fLst [(fc oLen (fAll [(fV 4)])),(fV 3),(f2 oAdd (f2 oMul (fV 3) (fV 3)) (f2 oMul (fC (.int 2)) (fV 3))),(fc oLen (fAll [(fV 4)]))]))
  (fSeq (fSet 4 (fSl (fV 4) fNoPart (fPart (fc oMax (fAll [(fC (.int 0)),(f2 oIx (fV 8) (f2 oMod (f2 oDiv (fc (fnRun 2 t__law_at) (fAll [(fV 0),(fC (.int 0))])) (fC (.int 13))) (fC (.int 4))))])))))
  (fSeq (fSet 9 (fAndV (f2 oEq (f2 oMod (fc (fnRun 2 t__law_at) (fAll [(fV 0),(fC (.int 1))])) (fC (.int 6))) (fC (.int 1))) (f2 oGt (fc oLen (fAll [(fV 4)])) (fC (.int 1)))))
  (fSeq spoilS
  (fSeq (fSet 10 (fc oList (fAll [(fV 4)])))
  rest))))))))))))
theorem run_wid {e:En}{h:Hh}{x:Int} (q:e[2]?=some (some (.int x))):∃ (wd:Int) (o:O),-1<=wd/\wd<=71/\(f2 oIx (fLst [(f2 oSub (f2 oMod (fV 2) (fC (.int 13))) (fC (.int 1))),(f2 oAdd (fC (.int 12)) (f2 oMod (f2 oDiv (fV 2) (fC (.int 468))) (fC (.int 60))))]) (fc oInt (fAll [(f2 oEq (f2 oMod (f2 oDiv (fV 2) (fC (.int 52))) (fC (.int 9))) (fC (.int 1)))]))) e h=.ok (.int wd) (h++[o]):=by
 have v2:∀ h',fV 2 e h'=.ok (.int x) h':=fun h'=>fV_ok q h'
 have a1:f2 oSub (f2 oMod (fV 2) (fC (.int 13))) (fC (.int 1)) e h=.ok (.int (x % 13 - 1)) h:=sub_ok (mod_ok (v2 h) (fC_ok _ _ _) (by decide)) (fC_ok _ _ _)
 have a2:f2 oAdd (fC (.int 12)) (f2 oMod (f2 oDiv (fV 2) (fC (.int 468))) (fC (.int 60))) e h=.ok (.int (12+x / 468 % 60)) h:=add_ok (fC_ok _ _ _) (mod_ok (div_ok (v2 h) (fC_ok _ _ _) (by decide)) (fC_ok _ _ _) (by decide))
 have i0:=Int.emod_nonneg x (show (13:Int)≠0 by decide)
 have i1:=Int.emod_lt_of_pos x (show (0:Int) < 13 by decide)
 have j0:=Int.emod_nonneg (x / 468) (show (60:Int)≠0 by decide)
 have j1:=Int.emod_lt_of_pos (x / 468) (show (0:Int) < 60 by decide)
 generalize x % 13=u at a1 i0 i1
 generalize x / 468 % 60=v at a2 j0 j1
 have l1:fLst [(f2 oSub (f2 oMod (fV 2) (fC (.int 13))) (fC (.int 1))),(f2 oAdd (fC (.int 12)) (f2 oMod (f2 oDiv (fV 2) (fC (.int 468))) (fC (.int 60))))] e h=.ok (.lst h.length) (h++[.lst [.int (u - 1),.int (12+v)]]):=by
  unfold fLst
  rw [fAll2 a1 a2]
  rfl
 have l2:∀ h',∃ b:Bool,fc oInt (fAll [(f2 oEq (f2 oMod (f2 oDiv (fV 2) (fC (.int 52))) (fC (.int 9))) (fC (.int 1)))]) e h'=.ok (.int (if b then 1 else 0)) h':=fun h'=>⟨(x / 52 % 9==1),by
  rw [fc_ok (fAll1 (d:=.bl (x / 52 % 9==1)) (h1:=h') (by rw [f2_ok (mod_ok (div_ok (v2 h') (fC_ok _ _ _) (by decide)) (fC_ok _ _ _) (by decide)) (fC_ok (.int 1) _ _),oEq_int]; rfl)),oInt_bl]
  rfl⟩
 obtain⟨b,q2⟩:=l2 (h++[.lst [.int (u - 1),.int (12+v)]])
 cases b with
 | false=>
  refine⟨u - 1,.lst [.int (u - 1),.int (12+v)],by omega,by omega,?_⟩
  rw [f2_ok l1 q2,oIx_lst (at_new _ _)]
  rfl
 | true=>
  refine⟨12+v,.lst [.int (u - 1),.int (12+v)],by omega,by omega,?_⟩
  rw [f2_ok l1 q2,oIx_lst (at_new _ _)]
  rfl
def CdP (h:Hh) (step seed wd:Int) (c s:Nat) (itz:List D) (k:Nat) (e:En) (h':Hh):Prop:=∃ (xs:List Card) (num:Int) (z6 z7:Option D),e=[some (.lst 0),some (.int step),some (.int seed),some (.int wd),some (.lst c),some (.int num),z6,z7,none,none,none,none,none,none,none]/\h'[c]?=some (.lst ((xs.map fun x=>(far x.1 step,x.2)).map cardD))/\h'[s]?=some (.lst itz)/\Grow h h'/\xs.length=k/\Srt xs/\∀ x∈xs,x.1<=num
theorem word4 (z:Int) (h0:0<=z) (h4:z < 4):∃ s:Str,atI [D.str "",.str "a",.str " {x}! ",.str "No. 4 of c"] z=some (.str s):=by
 have:z=0\/z=1\/z=2\/z=3:=by omega
 rcases this with rfl | rfl | rfl | rfl
 ·exact⟨_,rfl⟩
 ·exact⟨_,rfl⟩
 ·exact⟨_,rfl⟩
 ·exact⟨_,rfl⟩
theorem card_step {h h':Hh}{step seed wd x:Int}{c s k:Nat}{itz:List D}{e:En} (hc:h.length<=c) (hsc:s≠c) (hk:k<=1000) (p:CdP h step seed wd c s itz k e h'):∃ e2 h2,cardB (e.set 6 (some (.int x))) h'=.nx e2 h2/\CdP h step seed wd c s itz (k+1) e2 h2:=by
 obtain⟨xs,num,z6,z7,rfl,ec,es,G,hl,sr,le⟩:=p
 have r0:=Int.emod_nonneg x (show (3:Int)≠0 by decide)
 have m0:=Int.emod_nonneg (x / 3) (show (4:Int)≠0 by decide)
 have m1:=Int.emod_lt_of_pos (x / 3) (show (0:Int) < 4 by decide)
 obtain⟨s',hs'⟩:=word4 _ m0 m1
 refine⟨[some (.lst 0),some (.int step),some (.int seed),some (.int wd),some (.lst c),some (.int (num+1+x % 3)),some (.int x),some (.int (x / 3 % 4)),none,none,none,none,none,none,none],(h'++[O.lst [.str "",.str "a",.str " {x}! ",.str "No. 4 of c"]]).set c (.lst (((xs.map fun x:Card=>(far x.1 step,x.2)).map cardD)++[cardD (far (num+1+x % 3) step,s')])),?_,xs++[(num+1+x % 3,s')],num+1+x % 3,_,_,rfl,?_,?_,(G.app1 _).set hc _,by rw [List.length_append]; simp; omega,?_,?_⟩
 ·show cardB [some (.lst 0),some (.int step),some (.int seed),some (.int wd),some (.lst c),some (.int num),some (.int x),z7,none,none,none,none,none,none,none] h'=_
  unfold cardB
  rw [fSeq_nx (e1:=[some (.lst 0),some (.int step),some (.int seed),some (.int wd),some (.lst c),some (.int (num+1+x % 3)),some (.int x),z7,none,none,none,none,none,none,none]) (h1:=h') (fSet_ok (add_ok (add_ok (fV_ok rfl h') (fC_ok _ _ _)) (mod_ok (fV_ok rfl h') (fC_ok _ _ _) (by decide))))]
  rw [fSeq_nx (e1:=[some (.lst 0),some (.int step),some (.int seed),some (.int wd),some (.lst c),some (.int (num+1+x % 3)),some (.int x),some (.int (x / 3 % 4)),none,none,none,none,none,none,none]) (h1:=h') (fSet_ok (mod_ok (div_ok (fV_ok rfl h') (fC_ok _ _ _) (by decide)) (fC_ok _ _ _) (by decide)))]
  refine fApp_ok (e:=[some (.lst 0),some (.int step),some (.int seed),some (.int wd),some (.lst c),some (.int (num+1+x % 3)),some (.int x),some (.int (x / 3 % 4)),none,none,none,none,none,none,none]) (fV_ok (i:=4) rfl h') ec (h2:=h'++[.lst [.str "",.str "a",.str " {x}! ",.str "No. 4 of c"]]) ?_ ((Grow.app _ _).at' ec) (by rw [List.length_map,List.length_map]; omega)
  unfold fTup
  rw [fAll2 (d:=.int (far (num+1+x % 3) step)) (h1:=h') (by rw [fc_ok (ds:=[.int (num+1+x % 3),.int step]) (h1:=h') rfl,run_far]; rfl) (d2:=.str s') (h2:=h'++[.lst [.str "",.str "a",.str " {x}! ",.str "No. 4 of c"]]) (by
   rw [f2_ok (x:=.lst h'.length) (h1:=h'++[.lst [.str "",.str "a",.str " {x}! ",.str "No. 4 of c"]]) rfl (y:=.int (x / 3 % 4)) (h2:=h'++[.lst [.str "",.str "a",.str " {x}! ",.str "No. 4 of c"]]) rfl,oIx_lst (at_new _ _),hs']
   rfl)]
  rfl
 ·rw [at_set ((Grow.app _ _).at' ec),List.map_append,List.map_append]
  rfl
 ·exact at_set_ne ((Grow.app _ _).at' es) (Ne.symm hsc)
 ·rw [Srt,List.pairwise_append]
  refine⟨sr,List.pairwise_singleton _ _,fun a ha b hb=>?_⟩
  rw [List.mem_singleton] at hb
  subst hb
  have:=le a ha
  show a.1 < num+1+x % 3
  omega
 ·intro y hy
  rcases List.mem_append.mp hy with z | z
  ·have:=le y z
   omega
  ·rw [List.mem_singleton] at z
   subst z
   exact Int.le_refl _
theorem srt_far {step:Int} (h0:0<=step) {xs:List Card} (s:Srt xs):Srt (xs.map fun x=>(far x.1 step,x.2)):=by
 rw [Srt,List.pairwise_map]
 exact List.Pairwise.imp (fun h=>far_mono h0 h) s
theorem ris_of {cs:List Card} (s:Srt cs):Ris cs:=fun k a b ea eb=>by
 obtain⟨h1,e1⟩:=List.getElem?_eq_some_iff.mp ea
 obtain⟨h2,e2⟩:=List.getElem?_eq_some_iff.mp eb
 have:=List.pairwise_iff_getElem.mp s k (k+1) h1 h2 (by omega)
 rw [e1,e2] at this
 exact this
theorem srt_take {cs:List Card} (s:Srt cs) (n:Nat):Srt (cs.take n):=List.Pairwise.sublist (List.take_sublist _ _) s
structure HeadP (ns:List Int) (step seed wd:Int) (c hd m:Nat) (sp:Bool) (cs:List Card) (h:Hh):Prop where
 lo:-1<=wd
 hi:wd<=71
 few:cs.length<=61
 cards:h[c]?=some (.lst (cs.map cardD))
 handed:h[hd]?=some (.lst (cs.map cardD))
 ok:sp=false->Ris cs
 bad:sp=true->¬ Ris cs
theorem run_head (ns:List Int) (hl:ns.length<=63) (rest:FS):∃ (step seed wd:Int) (c hd m:Nat) (sp:Bool) (cs:List Card) (num:Int) (z6 z7:Option D) (h:Hh),HeadP ns step seed wd c hd m sp cs h/\
  headS rest [some (.ro ns),none,none,none,none,none,none,none,none,none,none,none,none,none,none] []=rest [some (.lst 0),some (.int step),some (.int seed),some (.int wd),some (.lst c),some (.int num),z6,z7,some (.lst m),some (.bl sp),some (.lst hd),none,none,none,none] h:=by
 have s1:fSl (fV 0) fNoPart (fPart (fC (.int 500))) [some (.ro ns),none,none,none,none,none,none,none,none,none,none,none,none,none,none] []=.ok (.lst 0) [.lst (ns.map D.int)]:=by
  have:=cut_head (ns.map D.int) 500
  rw [List.take_of_length_le (by rw [List.length_map]; omega)] at this
  simp [fSl,fV,fNoPart,fPart,fC,oSl]
  exact this
 have q0:([O.lst (ns.map D.int)]:Hh)[0]?=some (.lst (ns.map D.int)):=rfl
 generalize hh0:([O.lst (ns.map D.int)]:Hh)=h0 at s1 q0
 obtain⟨step,o1,hs,q1⟩:=run_reach q0
 have g1:Grow h0 (h0++[o1]):=.app _ _
 generalize h0++[o1]=h1 at q1 g1
 obtain⟨wd,o2,w1,w2,q2⟩:=run_wid (e:=[some (.lst 0),some (.int step),some (.int (ns.getD 0 0)),none,none,none,none,none,none,none,none,none,none,none,none]) (h:=h1) rfl
 have g2:Grow h0 (h1++[o2]):=g1.app1 _
 generalize h1++[o2]=h2 at q2 g2
 have g3:Grow h2 (h2++[O.lst []]++[.lst ((ns.map D.int).drop 2)]):=(Grow.app _ _).app1 _
 have l3:(h2++[O.lst []]).length=h2.length+1:=by simp
 have b1:(h2++[O.lst []]++[.lst ((ns.map D.int).drop 2)])[h2.length]?=some (.lst []):=(Grow.app _ _).at' (at_new _ _)
 have b2:(h2++[O.lst []]++[.lst ((ns.map D.int).drop 2)])[h2.length+1]?=some (.lst ((ns.map D.int).drop 2)):=by rw [<-l3]; exact at_new _ _
 have it:fiSeq (fSl (fV 0) (fPart (fC (.int 2))) fNoPart) [some (.lst 0),some (.int step),some (.int (ns.getD 0 0)),some (.int wd),some (.lst h2.length),some (.int (-10)),none,none,none,none,none,none,none,none,none] (h2++[O.lst []])=.ok ⟨(ns.map D.int).drop 2,fun h'=>h'[h2.length+1]?=some (.lst ((ns.map D.int).drop 2))⟩ (h2++[O.lst []]++[.lst ((ns.map D.int).drop 2)]):=by
  have e0:(h2++[O.lst []])[0]?=some (.lst (ns.map D.int)):=(Grow.app _ _).at' (g2.at' q0)
  have:fSl (fV 0) (fPart (fC (.int 2))) fNoPart [some (.lst 0),some (.int step),some (.int (ns.getD 0 0)),some (.int wd),some (.lst h2.length),some (.int (-10)),none,none,none,none,none,none,none,none,none] (h2++[O.lst []])=.ok (.lst (h2.length+1)) (h2++[O.lst []]++[.lst ((ns.map D.int).drop 2)]):=by
   unfold fSl fPart fNoPart
   rw [fV_ok (d:=.lst 0) rfl,Res.bind_ok,fC_ok]
   simp only [Res.bind_ok,partOf_int]
   rw [oSl_lst e0,show (2:Int)=((2:Nat):Int) from rfl,cut_tail,l3]
   rfl
  unfold fiSeq
  rw [this,Res.bind_ok]
  unfold itSeq
  simp only [b2]
 obtain⟨e4,h4,q4,xs,num,z6,z7,rfl,ec,es,G4,xl,sr,_⟩:=forG_run (chk:=fun h'=>h'[h2.length+1]?=some (.lst ((ns.map D.int).drop 2))) (i:=6) (t:=cardB)
  (P:=CdP h2 step (ns.getD 0 0) wd h2.length (h2.length+1) ((ns.map D.int).drop 2)) ((ns.map D.int).drop 2) [some (.lst 0),some (.int step),some (.int (ns.getD 0 0)),some (.int wd),some (.lst h2.length),some (.int (-10)),none,none,none,none,none,none,none,none,none] _
  ⟨[],-10,none,none,rfl,b1,b2,g3,rfl,List.Pairwise.nil,fun x hx=>absurd hx (List.not_mem_nil)⟩ (fun k e h' p=>by
   obtain⟨_,_,_,_,_,_,es,_⟩:=p
   exact es)
  (fun k d e h' hk p=>by
   rw [<-List.map_drop,List.getElem?_map] at hk
   obtain⟨x,hx,rfl⟩:=Option.map_eq_some_iff.mp hk
   have:=(List.getElem?_eq_some_iff.mp hx).1
   rw [List.length_drop] at this
   exact card_step (Nat.le_refl _) (by omega) (by omega) p)
 rw [List.length_drop,List.length_map] at xl
 have g04:=g2.trans G4
 have sc4:=g04.at' q0
 generalize hcs:(xs.map fun x=>(far x.1 step,x.2))=cs at ec
 have srt:Srt cs:=by rw [<-hcs]; exact srt_far hs sr
 have cl:cs.length<=61:=by rw [<-hcs,List.length_map]; omega
 have len4:∀ z8 (h':Hh),Grow h4 h'->fc oLen (fAll [(fV 4)]) [some (.lst 0),some (.int step),some (.int (ns.getD 0 0)),some (.int wd),some (.lst h2.length),some (.int num),z6,z7,z8,none,none,none,none,none,none] h'=.ok (.int (cs.length:Int)) h':=fun z8 h' g=>by
  rw [fc_ok (fAll1 (d:=.lst h2.length) (h1:=h') rfl),oLen_lst (g.at' ec),List.length_map]; rfl
 obtain⟨wq,q5⟩:∃ wq:Int,(fLst [(fc oLen (fAll [(fV 4)])),(fV 3),(f2 oAdd (f2 oMul (fV 3) (fV 3)) (f2 oMul (fC (.int 2)) (fV 3))),(fc oLen (fAll [(fV 4)]))]) [some (.lst 0),some (.int step),some (.int (ns.getD 0 0)),some (.int wd),some (.lst h2.length),some (.int num),z6,z7,none,none,none,none,none,none,none] h4=.ok (.lst h4.length) (h4++[.lst [.int (cs.length:Int),.int wd,.int wq,.int (cs.length:Int)]]):=by
  refine⟨wd*wd+2*wd,?_⟩
  unfold fLst
  have m1:f2 oMul (fV 3) (fV 3) [some (.lst 0),some (.int step),some (.int (ns.getD 0 0)),some (.int wd),some (.lst h2.length),some (.int num),z6,z7,none,none,none,none,none,none,none] h4=.ok (.int (wd*wd)) h4:=by
   rw [f2_ok (x:=.int wd) (h1:=h4) rfl (y:=.int wd) (h2:=h4) rfl,oMul_int _ (cMul_l (by omega) (by omega))]; rfl
  rw [fAll_cons (len4 none h4 (.refl _)) (fAll_cons (fV_ok (i:=3) (d:=.int wd) rfl h4) (fAll_cons (add_ok m1 (mul2_ok (fV_ok (i:=3) rfl h4))) (fAll1 (len4 none h4 (.refl _)))))]
  rfl
 have g5:=Grow.app h4 [O.lst [.int (cs.length:Int),.int wd,.int wq,.int (cs.length:Int)]]
 have a5:=at_new h4 (O.lst [.int (cs.length:Int),.int wd,.int wq,.int (cs.length:Int)])
 generalize h4++[O.lst [.int (cs.length:Int),.int wd,.int wq,.int (cs.length:Int)]]=h5 at q5 g5 a5
 obtain⟨n,q6⟩:∃ n:Nat,(fSl (fV 4) fNoPart (fPart (fc oMax (fAll [(fC (.int 0)),(f2 oIx (fV 8) (f2 oMod (f2 oDiv (fc (fnRun 2 t__law_at) (fAll [(fV 0),(fC (.int 0))])) (fC (.int 13))) (fC (.int 4))))])))) [some (.lst 0),some (.int step),some (.int (ns.getD 0 0)),some (.int wd),some (.lst h2.length),some (.int num),z6,z7,some (.lst h4.length),none,none,none,none,none,none] h5=.ok (.lst h5.length) (h5++[.lst ((cs.take n).map cardD)]):=by
  have i0:=Int.emod_nonneg (ns.getD 0 0 / 13) (show (4:Int)≠0 by decide)
  have i1:=Int.emod_lt_of_pos (ns.getD 0 0 / 13) (show (0:Int) < 4 by decide)
  have ix:f2 oMod (f2 oDiv (fc (fnRun 2 t__law_at) (fAll [(fV 0),(fC (.int 0))])) (fC (.int 13))) (fC (.int 4)) [some (.lst 0),some (.int step),some (.int (ns.getD 0 0)),some (.int wd),some (.lst h2.length),some (.int num),z6,z7,some (.lst h4.length),none,none,none,none,none,none] h5=.ok (.int (ns.getD 0 0 / 13 % 4)) h5:=mod_ok (div_ok (at_call (k:=0) rfl (g5.at' sc4) rfl) (fC_ok _ _ _) (by decide)) (fC_ok _ _ _) (by decide)
  generalize ns.getD 0 0 / 13 % 4=z at ix i0 i1
  obtain⟨v,hv⟩:∃ v:Int,atI [D.int (cs.length:Int),.int wd,.int wq,.int (cs.length:Int)] z=some (.int v):=by
   have:z=0\/z=1\/z=2\/z=3:=by omega
   rcases this with rfl | rfl | rfl | rfl
   ·exact⟨_,rfl⟩
   ·exact⟨_,rfl⟩
   ·exact⟨_,rfl⟩
   ·exact⟨_,rfl⟩
  refine⟨v.toNat,?_⟩
  have mx:fc oMax (fAll [(fC (.int 0)),(f2 oIx (fV 8) (f2 oMod (f2 oDiv (fc (fnRun 2 t__law_at) (fAll [(fV 0),(fC (.int 0))])) (fC (.int 13))) (fC (.int 4))))]) [some (.lst 0),some (.int step),some (.int (ns.getD 0 0)),some (.int wd),some (.lst h2.length),some (.int num),z6,z7,some (.lst h4.length),none,none,none,none,none,none] h5=.ok (.int (v.toNat:Int)) h5:=by
   rw [fc_ok (fAll2 (fC_ok (.int 0) _ _) (d2:=.int v) (h2:=h5) (by rw [f2_ok (x:=.lst h4.length) (h1:=h5) rfl ix,oIx_lst a5,hv]; rfl)),oMax_int]
   have:(if v > 0 then v else 0)=(v.toNat:Int):=by split<;>omega
   rw [this]
   rfl
  unfold fSl fNoPart fPart
  rw [fV_ok (d:=.lst h2.length) rfl,Res.bind_ok]
  simp only [Res.bind_ok]
  rw [mx]
  simp only [Res.bind_ok,partOf_int]
  rw [oSl_lst (g5.at' ec),cut_head,<-List.map_take]
  rfl
 have g6:=Grow.app h5 [O.lst ((cs.take n).map cardD)]
 have a6:=at_new h5 (O.lst ((cs.take n).map cardD))
 generalize h5++[O.lst ((cs.take n).map cardD)]=h6 at q6 g6 a6
 have sc6:=(g5.trans g6).at' sc4
 have srt6:=srt_take srt n
 have cl6:(cs.take n).length<=61:=by rw [List.length_take]; omega
 generalize cs.take n=ds at a6 srt6 cl6
 have len6:∀ (e:En),e[4]?=some (some (.lst h5.length))->fc oLen (fAll [(fV 4)]) e h6=.ok (.int (ds.length:Int)) h6:=fun e e4=>by
  rw [fc_ok (fAll1 (fV_ok e4 h6)),oLen_lst a6,List.length_map]; rfl
 have q7:(fAndV (f2 oEq (f2 oMod (fc (fnRun 2 t__law_at) (fAll [(fV 0),(fC (.int 1))])) (fC (.int 6))) (fC (.int 1))) (f2 oGt (fc oLen (fAll [(fV 4)])) (fC (.int 1)))) [some (.lst 0),some (.int step),some (.int (ns.getD 0 0)),some (.int wd),some (.lst h5.length),some (.int num),z6,z7,some (.lst h4.length),none,none,none,none,none,none] h6=.ok (.bl ((ns.getD 1 0 % 6==1)&&decide (1 < (ds.length:Int)))) h6:=by
  have a:f2 oEq (f2 oMod (fc (fnRun 2 t__law_at) (fAll [(fV 0),(fC (.int 1))])) (fC (.int 6))) (fC (.int 1)) [some (.lst 0),some (.int step),some (.int (ns.getD 0 0)),some (.int wd),some (.lst h5.length),some (.int num),z6,z7,some (.lst h4.length),none,none,none,none,none,none] h6=.ok (.bl (ns.getD 1 0 % 6==1)) h6:=by
   rw [f2_ok (mod_ok (at_call (k:=1) rfl sc6 rfl) (fC_ok (.int 6) _ _) (by decide)) (fC_ok (.int 1) _ _),oEq_int]; rfl
  have b:f2 oGt (fc oLen (fAll [(fV 4)])) (fC (.int 1)) [some (.lst 0),some (.int step),some (.int (ns.getD 0 0)),some (.int wd),some (.lst h5.length),some (.int num),z6,z7,some (.lst h4.length),none,none,none,none,none,none] h6=.ok (.bl (decide (1 < (ds.length:Int)))) h6:=by
   rw [f2_ok (len6 _ rfl) (fC_ok (.int 1) _ _),oGt_int]; rfl
  unfold fAndV
  rw [a,Res.bind_ok]
  cases (ns.getD 1 0 % 6==1) with
  | false=>rfl
  | true=>exact b
 generalize hsp:((ns.getD 1 0 % 6==1)&&decide (1 < (ds.length:Int)))=sp at q7
 obtain⟨ds',z7',h7,q8,a7,dl,d1,d2⟩:∃ (ds':List Card) (z7':Option D) (h7:Hh),spoilS [some (.lst 0),some (.int step),some (.int (ns.getD 0 0)),some (.int wd),some (.lst h5.length),some (.int num),z6,z7,some (.lst h4.length),some (.bl sp),none,none,none,none,none] h6=.nx [some (.lst 0),some (.int step),some (.int (ns.getD 0 0)),some (.int wd),some (.lst h5.length),some (.int num),z6,z7',some (.lst h4.length),some (.bl sp),none,none,none,none,none] h7/\h7[h5.length]?=some (.lst (ds'.map cardD))/\ds'.length<=61/\(sp=false->Ris ds')/\(sp=true->¬ Ris ds'):=by
  cases sp with
  | false=>exact⟨ds,z7,h6,rfl,a6,cl6,fun _=>ris_of srt6,fun z=>nomatch z⟩
  | true=>
   rw [Bool.and_eq_true,decide_eq_true_eq] at hsp
   have hlen:=hsp.2
   have k0:=Int.emod_nonneg (ns.getD 1 0 / 6) (show ((ds.length:Int) - 1)≠0 by omega)
   have k1:=Int.emod_lt_of_pos (ns.getD 1 0 / 6) (show (0:Int) < (ds.length:Int) - 1 by omega)
   have d0:=Int.emod_nonneg (ns.getD 1 0 / 6) (show (2:Int)≠0 by decide)
   have sq:(f2 oAdd (fC (.int 1)) (f2 oMod (f2 oDiv (fc (fnRun 2 t__law_at) (fAll [(fV 0),(fC (.int 1))])) (fC (.int 6))) (f2 oSub (fc oLen (fAll [(fV 4)])) (fC (.int 1))))) [some (.lst 0),some (.int step),some (.int (ns.getD 0 0)),some (.int wd),some (.lst h5.length),some (.int num),z6,z7,some (.lst h4.length),some (.bl true),none,none,none,none,none] h6=.ok (.int (1+ns.getD 1 0 / 6 % ((ds.length:Int) - 1))) h6:=
    add_ok (fC_ok _ _ _) (mod_ok (div_ok (at_call (k:=1) rfl sc6 rfl) (fC_ok (.int 6) _ _) (by decide)) (sub_ok (len6 _ rfl) (fC_ok (.int 1) _ _)) (by omega))
   obtain⟨k,hk⟩:∃ k:Nat,ns.getD 1 0 / 6 % ((ds.length:Int) - 1)=(k:Int):=⟨(ns.getD 1 0 / 6 % ((ds.length:Int) - 1)).toNat,by omega⟩
   rw [hk] at sq k1
   have hk1:k+1 < ds.length:=by omega
   obtain⟨a,ea⟩:∃ a,ds[k]?=some a:=⟨_,List.getElem?_eq_getElem (by omega)⟩
   refine⟨ds.set (k+1) (a.1 - ns.getD 1 0 / 6 % 2,"d"),some (.int (1+(k:Int))),h6.set h5.length (.lst ((ds.map cardD).set (k+1) (cardD (a.1 - ns.getD 1 0 / 6 % 2,"d")))),?_,?_,by rw [List.length_set]; exact cl6,fun z=>(nomatch z),fun _ r=>?_⟩
   ·unfold spoilS
    rw [fIfS_t (h1:=h6) rfl]
    rw [fSeq_nx (e1:=[some (.lst 0),some (.int step),some (.int (ns.getD 0 0)),some (.int wd),some (.lst h5.length),some (.int num),z6,some (.int (1+(k:Int))),some (.lst h4.length),some (.bl true),none,none,none,none,none]) (h1:=h6) (fSet_ok sq)]
    unfold fSetIx
    have nw:(fTup [(f2 oSub (f2 oIx (f2 oIx (fV 4) (f2 oSub (fV 7) (fC (.int 1)))) (fC (.int 0))) (f2 oMod (f2 oDiv (fc (fnRun 2 t__law_at) (fAll [(fV 0),(fC (.int 1))])) (fC (.int 6))) (fC (.int 2)))),(fC (.str "d"))]) [some (.lst 0),some (.int step),some (.int (ns.getD 0 0)),some (.int wd),some (.lst h5.length),some (.int num),z6,some (.int (1+(k:Int))),some (.lst h4.length),some (.bl true),none,none,none,none,none] h6=.ok (cardD (a.1 - ns.getD 1 0 / 6 % 2,"d")) h6:=by
     unfold fTup
     rw [fAll2 (sub_ok (x:=a.1) (by
      rw [f2_ok (x:=cardD a) (h1:=h6) (by
       rw [f2_ok (x:=.lst h5.length) (h1:=h6) rfl (y:=.int (k:Int)) (h2:=h6) (by rw [sub_ok (x:=1+(k:Int)) (y:=1) (fV_ok rfl h6) rfl,show 1+(k:Int) - 1=(k:Int) by omega]),oIx_lst a6,atI_nat',List.getElem?_map,ea]
       rfl) (fC_ok (.int 0) _ _)]
      rfl) (mod_ok (div_ok (at_call (k:=1) rfl sc6 rfl) (fC_ok (.int 6) _ _) (by decide)) (fC_ok (.int 2) _ _) (by decide))) (fC_ok (.str "d") _ _)]
     rfl
    rw [nw,Res.out_ok,fV_ok (i:=4) (d:=.lst h5.length) rfl,Res.out_ok,fV_ok (i:=7) (d:=.int (1+(k:Int))) rfl,Res.out_ok,setIx_lst (j:=k+1) _ a6 (by
     unfold ixN
     rw [List.length_map,if_pos (by omega),if_pos (by omega)]
     congr 1
     omega)]
    rfl
   ·rw [at_set a6,List.map_set]
   ·have:=r k a (a.1 - ns.getD 1 0 / 6 % 2,"d") (by rw [List.getElem?_set_ne (by omega)]; exact ea) (by rw [List.getElem?_set_self hk1])
    have:a.1 < a.1 - ns.getD 1 0 / 6 % 2:=this
    omega
 refine⟨step,ns.getD 0 0,wd,h5.length,h7.length,h4.length,sp,ds',num,z6,z7',h7++[.lst (ds'.map cardD)],⟨w1,w2,dl,(Grow.app _ _).at' a7,at_new _ _,d1,d2⟩,?_⟩
 unfold headS
 rw [fSeq_nx (e1:=[some (.lst 0),none,none,none,none,none,none,none,none,none,none,none,none,none,none]) (h1:=h0) (fSet_ok s1)]
 rw [fSeq_nx (e1:=[some (.lst 0),some (.int step),none,none,none,none,none,none,none,none,none,none,none,none,none]) (h1:=h1) (fSet_ok (by rw [fc_ok (fAll1 (d:=.lst 0) (h1:=h0) rfl),q1]; rfl))]
 rw [fSeq_nx (e1:=[some (.lst 0),some (.int step),some (.int (ns.getD 0 0)),none,none,none,none,none,none,none,none,none,none,none,none]) (h1:=h1) (fSet_ok (at_call (k:=0) rfl (g1.at' q0) rfl))]
 rw [fSeq_nx (e1:=[some (.lst 0),some (.int step),some (.int (ns.getD 0 0)),some (.int wd),none,none,none,none,none,none,none,none,none,none,none]) (h1:=h2) (fSet_ok q2)]
 rw [fSeq_nx (e1:=[some (.lst 0),some (.int step),some (.int (ns.getD 0 0)),some (.int wd),some (.lst h2.length),none,none,none,none,none,none,none,none,none,none]) (h1:=h2++[.lst []]) (fSet_ok (d:=.lst h2.length) rfl)]
 rw [fSeq_nx (e1:=[some (.lst 0),some (.int step),some (.int (ns.getD 0 0)),some (.int wd),some (.lst h2.length),some (.int (-10)),none,none,none,none,none,none,none,none,none]) (h1:=h2++[.lst []]) (fSet_ok rfl)]
 rw [fSeq_nx ((fFor_ok it).trans q4)]
 rw [fSeq_nx (e1:=[some (.lst 0),some (.int step),some (.int (ns.getD 0 0)),some (.int wd),some (.lst h2.length),some (.int num),z6,z7,some (.lst h4.length),none,none,none,none,none,none]) (h1:=h5) (fSet_ok q5)]
 rw [fSeq_nx (e1:=[some (.lst 0),some (.int step),some (.int (ns.getD 0 0)),some (.int wd),some (.lst h5.length),some (.int num),z6,z7,some (.lst h4.length),none,none,none,none,none,none]) (h1:=h6) (fSet_ok q6)]
 rw [fSeq_nx (e1:=[some (.lst 0),some (.int step),some (.int (ns.getD 0 0)),some (.int wd),some (.lst h5.length),some (.int num),z6,z7,some (.lst h4.length),some (.bl sp),none,none,none,none,none]) (h1:=h6) (fSet_ok q7)]
 rw [fSeq_nx q8]
 rw [fSeq_nx (e1:=[some (.lst 0),some (.int step),some (.int (ns.getD 0 0)),some (.int wd),some (.lst h5.length),some (.int num),z6,z7',some (.lst h4.length),some (.bl sp),some (.lst h7.length),none,none,none,none]) (h1:=h7++[.lst (ds'.map cardD)]) (fSet_ok (by
  rw [fc_ok (fAll1 (d:=.lst h5.length) (h1:=h7) rfl)]
  show Res.ofO ((seqOf (.lst h5.length) h7).map fun xs=>(D.lst h7.length,h7++[.lst xs]))=_
  rw [show seqOf (.lst h5.length) h7=some (ds'.map cardD) from itemsAt_of a7]
  rfl))]
noncomputable def restB (xW xD xR xN:Addr):FS:=
 (fSeq (fSet 11 (fC (.str "")))
  (fSeq (fSet 12 (fC .non))
  (fSeq (fTry (fSet 12 (fcX (PK xW xR) (fAll [(fV 3),(fV 10)]))) (mOf [(xW,noEx (fSet 11 (fC (.str "width")))),(xR,noEx (fSet 11 (fC (.str "rising"))))]))
  (fSeq (fIfS (fOr (fNot (fB (fc (fnRun 4 (t__law_same (fnRun 1 t__law_whole))) (fAll [(fV 10),(fV 4)])))) (fB (f2 oNe (fc (fnRun 4 (t__law_refuses xW xD xR xN (PK xW xR))) (fAll [(fV 3),(fV 10)])) (f2 oNe (fV 11) (fC (.str "")))))) (fRet (fC (.bl false))) fNext)
  (fSeq (fIfS (fB (f2 oLt (fV 3) (fC (.int 2)))) (fRet (f2 oEq (fV 11) (fC (.str "width")))) fNext)
  (fSeq (fIfS (fOr (fB (f2 oNe (fV 11) (fC (.str "")))) (fB (fV 9))) (fRet (fAndV (f2 oEq (fV 11) (fC (.str "rising"))) (fV 9))) fNext)
  (fSeq (fSet 13 (fc (fnRun 9 (t__law_walk (fnRun 2 (t__law_is_drawer (fnRun 1 t__law_whole))) (fnRun 11 (t__law_opened (fnRun 2 (t__law_is_drawer (fnRun 1 t__law_whole))))))) (fAll [(fV 12),(fC (.int 0)),(f2 oDiv (fV 3) (fC (.int 2))),(fV 3)])))
  (fSeq (fIfS (fOr (fB (f2 oIsN (fV 13) (fC .non))) (fOr (fB (f2 oEq (fc oLen (fAll [(f2 oIx (fV 12) (fC (.int 1)))])) (fC (.int 1)))) (fB (f2 oNe (f2 oIx (fV 13) (fC (.int 1))) (fV 4))))) (fRet (fC (.bl false))) fNext)
  (fSeq (fSet 14 (fOrV (f2 oEq (f2 oIx (fV 13) (fC (.int 0))) (fC (.int 1))) (f2 oLe (fc (fnRun 4 t__law_room_for) (fAll [(fV 3),(f2 oSub (f2 oIx (fV 13) (fC (.int 0))) (fC (.int 1)))])) (fc oLen (fAll [(fV 4)])))))
  (fSeq (fIfS (fOr (fNot (fB (fV 14))) (fNot (fB (fc (fnRun 7 (t__law_even (fnRun 4 t__law_room_for))) (fAll [(fV 12),(fV 3),(f2 oIx (fV 13) (fC (.int 0)))]))))) (fRet (fC (.bl false))) fNext)
  (fRet (f2 oGt (fc (fnRun 4 t__law_room_for) (fAll [(fV 3),(f2 oIx (fV 13) (fC (.int 0)))])) (fc oLen (fAll [(fV 4)]))))))))))))))
theorem law_eq (xW xD xR xN:Addr):t_law xW xR (fnRun 2 (t__law_reach_by (fnRun 2 t__law_at))) (fnRun 2 t__law_at) (fnRun 2 t__law_far) (PK xW xR) (fnRun 4 (t__law_same (fnRun 1 t__law_whole))) (fnRun 4 (t__law_refuses xW xD xR xN (PK xW xR))) (fnRun 9 (t__law_walk (fnRun 2 (t__law_is_drawer (fnRun 1 t__law_whole))) (fnRun 11 (t__law_opened (fnRun 2 (t__law_is_drawer (fnRun 1 t__law_whole))))))) (fnRun 4 t__law_room_for) (fnRun 7 (t__law_even (fnRun 4 t__law_room_for)))=headS (restB xW xD xR xN):=rfl
theorem run_ref {xW xD xR xN:Addr}{w:Int}{c:Nat}{h:Hh}{cs:List Card}{r:Res D} (o:PkO xW xR w cs h r) (q:PK xW xR [.int w,.lst c] h=r):
  ∃ b:Bool,fnRun 4 (t__law_refuses xW xD xR xN (PK xW xR)) [.int w,.lst c] h=some (.bl b,h)/\(b=true↔(w < 2\/¬ Ris cs)):=by
 have qc:fcX (PK xW xR) (fAll [(fV 0),(fV 1)]) (startE 4 [.int w,.lst c]) h=r:=by rw [fcX_ok (ds:=[.int w,.lst c]) (h1:=h) rfl,q]
 unfold t__law_refuses
 cases o with
 | wid hw=>
  refine⟨true,fnRun_rt (fSeq_rt ?_),by simp [hw]⟩
  rw [fTry_ex (fDrop_ex qc) (mOf_hit _ _ _)]
  rfl
 | ris hw hr=>
  refine⟨true,fnRun_rt (fSeq_rt ?_),by simp [hr]⟩
  by_cases z:xR=xW
  ·subst z
   rw [fTry_ex (fDrop_ex qc) (mOf_hit _ _ _)]
   rfl
  ·rw [fTry_ex (fDrop_ex qc) ((mOf_miss _ _ z).trans (mOf_hit _ _ _))]
   rfl
 | ok hw h2 hr L1 L4 hi lo=>
  refine⟨false,fnRun_rt ?_,?_⟩
  ·rw [fSeq_nx (e1:=startE 4 [.int w,.lst c]) (h1:=h) (fTry_nx (fDrop_ok qc))]
   rfl
  ·constructor
   ·exact fun z=>nomatch z
   ·rintro (z | z)
    ·omega
    ·exact absurd hr z
theorem law_rest {xW xD xR xN:Addr} (hne:xR≠xW) {ns:List Int}{step seed wd num:Int}{c hd m:Nat}{sp:Bool}{cs:List Card}{z6 z7:Option D}{h:Hh} (H:HeadP ns step seed wd c hd m sp cs h):
  ∃ h',restB xW xD xR xN [some (.lst 0),some (.int step),some (.int seed),some (.int wd),some (.lst c),some (.int num),z6,z7,some (.lst m),some (.bl sp),some (.lst hd),none,none,none,none] h=.rt (.bl true) h':=by
 have same:=run_same (a:=hd) (b:=c) H.handed H.cards (fun d hd=>by obtain⟨k,_,rfl⟩:=List.mem_map.mp hd; exact deed_card k) (by rw [List.length_map]; have:=H.few; omega)
 have o:=run_pk (xW:=xW) (xR:=xR) (w:=wd) H.handed H.few H.hi
 generalize hpk:PK xW xR [.int wd,.lst hd] h=r at o
 obtain⟨b,rf,hb⟩:=run_ref (xD:=xD) (xN:=xN) o hpk
 have nsame:∀ z11 z12,fNot (fB (fc (fnRun 4 (t__law_same (fnRun 1 t__law_whole))) (fAll [(fV 10),(fV 4)]))) [some (.lst 0),some (.int step),some (.int seed),some (.int wd),some (.lst c),some (.int num),z6,z7,some (.lst m),some (.bl sp),some (.lst hd),z11,z12,none,none] h=.ok false h:=fun _ _=>notB (b:=true) (fB_ok (by rw [fc_ok (ds:=[.lst hd,.lst c]) (h1:=h) rfl,same]; rfl))
 have rfq:∀ z11 z12,fc (fnRun 4 (t__law_refuses xW xD xR xN (PK xW xR))) (fAll [(fV 3),(fV 10)]) [some (.lst 0),some (.int step),some (.int seed),some (.int wd),some (.lst c),some (.int num),z6,z7,some (.lst m),some (.bl sp),some (.lst hd),z11,z12,none,none] h=.ok (.bl b) h:=fun _ _=>by rw [fc_ok (ds:=[.int wd,.lst hd]) (h1:=h) rfl,rf]; rfl
 have qc:fcX (PK xW xR) (fAll [(fV 3),(fV 10)]) [some (.lst 0),some (.int step),some (.int seed),some (.int wd),some (.lst c),some (.int num),z6,z7,some (.lst m),some (.bl sp),some (.lst hd),some (.str ""),some (.non),none,none] h=r:=by rw [fcX_ok (ds:=[.int wd,.lst hd]) (h1:=h) rfl,hpk]
 unfold restB
 rw [fSeq_nx (e1:=[some (.lst 0),some (.int step),some (.int seed),some (.int wd),some (.lst c),some (.int num),z6,z7,some (.lst m),some (.bl sp),some (.lst hd),some (.str ""),none,none,none]) (h1:=h) (fSet_ok rfl)]
 rw [fSeq_nx (e1:=[some (.lst 0),some (.int step),some (.int seed),some (.int wd),some (.lst c),some (.int num),z6,z7,some (.lst m),some (.bl sp),some (.lst hd),some (.str ""),some (.non),none,none]) (h1:=h) (fSet_ok rfl)]
 have lt2:∀ z11 z12,fB (f2 oLt (fV 3) (fC (.int 2))) [some (.lst 0),some (.int step),some (.int seed),some (.int wd),some (.lst c),some (.int num),z6,z7,some (.lst m),some (.bl sp),some (.lst hd),z11,z12,none,none] h=.ok (decide (wd < 2)) h:=fun _ _=>fB_ok (by rw [f2_ok (x:=.int wd) (h1:=h) rfl (y:=.int 2) (h2:=h) rfl]; rfl)
 cases o with
 | wid hw=>
  have hbt:b=true:=hb.mpr (.inl hw)
  subst hbt
  have qt:(fTry (fSet 12 (fcX (PK xW xR) (fAll [(fV 3),(fV 10)]))) (mOf [(xW,noEx (fSet 11 (fC (.str "width")))),(xR,noEx (fSet 11 (fC (.str "rising"))))])) [some (.lst 0),some (.int step),some (.int seed),some (.int wd),some (.lst c),some (.int num),z6,z7,some (.lst m),some (.bl sp),some (.lst hd),some (.str ""),some (.non),none,none] h=.nx [some (.lst 0),some (.int step),some (.int seed),some (.int wd),some (.lst c),some (.int num),z6,z7,some (.lst m),some (.bl sp),some (.lst hd),some (.str "width"),some (.non),none,none] h:=by
   rw [fTry_ex (fSet_ex qc) (mOf_hit _ _ _)]
   rfl
  rw [fSeq_nx qt]
  rw [fSeq_nx (e1:=[some (.lst 0),some (.int step),some (.int seed),some (.int wd),some (.lst c),some (.int num),z6,z7,some (.lst m),some (.bl sp),some (.lst hd),some (.str "width"),some (.non),none,none]) (h1:=h) (by
   rw [fIfS_f (h1:=h) (orF (nsame _ _) (fB_ok (b:=false) (by
    rw [f2_ok (rfq _ _) (y:=.bl true) (h2:=h) rfl]
    rfl)))]
   rfl)]
  refine⟨h,fSeq_rt ?_⟩
  rw [fIfS_t (by rw [lt2,decide_eq_true hw])]
  rfl
 | ris hw hr=>
  have hbt:b=true:=hb.mpr (.inr hr)
  subst hbt
  have hsp:sp=true:=by
   cases sp with
   | true=>rfl
   | false=>exact absurd (H.ok rfl) hr
  subst hsp
  have qt:(fTry (fSet 12 (fcX (PK xW xR) (fAll [(fV 3),(fV 10)]))) (mOf [(xW,noEx (fSet 11 (fC (.str "width")))),(xR,noEx (fSet 11 (fC (.str "rising"))))])) [some (.lst 0),some (.int step),some (.int seed),some (.int wd),some (.lst c),some (.int num),z6,z7,some (.lst m),some (.bl true),some (.lst hd),some (.str ""),some (.non),none,none] h=.nx [some (.lst 0),some (.int step),some (.int seed),some (.int wd),some (.lst c),some (.int num),z6,z7,some (.lst m),some (.bl true),some (.lst hd),some (.str "rising"),some (.non),none,none] h:=by
   rw [fTry_ex (fSet_ex qc) ((mOf_miss _ _ hne).trans (mOf_hit _ _ _))]
   rfl
  rw [fSeq_nx qt]
  rw [fSeq_nx (e1:=[some (.lst 0),some (.int step),some (.int seed),some (.int wd),some (.lst c),some (.int num),z6,z7,some (.lst m),some (.bl true),some (.lst hd),some (.str "rising"),some (.non),none,none]) (h1:=h) (by
   rw [fIfS_f (h1:=h) (orF (nsame _ _) (fB_ok (b:=false) (by
    rw [f2_ok (rfq _ _) (y:=.bl true) (h2:=h) rfl]
    rfl)))]
   rfl)]
  rw [fSeq_nx (e1:=[some (.lst 0),some (.int step),some (.int seed),some (.int wd),some (.lst c),some (.int num),z6,z7,some (.lst m),some (.bl true),some (.lst hd),some (.str "rising"),some (.non),none,none]) (h1:=h) (by rw [fIfS_f (by rw [lt2,decide_eq_false (by omega)])]; rfl)]
  refine⟨h,fSeq_rt ?_⟩
  rw [fIfS_t (h1:=h) (orT (h1:=h) rfl)]
  rfl
 | @ok n L hw h2 hr L1 L4 hi lo=>
  subst hw
  have hbt:b=false:=by
   cases b with
   | false=>rfl
   | true=>
    rcases hb.mp rfl with z | z
    ·omega
    ·exact absurd hr z
  subst hbt
  have hsp:sp=false:=by
   cases sp with
   | false=>rfl
   | true=>exact absurd hr (H.bad rfl)
  subst hsp
  have few:=H.few
  have n71:=H.hi
  have hR0:(n+1) ^ L=(n+1) ^ (L - 1+1):=by rw [show L - 1+1=L by omega]
  obtain⟨own,o1,o2⟩:∃ own,own*(n+1) ^ (L - 1)<=cs.length/\(L - 1=0\/1<=own):=by
   rcases lo with z | z
   ·exact⟨0,by omega,.inl (by omega)⟩
   ·exact⟨1,by omega,.inr (by omega)⟩
  have hR9:(n+1) ^ (L - 1) < 1073741824:=by
   have a1:(n+1) ^ (L - 1)<=72 ^ (L - 1):=Nat.pow_le_pow_left (by omega) _
   have a2:(72:Nat) ^ (L - 1)<=72 ^ 3:=Nat.pow_le_pow_right (by omega) (by omega)
   have a3:(72:Nat) ^ 3=373248:=by decide
   omega
  have half1:1<=n / 2:=by omega
  obtain⟨v,fl⟩:=pack_ok (w:=n) rfl half1 (L - 1) own cs (by rw [<-hR0]; exact hi) o1 o2
  have ev:=pack_ev (w:=n) rfl half1 (L - 1) own cs (by rw [<-hR0]; exact hi) o1 o2 (by omega) hR9 (by omega)
  rw [show L - 1+1=L by omega] at v ev
  generalize packT n (L - 1) cs=t at v fl ev qc
  rw [fSeq_nx (e1:=[some (.lst 0),some (.int step),some (.int seed),some (.int (n:Int)),some (.lst c),some (.int num),z6,z7,some (.lst m),some (.bl false),some (.lst hd),some (.str ""),some (t.d),none,none]) (h1:=h) (fTry_nx (fSet_ok qc))]
  rw [fSeq_nx (e1:=[some (.lst 0),some (.int step),some (.int seed),some (.int (n:Int)),some (.lst c),some (.int num),z6,z7,some (.lst m),some (.bl false),some (.lst hd),some (.str ""),some (t.d),none,none]) (h1:=h) (by
   rw [fIfS_f (h1:=h) (orF (nsame _ _) (fB_ok (b:=false) (by
    rw [f2_ok (rfq _ _) (y:=.bl false) (h2:=h) rfl]
    rfl)))]
   rfl)]
  rw [fSeq_nx (e1:=[some (.lst 0),some (.int step),some (.int seed),some (.int (n:Int)),some (.lst c),some (.int num),z6,z7,some (.lst m),some (.bl false),some (.lst hd),some (.str ""),some (t.d),none,none]) (h1:=h) (by rw [fIfS_f (by rw [lt2,decide_eq_false (by omega)])]; rfl)]
  rw [fSeq_nx (e1:=[some (.lst 0),some (.int step),some (.int seed),some (.int (n:Int)),some (.lst c),some (.int num),z6,z7,some (.lst m),some (.bl false),some (.lst hd),some (.str ""),some (t.d),none,none]) (h1:=h) (by rw [fIfS_f (h1:=h) (orF (h1:=h) rfl rfl)]; rfl)]
  obtain⟨cw,h6,q6,g6,a6⟩:=run_walkG (h:=h) (w:=n) (half:=n / 2) (own:=0) (L:=L) (top:=t) (by omega) (by rw [fl]; omega) L1 (by omega) (T.V_mono (Nat.zero_le _) v)
  rw [fl] at a6
  rw [fSeq_nx (e1:=[some (.lst 0),some (.int step),some (.int seed),some (.int (n:Int)),some (.lst c),some (.int num),z6,z7,some (.lst m),some (.bl false),some (.lst hd),some (.str ""),some (t.d),some (.tup [.int (L:Int),.lst cw]),none]) (h1:=h6) (fSet_ok (by
   rw [fc_ok (ds:=[t.d,.int ((0:Nat):Int),.int ((n / 2:Nat):Int),.int (n:Int)]) (h1:=h) (fAll_cons (fV_ok rfl h) (fAll_cons rfl (fAll2 (by rw [div_ok (x:=(n:Int)) (y:=2) (fV_ok rfl h) rfl (by decide)]; rfl) rfl))),q6]
   rfl))]
  have nb:t.bs.length≠1:=by
   by_cases z:L=1
   ·subst z
    rw [v.leaf]
    simp
   ·obtain⟨l,rfl⟩:∃ l,L=l+2:=⟨L - 2,by omega⟩
    have k:=v.kids (by omega)
    have own1:1<=own:=by rcases o2 with y | y; exact absurd y (by omega); exact y
    have:=v.own9
    omega
  have len4:∀ z14 (h':Hh),Grow h h'->fc oLen (fAll [(fV 4)]) [some (.lst 0),some (.int step),some (.int seed),some (.int (n:Int)),some (.lst c),some (.int num),z6,z7,some (.lst m),some (.bl false),some (.lst hd),some (.str ""),some (t.d),some (.tup [.int (L:Int),.lst cw]),z14] h'=.ok (.int (cs.length:Int)) h':=fun z14 h' g=>by
   rw [fc_ok (fAll1 (d:=.lst c) (h1:=h') rfl),oLen_lst (g.at' H.cards),List.length_map]; rfl
  rw [fSeq_nx (e1:=[some (.lst 0),some (.int step),some (.int seed),some (.int (n:Int)),some (.lst c),some (.int num),z6,z7,some (.lst m),some (.bl false),some (.lst hd),some (.str ""),some (t.d),some (.tup [.int (L:Int),.lst cw]),none]) (h1:=h6) (by
   rw [fIfS_f (h1:=h6) (orF (h1:=h6) rfl (orF (h1:=h6) (fB_ok (b:=false) (by
    rw [f2_ok (x:=.int (t.bs.length:Int)) (h1:=h6) (by rw [fc_ok (fAll1 (d:=.tup (t.bs.map T.d)) (h1:=h6) (by rw [f2_ok (x:=t.d) (h1:=h6) rfl (fC_ok (.int 1) _ _),t_ix1]; rfl)),oLen_tup,List.length_map]; rfl) (fC_ok (.int 1) _ _),oEq_int,show ((t.bs.length:Int)==1)=false from beq_eq_false_iff_ne.mpr (by omega)]
    rfl)) (fB_ok (b:=false) (by
    rw [f2_ok (x:=.lst cw) (h1:=h6) rfl (y:=.lst c) (h2:=h6) rfl,oNe_cards9 a6 (g6.at' H.cards)]
    rfl))))]
   rfl)]
  have room:∀ (l:Nat) (f:FE) z14 (h':Hh),l<=4->f [some (.lst 0),some (.int step),some (.int seed),some (.int (n:Int)),some (.lst c),some (.int num),z6,z7,some (.lst m),some (.bl false),some (.lst hd),some (.str ""),some (t.d),some (.tup [.int (L:Int),.lst cw]),z14] h'=.ok (.int (l:Int)) h'->fc (fnRun 4 t__law_room_for) (fAll [(fV 3),f]) [some (.lst 0),some (.int step),some (.int seed),some (.int (n:Int)),some (.lst c),some (.int num),z6,z7,some (.lst m),some (.bl false),some (.lst hd),some (.str ""),some (t.d),some (.tup [.int (L:Int),.lst cw]),z14] h'=.ok (.int (((n+1) ^ l:Nat):Int)) h':=fun l f z14 h' hl q=>by
   rw [fc_ok (fAll2 (d:=.int (n:Int)) (h1:=h') rfl q),room_eq,run_room (by omega) (by omega)]; rfl
  rw [fSeq_nx (e1:=[some (.lst 0),some (.int step),some (.int seed),some (.int (n:Int)),some (.lst c),some (.int num),z6,z7,some (.lst m),some (.bl false),some (.lst hd),some (.str ""),some (t.d),some (.tup [.int (L:Int),.lst cw]),some (.bl true)]) (h1:=h6) (fSet_ok (by
   unfold fOrV
   have a:f2 oEq (f2 oIx (fV 13) (fC (.int 0))) (fC (.int 1)) [some (.lst 0),some (.int step),some (.int seed),some (.int (n:Int)),some (.lst c),some (.int num),z6,z7,some (.lst m),some (.bl false),some (.lst hd),some (.str ""),some (t.d),some (.tup [.int (L:Int),.lst cw]),none] h6=.ok (.bl ((L:Int)==1)) h6:=by
    rw [f2_ok (x:=.int (L:Int)) (h1:=h6) rfl (fC_ok (.int 1) _ _),oEq_int]; rfl
   rw [a,Res.bind_ok]
   by_cases z:L=1
   ·rw [show ((L:Int)==1)=true by subst z; rfl]
    rfl
   ·rw [show ((L:Int)==1)=false from beq_eq_false_iff_ne.mpr (by omega)]
    show f2 oLe _ _ _ _=_
    rw [f2_ok (room (L - 1) _ none h6 (by omega) (by rw [sub_ok (x:=(L:Int)) (y:=1) rfl rfl,show (L:Int) - 1=((L - 1:Nat):Int) by omega])) (len4 none h6 g6),oLe_int,decide_eq_true (by omega)]
    rfl))]
  obtain⟨h7,q7,g7⟩:=run_even (w:=n) (L:=L) (top:=t) (by omega) (by rw [fl]; omega) ev h6
  rw [fSeq_nx (e1:=[some (.lst 0),some (.int step),some (.int seed),some (.int (n:Int)),some (.lst c),some (.int num),z6,z7,some (.lst m),some (.bl false),some (.lst hd),some (.str ""),some (t.d),some (.tup [.int (L:Int),.lst cw]),some (.bl true)]) (h1:=h7) (by
   rw [fIfS_f (h1:=h7) (orF (h1:=h6) (notB (b:=true) (h1:=h6) rfl) (notB (b:=true) (h1:=h7) (fB_ok (by
    rw [fc_ok (ds:=[t.d,.int (n:Int),.int (L:Int)]) (h1:=h6) rfl,q7]
    rfl))))]
   rfl)]
  refine⟨h7,fRet_ok ?_⟩
  rw [f2_ok (room L _ _ h7 L4 rfl) (len4 _ h7 (g6.trans g7)),oGt_int,decide_eq_true (by omega)]
  rfl
theorem law_true {xW xD xR xN:Addr} (hne:xR≠xW) (ns:List Int) (hl:ns.length<=63):∃ h',fnRun 15 (t_law xW xR (fnRun 2 (t__law_reach_by (fnRun 2 t__law_at))) (fnRun 2 t__law_at) (fnRun 2 t__law_far) (PK xW xR) (fnRun 4 (t__law_same (fnRun 1 t__law_whole))) (fnRun 4 (t__law_refuses xW xD xR xN (PK xW xR))) (fnRun 9 (t__law_walk (fnRun 2 (t__law_is_drawer (fnRun 1 t__law_whole))) (fnRun 11 (t__law_opened (fnRun 2 (t__law_is_drawer (fnRun 1 t__law_whole))))))) (fnRun 4 t__law_room_for) (fnRun 7 (t__law_even (fnRun 4 t__law_room_for)))) [.ro ns] []=some (.bl true,h'):=by
 obtain⟨step,seed,wd,c,hd,m,sp,cs,num,z6,z7,h,H,q⟩:=run_head ns hl (restB xW xD xR xN)
 obtain⟨h',r⟩:=law_rest (xD:=xD) (xN:=xN) hne H
 rw [law_eq]
 exact⟨h',fnRun_rt (q.trans r)⟩
theorem all_mk {l:PySem.W.OpenLaw}{w:World}{K:PySem.W.Frag}{h:Heap}{mg:Str->Option Value}{fa:Addr} (X:K.In h) (G:h.Ns mainGlobals mg) (hfa:mg "law"=some (.ref fa))
  {f1:Addr}{od1 an1:Option Addr}{sl1:Array (Option Value)}{oc1 kV1 dc1 pm1 cd1 ct1:Value}
  {f2:Addr}{od2 an2:Option Addr}{sl2:Array (Option Value)}{oc2 kV2 dc2 pm2 cd2 ct2:Value}
  {f3:Addr}{od3 an3:Option Addr}{sl3:Array (Option Value)}{oc3 kV3 dc3 pm3 cd3 ct3:Value}
  {f4:Addr}{od4 an4:Option Addr}{sl4:Array (Option Value)}{oc4 kV4 dc4 pm4 cd4 ct4:Value}
  {f5:Addr}{od5 an5:Option Addr}{sl5:Array (Option Value)}{oc5 kV5 dc5 pm5 cd5 ct5:Value}
  {f6:Addr}{od6 an6:Option Addr}{sl6:Array (Option Value)}{oc6 kV6 dc6 pm6 cd6 ct6:Value}
  {f7:Addr}{od7 an7:Option Addr}{sl7:Array (Option Value)}{oc7 kV7 dc7 pm7 cd7 ct7:Value}
  {f8:Addr}{od8 an8:Option Addr}{sl8:Array (Option Value)}{oc8 kV8 dc8 pm8 cd8 ct8:Value}
  {f9:Addr}{od9 an9:Option Addr}{sl9:Array (Option Value)}{oc9 kV9 dc9 pm9 cd9 ct9:Value}
  {f10:Addr}{od10 an10:Option Addr}{sl10:Array (Option Value)}{oc10 kV10 dc10 pm10 cd10 ct10:Value}
  {f11:Addr}{od11 an11:Option Addr}{sl11:Array (Option Value)}{oc11 kV11 dc11 pm11 cd11 ct11:Value}
  {f12:Addr}{od12 an12:Option Addr}{sl12:Array (Option Value)}{oc12 kV12 dc12 pm12 cd12 ct12:Value}
  {f13:Addr}{od13 an13:Option Addr}{sl13:Array (Option Value)}{oc13 kV13 dc13 pm13 cd13 ct13:Value}
  {f14:Addr}{od14 an14:Option Addr}{sl14:Array (Option Value)}{oc14 kV14 dc14 pm14 cd14 ct14:Value}
  {f15:Addr}{od15 an15:Option Addr}{sl15:Array (Option Value)}{oc15 kV15 dc15 pm15 cd15 ct15:Value}
  {f16:Addr}{od16 an16:Option Addr}{sl16:Array (Option Value)}{oc16 kV16 dc16 pm16 cd16 ct16:Value}
  {f17:Addr}{od17 an17:Option Addr}{sl17:Array (Option Value)}{oc17 kV17 dc17 pm17 cd17 ct17:Value}
  {f18:Addr}{od18 an18:Option Addr}{sl18:Array (Option Value)}{oc18 kV18 dc18 pm18 cd18 ct18:Value}
  {f19:Addr}{od19 an19:Option Addr}{sl19:Array (Option Value)}{oc19 kV19 dc19 pm19 cd19 ct19:Value}
  {f20:Addr}{od20 an20:Option Addr}{sl20:Array (Option Value)}{oc20 kV20 dc20 pm20 cd20 ct20:Value}
  {x_NoWidth N_NoWidth:Addr}{nm_NoWidth qn_NoWidth:Str}{bs_NoWidth bm_NoWidth sub_NoWidth:List Value}{hd_NoWidth ab_NoWidth:Bool}{sn_NoWidth:List Str}{col_NoWidth:Option Bool}{dd_NoWidth:Option Addr}{ka_NoWidth kb_NoWidth kc_NoWidth kd_NoWidth ke_NoWidth:Option Value}
  {x_NotRising N_NotRising:Addr}{nm_NotRising qn_NotRising:Str}{bs_NotRising bm_NotRising sub_NotRising:List Value}{hd_NotRising ab_NotRising:Bool}{sn_NotRising:List Str}{col_NotRising:Option Bool}{dd_NotRising:Option Addr}{ka_NotRising kb_NotRising kc_NotRising kd_NotRising ke_NotRising:Option Value}
  {x_DrawerError N_DrawerError:Addr}{nm_DrawerError qn_DrawerError:Str}{bs_DrawerError bm_DrawerError sub_DrawerError:List Value}{hd_DrawerError ab_DrawerError:Bool}{sn_DrawerError:List Str}{col_DrawerError:Option Bool}{dd_DrawerError:Option Addr}{ka_DrawerError kb_DrawerError kc_DrawerError kd_DrawerError ke_DrawerError:Option Value}
  {x_NoCard N_NoCard:Addr}{nm_NoCard qn_NoCard:Str}{bs_NoCard bm_NoCard sub_NoCard:List Value}{hd_NoCard ab_NoCard:Bool}{sn_NoCard:List Str}{col_NoCard:Option Bool}{dd_NoCard:Option Addr}{ka_NoCard kb_NoCard kc_NoCard kd_NoCard ke_NoCard:Option Value}
  (a1:PySem.W.nsIn K mainGlobals "check_width"=some (some (.ref f1))) (l1:K.lookup f1=some ⟨oc1,od1,.func (PySem.W.fnOf "check_width" "check_width" (defArgs s_check_width) (defBody s_check_width) (defScope s_check_width) .none kV1 dc1 pm1 an1 cd1 ct1),sl1⟩) (c1:PySem.W.codeIn K cd1 "check_width"=true) (k1:PySem.W.keepIn K (.ref f1)=true)
  (a2:PySem.W.nsIn K mainGlobals "drawer_of"=some (some (.ref f2))) (l2:K.lookup f2=some ⟨oc2,od2,.func (PySem.W.fnOf "drawer_of" "drawer_of" (defArgs s_drawer_of) (defBody s_drawer_of) (defScope s_drawer_of) .none kV2 dc2 pm2 an2 cd2 ct2),sl2⟩) (c2:PySem.W.codeIn K cd2 "drawer_of"=true) (k2:PySem.W.keepIn K (.ref f2)=true)
  (a3:PySem.W.nsIn K mainGlobals "check_rising"=some (some (.ref f3))) (l3:K.lookup f3=some ⟨oc3,od3,.func (PySem.W.fnOf "check_rising" "check_rising" (defArgs s_check_rising) (defBody s_check_rising) (defScope s_check_rising) .none kV3 dc3 pm3 an3 cd3 ct3),sl3⟩) (c3:PySem.W.codeIn K cd3 "check_rising"=true) (k3:PySem.W.keepIn K (.ref f3)=true)
  (a4:PySem.W.nsIn K mainGlobals "room_on"=some (some (.ref f4))) (l4:K.lookup f4=some ⟨oc4,od4,.func (PySem.W.fnOf "room_on" "room_on" (defArgs s_room_on) (defBody s_room_on) (defScope s_room_on) .none kV4 dc4 pm4 an4 cd4 ct4),sl4⟩) (c4:PySem.W.codeIn K cd4 "room_on"=true) (k4:PySem.W.keepIn K (.ref f4)=true)
  (a5:PySem.W.nsIn K mainGlobals "even_parts"=some (some (.ref f5))) (l5:K.lookup f5=some ⟨oc5,od5,.func (PySem.W.fnOf "even_parts" "even_parts" (defArgs s_even_parts) (defBody s_even_parts) (defScope s_even_parts) .none kV5 dc5 pm5 an5 cd5 ct5),sl5⟩) (c5:PySem.W.codeIn K cd5 "even_parts"=true) (k5:PySem.W.keepIn K (.ref f5)=true)
  (a6:PySem.W.nsIn K mainGlobals "_law_whole"=some (some (.ref f6))) (l6:K.lookup f6=some ⟨oc6,od6,.func (PySem.W.fnOf "_law_whole" "_law_whole" (defArgs s__law_whole) (defBody s__law_whole) (defScope s__law_whole) .none kV6 dc6 pm6 an6 cd6 ct6),sl6⟩) (c6:PySem.W.codeIn K cd6 "_law_whole"=true) (k6:PySem.W.keepIn K (.ref f6)=true)
  (a7:PySem.W.nsIn K mainGlobals "_law_at"=some (some (.ref f7))) (l7:K.lookup f7=some ⟨oc7,od7,.func (PySem.W.fnOf "_law_at" "_law_at" (defArgs s__law_at) (defBody s__law_at) (defScope s__law_at) .none kV7 dc7 pm7 an7 cd7 ct7),sl7⟩) (c7:PySem.W.codeIn K cd7 "_law_at"=true) (k7:PySem.W.keepIn K (.ref f7)=true)
  (a8:PySem.W.nsIn K mainGlobals "_law_far"=some (some (.ref f8))) (l8:K.lookup f8=some ⟨oc8,od8,.func (PySem.W.fnOf "_law_far" "_law_far" (defArgs s__law_far) (defBody s__law_far) (defScope s__law_far) .none kV8 dc8 pm8 an8 cd8 ct8),sl8⟩) (c8:PySem.W.codeIn K cd8 "_law_far"=true) (k8:PySem.W.keepIn K (.ref f8)=true)
  (a9:PySem.W.nsIn K mainGlobals "_law_room_for"=some (some (.ref f9))) (l9:K.lookup f9=some ⟨oc9,od9,.func (PySem.W.fnOf "_law_room_for" "_law_room_for" (defArgs s__law_room_for) (defBody s__law_room_for) (defScope s__law_room_for) .none kV9 dc9 pm9 an9 cd9 ct9),sl9⟩) (c9:PySem.W.codeIn K cd9 "_law_room_for"=true) (k9:PySem.W.keepIn K (.ref f9)=true)
  (a10:PySem.W.nsIn K mainGlobals "fewest_levels"=some (some (.ref f10))) (l10:K.lookup f10=some ⟨oc10,od10,.func (PySem.W.fnOf "fewest_levels" "fewest_levels" (defArgs s_fewest_levels) (defBody s_fewest_levels) (defScope s_fewest_levels) .none kV10 dc10 pm10 an10 cd10 ct10),sl10⟩) (c10:PySem.W.codeIn K cd10 "fewest_levels"=true) (k10:PySem.W.keepIn K (.ref f10)=true)
  (a11:PySem.W.nsIn K mainGlobals "_law_is_drawer"=some (some (.ref f11))) (l11:K.lookup f11=some ⟨oc11,od11,.func (PySem.W.fnOf "_law_is_drawer" "_law_is_drawer" (defArgs s__law_is_drawer) (defBody s__law_is_drawer) (defScope s__law_is_drawer) .none kV11 dc11 pm11 an11 cd11 ct11),sl11⟩) (c11:PySem.W.codeIn K cd11 "_law_is_drawer"=true) (k11:PySem.W.keepIn K (.ref f11)=true)
  (a12:PySem.W.nsIn K mainGlobals "_law_reach_by"=some (some (.ref f12))) (l12:K.lookup f12=some ⟨oc12,od12,.func (PySem.W.fnOf "_law_reach_by" "_law_reach_by" (defArgs s__law_reach_by) (defBody s__law_reach_by) (defScope s__law_reach_by) .none kV12 dc12 pm12 an12 cd12 ct12),sl12⟩) (c12:PySem.W.codeIn K cd12 "_law_reach_by"=true) (k12:PySem.W.keepIn K (.ref f12)=true)
  (a13:PySem.W.nsIn K mainGlobals "_law_same"=some (some (.ref f13))) (l13:K.lookup f13=some ⟨oc13,od13,.func (PySem.W.fnOf "_law_same" "_law_same" (defArgs s__law_same) (defBody s__law_same) (defScope s__law_same) .none kV13 dc13 pm13 an13 cd13 ct13),sl13⟩) (c13:PySem.W.codeIn K cd13 "_law_same"=true) (k13:PySem.W.keepIn K (.ref f13)=true)
  (a14:PySem.W.nsIn K mainGlobals "_law_even"=some (some (.ref f14))) (l14:K.lookup f14=some ⟨oc14,od14,.func (PySem.W.fnOf "_law_even" "_law_even" (defArgs s__law_even) (defBody s__law_even) (defScope s__law_even) .none kV14 dc14 pm14 an14 cd14 ct14),sl14⟩) (c14:PySem.W.codeIn K cd14 "_law_even"=true) (k14:PySem.W.keepIn K (.ref f14)=true)
  (a15:PySem.W.nsIn K mainGlobals "_law_opened"=some (some (.ref f15))) (l15:K.lookup f15=some ⟨oc15,od15,.func (PySem.W.fnOf "_law_opened" "_law_opened" (defArgs s__law_opened) (defBody s__law_opened) (defScope s__law_opened) .none kV15 dc15 pm15 an15 cd15 ct15),sl15⟩) (c15:PySem.W.codeIn K cd15 "_law_opened"=true) (k15:PySem.W.keepIn K (.ref f15)=true)
  (a16:PySem.W.nsIn K mainGlobals "_law_walk"=some (some (.ref f16))) (l16:K.lookup f16=some ⟨oc16,od16,.func (PySem.W.fnOf "_law_walk" "_law_walk" (defArgs s__law_walk) (defBody s__law_walk) (defScope s__law_walk) .none kV16 dc16 pm16 an16 cd16 ct16),sl16⟩) (c16:PySem.W.codeIn K cd16 "_law_walk"=true) (k16:PySem.W.keepIn K (.ref f16)=true)
  (a17:PySem.W.nsIn K mainGlobals "packed_on"=some (some (.ref f17))) (l17:K.lookup f17=some ⟨oc17,od17,.func (PySem.W.fnOf "packed_on" "packed_on" (defArgs s_packed_on) (defBody s_packed_on) (defScope s_packed_on) .none kV17 dc17 pm17 an17 cd17 ct17),sl17⟩) (c17:PySem.W.codeIn K cd17 "packed_on"=true) (k17:PySem.W.keepIn K (.ref f17)=true)
  (a18:PySem.W.nsIn K mainGlobals "packed"=some (some (.ref f18))) (l18:K.lookup f18=some ⟨oc18,od18,.func (PySem.W.fnOf "packed" "packed" (defArgs s_packed) (defBody s_packed) (defScope s_packed) .none kV18 dc18 pm18 an18 cd18 ct18),sl18⟩) (c18:PySem.W.codeIn K cd18 "packed"=true) (k18:PySem.W.keepIn K (.ref f18)=true)
  (a19:PySem.W.nsIn K mainGlobals "_law_refuses"=some (some (.ref f19))) (l19:K.lookup f19=some ⟨oc19,od19,.func (PySem.W.fnOf "_law_refuses" "_law_refuses" (defArgs s__law_refuses) (defBody s__law_refuses) (defScope s__law_refuses) .none kV19 dc19 pm19 an19 cd19 ct19),sl19⟩) (c19:PySem.W.codeIn K cd19 "_law_refuses"=true) (k19:PySem.W.keepIn K (.ref f19)=true)
  (a20:PySem.W.nsIn K mainGlobals "law"=some (some (.ref f20))) (l20:K.lookup f20=some ⟨oc20,od20,.func (PySem.W.fnOf "law" "law" (defArgs s_law) (defBody s_law) (defScope s_law) .none kV20 dc20 pm20 an20 cd20 ct20),sl20⟩) (c20:PySem.W.codeIn K cd20 "law"=true) (k20:PySem.W.keepIn K (.ref f20)=true)
  (qa_NoWidth:PySem.W.nsIn K mainGlobals "NoWidth"=some (some (.ref x_NoWidth))) (ql_NoWidth:K.lookup x_NoWidth=some (excClassObj nm_NoWidth qn_NoWidth x_NoWidth N_NoWidth bs_NoWidth bm_NoWidth hd_NoWidth sn_NoWidth sub_NoWidth ab_NoWidth col_NoWidth dd_NoWidth ka_NoWidth kb_NoWidth kc_NoWidth kd_NoWidth ke_NoWidth "ValueError.__new__")) (qe_NoWidth:PySem.W.excIn K x_NoWidth bmV "ValueError.__new__"=true)
  (qa_NotRising:PySem.W.nsIn K mainGlobals "NotRising"=some (some (.ref x_NotRising))) (ql_NotRising:K.lookup x_NotRising=some (excClassObj nm_NotRising qn_NotRising x_NotRising N_NotRising bs_NotRising bm_NotRising hd_NotRising sn_NotRising sub_NotRising ab_NotRising col_NotRising dd_NotRising ka_NotRising kb_NotRising kc_NotRising kd_NotRising ke_NotRising "ValueError.__new__")) (qe_NotRising:PySem.W.excIn K x_NotRising bmV "ValueError.__new__"=true)
  (qa_DrawerError:PySem.W.nsIn K mainGlobals "DrawerError"=some (some (.ref x_DrawerError))) (ql_DrawerError:K.lookup x_DrawerError=some (excClassObj nm_DrawerError qn_DrawerError x_DrawerError N_DrawerError bs_DrawerError bm_DrawerError hd_DrawerError sn_DrawerError sub_DrawerError ab_DrawerError col_DrawerError dd_DrawerError ka_DrawerError kb_DrawerError kc_DrawerError kd_DrawerError ke_DrawerError "ValueError.__new__")) (qe_DrawerError:PySem.W.excIn K x_DrawerError bmV "ValueError.__new__"=true)
  (qa_NoCard:PySem.W.nsIn K mainGlobals "NoCard"=some (some (.ref x_NoCard))) (ql_NoCard:K.lookup x_NoCard=some (excClassObj nm_NoCard qn_NoCard x_NoCard N_NoCard bs_NoCard bm_NoCard hd_NoCard sn_NoCard sub_NoCard ab_NoCard col_NoCard dd_NoCard ka_NoCard kb_NoCard kc_NoCard kd_NoCard ke_NoCard "ValueError.__new__")) (qe_NoCard:PySem.W.excIn K x_NoCard bmV "ValueError.__new__"=true)
  (xga_NoWidth:PySem.W.findIn K (.ref x_NoWidth) "__getattribute__"=some (some (.builtin "BaseException.__getattribute__")))
  (xgn_NoWidth:PySem.W.findIn K (.ref x_NoWidth) "__getattr__"=some none)
  (xgc_NoWidth:PySem.W.findIn K (.ref x_NoWidth) "__class__"=some (some (.builtin "object.__class__")))
  (xso_NoWidth:PySem.W.subIn K (.ref x_NoWidth) (.type "object")=some true)
  (xsb_NoWidth:PySem.W.subIn K (.ref x_NoWidth) (.type "BaseException")=some true)
  (ky_NoWidth:PySem.W.kitOne K (.ref x_NoWidth) (.type "ValueError")=some true)
  (xga_NotRising:PySem.W.findIn K (.ref x_NotRising) "__getattribute__"=some (some (.builtin "BaseException.__getattribute__")))
  (xgn_NotRising:PySem.W.findIn K (.ref x_NotRising) "__getattr__"=some none)
  (xgc_NotRising:PySem.W.findIn K (.ref x_NotRising) "__class__"=some (some (.builtin "object.__class__")))
  (xso_NotRising:PySem.W.subIn K (.ref x_NotRising) (.type "object")=some true)
  (xsb_NotRising:PySem.W.subIn K (.ref x_NotRising) (.type "BaseException")=some true)
  (ky_NotRising:PySem.W.kitOne K (.ref x_NotRising) (.type "ValueError")=some true)
  (zV:PySem.W.nsIn K mainGlobals "ValueError"=some none)
  (ki_NoWidth_NotRising:PySem.W.kitOne K (.ref x_NoWidth) (.ref x_NotRising)=some false)
  (ki_NoWidth_NoWidth:PySem.W.kitOne K (.ref x_NoWidth) (.ref x_NoWidth)=some true)
  (ki_NoWidth_NoCard:PySem.W.kitOne K (.ref x_NoWidth) (.ref x_NoCard)=some false)
  (ki_NotRising_NotRising:PySem.W.kitOne K (.ref x_NotRising) (.ref x_NotRising)=some true)
  (ki_NotRising_NoWidth:PySem.W.kitOne K (.ref x_NotRising) (.ref x_NoWidth)=some false)
  (ki_NotRising_NoCard:PySem.W.kitOne K (.ref x_NotRising) (.ref x_NoCard)=some false)
  (qs_NoWidth_DrawerError:(Value.ref x_NoWidth::bm_NoWidth).contains (.ref x_DrawerError)=true)
  (qs_NotRising_DrawerError:(Value.ref x_NotRising::bm_NotRising).contains (.ref x_DrawerError)=true)
  (qs_NotRising_NoWidth:(Value.ref x_NotRising::bm_NotRising).contains (.ref x_NoWidth)=false)
  (z_len:PySem.W.nsIn K mainGlobals "len"=some none)
  (z_sum:PySem.W.nsIn K mainGlobals "sum"=some none)
  (z_min:PySem.W.nsIn K mainGlobals "min"=some none)
  (z_max:PySem.W.nsIn K mainGlobals "max"=some none)
  (z_range:PySem.W.nsIn K mainGlobals "range"=some none)
  (z_tuple:PySem.W.nsIn K mainGlobals "tuple"=some none)
  (z_list:PySem.W.nsIn K mainGlobals "list"=some none)
  (z_int:PySem.W.nsIn K mainGlobals "int"=some none)
  (z_str:PySem.W.nsIn K mainGlobals "str"=some none)
  (z_bool:PySem.W.nsIn K mainGlobals "bool"=some none)
  (z_isinstance:PySem.W.nsIn K mainGlobals "isinstance"=some none):
  ∃ fd:FuncData,(∀ (s:Shared) (v:Value),BindsTo s fd ⟨[v],[]⟩ [("_law_script",v)])/\∀ base:Heap,K.In base->base.Ns mainGlobals mg->FnOk l.prog w K mg base CX0 8 fa fd ["_law_script"] (spD K 1 (fnRun 15 (t_law x_NoWidth x_NotRising (fnRun 2 (t__law_reach_by (fnRun 2 (t__law_at)))) (fnRun 2 (t__law_at)) (fnRun 2 (t__law_far)) (fnRunX 2 (t_packed (fnRunX 1 (t_check_width x_NoWidth)) (fnRunX 2 (t_check_rising x_NotRising)) (fnRun 3 (t_fewest_levels (fnRun 4 (t_room_on)))) (relF (R_pack 4)))) (fnRun 4 (t__law_same (fnRun 1 (t__law_whole)))) (fnRun 4 (t__law_refuses x_NoWidth x_DrawerError x_NotRising x_NoCard (fnRunX 2 (t_packed (fnRunX 1 (t_check_width x_NoWidth)) (fnRunX 2 (t_check_rising x_NotRising)) (fnRun 3 (t_fewest_levels (fnRun 4 (t_room_on)))) (relF (R_pack 4)))))) (fnRun 9 (t__law_walk (fnRun 2 (t__law_is_drawer (fnRun 1 (t__law_whole)))) (fnRun 11 (t__law_opened (fnRun 2 (t__law_is_drawer (fnRun 1 (t__law_whole)))))))) (fnRun 4 (t__law_room_for)) (fnRun 7 (t__law_even (fnRun 4 (t__law_room_for))))))):=by
 have e:=hfa.symm.trans (PySem.W.mg_of X G a20)
 cases e
 have F1:=fun_mk (st:=s_check_width) l1 c1 k1
 have b1:=F1.binds (ps:=["width"]) fun _ _ _ _ _ _ us hl=>match us,hl with | [_],_=>rfl
 have m1:=PySem.W.mg_of X G a1
 have F2:=fun_mk (st:=s_drawer_of) l2 c2 k2
 have b2:=F2.binds (ps:=["cards","below"]) fun _ _ _ _ _ _ us hl=>match us,hl with | [_,_],_=>rfl
 have m2:=PySem.W.mg_of X G a2
 have F3:=fun_mk (st:=s_check_rising) l3 c3 k3
 have b3:=F3.binds (ps:=["cards"]) fun _ _ _ _ _ _ us hl=>match us,hl with | [_],_=>rfl
 have m3:=PySem.W.mg_of X G a3
 have F4:=fun_mk (st:=s_room_on) l4 c4 k4
 have b4:=F4.binds (ps:=["width","levels"]) fun _ _ _ _ _ _ us hl=>match us,hl with | [_,_],_=>rfl
 have m4:=PySem.W.mg_of X G a4
 have F5:=fun_mk (st:=s_even_parts) l5 c5 k5
 have b5:=F5.binds (ps:=["total","count"]) fun _ _ _ _ _ _ us hl=>match us,hl with | [_,_],_=>rfl
 have m5:=PySem.W.mg_of X G a5
 have F6:=fun_mk (st:=s__law_whole) l6 c6 k6
 have b6:=F6.binds (ps:=["_law_found"]) fun _ _ _ _ _ _ us hl=>match us,hl with | [_],_=>rfl
 have m6:=PySem.W.mg_of X G a6
 have F7:=fun_mk (st:=s__law_at) l7 c7 k7
 have b7:=F7.binds (ps:=["_law_script","_law_k"]) fun _ _ _ _ _ _ us hl=>match us,hl with | [_,_],_=>rfl
 have m7:=PySem.W.mg_of X G a7
 have F8:=fun_mk (st:=s__law_far) l8 c8 k8
 have b8:=F8.binds (ps:=["_law_number","_law_step"]) fun _ _ _ _ _ _ us hl=>match us,hl with | [_,_],_=>rfl
 have m8:=PySem.W.mg_of X G a8
 have F9:=fun_mk (st:=s__law_room_for) l9 c9 k9
 have b9:=F9.binds (ps:=["_law_width","_law_levels"]) fun _ _ _ _ _ _ us hl=>match us,hl with | [_,_],_=>rfl
 have m9:=PySem.W.mg_of X G a9
 have F10:=fun_mk (st:=s_fewest_levels) l10 c10 k10
 have b10:=F10.binds (ps:=["width","count"]) fun _ _ _ _ _ _ us hl=>match us,hl with | [_,_],_=>rfl
 have m10:=PySem.W.mg_of X G a10
 have F11:=fun_mk (st:=s__law_is_drawer) l11 c11 k11
 have b11:=F11.binds (ps:=["_law_found"]) fun _ _ _ _ _ _ us hl=>match us,hl with | [_],_=>rfl
 have m11:=PySem.W.mg_of X G a11
 have F12:=fun_mk (st:=s__law_reach_by) l12 c12 k12
 have b12:=F12.binds (ps:=["_law_script"]) fun _ _ _ _ _ _ us hl=>match us,hl with | [_],_=>rfl
 have m12:=PySem.W.mg_of X G a12
 have F13:=fun_mk (st:=s__law_same) l13 c13 k13
 have b13:=F13.binds (ps:=["_law_handed","_law_deeds"]) fun _ _ _ _ _ _ us hl=>match us,hl with | [_,_],_=>rfl
 have m13:=PySem.W.mg_of X G a13
 have F14:=fun_mk (st:=s__law_even) l14 c14 k14
 have b14:=F14.binds (ps:=["_law_top","_law_width","_law_levels"]) fun _ _ _ _ _ _ us hl=>match us,hl with | [_,_,_],_=>rfl
 have m14:=PySem.W.mg_of X G a14
 have F15:=fun_mk (st:=s__law_opened) l15 c15 k15
 have b15:=F15.binds (ps:=["_law_drawers","_law_marks","_law_least","_law_width"]) fun _ _ _ _ _ _ us hl=>match us,hl with | [_,_,_,_],_=>rfl
 have m15:=PySem.W.mg_of X G a15
 have F16:=fun_mk (st:=s__law_walk) l16 c16 k16
 have b16:=F16.binds (ps:=["_law_top","_law_own","_law_least","_law_width"]) fun _ _ _ _ _ _ us hl=>match us,hl with | [_,_,_,_],_=>rfl
 have m16:=PySem.W.mg_of X G a16
 have F17:=fun_mk (st:=s_packed_on) l17 c17 k17
 have b17:=F17.binds (ps:=["width","levels","cards"]) fun _ _ _ _ _ _ us hl=>match us,hl with | [_,_,_],_=>rfl
 have m17:=PySem.W.mg_of X G a17
 have F18:=fun_mk (st:=s_packed) l18 c18 k18
 have b18:=F18.binds (ps:=["width","cards"]) fun _ _ _ _ _ _ us hl=>match us,hl with | [_,_],_=>rfl
 have m18:=PySem.W.mg_of X G a18
 have F19:=fun_mk (st:=s__law_refuses) l19 c19 k19
 have b19:=F19.binds (ps:=["_law_width","_law_cards"]) fun _ _ _ _ _ _ us hl=>match us,hl with | [_,_],_=>rfl
 have m19:=PySem.W.mg_of X G a19
 have F20:=fun_mk (st:=s_law) l20 c20 k20
 have b20:=F20.binds (ps:=["_law_script"]) fun _ _ _ _ _ _ us hl=>match us,hl with | [_],_=>rfl
 have m20:=PySem.W.mg_of X G a20
 have B:Bu mg:=⟨PySem.W.mg_none_of X G z_len,PySem.W.mg_none_of X G z_sum,PySem.W.mg_none_of X G z_min,PySem.W.mg_none_of X G z_max,PySem.W.mg_none_of X G z_range,PySem.W.mg_none_of X G z_tuple,PySem.W.mg_none_of X G z_list,PySem.W.mg_none_of X G z_int,PySem.W.mg_none_of X G z_str,PySem.W.mg_none_of X G z_bool,PySem.W.mg_none_of X G z_isinstance⟩
 have e_NoWidth:ExC K x_NoWidth bm_NoWidth:=exC_mk ql_NoWidth qe_NoWidth
 have m_NoWidth:=PySem.W.mg_of X G qa_NoWidth
 have e_NotRising:ExC K x_NotRising bm_NotRising:=exC_mk ql_NotRising qe_NotRising
 have m_NotRising:=PySem.W.mg_of X G qa_NotRising
 have e_DrawerError:ExC K x_DrawerError bm_DrawerError:=exC_mk ql_DrawerError qe_DrawerError
 have m_DrawerError:=PySem.W.mg_of X G qa_DrawerError
 have e_NoCard:ExC K x_NoCard bm_NoCard:=exC_mk ql_NoCard qe_NoCard
 have m_NoCard:=PySem.W.mg_of X G qa_NoCard
 have xk_NoWidth:ExK K x_NoWidth:=⟨xga_NoWidth,xgn_NoWidth,xgc_NoWidth,xso_NoWidth,xsb_NoWidth⟩
 have xk_NotRising:ExK K x_NotRising:=⟨xga_NotRising,xgn_NotRising,xgc_NotRising,xso_NotRising,xsb_NotRising⟩
 have mV:=PySem.W.mg_none_of X G zV
 refine⟨PySem.W.fnOf "law" "law" (defArgs s_law) (defBody s_law) (defScope s_law) .none kV20 dc20 pm20 an20 cd20 ct20,fun s v=>.of_eq rfl,fun base _ _=>?_⟩
 have C_check_width:CalX l.prog w K mg base 1 "check_width" ["width"] _:=ok_check_width (k:=0) B e_NoWidth m_NoWidth  F1 m1 b1
 have C_drawer_of:Cal l.prog w K mg base 1 "drawer_of" ["cards","below"] (relF R_drawer):=(ok_drawer_of (k:=0) B  F2 m2 b2).rel runs_drawer
 have C_check_rising:CalX l.prog w K mg base 1 "check_rising" ["cards"] _:=ok_check_rising (k:=0) B e_NotRising m_NotRising  F3 m3 b3
 have C_room_on:Cal l.prog w K mg base 1 "room_on" ["width","levels"] _:=ok_room_on (k:=0) B  F4 m4 b4
 have C_even_parts:Cal l.prog w K mg base 1 "even_parts" ["total","count"] _:=ok_even_parts (k:=0) B  F5 m5 b5
 have C__law_whole:Cal l.prog w K mg base 1 "_law_whole" ["_law_found"] _:=ok__law_whole (k:=0) B  F6 m6 b6
 have C__law_at:Cal l.prog w K mg base 1 "_law_at" ["_law_script","_law_k"] _:=ok__law_at (k:=0) B  F7 m7 b7
 have C__law_far:Cal l.prog w K mg base 1 "_law_far" ["_law_number","_law_step"] _:=ok__law_far (k:=0) B  F8 m8 b8
 have C__law_room_for:Cal l.prog w K mg base 1 "_law_room_for" ["_law_width","_law_levels"] _:=ok__law_room_for (k:=0) B  F9 m9 b9
 have C_fewest_levels:Cal l.prog w K mg base 2 "fewest_levels" ["width","count"] _:=ok_fewest_levels (k:=1) B (C_room_on.mono (by decide)) F10 m10 b10
 have C__law_is_drawer:Cal l.prog w K mg base 2 "_law_is_drawer" ["_law_found"] _:=ok__law_is_drawer (k:=1) B (C__law_whole.mono (by decide)) F11 m11 b11
 have C__law_reach_by:Cal l.prog w K mg base 2 "_law_reach_by" ["_law_script"] _:=ok__law_reach_by (k:=1) B (C__law_at.mono (by decide)) F12 m12 b12
 have C__law_same:Cal l.prog w K mg base 2 "_law_same" ["_law_handed","_law_deeds"] _:=ok__law_same (k:=1) B (C__law_whole.mono (by decide)) F13 m13 b13
 have C__law_even:Cal l.prog w K mg base 2 "_law_even" ["_law_top","_law_width","_law_levels"] _:=ok__law_even (k:=1) B (C__law_room_for.mono (by decide)) F14 m14 b14
 have C__law_opened:Cal l.prog w K mg base 3 "_law_opened" ["_law_drawers","_law_marks","_law_least","_law_width"] _:=ok__law_opened (k:=2) B (C__law_is_drawer.mono (by decide)) F15 m15 b15
 have C__law_walk:Cal l.prog w K mg base 4 "_law_walk" ["_law_top","_law_own","_law_least","_law_width"] _:=ok__law_walk (k:=3) B (C__law_is_drawer.mono (by decide)) (C__law_opened.mono (by decide)) F16 m16 b16
 have C_packed_on_0:Cal l.prog w K mg base 1 "packed_on" ["width","levels","cards"] (relF (R_pack 0)):=cal_none F17 m17 b17 R_pack0
 have C_packed_on_1:Cal l.prog w K mg base 2 "packed_on" ["width","levels","cards"] (relF (R_pack 1)):=(ok_packed_on (k:=1) B (C_drawer_of.mono (by decide)) (C_room_on.mono (by decide)) (C_even_parts.mono (by decide)) C_packed_on_0 F17 m17 b17).rel (runs_pack 0)
 have C_packed_on_2:Cal l.prog w K mg base 3 "packed_on" ["width","levels","cards"] (relF (R_pack 2)):=(ok_packed_on (k:=2) B (C_drawer_of.mono (by decide)) (C_room_on.mono (by decide)) (C_even_parts.mono (by decide)) C_packed_on_1 F17 m17 b17).rel (runs_pack 1)
 have C_packed_on_3:Cal l.prog w K mg base 4 "packed_on" ["width","levels","cards"] (relF (R_pack 3)):=(ok_packed_on (k:=3) B (C_drawer_of.mono (by decide)) (C_room_on.mono (by decide)) (C_even_parts.mono (by decide)) C_packed_on_2 F17 m17 b17).rel (runs_pack 2)
 have C_packed_on_4:Cal l.prog w K mg base 5 "packed_on" ["width","levels","cards"] (relF (R_pack 4)):=(ok_packed_on (k:=4) B (C_drawer_of.mono (by decide)) (C_room_on.mono (by decide)) (C_even_parts.mono (by decide)) C_packed_on_3 F17 m17 b17).rel (runs_pack 3)
 have C_packed_on:=C_packed_on_4
 have C_packed:CalX l.prog w K mg base 6 "packed" ["width","cards"] _:=ok_packed (k:=5) B (C_check_width.mono (by decide)) (C_check_rising.mono (by decide)) (C_fewest_levels.mono (by decide)) (C_packed_on.mono (by decide)) F18 m18 b18
 have C__law_refuses:Cal l.prog w K mg base 7 "_law_refuses" ["_law_width","_law_cards"] _:=ok__law_refuses (k:=6) B e_NoWidth m_NoWidth e_DrawerError m_DrawerError e_NotRising m_NotRising e_NoCard m_NoCard qs_NoWidth_DrawerError qs_NotRising_DrawerError xk_NoWidth ky_NoWidth xk_NotRising ky_NotRising mV ki_NoWidth_NotRising ki_NoWidth_NoWidth ki_NoWidth_NoCard ki_NotRising_NotRising ki_NotRising_NoWidth ki_NotRising_NoCard (C_packed.mono (by decide)) F19 m19 b19
 exact fnok_law (k:=7) B e_NoWidth m_NoWidth e_NotRising m_NotRising qs_NotRising_NoWidth (C__law_reach_by.mono (by decide)) (C__law_at.mono (by decide)) (C__law_far.mono (by decide)) (C_packed.mono (by decide)) (C__law_same.mono (by decide)) (C__law_refuses.mono (by decide)) (C__law_walk.mono (by decide)) (C__law_room_for.mono (by decide)) (C__law_even.mono (by decide)) F20
theorem walk {x_NoWidth:Addr}{x_NotRising:Addr}{x_DrawerError:Addr}{x_NoCard:Addr} (ne_NotRising_NoWidth:x_NotRising≠x_NoWidth) {l:PySem.W.OpenLaw}{q:Program}{loose:List Str}{XP:(Str->Option Value)->Heap->Prop}{YP:World->Heap->Prop}{d:DefRec}{K:Params->PySem.W.Frag} (hn:l.most=some 63) (hdf:d.params.defaults=[])
  (hY:∀ (w:World) (h:Heap),YP w h->(K w.params).In h)
  (F:∀ (w:World) (mg:Str->Option Value) (fa:Addr) (h:Heap),(K w.params).In h->h.Ns mainGlobals mg->mg d.name=some (.ref fa)->
   ∃ fd:FuncData,(∀ (s:Shared) (u:Value),BindsTo s fd ⟨[u],[]⟩ [("_law_script",u)])/\∀ base:Heap,(K w.params).In base->base.Ns mainGlobals mg->FnOk l.prog w (K w.params) mg base CX0 8 fa fd ["_law_script"] (spD (K w.params) 1 (fnRun 15 (t_law x_NoWidth x_NotRising (fnRun 2 (t__law_reach_by (fnRun 2 (t__law_at)))) (fnRun 2 (t__law_at)) (fnRun 2 (t__law_far)) (fnRunX 2 (t_packed (fnRunX 1 (t_check_width x_NoWidth)) (fnRunX 2 (t_check_rising x_NotRising)) (fnRun 3 (t_fewest_levels (fnRun 4 (t_room_on)))) (relF (R_pack 4)))) (fnRun 4 (t__law_same (fnRun 1 (t__law_whole)))) (fnRun 4 (t__law_refuses x_NoWidth x_DrawerError x_NotRising x_NoCard (fnRunX 2 (t_packed (fnRunX 1 (t_check_width x_NoWidth)) (fnRunX 2 (t_check_rising x_NotRising)) (fnRun 3 (t_fewest_levels (fnRun 4 (t_room_on)))) (relF (R_pack 4)))))) (fnRun 9 (t__law_walk (fnRun 2 (t__law_is_drawer (fnRun 1 (t__law_whole)))) (fnRun 11 (t__law_opened (fnRun 2 (t__law_is_drawer (fnRun 1 (t__law_whole)))))))) (fnRun 4 (t__law_room_for)) (fnRun 7 (t__law_even (fnRun 4 (t__law_room_for)))))))):
  PySem.W.WalkO q loose XP YP l.row.toRowW d [] (fun f vs=>PySem.call f vs):=
 L2.walk_of (n:=63) (k:=8) (x:="_law_script") (CX:=fun _=>CX0) (sp:=fun w=>spD (K w.params) 1 (fnRun 15 (t_law x_NoWidth x_NotRising (fnRun 2 (t__law_reach_by (fnRun 2 (t__law_at)))) (fnRun 2 (t__law_at)) (fnRun 2 (t__law_far)) (fnRunX 2 (t_packed (fnRunX 1 (t_check_width x_NoWidth)) (fnRunX 2 (t_check_rising x_NotRising)) (fnRun 3 (t_fewest_levels (fnRun 4 (t_room_on)))) (relF (R_pack 4)))) (fnRun 4 (t__law_same (fnRun 1 (t__law_whole)))) (fnRun 4 (t__law_refuses x_NoWidth x_DrawerError x_NotRising x_NoCard (fnRunX 2 (t_packed (fnRunX 1 (t_check_width x_NoWidth)) (fnRunX 2 (t_check_rising x_NotRising)) (fnRun 3 (t_fewest_levels (fnRun 4 (t_room_on)))) (relF (R_pack 4)))))) (fnRun 9 (t__law_walk (fnRun 2 (t__law_is_drawer (fnRun 1 (t__law_whole)))) (fnRun 11 (t__law_opened (fnRun 2 (t__law_is_drawer (fnRun 1 (t__law_whole)))))))) (fnRun 4 (t__law_room_for)) (fnRun 7 (t__law_even (fnRun 4 (t__law_room_for))))))) hn (by decide) hdf ⟨rfl,by decide,by decide⟩ hY F (fun w H a ns hl hO hS=>sp_law (law_true ne_NotRising_NoWidth) hl hO hS) fun _ _ _ _ _ z=>z
end K09
open PySem PySem.W PyProof.Rows
set_option maxRecDepth 100000 in
set_option maxHeartbeats 0 in
theorem PySem.Challenge.cw_manydrawer_k09_whole_packed_holds : PySem.Challenge.rw_manydrawer_k09_whole_packed.Holds := by
 w_on; o_law; k_head; (case hw=>w_witness2)
 k_fill
 refine' K09.walk (l:=PySem.Challenge.rw_manydrawer_k09_whole_packed) ?ne_NotRising_NoWidth rfl rfl (fun w h Y=>PySem.W.kIn_of Y) ?F
 case F=>
  intro w mg fa h KX G hmg
  refine' K09.all_mk KX G hmg ?a1 ?l1 ?c1 ?k1 ?a2 ?l2 ?c2 ?k2 ?a3 ?l3 ?c3 ?k3 ?a4 ?l4 ?c4 ?k4 ?a5 ?l5 ?c5 ?k5 ?a6 ?l6 ?c6 ?k6 ?a7 ?l7 ?c7 ?k7 ?a8 ?l8 ?c8 ?k8 ?a9 ?l9 ?c9 ?k9 ?a10 ?l10 ?c10 ?k10 ?a11 ?l11 ?c11 ?k11 ?a12 ?l12 ?c12 ?k12 ?a13 ?l13 ?c13 ?k13 ?a14 ?l14 ?c14 ?k14 ?a15 ?l15 ?c15 ?k15 ?a16 ?l16 ?c16 ?k16 ?a17 ?l17 ?c17 ?k17 ?a18 ?l18 ?c18 ?k18 ?a19 ?l19 ?c19 ?k19 ?a20 ?l20 ?c20 ?k20 ?qa_NoWidth ?ql_NoWidth ?qe_NoWidth ?qa_NotRising ?ql_NotRising ?qe_NotRising ?qa_DrawerError ?ql_DrawerError ?qe_DrawerError ?qa_NoCard ?ql_NoCard ?qe_NoCard ?xga_NoWidth ?xgn_NoWidth ?xgc_NoWidth ?xso_NoWidth ?xsb_NoWidth ?ky_NoWidth ?xga_NotRising ?xgn_NotRising ?xgc_NotRising ?xso_NotRising ?xsb_NotRising ?ky_NotRising ?zV ?ki_NoWidth_NotRising ?ki_NoWidth_NoWidth ?ki_NoWidth_NoCard ?ki_NotRising_NotRising ?ki_NotRising_NoWidth ?ki_NotRising_NoCard ?qs_NoWidth_DrawerError ?qs_NotRising_DrawerError ?qs_NotRising_NoWidth ?z_len ?z_sum ?z_min ?z_max ?z_range ?z_tuple ?z_list ?z_int ?z_str ?z_bool ?z_isinstance
  (case a1=>k_is); (case l1=>k_is); (case c1=>k_is); (case k1=>k_is)
  (case a2=>k_is); (case l2=>k_is); (case c2=>k_is); (case k2=>k_is)
  (case a3=>k_is); (case l3=>k_is); (case c3=>k_is); (case k3=>k_is)
  (case a4=>k_is); (case l4=>k_is); (case c4=>k_is); (case k4=>k_is)
  (case a5=>k_is); (case l5=>k_is); (case c5=>k_is); (case k5=>k_is)
  (case a6=>k_is); (case l6=>k_is); (case c6=>k_is); (case k6=>k_is)
  (case a7=>k_is); (case l7=>k_is); (case c7=>k_is); (case k7=>k_is)
  (case a8=>k_is); (case l8=>k_is); (case c8=>k_is); (case k8=>k_is)
  (case a9=>k_is); (case l9=>k_is); (case c9=>k_is); (case k9=>k_is)
  (case a10=>k_is); (case l10=>k_is); (case c10=>k_is); (case k10=>k_is)
  (case a11=>k_is); (case l11=>k_is); (case c11=>k_is); (case k11=>k_is)
  (case a12=>k_is); (case l12=>k_is); (case c12=>k_is); (case k12=>k_is)
  (case a13=>k_is); (case l13=>k_is); (case c13=>k_is); (case k13=>k_is)
  (case a14=>k_is); (case l14=>k_is); (case c14=>k_is); (case k14=>k_is)
  (case a15=>k_is); (case l15=>k_is); (case c15=>k_is); (case k15=>k_is)
  (case a16=>k_is); (case l16=>k_is); (case c16=>k_is); (case k16=>k_is)
  (case a17=>k_is); (case l17=>k_is); (case c17=>k_is); (case k17=>k_is)
  (case a18=>k_is); (case l18=>k_is); (case c18=>k_is); (case k18=>k_is)
  (case a19=>k_is); (case l19=>k_is); (case c19=>k_is); (case k19=>k_is)
  (case a20=>k_is); (case l20=>k_is); (case c20=>k_is); (case k20=>k_is)
  (case qa_NoWidth=>k_is); (case ql_NoWidth=>k_is); (case qe_NoWidth=>k_exc)
  (case qa_NotRising=>k_is); (case ql_NotRising=>k_is); (case qe_NotRising=>k_exc)
  (case qa_DrawerError=>k_is); (case ql_DrawerError=>k_is); (case qe_DrawerError=>k_exc)
  (case qa_NoCard=>k_is); (case ql_NoCard=>k_is); (case qe_NoCard=>k_exc)
  (case xga_NoWidth=>k_is); (case xgn_NoWidth=>k_is); (case xgc_NoWidth=>k_is); (case xso_NoWidth=>k_is); (case xsb_NoWidth=>k_is); (case ky_NoWidth=>kit_is)
  (case xga_NotRising=>k_is); (case xgn_NotRising=>k_is); (case xgc_NotRising=>k_is); (case xso_NotRising=>k_is); (case xsb_NotRising=>k_is); (case ky_NotRising=>kit_is)
  (case zV=>k_is)
  (case ki_NoWidth_NotRising=>kit_is)
  (case ki_NoWidth_NoWidth=>kit_is)
  (case ki_NoWidth_NoCard=>kit_is)
  (case ki_NotRising_NotRising=>kit_is)
  (case ki_NotRising_NoWidth=>kit_is)
  (case ki_NotRising_NoCard=>kit_is)
  (case qs_NoWidth_DrawerError=>decide +kernel)
  (case qs_NotRising_DrawerError=>decide +kernel)
  (case qs_NotRising_NoWidth=>decide +kernel)
  (case z_len=>k_is); (case z_sum=>k_is); (case z_min=>k_is); (case z_max=>k_is); (case z_range=>k_is); (case z_tuple=>k_is); (case z_list=>k_is); (case z_int=>k_is); (case z_str=>k_is); (case z_bool=>k_is); (case z_isinstance=>k_is)
 (case ne_NotRising_NoWidth=>decide)
