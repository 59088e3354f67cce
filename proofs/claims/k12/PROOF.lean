import PyProof.Rows.All
import Wide.All
import OpenK.AllK
import Wide.FinOn
import Lean
import PyProof.EqAt
import PyProof.EqKinds
import PyProof.TupleCall
import PySem.Challenge.RW_manydrawer_k12_whole_answers
set_option Elab.async false
set_option linter.all false
set_option maxRecDepth 100000
namespace L2
open PySem PySem.Spec PyProof.Rows
noncomputable abbrev Key:=Sum Int Str
noncomputable def keyIs:Key->Value->Bool
  | .inl k,v=>Value.isInt k v
  | .inr x,v=>Value.isStrOf x v
noncomputable def keyH (w:World):Key->Int
  | .inl k=>hashInt k
  | .inr x=>hashStr w x
theorem keyIs_shape:∀ {k:Key}{v:Value},keyIs k v=true->(∃ i t,k=Sum.inl i/\v=Value.int i t)\/(∃ x t,k=Sum.inr x/\v=Value.str x t)
  | .inl i,v,h=>by
    obtain⟨t,e⟩:=Value.isInt_shape (k:=i) (v:=v) h
    exact .inl ⟨i,t,rfl,e⟩
  | .inr x,v,h=>by
    obtain⟨t,e⟩:=Value.isStrOf_shape (x:=x) (v:=v) h
    exact .inr ⟨x,t,rfl,e⟩
theorem keyIs_int (i:Int) (t:Tok):keyIs (.inl i) (.int i t)=true:=by simp [keyIs,Value.isInt]
theorem keyIs_str (x:Str) (t:Tok):keyIs (.inr x) (.str x t)=true:=by simp [keyIs,Value.isStrOf]
theorem key_ll (a b:Int):decide ((Sum.inl a:Key)=Sum.inl b)=(a==b):=by
  by_cases e:a=b
  · subst e; simp
  · have h:¬ (Sum.inl a:Key)=Sum.inl b:=fun q=>e (Sum.inl.inj q)
    rw [decide_eq_false h]
    exact (beq_eq_false_iff_ne.mpr e).symm
theorem key_rr (a b:Str):decide ((Sum.inr a:Key)=Sum.inr b)=decide (a=b):=by
  by_cases e:a=b
  · subst e; simp
  · have h:¬ (Sum.inr a:Key)=Sum.inr b:=fun q=>e (Sum.inr.inj q)
    rw [decide_eq_false h,decide_eq_false e]
theorem key_lr (a:Int) (b:Str):decide ((Sum.inl a:Key)=Sum.inr b)=false:=decide_eq_false (fun q=>nomatch q)
theorem key_rl (a:Str) (b:Int):decide ((Sum.inr a:Key)=Sum.inl b)=false:=decide_eq_false (fun q=>nomatch q)
noncomputable def mixKind (prog:Program) (w:World):PySem.KeyKind prog w Key where
  is:=keyIs
  hash:=keyH w
  inj:=fun v a b ha hb=>by
    rcases keyIs_shape ha with⟨i,t,rfl,rfl⟩ | ⟨x,t,rfl,rfl⟩
    · rcases keyIs_shape hb with⟨j,u,rfl,e⟩ | ⟨y,u,rfl,e⟩
      · injection e with e1 _; rw [e1]
      · exact nomatch e
    · rcases keyIs_shape hb with⟨j,u,rfl,e⟩ | ⟨y,u,rfl,e⟩
      · exact nomatch e
      · injection e with e1 _; rw [e1]
  byValue:=fun k v h=>by
    rcases keyIs_shape h with⟨i,t,rfl,rfl⟩ | ⟨x,t,rfl,rfl⟩<;>rfl
  pyHash:=fun hv h=>by
    rcases keyIs_shape hv with⟨i,t,rfl,rfl⟩ | ⟨x,t,rfl,rfl⟩
    · exact wpAny_pyHash_int h
    · exact wpAny_pyHash_str h
  eqBool:=fun hu hv h=>by
    rcases keyIs_shape hu with⟨i,t,rfl,rfl⟩ | ⟨x,t,rfl,rfl⟩
    · rcases keyIs_shape hv with⟨j,u,rfl,rfl⟩ | ⟨y,u,rfl,rfl⟩
      · rw [key_ll] at h; exact wpAny_eqBool_int h
      · rw [key_lr] at h; exact SeqAt.EqAt.int_str i t y u _ _ _ _ h
    · rcases keyIs_shape hv with⟨j,u,rfl,rfl⟩ | ⟨y,u,rfl,rfl⟩
      · rw [key_rl] at h; exact SeqAt.EqAt.str_int x t j u _ _ _ _ h
      · rw [key_rr] at h; exact wpAny_eqBool_str h
  «strs»:=fun k x t v h=>by
    rcases keyIs_shape h with⟨i,u,rfl,e⟩ | ⟨y,u,rfl,e⟩
    · exact nomatch e
    · injection e with e1 _
      subst e1
      cases v<;>rfl
theorem mixKind_int (prog:Program) (w:World) (i:Int) (t:Tok):(mixKind prog w).is (.inl i) (.int i t)=true:=keyIs_int i t
theorem mixKind_str (prog:Program) (w:World) (x:Str) (t:Tok):(mixKind prog w).is (.inr x) (.str x t)=true:=keyIs_str x t
end L2
namespace L2
open PySem PySem.Spec PyProof.Rows
inductive V where
  | non | bl (b:Bool) | int (i:Int) | str (x:Str) | byt (b:Array UInt8) | flt (b:UInt64) | ref (a:Addr) | ty (n:String)
  deriving DecidableEq
noncomputable def RelV:V->Value->Prop
  | .non,u=>u=Value.none
  | .bl b,u=>u=Value.bool b
  | .int i,u=>∃ t,u=Value.int i t
  | .str x,u=>∃ t,u=Value.str x t
  | .byt b,u=>∃ t,u=Value.bytes b t
  | .flt b,u=>∃ t,u=Value.float b t
  | .ref a,u=>u=Value.ref a
  | .ty n,u=>u=Value.type n
noncomputable abbrev Vals:List V->List Value->Prop:=Paired RelV
theorem Vals.length {xs:List V}{us:List Value} (r:Vals xs us):xs.length=us.length:=Paired.length r
theorem Vals.get:∀ {xs:List V}{us:List Value}{i:Nat}{x:V},Vals xs us->xs[i]?=some x->∃ u,us[i]?=some u/\RelV x u
  | _,_,_,_,.nil,e=>by simp at e
  | _,_,0,_,.cons r _,e=>by simp at e; subst e; exact⟨_,rfl,r⟩
  | _,_,i+1,x,.cons _ t,e=>by
    obtain⟨u,h1,h2⟩:=Vals.get (i:=i) (x:=x) t (by simpa using e)
    exact⟨u,by simpa using h1,h2⟩
theorem Vals.set {x:V}{u:Value} (r:RelV x u):∀ {xs:List V}{us:List Value} (i:Nat),Vals xs us->Vals (xs.set i x) (us.set i u)
  | _,_,_,.nil=>.nil
  | _,_,0,.cons _ t=>.cons r t
  | _,_,i+1,.cons q t=>.cons q (Vals.set r i t)
theorem Vals.append {xs ys:List V}{us ws:List Value} (h:Vals xs us) (s:Vals ys ws):Vals (xs++ys) (us++ws):=by
  induction h with
  | nil=>exact s
  | cons r t ih=>exact .cons r ih
theorem Vals.take:∀ {xs:List V}{us:List Value} (n:Nat),Vals xs us->Vals (xs.take n) (us.take n)
  | _,_,0,_=>.nil
  | _,_,_+1,.nil=>.nil
  | _,_,n+1,.cons r t=>.cons r (Vals.take n t)
theorem Vals.drop:∀ {xs:List V}{us:List Value} (n:Nat),Vals xs us->Vals (xs.drop n) (us.drop n)
  | _,_,0,r=>r
  | _,_,_+1,.nil=>.nil
  | _,_,n+1,.cons _ t=>Vals.drop n t
noncomputable def RelO:Option V->Option Value->Prop
  | some v,some u=>RelV v u
  | none,none=>True
  | _,_=>False
noncomputable def KV {κ:Type}:List (κ×V)->List (κ×Value)->Prop:=Paired fun (p:κ×V) (q:κ×Value)=>p.1=q.1/\RelV p.2 q.2
noncomputable def kV:Key->V
  | .inl i=>.int i
  | .inr x=>.str x
inductive HO where
  | lst (xs:List V)
  | tup (xs:List V)
  | dK (kvs:List (Key×V)) | dT (kvs:List (List Key×V))
  | set (S:Int->Bool) (n:Nat)
  | ins (C dx:Addr) (fs:List (Str×V))
  | own (x:Addr)
  | xd (fs:List (Str×V))
  | met (f x:Addr)
  | rng (lo hi:Int)
  | frz (o:Obj) (u:HO)
  | tbl (ps:Array Value)
  | ext (φ:Heap->Prop)
noncomputable abbrev Hp:=Addr->Option HO
noncomputable def upd (H:Hp) (a:Addr) (o:HO):Hp:=fun b=>if b=a then some o else H b
theorem upd_same {H:Hp}{a:Addr}{o:HO}:upd H a o a=some o:=by unfold upd; rw [if_pos rfl]
theorem upd_ne {H:Hp}{a b:Addr}{o:HO} (h:b≠a):upd H a o b=H b:=by unfold upd; rw [if_neg h]
theorem ne_of {H:Hp}{a b:Addr}{o u:HO} (h:H a=some o) (h':H b=some u) (d:o≠u):a≠b:=by
  intro e; subst e; rw [h] at h'; exact d (Option.some.inj h')
theorem ne_of_none {H:Hp}{a b:Addr}{o:HO} (h:H a=some o) (h':H b=none):a≠b:=by
  intro e; subst e; rw [h] at h'; cases h'
section
variable (P:Program) (w:World)
noncomputable def ObjOk (H:Hp) (h:Heap) (a:Addr):HO->Prop
  | .lst xs=>xs.length<=sizeLine/\∃ (its:List Value) (n:Nat),Vals xs its/\h.get? a=some { cls:=.type "list",data:=.seq its.toArray n }
  | .tup xs=>xs.length<=sizeLine/\∃ its:List Value,Vals xs its/\IsTup h a its.toArray
  | .dK kvs=>kvs.length<=sizeLine/\(a==sysModules)=false/\∃ vs,KV kvs vs/\h.DictOf (mixKind P w) a vs
  | .dT kvs=>kvs.length<=sizeLine/\(a==sysModules)=false/\∃ xs:List (List Key×Addr×Value),
      Paired (fun (p:List Key×V) (q:List Key×Addr×Value)=>p.1=q.1/\H q.2.1=some (.tup (p.1.map kV))/\RelV p.2 q.2.2) kvs xs/\
      ∃ o es ep,h.get? a=some o/\o.ExactDict/\o.data=.dict es ep/\es.toList=xs.map (entryOfKey (tupleKind (mixKind P w)))/\(xs.map (·.1)).Nodup
  | .set S n=>h.SetOf (intKind P w) a S n
  | .ins C dx fs=>H dx=some (.own a)/\fs.length<=1000/\dx≠a/\h.get? a=some (PySem.W.instObj C dx)/\
      ∃ mA,h.Ns1 dx mA/\(∀ f,RelO (fs.lookup f) (mA f))/\PySem.Within mA (fs.map (·.1))
  | .own _=>∃ o,h.get? a=some o
  | .xd fs=>∃ mA,h.Ns1 a mA/\∀ f,RelO (fs.lookup f) (mA f)
  | .rng lo hi=>∃ t u v,h.get? a=some { cls:=.type "range",data:=.fields #[.int lo t,.int hi u,.int 1 v] }
  | .frz o u=>h.get? a=some o/\ObjOk H h a u
  | .tbl ps=>h.get? a=some { cls:=.none,data:=.fields ps }
  | .met f x=>h.get? a=some (PySem.W.methodObj (.ref f) (.ref x))
  | .ext φ=>φ h/\(∃ o,h.get? a=some o)/\∀ h1 h2:Heap,φ h1->(∀ o,h1.get? a=some o->h2.get? a=some o)->φ h2
noncomputable def HOk (H:Hp) (h:Heap):Prop:=∀ a o,H a=some o->ObjOk P w H h a o
end
section
variable {P:Program}{w:World}{H H':Hp}{h h':Heap}{a:Addr}{o:HO}
theorem ObjOk.lt (x:ObjOk P w H h a o):a < h.objs.size:=by
  cases o with
  | lst xs=>obtain⟨_,_,_,_,e⟩:=x; exact Heap.lt_size e
  | tup xs=>obtain⟨_,_,_,p⟩:=x; exact p.lt
  | dK kvs=>obtain⟨_,_,_,_,o,_,_,e,_⟩:=x; exact Heap.lt_size e
  | dT kvs=>obtain⟨_,_,_,_,o,_,_,e,_⟩:=x; exact Heap.lt_size e
  | set S n=>obtain⟨o,_,_,_,e,_⟩:=x; exact Heap.lt_size e
  | ins C dx fs=>obtain⟨_,_,_,e,_⟩:=x; exact Heap.lt_size e
  | own y=>obtain⟨_,e⟩:=x; exact Heap.lt_size e
  | xd fs=>obtain⟨_,⟨_,_,_,e,_⟩,_⟩:=x; exact Heap.lt_size e
  | rng lo hi=>obtain⟨_,_,_,e⟩:=x; exact Heap.lt_size e
  | frz ob u=>obtain⟨e,_⟩:=x; exact Heap.lt_size e
  | tbl ps=>exact Heap.lt_size (show h.get? a=some _ from x)
  | met f y=>exact Heap.lt_size (show h.get? a=some _ from x)
  | ext φ=>obtain⟨_,⟨_,e⟩,_⟩:=x; exact Heap.lt_size e
theorem Paired.mapP {α β:Type}{F G:α->β->Prop}{l₁:List α}{l₂:List β} (h:Paired F l₁ l₂) (f:∀ a b,F a b->G a b):Paired G l₁ l₂:=by
  induction h with
  | nil=>exact .nil
  | cons r t ih=>exact .cons (f _ _ r) ih
theorem ObjOk.stay (x:ObjOk P w H h a o) (k:∀ b u,(b=a\/H b=some (.own a))->h.get? b=some u->h'.get? b=some u)
    (ho:∀ b,H b=some (.own a)->H' b=some (.own a)) (ht:∀ b xs,H b=some (.tup xs)->H' b=some (.tup xs)):ObjOk P w H' h' a o:=by
  induction o with
  | lst xs=>obtain⟨z,its,n,r,e⟩:=x; exact⟨z,its,n,r,k _ _ (.inl rfl) e⟩
  | tup xs=>obtain⟨z,its,r,ob,e,c⟩:=x; exact⟨z,its,r,ob,k _ _ (.inl rfl) e,c⟩
  | dK kvs=>obtain⟨z,y,vs,r,ob,es,ep,e,c⟩:=x; exact⟨z,y,vs,r,ob,es,ep,k _ _ (.inl rfl) e,c⟩
  | dT kvs=>
    obtain⟨z,y,xs,r,ob,es,ep,e,c⟩:=x
    exact⟨z,y,xs,Paired.mapP r fun p q z=>⟨z.1,ht _ _ z.2.1,z.2.2⟩,ob,es,ep,k _ _ (.inl rfl) e,c⟩
  | set S n=>obtain⟨ob,es,ep,t,e,c⟩:=x; exact⟨ob,es,ep,t,k _ _ (.inl rfl) e,c⟩
  | ins C dx fs=>
    obtain⟨d,z,ne,e,mA,⟨od,es,ep,e2,c⟩,r⟩:=x
    exact⟨ho _ d,z,ne,k _ _ (.inl rfl) e,mA,⟨od,es,ep,k _ _ (.inr d) e2,c⟩,r⟩
  | own y=>obtain⟨ob,e⟩:=x; exact⟨ob,k _ _ (.inl rfl) e⟩
  | xd fs=>obtain⟨mA,⟨od,es,ep,e,c⟩,r⟩:=x; exact⟨mA,⟨od,es,ep,k _ _ (.inl rfl) e,c⟩,r⟩
  | rng lo hi=>obtain⟨t,u,v,e⟩:=x; exact⟨t,u,v,k _ _ (.inl rfl) e⟩
  | frz ob u ih=>obtain⟨e,q⟩:=x; exact⟨k _ _ (.inl rfl) e,ih q⟩
  | tbl ps=>
    have e:h.get? a=some { cls:=.none,data:=.fields ps }:=x
    show h'.get? a=some { cls:=.none,data:=.fields ps }
    exact k a _ (.inl rfl) e
  | met f y=>
    have e:h.get? a=some (PySem.W.methodObj (.ref f) (.ref y)):=x
    show h'.get? a=some (PySem.W.methodObj (.ref f) (.ref y))
    exact k a _ (.inl rfl) e
  | ext φ=>obtain⟨p,⟨o,e⟩,st⟩:=x; exact⟨st _ _ p fun o q=>k _ _ (.inl rfl) q,⟨o,k _ _ (.inl rfl) e⟩,st⟩
theorem HOk.lt (x:HOk P w H h) (e:H a=some o):a < h.objs.size:=(x a o e).lt
theorem HOk.fresh (x:HOk P w H h) (e:h.objs.size<=a):H a=none:=by
  cases q:H a with
  | none=>rfl
  | some u=>exact absurd (Nat.lt_of_lt_of_le (x.lt q) e) (Nat.lt_irrefl _)
theorem HOk.kept (x:HOk P w H h) (k:∀ b u,h.get? b=some u->h'.get? b=some u):HOk P w H h':=fun a o e=>
  (x a o e).stay (fun b u _ q=>k b u q) (fun _ q=>q) fun _ _ q=>q
theorem HOk.laid (x:HOk P w H h) (k:∀ b u,h.get? b=some u->h'.get? b=some u) (hp:h.objs.size<=a) (new:ObjOk P w (upd H a o) h' a o):HOk P w (upd H a o) h':=fun b u e=>by
  have hn:=x.fresh hp
  by_cases hb:b=a
  · subst hb; rw [upd_same] at e; cases e; exact new
  · rw [upd_ne hb] at e
    exact (x b u e).stay (fun c v _ q=>k c v q) (fun c q=>by rw [upd_ne (ne_of_none q hn)]; exact q) fun c xs q=>by rw [upd_ne (ne_of_none q hn)]; exact q
end
noncomputable def Rd (H:Hp) (a:Addr) (u:HO):Prop:=H a=some u\/∃ o,H a=some (.frz o u)
theorem Rd.ok {P:Program}{w:World}{H:Hp}{h:Heap}{a:Addr}{u:HO} (r:Rd H a u) (x:HOk P w H h):ObjOk P w H h a u:=by
  rcases r with r | ⟨o,r⟩
  · exact x a u r
  · obtain⟨_,q⟩:=x a _ r
    exact q
noncomputable def Mut:Option HO->Prop
  | some (.lst _)=>True
  | some (.dK _)=>True
  | some (.dT _)=>True
  | some (.set _ _)=>True
  | some (.ins _ _ _)=>True
  | some (.ext _)=>True
  | _=>False
section
variable {P:Program}{w:World}{H:Hp}{h h':Heap}{x e:Addr}{o':HO}
theorem HOk.write (ok:HOk P w H h) (mu:Mut (H x)) (he:e=x\/H e=some (.own x)) (k:∀ b u,b≠e->h.get? b=some u->h'.get? b=some u) (heo:∃ u,h'.get? e=some u)
    (new:ObjOk P w (upd H x o') h' x o'):HOk P w (upd H x o') h':=fun b u q=>by
  have nown:∀ c y,H c=some (.own y)->c≠x:=fun c y r z=>by subst z; rw [r] at mu; exact mu
  have ntup:∀ c xs,H c=some (.tup xs)->c≠x:=fun c xs r z=>by subst z; rw [r] at mu; exact mu
  by_cases hb:b=x
  · subst hb; rw [upd_same] at q; cases q; exact new
  · rw [upd_ne hb] at q
    by_cases hbe:b=e
    · have q':H b=some (.own x):=by
        rcases he with z | z
        · exact absurd (hbe.trans z) hb
        · rw [hbe]; exact z
      rw [q] at q'; cases q'
      obtain⟨v,hv⟩:=heo
      exact⟨v,by rw [hbe]; exact hv⟩
    · refine (ok b u q).stay (fun c v hc r=>k c v ?_ r) (fun c r=>by rw [upd_ne (nown c b r)]; exact r) fun c xs r=>by rw [upd_ne (ntup c xs r)]; exact r
      rcases hc with rfl | hc
      · exact hbe
      · rintro rfl
        rcases he with z | z
        · exact nown c b hc z
        · rw [hc] at z; cases z; exact hb rfl
end
structure Un (fs ex:List Addr) (H H':Hp) (h h':Heap):Prop where
  keep:∀ b o,h.get? b=some o->H b=none->b∉fs->b∉ex->h'.get? b=some o
  slot:∀ b o,h.get? b=some o->H b=none->b∈fs->b∉ex->∃ sl,h'.get? b=some { o with slots:=sl }
  free:∀ b o,h.get? b=some o->H b=none->b∉ex->H' b=none
  there:∀ b o,h.get? b=some o->b∉ex->∃ o',h'.get? b=some o'
  tups:∀ b xs,H b=some (.tup xs)->H' b=some (.tup xs)
  frzs:∀ b o u,H b=some (.frz o u)->H' b=some (.frz o u)
  tbls:∀ b ps,H b=some (.tbl ps)->∃ more,H' b=some (.tbl (ps++more))
section
variable {fs fs' ex ex':List Addr}{H H1 H2:Hp}{h h1 h2 h':Heap}{a x e:Addr}{o:HO}
theorem Un.any (u:Un fs ex H H1 h h1) {b:Addr}{ob:Obj} (q:h.get? b=some ob) (n:H b=none) (hx:b∉ex):∃ sl,h1.get? b=some { ob with slots:=sl }:=by
  by_cases hb:b∈fs
  · exact u.slot b ob q n hb hx
  · exact⟨ob.slots,u.keep b ob q n hb hx⟩
theorem Un.kept (k:∀ b u,h.get? b=some u->h'.get? b=some u):Un fs ex H H h h':=
  ⟨fun b ob q _ _ _=>k b ob q,fun b ob q _ _ _=>⟨ob.slots,k b ob q⟩,fun _ _ _ n _=>n,fun b ob q _=>⟨ob,k b ob q⟩,fun _ _ q=>q,fun _ _ _ q=>q,fun _ ps q=>⟨#[],by rw [q]; simp⟩⟩
theorem Un.refl:Un fs ex H H h h:=Un.kept fun _ _ q=>q
theorem Un.laid (k:∀ b u,h.get? b=some u->h'.get? b=some u) (hp:h.objs.size<=a) (hn:H a=none):Un fs ex H (upd H a o) h h' where
  keep:=fun b u q _ _ _=>k b u q
  slot:=fun b u q _ _ _=>⟨u.slots,k b u q⟩
  free:=fun b u q n _=>by rw [upd_ne (Nat.ne_of_lt (Nat.lt_of_lt_of_le (Heap.lt_size q) hp))]; exact n
  there:=fun b u q _=>⟨u,k b u q⟩
  tups:=fun b xs q=>by rw [upd_ne (ne_of_none q hn)]; exact q
  frzs:=fun b u xs q=>by rw [upd_ne (ne_of_none q hn)]; exact q
  tbls:=fun b ps q=>⟨#[],by rw [upd_ne (ne_of_none q hn),q]; simp⟩
theorem Un.write (mu:Mut (H x)) (he:e=x\/H e=some (.own x)) (k:∀ b u,b≠e->h.get? b=some u->h'.get? b=some u) (heo:∃ u,h'.get? e=some u):Un fs ex H (upd H x o) h h':=by
  have hx:∀ b,H b=none->b≠x:=fun b n z=>by subst z; rw [n] at mu; exact mu
  have hb:∀ b,H b=none->b≠e:=fun b n z=>by
    subst z
    rcases he with r | r
    · exact hx b n r
    · rw [n] at r; cases r
  have hm:∀ b u,H b=some u->¬ Mut (some u)->b≠x:=fun b u q nm z=>by subst z; rw [q] at mu; exact nm mu
  refine⟨fun b u q n _ _=>k b u (hb b n) q,fun b u q n _ _=>⟨u.slots,k b u (hb b n) q⟩,fun b u q n _=>by rw [upd_ne (hx b n)]; exact n,fun b u q _=>?_,
    fun b xs q=>by rw [upd_ne (hm b _ q fun z=>z)]; exact q,fun b u xs q=>by rw [upd_ne (hm b _ q fun z=>z)]; exact q,fun b ps q=>⟨#[],by rw [upd_ne (hm b _ q fun z=>z),q]; simp⟩⟩
  by_cases hbe:b=e
  · subst hbe; exact heo
  · exact⟨u,k b u hbe q⟩
end
noncomputable def trk (h:Heap) (H:Hp):List Addr:=(List.range h.objs.size).filter fun a=>(H a).isSome
noncomputable def hidT (h:Heap) (H:Hp):Heap:=PySem.W.hideAll h (trk h H)
theorem hidT_size (h:Heap) (H:Hp):(hidT h H).objs.size=h.objs.size:=PySem.W.hideAll_size _ _
theorem hidT_get {h:Heap}{H:Hp}{b:Addr}{o:Obj} (e:h.get? b=some o) (n:H b=none):(hidT h H).get? b=some o:=
  PySem.W.hideAll_get _ e fun hm=>by
    have q:(H b).isSome=true:=(List.mem_filter.mp hm).2
    rw [n] at q; simp at q
theorem of_hidT {h:Heap}{H:Hp}{b:Addr}{o:Obj} (e:(hidT h H).get? b=some o):h.get? b=some o/\H b=none:=by
  have e':h.get? b=some o:=PySem.W.of_hideAll (trk h H) e
  refine⟨e',?_⟩
  cases q:H b with
  | none=>rfl
  | some x=>
    have hm:b∈trk h H:=List.mem_filter.mpr ⟨List.mem_range.mpr (Heap.lt_size e'),by simp [q]⟩
    have z:(hidT h H).get? b=none:=PySem.W.hideAll_none (trk h H) hm
    rw [z] at e; cases e
noncomputable def allNews (g h:Heap) (L:Addr):List (Addr×Obj):=(List.range h.objs.size).filterMap fun a=>if a=L\/(g.get? a).isSome=true then none else (h.get? a).map fun o=>(a,o)
noncomputable def rest (g h:Heap) (L d:Addr):List (Addr×Obj):=(allNews g h L).filter fun p=>decide (p.1≠d)
end L2
namespace L2
open PySem PySem.Spec PyProof.Rows
structure Mod (K:PySem.W.Frag) (mg:Str->Option Value) (base:Heap):Prop where
  kin:K.In base
  glob:base.Ns mainGlobals mg
  blt:∃ mb,base.Ns builtinsNs mb/\∀ x:Str,x≠"__name__"->mb x=bootBuiltins x
  nolimit:base.NoLimit
structure Cx where
  prog:Program
  w:World
  K:PySem.W.Frag
  mg:Str->Option Value
  base:Heap
  A:Around
  N:List Str
  s₀:Shared
  H₀:Hp
  env:Env
  outer:List Env
  stack:List Env
  ex:List Addr
  fn:Str->Bool
  calm:Bool
  pn:List (Addr×Obj)
  xe:Value->Shared->Prop
noncomputable def frs (l:List Env):List Addr:=l.filterMap (·.frame)
noncomputable abbrev Cx.fs (X:Cx):List Addr:=frs X.outer
noncomputable def Vis (sc:Scope) (x:Str):Prop:=sc.names.lookup x=some .local\/sc.names.lookup x=some .cell\/sc.names.lookup x=some .free
noncomputable def Loc (sc:Scope) (x:Str):Prop:=sc.names.lookup x=some .local\/sc.names.lookup x=some .cell
noncomputable def Look (env:Env) (h:Heap) (m:Str->Option Value) (x:Str) (u:Value):Prop:=
  (env.kindOf x=some .local/\m x=some u)\/((env.kindOf x=some .cell\/env.kindOf x=some .free)/\∃ c,env.cells.lookup x=some c/\h.IsCell c (some u))
structure Cx.Ok (X:Cx):Prop where
  mod:Mod X.K X.mg X.base
  kind:X.env.scope.kind=.function
  glob:X.env.globals=mainGlobals
  blt:X.env.builtins=builtinsNs
  above:X.s₀.heap.objs.size<=X.env.locals
  inj:∀ x y c,X.env.cells.lookup x=some c->X.env.cells.lookup y=some c->x=y
  has:∀ x,(X.env.kindOf x=some .cell\/X.env.kindOf x=some .free)->∃ c,X.env.cells.lookup x=some c
  cab:∀ x c,X.fn x=true->X.env.cells.lookup x=some c->X.s₀.heap.objs.size<=c
  hd:X.calm=true->X.A.handled=none
  frames:X.A.frames=some X.stack
  stk:X.stack=X.outer\/(X.stack=X.env::X.outer/\X.env.frame=some X.env.locals)
  exf:∀ b∈X.ex,b≠X.env.locals/\∀ x c,X.env.cells.lookup x=some c->c≠b
  bs:∀ b o,X.base.get? b=some o->X.s₀.heap.get? b=some o/\X.H₀ b=none
  bsz:X.base.objs.size<=X.s₀.heap.objs.size
  noex:∀ b o,X.base.get? b=some o->b∉X.ex
  exfs:∀ b∈X.ex,b∉X.fs
  funs:X.s₀.heap.FunFrames X.base X.outer
  frf:∀ b∈X.fs,X.H₀ b=none
structure Inv (X:Cx) (pins:List (Addr×Obj)) (σ:List (Option V)) (H:Hp) (s:Shared):Prop where
  ok:X.Ok
  os:s.os=X.s₀.os
  bare:AllBare s.gens
  base:Un X.fs X.ex X.H₀ H X.s₀.heap s.heap
  loc:∃ m,s.heap.Ns X.env.locals m/\∀ (i:Nat) (x:Str) (v:V),X.N[i]?=some x->σ[i]?=some (some v)->Vis X.env.scope x->∃ u,RelV v u/\Look X.env s.heap m x u
  cell:∀ x c,X.env.cells.lookup x=some c->∃ v,s.heap.IsCell c v
  free:H X.env.locals=none
  freeC:∀ x c,X.env.cells.lookup x=some c->H c=none
  pin:∀ p∈X.pn++pins,s.heap.get? p.1=some p.2/\H p.1=none/\p.1≠X.env.locals/\p.1∉X.fs/\∀ v,p.2.data≠.cell v
  hok:HOk X.prog X.w H s.heap
  len:σ.length=X.N.length
section
variable {X:Cx}{pins:List (Addr×Obj)}{σ:List (Option V)}{H H':Hp}{s:Shared}{h':Heap}
theorem Cx.Ok.nofr (ok:X.Ok) {b:Addr}{o:Obj} (e:X.base.get? b=some o):b∉X.fs:=fun hb=>by
  have:=(ok.funs.mem hb).1
  rw [e] at this; cases this
theorem Inv.bs (I:Inv X pins σ H s):∀ b o,X.base.get? b=some o->s.heap.get? b=some o/\H b=none:=fun b o e=>
  ⟨I.base.keep b o (I.ok.bs b o e).1 (I.ok.bs b o e).2 (I.ok.nofr e) (I.ok.noex b o e),I.base.free b o (I.ok.bs b o e).1 (I.ok.bs b o e).2 (I.ok.noex b o e)⟩
theorem Inv.bk (I:Inv X pins σ H s):∀ b o,X.base.get? b=some o->s.heap.get? b=some o:=fun b o e=>(I.bs b o e).1
theorem Inv.mod (I:Inv X pins σ H s):Mod X.K X.mg X.base:=I.ok.mod
theorem Inv.kIn (I:Inv X pins σ H s):X.K.In s.heap:=I.ok.mod.kin.keeps I.bk
theorem Inv.lt (I:Inv X pins σ H s):X.env.locals < s.heap.objs.size:=let ⟨_,hn,_⟩:=I.loc; hn.lt
theorem Inv.sz (I:Inv X pins σ H s):X.s₀.heap.objs.size<=s.heap.objs.size:=Nat.le_trans I.ok.above (Nat.le_of_lt I.lt)
theorem Inv.nofs (I:Inv X pins σ H s) {a:Addr} (h:s.heap.objs.size<=a):a∉X.fs:=fun hb=>by
  obtain⟨_,o,ho,_⟩:=I.ok.funs.mem hb
  exact absurd (Nat.lt_of_lt_of_le (Heap.lt_size ho) (Nat.le_trans I.sz h)) (Nat.lt_irrefl _)
theorem Inv.cne (I:Inv X pins σ H s):∀ x c,X.env.cells.lookup x=some c->c≠X.env.locals:=fun x c e z=>by
  obtain⟨v,o,ho,hd⟩:=I.cell x c e
  obtain⟨m,⟨o',es,ep,ho',hd',_⟩,_⟩:=I.loc
  rw [z,ho'] at ho; cases ho; rw [hd'] at hd; cases hd
theorem Inv.funs (I:Inv X pins σ H s):s.heap.FunFrames X.base X.outer:=by
  have all:∀ (l:List Env),(∀ b∈frs l,b∈X.fs)->X.s₀.heap.FunFrames X.base l->s.heap.FunFrames X.base l:=by
    intro l
    induction l with
    | nil=>intro _ _; trivial
    | cons env r ih=>
      intro hs hl
      obtain⟨hk,⟨L,o,hf,hn,ho,hd⟩,hr⟩:=hl
      have hL:L∈X.fs:=hs L (by unfold frs; rw [List.filterMap_cons,hf]; exact List.mem_cons_self)
      obtain⟨sl,e⟩:=I.base.slot L o ho (I.ok.frf L hL) hL fun z=>I.ok.exfs L z hL
      exact⟨hk,⟨L,_,hf,hn,e,hd⟩,ih (fun b hb=>hs b (by unfold frs; rw [List.filterMap_cons,hf]; exact List.mem_cons_of_mem _ hb)) hr⟩
  exact all X.outer (fun _ hb=>hb) I.ok.funs
theorem Inv.stack (I:Inv X pins σ H s):s.heap.FunFrames X.base X.stack:=by
  rcases I.ok.stk with e | ⟨e,hf⟩
  · rw [e]; exact I.funs
  · rw [e]
    obtain⟨m,hn,_⟩:=I.loc
    refine .cons (by rw [I.ok.kind]; decide) hf hn ?_ I.funs
    exact Heap.get?_none_of_le (Nat.le_trans I.ok.bsz I.ok.above)
theorem Inv.stkSub (I:Inv X pins σ H s):∀ b∈frs X.stack,b∈X.env.locals::X.fs:=fun b hb=>by
  rcases I.ok.stk with e | ⟨e,hf⟩
  · rw [e] at hb; exact List.mem_cons_of_mem _ hb
  · rw [e] at hb
    unfold frs at hb
    rw [List.filterMap_cons,hf] at hb
    exact hb
theorem Inv.stkFree (I:Inv X pins σ H s):∀ b∈frs X.stack,H b=none:=fun b hb=>by
  rcases List.mem_cons.mp (I.stkSub b hb) with e | hb
  · rw [e]; exact I.free
  · obtain⟨_,o,ho,_⟩:=I.ok.funs.mem hb
    exact I.base.free b o ho (I.ok.frf b hb) fun z=>I.ok.exfs b z hb
theorem Inv.step {g':Array GenState}{t':Nat}{d':Drawn}{ch:List Addr} (I:Inv X pins σ H s)
    (hch:∀ b∈ch,(b∈X.ex\/X.s₀.heap.objs.size<=b)/\b≠X.env.locals/\(∀ x c,X.env.cells.lookup x=some c->c≠b)/\∀ p∈X.pn++pins,p.1≠b)
    (keep:∀ b o,b≠X.env.locals->b∉X.fs->b∉ch->s.heap.get? b=some o->H b=none->h'.get? b=some o)
    (slot:∀ b o,b≠X.env.locals->b∈X.fs->b∉ch->s.heap.get? b=some o->H b=none->∃ sl,h'.get? b=some { o with slots:=sl }) (free:∀ b o,b∉ch->s.heap.get? b=some o->H b=none->H' b=none)
    (there:∀ b o,b∉ch->s.heap.get? b=some o->∃ o',h'.get? b=some o')
    (tups:∀ b xs,H b=some (.tup xs)->H' b=some (.tup xs)) (frzs:∀ b o u,H b=some (.frz o u)->H' b=some (.frz o u)) (tbls:∀ b ps,H b=some (.tbl ps)->∃ more,H' b=some (.tbl (ps++more)))
    (ns:∀ m,s.heap.Ns X.env.locals m->h'.Ns X.env.locals m) (hok:HOk X.prog X.w H' h') (hg:AllBare g'):
    Inv X pins σ H' { s with heap:=h',gens:=g',drawn:=d',toks:=t' }:=by
  have neL:∀ b o,X.s₀.heap.get? b=some o->b≠X.env.locals:=fun b o e=>Nat.ne_of_lt (Nat.lt_of_lt_of_le (Heap.lt_size e) I.ok.above)
  have neC:∀ b o,X.s₀.heap.get? b=some o->b∉X.ex->b∉ch:=fun b o e hx hb=>by
    rcases (hch b hb).1 with z | z
    · exact hx z
    · exact absurd (Nat.lt_of_lt_of_le (Heap.lt_size e) z) (Nat.lt_irrefl _)
  have cellK:∀ x c,X.env.cells.lookup x=some c->∀ v,s.heap.IsCell c v->h'.IsCell c v:=fun x c e v ⟨o,ho,hd⟩=>by
    have nch:c∉ch:=fun z=>(hch c z).2.2.1 x c e rfl
    by_cases hc:c∈X.fs
    · obtain⟨sl,q⟩:=slot c o (I.cne x c e) hc nch ho (I.freeC x c e)
      exact⟨_,q,hd⟩
    · exact⟨o,keep c o (I.cne x c e) hc nch ho (I.freeC x c e),hd⟩
  refine⟨I.ok,I.os,hg,⟨fun b o e n hb hx=>?_,fun b o e n hb hx=>?_,fun b o e n hx=>?_,fun b o e hx=>?_,fun b xs e=>tups b xs (I.base.tups b xs e),fun b o xs e=>frzs b o xs (I.base.frzs b o xs e),fun b ps e=>?_⟩,?_,fun x c e=>?_,?_,fun x c e=>?_,fun p hp=>?_,hok,I.len⟩
  · exact keep b o (neL b o e) hb (neC b o e hx) (I.base.keep b o e n hb hx) (I.base.free b o e n hx)
  · obtain⟨sl,e1⟩:=I.base.slot b o e n hb hx
    obtain⟨sl',e2⟩:=slot b _ (neL b o e) hb (neC b o e hx) e1 (I.base.free b o e n hx)
    exact⟨sl',e2⟩
  · obtain⟨o',e1⟩:=I.base.there b o e hx
    exact free b o' (neC b o e hx) e1 (I.base.free b o e n hx)
  · obtain⟨o',e1⟩:=I.base.there b o e hx
    exact there b o' (neC b o e hx) e1
  · obtain⟨m1,e1⟩:=I.base.tbls b ps e
    obtain⟨m2,e2⟩:=tbls b _ e1
    exact⟨m1++m2,by rw [e2,Array.append_assoc]⟩
  · obtain⟨m,hn,hl⟩:=I.loc
    refine⟨m,ns m hn,fun i x v e1 e2 e3=>?_⟩
    obtain⟨u,r,l⟩:=hl i x v e1 e2 e3
    refine⟨u,r,?_⟩
    rcases l with l | ⟨k,c,e,z⟩
    · exact .inl l
    · exact .inr ⟨k,c,e,cellK x c e _ z⟩
  · obtain⟨v,z⟩:=I.cell x c e
    exact⟨v,cellK x c e v z⟩
  · obtain⟨m,⟨o,_,_,ho,_⟩,_⟩:=I.loc
    exact free _ o (fun z=>(hch _ z).2.1 rfl) ho I.free
  · obtain⟨v,o,ho,hd⟩:=I.cell x c e
    exact free c o (fun z=>(hch c z).2.2.1 x c e rfl) ho (I.freeC x c e)
  · obtain⟨e,n,ne,nf,d⟩:=I.pin p hp
    have nch:p.1∉ch:=fun z=>(hch p.1 z).2.2.2 p hp rfl
    exact⟨keep p.1 p.2 ne nf nch e n,free p.1 p.2 nch e n,ne,nf,d⟩
theorem Inv.un {t':Nat} (I:Inv X pins σ H s) (u:Un X.fs [] H H' s.heap h') (hok:HOk X.prog X.w H' h'):Inv X pins σ H' { s with heap:=h',toks:=t' }:=by
  obtain⟨m,⟨o,es,ep,ho,r⟩,_⟩:=id I.loc
  obtain⟨sl,hL⟩:=u.any ho I.free (by simp)
  exact I.step (g':=s.gens) (d':=s.drawn) (ch:=[]) (fun _ z=>nomatch z) (fun b o _ hb _ e n=>u.keep b o e n hb (by simp)) (fun b o _ hb _ e n=>u.slot b o e n hb (by simp)) (fun b o _ e n=>u.free b o e n (by simp)) (fun b o _ e=>u.there b o e (by simp)) u.tups u.frzs u.tbls (fun m' hm=>by
    obtain⟨o',es',ep',ho',r'⟩:=hm
    rw [ho] at ho'; cases ho'
    exact⟨_,es',ep',hL,r'⟩) hok I.bare
theorem Inv.call {g':Array GenState}{t':Nat}{d':Drawn}{ch:List Addr} (I:Inv X pins σ H s) (u:Un (frs X.stack) ch H H' s.heap h') (hok:HOk X.prog X.w H' h') (hg:AllBare g')
    (hch:∀ b∈ch,(b∈X.ex\/X.s₀.heap.objs.size<=b)/\b≠X.env.locals/\(∀ x c,X.env.cells.lookup x=some c->c≠b)/\∀ p∈X.pn++pins,p.1≠b):
    Inv X pins σ H' { s with heap:=h',gens:=g',drawn:=d',toks:=t' }:=by
  obtain⟨m,⟨o,es,ep,ho,r⟩,_⟩:=id I.loc
  obtain⟨sl,hL⟩:=u.any ho I.free fun z=>(hch _ z).2.1 rfl
  exact I.step (ch:=ch) hch (fun b o hL hb hc e n=>u.keep b o e n (fun z=>(List.mem_cons.mp (I.stkSub b z)).elim hL hb) hc) (fun b o _ _ hc e n=>u.any e n hc) (fun b o hc e n=>u.free b o e n hc) (fun b o hc e=>u.there b o e hc) u.tups u.frzs u.tbls (fun m' hm=>by
    obtain⟨o',es',ep',ho',r'⟩:=hm
    rw [ho] at ho'; cases ho'
    exact⟨_,es',ep',hL,r'⟩) hok hg
theorem Inv.turned {t':Nat}{it:Addr} (I:Inv X pins σ H s) (k:∀ b o,b≠it->s.heap.get? b=some o->h'.get? b=some o) (hn:H it=none) (hL:it≠X.env.locals)
    (h1:it∈X.ex\/X.s₀.heap.objs.size<=it) (h2:∀ x c,X.env.cells.lookup x=some c->c≠it) (h3:∀ p∈X.pn++pins,p.1≠it):Inv X pins σ H { s with heap:=h',toks:=t' }:=by
  have nit:∀ b u,H b=some u->b≠it:=fun b u e z=>by rw [z,hn] at e; cases e
  refine I.step (g':=s.gens) (d':=s.drawn) (ch:=[it]) (fun b hb=>?_) (fun b o _ _ hc e _=>k b o (fun z=>hc (by simp [z])) e) (fun b o _ _ hc e _=>⟨o.slots,k b o (fun z=>hc (by simp [z])) e⟩) (fun _ _ _ _ n=>n)
    (fun b o hc e=>⟨o,k b o (fun z=>hc (by simp [z])) e⟩) (fun _ _ e=>e) (fun _ _ _ e=>e) (fun b ps e=>⟨#[],by rw [e]; simp⟩) (fun m hm=>?_) (fun b u e=>?_) I.bare
  · have e:b=it:=by simpa using hb
    subst e
    exact⟨h1,hL,h2,h3⟩
  · obtain⟨o,es,ep,ho,r⟩:=hm
    exact⟨o,es,ep,k _ o (Ne.symm hL) ho,r⟩
  · refine (I.hok b u e).stay (fun c v hc q=>k c v ?_ q) (fun _ q=>q) fun _ _ q=>q
    rcases hc with z | z
    · rw [z]; exact nit b u e
    · exact nit c _ z
theorem Inv.tok (I:Inv X pins σ H s) (t:Nat):Inv X pins σ H { s with toks:=t }:=I.un (h':=s.heap) (t':=t) Un.refl I.hok
theorem Inv.kept {t':Nat} (I:Inv X pins σ H s) (k:∀ b u,s.heap.get? b=some u->h'.get? b=some u):Inv X pins σ H { s with heap:=h',toks:=t' }:=I.un (Un.kept k) (I.hok.kept k)
theorem Inv.laid {a:Addr}{o:HO}{t':Nat} (I:Inv X pins σ H s) (k:∀ b u,s.heap.get? b=some u->h'.get? b=some u) (hp:s.heap.objs.size<=a) (new:ObjOk X.prog X.w (upd H a o) h' a o):
    Inv X pins σ (upd H a o) { s with heap:=h',toks:=t' }:=I.un (Un.laid k hp (I.hok.fresh hp)) (I.hok.laid k hp new)
theorem Inv.write {x e:Addr}{o:HO}{t':Nat} (I:Inv X pins σ H s) (mu:Mut (H x)) (he:e=x\/H e=some (.own x)) (k:∀ b u,b≠e->s.heap.get? b=some u->h'.get? b=some u) (heo:∃ u,h'.get? e=some u)
    (new:ObjOk X.prog X.w (upd H x o) h' x o):Inv X pins σ (upd H x o) { s with heap:=h',toks:=t' }:=I.un (Un.write mu he k heo) (I.hok.write mu he k heo new)
theorem Inv.pins_of {pins':List (Addr×Obj)} (I:Inv X pins σ H s) (h:∀ p∈pins',s.heap.get? p.1=some p.2/\H p.1=none/\p.1≠X.env.locals/\p.1∉X.fs/\∀ v,p.2.data≠.cell v):Inv X pins' σ H s:=
  ⟨I.ok,I.os,I.bare,I.base,I.loc,I.cell,I.free,I.freeC,fun p hp=>(List.mem_append.mp hp).elim (fun z=>I.pin p (List.mem_append_left _ z)) (h p),I.hok,I.len⟩
theorem nodup_ix {N:List Str} (hN:N.Nodup) {i j:Nat}{x:Str} (a:N[i]?=some x) (b:N[j]?=some x):i=j:=by
  obtain⟨h1,e1⟩:=List.getElem?_eq_some_iff.mp a
  obtain⟨h2,e2⟩:=List.getElem?_eq_some_iff.mp b
  exact (List.getElem_inj hN).mp (e1.trans e2.symm)
theorem store_ok2 {M:Model}{A:Around}{E:Value->Shared->Prop}{i:Nat}{x:Str}{v:V}{u:Value}{Q:Unit->Shared->Prop} (I:Inv X pins σ H s) (hN:X.N.Nodup) (hi:X.N[i]?=some x) (hx:Loc X.env.scope x) (r:RelV v u)
    (h:∀ s',Inv X pins (σ.set i (some v)) H s'->(∃ a,Heap.SameBut a s.heap s'.heap/\(a=X.env.locals\/X.env.cells.lookup x=some a))->Q () s') (hf:X.fn x=true\/X.env.scope.names.lookup x=some .local:=by first | exact .inl rfl | exact .inr rfl | assumption):wpAny M A (storeName X.env x u) Q E s:=by
  obtain⟨m,hn,hl⟩:=id I.loc
  have hcls:(X.env.scope.kind==.class||(X.env.scope.kind==.module&&X.env.locals != X.env.globals))=false:=by rw [I.ok.kind]; rfl
  have hiσ:i < σ.length:=by rw [I.len]; exact (List.getElem?_eq_some_iff.mp hi).1
  have cne:=I.cne
  have tracked:∀ {a:Addr}{h':Heap},(∃ o,s.heap.get? a=some o/\H a=none)->Heap.SameBut a s.heap h'->HOk X.prog X.w H h':=fun {a h'} ha hs b ob e=>by
    obtain⟨_,_,hfree⟩:=ha
    refine (I.hok b ob e).stay (fun c w' hc q=>(hs.2 c ?_).trans q) (fun _ q=>q) fun _ _ q=>q
    rintro rfl
    rcases hc with rfl | hc
    · rw [hfree] at e; cases e
    · rw [hfree] at hc; cases hc
  rcases hx with hk | hk
  · refine wpAny_storeName_local hk hn (fun h' hn' hs=>?_) hcls
    obtain⟨oL,_,_,hoL,_⟩:=id hn
    refine h _ ⟨I.ok,I.os,I.bare,⟨fun b o e n hb hx=>?_,fun b o e n hb hx=>?_,I.base.free,fun b o e hx=>?_,I.base.tups,I.base.frzs,I.base.tbls⟩,⟨_,hn',fun j y v' e1 e2 e3=>?_⟩,fun y c e=>?_,I.free,I.freeC,fun p hp=>?_,tracked ⟨oL,hoL,I.free⟩ hs,by simpa using I.len⟩ ⟨_,hs,.inl rfl⟩
    · exact (hs.2 b (Nat.ne_of_lt (Nat.lt_of_lt_of_le (Heap.lt_size e) I.ok.above))).trans (I.base.keep b o e n hb hx)
    · obtain⟨sl,e1⟩:=I.base.slot b o e n hb hx
      exact⟨sl,(hs.2 b (Nat.ne_of_lt (Nat.lt_of_lt_of_le (Heap.lt_size e) I.ok.above))).trans e1⟩
    · obtain⟨o',e1⟩:=I.base.there b o e hx
      exact⟨o',(hs.2 b (Nat.ne_of_lt (Nat.lt_of_lt_of_le (Heap.lt_size e) I.ok.above))).trans e1⟩
    · by_cases hj:j=i
      · subst hj
        rw [hi] at e1; cases e1
        rw [List.getElem?_set_self hiσ] at e2
        cases e2
        exact⟨u,r,.inl ⟨hk,by simp⟩⟩
      · rw [List.getElem?_set_ne (Ne.symm hj)] at e2
        obtain⟨u',r',q⟩:=hl j y v' e1 e2 e3
        refine⟨u',r',?_⟩
        rcases q with⟨k,e⟩ | ⟨k,c,e,z⟩
        · refine .inl ⟨k,?_⟩
          have:y≠x:=fun e=>hj (nodup_ix hN e1 (e▸hi))
          simp [this,e]
        · exact .inr ⟨k,c,e,z.sameBut hs (cne y c e)⟩
    · obtain⟨w',z⟩:=I.cell y c e
      exact⟨w',z.sameBut hs (cne y c e)⟩
    · obtain⟨e,n,ne,nf,d⟩:=I.pin p hp
      exact⟨(hs.2 p.1 ne).trans e,n,ne,nf,d⟩
  · have hfn:X.fn x=true:=by
      rcases hf with z | z
      · exact z
      · rw [z] at hk; cases hk
    obtain⟨c,hc⟩:=I.ok.has x (.inl hk)
    obtain⟨w',z⟩:=I.cell x c hc
    refine wpAny_storeName_cell I.ok.kind hk hc z (fun h' hc' hs=>?_)
    obtain⟨oc,hoc,hocd⟩:=id z
    refine h { s with heap:=h' } ⟨I.ok,I.os,I.bare,⟨fun b o e n hb hx=>?_,fun b o e n hb hx=>?_,I.base.free,fun b o e hx=>?_,I.base.tups,I.base.frzs,I.base.tbls⟩,⟨m,hn.sameBut hs (Ne.symm (cne x c hc)),fun j y v' e1 e2 e3=>?_⟩,fun y c' e=>?_,I.free,I.freeC,fun p hp=>?_,tracked ⟨oc,hoc,I.freeC x c hc⟩ hs,by simpa using I.len⟩ ⟨c,hs,.inr hc⟩
    · exact (hs.2 b (Nat.ne_of_lt (Nat.lt_of_lt_of_le (Heap.lt_size e) (I.ok.cab x c hfn hc)))).trans (I.base.keep b o e n hb hx)
    · obtain⟨sl,e1⟩:=I.base.slot b o e n hb hx
      exact⟨sl,(hs.2 b (Nat.ne_of_lt (Nat.lt_of_lt_of_le (Heap.lt_size e) (I.ok.cab x c hfn hc)))).trans e1⟩
    · obtain⟨o',e1⟩:=I.base.there b o e hx
      exact⟨o',(hs.2 b (Nat.ne_of_lt (Nat.lt_of_lt_of_le (Heap.lt_size e) (I.ok.cab x c hfn hc)))).trans e1⟩
    · by_cases hj:j=i
      · subst hj
        rw [hi] at e1; cases e1
        rw [List.getElem?_set_self hiσ] at e2
        cases e2
        exact⟨u,r,.inr ⟨.inl hk,c,hc,hc'⟩⟩
      · rw [List.getElem?_set_ne (Ne.symm hj)] at e2
        obtain⟨u',r',q⟩:=hl j y v' e1 e2 e3
        refine⟨u',r',?_⟩
        rcases q with q | ⟨k,c',e,z'⟩
        · exact .inl q
        · refine .inr ⟨k,c',e,z'.sameBut hs ?_⟩
          rintro rfl
          exact hj (nodup_ix hN e1 (I.ok.inj _ _ _ e hc▸hi))
    · by_cases hcc:c'=c
      · subst hcc; exact⟨_,hc'⟩
      · obtain⟨w2,z2⟩:=I.cell y c' e
        exact⟨w2,z2.sameBut hs hcc⟩
    · obtain⟨e,n,ne,nf,d⟩:=I.pin p hp
      refine⟨(hs.2 p.1 ?_).trans e,n,ne,nf,d⟩
      intro q
      rw [q,hoc] at e
      have q':oc=p.2:=Option.some.inj e
      exact d w' (by rw [<-q']; exact hocd)
theorem store_ok {M:Model}{A:Around}{E:Value->Shared->Prop}{i:Nat}{x:Str}{v:V}{u:Value}{Q:Unit->Shared->Prop} (I:Inv X pins σ H s) (hN:X.N.Nodup) (hi:X.N[i]?=some x) (hx:Loc X.env.scope x) (r:RelV v u)
    (h:∀ s',Inv X pins (σ.set i (some v)) H s'->Q () s') (hf:X.fn x=true\/X.env.scope.names.lookup x=some .local:=by first | exact .inl rfl | exact .inr rfl | assumption):wpAny M A (storeName X.env x u) Q E s:=
  store_ok2 I hN hi hx r (fun s' I' _=>h s' I') hf
theorem Inv.call' {s':Shared}{ch:List Addr} (I:Inv X pins σ H s) (ho:s'.os=s.os) (u:Un (frs X.stack) ch H H' s.heap s'.heap) (hok:HOk X.prog X.w H' s'.heap) (hg:AllBare s'.gens)
    (hch:∀ b∈ch,(b∈X.ex\/X.s₀.heap.objs.size<=b)/\b≠X.env.locals/\(∀ x c,X.env.cells.lookup x=some c->c≠b)/\∀ p∈X.pn++pins,p.1≠b):Inv X pins σ H' s':=by
  obtain⟨h',g',d',t',o'⟩:=s'
  have e:o'=s.os:=ho
  subst e
  exact I.call (g':=g') (t':=t') (d':=d') u hok hg hch
end
noncomputable abbrev XK:=Value->Option Addr->Hp->Prop
noncomputable abbrev St:=List (Option V)
noncomputable abbrev VK:=V->Hp->Prop
noncomputable abbrev TE:=St->Hp->VK->Prop
noncomputable abbrev TT:=St->Hp->(Bool->Hp->Prop)->Prop
noncomputable abbrev TA:=St->Hp->(List V->Hp->Prop)->Prop
structure Ends where
  nx:St->Hp->Prop
  rt:VK
  bk:St->Hp->Prop:=fun _ _=>False
  ct:St->Hp->Prop:=fun _ _=>False
noncomputable abbrev TS:=Ends->St->Hp->Prop
noncomputable def EP (X:Cx) (pins:List (Addr×Obj)) (σ:St) (Q:VK) (u:Value) (s':Shared):Prop:=∃ v H',Inv X pins σ H' s'/\RelV v u/\Q v H'
noncomputable def TP (X:Cx) (pins:List (Addr×Obj)) (σ:St) (Q:Bool->Hp->Prop) (b:Bool) (s':Shared):Prop:=∃ H',Inv X pins σ H' s'/\Q b H'
noncomputable def AP (X:Cx) (pins:List (Addr×Obj)) (σ:St) (Q:List V->Hp->Prop) (us:List Value) (s':Shared):Prop:=∃ vs H',Inv X pins σ H' s'/\Vals vs us/\Q vs H'
noncomputable def SP (X:Cx) (pins:List (Addr×Obj)) (D:Ends) (f:Flow) (s':Shared):Prop:=
  match f with
  | .next=>∃ σ' H',Inv X pins σ' H' s'/\D.nx σ' H'
  | .brk=>∃ σ' H',Inv X pins σ' H' s'/\D.bk σ' H'
  | .cont=>∃ σ' H',Inv X pins σ' H' s'/\D.ct σ' H'
  | .ret u=>∃ v σ' H',Inv X pins σ' H' s'/\RelV v u/\D.rt v H'
noncomputable def PE (X:Cx) (e:Expr) (t:TE):Prop:=
  ∀ (pins:List (Addr×Obj)) (s:Shared) (σ:St) (H:Hp) (Q:VK),Inv X pins σ H s->t σ H Q->wpAny (model X.prog X.w) X.A (eval e X.env) (EP X pins σ Q) X.xe s
noncomputable def PT (X:Cx) (e:Expr) (t:TT):Prop:=
  ∀ (pins:List (Addr×Obj)) (s:Shared) (σ:St) (H:Hp) (Q:Bool->Hp->Prop),Inv X pins σ H s->t σ H Q->wpAny (model X.prog X.w) X.A (isTrue e X.env (eval e X.env)) (TP X pins σ Q) X.xe s
noncomputable def PW (X:Cx) (e:Expr) (t:TT):Prop:=
  ∀ (whole:Sem Value) (pins:List (Addr×Obj)) (s:Shared) (σ:St) (H:Hp) (Q:Bool->Hp->Prop),Inv X pins σ H s->t σ H Q->wpAny (model X.prog X.w) X.A (isTrue e X.env whole) (TP X pins σ Q) X.xe s
theorem PW.pt {X:Cx}{e:Expr}{t:TT} (h:PW X e t):PT X e t:=h _
noncomputable def PA (X:Cx) (es:List Expr) (t:TA):Prop:=
  ∀ (pos:Pos) (pins:List (Addr×Obj)) (s:Shared) (σ:St) (H:Hp) (Q:List V->Hp->Prop),Inv X pins σ H s->t σ H Q->wpAny (model X.prog X.w) X.A (spliced (backTo pos (starEach es X.env))) (AP X pins σ Q) X.xe s
noncomputable def PS (X:Cx) (st:Stmt) (t:TS):Prop:=
  ∀ (pins:List (Addr×Obj)) (s:Shared) (σ:St) (H:Hp) (D:Ends),Inv X pins σ H s->t D σ H->wpAny (model X.prog X.w) X.A (exec st X.env) (SP X pins D) X.xe s
noncomputable def PSs (X:Cx) (st:List Stmt) (t:TS):Prop:=
  ∀ (pins:List (Addr×Obj)) (s:Shared) (σ:St) (H:Hp) (D:Ends),Inv X pins σ H s->t D σ H->wpAny (model X.prog X.w) X.A (execs st X.env) (SP X pins D) X.xe s
theorem thn {α:Type}{t:Sem α}{Q Q':α->Shared->Prop}{M:Model}{A:Around}{E:Value->Shared->Prop}{s:Shared} (h:wpAny M A t Q E s) (hQ:∀ a s,Q a s->Q' a s):wpAny M A t Q' E s:=wpAny_mono h hQ fun _ _ x=>x
end L2
namespace L2
open PySem PySem.Spec PyProof.Rows
section
variable {X:Cx}
theorem bin {a b:Expr}{ta tb:TE} (ha:PE X a ta) (hb:PE X b tb) {pins:List (Addr×Obj)}{s:Shared}{σ:St}{H:Hp}{R:V->V->Hp->Prop} (I:Inv X pins σ H s) (h:ta σ H fun x H1=>tb σ H1 fun y H2=>R x y H2)
    {α:Type}{Q:α->Shared->Prop}{f:Value->Value->Sem α}
    (hf:∀ v u s2 x y H2,Inv X pins σ H2 s2->RelV x v->RelV y u->R x y H2->wpAny (model X.prog X.w) X.A (f v u) Q X.xe s2):
    wpAny (model X.prog X.w) X.A (eval a X.env) (fun v s₁=>wpAny (model X.prog X.w) X.A (eval b X.env) (fun u s₂=>wpAny (model X.prog X.w) X.A (f v u) Q X.xe s₂) X.xe s₁) X.xe s:=by
  refine thn (ha pins s σ H _ I h) fun v s1 q9=>?_
  obtain⟨x,H1,I1,r1,q1⟩:=q9
  refine thn (hb pins s1 σ H1 _ I1 q1) fun u s2 q9=>?_
  obtain⟨y,H2,I2,r2,q2⟩:=q9
  exact hf v u s2 x y H2 I2 r1 r2 q2
noncomputable def tVar (i:Nat):TE:=fun σ H Q=>∃ v,σ[i]?=some (some v)/\Q v H
noncomputable def tC (v:V):TE:=fun _ H Q=>Q v H
theorem pe_var {i:Nat}{x:Str}{pos:Pos} (hN:X.N[i]?=some x) (hv:Vis X.env.scope x) (hd:(x==("__debug__":Str))=false:=by decide) (hcd:(x==("__classdict__":Str))=false:=by decide):PE X (.Name x pos) (tVar i):=by
  intro pins s σ H Q I h
  obtain⟨v,e,h⟩:=h
  obtain⟨m,hn,hl⟩:=I.loc
  obtain⟨u,r,l⟩:=hl i x v hN e hv
  have fin:EP X pins σ Q u s:=⟨v,H,I,r,h⟩
  rcases l with⟨hk,hm⟩ | ⟨hk,c,hc,hcell⟩
  · exact wpAny_Name (wpAny_loadName_local I.ok.kind hk hn hm fin) hd
  · rcases hk with hk | hk
    · exact wpAny_Name (wpAny_loadName_cell I.ok.kind hk hc hcell fin) hd
    · exact wpAny_Name (wpAny_loadName_free I.ok.kind hk hc hcell fin hcd) hd
theorem pe_int {i j pos}:PE X (.Constant (.int i) j pos) (tC (.int i)):=fun _ _ _ H _ I h=>wpAny_Constant_int ⟨.int i,H,I.tok _,⟨_,rfl⟩,h⟩
theorem pe_bl {b j pos}:PE X (.Constant (.bool b) j pos) (tC (.bl b)):=fun _ _ _ H _ I h=>Constant_bool ⟨.bl b,H,I,rfl,h⟩
theorem pe_non {j pos}:PE X (.Constant .none j pos) (tC .non):=fun _ _ _ H _ I h=>Constant_none ⟨.non,H,I,rfl,h⟩
theorem pe_str {x j pos}:PE X (.Constant (.str x) j pos) (tC (.str x)):=fun _ _ _ H _ I h=>Calls.Constant_str ⟨.str x,H,I.tok _,⟨_,rfl⟩,h⟩
noncomputable def Gl (X:Cx) (x:Str):Prop:=X.env.kindOf x=some .globalImplicit
theorem ld_glob {E:Value->Shared->Prop}{pins:List (Addr×Obj)}{s:Shared}{σ:St}{H:Hp}{x:Str}{u:Value}{pos:Pos}{Q:Value->Shared->Prop} (I:Inv X pins σ H s) (hg:Gl X x) (hm:X.mg x=some u) (h:Q u s)
    (hd:(x==("__debug__":Str))=false:=by decide):wpAny (model X.prog X.w) X.A (eval (.Name x pos) X.env) Q E s:=
  Calls.Name_function_global I.ok.kind hg (Calls.loadGlobal_global (by rw [I.ok.glob]; exact I.mod.glob.keeps I.bk) hm h) hd
theorem ld_blt {E:Value->Shared->Prop}{pins:List (Addr×Obj)}{s:Shared}{σ:St}{H:Hp}{x:Str}{u:Value}{pos:Pos}{Q:Value->Shared->Prop} (I:Inv X pins σ H s) (hg:Gl X x) (hm:X.mg x=none) (hv:bootBuiltins x=some u) (h:Q u s)
    (hn:x≠"__name__":=by decide) (hd:(x==("__debug__":Str))=false:=by decide):wpAny (model X.prog X.w) X.A (eval (.Name x pos) X.env) Q E s:=by
  obtain⟨mb,h1,h2⟩:=I.mod.blt
  exact Calls.Name_function_global I.ok.kind hg (Calls.loadGlobal_builtin (by rw [I.ok.glob]; exact I.mod.glob.keeps I.bk) hm (by rw [I.ok.blt]; exact h1.keeps I.bk) ((h2 x hn).trans hv) h) hd
theorem pe_bltn {x:Str}{v:V}{u:Value}{pos:Pos} (hg:Gl X x) (hm:X.mg x=none) (hv:bootBuiltins x=some u) (r:RelV v u) (hn:x≠"__name__":=by decide) (hd:(x==("__debug__":Str))=false:=by decide):PE X (.Name x pos) (tC v):=
  fun _ _ _ H _ I h=>ld_blt I hg hm hv ⟨v,H,I,r,h⟩ hn hd
noncomputable def t2I (ta tb:TE) (k:Int->Int->Hp->Prop):St->Hp->Prop:=fun σ H=>ta σ H fun x H1=>tb σ H1 fun y H2=>∃ i j,x=.int i/\y=.int j/\k i j H2
noncomputable def tAdd (ta tb:TE):TE:=fun σ H Q=>t2I ta tb (fun i j H2=>Q (.int (i+j)) H2) σ H
noncomputable def tSub (ta tb:TE):TE:=fun σ H Q=>t2I ta tb (fun i j H2=>Q (.int (i - j)) H2) σ H
noncomputable def tMul (ta tb:TE):TE:=fun σ H Q=>t2I ta tb (fun i j H2=>(-(2 ^ 64) < i/\i < 2 ^ 64)/\Q (.int (i*j)) H2) σ H
variable {a b:Expr}{ta tb:TE}{pos:Pos}
noncomputable def PC (X:Cx) (op:CmpOp) (a b:Expr) (t:TE):Prop:=
  ∀ (pins:List (Addr×Obj)) (s:Shared) (σ:St) (H:Hp) (Q:VK),Inv X pins σ H s->t σ H Q->
    wpAny (model X.prog X.w) X.A (eval a X.env) (fun v s₁=>wpAny (model X.prog X.w) X.A (eval b X.env) (fun u s₂=>wpAny (model X.prog X.w) X.A (compareOp op v u) (EP X pins σ Q) X.xe s₂) X.xe s₁) X.xe s
noncomputable def tCmp (p:Int->Int->Bool) (ta tb:TE):TE:=fun σ H Q=>t2I ta tb (fun i j H2=>Q (.bl (p i j)) H2) σ H
noncomputable abbrev tLt:TE->TE->TE:=tCmp fun i j=>decide (i < j)
noncomputable abbrev tLe:TE->TE->TE:=tCmp fun i j=>decide (i<=j)
noncomputable abbrev tGt:TE->TE->TE:=tCmp fun i j=>decide (j < i)
noncomputable abbrev tGe:TE->TE->TE:=tCmp fun i j=>decide (j<=i)
noncomputable abbrev tEqI:TE->TE->TE:=tCmp fun i j=>decide (i=j)
noncomputable abbrev tNeI:TE->TE->TE:=tCmp fun i j=>!decide (i=j)
noncomputable def tIsN (ta:TE):TE:=fun σ H Q=>ta σ H fun x H1=>Q (.bl (decide (x=.non))) H1
noncomputable def tNotN (ta:TE):TE:=fun σ H Q=>ta σ H fun x H1=>Q (.bl (!decide (x=.non))) H1
noncomputable def tB (t:TE):TT:=fun σ H Q=>t σ H fun x H1=>∃ c,x=.bl c/\Q c H1
theorem pe_cmp {op:CmpOp}{t:TE} (h:PC X op a b t) (h1:behindInMarks op b=false:=by first | exact nobehind _ (by decide) (by decide) | rfl):PE X (.Compare a [op] [b] pos) t:=fun pins s σ H Q I hw=>wpAny_Compare1 (h pins s σ H Q I hw) h1
theorem pt_cmp {op:CmpOp}{t:TE} (h:PC X op a b t) (h1:behindInMarks op b=false:=by first | exact nobehind _ (by decide) (by decide) | rfl):PT X (.Compare a [op] [b] pos) (tB t):=by
  intro pins s σ H Q I hw
  refine wpAny_isTrue_Compare1 (thn (h pins s σ H _ I hw) fun v s1 h1=>thn h1 fun u s2 h2=>thn h2 fun c s3 q9=>?_) h1
  obtain⟨x,H1,I1,r1,q1⟩:=q9
  obtain⟨d,rfl,q⟩:=q1
  cases r1
  exact wpAny_truthy_bool ⟨H1,I1,q⟩
theorem pt_val {e:Expr}{t:TE} (h:PE X e t) (he:∀ whole,isTrue e X.env whole=(do let v <-whole; standAt e.pos; holding [v] (truthy v)):=by intro _; rfl):PT X e (tB t):=by
  intro pins s σ H Q I hw
  refine isTrue_plain (thn (h pins s σ H _ I hw) fun v s1 q9=>?_) (he _)
  obtain⟨x,H1,I1,r1,q1⟩:=q9
  obtain⟨d,rfl,q⟩:=q1
  cases r1
  exact wpAny_truthy_bool ⟨H1,I1,q⟩
variable {tA tB':TT}{rest:List Expr}
noncomputable def tAnd (t u:TT):TT:=fun σ H Q=>t σ H fun c H1=>if c=true then u σ H1 Q else Q false H1
noncomputable def tOr (t u:TT):TT:=fun σ H Q=>t σ H fun c H1=>if c=true then Q true H1 else u σ H1 Q
noncomputable def tNot (t:TT):TT:=fun σ H Q=>t σ H fun c H1=>Q (!c) H1
theorem pw_and1 (ha:PT X a tA):PW X (.BoolOp .And [a] pos) tA:=by
  intro wh pins s σ H Q I h
  refine isTrue_and (thn (ha pins s σ H Q I h) fun c s1 e=>?_)
  cases c with
  | true=>exact isTrue_and_nil e
  | false=>exact e
theorem pw_or1 (ha:PT X a tA):PW X (.BoolOp .Or [a] pos) tA:=by
  intro wh pins s σ H Q I h
  refine isTrue_or (thn (ha pins s σ H Q I h) fun c s1 e=>?_)
  cases c with
  | false=>exact isTrue_or_nil e
  | true=>exact e
theorem pw_and (ha:PT X a tA) (hb:PW X (.BoolOp .And (b::rest) pos) tB'):PW X (.BoolOp .And (a::b::rest) pos) (tAnd tA tB'):=by
  intro wh pins s σ H Q I h
  refine isTrue_and (thn (ha pins s σ H _ I h) fun c s1 q9=>?_)
  obtain⟨H1,I1,q1⟩:=q9
  cases c with
  | true=>exact hb wh pins s1 σ H1 Q I1 q1
  | false=>exact⟨H1,I1,q1⟩
theorem pw_or (ha:PT X a tA) (hb:PW X (.BoolOp .Or (b::rest) pos) tB'):PW X (.BoolOp .Or (a::b::rest) pos) (tOr tA tB'):=by
  intro wh pins s σ H Q I h
  refine isTrue_or (thn (ha pins s σ H _ I h) fun c s1 q9=>?_)
  obtain⟨H1,I1,q1⟩:=q9
  cases c with
  | true=>exact⟨H1,I1,q1⟩
  | false=>exact hb wh pins s1 σ H1 Q I1 q1
theorem pt_not (ha:PT X a tA):PT X (.UnaryOp .Not a pos) (tNot tA):=by
  intro pins s σ H Q I h
  exact isTrue_not (ha pins s σ H (fun c H1=>Q (!c) H1) I h)
noncomputable def tAndV (ta tb:TE):TE:=fun σ H Q=>ta σ H fun x H1=>∃ c,x=.bl c/\if c=true then tb σ H1 Q else Q (.bl false) H1
noncomputable def tOrV (ta tb:TE):TE:=fun σ H Q=>ta σ H fun x H1=>∃ c,x=.bl c/\if c=true then Q (.bl true) H1 else tb σ H1 Q
noncomputable def tNotV (ta:TE):TE:=fun σ H Q=>ta σ H fun x H1=>∃ c,x=.bl c/\Q (.bl (!c)) H1
theorem pe_one {op}{t:TE} (h:PE X a t):PE X (.BoolOp op [a] pos) t:=fun pins s σ H Q I hw=>BoolOp_one (h pins s σ H Q I hw)
theorem pe_and (ha:PE X a ta) (hb:PE X (.BoolOp .And (b::rest) pos) tb):PE X (.BoolOp .And (a::b::rest) pos) (tAndV ta tb):=by
  intro pins s σ H Q I h
  refine BoolOp_and (thn (ha pins s σ H _ I h) fun v s1 q9=>?_)
  obtain⟨x,H1,I1,r1,q1⟩:=q9
  obtain⟨c,rfl,q1⟩:=q1
  cases r1
  refine wpAny_truthy_bool ?_
  cases c with
  | true=>exact hb pins s1 σ H1 Q I1 q1
  | false=>exact⟨.bl false,H1,I1,rfl,q1⟩
theorem pe_not (ha:PE X a ta):PE X (.UnaryOp .Not a pos) (tNotV ta):=by
  intro pins s σ H Q I h
  refine UnaryOp_ (thn (ha pins s σ H _ I h) fun v s1 q9=>?_)
  obtain⟨x,H1,I1,r1,q1⟩:=q9
  obtain⟨c,rfl,q1⟩:=q1
  cases r1
  exact not_of (wpAny_truthy_bool ⟨.bl (!c),H1,I1,rfl,q1⟩)
noncomputable def tIf (t:TT) (ta tb:TE):TE:=fun σ H Q=>t σ H fun c H1=>if c=true then ta σ H1 Q else tb σ H1 Q
theorem pe_ifExp {c:Expr} (hc:PT X c tA) (ha:PE X a ta) (hb:PE X b tb):PE X (.IfExp c a b pos) (tIf tA ta tb):=by
  intro pins s σ H Q I h
  refine wpAny_IfExp (thn (hc pins s σ H _ I h) fun d s1 q9=>?_)
  obtain⟨H1,I1,q1⟩:=q9
  cases d with
  | true=>exact ha pins s1 σ H1 Q I1 q1
  | false=>exact hb pins s1 σ H1 Q I1 q1
end
end L2
namespace L2
open PySem PySem.Spec PyProof.Rows
noncomputable def SqL (K:PySem.W.Frag) (H:Hp) (a:Addr) (xs:List V):Prop:=
  Rd H a (.lst xs)\/
    ∃ (o:Obj) (its:Array Value) (n:Nat),K.lookup a=some o/\o.cls=.type "list"/\o.dict=none/\o.data=.seq its n/\its.size<=sizeLine/\Vals xs its.toList
noncomputable def SqT (K:PySem.W.Frag) (H:Hp) (a:Addr) (xs:List V):Prop:=
  Rd H a (.tup xs)\/
    ∃ (o:Obj) (its:Array Value) (n:Nat),K.lookup a=some o/\o.cls=.type "tuple"/\o.data=.seq its n/\its.size<=sizeLine/\Vals xs its.toList
noncomputable def absV:Value->Option V
  | .none=>some .non
  | .bool b=>some (.bl b)
  | .int i _=>some (.int i)
  | .str x _=>some (.str x)
  | .bytes b _=>some (.byt b)
  | .float b _=>some (.flt b)
  | .ref a=>some (.ref a)
  | .type n=>some (.ty n)
  | _=>none
theorem RelV.abs {x:V}{u:Value} (r:RelV x u):absV u=some x:=by
  cases x with
  | non=>cases r; rfl
  | bl _=>cases r; rfl
  | int _=>obtain⟨t,rfl⟩:=r; rfl
  | str _=>obtain⟨t,rfl⟩:=r; rfl
  | byt _=>obtain⟨t,rfl⟩:=r; rfl
  | flt _=>obtain⟨t,rfl⟩:=r; rfl
  | ref _=>cases r; rfl
  | ty _=>cases r; rfl
theorem RelV.inj {x y:V}{u:Value} (r:RelV x u) (q:RelV y u):x=y:=Option.some.inj (r.abs.symm.trans q.abs)
theorem Vals.inj {xs ys:List V}{us:List Value} (h:Vals xs us) (h':Vals ys us):xs=ys:=by
  induction h generalizing ys with
  | nil=>cases h'; rfl
  | cons r t ih=>cases h' with
    | cons r' t'=>rw [r.inj r',ih t']
section
variable {X:Cx}{pins:List (Addr×Obj)}{σ:St}{H:Hp}{s:Shared}{a:Addr}{xs ys:List V}
theorem SqL.of {K:PySem.W.Frag} (h:H a=some (.lst xs)):SqL K H a xs:=.inl (.inl h)
theorem SqT.of {K:PySem.W.Frag} (h:H a=some (.tup xs)):SqT K H a xs:=.inl (.inl h)
theorem Inv.list (I:Inv X pins σ H s) (h:SqL X.K H a xs):∃ its:List Value,Vals xs its/\PlainL s.heap a its.toArray/\xs.length<=sizeLine:=by
  rcases h with h | ⟨o,its,n,hk,hc,hd,hs,hz,r⟩
  · obtain⟨z,its,n,r,e⟩:=h.ok I.hok
    exact⟨its,r,⟨_,n,e,rfl,rfl,rfl⟩,z⟩
  · refine⟨its.toList,r,⟨o,n,I.kIn a o hk,hc,hd,by simpa using hs⟩,?_⟩
    have e:=r.length
    simp only [Array.length_toList] at e
    lia
theorem Inv.tuple (I:Inv X pins σ H s) (h:SqT X.K H a xs):∃ its:List Value,Vals xs its/\IsTup s.heap a its.toArray/\xs.length<=sizeLine:=by
  rcases h with h | ⟨o,its,n,hk,hc,hs,hz,r⟩
  · obtain⟨z,its,r,p⟩:=h.ok I.hok
    exact⟨its,r,p,z⟩
  · refine⟨its.toList,r,⟨o,I.kIn a o hk,hc,n,by simpa using hs⟩,?_⟩
    have e:=r.length
    simp only [Array.length_toList] at e
    lia
theorem Inv.list_inj (I:Inv X pins σ H s) (h:SqL X.K H a xs) (h':SqL X.K H a ys):xs=ys:=by
  obtain⟨its,r,⟨o,n,e,_,_,d⟩,_⟩:=I.list h
  obtain⟨its',r',⟨o',n',e',_,_,d'⟩,_⟩:=I.list h'
  rw [e] at e'; cases e'
  rw [d] at d'
  injection d' with d1 _
  have:its=its':=by simpa using congrArg Array.toList d1
  subst this
  exact r.inj r'
theorem Inv.tuple_inj (I:Inv X pins σ H s) (h:SqT X.K H a xs) (h':SqT X.K H a ys):xs=ys:=by
  obtain⟨its,r,⟨o,e,_,n,d⟩,_⟩:=I.tuple h
  obtain⟨its',r',⟨o',e',_,n',d'⟩,_⟩:=I.tuple h'
  rw [e] at e'; cases e'
  rw [d] at d'
  injection d' with d1 _
  have:its=its':=by simpa using congrArg Array.toList d1
  subst this
  exact r.inj r'
end
noncomputable abbrev Cx.wish (X:Cx) (E:Value->Shared->Prop):Cx:={ X with xe:=E }
noncomputable abbrev Cx.nox (X:Cx):Cx:=X.wish fun _ _=>False
theorem Cx.Ok.wish {X:Cx} (ok:X.Ok) (E:Value->Shared->Prop):(X.wish E).Ok:=
  ⟨ok.mod,ok.kind,ok.glob,ok.blt,ok.above,ok.inj,ok.has,ok.cab,ok.hd,ok.frames,ok.stk,ok.exf,ok.bs,ok.bsz,ok.noex,ok.exfs,ok.funs,ok.frf⟩
theorem Cx.Ok.unwish {X:Cx}{E:Value->Shared->Prop} (ok:(X.wish E).Ok):X.Ok:=
  ⟨ok.mod,ok.kind,ok.glob,ok.blt,ok.above,ok.inj,ok.has,ok.cab,ok.hd,ok.frames,ok.stk,ok.exf,ok.bs,ok.bsz,ok.noex,ok.exfs,ok.funs,ok.frf⟩
section
variable {X:Cx}{pins:List (Addr×Obj)}{σ:St}{H:Hp}{s:Shared}{E:Value->Shared->Prop}
theorem Inv.wish (I:Inv X pins σ H s) (E:Value->Shared->Prop):Inv (X.wish E) pins σ H s:=⟨I.ok.wish E,I.os,I.bare,I.base,I.loc,I.cell,I.free,I.freeC,I.pin,I.hok,I.len⟩
theorem Inv.unwish (I:Inv (X.wish E) pins σ H s):Inv X pins σ H s:=⟨I.ok.unwish,I.os,I.bare,I.base,I.loc,I.cell,I.free,I.freeC,I.pin,I.hok,I.len⟩
theorem SP.unwish {D:Ends}{f:Flow}{s':Shared} (h:SP (X.wish E) pins D f s'):SP X pins D f s':=by
  cases f with
  | next=>obtain⟨σ',H',I,q⟩:=h; exact⟨σ',H',I.unwish,q⟩
  | brk=>obtain⟨σ',H',I,q⟩:=h; exact⟨σ',H',I.unwish,q⟩
  | cont=>obtain⟨σ',H',I,q⟩:=h; exact⟨σ',H',I.unwish,q⟩
  | ret u=>obtain⟨v,σ',H',I,r,q⟩:=h; exact⟨v,σ',H',I.unwish,r,q⟩
theorem PSs.nox {st:List Stmt}{t:TS} (h:PSs X.nox st t):PSs X st t:=fun pins s σ H D I hw=>
  wpAny_mono (h pins s σ H D (I.wish _) hw) (fun _ _ q=>q.unwish) fun _ _ z=>False.elim z
end
section
variable {X:Cx}{st:Stmt}{rest:List Stmt}{t u:TS}{e:Expr}{te:TE}{pos:Pos}
noncomputable def tNext:TS:=fun D σ H=>D.nx σ H
noncomputable def tSeq (t u:TS):TS:=fun D σ H=>t { D with nx:=u D } σ H
theorem pss_nil:PSs X [] tNext:=fun _ _ σ H _ I h=>wpAny_execs_nil ⟨σ,H,I,h⟩
theorem pss_cons (h1:PS X st t) (h2:PSs X rest u):PSs X (st::rest) (tSeq t u):=by
  intro pins s σ H D I h
  refine wpAny_execs_cons (thn (h1 pins s σ H { D with nx:=u D } I h) fun f s1 q=>?_)
  cases f with
  | next=>
    obtain⟨σ',H',I',q⟩:=q
    exact h2 pins s1 σ' H' D I' q
  | ret v=>exact q
  | brk=>exact q
  | cont=>exact q
theorem pss_one (h1:PS X st t):PSs X [st] t:=by
  intro pins s σ H D I h
  refine wpAny_execs_cons (thn (h1 pins s σ H D I h) fun f s1 q=>?_)
  cases f with
  | next=>exact wpAny_execs_nil q
  | ret v=>exact q
  | brk=>exact q
  | cont=>exact q
noncomputable def tBreak:TS:=fun D σ H=>D.bk σ H
noncomputable def tCont:TS:=fun D σ H=>D.ct σ H
theorem Inv.quiet {pins:List (Addr×Obj)}{σ:St}{H:Hp}{s:Shared} (I:Inv X pins σ H s):interactive X.env=false:=by simp [interactive,I.ok.kind]
noncomputable def tDrop (te:TE):TS:=fun D σ H=>te σ H fun _ H1=>D.nx σ H1
theorem ps_expr (he:PE X e te) (hs:swapsWith e none pos.line X.env=pure false:=by rfl):PS X (.Expr e pos) (tDrop te):=by
  intro pins s σ H D I h
  exact wpAny_Expr_any (thn (he pins s σ H _ I h) fun v s1 q9=>by obtain⟨x,H1,I1,r1,q1⟩:=q9; exact⟨σ,H1,I1,q1⟩) I.quiet hs
noncomputable def tRet (te:TE):TS:=fun D σ H=>te σ H D.rt
theorem ps_ret (he:PE X e te):PS X (.Return (some e) pos) (tRet te):=by
  intro pins s σ H D I h
  exact wpAny_Return_some (thn (he pins s σ H _ I h) fun v s1 q9=>by obtain⟨x,H1,I1,r1,q1⟩:=q9; exact⟨x,σ,H1,I1,r1,q1⟩)
noncomputable def tRetN:TS:=fun D _ H=>D.rt .non H
noncomputable def tIfS (c:TT) (t u:TS):TS:=fun D σ H=>c σ H fun b H1=>if b=true then t D σ H1 else u D σ H1
theorem ps_if {c:Expr}{a b:List Stmt}{tc:TT} (hc:PT X c tc) (ha:PSs X a t) (hb:PSs X b u):PS X (.If c a b pos) (tIfS tc t u):=by
  intro pins s σ H D I h
  refine wpAny_If (thn (hc pins s σ H _ I h) fun d s1 q9=>?_)
  obtain⟨H1,I1,q1⟩:=q9
  cases d with
  | true=>exact ha pins s1 σ H1 D I1 q1
  | false=>exact hb pins s1 σ H1 D I1 q1
noncomputable def tNever:TS:=fun _ _ _=>False
end
noncomputable abbrev TG:=V->St->Hp->(St->Hp->Prop)->Prop
noncomputable abbrev TGs:=List V->St->Hp->(St->Hp->Prop)->Prop
noncomputable def PG (X:Cx) (target:Expr) (t:TG):Prop:=
  ∀ (pins:List (Addr×Obj)) (s:Shared) (σ:St) (H:Hp) (v:V) (u:Value) (Q:St->Hp->Prop),Inv X pins σ H s->RelV v u->t v σ H Q->
    wpAny (model X.prog X.w) X.A (assign target X.env u) (fun _ s'=>∃ σ' H',Inv X pins σ' H' s'/\Q σ' H') X.xe s
noncomputable def PGs (X:Cx) (ts:List Expr) (t:TGs):Prop:=
  ∀ (pins:List (Addr×Obj)) (s:Shared) (σ:St) (H:Hp) (vs:List V) (us:List Value) (Q:St->Hp->Prop),Inv X pins σ H s->Vals vs us->t vs σ H Q->
    wpAny (model X.prog X.w) X.A (assignInOrder ((assignEach ts X.env).map (·.2)) us) (fun _ s'=>∃ σ' H',Inv X pins σ' H' s'/\Q σ' H') X.xe s
noncomputable abbrev TSet:=V->V->V->Hp->(Hp->Prop)->Prop
noncomputable def PSet (X:Cx) (t:TSet):Prop:=
  ∀ (pins:List (Addr×Obj)) (s:Shared) (σ:St) (H:Hp) (o i v:V) (ov iv u:Value) (Q:Hp->Prop),Inv X pins σ H s->RelV o ov->RelV i iv->RelV v u->t o i v H Q->
    wpAny (model X.prog X.w) X.A (setItem ov iv u) (fun _ s'=>∃ H',Inv X pins σ H' s'/\Q H') X.xe s
noncomputable abbrev TIp:=V->V->Hp->VK->Prop
noncomputable def PIp (X:Cx) (op:Operator) (t:TIp):Prop:=
  ∀ (pins:List (Addr×Obj)) (s:Shared) (σ:St) (H:Hp) (x y:V) (v u:Value) (Q:VK),Inv X pins σ H s->RelV x v->RelV y u->t x y H Q->
    wpAny (model X.prog X.w) X.A (inplaceOp op v u) (EP X pins σ Q) X.xe s
section
variable {X:Cx}{pos:Pos}
noncomputable def gName (i:Nat):TG:=fun v σ H Q=>Q (σ.set i (some v)) H
theorem pg_name {i:Nat}{x:Str} (hN:X.N.Nodup) (hi:X.N[i]?=some x) (hx:Loc X.env.scope x) (hf:X.fn x=true\/X.env.scope.names.lookup x=some .local:=by first | exact .inl rfl | exact .inr rfl | assumption):PG X (.Name x pos) (gName i):=by
  intro pins s σ H v u Q I r h
  exact wpAny_assign_Name (store_ok I hN hi hx r (fun s' I'=>⟨_,H,I',h⟩) hf)
noncomputable def gNil:TGs:=fun vs σ H Q=>vs=[]/\Q σ H
noncomputable def gCons (t:TG) (u:TGs):TGs:=fun vs σ H Q=>∃ v r,vs=v::r/\t v σ H fun σ' H'=>u r σ' H' Q
noncomputable def gTup (K:PySem.W.Frag) (n:Nat) (t:TGs):TG:=fun v σ H Q=>∃ a xs,v=.ref a/\SqT K H a xs/\xs.length=n/\t xs σ H Q
noncomputable def gSub (to ti:TE) (t:TSet):TG:=fun v σ H Q=>to σ H fun o H1=>ti σ H1 fun i H2=>t o i v H2 fun H3=>Q σ H3
theorem pg_sub {o i:Expr}{to ti:TE}{t:TSet} (ho:PE X o to) (hi:PE X i ti) (hs:PSet X t)
    (ha:∀ v,assign (.Subscript o i pos) X.env v=(do
      let ov <-holding [v] (eval o X.env)
      let iv <-holding [v,ov] (eval i X.env)
      standAt pos
      holding [v,ov,iv] (setItem ov iv v)
      release [v,ov,iv] []):=by intro _; rfl):PG X (.Subscript o i pos) (gSub to ti t):=by
  intro pins s σ H v u Q I r h
  rw [ha]
  refine wpAny_bind (wpAny_holding (thn (ho pins s σ H _ I h) fun ov s1 q9=>?_))
  obtain⟨x,H1,I1,r1,q1⟩:=q9
  refine wpAny_bind (wpAny_holding (thn (hi pins s1 σ H1 _ I1 q1) fun iv s2 q9=>?_))
  obtain⟨y,H2,I2,r2,q2⟩:=q9
  refine wpAny_bind (wpAny_standAt (wpAny_bind (wpAny_holding (thn (hs pins s2 σ H2 x y v ov iv u _ I2 r1 r2 r q2) fun _ s3 q9=>?_))))
  obtain⟨H3,I3,q3⟩:=q9
  exact wpAny_release ⟨σ,H3,I3,q3⟩
noncomputable def tAsg (te:TE) (g:TG):TS:=fun D σ H=>te σ H fun x H1=>g x σ H1 D.nx
theorem ps_asg {tg e:Expr}{te:TE}{g:TG} (he:PE X e te) (hg:PG X tg g) (hs:swapsWithSole [tg] e pos.line X.env=pure false:=by rfl) (hw:swappedStores [tg] e X.env=pure none:=by rfl)
    (h1:(assignEach [tg] X.env).map (·.2)=[assign tg X.env]:=by rfl):PS X (.Assign [tg] e pos) (tAsg te g):=by
  intro pins s σ H D I h
  refine wpAny_Assign_stores (thn (he pins s σ H _ I h) fun v s1 q9=>?_) hs hw
  obtain⟨x,H1,I1,r1,q1⟩:=q9
  rw [h1]
  exact thn (hg pins s1 σ H1 x v _ I1 r1 q1) fun _ s2 q=>q
theorem ps_set {i:Nat}{x:Str}{e:Expr}{te:TE}{pos':Pos} (hN:X.N.Nodup) (hi:X.N[i]?=some x) (hx:Loc X.env.scope x) (he:PE X e te) (hs:swapsWith e (some (.Name x pos')) pos.line X.env=pure false:=by rfl) (hf:X.fn x=true\/X.env.scope.names.lookup x=some .local:=by first | exact .inl rfl | exact .inr rfl | assumption):
    PS X (.Assign [.Name x pos'] e pos) (tAsg te (gName i)):=by
  intro pins s σ H D I h
  refine wpAny_Assign_Name (thn (he pins s σ H _ I h) fun v s1 q9=>?_) hs
  obtain⟨y,H1,I1,r1,q1⟩:=q9
  exact store_ok I1 hN hi hx r1 (fun s2 I2=>⟨_,H1,I2,q1⟩) hf
noncomputable def tPar (i j:Nat) (ta:TA):TS:=fun D σ H=>ta σ H fun vs H1=>∃ v w,vs=[v,w]/\D.nx ((σ.set i (some v)).set j (some w)) H1
noncomputable def tAug (i:Nat) (te:TE) (ti:TIp):TS:=fun D σ H=>∃ x,σ[i]?=some (some x)/\te σ H fun y H1=>ti x y H1 fun z H2=>D.nx (σ.set i (some z)) H2
noncomputable def tAugS (to ti te:TE) (tget:V->V->Hp->VK->Prop) (tip:TIp) (tset:TSet):TS:=fun D σ H=>to σ H fun o H1=>ti σ H1 fun i H2=>tget o i H2 fun x H3=>te σ H3 fun y H4=>tip x y H4 fun z H5=>tset o i z H5 fun H6=>D.nx σ H6
noncomputable def PGet (X:Cx) (t:V->V->Hp->VK->Prop):Prop:=
  ∀ (pins:List (Addr×Obj)) (s:Shared) (σ:St) (H:Hp) (o i:V) (ov iv:Value) (Q:VK),Inv X pins σ H s->RelV o ov->RelV i iv->t o i H Q->
    wpAny (model X.prog X.w) X.A (getItem ov iv) (EP X pins σ Q) X.xe s
noncomputable def ipI (f:Int->Int->Int):TIp:=fun x y H Q=>∃ i j,x=.int i/\y=.int j/\Q (.int (f i j)) H
end
section
variable {X:Cx}{pos:Pos}
noncomputable def tWhile (c:TT) (tb:TS):TS:=fun D σ H=>∃ W:Nat->St->Hp->Prop,(∃ m,W m σ H)/\∀ m σ H,W m σ H->
  c σ H fun b H1=>if b=true then ∃ N:St->Hp->Prop,(∀ σ' H',N σ' H'->∃ m',m' < m/\W m' σ' H')/\tb { D with nx:=N,ct:=N,bk:=D.nx } σ H1 else D.nx σ H1
theorem ps_while {c:Expr}{body:List Stmt}{tc:TT}{tb:TS} (hp:PassesOwn (model X.prog X.w) X.A X.env X.xe) (hc:PT X c tc) (hb:PSs X body tb):PS X (.While c body [] pos) (tWhile tc tb):=by
  intro pins s σ H D I h
  obtain⟨W,⟨m0,w0⟩,turn⟩:=h
  refine wpAny_While (codeAny_whileLoop (fun n s'=>∃ σ' H',Inv X pins σ' H' s'/\W n σ' H') ?_ m0 ⟨σ,H,I,w0⟩)
  rintro n s1 ⟨σ1,H1,I1,w1⟩
  refine wpAny_passesOwn hp (thn (hc pins s1 σ1 H1 _ I1 (turn n σ1 H1 w1)) fun b s2 q9=>?_)
  obtain⟨H2,I2,q2⟩:=q9
  cases b with
  | true=>
    obtain⟨N,hN,q2⟩:=q2
    rw [if_pos rfl]
    refine wpAny_passesOwn hp (thn (hb pins s2 σ1 H2 _ I2 q2) fun f s3 q3=>?_)
    cases f with
    | next=>
      obtain⟨σ3,H3,I3,n3⟩:=q3
      obtain⟨m',hm,w3⟩:=hN σ3 H3 n3
      exact⟨m',hm,σ3,H3,I3,w3⟩
    | cont=>
      obtain⟨σ3,H3,I3,n3⟩:=q3
      obtain⟨m',hm,w3⟩:=hN σ3 H3 n3
      exact⟨m',hm,σ3,H3,I3,w3⟩
    | brk=>exact q3
    | ret v=>exact q3
  | false=>
    rw [if_neg Bool.false_ne_true]
    exact wpAny_execs_nil ⟨σ1,H2,I2,q2⟩
end
structure It where
  go:Nat->Hp->Prop
  yld:Nat->Hp->V->Hp->Prop
  stop:Nat->Hp->Prop
noncomputable def FpOk (X:Cx) (pins:List (Addr×Obj)) (H:Hp) (b:Addr):Prop:=
  H b=none/\b≠X.env.locals/\b∉X.fs/\(b∈X.ex\/X.s₀.heap.objs.size<=b)/\(∀ x c,X.env.cells.lookup x=some c->c≠b)/\∀ p∈X.pn++pins,p.1≠b
theorem Inv.fpOk {X:Cx}{pins:List (Addr×Obj)}{σ:St}{H H':Hp}{s:Shared}{b:Addr} (I:Inv X pins σ H s) (hb:s.heap.objs.size<=b) (hn:H' b=none):FpOk X pins H' b:=by
  refine⟨hn,Nat.ne_of_gt (Nat.lt_of_lt_of_le I.lt hb),I.nofs hb,.inr (Nat.le_trans I.sz hb),fun x c e z=>?_,fun p hp z=>?_⟩
  · obtain⟨v,q⟩:=I.cell x c e
    exact absurd (Nat.lt_of_lt_of_le q.lt (by rw [z]; exact hb)) (Nat.lt_irrefl _)
  · exact absurd (Nat.lt_of_lt_of_le (Heap.lt_size (I.pin p hp).1) (by rw [z]; exact hb)) (Nat.lt_irrefl _)
structure Turn (P:Program) (w:World) (K:PySem.W.Frag) (tg:Expr) (J:It) (fp:List Addr) (it:Addr) (tn:Nat->Heap->Prop):Prop where
  mem:it∈fp
  obj:∀ i h,tn i h->∀ b∈fp,∃ o,h.get? b=some o/\∀ v,o.data≠.cell v
  keep:∀ i h h',tn i h->(∀ b∈fp,∀ o,h.get? b=some o->h'.get? b=some o)->tn i h'
  item:∀ (X:Cx),X.prog=P->X.w=w->X.K=K->X.calm=true->∀ (i:Nat) (pins:List (Addr×Obj)) (s:Shared) (σ:St) (H:Hp) (E:Value->Shared->Prop),Inv X pins σ H s->(∀ b∈fp,FpOk X pins H b)->tn i s.heap->J.go i H->
    wpAny (model P w) X.A (pyNext (.ref it)) (fun r s1=>∃ u,r=some u/\
      wpAny (model P w) X.A (letOwnedTupleGo tg (.ref it) u) (fun _ s2=>∃ x H',Inv X pins σ H' s2/\RelV x u/\J.yld i H x H'/\tn (i+1) s2.heap/\∀ b∈fp,H' b=none) E s1) E s
  done:∀ (X:Cx),X.prog=P->X.w=w->X.K=K->X.calm=true->∀ (i:Nat) (pins:List (Addr×Obj)) (s:Shared) (σ:St) (H:Hp) (E:Value->Shared->Prop),Inv X pins σ H s->(∀ b∈fp,FpOk X pins H b)->tn i s.heap->J.stop i H->
    wpAny (model P w) X.A (pyNext (.ref it)) (fun r s1=>r=none/\Inv X pins σ H s1) E s
  self:∀ (A:Around) (i:Nat) (s:Shared) (Q:Value->Shared->Prop) (E:Value->Shared->Prop),tn i s.heap->Q (.ref it) s->wpAny (model P w) A (pyIter (.ref it)) Q E s
noncomputable abbrev TI:=St->Hp->(It->Hp->Prop)->Prop
noncomputable def PIE (X:Cx) (pins:List (Addr×Obj)) (σ:St) (tg:Expr) (R:It->Hp->Prop) (itv:Value) (s2:Shared):Prop:=
  ∃ (it:Addr) (fp:List Addr) (tn:Nat->Heap->Prop) (J:It) (H':Hp),itv=.ref it/\Inv X pins σ H' s2/\Turn X.prog X.w X.K tg J fp it tn/\tn 0 s2.heap/\(∀ b∈fp,FpOk X pins H' b)/\R J H'
noncomputable def PI (X:Cx) (tg iter:Expr) (wi:TI):Prop:=
  ∀ (pins:List (Addr×Obj)) (s:Shared) (σ:St) (H:Hp) (R:It->Hp->Prop),Inv X pins σ H s->wi σ H R->
    wpAny (model X.prog X.w) X.A (eval iter X.env) (fun v s1=>wpAny (model X.prog X.w) X.A (pyIter v) (PIE X pins σ tg R) X.xe s1) X.xe s
theorem go_of {M:Model}{A:Around}{E:Value->Shared->Prop}{s:Shared}{tg:Expr}{it:Addr}{u:Value}{o:Obj}{n:String}{vs:Array Value}{Q:Unit->Shared->Prop} (ho:s.heap.get? it=some o) (hc:o.cls=.type n) (hd:o.data=.fields vs)
    (hn:["enumerate","zip","dict_itemiterator","dict_reverseitemiterator","odict_iterator","itertools.zip_longest","itertools.pairwise"].contains n=false) (hQ:Q () s):wpAny M A (letOwnedTupleGo tg (.ref it) u) Q E s:=by
  unfold letOwnedTupleGo
  cases tg<;>first
    | exact wpAny_pure hQ
    | (cases u<;>first
        | exact wpAny_pure hQ
        | (refine wpAny_bind (wpAny_load ho ?_)
           rw [hc,hd]
           show wpAny M A (if (["enumerate","zip","dict_itemiterator","dict_reverseitemiterator","odict_iterator","itertools.zip_longest","itertools.pairwise"].contains n&&vs[0]?==some (rawInt _))=true then _ else _) Q E s
           rw [if_neg (by intro h; rw [hn,Bool.false_and] at h; cases h)]
           exact wpAny_pure hQ))
noncomputable def Itl (K:PySem.W.Frag) (a:Addr):It:=
  ⟨fun i H=>∃ xs x,SqL K H a xs/\xs[i]?=some x,fun i H x H'=>H'=H/\∀ xs,SqL K H a xs->xs[i]?=some x,fun i H=>∃ xs,SqL K H a xs/\xs.length<=i⟩
noncomputable def Itt (K:PySem.W.Frag) (a:Addr):It:=
  ⟨fun i H=>∃ xs x,SqT K H a xs/\xs[i]?=some x,fun i H x H'=>H'=H/\∀ xs,SqT K H a xs->xs[i]?=some x,fun i H=>∃ xs,SqT K H a xs/\xs.length<=i⟩
noncomputable def Itr (lo:Int) (n:Nat):It:=⟨fun i _=>i < n,fun i H x H'=>H'=H/\x=.int (lo+i),fun i _=>n<=i⟩
theorem turn_list {P:Program}{w:World}{K:PySem.W.Frag}{tg:Expr} (a it:Addr):Turn P w K tg (Itl K a) [it] it (fun i h=>h.IsListIter it a i) where
  mem:=by simp
  obj:=fun i h st b hb=>by
    have e:b=it:=by simpa using hb
    subst e
    obtain⟨o,e,c,d⟩:=st
    exact⟨o,e,fun v z=>by rw [d] at z; cases z⟩
  keep:=fun i h h' st k=>st.at fun o e=>k it (by simp) o e
  item:=by
    intro X hP hw hK hc i pins s σ H E I hf st hg
    subst hP hw hK
    obtain⟨xs,x,hq,hx⟩:=hg
    obtain⟨its,rv,p,hz⟩:=I.list hq
    obtain⟨u,hu,ru⟩:=rv.get hx
    obtain⟨f0,f1,f2,f3,f4,f5⟩:=hf it (by simp)
    refine wpAny_pyNext_list_item st p.isList (x:=u) (by simpa using hu) fun h' st' sb=>?_
    have I1:Inv X pins σ H { s with heap:=h' }:=I.turned (t':=s.toks) (fun b o hb e=>(sb.2 b hb).trans e) f0 f1 f3 f4 f5
    obtain⟨o,e,c,d⟩:=id st'
    exact⟨u,rfl,go_of (s:={ s with heap:=h' }) e c d (by decide) ⟨x,H,I1,ru,⟨rfl,fun ys hy=>by rw [I.list_inj hy hq]; exact hx⟩,st',fun b hb=>(hf b hb).1⟩⟩
  done:=by
    intro X hP hw hK hc i pins s σ H E I hf st hg
    subst hP hw hK
    obtain⟨xs,hq,hx⟩:=hg
    obtain⟨its,rv,p,hz⟩:=I.list hq
    obtain⟨f0,f1,f2,f3,f4,f5⟩:=hf it (by simp)
    have hl:=rv.length
    exact wpAny_pyNext_list_end (I.ok.hd hc) st p.isList (by simp; lia) fun h' eb=>⟨rfl,I.turned (t':=s.toks) (fun b o hb e=>eb b o hb e) f0 f1 f3 f4 f5⟩
  self:=fun _ _ _ _ _ st h=>wpAny_pyIter_listiter st h
theorem turn_tuple {P:Program}{w:World}{K:PySem.W.Frag}{tg:Expr} (a it:Addr):Turn P w K tg (Itt K a) [it] it (fun i h=>h.IsTupleIter it a i) where
  mem:=by simp
  obj:=fun i h st b hb=>by
    have e:b=it:=by simpa using hb
    subst e
    obtain⟨o,e,c,d⟩:=st
    exact⟨o,e,fun v z=>by rw [d] at z; cases z⟩
  keep:=fun i h h' st k=>st.at fun o e=>k it (by simp) o e
  item:=by
    intro X hP hw hK hc i pins s σ H E I hf st hg
    subst hP hw hK
    obtain⟨xs,x,hq,hx⟩:=hg
    obtain⟨its,rv,p,hz⟩:=I.tuple hq
    obtain⟨u,hu,ru⟩:=rv.get hx
    obtain⟨f0,f1,f2,f3,f4,f5⟩:=hf it (by simp)
    refine wpAny_pyNext_tuple_item st (show s.heap.IsTuple a its.toArray from p) (x:=u) (by simpa using hu) fun h' st' sb=>?_
    have I1:Inv X pins σ H { s with heap:=h' }:=I.turned (t':=s.toks) (fun b o hb e=>(sb.2 b hb).trans e) f0 f1 f3 f4 f5
    obtain⟨o,e,c,d⟩:=id st'
    exact⟨u,rfl,go_of (s:={ s with heap:=h' }) e c d (by decide) ⟨x,H,I1,ru,⟨rfl,fun ys hy=>by rw [I.tuple_inj hy hq]; exact hx⟩,st',fun b hb=>(hf b hb).1⟩⟩
  done:=by
    intro X hP hw hK hc i pins s σ H E I hf st hg
    subst hP hw hK
    obtain⟨xs,hq,hx⟩:=hg
    obtain⟨its,rv,p,hz⟩:=I.tuple hq
    obtain⟨f0,f1,f2,f3,f4,f5⟩:=hf it (by simp)
    have hl:=rv.length
    exact wpAny_pyNext_tuple_end (I.ok.hd hc) st (show s.heap.IsTuple a its.toArray from p) (by simp; lia) fun h' eb=>⟨rfl,I.turned (t':=s.toks) (fun b o hb e=>eb b o hb e) f0 f1 f3 f4 f5⟩
  self:=fun _ _ _ _ _ st h=>wpAny_pyIter_tupleiter st h
theorem turn_range {P:Program}{w:World}{K:PySem.W.Frag}{tg:Expr} (it:Addr) (lo:Int) (n:Nat):Turn P w K tg (Itr lo n) [it] it (fun i h=>IsRangeIter h it (lo+(i:Nat)*1) ((n:Int) - (i:Nat)) 1) where
  mem:=by simp
  obj:=fun i h st b hb=>by
    have e:b=it:=by simpa using hb
    subst e
    exact⟨_,st,fun v z=>by
      have z':Data.fields _=Data.cell v:=z
      cases z'⟩
  keep:=fun i h h' st k=>k it (by simp) _ st
  item:=by
    intro X hP hw hK hc i pins s σ H E I hf st hg
    subst hP hw hK
    obtain⟨f0,f1,f2,f3,f4,f5⟩:=hf it (by simp)
    have W:=Walks.range (prog:=X.prog) (w:=X.w) (I.ok.hd hc) it lo 1 n
    refine W.item i s _ _ hg st fun v h' tk hv st' kk=>?_
    obtain⟨t,rfl⟩:=hv
    have I1:Inv X pins σ H { s with heap:=h',toks:=tk }:=I.turned (fun b o hb e=>kk b o (by simpa using hb) e) f0 f1 f3 f4 f5
    refine⟨_,rfl,go_of (s:={ s with heap:=h',toks:=tk }) (n:="range_iterator") st' rfl rfl (by decide) ⟨.int (lo+i),H,I1,⟨t,?_⟩,⟨rfl,rfl⟩,st',fun b hb=>(hf b hb).1⟩⟩
    rw [Int.mul_one]
  done:=by
    intro X hP hw hK hc i pins s σ H E I hf st hg
    subst hP hw hK
    obtain⟨f0,f1,f2,f3,f4,f5⟩:=hf it (by simp)
    exact wpAny_pyNext_range_end (I.ok.hd hc) st (by have:n<=i:=hg; lia) fun h' eb=>⟨rfl,I.turned (t':=s.toks) (fun b o hb e=>eb b o hb e) f0 f1 f3 f4 f5⟩
  self:=fun _ _ _ _ _ st h=>wpAny_pyIter_rangeiter st h
end L2
namespace L2
open PySem PySem.Spec PyProof.Rows
section
variable {X:Cx}{tg:Expr}
noncomputable def iList (K:PySem.W.Frag) (tl:TE):TI:=fun σ H R=>tl σ H fun x H1=>∃ a,x=.ref a/\(∃ xs,SqL K H1 a xs)/\R (Itl K a) H1
noncomputable def iTup (K:PySem.W.Frag) (tl:TE):TI:=fun σ H R=>tl σ H fun x H1=>∃ a,x=.ref a/\(∃ xs,SqT K H1 a xs)/\R (Itt K a) H1
theorem pi_list {l:Expr}{tl:TE} (hl:PE X l tl):PI X tg l (iList X.K tl):=by
  intro pins s σ H R I h
  refine thn (hl pins s σ H _ I h) fun v s1 q9=>?_
  obtain⟨x,H1,I1,r1,q1⟩:=q9
  obtain⟨a,e,⟨xs,hq⟩,q⟩:=q1
  subst e
  cases r1
  obtain⟨its,rv,p,hz⟩:=I1.list hq
  refine wpAny_pyIter_list p.isList ?_
  refine⟨s1.heap.objs.size,[s1.heap.objs.size],_,_,H1,rfl,I1.kept (t':=s1.toks) fun b o e=>Heap.get?_push_of_some _ e,turn_list a _,⟨_,Heap.get?_push_size _ rfl,rfl,rfl⟩,fun b hb=>?_,q⟩
  have e:b=s1.heap.objs.size:=by simpa using hb
  subst e
  exact I1.fpOk (Nat.le_refl _) (I1.hok.fresh (Nat.le_refl _))
theorem pi_tup {l:Expr}{tl:TE} (hl:PE X l tl):PI X tg l (iTup X.K tl):=by
  intro pins s σ H R I h
  refine thn (hl pins s σ H _ I h) fun v s1 q9=>?_
  obtain⟨x,H1,I1,r1,q1⟩:=q9
  obtain⟨a,e,⟨xs,hq⟩,q⟩:=q1
  subst e
  cases r1
  obtain⟨its,rv,p,hz⟩:=I1.tuple hq
  refine wpAny_pyIter_tuple (show s1.heap.IsTuple a its.toArray from p) ?_
  refine⟨s1.heap.objs.size,[s1.heap.objs.size],_,_,H1,rfl,I1.kept (t':=s1.toks) fun b o e=>Heap.get?_push_of_some _ e,turn_tuple a _,⟨_,Heap.get?_push_size _ rfl,rfl,rfl⟩,fun b hb=>?_,q⟩
  have e:b=s1.heap.objs.size:=by simpa using hb
  subst e
  exact I1.fpOk (Nat.le_refl _) (I1.hok.fresh (Nat.le_refl _))
theorem range_it {pins:List (Addr×Obj)}{σ:St}{H:Hp}{s:Shared}{R:It->Hp->Prop}{E:Value->Shared->Prop}{lo hi:Int}{t u v:Tok}{tk:Nat} (I:Inv X pins σ H s) (h1:-(2 ^ 62)<=lo) (h2:lo < 2 ^ 62) (h3:-(2 ^ 62)<=hi) (h4:hi < 2 ^ 62)
    (q:R (Itr lo (hi - lo).toNat) H):wpAny (model X.prog X.w) X.A (pyIter (.ref s.heap.objs.size)) (PIE X pins σ tg R) E { s with heap:=s.heap.push { cls:=.type "range",data:=.fields #[.int lo t,.int hi u,.int 1 v] },toks:=tk }:=by
  refine wpAny_pyIter_range (IsRange.new ..) (small_one h1 h2 h3 h4) ?_
  have I1:Inv X pins σ H { s with heap:=s.heap.push { cls:=.type "range",data:=.fields #[.int lo t,.int hi u,.int 1 v] },toks:=tk }:=I.kept fun b o e=>Heap.get?_push_of_some _ e
  refine⟨(s.heap.push { cls:=.type "range",data:=.fields #[.int lo t,.int hi u,.int 1 v] }).objs.size,[(s.heap.push { cls:=.type "range",data:=.fields #[.int lo t,.int hi u,.int 1 v] }).objs.size],_,_,H,rfl,
    I1.kept (t':=tk) fun b o e=>Heap.get?_push_of_some _ e,turn_range _ lo (hi - lo).toNat,?_,fun b hb=>?_,q⟩
  · have e1:lo+((0:Nat):Int)*1=lo:=by simp
    have e2:(((hi - lo).toNat:Nat):Int) - ((0:Nat):Int)=Builtin.Range.rangeSize lo hi 1:=by rw [rangeSize_one]; split<;>lia
    show IsRangeIter _ _ (lo+((0:Nat):Int)*1) ((((hi - lo).toNat:Nat):Int) - ((0:Nat):Int)) 1
    rw [e1,e2]
    exact Heap.get?_push_size _ rfl
  · have e:b=(s.heap.push { cls:=.type "range",data:=.fields #[.int lo t,.int hi u,.int 1 v] }).objs.size:=by simpa using hb
    subst e
    exact I1.fpOk (Nat.le_refl _) (I1.hok.fresh (Nat.le_refl _))
noncomputable def iRng1 (ta:TA):TI:=fun σ H R=>ta σ H fun vs H1=>∃ j:Int,vs=[.int j]/\-(2 ^ 62)<=j/\j < 2 ^ 62/\R (Itr 0 j.toNat) H1
noncomputable def iRng2 (ta:TA):TI:=fun σ H R=>ta σ H fun vs H1=>∃ i j:Int,vs=[.int i,.int j]/\(-(2 ^ 62)<=i/\i < 2 ^ 62/\-(2 ^ 62)<=j/\j < 2 ^ 62)/\R (Itr i (j - i).toNat) H1
theorem pi_range1 {a:Expr}{ta:TA}{p pos:Pos} (hg:Gl X "range") (hm:X.mg "range"=none) (ha:PA X [a] ta) (hs:starEach [a] X.env=[(false,eval a X.env)]:=by rfl):PI X tg (.Call (.Name "range" p) [a] [] pos) (iRng1 ta):=by
  intro pins s σ H R I h
  refine Call_ (ld_blt I hg hm boot_range (PyProof.Rows.callWith_type1 (thn (ha pos pins s σ H _ I h) fun us s1 q9=>?_) hs rfl))
  obtain⟨vs,H1,I1,r1,q1⟩:=q9
  obtain⟨j,e,q1,q2,q⟩:=q1
  subst e
  cases r1 with
  | cons r rr=>
    cases rr
    obtain⟨t,rfl⟩:=r
    exact call_range_1 (range_it I1 (by lia) (by lia) q1 q2 (by simpa using q))
theorem pi_range2 {a b:Expr}{ta:TA}{p pos:Pos} (hg:Gl X "range") (hm:X.mg "range"=none) (ha:PA X [a,b] ta) (hs:starEach [a,b] X.env=[(false,eval a X.env),(false,eval b X.env)]:=by rfl) (hs2:starEach [b] X.env=[(false,eval b X.env)]:=by rfl):
    PI X tg (.Call (.Name "range" p) [a,b] [] pos) (iRng2 ta):=by
  intro pins s σ H R I h
  refine Call_ (ld_blt I hg hm boot_range (PyProof.Rows.callWith_type1 (thn (ha pos pins s σ H _ I h) fun us s1 q9=>?_) (by rw [hs,hs2]) (by rw [hs2]; rfl)))
  obtain⟨vs,H1,I1,r1,q1⟩:=q9
  obtain⟨i,j,e,⟨q1,q2,q3,q4⟩,q⟩:=q1
  subst e
  cases r1 with
  | cons r rr=>
    cases rr with
    | cons r' rr=>
      cases rr
      obtain⟨t,rfl⟩:=r
      obtain⟨t',rfl⟩:=r'
      exact call_range_2 (range_it I1 q1 q2 q3 q4 q)
noncomputable def tFor (wi:TI) (g:TG) (tb:TS):TS:=fun D σ H=>wi σ H fun J H1=>∃ W:Nat->Nat->St->Hp->Prop,(∃ m,W 0 m σ H1)/\∀ i m σ H,W i m σ H->
  (J.stop i H/\D.nx σ H)\/(J.go i H/\∃ N:St->Hp->Prop,(∀ σ' H',N σ' H'->∃ m',m' < m/\W (i+1) m' σ' H')/\∀ x H',J.yld i H x H'->g x σ H' fun σ2 H2=>tb { D with nx:=N,ct:=N,bk:=D.nx } σ2 H2)
noncomputable def pinsAt (fp:List Addr) (h:Heap):List (Addr×Obj):=fp.filterMap fun b=>(h.get? b).map fun o=>(b,o)
theorem mem_pinsAt {fp:List Addr}{h:Heap}{b:Addr}{o:Obj} (hb:b∈fp) (e:h.get? b=some o):(b,o)∈pinsAt fp h:=List.mem_filterMap.mpr ⟨b,hb,by rw [e]; rfl⟩
theorem of_pinsAt {fp:List Addr}{h:Heap}{p:Addr×Obj} (hp:p∈pinsAt fp h):p.1∈fp/\h.get? p.1=some p.2:=by
  obtain⟨b,hb,e⟩:=List.mem_filterMap.mp hp
  cases q:h.get? b with
  | none=>rw [q] at e; cases e
  | some o=>
    rw [q] at e
    have e':(b,o)=p:=Option.some.inj e
    subst e'
    exact⟨hb,q⟩
theorem Inv.pinned {pins:List (Addr×Obj)}{σ:St}{H:Hp}{s:Shared}{fp:List Addr} (I:Inv X pins σ H s) (hf:∀ b∈fp,FpOk X pins H b) (ho:∀ b∈fp,∃ o,s.heap.get? b=some o/\∀ v,o.data≠.cell v):Inv X (pins++pinsAt fp s.heap) σ H s:=
  I.pins_of fun p hp=>(List.mem_append.mp hp).elim (fun z=>I.pin p (List.mem_append_right _ z)) fun z=>by
    obtain⟨hb,e⟩:=of_pinsAt z
    obtain⟨f0,f1,f2,_⟩:=hf p.1 hb
    obtain⟨o,e',d⟩:=ho p.1 hb
    rw [e] at e'; cases e'
    exact⟨e,f0,f1,f2,d⟩
theorem Inv.unpinned {pins pl:List (Addr×Obj)}{σ:St}{H:Hp}{s:Shared} (I:Inv X (pins++pl) σ H s):Inv X pins σ H s:=I.pins_of fun p hp=>I.pin p (List.mem_append_right _ (List.mem_append_left _ hp))
theorem ps_for {iter:Expr}{body:List Stmt}{wi:TI}{g:TG}{tb:TS}{pos:Pos} (hp:PassesOwn (model X.prog X.w) X.A X.env X.xe) (hc:X.calm=true) (hi:PI X tg iter wi) (hg:PG X tg g) (hb:PSs X body tb)
    (hs:∀ x,foldedSetIterable iter X.env x=pure x:=by intro _; rfl):PS X (.For tg iter body [] pos) (tFor wi g tb):=by
  intro pins s σ H D I h
  refine wpAny_For (thn (hi pins s σ H _ I h) fun v s1 h1=>thn h1 fun itv s2 h2=>?_) hs
  obtain⟨it,fp,tn,J,H2,e,I2,T,st2,f2,W,⟨m0,w0⟩,turn⟩:=h2
  subst e
  have stat:∀ {H':Hp},(∀ b∈fp,H' b=none)->∀ b∈fp,FpOk X pins H' b:=fun hn b hb=>⟨hn b hb,(f2 b hb).2⟩
  refine codeAny_forLoop_any (fun n s'=>∃ i σ' H',Inv X pins σ' H' s'/\tn i s'.heap/\(∀ b∈fp,H' b=none)/\W i n σ' H') ?_ m0 ⟨0,σ,H2,I2,st2,fun b hb=>(f2 b hb).1,w0⟩
  rintro n s3 ⟨i,σ3,H3,I3,st3,fr3,w3⟩
  rcases turn i n σ3 H3 w3 with⟨stop,qn⟩ | ⟨go,N,hN,step⟩
  · refine wpAny_passesOwn hp (thn (T.done X rfl rfl rfl hc i pins s3 σ3 H3 X.xe I3 (stat fr3) st3 stop) fun r s4 ⟨hr,I4⟩=>?_)
    subst hr
    exact wpAny_execs_nil ⟨σ3,H3,I4,qn⟩
  · refine wpAny_passesOwn hp (thn (T.item X rfl rfl rfl hc i pins s3 σ3 H3 X.xe I3 (stat fr3) st3 go) fun r s4 ⟨u,hr,h4⟩=>?_)
    subst hr
    refine wpAny_passesOwn hp (thn h4 fun _ s5 q9=>?_)
    obtain⟨x,H5,I5,r5,y5,st5,fr5⟩:=q9
    have I5':=I5.pinned (stat fr5) (T.obj _ _ st5)
    refine wpAny_passesOwn hp (thn (hg _ s5 σ3 H5 x u _ I5' r5 (step x H5 y5)) fun _ s6 q9=>?_)
    obtain⟨σ6,H6,I6,q6⟩:=q9
    refine wpAny_passesOwn hp (thn (hb _ s6 σ6 H6 _ I6 q6) fun f s7 q7=>?_)
    have again:∀ {σ7:St}{H7:Hp},Inv X (pins++pinsAt fp s5.heap) σ7 H7 s7->N σ7 H7->∃ m,m < n/\∃ i σ' H',Inv X pins σ' H' s7/\tn i s7.heap/\(∀ b∈fp,H' b=none)/\W i m σ' H':=fun {σ7 H7} I7 n7=>by
      obtain⟨m',hm,w7⟩:=hN σ7 H7 n7
      refine⟨m',hm,i+1,σ7,H7,I7.unpinned,T.keep _ _ _ st5 fun b hb o e=>(I7.pin (b,o) (List.mem_append_right _ (List.mem_append_right _ (mem_pinsAt hb e)))).1,fun b hb=>?_,w7⟩
      obtain⟨o,e,d⟩:=T.obj _ _ st5 b hb
      exact (I7.pin (b,o) (List.mem_append_right _ (List.mem_append_right _ (mem_pinsAt hb e)))).2.1
    cases f with
    | next=>obtain⟨σ7,H7,I7,n7⟩:=q7; exact again I7 n7
    | cont=>obtain⟨σ7,H7,I7,n7⟩:=q7; exact again I7 n7
    | brk=>obtain⟨σ7,H7,I7,q7⟩:=q7; exact⟨σ7,H7,I7.unpinned,q7⟩
    | ret v=>obtain⟨x7,σ7,H7,I7,r7,q7⟩:=q7; exact⟨x7,σ7,H7,I7.unpinned,r7,q7⟩
end
end L2
namespace L2
open PySem PySem.Spec PyProof.Rows
noncomputable abbrev R2:=V->V->Hp->VK->Prop
noncomputable def OpR (X:Cx) (f:Value->Value->Sem Value) (r:R2):Prop:=
  ∀ (pins:List (Addr×Obj)) (s:Shared) (σ:St) (H:Hp) (x y:V) (v u:Value) (Q:VK),Inv X pins σ H s->RelV x v->RelV y u->r x y H Q->
    wpAny (model X.prog X.w) X.A (f v u) (EP X pins σ Q) X.xe s
noncomputable def UnR (X:Cx) (f:Value->Sem Value) (r:V->Hp->VK->Prop):Prop:=
  ∀ (pins:List (Addr×Obj)) (s:Shared) (σ:St) (H:Hp) (x:V) (v:Value) (Q:VK),Inv X pins σ H s->RelV x v->r x H Q->
    wpAny (model X.prog X.w) X.A (f v) (EP X pins σ Q) X.xe s
noncomputable def CallR (X:Cx) (f:Value) (r:List V->Hp->VK->Prop):Prop:=
  ∀ (pins:List (Addr×Obj)) (s:Shared) (σ:St) (H:Hp) (xs:List V) (us:List Value) (Q:VK),Inv X pins σ H s->Vals xs us->r xs H Q->
    wpAny (model X.prog X.w) X.A (call f us) (EP X pins σ Q) X.xe s
noncomputable def TruR (X:Cx) (r:V->Hp->(Bool->Hp->Prop)->Prop):Prop:=
  ∀ (pins:List (Addr×Obj)) (s:Shared) (σ:St) (H:Hp) (x:V) (v:Value) (Q:Bool->Hp->Prop),Inv X pins σ H s->RelV x v->r x H Q->
    wpAny (model X.prog X.w) X.A (truthy v) (TP X pins σ Q) X.xe s
noncomputable def tOp (r:R2) (ta tb:TE):TE:=fun σ H Q=>ta σ H fun x H1=>tb σ H1 fun y H2=>r x y H2 Q
noncomputable def tUn (r:V->Hp->VK->Prop) (ta:TE):TE:=fun σ H Q=>ta σ H fun x H1=>r x H1 Q
noncomputable def rI (C:Int->Int->Prop) (g:Int->Int->V):R2:=fun x y H Q=>∃ i j,x=.int i/\y=.int j/\C i j/\Q (g i j) H
noncomputable def rI0 (g:Int->Int->V):R2:=fun x y H Q=>∃ i j,x=.int i/\y=.int j/\Q (g i j) H
noncomputable def rU (g:Int->V):V->Hp->VK->Prop:=fun x H Q=>∃ i,x=.int i/\Q (g i) H
section
variable {X:Cx}{a b c:Expr}{ta tb tc:TE}{pos:Pos}
theorem binT (ha:PE X a ta) (hb:PE X b tb) {pins:List (Addr×Obj)}{s:Shared}{σ:St}{H:Hp}{R:V->V->Hp->Prop} (I:Inv X pins σ H s)
    (h:ta σ H fun x H1=>tb σ H1 fun y H2=>R x y H2) {Q:Value->Shared->Prop}{f:Value->Value->Sem Value}
    (hf:∀ v u s2 x y H2,Inv X pins σ H2 s2->RelV x v->RelV y u->R x y H2->wpAny (model X.prog X.w) X.A (f v u) Q X.xe s2):
    wpAny (model X.prog X.w) X.A (eval a X.env) (fun v s₁=>wpAny (model X.prog X.w) X.A (eval b X.env) (fun u s₂=>wpAny (model X.prog X.w) X.A (f v u) Q X.xe s₂) X.xe s₁) X.xe s:=by
  refine thn (ha pins s σ H _ I h) fun v s1 q9=>?_
  obtain⟨x,H1,I1,r1,q1⟩:=q9
  refine thn (hb pins s1 σ H1 _ I1 q1) fun u s2 q9=>?_
  obtain⟨y,H2,I2,r2,q2⟩:=q9
  exact hf v u s2 x y H2 I2 r1 r2 q2
theorem pe_op {op:Operator}{r:R2} (ho:OpR X (binaryOp op) r) (ha:PE X a ta) (hb:PE X b tb):PE X (.BinOp a op b pos) (tOp r ta tb):=by
  intro pins s σ H Q I h
  exact wpAny_BinOp (binT ha hb I h fun v u s2 x y H2 I2 rx ry q=>ho pins s2 σ H2 x y v u Q I2 rx ry q)
theorem pe_un {op:UnaryOp}{r:V->Hp->VK->Prop} (ho:UnR X (unaryOp op) r) (ha:PE X a ta):PE X (.UnaryOp op a pos) (tUn r ta):=by
  intro pins s σ H Q I h
  exact UnaryOp_ (thn (ha pins s σ H _ I h) fun v s1 q9=>by obtain⟨x,H1,I1,r1,q1⟩:=q9; exact ho pins s1 σ H1 x v Q I1 r1 q1)
theorem opI {f:Value->Value->Sem Value}{C:Int->Int->Prop}{g:Int->Int->Int}
    (rule:∀ (i j:Int) (t u:Tok) (s:Shared) (Q:Value->Shared->Prop) (E:Value->Shared->Prop),C i j->Q (.int (g i j) s.toks) { s with toks:=s.toks+1 }->wpAny (model X.prog X.w) X.A (f (.int i t) (.int j u)) Q E s):
    OpR X f (rI C fun i j=>.int (g i j)):=by
  intro pins s σ H x y v u Q I rx ry h
  obtain⟨i,j,rfl,rfl,hc,q⟩:=h
  obtain⟨t,rfl⟩:=rx
  obtain⟨t',rfl⟩:=ry
  exact rule i j t t' s _ _ hc ⟨.int (g i j),H,I.tok _,⟨_,rfl⟩,q⟩
theorem opI0 {f:Value->Value->Sem Value}{g:Int->Int->Int}
    (rule:∀ (i j:Int) (t u:Tok) (s:Shared) (Q:Value->Shared->Prop) (E:Value->Shared->Prop),Q (.int (g i j) s.toks) { s with toks:=s.toks+1 }->wpAny (model X.prog X.w) X.A (f (.int i t) (.int j u)) Q E s):
    OpR X f (rI0 fun i j=>.int (g i j)):=by
  intro pins s σ H x y v u Q I rx ry h
  obtain⟨i,j,rfl,rfl,q⟩:=h
  obtain⟨t,rfl⟩:=rx
  obtain⟨t',rfl⟩:=ry
  exact rule i j t t' s _ _ ⟨.int (g i j),H,I.tok _,⟨_,rfl⟩,q⟩
theorem opB0 {f:Value->Value->Sem Value}{g:Int->Int->Bool}
    (rule:∀ (i j:Int) (t u:Tok) (s:Shared) (Q:Value->Shared->Prop) (E:Value->Shared->Prop),Q (.bool (g i j)) s->wpAny (model X.prog X.w) X.A (f (.int i t) (.int j u)) Q E s):
    OpR X f (rI0 fun i j=>.bl (g i j)):=by
  intro pins s σ H x y v u Q I rx ry h
  obtain⟨i,j,rfl,rfl,q⟩:=h
  obtain⟨t,rfl⟩:=rx
  obtain⟨t',rfl⟩:=ry
  exact rule i j t t' s _ _ ⟨.bl (g i j),H,I,rfl,q⟩
noncomputable def CDiv (i j:Int):Prop:=0 < j/\j < 1073741824
noncomputable def CDivN (i j:Int):Prop:=j≠0/\j.natAbs < 1073741824
noncomputable def CPow (i j:Int):Prop:=0<=j/\j<=1000000/\i.natAbs < 2 ^ 64
noncomputable def CMul (i j:Int):Prop:=(-(2 ^ 64) < i/\i < 2 ^ 64)\/(-(2 ^ 64) < j/\j < 2 ^ 64)
theorem CMul.ok {i j:Int} (h:CMul i j):IntMulOk i j:=by
  rcases h with⟨h1,h2⟩ | ⟨h1,h2⟩
  · exact .of_left (intBits_le_64 h1 h2)
  · exact .of_right (intBits_le_64 h1 h2)
theorem op_add:OpR X (binaryOp .Add) (rI0 fun i j=>.int (i+j)):=opI0 fun _ _ _ _ _ _ _ q=>add_int q
theorem op_sub:OpR X (binaryOp .Sub) (rI0 fun i j=>.int (i - j)):=opI0 fun _ _ _ _ _ _ _ q=>sub_int q
theorem op_fdiv:OpR X (binaryOp .FloorDiv) (rI CDiv fun i j=>.int (i / j)):=opI fun i j _ _ _ _ _ hc q=>by
  have h1:(0:Int) < j:=hc.1
  have h2:j < 1073741824:=hc.2
  exact floordiv_int (by lia) (by rw [Int.fdiv_eq_ediv_of_nonneg i (by lia)]; exact q) (.inl (PyProof.noPylong_small (by lia)))
theorem op_mod:OpR X (binaryOp .Mod) (rI (fun _ j=>0 < j) fun i j=>.int (i % j)):=opI fun i j _ _ _ _ _ hc q=>by
  have h1:(0:Int) < j:=hc
  exact mod_int' (by lia) (by rw [Int.fmod_eq_emod_of_nonneg i (by lia)]; exact q)
theorem op_pow:OpR X (binaryOp .Pow) (rI CPow fun i j=>.int (i ^ j.toNat)):=opI fun _ _ _ _ _ _ _ hc q=>pow_int_small hc.1 hc.2.1 hc.2.2 q
theorem unI {f:Value->Sem Value}{g:Int->Int}
    (rule:∀ (i:Int) (t:Tok) (s:Shared) (Q:Value->Shared->Prop) (E:Value->Shared->Prop),Q (.int (g i) s.toks) { s with toks:=s.toks+1 }->wpAny (model X.prog X.w) X.A (f (.int i t)) Q E s):
    UnR X f (rU fun i=>.int (g i)):=by
  intro pins s σ H x v Q I rx h
  obtain⟨i,rfl,q⟩:=h
  obtain⟨t,rfl⟩:=rx
  exact rule i t s _ _ ⟨.int (g i),H,I.tok _,⟨_,rfl⟩,q⟩
theorem un_neg:UnR X (unaryOp .USub) (rU fun i=>.int (-i)):=unI fun _ _ _ _ _ q=>neg_int q
end
noncomputable def scal:V->V->Bool
  | .non,.non=>true | .non,.int _=>true | .int _,.non=>true | .non,.bl _=>true | .bl _,.non=>true | .non,.str _=>true | .str _,.non=>true
  | .int _,.int _=>true | .bl _,.bl _=>true | .str _,.str _=>true | .byt _,.byt _=>true
  | .int _,.str _=>true | .str _,.int _=>true | .bl _,.str _=>true | .str _,.bl _=>true
  | _,_=>false
noncomputable def rEq:R2:=fun x y H Q=>scal x y=true/\Q (.bl (decide (x=y))) H
noncomputable def rNe:R2:=fun x y H Q=>scal x y=true/\Q (.bl (!decide (x=y))) H
theorem dec_int {i j:Int}:decide (V.int i=V.int j)=(i==j):=by
  rw [Bool.eq_iff_iff]
  simp
theorem dec_bl {i j:Bool}:decide (V.bl i=V.bl j)=(i==j):=by
  rw [Bool.eq_iff_iff]
  simp
theorem dec_str {i j:Str}:decide (V.str i=V.str j)=(i==j):=by
  rw [Bool.eq_iff_iff]
  simp
theorem dec_byt {i j:Array UInt8}:decide (V.byt i=V.byt j)=(i.toList==j.toList):=by
  rw [Bool.eq_iff_iff]
  cases i
  cases j
  simp
section
variable {X:Cx}{a b c:Expr}{ta tb tc:TE}{pos:Pos}
theorem fin_bl {pins:List (Addr×Obj)}{σ:St}{H:Hp}{s:Shared}{Q:VK}{k k':Bool} (I:Inv X pins σ H s) (q:Q (.bl k) H) (e:k=k'):EP X pins σ Q (.bool k') s:=by
  subst e
  exact⟨.bl k,H,I,rfl,q⟩
theorem op_eq:OpR X (compareOp .Eq) rEq:=by
  intro pins s σ H x y v u Q I rx ry h
  obtain⟨hs,q⟩:=h
  cases x with
  | non=>
    cases rx
    cases y with
    | non=>cases ry; exact PySem.EqNone.eq_none_none (fin_bl I q (by simp))
    | bl j=>cases ry; exact PySem.EqNone.eq_none_bool (fin_bl I q (by simp))
    | int j=>obtain⟨t',rfl⟩:=ry; exact PySem.EqNone.eq_none_int (fin_bl I q (by simp))
    | str j=>obtain⟨t',rfl⟩:=ry; exact PySem.EqNone.eq_none_str (fin_bl I q (by simp))
    | _=>exact absurd (show false=true from hs) Bool.false_ne_true
  | bl i=>
    cases rx
    cases y with
    | non=>cases ry; exact PySem.EqNone.eq_bool_none (fin_bl I q (by simp))
    | bl j=>cases ry; exact eq_bool (fin_bl I q dec_bl)
    | str j=>obtain⟨t',rfl⟩:=ry; exact PySem.EqMixed.eq_bool_str (fin_bl I q (by simp))
    | _=>exact absurd (show false=true from hs) Bool.false_ne_true
  | int i=>
    obtain⟨t,rfl⟩:=rx
    cases y with
    | non=>cases ry; exact PySem.EqNone.eq_int_none (fin_bl I q (by simp))
    | int j=>obtain⟨t',rfl⟩:=ry; exact eq_int (fin_bl I q dec_int)
    | str j=>obtain⟨t',rfl⟩:=ry; exact PySem.EqMixed.eq_int_str (fin_bl I q (by simp))
    | _=>exact absurd (show false=true from hs) Bool.false_ne_true
  | str i=>
    obtain⟨t,rfl⟩:=rx
    cases y with
    | non=>cases ry; exact PySem.EqNone.eq_str_none (fin_bl I q (by simp))
    | bl j=>cases ry; exact PySem.EqMixed.eq_str_bool (fin_bl I q (by simp))
    | int j=>obtain⟨t',rfl⟩:=ry; exact PySem.EqMixed.eq_str_int (fin_bl I q (by simp))
    | str j=>obtain⟨t',rfl⟩:=ry; exact eq_str (fin_bl I q dec_str)
    | _=>exact absurd (show false=true from hs) Bool.false_ne_true
  | byt i=>
    obtain⟨t,rfl⟩:=rx
    cases y with
    | byt j=>obtain⟨t',rfl⟩:=ry; exact PySem.W.eq_bytes (fin_bl I q dec_byt)
    | _=>exact absurd (show false=true from hs) Bool.false_ne_true
  | _=>cases y<;>exact absurd (show false=true from hs) Bool.false_ne_true
theorem op_ne:OpR X (compareOp .NotEq) rNe:=by
  intro pins s σ H x y v u Q I rx ry h
  obtain⟨hs,q⟩:=h
  cases x with
  | non=>
    cases rx
    cases y with
    | non=>cases ry; exact PySem.EqNone.ne_none_none (fin_bl I q (by simp))
    | bl j=>cases ry; exact PySem.EqNone.ne_none_bool (fin_bl I q (by simp))
    | int j=>obtain⟨t',rfl⟩:=ry; exact PySem.EqNone.ne_none_int (fin_bl I q (by simp))
    | str j=>obtain⟨t',rfl⟩:=ry; exact PySem.EqNone.ne_none_str (fin_bl I q (by simp))
    | _=>exact absurd (show false=true from hs) Bool.false_ne_true
  | bl i=>
    cases rx
    cases y with
    | non=>cases ry; exact PySem.EqNone.ne_bool_none (fin_bl I q (by simp))
    | bl j=>cases ry; exact ne_bool (fin_bl I q (congrArg not dec_bl))
    | str j=>obtain⟨t',rfl⟩:=ry; exact PySem.EqMixed.ne_bool_str (fin_bl I q (by simp))
    | _=>exact absurd (show false=true from hs) Bool.false_ne_true
  | int i=>
    obtain⟨t,rfl⟩:=rx
    cases y with
    | non=>cases ry; exact PySem.EqNone.ne_int_none (fin_bl I q (by simp))
    | int j=>obtain⟨t',rfl⟩:=ry; exact ne_int (fin_bl I q (congrArg not dec_int))
    | str j=>obtain⟨t',rfl⟩:=ry; exact PySem.EqMixed.ne_int_str (fin_bl I q (by simp))
    | _=>exact absurd (show false=true from hs) Bool.false_ne_true
  | str i=>
    obtain⟨t,rfl⟩:=rx
    cases y with
    | non=>cases ry; exact PySem.EqNone.ne_str_none (fin_bl I q (by simp))
    | bl j=>cases ry; exact PySem.EqMixed.ne_str_bool (fin_bl I q (by simp))
    | int j=>obtain⟨t',rfl⟩:=ry; exact PySem.EqMixed.ne_str_int (fin_bl I q (by simp))
    | str j=>obtain⟨t',rfl⟩:=ry; exact ne_str (fin_bl I q (congrArg not dec_str))
    | _=>exact absurd (show false=true from hs) Bool.false_ne_true
  | byt i=>
    obtain⟨t,rfl⟩:=rx
    cases y with
    | byt j=>obtain⟨t',rfl⟩:=ry; exact PySem.W.ne_bytes (fin_bl I q (congrArg not dec_byt))
    | _=>exact absurd (show false=true from hs) Bool.false_ne_true
  | _=>cases y<;>exact absurd (show false=true from hs) Bool.false_ne_true
theorem op_lt:OpR X (compareOp .Lt) (rI0 fun i j=>.bl (decide (i < j))):=opB0 fun _ _ _ _ _ _ _ q=>lt_int q
theorem op_le:OpR X (compareOp .LtE) (rI0 fun i j=>.bl (decide (i<=j))):=opB0 fun _ _ _ _ _ _ _ q=>le_int q
theorem op_gt:OpR X (compareOp .Gt) (rI0 fun i j=>.bl (decide (j < i))):=opB0 fun _ _ _ _ _ _ _ q=>gt_int q
theorem op_ge:OpR X (compareOp .GtE) (rI0 fun i j=>.bl (decide (j<=i))):=opB0 fun _ _ _ _ _ _ _ q=>ge_int q
theorem op_isN:OpR X (compareOp .Is) (fun x y H Q=>y=.non/\Q (.bl (decide (x=.non))) H):=by
  intro pins s σ H x y v u Q I rx ry h
  obtain⟨rfl,q⟩:=h
  cases ry
  refine is_none_gen (fin_bl I q ?_)
  cases x<;>first
    | (cases rx; rfl)
    | (obtain⟨t,rfl⟩:=rx; rfl)
theorem op_notN:OpR X (compareOp .IsNot) (fun x y H Q=>y=.non/\Q (.bl (!decide (x=.non))) H):=by
  intro pins s σ H x y v u Q I rx ry h
  obtain⟨rfl,q⟩:=h
  cases ry
  refine isnot_none_gen (fin_bl I q ?_)
  cases x<;>first
    | (cases rx; rfl)
    | (obtain⟨t,rfl⟩:=rx; rfl)
noncomputable def isObj:HO->Bool
  | .lst _=>true
  | .ins _ _ _=>true
  | _=>false
theorem obj_there {pins:List (Addr×Obj)}{s:Shared}{σ:St}{H:Hp}{a:Addr}{o:HO} (I:Inv X pins σ H s) (h:H a=some o) (p:isObj o=true):∃ ob,s.heap.get? a=some ob/\ob.cls≠.type "tuple":=by
  cases o with
  | lst xs=>
    obtain⟨_,its,n,_,e⟩:xs.length<=sizeLine/\∃ (its:List Value) (n:Nat),Vals xs its/\s.heap.get? a=some { cls:=.type "list",data:=.seq its.toArray n }:=I.hok a _ h
    exact⟨_,e,(by show Value.type "list"≠.type "tuple"; decide +kernel)⟩
  | ins C dx fs=>
    have x:=I.hok a _ h
    obtain⟨_,_,_,e,_⟩:=x
    exact⟨_,e,(by show Value.ref C≠.type "tuple"; exact fun z=>by cases z)⟩
  | _=>exact absurd (show false=true from p) Bool.false_ne_true
theorem OpR.or {f:Value->Value->Sem Value}{r r':R2} (h:OpR X f r) (h':OpR X f r'):OpR X f (fun x y H Q=>r x y H Q\/r' x y H Q):=by
  intro pins s σ H x y v u Q I rx ry q
  rcases q with q | q
  · exact h pins s σ H x y v u Q I rx ry q
  · exact h' pins s σ H x y v u Q I rx ry q
theorem nomark (b:Expr) {op:CmpOp} (h:op≠.In:=by decide) (h2:op≠.NotIn:=by decide):behindInMarks op b=false:=by
  have e1:(op==CmpOp.In)=false:=by cases op<;>first | rfl | exact absurd rfl h
  have e2:(op==CmpOp.NotIn)=false:=by cases op<;>first | rfl | exact absurd rfl h2
  cases b<;>simp [behindInMarks,e1,e2]
theorem pe_cmpR {op:CmpOp}{r:R2} (ho:OpR X (compareOp op) r) (ha:PE X a ta) (hb:PE X b tb) (hm:behindInMarks op b=false):PE X (.Compare a [op] [b] pos) (tOp r ta tb):=by
  intro pins s σ H Q I h
  exact wpAny_Compare1 (binT ha hb I h fun v u s2 x y H2 I2 rx ry q=>ho pins s2 σ H2 x y v u Q I2 rx ry q) hm
noncomputable def tTest (t:TE):TT:=fun σ H Q=>t σ H fun x H'=>∃ k,x=.bl k/\Q k H'
theorem pt_cmpR {op:CmpOp}{r:R2} (ho:OpR X (compareOp op) r) (ha:PE X a ta) (hb:PE X b tb) (hm:behindInMarks op b=false):PT X (.Compare a [op] [b] pos) (tTest (tOp r ta tb)):=by
  intro pins s σ H Q I h
  refine wpAny_isTrue_Compare1 (thn (ha pins s σ H _ I h) fun v s1 ⟨x,H1,I1,r1,q1⟩=>thn (hb pins s1 σ H1 _ I1 q1) fun u s2 ⟨y,H2,I2,r2,q2⟩=>
    thn (ho pins s2 σ H2 x y v u _ I2 r1 r2 q2) fun c s3 ⟨z,H3,I3,r3,k,e,q3⟩=>?_) hm
  subst e
  cases r3
  exact wpAny_truthy_bool ⟨H3,I3,q3⟩
noncomputable def tChain (r r':R2) (ta tb tc:TE):TE:=fun σ H Q=>ta σ H fun x H1=>tb σ H1 fun y H2=>r x y H2 fun z H3=>∃ k,z=.bl k/\
  (if k=true then tc σ H3 fun w' H4=>r' y w' H4 Q else Q (.bl false) H3)
noncomputable def TruV (K:PySem.W.Frag) (x:V) (H:Hp) (k:Bool):Prop:=
  match x with
  | .non=>k=false
  | .bl b=>k=b
  | .int i=>k=(i != 0)
  | .str y=>y.length<=sizeLine/\k=((y.length:Int) != 0)
  | .byt y=>y.size<=sizeLine/\k=((y.size:Int) != 0)
  | .ref p=>(∃ xs,SqL K H p xs/\k=!xs.isEmpty)\/(∃ xs,SqT K H p xs/\k=!xs.isEmpty)\/∃ kvs,H p=some (.dK kvs)/\k=!kvs.isEmpty
  | _=>False
theorem line63:(sizeLine:Nat) < 2 ^ 63:=by rw [sizeLine_eq]; decide
theorem op_add_str:OpR X (binaryOp .Add) (fun x y H Q=>∃ i j,x=.str i/\y=.str j/\i.length+j.length<=sizeLine/\Q (.str (i++j)) H):=by
  intro pins s σ H x y v u Q I rx ry h
  obtain⟨i,j,rfl,rfl,hz,q⟩:=h
  obtain⟨t,rfl⟩:=rx
  obtain⟨t',rfl⟩:=ry
  exact add_str (fun t' tk=>⟨.str (i++j),H,I.tok _,⟨_,rfl⟩,q⟩) hz
noncomputable def PlainIxT (b:Expr):Prop:=∀ o i,subscripted b false o i=operate [o,i] (getItem o i)
theorem vals1 {x:V}{us:List Value} (r:Vals [x] us):∃ u,us=[u]/\RelV x u:=by
  cases r with
  | cons r1 r2=>cases r2; exact⟨_,rfl,r1⟩
theorem vals2 {x y:V}{us:List Value} (r:Vals [x,y] us):∃ u w',us=[u,w']/\RelV x u/\RelV y w':=by
  cases r with
  | cons r1 r2=>
    cases r2 with
    | cons r3 r4=>cases r4; exact⟨_,_,rfl,r1,r3⟩
theorem call_int1:CallR X (.type "int") (fun xs H Q=>(∃ i,xs=[.int i]/\Q (.int i) H)\/∃ k,xs=[.bl k]/\Q (.int (if k then 1 else 0)) H):=by
  intro pins s σ H xs us Q I r h
  rcases h with⟨i,rfl,q⟩ | ⟨k,rfl,q⟩
  · obtain⟨u,rfl,t,rfl⟩:=vals1 r
    exact call_int_int ⟨.int i,H,I,⟨_,rfl⟩,q⟩
  · obtain⟨u,rfl,r1⟩:=vals1 r
    cases r1
    exact call_int_bool ⟨.int (if k then 1 else 0),H,I.tok _,⟨_,rfl⟩,q⟩
theorem call_str_int:CallR X (.type "str") (fun xs H Q=>∃ i,xs=[.int i]/\i.natAbs.log2 < 1920/\Q (.str (toString i)) H):=by
  intro pins s σ H xs us Q I r h
  obtain⟨i,rfl,hz,q⟩:=h
  obtain⟨u,rfl,t,rfl⟩:=vals1 r
  exact PySem.P.str_of_int hz ⟨.str _,H,I.tok _,⟨_,rfl⟩,q⟩
noncomputable def LenV (K:PySem.W.Frag) (x:V) (H:Hp) (n:Nat):Prop:=
  match x with
  | .str y=>y.length<=sizeLine/\n=y.length
  | .byt y=>y.size<=sizeLine/\n=y.size
  | .ref p=>(∃ xs,SqL K H p xs/\n=xs.length)\/∃ xs,SqT K H p xs/\n=xs.length
  | _=>False
end
end L2
namespace L2
open PySem PySem.Spec PyProof.Rows
structure ObjM (h:Heap) (x dx C:Addr) (mA:Str->Option Value):Prop where
  obj:h.get? x=some (PySem.W.instObj C dx)
  ns:h.Ns1 dx mA
  ne:dx≠x
theorem lookIn_ns {h:Heap}{dx:Addr}{mA:Str->Option Value} (n:h.Ns1 dx mA):∃ od,h.get? dx=some od/\∀ name,PySem.W.lookIn name od=some (mA name):=by
  obtain⟨o,es,ep,ho,hd,hk,_,hm⟩:=n
  refine⟨o,ho,fun name=>?_⟩
  have e:=hm name
  unfold nsFind findBy at e
  rw [<-Array.find?_toList] at e
  unfold PySem.W.lookIn
  rw [hd]
  dsimp only
  split
  · rename_i y q
    rw [q] at e
    exact congrArg some e
  · rename_i q
    rw [q] at e
    have a:es.toList.any (·.refKey)=false:=by
      rw [List.any_eq_false]
      intro y hy
      obtain⟨z,t,hkey⟩:=hk y (Array.mem_toList_iff.mp hy)
      simp [DictEntry.refKey,hkey]
    have a':¬ es.toList.any (·.refKey)=true:=by rw [a]; exact Bool.false_ne_true
    rw [if_neg a']
    exact congrArg some e
theorem ObjM.look {h:Heap}{x dx C:Addr}{mA:Str->Option Value} (I:ObjM h x dx C mA):∃ od,PySem.W.InstAt h x (PySem.W.instObj C dx) C (some od)/\∀ name,PySem.W.lookIn name od=some (mA name):=
  let ⟨od,ho,hl⟩:=lookIn_ns I.ns
  ⟨od,⟨I.obj,rfl,rfl,ho⟩,hl⟩
section
variable {prog:Program}{w:World}{A:Around}{E:Value->Shared->Prop}{s:Shared}{K:PySem.W.Frag}{x dx C f:Addr}{mA:Str->Option Value}{name:Str}{v:Value}
end
noncomputable def putF (f:Str) (v:V):List (Str×V)->List (Str×V)
  | []=>[(f,v)]
  | (g,x)::r=>if g=f then (g,v)::r else (g,x)::putF f v r
theorem RelO.some_of {v:V}{o:Option Value} (r:RelO (some v) o):∃ u,o=some u/\RelV v u:=by
  cases o with
  | none=>exact (show False from r).elim
  | some u=>exact⟨u,rfl,r⟩
section
variable {P:Program}{w:World}{H H':Hp}{h h':Heap}{a C dx:Addr}{fs fs':List (Str×V)}
theorem ins_get (hok:HOk P w H h) (e:H a=some (.ins C dx fs)):∃ mA,ObjM h a dx C mA/\(∀ f,RelO (fs.lookup f) (mA f))/\PySem.Within mA (fs.map (·.1))/\fs.length<=1000/\H dx=some (.own a):=by
  obtain⟨d,z,ne,ob,mA,n,r,q⟩:=(show ObjOk P w H h a (.ins C dx fs) from hok a _ e)
  exact⟨mA,⟨ob,n,ne⟩,r,q,z,d⟩
end
structure Cls (K:PySem.W.Frag) (C:Addr):Prop where
  pg:PySem.W.plainGet K C Str.empty=true
  hd:PySem.W.hasDictIn K C=true
  po:PySem.W.plainOver K C=true
  sa:PySem.W.findIn K (.ref C) "__setattr__"=some (some (.builtin "object.__setattr__"))
theorem Cls.get {K:PySem.W.Frag}{C:Addr} (c:Cls K C) (f:Str):PySem.W.plainGet K C f=true:=c.pg
noncomputable def NoAttr (K:PySem.W.Frag) (C:Addr) (f:Str):Prop:=PySem.W.findIn K (.ref C) f=some none
structure Con (K:PySem.W.Frag) (C:Addr) (f:Str) (v:V) (u:Value):Prop where
  at_:PySem.W.findIn K (.ref C) f=some (some u)
  rel:RelV v u
  get:PySem.W.specialIn K u "__get__"=some none
  cp:PySem.W.copiedNames.contains f=false
structure Meth (K:PySem.W.Frag) (C:Addr) (m:Str) (f:Addr):Prop where
  at_:PySem.W.findIn K (.ref C) m=some (some (.ref f))
  fn:PySem.W.isFn K (.ref f)=true
  kp:PySem.W.keepIn K (.ref f)=true
section
variable {X:Cx}{pins:List (Addr×Obj)}{σ:St}{H:Hp}{s:Shared}{a C dx:Addr}{fs:List (Str×V)}{f:Str}{v:V}{A:Around}{E:Value->Shared->Prop}
end
noncomputable def tFld (K:PySem.W.Frag) (ta:TE) (f:Str):TE:=fun σ H Q=>ta σ H fun x H1=>∃ a C dx fs v,x=.ref a/\H1 a=some (.ins C dx fs)/\Cls K C/\NoAttr K C f/\fs.lookup f=some v/\Q v H1
noncomputable def tCon (K:PySem.W.Frag) (ta:TE) (f:Str):TE:=fun σ H Q=>ta σ H fun x H1=>∃ a C dx fs v u,x=.ref a/\H1 a=some (.ins C dx fs)/\Cls K C/\Con K C f v u/\fs.lookup f=none/\Q v H1
noncomputable def sFld (K:PySem.W.Frag) (ta tv:TE) (f:Str):TS:=fun D σ H=>tv σ H fun y H1=>ta σ H1 fun x H2=>∃ a C dx fs,x=.ref a/\H2 a=some (.ins C dx fs)/\Cls K C/\NoAttr K C f/\fs.length < 1000/\
  D.nx σ (upd H2 a (.ins C dx (putF f y fs)))
noncomputable def InOp (X:Cx) (op:Operator) (rd:V->V->Hp->VK->Prop):Prop:=
  ∀ (pins:List (Addr×Obj)) (s:Shared) (σ:St) (H:Hp) (x y:V) (u v:Value) (Q:VK),Inv X pins σ H s->RelV x u->RelV y v->rd x y H Q->wpAny (model X.prog X.w) X.A (inplaceOp op u v) (EP X pins σ Q) X.xe s
noncomputable def sFldAug (K:PySem.W.Frag) (ta tv:TE) (rd:V->V->Hp->VK->Prop) (f:Str):TS:=fun D σ H=>ta σ H fun x H1=>∃ a C dx fs v,x=.ref a/\H1 a=some (.ins C dx fs)/\Cls K C/\NoAttr K C f/\fs.lookup f=some v/\
  tv σ H1 fun y H2=>rd v y H2 fun z H3=>∃ dx' fs',H3 a=some (.ins C dx' fs')/\fs'.length < 1000/\D.nx σ (upd H3 a (.ins C dx' (putF f z fs')))
section
variable {X:Cx}{o e value:Expr}{f:Str}{pos pos' tpos:Pos}{ta tv:TE}
noncomputable def rAdd:V->V->Hp->VK->Prop:=fun x y H Q=>∃ i j,x=.int i/\y=.int j/\Q (.int (i+j)) H
noncomputable def rSub:V->V->Hp->VK->Prop:=fun x y H Q=>∃ i j,x=.int i/\y=.int j/\Q (.int (i - j)) H
end
section
variable {X:Cx}{pins:List (Addr×Obj)}{σ:St}{H:Hp}{s:Shared}{A:Around}{E:Value->Shared->Prop}{Q:Value->Shared->Prop}{c:Value}{b:Bool}
inductive TyOf (K:PySem.W.Frag) (H:Hp):V->Value->Prop where
  | non:TyOf K H .non (.type "NoneType")
  | bl (x:Bool):TyOf K H (.bl x) (.type "bool")
  | int (i:Int):TyOf K H (.int i) (.type "int")
  | str (x:Str):TyOf K H (.str x) (.type "str")
  | flt (x:UInt64):TyOf K H (.flt x) (.type "float")
  | lst {a:Addr}{xs:List V} (e:H a=some (.lst xs)):TyOf K H (.ref a) (.type "list")
  | frz {a:Addr}{o:Obj}{xs:List V} (e:H a=some (.frz o (.lst xs))):TyOf K H (.ref a) (.type "list")
  | tup {a:Addr}{xs:List V} (e:H a=some (.tup xs)):TyOf K H (.ref a) (.type "tuple")
  | dK {a:Addr}{kvs:List (Key×V)} (e:H a=some (.dK kvs)):TyOf K H (.ref a) (.type "dict")
  | dT {a:Addr}{kvs:List (List Key×V)} (e:H a=some (.dT kvs)):TyOf K H (.ref a) (.type "dict")
  | ins {a C dx:Addr}{fs:List (Str×V)} (e:H a=some (.ins C dx fs)) (cl:Cls K C) (ha:PySem.W.findIn K (.ref C) "__class__"=some (some (.builtin "object.__class__")))
      (hn:PySem.W.specialIn K (.builtin "object.__class__") "__get__"=some (some (.builtin "getset_descriptor.__get__"))) (htk:PySem.W.takesIn K (.builtin "object.__class__")=some true)
      (hm:PySem.W.mroIn K C (.type "object")=some true):TyOf K H (.ref a) (.ref C)
theorem isinst_ok {x:V}{u t:Value} (I:Inv X pins σ H s) (rx:RelV x u) (ty:TyOf X.K H x t) (e:PySem.W.kitOne X.K t c=some b) (h:∀ tk,Q (.bool b) { s with toks:=tk }):
    wpAny (model X.prog X.w) A (call (.builtin "isinstance") [u,c]) Q E s:=by
  cases ty with
  | non=>cases (show u=Value.none from rx); exact PySem.W.kia_one PySem.W.kitx_none I.kIn True.intro e (fun z=>nomatch z) h
  | bl y=>cases (show u=Value.bool y from rx); exact PySem.W.kia_one PySem.W.kitx_bool I.kIn True.intro e (fun z=>nomatch z) h
  | int i=>obtain⟨t,q⟩:=(show ∃ t,u=Value.int i t from rx); cases q; exact PySem.W.kia_one PySem.W.kitx_int I.kIn True.intro e (fun z=>nomatch z) h
  | str y=>obtain⟨t,q⟩:=(show ∃ t,u=Value.str y t from rx); cases q; exact PySem.W.kia_one PySem.W.kitx_str I.kIn True.intro e (fun z=>nomatch z) h
  | flt y=>obtain⟨t,q⟩:=(show ∃ t,u=Value.float y t from rx); cases q; exact PySem.W.kia_one PySem.W.kitx_float I.kIn True.intro e (fun z=>nomatch z) h
  | @lst a xs ea=>
    cases (show u=Value.ref a from rx)
    obtain⟨_,_,n,_,h1⟩:=(show ObjOk X.prog X.w H s.heap a (.lst xs) from I.hok a _ ea)
    exact PySem.W.kia_one PySem.W.kitx_list I.kIn ⟨_,h1,rfl⟩ e (fun z=>nomatch z) h
  | @frz a ob xs ea=>
    cases (show u=Value.ref a from rx)
    obtain⟨_,_,_,n,_,h1⟩:=(show ObjOk X.prog X.w H s.heap a (.frz ob (.lst xs)) from I.hok a _ ea)
    exact PySem.W.kia_one PySem.W.kitx_list I.kIn ⟨_,h1,rfl⟩ e (fun z=>nomatch z) h
  | @tup a xs ea=>
    cases (show u=Value.ref a from rx)
    obtain⟨_,_,_,p⟩:=(show ObjOk X.prog X.w H s.heap a (.tup xs) from I.hok a _ ea)
    obtain⟨o,h1,h2,_⟩:=p
    exact PySem.W.kia_one PySem.W.kitx_tuple I.kIn ⟨o,h1,h2⟩ e (fun z=>nomatch z) h
  | @dK a kvs ea=>
    cases (show u=Value.ref a from rx)
    obtain⟨_,_,vs,_,p⟩:=(show ObjOk X.prog X.w H s.heap a (.dK kvs) from I.hok a _ ea)
    obtain⟨o,es,ep,h1,h2,_⟩:=p
    exact PySem.W.kia_one PySem.W.kitx_dict I.kIn ⟨o,h1,h2.1⟩ e (fun z=>nomatch z) h
  | @dT a kvs ea=>
    cases (show u=Value.ref a from rx)
    obtain⟨_,_,xs,_,o,es,ep,h1,h2,_⟩:=(show ObjOk X.prog X.w H s.heap a (.dT kvs) from I.hok a _ ea)
    exact PySem.W.kia_one PySem.W.kitx_dict I.kIn ⟨o,h1,h2.1⟩ e (fun z=>nomatch z) h
  | @ins a C dx fs ea cl ha hn htk hm=>
    cases (show u=Value.ref a from rx)
    obtain⟨mA,O,_⟩:=ins_get I.hok ea
    obtain⟨od,J,_⟩:=O.look
    exact PySem.W.kia_one (PySem.W.kitx_own (cl.get _) cl.hd ha hn htk hm) I.kIn J e (fun z=>nomatch z) h
end
end L2
namespace L2
open PySem PySem.Spec PyProof.Rows
structure Room (k:Nat) (A:Around):Prop where
  hd:A.handled=none
  dp:A.depth+3*k+5 < recursionLimit
  un:A.units+16*k+200 < cLine
theorem Room.mono {j k:Nat}{A:Around} (r:Room k A) (h:j<=k):Room j A:=⟨r.hd,by have:=r.dp; lia,by have:=r.un; lia⟩
theorem Room.deeper {k:Nat}{A:Around} (r:Room (k+1) A) (env:Env):Room k (A.deeper env):=
  ⟨r.hd,by have:=r.dp; show A.depth+1+3*k+5 < _; lia,by have:=r.un; show A.units+3+16*k+200 < _; lia⟩
theorem Room.depth {k:Nat}{A:Around} (r:Room k A):A.depth < recursionLimit:=by have:=r.dp; lia
theorem Room.units {k:Nat}{A:Around} (r:Room k A):A.units+64 < cLine:=by have:=r.un; lia
noncomputable def tNil:TA:=fun _ H Q=>Q [] H
noncomputable def tCons (ta:TE) (tr:TA):TA:=fun σ H Q=>ta σ H fun x H1=>tr σ H1 fun xs H2=>Q (x::xs) H2
section
variable {X:Cx}{e:Expr}{es:List Expr}{te:TE}{t:TA}{pos:Pos}
theorem pa_nil:PA X [] tNil:=fun _ _ _ _ H Q I h=>Calls.spliced_nil ⟨[],H,I,.nil,h⟩
theorem pa_cons (ha:PE X e te) (hr:PA X es t) (hs:starEach (e::es) X.env=(false,eval e X.env)::starEach es X.env:=by rfl):PA X (e::es) (tCons te t):=by
  intro pos pins s σ H Q I h
  rw [hs]
  show wpAny _ _ (spliced ((false,eval e X.env)::backTo pos (starEach es X.env))) _ _ s
  refine Calls.spliced_cons (thn (ha pins s σ H _ I h) fun u s1 q9=>?_)
  obtain⟨x,H1,I1,r1,q1⟩:=q9
  exact thn (hr pos pins s1 σ H1 _ I1 q1) fun us s2 ⟨xs,H2,I2,r2,q2⟩=>⟨x::xs,H2,I2,.cons r1 r2,q2⟩
noncomputable def tTup (t:TA):TE:=fun σ H Q=>t σ H fun xs H1=>xs.length<=sizeLine/\∀ p,H1 p=none->Q (.ref p) (upd H1 p (.tup xs))
noncomputable def tLst (t:TA):TE:=fun σ H Q=>t σ H fun xs H1=>xs.length<=sizeLine/\∀ p,H1 p=none->Q (.ref p) (upd H1 p (.lst xs))
theorem pe_tup {x1} (h:PA X es t):PE X (.Tuple es x1 pos) (tTup t):=by
  intro pins s σ H Q I hq
  refine wpAny_Tuple_spliced (thn (h pos pins s σ H _ I hq) fun us s1 q9=>?_)
  obtain⟨xs,H1,I1,r,z,q⟩:=q9
  refine⟨by rw [<-r.length]; exact z,?_⟩
  have hf:H1 s1.heap.objs.size=none:=I1.hok.fresh (Nat.le_refl _)
  refine⟨.ref s1.heap.objs.size,upd H1 s1.heap.objs.size (.tup xs),I1.laid (t':=s1.toks) (fun b u e=>Heap.get?_push_of_some _ e) (Nat.le_refl _) ?_,rfl,q _ hf⟩
  exact⟨z,us,r,⟨_,Heap.get?_push_size _ rfl,rfl,_,rfl⟩⟩
theorem pe_lst (h:PA X es t):PE X (.List es pos) (tLst t):=by
  intro pins s σ H Q I hq
  refine wpAny_List_spliced (thn (h pos pins s σ H _ I hq) fun us s1 q9=>?_)
  obtain⟨xs,H1,I1,r,z,q⟩:=q9
  refine⟨by rw [<-r.length]; exact z,?_⟩
  have hf:H1 s1.heap.objs.size=none:=I1.hok.fresh (Nat.le_refl _)
  refine⟨.ref s1.heap.objs.size,upd H1 s1.heap.objs.size (.lst xs),I1.laid (t':=s1.toks) (fun b u e=>Heap.get?_push_of_some _ e) (Nat.le_refl _) ?_,rfl,q _ hf⟩
  exact⟨z,us,0,r,Heap.get?_push_size _ rfl⟩
end
noncomputable abbrev Sp:=List V->Hp->VK->XK->Prop
noncomputable abbrev CXT:=List Env->Hp->Shared->XK->Value->Shared->Prop
structure Env0 (P:Program) (w:World) (K:PySem.W.Frag) (mg:Str->Option Value) (base:Heap) (A:Around) (outer:List Env) (s:Shared) (H:Hp):Prop where
  frames:A.frames=some outer
  mod:Mod K mg base
  bs:∀ b o,base.get? b=some o->s.heap.get? b=some o/\H b=none
  bsz:base.objs.size<=s.heap.objs.size
  funs:s.heap.FunFrames base outer
  frf:∀ b∈frs outer,H b=none
  hok:HOk P w H s.heap
  bare:AllBare s.gens
noncomputable def CE (outer:List Env) (P:Program) (w:World) (H:Hp) (s:Shared) (Q:VK) (u:Value) (s':Shared):Prop:=
  ∃ v H',s'.os=s.os/\AllBare s'.gens/\Un (frs outer) [] H H' s.heap s'.heap/\HOk P w H' s'.heap/\RelV v u/\Q v H'
noncomputable def CR (CX:CXT) (outer:List Env) (P:Program) (w:World) (H:Hp) (s:Shared) (Q:VK) (E:XK) (r:Result) (s':Shared):Prop:=
  match r with
  | .ok (.ret u)=>CE outer P w H s Q u s'
  | .ok _=>False
  | .error e=>CX outer H s E e s'
structure FnOk (P:Program) (w:World) (K:PySem.W.Frag) (mg:Str->Option Value) (base:Heap) (CX:CXT) (k:Nat) (f:Addr) (fd:FuncData) (ps:List Str) (sp:Sp):Prop where
  len:∀ vs H Q E,sp vs H Q E->vs.length=ps.length
  run:∀ (A:Around) (outer:List Env) (s:Shared) (H:Hp) (args:Args) (us:List Value) (vs:List V) (Q:VK) (E:XK),Room k A->Env0 P w K mg base A outer s H->BindsTo s fd args (ps.zip us)->Vals vs us->sp vs H Q E->
    codeAny (model P w) A (.call (.ref f) args) (CR CX outer P w H s Q E) s
theorem FnOk.mono {P:Program}{w:World}{K:PySem.W.Frag}{mg:Str->Option Value}{base:Heap}{CX:CXT}{j k:Nat}{f:Addr}{fd:FuncData}{ps:List Str}{sp:Sp} (F:FnOk P w K mg base CX j f fd ps sp) (h:j<=k):
    FnOk P w K mg base CX k f fd ps sp:=⟨F.len,fun A outer s H args us vs Q E hr=>F.run A outer s H args us vs Q E (hr.mono h)⟩
theorem FnOk.imp {P:Program}{w:World}{K:PySem.W.Frag}{mg:Str->Option Value}{base:Heap}{CX:CXT}{k:Nat}{f:Addr}{fd:FuncData}{ps:List Str}{sp sp':Sp} (F:FnOk P w K mg base CX k f fd ps sp)
    (h:∀ vs H Q E,sp' vs H Q E->sp vs H Q E):FnOk P w K mg base CX k f fd ps sp':=
  ⟨fun vs H Q E q=>F.len vs H Q E (h _ _ _ _ q),fun A outer s H args us vs Q E hr he hb hv hs=>F.run A outer s H args us vs Q E hr he hb hv (h _ _ _ _ hs)⟩
section
variable {X:Cx}{pins:List (Addr×Obj)}{σ:St}{H:Hp}{s s':Shared}
theorem Inv.env0 (I:Inv X pins σ H s):Env0 X.prog X.w X.K X.mg X.base X.A X.stack s H:=
  ⟨I.ok.frames,I.ok.mod,I.bs,Nat.le_trans I.ok.bsz I.sz,I.stack,I.stkFree,I.hok,I.bare⟩
theorem Inv.after {Q:VK}{u:Value} (I:Inv X pins σ H s) (h:CE X.stack X.prog X.w H s Q u s'):EP X pins σ Q u s':=by
  obtain⟨v,H',os,bare,un,hok,r,q⟩:=h
  obtain⟨hh,g,d,t,os'⟩:=s'
  obtain rfl:os'=s.os:=os
  exact⟨v,H',I.call (h':=hh) (g':=g) (d':=d) (t':=t) (ch:=[]) un hok bare (fun b z=>absurd z (by simp)),r,q⟩
end
noncomputable def tCall (sp:Sp) (dvs:List V) (E:XK) (t:TA):TE:=fun σ H Q=>t σ H fun vs H1=>sp (vs++dvs) H1 Q E
noncomputable def tMeth (C:Addr) (m:Str) (sp:Sp) (dvs:List V) (E:XK) (ta:TE) (t:TA):TE:=fun σ H Q=>ta σ H fun x H1=>∃ a dx fs,x=.ref a/\H1 a=some (.ins C dx fs)/\fs.lookup m=none/\
  t σ H1 fun vs H2=>sp (x::(vs++dvs)) H2 Q E
noncomputable def tMake (C:Addr) (sp:Sp) (dvs:List V) (E:XK) (t:TA):TE:=fun σ H Q=>t σ H fun vs H1=>∀ x dx,H1 x=none->H1 dx=none->dx≠x->
  sp (.ref x::(vs++dvs)) (upd (upd H1 dx (.own x)) x (.ins C dx [])) (fun v H2=>v=.non/\Q (.ref x) H2) E
noncomputable def Binds (K:PySem.W.Frag) (fd:FuncData) (ps:List Str) (ds:List Value):Prop:=
  ∀ (s:Shared) (us:List Value),K.In s.heap->(us++ds).length=ps.length->BindsTo s fd ⟨us,[]⟩ (ps.zip (us++ds))
theorem Binds.all {K:PySem.W.Frag}{fd:FuncData}{ps:List Str} (h:∀ us:List Value,us.length=ps.length->bindArgs fd ⟨us,[]⟩=pure (ps.zip us)):Binds K fd ps []:=fun s us _ hl=>by
  rw [List.append_nil] at hl |-
  exact .of_eq (h us hl)
noncomputable def Passes (CX:CXT) (X:Cx) (E:XK):Prop:=∀ (pins:List (Addr×Obj)) (σ:St) (H:Hp) (s:Shared) (e:Value) (s':Shared),Inv X pins σ H s->CX X.stack H s E e s'->X.xe e s'
section
variable {X:Cx}{CX:CXT}{k:Nat}{f C:Addr}{fd:FuncData}{ps:List Str}{sp:Sp}{dvs:List V}{ds:List Value}{E:XK}{x m:Str}{p pos apos:Pos}{e o:Expr}{es:List Expr}{ta:TE}{t:TA}
theorem run_fn {pins:List (Addr×Obj)}{σ:St}{H:Hp}{s:Shared}{Q:VK}{us:List Value}{vs:List V} (F:FnOk X.prog X.w X.K X.mg X.base CX k f fd ps sp) (hr:Room k X.A) (hb:Binds X.K fd ps ds) (hd:Vals dvs ds) (hx:Passes CX X E)
    (I:Inv X pins σ H s) (r:Vals vs us) (h:sp (vs++dvs) H Q E):wpAny (model X.prog X.w) X.A (call (.ref f) us) (EP X pins σ Q) X.xe s:=by
  have r2:Vals (vs++dvs) (us++ds):=r.append hd
  have hl:(us++ds).length=ps.length:=by rw [<-r2.length]; exact F.len _ _ _ _ h
  refine wpAny_call (codeAny_mono (F.run X.A X.stack s H ⟨us,[]⟩ (us++ds) (vs++dvs) Q E hr I.env0 (hb s us I.kIn hl) r2 h) fun r s' hq=>?_)
  cases r with
  | error e=>exact hx pins σ H s e s' I hq
  | ok fl=>
    cases fl with
    | ret u=>exact I.after hq
    | next=>exact False.elim hq
    | brk=>exact False.elim hq
    | cont=>exact False.elim hq
theorem pe_call (F:FnOk X.prog X.w X.K X.mg X.base CX k f fd ps sp) (hr:Room k X.A) (hg:Gl X x) (hm:X.mg x=some (.ref f)) (hk:PySem.W.keepIn X.K (.ref f)=true) (hb:Binds X.K fd ps ds) (hd:Vals dvs ds) (hx:Passes CX X E)
    (ha:PA X (e::es) t) (hdb:(x==("__debug__":Str))=false:=by decide) (he:starEach (e::es) X.env=(false,eval e X.env)::starEach es X.env:=by rfl) (hpl:(backTo pos (starEach es X.env)).any (·.1)=false:=by rfl):
    PE X (.Call (.Name x p) (e::es) [] pos) (tCall sp dvs E t):=by
  intro pins s σ H Q I h
  refine wpAny_Call_Name_kw (ld_glob I hg hm ?_ hdb)
  refine PySem.W.callWith_K (h₀:=X.base) I.ok.mod.kin hk (thn (ha pos pins s σ H _ I h) fun us s1 q9=>?_) he hpl
  obtain⟨vs,H1,I1,r,q⟩:=q9
  refine⟨I1.kIn,?_⟩
  exact run_fn F hr hb hd hx I1 r q
structure Mk (K:PySem.W.Frag) (C f:Addr):Prop where
  makes:PySem.W.makesIn K C=true
  init:PySem.W.findIn K (.ref C) "__init__"=some (some (.ref f))
  fn:PySem.W.isFn K (.ref f)=true
  kp:PySem.W.keepIn K (.ref C)=true
end
noncomputable def PK (X:Cx) (kws:List Keyword) (t:TA):Prop:=
  ∀ (pos:Pos) (pins:List (Addr×Obj)) (s:Shared) (σ:St) (H:Hp) (Q:List V->Hp->Prop),Inv X pins σ H s->t σ H Q->wpAny (model X.prog X.w) X.A (evalAll ((backToKw pos (keywordEach kws X.env)).map (·.2))) (AP X pins σ Q) X.xe s
section
variable {X:Cx}{CX:CXT}{k:Nat}{f C:Addr}{fd:FuncData}{ps ks:List Str}{sp:Sp}{E:XK}{x m:Str}{p pos apos kpos:Pos}{e o:Expr}{es:List Expr}{kws:List Keyword}{te ta:TE}{t tk:TA}{nm:Option Str}
structure KBinds (K:PySem.W.Frag) (fd:FuncData) (ps ks:List Str) (g:List Value->List Value->List Value) (gV:List V->List V->List V):Prop where
  to:∀ (s:Shared) (us ws:List Value),K.In s.heap->(g us ws).length=ps.length->BindsTo s fd ⟨us,ks.zip ws⟩ (ps.zip (g us ws))
  rel:∀ {vs:List V}{us:List Value}{zs:List V}{ws:List Value},Vals vs us->Vals zs ws->Vals (gV vs zs) (g us ws)
noncomputable def tCallK (sp:Sp) (gV:List V->List V->List V) (E:XK) (t tk:TA):TE:=fun σ H Q=>t σ H fun vs H1=>tk σ H1 fun zs H2=>sp (gV vs zs) H2 Q E
variable {g:List Value->List Value->List Value}{gV:List V->List V->List V}
end
structure FnScope (N P:List Str) (sc:Scope):Prop where
  kind:sc.kind=.function
  co:sc.isCoroutine=false
  gen:sc.isGenerator=false
  nd:N.Nodup
  pre:N.take P.length=P
  par:∀ x∈P,sc.names.lookup x=some .local\/sc.names.lookup x=some .cell
  nofree:∀ y∈sc.names,y.2≠.free
theorem bindL_out {kindOf:Str->Option NameKind}{x:Str}:∀ {binds:List (Str×Value)}{m:Str->Option Value},(∀ v,(x,v)∉binds)->bindL kindOf binds m x=m x
  | [],_,_=>rfl
  | (n,v)::r,m,h=>by
    unfold bindL
    rw [bindL_out fun w hw=>h w (List.mem_cons_of_mem _ hw)]
    split
    · have:x≠n:=by rintro rfl; exact h v List.mem_cons_self
      simp [this]
    · rfl
theorem bindC_out {kindOf:Str->Option NameKind}{x:Str}:∀ {binds:List (Str×Value)}{m:Str->Option Value},(∀ v,(x,v)∉binds)->bindC kindOf binds m x=m x
  | [],_,_=>rfl
  | (n,v)::r,m,h=>by
    unfold bindC
    rw [bindC_out fun w hw=>h w (List.mem_cons_of_mem _ hw)]
    split
    · rfl
    · have:x≠n:=by rintro rfl; exact h v List.mem_cons_self
      simp [this]
theorem bindL_get {kindOf:Str->Option NameKind}{x:Str}{v:Value}:∀ {P:List Str}{vs:List Value}{i:Nat}{m:Str->Option Value},P.Nodup->P[i]?=some x->vs[i]?=some v->kindOf x=some .local->
    bindL kindOf (P.zip vs) m x=some v
  | [],_,_,_,_,h,_,_=>by simp at h
  | _::_,[],_,_,_,_,h,_=>by simp at h
  | p::P,w::vs,0,m,nd,h1,h2,hk=>by
    simp at h1 h2; subst h1; subst h2
    show bindL kindOf ((p,w)::P.zip vs) m p=_
    unfold bindL
    rw [bindL_out fun v hv=>(List.nodup_cons.mp nd).1 (List.of_mem_zip hv).1,if_pos hk]
    simp
  | p::P,w::vs,i+1,m,nd,h1,h2,hk=>by
    show bindL kindOf ((p,w)::P.zip vs) m x=_
    unfold bindL
    exact bindL_get (i:=i) (List.nodup_cons.mp nd).2 (by simpa using h1) (by simpa using h2) hk
theorem bindC_get {kindOf:Str->Option NameKind}{x:Str}{v:Value}:∀ {P:List Str}{vs:List Value}{i:Nat}{m:Str->Option Value},P.Nodup->P[i]?=some x->vs[i]?=some v->kindOf x≠some .local->
    bindC kindOf (P.zip vs) m x=some v
  | [],_,_,_,_,h,_,_=>by simp at h
  | _::_,[],_,_,_,_,h,_=>by simp at h
  | p::P,w::vs,0,m,nd,h1,h2,hk=>by
    simp at h1 h2; subst h1; subst h2
    show bindC kindOf ((p,w)::P.zip vs) m p=_
    unfold bindC
    rw [bindC_out fun v hv=>(List.nodup_cons.mp nd).1 (List.of_mem_zip hv).1,if_neg hk]
    simp
  | p::P,w::vs,i+1,m,nd,h1,h2,hk=>by
    show bindC kindOf ((p,w)::P.zip vs) m x=_
    unfold bindC
    exact bindC_get (i:=i) (List.nodup_cons.mp nd).2 (by simpa using h1) (by simpa using h2) hk
noncomputable def start (N:List Str) (vs:List V):St:=vs.map some++List.replicate (N.length - vs.length) none
noncomputable def cxOf (CX:CXT) (P:Program) (w:World) (K:PySem.W.Frag) (mg:Str->Option Value) (base:Heap) (N:List Str) (qual:Str) (scope:Scope) (f:Addr) (cd:Value) (A:Around) (outer:List Env) (s:Shared) (H:Hp) (E:XK):Cx where
  prog:=P
  w:=w
  K:=K
  mg:=mg
  base:=base
  A:=A.deeper (envOfC qual scope s.heap.objs.size f cd)
  N:=N
  s₀:=s
  H₀:=H
  env:=envOfC qual scope s.heap.objs.size f cd
  outer:=outer
  stack:=envOfC qual scope s.heap.objs.size f cd::outer
  ex:=[]
  calm:=true
  fn:=fun _=>true
  pn:=[]
  xe:=fun e s'=>wpAny (model P w) (A.deeper (envOfC qual scope s.heap.objs.size f cd)) (leaving (envOfC qual scope s.heap.objs.size f cd) e) (fun _ s''=>CX outer H s E e s'') (fun e' s''=>CX outer H s E e' s'') s'
theorem cell_has {sc:Scope}{n:Nat}{x:Str} (h:sc.names.lookup x=some .cell):∃ c,(cellsFrom n sc.names []).lookup x=some c:=by
  have q:=PySem.W.cellsFrom_some sc.names n [] (.inl h)
  exact Option.isSome_iff_exists.mp q
theorem inv_start {CX:CXT}{P:Program}{w:World}{K:PySem.W.Frag}{mg:Str->Option Value}{base:Heap}{N ps:List Str}{qual:Str}{scope:Scope}{f:Addr}{cd:Value}{A:Around}{outer:List Env}{s s1:Shared}{H:Hp}{E:XK}{us:List Value}{vs:List V}
    (S:FnScope N ps scope) (hd:A.handled=none) (e0:Env0 P w K mg base A outer s H) (hl:vs.length=ps.length) (r:Vals vs us)
    (x:InCallC s s.heap.objs.size (bindL (envOfC qual scope s.heap.objs.size f cd).kindOf (ps.zip us) fun _=>none) (cellsFrom (s.heap.objs.size+1) scope.names []) (bindC (envOfC qual scope s.heap.objs.size f cd).kindOf (ps.zip us) fun _=>none) s1):
    Inv (cxOf CX P w K mg base N qual scope f cd A outer s H E) [] (start N vs) H s1:=by
  have hpl:ps.length<=N.length:=by have:=congrArg List.length S.pre; rw [List.length_take] at this; lia
  obtain⟨h1,tk,rfl,hk⟩:=x.done
  have noA:∀ b:Addr,b∉(cxOf CX P w K mg base N qual scope f cd A outer s H E).ex:=fun b z=>absurd (show b∈([]:List Addr) from z) (by simp)
  refine⟨⟨e0.mod,S.kind,rfl,rfl,Nat.le_refl _,fun y z c h1 h2=>?_,fun y hy=>?_,fun y c _ h=>?_,fun _=>hd,Around.frames_deeper e0.frames,.inr ⟨rfl,rfl⟩,fun b z=>absurd z (noA b),e0.bs,e0.bsz,fun b _ _=>noA b,fun b z=>absurd z (noA b),e0.funs,e0.frf⟩,
    rfl,e0.bare,Un.kept hk,⟨_,x.toInCall.ns,fun i y v h1 h2 h3=>?_⟩,fun y c h=>⟨_,x.cell y c h⟩,e0.hok.fresh (Nat.le_refl _),fun y c h=>?_,fun p hp=>absurd (show p∈([]:List (Addr×Obj)) from hp) (by simp),e0.hok.kept hk,?_⟩
  · exact name_of_addr x.apart (PySem.mem_of_lookup h1) (PySem.mem_of_lookup h2)
  · have hy:scope.names.lookup y=some .cell\/scope.names.lookup y=some .free:=hy
    rcases hy with hy | hy
    · exact cell_has hy
    · exact absurd rfl (S.nofree _ (PySem.mem_of_lookup hy))
  · exact Nat.le_of_lt (x.above y c (PySem.mem_of_lookup h))
  · have hi:i < vs.length:=by
      unfold start at h2
      by_cases hi:i < vs.length
      · exact hi
      · rw [List.getElem?_append_right (by simpa using hi)] at h2
        rw [List.getElem?_replicate] at h2
        split at h2<;>cases h2
    have ha:vs[i]?=some v:=by
      unfold start at h2
      rw [List.getElem?_append_left (by simpa using hi),List.getElem?_map] at h2
      cases e:vs[i]? with
      | none=>rw [e] at h2; cases h2
      | some a=>rw [e] at h2; cases h2; rfl
    obtain⟨u,hu,rv⟩:=r.get ha
    have hp:ps[i]?=some y:=by
      rw [<-S.pre,List.getElem?_take_of_lt (by lia)]; exact h1
    have ndP:ps.Nodup:=by rw [<-S.pre]; exact S.nd.sublist (List.take_sublist _ _)
    refine⟨u,rv,?_⟩
    rcases S.par y (List.mem_of_getElem? hp) with k | k
    · exact .inl ⟨k,bindL_get ndP hp hu k⟩
    · obtain⟨c,e⟩:=cell_has (n:=s.heap.objs.size+1) k
      refine .inr ⟨.inl k,c,e,?_⟩
      have q:=x.cell y c e
      rw [bindC_get ndP hp hu (by show scope.names.lookup y≠_; rw [k]; decide)] at q
      exact q
  · exact e0.hok.fresh (Nat.le_of_lt (x.above y c (PySem.mem_of_lookup h)))
  · unfold start
    show _=N.length
    rw [List.length_append,List.length_map,List.length_replicate]
    lia
theorem fn_of {CX:CXT}{P:Program}{w:World}{K:PySem.W.Frag}{mg:Str->Option Value}{base:Heap}{k:Nat}{f:Addr}{name qual:Str}{params:Arguments}{body:List Stmt}{scope:Scope}{dV kV doc pm cdv ct oc:Value}{an od:Option Addr}
    {osl:Array (Option Value)}{N ps:List Str}{sp:Sp} (lk:K.lookup f=some ⟨oc,od,.func (PySem.W.fnOf name qual params body scope dV kV doc pm an cdv ct),osl⟩) (hcd:PySem.W.codeIn K cdv qual=true) (S:FnScope N ps scope)
    (len:∀ vs H Q E,sp vs H Q E->vs.length=ps.length)
    (hbody:∀ (A:Around) (outer:List Env) (s:Shared) (H:Hp) (vs:List V) (Q:VK) (E:XK),Room k (A.deeper (envOfC qual scope s.heap.objs.size f cdv))->sp vs H Q E->
      ∃ t,PSs (cxOf CX P w K mg base N qual scope f cdv A outer s H E) body t/\t { nx:=fun _ H'=>Q .non H',rt:=Q } (start N vs) H):
    FnOk P w K mg base CX (k+1) f (PySem.W.fnOf name qual params body scope dV kV doc pm an cdv ct) ps sp:=by
  refine⟨len,fun A outer s H args us vs Q E hr e0 hb r hsp=>?_⟩
  have hl:=len _ _ _ _ hsp
  have KX:K.In s.heap:=e0.mod.kin.keeps fun b o e=>(e0.bs b o e).1
  have lim:s.heap.NoLimit:=e0.mod.nolimit.keeps fun b o e=>(e0.bs b o e).1
  have hkind:∀ y∈ps.zip us,scope.names.lookup y.1=some .local\/(scope.names.lookup y.1=some .cell/\((cellsFrom (s.heap.objs.size+1) scope.names []).lookup y.1).isSome=true):=fun⟨n,v⟩ hy=>by
    rcases S.par n (List.of_mem_zip hy).1 with q | q
    · exact .inl q
    · exact .inr ⟨q,PySem.W.cellsFrom_some _ _ _ (.inl q)⟩
  refine codeAny_call_function hr.depth (KX _ _ lk) rfl S.co S.gen rfl (PySem.W.codeRec_of KX hcd) (hb _ _ _ _ ?_)
  refine wpAny_newFunctionEnv_cells S.kind hkind fun env he s1 x=>?_
  subst he
  refine⟨lim.keeps x.toInCall.keep,codeAny_func ?_⟩
  obtain⟨t,ht,hq⟩:=hbody A outer s H vs Q E (hr.deeper _) hsp
  have I:Inv (cxOf CX P w K mg base N qual scope f cdv A outer s H E) [] (start N vs) H s1:=inv_start S hr.hd e0 hl r x
  refine wpAny_mono (ht [] s1 (start N vs) H _ I hq) (fun fl s' hs=>?_) fun e s' hs=>hs
  have fin:∀ {σ':St}{H':Hp}{v:V}{u:Value},Inv (cxOf CX P w K mg base N qual scope f cdv A outer s H E) [] σ' H' s'->RelV v u->Q v H'->CE outer P w H s Q u s':=
    fun {σ' H' v u} J rv q=>⟨v,H',J.os,J.bare,J.base,J.hok,rv,q⟩
  cases fl with
  | ret u=>
    obtain⟨v,σ',H',J,rv,q⟩:=hs
    exact fin J rv q
  | next=>
    obtain⟨σ',H',J,q⟩:=hs
    exact fin (v:=V.non) (u:=Value.none) J rfl q
  | brk=>
    obtain⟨_,_,_,q⟩:=hs
    exact False.elim q
  | cont=>
    obtain⟨_,_,_,q⟩:=hs
    exact False.elim q
end L2
namespace L2
open PySem PySem.Spec PyProof.Rows
section
variable {X:Cx}{x:Str}{p pos:Pos}{e:Expr}{es:List Expr}{t:TA}{id T:String}{r:List V->Hp->VK->Prop}
noncomputable def tCB (r:List V->Hp->VK->Prop) (t:TA):TE:=fun σ H Q=>t σ H fun vs H1=>r vs H1 Q
theorem pe_callB (hc:CallR X (.builtin id) r) (hg:Gl X x) (hm:X.mg x=none) (hv:bootBuiltins x=some (.builtin id)) (ha:PA X (e::es) t) (hn:x≠"__name__":=by decide) (hdb:(x==("__debug__":Str))=false:=by decide)
    (he:starEach (e::es) X.env=(false,eval e X.env)::starEach es X.env:=by rfl) (hpl:(backTo pos (starEach es X.env)).any (·.1)=false:=by rfl):PE X (.Call (.Name x p) (e::es) [] pos) (tCB r t):=by
  intro pins s σ H Q I h
  refine wpAny_Call_Name_kw (ld_blt I hg hm hv ?_ hn hdb)
  exact PyProof.Rows.callWith_builtin1 (thn (ha pos pins s σ H _ I h) fun us s1 q9=>by obtain⟨vs,H1,I1,r1,q1⟩:=q9; exact hc pins s1 σ H1 vs us Q I1 r1 q1) he hpl
theorem pe_callTy (hc:CallR X (.type T) r) (hg:Gl X x) (hm:X.mg x=none) (hv:bootBuiltins x=some (.type T)) (ha:PA X (e::es) t) (hn:x≠"__name__":=by decide) (hdb:(x==("__debug__":Str))=false:=by decide)
    (he:starEach (e::es) X.env=(false,eval e X.env)::starEach es X.env:=by rfl) (hpl:(backTo pos (starEach es X.env)).any (·.1)=false:=by rfl):PE X (.Call (.Name x p) (e::es) [] pos) (tCB r t):=by
  intro pins s σ H Q I h
  refine wpAny_Call_Name_kw (ld_blt I hg hm hv ?_ hn hdb)
  exact PyProof.Rows.callWith_type1 (thn (ha pos pins s σ H _ I h) fun us s1 q9=>by obtain⟨vs,H1,I1,r1,q1⟩:=q9; exact hc pins s1 σ H1 vs us Q I1 r1 q1) he hpl
end
end L2
namespace HT
open PySem PyProof.Rows
noncomputable def lexLt:List Int->List Int->Bool
  | [],[]=>false
  | [],_::_=>true
  | _::_,[]=>false
  | x::xs,y::ys=>if x=y then lexLt xs ys else decide (x < y)
section
open PySem.SeqAt
open PySem.AutoSeq1 (wpAny_loadPart')
open PySem.MeetsSeq PySem.MeetsSeq2 PySem.MeetsSeq3
end
section
variable {prog:Program}{w:World}{A:Around}{E:Value->Shared->Prop}{s:Shared}
theorem cat_tup {t b:Addr}{vs ws:List Value}{Q:Value->Shared->Prop} (ht:IsTup s.heap t vs.toArray) (hb:IsTup s.heap b ws.toArray) (hv:vs≠[])
    (h1:ws=[]->Q (.ref t) s) (h2:ws≠[]->Q (.ref s.heap.objs.size) { s with heap:=s.heap.push { cls:=.type "tuple",data:=.seq (vs++ws).toArray } })
    (hsz:vs.length+ws.length<=sizeLine):wpAny (model prog w) A (binaryOp .Add (.ref t) (.ref b)) Q E s:=by
  obtain⟨⟨cls,dd,data,sl⟩,ho,hc,n,hd⟩:=id ht
  obtain⟨⟨cls2,dd2,data2,sl2⟩,ho2,hc2,n2,hd2⟩:=id hb
  simp only at hc hd hc2 hd2
  subst hc hd hc2 hd2
  have e:vs.toArray++ws.toArray=(vs++ws).toArray:=by simp
  by_cases hw:ws=[]
  · exact concat_meets ⟨_,ho,rfl⟩ ⟨_,ho2,rfl⟩ noFill_tuple_add seq_tuple_add PySem.F.slot_tuple_add PySem.F.entry_tuple_add (PySem.F.args_tuple_add_2 _ _)
      (tuple_addW1 t b vs.toArray ws.toArray n n2 dd dd2 sl sl2 (by simpa using hv) (by simp [hw])) ⟨ho,ho2,h1 hw⟩
  · refine concat_meets ⟨_,ho,rfl⟩ ⟨_,ho2,rfl⟩ noFill_tuple_add seq_tuple_add PySem.F.slot_tuple_add PySem.F.entry_tuple_add (PySem.F.args_tuple_add_2 _ _)
      (tuple_addW2 t b vs.toArray ws.toArray n n2 dd dd2 sl sl2 (by simpa using hv) (by simpa using hw) (by rw [List.size_toArray,List.size_toArray]; exact hsz)) ⟨ho,ho2,?_⟩
    rw [e]
    exact h2 hw
noncomputable def sIx (n d:Nat):Option Int->Nat
  | none=>d
  | some v=>if v < 0 then (v+(n:Int)).toNat else min v.toNat n
theorem sIx_none (n d:Nat):sIx n d none=d:=rfl
theorem sIx_nat (n d k:Nat):sIx n d (some (k:Int))=min k n:=by
  show (if (k:Int) < 0 then ((k:Int)+(n:Int)).toNat else min (k:Int).toNat n)=min k n
  rw [if_neg (by lia),Int.toNat_natCast]
theorem sIx_le (n d:Nat) (hd:d<=n) (o:Option Int):sIx n d o<=n:=by
  cases o with
  | none=>exact hd
  | some v=>
    show (if v < 0 then (v+(n:Int)).toNat else min v.toNat n)<=n
    by_cases hv:v < 0
    · rw [if_pos hv]; lia
    · rw [if_neg hv]; exact Nat.min_le_right _ _
theorem clip_eq (v:Int) (n d:Nat):(if v < 0 then max (v+(n:Int)) 0 else min v (n:Int))=((sIx n d (some v):Nat):Int):=by
  show (if v < 0 then max (v+(n:Int)) 0 else min v (n:Int))=(((if v < 0 then (v+(n:Int)).toNat else min v.toNat n):Nat):Int)
  by_cases hv:v < 0
  · simp only [if_pos hv]; lia
  · simp only [if_neg hv]; lia
theorem adjust_gen (lo hi:Option Int) (n:Nat):Builtin.Slice.sliceAdjust lo hi 1 (n:Int)=(((sIx n 0 lo:Nat):Int),((sIx n n hi:Nat):Int)):=by
  have h1:¬ ((1:Int) < 0):=by lia
  unfold Builtin.Slice.sliceAdjust
  simp only [h1,if_false]
  refine Prod.ext ?_ ?_
  · cases lo with
    | none=>rfl
    | some v=>exact clip_eq v n 0
  · cases hi with
    | none=>rfl
    | some v=>exact clip_eq v n n
theorem places_gen (i j:Nat):Builtin.Slice.slicePlaces (i:Int) (j:Int) 1=j - i:=by
  unfold Builtin.Slice.slicePlaces
  have h1:(1:Int) > 0:=by lia
  simp only [h1,if_true,Int.ediv_one]
  split<;>lia
theorem slicePart_ {v:Value}{o:Option Int}{Q:Option Int->Shared->Prop} (p:IsPart v o) (h:Q o s):wpAny (model prog w) A (Builtin.Slice.slicePartIndex v) Q E s:=by
  cases p with
  | none=>exact slicePart_none h
  | int i t=>exact slicePart_int h
theorem sliceApplied_gen {sl:Addr}{vl vu:Value}{lo hi:Option Int}{n:Nat}{Q:Int×Int×Nat->Shared->Prop} (hs:s.heap.IsSliceOf sl vl vu .none) (pl:IsPart vl lo) (pu:IsPart vu hi)
    (h:Q (((sIx n 0 lo:Nat):Int),1,sIx n n hi - sIx n 0 lo) s):wpAny (model prog w) A (Builtin.Slice.sliceApplied (.ref sl) (pure (n:Int))) Q E s:=by
  obtain⟨os,hos,hcs,hds⟩:=id hs
  unfold Builtin.Slice.sliceApplied Builtin.Slice.sliceFields
  refine wpAny_bind (wpAny_bind (wpAny_field hos hds (x:=vl) rfl (wpAny_bind (wpAny_field hos hds (x:=vu) rfl (wpAny_bind (wpAny_field hos hds (x:=.none) rfl (wpAny_pure ?_)))))))
  refine wpAny_bind (slicePart_none ?_)
  show wpAny _ _ (if ((1:Int)==0)=true then _ else _) _ _ s
  rw [if_neg (by decide)]
  refine wpAny_bind (slicePart_ pl (wpAny_bind (slicePart_ pu (wpAny_bind (wpAny_pure ?_)))))
  show wpAny _ _ (match Builtin.Slice.sliceAdjust lo hi 1 (n:Int) with | (lo,hi)=>pure (lo,(1:Int),Builtin.Slice.slicePlaces lo hi 1)) _ _ s
  rw [adjust_gen lo hi n]
  show wpAny _ _ (pure (((sIx n 0 lo:Nat):Int),(1:Int),Builtin.Slice.slicePlaces ((sIx n 0 lo:Nat):Int) ((sIx n n hi:Nat):Int) 1)) _ _ s
  rw [places_gen]
  exact wpAny_pure h
theorem pick_gen (xs:Array Value) (i k:Nat):((List.range k).filterMap fun (m:Nat)=>xs[((i:Int)+(m:Int)*1).toNat]?).toArray=((xs.toList.drop i).take k).toArray:=by
  have e:(fun (m:Nat)=>xs[((i:Int)+(m:Int)*1).toNat]?)=fun m=>xs[i+m]?:=by
    funext m
    have:((i:Int)+(m:Int)*1).toNat=i+m:=by lia
    rw [this]
  rw [e]
  have:=pick_run xs i k
  rw [List.filterMap_map] at this
  have e2:((fun x=>xs[x]?) ∘ fun x=>i+x)=fun m=>xs[i+m]?:=rfl
  rw [e2] at this
  rw [this]
theorem getItem_tuple_cut {t sl:Addr}{items:Array Value}{vl vu:Value}{lo hi:Option Int}{Q:Value->Shared->Prop} (ht:IsTup s.heap t items) (hs:s.heap.IsSliceOf sl vl vu .none) (pl:IsPart vl lo) (pu:IsPart vu hi)
    (hw:¬ (sIx items.size 0 lo=0/\sIx items.size items.size hi=items.size))
    (h:Q (.ref s.heap.objs.size) { s with heap:=s.heap.push { cls:=.type "tuple",data:=.seq ((items.toList.drop (sIx items.size 0 lo)).take (sIx items.size items.size hi - sIx items.size 0 lo)).toArray } })
    (hsz:items.size<=sizeLine):wpAny (model prog w) A (getItem (.ref t) (.ref sl)) Q E s:=by
  have htake:sizeOk (.seq ((items.toList.drop (sIx items.size 0 lo)).take (sIx items.size items.size hi - sIx items.size 0 lo)).toArray):=by
    show ((items.toList.drop (sIx items.size 0 lo)).take (sIx items.size items.size hi - sIx items.size 0 lo)).toArray.size<=sizeLine
    rw [List.size_toArray,List.length_take,List.length_drop,Array.length_toList]
    lia
  have hj:sIx items.size items.size hi<=items.size:=sIx_le _ _ (Nat.le_refl _) hi
  obtain⟨os,hos,hcs,hds⟩:=id hs
  have hTs:s.TypeIs (.ref sl) "slice":=⟨os,hos,hcs⟩
  unfold getItem
  try with_reducible refine wpAny_holding ?_
  first | refine wpAny_bind (wpAny_pure ?_) | skip
  refine wpAny_bind (wpAny_sequenceKey ht.typeIs (by decide) ?_)
  refine wpAny_bind (wpAny_callSpecial?_slot (name:=Str.ofString "__getitem__") ht.typeIs PyProof.Rows.slot_tuple_getitem
    (wpAny_call_entry PyProof.Rows.slot_tuple_getitem ht.typeIs entry_tuple_getitem ?_ (args_tuple_getitem _ _)))
  show wpAny _ _ (Builtin.Tuple.tupleItemsOf (.ref t) >>= _) _ _ s
  refine wpAny_bind (tupleItemsOf_ ht ?_)
  refine wpAny_bind (wpAny_typeOf hTs ?_)
  rw [if_pos (by decide)]
  refine wpAny_bind (sliceApplied_gen hs pl pu ?_)
  have hno:¬ ((((sIx items.size 0 lo:Nat):Int)==0&&(1:Int)==1&&(sIx items.size items.size hi - sIx items.size 0 lo)==items.size)=true):=by
    intro q
    rw [Bool.and_eq_true,Bool.and_eq_true] at q
    have q1:((sIx items.size 0 lo:Nat):Int)=0:=eq_of_beq q.1.1
    have q2:sIx items.size items.size hi - sIx items.size 0 lo=items.size:=eq_of_beq q.2
    exact hw ⟨by lia,by lia⟩
  show wpAny _ _ (if (((sIx items.size 0 lo:Nat):Int)==0&&(1:Int)==1&&(sIx items.size items.size hi - sIx items.size 0 lo)==items.size)=true then _ else _) _ _ s
  rw [if_neg hno,pick_gen]
  first
    | exact wpAny_bind (m:=Builtin.Tuple.tupleExact _) (wpAny_newObj_type (wpAny_pure ⟨_,rfl,wpAny_pure h⟩) htake)
    | exact wpAny_bind (m:=Builtin.Tuple.tupleExact _) (wpAny_newObj_type (wpAny_bind (wpAny_pure (wpAny_pure ⟨_,rfl,wpAny_pure h⟩))) htake)
    | exact wpAny_bind (wpAny_bind (m:=Builtin.Tuple.tupleExact _) (wpAny_newObj_type (wpAny_pure (wpAny_pure ⟨_,rfl,wpAny_pure h⟩)) htake))
    | exact wpAny_bind (wpAny_bind (m:=Builtin.Tuple.tupleExact _) (wpAny_newObj_type (wpAny_pure ⟨_,rfl,wpAny_pure h⟩) htake))
end
end HT
namespace L2
open PySem PySem.Spec PyProof.Rows
noncomputable abbrev TO:=St->Hp->(Option Int->Hp->Prop)->Prop
noncomputable def PO (X:Cx) (e:Option Expr) (t:TO):Prop:=
  ∀ (pins:List (Addr×Obj)) (s:Shared) (σ:St) (H:Hp) (Q:Option Int->Hp->Prop),Inv X pins σ H s->t σ H Q->
    wpAny (model X.prog X.w) X.A (evalPart e X.env) (fun u s'=>∃ o H',Inv X pins σ H' s'/\IsPart u o/\Q o H') X.xe s
noncomputable def tNoPart:TO:=fun _ H Q=>Q none H
noncomputable def tPart (t:TE):TO:=fun σ H Q=>t σ H fun x H1=>∃ i,x=.int i/\Q (some i) H1
theorem intsAre_of {ns:List Int}:∀ {us:List Value},Vals (ns.map V.int) us->IntsAre us ns:=by
  induction ns with
  | nil=>intro us r; rw [List.map_nil] at r; cases r; exact .nil
  | cons n ns ih=>
    intro us r
    rw [List.map_cons] at r
    cases r with
    | cons r1 r2=>
      obtain⟨t,e⟩:=r1
      subst e
      exact .cons n t (ih r2)
section
variable {X:Cx}{e:Expr}{te:TE}{lo hi:Option Expr}{tl th:TO}{pos p2:Pos}
theorem po_none:PO X none tNoPart:=by
  intro pins s σ H Q I h
  rw [evalPart_none]
  exact wpAny_pure ⟨none,H,I,.none,h⟩
theorem po_some (h:PE X e te):PO X (some e) (tPart te):=by
  intro pins s σ H Q I hw
  rw [evalPart_some]
  refine thn (h pins s σ H _ I hw) fun u s1 q9=>?_
  obtain⟨x,H1,I1,r1,q1⟩:=q9
  obtain⟨i,rfl,q⟩:=q1
  obtain⟨t,rfl⟩:=r1
  exact⟨some i,H1,I1,.int i t,q⟩
noncomputable def SlR (X:Cx) (r:V->Option Int->Option Int->Hp->VK->Prop):Prop:=
  ∀ (pins:List (Addr×Obj)) (s:Shared) (σ:St) (H:Hp) (x:V) (v vl vu:Value) (lo hi:Option Int) (sl:Addr) (Q:VK),Inv X pins σ H s->RelV x v->s.heap.IsSliceOf sl vl vu .none->IsPart vl lo->IsPart vu hi->r x lo hi H Q->
    ∃ T id,typeLookup (.type T) "__getitem__"=pure (some (.builtin id))/\s.TypeIs v T/\wpAny (model X.prog X.w) X.A (getItem v (.ref sl)) (EP X pins σ Q) X.xe s
theorem SlR.or {r r':V->Option Int->Option Int->Hp->VK->Prop} (h:SlR X r) (h':SlR X r'):SlR X (fun x lo hi H Q=>r x lo hi H Q\/r' x lo hi H Q):=by
  intro pins s σ H x v vl vu lo hi sl Q I rx hs pl pu q
  rcases q with q | q
  · exact h pins s σ H x v vl vu lo hi sl Q I rx hs pl pu q
  · exact h' pins s σ H x v vl vu lo hi sl Q I rx hs pl pu q
noncomputable def tSl (r:V->Option Int->Option Int->Hp->VK->Prop) (te:TE) (tl th:TO):TE:=fun σ H Q=>te σ H fun x H1=>tl σ H1 fun l H2=>th σ H2 fun u H3=>r x l u H3 Q
theorem pe_slice {r:V->Option Int->Option Int->Hp->VK->Prop} (hr:SlR X r) (he:PE X e te) (hl:PO X lo tl) (hu:PO X hi th):PE X (.Subscript e (.Slice lo hi none p2) pos) (tSl r te tl th):=by
  intro pins s σ H Q I h
  refine Subscript_ (thn (he pins s σ H _ I h) fun v s1 q9=>?_)
  obtain⟨x,H1,I1,r1,q1⟩:=q9
  refine wpAny_Slice (thn (hl pins s1 σ H1 _ I1 q1) fun vl s2 q9=>?_)
  obtain⟨l,H2,I2,pl,q2⟩:=q9
  refine thn (hu pins s2 σ H2 _ I2 q2) fun vu s3 q9=>?_
  obtain⟨u,H3,I3,pu,q3⟩:=q9
  rw [evalPart_none]
  refine wpAny_pure ?_
  have I4:Inv X pins σ H3 { s3 with heap:=s3.heap.push { cls:=.type "slice",data:=.fields #[vl,vu,.none] } }:=I3.kept (t':=s3.toks) fun b ob q=>Heap.get?_push_of_some _ q
  obtain⟨T,id,hT,ht,hg⟩:=hr pins { s3 with heap:=s3.heap.push { cls:=.type "slice",data:=.fields #[vl,vu,.none] } } σ H3 x v vl vu l u s3.heap.objs.size Q I4 r1 (Heap.IsSliceOf.new ..) pl pu q3
  show wpAny (model X.prog X.w) X.A (subscriptTail e (.Slice lo hi none p2) v (.ref s3.heap.objs.size)) (EP X pins σ Q) X.xe { s3 with heap:=s3.heap.push { cls:=.type "slice",data:=.fields #[vl,vu,.none] } }
  exact tail_any (ops:=[.ref s3.heap.objs.size,v]) ht hT hg (by with_unfolding_all rfl)
noncomputable def cutV (xs:List V) (lo hi:Option Int):List V:=(xs.drop (HT.sIx xs.length 0 lo)).take (HT.sIx xs.length xs.length hi - HT.sIx xs.length 0 lo)
theorem cutV_length (xs:List V) (lo hi:Option Int):(cutV xs lo hi).length<=xs.length:=by
  unfold cutV
  rw [List.length_take,List.length_drop]
  lia
noncomputable def rSlT (K:PySem.W.Frag):V->Option Int->Option Int->Hp->VK->Prop:=fun x lo hi H Q=>∃ a xs,x=.ref a/\SqT K H a xs/\
  ¬ (HT.sIx xs.length 0 lo=0/\HT.sIx xs.length xs.length hi=xs.length)/\∀ p,H p=none->Q (.ref p) (upd H p (.tup (cutV xs lo hi)))
theorem sl_tup:SlR X (rSlT X.K):=by
  intro pins s σ H x v vl vu lo hi sl Q I rx hs pl pu h
  obtain⟨a,xs,rfl,hx,hw,q⟩:=h
  cases rx
  obtain⟨its,r,ht,hz⟩:=I.tuple hx
  have hlen:its.toArray.size=xs.length:=by rw [List.size_toArray]; exact r.length.symm
  refine⟨"tuple",_,PyProof.Rows.slot_tuple_getitem.lookup,ht.typeIs,?_⟩
  refine HT.getItem_tuple_cut ht hs pl pu (by rw [hlen]; exact hw) ?_ (by rw [hlen]; exact hz)
  rw [hlen]
  refine⟨.ref s.heap.objs.size,_,I.laid (t':=s.toks) (o:=.tup (cutV xs lo hi)) (fun b ob q=>Heap.get?_push_of_some _ q) (Nat.le_refl _) ?_,rfl,q _ (I.hok.fresh (Nat.le_refl _))⟩
  exact⟨Nat.le_trans (cutV_length xs lo hi) hz,_,(r.drop (HT.sIx xs.length 0 lo)).take (HT.sIx xs.length xs.length hi - HT.sIx xs.length 0 lo),IsTup.new _ _⟩
noncomputable def rLtT (K:PySem.W.Frag):R2:=fun x y H Q=>∃ a b ns ms,x=.ref a/\y=.ref b/\SqT K H a (ns.map V.int)/\SqT K H b (ms.map V.int)/\Q (.bl (HT.lexLt ns ms)) H
noncomputable def rCatT (K:PySem.W.Frag):R2:=fun x y H Q=>∃ a b xs ys,x=.ref a/\y=.ref b/\SqT K H a xs/\SqT K H b ys/\xs≠[]/\xs.length+ys.length<=sizeLine/\
  (ys=[]->Q (.ref a) H)/\(ys≠[]->∀ p,H p=none->Q (.ref p) (upd H p (.tup (xs++ys))))
theorem Vals.nil_iff {xs:List V}{us:List Value} (r:Vals xs us):us=[]↔xs=[]:=by
  cases r with
  | nil=>simp
  | cons _ _=>simp
theorem op_catT:OpR X (binaryOp .Add) (rCatT X.K):=by
  intro pins s σ H x y v u Q I rx ry h
  obtain⟨a,b,xs,ys,rfl,rfl,ha,hb,hx,hz,q1,q2⟩:=h
  cases rx
  cases ry
  obtain⟨its,r1,p1,_⟩:=I.tuple ha
  obtain⟨its2,r2,p2,_⟩:=I.tuple hb
  refine HT.cat_tup p1 p2 (fun z=>hx (r1.nil_iff.mp z)) (fun z=>⟨.ref a,H,I,rfl,q1 (r2.nil_iff.mp z)⟩) (fun z=>?_) (by rw [<-r1.length,<-r2.length]; exact hz)
  refine⟨.ref s.heap.objs.size,_,I.laid (t':=s.toks) (o:=.tup (xs++ys)) (fun b ob q=>Heap.get?_push_of_some _ q) (Nat.le_refl _) ?_,rfl,q2 (fun w=>z (r2.nil_iff.mpr w)) _ (I.hok.fresh (Nat.le_refl _))⟩
  exact⟨by rw [List.length_append]; exact hz,_,r1.append r2,IsTup.new _ _⟩
end
end L2
namespace L2
open PySem PySem.Spec PyProof.Rows
noncomputable def ixN (n:Nat) (i:Int):Option Nat:=if 0<=i then (if i < n then some i.toNat else none) else if -(n:Int)<=i then some (i+n).toNat else none
noncomputable def atI {α:Type} (xs:List α) (i:Int):Option α:=(ixN xs.length i).bind fun j=>xs[j]?
theorem ixN_seq {n:Nat}{i:Int}{j:Nat} (h:ixN n i=some j):seqIndex? i n=some j/\j < n/\-(n:Int)<=i/\i < n:=by
  unfold ixN at h
  by_cases h0:0<=i
  · rw [if_pos h0] at h
    by_cases h1:i < n
    · rw [if_pos h1] at h
      have e:i.toNat=j:=Option.some.inj h
      exact⟨by rw [seqIndex_of h0 h1,e],by lia,by lia,h1⟩
    · rw [if_neg h1] at h; cases h
  · rw [if_neg h0] at h
    by_cases h1:-(n:Int)<=i
    · rw [if_pos h1] at h
      have e:(i+n).toNat=j:=Option.some.inj h
      exact⟨by rw [seqIndex_neg (by lia) h1,e],by lia,h1,by lia⟩
    · rw [if_neg h1] at h; cases h
theorem atI_get {α:Type}{xs:List α}{i:Int}{v:α} (h:atI xs i=some v):∃ j,seqIndex? i xs.length=some j/\xs[j]?=some v/\j < xs.length/\-(xs.length:Int)<=i/\i < xs.length:=by
  unfold atI at h
  cases e:ixN xs.length i with
  | none=>rw [e] at h; cases h
  | some j=>
    rw [e] at h
    obtain⟨h1,h2,h3,h4⟩:=ixN_seq e
    exact⟨j,h1,h,h2,h3,h4⟩
noncomputable def PlainIx (b:Expr):Prop:=∀ o i,subscripted b false o i=operate [o,i] (getItem o i)
noncomputable def IxR (X:Cx) (r:R2):Prop:=
  ∀ (value slice:Expr) (pins:List (Addr×Obj)) (s:Shared) (σ:St) (H:Hp) (x y:V) (v u:Value) (Q:VK),Inv X pins σ H s->RelV x v->RelV y u->r x y H Q->
    subscripted slice false v u=operate [v,u] (getItem v u)->wpAny (model X.prog X.w) X.A (subscriptTail value slice v u) (EP X pins σ Q) X.xe s
noncomputable def MtR (X:Cx) (id:String) (r:V->List V->Hp->VK->Prop):Prop:=
  ∀ (pins:List (Addr×Obj)) (s:Shared) (σ:St) (H:Hp) (x:V) (xs:List V) (v:Value) (us:List Value) (Q:VK),Inv X pins σ H s->RelV x v->Vals xs us->r x xs H Q->
    wpAny (model X.prog X.w) X.A (call (.builtin id) (v::us)) (EP X pins σ Q) X.xe s
section
variable {X:Cx}{a b:Expr}{ta tb:TE}{pos:Pos}
theorem IxR.or {r r':R2} (h:IxR X r) (h':IxR X r'):IxR X (fun x y H Q=>r x y H Q\/r' x y H Q):=by
  intro value slice pins s σ H x y v u Q I rx ry q hs
  rcases q with q | q
  · exact h value slice pins s σ H x y v u Q I rx ry q hs
  · exact h' value slice pins s σ H x y v u Q I rx ry q hs
theorem pe_ix {r:R2} (hr:IxR X r) (ha:PE X a ta) (hb:PE X b tb) (hs:PlainIx b):PE X (.Subscript a b pos) (tOp r ta tb):=by
  intro pins s σ H Q I h
  exact Subscript_ (binT ha hb I h fun v u s2 x y H2 I2 rx ry q=>hr a b pins s2 σ H2 x y v u Q I2 rx ry q (hs _ _))
noncomputable def rIxL (K:PySem.W.Frag):R2:=fun x y H Q=>∃ p xs i v,x=.ref p/\y=.int i/\SqL K H p xs/\atI xs i=some v/\Q v H
noncomputable def rIxT (K:PySem.W.Frag):R2:=fun x y H Q=>∃ p xs i v,x=.ref p/\y=.int i/\SqT K H p xs/\atI xs i=some v/\Q v H
noncomputable def rIxS:R2:=fun x y H Q=>∃ z i c,x=.str z/\y=.int i/\z.length<=sizeLine/\atI z.cps.toList i=some c/\Q (.str ⟨#[c]⟩) H
theorem ix_list:IxR X (rIxL X.K):=by
  intro value slice pins s σ H x y v u Q I rx ry h hs
  obtain⟨p,xs,i,z,rfl,rfl,hq,he,q⟩:=h
  cases rx
  obtain⟨t,rfl⟩:=ry
  obtain⟨its,r,pl,hz⟩:=I.list hq
  obtain⟨j,h1,h2,h3,h4,h5⟩:=atI_get he
  obtain⟨w,ew,rw'⟩:=r.get h2
  have hl:=r.length
  have hn:=line63
  have fin:EP X pins σ Q w s:=⟨z,H,I,rw',q⟩
  by_cases h0:0<=i
  · have hj:i.toNat=j:=by
      rw [seqIndex_of h0 h5] at h1
      exact Option.some.inj h1
    exact item_listR pl.isList h0 (by lia) (by rw [hj]; simpa using ew) fin hs
  · have hj:(i+(its.toArray.size:Int)).toNat=j:=by
      rw [seqIndex_neg (by lia) h4] at h1
      rw [List.size_toArray,<-hl]
      exact Option.some.inj h1
    exact subscriptTail_builtinR (x:=w) pl.isList.typeIs slot_list_getitem.lookup
      (wpAny_getItem_list_neg (Q:=fun r s'=>r=w/\EP X pins σ Q r s') pl.isList (by lia) (by rw [List.size_toArray]<;>lia) (by lia) (by rw [hj]; simpa using ew) ⟨rfl,fin⟩) hs
theorem ix_tup:IxR X (rIxT X.K):=by
  intro value slice pins s σ H x y v u Q I rx ry h hs
  obtain⟨p,xs,i,z,rfl,rfl,hq,he,q⟩:=h
  cases rx
  obtain⟨t,rfl⟩:=ry
  obtain⟨its,r,pl,hz⟩:=I.tuple hq
  obtain⟨j,h1,h2,h3,h4,h5⟩:=atI_get he
  obtain⟨w,ew,rw'⟩:=r.get h2
  have hl:=r.length
  have hn:=line63
  have fin:EP X pins σ Q w s:=⟨z,H,I,rw',q⟩
  exact subscriptTail_builtinR (x:=w) pl.typeIs slot_tuple_getitem.lookup
    (getItem_tuple (j:=j) (Q:=fun r s'=>r=w/\EP X pins σ Q r s') pl (by lia) (by lia) (by rw [List.size_toArray,<-hl]; exact h1) (by simpa using ew) ⟨rfl,fin⟩) hs
theorem ix_str:IxR X rIxS:=by
  intro value slice pins s σ H x y v u Q I rx ry h hs
  obtain⟨z,i,c,rfl,rfl,hz,he,q⟩:=h
  obtain⟨t,rfl⟩:=rx
  obtain⟨t',rfl⟩:=ry
  obtain⟨j,h1,h2,h3,h4,h5⟩:=atI_get he
  have hl:z.cps.toList.length=z.length:=by simp [Str.length]
  rw [hl] at h1 h4 h5
  have hn:=line63
  exact tail_any (typeIs_str s z t) slot_str_getitem.lookup (getItem_str (c:=c) (by
    have e1:decide (i < -(2 ^ 63:Int))=false:=decide_eq_false (by lia)
    have e2:decide (i>=2 ^ 63)=false:=decide_eq_false (by lia)
    rw [e1,e2,Bool.or_false]) (by rw [h1]; simpa using h2) ⟨.str ⟨#[c]⟩,H,I.tok _,⟨_,rfl⟩,q⟩) hs
noncomputable def rIx (K:PySem.W.Frag):R2:=fun x y H Q=>rIxL K x y H Q\/rIxT K x y H Q\/rIxS x y H Q
theorem ix_seq:IxR X (rIx X.K):=ix_list.or (ix_tup.or ix_str)
theorem mapSeq_set (its:List Value) (n j:Nat) (u:Value):Obj.mapSeq (·.setIfInBounds j u) { cls:=.type "list",data:=.seq its.toArray n }={ cls:=.type "list",data:=.seq (its.set j u).toArray n }:=by
  simp [Obj.mapSeq]
theorem Inv.lst {pins:List (Addr×Obj)}{σ:St}{H:Hp}{s:Shared}{p:Addr}{xs:List V} (I:Inv X pins σ H s) (h:H p=some (.lst xs)):
    ∃ (its:List Value) (n:Nat),Vals xs its/\s.heap.get? p=some { cls:=.type "list",data:=.seq its.toArray n }/\xs.length<=sizeLine:=by
  obtain⟨z,its,n,r,e⟩:=I.hok p _ h
  exact⟨its,n,r,e,z⟩
theorem Inv.lstUpd {pins:List (Addr×Obj)}{σ:St}{H:Hp}{s:Shared}{p:Addr}{xs ys:List V}{its its':List Value}{n n':Nat}{f:Obj->Obj} (I:Inv X pins σ H s) (h:H p=some (.lst xs))
    (ho:s.heap.get? p=some { cls:=.type "list",data:=.seq its.toArray n }) (hf:f { cls:=.type "list",data:=.seq its.toArray n }={ cls:=.type "list",data:=.seq its'.toArray n' }) (r:Vals ys its') (hz:ys.length<=sizeLine) (t:Nat):
    Inv X pins σ (upd H p (.lst ys)) { s with heap:=s.heap.update p f,toks:=t }:=by
  have e:(s.heap.update p f).get? p=some { cls:=.type "list",data:=.seq its'.toArray n' }:=by
    rw [Heap.get?_update_self f ho (by rw [hf]<;>rfl),hf]
  refine I.write (x:=p) (e:=p) (by rw [h]; trivial) (.inl rfl) (fun b u hb q=>(Heap.get?_update_other _ _ (Ne.symm hb)).trans q) ⟨_,e⟩ ?_
  exact⟨hz,its',n',r,e⟩
noncomputable def rSetL:V->V->V->Hp->(Hp->Prop)->Prop:=fun o i v H Q=>∃ p xs k j,o=.ref p/\i=.int k/\H p=some (.lst xs)/\ixN xs.length k=some j/\Q (upd H p (.lst (xs.set j v)))
theorem set_list:PSet X rSetL:=by
  intro pins s σ H o i v ov iv u Q I ro ri rv h
  obtain⟨p,xs,k,j,rfl,rfl,hp,hj,q⟩:=h
  cases ro
  obtain⟨t,rfl⟩:=ri
  obtain⟨its,n,r,ho,hz⟩:=I.lst hp
  obtain⟨h1,h2,h3,h4⟩:=ixN_seq hj
  have hl:=r.length
  have hn:=line63
  have I':Inv X pins σ (upd H p (.lst (xs.set j v))) { s with heap:=s.heap.update p (Obj.mapSeq (·.setIfInBounds j u)) }:=
    I.lstUpd hp ho (mapSeq_set its n j u) (r.set rv j) (by rw [List.length_set]; exact hz) s.toks
  by_cases h0:0<=k
  · have hk:k.toNat=j:=by
      rw [seqIndex_of h0 h4] at h1
      exact Option.some.inj h1
    exact PySem.W.ki_setAt ho h0 (by lia) (by rw [List.size_toArray,<-hl]; exact h4) (by rw [hk]; exact⟨_,I',q⟩)
  · have hk:(k+(its.toArray.size:Int)).toNat=j:=by
      rw [seqIndex_neg (by lia) h3] at h1
      rw [List.size_toArray,<-hl]
      exact Option.some.inj h1
    exact PySem.W.ki_setBack ho (by lia) (by rw [List.size_toArray,<-hl]; exact h3) (by lia) (by rw [hk]; exact⟨_,I',q⟩)
theorem slice_bounds (lo hi:Option Int) (n:Nat):(sliceBounds lo hi none n).1=((HT.sIx n 0 lo:Nat):Int)/\(sliceBounds lo hi none n).2.1=((HT.sIx n n hi:Nat):Int)/\(sliceBounds lo hi none n).2.2=1:=by
  refine⟨?_,?_,rfl⟩
  · cases lo with
    | none=>simp [sliceBounds,HT.sIx]
    | some i=>
      simp only [sliceBounds,HT.sIx,Option.getD_none,show (1:Int) > 0 by decide,if_true]
      by_cases h:i < 0
      · simp only [h,if_true]<;>lia
      · simp only [h,if_false]<;>lia
  · cases hi with
    | none=>simp [sliceBounds,HT.sIx]
    | some i=>
      simp only [sliceBounds,HT.sIx,Option.getD_none,show (1:Int) > 0 by decide,if_true]
      by_cases h:i < 0
      · simp only [h,if_true]<;>lia
      · simp only [h,if_false]<;>lia
theorem slicePick_cut (its:List Value) (lo hi:Option Int):slicePick its.toArray lo hi none=((its.drop (HT.sIx its.length 0 lo)).take (HT.sIx its.length its.length hi - HT.sIx its.length 0 lo)).toArray:=by
  obtain⟨h1,h2,h3⟩:=slice_bounds lo hi its.toArray.size
  unfold slicePick
  rw [h1,h2,h3]
  simp only [sliceRange_one,pick_run,List.size_toArray]<;>rfl
noncomputable def rSlL (K:PySem.W.Frag):V->Option Int->Option Int->Hp->VK->Prop:=fun x lo hi H Q=>∃ a xs,x=.ref a/\SqL K H a xs/\∀ p,H p=none->Q (.ref p) (upd H p (.lst (cutV xs lo hi)))
theorem sl_list:SlR X (rSlL X.K):=by
  intro pins s σ H x v vl vu lo hi sl Q I rx hs pl pu h
  obtain⟨a,xs,rfl,hx,q⟩:=h
  cases rx
  obtain⟨its,r,ht,hz⟩:=I.list hx
  have hlen:=r.length
  refine⟨"list",_,slot_list_getitem.lookup,ht.isList.typeIs,?_⟩
  refine wpAny_getItem_list_slice ht.isList hs pl pu .none (by simp) ?_ (by rw [List.size_toArray]<;>lia)
  rw [slicePick_cut,<-hlen]
  refine⟨.ref s.heap.objs.size,_,I.laid (t':=s.toks) (o:=.lst (cutV xs lo hi)) (fun b ob q=>Heap.get?_push_of_some _ q) (Nat.le_refl _) ?_,rfl,q _ (I.hok.fresh (Nat.le_refl _))⟩
  exact⟨Nat.le_trans (cutV_length xs lo hi) hz,_,0,(r.drop (HT.sIx xs.length 0 lo)).take (HT.sIx xs.length xs.length hi - HT.sIx xs.length 0 lo),Heap.get?_push_size _ rfl⟩
noncomputable def flatV:V->Bool
  | .non=>true
  | .bl _=>true
  | .int _=>true
  | .str _=>true
  | _=>false
noncomputable def eqV:V->V->Bool
  | .non,.non=>true
  | .bl a,.bl b=>a==b
  | .bl a,.int b=>(if a then 1 else 0)==b
  | .int a,.bl b=>a==(if b then 1 else 0)
  | .int a,.int b=>a==b
  | .str a,.str b=>a==b
  | _,_=>false
theorem eqAt_V {A:Around}{s:Shared}{y x:V}{u v:Value} (ry:RelV y u) (rx:RelV x v) (fy:flatV y=true) (fx:flatV x=true):SeqAt.EqAt A s u v (eqV y x):=by
  cases y with
  | non=>
    cases ry
    cases x with
    | non=>cases rx; exact SeqAt.EqAt.same _
    | bl b=>cases rx; exact SeqAt.EqAt.none_bool b
    | int b=>obtain⟨t,rfl⟩:=rx; exact SeqAt.EqAt.none_int b t
    | str b=>obtain⟨t,rfl⟩:=rx; exact SeqAt.EqAt.none_str b t
    | _=>exact absurd (show false=true from fx) Bool.false_ne_true
  | bl a=>
    cases ry
    cases x with
    | non=>cases rx; exact SeqAt.EqAt.bool_none a
    | bl b=>cases rx; exact SeqAt.EqAt.bool_bool a b
    | int b=>obtain⟨t,rfl⟩:=rx; exact SeqAt.EqAt.bool_int a b t
    | str b=>obtain⟨t,rfl⟩:=rx; exact SeqAt.EqAt.bool_str a b t
    | _=>exact absurd (show false=true from fx) Bool.false_ne_true
  | int a=>
    obtain⟨t',rfl⟩:=ry
    cases x with
    | non=>cases rx; exact SeqAt.EqAt.int_none a t'
    | bl b=>cases rx; exact SeqAt.EqAt.int_bool a t' b
    | int b=>obtain⟨t,rfl⟩:=rx; exact SeqAt.EqAt.int_int a t' b t
    | str b=>obtain⟨t,rfl⟩:=rx; exact SeqAt.EqAt.int_str a t' b t
    | _=>exact absurd (show false=true from fx) Bool.false_ne_true
  | str a=>
    obtain⟨t',rfl⟩:=ry
    cases x with
    | non=>cases rx; exact SeqAt.EqAt.str_none a t'
    | bl b=>cases rx; exact SeqAt.EqAt.str_bool a t' b
    | int b=>obtain⟨t,rfl⟩:=rx; exact SeqAt.EqAt.str_int a t' b t
    | str b=>obtain⟨t,rfl⟩:=rx; exact SeqAt.EqAt.str_str a t' b t
    | _=>exact absurd (show false=true from fx) Bool.false_ne_true
  | _=>exact absurd (show false=true from fy) Bool.false_ne_true
noncomputable def eqU (x:V) (u:Value):Bool:=match u with
  | .none=>eqV .non x
  | .bool b=>eqV (.bl b) x
  | .int i _=>eqV (.int i) x
  | .str z _=>eqV (.str z) x
  | _=>false
theorem eqU_of {x y:V}{u:Value} (r:RelV y u) (f:flatV y=true):eqU x u=eqV y x:=by
  cases y with
  | non=>cases r; rfl
  | bl b=>cases r; rfl
  | int i=>obtain⟨t,rfl⟩:=r; rfl
  | str z=>obtain⟨t,rfl⟩:=r; rfl
  | _=>exact absurd (show false=true from f) Bool.false_ne_true
theorem any_eqU {x:V}:∀ {xs:List V}{us:List Value},Vals xs us->xs.all flatV=true->us.any (eqU x)=xs.any fun y=>eqV y x
  | _,_,.nil,_=>rfl
  | y::xs,u::us,.cons r t,f=>by
    rw [List.all_cons,Bool.and_eq_true] at f
    rw [List.any_cons,List.any_cons,eqU_of r f.1,any_eqU t f.2]
theorem mem_eqAt {A:Around}{s:Shared}{x:V}{v:Value} (rx:RelV x v) (fx:flatV x=true):∀ {xs:List V}{us:List Value},Vals xs us->xs.all flatV=true->∀ u∈us,SeqAt.EqAt A s u v (eqU x u)
  | _,_,.nil,_=>fun u hu=>by cases hu
  | y::xs,u::us,.cons r t,f=>fun u' hu=>by
    rw [List.all_cons,Bool.and_eq_true] at f
    rcases List.mem_cons.mp hu with rfl | hu
    · rw [eqU_of r f.1]; exact eqAt_V r rx f.1 fx
    · exact mem_eqAt rx fx t f.2 u' hu
noncomputable def inV (x:V) (xs:List V):Bool:=xs.any fun y=>eqV y x
noncomputable def rIn (K:PySem.W.Frag) (neg:Bool):R2:=fun x y H Q=>∃ p xs,y=.ref p/\(SqL K H p xs\/SqT K H p xs)/\flatV x=true/\xs.all flatV=true/\Q (.bl (if neg then !inV x xs else inV x xs)) H
theorem op_notIn_seq:OpR X (compareOp .NotIn) (rIn X.K true):=by
  intro pins s σ H x y v u Q I rx ry h
  obtain⟨p,xs,rfl,hq,fx,fs,q⟩:=h
  cases ry
  rcases hq with hq | hq
  · obtain⟨its,r,pl,hz⟩:=I.list hq
    refine SeqAt.notIn_listAt (eqU x) pl.isList (fun w hw=>mem_eqAt rx fx r fs w (by simpa using hw)) ⟨.bl _,H,I,rfl,?_⟩
    rw [show its.toArray.any (eqU x)=its.any (eqU x) by simp,any_eqU r fs]
    exact q
  · obtain⟨its,r,pl,hz⟩:=I.tuple hq
    refine SeqAt.notIn_tupleAt (eqU x) pl (fun w hw=>mem_eqAt rx fx r fs w (by simpa using hw)) ⟨.bl _,H,I,rfl,?_⟩
    rw [show its.toArray.any (eqU x)=its.any (eqU x) by simp,any_eqU r fs]
    exact q
theorem call_len_seq:CallR X (.builtin "len") (fun xs H Q=>∃ p ys,xs=[.ref p]/\(SqL X.K H p ys\/SqT X.K H p ys)/\Q (.int ys.length) H):=by
  intro pins s σ H xs us Q I r h
  obtain⟨p,ys,rfl,hq,q⟩:=h
  obtain⟨u,rfl,rx⟩:=vals1 r
  cases rx
  have hn:=line63
  rcases hq with hq | hq
  · obtain⟨its,r',pl,hz⟩:=I.list hq
    have hlen:=r'.length
    exact Calls.call_len_list pl.isList (by simp only [List.size_toArray]<;>lia) ⟨.int ys.length,H,I.tok _,⟨s.toks+1,by rw [List.size_toArray,hlen]⟩,q⟩
  · obtain⟨its,r',pl,hz⟩:=I.tuple hq
    have hlen:=r'.length
    exact len_tuple pl (by simp only [List.size_toArray]<;>lia) ⟨.int ys.length,H,I.tok _,⟨s.toks+1,by rw [List.size_toArray,hlen]⟩,q⟩
theorem call_list_of:CallR X (.type "list") (fun xs H Q=>∃ p ys,xs=[.ref p]/\(SqL X.K H p ys\/SqT X.K H p ys)/\∀ l,H l=none->Q (.ref l) (upd H l (.lst ys))):=by
  intro pins s σ H xs us Q I r h
  obtain⟨p,ys,rfl,hq,q⟩:=h
  obtain⟨u,rfl,rx⟩:=vals1 r
  cases rx
  have fin:∀ (its:List Value),Vals ys its->ys.length<=sizeLine->∀ (h':Heap) (c':Nat),(∀ b o',s.heap.get? b=some o'->h'.get? b=some o')->
      h'.get? s.heap.objs.size=some { cls:=.type "list",dict:=none,data:=.seq its.toArray c',slots:=#[] }->EP X pins σ Q (.ref s.heap.objs.size) { s with heap:=h' }:=fun its r' hz h' c' kp e=>
    ⟨.ref s.heap.objs.size,_,I.laid (t':=s.toks) kp (Nat.le_refl _) (show ObjOk X.prog X.w _ h' _ (.lst ys) from⟨hz,its,c',r',e⟩),rfl,q _ (I.hok.fresh (Nat.le_refl _))⟩
  rcases hq with hq | hq
  · obtain⟨its,r',pl,hz⟩:=I.list hq
    have hlen:=r'.length
    obtain⟨o,ho,hc,n,hd⟩:=pl.isList
    exact call_list_seq p (.inl rfl) ho hc hd (fun h' c' kp e=>fin its r' hz h' c' kp e) (by simp only [List.size_toArray]<;>lia)
  · obtain⟨its,r',pl,hz⟩:=I.tuple hq
    have hlen:=r'.length
    obtain⟨o,ho,hc,n,hd⟩:=pl
    exact call_list_seq p (.inr rfl) ho hc hd (fun h' c' kp e=>fin its r' hz h' c' kp e) (by simp only [List.size_toArray]<;>lia)
noncomputable def tyV (K:PySem.W.Frag) (T:String) (x:V) (H:Hp):Prop:=match x with
  | .str _=>T="str"
  | .int _=>T="int"
  | .ref p=>(T="list"/\∃ xs,SqL K H p xs)\/(T="tuple"/\∃ o,K.lookup p=some o/\o.cls=.type "tuple"/\o.dict=none)\/
      (T="dict"/\((∃ kvs,H p=some (.dK kvs))\/∃ kvs,H p=some (.dT kvs)))\/(T="set"/\∃ S n,H p=some (.set S n))
  | _=>False
theorem tyV_is {pins:List (Addr×Obj)}{σ:St}{H:Hp}{s:Shared}{T:String}{x:V}{v:Value} (I:Inv X pins σ H s) (r:RelV x v) (ty:tyV X.K T x H):
    s.TypeIs v T/\∀ a,v=.ref a->∃ ob,s.heap.get? a=some ob/\ob.dict=none:=by
  cases x with
  | str z=>
    obtain⟨t,rfl⟩:=r
    cases (show T="str" from ty)
    exact⟨typeIs_str s z t,fun _ e=>nomatch e⟩
  | int i=>
    obtain⟨t,rfl⟩:=r
    cases (show T="int" from ty)
    exact⟨typeIs_int s i t,fun _ e=>nomatch e⟩
  | ref p=>
    cases r
    rcases ty with⟨rfl,xs,hq⟩ | ⟨rfl,o,hk,hc,hd⟩ | ⟨rfl,hk⟩ | ⟨rfl,S,n,hk⟩
    · obtain⟨its,_,pl,_⟩:=I.list hq
      refine⟨pl.isList.typeIs,fun a e=>?_⟩
      cases e
      obtain⟨o,n,e,c,hd,_⟩:=pl
      exact⟨o,e,hd⟩
    · refine⟨⟨o,I.kIn p o hk,hc⟩,fun a e=>?_⟩
      cases e
      exact⟨o,I.kIn _ o hk,hd⟩
    · have z:∃ o,s.heap.get? p=some o/\o.ExactDict:=by
        rcases hk with⟨kvs,hk⟩ | ⟨kvs,hk⟩
        · obtain⟨_,_,_,_,o,_,_,e,ex,_⟩:=I.hok p _ hk
          exact⟨o,e,ex⟩
        · obtain⟨_,_,_,_,o,_,_,e,ex,_⟩:=I.hok p _ hk
          exact⟨o,e,ex⟩
      obtain⟨o,e,ex⟩:=z
      refine⟨⟨o,e,ex.1⟩,fun a e2=>?_⟩
      cases e2
      exact⟨o,e,ex.2.1⟩
    · obtain⟨o,_,_,_,e,ex,_⟩:=I.hok p _ hk
      refine⟨⟨o,e,ex.1⟩,fun a e2=>?_⟩
      cases e2
      exact⟨o,e,ex.2.1⟩
  | _=>exact False.elim ty
noncomputable def tBM0 (K:PySem.W.Frag) (T:String) (r:V->List V->Hp->VK->Prop) (to:TE):TE:=fun σ H Q=>to σ H fun x H1=>tyV K T x H1/\r x [] H1 Q
noncomputable def tBM (K:PySem.W.Frag) (T:String) (r:V->List V->Hp->VK->Prop) (to:TE) (t:TA):TE:=fun σ H Q=>to σ H fun x H1=>tyV K T x H1/\t σ H1 fun xs H2=>r x xs H2 Q
variable {o e:Expr}{es:List Expr}{to:TE}{t:TA}{name:Str}{apos cpos:Pos}{T id:String}{r:V->List V->Hp->VK->Prop}
theorem pe_bm (pa:PlainAttrs T) (slot:Slot T name id) (hty:typeOf (.builtin id)=pure (.type "method_descriptor")) (hm:MtR X id r) (ho:PE X o to) (ha:PA X (e::es) t)
    (hbase:attributeBase o name X.env (eval o X.env)=eval o X.env:=by rfl)
    (hfew:((backTo cpos (starEach (e::es) X.env)).all (fun x=>!x.1)&&(backToKw cpos (keywordEach [] X.env)).all (fun x=>x.1.isSome)
      && decide ((e::es).length+([]:List Keyword).length+(if ([]:List Keyword).isEmpty then 0 else 1) < 30))=true:=by rfl)
    (hline:(apos.endLine==cpos.line)=true:=by rfl) (hs:starEach (e::es) X.env=(false,eval e X.env)::starEach es X.env:=by rfl) (hplain:(backTo cpos (starEach es X.env)).any (·.1)=false:=by rfl):
    PE X (.Call (.Attribute o name apos) (e::es) [] cpos) (tBM X.K T r to t):=by
  intro pins s σ H Q I h
  refine wpAny_Call_method_late hbase hfew hline rfl (thn (ho pins s σ H _ I h) fun v s1 q9=>?_)
  obtain⟨x,H1,I1,r1,ty,q1⟩:=q9
  obtain⟨h1,h2⟩:=tyV_is I1 r1 ty
  refine⟨T,id,pa,slot,hty,h1,h2,?_⟩
  have hA:=ha cpos pins s1 σ H1 _ I1 q1
  rw [hs] at hA |-
  refine Calls.callWith_builtin (by show (false||(backTo cpos (starEach es X.env)).any (·.1))=false; rw [hplain]<;>rfl) (Calls.evalArgs_plain ?_)
  exact thn hA fun us s2 ⟨vs,H2,I2,r2,q2⟩=>hm pins s2 σ H2 x vs v us Q I2 r1 r2 q2
end
end L2
namespace L2
open PySem PySem.Spec PyProof.Rows
noncomputable def MtM (X:Cx) (id:String) (r:V->List V->Hp->VK->Prop):Prop:=
  ∀ (pins:List (Addr×Obj)) (s:Shared) (σ:St) (H:Hp) (x:V) (xs:List V) (v:Value) (us:List Value) (Q:VK),Inv X pins σ H s->RelV x v->Vals xs us->r x xs H Q->
    wpAny (model X.prog X.w) X.A (call (.builtin id) (v::us)) (EP X pins σ Q) X.xe s
theorem Vals.one {x:V}{us:List Value} (h:Vals [x] us):∃ u,us=[u]/\RelV x u:=by
  cases h with
  | cons r t=>cases t; exact⟨_,rfl,r⟩
section
variable {X:Cx}{pins:List (Addr×Obj)}{σ:St}{H:Hp}{s:Shared}{l b:Addr}{xs ys zs:List V}
theorem Inv.lset {its its':List Value}{n:Nat}{f:Array Value->Array Value}{t':Nat} (I:Inv X pins σ H s) (hH:H l=some (.lst xs))
    (e:s.heap.get? l=some { cls:=.type "list",data:=.seq its.toArray n }) (hf:f its.toArray=its'.toArray) (hv:Vals ys its') (hz:ys.length<=sizeLine):
    Inv X pins σ (upd H l (.lst ys)) { s with heap:=s.heap.update l (Obj.mapSeq f),toks:=t' }:=by
  have q:=PySem.IsL.update e f
  rw [hf] at q
  refine I.write (x:=l) (e:=l) (by rw [hH]; exact trivial) (.inl rfl) (fun b' u hb hu=>(Heap.get?_update_other s.heap (Obj.mapSeq f) (Ne.symm hb)).trans hu) ⟨_,q⟩ ?_
  exact⟨hz,its',_,hv,q⟩
theorem Inv.lnew {its:List Value}{t':Nat} (I:Inv X pins σ H s) (hv:Vals ys its) (hz:ys.length<=sizeLine):
    Inv X pins σ (upd H s.heap.objs.size (.lst ys)) { s with heap:=s.heap.push { cls:=.type "list",data:=.seq its.toArray },toks:=t' }:=
  I.laid (fun _ _ q=>Heap.get?_push_of_some _ q) (Nat.le_refl _) ⟨hz,its,0,hv,Heap.get?_push_size _ rfl⟩
theorem Inv.lstM (I:Inv X pins σ H s) (hH:H l=some (.lst xs)):xs.length<=sizeLine/\∃ (its:List Value) (n:Nat),Vals xs its/\xs.length=its.length/\s.heap.get? l=some { cls:=.type "list",data:=.seq its.toArray n }:=by
  obtain⟨z,its,n,r,e⟩:=I.hok l _ hH
  exact⟨z,its,n,r,r.length,e⟩
theorem notLongL {n:Nat} (h:n<=sizeLine):Builtin.List.listTooLong n=false:=by
  unfold Builtin.List.listTooLong
  exact decide_eq_false (by lia)
end
section
variable {X:Cx}
noncomputable def rAppend:V->List V->Hp->VK->Prop:=fun x vs H Q=>∃ l xs y,x=.ref l/\vs=[y]/\H l=some (.lst xs)/\xs.length < sizeLine/\Q .non (upd H l (.lst (xs++[y])))
theorem mt_append:MtM X "list.append" rAppend:=by
  intro pins s σ H x vs v us Q I rx rv h
  obtain⟨l,xs,y,rfl,rfl,hH,hz,q⟩:=h
  cases rx
  obtain⟨u,rfl,ru⟩:=rv.one
  obtain⟨z,its,n,r,hl,e⟩:=I.lstM hH
  refine call_meets F.slot_list_append ⟨_,e,rfl⟩ F.entry_list_append (F.args_list_append_2 _ _) (PySem.list_append l its.toArray n u (by rw [List.size_toArray]; lia)) ⟨e,?_⟩
  refine⟨.non,_,I.lset (its':=its++[u]) hH e (by simp) (r.append (.cons ru .nil)) ?_,rfl,q⟩
  rw [List.length_append,List.length_singleton]
  lia
noncomputable def rExtend:V->List V->Hp->VK->Prop:=fun x vs H Q=>∃ l b xs zs,x=.ref l/\vs=[.ref b]/\H l=some (.lst xs)/\H b=some (.lst zs)/\xs.length+zs.length<=sizeLine/\Q .non (upd H l (.lst (xs++zs)))
theorem mt_extend:MtM X "list.extend" rExtend:=by
  intro pins s σ H x vs v us Q I rx rv h
  obtain⟨l,b,xs,zs,rfl,rfl,hH,hB,hz,q⟩:=h
  cases rx
  obtain⟨u,rfl,ru⟩:=rv.one
  cases ru
  obtain⟨z,its,n,r,hl,e⟩:=I.lstM hH
  obtain⟨z2,its2,n2,r2,hl2,e2⟩:=I.lstM hB
  have hsz:its.toArray.size+its2.toArray.size<=sizeLine:=by rw [List.size_toArray,List.size_toArray]; lia
  have hlong:¬ (!its.toArray.isEmpty&&Builtin.List.listTooLong (its.toArray.size+its2.toArray.size))=true:=by
    rw [notLongL hsz,Bool.and_false]
    exact Bool.false_ne_true
  refine call_meets F.slot_list_extend ⟨_,e,rfl⟩ F.entry_list_extend (F.args_list_extend_2 _ _)
    (AutoSeq1.list_extend_list_list_0 l its.toArray n b its2.toArray n2 hlong (by rw [List.size_toArray]; lia) (by lia)) ⟨e,e2,?_⟩
  refine⟨.non,_,I.lset (its':=its++its2) hH e (by simp) (r.append r2) ?_,rfl,q⟩
  rw [List.length_append]
  lia
noncomputable def rPop:V->List V->Hp->VK->Prop:=fun x vs H Q=>∃ l xs y,x=.ref l/\vs=[]/\H l=some (.lst xs)/\xs[xs.length - 1]?=some y/\Q y (upd H l (.lst xs.dropLast))
noncomputable def rPopAt:V->List V->Hp->VK->Prop:=fun x vs H Q=>∃ l xs i k y,x=.ref l/\vs=[.int i]/\H l=some (.lst xs)/\-(2 ^ 63)<=i/\i < 2 ^ 63/\seqIndex? i xs.length=some k/\xs[k]?=some y/\Q y (upd H l (.lst (xs.eraseIdx k)))
noncomputable def rReverse:V->List V->Hp->VK->Prop:=fun x vs H Q=>∃ l xs,x=.ref l/\vs=[]/\H l=some (.lst xs)/\Q .non (upd H l (.lst xs.reverse))
noncomputable def rClear:V->List V->Hp->VK->Prop:=fun x vs H Q=>∃ l xs,x=.ref l/\vs=[]/\H l=some (.lst xs)/\Q .non (upd H l (.lst []))
noncomputable def rCat:R2:=fun x y H Q=>∃ l b xs zs,x=.ref l/\y=.ref b/\H l=some (.lst xs)/\H b=some (.lst zs)/\xs.length+zs.length<=sizeLine/\∀ p,H p=none->Q (.ref p) (upd H p (.lst (xs++zs)))
noncomputable def rRep:R2:=fun x y H Q=>∃ l k xs,x=.ref l/\y=.int k/\H l=some (.lst xs)/\-(2 ^ 63)<=k/\k < 2 ^ 63/\xs.length*k.toNat<=sizeLine/\
  ∀ p,H p=none->Q (.ref p) (upd H p (.lst (List.replicate k.toNat xs).flatten))
end
section
variable {prog:Program}{w:World}{A:Around}{E:Value->Shared->Prop}{s:Shared}
set_option maxRecDepth 100000 in
end
section
variable {X:Cx}
end
end L2
namespace Att
open PySem PySem.W PySem.Calls PyProof.Rows
theorem ints_of_wellAll {P:Params}{h:Heap}:∀ (ns:List Int) (vs:List Value),WellAll P h vs (ns.map WData.int)->IntsAre vs ns:=by
  intro ns
  induction ns with
  | nil=>
    intro vs w
    rw [List.map_nil] at w
    cases w
    exact .nil
  | cons n ns ih=>
    intro vs w
    rw [List.map_cons] at w
    cases w with
    | cons a b=>
      cases a
      exact .cons _ _ (ih _ b)
theorem script_of {l:OpenLaw}{n:Nat} (hn:l.most=some n) {P:Params}{h:Heap}{args:List WData}{vals:List Value}
    (hpre:l.row.toRowW.claim.pre args=true) (hwl:WellAll P h vals args):
    ∃ a vs ns,vals=[Value.ref a]/\args=[WData.list (ns.map WData.int)]/\h.get? a=some { cls:=.type "list",data:=.seq vs.toArray }/\IntsAre vs ns/\ns.length<=n:=by
  have hsh:WShape.hasAll [] args [.list .int]=true:=(pre_splitW hpre).1
  have hc:l.pre.holds [] { args:=args }=true:=(pre_splitW hpre).2
  obtain⟨d,r,rfl,h1,h2⟩:=hasAllW_cons hsh
  obtain rfl:=hasAllW_nil h2
  obtain⟨xs,rfl,h3⟩:=hasW_list h1
  obtain⟨ns,rfl⟩:=items_int h3
  have hlen:ns.length<=n:=by
    unfold OpenLaw.pre at hc
    have h4:(WTm.not (.lt (.lit (.int (n:Int))) (.len (.arg 0)))).holds [] { args:=[.list (ns.map .int)] }=true:=by
      have h4:=(holds_andW hc).1
      rw [hn] at h4
      exact h4
    have h5:=condW_of h4 (w_not (w_lt w_lit (w_len_list (w_arg rfl))))
    rw [List.length_map] at h5
    refine Nat.le_of_not_lt fun q=>?_
    have q':(n:Int) < ((ns.length:Nat):Int):=by lia
    first
      | (rw [decide_eq_true q'] at h5; exact absurd h5 (by decide))
      | (simp at h5; lia)
  cases hwl with
  | cons w1 w2=>
    cases w2
    cases w1 with
    | list ho hall=>exact⟨_,_,ns,rfl,rfl,ho,ints_of_wellAll ns _ hall,hlen⟩
theorem post_true (l:OpenLaw) (args:List WData):l.row.toRowW.claim.post args (.bool true) args=true:=
  postW_of (r:=l.row.toRowW) (X:=(true==true))
    (show WShape.has [] (.bool true) .bool=true by first | rfl | decide | simp [WShape.has,WShape.arms,WShape.armsAll])
    (show (WTm.eq .res (.lit (.bool true))).value [] { args:=args,res:=some (.bool true),after:=args }=some (.bool (true==true)) from w_eq_bool (w_res rfl) w_lit) rfl
theorem attach_call {l:OpenLaw}{n:Nat}{q:Program}{loose:List Str}{XP:(Str->Option Value)->Heap->Prop}{YP:World->Heap->Prop}{d:DefRec}
    (hn:l.most=some n) (hdf:d.params.defaults=[])
    (call:∀ (w:World) (s₀ s₁:Shared) (mg mb:Str->Option Value) (fa:Addr) (o:Obj) (pm cd doc:Value) (a:Addr) (vs:List Value) (ns:List Int),
      Ground q loose [] XP w s₀ mg mb s₁.heap->YP w s₁.heap->
      s₁.heap.get? fa=some o->o.data=.func (docDef d.name d.params d.body d.scope pm cd doc)->s₁.heap.CodeRec cd d.name->mg d.name=some (.ref fa)->
      s₁.heap.get? a=some { cls:=.type "list",data:=.seq vs.toArray }->IntsAre vs ns->ns.length<=n->s₁.gens=#[]->
      codeAny (model l.prog w) callerA (.call (.ref fa) ⟨[.ref a],[]⟩) (fun r s'=>r=.ok (.ret (.bool true))/\OldK s₁.heap s'.heap/\s'.os=s₁.os/\AllBare s'.gens) s₁):
    WalkO q loose XP YP l.row.toRowW d [] (fun f vs=>PySem.call f vs):=by
  intro w s₀ s₁ mg mb G Y fa o pm cd doc dV kV ho hd hcd hD hmg hg args vals as hpre hlay hrd hwl hlo
  obtain rfl:dV=.none:=Dflts.none hD hdf
  obtain rfl:kV=.none:=Dflts.noKw hD
  obtain⟨a,vs,ns,rfl,rfl,hobj,hints,hlen⟩:=script_of hn hpre hwl
  refine enter_call (codeAny_mono (call w s₀ s₁ mg mb fa o pm cd doc a vs ns G Y ho (fd_plain hd) hcd hmg hobj hints hlen hg) fun r s' hq=>?_)
  obtain⟨rfl,h2,h3,h4⟩:=hq
  exact⟨.inl ⟨.bool true,.bool true,[],rfl,fun _=>rfl,.bool true,post_true l _,fun _=>⟨List.Pairwise.nil,fun _ hm=>(nomatch hm)⟩⟩,h2,h3,h4⟩
section
variable {prog:Program}{w:World}{A:Around}{E:Value->Shared->Prop}{s:Shared}{K:Frag}
noncomputable def noObjs (h:Heap):Heap:={ h with objs:=#[] }
noncomputable def ledger (h:Heap) (L d:Addr):List (Addr×Obj):=(List.range h.objs.size).filterMap fun a=>if a=L\/a=d then none else (h.get? a).map fun o=>(a,o)
end
end Att
namespace L2
open PySem PySem.Spec PyProof.Rows
theorem vals_ints:∀ {vs:List Value}{ns:List Int},IntsAre vs ns->Vals (ns.map V.int) vs
  | _,_,.nil=>.nil
  | _,_,.cons n t h=>.cons ⟨t,rfl⟩ (vals_ints h)
noncomputable def Only (H:Hp):Prop:=∀ b,H b=none\/∃ o xs,H b=some (.frz o (.lst xs))
theorem law_call {P:Program}{w:World}{K:PySem.W.Frag}{mg mb:Str->Option Value}{CX:CXT}{k:Nat}{fa a:Addr}{fd:FuncData}{x:Str}{sp:Sp}{s₁:Shared}{vs:List Value}{ns:List Int}
    (KX:K.In s₁.heap) (hns:s₁.heap.Ns mainGlobals mg) (hb:s₁.heap.Ns builtinsNs mb) (hbb:∀ x:Str,x≠"__name__"->mb x=bootBuiltins x) (hlim:s₁.heap.NoLimit) (hg:s₁.gens=#[])
    (ha:s₁.heap.get? a=some { cls:=.type "list",data:=.seq vs.toArray }) (hi:IntsAre vs ns) (hl:ns.length<=sizeLine) (hr:Room k callerA)
    (F:∀ base:Heap,K.In base->base.Ns mainGlobals mg->FnOk P w K mg base CX k fa fd [x] sp) (hbind:∀ (s:Shared) (u:Value),BindsTo s fd ⟨[u],[]⟩ [(x,u)])
    (hsp:∀ H:Hp,Only H->SqL K H a (ns.map V.int)->sp [.ref a] H (fun v _=>v=.bl true) fun _ _ _=>False)
    (hCX:∀ H e s',CX [] H s₁ (fun _ _ _=>False) e s'->False):
    codeAny (model P w) callerA (.call (.ref fa) ⟨[.ref a],[]⟩) (fun r s'=>r=.ok (.ret (.bool true))/\OldK s₁.heap s'.heap/\s'.os=s₁.os/\AllBare s'.gens) s₁:=by
  have rv:=vals_ints hi
  have lenV:=hi.length
  have core:∀ H:Hp,Only H->SqL K H a (ns.map V.int)->HOk P w H s₁.heap->(∀ b,H b≠none->b=a)->(H a≠none->K.lookup a=none)->
      codeAny (model P w) callerA (.call (.ref fa) ⟨[.ref a],[]⟩) (fun r s'=>r=.ok (.ret (.bool true))/\OldK s₁.heap s'.heap/\s'.os=s₁.os/\AllBare s'.gens) s₁:=by
    intro H hO hS hok hA hK
    have base_of:∀ {b:Addr}{o:Obj},s₁.heap.get? b=some o->H b=none->(hidT s₁.heap H).get? b=some o:=fun e n=>hidT_get e n
    have noA:∀ {b:Addr}{o:Obj}{es:Array DictEntry}{ep:Nat},s₁.heap.get? b=some o->o.data=.dict es ep->H b=none:=fun {b o es ep} e d=>by
      cases q:H b with
      | none=>rfl
      | some u=>
        have e':b=a:=hA b (by rw [q]; simp)
        subst e'
        rw [ha] at e; cases e
        have d':Data.seq vs.toArray _=Data.dict es ep:=d
        cases d'
    have nsK:∀ {b:Addr}{m:Str->Option Value},s₁.heap.Ns b m->(hidT s₁.heap H).Ns b m:=fun {b m} ⟨o,es,ep,e,d,r⟩=>⟨o,es,ep,base_of e (noA e d),d,r⟩
    have hKb:K.In (hidT s₁.heap H):=fun b o e=>base_of (KX b o e) (by
      cases q:H b with
      | none=>rfl
      | some u=>
        have e':b=a:=hA b (by rw [q]; simp)
        subst e'
        rw [hK (by rw [q]; simp)] at e; cases e)
    have hM:Mod K mg (hidT s₁.heap H):=⟨hKb,nsK hns,⟨mb,nsK hb,hbb⟩,let ⟨mc,h1,h2⟩:=hlim; ⟨mc,nsK h1,h2⟩⟩
    have e0:Env0 P w K mg (hidT s₁.heap H) callerA [] s₁ H:=⟨rfl,hM,fun b o e=>of_hidT e,Nat.le_of_eq (hidT_size _ _),trivial,fun b hb=>absurd (show b∈([]:List Addr) from hb) (by simp),hok,.of_eq hg⟩
    refine codeAny_mono ((F _ hKb (nsK hns)).run callerA [] s₁ H ⟨[.ref a],[]⟩ [.ref a] [.ref a] _ _ hr e0 (hbind s₁ (.ref a)) (.cons rfl .nil) (hsp H hO hS)) fun r s' h=>?_
    cases r with
    | error e=>exact (hCX H e s' h).elim
    | ok fl=>
      cases fl with
      | next=>exact False.elim h
      | brk=>exact False.elim h
      | cont=>exact False.elim h
      | ret u=>
        obtain⟨v,H',os,bare,un,hok',r',q⟩:=h
        have q':v=.bl true:=q
        subst q'
        obtain rfl:u=Value.bool true:=r'
        refine⟨rfl,OldK.of_keep fun b o e=>?_,os,bare⟩
        cases q:H b with
        | none=>exact un.keep b o e q (by intro z; exact absurd (show b∈([]:List Addr) from z) (by simp)) (by simp)
        | some u=>
          rcases hO b with z | ⟨ob,xs,z⟩
          · rw [q] at z; cases z
          · have z2:=un.frzs b ob _ z
            obtain⟨e1,_⟩:=hok b _ z
            obtain⟨e2,_⟩:=hok' b _ z2
            rw [e] at e1; cases e1
            exact e2
  cases hk:K.lookup a with
  | some o=>
    have e:=KX a o hk
    rw [ha] at e
    cases e
    refine core (fun _=>none) (fun _=>.inl rfl) (.inr ⟨_,vs.toArray,_,hk,rfl,rfl,rfl,by rw [List.size_toArray,lenV]; exact hl,by simpa using rv⟩) (fun b u z=>by have z':(none:Option HO)=some u:=z; cases z') (fun b z=>absurd rfl z) fun z=>absurd rfl z
  | none=>
    refine core (fun b=>if b=a then some (.frz { cls:=.type "list",data:=.seq vs.toArray } (.lst (ns.map V.int))) else none) (fun b=>?_) (.inl (.inr ⟨{ cls:=.type "list",data:=.seq vs.toArray },if_pos rfl⟩)) (fun b u z=>?_) (fun b z=>?_) fun _=>hk
    · by_cases hb:b=a
      · exact .inr ⟨_,_,if_pos hb⟩
      · exact .inl (if_neg hb)
    · by_cases hb:b=a
      · have z':=(if_pos hb).symm.trans z
        cases z'
        subst hb
        exact⟨ha,by rw [List.length_map]; exact hl,vs,_,rv,ha⟩
      · have z':=(if_neg hb).symm.trans z
        cases z'
    · by_cases hb:b=a
      · exact hb
      · exact absurd (if_neg hb) z
end L2
namespace L2
open PySem PySem.Spec PyProof.Rows
noncomputable abbrev KOf {K:PySem.W.Frag}{h:Heap} (_:K.In h):PySem.W.Frag:=K
theorem walk_of {l:PySem.W.OpenLaw}{n k:Nat}{q:Program}{loose:List Str}{XP:(Str->Option Value)->Heap->Prop}{YP:World->Heap->Prop}{d:DefRec}{K:Params->PySem.W.Frag}{CX:World->CXT}{sp:World->Sp}{x:Str}
    (hn:l.most=some n) (hn2:n<=sizeLine) (hdf:d.params.defaults=[]) (hr:Room k callerA)
    (hY:∀ (w:World) (h:Heap),YP w h->(K w.params).In h)
    (F:∀ (w:World) (mg:Str->Option Value) (fa:Addr) (h:Heap),(K w.params).In h->h.Ns mainGlobals mg->mg d.name=some (.ref fa)->
      ∃ fd:FuncData,(∀ (s:Shared) (u:Value),BindsTo s fd ⟨[u],[]⟩ [(x,u)])/\
        ∀ base:Heap,(K w.params).In base->base.Ns mainGlobals mg->FnOk l.prog w (K w.params) mg base (CX w) k fa fd [x] (sp w))
    (hsp:∀ (w:World) (H:Hp) (a:Addr) (ns:List Int),ns.length<=n->Only H->SqL (K w.params) H a (ns.map V.int)->sp w [.ref a] H (fun v _=>v=.bl true) fun _ _ _=>False)
    (hCX:∀ (w:World) (H:Hp) (s:Shared) (e:Value) (s':Shared),CX w [] H s (fun _ _ _=>False) e s'->False):
    PySem.W.WalkO q loose XP YP l.row.toRowW d [] (fun f vs=>PySem.call f vs):=by
  refine Att.attach_call hn hdf fun w s₀ s₁ mg mb fa o pm cd doc a vs ns G Y ho hd hcd hmg hobj hints hlen hg=>?_
  have KX:=hY w _ Y
  obtain⟨fd,hb,hF⟩:=F w mg fa _ KX G.T.g hmg
  exact law_call KX G.T.g G.T.b G.T.builtins G.T.nolimit hg hobj hints (Nat.le_trans hlen hn2) hr hF hb (fun H hO hS=>hsp w H a ns hlen hO hS) fun H e s'=>hCX w H s₁ e s'
end L2
namespace L2
open PySem PySem.Spec PyProof.Rows
noncomputable def inClass (s:Stmt) (j:Nat):Stmt:=match s with
  | .ClassDef _ _ _ body _ _ _ _ _ _ _=>body.getD j (.Pass ⟨0,0,0,0⟩)
  | _=>.Pass ⟨0,0,0,0⟩
noncomputable def defArgs (s:Stmt):Arguments:=match s with
  | .FunctionDef _ a _ _ _ _ _ _ _ _=>a
  | _=>{ posonlyargs:=[],args:=[],vararg:=none,kwonlyargs:=[],kw_defaults:=[],kwarg:=none,defaults:=[] }
noncomputable def defBody (s:Stmt):List Stmt:=match s with
  | .FunctionDef _ _ b _ _ _ _ _ _ _=>b
  | _=>[]
noncomputable def defScope (s:Stmt):Scope:=match s with
  | .FunctionDef _ _ _ _ _ _ sc _ _ _=>sc
  | _=>{ kind:=.function,names:=[],isGenerator:=false,isCoroutine:=false }
noncomputable abbrev CX0:CXT:=fun _ _ _ _ _ _=>False
noncomputable abbrev E0:XK:=fun _ _ _=>False
theorem pass0 {X:Cx}:Passes CX0 X E0:=fun _ _ _ _ _ _ _ h=>h.elim
structure Fun (K:PySem.W.Frag) (x qual:Str) (st:Stmt) (f:Addr) (fd:FuncData):Prop where
  ex:∃ (oc:Value) (od:Option Addr) (kV doc pm:Value) (an:Option Addr) (cdv ct:Value) (osl:Array (Option Value)),
    fd=PySem.W.fnOf x qual (defArgs st) (defBody st) (defScope st) .none kV doc pm an cdv ct/\K.lookup f=some ⟨oc,od,.func fd,osl⟩/\PySem.W.codeIn K cdv qual=true
  kp:PySem.W.keepIn K (.ref f)=true
section
variable {P:Program}{w:World}{K:PySem.W.Frag}{mg:Str->Option Value}{base:Heap}
theorem Fun.ok {x qual:Str}{st:Stmt}{f:Addr}{fd:FuncData}{N ps:List Str}{k:Nat}{sp:Sp} (F:Fun K x qual st f fd) (S:FnScope N ps (defScope st)) (len:∀ vs H Q E,sp vs H Q E->vs.length=ps.length)
    (hbody:∀ (cdv:Value) (A:Around) (outer:List Env) (s:Shared) (H:Hp) (vs:List V) (Q:VK) (E:XK),Room k (A.deeper (envOfC qual (defScope st) s.heap.objs.size f cdv))->sp vs H Q E->
      ∃ t,PSs (cxOf CX0 P w K mg base N qual (defScope st) f cdv A outer s H E).nox (defBody st) t/\t { nx:=fun _ H'=>Q .non H',rt:=Q } (start N vs) H):FnOk P w K mg base CX0 (k+1) f fd ps sp:=by
  obtain⟨oc,od,kV,doc,pm,an,cdv,ct,osl,rfl,lk,hcd⟩:=F.ex
  refine fn_of lk hcd S len fun A outer s H vs Q E hr hsp=>?_
  obtain⟨t,h,q⟩:=hbody cdv A outer s H vs Q E hr hsp
  exact⟨t,h.nox,q⟩
theorem Fun.binds {x qual:Str}{st:Stmt}{f:Addr}{fd:FuncData}{ps:List Str} (F:Fun K x qual st f fd)
    (h:∀ (kV doc pm:Value) (an:Option Addr) (cdv ct:Value) (us:List Value),us.length=ps.length->bindArgs (PySem.W.fnOf x qual (defArgs st) (defBody st) (defScope st) .none kV doc pm an cdv ct) ⟨us,[]⟩=pure (ps.zip us)):Binds K fd ps []:=by
  obtain⟨oc,od,kV,doc,pm,an,cdv,ct,osl,rfl,lk,hcd⟩:=F.ex
  exact .all (h kV doc pm an cdv ct)
theorem fun_mk {x qual:Str}{st:Stmt}{f:Addr}{oc:Value}{od an:Option Addr}{osl:Array (Option Value)}{kV doc pm cdv ct:Value} (l:K.lookup f=some ⟨oc,od,.func (PySem.W.fnOf x qual (defArgs st) (defBody st) (defScope st) .none kV doc pm an cdv ct),osl⟩)
    (c:PySem.W.codeIn K cdv qual=true) (k:PySem.W.keepIn K (.ref f)=true):Fun K x qual st f (PySem.W.fnOf x qual (defArgs st) (defBody st) (defScope st) .none kV doc pm an cdv ct):=⟨⟨oc,od,kV,doc,pm,an,cdv,ct,osl,rfl,l,c⟩,k⟩
end
section
variable {X:Cx}
theorem pv (i:Nat) {x:Str}{pos:Pos} (hN:X.N[i]?=some x:=by rfl) (hv:Vis X.env.scope x:=by first | exact Or.inl rfl | exact Or.inr (Or.inl rfl) | exact Or.inr (Or.inr rfl)) (hd:(x==("__debug__":Str))=false:=by decide)
    (hcd:(x==("__classdict__":Str))=false:=by decide):PE X (.Name x pos) (tVar i):=pe_var hN hv hd hcd
end
theorem iteF {A B:Prop} (h:B):if false=true then A else B:=by
  rw [if_neg Bool.false_ne_true]
  exact h
theorem iteT {A B:Prop} (h:A):if true=true then A else B:=by
  rw [if_pos rfl]
  exact h
noncomputable def Same (H H':Hp):Prop:=∀ b o,H b=some o->H' b=some o
end L2
set_option Elab.async false
set_option linter.all false
set_option maxRecDepth 100000
set_option maxHeartbeats 8000000
namespace DL
open PySem PySem.Spec PyProof.Rows L2
noncomputable abbrev St:=L2.St
inductive D where
 | non | bl (b:Bool) | int (i:Int) | str (x:Str) | tup (ds:List D) | lst (n:Nat) | ro (ns:List Int)
inductive O where
 | lst (ds:List D) | dct (kvs:List (Key×D))
noncomputable abbrev Hh:=List O
noncomputable abbrev En:=List (Option D)
inductive Res (α:Type) where
 | ok (a:α) (h:Hh) | ex (c:Value) (h:Hh) | bad
inductive Out where
 | nx (e:En) (h:Hh) | rt (d:D) (h:Hh) | bk (e:En) (h:Hh) | ct (e:En) (h:Hh) | ex (c:Value) (e:En) (h:Hh) | bad
noncomputable abbrev FE:=En->Hh->Res D
noncomputable abbrev FT:=En->Hh->Res Bool
noncomputable abbrev FA:=En->Hh->Res (List D)
noncomputable abbrev FS:=En->Hh->Out
noncomputable def Res.bind {α β:Type} (r:Res α) (k:α->Hh->Res β):Res β:=match r with
 | .ok a h=>k a h
 | .ex c h=>.ex c h
 | .bad=>.bad
@[simp] theorem Res.bind_ok {α β:Type} (a:α) (h:Hh) (k:α->Hh->Res β):(Res.ok a h).bind k=k a h:=rfl
@[simp] theorem Res.bind_ex {α β:Type} (c:Value) (h:Hh) (k:α->Hh->Res β):(Res.ex c h:Res α).bind k=.ex c h:=rfl
@[simp] theorem Res.bind_bad {α β:Type} (k:α->Hh->Res β):(Res.bad:Res α).bind k=.bad:=rfl
noncomputable def Res.out {α:Type} (r:Res α) (e:En) (k:α->Hh->Out):Out:=match r with
 | .ok a h=>k a h
 | .ex c h=>.ex c e h
 | .bad=>.bad
@[simp] theorem Res.out_ok {α:Type} (a:α) (h:Hh) (e:En) (k:α->Hh->Out):(Res.ok a h).out e k=k a h:=rfl
@[simp] theorem Res.out_ex {α:Type} (c:Value) (h:Hh) (e:En) (k:α->Hh->Out):(Res.ex c h:Res α).out e k=.ex c e h:=rfl
@[simp] theorem Res.out_bad {α:Type} (e:En) (k:α->Hh->Out):(Res.bad:Res α).out e k=.bad:=rfl
section
variable {α β:Type}{F G:α->β->Prop}
theorem Pd.app {xs:List α}{us:List β}{ys:List α}{ws:List β} (h:Paired F xs us) (s:Paired F ys ws):Paired F (xs++ys) (us++ws):=by
 induction h with
 | nil=>exact s
 | cons r t ih=>exact .cons r ih
theorem Pd.take:∀ {xs:List α}{us:List β} (n:Nat),Paired F xs us->Paired F (xs.take n) (us.take n)
 | _,_,0,_=>.nil
 | _,_,_+1,.nil=>.nil
 | _,_,n+1,.cons r t=>.cons r (Pd.take n t)
theorem Pd.drop:∀ {xs:List α}{us:List β} (n:Nat),Paired F xs us->Paired F (xs.drop n) (us.drop n)
 | _,_,0,r=>r
 | _,_,_+1,.nil=>.nil
 | _,_,n+1,.cons _ t=>Pd.drop n t
theorem Pd.get:∀ {xs:List α}{us:List β}{i:Nat}{x:α},Paired F xs us->xs[i]?=some x->∃ u,us[i]?=some u/\F x u
 | _,_,_,_,.nil,e=>by simp at e
 | _,_,0,_,.cons r _,e=>by
  simp only [List.getElem?_cons_zero,Option.some.injEq] at e
  subst e
  exact⟨_,by simp,r⟩
 | _,_,i+1,_,.cons _ t,e=>by
  simp only [List.getElem?_cons_succ] at e
  obtain⟨u,e2,r⟩:=Pd.get t e
  exact⟨u,by simpa using e2,r⟩
theorem Pd.getR:∀ {xs:List α}{us:List β}{i:Nat}{u:β},Paired F xs us->us[i]?=some u->∃ x,xs[i]?=some x/\F x u
 | _,_,_,_,.nil,e=>by simp at e
 | _,_,0,_,.cons r _,e=>by
  simp only [List.getElem?_cons_zero,Option.some.injEq] at e
  subst e
  exact⟨_,by simp,r⟩
 | _,_,i+1,_,.cons _ t,e=>by
  simp only [List.getElem?_cons_succ] at e
  obtain⟨u,e2,r⟩:=Pd.getR t e
  exact⟨u,by simpa using e2,r⟩
theorem Pd.set {x:α}{u:β} (r:F x u):∀ {xs:List α}{us:List β} (i:Nat),Paired F xs us->Paired F (xs.set i x) (us.set i u)
 | _,_,_,.nil=>.nil
 | _,_,0,.cons _ t=>.cons r t
 | _,_,i+1,.cons q t=>.cons q (Pd.set r i t)
theorem Pd.imp (f:∀ a b,F a b->G a b) {xs:List α}{us:List β} (h:Paired F xs us):Paired G xs us:=by
 induction h with
 | nil=>exact .nil
 | cons r t ih=>exact .cons (f _ _ r) ih
theorem Pd.len {xs:List α}{us:List β} (r:Paired F xs us):xs.length=us.length:=r.length
theorem Pd.of_get:∀ {xs:List α}{us:List β},xs.length=us.length->(∀ (i:Nat) x u,xs[i]?=some x->us[i]?=some u->F x u)->Paired F xs us
 | [],[],_,_=>.nil
 | [],_::_,h,_=>by simp at h
 | _::_,[],h,_=>by simp at h
 | _::_,_::_,h,f=>.cons (f 0 _ _ (by simp) (by simp)) (Pd.of_get (by simpa using h) fun i x u e1 e2=>f (i+1) x u (by simpa using e1) (by simpa using e2))
theorem Pd.dropLast:∀ {xs:List α}{us:List β},Paired F xs us->Paired F xs.dropLast us.dropLast
 | _,_,.nil=>.nil
 | _,_,.cons _ .nil=>.nil
 | _,_,.cons r (.cons q t)=>.cons r (Pd.dropLast (.cons q t))
theorem Pd.isEmpty:∀ {xs:List α}{us:List β},Paired F xs us->xs.isEmpty=us.isEmpty
 | _,_,.nil=>rfl
 | _,_,.cons _ _=>rfl
end
noncomputable def SqRo (K:PySem.W.Frag) (H:Hp) (a:Addr) (xs:List V):Prop:=
 (∃ o,H a=some (.frz o (.lst xs)))\/
  ∃ (o:Obj) (its:Array Value) (n:Nat),K.lookup a=some o/\o.cls=.type "list"/\o.dict=none/\o.data=.seq its n/\its.size<=sizeLine/\Vals xs its.toList
theorem SqRo.sq {K:PySem.W.Frag}{H:Hp}{a:Addr}{xs:List V} (h:SqRo K H a xs):SqL K H a xs:=by
 rcases h with⟨o,h⟩ | h
 ·exact .inl (.inr ⟨o,h⟩)
 ·exact .inr h
inductive RelD (K:PySem.W.Frag) (as:List Addr) (H:Hp):D->V->Prop where
 | non:RelD K as H .non .non
 | bl (b:Bool):RelD K as H (.bl b) (.bl b)
 | int (i:Int):RelD K as H (.int i) (.int i)
 | str (x:Str):RelD K as H (.str x) (.str x)
 | tup' {ds:List D}{vs:List V}{a:Addr}:H a=some (.tup vs)->ds.length=vs.length->(∀ (i:Nat) d v,ds[i]?=some d->vs[i]?=some v->RelD K as H d v)->RelD K as H (.tup ds) (.ref a)
 | lst {n:Nat}{a:Addr}:as[n]?=some a->RelD K as H (.lst n) (.ref a)
 | ro {ns:List Int}{a:Addr}:SqRo K H a (ns.map V.int)->RelD K as H (.ro ns) (.ref a)
noncomputable abbrev RelDs (K:PySem.W.Frag) (as:List Addr) (H:Hp):List D->List V->Prop:=Paired (RelD K as H)
theorem RelD.tup {K:PySem.W.Frag}{as:List Addr}{H:Hp}{ds:List D}{vs:List V}{a:Addr} (h:H a=some (.tup vs)) (r:RelDs K as H ds vs):RelD K as H (.tup ds) (.ref a):=
 .tup' h r.length fun i d v e1 e2=>by
  obtain⟨u,e3,q⟩:=Pd.get r e1
  rw [e2] at e3
  cases e3
  exact q
theorem RelD.tup_inv {K:PySem.W.Frag}{as:List Addr}{H:Hp}{ds:List D}{v:V} (h:RelD K as H (.tup ds) v):∃ a vs,v=.ref a/\H a=some (.tup vs)/\RelDs K as H ds vs:=by
 cases h with
 | tup' h1 h2 h3=>exact⟨_,_,rfl,h1,Pd.of_get h2 h3⟩
structure Ext (as:List Addr) (H:Hp) (as':List Addr) (H':Hp):Prop where
 pre:∃ m,as'=as++m
 tups:∀ b xs,H b=some (.tup xs)->H' b=some (.tup xs)
 frzs:∀ b o u,H b=some (.frz o u)->H' b=some (.frz o u)
theorem Ext.refl (as:List Addr) (H:Hp):Ext as H as H:=⟨⟨[],by simp⟩,fun _ _ h=>h,fun _ _ _ h=>h⟩
theorem Ext.trans {as as1 as2:List Addr}{H H1 H2:Hp} (a:Ext as H as1 H1) (b:Ext as1 H1 as2 H2):Ext as H as2 H2:=by
 obtain⟨m1,e1⟩:=a.pre
 obtain⟨m2,e2⟩:=b.pre
 exact⟨⟨m1++m2,by rw [e2,e1,List.append_assoc]⟩,fun c xs h=>b.tups c xs (a.tups c xs h),fun c o u h=>b.frzs c o u (a.frzs c o u h)⟩
theorem Ext.at {as as1:List Addr}{H H1:Hp} (a:Ext as H as1 H1) {n:Nat}{p:Addr} (h:as[n]?=some p):as1[n]?=some p:=by
 obtain⟨m,rfl⟩:=a.pre
 rw [List.getElem?_append_left (List.getElem?_eq_some_iff.mp h).1]
 exact h
theorem RelD.mono {K:PySem.W.Frag}{as as1:List Addr}{H H1:Hp} (x:Ext as H as1 H1) {d:D}{v:V} (h:RelD K as H d v):RelD K as1 H1 d v:=by
 induction h with
 | non=>exact .non
 | bl b=>exact .bl b
 | int i=>exact .int i
 | str y=>exact .str y
 | tup' h1 h2 h3 ih=>exact .tup' (x.tups _ _ h1) h2 ih
 | lst h=>exact .lst (x.at h)
 | ro h=>
  refine .ro ?_
  rcases h with⟨o,h⟩ | h
  ·exact .inl ⟨o,x.frzs _ _ _ h⟩
  ·exact .inr h
theorem RelDs.mono {K:PySem.W.Frag}{as as1:List Addr}{H H1:Hp} (x:Ext as H as1 H1) {ds:List D}{vs:List V} (h:RelDs K as H ds vs):RelDs K as1 H1 ds vs:=Pd.imp (fun _ _ r=>RelD.mono x r) h
noncomputable def RelO (K:PySem.W.Frag) (as:List Addr) (H:Hp) (a:Addr):O->Prop
 | .lst ds=>∃ vs,H a=some (.lst vs)/\RelDs K as H ds vs
 | .dct kvs=>∃ ws,H a=some (.dK ws)/\Paired (fun (p:Key×D) (q:Key×V)=>p.1=q.1/\RelD K as H p.2 q.2) kvs ws
structure RelH (K:PySem.W.Frag) (as:List Addr) (H:Hp) (h:Hh):Prop where
 len:as.length=h.length
 nd:as.Nodup
 obj:∀ (n:Nat) a o,as[n]?=some a->h[n]?=some o->RelO K as H a o
theorem RelO.there {K:PySem.W.Frag}{as:List Addr}{H:Hp}{a:Addr}{o:O} (h:RelO K as H a o):∃ u,H a=some u:=by
 cases o with
 | lst ds=>obtain⟨vs,h,_⟩:=h; exact⟨_,h⟩
 | dct kvs=>obtain⟨vs,h,_⟩:=h; exact⟨_,h⟩
theorem RelO.mono {K:PySem.W.Frag}{as as1:List Addr}{H H1:Hp}{a:Addr}{o:O} (x:Ext as H as1 H1) (e:H1 a=H a) (h:RelO K as H a o):RelO K as1 H1 a o:=by
 cases o with
 | lst ds=>obtain⟨vs,h,r⟩:=h; exact⟨vs,by rw [e]; exact h,r.mono x⟩
 | dct kvs=>obtain⟨ws,h,r⟩:=h; exact⟨ws,by rw [e]; exact h,Pd.imp (fun _ _ q=>⟨q.1,q.2.mono x⟩) r⟩
theorem RelH.get {K:PySem.W.Frag}{as:List Addr}{H:Hp}{h:Hh} (r:RelH K as H h) {n:Nat}{o:O} (e:h[n]?=some o):∃ a,as[n]?=some a/\RelO K as H a o:=by
 have hn:n < as.length:=by rw [r.len]; exact (List.getElem?_eq_some_iff.mp e).1
 exact⟨as[n],List.getElem?_eq_getElem hn,r.obj n _ o (List.getElem?_eq_getElem hn) e⟩
theorem RelH.there {K:PySem.W.Frag}{as:List Addr}{H:Hp}{h:Hh} (r:RelH K as H h) {a:Addr} (m:a∈as):∃ u,H a=some u:=by
 obtain⟨n,hn,e⟩:=List.mem_iff_getElem.mp m
 have hn':n < h.length:=by rw [<-r.len]; exact hn
 exact (r.obj n a h[n] (by rw [List.getElem?_eq_getElem hn,e]) (List.getElem?_eq_getElem hn')).there
theorem RelH.not_mem {K:PySem.W.Frag}{as:List Addr}{H:Hp}{h:Hh} (r:RelH K as H h) {p:Addr} (e:H p=none):p∉as:=fun m=>by
 obtain⟨u,q⟩:=r.there m
 rw [e] at q
 cases q
section
variable {K:PySem.W.Frag}{as:List Addr}{H:Hp}{h:Hh}{p a:Addr}
theorem ext_upd {o:HO} (hp:H p=none):Ext as H as (upd H p o):=
 ⟨⟨[],by simp⟩,fun b xs e=>by rw [upd_ne (ne_of_none e hp)]; exact e,fun b o u e=>by rw [upd_ne (ne_of_none e hp)]; exact e⟩
theorem ext_new {o:HO} (hp:H p=none):Ext as H (as++[p]) (upd H p o):=
 ⟨⟨[p],rfl⟩,(ext_upd (as:=as) hp).tups,(ext_upd (as:=as) hp).frzs⟩
theorem ext_set {o u:HO} (ha:H a=some o) (h1:∀ xs,o≠.tup xs) (h2:∀ b x,o≠.frz b x):Ext as H as (upd H a u):=
 ⟨⟨[],by simp⟩,fun b xs e=>by rw [upd_ne (ne_of e ha fun z=>h1 xs z.symm)]; exact e,fun b o' w e=>by rw [upd_ne (ne_of e ha fun z=>h2 o' w z.symm)]; exact e⟩
theorem RelH.tup {vs:List V} (r:RelH K as H h) (hp:H p=none):RelH K as (upd H p (.tup vs)) h:=
 ⟨r.len,r.nd,fun n a o e1 e2=>by
  have q:=r.obj n a o e1 e2
  obtain⟨u,hu⟩:=q.there
  exact q.mono (ext_upd hp) (upd_ne (ne_of_none hu hp))⟩
theorem RelH.new {o:O}{u:HO} (r:RelH K as H h) (hp:H p=none) (ro:RelO K (as++[p]) (upd H p u) p o):RelH K (as++[p]) (upd H p u) (h++[o]):=by
 refine⟨by simp [r.len],?_,fun n a o' e1 e2=>?_⟩
 ·rw [List.nodup_append]
  exact⟨r.nd,by simp,fun x hx y hy=>by
   have:y=p:=by simpa using hy
   subst this
   intro z
   subst z
   exact r.not_mem hp hx⟩
 ·by_cases hn:n < as.length
  ·rw [List.getElem?_append_left hn] at e1
   rw [List.getElem?_append_left (by rw [<-r.len]; exact hn)] at e2
   have q:=r.obj n a o' e1 e2
   obtain⟨w,hw⟩:=q.there
   exact q.mono (ext_new hp) (upd_ne (ne_of_none hw hp))
  ·have hlt:=(List.getElem?_eq_some_iff.mp e1).1
   have hn':n=as.length:=by
    rw [List.length_append,List.length_singleton] at hlt
    lia
   subst hn'
   rw [List.getElem?_concat_length] at e1
   rw [r.len,List.getElem?_concat_length] at e2
   cases e1
   cases e2
   exact ro
theorem RelH.newL {ds:List D}{vs:List V} (r:RelH K as H h) (hp:H p=none) (rd:RelDs K as H ds vs):RelH K (as++[p]) (upd H p (.lst vs)) (h++[.lst ds]):=
 r.new hp ⟨vs,upd_same,rd.mono (ext_new hp)⟩
theorem RelH.put {n:Nat}{o o':O}{u:HO} (r:RelH K as H h) (hn:as[n]?=some a) (ho:h[n]?=some o) (x:Ext as H as (upd H a u)) (ro:RelO K as (upd H a u) a o'):RelH K as (upd H a u) (h.set n o'):=by
 refine⟨by simp [r.len],r.nd,fun m b o2 e1 e2=>?_⟩
 by_cases hm:m=n
 ·subst hm
  rw [hn] at e1
  cases e1
  rw [List.getElem?_set_self (List.getElem?_eq_some_iff.mp ho).1] at e2
  cases e2
  exact ro
 ·rw [List.getElem?_set_ne (Ne.symm hm)] at e2
  have q:=r.obj m b o2 e1 e2
  refine q.mono x (upd_ne ?_)
  intro z
  subst z
  exact hm (nodup_ix' r.nd e1 hn)
where
 nodup_ix' {l:List Addr} (hN:l.Nodup) {i j:Nat}{x:Addr} (a:l[i]?=some x) (b:l[j]?=some x):i=j:=by
  obtain⟨h1,e1⟩:=List.getElem?_eq_some_iff.mp a
  obtain⟨h2,e2⟩:=List.getElem?_eq_some_iff.mp b
  exact (List.getElem_inj hN).mp (e1.trans e2.symm)
theorem ext_lst {n:Nat}{ds:List D}{vs:List V} (r:RelH K as H h) (hn:as[n]?=some a) (ho:h[n]?=some (.lst ds)):Ext as H as (upd H a (.lst vs)):=by
 obtain⟨ws,e,_⟩:=r.obj n a _ hn ho
 exact ext_set e (fun xs z=>by cases z) (fun b x z=>by cases z)
theorem RelH.setL {n:Nat}{ds ds':List D}{vs:List V} (r:RelH K as H h) (hn:as[n]?=some a) (ho:h[n]?=some (.lst ds)) (rd:RelDs K as H ds' vs):RelH K as (upd H a (.lst vs)) (h.set n (.lst ds')):=
 r.put hn ho (ext_lst r hn ho) ⟨vs,upd_same,rd.mono (ext_lst r hn ho)⟩
end
structure RelE (K:PySem.W.Frag) (as:List Addr) (H:Hp) (env:En) (σ:St):Prop where
 len:env.length=σ.length
 at_:∀ (i:Nat) d,env[i]?=some (some d)->∃ v,σ[i]?=some (some v)/\RelD K as H d v
theorem RelE.mono {K:PySem.W.Frag}{as as1:List Addr}{H H1:Hp}{env:En}{σ:St} (x:Ext as H as1 H1) (r:RelE K as H env σ):RelE K as1 H1 env σ:=
 ⟨r.len,fun i d e=>let ⟨v,e1,q⟩:=r.at_ i d e; ⟨v,e1,q.mono x⟩⟩
theorem RelE.set {K:PySem.W.Frag}{as:List Addr}{H:Hp}{env:En}{σ:St} (r:RelE K as H env σ) (i:Nat) {d:D}{v:V} (q:RelD K as H d v):RelE K as H (env.set i (some d)) (σ.set i (some v)):=by
 refine⟨by simp [r.len],fun j d' e=>?_⟩
 by_cases hj:j=i
 ·subst hj
  have hlt:j < env.length:=by
   have:=(List.getElem?_eq_some_iff.mp e).1
   simpa using this
  rw [List.getElem?_set_self hlt] at e
  cases e
  exact⟨v,by rw [List.getElem?_set_self (by rw [<-r.len]; exact hlt)],q⟩
 ·rw [List.getElem?_set_ne (Ne.symm hj)] at e
  rw [List.getElem?_set_ne (Ne.symm hj)]
  exact r.at_ j d' e
noncomputable def Loose (X:Cx) (pins:List (Addr×Obj)) (H:Hp) (p:Addr):Prop:=X.s₀.heap.get? p=none/\H p=none/\∀ q∈X.pn++pins,q.1≠p
noncomputable def Fresh (h:Heap) (p:Addr) (c:Value) (L:Addr->Prop):Prop:=∃ oe vs a0,h.get? p=some oe/\oe.cls=c/\oe.data=.fields vs/\vs[0]?=some a0/\L p/\vs[1]?=some .none
noncomputable def Fly (h:Heap) (p:Addr) (c:Value) (L:Addr->Prop):Prop:=∃ oe vs a0 T oT ts,h.get? p=some oe/\oe.cls=c/\oe.data=.fields vs/\vs[0]?=some a0/\L p/\vs[1]?=some (.ref T)/\T≠p/\h.get? T=some oT/\oT.data=.fields ts/\ts[3]?=some .none/\L T
noncomputable def Flies (X:Cx) (pins:List (Addr×Obj)) (H:Hp) (e c:Value) (s:Shared):Prop:=∃ p,e=.ref p/\(Fresh s.heap p c (Loose X pins H)\/Fly s.heap p c (Loose X pins H))
noncomputable def XW (X:Cx) (c:Value) (P:St->Hp->Prop):Prop:=∀ pins σ H e s,Inv X pins σ H s->Flies X pins H e c s->P σ H->X.xe e s
theorem XW.imp {X:Cx}{c:Value}{P P':St->Hp->Prop} (h:XW X c P) (f:∀ σ H,P' σ H->P σ H):XW X c P':=fun pins σ H e s I fl p=>h pins σ H e s I fl (f σ H p)
noncomputable def PX {α:Type} (X:Cx) (as:List Addr) (H:Hp) (env:En) (r:Res α) (R:List Addr->Hp->Hh->α->Prop):Prop:=match r with
 | .ok a h'=>∀ as' H',Ext as H as' H'->RelH X.K as' H' h'->R as' H' h' a
 | .ex c h'=>XW X c fun σ' H'=>∃ as',Ext as H as' H'/\RelH X.K as' H' h'/\RelE X.K as' H' env σ'
 | .bad=>False
section
variable {α β:Type}{X:Cx}{as as1:List Addr}{H H1:Hp}{env:En}{r:Res α}{R R':List Addr->Hp->Hh->α->Prop}
theorem PX.later (x:Ext as H as1 H1) (h:PX X as H env r R):PX X as1 H1 env r R:=by
 cases r with
 | ok a h'=>exact fun as' H' y rh=>h as' H' (x.trans y) rh
 | ex c h'=>exact XW.imp h fun σ' H' q9=>by obtain⟨as',y,z⟩:=q9; exact⟨as',x.trans y,z⟩
 | bad=>exact h
theorem PX.imp (h:PX X as H env r R) (f:∀ as' H' h' a,Ext as H as' H'->RelH X.K as' H' h'->R as' H' h' a->R' as' H' h' a):PX X as H env r R':=by
 cases r with
 | ok a h'=>exact fun as' H' y rh=>f as' H' h' a y rh (h as' H' y rh)
 | ex c h'=>exact h
 | bad=>exact h
theorem PX.bind {k:α->Hh->Res β}{R:List Addr->Hp->Hh->β->Prop} (h:PX X as H env (r.bind k) R):PX X as H env r fun as1 H1 h1 a=>PX X as1 H1 env (k a h1) R:=by
 cases r with
 | ok a h'=>exact fun as' H' y rh=>PX.later y h
 | ex c h'=>exact h
 | bad=>exact h
end
noncomputable def tE (X:Cx) (f:FE):TE:=fun σ H Q=>∃ as env h,RelE X.K as H env σ/\RelH X.K as H h/\PX X as H env (f env h) fun as' H' _ d=>∀ v,RelD X.K as' H' d v->Q v H'
noncomputable def tT (X:Cx) (f:FT):TT:=fun σ H Q=>∃ as env h,RelE X.K as H env σ/\RelH X.K as H h/\PX X as H env (f env h) fun _ H' _ b=>Q b H'
noncomputable def tA (X:Cx) (f:FA):TA:=fun σ H Q=>∃ as env h,RelE X.K as H env σ/\RelH X.K as H h/\PX X as H env (f env h) fun as' H' _ ds=>∀ vs,RelDs X.K as' H' ds vs->Q vs H'
noncomputable def POut (X:Cx) (as:List Addr) (H:Hp) (Dn:Ends) (o:Out):Prop:=match o with
 | .nx e h'=>∀ as' H' σ',Ext as H as' H'->RelH X.K as' H' h'->RelE X.K as' H' e σ'->Dn.nx σ' H'
 | .rt d h'=>∀ as' H' v,Ext as H as' H'->RelH X.K as' H' h'->RelD X.K as' H' d v->Dn.rt v H'
 | .bk e h'=>∀ as' H' σ',Ext as H as' H'->RelH X.K as' H' h'->RelE X.K as' H' e σ'->Dn.bk σ' H'
 | .ct e h'=>∀ as' H' σ',Ext as H as' H'->RelH X.K as' H' h'->RelE X.K as' H' e σ'->Dn.ct σ' H'
 | .ex c e h'=>XW X c fun σ' H'=>∃ as',Ext as H as' H'/\RelH X.K as' H' h'/\RelE X.K as' H' e σ'
 | .bad=>False
theorem POut.later {X:Cx}{as as1:List Addr}{H H1:Hp}{Dn:Ends}{o:Out} (x:Ext as H as1 H1) (h:POut X as H Dn o):POut X as1 H1 Dn o:=by
 cases o with
 | nx e h'=>exact fun as' H' σ' y=>h as' H' σ' (x.trans y)
 | rt d h'=>exact fun as' H' v y=>h as' H' v (x.trans y)
 | bk e h'=>exact fun as' H' σ' y=>h as' H' σ' (x.trans y)
 | ct e h'=>exact fun as' H' σ' y=>h as' H' σ' (x.trans y)
 | ex c e h'=>exact XW.imp h fun σ' H' q9=>by obtain⟨as',y,z⟩:=q9; exact⟨as',x.trans y,z⟩
 | bad=>exact h
theorem PX.of_out {α:Type}{X:Cx}{as:List Addr}{H:Hp}{env:En}{Dn:Ends}{r:Res α}{k:α->Hh->Out} (h:POut X as H Dn (r.out env k)):PX X as H env r fun as1 H1 h1 a=>POut X as1 H1 Dn (k a h1):=by
 cases r with
 | ok a h'=>exact fun as' H' y rh=>POut.later y h
 | ex c h'=>exact h
 | bad=>exact h
noncomputable def tS (X:Cx) (f:FS):TS:=fun Dn σ H=>∃ as env h,RelE X.K as H env σ/\RelH X.K as H h/\POut X as H Dn (f env h)
noncomputable abbrev DE (X:Cx) (e:Expr) (f:FE):Prop:=PE X e (tE X f)
noncomputable abbrev DT (X:Cx) (e:Expr) (f:FT):Prop:=PT X e (tT X f)
noncomputable abbrev DW (X:Cx) (e:Expr) (f:FT):Prop:=PW X e (tT X f)
noncomputable abbrev DA (X:Cx) (es:List Expr) (f:FA):Prop:=PA X es (tA X f)
noncomputable abbrev DS (X:Cx) (st:Stmt) (f:FS):Prop:=PS X st (tS X f)
noncomputable abbrev DSs (X:Cx) (st:List Stmt) (f:FS):Prop:=PSs X st (tS X f)
theorem peOf {X:Cx}{e:Expr}{t t':TE} (h:PE X e t) (f:∀ σ H Q,t' σ H Q->t σ H Q):PE X e t':=fun pins s σ H Q I q=>h pins s σ H Q I (f σ H Q q)
theorem ptOf {X:Cx}{e:Expr}{t t':TT} (h:PT X e t) (f:∀ σ H Q,t' σ H Q->t σ H Q):PT X e t':=fun pins s σ H Q I q=>h pins s σ H Q I (f σ H Q q)
theorem pwOf {X:Cx}{e:Expr}{t t':TT} (h:PW X e t) (f:∀ σ H Q,t' σ H Q->t σ H Q):PW X e t':=fun whole pins s σ H Q I q=>h whole pins s σ H Q I (f σ H Q q)
theorem paOf {X:Cx}{es:List Expr}{t t':TA} (h:PA X es t) (f:∀ σ H Q,t' σ H Q->t σ H Q):PA X es t':=fun pos pins s σ H Q I q=>h pos pins s σ H Q I (f σ H Q q)
theorem psOf {X:Cx}{st:Stmt}{t t':TS} (h:PS X st t) (f:∀ Dn σ H,t' Dn σ H->t Dn σ H):PS X st t':=fun pins s σ H Dn I q=>h pins s σ H Dn I (f Dn σ H q)
theorem pssOf {X:Cx}{st:List Stmt}{t t':TS} (h:PSs X st t) (f:∀ Dn σ H,t' Dn σ H->t Dn σ H):PSs X st t':=fun pins s σ H Dn I q=>h pins s σ H Dn I (f Dn σ H q)
theorem len_s {us:List Value}{n:Nat} (h:us.length=n+1):∃ a r,us=a::r/\r.length=n:=by
 cases us with
 | nil=>cases h
 | cons a r=>exact⟨a,r,rfl,Nat.succ.inj h⟩
section
variable {K:PySem.W.Frag}{x qual:Str}{st:Stmt}{f:Addr}{fd:FuncData}
theorem binds1 {p0:Str} (F:Fun K x qual st f fd) (h:∀ (kV doc pm:Value) (an:Option Addr) (cdv ct a0:Value),bindArgs (PySem.W.fnOf x qual (defArgs st) (defBody st) (defScope st) .none kV doc pm an cdv ct) ⟨[a0],[]⟩=pure ([p0].zip [a0])):Binds K fd [p0] []:=
 F.binds fun _ _ _ _ _ _ us h0=>by
  obtain⟨_,r0,rfl,h1⟩:=len_s h0
  cases List.eq_nil_of_length_eq_zero h1
  exact h _ _ _ _ _ _ _
theorem binds2 {p0 p1:Str} (F:Fun K x qual st f fd) (h:∀ (kV doc pm:Value) (an:Option Addr) (cdv ct a0 a1:Value),bindArgs (PySem.W.fnOf x qual (defArgs st) (defBody st) (defScope st) .none kV doc pm an cdv ct) ⟨[a0,a1],[]⟩=pure ([p0,p1].zip [a0,a1])):Binds K fd [p0,p1] []:=
 F.binds fun _ _ _ _ _ _ us h0=>by
  obtain⟨_,r0,rfl,h1⟩:=len_s h0
  obtain⟨_,r1,rfl,h2⟩:=len_s h1
  cases List.eq_nil_of_length_eq_zero h2
  exact h _ _ _ _ _ _ _ _
theorem binds3 {p0 p1 p2:Str} (F:Fun K x qual st f fd) (h:∀ (kV doc pm:Value) (an:Option Addr) (cdv ct a0 a1 a2:Value),bindArgs (PySem.W.fnOf x qual (defArgs st) (defBody st) (defScope st) .none kV doc pm an cdv ct) ⟨[a0,a1,a2],[]⟩=pure ([p0,p1,p2].zip [a0,a1,a2])):Binds K fd [p0,p1,p2] []:=
 F.binds fun _ _ _ _ _ _ us h0=>by
  obtain⟨_,r0,rfl,h1⟩:=len_s h0
  obtain⟨_,r1,rfl,h2⟩:=len_s h1
  obtain⟨_,r2,rfl,h3⟩:=len_s h2
  cases List.eq_nil_of_length_eq_zero h3
  exact h _ _ _ _ _ _ _ _ _
theorem binds4 {p0 p1 p2 p3:Str} (F:Fun K x qual st f fd) (h:∀ (kV doc pm:Value) (an:Option Addr) (cdv ct a0 a1 a2 a3:Value),bindArgs (PySem.W.fnOf x qual (defArgs st) (defBody st) (defScope st) .none kV doc pm an cdv ct) ⟨[a0,a1,a2,a3],[]⟩=pure ([p0,p1,p2,p3].zip [a0,a1,a2,a3])):Binds K fd [p0,p1,p2,p3] []:=
 F.binds fun _ _ _ _ _ _ us h0=>by
  obtain⟨_,r0,rfl,h1⟩:=len_s h0
  obtain⟨_,r1,rfl,h2⟩:=len_s h1
  obtain⟨_,r2,rfl,h3⟩:=len_s h2
  obtain⟨_,r3,rfl,h4⟩:=len_s h3
  cases List.eq_nil_of_length_eq_zero h4
  exact h _ _ _ _ _ _ _ _ _ _
theorem binds5 {p0 p1 p2 p3 p4:Str} (F:Fun K x qual st f fd) (h:∀ (kV doc pm:Value) (an:Option Addr) (cdv ct a0 a1 a2 a3 a4:Value),bindArgs (PySem.W.fnOf x qual (defArgs st) (defBody st) (defScope st) .none kV doc pm an cdv ct) ⟨[a0,a1,a2,a3,a4],[]⟩=pure ([p0,p1,p2,p3,p4].zip [a0,a1,a2,a3,a4])):Binds K fd [p0,p1,p2,p3,p4] []:=
 F.binds fun _ _ _ _ _ _ us h0=>by
  obtain⟨_,r0,rfl,h1⟩:=len_s h0
  obtain⟨_,r1,rfl,h2⟩:=len_s h1
  obtain⟨_,r2,rfl,h3⟩:=len_s h2
  obtain⟨_,r3,rfl,h4⟩:=len_s h3
  obtain⟨_,r4,rfl,h5⟩:=len_s h4
  cases List.eq_nil_of_length_eq_zero h5
  exact h _ _ _ _ _ _ _ _ _ _ _
end
noncomputable def FK (K:PySem.W.Frag) (x:Str) (st:Stmt) (f:Addr):Prop:=∃ (oc:Value) (od an:Option Addr) (sl:Array (Option Value)) (kV dc pm cd ct:Value),PySem.W.nsIn K mainGlobals x=some (some (.ref f))/\K.lookup f=some ⟨oc,od,.func (PySem.W.fnOf x x (defArgs st) (defBody st) (defScope st) .none kV dc pm an cd ct),sl⟩/\PySem.W.codeIn K cd x=true/\PySem.W.keepIn K (.ref f)=true
theorem fk_mk {K:PySem.W.Frag}{x:Str}{st:Stmt}{f:Addr}{oc:Value}{od an:Option Addr}{sl:Array (Option Value)}{kV dc pm cd ct:Value} (a:PySem.W.nsIn K mainGlobals x=some (some (.ref f))) (l:K.lookup f=some ⟨oc,od,.func (PySem.W.fnOf x x (defArgs st) (defBody st) (defScope st) .none kV dc pm an cd ct),sl⟩) (c:PySem.W.codeIn K cd x=true) (k:PySem.W.keepIn K (.ref f)=true):∃ f,FK K x st f:=⟨f,oc,od,an,sl,kV,dc,pm,cd,ct,a,l,c,k⟩
theorem fk_use {K:PySem.W.Frag}{h:Heap}{mg:Str->Option Value}{x:Str}{st:Stmt} (X:K.In h) (G:h.Ns mainGlobals mg) (q:∃ f,FK K x st f):∃ f fd,Fun K x x st f fd/\mg x=some (.ref f):=by
 obtain⟨f,oc,od,an,sl,kV,dc,pm,cd,ct,a,l,c,k⟩:=q
 exact⟨f,_,fun_mk l c k,PySem.W.mg_of X G a⟩
noncomputable def fC (d:D):FE:=fun _ h=>.ok d h
noncomputable def getO (o:Option (Option D)) (h:Hh):Res D:=match o with
 | some (some d)=>.ok d h
 | _=>.bad
@[simp] theorem getO_some (d:D) (h:Hh):getO (some (some d)) h=.ok d h:=rfl
noncomputable def fV (i:Nat):FE:=fun env h=>getO env[i]? h
section
variable {X:Cx}{pos:Pos}
theorem de_int {i:Int}{j:Nat}:DE X (.Constant (.int i) j pos) (fC (.int i)):=
 peOf pe_int fun σ H Q q9=>by obtain⟨as,env,h,re,rh,p⟩:=q9; exact p as H (Ext.refl as H) rh _ (.int i)
theorem de_bl {b:Bool}{j:Nat}:DE X (.Constant (.bool b) j pos) (fC (.bl b)):=
 peOf pe_bl fun σ H Q q9=>by obtain⟨as,env,h,re,rh,p⟩:=q9; exact p as H (Ext.refl as H) rh _ (.bl b)
theorem de_non {j:Nat}:DE X (.Constant .none j pos) (fC .non):=
 peOf pe_non fun σ H Q q9=>by obtain⟨as,env,h,re,rh,p⟩:=q9; exact p as H (Ext.refl as H) rh _ .non
theorem de_str {x:Str}{j:Nat}:DE X (.Constant (.str x) j pos) (fC (.str x)):=
 peOf pe_str fun σ H Q q9=>by obtain⟨as,env,h,re,rh,p⟩:=q9; exact p as H (Ext.refl as H) rh _ (.str x)
theorem dv (i:Nat) {x:Str} (hN:X.N[i]?=some x:=by rfl) (hv:Vis X.env.scope x:=by first | exact Or.inl rfl | exact Or.inr (Or.inl rfl) | exact Or.inr (Or.inr rfl)) (hd:(x==("__debug__":Str))=false:=by decide)
  (hcd:(x==("__classdict__":Str))=false:=by decide):DE X (.Name x pos) (fV i):=
 peOf (pv i hN hv hd hcd) fun σ H Q ⟨as,env,h,re,rh,p⟩=>by
  unfold fV at p
  cases e:env[i]? with
  | none=>rw [e] at p; exact p.elim
  | some o=>
   cases o with
   | none=>rw [e] at p; exact p.elim
   | some d=>
    rw [e] at p
    obtain⟨v,e1,q⟩:=re.at_ i d e
    exact⟨v,e1,p as H (Ext.refl as H) rh v q⟩
end
noncomputable def Res.ofO {α:Type}:Option (α×Hh)->Res α
 | some (a,h)=>.ok a h
 | none=>.bad
@[simp] theorem ofO_some {α:Type} (a:α) (h:Hh):Res.ofO (some (a,h))=.ok a h:=rfl
@[simp] theorem ofO_none {α:Type}:Res.ofO (none:Option (α×Hh))=.bad:=rfl
noncomputable def PQ (K:PySem.W.Frag) (as:List Addr) (H:Hp) (r:Option (D×Hh)) (Q:VK):Prop:=match r with
 | some (d,h')=>∀ as' H' v,Ext as H as' H'->RelH K as' H' h'->RelD K as' H' d v->Q v H'
 | none=>False
theorem PX.pq {X:Cx}{as:List Addr}{H:Hp}{env:En}{r:Option (D×Hh)}{Q:VK} (h:PX X as H env (Res.ofO r) fun as' H' _ d=>∀ v,RelD X.K as' H' d v->Q v H'):PQ X.K as H r Q:=by
 cases r with
 | none=>exact h
 | some p=>exact fun as' H' v x rh rd=>h as' H' x rh v rd
noncomputable abbrev O1:=D->Hh->Option (D×Hh)
noncomputable abbrev O2:=D->D->Hh->Option (D×Hh)
noncomputable abbrev OC:=List D->Hh->Option (D×Hh)
noncomputable def f1 (r:O1) (f:FE):FE:=fun env h=>(f env h).bind fun x h1=>.ofO (r x h1)
noncomputable def f2 (r:O2) (f g:FE):FE:=fun env h=>(f env h).bind fun x h1=>(g env h1).bind fun y h2=>.ofO (r x y h2)
noncomputable def fc (r:OC) (f:FA):FE:=fun env h=>(f env h).bind fun x h1=>.ofO (r x h1)
noncomputable def asB (d:D) (h:Hh):Res Bool:=match d with
 | .bl b=>.ok b h
 | _=>.bad
@[simp] theorem asB_bl (b:Bool) (h:Hh):asB (.bl b) h=.ok b h:=rfl
noncomputable def fB (f:FE):FT:=fun env h=>(f env h).bind asB
noncomputable def Im1 (K:PySem.W.Frag) (r1:V->Hp->VK->Prop) (r:O1):Prop:=∀ as H h x v Q,RelH K as H h->RelD K as H x v->PQ K as H (r x h) Q->r1 v H Q
noncomputable def Im2 (K:PySem.W.Frag) (r2:R2) (r:O2):Prop:=∀ as H h x y v u Q,RelH K as H h->RelD K as H x v->RelD K as H y u->PQ K as H (r x y h) Q->r2 v u H Q
noncomputable def ImC (K:PySem.W.Frag) (rc:List V->Hp->VK->Prop) (r:OC):Prop:=∀ as H h ds vs Q,RelH K as H h->RelDs K as H ds vs->PQ K as H (r ds h) Q->rc vs H Q
section
variable {X:Cx}{a b:Expr}{f g:FE}{pos:Pos}
theorem tOp_of {r2:R2}{r:O2} (im:Im2 X.K r2 r) (σ:St) (H:Hp) (Q:VK) (q:tE X (f2 r f g) σ H Q):tOp r2 (tE X f) (tE X g) σ H Q:=by
 obtain⟨as,env,h,re,rh,p⟩:=q
 refine⟨as,env,h,re,rh,(PX.bind p).imp fun as1 H1 h1 x e1 rh1 p1 v rv=>?_⟩
 refine⟨as1,env,h1,re.mono e1,rh1,(PX.bind p1).imp fun as2 H2 h2 y e2 rh2 p2 u ru=>?_⟩
 exact im as2 H2 h2 x y v u Q rh2 (rv.mono e2) ru p2.pq
theorem tUn_of {r1:V->Hp->VK->Prop}{r:O1} (im:Im1 X.K r1 r) (σ:St) (H:Hp) (Q:VK) (q:tE X (f1 r f) σ H Q):tUn r1 (tE X f) σ H Q:=by
 obtain⟨as,env,h,re,rh,p⟩:=q
 refine⟨as,env,h,re,rh,(PX.bind p).imp fun as1 H1 h1 x e1 rh1 p1 v rv=>?_⟩
 exact im as1 H1 h1 x v Q rh1 rv p1.pq
theorem tB_of (σ:St) (H:Hp) (Q:Bool->Hp->Prop) (q:tT X (fB f) σ H Q):tE X f σ H fun x H'=>∃ k,x=.bl k/\Q k H':=by
 obtain⟨as,env,h,re,rh,p⟩:=q
 refine⟨as,env,h,re,rh,(PX.bind p).imp fun as1 H1 h1 x e1 rh1 p1 v rv=>?_⟩
 cases x with
 | bl k=>
  cases rv
  exact⟨k,rfl,p1 as1 H1 (Ext.refl _ _) rh1⟩
 | _=>exact p1.elim
theorem de_op {op:Operator}{r2:R2}{r:O2} (ho:OpR X (binaryOp op) r2) (im:Im2 X.K r2 r) (ha:DE X a f) (hb:DE X b g):DE X (.BinOp a op b pos) (f2 r f g):=peOf (pe_op ho ha hb) (tOp_of im)
theorem de_un {op:UnaryOp}{r1:V->Hp->VK->Prop}{r:O1} (ho:UnR X (unaryOp op) r1) (im:Im1 X.K r1 r) (ha:DE X a f):DE X (.UnaryOp op a pos) (f1 r f):=peOf (pe_un ho ha) (tUn_of im)
theorem de_cmp {op:CmpOp}{r2:R2}{r:O2} (ho:OpR X (compareOp op) r2) (im:Im2 X.K r2 r) (hm:behindInMarks op b=false) (ha:DE X a f) (hb:DE X b g):DE X (.Compare a [op] [b] pos) (f2 r f g):=peOf (pe_cmpR ho ha hb hm) (tOp_of im)
theorem dt_cmp {op:CmpOp}{r2:R2}{r:O2} (ho:OpR X (compareOp op) r2) (im:Im2 X.K r2 r) (hm:behindInMarks op b=false) (ha:DE X a f) (hb:DE X b g):DT X (.Compare a [op] [b] pos) (fB (f2 r f g)):=
 ptOf (pt_cmpR ho ha hb hm) fun σ H Q q=>tOp_of im σ H _ (tB_of σ H Q q)
theorem dt_val {e:Expr} (h:DE X e f) (he:∀ whole,isTrue e X.env whole=(do let v <-whole; standAt e.pos; holding [v] (truthy v)):=by intro _; rfl):DT X e (fB f):=
 ptOf (pt_val h he) fun σ H Q q=>tB_of σ H Q q
noncomputable def fAnd (s t:FT):FT:=fun env h=>(s env h).bind fun b h1=>if b=true then t env h1 else .ok false h1
noncomputable def fOr (s t:FT):FT:=fun env h=>(s env h).bind fun b h1=>if b=true then .ok true h1 else t env h1
noncomputable def fNot (s:FT):FT:=fun env h=>(s env h).bind fun b h1=>.ok (!b) h1
noncomputable def fAndV (s t:FE):FE:=fun env h=>(s env h).bind fun d h1=>(asB d h1).bind fun b h2=>if b=true then t env h2 else .ok (.bl false) h2
noncomputable def fOrV (s t:FE):FE:=fun env h=>(s env h).bind fun d h1=>(asB d h1).bind fun b h2=>if b=true then .ok (.bl true) h2 else t env h2
noncomputable def oNot:O1:=fun d h=>match d with
 | .bl b=>some (.bl (!b),h)
 | _=>none
variable {s t:FT}{rest:List Expr}
theorem dw_and1 (ha:DT X a s):DW X (.BoolOp .And [a] pos) s:=pw_and1 ha
theorem dw_or1 (ha:DT X a s):DW X (.BoolOp .Or [a] pos) s:=pw_or1 ha
theorem dw_and (ha:DT X a s) (hb:DW X (.BoolOp .And (b::rest) pos) t):DW X (.BoolOp .And (a::b::rest) pos) (fAnd s t):=
 pwOf (pw_and ha hb) fun σ H Q q9=>by obtain⟨as,env,h,re,rh,p⟩:=q9; exact⟨as,env,h,re,rh,(PX.bind p).imp fun as1 H1 h1 c e1 rh1 p1=>by
  cases c with
  | true=>exact iteT ⟨as1,env,h1,re.mono e1,rh1,p1⟩
  | false=>exact iteF (p1 as1 H1 (Ext.refl _ _) rh1)⟩
theorem dw_or (ha:DT X a s) (hb:DW X (.BoolOp .Or (b::rest) pos) t):DW X (.BoolOp .Or (a::b::rest) pos) (fOr s t):=
 pwOf (pw_or ha hb) fun σ H Q q9=>by obtain⟨as,env,h,re,rh,p⟩:=q9; exact⟨as,env,h,re,rh,(PX.bind p).imp fun as1 H1 h1 c e1 rh1 p1=>by
  cases c with
  | true=>exact iteT (p1 as1 H1 (Ext.refl _ _) rh1)
  | false=>exact iteF ⟨as1,env,h1,re.mono e1,rh1,p1⟩⟩
theorem dt_not (ha:DT X a s):DT X (.UnaryOp .Not a pos) (fNot s):=
 ptOf (pt_not ha) fun σ H Q q9=>by obtain⟨as,env,h,re,rh,p⟩:=q9; exact⟨as,env,h,re,rh,(PX.bind p).imp fun as1 H1 h1 c e1 rh1 p1=>p1 as1 H1 (Ext.refl _ _) rh1⟩
theorem dt_w {e:Expr} (h:DW X e s):DT X e s:=PW.pt h
theorem de_one {op:BoolOp} (h:DE X a f):DE X (.BoolOp op [a] pos) f:=pe_one h
theorem de_and (ha:DE X a f) (hb:DE X (.BoolOp .And (b::rest) pos) g):DE X (.BoolOp .And (a::b::rest) pos) (fAndV f g):=
 peOf (pe_and ha hb) fun σ H Q q9=>by obtain⟨as,env,h,re,rh,p⟩:=q9; exact⟨as,env,h,re,rh,(PX.bind p).imp fun as1 H1 h1 c e1 rh1 p1 v rv=>by
  cases c with
  | bl k=>
   cases rv
   refine⟨k,rfl,?_⟩
   cases k with
   | true=>exact iteT ⟨as1,env,h1,re.mono e1,rh1,p1⟩
   | false=>exact iteF (p1 as1 H1 (Ext.refl _ _) rh1 _ (.bl false))
  | _=>exact p1.elim⟩
theorem de_not (ha:DE X a f):DE X (.UnaryOp .Not a pos) (f1 oNot f):=
 peOf (pe_not ha) fun σ H Q q9=>by obtain⟨as,env,h,re,rh,p⟩:=q9; exact⟨as,env,h,re,rh,(PX.bind p).imp fun as1 H1 h1 c e1 rh1 p1 v rv=>by
  cases c with
  | bl k=>
   cases rv
   exact⟨k,rfl,p1 as1 H1 (Ext.refl _ _) rh1 _ (.bl (!k))⟩
  | _=>exact p1.elim⟩
noncomputable def fIf (s:FT) (f g:FE):FE:=fun env h=>(s env h).bind fun b h1=>if b=true then f env h1 else g env h1
theorem de_if {c:Expr} (hc:DT X c s) (ha:DE X a f) (hb:DE X b g):DE X (.IfExp c a b pos) (fIf s f g):=
 peOf (pe_ifExp hc ha hb) fun σ H Q q9=>by obtain⟨as,env,h,re,rh,p⟩:=q9; exact⟨as,env,h,re,rh,(PX.bind p).imp fun as1 H1 h1 c e1 rh1 p1=>by
  cases c with
  | true=>exact iteT ⟨as1,env,h1,re.mono e1,rh1,p1⟩
  | false=>exact iteF ⟨as1,env,h1,re.mono e1,rh1,p1⟩⟩
end
noncomputable def fAll:List FE->FA
 | [],_,h=>.ok [] h
 | f::r,env,h=>(f env h).bind fun d h1=>(fAll r env h1).bind fun ds h2=>.ok (d::ds) h2
theorem fAll_len:∀ (fs:List FE) (env:En) (h:Hh) (ds:List D) (h':Hh),fAll fs env h=.ok ds h'->ds.length=fs.length
 | [],_,_,_,_,e=>by cases e; rfl
 | f::r,env,h,ds,h',e=>by
  unfold fAll at e
  cases e1:f env h with
  | ok d h1=>
   rw [e1,Res.bind_ok] at e
   cases e2:fAll r env h1 with
   | ok ds2 h2=>
    rw [e2,Res.bind_ok] at e
    cases e
    simp [fAll_len r env h1 ds2 h' e2]
   | ex c h2=>rw [e2] at e; cases e
   | bad=>rw [e2] at e; cases e
  | ex c h1=>rw [e1] at e; cases e
  | bad=>rw [e1] at e; cases e
section
variable {X:Cx}{e:Expr}{es:List Expr}{f:FE}{fs:List FE}{pos:Pos}
theorem da_nil:DA X [] (fAll []):=paOf pa_nil fun σ H Q q9=>by obtain⟨as,env,h,re,rh,p⟩:=q9; exact p as H (Ext.refl _ _) rh [] .nil
theorem da_cons (ha:DE X e f) (hr:DA X es (fAll fs)) (hs:starEach (e::es) X.env=(false,eval e X.env)::starEach es X.env:=by rfl):DA X (e::es) (fAll (f::fs)):=
 paOf (pa_cons ha hr hs) fun σ H Q q9=>by obtain⟨as,env,h,re,rh,p⟩:=q9; exact⟨as,env,h,re,rh,(PX.bind p).imp fun as1 H1 h1 d e1 rh1 p1 v rv=>
  ⟨as1,env,h1,re.mono e1,rh1,(PX.bind p1).imp fun as2 H2 h2 ds e2 rh2 p2 vs rvs=>p2 as2 H2 (Ext.refl _ _) rh2 _ (.cons (rv.mono e2) rvs)⟩⟩
theorem PX.lenA {env:En}{h:Hh}{as:List Addr}{H:Hp}{R:List Addr->Hp->Hh->List D->Prop} (p:PX X as H env (fAll fs env h) R):PX X as H env (fAll fs env h) fun as' H' h' ds=>ds.length=fs.length/\R as' H' h' ds:=by
 cases e:fAll fs env h with
 | ok ds h'=>rw [e] at p; exact fun as' H' x rh=>⟨fAll_len fs env h ds h' e,p as' H' x rh⟩
 | ex c h'=>rw [e] at p; exact p
 | bad=>rw [e] at p; exact p
noncomputable def fTup (fs:List FE):FE:=fun env h=>(fAll fs env h).bind fun ds h1=>.ok (.tup ds) h1
noncomputable def fLst (fs:List FE):FE:=fun env h=>(fAll fs env h).bind fun ds h1=>.ok (.lst h1.length) (h1++[.lst ds])
theorem de_tup {x1} (h:DA X es (fAll fs)) (hl:fs.length<=sizeLine:=by exact Nat.le_of_ble_eq_true rfl):DE X (.Tuple es x1 pos) (fTup fs):=
 peOf (pe_tup h) fun σ H Q q9=>by obtain⟨as,env,h,re,rh,p⟩:=q9; exact⟨as,env,h,re,rh,(PX.bind p).lenA.imp fun as1 H1 h1 ds e1 rh1 p1 vs rvs=>
  ⟨by rw [<-rvs.length,p1.1]; exact hl,fun q hq=>p1.2 as1 _ (ext_upd hq) (rh1.tup hq) _ (.tup upd_same (rvs.mono (ext_upd hq)))⟩⟩
theorem de_lst (h:DA X es (fAll fs)) (hl:fs.length<=sizeLine:=by exact Nat.le_of_ble_eq_true rfl):DE X (.List es pos) (fLst fs):=
 peOf (pe_lst h) fun σ H Q q9=>by obtain⟨as,env,h,re,rh,p⟩:=q9; exact⟨as,env,h,re,rh,(PX.bind p).lenA.imp fun as1 H1 h1 ds e1 rh1 p1 vs rvs=>
  ⟨by rw [<-rvs.length,p1.1]; exact hl,fun q hq=>p1.2 (as1++[q]) _ (ext_new hq) (rh1.newL hq rvs) _ (.lst (by rw [<-rh1.len]; exact List.getElem?_concat_length))⟩⟩
end
section
variable {X:Cx}{x:Str}{p pos:Pos}{e:Expr}{es:List Expr}{fs:List FE}{id T:String}{rc:List V->Hp->VK->Prop}{r:OC}
theorem tCB_of (im:ImC X.K rc r) (σ:St) (H:Hp) (Q:VK) (q:tE X (fc r (fAll fs)) σ H Q):tCB rc (tA X (fAll fs)) σ H Q:=by
 obtain⟨as,env,h,re,rh,p⟩:=q
 exact⟨as,env,h,re,rh,(PX.bind p).imp fun as1 H1 h1 ds e1 rh1 p1 vs rvs=>im as1 H1 h1 ds vs Q rh1 rvs p1.pq⟩
theorem de_callB (hc:CallR X (.builtin id) rc) (im:ImC X.K rc r) (hg:Gl X x) (hm:X.mg x=none) (hv:bootBuiltins x=some (.builtin id)) (ha:DA X (e::es) (fAll fs)) (hn:x≠"__name__":=by decide) (hdb:(x==("__debug__":Str))=false:=by decide)
  (he:starEach (e::es) X.env=(false,eval e X.env)::starEach es X.env:=by rfl) (hpl:(backTo pos (starEach es X.env)).any (·.1)=false:=by rfl):
  DE X (.Call (.Name x p) (e::es) [] pos) (fc r (fAll fs)):=peOf (pe_callB hc hg hm hv ha hn hdb he hpl) (tCB_of im)
theorem de_callTy (hc:CallR X (.type T) rc) (im:ImC X.K rc r) (hg:Gl X x) (hm:X.mg x=none) (hv:bootBuiltins x=some (.type T)) (ha:DA X (e::es) (fAll fs)) (hn:x≠"__name__":=by decide) (hdb:(x==("__debug__":Str))=false:=by decide)
  (he:starEach (e::es) X.env=(false,eval e X.env)::starEach es X.env:=by rfl) (hpl:(backTo pos (starEach es X.env)).any (·.1)=false:=by rfl):
  DE X (.Call (.Name x p) (e::es) [] pos) (fc r (fAll fs)):=peOf (pe_callTy hc hg hm hv ha hn hdb he hpl) (tCB_of im)
end
noncomputable def fNext:FS:=fun e h=>.nx e h
noncomputable def fSeq (s t:FS):FS:=fun e h=>match s e h with
 | .nx e1 h1=>t e1 h1
 | o=>o
noncomputable def fRet (f:FE):FS:=fun e h=>(f e h).out e fun d h1=>.rt d h1
noncomputable def fIfS (c:FT) (s t:FS):FS:=fun e h=>(c e h).out e fun b h1=>if b=true then s e h1 else t e h1
noncomputable def fSet (i:Nat) (f:FE):FS:=fun e h=>(f e h).out e fun d h1=>.nx (e.set i (some d)) h1
noncomputable def fDrop (f:FE):FS:=fun e h=>(f e h).out e fun _ h1=>.nx e h1
section
variable {X:Cx}{st:Stmt}{rest:List Stmt}{s t:FS}{e:Expr}{f:FE}{c:FT}{pos:Pos}
theorem dss_nil:DSs X [] fNext:=pssOf pss_nil fun Dn σ H q9=>by obtain⟨as,env,h,re,rh,p⟩:=q9; exact p as H σ (Ext.refl _ _) rh re
theorem dss_cons (h1:DS X st s) (h2:DSs X rest t):DSs X (st::rest) (fSeq s t):=
 pssOf (pss_cons h1 h2) fun Dn σ H q9=>by obtain⟨as,env,h,re,rh,p⟩:=q9; exact⟨as,env,h,re,rh,by
  unfold fSeq at p
  cases e:s env h with
  | nx e1 h1=>rw [e] at p; exact fun as' H' σ' x rh' re'=>⟨as',e1,h1,re',rh',p.later x⟩
  | rt d h1=>rw [e] at p; exact p
  | bk e1 h1=>rw [e] at p; exact p
  | ct e1 h1=>rw [e] at p; exact p
  | ex c e1 h1=>rw [e] at p; exact p
  | bad=>rw [e] at p; exact p⟩
theorem dss_one (h1:DS X st s):DSs X [st] s:=pss_one h1
theorem ds_ret (he:DE X e f):DS X (.Return (some e) pos) (fRet f):=
 psOf (ps_ret he) fun Dn σ H q9=>by obtain⟨as,env,h,re,rh,p⟩:=q9; exact⟨as,env,h,re,rh,(PX.of_out p).imp fun as1 H1 h1 d e1 rh1 p1 v rv=>p1 as1 H1 v (Ext.refl _ _) rh1 rv⟩
theorem ds_if {c':Expr}{a b:List Stmt} (hc:DT X c' c) (ha:DSs X a s) (hb:DSs X b t):DS X (.If c' a b pos) (fIfS c s t):=
 psOf (ps_if hc ha hb) fun Dn σ H q9=>by obtain⟨as,env,h,re,rh,p⟩:=q9; exact⟨as,env,h,re,rh,(PX.of_out p).imp fun as1 H1 h1 b e1 rh1 p1=>by
  cases b with
  | true=>exact iteT ⟨as1,env,h1,re.mono e1,rh1,p1⟩
  | false=>exact iteF ⟨as1,env,h1,re.mono e1,rh1,p1⟩⟩
theorem ds_set {i:Nat}{x:Str}{pos':Pos} (hN:X.N.Nodup) (he:DE X e f) (hi:X.N[i]?=some x:=by rfl) (hx:Loc X.env.scope x:=by first | exact Or.inl rfl | exact Or.inr rfl)
  (hs:swapsWith e (some (.Name x pos')) pos.line X.env=pure false:=by rfl) (hf:X.fn x=true\/X.env.scope.names.lookup x=some .local:=by first | exact .inl rfl | exact .inr rfl):DS X (.Assign [.Name x pos'] e pos) (fSet i f):=
 psOf (ps_set (i:=i) hN hi hx he hs hf) fun Dn σ H q9=>by obtain⟨as,env,h,re,rh,p⟩:=q9; exact⟨as,env,h,re,rh,(PX.of_out p).imp fun as1 H1 h1 d e1 rh1 p1 v rv=>p1 as1 H1 _ (Ext.refl _ _) rh1 ((re.mono e1).set i rv)⟩
theorem ds_expr (he:DE X e f) (hs:swapsWith e none pos.line X.env=pure false:=by rfl):DS X (.Expr e pos) (fDrop f):=
 psOf (ps_expr he hs) fun Dn σ H q9=>by obtain⟨as,env,h,re,rh,p⟩:=q9; exact⟨as,env,h,re,rh,(PX.of_out p).imp fun as1 H1 h1 d e1 rh1 p1 v rv=>p1 as1 H1 σ (Ext.refl _ _) rh1 (re.mono e1)⟩
noncomputable def fWhile (c:FT) (t:FS):Nat->FS
 | 0,_,_=>.bad
 | n+1,e,h=>(c e h).out e fun b h1=>if b=true then (match t e h1 with
  | .nx e2 h2=>fWhile c t n e2 h2
  | .ct e2 h2=>fWhile c t n e2 h2
  | .bk e2 h2=>.nx e2 h2
  | o=>o) else .nx e h1
theorem ds_while {c':Expr}{body:List Stmt} (n:Nat) (hp:PassesOwn (model X.prog X.w) X.A X.env X.xe) (hc:DT X c' c) (hb:DSs X body t):DS X (.While c' body [] pos) (fWhile c t n):=
 psOf (ps_while hp hc hb) fun Dn σ H q=>by
  refine⟨fun m σ H=>tS X (fWhile c t m) Dn σ H,⟨n,q⟩,fun m σ H q9=>?_⟩
  obtain⟨as,env,h,re,rh,p⟩:=q9
  cases m with
  | zero=>exact p.elim
  | succ m=>
   refine⟨as,env,h,re,rh,(PX.of_out p).imp fun as1 H1 h1 b e1 rh1 p1=>?_⟩
   cases b with
   | false=>exact iteF (p1 as1 H1 σ (Ext.refl _ _) rh1 (re.mono e1))
   | true=>
    refine iteT ⟨fun σ' H'=>tS X (fWhile c t m) Dn σ' H',fun σ' H' z=>⟨m,Nat.lt_succ_self m,z⟩,as1,env,h1,re.mono e1,rh1,?_⟩
    have p2:POut X as1 H1 Dn (match t env h1 with
     | .nx e2 h2=>fWhile c t m e2 h2
     | .ct e2 h2=>fWhile c t m e2 h2
     | .bk e2 h2=>.nx e2 h2
     | o=>o):=p1
    cases e:t env h1 with
    | nx e2 h2=>rw [e] at p2; exact fun as' H' σ' x rh' re'=>⟨as',e2,h2,re',rh',p2.later x⟩
    | ct e2 h2=>rw [e] at p2; exact fun as' H' σ' x rh' re'=>⟨as',e2,h2,re',rh',p2.later x⟩
    | bk e2 h2=>rw [e] at p2; exact p2
    | rt d h2=>rw [e] at p2; exact p2
    | ex c e2 h2=>rw [e] at p2; exact p2
    | bad=>rw [e] at p2; exact p2
end
open Classical in
noncomputable def forG (chk:Hh->Prop) (i:Nat) (t:FS):List D->FS
 | [],e,h=>if chk h then .nx e h else .bad
 | d::r,e,h=>if chk h then (match t (e.set i (some d)) h with
  | .nx e2 h2=>forG chk i t r e2 h2
  | .ct e2 h2=>forG chk i t r e2 h2
  | .bk e2 h2=>.nx e2 h2
  | o=>o) else .bad
theorem tFor_core {X:Cx}{J:It}{i:Nat}{t:FS}{items:List D}{chk:Hh->Prop}{Base:List Addr->Hp->Prop}{Dn:Ends}{σ:St}{H:Hp}{as:List Addr}{env:En}{h:Hh}
  (mono:∀ as H as' H',Ext as H as' H'->Base as H->Base as' H')
  (hgo:∀ (k:Nat) as H h d,RelH X.K as H h->chk h->Base as H->items[k]?=some d->J.go k H/\∀ x H',J.yld k H x H'->H'=H/\RelD X.K as H d x)
  (hstop:∀ as H h,RelH X.K as H h->chk h->Base as H->J.stop items.length H)
  (re:RelE X.K as H env σ) (rh:RelH X.K as H h) (b0:Base as H) (p:POut X as H Dn (forG chk i t items env h)):
  ∃ W:Nat->Nat->St->Hp->Prop,(∃ m,W 0 m σ H)/\∀ k m σ H,W k m σ H->(J.stop k H/\Dn.nx σ H)\/(J.go k H/\∃ N:St->Hp->Prop,(∀ σ' H',N σ' H'->∃ m',m' < m/\W (k+1) m' σ' H')/\
   ∀ x H',J.yld k H x H'->gName i x σ H' fun σ2 H2=>tS X t { Dn with nx:=N,ct:=N,bk:=Dn.nx } σ2 H2):=by
 refine⟨fun k m σ H=>k+m=items.length/\∃ as env h,RelE X.K as H env σ/\RelH X.K as H h/\Base as H/\POut X as H Dn (forG chk i t (items.drop k) env h),⟨items.length,by lia,as,env,h,re,rh,b0,p⟩,?_⟩
 rintro k m σ H ⟨hk,as,env,h,re,rh,b0,p⟩
 cases hd:items.drop k with
 | nil=>
  rw [hd] at p
  unfold forG at p
  by_cases hc:chk h
  ·rw [if_pos hc] at p
   have hlen:items.length<=k:=by
    have:=congrArg List.length hd
    rw [List.length_drop,List.length_nil] at this
    lia
   have hk':k=items.length:=by lia
   exact .inl ⟨hk'▸hstop as H h rh hc b0,p as H σ (Ext.refl _ _) rh re⟩
  ·rw [if_neg hc] at p
   exact p.elim
 | cons d r=>
  rw [hd] at p
  unfold forG at p
  by_cases hc:chk h
  ·rw [if_pos hc] at p
   have hlt:k < items.length:=by
    have:=congrArg List.length hd
    rw [List.length_drop,List.length_cons] at this
    lia
   have hq:=List.drop_eq_getElem_cons hlt
   rw [hd] at hq
   have hd1:items[k]?=some d:=by
    rw [List.getElem?_eq_getElem hlt]
    exact congrArg some (List.cons.inj hq).1.symm
   have hr:items.drop (k+1)=r:=(List.cons.inj hq).2.symm
   obtain⟨g1,g2⟩:=hgo k as H h d rh hc b0 hd1
   refine .inr ⟨g1,fun σ' H'=>(k+1)+(m - 1)=items.length/\∃ as env h,RelE X.K as H' env σ'/\RelH X.K as H' h/\Base as H'/\POut X as H' Dn (forG chk i t (items.drop (k+1)) env h),fun σ' H' z=>⟨m - 1,by lia,z⟩,fun x H' y=>?_⟩
   obtain⟨rfl,rx⟩:=g2 x H' y
   refine⟨as,env.set i (some d),h,re.set i rx,rh,?_⟩
   rw [hr]
   cases e:t (env.set i (some d)) h with
   | nx e2 h2=>rw [e] at p; exact fun as' H' σ' x rh' re'=>⟨by lia,as',e2,h2,re',rh',mono _ _ _ _ x b0,POut.later x p⟩
   | ct e2 h2=>rw [e] at p; exact fun as' H' σ' x rh' re'=>⟨by lia,as',e2,h2,re',rh',mono _ _ _ _ x b0,POut.later x p⟩
   | bk e2 h2=>rw [e] at p; exact p
   | rt d h2=>rw [e] at p; exact p
   | ex c e2 h2=>rw [e] at p; exact p
   | bad=>rw [e] at p; exact p
  ·rw [if_neg hc] at p
   exact p.elim
structure Itm where
 items:List D
 chk:Hh->Prop
noncomputable abbrev FI:=En->Hh->Res Itm
structure Adm (X:Cx) (it:Itm) (J:It) (Base:List Addr->Hp->Prop):Prop where
 mono:∀ as H as' H',Ext as H as' H'->Base as H->Base as' H'
 go:∀ (k:Nat) as H h d,RelH X.K as H h->it.chk h->Base as H->it.items[k]?=some d->J.go k H/\∀ x H',J.yld k H x H'->H'=H/\RelD X.K as H d x
 stop:∀ as H h,RelH X.K as H h->it.chk h->Base as H->J.stop it.items.length H
noncomputable def tI (X:Cx) (fi:FI):TI:=fun σ H R=>∃ as env h,RelE X.K as H env σ/\RelH X.K as H h/\PX X as H env (fi env h) fun as' H' _ it=>∀ J Base,Adm X it J Base->Base as' H'->R J H'
noncomputable abbrev DI (X:Cx) (tg iter:Expr) (fi:FI):Prop:=PI X tg iter (tI X fi)
noncomputable def itSeq (d:D) (h:Hh):Res Itm:=match d with
 | .tup ds=>.ok ⟨ds,fun _=>True⟩ h
 | .lst n=>(match h[n]? with
  | some (.lst ds)=>.ok ⟨ds,fun h=>h[n]?=some (.lst ds)⟩ h
  | _=>.bad)
 | _=>.bad
noncomputable def fiSeq (f:FE):FI:=fun env h=>(f env h).bind itSeq
noncomputable def rng1 (ds:List D):Option (List D):=match ds with
 | [.int j]=>if -(2 ^ 62)<=j/\j < 2 ^ 62 then some ((List.range j.toNat).map fun (k:Nat)=>D.int k) else none
 | _=>none
noncomputable def rng2 (ds:List D):Option (List D):=match ds with
 | [.int i,.int j]=>if -(2 ^ 62)<=i/\i < 2 ^ 62/\-(2 ^ 62)<=j/\j < 2 ^ 62 then some ((List.range (j - i).toNat).map fun (k:Nat)=>D.int (i+k)) else none
 | _=>none
noncomputable def itOf (o:Option (List D)) (h:Hh):Res Itm:=match o with
 | some items=>.ok ⟨items,fun _=>True⟩ h
 | none=>.bad
noncomputable def fiRng (rng:List D->Option (List D)) (fs:List FE):FI:=fun env h=>(fAll fs env h).bind fun ds h1=>itOf (rng ds) h1
section
variable {X:Cx}{tg l:Expr}{pos p:Pos}{f:FE}{fs:List FE}
theorem di_seq (hl:DE X l f):DI X tg l (fiSeq f):=by
 have pT:=pi_tup (tg:=tg) hl
 have pL:=pi_list (tg:=tg) hl
 intro pins s σ H R I q
 obtain⟨as,env,h,re,rh,p⟩:=q
 unfold fiSeq at p
 cases e:f env h with
 | bad=>rw [e] at p; exact p.elim
 | ex c h1=>
  refine pT pins s σ H R I ⟨as,env,h,re,rh,?_⟩
  rw [e] at p |-
  exact p
 | ok d h1=>
  rw [e,Res.bind_ok] at p
  cases d with
  | tup ds=>
   refine pT pins s σ H R I ⟨as,env,h,re,rh,?_⟩
   rw [e]
   intro as1 H1 e1 rh1 v rv
   obtain⟨a,vs,rfl,ha,rvs⟩:=rv.tup_inv
   refine⟨a,rfl,⟨vs,SqT.of ha⟩,?_⟩
   refine p as1 H1 e1 rh1 (Itt X.K a) (fun as H=>H a=some (.tup vs)/\RelDs X.K as H ds vs) ⟨fun as H as' H' x b=>⟨x.tups _ _ b.1,b.2.mono x⟩,?_,?_⟩ ⟨ha,rvs⟩
   ·intro k as H h d _ _ b hd
    obtain⟨v,hv,rd⟩:=Pd.get b.2 hd
    exact⟨⟨vs,v,SqT.of b.1,hv⟩,fun x H' y=>⟨y.1,by
     have:=y.2 vs (SqT.of b.1)
     rw [hv] at this
     cases this
     exact rd⟩⟩
   ·intro as H h _ _ b
    exact⟨vs,SqT.of b.1,by rw [b.2.length]; exact Nat.le_refl _⟩
  | lst n=>
   refine pL pins s σ H R I ⟨as,env,h,re,rh,?_⟩
   rw [e]
   unfold itSeq at p
   dsimp only at p
   cases hn:h1[n]? with
   | none=>rw [hn] at p; exact p.elim
   | some o=>
    cases o with
    | dct kvs=>rw [hn] at p; exact p.elim
    | lst ds=>
     rw [hn] at p
     intro as1 H1 e1 rh1 v rv
     cases rv with
     | @lst _ a ha=>
      obtain⟨vs,hv,rvs⟩:=rh1.obj n a _ ha hn
      refine⟨a,rfl,⟨vs,SqL.of hv⟩,?_⟩
      refine p as1 H1 e1 rh1 (Itl X.K a) (fun as H=>as[n]?=some a) ⟨fun as H as' H' x b=>x.at b,?_,?_⟩ ha
      ·intro k as H h d r1 r2 b hd
       obtain⟨ws,hw,rws⟩:=r1.obj n a _ b r2
       obtain⟨v,hv,rd⟩:=Pd.get rws hd
       exact⟨⟨ws,v,SqL.of hw,hv⟩,fun x H' y=>⟨y.1,by
        have:=y.2 ws (SqL.of hw)
        rw [hv] at this
        cases this
        exact rd⟩⟩
      ·intro as H h r1 r2 b
       obtain⟨ws,hw,rws⟩:=r1.obj n a _ b r2
       exact⟨ws,SqL.of hw,by rw [rws.length]; exact Nat.le_refl _⟩
  | _=>exact p.elim
theorem adm_rng {lo:Int}{n:Nat}{items:List D} (e:items=(List.range n).map fun (k:Nat)=>D.int (lo+k)):Adm X ⟨items,fun _=>True⟩ (Itr lo n) fun _ _=>True:=by
 subst e
 refine⟨fun _ _ _ _ _ b=>b,?_,?_⟩
 ·intro k as H h d _ _ _ hd
  rw [List.getElem?_map] at hd
  obtain⟨m,hm,rfl⟩:=Option.map_eq_some_iff.mp hd
  obtain⟨hlt,e⟩:=List.getElem?_eq_some_iff.mp hm
  rw [List.getElem_range] at e
  subst e
  rw [List.length_range] at hlt
  exact⟨hlt,fun x H' y=>⟨y.1,by
   rw [y.2]
   exact .int _⟩⟩
 ·intro as H h _ _ _
  show n<=_
  rw [List.length_map,List.length_range]
  exact Nat.le_refl _
theorem di_range1 {a:Expr} (hm:X.mg "range"=none) (ha:DA X [a] (fAll fs)) (hg:Gl X "range":=by rfl) (hst:starEach [a] X.env=[(false,eval a X.env)]:=by rfl):DI X tg (.Call (.Name "range" p) [a] [] pos) (fiRng rng1 fs):=by
 intro pins s σ H R I q
 refine pi_range1 (tg:=tg) hg hm ha hst pins s σ H R I ?_
 obtain⟨as,env,h,re,rh,p⟩:=q
 refine⟨as,env,h,re,rh,(PX.bind p).imp fun as1 H1 h1 ds e1 rh1 p1 vs rvs=>?_⟩
 cases hr:rng1 ds with
 | none=>rw [hr] at p1; exact p1.elim
 | some items=>
  rw [hr] at p1
  unfold rng1 at hr
  split at hr
  ·rename_i j
   split at hr
   ·rename_i hj
    cases hr
    cases rvs with
    | cons r1 r2=>
     cases r1
     cases r2
     exact⟨j,rfl,hj.1,hj.2,p1 as1 H1 (Ext.refl _ _) rh1 _ _ (adm_rng (by simp)) trivial⟩
   ·cases hr
  ·cases hr
theorem di_range2 {a b:Expr} (hm:X.mg "range"=none) (ha:DA X [a,b] (fAll fs)) (hg:Gl X "range":=by rfl) (hst:starEach [a,b] X.env=[(false,eval a X.env),(false,eval b X.env)]:=by rfl) (hst2:starEach [b] X.env=[(false,eval b X.env)]:=by rfl):
  DI X tg (.Call (.Name "range" p) [a,b] [] pos) (fiRng rng2 fs):=by
 intro pins s σ H R I q
 refine pi_range2 (tg:=tg) hg hm ha hst hst2 pins s σ H R I ?_
 obtain⟨as,env,h,re,rh,p⟩:=q
 refine⟨as,env,h,re,rh,(PX.bind p).imp fun as1 H1 h1 ds e1 rh1 p1 vs rvs=>?_⟩
 cases hr:rng2 ds with
 | none=>rw [hr] at p1; exact p1.elim
 | some items=>
  rw [hr] at p1
  unfold rng2 at hr
  split at hr
  ·rename_i i' j
   split at hr
   ·rename_i hj
    cases hr
    cases rvs with
    | cons r1 r2=>
     cases r1
     cases r2 with
     | cons r2 r3=>
      cases r2
      cases r3
      exact⟨i',j,rfl,⟨hj.1,hj.2.1,hj.2.2.1,hj.2.2.2⟩,p1 as1 H1 (Ext.refl _ _) rh1 _ _ (adm_rng rfl) trivial⟩
   ·cases hr
  ·cases hr
noncomputable def fFor (i:Nat) (fi:FI) (t:FS):FS:=fun e h=>(fi e h).out e fun it h1=>forG it.chk i t it.items e h1
theorem ds_for {x:Str}{px:Pos}{body:List Stmt}{i:Nat}{fi:FI}{t:FS} (hp:PassesOwn (model X.prog X.w) X.A X.env X.xe) (hcalm:X.calm=true) (hN:X.N.Nodup) (hl:DI X (.Name x px) l fi) (hb:DSs X body t) (hi:X.N[i]?=some x:=by rfl)
  (hx:Loc X.env.scope x:=by first | exact Or.inl rfl | exact Or.inr rfl) (hf:X.fn x=true\/X.env.scope.names.lookup x=some .local:=by first | exact .inl rfl | exact .inr rfl) (hs:∀ x,foldedSetIterable l X.env x=pure x:=by intro _; rfl):
  DS X (.For (.Name x px) l body [] pos) (fFor i fi t):=
 psOf (ps_for (pos:=pos) hp hcalm hl (pg_name hN hi hx hf) hb hs) fun Dn σ H q9=>by obtain⟨as,env,h,re,rh,p⟩:=q9; exact⟨as,env,h,re,rh,(PX.of_out p).imp fun as1 H1 h1 it e1 rh1 p1 J Base ad b0=>
  tFor_core ad.mono ad.go ad.stop (re.mono e1) rh1 b0 p1⟩
end
noncomputable def spD (K:PySem.W.Frag) (n:Nat) (g:OC):Sp:=fun vs H Q _=>vs.length=n/\∃ as ds h,RelH K as H h/\RelDs K as H ds vs/\PQ K as H (g ds h) Q
noncomputable def fnOut (o:Out):Option (D×Hh):=match o with
 | .rt d h'=>some (d,h')
 | .nx _ h'=>some (.non,h')
 | _=>none
noncomputable def startE (n:Nat) (ds:List D):En:=ds.map some++List.replicate (n - ds.length) none
noncomputable def fnRun (n:Nat) (t:FS):OC:=fun ds h=>fnOut (t (startE n ds) h)
theorem relE_start {K:PySem.W.Frag}{as:List Addr}{H:Hp}{N:List Str}{ds:List D}{vs:List V} (r:RelDs K as H ds vs):RelE K as H (startE N.length ds) (L2.start N vs):=by
 refine⟨by simp [startE,L2.start,r.length],fun i d e=>?_⟩
 unfold startE at e
 by_cases hi:i < ds.length
 ·rw [List.getElem?_append_left (by simpa using hi),List.getElem?_map] at e
  obtain⟨d',hd,e'⟩:=Option.map_eq_some_iff.mp e
  cases e'
  obtain⟨v,hv,rd⟩:=Pd.get r hd
  refine⟨v,?_,rd⟩
  unfold L2.start
  rw [List.getElem?_append_left (by rw [List.length_map,<-r.length]; exact hi),List.getElem?_map,hv]
  rfl
 ·rw [List.getElem?_append_right (by simpa using hi)] at e
  have:=List.mem_of_getElem? e
  rw [List.mem_replicate] at this
  exact nomatch this.2
section
variable {P:Program}{w:World}{K:PySem.W.Frag}{mg:Str->Option Value}{base:Heap}
theorem fn_D {x qual:Str}{st:Stmt}{f:Addr}{fd:FuncData}{N ps:List Str}{k:Nat}{t:FS} (F:Fun K x qual st f fd) (S:FnScope N ps (defScope st))
  (hb:∀ (cdv:Value) (A:Around) (outer:List Env) (s:Shared) (H:Hp) (E:XK),Room k (A.deeper (envOfC qual (defScope st) s.heap.objs.size f cdv))->
   DSs (cxOf CX0 P w K mg base N qual (defScope st) f cdv A outer s H E).nox (defBody st) t):FnOk P w K mg base CX0 (k+1) f fd ps (spD K ps.length (fnRun N.length t)):=by
 refine F.ok S (fun vs H Q E h=>h.1) fun cdv A outer s H vs Q E hr h=>⟨_,hb cdv A outer s H E hr,?_⟩
 obtain⟨hl,as,ds,h,rh,rd,p⟩:=h
 refine⟨as,startE N.length ds,h,relE_start rd,rh,?_⟩
 unfold fnRun at p
 cases e:t (startE N.length ds) h with
 | rt d h'=>rw [e] at p; exact fun as' H' v x rh' rd'=>p as' H' v x rh' rd'
 | nx e1 h'=>rw [e] at p; exact fun as' H' σ' x rh' re'=>p as' H' .non x rh' .non
 | bk e1 h'=>rw [e] at p; exact p.elim
 | ct e1 h'=>rw [e] at p; exact p.elim
 | ex c e1 h'=>rw [e] at p; exact p.elim
 | bad=>rw [e] at p; exact p.elim
end
section
variable {X:Cx}{k:Nat}{f:Addr}{fd:FuncData}{ps:List Str}{x:Str}{p pos:Pos}{e:Expr}{es:List Expr}{fs:List FE}{g:OC}{n:Nat}
theorem de_call (G:FnOk X.prog X.w X.K X.mg X.base CX0 k f fd ps (spD X.K n g)) (hr:Room k X.A) (hm:X.mg x=some (.ref f)) (hk:PySem.W.keepIn X.K (.ref f)=true) (hb:Binds X.K fd ps []) (ha:DA X (e::es) (fAll fs)) (hg:Gl X x:=by rfl) (hl:fs.length=n:=by rfl)
  (hdb:(x==("__debug__":Str))=false:=by decide) (he:starEach (e::es) X.env=(false,eval e X.env)::starEach es X.env:=by rfl) (hpl:(backTo pos (starEach es X.env)).any (·.1)=false:=by rfl):
  DE X (.Call (.Name x p) (e::es) [] pos) (fc g (fAll fs)):=
 peOf (pe_call (dvs:=[]) (E:=E0) G hr hg hm hk hb .nil pass0 ha hdb he hpl) fun σ H Q q9=>by obtain⟨as,env,h,re,rh,p⟩:=q9; exact⟨as,env,h,re,rh,(PX.bind p).lenA.imp fun as1 H1 h1 ds e1 rh1 p1 vs rvs=>by
  show spD X.K n g (vs++[]) H1 Q E0
  rw [List.append_nil]
  exact⟨by rw [<-rvs.length,p1.1,hl],as1,ds,h1,rh1,rvs,p1.2.pq⟩⟩
end
inductive HB (n:Nat):D->Prop where
 | non:HB n .non
 | bl (b:Bool):HB n (.bl b)
 | int (i:Int):HB n (.int i)
 | str (x:Str):HB n (.str x)
 | tup {ds:List D}:(∀ d∈ds,HB n d)->HB n (.tup ds)
 | lst {k:Nat}:k < n->HB n (.lst k)
 | ro (ns:List Int):HB n (.ro ns)
theorem RelD.hb {K:PySem.W.Frag}{as:List Addr}{H:Hp}{d:D}{v:V} (h:RelD K as H d v):HB as.length d:=by
 induction h with
 | non=>exact .non
 | bl b=>exact .bl b
 | int i=>exact .int i
 | str y=>exact .str y
 | @tup' ds vs a h1 h2 h3 ih=>
  refine .tup fun d hd=>?_
  obtain⟨i,hi,e⟩:=List.mem_iff_getElem.mp hd
  exact ih i d vs[i] (by rw [List.getElem?_eq_getElem hi,e]) (List.getElem?_eq_getElem (by rw [<-h2]; exact hi))
 | lst h=>exact .lst (List.getElem?_eq_some_iff.mp h).1
 | ro h=>exact .ro _
theorem RelD.cut {K:PySem.W.Frag}{as m:List Addr}{H:Hp}{d:D}{v:V} (h:RelD K (as++m) H d v) (b:HB as.length d):RelD K as H d v:=by
 induction h with
 | non=>exact .non
 | bl k=>exact .bl k
 | int i=>exact .int i
 | str y=>exact .str y
 | tup' h1 h2 h3 ih=>
  cases b with
  | tup b=>exact .tup' h1 h2 fun i d v e1 e2=>ih i d v e1 e2 (b d (List.mem_of_getElem? e1))
 | lst h=>
  cases b with
  | lst b=>
   rw [List.getElem?_append_left b] at h
   exact .lst h
 | ro h=>exact .ro h
theorem HB.mono {n m:Nat} (h:n<=m) {d:D} (b:HB n d):HB m d:=by
 induction b with
 | non=>exact .non
 | bl b=>exact .bl b
 | int i=>exact .int i
 | str y=>exact .str y
 | tup _ ih=>exact .tup ih
 | lst q=>exact .lst (Nat.lt_of_lt_of_le q h)
 | ro ns=>exact .ro ns
theorem RelH.cut {K:PySem.W.Frag}{as m:List Addr}{H H':Hp}{h junk:Hh} (r0:RelH K as H h) (r:RelH K (as++m) H' (h++junk)):RelH K as H' h:=by
 refine⟨r0.len,(List.nodup_append.mp r.nd).1,fun n a o e1 e2=>?_⟩
 have hn:n < as.length:=(List.getElem?_eq_some_iff.mp e1).1
 have hn':n < h.length:=(List.getElem?_eq_some_iff.mp e2).1
 have q0:=r0.obj n a o e1 e2
 have q:=r.obj n a o (by rw [List.getElem?_append_left hn]; exact e1) (by rw [List.getElem?_append_left hn']; exact e2)
 cases o with
 | lst ds=>
  obtain⟨vs0,_,r0⟩:=q0
  obtain⟨vs,h1,r1⟩:=q
  refine⟨vs,h1,Pd.of_get r1.length fun i d v e1 e2=>?_⟩
  obtain⟨u,_,ru⟩:=Pd.get r0 e1
  obtain⟨v',hv,rv⟩:=Pd.get r1 e1
  rw [e2] at hv
  cases hv
  exact rv.cut ru.hb
 | dct kvs=>
  obtain⟨ws0,_,r0⟩:=q0
  obtain⟨ws,h1,r1⟩:=q
  refine⟨ws,h1,Pd.of_get r1.length fun i d v e1 e2=>?_⟩
  obtain⟨u,_,ru⟩:=Pd.get r0 e1
  obtain⟨v',hv,rv⟩:=Pd.get r1 e1
  rw [e2] at hv
  cases hv
  exact⟨rv.1,rv.2.cut ru.2.hb⟩
noncomputable def pureF (m:List D->Option D):OC:=fun ds h=>(m ds).map fun d=>(d,h)
theorem fn_pure {P:Program}{w:World}{K:PySem.W.Frag}{mg:Str->Option Value}{base:Heap}{CX:CXT}{k:Nat}{f:Addr}{fd:FuncData}{ps:List Str}{n:Nat}{g:OC}{m:List D->Option D} (G:FnOk P w K mg base CX k f fd ps (spD K n g))
  (hm:∀ ds h d,m ds=some d->∃ junk,g ds h=some (d,h++junk)) (hb:∀ ds d,m ds=some d->HB 0 d):FnOk P w K mg base CX k f fd ps (spD K n (pureF m)):=by
 refine G.imp fun vs H Q E q9=>?_
 obtain⟨hl,as,ds,h,rh,rd,p⟩:=q9
 refine⟨hl,as,ds,h,rh,rd,?_⟩
 unfold pureF at p
 cases e:m ds with
 | none=>rw [e] at p; exact p.elim
 | some d=>
  rw [e] at p
  obtain⟨junk,e2⟩:=hm ds h d e
  rw [e2]
  intro as' H' v x rh' rd'
  obtain⟨mo,rfl⟩:=x.pre
  exact p as H' v ⟨⟨[],by simp⟩,x.tups,x.frzs⟩ (rh.cut rh') (rd'.cut ((hb ds d e).mono (Nat.zero_le _)))
section
variable {X:Cx}
noncomputable def rCatA (K:PySem.W.Frag):R2:=fun x y H Q=>∃ a b xs ys,x=.ref a/\y=.ref b/\SqT K H a xs/\SqT K H b ys/\xs.length+ys.length<=sizeLine/\
 (xs=[]->Q (.ref b) H)/\(xs≠[]->ys=[]->Q (.ref a) H)/\(xs≠[]->ys≠[]->∀ p,H p=none->Q (.ref p) (upd H p (.tup (xs++ys))))
theorem op_catA:OpR X (binaryOp .Add) (rCatA X.K):=by
 intro pins s σ H x y v u Q I rx ry h
 obtain⟨a,b,xs,ys,rfl,rfl,ha,hb,hz,q0,q1,q2⟩:=h
 by_cases hx:xs=[]
 ·cases rx
  cases ry
  obtain⟨its,r1,p1,_⟩:=I.tuple ha
  obtain⟨its2,r2,p2,_⟩:=I.tuple hb
  obtain⟨⟨cls,dd,data,sl⟩,ho,hc,n,hd⟩:=id p1
  obtain⟨⟨cls2,dd2,data2,sl2⟩,ho2,hc2,n2,hd2⟩:=id p2
  simp only at hc hd hc2 hd2
  subst hc hd hc2 hd2
  have e:its=[]:=r1.nil_iff.mpr hx
  exact concat_meets ⟨_,ho,rfl⟩ ⟨_,ho2,rfl⟩ noFill_tuple_add seq_tuple_add PySem.F.slot_tuple_add PySem.F.entry_tuple_add (PySem.F.args_tuple_add_2 _ _)
   (tuple_addW0 a b its.toArray its2.toArray n n2 dd dd2 sl sl2 (by simp [e])) ⟨ho,ho2,.ref b,H,I,rfl,q0 hx⟩
 ·exact op_catT pins s σ H _ _ v u Q I rx ry ⟨a,b,xs,ys,rfl,rfl,ha,hb,hx,hz,q1 hx,q2 hx⟩
theorem getItem_tuple_whole {prog:Program}{w:World}{A:Around}{E:Value->Shared->Prop}{s:Shared}{t sl:Addr}{items:Array Value}{vl vu:Value}{lo hi:Option Int}{Q:Value->Shared->Prop} (ht:IsTup s.heap t items) (hs:s.heap.IsSliceOf sl vl vu .none) (pl:IsPart vl lo) (pu:IsPart vu hi)
  (hw:HT.sIx items.size 0 lo=0/\HT.sIx items.size items.size hi=items.size) (h:Q (.ref t) s):wpAny (model prog w) A (getItem (.ref t) (.ref sl)) Q E s:=by
 obtain⟨os,hos,hcs,hds⟩:=id hs
 have hTs:s.TypeIs (.ref sl) "slice":=⟨os,hos,hcs⟩
 unfold getItem
 try with_reducible refine wpAny_holding ?_
 first | refine wpAny_bind (wpAny_pure ?_) | skip
 refine wpAny_bind (wpAny_sequenceKey ht.typeIs (by decide) ?_)
 refine wpAny_bind (wpAny_callSpecial?_slot (name:=Str.ofString "__getitem__") ht.typeIs PyProof.Rows.slot_tuple_getitem
  (wpAny_call_entry PyProof.Rows.slot_tuple_getitem ht.typeIs entry_tuple_getitem ?_ (args_tuple_getitem _ _)))
 show wpAny _ _ (Builtin.Tuple.tupleItemsOf (.ref t) >>= _) _ _ s
 refine wpAny_bind (tupleItemsOf_ ht ?_)
 refine wpAny_bind (wpAny_typeOf hTs ?_)
 rw [if_pos (by decide)]
 refine wpAny_bind (HT.sliceApplied_gen hs pl pu ?_)
 have hyes:(((HT.sIx items.size 0 lo:Nat):Int)==0&&(1:Int)==1&&(HT.sIx items.size items.size hi - HT.sIx items.size 0 lo)==items.size)=true:=by
  rw [hw.1,hw.2]
  simp
 show wpAny _ _ (if (((HT.sIx items.size 0 lo:Nat):Int)==0&&(1:Int)==1&&(HT.sIx items.size items.size hi - HT.sIx items.size 0 lo)==items.size)=true then _ else _) _ _ s
 rw [if_pos hyes]
 refine wpAny_bind (m:=Builtin.Tuple.tupleIsExact (.ref t)) ?_
 unfold Builtin.Tuple.tupleIsExact
 refine wpAny_bind (wpAny_typeOf ht.typeIs (wpAny_pure ?_))
 rw [if_pos (by decide)]
 first
  | exact wpAny_bind (wpAny_rule (wpAny_pure ⟨_,rfl,wpAny_pure h⟩))
  | exact wpAny_bind (wpAny_rule (wpAny_bind (wpAny_pure ⟨_,rfl,wpAny_pure h⟩)))
  | exact wpAny_bind (wpAny_rule (wpAny_bind (wpAny_pure (wpAny_pure ⟨_,rfl,wpAny_pure h⟩))))
noncomputable def rSlTA (K:PySem.W.Frag):V->Option Int->Option Int->Hp->VK->Prop:=fun x lo hi H Q=>∃ a xs,x=.ref a/\SqT K H a xs/\
 ((HT.sIx xs.length 0 lo=0/\HT.sIx xs.length xs.length hi=xs.length)->Q (.ref a) H)/\
 (¬ (HT.sIx xs.length 0 lo=0/\HT.sIx xs.length xs.length hi=xs.length)->∀ p,H p=none->Q (.ref p) (upd H p (.tup (cutV xs lo hi))))
theorem sl_tupA:SlR X (rSlTA X.K):=by
 intro pins s σ H x v vl vu lo hi sl Q I rx hs pl pu h
 obtain⟨a,xs,rfl,hx,q1,q2⟩:=h
 by_cases hw:HT.sIx xs.length 0 lo=0/\HT.sIx xs.length xs.length hi=xs.length
 ·cases rx
  obtain⟨its,r,ht,hz⟩:=I.tuple hx
  have hlen:its.toArray.size=xs.length:=by rw [List.size_toArray]; exact r.length.symm
  refine⟨"tuple",_,PyProof.Rows.slot_tuple_getitem.lookup,ht.typeIs,?_⟩
  exact getItem_tuple_whole ht hs pl pu (by rw [hlen]; exact hw) ⟨.ref a,H,I,rfl,q1 hw⟩
 ·exact sl_tup pins s σ H _ v vl vu lo hi sl Q I rx hs pl pu ⟨a,xs,rfl,hx,hw,q2 hw⟩
theorem sl_str:SlR X (fun x lo hi H Q=>∃ z,x=.str z/\z.length<=sizeLine/\Q (.str (Txt.slice z lo hi)) H):=by
 intro pins s σ H x v vl vu lo hi sl Q I rx hs pl pu h
 obtain⟨z,rfl,hz,q⟩:=h
 obtain⟨t,rfl⟩:=rx
 refine⟨"str",_,F.slot_str_getitem.lookup,typeIs_str _ _ _,?_⟩
 cases pl with
 | none=>
  cases pu with
  | none=>exact wpAny_getItem_str_slice (l:=none) (u:=none) (st:=none) hs rfl (post_val_or_str ⟨Nat.le_trans (Txt.slice_le z _ _) hz,fun t' k=>⟨.str _,H,I.tok k,⟨t',rfl⟩,q⟩⟩)
  | int j u=>exact wpAny_getItem_str_slice (l:=none) (u:=some (j,u)) (st:=none) hs rfl (post_val_or_str ⟨Nat.le_trans (Txt.slice_le z _ _) hz,fun t' k=>⟨.str _,H,I.tok k,⟨t',rfl⟩,q⟩⟩)
 | int i u0=>
  cases pu with
  | none=>exact wpAny_getItem_str_slice (l:=some (i,u0)) (u:=none) (st:=none) hs rfl (post_val_or_str ⟨Nat.le_trans (Txt.slice_le z _ _) hz,fun t' k=>⟨.str _,H,I.tok k,⟨t',rfl⟩,q⟩⟩)
  | int j u=>exact wpAny_getItem_str_slice (l:=some (i,u0)) (u:=some (j,u)) (st:=none) hs rfl (post_val_or_str ⟨Nat.le_trans (Txt.slice_le z _ _) hz,fun t' k=>⟨.str _,H,I.tok k,⟨t',rfl⟩,q⟩⟩)
theorem call_sumI (hc:X.calm=true):CallR X (.builtin "sum") (fun xs H Q=>∃ (p:Addr) (ns:List Int),xs=[.ref p]/\SqL X.K H p (ns.map V.int)/\Q (.int ns.sum) H):=by
 intro pins s σ H xs us Q I r h
 obtain⟨p,ns,rfl,hp,q⟩:=h
 obtain⟨u,rfl,ru⟩:=vals1 r
 cases ru
 obtain⟨its,rv,pl,_⟩:=I.list hp
 have hi:IntsAre its ns:=intsAre_of rv
 obtain⟨xs,hx⟩:=hi.allInts.items
 have hl':s.heap.IsList p (intItems xs):=hx▸pl.isList
 refine sum_intListG (I.ok.hd hc) hl' fun h' tk t' hk=>?_
 have e1:ns=xs.toList.map (·.1):=by
  rw [<-nums_intItems,<-hx]
  exact (show numsOf its.toArray.toList=ns from hi.numsOf).symm
 have e2:preSum (numAt xs) xs.size=ns.sum:=by
  rw [preSum_eq,List.take_of_length_le (by simp),e1]
 rw [e2]
 exact⟨.int ns.sum,H,I.kept hk,⟨t',rfl⟩,q⟩
noncomputable def insV {α:Type} (xs:List α) (i:Int) (y:α):List α:=xs.take (if i < 0 then (i+(xs.length:Int)).toNat else min i.toNat xs.length)++y::xs.drop (if i < 0 then (i+(xs.length:Int)).toNat else min i.toNat xs.length)
end
noncomputable def oI2 (g:Int->Int->D):O2:=fun x y h=>match x,y with
 | .int i,.int j=>some (g i j,h)
 | _,_=>none
@[simp] theorem oI2_int (g:Int->Int->D) (i j:Int) (h:Hh):oI2 g (.int i) (.int j) h=some (g i j,h):=rfl
theorem im_I2 {K:PySem.W.Frag}{g:Int->Int->D}{gv:Int->Int->V} (hg:∀ as H i j,RelD K as H (g i j) (gv i j)):Im2 K (rI0 gv) (oI2 g):=by
 intro as H h x y v u Q rh rx ry p
 cases x with
 | int i=>
  cases y with
  | int j=>
   cases rx
   cases ry
   exact⟨i,j,rfl,rfl,p as H _ (Ext.refl _ _) rh (hg as H i j)⟩
  | _=>exact p.elim
 | _=>exact p.elim
noncomputable def oSub:O2:=oI2 fun i j=>.int (i - j)
noncomputable def oLt:O2:=oI2 fun i j=>.bl (decide (i < j))
noncomputable def oLe:O2:=oI2 fun i j=>.bl (decide (i<=j))
noncomputable def oGt:O2:=oI2 fun i j=>.bl (decide (j < i))
noncomputable def oGe:O2:=oI2 fun i j=>.bl (decide (j<=i))
@[simp] theorem oSub_int (i j:Int) (h:Hh):oSub (.int i) (.int j) h=some (.int (i - j),h):=rfl
@[simp] theorem oLt_int (i j:Int) (h:Hh):oLt (.int i) (.int j) h=some (.bl (decide (i < j)),h):=rfl
@[simp] theorem oLe_int (i j:Int) (h:Hh):oLe (.int i) (.int j) h=some (.bl (decide (i<=j)),h):=rfl
@[simp] theorem oGt_int (i j:Int) (h:Hh):oGt (.int i) (.int j) h=some (.bl (decide (j < i)),h):=rfl
@[simp] theorem oGe_int (i j:Int) (h:Hh):oGe (.int i) (.int j) h=some (.bl (decide (j<=i)),h):=rfl
noncomputable def oI2c (c:Int->Int->Bool) (g:Int->Int->D):O2:=fun x y h=>match x,y with
 | .int i,.int j=>if c i j=true then some (g i j,h) else none
 | _,_=>none
theorem im_I2c {K:PySem.W.Frag}{c:Int->Int->Bool}{C:Int->Int->Prop}{g:Int->Int->D}{gv:Int->Int->V} (hg:∀ as H i j,RelD K as H (g i j) (gv i j)) (hc:∀ i j,c i j=true->C i j):Im2 K (rI C gv) (oI2c c g):=by
 intro as H h x y v u Q rh rx ry p
 cases x with
 | int i=>
  cases y with
  | int j=>
   cases rx
   cases ry
   by_cases e:c i j=true
   ·have p':PQ K as H (if c i j=true then some (g i j,h) else none) Q:=p
    rw [if_pos e] at p'
    exact⟨i,j,rfl,rfl,hc i j e,p' as H _ (Ext.refl _ _) rh (hg as H i j)⟩
   ·have p':PQ K as H (if c i j=true then some (g i j,h) else none) Q:=p
    rw [if_neg e] at p'
    exact p'.elim
  | _=>exact p.elim
 | _=>exact p.elim
noncomputable def cMul (i j:Int):Bool:=decide (-(2 ^ 64) < i/\i < 2 ^ 64)||decide (-(2 ^ 64) < j/\j < 2 ^ 64)||decide (i.natAbs < 2 ^ 1000/\j.natAbs < 2 ^ 1000)
theorem cMul_ok {i j:Int} (c:cMul i j=true):IntMulOk i j:=by
 unfold cMul at c
 rw [Bool.or_eq_true,Bool.or_eq_true] at c
 rcases c with (c | c) | c
 ·exact CMul.ok (.inl (of_decide_eq_true c))
 ·exact CMul.ok (.inr (of_decide_eq_true c))
 ·have c':=of_decide_eq_true c
  exact IntMulOk.of_le (m:=1000) (n:=1000) (intBits_le_iff.mpr c'.1) (intBits_le_iff.mpr c'.2) (by decide)
theorem op_mulA {X:Cx}:OpR X (binaryOp .Mult) (rI IntMulOk fun i j=>.int (i*j)):=opI fun _ _ _ _ _ _ _ hc q=>mul_int q hc
noncomputable def cDiv (_ j:Int):Bool:=decide (0 < j/\j < 1073741824)
noncomputable def cMod (_ j:Int):Bool:=decide (0 < j)
noncomputable def cPow (i j:Int):Bool:=decide (0<=j/\j<=1000000/\i.natAbs < 2 ^ 64)
noncomputable def oMul:O2:=oI2c cMul fun i j=>.int (i*j)
noncomputable def oDiv:O2:=oI2c cDiv fun i j=>.int (i / j)
noncomputable def oMod:O2:=oI2c cMod fun i j=>.int (i % j)
noncomputable def oPow:O2:=oI2c cPow fun i j=>.int (i ^ j.toNat)
theorem oMul_int {i j:Int} (h:Hh) (c:cMul i j=true):oMul (.int i) (.int j) h=some (.int (i*j),h):=if_pos c
theorem oDiv_int {i j:Int} (h:Hh) (c:0 < j/\j < 1073741824):oDiv (.int i) (.int j) h=some (.int (i / j),h):=if_pos (decide_eq_true c)
theorem oMod_int {i j:Int} (h:Hh) (c:0 < j):oMod (.int i) (.int j) h=some (.int (i % j),h):=if_pos (decide_eq_true c)
theorem oPow_int {i j:Int} (h:Hh) (c:0<=j/\j<=1000000/\i.natAbs < 2 ^ 64):oPow (.int i) (.int j) h=some (.int (i ^ j.toNat),h):=if_pos (decide_eq_true c)
noncomputable def oNeg:O1:=fun x h=>match x with
 | .int i=>some (.int (-i),h)
 | _=>none
@[simp] theorem oNeg_int (i:Int) (h:Hh):oNeg (.int i) h=some (.int (-i),h):=rfl
@[simp] theorem oNot_bl (b:Bool) (h:Hh):oNot (.bl b) h=some (.bl (!b),h):=rfl
noncomputable def isNon:D->Bool
 | .non=>true
 | _=>false
noncomputable def oIsN:O2:=fun x y h=>match y with
 | .non=>some (.bl (isNon x),h)
 | _=>none
noncomputable def oNotN:O2:=fun x y h=>match y with
 | .non=>some (.bl (!isNon x),h)
 | _=>none
@[simp] theorem oIsN_non (x:D) (h:Hh):oIsN x .non h=some (.bl (isNon x),h):=rfl
@[simp] theorem oNotN_non (x:D) (h:Hh):oNotN x .non h=some (.bl (!isNon x),h):=rfl
theorem RelD.isNon {K:PySem.W.Frag}{as:List Addr}{H:Hp}{x:D}{v:V} (r:RelD K as H x v):decide (v=.non)=isNon x:=by
 cases r<;>simp [DL.isNon]
noncomputable def oAdd:O2:=fun x y h=>match x,y with
 | .int i,.int j=>some (.int (i+j),h)
 | .str a,.str b=>if a.length+b.length<=sizeLine then some (.str (a++b),h) else none
 | .tup a,.tup b=>if a.length+b.length<=sizeLine then some (.tup (a++b),h) else none
 | _,_=>none
@[simp] theorem oAdd_int (i j:Int) (h:Hh):oAdd (.int i) (.int j) h=some (.int (i+j),h):=rfl
theorem oAdd_str {a b:Str} (h:Hh) (c:a.length+b.length<=sizeLine):oAdd (.str a) (.str b) h=some (.str (a++b),h):=if_pos c
theorem oAdd_tup {a b:List D} (h:Hh) (c:a.length+b.length<=sizeLine):oAdd (.tup a) (.tup b) h=some (.tup (a++b),h):=if_pos c
noncomputable def rAddA (K:PySem.W.Frag):R2:=fun x y H Q=>rI0 (fun i j=>.int (i+j)) x y H Q\/(∃ i j,x=.str i/\y=.str j/\i.length+j.length<=sizeLine/\Q (.str (i++j)) H)\/rCatA K x y H Q
theorem im_add {K:PySem.W.Frag}:Im2 K (rAddA K) oAdd:=by
 intro as H h x y v u Q rh rx ry p
 cases x with
 | int i=>
  cases y with
  | int j=>
   cases rx
   cases ry
   exact .inl ⟨i,j,rfl,rfl,p as H _ (Ext.refl _ _) rh (.int _)⟩
  | _=>exact p.elim
 | str a=>
  cases y with
  | str b=>
   cases rx
   cases ry
   have p':PQ K as H (if a.length+b.length<=sizeLine then some (.str (a++b),h) else none) Q:=p
   by_cases c:a.length+b.length<=sizeLine
   ·rw [if_pos c] at p'
    exact .inr (.inl ⟨a,b,rfl,rfl,c,p' as H _ (Ext.refl _ _) rh (.str _)⟩)
   ·rw [if_neg c] at p'
    exact p'.elim
  | _=>exact p.elim
 | tup a=>
  cases y with
  | tup b=>
   have p':PQ K as H (if a.length+b.length<=sizeLine then some (.tup (a++b),h) else none) Q:=p
   by_cases c:a.length+b.length<=sizeLine
   ·rw [if_pos c] at p'
    obtain⟨x,xs,rfl,hx,rxs⟩:=rx.tup_inv
    obtain⟨y,ys,rfl,hy,rys⟩:=ry.tup_inv
    refine .inr (.inr ⟨x,y,xs,ys,rfl,rfl,SqT.of hx,SqT.of hy,by rw [<-rxs.length,<-rys.length]; exact c,fun z=>?_,fun _ z=>?_,fun _ _ q hq=>?_⟩)
    ·subst z
     cases rxs
     exact p' as H _ (Ext.refl _ _) rh (.tup hy rys)
    ·subst z
     cases rys
     exact p' as H _ (Ext.refl _ _) rh (.tup hx (by rw [List.append_nil]; exact rxs))
    ·exact p' as _ _ (ext_upd hq) (rh.tup hq) (.tup upd_same (RelDs.mono (ext_upd hq) (Pd.app rxs rys)))
   ·rw [if_neg c] at p'
    exact p'.elim
  | _=>exact p.elim
 | _=>exact p.elim
section
variable {X:Cx}{a b:Expr}{f g:FE}{pos:Pos}
theorem de_add (ha:DE X a f) (hb:DE X b g):DE X (.BinOp a .Add b pos) (f2 oAdd f g):=de_op (op_add.or (op_add_str.or op_catA)) im_add ha hb
theorem de_sub (ha:DE X a f) (hb:DE X b g):DE X (.BinOp a .Sub b pos) (f2 oSub f g):=de_op op_sub (im_I2 fun _ _ _ _=>.int _) ha hb
theorem de_mul (ha:DE X a f) (hb:DE X b g):DE X (.BinOp a .Mult b pos) (f2 oMul f g):=de_op op_mulA (im_I2c (fun _ _ _ _=>.int _) fun i j c=>cMul_ok c) ha hb
theorem de_div (ha:DE X a f) (hb:DE X b g):DE X (.BinOp a .FloorDiv b pos) (f2 oDiv f g):=de_op op_fdiv (im_I2c (fun _ _ _ _=>.int _) fun i j c=>(of_decide_eq_true c:0 < j/\j < 1073741824)) ha hb
theorem de_mod (ha:DE X a f) (hb:DE X b g):DE X (.BinOp a .Mod b pos) (f2 oMod f g):=de_op op_mod (im_I2c (fun _ _ _ _=>.int _) fun i j c=>(of_decide_eq_true c:0 < j)) ha hb
theorem de_pow (ha:DE X a f) (hb:DE X b g):DE X (.BinOp a .Pow b pos) (f2 oPow f g):=de_op op_pow (im_I2c (fun _ _ _ _=>.int _) fun i j c=>(of_decide_eq_true c:0<=j/\j<=1000000/\i.natAbs < 2 ^ 64)) ha hb
theorem de_neg (ha:DE X a f):DE X (.UnaryOp .USub a pos) (f1 oNeg f):=de_un un_neg (fun as H h x v Q rh rx p=>by
 cases x with
 | int i=>cases rx; exact⟨i,rfl,p as H _ (Ext.refl _ _) rh (.int _)⟩
 | _=>exact p.elim) ha
theorem de_lt (ha:DE X a f) (hb:DE X b g):DE X (.Compare a [.Lt] [b] pos) (f2 oLt f g):=de_cmp op_lt (im_I2 fun _ _ _ _=>.bl _) (nomark _) ha hb
theorem dt_lt (ha:DE X a f) (hb:DE X b g):DT X (.Compare a [.Lt] [b] pos) (fB (f2 oLt f g)):=dt_cmp op_lt (im_I2 fun _ _ _ _=>.bl _) (nomark _) ha hb
theorem dt_le (ha:DE X a f) (hb:DE X b g):DT X (.Compare a [.LtE] [b] pos) (fB (f2 oLe f g)):=dt_cmp op_le (im_I2 fun _ _ _ _=>.bl _) (nomark _) ha hb
theorem dt_gt (ha:DE X a f) (hb:DE X b g):DT X (.Compare a [.Gt] [b] pos) (fB (f2 oGt f g)):=dt_cmp op_gt (im_I2 fun _ _ _ _=>.bl _) (nomark _) ha hb
theorem dt_ge (ha:DE X a f) (hb:DE X b g):DT X (.Compare a [.GtE] [b] pos) (fB (f2 oGe f g)):=dt_cmp op_ge (im_I2 fun _ _ _ _=>.bl _) (nomark _) ha hb
theorem im_isN {K:PySem.W.Frag}:Im2 K (fun x y H Q=>y=.non/\Q (.bl (decide (x=.non))) H) oIsN:=fun as H h x y v u Q rh rx ry p=>by
 cases y with
 | non=>cases ry; rw [rx.isNon]; exact⟨rfl,p as H _ (Ext.refl _ _) rh (.bl _)⟩
 | _=>exact p.elim
theorem im_notN {K:PySem.W.Frag}:Im2 K (fun x y H Q=>y=.non/\Q (.bl (!decide (x=.non))) H) oNotN:=fun as H h x y v u Q rh rx ry p=>by
 cases y with
 | non=>cases ry; rw [rx.isNon]; exact⟨rfl,p as H _ (Ext.refl _ _) rh (.bl _)⟩
 | _=>exact p.elim
theorem de_isN (ha:DE X a f) (hb:DE X b g):DE X (.Compare a [.Is] [b] pos) (f2 oIsN f g):=de_cmp op_isN im_isN (nomark _) ha hb
theorem dt_isN (ha:DE X a f) (hb:DE X b g):DT X (.Compare a [.Is] [b] pos) (fB (f2 oIsN f g)):=dt_cmp op_isN im_isN (nomark _) ha hb
theorem dt_notN (ha:DE X a f) (hb:DE X b g):DT X (.Compare a [.IsNot] [b] pos) (fB (f2 oNotN f g)):=dt_cmp op_notN im_notN (nomark _) ha hb
end
noncomputable def itemsAt (h:Hh) (n:Nat):Option (List D):=match h[n]? with
 | some (.lst ds)=>some ds
 | _=>none
theorem itemsAt_of {h:Hh}{n:Nat}{ds:List D} (e:h[n]?=some (.lst ds)):itemsAt h n=some ds:=by unfold itemsAt; rw [e]
theorem of_itemsAt {h:Hh}{n:Nat}{ds:List D} (e:itemsAt h n=some ds):h[n]?=some (.lst ds):=by
 unfold itemsAt at e
 split at e
 ·rename_i e2; cases e; exact e2
 ·cases e
noncomputable def oIx:O2:=fun x y h=>match x,y with
 | .tup ds,.int i=>(atI ds i).map fun d=>(d,h)
 | .lst n,.int i=>(itemsAt h n).bind fun ds=>(atI ds i).map fun d=>(d,h)
 | _,_=>none
@[simp] theorem oIx_tup (ds:List D) (i:Int) (h:Hh):oIx (.tup ds) (.int i) h=(atI ds i).map fun d=>(d,h):=rfl
theorem oIx_lst {n:Nat}{ds:List D}{h:Hh} (e:h[n]?=some (.lst ds)) (i:Int):oIx (.lst n) (.int i) h=(atI ds i).map fun d=>(d,h):=by
 show (itemsAt h n).bind _=_
 rw [itemsAt_of e]
 rfl
theorem Pd.atI {α β:Type}{F:α->β->Prop}{xs:List α}{us:List β}{i:Int}{x:α} (r:Paired F xs us) (e:atI xs i=some x):∃ u,L2.atI us i=some u/\F x u:=by
 unfold L2.atI at e |-
 rw [<-r.length]
 cases q:ixN xs.length i with
 | none=>rw [q] at e; cases e
 | some j=>
  rw [q] at e
  exact Pd.get r e
theorem im_ix {K:PySem.W.Frag}:Im2 K (rIx K) oIx:=by
 intro as H h x y v u Q rh rx ry p
 cases x with
 | tup ds=>
  cases y with
  | int i=>
   cases ry
   obtain⟨a,vs,rfl,ha,rvs⟩:=rx.tup_inv
   rw [oIx_tup] at p
   cases e:L2.atI ds i with
   | none=>rw [e] at p; exact p.elim
   | some d=>
    rw [e] at p
    obtain⟨w,hw,rw'⟩:=Pd.atI rvs e
    exact .inr (.inl ⟨a,vs,i,w,rfl,rfl,SqT.of ha,hw,p as H w (Ext.refl _ _) rh rw'⟩)
  | _=>exact p.elim
 | lst n=>
  cases y with
  | int i=>
   cases ry
   cases rx with
   | @lst _ a ha=>
    have p':PQ K as H ((itemsAt h n).bind fun ds=>(L2.atI ds i).map fun d=>(d,h)) Q:=p
    cases e0:itemsAt h n with
    | none=>rw [e0] at p'; exact p'.elim
    | some ds=>
     rw [e0] at p'
     obtain⟨vs,hv,rvs⟩:=rh.obj n a _ ha (of_itemsAt e0)
     cases e:L2.atI ds i with
     | none=>simp only [Option.bind_some,e] at p'; exact p'.elim
     | some d=>
      simp only [Option.bind_some,e] at p'
      obtain⟨w,hw,rw'⟩:=Pd.atI rvs e
      exact .inl ⟨a,vs,i,w,rfl,rfl,SqL.of hv,hw,p' as H w (Ext.refl _ _) rh rw'⟩
  | _=>exact p.elim
 | _=>exact p.elim
theorem de_ix {X:Cx}{a b:Expr}{f g:FE}{pos:Pos} (ha:DE X a f) (hb:DE X b g) (hs:PlainIx b:=by exact fun _ _=>rfl):DE X (.Subscript a b pos) (f2 oIx f g):=peOf (pe_ix ix_seq ha hb hs) (tOp_of im_ix)
noncomputable abbrev FO:=En->Hh->Res (Option Int)
noncomputable def tO (X:Cx) (f:FO):TO:=fun σ H Q=>∃ as env h,RelE X.K as H env σ/\RelH X.K as H h/\PX X as H env (f env h) fun _ H' _ o=>Q o H'
noncomputable abbrev DO (X:Cx) (e:Option Expr) (f:FO):Prop:=PO X e (tO X f)
noncomputable def fNoPart:FO:=fun _ h=>.ok none h
noncomputable def partOf (d:D) (h:Hh):Res (Option Int):=match d with
 | .int i=>.ok (some i) h
 | _=>.bad
@[simp] theorem partOf_int (i:Int) (h:Hh):partOf (.int i) h=.ok (some i) h:=rfl
noncomputable def fPart (f:FE):FO:=fun env h=>(f env h).bind partOf
theorem do_none {X:Cx}:DO X none fNoPart:=fun pins s σ H Q I q9=>by obtain⟨as,env,h,re,rh,p⟩:=q9; exact po_none pins s σ H Q I (p as H (Ext.refl _ _) rh)
theorem do_some {X:Cx}{e:Expr}{f:FE} (he:DE X e f):DO X (some e) (fPart f):=fun pins s σ H Q I q9=>by obtain⟨as,env,h,re,rh,p⟩:=q9; exact po_some he pins s σ H Q I ⟨as,env,h,re,rh,(PX.bind p).imp fun as1 H1 h1 d e1 rh1 p1 v rv=>by
 cases d with
 | int i=>cases rv; exact⟨i,rfl,p1 as1 H1 (Ext.refl _ _) rh1⟩
 | _=>exact p1.elim⟩
noncomputable def cutD {α:Type} (xs:List α) (lo hi:Option Int):List α:=(xs.drop (HT.sIx xs.length 0 lo)).take (HT.sIx xs.length xs.length hi - HT.sIx xs.length 0 lo)
theorem Pd.cut {α:Type}{F:α->V->Prop}{xs:List α}{us:List V} (r:Paired F xs us) (lo hi:Option Int):Paired F (cutD xs lo hi) (cutV us lo hi):=by
 unfold cutD cutV
 rw [r.length]
 exact Pd.take _ (Pd.drop _ r)
noncomputable def oSl (x:D) (lo hi:Option Int) (h:Hh):Option (D×Hh):=match x with
 | .tup ds=>some (.tup (cutD ds lo hi),h)
 | .lst n=>(itemsAt h n).map fun ds=>(.lst h.length,h++[.lst (cutD ds lo hi)])
 | .ro ns=>some (.lst h.length,h++[.lst (cutD (ns.map D.int) lo hi)])
 | .str z=>if z.length<=sizeLine then some (.str (Txt.slice z lo hi),h) else none
 | _=>none
@[simp] theorem oSl_tup (ds:List D) (lo hi:Option Int) (h:Hh):oSl (.tup ds) lo hi h=some (.tup (cutD ds lo hi),h):=rfl
theorem oSl_lst {n:Nat}{ds:List D}{h:Hh} (e:h[n]?=some (.lst ds)) (lo hi:Option Int):oSl (.lst n) lo hi h=some (.lst h.length,h++[.lst (cutD ds lo hi)]):=by
 show (itemsAt h n).map _=_
 rw [itemsAt_of e]
 rfl
theorem oSl_str {z:Str} (lo hi:Option Int) (h:Hh) (c:z.length<=sizeLine):oSl (.str z) lo hi h=some (.str (Txt.slice z lo hi),h):=if_pos c
noncomputable def fSl (f:FE) (l u:FO):FE:=fun env h=>(f env h).bind fun x h1=>(l env h1).bind fun lo h2=>(u env h2).bind fun hi h3=>.ofO (oSl x lo hi h3)
theorem relDs_ints {K:PySem.W.Frag}{as:List Addr}{H:Hp}:∀ ns:List Int,RelDs K as H (ns.map D.int) (ns.map V.int)
 | []=>.nil
 | n::r=>.cons (.int n) (relDs_ints r)
theorem im_sl {K:PySem.W.Frag}{as:List Addr}{H:Hp}{h:Hh}{x:D}{v:V}{lo hi:Option Int}{Q:VK} (rh:RelH K as H h) (rx:RelD K as H x v) (p:PQ K as H (oSl x lo hi h) Q):
  rSlTA K v lo hi H Q\/rSlL K v lo hi H Q\/∃ z,v=.str z/\z.length<=sizeLine/\Q (.str (Txt.slice z lo hi)) H:=by
 have hw:∀ {n:Nat}{p:Addr},H p=none->(as++[p])[h.length]?=some p:=fun _=>by rw [<-rh.len]; exact List.getElem?_concat_length
 cases x with
 | tup ds=>
  obtain⟨a,vs,rfl,ha,rvs⟩:=rx.tup_inv
  rw [oSl_tup] at p
  refine .inl ⟨a,vs,rfl,SqT.of ha,fun z=>?_,fun z q hq=>?_⟩
  ·have e:cutD ds lo hi=ds:=by
    unfold cutD
    rw [rvs.length,z.1,z.2,Nat.sub_zero,List.drop_zero,List.take_of_length_le (by rw [rvs.length]; exact Nat.le_refl _)]
   exact p as H _ (Ext.refl _ _) rh (by rw [e]; exact .tup ha rvs)
  ·exact p as _ _ (ext_upd hq) (rh.tup hq) (.tup upd_same (RelDs.mono (ext_upd hq) (Pd.cut rvs lo hi)))
 | lst n=>
  cases rx with
  | @lst _ a ha=>
   have p':PQ K as H ((itemsAt h n).map fun ds=>(D.lst h.length,h++[.lst (cutD ds lo hi)])) Q:=p
   cases e0:itemsAt h n with
   | none=>rw [e0] at p'; exact p'.elim
   | some ds=>
    rw [e0] at p'
    obtain⟨vs,hv,rvs⟩:=rh.obj n a _ ha (of_itemsAt e0)
    exact .inr (.inl ⟨a,vs,rfl,SqL.of hv,fun q hq=>p' (as++[q]) _ _ (ext_new hq) (rh.newL hq (Pd.cut rvs lo hi)) (.lst (hw (n:=0) hq))⟩)
 | ro ns=>
  cases rx with
  | @ro _ a ha=>
   exact .inr (.inl ⟨a,_,rfl,ha.sq,fun q hq=>p (as++[q]) _ _ (ext_new hq) (rh.newL hq (Pd.cut (relDs_ints ns) lo hi)) (.lst (hw (n:=0) hq))⟩)
 | str z=>
  cases rx
  have p':PQ K as H (if z.length<=sizeLine then some (.str (Txt.slice z lo hi),h) else none) Q:=p
  by_cases c:z.length<=sizeLine
  ·rw [if_pos c] at p'
   exact .inr (.inr ⟨z,rfl,c,p' as H _ (Ext.refl _ _) rh (.str _)⟩)
  ·rw [if_neg c] at p'
   exact p'.elim
 | _=>exact p.elim
theorem de_slice {X:Cx}{e:Expr}{lo hi:Option Expr}{f:FE}{l u:FO}{pos p2:Pos} (he:DE X e f) (hl:DO X lo l) (hu:DO X hi u):DE X (.Subscript e (.Slice lo hi none p2) pos) (fSl f l u):=
 peOf (pe_slice (sl_tupA.or (sl_list.or sl_str)) he hl hu) fun σ H Q q9=>by obtain⟨as,env,h,re,rh,p⟩:=q9; exact⟨as,env,h,re,rh,(PX.bind p).imp fun as1 H1 h1 x e1 rh1 p1 v rv=>
  ⟨as1,env,h1,re.mono e1,rh1,(PX.bind p1).imp fun as2 H2 h2 lo e2 rh2 p2=>⟨as2,env,h2,(re.mono e1).mono e2,rh2,(PX.bind p2).imp fun as3 H3 h3 hi e3 rh3 p3=>im_sl rh3 ((rv.mono e2).mono e3) p3.pq⟩⟩⟩
noncomputable def oLen:OC:=fun ds h=>match ds with
 | [.tup xs]=>some (.int xs.length,h)
 | [.lst n]=>(itemsAt h n).map fun xs=>(.int xs.length,h)
 | _=>none
@[simp] theorem oLen_tup (xs:List D) (h:Hh):oLen [.tup xs] h=some (.int xs.length,h):=rfl
theorem oLen_lst {n:Nat}{ds:List D}{h:Hh} (e:h[n]?=some (.lst ds)):oLen [.lst n] h=some (.int ds.length,h):=by
 show (itemsAt h n).map _=_
 rw [itemsAt_of e]
 rfl
theorem RelDs.one {K:PySem.W.Frag}{as:List Addr}{H:Hp}{d:D}{vs:List V} (r:RelDs K as H [d] vs):∃ v,vs=[v]/\RelD K as H d v:=by
 cases r with
 | cons r1 r2=>cases r2; exact⟨_,rfl,r1⟩
theorem RelDs.two {K:PySem.W.Frag}{as:List Addr}{H:Hp}{d e:D}{vs:List V} (r:RelDs K as H [d,e] vs):∃ v u,vs=[v,u]/\RelD K as H d v/\RelD K as H e u:=by
 cases r with
 | cons r1 r2=>
  obtain⟨u,rfl,r3⟩:=RelDs.one r2
  exact⟨_,_,rfl,r1,r3⟩
noncomputable def seqOf (d:D) (h:Hh):Option (List D):=match d with
 | .tup xs=>some xs
 | .lst n=>itemsAt h n
 | _=>none
theorem seqOf_rel {K:PySem.W.Frag}{as:List Addr}{H:Hp}{h:Hh}{d:D}{v:V}{xs:List D} (rh:RelH K as H h) (r:RelD K as H d v) (e:seqOf d h=some xs):
  ∃ a vs,v=.ref a/\RelDs K as H xs vs/\((∃ n,d=.lst n/\H a=some (.lst vs))\/(d=.tup xs/\H a=some (.tup vs))):=by
 cases d with
 | tup ys=>
  cases e
  obtain⟨a,vs,rfl,ha,rv⟩:=r.tup_inv
  exact⟨a,vs,rfl,rv,.inr ⟨rfl,ha⟩⟩
 | lst n=>
  cases r with
  | @lst _ a ha=>
   obtain⟨vs,hv,rv⟩:=rh.obj n a _ ha (of_itemsAt e)
   exact⟨a,vs,rfl,rv,.inl ⟨n,rfl,hv⟩⟩
 | _=>cases e
theorem seqOf_or {K:PySem.W.Frag}{as:List Addr}{H:Hp}{h:Hh}{d:D}{v:V}{xs:List D} (rh:RelH K as H h) (r:RelD K as H d v) (e:seqOf d h=some xs):
  ∃ a vs,v=.ref a/\RelDs K as H xs vs/\(SqL K H a vs\/SqT K H a vs):=by
 obtain⟨a,vs,h1,h2,h3⟩:=seqOf_rel rh r e
 rcases h3 with⟨n,_,z⟩ | ⟨_,z⟩
 ·exact⟨a,vs,h1,h2,.inl (SqL.of z)⟩
 ·exact⟨a,vs,h1,h2,.inr (SqT.of z)⟩
theorem oLen_seq (d:D) (h:Hh):oLen [d] h=(seqOf d h).map fun xs=>(.int xs.length,h):=by
 cases d<;>rfl
theorem im_len {K:PySem.W.Frag}:ImC K (fun xs H Q=>∃ p ys,xs=[.ref p]/\(SqL K H p ys\/SqT K H p ys)/\Q (.int ys.length) H) oLen:=by
 intro as H h ds vs Q rh rd p
 match ds,rd,p with
 | [],_,p=>exact p.elim
 | [d],rd,p=>
  rw [oLen_seq] at p
  obtain⟨v,rfl,rv⟩:=rd.one
  cases e:seqOf d h with
  | none=>rw [e] at p; exact p.elim
  | some xs=>
   rw [e] at p
   obtain⟨a,ws,rfl,rw',hs⟩:=seqOf_or rh rv e
   refine⟨a,ws,rfl,hs,?_⟩
   have q:=p as H (.int xs.length) (Ext.refl _ _) rh (.int _)
   rw [rw'.length] at q
   exact q
 | d::e::r,_,p=>
  cases d<;>exact p.elim
noncomputable def intsD:List D->Option (List Int)
 | []=>some []
 | .int i::r=>(intsD r).map (i::·)
 | _=>none
theorem intsD_of:∀ (ds:List D) (ns:List Int),intsD ds=some ns->ds=ns.map D.int
 | [],ns,e=>by cases e; rfl
 | .int i::r,ns,e=>by
  obtain⟨ms,e1,rfl⟩:=Option.map_eq_some_iff.mp e
  rw [intsD_of r ms e1]
  rfl
 | .non::_,_,e=>nomatch e
 | .bl _::_,_,e=>nomatch e
 | .str _::_,_,e=>nomatch e
 | .tup _::_,_,e=>nomatch e
 | .lst _::_,_,e=>nomatch e
 | .ro _::_,_,e=>nomatch e
@[simp] theorem intsD_map:∀ ns:List Int,intsD (ns.map D.int)=some ns
 | []=>rfl
 | n::r=>by
  show (intsD (r.map D.int)).map (n::·)=_
  rw [intsD_map r]
  rfl
theorem relDs_ints_inv {K:PySem.W.Frag}{as:List Addr}{H:Hp}:∀ (ns:List Int) (vs:List V),RelDs K as H (ns.map D.int) vs->vs=ns.map V.int
 | [],_,r=>by cases r; rfl
 | n::r,_,q=>by
  cases q with
  | cons q1 q2=>cases q1; rw [relDs_ints_inv r _ q2]; rfl
noncomputable def oSum:OC:=fun ds h=>match ds with
 | [.lst n]=>(itemsAt h n).bind fun xs=>(intsD xs).map fun ns=>(.int ns.sum,h)
 | _=>none
theorem oSum_lst {n:Nat}{ds:List D}{ns:List Int}{h:Hh} (e:h[n]?=some (.lst ds)) (e2:intsD ds=some ns):oSum [.lst n] h=some (.int ns.sum,h):=by
 show (itemsAt h n).bind _=_
 rw [itemsAt_of e]
 show (intsD ds).map _=_
 rw [e2]
 rfl
theorem im_sum {K:PySem.W.Frag}:ImC K (fun xs H Q=>∃ (p:Addr) (ns:List Int),xs=[.ref p]/\SqL K H p (ns.map V.int)/\Q (.int ns.sum) H) oSum:=by
 intro as H h ds vs Q rh rd p
 match ds,rd,p with
 | [.lst n],rd,p=>
  obtain⟨v,rfl,rv⟩:=rd.one
  cases rv with
  | @lst _ a ha=>
   have p':PQ K as H ((itemsAt h n).bind fun xs=>(intsD xs).map fun ns=>(D.int ns.sum,h)) Q:=p
   cases e:itemsAt h n with
   | none=>rw [e] at p'; exact p'.elim
   | some xs=>
    rw [e,Option.bind_some] at p'
    cases e2:intsD xs with
    | none=>rw [e2] at p'; exact p'.elim
    | some ns=>
     rw [e2] at p'
     obtain⟨ws,hw,rw'⟩:=rh.obj n a _ ha (of_itemsAt e)
     rw [intsD_of xs ns e2] at rw'
     have:=relDs_ints_inv ns ws rw'
     subst this
     exact⟨a,ns,rfl,SqL.of hw,p' as H _ (Ext.refl _ _) rh (.int _)⟩
 | [],_,p=>exact p.elim
 | [.non],_,p=>exact p.elim
 | [.bl _],_,p=>exact p.elim
 | [.int _],_,p=>exact p.elim
 | [.str _],_,p=>exact p.elim
 | [.tup _],_,p=>exact p.elim
 | [.ro _],_,p=>exact p.elim
 | d::e::r,_,p=>cases d<;>exact p.elim
noncomputable def oTuple:OC:=fun ds h=>match ds with
 | [d]=>(seqOf d h).map fun xs=>(.tup xs,h)
 | _=>none
noncomputable def oList:OC:=fun ds h=>match ds with
 | [d]=>(seqOf d h).map fun xs=>(.lst h.length,h++[.lst xs])
 | _=>none
theorem im_list {K:PySem.W.Frag}:ImC K (fun xs H Q=>∃ p ys,xs=[.ref p]/\(SqL K H p ys\/SqT K H p ys)/\∀ l,H l=none->Q (.ref l) (upd H l (.lst ys))) oList:=by
 intro as H h ds vs Q rh rd p
 match ds,rd,p with
 | [],_,p=>exact p.elim
 | [d],rd,p=>
  have p':PQ K as H ((seqOf d h).map fun xs=>(D.lst h.length,h++[.lst xs])) Q:=p
  obtain⟨v,rfl,rv⟩:=rd.one
  cases e:seqOf d h with
  | none=>rw [e] at p'; exact p'.elim
  | some xs=>
   rw [e] at p'
   obtain⟨a,ws,rfl,rw',hs⟩:=seqOf_or rh rv e
   exact⟨a,ws,rfl,hs,fun l hl=>p' (as++[l]) _ _ (ext_new hl) (rh.newL hl rw') (.lst (by rw [<-rh.len]; exact List.getElem?_concat_length))⟩
 | _::_::_,_,p=>exact p.elim
noncomputable def oInt:OC:=fun ds h=>match ds with
 | [.int i]=>some (.int i,h)
 | [.bl b]=>some (.int (if b then 1 else 0),h)
 | _=>none
@[simp] theorem oInt_bl (b:Bool) (h:Hh):oInt [.bl b] h=some (.int (if b then 1 else 0),h):=rfl
theorem im_int {K:PySem.W.Frag}:ImC K (fun xs H Q=>(∃ i,xs=[.int i]/\Q (.int i) H)\/∃ k,xs=[.bl k]/\Q (.int (if k then 1 else 0)) H) oInt:=by
 intro as H h ds vs Q rh rd p
 unfold oInt at p
 split at p
 ·obtain⟨v,rfl,r1⟩:=rd.one
  cases r1
  exact .inl ⟨_,rfl,p as H _ (Ext.refl _ _) rh (.int _)⟩
 ·obtain⟨v,rfl,r1⟩:=rd.one
  cases r1
  exact .inr ⟨_,rfl,p as H _ (Ext.refl _ _) rh (.int _)⟩
 ·exact p.elim
noncomputable def oStr:OC:=fun ds h=>match ds with
 | [.int i]=>if i.natAbs.log2 < 1920 then some (.str (toString i),h) else none
 | _=>none
theorem oStr_int {i:Int} (h:Hh) (c:i.natAbs.log2 < 1920):oStr [.int i] h=some (.str (toString i),h):=if_pos c
theorem im_str {K:PySem.W.Frag}:ImC K (fun xs H Q=>∃ i,xs=[.int i]/\i.natAbs.log2 < 1920/\Q (.str (toString i)) H) oStr:=by
 intro as H h ds vs Q rh rd p
 unfold oStr at p
 split at p
 ·obtain⟨v,rfl,r1⟩:=rd.one
  cases r1
  split at p
  ·rename_i c
   exact⟨_,rfl,c,p as H _ (Ext.refl _ _) rh (.str _)⟩
  ·exact p.elim
 ·exact p.elim
section
variable {X:Cx}{p pos:Pos}{e:Expr}{es:List Expr}{fs:List FE}
theorem de_len (hm:X.mg "len"=none) (ha:DA X (e::es) (fAll fs)) (hg:Gl X "len":=by rfl) (he:starEach (e::es) X.env=(false,eval e X.env)::starEach es X.env:=by rfl) (hpl:(backTo pos (starEach es X.env)).any (·.1)=false:=by rfl):
  DE X (.Call (.Name "len" p) (e::es) [] pos) (fc oLen (fAll fs)):=de_callB call_len_seq im_len hg hm PySem.boot_len ha (by decide) (by decide) he hpl
theorem de_sum (hm:X.mg "sum"=none) (hcalm:X.calm=true) (ha:DA X (e::es) (fAll fs)) (hg:Gl X "sum":=by rfl) (he:starEach (e::es) X.env=(false,eval e X.env)::starEach es X.env:=by rfl) (hpl:(backTo pos (starEach es X.env)).any (·.1)=false:=by rfl):
  DE X (.Call (.Name "sum" p) (e::es) [] pos) (fc oSum (fAll fs)):=de_callB (call_sumI hcalm) im_sum hg hm boot_sum ha (by decide) (by decide) he hpl
theorem de_list (hm:X.mg "list"=none) (ha:DA X (e::es) (fAll fs)) (hg:Gl X "list":=by rfl) (he:starEach (e::es) X.env=(false,eval e X.env)::starEach es X.env:=by rfl) (hpl:(backTo pos (starEach es X.env)).any (·.1)=false:=by rfl):
  DE X (.Call (.Name "list" p) (e::es) [] pos) (fc oList (fAll fs)):=de_callTy call_list_of im_list hg hm (by decide +kernel) ha (by decide) (by decide) he hpl
theorem de_intc (hm:X.mg "int"=none) (ha:DA X (e::es) (fAll fs)) (hg:Gl X "int":=by rfl) (he:starEach (e::es) X.env=(false,eval e X.env)::starEach es X.env:=by rfl) (hpl:(backTo pos (starEach es X.env)).any (·.1)=false:=by rfl):
  DE X (.Call (.Name "int" p) (e::es) [] pos) (fc oInt (fAll fs)):=de_callTy call_int1 im_int hg hm (by decide +kernel) ha (by decide) (by decide) he hpl
theorem de_strc (hm:X.mg "str"=none) (ha:DA X (e::es) (fAll fs)) (hg:Gl X "str":=by rfl) (he:starEach (e::es) X.env=(false,eval e X.env)::starEach es X.env:=by rfl) (hpl:(backTo pos (starEach es X.env)).any (·.1)=false:=by rfl):
  DE X (.Call (.Name "str" p) (e::es) [] pos) (fc oStr (fAll fs)):=de_callTy call_str_int im_str hg hm (by decide +kernel) ha (by decide) (by decide) he hpl
end
noncomputable abbrev OM:=D->List D->Hh->Option (D×Hh)
noncomputable def ImM (K:PySem.W.Frag) (rm:V->List V->Hp->VK->Prop) (r:OM):Prop:=∀ as H h x ds v vs Q,RelH K as H h->RelD K as H x v->RelDs K as H ds vs->PQ K as H (r x ds h) Q->rm v vs H Q
noncomputable def lstOk (x:D) (h:Hh):Bool:=match x with
 | .lst n=>(itemsAt h n).isSome
 | _=>false
noncomputable def fM (r:OM) (f:FE) (fs:List FE):FE:=fun env h=>(f env h).bind fun x h1=>if lstOk x h1=true then (fAll fs env h1).bind fun ds h2=>.ofO (r x ds h2) else .bad
theorem tyV_lst {K:PySem.W.Frag}{as:List Addr}{H:Hp}{h:Hh}{x:D}{v:V} (rh:RelH K as H h) (rx:RelD K as H x v) (e:lstOk x h=true):tyV K "list" v H:=by
 cases x with
 | lst n=>
  cases rx with
  | @lst _ a ha=>
   obtain⟨ds,e1⟩:=Option.isSome_iff_exists.mp (show (itemsAt h n).isSome=true from e)
   obtain⟨vs,hv,_⟩:=rh.obj n a _ ha (of_itemsAt e1)
   exact .inl ⟨rfl,vs,SqL.of hv⟩
 | _=>cases e
section
variable {X:Cx}{o e:Expr}{es:List Expr}{f:FE}{fs:List FE}{name:Str}{apos cpos:Pos}{id:String}{rm:V->List V->Hp->VK->Prop}{r:OM}
theorem de_meth (slot:Slot "list" name id) (hty:typeOf (.builtin id)=pure (.type "method_descriptor")) (hm:MtR X id rm) (im:ImM X.K rm r) (ho:DE X o f) (ha:DA X (e::es) (fAll fs))
  (hbase:attributeBase o name X.env (eval o X.env)=eval o X.env:=by rfl)
  (hfew:((backTo cpos (starEach (e::es) X.env)).all (fun x=>!x.1)&&(backToKw cpos (keywordEach [] X.env)).all (fun x=>x.1.isSome)
   && decide ((e::es).length+([]:List Keyword).length+(if ([]:List Keyword).isEmpty then 0 else 1) < 30))=true:=by rfl)
  (hline:(apos.endLine==cpos.line)=true:=by rfl) (hs:starEach (e::es) X.env=(false,eval e X.env)::starEach es X.env:=by rfl) (hplain:(backTo cpos (starEach es X.env)).any (·.1)=false:=by rfl):
  DE X (.Call (.Attribute o name apos) (e::es) [] cpos) (fM r f fs):=
 peOf (pe_bm F.plainAttrs_list slot hty hm ho ha hbase hfew hline hs hplain) fun σ H Q q9=>by obtain⟨as,env,h,re,rh,p⟩:=q9; exact⟨as,env,h,re,rh,(PX.bind p).imp fun as1 H1 h1 x e1 rh1 p1 v rv=>by
  by_cases c:lstOk x h1=true
  ·rw [if_pos c] at p1
   exact⟨tyV_lst rh1 rv c,as1,env,h1,re.mono e1,rh1,(PX.bind p1).imp fun as2 H2 h2 ds e2 rh2 p2 vs rvs=>im as2 H2 h2 x ds v vs Q rh2 (rv.mono e2) rvs p2.pq⟩
  ·rw [if_neg c] at p1
   exact p1.elim⟩
end
noncomputable def oAppend:OM:=fun x ds h=>match x,ds with
 | .lst n,[d]=>(itemsAt h n).bind fun xs=>if xs.length < sizeLine then some (.non,h.set n (.lst (xs++[d]))) else none
 | _,_=>none
noncomputable def oExtend:OM:=fun x ds h=>match x,ds with
 | .lst n,[.lst m]=>(itemsAt h n).bind fun xs=>(itemsAt h m).bind fun ys=>if xs.length+ys.length<=sizeLine then some (.non,h.set n (.lst (xs++ys))) else none
 | _,_=>none
theorem oAppend_lst {n:Nat}{xs:List D}{h:Hh} (d:D) (e:h[n]?=some (.lst xs)) (c:xs.length < sizeLine):oAppend (.lst n) [d] h=some (.non,h.set n (.lst (xs++[d]))):=by
 show (itemsAt h n).bind _=_
 rw [itemsAt_of e,Option.bind_some,if_pos c]
theorem oExtend_lst {n m:Nat}{xs ys:List D}{h:Hh} (e:h[n]?=some (.lst xs)) (e2:h[m]?=some (.lst ys)) (c:xs.length+ys.length<=sizeLine):oExtend (.lst n) [.lst m] h=some (.non,h.set n (.lst (xs++ys))):=by
 show (itemsAt h n).bind _=_
 rw [itemsAt_of e,Option.bind_some,itemsAt_of e2,Option.bind_some,if_pos c]
theorem Pd.ins {α β:Type}{F:α->β->Prop}{xs:List α}{us:List β} (r:Paired F xs us) (i:Int) {x:α}{u:β} (q:F x u):Paired F (insV xs i x) (insV us i u):=by
 unfold insV
 rw [r.length]
 exact Pd.app (Pd.take _ r) (.cons q (Pd.drop _ r))
section
variable {K:PySem.W.Frag}
theorem im_append:ImM K rAppend oAppend:=by
 intro as H h x ds v vs Q rh rx rd p
 unfold oAppend at p
 split at p
 ·rename_i n d
  cases rx with
  | @lst _ a ha=>
   obtain⟨u,rfl,ru⟩:=rd.one
   cases e:itemsAt h n with
   | none=>rw [e] at p; exact p.elim
   | some xs=>
    rw [e,Option.bind_some] at p
    obtain⟨ws,hw,rw'⟩:=rh.obj n a _ ha (of_itemsAt e)
    by_cases c:xs.length < sizeLine
    ·rw [if_pos c] at p
     exact⟨a,ws,u,rfl,rfl,hw,by rw [<-rw'.length]; exact c,p as _ _ (ext_lst rh ha (of_itemsAt e)) (rh.setL ha (of_itemsAt e) (Pd.app rw' (.cons ru .nil))) .non⟩
    ·rw [if_neg c] at p
     exact p.elim
 ·exact p.elim
theorem im_extend:ImM K rExtend oExtend:=by
 intro as H h x ds v vs Q rh rx rd p
 unfold oExtend at p
 split at p
 ·rename_i n m
  cases rx with
  | @lst _ a ha=>
   obtain⟨u,rfl,ru⟩:=rd.one
   cases ru with
   | @lst _ b hb=>
    cases e:itemsAt h n with
    | none=>rw [e] at p; exact p.elim
    | some xs=>
     rw [e,Option.bind_some] at p
     cases e2:itemsAt h m with
     | none=>rw [e2] at p; exact p.elim
     | some ys=>
      rw [e2,Option.bind_some] at p
      obtain⟨ws,hw,rw'⟩:=rh.obj n a _ ha (of_itemsAt e)
      obtain⟨zs,hz,rz⟩:=rh.obj m b _ hb (of_itemsAt e2)
      by_cases c:xs.length+ys.length<=sizeLine
      ·rw [if_pos c] at p
       exact⟨a,b,ws,zs,rfl,rfl,hw,hz,by rw [<-rw'.length,<-rz.length]; exact c,p as _ _ (ext_lst rh ha (of_itemsAt e)) (rh.setL ha (of_itemsAt e) (Pd.app rw' rz)) .non⟩
      ·rw [if_neg c] at p
       exact p.elim
 ·exact p.elim
end
section
variable {X:Cx}{o e:Expr}{es:List Expr}{f:FE}{fs:List FE}{apos cpos:Pos}
theorem de_append (ho:DE X o f) (ha:DA X [e] (fAll fs)) (hbase:attributeBase o "append" X.env (eval o X.env)=eval o X.env:=by rfl)
  (hfew:((backTo cpos (starEach [e] X.env)).all (fun x=>!x.1)&&(backToKw cpos (keywordEach [] X.env)).all (fun x=>x.1.isSome)&&decide (([e]:List Expr).length+([]:List Keyword).length+(if ([]:List Keyword).isEmpty then 0 else 1) < 30))=true:=by rfl)
  (hline:(apos.endLine==cpos.line)=true:=by rfl) (hs:starEach [e] X.env=(false,eval e X.env)::starEach [] X.env:=by rfl) (hplain:(backTo cpos (starEach [] X.env)).any (·.1)=false:=by rfl):
  DE X (.Call (.Attribute o "append" apos) [e] [] cpos) (fM oAppend f fs):=de_meth F.slot_list_append F.type_list_append mt_append im_append ho ha hbase hfew hline hs hplain
theorem de_extend (ho:DE X o f) (ha:DA X [e] (fAll fs)) (hbase:attributeBase o "extend" X.env (eval o X.env)=eval o X.env:=by rfl)
  (hfew:((backTo cpos (starEach [e] X.env)).all (fun x=>!x.1)&&(backToKw cpos (keywordEach [] X.env)).all (fun x=>x.1.isSome)&&decide (([e]:List Expr).length+([]:List Keyword).length+(if ([]:List Keyword).isEmpty then 0 else 1) < 30))=true:=by rfl)
  (hline:(apos.endLine==cpos.line)=true:=by rfl) (hs:starEach [e] X.env=(false,eval e X.env)::starEach [] X.env:=by rfl) (hplain:(backTo cpos (starEach [] X.env)).any (·.1)=false:=by rfl):
  DE X (.Call (.Attribute o "extend" apos) [e] [] cpos) (fM oExtend f fs):=de_meth F.slot_list_extend F.type_list_extend mt_extend im_extend ho ha hbase hfew hline hs hplain
end
noncomputable def setIx (x y d:D) (h:Hh):Option Hh:=match x,y with
 | .lst n,.int k=>(itemsAt h n).bind fun ds=>(ixN ds.length k).map fun j=>h.set n (.lst (ds.set j d))
 | _,_=>none
theorem setIx_lst {n:Nat}{k:Int}{j:Nat}{ds:List D}{h:Hh} (d:D) (e:h[n]?=some (.lst ds)) (e2:ixN ds.length k=some j):setIx (.lst n) (.int k) d h=some (h.set n (.lst (ds.set j d))):=by
 show (itemsAt h n).bind _=_
 rw [itemsAt_of e,Option.bind_some,e2]
 rfl
noncomputable def outO (o:Option Hh) (e:En):Out:=match o with
 | some h=>.nx e h
 | none=>.bad
noncomputable def fSetIx (f fo fi:FE):FS:=fun e h=>(f e h).out e fun d h1=>(fo e h1).out e fun x h2=>(fi e h2).out e fun y h3=>outO (setIx x y d h3) e
theorem ds_setIx {X:Cx}{o i e:Expr}{f fo fi:FE}{pos pos':Pos} (he:DE X e f) (ho:DE X o fo) (hi:DE X i fi)
  (ha:∀ v,assign (.Subscript o i pos') X.env v=(do
   let ov <-holding [v] (eval o X.env)
   let iv <-holding [v,ov] (eval i X.env)
   standAt pos'
   holding [v,ov,iv] (setItem ov iv v)
   release [v,ov,iv] []):=by intro _; rfl)
  (hs:swapsWithSole [.Subscript o i pos'] e pos.line X.env=pure false:=by rfl) (hw:swappedStores [.Subscript o i pos'] e X.env=pure none:=by rfl)
  (h1:(assignEach [.Subscript o i pos'] X.env).map (·.2)=[assign (.Subscript o i pos') X.env]:=by rfl):DS X (.Assign [.Subscript o i pos'] e pos) (fSetIx f fo fi):=
 psOf (ps_asg he (pg_sub ho hi set_list ha) hs hw h1) fun Dn σ H q9=>by obtain⟨as,env,h,re,rh,p⟩:=q9; exact⟨as,env,h,re,rh,(PX.of_out p).imp fun as1 H1 h1 d e1 rh1 p1 v rv=>
  ⟨as1,env,h1,re.mono e1,rh1,(PX.of_out p1).imp fun as2 H2 h2 x e2 rh2 p2 u ru=>⟨as2,env,h2,(re.mono e1).mono e2,rh2,(PX.of_out p2).imp fun as3 H3 h3 y e3 rh3 p3 w rw'=>by
   have rv3:=(rv.mono e2).mono e3
   have ru3:=ru.mono e3
   have re3:=((re.mono e1).mono e2).mono e3
   unfold setIx at p3
   split at p3
   ·rename_i n k
    cases ru3 with
    | @lst _ a ha=>
     cases rw'
     cases q:itemsAt h3 n with
     | none=>rw [q] at p3; exact p3.elim
     | some ds=>
      rw [q,Option.bind_some] at p3
      obtain⟨ws,hw,rws⟩:=rh3.obj n a _ ha (of_itemsAt q)
      cases q2:ixN ds.length k with
      | none=>rw [q2] at p3; exact p3.elim
      | some j=>
       rw [q2] at p3
       have ex:=ext_lst (vs:=ws.set j v) rh3 ha (of_itemsAt q)
       exact⟨a,ws,k,j,rfl,rfl,hw,by rw [<-rws.length]; exact q2,p3 as3 _ σ ex (rh3.setL ha (of_itemsAt q) (Pd.set rv3 j rws)) (re3.mono ex)⟩
   ·exact p3.elim⟩⟩⟩
noncomputable def tyD (d:D) (h:Hh):Option String:=match d with
 | .non=>some "NoneType"
 | .bl _=>some "bool"
 | .int _=>some "int"
 | .str _=>some "str"
 | .tup _=>some "tuple"
 | .lst n=>(match h[n]? with
  | some (.lst _)=>some "list"
  | some (.dct _)=>some "dict"
  | none=>none)
 | .ro _=>none
noncomputable def isiB (t T:String):Bool:=t==T||(t=="bool"&&T=="int")
noncomputable def oIsi (T:String):O1:=fun d h=>(tyD d h).map fun t=>(.bl (isiB t T),h)
noncomputable def KitT (T:String):Prop:=∀ K:PySem.W.Frag,∀ t∈["NoneType","bool","int","str","tuple","list","dict"],PySem.W.kitOne K (.type t) (.type T)=some (isiB t T)
theorem tyD_of {K:PySem.W.Frag}{as:List Addr}{H:Hp}{h:Hh}{d:D}{v:V}{t:String} (rh:RelH K as H h) (r:RelD K as H d v) (e:tyD d h=some t):TyOf K H v (.type t)/\t∈["NoneType","bool","int","str","tuple","list","dict"]:=by
 cases r with
 | non=>cases e; exact⟨.non,by decide⟩
 | bl b=>cases e; exact⟨.bl b,by decide⟩
 | int i=>cases e; exact⟨.int i,by decide⟩
 | str x=>cases e; exact⟨.str x,by decide⟩
 | tup' h1 h2 h3=>cases e; exact⟨.tup h1,by decide⟩
 | @lst n a ha=>
  unfold tyD at e
  dsimp only at e
  cases q:h[n]? with
  | none=>rw [q] at e; cases e
  | some o=>
   rw [q] at e
   cases o with
   | lst ds=>
    cases e
    obtain⟨vs,hv,_⟩:=rh.obj n a _ ha q
    exact⟨.lst hv,by decide⟩
   | dct kvs=>
    cases e
    obtain⟨vs,hv,_⟩:=rh.obj n a _ ha q
    exact⟨.dK hv,by decide⟩
 | ro h=>cases e
theorem call_isi {X:Cx}{T:String} (kt:KitT T):CallR X (.builtin "isinstance") (fun xs H Q=>∃ v t,xs=[v,.ty T]/\TyOf X.K H v (.type t)/\t∈["NoneType","bool","int","str","tuple","list","dict"]/\Q (.bl (isiB t T)) H):=by
 intro pins s σ H xs us Q I r h
 obtain⟨v,t,rfl,ty,ht,q⟩:=h
 obtain⟨u,c,rfl,ru,rc⟩:=vals2 r
 cases rc
 exact isinst_ok I ru ty (kt X.K t ht) fun tk=>⟨.bl _,H,I.tok tk,rfl,q⟩
theorem boot_isinstance:bootBuiltins "isinstance"=some (.builtin "isinstance"):=by decide +kernel
theorem de_isi {X:Cx}{x:Str}{T:String}{e:Expr}{f:FE}{p pT pos:Pos} (kt:KitT T) (hbT:bootBuiltins x=some (.type T)) (hm:X.mg "isinstance"=none) (hmT:X.mg x=none) (ha:DE X e f) (hg:Gl X "isinstance":=by rfl) (hgT:Gl X x:=by rfl)
  (hn:x≠"__name__":=by decide) (hd:(x==("__debug__":Str))=false:=by decide)
  (hs1:starEach [e,.Name x pT] X.env=(false,eval e X.env)::starEach [.Name x pT] X.env:=by rfl) (hs2:starEach [.Name x pT] X.env=(false,eval (.Name x pT) X.env)::starEach [] X.env:=by rfl)
  (hpl:(backTo pos (starEach [.Name x pT] X.env)).any (·.1)=false:=by rfl):
  DE X (.Call (.Name "isinstance" p) [e,.Name x pT] [] pos) (f1 (oIsi T) f):=
 peOf (pe_callB (call_isi kt) hg hm boot_isinstance (pa_cons ha (pa_cons (pe_bltn (v:=.ty T) hgT hmT hbT rfl hn hd) pa_nil hs2) hs1) (by decide) (by decide) hs1 hpl) fun σ H Q q9=>by obtain⟨as,env,h,re,rh,p⟩:=q9; exact⟨as,env,h,re,rh,(PX.bind p).imp fun as1 H1 h1 d e1 rh1 p1 v rv=>by
  cases q:tyD d h1 with
  | none=>unfold oIsi at p1; rw [q] at p1; exact p1.elim
  | some t=>
   unfold oIsi at p1
   rw [q] at p1
   obtain⟨ty,ht⟩:=tyD_of rh1 rv q
   exact⟨v,t,rfl,ty,ht,p1 as1 H1 (Ext.refl _ _) rh1 _ (.bl _)⟩⟩
theorem kit_int:KitT "int":=fun K t ht=>by
 simp only [List.mem_cons,List.not_mem_nil,or_false] at ht
 rcases ht with rfl | rfl | rfl | rfl | rfl | rfl | rfl<;>kernel_rfl
theorem kit_bool:KitT "bool":=fun K t ht=>by
 simp only [List.mem_cons,List.not_mem_nil,or_false] at ht
 rcases ht with rfl | rfl | rfl | rfl | rfl | rfl | rfl<;>kernel_rfl
theorem kit_str:KitT "str":=fun K t ht=>by
 simp only [List.mem_cons,List.not_mem_nil,or_false] at ht
 rcases ht with rfl | rfl | rfl | rfl | rfl | rfl | rfl<;>kernel_rfl
theorem kit_tuple:KitT "tuple":=fun K t ht=>by
 simp only [List.mem_cons,List.not_mem_nil,or_false] at ht
 rcases ht with rfl | rfl | rfl | rfl | rfl | rfl | rfl<;>kernel_rfl
theorem kit_list:KitT "list":=fun K t ht=>by
 simp only [List.mem_cons,List.not_mem_nil,or_false] at ht
 rcases ht with rfl | rfl | rfl | rfl | rfl | rfl | rfl<;>kernel_rfl
noncomputable def eqL (f:D->D->Option Bool):List D->List D->Option Bool
 | [],[]=>some true
 | x::xs,y::ys=>match f x y,eqL f xs ys with
  | some a,some b=>some (a&&b)
  | _,_=>none
 | _,_=>some false
noncomputable def eqI (f:D->D->Option Bool) (a b:Option (List D)):Option Bool:=match a,b with
 | some xs,some ys=>eqL f xs ys
 | _,_=>none
noncomputable def eqD:Nat->Hh->D->D->Option Bool
 | 0,_,_,_=>none
 | n+1,h,.tup xs,.tup ys=>eqL (eqD n h) xs ys
 | n+1,h,.lst a,.lst b=>eqI (eqD n h) (itemsAt h a) (itemsAt h b)
 | _+1,_,.non,.non=>some true
 | _+1,_,.bl a,.bl b=>some (a==b)
 | _+1,_,.int a,.int b=>some (a==b)
 | _+1,_,.str a,.str b=>some (a==b)
 | _+1,_,.int _,.str _=>some false
 | _+1,_,.str _,.int _=>some false
 | _+1,_,.non,.int _=>some false
 | _+1,_,.int _,.non=>some false
 | _+1,_,.non,.str _=>some false
 | _+1,_,.str _,.non=>some false
 | _,_,_,_=>none
theorem eqL_spec {f:D->D->Option Bool}:∀ {xs ys:List D}{b:Bool},eqL f xs ys=some b->∃ e:Nat->Bool,(∀ (j:Nat) x y,xs[j]?=some x->ys[j]?=some y->f x y=some (e j))/\b=((List.range (min xs.length ys.length)).all e&&xs.length==ys.length)
 | [],[],b,q=>by cases q; exact⟨fun _=>true,fun j x y h=>by simp at h,by simp⟩
 | [],y::ys,b,q=>by cases q; exact⟨fun _=>true,fun j x y h=>by simp at h,by simp⟩
 | x::xs,[],b,q=>by cases q; exact⟨fun _=>true,fun j x y _ h=>by simp at h,by simp⟩
 | x::xs,y::ys,b,q=>by
  unfold eqL at q
  cases e1:f x y with
  | none=>rw [e1] at q; cases q
  | some a=>
   cases e2:eqL f xs ys with
   | none=>rw [e1,e2] at q; cases q
   | some c=>
    rw [e1,e2] at q
    cases q
    obtain⟨e,h1,h2⟩:=eqL_spec e2
    refine⟨fun j=>match j with | 0=>a | j+1=>e j,fun j x' y' hx hy=>?_,?_⟩
    ·cases j with
     | zero=>
      simp only [List.getElem?_cons_zero,Option.some.injEq] at hx hy
      subst hx hy
      exact e1
     | succ j=>
      simp only [List.getElem?_cons_succ] at hx hy
      exact h1 j x' y' hx hy
    ·rw [h2]
     simp only [List.length_cons]
     have e3:min (xs.length+1) (ys.length+1)=min xs.length ys.length+1:=by lia
     rw [e3,List.range_succ_eq_map,List.all_cons,List.all_map]
     have e4:(xs.length+1==ys.length+1)=(xs.length==ys.length):=by
      rw [Bool.eq_iff_iff]; simp
     rw [e4,Bool.and_assoc]
     rfl
theorem eqL_true {f:D->D->Option Bool}{xs ys:List D}{b:Bool} (q:eqL f xs ys=some b) (hl:xs.length=ys.length) (h:∀ (j:Nat) x y c,xs[j]?=some x->ys[j]?=some y->f x y=some c->c=true):b=true:=by
 obtain⟨e,h1,h2⟩:=eqL_spec q
 rw [h2,hl,Nat.min_self,beq_self_eq_true,Bool.and_true,List.all_eq_true]
 intro j hj
 have hj':=List.mem_range.mp hj
 exact h j _ _ _ (List.getElem?_eq_getElem (by lia)) (List.getElem?_eq_getElem hj') (h1 j _ _ (List.getElem?_eq_getElem (by lia)) (List.getElem?_eq_getElem hj'))
theorem eqD_same {K:PySem.W.Frag}{as:List Addr}{H:Hp}{h:Hh} (rh:RelH K as H h):∀ (n:Nat) (x y:D) (v:V) (b:Bool),eqD n h x y=some b->RelD K as H x v->RelD K as H y v->b=true
 | 0,_,_,_,_,q,_,_=>nomatch q
 | n+1,x,y,v,b,q,rx,ry=>by
  cases rx with
  | non=>cases ry; cases q; rfl
  | bl c=>cases ry; cases q; exact beq_self_eq_true c
  | int c=>cases ry; cases q; exact beq_self_eq_true c
  | str c=>cases ry; cases q; exact beq_self_eq_true c
  | @tup' xs vs a h1 h2 h3=>
   cases ry with
   | @tup' ys ws _ k1 k2 k3=>
    rw [h1] at k1
    cases k1
    refine eqL_true (show eqL (eqD n h) xs ys=some b from q) (h2.trans k2.symm) fun j x y c hx hy hc=>?_
    have hj:j < vs.length:=by rw [<-h2]; exact (List.getElem?_eq_some_iff.mp hx).1
    exact eqD_same rh n x y vs[j] c hc (h3 j x _ hx (List.getElem?_eq_getElem hj)) (k3 j y _ hy (List.getElem?_eq_getElem hj))
   | lst _=>cases q
   | ro _=>cases q
  | @lst i a ha=>
   cases ry with
   | tup' _ _ _=>cases q
   | ro _=>cases q
   | @lst j _ hb=>
    have hij:i=j:=by
     obtain⟨h1,e1⟩:=List.getElem?_eq_some_iff.mp ha
     obtain⟨h2,e2⟩:=List.getElem?_eq_some_iff.mp hb
     exact (List.getElem_inj rh.nd).mp (e1.trans e2.symm)
    subst hij
    have q:eqI (eqD n h) (itemsAt h i) (itemsAt h i)=some b:=q
    cases e:itemsAt h i with
    | none=>rw [e] at q; cases q
    | some xs=>
     rw [e] at q
     obtain⟨vs,hv,rvs⟩:=rh.obj i a _ ha (of_itemsAt e)
     refine eqL_true (show eqL (eqD n h) xs xs=some b from q) rfl fun j x y c hx hy hc=>?_
     rw [hx] at hy
     cases hy
     obtain⟨u,hu,ru⟩:=Pd.get rvs hx
     exact eqD_same rh n x x u c hc ru ru
  | ro _=>cases y<;>cases q
theorem eqAt_D {X:Cx}{pins:List (Addr×Obj)}{σ:St}{H:Hp}{s:Shared}{as:List Addr}{h:Hh} (I:Inv X pins σ H s) (rh:RelH X.K as H h):
  ∀ (n:Nat) (A:Around) (x y:D) (v u:V) (vv uu:Value) (b:Bool),A.units+n < cLine->eqD n h x y=some b->RelD X.K as H x v->RelD X.K as H y u->RelV v vv->RelV u uu->SeqAt.EqAt A s vv uu b
 | 0,_,_,_,_,_,_,_,_,_,q,_,_,_,_=>nomatch q
 | n+1,A,x,y,v,u,vv,uu,b,hu,q,rx,ry,rv,ru=>by
  have hA:A.units < cLine:=by lia
  have hA1:A.in1.units+n < cLine:=by
   show A.units+1+n < cLine
   lia
  have pairs:∀ (xs ys:List D) (vs us:List V) (its its2:List Value) (e:Nat->Bool),RelDs X.K as H xs vs->RelDs X.K as H ys us->Vals vs its->Vals us its2->(∀ (j:Nat) x y,xs[j]?=some x->ys[j]?=some y->eqD n h x y=some (e j))->
    ∀ j (h1:j < its.toArray.size) (h2:j < its2.toArray.size),SeqAt.EqAt A.in1 s its.toArray[j] its2.toArray[j] (e j):=by
   intro xs ys vs us its its2 e r1 r2 v1 v2 he j h1 h2
   rw [List.size_toArray] at h1 h2
   have hx:j < xs.length:=by rw [r1.length,v1.length]; exact h1
   have hy:j < ys.length:=by rw [r2.length,v2.length]; exact h2
   obtain⟨v,hv,rv⟩:=Pd.get r1 (List.getElem?_eq_getElem hx)
   obtain⟨u,hu,ru⟩:=Pd.get r2 (List.getElem?_eq_getElem hy)
   obtain⟨vv,hvv,rvv⟩:=v1.get hv
   obtain⟨uu,huu,ruu⟩:=v2.get hu
   have e1:its.toArray[j]=vv:=by
    rw [List.getElem?_eq_getElem h1] at hvv
    exact Option.some.inj hvv
   have e2:its2.toArray[j]=uu:=by
    rw [List.getElem?_eq_getElem h2] at huu
    exact Option.some.inj huu
   rw [e1,e2]
   exact eqAt_D I rh n A.in1 _ _ v u vv uu (e j) hA1 (he j _ _ (List.getElem?_eq_getElem hx) (List.getElem?_eq_getElem hy)) rv ru rvv ruu
  have flat:∀ (v u:V) (vv uu:Value),flatV v=true->flatV u=true->RelV v vv->RelV u uu->SeqAt.EqAt A s vv uu (eqV v u):=fun v u vv uu f1 f2 r1 r2=>eqAt_V r1 r2 f1 f2
  cases rx with
  | non=>
   cases ry with
   | non=>cases q; exact flat _ _ _ _ rfl rfl rv ru
   | int i=>cases q; exact flat _ _ _ _ rfl rfl rv ru
   | str z=>cases q; exact flat _ _ _ _ rfl rfl rv ru
   | _=>cases q
  | bl c=>
   cases ry with
   | bl d=>cases q; exact flat _ _ _ _ rfl rfl rv ru
   | _=>cases q
  | int c=>
   cases ry with
   | non=>cases q; exact flat _ _ _ _ rfl rfl rv ru
   | int d=>cases q; exact flat _ _ _ _ rfl rfl rv ru
   | str d=>cases q; exact flat _ _ _ _ rfl rfl rv ru
   | _=>cases q
  | str c=>
   cases ry with
   | non=>cases q; exact flat _ _ _ _ rfl rfl rv ru
   | int d=>cases q; exact flat _ _ _ _ rfl rfl rv ru
   | str d=>cases q; exact flat _ _ _ _ rfl rfl rv ru
   | _=>cases q
  | @tup' xs vs a h1 h2 h3=>
   cases ry with
   | @tup' ys us c k1 k2 k3=>
    cases rv
    cases ru
    by_cases hac:a=c
    ·subst hac
     rw [eqD_same rh (n+1) _ _ (.ref a) b q (.tup' h1 h2 h3) (.tup' k1 k2 k3)]
     exact SeqAt.EqAt.same _
    ·obtain⟨its,v1,p1,_⟩:=I.tuple (SqT.of h1)
     obtain⟨its2,v2,p2,_⟩:=I.tuple (SqT.of k1)
     obtain⟨e,he,hb⟩:=eqL_spec (show eqL (eqD n h) xs ys=some b from q)
     have r1:RelDs X.K as H xs vs:=Pd.of_get h2 h3
     have r2:RelDs X.K as H ys us:=Pd.of_get k2 k3
     have hr:=SeqAt.RcAt.tuples (A:=A) (e:=e) p1 p2 hA (pairs xs ys vs us its its2 e r1 r2 v1 v2 he)
     rw [hb,r1.length,r2.length,v1.length,v2.length]
     rw [List.size_toArray,List.size_toArray] at hr
     exact SeqAt.EqAt.of_refs hac hr
   | lst _=>cases q
   | ro _=>cases q
   | _=>cases q
  | @lst i a ha=>
   cases ry with
   | @lst j c hc=>
    cases rv
    cases ru
    by_cases hac:a=c
    ·subst hac
     rw [eqD_same rh (n+1) _ _ (.ref a) b q (.lst ha) (.lst hc)]
     exact SeqAt.EqAt.same _
    ·have q:eqI (eqD n h) (itemsAt h i) (itemsAt h j)=some b:=q
     cases e1:itemsAt h i with
     | none=>rw [e1] at q; cases q
     | some xs=>
      cases e2:itemsAt h j with
      | none=>rw [e1,e2] at q; cases q
      | some ys=>
       rw [e1,e2] at q
       obtain⟨vs,hv,r1⟩:=rh.obj i a _ ha (of_itemsAt e1)
       obtain⟨us,hu',r2⟩:=rh.obj j c _ hc (of_itemsAt e2)
       obtain⟨its,v1,p1,_⟩:=I.list (SqL.of hv)
       obtain⟨its2,v2,p2,_⟩:=I.list (SqL.of hu')
       obtain⟨e,he,hb⟩:=eqL_spec (show eqL (eqD n h) xs ys=some b from q)
       have l1:xs.length=its.toArray.size:=by rw [List.size_toArray,r1.length,v1.length]
       have l2:ys.length=its2.toArray.size:=by rw [List.size_toArray,r2.length,v2.length]
       by_cases hl:its.toArray.size=its2.toArray.size
       ·have hr:=SeqAt.RcAt.lists (A:=A) (e:=e) p1.isList p2.isList hl hA (pairs xs ys vs us its its2 e r1 r2 v1 v2 he)
        rw [hb,l1,l2,hl,Nat.min_self,beq_self_eq_true,Bool.and_true]
        rw [hl] at hr
        exact SeqAt.EqAt.of_refs hac hr
       ·have hr:=SeqAt.RcAt.lists_lengths (A:=A) p1.isList p2.isList (by simpa using hl) hA
        have:(xs.length==ys.length)=false:=by rw [l1,l2]; simpa using hl
        rw [hb,this,Bool.and_false]
        exact SeqAt.EqAt.of_refs hac hr
   | _=>cases q
  | ro _=>cases y<;>cases q
noncomputable def rEqD (K:PySem.W.Frag) (n:Nat) (neg:Bool):R2:=fun v u H Q=>∃ as h x y b,RelH K as H h/\RelD K as H x v/\RelD K as H y u/\eqD n h x y=some b/\Q (.bl (if neg then !b else b)) H
theorem eq_parts {X:Cx}{pins:List (Addr×Obj)}{σ:St}{H:Hp}{s:Shared}{as:List Addr}{h:Hh}{n:Nat}{A:Around}{xs ys:List D}{vs us:List V}{its its2:List Value}{e:Nat->Bool} (I:Inv X pins σ H s) (rh:RelH X.K as H h) (hA1:A.units+(n+1) < cLine)
  (r1:RelDs X.K as H xs vs) (r2:RelDs X.K as H ys us) (v1:Vals vs its) (v2:Vals us its2) (he:∀ (j:Nat) x y,xs[j]?=some x->ys[j]?=some y->eqD n h x y=some (e j)):
  ∀ j (h1:j < its.toArray.size) (h2:j < its2.toArray.size),SeqAt.EqAt A.in1 s its.toArray[j] its2.toArray[j] (e j):=by
 intro j h1 h2
 rw [List.size_toArray] at h1 h2
 have hx:j < xs.length:=by rw [r1.length,v1.length]; exact h1
 have hy:j < ys.length:=by rw [r2.length,v2.length]; exact h2
 obtain⟨v,hv,rv⟩:=Pd.get r1 (List.getElem?_eq_getElem hx)
 obtain⟨u,hu,ru⟩:=Pd.get r2 (List.getElem?_eq_getElem hy)
 obtain⟨vv,hvv,rvv⟩:=v1.get hv
 obtain⟨uu,huu,ruu⟩:=v2.get hu
 have e1:its.toArray[j]=vv:=by
  rw [List.getElem?_eq_getElem h1] at hvv
  exact Option.some.inj hvv
 have e2:its2.toArray[j]=uu:=by
  rw [List.getElem?_eq_getElem h2] at huu
  exact Option.some.inj huu
 rw [e1,e2]
 exact eqAt_D I rh n A.in1 _ _ v u vv uu (e j) (by show A.units+1+n < cLine; lia) (he j _ _ (List.getElem?_eq_getElem hx) (List.getElem?_eq_getElem hy)) rv ru rvv ruu
theorem eqD_scal {n:Nat}{h:Hh}{x y:D}{b:Bool}{K:PySem.W.Frag}{as:List Addr}{H:Hp}{v u:V} (q:eqD (n+1) h x y=some b) (rx:RelD K as H x v) (ry:RelD K as H y u):
  (scal v u=true/\decide (v=u)=b)\/(∃ xs ys,x=.tup xs/\y=.tup ys)\/(∃ i j,x=.lst i/\y=.lst j):=by
 cases rx with
 | non=>
  cases ry with
  | non=>cases q; exact .inl ⟨rfl,rfl⟩
  | int i=>cases q; exact .inl ⟨rfl,rfl⟩
  | str z=>cases q; exact .inl ⟨rfl,rfl⟩
  | _=>cases q
 | bl c=>
  cases ry with
  | bl d=>cases q; exact .inl ⟨rfl,dec_bl⟩
  | _=>cases q
 | int c=>
  cases ry with
  | non=>cases q; exact .inl ⟨rfl,rfl⟩
  | int d=>cases q; exact .inl ⟨rfl,dec_int⟩
  | str d=>cases q; exact .inl ⟨rfl,rfl⟩
  | _=>cases q
 | str c=>
  cases ry with
  | non=>cases q; exact .inl ⟨rfl,rfl⟩
  | int d=>cases q; exact .inl ⟨rfl,rfl⟩
  | str d=>cases q; exact .inl ⟨rfl,dec_str⟩
  | _=>cases q
 | tup' _ _ _=>
  cases ry with
  | tup' _ _ _=>exact .inr (.inl ⟨_,_,rfl,rfl⟩)
  | _=>cases q
 | lst _=>
  cases ry with
  | lst _=>exact .inr (.inr ⟨_,_,rfl,rfl⟩)
  | _=>cases q
 | ro _=>cases y<;>cases q
theorem op_eqD {X:Cx}{n:Nat} (hu:X.A.units+(n+1) < cLine):OpR X (compareOp .Eq) (rEqD X.K (n+1) false):=by
 intro pins s σ H v u vv uu Q I rv ru q
 obtain⟨as,h,x,y,b,rh,rx,ry,hb,q⟩:=q
 have hA:X.A.units < cLine:=by lia
 rcases eqD_scal hb rx ry with⟨h1,h2⟩ | ⟨xs,ys,rfl,rfl⟩ | ⟨i,j,rfl,rfl⟩
 ·exact op_eq pins s σ H v u vv uu Q I rv ru ⟨h1,by rw [h2]; exact q⟩
 ·obtain⟨a,vs,rfl,ha,r1⟩:=rx.tup_inv
  obtain⟨c,us,rfl,hc,r2⟩:=ry.tup_inv
  cases rv
  cases ru
  obtain⟨its,v1,p1,_⟩:=I.tuple (SqT.of ha)
  obtain⟨its2,v2,p2,_⟩:=I.tuple (SqT.of hc)
  obtain⟨e,he,hb'⟩:=eqL_spec (show eqL (eqD n h) xs ys=some b from hb)
  refine SeqAt.eq_tupleAt (e:=e) p1 p2 hA (eq_parts I rh hu r1 r2 v1 v2 he) ?_
  rw [List.size_toArray,List.size_toArray,<-v1.length,<-v2.length,<-r1.length,<-r2.length,<-hb']
  exact⟨.bl b,H,I,rfl,q⟩
 ·cases rx with
  | @lst _ a ha=>
   cases ry with
   | @lst _ c hc=>
    cases rv
    cases ru
    have hb:eqI (eqD n h) (itemsAt h i) (itemsAt h j)=some b:=hb
    cases e1:itemsAt h i with
    | none=>rw [e1] at hb; cases hb
    | some xs=>
     cases e2:itemsAt h j with
     | none=>rw [e1,e2] at hb; cases hb
     | some ys=>
      rw [e1,e2] at hb
      obtain⟨vs,hv,r1⟩:=rh.obj i a _ ha (of_itemsAt e1)
      obtain⟨us,hu',r2⟩:=rh.obj j c _ hc (of_itemsAt e2)
      obtain⟨its,v1,p1,_⟩:=I.list (SqL.of hv)
      obtain⟨its2,v2,p2,_⟩:=I.list (SqL.of hu')
      obtain⟨e,he,hb'⟩:=eqL_spec (show eqL (eqD n h) xs ys=some b from hb)
      have l1:its.toArray.size=xs.length:=by rw [List.size_toArray,r1.length,v1.length]
      have l2:its2.toArray.size=ys.length:=by rw [List.size_toArray,r2.length,v2.length]
      by_cases hl:xs.length=ys.length
      ·refine SeqAt.eq_listAt (e:=e) p1.isList p2.isList (by rw [l1,l2,hl]) hA (eq_parts I rh hu r1 r2 v1 v2 he) ?_
       have:(List.range its.toArray.size).all e=b:=by rw [hb',l1,hl,Nat.min_self,beq_self_eq_true,Bool.and_true]
       rw [this]
       exact⟨.bl b,H,I,rfl,q⟩
      ·refine SeqAt.eq_list_lengthsAt p1.isList p2.isList (by rw [l1,l2]; simpa using hl) hA ?_
       have:b=false:=by rw [hb',show (xs.length==ys.length)=false by simpa using hl,Bool.and_false]
       subst this
       exact⟨.bl false,H,I,rfl,q⟩
theorem op_neD {X:Cx}{n:Nat} (hu:X.A.units+(n+1) < cLine):OpR X (compareOp .NotEq) (rEqD X.K (n+1) true):=by
 intro pins s σ H v u vv uu Q I rv ru q
 obtain⟨as,h,x,y,b,rh,rx,ry,hb,q⟩:=q
 have hA:X.A.units < cLine:=by lia
 rcases eqD_scal hb rx ry with⟨h1,h2⟩ | ⟨xs,ys,rfl,rfl⟩ | ⟨i,j,rfl,rfl⟩
 ·exact op_ne pins s σ H v u vv uu Q I rv ru ⟨h1,by rw [h2]; exact q⟩
 ·obtain⟨a,vs,rfl,ha,r1⟩:=rx.tup_inv
  obtain⟨c,us,rfl,hc,r2⟩:=ry.tup_inv
  cases rv
  cases ru
  obtain⟨its,v1,p1,_⟩:=I.tuple (SqT.of ha)
  obtain⟨its2,v2,p2,_⟩:=I.tuple (SqT.of hc)
  obtain⟨e,he,hb'⟩:=eqL_spec (show eqL (eqD n h) xs ys=some b from hb)
  refine SeqAt.RcNeAt.tuples (e:=e) p1 p2 hA (eq_parts I rh hu r1 r2 v1 v2 he) _ _ _ _ ?_
  rw [List.size_toArray,List.size_toArray,<-v1.length,<-v2.length,<-r1.length,<-r2.length,<-hb']
  exact⟨.bl (!b),H,I,rfl,q⟩
 ·cases rx with
  | @lst _ a ha=>
   cases ry with
   | @lst _ c hc=>
    cases rv
    cases ru
    have hb:eqI (eqD n h) (itemsAt h i) (itemsAt h j)=some b:=hb
    cases e1:itemsAt h i with
    | none=>rw [e1] at hb; cases hb
    | some xs=>
     cases e2:itemsAt h j with
     | none=>rw [e1,e2] at hb; cases hb
     | some ys=>
      rw [e1,e2] at hb
      obtain⟨vs,hv,r1⟩:=rh.obj i a _ ha (of_itemsAt e1)
      obtain⟨us,hu',r2⟩:=rh.obj j c _ hc (of_itemsAt e2)
      obtain⟨its,v1,p1,_⟩:=I.list (SqL.of hv)
      obtain⟨its2,v2,p2,_⟩:=I.list (SqL.of hu')
      obtain⟨e,he,hb'⟩:=eqL_spec (show eqL (eqD n h) xs ys=some b from hb)
      have l1:its.toArray.size=xs.length:=by rw [List.size_toArray,r1.length,v1.length]
      have l2:its2.toArray.size=ys.length:=by rw [List.size_toArray,r2.length,v2.length]
      by_cases hl:xs.length=ys.length
      ·refine SeqAt.RcNeAt.lists (e:=e) p1.isList p2.isList (by rw [l1,l2,hl]) hA (eq_parts I rh hu r1 r2 v1 v2 he) _ _ _ _ ?_
       have:(List.range its.toArray.size).all e=b:=by rw [hb',l1,hl,Nat.min_self,beq_self_eq_true,Bool.and_true]
       rw [this]
       exact⟨.bl (!b),H,I,rfl,q⟩
      ·refine SeqAt.RcNeAt.lists_lengths p1.isList p2.isList (by rw [l1,l2]; simpa using hl) hA _ _ _ _ ?_
       have:b=false:=by rw [hb',show (xs.length==ys.length)=false by simpa using hl,Bool.and_false]
       subst this
       exact⟨.bl true,H,I,rfl,q⟩
noncomputable def oEq:O2:=fun x y h=>(eqD 24 h x y).map fun b=>(.bl b,h)
noncomputable def oNe:O2:=fun x y h=>(eqD 24 h x y).map fun b=>(.bl (!b),h)
@[simp] theorem oEq_int (i j:Int) (h:Hh):oEq (.int i) (.int j) h=some (.bl (i==j),h):=rfl
@[simp] theorem oNe_int (i j:Int) (h:Hh):oNe (.int i) (.int j) h=some (.bl (!(i==j)),h):=rfl
@[simp] theorem oEq_str (i j:Str) (h:Hh):oEq (.str i) (.str j) h=some (.bl (i==j),h):=rfl
@[simp] theorem oNe_bl (i j:Bool) (h:Hh):oNe (.bl i) (.bl j) h=some (.bl (!(i==j)),h):=rfl
@[simp] theorem oEq_bl (i j:Bool) (h:Hh):oEq (.bl i) (.bl j) h=some (.bl (i==j),h):=rfl
theorem im_eq {K:PySem.W.Frag}:Im2 K (rEqD K 24 false) oEq:=by
 intro as H h x y v u Q rh rx ry p
 unfold oEq at p
 cases e:eqD 24 h x y with
 | none=>rw [e] at p; exact p.elim
 | some b=>
  rw [e] at p
  exact⟨as,h,x,y,b,rh,rx,ry,e,p as H _ (Ext.refl _ _) rh (.bl b)⟩
theorem im_ne {K:PySem.W.Frag}:Im2 K (rEqD K 24 true) oNe:=by
 intro as H h x y v u Q rh rx ry p
 unfold oNe at p
 cases e:eqD 24 h x y with
 | none=>rw [e] at p; exact p.elim
 | some b=>
  rw [e] at p
  exact⟨as,h,x,y,b,rh,rx,ry,e,p as H _ (Ext.refl _ _) rh (.bl (!b))⟩
section
variable {X:Cx}{a b:Expr}{f g:FE}{pos:Pos}{k:Nat}
theorem room24 (hr:Room k X.A):X.A.units+(23+1) < cLine:=by
 have:=hr.un
 lia
theorem de_eq (hr:Room k X.A) (ha:DE X a f) (hb:DE X b g):DE X (.Compare a [.Eq] [b] pos) (f2 oEq f g):=de_cmp (op_eqD (room24 hr)) im_eq (nomark _) ha hb
theorem dt_eq (hr:Room k X.A) (ha:DE X a f) (hb:DE X b g):DT X (.Compare a [.Eq] [b] pos) (fB (f2 oEq f g)):=dt_cmp (op_eqD (room24 hr)) im_eq (nomark _) ha hb
theorem dt_ne (hr:Room k X.A) (ha:DE X a f) (hb:DE X b g):DT X (.Compare a [.NotEq] [b] pos) (fB (f2 oNe f g)):=dt_cmp (op_neD (room24 hr)) im_ne (nomark _) ha hb
end
theorem bt_int:bootBuiltins "int"=some (.type "int"):=by decide +kernel
theorem bt_bool:bootBuiltins "bool"=some (.type "bool"):=by decide +kernel
theorem bt_str:bootBuiltins "str"=some (.type "str"):=by decide +kernel
theorem bt_tuple:bootBuiltins "tuple"=some (.type "tuple"):=by decide +kernel
theorem bt_list:bootBuiltins "list"=some (.type "list"):=by decide +kernel
structure Bu (mg:Str->Option Value):Prop where
 len:mg "len"=none
 sum:mg "sum"=none
 min:mg "min"=none
 max:mg "max"=none
 range:mg "range"=none
 tuple:mg "tuple"=none
 list:mg "list"=none
 int:mg "int"=none
 str:mg "str"=none
 bool:mg "bool"=none
 isinstance:mg "isinstance"=none
noncomputable def Cal (P:Program) (w:World) (K:PySem.W.Frag) (mg:Str->Option Value) (base:Heap) (k:Nat) (x:Str) (ps:List Str) (g:OC):Prop:=
 ∃ f fd,FnOk P w K mg base CX0 k f fd ps (spD K ps.length g)/\mg x=some (.ref f)/\PySem.W.keepIn K (.ref f)=true/\Binds K fd ps []
theorem Cal.mono {P:Program}{w:World}{K:PySem.W.Frag}{mg:Str->Option Value}{base:Heap}{k k':Nat}{x:Str}{ps:List Str}{g:OC} (c:Cal P w K mg base k x ps g) (h:k<=k'):Cal P w K mg base k' x ps g:=by
 obtain⟨f,fd,G,r⟩:=c
 exact⟨f,fd,G.mono h,r⟩
theorem Cal.pure {P:Program}{w:World}{K:PySem.W.Frag}{mg:Str->Option Value}{base:Heap}{k:Nat}{x:Str}{ps:List Str}{g:OC}{m:List D->Option D} (c:Cal P w K mg base k x ps g) (hm:∀ ds h d,m ds=some d->∃ junk,g ds h=some (d,h++junk)) (hb:∀ ds d,m ds=some d->HB 0 d):Cal P w K mg base k x ps (pureF m):=by
 obtain⟨f,fd,G,r⟩:=c
 exact⟨f,fd,fn_pure G hm hb,r⟩
theorem de_cal {X:Cx}{k:Nat}{ps:List Str}{x:Str}{p pos:Pos}{e:Expr}{es:List Expr}{fs:List FE}{g:OC} (c:Cal X.prog X.w X.K X.mg X.base k x ps g) (hr:Room k X.A) (ha:DA X (e::es) (fAll fs)) (hg:Gl X x:=by rfl) (hl:fs.length=ps.length:=by rfl)
  (hdb:(x==("__debug__":Str))=false:=by decide) (he:starEach (e::es) X.env=(false,eval e X.env)::starEach es X.env:=by rfl) (hpl:(backTo pos (starEach es X.env)).any (·.1)=false:=by rfl):
  DE X (.Call (.Name x p) (e::es) [] pos) (fc g (fAll fs)):=by
 obtain⟨f,fd,G,hm,hk,hb⟩:=c
 exact de_call G hr hm hk hb ha hg hl hdb he hpl
theorem cal_mk {P:Program}{w:World}{K:PySem.W.Frag}{mg:Str->Option Value}{base:Heap}{x qual:Str}{st:Stmt}{f:Addr}{fd:FuncData}{N ps:List Str}{k:Nat}{t:FS} (F:Fun K x qual st f fd) (S:FnScope N ps (defScope st)) (hm:mg x=some (.ref f)) (b:Binds K fd ps [])
  (hb:∀ (cdv:Value) (A:Around) (outer:List Env) (s:Shared) (H:Hp) (E:XK),Room k (A.deeper (envOfC qual (defScope st) s.heap.objs.size f cdv))->
   DSs (cxOf CX0 P w K mg base N qual (defScope st) f cdv A outer s H E).nox (defBody st) t):Cal P w K mg base (k+1) x ps (fnRun N.length t):=⟨f,fd,fn_D F S hb,hm,F.kp,b⟩
theorem fSeq_nx {s t:FS}{e e1:En}{h h1:Hh} (q:s e h=.nx e1 h1):fSeq s t e h=t e1 h1:=by unfold fSeq; rw [q]
theorem fSeq_rt {s t:FS}{e:En}{h h1:Hh}{d:D} (q:s e h=.rt d h1):fSeq s t e h=.rt d h1:=by unfold fSeq; rw [q]
theorem fSet_ok {i:Nat}{f:FE}{e:En}{h h1:Hh}{d:D} (q:f e h=.ok d h1):fSet i f e h=.nx (e.set i (some d)) h1:=by unfold fSet; rw [q]; rfl
theorem fRet_ok {f:FE}{e:En}{h h1:Hh}{d:D} (q:f e h=.ok d h1):fRet f e h=.rt d h1:=by unfold fRet; rw [q]; rfl
theorem fDrop_ok {f:FE}{e:En}{h h1:Hh}{d:D} (q:f e h=.ok d h1):fDrop f e h=.nx e h1:=by unfold fDrop; rw [q]; rfl
theorem fIfS_t {c:FT}{s t:FS}{e:En}{h h1:Hh} (q:c e h=.ok true h1):fIfS c s t e h=s e h1:=by unfold fIfS; rw [q]; rfl
theorem fIfS_f {c:FT}{s t:FS}{e:En}{h h1:Hh} (q:c e h=.ok false h1):fIfS c s t e h=t e h1:=by unfold fIfS; rw [q]; rfl
theorem f2_ok {r:O2}{f g:FE}{e:En}{h h1 h2:Hh}{x y:D} (q:f e h=.ok x h1) (q2:g e h1=.ok y h2):f2 r f g e h=Res.ofO (r x y h2):=by
 unfold f2; rw [q,Res.bind_ok,q2,Res.bind_ok]
theorem fc_ok {r:OC}{f:FA}{e:En}{h h1:Hh}{ds:List D} (q:f e h=.ok ds h1):fc r f e h=Res.ofO (r ds h1):=by unfold fc; rw [q]; rfl
theorem fAll_cons {f:FE}{fs:List FE}{e:En}{h h1 h2:Hh}{d:D}{ds:List D} (q:f e h=.ok d h1) (q2:fAll fs e h1=.ok ds h2):fAll (f::fs) e h=.ok (d::ds) h2:=by
 unfold fAll; rw [q,Res.bind_ok,q2,Res.bind_ok]
theorem fB_ok {f:FE}{e:En}{h h1:Hh}{b:Bool} (q:f e h=.ok (.bl b) h1):fB f e h=.ok b h1:=by unfold fB; rw [q]; rfl
theorem fFor_ok {i:Nat}{fi:FI}{t:FS}{e:En}{h h1:Hh}{it:Itm} (q:fi e h=.ok it h1):fFor i fi t e h=forG it.chk i t it.items e h1:=by unfold fFor; rw [q]; rfl
theorem fC_ok (d:D) (e:En) (h:Hh):fC d e h=.ok d h:=rfl
theorem fV_ok {i:Nat}{e:En}{d:D} (q:e[i]?=some (some d)) (h:Hh):fV i e h=.ok d h:=by unfold fV; rw [q]; rfl
theorem forG_ex {chk:Hh->Prop}{i:Nat}{t:FS} (P:Nat->En->Hh->Prop):∀ (items:List D) (k:Nat) (e:En) (h:Hh),P k e h->(∀ k e h,P k e h->chk h)->
  (∀ (j:Nat) d e h,items[j]?=some d->P (k+j) e h->∃ e' h',t (e.set i (some d)) h=.nx e' h'/\P (k+j+1) e' h')->∃ e' h',forG chk i t items e h=.nx e' h'/\P (k+items.length) e' h'
 | [],k,e,h,p,hc,_=>⟨e,h,by unfold forG; rw [if_pos (hc k e h p)],p⟩
 | d::r,k,e,h,p,hc,ht=>by
  obtain⟨e1,h1,q1,p1⟩:=ht 0 d e h (by simp) p
  obtain⟨e2,h2,q2,p2⟩:=forG_ex P r (k+1) e1 h1 p1 hc fun j d' e' h' hj p'=>by
   obtain⟨e3,h3,q3,p3⟩:=ht (j+1) d' e' h' (by simpa using hj) (by rw [show k+(j+1)=k+1+j by lia]; exact p')
   exact⟨e3,h3,q3,by rw [show k+1+j+1=k+(j+1)+1 by lia]; exact p3⟩
  refine⟨e2,h2,?_,by rw [List.length_cons,show k+(r.length+1)=k+1+r.length by lia]; exact p2⟩
  unfold forG
  rw [if_pos (hc k e h p),q1]
  exact q2
theorem forG_run {chk:Hh->Prop}{i:Nat}{t:FS} (P:Nat->En->Hh->Prop) (items:List D) (e:En) (h:Hh) (p:P 0 e h) (hc:∀ k e h,P k e h->chk h)
  (ht:∀ (j:Nat) d e h,items[j]?=some d->P j e h->∃ e' h',t (e.set i (some d)) h=.nx e' h'/\P (j+1) e' h'):∃ e' h',forG chk i t items e h=.nx e' h'/\P items.length e' h':=by
 obtain⟨e',h',q,p'⟩:=forG_ex P items 0 e h p hc fun j d e h hj p=>by
  obtain⟨e',h',q,p'⟩:=ht j d e h hj (by rw [Nat.zero_add] at p; exact p)
  exact⟨e',h',q,by rw [Nat.zero_add]; exact p'⟩
 exact⟨e',h',q,by rw [Nat.zero_add] at p'; exact p'⟩
theorem fWhile_ex {c:FT}{t:FS} (P:En->Hh->Prop) (R:En->Hh->Prop) (μ:En->Hh->Nat)
  (hs:∀ e h,P e h->(∃ h1,c e h=.ok false h1/\R e h1)\/∃ h1 e2 h2,c e h=.ok true h1/\t e h1=.nx e2 h2/\P e2 h2/\μ e2 h2 < μ e h):
  ∀ (n:Nat) (e:En) (h:Hh),P e h->μ e h < n->∃ e' h',fWhile c t n e h=.nx e' h'/\R e' h'
 | 0,_,_,_,q=>absurd q (Nat.not_lt_zero _)
 | n+1,e,h,p,q=>by
  rcases hs e h p with⟨h1,q1,r⟩ | ⟨h1,e2,h2,q1,q2,p2,lt⟩
  ·exact⟨e,h1,by unfold fWhile; rw [q1]; rfl,r⟩
  ·obtain⟨e',h',q3,r⟩:=fWhile_ex P R μ hs n e2 h2 p2 (by lia)
   refine⟨e',h',?_,r⟩
   unfold fWhile
   rw [q1,Res.out_ok,if_pos rfl,q2]
   exact q3
theorem fnRun_rt {n:Nat}{t:FS}{ds:List D}{h h1:Hh}{d:D} (q:t (startE n ds) h=.rt d h1):fnRun n t ds h=some (d,h1):=by unfold fnRun; rw [q]; rfl
theorem atI_pos {α:Type}{xs:List α}{i:Int} (h0:0<=i):atI xs i=xs[i.toNat]?:=by
 unfold atI ixN
 rw [if_pos h0]
 split
 ·rfl
 ·rename_i h
  rw [List.getElem?_eq_none (by lia)]
  rfl
@[simp] theorem atI_nat' {α:Type} (xs:List α) (j:Nat):atI xs (j:Int)=xs[j]?:=by
 rw [atI_pos (Int.natCast_nonneg j)]
 rfl
theorem sp_law {K:PySem.W.Frag}{g:OC} (hg:∀ ns:List Int,ns.length<=63->∃ h',g [.ro ns] []=some (.bl true,h')) {H:Hp}{a:Addr}{ns:List Int}{E:XK} (hl:ns.length<=63) (hO:Only H) (hS:SqL K H a (ns.map V.int)):
  spD K 1 g [.ref a] H (fun v _=>v=.bl true) E:=by
 obtain⟨h',e⟩:=hg ns hl
 refine⟨rfl,[],[.ro ns],[],⟨rfl,.nil,fun n a o q=>by simp at q⟩,.cons (.ro ?_) .nil,?_⟩
 ·rcases hS with (q | q) | q
  ·rcases hO a with z | ⟨o,xs,z⟩
   ·rw [z] at q; cases q
   ·rw [z] at q; cases q
  ·exact .inl q
  ·exact .inr q
 ·rw [e]
  intro as' H' v _ _ r
  cases r
  rfl
theorem compLoop_go {prog:Program}{w:World}{A:Around}{R:Result->Shared->Prop}{elt target iter:Expr}{ifs:List Expr}{scope:Scope}{pos:Pos}{it acc:Value}{env:Env}{s:Shared} (I:Nat->Shared->Prop)
  (turn:∀ n s,I n s->wpAny (model prog w) A (pyNext it) (fun r s₁=>match r with
   | none=>R (.ok .next) s₁
   | some v=>wpAny (model prog w) A (letOwnedTupleGo target it v) (fun _ s'=>wpAny (model prog w) A (assign target env v) (fun _ s₂=>
     wpAny (model prog w) A (forIn ifs true fun c r=>if r=true then do let ok <-isTrue c env (eval c env); pure (ForInStep.yield ok) else pure (ForInStep.yield r)) (fun ok s₃=>
      if ok=true then wpAny (model prog w) A (eval elt env) (fun x s₄=>
       wpAny (model prog w) A (call (.builtin "list.append") [acc,x]) (fun _ s₅=>∃ m,m < n/\I m s₅) (notedBy (model prog w) A env fun e s'=>R (.error e) s') s₄) (notedBy (model prog w) A env fun e s'=>R (.error e) s') s₃
      else ∃ m,m < n/\I m s₃) (notedBy (model prog w) A env fun e s'=>R (.error e) s') s₂) (notedBy (model prog w) A env fun e s'=>R (.error e) s') s') (notedBy (model prog w) A env fun e s'=>R (.error e) s') s₁) (notedBy (model prog w) A env fun e s'=>R (.error e) s') s)
  (n:Nat) (h:I n s):codeAny (model prog w) A (.compLoop (.ListComp elt [⟨target,iter,ifs,0⟩] scope pos) 0 it acc env) R s:=by
 refine codeAny_loop rfl I (fun n s hI=>?_) n h
 show wpAny _ A ((compTurn (.ListComp elt [⟨target,iter,ifs,0⟩] scope pos) 0 it acc env).onRaise (fun x=>do noteFrame x env; theTreesLotGoes x)) _ _ s
 refine wpAny_noted ?_
 rw [compTurn_list]
 refine wpAny_bind (wpAny_standAt (wpAny_bind (wpAny_mono (turn n s hI) (fun r s₁ h₁=>?_) fun _ _ h'=>h')))
 cases r with
 | none=>exact wpAny_pure h₁
 | some v=>
  refine wpAny_bind (wpAny_mono h₁ (fun _ s' hs'=>?_) fun _ _ h'=>h')
  refine wpAny_bind (wpAny_mono hs' (fun _ s₂ h₂=>wpAny_bind (wpAny_mono h₂ (fun ok s₃ h₃=>?_) fun _ _ h'=>h')) fun _ _ h'=>h')
  cases ok with
  | false=>exact wpAny_pure ⟨rfl,h₃⟩
  | true=>
   exact wpAny_bind (wpAny_bind (wpAny_mono h₃ (fun x s₄ h₄=>wpAny_bind (wpAny_mono h₄ (fun _ s₅ h₅=>wpAny_pure (wpAny_pure ⟨rfl,h₅⟩)) fun _ _ h'=>h')) fun _ _ h'=>h'))
noncomputable def clFold (cells:List (Str×Addr)):List (Str×NameKind)->List (Str×Addr)->Option (List (Str×Addr))
 | [],acc=>some acc
 | (n,k)::r,acc=>if k==.free then (match cells.lookup n with
  | some c=>clFold cells r ((n,c)::acc)
  | none=>none) else clFold cells r acc
theorem clFold_closure {scope:Scope}{env:Env}{cl:List (Str×Addr)} (h:clFold env.cells scope.names []=some cl):closureFor scope env=pure cl:=by
 simp only [closureFor]
 generalize scope.names=names at h
 generalize ([]:List (Str×Addr))=acc at h
 induction names generalizing acc with
 | nil=>cases h; rfl
 | cons x r ih=>
  obtain⟨n,k⟩:=x
  unfold clFold at h
  rw [List.forIn_cons]
  by_cases hk:(k==NameKind.free)=true
  ·rw [if_pos hk] at h
   cases hc:env.cells.lookup n with
   | none=>rw [hc] at h; cases h
   | some c=>
    rw [hc] at h
    have:=ih _ h
    simp only [hk,if_true,cellOf,hc]
    exact this
  ·rw [if_neg hk] at h
   have:=ih _ h
   simp only [hk,Bool.false_eq_true,if_false]
   exact this
theorem clFold_sub {cells:List (Str×Addr)}:∀ {names:List (Str×NameKind)}{acc cl:List (Str×Addr)},clFold cells names acc=some cl->(∀ p∈acc,cells.lookup p.1=some p.2)->∀ p∈cl,cells.lookup p.1=some p.2
 | [],_,_,h,ha=>by cases h; exact ha
 | (n,k)::r,acc,cl,h,ha=>by
  unfold clFold at h
  by_cases hk:(k==NameKind.free)=true
  ·rw [if_pos hk] at h
   cases hc:cells.lookup n with
   | none=>rw [hc] at h; cases h
   | some c=>
    rw [hc] at h
    refine clFold_sub h fun p hp=>?_
    rcases List.mem_cons.mp hp with rfl | hp
    ·exact hc
    ·exact ha p hp
  ·rw [if_neg hk] at h
   exact clFold_sub h ha
theorem clFold_acc {cells:List (Str×Addr)}:∀ {names:List (Str×NameKind)}{acc cl:List (Str×Addr)},clFold cells names acc=some cl->∀ p∈acc,p∈cl
 | [],_,_,h=>by cases h; exact fun _ h=>h
 | (n,k)::r,acc,cl,h=>by
  unfold clFold at h
  by_cases hk:(k==NameKind.free)=true
  ·rw [if_pos hk] at h
   cases hc:cells.lookup n with
   | none=>rw [hc] at h; cases h
   | some c=>
    rw [hc] at h
    exact fun p hp=>clFold_acc h p (List.mem_cons_of_mem _ hp)
  ·rw [if_neg hk] at h
   exact clFold_acc h
theorem clFold_has {cells:List (Str×Addr)}:∀ {names:List (Str×NameKind)}{acc cl:List (Str×Addr)},clFold cells names acc=some cl->∀ n,(n,NameKind.free)∈names->∃ c,(n,c)∈cl
 | [],_,_,_,n,hn=>nomatch hn
 | (m,k)::r,acc,cl,h,n,hn=>by
  unfold clFold at h
  by_cases hk:(k==NameKind.free)=true
  ·rw [if_pos hk] at h
   cases hc:cells.lookup m with
   | none=>rw [hc] at h; cases h
   | some c=>
    rw [hc] at h
    rcases List.mem_cons.mp hn with e | hn
    ·cases e
     exact⟨c,clFold_acc h _ List.mem_cons_self⟩
    ·exact clFold_has h n hn
  ·rw [if_neg hk] at h
   rcases List.mem_cons.mp hn with e | hn
   ·cases e
    exact absurd rfl hk
   ·exact clFold_has h n hn
theorem mem_of_lookup {β:Type}{n:Str}{c:β}:∀ {l:List (Str×β)},l.lookup n=some c->(n,c)∈l
 | [],h=>by simp at h
 | (m,d)::r,h=>by
  rw [List.lookup_cons] at h
  split at h
  ·rename_i e
   cases h
   rw [eq_of_beq e]
   exact List.mem_cons_self
  ·exact List.mem_cons_of_mem _ (mem_of_lookup h)
theorem lookup_of_mem {n:Str}{β:Type}:∀ {l:List (Str×β)}{c:β},(n,c)∈l->∃ d,l.lookup n=some d
 | [],_,h=>nomatch h
 | (m,d)::r,c,h=>by
  rw [List.lookup_cons]
  split
  ·exact⟨d,rfl⟩
  ·rename_i e
   rcases List.mem_cons.mp h with z | z
   ·cases z
    simp at e
   ·exact lookup_of_mem z
theorem relabel_kind {env:Env}:∀ {names:List (Str×NameKind)}{x:Str},(∀ y∈names,y.2≠.cell)->
  ((names.map fun (n,k)=>if (k==NameKind.free&&env.scope.kind==.function&&env.kindOf n==some .cell) then (n,NameKind.cell) else (n,k)).lookup x=some .cell\/
  (names.map fun (n,k)=>if (k==NameKind.free&&env.scope.kind==.function&&env.kindOf n==some .cell) then (n,NameKind.cell) else (n,k)).lookup x=some .free)->(x,NameKind.free)∈names:=by
 intro names x hc h
 have key:∀ k',k'=NameKind.cell\/k'=NameKind.free->(names.map fun (n,k)=>if (k==NameKind.free&&env.scope.kind==.function&&env.kindOf n==some .cell) then (n,NameKind.cell) else (n,k)).lookup x=some k'->(x,NameKind.free)∈names:=by
  intro k' hk' h
  obtain⟨⟨n,k⟩,hq,e⟩:=List.mem_map.mp (mem_of_lookup h)
  dsimp only at e
  by_cases c:(k==NameKind.free&&env.scope.kind==.function&&env.kindOf n==some .cell)=true
  ·rw [if_pos c] at e
   rw [Bool.and_eq_true,Bool.and_eq_true] at c
   have e1:n=x:=(Prod.mk.inj e).1
   have e2:k=.free:=eq_of_beq c.1.1
   rw [<-e1,<-e2]
   exact hq
  ·rw [if_neg c] at e
   have e1:n=x:=(Prod.mk.inj e).1
   have e2:k=k':=(Prod.mk.inj e).2
   rcases hk' with rfl | rfl
   ·exact absurd e2 (hc _ hq)
   ·rw [<-e1,<-e2]
    exact hq
 rcases h with h | h
 ·exact key _ (.inl rfl) h
 ·exact key _ (.inr rfl) h
noncomputable def cxComp (X:Cx) (scope:Scope) (cl:List (Str×Addr)) (C:Addr) (N:List Str) (s₀:Shared) (H₀:Hp) (fp:List Addr):Cx where
 prog:=X.prog
 w:=X.w
 K:=X.K
 mg:=X.mg
 base:=X.base
 A:=X.A
 N:=N
 s₀:=s₀
 H₀:=H₀
 env:=compEnvC scope cl C X.env
 outer:=X.stack
 stack:=X.stack
 ex:=fp
 fn:=fun _=>false
 calm:=X.calm
 pn:=[]
 xe:=fun _ _=>False
structure CompOk (X:Cx) (scope:Scope) (x:Str) (fr:List Nat) (frn:List Str) (cl:List (Str×Addr)):Prop where
 cl:clFold X.env.cells scope.names []=some cl
 cell:∀ y∈scope.names,y.2≠.cell
 kind:scope.kind=.function
 names:∀ y∈scope.names,y.2=.local->scope.names.lookup y.1=some .local
 own:scope.names.lookup x=some .local
 nd:(x::frn).Nodup
 len:fr.length=frn.length
 fr:∀ (j i:Nat) n,fr[j]?=some i->frn[j]?=some n->X.N[i]?=some n/\X.env.kindOf n=some .cell
 frk:∀ n∈frn,(relabel scope X.env).names.lookup n=some .cell\/(relabel scope X.env).names.lookup n=some .free
noncomputable def freeSt (fr:List Nat) (σ:St):St:=fr.map fun i=>(σ[i]?).getD none
noncomputable def freeEn (fr:List Nat) (env:En):En:=fr.map fun i=>(env[i]?).getD none
theorem relE_free {K:PySem.W.Frag}{as:List Addr}{H:Hp}{env:En}{σ:St} (r:RelE K as H env σ) (fr:List Nat) (z:Option V):RelE K as H (none::freeEn fr env) (z::freeSt fr σ):=by
 refine⟨by simp [freeEn,freeSt],fun i d e=>?_⟩
 cases i with
 | zero=>simp at e
 | succ i=>
  simp only [List.getElem?_cons_succ,freeEn,List.getElem?_map] at e |-
  obtain⟨j,hj,e1⟩:=Option.map_eq_some_iff.mp e
  cases q:env[j]? with
  | none=>rw [q] at e1; cases e1
  | some o=>
   rw [q] at e1
   have e2:o=some d:=e1
   subst e2
   obtain⟨v,hv,rv⟩:=r.at_ j d q
   refine⟨v,?_,rv⟩
   simp [freeSt,List.getElem?_map,hj,hv]
section
variable {X:Cx}{scope:Scope}{x:Str}{fr:List Nat}{frn:List Str}{cl:List (Str×Addr)}
theorem CompOk.clsub (c:CompOk X scope x fr frn cl) {n:Str}{a:Addr} (h:cl.lookup n=some a):X.env.cells.lookup n=some a:=
 clFold_sub c.cl (fun _ h=>nomatch h) (n,a) (mem_of_lookup h)
theorem CompOk.clhas (c:CompOk X scope x fr frn cl) {n:Str} (h:(relabel scope X.env).names.lookup n=some .cell\/(relabel scope X.env).names.lookup n=some .free):∃ a,cl.lookup n=some a:=by
 obtain⟨a,ha⟩:=clFold_has c.cl n (relabel_kind c.cell h)
 exact lookup_of_mem ha
theorem comp_start {pins:List (Addr×Obj)}{σ:St}{H:Hp}{s₃ s₄:Shared}{C:Addr}{fp:List Addr}{m:Str->Option Value} (c:CompOk X scope x fr frn cl) (hcalm:X.calm=true) (I:Inv X pins σ H s₃) (hC:C=s₃.heap.objs.size)
  (hns:s₄.heap.Ns C m) (keep:∀ b o,s₃.heap.get? b=some o->s₄.heap.get? b=some o) (hos:s₄.os=s₃.os) (hg:s₄.gens=s₃.gens) (hfp:∀ b∈fp,FpOk X pins H b) (hfl:∀ b∈fp,b < s₃.heap.objs.size):
  Inv (cxComp X scope cl C (x::frn) s₃ H fp) [] (none::freeSt fr σ) H s₄:=by
 have hb:∀ b,b < s₃.heap.objs.size->b≠C:=fun b h z=>by rw [z,hC] at h; exact Nat.lt_irrefl _ h
 have fsub:∀ b∈frs X.stack,b∈X.env.locals::X.fs:=I.stkSub
 have ok:(cxComp X scope cl C (x::frn) s₃ H fp).Ok:=by
  refine⟨I.ok.mod,c.kind,I.ok.glob,I.ok.blt,?_,?_,?_,?_,I.ok.hd,I.ok.frames,.inl rfl,?_,I.bs,Nat.le_trans I.ok.bsz I.sz,?_,?_,I.stack,I.stkFree⟩
  ·show s₃.heap.objs.size<=C
   rw [hC]; exact Nat.le_refl _
  ·intro a b z h1 h2
   exact I.ok.inj a b z (c.clsub h1) (c.clsub h2)
  ·intro a h
   exact c.clhas h
  ·intro a b h
   cases h
  ·intro b hbm
   refine⟨hb b (hfl b hbm),fun a z h=>?_⟩
   exact (hfp b hbm).2.2.2.2.1 a z (c.clsub h)
  ·intro b o e hbm
   rcases (hfp b hbm).2.2.2.1 with z | z
   ·exact I.ok.noex b o e z
   ·exact absurd (Nat.lt_of_lt_of_le (Heap.lt_size e) (Nat.le_trans I.ok.bsz z)) (Nat.lt_irrefl _)
  ·intro b hbm z
   rcases List.mem_cons.mp (fsub b z) with e | e
   ·exact (hfp b hbm).2.1 e
   ·exact (hfp b hbm).2.2.1 e
 refine⟨ok,hos,(by rw [hg]; exact I.bare),Un.kept keep,⟨m,hns,?_⟩,?_,?_,?_,(fun p hp=>nomatch hp),I.hok.kept keep,(by simp [cxComp,freeSt,c.len])⟩
 ·intro i n v e1 e2 e3
  cases i with
  | zero=>simp at e2
  | succ j=>
   have e1':frn[j]?=some n:=e1
   have e2':(freeSt fr σ)[j]?=some (some v):=e2
   unfold freeSt at e2'
   rw [List.getElem?_map] at e2'
   obtain⟨i,hi,e4⟩:=Option.map_eq_some_iff.mp e2'
   obtain⟨h1,h2⟩:=c.fr j i n hi e1'
   have e5:σ[i]?=some (some v):=by
    cases q:σ[i]? with
    | none=>rw [q] at e4; cases e4
    | some o=>rw [q] at e4; exact congrArg some e4
   obtain⟨m0,_,hl⟩:=I.loc
   obtain⟨u,ru,lk⟩:=hl i n v h1 e5 (.inr (.inl h2))
   refine⟨u,ru,?_⟩
   rcases lk with⟨k,_⟩ | ⟨_,a,ha,z⟩
   ·rw [h2] at k; cases k
   ·have hk:=c.frk n (List.mem_of_getElem? e1')
    obtain⟨d,hd⟩:=c.clhas hk
    have:=c.clsub hd
    rw [ha] at this
    cases this
    obtain⟨o,ho,hod⟩:=z
    exact .inr ⟨hk,a,hd,o,keep _ _ ho,hod⟩
 ·intro n a h
  obtain⟨v,o,ho,hod⟩:=I.cell n a (c.clsub h)
  exact⟨v,o,keep _ _ ho,hod⟩
 ·show H C=none
  rw [hC]
  exact I.hok.fresh (Nat.le_refl _)
 ·intro n a h
  exact I.freeC n a (c.clsub h)
theorem comp_end {pins:List (Addr×Obj)}{σ σ':St}{H H':Hp}{s₃ s':Shared}{C:Addr}{fp:List Addr} (I:Inv X pins σ H s₃) (hfp:∀ b∈fp,FpOk X pins H b) (Y:Inv (cxComp X scope cl C (x::frn) s₃ H fp) [] σ' H' s'):Inv X pins σ H' s':=
 I.call' (ch:=fp) Y.os Y.base Y.hok Y.bare fun b hb=>⟨(hfp b hb).2.2.2.1,(hfp b hb).2.1,(hfp b hb).2.2.2.2.1,(hfp b hb).2.2.2.2.2⟩
end
open Classical in
noncomputable def compD (chk:Hh->Prop) (n0:Nat) (ft:FT) (fe:FE) (fenv:En):List D->Hh->Option Hh
 | [],h=>if chk h then some h else none
 | d::r,h=>if chk h then (match ft (some d::fenv) h with
  | .ok false h1=>compD chk n0 ft fe fenv r h1
  | .ok true h1=>(match fe (some d::fenv) h1 with
   | .ok d' h2=>(match itemsAt h2 n0 with
    | some ds=>if ds.length < sizeLine then compD chk n0 ft fe fenv r (h2.set n0 (.lst (ds++[d']))) else none
    | none=>none)
   | _=>none)
  | _=>none) else none
noncomputable def CPost (K:PySem.W.Frag) (G:List Addr->Hp->Hh->Prop) (as:List Addr) (H:Hp) (r:Option Hh):Prop:=match r with
 | some hf=>∀ asf Hf,Ext as H asf Hf->RelH K asf Hf hf->G asf Hf hf
 | none=>False
theorem CPost.later {K:PySem.W.Frag}{G:List Addr->Hp->Hh->Prop}{as as1:List Addr}{H H1:Hp}{r:Option Hh} (x:Ext as H as1 H1) (h:CPost K G as H r):CPost K G as1 H1 r:=by
 cases r with
 | none=>exact h
 | some hf=>exact fun asf Hf y=>h asf Hf (x.trans y)
noncomputable def fYes:FT:=fun _ h=>.ok true h
inductive DTs (Y:Cx):List Expr->FT->Prop where
 | nil:DTs Y [] fYes
 | one {c:Expr}{f:FT}:DT Y c f->DTs Y [c] f
theorem DTs.run {Y:Cx}{ifs:List Expr}{ft:FT} (d:DTs Y ifs ft) {pins:List (Addr×Obj)}{s:Shared}{σ:St}{H:Hp}{Q:Bool->Hp->Prop} (I:Inv Y pins σ H s) (q:tT Y ft σ H Q):
  wpAny (model Y.prog Y.w) Y.A (forIn ifs true fun c r=>if r=true then do let ok <-isTrue c Y.env (eval c Y.env); pure (ForInStep.yield ok) else pure (ForInStep.yield r)) (TP Y pins σ Q) Y.xe s:=by
 cases d with
 | nil=>
  obtain⟨as,env,h,re,rh,p⟩:=q
  exact wpAny_tests_nil ⟨H,I,p as H (Ext.refl _ _) rh⟩
 | one hc=>exact wpAny_tests_one (hc pins s σ H Q I q)
theorem PX.ok_of {α:Type}{X:Cx}{as:List Addr}{H:Hp}{env:En}{r:Res α}{R:List Addr->Hp->Hh->α->Prop}{a:α}{h':Hh} (e:r=.ok a h') (f:∀ as' H',Ext as H as' H'->RelH X.K as' H' h'->R as' H' h' a):PX X as H env r R:=by
 subst e
 exact f
theorem comp_core {X:Cx}{elt iter:Expr}{x:Str}{px:Pos}{ifs:List Expr}{scope:Scope}{pos:Pos}{fr:List Nat}{frn:List Str}{cl:List (Str×Addr)}{fi:FI}{ft:FT}{fe:FE}
  (c:CompOk X scope x fr frn cl) (hcalm:X.calm=true) (hi:DI X (.Name x px) iter fi)
  (hin:∀ (C:Addr) (s₀:Shared) (H₀:Hp) (fp:List Addr),DTs (cxComp X scope cl C (x::frn) s₀ H₀ fp) ifs ft/\DE (cxComp X scope cl C (x::frn) s₀ H₀ fp) elt fe)
  {pins:List (Addr×Obj)}{σ:St}{H:Hp}{s:Shared}{as:List Addr}{env:En}{h:Hh}{RR:Value->Addr->Result->Shared->Prop} (I:Inv X pins σ H s) (re:RelE X.K as H env σ) (rh:RelH X.K as H h)
  {G:Addr->List Addr->Hp->Hh->Prop}
  (p:PX X as H env (fi env h) fun as1 H1 h1 it=>∀ acc,H1 acc=none->CPost X.K (G acc) (as1++[acc]) (upd H1 acc (.lst [])) (compD it.chk h1.length ft fe (freeEn fr env) it.items (h1++[.lst []])))
  (hRR:∀ acc C H' s' asf hf,G acc asf H' hf->Inv X pins σ H' s'->(∃ m,s'.heap.Ns C m)->H' C=none->C≠X.env.locals->X.s₀.heap.objs.size<=C->(∀ y z,X.env.cells.lookup y=some z->z≠C)->(∀ q∈X.pn++pins,q.1≠C)->RR (.ref acc) C (.ok .next) s'):
  wpAny (model X.prog X.w) X.A (eval iter X.env) (fun xv s₁=>wpAny (model X.prog X.w) X.A (pyIter xv) (fun it s₂=>wpAny (model X.prog X.w) X.A (newList []) (fun acc s₃=>
   wpAny (model X.prog X.w) X.A (newFunctionEnv scope X.env.globals cl [] X.env.qual none .none (some X.env)) (fun cenv s₄=>
    codeAny (model X.prog X.w) X.A (.compStart (.ListComp elt [⟨.Name x px,iter,ifs,0⟩] scope pos) 0 it acc { cenv with scope:=relabel scope X.env }) (RR acc cenv.locals) s₄) X.xe s₃) X.xe s₂) X.xe s₁) X.xe s:=by
 refine thn (hi pins s σ H (fun J H1=>∃ as1 h1 it Base,Ext as H as1 H1/\RelH X.K as1 H1 h1/\Adm X it J Base/\Base as1 H1/\∀ acc,H1 acc=none->CPost X.K (G acc) (as1++[acc]) (upd H1 acc (.lst [])) (compD it.chk h1.length ft fe (freeEn fr env) it.items (h1++[.lst []]))) I
  ⟨as,env,h,re,rh,p.imp fun as1 H1 h1 it e1 rh1 p1 J Base ad b0=>⟨as1,h1,it,Base,e1,rh1,ad,b0,p1⟩⟩) fun xv s₁ q1=>thn q1 fun itv s₂ q2=>?_
 obtain⟨it,fp,tn,J,H1,rfl,I2,T,st0,hfp,as1,h1,itm,Base,e1,rh1,ad,b0,p1⟩:=q2
 have hfl:∀ b∈fp,b < s₂.heap.objs.size:=fun b hb=>by
  obtain⟨o,ho,_⟩:=T.obj 0 _ st0 b hb
  exact Heap.lt_size ho
 refine wpAny_newObj_type (wpAny_newFunctionEnv c.cell (by intro y hy; simp at hy) (fun h₁ hns₁ hsb₁=>?_) c.kind)
 dsimp only at hns₁ hsb₁ |-
 have I3:Inv X pins σ (upd H1 s₂.heap.objs.size (.lst [])) { s₂ with heap:=s₂.heap.push { cls:=.type "list",data:=.seq ([]:List Value).toArray },toks:=s₂.toks }:=I2.lnew (its:=[]) .nil (Nat.zero_le _)
 have hacc0:H1 s₂.heap.objs.size=none:=I2.hok.fresh (Nat.le_refl _)
 have pc:=p1 s₂.heap.objs.size hacc0
 generalize hA:s₂.heap.objs.size=acc at I3 hacc0 pc hfl hns₁ hsb₁ |-
 have hC0:(s₂.heap.push { cls:=.type "list",data:=.seq ([]:List Value).toArray }).objs.size=acc+1:=by rw [Heap.size_push,hA]
 generalize hH2:s₂.heap.push { cls:=.type "list",data:=.seq ([]:List Value).toArray }=H2 at I3 hns₁ hsb₁ hC0 |-
 have hold:∀ b o,H2.get? b=some o->h₁.get? b=some o:=fun b o e=>(hsb₁.2 b (Nat.ne_of_lt (Heap.lt_size e))).trans (Heap.get?_push_of_some _ e)
 have hne:∀ b∈fp,b≠acc:=fun b hb z=>by have:=hfl b hb; rw [z] at this; exact Nat.lt_irrefl _ this
 have hfp3:∀ b∈fp,FpOk X pins (upd H1 acc (.lst [])) b:=fun b hb=>⟨by rw [upd_ne (hne b hb)]; exact (hfp b hb).1,(hfp b hb).2⟩
 have hfl3:∀ b∈fp,b < H2.objs.size:=fun b hb=>by rw [hC0]; exact Nat.lt_succ_of_lt (hfl b hb)
 have IY0:=comp_start (s₃:={ s₂ with heap:=H2,toks:=s₂.toks }) (s₄:={ s₂ with heap:=h₁,toks:=s₂.toks+([]:List (Str×Value)).length }) (C:=H2.objs.size) (fp:=fp) c hcalm I3 rfl hns₁ hold rfl rfl hfp3 hfl3
 obtain⟨hts,hel⟩:=hin H2.objs.size { s₂ with heap:=H2,toks:=s₂.toks } (upd H1 acc (.lst [])) fp
 have hCL:H2.objs.size≠X.env.locals:=(Nat.ne_of_gt I3.lt)
 have hCs:X.s₀.heap.objs.size<=H2.objs.size:=I3.sz
 have hCc:∀ y z,X.env.cells.lookup y=some z->z≠H2.objs.size:=fun y z e w=>by
  obtain⟨v,o,ho,_⟩:=I3.cell y z e
  have:=Heap.lt_size ho
  rw [w] at this
  exact Nat.lt_irrefl _ this
 have hCp:∀ q∈X.pn++pins,q.1≠H2.objs.size:=fun q hq w=>by
  have:=Heap.lt_size (I3.pin q hq).1
  rw [w] at this
  exact Nat.lt_irrefl _ this
 have rhA:RelH X.K (as1++[acc]) (upd H1 acc (.lst [])) (h1++[.lst []]):=rh1.newL hacc0 .nil
 have exA:Ext as1 H1 (as1++[acc]) (upd H1 acc (.lst [])):=ext_new hacc0
 have reY0:RelE X.K (as1++[acc]) (upd H1 acc (.lst [])) (none::freeEn fr env) (none::freeSt fr σ):=relE_free ((re.mono e1).mono exA) fr none
 have hn0:(as1++[acc])[h1.length]?=some acc:=by rw [<-rh1.len]; exact List.getElem?_concat_length
 have ndY:(cxComp X scope cl H2.objs.size (x::frn) { s₂ with heap:=H2,toks:=s₂.toks } (upd H1 acc (.lst [])) fp).N.Nodup:=c.nd
 have locY:Loc (cxComp X scope cl H2.objs.size (x::frn) { s₂ with heap:=H2,toks:=s₂.toks } (upd H1 acc (.lst [])) fp).env.scope x:=.inl (lookup_relabel_local c.own)
 have pgx:PG (cxComp X scope cl H2.objs.size (x::frn) { s₂ with heap:=H2,toks:=s₂.toks } (upd H1 acc (.lst [])) fp) (.Name x px) (gName 0):=pg_name ndY rfl locY (.inr (lookup_relabel_local c.own))
 generalize hY:cxComp X scope cl H2.objs.size (x::frn) { s₂ with heap:=H2,toks:=s₂.toks } (upd H1 acc (.lst [])) fp=Y at IY0 hts hel pgx
 have yP:Y.prog=X.prog:=by rw [<-hY]; rfl
 have yw:Y.w=X.w:=by rw [<-hY]; rfl
 have yK:Y.K=X.K:=by rw [<-hY]; rfl
 have yA:Y.A=X.A:=by rw [<-hY]; rfl
 have yc:Y.calm=true:=by rw [<-hY]; exact hcalm
 have ye:Y.env=compEnvC scope cl H2.objs.size X.env:=by rw [<-hY]; rfl
 have yx:Y.xe=fun _ _=>False:=by rw [<-hY]; rfl
 have yex:Y.ex=fp:=by rw [<-hY]; rfl
 have hfpY0:∀ b∈fp,FpOk Y [] (upd H1 acc (.lst [])) b:=fun b hb=>⟨(hfp3 b hb).1,by rw [ye]; exact Nat.ne_of_lt (hfl3 b hb),by
   rw [<-hY]
   intro z
   rcases List.mem_cons.mp (I3.stkSub b z) with e | e
   ·exact (hfp3 b hb).2.1 e
   ·exact (hfp3 b hb).2.2.1 e,.inl (by rw [yex]; exact hb),fun y z e w=>by
   rw [ye] at e
   exact (hfp3 b hb).2.2.2.2.1 y z (c.clsub e) w,fun q hq=>by rw [<-hY] at hq; exact nomatch hq⟩
 have stay:tn 0 h₁:=T.keep 0 _ _ st0 fun b hb o e=>hold b o (by rw [<-hH2]; exact Heap.get?_push_of_some _ e)
 have loop:∀ s₄:Shared,s₄={ s₂ with heap:=h₁,toks:=s₂.toks+([]:List (Str×Value)).length }->
   codeAny (model X.prog X.w) X.A (.compLoop (.ListComp elt [⟨.Name x px,iter,ifs,0⟩] scope pos) 0 (.ref it) (.ref acc) (compEnvC scope cl H2.objs.size X.env)) (RR (.ref acc) H2.objs.size) s₄:=by
  rintro s₄ rfl
  refine compLoop_go (fun n s'=>∃ (k:Nat) (H':Hp) (σ':St) (as':List Addr) (h':Hh) (z:Option D),k+n=itm.items.length/\Inv Y [] σ' H' s'/\tn k s'.heap/\(∀ b∈fp,FpOk Y [] H' b)/\RelH X.K as' H' h'/\as'[h1.length]?=some acc/\Base as' H'/\
   RelE X.K as' H' (z::freeEn fr env) σ'/\CPost X.K (G acc) as' H' (compD itm.chk h1.length ft fe (freeEn fr env) (itm.items.drop k) h')) ?_ itm.items.length
   ⟨0,_,_,_,_,none,by lia,IY0,stay,hfpY0,rhA,hn0,ad.mono _ _ _ _ exA b0,reY0,pc⟩
  rintro n s' ⟨k,H',σ',as',h',z,hk,IY,stk,hfY,rh',hn',bs',reY,pc'⟩
  cases hd:itm.items.drop k with
  | nil=>
   rw [hd] at pc'
   unfold compD at pc'
   by_cases hch:itm.chk h'
   ·rw [if_pos hch] at pc'
    have hlen:itm.items.length<=k:=by
     have:=congrArg List.length hd
     rw [List.length_drop,List.length_nil] at this
     lia
    have hk':k=itm.items.length:=by lia
    have dn:=T.done Y yP yw yK yc k [] s' σ' H' (notedBy (model X.prog X.w) X.A (compEnvC scope cl H2.objs.size X.env) fun e s'=>RR (.ref acc) H2.objs.size (.error e) s') IY hfY stk (by rw [hk']; exact ad.stop as' H' h' rh' hch bs')
    rw [yA] at dn
    refine thn dn fun r s1 q9=>?_
    obtain⟨hr,IY1⟩:=q9
    subst hr
    rw [<-hY] at IY1
    have IX:=comp_end I3 hfp3 IY1
    obtain⟨m1,hm1,_⟩:=IY1.loc
    exact hRR acc H2.objs.size H' s1 as' h' (pc' as' H' (Ext.refl _ _) rh') IX ⟨m1,hm1⟩ IY1.free hCL hCs hCc hCp
   ·rw [if_neg hch] at pc'
    exact pc'.elim
  | cons d r=>
   rw [hd] at pc'
   unfold compD at pc'
   by_cases hch:itm.chk h'
   ·rw [if_pos hch] at pc'
    have hlt:k < itm.items.length:=by
     have:=congrArg List.length hd
     rw [List.length_drop,List.length_cons] at this
     lia
    have hq:=List.drop_eq_getElem_cons hlt
    rw [hd] at hq
    have hd1:itm.items[k]?=some d:=by
     rw [List.getElem?_eq_getElem hlt]
     exact congrArg some (List.cons.inj hq).1.symm
    have hr:itm.items.drop (k+1)=r:=(List.cons.inj hq).2.symm
    obtain⟨g1,g2⟩:=ad.go k as' H' h' d rh' hch bs' hd1
    have im:=T.item Y yP yw yK yc k [] s' σ' H' (notedBy (model X.prog X.w) X.A (compEnvC scope cl H2.objs.size X.env) fun e s'=>RR (.ref acc) H2.objs.size (.error e) s') IY hfY stk g1
    rw [yA] at im
    refine thn im fun rr s1 q9=>?_
    obtain⟨u,hru,q1⟩:=q9
    subst hru
    refine thn q1 fun _ s2 q9=>?_
    obtain⟨xv,Hn,IY2,ru,hyl,st2,hf2⟩:=q9
    obtain⟨rfl,rxd⟩:=g2 xv Hn hyl
    have hfY2:∀ b∈fp,FpOk Y [] Hn b:=fun b hb=>⟨hf2 b hb,(hfY b hb).2⟩
    have IYp:=IY2.pinned hfY2 (fun b hb=>T.obj (k+1) _ st2 b hb)
    generalize hP:([]:List (Addr×Obj))++pinsAt fp s2.heap=P at IYp
    have again:∀ (s5:Shared) (σ5:St) (H5:Hp),Inv Y P σ5 H5 s5->Inv Y [] σ5 H5 s5/\tn (k+1) s5.heap/\∀ b∈fp,FpOk Y [] H5 b:=by
     intro s5 σ5 H5 I5
     rw [<-hP] at I5
     have pin:∀ b∈fp,∀ o,s2.heap.get? b=some o->s5.heap.get? b=some o/\H5 b=none:=fun b hb o e=>by
      have:=I5.pin (b,o) (by
       rw [List.nil_append]
       exact List.mem_append_right _ (mem_pinsAt hb e))
      exact⟨this.1,this.2.1⟩
     refine⟨I5.unpinned,T.keep (k+1) _ _ st2 fun b hb o e=>(pin b hb o e).1,fun b hb=>?_⟩
     obtain⟨o,ho,_⟩:=T.obj (k+1) _ st2 b hb
     exact⟨(pin b hb o ho).2,(hfY b hb).2⟩
    have hasg:=pgx P s2 σ' Hn xv u (fun σ2 H2'=>σ2=σ'.set 0 (some xv)/\H2'=Hn) IYp ru ⟨rfl,rfl⟩
    rw [yP,yw,yA,ye,yx] at hasg
    refine wpAny_mono hasg (fun _ s3 hq3=>?_) fun _ _ f=>f.elim
    obtain⟨σ2,H2',IY3,e2',e3'⟩:=hq3
    rw [e2',e3'] at IY3
    have reS:RelE X.K as' Hn (some d::freeEn fr env) (σ'.set 0 (some xv)):=reY.set 0 rxd
    cases ht:ft (some d::freeEn fr env) h' with
    | ex cc hh=>rw [ht] at pc'; exact pc'.elim
    | bad=>rw [ht] at pc'; exact pc'.elim
    | ok bb h2=>
     rw [ht] at pc'
     have tst:=hts.run (Q:=fun b H3=>b=bb/\∃ as3,Ext as' Hn as3 H3/\RelH X.K as3 H3 h2) IY3 ⟨as',some d::freeEn fr env,h',by rw [yK]; exact reS,by rw [yK]; exact rh',PX.ok_of ht fun as3 H3 x3 rh3=>⟨rfl,as3,x3,by rw [yK] at rh3; exact rh3⟩⟩
     rw [yP,yw,yA,ye,yx] at tst
     refine wpAny_mono tst (fun b3 s4 hq4=>?_) fun _ _ f=>f.elim
     obtain⟨H3,IY4,rfl,as3,x3,rh3⟩:=hq4
     cases b3 with
     | false=>
      have pc2:CPost X.K (G acc) as' Hn (compD itm.chk h1.length ft fe (freeEn fr env) r h2):=pc'
      rw [if_neg Bool.false_ne_true]
      obtain⟨J1,J2,J3⟩:=again s4 _ H3 IY4
      exact⟨n - 1,by lia,k+1,H3,_,as3,h2,some d,by lia,J1,J2,J3,rh3,x3.at hn',ad.mono _ _ _ _ x3 bs',reS.mono x3,by rw [hr]; exact CPost.later x3 pc2⟩
     | true=>
      rw [if_pos rfl]
      dsimp only at pc'
      cases hf:fe (some d::freeEn fr env) h2 with
      | ex cc hh=>rw [hf] at pc'; exact pc'.elim
      | bad=>rw [hf] at pc'; exact pc'.elim
      | ok d' h3=>
       rw [hf] at pc'
       dsimp only at pc'
       have eli:=hel P s4 _ H3 (fun v H4=>∃ as4,Ext as3 H3 as4 H4/\RelH X.K as4 H4 h3/\RelD X.K as4 H4 d' v) IY4 ⟨as3,some d::freeEn fr env,h2,by rw [yK]; exact reS.mono x3,by rw [yK]; exact rh3,PX.ok_of hf fun as4 H4 x4 rh4 v rv=>⟨as4,x4,by rw [yK] at rh4; exact rh4,by rw [yK] at rv; exact rv⟩⟩
       rw [yP,yw,yA,ye,yx] at eli
       refine wpAny_mono eli (fun uu s5 hq5=>?_) fun _ _ f=>f.elim
       obtain⟨vv,H4,IY5,ruu,as4,x4,rh4,rd4⟩:=hq5
       cases hit:itemsAt h3 h1.length with
       | none=>rw [hit] at pc'; exact pc'.elim
       | some ds=>
        rw [hit] at pc'
        dsimp only at pc'
        by_cases hz:ds.length < sizeLine
        ·rw [if_pos hz] at pc'
         have ha4:as4[h1.length]?=some acc:=x4.at (x3.at hn')
         obtain⟨ws,hw,rws⟩:=rh4.obj h1.length acc _ ha4 (of_itemsAt hit)
         have ex5:=ext_lst (vs:=ws++[vv]) rh4 ha4 (of_itemsAt hit)
         have app:=mt_append (X:=Y) P s5 _ H4 (.ref acc) [vv] (.ref acc) [uu] (fun _ H5=>H5=upd H4 acc (.lst (ws++[vv]))) IY5 rfl (.cons ruu .nil) ⟨acc,ws,vv,rfl,rfl,hw,by rw [<-rws.length]; exact hz,rfl⟩
         rw [yP,yw,yA,yx] at app
         refine wpAny_mono app (fun _ s6 hq6=>?_) fun _ _ f=>f.elim
         obtain⟨_,H5,IY6,_,rfl⟩:=hq6
         obtain⟨J1,J2,J3⟩:=again s6 _ _ IY6
         have xx:=x3.trans (x4.trans ex5)
         exact⟨n - 1,by lia,k+1,_,_,as4,h3.set h1.length (.lst (ds++[d'])),some d,by lia,J1,J2,J3,rh4.setL ha4 (of_itemsAt hit) (Pd.app rws (.cons rd4 .nil)),ha4,ad.mono _ _ _ _ xx bs',reS.mono xx,by rw [hr]; exact CPost.later xx pc'⟩
        ·rw [if_neg hz] at pc'
         exact pc'.elim
   ·rw [if_neg hch] at pc'
    exact pc'.elim
 have self:=T.self X.A 0 { s₂ with heap:=h₁,toks:=s₂.toks+([]:List (Str×Value)).length } (fun it' s'=>codeAny (model X.prog X.w) X.A (.compLoop (.ListComp elt [⟨.Name x px,iter,ifs,0⟩] scope pos) 0 it' (.ref acc) (compEnvC scope cl H2.objs.size X.env)) (RR (.ref acc) H2.objs.size) s')
  (notedBy (model X.prog X.w) X.A (compEnvC scope cl H2.objs.size X.env) fun e s'=>RR (.ref acc) H2.objs.size (.error e) s') stay (loop _ rfl)
 exact codeAny_compStart_list (loop _ rfl) self
noncomputable def fComp (fi:FI) (fr:List Nat) (ft:FT) (fe:FE):FE:=fun env h=>(fi env h).bind fun it h1=>.ofO ((compD it.chk h1.length ft fe (freeEn fr env) it.items (h1++[.lst []])).map fun h2=>(.lst h1.length,h2))
noncomputable def FrOk (X:Cx) (scope:Scope):List Nat->List Str->Prop
 | [],[]=>True
 | i::r,n::t=>(X.N[i]?=some n/\X.env.kindOf n=some .cell/\((relabel scope X.env).names.lookup n=some .cell\/(relabel scope X.env).names.lookup n=some .free))/\FrOk X scope r t
 | _,_=>False
theorem FrOk.spec {X:Cx}{scope:Scope}:∀ {fr:List Nat}{frn:List Str},FrOk X scope fr frn->fr.length=frn.length/\(∀ (j i:Nat) n,fr[j]?=some i->frn[j]?=some n->X.N[i]?=some n/\X.env.kindOf n=some .cell)/\
  ∀ n∈frn,(relabel scope X.env).names.lookup n=some .cell\/(relabel scope X.env).names.lookup n=some .free
 | [],[],_=>⟨rfl,fun j i n h=>by simp at h,fun n h=>nomatch h⟩
 | i::r,n::t,⟨⟨h1,h2,h3⟩,h4⟩=>by
  obtain⟨q1,q2,q3⟩:=FrOk.spec h4
  refine⟨by simp [q1],fun j i' n' e1 e2=>?_,fun n' hn=>?_⟩
  ·cases j with
   | zero=>
    simp only [List.getElem?_cons_zero,Option.some.injEq] at e1 e2
    subst e1 e2
    exact⟨h1,h2⟩
   | succ j=>
    simp only [List.getElem?_cons_succ] at e1 e2
    exact q2 j i' n' e1 e2
  ·rcases List.mem_cons.mp hn with rfl | hn
   ·exact h3
   ·exact q3 n' hn
theorem compOk_of {X:Cx}{scope:Scope}{x:Str}{fr:List Nat}{frn:List Str}{cl:List (Str×Addr)} (hcl:clFold X.env.cells scope.names []=some cl) (hcell:∀ y∈scope.names,y.2≠.cell) (hkind:scope.kind=.function)
  (hnames:∀ y∈scope.names,y.2=.local->scope.names.lookup y.1=some .local) (hown:scope.names.lookup x=some .local) (hnd:(x::frn).Nodup) (hfr:FrOk X scope fr frn):CompOk X scope x fr frn cl:=
 ⟨hcl,hcell,hkind,hnames,hown,hnd,hfr.spec.1,hfr.spec.2.1,hfr.spec.2.2⟩
section
variable {X:Cx}{elt iter:Expr}{x:Str}{px:Pos}{ifs:List Expr}{scope:Scope}{pos:Pos}{fr:List Nat}{frn:List Str}{cl:List (Str×Addr)}{fi:FI}{ft:FT}{fe:FE}
theorem comp_none {pins:List (Addr×Obj)}{σ:St}{H':Hp}{s':Shared}{C:Addr}{h':Heap} (IX:Inv X pins σ H' s') (hs:Heap.SameBut C s'.heap h') (h1:H' C=none) (h2:C≠X.env.locals) (h3:X.s₀.heap.objs.size<=C)
  (h4:∀ y z,X.env.cells.lookup y=some z->z≠C) (h5:∀ q∈X.pn++pins,q.1≠C):Inv X pins σ H' { s' with heap:=h' }:=
 IX.turned (t':=s'.toks) (it:=C) (fun b o hb e=>(hs.2 b hb).trans e) h1 h2 (.inr h3) h4 h5
theorem de_comp (hcalm:X.calm=true) (hi:DI X (.Name x px) iter fi)
  (hin:∀ (C:Addr) (s₀:Shared) (H₀:Hp) (fp:List Addr),DTs (cxComp X scope cl C (x::frn) s₀ H₀ fp) ifs ft/\DE (cxComp X scope cl C (x::frn) s₀ H₀ fp) elt fe)
  (hcl:clFold X.env.cells scope.names []=some cl:=by rfl) (hcell:∀ y∈scope.names,y.2≠.cell:=by decide) (hkind:scope.kind=.function:=by rfl)
  (hnames:∀ y∈scope.names,y.2=.local->scope.names.lookup y.1=some .local:=by decide) (hown:scope.names.lookup x=some .local:=by rfl) (hnd:(x::frn).Nodup:=by decide)
  (hfr:FrOk X scope fr frn:=by repeat' (first | exact trivial | exact rfl | exact Or.inl rfl | exact Or.inr rfl | refine⟨⟨?_,?_,?_⟩,?_⟩))
  (hs:∀ x,foldedSetIterable iter X.env x=pure x:=by intro _; rfl):DE X (.ListComp elt [⟨.Name x px,iter,ifs,0⟩] scope pos) (fComp fi fr ft fe):=by
 have c:=compOk_of hcl hcell hkind hnames hown hnd hfr
 rintro pins s σ H Q I ⟨as,env,h,re,rh,p⟩
 rw [eval_ListComp]
 refine wpAny_comprehension_free (use:=none) rfl hs (clFold_closure c.cl) c.kind c.names ?_
 refine comp_core (RR:=fun acc C=>compPost (model X.prog X.w) X.A X.xe none (EP X pins σ Q) acc C) (G:=fun acc asf Hf hf=>Q (.ref acc) Hf) c hcalm hi hin I re rh ?_ ?_
 ·refine (PX.bind p).imp fun as1 H1 h1 it e1 rh1 p1 acc hacc=>?_
  cases hc:compD it.chk h1.length ft fe (freeEn fr env) it.items (h1++[.lst []]) with
  | none=>rw [hc] at p1; exact p1.elim
  | some hf=>
   rw [hc] at p1
   intro asf Hf y rhf
   exact p1 asf Hf ((ext_new hacc).trans y) rhf (.ref acc) (.lst (y.at (by rw [<-rh1.len]; exact List.getElem?_concat_length)))
 ·rintro acc C H' s' asf hf g IX ⟨m,hm⟩ h1 h2 h3 h4 h5
  exact⟨m,hm,fun h' hs'=>⟨.ref acc,H',comp_none IX hs' h1 h2 h3 h4 h5,rfl,g⟩⟩
theorem ds_setcomp {i:Nat}{y:Str}{py spos:Pos} (hN:X.N.Nodup) (hcalm:X.calm=true) (hi:DI X (.Name x px) iter fi)
  (hin:∀ (C:Addr) (s₀:Shared) (H₀:Hp) (fp:List Addr),DTs (cxComp X scope cl C (x::frn) s₀ H₀ fp) ifs ft/\DE (cxComp X scope cl C (x::frn) s₀ H₀ fp) elt fe)
  (hcl:clFold X.env.cells scope.names []=some cl:=by rfl) (hcell:∀ y∈scope.names,y.2≠.cell:=by decide) (hkind:scope.kind=.function:=by rfl)
  (hnames:∀ y∈scope.names,y.2=.local->scope.names.lookup y.1=some .local:=by decide) (hown:scope.names.lookup x=some .local:=by rfl) (hnd:(x::frn).Nodup:=by decide)
  (hfr:FrOk X scope fr frn:=by repeat' (first | exact trivial | exact rfl | exact Or.inl rfl | exact Or.inr rfl | refine⟨⟨?_,?_,?_⟩,?_⟩))
  (hs:∀ x,foldedSetIterable iter X.env x=pure x:=by intro _; rfl) (hiy:X.N[i]?=some y:=by rfl) (hy:Loc X.env.scope y:=by first | exact Or.inl rfl | exact Or.inr rfl)
  (hf:X.fn y=true\/X.env.scope.names.lookup y=some .local:=by first | exact .inl rfl | exact .inr rfl)
  (hsw:swapsWith (.ListComp elt [⟨.Name x px,iter,ifs,0⟩] scope pos) (some (.Name y py)) spos.line X.env=pure true:=by rfl):
  DS X (.Assign [.Name y py] (.ListComp elt [⟨.Name x px,iter,ifs,0⟩] scope pos) spos) (fSet i (fComp fi fr ft fe)):=by
 have c:=compOk_of hcl hcell hkind hnames hown hnd hfr
 rintro pins s σ H Dn I ⟨as,env,h,re,rh,p⟩
 rw [exec_Assign_Name_used _ _ _ _ hsw]
 refine wpAny_bind (wpAny_standAt (wpAny_bind ?_))
 show wpAny _ X.A (do let _ <-comprehension (.ListComp elt [⟨.Name x px,iter,ifs,0⟩] scope pos) scope X.env _ (newList []) false (eval iter X.env) (some (assign (.Name y py) X.env))) _ _ s
 refine wpAny_bind (wpAny_mono (wpAny_comprehension_free (use:=some (assign (.Name y py) X.env)) (Q:=fun _ s'=>SP X pins Dn .next s') rfl hs (clFold_closure c.cl) c.kind c.names ?_) (fun _ s' hq=>wpAny_pure (wpAny_pure hq)) fun _ _ e=>e)
 have p0:PX X as H env (fComp fi fr ft fe env h) fun as1 H1 h1 d=>POut X as1 H1 Dn (.nx (env.set i (some d)) h1):=PX.of_out p
 refine comp_core (RR:=fun acc C=>compPost (model X.prog X.w) X.A X.xe (some (assign (.Name y py) X.env)) (fun _ s'=>SP X pins Dn .next s') acc C) (G:=fun acc asf Hf hf=>Dn.nx (σ.set i (some (.ref acc))) Hf) c hcalm hi hin I re rh ?_ ?_
 ·refine (PX.bind p0).imp fun as1 H1 h1 it e1 rh1 p1 acc hacc=>?_
  cases hc:compD it.chk h1.length ft fe (freeEn fr env) it.items (h1++[.lst []]) with
  | none=>rw [hc] at p1; exact p1.elim
  | some hf=>
   rw [hc] at p1
   intro asf Hf z rhf
   have x1:=(ext_new (as:=as1) (o:=.lst []) hacc).trans z
   exact p1 asf Hf x1 rhf asf Hf _ (Ext.refl _ _) rhf (((re.mono e1).mono x1).set i (.lst (z.at (by rw [<-rh1.len]; exact List.getElem?_concat_length))))
 ·rintro acc C H' s' asf hf' g IX ⟨m,hm⟩ h1 h2 h3 h4 h5
  show wpAny _ X.A (assign (.Name y py) X.env (.ref acc)) _ _ _
  refine wpAny_assign_Name (store_ok2 (v:=.ref acc) IX hN hiy hy rfl (fun s2 I2 q9=>?_) hf)
  obtain⟨a,hsb,ha⟩:=q9
  have hCa:C≠a:=by
   rcases ha with rfl | ha
   ·exact h2
   ·exact fun w=>h4 y a ha w.symm
  exact⟨m,hm.sameBut hsb hCa,fun h' hs'=>⟨_,H',comp_none I2 hs' h1 h2 h3 h4 h5,g⟩⟩
end
section
variable {X:Cx}{tg:Expr}
end
open Classical in
noncomputable def ofR (R:List D->D->Prop):List D->Option D:=fun ds=>if h:∃ d,R ds d then some h.choose else none
noncomputable def relF (R:List D->D->Prop):OC:=pureF (ofR R)
noncomputable def Runs (g:OC) (R:List D->D->Prop):Prop:=∀ ds d,R ds d->HB 0 d/\∀ h,∃ junk,g ds h=some (d,h++junk)
noncomputable def Det (R:List D->D->Prop):Prop:=∀ ds d d',R ds d->R ds d'->d=d'
theorem Runs.det {g:OC}{R:List D->D->Prop} (r:Runs g R):Det R:=fun ds d d' h h'=>by
 obtain⟨j,e⟩:=(r ds d h).2 []
 obtain⟨j',e'⟩:=(r ds d' h').2 []
 rw [e] at e'
 exact (Prod.mk.inj (Option.some.inj e')).1
theorem ofR_some {R:List D->D->Prop}{ds:List D}{d:D} (h:ofR R ds=some d):R ds d:=by
 unfold ofR at h
 split at h
 ·rename_i e
  cases h
  exact e.choose_spec
 ·cases h
theorem ofR_eq {R:List D->D->Prop} (t:Det R) {ds:List D}{d:D} (r:R ds d):ofR R ds=some d:=by
 have e:∃ d,R ds d:=⟨d,r⟩
 unfold ofR
 rw [dif_pos e,t ds _ _ e.choose_spec r]
theorem relF_eq {R:List D->D->Prop} (t:Det R) {ds:List D}{d:D} (r:R ds d) (h:Hh):relF R ds h=some (d,h):=by
 unfold relF pureF
 rw [ofR_eq t r]
 rfl
theorem Cal.rel {P:Program}{w:World}{K:PySem.W.Frag}{mg:Str->Option Value}{base:Heap}{k:Nat}{x:Str}{ps:List Str}{g:OC}{R:List D->D->Prop} (c:Cal P w K mg base k x ps g) (r:Runs g R):Cal P w K mg base k x ps (relF R):=
 c.pure (fun ds h d e=>(r ds d (ofR_some e)).2 h) fun ds d e=>(r ds d (ofR_some e)).1
theorem obj_there {P:Program}{w:World}{H:Hp}{h:Heap}{a:Addr}{o:HO} (x:ObjOk P w H h a o):∃ u,h.get? a=some u:=by
 cases o with
 | lst xs=>obtain⟨_,_,_,_,e⟩:=x; exact⟨_,e⟩
 | tup xs=>obtain⟨_,_,_,_,e,_⟩:=x; exact⟨_,e⟩
 | dK kvs=>obtain⟨_,_,_,_,o,_,_,e,_⟩:=x; exact⟨_,e⟩
 | dT kvs=>obtain⟨_,_,_,_,o,_,_,e,_⟩:=x; exact⟨_,e⟩
 | set S n=>obtain⟨o,_,_,_,e,_⟩:=x; exact⟨_,e⟩
 | ins C dx fs=>obtain⟨_,_,_,e,_⟩:=x; exact⟨_,e⟩
 | own y=>exact x
 | xd fs=>obtain⟨_,⟨_,_,_,e,_⟩,_⟩:=x; exact⟨_,e⟩
 | rng lo hi=>obtain⟨_,_,_,e⟩:=x; exact⟨_,e⟩
 | frz ob u=>obtain⟨e,_⟩:=x; exact⟨_,e⟩
 | tbl ps=>exact⟨_,(show h.get? a=some _ from x)⟩
 | met f y=>exact⟨_,(show h.get? a=some _ from x)⟩
 | ext φ=>obtain⟨_,⟨_,e⟩,_⟩:=x; exact⟨_,e⟩
section
variable {X:Cx}{pins:List (Addr×Obj)}{σ:St}{H:Hp}{s:Shared}
theorem flown {h':Heap}{bad:List Addr} (I:Inv X pins σ H s) (hb:∀ b∈bad,Loose X pins H b/\∃ o vs,s.heap.get? b=some o/\o.data=.fields vs)
  (keep:∀ b o,b∉frs X.stack->b∉bad->s.heap.get? b=some o->h'.get? b=some o) (slot:∀ b o,b∈frs X.stack->s.heap.get? b=some o->∃ sl,h'.get? b=some { o with slots:=sl }):
  Inv X pins σ H { s with heap:=h' }:=by
 have any:∀ b o,b∉bad->s.heap.get? b=some o->∃ sl,h'.get? b=some { o with slots:=sl }:=fun b o nb e=>by
  by_cases m:b∈frs X.stack
  ·exact slot b o m e
  ·exact⟨o.slots,keep b o m nb e⟩
 have old:∀ b o,X.s₀.heap.get? b=some o->b∉bad:=fun b o e z=>by
  rw [(hb b z).1.1] at e
  cases e
 have nrec:∀ b o,s.heap.get? b=some o->(∀ vs,o.data≠.fields vs)->b∉bad:=fun b o e n z=>by
  obtain⟨_,o',vs,e',d⟩:=hb b z
  rw [e] at e'
  cases e'
  exact n vs d
 have cellK:∀ x c,X.env.cells.lookup x=some c->∀ v,s.heap.IsCell c v->h'.IsCell c v:=fun x c e v ⟨o,ho,hd⟩=>by
  obtain⟨sl,q⟩:=any c o (nrec c o ho fun vs z=>by rw [hd] at z; cases z) ho
  exact⟨_,q,hd⟩
 refine⟨I.ok,I.os,I.bare,⟨fun b o e n nb hx=>?_,fun b o e n mb hx=>?_,I.base.free,fun b o e hx=>?_,I.base.tups,I.base.frzs,I.base.tbls⟩,?_,fun x c e=>?_,I.free,I.freeC,fun p hp=>?_,fun b u e=>?_,I.len⟩
 ·refine keep b o (fun m=>?_) (old b o e) (I.base.keep b o e n nb hx)
  rcases List.mem_cons.mp (I.stkSub b m) with z | z
  ·exact absurd (Nat.lt_of_lt_of_le (Heap.lt_size e) I.ok.above) (by rw [z]; exact Nat.lt_irrefl _)
  ·exact nb z
 ·obtain⟨sl,e1⟩:=I.base.slot b o e n mb hx
  obtain⟨sl',e2⟩:=any b _ (old b o e) e1
  exact⟨sl',e2⟩
 ·obtain⟨o',e1⟩:=I.base.there b o e hx
  obtain⟨sl,e2⟩:=any b o' (old b o e) e1
  exact⟨_,e2⟩
 ·obtain⟨m,⟨o,es,ep,ho,hd,r⟩,hl⟩:=I.loc
  obtain⟨sl,q⟩:=any _ o (nrec _ o ho fun vs z=>by rw [hd] at z; cases z) ho
  refine⟨m,⟨_,es,ep,q,hd,r⟩,fun i x v e1 e2 e3=>?_⟩
  obtain⟨u,ru,l⟩:=hl i x v e1 e2 e3
  refine⟨u,ru,?_⟩
  rcases l with l | ⟨k,c,e,z⟩
  ·exact .inl l
  ·exact .inr ⟨k,c,e,cellK x c e _ z⟩
 ·obtain⟨v,z⟩:=I.cell x c e
  exact⟨v,cellK x c e v z⟩
 ·obtain⟨e,n,ne,nf,d⟩:=I.pin p hp
  refine⟨keep p.1 p.2 (fun m=>(List.mem_cons.mp (I.stkSub p.1 m)).elim ne nf) (fun z=>(hb _ z).1.2.2 p hp rfl) e,n,ne,nf,d⟩
 ·refine (I.hok b u e).stay (fun c v hc q=>?_) (fun _ q=>q) fun _ _ q=>q
  have hcn:H c≠none:=by
   rcases hc with z | z
   ·rw [z,e]; exact fun z=>nomatch z
   ·rw [z]; exact fun z=>nomatch z
  exact keep c v (fun m=>hcn (I.stkFree c m)) (fun z=>hcn (hb c z).1.2.1) q
theorem loose_of (I:Inv X pins σ H s) (hex:X.ex=[]) {b:Addr} (e:s.heap.get? b=none) (n:H b=none):Loose X pins H b:=by
 refine⟨?_,n,fun q hq z=>?_⟩
 ·cases q:X.s₀.heap.get? b with
  | none=>rfl
  | some o=>
   obtain⟨o',e'⟩:=I.base.there b o q (by rw [hex]; exact fun z=>nomatch z)
   rw [e] at e'
   cases e'
 ·obtain⟨q1,_⟩:=I.pin q hq
  rw [z,e] at q1
  cases q1
theorem not_tracked (I:Inv X pins σ H s) {b:Addr} (e:s.heap.get? b=none):H b=none:=by
 cases q:H b with
 | none=>rfl
 | some u=>
  obtain⟨o,z⟩:=obj_there (I.hok b u q)
  rw [e] at z
  cases z
theorem Fly.imp {h:Heap}{p:Addr}{c:Value}{L L':Addr->Prop} (f:Fly h p c L) (k:∀ b,L b->L' b):Fly h p c L':=by
 obtain⟨oe,vs,a0,T,oT,ts,e1,e2,e3,e4,e5,e6,e7,e8,e9,e10,e11⟩:=f
 exact⟨oe,vs,a0,T,oT,ts,e1,e2,e3,e4,k _ e5,e6,e7,e8,e9,e10,k _ e11⟩
theorem fly_land {M:Model}{A:Around}{E:Value->Shared->Prop}{Q:Unit->Shared->Prop}{p:Addr}{c:Value} (I:Inv X pins σ H s) (hex:X.ex=[]) (hst:X.stack=X.env::X.outer) (hfr:X.env.frame=some X.env.locals) (hA:A.frames=some X.stack)
  (fl:Fresh s.heap p c (Loose X pins H)\/Fly s.heap p c (Loose X pins H))
  (k:∀ h',Inv X pins σ H { s with heap:=h' }->Fly h' p c (Loose X pins H)->Q () { s with heap:=h' }):
  wpAny M A (noteFrame (.ref p) X.env) (fun _ s1=>wpAny M A (setFlight (.ref p) none) Q E s1) E s:=by
 have hl0:=I.stack
 have main:∀ (bad:List Addr) (a0:Value),p∈bad->(∀ b∈bad,Loose X pins H b/\∃ o vs,s.heap.get? b=some o/\o.data=.fields vs)->
   ∀ h1,Heap.NotedW (PySem.W.hideAll s.heap (frs X.stack++bad)) (X.env::X.outer) p c a0 (rawInt X.env.locals) s.heap h1->wpAny M A (setFlight (.ref p) none) Q E { s with heap:=h1 }:=by
  rintro bad a0 hp hb h1 ⟨n1,n2,n3,n4⟩
  refine wpAny_setFlight_noneW (s:={ s with heap:=h1 }) n1 n2 n3 fun h2 j1 j2 j3 j4=>?_
  have keep:∀ b o,b∉frs X.stack->b∉bad->s.heap.get? b=some o->h2.get? b=some o:=fun b o m nb e=>
   j1 b o (PySem.W.hideAll_get _ e fun z=>(List.mem_append.mp z).elim m nb)
  have slot:∀ b o,b∈frs X.stack->s.heap.get? b=some o->∃ sl,h2.get? b=some { o with slots:=sl }:=fun b o m e=>by
   obtain⟨_,o',e',nf⟩:=hl0.mem m
   rw [e] at e'
   cases e'
   obtain⟨sl,q⟩:=n4 b o e nf
   exact⟨sl,j4 b _ q nf⟩
  have I2:=flown I hb keep slot
  refine k h2 I2 ?_
  obtain⟨oe,vs,T,oT,ts,he,⟨hc,h0⟩,hd,t1,hnT,hTp,hT,hdT,t3⟩:=j3
  refine⟨oe,vs,a0,T,oT,ts,he,hc,hd,h0,(hb p hp).1,t1,hTp,hT,hdT,t3,?_⟩
  by_cases mb:T∈bad
  ·exact (hb T mb).1
  ·have no:s.heap.get? T=none:=by
    cases q:s.heap.get? T with
    | none=>rfl
    | some o=>
     by_cases m:T∈frs X.stack
     ·obtain⟨_,o',e',nf⟩:=hl0.mem m
      obtain⟨sl,e2⟩:=slot T o' m e'
      rw [hT] at e2
      cases e2
      exact absurd hdT (nf ts)
     ·have:=PySem.W.hideAll_get (frs X.stack++bad) q fun z=>(List.mem_append.mp z).elim m mb
      rw [hnT] at this
      cases this
   exact loose_of I hex no (not_tracked I no)
 have hfun:∀ bad:List Addr,s.heap.FunFrames (PySem.W.hideAll s.heap (frs X.stack++bad)) (X.env::X.outer):=fun bad=>by
  rw [hst] at hl0 |-
  exact PySem.W.funFrames_hide hl0 fun env he a ha=>List.mem_append_left _ (List.mem_filterMap.mpr ⟨env,he,ha⟩)
 rw [hst] at hA
 rcases fl with⟨oe,vs,a0,he,hc,hd,h0,lp,t1⟩ | ⟨oe,vs,a0,T,oT,ts,he,hc,hd,h0,lp,t1,hTp,hT,hdT,t3,lT⟩
 ·subst hc
  have hb:∀ b∈[p],Loose X pins H b/\∃ o vs,s.heap.get? b=some o/\o.data=.fields vs:=fun b z=>by
   cases List.mem_singleton.mp z
   exact⟨lp,oe,vs,he,hd⟩
  unfold noteFrame
  simp only [hfr]
  refine wpAny_bind (wpAny_field he hd t1 ?_)
  rw [if_neg (by decide)]
  exact wpAny_entryW hA (hfun [p]) hfr he (fun b o z=>PySem.W.of_hideAll _ z) (PySem.W.hideAll_none _ (List.mem_append_right _ (List.mem_singleton.mpr rfl))) hd (Array.getElem?_eq_some_iff.mp t1).1 h0 fun h1 n=>main [p] a0 (List.mem_singleton.mpr rfl) hb h1 n
 ·subst hc
  have hb:∀ b∈[p,T],Loose X pins H b/\∃ o vs,s.heap.get? b=some o/\o.data=.fields vs:=fun b z=>by
   rcases List.mem_cons.mp z with rfl | z
   ·exact⟨lp,oe,vs,he,hd⟩
   ·cases List.mem_singleton.mp z
    exact⟨lT,oT,ts,hT,hdT⟩
  exact wpAny_noteFrame_onW hA (hfun [p,T]) hfr ⟨oe,vs,T,oT,ts,he,⟨rfl,h0⟩,hd,t1,PySem.W.hideAll_none _ (List.mem_append_right _ (by simp)),hTp,hT,hdT,t3⟩ (fun b o z=>PySem.W.of_hideAll _ z) (PySem.W.hideAll_none _ (List.mem_append_right _ (by simp)))
   fun h1 n=>main [p,T] a0 (by simp) hb h1 n
end
noncomputable def CX1 (P:Program) (w:World):CXT:=fun outer H s E e s'=>∃ p c H',e=.ref p/\s'.os=s.os/\AllBare s'.gens/\Un (frs outer) [] H H' s.heap s'.heap/\HOk P w H' s'.heap/\Fly s'.heap p c (fun b=>s.heap.get? b=none/\H' b=none)/\E c none H'
noncomputable abbrev OX:=List D->Hh->Res D
noncomputable def PQX (K:PySem.W.Frag) (as:List Addr) (H:Hp) (r:Res D) (Q:VK) (E:XK):Prop:=match r with
 | .ok d h'=>∀ as' H' v,Ext as H as' H'->RelH K as' H' h'->RelD K as' H' d v->Q v H'
 | .ex c h'=>∀ as' H',Ext as H as' H'->RelH K as' H' h'->E c none H'
 | .bad=>False
noncomputable def spX (K:PySem.W.Frag) (n:Nat) (g:OX):Sp:=fun vs H Q E=>vs.length=n/\∃ as ds h,RelH K as H h/\RelDs K as H ds vs/\PQX K as H (g ds h) Q E
noncomputable def fnOutX (o:Out):Res D:=match o with
 | .rt d h'=>.ok d h'
 | .nx _ h'=>.ok .non h'
 | .ex c _ h'=>.ex c h'
 | _=>.bad
noncomputable def fnRunX (n:Nat) (t:FS):OX:=fun ds h=>fnOutX (t (startE n ds) h)
theorem fnRunX_rt {n:Nat}{t:FS}{ds:List D}{h h1:Hh}{d:D} (q:t (startE n ds) h=.rt d h1):fnRunX n t ds h=.ok d h1:=by unfold fnRunX; rw [q]; rfl
theorem fnRunX_ex {n:Nat}{t:FS}{ds:List D}{h h1:Hh}{c:Value}{e:En} (q:t (startE n ds) h=.ex c e h1):fnRunX n t ds h=.ex c h1:=by unfold fnRunX; rw [q]; rfl
theorem fnRunX_nx {n:Nat}{t:FS}{ds:List D}{h h1:Hh}{e:En} (q:t (startE n ds) h=.nx e h1):fnRunX n t ds h=.ok .non h1:=by unfold fnRunX; rw [q]; rfl
section
variable {P:Program}{w:World}{K:PySem.W.Frag}{mg:Str->Option Value}{base:Heap}
theorem fn_DX {x qual:Str}{st:Stmt}{f:Addr}{fd:FuncData}{N ps:List Str}{k:Nat}{t:FS} (F:Fun K x qual st f fd) (S:FnScope N ps (defScope st))
  (hb:∀ (cdv:Value) (A:Around) (outer:List Env) (s:Shared) (H:Hp) (E:XK),Room k (A.deeper (envOfC qual (defScope st) s.heap.objs.size f cdv))->
   DSs (cxOf (CX1 P w) P w K mg base N qual (defScope st) f cdv A outer s H E) (defBody st) t):FnOk P w K mg base (CX1 P w) (k+1) f fd ps (spX K ps.length (fnRunX N.length t)):=by
 obtain⟨oc,od,kV,doc,pm,an,cdv,ct,osl,rfl,lk,hcd⟩:=F.ex
 refine fn_of lk hcd S (fun vs H Q E h=>h.1) fun A outer s H vs Q E hr h=>⟨_,hb cdv A outer s H E hr,?_⟩
 obtain⟨hl,as,ds,h,rh,rd,p⟩:=h
 refine⟨as,startE N.length ds,h,relE_start rd,rh,?_⟩
 unfold fnRunX at p
 cases e:t (startE N.length ds) h with
 | rt d h'=>rw [e] at p; exact fun as' H' v x rh' rd'=>p as' H' v x rh' rd'
 | nx e1 h'=>rw [e] at p; exact fun as' H' σ' x rh' re'=>p as' H' .non x rh' .non
 | bk e1 h'=>rw [e] at p; exact p.elim
 | ct e1 h'=>rw [e] at p; exact p.elim
 | bad=>rw [e] at p; exact p.elim
 | ex c e1 h'=>
  rw [e] at p
  rintro pins σ' H' _ s' I ⟨q,rfl,fl⟩ ⟨as',x,rh',re'⟩
  show wpAny _ _ (leaving _ _) _ _ _
  unfold leaving
  refine wpAny_bind (fly_land I rfl rfl rfl I.ok.frames fl fun h2 I2 fl2=>?_)
  exact⟨q,c,H',rfl,I2.os,I2.bare,I2.base,I2.hok,fl2.imp fun b z=>⟨z.1,z.2.1⟩,p as' H' x rh'⟩
end
noncomputable def CalX (P:Program) (w:World) (K:PySem.W.Frag) (mg:Str->Option Value) (base:Heap) (k:Nat) (x:Str) (ps:List Str) (g:OX):Prop:=
 ∃ f fd,FnOk P w K mg base (CX1 P w) k f fd ps (spX K ps.length g)/\mg x=some (.ref f)/\PySem.W.keepIn K (.ref f)=true/\Binds K fd ps []
theorem CalX.mono {P:Program}{w:World}{K:PySem.W.Frag}{mg:Str->Option Value}{base:Heap}{k k':Nat}{x:Str}{ps:List Str}{g:OX} (c:CalX P w K mg base k x ps g) (h:k<=k'):CalX P w K mg base k' x ps g:=by
 obtain⟨f,fd,c1,c2⟩:=c
 exact⟨f,fd,c1.mono h,c2⟩
theorem calX_mk {P:Program}{w:World}{K:PySem.W.Frag}{mg:Str->Option Value}{base:Heap}{x qual:Str}{st:Stmt}{f:Addr}{fd:FuncData}{N ps:List Str}{k:Nat}{t:FS} (F:Fun K x qual st f fd) (S:FnScope N ps (defScope st)) (hm:mg x=some (.ref f)) (b:Binds K fd ps [])
  (hb:∀ (cdv:Value) (A:Around) (outer:List Env) (s:Shared) (H:Hp) (E:XK),Room k (A.deeper (envOfC qual (defScope st) s.heap.objs.size f cdv))->
   DSs (cxOf (CX1 P w) P w K mg base N qual (defScope st) f cdv A outer s H E) (defBody st) t):CalX P w K mg base (k+1) x ps (fnRunX N.length t):=
 ⟨f,fd,fn_DX F S hb,hm,F.kp,b⟩
theorem calX_bad {P:Program}{w:World}{K:PySem.W.Frag}{mg:Str->Option Value}{base:Heap}{x qual:Str}{st:Stmt}{f:Addr}{fd:FuncData}{ps:List Str}{k:Nat}{g:OX} (F:Fun K x qual st f fd) (hm:mg x=some (.ref f)) (b:Binds K fd ps []) (hg:∀ ds h,g ds h=.bad):
  CalX P w K mg base k x ps g:=by
 refine⟨f,fd,⟨fun vs H Q E q=>q.1,?_⟩,hm,F.kp,b⟩
 rintro A outer s H args us vs Q E hr he hb hv ⟨_,as,ds,h1,_,_,p⟩
 rw [hg] at p
 exact p.elim
noncomputable def fcX (r:OX) (f:FA):FE:=fun env h=>(f env h).bind fun x h1=>r x h1
section
variable {X:Cx}{k:Nat}{ps:List Str}{x:Str}{p pos:Pos}{e:Expr}{es:List Expr}{fs:List FE}{g:OX}
theorem de_calX (c:CalX X.prog X.w X.K X.mg X.base k x ps g) (hr:Room k X.A) (ha:DA X (e::es) (fAll fs)) (hex:X.ex=[]:=by rfl) (hg:Gl X x:=by rfl) (hl:fs.length=ps.length:=by rfl)
  (hdb:(x==("__debug__":Str))=false:=by decide) (he:starEach (e::es) X.env=(false,eval e X.env)::starEach es X.env:=by rfl) (hpl:(backTo pos (starEach es X.env)).any (·.1)=false:=by rfl):
  DE X (.Call (.Name x p) (e::es) [] pos) (fcX g (fAll fs)):=by
 obtain⟨f,fd,F,hm,hk,hb⟩:=c
 rintro pins s σ H Q I ⟨as,env,h,re,rh,p⟩
 refine wpAny_Call_Name_kw (ld_glob I hg hm ?_ hdb)
 have hA:=ha pos pins s σ H (fun vs H1=>vs.length=ps.length/\∃ as1 ds h1,Ext as H as1 H1/\RelH X.K as1 H1 h1/\RelDs X.K as1 H1 ds vs/\PX X as1 H1 env (g ds h1) fun as' H' _ d=>∀ v,RelD X.K as' H' d v->Q v H') I
  ⟨as,env,h,re,rh,(PX.bind p).lenA.imp fun as1 H1 h1 ds e1 rh1 p1 vs rvs=>⟨by rw [<-rvs.length,p1.1,hl],as1,ds,h1,e1,rh1,rvs,p1.2⟩⟩
 refine PySem.W.callWith_K (h₀:=X.base) I.ok.mod.kin hk (thn hA fun us s1 q9=>?_) he hpl
 obtain⟨vs,H1,I1,r,hlen,as1,ds,h1,e1,rh1,rvs,q⟩:=q9
 refine⟨I1.kIn,?_⟩
 have hl2:us.length=ps.length:=by rw [<-r.length]; exact hlen
 have hb2:=hb s1 us I1.kIn (by rw [List.append_nil]; exact hl2)
 rw [List.append_nil] at hb2
 refine wpAny_call (codeAny_mono (F.run X.A X.stack s1 H1 ⟨us,[]⟩ us vs Q (fun c _ H'=>∀ e' s',Inv X pins σ H' s'->Flies X pins H' e' c s'->X.xe e' s') hr I1.env0 hb2 r ⟨hlen,as1,ds,h1,rh1,rvs,?_⟩) fun r s' hq=>?_)
 ·cases q0:g ds h1 with
  | bad=>rw [q0] at q; exact q.elim
  | ok d h'=>
   rw [q0] at q
   exact fun as' H' v x rh' rd'=>q as' H' x rh' v rd'
  | ex c h'=>
   rw [q0] at q
   exact fun as' H' x rh' e' s' I' fl=>q pins σ H' e' s' I' fl ⟨as',x,rh',re.mono (e1.trans x)⟩
 ·cases r with
  | error e'=>
   obtain⟨q',c,H',rfl,os,bare,un,hok,fl,w⟩:=hq
   have I2:Inv X pins σ H' s':=I1.call' os un hok bare (fun b z=>absurd z (by simp))
   exact w _ s' I2 ⟨q',rfl,.inr (fl.imp fun b z=>⟨(loose_of I1 hex z.1 (not_tracked I1 z.1)).1,z.2,(loose_of I1 hex z.1 (not_tracked I1 z.1)).2.2⟩)⟩
  | ok fl=>
   cases fl with
   | ret u=>exact I1.after hq
   | next=>exact False.elim hq
   | brk=>exact False.elim hq
   | cont=>exact False.elim hq
end
abbrev bmV:List Value:=[.type "ValueError",.type "Exception",.type "BaseException",.type "object"]
noncomputable def ExC (K:PySem.W.Frag) (C:Addr) (bm:List Value):Prop:=∃ N nm q bs hdct sn sub ab col dd k0 k1 k2 k3 k5,K.lookup C=some (excClassObj nm q C N bs bm hdct sn sub ab col dd k0 k1 k2 k3 k5 "ValueError.__new__")/\
 PySem.W.tailIn K bmV bm=true/\PySem.W.nsOkIn K N=true/\PySem.W.nsIn K N "__init__"=some none
noncomputable def fRaise (c:Value) (f:FE):FS:=fun e h=>(fAll [f] e h).out e fun _ h1=>.ex c e h1
theorem ds_raise {X:Cx}{x:Str}{np cpos pos:Pos}{a:Expr}{f:FE}{C:Addr}{bm:List Value} (ec:ExC X.K C bm) (hm:X.mg x=some (.ref C)) (ha:DA X [a] (fAll [f])) (hcalm:X.calm=true:=by rfl) (hex:X.ex=[]:=by rfl) (hg:Gl X x:=by rfl)
  (hdb:(x==("__debug__":Str))=false:=by decide) (he:starEach [a] X.env=(false,eval a X.env)::starEach [] X.env:=by rfl) (hpl:(backTo cpos (starEach [a] X.env)).any (·.1)=false:=by rfl):
  DS X (.Raise (some (.Call (.Name x np) [a] [] cpos)) none pos) (fRaise (.ref C) f):=by
 rintro pins s σ H Dn I ⟨as,env,h,re,rh,p⟩
 obtain⟨N,nm,qn,bs,hdct,sn,sub,ab,col,dd,k0,k1,k2,k3,k5,lk,tl,ok,ini⟩:=ec
 have kin:=I.mod.kin
 refine wpAny_Raise_call_subT (C:=C) (N:=N) (nm:=nm) (q:=qn) (bs:=bs) (bm:=bm) (hdct:=hdct) (sn:=sn) (sub:=sub) (ab:=ab) (col:=col) (dd:=dd) (k0:=k0) (k1:=k1) (k2:=k2) (k3:=k3) (k5:=k5) (mN:=X.base.nsMap N) PySem.F.excBase_ValueError
  ((PySem.W.tail_of_in kin tl).hasType (by decide)) (I.ok.hd hcalm) hpl (PySem.W.nsMap_none_of_in kin ok ini) (ld_glob I hg hm ⟨rfl,?_⟩ hdb)
 have hA:=ha cpos pins s σ H (fun vs H1=>vs.length=1/\∃ as1 h1,Ext as H as1 H1/\RelH X.K as1 H1 h1/\POut X as1 H1 Dn (.ex (.ref C) env h1)) I
  ⟨as,env,h,re,rh,(PX.of_out p).lenA.imp fun as1 H1 h1 ds e1 rh1 p1 vs rvs=>⟨by rw [<-rvs.length,p1.1]; rfl,as1,h1,e1,rh1,p1.2⟩⟩
 rw [he] at hA |-
 refine Calls.evalArgs_plain (thn hA fun us s1 q9=>?_)
 obtain⟨vs,H1,I1,r,hlen,as1,h1,e1,rh1,xw⟩:=q9
 refine⟨rfl,?_,I1.kIn _ _ lk,(Heap.Ns.of_isNs (PySem.W.isNs_of_in kin ok)).keeps I1.bk,PySem.W.tail_of_in I1.kIn tl,fun h' e m=>?_⟩
 ·show us.length<=sizeLine
  rw [<-r.length,hlen]
  decide
 ·have I2:Inv X pins σ H1 { s1 with heap:=h' }:=I1.kept (t':=s1.toks) m.keeps
  obtain⟨t,he',_,_⟩:=m.there
  exact xw pins σ H1 (.ref e) _ I2 ⟨e,rfl,.inl ⟨_,_,.ref t,he',rfl,rfl,rfl,loose_of I1 hex m.new (not_tracked I1 m.new),rfl⟩⟩ ⟨as1,Ext.refl _ _,rh1,re.mono e1⟩
noncomputable abbrev onTry (X:Cx) (pn:List (Addr×Obj)) (E:Value->Shared->Prop):Cx:={ X with pn:=pn,xe:=E }
noncomputable abbrev inExc (X:Cx) (pn:List (Addr×Obj)) (p:Addr):Cx:={ X with pn:=pn,xe:=fun _ _=>False,A:=X.A.mark (some (.ref p)),calm:=false }
section
variable {X:Cx}{pins pins':List (Addr×Obj)}{σ:St}{H:Hp}{s:Shared}{E:Value->Shared->Prop}{p:Addr}
theorem inv_on (I:Inv X pins σ H s) (E:Value->Shared->Prop):Inv (onTry X (X.pn++pins) E) [] σ H s:=
 ⟨⟨I.ok.mod,I.ok.kind,I.ok.glob,I.ok.blt,I.ok.above,I.ok.inj,I.ok.has,I.ok.cab,I.ok.hd,I.ok.frames,I.ok.stk,I.ok.exf,I.ok.bs,I.ok.bsz,I.ok.noex,I.ok.exfs,I.ok.funs,I.ok.frf⟩,I.os,I.bare,I.base,I.loc,I.cell,I.free,I.freeC,
  fun q hq=>I.pin q ((List.mem_append.mp hq).elim id fun z=>nomatch z),I.hok,I.len⟩
theorem inv_off (ok:X.Ok) (I:Inv (onTry X (X.pn++pins) E) pins' σ H s):Inv X pins σ H s:=
 ⟨ok,I.os,I.bare,I.base,I.loc,I.cell,I.free,I.freeC,fun q hq=>I.pin q (List.mem_append_left _ hq),I.hok,I.len⟩
theorem inv_in (I:Inv X pins σ H s) (p:Addr):Inv (inExc X (X.pn++pins) p) [] σ H s:=
 ⟨⟨I.ok.mod,I.ok.kind,I.ok.glob,I.ok.blt,I.ok.above,I.ok.inj,I.ok.has,I.ok.cab,(fun z=>nomatch z),I.ok.frames,I.ok.stk,I.ok.exf,I.ok.bs,I.ok.bsz,I.ok.noex,I.ok.exfs,I.ok.funs,I.ok.frf⟩,I.os,I.bare,I.base,I.loc,I.cell,I.free,I.freeC,
  fun q hq=>I.pin q ((List.mem_append.mp hq).elim id fun z=>nomatch z),I.hok,I.len⟩
theorem inv_out (ok:X.Ok) (I:Inv (inExc X (X.pn++pins) p) pins' σ H s):Inv X pins σ H s:=
 ⟨ok,I.os,I.bare,I.base,I.loc,I.cell,I.free,I.freeC,fun q hq=>I.pin q (List.mem_append_left _ hq),I.hok,I.len⟩
theorem loose_off {a:Addr} (z:Loose (onTry X (X.pn++pins) E) pins' H a):Loose X pins H a:=⟨z.1,z.2.1,fun q hq=>z.2.2 q (List.mem_append_left _ hq)⟩
theorem sp_off {Dn:Ends}{f:Flow} (ok:X.Ok) (h:SP (onTry X (X.pn++pins) E) [] Dn f s):SP X pins Dn f s:=by
 cases f with
 | next=>obtain⟨σ',H',I,q⟩:=h; exact⟨σ',H',inv_off ok I,q⟩
 | brk=>obtain⟨σ',H',I,q⟩:=h; exact⟨σ',H',inv_off ok I,q⟩
 | cont=>obtain⟨σ',H',I,q⟩:=h; exact⟨σ',H',inv_off ok I,q⟩
 | ret u=>obtain⟨v,σ',H',I,r,q⟩:=h; exact⟨v,σ',H',inv_off ok I,r,q⟩
theorem sp_out {Dn:Ends}{f:Flow} (ok:X.Ok) (h:SP (inExc X (X.pn++pins) p) [] Dn f s):SP X pins Dn f s:=by
 cases f with
 | next=>obtain⟨σ',H',I,q⟩:=h; exact⟨σ',H',inv_out ok I,q⟩
 | brk=>obtain⟨σ',H',I,q⟩:=h; exact⟨σ',H',inv_out ok I,q⟩
 | cont=>obtain⟨σ',H',I,q⟩:=h; exact⟨σ',H',inv_out ok I,q⟩
 | ret u=>obtain⟨v,σ',H',I,r,q⟩:=h; exact⟨v,σ',H',inv_out ok I,r,q⟩
end
section
variable {M:Model}{A:Around}{E:Value->Shared->Prop}{s:Shared}
theorem exc_matches {K:PySem.W.Frag}{C C' e:Addr}{bm bm':List Value}{oe:Obj}{b:Bool}{Q:Bool->Shared->Prop} (kin:K.In s.heap) (ec:ExC K C bm) (ec':ExC K C' bm') (he:s.heap.get? e=some oe) (hc:oe.cls=.ref C) (hb:(Value.ref C::bm).contains (.ref C')=b) (q:Q b s):
  wpAny M A (excMatches (.ref e) (.ref C')) Q E s:=by
 obtain⟨N,nm,qn,bs,hdct,sn,sub,ab,col,dd,k0,k1,k2,k3,k5,lk,tl,ok,ini⟩:=ec
 obtain⟨N',nm',qn',bs',hdct',sn',sub',ab',col',dd',k0',k1',k2',k3',k5',lk',tl',ok',ini'⟩:=ec'
 have hC:=kin _ _ lk
 have hC':=kin _ _ lk'
 have t':(Value.ref C'::bm').contains (.type "BaseException")=true:=by
  rw [List.contains_cons,(PySem.W.tail_of_in kin tl').hasType (X:="BaseException") (b:=true) (by decide),Bool.or_true]
 have nt:=tc_notTuple
 obtain⟨hp,g,d,t,os⟩:=s
 unfold excMatches
 repeat (first
  | (with_reducible refine wpAny_loadPart_at he ?_; rw [hc])
  | with_reducible refine wpAny_loadPart_at hC' ?_
  | (with_reducible refine wpAny_isSubtype_exc hC' ?_; rw [t'])
  | (with_reducible refine wpAny_isSubtype_exc hC ?_; rw [hb])
  | wp_step)
 cases b<;>(wp_walk; exact q)
theorem lands {p:Addr}{c:Value}{L:Addr->Prop}{Q:Unit->Shared->Prop} (f:Fly s.heap p c L) (q:Q () s):wpAny M A (setFlight (.ref p) none) Q E s:=by
 obtain⟨oe,vs,a0,T,oT,ts,e1,e2,e3,e4,e5,e6,e7,e8,e9,e10,e11⟩:=f
 refine wpAny_setFlight_none e1 e3 e6 e8 e9 (Array.getElem?_eq_some_iff.mp e10).1 ?_
 rw [Heap.update_setField_same s.heap T oT ts 3 .none e8 e9 e10]
 exact q
end
noncomputable def DH (X:Cx) (hs:List ExceptHandler) (c:Value) (g:FS):Prop:=∀ pins s σ H Dn p as env h,Inv X pins σ H s->Fly s.heap p c (Loose X pins H)->RelE X.K as H env σ->RelH X.K as H h->POut X as H Dn (g env h)->
 wpAny (model X.prog X.w) X.A (handleBy (.ref p) X.env hs) (SP X pins Dn) X.xe s
noncomputable def noEx (f:FS):FS:=fun e h=>match f e h with
 | .ex _ _ _=>.bad
 | o=>o
section
variable {X:Cx}{x:Str}{np pos:Pos}{b₀:Stmt}{suite:List Stmt}{rest:List ExceptHandler}{g:FS}{C C':Addr}{bm bm':List Value}
theorem dh_hit (ec:ExC X.K C bm) (ec':ExC X.K C' bm') (hm:X.mg x=some (.ref C')) (hb:(Value.ref C::bm).contains (.ref C')=true) (hs:∀ pn p,DSs (inExc X pn p) (b₀::suite) g) (hg:Gl X x:=by rfl) (hdb:(x==("__debug__":Str))=false:=by decide):
  DH X (.ExceptHandler (some (.Name x np)) none (b₀::suite) pos::rest) (.ref C) (noEx g):=by
 intro pins s σ H Dn p as env h I fl re rh po
 have J:=inv_in I p
 obtain⟨oe,vs,a0,T,oT,ts,e1,e2,_⟩:=id fl
 refine wpAny_handleBy_cons (codeAny_handlers_test (ld_glob (X:=inExc X (X.pn++pins) p) J hg hm (exc_matches J.kIn ec ec' e1 e2 hb ?_) hdb)) (by intro q; cases q)
 refine codeAny_handlers_suite (lands fl ?_)
 refine wpAny_mono (hs (X.pn++pins) p [] s σ H Dn J ⟨as,env,h,re,rh,?_⟩) (fun f s2 q=>sp_out I.ok q) fun _ _ z=>z.elim
 unfold noEx at po
 cases q:g env h with
 | ex c' e' h'=>rw [q] at po; exact po.elim
 | nx e' h'=>rw [q] at po; exact po
 | rt d h'=>rw [q] at po; exact po
 | bk e' h'=>rw [q] at po; exact po
 | ct e' h'=>rw [q] at po; exact po
 | bad=>rw [q] at po; exact po
noncomputable def fTry (f:FS) (m:Value->Option FS):FS:=fun e h=>match f e h with
 | .ex c e1 h1=>(match m c with
  | some g=>g e1 h1
  | none=>.bad)
 | o=>o
theorem fTry_nx {f:FS}{m:Value->Option FS}{e e1:En}{h h1:Hh} (q:f e h=.nx e1 h1):fTry f m e h=.nx e1 h1:=by unfold fTry; rw [q]
theorem fTry_rt {f:FS}{m:Value->Option FS}{e:En}{h h1:Hh}{d:D} (q:f e h=.rt d h1):fTry f m e h=.rt d h1:=by unfold fTry; rw [q]
theorem fTry_ex {f g:FS}{m:Value->Option FS}{e e1:En}{h h1:Hh}{c:Value} (q:f e h=.ex c e1 h1) (hm:m c=some g):fTry f m e h=g e1 h1:=by unfold fTry; rw [q]; dsimp only; rw [hm]
theorem ds_try {body:List Stmt}{h₀:ExceptHandler}{hs:List ExceptHandler}{f:FS}{m:Value->Option FS} (hb:∀ pn E,DSs (onTry X pn E) body f) (hh:∀ c g,m c=some g->DH X (h₀::hs) c g)
  (hex:X.ex=[]:=by rfl) (hst:X.stack=X.env::X.outer:=by rfl) (hfr:X.env.frame=some X.env.locals:=by rfl):DS X (.Try body (h₀::hs) [] [] pos) (fTry f m):=by
 rintro pins s σ H Dn I ⟨as,env,h,re,rh,p⟩
 refine wpAny_Try_except (wpAny_mono (hb (X.pn++pins) _ [] s σ H Dn (inv_on I _) ⟨as,env,h,re,rh,?_⟩) (fun f s1 q=>?_) fun _ _ z=>z)
 ·unfold fTry at p
  cases q:f env h with
  | nx e' h'=>rw [q] at p; exact p
  | rt d h'=>rw [q] at p; exact p
  | bk e' h'=>rw [q] at p; exact p
  | ct e' h'=>rw [q] at p; exact p
  | bad=>rw [q] at p; exact p
  | ex c e1 h1=>
   rw [q] at p
   dsimp only at p
   cases qm:m c with
   | none=>rw [qm] at p; exact p.elim
   | some g=>
    rw [qm] at p
    rintro pins' σ' H' _ s' J ⟨b,rfl,fl⟩ ⟨as',x,rh',re'⟩
    refine fly_land (inv_off I.ok J) hex hst hfr I.ok.frames (fl.imp (fun q9=>by obtain⟨oe,vs,a0,e1,e2,e3,e4,e5,e6⟩:=q9; exact⟨oe,vs,a0,e1,e2,e3,e4,loose_off e5,e6⟩) fun z=>z.imp fun _=>loose_off) fun h2 I2 fl2=>?_
    exact hh c g qm pins _ σ' H' Dn b as' e1 h1 I2 fl2 re' rh' (POut.later x p)
 ·have q':=sp_off I.ok q
  cases f with
  | next=>exact wpAny_execs_nil q'
  | brk=>exact q'
  | cont=>exact q'
  | ret u=>exact q'
end
noncomputable def mOf:List (Addr×FS)->Value->Option FS
 | [],_=>none
 | (a,g)::r,c=>match c with
  | .ref b=>if b=a then some g else mOf r (.ref b)
  | _=>none
theorem mOf_hit (a:Addr) (g:FS) (r:List (Addr×FS)):mOf ((a,g)::r) (.ref a)=some g:=by
 rw [mOf]
 exact if_pos rfl
section
variable {X:Cx}{hs:List ExceptHandler}
theorem mh_nil:∀ c g,mOf [] c=some g->DH X hs c g:=fun c g z=>by unfold mOf at z; cases z
theorem mh_cons {a:Addr}{g1:FS}{r:List (Addr×FS)} (h1:DH X hs (.ref a) g1) (h2:∀ c g,mOf r c=some g->DH X hs c g):∀ c g,mOf ((a,g1)::r) c=some g->DH X hs c g:=fun c g z=>by
 cases c with
 | ref b=>
  unfold mOf at z
  dsimp only at z
  split at z
  ·rename_i e
   cases z
   subst e
   exact h1
  ·exact h2 _ g z
 | _=>unfold mOf at z; cases z
end
theorem contains_self (C:Addr) (bm:List Value):(Value.ref C::bm).contains (.ref C)=true:=by simp
inductive RO where
 | ok (d:D) | ex (c:Value)
noncomputable def RO.res (o:RO) (h:Hh):Res D:=match o with
 | .ok d=>.ok d h
 | .ex c=>.ex c h
noncomputable def RO.hb (o:RO):Prop:=match o with
 | .ok d=>HB 0 d
 | .ex _=>True
open Classical in
noncomputable def relX (R:List D->RO->Prop):OX:=fun ds h=>if q:∃ o,R ds o then q.choose.res h else .bad
noncomputable def RunsX (g:OX) (R:List D->RO->Prop):Prop:=∀ ds o,R ds o->o.hb/\∀ h,∃ junk,g ds h=o.res (h++junk)
noncomputable def DetX (R:List D->RO->Prop):Prop:=∀ ds o o',R ds o->R ds o'->o=o'
theorem RunsX.det {g:OX}{R:List D->RO->Prop} (r:RunsX g R):DetX R:=fun ds o o' h h'=>by
 obtain⟨j,e⟩:=(r ds o h).2 []
 obtain⟨j',e'⟩:=(r ds o' h').2 []
 rw [e] at e'
 cases o<;>cases o'<;>simp [RO.res] at e' |-
 ·exact e'.1
 ·exact e'.1
theorem relX_eq {R:List D->RO->Prop} (t:DetX R) {ds:List D}{o:RO} (r:R ds o) (h:Hh):relX R ds h=o.res h:=by
 have e:∃ o,R ds o:=⟨o,r⟩
 unfold relX
 rw [dif_pos e,t ds _ _ e.choose_spec r]
theorem relX_bad {R:List D->RO->Prop} (n:∀ ds o,¬ R ds o) (ds:List D) (h:Hh):relX R ds h=.bad:=by
 unfold relX
 rw [dif_neg fun q9=>by obtain⟨o,r⟩:=q9; exact n ds o r]
theorem CalX.rel {P:Program}{w:World}{K:PySem.W.Frag}{mg:Str->Option Value}{base:Heap}{k:Nat}{x:Str}{ps:List Str}{g:OX}{R:List D->RO->Prop} (c:CalX P w K mg base k x ps g) (r:RunsX g R):CalX P w K mg base k x ps (relX R):=by
 obtain⟨f,fd,G,z⟩:=c
 refine⟨f,fd,G.imp fun vs H Q E q9=>?_,z⟩
 obtain⟨hl,as,ds,h,rh,rd,p⟩:=q9
 refine⟨hl,as,ds,h,rh,rd,?_⟩
 unfold relX at p
 split at p
 ·rename_i q
  obtain⟨hb,hj⟩:=r ds _ q.choose_spec
  obtain⟨junk,e⟩:=hj h
  rw [e]
  generalize q.choose=o at p hb
  cases o with
  | ok d=>
   intro as' H' v x rh' rd'
   obtain⟨mo,rfl⟩:=x.pre
   exact p as H' v ⟨⟨[],by simp⟩,x.tups,x.frzs⟩ (rh.cut rh') (rd'.cut ((show HB 0 d from hb).mono (Nat.zero_le _)))
  | ex c=>
   intro as' H' x rh'
   obtain⟨mo,rfl⟩:=x.pre
   exact p as H' ⟨⟨[],by simp⟩,x.tups,x.frzs⟩ (rh.cut rh')
 ·exact p.elim
theorem fcX_ok {r:OX}{f:FA}{e:En}{h h1:Hh}{ds:List D} (q:f e h=.ok ds h1):fcX r f e h=r ds h1:=by unfold fcX; rw [q]; rfl
theorem fSeq_ex {s t:FS}{e e1:En}{h h1:Hh}{c:Value} (q:s e h=.ex c e1 h1):fSeq s t e h=.ex c e1 h1:=by unfold fSeq; rw [q]
theorem fSet_ex {i:Nat}{f:FE}{e:En}{h h1:Hh}{c:Value} (q:f e h=.ex c h1):fSet i f e h=.ex c e h1:=by unfold fSet; rw [q]; rfl
theorem fRet_ex {f:FE}{e:En}{h h1:Hh}{c:Value} (q:f e h=.ex c h1):fRet f e h=.ex c e h1:=by unfold fRet; rw [q]; rfl
theorem fDrop_ex {f:FE}{e:En}{h h1:Hh}{c:Value} (q:f e h=.ex c h1):fDrop f e h=.ex c e h1:=by unfold fDrop; rw [q]; rfl
section
variable {prog:Program}{w:World}{A:Around}{E:Value->Shared->Prop}{h:Heap}{g:Array GenState}{d:Drawn}{t:Nat}{os:OsState}{K:PySem.W.Frag}{a C:Addr}{o:Obj}{bm:List Value}
end
section
variable {Y:Cx}{p C C':Addr}{oe:Obj}{bm:List Value}{b:Bool}{c:Value}{cv:V}{x:Str}{i:Nat}{en:Str}{p1 p2 p3 pos:Pos}
end
theorem RelH.more {K:PySem.W.Frag}{as:List Addr}{H:Hp}{h:Hh}{p:Addr}{o:HO} (r:RelH K as H h) (hp:H p=none):RelH K as (upd H p o) h:=
 ⟨r.len,r.nd,fun n a o' e1 e2=>by
  have q:=r.obj n a o' e1 e2
  obtain⟨u,hu⟩:=q.there
  exact q.mono (ext_upd hp) (upd_ne (ne_of_none hu hp))⟩
theorem exC_mk {K:PySem.W.Frag}{C N:Addr}{nm q:Str}{bs bm sub:List Value}{hdct ab:Bool}{sn:List Str}{col:Option Bool}{dd:Option Addr}{k0 k1 k2 k3 k5:Option Value} (l:K.lookup C=some (excClassObj nm q C N bs bm hdct sn sub ab col dd k0 k1 k2 k3 k5 "ValueError.__new__"))
  (e:PySem.W.excIn K C bmV "ValueError.__new__"=true):ExC K C bm:=by
 refine⟨N,nm,q,bs,hdct,sn,sub,ab,col,dd,k0,k1,k2,k3,k5,l,?_⟩
 unfold PySem.W.excIn at e
 rw [l] at e
 simp only [Bool.and_eq_true,beq_iff_eq,Bool.not_eq_true'] at e
 obtain⟨⟨⟨⟨⟨_,_⟩,_⟩,ht⟩,hok⟩,hni⟩:=e
 exact⟨ht,hok,hni⟩
section
variable {X:Cx}{a b:Expr}{f g:FE}{pos:Pos}
end
end DL
namespace L2
open PySem PySem.Spec PyProof.Rows
section
variable {κ:Type} [DecidableEq κ]
noncomputable def valV (kvs:List (κ×V)) (k:κ):Option V:=(kvs.find? fun kv=>decide (kv.1=k)).map (·.2)
noncomputable def putK (kvs:List (κ×V)) (k:κ) (v:V):List (κ×V):=
 if (kvs.any fun kv=>decide (kv.1=k))=true then kvs.map (fun kv=>if kv.1=k then (kv.1,v) else kv) else kvs++[(k,v)]
noncomputable def dropK (kvs:List (κ×V)) (k:κ):List (κ×V):=kvs.filter fun kv=>decide (kv.1≠k)
theorem valV_pos {p:κ×V}{r:List (κ×V)}{k:κ} (e:p.1=k):valV (p::r) k=some p.2:=by simp [valV,List.find?_cons,e]
theorem valV_neg {p:κ×V}{r:List (κ×V)}{k:κ} (e:¬ p.1=k):valV (p::r) k=valV r k:=by simp [valV,List.find?_cons,e]
theorem valV_any (k:κ):∀ kvs:List (κ×V),(kvs.any fun kv=>decide (kv.1=k))=(valV kvs k).isSome
 | []=>rfl
 | p::r=>by
  rw [List.any_cons]
  by_cases e:p.1=k
  ·simp only [valV_pos e,decide_eq_true e,Bool.true_or,Option.isSome_some]
  ·rw [valV_neg e,decide_eq_false e,Bool.false_or]; exact valV_any k r
theorem length_putK (kvs:List (κ×V)) (k:κ) (v:V):(putK kvs k v).length<=kvs.length+1:=by
 unfold putK
 split
 ·rw [List.length_map]; lia
 ·rw [List.length_append,List.length_cons,List.length_nil]; lia
theorem RelO.isSome_eq {o:Option V}{u:Option Value} (r:RelO o u):o.isSome=u.isSome:=by
 cases o with
 | none=>cases u with
  | none=>rfl
  | some _=>exact (show False from r).elim
 | some _=>cases u with
  | none=>exact (show False from r).elim
  | some _=>rfl
theorem RelO.getD {o:Option V}{u:Option Value}{d:V}{d':Value} (r:RelO o u) (rd:RelV d d'):RelV (o.getD d) (u.getD d'):=by
 cases o with
 | none=>cases u with
  | none=>exact rd
  | some _=>exact (show False from r).elim
 | some _=>cases u with
  | none=>exact (show False from r).elim
  | some _=>exact r
theorem KV.val {kvs:List (κ×V)}{vs:List (κ×Value)} (r:KV kvs vs) (k:κ):RelO (valV kvs k) (valueAt vs k):=by
 unfold KV at r
 induction r with
 | nil=>exact True.intro
 | @cons p q ps qs h t ih=>
  obtain⟨h1,h2⟩:=h
  by_cases e:p.1=k
  ·have e':q.1=k:=h1.symm.trans e
   have b:valueAt (q::qs) k=some q.2:=by simp [valueAt,List.find?_cons,e']
   rw [valV_pos e,b]; exact h2
  ·have e':¬ q.1=k:=fun z=>e (h1.trans z)
   have b:valueAt (q::qs) k=valueAt qs k:=by simp [valueAt,List.find?_cons,e']
   rw [valV_neg e,b]; exact ih
theorem KV.any {kvs:List (κ×V)}{vs:List (κ×Value)} (r:KV kvs vs) (k:κ):(kvs.any fun kv=>decide (kv.1=k))=vs.any fun kv=>decide (kv.1=k):=by
 unfold KV at r
 induction r with
 | nil=>rfl
 | cons h t ih=>rw [List.any_cons,List.any_cons,ih,h.1]
theorem KV.repl {kvs:List (κ×V)}{vs:List (κ×Value)} (r:KV kvs vs) (k:κ) {y:V}{u:Value} (ry:RelV y u):
  KV (kvs.map fun kv=>if kv.1=k then (kv.1,y) else kv) (vs.map fun kv=>if kv.1=k then (kv.1,u) else kv):=by
 unfold KV at r |-
 induction r with
 | nil=>exact .nil
 | @cons p q ps qs h t ih=>
  rw [List.map_cons,List.map_cons]
  refine .cons ?_ ih
  obtain⟨h1,h2⟩:=h
  by_cases e:p.1=k
  ·rw [if_pos e,if_pos (h1.symm.trans e)]; exact⟨h1,ry⟩
  ·rw [if_neg e,if_neg (fun z=>e (h1.trans z))]; exact⟨h1,h2⟩
theorem KV.put {kvs:List (κ×V)}{vs:List (κ×Value)} (r:KV kvs vs) (k:κ) {y:V}{u:Value} (ry:RelV y u):KV (putK kvs k y) (stored vs k u):=by
 unfold putK stored
 rw [r.any k]
 by_cases e:(vs.any fun kv=>decide (kv.1=k))=true
 ·rw [if_pos e,if_pos e]; exact r.repl k ry
 ·rw [if_neg e,if_neg e]; exact Paired.snoc r ⟨rfl,ry⟩
theorem KV.drop {kvs:List (κ×V)}{vs:List (κ×Value)} (r:KV kvs vs) (k:κ):KV (dropK kvs k) (without vs k):=by
 unfold KV at r |-
 unfold dropK without
 induction r with
 | nil=>exact .nil
 | @cons p q ps qs h t ih=>
  obtain⟨h1,h2⟩:=h
  rw [List.filter_cons,List.filter_cons]
  by_cases e:p.1=k
  ·have a:¬ decide (p.1≠k)=true:=by simp [e]
   have b:¬ decide (q.1≠k)=true:=by simp [h1.symm.trans e]
   rw [if_neg a,if_neg b]; exact ih
  ·have e':¬ q.1=k:=fun z=>e (h1.trans z)
   have a:decide (p.1≠k)=true:=by simp [e]
   have b:decide (q.1≠k)=true:=by simp [e']
   rw [if_pos a,if_pos b]; exact .cons ⟨h1,h2⟩ ih
theorem KV.keys {kvs:List (κ×V)}{vs:List (κ×Value)} (r:KV kvs vs):kvs.map (·.1)=vs.map (·.1):=by
 unfold KV at r
 induction r with
 | nil=>rfl
 | cons h t ih=>rw [List.map_cons,List.map_cons,ih,h.1]
theorem KV.length {kvs:List (κ×V)}{vs:List (κ×Value)} (r:KV kvs vs):kvs.length=vs.length:=Paired.length r
theorem dropK_le (kvs:List (κ×V)) (k:κ):(dropK kvs k).length<=kvs.length:=List.length_filter_le _ _
end
theorem kV_is {P:Program}{w:World}{k:Key}{u:Value} (r:RelV (kV k) u):(mixKind P w).is k u=true:=by
 cases k with
 | inl i=>obtain⟨t,e⟩:=(show ∃ t,u=Value.int i t from r); subst e; exact mixKind_int P w i t
 | inr x=>obtain⟨t,e⟩:=(show ∃ t,u=Value.str x t from r); subst e; exact mixKind_str P w x t
theorem items_are {P:Program}{w:World}:∀ {ks:List Key}{us:List Value},Vals (ks.map kV) us->ItemsAre (mixKind P w) ks us
 | [],_,r=>by rw [List.map_nil] at r; cases r; exact .nil
 | k::ks,_,r=>by
  rw [List.map_cons] at r
  cases r with
  | cons h t=>exact .cons (kV_is h) (items_are t)
noncomputable abbrev KT (H:Hp):List (List Key×V)->List (List Key×Addr×Value)->Prop:=Paired fun p q=>p.1=q.1/\H q.2.1=some (.tup (p.1.map kV))/\RelV p.2 q.2.2
theorem KT.val {H:Hp}{kvs:List (List Key×V)}{xs:List (List Key×Addr×Value)} (r:KT H kvs xs) (k:List Key):RelO (valV kvs k) ((atKey xs k).map (·.2)):=by
 induction r with
 | nil=>exact True.intro
 | @cons p q ps qs h t ih=>
  obtain⟨h1,_,h2⟩:=h
  by_cases e:p.1=k
  ·have e':q.1=k:=h1.symm.trans e
   have b:atKey (q::qs) k=some q.2:=by simp [atKey,List.find?_cons,e']
   rw [valV_pos e,b]; exact h2
  ·have e':¬ q.1=k:=fun z=>e (h1.trans z)
   have b:atKey (q::qs) k=atKey qs k:=by simp [atKey,List.find?_cons,e']
   rw [valV_neg e,b]; exact ih
theorem KT.repl {H:Hp}{kvs:List (List Key×V)}{xs:List (List Key×Addr×Value)} (r:KT H kvs xs) (k:List Key) {y:V}{u:Value} (ry:RelV y u):
  KT H (kvs.map fun kv=>if kv.1=k then (kv.1,y) else kv) (xs.map (putAt k u)):=by
 induction r with
 | nil=>exact .nil
 | @cons p q ps qs h t ih=>
  rw [List.map_cons,List.map_cons]
  refine .cons ?_ ih
  obtain⟨h1,h2,h3⟩:=h
  unfold putAt
  by_cases e:p.1=k
  ·rw [if_pos e,if_pos (h1.symm.trans e)]; exact⟨h1,h2,ry⟩
  ·rw [if_neg e,if_neg (fun z=>e (h1.trans z))]; exact⟨h1,h2,h3⟩
theorem KT.put {H:Hp}{kvs:List (List Key×V)}{xs:List (List Key×Addr×Value)} (r:KT H kvs xs) (k:List Key) {b:Addr}{y:V}{u:Value} (hb:H b=some (.tup (k.map kV))) (ry:RelV y u):
  KT H (putK kvs k y) (storedH xs k b u):=by
 have e:(kvs.any fun kv=>decide (kv.1=k))=(atKey xs k).isSome:=by
  rw [valV_any,(r.val k).isSome_eq,Option.isSome_map]
 unfold putK storedH
 rw [e]
 by_cases q:(atKey xs k).isSome=true
 ·rw [if_pos q,if_pos q]; exact r.repl k ry
 ·rw [if_neg q,if_neg q]; exact Paired.snoc r ⟨rfl,hb,ry⟩
theorem KT.keeps {H H':Hp}{kvs:List (List Key×V)}{xs:List (List Key×Addr×Value)} (r:KT H kvs xs) (ht:∀ b ys,H b=some (.tup ys)->H' b=some (.tup ys)):KT H' kvs xs:=
 Paired.mapP r fun _ _ z=>⟨z.1,ht _ _ z.2.1,z.2.2⟩
section
variable {P:Program}{w:World}{H:Hp}{h:Heap}{a:Addr}
theorem rd_of {u:HO} (ok:HOk P w H h) (e:Rd H a u):ObjOk P w H h a u:=e.ok ok
theorem dk_rd {kvs:List (Key×V)} (ok:HOk P w H h) (e:Rd H a (.dK kvs)):kvs.length<=sizeLine/\(a==sysModules)=false/\∃ vs,KV kvs vs/\h.DictOf (mixKind P w) a vs:=
 show ObjOk P w H h a (.dK kvs) from rd_of ok e
theorem dk_of {kvs:List (Key×V)} (ok:HOk P w H h) (e:H a=some (.dK kvs)):kvs.length<=sizeLine/\(a==sysModules)=false/\∃ vs,KV kvs vs/\h.DictOf (mixKind P w) a vs:=dk_rd ok (.inl e)
theorem key_of {ks:List Key} (ok:HOk P w H h) (e:H a=some (.tup (ks.map kV))):(tupleKind (mixKind P w)).is h ks a:=by
 obtain⟨_,its,r,o,h1,h2,n,h3⟩:=(show ObjOk P w H h a (.tup (ks.map kV)) from ok a _ e)
 exact⟨o,its.toArray,n,h1,h2,h3,by simpa using items_are r⟩
theorem dt_rd {kvs:List (List Key×V)} (ok:HOk P w H h) (e:Rd H a (.dT kvs)):kvs.length<=sizeLine/\(a==sysModules)=false/\
  ∃ xs,KT H kvs xs/\h.DictOfH (tupleKind (mixKind P w)) a xs:=by
 obtain⟨z,y,xs,r,o,es,ep,h1,h2,h3,h4,h5⟩:=(show ObjOk P w H h a (.dT kvs) from rd_of ok e)
 refine⟨z,y,xs,r,o,es,ep,h1,h2,h3,h4,fun x hx=>?_,h5⟩
 have all:∀ {l:List (List Key×V)}{m:List (List Key×Addr×Value)},KT H l m->∀ x∈m,(tupleKind (mixKind P w)).is h x.1 x.2.1:=by
  intro l m q
  induction q with
  | nil=>intro x hx; exact nomatch hx
  | @cons p q ps qs hq t ih=>
   intro x hx
   rcases List.mem_cons.mp hx with e | hx
   ·subst e
    exact key_of ok (by rw [<-hq.1]; exact hq.2.1)
   ·exact ih x hx
 exact all r x hx
theorem dt_of {kvs:List (List Key×V)} (ok:HOk P w H h) (e:H a=some (.dT kvs)):kvs.length<=sizeLine/\(a==sysModules)=false/\
  ∃ xs,KT H kvs xs/\h.DictOfH (tupleKind (mixKind P w)) a xs:=dt_rd ok (.inl e)
end
noncomputable def DGet (H:Hp) (a:Addr) (y:V) (r:Option V):Prop:=
 (∃ kvs k,Rd H a (.dK kvs)/\y=kV k/\r=valV kvs k)\/False
noncomputable def DPut (H:Hp) (a:Addr) (y v:V) (H':Hp):Prop:=
 (∃ kvs k,H a=some (.dK kvs)/\y=kV k/\kvs.length < sizeLine/\H'=upd H a (.dK (putK kvs k v)))\/False
theorem DGet.k {H:Hp}{a:Addr}{kvs:List (Key×V)}{k:Key} (e:H a=some (.dK kvs)):DGet H a (kV k) (valV kvs k):=.inl ⟨kvs,k,.inl e,rfl,rfl⟩
theorem DPut.k {H:Hp}{a:Addr}{kvs:List (Key×V)}{k:Key}{v:V} (e:H a=some (.dK kvs)) (hl:kvs.length < sizeLine):DPut H a (kV k) v (upd H a (.dK (putK kvs k v))):=.inl ⟨kvs,k,e,rfl,hl,rfl⟩
section
variable {X:Cx}{pins:List (Addr×Obj)}{σ:St}{H:Hp}{s:Shared}{a:Addr}{y v:V}{u r:Value}{o:Option V}{A:Around}{E:Value->Shared->Prop}
theorem Inv.big (I:Inv X pins σ H s):sysModules < s.heap.objs.size:=by
 have h:mainGlobals < s.heap.objs.size:=(I.mod.glob.keeps I.bk).lt
 exact Nat.lt_trans (by decide) h
theorem d_getItem {Q:Value->Shared->Prop} (hu:A.units+1 < cLine) (I:Inv X pins σ H s) (g:DGet H a y (some v)) (ry:RelV y u) (h:∀ w' s',Inv X pins σ H s'->RelV v w'->Q w' s'):
  wpAny (model X.prog X.w) A (getItem (.ref a) u) Q E s:=by
 rcases g with⟨kvs,k,e,ey,l⟩ | g
 ·subst ey
  obtain⟨z,hd,vs,rel,dd⟩:=dk_rd I.hok e
  obtain⟨w',hw,rw'⟩:=RelO.some_of (v:=v) (o:=valueAt vs k) (by rw [l]; exact rel.val k)
  exact wpAny_getItem_of (kV_is ry) dd.mapOf hw (h w' _ (I.tok _) rw')
 ·exact g.elim
theorem d_in {Q:Value->Shared->Prop} (hu:A.units+1 < cLine) (I:Inv X pins σ H s) (g:DGet H a y o) (ry:RelV y u) (h:∀ s',Inv X pins σ H s'->Q (.bool o.isSome) s'):
  wpAny (model X.prog X.w) A (compareOp .In u (.ref a)) Q E s:=by
 rcases g with⟨kvs,k,e,ey,l⟩ | g
 ·subst ey
  obtain⟨z,hd,vs,rel,dd⟩:=dk_rd I.hok e
  refine wpAny_in_of (kV_is ry) hd dd.mapOf ?_
  rw [<-(rel.val k).isSome_eq,<-l]
  exact h _ (I.tok _)
 ·exact g.elim
theorem d_write {h':Heap}{t':Nat}{ob:HO} (I:Inv X pins σ H s) (mu:Mut (H a)) (hs:Heap.SameBut a s.heap h') (he:∃ q,h'.get? a=some q) (new:ObjOk X.prog X.w (upd H a ob) h' a ob):
  Inv X pins σ (upd H a ob) { s with heap:=h',toks:=t' }:=
 I.write (x:=a) (e:=a) mu (.inl rfl) (fun b q hb z=>(hs.2 b hb).trans z) he new
theorem dk_new {P:Program}{w:World}{H':Hp}{h':Heap}{kvs:List (Key×V)}{vs:List (Key×Value)} (z:kvs.length<=sizeLine) (hd:(a==sysModules)=false) (rel:KV kvs vs) (dd:h'.DictOf (mixKind P w) a vs):
  ObjOk P w H' h' a (.dK kvs):=⟨z,hd,vs,rel,dd⟩
theorem d_setItem {H':Hp}{Q:Unit->Shared->Prop} (hu:A.units+1 < cLine) (I:Inv X pins σ H s) (g:DPut H a y v H') (ry:RelV y u) (rv:RelV v r) (h:∀ s',Inv X pins σ H' s'->Q () s'):
  wpAny (model X.prog X.w) A (setItem (.ref a) u r) Q E s:=by
 rcases g with⟨kvs,k,e,ey,l,eH⟩ | g
 ·subst ey eH
  obtain⟨z,hd,vs,rel,dd⟩:=dk_of I.hok e
  have hz:vs.length<=sizeLine:=by rw [<-rel.length]; exact z
  have hl:(putK kvs k v).length<=sizeLine:=by have:=length_putK kvs k v; lia
  refine wpAny_setItem_pairs (hsz:=hz) (kV_is ry) dd fun h' dd' hs=>h _ ?_
  have he:∃ q,h'.get? a=some q:=let ⟨q,_,_,hq,_⟩:=dd'; ⟨q,hq⟩
  exact d_write I (by rw [e]; exact True.intro) hs he (dk_new hl hd (rel.put k rv) dd')
 ·exact g.elim
end
section
variable {X:Cx}{pins:List (Addr×Obj)}{σ:St}{H:Hp}{s:Shared}{a:Addr}{kvs:List (Key×V)}{k:Key}{u:Value}{A:Around}{E:Value->Shared->Prop}
theorem d_delItem {Q:Unit->Shared->Prop} (I:Inv X pins σ H s) (e:H a=some (.dK kvs)) (ry:RelV (kV k) u) (l:(valV kvs k).isSome=true) (h:∀ s',Inv X pins σ (upd H a (.dK (dropK kvs k))) s'->Q () s'):
  wpAny (model X.prog X.w) A (delItem (.ref a) u) Q E s:=by
 obtain⟨z,hd,vs,rel,dd⟩:=dk_of I.hok e
 refine wpAny_delItem_slot dd.typeIs (by decide) PySem.F.slot_dict_delitem
  (call_meetsIn PySem.F.slot_dict_delitem dd.typeIs PySem.F.entry_dict_delitem (PySem.F.args_dict_delitem_2 _ _) (meets_dict_delitem_pairs (mixKind X.prog X.w) a (kV_is ry)) ⟨vs,dd,by rw [<-rel.length]; exact z,by rw [<-(rel.val k).isSome_eq]; exact l,fun h' dd' hs=>h _ ?_⟩)
 have he:∃ q,h'.get? a=some q:=let ⟨q,_,_,hq,_⟩:=dd'; ⟨q,hq⟩
 exact d_write I (by rw [e]; exact True.intro) hs he (dk_new (Nat.le_trans (dropK_le kvs k) z) hd (rel.drop k) dd')
theorem d_pop {v:V}{more:List Value}{Q:Value->Shared->Prop} (I:Inv X pins σ H s) (e:H a=some (.dK kvs)) (ry:RelV (kV k) u) (l:valV kvs k=some v) (hm:more=[]\/∃ x,more=[x])
  (h:∀ w' s',Inv X pins σ (upd H a (.dK (dropK kvs k))) s'->RelV v w'->Q w' s'):wpAny (model X.prog X.w) A (call (.builtin "dict.pop") (.ref a::u::more)) Q E s:=by
 obtain⟨z,hd,vs,rel,dd⟩:=dk_of I.hok e
 obtain⟨w',hw,rw'⟩:=RelO.some_of (v:=v) (o:=valueAt vs k) (by rw [<-l]; exact rel.val k)
 have hp:(keyPart u).isSome=true:=by
  cases k with
  | inl i=>obtain⟨t,q⟩:=(show ∃ t,u=Value.int i t from ry); subst q; rfl
  | inr x=>obtain⟨t,q⟩:=(show ∃ t,u=Value.str x t from ry); subst q; rfl
 have ha:argsOk "dict.pop" ⟨.ref a::u::more,[]⟩:=by
  rcases hm with q | ⟨x,q⟩
  ·subst q; exact PySem.F.args_dict_pop_2 _ _
  ·subst q; exact PySem.F.args_dict_pop_3 _ _ _
 refine call_meetsIn PySem.F.slot_dict_pop dd.typeIs PySem.F.entry_dict_pop ha (meets_dict_pop_there (mixKind X.prog X.w) a (kV_is ry) more hm hp)
  ⟨vs,w',dd,by rw [<-rel.length]; exact z,hw,fun h' dd' hs=>h w' _ ?_ rw'⟩
 have he:∃ q,h'.get? a=some q:=let ⟨q,_,_,hq,_⟩:=dd'; ⟨q,hq⟩
 exact d_write I (by rw [e]; exact True.intro) hs he (dk_new (Nat.le_trans (dropK_le kvs k) z) hd (rel.drop k) dd')
theorem d_len {Q:Value->Shared->Prop} (I:Inv X pins σ H s) (e:Rd H a (.dK kvs)) (h:∀ t s',Inv X pins σ H s'->Q (.int kvs.length t) s'):wpAny (model X.prog X.w) A (call (.builtin "len") [.ref a]) Q E s:=by
 obtain⟨z,hd,vs,rel,dd⟩:=dk_rd I.hok e
 refine call_len_dict hd dd (by rw [<-rel.length]; rw [sizeLine_eq] at z; lia) ?_
 rw [<-rel.length]
 exact h _ _ (I.tok _)
end
noncomputable def NoSl (i:Expr):Prop:=∀ ov iv,subscripted i false ov iv=operate [ov,iv] (getItem ov iv)
theorem subD_of {prog:Program}{w:World}{A:Around}{E:Value->Shared->Prop}{s:Shared}{env:Env}{value slice:Expr}{pos:Pos}{T id:String}{Q:Value->Shared->Prop}
  (hl:typeLookup (.type T) "__getitem__"=pure (some (.builtin id))) (hs:NoSl slice)
  (h:wpAny (model prog w) A (eval value env) (fun o s₁=>wpAny (model prog w) A (eval slice env) (fun i s₂=>s₂.TypeIs o T/\wpAny (model prog w) A (getItem o i) Q E s₂) E s₁) E s):
  wpAny (model prog w) A (eval (.Subscript value slice pos) env) Q E s:=by
 refine Subscript_ (wpAny_mono h (fun o s₁ h₁=>wpAny_mono h₁ (fun i s₂ h₂=>?_) fun _ _ x=>x) fun _ _ x=>x)
 obtain⟨hT,h₂⟩:=h₂
 unfold subscriptTail
 refine wpAny_bind ?_
 rw [getitemInPython_of_ne hT.not_modules]
 refine wpAny_bind (wpAny_specialOf hT hl ?_)
 have fin:wpAny (model prog w) A (subscripted slice false o i) (fun r s₃=>wpAny (model prog w) A (letTemporaryGo value o r >>= fun _=>pure r) Q E s₃) E s₂:=by
  rw [hs o i]
  exact wpAny_operating (wpAny_mono h₂ (fun r s₃ h₃=>wpAny_bind (wpAny_letTemporaryGo (wpAny_pure h₃))) fun _ _ x=>x)
 first
  | exact wpAny_pure (wpAny_bind fin)
  | exact wpAny_bind (wpAny_pure (wpAny_bind fin))
  | exact wpAny_bind fin
theorem dict_typeIs {X:Cx}{pins:List (Addr×Obj)}{σ:St}{H:Hp}{s:Shared}{a:Addr}{y:V}{o:Option V} (I:Inv X pins σ H s) (g:DGet H a y o):s.TypeIs (.ref a) "dict":=by
 rcases g with⟨kvs,k,e,_,_⟩ | g
 ·obtain⟨_,_,vs,_,dd⟩:=dk_rd I.hok e
  exact dd.typeIs
 ·exact g.elim
noncomputable def tDGet (td ty:TE):TE:=fun σ H Q=>td σ H fun x H1=>ty σ H1 fun y H2=>∃ a v,x=.ref a/\DGet H2 a y (some v)/\Q v H2
noncomputable def tDIn (ty td:TE):TE:=fun σ H Q=>ty σ H fun y H1=>td σ H1 fun x H2=>∃ a o,x=.ref a/\DGet H2 a y o/\Q (.bl o.isSome) H2
noncomputable def sDPut (td ty tv:TE):TS:=fun D σ H=>tv σ H fun v H1=>td σ H1 fun x H2=>ty σ H2 fun y H3=>∃ a H4,x=.ref a/\DPut H3 a y v H4/\D.nx σ H4
section
variable {X:Cx}{o i e value:Expr}{pos pos' tpos:Pos}{td ty tv:TE}
theorem pe_dget (hu:X.A.units+1 < cLine) (ho:PE X o td) (hi:PE X i ty) (hs:NoSl i):PE X (.Subscript o i pos) (tDGet td ty):=by
 intro pins s σ H Q I h
 refine subD_of PySem.F.slot_dict_getitem.lookup hs (thn (ho pins s σ H _ I h) fun u s1 q9=>?_)
 obtain⟨x,H1,I1,rx,q1⟩:=q9
 refine thn (hi pins s1 σ H1 _ I1 q1) fun iv s2 q9=>?_
 obtain⟨y,H2,I2,ry,a,v,ex,g,q2⟩:=q9
 subst ex
 obtain rfl:u=Value.ref a:=rx
 exact⟨dict_typeIs I2 g,d_getItem hu I2 g ry fun w' s3 I3 rw'=>⟨v,H2,I3,rw',q2⟩⟩
theorem pc_din (hu:X.A.units+1 < cLine) (hi:PE X i ty) (ho:PE X o td):PC X .In i o (tDIn ty td):=by
 intro pins s σ H Q I h
 refine thn (hi pins s σ H _ I h) fun iv s1 q9=>?_
 obtain⟨y,H1,I1,ry,q1⟩:=q9
 refine thn (ho pins s1 σ H1 _ I1 q1) fun u s2 q9=>?_
 obtain⟨x,H2,I2,rx,a,ov,ex,g,q2⟩:=q9
 subst ex
 obtain rfl:u=Value.ref a:=rx
 exact d_in hu I2 g ry fun s3 I3=>⟨.bl ov.isSome,H2,I3,rfl,q2⟩
theorem ps_dput (hu:X.A.units+1 < cLine) (ho:PE X o td) (hi:PE X i ty) (hv:PE X value tv) (hs:swapsWith value (some (.Subscript o i pos')) pos.line X.env=pure false):
  PS X (.Assign [.Subscript o i pos'] value pos) (sDPut td ty tv):=by
 intro pins s σ H D I h
 refine wpAny_Assign_Subscript (thn (hv pins s σ H _ I h) fun r s1 q9=>?_) hs
 obtain⟨v,H1,I1,rv,q1⟩:=q9
 refine thn (ho pins s1 σ H1 _ I1 q1) fun u s2 q9=>?_
 obtain⟨x,H2,I2,rx,q2⟩:=q9
 refine thn (hi pins s2 σ H2 _ I2 q2) fun iv s3 q9=>?_
 obtain⟨y,H3,I3,ry,a,H4,ex,g,q3⟩:=q9
 subst ex
 obtain rfl:u=Value.ref a:=rx
 exact d_setItem hu I3 g ry rv fun s4 I4=>⟨σ,H4,I4,q3⟩
end
theorem dk_empty {P:Program}{w:World}{H:Hp} (h:Heap) (hb:sysModules < h.objs.size):ObjOk P w H (h.push { cls:=.type "dict",data:=.dict #[] }) h.objs.size (.dK []):=
 ⟨Nat.zero_le _,beq_eq_false_iff_ne.mpr (Ne.symm (Nat.ne_of_lt hb)),[],.nil,Heap.DictOf.new h⟩
noncomputable def tDNewK:TE:=fun _ H Q=>∀ p,H p=none->Q (.ref p) (upd H p (.dK []))
section
variable {X:Cx}{pos:Pos}
theorem pe_dnewK:PE X (.Dict [] [] pos) tDNewK:=fun pins s σ H Q I h=>
 wpAny_Dict_empty ⟨.ref s.heap.objs.size,_,I.laid (a:=s.heap.objs.size) (o:=.dK []) (t':=s.toks) (fun _ _ q=>Heap.get?_push_of_some _ q) (Nat.le_refl _) (dk_empty s.heap I.big),rfl,h _ (I.hok.fresh (Nat.le_refl _))⟩
end
structure M1 (X:Cx) (o:Expr) (m:Str) (apos:Pos) (e:Expr) (cpos:Pos):Prop where
 base:attributeBase o m X.env (eval o X.env)=eval o X.env
 few:((backTo cpos (starEach [e] X.env)).all (fun x=>!x.1)&&(backToKw cpos (keywordEach [] X.env)).all (fun x=>x.1.isSome)
  && decide (([e]:List Expr).length+([]:List Keyword).length+(if ([]:List Keyword).isEmpty then 0 else 1) < 30))=true
 line:(apos.endLine==cpos.line)=true
 trees:backTo cpos (starEach [e] X.env)=[(false,eval e X.env)]
structure M2 (X:Cx) (o:Expr) (m:Str) (apos:Pos) (e f:Expr) (cpos:Pos):Prop where
 base:attributeBase o m X.env (eval o X.env)=eval o X.env
 few:((backTo cpos (starEach [e,f] X.env)).all (fun x=>!x.1)&&(backToKw cpos (keywordEach [] X.env)).all (fun x=>x.1.isSome)
  && decide (([e,f]:List Expr).length+([]:List Keyword).length+(if ([]:List Keyword).isEmpty then 0 else 1) < 30))=true
 line:(apos.endLine==cpos.line)=true
 trees:backTo cpos (starEach [e,f] X.env)=[(false,eval e X.env),(false,eval f X.env)]
noncomputable def IsD (H:Hp) (a:Addr):Prop:=(∃ kvs,Rd H a (.dK kvs))\/False
theorem isD_at {X:Cx}{pins:List (Addr×Obj)}{σ:St}{H:Hp}{s:Shared}{a:Addr} (I:Inv X pins σ H s) (d:IsD H a):
  s.TypeIs (.ref a) "dict"/\(∀ b,Value.ref a=.ref b->∃ ob,s.heap.get? b=some ob/\ob.dict=none)/\(a==sysModules)=false:=by
 rcases d with⟨kvs,e⟩ | d
 ·obtain⟨_,hd,vs,_,dd⟩:=dk_rd I.hok e
  refine⟨dd.typeIs,fun b q=>?_,hd⟩
  cases q
  obtain⟨ob,_,_,h1,h2,_⟩:=dd
  exact⟨ob,h1,h2.2.1⟩
 ·exact d.elim
section
variable {X:Cx}{pins:List (Addr×Obj)}{σ:St}{H:Hp}{s:Shared}{a:Addr}{y d:V}{u r:Value}{o:Option V}{A:Around}{E:Value->Shared->Prop}
theorem d_get1 {Q:Value->Shared->Prop} (hu:A.units+1 < cLine) (I:Inv X pins σ H s) (g:DGet H a y o) (ry:RelV y u) (h:∀ w' s',Inv X pins σ H s'->RelV (o.getD .non) w'->Q w' s'):
  wpAny (model X.prog X.w) A (call (.builtin "dict.get") [.ref a,u]) Q E s:=by
 rcases g with⟨kvs,k,e,ey,l⟩ | g
 ·subst ey
  obtain⟨z,hd,vs,rel,dd⟩:=dk_rd I.hok e
  refine call_meetsIn PySem.F.slot_dict_get dd.typeIs PySem.F.entry_dict_get (PySem.F.args_dict_get_2 _ _) (meets_dict_get (mixKind X.prog X.w) a (kV_is ry) hd) ⟨_,dd.mapOf,h _ _ (I.tok _) ?_⟩
  rw [l]
  exact (rel.val k).getD rfl
 ·exact g.elim
end
noncomputable def tDGet1 (td ty:TE):TE:=fun σ H Q=>td σ H fun x H1=>∃ a,x=.ref a/\IsD H1 a/\ty σ H1 fun y H2=>∃ o,DGet H2 a y o/\Q (o.getD .non) H2
noncomputable def tDPop1 (td ty:TE):TE:=fun σ H Q=>td σ H fun x H1=>∃ a,x=.ref a/\IsD H1 a/\ty σ H1 fun y H2=>∃ kvs k v,H2 a=some (.dK kvs)/\y=kV k/\valV kvs k=some v/\Q v (upd H2 a (.dK (dropK kvs k)))
section
variable {X:Cx}{o e f:Expr}{apos cpos:Pos}{td ty tx:TE}
theorem pe_dget1 (hu:X.A.units+1 < cLine) (ho:PE X o td) (he:PE X e ty) (m:M1 X o "get" apos e cpos):PE X (.Call (.Attribute o "get" apos) [e] [] cpos) (tDGet1 td ty):=by
 intro pins s σ H Q I h
 refine wpAny_Call_method m.base m.few m.line PySem.F.plainAttrs_dict PySem.F.slot_dict_get PySem.F.type_dict_get (thn (ho pins s σ H _ I h) fun u s1 q9=>?_)
 obtain⟨x,H1,I1,rx,a,ex,d,q1⟩:=q9
 subst ex
 obtain rfl:u=Value.ref a:=rx
 obtain⟨t1,t2,_⟩:=isD_at I1 d
 refine⟨t1,t2,?_⟩
 rw [m.trees]
 refine Calls.callWith_builtin rfl (Calls.evalArgs_plain (Calls.spliced_cons (thn (he pins s1 σ H1 _ I1 q1) fun iv s2 q9=>?_)))
 obtain⟨y,H2,I2,ry,ov,g,q2⟩:=q9
 refine Calls.spliced_nil ?_
 exact d_get1 hu I2 g ry fun w' s3 I3 rw'=>⟨_,H2,I3,rw',q2⟩
theorem pe_dpop1 (ho:PE X o td) (he:PE X e ty) (m:M1 X o "pop" apos e cpos):PE X (.Call (.Attribute o "pop" apos) [e] [] cpos) (tDPop1 td ty):=by
 intro pins s σ H Q I h
 refine wpAny_Call_method m.base m.few m.line PySem.F.plainAttrs_dict PySem.F.slot_dict_pop PySem.F.type_dict_pop (thn (ho pins s σ H _ I h) fun u s1 q9=>?_)
 obtain⟨x,H1,I1,rx,a,ex,d,q1⟩:=q9
 subst ex
 obtain rfl:u=Value.ref a:=rx
 obtain⟨t1,t2,_⟩:=isD_at I1 d
 refine⟨t1,t2,?_⟩
 rw [m.trees]
 refine Calls.callWith_builtin rfl (Calls.evalArgs_plain (Calls.spliced_cons (thn (he pins s1 σ H1 _ I1 q1) fun iv s2 q9=>?_)))
 obtain⟨y,H2,I2,ry,kvs,k,v,ea,ey,l,q2⟩:=q9
 refine Calls.spliced_nil ?_
 subst ey
 exact d_pop I2 ea ry l (.inl rfl) fun w' s3 I3 rw'=>⟨v,_,I3,rw',q2⟩
end
section
variable {X:Cx}{pins:List (Addr×Obj)}{σ:St}{H:Hp}{s:Shared}{a:Addr}{kvs:List (Key×V)}{A:Around}{E:Value->Shared->Prop}
end
section
variable {X:Cx}{pins:List (Addr×Obj)}{σ:St}{H:Hp}{s:Shared}{a:Addr}{y:V}{u:Value}{A:Around}{E:Value->Shared->Prop}
end
end L2
namespace L2
open PySem PySem.Spec PyProof.Rows
section
variable {P:Program}{w:World}{K:PySem.W.Frag}{mg:Str->Option Value}{base:Heap}
end
section
variable {X:Cx}
theorem call_lenD:CallR X (.builtin "len") (fun xs H Q=>∃ a kvs,xs=[V.ref a]/\H a=some (.dK kvs)/\Q (.int kvs.length) H):=by
 intro pins s σ H xs us Q I r h
 obtain⟨a,kvs,rfl,ha,q⟩:=h
 obtain⟨u,rfl,ru⟩:=vals1 r
 cases ru
 exact d_len I (.inl ha) fun t s' I'=>⟨.int kvs.length,H,I',⟨t,rfl⟩,q⟩
end
section
variable {κ:Type} [DecidableEq κ]
end
end L2
namespace DL
open PySem PySem.Spec PyProof.Rows L2
section
variable {α:Type}
noncomputable def valE (kvs:List (Key×α)) (k:Key):Option α:=(kvs.find? fun kv=>decide (kv.1=k)).map (·.2)
noncomputable def putE (kvs:List (Key×α)) (k:Key) (v:α):List (Key×α):=
 if (kvs.any fun kv=>decide (kv.1=k))=true then kvs.map (fun kv=>if kv.1=k then (kv.1,v) else kv) else kvs++[(k,v)]
noncomputable def dropE (kvs:List (Key×α)) (k:Key):List (Key×α):=kvs.filter fun kv=>decide (kv.1≠k)
end
noncomputable abbrev PKV (K:PySem.W.Frag) (as:List Addr) (H:Hp) (kvs:List (Key×D)) (ws:List (Key×V)):Prop:=Paired (fun (p:Key×D) (q:Key×V)=>p.1=q.1/\RelD K as H p.2 q.2) kvs ws
section
variable {K:PySem.W.Frag}{as:List Addr}{H:Hp}
theorem pkv_val (k:Key):∀ {kvs:List (Key×D)}{ws:List (Key×V)},PKV K as H kvs ws->(valE kvs k=none/\valV ws k=none)\/∃ d v,valE kvs k=some d/\valV ws k=some v/\RelD K as H d v
 | _,_,.nil=>.inl ⟨rfl,rfl⟩
 | _,_,.cons (a:=p) (b:=q) (l₁:=kvs) (l₂:=ws) ⟨e,r⟩ t=>by
  by_cases c:p.1=k
  ·refine .inr ⟨p.2,q.2,?_,?_,r⟩
   ·simp [valE,List.find?_cons,c]
   ·exact valV_pos (by rw [<-e]; exact c)
  ·have i1:valE (p::kvs) k=valE kvs k:=by simp [valE,List.find?_cons,c]
   have i2:valV (q::ws) k=valV ws k:=valV_neg (by rw [<-e]; exact c)
   rw [i1,i2]
   exact pkv_val k t
theorem pkv_any (k:Key):∀ {kvs:List (Key×D)}{ws:List (Key×V)},PKV K as H kvs ws->(kvs.any fun kv=>decide (kv.1=k))=(ws.any fun kv=>decide (kv.1=k))
 | _,_,.nil=>rfl
 | _,_,.cons (a:=p) (b:=q) ⟨e,r⟩ t=>by
  rw [List.any_cons,List.any_cons,pkv_any k t,e]
theorem pkv_repl (k:Key) {d:D}{v:V} (rd:RelD K as H d v):∀ {kvs:List (Key×D)}{ws:List (Key×V)},PKV K as H kvs ws->PKV K as H (kvs.map fun kv=>if kv.1=k then (kv.1,d) else kv) (ws.map fun kv=>if kv.1=k then (kv.1,v) else kv)
 | _,_,.nil=>.nil
 | _,_,.cons (a:=p) (b:=q) ⟨e,r⟩ t=>by
  refine .cons ?_ (pkv_repl k rd t)
  dsimp only
  by_cases c:p.1=k
  ·rw [if_pos c,if_pos (by rw [<-e]; exact c)]
   exact⟨e,rd⟩
  ·rw [if_neg c,if_neg (by rw [<-e]; exact c)]
   exact⟨e,r⟩
theorem pkv_put (k:Key) {d:D}{v:V} (rd:RelD K as H d v) {kvs:List (Key×D)}{ws:List (Key×V)} (r:PKV K as H kvs ws):PKV K as H (putE kvs k d) (putK ws k v):=by
 unfold putE putK
 rw [pkv_any k r]
 split
 ·exact pkv_repl k rd r
 ·exact Pd.app r (.cons ⟨rfl,rd⟩ .nil)
theorem pkv_drop (k:Key):∀ {kvs:List (Key×D)}{ws:List (Key×V)},PKV K as H kvs ws->PKV K as H (dropE kvs k) (dropK ws k)
 | _,_,.nil=>.nil
 | _,_,.cons (a:=p) (b:=q) (l₁:=kvs) (l₂:=ws) ⟨e,r⟩ t=>by
  unfold dropE dropK
  by_cases c:p.1=k
  ·rw [List.filter_cons_of_neg (by simp [c]),List.filter_cons_of_neg (by simp [<-e,c])]
   exact pkv_drop k t
  ·rw [List.filter_cons_of_pos (by simp [c]),List.filter_cons_of_pos (by simp [<-e,c])]
   exact .cons ⟨e,r⟩ (pkv_drop k t)
theorem pkv_mono {as1:List Addr}{H1:Hp} (x:Ext as H as1 H1) {kvs:List (Key×D)}{ws:List (Key×V)} (r:PKV K as H kvs ws):PKV K as1 H1 kvs ws:=Pd.imp (fun _ _ q=>⟨q.1,q.2.mono x⟩) r
end
noncomputable def dctAt (h:Hh) (n:Nat):Option (List (Key×D)):=match h[n]? with
 | some (.dct kvs)=>some kvs
 | _=>none
theorem dctAt_of {h:Hh}{n:Nat}{kvs:List (Key×D)} (e:h[n]?=some (.dct kvs)):dctAt h n=some kvs:=by
 unfold dctAt; rw [e]
theorem of_dctAt {h:Hh}{n:Nat}{kvs:List (Key×D)} (e:dctAt h n=some kvs):h[n]?=some (.dct kvs):=by
 unfold dctAt at e
 split at e
 ·rename_i q
  cases e
  exact q
 ·cases e
noncomputable def keyD:D->Option Key
 | .int i=>some (.inl i)
 | .str x=>some (.inr x)
 | _=>none
theorem keyD_rel {K:PySem.W.Frag}{as:List Addr}{H:Hp}{y:D}{u:V}{k:Key} (r:RelD K as H y u) (e:keyD y=some k):u=kV k:=by
 cases y with
 | int i=>cases r; cases e; rfl
 | str x=>cases r; cases e; rfl
 | _=>cases e
theorem ext_dct {K:PySem.W.Frag}{as:List Addr}{H:Hp}{h:Hh}{a:Addr}{n:Nat}{kvs:List (Key×D)}{ws:List (Key×V)} (r:RelH K as H h) (hn:as[n]?=some a) (ho:h[n]?=some (.dct kvs)):Ext as H as (upd H a (.dK ws)):=by
 obtain⟨vs,e,_⟩:=r.obj n a _ hn ho
 exact ext_set e (fun xs z=>by cases z) (fun b x z=>by cases z)
theorem RelH.setD {K:PySem.W.Frag}{as:List Addr}{H:Hp}{h:Hh}{a:Addr}{n:Nat}{kvs kvs':List (Key×D)}{ws:List (Key×V)} (r:RelH K as H h) (hn:as[n]?=some a) (ho:h[n]?=some (.dct kvs)) (rd:PKV K as H kvs' ws):RelH K as (upd H a (.dK ws)) (h.set n (.dct kvs')):=
 r.put hn ho (ext_dct r hn ho) ⟨ws,upd_same,pkv_mono (ext_dct r hn ho) rd⟩
noncomputable def oDget:O2:=fun x y h=>match x with
 | .lst n=>(dctAt h n).bind fun kvs=>(keyD y).bind fun k=>(valE kvs k).map fun d=>(d,h)
 | _=>none
noncomputable def oDin:O2:=fun y x h=>match x with
 | .lst n=>(dctAt h n).bind fun kvs=>(keyD y).map fun k=>(.bl (valE kvs k).isSome,h)
 | _=>none
noncomputable def oLenD:OC:=fun ds h=>match ds with
 | [.lst n]=>(dctAt h n).map fun kvs=>(.int kvs.length,h)
 | _=>none
noncomputable def fDct:FE:=fun _ h=>.ok (.lst h.length) (h++[.dct []])
noncomputable def dPut (x y d:D) (h:Hh):Option Hh:=match x with
 | .lst n=>(dctAt h n).bind fun kvs=>(keyD y).bind fun k=>if kvs.length < sizeLine then some (h.set n (.dct (putE kvs k d))) else none
 | _=>none
noncomputable def fDput (f fo fi:FE):FS:=fun e h=>(f e h).out e fun d h1=>(fo e h1).out e fun x h2=>(fi e h2).out e fun y h3=>outO (dPut x y d h3) e
noncomputable def dctOk (x:D) (h:Hh):Bool:=match x with
 | .lst n=>(dctAt h n).isSome
 | _=>false
noncomputable def oDpop:O2:=fun x y h=>match x with
 | .lst n=>(dctAt h n).bind fun kvs=>(keyD y).bind fun k=>(valE kvs k).map fun d=>(d,h.set n (.dct (dropE kvs k)))
 | _=>none
noncomputable def oDg1:O2:=fun x y h=>match x with
 | .lst n=>(dctAt h n).bind fun kvs=>(keyD y).map fun k=>((valE kvs k).getD .non,h)
 | _=>none
noncomputable def fDm (r:O2) (f g:FE):FE:=fun env h=>(f env h).bind fun x h1=>if dctOk x h1=true then (g env h1).bind fun y h2=>.ofO (r x y h2) else .bad
section
variable {h:Hh}{n:Nat}{kvs:List (Key×D)} (e:h[n]?=some (.dct kvs))
include e
theorem oDget_ok {y d:D}{k:Key} (ek:keyD y=some k) (ev:valE kvs k=some d):oDget (.lst n) y h=some (d,h):=by
 show ((dctAt h n).bind fun kvs=>(keyD y).bind fun k=>(valE kvs k).map fun d=>(d,h))=_
 rw [dctAt_of e,Option.bind_some,ek,Option.bind_some,ev]; rfl
theorem oDin_ok {y:D}{k:Key} (ek:keyD y=some k):oDin y (.lst n) h=some (.bl (valE kvs k).isSome,h):=by
 show ((dctAt h n).bind fun kvs=>(keyD y).map fun k=>(D.bl (valE kvs k).isSome,h))=_
 rw [dctAt_of e,Option.bind_some,ek]; rfl
theorem oLenD_ok:oLenD [.lst n] h=some (.int kvs.length,h):=by
 show ((dctAt h n).map fun kvs=>(D.int kvs.length,h))=_
 rw [dctAt_of e]; rfl
theorem dPut_ok {y d:D}{k:Key} (ek:keyD y=some k) (c:kvs.length < sizeLine):dPut (.lst n) y d h=some (h.set n (.dct (putE kvs k d))):=by
 show ((dctAt h n).bind fun kvs=>(keyD y).bind fun k=>if kvs.length < sizeLine then some (h.set n (.dct (putE kvs k d))) else none)=_
 rw [dctAt_of e,Option.bind_some,ek,Option.bind_some,if_pos c]
theorem oDpop_ok {y d:D}{k:Key} (ek:keyD y=some k) (ev:valE kvs k=some d):oDpop (.lst n) y h=some (d,h.set n (.dct (dropE kvs k))):=by
 show ((dctAt h n).bind fun kvs=>(keyD y).bind fun k=>(valE kvs k).map fun d=>(d,h.set n (.dct (dropE kvs k))))=_
 rw [dctAt_of e,Option.bind_some,ek,Option.bind_some,ev]; rfl
theorem oDg1_ok {y:D}{k:Key} (ek:keyD y=some k):oDg1 (.lst n) y h=some ((valE kvs k).getD .non,h):=by
 show ((dctAt h n).bind fun kvs=>(keyD y).map fun k=>((valE kvs k).getD .non,h))=_
 rw [dctAt_of e,Option.bind_some,ek]; rfl
theorem dctOk_ok:dctOk (.lst n) h=true:=by
 show (dctAt h n).isSome=true
 rw [dctAt_of e]; rfl
end
theorem units1 {k:Nat}{A:Around} (hr:Room k A):A.units+1 < cLine:=by have:=hr.units; lia
section
variable {X:Cx}{a b o i e:Expr}{f g fo fi:FE}{pos pos' apos cpos p:Pos}{k:Nat}
theorem dct_rel {as:List Addr}{H:Hp}{h:Hh}{n:Nat}{v:V}{kvs:List (Key×D)} (rh:RelH X.K as H h) (rx:RelD X.K as H (.lst n) v) (q:dctAt h n=some kvs):∃ a ws,v=.ref a/\as[n]?=some a/\H a=some (.dK ws)/\PKV X.K as H kvs ws:=by
 cases rx with
 | @lst _ a ha=>
  obtain⟨ws,hw,r⟩:=rh.obj n a _ ha (of_dctAt q)
  exact⟨a,ws,rfl,ha,hw,r⟩
theorem de_dget (hr:Room k X.A) (ho:DE X o f) (hi:DE X i g) (hs:NoSl i:=by intro _ _; rfl):DE X (.Subscript o i pos) (f2 oDget f g):=
 peOf (pe_dget (units1 hr) ho hi hs) fun σ H Q q9=>by obtain⟨as,env,h,re,rh,p⟩:=q9; exact⟨as,env,h,re,rh,(PX.bind p).imp fun as1 H1 h1 x e1 rh1 p1 v rv=>⟨as1,env,h1,re.mono e1,rh1,(PX.bind p1).imp fun as2 H2 h2 y e2 rh2 p2 u ru=>by
  have rv2:=rv.mono e2
  have p3:=PX.pq p2
  cases x with
  | lst n=>
   have p3:PQ X.K as2 H2 ((dctAt h2 n).bind fun kvs=>(keyD y).bind fun k=>(valE kvs k).map fun d=>(d,h2)) Q:=p3
   cases q:dctAt h2 n with
   | none=>rw [q] at p3; exact p3.elim
   | some kvs=>
    cases q2:keyD y with
    | none=>rw [q,q2] at p3; exact p3.elim
    | some key=>
     obtain⟨a,ws,rfl,_,hw,r⟩:=dct_rel rh2 rv2 q
     rcases pkv_val key r with⟨n1,n2⟩ | ⟨d,v,n1,n2,rd⟩
     ·rw [q,q2,Option.bind_some,Option.bind_some,n1] at p3
      exact p3.elim
     ·rw [q,q2,Option.bind_some,Option.bind_some,n1] at p3
      refine⟨a,v,rfl,?_,p3 as2 H2 v (Ext.refl _ _) rh2 rd⟩
      rw [keyD_rel ru q2,<-n2]
      exact DGet.k hw
  | _=>exact p3.elim⟩⟩
theorem din_of (σ:St) (H:Hp) (Q:VK) (q:tE X (f2 oDin g f) σ H Q):tDIn (tE X g) (tE X f) σ H Q:=
 (show ∀ σ H Q,tE X (f2 oDin g f) σ H Q->tDIn (tE X g) (tE X f) σ H Q from fun σ H Q q9=>by obtain⟨as,env,h,re,rh,p⟩:=q9; exact⟨as,env,h,re,rh,(PX.bind p).imp fun as1 H1 h1 y e1 rh1 p1 u ru=>⟨as1,env,h1,re.mono e1,rh1,(PX.bind p1).imp fun as2 H2 h2 x e2 rh2 p2 v rv=>by
  have ru2:=ru.mono e2
  have p3:=PX.pq p2
  cases x with
  | lst n=>
   have p3:PQ X.K as2 H2 ((dctAt h2 n).bind fun kvs=>(keyD y).map fun k=>(D.bl (valE kvs k).isSome,h2)) Q:=p3
   cases q:dctAt h2 n with
   | none=>rw [q] at p3; exact p3.elim
   | some kvs=>
    cases q2:keyD y with
    | none=>rw [q,q2] at p3; exact p3.elim
    | some key=>
     obtain⟨a,ws,rfl,_,hw,r⟩:=dct_rel rh2 rv q
     rw [q,q2] at p3
     refine⟨a,valV ws key,rfl,by rw [keyD_rel ru2 q2]; exact DGet.k hw,?_⟩
     have:(valV ws key).isSome=(valE kvs key).isSome:=by
      rcases pkv_val key r with⟨n1,n2⟩ | ⟨d,v,n1,n2,rd⟩<;>rw [n1,n2]<;>rfl
     rw [this]
     exact p3 as2 H2 _ (Ext.refl _ _) rh2 (.bl _)
  | _=>exact p3.elim⟩⟩) σ H Q q
theorem de_din (hr:Room k X.A) (hi:DE X i g) (ho:DE X o f) (hm:behindInMarks .In o=false:=by rfl):DE X (.Compare i [.In] [o] pos) (f2 oDin g f):=peOf (pe_cmp (pc_din (units1 hr) hi ho) hm) din_of
theorem dt_din (hr:Room k X.A) (hi:DE X i g) (ho:DE X o f) (hm:behindInMarks .In o=false:=by rfl):DT X (.Compare i [.In] [o] pos) (fB (f2 oDin g f)):=ptOf (pt_cmp (pc_din (units1 hr) hi ho) hm) fun σ H Q q=>din_of σ H _ (tB_of σ H Q q)
theorem de_dct:DE X (.Dict [] [] pos) fDct:=
 peOf pe_dnewK fun σ H Q q9 q hq=>by obtain⟨as,env,h,re,rh,p⟩:=q9; exact p (as++[q]) _ (ext_new hq) (rh.new hq ⟨[],upd_same,.nil⟩) _ (.lst (by rw [<-rh.len]; exact List.getElem?_concat_length))
theorem im_lenD {K:PySem.W.Frag}:ImC K (fun xs H Q=>∃ a kvs,xs=[V.ref a]/\H a=some (.dK kvs)/\Q (.int kvs.length) H) oLenD:=by
 intro as H h ds vs Q rh rd p
 match ds,rd,p with
 | [.lst n],rd,p=>
  have p':PQ K as H ((dctAt h n).map fun kvs=>(D.int kvs.length,h)) Q:=p
  obtain⟨v,rfl,rv⟩:=rd.one
  cases rv with
  | @lst _ a ha=>
   cases q:dctAt h n with
   | none=>rw [q] at p'; exact p'.elim
   | some kvs=>
    rw [q] at p'
    obtain⟨ws,hw,r⟩:=rh.obj n a _ ha (of_dctAt q)
    refine⟨a,ws,rfl,hw,?_⟩
    rw [<-Paired.length r]
    exact p' as H _ (Ext.refl _ _) rh (.int _)
 | [],_,p=>exact p.elim
 | [.non],_,p=>exact p.elim
 | [.bl _],_,p=>exact p.elim
 | [.int _],_,p=>exact p.elim
 | [.str _],_,p=>exact p.elim
 | [.tup _],_,p=>exact p.elim
 | [.ro _],_,p=>exact p.elim
 | d::e::r,_,p=>cases d<;>exact p.elim
theorem de_lenD {es:List Expr}{fs:List FE} (hm:X.mg "len"=none) (ha:DA X (e::es) (fAll fs)) (hg:Gl X "len":=by rfl) (he:starEach (e::es) X.env=(false,eval e X.env)::starEach es X.env:=by rfl) (hpl:(backTo pos (starEach es X.env)).any (·.1)=false:=by rfl):
  DE X (.Call (.Name "len" p) (e::es) [] pos) (fc oLenD (fAll fs)):=de_callB call_lenD im_lenD hg hm PySem.boot_len ha (by decide) (by decide) he hpl
theorem ds_dput (hr:Room k X.A) (he:DE X e f) (ho:DE X o fo) (hi:DE X i fi) (hs:swapsWith e (some (.Subscript o i pos')) pos.line X.env=pure false:=by rfl):DS X (.Assign [.Subscript o i pos'] e pos) (fDput f fo fi):=
 psOf (ps_dput (units1 hr) ho hi he hs) fun Dn σ H q9=>by obtain⟨as,env,h,re,rh,p⟩:=q9; exact⟨as,env,h,re,rh,(PX.of_out p).imp fun as1 H1 h1 d e1 rh1 p1 v rv=>
  ⟨as1,env,h1,re.mono e1,rh1,(PX.of_out p1).imp fun as2 H2 h2 x e2 rh2 p2 u ru=>⟨as2,env,h2,(re.mono e1).mono e2,rh2,(PX.of_out p2).imp fun as3 H3 h3 y e3 rh3 p3 w rw'=>by
   have rv3:=(rv.mono e2).mono e3
   have ru3:=ru.mono e3
   have re3:=((re.mono e1).mono e2).mono e3
   cases x with
   | lst n=>
    have p3:POut X as3 H3 Dn (outO ((dctAt h3 n).bind fun kvs=>(keyD y).bind fun k=>if kvs.length < sizeLine then some (h3.set n (.dct (putE kvs k d))) else none) env):=p3
    cases q:dctAt h3 n with
    | none=>rw [q] at p3; exact p3.elim
    | some kvs=>
     cases q2:keyD y with
     | none=>rw [q,q2] at p3; exact p3.elim
     | some key=>
      rw [q,q2,Option.bind_some,Option.bind_some] at p3
      obtain⟨a,ws,rfl,hn,hw,r⟩:=dct_rel rh3 ru3 q
      by_cases c:kvs.length < sizeLine
      ·rw [if_pos c] at p3
       have ex:=ext_dct (ws:=putK ws key v) rh3 hn (of_dctAt q)
       refine⟨a,upd H3 a (.dK (putK ws key v)),rfl,?_,p3 as3 _ σ ex (RelH.setD rh3 hn (of_dctAt q) (pkv_put key rv3 r)) (re3.mono ex)⟩
       rw [keyD_rel rw' q2]
       exact DPut.k hw (by rw [<-Paired.length r]; exact c)
      ·rw [if_neg c] at p3
       exact p3.elim
   | _=>exact p3.elim⟩⟩⟩
theorem dctOk_rel {as:List Addr}{H:Hp}{h:Hh}{x:D}{v:V} (rh:RelH X.K as H h) (rx:RelD X.K as H x v) (c:dctOk x h=true):∃ n a,x=.lst n/\v=.ref a/\IsD H a:=by
 cases x with
 | lst n=>
  obtain⟨kvs,q⟩:=Option.isSome_iff_exists.mp (show (dctAt h n).isSome=true from c)
  obtain⟨a,ws,rfl,_,hw,_⟩:=dct_rel rh rx q
  exact⟨n,a,rfl,rfl,.inl ⟨ws,.inl hw⟩⟩
 | _=>cases c
theorem m1_mk {o e:Expr}{m:Str}{apos cpos:Pos} (base:attributeBase o m X.env (eval o X.env)=eval o X.env)
  (few:((backTo cpos (starEach [e] X.env)).all (fun x=>!x.1)&&(backToKw cpos (keywordEach [] X.env)).all (fun x=>x.1.isSome)&&decide (([e]:List Expr).length+([]:List Keyword).length+(if ([]:List Keyword).isEmpty then 0 else 1) < 30))=true)
  (line:(apos.endLine==cpos.line)=true) (trees:backTo cpos (starEach [e] X.env)=[(false,eval e X.env)]):L2.M1 X o m apos e cpos:=⟨base,few,line,trees⟩
theorem de_dpop (ho:DE X o f) (he:DE X e g) (hbase:attributeBase o "pop" X.env (eval o X.env)=eval o X.env:=by rfl)
  (hfew:((backTo cpos (starEach [e] X.env)).all (fun x=>!x.1)&&(backToKw cpos (keywordEach [] X.env)).all (fun x=>x.1.isSome)&&decide (([e]:List Expr).length+([]:List Keyword).length+(if ([]:List Keyword).isEmpty then 0 else 1) < 30))=true:=by rfl)
  (hline:(apos.endLine==cpos.line)=true:=by rfl) (htr:backTo cpos (starEach [e] X.env)=[(false,eval e X.env)]:=by rfl):DE X (.Call (.Attribute o "pop" apos) [e] [] cpos) (fDm oDpop f g):=
 peOf (pe_dpop1 ho he (m1_mk hbase hfew hline htr)) fun σ H Q q9=>by obtain⟨as,env,h,re,rh,p⟩:=q9; exact⟨as,env,h,re,rh,(PX.bind p).imp fun as1 H1 h1 x e1 rh1 p1 v rv=>by
  by_cases c:dctOk x h1=true
  ·rw [if_pos c] at p1
   obtain⟨n,a,rfl,rfl,isd⟩:=dctOk_rel rh1 rv c
   refine⟨a,rfl,isd,as1,env,h1,re.mono e1,rh1,(PX.bind p1).imp fun as2 H2 h2 y e2 rh2 p2 u ru=>?_⟩
   have rv2:=rv.mono e2
   have p3:PQ X.K as2 H2 ((dctAt h2 n).bind fun kvs=>(keyD y).bind fun k=>(valE kvs k).map fun d=>(d,h2.set n (.dct (dropE kvs k)))) Q:=PX.pq p2
   cases q:dctAt h2 n with
   | none=>rw [q] at p3; exact p3.elim
   | some kvs=>
    cases q2:keyD y with
    | none=>rw [q,q2] at p3; exact p3.elim
    | some key=>
     obtain⟨a',ws,ea,hn,hw,r⟩:=dct_rel rh2 rv2 q
     cases ea
     rcases pkv_val key r with⟨n1,n2⟩ | ⟨d,v,n1,n2,rd⟩
     ·rw [q,q2,Option.bind_some,Option.bind_some,n1] at p3
      exact p3.elim
     ·rw [q,q2,Option.bind_some,Option.bind_some,n1] at p3
      have ex:=ext_dct (ws:=dropK ws key) rh2 hn (of_dctAt q)
      exact⟨ws,key,v,hw,keyD_rel ru q2,n2,p3 as2 _ v ex (RelH.setD rh2 hn (of_dctAt q) (pkv_drop key r)) (rd.mono ex)⟩
  ·rw [if_neg c] at p1
   exact p1.elim⟩
theorem de_dg1 (hr:Room k X.A) (ho:DE X o f) (he:DE X e g) (hbase:attributeBase o "get" X.env (eval o X.env)=eval o X.env:=by rfl)
  (hfew:((backTo cpos (starEach [e] X.env)).all (fun x=>!x.1)&&(backToKw cpos (keywordEach [] X.env)).all (fun x=>x.1.isSome)&&decide (([e]:List Expr).length+([]:List Keyword).length+(if ([]:List Keyword).isEmpty then 0 else 1) < 30))=true:=by rfl)
  (hline:(apos.endLine==cpos.line)=true:=by rfl) (htr:backTo cpos (starEach [e] X.env)=[(false,eval e X.env)]:=by rfl):DE X (.Call (.Attribute o "get" apos) [e] [] cpos) (fDm oDg1 f g):=
 peOf (pe_dget1 (units1 hr) ho he (m1_mk hbase hfew hline htr)) fun σ H Q q9=>by obtain⟨as,env,h,re,rh,p⟩:=q9; exact⟨as,env,h,re,rh,(PX.bind p).imp fun as1 H1 h1 x e1 rh1 p1 v rv=>by
  by_cases c:dctOk x h1=true
  ·rw [if_pos c] at p1
   obtain⟨n,a,rfl,rfl,isd⟩:=dctOk_rel rh1 rv c
   refine⟨a,rfl,isd,as1,env,h1,re.mono e1,rh1,(PX.bind p1).imp fun as2 H2 h2 y e2 rh2 p2 u ru=>?_⟩
   have rv2:=rv.mono e2
   have p3:PQ X.K as2 H2 ((dctAt h2 n).bind fun kvs=>(keyD y).map fun k=>((valE kvs k).getD .non,h2)) Q:=PX.pq p2
   cases q:dctAt h2 n with
   | none=>rw [q] at p3; exact p3.elim
   | some kvs=>
    cases q2:keyD y with
    | none=>rw [q,q2] at p3; exact p3.elim
    | some key=>
     obtain⟨a',ws,ea,hn,hw,r⟩:=dct_rel rh2 rv2 q
     cases ea
     rw [q,q2] at p3
     refine⟨valV ws key,by rw [keyD_rel ru q2]; exact DGet.k hw,?_⟩
     rcases pkv_val key r with⟨n1,n2⟩ | ⟨d,v,n1,n2,rd⟩
     ·rw [n2]
      have p3:PQ X.K as2 H2 (some ((valE kvs key).getD .non,h2)) Q:=p3
      rw [n1] at p3
      exact p3 as2 H2 _ (Ext.refl _ _) rh2 .non
     ·rw [n2]
      have p3:PQ X.K as2 H2 (some ((valE kvs key).getD .non,h2)) Q:=p3
      rw [n1] at p3
      exact p3 as2 H2 _ (Ext.refl _ _) rh2 rd
  ·rw [if_neg c] at p1
   exact p1.elim⟩
end
noncomputable def keyT:Key->D
 | .inl i=>.int i
 | .inr x=>.str x
noncomputable def oListD:OC:=fun ds h=>match ds with
 | [.lst n]=>(dctAt h n).map fun kvs=>(.lst h.length,h++[.lst (kvs.map fun p=>keyT p.1)])
 | _=>none
theorem oListD_ok {h:Hh}{n:Nat}{kvs:List (Key×D)} (e:h[n]?=some (.dct kvs)):oListD [.lst n] h=some (.lst h.length,h++[.lst (kvs.map fun p=>keyT p.1)]):=by
 show ((dctAt h n).map fun kvs=>(D.lst h.length,h++[O.lst (kvs.map fun p=>keyT p.1)]))=_
 rw [dctAt_of e]; rfl
theorem key_rel {P:Program}{w:World}{k:Key}{v:Value} (h:(mixKind P w).is k v=true):RelV (kV k) v:=by
 cases k with
 | inl i=>exact Value.isInt_shape h
 | inr x=>exact Value.isStrOf_shape h
theorem keyT_rel {K:PySem.W.Frag}{as:List Addr}{H:Hp} (k:Key):RelD K as H (keyT k) (kV k):=by
 cases k with
 | inl i=>exact .int _
 | inr x=>exact .str _
section
variable {X:Cx}{a b e:Expr}{f g:FE}{pos p:Pos}{k:Nat}
theorem call_listD (hh:X.A.handled=none):CallR X (.type "list") (fun xs H Q=>∃ a kvs,xs=[V.ref a]/\H a=some (.dK kvs)/\∀ l,H l=none->Q (.ref l) (upd H l (.lst (kvs.map fun p=>kV p.1)))):=by
 intro pins s σ H xs us Q I r h
 obtain⟨a,kvs,rfl,ha,q⟩:=h
 obtain⟨u,rfl,rx⟩:=vals1 r
 cases rx
 obtain⟨hz,lo,vs,rel,hd⟩:=dk_of I.hok ha
 obtain⟨ep,hat⟩:=hd.dictAt
 refine PySem.W.kdl_call (PySem.W.kdl_dict (knd:=mixKind X.prog X.w) (kvs:=vs) (ep:=ep) lo) hh hat (by rw [<-rel.length]; exact hz) fun h' tk acc' c' kp e hacc=>?_
 refine⟨.ref s.heap.objs.size,_,I.laid (t':=tk) kp (Nat.le_refl _) (show ObjOk X.prog X.w _ h' _ (.lst (kvs.map fun p=>kV p.1)) from⟨by rw [List.length_map]; exact hz,acc'.toList,c',?_,by first | (rw [Array.toArray_toList]; exact e) | simpa using e⟩),rfl,q _ (I.hok.fresh (Nat.le_refl _))⟩
 refine Pd.of_get (by have:=hacc.1; have:=rel.length; simp only [List.length_map,Array.length_toList]; lia) fun i x u ex eu=>?_
 obtain⟨k,y,ek,hk⟩:=hacc.2 i u (by rw [<-Array.getElem?_toList]; exact eu)
 obtain⟨q',eq,rq⟩:=Pd.getR rel ek
 rw [List.getElem?_map,eq] at ex
 cases ex
 have e1:q'.1=k:=rq.1
 show RelV (kV q'.1) u
 rw [e1]
 exact key_rel hk
theorem im_listD {K:PySem.W.Frag}:ImC K (fun xs H Q=>∃ a kvs,xs=[V.ref a]/\H a=some (.dK kvs)/\∀ l,H l=none->Q (.ref l) (upd H l (.lst (kvs.map fun p=>kV p.1)))) oListD:=by
 intro as H h ds vs Q rh rd p
 match ds,rd,p with
 | [.lst n],rd,p=>
  have p':PQ K as H ((dctAt h n).map fun kvs=>(D.lst h.length,h++[O.lst (kvs.map fun p=>keyT p.1)])) Q:=p
  obtain⟨v,rfl,rv⟩:=rd.one
  cases rv with
  | @lst _ a ha=>
   cases q:dctAt h n with
   | none=>rw [q] at p'; exact p'.elim
   | some kvs=>
    rw [q] at p'
    obtain⟨ws,hw,r⟩:=rh.obj n a _ ha (of_dctAt q)
    refine⟨a,ws,rfl,hw,fun l hl=>p' (as++[l]) _ _ (ext_new hl) (rh.newL hl ?_) (.lst (by rw [<-rh.len]; exact List.getElem?_concat_length))⟩
    refine Pd.of_get (by rw [List.length_map,List.length_map]; exact Paired.length r) fun i x u ex eu=>?_
    rw [List.getElem?_map] at ex eu
    obtain⟨p1,e1,rfl⟩:=Option.map_eq_some_iff.mp ex
    obtain⟨p2,e2,rfl⟩:=Option.map_eq_some_iff.mp eu
    obtain⟨p3,e3,r3⟩:=Pd.get r e1
    rw [e2] at e3
    cases e3
    rw [<-r3.1]
    exact keyT_rel _
 | [],_,p=>exact p.elim
 | [.non],_,p=>exact p.elim
 | [.bl _],_,p=>exact p.elim
 | [.int _],_,p=>exact p.elim
 | [.str _],_,p=>exact p.elim
 | [.tup _],_,p=>exact p.elim
 | [.ro _],_,p=>exact p.elim
 | d::e::r,_,p=>cases d<;>exact p.elim
theorem de_listD {es:List Expr}{fs:List FE} (hr:Room k X.A) (hm:X.mg "list"=none) (ha:DA X (e::es) (fAll fs)) (hg:Gl X "list":=by rfl) (he:starEach (e::es) X.env=(false,eval e X.env)::starEach es X.env:=by rfl) (hpl:(backTo pos (starEach es X.env)).any (·.1)=false:=by rfl):
  DE X (.Call (.Name "list" p) (e::es) [] pos) (fc oListD (fAll fs)):=de_callTy (call_listD hr.hd) im_listD hg hm (by decide +kernel) ha (by decide) (by decide) he hpl
end
noncomputable def oNinL:O2:=fun x y h=>match x,y with
 | .int i,.lst n=>(itemsAt h n).bind fun ds=>(intsD ds).map fun is=>(.bl (!(is.any fun j=>j==i)),h)
 | _,_=>none
theorem oNinL_ok {h:Hh}{n:Nat}{is:List Int} (e:h[n]?=some (.lst (is.map D.int))) (i:Int):oNinL (.int i) (.lst n) h=some (.bl (!(is.any fun j=>j==i)),h):=by
 show ((itemsAt h n).bind fun ds=>(intsD ds).map fun is=>(D.bl (!(is.any fun j=>j==i)),h))=_
 rw [itemsAt_of e,Option.bind_some,intsD_map]; rfl
theorem ints_rel {K:PySem.W.Frag}{as:List Addr}{H:Hp}:∀ {ds:List D}{vs:List V}{is:List Int},RelDs K as H ds vs->intsD ds=some is->vs=is.map V.int
 | [],_,_,.nil,e=>by cases e; rfl
 | d::ds,_,is,.cons r t,e=>by
  cases d with
  | int i=>
   have e:(intsD ds).map (i::·)=some is:=e
   obtain⟨js,ej,rfl⟩:=Option.map_eq_some_iff.mp e
   cases r
   rw [ints_rel t ej]
   rfl
  | _=>cases e
theorem im_ninL {K:PySem.W.Frag}:Im2 K (rIn K true) oNinL:=by
 intro as H h x y v u Q rh rx ry p
 cases x with
 | int i=>
  cases y with
  | lst n=>
   cases rx
   cases ry with
   | @lst _ a ha=>
    have p':PQ K as H ((itemsAt h n).bind fun ds=>(intsD ds).map fun is=>(D.bl (!(is.any fun j=>j==i)),h)) Q:=p
    cases e0:itemsAt h n with
    | none=>rw [e0] at p'; exact p'.elim
    | some ds=>
     cases e1:intsD ds with
     | none=>rw [e0,Option.bind_some,e1] at p'; exact p'.elim
     | some is=>
      rw [e0,Option.bind_some,e1] at p'
      obtain⟨vs,hv,rvs⟩:=rh.obj n a _ ha (of_itemsAt e0)
      have:=ints_rel rvs e1
      subst this
      refine⟨a,is.map V.int,rfl,.inl (SqL.of hv),rfl,by rw [List.all_map]; exact List.all_eq_true.mpr fun _ _=>rfl,?_⟩
      have:inV (.int i) (is.map V.int)=is.any fun j=>j==i:=by unfold inV; rw [List.any_map]; rfl
      rw [if_pos rfl,this]
      exact p' as H _ (Ext.refl _ _) rh (.bl _)
  | _=>exact p.elim
 | _=>exact p.elim
section
variable {X:Cx}{a b:Expr}{f g:FE}{pos:Pos}
theorem dt_ninL (ha:DE X a f) (hb:DE X b g) (hm:behindInMarks .NotIn b=false:=by rfl):DT X (.Compare a [.NotIn] [b] pos) (fB (f2 oNinL f g)):=dt_cmp op_notIn_seq im_ninL hm ha hb
end
end DL
namespace MD
open PySem PySem.Spec PyProof.Rows L2 DL
noncomputable def t_place_of:FS:=
 (fSeq (fSet 2 (fC (.int 0)))
  (fSeq (fWhile (fAnd (fB (f2 oLt (fV 2) (fc oLen (fAll [(fV 0)])))) (fB (f2 oLt (f2 oIx (f2 oIx (fV 0) (fV 2)) (fC (.int 0))) (fV 1)))) (fSet 2 (f2 oAdd (fV 2) (fC (.int 1)))) 2000)
  (fRet (fV 2))))
noncomputable def t__law_whole:FS:=
 (fRet (fAndV (f1 (oIsi "int") (fV 0)) (f1 oNot (f1 (oIsi "bool") (fV 0)))))
noncomputable def t__law_at:FS:=
 (fSeq (fIfS (fB (f2 oLt (fV 1) (fc oLen (fAll [(fV 0)])))) (fRet (f2 oIx (fV 0) (fV 1))) fNext)
  (fRet (fC (.int 0))))
noncomputable def t__law_reach_by (g__law_at:OC):FS:=
 (fSeq (fSet 1 (f2 oMod (fc g__law_at (fAll [(fV 0),(fC (.int 2))])) (f2 oMul (f2 oPow (fC (.int 10)) (fC (.int 48))) (f2 oPow (fC (.int 10)) (fC (.int 48))))))
  (fRet (f2 oIx (fLst [(f2 oPow (fC (.int 10)) (fC (.int 30))),(fC (.int 0)),(fC (.int 90)),(fC (.int 1)),(fV 1)]) (f2 oMod (f2 oDiv (fc g__law_at (fAll [(fV 0),(fC (.int 1))])) (fC (.int 18))) (fC (.int 5))))))
noncomputable def t__law_far:FS:=
 (fSeq (fIfS (fB (f2 oGt (fV 0) (fC (.int 6)))) (fRet (f2 oAdd (fV 0) (fV 1))) fNext)
  (fSeq (fIfS (fB (f2 oLt (fV 0) (f1 oNeg (fC (.int 6))))) (fRet (f2 oSub (fV 0) (fV 1))) fNext)
  (fRet (fV 0))))
noncomputable def t_half_of:FS:=
 (fRet (f2 oDiv (fV 0) (fC (.int 2))))
noncomputable def t_drawer_of:FS:=
 (fRet (fTup [(fV 0),(fV 1),(f2 oAdd (fc oLen (fAll [(fV 0)])) (fc oSum (fAll [(fComp (fiSeq (fV 1)) [] fYes (f2 oIx (fV 0) (fC (.int 2))))])))]))
noncomputable def t_parted (g_half_of:OC) (g_drawer_of:OC):FS:=
 (fSeq (fSet 2 (fc g_half_of (fAll [(fV 0)])))
  (fSeq (fSet 3 (f2 oIx (fV 1) (fC (.int 0))))
  (fSeq (fSet 4 (f2 oIx (fV 1) (fC (.int 1))))
  (fSeq (fSet 5 (fc g_drawer_of (fAll [(fSl (fV 3) fNoPart (fPart (fV 2))),(fSl (fV 4) fNoPart (fPart (f2 oAdd (fV 2) (fC (.int 1)))))])))
  (fSeq (fSet 6 (fc g_drawer_of (fAll [(fSl (fV 3) (fPart (f2 oAdd (fV 2) (fC (.int 1)))) fNoPart),(fSl (fV 4) (fPart (f2 oAdd (fV 2) (fC (.int 1)))) fNoPart)])))
  (fRet (fTup [(fV 5),(f2 oIx (fV 3) (fV 2)),(fV 6)])))))))
noncomputable def t_spliced:FS:=
 (fRet (f2 oAdd (f2 oAdd (fSl (fV 0) fNoPart (fPart (fV 1))) (fV 3)) (fSl (fV 0) (fPart (fV 2)) fNoPart)))
noncomputable def t_is_at:FS:=
 (fRet (fAndV (f2 oLt (fV 1) (fc oLen (fAll [(fV 0)]))) (f2 oEq (f2 oIx (f2 oIx (fV 0) (fV 1)) (fC (.int 0))) (fV 2))))
noncomputable def t_with_under_parted (g_spliced:OC) (g_drawer_of:OC) (g_parted:OC):FS:=
 (fSeq (fSet 4 (f2 oIx (fV 1) (fC (.int 0))))
  (fSeq (fSet 5 (f2 oIx (fV 1) (fC (.int 1))))
  (fSeq (fIfS (fB (f2 oLe (fc oLen (fAll [(f2 oIx (fV 3) (fC (.int 0)))])) (fV 0))) (fRet (fc g_drawer_of (fAll [(fV 4),(fc g_spliced (fAll [(fV 5),(fV 2),(f2 oAdd (fV 2) (fC (.int 1))),(fTup [(fV 3)])]))]))) fNext)
  (fSeq (fSet 6 (fc g_parted (fAll [(fV 0),(fV 3)])))
  (fRet (fc g_drawer_of (fAll [(fc g_spliced (fAll [(fV 4),(fV 2),(fV 2),(fTup [(f2 oIx (fV 6) (fC (.int 1)))])])),(fc g_spliced (fAll [(fV 5),(fV 2),(f2 oAdd (fV 2) (fC (.int 1))),(fTup [(f2 oIx (fV 6) (fC (.int 0))),(f2 oIx (fV 6) (fC (.int 2)))])]))])))))))
noncomputable def t_laid_in (g_place_of:OC) (g_is_at:OC) (g_spliced:OC) (g_drawer_of:OC) (g_laid_in:OC) (g_with_under_parted:OC):FS:=
 (fSeq (fSet 4 (f2 oIx (fV 1) (fC (.int 0))))
  (fSeq (fSet 5 (f2 oIx (fV 1) (fC (.int 1))))
  (fSeq (fSet 6 (fc g_place_of (fAll [(fV 4),(fV 2)])))
  (fSeq (fIfS (fB (fc g_is_at (fAll [(fV 4),(fV 6),(fV 2)]))) (fRet (fc g_drawer_of (fAll [(fc g_spliced (fAll [(fV 4),(fV 6),(f2 oAdd (fV 6) (fC (.int 1))),(fTup [(fTup [(fV 2),(fV 3)])])])),(fV 5)]))) fNext)
  (fSeq (fIfS (fB (f2 oEq (fc oLen (fAll [(fV 5)])) (fC (.int 0)))) (fRet (fc g_drawer_of (fAll [(fc g_spliced (fAll [(fV 4),(fV 6),(fV 6),(fTup [(fTup [(fV 2),(fV 3)])])])),(fV 5)]))) fNext)
  (fSeq (fSet 7 (fc g_laid_in (fAll [(fV 0),(f2 oIx (fV 5) (fV 6)),(fV 2),(fV 3)])))
  (fRet (fc g_with_under_parted (fAll [(fV 0),(fV 1),(fV 6),(fV 7)])))))))))
noncomputable def t_put_in (g_laid_in:OC) (g_parted:OC) (g_drawer_of:OC):FS:=
 (fSeq (fSet 4 (fc g_laid_in (fAll [(fV 0),(fV 1),(fV 2),(fV 3)])))
  (fSeq (fIfS (fB (f2 oLe (fc oLen (fAll [(f2 oIx (fV 4) (fC (.int 0)))])) (fV 0))) (fRet (fV 4)) fNext)
  (fSeq (fSet 5 (fc g_parted (fAll [(fV 0),(fV 4)])))
  (fRet (fc g_drawer_of (fAll [(fTup [(f2 oIx (fV 5) (fC (.int 1)))]),(fTup [(f2 oIx (fV 5) (fC (.int 0))),(f2 oIx (fV 5) (fC (.int 2)))])]))))))
noncomputable def t_lent_by_left (g_drawer_of:OC) (g_spliced:OC):FS:=
 (fSeq (fSet 2 (f2 oIx (fV 0) (fC (.int 0))))
  (fSeq (fSet 3 (f2 oIx (fV 0) (fC (.int 1))))
  (fSeq (fSet 4 (f2 oIx (fV 3) (f2 oSub (fV 1) (fC (.int 1)))))
  (fSeq (fSet 5 (f2 oIx (fV 3) (fV 1)))
  (fSeq (fSet 6 (fc g_drawer_of (fAll [(fSl (f2 oIx (fV 4) (fC (.int 0))) fNoPart (fPart (f1 oNeg (fC (.int 1))))),(fSl (f2 oIx (fV 4) (fC (.int 1))) fNoPart (fPart (f1 oNeg (fC (.int 1)))))])))
  (fSeq (fSet 7 (fc g_drawer_of (fAll [(f2 oAdd (fTup [(f2 oIx (fV 2) (f2 oSub (fV 1) (fC (.int 1))))]) (f2 oIx (fV 5) (fC (.int 0)))),(f2 oAdd (fSl (f2 oIx (fV 4) (fC (.int 1))) (fPart (f1 oNeg (fC (.int 1)))) fNoPart) (f2 oIx (fV 5) (fC (.int 1))))])))
  (fRet (fc g_drawer_of (fAll [(fc g_spliced (fAll [(fV 2),(f2 oSub (fV 1) (fC (.int 1))),(fV 1),(fSl (f2 oIx (fV 4) (fC (.int 0))) (fPart (f1 oNeg (fC (.int 1)))) fNoPart)])),(fc g_spliced (fAll [(fV 3),(f2 oSub (fV 1) (fC (.int 1))),(f2 oAdd (fV 1) (fC (.int 1))),(fTup [(fV 6),(fV 7)])]))])))))))))
noncomputable def t_lent_by_right (g_drawer_of:OC) (g_spliced:OC):FS:=
 (fSeq (fSet 2 (f2 oIx (fV 0) (fC (.int 0))))
  (fSeq (fSet 3 (f2 oIx (fV 0) (fC (.int 1))))
  (fSeq (fSet 4 (f2 oIx (fV 3) (fV 1)))
  (fSeq (fSet 5 (f2 oIx (fV 3) (f2 oAdd (fV 1) (fC (.int 1)))))
  (fSeq (fSet 6 (fc g_drawer_of (fAll [(f2 oAdd (f2 oIx (fV 4) (fC (.int 0))) (fTup [(f2 oIx (fV 2) (fV 1))])),(f2 oAdd (f2 oIx (fV 4) (fC (.int 1))) (fSl (f2 oIx (fV 5) (fC (.int 1))) fNoPart (fPart (fC (.int 1)))))])))
  (fSeq (fSet 7 (fc g_drawer_of (fAll [(fSl (f2 oIx (fV 5) (fC (.int 0))) (fPart (fC (.int 1))) fNoPart),(fSl (f2 oIx (fV 5) (fC (.int 1))) (fPart (fC (.int 1))) fNoPart)])))
  (fRet (fc g_drawer_of (fAll [(fc g_spliced (fAll [(fV 2),(fV 1),(f2 oAdd (fV 1) (fC (.int 1))),(fSl (f2 oIx (fV 5) (fC (.int 0))) fNoPart (fPart (fC (.int 1))))])),(fc g_spliced (fAll [(fV 3),(fV 1),(f2 oAdd (fV 1) (fC (.int 2))),(fTup [(fV 6),(fV 7)])]))])))))))))
noncomputable def t_joined (g_drawer_of:OC) (g_spliced:OC):FS:=
 (fSeq (fSet 2 (f2 oIx (fV 0) (fC (.int 0))))
  (fSeq (fSet 3 (f2 oIx (fV 0) (fC (.int 1))))
  (fSeq (fSet 4 (f2 oIx (fV 3) (fV 1)))
  (fSeq (fSet 5 (f2 oIx (fV 3) (f2 oAdd (fV 1) (fC (.int 1)))))
  (fSeq (fSet 6 (fc g_drawer_of (fAll [(f2 oAdd (f2 oAdd (f2 oIx (fV 4) (fC (.int 0))) (fTup [(f2 oIx (fV 2) (fV 1))])) (f2 oIx (fV 5) (fC (.int 0)))),(f2 oAdd (f2 oIx (fV 4) (fC (.int 1))) (f2 oIx (fV 5) (fC (.int 1))))])))
  (fRet (fc g_drawer_of (fAll [(fc g_spliced (fAll [(fV 2),(fV 1),(f2 oAdd (fV 1) (fC (.int 1))),(fTup [])])),(fc g_spliced (fAll [(fV 3),(fV 1),(f2 oAdd (fV 1) (fC (.int 2))),(fTup [(fV 6)])]))]))))))))
noncomputable def t_mended (g_half_of:OC) (g_lent_by_left:OC) (g_lent_by_right:OC) (g_joined:OC):FS:=
 (fSeq (fSet 3 (fc g_half_of (fAll [(fV 0)])))
  (fSeq (fSet 4 (f2 oIx (fV 1) (fC (.int 1))))
  (fSeq (fIfS (fB (f2 oNe (fc oLen (fAll [(f2 oIx (f2 oIx (fV 4) (fV 2)) (fC (.int 0)))])) (f2 oSub (fV 3) (fC (.int 1))))) (fRet (fV 1)) fNext)
  (fSeq (fIfS (fAnd (fB (f2 oGt (fV 2) (fC (.int 0)))) (fB (f2 oGt (fc oLen (fAll [(f2 oIx (f2 oIx (fV 4) (f2 oSub (fV 2) (fC (.int 1)))) (fC (.int 0)))])) (fV 3)))) (fRet (fc g_lent_by_left (fAll [(fV 1),(fV 2)]))) fNext)
  (fSeq (fIfS (fAnd (fB (f2 oLt (f2 oAdd (fV 2) (fC (.int 1))) (fc oLen (fAll [(fV 4)])))) (fB (f2 oGt (fc oLen (fAll [(f2 oIx (f2 oIx (fV 4) (f2 oAdd (fV 2) (fC (.int 1)))) (fC (.int 0)))])) (fV 3)))) (fRet (fc g_lent_by_right (fAll [(fV 1),(fV 2)]))) fNext)
  (fSeq (fIfS (fB (f2 oGt (fV 2) (fC (.int 0)))) (fRet (fc g_joined (fAll [(fV 1),(f2 oSub (fV 2) (fC (.int 1)))]))) fNext)
  (fRet (fc g_joined (fAll [(fV 1),(fV 2)])))))))))
noncomputable def t_with_under_mended (g_spliced:OC) (g_drawer_of:OC) (g_mended:OC):FS:=
 (fSeq (fSet 5 (fc g_drawer_of (fAll [(fV 1),(fc g_spliced (fAll [(fV 2),(fV 3),(f2 oAdd (fV 3) (fC (.int 1))),(fTup [(fV 4)])]))])))
  (fRet (fc g_mended (fAll [(fV 0),(fV 5),(fV 3)]))))
noncomputable def t_last_out (g_drawer_of:OC) (g_last_out:OC) (g_with_under_mended:OC):FS:=
 (fSeq (fSet 2 (f2 oIx (fV 1) (fC (.int 0))))
  (fSeq (fSet 3 (f2 oIx (fV 1) (fC (.int 1))))
  (fSeq (fIfS (fB (f2 oEq (fc oLen (fAll [(fV 3)])) (fC (.int 0)))) (fRet (fTup [(f2 oIx (fV 2) (f1 oNeg (fC (.int 1)))),(fc g_drawer_of (fAll [(fSl (fV 2) fNoPart (fPart (f1 oNeg (fC (.int 1))))),(fTup [])]))])) fNext)
  (fSeq (fSet 4 (f2 oSub (fc oLen (fAll [(fV 3)])) (fC (.int 1))))
  (fSeq (fSet 5 (fc g_last_out (fAll [(fV 0),(f2 oIx (fV 3) (fV 4))])))
  (fRet (fTup [(f2 oIx (fV 5) (fC (.int 0))),(fc g_with_under_mended (fAll [(fV 0),(fV 2),(fV 3),(fV 4),(f2 oIx (fV 5) (fC (.int 1)))]))])))))))
noncomputable def t_take_out (g_taken_from:OC):FS:=
 (fSeq (fSet 3 (fc g_taken_from (fAll [(fV 0),(fV 1),(fV 2)])))
  (fSeq (fIfS (fAnd (fB (f2 oEq (fc oLen (fAll [(f2 oIx (fV 3) (fC (.int 0)))])) (fC (.int 0)))) (fB (f2 oEq (fc oLen (fAll [(f2 oIx (fV 3) (fC (.int 1)))])) (fC (.int 1))))) (fRet (f2 oIx (f2 oIx (fV 3) (fC (.int 1))) (fC (.int 0)))) fNext)
  (fRet (fV 3))))
noncomputable def t_between (g_place_of:OC) (g_between:OC):FS:=
 (fSeq (fSet 3 (f2 oIx (fV 0) (fC (.int 0))))
  (fSeq (fSet 4 (f2 oIx (fV 0) (fC (.int 1))))
  (fSeq (fSet 5 (fIf (fB (f2 oIsN (fV 1) (fC .non))) (fC (.int 0)) (fc g_place_of (fAll [(fV 3),(fV 1)]))))
  (fSeq (fSet 6 (fIf (fB (f2 oIsN (fV 2) (fC .non))) (fc oLen (fAll [(fV 3)])) (fc g_place_of (fAll [(fV 3),(f2 oAdd (fV 2) (fC (.int 1)))]))))
  (fSeq (fIfS (fB (f2 oEq (fc oLen (fAll [(fV 4)])) (fC (.int 0)))) (fRet (fc oList (fAll [(fSl (fV 3) (fPart (fV 5)) (fPart (fV 6)))]))) fNext)
  (fSeq (fSet 7 (fLst []))
  (fSeq (fFor 8 (fiRng rng2 [(fV 5),(fV 6)]) (fSeq (fDrop (fM oExtend (fV 7) [(fc g_between (fAll [(f2 oIx (fV 4) (fV 8)),(fV 1),(fV 2)]))]))
  (fDrop (fM oAppend (fV 7) [(f2 oIx (fV 3) (fV 8))]))))
  (fSeq (fDrop (fM oExtend (fV 7) [(fc g_between (fAll [(f2 oIx (fV 4) (fV 6)),(fV 1),(fV 2)]))]))
  (fRet (fV 7))))))))))
noncomputable def t_note_of (g_place_of:OC) (g_is_at:OC) (g_note_of:OC):FS:=
 (fSeq (fSet 2 (f2 oIx (fV 0) (fC (.int 0))))
  (fSeq (fSet 3 (f2 oIx (fV 0) (fC (.int 1))))
  (fSeq (fSet 4 (fc g_place_of (fAll [(fV 2),(fV 1)])))
  (fSeq (fIfS (fB (fc g_is_at (fAll [(fV 2),(fV 4),(fV 1)]))) (fRet (f2 oIx (f2 oIx (fV 2) (fV 4)) (fC (.int 1)))) fNext)
  (fSeq (fIfS (fB (f2 oEq (fc oLen (fAll [(fV 3)])) (fC (.int 0)))) (fRet (fC .non)) fNext)
  (fRet (fc g_note_of (fAll [(f2 oIx (fV 3) (fV 4)),(fV 1)]))))))))
noncomputable def t_rank_of (g_place_of:OC) (g_rank_of:OC):FS:=
 (fSeq (fSet 2 (f2 oIx (fV 0) (fC (.int 1))))
  (fSeq (fSet 3 (fc g_place_of (fAll [(f2 oIx (fV 0) (fC (.int 0))),(fV 1)])))
  (fSeq (fIfS (fB (f2 oEq (fc oLen (fAll [(fV 2)])) (fC (.int 0)))) (fRet (fV 3)) fNext)
  (fSeq (fSet 4 (f2 oAdd (fV 3) (fc oSum (fAll [(fComp (fiSeq (fSl (fV 2) fNoPart (fPart (fV 3)))) [] fYes (f2 oIx (fV 0) (fC (.int 2))))]))))
  (fRet (f2 oAdd (fV 4) (fc g_rank_of (fAll [(f2 oIx (fV 2) (fV 3)),(fV 1)]))))))))
noncomputable def t_card_with (g_card_with:OC):FS:=
 (fSeq (fSet 2 (f2 oIx (fV 0) (fC (.int 0))))
  (fSeq (fSet 3 (f2 oIx (fV 0) (fC (.int 1))))
  (fSeq (fIfS (fB (f2 oEq (fc oLen (fAll [(fV 3)])) (fC (.int 0)))) (fRet (f2 oIx (fV 2) (fV 1))) fNext)
  (fSeq (fSet 4 (fC (.int 0)))
  (fSeq (fSet 5 (fV 1))
  (fSeq (fWhile (fB (f2 oGt (fV 5) (f2 oIx (f2 oIx (fV 3) (fV 4)) (fC (.int 2))))) (fSeq (fSet 5 (f2 oSub (f2 oSub (fV 5) (f2 oIx (f2 oIx (fV 3) (fV 4)) (fC (.int 2)))) (fC (.int 1))))
  (fSet 4 (f2 oAdd (fV 4) (fC (.int 1))))) 2000)
  (fSeq (fIfS (fB (f2 oEq (fV 5) (f2 oIx (f2 oIx (fV 3) (fV 4)) (fC (.int 2))))) (fRet (f2 oIx (fV 2) (fV 4))) fNext)
  (fRet (fc g_card_with (fAll [(f2 oIx (fV 3) (fV 4)),(fV 5)]))))))))))
noncomputable def t__law_same (g__law_whole:OC):FS:=
 (fSeq (fIfS (fB (f2 oNe (fc oLen (fAll [(fV 0)])) (fc oLen (fAll [(fV 1)])))) (fRet (fC (.bl false))) fNext)
  (fSeq (fFor 2 (fiRng rng1 [(fc oLen (fAll [(fV 1)]))]) (fSeq (fIfS (fOr (fNot (fB (f1 (oIsi "tuple") (f2 oIx (fV 0) (fV 2))))) (fB (f2 oNe (fc oLen (fAll [(f2 oIx (fV 0) (fV 2))])) (fc oLen (fAll [(f2 oIx (fV 1) (fV 2))]))))) (fRet (fC (.bl false))) fNext)
  (fSeq (fFor 3 (fiSeq (f2 oIx (fV 0) (fV 2))) (fIfS (fAnd (fB (f2 oNotN (fV 3) (fC .non))) (fAnd (fNot (fB (f1 (oIsi "str") (fV 3)))) (fNot (fB (fc g__law_whole (fAll [(fV 3)])))))) (fRet (fC (.bl false))) fNext))
  (fIfS (fB (f2 oNe (f2 oIx (fV 0) (fV 2)) (f2 oIx (fV 1) (fV 2)))) (fRet (fC (.bl false))) fNext))))
  (fRet (fC (.bl true)))))
noncomputable def t_taken_from (x_NoCard:Addr) (g_place_of:OC) (g_is_at:OC) (g_spliced:OC) (g_drawer_of:OC) (g_taken_from:OX) (g_with_under_mended:OC) (g_last_out:OC):FS:=
 (fSeq (fSet 3 (f2 oIx (fV 1) (fC (.int 0))))
  (fSeq (fSet 4 (f2 oIx (fV 1) (fC (.int 1))))
  (fSeq (fSet 5 (fc g_place_of (fAll [(fV 3),(fV 2)])))
  (fSeq (fSet 6 (fc g_is_at (fAll [(fV 3),(fV 5),(fV 2)])))
  (fSeq (fIfS (fB (f2 oEq (fc oLen (fAll [(fV 4)])) (fC (.int 0)))) (fSeq (fIfS (fNot (fB (fV 6))) (fRaise (.ref x_NoCard) (fC (.str "no card has this number"))) fNext)
  (fRet (fc g_drawer_of (fAll [(fc g_spliced (fAll [(fV 3),(fV 5),(f2 oAdd (fV 5) (fC (.int 1))),(fTup [])])),(fTup [])])))) fNext)
  (fSeq (fIfS (fNot (fB (fV 6))) (fSeq (fSet 7 (fcX g_taken_from (fAll [(fV 0),(f2 oIx (fV 4) (fV 5)),(fV 2)])))
  (fRet (fc g_with_under_mended (fAll [(fV 0),(fV 3),(fV 4),(fV 5),(fV 7)])))) fNext)
  (fSeq (fSet 8 (fc g_last_out (fAll [(fV 0),(f2 oIx (fV 4) (fV 5))])))
  (fSeq (fSet 9 (fc g_spliced (fAll [(fV 3),(fV 5),(f2 oAdd (fV 5) (fC (.int 1))),(fTup [(f2 oIx (fV 8) (fC (.int 0)))])])))
  (fRet (fc g_with_under_mended (fAll [(fV 0),(fV 9),(fV 4),(fV 5),(f2 oIx (fV 8) (fC (.int 1)))])))))))))))
noncomputable def t_check_width (x_NoWidth:Addr):FS:=
 (fIfS (fB (f2 oLt (fV 0) (fC (.int 2)))) (fRaise (.ref x_NoWidth) (fC (.str "the width is below 2"))) fNext)
noncomputable def t_take_outX (g_taken_from:OX):FS:=
 (fSeq (fSet 3 (fcX g_taken_from (fAll [(fV 0),(fV 1),(fV 2)])))
  (fSeq (fIfS (fAnd (fB (f2 oEq (fc oLen (fAll [(f2 oIx (fV 3) (fC (.int 0)))])) (fC (.int 0)))) (fB (f2 oEq (fc oLen (fAll [(f2 oIx (fV 3) (fC (.int 1)))])) (fC (.int 1))))) (fRet (f2 oIx (f2 oIx (fV 3) (fC (.int 1))) (fC (.int 0)))) fNext)
  (fRet (fV 3))))
noncomputable def t_done (g_note_of:OC) (g_put_in:OC) (g_take_out:OX) (g_asked:OX):FS:=
 (fSeq (fSet 3 (f2 oIx (fV 2) (fC (.int 0))))
  (fSeq (fIfS (fB (f2 oEq (fV 3) (fC (.str "put")))) (fRet (fTup [(fc g_note_of (fAll [(fV 1),(f2 oIx (fV 2) (fC (.int 1)))])),(fc g_put_in (fAll [(fV 0),(fV 1),(f2 oIx (fV 2) (fC (.int 1))),(f2 oIx (fV 2) (fC (.int 2)))]))])) fNext)
  (fSeq (fIfS (fB (f2 oEq (fV 3) (fC (.str "take")))) (fRet (fTup [(fc g_note_of (fAll [(fV 1),(f2 oIx (fV 2) (fC (.int 1)))])),(fcX g_take_out (fAll [(fV 0),(fV 1),(f2 oIx (fV 2) (fC (.int 1)))]))])) fNext)
  (fRet (fTup [(fcX g_asked (fAll [(fV 1),(fV 2)])),(fV 1)])))))
noncomputable def t_done_or_refused (x_NoCard:Addr) (g_done:OX):FS:=
 (fTry (fRet (fcX g_done (fAll [(fV 0),(fV 1),(fV 2)]))) (mOf [(x_NoCard,noEx (fRet (fTup [(fC .non),(fV 1)])))]))
noncomputable def t_steps (g_check_width:OX) (g_drawer_of:OC) (g_done_or_refused:OC):FS:=
 (fSeq (fDrop (fcX g_check_width (fAll [(fV 0)])))
  (fSeq (fSet 2 (fc g_drawer_of (fAll [(fTup []),(fTup [])])))
  (fSeq (fSet 3 (fLst []))
  (fSeq (fFor 4 (fiSeq (fV 1)) (fSeq (fSet 5 (fc g_done_or_refused (fAll [(fV 0),(fV 2),(fV 4)])))
  (fSeq (fDrop (fM oAppend (fV 3) [(fV 5)]))
  (fSet 2 (f2 oIx (fV 5) (fC (.int 1)))))))
  (fRet (fV 3))))))
noncomputable def t__law_mixed:FS:=
 (fRet (fComp (fiRng rng1 [(fc oLen (fAll [(fV 0)]))]) [0] fYes (f2 oMod (f2 oMul (f2 oAdd (f2 oIx (fV 1) (fV 0)) (f2 oMul (fC (.int 7919)) (fV 0))) (fC (.int 48271))) (fC (.int 1000003)))))
noncomputable def t__law_day (g__law_reach_by:OC) (g__law_at:OC) (g__law_far:OC):FS:=
 (fSeq (fSet 1 (fc g__law_reach_by (fAll [(fV 0)])))
  (fSeq (fSet 2 (fC (.str "abcdefghijklmnopqrstuvwxyz")))
  (fSeq (fSet 3 (f2 oAdd (fC (.int 4)) (f2 oMod (fc g__law_at (fAll [(fV 0),(fC (.int 1))])) (fC (.int 60)))))
  (fSeq (fSet 4 (f2 oIx (fLst [(fC (.int 1)),(fC (.int 36)),(fC (.int 13)),(fC (.int 24))]) (f2 oMod (fc g__law_at (fAll [(fV 0),(fC (.int 2))])) (fC (.int 4)))))
  (fSeq (fSet 5 (f2 oIx (fLst [(fC (.int 37)),(fC (.int 7)),(fC (.int 1))]) (f2 oMod (f2 oDiv (fc g__law_at (fAll [(fV 0),(fC (.int 2))])) (fC (.int 4))) (fC (.int 3)))))
  (fSeq (fSet 6 (f2 oIx (fLst [(fC (.int 37)),(fC (.int 1009)),(fC (.int 37))]) (f2 oMod (f2 oDiv (fc g__law_at (fAll [(fV 0),(fC (.int 2))])) (fC (.int 12))) (fC (.int 3)))))
  (fSeq (fSet 7 (fSl (fV 0) (fPart (fC (.int 3))) fNoPart))
  (fSeq (fSet 8 (fLst []))
  (fSeq (fFor 9 (fiRng rng1 [(fc oLen (fAll [(fV 7)]))]) (fSeq (fSet 10 (f2 oEq (f2 oMod (f2 oDiv (fV 9) (fV 3)) (fC (.int 2))) (fC (.int 0))))
  (fSeq (fSet 11 (f2 oEq (f2 oEq (f2 oMod (f2 oIx (fV 7) (fV 9)) (fC (.int 8))) (fC (.int 0))) (fV 10)))
  (fSeq (fSet 12 (f2 oMod (f2 oAdd (f2 oMod (f2 oDiv (f2 oIx (fV 7) (fV 9)) (fC (.int 8))) (fV 5)) (f2 oMul (fV 9) (fV 4))) (fV 6)))
  (fSeq (fSet 13 (fc g__law_far (fAll [(f2 oSub (fV 12) (f2 oDiv (fV 6) (fC (.int 3)))),(fV 1)])))
  (fSeq (fIfS (fAnd (fB (fV 11)) (fAnd (fB (f2 oGt (fV 9) (fC (.int 0)))) (fB (f2 oNe (f2 oMod (f2 oDiv (f2 oIx (fV 7) (fV 9)) (fC (.int 8))) (fC (.int 8))) (fC (.int 7)))))) (fSet 13 (f2 oIx (f2 oIx (fV 8) (f2 oMod (f2 oAdd (f2 oMul (f2 oMod (fV 9) (fV 3)) (fC (.int 7))) (f2 oDiv (f2 oIx (fV 7) (fV 9)) (fC (.int 64)))) (fV 9))) (fC (.int 1)))) fNext)
  (fSeq (fSet 14 (f2 oMod (f2 oDiv (f2 oIx (fV 7) (fV 9)) (fC (.int 8))) (fC (.int 27))))
  (fIfS (fB (fV 11)) (fDrop (fM oAppend (fV 8) [(fTup [(fC (.str "take")),(fV 13)])])) (fSeq (fSet 15 (f2 oIx (fLst [(fC (.str "")),(fC (.str " & so on; ")),(f2 oAdd (fC (.str ", put in as No. ")) (fc oStr (fAll [(fV 9)])))]) (f2 oMod (fV 9) (fC (.int 3)))))
  (fDrop (fM oAppend (fV 8) [(fTup [(fC (.str "put")),(fV 13),(f2 oAdd (fSl (fV 2) (fPart (fV 14)) (fPart (f2 oAdd (fV 14) (fC (.int 1))))) (fV 15))])])))))))))))
  (fRet (fV 8)))))))))))
noncomputable def t__law_mixed_day (g__law_reach_by:OC) (g__law_day:OC) (g__law_far:OC) (g__law_at:OC):FS:=
 (fSeq (fSet 1 (fc g__law_reach_by (fAll [(fV 0)])))
  (fSeq (fSet 2 (fc g__law_day (fAll [(fV 0)])))
  (fSeq (fSet 3 (fc oList (fAll [(fV 2)])))
  (fSeq (fFor 4 (fiRng rng1 [(fc oLen (fAll [(fV 2)]))]) (fSeq (fSet 5 (f2 oDiv (f2 oIx (fV 0) (f2 oAdd (fV 4) (fC (.int 3)))) (fC (.int 3))))
  (fSeq (fSet 6 (f2 oSub (f2 oMod (f2 oAdd (f2 oDiv (fV 5) (fC (.int 4))) (f2 oMul (fV 4) (fC (.int 17)))) (fC (.int 41))) (fC (.int 14))))
  (fSeq (fSet 6 (f2 oIx (fLst [(fV 6),(fC (.int 0))]) (fc oInt (fAll [(f2 oEq (f2 oMod (f2 oDiv (fV 5) (fC (.int 4))) (fC (.int 7))) (fC (.int 3)))]))))
  (fSeq (fSet 7 (f2 oIx (fLst [(fc g__law_far (fAll [(fV 6),(fV 1)])),(fC .non)]) (fc oInt (fAll [(f2 oEq (f2 oMod (f2 oDiv (fV 5) (fC (.int 4))) (fC (.int 5))) (fC (.int 1)))]))))
  (fSeq (fSet 8 (f2 oSub (f2 oAdd (fV 6) (f2 oMod (fc g__law_at (fAll [(fV 0),(f2 oAdd (fV 4) (fC (.int 4)))])) (fC (.int 30)))) (fC (.int 3))))
  (fSeq (fSet 9 (f2 oIx (fLst [(fc g__law_far (fAll [(fV 8),(fV 1)])),(fC .non)]) (fc oInt (fAll [(f2 oEq (f2 oMod (f2 oDiv (fV 5) (fC (.int 4))) (fC (.int 5))) (fC (.int 2)))]))))
  (fSeq (fSet 6 (fc g__law_far (fAll [(fV 6),(fV 1)])))
  (fIfS (fAnd (fB (f2 oEq (f2 oMod (f2 oIx (fV 0) (f2 oAdd (fV 4) (fC (.int 3)))) (fC (.int 3))) (fC (.int 1)))) (fB (f2 oEq (f2 oMod (fV 5) (fC (.int 4))) (fC (.int 0))))) (fSetIx (fTup [(fC (.str "find")),(f2 oIx (f2 oIx (fV 2) (f2 oMod (f2 oAdd (f2 oDiv (fV 5) (fC (.int 4))) (f2 oMul (fV 4) (fC (.int 5)))) (f2 oAdd (fV 4) (fC (.int 1))))) (fC (.int 1)))]) (fV 3) (fV 4)) (fIfS (fAnd (fB (f2 oEq (f2 oMod (f2 oIx (fV 0) (f2 oAdd (fV 4) (fC (.int 3)))) (fC (.int 3))) (fC (.int 1)))) (fB (f2 oEq (f2 oMod (fV 5) (fC (.int 4))) (fC (.int 1))))) (fSetIx (fTup [(fC (.str "rank")),(fV 6)]) (fV 3) (fV 4)) (fIfS (fAnd (fB (f2 oEq (f2 oMod (f2 oIx (fV 0) (f2 oAdd (fV 4) (fC (.int 3)))) (fC (.int 3))) (fC (.int 1)))) (fB (f2 oEq (f2 oMod (fV 5) (fC (.int 4))) (fC (.int 2))))) (fSetIx (fTup [(fC (.str "nth")),(f2 oSub (f2 oMod (f2 oAdd (f2 oDiv (fV 5) (fC (.int 4))) (f2 oMul (fV 4) (fC (.int 7)))) (f2 oAdd (fV 4) (fC (.int 3)))) (fC (.int 1)))]) (fV 3) (fV 4)) (fIfS (fB (f2 oEq (f2 oMod (f2 oIx (fV 0) (f2 oAdd (fV 4) (fC (.int 3)))) (fC (.int 3))) (fC (.int 1)))) (fSetIx (fTup [(fC (.str "between")),(fV 7),(fV 9)]) (fV 3) (fV 4)) fNext))))))))))))
  (fRet (fV 3))))))
noncomputable def t_asked (g_note_of:OC) (g_rank_of:OC) (g_card_at:OX) (g_between:OC):FS:=
 (fSeq (fSet 2 (f2 oIx (fV 1) (fC (.int 0))))
  (fSeq (fIfS (fB (f2 oEq (fV 2) (fC (.str "find")))) (fRet (fc g_note_of (fAll [(fV 0),(f2 oIx (fV 1) (fC (.int 1)))]))) fNext)
  (fSeq (fIfS (fB (f2 oEq (fV 2) (fC (.str "rank")))) (fRet (fc g_rank_of (fAll [(fV 0),(f2 oIx (fV 1) (fC (.int 1)))]))) fNext)
  (fSeq (fIfS (fB (f2 oEq (fV 2) (fC (.str "nth")))) (fRet (fcX g_card_at (fAll [(fV 0),(f2 oIx (fV 1) (fC (.int 1)))]))) fNext)
  (fRet (fc g_between (fAll [(fV 0),(f2 oIx (fV 1) (fC (.int 1))),(f2 oIx (fV 1) (fC (.int 2)))])))))))
noncomputable def t_card_at (x_NoCard:Addr) (g_card_with:OC):FS:=
 (fSeq (fIfS (fOr (fB (f2 oLt (fV 1) (fC (.int 0)))) (fB (f2 oGe (fV 1) (f2 oIx (fV 0) (fC (.int 2)))))) (fRaise (.ref x_NoCard) (fC (.str "no card has this rank"))) fNext)
  (fRet (fc g_card_with (fAll [(fV 0),(fV 1)]))))
end MD
namespace K12
open PySem PySem.Spec PyProof.Rows L2 DL MD
seal PySem.exec PySem.execs PySem.eval
def top (i:Nat):Stmt:=PySem.Challenge.pw_manydrawer_k12_whole_answers.main.body.getD i (.Pass ⟨0,0,0,0⟩)
abbrev s_check_width:Stmt:=top 5
abbrev s_half_of:Stmt:=top 6
abbrev s_drawer_of:Stmt:=top 7
abbrev s_spliced:Stmt:=top 8
abbrev s_place_of:Stmt:=top 9
abbrev s_is_at:Stmt:=top 10
abbrev s_note_of:Stmt:=top 12
abbrev s_rank_of:Stmt:=top 13
abbrev s_card_with:Stmt:=top 14
abbrev s_card_at:Stmt:=top 15
abbrev s_between:Stmt:=top 16
abbrev s_parted:Stmt:=top 18
abbrev s_with_under_parted:Stmt:=top 19
abbrev s_laid_in:Stmt:=top 20
abbrev s_put_in:Stmt:=top 21
abbrev s_lent_by_left:Stmt:=top 22
abbrev s_lent_by_right:Stmt:=top 23
abbrev s_joined:Stmt:=top 24
abbrev s_mended:Stmt:=top 25
abbrev s_with_under_mended:Stmt:=top 26
abbrev s_last_out:Stmt:=top 27
abbrev s_taken_from:Stmt:=top 28
abbrev s_take_out:Stmt:=top 29
abbrev s_asked:Stmt:=top 31
abbrev s_done:Stmt:=top 32
abbrev s_done_or_refused:Stmt:=top 33
abbrev s_steps:Stmt:=top 34
abbrev s_answers:Stmt:=top 35
abbrev s__law_whole:Stmt:=top 37
abbrev s__law_at:Stmt:=top 38
abbrev s__law_reach_by:Stmt:=top 39
abbrev s__law_far:Stmt:=top 40
abbrev s__law_day:Stmt:=top 41
abbrev s__law_same:Stmt:=top 42
abbrev s__law_mixed_day:Stmt:=top 43
abbrev s__law_text_is:Stmt:=top 44
abbrev s__law_card_there:Stmt:=top 45
abbrev s__law_smaller:Stmt:=top 46
abbrev s__law_all_between:Stmt:=top 47
abbrev s__law_fits:Stmt:=top 48
abbrev s__law_mixed:Stmt:=top 49
abbrev s_law:Stmt:=top 50
theorem sc_check_width:FnScope ["width"] ["width"] (defScope s_check_width):=⟨rfl,rfl,rfl,by decide +kernel,rfl,by decide +kernel,by decide +kernel⟩
theorem ok_check_width {P:Program}{w:World}{K:PySem.W.Frag}{mg:Str->Option Value}{base:Heap}{k:Nat}{fa:Addr}{fd:FuncData} (B:Bu mg) {x_NoWidth:Addr}{bm_NoWidth:List Value} (e_NoWidth:ExC K x_NoWidth bm_NoWidth) (m_NoWidth:mg "NoWidth"=some (.ref x_NoWidth))
  (F:Fun K "check_width" "check_width" s_check_width fa fd) (hm:mg "check_width"=some (.ref fa)) (b:Binds K fd ["width"] []):CalX P w K mg base (k+1) "check_width" ["width"] (fnRunX 1 (t_check_width x_NoWidth)):=
 calX_mk (N:=["width"]) F sc_check_width hm b fun cdv A outer s H E hr=>
  (dss_one (ds_if (dt_lt (dv 0) de_int) (dss_one (ds_raise e_NoWidth m_NoWidth (da_cons de_str da_nil))) dss_nil))
theorem sc_half_of:FnScope ["width"] ["width"] (defScope s_half_of):=⟨rfl,rfl,rfl,by decide +kernel,rfl,by decide +kernel,by decide +kernel⟩
theorem ok_half_of {P:Program}{w:World}{K:PySem.W.Frag}{mg:Str->Option Value}{base:Heap}{k:Nat}{fa:Addr}{fd:FuncData} (B:Bu mg)
  (F:Fun K "half_of" "half_of" s_half_of fa fd) (hm:mg "half_of"=some (.ref fa)) (b:Binds K fd ["width"] []):Cal P w K mg base (k+1) "half_of" ["width"] (fnRun 1 (t_half_of )):=
 cal_mk (N:=["width"]) F sc_half_of hm b fun cdv A outer s H E hr=>
  (dss_one (ds_ret (de_div (dv 0) de_int)))
theorem sc_drawer_of:FnScope ["cards","below"] ["cards","below"] (defScope s_drawer_of):=⟨rfl,rfl,rfl,by decide +kernel,rfl,by decide +kernel,by decide +kernel⟩
theorem ok_drawer_of {P:Program}{w:World}{K:PySem.W.Frag}{mg:Str->Option Value}{base:Heap}{k:Nat}{fa:Addr}{fd:FuncData} (B:Bu mg)
  (F:Fun K "drawer_of" "drawer_of" s_drawer_of fa fd) (hm:mg "drawer_of"=some (.ref fa)) (b:Binds K fd ["cards","below"] []):Cal P w K mg base (k+1) "drawer_of" ["cards","below"] (fnRun 2 (t_drawer_of )):=
 cal_mk (N:=["cards","below"]) F sc_drawer_of hm b fun cdv A outer s H E hr=>
  (dss_one (ds_ret (de_tup (da_cons (dv 0) (da_cons (dv 1) (da_cons (de_add (de_len B.len (da_cons (dv 0) da_nil)) (de_sum B.sum rfl (da_cons (de_comp (fr:=[]) (frn:=[]) rfl (di_seq (dv 1)) fun _ _ _ _=>⟨.nil,(de_ix (dv 0) de_int)⟩) da_nil))) da_nil))))))
theorem sc_spliced:FnScope ["row","start","end","parts"] ["row","start","end","parts"] (defScope s_spliced):=⟨rfl,rfl,rfl,by decide +kernel,rfl,by decide +kernel,by decide +kernel⟩
theorem ok_spliced {P:Program}{w:World}{K:PySem.W.Frag}{mg:Str->Option Value}{base:Heap}{k:Nat}{fa:Addr}{fd:FuncData} (B:Bu mg)
  (F:Fun K "spliced" "spliced" s_spliced fa fd) (hm:mg "spliced"=some (.ref fa)) (b:Binds K fd ["row","start","end","parts"] []):Cal P w K mg base (k+1) "spliced" ["row","start","end","parts"] (fnRun 4 (t_spliced )):=
 cal_mk (N:=["row","start","end","parts"]) F sc_spliced hm b fun cdv A outer s H E hr=>
  (dss_one (ds_ret (de_add (de_add (de_slice (dv 0) do_none (do_some (dv 1))) (dv 3)) (de_slice (dv 0) (do_some (dv 2)) do_none))))
theorem sc_place_of:FnScope ["cards","number","place"] ["cards","number"] (defScope s_place_of):=⟨rfl,rfl,rfl,by decide +kernel,rfl,by decide +kernel,by decide +kernel⟩
theorem ok_place_of {P:Program}{w:World}{K:PySem.W.Frag}{mg:Str->Option Value}{base:Heap}{k:Nat}{fa:Addr}{fd:FuncData} (B:Bu mg)
  (F:Fun K "place_of" "place_of" s_place_of fa fd) (hm:mg "place_of"=some (.ref fa)) (b:Binds K fd ["cards","number"] []):Cal P w K mg base (k+1) "place_of" ["cards","number"] (fnRun 3 (t_place_of )):=
 cal_mk (N:=["cards","number","place"]) F sc_place_of hm b fun cdv A outer s H E hr=>
  (dss_cons (ds_set (i:=2) sc_place_of.nd de_int)
  (dss_cons (ds_while 2000 PassesOwn.never (dt_w (dw_and (dt_lt (dv 2) (de_len B.len (da_cons (dv 0) da_nil))) (dw_and1 (dt_lt (de_ix (de_ix (dv 0) (dv 2)) de_int) (dv 1))))) (dss_one (ds_set (i:=2) sc_place_of.nd (de_add (dv 2) de_int))))
  (dss_one (ds_ret (dv 2)))))
theorem sc_is_at:FnScope ["cards","place","number"] ["cards","place","number"] (defScope s_is_at):=⟨rfl,rfl,rfl,by decide +kernel,rfl,by decide +kernel,by decide +kernel⟩
theorem ok_is_at {P:Program}{w:World}{K:PySem.W.Frag}{mg:Str->Option Value}{base:Heap}{k:Nat}{fa:Addr}{fd:FuncData} (B:Bu mg)
  (F:Fun K "is_at" "is_at" s_is_at fa fd) (hm:mg "is_at"=some (.ref fa)) (b:Binds K fd ["cards","place","number"] []):Cal P w K mg base (k+1) "is_at" ["cards","place","number"] (fnRun 3 (t_is_at )):=
 cal_mk (N:=["cards","place","number"]) F sc_is_at hm b fun cdv A outer s H E hr=>
  (dss_one (ds_ret (de_and (de_lt (dv 1) (de_len B.len (da_cons (dv 0) da_nil))) (de_one (de_eq hr (de_ix (de_ix (dv 0) (dv 1)) de_int) (dv 2))))))
theorem sc_note_of:FnScope ["top","number","cards","below","place"] ["top","number"] (defScope s_note_of):=⟨rfl,rfl,rfl,by decide +kernel,rfl,by decide +kernel,by decide +kernel⟩
theorem ok_note_of {P:Program}{w:World}{K:PySem.W.Frag}{mg:Str->Option Value}{base:Heap}{k:Nat}{fa:Addr}{fd:FuncData} (B:Bu mg) {g_place_of:OC} (c_place_of:Cal P w K mg base k "place_of" ["cards","number"] g_place_of) {g_is_at:OC} (c_is_at:Cal P w K mg base k "is_at" ["cards","place","number"] g_is_at) {g_note_of:OC} (c_note_of:Cal P w K mg base k "note_of" ["top","number"] g_note_of)
  (F:Fun K "note_of" "note_of" s_note_of fa fd) (hm:mg "note_of"=some (.ref fa)) (b:Binds K fd ["top","number"] []):Cal P w K mg base (k+1) "note_of" ["top","number"] (fnRun 5 (t_note_of g_place_of g_is_at g_note_of)):=
 cal_mk (N:=["top","number","cards","below","place"]) F sc_note_of hm b fun cdv A outer s H E hr=>
  (dss_cons (ds_set (i:=2) sc_note_of.nd (de_ix (dv 0) de_int))
  (dss_cons (ds_set (i:=3) sc_note_of.nd (de_ix (dv 0) de_int))
  (dss_cons (ds_set (i:=4) sc_note_of.nd (de_cal c_place_of hr (da_cons (dv 2) (da_cons (dv 1) da_nil))))
  (dss_cons (ds_if (dt_val (de_cal c_is_at hr (da_cons (dv 2) (da_cons (dv 4) (da_cons (dv 1) da_nil))))) (dss_one (ds_ret (de_ix (de_ix (dv 2) (dv 4)) de_int))) dss_nil)
  (dss_cons (ds_if (dt_eq hr (de_len B.len (da_cons (dv 3) da_nil)) de_int) (dss_one (ds_ret de_non)) dss_nil)
  (dss_one (ds_ret (de_cal c_note_of hr (da_cons (de_ix (dv 3) (dv 4)) (da_cons (dv 1) da_nil))))))))))
theorem sc_rank_of:FnScope ["top","number","below","place","ahead"] ["top","number"] (defScope s_rank_of):=⟨rfl,rfl,rfl,by decide +kernel,rfl,by decide +kernel,by decide +kernel⟩
theorem ok_rank_of {P:Program}{w:World}{K:PySem.W.Frag}{mg:Str->Option Value}{base:Heap}{k:Nat}{fa:Addr}{fd:FuncData} (B:Bu mg) {g_place_of:OC} (c_place_of:Cal P w K mg base k "place_of" ["cards","number"] g_place_of) {g_rank_of:OC} (c_rank_of:Cal P w K mg base k "rank_of" ["top","number"] g_rank_of)
  (F:Fun K "rank_of" "rank_of" s_rank_of fa fd) (hm:mg "rank_of"=some (.ref fa)) (b:Binds K fd ["top","number"] []):Cal P w K mg base (k+1) "rank_of" ["top","number"] (fnRun 5 (t_rank_of g_place_of g_rank_of)):=
 cal_mk (N:=["top","number","below","place","ahead"]) F sc_rank_of hm b fun cdv A outer s H E hr=>
  (dss_cons (ds_set (i:=2) sc_rank_of.nd (de_ix (dv 0) de_int))
  (dss_cons (ds_set (i:=3) sc_rank_of.nd (de_cal c_place_of hr (da_cons (de_ix (dv 0) de_int) (da_cons (dv 1) da_nil))))
  (dss_cons (ds_if (dt_eq hr (de_len B.len (da_cons (dv 2) da_nil)) de_int) (dss_one (ds_ret (dv 3))) dss_nil)
  (dss_cons (ds_set (i:=4) sc_rank_of.nd (de_add (dv 3) (de_sum B.sum rfl (da_cons (de_comp (fr:=[]) (frn:=[]) rfl (di_seq (de_slice (dv 2) do_none (do_some (dv 3)))) fun _ _ _ _=>⟨.nil,(de_ix (dv 0) de_int)⟩) da_nil))))
  (dss_one (ds_ret (de_add (dv 4) (de_cal c_rank_of hr (da_cons (de_ix (dv 2) (dv 3)) (da_cons (dv 1) da_nil))))))))))
theorem sc_card_with:FnScope ["drawer","rank","cards","below","place","rest"] ["drawer","rank"] (defScope s_card_with):=⟨rfl,rfl,rfl,by decide +kernel,rfl,by decide +kernel,by decide +kernel⟩
theorem ok_card_with {P:Program}{w:World}{K:PySem.W.Frag}{mg:Str->Option Value}{base:Heap}{k:Nat}{fa:Addr}{fd:FuncData} (B:Bu mg) {g_card_with:OC} (c_card_with:Cal P w K mg base k "card_with" ["drawer","rank"] g_card_with)
  (F:Fun K "card_with" "card_with" s_card_with fa fd) (hm:mg "card_with"=some (.ref fa)) (b:Binds K fd ["drawer","rank"] []):Cal P w K mg base (k+1) "card_with" ["drawer","rank"] (fnRun 6 (t_card_with g_card_with)):=
 cal_mk (N:=["drawer","rank","cards","below","place","rest"]) F sc_card_with hm b fun cdv A outer s H E hr=>
  (dss_cons (ds_set (i:=2) sc_card_with.nd (de_ix (dv 0) de_int))
  (dss_cons (ds_set (i:=3) sc_card_with.nd (de_ix (dv 0) de_int))
  (dss_cons (ds_if (dt_eq hr (de_len B.len (da_cons (dv 3) da_nil)) de_int) (dss_one (ds_ret (de_ix (dv 2) (dv 1)))) dss_nil)
  (dss_cons (ds_set (i:=4) sc_card_with.nd de_int)
  (dss_cons (ds_set (i:=5) sc_card_with.nd (dv 1))
  (dss_cons (ds_while 2000 PassesOwn.never (dt_gt (dv 5) (de_ix (de_ix (dv 3) (dv 4)) de_int)) (dss_cons (ds_set (i:=5) sc_card_with.nd (de_sub (de_sub (dv 5) (de_ix (de_ix (dv 3) (dv 4)) de_int)) de_int))
  (dss_one (ds_set (i:=4) sc_card_with.nd (de_add (dv 4) de_int)))))
  (dss_cons (ds_if (dt_eq hr (dv 5) (de_ix (de_ix (dv 3) (dv 4)) de_int)) (dss_one (ds_ret (de_ix (dv 2) (dv 4)))) dss_nil)
  (dss_one (ds_ret (de_cal c_card_with hr (da_cons (de_ix (dv 3) (dv 4)) (da_cons (dv 5) da_nil))))))))))))
theorem sc_card_at:FnScope ["top","rank"] ["top","rank"] (defScope s_card_at):=⟨rfl,rfl,rfl,by decide +kernel,rfl,by decide +kernel,by decide +kernel⟩
theorem ok_card_at {P:Program}{w:World}{K:PySem.W.Frag}{mg:Str->Option Value}{base:Heap}{k:Nat}{fa:Addr}{fd:FuncData} (B:Bu mg) {x_NoCard:Addr}{bm_NoCard:List Value} (e_NoCard:ExC K x_NoCard bm_NoCard) (m_NoCard:mg "NoCard"=some (.ref x_NoCard)) {g_card_with:OC} (c_card_with:Cal P w K mg base k "card_with" ["drawer","rank"] g_card_with)
  (F:Fun K "card_at" "card_at" s_card_at fa fd) (hm:mg "card_at"=some (.ref fa)) (b:Binds K fd ["top","rank"] []):CalX P w K mg base (k+1) "card_at" ["top","rank"] (fnRunX 2 (t_card_at x_NoCard g_card_with)):=
 calX_mk (N:=["top","rank"]) F sc_card_at hm b fun cdv A outer s H E hr=>
  (dss_cons (ds_if (dt_w (dw_or (dt_lt (dv 1) de_int) (dw_or1 (dt_ge (dv 1) (de_ix (dv 0) de_int))))) (dss_one (ds_raise e_NoCard m_NoCard (da_cons de_str da_nil))) dss_nil)
  (dss_one (ds_ret (de_cal c_card_with hr (da_cons (dv 0) (da_cons (dv 1) da_nil))))))
theorem sc_between:FnScope ["top","low","high","cards","below","start","end","row","place"] ["top","low","high"] (defScope s_between):=⟨rfl,rfl,rfl,by decide +kernel,rfl,by decide +kernel,by decide +kernel⟩
theorem ok_between {P:Program}{w:World}{K:PySem.W.Frag}{mg:Str->Option Value}{base:Heap}{k:Nat}{fa:Addr}{fd:FuncData} (B:Bu mg) {g_place_of:OC} (c_place_of:Cal P w K mg base k "place_of" ["cards","number"] g_place_of) {g_between:OC} (c_between:Cal P w K mg base k "between" ["top","low","high"] g_between)
  (F:Fun K "between" "between" s_between fa fd) (hm:mg "between"=some (.ref fa)) (b:Binds K fd ["top","low","high"] []):Cal P w K mg base (k+1) "between" ["top","low","high"] (fnRun 9 (t_between g_place_of g_between)):=
 cal_mk (N:=["top","low","high","cards","below","start","end","row","place"]) F sc_between hm b fun cdv A outer s H E hr=>
  (dss_cons (ds_set (i:=3) sc_between.nd (de_ix (dv 0) de_int))
  (dss_cons (ds_set (i:=4) sc_between.nd (de_ix (dv 0) de_int))
  (dss_cons (ds_set (i:=5) sc_between.nd (de_if (dt_isN (dv 1) de_non) de_int (de_cal c_place_of hr (da_cons (dv 3) (da_cons (dv 1) da_nil)))))
  (dss_cons (ds_set (i:=6) sc_between.nd (de_if (dt_isN (dv 2) de_non) (de_len B.len (da_cons (dv 3) da_nil)) (de_cal c_place_of hr (da_cons (dv 3) (da_cons (de_add (dv 2) de_int) da_nil)))))
  (dss_cons (ds_if (dt_eq hr (de_len B.len (da_cons (dv 4) da_nil)) de_int) (dss_one (ds_ret (de_list B.list (da_cons (de_slice (dv 3) (do_some (dv 5)) (do_some (dv 6))) da_nil)))) dss_nil)
  (dss_cons (ds_set (i:=7) sc_between.nd (de_lst da_nil))
  (dss_cons (ds_for (i:=8) PassesOwn.never rfl sc_between.nd (di_range2 B.range (da_cons (dv 5) (da_cons (dv 6) da_nil))) (dss_cons (ds_expr (de_extend (dv 7) (da_cons (de_cal c_between hr (da_cons (de_ix (dv 4) (dv 8)) (da_cons (dv 1) (da_cons (dv 2) da_nil)))) da_nil)))
  (dss_one (ds_expr (de_append (dv 7) (da_cons (de_ix (dv 3) (dv 8)) da_nil))))))
  (dss_cons (ds_expr (de_extend (dv 7) (da_cons (de_cal c_between hr (da_cons (de_ix (dv 4) (dv 6)) (da_cons (dv 1) (da_cons (dv 2) da_nil)))) da_nil)))
  (dss_one (ds_ret (dv 7)))))))))))
theorem sc_parted:FnScope ["width","drawer","half","cards","below","left","right"] ["width","drawer"] (defScope s_parted):=⟨rfl,rfl,rfl,by decide +kernel,rfl,by decide +kernel,by decide +kernel⟩
theorem ok_parted {P:Program}{w:World}{K:PySem.W.Frag}{mg:Str->Option Value}{base:Heap}{k:Nat}{fa:Addr}{fd:FuncData} (B:Bu mg) {g_half_of:OC} (c_half_of:Cal P w K mg base k "half_of" ["width"] g_half_of) {g_drawer_of:OC} (c_drawer_of:Cal P w K mg base k "drawer_of" ["cards","below"] g_drawer_of)
  (F:Fun K "parted" "parted" s_parted fa fd) (hm:mg "parted"=some (.ref fa)) (b:Binds K fd ["width","drawer"] []):Cal P w K mg base (k+1) "parted" ["width","drawer"] (fnRun 7 (t_parted g_half_of g_drawer_of)):=
 cal_mk (N:=["width","drawer","half","cards","below","left","right"]) F sc_parted hm b fun cdv A outer s H E hr=>
  (dss_cons (ds_set (i:=2) sc_parted.nd (de_cal c_half_of hr (da_cons (dv 0) da_nil)))
  (dss_cons (ds_set (i:=3) sc_parted.nd (de_ix (dv 1) de_int))
  (dss_cons (ds_set (i:=4) sc_parted.nd (de_ix (dv 1) de_int))
  (dss_cons (ds_set (i:=5) sc_parted.nd (de_cal c_drawer_of hr (da_cons (de_slice (dv 3) do_none (do_some (dv 2))) (da_cons (de_slice (dv 4) do_none (do_some (de_add (dv 2) de_int))) da_nil))))
  (dss_cons (ds_set (i:=6) sc_parted.nd (de_cal c_drawer_of hr (da_cons (de_slice (dv 3) (do_some (de_add (dv 2) de_int)) do_none) (da_cons (de_slice (dv 4) (do_some (de_add (dv 2) de_int)) do_none) da_nil))))
  (dss_one (ds_ret (de_tup (da_cons (dv 5) (da_cons (de_ix (dv 3) (dv 2)) (da_cons (dv 6) da_nil)))))))))))
theorem sc_with_under_parted:FnScope ["width","drawer","place","under","cards","below","parts"] ["width","drawer","place","under"] (defScope s_with_under_parted):=⟨rfl,rfl,rfl,by decide +kernel,rfl,by decide +kernel,by decide +kernel⟩
theorem ok_with_under_parted {P:Program}{w:World}{K:PySem.W.Frag}{mg:Str->Option Value}{base:Heap}{k:Nat}{fa:Addr}{fd:FuncData} (B:Bu mg) {g_spliced:OC} (c_spliced:Cal P w K mg base k "spliced" ["row","start","end","parts"] g_spliced) {g_drawer_of:OC} (c_drawer_of:Cal P w K mg base k "drawer_of" ["cards","below"] g_drawer_of) {g_parted:OC} (c_parted:Cal P w K mg base k "parted" ["width","drawer"] g_parted)
  (F:Fun K "with_under_parted" "with_under_parted" s_with_under_parted fa fd) (hm:mg "with_under_parted"=some (.ref fa)) (b:Binds K fd ["width","drawer","place","under"] []):Cal P w K mg base (k+1) "with_under_parted" ["width","drawer","place","under"] (fnRun 7 (t_with_under_parted g_spliced g_drawer_of g_parted)):=
 cal_mk (N:=["width","drawer","place","under","cards","below","parts"]) F sc_with_under_parted hm b fun cdv A outer s H E hr=>
  (dss_cons (ds_set (i:=4) sc_with_under_parted.nd (de_ix (dv 1) de_int))
  (dss_cons (ds_set (i:=5) sc_with_under_parted.nd (de_ix (dv 1) de_int))
  (dss_cons (ds_if (dt_le (de_len B.len (da_cons (de_ix (dv 3) de_int) da_nil)) (dv 0)) (dss_one (ds_ret (de_cal c_drawer_of hr (da_cons (dv 4) (da_cons (de_cal c_spliced hr (da_cons (dv 5) (da_cons (dv 2) (da_cons (de_add (dv 2) de_int) (da_cons (de_tup (da_cons (dv 3) da_nil)) da_nil))))) da_nil))))) dss_nil)
  (dss_cons (ds_set (i:=6) sc_with_under_parted.nd (de_cal c_parted hr (da_cons (dv 0) (da_cons (dv 3) da_nil))))
  (dss_one (ds_ret (de_cal c_drawer_of hr (da_cons (de_cal c_spliced hr (da_cons (dv 4) (da_cons (dv 2) (da_cons (dv 2) (da_cons (de_tup (da_cons (de_ix (dv 6) de_int) da_nil)) da_nil))))) (da_cons (de_cal c_spliced hr (da_cons (dv 5) (da_cons (dv 2) (da_cons (de_add (dv 2) de_int) (da_cons (de_tup (da_cons (de_ix (dv 6) de_int) (da_cons (de_ix (dv 6) de_int) da_nil))) da_nil))))) da_nil)))))))))
theorem sc_laid_in:FnScope ["width","drawer","number","note","cards","below","place","under"] ["width","drawer","number","note"] (defScope s_laid_in):=⟨rfl,rfl,rfl,by decide +kernel,rfl,by decide +kernel,by decide +kernel⟩
theorem ok_laid_in {P:Program}{w:World}{K:PySem.W.Frag}{mg:Str->Option Value}{base:Heap}{k:Nat}{fa:Addr}{fd:FuncData} (B:Bu mg) {g_place_of:OC} (c_place_of:Cal P w K mg base k "place_of" ["cards","number"] g_place_of) {g_is_at:OC} (c_is_at:Cal P w K mg base k "is_at" ["cards","place","number"] g_is_at) {g_spliced:OC} (c_spliced:Cal P w K mg base k "spliced" ["row","start","end","parts"] g_spliced) {g_drawer_of:OC} (c_drawer_of:Cal P w K mg base k "drawer_of" ["cards","below"] g_drawer_of) {g_laid_in:OC} (c_laid_in:Cal P w K mg base k "laid_in" ["width","drawer","number","note"] g_laid_in) {g_with_under_parted:OC} (c_with_under_parted:Cal P w K mg base k "with_under_parted" ["width","drawer","place","under"] g_with_under_parted)
  (F:Fun K "laid_in" "laid_in" s_laid_in fa fd) (hm:mg "laid_in"=some (.ref fa)) (b:Binds K fd ["width","drawer","number","note"] []):Cal P w K mg base (k+1) "laid_in" ["width","drawer","number","note"] (fnRun 8 (t_laid_in g_place_of g_is_at g_spliced g_drawer_of g_laid_in g_with_under_parted)):=
 cal_mk (N:=["width","drawer","number","note","cards","below","place","under"]) F sc_laid_in hm b fun cdv A outer s H E hr=>
  (dss_cons (ds_set (i:=4) sc_laid_in.nd (de_ix (dv 1) de_int))
  (dss_cons (ds_set (i:=5) sc_laid_in.nd (de_ix (dv 1) de_int))
  (dss_cons (ds_set (i:=6) sc_laid_in.nd (de_cal c_place_of hr (da_cons (dv 4) (da_cons (dv 2) da_nil))))
  (dss_cons (ds_if (dt_val (de_cal c_is_at hr (da_cons (dv 4) (da_cons (dv 6) (da_cons (dv 2) da_nil))))) (dss_one (ds_ret (de_cal c_drawer_of hr (da_cons (de_cal c_spliced hr (da_cons (dv 4) (da_cons (dv 6) (da_cons (de_add (dv 6) de_int) (da_cons (de_tup (da_cons (de_tup (da_cons (dv 2) (da_cons (dv 3) da_nil))) da_nil)) da_nil))))) (da_cons (dv 5) da_nil))))) dss_nil)
  (dss_cons (ds_if (dt_eq hr (de_len B.len (da_cons (dv 5) da_nil)) de_int) (dss_one (ds_ret (de_cal c_drawer_of hr (da_cons (de_cal c_spliced hr (da_cons (dv 4) (da_cons (dv 6) (da_cons (dv 6) (da_cons (de_tup (da_cons (de_tup (da_cons (dv 2) (da_cons (dv 3) da_nil))) da_nil)) da_nil))))) (da_cons (dv 5) da_nil))))) dss_nil)
  (dss_cons (ds_set (i:=7) sc_laid_in.nd (de_cal c_laid_in hr (da_cons (dv 0) (da_cons (de_ix (dv 5) (dv 6)) (da_cons (dv 2) (da_cons (dv 3) da_nil))))))
  (dss_one (ds_ret (de_cal c_with_under_parted hr (da_cons (dv 0) (da_cons (dv 1) (da_cons (dv 6) (da_cons (dv 7) da_nil)))))))))))))
theorem sc_put_in:FnScope ["width","top","number","note","drawer","parts"] ["width","top","number","note"] (defScope s_put_in):=⟨rfl,rfl,rfl,by decide +kernel,rfl,by decide +kernel,by decide +kernel⟩
theorem ok_put_in {P:Program}{w:World}{K:PySem.W.Frag}{mg:Str->Option Value}{base:Heap}{k:Nat}{fa:Addr}{fd:FuncData} (B:Bu mg) {g_laid_in:OC} (c_laid_in:Cal P w K mg base k "laid_in" ["width","drawer","number","note"] g_laid_in) {g_parted:OC} (c_parted:Cal P w K mg base k "parted" ["width","drawer"] g_parted) {g_drawer_of:OC} (c_drawer_of:Cal P w K mg base k "drawer_of" ["cards","below"] g_drawer_of)
  (F:Fun K "put_in" "put_in" s_put_in fa fd) (hm:mg "put_in"=some (.ref fa)) (b:Binds K fd ["width","top","number","note"] []):Cal P w K mg base (k+1) "put_in" ["width","top","number","note"] (fnRun 6 (t_put_in g_laid_in g_parted g_drawer_of)):=
 cal_mk (N:=["width","top","number","note","drawer","parts"]) F sc_put_in hm b fun cdv A outer s H E hr=>
  (dss_cons (ds_set (i:=4) sc_put_in.nd (de_cal c_laid_in hr (da_cons (dv 0) (da_cons (dv 1) (da_cons (dv 2) (da_cons (dv 3) da_nil))))))
  (dss_cons (ds_if (dt_le (de_len B.len (da_cons (de_ix (dv 4) de_int) da_nil)) (dv 0)) (dss_one (ds_ret (dv 4))) dss_nil)
  (dss_cons (ds_set (i:=5) sc_put_in.nd (de_cal c_parted hr (da_cons (dv 0) (da_cons (dv 4) da_nil))))
  (dss_one (ds_ret (de_cal c_drawer_of hr (da_cons (de_tup (da_cons (de_ix (dv 5) de_int) da_nil)) (da_cons (de_tup (da_cons (de_ix (dv 5) de_int) (da_cons (de_ix (dv 5) de_int) da_nil))) da_nil))))))))
theorem sc_lent_by_left:FnScope ["drawer","place","cards","below","left","short","lender","filled"] ["drawer","place"] (defScope s_lent_by_left):=⟨rfl,rfl,rfl,by decide +kernel,rfl,by decide +kernel,by decide +kernel⟩
theorem ok_lent_by_left {P:Program}{w:World}{K:PySem.W.Frag}{mg:Str->Option Value}{base:Heap}{k:Nat}{fa:Addr}{fd:FuncData} (B:Bu mg) {g_drawer_of:OC} (c_drawer_of:Cal P w K mg base k "drawer_of" ["cards","below"] g_drawer_of) {g_spliced:OC} (c_spliced:Cal P w K mg base k "spliced" ["row","start","end","parts"] g_spliced)
  (F:Fun K "lent_by_left" "lent_by_left" s_lent_by_left fa fd) (hm:mg "lent_by_left"=some (.ref fa)) (b:Binds K fd ["drawer","place"] []):Cal P w K mg base (k+1) "lent_by_left" ["drawer","place"] (fnRun 8 (t_lent_by_left g_drawer_of g_spliced)):=
 cal_mk (N:=["drawer","place","cards","below","left","short","lender","filled"]) F sc_lent_by_left hm b fun cdv A outer s H E hr=>
  (dss_cons (ds_set (i:=2) sc_lent_by_left.nd (de_ix (dv 0) de_int))
  (dss_cons (ds_set (i:=3) sc_lent_by_left.nd (de_ix (dv 0) de_int))
  (dss_cons (ds_set (i:=4) sc_lent_by_left.nd (de_ix (dv 3) (de_sub (dv 1) de_int)))
  (dss_cons (ds_set (i:=5) sc_lent_by_left.nd (de_ix (dv 3) (dv 1)))
  (dss_cons (ds_set (i:=6) sc_lent_by_left.nd (de_cal c_drawer_of hr (da_cons (de_slice (de_ix (dv 4) de_int) do_none (do_some (de_neg de_int))) (da_cons (de_slice (de_ix (dv 4) de_int) do_none (do_some (de_neg de_int))) da_nil))))
  (dss_cons (ds_set (i:=7) sc_lent_by_left.nd (de_cal c_drawer_of hr (da_cons (de_add (de_tup (da_cons (de_ix (dv 2) (de_sub (dv 1) de_int)) da_nil)) (de_ix (dv 5) de_int)) (da_cons (de_add (de_slice (de_ix (dv 4) de_int) (do_some (de_neg de_int)) do_none) (de_ix (dv 5) de_int)) da_nil))))
  (dss_one (ds_ret (de_cal c_drawer_of hr (da_cons (de_cal c_spliced hr (da_cons (dv 2) (da_cons (de_sub (dv 1) de_int) (da_cons (dv 1) (da_cons (de_slice (de_ix (dv 4) de_int) (do_some (de_neg de_int)) do_none) da_nil))))) (da_cons (de_cal c_spliced hr (da_cons (dv 3) (da_cons (de_sub (dv 1) de_int) (da_cons (de_add (dv 1) de_int) (da_cons (de_tup (da_cons (dv 6) (da_cons (dv 7) da_nil))) da_nil))))) da_nil)))))))))))
theorem sc_lent_by_right:FnScope ["drawer","place","cards","below","short","right","filled","lender"] ["drawer","place"] (defScope s_lent_by_right):=⟨rfl,rfl,rfl,by decide +kernel,rfl,by decide +kernel,by decide +kernel⟩
theorem ok_lent_by_right {P:Program}{w:World}{K:PySem.W.Frag}{mg:Str->Option Value}{base:Heap}{k:Nat}{fa:Addr}{fd:FuncData} (B:Bu mg) {g_drawer_of:OC} (c_drawer_of:Cal P w K mg base k "drawer_of" ["cards","below"] g_drawer_of) {g_spliced:OC} (c_spliced:Cal P w K mg base k "spliced" ["row","start","end","parts"] g_spliced)
  (F:Fun K "lent_by_right" "lent_by_right" s_lent_by_right fa fd) (hm:mg "lent_by_right"=some (.ref fa)) (b:Binds K fd ["drawer","place"] []):Cal P w K mg base (k+1) "lent_by_right" ["drawer","place"] (fnRun 8 (t_lent_by_right g_drawer_of g_spliced)):=
 cal_mk (N:=["drawer","place","cards","below","short","right","filled","lender"]) F sc_lent_by_right hm b fun cdv A outer s H E hr=>
  (dss_cons (ds_set (i:=2) sc_lent_by_right.nd (de_ix (dv 0) de_int))
  (dss_cons (ds_set (i:=3) sc_lent_by_right.nd (de_ix (dv 0) de_int))
  (dss_cons (ds_set (i:=4) sc_lent_by_right.nd (de_ix (dv 3) (dv 1)))
  (dss_cons (ds_set (i:=5) sc_lent_by_right.nd (de_ix (dv 3) (de_add (dv 1) de_int)))
  (dss_cons (ds_set (i:=6) sc_lent_by_right.nd (de_cal c_drawer_of hr (da_cons (de_add (de_ix (dv 4) de_int) (de_tup (da_cons (de_ix (dv 2) (dv 1)) da_nil))) (da_cons (de_add (de_ix (dv 4) de_int) (de_slice (de_ix (dv 5) de_int) do_none (do_some de_int))) da_nil))))
  (dss_cons (ds_set (i:=7) sc_lent_by_right.nd (de_cal c_drawer_of hr (da_cons (de_slice (de_ix (dv 5) de_int) (do_some de_int) do_none) (da_cons (de_slice (de_ix (dv 5) de_int) (do_some de_int) do_none) da_nil))))
  (dss_one (ds_ret (de_cal c_drawer_of hr (da_cons (de_cal c_spliced hr (da_cons (dv 2) (da_cons (dv 1) (da_cons (de_add (dv 1) de_int) (da_cons (de_slice (de_ix (dv 5) de_int) do_none (do_some de_int)) da_nil))))) (da_cons (de_cal c_spliced hr (da_cons (dv 3) (da_cons (dv 1) (da_cons (de_add (dv 1) de_int) (da_cons (de_tup (da_cons (dv 6) (da_cons (dv 7) da_nil))) da_nil))))) da_nil)))))))))))
theorem sc_joined:FnScope ["drawer","place","cards","below","left","right","one"] ["drawer","place"] (defScope s_joined):=⟨rfl,rfl,rfl,by decide +kernel,rfl,by decide +kernel,by decide +kernel⟩
theorem ok_joined {P:Program}{w:World}{K:PySem.W.Frag}{mg:Str->Option Value}{base:Heap}{k:Nat}{fa:Addr}{fd:FuncData} (B:Bu mg) {g_drawer_of:OC} (c_drawer_of:Cal P w K mg base k "drawer_of" ["cards","below"] g_drawer_of) {g_spliced:OC} (c_spliced:Cal P w K mg base k "spliced" ["row","start","end","parts"] g_spliced)
  (F:Fun K "joined" "joined" s_joined fa fd) (hm:mg "joined"=some (.ref fa)) (b:Binds K fd ["drawer","place"] []):Cal P w K mg base (k+1) "joined" ["drawer","place"] (fnRun 7 (t_joined g_drawer_of g_spliced)):=
 cal_mk (N:=["drawer","place","cards","below","left","right","one"]) F sc_joined hm b fun cdv A outer s H E hr=>
  (dss_cons (ds_set (i:=2) sc_joined.nd (de_ix (dv 0) de_int))
  (dss_cons (ds_set (i:=3) sc_joined.nd (de_ix (dv 0) de_int))
  (dss_cons (ds_set (i:=4) sc_joined.nd (de_ix (dv 3) (dv 1)))
  (dss_cons (ds_set (i:=5) sc_joined.nd (de_ix (dv 3) (de_add (dv 1) de_int)))
  (dss_cons (ds_set (i:=6) sc_joined.nd (de_cal c_drawer_of hr (da_cons (de_add (de_add (de_ix (dv 4) de_int) (de_tup (da_cons (de_ix (dv 2) (dv 1)) da_nil))) (de_ix (dv 5) de_int)) (da_cons (de_add (de_ix (dv 4) de_int) (de_ix (dv 5) de_int)) da_nil))))
  (dss_one (ds_ret (de_cal c_drawer_of hr (da_cons (de_cal c_spliced hr (da_cons (dv 2) (da_cons (dv 1) (da_cons (de_add (dv 1) de_int) (da_cons (de_tup da_nil) da_nil))))) (da_cons (de_cal c_spliced hr (da_cons (dv 3) (da_cons (dv 1) (da_cons (de_add (dv 1) de_int) (da_cons (de_tup (da_cons (dv 6) da_nil)) da_nil))))) da_nil))))))))))
theorem sc_mended:FnScope ["width","drawer","place","half","below"] ["width","drawer","place"] (defScope s_mended):=⟨rfl,rfl,rfl,by decide +kernel,rfl,by decide +kernel,by decide +kernel⟩
theorem ok_mended {P:Program}{w:World}{K:PySem.W.Frag}{mg:Str->Option Value}{base:Heap}{k:Nat}{fa:Addr}{fd:FuncData} (B:Bu mg) {g_half_of:OC} (c_half_of:Cal P w K mg base k "half_of" ["width"] g_half_of) {g_lent_by_left:OC} (c_lent_by_left:Cal P w K mg base k "lent_by_left" ["drawer","place"] g_lent_by_left) {g_lent_by_right:OC} (c_lent_by_right:Cal P w K mg base k "lent_by_right" ["drawer","place"] g_lent_by_right) {g_joined:OC} (c_joined:Cal P w K mg base k "joined" ["drawer","place"] g_joined)
  (F:Fun K "mended" "mended" s_mended fa fd) (hm:mg "mended"=some (.ref fa)) (b:Binds K fd ["width","drawer","place"] []):Cal P w K mg base (k+1) "mended" ["width","drawer","place"] (fnRun 5 (t_mended g_half_of g_lent_by_left g_lent_by_right g_joined)):=
 cal_mk (N:=["width","drawer","place","half","below"]) F sc_mended hm b fun cdv A outer s H E hr=>
  (dss_cons (ds_set (i:=3) sc_mended.nd (de_cal c_half_of hr (da_cons (dv 0) da_nil)))
  (dss_cons (ds_set (i:=4) sc_mended.nd (de_ix (dv 1) de_int))
  (dss_cons (ds_if (dt_ne hr (de_len B.len (da_cons (de_ix (de_ix (dv 4) (dv 2)) de_int) da_nil)) (de_sub (dv 3) de_int)) (dss_one (ds_ret (dv 1))) dss_nil)
  (dss_cons (ds_if (dt_w (dw_and (dt_gt (dv 2) de_int) (dw_and1 (dt_gt (de_len B.len (da_cons (de_ix (de_ix (dv 4) (de_sub (dv 2) de_int)) de_int) da_nil)) (dv 3))))) (dss_one (ds_ret (de_cal c_lent_by_left hr (da_cons (dv 1) (da_cons (dv 2) da_nil))))) dss_nil)
  (dss_cons (ds_if (dt_w (dw_and (dt_lt (de_add (dv 2) de_int) (de_len B.len (da_cons (dv 4) da_nil))) (dw_and1 (dt_gt (de_len B.len (da_cons (de_ix (de_ix (dv 4) (de_add (dv 2) de_int)) de_int) da_nil)) (dv 3))))) (dss_one (ds_ret (de_cal c_lent_by_right hr (da_cons (dv 1) (da_cons (dv 2) da_nil))))) dss_nil)
  (dss_cons (ds_if (dt_gt (dv 2) de_int) (dss_one (ds_ret (de_cal c_joined hr (da_cons (dv 1) (da_cons (de_sub (dv 2) de_int) da_nil))))) dss_nil)
  (dss_one (ds_ret (de_cal c_joined hr (da_cons (dv 1) (da_cons (dv 2) da_nil)))))))))))
theorem sc_with_under_mended:FnScope ["width","cards","below","place","under","drawer"] ["width","cards","below","place","under"] (defScope s_with_under_mended):=⟨rfl,rfl,rfl,by decide +kernel,rfl,by decide +kernel,by decide +kernel⟩
theorem ok_with_under_mended {P:Program}{w:World}{K:PySem.W.Frag}{mg:Str->Option Value}{base:Heap}{k:Nat}{fa:Addr}{fd:FuncData} (B:Bu mg) {g_spliced:OC} (c_spliced:Cal P w K mg base k "spliced" ["row","start","end","parts"] g_spliced) {g_drawer_of:OC} (c_drawer_of:Cal P w K mg base k "drawer_of" ["cards","below"] g_drawer_of) {g_mended:OC} (c_mended:Cal P w K mg base k "mended" ["width","drawer","place"] g_mended)
  (F:Fun K "with_under_mended" "with_under_mended" s_with_under_mended fa fd) (hm:mg "with_under_mended"=some (.ref fa)) (b:Binds K fd ["width","cards","below","place","under"] []):Cal P w K mg base (k+1) "with_under_mended" ["width","cards","below","place","under"] (fnRun 6 (t_with_under_mended g_spliced g_drawer_of g_mended)):=
 cal_mk (N:=["width","cards","below","place","under","drawer"]) F sc_with_under_mended hm b fun cdv A outer s H E hr=>
  (dss_cons (ds_set (i:=5) sc_with_under_mended.nd (de_cal c_drawer_of hr (da_cons (dv 1) (da_cons (de_cal c_spliced hr (da_cons (dv 2) (da_cons (dv 3) (da_cons (de_add (dv 3) de_int) (da_cons (de_tup (da_cons (dv 4) da_nil)) da_nil))))) da_nil))))
  (dss_one (ds_ret (de_cal c_mended hr (da_cons (dv 0) (da_cons (dv 5) (da_cons (dv 3) da_nil)))))))
theorem sc_last_out:FnScope ["width","drawer","cards","below","place","pair"] ["width","drawer"] (defScope s_last_out):=⟨rfl,rfl,rfl,by decide +kernel,rfl,by decide +kernel,by decide +kernel⟩
theorem ok_last_out {P:Program}{w:World}{K:PySem.W.Frag}{mg:Str->Option Value}{base:Heap}{k:Nat}{fa:Addr}{fd:FuncData} (B:Bu mg) {g_drawer_of:OC} (c_drawer_of:Cal P w K mg base k "drawer_of" ["cards","below"] g_drawer_of) {g_last_out:OC} (c_last_out:Cal P w K mg base k "last_out" ["width","drawer"] g_last_out) {g_with_under_mended:OC} (c_with_under_mended:Cal P w K mg base k "with_under_mended" ["width","cards","below","place","under"] g_with_under_mended)
  (F:Fun K "last_out" "last_out" s_last_out fa fd) (hm:mg "last_out"=some (.ref fa)) (b:Binds K fd ["width","drawer"] []):Cal P w K mg base (k+1) "last_out" ["width","drawer"] (fnRun 6 (t_last_out g_drawer_of g_last_out g_with_under_mended)):=
 cal_mk (N:=["width","drawer","cards","below","place","pair"]) F sc_last_out hm b fun cdv A outer s H E hr=>
  (dss_cons (ds_set (i:=2) sc_last_out.nd (de_ix (dv 1) de_int))
  (dss_cons (ds_set (i:=3) sc_last_out.nd (de_ix (dv 1) de_int))
  (dss_cons (ds_if (dt_eq hr (de_len B.len (da_cons (dv 3) da_nil)) de_int) (dss_one (ds_ret (de_tup (da_cons (de_ix (dv 2) (de_neg de_int)) (da_cons (de_cal c_drawer_of hr (da_cons (de_slice (dv 2) do_none (do_some (de_neg de_int))) (da_cons (de_tup da_nil) da_nil))) da_nil))))) dss_nil)
  (dss_cons (ds_set (i:=4) sc_last_out.nd (de_sub (de_len B.len (da_cons (dv 3) da_nil)) de_int))
  (dss_cons (ds_set (i:=5) sc_last_out.nd (de_cal c_last_out hr (da_cons (dv 0) (da_cons (de_ix (dv 3) (dv 4)) da_nil))))
  (dss_one (ds_ret (de_tup (da_cons (de_ix (dv 5) de_int) (da_cons (de_cal c_with_under_mended hr (da_cons (dv 0) (da_cons (dv 2) (da_cons (dv 3) (da_cons (dv 4) (da_cons (de_ix (dv 5) de_int) da_nil)))))) da_nil))))))))))
theorem sc_taken_from:FnScope ["width","drawer","number","cards","below","place","found","under","pair","with_stand_in"] ["width","drawer","number"] (defScope s_taken_from):=⟨rfl,rfl,rfl,by decide +kernel,rfl,by decide +kernel,by decide +kernel⟩
theorem ok_taken_from {P:Program}{w:World}{K:PySem.W.Frag}{mg:Str->Option Value}{base:Heap}{k:Nat}{fa:Addr}{fd:FuncData} (B:Bu mg) {x_NoCard:Addr}{bm_NoCard:List Value} (e_NoCard:ExC K x_NoCard bm_NoCard) (m_NoCard:mg "NoCard"=some (.ref x_NoCard)) {g_place_of:OC} (c_place_of:Cal P w K mg base k "place_of" ["cards","number"] g_place_of) {g_is_at:OC} (c_is_at:Cal P w K mg base k "is_at" ["cards","place","number"] g_is_at) {g_spliced:OC} (c_spliced:Cal P w K mg base k "spliced" ["row","start","end","parts"] g_spliced) {g_drawer_of:OC} (c_drawer_of:Cal P w K mg base k "drawer_of" ["cards","below"] g_drawer_of) {g_taken_from:OX} (c_taken_from:CalX P w K mg base k "taken_from" ["width","drawer","number"] g_taken_from) {g_with_under_mended:OC} (c_with_under_mended:Cal P w K mg base k "with_under_mended" ["width","cards","below","place","under"] g_with_under_mended) {g_last_out:OC} (c_last_out:Cal P w K mg base k "last_out" ["width","drawer"] g_last_out)
  (F:Fun K "taken_from" "taken_from" s_taken_from fa fd) (hm:mg "taken_from"=some (.ref fa)) (b:Binds K fd ["width","drawer","number"] []):CalX P w K mg base (k+1) "taken_from" ["width","drawer","number"] (fnRunX 10 (t_taken_from x_NoCard g_place_of g_is_at g_spliced g_drawer_of g_taken_from g_with_under_mended g_last_out)):=
 calX_mk (N:=["width","drawer","number","cards","below","place","found","under","pair","with_stand_in"]) F sc_taken_from hm b fun cdv A outer s H E hr=>
  (dss_cons (ds_set (i:=3) sc_taken_from.nd (de_ix (dv 1) de_int))
  (dss_cons (ds_set (i:=4) sc_taken_from.nd (de_ix (dv 1) de_int))
  (dss_cons (ds_set (i:=5) sc_taken_from.nd (de_cal c_place_of hr (da_cons (dv 3) (da_cons (dv 2) da_nil))))
  (dss_cons (ds_set (i:=6) sc_taken_from.nd (de_cal c_is_at hr (da_cons (dv 3) (da_cons (dv 5) (da_cons (dv 2) da_nil)))))
  (dss_cons (ds_if (dt_eq hr (de_len B.len (da_cons (dv 4) da_nil)) de_int) (dss_cons (ds_if (dt_not (dt_val (dv 6))) (dss_one (ds_raise e_NoCard m_NoCard (da_cons de_str da_nil))) dss_nil)
  (dss_one (ds_ret (de_cal c_drawer_of hr (da_cons (de_cal c_spliced hr (da_cons (dv 3) (da_cons (dv 5) (da_cons (de_add (dv 5) de_int) (da_cons (de_tup da_nil) da_nil))))) (da_cons (de_tup da_nil) da_nil)))))) dss_nil)
  (dss_cons (ds_if (dt_not (dt_val (dv 6))) (dss_cons (ds_set (i:=7) sc_taken_from.nd (de_calX c_taken_from hr (da_cons (dv 0) (da_cons (de_ix (dv 4) (dv 5)) (da_cons (dv 2) da_nil)))))
  (dss_one (ds_ret (de_cal c_with_under_mended hr (da_cons (dv 0) (da_cons (dv 3) (da_cons (dv 4) (da_cons (dv 5) (da_cons (dv 7) da_nil))))))))) dss_nil)
  (dss_cons (ds_set (i:=8) sc_taken_from.nd (de_cal c_last_out hr (da_cons (dv 0) (da_cons (de_ix (dv 4) (dv 5)) da_nil))))
  (dss_cons (ds_set (i:=9) sc_taken_from.nd (de_cal c_spliced hr (da_cons (dv 3) (da_cons (dv 5) (da_cons (de_add (dv 5) de_int) (da_cons (de_tup (da_cons (de_ix (dv 8) de_int) da_nil)) da_nil))))))
  (dss_one (ds_ret (de_cal c_with_under_mended hr (da_cons (dv 0) (da_cons (dv 9) (da_cons (dv 4) (da_cons (dv 5) (da_cons (de_ix (dv 8) de_int) da_nil))))))))))))))))
theorem sc_take_out:FnScope ["width","top","number","drawer"] ["width","top","number"] (defScope s_take_out):=⟨rfl,rfl,rfl,by decide +kernel,rfl,by decide +kernel,by decide +kernel⟩
noncomputable def t_take_out (g_taken_from:OX):FS:=
 (fSeq (fSet 3 (fcX g_taken_from (fAll [(fV 0),(fV 1),(fV 2)])))
  (fSeq (fIfS (fAnd (fB (f2 oEq (fc oLen (fAll [(f2 oIx (fV 3) (fC (.int 0)))])) (fC (.int 0)))) (fB (f2 oEq (fc oLen (fAll [(f2 oIx (fV 3) (fC (.int 1)))])) (fC (.int 1))))) (fRet (f2 oIx (f2 oIx (fV 3) (fC (.int 1))) (fC (.int 0)))) fNext)
  (fRet (fV 3))))
theorem ok_take_out {P:Program}{w:World}{K:PySem.W.Frag}{mg:Str->Option Value}{base:Heap}{k:Nat}{fa:Addr}{fd:FuncData} (B:Bu mg) {g_taken_from:OX} (c_taken_from:CalX P w K mg base k "taken_from" ["width","drawer","number"] g_taken_from)
  (F:Fun K "take_out" "take_out" s_take_out fa fd) (hm:mg "take_out"=some (.ref fa)) (b:Binds K fd ["width","top","number"] []):CalX P w K mg base (k+1) "take_out" ["width","top","number"] (fnRunX 4 (t_take_out g_taken_from)):=
 calX_mk (N:=["width","top","number","drawer"]) F sc_take_out hm b fun cdv A outer s H E hr=>
  (dss_cons (ds_set (i:=3) sc_take_out.nd (de_calX c_taken_from hr (da_cons (dv 0) (da_cons (dv 1) (da_cons (dv 2) da_nil)))))
  (dss_cons (ds_if (dt_w (dw_and (dt_eq hr (de_len B.len (da_cons (de_ix (dv 3) de_int) da_nil)) de_int) (dw_and1 (dt_eq hr (de_len B.len (da_cons (de_ix (dv 3) de_int) da_nil)) de_int)))) (dss_one (ds_ret (de_ix (de_ix (dv 3) de_int) de_int))) dss_nil)
  (dss_one (ds_ret (dv 3)))))
theorem sc_asked:FnScope ["top","deed","kind"] ["top","deed"] (defScope s_asked):=⟨rfl,rfl,rfl,by decide +kernel,rfl,by decide +kernel,by decide +kernel⟩
theorem ok_asked {P:Program}{w:World}{K:PySem.W.Frag}{mg:Str->Option Value}{base:Heap}{k:Nat}{fa:Addr}{fd:FuncData} (B:Bu mg) {g_note_of:OC} (c_note_of:Cal P w K mg base k "note_of" ["top","number"] g_note_of) {g_rank_of:OC} (c_rank_of:Cal P w K mg base k "rank_of" ["top","number"] g_rank_of) {g_card_at:OX} (c_card_at:CalX P w K mg base k "card_at" ["top","rank"] g_card_at) {g_between:OC} (c_between:Cal P w K mg base k "between" ["top","low","high"] g_between)
  (F:Fun K "asked" "asked" s_asked fa fd) (hm:mg "asked"=some (.ref fa)) (b:Binds K fd ["top","deed"] []):CalX P w K mg base (k+1) "asked" ["top","deed"] (fnRunX 3 (t_asked g_note_of g_rank_of g_card_at g_between)):=
 calX_mk (N:=["top","deed","kind"]) F sc_asked hm b fun cdv A outer s H E hr=>
  (dss_cons (ds_set (i:=2) sc_asked.nd (de_ix (dv 1) de_int))
  (dss_cons (ds_if (dt_eq hr (dv 2) de_str) (dss_one (ds_ret (de_cal c_note_of hr (da_cons (dv 0) (da_cons (de_ix (dv 1) de_int) da_nil))))) dss_nil)
  (dss_cons (ds_if (dt_eq hr (dv 2) de_str) (dss_one (ds_ret (de_cal c_rank_of hr (da_cons (dv 0) (da_cons (de_ix (dv 1) de_int) da_nil))))) dss_nil)
  (dss_cons (ds_if (dt_eq hr (dv 2) de_str) (dss_one (ds_ret (de_calX c_card_at hr (da_cons (dv 0) (da_cons (de_ix (dv 1) de_int) da_nil))))) dss_nil)
  (dss_one (ds_ret (de_cal c_between hr (da_cons (dv 0) (da_cons (de_ix (dv 1) de_int) (da_cons (de_ix (dv 1) de_int) da_nil))))))))))
theorem sc_done:FnScope ["width","top","deed","kind"] ["width","top","deed"] (defScope s_done):=⟨rfl,rfl,rfl,by decide +kernel,rfl,by decide +kernel,by decide +kernel⟩
theorem ok_done {P:Program}{w:World}{K:PySem.W.Frag}{mg:Str->Option Value}{base:Heap}{k:Nat}{fa:Addr}{fd:FuncData} (B:Bu mg) {g_note_of:OC} (c_note_of:Cal P w K mg base k "note_of" ["top","number"] g_note_of) {g_put_in:OC} (c_put_in:Cal P w K mg base k "put_in" ["width","top","number","note"] g_put_in) {g_take_out:OX} (c_take_out:CalX P w K mg base k "take_out" ["width","top","number"] g_take_out) {g_asked:OX} (c_asked:CalX P w K mg base k "asked" ["top","deed"] g_asked)
  (F:Fun K "done" "done" s_done fa fd) (hm:mg "done"=some (.ref fa)) (b:Binds K fd ["width","top","deed"] []):CalX P w K mg base (k+1) "done" ["width","top","deed"] (fnRunX 4 (t_done g_note_of g_put_in g_take_out g_asked)):=
 calX_mk (N:=["width","top","deed","kind"]) F sc_done hm b fun cdv A outer s H E hr=>
  (dss_cons (ds_set (i:=3) sc_done.nd (de_ix (dv 2) de_int))
  (dss_cons (ds_if (dt_eq hr (dv 3) de_str) (dss_one (ds_ret (de_tup (da_cons (de_cal c_note_of hr (da_cons (dv 1) (da_cons (de_ix (dv 2) de_int) da_nil))) (da_cons (de_cal c_put_in hr (da_cons (dv 0) (da_cons (dv 1) (da_cons (de_ix (dv 2) de_int) (da_cons (de_ix (dv 2) de_int) da_nil))))) da_nil))))) dss_nil)
  (dss_cons (ds_if (dt_eq hr (dv 3) de_str) (dss_one (ds_ret (de_tup (da_cons (de_cal c_note_of hr (da_cons (dv 1) (da_cons (de_ix (dv 2) de_int) da_nil))) (da_cons (de_calX c_take_out hr (da_cons (dv 0) (da_cons (dv 1) (da_cons (de_ix (dv 2) de_int) da_nil)))) da_nil))))) dss_nil)
  (dss_one (ds_ret (de_tup (da_cons (de_calX c_asked hr (da_cons (dv 1) (da_cons (dv 2) da_nil))) (da_cons (dv 1) da_nil))))))))
theorem sc_done_or_refused:FnScope ["width","top","deed"] ["width","top","deed"] (defScope s_done_or_refused):=⟨rfl,rfl,rfl,by decide +kernel,rfl,by decide +kernel,by decide +kernel⟩
theorem ok_done_or_refused {P:Program}{w:World}{K:PySem.W.Frag}{mg:Str->Option Value}{base:Heap}{k:Nat}{fa:Addr}{fd:FuncData} (B:Bu mg) {x_NoCard:Addr}{bm_NoCard:List Value} (e_NoCard:ExC K x_NoCard bm_NoCard) (m_NoCard:mg "NoCard"=some (.ref x_NoCard)) {g_done:OX} (c_done:CalX P w K mg base k "done" ["width","top","deed"] g_done)
  (F:Fun K "done_or_refused" "done_or_refused" s_done_or_refused fa fd) (hm:mg "done_or_refused"=some (.ref fa)) (b:Binds K fd ["width","top","deed"] []):Cal P w K mg base (k+1) "done_or_refused" ["width","top","deed"] (fnRun 3 (t_done_or_refused x_NoCard g_done)):=
 cal_mk (N:=["width","top","deed"]) F sc_done_or_refused hm b fun cdv A outer s H E hr=>
  (dss_one (ds_try (fun _ _=>(dss_one (ds_ret (de_calX c_done hr (da_cons (dv 0) (da_cons (dv 1) (da_cons (dv 2) da_nil))))))) (mh_cons (dh_hit e_NoCard e_NoCard m_NoCard (contains_self _ _) fun _ _=>(dss_one (ds_ret (de_tup (da_cons de_non (da_cons (dv 1) da_nil)))))) mh_nil)))
theorem sc_steps:FnScope ["width","deeds","top","row","deed","step"] ["width","deeds"] (defScope s_steps):=⟨rfl,rfl,rfl,by decide +kernel,rfl,by decide +kernel,by decide +kernel⟩
theorem ok_steps {P:Program}{w:World}{K:PySem.W.Frag}{mg:Str->Option Value}{base:Heap}{k:Nat}{fa:Addr}{fd:FuncData} (B:Bu mg) {g_check_width:OX} (c_check_width:CalX P w K mg base k "check_width" ["width"] g_check_width) {g_drawer_of:OC} (c_drawer_of:Cal P w K mg base k "drawer_of" ["cards","below"] g_drawer_of) {g_done_or_refused:OC} (c_done_or_refused:Cal P w K mg base k "done_or_refused" ["width","top","deed"] g_done_or_refused)
  (F:Fun K "steps" "steps" s_steps fa fd) (hm:mg "steps"=some (.ref fa)) (b:Binds K fd ["width","deeds"] []):CalX P w K mg base (k+1) "steps" ["width","deeds"] (fnRunX 6 (t_steps g_check_width g_drawer_of g_done_or_refused)):=
 calX_mk (N:=["width","deeds","top","row","deed","step"]) F sc_steps hm b fun cdv A outer s H E hr=>
  (dss_cons (ds_expr (de_calX c_check_width hr (da_cons (dv 0) da_nil)))
  (dss_cons (ds_set (i:=2) sc_steps.nd (de_cal c_drawer_of hr (da_cons (de_tup da_nil) (da_cons (de_tup da_nil) da_nil))))
  (dss_cons (ds_set (i:=3) sc_steps.nd (de_lst da_nil))
  (dss_cons (ds_for (i:=4) PassesOwn.leaving rfl sc_steps.nd (di_seq (dv 1)) (dss_cons (ds_set (i:=5) sc_steps.nd (de_cal c_done_or_refused hr (da_cons (dv 0) (da_cons (dv 2) (da_cons (dv 4) da_nil)))))
  (dss_cons (ds_expr (de_append (dv 3) (da_cons (dv 5) da_nil)))
  (dss_one (ds_set (i:=2) sc_steps.nd (de_ix (dv 5) de_int))))))
  (dss_one (ds_ret (dv 3)))))))
theorem sc_answers:FnScope ["width","deeds"] ["width","deeds"] (defScope s_answers):=⟨rfl,rfl,rfl,by decide +kernel,rfl,by decide +kernel,by decide +kernel⟩
noncomputable def t_answers (g_steps:OX):FS:=
 (fRet (fComp (fiSeq (fcX g_steps (fAll [(fV 0),(fV 1)]))) [] fYes (f2 oIx (fV 0) (fC (.int 0)))))
theorem ok_answers {P:Program}{w:World}{K:PySem.W.Frag}{mg:Str->Option Value}{base:Heap}{k:Nat}{fa:Addr}{fd:FuncData} (B:Bu mg) {g_steps:OX} (c_steps:CalX P w K mg base k "steps" ["width","deeds"] g_steps)
  (F:Fun K "answers" "answers" s_answers fa fd) (hm:mg "answers"=some (.ref fa)) (b:Binds K fd ["width","deeds"] []):CalX P w K mg base (k+1) "answers" ["width","deeds"] (fnRunX 2 (t_answers g_steps)):=
 calX_mk (N:=["width","deeds"]) F sc_answers hm b fun cdv A outer s H E hr=>
  (dss_one (ds_ret (de_comp (fr:=[]) (frn:=[]) rfl (di_seq (de_calX c_steps hr (da_cons (dv 0) (da_cons (dv 1) da_nil)))) fun _ _ _ _=>⟨.nil,(de_ix (dv 0) de_int)⟩)))
theorem sc__law_whole:FnScope ["_law_found"] ["_law_found"] (defScope s__law_whole):=⟨rfl,rfl,rfl,by decide +kernel,rfl,by decide +kernel,by decide +kernel⟩
theorem ok__law_whole {P:Program}{w:World}{K:PySem.W.Frag}{mg:Str->Option Value}{base:Heap}{k:Nat}{fa:Addr}{fd:FuncData} (B:Bu mg)
  (F:Fun K "_law_whole" "_law_whole" s__law_whole fa fd) (hm:mg "_law_whole"=some (.ref fa)) (b:Binds K fd ["_law_found"] []):Cal P w K mg base (k+1) "_law_whole" ["_law_found"] (fnRun 1 (t__law_whole )):=
 cal_mk (N:=["_law_found"]) F sc__law_whole hm b fun cdv A outer s H E hr=>
  (dss_one (ds_ret (de_and (de_isi kit_int bt_int B.isinstance B.int (dv 0)) (de_one (de_not (de_isi kit_bool bt_bool B.isinstance B.bool (dv 0)))))))
theorem sc__law_at:FnScope ["_law_script","_law_k"] ["_law_script","_law_k"] (defScope s__law_at):=⟨rfl,rfl,rfl,by decide +kernel,rfl,by decide +kernel,by decide +kernel⟩
theorem ok__law_at {P:Program}{w:World}{K:PySem.W.Frag}{mg:Str->Option Value}{base:Heap}{k:Nat}{fa:Addr}{fd:FuncData} (B:Bu mg)
  (F:Fun K "_law_at" "_law_at" s__law_at fa fd) (hm:mg "_law_at"=some (.ref fa)) (b:Binds K fd ["_law_script","_law_k"] []):Cal P w K mg base (k+1) "_law_at" ["_law_script","_law_k"] (fnRun 2 (t__law_at )):=
 cal_mk (N:=["_law_script","_law_k"]) F sc__law_at hm b fun cdv A outer s H E hr=>
  (dss_cons (ds_if (dt_lt (dv 1) (de_len B.len (da_cons (dv 0) da_nil))) (dss_one (ds_ret (de_ix (dv 0) (dv 1)))) dss_nil)
  (dss_one (ds_ret de_int)))
theorem sc__law_reach_by:FnScope ["_law_script","_law_some"] ["_law_script"] (defScope s__law_reach_by):=⟨rfl,rfl,rfl,by decide +kernel,rfl,by decide +kernel,by decide +kernel⟩
theorem ok__law_reach_by {P:Program}{w:World}{K:PySem.W.Frag}{mg:Str->Option Value}{base:Heap}{k:Nat}{fa:Addr}{fd:FuncData} (B:Bu mg) {g__law_at:OC} (c__law_at:Cal P w K mg base k "_law_at" ["_law_script","_law_k"] g__law_at)
  (F:Fun K "_law_reach_by" "_law_reach_by" s__law_reach_by fa fd) (hm:mg "_law_reach_by"=some (.ref fa)) (b:Binds K fd ["_law_script"] []):Cal P w K mg base (k+1) "_law_reach_by" ["_law_script"] (fnRun 2 (t__law_reach_by g__law_at)):=
 cal_mk (N:=["_law_script","_law_some"]) F sc__law_reach_by hm b fun cdv A outer s H E hr=>
  (dss_cons (ds_set (i:=1) sc__law_reach_by.nd (de_mod (de_cal c__law_at hr (da_cons (dv 0) (da_cons de_int da_nil))) (de_mul (de_pow de_int de_int) (de_pow de_int de_int))))
  (dss_one (ds_ret (de_ix (de_lst (da_cons (de_pow de_int de_int) (da_cons de_int (da_cons de_int (da_cons de_int (da_cons (dv 1) da_nil)))))) (de_mod (de_div (de_cal c__law_at hr (da_cons (dv 0) (da_cons de_int da_nil))) de_int) de_int)))))
theorem sc__law_far:FnScope ["_law_number","_law_step"] ["_law_number","_law_step"] (defScope s__law_far):=⟨rfl,rfl,rfl,by decide +kernel,rfl,by decide +kernel,by decide +kernel⟩
theorem ok__law_far {P:Program}{w:World}{K:PySem.W.Frag}{mg:Str->Option Value}{base:Heap}{k:Nat}{fa:Addr}{fd:FuncData} (B:Bu mg)
  (F:Fun K "_law_far" "_law_far" s__law_far fa fd) (hm:mg "_law_far"=some (.ref fa)) (b:Binds K fd ["_law_number","_law_step"] []):Cal P w K mg base (k+1) "_law_far" ["_law_number","_law_step"] (fnRun 2 (t__law_far )):=
 cal_mk (N:=["_law_number","_law_step"]) F sc__law_far hm b fun cdv A outer s H E hr=>
  (dss_cons (ds_if (dt_gt (dv 0) de_int) (dss_one (ds_ret (de_add (dv 0) (dv 1)))) dss_nil)
  (dss_cons (ds_if (dt_lt (dv 0) (de_neg de_int)) (dss_one (ds_ret (de_sub (dv 0) (dv 1)))) dss_nil)
  (dss_one (ds_ret (dv 0)))))
theorem sc__law_day:FnScope ["_law_script","_law_step","_law_signs","_law_wave","_law_stride","_law_spread","_law_wide","_law_cells","_law_deeds","_law_k","_law_rising","_law_taking","_law_place","_law_number","_law_spot","_law_words"] ["_law_script"] (defScope s__law_day):=⟨rfl,rfl,rfl,by decide +kernel,rfl,by decide +kernel,by decide +kernel⟩
theorem ok__law_day {P:Program}{w:World}{K:PySem.W.Frag}{mg:Str->Option Value}{base:Heap}{k:Nat}{fa:Addr}{fd:FuncData} (B:Bu mg) {g__law_reach_by:OC} (c__law_reach_by:Cal P w K mg base k "_law_reach_by" ["_law_script"] g__law_reach_by) {g__law_at:OC} (c__law_at:Cal P w K mg base k "_law_at" ["_law_script","_law_k"] g__law_at) {g__law_far:OC} (c__law_far:Cal P w K mg base k "_law_far" ["_law_number","_law_step"] g__law_far)
  (F:Fun K "_law_day" "_law_day" s__law_day fa fd) (hm:mg "_law_day"=some (.ref fa)) (b:Binds K fd ["_law_script"] []):Cal P w K mg base (k+1) "_law_day" ["_law_script"] (fnRun 16 (t__law_day g__law_reach_by g__law_at g__law_far)):=
 cal_mk (N:=["_law_script","_law_step","_law_signs","_law_wave","_law_stride","_law_spread","_law_wide","_law_cells","_law_deeds","_law_k","_law_rising","_law_taking","_law_place","_law_number","_law_spot","_law_words"]) F sc__law_day hm b fun cdv A outer s H E hr=>
  (dss_cons (ds_set (i:=1) sc__law_day.nd (de_cal c__law_reach_by hr (da_cons (dv 0) da_nil)))
  (dss_cons (ds_set (i:=2) sc__law_day.nd de_str)
  (dss_cons (ds_set (i:=3) sc__law_day.nd (de_add de_int (de_mod (de_cal c__law_at hr (da_cons (dv 0) (da_cons de_int da_nil))) de_int)))
  (dss_cons (ds_set (i:=4) sc__law_day.nd (de_ix (de_lst (da_cons de_int (da_cons de_int (da_cons de_int (da_cons de_int da_nil))))) (de_mod (de_cal c__law_at hr (da_cons (dv 0) (da_cons de_int da_nil))) de_int)))
  (dss_cons (ds_set (i:=5) sc__law_day.nd (de_ix (de_lst (da_cons de_int (da_cons de_int (da_cons de_int da_nil)))) (de_mod (de_div (de_cal c__law_at hr (da_cons (dv 0) (da_cons de_int da_nil))) de_int) de_int)))
  (dss_cons (ds_set (i:=6) sc__law_day.nd (de_ix (de_lst (da_cons de_int (da_cons de_int (da_cons de_int da_nil)))) (de_mod (de_div (de_cal c__law_at hr (da_cons (dv 0) (da_cons de_int da_nil))) de_int) de_int)))
  (dss_cons (ds_set (i:=7) sc__law_day.nd (de_slice (dv 0) (do_some de_int) do_none))
  (dss_cons (ds_set (i:=8) sc__law_day.nd (de_lst da_nil))
  (dss_cons (ds_for (i:=9) PassesOwn.never rfl sc__law_day.nd (di_range1 B.range (da_cons (de_len B.len (da_cons (dv 7) da_nil)) da_nil)) (dss_cons (ds_set (i:=10) sc__law_day.nd (de_eq hr (de_mod (de_div (dv 9) (dv 3)) de_int) de_int))
  (dss_cons (ds_set (i:=11) sc__law_day.nd (de_eq hr (de_eq hr (de_mod (de_ix (dv 7) (dv 9)) de_int) de_int) (dv 10)))
  (dss_cons (ds_set (i:=12) sc__law_day.nd (de_mod (de_add (de_mod (de_div (de_ix (dv 7) (dv 9)) de_int) (dv 5)) (de_mul (dv 9) (dv 4))) (dv 6)))
  (dss_cons (ds_set (i:=13) sc__law_day.nd (de_cal c__law_far hr (da_cons (de_sub (dv 12) (de_div (dv 6) de_int)) (da_cons (dv 1) da_nil))))
  (dss_cons (ds_if (dt_w (dw_and (dt_val (dv 11)) (dw_and (dt_gt (dv 9) de_int) (dw_and1 (dt_ne hr (de_mod (de_div (de_ix (dv 7) (dv 9)) de_int) de_int) de_int))))) (dss_one (ds_set (i:=13) sc__law_day.nd (de_ix (de_ix (dv 8) (de_mod (de_add (de_mul (de_mod (dv 9) (dv 3)) de_int) (de_div (de_ix (dv 7) (dv 9)) de_int)) (dv 9))) de_int))) dss_nil)
  (dss_cons (ds_set (i:=14) sc__law_day.nd (de_mod (de_div (de_ix (dv 7) (dv 9)) de_int) de_int))
  (dss_one (ds_if (dt_val (dv 11)) (dss_one (ds_expr (de_append (dv 8) (da_cons (de_tup (da_cons de_str (da_cons (dv 13) da_nil))) da_nil)))) (dss_cons (ds_set (i:=15) sc__law_day.nd (de_ix (de_lst (da_cons de_str (da_cons de_str (da_cons (de_add de_str (de_strc B.str (da_cons (dv 9) da_nil))) da_nil)))) (de_mod (dv 9) de_int)))
  (dss_one (ds_expr (de_append (dv 8) (da_cons (de_tup (da_cons de_str (da_cons (dv 13) (da_cons (de_add (de_slice (dv 2) (do_some (dv 14)) (do_some (de_add (dv 14) de_int))) (dv 15)) da_nil)))) da_nil))))))))))))))
  (dss_one (ds_ret (dv 8))))))))))))
theorem sc__law_same:FnScope ["_law_handed","_law_deeds","_law_k","_law_part"] ["_law_handed","_law_deeds"] (defScope s__law_same):=⟨rfl,rfl,rfl,by decide +kernel,rfl,by decide +kernel,by decide +kernel⟩
theorem ok__law_same {P:Program}{w:World}{K:PySem.W.Frag}{mg:Str->Option Value}{base:Heap}{k:Nat}{fa:Addr}{fd:FuncData} (B:Bu mg) {g__law_whole:OC} (c__law_whole:Cal P w K mg base k "_law_whole" ["_law_found"] g__law_whole)
  (F:Fun K "_law_same" "_law_same" s__law_same fa fd) (hm:mg "_law_same"=some (.ref fa)) (b:Binds K fd ["_law_handed","_law_deeds"] []):Cal P w K mg base (k+1) "_law_same" ["_law_handed","_law_deeds"] (fnRun 4 (t__law_same g__law_whole)):=
 cal_mk (N:=["_law_handed","_law_deeds","_law_k","_law_part"]) F sc__law_same hm b fun cdv A outer s H E hr=>
  (dss_cons (ds_if (dt_ne hr (de_len B.len (da_cons (dv 0) da_nil)) (de_len B.len (da_cons (dv 1) da_nil))) (dss_one (ds_ret de_bl)) dss_nil)
  (dss_cons (ds_for (i:=2) PassesOwn.never rfl sc__law_same.nd (di_range1 B.range (da_cons (de_len B.len (da_cons (dv 1) da_nil)) da_nil)) (dss_cons (ds_if (dt_w (dw_or (dt_not (dt_val (de_isi kit_tuple bt_tuple B.isinstance B.tuple (de_ix (dv 0) (dv 2))))) (dw_or1 (dt_ne hr (de_len B.len (da_cons (de_ix (dv 0) (dv 2)) da_nil)) (de_len B.len (da_cons (de_ix (dv 1) (dv 2)) da_nil)))))) (dss_one (ds_ret de_bl)) dss_nil)
  (dss_cons (ds_for (i:=3) PassesOwn.never rfl sc__law_same.nd (di_seq (de_ix (dv 0) (dv 2))) (dss_one (ds_if (dt_w (dw_and (dt_notN (dv 3) de_non) (dw_and (dt_not (dt_val (de_isi kit_str bt_str B.isinstance B.str (dv 3)))) (dw_and1 (dt_not (dt_val (de_cal c__law_whole hr (da_cons (dv 3) da_nil)))))))) (dss_one (ds_ret de_bl)) dss_nil)))
  (dss_one (ds_if (dt_ne hr (de_ix (dv 0) (dv 2)) (de_ix (dv 1) (dv 2))) (dss_one (ds_ret de_bl)) dss_nil)))))
  (dss_one (ds_ret de_bl))))
theorem sc__law_mixed_day:FnScope ["_law_script","_law_step","_law_days","_law_deeds","_law_k","_law_cell","_law_number","_law_low","_law_later","_law_high"] ["_law_script"] (defScope s__law_mixed_day):=⟨rfl,rfl,rfl,by decide +kernel,rfl,by decide +kernel,by decide +kernel⟩
theorem ok__law_mixed_day {P:Program}{w:World}{K:PySem.W.Frag}{mg:Str->Option Value}{base:Heap}{k:Nat}{fa:Addr}{fd:FuncData} (B:Bu mg) {g__law_reach_by:OC} (c__law_reach_by:Cal P w K mg base k "_law_reach_by" ["_law_script"] g__law_reach_by) {g__law_day:OC} (c__law_day:Cal P w K mg base k "_law_day" ["_law_script"] g__law_day) {g__law_far:OC} (c__law_far:Cal P w K mg base k "_law_far" ["_law_number","_law_step"] g__law_far) {g__law_at:OC} (c__law_at:Cal P w K mg base k "_law_at" ["_law_script","_law_k"] g__law_at)
  (F:Fun K "_law_mixed_day" "_law_mixed_day" s__law_mixed_day fa fd) (hm:mg "_law_mixed_day"=some (.ref fa)) (b:Binds K fd ["_law_script"] []):Cal P w K mg base (k+1) "_law_mixed_day" ["_law_script"] (fnRun 10 (t__law_mixed_day g__law_reach_by g__law_day g__law_far g__law_at)):=
 cal_mk (N:=["_law_script","_law_step","_law_days","_law_deeds","_law_k","_law_cell","_law_number","_law_low","_law_later","_law_high"]) F sc__law_mixed_day hm b fun cdv A outer s H E hr=>
  (dss_cons (ds_set (i:=1) sc__law_mixed_day.nd (de_cal c__law_reach_by hr (da_cons (dv 0) da_nil)))
  (dss_cons (ds_set (i:=2) sc__law_mixed_day.nd (de_cal c__law_day hr (da_cons (dv 0) da_nil)))
  (dss_cons (ds_set (i:=3) sc__law_mixed_day.nd (de_list B.list (da_cons (dv 2) da_nil)))
  (dss_cons (ds_for (i:=4) PassesOwn.never rfl sc__law_mixed_day.nd (di_range1 B.range (da_cons (de_len B.len (da_cons (dv 2) da_nil)) da_nil)) (dss_cons (ds_set (i:=5) sc__law_mixed_day.nd (de_div (de_ix (dv 0) (de_add (dv 4) de_int)) de_int))
  (dss_cons (ds_set (i:=6) sc__law_mixed_day.nd (de_sub (de_mod (de_add (de_div (dv 5) de_int) (de_mul (dv 4) de_int)) de_int) de_int))
  (dss_cons (ds_set (i:=6) sc__law_mixed_day.nd (de_ix (de_lst (da_cons (dv 6) (da_cons de_int da_nil))) (de_intc B.int (da_cons (de_eq hr (de_mod (de_div (dv 5) de_int) de_int) de_int) da_nil))))
  (dss_cons (ds_set (i:=7) sc__law_mixed_day.nd (de_ix (de_lst (da_cons (de_cal c__law_far hr (da_cons (dv 6) (da_cons (dv 1) da_nil))) (da_cons de_non da_nil))) (de_intc B.int (da_cons (de_eq hr (de_mod (de_div (dv 5) de_int) de_int) de_int) da_nil))))
  (dss_cons (ds_set (i:=8) sc__law_mixed_day.nd (de_sub (de_add (dv 6) (de_mod (de_cal c__law_at hr (da_cons (dv 0) (da_cons (de_add (dv 4) de_int) da_nil))) de_int)) de_int))
  (dss_cons (ds_set (i:=9) sc__law_mixed_day.nd (de_ix (de_lst (da_cons (de_cal c__law_far hr (da_cons (dv 8) (da_cons (dv 1) da_nil))) (da_cons de_non da_nil))) (de_intc B.int (da_cons (de_eq hr (de_mod (de_div (dv 5) de_int) de_int) de_int) da_nil))))
  (dss_cons (ds_set (i:=6) sc__law_mixed_day.nd (de_cal c__law_far hr (da_cons (dv 6) (da_cons (dv 1) da_nil))))
  (dss_one (ds_if (dt_w (dw_and (dt_eq hr (de_mod (de_ix (dv 0) (de_add (dv 4) de_int)) de_int) de_int) (dw_and1 (dt_eq hr (de_mod (dv 5) de_int) de_int)))) (dss_one (ds_setIx (de_tup (da_cons de_str (da_cons (de_ix (de_ix (dv 2) (de_mod (de_add (de_div (dv 5) de_int) (de_mul (dv 4) de_int)) (de_add (dv 4) de_int))) de_int) da_nil))) (dv 3) (dv 4))) (dss_one (ds_if (dt_w (dw_and (dt_eq hr (de_mod (de_ix (dv 0) (de_add (dv 4) de_int)) de_int) de_int) (dw_and1 (dt_eq hr (de_mod (dv 5) de_int) de_int)))) (dss_one (ds_setIx (de_tup (da_cons de_str (da_cons (dv 6) da_nil))) (dv 3) (dv 4))) (dss_one (ds_if (dt_w (dw_and (dt_eq hr (de_mod (de_ix (dv 0) (de_add (dv 4) de_int)) de_int) de_int) (dw_and1 (dt_eq hr (de_mod (dv 5) de_int) de_int)))) (dss_one (ds_setIx (de_tup (da_cons de_str (da_cons (de_sub (de_mod (de_add (de_div (dv 5) de_int) (de_mul (dv 4) de_int)) (de_add (dv 4) de_int)) de_int) da_nil))) (dv 3) (dv 4))) (dss_one (ds_if (dt_eq hr (de_mod (de_ix (dv 0) (de_add (dv 4) de_int)) de_int) de_int) (dss_one (ds_setIx (de_tup (da_cons de_str (da_cons (dv 7) (da_cons (dv 9) da_nil)))) (dv 3) (dv 4))) dss_nil))))))))))))))))
  (dss_one (ds_ret (dv 3)))))))
theorem sc__law_text_is:FnScope ["_law_found","_law_due"] ["_law_found","_law_due"] (defScope s__law_text_is):=⟨rfl,rfl,rfl,by decide +kernel,rfl,by decide +kernel,by decide +kernel⟩
noncomputable def t__law_text_is:FS:=
 (fSeq (fIfS (fB (f2 oIsN (fV 1) (fC .non))) (fRet (f2 oIsN (fV 0) (fC .non))) fNext)
  (fRet (fAndV (f1 (oIsi "str") (fV 0)) (f2 oEq (fV 0) (fV 1)))))
theorem ok__law_text_is {P:Program}{w:World}{K:PySem.W.Frag}{mg:Str->Option Value}{base:Heap}{k:Nat}{fa:Addr}{fd:FuncData} (B:Bu mg)
  (F:Fun K "_law_text_is" "_law_text_is" s__law_text_is fa fd) (hm:mg "_law_text_is"=some (.ref fa)) (b:Binds K fd ["_law_found","_law_due"] []):Cal P w K mg base (k+1) "_law_text_is" ["_law_found","_law_due"] (fnRun 2 (t__law_text_is )):=
 cal_mk (N:=["_law_found","_law_due"]) F sc__law_text_is hm b fun cdv A outer s H E hr=>
  (dss_cons (ds_if (dt_isN (dv 1) de_non) (dss_one (ds_ret (de_isN (dv 0) de_non))) dss_nil)
  (dss_one (ds_ret (de_and (de_isi kit_str bt_str B.isinstance B.str (dv 0)) (de_one (de_eq hr (dv 0) (dv 1)))))))
theorem sc__law_card_there:FnScope ["_law_found","_law_there"] ["_law_found","_law_there"] (defScope s__law_card_there):=⟨rfl,rfl,rfl,by decide +kernel,rfl,by decide +kernel,by decide +kernel⟩
noncomputable def t__law_card_there (g__law_whole:OC):FS:=
 (fSeq (fIfS (fOr (fNot (fB (f1 (oIsi "tuple") (fV 0)))) (fB (f2 oNe (fc oLen (fAll [(fV 0)])) (fC (.int 2))))) (fRet (fC (.bl false))) fNext)
  (fSeq (fIfS (fOr (fNot (fB (fc g__law_whole (fAll [(f2 oIx (fV 0) (fC (.int 0)))])))) (fNot (fB (f1 (oIsi "str") (f2 oIx (fV 0) (fC (.int 1))))))) (fRet (fC (.bl false))) fNext)
  (fRet (fAndV (f2 oDin (f2 oIx (fV 0) (fC (.int 0))) (fV 1)) (f2 oEq (f2 oDget (fV 1) (f2 oIx (fV 0) (fC (.int 0)))) (f2 oIx (fV 0) (fC (.int 1))))))))
theorem ok__law_card_there {P:Program}{w:World}{K:PySem.W.Frag}{mg:Str->Option Value}{base:Heap}{k:Nat}{fa:Addr}{fd:FuncData} (B:Bu mg) {g__law_whole:OC} (c__law_whole:Cal P w K mg base k "_law_whole" ["_law_found"] g__law_whole)
  (F:Fun K "_law_card_there" "_law_card_there" s__law_card_there fa fd) (hm:mg "_law_card_there"=some (.ref fa)) (b:Binds K fd ["_law_found","_law_there"] []):Cal P w K mg base (k+1) "_law_card_there" ["_law_found","_law_there"] (fnRun 2 (t__law_card_there g__law_whole)):=
 cal_mk (N:=["_law_found","_law_there"]) F sc__law_card_there hm b fun cdv A outer s H E hr=>
  (dss_cons (ds_if (dt_w (dw_or (dt_not (dt_val (de_isi kit_tuple bt_tuple B.isinstance B.tuple (dv 0)))) (dw_or1 (dt_ne hr (de_len B.len (da_cons (dv 0) da_nil)) de_int)))) (dss_one (ds_ret de_bl)) dss_nil)
  (dss_cons (ds_if (dt_w (dw_or (dt_not (dt_val (de_cal c__law_whole hr (da_cons (de_ix (dv 0) de_int) da_nil)))) (dw_or1 (dt_not (dt_val (de_isi kit_str bt_str B.isinstance B.str (de_ix (dv 0) de_int))))))) (dss_one (ds_ret de_bl)) dss_nil)
  (dss_one (ds_ret (de_and (de_din hr (de_ix (dv 0) de_int) (dv 1)) (de_one (de_eq hr (de_dget hr (dv 1) (de_ix (dv 0) de_int)) (de_ix (dv 0) de_int))))))))
theorem sc__law_smaller:FnScope ["_law_number","_law_there"] ["_law_number","_law_there"] (defScope s__law_smaller):=⟨rfl,rfl,rfl,by decide +kernel,rfl,by decide +kernel,by decide +kernel⟩
noncomputable def t__law_smaller:FS:=
 (fRet (fc oLen (fAll [(fComp (fiSeq (fc oListD (fAll [(fV 1)]))) [0] (fB (f2 oLt (fV 0) (fV 1))) (fV 0))])))
theorem ok__law_smaller {P:Program}{w:World}{K:PySem.W.Frag}{mg:Str->Option Value}{base:Heap}{k:Nat}{fa:Addr}{fd:FuncData} (B:Bu mg)
  (F:Fun K "_law_smaller" "_law_smaller" s__law_smaller fa fd) (hm:mg "_law_smaller"=some (.ref fa)) (b:Binds K fd ["_law_number","_law_there"] []):Cal P w K mg base (k+1) "_law_smaller" ["_law_number","_law_there"] (fnRun 2 (t__law_smaller )):=
 cal_mk (N:=["_law_number","_law_there"]) F sc__law_smaller hm b fun cdv A outer s H E hr=>
  (dss_one (ds_ret (de_len B.len (da_cons (de_comp (fr:=[0]) (frn:=["_law_number"]) rfl (di_seq (de_listD hr B.list (da_cons (dv 1) da_nil))) fun _ _ _ _=>⟨(.one (dt_lt (dv 0) (dv 1))),(dv 0)⟩) da_nil))))
theorem sc__law_all_between:FnScope ["_law_found","_law_low","_law_high","_law_there","_law_wanted","_law_k"] ["_law_found","_law_low","_law_high","_law_there"] (defScope s__law_all_between):=⟨rfl,rfl,rfl,by decide +kernel,rfl,by decide +kernel,by decide +kernel⟩
noncomputable def t__law_all_between (g__law_card_there:OC):FS:=
 (fSeq (fSet 4 (fc oListD (fAll [(fV 3)])))
  (fSeq (fIfS (fB (f2 oNotN (fV 1) (fC .non))) (fSet 4 (fComp (fiSeq (fV 4)) [1] (fB (f2 oGe (fV 0) (fV 1))) (fV 0))) fNext)
  (fSeq (fIfS (fB (f2 oNotN (fV 2) (fC .non))) (fSet 4 (fComp (fiSeq (fV 4)) [2] (fB (f2 oLe (fV 0) (fV 1))) (fV 0))) fNext)
  (fSeq (fIfS (fOr (fNot (fB (f1 (oIsi "list") (fV 0)))) (fB (f2 oNe (fc oLen (fAll [(fV 0)])) (fc oLen (fAll [(fV 4)]))))) (fRet (fC (.bl false))) fNext)
  (fSeq (fFor 5 (fiRng rng1 [(fc oLen (fAll [(fV 0)]))]) (fSeq (fIfS (fOr (fNot (fB (fc g__law_card_there (fAll [(f2 oIx (fV 0) (fV 5)),(fV 3)])))) (fB (f2 oNinL (f2 oIx (f2 oIx (fV 0) (fV 5)) (fC (.int 0))) (fV 4)))) (fRet (fC (.bl false))) fNext)
  (fIfS (fAnd (fB (f2 oGt (fV 5) (fC (.int 0)))) (fB (f2 oGe (f2 oIx (f2 oIx (fV 0) (f2 oSub (fV 5) (fC (.int 1)))) (fC (.int 0))) (f2 oIx (f2 oIx (fV 0) (fV 5)) (fC (.int 0)))))) (fRet (fC (.bl false))) fNext)))
  (fRet (fC (.bl true))))))))
theorem ok__law_all_between {P:Program}{w:World}{K:PySem.W.Frag}{mg:Str->Option Value}{base:Heap}{k:Nat}{fa:Addr}{fd:FuncData} (B:Bu mg) {g__law_card_there:OC} (c__law_card_there:Cal P w K mg base k "_law_card_there" ["_law_found","_law_there"] g__law_card_there)
  (F:Fun K "_law_all_between" "_law_all_between" s__law_all_between fa fd) (hm:mg "_law_all_between"=some (.ref fa)) (b:Binds K fd ["_law_found","_law_low","_law_high","_law_there"] []):Cal P w K mg base (k+1) "_law_all_between" ["_law_found","_law_low","_law_high","_law_there"] (fnRun 6 (t__law_all_between g__law_card_there)):=
 cal_mk (N:=["_law_found","_law_low","_law_high","_law_there","_law_wanted","_law_k"]) F sc__law_all_between hm b fun cdv A outer s H E hr=>
  (dss_cons (ds_set (i:=4) sc__law_all_between.nd (de_listD hr B.list (da_cons (dv 3) da_nil)))
  (dss_cons (ds_if (dt_notN (dv 1) de_non) (dss_one (ds_setcomp (i:=4) (fr:=[1]) (frn:=["_law_low"]) sc__law_all_between.nd rfl (di_seq (dv 4)) fun _ _ _ _=>⟨(.one (dt_ge (dv 0) (dv 1))),(dv 0)⟩)) dss_nil)
  (dss_cons (ds_if (dt_notN (dv 2) de_non) (dss_one (ds_setcomp (i:=4) (fr:=[2]) (frn:=["_law_high"]) sc__law_all_between.nd rfl (di_seq (dv 4)) fun _ _ _ _=>⟨(.one (dt_le (dv 0) (dv 1))),(dv 0)⟩)) dss_nil)
  (dss_cons (ds_if (dt_w (dw_or (dt_not (dt_val (de_isi kit_list bt_list B.isinstance B.list (dv 0)))) (dw_or1 (dt_ne hr (de_len B.len (da_cons (dv 0) da_nil)) (de_len B.len (da_cons (dv 4) da_nil)))))) (dss_one (ds_ret de_bl)) dss_nil)
  (dss_cons (ds_for (i:=5) PassesOwn.never rfl sc__law_all_between.nd (di_range1 B.range (da_cons (de_len B.len (da_cons (dv 0) da_nil)) da_nil)) (dss_cons (ds_if (dt_w (dw_or (dt_not (dt_val (de_cal c__law_card_there hr (da_cons (de_ix (dv 0) (dv 5)) (da_cons (dv 3) da_nil))))) (dw_or1 (dt_ninL (de_ix (de_ix (dv 0) (dv 5)) de_int) (dv 4))))) (dss_one (ds_ret de_bl)) dss_nil)
  (dss_one (ds_if (dt_w (dw_and (dt_gt (dv 5) de_int) (dw_and1 (dt_ge (de_ix (de_ix (dv 0) (de_sub (dv 5) de_int)) de_int) (de_ix (de_ix (dv 0) (dv 5)) de_int))))) (dss_one (ds_ret de_bl)) dss_nil))))
  (dss_one (ds_ret de_bl)))))))
theorem sc__law_fits:FnScope ["_law_found","_law_deed","_law_there"] ["_law_found","_law_deed","_law_there"] (defScope s__law_fits):=⟨rfl,rfl,rfl,by decide +kernel,rfl,by decide +kernel,by decide +kernel⟩
noncomputable def t__law_fits (g__law_whole:OC) (g__law_smaller:OC) (g__law_card_there:OC) (g__law_all_between:OC) (g__law_text_is:OC):FS:=
 (fSeq (fIfS (fB (f2 oEq (f2 oIx (fV 1) (fC (.int 0))) (fC (.str "rank")))) (fRet (fAndV (fc g__law_whole (fAll [(fV 0)])) (f2 oEq (fV 0) (fc g__law_smaller (fAll [(f2 oIx (fV 1) (fC (.int 1))),(fV 2)]))))) fNext)
  (fSeq (fIfS (fAnd (fB (f2 oEq (f2 oIx (fV 1) (fC (.int 0))) (fC (.str "nth")))) (fOr (fB (f2 oLt (f2 oIx (fV 1) (fC (.int 1))) (fC (.int 0)))) (fB (f2 oGe (f2 oIx (fV 1) (fC (.int 1))) (fc oLenD (fAll [(fV 2)])))))) (fRet (f2 oIsN (fV 0) (fC .non))) fNext)
  (fSeq (fIfS (fB (f2 oEq (f2 oIx (fV 1) (fC (.int 0))) (fC (.str "nth")))) (fRet (fAndV (fc g__law_card_there (fAll [(fV 0),(fV 2)])) (f2 oEq (fc g__law_smaller (fAll [(f2 oIx (fV 0) (fC (.int 0))),(fV 2)])) (f2 oIx (fV 1) (fC (.int 1)))))) fNext)
  (fSeq (fIfS (fB (f2 oEq (f2 oIx (fV 1) (fC (.int 0))) (fC (.str "between")))) (fRet (fc g__law_all_between (fAll [(fV 0),(f2 oIx (fV 1) (fC (.int 1))),(f2 oIx (fV 1) (fC (.int 2))),(fV 2)]))) fNext)
  (fRet (fc g__law_text_is (fAll [(fV 0),(fDm oDg1 (fV 2) (f2 oIx (fV 1) (fC (.int 1))))])))))))
theorem ok__law_fits {P:Program}{w:World}{K:PySem.W.Frag}{mg:Str->Option Value}{base:Heap}{k:Nat}{fa:Addr}{fd:FuncData} (B:Bu mg) {g__law_whole:OC} (c__law_whole:Cal P w K mg base k "_law_whole" ["_law_found"] g__law_whole) {g__law_smaller:OC} (c__law_smaller:Cal P w K mg base k "_law_smaller" ["_law_number","_law_there"] g__law_smaller) {g__law_card_there:OC} (c__law_card_there:Cal P w K mg base k "_law_card_there" ["_law_found","_law_there"] g__law_card_there) {g__law_all_between:OC} (c__law_all_between:Cal P w K mg base k "_law_all_between" ["_law_found","_law_low","_law_high","_law_there"] g__law_all_between) {g__law_text_is:OC} (c__law_text_is:Cal P w K mg base k "_law_text_is" ["_law_found","_law_due"] g__law_text_is)
  (F:Fun K "_law_fits" "_law_fits" s__law_fits fa fd) (hm:mg "_law_fits"=some (.ref fa)) (b:Binds K fd ["_law_found","_law_deed","_law_there"] []):Cal P w K mg base (k+1) "_law_fits" ["_law_found","_law_deed","_law_there"] (fnRun 3 (t__law_fits g__law_whole g__law_smaller g__law_card_there g__law_all_between g__law_text_is)):=
 cal_mk (N:=["_law_found","_law_deed","_law_there"]) F sc__law_fits hm b fun cdv A outer s H E hr=>
  (dss_cons (ds_if (dt_eq hr (de_ix (dv 1) de_int) de_str) (dss_one (ds_ret (de_and (de_cal c__law_whole hr (da_cons (dv 0) da_nil)) (de_one (de_eq hr (dv 0) (de_cal c__law_smaller hr (da_cons (de_ix (dv 1) de_int) (da_cons (dv 2) da_nil)))))))) dss_nil)
  (dss_cons (ds_if (dt_w (dw_and (dt_eq hr (de_ix (dv 1) de_int) de_str) (dw_and1 (dt_w (dw_or (dt_lt (de_ix (dv 1) de_int) de_int) (dw_or1 (dt_ge (de_ix (dv 1) de_int) (de_lenD B.len (da_cons (dv 2) da_nil))))))))) (dss_one (ds_ret (de_isN (dv 0) de_non))) dss_nil)
  (dss_cons (ds_if (dt_eq hr (de_ix (dv 1) de_int) de_str) (dss_one (ds_ret (de_and (de_cal c__law_card_there hr (da_cons (dv 0) (da_cons (dv 2) da_nil))) (de_one (de_eq hr (de_cal c__law_smaller hr (da_cons (de_ix (dv 0) de_int) (da_cons (dv 2) da_nil))) (de_ix (dv 1) de_int)))))) dss_nil)
  (dss_cons (ds_if (dt_eq hr (de_ix (dv 1) de_int) de_str) (dss_one (ds_ret (de_cal c__law_all_between hr (da_cons (dv 0) (da_cons (de_ix (dv 1) de_int) (da_cons (de_ix (dv 1) de_int) (da_cons (dv 2) da_nil))))))) dss_nil)
  (dss_one (ds_ret (de_cal c__law_text_is hr (da_cons (dv 0) (da_cons (de_dg1 hr (dv 2) (de_ix (dv 1) de_int)) da_nil)))))))))
theorem sc__law_mixed:FnScope ["_law_script"] ["_law_script"] (defScope s__law_mixed):=⟨rfl,rfl,rfl,by decide +kernel,rfl,by decide +kernel,by decide +kernel⟩
theorem ok__law_mixed {P:Program}{w:World}{K:PySem.W.Frag}{mg:Str->Option Value}{base:Heap}{k:Nat}{fa:Addr}{fd:FuncData} (B:Bu mg)
  (F:Fun K "_law_mixed" "_law_mixed" s__law_mixed fa fd) (hm:mg "_law_mixed"=some (.ref fa)) (b:Binds K fd ["_law_script"] []):Cal P w K mg base (k+1) "_law_mixed" ["_law_script"] (fnRun 1 (t__law_mixed )):=
 cal_mk (N:=["_law_script"]) F sc__law_mixed hm b fun cdv A outer s H E hr=>
  (dss_one (ds_ret (de_comp (fr:=[0]) (frn:=["_law_script"]) rfl (di_range1 B.range (da_cons (de_len B.len (da_cons (dv 0) da_nil)) da_nil)) fun _ _ _ _=>⟨.nil,(de_mod (de_mul (de_add (de_ix (dv 1) (dv 0)) (de_mul de_int (dv 0))) de_int) de_int)⟩)))
theorem sc_law:FnScope ["_law_script","_law_width","_law_deeds","_law_handed","_law_found","_law_refused","_law_there","_law_k"] ["_law_script"] (defScope s_law):=⟨rfl,rfl,rfl,by decide +kernel,rfl,by decide +kernel,by decide +kernel⟩
noncomputable def t_law (x_NoWidth:Addr) (g__law_mixed:OC) (g__law_at:OC) (g__law_mixed_day:OC) (g_answers:OX) (g__law_same:OC) (g__law_fits:OC):FS:=
 (fSeq (fSet 0 (fSl (fV 0) fNoPart (fPart (fC (.int 500)))))
  (fSeq (fSet 0 (fc g__law_mixed (fAll [(fV 0)])))
  (fSeq (fSet 1 (f2 oIx (fLst [(fC (.int 2)),(fC (.int 3)),(fC (.int 4)),(fC (.int 5)),(fC (.int 8)),(fC (.int 3)),(fC (.int 6)),(fC (.int 1)),(fC (.int 0)),(f1 oNeg (fC (.int 1)))]) (f2 oMod (fc g__law_at (fAll [(fV 0),(fC (.int 0))])) (fC (.int 10)))))
  (fSeq (fSet 2 (fc g__law_mixed_day (fAll [(fV 0)])))
  (fSeq (fSet 3 (fc oList (fAll [(fV 2)])))
  (fSeq (fSet 4 (fC .non))
  (fSeq (fSet 5 (fC (.bl false)))
  (fSeq (fTry (fSet 4 (fcX g_answers (fAll [(fV 1),(fV 3)]))) (mOf [(x_NoWidth,noEx (fSet 5 (fC (.bl true))))]))
  (fSeq (fIfS (fNot (fB (fc g__law_same (fAll [(fV 3),(fV 2)])))) (fRet (fC (.bl false))) fNext)
  (fSeq (fIfS (fOr (fB (fV 5)) (fB (f2 oLt (fV 1) (fC (.int 2))))) (fRet (fAndV (fV 5) (f2 oLt (fV 1) (fC (.int 2))))) fNext)
  (fSeq (fIfS (fOr (fNot (fB (f1 (oIsi "list") (fV 4)))) (fB (f2 oNe (fc oLen (fAll [(fV 4)])) (fc oLen (fAll [(fV 2)]))))) (fRet (fC (.bl false))) fNext)
  (fSeq (fSet 6 fDct)
  (fSeq (fFor 7 (fiRng rng1 [(fc oLen (fAll [(fV 2)]))]) (fSeq (fIfS (fNot (fB (fc g__law_fits (fAll [(f2 oIx (fV 4) (fV 7)),(f2 oIx (fV 2) (fV 7)),(fV 6)])))) (fRet (fC (.bl false))) fNext)
  (fSeq (fIfS (fB (f2 oEq (f2 oIx (f2 oIx (fV 2) (fV 7)) (fC (.int 0))) (fC (.str "put")))) (fDput (f2 oIx (f2 oIx (fV 2) (fV 7)) (fC (.int 2))) (fV 6) (f2 oIx (f2 oIx (fV 2) (fV 7)) (fC (.int 1)))) fNext)
  (fIfS (fAnd (fB (f2 oEq (f2 oIx (f2 oIx (fV 2) (fV 7)) (fC (.int 0))) (fC (.str "take")))) (fB (f2 oDin (f2 oIx (f2 oIx (fV 2) (fV 7)) (fC (.int 1))) (fV 6)))) (fDrop (fDm oDpop (fV 6) (f2 oIx (f2 oIx (fV 2) (fV 7)) (fC (.int 1))))) fNext))))
  (fRet (fC (.bl true))))))))))))))))
theorem fnok_law {P:Program}{w:World}{K:PySem.W.Frag}{mg:Str->Option Value}{base:Heap}{k:Nat}{fa:Addr}{fd:FuncData} (B:Bu mg) {x_NoWidth:Addr}{bm_NoWidth:List Value} (e_NoWidth:ExC K x_NoWidth bm_NoWidth) (m_NoWidth:mg "NoWidth"=some (.ref x_NoWidth)) {g__law_mixed:OC} (c__law_mixed:Cal P w K mg base k "_law_mixed" ["_law_script"] g__law_mixed) {g__law_at:OC} (c__law_at:Cal P w K mg base k "_law_at" ["_law_script","_law_k"] g__law_at) {g__law_mixed_day:OC} (c__law_mixed_day:Cal P w K mg base k "_law_mixed_day" ["_law_script"] g__law_mixed_day) {g_answers:OX} (c_answers:CalX P w K mg base k "answers" ["width","deeds"] g_answers) {g__law_same:OC} (c__law_same:Cal P w K mg base k "_law_same" ["_law_handed","_law_deeds"] g__law_same) {g__law_fits:OC} (c__law_fits:Cal P w K mg base k "_law_fits" ["_law_found","_law_deed","_law_there"] g__law_fits)
  (F:Fun K "law" "law" s_law fa fd):FnOk P w K mg base CX0 (k+1) fa fd ["_law_script"] (spD K 1 (fnRun 8 (t_law x_NoWidth g__law_mixed g__law_at g__law_mixed_day g_answers g__law_same g__law_fits))):=
 fn_D (N:=["_law_script","_law_width","_law_deeds","_law_handed","_law_found","_law_refused","_law_there","_law_k"]) (ps:=["_law_script"]) F sc_law fun cdv A outer s H E hr=>
  (dss_cons (ds_set (i:=0) sc_law.nd (de_slice (dv 0) do_none (do_some de_int)))
  (dss_cons (ds_set (i:=0) sc_law.nd (de_cal c__law_mixed hr (da_cons (dv 0) da_nil)))
  (dss_cons (ds_set (i:=1) sc_law.nd (de_ix (de_lst (da_cons de_int (da_cons de_int (da_cons de_int (da_cons de_int (da_cons de_int (da_cons de_int (da_cons de_int (da_cons de_int (da_cons de_int (da_cons (de_neg de_int) da_nil))))))))))) (de_mod (de_cal c__law_at hr (da_cons (dv 0) (da_cons de_int da_nil))) de_int)))
  (dss_cons (ds_set (i:=2) sc_law.nd (de_cal c__law_mixed_day hr (da_cons (dv 0) da_nil)))
  (dss_cons (ds_set (i:=3) sc_law.nd (de_list B.list (da_cons (dv 2) da_nil)))
  (dss_cons (ds_set (i:=4) sc_law.nd de_non)
  (dss_cons (ds_set (i:=5) sc_law.nd de_bl)
  (dss_cons (ds_try (fun _ _=>(dss_one (ds_set (i:=4) sc_law.nd (de_calX c_answers hr (da_cons (dv 1) (da_cons (dv 3) da_nil)))))) (mh_cons (dh_hit e_NoWidth e_NoWidth m_NoWidth (contains_self _ _) fun _ _=>(dss_one (ds_set (i:=5) sc_law.nd de_bl))) mh_nil))
  (dss_cons (ds_if (dt_not (dt_val (de_cal c__law_same hr (da_cons (dv 3) (da_cons (dv 2) da_nil))))) (dss_one (ds_ret de_bl)) dss_nil)
  (dss_cons (ds_if (dt_w (dw_or (dt_val (dv 5)) (dw_or1 (dt_lt (dv 1) de_int)))) (dss_one (ds_ret (de_and (dv 5) (de_one (de_lt (dv 1) de_int))))) dss_nil)
  (dss_cons (ds_if (dt_w (dw_or (dt_not (dt_val (de_isi kit_list bt_list B.isinstance B.list (dv 4)))) (dw_or1 (dt_ne hr (de_len B.len (da_cons (dv 4) da_nil)) (de_len B.len (da_cons (dv 2) da_nil)))))) (dss_one (ds_ret de_bl)) dss_nil)
  (dss_cons (ds_set (i:=6) sc_law.nd de_dct)
  (dss_cons (ds_for (i:=7) PassesOwn.never rfl sc_law.nd (di_range1 B.range (da_cons (de_len B.len (da_cons (dv 2) da_nil)) da_nil)) (dss_cons (ds_if (dt_not (dt_val (de_cal c__law_fits hr (da_cons (de_ix (dv 4) (dv 7)) (da_cons (de_ix (dv 2) (dv 7)) (da_cons (dv 6) da_nil)))))) (dss_one (ds_ret de_bl)) dss_nil)
  (dss_cons (ds_if (dt_eq hr (de_ix (de_ix (dv 2) (dv 7)) de_int) de_str) (dss_one (ds_dput hr (de_ix (de_ix (dv 2) (dv 7)) de_int) (dv 6) (de_ix (de_ix (dv 2) (dv 7)) de_int))) dss_nil)
  (dss_one (ds_if (dt_w (dw_and (dt_eq hr (de_ix (de_ix (dv 2) (dv 7)) de_int) de_str) (dw_and1 (dt_din hr (de_ix (de_ix (dv 2) (dv 7)) de_int) (dv 6))))) (dss_one (ds_expr (de_dpop (dv 6) (de_ix (de_ix (dv 2) (dv 7)) de_int)))) dss_nil)))))
  (dss_one (ds_ret de_bl)))))))))))))))
end K12
namespace M
open PySem PySem.Spec PyProof.Rows L2 DL MD
theorem compD_fm {chk:Hh->Prop}{ft:FT}{fe:FE}{fenv:En}{p:D->Bool}{g:D->D}{h1:Hh} (hc:∀ xs,chk (h1++[.lst xs])):∀ (items acc:List D),(∀ d∈items,∀ xs,ft (some d::fenv) (h1++[.lst xs])=.ok (p d) (h1++[.lst xs]))->
  (∀ d∈items,p d=true->∀ xs,fe (some d::fenv) (h1++[.lst xs])=.ok (g d) (h1++[.lst xs]))->acc.length+items.length<=sizeLine->
  compD chk h1.length ft fe fenv items (h1++[.lst acc])=some (h1++[.lst (acc++(items.filter p).map g)])
 | [],acc,_,_,_=>by
  unfold compD
  rw [if_pos (hc acc)]
  simp
 | d::r,acc,ht,he,hl=>by
  have hd:=ht d List.mem_cons_self acc
  unfold compD
  rw [if_pos (hc acc),hd]
  cases hp:p d with
  | false=>
   have:=compD_fm hc r acc (fun x hx=>ht x (List.mem_cons_of_mem _ hx)) (fun x hx=>he x (List.mem_cons_of_mem _ hx)) (by simp at hl; lia)
   simp only [List.filter_cons,hp,Bool.false_eq_true,if_false]
   exact this
  | true=>
   have h2:=he d List.mem_cons_self hp acc
   have e1:(h1++[O.lst acc])[h1.length]?=some (.lst acc):=List.getElem?_concat_length
   have e2:(h1++[O.lst acc]).set h1.length (.lst (acc++[g d]))=h1++[.lst (acc++[g d])]:=by simp
   have:=compD_fm hc r (acc++[g d]) (fun x hx=>ht x (List.mem_cons_of_mem _ hx)) (fun x hx=>he x (List.mem_cons_of_mem _ hx)) (by simp at hl |-; lia)
   simp only [h2,itemsAt_of e1]
   rw [if_pos (by simp at hl; lia),e2,this]
   simp [List.filter_cons,hp]
theorem fComp_run {fi:FI}{fr:List Nat}{ft:FT}{fe:FE}{env:En}{h h1:Hh}{it:Itm}{p:D->Bool}{g:D->D} (q:fi env h=.ok it h1) (hc:∀ xs,it.chk (h1++[.lst xs])) (ht:∀ d∈it.items,∀ xs,ft (some d::freeEn fr env) (h1++[.lst xs])=.ok (p d) (h1++[.lst xs]))
  (he:∀ d∈it.items,p d=true->∀ xs,fe (some d::freeEn fr env) (h1++[.lst xs])=.ok (g d) (h1++[.lst xs])) (hl:it.items.length<=sizeLine):
  fComp fi fr ft fe env h=.ok (.lst h1.length) (h1++[.lst ((it.items.filter p).map g)]):=by
 unfold fComp
 rw [q,Res.bind_ok,compD_fm hc it.items [] ht he (by simpa using hl)]
 simp
theorem fComp_map {fi:FI}{fr:List Nat}{fe:FE}{env:En}{h h1:Hh}{it:Itm}{g:D->D} (q:fi env h=.ok it h1) (hc:∀ xs,it.chk (h1++[.lst xs]))
  (he:∀ d∈it.items,∀ xs,fe (some d::freeEn fr env) (h1++[.lst xs])=.ok (g d) (h1++[.lst xs])) (hl:it.items.length<=sizeLine):
  fComp fi fr fYes fe env h=.ok (.lst h1.length) (h1++[.lst (it.items.map g)]):=by
 have:=fComp_run (ft:=fYes) (p:=fun _=>true) q hc (fun _ _ _=>rfl) (fun d hd _=>he d hd) hl
 rw [this,List.filter_eq_self.mpr (by simp)]
theorem cut_head {α:Type} (xs:List α) (k:Nat):DL.cutD xs none (some (k:Int))=xs.take k:=by
 unfold DL.cutD
 rw [HT.sIx_none,HT.sIx_nat,List.drop_zero,Nat.sub_zero]
 by_cases h:k<=xs.length
 ·rw [Nat.min_eq_left h]
 ·rw [Nat.min_eq_right (by lia),List.take_of_length_le (by lia),List.take_of_length_le (by lia)]
theorem cut_tail {α:Type} (xs:List α) (k:Nat):DL.cutD xs (some (k:Int)) none=xs.drop k:=by
 unfold DL.cutD
 rw [HT.sIx_none,HT.sIx_nat]
 by_cases h:k<=xs.length
 ·rw [Nat.min_eq_left h]
  exact List.take_of_length_le (by rw [List.length_drop]; lia)
 ·rw [Nat.min_eq_right (by lia),List.drop_length,List.drop_eq_nil_of_le (by lia)]
  simp
theorem cut_mid {α:Type} (xs:List α) (i k:Nat):DL.cutD xs (some (i:Int)) (some (k:Int))=(xs.drop i).take (k - i):=by
 unfold DL.cutD
 rw [HT.sIx_nat,HT.sIx_nat]
 by_cases h:i<=xs.length
 ·rw [Nat.min_eq_left h]
  by_cases h2:k<=xs.length
  ·rw [Nat.min_eq_left h2]
  ·rw [Nat.min_eq_right (by lia),List.take_of_length_le (by rw [List.length_drop]; lia),List.take_of_length_le (by rw [List.length_drop]; lia)]
 ·rw [Nat.min_eq_right (show xs.length<=i by lia),List.drop_length,List.drop_eq_nil_of_le (by lia)]
  simp
noncomputable def heldOf:D->Int
 | .tup [_,_,.int n]=>n
 | _=>0
noncomputable def IsDr (b:D):Prop:=∃ x y n,b=.tup [x,y,.int n]
noncomputable def drawerOf (cs bs:List D):D:=.tup [.tup cs,.tup bs,.int (cs.length+(bs.map heldOf).sum)]
@[simp] theorem drawer_ix0 (cs bs:List D) (h:Hh):oIx (drawerOf cs bs) (.int 0) h=some (.tup cs,h):=rfl
@[simp] theorem drawer_ix1 (cs bs:List D) (h:Hh):oIx (drawerOf cs bs) (.int 1) h=some (.tup bs,h):=rfl
@[simp] theorem drawer_ix2 (cs bs:List D) (h:Hh):oIx (drawerOf cs bs) (.int 2) h=some (.int (cs.length+(bs.map heldOf).sum),h):=rfl
@[simp] theorem heldOf_drawer (cs bs:List D):heldOf (drawerOf cs bs)=cs.length+(bs.map heldOf).sum:=rfl
theorem rng1_nat {n:Nat} (h:n<=1000000):rng1 [.int n]=some ((List.range n).map fun (k:Nat)=>D.int k):=by
 have c:-(2 ^ 62)<=(n:Int)/\(n:Int) < 2 ^ 62:=⟨by lia,by lia⟩
 unfold rng1
 dsimp only
 rw [if_pos c,Int.toNat_natCast]
theorem fiRng1_ok {fs:List FE}{env:En}{h h1:Hh}{n:Nat} (q:fAll fs env h=.ok [.int (n:Int)] h1) (hn:n<=1000000):fiRng rng1 fs env h=.ok ⟨(List.range n).map fun (k:Nat)=>D.int k,fun _=>True⟩ h1:=by
 unfold fiRng
 rw [q,Res.bind_ok,rng1_nat hn]
 rfl
theorem range_get {n j:Nat}{d:D} (h:((List.range n).map fun (k:Nat)=>D.int k)[j]?=some d):j < n/\d=.int j:=by
 rw [List.getElem?_map] at h
 obtain⟨k,hk,rfl⟩:=Option.map_eq_some_iff.mp h
 obtain⟨hlt,e⟩:=List.getElem?_eq_some_iff.mp hk
 rw [List.getElem_range] at e
 subst e
 exact⟨by simpa using hlt,rfl⟩
theorem IsDr.of (cs bs:List D):IsDr (drawerOf cs bs):=⟨_,_,_,rfl⟩
theorem run_half (w:Int) (h:Hh):fnRun 1 t_half_of [.int w] h=some (.int (w / 2),h):=by
 refine fnRun_rt ?_
 unfold t_half_of
 simp [fRet,f2,fV,fC,startE,oDiv_int]
noncomputable def R_drawer (ds:List D) (d:D):Prop:=∃ cs bs:List D,ds=[.tup cs,.tup bs]/\d=drawerOf cs bs/\(∀ b∈bs,IsDr b)/\(∀ x∈cs,HB 0 x)/\(∀ x∈bs,HB 0 x)/\bs.length<=sizeLine
theorem runs_drawer:Runs (fnRun 2 t_drawer_of) R_drawer:=by
 rintro ds d ⟨cs,bs,rfl,rfl,hd,h1,h2,hl⟩
 refine⟨.tup fun x hx=>?_,fun h=>⟨[.lst (bs.map fun b=>.int (heldOf b))],fnRun_rt ?_⟩⟩
 ·simp only [List.mem_cons,List.not_mem_nil,or_false] at hx
  rcases hx with rfl | rfl | rfl
  ·exact .tup h1
  ·exact .tup h2
  ·exact .int _
 unfold t_drawer_of
 refine fRet_ok ?_
 have e:fComp (fiSeq (fV 1)) [] fYes (f2 oIx (fV 0) (fC (.int 2))) (startE 2 [.tup cs,.tup bs]) h=.ok (.lst h.length) (h++[.lst (bs.map fun b=>.int (heldOf b))]):=by
  refine fComp_map (it:=⟨bs,fun _=>True⟩) (h1:=h) (g:=fun b=>.int (heldOf b)) ?_ (fun _=>trivial) (fun b hb xs=>?_) hl
  ·simp [fiSeq,fV,startE,itSeq]
  ·obtain⟨x,y,n,rfl⟩:=hd b hb
   simp [f2,fV,fC,heldOf,atI_pos]
 have es:oSum [.lst h.length] (h++[.lst (bs.map fun b=>.int (heldOf b))])=some (.int (bs.map heldOf).sum,h++[.lst (bs.map fun b=>.int (heldOf b))]):=by
  refine oSum_lst (ds:=bs.map fun b=>.int (heldOf b)) (ns:=bs.map heldOf) (by simp) ?_
  have:=intsD_map (bs.map heldOf)
  rw [List.map_map] at this
  exact this
 have a3:f2 oAdd (fc oLen (fAll [fV 0])) (fc oSum (fAll [fComp (fiSeq (fV 1)) [] fYes (f2 oIx (fV 0) (fC (.int 2)))])) (startE 2 [.tup cs,.tup bs]) h=.ok (.int (cs.length+(bs.map heldOf).sum)) (h++[.lst (bs.map fun b=>.int (heldOf b))]):=by
  rw [f2_ok (x:=.int cs.length) (h1:=h) (y:=.int (bs.map heldOf).sum) (h2:=h++[.lst (bs.map fun b=>.int (heldOf b))]) rfl (by rw [fc_ok (fAll_cons e rfl),es]; rfl)]
  rfl
 unfold fTup
 rw [fAll_cons rfl (fAll_cons rfl (fAll_cons a3 rfl))]
 rfl
noncomputable def R_spliced (ds:List D) (d:D):Prop:=∃ (row parts:List D) (i j:Nat),ds=[.tup row,.int i,.int j,.tup parts]/\d=.tup (row.take i++parts++row.drop j)/\(∀ x∈row,HB 0 x)/\(∀ x∈parts,HB 0 x)/\row.length+parts.length+row.length<=sizeLine
theorem runs_spliced:Runs (fnRun 4 t_spliced) R_spliced:=by
 rintro ds d ⟨row,parts,i,j,rfl,rfl,h1,h2,hl⟩
 refine⟨.tup fun x hx=>?_,fun h=>⟨[],fnRun_rt ?_⟩⟩
 ·rcases List.mem_append.mp hx with hx | hx
  ·rcases List.mem_append.mp hx with hx | hx
   ·exact h1 x (List.mem_of_mem_take hx)
   ·exact h2 x hx
  ·exact h1 x (List.mem_of_mem_drop hx)
 unfold t_spliced
 refine fRet_ok ?_
 rw [List.append_nil]
 have e1:(row.take i).length+parts.length<=sizeLine:=by rw [List.length_take]; lia
 have e2:(row.take i++parts).length+(row.drop j).length<=sizeLine:=by rw [List.length_append,List.length_take,List.length_drop]; lia
 simp only [f2,fSl,fNoPart,fPart,fV,startE,List.map_cons,List.map_nil,List.length_cons,List.length_nil,List.cons_append,List.nil_append,List.getElem?_cons_zero,List.getElem?_cons_succ,getO_some,Res.bind_ok,partOf_int,oSl_tup,ofO_some,cut_head,cut_tail]
 rw [oAdd_tup _ e1]
 simp only [ofO_some,Res.bind_ok]
 rw [oAdd_tup _ e2]
 rfl
theorem det_drawer:Det R_drawer:=runs_drawer.det
theorem det_spliced:Det R_spliced:=runs_spliced.det
noncomputable def partedD (w:Int) (cs bs:List D):D:=.tup [drawerOf (cs.take (w / 2).toNat) (bs.take ((w / 2).toNat+1)),cs.getD (w / 2).toNat .non,drawerOf (cs.drop ((w / 2).toNat+1)) (bs.drop ((w / 2).toNat+1))]
noncomputable def R_parted (ds:List D) (d:D):Prop:=∃ (w n:Int) (cs bs:List D),ds=[.int w,.tup [.tup cs,.tup bs,.int n]]/\d=partedD w cs bs/\0<=w/\(w / 2).toNat < cs.length/\(∀ b∈bs,IsDr b)/\(∀ x∈cs,HB 0 x)/\(∀ x∈bs,HB 0 x)/\bs.length<=sizeLine
theorem runs_parted:Runs (fnRun 7 (t_parted (fnRun 1 t_half_of) (relF R_drawer))) R_parted:=by
 rintro ds d ⟨w,n,cs,bs,rfl,rfl,hw,hk,hd,h1,h2,hl⟩
 obtain⟨k,hk0⟩:∃ k:Nat,w / 2=k:=⟨(w / 2).toNat,by lia⟩
 have hkn:(w / 2).toNat=k:=by lia
 rw [hkn] at hk
 unfold partedD
 rw [hkn]
 have ek:cs[k]?=some cs[k]:=List.getElem?_eq_getElem hk
 have hbD:∀ {xs:List D},(∀ x∈xs,HB 0 x)->∀ {ys:List D},(∀ x∈ys,HB 0 x)->HB 0 (drawerOf xs ys):=fun ha _ hb=>.tup fun x hx=>by
  simp only [List.mem_cons,List.not_mem_nil,or_false] at hx
  rcases hx with rfl | rfl | rfl
  ·exact .tup ha
  ·exact .tup hb
  ·exact .int _
 refine⟨.tup fun x hx=>?_,fun h=>⟨[],fnRun_rt ?_⟩⟩
 ·simp only [List.mem_cons,List.not_mem_nil,or_false] at hx
  rcases hx with rfl | rfl | rfl
  ·exact hbD (fun x hx=>h1 x (List.mem_of_mem_take hx)) (fun x hx=>h2 x (List.mem_of_mem_take hx))
  ·rw [List.getD_eq_getElem?_getD,ek]
   exact h1 _ (List.getElem_mem hk)
  ·exact hbD (fun x hx=>h1 x (List.mem_of_mem_drop hx)) (fun x hx=>h2 x (List.mem_of_mem_drop hx))
 rw [List.append_nil]
 have rl:relF R_drawer [.tup (cs.take k),.tup (bs.take (k+1))] h=some (drawerOf (cs.take k) (bs.take (k+1)),h):=relF_eq det_drawer ⟨_,_,rfl,rfl,fun b hb=>hd b (List.mem_of_mem_take hb),fun x hx=>h1 x (List.mem_of_mem_take hx),fun x hx=>h2 x (List.mem_of_mem_take hx),by rw [List.length_take]; lia⟩ h
 have rr:relF R_drawer [.tup (cs.drop (k+1)),.tup (bs.drop (k+1))] h=some (drawerOf (cs.drop (k+1)) (bs.drop (k+1)),h):=relF_eq det_drawer ⟨_,_,rfl,rfl,fun b hb=>hd b (List.mem_of_mem_drop hb),fun x hx=>h1 x (List.mem_of_mem_drop hx),fun x hx=>h2 x (List.mem_of_mem_drop hx),by rw [List.length_drop]; lia⟩ h
 unfold t_parted
 have ek1:((k:Nat):Int)+1=((k+1:Nat):Int):=by lia
 simp [fSeq,fSet,fRet,fTup,fAll,f2,fc,fSl,fNoPart,fPart,fV,fC,startE,run_half,hk0,atI_pos,ek1,cut_head,cut_tail,rl,rr,ek,List.getD_eq_getElem?_getD,-Int.natCast_add]
theorem det_parted:Det R_parted:=runs_parted.det
inductive Dp:Nat->D->Prop where
 | int {n:Nat} (i:Int):Dp (n+1) (.int i)
 | str {n:Nat} (x:Str):Dp (n+1) (.str x)
 | bl {n:Nat} (b:Bool):Dp (n+1) (.bl b)
 | non {n:Nat}:Dp (n+1) .non
 | tup {n:Nat}{ds:List D}:(∀ d∈ds,Dp n d)->Dp (n+1) (.tup ds)
theorem eqL_refl {f:D->D->Option Bool}:∀ {xs:List D},(∀ x∈xs,f x x=some true)->eqL f xs xs=some true
 | [],_=>rfl
 | x::r,h=>by
  unfold eqL
  rw [h x List.mem_cons_self,eqL_refl fun y hy=>h y (List.mem_cons_of_mem _ hy)]
  rfl
theorem eqD_refl {h:Hh}:∀ {n:Nat}{d:D},Dp n d->eqD n h d d=some true
 | _,_,.int i=>congrArg some (beq_self_eq_true i)
 | _,_,.str x=>congrArg some (beq_self_eq_true x)
 | _,_,.bl b=>congrArg some (beq_self_eq_true b)
 | _,_,.non=>rfl
 | _,_,.tup (n:=n) hd=>by
  show eqL (eqD n h) _ _=_
  exact eqL_refl fun x hx=>eqD_refl (hd x hx)
theorem Dp.mono {n m:Nat}{d:D} (h:Dp n d) (hm:n<=m):Dp m d:=by
 induction h generalizing m with
 | int i=>obtain⟨k,rfl⟩:∃ k,m=k+1:=⟨m - 1,by lia⟩; exact .int i
 | str i=>obtain⟨k,rfl⟩:∃ k,m=k+1:=⟨m - 1,by lia⟩; exact .str i
 | bl i=>obtain⟨k,rfl⟩:∃ k,m=k+1:=⟨m - 1,by lia⟩; exact .bl i
 | non=>obtain⟨k,rfl⟩:∃ k,m=k+1:=⟨m - 1,by lia⟩; exact .non
 | tup _ ih=>obtain⟨k,rfl⟩:∃ k,m=k+1:=⟨m - 1,by lia⟩; exact .tup fun d hd=>ih d hd (by lia)
theorem oNe_refl {d:D} (h:Hh) (p:Dp 24 d):oNe d d h=some (.bl false,h):=by
 unfold oNe
 rw [eqD_refl p]
 rfl
noncomputable def cardD (p:Int×Str):D:=.tup [.int p.1,.str p.2]
theorem hb_card (p:Int×Str):HB 0 (cardD p):=.tup fun x hx=>by
 simp only [List.mem_cons,List.not_mem_nil,or_false] at hx
 rcases hx with rfl | rfl
 ·exact .int _
 ·exact .str _
theorem run_whole (i:Int) (h:Hh):fnRun 1 t__law_whole [.int i] h=some (.bl true,h):=by
 refine fnRun_rt ?_
 unfold t__law_whole
 simp [fSeq,fSet,fRet,fDrop,fIfS,fB,f1,f2,fc,fAll,fTup,fLst,fC,fV,fAnd,fOr,fNot,fAndV,fOrV,fSl,fNoPart,fPart,fNext,startE,getO_some,asB_bl,ofO_some,Res.bind_ok,Res.out_ok,oIsi,tyD,isiB]
theorem run_at {h:Hh}{n:Nat}{ns:List Int}{k:Int} (e:h[n]?=some (.lst (ns.map D.int))) (hk:0<=k):fnRun 2 t__law_at [.lst n,.int k] h=some (.int (ns.getD k.toNat 0),h):=by
 refine fnRun_rt ?_
 unfold t__law_at
 by_cases c:k < (ns.length:Int)
 ·have hlt:k.toNat < ns.length:=by lia
  refine fSeq_rt ?_
  rw [fIfS_t (h1:=h)]
  ·simp [fSeq,fSet,fRet,fDrop,fIfS,fB,f1,f2,fc,fAll,fTup,fLst,fC,fV,fAnd,fOr,fNot,fAndV,fOrV,fSl,fNoPart,fPart,fNext,startE,getO_some,asB_bl,ofO_some,Res.bind_ok,Res.out_ok,oIx_lst e,atI_pos hk,hlt,List.getD_eq_getElem?_getD]
  ·simp [fSeq,fSet,fRet,fDrop,fIfS,fB,f1,f2,fc,fAll,fTup,fLst,fC,fV,fAnd,fOr,fNot,fAndV,fOrV,fSl,fNoPart,fPart,fNext,startE,getO_some,asB_bl,ofO_some,Res.bind_ok,Res.out_ok,oLen_lst e,c]
 ·rw [fSeq_nx (e1:=[some (.lst n),some (.int k)]) (h1:=h)]
  ·have:ns[k.toNat]?=none:=List.getElem?_eq_none (by lia)
   simp [fRet,fC,List.getD_eq_getElem?_getD,this]
  ·rw [fIfS_f (h1:=h)]
   ·rfl
   ·simp [fSeq,fSet,fRet,fDrop,fIfS,fB,f1,f2,fc,fAll,fTup,fLst,fC,fV,fAnd,fOr,fNot,fAndV,fOrV,fSl,fNoPart,fPart,fNext,startE,getO_some,asB_bl,ofO_some,Res.bind_ok,Res.out_ok,oLen_lst e,c]
noncomputable abbrev Card:=Int×Str
inductive T where
 | node (cs:List Card) (bs:List T)
noncomputable def T.cs:T->List Card
 | .node cs _=>cs
noncomputable def T.bs:T->List T
 | .node _ bs=>bs
@[simp] theorem T.cs_node (cs:List Card) (bs:List T):(T.node cs bs).cs=cs:=rfl
@[simp] theorem T.bs_node (cs:List Card) (bs:List T):(T.node cs bs).bs=bs:=rfl
mutual
noncomputable def T.d:T->D
 | .node cs bs=>drawerOf (cs.map cardD) (T.dL bs)
noncomputable def T.dL:List T->List D
 | []=>[]
 | t::r=>t.d::T.dL r
end
theorem T.dL_map:∀ bs:List T,T.dL bs=bs.map T.d
 | []=>by simp [T.dL]
 | t::r=>by simp [T.dL,T.dL_map r]
theorem T.d_node (cs:List Card) (bs:List T):(T.node cs bs).d=drawerOf (cs.map cardD) (bs.map T.d):=by
 rw [T.d,T.dL_map]
theorem T.isDr (t:T):IsDr t.d:=by
 cases t with
 | node cs bs=>rw [T.d_node]; exact .of _ _
mutual
noncomputable def T.flat:T->List Card
 | .node cs bs=>T.inter (T.flatL bs) cs
noncomputable def T.flatL:List T->List (List Card)
 | []=>[]
 | t::r=>t.flat::T.flatL r
noncomputable def T.inter:List (List Card)->List Card->List Card
 | [],cs=>cs
 | f::r,[]=>f++T.inter r []
 | f::r,c::cs=>f++c::T.inter r cs
end
theorem T.flatL_map:∀ bs:List T,T.flatL bs=bs.map T.flat
 | []=>by simp [T.flatL]
 | t::r=>by simp [T.flatL,T.flatL_map r]
theorem T.flat_node (cs:List Card) (bs:List T):(T.node cs bs).flat=T.inter (bs.map T.flat) cs:=by
 rw [T.flat,T.flatL_map]
noncomputable def T.V (least w:Nat):Nat->Nat->T->Prop
 | _,0,_=>False
 | own,n+1,.node cs bs=>own<=cs.length/\cs.length<=w/\(n=0->bs=[])/\(0 < n->bs.length=cs.length+1/\∀ b∈bs,T.V least w least n b)
theorem T.V_mono {least w own own' n:Nat} (h:own'<=own) {t:T} (v:T.V least w own n t):T.V least w own' n t:=by
 cases n with
 | zero=>exact v.elim
 | succ n=>
  cases t with
  | node cs bs=>
   unfold T.V at v |-
   exact⟨by lia,v.2⟩
theorem T.hb:∀ (n:Nat) {least w own:Nat}{t:T},T.V least w own n t->HB 0 t.d
 | 0,_,_,_,_,v=>v.elim
 | n+1,least,w,own,.node cs bs,v=>by
  unfold T.V at v
  rw [T.d_node]
  refine .tup fun x hx=>?_
  simp only [List.mem_cons,List.not_mem_nil,or_false] at hx
  rcases hx with rfl | rfl | rfl
  ·exact .tup fun y hy=>by
    obtain⟨p,_,rfl⟩:=List.mem_map.mp hy
    exact hb_card p
  ·refine .tup fun y hy=>?_
   obtain⟨b,hb,rfl⟩:=List.mem_map.mp hy
   cases n with
   | zero=>rw [v.2.2.1 rfl] at hb; exact nomatch hb
   | succ n=>exact T.hb (n+1) ((v.2.2.2 (by lia)).2 b hb)
  ·exact .int _
theorem sIx_neg1 (n d:Nat):HT.sIx n d (some (-1))=n - 1:=by
 unfold HT.sIx
 dsimp only
 rw [if_pos (by decide)]
 lia
theorem cut_init {α:Type} (xs:List α):DL.cutD xs none (some (-1))=xs.dropLast:=by
 unfold DL.cutD
 rw [HT.sIx_none,List.drop_zero,Nat.sub_zero,List.dropLast_eq_take,sIx_neg1]
theorem cut_last {α:Type} (xs:List α):DL.cutD xs (some (-1)) none=xs.drop (xs.length - 1):=by
 unfold DL.cutD
 rw [HT.sIx_none,sIx_neg1]
 exact List.take_of_length_le (by rw [List.length_drop]; lia)
theorem atI_neg1 {α:Type} (xs:List α):atI xs (-1)=xs[xs.length - 1]?:=by
 unfold L2.atI ixN
 rw [if_neg (by decide)]
 by_cases h:xs.length=0
 ·rw [if_neg (by lia)]
  have:xs=[]:=List.length_eq_zero_iff.mp h
  subst this
  rfl
 ·rw [if_pos (by lia)]
  show xs[((-1:Int)+(xs.length:Int)).toNat]?=_
  rw [show ((-1:Int)+(xs.length:Int)).toNat=xs.length - 1 by lia]
mutual
theorem T.hbd:∀ t:T,HB 0 t.d
 | .node cs bs=>by
  rw [T.d]
  refine .tup fun x hx=>?_
  simp only [List.mem_cons,List.not_mem_nil,or_false] at hx
  rcases hx with rfl | rfl | rfl
  ·exact .tup fun y hy=>by
    obtain⟨p,_,rfl⟩:=List.mem_map.mp hy
    exact hb_card p
  ·exact .tup (T.hbL bs)
  ·exact .int _
theorem T.hbL:∀ (bs:List T),∀ y∈T.dL bs,HB 0 y
 | [],y,hy=>by rw [T.dL] at hy; exact nomatch hy
 | t::r,y,hy=>by
  rw [T.dL] at hy
  rcases List.mem_cons.mp hy with rfl | hy
  ·exact T.hbd t
  ·exact T.hbL r y hy
end
theorem hb_cards (cs:List Card):∀ x∈cs.map cardD,HB 0 x:=fun x hx=>by
 obtain⟨p,_,rfl⟩:=List.mem_map.mp hx
 exact hb_card p
theorem hb_trees (bs:List T):∀ x∈bs.map T.d,HB 0 x:=fun x hx=>by
 obtain⟨p,_,rfl⟩:=List.mem_map.mp hx
 exact p.hbd
theorem t_ix0 (t:T) (h:Hh):oIx t.d (.int 0) h=some (.tup (t.cs.map cardD),h):=by cases t; rw [T.d_node]; rfl
theorem t_ix1 (t:T) (h:Hh):oIx t.d (.int 1) h=some (.tup (t.bs.map T.d),h):=by cases t; rw [T.d_node]; rfl
theorem sz1000 {n:Nat} (h:n<=100000):n<=sizeLine:=Nat.le_trans h (by decide)
theorem relF_dr (cs:List Card) (bs:List T) (hl:bs.length<=10000) (h:Hh):relF R_drawer [.tup (cs.map cardD),.tup (bs.map T.d)] h=some ((T.node cs bs).d,h):=by
 rw [T.d_node]
 exact relF_eq det_drawer ⟨_,_,rfl,rfl,fun b hb=>by obtain⟨t,_,rfl⟩:=List.mem_map.mp hb; exact t.isDr,hb_cards cs,hb_trees bs,by rw [List.length_map]; exact sz1000 (by lia)⟩ h
theorem relF_spC (cs zs:List Card) (i j:Nat) (h1:cs.length<=10000) (h2:zs.length<=10000) (h:Hh):relF R_spliced [.tup (cs.map cardD),.int i,.int j,.tup (zs.map cardD)] h=some (.tup ((cs.take i++zs++cs.drop j).map cardD),h):=by
 rw [relF_eq det_spliced ⟨_,_,i,j,rfl,rfl,hb_cards cs,hb_cards zs,by simp only [List.length_map]; exact sz1000 (by lia)⟩ h]
 simp [List.map_take,List.map_drop]
theorem relF_spB (bs zs:List T) (i j:Nat) (h1:bs.length<=10000) (h2:zs.length<=10000) (h:Hh):relF R_spliced [.tup (bs.map T.d),.int i,.int j,.tup (zs.map T.d)] h=some (.tup ((bs.take i++zs++bs.drop j).map T.d),h):=by
 rw [relF_eq det_spliced ⟨_,_,i,j,rfl,rfl,hb_trees bs,hb_trees zs,by simp only [List.length_map]; exact sz1000 (by lia)⟩ h]
 simp [List.map_take,List.map_drop]
section
variable {α:Type} (f:α->D)
theorem cutF_init (xs:List α):DL.cutD (xs.map f) none (some (-1))=xs.dropLast.map f:=by rw [cut_init,List.map_dropLast]
theorem cutF_last (xs:List α):DL.cutD (xs.map f) (some (-1)) none=(xs.drop (xs.length - 1)).map f:=by rw [cut_last,List.length_map,List.map_drop]
theorem cutF_head (xs:List α) (k:Nat):DL.cutD (xs.map f) none (some (k:Int))=(xs.take k).map f:=by rw [cut_head,List.map_take]
theorem cutF_tail (xs:List α) (k:Nat):DL.cutD (xs.map f) (some (k:Int)) none=(xs.drop k).map f:=by rw [cut_tail,List.map_drop]
theorem oAdd_map {xs ys:List α} (h:Hh) (c:xs.length+ys.length<=100000):oAdd (.tup (xs.map f)) (.tup (ys.map f)) h=some (.tup ((xs++ys).map f),h):=by
 rw [oAdd_tup h (by simp only [List.length_map]; exact sz1000 c),List.map_append]
end
noncomputable def lentL (cs:List Card) (bs:List T) (p:Nat) (c:Card) (l s:T):T:=
 .node (cs.take p++l.cs.drop (l.cs.length - 1)++cs.drop (p+1)) (bs.take p++[.node l.cs.dropLast l.bs.dropLast,.node (c::s.cs) (l.bs.drop (l.bs.length - 1)++s.bs)]++bs.drop (p+2))
noncomputable def lentR (cs:List Card) (bs:List T) (p:Nat) (c:Card) (s r:T):T:=
 .node (cs.take p++r.cs.take 1++cs.drop (p+1)) (bs.take p++[.node (s.cs++[c]) (s.bs++r.bs.take 1),.node (r.cs.drop 1) (r.bs.drop 1)]++bs.drop (p+2))
noncomputable def joinT (cs:List Card) (bs:List T) (p:Nat) (c:Card) (l r:T):T:=
 .node (cs.take p++[]++cs.drop (p+1)) (bs.take p++[.node (l.cs++[c]++r.cs) (l.bs++r.bs)]++bs.drop (p+2))
structure Nb (cs:List Card) (bs:List T) (p:Nat) (c:Card) (l r:T):Prop where
 hc:cs[p]?=some c
 hl:bs[p]?=some l
 hr:bs[p+1]?=some r
 zc:cs.length<=1000
 zb:bs.length<=1000
 zlc:l.cs.length<=1000
 zlb:l.bs.length<=1000
 zrc:r.cs.length<=1000
 zrb:r.bs.length<=1000
noncomputable def R_lentL (ds:List D) (d:D):Prop:=∃ (cs:List Card) (bs:List T) (p:Nat) (c:Card) (l s:T),ds=[(T.node cs bs).d,.int ((p+1:Nat):Int)]/\d=(lentL cs bs p c l s).d/\Nb cs bs p c l s
noncomputable def R_lentR (ds:List D) (d:D):Prop:=∃ (cs:List Card) (bs:List T) (p:Nat) (c:Card) (s r:T),ds=[(T.node cs bs).d,.int (p:Int)]/\d=(lentR cs bs p c s r).d/\Nb cs bs p c s r
noncomputable def R_join (ds:List D) (d:D):Prop:=∃ (cs:List Card) (bs:List T) (p:Nat) (c:Card) (l r:T),ds=[(T.node cs bs).d,.int (p:Int)]/\d=(joinT cs bs p c l r).d/\Nb cs bs p c l r
theorem ix_cards {cs:List Card}{p:Nat}{c:Card} (e:cs[p]?=some c) (h:Hh):oIx (.tup (cs.map cardD)) (.int p) h=some (cardD c,h):=by
 rw [oIx_tup,atI_nat',List.getElem?_map,e]; rfl
theorem ix_trees {bs:List T}{p:Nat}{t:T} (e:bs[p]?=some t) (h:Hh):oIx (.tup (bs.map T.d)) (.int p) h=some (t.d,h):=by
 rw [oIx_tup,atI_nat',List.getElem?_map,e]; rfl
theorem runs_lentL:Runs (fnRun 8 (t_lent_by_left (relF R_drawer) (relF R_spliced))) R_lentL:=by
 rintro ds d ⟨cs,bs,p,c,l,s,rfl,rfl,nb⟩
 refine⟨T.hbd _,fun h=>⟨[],fnRun_rt ?_⟩⟩
 rw [List.append_nil]
 have e1:(((p+1:Nat):Int)) - 1=(p:Int):=by lia
 have e2:(((p+1:Nat):Int))+1=((p+2:Nat):Int):=by lia
 have n1:=nb.zlb
 have n2:=nb.zlc
 have n3:=nb.zrb
 have n4:=nb.zrc
 have n5:=nb.zc
 have n6:=nb.zb
 have d1:=relF_dr l.cs.dropLast l.bs.dropLast (by rw [List.length_dropLast]; lia) h
 have a1:oAdd (.tup [cardD c]) (.tup (s.cs.map cardD)) h=some (.tup ((c::s.cs).map cardD),h):=oAdd_map cardD (xs:=[c]) h (by simp; lia)
 have a2:oAdd (.tup ((l.bs.drop (l.bs.length - 1)).map T.d)) (.tup (s.bs.map T.d)) h=some (.tup ((l.bs.drop (l.bs.length - 1)++s.bs).map T.d),h):=oAdd_map T.d h (by rw [List.length_drop]; lia)
 have d2:=relF_dr (c::s.cs) (l.bs.drop (l.bs.length - 1)++s.bs) (by rw [List.length_append,List.length_drop]; lia) h
 rw [List.map_cons] at d2
 have p1:=relF_spC cs (l.cs.drop (l.cs.length - 1)) p (p+1) (by lia) (by rw [List.length_drop]; lia) h
 have p2:relF R_spliced [.tup (bs.map T.d),.int (p:Int),.int ((p+2:Nat):Int),.tup [(T.node l.cs.dropLast l.bs.dropLast).d,(T.node (c::s.cs) (l.bs.drop (l.bs.length - 1)++s.bs)).d]] h=_:=
  relF_spB bs [T.node l.cs.dropLast l.bs.dropLast,T.node (c::s.cs) (l.bs.drop (l.bs.length - 1)++s.bs)] p (p+2) (by lia) (by simp) h
 have d3:=relF_dr (cs.take p++l.cs.drop (l.cs.length - 1)++cs.drop (p+1)) (bs.take p++[.node l.cs.dropLast l.bs.dropLast,.node (c::s.cs) (l.bs.drop (l.bs.length - 1)++s.bs)]++bs.drop (p+2)) (by simp; lia) h
 unfold t_lent_by_left lentL
 generalize hq:(((p+1:Nat):Int))=q at*
 have ic:=ix_cards nb.hc h
 have il:=ix_trees nb.hl h
 have is:=ix_trees nb.hr h
 rw [hq] at is
 simp only [fSeq,fSet,fRet,fc,fAll,fTup,f1,f2,fSl,fNoPart,fPart,fV,fC,startE,List.map_cons,List.map_nil,List.length_cons,List.length_nil,List.cons_append,List.nil_append,List.getElem?_cons_zero,List.getElem?_cons_succ,List.set_cons_zero,List.set_cons_succ,List.replicate,Nat.reduceAdd,Nat.reduceSub,getO_some,Res.bind_ok,Res.out_ok,ofO_some,partOf_int,
  t_ix0,t_ix1,T.cs_node,T.bs_node,oSub_int,oAdd_int,oNeg_int,oSl_tup,cutF_init,cutF_last,e1,e2,ic,il,is,d1,a1,a2,d2,p1,p2,d3]
theorem runs_lentR:Runs (fnRun 8 (t_lent_by_right (relF R_drawer) (relF R_spliced))) R_lentR:=by
 rintro ds d ⟨cs,bs,p,c,s,r,rfl,rfl,nb⟩
 refine⟨T.hbd _,fun h=>⟨[],fnRun_rt ?_⟩⟩
 rw [List.append_nil]
 have e1:(p:Int)+1=((p+1:Nat):Int):=by lia
 have e2:(p:Int)+2=((p+2:Nat):Int):=by lia
 have n1:=nb.zlb
 have n2:=nb.zlc
 have n3:=nb.zrb
 have n4:=nb.zrc
 have n5:=nb.zc
 have n6:=nb.zb
 have c1:DL.cutD (r.bs.map T.d) none (some 1)=(r.bs.take 1).map T.d:=cutF_head T.d r.bs 1
 have c2:DL.cutD (r.bs.map T.d) (some 1) none=(r.bs.drop 1).map T.d:=cutF_tail T.d r.bs 1
 have c3:DL.cutD (r.cs.map cardD) none (some 1)=(r.cs.take 1).map cardD:=cutF_head cardD r.cs 1
 have c4:DL.cutD (r.cs.map cardD) (some 1) none=(r.cs.drop 1).map cardD:=cutF_tail cardD r.cs 1
 have a1:oAdd (.tup (s.cs.map cardD)) (.tup [cardD c]) h=some (.tup ((s.cs++[c]).map cardD),h):=oAdd_map cardD (ys:=[c]) h (by simp; lia)
 have a2:oAdd (.tup (s.bs.map T.d)) (.tup ((r.bs.take 1).map T.d)) h=some (.tup ((s.bs++r.bs.take 1).map T.d),h):=oAdd_map T.d h (by rw [List.length_take]; lia)
 have d1:=relF_dr (s.cs++[c]) (s.bs++r.bs.take 1) (by rw [List.length_append,List.length_take]; lia) h
 have d2:=relF_dr (r.cs.drop 1) (r.bs.drop 1) (by rw [List.length_drop]; lia) h
 have p1:=relF_spC cs (r.cs.take 1) p (p+1) (by lia) (by rw [List.length_take]; lia) h
 have p2:relF R_spliced [.tup (bs.map T.d),.int (p:Int),.int ((p+2:Nat):Int),.tup [(T.node (s.cs++[c]) (s.bs++r.bs.take 1)).d,(T.node (r.cs.drop 1) (r.bs.drop 1)).d]] h=_:=
  relF_spB bs [T.node (s.cs++[c]) (s.bs++r.bs.take 1),T.node (r.cs.drop 1) (r.bs.drop 1)] p (p+2) (by lia) (by simp) h
 have d3:=relF_dr (cs.take p++r.cs.take 1++cs.drop (p+1)) (bs.take p++[.node (s.cs++[c]) (s.bs++r.bs.take 1),.node (r.cs.drop 1) (r.bs.drop 1)]++bs.drop (p+2)) (by simp; lia) h
 have ic:=ix_cards nb.hc h
 have il:=ix_trees nb.hl h
 have is:=ix_trees nb.hr h
 unfold t_lent_by_right lentR
 simp only [fSeq,fSet,fRet,fc,fAll,fTup,f1,f2,fSl,fNoPart,fPart,fV,fC,startE,List.map_cons,List.map_nil,List.length_cons,List.length_nil,List.cons_append,List.nil_append,List.getElem?_cons_zero,List.getElem?_cons_succ,List.set_cons_zero,List.set_cons_succ,List.replicate,Nat.reduceAdd,Nat.reduceSub,getO_some,Res.bind_ok,Res.out_ok,ofO_some,partOf_int,
  t_ix0,t_ix1,T.cs_node,T.bs_node,oSub_int,oAdd_int,oNeg_int,oSl_tup,c1,c2,c3,c4,e1,e2,ic,il,is,d1,a1,a2,d2,p1,p2,d3]
theorem runs_join:Runs (fnRun 7 (t_joined (relF R_drawer) (relF R_spliced))) R_join:=by
 rintro ds d ⟨cs,bs,p,c,s,r,rfl,rfl,nb⟩
 refine⟨T.hbd _,fun h=>⟨[],fnRun_rt ?_⟩⟩
 rw [List.append_nil]
 have e1:(p:Int)+1=((p+1:Nat):Int):=by lia
 have e2:(p:Int)+2=((p+2:Nat):Int):=by lia
 have n1:=nb.zlb
 have n2:=nb.zlc
 have n3:=nb.zrb
 have n4:=nb.zrc
 have n5:=nb.zc
 have n6:=nb.zb
 have a1:oAdd (.tup (s.cs.map cardD)) (.tup [cardD c]) h=some (.tup ((s.cs++[c]).map cardD),h):=oAdd_map cardD (ys:=[c]) h (by simp; lia)
 have a2:oAdd (.tup ((s.cs++[c]).map cardD)) (.tup (r.cs.map cardD)) h=some (.tup ((s.cs++[c]++r.cs).map cardD),h):=oAdd_map cardD h (by simp; lia)
 have a3:oAdd (.tup (s.bs.map T.d)) (.tup (r.bs.map T.d)) h=some (.tup ((s.bs++r.bs).map T.d),h):=oAdd_map T.d h (by lia)
 have d1:=relF_dr (s.cs++[c]++r.cs) (s.bs++r.bs) (by rw [List.length_append]; lia) h
 have p1:relF R_spliced [.tup (cs.map cardD),.int (p:Int),.int ((p+1:Nat):Int),.tup []] h=_:=relF_spC cs [] p (p+1) (by lia) (by simp) h
 have p2:relF R_spliced [.tup (bs.map T.d),.int (p:Int),.int ((p+2:Nat):Int),.tup [(T.node (s.cs++[c]++r.cs) (s.bs++r.bs)).d]] h=_:=
  relF_spB bs [T.node (s.cs++[c]++r.cs) (s.bs++r.bs)] p (p+2) (by lia) (by simp) h
 have d3:=relF_dr (cs.take p++[]++cs.drop (p+1)) (bs.take p++[.node (s.cs++[c]++r.cs) (s.bs++r.bs)]++bs.drop (p+2)) (by simp; lia) h
 have ic:=ix_cards nb.hc h
 have il:=ix_trees nb.hl h
 have is:=ix_trees nb.hr h
 unfold t_joined joinT
 simp only [fSeq,fSet,fRet,fc,fAll,fTup,f1,f2,fSl,fNoPart,fPart,fV,fC,startE,List.map_cons,List.map_nil,List.length_cons,List.length_nil,List.cons_append,List.nil_append,List.getElem?_cons_zero,List.getElem?_cons_succ,List.set_cons_zero,List.set_cons_succ,List.replicate,Nat.reduceAdd,Nat.reduceSub,getO_some,Res.bind_ok,Res.out_ok,ofO_some,partOf_int,
  t_ix0,t_ix1,T.cs_node,T.bs_node,oSub_int,oAdd_int,oNeg_int,oSl_tup,e1,e2,ic,il,is,d1,a1,a2,a3,p1,p2,d3]
theorem det_lentL:Det R_lentL:=runs_lentL.det
theorem det_lentR:Det R_lentR:=runs_lentR.det
theorem det_join:Det R_join:=runs_join.det
inductive Mend (half:Nat) (cs:List Card) (bs:List T) (p:Nat):T->Prop where
 | asis {t:T} (e:bs[p]?=some t) (h:t.cs.length+1≠half):Mend half cs bs p (.node cs bs)
 | left {q:Nat}{c:Card}{l t:T} (hp:p=q+1) (nb:Nb cs bs q c l t) (h:t.cs.length+1=half) (hl:half < l.cs.length):Mend half cs bs p (lentL cs bs q c l t)
 | right {c:Card}{t r:T} (nb:Nb cs bs p c t r) (h:t.cs.length+1=half) (hr:half < r.cs.length) (hl:∀ l,0 < p->bs[p - 1]?=some l->¬ half < l.cs.length):Mend half cs bs p (lentR cs bs p c t r)
 | joinL {q:Nat}{c:Card}{l t:T} (hp:p=q+1) (nb:Nb cs bs q c l t) (h:t.cs.length+1=half) (hl:¬ half < l.cs.length) (hr:∀ r,bs[p+1]?=some r->¬ half < r.cs.length):Mend half cs bs p (joinT cs bs q c l t)
 | joinR {c:Card}{t r:T} (hp:p=0) (nb:Nb cs bs p c t r) (h:t.cs.length+1=half) (hr:¬ half < r.cs.length):Mend half cs bs p (joinT cs bs p c t r)
noncomputable def R_mended (ds:List D) (d:D):Prop:=∃ (w half:Nat) (cs:List Card) (bs:List T) (p:Nat) (t:T),ds=[.int (w:Int),(T.node cs bs).d,.int (p:Int)]/\d=t.d/\half=w / 2/\0 < half/\p < bs.length/\Mend half cs bs p t
theorem t_len0 {t:T}{h:Hh}{f:FE}{e:En}{h0:Hh} (q:f e h0=.ok t.d h):fc oLen (fAll [f2 oIx f (fC (.int 0))]) e h0=.ok (.int t.cs.length) h:=by
 rw [fc_ok (fAll_cons (d:=.tup (t.cs.map cardD)) (h1:=h) (by rw [f2_ok q rfl,t_ix0]; rfl) rfl),oLen_tup,List.length_map]
 rfl
theorem runs_mended:Runs (fnRun 5 (t_mended (fnRun 1 t_half_of) (relF R_lentL) (relF R_lentR) (relF R_join))) R_mended:=by
 rintro ds d ⟨w,half,cs,bs,p,t',rfl,rfl,hh,h0,hpl,m⟩
 refine⟨T.hbd _,fun h=>⟨[],fnRun_rt ?_⟩⟩
 rw [List.append_nil]
 have hI:(w:Int) / 2=(half:Int):=by lia
 have et:∃ t,bs[p]?=some t:=⟨bs[p],List.getElem?_eq_getElem hpl⟩
 obtain⟨t,et⟩:=et
 unfold t_mended
 generalize hE:[some (D.int (w:Int)),some (T.node cs bs).d,some (.int (p:Int)),some (.int (half:Int)),some (.tup (bs.map T.d))]=E
 have E0:E[0]?=some (some (.int (w:Int))):=by rw [<-hE]; rfl
 have E1:E[1]?=some (some (T.node cs bs).d):=by rw [<-hE]; rfl
 have E2:E[2]?=some (some (.int (p:Int))):=by rw [<-hE]; rfl
 have E3:E[3]?=some (some (.int (half:Int))):=by rw [<-hE]; rfl
 have E4:E[4]?=some (some (.tup (bs.map T.d))):=by rw [<-hE]; rfl
 rw [fSeq_nx (e1:=[some (D.int (w:Int)),some (T.node cs bs).d,some (.int (p:Int)),some (.int (half:Int)),none]) (h1:=h) (fSet_ok (d:=.int (half:Int)) (by rw [fc_ok (ds:=[.int (w:Int)]) (h1:=h) rfl,run_half,hI]; rfl))]
 rw [fSeq_nx (e1:=E) (h1:=h) (by rw [<-hE]; exact fSet_ok (d:=.tup (bs.map T.d)) (by rw [f2_ok (x:=(T.node cs bs).d) (h1:=h) rfl rfl,t_ix1]; rfl))]
 have gp:∀ {f:FE}{q:Nat}{s:T},f E h=.ok (.int (q:Int)) h->bs[q]?=some s->f2 oIx (fV 4) f E h=.ok s.d h:=fun {f q s} hf hs=>by
  rw [f2_ok (fV_ok E4 h) hf,ix_trees hs]; rfl
 have lt:fc oLen (fAll [f2 oIx (f2 oIx (fV 4) (fV 2)) (fC (.int 0))]) E h=.ok (.int t.cs.length) h:=t_len0 (gp (fV_ok E2 h) et)
 have sb:f2 oSub (fV 3) (fC (.int 1)) E h=.ok (.int ((half:Int) - 1)) h:=by rw [f2_ok (fV_ok E3 h) rfl]; rfl
 have c1:fB (f2 oNe (fc oLen (fAll [(f2 oIx (f2 oIx (fV 4) (fV 2)) (fC (.int 0)))])) (f2 oSub (fV 3) (fC (.int 1)))) E h=.ok (!((t.cs.length:Int)==(half:Int) - 1)) h:=fB_ok (by rw [f2_ok lt sb]; rfl)
 by_cases hs:t.cs.length+1=half
 ·have b1:(!((t.cs.length:Int)==(half:Int) - 1))=false:=by
   have:(t.cs.length:Int)=(half:Int) - 1:=by lia
   rw [this]; simp
  rw [b1] at c1
  rw [fSeq_nx (e1:=E) (h1:=h) (by rw [fIfS_f c1]; rfl)]
  have gt0:fB (f2 oGt (fV 2) (fC (.int 0))) E h=.ok (decide ((0:Int) < (p:Int))) h:=fB_ok (by rw [f2_ok (fV_ok E2 h) rfl]; rfl)
  have lenL:∀ (q:Nat) (l:T),p=q+1->bs[q]?=some l->fB (f2 oGt (fc oLen (fAll [(f2 oIx (f2 oIx (fV 4) (f2 oSub (fV 2) (fC (.int 1)))) (fC (.int 0)))])) (fV 3)) E h=.ok (decide ((half:Int) < (l.cs.length:Int))) h:=by
   intro q l hq hl
   have e1:f2 oSub (fV 2) (fC (.int 1)) E h=.ok (.int (q:Int)) h:=by
    rw [f2_ok (fV_ok E2 h) rfl]
    show Res.ok (D.int ((p:Int) - 1)) h=_
    rw [show (p:Int) - 1=(q:Int) by lia]
   exact fB_ok (by rw [f2_ok (t_len0 (gp e1 hl)) (fV_ok E3 h)]; rfl)
  have lenR:∀ (r:T),bs[p+1]?=some r->fB (f2 oGt (fc oLen (fAll [(f2 oIx (f2 oIx (fV 4) (f2 oAdd (fV 2) (fC (.int 1)))) (fC (.int 0)))])) (fV 3)) E h=.ok (decide ((half:Int) < (r.cs.length:Int))) h:=by
   intro r hr
   have e1:f2 oAdd (fV 2) (fC (.int 1)) E h=.ok (.int ((p+1:Nat):Int)) h:=by
    rw [f2_ok (fV_ok E2 h) rfl]
    rfl
   exact fB_ok (by rw [f2_ok (t_len0 (gp e1 hr)) (fV_ok E3 h)]; rfl)
  have ltR:fB (f2 oLt (f2 oAdd (fV 2) (fC (.int 1))) (fc oLen (fAll [(fV 4)]))) E h=.ok (decide ((p:Int)+1 < (bs.length:Int))) h:=fB_ok (by
   rw [f2_ok (x:=.int ((p:Int)+1)) (h1:=h) (y:=.int bs.length) (h2:=h) (by rw [f2_ok (fV_ok E2 h) rfl]; rfl) (by rw [fc_ok (fAll_cons (fV_ok E4 h) rfl),oLen_tup,List.length_map]; rfl)]
   rfl)
  have args:fAll [fV 1,fV 2] E h=.ok [(T.node cs bs).d,.int (p:Int)] h:=fAll_cons (fV_ok E1 h) (fAll_cons (fV_ok E2 h) rfl)
  have qL:∃ b,fAnd (fB (f2 oGt (fV 2) (fC (.int 0)))) (fB (f2 oGt (fc oLen (fAll [(f2 oIx (f2 oIx (fV 4) (f2 oSub (fV 2) (fC (.int 1)))) (fC (.int 0)))])) (fV 3))) E h=.ok b h/\(b=true↔∃ q l,p=q+1/\bs[q]?=some l/\half < l.cs.length):=by
   unfold fAnd
   rw [gt0,Res.bind_ok]
   by_cases hp:p=0
   ·refine⟨false,?_,?_⟩
    ·rw [hp]; rfl
    ·constructor
     ·intro z; cases z
     ·rintro⟨q,l,e,_⟩; lia
   ·obtain⟨q,rfl⟩:∃ q,p=q+1:=⟨p - 1,by lia⟩
    obtain⟨l,hl⟩:∃ l,bs[q]?=some l:=⟨bs[q]'(by lia),List.getElem?_eq_getElem (by lia)⟩
    refine⟨decide ((half:Int) < (l.cs.length:Int)),?_,?_⟩
    ·rw [decide_eq_true (show (0:Int) < ((q+1:Nat):Int) by lia),if_pos rfl]
     exact lenL q l rfl hl
    ·rw [decide_eq_true_iff]
     constructor
     ·exact fun z=>⟨q,l,rfl,hl,by lia⟩
     ·rintro⟨q',l',e,hl',z⟩
      have:q'=q:=by lia
      subst this
      rw [hl] at hl'
      cases hl'
      lia
  obtain⟨bL,qL,iL⟩:=qL
  have qR:∃ b,fAnd (fB (f2 oLt (f2 oAdd (fV 2) (fC (.int 1))) (fc oLen (fAll [(fV 4)])))) (fB (f2 oGt (fc oLen (fAll [(f2 oIx (f2 oIx (fV 4) (f2 oAdd (fV 2) (fC (.int 1)))) (fC (.int 0)))])) (fV 3))) E h=.ok b h/\(b=true↔∃ r,bs[p+1]?=some r/\half < r.cs.length):=by
   unfold fAnd
   rw [ltR,Res.bind_ok]
   by_cases hp:p+1 < bs.length
   ·refine⟨decide ((half:Int) < ((bs[p+1]).cs.length:Int)),?_,?_⟩
    ·rw [decide_eq_true (show (p:Int)+1 < (bs.length:Int) by lia),if_pos rfl]
     exact lenR _ (List.getElem?_eq_getElem hp)
    ·rw [decide_eq_true_iff]
     constructor
     ·exact fun z=>⟨_,List.getElem?_eq_getElem hp,by lia⟩
     ·rintro⟨r,hr,z⟩
      rw [List.getElem?_eq_getElem hp] at hr
      cases hr
      lia
   ·refine⟨false,?_,?_⟩
    ·rw [decide_eq_false (by lia)]; rfl
    ·constructor
     ·intro z; cases z
     ·rintro⟨r,hr,_⟩
      rw [List.getElem?_eq_none (by lia)] at hr
      cases hr
  obtain⟨bR,qR,iR⟩:=qR
  cases m with
  | asis e hn=>rw [et] at e; cases e; exact absurd hs hn
  | @left q c l t2 hp nb _ hl=>
   have:bL=true:=iL.mpr ⟨q,l,hp,nb.hl,hl⟩
   subst this
   refine fSeq_rt ?_
   rw [fIfS_t qL]
   refine fRet_ok ?_
   rw [fc_ok args]
   subst hp
   rw [relF_eq det_lentL ⟨cs,bs,q,c,l,t2,rfl,rfl,nb⟩]
   rfl
  | @right c t2 r nb _ hr hl=>
   have bl:bL=false:=by
    cases hb:bL with
    | false=>rfl
    | true=>
     obtain⟨q,l,e,hl',z⟩:=iL.mp hb
     exact absurd z (hl l (by lia) (by rw [show p - 1=q by lia]; exact hl'))
   subst bl
   rw [fSeq_nx (e1:=E) (h1:=h) (by rw [fIfS_f qL]; rfl)]
   have:bR=true:=iR.mpr ⟨r,nb.hr,hr⟩
   subst this
   refine fSeq_rt ?_
   rw [fIfS_t qR]
   refine fRet_ok ?_
   rw [fc_ok args,relF_eq det_lentR ⟨cs,bs,p,c,t2,r,rfl,rfl,nb⟩]
   rfl
  | @joinL q c l t2 hp nb _ hl hr=>
   have bl:bL=false:=by
    cases hb:bL with
    | false=>rfl
    | true=>
     obtain⟨q',l',e,hl',z⟩:=iL.mp hb
     have:q'=q:=by lia
     subst this
     rw [nb.hl] at hl'
     cases hl'
     exact absurd z hl
   subst bl
   rw [fSeq_nx (e1:=E) (h1:=h) (by rw [fIfS_f qL]; rfl)]
   have br:bR=false:=by
    cases hb:bR with
    | false=>rfl
    | true=>
     obtain⟨r,hr',z⟩:=iR.mp hb
     exact absurd z (hr r hr')
   subst br
   rw [fSeq_nx (e1:=E) (h1:=h) (by rw [fIfS_f qR]; rfl)]
   refine fSeq_rt ?_
   rw [fIfS_t (h1:=h) (by rw [gt0,decide_eq_true (by lia)])]
   refine fRet_ok ?_
   rw [fc_ok (ds:=[(T.node cs bs).d,.int (q:Int)]) (h1:=h) (fAll_cons (fV_ok E1 h) (fAll_cons (d:=.int (q:Int)) (h1:=h) (by
    rw [f2_ok (fV_ok E2 h) rfl]
    show Res.ok (D.int ((p:Int) - 1)) h=_
    rw [show (p:Int) - 1=(q:Int) by lia]) rfl)),relF_eq det_join ⟨cs,bs,q,c,l,t2,rfl,rfl,nb⟩]
   rfl
  | @joinR c t2 r hp nb _ hr=>
   have bl:bL=false:=by
    cases hb:bL with
    | false=>rfl
    | true=>
     obtain⟨q',l',e,hl',z⟩:=iL.mp hb
     lia
   subst bl
   rw [fSeq_nx (e1:=E) (h1:=h) (by rw [fIfS_f qL]; rfl)]
   have br:bR=false:=by
    cases hb:bR with
    | false=>rfl
    | true=>
     obtain⟨r',hr',z⟩:=iR.mp hb
     rw [nb.hr] at hr'
     cases hr'
     exact absurd z hr
   subst br
   rw [fSeq_nx (e1:=E) (h1:=h) (by rw [fIfS_f qR]; rfl)]
   rw [fSeq_nx (e1:=E) (h1:=h) (by rw [fIfS_f (h1:=h) (by rw [gt0,decide_eq_false (by lia)])]; rfl)]
   refine fRet_ok ?_
   rw [fc_ok args,relF_eq det_join ⟨cs,bs,p,c,t2,r,rfl,rfl,nb⟩]
   rfl
 ·have b1:(!((t.cs.length:Int)==(half:Int) - 1))=true:=by
   have:¬ (t.cs.length:Int)=(half:Int) - 1:=by lia
   simp [this]
  rw [b1] at c1
  have:t'=.node cs bs:=by
   cases m with
   | asis e hn=>rfl
   | left hp nb h2 _=>subst hp; rw [nb.hr] at et; cases et; exact absurd h2 hs
   | right nb h2 _ _=>rw [nb.hl] at et; cases et; exact absurd h2 hs
   | joinL hp nb h2 _ _=>subst hp; rw [nb.hr] at et; cases et; exact absurd h2 hs
   | joinR hp nb h2 _=>rw [nb.hl] at et; cases et; exact absurd h2 hs
  subst this
  refine fSeq_rt ?_
  rw [fIfS_t c1]
  exact fRet_ok (fV_ok E1 h)
theorem det_mended:Det R_mended:=runs_mended.det
theorem inter_app:∀ {F1:List (List Card)}{C1:List Card} (F2:List (List Card)) (C2:List Card),F1.length=C1.length->T.inter (F1++F2) (C1++C2)=T.inter F1 C1++T.inter F2 C2
 | [],[],F2,C2,_=>by simp [T.inter]
 | f::F1,c::C1,F2,C2,h=>by
  simp only [List.cons_append,T.inter,List.append_assoc]
  rw [inter_app F2 C2 (by simpa using h)]
 | [],c::C1,F2,C2,h=>by simp at h
 | f::F1,[],F2,C2,h=>by simp at h
theorem inter_join:∀ {F:List (List Card)}{C:List Card} (G:List (List Card)) (c:Card) (E:List Card),F.length=C.length+1->T.inter (F++G) (C++c::E)=T.inter F C++c::T.inter G E
 | [],C,G,c,E,h=>by simp at h
 | [f],[],G,c,E,h=>by simp [T.inter]
 | [f],d::C,G,c,E,h=>by simp at h
 | f::f2::F,[],G,c,E,h=>by simp at h
 | f::f2::F,d::C,G,c,E,h=>by
  have:=inter_join (F:=f2::F) (C:=C) G c E (by simpa using h)
  simp only [List.cons_append,T.inter,List.append_assoc] at this |-
  rw [this]
theorem inter_head (F2:List (List Card)) (C2:List Card):∃ r,∀ g,T.inter (g::F2) C2=g++r:=by
 cases C2 with
 | nil=>exact⟨T.inter F2 [],fun g=>by simp [T.inter]⟩
 | cons c C3=>exact⟨c::T.inter F2 C3,fun g=>by simp [T.inter]⟩
theorem inter_one (g:List Card):T.inter [g] []=g:=by simp [T.inter]
theorem inter_nil (cs:List Card):T.inter [] cs=cs:=by cases cs<;>rfl
theorem inter_at {cs:List Card}{fs:List (List Card)}{p:Nat}{c:Card}{f g:List Card} (hc:cs[p]?=some c) (hf:fs[p]?=some f) (hg:fs[p+1]?=some g):
  ∃ A r,T.inter fs cs=A++f++c::g++r/\(∀ c' f' g',T.inter (fs.take p++[f',g']++fs.drop (p+2)) (cs.take p++[c']++cs.drop (p+1))=A++f'++c'::g'++r)/\∀ j,T.inter (fs.take p++[j]++fs.drop (p+2)) (cs.take p++[]++cs.drop (p+1))=A++j++r:=by
 have hcl:p < cs.length:=(List.getElem?_eq_some_iff.mp hc).1
 have hgl:p+1 < fs.length:=(List.getElem?_eq_some_iff.mp hg).1
 have l1:(fs.take p).length=(cs.take p).length:=by rw [List.length_take,List.length_take]; lia
 have ec:cs=cs.take p++c::cs.drop (p+1):=by
  rw [List.getElem?_eq_getElem hcl] at hc
  cases hc
  rw [<-List.drop_eq_getElem_cons hcl,List.take_append_drop]
 have ef:fs=fs.take p++f::g::fs.drop (p+2):=by
  rw [List.getElem?_eq_getElem (by lia)] at hf hg
  cases hf
  cases hg
  rw [<-List.drop_eq_getElem_cons hgl,<-List.drop_eq_getElem_cons (show p < fs.length by lia),List.take_append_drop]
 obtain⟨r,hr⟩:=inter_head (fs.drop (p+2)) (cs.drop (p+1))
 refine⟨T.inter (fs.take p) (cs.take p),r,?_,?_,?_⟩
 ·have:T.inter fs cs=T.inter (fs.take p++f::g::fs.drop (p+2)) (cs.take p++c::cs.drop (p+1)):=by rw [<-ec,<-ef]
  rw [this,inter_app _ _ l1]
  simp only [T.inter,hr]
  simp
 ·intro c' f' g'
  rw [List.append_assoc,List.append_assoc,inter_app _ _ l1]
  simp only [List.cons_append,List.nil_append,T.inter,hr]
  simp
 ·intro j
  rw [List.append_assoc,List.append_nil,inter_app _ _ l1]
  simp only [List.cons_append,List.nil_append,hr]
  simp
noncomputable def T.Fl (bot:Bool) (t:T):Prop:=if bot then t.bs=[] else t.bs.length=t.cs.length+1
theorem T.flat_eq (t:T):t.flat=T.inter (t.bs.map T.flat) t.cs:=by cases t; rw [T.flat_node]; rfl
theorem T.flat_bot {t:T} (h:t.bs=[]):t.flat=t.cs:=by rw [T.flat_eq,h,List.map_nil,inter_nil]
section
variable {cs:List Card}{bs:List T}{p:Nat}{c:Card}{l s r:T}{bot:Bool}
theorem getmap (h:bs[p]?=some l):(bs.map T.flat)[p]?=some l.flat:=by rw [List.getElem?_map,h]; rfl
theorem flat_lentL (nb:Nb cs bs p c l s) (hl:T.Fl bot l) (hs:T.Fl bot s) (h0:0 < l.cs.length):(lentL cs bs p c l s).flat=(T.node cs bs).flat:=by
 obtain⟨A,r,e,e2,_⟩:=inter_at nb.hc (getmap nb.hl) (getmap nb.hr)
 unfold lentL
 rw [T.flat_node,T.flat_node,e]
 obtain⟨l0,x,ex⟩:∃ l0 x,l.cs=l0++[x]:=⟨l.cs.dropLast,l.cs.getLast (by intro z; rw [z] at h0; simp at h0),(List.dropLast_concat_getLast _).symm⟩
 have d1:l.cs.drop (l.cs.length - 1)=[x]:=by rw [ex]; simp
 have d2:l.cs.dropLast=l0:=by rw [ex]; simp
 rw [d1,d2]
 simp only [List.map_append,List.map_take,List.map_drop,List.map_cons,List.map_nil]
 rw [e2]
 cases bot with
 | true=>
  have hl:l.bs=[]:=hl
  have hs:s.bs=[]:=hs
  rw [T.flat_node,T.flat_node,hl,hs]
  simp only [List.dropLast_nil,List.drop_nil,List.append_nil,List.map_nil,inter_nil]
  rw [T.flat_bot hl,T.flat_bot hs,ex]
  simp
 | false=>
  have hl:l.bs.length=l.cs.length+1:=hl
  obtain⟨b0,b,eb⟩:∃ b0 b,l.bs=b0++[b]:=⟨l.bs.dropLast,l.bs.getLast (by intro z; rw [z] at hl; simp at hl),(List.dropLast_concat_getLast _).symm⟩
  have d3:l.bs.drop (l.bs.length - 1)=[b]:=by rw [eb]; simp
  have d4:l.bs.dropLast=b0:=by rw [eb]; simp
  rw [d3,d4,T.flat_node,T.flat_node,T.flat_eq l,T.flat_eq s,ex,eb]
  simp only [List.map_append,List.map_cons,List.map_nil,List.cons_append,List.nil_append]
  rw [inter_join (F:=b0.map T.flat) (C:=l0) [b.flat] x [] (by
   rw [ex,eb] at hl
   simp at hl |-
   lia),inter_one]
  simp [T.inter]
theorem flat_lentR (nb:Nb cs bs p c s r) (hs:T.Fl bot s) (hr:T.Fl bot r) (h0:0 < r.cs.length):(lentR cs bs p c s r).flat=(T.node cs bs).flat:=by
 obtain⟨A,z,e,e2,_⟩:=inter_at nb.hc (getmap nb.hl) (getmap nb.hr)
 unfold lentR
 rw [T.flat_node,T.flat_node,e]
 obtain⟨x,r0,ex⟩:∃ x r0,r.cs=x::r0:=by
  cases hq:r.cs with
  | nil=>rw [hq] at h0; simp at h0
  | cons x r0=>exact⟨x,r0,rfl⟩
 have d1:r.cs.take 1=[x]:=by rw [ex]; rfl
 have d2:r.cs.drop 1=r0:=by rw [ex]; rfl
 rw [d1,d2]
 simp only [List.map_append,List.map_take,List.map_drop,List.map_cons,List.map_nil]
 rw [e2]
 cases bot with
 | true=>
  have hs:s.bs=[]:=hs
  have hr:r.bs=[]:=hr
  rw [T.flat_node,T.flat_node,hr,hs]
  simp only [List.take_nil,List.drop_nil,List.append_nil,List.map_nil,inter_nil]
  rw [T.flat_bot hr,T.flat_bot hs,ex]
  simp
 | false=>
  have hr:r.bs.length=r.cs.length+1:=hr
  have hs:s.bs.length=s.cs.length+1:=hs
  obtain⟨b,b0,eb⟩:∃ b b0,r.bs=b::b0:=by
   cases hq:r.bs with
   | nil=>rw [hq] at hr; simp at hr
   | cons x r0=>exact⟨x,r0,rfl⟩
  have d3:r.bs.take 1=[b]:=by rw [eb]; rfl
  have d4:r.bs.drop 1=b0:=by rw [eb]; rfl
  rw [d3,d4,T.flat_node,T.flat_node,T.flat_eq r,T.flat_eq s,ex,eb]
  simp only [List.map_append,List.map_cons,List.map_nil,List.cons_append,List.nil_append]
  rw [inter_join (F:=s.bs.map T.flat) (C:=s.cs) [b.flat] c [] (by rw [List.length_map]; lia),inter_one]
  simp [T.inter]
theorem flat_join (nb:Nb cs bs p c l r) (hl:T.Fl bot l) (hr:T.Fl bot r):(joinT cs bs p c l r).flat=(T.node cs bs).flat:=by
 obtain⟨A,z,e,_,e2⟩:=inter_at nb.hc (getmap nb.hl) (getmap nb.hr)
 unfold joinT
 rw [T.flat_node,T.flat_node,e]
 simp only [List.map_append,List.map_take,List.map_drop,List.map_cons,List.map_nil]
 rw [e2]
 cases bot with
 | true=>
  have hl:l.bs=[]:=hl
  have hr:r.bs=[]:=hr
  rw [T.flat_node,hr,hl]
  simp only [List.append_nil,List.map_nil,inter_nil]
  rw [T.flat_bot hr,T.flat_bot hl]
  simp
 | false=>
  have hl:l.bs.length=l.cs.length+1:=hl
  rw [T.flat_node,T.flat_eq l,T.flat_eq r]
  simp only [List.map_append]
  rw [show l.cs++[c]++r.cs=l.cs++c::r.cs by simp,inter_join (F:=l.bs.map T.flat) (C:=l.cs) _ c _ (by rw [List.length_map]; lia)]
  simp
end
theorem T.V.fl {least w own n:Nat}{t:T} (v:T.V least w own (n+1) t):T.Fl (decide (n=0)) t:=by
 cases t with
 | node cs bs=>
  unfold T.V at v
  unfold T.Fl
  by_cases h:n=0
  ·rw [decide_eq_true h,if_pos rfl]; exact v.2.2.1 h
  ·rw [decide_eq_false h,if_neg (by decide)]; exact (v.2.2.2 (by lia)).1
theorem T.V.lo {least w own n:Nat}{t:T} (v:T.V least w own (n+1) t):own<=t.cs.length:=by
 cases t; unfold T.V at v; exact v.1
theorem T.V.hi {least w own n:Nat}{t:T} (v:T.V least w own (n+1) t):t.cs.length<=w:=by
 cases t; unfold T.V at v; exact v.2.1
theorem T.V.kids {least w own n:Nat}{t:T} (v:T.V least w own (n+1) t) (h:0 < n):t.bs.length=t.cs.length+1/\∀ b∈t.bs,T.V least w least n b:=by
 cases t; unfold T.V at v; exact v.2.2.2 h
theorem T.V.leaf {least w own:Nat}{t:T} (v:T.V least w own 1 t):t.bs=[]:=by
 cases t; unfold T.V at v; exact v.2.2.1 rfl
theorem T.V.mk {least w own n:Nat}{cs:List Card}{bs:List T} (h1:own<=cs.length) (h2:cs.length<=w) (h3:n=0->bs=[]) (h4:0 < n->bs.length=cs.length+1/\∀ b∈bs,T.V least w least n b):T.V least w own (n+1) (.node cs bs):=by
 unfold T.V; exact⟨h1,h2,h3,h4⟩
theorem T.V.bsz {least w own n:Nat}{t:T} (v:T.V least w own (n+1) t):t.bs.length<=w+1:=by
 by_cases h:n=0
 ·subst h; rw [v.leaf]; simp
 ·rw [(v.kids (by lia)).1]; have:=v.hi; lia
section
variable {half w n p:Nat}{cs:List Card}{bs:List T}{c:Card}{l s r:T}
structure Short (half w n:Nat) (cs:List Card) (bs:List T) (p:Nat):Prop where
 hp:p < bs.length
 c0:0 < cs.length
 cw:cs.length<=w
 bl:bs.length=cs.length+1
 hh:half=w / 2
 h0:0 < half
 hw:w<=500
 ok:∀ i b,bs[i]?=some b->i≠p->T.V half w half (n+1) b
 at':∀ b,bs[p]?=some b->T.V half w (half - 1) (n+1) b
theorem mem3 {α:Type}{bs zs:List α}{p q:Nat}{x:α} (h:x∈bs.take p++zs++bs.drop q):(∃ i,i < p/\bs[i]?=some x)\/x∈zs\/∃ i,q<=i/\bs[i]?=some x:=by
 rw [List.mem_append,List.mem_append] at h
 rcases h with (h | h) | h
 ·obtain⟨i,hi,e⟩:=List.mem_take_iff_getElem.mp h
  exact .inl ⟨i,by lia,by rw [List.getElem?_eq_getElem (by lia),e]⟩
 ·exact .inr (.inl h)
 ·obtain⟨i,hi,e⟩:=List.mem_drop_iff_getElem.mp h
  exact .inr (.inr ⟨q+i,by lia,by rw [List.getElem?_eq_getElem (by lia),e]⟩)
theorem Short.nb (S:Short half w n cs bs p) {q:Nat} (hq:q+1 < bs.length):∃ c l r,Nb cs bs q c l r:=by
 have h1:=S.bl
 have h2:=S.cw
 have h3:=S.hw
 have sz:∀ i (hi:i < bs.length),(bs[i]).cs.length<=1000/\(bs[i]).bs.length<=1000:=fun i hi=>by
  by_cases e:i=p
  ·subst e
   have v:=S.at' _ (List.getElem?_eq_getElem hi)
   have:=v.hi
   have:=v.bsz
   lia
  ·have v:=S.ok i _ (List.getElem?_eq_getElem hi) e
   have:=v.hi
   have:=v.bsz
   lia
 exact⟨cs[q]'(by lia),bs[q]'(by lia),bs[q+1],List.getElem?_eq_getElem (by lia),List.getElem?_eq_getElem (by lia),List.getElem?_eq_getElem hq,by lia,by lia,(sz q (by lia)).1,(sz q (by lia)).2,(sz (q+1) hq).1,(sz (q+1) hq).2⟩
theorem len_splice {α:Type}{xs zs:List α}{p q:Nat} (h1:p<=xs.length) (h2:q<=xs.length):(xs.take p++zs++xs.drop q).length=p+zs.length+(xs.length - q):=by
 simp; lia
theorem V_lentL (S:Short half w n cs bs (p+1)) (nb:Nb cs bs p c l s) (hl:half < l.cs.length) (hs:s.cs.length+1=half):T.V half w cs.length (n+2) (lentL cs bs p c l s)/\(lentL cs bs p c l s).cs.length=cs.length:=by
 have vl:=S.ok p l nb.hl (by lia)
 have vs:=S.at' s nb.hr
 have k1:=S.bl
 have k2:=S.hp
 have k3:=S.hh
 have k4:=vl.hi
 have k5:=S.cw
 have hd:(l.cs.drop (l.cs.length - 1)).length=1:=by rw [List.length_drop]; lia
 have len:(cs.take p++l.cs.drop (l.cs.length - 1)++cs.drop (p+1)).length=cs.length:=by rw [len_splice (by lia) (by lia),hd]; lia
 refine⟨?_,len⟩
 unfold lentL
 refine .mk (by lia) (by lia) (by lia) fun _=>⟨by rw [len,len_splice (by lia) (by lia)]; simp; lia,?_⟩
 intro b hb
 rcases mem3 hb with⟨i,hi,e⟩ | hb | ⟨i,hi,e⟩
 ·exact S.ok i b e (by lia)
 ·simp only [List.mem_cons,List.not_mem_nil,or_false] at hb
  rcases hb with rfl | rfl
  ·refine .mk (by rw [List.length_dropLast]; lia) (by rw [List.length_dropLast]; lia) (fun z=>?_) fun z=>?_
   ·subst z; rw [vl.leaf]; rfl
   ·have g:=vl.kids z
    exact⟨by rw [List.length_dropLast,List.length_dropLast]; lia,fun b hb=>g.2 b (by rw [List.dropLast_eq_take] at hb; exact List.mem_of_mem_take hb)⟩
  ·refine .mk (by rw [List.length_cons]; lia) (by rw [List.length_cons]; lia) (fun z=>?_) fun z=>?_
   ·subst z; rw [vl.leaf,vs.leaf]; rfl
   ·have g:=vl.kids z
    have g':=vs.kids z
    refine⟨by rw [List.length_append,List.length_drop,List.length_cons]; lia,fun b hb=>?_⟩
    rcases List.mem_append.mp hb with hb | hb
    ·exact g.2 b (List.mem_of_mem_drop hb)
    ·exact g'.2 b hb
 ·exact S.ok i b e (by lia)
theorem V_lentR (S:Short half w n cs bs p) (nb:Nb cs bs p c s r) (hr:half < r.cs.length) (hs:s.cs.length+1=half):T.V half w cs.length (n+2) (lentR cs bs p c s r)/\(lentR cs bs p c s r).cs.length=cs.length:=by
 have vr:=S.ok (p+1) r nb.hr (by lia)
 have vs:=S.at' s nb.hl
 have k1:=S.bl
 have k2:p+1 < bs.length:=(List.getElem?_eq_some_iff.mp nb.hr).1
 have k3:=S.hh
 have k4:=vr.hi
 have k5:=S.cw
 have hd:(r.cs.take 1).length=1:=by rw [List.length_take]; lia
 have len:(cs.take p++r.cs.take 1++cs.drop (p+1)).length=cs.length:=by rw [len_splice (by lia) (by lia),hd]; lia
 refine⟨?_,len⟩
 unfold lentR
 refine .mk (by lia) (by lia) (by lia) fun _=>⟨by rw [len,len_splice (by lia) (by lia)]; simp; lia,?_⟩
 intro b hb
 rcases mem3 hb with⟨i,hi,e⟩ | hb | ⟨i,hi,e⟩
 ·exact S.ok i b e (by lia)
 ·simp only [List.mem_cons,List.not_mem_nil,or_false] at hb
  rcases hb with rfl | rfl
  ·refine .mk (by rw [List.length_append,List.length_singleton]; lia) (by rw [List.length_append,List.length_singleton]; lia) (fun z=>?_) fun z=>?_
   ·subst z; rw [vr.leaf,vs.leaf]; rfl
   ·have g:=vr.kids z
    have g':=vs.kids z
    refine⟨by rw [List.length_append,List.length_take,List.length_append,List.length_singleton]; lia,fun b hb=>?_⟩
    rcases List.mem_append.mp hb with hb | hb
    ·exact g'.2 b hb
    ·exact g.2 b (List.mem_of_mem_take hb)
  ·refine .mk (by rw [List.length_drop]; lia) (by rw [List.length_drop]; lia) (fun z=>?_) fun z=>?_
   ·subst z; rw [vr.leaf]; rfl
   ·have g:=vr.kids z
    exact⟨by rw [List.length_drop,List.length_drop]; lia,fun b hb=>g.2 b (List.mem_of_mem_drop hb)⟩
 ·exact S.ok i b e (by lia)
theorem V_join {q:Nat} (S:Short half w n cs bs p) (nb:Nb cs bs q c l r) (hq:q=p\/q+1=p) (hn:l.cs.length+r.cs.length+1=half+half):T.V half w (cs.length - 1) (n+2) (joinT cs bs q c l r)/\(joinT cs bs q c l r).cs.length+1=cs.length:=by
 have k1:=S.bl
 have k2:q+1 < bs.length:=(List.getElem?_eq_some_iff.mp nb.hr).1
 have k3:=S.hh
 have k5:=S.cw
 have k6:=S.h0
 have vv:∀ i b,bs[i]?=some b->T.V half w (half - 1) (n+1) b:=fun i b e=>by
  by_cases h:i=p
  ·rw [h] at e; exact S.at' b e
  ·exact T.V_mono (by lia) (S.ok i b e h)
 have vl:=vv q l nb.hl
 have vr:=vv (q+1) r nb.hr
 have len:(cs.take q++[]++cs.drop (q+1)).length+1=cs.length:=by rw [len_splice (by lia) (by lia)]; simp; lia
 refine⟨?_,len⟩
 unfold joinT
 refine .mk (by lia) (by lia) (by lia) fun _=>⟨by rw [len_splice (by lia) (by lia)]; simp only [List.length_singleton]; lia,?_⟩
 intro b hb
 rcases mem3 hb with⟨i,hi,e⟩ | hb | ⟨i,hi,e⟩
 ·exact S.ok i b e (by lia)
 ·simp only [List.mem_cons,List.not_mem_nil,or_false] at hb
  subst hb
  refine .mk (by simp only [List.length_append,List.length_singleton]; lia) (by simp only [List.length_append,List.length_singleton]; lia) (fun z=>?_) fun z=>?_
  ·subst z; rw [vr.leaf,vl.leaf]; rfl
  ·have g:=vr.kids z
   have g':=vl.kids z
   refine⟨by simp only [List.length_append,List.length_singleton]; lia,fun b hb=>?_⟩
   rcases List.mem_append.mp hb with hb | hb
   ·exact g'.2 b hb
   ·exact g.2 b hb
 ·exact S.ok i b e (by lia)
theorem mend_ok (S:Short half w n cs bs p):∃ t',Mend half cs bs p t'/\t'.flat=(T.node cs bs).flat/\T.V half w (cs.length - 1) (n+2) t'/\t'.cs.length<=cs.length:=by
 have k1:=S.bl
 have k2:=S.hp
 have k3:=S.c0
 obtain⟨t,et⟩:∃ t,bs[p]?=some t:=⟨bs[p],List.getElem?_eq_getElem k2⟩
 have vt:=S.at' t et
 have lt:=vt.lo
 have fl:∀ {i:Nat}{b:T},bs[i]?=some b->T.Fl (decide (n=0)) b:=fun {i b} e=>by
  by_cases h:i=p
  ·subst h; exact (S.at' b e).fl
  ·exact (S.ok i b e h).fl
 by_cases hs:t.cs.length+1=half
 ·
  by_cases hL:∃ q l,p=q+1/\bs[q]?=some l/\half < l.cs.length
  ·obtain⟨q,l,rfl,el,hl⟩:=hL
   obtain⟨c,l',s',nb⟩:=S.nb (q:=q) k2
   have:l'=l:=by have:=nb.hl; rw [el] at this; cases this; rfl
   subst this
   have:s'=t:=by have:=nb.hr; rw [et] at this; cases this; rfl
   subst this
   have g:=V_lentL S nb hl hs
   exact⟨_,.left rfl nb hs hl,flat_lentL nb (fl el) (fl et) (by lia),T.V_mono (by lia) g.1,by lia⟩
  ·by_cases hR:∃ r,bs[p+1]?=some r/\half < r.cs.length
   ·obtain⟨r,er,hr⟩:=hR
    obtain⟨c,l',s',nb⟩:=S.nb (q:=p) (List.getElem?_eq_some_iff.mp er).1
    have:l'=t:=by have:=nb.hl; rw [et] at this; cases this; rfl
    subst this
    have:s'=r:=by have:=nb.hr; rw [er] at this; cases this; rfl
    subst this
    have g:=V_lentR S nb hr hs
    exact⟨_,.right nb hs hr (fun l h0 e z=>hL ⟨p - 1,l,by lia,e,z⟩),flat_lentR nb (fl et) (fl er) (by lia),T.V_mono (by lia) g.1,by lia⟩
   ·by_cases hp:p=0
    ·obtain⟨c,l',s',nb⟩:=S.nb (q:=p) (by lia)
     have:l'=t:=by have:=nb.hl; rw [et] at this; cases this; rfl
     subst this
     have vs:=S.ok _ _ nb.hr (by lia)
     have hs':¬ half < s'.cs.length:=fun z=>hR ⟨s',nb.hr,z⟩
     have:=vs.lo
     have g:=V_join S nb (.inl rfl) (by lia)
     exact⟨_,.joinR hp nb hs hs',flat_join nb (fl et) (fl nb.hr),g.1,by lia⟩
    ·obtain⟨q,rfl⟩:∃ q,p=q+1:=⟨p - 1,by lia⟩
     obtain⟨c,l',s',nb⟩:=S.nb (q:=q) (by lia)
     have:s'=t:=by have:=nb.hr; rw [et] at this; cases this; rfl
     subst this
     have vl:=S.ok _ _ nb.hl (by lia)
     have hl':¬ half < l'.cs.length:=fun z=>hL ⟨q,l',rfl,nb.hl,z⟩
     have:=vl.lo
     have g:=V_join S nb (.inr rfl) (by lia)
     exact⟨_,.joinL rfl nb hs hl' (fun r e z=>hR ⟨r,e,z⟩),flat_join nb (fl nb.hl) (fl et),g.1,by lia⟩
 ·refine⟨_,.asis et hs,rfl,?_,Nat.le_refl _⟩
  refine .mk (by lia) S.cw (by lia) fun _=>⟨k1,fun b hb=>?_⟩
  obtain⟨i,hi,e⟩:=List.mem_iff_getElem.mp hb
  have e:bs[i]?=some b:=by rw [List.getElem?_eq_getElem hi,e]
  by_cases h:i=p
  ·subst h
   rw [et] at e
   cases e
   cases t with
   | node c2 b2=>
    unfold T.V at vt |-
    exact⟨by have:c2.length+1≠half:=hs; have:=S.h0; lia,vt.2⟩
  ·exact S.ok i b e h
end
noncomputable def R_wum (ds:List D) (d:D):Prop:=∃ (w half:Nat) (cs:List Card) (bs:List T) (p:Nat) (u t:T),ds=[.int (w:Int),.tup (cs.map cardD),.tup (bs.map T.d),.int (p:Int),u.d]/\d=t.d/\half=w / 2/\0 < half/\p < bs.length/\bs.length<=1000/\Mend half cs (bs.take p++[u]++bs.drop (p+1)) p t
theorem runs_wum:Runs (fnRun 6 (t_with_under_mended (relF R_spliced) (relF R_drawer) (relF R_mended))) R_wum:=by
 rintro ds d ⟨w,half,cs,bs,p,u,t,rfl,rfl,hh,h0,hp,hz,m⟩
 refine⟨T.hbd _,fun h=>⟨[],fnRun_rt ?_⟩⟩
 rw [List.append_nil]
 have e1:(p:Int)+1=((p+1:Nat):Int):=by lia
 have p1:relF R_spliced [.tup (bs.map T.d),.int (p:Int),.int ((p+1:Nat):Int),.tup [u.d]] h=_:=relF_spB bs [u] p (p+1) (by lia) (by simp) h
 have d1:=relF_dr cs (bs.take p++[u]++bs.drop (p+1)) (by simp; lia) h
 have m1:relF R_mended [.int (w:Int),(T.node cs (bs.take p++[u]++bs.drop (p+1))).d,.int (p:Int)] h=some (t.d,h):=relF_eq det_mended ⟨w,half,cs,_,p,t,rfl,rfl,hh,h0,by simp; lia,m⟩ h
 unfold t_with_under_mended
 simp only [fSeq,fSet,fRet,fc,fAll,fTup,f1,f2,fSl,fNoPart,fPart,fV,fC,startE,List.map_cons,List.map_nil,List.length_cons,List.length_nil,List.cons_append,List.nil_append,List.getElem?_cons_zero,List.getElem?_cons_succ,List.set_cons_zero,List.set_cons_succ,List.replicate,Nat.reduceAdd,Nat.reduceSub,getO_some,Res.bind_ok,Res.out_ok,ofO_some,partOf_int,
  oAdd_int,e1,p1,d1,m1]
theorem det_wum:Det R_wum:=runs_wum.det
inductive LO (half:Nat):Nat->T->Card->T->Prop where
 | bot {n:Nat}{cs:List Card}{c:Card} (e:cs[cs.length - 1]?=some c):LO half (n+1) (.node cs []) c (.node cs.dropLast [])
 | up {n:Nat}{cs:List Card}{bs:List T}{b:T}{c:Card}{b' t':T} (hb:bs[bs.length - 1]?=some b) (z:bs.length<=1000) (r:LO half n b c b')
   (m:Mend half cs (bs.take (bs.length - 1)++[b']++bs.drop (bs.length - 1+1)) (bs.length - 1) t'):LO half (n+1) (.node cs bs) c t'
noncomputable def R_last (n:Nat) (ds:List D) (d:D):Prop:=∃ (w half:Nat) (t:T) (c:Card) (t':T),ds=[.int (w:Int),t.d]/\d=.tup [cardD c,t'.d]/\half=w / 2/\0 < half/\LO half n t c t'
theorem hb_pair (c:Card) (t:T):HB 0 (.tup [cardD c,t.d]):=.tup fun x hx=>by
 simp only [List.mem_cons,List.not_mem_nil,or_false] at hx
 rcases hx with rfl | rfl
 ·exact hb_card c
 ·exact t.hbd
theorem runs_last_of {n:Nat} (dt:Det (R_last n)):Runs (fnRun 6 (t_last_out (relF R_drawer) (relF (R_last n)) (relF R_wum))) (R_last (n+1)):=by
 rintro ds d ⟨w,half,t,c,t',rfl,rfl,hh,h0,r⟩
 refine⟨hb_pair _ _,fun h=>⟨[],fnRun_rt ?_⟩⟩
 rw [List.append_nil]
 unfold t_last_out
 cases r with
 | @bot _ cs _ e=>
  have i1:=t_ix0 (.node cs []) h
  have i2:=t_ix1 (.node cs []) h
  have d1:relF R_drawer [.tup (cs.dropLast.map cardD),.tup []] h=_:=relF_dr cs.dropLast [] (by simp) h
  have ix:oIx (.tup (cs.map cardD)) (.int (-1)) h=some (cardD c,h):=by
   rw [oIx_tup,atI_neg1,List.length_map,List.getElem?_map,e]; rfl
  rw [fSeq_nx (e1:=[some (.int (w:Int)),some (T.node cs []).d,some (.tup (cs.map cardD)),none,none,none]) (h1:=h) (fSet_ok (by rw [f2_ok (x:=(T.node cs []).d) (h1:=h) rfl rfl,i1]; rfl))]
  rw [fSeq_nx (e1:=[some (.int (w:Int)),some (T.node cs []).d,some (.tup (cs.map cardD)),some (.tup []),none,none]) (h1:=h) (fSet_ok (by rw [f2_ok (x:=(T.node cs []).d) (h1:=h) rfl rfl,i2]; rfl))]
  refine fSeq_rt ?_
  rw [fIfS_t (h1:=h) rfl]
  simp only [fRet,fc,fAll,fTup,f1,f2,fSl,fNoPart,fPart,fV,fC,List.getElem?_cons_zero,List.getElem?_cons_succ,getO_some,Res.bind_ok,Res.out_ok,ofO_some,partOf_int,oNeg_int,ix,oSl_tup,cutF_init,d1]
 | @up _ cs bs b _ b' _ hb z r m=>
  have hl:0 < bs.length:=by
   have:=(List.getElem?_eq_some_iff.mp hb).1
   lia
  have i1:=t_ix0 (.node cs bs) h
  have i2:=t_ix1 (.node cs bs) h
  have e1:(bs.length:Int) - 1=((bs.length - 1:Nat):Int):=by lia
  have ib:=ix_trees hb h
  have g1:relF (R_last n) [.int (w:Int),b.d] h=some (.tup [cardD c,b'.d],h):=relF_eq dt ⟨w,half,b,c,b',rfl,rfl,hh,h0,r⟩ h
  have g2:relF R_wum [.int (w:Int),.tup (cs.map cardD),.tup (bs.map T.d),.int ((bs.length - 1:Nat):Int),b'.d] h=some (t'.d,h):=relF_eq det_wum ⟨w,half,cs,bs,bs.length - 1,b',t',rfl,rfl,hh,h0,by lia,z,m⟩ h
  rw [fSeq_nx (e1:=[some (.int (w:Int)),some (T.node cs bs).d,some (.tup (cs.map cardD)),none,none,none]) (h1:=h) (fSet_ok (by rw [f2_ok (x:=(T.node cs bs).d) (h1:=h) rfl rfl,i1]; rfl))]
  rw [fSeq_nx (e1:=[some (.int (w:Int)),some (T.node cs bs).d,some (.tup (cs.map cardD)),some (.tup (bs.map T.d)),none,none]) (h1:=h) (fSet_ok (by rw [f2_ok (x:=(T.node cs bs).d) (h1:=h) rfl rfl,i2]; rfl))]
  have len:fc oLen (fAll [fV 3]) [some (.int (w:Int)),some (T.node cs bs).d,some (.tup (cs.map cardD)),some (.tup (bs.map T.d)),none,none] h=.ok (.int bs.length) h:=by
   rw [fc_ok (fAll_cons (d:=.tup (bs.map T.d)) (h1:=h) rfl rfl),oLen_tup,List.length_map]; rfl
  rw [fSeq_nx (e1:=[some (.int (w:Int)),some (T.node cs bs).d,some (.tup (cs.map cardD)),some (.tup (bs.map T.d)),none,none]) (h1:=h) (by
   rw [fIfS_f (h1:=h)]
   ·rfl
   ·refine fB_ok ?_
    rw [f2_ok len rfl,oEq_int]
    have:((bs.length:Int)==0)=false:=beq_eq_false_iff_ne.mpr (by lia)
    rw [this]; rfl)]
  rw [fSeq_nx (e1:=[some (.int (w:Int)),some (T.node cs bs).d,some (.tup (cs.map cardD)),some (.tup (bs.map T.d)),some (.int ((bs.length - 1:Nat):Int)),none]) (h1:=h) (fSet_ok (by
   rw [f2_ok len rfl,oSub_int,e1]; rfl))]
  have a0:oIx (.tup [cardD c,b'.d]) (.int 0) h=some (cardD c,h):=rfl
  have a1:oIx (.tup [cardD c,b'.d]) (.int 1) h=some (b'.d,h):=rfl
  simp only [fSeq,fSet,fRet,fc,fAll,fTup,f1,f2,fSl,fNoPart,fPart,fV,fC,List.getElem?_cons_zero,List.getElem?_cons_succ,List.set_cons_zero,List.set_cons_succ,getO_some,Res.bind_ok,Res.out_ok,ofO_some,ib,g1,a0,a1,g2]
theorem det_last:∀ n,Det (R_last n)
 | 0=>by
  rintro ds d d' ⟨w,half,t,c,t',_,_,_,_,r⟩
  cases r
 | n+1=>(runs_last_of (det_last n)).det
theorem runs_last (n:Nat):Runs (fnRun 6 (t_last_out (relF R_drawer) (relF (R_last n)) (relF R_wum))) (R_last (n+1)):=runs_last_of (det_last n)
theorem relF0 {R:List D->D->Prop} (h:∀ ds d,¬ R ds d) (ds:List D) (hh:Hh):relF R ds hh=none:=by
 unfold relF pureF
 cases e:ofR R ds with
 | none=>rfl
 | some d=>exact absurd (ofR_some e) (h ds d)
theorem cal_none {P:Program}{w:World}{K:PySem.W.Frag}{mg:Str->Option Value}{base:Heap}{x qual:Str}{st:Stmt}{f:Addr}{fd:FuncData}{ps:List Str}{k:Nat}{R:List D->D->Prop} (F:Fun K x qual st f fd) (hm:mg x=some (.ref f)) (b:Binds K fd ps []) (h:∀ ds d,¬ R ds d):
  Cal P w K mg base k x ps (relF R):=by
 refine⟨f,fd,⟨fun vs H Q E q=>q.1,?_⟩,hm,F.kp,b⟩
 rintro A outer s H args us vs Q E hr he hb hv ⟨_,as,ds,h1,_,_,p⟩
 rw [relF0 h] at p
 exact p.elim
theorem R_last0 (ds:List D) (d:D):¬ R_last 0 ds d:=by
 rintro⟨w,half,t,c,t',_,_,_,_,r⟩
 cases r
theorem last_ok {half w:Nat} (hh:half=w / 2) (h0:0 < half) (hw:w<=500):∀ (n own:Nat) (t:T),T.V half w own (n+1) t->0 < t.cs.length->
  ∃ c t',LO half (n+1) t c t'/\t.flat=t'.flat++[c]/\T.V half w (t.cs.length - 1) (n+1) t'/\t'.cs.length<=t.cs.length
 | 0,own,.node cs bs,v,hc=>by
  have hb:bs=[]:=v.leaf
  subst hb
  have hc:0 < cs.length:=hc
  have e:cs[cs.length - 1]?=some (cs[cs.length - 1]'(by lia)):=List.getElem?_eq_getElem (by lia)
  have hw:=v.hi
  refine⟨_,_,.bot e,?_,.mk ?_ ?_ (fun _=>rfl) (by lia),?_⟩
  ·rw [T.flat_node,T.flat_node,List.map_nil,inter_nil,inter_nil]
   have:=(List.dropLast_concat_getLast (l:=cs) (by intro z; rw [z] at hc; simp at hc)).symm
   rw [List.getLast_eq_getElem] at this
   exact this
  ·rw [List.length_dropLast]; exact Nat.le_refl _
  ·rw [List.length_dropLast]; simp at hw; lia
  ·simp
 | n+1,own,.node cs bs,v,hc=>by
  have hc:0 < cs.length:=hc
  have kd:=v.kids (by lia)
  simp only [T.cs_node,T.bs_node] at kd
  have hi:=v.hi
  simp only [T.cs_node] at hi
  obtain⟨b,eb⟩:∃ b,bs[bs.length - 1]?=some b:=⟨_,List.getElem?_eq_getElem (by lia)⟩
  have vb:=kd.2 b (List.mem_of_getElem? eb)
  have lb:=vb.lo
  obtain⟨c,b',r,fe,vb',lb'⟩:=last_ok hh h0 hw n half b vb (by lia)
  have dr:bs.drop (bs.length - 1+1)=[]:=List.drop_of_length_le (by lia)
  have eL:bs.take (bs.length - 1)++[b']++bs.drop (bs.length - 1+1)=bs.take (bs.length - 1)++[b']:=by rw [dr,List.append_nil]
  have ln:(bs.take (bs.length - 1)).length=cs.length:=by rw [List.length_take]; lia
  have S:Short half w n cs (bs.take (bs.length - 1)++[b']++bs.drop (bs.length - 1+1)) (bs.length - 1):=by
   rw [eL]
   refine⟨by rw [List.length_append,ln,List.length_singleton]; lia,hc,hi,by rw [List.length_append,ln,List.length_singleton],hh,h0,hw,?_,?_⟩
   ·intro i x e ne
    have hlt:i < bs.length - 1:=by
     have:=(List.getElem?_eq_some_iff.mp e).1
     simp at this
     lia
    rw [List.getElem?_append_left (by lia),List.getElem?_take_of_lt hlt] at e
    exact kd.2 x (List.mem_of_getElem? e)
   ·intro x e
    rw [List.getElem?_append_right (by lia),show bs.length - 1 - (bs.take (bs.length - 1)).length=0 by lia] at e
    cases e
    exact T.V_mono (by lia) vb'
  obtain⟨t',m,fl,vt,lt⟩:=mend_ok S
  refine⟨c,t',.up eb (by lia) r m,?_,vt,lt⟩
  rw [fl,eL,T.flat_node,T.flat_node]
  have e2:bs=bs.take (bs.length - 1)++[b]:=by
   have h1:bs.length - 1 < bs.length:=by lia
   rw [List.getElem?_eq_getElem h1] at eb
   cases eb
   have:=List.take_append_drop (bs.length - 1) bs
   rw [List.drop_eq_getElem_cons h1,dr] at this
   exact this.symm
  have e3:(bs.map T.flat)=(bs.take (bs.length - 1)).map T.flat++[b.flat]:=by
   have:=congrArg (List.map T.flat) e2
   rw [List.map_append] at this
   exact this
  have q1:=inter_app (F1:=(bs.take (bs.length - 1)).map T.flat) (C1:=cs) [b.flat] [] (by rw [List.length_map]; exact ln)
  have q2:=inter_app (F1:=(bs.take (bs.length - 1)).map T.flat) (C1:=cs) [b'.flat] [] (by rw [List.length_map]; exact ln)
  rw [List.append_nil,inter_one] at q1 q2
  rw [e3,q1,List.map_append,List.map_cons,List.map_nil,q2,fe]
  simp
noncomputable def Grow (h h':Hh):Prop:=∃ j,h'=h++j
theorem Grow.refl (h:Hh):Grow h h:=⟨[],by simp⟩
theorem Grow.app (h j:Hh):Grow h (h++j):=⟨j,rfl⟩
theorem Grow.trans {a b c:Hh} (h1:Grow a b) (h2:Grow b c):Grow a c:=by
 obtain⟨j,rfl⟩:=h1
 obtain⟨k,rfl⟩:=h2
 exact⟨j++k,by simp⟩
theorem Grow.set {a b:Hh} (h1:Grow a b) {n:Nat} (hn:a.length<=n) (o:O):Grow a (b.set n o):=by
 obtain⟨j,rfl⟩:=h1
 exact⟨j.set (n - a.length) o,by rw [List.set_append_right _ _ hn]⟩
theorem Grow.len {a b:Hh} (h1:Grow a b):a.length<=b.length:=by
 obtain⟨j,rfl⟩:=h1
 simp
theorem Grow.at' {a b:Hh} (h1:Grow a b) {n:Nat}{o:O} (e:a[n]?=some o):b[n]?=some o:=by
 obtain⟨j,rfl⟩:=h1
 rw [List.getElem?_append_left (List.getElem?_eq_some_iff.mp e).1]
 exact e
theorem at_new (h:Hh) (o:O):(h++[o])[h.length]?=some o:=by simp
theorem at_set {h:Hh}{n:Nat}{o o':O} (e:h[n]?=some o'):(h.set n o)[n]?=some o:=List.getElem?_set_self (List.getElem?_eq_some_iff.mp e).1
theorem at_set_ne {h:Hh}{n m:Nat}{o o':O} (e:h[m]?=some o') (hn:n≠m):(h.set n o)[m]?=some o':=by rw [List.getElem?_set_ne hn]; exact e
theorem Grow.app1 {a b:Hh} (h1:Grow a b) (o:O):Grow a (b++[o]):=h1.trans (.app _ _)
theorem cMul_l {i j:Int} (h1:-1000000<=i) (h2:i<=1000000):cMul i j=true:=by
 unfold cMul
 rw [Bool.or_eq_true,Bool.or_eq_true]
 exact .inl (.inl (decide_eq_true ⟨by lia,by lia⟩))
noncomputable def far (x step:Int):Int:=if 6 < x then x+step else if x < -6 then x - step else x
theorem run_far (x step:Int) (h:Hh):fnRun 2 t__law_far [.int x,.int step] h=some (.int (far x step),h):=by
 refine fnRun_rt ?_
 unfold t__law_far far
 by_cases c:6 < x
 ·refine fSeq_rt ?_
  simp [fIfS,fB,f2,fV,fC,startE,c,fRet]
 ·rw [fSeq_nx (e1:=[some (.int x),some (.int step)]) (h1:=h) (by simp [fIfS,fB,f2,fV,fC,startE,c,fNext])]
  by_cases c2:x < -6
  ·refine fSeq_rt ?_
   simp [fIfS,fB,f2,f1,fV,fC,c,c2,fRet]
  ·rw [fSeq_nx (e1:=[some (.int x),some (.int step)]) (h1:=h) (by simp [fIfS,fB,f2,f1,fV,fC,c2,fNext])]
   simp [fRet,fV,c,c2]
theorem run_reach {h:Hh}{n:Nat}{ns:List Int} (e:h[n]?=some (.lst (ns.map D.int))):∃ v o,0<=v/\fnRun 2 (t__law_reach_by (fnRun 2 t__law_at)) [.lst n] h=some (.int v,h++[o]):=by
 have m1:cMul (10 ^ 48) (10 ^ 48)=true:=by decide +kernel
 have hM:(0:Int) < 10 ^ 48*10 ^ 48:=by decide +kernel
 have h0:=Int.emod_nonneg (ns.getD 2 0) (Int.ne_of_gt hM)
 have p48:oPow (.int 10) (.int 48) h=some (.int (10 ^ 48),h):=by
  rw [oPow_int h (by decide)]; rfl
 have p30:oPow (.int 10) (.int 30) h=some (.int (10 ^ 30),h):=by
  rw [oPow_int h (by decide)]; rfl
 generalize hs:ns.getD 2 0 % (10 ^ 48*10 ^ 48)=some_ at h0
 have hi0:=Int.emod_nonneg (ns.getD 1 0 / 18) (show (5:Int)≠0 by decide)
 have hi5:=Int.emod_lt_of_pos (ns.getD 1 0 / 18) (show (0:Int) < 5 by decide)
 generalize hi:ns.getD 1 0 / 18 % 5=ix at hi0 hi5
 have hat:∃ v,0<=v/\atI [D.int (10 ^ 30),.int 0,.int 90,.int 1,.int some_] ix=some (.int v):=by
  have:ix=0\/ix=1\/ix=2\/ix=3\/ix=4:=by lia
  rcases this with rfl | rfl | rfl | rfl | rfl
  ·exact⟨10 ^ 30,by decide,rfl⟩
  ·exact⟨0,by decide,rfl⟩
  ·exact⟨90,by decide,rfl⟩
  ·exact⟨1,by decide,rfl⟩
  ·exact⟨some_,h0,rfl⟩
 obtain⟨v,hv,hat⟩:=hat
 refine⟨v,.lst [D.int (10 ^ 30),.int 0,.int 90,.int 1,.int some_],hv,fnRun_rt ?_⟩
 unfold t__law_reach_by
 have a2:=run_at (k:=2) e (by decide)
 have e':(h++[O.lst [D.int (10 ^ 30),.int 0,.int 90,.int 1,.int some_]])[n]?=some (.lst (ns.map D.int)):=by
  rw [List.getElem?_append_left (List.getElem?_eq_some_iff.mp e).1]; exact e
 have a1:=run_at (k:=1) e' (by decide)
 rw [fSeq_nx (e1:=[some (.lst n),some (.int some_)]) (h1:=h)]
 ·refine fRet_ok ?_
  rw [f2_ok (x:=.lst h.length) (h1:=h++[O.lst [D.int (10 ^ 30),.int 0,.int 90,.int 1,.int some_]]) (y:=.int ix) (h2:=h++[O.lst [D.int (10 ^ 30),.int 0,.int 90,.int 1,.int some_]])]
  ·rw [oIx_lst (ds:=[D.int (10 ^ 30),.int 0,.int 90,.int 1,.int some_]) (by simp),hat]
   rfl
  ·simp [fLst,fAll,f2,fC,fV,p30]
  ·rw [f2_ok (x:=.int (ns.getD 1 0 / 18)) (h1:=_) (y:=.int 5) (h2:=h++[O.lst [D.int (10 ^ 30),.int 0,.int 90,.int 1,.int some_]]) ?_ rfl]
   ·rw [oMod_int _ (by decide),hi]
    rfl
   ·rw [f2_ok (x:=.int (ns.getD 1 0)) (h1:=_) (y:=.int 18) (h2:=h++[O.lst [D.int (10 ^ 30),.int 0,.int 90,.int 1,.int some_]]) ?_ rfl]
    ·rw [oDiv_int _ (by decide)]
     rfl
    ·rw [fc_ok (ds:=[.lst n,.int 1]) (h1:=_) rfl,a1]
     rfl
 ·refine fSet_ok ?_
  rw [f2_ok (x:=.int (ns.getD 2 0)) (h1:=h) (y:=.int (10 ^ 48*10 ^ 48)) (h2:=h)]
  ·rw [oMod_int _ hM,hs]
   rfl
  ·rw [fc_ok (ds:=[.lst n,.int 2]) (h1:=h) rfl,a2]
   rfl
  ·rw [f2_ok (x:=.int (10 ^ 48)) (h1:=h) (y:=.int (10 ^ 48)) (h2:=h)]
   ·rw [oMul_int _ m1]
    rfl
   ·simp [f2,fC,p48]
   ·simp [f2,fC,p48]
theorem digits_len (b:Nat):∀ (f n:Nat) (acc:List Char),(Nat.toDigitsCore b f n acc).length<=f+acc.length
 | 0,n,acc=>by simp [Nat.toDigitsCore]
 | f+1,n,acc=>by
  unfold Nat.toDigitsCore
  dsimp only
  split
  ·simp; lia
  ·have:=digits_len b f (n / b) (Nat.digitChar (n % b)::acc)
   simp only [List.length_cons] at this
   lia
theorem repr_len (n:Nat):(Nat.repr n).length<=n+1:=by
 unfold Nat.repr
 rw [String.length_ofList]
 have:=digits_len 10 (n+1) n []
 simpa [Nat.toDigits] using this
theorem toString_len (x:Int):(toString x).length<=x.natAbs+2:=by
 cases x with
 | ofNat n=>
  show (Nat.repr n).length<=n+2
  have:=repr_len n
  lia
 | negSucc n=>
  show ("-"++Nat.repr (n+1)).length<=_
  rw [String.length_append]
  have:=repr_len (n+1)
  show 1+_<=n+1+2
  lia
theorem sz1000' {n:Nat} (h:n<=1000000):n<=sizeLine:=Nat.le_trans h (by decide)
theorem ofString_len (s:String):(Str.ofString s).length=s.length:=by
 rw [Str.ofString_eq_toList]
 show ((s.toList.map Char.toNat).toArray).size=_
 rw [List.size_toArray,List.length_map]
 first | rfl | exact String.length_toList | exact (String.length_toList ..) | exact String.toList_length _
theorem str_len (a b:Str):(a++b).length=a.length+b.length:=Array.size_append
theorem fApp_ok {f g:FE}{e:En}{h h2:Hh}{n:Nat}{o:List D}{xs:List D}{d:D} (q:f e h=.ok (.lst n) h) (q0:h[n]?=some (.lst o)) (q1:g e h=.ok d h2) (q2:h2[n]?=some (.lst xs)) (c:xs.length<=100000):fDrop (fM oAppend f [g]) e h=.nx e (h2.set n (.lst (xs++[d]))):=by
 refine fDrop_ok (d:=.non) ?_
 unfold fM
 rw [q,Res.bind_ok,if_pos (show lstOk (.lst n) h=true from (show (itemsAt h n).isSome=true by rw [itemsAt_of q0]; rfl)),fAll_cons q1 rfl,Res.bind_ok,oAppend_lst d q2 (Nat.lt_of_lt_of_le (show xs.length < 1000000 by lia) (by decide))]
 rfl
theorem fAll1 {f:FE}{e:En}{h h1:Hh}{d:D} (q:f e h=.ok d h1):fAll [f] e h=.ok [d] h1:=fAll_cons q rfl
theorem fAll2 {f g:FE}{e:En}{h h1 h2:Hh}{d d2:D} (q:f e h=.ok d h1) (q2:g e h1=.ok d2 h2):fAll [f,g] e h=.ok [d,d2] h2:=fAll_cons q (fAll1 q2)
theorem add_ok {f g:FE}{e:En}{h:Hh}{x y:Int} (q:f e h=.ok (.int x) h) (q2:g e h=.ok (.int y) h):f2 oAdd f g e h=.ok (.int (x+y)) h:=by
 rw [f2_ok q q2]; rfl
theorem sub_ok {f g:FE}{e:En}{h:Hh}{x y:Int} (q:f e h=.ok (.int x) h) (q2:g e h=.ok (.int y) h):f2 oSub f g e h=.ok (.int (x - y)) h:=by
 rw [f2_ok q q2]; rfl
theorem mod_ok {f g:FE}{e:En}{h:Hh}{x y:Int} (q:f e h=.ok (.int x) h) (q2:g e h=.ok (.int y) h) (c:0 < y):f2 oMod f g e h=.ok (.int (x % y)) h:=by
 rw [f2_ok q q2,oMod_int _ c]; rfl
theorem div_ok {f g:FE}{e:En}{h:Hh}{x y:Int} (q:f e h=.ok (.int x) h) (q2:g e h=.ok (.int y) h) (c:0 < y/\y < 1073741824):f2 oDiv f g e h=.ok (.int (x / y)) h:=by
 rw [f2_ok q q2,oDiv_int _ c]; rfl
structure Rows (h:Hh) (f:Nat) (hs:List Nat) (rows:List (List Nat)):Prop where
 out:h[f]?=some (.lst (hs.map D.lst))
 len:hs.length=rows.length
 row:∀ (i n:Nat) (r:List Nat),hs[i]?=some n->rows[i]?=some r->h[n]?=some (.lst (r.map fun (k:Nat)=>D.int k))
theorem Rows.get {h:Hh}{f:Nat}{hs:List Nat}{rows:List (List Nat)} (R:Rows h f hs rows) {i:Nat}{r:List Nat} (e:rows[i]?=some r):∃ n,hs[i]?=some n/\h[n]?=some (.lst (r.map fun (k:Nat)=>D.int k)):=by
 have hi:i < hs.length:=by rw [R.len]; exact (List.getElem?_eq_some_iff.mp e).1
 exact⟨hs[i],List.getElem?_eq_getElem hi,R.row i _ r (List.getElem?_eq_getElem hi) e⟩
structure FR (w half L:Nat) (rows:List (List Nat)):Prop where
 len:rows.length=L
 lo:1<=L
 hi:L<=3
 hi5:5 < w->L<=2
 head:∃ x,rows[0]?=some [x]/\x<=w/\(1 < L->1<=x/\x<=5/\(5 < w->x<=3))
 next:∀ i r r',rows[i]?=some r->rows[i+1]?=some r'->r'.length=r.sum+r.length
 ent:∀ i r,0 < i->rows[i]?=some r->∀ x∈r,half<=x/\x<=w
theorem sum_le {w:Nat}:∀ {r:List Nat},(∀ x∈r,x<=w)->r.sum<=r.length*w
 | [],_=>by simp
 | a::r,h=>by
  have:=sum_le (r:=r) fun x hx=>h x (List.mem_cons_of_mem _ hx)
  have:=h a List.mem_cons_self
  simp only [List.sum_cons,List.length_cons,Nat.add_mul,Nat.one_mul]
  lia
theorem FR.small {w half L:Nat}{rows:List (List Nat)} (F:FR w half L rows) (hw:w<=35) {i:Nat}{r:List Nat} (e:rows[i]?=some r):r.length+r.sum<=300:=by
 obtain⟨x,hx,xw,xs⟩:=F.head
 have hL:=F.len
 have h3:=F.hi
 have h5:=F.hi5
 have hi:i < rows.length:=(List.getElem?_eq_some_iff.mp e).1
 have b1:∀ r1,rows[1]?=some r1->r1.length<=6/\(5 < w->r1.length<=4)/\r1.sum<=r1.length*w:=fun r1 e1=>by
  have l1:=F.next 0 _ _ hx e1
  have:=(List.getElem?_eq_some_iff.mp e1).1
  have:=xs (by lia)
  simp at l1
  exact⟨by lia,fun z=>by have:=this.2.2 z; lia,sum_le fun y hy=>(F.ent 1 r1 (by lia) e1 y hy).2⟩
 have hi3:i=0\/i=1\/i=2:=by lia
 rcases hi3 with rfl | rfl | rfl
 ·rw [hx] at e
  cases e
  simp
  lia
 ·obtain⟨a,b,c⟩:=b1 r e
  by_cases z:5 < w
  ·have:=b z
   have:r.length*w<=4*35:=Nat.mul_le_mul this hw
   lia
  ·have:r.length*w<=6*5:=Nat.mul_le_mul a (by lia)
   lia
 ·have z:¬ 5 < w:=fun z=>by have:=h5 z; lia
  obtain⟨r1,e1⟩:∃ r1,rows[1]?=some r1:=⟨_,List.getElem?_eq_getElem (by lia)⟩
  obtain⟨a,b,c⟩:=b1 r1 e1
  have l2:=F.next 1 _ _ e1 e
  have:r1.length*w<=6*5:=Nat.mul_le_mul a (by lia)
  have k:=sum_le (w:=w) (r:=r) fun y hy=>(F.ent 2 r (by lia) e y hy).2
  have:r.length*w<=36*5:=Nat.mul_le_mul (by lia) (by lia)
  lia
theorem at_call {e:En}{h:Hh}{n:Nat}{ns:List Int}{g:FE}{k:Nat} (q0:e[0]?=some (some (.lst n))) (q:h[n]?=some (.lst (ns.map D.int))) (qg:g e h=.ok (.int k) h):fc (fnRun 2 t__law_at) (fAll [fV 0,g]) e h=.ok (.int (ns.getD k 0)) h:=by
 rw [fc_ok (fAll2 (fV_ok q0 h) qg),run_at q (by lia),Int.toNat_natCast]
 rfl
theorem Rows.snoc {h:Hh}{f:Nat}{hs:List Nat}{rows:List (List Nat)} (R:Rows h f hs rows) {m:Nat}{r:List Nat} (hr:h[m]?=some (.lst (r.map fun (k:Nat)=>D.int k))) (hne:∀ x∈hs,x≠f) (hm:m≠f):
  Rows (h.set f (.lst (hs.map D.lst++[.lst m]))) f (hs++[m]) (rows++[r]):=by
 refine⟨by rw [at_set R.out]; simp,by simp [R.len],?_⟩
 intro i n q e1 e2
 by_cases hi:i < hs.length
 ·rw [List.getElem?_append_left hi] at e1
  rw [List.getElem?_append_left (by rw [<-R.len]; exact hi)] at e2
  exact at_set_ne (R.row i n q e1 e2) (fun z=>hne n (List.mem_of_getElem? e1) z.symm)
 ·rw [List.getElem?_append_right (by lia)] at e1
  rw [List.getElem?_append_right (by rw [<-R.len]; lia),<-R.len] at e2
  cases hj:i - hs.length with
  | zero=>
   rw [hj] at e1 e2
   cases e1
   cases e2
   exact at_set_ne hr (fun z=>hm z.symm)
  | succ j=>rw [hj] at e1; simp at e1
theorem Rows.last {h:Hh}{f:Nat}{hs:List Nat}{rows:List (List Nat)} (R:Rows h f hs rows) {j:Nat} (hl:rows.length=j+1):∃ m r,rows[j]?=some r/\h[m]?=some (.lst (r.map fun (k:Nat)=>D.int k))/\oIx (.lst f) (.int (-1)) h=some (.lst m,h):=by
 obtain⟨r,er⟩:∃ r,rows[j]?=some r:=⟨_,List.getElem?_eq_getElem (by lia)⟩
 obtain⟨m,e1,e2⟩:=R.get er
 refine⟨m,r,er,e2,?_⟩
 rw [oIx_lst R.out,atI_neg1,List.length_map,R.len,hl,Nat.add_sub_cancel,List.getElem?_map,e1]
 rfl
theorem FR.snoc {w half L j:Nat}{rows:List (List Nat)}{r row:List Nat} (F:FR w half (j+1) rows) (hj:j+2<=L) (hL:L<=3) (h5:5 < w->L<=2) (er:rows[j]?=some r) (hl:row.length=r.sum+r.length) (he:∀ x∈row,half<=x/\x<=w)
  (S:∃ x,rows[0]?=some [x]/\x<=w/\1<=x/\x<=5/\(5 < w->x<=3)):FR w half (j+2) (rows++[row]):=by
 have hlen:=F.len
 obtain⟨x,hx,s⟩:=S
 refine⟨by simp [hlen],by lia,by lia,fun z=>by have:=h5 z; lia,⟨x,?_,s.1,fun _=>s.2⟩,?_,?_⟩
 ·rw [List.getElem?_append_left (by lia)]; exact hx
 ·intro i a b e1 e2
  by_cases hi:i+1 < rows.length
  ·rw [List.getElem?_append_left (by lia)] at e1
   rw [List.getElem?_append_left hi] at e2
   exact F.next i a b e1 e2
  ·have hlt:=(List.getElem?_eq_some_iff.mp e2).1
   simp at hlt
   have:i=j:=by lia
   subst this
   rw [List.getElem?_append_left (by lia),er] at e1
   rw [List.getElem?_append_right (by lia),show i+1 - rows.length=0 by lia] at e2
   cases e1
   cases e2
   exact hl
 ·intro i a h0 e1 y hy
  by_cases hi:i < rows.length
  ·rw [List.getElem?_append_left hi] at e1
   exact F.ent i a h0 e1 y hy
  ·have hlt:=(List.getElem?_eq_some_iff.mp e1).1
   simp at hlt
   rw [List.getElem?_append_right (by lia),show i - rows.length=0 by lia] at e1
   cases e1
   exact he y hy
section
variable {h:Hh}{n:Nat}{ns:List Int}{w L half f:Nat}
end
noncomputable def pairs:List T->List Card->List Card
 | t::ts,m::ms=>t.flat++m::pairs ts ms
 | _,_=>[]
structure Lv (half w n:Nat) (r:List Nat) (ts:List T) (ms:List Card):Prop where
 lt:ts.length=r.length
 lm:ms.length=r.length
 ok:∀ (i:Nat) (t:T) (x:Nat),ts[i]?=some t->r[i]?=some x->T.V half w x n t/\t.cs.length=x
theorem Lv.snoc {half w n:Nat}{r:List Nat}{ts:List T}{ms:List Card} (l:Lv half w n r ts ms) {t:T}{m:Card}{x:Nat} (h:T.V half w x n t/\t.cs.length=x):Lv half w n (r++[x]) (ts++[t]) (ms++[m]):=by
 refine⟨by simp [l.lt],by simp [l.lm],?_⟩
 intro i t' x' e1 e2
 have hl:=l.lt
 by_cases hi:i < ts.length
 ·rw [List.getElem?_append_left hi] at e1
  rw [List.getElem?_append_left (by lia)] at e2
  exact l.ok i t' x' e1 e2
 ·rw [List.getElem?_append_right (by lia)] at e1
  rw [List.getElem?_append_right (by lia),<-hl] at e2
  cases hj:i - ts.length with
  | zero=>rw [hj] at e1 e2; cases e1; cases e2; exact h
  | succ j=>rw [hj] at e1; simp at e1
section
variable {h:Hh}{f:Nat}{first step:Int}{half w:Nat}{r:List Nat}{dh mh:Nat}
end
theorem held_ix (t:T) (h:Hh):oIx t.d (.int 2) h=some (.int (heldOf t.d),h):=by
 cases t; rw [T.d_node]; rfl
section
variable {h:Hh}{f:Nat}{first step:Int}{half w n:Nat}{r r0:List Nat}{dh mh kh lh:Nat}{ts:List T}{ms:List Card}{z3 z7 z8:Option D}
end
section
variable {h:Hh}{f:Nat}{hs:List Nat}{rows:List (List Nat)}{first step:Int}{half w L N:Nat}
end
theorem fExt_ok {f g:FE}{e:En}{h h2:Hh}{n m:Nat}{o xs ys:List D} (q:f e h=.ok (.lst n) h) (q0:h[n]?=some (.lst o)) (q1:g e h=.ok (.lst m) h2) (q2:h2[n]?=some (.lst xs)) (q3:h2[m]?=some (.lst ys)) (c:xs.length+ys.length<=100000):fDrop (fM oExtend f [g]) e h=.nx e (h2.set n (.lst (xs++ys))):=by
 refine fDrop_ok (d:=.non) ?_
 unfold fM
 rw [q,Res.bind_ok,if_pos (show lstOk (.lst n) h=true from (show (itemsAt h n).isSome=true by rw [itemsAt_of q0]; rfl)),fAll1 q1,Res.bind_ok,oExtend_lst q2 q3 (sz1000 c)]
 rfl
section
variable {h:Hh}{dh mh u c least w half n:Nat}{ts:List T}{ms:List Card}
end
section
variable {h:Hh}{dh mh least w half n:Nat}{ts:List T}{ms:List Card}
end
theorem held_sum {least w n:Nat}:∀ {bs:List T},(∀ b∈bs,heldOf b.d=b.flat.length)->(bs.map fun b=>heldOf b.d).sum=((bs.map fun b=>b.flat.length).sum:Nat)
 | [],_=>rfl
 | b::r,h=>by
  have:=held_sum (least:=least) (w:=w) (n:=n) (bs:=r) fun x hx=>h x (List.mem_cons_of_mem _ hx)
  simp only [List.map_cons,List.sum_cons,this,h b List.mem_cons_self]
  lia
theorem inter_count:∀ (fs:List (List Card)) (cs:List Card),(T.inter fs cs).length=(fs.map List.length).sum+cs.length
 | [],cs=>by rw [inter_nil]; simp
 | f::r,[]=>by
  have:=inter_count r []
  simp only [T.inter,List.length_append,this,List.map_cons,List.sum_cons,List.length_nil]
  lia
 | f::r,c::cs=>by
  have:=inter_count r cs
  simp only [T.inter,List.length_append,List.length_cons,this,List.map_cons,List.sum_cons]
  lia
theorem T.V.held {least w:Nat}:∀ {n own:Nat}{t:T},T.V least w own n t->heldOf t.d=t.flat.length
 | 0,_,_,v=>v.elim
 | n+1,own,.node cs bs,v=>by
  have ih:∀ b∈bs,heldOf b.d=b.flat.length:=fun b hb=>by
   cases n with
   | zero=>rw [show bs=[] from v.leaf] at hb; exact nomatch hb
   | succ n=>exact T.V.held ((v.kids (by lia)).2 b hb)
  rw [T.flat_node,inter_count,T.d_node]
  have:=held_sum (least:=least) (w:=w) (n:=n) ih
  show ((cs.map cardD).length:Int)+((bs.map T.d).map heldOf).sum=_
  simp only [List.map_map,Function.comp_def,List.length_map] at this |-
  rw [this]
  lia
theorem LO.mono {half:Nat}{n:Nat}{t:T}{c:Card}{t':T} (r:LO half n t c t'):LO half (n+1) t c t':=by
 induction r with
 | bot e=>exact .bot e
 | up hb z _ m ih=>exact .up hb z ih m
noncomputable def placeC (cs:List Card) (x:Int):Nat:=(cs.takeWhile fun p=>decide (p.1 < x)).length
theorem placeC_le (cs:List Card) (x:Int):placeC cs x<=cs.length:=by
 unfold placeC
 exact (List.takeWhile_sublist _).length_le
@[simp] theorem placeC_nil (x:Int):placeC [] x=0:=rfl
theorem placeC_cons (c:Card) (cs:List Card) (x:Int):placeC (c::cs) x=if c.1 < x then placeC cs x+1 else 0:=by
 unfold placeC
 rw [List.takeWhile_cons]
 by_cases hc:c.1 < x<;>simp [hc]
theorem placeC_lt {cs:List Card}{x:Int}{k:Nat}{p:Card} (h:k < placeC cs x) (e:cs[k]?=some p):p.1 < x:=by
 induction cs generalizing k with
 | nil=>simp at e
 | cons c r ih=>
  rw [placeC_cons] at h
  by_cases hc:c.1 < x
  ·rw [if_pos hc] at h
   cases k with
   | zero=>
    simp only [List.getElem?_cons_zero,Option.some.injEq] at e
    subst e
    exact hc
   | succ k=>
    simp only [List.getElem?_cons_succ] at e
    exact ih (by lia) e
  ·rw [if_neg hc] at h
   lia
theorem placeC_ge {cs:List Card}{x:Int}{p:Card} (e:cs[placeC cs x]?=some p):¬ p.1 < x:=by
 induction cs with
 | nil=>simp at e
 | cons c r ih=>
  rw [placeC_cons] at e
  by_cases hc:c.1 < x
  ·rw [if_pos hc,List.getElem?_cons_succ] at e
   exact ih e
  ·rw [if_neg hc,List.getElem?_cons_zero,Option.some.injEq] at e
   subst e
   exact hc
noncomputable def R_place (ds:List D) (d:D):Prop:=∃ (cs:List Card) (x:Int),ds=[.tup (cs.map cardD),.int x]/\d=.int (placeC cs x)/\cs.length<=1000
theorem runs_place:Runs (fnRun 3 t_place_of) R_place:=by
 rintro ds d ⟨cs,x,rfl,rfl,hl⟩
 refine⟨.int _,fun h=>⟨[],fnRun_rt ?_⟩⟩
 rw [List.append_nil]
 unfold t_place_of
 rw [fSeq_nx (fSet_ok rfl)]
 have loop:=fWhile_ex (c:=fAnd (fB (f2 oLt (fV 2) (fc oLen (fAll [fV 0])))) (fB (f2 oLt (f2 oIx (f2 oIx (fV 0) (fV 2)) (fC (.int 0))) (fV 1)))) (t:=fSet 2 (f2 oAdd (fV 2) (fC (.int 1))))
  (P:=fun e h'=>h'=h/\∃ k:Nat,k<=placeC cs x/\e=[some (.tup (cs.map cardD)),some (.int x),some (.int k)])
  (R:=fun e h'=>h'=h/\e=[some (.tup (cs.map cardD)),some (.int x),some (.int (placeC cs x))])
  (μ:=fun e _=>match e with | [_,_,some (.int k)]=>cs.length - k.toNat | _=>0) ?_ 2000 ((startE 3 [.tup (cs.map cardD),.int x]).set 2 (some (.int 0))) h ⟨rfl,0,Nat.zero_le _,rfl⟩ ?_
 ·obtain⟨e',h',q,rfl,rfl⟩:=loop
  rw [fSeq_nx q]
  exact fRet_ok rfl
 ·rintro e h' ⟨rfl,k,hk,rfl⟩
  have hle:=placeC_le cs x
  by_cases hlt:k < placeC cs x
  ·right
   have hk':k < cs.length:=by lia
   have e1:cs[k]?=some cs[k]:=List.getElem?_eq_getElem hk'
   have e2:=placeC_lt hlt e1
   refine⟨h',[some (.tup (cs.map cardD)),some (.int x),some (.int (k+1))],h',?_,?_,⟨rfl,k+1,by lia,by simp⟩,?_⟩
   ·simp [fAnd,fB,f2,fV,fc,fAll,fC,cardD,e1,hk',e2,atI_pos]
   ·simp [fSet,f2,fV,fC]
   ·simp
    lia
  ·left
   have hk':k=placeC cs x:=by lia
   refine⟨h',?_,rfl,by rw [hk']⟩
   by_cases hk2:k < cs.length
   ·have e1:cs[k]?=some cs[k]:=List.getElem?_eq_getElem hk2
    have e2:=placeC_ge (cs:=cs) (x:=x) (p:=cs[k]) (by rw [<-hk']; exact e1)
    simp [fAnd,fB,f2,fV,fc,fAll,fC,cardD,e1,hk2,e2,atI_pos]
   ·simp [fAnd,fB,f2,fV,fc,fAll,fC,cardD,hk2]
 ·show cs.length - (0:Int).toNat < 2000
  lia
theorem det_place:Det R_place:=runs_place.det
noncomputable def atC (cs:List Card) (p:Nat) (x:Int):Bool:=match cs[p]? with
 | some c=>decide (c.1=x)
 | none=>false
theorem run_isat (cs:List Card) (p:Nat) (x:Int) (h:Hh):fnRun 3 t_is_at [.tup (cs.map cardD),.int p,.int x] h=some (.bl (atC cs p x),h):=by
 refine fnRun_rt ?_
 unfold t_is_at
 by_cases hk2:p < cs.length
 ·have e1:cs[p]?=some cs[p]:=List.getElem?_eq_getElem hk2
  simp [fSeq,fSet,fRet,fDrop,fIfS,fB,f1,f2,fc,fAll,fTup,fLst,fC,fV,fAnd,fOr,fNot,fAndV,fOrV,fSl,fNoPart,fPart,fNext,startE,getO_some,asB_bl,ofO_some,Res.bind_ok,Res.out_ok,atC,cardD,e1,hk2,atI_pos]
  rfl
 ·have e1:cs[p]?=none:=List.getElem?_eq_none (by lia)
  simp [fSeq,fSet,fRet,fDrop,fIfS,fB,f1,f2,fc,fAll,fTup,fLst,fC,fV,fAnd,fOr,fNot,fAndV,fOrV,fSl,fNoPart,fPart,fNext,startE,getO_some,asB_bl,ofO_some,Res.bind_ok,Res.out_ok,atC,hk2,e1]
theorem empty_no {e:En}{h:Hh}{i:Nat}{ds:List D} (q:e[i]?=some (some (.tup ds))) (n:0 < ds.length):fB (f2 oEq (fc oLen (fAll [fV i])) (fC (.int 0))) e h=.ok false h:=by
 refine fB_ok ?_
 rw [f2_ok (x:=.int ds.length) (h1:=h) (by rw [fc_ok (fAll1 (fV_ok q h))]; rfl) (fC_ok _ _ _),oEq_int,show ((ds.length:Int)==0)=false by
  rw [beq_eq_false_iff_ne]
  lia]
 rfl
noncomputable def okLo (lo:Option Int) (c:Card):Bool:=match lo with
 | none=>true
 | some l=>decide (l<=c.1)
noncomputable def okHi (hi:Option Int) (c:Card):Bool:=match hi with
 | none=>true
 | some l=>decide (c.1<=l)
noncomputable def okC (lo hi:Option Int) (c:Card):Bool:=okLo lo c&&okHi hi c
noncomputable def stC (lo:Option Int) (cs:List Card):Nat:=match lo with
 | none=>0
 | some l=>placeC cs l
noncomputable def enC (hi:Option Int) (cs:List Card):Nat:=match hi with
 | none=>cs.length
 | some l=>placeC cs (l+1)
theorem stC_le (lo:Option Int) (cs:List Card):stC lo cs<=cs.length:=by
 cases lo with
 | none=>exact Nat.zero_le _
 | some l=>exact placeC_le _ _
theorem enC_le (hi:Option Int) (cs:List Card):enC hi cs<=cs.length:=by
 cases hi with
 | none=>exact Nat.le_refl _
 | some l=>exact placeC_le _ _
theorem stC_cons (lo:Option Int) (c:Card) (cs:List Card):stC lo (c::cs)=if okLo lo c=true then 0 else stC lo cs+1:=by
 cases lo with
 | none=>simp [stC,okLo]
 | some l=>
  simp only [stC,okLo,placeC_cons,decide_eq_true_eq]
  by_cases h:c.1 < l
  ·rw [if_pos h,if_neg (by lia)]
  ·rw [if_neg h,if_pos (by lia)]
theorem enC_cons (hi:Option Int) (c:Card) (cs:List Card):enC hi (c::cs)=if okHi hi c=true then enC hi cs+1 else 0:=by
 cases hi with
 | none=>simp [enC,okHi]
 | some l=>
  simp only [enC,okHi,placeC_cons,decide_eq_true_eq]
  by_cases h:c.1 < l+1
  ·rw [if_pos h,if_pos (by lia)]
  ·rw [if_neg h,if_neg (by lia)]
noncomputable abbrev Srt (l:List Card):Prop:=l.Pairwise fun a b=>a.1 < b.1
theorem okLo_up {lo:Option Int}{a b:Card} (h:a.1 < b.1) (k:okLo lo a=true):okLo lo b=true:=by
 cases lo with
 | none=>rfl
 | some l=>simp only [okLo,decide_eq_true_eq] at *; lia
theorem okHi_dn {hi:Option Int}{a b:Card} (h:a.1 < b.1) (k:okHi hi b=true):okHi hi a=true:=by
 cases hi with
 | none=>rfl
 | some l=>simp only [okHi,decide_eq_true_eq] at *; lia
noncomputable def outK (lo hi:Option Int) (fs:List (List Card)) (cs:List Card) (s k:Nat):List Card:=(List.range k).flatMap fun i=>(fs.getD (s+i) []).filter (okC lo hi)++[cs.getD (s+i) (0,Str.ofString "")]
theorem outK_succ (lo hi:Option Int) (fs:List (List Card)) (cs:List Card) (s k:Nat):outK lo hi fs cs s (k+1)=outK lo hi fs cs s k++((fs.getD (s+k) []).filter (okC lo hi)++[cs.getD (s+k) (0,Str.ofString "")]):=by
 unfold outK
 rw [List.range_succ,List.flatMap_append]
 simp
theorem outK_cons (lo hi:Option Int) (f:List Card) (fs:List (List Card)) (c:Card) (cs:List Card) (s k:Nat):outK lo hi (f::fs) (c::cs) (s+1) k=outK lo hi fs cs s k:=by
 unfold outK
 congr 1
 funext i
 rw [show s+1+i=(s+i)+1 by lia,List.getD_cons_succ,List.getD_cons_succ]
theorem outK_zero (lo hi:Option Int) (f:List Card) (fs:List (List Card)) (c:Card) (cs:List Card) (k:Nat):outK lo hi (f::fs) (c::cs) 0 (k+1)=f.filter (okC lo hi)++c::outK lo hi fs cs 0 k:=by
 unfold outK
 rw [List.range_succ_eq_map,List.flatMap_cons,List.flatMap_map]
 simp only [Nat.zero_add,List.getD_cons_zero,List.append_assoc,List.cons_append,List.nil_append]
 congr 2
theorem filter_none {α:Type}{p:α->Bool}{l:List α} (h:∀ x∈l,p x=false):l.filter p=[]:=by
 rw [List.filter_eq_nil_iff]
 intro x hx
 rw [h x hx]
 decide
theorem srt_head {f:List Card}{c:Card}{r:List Card} (s:Srt (f++c::r)):(∀ x∈f,x.1 < c.1)/\(∀ x∈r,c.1 < x.1)/\Srt r:=by
 rw [Srt,List.pairwise_append] at s
 obtain⟨s1,s2,s3⟩:=s
 rw [List.pairwise_cons] at s2
 exact⟨fun x hx=>s3 x hx c (by simp),s2.1,s2.2⟩
theorem okC_f1 {lo hi:Option Int}{c:Card} (h:okLo lo c=false):okC lo hi c=false:=by rw [okC,h]; rfl
theorem okC_f2 {lo hi:Option Int}{c:Card} (h:okHi hi c=false):okC lo hi c=false:=by rw [okC,h,Bool.and_false]
theorem between_spec (lo hi:Option Int):∀ (cs:List Card) (fs:List (List Card)),fs.length=cs.length+1->Srt (T.inter fs cs)->
  outK lo hi fs cs (stC lo cs) (enC hi cs - stC lo cs)++(fs.getD (enC hi cs) []).filter (okC lo hi)=(T.inter fs cs).filter (okC lo hi)
 | [],fs,hl,_=>by
  match fs,hl with
  | [f],_=>
   have e1:stC lo []=0:=by have:=stC_le lo []; simpa using this
   have e2:enC hi []=0:=by have:=enC_le hi []; simpa using this
   rw [e1,e2]
   simp [outK,T.inter]
 | c::cs,fs,hl,s=>by
  match fs,hl with
  | f::fs,hl=>
   have hl':fs.length=cs.length+1:=by simpa using hl
   rw [T.inter] at s |-
   obtain⟨h1,h2,h3⟩:=srt_head s
   have ih:=between_spec lo hi cs fs hl' h3
   rw [List.filter_append,List.filter_cons,stC_cons,enC_cons]
   have up:∀ x∈f,okLo lo c=false->okLo lo x=false:=fun x hx k=>by
    cases e:okLo lo x with
    | false=>rfl
    | true=>rw [okLo_up (h1 x hx) e] at k; cases k
   cases kl:okLo lo c with
   | false=>
    rw [okC_f1 kl,filter_none fun x hx=>okC_f1 (up x hx kl),List.nil_append]
    simp only [Bool.false_eq_true,if_false]
    cases kh:okHi hi c with
    | true=>
     simp only [if_true]
     rw [<-ih,outK_cons,List.getD_cons_succ,show enC hi cs+1 - (stC lo cs+1)=enC hi cs - stC lo cs by lia]
    | false=>
     simp only [Bool.false_eq_true,if_false,Nat.zero_sub,List.getD_cons_zero]
     rw [filter_none fun x hx=>okC_f1 (up x hx kl),filter_none fun x hx=>okC_f2 (by
      cases e:okHi hi x with
      | false=>rfl
      | true=>rw [okHi_dn (h2 x hx) e] at kh; cases kh)]
     simp [outK]
   | true=>
    simp only [if_true]
    cases kh:okHi hi c with
    | false=>
     simp only [Bool.false_eq_true,if_false,Nat.zero_sub,List.getD_cons_zero]
     rw [okC_f2 kh,filter_none (l:=T.inter fs cs) fun x hx=>okC_f2 (by
      cases e:okHi hi x with
      | false=>rfl
      | true=>rw [okHi_dn (h2 x hx) e] at kh; cases kh)]
     simp [outK]
    | true=>
     have z:stC lo cs=0:=by
      cases cs with
      | nil=>have:=stC_le lo []; simpa using this
      | cons c2 cs2=>
       rw [stC_cons,if_pos]
       match fs,hl' with
       | f2::fs2,_=>
        exact okLo_up (h2 c2 (by rw [T.inter]; simp)) kl
     rw [z,Nat.sub_zero] at ih
     simp only [if_true,Nat.sub_zero,List.getD_cons_succ]
     rw [show okC lo hi c=true by rw [okC,kl,kh]; rfl,outK_zero,if_pos rfl,<-ih,List.append_assoc,List.cons_append]
theorem inter_sub:∀ (fs:List (List Card)) (cs:List Card) (f:List Card),f∈fs->f.Sublist (T.inter fs cs)
 | [],_,f,h=>nomatch h
 | f0::fs,[],f,h=>by
  rw [T.inter]
  rcases List.mem_cons.mp h with rfl | h
  ·exact List.sublist_append_left _ _
  ·exact (inter_sub fs [] f h).trans (List.sublist_append_right _ _)
 | f0::fs,c::cs,f,h=>by
  rw [T.inter]
  rcases List.mem_cons.mp h with rfl | h
  ·exact List.sublist_append_left _ _
  ·exact ((inter_sub fs cs f h).trans (List.sublist_cons_self _ _)).trans (List.sublist_append_right _ _)
theorem srt_below {cs:List Card}{bs:List T} (s:Srt (T.node cs bs).flat) {b:T} (hb:b∈bs):Srt b.flat:=by
 rw [T.flat_node] at s
 exact s.sublist (inter_sub _ _ _ (List.mem_map_of_mem hb))
noncomputable def findC (l:List Card) (x:Int):Option Card:=l.find? fun c=>decide (c.1=x)
theorem findC_app (a b:List Card) (x:Int):findC (a++b) x=(findC a x).or (findC b x):=by unfold findC; exact List.find?_append
theorem findC_none {l:List Card}{x:Int} (h:∀ c∈l,c.1≠x):findC l x=none:=by
 unfold findC
 rw [List.find?_eq_none]
 intro c hc
 simpa using h c hc
theorem findC_cons (c:Card) (l:List Card) (x:Int):findC (c::l) x=if c.1=x then some c else findC l x:=by
 unfold findC
 rw [List.find?_cons]
 by_cases h:c.1=x<;>simp [h]
theorem atC_cons (c:Card) (cs:List Card) (p:Nat) (x:Int):atC (c::cs) (p+1) x=atC cs p x:=by simp [atC]
theorem note_spec (x:Int):∀ (cs:List Card) (fs:List (List Card)),fs.length=cs.length+1->Srt (T.inter fs cs)->
  findC (T.inter fs cs) x=if atC cs (placeC cs x) x=true then cs[placeC cs x]? else findC (fs.getD (placeC cs x) []) x
 | [],fs,hl,_=>by
  match fs,hl with
  | [f],_=>simp [T.inter,atC]
 | c::cs,fs,hl,s=>by
  match fs,hl with
  | f::fs,hl=>
   have hl':fs.length=cs.length+1:=by simpa using hl
   rw [T.inter] at s |-
   obtain⟨h1,h2,h3⟩:=srt_head s
   have ih:=note_spec x cs fs hl' h3
   rw [findC_app,findC_cons,placeC_cons]
   by_cases c1:c.1 < x
   ·rw [if_pos c1,atC_cons,List.getElem?_cons_succ,List.getD_cons_succ,<-ih,if_neg (by lia),findC_none fun y hy=>by have:=h1 y hy; lia]
    rfl
   ·rw [if_neg c1]
    by_cases c2:c.1=x
    ·rw [if_pos c2,findC_none fun y hy=>by have:=h1 y hy; lia]
     simp [atC,c2]
    ·rw [if_neg c2,findC_none (l:=T.inter fs cs) fun y hy=>by have:=h2 y hy; lia]
     simp [atC,c2]
theorem note_bot {cs:List Card}{x:Int} (s:Srt cs):findC cs x=if atC cs (placeC cs x) x=true then cs[placeC cs x]? else none:=by
 induction cs with
 | nil=>simp [findC,atC]
 | cons c cs ih=>
  rw [Srt,List.pairwise_cons] at s
  rw [findC_cons,placeC_cons]
  by_cases c1:c.1 < x
  ·rw [if_pos c1,atC_cons,List.getElem?_cons_succ,<-ih s.2,if_neg (by lia)]
  ·rw [if_neg c1]
   by_cases c2:c.1=x
   ·simp [atC,c2]
   ·rw [if_neg c2,findC_none fun y hy=>by have:=s.1 y hy; lia]
    simp [atC,c2]
noncomputable def ltC (l:List Card) (x:Int):Nat:=(l.filter fun c=>decide (c.1 < x)).length
theorem ltC_app (a b:List Card) (x:Int):ltC (a++b) x=ltC a x+ltC b x:=by unfold ltC; rw [List.filter_append,List.length_append]
theorem ltC_cons (c:Card) (l:List Card) (x:Int):ltC (c::l) x=(if c.1 < x then 1 else 0)+ltC l x:=by
 unfold ltC
 rw [List.filter_cons]
 by_cases h:c.1 < x<;>simp [h]
 lia
theorem ltC_all {l:List Card}{x:Int} (h:∀ c∈l,c.1 < x):ltC l x=l.length:=by
 unfold ltC
 rw [List.filter_eq_self.mpr]
 intro c hc
 simpa using h c hc
theorem ltC_no {l:List Card}{x:Int} (h:∀ c∈l,¬ c.1 < x):ltC l x=0:=by
 unfold ltC
 rw [filter_none fun c hc=>by simpa using h c hc]
 rfl
theorem rank_spec (x:Int):∀ (cs:List Card) (fs:List (List Card)),fs.length=cs.length+1->Srt (T.inter fs cs)->
  ltC (T.inter fs cs) x=placeC cs x+((fs.take (placeC cs x)).map List.length).sum+ltC (fs.getD (placeC cs x) []) x
 | [],fs,hl,_=>by
  match fs,hl with
  | [f],_=>simp [T.inter]
 | c::cs,fs,hl,s=>by
  match fs,hl with
  | f::fs,hl=>
   have hl':fs.length=cs.length+1:=by simpa using hl
   rw [T.inter] at s |-
   obtain⟨h1,h2,h3⟩:=srt_head s
   have ih:=rank_spec x cs fs hl' h3
   rw [ltC_app,ltC_cons,placeC_cons]
   by_cases c1:c.1 < x
   ·rw [if_pos c1,if_pos c1,ih,ltC_all fun y hy=>by have:=h1 y hy; lia,List.take_succ_cons,List.map_cons,List.sum_cons,List.getD_cons_succ]
    lia
   ·rw [if_neg c1,if_neg c1,ltC_no (l:=T.inter fs cs) fun y hy=>by have:=h2 y hy; lia]
    simp
theorem rank_bot {cs:List Card}{x:Int} (s:Srt cs):ltC cs x=placeC cs x:=by
 induction cs with
 | nil=>rfl
 | cons c cs ih=>
  rw [Srt,List.pairwise_cons] at s
  rw [ltC_cons,placeC_cons]
  by_cases c1:c.1 < x
  ·rw [if_pos c1,if_pos c1,ih s.2]; lia
  ·rw [if_neg c1,if_neg c1,ltC_no fun y hy=>by have:=s.1 y hy; lia]
noncomputable def aheadC (fs:List (List Card)) (k:Nat):Nat:=((fs.take k).map List.length).sum+k
theorem inter_get:∀ (k:Nat) (cs:List Card) (fs:List (List Card)) (f:List Card) (r:Nat),fs.length=cs.length+1->fs[k]?=some f->r<=f.length->
  (T.inter fs cs)[aheadC fs k+r]?=if r=f.length then cs[k]? else f[r]?
 | k,[],fs,f,r,hl,e,hr=>by
  match fs,hl with
  | [f0],_=>
   have k0:k=0:=by
    have:=(List.getElem?_eq_some_iff.mp e).1
    simp at this
    exact this
   subst k0
   simp at e
   subst e
   simp only [T.inter,List.append_nil,aheadC,List.take_zero,List.map_nil,List.sum_nil,Nat.zero_add]
   by_cases c:r=f0.length
   ·rw [if_pos c]; simp [c]
   ·rw [if_neg c]
 | 0,c::cs,fs,f,r,hl,e,hr=>by
  match fs,hl with
  | f0::fs,hl=>
   simp at e
   subst e
   simp only [T.inter,aheadC,List.take_zero,List.map_nil,List.sum_nil,Nat.zero_add]
   by_cases c:r=f0.length
   ·rw [if_pos c,c,List.getElem?_append_right (Nat.le_refl _)]; simp
   ·rw [if_neg c,List.getElem?_append_left (by lia)]
 | k+1,c::cs,fs,f,r,hl,e,hr=>by
  match fs,hl with
  | f0::fs,hl=>
   have ih:=inter_get k cs fs f r (by simpa using hl) (by simpa using e) hr
   simp only [T.inter,List.getElem?_cons_succ]
   rw [<-ih,List.getElem?_append_right (by simp [aheadC]; lia)]
   have:aheadC (f0::fs) (k+1)+r - f0.length=(aheadC fs k+r)+1:=by simp [aheadC]; lia
   rw [this,List.getElem?_cons_succ]
theorem ahead_succ {fs:List (List Card)}{k:Nat}{f:List Card} (e:fs[k]?=some f):aheadC fs (k+1)=aheadC fs k+f.length+1:=by
 unfold aheadC
 rw [List.take_add_one,e]
 simp
 lia
theorem inter_len_last {fs:List (List Card)}{cs:List Card}{f:List Card} (hl:fs.length=cs.length+1) (e:fs[cs.length]?=some f):(T.inter fs cs).length=aheadC fs cs.length+f.length:=by
 have:fs=fs.take cs.length++[f]:=by
  have h1:=List.take_add_one (l:=fs) (i:=cs.length)
  rw [<-hl,List.take_length,e] at h1
  exact h1
 rw [inter_count]
 unfold aheadC
 have h2:(fs.map List.length).sum=((fs.take cs.length).map List.length).sum+f.length:=by
  conv=>lhs; rw [this]
  simp
 lia
theorem relF_place' (cs:List Card) (x:Int) (hl:cs.length<=1000) (h:Hh):relF R_place [.tup (cs.map cardD),.int x] h=some (.int (placeC cs x),h):=relF_eq det_place ⟨cs,x,rfl,rfl,hl⟩ h
theorem getD_flat {bs:List T}{p:Nat}{b:T} (e:bs[p]?=some b):(bs.map T.flat).getD p []=b.flat:=by
 rw [List.getD_eq_getElem?_getD,List.getElem?_map,e]
 rfl
noncomputable def Cab (n:Nat) (t:T):Prop:=∃ least w own j,j<=n/\T.V least w own j t/\Srt t.flat/\w<=900
theorem Cab.split {n:Nat}{cs:List Card}{bs:List T} (c:Cab (n+1) (.node cs bs)):cs.length<=900/\(bs=[]\/(bs.length=cs.length+1/\∀ b∈bs,Cab n b))/\(∀ b∈bs,heldOf b.d=b.flat.length)/\Srt (T.inter (bs.map T.flat) cs):=by
 obtain⟨least,w,own,j,hj,v,s,hw⟩:=c
 match j,v with
 | 0,v=>exact v.elim
 | j+1,v=>
  have s':=s
  rw [T.flat_node] at s'
  unfold T.V at v
  obtain⟨-,hc,hb0,hb1⟩:=v
  refine⟨by lia,?_,?_,s'⟩
  ·by_cases hn:j=0
   ·exact .inl (hb0 hn)
   ·obtain⟨bl,bv⟩:=hb1 (by lia)
    exact .inr ⟨bl,fun b hb=>⟨least,w,least,j,by lia,bv b hb,srt_below s hb,hw⟩⟩
  ·intro b hb
   by_cases hn:j=0
   ·rw [hb0 hn] at hb; exact nomatch hb
   ·exact ((hb1 (by lia)).2 b hb).held
theorem Cab.zero {t:T} (c:Cab 0 t):False:=by
 obtain⟨least,w,own,j,hj,v,s,hw⟩:=c
 have:j=0:=by lia
 subst this
 exact v
noncomputable def noteD (o:Option Card):D:=match o with
 | some c=>.str c.2
 | none=>.non
noncomputable def R_note (n:Nat) (ds:List D) (d:D):Prop:=∃ (t:T) (x:Int),ds=[t.d,.int x]/\d=noteD (findC t.flat x)/\Cab n t
theorem runs_note_of {n:Nat} (dt:Det (R_note n)):Runs (fnRun 5 (t_note_of (relF R_place) (fnRun 3 t_is_at) (relF (R_note n)))) (R_note (n+1)):=by
 rintro ds d ⟨⟨cs,bs⟩,x,rfl,rfl,c⟩
 obtain⟨hc,hb,hh,s⟩:=c.split
 refine⟨by cases findC _ x<;>first | exact .non | exact .str _,fun h=>⟨[],fnRun_rt ?_⟩⟩
 rw [List.append_nil]
 have i0:=t_ix0 (.node cs bs) h
 have i1:=t_ix1 (.node cs bs) h
 have pl:=relF_place' cs x (by lia) h
 have sp:=note_spec x cs (bs.map T.flat)
 have sb:=note_bot (cs:=cs) (x:=x)
 have ple:=placeC_le cs x
 have ia:=run_isat cs (placeC cs x) x h
 rw [T.flat_node]
 generalize hp:placeC cs x=p at pl sp sb ple ia
 unfold t_note_of
 rw [fSeq_nx (e1:=[some (T.node cs bs).d,some (.int x),some (.tup (cs.map cardD)),none,none]) (h1:=h) (fSet_ok (by rw [f2_ok (x:=(T.node cs bs).d) (h1:=h) rfl rfl,i0]; rfl))]
 rw [fSeq_nx (e1:=[some (T.node cs bs).d,some (.int x),some (.tup (cs.map cardD)),some (.tup (bs.map T.d)),none]) (h1:=h) (fSet_ok (by rw [f2_ok (x:=(T.node cs bs).d) (h1:=h) rfl rfl,i1]; rfl))]
 rw [fSeq_nx (e1:=[some (T.node cs bs).d,some (.int x),some (.tup (cs.map cardD)),some (.tup (bs.map T.d)),some (.int p)]) (h1:=h) (fSet_ok (by rw [fc_ok (ds:=[.tup (cs.map cardD),.int x]) (h1:=h) rfl,pl]; rfl))]
 have tst:fB (fc (fnRun 3 t_is_at) (fAll [(fV 2),(fV 4),(fV 1)])) [some (T.node cs bs).d,some (.int x),some (.tup (cs.map cardD)),some (.tup (bs.map T.d)),some (.int p)] h=.ok (atC cs p x) h:=by
  refine fB_ok ?_
  rw [fc_ok (ds:=[.tup (cs.map cardD),.int p,.int x]) (h1:=h) rfl,ia]
  rfl
 cases ha:atC cs p x with
 | true=>
  have hcp:∃ k,cs[p]?=some k:=by
   unfold atC at ha
   cases q:cs[p]? with
   | none=>rw [q] at ha; cases ha
   | some k=>exact⟨k,rfl⟩
  obtain⟨k,hk⟩:=hcp
  have fe:findC (T.inter (bs.map T.flat) cs) x=some k:=by
   rcases hb with rfl | ⟨bl,_⟩
   ·have:=sb (by simpa [T.inter] using s)
    rw [ha,if_pos rfl,hk] at this
    simpa [T.inter] using this
   ·have:=sp (by rw [List.length_map]; exact bl) s
    rw [ha,if_pos rfl,hk] at this
    exact this
  rw [fe]
  refine fSeq_rt ?_
  rw [fIfS_t (by rw [tst,ha])]
  refine fRet_ok ?_
  rw [f2_ok (x:=cardD k) (h1:=h) (by rw [f2_ok (x:=.tup (cs.map cardD)) (h1:=h) (y:=.int p) (h2:=h) rfl rfl,oIx_tup,atI_nat',List.getElem?_map,hk]; rfl) rfl]
  rfl
 | false=>
  rw [fSeq_nx (e1:=[some (T.node cs bs).d,some (.int x),some (.tup (cs.map cardD)),some (.tup (bs.map T.d)),some (.int p)]) (h1:=h) (by rw [fIfS_f (by rw [tst,ha])]; rfl)]
  rcases hb with rfl | ⟨bl,hk⟩
  ·have:=sb (by simpa [T.inter] using s)
   rw [ha,if_neg (by decide)] at this
   rw [show T.inter (([]:List T).map T.flat) cs=cs by simp [T.inter],this]
   refine fSeq_rt ?_
   rw [fIfS_t (h1:=h) (by simp [fSeq,fSet,fRet,fDrop,fIfS,fB,f1,f2,fc,fAll,fTup,fLst,fC,fV,fAnd,fOr,fNot,fAndV,fOrV,fSl,fNoPart,fPart,fNext,startE,getO_some,asB_bl,ofO_some,Res.bind_ok,Res.out_ok])]
   rfl
  ·have:=sp (by rw [List.length_map]; exact bl) s
   rw [ha,if_neg (by decide)] at this
   have hbp:bs[p]?=some bs[p]:=List.getElem?_eq_getElem (by lia)
   rw [getD_flat hbp] at this
   rw [this]
   rw [fSeq_nx (e1:=[some (T.node cs bs).d,some (.int x),some (.tup (cs.map cardD)),some (.tup (bs.map T.d)),some (.int p)]) (h1:=h) (by
    rw [fIfS_f (h1:=h) (empty_no rfl (by rw [List.length_map]; lia))]
    rfl)]
   refine fRet_ok ?_
   rw [fc_ok (ds:=[(bs[p]).d,.int x]) (h1:=h) (fAll2 (by rw [f2_ok (x:=.tup (bs.map T.d)) (h1:=h) (y:=.int p) (h2:=h) rfl rfl,oIx_tup,atI_nat',List.getElem?_map,hbp]; rfl) rfl),relF_eq dt ⟨_,x,rfl,rfl,hk _ (List.mem_of_getElem? hbp)⟩ h]
   rfl
theorem R_note0 (ds:List D) (d:D):¬ R_note 0 ds d:=fun q9=>by obtain⟨t,x,_,_,c⟩:=q9; exact c.zero
theorem det_note:∀ n,Det (R_note n)
 | 0=>fun ds d d' h=>absurd h (R_note0 ds d)
 | n+1=>(runs_note_of (det_note n)).det
theorem runs_note (n:Nat):Runs (fnRun 5 (t_note_of (relF R_place) (fnRun 3 t_is_at) (relF (R_note n)))) (R_note (n+1)):=runs_note_of (det_note n)
noncomputable def R_rank (n:Nat) (ds:List D) (d:D):Prop:=∃ (t:T) (x:Int),ds=[t.d,.int x]/\d=.int (ltC t.flat x)/\Cab n t
theorem runs_rank_of {n:Nat} (dt:Det (R_rank n)):Runs (fnRun 5 (t_rank_of (relF R_place) (relF (R_rank n)))) (R_rank (n+1)):=by
 rintro ds d ⟨⟨cs,bs⟩,x,rfl,rfl,c⟩
 obtain⟨hc,hb,hh,s⟩:=c.split
 refine⟨.int _,fun h=>?_⟩
 have i0:=t_ix0 (.node cs bs) h
 have i1:=t_ix1 (.node cs bs) h
 have pl:=relF_place' cs x (by lia) h
 have sp:=rank_spec x cs (bs.map T.flat)
 have sb:=rank_bot (cs:=cs) (x:=x)
 have ple:=placeC_le cs x
 rw [T.flat_node]
 generalize hp:placeC cs x=p at pl sp sb ple
 have pre:∀ rest:FS,(fSeq (fSet 2 (f2 oIx (fV 0) (fC (.int 1)))) (fSeq (fSet 3 (fc (relF R_place) (fAll [(f2 oIx (fV 0) (fC (.int 0))),(fV 1)]))) rest)) (startE 5 [(T.node cs bs).d,.int x]) h
   = rest [some (T.node cs bs).d,some (.int x),some (.tup (bs.map T.d)),some (.int p),none] h:=fun rest=>by
  rw [fSeq_nx (e1:=[some (T.node cs bs).d,some (.int x),some (.tup (bs.map T.d)),none,none]) (h1:=h) (fSet_ok (by rw [f2_ok (x:=(T.node cs bs).d) (h1:=h) rfl rfl,i1]; rfl))]
  rw [fSeq_nx (e1:=[some (T.node cs bs).d,some (.int x),some (.tup (bs.map T.d)),some (.int p),none]) (h1:=h) (fSet_ok (by
   rw [fc_ok (fAll2 (d:=.tup (cs.map cardD)) (h1:=h) (d2:=.int x) (h2:=h) (by rw [f2_ok (x:=(T.node cs bs).d) (h1:=h) rfl rfl,i0]; rfl) rfl),pl]
   rfl))]
 rcases hb with rfl | ⟨bl,hk⟩
 ·refine⟨[],fnRun_rt ?_⟩
  rw [List.append_nil,show T.inter (([]:List T).map T.flat) cs=cs by simp [T.inter],sb (by simpa [T.inter] using s)]
  unfold t_rank_of
  rw [pre]
  refine fSeq_rt ?_
  rw [fIfS_t (h1:=h) (by simp [fSeq,fSet,fRet,fDrop,fIfS,fB,f1,f2,fc,fAll,fTup,fLst,fC,fV,fAnd,fOr,fNot,fAndV,fOrV,fSl,fNoPart,fPart,fNext,startE,getO_some,asB_bl,ofO_some,Res.bind_ok,Res.out_ok])]
  rfl
 ·have sp':=sp (by rw [List.length_map]; exact bl) s
  have hbp:bs[p]?=some bs[p]:=List.getElem?_eq_getElem (by lia)
  rw [getD_flat hbp] at sp'
  rw [sp']
  refine⟨[.lst ((bs.take p).map fun b=>.int (heldOf b.d))],fnRun_rt ?_⟩
  unfold t_rank_of
  rw [pre]
  rw [fSeq_nx (e1:=[some (T.node cs bs).d,some (.int x),some (.tup (bs.map T.d)),some (.int p),none]) (h1:=h) (by
   rw [fIfS_f (h1:=h) (empty_no rfl (by rw [List.length_map]; lia))]
   rfl)]
  have e:fComp (fiSeq (fSl (fV 2) fNoPart (fPart (fV 3)))) [] fYes (f2 oIx (fV 0) (fC (.int 2))) [some (T.node cs bs).d,some (.int x),some (.tup (bs.map T.d)),some (.int p),none] h=.ok (.lst h.length) (h++[.lst ((bs.take p).map fun b=>.int (heldOf b.d))]):=by
   have:=fComp_map (fi:=fiSeq (fSl (fV 2) fNoPart (fPart (fV 3)))) (fr:=[]) (fe:=f2 oIx (fV 0) (fC (.int 2))) (env:=[some (T.node cs bs).d,some (.int x),some (.tup (bs.map T.d)),some (.int p),none]) (h:=h) (it:=⟨(bs.take p).map T.d,fun _=>True⟩) (h1:=h) (g:=fun b=>.int (heldOf b)) (by
    show (Res.ofO (oSl (.tup (bs.map T.d)) none (some (p:Int)) h)).bind itSeq=_
    rw [oSl_tup,cutF_head]
    rfl) (fun _=>trivial) (fun b hb xs=>by
    obtain⟨t,_,rfl⟩:=List.mem_map.mp hb
    rw [f2_ok (x:=t.d) (h1:=h++[.lst xs]) rfl rfl,held_ix]
    rfl) (by rw [List.length_map]; exact sz1000 (by rw [List.length_take]; lia))
   rw [this,List.map_map]
   rfl
  have es:oSum [.lst h.length] (h++[.lst ((bs.take p).map fun b=>.int (heldOf b.d))])=some (.int ((bs.take p).map fun b=>heldOf b.d).sum,h++[.lst ((bs.take p).map fun b=>.int (heldOf b.d))]):=by
   refine oSum_lst (ds:=(bs.take p).map fun b=>.int (heldOf b.d)) (ns:=(bs.take p).map fun b=>heldOf b.d) (at_new _ _) ?_
   have:=intsD_map ((bs.take p).map fun b=>heldOf b.d)
   rw [List.map_map] at this
   exact this
  have hsum:((bs.take p).map fun b=>heldOf b.d).sum=(((((bs.map T.flat).take p).map List.length).sum:Nat):Int):=by
   rw [held_sum (least:=0) (w:=0) (n:=0) fun b hb=>hh b (List.mem_of_mem_take hb),<-List.map_take,List.map_map]
   rfl
  rw [hsum] at es
  rw [fSeq_nx (e1:=[some (T.node cs bs).d,some (.int x),some (.tup (bs.map T.d)),some (.int p),some (.int ((p:Int)+((((bs.map T.flat).take p).map List.length).sum:Nat)))]) (h1:=h++[.lst ((bs.take p).map fun b=>.int (heldOf b.d))]) (fSet_ok (by
   rw [f2_ok (x:=.int p) (h1:=h) rfl (by rw [fc_ok (fAll1 e),es]; rfl)]
   rfl))]
  generalize h++[O.lst ((bs.take p).map fun b=>.int (heldOf b.d))]=h1
  refine fRet_ok ?_
  rw [f2_ok (x:=.int ((p:Int)+((((bs.map T.flat).take p).map List.length).sum:Nat))) (h1:=h1) (y:=.int (ltC (bs[p]).flat x)) (h2:=h1) rfl (by
   rw [fc_ok (ds:=[(bs[p]).d,.int x]) (h1:=h1) (fAll2 (by rw [f2_ok (x:=.tup (bs.map T.d)) (h1:=h1) (y:=.int p) (h2:=h1) rfl rfl,oIx_tup,atI_nat',List.getElem?_map,hbp]; rfl) rfl),relF_eq dt ⟨_,x,rfl,rfl,hk _ (List.mem_of_getElem? hbp)⟩ h1]
   rfl)]
  rw [show ((p+(((bs.map T.flat).take p).map List.length).sum+ltC (bs[p]).flat x:Nat):Int)=(p:Int)+((((bs.map T.flat).take p).map List.length).sum:Nat)+(ltC (bs[p]).flat x:Nat) by lia]
  rfl
theorem R_rank0 (ds:List D) (d:D):¬ R_rank 0 ds d:=fun q9=>by obtain⟨t,x,_,_,c⟩:=q9; exact c.zero
theorem det_rank:∀ n,Det (R_rank n)
 | 0=>fun ds d d' h=>absurd h (R_rank0 ds d)
 | n+1=>(runs_rank_of (det_rank n)).det
theorem runs_rank (n:Nat):Runs (fnRun 5 (t_rank_of (relF R_place) (relF (R_rank n)))) (R_rank (n+1)):=runs_rank_of (det_rank n)
noncomputable def R_with (n:Nat) (ds:List D) (d:D):Prop:=∃ (t:T) (r:Nat) (k:Card),ds=[t.d,.int r]/\d=cardD k/\t.flat[r]?=some k/\Cab n t
theorem runs_with_of {n:Nat} (dt:Det (R_with n)):Runs (fnRun 6 (t_card_with (relF (R_with n)))) (R_with (n+1)):=by
 rintro ds d ⟨⟨cs,bs⟩,r,k,rfl,rfl,hr,c⟩
 obtain⟨hc,hb,hh,s⟩:=c.split
 refine⟨hb_card k,fun h=>⟨[],fnRun_rt ?_⟩⟩
 rw [List.append_nil]
 have i0:=t_ix0 (.node cs bs) h
 have i1:=t_ix1 (.node cs bs) h
 rw [T.flat_node] at hr
 unfold t_card_with
 rw [fSeq_nx (e1:=[some (T.node cs bs).d,some (.int r),some (.tup (cs.map cardD)),none,none,none]) (h1:=h) (fSet_ok (by rw [f2_ok (x:=(T.node cs bs).d) (h1:=h) rfl rfl,i0]; rfl))]
 rw [fSeq_nx (e1:=[some (T.node cs bs).d,some (.int r),some (.tup (cs.map cardD)),some (.tup (bs.map T.d)),none,none]) (h1:=h) (fSet_ok (by rw [f2_ok (x:=(T.node cs bs).d) (h1:=h) rfl rfl,i1]; rfl))]
 rcases hb with rfl | ⟨bl,hk⟩
 ·refine fSeq_rt ?_
  rw [fIfS_t (h1:=h) (by simp [fSeq,fSet,fRet,fDrop,fIfS,fB,f1,f2,fc,fAll,fTup,fLst,fC,fV,fAnd,fOr,fNot,fAndV,fOrV,fSl,fNoPart,fPart,fNext,startE,getO_some,asB_bl,ofO_some,Res.bind_ok,Res.out_ok])]
  refine fRet_ok ?_
  rw [f2_ok (x:=.tup (cs.map cardD)) (h1:=h) (y:=.int r) (h2:=h) rfl rfl,oIx_tup,atI_nat',List.getElem?_map,show cs[r]?=some k by simpa [T.inter] using hr]
  rfl
 rw [fSeq_nx (e1:=[some (T.node cs bs).d,some (.int r),some (.tup (cs.map cardD)),some (.tup (bs.map T.d)),none,none]) (h1:=h) (by
  rw [fIfS_f (h1:=h) (empty_no rfl (by rw [List.length_map]; lia))]
  rfl)]
 rw [fSeq_nx (e1:=[some (T.node cs bs).d,some (.int r),some (.tup (cs.map cardD)),some (.tup (bs.map T.d)),some (.int ((0:Nat):Int)),none]) (h1:=h) (fSet_ok rfl)]
 rw [fSeq_nx (e1:=[some (T.node cs bs).d,some (.int r),some (.tup (cs.map cardD)),some (.tup (bs.map T.d)),some (.int ((0:Nat):Int)),some (.int r)]) (h1:=h) (fSet_ok rfl)]
 have hlm:(bs.map T.flat).length=cs.length+1:=by rw [List.length_map]; exact bl
 have held:∀ (p:Nat) (z5:Option D),p < bs.length->∃ b,bs[p]?=some b/\f2 oIx (f2 oIx (fV 3) (fV 4)) (fC (.int 2)) [some (T.node cs bs).d,some (.int r),some (.tup (cs.map cardD)),some (.tup (bs.map T.d)),some (.int p),z5] h=.ok (.int b.flat.length) h:=fun p z5 hp=>by
  have hbp:bs[p]?=some bs[p]:=List.getElem?_eq_getElem hp
  refine⟨_,hbp,?_⟩
  rw [f2_ok (x:=(bs[p]).d) (h1:=h) (by rw [f2_ok (x:=.tup (bs.map T.d)) (h1:=h) (y:=.int p) (h2:=h) rfl rfl,oIx_tup,atI_nat',List.getElem?_map,hbp]; rfl) rfl,held_ix,hh _ (List.mem_of_getElem? hbp)]
  rfl
 have loop:=fWhile_ex (c:=fB (f2 oGt (fV 5) (f2 oIx (f2 oIx (fV 3) (fV 4)) (fC (.int 2))))) (t:=fSeq (fSet 5 (f2 oSub (f2 oSub (fV 5) (f2 oIx (f2 oIx (fV 3) (fV 4)) (fC (.int 2)))) (fC (.int 1)))) (fSet 4 (f2 oAdd (fV 4) (fC (.int 1)))))
  (P:=fun e h'=>h'=h/\∃ p q:Nat,p < bs.length/\aheadC (bs.map T.flat) p+q=r/\e=[some (T.node cs bs).d,some (.int r),some (.tup (cs.map cardD)),some (.tup (bs.map T.d)),some (.int p),some (.int q)])
  (R:=fun e h'=>h'=h/\∃ (p q:Nat) (b:T),bs[p]?=some b/\q<=b.flat.length/\aheadC (bs.map T.flat) p+q=r/\e=[some (T.node cs bs).d,some (.int r),some (.tup (cs.map cardD)),some (.tup (bs.map T.d)),some (.int p),some (.int q)])
  (μ:=fun e _=>match e with | [_,_,_,_,some (.int p),_]=>bs.length - p.toNat | _=>0) ?_ 2000 _ h ⟨rfl,0,r,by lia,by simp [aheadC],rfl⟩ ?_
 ·obtain⟨e',h',q0,rfl,p,q,b,hbp,hq,ha,rfl⟩:=loop
  rw [fSeq_nx q0]
  have hpl:=(List.getElem?_eq_some_iff.mp hbp).1
  obtain⟨b',hb',hv⟩:=held p (some (.int q)) hpl
  rw [hbp] at hb'
  cases hb'
  have ig:=inter_get p cs (bs.map T.flat) b.flat q hlm (by rw [List.getElem?_map,hbp]; rfl) hq
  rw [ha,hr] at ig
  have tst:fB (f2 oEq (fV 5) (f2 oIx (f2 oIx (fV 3) (fV 4)) (fC (.int 2)))) [some (T.node cs bs).d,some (.int r),some (.tup (cs.map cardD)),some (.tup (bs.map T.d)),some (.int p),some (.int q)] h'=.ok (((q:Nat):Int)==((b.flat.length:Nat):Int)) h':=by
   refine fB_ok ?_
   rw [f2_ok (x:=.int q) (h1:=h') rfl hv,oEq_int]
   rfl
  by_cases hqe:q=b.flat.length
  ·rw [if_pos hqe] at ig
   refine fSeq_rt ?_
   rw [fIfS_t (h1:=h') (by rw [tst]; simp [hqe])]
   refine fRet_ok ?_
   rw [f2_ok (x:=.tup (cs.map cardD)) (h1:=h') (y:=.int p) (h2:=h') rfl rfl,oIx_tup,atI_nat',List.getElem?_map,<-ig]
   rfl
  ·rw [if_neg hqe] at ig
   rw [fSeq_nx (e1:=[some (T.node cs bs).d,some (.int r),some (.tup (cs.map cardD)),some (.tup (bs.map T.d)),some (.int p),some (.int q)]) (h1:=h') (by
    rw [fIfS_f (h1:=h') (by
     rw [tst]
     have:¬ ((q:Int)=(b.flat.length:Int)):=by lia
     simp [this])]
    rfl)]
   refine fRet_ok ?_
   rw [fc_ok (ds:=[b.d,.int q]) (h1:=h') (fAll2 (by rw [f2_ok (x:=.tup (bs.map T.d)) (h1:=h') (y:=.int p) (h2:=h') rfl rfl,oIx_tup,atI_nat',List.getElem?_map,hbp]; rfl) rfl),relF_eq dt ⟨b,q,k,rfl,rfl,ig.symm,hk _ (List.mem_of_getElem? hbp)⟩ h']
   rfl
 ·rintro e h' ⟨rfl,p,q,hp,ha,rfl⟩
  obtain⟨b,hbp,hv⟩:=held p (some (.int q)) hp
  have tst:fB (f2 oGt (fV 5) (f2 oIx (f2 oIx (fV 3) (fV 4)) (fC (.int 2)))) [some (T.node cs bs).d,some (.int r),some (.tup (cs.map cardD)),some (.tup (bs.map T.d)),some (.int p),some (.int q)] h'=.ok (decide (((b.flat.length:Nat):Int) < ((q:Nat):Int))) h':=by
   refine fB_ok ?_
   rw [f2_ok (x:=.int q) (h1:=h') rfl hv]
   rfl
  by_cases hq:q<=b.flat.length
  ·left
   refine⟨h',by rw [tst,decide_eq_false (by lia)],rfl,p,q,b,hbp,hq,ha,rfl⟩
  ·right
   have hsucc:=ahead_succ (fs:=bs.map T.flat) (k:=p) (f:=b.flat) (by rw [List.getElem?_map,hbp]; rfl)
   have hp1:p+1 < bs.length:=by
    by_cases hlast:p=cs.length
    ·exfalso
     subst hlast
     have ll:=inter_len_last hlm (f:=b.flat) (by rw [List.getElem?_map,hbp]; rfl)
     have:=(List.getElem?_eq_some_iff.mp hr).1
     lia
    ·lia
   refine⟨h',[some (T.node cs bs).d,some (.int r),some (.tup (cs.map cardD)),some (.tup (bs.map T.d)),some (.int ((p+1:Nat):Int)),some (.int ((q - b.flat.length - 1:Nat):Int))],h',by rw [tst,decide_eq_true (by lia)],?_,⟨rfl,p+1,q - b.flat.length - 1,hp1,by lia,rfl⟩,?_⟩
   ·rw [fSeq_nx (e1:=[some (T.node cs bs).d,some (.int r),some (.tup (cs.map cardD)),some (.tup (bs.map T.d)),some (.int p),some (.int ((q - b.flat.length - 1:Nat):Int))]) (h1:=h') (fSet_ok (by
     rw [sub_ok (sub_ok (x:=q) rfl hv) (fC_ok _ _ _),show (q:Int) - (b.flat.length:Int) - 1=((q - b.flat.length - 1:Nat):Int) by lia]))]
    exact fSet_ok (d:=.int ((p+1:Nat):Int)) (by rw [add_ok (x:=p) (y:=1) rfl rfl,show (p:Int)+1=((p+1:Nat):Int) by lia])
   ·show bs.length - ((p+1:Nat):Int).toNat < bs.length - ((p:Nat):Int).toNat
    lia
 ·show bs.length - (0:Int).toNat < 2000
  lia
theorem R_with0 (ds:List D) (d:D):¬ R_with 0 ds d:=fun q9=>by obtain⟨t,r,k,_,_,_,c⟩:=q9; exact c.zero
theorem det_with:∀ n,Det (R_with n)
 | 0=>fun ds d d' h=>absurd h (R_with0 ds d)
 | n+1=>(runs_with_of (det_with n)).det
theorem runs_with (n:Nat):Runs (fnRun 6 (t_card_with (relF (R_with n)))) (R_with (n+1)):=runs_with_of (det_with n)
theorem orT {s t:FT}{e:En}{h h1:Hh} (q:s e h=.ok true h1):fOr s t e h=.ok true h1:=by
 unfold fOr
 rw [q,Res.bind_ok,if_pos rfl]
theorem orF {s t:FT}{e:En}{h h1 h2:Hh}{b:Bool} (q:s e h=.ok false h1) (q2:t e h1=.ok b h2):fOr s t e h=.ok b h2:=by
 unfold fOr
 rw [q,Res.bind_ok,if_neg (by decide),q2]
theorem andF {s t:FT}{e:En}{h h1:Hh} (q:s e h=.ok false h1):fAnd s t e h=.ok false h1:=by
 unfold fAnd
 rw [q,Res.bind_ok,if_neg (by decide)]
theorem andT {s t:FT}{e:En}{h h1 h2:Hh}{b:Bool} (q:s e h=.ok true h1) (q2:t e h1=.ok b h2):fAnd s t e h=.ok b h2:=by
 unfold fAnd
 rw [q,Res.bind_ok,if_pos rfl,q2]
theorem notB {s:FT}{e:En}{h h1:Hh}{b:Bool} (q:s e h=.ok b h1):fNot s e h=.ok (!b) h1:=by
 unfold fNot
 rw [q,Res.bind_ok]
theorem andVT {s t:FE}{e:En}{h h1 h2:Hh}{d:D} (q:s e h=.ok (.bl true) h1) (q2:t e h1=.ok d h2):fAndV s t e h=.ok d h2:=by
 unfold fAndV
 rw [q,Res.bind_ok,asB_bl,Res.bind_ok,if_pos rfl,q2]
noncomputable def IsDeed (d:D):Prop:=∃ xs:List D,d=.tup xs/\∀ x∈xs,x=.non\/(∃ s,x=.str s)\/∃ i,x=.int i
theorem IsDeed.dp {d:D} (h:IsDeed d) (n:Nat):Dp (n+2) d:=by
 obtain⟨xs,rfl,hx⟩:=h
 refine .tup fun x m=>?_
 rcases hx x m with rfl | ⟨s,rfl⟩ | ⟨i,rfl⟩
 ·exact .non
 ·exact .str _
 ·exact .int _
noncomputable def sameP:FS:=(fIfS (fAnd (fB (f2 oNotN (fV 3) (fC .non))) (fAnd (fNot (fB (f1 (oIsi "str") (fV 3)))) (fNot (fB (fc (fnRun 1 t__law_whole) (fAll [(fV 3)])))))) (fRet (fC (.bl false))) fNext)
noncomputable def sameB:FS:=(fSeq (fIfS (fOr (fNot (fB (f1 (oIsi "tuple") (f2 oIx (fV 0) (fV 2))))) (fB (f2 oNe (fc oLen (fAll [(f2 oIx (fV 0) (fV 2))])) (fc oLen (fAll [(f2 oIx (fV 1) (fV 2))]))))) (fRet (fC (.bl false))) fNext)
  (fSeq (fFor 3 (fiSeq (f2 oIx (fV 0) (fV 2))) sameP)
  (fIfS (fB (f2 oNe (f2 oIx (fV 0) (fV 2)) (f2 oIx (fV 1) (fV 2)))) (fRet (fC (.bl false))) fNext)))
theorem same_eq:t__law_same (fnRun 1 t__law_whole)=(fSeq (fIfS (fB (f2 oNe (fc oLen (fAll [(fV 0)])) (fc oLen (fAll [(fV 1)])))) (fRet (fC (.bl false))) fNext)
  (fSeq (fFor 2 (fiRng rng1 [(fc oLen (fAll [(fV 1)]))]) sameB)
  (fRet (fC (.bl true))))):=rfl
theorem run_same {h:Hh}{a b:Nat}{ds:List D} (ea:h[a]?=some (.lst ds)) (eb:h[b]?=some (.lst ds)) (hd:∀ d∈ds,IsDeed d) (hl:ds.length<=100000):
  fnRun 4 (t__law_same (fnRun 1 t__law_whole)) [.lst a,.lst b] h=some (.bl true,h):=by
 refine fnRun_rt ?_
 rw [same_eq]
 show fSeq _ _ [some (.lst a),some (.lst b),none,none] h=_
 have la:∀ z2 z3,fc oLen (fAll [(fV 0)]) [some (.lst a),some (.lst b),z2,z3] h=.ok (.int (ds.length:Int)) h:=fun _ _=>by
  rw [fc_ok (fAll1 (d:=.lst a) (h1:=h) rfl),oLen_lst ea]; rfl
 have lb:∀ z2 z3,fc oLen (fAll [(fV 1)]) [some (.lst a),some (.lst b),z2,z3] h=.ok (.int (ds.length:Int)) h:=fun _ _=>by
  rw [fc_ok (fAll1 (d:=.lst b) (h1:=h) rfl),oLen_lst eb]; rfl
 rw [fSeq_nx (e1:=[some (.lst a),some (.lst b),none,none]) (h1:=h) (by
  rw [fIfS_f (h1:=h) (fB_ok (by rw [f2_ok (la _ _) (lb _ _),oNe_int,beq_self_eq_true]; rfl))]
  rfl)]
 obtain⟨e',h',q,z2,z3,he,hh⟩:=forG_run (chk:=fun _=>True) (i:=2) (t:=sameB)
  (P:=fun _ e h'=>∃ z2 z3,e=[some (.lst a),some (.lst b),z2,z3]/\h'=h)
  ((List.range ds.length).map fun (k:Nat)=>D.int k) [some (.lst a),some (.lst b),none,none] h ⟨none,none,rfl,rfl⟩ (fun _ _ _ _=>trivial)
  (fun k d e h' hk p=>by
   obtain⟨z2,z3,re,rh⟩:=p
   subst re
   subst rh
   obtain⟨hlt,rfl⟩:=range_get hk
   obtain⟨x,ex⟩:∃ x,ds[k]?=some x:=⟨_,List.getElem?_eq_getElem hlt⟩
   have dx:=hd x (List.mem_of_getElem? ex)
   have xa:∀ z,f2 oIx (fV 0) (fV 2) [some (.lst a),some (.lst b),some (.int (k:Int)),z] h'=.ok x h':=fun z=>by
    rw [f2_ok (x:=.lst a) (h1:=h') rfl (y:=.int (k:Int)) (h2:=h') rfl,oIx_lst ea,atI_nat',ex]; rfl
   have xb:∀ z,f2 oIx (fV 1) (fV 2) [some (.lst a),some (.lst b),some (.int (k:Int)),z] h'=.ok x h':=fun z=>by
    rw [f2_ok (x:=.lst b) (h1:=h') rfl (y:=.int (k:Int)) (h2:=h') rfl,oIx_lst eb,atI_nat',ex]; rfl
   show ∃ e' h'',sameB [some (.lst a),some (.lst b),some (.int (k:Int)),z3] h'=.nx e' h''/\_
   obtain⟨xs,rfl,hx⟩:=id dx
   unfold sameB
   rw [fSeq_nx (e1:=[some (.lst a),some (.lst b),some (.int (k:Int)),z3]) (h1:=h') (by
    rw [fIfS_f (h1:=h') (orF (h1:=h') (notB (b:=true) (fB_ok (by unfold f1; rw [xa]; rfl))) (fB_ok (b:=false) (by
     rw [f2_ok (x:=.int (xs.length:Int)) (h1:=h') (by rw [fc_ok (fAll1 (xa _)),oLen_tup]; rfl) (y:=.int (xs.length:Int)) (h2:=h') (by rw [fc_ok (fAll1 (xb _)),oLen_tup]; rfl),oNe_int,beq_self_eq_true]
     rfl)))]
    rfl)]
   obtain⟨e2,h2,q2,z,he2,hh2⟩:=forG_run (chk:=fun _=>True) (i:=3) (t:=sameP)
    (P:=fun _ e h''=>∃ z,e=[some (.lst a),some (.lst b),some (.int (k:Int)),z]/\h''=h')
    xs [some (.lst a),some (.lst b),some (.int (k:Int)),z3] h' ⟨z3,rfl,rfl⟩ (fun _ _ _ _=>trivial)
    (fun j y e h'' hj p=>by
     obtain⟨z,re,rh⟩:=p
     subst re
     subst rh
     refine⟨[some (.lst a),some (.lst b),some (.int (k:Int)),some y],h'',?_,_,rfl,rfl⟩
     rcases hx y (List.mem_of_getElem? hj) with rfl | ⟨s,rfl⟩ | ⟨i,rfl⟩
     ·rfl
     ·rfl
     ·show sameP [some (.lst a),some (.lst b),some (.int (k:Int)),some (.int i)] h''=_
      unfold sameP
      rw [fIfS_f (h1:=h'') (andT (h1:=h'') (b:=false) rfl (andT (h1:=h'') (b:=false) rfl (notB (b:=true) (fB_ok (by rw [fc_ok (fAll1 (d:=.int i) (h1:=h'') rfl),run_whole]; rfl)))))]
      rfl)
   have it:fiSeq (f2 oIx (fV 0) (fV 2)) [some (.lst a),some (.lst b),some (.int (k:Int)),z3] h'=.ok ⟨xs,fun _=>True⟩ h':=by
    unfold fiSeq
    rw [xa]
    rfl
   rw [fSeq_nx ((fFor_ok it).trans q2),he2,hh2]
   refine⟨[some (.lst a),some (.lst b),some (.int (k:Int)),z],h',?_,_,_,rfl,rfl⟩
   rw [fIfS_f (h1:=h') (fB_ok (b:=false) (by rw [f2_ok (xa _) (xb _),oNe_refl _ (dx.dp 22)]; rfl))]
   rfl)
 rw [fSeq_nx ((fFor_ok (fiRng1_ok (n:=ds.length) (fAll1 (lb _ _)) (by lia))).trans q),he,hh]
 rfl
noncomputable def insC (l:List Card) (x:Int) (s:Str):List Card:=(l.filter fun c=>decide (c.1 < x))++(x,s)::l.filter fun c=>decide (x < c.1)
theorem filter_all {α:Type}{p:α->Bool}{l:List α} (h:∀ x∈l,p x=true):l.filter p=l:=List.filter_eq_self.mpr h
theorem insC_lo {f:List Card}{x:Int} (r:List Card) (s:Str) (h:∀ y∈f,y.1 < x):insC (f++r) x s=f++insC r x s:=by
 unfold insC
 rw [List.filter_append,List.filter_append,filter_all (l:=f) fun y hy=>by simpa using h y hy,filter_none (l:=f) fun y hy=>by have:=h y hy; simp; lia]
 simp
theorem insC_hi {r:List Card}{x:Int} (f:List Card) (s:Str) (h:∀ y∈r,x < y.1):insC (f++r) x s=insC f x s++r:=by
 unfold insC
 rw [List.filter_append,List.filter_append,filter_none (l:=r) fun y hy=>by have:=h y hy; simp; lia,filter_all (l:=r) fun y hy=>by simpa using h y hy]
 simp
theorem splice_cons {α:Type} (c:α) (cs zs:List α) (p q:Nat):(c::cs).take (p+1)++zs++(c::cs).drop (q+1)=c::(cs.take p++zs++cs.drop q):=by simp
theorem ins_hit (x:Int) (s:Str):∀ (cs:List Card) (fs:List (List Card)),fs.length=cs.length+1->Srt (T.inter fs cs)->atC cs (placeC cs x) x=true->
  T.inter fs (cs.take (placeC cs x)++[(x,s)]++cs.drop (placeC cs x+1))=insC (T.inter fs cs) x s
 | [],fs,_,_,a=>by simp [atC] at a
 | c::cs,fs,hl,so,a=>by
  match fs,hl with
  | f::fs,hl=>
   have hl':fs.length=cs.length+1:=by simpa using hl
   rw [T.inter] at so |-
   obtain⟨h1,h2,h3⟩:=srt_head so
   rw [placeC_cons] at a |-
   by_cases c1:c.1 < x
   ·rw [if_pos c1] at a |-
    rw [atC_succ] at a
    rw [splice_cons,T.inter,ins_hit x s cs fs hl' h3 a,show f++c::T.inter fs cs=(f++[c])++T.inter fs cs by simp,insC_lo _ _ fun y hy=>by
     rcases List.mem_append.mp hy with z | z
     ·have:=h1 y z; lia
     ·rw [List.mem_singleton.mp z]; exact c1]
    simp
   ·rw [if_neg c1] at a |-
    have e:c.1=x:=by simpa [atC] using a
    have hi:∀ y∈T.inter fs cs,x < y.1:=fun y hy=>by have:=h2 y hy; lia
    rw [show f++c::T.inter fs cs=f++([c]++T.inter fs cs) by simp,insC_lo _ _ fun y hy=>by have:=h1 y hy; lia,insC_hi _ _ hi]
    have:insC [c] x s=[(x,s)]:=by
     unfold insC
     simp [e]
    rw [this]
    simp [T.inter]
where
 atC_succ {c:Card}{cs:List Card}{p:Nat}{x:Int}:atC (c::cs) (p+1) x=atC cs p x:=by simp [atC]
theorem ins_hit_bot (x:Int) (s:Str):∀ (cs:List Card),Srt cs->atC cs (placeC cs x) x=true->cs.take (placeC cs x)++[(x,s)]++cs.drop (placeC cs x+1)=insC cs x s
 | [],_,a=>by simp [atC] at a
 | c::cs,so,a=>by
  rw [Srt,List.pairwise_cons] at so
  rw [placeC_cons] at a |-
  by_cases c1:c.1 < x
  ·rw [if_pos c1] at a |-
   rw [ins_hit.atC_succ] at a
   rw [splice_cons,ins_hit_bot x s cs so.2 a,show c::cs=[c]++cs from rfl,insC_lo _ _ fun y hy=>by rw [List.mem_singleton.mp hy]; exact c1]
   rfl
  ·rw [if_neg c1] at a |-
   have e:c.1=x:=by simpa [atC] using a
   have hi:∀ y∈cs,x < y.1:=fun y hy=>by have:=so.1 y hy; lia
   rw [show c::cs=[c]++cs from rfl,insC_hi _ _ hi]
   have:insC [c] x s=[(x,s)]:=by
    unfold insC
    simp [e]
   rw [this]
   simp
theorem ins_bot (x:Int) (s:Str):∀ (cs:List Card),Srt cs->atC cs (placeC cs x) x=false->cs.take (placeC cs x)++[(x,s)]++cs.drop (placeC cs x)=insC cs x s
 | [],_,_=>by simp [insC]
 | c::cs,so,a=>by
  rw [Srt,List.pairwise_cons] at so
  rw [placeC_cons] at a |-
  by_cases c1:c.1 < x
  ·rw [if_pos c1] at a |-
   rw [ins_hit.atC_succ] at a
   rw [splice_cons,ins_bot x s cs so.2 a,show c::cs=[c]++cs from rfl,insC_lo _ _ fun y hy=>by rw [List.mem_singleton.mp hy]; exact c1]
   rfl
  ·rw [if_neg c1] at a |-
   have e:c.1≠x:=by simpa [atC] using a
   have hi:∀ y∈c::cs,x < y.1:=fun y hy=>by
    rcases List.mem_cons.mp hy with rfl | z
    ·lia
    ·have:=so.1 y z; lia
   rw [show c::cs=[]++(c::cs) from rfl,insC_hi _ _ hi]
   simp [insC]
theorem ins_at (x:Int) (s:Str):∀ (cs:List Card) (fs:List (List Card)),fs.length=cs.length+1->Srt (T.inter fs cs)->atC cs (placeC cs x) x=false->
  T.inter (fs.take (placeC cs x)++[insC (fs.getD (placeC cs x) []) x s]++fs.drop (placeC cs x+1)) cs=insC (T.inter fs cs) x s
 | [],fs,hl,_,_=>by
  match fs,hl with
  | [f],_=>simp [T.inter]
 | c::cs,fs,hl,so,a=>by
  match fs,hl with
  | f::fs,hl=>
   have hl':fs.length=cs.length+1:=by simpa using hl
   rw [T.inter] at so
   rw [show T.inter (f::fs) (c::cs)=f++c::T.inter fs cs by rw [T.inter]]
   obtain⟨h1,h2,h3⟩:=srt_head so
   rw [placeC_cons] at a |-
   by_cases c1:c.1 < x
   ·rw [if_pos c1] at a |-
    rw [ins_hit.atC_succ] at a
    rw [splice_cons,T.inter,List.getD_cons_succ,ins_at x s cs fs hl' h3 a,show f++c::T.inter fs cs=(f++[c])++T.inter fs cs by simp,insC_lo _ _ fun y hy=>by
     rcases List.mem_append.mp hy with z | z
     ·have:=h1 y z; lia
     ·rw [List.mem_singleton.mp z]; exact c1]
    simp
   ·rw [if_neg c1] at a |-
    have e:c.1≠x:=by simpa [atC] using a
    have hi:∀ y∈c::T.inter fs cs,x < y.1:=fun y hy=>by
     rcases List.mem_cons.mp hy with rfl | z
     ·lia
     ·have:=h2 y z; lia
    rw [insC_hi _ _ hi]
    simp [T.inter]
noncomputable def partL (w:Nat) (u:T):T:=.node (u.cs.take (w / 2)) (u.bs.take (w / 2+1))
noncomputable def partR (w:Nat) (u:T):T:=.node (u.cs.drop (w / 2+1)) (u.bs.drop (w / 2+1))
noncomputable def midC (w:Nat) (u:T):Card:=u.cs.getD (w / 2) (0,Str.ofString "")
noncomputable def wupT (w:Nat) (cs:List Card) (bs:List T) (p:Nat) (u:T):T:=
 if u.cs.length<=w then .node cs (bs.take p++[u]++bs.drop (p+1)) else .node (cs.take p++[midC w u]++cs.drop p) (bs.take p++[partL w u,partR w u]++bs.drop (p+1))
noncomputable def layT (w:Nat) (x:Int) (s:Str):Nat->T->T
 | 0,t=>t
 | n+1,.node cs bs=>if atC cs (placeC cs x) x=true then .node (cs.take (placeC cs x)++[(x,s)]++cs.drop (placeC cs x+1)) bs else
  match bs[placeC cs x]? with
  | none=>.node (cs.take (placeC cs x)++[(x,s)]++cs.drop (placeC cs x)) bs
  | some b=>wupT w cs bs (placeC cs x) (layT w x s n b)
noncomputable def topT (w:Nat) (u:T):T:=if u.cs.length<=w then u else .node [midC w u] [partL w u,partR w u]
noncomputable def VW (half w n:Nat) (u:T):Prop:=u.cs.length<=w+1/\(n=0->u.bs=[])/\(0 < n->u.bs.length=u.cs.length+1/\∀ b∈u.bs,T.V half w half n b)
theorem mid_split {w:Nat}{u:T} (h:¬ u.cs.length<=w):u.cs=u.cs.take (w / 2)++midC w u::u.cs.drop (w / 2+1):=by
 have hl:w / 2 < u.cs.length:=by lia
 unfold midC
 rw [List.getD_eq_getElem?_getD,List.getElem?_eq_getElem hl]
 exact (List.take_append_getElem_cons_drop hl).symm
where
 List.take_append_getElem_cons_drop {α:Type}{l:List α}{i:Nat} (h:i < l.length):l.take i++l[i]::l.drop (i+1)=l:=by
  rw [List.getElem_cons_drop,List.take_append_drop]
theorem part_flat {half w n:Nat}{u:T} (v:VW half w n u) (h:¬ u.cs.length<=w):u.flat=(partL w u).flat++midC w u::(partR w u).flat:=by
 obtain⟨h1,h2,h3⟩:=v
 have sp:=mid_split h
 rw [T.flat_eq u]
 unfold partL partR
 rw [T.flat_node,T.flat_node]
 by_cases hn:n=0
 ·rw [h2 hn]
  simp only [List.map_nil,List.take_nil,List.drop_nil,inter_nil]
  exact sp
 ·obtain⟨bl,_⟩:=h3 (by lia)
  have sb:u.bs.map T.flat=(u.bs.take (w / 2+1)).map T.flat++(u.bs.drop (w / 2+1)).map T.flat:=by rw [<-List.map_append,List.take_append_drop]
  rw [sb]
  conv=>lhs; rw [sp]
  exact inter_join _ _ _ (by rw [List.length_map,List.length_take,List.length_take]; lia)
theorem part_V {half w n:Nat}{u:T} (hh:half=w / 2) (v:VW half w n u) (h:¬ u.cs.length<=w):T.V half w half (n+1) (partL w u)/\T.V half w half (n+1) (partR w u):=by
 obtain⟨h1,h2,h3⟩:=v
 refine⟨T.V.mk ?_ ?_ (fun z=>by rw [h2 z]; rfl) fun z=>?_,T.V.mk ?_ ?_ (fun z=>by rw [h2 z]; simp) fun z=>?_⟩
 ·rw [List.length_take]; lia
 ·rw [List.length_take]; lia
 ·obtain⟨bl,bv⟩:=h3 z
  exact⟨by rw [List.length_take,List.length_take]; lia,fun b hb=>bv b (List.mem_of_mem_take hb)⟩
 ·rw [List.length_drop]; lia
 ·rw [List.length_drop]; lia
 ·obtain⟨bl,bv⟩:=h3 z
  exact⟨by rw [List.length_drop,List.length_drop]; lia,fun b hb=>bv b (List.mem_of_mem_drop hb)⟩
theorem wup_ok {half w n p:Nat}{cs:List Card}{bs:List T}{u:T} (hh:half=w / 2) (hc:cs.length<=w) (bl:bs.length=cs.length+1) (bv:∀ b∈bs,T.V half w half (n+1) b) (hp:p<=cs.length) (vu:VW half w n u) (hu:half<=u.cs.length):
  VW half w (n+1) (wupT w cs bs p u)/\cs.length<=(wupT w cs bs p u).cs.length/\(wupT w cs bs p u).flat=T.inter ((bs.map T.flat).take p++[u.flat]++(bs.map T.flat).drop (p+1)) cs:=by
 unfold wupT
 by_cases h:u.cs.length<=w
 ·rw [if_pos h]
  refine⟨⟨by simp only [T.cs_node]; lia,fun z=>by lia,fun _=>⟨?_,fun b hb=>?_⟩⟩,Nat.le_refl _,?_⟩
  ·simp only [T.cs_node,T.bs_node]
   rw [len_splice (by lia) (by lia)]
   simp
   lia
  ·simp only [T.bs_node] at hb
   rcases mem3 hb with⟨i,_,e⟩ | z | ⟨i,_,e⟩
   ·exact bv b (List.mem_of_getElem? e)
   ·rw [List.mem_singleton.mp z]
    cases u with
    | node ucs ubs=>exact T.V.mk hu h vu.2.1 vu.2.2
   ·exact bv b (List.mem_of_getElem? e)
  ·rw [T.flat_node]
   simp [List.map_take,List.map_drop]
 ·rw [if_neg h]
  obtain⟨vl,vr⟩:=part_V hh vu h
  refine⟨⟨?_,fun z=>by lia,fun _=>⟨?_,fun b hb=>?_⟩⟩,?_,?_⟩
  ·simp only [T.cs_node]
   rw [len_splice hp hp]
   simp
   lia
  ·simp only [T.cs_node,T.bs_node]
   rw [len_splice (by lia) (by lia),len_splice hp hp]
   simp
   lia
  ·simp only [T.bs_node] at hb
   rcases mem3 hb with⟨i,_,e⟩ | z | ⟨i,_,e⟩
   ·exact bv b (List.mem_of_getElem? e)
   ·simp only [List.mem_cons,List.not_mem_nil,or_false] at z
    rcases z with rfl | rfl
    ·exact vl
    ·exact vr
   ·exact bv b (List.mem_of_getElem? e)
  ·simp only [T.cs_node]
   rw [len_splice hp hp]
   simp
   lia
  ·rw [T.flat_node,part_flat vu h]
   have e1:(bs.take p++[partL w u,partR w u]++bs.drop (p+1)).map T.flat=(bs.map T.flat).take p++((partL w u).flat::(partR w u).flat::(bs.map T.flat).drop (p+1)):=by simp [List.map_take,List.map_drop]
   have e2:cs.take p++[midC w u]++cs.drop p=cs.take p++(midC w u::cs.drop p):=by simp
   have e3:(bs.map T.flat).take p++[(partL w u).flat++midC w u::(partR w u).flat]++(bs.map T.flat).drop (p+1)=(bs.map T.flat).take p++(((partL w u).flat++midC w u::(partR w u).flat)::(bs.map T.flat).drop (p+1)):=by simp
   have hl:((bs.map T.flat).take p).length=(cs.take p).length:=by rw [List.length_take,List.length_take,List.length_map]; lia
   rw [e1,e2,e3,inter_app _ _ hl]
   conv=>rhs; rw [<-List.take_append_drop p cs]
   rw [inter_app _ _ hl]
   congr 1
   obtain⟨r,hr⟩:=inter_head ((bs.map T.flat).drop (p+1)) (cs.drop p)
   rw [hr,show T.inter ((partL w u).flat::(partR w u).flat::(bs.map T.flat).drop (p+1)) (midC w u::cs.drop p)=(partL w u).flat++midC w u::T.inter ((partR w u).flat::(bs.map T.flat).drop (p+1)) (cs.drop p) by rw [T.inter],hr]
   simp
theorem lay_ok {half w:Nat} (x:Int) (s:Str) (hh:half=w / 2):∀ (n own:Nat) (t:T),T.V half w own (n+1) t->Srt t.flat->
  (layT w x s (n+1) t).flat=insC t.flat x s/\VW half w n (layT w x s (n+1) t)/\t.cs.length<=(layT w x s (n+1) t).cs.length/\((∃ c∈t.flat,c.1=x)->(layT w x s (n+1) t).cs.length=t.cs.length)
 | n,own,.node cs bs,v,so=>by
  have ple:=placeC_le cs x
  have hc:=v.hi
  simp only [T.cs_node] at hc
  have so':=so
  rw [T.flat_node] at so' |-
  unfold layT
  cases ha:atC cs (placeC cs x) x with
  | true=>
   rw [if_pos rfl,T.flat_node]
   have plt:placeC cs x < cs.length:=by
    by_cases z:placeC cs x < cs.length
    ·exact z
    ·unfold atC at ha
     rw [List.getElem?_eq_none (by lia)] at ha
     cases ha
   have ll:(cs.take (placeC cs x)++[(x,s)]++cs.drop (placeC cs x+1)).length=cs.length:=by
    rw [len_splice (by lia) (by lia)]
    simp
    lia
   refine⟨?_,⟨by simp only [T.cs_node]; lia,fun z=>?_,fun z=>?_⟩,by simp only [T.cs_node]; lia,fun _=>by simp only [T.cs_node]; exact ll⟩
   ·by_cases hn:n=0
    ·subst hn
     have hbs:bs=[]:=v.leaf
     subst hbs
     simp only [List.map_nil,inter_nil] at so' |-
     exact ins_hit_bot x s cs so' ha
    ·exact ins_hit x s cs _ (by rw [List.length_map]; exact (v.kids (by lia)).1) so' ha
   ·subst z
    exact v.leaf
   ·obtain⟨bl,bv⟩:=v.kids z
    simp only [T.cs_node,T.bs_node] at bl bv |-
    exact⟨by lia,bv⟩
  | false=>
   rw [if_neg (by decide)]
   by_cases hn:n=0
   ·subst hn
    have hbs:bs=[]:=v.leaf
    subst hbs
    have ll:(cs.take (placeC cs x)++[(x,s)]++cs.drop (placeC cs x)).length=cs.length+1:=by
     rw [len_splice (by lia) (by lia)]
     simp
     lia
    simp only [List.getElem?_nil]
    rw [T.flat_node]
    simp only [List.map_nil,inter_nil] at so' |-
    refine⟨ins_bot x s cs so' ha,⟨by simp only [T.cs_node]; lia,fun _=>rfl,fun z=>by lia⟩,by simp only [T.cs_node]; lia,fun⟨c,hm,e⟩=>?_⟩
    exfalso
    have:=not_there so' ha c hm
    exact this e
   ·obtain⟨m,rfl⟩:∃ m,n=m+1:=⟨n - 1,by lia⟩
    obtain⟨bl,bv⟩:=v.kids (by lia)
    simp only [T.cs_node,T.bs_node] at bl bv
    have hbp:bs[placeC cs x]?=some bs[placeC cs x]:=List.getElem?_eq_getElem (by lia)
    have vb:=bv _ (List.mem_of_getElem? hbp)
    have hlm:(bs.map T.flat).length=cs.length+1:=by rw [List.length_map]; exact bl
    obtain⟨i1,i2,i3,i4⟩:=lay_ok x s hh m half _ vb (srt_below so (List.mem_of_getElem? hbp))
    rw [hbp]
    dsimp only
    have vlo:=vb.lo
    obtain⟨w1,w2,w3⟩:=wup_ok hh hc bl bv ple i2 (by lia)
    refine⟨?_,w1,w2,fun⟨c,hm,e⟩=>?_⟩
    ·rw [w3,i1,<-ins_at x s cs (bs.map T.flat) hlm so' ha]
     congr 2
     rw [List.getD_eq_getElem?_getD,List.getElem?_map,hbp]
     rfl
    ·have hin:∃ c∈(bs[placeC cs x]).flat,c.1=x:=by
      have:=in_below cs (bs.map T.flat) hlm so' ha ⟨c,hm,e⟩
      rw [List.getD_eq_getElem?_getD,List.getElem?_map,hbp] at this
      exact this
     have hl:=i4 hin
     have vhi:=vb.hi
     unfold wupT
     rw [if_pos (by lia)]
     rfl
where
 not_there {cs:List Card}{x:Int} (so:Srt cs) (ha:atC cs (placeC cs x) x=false):∀ c∈cs,c.1≠x:=by
  induction cs with
  | nil=>intro c hc; exact nomatch hc
  | cons k cs ih=>
   rw [Srt,List.pairwise_cons] at so
   rw [placeC_cons] at ha
   intro c hc
   by_cases c1:k.1 < x
   ·rw [if_pos c1,ins_hit.atC_succ] at ha
    rcases List.mem_cons.mp hc with rfl | z
    ·lia
    ·exact ih so.2 ha c z
   ·rw [if_neg c1] at ha
    have e:k.1≠x:=by simpa [atC] using ha
    rcases List.mem_cons.mp hc with rfl | z
    ·exact e
    ·have:=so.1 c z; lia
 in_below {x:Int}:∀ (cs:List Card) (fs:List (List Card)),fs.length=cs.length+1->Srt (T.inter fs cs)->atC cs (placeC cs x) x=false->(∃ c∈T.inter fs cs,c.1=x)->∃ c∈fs.getD (placeC cs x) [],c.1=x
  | [],fs,hl,_,_,⟨c,hm,e⟩=>by
   match fs,hl with
   | [f],_=>exact⟨c,by simpa [T.inter] using hm,e⟩
  | k::cs,fs,hl,so,ha,⟨c,hm,e⟩=>by
   match fs,hl with
   | f::fs,hl=>
    have hl':fs.length=cs.length+1:=by simpa using hl
    rw [T.inter] at so hm
    obtain⟨h1,h2,h3⟩:=srt_head so
    rw [placeC_cons] at ha |-
    by_cases c1:k.1 < x
    ·rw [if_pos c1,ins_hit.atC_succ] at ha
     rw [if_pos c1,List.getD_cons_succ]
     refine in_below cs fs hl' h3 ha ⟨c,?_,e⟩
     rcases List.mem_append.mp hm with z | z
     ·have:=h1 c z; lia
     ·rcases List.mem_cons.mp z with rfl | z
      ·lia
      ·exact z
    ·rw [if_neg c1] at ha |-
     have ek:k.1≠x:=by simpa [atC] using ha
     refine⟨c,?_,e⟩
     rcases List.mem_append.mp hm with z | z
     ·exact z
     ·rcases List.mem_cons.mp z with rfl | z
      ·lia
      ·have:=h2 c z; lia
noncomputable abbrev P3:=Nat×Nat×Nat
noncomputable abbrev X2:=List D×List D
noncomputable def At3 (h:Hh) (p:P3) (x:X2):Prop:=h[p.1]?=some (.lst [.lst p.2.1,.lst p.2.2])/\h[p.2.1]?=some (.lst x.1)/\h[p.2.2]?=some (.lst x.2)
structure Rw (h:Hh) (R:Nat) (ps:List P3) (xs:List X2):Prop where
 out:h[R]?=some (.lst (ps.map fun p=>.lst p.1))
 len:ps.length=xs.length
 at':∀ (i:Nat) (p:P3) (x:X2),ps[i]?=some p->xs[i]?=some x->At3 h p x
section
variable {h:Hh}{C R:Nat}{ps:List P3}{xs:List X2}{i:Nat}{p:P3}{x:X2}
theorem rowA {e:En}{f:FE} (r:Rw h R ps xs) (q:e[4]?=some (some (.lst R))) (qf:f e h=.ok (.int i) h) (hp:ps[i]?=some p) (hx:xs[i]?=some x):f2 oIx (f2 oIx (fV 4) f) (fC (.int 0)) e h=.ok (.lst p.2.1) h:=by
 rw [f2_ok (x:=.lst p.1) (h1:=h) (by rw [f2_ok (fV_ok q h) qf,oIx_lst r.out,atI_nat',List.getElem?_map,hp]; rfl) rfl,oIx_lst (r.at' i p x hp hx).1]
 rfl
theorem lenA {e:En}{f:FE} (r:Rw h R ps xs) (q:e[4]?=some (some (.lst R))) (qf:f e h=.ok (.int i) h) (hp:ps[i]?=some p) (hx:xs[i]?=some x):fc oLen (fAll [f2 oIx (f2 oIx (fV 4) f) (fC (.int 0))]) e h=.ok (.int x.1.length) h:=by
 rw [fc_ok (fAll1 (rowA r q qf hp hx)),oLen_lst (r.at' i p x hp hx).2.1]
 rfl
end
noncomputable def Frm (C R:Nat) (ps:List P3) (h h':Hh):Prop:=h.length<=h'.length/\∀ (n:Nat) (o:O),h[n]?=some o->n≠C->n≠R->(∀ p∈ps,n≠p.2.1/\n≠p.2.2)->h'[n]?=some o
section
variable {h h':Hh}{C R:Nat}{ps:List P3}
theorem Frm.refl:Frm C R ps h h:=⟨Nat.le_refl _,fun _ _ e _ _ _=>e⟩
theorem Frm.app (f:Frm C R ps h h') (o:O):Frm C R ps h (h'++[o]):=⟨by have:=f.1; simp; lia,fun n o' e a b c=>(Grow.app _ _).at' (f.2 n o' e a b c)⟩
end
section
variable {h:Hh}{C R q0 p w half:Nat}{ps:List P3}{xs:List X2}{cs:List D}
end
section
variable {h:Hh}{C R q0 p w half:Nat}{ps:List P3}{xs:List X2}{cs:List D}
end
section
variable {h:Hh}{C R q0 p w half:Nat}{ps ps':List P3}{xs xs':List X2}{cs cs':List D}
end
theorem splice1 {α:Type}{l:List α}{p:Nat} (a:α) (h:p < l.length):l.take p++[a]++l.drop (p+1)=l.set p a:=by
 rw [List.set_eq_take_append_cons_drop,if_pos h]
 simp
theorem relF_part {w:Nat}{u:T} (h0:w / 2 < u.cs.length) (hb:u.bs.length<=10000) (h:Hh):relF R_parted [.int (w:Int),u.d] h=some (.tup [(partL w u).d,cardD (midC w u),(partR w u).d],h):=by
 cases u with
 | node cs bs=>
  simp only [T.cs_node,T.bs_node] at h0 hb
  have hw:((w:Int) / 2).toNat=w / 2:=by lia
  have e:=relF_eq det_parted (ds:=[.int (w:Int),(T.node cs bs).d]) (d:=partedD (w:Int) (cs.map cardD) (bs.map T.d)) ⟨w,_,cs.map cardD,bs.map T.d,by rw [T.d_node]; rfl,rfl,by lia,by rw [hw,List.length_map]; exact h0,fun b hb=>by obtain⟨t,_,rfl⟩:=List.mem_map.mp hb; exact t.isDr,hb_cards cs,hb_trees bs,by rw [List.length_map]; exact sz1000 (by lia)⟩ h
  rw [e]
  unfold partedD partL partR midC
  rw [hw,T.d_node,T.d_node]
  simp only [T.cs_node,T.bs_node,List.map_take,List.map_drop]
  rw [List.getD_eq_getElem?_getD,List.getD_eq_getElem?_getD,List.getElem?_map,List.getElem?_eq_getElem h0]
  rfl
noncomputable def R_wup (ds:List D) (d:D):Prop:=∃ (w:Nat) (cs:List Card) (bs:List T) (p:Nat) (u:T),ds=[.int (w:Int),(T.node cs bs).d,.int (p:Int),u.d]/\d=(wupT w cs bs p u).d/\cs.length<=1000/\bs.length<=1001/\u.bs.length<=1002
theorem runs_wup:Runs (fnRun 7 (t_with_under_parted (relF R_spliced) (relF R_drawer) (relF R_parted))) R_wup:=by
 rintro ds d ⟨w,cs,bs,p,u,rfl,rfl,hc,hb,hu⟩
 refine⟨T.hbd _,fun h=>⟨[],fnRun_rt ?_⟩⟩
 rw [List.append_nil]
 have i0:=t_ix0 (.node cs bs) h
 have i1:=t_ix1 (.node cs bs) h
 have e1:(p:Int)+1=((p+1:Nat):Int):=by lia
 have lu:fB (f2 oLe (fc oLen (fAll [(f2 oIx (fV 3) (fC (.int 0)))])) (fV 0)) [some (.int (w:Int)),some (T.node cs bs).d,some (.int (p:Int)),some u.d,some (.tup (cs.map cardD)),some (.tup (bs.map T.d)),none] h=.ok (decide (u.cs.length<=w)) h:=by
  refine fB_ok ?_
  rw [f2_ok (t_len0 (t:=u) (h:=h) rfl) (y:=.int w) (h2:=h) rfl]
  show Res.ok (D.bl (decide ((u.cs.length:Int)<=(w:Int)))) h=_
  rw [decide_eq_decide.mpr (show ((u.cs.length:Int)<=(w:Int))↔u.cs.length<=w by lia)]
 unfold t_with_under_parted wupT
 rw [fSeq_nx (e1:=[some (.int (w:Int)),some (T.node cs bs).d,some (.int (p:Int)),some u.d,some (.tup (cs.map cardD)),none,none]) (h1:=h) (fSet_ok (by rw [f2_ok (x:=(T.node cs bs).d) (h1:=h) rfl rfl,i0]; rfl))]
 rw [fSeq_nx (e1:=[some (.int (w:Int)),some (T.node cs bs).d,some (.int (p:Int)),some u.d,some (.tup (cs.map cardD)),some (.tup (bs.map T.d)),none]) (h1:=h) (fSet_ok (by rw [f2_ok (x:=(T.node cs bs).d) (h1:=h) rfl rfl,i1]; rfl))]
 by_cases c:u.cs.length<=w
 ·rw [if_pos c]
  refine fSeq_rt ?_
  rw [fIfS_t (by rw [lu,decide_eq_true c])]
  refine fRet_ok ?_
  have p1:relF R_spliced [.tup (bs.map T.d),.int (p:Int),.int ((p+1:Nat):Int),.tup [u.d]] h=_:=relF_spB bs [u] p (p+1) (by lia) (by simp) h
  have d1:=relF_dr cs (bs.take p++[u]++bs.drop (p+1)) (by simp; lia) h
  simp only [fSeq,fSet,fRet,fDrop,fIfS,fB,f1,f2,fc,fAll,fTup,fLst,fC,fV,fAnd,fOr,fNot,fAndV,fOrV,fSl,fNoPart,fPart,fNext,startE,getO_some,asB_bl,ofO_some,Res.bind_ok,Res.out_ok,List.getElem?_cons_zero,List.getElem?_cons_succ,oAdd_int,e1,p1,d1]
 ·rw [if_neg c]
  rw [fSeq_nx (e1:=[some (.int (w:Int)),some (T.node cs bs).d,some (.int (p:Int)),some u.d,some (.tup (cs.map cardD)),some (.tup (bs.map T.d)),none]) (h1:=h) (by rw [fIfS_f (by rw [lu,decide_eq_false c])]; rfl)]
  have q1:=relF_part (w:=w) (u:=u) (by lia) (by lia) h
  rw [fSeq_nx (e1:=[some (.int (w:Int)),some (T.node cs bs).d,some (.int (p:Int)),some u.d,some (.tup (cs.map cardD)),some (.tup (bs.map T.d)),some (.tup [(partL w u).d,cardD (midC w u),(partR w u).d])]) (h1:=h) (fSet_ok (by rw [fc_ok (ds:=[.int (w:Int),u.d]) (h1:=h) rfl,q1]; rfl))]
  refine fRet_ok ?_
  have p1:relF R_spliced [.tup (cs.map cardD),.int (p:Int),.int (p:Int),.tup [cardD (midC w u)]] h=_:=relF_spC cs [midC w u] p p (by lia) (by simp) h
  have p2:relF R_spliced [.tup (bs.map T.d),.int (p:Int),.int ((p+1:Nat):Int),.tup [(partL w u).d,(partR w u).d]] h=_:=relF_spB bs [partL w u,partR w u] p (p+1) (by lia) (by simp) h
  have d1:=relF_dr (cs.take p++[midC w u]++cs.drop p) (bs.take p++[partL w u,partR w u]++bs.drop (p+1)) (by simp; lia) h
  have x0:∀ h,oIx (.tup [(partL w u).d,cardD (midC w u),(partR w u).d]) (.int 0) h=some ((partL w u).d,h):=fun _=>rfl
  have x1:∀ h,oIx (.tup [(partL w u).d,cardD (midC w u),(partR w u).d]) (.int 1) h=some (cardD (midC w u),h):=fun _=>rfl
  have x2:∀ h,oIx (.tup [(partL w u).d,cardD (midC w u),(partR w u).d]) (.int 2) h=some ((partR w u).d,h):=fun _=>rfl
  simp only [fSeq,fSet,fRet,fDrop,fIfS,fB,f1,f2,fc,fAll,fTup,fLst,fC,fV,fAnd,fOr,fNot,fAndV,fOrV,fSl,fNoPart,fPart,fNext,startE,getO_some,asB_bl,ofO_some,Res.bind_ok,Res.out_ok,List.getElem?_cons_zero,List.getElem?_cons_succ,oAdd_int,e1,x0,x1,x2,p1,p2,d1]
theorem det_wup:Det R_wup:=runs_wup.det
noncomputable def R_laid (n:Nat) (ds:List D) (d:D):Prop:=∃ (w half own j:Nat) (x:Int) (s:Str) (t:T),ds=[.int (w:Int),t.d,.int x,.str s]/\d=(layT w x s j t).d/\half=w / 2/\j<=n/\T.V half w own j t/\Srt t.flat/\w<=900
theorem runs_laid_of {n:Nat} (dt:Det (R_laid n)):Runs (fnRun 8 (t_laid_in (relF R_place) (fnRun 3 t_is_at) (relF R_spliced) (relF R_drawer) (relF (R_laid n)) (relF R_wup))) (R_laid (n+1)):=by
 rintro ds d ⟨w,half,own,j,x,s,⟨cs,bs⟩,rfl,rfl,hh,hj,v,so,hw⟩
 refine⟨T.hbd _,fun h=>⟨[],fnRun_rt ?_⟩⟩
 rw [List.append_nil]
 match j,v with
 | 0,v=>exact v.elim
 | j+1,v=>
  have hc:=v.hi
  have hbz:=v.bsz
  simp only [T.cs_node,T.bs_node] at hc hbz
  have i0:=t_ix0 (.node cs bs) h
  have i1:=t_ix1 (.node cs bs) h
  have pl:=relF_eq det_place ⟨cs,x,rfl,rfl,by lia⟩ h
  have ple:=placeC_le cs x
  have ia:=run_isat cs (placeC cs x) x h
  unfold layT
  generalize hp:placeC cs x=p at pl ple ia
  have e1:(p:Int)+1=((p+1:Nat):Int):=by lia
  unfold t_laid_in
  rw [fSeq_nx (e1:=[some (.int (w:Int)),some (T.node cs bs).d,some (.int x),some (.str s),some (.tup (cs.map cardD)),none,none,none]) (h1:=h) (fSet_ok (by rw [f2_ok (x:=(T.node cs bs).d) (h1:=h) rfl rfl,i0]; rfl))]
  rw [fSeq_nx (e1:=[some (.int (w:Int)),some (T.node cs bs).d,some (.int x),some (.str s),some (.tup (cs.map cardD)),some (.tup (bs.map T.d)),none,none]) (h1:=h) (fSet_ok (by rw [f2_ok (x:=(T.node cs bs).d) (h1:=h) rfl rfl,i1]; rfl))]
  rw [fSeq_nx (e1:=[some (.int (w:Int)),some (T.node cs bs).d,some (.int x),some (.str s),some (.tup (cs.map cardD)),some (.tup (bs.map T.d)),some (.int p),none]) (h1:=h) (fSet_ok (by rw [fc_ok (ds:=[.tup (cs.map cardD),.int x]) (h1:=h) rfl,pl]; rfl))]
  have tst:fB (fc (fnRun 3 t_is_at) (fAll [(fV 4),(fV 6),(fV 2)])) [some (.int (w:Int)),some (T.node cs bs).d,some (.int x),some (.str s),some (.tup (cs.map cardD)),some (.tup (bs.map T.d)),some (.int p),none] h=.ok (atC cs p x) h:=by
   refine fB_ok ?_
   rw [fc_ok (ds:=[.tup (cs.map cardD),.int p,.int x]) (h1:=h) rfl,ia]
   rfl
  have cd:D.tup [.int x,.str s]=cardD (x,s):=rfl
  cases ha:atC cs p x with
  | true=>
   rw [if_pos rfl]
   refine fSeq_rt ?_
   rw [fIfS_t (by rw [tst,ha])]
   refine fRet_ok ?_
   have p1:relF R_spliced [.tup (cs.map cardD),.int (p:Int),.int ((p+1:Nat):Int),.tup [cardD (x,s)]] h=_:=relF_spC cs [(x,s)] p (p+1) (by lia) (by simp) h
   have d1:=relF_dr (cs.take p++[(x,s)]++cs.drop (p+1)) bs (by lia) h
   simp only [fSeq,fSet,fRet,fDrop,fIfS,fB,f1,f2,fc,fAll,fTup,fLst,fC,fV,fAnd,fOr,fNot,fAndV,fOrV,fSl,fNoPart,fPart,fNext,startE,getO_some,asB_bl,ofO_some,Res.bind_ok,Res.out_ok,List.getElem?_cons_zero,List.getElem?_cons_succ,oAdd_int,e1,cd,p1,d1]
  | false=>
   rw [if_neg (by decide)]
   rw [fSeq_nx (e1:=[some (.int (w:Int)),some (T.node cs bs).d,some (.int x),some (.str s),some (.tup (cs.map cardD)),some (.tup (bs.map T.d)),some (.int p),none]) (h1:=h) (by rw [fIfS_f (by rw [tst,ha])]; rfl)]
   by_cases hn:j=0
   ·subst hn
    have hbs:bs=[]:=v.leaf
    subst hbs
    simp only [List.getElem?_nil]
    refine fSeq_rt ?_
    rw [fIfS_t (h1:=h) (by simp [fSeq,fSet,fRet,fDrop,fIfS,fB,f1,f2,fc,fAll,fTup,fLst,fC,fV,fAnd,fOr,fNot,fAndV,fOrV,fSl,fNoPart,fPart,fNext,startE,getO_some,asB_bl,ofO_some,Res.bind_ok,Res.out_ok])]
    refine fRet_ok ?_
    have p1:relF R_spliced [.tup (cs.map cardD),.int (p:Int),.int (p:Int),.tup [cardD (x,s)]] h=_:=relF_spC cs [(x,s)] p p (by lia) (by simp) h
    have d1:=relF_dr (cs.take p++[(x,s)]++cs.drop p) [] (by simp) h
    simp only [fSeq,fSet,fRet,fDrop,fIfS,fB,f1,f2,fc,fAll,fTup,fLst,fC,fV,fAnd,fOr,fNot,fAndV,fOrV,fSl,fNoPart,fPart,fNext,startE,getO_some,asB_bl,ofO_some,Res.bind_ok,Res.out_ok,List.getElem?_cons_zero,List.getElem?_cons_succ,cd,p1]
    rw [d1]
    rfl
   ·obtain⟨bl,bv⟩:=v.kids (by lia)
    simp only [T.cs_node,T.bs_node] at bl bv
    have hbp:bs[p]?=some bs[p]:=List.getElem?_eq_getElem (by lia)
    have vb:=bv _ (List.mem_of_getElem? hbp)
    have sb:=srt_below so (List.mem_of_getElem? hbp)
    rw [hbp]
    dsimp only
    rw [fSeq_nx (e1:=[some (.int (w:Int)),some (T.node cs bs).d,some (.int x),some (.str s),some (.tup (cs.map cardD)),some (.tup (bs.map T.d)),some (.int p),none]) (h1:=h) (by
     rw [fIfS_f (h1:=h) (empty_no rfl (by rw [List.length_map]; lia))]
     rfl)]
    have q1:relF (R_laid n) [.int (w:Int),(bs[p]).d,.int x,.str s] h=some ((layT w x s j bs[p]).d,h):=relF_eq dt ⟨w,half,half,j,x,s,_,rfl,rfl,hh,by lia,vb,sb,hw⟩ h
    rw [fSeq_nx (e1:=[some (.int (w:Int)),some (T.node cs bs).d,some (.int x),some (.str s),some (.tup (cs.map cardD)),some (.tup (bs.map T.d)),some (.int p),some (layT w x s j bs[p]).d]) (h1:=h) (fSet_ok (by
     rw [fc_ok (ds:=[.int (w:Int),(bs[p]).d,.int x,.str s]) (h1:=h) (fAll_cons (d:=.int (w:Int)) (h1:=h) rfl (fAll_cons (d:=(bs[p]).d) (h1:=h) (by rw [f2_ok (x:=.tup (bs.map T.d)) (h1:=h) (y:=.int p) (h2:=h) rfl rfl,oIx_tup,atI_nat',List.getElem?_map,hbp]; rfl) rfl)),q1]
     rfl))]
    refine fRet_ok ?_
    obtain⟨m,rfl⟩:∃ m,j=m+1:=⟨j - 1,by lia⟩
    obtain⟨_,vw,_,_⟩:=lay_ok x s hh m half _ vb sb
    have ub:(layT w x s (m+1) bs[p]).bs.length<=1002:=by
     by_cases z:m=0
     ·rw [vw.2.1 z]; simp
     ·have:=(vw.2.2 (by lia)).1
      have:=vw.1
      lia
    rw [fc_ok (ds:=[.int (w:Int),(T.node cs bs).d,.int (p:Int),(layT w x s (m+1) bs[p]).d]) (h1:=h) rfl,relF_eq det_wup ⟨w,cs,bs,p,_,rfl,rfl,by lia,by lia,ub⟩ h]
    rfl
theorem R_laid0 (ds:List D) (d:D):¬ R_laid 0 ds d:=by
 rintro⟨w,half,own,j,x,s,t,_,_,_,hj,v,_⟩
 have:j=0:=by lia
 subst this
 exact v
theorem det_laid:∀ n,Det (R_laid n)
 | 0=>fun ds d d' h=>absurd h (R_laid0 ds d)
 | n+1=>(runs_laid_of (det_laid n)).det
theorem runs_laid (n:Nat):Runs (fnRun 8 (t_laid_in (relF R_place) (fnRun 3 t_is_at) (relF R_spliced) (relF R_drawer) (relF (R_laid n)) (relF R_wup))) (R_laid (n+1)):=runs_laid_of (det_laid n)
noncomputable def R_put (n:Nat) (ds:List D) (d:D):Prop:=∃ (w half own j:Nat) (x:Int) (s:Str) (t:T),ds=[.int (w:Int),t.d,.int x,.str s]/\d=(topT w (layT w x s j t)).d/\half=w / 2/\j<=n/\T.V half w own j t/\Srt t.flat/\w<=900
theorem runs_put (n:Nat):Runs (fnRun 6 (t_put_in (relF (R_laid n)) (relF R_parted) (relF R_drawer))) (R_put n):=by
 rintro ds d ⟨w,half,own,j,x,s,t,rfl,rfl,hh,hj,v,so,hw⟩
 refine⟨T.hbd _,fun h=>⟨[],fnRun_rt ?_⟩⟩
 rw [List.append_nil]
 have q1:relF (R_laid n) [.int (w:Int),t.d,.int x,.str s] h=some ((layT w x s j t).d,h):=relF_eq (det_laid n) ⟨w,half,own,j,x,s,_,rfl,rfl,hh,hj,v,so,hw⟩ h
 obtain⟨m,rfl⟩:∃ m,j=m+1:=⟨j - 1,by
  cases j with
  | zero=>exact v.elim
  | succ j=>lia⟩
 obtain⟨_,vw,_,_⟩:=lay_ok x s hh m own t v so
 generalize layT w x s (m+1) t=u at q1 vw
 have ub:u.bs.length<=1002:=by
  by_cases z:m=0
  ·rw [vw.2.1 z]; simp
  ·have:=(vw.2.2 (by lia)).1
   have:=vw.1
   lia
 unfold t_put_in topT
 rw [fSeq_nx (e1:=[some (.int (w:Int)),some t.d,some (.int x),some (.str s),some u.d,none]) (h1:=h) (fSet_ok (by rw [fc_ok (ds:=[.int (w:Int),t.d,.int x,.str s]) (h1:=h) rfl,q1]; rfl))]
 have lu:fB (f2 oLe (fc oLen (fAll [(f2 oIx (fV 4) (fC (.int 0)))])) (fV 0)) [some (.int (w:Int)),some t.d,some (.int x),some (.str s),some u.d,none] h=.ok (decide (u.cs.length<=w)) h:=by
  refine fB_ok ?_
  rw [f2_ok (t_len0 (t:=u) (h:=h) rfl) (y:=.int w) (h2:=h) rfl]
  show Res.ok (D.bl (decide ((u.cs.length:Int)<=(w:Int)))) h=_
  rw [decide_eq_decide.mpr (show ((u.cs.length:Int)<=(w:Int))↔u.cs.length<=w by lia)]
 by_cases c:u.cs.length<=w
 ·rw [if_pos c]
  refine fSeq_rt ?_
  rw [fIfS_t (by rw [lu,decide_eq_true c])]
  rfl
 ·rw [if_neg c]
  rw [fSeq_nx (e1:=[some (.int (w:Int)),some t.d,some (.int x),some (.str s),some u.d,none]) (h1:=h) (by rw [fIfS_f (by rw [lu,decide_eq_false c])]; rfl)]
  have q2:=relF_part (w:=w) (u:=u) (by lia) (by lia) h
  rw [fSeq_nx (e1:=[some (.int (w:Int)),some t.d,some (.int x),some (.str s),some u.d,some (.tup [(partL w u).d,cardD (midC w u),(partR w u).d])]) (h1:=h) (fSet_ok (by rw [fc_ok (ds:=[.int (w:Int),u.d]) (h1:=h) rfl,q2]; rfl))]
  refine fRet_ok ?_
  have d1:relF R_drawer [.tup [cardD (midC w u)],.tup [(partL w u).d,(partR w u).d]] h=some ((T.node [midC w u] [partL w u,partR w u]).d,h):=relF_dr [midC w u] [partL w u,partR w u] (by simp) h
  have x0:∀ h,oIx (.tup [(partL w u).d,cardD (midC w u),(partR w u).d]) (.int 0) h=some ((partL w u).d,h):=fun _=>rfl
  have x1:∀ h,oIx (.tup [(partL w u).d,cardD (midC w u),(partR w u).d]) (.int 1) h=some (cardD (midC w u),h):=fun _=>rfl
  have x2:∀ h,oIx (.tup [(partL w u).d,cardD (midC w u),(partR w u).d]) (.int 2) h=some ((partR w u).d,h):=fun _=>rfl
  simp only [fSeq,fSet,fRet,fDrop,fIfS,fB,f1,f2,fc,fAll,fTup,fLst,fC,fV,fAnd,fOr,fNot,fAndV,fOrV,fSl,fNoPart,fPart,fNext,startE,getO_some,asB_bl,ofO_some,Res.bind_ok,Res.out_ok,List.getElem?_cons_zero,List.getElem?_cons_succ,x0,x1,x2,d1]
theorem det_put (n:Nat):Det (R_put n):=(runs_put n).det
inductive HT where
 | node (q a b:Nat) (ks:List HT)
noncomputable def HT.q:HT->Nat
 | .node q _ _ _=>q
noncomputable def HT.a:HT->Nat
 | .node _ a _ _=>a
noncomputable def HT.b:HT->Nat
 | .node _ _ b _=>b
noncomputable def HT.ks:HT->List HT
 | .node _ _ _ ks=>ks
mutual
noncomputable def HT.all:HT->List Nat
 | .node q a b ks=>q::a::b::HT.allL ks
noncomputable def HT.allL:List HT->List Nat
 | []=>[]
 | k::r=>k.all++HT.allL r
end
theorem allL_app:∀ a b:List HT,HT.allL (a++b)=HT.allL a++HT.allL b
 | [],b=>by simp [HT.allL]
 | k::r,b=>by simp [HT.allL,allL_app r b]
theorem allL_mem {ks:List HT}{k:HT} (h:k∈ks):k.all.Sublist (HT.allL ks):=by
 obtain⟨a,b,rfl⟩:=List.append_of_mem h
 rw [allL_app,HT.allL]
 exact (List.sublist_append_left _ _).trans (List.sublist_append_right _ _)
theorem all_node (q a b:Nat) (ks:List HT):(HT.node q a b ks).all=q::a::b::HT.allL ks:=by rw [HT.all]
theorem set_split {α:Type}{xs:List α}{p:Nat} (x:α) (h:p < xs.length):xs.set p x=xs.take p++x::xs.drop (p+1):=by
 rw [List.set_eq_take_append_cons_drop,if_pos h]
inductive At (h:Hh):HT->T->Prop where
 | mk {q a b:Nat}{ks:List HT}{cs:List Card}{bs:List T}:h[q]?=some (.lst [.lst a,.lst b])->h[a]?=some (.lst (cs.map cardD))->h[b]?=some (.lst (ks.map fun k=>D.lst k.q))->ks.length=bs.length->
   (∀ (i:Nat) k t,ks[i]?=some k->bs[i]?=some t->At h k t)->At h (.node q a b ks) (.node cs bs)
theorem At.frame {h h':Hh}{k:HT}{t:T} (r:At h k t):(∀ x∈k.all,h'[x]?=h[x]?)->At h' k t:=by
 induction r with
 | @mk q a b ks cs bs h1 h2 h3 h4 h5 ih=>
  intro hx
  rw [all_node] at hx
  refine .mk (by rw [hx q (by simp)]; exact h1) (by rw [hx a (by simp)]; exact h2) (by rw [hx b (by simp)]; exact h3) h4 fun i k t e1 e2=>ih i k t e1 e2 fun x z=>hx x ?_
  have:=(allL_mem (List.mem_of_getElem? e1)).subset z
  simp [this]
theorem At.lt {h:Hh}{k:HT}{t:T} (r:At h k t):∀ x∈k.all,x < h.length:=by
 induction r with
 | @mk q a b ks cs bs h1 h2 h3 h4 h5 ih=>
  intro x hx
  rw [all_node] at hx
  simp only [List.mem_cons] at hx
  rcases hx with rfl | rfl | rfl | hx
  ·exact (List.getElem?_eq_some_iff.mp h1).1
  ·exact (List.getElem?_eq_some_iff.mp h2).1
  ·exact (List.getElem?_eq_some_iff.mp h3).1
  ·have:∃ k∈ks,x∈k.all:=mem_allL ks x hx
   obtain⟨k,hk,z⟩:=this
   obtain⟨i,hi,e⟩:=List.mem_iff_getElem.mp hk
   have hi':i < bs.length:=by lia
   exact ih i k bs[i] (by rw [List.getElem?_eq_getElem hi,e]) (List.getElem?_eq_getElem hi') x z
where
 mem_allL:∀ (ks:List HT) (x:Nat),x∈HT.allL ks->∃ k∈ks,x∈k.all
  | [],x,h=>by simp [HT.allL] at h
  | k::r,x,h=>by
   rw [HT.allL] at h
   rcases List.mem_append.mp h with z | z
   ·exact⟨k,List.mem_cons_self,z⟩
   ·obtain⟨k',h1,h2⟩:=mem_allL r x z
    exact⟨k',List.mem_cons_of_mem _ h1,h2⟩
structure Fm where
 q:Nat
 a:Nat
 b:Nat
 cs:List Card
 p:Nat
 ks:List HT
 bs:List T
noncomputable def Fm.ok (f:Fm):Prop:=f.p < f.ks.length/\f.ks.length=f.bs.length
noncomputable def Fm.k (f:Fm) (k:HT):HT:=.node f.q f.a f.b (f.ks.set f.p k)
noncomputable def Fm.t (f:Fm) (t:T):T:=.node f.cs (f.bs.set f.p t)
theorem cs_sub:∀ (fs:List (List Card)) (cs:List Card),cs.Sublist (T.inter fs cs)
 | [],cs=>by rw [inter_nil]; exact List.Sublist.refl _
 | f::fs,[]=>List.nil_sublist _
 | f::fs,c::cs=>by
  rw [T.inter]
  exact ((cs_sub fs cs).cons_cons c).trans (List.sublist_append_right _ _)
inductive TK (half:Nat) (x:Int):Nat->T->T->Prop where
 | bot {n p:Nat}{cs:List Card} (hp:placeC cs x=p) (hc:cs.length<=1000) (a:atC cs p x=true):TK half x (n+1) (.node cs []) (.node (cs.take p++[]++cs.drop (p+1)) [])
 | down {n p:Nat}{cs:List Card}{bs:List T}{b u t':T} (hp:placeC cs x=p) (hc:cs.length<=1000) (hz:bs.length<=1000) (a:atC cs p x=false) (hb:bs[p]?=some b) (r:TK half x n b u)
   (m:Mend half cs (bs.take p++[u]++bs.drop (p+1)) p t'):TK half x (n+1) (.node cs bs) t'
 | here {n p:Nat}{cs:List Card}{bs:List T}{b u t':T}{c:Card} (hp:placeC cs x=p) (hc:cs.length<=1000) (hz:bs.length<=1000) (a:atC cs p x=true) (hb:bs[p]?=some b) (r:LO half 5 b c u)
   (m:Mend half (cs.take p++[c]++cs.drop (p+1)) (bs.take p++[u]++bs.drop (p+1)) p t'):TK half x (n+1) (.node cs bs) t'
inductive NK (x:Int):Nat->T->Prop where
 | bot {n p:Nat}{cs:List Card} (hp:placeC cs x=p) (hc:cs.length<=1000) (a:atC cs p x=false):NK x (n+1) (.node cs [])
 | down {n p:Nat}{cs:List Card}{bs:List T}{b:T} (hp:placeC cs x=p) (hc:cs.length<=1000) (hz:bs.length<=1000) (a:atC cs p x=false) (hb:bs[p]?=some b) (r:NK x n b):NK x (n+1) (.node cs bs)
noncomputable def R_taken (xN:Addr) (n:Nat) (ds:List D) (o:RO):Prop:=∃ (w half:Nat) (x:Int) (t:T),ds=[.int (w:Int),t.d,.int x]/\half=w / 2/\0 < half/\((∃ t',TK half x n t t'/\o=.ok t'.d)\/NK x n t/\o=.ex (.ref xN))
section
variable {xN:Addr}{n w p:Nat}{x:Int}{cs:List Card}{bs:List T}{h:Hh}{gT:OX}{gL:OC}
theorem taken_pre (hp:placeC cs x=p) (hc:cs.length<=1000) (rest:FS):
  (fSeq (fSet 3 (f2 oIx (fV 1) (fC (.int 0)))) (fSeq (fSet 4 (f2 oIx (fV 1) (fC (.int 1)))) (fSeq (fSet 5 (fc (relF R_place) (fAll [(fV 3),(fV 2)]))) (fSeq (fSet 6 (fc (fnRun 3 t_is_at) (fAll [(fV 3),(fV 5),(fV 2)]))) rest)))) (startE 10 [.int (w:Int),(T.node cs bs).d,.int x]) h
   = rest [some (.int (w:Int)),some (T.node cs bs).d,some (.int x),some (.tup (cs.map cardD)),some (.tup (bs.map T.d)),some (.int p),some (.bl (atC cs p x)),none,none,none] h:=by
 have i0:=t_ix0 (.node cs bs) h
 have i1:=t_ix1 (.node cs bs) h
 have pl:=relF_eq det_place ⟨cs,x,rfl,rfl,hc⟩ h
 rw [hp] at pl
 have ia:=run_isat cs p x h
 rw [fSeq_nx (e1:=[some (.int (w:Int)),some (T.node cs bs).d,some (.int x),some (.tup (cs.map cardD)),none,none,none,none,none,none]) (h1:=h) (fSet_ok (by rw [f2_ok (x:=(T.node cs bs).d) (h1:=h) rfl rfl,i0]; rfl))]
 rw [fSeq_nx (e1:=[some (.int (w:Int)),some (T.node cs bs).d,some (.int x),some (.tup (cs.map cardD)),some (.tup (bs.map T.d)),none,none,none,none,none]) (h1:=h) (fSet_ok (by rw [f2_ok (x:=(T.node cs bs).d) (h1:=h) rfl rfl,i1]; rfl))]
 rw [fSeq_nx (e1:=[some (.int (w:Int)),some (T.node cs bs).d,some (.int x),some (.tup (cs.map cardD)),some (.tup (bs.map T.d)),some (.int p),none,none,none,none]) (h1:=h) (fSet_ok (by rw [fc_ok (ds:=[.tup (cs.map cardD),.int x]) (h1:=h) rfl,pl]; rfl))]
 rw [fSeq_nx (e1:=[some (.int (w:Int)),some (T.node cs bs).d,some (.int x),some (.tup (cs.map cardD)),some (.tup (bs.map T.d)),some (.int p),some (.bl (atC cs p x)),none,none,none]) (h1:=h) (fSet_ok (by rw [fc_ok (ds:=[.tup (cs.map cardD),.int p,.int x]) (h1:=h) rfl,ia]; rfl))]
theorem taken_ix {b:T}{z7 z8 z9:Option D} (hb:bs[p]?=some b):f2 oIx (fV 4) (fV 5) [some (.int (w:Int)),some (T.node cs bs).d,some (.int x),some (.tup (cs.map cardD)),some (.tup (bs.map T.d)),some (.int p),some (.bl (atC cs p x)),z7,z8,z9] h=.ok b.d h:=by
 rw [f2_ok (x:=.tup (bs.map T.d)) (h1:=h) (y:=.int p) (h2:=h) rfl rfl,oIx_tup,atI_nat',List.getElem?_map,hb]
 rfl
end
theorem runs_taken_of {xN:Addr}{n:Nat} (dt:DetX (R_taken xN n)):RunsX (fnRunX 10 (t_taken_from xN (relF R_place) (fnRun 3 t_is_at) (relF R_spliced) (relF R_drawer) (relX (R_taken xN n)) (relF R_wum) (relF (R_last 5)))) (R_taken xN (n+1)):=by
 rintro ds o ⟨w,half,x,t,rfl,hh,h0,k⟩
 rcases k with⟨t',r,rfl⟩ | ⟨r,rfl⟩
 ·refine⟨T.hbd _,fun h=>⟨[],?_⟩⟩
  rw [List.append_nil]
  refine fnRunX_rt ?_
  unfold t_taken_from
  cases r with
  | @bot _ p cs hp hc a=>
   rw [taken_pre hp hc]
   refine fSeq_rt ?_
   rw [fIfS_t (h1:=h) rfl]
   rw [fSeq_nx (e1:=[some (.int (w:Int)),some (T.node cs []).d,some (.int x),some (.tup (cs.map cardD)),some (.tup ([].map T.d)),some (.int p),some (.bl (atC cs p x)),none,none,none]) (h1:=h) (by
    rw [fIfS_f (h1:=h)]
    ·rfl
    ·rw [a]; rfl)]
   refine fRet_ok ?_
   have p1:relF R_spliced [.tup (cs.map cardD),.int (p:Int),.int ((p+1:Nat):Int),.tup []] h=_:=relF_spC cs [] p (p+1) (by lia) (by simp) h
   have d1:relF R_drawer [.tup ((cs.take p++[]++cs.drop (p+1)).map cardD),.tup []] h=_:=relF_dr (cs.take p++[]++cs.drop (p+1)) [] (by simp) h
   have e1:(p:Int)+1=((p+1:Nat):Int):=by lia
   simp only [fSeq,fSet,fRet,fDrop,fIfS,fB,f1,f2,fc,fAll,fTup,fLst,fC,fV,fNext,getO_some,asB_bl,ofO_some,Res.bind_ok,Res.out_ok,List.getElem?_cons_zero,List.getElem?_cons_succ,oAdd_int,e1,p1,d1]
  | @down _ p cs bs b u _ hp hc hz a hb r m=>
   have hpl:=(List.getElem?_eq_some_iff.mp hb).1
   rw [taken_pre hp hc]
   rw [fSeq_nx (e1:=[some (.int (w:Int)),some (T.node cs bs).d,some (.int x),some (.tup (cs.map cardD)),some (.tup (bs.map T.d)),some (.int p),some (.bl (atC cs p x)),none,none,none]) (h1:=h) (by rw [fIfS_f (h1:=h) (empty_no rfl (by rw [List.length_map]; lia))]; rfl)]
   refine fSeq_rt ?_
   rw [fIfS_t (h1:=h) (by rw [a]; rfl)]
   rw [fSeq_nx (e1:=[some (.int (w:Int)),some (T.node cs bs).d,some (.int x),some (.tup (cs.map cardD)),some (.tup (bs.map T.d)),some (.int p),some (.bl (atC cs p x)),some u.d,none,none]) (h1:=h) (fSet_ok (by
    rw [fcX_ok (fAll_cons (d:=.int (w:Int)) (h1:=h) rfl (fAll_cons (taken_ix hb) (fAll1 (d:=.int x) (h1:=h) rfl))),relX_eq dt ⟨w,half,x,b,rfl,hh,h0,.inl ⟨u,r,rfl⟩⟩ h]
    rfl))]
   refine fRet_ok ?_
   rw [fc_ok (ds:=[.int (w:Int),.tup (cs.map cardD),.tup (bs.map T.d),.int (p:Int),u.d]) (h1:=h) rfl,relF_eq det_wum ⟨w,half,cs,bs,p,u,_,rfl,rfl,hh,h0,hpl,hz,m⟩ h]
   rfl
  | @here _ p cs bs b u _ c hp hc hz a hb r m=>
   have hpl:=(List.getElem?_eq_some_iff.mp hb).1
   rw [taken_pre hp hc]
   rw [fSeq_nx (e1:=[some (.int (w:Int)),some (T.node cs bs).d,some (.int x),some (.tup (cs.map cardD)),some (.tup (bs.map T.d)),some (.int p),some (.bl (atC cs p x)),none,none,none]) (h1:=h) (by rw [fIfS_f (h1:=h) (empty_no rfl (by rw [List.length_map]; lia))]; rfl)]
   rw [fSeq_nx (e1:=[some (.int (w:Int)),some (T.node cs bs).d,some (.int x),some (.tup (cs.map cardD)),some (.tup (bs.map T.d)),some (.int p),some (.bl (atC cs p x)),none,none,none]) (h1:=h) (by
    rw [fIfS_f (h1:=h)]
    ·rfl
    ·rw [a]; rfl)]
   rw [fSeq_nx (e1:=[some (.int (w:Int)),some (T.node cs bs).d,some (.int x),some (.tup (cs.map cardD)),some (.tup (bs.map T.d)),some (.int p),some (.bl (atC cs p x)),none,some (.tup [cardD c,u.d]),none]) (h1:=h) (fSet_ok (by
    rw [fc_ok (fAll2 (d:=.int (w:Int)) (h1:=h) rfl (taken_ix hb)),relF_eq (det_last 5) ⟨w,half,b,c,u,rfl,rfl,hh,h0,r⟩ h]
    rfl))]
   have p1:relF R_spliced [.tup (cs.map cardD),.int (p:Int),.int ((p+1:Nat):Int),.tup [cardD c]] h=_:=relF_spC cs [c] p (p+1) (by lia) (by simp) h
   rw [fSeq_nx (e1:=[some (.int (w:Int)),some (T.node cs bs).d,some (.int x),some (.tup (cs.map cardD)),some (.tup (bs.map T.d)),some (.int p),some (.bl (atC cs p x)),none,some (.tup [cardD c,u.d]),some (.tup ((cs.take p++[c]++cs.drop (p+1)).map cardD))]) (h1:=h) (fSet_ok (by
    rw [fc_ok (ds:=[.tup (cs.map cardD),.int (p:Int),.int ((p+1:Nat):Int),.tup [cardD c]]) (h1:=h) rfl,p1]
    rfl))]
   refine fRet_ok ?_
   rw [fc_ok (ds:=[.int (w:Int),.tup ((cs.take p++[c]++cs.drop (p+1)).map cardD),.tup (bs.map T.d),.int (p:Int),u.d]) (h1:=h) rfl,relF_eq det_wum ⟨w,half,_,bs,p,u,_,rfl,rfl,hh,h0,hpl,hz,m⟩ h]
   rfl
 ·refine⟨trivial,fun h=>⟨[],?_⟩⟩
  rw [List.append_nil]
  unfold t_taken_from
  cases r with
  | @bot _ p cs hp hc a=>
   refine fnRunX_ex (e:=[some (.int (w:Int)),some (T.node cs []).d,some (.int x),some (.tup (cs.map cardD)),some (.tup ([].map T.d)),some (.int p),some (.bl (atC cs p x)),none,none,none]) ?_
   rw [taken_pre hp hc]
   refine fSeq_ex ?_
   rw [fIfS_t (h1:=h) rfl]
   refine fSeq_ex ?_
   rw [fIfS_t (h1:=h) (by rw [a]; rfl)]
   rfl
  | @down _ p cs bs b hp hc hz a hb r=>
   have hpl:=(List.getElem?_eq_some_iff.mp hb).1
   refine fnRunX_ex (e:=[some (.int (w:Int)),some (T.node cs bs).d,some (.int x),some (.tup (cs.map cardD)),some (.tup (bs.map T.d)),some (.int p),some (.bl (atC cs p x)),none,none,none]) ?_
   rw [taken_pre hp hc]
   rw [fSeq_nx (e1:=[some (.int (w:Int)),some (T.node cs bs).d,some (.int x),some (.tup (cs.map cardD)),some (.tup (bs.map T.d)),some (.int p),some (.bl (atC cs p x)),none,none,none]) (h1:=h) (by rw [fIfS_f (h1:=h) (empty_no rfl (by rw [List.length_map]; lia))]; rfl)]
   refine fSeq_ex ?_
   rw [fIfS_t (h1:=h) (by rw [a]; rfl)]
   refine fSeq_ex (fSet_ex ?_)
   rw [fcX_ok (fAll_cons (d:=.int (w:Int)) (h1:=h) rfl (fAll_cons (taken_ix hb) (fAll1 (d:=.int x) (h1:=h) rfl))),relX_eq dt ⟨w,half,x,b,rfl,hh,h0,.inr ⟨r,rfl⟩⟩ h]
   rfl
theorem R_taken0 {xN:Addr} (ds:List D) (o:RO):¬ R_taken xN 0 ds o:=by
 rintro⟨w,half,x,t,_,_,_,⟨t',r,_⟩ | ⟨r,_⟩⟩
 ·cases r
 ·cases r
theorem det_taken {xN:Addr}:∀ n,DetX (R_taken xN n)
 | 0=>fun ds o o' r=>absurd r (R_taken0 ds o)
 | n+1=>(runs_taken_of (det_taken n)).det
theorem runs_taken {xN:Addr} (n:Nat):RunsX (fnRunX 10 (t_taken_from xN (relF R_place) (fnRun 3 t_is_at) (relF R_spliced) (relF R_drawer) (relX (R_taken xN n)) (relF R_wum) (relF (R_last 5)))) (R_taken xN (n+1)):=runs_taken_of (det_taken n)
noncomputable def delC (l:List Card) (x:Int):List Card:=l.filter fun c=>decide (c.1≠x)
theorem del_app (a b:List Card) (x:Int):delC (a++b) x=delC a x++delC b x:=List.filter_append ..
theorem del_id {l:List Card}{x:Int} (h:∀ c∈l,c.1≠x):delC l x=l:=List.filter_eq_self.mpr fun c hc=>by simpa using h c hc
theorem del_one {c:Card}{x:Int} (h:c.1=x) (r:List Card):delC (c::r) x=delC r x:=List.filter_cons_of_neg (by simp [h])
theorem inter_cut {cs:List Card}{fs:List (List Card)}{p:Nat}{f:List Card} (hl:fs.length=cs.length+1) (hf:fs[p]?=some f):
  ∃ A R,(∀ g,T.inter (fs.set p g) cs=A++(g++R))/\(A=[]\/∃ k a A',k < p/\cs[k]?=some a/\A=A'++[a])/\
   (R=[]/\cs[p]?=none\/∃ c R',cs[p]?=some c/\R=c::R'/\∀ g d,T.inter (fs.set p g) (cs.set p d)=A++(g++d::R')):=by
 have hp:=(List.getElem?_eq_some_iff.mp hf).1
 have l1:(fs.take p).length=(cs.take p).length:=by rw [List.length_take,List.length_take]; lia
 refine⟨T.inter (fs.take p) (cs.take p),?_⟩
 have hA:T.inter (fs.take p) (cs.take p)=[]\/∃ k a A',k < p/\cs[k]?=some a/\T.inter (fs.take p) (cs.take p)=A'++[a]:=by
  cases p with
  | zero=>left; simp [T.inter]
  | succ k=>
   right
   have hk:k < cs.length:=by lia
   have hk2:k < fs.length:=by lia
   refine⟨k,cs[k],T.inter (fs.take k) (cs.take k)++fs[k],by lia,List.getElem?_eq_getElem hk,?_⟩
   rw [List.take_add_one,List.take_add_one,List.getElem?_eq_getElem hk,List.getElem?_eq_getElem hk2]
   rw [show (some fs[k]).toList=[fs[k]] from rfl,show (some cs[k]).toList=[cs[k]] from rfl,inter_app [fs[k]] [cs[k]] (by rw [List.length_take,List.length_take]; lia)]
   simp [T.inter]
 by_cases hc:p < cs.length
 ·have ec:cs[p]?=some cs[p]:=List.getElem?_eq_getElem hc
  refine⟨cs[p]::T.inter (fs.drop (p+1)) (cs.drop (p+1)),fun g=>?_,hA,.inr ⟨_,_,ec,rfl,fun g d=>?_⟩⟩
  ·have e1:cs=cs.take p++cs[p]::cs.drop (p+1):=by rw [List.getElem_cons_drop,List.take_append_drop]
   rw [set_split g hp]
   conv=>lhs; rw [e1]
   rw [inter_app _ _ l1]
   rw [T.inter]
  ·rw [set_split g hp,set_split d hc,inter_app _ _ l1,T.inter]
 ·have ec:cs[p]?=none:=List.getElem?_eq_none (by lia)
  refine⟨[],fun g=>?_,hA,.inl ⟨rfl,ec⟩⟩
  have e1:cs.take p=cs:=List.take_of_length_le (by lia)
  rw [set_split g hp,List.drop_of_length_le (show fs.length<=p+1 by lia)]
  have:=inter_app (F1:=fs.take p) (C1:=cs.take p) [g] [] l1
  rw [List.append_nil,inter_one] at this
  rw [e1] at this |-
  rw [this,List.append_nil]
theorem del_at {cs:List Card}{fs:List (List Card)}{x:Int}{f:List Card} (hl:fs.length=cs.length+1) (hs:Srt (T.inter fs cs)) (hf:fs[placeC cs x]?=some f) (a:atC cs (placeC cs x) x=false):
  T.inter (fs.set (placeC cs x) (delC f x)) cs=delC (T.inter fs cs) x/\((∃ c∈T.inter fs cs,c.1=x)->∃ c∈f,c.1=x):=by
 obtain⟨A,R,e,hA,hR⟩:=inter_cut hl hf
 have e0:T.inter fs cs=A++(f++R):=by
  have:=e f
  rwa [show fs.set (placeC cs x) f=fs from List.set_getElem?_self' hf] at this
 have lo:∀ y∈A,y.1 < x:=by
  rcases hA with rfl | ⟨k,b,A',hk,ek,rfl⟩
  ·exact fun y hy=>nomatch hy
  ·have:=placeC_lt hk ek
   rw [e0,List.append_assoc,List.singleton_append] at hs
   intro y hy
   rcases List.mem_append.mp hy with z | z
   ·have:=(srt_head hs).1 y z; lia
   ·rw [List.mem_singleton] at z; subst z; exact this
 have hi:∀ y∈R,x < y.1:=by
  rcases hR with⟨rfl,_⟩ | ⟨c,R',ec,rfl,_⟩
  ·exact fun y hy=>nomatch hy
  ·have g1:=placeC_ge ec
   have g2:c.1≠x:=by
    intro z
    unfold atC at a
    rw [ec] at a
    simp [z] at a
   rw [e0,<-List.append_assoc] at hs
   intro y hy
   rcases List.mem_cons.mp hy with rfl | z
   ·lia
   ·have:=(srt_head hs).2.1 y z; lia
 refine⟨?_,?_⟩
 ·rw [e,e0,del_app,del_app,del_id (l:=A) fun c hc=>by have:=lo c hc; lia,del_id (l:=R) fun c hc=>by have:=hi c hc; lia]
 ·rintro⟨c,hc,ex⟩
  rw [e0] at hc
  rcases List.mem_append.mp hc with z | z
  ·have:=lo c z; lia
  ·rcases List.mem_append.mp z with z | z
   ·exact⟨c,z,ex⟩
   ·have:=hi c z; lia
where
 List.set_getElem?_self' {α:Type}{l:List α}{i:Nat}{a:α} (h:l[i]?=some a):l.set i a=l:=by
  obtain⟨hi,e⟩:=List.getElem?_eq_some_iff.mp h
  rw [<-e,List.set_getElem_self]
theorem del_here {cs:List Card}{fs:List (List Card)}{x:Int}{f g:List Card}{d:Card} (hl:fs.length=cs.length+1) (hs:Srt (T.inter fs cs)) (hf:fs[placeC cs x]?=some f) (hg:f=g++[d]) (a:atC cs (placeC cs x) x=true):
  T.inter (fs.set (placeC cs x) g) (cs.set (placeC cs x) d)=delC (T.inter fs cs) x:=by
 obtain⟨A,R,e,hA,hR⟩:=inter_cut hl hf
 have e0:T.inter fs cs=A++(f++R):=by
  have:=e f
  rwa [show fs.set (placeC cs x) f=fs from del_at.List.set_getElem?_self' hf] at this
 rcases hR with⟨_,ec⟩ | ⟨c,R',ec,rfl,e2⟩
 ·unfold atC at a
  rw [ec] at a
  cases a
 ·have cx:c.1=x:=by
   unfold atC at a
   rw [ec] at a
   simpa using a
  rw [e2,e0]
  rw [e0,<-List.append_assoc] at hs
  obtain⟨s1,s2,_⟩:=srt_head hs
  rw [<-List.append_assoc A f,del_app,del_id (l:=A++f) fun y hy=>by have:=s1 y hy; lia,del_one cx,del_id (l:=R') fun y hy=>by have:=s2 y hy; lia,hg]
  simp
theorem del_bot {cs:List Card}{x:Int}{p:Nat} (hp:placeC cs x=p) (hs:Srt cs) (a:atC cs p x=true):cs.take p++[]++cs.drop (p+1)=delC cs x:=by
 have hlt:p < cs.length:=by
  by_cases z:p < cs.length
  ·exact z
  ·unfold atC at a
   rw [List.getElem?_eq_none (by lia)] at a
   cases a
 have ec:cs[p]?=some cs[p]:=List.getElem?_eq_getElem hlt
 have cx:(cs[p]).1=x:=by
  unfold atC at a
  rw [ec] at a
  simpa using a
 have e1:cs=cs.take p++cs[p]::cs.drop (p+1):=by rw [List.getElem_cons_drop,List.take_append_drop]
 have hs':=hs
 rw [e1] at hs'
 obtain⟨s1,s2,_⟩:=srt_head hs'
 conv=>rhs; rw [e1]
 rw [del_app,del_id (l:=cs.take p) fun y hy=>by have:=s1 y hy; lia,del_one cx,del_id (l:=cs.drop (p+1)) fun y hy=>by have:=s2 y hy; lia]
 simp
theorem LO.up_to {half:Nat}{n m:Nat}{t t':T}{c:Card} (r:LO half n t c t'):n<=m->LO half m t c t':=by
 induction r generalizing m with
 | bot e=>
  intro h
  obtain⟨k,rfl⟩:∃ k,m=k+1:=⟨m - 1,by lia⟩
  exact .bot e
 | up hb z r mm ih=>
  intro h
  obtain⟨k,rfl⟩:∃ k,m=k+1:=⟨m - 1,by lia⟩
  exact .up hb z (ih (by lia)) mm
theorem short_at {half w n p own:Nat}{cs:List Card}{bs:List T}{u:T} (hh:half=w / 2) (h0:0 < half) (hw:w<=500) (v:T.V half w own (n+2) (.node cs bs)) (c0:0 < cs.length) {cs':List Card} (lc:cs'.length=cs.length) (hp:p < bs.length) (vu:T.V half w (half - 1) (n+1) u):
  Short half w n cs' (bs.take p++[u]++bs.drop (p+1)) p:=by
 have kd:=v.kids (by lia)
 simp only [T.cs_node,T.bs_node] at kd
 have hi:=v.hi
 simp only [T.cs_node] at hi
 rw [splice1 u hp]
 refine⟨by rw [List.length_set]; exact hp,by lia,by lia,by rw [List.length_set,lc]; exact kd.1,hh,h0,hw,fun i b e ne=>?_,fun b e=>?_⟩
 ·rw [List.getElem?_set_ne (Ne.symm ne)] at e
  exact kd.2 b (List.mem_of_getElem? e)
 ·rw [List.getElem?_set_self hp] at e
  cases e
  exact vu
theorem take_ok {half w:Nat}{x:Int} (hh:half=w / 2) (h0:0 < half) (hw:w<=500):∀ (n own:Nat) (t:T),n<=5->T.V half w own (n+1) t->Srt t.flat->(0 < n->0 < t.cs.length)->(∃ c∈t.flat,c.1=x)->
  ∃ t',TK half x (n+1) t t'/\t'.flat=delC t.flat x/\T.V half w (t.cs.length - 1) (n+1) t'/\t'.cs.length<=t.cs.length
 | 0,own,.node cs bs,_,v,so,_,hx=>by
  have hb:bs=[]:=v.leaf
  subst hb
  have hi:=v.hi
  simp only [T.cs_node] at hi
  rw [T.flat_node,List.map_nil,inter_nil] at so hx
  have a:atC cs (placeC cs x) x=true:=by
   obtain⟨c,hc,ex⟩:=hx
   exact atC_of so hc ex
  have e:=del_bot rfl so a
  have hlt:placeC cs x < cs.length:=by
   by_cases z:placeC cs x < cs.length
   ·exact z
   ·unfold atC at a
    rw [List.getElem?_eq_none (by lia)] at a
    cases a
  have ll:(cs.take (placeC cs x)++[]++cs.drop (placeC cs x+1)).length=cs.length - 1:=by
   rw [len_splice (by lia) (by lia)]
   simp
   lia
  refine⟨_,.bot rfl (by lia) a,?_,.mk (by simp only [T.cs_node]; lia) (by lia) (fun _=>rfl) (by lia),by simp only [T.cs_node]; lia⟩
  rw [T.flat_node,T.flat_node,List.map_nil,inter_nil,inter_nil,e]
 | n+1,own,.node cs bs,hn,v,so,hc0,hx=>by
  have kd:=v.kids (by lia)
  simp only [T.cs_node,T.bs_node] at kd hc0
  have hc0:=hc0 (by lia)
  have hi:=v.hi
  simp only [T.cs_node] at hi
  have ple:=placeC_le cs x
  obtain⟨b,eb⟩:∃ b,bs[placeC cs x]?=some b:=⟨_,List.getElem?_eq_getElem (by lia)⟩
  have hpl:=(List.getElem?_eq_some_iff.mp eb).1
  have vb:=kd.2 b (List.mem_of_getElem? eb)
  have lb:=vb.lo
  have sb:=srt_below so (List.mem_of_getElem? eb)
  rw [T.flat_node] at so hx
  have ef:(bs.map T.flat)[placeC cs x]?=some b.flat:=getmap eb
  have lf:(bs.map T.flat).length=cs.length+1:=by rw [List.length_map]; exact kd.1
  cases a:atC cs (placeC cs x) x with
  | false=>
   obtain⟨d1,d2⟩:=del_at lf so ef a
   obtain⟨u,r,fu,vu,lu⟩:=take_ok hh h0 hw n half b (by lia) vb sb (by lia) (d2 hx)
   have S:=short_at hh h0 hw v hc0 rfl hpl (T.V_mono (by lia) vu)
   obtain⟨t',m,fl,vt,lt⟩:=mend_ok S
   refine⟨t',.down rfl (by lia) (by lia) a eb r m,?_,vt,lt⟩
   rw [fl,splice1 u hpl,T.flat_node,T.flat_node,List.map_set,fu,d1]
  | true=>
   obtain⟨c,u,r,fe,vu,lu⟩:=last_ok hh h0 hw n half b vb (by lia)
   have hlt:placeC cs x < cs.length:=by
    by_cases z:placeC cs x < cs.length
    ·exact z
    ·unfold atC at a
     rw [List.getElem?_eq_none (by lia)] at a
     cases a
   have lc:(cs.take (placeC cs x)++[c]++cs.drop (placeC cs x+1)).length=cs.length:=by rw [splice1 c hlt,List.length_set]
   have S:=short_at hh h0 hw v hc0 lc hpl (T.V_mono (by lia) vu)
   obtain⟨t',m,fl,vt,lt⟩:=mend_ok S
   refine⟨t',.here rfl (by lia) (by lia) a eb (r.up_to (by lia)) m,?_,by rw [lc] at vt; exact vt,by rw [lc] at lt; exact lt⟩
   rw [fl,splice1 u hpl,splice1 c hlt,T.flat_node,T.flat_node,List.map_set]
   exact del_here lf so ef fe a
where
 atC_of {cs:List Card}{x:Int}{c:Card} (so:Srt cs) (hc:c∈cs) (ex:c.1=x):atC cs (placeC cs x) x=true:=by
  induction cs with
  | nil=>exact nomatch hc
  | cons d r ih=>
   rw [placeC_cons]
   obtain⟨h1,h2⟩:=List.pairwise_cons.mp so
   rcases List.mem_cons.mp hc with rfl | z
   ·rw [if_neg (by lia)]
    unfold atC
    simp [ex]
   ·have:=h1 c z
    rw [if_pos (by lia)]
    have:=ih h2 z
    unfold atC at this |-
    simpa using this
theorem nk_ok {half w:Nat}{x:Int} (hw:w<=500):∀ (n own:Nat) (t:T),T.V half w own (n+1) t->(∀ c∈t.flat,c.1≠x)->NK x (n+1) t
 | n,own,.node cs bs,v,hx=>by
  have hi:=v.hi
  have bz:=v.bsz
  simp only [T.cs_node,T.bs_node] at hi bz
  rw [T.flat_node] at hx
  have a:atC cs (placeC cs x) x=false:=by
   unfold atC
   cases e:cs[placeC cs x]? with
   | none=>rfl
   | some c=>simpa using hx c ((cs_sub _ _).subset (List.mem_of_getElem? e))
  have ple:=placeC_le cs x
  match n,v with
  | 0,v=>
   have hb:bs=[]:=v.leaf
   subst hb
   exact .bot rfl (by lia) a
  | n+1,v=>
   have kd:=v.kids (by lia)
   simp only [T.cs_node,T.bs_node] at kd
   obtain⟨b,eb⟩:∃ b,bs[placeC cs x]?=some b:=⟨_,List.getElem?_eq_getElem (by lia)⟩
   have mb:=List.mem_of_getElem? eb
   exact .down rfl (by lia) (by lia) a eb (nk_ok hw n half b (kd.2 b mb) fun c hc=>hx c ((inter_sub _ _ _ (List.mem_map_of_mem mb)).subset hc))
noncomputable def kd (c:Card):Key×D:=(.inl c.1,.str c.2)
noncomputable def DR (kvs:List (Key×D)) (cs:List Card):Prop:=kvs.Perm (cs.map kd)
theorem kd_nodup {cs:List Card} (s:Srt cs):((cs.map kd).map (·.1)).Nodup:=by
 rw [List.map_map]
 have:((fun p:Key×D=>p.1) ∘ kd)=fun c:Card=>(Sum.inl c.1:Key):=rfl
 rw [this]
 rw [List.Nodup,List.pairwise_map]
 exact List.Pairwise.imp (fun {a b} h e=>by
  have:a.1=b.1:=Sum.inl.inj e
  lia) s
theorem DR.nd {kvs:List (Key×D)}{cs:List Card} (r:DR kvs cs) (s:Srt cs):(kvs.map (·.1)).Nodup:=(List.Perm.nodup_iff (r.map (·.1))).mpr (kd_nodup s)
theorem valE_mem {α:Type}{kvs:List (Key×α)}{k:Key}{d:α} (nd:(kvs.map (·.1)).Nodup) (h:(k,d)∈kvs):valE kvs k=some d:=by
 induction kvs with
 | nil=>exact nomatch h
 | cons p r ih=>
  rw [List.map_cons,List.nodup_cons] at nd
  by_cases c:p.1=k
  ·rcases List.mem_cons.mp h with z | z
   ·subst z
    simp [valE]
   ·exfalso
    exact nd.1 (c▸List.mem_map.mpr ⟨(k,d),z,rfl⟩)
  ·rcases List.mem_cons.mp h with z | z
   ·subst z
    exact absurd rfl c
   ·have:valE (p::r) k=valE r k:=by simp [valE,List.find?_cons,c]
    rw [this]
    exact ih nd.2 z
theorem valE_none {α:Type}{kvs:List (Key×α)}{k:Key} (h:∀ p∈kvs,p.1≠k):valE kvs k=none:=by
 unfold valE
 rw [List.find?_eq_none.mpr fun p hp=>by simpa using h p hp]
 rfl
theorem DR.there {kvs:List (Key×D)}{cs:List Card} (r:DR kvs cs) (s:Srt cs) {c:Card} (h:c∈cs):valE kvs (.inl c.1)=some (.str c.2):=
 valE_mem (r.nd s) (r.mem_iff.mpr (List.mem_map.mpr ⟨c,h,rfl⟩))
theorem DR.gone {kvs:List (Key×D)}{cs:List Card} (r:DR kvs cs) {x:Int} (h:∀ c∈cs,c.1≠x):valE kvs (.inl x)=none:=
 valE_none fun p hp e=>by
  obtain⟨c,hc,rfl⟩:=List.mem_map.mp (r.mem_iff.mp hp)
  exact h c hc (Sum.inl.inj e)
theorem DR.len {kvs:List (Key×D)}{cs:List Card} (r:DR kvs cs):kvs.length=cs.length:=by
 have:=r.length_eq
 rwa [List.length_map] at this
theorem DR.drop {kvs:List (Key×D)}{cs:List Card} (r:DR kvs cs) (x:Int):DR (dropE kvs (.inl x)) (delC cs x):=by
 have h:=r.filter (fun kv=>decide (kv.1≠(Sum.inl x:Key)))
 unfold DR dropE
 refine h.trans ?_
 rw [List.filter_map]
 unfold delC
 have:((fun kv:Key×D=>decide (kv.1≠(Sum.inl x:Key))) ∘ kd)=fun c:Card=>decide (c.1≠x):=by
  funext c
  show decide ((Sum.inl c.1:Key)≠Sum.inl x)=decide (c.1≠x)
  by_cases e:c.1=x
  ·rw [e]; simp
  ·simp [e]
 rw [this]
theorem put_perm {kvs:List (Key×D)}{k:Key}{d:D} (nd:(kvs.map (·.1)).Nodup):(putE kvs k d).Perm ((k,d)::dropE kvs k):=by
 unfold putE
 split
 ·rename_i h
  induction kvs with
  | nil=>cases h
  | cons p r ih=>
   rw [List.map_cons,List.nodup_cons] at nd
   by_cases c:p.1=k
   ·have ne:∀ q∈r,q.1≠k:=fun q hq e=>nd.1 (by rw [c,<-e]; exact List.mem_map.mpr ⟨q,hq,rfl⟩)
    rw [List.map_cons,if_pos c]
    have e1:r.map (fun kv=>if kv.1=k then (kv.1,d) else kv)=r:=by
     rw [List.map_congr_left (f:=fun kv:Key×D=>if kv.1=k then (kv.1,d) else kv) (g:=id) fun q hq=>if_neg (ne q hq),List.map_id]
    have e2:dropE (p::r) k=r:=by
     unfold dropE
     rw [List.filter_cons_of_neg (by simp [c]),List.filter_eq_self.mpr fun q hq=>by simpa using ne q hq]
    rw [e1,e2,c]
   ·rw [List.map_cons,if_neg c]
    have e2:dropE (p::r) k=p::dropE r k:=by
     unfold dropE
     rw [List.filter_cons_of_pos (by simp [c])]
    rw [e2]
    have ih:=ih nd.2 (by simpa [c] using h)
    exact (List.Perm.cons p ih).trans (List.Perm.swap _ _ _)
 ·rename_i h
  have ne:∀ q∈kvs,q.1≠k:=fun q hq e=>h (List.any_eq_true.mpr ⟨q,hq,by simpa using e⟩)
  have e2:dropE kvs k=kvs:=List.filter_eq_self.mpr fun q hq=>by simpa using ne q hq
  rw [e2]
  exact List.perm_append_comm
theorem ins_perm {cs:List Card} (x:Int) (s:Str):(insC cs x s).Perm ((x,s)::delC cs x):=by
 unfold insC
 refine List.perm_middle.trans (List.Perm.cons _ ?_)
 unfold delC
 induction cs with
 | nil=>exact List.Perm.nil
 | cons c r ih=>
  by_cases h1:c.1 < x
  ·rw [List.filter_cons_of_pos (by simpa using h1),List.filter_cons_of_neg (by simp; lia),List.filter_cons_of_pos (by simp; lia),List.cons_append]
   exact List.Perm.cons _ ih
  ·rw [List.filter_cons_of_neg (by simpa using h1)]
   by_cases h2:x < c.1
   ·rw [List.filter_cons_of_pos (by simpa using h2),List.filter_cons_of_pos (by simp; lia)]
    exact List.perm_middle.trans (List.Perm.cons _ ih)
   ·rw [List.filter_cons_of_neg (by simpa using h2),List.filter_cons_of_neg (by simp; lia)]
    exact ih
theorem DR.put {kvs:List (Key×D)}{cs:List Card} (r:DR kvs cs) (so:Srt cs) (x:Int) (s:Str):DR (putE kvs (.inl x) (.str s)) (insC cs x s):=by
 have h1:=put_perm (k:=.inl x) (d:=.str s) (r.nd so)
 have h2:=(ins_perm (cs:=cs) x s).map kd
 have h3:=List.Perm.cons ((Sum.inl x:Key),D.str s) (r.drop x)
 exact (h1.trans h3).trans h2.symm
theorem DR.nil:DR [] []:=List.Perm.nil
noncomputable def topO (t:T):T:=match t.cs,t.bs with
 | [],b::_=>b
 | _,_=>t
theorem topO_c {t:T} (h:t.cs≠[]):topO t=t:=by
 unfold topO
 split
 ·rename_i e _
  exact absurd e h
 ·rfl
theorem topO_b {t:T} (h:t.bs=[]):topO t=t:=by
 unfold topO
 split
 ·rename_i e
  rw [h] at e
  cases e
 ·rfl
theorem topO_u {t b:T}{r:List T} (h:t.cs=[]) (e:t.bs=b::r):topO t=b:=by
 unfold topO
 rw [h,e]
structure Cb (w L:Nat) (t:T):Prop where
 v:T.V (w / 2) w 0 L t
 L1:1<=L
 top:1 < L->1<=t.cs.length
 srt:Srt t.flat
theorem sum_ge {m:Nat}:∀ {l:List Nat},(∀ x∈l,m<=x)->l.length*m<=l.sum
 | [],_=>by simp
 | a::r,h=>by
  have:=sum_ge (l:=r) fun x hx=>h x (List.mem_cons_of_mem _ hx)
  have:=h a List.mem_cons_self
  rw [List.length_cons,List.sum_cons,Nat.add_mul]
  lia
theorem sum_le' {m:Nat}:∀ {l:List Nat},(∀ x∈l,x<=m)->l.sum<=l.length*m
 | [],_=>by simp
 | a::r,h=>by
  have:=sum_le' (l:=r) fun x hx=>h x (List.mem_cons_of_mem _ hx)
  have:=h a List.mem_cons_self
  rw [List.length_cons,List.sum_cons,Nat.add_mul]
  lia
theorem sum_s:∀ l:List (List Card),(l.map fun f=>f.length+1).sum=(l.map List.length).sum+l.length
 | []=>rfl
 | a::r=>by
  rw [List.map_cons,List.map_cons,List.sum_cons,List.sum_cons,sum_s r,List.length_cons]
  lia
theorem flat_s {t:T} (h:t.bs.length=t.cs.length+1):t.flat.length+1=(t.bs.map fun b=>b.flat.length+1).sum:=by
 obtain⟨cs,bs⟩:=t
 have h:bs.length=cs.length+1:=h
 rw [T.flat_node,inter_count]
 have:=sum_s (bs.map T.flat)
 rw [List.length_map,List.map_map] at this
 have e:((fun f:List Card=>f.length+1) ∘ T.flat)=fun b:T=>b.flat.length+1:=rfl
 rw [e] at this
 show _=(bs.map fun b=>b.flat.length+1).sum
 lia
theorem cnt_lo {half w:Nat}:∀ (n own:Nat) (t:T),T.V half w own (n+1) t->half<=own->(half+1) ^ (n+1)<=t.flat.length+1
 | 0,own,t,v,h=>by
  have:=v.lo
  have hb:=v.leaf
  obtain⟨cs,bs⟩:=t
  have hb:bs=[]:=hb
  subst hb
  rw [T.flat_node,inter_count]
  have:own<=cs.length:=this
  simp
  lia
 | n+1,own,t,v,h=>by
  have k:=v.kids (by lia)
  have lo:=v.lo
  rw [flat_s k.1]
  have:=sum_ge (m:=(half+1) ^ (n+1)) (l:=t.bs.map fun b=>b.flat.length+1) fun x hx=>by
   obtain⟨b,hb,rfl⟩:=List.mem_map.mp hx
   exact cnt_lo n half b (k.2 b hb) (Nat.le_refl _)
  rw [List.length_map] at this
  refine Nat.le_trans ?_ this
  rw [Nat.pow_succ,Nat.mul_comm]
  exact Nat.mul_le_mul_right _ (by lia)
theorem cnt_hi {half w:Nat}:∀ (n own:Nat) (t:T),T.V half w own (n+1) t->t.flat.length+1<=(w+1) ^ (n+1)
 | 0,own,t,v=>by
  have:=v.hi
  have hb:=v.leaf
  obtain⟨cs,bs⟩:=t
  have hb:bs=[]:=hb
  subst hb
  rw [T.flat_node,inter_count]
  have:cs.length<=w:=this
  simp
  lia
 | n+1,own,t,v=>by
  have k:=v.kids (by lia)
  have hi:=v.hi
  rw [flat_s k.1]
  have:=sum_le' (m:=(w+1) ^ (n+1)) (l:=t.bs.map fun b=>b.flat.length+1) fun x hx=>by
   obtain⟨b,hb,rfl⟩:=List.mem_map.mp hx
   exact cnt_hi n half b (k.2 b hb)
  rw [List.length_map] at this
  refine Nat.le_trans this ?_
  rw [Nat.pow_succ,Nat.mul_comm]
  exact Nat.mul_le_mul_left _ (by lia)
theorem Cb.lo {w L:Nat}{t:T} (c:Cb w L t) (h:1 < L):2*(w / 2+1) ^ (L - 1)<=t.flat.length+1:=by
 obtain⟨n,rfl⟩:∃ n,L=n+2:=⟨L - 2,by lia⟩
 have k:=c.v.kids (by lia)
 have tp:=c.top h
 rw [flat_s k.1]
 have:=sum_ge (m:=(w / 2+1) ^ (n+1)) (l:=t.bs.map fun b=>b.flat.length+1) fun x hx=>by
  obtain⟨b,hb,rfl⟩:=List.mem_map.mp hx
  exact cnt_lo n _ b (k.2 b hb) (Nat.le_refl _)
 rw [List.length_map] at this
 refine Nat.le_trans ?_ this
 rw [show n+2 - 1=n+1 by lia]
 exact Nat.mul_le_mul_right _ (by lia)
theorem Cb.hi {w L:Nat}{t:T} (c:Cb w L t):t.flat.length+1<=(w+1) ^ L:=by
 have:=c.L1
 have:=cnt_hi (L - 1) 0 t (by rw [show L - 1+1=L by lia]; exact c.v)
 rwa [show L - 1+1=L by lia] at this
theorem Cb.few {w L:Nat}{t:T} (c:Cb w L t) (hw:2<=w) (hf:t.flat.length<=61):L<=5:=by
 by_cases h:1 < L
 ·have lo:=c.lo h
  by_cases z:L<=5
  ·exact z
  ·exfalso
   have a1:(2:Nat) ^ 5<=2 ^ (L - 1):=Nat.pow_le_pow_right (by lia) (by lia)
   have a2:2 ^ (L - 1)<=(w / 2+1) ^ (L - 1):=Nat.pow_le_pow_left (by lia) _
   have a3:(2:Nat) ^ 5=32:=by decide
   lia
 ·lia
theorem Cb.one {w L:Nat}{t:T} (c:Cb w L t) (hw:2<=w):t.bs.length≠1:=by
 by_cases h:1 < L
 ·obtain⟨n,rfl⟩:∃ n,L=n+2:=⟨L - 2,by lia⟩
  have k:=c.v.kids (by lia)
  have tp:=c.top h
  lia
 ·have:=c.L1
  obtain rfl:L=1:=by lia
  rw [c.v.leaf]
  simp
theorem cb_new (w:Nat):Cb w 1 (.node [] []):=by
 refine⟨?_,Nat.le_refl _,fun h=>absurd h (Nat.lt_irrefl _),?_⟩
 ·unfold T.V
  exact⟨Nat.le_refl _,Nat.zero_le _,fun _=>rfl,fun z=>absurd z (Nat.lt_irrefl _)⟩
 ·rw [T.flat_node]
  exact List.Pairwise.nil
theorem srt_ins {l:List Card} (x:Int) (s:Str) (h:Srt l):Srt (insC l x s):=by
 unfold insC
 rw [Srt,List.pairwise_append]
 refine⟨List.Pairwise.filter _ h,?_,?_⟩
 ·rw [List.pairwise_cons]
  refine⟨fun c hc=>?_,List.Pairwise.filter _ h⟩
  have:=(List.mem_filter.mp hc).2
  simpa using this
 ·intro a ha b hb
  have h1:a.1 < x:=by simpa using (List.mem_filter.mp ha).2
  rcases List.mem_cons.mp hb with rfl | hb
  ·exact h1
  ·have:x < b.1:=by simpa using (List.mem_filter.mp hb).2
   lia
theorem srt_del {l:List Card} (x:Int) (h:Srt l):Srt (delC l x):=List.Pairwise.filter _ h
theorem ins_len_le (l:List Card) (x:Int) (s:Str):(insC l x s).length<=l.length+1:=by
 have:∀ l:List Card,(l.filter fun c=>decide (c.1 < x)).length+(l.filter fun c=>decide (x < c.1)).length<=l.length:=fun l=>by
  induction l with
  | nil=>exact Nat.le_refl _
  | cons c l ih=>
   by_cases h1:c.1 < x
   ·rw [List.filter_cons_of_pos (by simpa using h1),List.filter_cons_of_neg (by simp; lia)]
    simp only [List.length_cons]
    lia
   ·rw [List.filter_cons_of_neg (by simpa using h1)]
    by_cases h2:x < c.1
    ·rw [List.filter_cons_of_pos (by simpa using h2)]
     simp only [List.length_cons]
     lia
    ·rw [List.filter_cons_of_neg (by simpa using h2)]
     simp only [List.length_cons]
     lia
 unfold insC
 rw [List.length_append,List.length_cons]
 exact Nat.succ_le_succ (this l)
theorem VW_V' {half w n:Nat}{u:T} (v:VW half w n u) (h:u.cs.length<=w):T.V half w 0 (n+1) u:=by
 cases u with
 | node cs bs=>
  obtain⟨v1,v2,v3⟩:=v
  exact⟨Nat.zero_le _,h,v2,v3⟩
theorem cb_put {w L:Nat}{t:T} (c:Cb w L t) (w2:2<=w) (x:Int) (s:Str):∃ L',Cb w L' (topT w (layT w x s L t))/\(topT w (layT w x s L t)).flat=insC t.flat x s:=by
 obtain⟨n,rfl⟩:∃ n,L=n+1:=⟨L - 1,by have:=c.L1; lia⟩
 obtain⟨f1,vw,le,hit⟩:=lay_ok x s rfl n 0 t c.v c.srt
 have si:=srt_ins x s c.srt
 generalize hu:layT w x s (n+1) t=u at f1 vw le hit
 by_cases h:u.cs.length<=w
 ·have e:topT w u=u:=by unfold topT; rw [if_pos h]
  rw [e]
  exact⟨n+1,⟨VW_V' vw h,by lia,fun z=>by have:=c.top z; lia,by rw [f1]; exact si⟩,f1⟩
 ·have e:topT w u=.node [midC w u] [partL w u,partR w u]:=by unfold topT; rw [if_neg h]
  rw [e]
  obtain⟨pl,pr⟩:=part_V rfl vw h
  have fl:(T.node [midC w u] [partL w u,partR w u]).flat=insC t.flat x s:=by
   rw [T.flat_node,<-f1,part_flat vw h]
   simp [T.inter]
  refine⟨n+2,⟨⟨Nat.zero_le _,by simp; lia,fun z=>by lia,fun _=>⟨rfl,fun b hb=>?_⟩⟩,by lia,fun _=>Nat.le_refl _,by rw [fl]; exact si⟩,fl⟩
  simp only [List.mem_cons,List.not_mem_nil,or_false] at hb
  rcases hb with rfl | rfl
  ·exact pl
  ·exact pr
theorem tk_up {half:Nat}{x:Int}{n m:Nat}{t t':T} (r:TK half x n t t'):n<=m->TK half x m t t':=by
 induction r generalizing m with
 | bot hp hc a=>
  intro h
  obtain⟨k,rfl⟩:∃ k,m=k+1:=⟨m - 1,by lia⟩
  exact .bot hp hc a
 | down hp hc hz a hb r mm ih=>
  intro h
  obtain⟨k,rfl⟩:∃ k,m=k+1:=⟨m - 1,by lia⟩
  exact .down hp hc hz a hb (ih (by lia)) mm
 | here hp hc hz a hb r mm=>
  intro h
  obtain⟨k,rfl⟩:∃ k,m=k+1:=⟨m - 1,by lia⟩
  exact .here hp hc hz a hb r mm
theorem nk_up {x:Int}{n m:Nat}{t:T} (r:NK x n t):n<=m->NK x m t:=by
 induction r generalizing m with
 | bot hp hc a=>
  intro h
  obtain⟨k,rfl⟩:∃ k,m=k+1:=⟨m - 1,by lia⟩
  exact .bot hp hc a
 | down hp hc hz a hb r ih=>
  intro h
  obtain⟨k,rfl⟩:∃ k,m=k+1:=⟨m - 1,by lia⟩
  exact .down hp hc hz a hb (ih (by lia))
theorem cb_take {w L:Nat}{t:T} (c:Cb w L t) (w2:2<=w) (hw:w<=500) (L5:L<=5) {x:Int} (hx:∃ k∈t.flat,k.1=x):
  ∃ t' L',TK (w / 2) x 5 t t'/\(t'.cs=[]->t'.bs≠[]->t'.bs.length=1)/\Cb w L' (topO t')/\(topO t').flat=delC t.flat x:=by
 obtain⟨n,rfl⟩:∃ n,L=n+1:=⟨L - 1,by have:=c.L1; lia⟩
 obtain⟨t',tk,tf,tv,tl⟩:=take_ok (x:=x) rfl (show 0 < w / 2 by lia) hw n 0 t (by lia) c.v c.srt (fun z=>c.top (by lia)) hx
 have sd:=srt_del x c.srt
 have one:t'.cs=[]->t'.bs≠[]->t'.bs.length=1:=fun e1 e2=>by
  by_cases hn:n=0
  ·subst hn
   exact absurd tv.leaf e2
  ·rw [(tv.kids (by lia)).1,e1]
   rfl
 refine⟨t',?_⟩
 have tk5:=tk_up (m:=5) tk (by lia)
 cases hc:t'.cs with
 | cons a r=>
  rw [topO_c (by rw [hc]; exact fun q=>nomatch q)]
  exact⟨n+1,tk5,fun z=>(nomatch z),⟨T.V_mono (Nat.zero_le _) tv,by lia,fun _=>by rw [hc,List.length_cons]; lia,by rw [tf]; exact sd⟩,tf⟩
 | nil=>
  cases hb:t'.bs with
  | nil=>
   rw [topO_b hb]
   have hn:n=0:=by
    by_cases hn:n=0
    ·exact hn
    ·have:=(tv.kids (by lia)).1
     rw [hb] at this
     simp at this
   subst hn
   exact⟨1,tk5,fun _ z=>absurd rfl z,⟨T.V_mono (Nat.zero_le _) tv,Nat.le_refl _,fun z=>absurd z (Nat.lt_irrefl _),by rw [tf]; exact sd⟩,tf⟩
  | cons b r=>
   have l1:=one hc (by rw [hb]; exact fun q=>nomatch q)
   rw [hb,List.length_cons] at l1
   have hr:r=[]:=List.length_eq_zero_iff.mp (by lia)
   subst hr
   rw [topO_u hc hb]
   have hn:n≠0:=fun z=>by
    subst z
    have:=tv.leaf
    rw [hb] at this
    cases this
   obtain⟨m,rfl⟩:∃ m,n=m+1:=⟨n - 1,by lia⟩
   have vb:=(tv.kids (by lia)).2 b (by rw [hb]; simp)
   have lb:=vb.lo
   have fb:b.flat=delC t.flat x:=by
    rw [<-tf,T.flat_eq t',hb,hc]
    simp [T.inter]
   exact⟨m+1,tk5,fun _ _=>rfl,⟨T.V_mono (Nat.zero_le _) vb,by lia,fun _=>by lia,by rw [fb]; exact sd⟩,fb⟩
theorem cMulR {i j:Int} (h1:-1000000<=j) (h2:j<=1000000):cMul i j=true:=by
 unfold cMul
 rw [Bool.or_eq_true,Bool.or_eq_true]
 exact .inl (.inr (decide_eq_true ⟨by lia,by lia⟩))
inductive Deed where
 | put (x:Int) (s:Str) | take (x:Int)
noncomputable def Deed.d:Deed->D
 | .put x s=>.tup [.str "put",.int x,.str s]
 | .take x=>.tup [.str "take",.int x]
noncomputable def Deed.n:Deed->Int
 | .put x _=>x
 | .take x=>x
noncomputable def eff:Deed->List Card->List Card
 | .put x s,l=>insC l x s
 | .take x,l=>delC l x
inductive Stp (w:Nat) (t:T):Deed->T->Prop where
 | put {L:Nat}{x:Int}{s:Str} (c:Cb w L t) (h:L<=5):Stp w t (.put x s) (topT w (layT w x s L t))
 | take {L':Nat}{x:Int}{t':T} (tk:TK (w / 2) x 5 t t') (one:t'.cs=[]->t'.bs≠[]->t'.bs.length=1) (c:Cb w L' (topO t')) (f:(topO t').flat=delC t.flat x) (hx:∃ k∈t.flat,k.1=x):Stp w t (.take x) (topO t')
 | none {x:Int} (hx:∀ k∈t.flat,k.1≠x) (nk:NK x 5 t):Stp w t (.take x) t
theorem step_ex {w L:Nat}{t:T} (c:Cb w L t) (w2:2<=w) (hw:w<=500) (hf:t.flat.length<=61) (de:Deed):∃ t',Stp w t de t':=by
 have L5:=c.few w2 hf
 cases de with
 | put x s=>exact⟨_,.put c L5⟩
 | take x=>
  by_cases hx:∃ k∈t.flat,k.1=x
  ·obtain⟨t',L',tk,one,c',f⟩:=cb_take c w2 hw L5 hx
   exact⟨_,.take tk one c' f hx⟩
  ·have hx':∀ k∈t.flat,k.1≠x:=fun k hk e=>hx ⟨k,hk,e⟩
   obtain⟨n,rfl⟩:∃ n,L=n+1:=⟨L - 1,by have:=c.L1; lia⟩
   exact⟨t,.none hx' (nk_up (nk_ok hw n 0 t c.v hx') (by lia))⟩
theorem step_cb {w L:Nat}{t t':T}{de:Deed} (c:Cb w L t) (w2:2<=w) (s:Stp w t de t'):∃ L',Cb w L' t'/\t'.flat=eff de t.flat:=by
 cases s with
 | put c' _=>
  obtain⟨L',c'',f⟩:=cb_put c' w2 _ _
  exact⟨L',c'',f⟩
 | take tk one c' f hx=>exact⟨_,c',f⟩
 | none hx nk=>exact⟨L,c,(del_id hx).symm⟩
theorem eff_len (de:Deed) (l:List Card):(eff de l).length<=l.length+1:=by
 cases de with
 | put x s=>exact ins_len_le l x s
 | take x=>exact Nat.le_trans (List.length_filter_le _ _) (Nat.le_succ _)
theorem run_takeout5 {xN:Addr}{half w:Nat}{x:Int}{t t':T} (hh:half=w / 2) (h0:0 < half) (tk:TK half x 5 t t') (one:t'.cs=[]->t'.bs≠[]->t'.bs.length=1) (h:Hh):fnRunX 4 (t_take_outX (relX (R_taken xN 5))) [.int (w:Int),t.d,.int x] h=.ok (topO t').d h:=by
 refine fnRunX_rt ?_
 unfold t_take_outX
 rw [fSeq_nx (e1:=[some (.int (w:Int)),some t.d,some (.int x),some t'.d]) (h1:=h) (fSet_ok (by
  rw [fcX_ok (ds:=[.int (w:Int),t.d,.int x]) (h1:=h) rfl,relX_eq (det_taken 5) ⟨w,half,x,t,rfl,hh,h0,.inl ⟨t',tk,rfl⟩⟩ h]
  rfl))]
 have i0:fc oLen (fAll [(f2 oIx (fV 3) (fC (.int 0)))]) [some (.int (w:Int)),some t.d,some (.int x),some t'.d] h=.ok (.int (t'.cs.length:Int)) h:=by
  rw [fc_ok (fAll1 (d:=.tup (t'.cs.map cardD)) (h1:=h) (by rw [f2_ok (x:=t'.d) (h1:=h) rfl rfl,t_ix0]; rfl)),oLen_tup,List.length_map]; rfl
 have i1:fc oLen (fAll [(f2 oIx (fV 3) (fC (.int 1)))]) [some (.int (w:Int)),some t.d,some (.int x),some t'.d] h=.ok (.int (t'.bs.length:Int)) h:=by
  rw [fc_ok (fAll1 (d:=.tup (t'.bs.map T.d)) (h1:=h) (by rw [f2_ok (x:=t'.d) (h1:=h) rfl rfl,t_ix1]; rfl)),oLen_tup,List.length_map]; rfl
 have c1:fB (f2 oEq (fc oLen (fAll [(f2 oIx (fV 3) (fC (.int 0)))])) (fC (.int 0))) [some (.int (w:Int)),some t.d,some (.int x),some t'.d] h=.ok ((t'.cs.length:Int)==0) h:=fB_ok (by rw [f2_ok i0 (fC_ok _ _ _),oEq_int]; rfl)
 have c2:fB (f2 oEq (fc oLen (fAll [(f2 oIx (fV 3) (fC (.int 1)))])) (fC (.int 1))) [some (.int (w:Int)),some t.d,some (.int x),some t'.d] h=.ok ((t'.bs.length:Int)==1) h:=fB_ok (by rw [f2_ok i1 (fC_ok _ _ _),oEq_int]; rfl)
 cases hc:t'.cs with
 | cons a r=>
  rw [topO_c (by rw [hc]; exact fun q=>nomatch q)]
  rw [fSeq_nx (e1:=[some (.int (w:Int)),some t.d,some (.int x),some t'.d]) (h1:=h) (by
   rw [fIfS_f (andF (by rw [c1,hc,show (((a::r).length:Int)==0)=false by rw [beq_eq_false_iff_ne]; simp; lia]))]
   rfl)]
  exact fRet_ok rfl
 | nil=>
  cases hb:t'.bs with
  | nil=>
   rw [topO_b hb]
   rw [fSeq_nx (e1:=[some (.int (w:Int)),some t.d,some (.int x),some t'.d]) (h1:=h) (by
    rw [fIfS_f (andT (by rw [c1,hc]; rfl) (by rw [c2,hb]; rfl))]
    rfl)]
   exact fRet_ok rfl
  | cons b r=>
   have l1:=one hc (by rw [hb]; exact fun q=>nomatch q)
   rw [topO_u hc hb]
   refine fSeq_rt ?_
   rw [fIfS_t (andT (by rw [c1,hc]; rfl) (by rw [c2,l1]; rfl))]
   refine fRet_ok ?_
   rw [f2_ok (x:=.tup (t'.bs.map T.d)) (h1:=h) (by rw [f2_ok (x:=t'.d) (h1:=h) rfl rfl,t_ix1]; rfl) (y:=.int ((0:Nat):Int)) (h2:=h) rfl,oIx_tup,hb,atI_nat']
   rfl
theorem run_takeno5 {xN:Addr}{half w:Nat}{x:Int}{t:T} (hh:half=w / 2) (h0:0 < half) (nk:NK x 5 t) (h:Hh):fnRunX 4 (t_take_outX (relX (R_taken xN 5))) [.int (w:Int),t.d,.int x] h=.ex (.ref xN) h:=by
 refine fnRunX_ex (e:=startE 4 [.int (w:Int),t.d,.int x]) ?_
 unfold t_take_outX
 refine fSeq_ex (fSet_ex ?_)
 rw [fcX_ok (ds:=[.int (w:Int),t.d,.int x]) (h1:=h) rfl,relX_eq (det_taken 5) ⟨w,half,x,t,rfl,hh,h0,.inr ⟨nk,rfl⟩⟩ h]
 rfl
theorem fAll_ex2 {f g:FE}{e:En}{h h1 h2:Hh}{d:D}{c:Value} (q:f e h=.ok d h1) (q2:g e h1=.ex c h2):fTup [f,g] e h=.ex c h2:=by
 unfold fTup fAll
 rw [q,Res.bind_ok]
 unfold fAll
 rw [q2]
 rfl
noncomputable def prD (p:D×T):D:=.tup [p.1,p.2.d]
theorem run_cwM (xW:Addr) (w:Int) (h:Hh):fnRunX 1 (t_check_width xW) [.int w] h=if w < 2 then .ex (.ref xW) h else .ok .non h:=by
 have qc:fB (f2 oLt (fV 0) (fC (.int 2))) [some (.int w)] h=.ok (decide (w < 2)) h:=fB_ok (by rw [f2_ok (x:=.int w) (h1:=h) rfl (y:=.int 2) (h2:=h) rfl]; rfl)
 by_cases c:w < 2
 ·rw [if_pos c]
  rw [decide_eq_true c] at qc
  refine fnRunX_ex (e:=[some (.int w)]) ?_
  show fIfS _ _ _ [some (.int w)] h=_
  rw [fIfS_t qc]
  rfl
 ·rw [if_neg c]
  rw [decide_eq_false c] at qc
  refine fnRunX_nx (e:=[some (.int w)]) ?_
  show fIfS _ _ _ [some (.int w)] h=_
  rw [fIfS_f qc]
  rfl
theorem run_mixed {h:Hh}{n:Nat}{ns:List Int} (e:h[n]?=some (.lst (ns.map D.int))) (hl:ns.length<=1000):∃ (ms:List Int),fnRun 1 t__law_mixed [.lst n] h=some (.lst h.length,h++[.lst (ms.map D.int)])/\ms.length=ns.length:=by
 refine⟨(List.range ns.length).map fun k=>(ns.getD k 0+7919*(k:Int))*48271 % 1000003,fnRun_rt (fRet_ok ?_),by rw [List.length_map,List.length_range]⟩
 show fComp _ _ _ _ [some (.lst n)] h=_
 have it:=fiRng1_ok (fs:=[(fc oLen (fAll [(fV 0)]))]) (env:=[some (.lst n)]) (h:=h) (h1:=h) (n:=ns.length) (fAll1 (by rw [fc_ok (fAll1 (d:=.lst n) (h1:=h) rfl),oLen_lst e,List.length_map]; rfl)) (by lia)
 have:=fComp_map (fr:=[0]) (fe:=(f2 oMod (f2 oMul (f2 oAdd (f2 oIx (fV 1) (fV 0)) (f2 oMul (fC (.int 7919)) (fV 0))) (fC (.int 48271))) (fC (.int 1000003)))) (g:=fun d=>match d with | .int k=>.int ((ns.getD k.toNat 0+7919*k)*48271 % 1000003) | _=>.non) it (fun xs=>trivial) (fun d hd xs=>by
  obtain⟨k,hk,rfl⟩:=List.mem_map.mp hd
  have hk:k < ns.length:=List.mem_range.mp hk
  show f2 oMod _ _ [some (.int (k:Int)),some (.lst n)] (h++[.lst xs])=_
  have ix:f2 oIx (fV 1) (fV 0) [some (.int (k:Int)),some (.lst n)] (h++[.lst xs])=.ok (.int (ns.getD k 0)) (h++[.lst xs]):=by
   rw [f2_ok (x:=.lst n) (h1:=h++[.lst xs]) rfl (y:=.int (k:Int)) (h2:=h++[.lst xs]) rfl,oIx_lst ((Grow.app _ _).at' e),atI_nat',List.getElem?_map,List.getElem?_eq_getElem hk,List.getD_eq_getElem?_getD,List.getElem?_eq_getElem hk]
   rfl
  have m1:f2 oMul (fC (.int 7919)) (fV 0) [some (.int (k:Int)),some (.lst n)] (h++[.lst xs])=.ok (.int (7919*(k:Int))) (h++[.lst xs]):=by
   rw [f2_ok (fC_ok (.int 7919) _ _) (y:=.int (k:Int)) (h2:=h++[.lst xs]) rfl,oMul_int _ (cMul_l (by decide) (by decide))]; rfl
  have m2:f2 oMul (f2 oAdd (f2 oIx (fV 1) (fV 0)) (f2 oMul (fC (.int 7919)) (fV 0))) (fC (.int 48271)) [some (.int (k:Int)),some (.lst n)] (h++[.lst xs])=.ok (.int ((ns.getD k 0+7919*(k:Int))*48271)) (h++[.lst xs]):=by
   rw [f2_ok (add_ok ix m1) (fC_ok (.int 48271) _ _),oMul_int _ (cMulR (by decide) (by decide))]; rfl
  rw [mod_ok m2 (fC_ok (.int 1000003) _ _) (by decide)]
  rfl) (by rw [List.length_map,List.length_range]; exact sz1000 (by lia))
 rw [this]
 simp only [List.map_map]
 rfl
theorem four_ix {h:Hh}{e:En}{g:FE}{y a b c d:Int} (qg:∀ h',Grow h h'->g e h'=.ok (.int y) h'):∃ (z:Int) (o:O),(z=a\/z=b\/z=c\/z=d)/\f2 oIx (fLst [(fC (.int a)),(fC (.int b)),(fC (.int c)),(fC (.int d))]) (f2 oMod g (fC (.int 4))) e h=.ok (.int z) (h++[o]):=by
 have i0:=Int.emod_nonneg y (show (4:Int)≠0 by decide)
 have i1:=Int.emod_lt_of_pos y (show (0:Int) < 4 by decide)
 have l1:fLst [(fC (.int a)),(fC (.int b)),(fC (.int c)),(fC (.int d))] e h=.ok (.lst h.length) (h++[.lst [.int a,.int b,.int c,.int d]]):=rfl
 obtain⟨z,hz,hat⟩:∃ z:Int,(z=a\/z=b\/z=c\/z=d)/\atI [D.int a,.int b,.int c,.int d] (y % 4)=some (.int z):=by
  generalize y % 4=ix at i0 i1
  have:ix=0\/ix=1\/ix=2\/ix=3:=by lia
  rcases this with rfl | rfl | rfl | rfl
  ·exact⟨a,.inl rfl,rfl⟩
  ·exact⟨b,.inr (.inl rfl),rfl⟩
  ·exact⟨c,.inr (.inr (.inl rfl)),rfl⟩
  ·exact⟨d,.inr (.inr (.inr rfl)),rfl⟩
 refine⟨z,.lst [.int a,.int b,.int c,.int d],hz,?_⟩
 rw [f2_ok l1 (mod_ok (qg _ (.app _ _)) (fC_ok _ _ _) (by decide)),oIx_lst (at_new _ _),hat]
 rfl
theorem three_ix {h:Hh}{e:En}{g:FE}{y a b c:Int} (qg:∀ h',Grow h h'->g e h'=.ok (.int y) h'):∃ (z:Int) (o:O),(z=a\/z=b\/z=c)/\f2 oIx (fLst [(fC (.int a)),(fC (.int b)),(fC (.int c))]) (f2 oMod g (fC (.int 3))) e h=.ok (.int z) (h++[o]):=by
 have i0:=Int.emod_nonneg y (show (3:Int)≠0 by decide)
 have i1:=Int.emod_lt_of_pos y (show (0:Int) < 3 by decide)
 have l1:fLst [(fC (.int a)),(fC (.int b)),(fC (.int c))] e h=.ok (.lst h.length) (h++[.lst [.int a,.int b,.int c]]):=rfl
 obtain⟨z,hz,hat⟩:∃ z:Int,(z=a\/z=b\/z=c)/\atI [D.int a,.int b,.int c] (y % 3)=some (.int z):=by
  generalize y % 3=ix at i0 i1
  have:ix=0\/ix=1\/ix=2:=by lia
  rcases this with rfl | rfl | rfl
  ·exact⟨a,.inl rfl,rfl⟩
  ·exact⟨b,.inr (.inl rfl),rfl⟩
  ·exact⟨c,.inr (.inr rfl),rfl⟩
 refine⟨z,.lst [.int a,.int b,.int c],hz,?_⟩
 rw [f2_ok l1 (mod_ok (qg _ (.app _ _)) (fC_ok _ _ _) (by decide)),oIx_lst (at_new _ _),hat]
 rfl
theorem sign_len:∀ k:Fin 27,(Txt.slice (Str.ofString "abcdefghijklmnopqrstuvwxyz") (some ((k.val:Nat):Int)) (some ((k.val:Nat)+1:Int))).length<=26:=by decide +kernel
noncomputable def dayB:FS:=(fSeq (fSet 10 (f2 oEq (f2 oMod (f2 oDiv (fV 9) (fV 3)) (fC (.int 2))) (fC (.int 0))))
  (fSeq (fSet 11 (f2 oEq (f2 oEq (f2 oMod (f2 oIx (fV 7) (fV 9)) (fC (.int 8))) (fC (.int 0))) (fV 10)))
  (fSeq (fSet 12 (f2 oMod (f2 oAdd (f2 oMod (f2 oDiv (f2 oIx (fV 7) (fV 9)) (fC (.int 8))) (fV 5)) (f2 oMul (fV 9) (fV 4))) (fV 6)))
  (fSeq (fSet 13 (fc (fnRun 2 t__law_far) (fAll [(f2 oSub (fV 12) (f2 oDiv (fV 6) (fC (.int 3)))),(fV 1)])))
  (fSeq (fIfS (fAnd (fB (fV 11)) (fAnd (fB (f2 oGt (fV 9) (fC (.int 0)))) (fB (f2 oNe (f2 oMod (f2 oDiv (f2 oIx (fV 7) (fV 9)) (fC (.int 8))) (fC (.int 8))) (fC (.int 7)))))) (fSet 13 (f2 oIx (f2 oIx (fV 8) (f2 oMod (f2 oAdd (f2 oMul (f2 oMod (fV 9) (fV 3)) (fC (.int 7))) (f2 oDiv (f2 oIx (fV 7) (fV 9)) (fC (.int 64)))) (fV 9))) (fC (.int 1)))) fNext)
  (fSeq (fSet 14 (f2 oMod (f2 oDiv (f2 oIx (fV 7) (fV 9)) (fC (.int 8))) (fC (.int 27))))
  (fIfS (fB (fV 11)) (fDrop (fM oAppend (fV 8) [(fTup [(fC (.str "take")),(fV 13)])])) (fSeq (fSet 15 (f2 oIx (fLst [(fC (.str "")),(fC (.str " & so on; ")),(f2 oAdd (fC (.str ", put in as No. ")) (fc oStr (fAll [(fV 9)])))]) (f2 oMod (fV 9) (fC (.int 3)))))
  (fDrop (fM oAppend (fV 8) [(fTup [(fC (.str "put")),(fV 13),(f2 oAdd (fSl (fV 2) (fPart (fV 14)) (fPart (f2 oAdd (fV 14) (fC (.int 1))))) (fV 15))])]))))))))))
noncomputable def DayP (h:Hh) (n c d:Nat) (step wv sd sp wi:Int) (k:Nat) (e:En) (h':Hh):Prop:=∃ (ds:List Deed) (z9 z10 z11 z12 z13 z14 z15:Option D),e=[some (.lst n),some (.int step),some (.str "abcdefghijklmnopqrstuvwxyz"),some (.int wv),some (.int sd),some (.int sp),some (.int wi),some (.lst c),some (.lst d),z9,z10,z11,z12,z13,z14,z15]/\h'[d]?=some (.lst (ds.map Deed.d))/\Grow h h'/\ds.length=k
theorem day_step {h h':Hh}{n c d:Nat}{step wv sd sp wi:Int}{cells:List Int}{k:Nat}{e:En} (hd:h.length<=d) (hk1:k<=1000) (hwv:4<=wv/\wv<=63) (hsd:-1000<=sd/\sd<=1000) (hsp:0 < sp/\sp<=2000) (hwi:0 < wi/\wi<=2000) (hc:h[c]?=some (.lst (cells.map D.int))) (hk:k < cells.length) (p:DayP h n c d step wv sd sp wi k e h'):
  ∃ e2 h2,dayB (e.set 9 (some (.int (k:Int)))) h'=.nx e2 h2/\DayP h n c d step wv sd sp wi (k+1) e2 h2:=by
 obtain⟨ds,z9,z10,z11,z12,z13,z14,z15,rfl,ed,G,dl⟩:=p
 show ∃ e2 h2,dayB [some (.lst n),some (.int step),some (.str "abcdefghijklmnopqrstuvwxyz"),some (.int wv),some (.int sd),some (.int sp),some (.int wi),some (.lst c),some (.lst d),some (.int (k:Int)),z10,z11,z12,z13,z14,z15] h'=.nx e2 h2/\_
 obtain⟨x,hx⟩:∃ x,cells[k]?=some x:=⟨_,List.getElem?_eq_getElem hk⟩
 have cell:∀ (e:En) (h':Hh),Grow h h'->e[7]?=some (some (.lst c))->e[9]?=some (some (.int (k:Int)))->f2 oIx (fV 7) (fV 9) e h'=.ok (.int x) h':=fun e h' G e7 e9=>by
  rw [f2_ok (fV_ok e7 h') (fV_ok e9 h'),oIx_lst (G.at' hc),atI_nat',List.getElem?_map,hx]; rfl
 unfold dayB
 obtain⟨b1,q1⟩:∃ b:Bool,f2 oEq (f2 oMod (f2 oDiv (fV 9) (fV 3)) (fC (.int 2))) (fC (.int 0)) [some (.lst n),some (.int step),some (.str "abcdefghijklmnopqrstuvwxyz"),some (.int wv),some (.int sd),some (.int sp),some (.int wi),some (.lst c),some (.lst d),some (.int (k:Int)),z10,z11,z12,z13,z14,z15] h'=.ok (.bl b) h':=⟨_,by
  rw [f2_ok (mod_ok (div_ok (x:=(k:Int)) (y:=wv) (fV_ok rfl h') (fV_ok rfl h') (by lia)) (fC_ok (.int 2) _ _) (by decide)) (fC_ok (.int 0) _ _),oEq_int]; rfl⟩
 rw [fSeq_nx (e1:=[some (.lst n),some (.int step),some (.str "abcdefghijklmnopqrstuvwxyz"),some (.int wv),some (.int sd),some (.int sp),some (.int wi),some (.lst c),some (.lst d),some (.int (k:Int)),some (.bl b1),z11,z12,z13,z14,z15]) (h1:=h') (fSet_ok q1)]
 obtain⟨b2,q2⟩:∃ b:Bool,f2 oEq (f2 oEq (f2 oMod (f2 oIx (fV 7) (fV 9)) (fC (.int 8))) (fC (.int 0))) (fV 10) [some (.lst n),some (.int step),some (.str "abcdefghijklmnopqrstuvwxyz"),some (.int wv),some (.int sd),some (.int sp),some (.int wi),some (.lst c),some (.lst d),some (.int (k:Int)),some (.bl b1),z11,z12,z13,z14,z15] h'=.ok (.bl b) h':=⟨_,by
  rw [f2_ok (x:=.bl (x % 8==0)) (h1:=h') (by rw [f2_ok (mod_ok (cell _ h' G rfl rfl) (fC_ok (.int 8) _ _) (by decide)) (fC_ok (.int 0) _ _),oEq_int]; rfl) (y:=.bl b1) (h2:=h') rfl,oEq_bl]; rfl⟩
 rw [fSeq_nx (e1:=[some (.lst n),some (.int step),some (.str "abcdefghijklmnopqrstuvwxyz"),some (.int wv),some (.int sd),some (.int sp),some (.int wi),some (.lst c),some (.lst d),some (.int (k:Int)),some (.bl b1),some (.bl b2),z12,z13,z14,z15]) (h1:=h') (fSet_ok q2)]
 obtain⟨pl,q3⟩:∃ pl:Int,f2 oMod (f2 oAdd (f2 oMod (f2 oDiv (f2 oIx (fV 7) (fV 9)) (fC (.int 8))) (fV 5)) (f2 oMul (fV 9) (fV 4))) (fV 6) [some (.lst n),some (.int step),some (.str "abcdefghijklmnopqrstuvwxyz"),some (.int wv),some (.int sd),some (.int sp),some (.int wi),some (.lst c),some (.lst d),some (.int (k:Int)),some (.bl b1),some (.bl b2),z12,z13,z14,z15] h'=.ok (.int pl) h':=⟨_,by
  have m1:f2 oMul (fV 9) (fV 4) [some (.lst n),some (.int step),some (.str "abcdefghijklmnopqrstuvwxyz"),some (.int wv),some (.int sd),some (.int sp),some (.int wi),some (.lst c),some (.lst d),some (.int (k:Int)),some (.bl b1),some (.bl b2),z12,z13,z14,z15] h'=.ok (.int ((k:Int)*sd)) h':=by
   rw [f2_ok (x:=.int (k:Int)) (h1:=h') rfl (y:=.int sd) (h2:=h') rfl,oMul_int _ (cMul_l (by lia) (by lia))]; rfl
  exact mod_ok (add_ok (mod_ok (div_ok (cell _ h' G rfl rfl) (fC_ok (.int 8) _ _) (by decide)) (fV_ok (i:=5) rfl h') (by lia)) m1) (fV_ok (i:=6) rfl h') (by lia)⟩
 rw [fSeq_nx (e1:=[some (.lst n),some (.int step),some (.str "abcdefghijklmnopqrstuvwxyz"),some (.int wv),some (.int sd),some (.int sp),some (.int wi),some (.lst c),some (.lst d),some (.int (k:Int)),some (.bl b1),some (.bl b2),some (.int pl),z13,z14,z15]) (h1:=h') (fSet_ok q3)]
 rw [fSeq_nx (e1:=[some (.lst n),some (.int step),some (.str "abcdefghijklmnopqrstuvwxyz"),some (.int wv),some (.int sd),some (.int sp),some (.int wi),some (.lst c),some (.lst d),some (.int (k:Int)),some (.bl b1),some (.bl b2),some (.int pl),some (.int (far (pl - wi / 3) step)),z14,z15]) (h1:=h') (fSet_ok (by
  rw [fc_ok (fAll2 (sub_ok (x:=pl) (fV_ok rfl h') (div_ok (x:=wi) (fV_ok rfl h') (fC_ok (.int 3) _ _) (by decide))) (d2:=.int step) (h2:=h') rfl),run_far]
  rfl))]
 obtain⟨nb,q4⟩:∃ nb:Int,(fIfS (fAnd (fB (fV 11)) (fAnd (fB (f2 oGt (fV 9) (fC (.int 0)))) (fB (f2 oNe (f2 oMod (f2 oDiv (f2 oIx (fV 7) (fV 9)) (fC (.int 8))) (fC (.int 8))) (fC (.int 7)))))) (fSet 13 (f2 oIx (f2 oIx (fV 8) (f2 oMod (f2 oAdd (f2 oMul (f2 oMod (fV 9) (fV 3)) (fC (.int 7))) (f2 oDiv (f2 oIx (fV 7) (fV 9)) (fC (.int 64)))) (fV 9))) (fC (.int 1)))) fNext) [some (.lst n),some (.int step),some (.str "abcdefghijklmnopqrstuvwxyz"),some (.int wv),some (.int sd),some (.int sp),some (.int wi),some (.lst c),some (.lst d),some (.int (k:Int)),some (.bl b1),some (.bl b2),some (.int pl),some (.int (far (pl - wi / 3) step)),z14,z15] h'=.nx [some (.lst n),some (.int step),some (.str "abcdefghijklmnopqrstuvwxyz"),some (.int wv),some (.int sd),some (.int sp),some (.int wi),some (.lst c),some (.lst d),some (.int (k:Int)),some (.bl b1),some (.bl b2),some (.int pl),some (.int nb),z14,z15] h':=by
  have g1:fB (f2 oGt (fV 9) (fC (.int 0))) [some (.lst n),some (.int step),some (.str "abcdefghijklmnopqrstuvwxyz"),some (.int wv),some (.int sd),some (.int sp),some (.int wi),some (.lst c),some (.lst d),some (.int (k:Int)),some (.bl b1),some (.bl b2),some (.int pl),some (.int (far (pl - wi / 3) step)),z14,z15] h'=.ok (decide ((0:Int) < (k:Int))) h':=fB_ok (by rw [f2_ok (x:=.int (k:Int)) (h1:=h') rfl (fC_ok (.int 0) _ _)]; rfl)
  obtain⟨b3,g2⟩:∃ b:Bool,fB (f2 oNe (f2 oMod (f2 oDiv (f2 oIx (fV 7) (fV 9)) (fC (.int 8))) (fC (.int 8))) (fC (.int 7))) [some (.lst n),some (.int step),some (.str "abcdefghijklmnopqrstuvwxyz"),some (.int wv),some (.int sd),some (.int sp),some (.int wi),some (.lst c),some (.lst d),some (.int (k:Int)),some (.bl b1),some (.bl b2),some (.int pl),some (.int (far (pl - wi / 3) step)),z14,z15] h'=.ok b h':=⟨_,fB_ok (by
   rw [f2_ok (mod_ok (div_ok (cell _ h' G rfl rfl) (fC_ok (.int 8) _ _) (by decide)) (fC_ok (.int 8) _ _) (by decide)) (fC_ok (.int 7) _ _),oNe_int]; rfl)⟩
  cases b2 with
  | false=>exact⟨_,by rw [fIfS_f (h1:=h') (andF (h1:=h') rfl)]; rfl⟩
  | true=>
   by_cases c0:k=0
   ·exact⟨_,by rw [fIfS_f (h1:=h') (andT (h1:=h') (b:=false) rfl (andF (by rw [g1,decide_eq_false (by lia)])))]; rfl⟩
   ·rw [decide_eq_true (by lia)] at g1
    cases b3 with
    | false=>exact⟨_,by rw [fIfS_f (h1:=h') (andT (h1:=h') (b:=false) rfl (andT g1 g2))]; rfl⟩
    | true=>
     obtain⟨j,q5⟩:∃ j:Int,f2 oMod (f2 oAdd (f2 oMul (f2 oMod (fV 9) (fV 3)) (fC (.int 7))) (f2 oDiv (f2 oIx (fV 7) (fV 9)) (fC (.int 64)))) (fV 9) [some (.lst n),some (.int step),some (.str "abcdefghijklmnopqrstuvwxyz"),some (.int wv),some (.int sd),some (.int sp),some (.int wi),some (.lst c),some (.lst d),some (.int (k:Int)),some (.bl b1),some (.bl true),some (.int pl),some (.int (far (pl - wi / 3) step)),z14,z15] h'=.ok (.int (j % (k:Int))) h':=⟨_,by
      have m1:f2 oMul (f2 oMod (fV 9) (fV 3)) (fC (.int 7)) [some (.lst n),some (.int step),some (.str "abcdefghijklmnopqrstuvwxyz"),some (.int wv),some (.int sd),some (.int sp),some (.int wi),some (.lst c),some (.lst d),some (.int (k:Int)),some (.bl b1),some (.bl true),some (.int pl),some (.int (far (pl - wi / 3) step)),z14,z15] h'=.ok (.int ((k:Int) % wv*7)) h':=by
       rw [f2_ok (mod_ok (x:=(k:Int)) (y:=wv) (fV_ok rfl h') (fV_ok rfl h') (by lia)) (fC_ok (.int 7) _ _),oMul_int _ (cMulR (by decide) (by decide))]; rfl
      exact mod_ok (add_ok m1 (div_ok (cell _ h' G rfl rfl) (fC_ok (.int 64) _ _) (by decide))) (fV_ok (i:=9) rfl h') (by lia)⟩
     have j0:=Int.emod_nonneg j (show (k:Int)≠0 by lia)
     have j1:=Int.emod_lt_of_pos j (show (0:Int) < (k:Int) by lia)
     obtain⟨m,hm⟩:∃ m:Nat,j % (k:Int)=(m:Int):=⟨(j % (k:Int)).toNat,by lia⟩
     rw [hm] at q5 j1
     obtain⟨de,hde⟩:∃ de,ds[m]?=some de:=⟨_,List.getElem?_eq_getElem (by lia)⟩
     refine⟨de.n,?_⟩
     rw [fIfS_t (h1:=h') (andT (h1:=h') (b:=true) rfl (andT g1 g2))]
     refine (fSet_ok (d:=.int de.n) (h1:=h') ?_).trans rfl
     rw [f2_ok (x:=de.d) (h1:=h') (by rw [f2_ok (x:=.lst d) (h1:=h') rfl q5,oIx_lst ed,atI_nat',List.getElem?_map,hde]; rfl) (fC_ok (.int 1) _ _)]
     cases de<;>rfl
 rw [fSeq_nx q4]
 have r0:=Int.emod_nonneg (x / 8) (show (27:Int)≠0 by decide)
 have r1:=Int.emod_lt_of_pos (x / 8) (show (0:Int) < 27 by decide)
 rw [fSeq_nx (e1:=[some (.lst n),some (.int step),some (.str "abcdefghijklmnopqrstuvwxyz"),some (.int wv),some (.int sd),some (.int sp),some (.int wi),some (.lst c),some (.lst d),some (.int (k:Int)),some (.bl b1),some (.bl b2),some (.int pl),some (.int nb),some (.int (x / 8 % 27)),z15]) (h1:=h') (fSet_ok (mod_ok (div_ok (cell _ h' G rfl rfl) (fC_ok (.int 8) _ _) (by decide)) (fC_ok (.int 27) _ _) (by decide)))]
 generalize x / 8 % 27=sg at r0 r1
 cases b2 with
 | true=>
  rw [fIfS_t (h1:=h') rfl]
  rw [fApp_ok (fV_ok rfl h') ed (d:=(Deed.take nb).d) (h2:=h') rfl ed (by rw [List.length_map]; lia)]
  refine⟨_,_,rfl,ds++[.take nb],_,_,_,_,_,_,_,rfl,?_,G.set hd _,by rw [List.length_append,dl]; rfl⟩
  rw [at_set ed,List.map_append]
  rfl
 | false=>
  rw [fIfS_f (h1:=h') rfl]
  have sl:(Txt.slice (Str.ofString "abcdefghijklmnopqrstuvwxyz") (some sg) (some (sg+1))).length<=26:=by
   have:=sign_len ⟨sg.toNat,by lia⟩
   simp only at this
   rw [show ((sg.toNat:Nat):Int)=sg by lia] at this
   exact this
  have tl:=toString_len (k:Int)
  have lg:(k:Int).natAbs.log2 < 1920:=by
   by_cases z:(k:Int).natAbs=0
   ·rw [z]; decide
   ·exact Nat.lt_trans ((Nat.log2_lt z).mpr (show (k:Int).natAbs < 2 ^ 20 by lia)) (by decide)
  have w16:(Str.ofString ", put in as No. ").length=16:=by decide +kernel
  have wt:(Str.ofString (toString (k:Int))).length<=1002:=by rw [ofString_len]; lia
  have s1:fc oStr (fAll [fV 9]) [some (.lst n),some (.int step),some (.str "abcdefghijklmnopqrstuvwxyz"),some (.int wv),some (.int sd),some (.int sp),some (.int wi),some (.lst c),some (.lst d),some (.int (k:Int)),some (.bl b1),some (.bl false),some (.int pl),some (.int nb),some (.int sg),z15] h'=.ok (.str (toString (k:Int))) h':=by
   rw [fc_ok (fAll1 (d:=.int (k:Int)) (h1:=h') rfl),oStr_int _ lg]; rfl
  have s2:f2 oAdd (fC (.str ", put in as No. ")) (fc oStr (fAll [fV 9])) [some (.lst n),some (.int step),some (.str "abcdefghijklmnopqrstuvwxyz"),some (.int wv),some (.int sd),some (.int sp),some (.int wi),some (.lst c),some (.lst d),some (.int (k:Int)),some (.bl b1),some (.bl false),some (.int pl),some (.int nb),some (.int sg),z15] h'=.ok (.str (Str.ofString ", put in as No. "++Str.ofString (toString (k:Int)))) h':=by
   rw [f2_ok (fC_ok _ _ _) s1,oAdd_str _ (sz1000' (by lia))]; rfl
  have s3:fLst [(fC (.str "")),(fC (.str " & so on; ")),(f2 oAdd (fC (.str ", put in as No. ")) (fc oStr (fAll [(fV 9)])))] [some (.lst n),some (.int step),some (.str "abcdefghijklmnopqrstuvwxyz"),some (.int wv),some (.int sd),some (.int sp),some (.int wi),some (.lst c),some (.lst d),some (.int (k:Int)),some (.bl b1),some (.bl false),some (.int pl),some (.int nb),some (.int sg),z15] h'=.ok (.lst h'.length) (h'++[.lst [.str "",.str " & so on; ",.str (Str.ofString ", put in as No. "++Str.ofString (toString (k:Int)))]]):=by
   unfold fLst
   rw [fAll_cons (fC_ok _ _ _) (fAll_cons (fC_ok _ _ _) (fAll_cons s2 rfl))]
   rfl
  obtain⟨wd,wl,hat⟩:∃ wd:Str,wd.length<=2000/\atI [D.str "",.str " & so on; ",.str (Str.ofString ", put in as No. "++Str.ofString (toString (k:Int)))] ((k:Int) % 3)=some (.str wd):=by
   have i0:=Int.emod_nonneg (k:Int) (show (3:Int)≠0 by decide)
   have i1:=Int.emod_lt_of_pos (k:Int) (show (0:Int) < 3 by decide)
   generalize (k:Int) % 3=ix at i0 i1
   have:ix=0\/ix=1\/ix=2:=by lia
   rcases this with rfl | rfl | rfl
   ·exact⟨_,by decide +kernel,rfl⟩
   ·exact⟨_,by decide +kernel,rfl⟩
   ·exact⟨_,by rw [str_len]; lia,rfl⟩
  have G2:=G.app1 (.lst [.str "",.str " & so on; ",.str (Str.ofString ", put in as No. "++Str.ofString (toString (k:Int)))])
  have ed2:(h'++[.lst [.str "",.str " & so on; ",.str (Str.ofString ", put in as No. "++Str.ofString (toString (k:Int)))]])[d]?=some (.lst (ds.map Deed.d)):=(Grow.app _ _).at' ed
  have q6:fSet 15 (f2 oIx (fLst [(fC (.str "")),(fC (.str " & so on; ")),(f2 oAdd (fC (.str ", put in as No. ")) (fc oStr (fAll [(fV 9)])))]) (f2 oMod (fV 9) (fC (.int 3)))) [some (.lst n),some (.int step),some (.str "abcdefghijklmnopqrstuvwxyz"),some (.int wv),some (.int sd),some (.int sp),some (.int wi),some (.lst c),some (.lst d),some (.int (k:Int)),some (.bl b1),some (.bl false),some (.int pl),some (.int nb),some (.int sg),z15] h'=.nx [some (.lst n),some (.int step),some (.str "abcdefghijklmnopqrstuvwxyz"),some (.int wv),some (.int sd),some (.int sp),some (.int wi),some (.lst c),some (.lst d),some (.int (k:Int)),some (.bl b1),some (.bl false),some (.int pl),some (.int nb),some (.int sg),some (.str wd)] (h'++[.lst [.str "",.str " & so on; ",.str (Str.ofString ", put in as No. "++Str.ofString (toString (k:Int)))]]):=
   fSet_ok (by rw [f2_ok s3 (mod_ok (x:=(k:Int)) (y:=3) (fV_ok rfl _) (fC_ok (.int 3) _ _) (by decide)),oIx_lst (at_new _ _),hat]; rfl)
  generalize h'++[.lst [.str "",.str " & so on; ",.str (Str.ofString ", put in as No. "++Str.ofString (toString (k:Int)))]]=h2 at q6 G2 ed2
  rw [fSeq_nx q6]
  have cd:fTup [(fC (.str "put")),(fV 13),(f2 oAdd (fSl (fV 2) (fPart (fV 14)) (fPart (f2 oAdd (fV 14) (fC (.int 1))))) (fV 15))] [some (.lst n),some (.int step),some (.str "abcdefghijklmnopqrstuvwxyz"),some (.int wv),some (.int sd),some (.int sp),some (.int wi),some (.lst c),some (.lst d),some (.int (k:Int)),some (.bl b1),some (.bl false),some (.int pl),some (.int nb),some (.int sg),some (.str wd)] h2=.ok (Deed.put nb (Txt.slice (Str.ofString "abcdefghijklmnopqrstuvwxyz") (some sg) (some (sg+1))++wd)).d h2:=by
   unfold fTup
   rw [fAll_cons (fC_ok (.str "put") _ _) (fAll2 (d:=.int nb) (h1:=h2) rfl (d2:=.str (Txt.slice (Str.ofString "abcdefghijklmnopqrstuvwxyz") (some sg) (some (sg+1))++wd)) (h2:=h2) (by
    rw [f2_ok (x:=.str (Txt.slice (Str.ofString "abcdefghijklmnopqrstuvwxyz") (some sg) (some (sg+1)))) (h1:=h2) (y:=.str wd) (h2:=h2) (by
     simp only [fSl,fC,fPart,fV,f2,List.getElem?_cons_zero,List.getElem?_cons_succ,getO_some,Res.bind_ok,ofO_some,partOf_int,oAdd_int]
     rw [oSl_str _ _ _ (by decide +kernel)]
     rfl) rfl,oAdd_str _ (sz1000' (by lia))]
    rfl))]
   rfl
  rw [fApp_ok (fV_ok rfl h2) ed2 cd ed2 (by rw [List.length_map]; lia)]
  refine⟨_,_,rfl,ds++[.put nb (Txt.slice (Str.ofString "abcdefghijklmnopqrstuvwxyz") (some sg) (some (sg+1))++wd)],_,_,_,_,_,_,_,rfl,?_,G2.set hd _,by rw [List.length_append,dl]; rfl⟩
  rw [at_set ed2,List.map_append]
  rfl
theorem run_day {h:Hh}{n:Nat}{ns:List Int} (e:h[n]?=some (.lst (ns.map D.int))) (hl:ns.length<=1000):
  ∃ (d:Nat) (ds:List Deed) (h':Hh),fnRun 16 (t__law_day (fnRun 2 (t__law_reach_by (fnRun 2 t__law_at))) (fnRun 2 t__law_at) (fnRun 2 t__law_far)) [.lst n] h=some (.lst d,h')/\Grow h h'/\h'[d]?=some (.lst (ds.map Deed.d))/\ds.length=ns.length - 3:=by
 obtain⟨step,o1,hs,q1⟩:=run_reach e
 have G1:Grow h (h++[o1]):=.app _ _
 generalize h++[o1]=h1 at q1 G1
 have w0:=Int.emod_nonneg (ns.getD 1 0) (show (60:Int)≠0 by decide)
 have w1:=Int.emod_lt_of_pos (ns.getD 1 0) (show (0:Int) < 60 by decide)
 have at_:∀ (e':En) (h':Hh) (i:Nat),Grow h h'->e'[0]?=some (some (.lst n))->fc (fnRun 2 t__law_at) (fAll [(fV 0),(fC (.int (i:Int)))]) e' h'=.ok (.int (ns.getD i 0)) h':=fun e' h' i G e0=>at_call (k:=i) e0 (G.at' e) rfl
 obtain⟨sd,o2,hsd,q2⟩:=four_ix (h:=h1) (e:=[some (.lst n),some (.int step),some (.str "abcdefghijklmnopqrstuvwxyz"),some (.int (4+ns.getD 1 0 % 60)),none,none,none,none,none,none,none,none,none,none,none,none]) (g:=fc (fnRun 2 t__law_at) (fAll [(fV 0),(fC (.int 2))])) (y:=ns.getD 2 0) (a:=1) (b:=36) (c:=13) (d:=24) (fun h' g=>at_ _ h' 2 (G1.trans g) rfl)
 have G2:=G1.app1 o2
 generalize h1++[o2]=h2 at q2 G2
 obtain⟨sp,o3,hsp,q3⟩:=three_ix (h:=h2) (e:=[some (.lst n),some (.int step),some (.str "abcdefghijklmnopqrstuvwxyz"),some (.int (4+ns.getD 1 0 % 60)),some (.int sd),none,none,none,none,none,none,none,none,none,none,none]) (g:=f2 oDiv (fc (fnRun 2 t__law_at) (fAll [(fV 0),(fC (.int 2))])) (fC (.int 4))) (y:=ns.getD 2 0 / 4) (a:=37) (b:=7) (c:=1) (fun h' g=>div_ok (at_ _ h' 2 (G2.trans g) rfl) (fC_ok (.int 4) _ _) (by decide))
 have G3:=G2.app1 o3
 generalize h2++[o3]=h3 at q3 G3
 obtain⟨wi,o4,hwi,q4⟩:=three_ix (h:=h3) (e:=[some (.lst n),some (.int step),some (.str "abcdefghijklmnopqrstuvwxyz"),some (.int (4+ns.getD 1 0 % 60)),some (.int sd),some (.int sp),none,none,none,none,none,none,none,none,none,none]) (g:=f2 oDiv (fc (fnRun 2 t__law_at) (fAll [(fV 0),(fC (.int 2))])) (fC (.int 12))) (y:=ns.getD 2 0 / 12) (a:=37) (b:=1009) (c:=37) (fun h' g=>div_ok (at_ _ h' 2 (G3.trans g) rfl) (fC_ok (.int 12) _ _) (by decide))
 have G4:=G3.app1 o4
 generalize h3++[o4]=h4 at q4 G4
 have q5:fSl (fV 0) (fPart (fC (.int 3))) fNoPart [some (.lst n),some (.int step),some (.str "abcdefghijklmnopqrstuvwxyz"),some (.int (4+ns.getD 1 0 % 60)),some (.int sd),some (.int sp),some (.int wi),none,none,none,none,none,none,none,none,none] h4=.ok (.lst h4.length) (h4++[.lst ((ns.drop 3).map D.int)]):=by
  unfold fSl fPart fNoPart
  rw [fV_ok (d:=.lst n) rfl,Res.bind_ok,fC_ok]
  simp only [Res.bind_ok,partOf_int]
  rw [oSl_lst (G4.at' e),show (3:Int)=((3:Nat):Int) from rfl,cut_tail,<-List.map_drop]
  rfl
 have G5:=G4.app1 (.lst ((ns.drop 3).map D.int))
 have a5:=at_new h4 (.lst ((ns.drop 3).map D.int))
 generalize h4++[.lst ((ns.drop 3).map D.int)]=h5 at q5 G5 a5
 obtain⟨e6,h6,q6,ds,z9,z10,z11,z12,z13,z14,z15,he,ed,G6,dl⟩:=forG_run (chk:=fun _=>True) (i:=9) (t:=dayB)
  (P:=DayP h5 n h4.length h5.length step (4+ns.getD 1 0 % 60) sd sp wi) ((List.range (ns.drop 3).length).map fun (k:Nat)=>D.int k) [some (.lst n),some (.int step),some (.str "abcdefghijklmnopqrstuvwxyz"),some (.int (4+ns.getD 1 0 % 60)),some (.int sd),some (.int sp),some (.int wi),some (.lst h4.length),some (.lst h5.length),none,none,none,none,none,none,none] (h5++[.lst []])
  ⟨[],none,none,none,none,none,none,none,rfl,at_new _ _,.app _ _,rfl⟩ (fun _ _ _ _=>trivial)
  (fun k d e' h' hk p=>by
   obtain⟨hlt,rfl⟩:=range_get hk
   exact day_step (Nat.le_refl _) (by rw [List.length_drop] at hlt; lia) (by lia) (by lia) (by lia) (by lia) a5 hlt p)
 rw [List.length_map,List.length_range] at dl
 refine⟨h5.length,ds,h6,fnRun_rt ?_,G5.trans G6,ed,by rw [dl,List.length_drop]⟩
 unfold t__law_day
 show fSeq _ _ [some (.lst n),none,none,none,none,none,none,none,none,none,none,none,none,none,none,none] h=_
 rw [fSeq_nx (e1:=[some (.lst n),some (.int step),none,none,none,none,none,none,none,none,none,none,none,none,none,none]) (h1:=h1) (fSet_ok (by rw [fc_ok (fAll1 (d:=.lst n) (h1:=h) rfl),q1]; rfl))]
 rw [fSeq_nx (e1:=[some (.lst n),some (.int step),some (.str "abcdefghijklmnopqrstuvwxyz"),none,none,none,none,none,none,none,none,none,none,none,none,none]) (h1:=h1) (fSet_ok rfl)]
 rw [fSeq_nx (e1:=[some (.lst n),some (.int step),some (.str "abcdefghijklmnopqrstuvwxyz"),some (.int (4+ns.getD 1 0 % 60)),none,none,none,none,none,none,none,none,none,none,none,none]) (h1:=h1) (fSet_ok (add_ok (fC_ok _ _ _) (mod_ok (at_ _ h1 1 G1 rfl) (fC_ok (.int 60) _ _) (by decide))))]
 rw [fSeq_nx (e1:=[some (.lst n),some (.int step),some (.str "abcdefghijklmnopqrstuvwxyz"),some (.int (4+ns.getD 1 0 % 60)),some (.int sd),none,none,none,none,none,none,none,none,none,none,none]) (h1:=h2) (fSet_ok q2)]
 rw [fSeq_nx (e1:=[some (.lst n),some (.int step),some (.str "abcdefghijklmnopqrstuvwxyz"),some (.int (4+ns.getD 1 0 % 60)),some (.int sd),some (.int sp),none,none,none,none,none,none,none,none,none,none]) (h1:=h3) (fSet_ok q3)]
 rw [fSeq_nx (e1:=[some (.lst n),some (.int step),some (.str "abcdefghijklmnopqrstuvwxyz"),some (.int (4+ns.getD 1 0 % 60)),some (.int sd),some (.int sp),some (.int wi),none,none,none,none,none,none,none,none,none]) (h1:=h4) (fSet_ok q4)]
 rw [fSeq_nx (e1:=[some (.lst n),some (.int step),some (.str "abcdefghijklmnopqrstuvwxyz"),some (.int (4+ns.getD 1 0 % 60)),some (.int sd),some (.int sp),some (.int wi),some (.lst h4.length),none,none,none,none,none,none,none,none]) (h1:=h5) (fSet_ok q5)]
 rw [fSeq_nx (e1:=[some (.lst n),some (.int step),some (.str "abcdefghijklmnopqrstuvwxyz"),some (.int (4+ns.getD 1 0 % 60)),some (.int sd),some (.int sp),some (.int wi),some (.lst h4.length),some (.lst h5.length),none,none,none,none,none,none,none]) (h1:=h5++[.lst []]) (fSet_ok (d:=.lst h5.length) rfl)]
 have len:fc oLen (fAll [(fV 7)]) [some (.lst n),some (.int step),some (.str "abcdefghijklmnopqrstuvwxyz"),some (.int (4+ns.getD 1 0 % 60)),some (.int sd),some (.int sp),some (.int wi),some (.lst h4.length),some (.lst h5.length),none,none,none,none,none,none,none] (h5++[.lst []])=.ok (.int ((ns.drop 3).length:Int)) (h5++[.lst []]):=by
  rw [fc_ok (fAll1 (d:=.lst h4.length) (h1:=h5++[.lst []]) rfl),oLen_lst ((Grow.app _ _).at' a5),List.length_map]; rfl
 show fSeq (fFor 9 (fiRng rng1 [(fc oLen (fAll [(fV 7)]))]) dayB) (fRet (fV 8)) _ _=_
 rw [fSeq_nx ((fFor_ok (fiRng1_ok (n:=(ns.drop 3).length) (fAll1 len) (by rw [List.length_drop]; lia))).trans q6),he]
 rfl
noncomputable def markD:Option Int->D
 | none=>.non
 | some i=>.int i
noncomputable def btF:Nat->OC
 | 0=>fun _ _=>none
 | n+1=>fnRun 9 (t_between (relF R_place) (btF n))
theorem bottom_spec (lo hi:Option Int):∀ (cs:List Card),Srt cs->(cs.drop (stC lo cs)).take (enC hi cs - stC lo cs)=cs.filter (okC lo hi)
 | [],_=>by simp
 | c::cs,s=>by
  rw [Srt,List.pairwise_cons] at s
  have ih:=bottom_spec lo hi cs s.2
  rw [List.filter_cons,stC_cons,enC_cons]
  cases kl:okLo lo c with
  | false=>
   rw [okC_f1 kl]
   simp only [Bool.false_eq_true,if_false,List.drop_succ_cons]
   cases kh:okHi hi c with
   | true=>simp only [if_true]; rw [<-ih,show enC hi cs+1 - (stC lo cs+1)=enC hi cs - stC lo cs by lia]
   | false=>
    simp only [Bool.false_eq_true,if_false,Nat.zero_sub,List.take_zero]
    rw [filter_none fun x hx=>okC_f2 (by
     cases e:okHi hi x with
     | false=>rfl
     | true=>rw [okHi_dn (s.1 x hx) e] at kh; cases kh)]
  | true=>
   simp only [if_true,List.drop_zero,Nat.sub_zero]
   cases kh:okHi hi c with
   | false=>
    simp only [Bool.false_eq_true,if_false,List.take_zero]
    rw [okC_f2 kh,filter_none (l:=cs) fun x hx=>okC_f2 (by
     cases e:okHi hi x with
     | false=>rfl
     | true=>rw [okHi_dn (s.1 x hx) e] at kh; cases kh)]
    simp
   | true=>
    have z:stC lo cs=0:=by
     cases cs with
     | nil=>have:=stC_le lo []; simpa using this
     | cons c2 cs2=>rw [stC_cons,if_pos]; exact okLo_up (s.1 c2 (by simp)) kl
    rw [z,Nat.sub_zero,List.drop_zero] at ih
    rw [show okC lo hi c=true by rw [okC,kl,kh]; rfl,if_pos rfl,if_pos rfl,List.take_succ_cons,ih]
theorem outK_len {lo hi:Option Int}{fs:List (List Card)}{cs:List Card}{s B:Nat} (hB:∀ f∈fs,f.length<=B):∀ k:Nat,(outK lo hi fs cs s k).length<=k*(B+1)
 | 0=>by simp [outK]
 | k+1=>by
  have ih:=outK_len (lo:=lo) (hi:=hi) (cs:=cs) (s:=s) hB k
  rw [outK_succ,List.length_append,List.length_append,List.length_singleton]
  have h1:((fs.getD (s+k) []).filter (okC lo hi)).length<=B:=by
   refine Nat.le_trans (List.length_filter_le _ _) ?_
   rw [List.getD_eq_getElem?_getD]
   cases e:fs[s+k]? with
   | none=>simp
   | some f=>exact hB f (List.mem_of_getElem? e)
  rw [Nat.add_mul,Nat.one_mul]
  lia
theorem rng2_any {i j:Nat} (h:i<=1000000) (h2:j<=1000000):rng2 [.int i,.int j]=some ((List.range (j - i)).map fun (k:Nat)=>D.int ((i:Int)+k)):=by
 have c:-(2 ^ 62)<=(i:Int)/\(i:Int) < 2 ^ 62/\-(2 ^ 62)<=(j:Int)/\(j:Int) < 2 ^ 62:=⟨by lia,by lia,by lia,by lia⟩
 unfold rng2
 dsimp only
 rw [if_pos c,show ((j:Int) - i).toNat=j - i by lia]
theorem fiRng2_any {fs:List FE}{env:En}{h h1:Hh}{i j:Nat} (q:fAll fs env h=.ok [.int (i:Int),.int (j:Int)] h1) (hi:i<=1000000) (hj:j<=1000000):fiRng rng2 fs env h=.ok ⟨(List.range (j - i)).map fun (k:Nat)=>D.int ((i:Int)+k),fun _=>True⟩ h1:=by
 unfold fiRng
 rw [q,Res.bind_ok,rng2_any hi hj]
 rfl
theorem relF_place (cs:List Card) (x:Int) (hl:cs.length<=1000) (h:Hh):relF R_place [.tup (cs.map cardD),.int x] h=some (.int (placeC cs x),h):=relF_eq det_place ⟨cs,x,rfl,rfl,hl⟩ h
theorem getD_map {bs:List T}{p:Nat}{b:T} (e:bs[p]?=some b):(bs.map T.flat).getD p []=b.flat:=by
 rw [List.getD_eq_getElem?_getD,List.getElem?_map,e]
 rfl
theorem cal_bad {P:Program}{w:World}{K:PySem.W.Frag}{mg:Str->Option Value}{base:Heap}{x qual:Str}{st:Stmt}{f:Addr}{fd:FuncData}{ps:List Str}{k:Nat} (F:Fun K x qual st f fd) (hm:mg x=some (.ref f)) (b:Binds K fd ps []):
  Cal P w K mg base k x ps (fun _ _=>none):=by
 refine⟨f,fd,⟨fun vs H Q E q=>q.1,?_⟩,hm,F.kp,b⟩
 rintro A outer s H args us vs Q E hr he hb hv ⟨_,as,ds,h1,_,_,p⟩
 exact p.elim
theorem run_betweenN {least w:Nat} (lo hi:Option Int) (hw:w<=35):∀ (n j own:Nat) (t:T),j<=n->T.V least w own j t->Srt t.flat->t.flat.length<=1000->∀ h:Hh,∃ m h',btF n [t.d,markD lo,markD hi] h=some (.lst m,h')/\Grow h h'/\h'[m]?=some (.lst ((t.flat.filter (okC lo hi)).map cardD))/\h.length<=m
 | _,0,_,_,_,v,_,_,_=>v.elim
 | 0,j+1,_,_,hj,_,_,_,_=>absurd hj (by lia)
 | n+1,j+1,own,.node cs bs,hj,v,s,hz,h=>by
  have v':=v
  unfold T.V at v'
  obtain⟨-,hc,hb0,hb1⟩:=v'
  have i0:∀ h,oIx (T.node cs bs).d (.int 0) h=some (.tup (cs.map cardD),h):=fun h=>t_ix0 (.node cs bs) h
  have i1:∀ h,oIx (T.node cs bs).d (.int 1) h=some (.tup (bs.map T.d),h):=fun h=>t_ix1 (.node cs bs) h
  have s5:∀ (e:En) (h:Hh),e[1]?=some (some (markD lo))->e[3]?=some (some (.tup (cs.map cardD)))->fIf (fB (f2 oIsN (fV 1) (fC .non))) (fC (.int 0)) (fc (relF R_place) (fAll [(fV 3),(fV 1)])) e h=.ok (.int (stC lo cs)) h:=by
   intro e h e1 e3
   cases lo with
   | none=>simp [fIf,fSeq,fSet,fRet,fDrop,fIfS,fB,f1,f2,fc,fAll,fTup,fLst,fC,fV,fAnd,fOr,fNot,fAndV,fOrV,fSl,fNoPart,fPart,fNext,startE,getO_some,asB_bl,ofO_some,Res.bind_ok,Res.out_ok,e1,markD,isNon,stC]
   | some l=>simp [fIf,fSeq,fSet,fRet,fDrop,fIfS,fB,f1,f2,fc,fAll,fTup,fLst,fC,fV,fAnd,fOr,fNot,fAndV,fOrV,fSl,fNoPart,fPart,fNext,startE,getO_some,asB_bl,ofO_some,Res.bind_ok,Res.out_ok,e1,e3,markD,isNon,stC,relF_place cs l (by lia) h]
  have s6:∀ (e:En) (h:Hh),e[2]?=some (some (markD hi))->e[3]?=some (some (.tup (cs.map cardD)))->fIf (fB (f2 oIsN (fV 2) (fC .non))) (fc oLen (fAll [(fV 3)])) (fc (relF R_place) (fAll [(fV 3),(f2 oAdd (fV 2) (fC (.int 1)))])) e h=.ok (.int (enC hi cs)) h:=by
   intro e h e1 e3
   cases hi with
   | none=>simp [fIf,fSeq,fSet,fRet,fDrop,fIfS,fB,f1,f2,fc,fAll,fTup,fLst,fC,fV,fAnd,fOr,fNot,fAndV,fOrV,fSl,fNoPart,fPart,fNext,startE,getO_some,asB_bl,ofO_some,Res.bind_ok,Res.out_ok,e1,e3,markD,isNon,enC]
   | some l=>simp [fIf,fSeq,fSet,fRet,fDrop,fIfS,fB,f1,f2,fc,fAll,fTup,fLst,fC,fV,fAnd,fOr,fNot,fAndV,fOrV,fSl,fNoPart,fPart,fNext,startE,getO_some,asB_bl,ofO_some,Res.bind_ok,Res.out_ok,e1,e3,markD,isNon,enC,relF_place cs (l+1) (by lia) h]
  have ls:=stC_le lo cs
  have le:=enC_le hi cs
  have sp:=between_spec lo hi cs (bs.map T.flat)
  have sb:=bottom_spec lo hi cs
  generalize hS:stC lo cs=S at s5 ls sp sb
  generalize hE:enC hi cs=E at s6 le sp sb
  show ∃ m h',fnRun 9 (t_between (relF R_place) (btF n)) [(T.node cs bs).d,markD lo,markD hi] h=some (.lst m,h')/\_
  unfold t_between
  by_cases hn:j=0
  ·have:=hb0 hn
   subst this
   have fl:(T.node cs []).flat=cs:=by rw [T.flat_node]; simp [T.inter]
   rw [fl] at s |-
   refine⟨h.length,h++[.lst ((cs.filter (okC lo hi)).map cardD)],fnRun_rt ?_,.app _ _,at_new _ _,Nat.le_refl _⟩
   rw [fSeq_nx (e1:=[some (T.node cs []).d,some (markD lo),some (markD hi),some (.tup (cs.map cardD)),none,none,none,none,none]) (h1:=h) (fSet_ok (by rw [f2_ok (x:=(T.node cs []).d) (h1:=h) rfl rfl,i0]; rfl))]
   rw [fSeq_nx (e1:=[some (T.node cs []).d,some (markD lo),some (markD hi),some (.tup (cs.map cardD)),some (.tup []),none,none,none,none]) (h1:=h) (fSet_ok (by rw [f2_ok (x:=(T.node cs []).d) (h1:=h) rfl rfl,i1]; rfl))]
   rw [fSeq_nx (e1:=[some (T.node cs []).d,some (markD lo),some (markD hi),some (.tup (cs.map cardD)),some (.tup []),some (.int S),none,none,none]) (h1:=h) (fSet_ok (s5 _ _ rfl rfl))]
   rw [fSeq_nx (e1:=[some (T.node cs []).d,some (markD lo),some (markD hi),some (.tup (cs.map cardD)),some (.tup []),some (.int S),some (.int E),none,none]) (h1:=h) (fSet_ok (s6 _ _ rfl rfl))]
   refine fSeq_rt ?_
   rw [fIfS_t (h1:=h) (by simp [fSeq,fSet,fRet,fDrop,fIfS,fB,f1,f2,fc,fAll,fTup,fLst,fC,fV,fAnd,fOr,fNot,fAndV,fOrV,fSl,fNoPart,fPart,fNext,startE,getO_some,asB_bl,ofO_some,Res.bind_ok,Res.out_ok])]
   refine fRet_ok ?_
   rw [fc_ok (fAll1 (d:=.tup ((cs.filter (okC lo hi)).map cardD)) (h1:=h) (by
    show Res.ofO (oSl (.tup (cs.map cardD)) (some (S:Int)) (some (E:Int)) h)=_
    rw [oSl_tup,cut_mid,<-List.map_drop,<-List.map_take,sb s]
    rfl))]
   rfl
  ·obtain⟨bl,bv⟩:=hb1 (by lia)
   have fl:=T.flat_node cs bs
   have spE:=sp (by rw [List.length_map]; exact bl) (by rw [<-fl]; exact s)
   rw [<-fl] at spE
   have hB:∀ f∈bs.map T.flat,f.length<=1000:=fun f hf=>Nat.le_trans (inter_sub _ cs f hf).length_le (by rw [<-fl]; exact hz)
   have call:∀ (e:En) (hh:Hh) (f:FE) (p:Nat) (b:T),bs[p]?=some b->e[1]?=some (some (markD lo))->e[2]?=some (some (markD hi))->e[4]?=some (some (.tup (bs.map T.d)))->f e hh=.ok (.int p) hh->
     ∃ m h',fc (btF n) (fAll [(f2 oIx (fV 4) f),(fV 1),(fV 2)]) e hh=.ok (.lst m) h'/\Grow hh h'/\h'[m]?=some (.lst ((b.flat.filter (okC lo hi)).map cardD)):=by
    intro e hh f p b hp e1 e2 e4 ef
    obtain⟨m,h',q,g,a,_⟩:=run_betweenN lo hi hw n j least b (by lia) (bv b (List.mem_of_getElem? hp)) (srt_below s (List.mem_of_getElem? hp)) (hB _ (List.mem_map_of_mem (List.mem_of_getElem? hp))) hh
    refine⟨m,h',?_,g,a⟩
    rw [fc_ok (fAll_cons (d:=b.d) (h1:=hh) (by
     rw [f2_ok (fV_ok e4 hh) ef,oIx_tup,atI_nat',List.getElem?_map,hp]
     rfl) (fAll2 (fV_ok e1 hh) (fV_ok e2 hh))),q]
    rfl
   obtain⟨e8,h8,q8,z8,rfl,g8,a8⟩:=forG_run (chk:=fun _=>True) (i:=8) (t:=fSeq (fDrop (fM oExtend (fV 7) [(fc (btF n) (fAll [(f2 oIx (fV 4) (fV 8)),(fV 1),(fV 2)]))])) (fDrop (fM oAppend (fV 7) [(f2 oIx (fV 3) (fV 8))])))
    (P:=fun j e hh=>∃ z8,e=[some (T.node cs bs).d,some (markD lo),some (markD hi),some (.tup (cs.map cardD)),some (.tup (bs.map T.d)),some (.int S),some (.int E),some (.lst h.length),z8]/\Grow h hh/\hh[h.length]?=some (.lst ((outK lo hi (bs.map T.flat) cs S j).map cardD)))
    ((List.range (E - S)).map fun (k:Nat)=>D.int ((S:Int)+k)) [some (T.node cs bs).d,some (markD lo),some (markD hi),some (.tup (cs.map cardD)),some (.tup (bs.map T.d)),some (.int S),some (.int E),some (.lst h.length),none] (h++[.lst []])
    ⟨none,rfl,.app _ _,at_new _ _⟩ (fun _ _ _ _=>trivial) (by
     rintro j d e hh hj ⟨z8,rfl,g,a⟩
     rw [List.getElem?_map] at hj
     obtain⟨j',hj',rfl⟩:=Option.map_eq_some_iff.mp hj
     obtain⟨lt,ej⟩:=List.getElem?_eq_some_iff.mp hj'
     rw [List.getElem_range] at ej
     subst ej
     rw [List.length_range] at lt
     have hp:bs[S+j]?=some bs[S+j]:=List.getElem?_eq_getElem (by lia)
     have hcp:cs[S+j]?=some cs[S+j]:=List.getElem?_eq_getElem (by lia)
     have cast:(S:Int)+(j:Int)=((S+j:Nat):Int):=by lia
     obtain⟨m,h2,q2,g2,a2⟩:=call [some (T.node cs bs).d,some (markD lo),some (markD hi),some (.tup (cs.map cardD)),some (.tup (bs.map T.d)),some (.int S),some (.int E),some (.lst h.length),some (.int ((S+j:Nat):Int))] hh (fV 8) (S+j) _ hp rfl rfl rfl rfl
     have ol:=outK_len (lo:=lo) (hi:=hi) (cs:=cs) (s:=S) hB j
     have bl1:=hB _ (List.mem_map_of_mem (f:=T.flat) (List.mem_of_getElem? hp))
     have fl1:=List.length_filter_le (okC lo hi) (bs[S+j]).flat
     have jl:j*(1000+1)<=35*1001:=Nat.mul_le_mul_right 1001 (show j<=35 by lia)
     have x1:=fExt_ok (f:=fV 7) (g:=fc (btF n) (fAll [(f2 oIx (fV 4) (fV 8)),(fV 1),(fV 2)])) (e:=[some (T.node cs bs).d,some (markD lo),some (markD hi),some (.tup (cs.map cardD)),some (.tup (bs.map T.d)),some (.int S),some (.int E),some (.lst h.length),some (.int ((S+j:Nat):Int))]) rfl a q2 (g2.at' a) a2 (by simp only [List.length_map]; lia)
     have a3:=at_set (o:=.lst ((outK lo hi (bs.map T.flat) cs S j).map cardD++((bs[S+j]).flat.filter (okC lo hi)).map cardD)) (g2.at' a)
     have g3:Grow h (h2.set h.length (.lst ((outK lo hi (bs.map T.flat) cs S j).map cardD++((bs[S+j]).flat.filter (okC lo hi)).map cardD))):=(g.trans g2).set (Nat.le_refl _) _
     generalize h2.set h.length (.lst ((outK lo hi (bs.map T.flat) cs S j).map cardD++((bs[S+j]).flat.filter (okC lo hi)).map cardD))=h3 at x1 a3 g3
     have x2:=fApp_ok (f:=fV 7) (g:=f2 oIx (fV 3) (fV 8)) (e:=[some (T.node cs bs).d,some (markD lo),some (markD hi),some (.tup (cs.map cardD)),some (.tup (bs.map T.d)),some (.int S),some (.int E),some (.lst h.length),some (.int ((S+j:Nat):Int))]) (d:=cardD cs[S+j]) rfl a3 (by
      rw [f2_ok (x:=.tup (cs.map cardD)) (h1:=h3) (y:=.int ((S+j:Nat):Int)) (h2:=h3) rfl rfl,oIx_tup,atI_nat',List.getElem?_map,hcp]
      rfl) a3 (by simp only [List.length_append,List.length_map]; lia)
     rw [cast]
     refine⟨_,_,(fSeq_nx x1).trans x2,_,rfl,g3.set (Nat.le_refl _) _,?_⟩
     rw [at_set a3,outK_succ,getD_map hp,List.getD_eq_getElem?_getD,hcp]
     simp)
   have hEp:bs[E]?=some bs[E]:=List.getElem?_eq_getElem (by lia)
   rw [List.length_map,List.length_range] at a8
   obtain⟨m9,h9,q9,g9,a9⟩:=call [some (T.node cs bs).d,some (markD lo),some (markD hi),some (.tup (cs.map cardD)),some (.tup (bs.map T.d)),some (.int S),some (.int E),some (.lst h.length),z8] h8 (fV 6) E _ hEp rfl rfl rfl rfl
   have ol:=outK_len (lo:=lo) (hi:=hi) (cs:=cs) (s:=S) hB (E - S)
   have bl1:=hB _ (List.mem_map_of_mem (f:=T.flat) (List.mem_of_getElem? hEp))
   have fl1:=List.length_filter_le (okC lo hi) (bs[E]).flat
   have jl:(E - S)*(1000+1)<=35*1001:=Nat.mul_le_mul_right 1001 (show E - S<=35 by lia)
   have x1:=fExt_ok (f:=fV 7) (g:=fc (btF n) (fAll [(f2 oIx (fV 4) (fV 6)),(fV 1),(fV 2)])) (e:=[some (T.node cs bs).d,some (markD lo),some (markD hi),some (.tup (cs.map cardD)),some (.tup (bs.map T.d)),some (.int S),some (.int E),some (.lst h.length),z8]) rfl a8 q9 (g9.at' a8) a9 (by simp only [List.length_map]; lia)
   have a10:=at_set (o:=.lst ((outK lo hi (bs.map T.flat) cs S (E - S)).map cardD++((bs[E]).flat.filter (okC lo hi)).map cardD)) (g9.at' a8)
   have g10:Grow h (h9.set h.length (.lst ((outK lo hi (bs.map T.flat) cs S (E - S)).map cardD++((bs[E]).flat.filter (okC lo hi)).map cardD))):=(g8.trans g9).set (Nat.le_refl _) _
   rw [<-List.map_append,<-getD_map hEp,spE] at a10
   refine⟨h.length,_,fnRun_rt ?_,g10,by rw [<-List.map_append,<-getD_map hEp,spE]; exact a10,Nat.le_refl _⟩
   rw [fSeq_nx (e1:=[some (T.node cs bs).d,some (markD lo),some (markD hi),some (.tup (cs.map cardD)),none,none,none,none,none]) (h1:=h) (fSet_ok (by rw [f2_ok (x:=(T.node cs bs).d) (h1:=h) rfl rfl,i0]; rfl))]
   rw [fSeq_nx (e1:=[some (T.node cs bs).d,some (markD lo),some (markD hi),some (.tup (cs.map cardD)),some (.tup (bs.map T.d)),none,none,none,none]) (h1:=h) (fSet_ok (by rw [f2_ok (x:=(T.node cs bs).d) (h1:=h) rfl rfl,i1]; rfl))]
   rw [fSeq_nx (e1:=[some (T.node cs bs).d,some (markD lo),some (markD hi),some (.tup (cs.map cardD)),some (.tup (bs.map T.d)),some (.int S),none,none,none]) (h1:=h) (fSet_ok (s5 _ _ rfl rfl))]
   rw [fSeq_nx (e1:=[some (T.node cs bs).d,some (markD lo),some (markD hi),some (.tup (cs.map cardD)),some (.tup (bs.map T.d)),some (.int S),some (.int E),none,none]) (h1:=h) (fSet_ok (s6 _ _ rfl rfl))]
   rw [fSeq_nx (e1:=[some (T.node cs bs).d,some (markD lo),some (markD hi),some (.tup (cs.map cardD)),some (.tup (bs.map T.d)),some (.int S),some (.int E),none,none]) (h1:=h) (by
    rw [fIfS_f (h1:=h) (empty_no rfl (by rw [List.length_map]; lia))]
    rfl)]
   rw [fSeq_nx (e1:=[some (T.node cs bs).d,some (markD lo),some (markD hi),some (.tup (cs.map cardD)),some (.tup (bs.map T.d)),some (.int S),some (.int E),some (.lst h.length),none]) (h1:=h++[.lst []]) (fSet_ok rfl)]
   rw [fSeq_nx ((fFor_ok (fiRng2_any (h1:=h++[.lst []]) (i:=S) (j:=E) rfl (by lia) (by lia))).trans q8)]
   rw [fSeq_nx x1]
   exact fRet_ok rfl
theorem run_cardat5 {xN:Addr}{t:T} (c:Cab 5 t) (hd:heldOf t.d=t.flat.length) (r:Int) (h:Hh):
  (∃ k:Card,∃ n:Nat,r=n/\t.flat[n]?=some k/\fnRunX 2 (t_card_at xN (relF (R_with 5))) [t.d,.int r] h=.ok (cardD k) h)\/((r < 0\/(t.flat.length:Int)<=r)/\fnRunX 2 (t_card_at xN (relF (R_with 5))) [t.d,.int r] h=.ex (.ref xN) h):=by
 have a1:fB (f2 oLt (fV 1) (fC (.int 0))) (startE 2 [t.d,.int r]) h=.ok (decide (r < 0)) h:=fB_ok (by rw [f2_ok (x:=.int r) (h1:=h) rfl (fC_ok _ _ _)]; rfl)
 have a2:fB (f2 oGe (fV 1) (f2 oIx (fV 0) (fC (.int 2)))) (startE 2 [t.d,.int r]) h=.ok (decide ((t.flat.length:Int)<=r)) h:=fB_ok (by
  rw [f2_ok (x:=.int r) (h1:=h) rfl (y:=.int t.flat.length) (h2:=h) (by rw [f2_ok (x:=t.d) (h1:=h) rfl rfl,held_ix,hd]; rfl)]
  rfl)
 by_cases c1:r < 0
 ·right
  refine⟨.inl c1,fnRunX_ex (e:=startE 2 [t.d,.int r]) ?_⟩
  unfold t_card_at
  refine fSeq_ex ?_
  rw [fIfS_t (orT (by rw [a1,decide_eq_true c1]))]
  rfl
 ·by_cases c2:(t.flat.length:Int)<=r
  ·right
   refine⟨.inr c2,fnRunX_ex (e:=startE 2 [t.d,.int r]) ?_⟩
   unfold t_card_at
   refine fSeq_ex ?_
   rw [fIfS_t (orF (by rw [a1,decide_eq_false c1]) (by rw [a2,decide_eq_true c2]))]
   rfl
  ·left
   obtain⟨n,rfl⟩:∃ n:Nat,r=n:=⟨r.toNat,by lia⟩
   have hn:n < t.flat.length:=by lia
   refine⟨t.flat[n],n,rfl,List.getElem?_eq_getElem hn,fnRunX_rt ?_⟩
   unfold t_card_at
   rw [fSeq_nx (e1:=startE 2 [t.d,.int n]) (h1:=h) (by rw [fIfS_f (orF (by rw [a1,decide_eq_false c1]) (by rw [a2,decide_eq_false c2]))]; rfl)]
   refine fRet_ok ?_
   rw [fc_ok (ds:=[t.d,.int n]) (h1:=h) rfl,relF_eq (det_with 5) ⟨t,n,t.flat[n],rfl,rfl,List.getElem?_eq_getElem hn,c⟩ h]
   rfl
theorem dor_base {xN:Addr} (ga:OX) {w L:Nat}{t t':T}{de:Deed} (w2:2<=w) (hw:w<=500) (L5:L<=5) (c:Cb w L t) (s:Stp w t de t') (h:Hh):fnRun 3 (t_done_or_refused xN (fnRunX 4 (t_done (relF (R_note 5)) (relF (R_put 5)) (fnRunX 4 (t_take_outX (relX (R_taken xN 5)))) ga))) [.int (w:Int),t.d,de.d] h=some (.tup [noteD (findC t.flat de.n),t'.d],h):=by
 refine fnRun_rt ?_
 have cab:Cab 5 t:=⟨w / 2,w,0,L,L5,c.v,c.srt,by lia⟩
 unfold t_done_or_refused
 show fTry _ _ [some (.int (w:Int)),some t.d,some de.d] h=_
 have nt:∀ (x:Int),relF (R_note 5) [t.d,.int x] h=some (noteD (findC t.flat x),h):=fun x=>relF_eq (det_note 5) ⟨t,x,rfl,rfl,cab⟩ h
 cases s with
 | @put L' x s c' h5=>
  have pt:relF (R_put 5) [.int (w:Int),t.d,.int x,.str s] h=some ((topT w (layT w x s L' t)).d,h):=relF_eq (det_put 5) ⟨w,w / 2,0,L',x,s,t,rfl,rfl,rfl,h5,c'.v,c'.srt,by lia⟩ h
  refine fTry_rt (fRet_ok ?_)
  rw [fcX_ok (ds:=[.int (w:Int),t.d,(Deed.put x s).d]) (h1:=h) rfl]
  refine fnRunX_rt ?_
  unfold t_done
  show fSeq _ _ [some (.int (w:Int)),some t.d,some (Deed.put x s).d,none] h=_
  rw [fSeq_nx (e1:=[some (.int (w:Int)),some t.d,some (Deed.put x s).d,some (.str "put")]) (h1:=h) (fSet_ok rfl)]
  refine fSeq_rt ?_
  rw [fIfS_t (h1:=h) (by rfl)]
  refine fRet_ok ?_
  unfold fTup
  rw [fAll2 (d:=noteD (findC t.flat x)) (h1:=h) (by rw [fc_ok (ds:=[t.d,.int x]) (h1:=h) rfl,nt]; rfl) (d2:=(topT w (layT w x s L' t)).d) (h2:=h) (by rw [fc_ok (ds:=[.int (w:Int),t.d,.int x,.str s]) (h1:=h) rfl,pt]; rfl)]
  rfl
 | @take L' x u tk one c' f hx=>
  refine fTry_rt (fRet_ok ?_)
  rw [fcX_ok (ds:=[.int (w:Int),t.d,(Deed.take x).d]) (h1:=h) rfl]
  refine fnRunX_rt ?_
  unfold t_done
  show fSeq _ _ [some (.int (w:Int)),some t.d,some (Deed.take x).d,none] h=_
  rw [fSeq_nx (e1:=[some (.int (w:Int)),some t.d,some (Deed.take x).d,some (.str "take")]) (h1:=h) (fSet_ok rfl)]
  rw [fSeq_nx (e1:=[some (.int (w:Int)),some t.d,some (Deed.take x).d,some (.str "take")]) (h1:=h) (by rw [fIfS_f (h1:=h) (by rfl)]; rfl)]
  refine fSeq_rt ?_
  rw [fIfS_t (h1:=h) (by rfl)]
  refine fRet_ok ?_
  unfold fTup
  rw [fAll2 (d:=noteD (findC t.flat x)) (h1:=h) (by rw [fc_ok (ds:=[t.d,.int x]) (h1:=h) rfl,nt]; rfl) (d2:=(topO u).d) (h2:=h) (by rw [fcX_ok (ds:=[.int (w:Int),t.d,.int x]) (h1:=h) rfl,run_takeout5 rfl (by lia) tk one])]
  rfl
 | @none x hx nk=>
  have qx:fcX (fnRunX 4 (t_done (relF (R_note 5)) (relF (R_put 5)) (fnRunX 4 (t_take_outX (relX (R_taken xN 5)))) ga)) (fAll [(fV 0),(fV 1),(fV 2)]) [some (.int (w:Int)),some t.d,some (Deed.take x).d] h=.ex (.ref xN) h:=by
   rw [fcX_ok (ds:=[.int (w:Int),t.d,(Deed.take x).d]) (h1:=h) rfl]
   refine fnRunX_ex (e:=[some (.int (w:Int)),some t.d,some (Deed.take x).d,some (.str "take")]) ?_
   unfold t_done
   show fSeq _ _ [some (.int (w:Int)),some t.d,some (Deed.take x).d,none] h=_
   rw [fSeq_nx (e1:=[some (.int (w:Int)),some t.d,some (Deed.take x).d,some (.str "take")]) (h1:=h) (fSet_ok rfl)]
   rw [fSeq_nx (e1:=[some (.int (w:Int)),some t.d,some (Deed.take x).d,some (.str "take")]) (h1:=h) (by rw [fIfS_f (h1:=h) (by rfl)]; rfl)]
   refine fSeq_ex ?_
   rw [fIfS_t (h1:=h) (by rfl)]
   exact fRet_ex (fAll_ex2 (d:=noteD (findC t.flat x)) (h1:=h) (by rw [fc_ok (ds:=[t.d,.int x]) (h1:=h) rfl,nt]; rfl) (by rw [fcX_ok (ds:=[.int (w:Int),t.d,.int x]) (h1:=h) rfl,run_takeno5 rfl (by lia) nk]))
  rw [fTry_ex (fRet_ex qx) (mOf_hit _ _ _),show (Deed.take x).n=x from rfl,findC_none hx]
  rfl
inductive DeedM where
 | b (d:Deed) | find (x:Int) | rank (x:Int) | nth (r:Int) | btw (lo hi:Option Int)
noncomputable def DeedM.d:DeedM->D
 | .b d=>d.d
 | .find x=>.tup [.str "find",.int x]
 | .rank x=>.tup [.str "rank",.int x]
 | .nth r=>.tup [.str "nth",.int r]
 | .btw lo hi=>.tup [.str "between",markD lo,markD hi]
noncomputable def effM:DeedM->List Card->List Card
 | .b d,l=>eff d l
 | _,l=>l
noncomputable def StpM (w:Nat) (t:T):DeedM->T->Prop
 | .b d,t'=>Stp w t d t'
 | _,t'=>t'=t
noncomputable def Ans (l:List Card) (de:DeedM) (a:D) (h:Hh):Prop:=match de with
 | .b d=>a=noteD (findC l d.n)
 | .find x=>a=noteD (findC l x)
 | .rank x=>a=.int (ltC l x)
 | .nth r=>(∃ (k:Card) (n:Nat),r=n/\l[n]?=some k/\a=cardD k)\/((r < 0\/(l.length:Int)<=r)/\a=.non)
 | .btw lo hi=>∃ m,a=.lst m/\h[m]?=some (.lst ((l.filter (okC lo hi)).map cardD))
theorem Ans.mono {l:List Card}{de:DeedM}{a:D}{h h':Hh} (G:Grow h h') (x:Ans l de a h):Ans l de a h':=by
 cases de with
 | btw lo hi=>
  obtain⟨m,e,q⟩:=x
  exact⟨m,e,G.at' q⟩
 | _=>exact x
theorem Ans.set {l:List Card}{de:DeedM}{a:D}{h:Hh}{r:Nat}{o:O} (f:∀ m,a=.lst m->r < m) (x:Ans l de a h):Ans l de a (h.set r o):=by
 cases de with
 | btw lo hi=>
  obtain⟨m,e,q⟩:=x
  exact⟨m,e,by rw [List.getElem?_set_ne (Nat.ne_of_lt (f m e))]; exact q⟩
 | _=>exact x
theorem stepM_cb {w L:Nat}{t t':T}{de:DeedM} (c:Cb w L t) (w2:2<=w) (s:StpM w t de t'):∃ L',Cb w L' t'/\t'.flat=effM de t.flat:=by
 cases de with
 | b d=>exact step_cb c w2 s
 | _=>cases s; exact⟨L,c,rfl⟩
theorem effM_len (de:DeedM) (l:List Card):(effM de l).length<=l.length+1:=by
 cases de with
 | b d=>exact eff_len d l
 | _=>exact Nat.le_succ _
noncomputable abbrev ASKED (xN:Addr):OX:=fnRunX 3 (t_asked (relF (R_note 5)) (relF (R_rank 5)) (fnRunX 2 (t_card_at xN (relF (R_with 5)))) (btF 5))
noncomputable abbrev DONEM (xN:Addr):OX:=fnRunX 4 (t_done (relF (R_note 5)) (relF (R_put 5)) (fnRunX 4 (t_take_outX (relX (R_taken xN 5)))) (ASKED xN))
noncomputable abbrev DORM (xN:Addr):OC:=fnRun 3 (t_done_or_refused xN (DONEM xN))
theorem done_ask {xN:Addr}{w:Nat}{t:T}{x:Str}{xs:List D}{h:Hh} (h1:(x==("put":Str))=false) (h2:(x==("take":Str))=false):
  t_done (relF (R_note 5)) (relF (R_put 5)) (fnRunX 4 (t_take_outX (relX (R_taken xN 5)))) (ASKED xN) (startE 4 [.int (w:Int),t.d,.tup (.str x::xs)]) h=fRet (fTup [(fcX (ASKED xN) (fAll [(fV 1),(fV 2)])),(fV 1)]) [some (.int (w:Int)),some t.d,some (.tup (.str x::xs)),some (.str x)] h:=by
 unfold t_done
 show fSeq _ _ [some (.int (w:Int)),some t.d,some (.tup (.str x::xs)),none] h=_
 rw [fSeq_nx (e1:=[some (.int (w:Int)),some t.d,some (.tup (.str x::xs)),some (.str x)]) (h1:=h) (fSet_ok (by rw [f2_ok (x:=.tup (.str x::xs)) (h1:=h) rfl (y:=.int ((0:Nat):Int)) (h2:=h) rfl,oIx_tup,atI_nat']; rfl))]
 rw [fSeq_nx (e1:=[some (.int (w:Int)),some t.d,some (.tup (.str x::xs)),some (.str x)]) (h1:=h) (by
  rw [fIfS_f (h1:=h) (fB_ok (b:=false) (by rw [f2_ok (x:=.str x) (h1:=h) rfl (fC_ok (.str "put") _ _),oEq_str,h1]; rfl))]; rfl)]
 rw [fSeq_nx (e1:=[some (.int (w:Int)),some t.d,some (.tup (.str x::xs)),some (.str x)]) (h1:=h) (by
  rw [fIfS_f (h1:=h) (fB_ok (b:=false) (by rw [f2_ok (x:=.str x) (h1:=h) rfl (fC_ok (.str "take") _ _),oEq_str,h2]; rfl))]; rfl)]
theorem dorM_ok {xN:Addr}{w:Nat}{t:T}{x:Str}{xs:List D}{h h':Hh}{a:D} (h1:(x==("put":Str))=false) (h2:(x==("take":Str))=false) (q:ASKED xN [t.d,.tup (.str x::xs)] h=.ok a h'):
  DORM xN [.int (w:Int),t.d,.tup (.str x::xs)] h=some (.tup [a,t.d],h'):=by
 refine fnRun_rt ?_
 unfold t_done_or_refused
 show fTry _ _ [some (.int (w:Int)),some t.d,some (.tup (.str x::xs))] h=_
 refine fTry_rt (fRet_ok ?_)
 rw [fcX_ok (ds:=[.int (w:Int),t.d,.tup (.str x::xs)]) (h1:=h) rfl]
 refine fnRunX_rt ?_
 rw [done_ask h1 h2]
 refine fRet_ok ?_
 unfold fTup
 rw [fAll2 (d:=a) (h1:=h') (by rw [fcX_ok (ds:=[t.d,.tup (.str x::xs)]) (h1:=h) rfl,q]) (d2:=t.d) (h2:=h') rfl]
 rfl
theorem dorM_ex {xN:Addr}{w:Nat}{t:T}{x:Str}{xs:List D}{h:Hh} (h1:(x==("put":Str))=false) (h2:(x==("take":Str))=false) (q:ASKED xN [t.d,.tup (.str x::xs)] h=.ex (.ref xN) h):
  DORM xN [.int (w:Int),t.d,.tup (.str x::xs)] h=some (.tup [.non,t.d],h):=by
 refine fnRun_rt ?_
 unfold t_done_or_refused
 show fTry _ _ [some (.int (w:Int)),some t.d,some (.tup (.str x::xs))] h=_
 have qx:fcX (DONEM xN) (fAll [(fV 0),(fV 1),(fV 2)]) [some (.int (w:Int)),some t.d,some (.tup (.str x::xs))] h=.ex (.ref xN) h:=by
  rw [fcX_ok (ds:=[.int (w:Int),t.d,.tup (.str x::xs)]) (h1:=h) rfl]
  refine fnRunX_ex (e:=[some (.int (w:Int)),some t.d,some (.tup (.str x::xs)),some (.str x)]) ?_
  rw [done_ask h1 h2]
  refine fRet_ex ?_
  unfold fTup fAll
  rw [fcX_ok (ds:=[t.d,.tup (.str x::xs)]) (h1:=h) rfl,q]
  rfl
 rw [fTry_ex (fRet_ex qx) (mOf_hit _ _ _)]
 rfl
theorem run_dorM {xN:Addr}{w L:Nat}{t:T} (de:DeedM) (c:Cb w L t) (w2:2<=w) (hw:w<=35) (hf:t.flat.length<=61) (h:Hh):
  ∃ (t':T) (a:D) (h':Hh),StpM w t de t'/\DORM xN [.int (w:Int),t.d,de.d] h=some (.tup [a,t'.d],h')/\Grow h h'/\Ans t.flat de a h'/\∀ m,a=.lst m->h.length<=m:=by
 have L5:=c.few w2 hf
 have cab:Cab 5 t:=⟨w / 2,w,0,L,L5,c.v,c.srt,by lia⟩
 have sq:∀ (x:Str) (xs:List D),startE 3 [t.d,.tup (.str x::xs)]=[some t.d,some (.tup (.str x::xs)),none]:=fun _ _=>rfl
 cases de with
 | b d=>
  obtain⟨t',s⟩:=step_ex c w2 (by lia) hf d
  refine⟨t',_,h,s,dor_base (ASKED xN) w2 (by lia) L5 c s h,.refl _,rfl,fun m e=>?_⟩
  cases hx:findC t.flat d.n with
  | none=>rw [hx] at e; cases e
  | some k=>rw [hx] at e; cases e
 | find x=>
  refine⟨t,noteD (findC t.flat x),h,rfl,dorM_ok (by decide) (by decide) (fnRunX_rt ?_),.refl _,rfl,fun m e=>?_⟩
  ·unfold t_asked
   show fSeq _ _ [some t.d,some (.tup [.str "find",.int x]),none] h=_
   rw [fSeq_nx (e1:=[some t.d,some (.tup [.str "find",.int x]),some (.str "find")]) (h1:=h) (fSet_ok rfl)]
   refine fSeq_rt ?_
   rw [fIfS_t (h1:=h) rfl]
   refine fRet_ok ?_
   rw [fc_ok (ds:=[t.d,.int x]) (h1:=h) rfl,relF_eq (det_note 5) ⟨t,x,rfl,rfl,cab⟩ h]
   rfl
  ·cases hx:findC t.flat x with
   | none=>rw [hx] at e; cases e
   | some k=>rw [hx] at e; cases e
 | rank x=>
  refine⟨t,.int (ltC t.flat x),h,rfl,dorM_ok (by decide) (by decide) (fnRunX_rt ?_),.refl _,rfl,fun m e=>by cases e⟩
  unfold t_asked
  show fSeq _ _ [some t.d,some (.tup [.str "rank",.int x]),none] h=_
  rw [fSeq_nx (e1:=[some t.d,some (.tup [.str "rank",.int x]),some (.str "rank")]) (h1:=h) (fSet_ok rfl)]
  rw [fSeq_nx (e1:=[some t.d,some (.tup [.str "rank",.int x]),some (.str "rank")]) (h1:=h) (by rw [fIfS_f (h1:=h) rfl]; rfl)]
  refine fSeq_rt ?_
  rw [fIfS_t (h1:=h) rfl]
  refine fRet_ok ?_
  rw [fc_ok (ds:=[t.d,.int x]) (h1:=h) rfl,relF_eq (det_rank 5) ⟨t,x,rfl,rfl,cab⟩ h]
  rfl
 | nth r=>
  have pre:∀ (Z:Out),fRet (fcX (fnRunX 2 (t_card_at xN (relF (R_with 5)))) (fAll [(fV 0),(f2 oIx (fV 1) (fC (.int 1)))])) [some t.d,some (.tup [.str "nth",.int r]),some (.str "nth")] h=Z->(∀ e h',Z≠.nx e h')->t_asked (relF (R_note 5)) (relF (R_rank 5)) (fnRunX 2 (t_card_at xN (relF (R_with 5)))) (btF 5) (startE 3 [t.d,.tup [.str "nth",.int r]]) h=Z:=fun Z q nz=>by
   unfold t_asked
   show fSeq _ _ [some t.d,some (.tup [.str "nth",.int r]),none] h=_
   rw [fSeq_nx (e1:=[some t.d,some (.tup [.str "nth",.int r]),some (.str "nth")]) (h1:=h) (fSet_ok rfl)]
   rw [fSeq_nx (e1:=[some t.d,some (.tup [.str "nth",.int r]),some (.str "nth")]) (h1:=h) (by rw [fIfS_f (h1:=h) rfl]; rfl)]
   rw [fSeq_nx (e1:=[some t.d,some (.tup [.str "nth",.int r]),some (.str "nth")]) (h1:=h) (by rw [fIfS_f (h1:=h) rfl]; rfl)]
   unfold fSeq
   rw [fIfS_t (h1:=h) rfl,q]
   cases Z with
   | nx e h'=>exact absurd rfl (nz e h')
   | _=>rfl
  rcases run_cardat5 (xN:=xN) cab c.v.held r h with⟨k,n,rn,hk,q⟩ | ⟨hr,q⟩
  ·refine⟨t,cardD k,h,rfl,dorM_ok (by decide) (by decide) (fnRunX_rt (pre _ (fRet_ok ?_) fun _ _ z=>by cases z)),.refl _,.inl ⟨k,n,rn,hk,rfl⟩,fun m e=>by cases e⟩
   rw [fcX_ok (ds:=[t.d,.int r]) (h1:=h) rfl,q]
  ·refine⟨t,.non,h,rfl,dorM_ex (by decide) (by decide) (fnRunX_ex (e:=[some t.d,some (.tup [.str "nth",.int r]),some (.str "nth")]) (pre _ (fRet_ex ?_) fun _ _ z=>by cases z)),.refl _,.inr ⟨hr,rfl⟩,fun m e=>by cases e⟩
   rw [fcX_ok (ds:=[t.d,.int r]) (h1:=h) rfl,q]
 | btw lo hi=>
  obtain⟨m,h',q,g,a,fr⟩:=run_betweenN lo hi hw 5 L 0 t L5 c.v c.srt (by lia) h
  refine⟨t,.lst m,h',rfl,dorM_ok (by decide) (by decide) (fnRunX_rt ?_),g,⟨m,rfl,a⟩,fun m' e=>by cases e; exact fr⟩
  unfold t_asked
  show fSeq _ _ [some t.d,some (.tup [.str "between",markD lo,markD hi]),none] h=_
  rw [fSeq_nx (e1:=[some t.d,some (.tup [.str "between",markD lo,markD hi]),some (.str "between")]) (h1:=h) (fSet_ok rfl)]
  rw [fSeq_nx (e1:=[some t.d,some (.tup [.str "between",markD lo,markD hi]),some (.str "between")]) (h1:=h) (by rw [fIfS_f (h1:=h) rfl]; rfl)]
  rw [fSeq_nx (e1:=[some t.d,some (.tup [.str "between",markD lo,markD hi]),some (.str "between")]) (h1:=h) (by rw [fIfS_f (h1:=h) rfl]; rfl)]
  rw [fSeq_nx (e1:=[some t.d,some (.tup [.str "between",markD lo,markD hi]),some (.str "between")]) (h1:=h) (by rw [fIfS_f (h1:=h) rfl]; rfl)]
  refine fRet_ok ?_
  rw [fc_ok (ds:=[t.d,markD lo,markD hi]) (h1:=h) rfl,q]
  rfl
structure DyM (w:Nat) (ds:List DeedM) (ps:List (D×T)) (h:Hh):Prop where
 len:ps.length=ds.length
 stp:∀ (j:Nat) de t p,ds[j]?=some de->(T.node [] []::ps.map (·.2))[j]?=some t->ps[j]?=some p->StpM w t de p.2/\Ans t.flat de p.1 h
theorem DyM.mono {w:Nat}{ds:List DeedM}{ps:List (D×T)}{h h':Hh} (d:DyM w ds ps h) (G:Grow h h'):DyM w ds ps h':=⟨d.len,fun j de t p e1 e2 e3=>⟨(d.stp j de t p e1 e2 e3).1,(d.stp j de t p e1 e2 e3).2.mono G⟩⟩
noncomputable def stepM (xN:Addr):FS:=(fSeq (fSet 5 (fc (DORM xN) (fAll [(fV 0),(fV 2),(fV 4)])))
  (fSeq (fDrop (fM oAppend (fV 3) [(fV 5)]))
  (fSet 2 (f2 oIx (fV 5) (fC (.int 1))))))
noncomputable abbrev STEPSM (xW xN:Addr):OX:=fnRunX 6 (t_steps (fnRunX 1 (t_check_width xW)) (relF R_drawer) (DORM xN))
theorem run_stepsM_no {xW xN:Addr}{w:Int} (hw:w < 2) (d:D) (h:Hh):STEPSM xW xN [.int w,d] h=.ex (.ref xW) h:=by
 refine fnRunX_ex (e:=[some (.int w),some d,none,none,none,none]) ?_
 unfold t_steps
 show fSeq _ _ [some (.int w),some d,none,none,none,none] h=_
 exact fSeq_ex (fDrop_ex (by rw [fcX_ok (ds:=[.int w]) (h1:=h) rfl,run_cwM,if_pos hw]))
theorem run_stepsM {xW xN:Addr}{w dh:Nat}{h:Hh}{ds:List DeedM} (w2:2<=w) (hw:w<=35) (ed:h[dh]?=some (.lst (ds.map DeedM.d))) (hl:ds.length<=61):
  ∃ (r:Nat) (ps:List (D×T)) (h':Hh),STEPSM xW xN [.int (w:Int),.lst dh] h=.ok (.lst r) h'/\Grow h h'/\h'[r]?=some (.lst (ps.map prD))/\DyM w ds ps h':=by
 obtain⟨e1,h1,q,ps,t,z4,z5,he,er,G,pl,⟨L,c⟩,fl,lt,st⟩:=forG_run (chk:=fun h'=>h'[dh]?=some (.lst (ds.map DeedM.d))) (i:=4) (t:=stepM xN)
  (P:=fun k e h'=>∃ (ps:List (D×T)) (t:T) (z4 z5:Option D),e=[some (.int (w:Int)),some (.lst dh),some t.d,some (.lst h.length),z4,z5]/\h'[h.length]?=some (.lst (ps.map prD))/\Grow h h'/\ps.length=k/\(∃ L,Cb w L t)/\t.flat.length<=k/\(T.node [] []::ps.map (·.2))[k]?=some t/\
   ∀ (j:Nat) de u p,j < k->ds[j]?=some de->(T.node [] []::ps.map (·.2))[j]?=some u->ps[j]?=some p->StpM w u de p.2/\Ans u.flat de p.1 h'/\∀ m,p.1=.lst m->h.length < m)
  (ds.map DeedM.d) [some (.int (w:Int)),some (.lst dh),some (T.node [] []).d,some (.lst h.length),none,none] (h++[.lst []])
  ⟨[],.node [] [],none,none,rfl,at_new _ _,.app _ _,rfl,⟨1,cb_new w⟩,by rw [T.flat_node]; exact Nat.le_refl _,rfl,fun j _ _ _ z=>absurd z (Nat.not_lt_zero _)⟩
  (fun k e h' p=>by
   obtain⟨_,_,_,_,_,_,G,_⟩:=p
   exact G.at' ed)
  (fun k d e h' hk p=>by
   obtain⟨ps,t,z4,z5,re,er,G,pl,⟨L,c⟩,fl,lt,st⟩:=p
   subst re
   rw [List.getElem?_map] at hk
   obtain⟨de,hd,rfl⟩:=Option.map_eq_some_iff.mp hk
   have hlt:=(List.getElem?_eq_some_iff.mp hd).1
   have rlt:=(List.getElem?_eq_some_iff.mp er).1
   obtain⟨t',a,h2,s,dr,g2,an,fr⟩:=run_dorM (xN:=xN) de c w2 hw (by lia) h'
   obtain⟨L',c',f'⟩:=stepM_cb c w2 s
   have er2:=g2.at' er
   have G2:=G.trans g2
   refine⟨[some (.int (w:Int)),some (.lst dh),some t'.d,some (.lst h.length),some de.d,some (prD (a,t'))],h2.set h.length (.lst (ps.map prD++[prD (a,t')])),?_,ps++[(a,t')],t',_,_,rfl,?_,G2.set (Nat.le_refl _) _,by rw [List.length_append,pl]; rfl,⟨L',c'⟩,?_,?_,?_⟩
   ·show stepM xN [some (.int (w:Int)),some (.lst dh),some t.d,some (.lst h.length),some de.d,z5] h'=_
    unfold stepM
    rw [fSeq_nx (e1:=[some (.int (w:Int)),some (.lst dh),some t.d,some (.lst h.length),some de.d,some (prD (a,t'))]) (h1:=h2) (fSet_ok (by rw [fc_ok (ds:=[.int (w:Int),t.d,de.d]) (h1:=h') rfl,dr]; rfl))]
    rw [fSeq_nx (fApp_ok (fV_ok rfl h2) er2 (fV_ok rfl h2) er2 (by rw [List.length_map]; lia))]
    rfl
   ·rw [at_set er2,List.map_append]
    rfl
   ·rw [f']
    have:=effM_len de t.flat
    lia
   ·rw [List.map_append,List.getElem?_cons_succ,List.getElem?_append_right (by rw [List.length_map]; lia),List.length_map,pl,Nat.sub_self]
    rfl
   ·intro j de' u v hj e1 e2 e3
    rw [List.map_append] at e2
    by_cases z:j=k
    ·subst z
     rw [hd] at e1
     cases e1
     rw [<-List.cons_append,List.getElem?_append_left (by rw [List.length_cons,List.length_map]; lia),lt] at e2
     cases e2
     rw [List.getElem?_append_right (by lia),pl,Nat.sub_self] at e3
     cases e3
     have fr':∀ m,a=.lst m->h.length < m:=fun m e=>by have:=fr m e; lia
     exact⟨s,an.set fr',fr'⟩
    ·rw [<-List.cons_append,List.getElem?_append_left (by rw [List.length_cons,List.length_map]; lia)] at e2
     rw [List.getElem?_append_left (by lia)] at e3
     obtain⟨x1,x2,x3⟩:=st j de' u v (by lia) e1 e2 e3
     exact⟨x1,(x2.mono g2).set x3,x3⟩)
 rw [List.length_map] at pl st
 refine⟨h.length,ps,h1,fnRunX_rt ?_,G,er,⟨pl,fun j de u p e1 e2 e3=>⟨(st j de u p (List.getElem?_eq_some_iff.mp e1).1 e1 e2 e3).1,(st j de u p (List.getElem?_eq_some_iff.mp e1).1 e1 e2 e3).2.1⟩⟩⟩
 unfold t_steps
 show fSeq _ _ [some (.int (w:Int)),some (.lst dh),none,none,none,none] h=_
 rw [fSeq_nx (e1:=[some (.int (w:Int)),some (.lst dh),none,none,none,none]) (h1:=h) (fDrop_ok (d:=.non) (by rw [fcX_ok (ds:=[.int (w:Int)]) (h1:=h) rfl,run_cwM,if_neg (by lia)]))]
 rw [fSeq_nx (e1:=[some (.int (w:Int)),some (.lst dh),some (T.node [] []).d,none,none,none]) (h1:=h) (fSet_ok (by
  rw [fc_ok (ds:=[.tup (([]:List Card).map cardD),.tup (([]:List T).map T.d)]) (h1:=h) rfl,relF_dr [] [] (by simp)]
  rfl))]
 rw [fSeq_nx (e1:=[some (.int (w:Int)),some (.lst dh),some (T.node [] []).d,some (.lst h.length),none,none]) (h1:=h++[.lst []]) (fSet_ok (d:=.lst h.length) rfl)]
 have it:fiSeq (fV 1) [some (.int (w:Int)),some (.lst dh),some (T.node [] []).d,some (.lst h.length),none,none] (h++[.lst []])=.ok ⟨ds.map DeedM.d,fun h'=>h'[dh]?=some (.lst (ds.map DeedM.d))⟩ (h++[.lst []]):=by
  unfold fiSeq
  rw [fV_ok (d:=.lst dh) rfl,Res.bind_ok]
  unfold itSeq
  simp only [(Grow.app h [O.lst []]).at' ed]
 show fSeq (fFor 4 (fiSeq (fV 1)) (stepM xN)) (fRet (fV 3)) _ _=_
 rw [fSeq_nx ((fFor_ok it).trans q),he]
 rfl
theorem two_ix {h:Hh}{e:En}{fa fb g:FE}{a b:D}{c:Bool} (qa:fa e h=.ok a h) (qb:fb e h=.ok b h) (qg:∀ h',Grow h h'->g e h'=.ok (.bl c) h'):f2 oIx (fLst [fa,fb]) (fc oInt (fAll [g])) e h=.ok (if c=true then b else a) (h++[.lst [a,b]]):=by
 have l1:fLst [fa,fb] e h=.ok (.lst h.length) (h++[.lst [a,b]]):=by
  unfold fLst
  rw [fAll2 qa qb]
  rfl
 rw [f2_ok l1 (by rw [fc_ok (fAll1 (qg _ (.app _ _))),oInt_bl]; rfl),oIx_lst (at_new _ _)]
 cases c<;>rfl
theorem setIx_at {n k:Nat}{ds:List D}{h:Hh}{f fo fi:FE}{e:En}{d:D} (q:f e h=.ok d h) (qo:fo e h=.ok (.lst n) h) (qi:fi e h=.ok (.int (k:Int)) h) (en:h[n]?=some (.lst ds)) (hk:k < ds.length):fSetIx f fo fi e h=.nx e (h.set n (.lst (ds.set k d))):=by
 unfold fSetIx
 rw [q,Res.out_ok,qo,Res.out_ok,qi,Res.out_ok,setIx_lst (j:=k) d en (by
  unfold ixN
  rw [if_pos (by lia),if_pos (by lia),Int.toNat_natCast])]
 rfl
noncomputable def mixC:FS:=(fIfS (fAnd (fB (f2 oEq (f2 oMod (f2 oIx (fV 0) (f2 oAdd (fV 4) (fC (.int 3)))) (fC (.int 3))) (fC (.int 1)))) (fB (f2 oEq (f2 oMod (fV 5) (fC (.int 4))) (fC (.int 0))))) (fSetIx (fTup [(fC (.str "find")),(f2 oIx (f2 oIx (fV 2) (f2 oMod (f2 oAdd (f2 oDiv (fV 5) (fC (.int 4))) (f2 oMul (fV 4) (fC (.int 5)))) (f2 oAdd (fV 4) (fC (.int 1))))) (fC (.int 1)))]) (fV 3) (fV 4)) (fIfS (fAnd (fB (f2 oEq (f2 oMod (f2 oIx (fV 0) (f2 oAdd (fV 4) (fC (.int 3)))) (fC (.int 3))) (fC (.int 1)))) (fB (f2 oEq (f2 oMod (fV 5) (fC (.int 4))) (fC (.int 1))))) (fSetIx (fTup [(fC (.str "rank")),(fV 6)]) (fV 3) (fV 4)) (fIfS (fAnd (fB (f2 oEq (f2 oMod (f2 oIx (fV 0) (f2 oAdd (fV 4) (fC (.int 3)))) (fC (.int 3))) (fC (.int 1)))) (fB (f2 oEq (f2 oMod (fV 5) (fC (.int 4))) (fC (.int 2))))) (fSetIx (fTup [(fC (.str "nth")),(f2 oSub (f2 oMod (f2 oAdd (f2 oDiv (fV 5) (fC (.int 4))) (f2 oMul (fV 4) (fC (.int 7)))) (f2 oAdd (fV 4) (fC (.int 3)))) (fC (.int 1)))]) (fV 3) (fV 4)) (fIfS (fB (f2 oEq (f2 oMod (f2 oIx (fV 0) (f2 oAdd (fV 4) (fC (.int 3)))) (fC (.int 3))) (fC (.int 1)))) (fSetIx (fTup [(fC (.str "between")),(fV 7),(fV 9)]) (fV 3) (fV 4)) fNext))))
noncomputable def mixB:FS:=(fSeq (fSet 5 (f2 oDiv (f2 oIx (fV 0) (f2 oAdd (fV 4) (fC (.int 3)))) (fC (.int 3))))
  (fSeq (fSet 6 (f2 oSub (f2 oMod (f2 oAdd (f2 oDiv (fV 5) (fC (.int 4))) (f2 oMul (fV 4) (fC (.int 17)))) (fC (.int 41))) (fC (.int 14))))
  (fSeq (fSet 6 (f2 oIx (fLst [(fV 6),(fC (.int 0))]) (fc oInt (fAll [(f2 oEq (f2 oMod (f2 oDiv (fV 5) (fC (.int 4))) (fC (.int 7))) (fC (.int 3)))]))))
  (fSeq (fSet 7 (f2 oIx (fLst [(fc (fnRun 2 t__law_far) (fAll [(fV 6),(fV 1)])),(fC .non)]) (fc oInt (fAll [(f2 oEq (f2 oMod (f2 oDiv (fV 5) (fC (.int 4))) (fC (.int 5))) (fC (.int 1)))]))))
  (fSeq (fSet 8 (f2 oSub (f2 oAdd (fV 6) (f2 oMod (fc (fnRun 2 t__law_at) (fAll [(fV 0),(f2 oAdd (fV 4) (fC (.int 4)))])) (fC (.int 30)))) (fC (.int 3))))
  (fSeq (fSet 9 (f2 oIx (fLst [(fc (fnRun 2 t__law_far) (fAll [(fV 8),(fV 1)])),(fC .non)]) (fc oInt (fAll [(f2 oEq (f2 oMod (f2 oDiv (fV 5) (fC (.int 4))) (fC (.int 5))) (fC (.int 2)))]))))
  (fSeq (fSet 6 (fc (fnRun 2 t__law_far) (fAll [(fV 6),(fV 1)])))
  mixC)))))))
theorem mixday_eq:t__law_mixed_day (fnRun 2 (t__law_reach_by (fnRun 2 t__law_at))) (fnRun 16 (t__law_day (fnRun 2 (t__law_reach_by (fnRun 2 t__law_at))) (fnRun 2 t__law_at) (fnRun 2 t__law_far))) (fnRun 2 t__law_far) (fnRun 2 t__law_at)=(fSeq (fSet 1 (fc (fnRun 2 (t__law_reach_by (fnRun 2 t__law_at))) (fAll [(fV 0)])))
  (fSeq (fSet 2 (fc (fnRun 16 (t__law_day (fnRun 2 (t__law_reach_by (fnRun 2 t__law_at))) (fnRun 2 t__law_at) (fnRun 2 t__law_far))) (fAll [(fV 0)])))
  (fSeq (fSet 3 (fc oList (fAll [(fV 2)])))
  (fSeq (fFor 4 (fiRng rng1 [(fc oLen (fAll [(fV 2)]))]) mixB)
  (fRet (fV 3)))))):=rfl
noncomputable def MixP (h:Hh) (n d g:Nat) (step:Int) (len:Nat) (e:En) (h':Hh):Prop:=∃ (ds:List DeedM) (z4 z5 z6 z7 z8 z9:Option D),e=[some (.lst n),some (.int step),some (.lst d),some (.lst g),z4,z5,z6,z7,z8,z9]/\h'[g]?=some (.lst (ds.map DeedM.d))/\Grow h h'/\ds.length=len
theorem mix_set {ds:List DeedM}{k:Nat} (de:DeedM):(ds.map DeedM.d).set k de.d=(ds.set k de).map DeedM.d:=(List.map_set).symm
theorem mix_step {h h':Hh}{n d g:Nat}{step:Int}{ns:List Int}{days:List Deed}{k len:Nat}{e:En} (hg:h.length<=g) (hk1:k<=1000) (hn:h[n]?=some (.lst (ns.map D.int))) (hd:h[d]?=some (.lst (days.map Deed.d))) (hk:k+3 < ns.length) (hkd:k < days.length) (hkl:k < len) (p:MixP h n d g step len e h'):
  ∃ e2 h2,mixB (e.set 4 (some (.int (k:Int)))) h'=.nx e2 h2/\MixP h n d g step len e2 h2:=by
 obtain⟨ds,z4,z5,z6,z7,z8,z9,rfl,ed,G,dl⟩:=p
 show ∃ e2 h2,mixB [some (.lst n),some (.int step),some (.lst d),some (.lst g),some (.int (k:Int)),z5,z6,z7,z8,z9] h'=.nx e2 h2/\_
 obtain⟨x,hx⟩:∃ x,ns[k+3]?=some x:=⟨_,List.getElem?_eq_getElem hk⟩
 have cell:∀ (e:En) (h':Hh),Grow h h'->e[0]?=some (some (.lst n))->e[4]?=some (some (.int (k:Int)))->f2 oIx (fV 0) (f2 oAdd (fV 4) (fC (.int 3))) e h'=.ok (.int x) h':=fun e h' G e0 e4=>by
  rw [f2_ok (fV_ok e0 h') (add_ok (fV_ok e4 h') (fC_ok (.int 3) _ _)),oIx_lst (G.at' hn),show (k:Int)+3=((k+3:Nat):Int) by lia,atI_nat',List.getElem?_map,hx]; rfl
 have mulk:∀ (e:En) (h':Hh) (c:Int),-1000<=c->c<=1000->e[4]?=some (some (.int (k:Int)))->f2 oMul (fV 4) (fC (.int c)) e h'=.ok (.int ((k:Int)*c)) h':=fun e h' c c0 c1 e4=>by
  rw [f2_ok (fV_ok e4 h') (fC_ok (.int c) _ _),oMul_int _ (cMulR (by lia) (by lia))]; rfl
 unfold mixB
 rw [fSeq_nx (e1:=[some (.lst n),some (.int step),some (.lst d),some (.lst g),some (.int (k:Int)),some (.int (x / 3)),z6,z7,z8,z9]) (h1:=h') (fSet_ok (div_ok (cell _ h' G rfl rfl) (fC_ok (.int 3) _ _) (by decide)))]
 generalize x / 3=c
 have c4:∀ (e:En) (h':Hh),e[5]?=some (some (.int c))->f2 oDiv (fV 5) (fC (.int 4)) e h'=.ok (.int (c / 4)) h':=fun e h' e5=>div_ok (fV_ok e5 h') (fC_ok (.int 4) _ _) (by decide)
 have ceq:∀ (e:En) (h':Hh) (a b:Int),0 < a->e[5]?=some (some (.int c))->f2 oEq (f2 oMod (f2 oDiv (fV 5) (fC (.int 4))) (fC (.int a))) (fC (.int b)) e h'=.ok (.bl (c / 4 % a==b)) h':=fun e h' a b ha e5=>by
  rw [f2_ok (mod_ok (c4 e h' e5) (fC_ok (.int a) _ _) ha) (fC_ok (.int b) _ _),oEq_int]; rfl
 rw [fSeq_nx (e1:=[some (.lst n),some (.int step),some (.lst d),some (.lst g),some (.int (k:Int)),some (.int c),some (.int ((c / 4+(k:Int)*17) % 41 - 14)),z7,z8,z9]) (h1:=h') (fSet_ok (sub_ok (mod_ok (add_ok (c4 _ h' rfl) (mulk _ h' 17 (by decide) (by decide) rfl)) (fC_ok (.int 41) _ _) (by decide)) (fC_ok (.int 14) _ _)))]
 generalize (c / 4+(k:Int)*17) % 41 - 14=u
 obtain⟨v,o1,q1⟩:∃ (v:Int) (o:O),f2 oIx (fLst [(fV 6),(fC (.int 0))]) (fc oInt (fAll [(f2 oEq (f2 oMod (f2 oDiv (fV 5) (fC (.int 4))) (fC (.int 7))) (fC (.int 3)))])) [some (.lst n),some (.int step),some (.lst d),some (.lst g),some (.int (k:Int)),some (.int c),some (.int u),z7,z8,z9] h'=.ok (.int v) (h'++[o]):=by
  refine⟨if (c / 4 % 7==3)=true then 0 else u,.lst [.int u,.int 0],(two_ix (a:=.int u) (b:=.int 0) (fV_ok rfl h') (fC_ok _ _ _) (fun h2 _=>ceq _ h2 7 3 (by decide) rfl)).trans ?_⟩
  cases (c / 4 % 7==3)<;>rfl
 have G1:=G.app1 o1
 have ed1:=(Grow.app h' [o1]).at' ed
 generalize h'++[o1]=h1 at q1 G1 ed1
 rw [fSeq_nx (e1:=[some (.lst n),some (.int step),some (.lst d),some (.lst g),some (.int (k:Int)),some (.int c),some (.int v),z7,z8,z9]) (h1:=h1) (fSet_ok q1)]
 have mk:∀ (e:En) (h1:Hh) (i:Nat) (y b:Int),e[i]?=some (some (.int y))->e[1]?=some (some (.int step))->e[5]?=some (some (.int c))->∃ (lo:Option Int) (o:O),f2 oIx (fLst [(fc (fnRun 2 t__law_far) (fAll [(fV i),(fV 1)])),(fC .non)]) (fc oInt (fAll [(f2 oEq (f2 oMod (f2 oDiv (fV 5) (fC (.int 4))) (fC (.int 5))) (fC (.int b)))])) e h1=.ok (markD lo) (h1++[o]):=fun e h1 i y b ei e1 e5=>by
  refine⟨if (c / 4 % 5==b)=true then none else some (far y step),.lst [.int (far y step),.non],(two_ix (a:=.int (far y step)) (b:=.non) (by rw [fc_ok (fAll2 (fV_ok ei h1) (fV_ok e1 h1)),run_far]; rfl) (fC_ok _ _ _) (fun h2 _=>ceq _ h2 5 b (by decide) e5)).trans ?_⟩
  cases (c / 4 % 5==b)<;>rfl
 obtain⟨lo,o2,q2⟩:=mk [some (.lst n),some (.int step),some (.lst d),some (.lst g),some (.int (k:Int)),some (.int c),some (.int v),z7,z8,z9] h1 6 v 1 rfl rfl rfl
 have G2:=G1.app1 o2
 have ed2:=(Grow.app h1 [o2]).at' ed1
 generalize h1++[o2]=h2 at q2 G2 ed2
 rw [fSeq_nx (e1:=[some (.lst n),some (.int step),some (.lst d),some (.lst g),some (.int (k:Int)),some (.int c),some (.int v),some (markD lo),z8,z9]) (h1:=h2) (fSet_ok q2)]
 rw [fSeq_nx (e1:=[some (.lst n),some (.int step),some (.lst d),some (.lst g),some (.int (k:Int)),some (.int c),some (.int v),some (markD lo),some (.int (v+ns.getD (k+4) 0 % 30 - 3)),z9]) (h1:=h2) (fSet_ok (sub_ok (add_ok (fV_ok rfl h2) (mod_ok (at_call (k:=k+4) rfl (G2.at' hn) (by rw [add_ok (x:=(k:Int)) (y:=4) (fV_ok rfl h2) (fC_ok (.int 4) _ _),show (k:Int)+4=((k+4:Nat):Int) by lia])) (fC_ok (.int 30) _ _) (by decide))) (fC_ok (.int 3) _ _)))]
 generalize v+ns.getD (k+4) 0 % 30 - 3=l8
 obtain⟨hi,o3,q3⟩:=mk [some (.lst n),some (.int step),some (.lst d),some (.lst g),some (.int (k:Int)),some (.int c),some (.int v),some (markD lo),some (.int l8),z9] h2 8 l8 2 rfl rfl rfl
 have G3:=G2.app1 o3
 have ed3:=(Grow.app h2 [o3]).at' ed2
 generalize h2++[o3]=h3 at q3 G3 ed3
 rw [fSeq_nx (e1:=[some (.lst n),some (.int step),some (.lst d),some (.lst g),some (.int (k:Int)),some (.int c),some (.int v),some (markD lo),some (.int l8),some (markD hi)]) (h1:=h3) (fSet_ok q3)]
 rw [fSeq_nx (e1:=[some (.lst n),some (.int step),some (.lst d),some (.lst g),some (.int (k:Int)),some (.int c),some (.int (far v step)),some (markD lo),some (.int l8),some (markD hi)]) (h1:=h3) (fSet_ok (by rw [fc_ok (fAll2 (d:=.int v) (h1:=h3) rfl (d2:=.int step) (h2:=h3) rfl),run_far]; rfl))]
 generalize far v step=y
 have k1:fB (f2 oEq (f2 oMod (f2 oIx (fV 0) (f2 oAdd (fV 4) (fC (.int 3)))) (fC (.int 3))) (fC (.int 1))) [some (.lst n),some (.int step),some (.lst d),some (.lst g),some (.int (k:Int)),some (.int c),some (.int y),some (markD lo),some (.int l8),some (markD hi)] h3=.ok (x % 3==1) h3:=fB_ok (by rw [f2_ok (mod_ok (cell _ h3 G3 rfl rfl) (fC_ok (.int 3) _ _) (by decide)) (fC_ok (.int 1) _ _),oEq_int]; rfl)
 have k2:∀ b:Int,fB (f2 oEq (f2 oMod (fV 5) (fC (.int 4))) (fC (.int b))) [some (.lst n),some (.int step),some (.lst d),some (.lst g),some (.int (k:Int)),some (.int c),some (.int y),some (markD lo),some (.int l8),some (markD hi)] h3=.ok (c % 4==b) h3:=fun b=>fB_ok (by rw [f2_ok (mod_ok (x:=c) (fV_ok rfl h3) (fC_ok (.int 4) _ _) (by decide)) (fC_ok (.int b) _ _),oEq_int]; rfl)
 have fin:∀ (f:FE) (de:DeedM),f [some (.lst n),some (.int step),some (.lst d),some (.lst g),some (.int (k:Int)),some (.int c),some (.int y),some (markD lo),some (.int l8),some (markD hi)] h3=.ok de.d h3->∃ e2 h2,fSetIx f (fV 3) (fV 4) [some (.lst n),some (.int step),some (.lst d),some (.lst g),some (.int (k:Int)),some (.int c),some (.int y),some (markD lo),some (.int l8),some (markD hi)] h3=.nx e2 h2/\MixP h n d g step len e2 h2:=fun f de q=>by
  refine⟨_,_,setIx_at q (fV_ok rfl h3) (fV_ok rfl h3) ed3 (by rw [List.length_map]; lia),ds.set k de,_,_,_,_,_,_,rfl,?_,G3.set hg _,by rw [List.length_set]; exact dl⟩
  rw [at_set ed3,mix_set]
 unfold mixC
 generalize (x % 3==1)=b1 at k1
 cases b1 with
 | false=>
  rw [fIfS_f (andF k1),fIfS_f (andF k1),fIfS_f (andF k1),fIfS_f k1]
  exact⟨_,_,rfl,ds,_,_,_,_,_,_,rfl,ed3,G3,dl⟩
 | true=>
  have k0:=k2 0
  generalize (c % 4==0)=b2 at k0
  cases b2 with
  | true=>
   rw [fIfS_t (andT k1 k0)]
   have j0:=Int.emod_nonneg (c / 4+(k:Int)*5) (show (k:Int)+1≠0 by lia)
   have j1:=Int.emod_lt_of_pos (c / 4+(k:Int)*5) (show (0:Int) < (k:Int)+1 by lia)
   obtain⟨m,hm⟩:∃ m:Nat,(c / 4+(k:Int)*5) % ((k:Int)+1)=(m:Int):=⟨((c / 4+(k:Int)*5) % ((k:Int)+1)).toNat,by lia⟩
   obtain⟨de,hde⟩:∃ de,days[m]?=some de:=⟨_,List.getElem?_eq_getElem (by lia)⟩
   refine fin _ (.find de.n) ?_
   unfold fTup
   rw [fAll2 (d:=.str "find") (h1:=h3) rfl (d2:=.int de.n) (h2:=h3) (by
    rw [f2_ok (x:=de.d) (h1:=h3) (by rw [f2_ok (x:=.lst d) (h1:=h3) rfl (mod_ok (add_ok (c4 _ h3 rfl) (mulk _ h3 5 (by decide) (by decide) rfl)) (add_ok (x:=(k:Int)) (fV_ok rfl h3) (fC_ok (.int 1) _ _)) (by lia)),hm,oIx_lst (G3.at' hd),atI_nat',List.getElem?_map,hde]; rfl) (fC_ok (.int 1) _ _)]
    cases de<;>rfl)]
   rfl
  | false=>
   rw [fIfS_f (andT k1 k0)]
   have k0:=k2 1
   generalize (c % 4==1)=b2 at k0
   cases b2 with
   | true=>
    rw [fIfS_t (andT k1 k0)]
    exact fin _ (.rank y) rfl
   | false=>
    rw [fIfS_f (andT k1 k0)]
    have k0:=k2 2
    generalize (c % 4==2)=b2 at k0
    cases b2 with
    | true=>
     rw [fIfS_t (andT k1 k0)]
     refine fin _ (.nth ((c / 4+(k:Int)*7) % ((k:Int)+3) - 1)) ?_
     unfold fTup
     rw [fAll2 (d:=.str "nth") (h1:=h3) rfl (sub_ok (mod_ok (add_ok (c4 _ h3 rfl) (mulk _ h3 7 (by decide) (by decide) rfl)) (add_ok (x:=(k:Int)) (fV_ok rfl h3) (fC_ok (.int 3) _ _)) (by lia)) (fC_ok (.int 1) _ _))]
     rfl
    | false=>
     rw [fIfS_f (andT k1 k0),fIfS_t k1]
     exact fin _ (.btw lo hi) rfl
theorem run_mixday {h:Hh}{n:Nat}{ns:List Int} (e:h[n]?=some (.lst (ns.map D.int))) (hl:ns.length<=1000):
  ∃ (d:Nat) (ds:List DeedM) (h':Hh),fnRun 10 (t__law_mixed_day (fnRun 2 (t__law_reach_by (fnRun 2 t__law_at))) (fnRun 16 (t__law_day (fnRun 2 (t__law_reach_by (fnRun 2 t__law_at))) (fnRun 2 t__law_at) (fnRun 2 t__law_far))) (fnRun 2 t__law_far) (fnRun 2 t__law_at)) [.lst n] h=some (.lst d,h')/\Grow h h'/\h'[d]?=some (.lst (ds.map DeedM.d))/\ds.length=ns.length - 3:=by
 obtain⟨step,o1,hs,q1⟩:=run_reach e
 have G1:Grow h (h++[o1]):=.app _ _
 generalize h++[o1]=h1 at q1 G1
 obtain⟨d,days,h2,q2,g2,a2,dl⟩:=run_day (G1.at' e) hl
 have G2:=G1.trans g2
 have e2:=G2.at' e
 obtain⟨e6,h6,q6,ds,z4,z5,z6,z7,z8,z9,he,ed,G6,dl6⟩:=forG_run (chk:=fun _=>True) (i:=4) (t:=mixB)
  (P:=fun _=>MixP h2 n d h2.length step days.length) ((List.range days.length).map fun (k:Nat)=>D.int k) [some (.lst n),some (.int step),some (.lst d),some (.lst h2.length),none,none,none,none,none,none] (h2++[.lst (days.map Deed.d)])
  ⟨days.map DeedM.b,none,none,none,none,none,none,rfl,by rw [at_new,List.map_map]; rfl,.app _ _,by rw [List.length_map]⟩ (fun _ _ _ _=>trivial)
  (fun k x e' h' hk p=>by
   obtain⟨hlt,rfl⟩:=range_get hk
   exact mix_step (Nat.le_refl _) (by lia) e2 a2 (by lia) hlt hlt p)
 refine⟨h2.length,ds,h6,fnRun_rt ?_,G2.trans G6,ed,by lia⟩
 rw [mixday_eq]
 show fSeq _ _ [some (.lst n),none,none,none,none,none,none,none,none,none] h=_
 rw [fSeq_nx (e1:=[some (.lst n),some (.int step),none,none,none,none,none,none,none,none]) (h1:=h1) (fSet_ok (by rw [fc_ok (fAll1 (d:=.lst n) (h1:=h) rfl),q1]; rfl))]
 rw [fSeq_nx (e1:=[some (.lst n),some (.int step),some (.lst d),none,none,none,none,none,none,none]) (h1:=h2) (fSet_ok (by rw [fc_ok (fAll1 (d:=.lst n) (h1:=h1) rfl),q2]; rfl))]
 rw [fSeq_nx (e1:=[some (.lst n),some (.int step),some (.lst d),some (.lst h2.length),none,none,none,none,none,none]) (h1:=h2++[.lst (days.map Deed.d)]) (fSet_ok (by
  rw [fc_ok (fAll1 (d:=.lst d) (h1:=h2) rfl)]
  show Res.ofO ((seqOf (.lst d) h2).map fun xs=>(D.lst h2.length,h2++[.lst xs]))=_
  rw [show seqOf (.lst d) h2=some (days.map Deed.d) from itemsAt_of a2]
  rfl))]
 have len:fc oLen (fAll [(fV 2)]) [some (.lst n),some (.int step),some (.lst d),some (.lst h2.length),none,none,none,none,none,none] (h2++[.lst (days.map Deed.d)])=.ok (.int (days.length:Int)) (h2++[.lst (days.map Deed.d)]):=by
  rw [fc_ok (fAll1 (d:=.lst d) (h1:=h2++[.lst (days.map Deed.d)]) rfl),oLen_lst ((Grow.app _ _).at' a2),List.length_map]; rfl
 rw [fSeq_nx ((fFor_ok (fiRng1_ok (n:=days.length) (fAll1 len) (by lia))).trans q6),he]
 rfl
end M
namespace K12
open PySem PySem.Spec PyProof.Rows L2 DL MD M
noncomputable abbrev ANSM (xW xN:Addr):OX:=fnRunX 2 (t_answers (STEPSM xW xN))
theorem run_ansM_no {xW xN:Addr}{w:Int} (hw:w < 2) (d:D) (h:Hh):ANSM xW xN [.int w,d] h=.ex (.ref xW) h:=by
 refine fnRunX_ex (e:=[some (.int w),some d]) (fRet_ex ?_)
 unfold fComp fiSeq
 rw [fcX_ok (ds:=[.int w,d]) (h1:=h) rfl,run_stepsM_no hw]
 rfl
theorem run_ansM {xW xN:Addr}{w dh:Nat}{h:Hh}{ds:List DeedM} (w2:2<=w) (hw:w<=35) (ed:h[dh]?=some (.lst (ds.map DeedM.d))) (hl:ds.length<=61):
  ∃ (r:Nat) (ps:List (D×T)) (h':Hh),ANSM xW xN [.int (w:Int),.lst dh] h=.ok (.lst r) h'/\Grow h h'/\h'[r]?=some (.lst (ps.map (·.1)))/\DyM w ds ps h':=by
 obtain⟨r,ps,h1,q,G,er,dy⟩:=run_stepsM (xW:=xW) (xN:=xN) w2 hw ed hl
 have it:fiSeq (fcX (STEPSM xW xN) (fAll [(fV 0),(fV 1)])) [some (.int (w:Int)),some (.lst dh)] h=.ok ⟨ps.map prD,fun h'=>h'[r]?=some (.lst (ps.map prD))⟩ h1:=by
  unfold fiSeq
  rw [fcX_ok (ds:=[.int (w:Int),.lst dh]) (h1:=h) rfl,q,Res.bind_ok]
  unfold itSeq
  simp only [er]
 have hlen:=dy.len
 have:=fComp_map (fr:=[]) (fe:=f2 oIx (fV 0) (fC (.int 0))) (g:=fun d=>match d with | .tup [b,_]=>b | _=>.non) it (fun xs=>(Grow.app _ _).at' er) (fun d hd xs=>by
  obtain⟨p,_,rfl⟩:=List.mem_map.mp hd
  rfl) (by rw [List.length_map]; exact sz1000 (by lia))
 refine⟨h1.length,ps,h1++[.lst (ps.map (·.1))],fnRunX_rt (fRet_ok ?_),G.app1 _,at_new _ _,dy.mono (.app _ _)⟩
 refine Eq.trans (show _=fComp (fiSeq (fcX (STEPSM xW xN) (fAll [(fV 0),(fV 1)]))) [] fYes (f2 oIx (fV 0) (fC (.int 0))) [some (.int (w:Int)),some (.lst dh)] h from rfl) (this.trans ?_)
 simp only [List.map_map]
 rfl
theorem isDeedM (de:DeedM):IsDeed de.d:=by
 have s:∀ s:Str,(D.str s)=.non\/(∃ s',D.str s=.str s')\/∃ i,D.str s=.int i:=fun s=>.inr (.inl ⟨_,rfl⟩)
 have i:∀ i:Int,(D.int i)=.non\/(∃ s',D.int i=.str s')\/∃ j,D.int i=.int j:=fun i=>.inr (.inr ⟨_,rfl⟩)
 have mk:∀ o:Option Int,(markD o)=.non\/(∃ s',markD o=.str s')\/∃ j,markD o=.int j:=fun o=>by
  cases o with
  | none=>exact .inl rfl
  | some z=>exact i z
 cases de with
 | b d=>
  cases d with
  | put x y=>exact⟨_,rfl,fun z hz=>by
    simp only [List.mem_cons,List.not_mem_nil,or_false] at hz
    rcases hz with rfl | rfl | rfl
    ·exact s _
    ·exact i _
    ·exact s _⟩
  | take x=>exact⟨_,rfl,fun z hz=>by
    simp only [List.mem_cons,List.not_mem_nil,or_false] at hz
    rcases hz with rfl | rfl
    ·exact s _
    ·exact i _⟩
 | btw lo hi=>exact⟨_,rfl,fun z hz=>by
   simp only [List.mem_cons,List.not_mem_nil,or_false] at hz
   rcases hz with rfl | rfl | rfl
   ·exact s _
   ·exact mk _
   ·exact mk _⟩
 | _=>exact⟨_,rfl,fun z hz=>by
   simp only [List.mem_cons,List.not_mem_nil,or_false] at hz
   rcases hz with rfl | rfl
   ·exact s _
   ·exact i _⟩
theorem filtI {e:En}{h h1:Hh}{c:Nat}{ks:List Int}{f:FE}{ft:FT}{p:Int->Bool}{fr:List Nat} (qf:f e h=.ok (.lst c) h1) (ec:h1[c]?=some (.lst (ks.map D.int))) (hl:ks.length<=1000)
  (ht:∀ (k:Int) (hh:Hh),ft (some (.int k)::freeEn fr e) hh=.ok (p k) hh):
  fComp (fiSeq f) fr ft (fV 0) e h=.ok (.lst h1.length) (h1++[.lst ((ks.filter p).map D.int)]):=by
 have q:fiSeq f e h=.ok ⟨ks.map D.int,fun h=>h[c]?=some (.lst (ks.map D.int))⟩ h1:=by
  unfold fiSeq
  rw [qf,Res.bind_ok]
  unfold itSeq
  dsimp only
  rw [ec]
 have:=fComp_run (fr:=fr) (ft:=ft) (fe:=fV 0) (p:=fun d=>match d with | .int n=>p n | _=>false) (g:=fun d=>d) q (fun xs=>(Grow.app _ _).at' ec) (fun d hd xs=>by
  obtain⟨k,_,rfl⟩:=List.mem_map.mp hd
  exact ht k _) (fun d hd _ xs=>rfl) (by rw [List.length_map]; exact Nat.le_trans hl (by decide))
 rw [this,List.map_id',List.filter_map]
 rfl
noncomputable def keyI:Key->Int
 | .inl i=>i
 | .inr _=>0
theorem DRkeys {kvs:List (Key×D)}{cs:List Card} (r:DR kvs cs):∃ ks:List Int,(kvs.map fun p=>keyT p.1)=ks.map D.int/\ks.Perm (cs.map (·.1)):=by
 refine⟨kvs.map fun p=>keyI p.1,?_,?_⟩
 ·rw [List.map_map]
  refine List.map_congr_left fun p hp=>?_
  obtain⟨c,_,rfl⟩:=List.mem_map.mp (r.mem_iff.mp hp)
  rfl
 ·have:=List.Perm.map (fun p:Key×D=>keyI p.1) r
  rw [List.map_map] at this
  exact this
theorem lt_own:∀ {l:List Card}{n:Nat}{k:Card},Srt l->l[n]?=some k->ltC l k.1=n
 | [],_,_,_,e=>by simp at e
 | c::r,0,k,s,e=>by
  cases e
  rw [ltC_cons,if_neg (by lia),ltC_no fun x hx=>by
   have:=(List.pairwise_cons.mp s).1 x hx
   lia]
 | c::r,n+1,k,s,e=>by
  rw [List.getElem?_cons_succ] at e
  have s':=List.pairwise_cons.mp s
  have lt:c.1 < k.1:=s'.1 k (List.mem_of_getElem? e)
  rw [ltC_cons,if_pos lt,lt_own s'.2 e]
  lia
section
variable {h:Hh}{th:Nat}{kvs:List (Key×D)}{cs:List Card} (et:h[th]?=some (.dct kvs)) (r:DR kvs cs) (so:Srt cs) (hl:cs.length<=1000)
include et r hl
theorem run_smaller (x:Int):∃ h',fnRun 2 t__law_smaller [.int x,.lst th] h=some (.int (ltC cs x),h')/\Grow h h':=by
 obtain⟨ks,ek,pk⟩:=DRkeys r
 have l:fc oListD (fAll [(fV 1)]) [some (.int x),some (.lst th)] h=.ok (.lst h.length) (h++[.lst (ks.map D.int)]):=by
  rw [fc_ok (fAll1 (d:=.lst th) (h1:=h) rfl),oListD_ok et,ek]; rfl
 have kl:ks.length=cs.length:=by rw [pk.length_eq,List.length_map]
 have q:=filtI (ft:=fB (f2 oLt (fV 0) (fV 1))) (p:=fun k=>decide (k < x)) (fr:=[0]) l (at_new _ _) (by lia) (fun k hh=>fB_ok (by rw [f2_ok (x:=.int k) (h1:=hh) rfl (y:=.int x) (h2:=hh) rfl]; rfl))
 have n:(ks.filter fun k=>decide (k < x)).length=ltC cs x:=by
  rw [(pk.filter _).length_eq,List.filter_map,List.length_map]
  rfl
 refine⟨_,fnRun_rt (fRet_ok ?_),(Grow.app h [.lst (ks.map D.int)]).app1 (.lst ((ks.filter fun k=>decide (k < x)).map D.int))⟩
 show fc oLen (fAll [fComp (fiSeq (fc oListD (fAll [(fV 1)]))) [0] (fB (f2 oLt (fV 0) (fV 1))) (fV 0)]) [some (.int x),some (.lst th)] h=_
 rw [fc_ok (fAll1 q),oLen_lst (at_new _ _),List.length_map,n]
 rfl
omit hl
include so
theorem run_ct {c:Card} (hc:c∈cs):fnRun 2 (t__law_card_there (fnRun 1 t__law_whole)) [cardD c,.lst th] h=some (.bl true,h):=by
 have hv:=r.there so hc
 have e0:f2 oIx (fV 0) (fC (.int 0)) [some (cardD c),some (.lst th)] h=.ok (.int c.1) h:=rfl
 have e1:f2 oIx (fV 0) (fC (.int 1)) [some (cardD c),some (.lst th)] h=.ok (.str c.2) h:=rfl
 refine fnRun_rt ?_
 unfold t__law_card_there
 show fSeq _ _ [some (cardD c),some (.lst th)] h=_
 rw [fSeq_nx (e1:=[some (cardD c),some (.lst th)]) (h1:=h) (by
  rw [fIfS_f (h1:=h) (orF (h1:=h) (notB (b:=true) rfl) (fB_ok (b:=false) rfl))]
  rfl)]
 rw [fSeq_nx (e1:=[some (cardD c),some (.lst th)]) (h1:=h) (by
  rw [fIfS_f (h1:=h) (orF (h1:=h) (notB (b:=true) (fB_ok (by rw [fc_ok (fAll1 e0),run_whole]; rfl))) (notB (b:=true) (fB_ok (by unfold f1; rw [e1]; rfl))))]
  rfl)]
 refine fRet_ok (andVT (h1:=h) (by rw [f2_ok e0 (fV_ok (i:=1) (d:=.lst th) rfl h),oDin_ok et rfl,hv]; rfl) ?_)
 rw [f2_ok (x:=.str c.2) (h1:=h) (by rw [f2_ok (x:=.lst th) (h1:=h) rfl e0,oDget_ok et rfl hv]; rfl) e1,oEq_str,beq_self_eq_true]
 rfl
theorem get_note (x:Int):(valE kvs (.inl x)).getD .non=noteD (findC cs x):=by
 cases hf:findC cs x with
 | none=>
  rw [r.gone fun c hc e=>by
   unfold findC at hf
   have:=List.find?_eq_none.mp hf c hc
   exact this (decide_eq_true e)]
  rfl
 | some c=>
  have hc:c∈cs:=List.mem_of_find?_eq_some hf
  have e:c.1=x:=of_decide_eq_true (List.find?_some (p:=fun c:Card=>decide (c.1=x)) hf)
  have hv:=r.there so hc
  rw [e] at hv
  rw [hv]
  rfl
theorem run_text (o:Option Card):fnRun 2 t__law_text_is [noteD o,noteD o] h=some (.bl true,h):=by
 refine fnRun_rt ?_
 unfold t__law_text_is
 cases o with
 | none=>rfl
 | some c=>
  show fSeq _ _ [some (.str c.2),some (.str c.2)] h=_
  rw [fSeq_nx (e1:=[some (.str c.2),some (.str c.2)]) (h1:=h) (by rw [fIfS_f (h1:=h) rfl]; rfl)]
  refine fRet_ok (andVT (h1:=h) rfl ?_)
  rw [f2_ok (x:=.str c.2) (h1:=h) rfl (y:=.str c.2) (h2:=h) rfl,oEq_str,beq_self_eq_true]
  rfl
end
noncomputable def abB:FS:=(fSeq (fIfS (fOr (fNot (fB (fc (fnRun 2 (t__law_card_there (fnRun 1 t__law_whole))) (fAll [(f2 oIx (fV 0) (fV 5)),(fV 3)])))) (fB (f2 oNinL (f2 oIx (f2 oIx (fV 0) (fV 5)) (fC (.int 0))) (fV 4)))) (fRet (fC (.bl false))) fNext)
  (fIfS (fAnd (fB (f2 oGt (fV 5) (fC (.int 0)))) (fB (f2 oGe (f2 oIx (f2 oIx (fV 0) (f2 oSub (fV 5) (fC (.int 1)))) (fC (.int 0))) (f2 oIx (f2 oIx (fV 0) (fV 5)) (fC (.int 0)))))) (fRet (fC (.bl false))) fNext))
theorem ab_eq:t__law_all_between (fnRun 2 (t__law_card_there (fnRun 1 t__law_whole)))=(fSeq (fSet 4 (fc oListD (fAll [(fV 3)])))
  (fSeq (fIfS (fB (f2 oNotN (fV 1) (fC .non))) (fSet 4 (fComp (fiSeq (fV 4)) [1] (fB (f2 oGe (fV 0) (fV 1))) (fV 0))) fNext)
  (fSeq (fIfS (fB (f2 oNotN (fV 2) (fC .non))) (fSet 4 (fComp (fiSeq (fV 4)) [2] (fB (f2 oLe (fV 0) (fV 1))) (fV 0))) fNext)
  (fSeq (fIfS (fOr (fNot (fB (f1 (oIsi "list") (fV 0)))) (fB (f2 oNe (fc oLen (fAll [(fV 0)])) (fc oLen (fAll [(fV 4)]))))) (fRet (fC (.bl false))) fNext)
  (fSeq (fFor 5 (fiRng rng1 [(fc oLen (fAll [(fV 0)]))]) abB)
  (fRet (fC (.bl true)))))))):=rfl
theorem run_ab {h:Hh}{th m:Nat}{kvs:List (Key×D)}{cs:List Card}{lo hi:Option Int} (et:h[th]?=some (.dct kvs)) (r:DR kvs cs) (so:Srt cs) (hl:cs.length<=1000) (em:h[m]?=some (.lst ((cs.filter (okC lo hi)).map cardD))):
  ∃ h',fnRun 6 (t__law_all_between (fnRun 2 (t__law_card_there (fnRun 1 t__law_whole)))) [.lst m,markD lo,markD hi,.lst th] h=some (.bl true,h')/\Grow h h':=by
 obtain⟨ks,ek,pk⟩:=DRkeys r
 have kl:ks.length=cs.length:=by rw [pk.length_eq,List.length_map]
 have sf:Srt (cs.filter (okC lo hi)):=List.Pairwise.filter _ so
 have l0:fc oListD (fAll [(fV 3)]) [some (.lst m),some (markD lo),some (markD hi),some (.lst th),none,none] h=.ok (.lst h.length) (h++[.lst (ks.map D.int)]):=by
  rw [fc_ok (fAll1 (d:=.lst th) (h1:=h) rfl),oListD_ok et,ek]; rfl
 have g1:=Grow.app h [O.lst (ks.map D.int)]
 have a1:=at_new h (O.lst (ks.map D.int))
 generalize h++[O.lst (ks.map D.int)]=h1 at l0 g1 a1
 generalize h.length=w1 at l0 a1
 obtain⟨w2,h2,k2,q2,g2,a2,p2⟩:∃ (w2:Nat) (h2:Hh) (k2:List Int),(fIfS (fB (f2 oNotN (fV 1) (fC .non))) (fSet 4 (fComp (fiSeq (fV 4)) [1] (fB (f2 oGe (fV 0) (fV 1))) (fV 0))) fNext) [some (.lst m),some (markD lo),some (markD hi),some (.lst th),some (.lst w1),none] h1=.nx [some (.lst m),some (markD lo),some (markD hi),some (.lst th),some (.lst w2),none] h2/\Grow h1 h2/\h2[w2]?=some (.lst (k2.map D.int))/\k2.Perm ((cs.filter (okLo lo)).map (·.1)):=by
  cases lo with
  | none=>exact⟨w1,h1,ks,rfl,.refl _,a1,by rw [show cs.filter (okLo none)=cs from List.filter_eq_self.mpr fun _ _=>rfl]; exact pk⟩
  | some l=>
   refine⟨h1.length,h1++[.lst ((ks.filter fun k=>decide (l<=k)).map D.int)],_,?_,.app _ _,at_new _ _,?_⟩
   ·rw [fIfS_t (h1:=h1) rfl]
    exact fSet_ok (filtI (p:=fun k=>decide (l<=k)) (fV_ok rfl h1) a1 (by lia) (fun k hh=>fB_ok (by rw [f2_ok (x:=.int k) (h1:=hh) rfl (y:=.int l) (h2:=hh) rfl,oGe_int]; rfl)))
   ·refine (pk.filter _).trans (by rw [List.filter_map]; exact List.Perm.refl _)
 have k2l:k2.length<=1000:=by rw [p2.length_eq,List.length_map]; exact Nat.le_trans (List.length_filter_le _ _) hl
 obtain⟨w3,h3,k3,q3,g3,a3,p3⟩:∃ (w3:Nat) (h3:Hh) (k3:List Int),(fIfS (fB (f2 oNotN (fV 2) (fC .non))) (fSet 4 (fComp (fiSeq (fV 4)) [2] (fB (f2 oLe (fV 0) (fV 1))) (fV 0))) fNext) [some (.lst m),some (markD lo),some (markD hi),some (.lst th),some (.lst w2),none] h2=.nx [some (.lst m),some (markD lo),some (markD hi),some (.lst th),some (.lst w3),none] h3/\Grow h2 h3/\h3[w3]?=some (.lst (k3.map D.int))/\k3.Perm (((cs.filter (okLo lo)).filter (okHi hi)).map (·.1)):=by
  cases hi with
  | none=>exact⟨w2,h2,k2,rfl,.refl _,a2,by rw [show (cs.filter (okLo lo)).filter (okHi none)=cs.filter (okLo lo) from List.filter_eq_self.mpr fun _ _=>rfl]; exact p2⟩
  | some l=>
   refine⟨h2.length,h2++[.lst ((k2.filter fun k=>decide (k<=l)).map D.int)],_,?_,.app _ _,at_new _ _,?_⟩
   ·rw [fIfS_t (h1:=h2) rfl]
    exact fSet_ok (filtI (p:=fun k=>decide (k<=l)) (fV_ok rfl h2) a2 k2l (fun k hh=>fB_ok (by rw [f2_ok (x:=.int k) (h1:=hh) rfl (y:=.int l) (h2:=hh) rfl,oLe_int]; rfl)))
   ·refine (p2.filter _).trans (by rw [List.filter_map]; exact List.Perm.refl _)
 have ff:(cs.filter (okLo lo)).filter (okHi hi)=cs.filter (okC lo hi):=by
  rw [List.filter_filter]
  refine List.filter_congr fun c _=>?_
  unfold okC
  rw [Bool.and_comm]
 rw [ff] at p3
 have G3:=(g1.trans g2).trans g3
 have et3:=G3.at' et
 have em3:=G3.at' em
 have fl:(cs.filter (okC lo hi)).length<=1000:=Nat.le_trans (List.length_filter_le _ _) hl
 have memf:∀ c∈cs.filter (okC lo hi),c∈cs:=fun c hc=>(List.mem_filter.mp hc).1
 generalize cs.filter (okC lo hi)=fs at em3 p3 sf fl memf
 have lenF:∀ z,fc oLen (fAll [(fV 0)]) [some (.lst m),some (markD lo),some (markD hi),some (.lst th),some (.lst w3),z] h3=.ok (.int (fs.length:Int)) h3:=fun _=>by
  rw [fc_ok (fAll1 (d:=.lst m) (h1:=h3) rfl),oLen_lst em3,List.length_map]; rfl
 obtain⟨e',h',q,z,he,hh⟩:=forG_run (chk:=fun _=>True) (i:=5) (t:=abB)
  (P:=fun _ e h'=>∃ z,e=[some (.lst m),some (markD lo),some (markD hi),some (.lst th),some (.lst w3),z]/\h'=h3)
  ((List.range fs.length).map fun (k:Nat)=>D.int k) [some (.lst m),some (markD lo),some (markD hi),some (.lst th),some (.lst w3),none] h3 ⟨none,rfl,rfl⟩ (fun _ _ _ _=>trivial)
  (fun k d e h' hk p=>by
   obtain⟨z,re,rh⟩:=p
   subst re
   subst rh
   obtain⟨hlt,rfl⟩:=range_get hk
   obtain⟨b,eb⟩:∃ b,fs[k]?=some b:=⟨_,List.getElem?_eq_getElem hlt⟩
   have xc:f2 oIx (fV 0) (fV 5) [some (.lst m),some (markD lo),some (markD hi),some (.lst th),some (.lst w3),some (.int (k:Int))] h'=.ok (cardD b) h':=by
    rw [f2_ok (x:=.lst m) (h1:=h') rfl (y:=.int (k:Int)) (h2:=h') rfl,oIx_lst em3,atI_nat',List.getElem?_map,eb]; rfl
   have b0:f2 oIx (f2 oIx (fV 0) (fV 5)) (fC (.int 0)) [some (.lst m),some (markD lo),some (markD hi),some (.lst th),some (.lst w3),some (.int (k:Int))] h'=.ok (.int b.1) h':=by rw [f2_ok xc (fC_ok (.int 0) _ _)]; rfl
   have bm:=List.mem_of_getElem? eb
   refine⟨[some (.lst m),some (markD lo),some (markD hi),some (.lst th),some (.lst w3),some (.int (k:Int))],h',?_,_,rfl,rfl⟩
   show abB [some (.lst m),some (markD lo),some (markD hi),some (.lst th),some (.lst w3),some (.int (k:Int))] h'=_
   unfold abB
   have inn:(k3.any fun j=>j==b.1)=true:=List.any_eq_true.mpr ⟨b.1,p3.mem_iff.mpr (List.mem_map_of_mem bm),beq_self_eq_true _⟩
   rw [fSeq_nx (e1:=[some (.lst m),some (markD lo),some (markD hi),some (.lst th),some (.lst w3),some (.int (k:Int))]) (h1:=h') (by
    rw [fIfS_f (h1:=h') (orF (h1:=h') (notB (b:=true) (fB_ok (by rw [fc_ok (fAll2 xc (d2:=.lst th) (h2:=h') rfl),run_ct et3 r so (memf b bm)]; rfl))) (fB_ok (b:=false) (by
     rw [f2_ok b0 (fV_ok (i:=4) (d:=.lst w3) rfl h'),oNinL_ok a3,inn]
     rfl)))]
    rfl)]
   have g1:fB (f2 oGt (fV 5) (fC (.int 0))) [some (.lst m),some (markD lo),some (markD hi),some (.lst th),some (.lst w3),some (.int (k:Int))] h'=.ok (decide ((0:Int) < (k:Int))) h':=fB_ok (by rw [f2_ok (x:=.int (k:Int)) (h1:=h') rfl (fC_ok (.int 0) _ _)]; rfl)
   by_cases k0:k=0
   ·rw [fIfS_f (h1:=h') (andF (by rw [g1,decide_eq_false (by lia)]))]
    rfl
   ·rw [decide_eq_true (by lia)] at g1
    obtain⟨j,rfl⟩:∃ j,k=j+1:=⟨k - 1,by lia⟩
    obtain⟨a,ea⟩:∃ a,fs[j]?=some a:=⟨_,List.getElem?_eq_getElem (by lia)⟩
    have lt:a.1 < b.1:=by
     obtain⟨h1,e1⟩:=List.getElem?_eq_some_iff.mp ea
     obtain⟨h2,e2⟩:=List.getElem?_eq_some_iff.mp eb
     have:=List.pairwise_iff_getElem.mp sf j (j+1) h1 h2 (by lia)
     rw [e1,e2] at this
     exact this
    have a0:f2 oIx (f2 oIx (fV 0) (f2 oSub (fV 5) (fC (.int 1)))) (fC (.int 0)) [some (.lst m),some (markD lo),some (markD hi),some (.lst th),some (.lst w3),some (.int ((j+1:Nat):Int))] h'=.ok (.int a.1) h':=by
     rw [f2_ok (x:=cardD a) (h1:=h') (by
      rw [f2_ok (x:=.lst m) (h1:=h') rfl (y:=.int (j:Int)) (h2:=h') (by rw [sub_ok (x:=((j+1:Nat):Int)) (y:=1) (fV_ok rfl h') rfl,show ((j+1:Nat):Int) - 1=(j:Int) by lia]),oIx_lst em3,atI_nat',List.getElem?_map,ea]
      rfl) (fC_ok (.int 0) _ _)]
     rfl
    rw [fIfS_f (h1:=h') (andT g1 (fB_ok (b:=false) (by rw [f2_ok a0 b0,oGe_int,decide_eq_false (by lia)]; rfl)))]
    rfl)
 refine⟨h3,fnRun_rt ?_,G3⟩
 rw [ab_eq]
 show fSeq _ _ [some (.lst m),some (markD lo),some (markD hi),some (.lst th),none,none] h=_
 rw [fSeq_nx (e1:=[some (.lst m),some (markD lo),some (markD hi),some (.lst th),some (.lst w1),none]) (h1:=h1) (fSet_ok l0)]
 rw [fSeq_nx q2,fSeq_nx q3]
 rw [fSeq_nx (e1:=[some (.lst m),some (markD lo),some (markD hi),some (.lst th),some (.lst w3),none]) (h1:=h3) (by
  have isl:f1 (oIsi "list") (fV 0) [some (.lst m),some (markD lo),some (markD hi),some (.lst th),some (.lst w3),none] h3=.ok (.bl true) h3:=by
   unfold f1
   rw [fV_ok (d:=.lst m) rfl h3,Res.bind_ok]
   unfold oIsi tyD
   simp only [em3]
   rfl
  rw [fIfS_f (h1:=h3) (orF (h1:=h3) (notB (b:=true) (fB_ok isl)) (fB_ok (b:=false) (by
   rw [f2_ok (lenF _) (y:=.int (fs.length:Int)) (h2:=h3) (by rw [fc_ok (fAll1 (d:=.lst w3) (h1:=h3) rfl),oLen_lst a3,List.length_map,p3.length_eq,List.length_map]; rfl),oNe_int,beq_self_eq_true]
   rfl)))]
  rfl)]
 rw [fSeq_nx ((fFor_ok (fiRng1_ok (n:=fs.length) (fAll1 (lenF _)) (by lia))).trans q),he,hh]
 rfl
theorem run_fits {h:Hh}{th:Nat}{kvs:List (Key×D)}{cs:List Card}{de:DeedM}{a:D} (et:h[th]?=some (.dct kvs)) (r:DR kvs cs) (so:Srt cs) (hl:cs.length<=1000) (an:Ans cs de a h):
  ∃ h',fnRun 3 (t__law_fits (fnRun 1 t__law_whole) (fnRun 2 t__law_smaller) (fnRun 2 (t__law_card_there (fnRun 1 t__law_whole))) (fnRun 6 (t__law_all_between (fnRun 2 (t__law_card_there (fnRun 1 t__law_whole))))) (fnRun 2 t__law_text_is)) [a,de.d,.lst th] h=some (.bl true,h')/\Grow h h':=by
 have kd:∀ (s x:Str) (xs:List D),de.d=.tup (.str s::xs)->fB (f2 oEq (f2 oIx (fV 1) (fC (.int 0))) (fC (.str x))) [some a,some de.d,some (.lst th)] h=.ok (s==x) h:=fun s x xs q=>fB_ok (by
  rw [f2_ok (x:=.str s) (h1:=h) (by rw [f2_ok (x:=de.d) (h1:=h) rfl (y:=.int ((0:Nat):Int)) (h2:=h) rfl,q,oIx_tup,atI_nat']; rfl) (fC_ok (.str x) _ _),oEq_str]; rfl)
 have lenD:fc oLenD (fAll [(fV 2)]) [some a,some de.d,some (.lst th)] h=.ok (.int (cs.length:Int)) h:=by
  rw [fc_ok (fAll1 (d:=.lst th) (h1:=h) rfl),oLenD_ok et,r.len]; rfl
 have txt:∀ (s:Str) (x:Int) (xs:List D),de.d=.tup (.str s::.int x::xs)->a=noteD (findC cs x)->(s==("rank":Str))=false->(s==("nth":Str))=false->(s==("between":Str))=false->∃ h',fnRun 3 (t__law_fits (fnRun 1 t__law_whole) (fnRun 2 t__law_smaller) (fnRun 2 (t__law_card_there (fnRun 1 t__law_whole))) (fnRun 6 (t__law_all_between (fnRun 2 (t__law_card_there (fnRun 1 t__law_whole))))) (fnRun 2 t__law_text_is)) [a,de.d,.lst th] h=some (.bl true,h')/\Grow h h':=fun s x xs q ea n1 n2 n3=>by
  refine⟨h,fnRun_rt ?_,.refl _⟩
  unfold t__law_fits
  show fSeq _ _ [some a,some de.d,some (.lst th)] h=_
  rw [fSeq_nx (e1:=[some a,some de.d,some (.lst th)]) (h1:=h) (by rw [fIfS_f (by rw [kd s _ _ q,n1])]; rfl)]
  rw [fSeq_nx (e1:=[some a,some de.d,some (.lst th)]) (h1:=h) (by rw [fIfS_f (andF (by rw [kd s _ _ q,n2]))]; rfl)]
  rw [fSeq_nx (e1:=[some a,some de.d,some (.lst th)]) (h1:=h) (by rw [fIfS_f (by rw [kd s _ _ q,n2])]; rfl)]
  rw [fSeq_nx (e1:=[some a,some de.d,some (.lst th)]) (h1:=h) (by rw [fIfS_f (by rw [kd s _ _ q,n3])]; rfl)]
  refine fRet_ok ?_
  have gx:fDm oDg1 (fV 2) (f2 oIx (fV 1) (fC (.int 1))) [some a,some de.d,some (.lst th)] h=.ok (noteD (findC cs x)) h:=by
   unfold fDm
   rw [fV_ok (d:=.lst th) rfl h,Res.bind_ok,if_pos (dctOk_ok et),f2_ok (x:=de.d) (h1:=h) rfl (y:=.int ((1:Nat):Int)) (h2:=h) rfl,q,oIx_tup,atI_nat']
   show (Res.ok (D.int x) h).bind _=_
   rw [Res.bind_ok,oDg1_ok et rfl,get_note et r so]
   rfl
  rw [fc_ok (fAll2 (d:=a) (h1:=h) rfl gx),ea,run_text et r so]
  rfl
 cases de with
 | b d=>
  cases d with
  | put x s=>exact txt "put" x _ rfl an (by decide) (by decide) (by decide)
  | take x=>exact txt "take" x _ rfl an (by decide) (by decide) (by decide)
 | find x=>exact txt "find" x _ rfl an (by decide) (by decide) (by decide)
 | rank x=>
  have an:a=.int (ltC cs x):=an
  obtain⟨h',q,g⟩:=run_smaller et r hl x
  refine⟨h',fnRun_rt ?_,g⟩
  unfold t__law_fits
  show fSeq _ _ [some a,some (DeedM.rank x).d,some (.lst th)] h=_
  refine fSeq_rt ?_
  rw [fIfS_t (h1:=h) (kd "rank" "rank" _ rfl)]
  refine fRet_ok (andVT (h1:=h) (by rw [fc_ok (fAll1 (d:=a) (h1:=h) rfl),an,run_whole]; rfl) ?_)
  rw [f2_ok (x:=a) (h1:=h) rfl (y:=.int (ltC cs x)) (h2:=h') (by rw [fc_ok (ds:=[.int x,.lst th]) (h1:=h) rfl,q]; rfl),an,oEq_int,beq_self_eq_true]
  rfl
 | nth x=>
  have e1:f2 oIx (fV 1) (fC (.int 1)) [some a,some (DeedM.nth x).d,some (.lst th)] h=.ok (.int x) h:=rfl
  have t1:fB (f2 oLt (f2 oIx (fV 1) (fC (.int 1))) (fC (.int 0))) [some a,some (DeedM.nth x).d,some (.lst th)] h=.ok (decide (x < 0)) h:=fB_ok (by rw [f2_ok e1 (fC_ok (.int 0) _ _)]; rfl)
  have t2:fB (f2 oGe (f2 oIx (fV 1) (fC (.int 1))) (fc oLenD (fAll [(fV 2)]))) [some a,some (DeedM.nth x).d,some (.lst th)] h=.ok (decide ((cs.length:Int)<=x)) h:=fB_ok (by rw [f2_ok e1 lenD,oGe_int]; rfl)
  rcases an with⟨k,n,rfl,hk,ea⟩ | ⟨hx,ea⟩
  ·have hn:=(List.getElem?_eq_some_iff.mp hk).1
   obtain⟨h',q,g⟩:=run_smaller et r hl k.1
   refine⟨h',fnRun_rt ?_,g⟩
   unfold t__law_fits
   show fSeq _ _ [some a,some (DeedM.nth (n:Int)).d,some (.lst th)] h=_
   rw [fSeq_nx (e1:=[some a,some (DeedM.nth (n:Int)).d,some (.lst th)]) (h1:=h) (by rw [fIfS_f (h1:=h) (kd "nth" "rank" _ rfl)]; rfl)]
   rw [fSeq_nx (e1:=[some a,some (DeedM.nth (n:Int)).d,some (.lst th)]) (h1:=h) (by
    rw [fIfS_f (andT (kd "nth" "nth" _ rfl) (orF (by rw [t1,decide_eq_false (by lia)]) (by rw [t2,decide_eq_false (by lia)])))]
    rfl)]
   refine fSeq_rt ?_
   rw [fIfS_t (h1:=h) (kd "nth" "nth" _ rfl)]
   refine fRet_ok (andVT (h1:=h) (by rw [fc_ok (ds:=[a,.lst th]) (h1:=h) rfl,ea,run_ct et r so (List.mem_of_getElem? hk)]; rfl) ?_)
   rw [f2_ok (x:=.int (ltC cs k.1)) (h1:=h') (by rw [fc_ok (ds:=[.int k.1,.lst th]) (h1:=h) (fAll2 (d:=.int k.1) (h1:=h) (by rw [ea]; rfl) (d2:=.lst th) (h2:=h) rfl),q]; rfl) (y:=.int (n:Int)) (h2:=h') rfl,lt_own so hk,oEq_int,beq_self_eq_true]
   rfl
  ·refine⟨h,fnRun_rt ?_,.refl _⟩
   unfold t__law_fits
   show fSeq _ _ [some a,some (DeedM.nth x).d,some (.lst th)] h=_
   rw [fSeq_nx (e1:=[some a,some (DeedM.nth x).d,some (.lst th)]) (h1:=h) (by rw [fIfS_f (h1:=h) (kd "nth" "rank" _ rfl)]; rfl)]
   refine fSeq_rt ?_
   have tt:fOr (fB (f2 oLt (f2 oIx (fV 1) (fC (.int 1))) (fC (.int 0)))) (fB (f2 oGe (f2 oIx (fV 1) (fC (.int 1))) (fc oLenD (fAll [(fV 2)])))) [some a,some (DeedM.nth x).d,some (.lst th)] h=.ok true h:=by
    by_cases c:x < 0
    ·exact orT (by rw [t1,decide_eq_true c])
    ·exact orF (by rw [t1,decide_eq_false c]) (by rw [t2,decide_eq_true (by lia)])
   rw [fIfS_t (andT (kd "nth" "nth" _ rfl) tt),ea]
   rfl
 | btw lo hi=>
  obtain⟨m,ea,em⟩:=an
  obtain⟨h',q,g⟩:=run_ab et r so hl em
  refine⟨h',fnRun_rt ?_,g⟩
  unfold t__law_fits
  show fSeq _ _ [some a,some (DeedM.btw lo hi).d,some (.lst th)] h=_
  rw [fSeq_nx (e1:=[some a,some (DeedM.btw lo hi).d,some (.lst th)]) (h1:=h) (by rw [fIfS_f (h1:=h) (kd "between" "rank" _ rfl)]; rfl)]
  rw [fSeq_nx (e1:=[some a,some (DeedM.btw lo hi).d,some (.lst th)]) (h1:=h) (by rw [fIfS_f (h1:=h) (andF (kd "between" "nth" _ rfl))]; rfl)]
  rw [fSeq_nx (e1:=[some a,some (DeedM.btw lo hi).d,some (.lst th)]) (h1:=h) (by rw [fIfS_f (h1:=h) (kd "between" "nth" _ rfl)]; rfl)]
  refine fSeq_rt ?_
  rw [fIfS_t (h1:=h) (kd "between" "between" _ rfl)]
  refine fRet_ok ?_
  rw [fc_ok (ds:=[a,markD lo,markD hi,.lst th]) (h1:=h) rfl,ea,q]
  rfl
noncomputable def dictS:FS:=(fSeq (fIfS (fB (f2 oEq (f2 oIx (f2 oIx (fV 2) (fV 7)) (fC (.int 0))) (fC (.str "put")))) (fDput (f2 oIx (f2 oIx (fV 2) (fV 7)) (fC (.int 2))) (fV 6) (f2 oIx (f2 oIx (fV 2) (fV 7)) (fC (.int 1)))) fNext)
  (fIfS (fAnd (fB (f2 oEq (f2 oIx (f2 oIx (fV 2) (fV 7)) (fC (.int 0))) (fC (.str "take")))) (fB (f2 oDin (f2 oIx (f2 oIx (fV 2) (fV 7)) (fC (.int 1))) (fV 6)))) (fDrop (fDm oDpop (fV 6) (f2 oIx (f2 oIx (fV 2) (fV 7)) (fC (.int 1))))) fNext))
noncomputable def loopB:FS:=(fSeq (fIfS (fNot (fB (fc (fnRun 3 (t__law_fits (fnRun 1 t__law_whole) (fnRun 2 t__law_smaller) (fnRun 2 (t__law_card_there (fnRun 1 t__law_whole))) (fnRun 6 (t__law_all_between (fnRun 2 (t__law_card_there (fnRun 1 t__law_whole))))) (fnRun 2 t__law_text_is))) (fAll [(f2 oIx (fV 4) (fV 7)),(f2 oIx (fV 2) (fV 7)),(fV 6)])))) (fRet (fC (.bl false))) fNext)
  dictS)
theorem law_eq (xW xN:Addr):t_law xW (fnRun 1 t__law_mixed) (fnRun 2 t__law_at) (fnRun 10 (t__law_mixed_day (fnRun 2 (t__law_reach_by (fnRun 2 t__law_at))) (fnRun 16 (t__law_day (fnRun 2 (t__law_reach_by (fnRun 2 t__law_at))) (fnRun 2 t__law_at) (fnRun 2 t__law_far))) (fnRun 2 t__law_far) (fnRun 2 t__law_at))) (ANSM xW xN) (fnRun 4 (t__law_same (fnRun 1 t__law_whole))) (fnRun 3 (t__law_fits (fnRun 1 t__law_whole) (fnRun 2 t__law_smaller) (fnRun 2 (t__law_card_there (fnRun 1 t__law_whole))) (fnRun 6 (t__law_all_between (fnRun 2 (t__law_card_there (fnRun 1 t__law_whole))))) (fnRun 2 t__law_text_is)))=(fSeq (fSet 0 (fSl (fV 0) fNoPart (fPart (fC (.int 500)))))
  (fSeq (fSet 0 (fc (fnRun 1 t__law_mixed) (fAll [(fV 0)])))
  (fSeq (fSet 1 (f2 oIx (fLst [(fC (.int 2)),(fC (.int 3)),(fC (.int 4)),(fC (.int 5)),(fC (.int 8)),(fC (.int 3)),(fC (.int 6)),(fC (.int 1)),(fC (.int 0)),(f1 oNeg (fC (.int 1)))]) (f2 oMod (fc (fnRun 2 t__law_at) (fAll [(fV 0),(fC (.int 0))])) (fC (.int 10)))))
  (fSeq (fSet 2 (fc (fnRun 10 (t__law_mixed_day (fnRun 2 (t__law_reach_by (fnRun 2 t__law_at))) (fnRun 16 (t__law_day (fnRun 2 (t__law_reach_by (fnRun 2 t__law_at))) (fnRun 2 t__law_at) (fnRun 2 t__law_far))) (fnRun 2 t__law_far) (fnRun 2 t__law_at))) (fAll [(fV 0)])))
  (fSeq (fSet 3 (fc oList (fAll [(fV 2)])))
  (fSeq (fSet 4 (fC .non))
  (fSeq (fSet 5 (fC (.bl false)))
  (fSeq (fTry (fSet 4 (fcX (ANSM xW xN) (fAll [(fV 1),(fV 3)]))) (mOf [(xW,noEx (fSet 5 (fC (.bl true))))]))
  (fSeq (fIfS (fNot (fB (fc (fnRun 4 (t__law_same (fnRun 1 t__law_whole))) (fAll [(fV 3),(fV 2)])))) (fRet (fC (.bl false))) fNext)
  (fSeq (fIfS (fOr (fB (fV 5)) (fB (f2 oLt (fV 1) (fC (.int 2))))) (fRet (fAndV (fV 5) (f2 oLt (fV 1) (fC (.int 2))))) fNext)
  (fSeq (fIfS (fOr (fNot (fB (f1 (oIsi "list") (fV 4)))) (fB (f2 oNe (fc oLen (fAll [(fV 4)])) (fc oLen (fAll [(fV 2)]))))) (fRet (fC (.bl false))) fNext)
  (fSeq (fSet 6 fDct)
  (fSeq (fFor 7 (fiRng rng1 [(fc oLen (fAll [(fV 2)]))]) loopB)
  (fRet (fC (.bl true)))))))))))))))):=rfl
theorem run_wid {e:En}{h:Hh}{n:Nat}{ns:List Int} (q0:e[0]?=some (some (.lst n))) (q:h[n]?=some (.lst (ns.map D.int))):∃ (w:Int) (o:O),w<=8/\(f2 oIx (fLst [(fC (.int 2)),(fC (.int 3)),(fC (.int 4)),(fC (.int 5)),(fC (.int 8)),(fC (.int 3)),(fC (.int 6)),(fC (.int 1)),(fC (.int 0)),(f1 oNeg (fC (.int 1)))]) (f2 oMod (fc (fnRun 2 t__law_at) (fAll [(fV 0),(fC (.int 0))])) (fC (.int 10)))) e h=.ok (.int w) (h++[o]):=by
 have l1:fLst [(fC (.int 2)),(fC (.int 3)),(fC (.int 4)),(fC (.int 5)),(fC (.int 8)),(fC (.int 3)),(fC (.int 6)),(fC (.int 1)),(fC (.int 0)),(f1 oNeg (fC (.int 1)))] e h=.ok (.lst h.length) (h++[.lst [.int 2,.int 3,.int 4,.int 5,.int 8,.int 3,.int 6,.int 1,.int 0,.int (-1)]]):=rfl
 have i0:=Int.emod_nonneg (ns.getD 0 0) (show (10:Int)≠0 by decide)
 have i1:=Int.emod_lt_of_pos (ns.getD 0 0) (show (0:Int) < 10 by decide)
 have s3:∀ o,f2 oMod (fc (fnRun 2 t__law_at) (fAll [(fV 0),(fC (.int 0))])) (fC (.int 10)) e (h++[o])=.ok (.int (ns.getD 0 0 % 10)) (h++[o]):=fun o=>mod_ok (at_call (k:=0) q0 ((Grow.app _ _).at' q) rfl) (fC_ok _ _ _) (by decide)
 generalize ns.getD 0 0 % 10=ix at i0 i1 s3
 have hat:∃ w:Int,w<=8/\atI [D.int 2,.int 3,.int 4,.int 5,.int 8,.int 3,.int 6,.int 1,.int 0,.int (-1)] ix=some (.int w):=by
  have:ix=0\/ix=1\/ix=2\/ix=3\/ix=4\/ix=5\/ix=6\/ix=7\/ix=8\/ix=9:=by lia
  rcases this with rfl | rfl | rfl | rfl | rfl | rfl | rfl | rfl | rfl | rfl<;>exact⟨_,by decide,rfl⟩
 obtain⟨w,w8,hat⟩:=hat
 refine⟨w,.lst [.int 2,.int 3,.int 4,.int 5,.int 8,.int 3,.int 6,.int 1,.int 0,.int (-1)],w8,?_⟩
 rw [f2_ok l1 (s3 _),oIx_lst (at_new _ _),hat]
 rfl
theorem dict_step {e:En}{h:Hh}{d th k:Nat}{ds:List DeedM}{de:DeedM}{kvs:List (Key×D)}{cs:List Card} (e2:e[2]?=some (some (.lst d))) (e4:e[6]?=some (some (.lst th))) (e5:e[7]?=some (some (.int (k:Int)))) (dth:d≠th) (ed:h[d]?=some (.lst (ds.map DeedM.d))) (hk:ds[k]?=some de) (eth:h[th]?=some (.dct kvs)) (r:DR kvs cs) (so:Srt cs) (hl:cs.length<=1000):
  ∃ h2 kvs',dictS e h=.nx e h2/\h2[th]?=some (.dct kvs')/\DR kvs' (effM de cs)/\∀ g:Hh,g.length<=th->Grow g h->Grow g h2:=by
 have xd:∀ h:Hh,h[d]?=some (.lst (ds.map DeedM.d))->f2 oIx (fV 2) (fV 7) e h=.ok de.d h:=fun h ed=>by
  rw [f2_ok (fV_ok e2 h) (fV_ok e5 h),oIx_lst ed,atI_nat',List.getElem?_map,hk]; rfl
 have kd:∀ (h:Hh) (s x:Str) (xs:List D),h[d]?=some (.lst (ds.map DeedM.d))->de.d=.tup (.str s::xs)->fB (f2 oEq (f2 oIx (f2 oIx (fV 2) (fV 7)) (fC (.int 0))) (fC (.str x))) e h=.ok (s==x) h:=fun h s x xs ed q=>fB_ok (by
  rw [f2_ok (x:=.str s) (h1:=h) (by rw [f2_ok (xd h ed) (y:=.int ((0:Nat):Int)) (h2:=h) rfl,q,oIx_tup,atI_nat']; rfl) (fC_ok (.str x) _ _),oEq_str]; rfl)
 have no:∀ (s:Str) (xs:List D),de.d=.tup (.str s::xs)->(s==("put":Str))=false->(s==("take":Str))=false->dictS e h=.nx e h:=fun s xs q h1 h2=>by
  unfold dictS
  rw [fSeq_nx (e1:=e) (h1:=h) (by rw [fIfS_f (by rw [kd h s _ xs ed q,h1])]; rfl),fIfS_f (andF (by rw [kd h s _ xs ed q,h2]))]
  rfl
 cases de with
 | b de=>
  unfold dictS
  cases de with
  | put x s=>
   have ed2:(h.set th (.dct (putE kvs (.inl x) (.str s))))[d]?=some (.lst (ds.map DeedM.d)):=by rw [List.getElem?_set_ne (Ne.symm dth)]; exact ed
   refine⟨h.set th (.dct (putE kvs (.inl x) (.str s))),_,?_,at_set eth,r.put so x s,fun g hg G=>G.set hg _⟩
   rw [fSeq_nx (e1:=e) (h1:=h.set th (.dct (putE kvs (.inl x) (.str s)))) (by
    rw [fIfS_t (kd h "put" "put" _ ed rfl)]
    unfold fDput
    rw [f2_ok (xd h ed) (fC_ok (.int 2) _ _),show Res.ofO (oIx (DeedM.b (.put x s)).d (.int 2) h)=.ok (.str s) h from rfl,Res.out_ok,fV_ok e4 h,Res.out_ok,f2_ok (xd h ed) (fC_ok (.int 1) _ _),show Res.ofO (oIx (DeedM.b (.put x s)).d (.int 1) h)=.ok (.int x) h from rfl,Res.out_ok,dPut_ok eth rfl (Nat.lt_of_le_of_lt (show kvs.length<=1000 by rw [r.len]; exact hl) (by decide))]
    rfl)]
   rw [fIfS_f (andF (kd _ "put" "take" _ ed2 rfl))]
   rfl
  | take x=>
   have nx:f2 oIx (f2 oIx (fV 2) (fV 7)) (fC (.int 1)) e h=.ok (.int x) h:=by rw [f2_ok (xd h ed) (fC_ok (.int 1) _ _)]; rfl
   have k1:fB (f2 oDin (f2 oIx (f2 oIx (fV 2) (fV 7)) (fC (.int 1))) (fV 6)) e h=.ok (valE kvs (.inl x)).isSome h:=fB_ok (by rw [f2_ok nx (fV_ok e4 h),oDin_ok eth rfl]; rfl)
   rw [fSeq_nx (e1:=e) (h1:=h) (by rw [fIfS_f (kd h "take" "put" _ ed rfl)]; rfl)]
   by_cases hx:∃ c∈cs,c.1=x
   ·obtain⟨c,hc,rfl⟩:=hx
    have hv:=r.there so hc
    rw [hv] at k1
    rw [fIfS_t (andT (kd h "take" "take" _ ed rfl) k1)]
    refine⟨h.set th (.dct (dropE kvs (.inl c.1))),_,fDrop_ok (d:=.str c.2) ?_,at_set eth,r.drop _,fun g hg G=>G.set hg _⟩
    unfold fDm
    rw [fV_ok e4 h,Res.bind_ok,if_pos (dctOk_ok eth),nx,Res.bind_ok,oDpop_ok eth rfl hv]
    rfl
   ·have hx':∀ c∈cs,c.1≠x:=fun c hc e=>hx ⟨c,hc,e⟩
    rw [r.gone hx'] at k1
    rw [fIfS_f (andT (kd h "take" "take" _ ed rfl) k1)]
    exact⟨h,kvs,rfl,eth,by show DR kvs (delC cs x); rw [del_id hx']; exact r,fun g _ G=>G⟩
 | find x=>exact⟨h,kvs,no "find" _ rfl (by decide) (by decide),eth,r,fun g _ G=>G⟩
 | rank x=>exact⟨h,kvs,no "rank" _ rfl (by decide) (by decide),eth,r,fun g _ G=>G⟩
 | nth x=>exact⟨h,kvs,no "nth" _ rfl (by decide) (by decide),eth,r,fun g _ G=>G⟩
 | btw lo hi=>exact⟨h,kvs,no "between" _ rfl (by decide) (by decide),eth,r,fun g _ G=>G⟩
noncomputable def LpP (h:Hh) (s w d g f th:Nat) (ps:List (D×T)) (k:Nat) (e:En) (h':Hh):Prop:=∃ (kvs:List (Key×D)) (t:T) (z7:Option D),e=[some (.lst s),some (.int (w:Int)),some (.lst d),some (.lst g),some (.lst f),some (.bl false),some (.lst th),z7]/\h'[th]?=some (.dct kvs)/\Grow h h'/\(∃ L,Cb w L t)/\DR kvs t.flat/\t.flat.length<=k/\(T.node [] []::ps.map (·.2))[k]?=some t
theorem loop_step {h h':Hh}{s w d g f th k:Nat}{ds:List DeedM}{ps:List (D×T)}{e:En} (w2:2<=w) (hth:h.length<=th) (ed:h[d]?=some (.lst (ds.map DeedM.d))) (ef:h[f]?=some (.lst (ps.map (·.1)))) (dy:DyM w ds ps h) (hk:k < ds.length) (hl:ds.length<=60) (p:LpP h s w d g f th ps k e h'):
  ∃ e2 h2,loopB (e.set 7 (some (.int (k:Int)))) h'=.nx e2 h2/\LpP h s w d g f th ps (k+1) e2 h2:=by
 obtain⟨kvs,t,z7,rfl,eth,G,⟨L0,c0⟩,r,fl,ht⟩:=p
 obtain⟨de,hde⟩:∃ de,ds[k]?=some de:=⟨_,List.getElem?_eq_getElem hk⟩
 obtain⟨p',hp'⟩:∃ p',ps[k]?=some p':=⟨_,List.getElem?_eq_getElem (by rw [dy.len]; exact hk)⟩
 obtain⟨st,an⟩:=dy.stp k de t p' hde ht hp'
 obtain⟨L,c,f'⟩:=stepM_cb c0 w2 st
 have fl':p'.2.flat.length<=k+1:=by rw [f']; have:=effM_len de t.flat; lia
 show ∃ e2 h2,loopB [some (.lst s),some (.int (w:Int)),some (.lst d),some (.lst g),some (.lst f),some (.bl false),some (.lst th),some (.int (k:Int))] h'=.nx e2 h2/\_
 unfold loopB
 obtain⟨h3,q3,g3⟩:=run_fits eth r c0.srt (by lia) (an.mono G)
 rw [fSeq_nx (e1:=[some (.lst s),some (.int (w:Int)),some (.lst d),some (.lst g),some (.lst f),some (.bl false),some (.lst th),some (.int (k:Int))]) (h1:=h3) (by
  rw [fIfS_f (h1:=h3) (notB (b:=true) (fB_ok (by
   rw [fc_ok (ds:=[p'.1,de.d,.lst th]) (h1:=h') (fAll_cons (by
    rw [f2_ok (x:=.lst f) (h1:=h') rfl (y:=.int (k:Int)) (h2:=h') rfl,oIx_lst (G.at' ef),atI_nat',List.getElem?_map,hp']
    rfl) (fAll2 (d:=de.d) (h1:=h') (by
    rw [f2_ok (x:=.lst d) (h1:=h') rfl (y:=.int (k:Int)) (h2:=h') rfl,oIx_lst (G.at' ed),atI_nat',List.getElem?_map,hde]
    rfl) (d2:=.lst th) (h2:=h') rfl)),q3]
   rfl)))]
  rfl)]
 have G3:=G.trans g3
 have dlt:=(List.getElem?_eq_some_iff.mp ed).1
 obtain⟨h2,kvs',q2,eth2,r2,g2⟩:=dict_step (e:=[some (.lst s),some (.int (w:Int)),some (.lst d),some (.lst g),some (.lst f),some (.bl false),some (.lst th),some (.int (k:Int))]) (h:=h3) (k:=k) rfl rfl rfl (by lia) (G3.at' ed) hde (g3.at' eth) r c0.srt (by lia)
 rw [<-f'] at r2
 exact⟨_,h2,q2,kvs',p'.2,_,rfl,eth2,g2 h hth G3,⟨L,c⟩,r2,fl',by rw [List.getElem?_cons_succ,List.getElem?_map,hp']; rfl⟩
theorem law_true {xW xN:Addr} (ns:List Int) (hl:ns.length<=63):∃ h',fnRun 8 (t_law xW (fnRun 1 t__law_mixed) (fnRun 2 t__law_at) (fnRun 10 (t__law_mixed_day (fnRun 2 (t__law_reach_by (fnRun 2 t__law_at))) (fnRun 16 (t__law_day (fnRun 2 (t__law_reach_by (fnRun 2 t__law_at))) (fnRun 2 t__law_at) (fnRun 2 t__law_far))) (fnRun 2 t__law_far) (fnRun 2 t__law_at))) (ANSM xW xN) (fnRun 4 (t__law_same (fnRun 1 t__law_whole))) (fnRun 3 (t__law_fits (fnRun 1 t__law_whole) (fnRun 2 t__law_smaller) (fnRun 2 (t__law_card_there (fnRun 1 t__law_whole))) (fnRun 6 (t__law_all_between (fnRun 2 (t__law_card_there (fnRun 1 t__law_whole))))) (fnRun 2 t__law_text_is)))) [.ro ns] []=some (.bl true,h'):=by
 rw [law_eq]
 have s1:fSl (fV 0) fNoPart (fPart (fC (.int 500))) [some (.ro ns),none,none,none,none,none,none,none] []=.ok (.lst 0) [.lst (ns.map D.int)]:=by
  have:=cut_head (ns.map D.int) 500
  rw [List.take_of_length_le (by rw [List.length_map]; lia)] at this
  simp [fSl,fV,fNoPart,fPart,fC,oSl]
  exact this
 have q0:([O.lst (ns.map D.int)]:Hh)[0]?=some (.lst (ns.map D.int)):=rfl
 generalize hh0:([O.lst (ns.map D.int)]:Hh)=h0 at s1 q0
 obtain⟨ms,q1,ml⟩:=run_mixed q0 (by lia)
 have g1:Grow h0 (h0++[O.lst (ms.map D.int)]):=.app _ _
 have a1:=at_new h0 (O.lst (ms.map D.int))
 generalize h0++[O.lst (ms.map D.int)]=h1 at q1 g1 a1
 generalize h0.length=s at q1 a1
 obtain⟨wd,o2,w8,q2⟩:=run_wid (e:=[some (.lst s),none,none,none,none,none,none,none]) rfl a1
 have g2:Grow h1 (h1++[o2]):=.app _ _
 generalize h1++[o2]=h2 at q2 g2
 obtain⟨d,ds,h3,q3,g3,a3,dl⟩:=run_mixday (g2.at' a1) (by lia)
 have g4:=Grow.app h3 [O.lst (ds.map DeedM.d)]
 have a4:=at_new h3 (O.lst (ds.map DeedM.d))
 have q4:fc oList (fAll [(fV 2)]) [some (.lst s),some (.int wd),some (.lst d),none,none,none,none,none] h3=.ok (.lst h3.length) (h3++[.lst (ds.map DeedM.d)]):=by
  rw [fc_ok (fAll1 (d:=.lst d) (h1:=h3) rfl)]
  show Res.ofO ((seqOf (.lst d) h3).map fun xs=>(D.lst h3.length,h3++[.lst xs]))=_
  rw [show seqOf (.lst d) h3=some (ds.map DeedM.d) from itemsAt_of a3]
  rfl
 generalize h3++[O.lst (ds.map DeedM.d)]=h4 at q4 g4 a4
 generalize h3.length=g at q4 a4
 have d4:=g4.at' a3
 refine Exists.imp (fun h' z=>fnRun_rt z) ?_
 show ∃ h',fSeq _ _ [some (.ro ns),none,none,none,none,none,none,none] []=Out.rt (.bl true) h'
 rw [fSeq_nx (e1:=[some (.lst 0),none,none,none,none,none,none,none]) (h1:=h0) (fSet_ok s1)]
 rw [fSeq_nx (e1:=[some (.lst s),none,none,none,none,none,none,none]) (h1:=h1) (fSet_ok (by rw [fc_ok (fAll1 (d:=.lst 0) (h1:=h0) rfl),q1]; rfl))]
 rw [fSeq_nx (e1:=[some (.lst s),some (.int wd),none,none,none,none,none,none]) (h1:=h2) (fSet_ok q2)]
 rw [fSeq_nx (e1:=[some (.lst s),some (.int wd),some (.lst d),none,none,none,none,none]) (h1:=h3) (fSet_ok (by rw [fc_ok (fAll1 (d:=.lst s) (h1:=h2) rfl),q3]; rfl))]
 rw [fSeq_nx (e1:=[some (.lst s),some (.int wd),some (.lst d),some (.lst g),none,none,none,none]) (h1:=h4) (fSet_ok q4)]
 rw [fSeq_nx (e1:=[some (.lst s),some (.int wd),some (.lst d),some (.lst g),some (.non),none,none,none]) (h1:=h4) (fSet_ok rfl)]
 rw [fSeq_nx (e1:=[some (.lst s),some (.int wd),some (.lst d),some (.lst g),some (.non),some (.bl false),none,none]) (h1:=h4) (fSet_ok rfl)]
 have isd:∀ x∈ds.map DeedM.d,IsDeed x:=fun x hx=>by obtain⟨de,_,rfl⟩:=List.mem_map.mp hx; exact isDeedM de
 by_cases hw:wd < 2
 ·have qx:fcX (ANSM xW xN) (fAll [(fV 1),(fV 3)]) [some (.lst s),some (.int wd),some (.lst d),some (.lst g),some (.non),some (.bl false),none,none] h4=.ex (.ref xW) h4:=by
   rw [fcX_ok (ds:=[.int wd,.lst g]) (h1:=h4) rfl,run_ansM_no hw]
  rw [fSeq_nx (e1:=[some (.lst s),some (.int wd),some (.lst d),some (.lst g),some (.non),some (.bl true),none,none]) (h1:=h4) (by
   rw [fTry_ex (fSet_ex qx) (mOf_hit _ _ _)]
   rfl)]
  rw [fSeq_nx (e1:=[some (.lst s),some (.int wd),some (.lst d),some (.lst g),some (.non),some (.bl true),none,none]) (h1:=h4) (by
   rw [fIfS_f (h1:=h4) (notB (b:=true) (fB_ok (by rw [fc_ok (ds:=[.lst g,.lst d]) (h1:=h4) rfl,run_same a4 d4 isd (by rw [List.length_map]; lia)]; rfl)))]
   rfl)]
  refine⟨h4,fSeq_rt ?_⟩
  rw [fIfS_t (h1:=h4) (orT (h1:=h4) rfl)]
  refine fRet_ok (andVT (h1:=h4) rfl ?_)
  rw [f2_ok (x:=.int wd) (h1:=h4) rfl (fC_ok (.int 2) _ _),oLt_int,decide_eq_true hw]
  rfl
 ·obtain⟨w,rfl⟩:∃ w:Nat,wd=w:=⟨wd.toNat,by lia⟩
  obtain⟨f,ps,h5,q5,g5,a5,dy⟩:=run_ansM (xW:=xW) (xN:=xN) (w:=w) (by lia) (by lia) a4 (by lia)
  have d5:=g5.at' d4
  have len2:∀ z6 z7 (h':Hh),Grow h5 h'->fc oLen (fAll [(fV 2)]) [some (.lst s),some (.int (w:Int)),some (.lst d),some (.lst g),some (.lst f),some (.bl false),z6,z7] h'=.ok (.int (ds.length:Int)) h':=fun _ _ h' g=>by
   rw [fc_ok (fAll1 (d:=.lst d) (h1:=h') rfl),oLen_lst (g.at' d5),List.length_map]; rfl
  obtain⟨e7,h7,q7,kvs,t,z7,he,_⟩:=forG_run (chk:=fun _=>True) (i:=7) (t:=loopB)
   (P:=LpP h5 s w d g f h5.length ps) ((List.range ds.length).map fun (k:Nat)=>D.int k) [some (.lst s),some (.int (w:Int)),some (.lst d),some (.lst g),some (.lst f),some (.bl false),some (.lst h5.length),none] (h5++[.dct []])
   ⟨[],.node [] [],none,rfl,at_new _ _,.app _ _,⟨1,cb_new w⟩,by rw [T.flat_node]; exact DR.nil,by rw [T.flat_node]; exact Nat.le_refl _,rfl⟩ (fun _ _ _ _=>trivial)
   (fun k x e' h' hk p=>by
    obtain⟨hlt,rfl⟩:=range_get hk
    exact loop_step (by lia) (Nat.le_refl _) d5 a5 dy hlt (by lia) p)
  refine⟨h7,?_⟩
  rw [fSeq_nx (e1:=[some (.lst s),some (.int (w:Int)),some (.lst d),some (.lst g),some (.lst f),some (.bl false),none,none]) (h1:=h5) (fTry_nx (fSet_ok (by rw [fcX_ok (ds:=[.int (w:Int),.lst g]) (h1:=h4) rfl,q5])))]
  rw [fSeq_nx (e1:=[some (.lst s),some (.int (w:Int)),some (.lst d),some (.lst g),some (.lst f),some (.bl false),none,none]) (h1:=h5) (by
   rw [fIfS_f (h1:=h5) (notB (b:=true) (fB_ok (by rw [fc_ok (ds:=[.lst g,.lst d]) (h1:=h5) rfl,run_same (g5.at' a4) d5 isd (by rw [List.length_map]; lia)]; rfl)))]
   rfl)]
  rw [fSeq_nx (e1:=[some (.lst s),some (.int (w:Int)),some (.lst d),some (.lst g),some (.lst f),some (.bl false),none,none]) (h1:=h5) (by
   rw [fIfS_f (h1:=h5) (orF (h1:=h5) rfl (fB_ok (b:=false) (by rw [f2_ok (x:=.int (w:Int)) (h1:=h5) rfl (fC_ok (.int 2) _ _),oLt_int,decide_eq_false hw]; rfl)))]
   rfl)]
  rw [fSeq_nx (e1:=[some (.lst s),some (.int (w:Int)),some (.lst d),some (.lst g),some (.lst f),some (.bl false),none,none]) (h1:=h5) (by
   have isl:f1 (oIsi "list") (fV 4) [some (.lst s),some (.int (w:Int)),some (.lst d),some (.lst g),some (.lst f),some (.bl false),none,none] h5=.ok (.bl true) h5:=by
    unfold f1
    rw [fV_ok (d:=.lst f) rfl h5,Res.bind_ok]
    unfold oIsi tyD
    simp only [a5]
    rfl
   rw [fIfS_f (h1:=h5) (orF (h1:=h5) (notB (b:=true) (fB_ok isl)) (fB_ok (b:=false) (by
    rw [f2_ok (x:=.int (ds.length:Int)) (h1:=h5) (by rw [fc_ok (fAll1 (d:=.lst f) (h1:=h5) rfl),oLen_lst a5,List.length_map,dy.len]; rfl) (len2 _ _ h5 (.refl _)),oNe_int,beq_self_eq_true]
    rfl)))]
   rfl)]
  rw [fSeq_nx (e1:=[some (.lst s),some (.int (w:Int)),some (.lst d),some (.lst g),some (.lst f),some (.bl false),some (.lst h5.length),none]) (h1:=h5++[.dct []]) (fSet_ok (d:=.lst h5.length) rfl)]
  rw [fSeq_nx ((fFor_ok (fiRng1_ok (n:=ds.length) (fAll1 (len2 _ _ _ (.app _ _))) (by lia))).trans q7),he]
  rfl
noncomputable def cO (n:Str) (t0 t1 t2:Nat) (l a b c d:Int) (r1:Addr) (i:Int) (r2 r3 r4 r5:Addr) (j l2:Int) (t3:Nat):Obj:=⟨.type "code",none,.fields #[.str n t0,.str n t1,.str "/claim/cut.py" t2,.int l 0,.int a 0,.int b 0,.int c 0,.int d 0,.ref r1,.bool true,.int i 0,.ref r2,.none,.ref r3,.ref r4,.ref r5,.int j 0,.int l2 0,.str "/claim/cut.py" t3],#[]⟩
noncomputable def fO (n:Str) (i:Nat) (dc pm:Value) (c:Addr):Obj:=⟨.type "function",none,.func (PySem.W.fnOf n n (defArgs (top i)) (defBody (top i)) (defScope (top i)) .none .none dc pm none (.ref c) .none),#[]⟩
noncomputable def dE (P:Params) (n:Str) (t:Nat) (v:Value):DictEntry:=⟨PyData.keyHash P n,.str n t,v⟩
noncomputable def dO (a:Array DictEntry) (n:Nat):Obj:=⟨.type "dict",none,.dict a n,#[]⟩
noncomputable def KF (P:Params):PySem.W.Frag:=
 (nat_lit 3,dO #[dE P "__name__" 165 (.str "law_manydrawer_k12_whole_answers" 547),dE P "__doc__" 166 (.none),dE P "__package__" 167 (.none),dE P "__loader__" 168 (.builtin "__main__.__loader__#opaque"),dE P "__spec__" 169 (.none),dE P "__annotations__" 170 (.ref 6),dE P "__builtins__" 171 (.ref 4),dE P "__file__" 173 (.str "/claim/cut.py" 172),dE P "__cached__" 174 (.none),dE P "DrawerError" 206 (.ref 24),dE P "NoCard" 222 (.ref 37),dE P "NoWidth" 238 (.ref 49),dE P "check_width" 247 (.ref 58),dE P "half_of" 254 (.ref 65),dE P "drawer_of" 260 (.ref 70),dE P "spliced" 270 (.ref 77),dE P "place_of" 279 (.ref 84),dE P "is_at" 288 (.ref 91),dE P "note_of" 301 (.ref 98),dE P "rank_of" 307 (.ref 103),dE P "card_with" 319 (.ref 110),dE P "card_at" 327 (.ref 117),dE P "between" 342 (.ref 124),dE P "parted" 357 (.ref 131),dE P "with_under_parted" 370 (.ref 138),dE P "laid_in" 384 (.ref 145),dE P "put_in" 396 (.ref 152),dE P "lent_by_left" 410 (.ref 159),dE P "lent_by_right" 424 (.ref 166),dE P "joined" 437 (.ref 173),dE P "mended" 448 (.ref 180),dE P "with_under_mended" 460 (.ref 187),dE P "last_out" 472 (.ref 194),dE P "taken_from" 488 (.ref 201),dE P "take_out" 498 (.ref 208),dE P "asked" 509 (.ref 215),dE P "done" 519 (.ref 222),dE P "done_or_refused" 528 (.ref 229),dE P "steps" 540 (.ref 236),dE P "answers" 546 (.ref 241),dE P "_law_whole" 555 (.ref 248),dE P "_law_at" 563 (.ref 255),dE P "_law_reach_by" 571 (.ref 262),dE P "_law_far" 579 (.ref 269),dE P "_law_day" 601 (.ref 276),dE P "_law_same" 611 (.ref 283),dE P "_law_mixed_day" 627 (.ref 290),dE P "_law_text_is" 635 (.ref 297),dE P "_law_card_there" 643 (.ref 304),dE P "_law_smaller" 649 (.ref 309),dE P "_law_all_between" 655 (.ref 314),dE P "_law_fits" 664 (.ref 321),dE P "_law_mixed" 670 (.ref 326),dE P "law" 684 (.ref 333)] 54)::
 (nat_lit 23,dO #[dE P "__module__" 196 (.str "manydrawer.errors" 187),dE P "__firstlineno__" 200 (.int 2 199),dE P "__static_attributes__" 201 (.ref 22),dE P "__weakref__" 203 (.ref 25),dE P "__doc__" 204 (.none)] 3)::
 (nat_lit 24,⟨.type "type",none,.cls { name:="DrawerError",bases:=[.type "ValueError"],mro:=[.ref 24,.type "ValueError",.type "Exception",.type "BaseException",.type "object"],ns:=23,qualname:="DrawerError",subclasses:=[.ref 37,.ref 49] },#[some (.ref 15),none,some (.str "DrawerError" 189),some (.str "DrawerError" 197),some (.builtin "ValueError.__new__"),some (.bool true)]⟩)::
 (nat_lit 36,dO #[dE P "__module__" 214 (.str "manydrawer.errors" 187),dE P "__firstlineno__" 218 (.int 4 217),dE P "__static_attributes__" 219 (.ref 35),dE P "__doc__" 220 (.none)] 2)::
 (nat_lit 37,⟨.type "type",none,.cls { name:="NoCard",bases:=[.ref 24],mro:=[.ref 37,.ref 24,.type "ValueError",.type "Exception",.type "BaseException",.type "object"],ns:=36,qualname:="NoCard" },#[some (.ref 28),none,some (.str "NoCard" 207),some (.str "NoCard" 215),some (.builtin "ValueError.__new__"),some (.bool true)]⟩)::
 (nat_lit 48,dO #[dE P "__module__" 230 (.str "manydrawer.errors" 187),dE P "__firstlineno__" 234 (.int 6 233),dE P "__static_attributes__" 235 (.ref 47),dE P "__doc__" 236 (.none)] 2)::
 (nat_lit 49,⟨.type "type",none,.cls { name:="NoWidth",bases:=[.ref 24],mro:=[.ref 49,.ref 24,.type "ValueError",.type "Exception",.type "BaseException",.type "object"],ns:=48,qualname:="NoWidth" },#[some (.ref 40),none,some (.str "NoWidth" 223),some (.str "NoWidth" 231),some (.builtin "ValueError.__new__"),some (.bool true)]⟩)::
 (nat_lit 57,cO "check_width" 241 242 243 9 1 0 0 3 52 181 53 54 55 56 245 9 246)::
 (nat_lit 58,fO "check_width" 5 (.none) (.str "manydrawer.drawers" 239) 57)::
 (nat_lit 64,cO "half_of" 248 249 250 12 1 0 0 3 59 181 60 61 62 63 252 12 253)::
 (nat_lit 65,fO "half_of" 6 (.none) (.str "manydrawer.drawers" 239) 64)::
 (nat_lit 69,{ cls:=.type "code",data:=.fields #[.str "drawer_of" 255,.str "drawer_of" 256,.str "/claim/cut.py" 257,.int 14 0,.int 2 0,.int 0 0,.int 0 0,.int 3 0,.ref 66,.bool true,.int 181 0,.ref 67,.none,.none,.none,.ref 68,.int 258 0,.int 14 0,.str "/claim/cut.py" 259] })::
 (nat_lit 70,fO "drawer_of" 7 (.none) (.str "manydrawer.drawers" 239) 69)::
 (nat_lit 76,cO "spliced" 261 262 263 16 4 0 0 3 71 181 72 73 74 75 268 16 269)::
 (nat_lit 77,fO "spliced" 8 (.none) (.str "manydrawer.drawers" 239) 76)::
 (nat_lit 83,cO "place_of" 271 272 273 18 2 0 0 3 78 181 79 80 81 82 277 18 278)::
 (nat_lit 84,fO "place_of" 9 (.none) (.str "manydrawer.drawers" 239) 83)::
 (nat_lit 90,cO "is_at" 280 281 282 23 3 0 0 3 85 181 86 87 88 89 286 23 287)::
 (nat_lit 91,fO "is_at" 10 (.none) (.str "manydrawer.drawers" 239) 90)::
 (nat_lit 97,cO "note_of" 291 292 293 26 2 0 0 3 92 181 93 94 95 96 299 26 300)::
 (nat_lit 98,fO "note_of" 12 (.none) (.str "manydrawer.asking" 289) 97)::
 (nat_lit 102,{ cls:=.type "code",data:=.fields #[.str "rank_of" 302,.str "rank_of" 303,.str "/claim/cut.py" 304,.int 35 0,.int 2 0,.int 0 0,.int 0 0,.int 3 0,.ref 99,.bool true,.int 181 0,.ref 100,.none,.none,.none,.ref 101,.int 305 0,.int 35 0,.str "/claim/cut.py" 306] })::
 (nat_lit 103,fO "rank_of" 13 (.none) (.str "manydrawer.asking" 289) 102)::
 (nat_lit 109,cO "card_with" 308 309 310 42 2 0 0 3 104 181 105 106 107 108 317 42 318)::
 (nat_lit 110,fO "card_with" 14 (.none) (.str "manydrawer.asking" 289) 109)::
 (nat_lit 116,cO "card_at" 320 321 322 55 2 0 0 3 111 181 112 113 114 115 325 55 326)::
 (nat_lit 117,fO "card_at" 15 (.none) (.str "manydrawer.asking" 289) 116)::
 (nat_lit 123,cO "between" 328 329 330 59 3 0 0 3 118 181 119 120 121 122 340 59 341)::
 (nat_lit 124,fO "between" 16 (.none) (.str "manydrawer.asking" 289) 123)::
 (nat_lit 130,cO "parted" 345 346 347 73 2 0 0 3 125 181 126 127 128 129 355 73 356)::
 (nat_lit 131,fO "parted" 18 (.none) (.str "manydrawer.changing" 343) 130)::
 (nat_lit 137,cO "with_under_parted" 358 359 360 80 4 0 0 3 132 181 133 134 135 136 368 80 369)::
 (nat_lit 138,fO "with_under_parted" 19 (.none) (.str "manydrawer.changing" 343) 137)::
 (nat_lit 144,cO "laid_in" 371 372 373 87 4 0 0 3 139 181 140 141 142 143 382 87 383)::
 (nat_lit 145,fO "laid_in" 20 (.none) (.str "manydrawer.changing" 343) 144)::
 (nat_lit 151,cO "put_in" 385 386 387 97 4 0 0 3 146 181 147 148 149 150 394 97 395)::
 (nat_lit 152,fO "put_in" 21 (.none) (.str "manydrawer.changing" 343) 151)::
 (nat_lit 158,cO "lent_by_left" 397 398 399 103 2 0 0 3 153 181 154 155 156 157 408 103 409)::
 (nat_lit 159,fO "lent_by_left" 22 (.none) (.str "manydrawer.changing" 343) 158)::
 (nat_lit 165,cO "lent_by_right" 411 412 413 111 2 0 0 3 160 181 161 162 163 164 422 111 423)::
 (nat_lit 166,fO "lent_by_right" 23 (.none) (.str "manydrawer.changing" 343) 165)::
 (nat_lit 172,cO "joined" 425 426 427 119 2 0 0 3 167 181 168 169 170 171 435 119 436)::
 (nat_lit 173,fO "joined" 24 (.none) (.str "manydrawer.changing" 343) 172)::
 (nat_lit 179,cO "mended" 438 439 440 126 3 0 0 3 174 181 175 176 177 178 446 126 447)::
 (nat_lit 180,fO "mended" 25 (.none) (.str "manydrawer.changing" 343) 179)::
 (nat_lit 186,cO "with_under_mended" 449 450 451 138 5 0 0 3 181 181 182 183 184 185 458 138 459)::
 (nat_lit 187,fO "with_under_mended" 26 (.none) (.str "manydrawer.changing" 343) 186)::
 (nat_lit 193,cO "last_out" 461 462 463 141 2 0 0 3 188 181 189 190 191 192 470 141 471)::
 (nat_lit 194,fO "last_out" 27 (.none) (.str "manydrawer.changing" 343) 193)::
 (nat_lit 200,cO "taken_from" 473 474 475 149 3 0 0 3 195 181 196 197 198 199 486 149 487)::
 (nat_lit 201,fO "taken_from" 28 (.none) (.str "manydrawer.changing" 343) 200)::
 (nat_lit 207,cO "take_out" 489 490 491 164 3 0 0 3 202 181 203 204 205 206 496 164 497)::
 (nat_lit 208,fO "take_out" 29 (.none) (.str "manydrawer.changing" 343) 207)::
 (nat_lit 214,cO "asked" 501 502 503 170 2 0 0 3 209 181 210 211 212 213 507 170 508)::
 (nat_lit 215,fO "asked" 31 (.none) (.str "manydrawer.day" 499) 214)::
 (nat_lit 221,cO "done" 510 511 512 179 3 0 0 3 216 181 217 218 219 220 517 179 518)::
 (nat_lit 222,fO "done" 32 (.none) (.str "manydrawer.day" 499) 221)::
 (nat_lit 228,cO "done_or_refused" 520 521 522 186 3 0 0 3 223 181 224 225 226 227 526 186 527)::
 (nat_lit 229,fO "done_or_refused" 33 (.none) (.str "manydrawer.day" 499) 228)::
 (nat_lit 235,cO "steps" 529 530 531 191 2 0 0 3 230 181 231 232 233 234 538 191 539)::
 (nat_lit 236,fO "steps" 34 (.none) (.str "manydrawer.day" 499) 235)::
 (nat_lit 240,{ cls:=.type "code",data:=.fields #[.str "answers" 541,.str "answers" 542,.str "/claim/cut.py" 543,.int 200 0,.int 2 0,.int 0 0,.int 0 0,.int 3 0,.ref 237,.bool true,.int 181 0,.ref 238,.none,.none,.none,.ref 239,.int 544 0,.int 200 0,.str "/claim/cut.py" 545] })::
 (nat_lit 241,fO "answers" 35 (.none) (.str "manydrawer.day" 499) 240)::
 (nat_lit 247,cO "_law_whole" 549 550 551 203 1 0 0 3 242 181 243 244 245 246 553 203 554)::
 (nat_lit 248,fO "_law_whole" 37 (.none) (.str "law_manydrawer_k12_whole_answers" 547) 247)::
 (nat_lit 254,cO "_law_at" 556 557 558 205 2 0 0 3 249 181 250 251 252 253 561 205 562)::
 (nat_lit 255,fO "_law_at" 38 (.none) (.str "law_manydrawer_k12_whole_answers" 547) 254)::
 (nat_lit 261,cO "_law_reach_by" 564 565 566 209 1 0 0 3 256 181 257 258 259 260 569 209 570)::
 (nat_lit 262,fO "_law_reach_by" 39 (.none) (.str "law_manydrawer_k12_whole_answers" 547) 261)::
 (nat_lit 268,cO "_law_far" 572 573 574 212 2 0 0 3 263 181 264 265 266 267 577 212 578)::
 (nat_lit 269,fO "_law_far" 40 (.none) (.str "law_manydrawer_k12_whole_answers" 547) 268)::
 (nat_lit 275,cO "_law_day" 580 581 582 218 1 0 0 3 270 181 271 272 273 274 599 218 600)::
 (nat_lit 276,fO "_law_day" 41 (.none) (.str "law_manydrawer_k12_whole_answers" 547) 275)::
 (nat_lit 282,cO "_law_same" 602 603 604 241 2 0 0 3 277 181 278 279 280 281 609 241 610)::
 (nat_lit 283,fO "_law_same" 42 (.none) (.str "law_manydrawer_k12_whole_answers" 547) 282)::
 (nat_lit 289,cO "_law_mixed_day" 612 613 614 253 1 0 0 3 284 181 285 286 287 288 625 253 626)::
 (nat_lit 290,fO "_law_mixed_day" 43 (.none) (.str "law_manydrawer_k12_whole_answers" 547) 289)::
 (nat_lit 296,cO "_law_text_is" 628 629 630 274 2 0 0 3 291 181 292 293 294 295 633 274 634)::
 (nat_lit 297,fO "_law_text_is" 44 (.none) (.str "law_manydrawer_k12_whole_answers" 547) 296)::
 (nat_lit 303,cO "_law_card_there" 636 637 638 278 2 0 0 3 298 181 299 300 301 302 641 278 642)::
 (nat_lit 304,fO "_law_card_there" 45 (.none) (.str "law_manydrawer_k12_whole_answers" 547) 303)::
 (nat_lit 308,{ cls:=.type "code",data:=.fields #[.str "_law_smaller" 644,.str "_law_smaller" 645,.str "/claim/cut.py" 646,.int 284 0,.int 2 0,.int 0 0,.int 0 0,.int 3 0,.ref 305,.bool true,.int 181 0,.ref 306,.none,.none,.none,.ref 307,.int 647 0,.int 284 0,.str "/claim/cut.py" 648] })::
 (nat_lit 309,fO "_law_smaller" 46 (.none) (.str "law_manydrawer_k12_whole_answers" 547) 308)::
 (nat_lit 313,{ cls:=.type "code",data:=.fields #[.str "_law_all_between" 650,.str "_law_all_between" 651,.str "/claim/cut.py" 652,.int 286 0,.int 4 0,.int 0 0,.int 0 0,.int 3 0,.ref 310,.bool true,.int 181 0,.ref 311,.none,.none,.none,.ref 312,.int 653 0,.int 286 0,.str "/claim/cut.py" 654] })::
 (nat_lit 314,fO "_law_all_between" 47 (.none) (.str "law_manydrawer_k12_whole_answers" 547) 313)::
 (nat_lit 320,cO "_law_fits" 656 657 658 300 3 0 0 3 315 181 316 317 318 319 662 300 663)::
 (nat_lit 321,fO "_law_fits" 48 (.none) (.str "law_manydrawer_k12_whole_answers" 547) 320)::
 (nat_lit 325,{ cls:=.type "code",data:=.fields #[.str "_law_mixed" 665,.str "_law_mixed" 666,.str "/claim/cut.py" 667,.int 310 0,.int 1 0,.int 0 0,.int 0 0,.int 3 0,.ref 322,.bool true,.int 181 0,.ref 323,.none,.none,.none,.ref 324,.int 668 0,.int 310 0,.str "/claim/cut.py" 669] })::
 (nat_lit 326,fO "_law_mixed" 49 (.none) (.str "law_manydrawer_k12_whole_answers" 547) 325)::
 (nat_lit 332,cO "law" 671 672 673 312 1 0 0 3 327 181 328 329 330 331 682 312 683)::
 (nat_lit 333,fO "law" 50 (.none) (.str "law_manydrawer_k12_whole_answers" 547) 332)::[]
noncomputable def KA:List Nat:=3::23::24::36::37::48::49::57::58::64::65::69::70::76::77::83::84::90::91::97::98::102::103::109::110::116::117::123::124::130::131::137::138::144::145::151::152::158::159::165::166::172::173::179::180::186::187::193::194::200::201::207::208::214::215::221::222::228::229::235::236::240::241::247::248::254::255::261::262::268::269::275::276::282::283::289::290::296::297::303::304::308::309::313::314::320::321::325::326::332::333::[]
theorem all_mk {l:PySem.W.OpenLaw}{w:World}{K:PySem.W.Frag}{h:Heap}{mg:Str->Option Value}{fa:Addr} (X:K.In h) (G:h.Ns mainGlobals mg) (hfa:mg "law"=some (.ref fa))
  {f42:Addr}{od42 an42:Option Addr}{sl42:Array (Option Value)}{oc42 kV42 dc42 pm42 cd42 ct42:Value}
  {x_NoWidth N_NoWidth:Addr}{nm_NoWidth qn_NoWidth:Str}{bs_NoWidth bm_NoWidth sub_NoWidth:List Value}{hd_NoWidth ab_NoWidth:Bool}{sn_NoWidth:List Str}{col_NoWidth:Option Bool}{dd_NoWidth:Option Addr}{ka_NoWidth kb_NoWidth kc_NoWidth kd_NoWidth ke_NoWidth:Option Value}
  {x_NoCard N_NoCard:Addr}{nm_NoCard qn_NoCard:Str}{bs_NoCard bm_NoCard sub_NoCard:List Value}{hd_NoCard ab_NoCard:Bool}{sn_NoCard:List Str}{col_NoCard:Option Bool}{dd_NoCard:Option Addr}{ka_NoCard kb_NoCard kc_NoCard kd_NoCard ke_NoCard:Option Value}
  (h1:∃ f,FK K "check_width" s_check_width f)
  (h2:∃ f,FK K "half_of" s_half_of f)
  (h3:∃ f,FK K "drawer_of" s_drawer_of f)
  (h4:∃ f,FK K "spliced" s_spliced f)
  (h5:∃ f,FK K "place_of" s_place_of f)
  (h6:∃ f,FK K "is_at" s_is_at f)
  (h7:∃ f,FK K "_law_whole" s__law_whole f)
  (h8:∃ f,FK K "_law_at" s__law_at f)
  (h9:∃ f,FK K "_law_far" s__law_far f)
  (h10:∃ f,FK K "_law_text_is" s__law_text_is f)
  (h11:∃ f,FK K "_law_smaller" s__law_smaller f)
  (h12:∃ f,FK K "_law_mixed" s__law_mixed f)
  (h13:∃ f,FK K "parted" s_parted f)
  (h14:∃ f,FK K "lent_by_left" s_lent_by_left f)
  (h15:∃ f,FK K "lent_by_right" s_lent_by_right f)
  (h16:∃ f,FK K "joined" s_joined f)
  (h17:∃ f,FK K "_law_reach_by" s__law_reach_by f)
  (h18:∃ f,FK K "_law_same" s__law_same f)
  (h19:∃ f,FK K "_law_card_there" s__law_card_there f)
  (h20:∃ f,FK K "with_under_parted" s_with_under_parted f)
  (h21:∃ f,FK K "mended" s_mended f)
  (h22:∃ f,FK K "_law_day" s__law_day f)
  (h23:∃ f,FK K "_law_all_between" s__law_all_between f)
  (h24:∃ f,FK K "with_under_mended" s_with_under_mended f)
  (h25:∃ f,FK K "_law_mixed_day" s__law_mixed_day f)
  (h26:∃ f,FK K "_law_fits" s__law_fits f)
  (h27:∃ f,FK K "card_with" s_card_with f)
  (h28:∃ f,FK K "note_of" s_note_of f)
  (h29:∃ f,FK K "rank_of" s_rank_of f)
  (h30:∃ f,FK K "card_at" s_card_at f)
  (h31:∃ f,FK K "between" s_between f)
  (h32:∃ f,FK K "asked" s_asked f)
  (h33:∃ f,FK K "laid_in" s_laid_in f)
  (h34:∃ f,FK K "put_in" s_put_in f)
  (h35:∃ f,FK K "last_out" s_last_out f)
  (h36:∃ f,FK K "taken_from" s_taken_from f)
  (h37:∃ f,FK K "take_out" s_take_out f)
  (h38:∃ f,FK K "done" s_done f)
  (h39:∃ f,FK K "done_or_refused" s_done_or_refused f)
  (h40:∃ f,FK K "steps" s_steps f)
  (h41:∃ f,FK K "answers" s_answers f)
  (a42:PySem.W.nsIn K mainGlobals "law"=some (some (.ref f42))) (l42:K.lookup f42=some ⟨oc42,od42,.func (PySem.W.fnOf "law" "law" (defArgs s_law) (defBody s_law) (defScope s_law) .none kV42 dc42 pm42 an42 cd42 ct42),sl42⟩) (c42:PySem.W.codeIn K cd42 "law"=true) (k42:PySem.W.keepIn K (.ref f42)=true)
  (qa_NoWidth:PySem.W.nsIn K mainGlobals "NoWidth"=some (some (.ref x_NoWidth))) (ql_NoWidth:K.lookup x_NoWidth=some (excClassObj nm_NoWidth qn_NoWidth x_NoWidth N_NoWidth bs_NoWidth bm_NoWidth hd_NoWidth sn_NoWidth sub_NoWidth ab_NoWidth col_NoWidth dd_NoWidth ka_NoWidth kb_NoWidth kc_NoWidth kd_NoWidth ke_NoWidth "ValueError.__new__")) (qe_NoWidth:PySem.W.excIn K x_NoWidth bmV "ValueError.__new__"=true)
  (qa_NoCard:PySem.W.nsIn K mainGlobals "NoCard"=some (some (.ref x_NoCard))) (ql_NoCard:K.lookup x_NoCard=some (excClassObj nm_NoCard qn_NoCard x_NoCard N_NoCard bs_NoCard bm_NoCard hd_NoCard sn_NoCard sub_NoCard ab_NoCard col_NoCard dd_NoCard ka_NoCard kb_NoCard kc_NoCard kd_NoCard ke_NoCard "ValueError.__new__")) (qe_NoCard:PySem.W.excIn K x_NoCard bmV "ValueError.__new__"=true)
  (z_len:PySem.W.nsIn K mainGlobals "len"=some none)
  (z_sum:PySem.W.nsIn K mainGlobals "sum"=some none)
  (z_min:PySem.W.nsIn K mainGlobals "min"=some none)
  (z_max:PySem.W.nsIn K mainGlobals "max"=some none)
  (z_range:PySem.W.nsIn K mainGlobals "range"=some none)
  (z_tuple:PySem.W.nsIn K mainGlobals "tuple"=some none)
  (z_list:PySem.W.nsIn K mainGlobals "list"=some none)
  (z_int:PySem.W.nsIn K mainGlobals "int"=some none)
  (z_str:PySem.W.nsIn K mainGlobals "str"=some none)
  (z_bool:PySem.W.nsIn K mainGlobals "bool"=some none)
  (z_isinstance:PySem.W.nsIn K mainGlobals "isinstance"=some none):
  ∃ fd:FuncData,(∀ (s:Shared) (v:Value),BindsTo s fd ⟨[v],[]⟩ [("_law_script",v)])/\∀ base:Heap,K.In base->base.Ns mainGlobals mg->FnOk l.prog w K mg base CX0 20 fa fd ["_law_script"] (spD K 1 (fnRun 8 (t_law x_NoWidth (fnRun 1 (t__law_mixed)) (fnRun 2 (t__law_at)) (fnRun 10 (t__law_mixed_day (fnRun 2 (t__law_reach_by (fnRun 2 (t__law_at)))) (fnRun 16 (t__law_day (fnRun 2 (t__law_reach_by (fnRun 2 (t__law_at)))) (fnRun 2 (t__law_at)) (fnRun 2 (t__law_far)))) (fnRun 2 (t__law_far)) (fnRun 2 (t__law_at)))) (fnRunX 2 (t_answers (fnRunX 6 (t_steps (fnRunX 1 (t_check_width x_NoWidth)) (relF R_drawer) (fnRun 3 (t_done_or_refused x_NoCard (fnRunX 4 (t_done (relF (R_note 5)) (relF (R_put 5)) (fnRunX 4 (t_take_out (relX (R_taken x_NoCard 5)))) (fnRunX 3 (t_asked (relF (R_note 5)) (relF (R_rank 5)) (fnRunX 2 (t_card_at x_NoCard (relF (R_with 5)))) (btF 5))))))))))) (fnRun 4 (t__law_same (fnRun 1 (t__law_whole)))) (fnRun 3 (t__law_fits (fnRun 1 (t__law_whole)) (fnRun 2 (t__law_smaller)) (fnRun 2 (t__law_card_there (fnRun 1 (t__law_whole)))) (fnRun 6 (t__law_all_between (fnRun 2 (t__law_card_there (fnRun 1 (t__law_whole)))))) (fnRun 2 (t__law_text_is))))))):=by
 have e:=hfa.symm.trans (PySem.W.mg_of X G a42)
 cases e
 obtain⟨f1,d1,F1,m1⟩:=fk_use X G h1
 have b1:=binds1 (p0:="width") F1 fun _ _ _ _ _ _ _=>rfl
 obtain⟨f2,d2,F2,m2⟩:=fk_use X G h2
 have b2:=binds1 (p0:="width") F2 fun _ _ _ _ _ _ _=>rfl
 obtain⟨f3,d3,F3,m3⟩:=fk_use X G h3
 have b3:=binds2 (p0:="cards") (p1:="below") F3 fun _ _ _ _ _ _ _ _=>rfl
 obtain⟨f4,d4,F4,m4⟩:=fk_use X G h4
 have b4:=binds4 (p0:="row") (p1:="start") (p2:="end") (p3:="parts") F4 fun _ _ _ _ _ _ _ _ _ _=>rfl
 obtain⟨f5,d5,F5,m5⟩:=fk_use X G h5
 have b5:=binds2 (p0:="cards") (p1:="number") F5 fun _ _ _ _ _ _ _ _=>rfl
 obtain⟨f6,d6,F6,m6⟩:=fk_use X G h6
 have b6:=binds3 (p0:="cards") (p1:="place") (p2:="number") F6 fun _ _ _ _ _ _ _ _ _=>rfl
 obtain⟨f7,d7,F7,m7⟩:=fk_use X G h7
 have b7:=binds1 (p0:="_law_found") F7 fun _ _ _ _ _ _ _=>rfl
 obtain⟨f8,d8,F8,m8⟩:=fk_use X G h8
 have b8:=binds2 (p0:="_law_script") (p1:="_law_k") F8 fun _ _ _ _ _ _ _ _=>rfl
 obtain⟨f9,d9,F9,m9⟩:=fk_use X G h9
 have b9:=binds2 (p0:="_law_number") (p1:="_law_step") F9 fun _ _ _ _ _ _ _ _=>rfl
 obtain⟨f10,d10,F10,m10⟩:=fk_use X G h10
 have b10:=binds2 (p0:="_law_found") (p1:="_law_due") F10 fun _ _ _ _ _ _ _ _=>rfl
 obtain⟨f11,d11,F11,m11⟩:=fk_use X G h11
 have b11:=binds2 (p0:="_law_number") (p1:="_law_there") F11 fun _ _ _ _ _ _ _ _=>rfl
 obtain⟨f12,d12,F12,m12⟩:=fk_use X G h12
 have b12:=binds1 (p0:="_law_script") F12 fun _ _ _ _ _ _ _=>rfl
 obtain⟨f13,d13,F13,m13⟩:=fk_use X G h13
 have b13:=binds2 (p0:="width") (p1:="drawer") F13 fun _ _ _ _ _ _ _ _=>rfl
 obtain⟨f14,d14,F14,m14⟩:=fk_use X G h14
 have b14:=binds2 (p0:="drawer") (p1:="place") F14 fun _ _ _ _ _ _ _ _=>rfl
 obtain⟨f15,d15,F15,m15⟩:=fk_use X G h15
 have b15:=binds2 (p0:="drawer") (p1:="place") F15 fun _ _ _ _ _ _ _ _=>rfl
 obtain⟨f16,d16,F16,m16⟩:=fk_use X G h16
 have b16:=binds2 (p0:="drawer") (p1:="place") F16 fun _ _ _ _ _ _ _ _=>rfl
 obtain⟨f17,d17,F17,m17⟩:=fk_use X G h17
 have b17:=binds1 (p0:="_law_script") F17 fun _ _ _ _ _ _ _=>rfl
 obtain⟨f18,d18,F18,m18⟩:=fk_use X G h18
 have b18:=binds2 (p0:="_law_handed") (p1:="_law_deeds") F18 fun _ _ _ _ _ _ _ _=>rfl
 obtain⟨f19,d19,F19,m19⟩:=fk_use X G h19
 have b19:=binds2 (p0:="_law_found") (p1:="_law_there") F19 fun _ _ _ _ _ _ _ _=>rfl
 obtain⟨f20,d20,F20,m20⟩:=fk_use X G h20
 have b20:=binds4 (p0:="width") (p1:="drawer") (p2:="place") (p3:="under") F20 fun _ _ _ _ _ _ _ _ _ _=>rfl
 obtain⟨f21,d21,F21,m21⟩:=fk_use X G h21
 have b21:=binds3 (p0:="width") (p1:="drawer") (p2:="place") F21 fun _ _ _ _ _ _ _ _ _=>rfl
 obtain⟨f22,d22,F22,m22⟩:=fk_use X G h22
 have b22:=binds1 (p0:="_law_script") F22 fun _ _ _ _ _ _ _=>rfl
 obtain⟨f23,d23,F23,m23⟩:=fk_use X G h23
 have b23:=binds4 (p0:="_law_found") (p1:="_law_low") (p2:="_law_high") (p3:="_law_there") F23 fun _ _ _ _ _ _ _ _ _ _=>rfl
 obtain⟨f24,d24,F24,m24⟩:=fk_use X G h24
 have b24:=binds5 (p0:="width") (p1:="cards") (p2:="below") (p3:="place") (p4:="under") F24 fun _ _ _ _ _ _ _ _ _ _ _=>rfl
 obtain⟨f25,d25,F25,m25⟩:=fk_use X G h25
 have b25:=binds1 (p0:="_law_script") F25 fun _ _ _ _ _ _ _=>rfl
 obtain⟨f26,d26,F26,m26⟩:=fk_use X G h26
 have b26:=binds3 (p0:="_law_found") (p1:="_law_deed") (p2:="_law_there") F26 fun _ _ _ _ _ _ _ _ _=>rfl
 obtain⟨f27,d27,F27,m27⟩:=fk_use X G h27
 have b27:=binds2 (p0:="drawer") (p1:="rank") F27 fun _ _ _ _ _ _ _ _=>rfl
 obtain⟨f28,d28,F28,m28⟩:=fk_use X G h28
 have b28:=binds2 (p0:="top") (p1:="number") F28 fun _ _ _ _ _ _ _ _=>rfl
 obtain⟨f29,d29,F29,m29⟩:=fk_use X G h29
 have b29:=binds2 (p0:="top") (p1:="number") F29 fun _ _ _ _ _ _ _ _=>rfl
 obtain⟨f30,d30,F30,m30⟩:=fk_use X G h30
 have b30:=binds2 (p0:="top") (p1:="rank") F30 fun _ _ _ _ _ _ _ _=>rfl
 obtain⟨f31,d31,F31,m31⟩:=fk_use X G h31
 have b31:=binds3 (p0:="top") (p1:="low") (p2:="high") F31 fun _ _ _ _ _ _ _ _ _=>rfl
 obtain⟨f32,d32,F32,m32⟩:=fk_use X G h32
 have b32:=binds2 (p0:="top") (p1:="deed") F32 fun _ _ _ _ _ _ _ _=>rfl
 obtain⟨f33,d33,F33,m33⟩:=fk_use X G h33
 have b33:=binds4 (p0:="width") (p1:="drawer") (p2:="number") (p3:="note") F33 fun _ _ _ _ _ _ _ _ _ _=>rfl
 obtain⟨f34,d34,F34,m34⟩:=fk_use X G h34
 have b34:=binds4 (p0:="width") (p1:="top") (p2:="number") (p3:="note") F34 fun _ _ _ _ _ _ _ _ _ _=>rfl
 obtain⟨f35,d35,F35,m35⟩:=fk_use X G h35
 have b35:=binds2 (p0:="width") (p1:="drawer") F35 fun _ _ _ _ _ _ _ _=>rfl
 obtain⟨f36,d36,F36,m36⟩:=fk_use X G h36
 have b36:=binds3 (p0:="width") (p1:="drawer") (p2:="number") F36 fun _ _ _ _ _ _ _ _ _=>rfl
 obtain⟨f37,d37,F37,m37⟩:=fk_use X G h37
 have b37:=binds3 (p0:="width") (p1:="top") (p2:="number") F37 fun _ _ _ _ _ _ _ _ _=>rfl
 obtain⟨f38,d38,F38,m38⟩:=fk_use X G h38
 have b38:=binds3 (p0:="width") (p1:="top") (p2:="deed") F38 fun _ _ _ _ _ _ _ _ _=>rfl
 obtain⟨f39,d39,F39,m39⟩:=fk_use X G h39
 have b39:=binds3 (p0:="width") (p1:="top") (p2:="deed") F39 fun _ _ _ _ _ _ _ _ _=>rfl
 obtain⟨f40,d40,F40,m40⟩:=fk_use X G h40
 have b40:=binds2 (p0:="width") (p1:="deeds") F40 fun _ _ _ _ _ _ _ _=>rfl
 obtain⟨f41,d41,F41,m41⟩:=fk_use X G h41
 have b41:=binds2 (p0:="width") (p1:="deeds") F41 fun _ _ _ _ _ _ _ _=>rfl
 have F42:=fun_mk (st:=s_law) l42 c42 k42
 have b42:=binds1 (p0:="_law_script") F42 fun _ _ _ _ _ _ _=>rfl
 have B:Bu mg:=⟨PySem.W.mg_none_of X G z_len,PySem.W.mg_none_of X G z_sum,PySem.W.mg_none_of X G z_min,PySem.W.mg_none_of X G z_max,PySem.W.mg_none_of X G z_range,PySem.W.mg_none_of X G z_tuple,PySem.W.mg_none_of X G z_list,PySem.W.mg_none_of X G z_int,PySem.W.mg_none_of X G z_str,PySem.W.mg_none_of X G z_bool,PySem.W.mg_none_of X G z_isinstance⟩
 have e_NoWidth:ExC K x_NoWidth bm_NoWidth:=exC_mk ql_NoWidth qe_NoWidth
 have m_NoWidth:=PySem.W.mg_of X G qa_NoWidth
 have e_NoCard:ExC K x_NoCard bm_NoCard:=exC_mk ql_NoCard qe_NoCard
 have m_NoCard:=PySem.W.mg_of X G qa_NoCard
 refine⟨PySem.W.fnOf "law" "law" (defArgs s_law) (defBody s_law) (defScope s_law) .none kV42 dc42 pm42 an42 cd42 ct42,fun s v=>.of_eq rfl,fun base _ _=>?_⟩
 have C_check_width:CalX l.prog w K mg base 1 "check_width" ["width"] _:=ok_check_width (k:=0) B e_NoWidth m_NoWidth  F1 m1 b1
 have C_half_of:Cal l.prog w K mg base 1 "half_of" ["width"] _:=ok_half_of (k:=0) B  F2 m2 b2
 have C_drawer_of:Cal l.prog w K mg base 1 "drawer_of" ["cards","below"] (relF R_drawer):=(ok_drawer_of (k:=0) B  F3 m3 b3).rel runs_drawer
 have C_spliced:Cal l.prog w K mg base 1 "spliced" ["row","start","end","parts"] (relF R_spliced):=(ok_spliced (k:=0) B  F4 m4 b4).rel runs_spliced
 have C_place_of:Cal l.prog w K mg base 1 "place_of" ["cards","number"] (relF R_place):=(ok_place_of (k:=0) B  F5 m5 b5).rel runs_place
 have C_is_at:Cal l.prog w K mg base 1 "is_at" ["cards","place","number"] _:=ok_is_at (k:=0) B  F6 m6 b6
 have C__law_whole:Cal l.prog w K mg base 1 "_law_whole" ["_law_found"] _:=ok__law_whole (k:=0) B  F7 m7 b7
 have C__law_at:Cal l.prog w K mg base 1 "_law_at" ["_law_script","_law_k"] _:=ok__law_at (k:=0) B  F8 m8 b8
 have C__law_far:Cal l.prog w K mg base 1 "_law_far" ["_law_number","_law_step"] _:=ok__law_far (k:=0) B  F9 m9 b9
 have C__law_text_is:Cal l.prog w K mg base 1 "_law_text_is" ["_law_found","_law_due"] _:=ok__law_text_is (k:=0) B  F10 m10 b10
 have C__law_smaller:Cal l.prog w K mg base 1 "_law_smaller" ["_law_number","_law_there"] _:=ok__law_smaller (k:=0) B  F11 m11 b11
 have C__law_mixed:Cal l.prog w K mg base 1 "_law_mixed" ["_law_script"] _:=ok__law_mixed (k:=0) B  F12 m12 b12
 have C_parted:Cal l.prog w K mg base 2 "parted" ["width","drawer"] (relF R_parted):=(ok_parted (k:=1) B (C_half_of.mono (by decide)) (C_drawer_of.mono (by decide)) F13 m13 b13).rel runs_parted
 have C_lent_by_left:Cal l.prog w K mg base 2 "lent_by_left" ["drawer","place"] (relF R_lentL):=(ok_lent_by_left (k:=1) B (C_drawer_of.mono (by decide)) (C_spliced.mono (by decide)) F14 m14 b14).rel runs_lentL
 have C_lent_by_right:Cal l.prog w K mg base 2 "lent_by_right" ["drawer","place"] (relF R_lentR):=(ok_lent_by_right (k:=1) B (C_drawer_of.mono (by decide)) (C_spliced.mono (by decide)) F15 m15 b15).rel runs_lentR
 have C_joined:Cal l.prog w K mg base 2 "joined" ["drawer","place"] (relF R_join):=(ok_joined (k:=1) B (C_drawer_of.mono (by decide)) (C_spliced.mono (by decide)) F16 m16 b16).rel runs_join
 have C__law_reach_by:Cal l.prog w K mg base 2 "_law_reach_by" ["_law_script"] _:=ok__law_reach_by (k:=1) B (C__law_at.mono (by decide)) F17 m17 b17
 have C__law_same:Cal l.prog w K mg base 2 "_law_same" ["_law_handed","_law_deeds"] _:=ok__law_same (k:=1) B (C__law_whole.mono (by decide)) F18 m18 b18
 have C__law_card_there:Cal l.prog w K mg base 2 "_law_card_there" ["_law_found","_law_there"] _:=ok__law_card_there (k:=1) B (C__law_whole.mono (by decide)) F19 m19 b19
 have C_with_under_parted:Cal l.prog w K mg base 3 "with_under_parted" ["width","drawer","place","under"] (relF R_wup):=(ok_with_under_parted (k:=2) B (C_spliced.mono (by decide)) (C_drawer_of.mono (by decide)) (C_parted.mono (by decide)) F20 m20 b20).rel runs_wup
 have C_mended:Cal l.prog w K mg base 3 "mended" ["width","drawer","place"] (relF R_mended):=(ok_mended (k:=2) B (C_half_of.mono (by decide)) (C_lent_by_left.mono (by decide)) (C_lent_by_right.mono (by decide)) (C_joined.mono (by decide)) F21 m21 b21).rel runs_mended
 have C__law_day:Cal l.prog w K mg base 3 "_law_day" ["_law_script"] _:=ok__law_day (k:=2) B (C__law_reach_by.mono (by decide)) (C__law_at.mono (by decide)) (C__law_far.mono (by decide)) F22 m22 b22
 have C__law_all_between:Cal l.prog w K mg base 3 "_law_all_between" ["_law_found","_law_low","_law_high","_law_there"] _:=ok__law_all_between (k:=2) B (C__law_card_there.mono (by decide)) F23 m23 b23
 have C_with_under_mended:Cal l.prog w K mg base 4 "with_under_mended" ["width","cards","below","place","under"] (relF R_wum):=(ok_with_under_mended (k:=3) B (C_spliced.mono (by decide)) (C_drawer_of.mono (by decide)) (C_mended.mono (by decide)) F24 m24 b24).rel runs_wum
 have C__law_mixed_day:Cal l.prog w K mg base 4 "_law_mixed_day" ["_law_script"] _:=ok__law_mixed_day (k:=3) B (C__law_reach_by.mono (by decide)) (C__law_day.mono (by decide)) (C__law_far.mono (by decide)) (C__law_at.mono (by decide)) F25 m25 b25
 have C__law_fits:Cal l.prog w K mg base 4 "_law_fits" ["_law_found","_law_deed","_law_there"] _:=ok__law_fits (k:=3) B (C__law_whole.mono (by decide)) (C__law_smaller.mono (by decide)) (C__law_card_there.mono (by decide)) (C__law_all_between.mono (by decide)) (C__law_text_is.mono (by decide)) F26 m26 b26
 have C_card_with_0:Cal l.prog w K mg base 0 "card_with" ["drawer","rank"] (relF (R_with 0)):=cal_none F27 m27 b27 R_with0
 have C_card_with_1:Cal l.prog w K mg base 1 "card_with" ["drawer","rank"] (relF (R_with 1)):=(ok_card_with (k:=0) B C_card_with_0 F27 m27 b27).rel (runs_with 0)
 have C_card_with_2:Cal l.prog w K mg base 2 "card_with" ["drawer","rank"] (relF (R_with 2)):=(ok_card_with (k:=1) B C_card_with_1 F27 m27 b27).rel (runs_with 1)
 have C_card_with_3:Cal l.prog w K mg base 3 "card_with" ["drawer","rank"] (relF (R_with 3)):=(ok_card_with (k:=2) B C_card_with_2 F27 m27 b27).rel (runs_with 2)
 have C_card_with_4:Cal l.prog w K mg base 4 "card_with" ["drawer","rank"] (relF (R_with 4)):=(ok_card_with (k:=3) B C_card_with_3 F27 m27 b27).rel (runs_with 3)
 have C_card_with_5:Cal l.prog w K mg base 5 "card_with" ["drawer","rank"] (relF (R_with 5)):=(ok_card_with (k:=4) B C_card_with_4 F27 m27 b27).rel (runs_with 4)
 have C_card_with:=C_card_with_5
 have C_note_of_0:Cal l.prog w K mg base 1 "note_of" ["top","number"] (relF (R_note 0)):=cal_none F28 m28 b28 R_note0
 have C_note_of_1:Cal l.prog w K mg base 2 "note_of" ["top","number"] (relF (R_note 1)):=(ok_note_of (k:=1) B (C_place_of.mono (by decide)) (C_is_at.mono (by decide)) C_note_of_0 F28 m28 b28).rel (runs_note 0)
 have C_note_of_2:Cal l.prog w K mg base 3 "note_of" ["top","number"] (relF (R_note 2)):=(ok_note_of (k:=2) B (C_place_of.mono (by decide)) (C_is_at.mono (by decide)) C_note_of_1 F28 m28 b28).rel (runs_note 1)
 have C_note_of_3:Cal l.prog w K mg base 4 "note_of" ["top","number"] (relF (R_note 3)):=(ok_note_of (k:=3) B (C_place_of.mono (by decide)) (C_is_at.mono (by decide)) C_note_of_2 F28 m28 b28).rel (runs_note 2)
 have C_note_of_4:Cal l.prog w K mg base 5 "note_of" ["top","number"] (relF (R_note 4)):=(ok_note_of (k:=4) B (C_place_of.mono (by decide)) (C_is_at.mono (by decide)) C_note_of_3 F28 m28 b28).rel (runs_note 3)
 have C_note_of_5:Cal l.prog w K mg base 6 "note_of" ["top","number"] (relF (R_note 5)):=(ok_note_of (k:=5) B (C_place_of.mono (by decide)) (C_is_at.mono (by decide)) C_note_of_4 F28 m28 b28).rel (runs_note 4)
 have C_note_of:=C_note_of_5
 have C_rank_of_0:Cal l.prog w K mg base 1 "rank_of" ["top","number"] (relF (R_rank 0)):=cal_none F29 m29 b29 R_rank0
 have C_rank_of_1:Cal l.prog w K mg base 2 "rank_of" ["top","number"] (relF (R_rank 1)):=(ok_rank_of (k:=1) B (C_place_of.mono (by decide)) C_rank_of_0 F29 m29 b29).rel (runs_rank 0)
 have C_rank_of_2:Cal l.prog w K mg base 3 "rank_of" ["top","number"] (relF (R_rank 2)):=(ok_rank_of (k:=2) B (C_place_of.mono (by decide)) C_rank_of_1 F29 m29 b29).rel (runs_rank 1)
 have C_rank_of_3:Cal l.prog w K mg base 4 "rank_of" ["top","number"] (relF (R_rank 3)):=(ok_rank_of (k:=3) B (C_place_of.mono (by decide)) C_rank_of_2 F29 m29 b29).rel (runs_rank 2)
 have C_rank_of_4:Cal l.prog w K mg base 5 "rank_of" ["top","number"] (relF (R_rank 4)):=(ok_rank_of (k:=4) B (C_place_of.mono (by decide)) C_rank_of_3 F29 m29 b29).rel (runs_rank 3)
 have C_rank_of_5:Cal l.prog w K mg base 6 "rank_of" ["top","number"] (relF (R_rank 5)):=(ok_rank_of (k:=5) B (C_place_of.mono (by decide)) C_rank_of_4 F29 m29 b29).rel (runs_rank 4)
 have C_rank_of:=C_rank_of_5
 have C_card_at:CalX l.prog w K mg base 6 "card_at" ["top","rank"] _:=ok_card_at (k:=5) B e_NoCard m_NoCard (C_card_with.mono (by decide)) F30 m30 b30
 have C_between_0:Cal l.prog w K mg base 1 "between" ["top","low","high"] (btF 0):=cal_bad F31 m31 b31
 have C_between_1:Cal l.prog w K mg base 2 "between" ["top","low","high"] (btF 1):=ok_between (k:=1) B (C_place_of.mono (by decide)) C_between_0 F31 m31 b31
 have C_between_2:Cal l.prog w K mg base 3 "between" ["top","low","high"] (btF 2):=ok_between (k:=2) B (C_place_of.mono (by decide)) C_between_1 F31 m31 b31
 have C_between_3:Cal l.prog w K mg base 4 "between" ["top","low","high"] (btF 3):=ok_between (k:=3) B (C_place_of.mono (by decide)) C_between_2 F31 m31 b31
 have C_between_4:Cal l.prog w K mg base 5 "between" ["top","low","high"] (btF 4):=ok_between (k:=4) B (C_place_of.mono (by decide)) C_between_3 F31 m31 b31
 have C_between_5:Cal l.prog w K mg base 6 "between" ["top","low","high"] (btF 5):=ok_between (k:=5) B (C_place_of.mono (by decide)) C_between_4 F31 m31 b31
 have C_between:=C_between_5
 have C_asked:CalX l.prog w K mg base 7 "asked" ["top","deed"] _:=ok_asked (k:=6) B (C_note_of.mono (by decide)) (C_rank_of.mono (by decide)) (C_card_at.mono (by decide)) (C_between.mono (by decide)) F32 m32 b32
 have C_laid_in_0:Cal l.prog w K mg base 3 "laid_in" ["width","drawer","number","note"] (relF (R_laid 0)):=cal_none F33 m33 b33 R_laid0
 have C_laid_in_1:Cal l.prog w K mg base 4 "laid_in" ["width","drawer","number","note"] (relF (R_laid 1)):=(ok_laid_in (k:=3) B (C_place_of.mono (by decide)) (C_is_at.mono (by decide)) (C_spliced.mono (by decide)) (C_drawer_of.mono (by decide)) C_laid_in_0 (C_with_under_parted.mono (by decide)) F33 m33 b33).rel (runs_laid 0)
 have C_laid_in_2:Cal l.prog w K mg base 5 "laid_in" ["width","drawer","number","note"] (relF (R_laid 2)):=(ok_laid_in (k:=4) B (C_place_of.mono (by decide)) (C_is_at.mono (by decide)) (C_spliced.mono (by decide)) (C_drawer_of.mono (by decide)) C_laid_in_1 (C_with_under_parted.mono (by decide)) F33 m33 b33).rel (runs_laid 1)
 have C_laid_in_3:Cal l.prog w K mg base 6 "laid_in" ["width","drawer","number","note"] (relF (R_laid 3)):=(ok_laid_in (k:=5) B (C_place_of.mono (by decide)) (C_is_at.mono (by decide)) (C_spliced.mono (by decide)) (C_drawer_of.mono (by decide)) C_laid_in_2 (C_with_under_parted.mono (by decide)) F33 m33 b33).rel (runs_laid 2)
 have C_laid_in_4:Cal l.prog w K mg base 7 "laid_in" ["width","drawer","number","note"] (relF (R_laid 4)):=(ok_laid_in (k:=6) B (C_place_of.mono (by decide)) (C_is_at.mono (by decide)) (C_spliced.mono (by decide)) (C_drawer_of.mono (by decide)) C_laid_in_3 (C_with_under_parted.mono (by decide)) F33 m33 b33).rel (runs_laid 3)
 have C_laid_in_5:Cal l.prog w K mg base 8 "laid_in" ["width","drawer","number","note"] (relF (R_laid 5)):=(ok_laid_in (k:=7) B (C_place_of.mono (by decide)) (C_is_at.mono (by decide)) (C_spliced.mono (by decide)) (C_drawer_of.mono (by decide)) C_laid_in_4 (C_with_under_parted.mono (by decide)) F33 m33 b33).rel (runs_laid 4)
 have C_laid_in:=C_laid_in_5
 have C_put_in:Cal l.prog w K mg base 9 "put_in" ["width","top","number","note"] (relF (R_put 5)):=(ok_put_in (k:=8) B (C_laid_in.mono (by decide)) (C_parted.mono (by decide)) (C_drawer_of.mono (by decide)) F34 m34 b34).rel (runs_put 5)
 have C_last_out_0:Cal l.prog w K mg base 4 "last_out" ["width","drawer"] (relF (R_last 0)):=cal_none F35 m35 b35 R_last0
 have C_last_out_1:Cal l.prog w K mg base 5 "last_out" ["width","drawer"] (relF (R_last 1)):=(ok_last_out (k:=4) B (C_drawer_of.mono (by decide)) C_last_out_0 (C_with_under_mended.mono (by decide)) F35 m35 b35).rel (runs_last 0)
 have C_last_out_2:Cal l.prog w K mg base 6 "last_out" ["width","drawer"] (relF (R_last 2)):=(ok_last_out (k:=5) B (C_drawer_of.mono (by decide)) C_last_out_1 (C_with_under_mended.mono (by decide)) F35 m35 b35).rel (runs_last 1)
 have C_last_out_3:Cal l.prog w K mg base 7 "last_out" ["width","drawer"] (relF (R_last 3)):=(ok_last_out (k:=6) B (C_drawer_of.mono (by decide)) C_last_out_2 (C_with_under_mended.mono (by decide)) F35 m35 b35).rel (runs_last 2)
 have C_last_out_4:Cal l.prog w K mg base 8 "last_out" ["width","drawer"] (relF (R_last 4)):=(ok_last_out (k:=7) B (C_drawer_of.mono (by decide)) C_last_out_3 (C_with_under_mended.mono (by decide)) F35 m35 b35).rel (runs_last 3)
 have C_last_out_5:Cal l.prog w K mg base 9 "last_out" ["width","drawer"] (relF (R_last 5)):=(ok_last_out (k:=8) B (C_drawer_of.mono (by decide)) C_last_out_4 (C_with_under_mended.mono (by decide)) F35 m35 b35).rel (runs_last 4)
 have C_last_out:=C_last_out_5
 have C_taken_from_0:CalX l.prog w K mg base 9 "taken_from" ["width","drawer","number"] (relX (R_taken x_NoCard 0)):=calX_bad F36 m36 b36 (relX_bad R_taken0)
 have C_taken_from_1:CalX l.prog w K mg base 10 "taken_from" ["width","drawer","number"] (relX (R_taken x_NoCard 1)):=(ok_taken_from (k:=9) B e_NoCard m_NoCard (C_place_of.mono (by decide)) (C_is_at.mono (by decide)) (C_spliced.mono (by decide)) (C_drawer_of.mono (by decide)) C_taken_from_0 (C_with_under_mended.mono (by decide)) (C_last_out.mono (by decide)) F36 m36 b36).rel (runs_taken 0)
 have C_taken_from_2:CalX l.prog w K mg base 11 "taken_from" ["width","drawer","number"] (relX (R_taken x_NoCard 2)):=(ok_taken_from (k:=10) B e_NoCard m_NoCard (C_place_of.mono (by decide)) (C_is_at.mono (by decide)) (C_spliced.mono (by decide)) (C_drawer_of.mono (by decide)) C_taken_from_1 (C_with_under_mended.mono (by decide)) (C_last_out.mono (by decide)) F36 m36 b36).rel (runs_taken 1)
 have C_taken_from_3:CalX l.prog w K mg base 12 "taken_from" ["width","drawer","number"] (relX (R_taken x_NoCard 3)):=(ok_taken_from (k:=11) B e_NoCard m_NoCard (C_place_of.mono (by decide)) (C_is_at.mono (by decide)) (C_spliced.mono (by decide)) (C_drawer_of.mono (by decide)) C_taken_from_2 (C_with_under_mended.mono (by decide)) (C_last_out.mono (by decide)) F36 m36 b36).rel (runs_taken 2)
 have C_taken_from_4:CalX l.prog w K mg base 13 "taken_from" ["width","drawer","number"] (relX (R_taken x_NoCard 4)):=(ok_taken_from (k:=12) B e_NoCard m_NoCard (C_place_of.mono (by decide)) (C_is_at.mono (by decide)) (C_spliced.mono (by decide)) (C_drawer_of.mono (by decide)) C_taken_from_3 (C_with_under_mended.mono (by decide)) (C_last_out.mono (by decide)) F36 m36 b36).rel (runs_taken 3)
 have C_taken_from_5:CalX l.prog w K mg base 14 "taken_from" ["width","drawer","number"] (relX (R_taken x_NoCard 5)):=(ok_taken_from (k:=13) B e_NoCard m_NoCard (C_place_of.mono (by decide)) (C_is_at.mono (by decide)) (C_spliced.mono (by decide)) (C_drawer_of.mono (by decide)) C_taken_from_4 (C_with_under_mended.mono (by decide)) (C_last_out.mono (by decide)) F36 m36 b36).rel (runs_taken 4)
 have C_taken_from:=C_taken_from_5
 have C_take_out:CalX l.prog w K mg base 15 "take_out" ["width","top","number"] _:=ok_take_out (k:=14) B (C_taken_from.mono (by decide)) F37 m37 b37
 have C_done:CalX l.prog w K mg base 16 "done" ["width","top","deed"] _:=ok_done (k:=15) B (C_note_of.mono (by decide)) (C_put_in.mono (by decide)) (C_take_out.mono (by decide)) (C_asked.mono (by decide)) F38 m38 b38
 have C_done_or_refused:Cal l.prog w K mg base 17 "done_or_refused" ["width","top","deed"] _:=ok_done_or_refused (k:=16) B e_NoCard m_NoCard (C_done.mono (by decide)) F39 m39 b39
 have C_steps:CalX l.prog w K mg base 18 "steps" ["width","deeds"] _:=ok_steps (k:=17) B (C_check_width.mono (by decide)) (C_drawer_of.mono (by decide)) (C_done_or_refused.mono (by decide)) F40 m40 b40
 have C_answers:CalX l.prog w K mg base 19 "answers" ["width","deeds"] _:=ok_answers (k:=18) B (C_steps.mono (by decide)) F41 m41 b41
 exact fnok_law (k:=19) B e_NoWidth m_NoWidth (C__law_mixed.mono (by decide)) (C__law_at.mono (by decide)) (C__law_mixed_day.mono (by decide)) (C_answers.mono (by decide)) (C__law_same.mono (by decide)) (C__law_fits.mono (by decide)) F42
theorem walk {x_NoWidth:Addr}{x_NoCard:Addr}{l:PySem.W.OpenLaw}{q:Program}{loose:List Str}{XP:(Str->Option Value)->Heap->Prop}{YP:World->Heap->Prop}{d:DefRec}{K:Params->PySem.W.Frag} (hn:l.most=some 63) (hdf:d.params.defaults=[])
  (hY:∀ (w:World) (h:Heap),YP w h->(K w.params).In h)
  (F:∀ (w:World) (mg:Str->Option Value) (fa:Addr) (h:Heap),(K w.params).In h->h.Ns mainGlobals mg->mg d.name=some (.ref fa)->
   ∃ fd:FuncData,(∀ (s:Shared) (u:Value),BindsTo s fd ⟨[u],[]⟩ [("_law_script",u)])/\∀ base:Heap,(K w.params).In base->base.Ns mainGlobals mg->FnOk l.prog w (K w.params) mg base CX0 20 fa fd ["_law_script"] (spD (K w.params) 1 (fnRun 8 (t_law x_NoWidth (fnRun 1 (t__law_mixed)) (fnRun 2 (t__law_at)) (fnRun 10 (t__law_mixed_day (fnRun 2 (t__law_reach_by (fnRun 2 (t__law_at)))) (fnRun 16 (t__law_day (fnRun 2 (t__law_reach_by (fnRun 2 (t__law_at)))) (fnRun 2 (t__law_at)) (fnRun 2 (t__law_far)))) (fnRun 2 (t__law_far)) (fnRun 2 (t__law_at)))) (fnRunX 2 (t_answers (fnRunX 6 (t_steps (fnRunX 1 (t_check_width x_NoWidth)) (relF R_drawer) (fnRun 3 (t_done_or_refused x_NoCard (fnRunX 4 (t_done (relF (R_note 5)) (relF (R_put 5)) (fnRunX 4 (t_take_out (relX (R_taken x_NoCard 5)))) (fnRunX 3 (t_asked (relF (R_note 5)) (relF (R_rank 5)) (fnRunX 2 (t_card_at x_NoCard (relF (R_with 5)))) (btF 5))))))))))) (fnRun 4 (t__law_same (fnRun 1 (t__law_whole)))) (fnRun 3 (t__law_fits (fnRun 1 (t__law_whole)) (fnRun 2 (t__law_smaller)) (fnRun 2 (t__law_card_there (fnRun 1 (t__law_whole)))) (fnRun 6 (t__law_all_between (fnRun 2 (t__law_card_there (fnRun 1 (t__law_whole)))))) (fnRun 2 (t__law_text_is)))))))):
  PySem.W.WalkO q loose XP YP l.row.toRowW d [] (fun f vs=>PySem.call f vs):=
 L2.walk_of (n:=63) (k:=20) (x:="_law_script") (CX:=fun _=>CX0) (sp:=fun w=>spD (K w.params) 1 (fnRun 8 (t_law x_NoWidth (fnRun 1 (t__law_mixed)) (fnRun 2 (t__law_at)) (fnRun 10 (t__law_mixed_day (fnRun 2 (t__law_reach_by (fnRun 2 (t__law_at)))) (fnRun 16 (t__law_day (fnRun 2 (t__law_reach_by (fnRun 2 (t__law_at)))) (fnRun 2 (t__law_at)) (fnRun 2 (t__law_far)))) (fnRun 2 (t__law_far)) (fnRun 2 (t__law_at)))) (fnRunX 2 (t_answers (fnRunX 6 (t_steps (fnRunX 1 (t_check_width x_NoWidth)) (relF R_drawer) (fnRun 3 (t_done_or_refused x_NoCard (fnRunX 4 (t_done (relF (R_note 5)) (relF (R_put 5)) (fnRunX 4 (t_take_out (relX (R_taken x_NoCard 5)))) (fnRunX 3 (t_asked (relF (R_note 5)) (relF (R_rank 5)) (fnRunX 2 (t_card_at x_NoCard (relF (R_with 5)))) (btF 5))))))))))) (fnRun 4 (t__law_same (fnRun 1 (t__law_whole)))) (fnRun 3 (t__law_fits (fnRun 1 (t__law_whole)) (fnRun 2 (t__law_smaller)) (fnRun 2 (t__law_card_there (fnRun 1 (t__law_whole)))) (fnRun 6 (t__law_all_between (fnRun 2 (t__law_card_there (fnRun 1 (t__law_whole)))))) (fnRun 2 (t__law_text_is))))))) hn (by decide) hdf ⟨rfl,by decide,by decide⟩ hY F (fun w H a ns hl hO hS=>sp_law law_true hl hO hS) fun _ _ _ _ _ z=>z
def KP:PySem.Program:={ PySem.Challenge.pw_manydrawer_k12_whole_answers with main:={ PySem.Challenge.pw_manydrawer_k12_whole_answers.main with body:=top 0::top 1::top 2::top 3::top 4::top 5::top 6::top 7::top 8::top 9::top 10::top 11::top 12::top 13::top 14::top 15::top 16::top 17::top 18::top 19::top 20::top 21::top 22::top 23::top 24::top 25::top 26::top 27::top 28::top 29::top 30::top 31::top 32::top 33::top 34::top 35::top 36::top 37::top 38::top 39::top 40::top 41::top 42::top 43::top 44::top 45::top 46::top 47::top 48::top 49::top 50::[] } }
theorem KP_eq:PySem.Challenge.pw_manydrawer_k12_whole_answers=KP:=by kernel_rfl
def KL:PySem.W.OpenLaw:={ PySem.Challenge.rw_manydrawer_k12_whole_answers with prog:=KP }
theorem KL_eq:PySem.Challenge.rw_manydrawer_k12_whole_answers=KL:=congrArg (fun p=>({ PySem.Challenge.rw_manydrawer_k12_whole_answers with prog:=p }:PySem.W.OpenLaw)) KP_eq
end K12
noncomputable def PySem.W.Fast.tw10770296279832752082:PySem.Program:=PySem.Challenge.pw_manydrawer_k12_whole_answers
theorem PySem.W.Fast.te10770296279832752082:PySem.Challenge.pw_manydrawer_k12_whole_answers=PySem.W.Fast.tw10770296279832752082:=rfl
open PySem PySem.W PyProof.Rows
set_option maxRecDepth 100000 in
set_option maxHeartbeats 0 in
theorem PySem.Challenge.cw_manydrawer_k12_whole_answers_holds : PySem.Challenge.rw_manydrawer_k12_whole_answers.Holds := by
 rw [K12.KL_eq]
 w_on; o_law; o_head (kHook K12.KF K12.KA (fun _=>by kernel_rfl)); (case hw=>w_witness2)
 k_fill
 refine' K12.walk (l:=K12.KL) rfl rfl (fun w h Y=>PySem.W.kIn_of Y) ?F
 case F=>
  intro w mg fa h KX G hmg
  refine' K12.all_mk KX G hmg ?_ ?_ ?_ ?_ ?_ ?_ ?_ ?_ ?_ ?_ ?_ ?_ ?_ ?_ ?_ ?_ ?_ ?_ ?_ ?_ ?_ ?_ ?_ ?_ ?_ ?_ ?_ ?_ ?_ ?_ ?_ ?_ ?_ ?_ ?_ ?_ ?_ ?_ ?_ ?_ ?_ ?a42 ?l42 ?c42 ?k42 ?qa_NoWidth ?ql_NoWidth ?qe_NoWidth ?qa_NoCard ?ql_NoCard ?qe_NoCard ?z_len ?z_sum ?z_min ?z_max ?z_range ?z_tuple ?z_list ?z_int ?z_str ?z_bool ?z_isinstance
  (case a42=>k_is); (case l42=>k_is); (case c42=>k_is); (case k42=>k_is)
  (case qa_NoWidth=>k_is); (case ql_NoWidth=>k_is); (case qe_NoWidth=>k_exc)
  (case qa_NoCard=>k_is); (case ql_NoCard=>k_is); (case qe_NoCard=>k_exc)
  (case z_len=>k_is); (case z_sum=>k_is); (case z_min=>k_is); (case z_max=>k_is); (case z_range=>k_is); (case z_tuple=>k_is); (case z_list=>k_is); (case z_int=>k_is); (case z_str=>k_is); (case z_bool=>k_is); (case z_isinstance=>k_is)
  all_goals (refine' DL.fk_mk ?a ?l ?c ?k; (case a=>k_is); (case l=>k_is); (case c=>k_is); (case k=>k_is))
