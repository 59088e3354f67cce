import PyProof.Rows.All
import Wide.All
import OpenK.AllK
import Wide.FinOn
import Lean
import PyProof.EqAt
import PyProof.EqKinds
import PyProof.TupleCall
import PySem.Challenge.RW_manydrawer_k13_whole_drawers_beside
def zA:=@List.getElem?_eq_getElem
def zB:=@List.getElem?_eq_some_iff
def zC:=@List.length_map
def zD:=@List.mem_of_getElem?
def zE:=@List.getElem?_map
def zF:=@List.getElem?_set_ne
def zG:=@List.mem_cons
def zH:=@List.size_toArray
def zI:=@List.getElem?_set_self
def zJ:=@List.length_append
def zK:=@List.getElem?_append_left
def zL:=@List.getElem?_cons_succ
def zM:=@List.length_take
def zN:=@List.mem_append_right
def zO:=@List.length_cons
def zP:=@List.mem_append
def zQ:=@List.length_drop
def zR:=@List.mem_cons_of_mem
def zS:=@Nat.le_refl
def zT:=@List.length_set
def zU:=@List.getElem?_cons_zero
def zV:=@List.mem_cons_self
def zW:=@List.append_nil
def zX:=@List.mem_append_left
def zY:=@Nat.lt_of_lt_of_le
def zZ:=@Bool.false_ne_true
def yB:=@Option.map_eq_some_iff
def yC:=@List.map_append
def yD:=@List.not_mem_nil
def yE:=@List.map_cons
def yF:=@PySem.Heap.lt_size
def yG:=@List.map_nil
def yH:=@PySem.Heap.get?_push_of_some
def yI:=@List.getElem?_append_right
def yJ:=@List.getD_eq_getElem?_getD
def yL:=@List.mem_iff_getElem?
def yM:=@List.getElem?_eq_none
def yN:=@Option.bind_some
def yO:=@List.mem_of_mem_drop
def yQ:=@List.drop_eq_getElem_cons
def yR:=@List.nodup_append
def yS:=@List.map_drop
def yT:=@List.append_assoc
def yU:=@List.take_append_drop
def yV:=@List.length_singleton
def yW:=@List.mem_map
def yX:=@Nat.le_trans
def yY:=@List.map_take
def yZ:=@List.take_of_length_le
def y7:=@List.mem_of_mem_take
def y8:=@List.length_dropLast
def y9:=@List.cons_append
def xA:=@List.nodup_cons
def xB:=@List.length_range
def xC:=@List.getElem?_concat_length
def xE:=@List.mem_singleton
def xF:=@List.getElem?_take_of_lt
def xG:=@List.length_nil
def xH:=@Nat.lt_irrefl
def xI:=@List.nil_append
def xJ:=@Int.emod_lt_of_pos
def xK:=@PySem.Heap.get?_push_size
def xL:=@Int.emod_nonneg
def xM:=@List.pairwise_cons
def xO:=@List.eq_nil_of_length_eq_zero
def xP:=@List.length_eq_zero_iff
def xQ:=@List.dropLast_concat_getLast
def xR:=@Nat.ne_of_lt
def xS:=@List.set_set
def xT:=@List.map_map
def xU:=@List.getElem?_drop
def xV:=@Nat.zero_le
def xX:=@List.sum_cons
def xY:=@List.getElem?_eraseIdx
set_option Elab.async false
set_option linter.all false
set_option maxRecDepth 100000
namespace L2
open PySem PySem.Spec PyProof.Rows
noncomputable abbrev Key:=Sum Int Str
noncomputable def qoO:Key->Value->Bool
  | .inl k,v=>Value.isInt k v
  | .inr x,v=>Value.isStrOf x v
noncomputable def keyH (w:World):Key->Int
  | .inl k=>hashInt k
  | .inr x=>hashStr w x
theorem qbw:∀ {k:Key}{v:Value},qoO k v=true->(∃ i t,k=Sum.inl i/\v=Value.int i t)\/(∃ x t,k=Sum.inr x/\v=Value.str x t)
  | .inl i,v,h=>by
    obtain⟨t,e⟩:=Value.isInt_shape (k:=i) (v:=v) h
    exact .inl ⟨i,t,rfl,e⟩
  | .inr x,v,h=>by
    obtain⟨t,e⟩:=Value.isStrOf_shape (x:=x) (v:=v) h
    exact .inr ⟨x,t,rfl,e⟩
theorem qoN (a b:Int):decide ((Sum.inl a:Key)=Sum.inl b)=(a==b):=by
  by_cases e:a=b
  · subst e; simp
  · have h:¬ (Sum.inl a:Key)=Sum.inl b:=fun q=>e (Sum.inl.inj q)
    rw [decide_eq_false h]
    exact (beq_eq_false_iff_ne.mpr e).symm
theorem qoK (a b:Str):decide ((Sum.inr a:Key)=Sum.inr b)=decide (a=b):=by
  by_cases e:a=b
  · subst e; simp
  · have h:¬ (Sum.inr a:Key)=Sum.inr b:=fun q=>e (Sum.inr.inj q)
    rw [decide_eq_false h,decide_eq_false e]
theorem qoM (a:Int) (b:Str):decide ((Sum.inl a:Key)=Sum.inr b)=false:=decide_eq_false (fun q=>nomatch q)
theorem qoL (a:Str) (b:Int):decide ((Sum.inr a:Key)=Sum.inl b)=false:=decide_eq_false (fun q=>nomatch q)
noncomputable def qkh (prog:Program) (w:World):PySem.KeyKind prog w Key where
  is:=qoO
  hash:=keyH w
  inj:=fun v a b ha hb=>by
    rcases qbw ha with⟨i,t,rfl,rfl⟩ | ⟨x,t,rfl,rfl⟩
    · rcases qbw hb with⟨j,u,rfl,e⟩ | ⟨y,u,rfl,e⟩
      · injection e with e1 _; rw [e1]
      · exact nomatch e
    · rcases qbw hb with⟨j,u,rfl,e⟩ | ⟨y,u,rfl,e⟩
      · exact nomatch e
      · injection e with e1 _; rw [e1]
  byValue:=fun k v h=>by
    rcases qbw h with⟨i,t,rfl,rfl⟩ | ⟨x,t,rfl,rfl⟩<;>rfl
  pyHash:=fun hv h=>by
    rcases qbw hv with⟨i,t,rfl,rfl⟩ | ⟨x,t,rfl,rfl⟩
    · exact wpAny_pyHash_int h
    · exact wpAny_pyHash_str h
  eqBool:=fun hu hv h=>by
    rcases qbw hu with⟨i,t,rfl,rfl⟩ | ⟨x,t,rfl,rfl⟩
    · rcases qbw hv with⟨j,u,rfl,rfl⟩ | ⟨y,u,rfl,rfl⟩
      · rw [qoN] at h; exact wpAny_eqBool_int h
      · rw [qoM] at h; exact SeqAt.EqAt.int_str i t y u _ _ _ _ h
    · rcases qbw hv with⟨j,u,rfl,rfl⟩ | ⟨y,u,rfl,rfl⟩
      · rw [qoL] at h; exact SeqAt.EqAt.str_int x t j u _ _ _ _ h
      · rw [qoK] at h; exact wpAny_eqBool_str h
  «strs»:=fun k x t v h=>by
    rcases qbw h with⟨i,u,rfl,e⟩ | ⟨y,u,rfl,e⟩
    · exact nomatch e
    · injection e with e1 _
      subst e1
      cases v<;>rfl
end L2
namespace L2
open PySem PySem.Spec PyProof.Rows
inductive V where
  | non | bl (b:Bool) | int (i:Int) | str (x:Str) | byt (b:Array UInt8) | flt (b:UInt64) | ref (a:Addr) | ty (n:String)
  deriving DecidableEq
noncomputable def RelV:V->Value->Prop
  | .non,u=>u=Value.none
  | .bl b,u=>u=Value.bool b
  | .int i,u=>∃ t,u=Value.int i t
  | .str x,u=>∃ t,u=Value.str x t
  | .byt b,u=>∃ t,u=Value.bytes b t
  | .flt b,u=>∃ t,u=Value.float b t
  | .ref a,u=>u=Value.ref a
  | .ty n,u=>u=Value.type n
noncomputable abbrev Vals:List V->List Value->Prop:=Paired RelV
theorem Vals.length {xs:List V}{us:List Value} (r:Vals xs us):xs.length=us.length:=Paired.length r
theorem Vals.get:∀ {xs:List V}{us:List Value}{i:Nat}{x:V},Vals xs us->xs[i]?=some x->∃ u,us[i]?=some u/\RelV x u
  | _,_,_,_,.nil,e=>by simp at e
  | _,_,0,_,.cons r _,e=>by simp at e; subst e; exact⟨_,rfl,r⟩
  | _,_,i+1,x,.cons _ t,e=>by
    obtain⟨u,h1,h2⟩:=Vals.get (i:=i) (x:=x) t (by simpa using e)
    exact⟨u,by simpa using h1,h2⟩
theorem Vals.set {x:V}{u:Value} (r:RelV x u):∀ {xs:List V}{us:List Value} (i:Nat),Vals xs us->Vals (xs.set i x) (us.set i u)
  | _,_,_,.nil=>.nil
  | _,_,0,.cons _ t=>.cons r t
  | _,_,i+1,.cons q t=>.cons q (Vals.set r i t)
theorem Vals.append {xs ys:List V}{us ws:List Value} (h:Vals xs us) (s:Vals ys ws):Vals (xs++ys) (us++ws):=by
  induction h with
  | nil=>exact s
  | cons r t ih=>exact .cons r ih
theorem Vals.take:∀ {xs:List V}{us:List Value} (n:Nat),Vals xs us->Vals (xs.take n) (us.take n)
  | _,_,0,_=>.nil
  | _,_,_+1,.nil=>.nil
  | _,_,n+1,.cons r t=>.cons r (Vals.take n t)
theorem Vals.drop:∀ {xs:List V}{us:List Value} (n:Nat),Vals xs us->Vals (xs.drop n) (us.drop n)
  | _,_,0,r=>r
  | _,_,_+1,.nil=>.nil
  | _,_,n+1,.cons _ t=>Vals.drop n t
noncomputable def RelO:Option V->Option Value->Prop
  | some v,some u=>RelV v u
  | none,none=>True
  | _,_=>False
noncomputable def KV {κ:Type}:List (κ×V)->List (κ×Value)->Prop:=Paired fun (p:κ×V) (q:κ×Value)=>p.1=q.1/\RelV p.2 q.2
noncomputable def kV:Key->V
  | .inl i=>.int i
  | .inr x=>.str x
inductive HO where
  | lst (xs:List V)
  | tup (xs:List V)
  | dK (kvs:List (Key×V)) | dT (kvs:List (List Key×V))
  | set (S:Int->Bool) (n:Nat)
  | ins (C dx:Addr) (fs:List (Str×V))
  | own (x:Addr)
  | xd (fs:List (Str×V))
  | met (f x:Addr)
  | rng (lo hi:Int)
  | frz (o:Obj) (u:HO)
  | tbl (ps:Array Value)
  | ext (φ:Heap->Prop)
noncomputable abbrev Hp:=Addr->Option HO
noncomputable def upd (H:Hp) (a:Addr) (o:HO):Hp:=fun b=>if b=a then some o else H b
theorem qc3 {H:Hp}{a:Addr}{o:HO}:upd H a o a=some o:=by unfold upd; rw [if_pos rfl]
theorem qbO {H:Hp}{a b:Addr}{o:HO} (h:b≠a):upd H a o b=H b:=by unfold upd; rw [if_neg h]
theorem qoF {H:Hp}{a b:Addr}{o u:HO} (h:H a=some o) (h':H b=some u) (d:o≠u):a≠b:=by
  intro e; subst e; rw [h] at h'; exact d (Option.some.inj h')
theorem qbL {H:Hp}{a b:Addr}{o:HO} (h:H a=some o) (h':H b=none):a≠b:=by
  intro e; subst e; rw [h] at h'; cases h'
section
variable (P:Program) (w:World)
noncomputable def ObjOk (H:Hp) (h:Heap) (a:Addr):HO->Prop
  | .lst xs=>xs.length<=sizeLine/\∃ (its:List Value) (n:Nat),Vals xs its/\h.get? a=some { cls:=.type "list",data:=.seq its.toArray n }
  | .tup xs=>xs.length<=sizeLine/\∃ its:List Value,Vals xs its/\IsTup h a its.toArray
  | .dK kvs=>kvs.length<=sizeLine/\(a==sysModules)=false/\∃ vs,KV kvs vs/\h.DictOf (qkh P w) a vs
  | .dT kvs=>kvs.length<=sizeLine/\(a==sysModules)=false/\∃ xs:List (List Key×Addr×Value),
      Paired (fun (p:List Key×V) (q:List Key×Addr×Value)=>p.1=q.1/\H q.2.1=some (.tup (p.1.map kV))/\RelV p.2 q.2.2) kvs xs/\
      ∃ o es ep,h.get? a=some o/\o.ExactDict/\o.data=.dict es ep/\es.toList=xs.map (entryOfKey (tupleKind (qkh P w)))/\(xs.map (·.1)).Nodup
  | .set S n=>h.SetOf (intKind P w) a S n
  | .ins C dx fs=>H dx=some (.own a)/\fs.length<=1000/\dx≠a/\h.get? a=some (PySem.W.instObj C dx)/\
      ∃ mA,h.Ns1 dx mA/\(∀ f,RelO (fs.lookup f) (mA f))/\PySem.Within mA (fs.map (·.1))
  | .own _=>∃ o,h.get? a=some o
  | .xd fs=>∃ mA,h.Ns1 a mA/\∀ f,RelO (fs.lookup f) (mA f)
  | .rng lo hi=>∃ t u v,h.get? a=some { cls:=.type "range",data:=.fields #[.int lo t,.int hi u,.int 1 v] }
  | .frz o u=>h.get? a=some o/\ObjOk H h a u
  | .tbl ps=>h.get? a=some { cls:=.none,data:=.fields ps }
  | .met f x=>h.get? a=some (PySem.W.methodObj (.ref f) (.ref x))
  | .ext φ=>φ h/\(∃ o,h.get? a=some o)/\∀ h1 h2:Heap,φ h1->(∀ o,h1.get? a=some o->h2.get? a=some o)->φ h2
def HOk (H:Hp) (h:Heap):Prop:=∀ a o,H a=some o->ObjOk P w H h a o
end
section
variable {P:Program}{w:World}{H H':Hp}{h h':Heap}{a:Addr}{o:HO}
theorem ObjOk.lt (x:ObjOk P w H h a o):a < h.objs.size:=by
  cases o with
  | lst xs=>obtain⟨_,_,_,_,e⟩:=x; exact yF e
  | tup xs=>obtain⟨_,_,_,p⟩:=x; exact p.lt
  | dK kvs=>obtain⟨_,_,_,_,o,_,_,e,_⟩:=x; exact yF e
  | dT kvs=>obtain⟨_,_,_,_,o,_,_,e,_⟩:=x; exact yF e
  | set S n=>obtain⟨o,_,_,_,e,_⟩:=x; exact yF e
  | ins C dx fs=>obtain⟨_,_,_,e,_⟩:=x; exact yF e
  | own y=>obtain⟨_,e⟩:=x; exact yF e
  | xd fs=>obtain⟨_,⟨_,_,_,e,_⟩,_⟩:=x; exact yF e
  | rng lo hi=>obtain⟨_,_,_,e⟩:=x; exact yF e
  | frz ob u=>obtain⟨e,_⟩:=x; exact yF e
  | tbl ps=>exact yF (show h.get? a=some _ from x)
  | met f y=>exact yF (show h.get? a=some _ from x)
  | ext φ=>obtain⟨_,⟨_,e⟩,_⟩:=x; exact yF e
theorem Paired.mapP {α β:Type}{F G:α->β->Prop}{l₁:List α}{l₂:List β} (h:Paired F l₁ l₂) (f:∀ a b,F a b->G a b):Paired G l₁ l₂:=by
  induction h with
  | nil=>exact .nil
  | cons r t ih=>exact .cons (f _ _ r) ih
theorem ObjOk.stay (x:ObjOk P w H h a o) (k:∀ b u,(b=a\/H b=some (.own a))->h.get? b=some u->h'.get? b=some u)
    (ho:∀ b,H b=some (.own a)->H' b=some (.own a)) (ht:∀ b xs,H b=some (.tup xs)->H' b=some (.tup xs)):ObjOk P w H' h' a o:=by
  induction o with
  | lst xs=>obtain⟨z,its,n,r,e⟩:=x; exact⟨z,its,n,r,k _ _ (.inl rfl) e⟩
  | tup xs=>obtain⟨z,its,r,ob,e,c⟩:=x; exact⟨z,its,r,ob,k _ _ (.inl rfl) e,c⟩
  | dK kvs=>obtain⟨z,y,vs,r,ob,es,ep,e,c⟩:=x; exact⟨z,y,vs,r,ob,es,ep,k _ _ (.inl rfl) e,c⟩
  | dT kvs=>
    obtain⟨z,y,xs,r,ob,es,ep,e,c⟩:=x
    exact⟨z,y,xs,Paired.mapP r fun p q z=>⟨z.1,ht _ _ z.2.1,z.2.2⟩,ob,es,ep,k _ _ (.inl rfl) e,c⟩
  | set S n=>obtain⟨ob,es,ep,t,e,c⟩:=x; exact⟨ob,es,ep,t,k _ _ (.inl rfl) e,c⟩
  | ins C dx fs=>
    obtain⟨d,z,ne,e,mA,⟨od,es,ep,e2,c⟩,r⟩:=x
    exact⟨ho _ d,z,ne,k _ _ (.inl rfl) e,mA,⟨od,es,ep,k _ _ (.inr d) e2,c⟩,r⟩
  | own y=>obtain⟨ob,e⟩:=x; exact⟨ob,k _ _ (.inl rfl) e⟩
  | xd fs=>obtain⟨mA,⟨od,es,ep,e,c⟩,r⟩:=x; exact⟨mA,⟨od,es,ep,k _ _ (.inl rfl) e,c⟩,r⟩
  | rng lo hi=>obtain⟨t,u,v,e⟩:=x; exact⟨t,u,v,k _ _ (.inl rfl) e⟩
  | frz ob u ih=>obtain⟨e,q⟩:=x; exact⟨k _ _ (.inl rfl) e,ih q⟩
  | tbl ps=>
    have e:h.get? a=some { cls:=.none,data:=.fields ps }:=x
    show h'.get? a=some { cls:=.none,data:=.fields ps }
    exact k a _ (.inl rfl) e
  | met f y=>
    have e:h.get? a=some (PySem.W.methodObj (.ref f) (.ref y)):=x
    show h'.get? a=some (PySem.W.methodObj (.ref f) (.ref y))
    exact k a _ (.inl rfl) e
  | ext φ=>obtain⟨p,⟨o,e⟩,st⟩:=x; exact⟨st _ _ p fun o q=>k _ _ (.inl rfl) q,⟨o,k _ _ (.inl rfl) e⟩,st⟩
theorem HOk.lt (x:HOk P w H h) (e:H a=some o):a < h.objs.size:=(x a o e).lt
theorem HOk.fresh (x:HOk P w H h) (e:h.objs.size<=a):H a=none:=by
  cases q:H a with
  | none=>rfl
  | some u=>exact absurd (zY (x.lt q) e) (xH _)
theorem HOk.kept (x:HOk P w H h) (k:∀ b u,h.get? b=some u->h'.get? b=some u):HOk P w H h':=fun a o e=>
  (x a o e).stay (fun b u _ q=>k b u q) (fun _ q=>q) fun _ _ q=>q
theorem HOk.laid (x:HOk P w H h) (k:∀ b u,h.get? b=some u->h'.get? b=some u) (hp:h.objs.size<=a) (new:ObjOk P w (upd H a o) h' a o):HOk P w (upd H a o) h':=fun b u e=>by
  have hn:=x.fresh hp
  by_cases hb:b=a
  · subst hb; rw [qc3] at e; cases e; exact new
  · rw [qbO hb] at e
    exact (x b u e).stay (fun c v _ q=>k c v q) (fun c q=>by rw [qbO (qbL q hn)]; exact q) fun c xs q=>by rw [qbO (qbL q hn)]; exact q
end
def Rd (H:Hp) (a:Addr) (u:HO):Prop:=H a=some u\/∃ o,H a=some (.frz o u)
theorem Rd.ok {P:Program}{w:World}{H:Hp}{h:Heap}{a:Addr}{u:HO} (r:Rd H a u) (x:HOk P w H h):ObjOk P w H h a u:=by
  rcases r with r | ⟨o,r⟩
  · exact x a u r
  · obtain⟨_,q⟩:=x a _ r
    exact q
noncomputable def Mut:Option HO->Prop
  | some (.lst _)=>True
  | some (.dK _)=>True
  | some (.dT _)=>True
  | some (.set _ _)=>True
  | some (.ins _ _ _)=>True
  | some (.ext _)=>True
  | _=>False
section
variable {P:Program}{w:World}{H:Hp}{h h':Heap}{x e:Addr}{o':HO}
theorem HOk.write (ok:HOk P w H h) (mu:Mut (H x)) (he:e=x\/H e=some (.own x)) (k:∀ b u,b≠e->h.get? b=some u->h'.get? b=some u) (heo:∃ u,h'.get? e=some u)
    (new:ObjOk P w (upd H x o') h' x o'):HOk P w (upd H x o') h':=fun b u q=>by
  have nown:∀ c y,H c=some (.own y)->c≠x:=fun c y r z=>by subst z; rw [r] at mu; exact mu
  have ntup:∀ c xs,H c=some (.tup xs)->c≠x:=fun c xs r z=>by subst z; rw [r] at mu; exact mu
  by_cases hb:b=x
  · subst hb; rw [qc3] at q; cases q; exact new
  · rw [qbO hb] at q
    by_cases hbe:b=e
    · have q':H b=some (.own x):=by
        rcases he with z | z
        · exact absurd (hbe.trans z) hb
        · rw [hbe]; exact z
      rw [q] at q'; cases q'
      obtain⟨v,hv⟩:=heo
      exact⟨v,by rw [hbe]; exact hv⟩
    · refine (ok b u q).stay (fun c v hc r=>k c v ?_ r) (fun c r=>by rw [qbO (nown c b r)]; exact r) fun c xs r=>by rw [qbO (ntup c xs r)]; exact r
      rcases hc with rfl | hc
      · exact hbe
      · rintro rfl
        rcases he with z | z
        · exact nown c b hc z
        · rw [hc] at z; cases z; exact hb rfl
end
structure Un (fs ex:List Addr) (H H':Hp) (h h':Heap):Prop where
  keep:∀ b o,h.get? b=some o->H b=none->b∉fs->b∉ex->h'.get? b=some o
  slot:∀ b o,h.get? b=some o->H b=none->b∈fs->b∉ex->∃ sl,h'.get? b=some { o with slots:=sl }
  free:∀ b o,h.get? b=some o->H b=none->b∉ex->H' b=none
  there:∀ b o,h.get? b=some o->b∉ex->∃ o',h'.get? b=some o'
  tups:∀ b xs,H b=some (.tup xs)->H' b=some (.tup xs)
  frzs:∀ b o u,H b=some (.frz o u)->H' b=some (.frz o u)
  tbls:∀ b ps,H b=some (.tbl ps)->∃ more,H' b=some (.tbl (ps++more))
section
variable {fs fs' ex ex':List Addr}{H H1 H2:Hp}{h h1 h2 h':Heap}{a x e:Addr}{o:HO}
theorem Un.any (u:Un fs ex H H1 h h1) {b:Addr}{ob:Obj} (q:h.get? b=some ob) (n:H b=none) (hx:b∉ex):∃ sl,h1.get? b=some { ob with slots:=sl }:=by
  by_cases hb:b∈fs
  · exact u.slot b ob q n hb hx
  · exact⟨ob.slots,u.keep b ob q n hb hx⟩
theorem Un.kept (k:∀ b u,h.get? b=some u->h'.get? b=some u):Un fs ex H H h h':=
  ⟨fun b ob q _ _ _=>k b ob q,fun b ob q _ _ _=>⟨ob.slots,k b ob q⟩,fun _ _ _ n _=>n,fun b ob q _=>⟨ob,k b ob q⟩,fun _ _ q=>q,fun _ _ _ q=>q,fun _ ps q=>⟨#[],by rw [q]; simp⟩⟩
theorem Un.refl:Un fs ex H H h h:=Un.kept fun _ _ q=>q
theorem Un.laid (k:∀ b u,h.get? b=some u->h'.get? b=some u) (hp:h.objs.size<=a) (hn:H a=none):Un fs ex H (upd H a o) h h' where
  keep:=fun b u q _ _ _=>k b u q
  slot:=fun b u q _ _ _=>⟨u.slots,k b u q⟩
  free:=fun b u q n _=>by rw [qbO (xR (zY (yF q) hp))]; exact n
  there:=fun b u q _=>⟨u,k b u q⟩
  tups:=fun b xs q=>by rw [qbO (qbL q hn)]; exact q
  frzs:=fun b u xs q=>by rw [qbO (qbL q hn)]; exact q
  tbls:=fun b ps q=>⟨#[],by rw [qbO (qbL q hn),q]; simp⟩
theorem Un.write (mu:Mut (H x)) (he:e=x\/H e=some (.own x)) (k:∀ b u,b≠e->h.get? b=some u->h'.get? b=some u) (heo:∃ u,h'.get? e=some u):Un fs ex H (upd H x o) h h':=by
  have hx:∀ b,H b=none->b≠x:=fun b n z=>by subst z; rw [n] at mu; exact mu
  have hb:∀ b,H b=none->b≠e:=fun b n z=>by
    subst z
    rcases he with r | r
    · exact hx b n r
    · rw [n] at r; cases r
  have hm:∀ b u,H b=some u->¬ Mut (some u)->b≠x:=fun b u q nm z=>by subst z; rw [q] at mu; exact nm mu
  refine⟨fun b u q n _ _=>k b u (hb b n) q,fun b u q n _ _=>⟨u.slots,k b u (hb b n) q⟩,fun b u q n _=>by rw [qbO (hx b n)]; exact n,fun b u q _=>?_,
    fun b xs q=>by rw [qbO (hm b _ q fun z=>z)]; exact q,fun b u xs q=>by rw [qbO (hm b _ q fun z=>z)]; exact q,fun b ps q=>⟨#[],by rw [qbO (hm b _ q fun z=>z),q]; simp⟩⟩
  by_cases hbe:b=e
  · subst hbe; exact heo
  · exact⟨u,k b u hbe q⟩
end
noncomputable def trk (h:Heap) (H:Hp):List Addr:=(List.range h.objs.size).filter fun a=>(H a).isSome
noncomputable def hidT (h:Heap) (H:Hp):Heap:=PySem.W.hideAll h (trk h H)
theorem qkD (h:Heap) (H:Hp):(hidT h H).objs.size=h.objs.size:=PySem.W.hideAll_size _ _
theorem ql1 {h:Heap}{H:Hp}{b:Addr}{o:Obj} (e:h.get? b=some o) (n:H b=none):(hidT h H).get? b=some o:=
  PySem.W.hideAll_get _ e fun hm=>by
    have q:(H b).isSome=true:=(List.mem_filter.mp hm).2
    rw [n] at q; simp at q
theorem qng {h:Heap}{H:Hp}{b:Addr}{o:Obj} (e:(hidT h H).get? b=some o):h.get? b=some o/\H b=none:=by
  have e':h.get? b=some o:=PySem.W.of_hideAll (trk h H) e
  refine⟨e',?_⟩
  cases q:H b with
  | none=>rfl
  | some x=>
    have hm:b∈trk h H:=List.mem_filter.mpr ⟨List.mem_range.mpr (yF e'),by simp [q]⟩
    have z:(hidT h H).get? b=none:=PySem.W.hideAll_none (trk h H) hm
    rw [z] at e; cases e
noncomputable def qnI (g h:Heap) (L:Addr):List (Addr×Obj):=(List.range h.objs.size).filterMap fun a=>if a=L\/(g.get? a).isSome=true then none else (h.get? a).map fun o=>(a,o)
noncomputable def rest (g h:Heap) (L d:Addr):List (Addr×Obj):=(qnI g h L).filter fun p=>decide (p.1≠d)
end L2
namespace L2
open PySem PySem.Spec PyProof.Rows
structure Mod (K:PySem.W.Frag) (mg:Str->Option Value) (base:Heap):Prop where
  kin:K.In base
  glob:base.Ns mainGlobals mg
  blt:∃ mb,base.Ns builtinsNs mb/\∀ x:Str,x≠"__name__"->mb x=bootBuiltins x
  nolimit:base.NoLimit
structure Cx where
  prog:Program
  w:World
  K:PySem.W.Frag
  mg:Str->Option Value
  base:Heap
  A:Around
  N:List Str
  s₀:Shared
  H₀:Hp
  env:Env
  outer:List Env
  stack:List Env
  ex:List Addr
  fn:Str->Bool
  calm:Bool
  pn:List (Addr×Obj)
  xe:Value->Shared->Prop
noncomputable def frs (l:List Env):List Addr:=l.filterMap (·.frame)
noncomputable abbrev Cx.fs (X:Cx):List Addr:=frs X.outer
def Vis (sc:Scope) (x:Str):Prop:=sc.names.lookup x=some .local\/sc.names.lookup x=some .cell\/sc.names.lookup x=some .free
def Loc (sc:Scope) (x:Str):Prop:=sc.names.lookup x=some .local\/sc.names.lookup x=some .cell
def Look (env:Env) (h:Heap) (m:Str->Option Value) (x:Str) (u:Value):Prop:=
  (env.kindOf x=some .local/\m x=some u)\/((env.kindOf x=some .cell\/env.kindOf x=some .free)/\∃ c,env.cells.lookup x=some c/\h.IsCell c (some u))
structure Cx.Ok (X:Cx):Prop where
  mod:Mod X.K X.mg X.base
  kind:X.env.scope.kind=.function
  glob:X.env.globals=mainGlobals
  blt:X.env.builtins=builtinsNs
  above:X.s₀.heap.objs.size<=X.env.locals
  inj:∀ x y c,X.env.cells.lookup x=some c->X.env.cells.lookup y=some c->x=y
  has:∀ x,(X.env.kindOf x=some .cell\/X.env.kindOf x=some .free)->∃ c,X.env.cells.lookup x=some c
  cab:∀ x c,X.fn x=true->X.env.cells.lookup x=some c->X.s₀.heap.objs.size<=c
  hd:X.calm=true->X.A.handled=none
  frames:X.A.frames=some X.stack
  stk:X.stack=X.outer\/(X.stack=X.env::X.outer/\X.env.frame=some X.env.locals)
  exf:∀ b∈X.ex,b≠X.env.locals/\∀ x c,X.env.cells.lookup x=some c->c≠b
  bs:∀ b o,X.base.get? b=some o->X.s₀.heap.get? b=some o/\X.H₀ b=none
  bsz:X.base.objs.size<=X.s₀.heap.objs.size
  noex:∀ b o,X.base.get? b=some o->b∉X.ex
  exfs:∀ b∈X.ex,b∉X.fs
  funs:X.s₀.heap.FunFrames X.base X.outer
  frf:∀ b∈X.fs,X.H₀ b=none
structure Inv (X:Cx) (pins:List (Addr×Obj)) (σ:List (Option V)) (H:Hp) (s:Shared):Prop where
  ok:X.Ok
  os:s.os=X.s₀.os
  bare:AllBare s.gens
  base:Un X.fs X.ex X.H₀ H X.s₀.heap s.heap
  loc:∃ m,s.heap.Ns X.env.locals m/\∀ (i:Nat) (x:Str) (v:V),X.N[i]?=some x->σ[i]?=some (some v)->Vis X.env.scope x->∃ u,RelV v u/\Look X.env s.heap m x u
  cell:∀ x c,X.env.cells.lookup x=some c->∃ v,s.heap.IsCell c v
  free:H X.env.locals=none
  freeC:∀ x c,X.env.cells.lookup x=some c->H c=none
  pin:∀ p∈X.pn++pins,s.heap.get? p.1=some p.2/\H p.1=none/\p.1≠X.env.locals/\p.1∉X.fs/\∀ v,p.2.data≠.cell v
  hok:HOk X.prog X.w H s.heap
  len:σ.length=X.N.length
section
variable {X:Cx}{pins:List (Addr×Obj)}{σ:List (Option V)}{H H':Hp}{s:Shared}{h':Heap}
theorem Cx.Ok.nofr (ok:X.Ok) {b:Addr}{o:Obj} (e:X.base.get? b=some o):b∉X.fs:=fun hb=>by
  have:=(ok.funs.mem hb).1
  rw [e] at this; cases this
theorem Inv.bs (I:Inv X pins σ H s):∀ b o,X.base.get? b=some o->s.heap.get? b=some o/\H b=none:=fun b o e=>
  ⟨I.base.keep b o (I.ok.bs b o e).1 (I.ok.bs b o e).2 (I.ok.nofr e) (I.ok.noex b o e),I.base.free b o (I.ok.bs b o e).1 (I.ok.bs b o e).2 (I.ok.noex b o e)⟩
theorem Inv.bk (I:Inv X pins σ H s):∀ b o,X.base.get? b=some o->s.heap.get? b=some o:=fun b o e=>(I.bs b o e).1
theorem Inv.mod (I:Inv X pins σ H s):Mod X.K X.mg X.base:=I.ok.mod
theorem Inv.kIn (I:Inv X pins σ H s):X.K.In s.heap:=I.ok.mod.kin.keeps I.bk
theorem Inv.lt (I:Inv X pins σ H s):X.env.locals < s.heap.objs.size:=let ⟨_,hn,_⟩:=I.loc; hn.lt
theorem Inv.sz (I:Inv X pins σ H s):X.s₀.heap.objs.size<=s.heap.objs.size:=yX I.ok.above (Nat.le_of_lt I.lt)
theorem Inv.nofs (I:Inv X pins σ H s) {a:Addr} (h:s.heap.objs.size<=a):a∉X.fs:=fun hb=>by
  obtain⟨_,o,ho,_⟩:=I.ok.funs.mem hb
  exact absurd (zY (yF ho) (yX I.sz h)) (xH _)
theorem Inv.cne (I:Inv X pins σ H s):∀ x c,X.env.cells.lookup x=some c->c≠X.env.locals:=fun x c e z=>by
  obtain⟨v,o,ho,hd⟩:=I.cell x c e
  obtain⟨m,⟨o',es,ep,ho',hd',_⟩,_⟩:=I.loc
  rw [z,ho'] at ho; cases ho; rw [hd'] at hd; cases hd
theorem Inv.funs (I:Inv X pins σ H s):s.heap.FunFrames X.base X.outer:=by
  have all:∀ (l:List Env),(∀ b∈frs l,b∈X.fs)->X.s₀.heap.FunFrames X.base l->s.heap.FunFrames X.base l:=by
    intro l
    induction l with
    | nil=>intro _ _; trivial
    | cons env r ih=>
      intro hs hl
      obtain⟨hk,⟨L,o,hf,hn,ho,hd⟩,hr⟩:=hl
      have hL:L∈X.fs:=hs L (by unfold frs; rw [List.filterMap_cons,hf]; exact zV)
      obtain⟨sl,e⟩:=I.base.slot L o ho (I.ok.frf L hL) hL fun z=>I.ok.exfs L z hL
      exact⟨hk,⟨L,_,hf,hn,e,hd⟩,ih (fun b hb=>hs b (by unfold frs; rw [List.filterMap_cons,hf]; exact zR _ hb)) hr⟩
  exact all X.outer (fun _ hb=>hb) I.ok.funs
theorem Inv.stack (I:Inv X pins σ H s):s.heap.FunFrames X.base X.stack:=by
  rcases I.ok.stk with e | ⟨e,hf⟩
  · rw [e]; exact I.funs
  · rw [e]
    obtain⟨m,hn,_⟩:=I.loc
    refine .cons (by rw [I.ok.kind]; decide) hf hn ?_ I.funs
    exact Heap.get?_none_of_le (yX I.ok.bsz I.ok.above)
theorem Inv.stkSub (I:Inv X pins σ H s):∀ b∈frs X.stack,b∈X.env.locals::X.fs:=fun b hb=>by
  rcases I.ok.stk with e | ⟨e,hf⟩
  · rw [e] at hb; exact zR _ hb
  · rw [e] at hb
    unfold frs at hb
    rw [List.filterMap_cons,hf] at hb
    exact hb
theorem Inv.stkFree (I:Inv X pins σ H s):∀ b∈frs X.stack,H b=none:=fun b hb=>by
  rcases zG.mp (I.stkSub b hb) with e | hb
  · rw [e]; exact I.free
  · obtain⟨_,o,ho,_⟩:=I.ok.funs.mem hb
    exact I.base.free b o ho (I.ok.frf b hb) fun z=>I.ok.exfs b z hb
theorem Inv.step {g':Array GenState}{t':Nat}{d':Drawn}{ch:List Addr} (I:Inv X pins σ H s)
    (hch:∀ b∈ch,(b∈X.ex\/X.s₀.heap.objs.size<=b)/\b≠X.env.locals/\(∀ x c,X.env.cells.lookup x=some c->c≠b)/\∀ p∈X.pn++pins,p.1≠b)
    (keep:∀ b o,b≠X.env.locals->b∉X.fs->b∉ch->s.heap.get? b=some o->H b=none->h'.get? b=some o)
    (slot:∀ b o,b≠X.env.locals->b∈X.fs->b∉ch->s.heap.get? b=some o->H b=none->∃ sl,h'.get? b=some { o with slots:=sl }) (free:∀ b o,b∉ch->s.heap.get? b=some o->H b=none->H' b=none)
    (there:∀ b o,b∉ch->s.heap.get? b=some o->∃ o',h'.get? b=some o')
    (tups:∀ b xs,H b=some (.tup xs)->H' b=some (.tup xs)) (frzs:∀ b o u,H b=some (.frz o u)->H' b=some (.frz o u)) (tbls:∀ b ps,H b=some (.tbl ps)->∃ more,H' b=some (.tbl (ps++more)))
    (ns:∀ m,s.heap.Ns X.env.locals m->h'.Ns X.env.locals m) (hok:HOk X.prog X.w H' h') (hg:AllBare g'):
    Inv X pins σ H' { s with heap:=h',gens:=g',drawn:=d',toks:=t' }:=by
  have neL:∀ b o,X.s₀.heap.get? b=some o->b≠X.env.locals:=fun b o e=>xR (zY (yF e) I.ok.above)
  have neC:∀ b o,X.s₀.heap.get? b=some o->b∉X.ex->b∉ch:=fun b o e hx hb=>by
    rcases (hch b hb).1 with z | z
    · exact hx z
    · exact absurd (zY (yF e) z) (xH _)
  have cellK:∀ x c,X.env.cells.lookup x=some c->∀ v,s.heap.IsCell c v->h'.IsCell c v:=fun x c e v ⟨o,ho,hd⟩=>by
    have nch:c∉ch:=fun z=>(hch c z).2.2.1 x c e rfl
    by_cases hc:c∈X.fs
    · obtain⟨sl,q⟩:=slot c o (I.cne x c e) hc nch ho (I.freeC x c e)
      exact⟨_,q,hd⟩
    · exact⟨o,keep c o (I.cne x c e) hc nch ho (I.freeC x c e),hd⟩
  refine⟨I.ok,I.os,hg,⟨fun b o e n hb hx=>?_,fun b o e n hb hx=>?_,fun b o e n hx=>?_,fun b o e hx=>?_,fun b xs e=>tups b xs (I.base.tups b xs e),fun b o xs e=>frzs b o xs (I.base.frzs b o xs e),fun b ps e=>?_⟩,?_,fun x c e=>?_,?_,fun x c e=>?_,fun p hp=>?_,hok,I.len⟩
  · exact keep b o (neL b o e) hb (neC b o e hx) (I.base.keep b o e n hb hx) (I.base.free b o e n hx)
  · obtain⟨sl,e1⟩:=I.base.slot b o e n hb hx
    obtain⟨sl',e2⟩:=slot b _ (neL b o e) hb (neC b o e hx) e1 (I.base.free b o e n hx)
    exact⟨sl',e2⟩
  · obtain⟨o',e1⟩:=I.base.there b o e hx
    exact free b o' (neC b o e hx) e1 (I.base.free b o e n hx)
  · obtain⟨o',e1⟩:=I.base.there b o e hx
    exact there b o' (neC b o e hx) e1
  · obtain⟨m1,e1⟩:=I.base.tbls b ps e
    obtain⟨m2,e2⟩:=tbls b _ e1
    exact⟨m1++m2,by rw [e2,Array.append_assoc]⟩
  · obtain⟨m,hn,hl⟩:=I.loc
    refine⟨m,ns m hn,fun i x v e1 e2 e3=>?_⟩
    obtain⟨u,r,l⟩:=hl i x v e1 e2 e3
    refine⟨u,r,?_⟩
    rcases l with l | ⟨k,c,e,z⟩
    · exact .inl l
    · exact .inr ⟨k,c,e,cellK x c e _ z⟩
  · obtain⟨v,z⟩:=I.cell x c e
    exact⟨v,cellK x c e v z⟩
  · obtain⟨m,⟨o,_,_,ho,_⟩,_⟩:=I.loc
    exact free _ o (fun z=>(hch _ z).2.1 rfl) ho I.free
  · obtain⟨v,o,ho,hd⟩:=I.cell x c e
    exact free c o (fun z=>(hch c z).2.2.1 x c e rfl) ho (I.freeC x c e)
  · obtain⟨e,n,ne,nf,d⟩:=I.pin p hp
    have nch:p.1∉ch:=fun z=>(hch p.1 z).2.2.2 p hp rfl
    exact⟨keep p.1 p.2 ne nf nch e n,free p.1 p.2 nch e n,ne,nf,d⟩
theorem Inv.un {t':Nat} (I:Inv X pins σ H s) (u:Un X.fs [] H H' s.heap h') (hok:HOk X.prog X.w H' h'):Inv X pins σ H' { s with heap:=h',toks:=t' }:=by
  obtain⟨m,⟨o,es,ep,ho,r⟩,_⟩:=id I.loc
  obtain⟨sl,hL⟩:=u.any ho I.free (by simp)
  exact I.step (g':=s.gens) (d':=s.drawn) (ch:=[]) (fun _ z=>nomatch z) (fun b o _ hb _ e n=>u.keep b o e n hb (by simp)) (fun b o _ hb _ e n=>u.slot b o e n hb (by simp)) (fun b o _ e n=>u.free b o e n (by simp)) (fun b o _ e=>u.there b o e (by simp)) u.tups u.frzs u.tbls (fun m' hm=>by
    obtain⟨o',es',ep',ho',r'⟩:=hm
    rw [ho] at ho'; cases ho'
    exact⟨_,es',ep',hL,r'⟩) hok I.bare
theorem Inv.call {g':Array GenState}{t':Nat}{d':Drawn}{ch:List Addr} (I:Inv X pins σ H s) (u:Un (frs X.stack) ch H H' s.heap h') (hok:HOk X.prog X.w H' h') (hg:AllBare g')
    (hch:∀ b∈ch,(b∈X.ex\/X.s₀.heap.objs.size<=b)/\b≠X.env.locals/\(∀ x c,X.env.cells.lookup x=some c->c≠b)/\∀ p∈X.pn++pins,p.1≠b):
    Inv X pins σ H' { s with heap:=h',gens:=g',drawn:=d',toks:=t' }:=by
  obtain⟨m,⟨o,es,ep,ho,r⟩,_⟩:=id I.loc
  obtain⟨sl,hL⟩:=u.any ho I.free fun z=>(hch _ z).2.1 rfl
  exact I.step (ch:=ch) hch (fun b o hL hb hc e n=>u.keep b o e n (fun z=>(zG.mp (I.stkSub b z)).elim hL hb) hc) (fun b o _ _ hc e n=>u.any e n hc) (fun b o hc e n=>u.free b o e n hc) (fun b o hc e=>u.there b o e hc) u.tups u.frzs u.tbls (fun m' hm=>by
    obtain⟨o',es',ep',ho',r'⟩:=hm
    rw [ho] at ho'; cases ho'
    exact⟨_,es',ep',hL,r'⟩) hok hg
theorem Inv.turned {t':Nat}{it:Addr} (I:Inv X pins σ H s) (k:∀ b o,b≠it->s.heap.get? b=some o->h'.get? b=some o) (hn:H it=none) (hL:it≠X.env.locals)
    (h1:it∈X.ex\/X.s₀.heap.objs.size<=it) (h2:∀ x c,X.env.cells.lookup x=some c->c≠it) (h3:∀ p∈X.pn++pins,p.1≠it):Inv X pins σ H { s with heap:=h',toks:=t' }:=by
  have nit:∀ b u,H b=some u->b≠it:=fun b u e z=>by rw [z,hn] at e; cases e
  refine I.step (g':=s.gens) (d':=s.drawn) (ch:=[it]) (fun b hb=>?_) (fun b o _ _ hc e _=>k b o (fun z=>hc (by simp [z])) e) (fun b o _ _ hc e _=>⟨o.slots,k b o (fun z=>hc (by simp [z])) e⟩) (fun _ _ _ _ n=>n)
    (fun b o hc e=>⟨o,k b o (fun z=>hc (by simp [z])) e⟩) (fun _ _ e=>e) (fun _ _ _ e=>e) (fun b ps e=>⟨#[],by rw [e]; simp⟩) (fun m hm=>?_) (fun b u e=>?_) I.bare
  · have e:b=it:=by simpa using hb
    subst e
    exact⟨h1,hL,h2,h3⟩
  · obtain⟨o,es,ep,ho,r⟩:=hm
    exact⟨o,es,ep,k _ o (Ne.symm hL) ho,r⟩
  · refine (I.hok b u e).stay (fun c v hc q=>k c v ?_ q) (fun _ q=>q) fun _ _ q=>q
    rcases hc with z | z
    · rw [z]; exact nit b u e
    · exact nit c _ z
theorem Inv.tok (I:Inv X pins σ H s) (t:Nat):Inv X pins σ H { s with toks:=t }:=I.un (h':=s.heap) (t':=t) Un.refl I.hok
theorem Inv.kept {t':Nat} (I:Inv X pins σ H s) (k:∀ b u,s.heap.get? b=some u->h'.get? b=some u):Inv X pins σ H { s with heap:=h',toks:=t' }:=I.un (Un.kept k) (I.hok.kept k)
theorem Inv.laid {a:Addr}{o:HO}{t':Nat} (I:Inv X pins σ H s) (k:∀ b u,s.heap.get? b=some u->h'.get? b=some u) (hp:s.heap.objs.size<=a) (new:ObjOk X.prog X.w (upd H a o) h' a o):
    Inv X pins σ (upd H a o) { s with heap:=h',toks:=t' }:=I.un (Un.laid k hp (I.hok.fresh hp)) (I.hok.laid k hp new)
theorem Inv.write {x e:Addr}{o:HO}{t':Nat} (I:Inv X pins σ H s) (mu:Mut (H x)) (he:e=x\/H e=some (.own x)) (k:∀ b u,b≠e->s.heap.get? b=some u->h'.get? b=some u) (heo:∃ u,h'.get? e=some u)
    (new:ObjOk X.prog X.w (upd H x o) h' x o):Inv X pins σ (upd H x o) { s with heap:=h',toks:=t' }:=I.un (Un.write mu he k heo) (I.hok.write mu he k heo new)
theorem Inv.pins_of {pins':List (Addr×Obj)} (I:Inv X pins σ H s) (h:∀ p∈pins',s.heap.get? p.1=some p.2/\H p.1=none/\p.1≠X.env.locals/\p.1∉X.fs/\∀ v,p.2.data≠.cell v):Inv X pins' σ H s:=
  ⟨I.ok,I.os,I.bare,I.base,I.loc,I.cell,I.free,I.freeC,fun p hp=>(zP.mp hp).elim (fun z=>I.pin p (zX _ z)) (h p),I.hok,I.len⟩
theorem qir {N:List Str} (hN:N.Nodup) {i j:Nat}{x:Str} (a:N[i]?=some x) (b:N[j]?=some x):i=j:=by
  obtain⟨h1,e1⟩:=zB.mp a
  obtain⟨h2,e2⟩:=zB.mp b
  exact (List.getElem_inj hN).mp (e1.trans e2.symm)
theorem qjz {M:Model}{A:Around}{E:Value->Shared->Prop}{i:Nat}{x:Str}{v:V}{u:Value}{Q:Unit->Shared->Prop} (I:Inv X pins σ H s) (hN:X.N.Nodup) (hi:X.N[i]?=some x) (hx:Loc X.env.scope x) (r:RelV v u)
    (h:∀ s',Inv X pins (σ.set i (some v)) H s'->(∃ a,Heap.SameBut a s.heap s'.heap/\(a=X.env.locals\/X.env.cells.lookup x=some a))->Q () s') (hf:X.fn x=true\/X.env.scope.names.lookup x=some .local:=by first | exact .inl rfl | exact .inr rfl | assumption):wpAny M A (storeName X.env x u) Q E s:=by
  obtain⟨m,hn,hl⟩:=id I.loc
  have hcls:(X.env.scope.kind==.class||(X.env.scope.kind==.module&&X.env.locals != X.env.globals))=false:=by rw [I.ok.kind]; rfl
  have hiσ:i < σ.length:=by rw [I.len]; exact (zB.mp hi).1
  have cne:=I.cne
  have tracked:∀ {a:Addr}{h':Heap},(∃ o,s.heap.get? a=some o/\H a=none)->Heap.SameBut a s.heap h'->HOk X.prog X.w H h':=fun {a h'} ha hs b ob e=>by
    obtain⟨_,_,hfree⟩:=ha
    refine (I.hok b ob e).stay (fun c w' hc q=>(hs.2 c ?_).trans q) (fun _ q=>q) fun _ _ q=>q
    rintro rfl
    rcases hc with rfl | hc
    · rw [hfree] at e; cases e
    · rw [hfree] at hc; cases hc
  rcases hx with hk | hk
  · refine wpAny_storeName_local hk hn (fun h' hn' hs=>?_) hcls
    obtain⟨oL,_,_,hoL,_⟩:=id hn
    refine h _ ⟨I.ok,I.os,I.bare,⟨fun b o e n hb hx=>?_,fun b o e n hb hx=>?_,I.base.free,fun b o e hx=>?_,I.base.tups,I.base.frzs,I.base.tbls⟩,⟨_,hn',fun j y v' e1 e2 e3=>?_⟩,fun y c e=>?_,I.free,I.freeC,fun p hp=>?_,tracked ⟨oL,hoL,I.free⟩ hs,by simpa using I.len⟩ ⟨_,hs,.inl rfl⟩
    · exact (hs.2 b (xR (zY (yF e) I.ok.above))).trans (I.base.keep b o e n hb hx)
    · obtain⟨sl,e1⟩:=I.base.slot b o e n hb hx
      exact⟨sl,(hs.2 b (xR (zY (yF e) I.ok.above))).trans e1⟩
    · obtain⟨o',e1⟩:=I.base.there b o e hx
      exact⟨o',(hs.2 b (xR (zY (yF e) I.ok.above))).trans e1⟩
    · by_cases hj:j=i
      · subst hj
        rw [hi] at e1; cases e1
        rw [zI hiσ] at e2
        cases e2
        exact⟨u,r,.inl ⟨hk,by simp⟩⟩
      · rw [zF (Ne.symm hj)] at e2
        obtain⟨u',r',q⟩:=hl j y v' e1 e2 e3
        refine⟨u',r',?_⟩
        rcases q with⟨k,e⟩ | ⟨k,c,e,z⟩
        · refine .inl ⟨k,?_⟩
          have:y≠x:=fun e=>hj (qir hN e1 (e▸hi))
          simp [this,e]
        · exact .inr ⟨k,c,e,z.sameBut hs (cne y c e)⟩
    · obtain⟨w',z⟩:=I.cell y c e
      exact⟨w',z.sameBut hs (cne y c e)⟩
    · obtain⟨e,n,ne,nf,d⟩:=I.pin p hp
      exact⟨(hs.2 p.1 ne).trans e,n,ne,nf,d⟩
  · have hfn:X.fn x=true:=by
      rcases hf with z | z
      · exact z
      · rw [z] at hk; cases hk
    obtain⟨c,hc⟩:=I.ok.has x (.inl hk)
    obtain⟨w',z⟩:=I.cell x c hc
    refine wpAny_storeName_cell I.ok.kind hk hc z (fun h' hc' hs=>?_)
    obtain⟨oc,hoc,hocd⟩:=id z
    refine h { s with heap:=h' } ⟨I.ok,I.os,I.bare,⟨fun b o e n hb hx=>?_,fun b o e n hb hx=>?_,I.base.free,fun b o e hx=>?_,I.base.tups,I.base.frzs,I.base.tbls⟩,⟨m,hn.sameBut hs (Ne.symm (cne x c hc)),fun j y v' e1 e2 e3=>?_⟩,fun y c' e=>?_,I.free,I.freeC,fun p hp=>?_,tracked ⟨oc,hoc,I.freeC x c hc⟩ hs,by simpa using I.len⟩ ⟨c,hs,.inr hc⟩
    · exact (hs.2 b (xR (zY (yF e) (I.ok.cab x c hfn hc)))).trans (I.base.keep b o e n hb hx)
    · obtain⟨sl,e1⟩:=I.base.slot b o e n hb hx
      exact⟨sl,(hs.2 b (xR (zY (yF e) (I.ok.cab x c hfn hc)))).trans e1⟩
    · obtain⟨o',e1⟩:=I.base.there b o e hx
      exact⟨o',(hs.2 b (xR (zY (yF e) (I.ok.cab x c hfn hc)))).trans e1⟩
    · by_cases hj:j=i
      · subst hj
        rw [hi] at e1; cases e1
        rw [zI hiσ] at e2
        cases e2
        exact⟨u,r,.inr ⟨.inl hk,c,hc,hc'⟩⟩
      · rw [zF (Ne.symm hj)] at e2
        obtain⟨u',r',q⟩:=hl j y v' e1 e2 e3
        refine⟨u',r',?_⟩
        rcases q with q | ⟨k,c',e,z'⟩
        · exact .inl q
        · refine .inr ⟨k,c',e,z'.sameBut hs ?_⟩
          rintro rfl
          exact hj (qir hN e1 (I.ok.inj _ _ _ e hc▸hi))
    · by_cases hcc:c'=c
      · subst hcc; exact⟨_,hc'⟩
      · obtain⟨w2,z2⟩:=I.cell y c' e
        exact⟨w2,z2.sameBut hs hcc⟩
    · obtain⟨e,n,ne,nf,d⟩:=I.pin p hp
      refine⟨(hs.2 p.1 ?_).trans e,n,ne,nf,d⟩
      intro q
      rw [q,hoc] at e
      have q':oc=p.2:=Option.some.inj e
      exact d w' (by rw [<-q']; exact hocd)
theorem qid {M:Model}{A:Around}{E:Value->Shared->Prop}{i:Nat}{x:Str}{v:V}{u:Value}{Q:Unit->Shared->Prop} (I:Inv X pins σ H s) (hN:X.N.Nodup) (hi:X.N[i]?=some x) (hx:Loc X.env.scope x) (r:RelV v u)
    (h:∀ s',Inv X pins (σ.set i (some v)) H s'->Q () s') (hf:X.fn x=true\/X.env.scope.names.lookup x=some .local:=by first | exact .inl rfl | exact .inr rfl | assumption):wpAny M A (storeName X.env x u) Q E s:=
  qjz I hN hi hx r (fun s' I' _=>h s' I') hf
theorem Inv.call' {s':Shared}{ch:List Addr} (I:Inv X pins σ H s) (ho:s'.os=s.os) (u:Un (frs X.stack) ch H H' s.heap s'.heap) (hok:HOk X.prog X.w H' s'.heap) (hg:AllBare s'.gens)
    (hch:∀ b∈ch,(b∈X.ex\/X.s₀.heap.objs.size<=b)/\b≠X.env.locals/\(∀ x c,X.env.cells.lookup x=some c->c≠b)/\∀ p∈X.pn++pins,p.1≠b):Inv X pins σ H' s':=by
  obtain⟨h',g',d',t',o'⟩:=s'
  have e:o'=s.os:=ho
  subst e
  exact I.call (g':=g') (t':=t') (d':=d') u hok hg hch
end
noncomputable abbrev XK:=Value->Option Addr->Hp->Prop
noncomputable abbrev St:=List (Option V)
noncomputable abbrev VK:=V->Hp->Prop
noncomputable abbrev TE:=St->Hp->VK->Prop
noncomputable abbrev TT:=St->Hp->(Bool->Hp->Prop)->Prop
noncomputable abbrev TA:=St->Hp->(List V->Hp->Prop)->Prop
structure Ends where
  nx:St->Hp->Prop
  rt:VK
  bk:St->Hp->Prop:=fun _ _=>False
  ct:St->Hp->Prop:=fun _ _=>False
noncomputable abbrev TS:=Ends->St->Hp->Prop
def EP (X:Cx) (pins:List (Addr×Obj)) (σ:St) (Q:VK) (u:Value) (s':Shared):Prop:=∃ v H',Inv X pins σ H' s'/\RelV v u/\Q v H'
def TP (X:Cx) (pins:List (Addr×Obj)) (σ:St) (Q:Bool->Hp->Prop) (b:Bool) (s':Shared):Prop:=∃ H',Inv X pins σ H' s'/\Q b H'
def AP (X:Cx) (pins:List (Addr×Obj)) (σ:St) (Q:List V->Hp->Prop) (us:List Value) (s':Shared):Prop:=∃ vs H',Inv X pins σ H' s'/\Vals vs us/\Q vs H'
def SP (X:Cx) (pins:List (Addr×Obj)) (D:Ends) (f:Flow) (s':Shared):Prop:=
  match f with
  | .next=>∃ σ' H',Inv X pins σ' H' s'/\D.nx σ' H'
  | .brk=>∃ σ' H',Inv X pins σ' H' s'/\D.bk σ' H'
  | .cont=>∃ σ' H',Inv X pins σ' H' s'/\D.ct σ' H'
  | .ret u=>∃ v σ' H',Inv X pins σ' H' s'/\RelV v u/\D.rt v H'
def PE (X:Cx) (e:Expr) (t:TE):Prop:=
  ∀ (pins:List (Addr×Obj)) (s:Shared) (σ:St) (H:Hp) (Q:VK),Inv X pins σ H s->t σ H Q->wpAny (model X.prog X.w) X.A (eval e X.env) (EP X pins σ Q) X.xe s
def PT (X:Cx) (e:Expr) (t:TT):Prop:=
  ∀ (pins:List (Addr×Obj)) (s:Shared) (σ:St) (H:Hp) (Q:Bool->Hp->Prop),Inv X pins σ H s->t σ H Q->wpAny (model X.prog X.w) X.A (isTrue e X.env (eval e X.env)) (TP X pins σ Q) X.xe s
def PW (X:Cx) (e:Expr) (t:TT):Prop:=
  ∀ (whole:Sem Value) (pins:List (Addr×Obj)) (s:Shared) (σ:St) (H:Hp) (Q:Bool->Hp->Prop),Inv X pins σ H s->t σ H Q->wpAny (model X.prog X.w) X.A (isTrue e X.env whole) (TP X pins σ Q) X.xe s
theorem PW.pt {X:Cx}{e:Expr}{t:TT} (h:PW X e t):PT X e t:=h _
def PA (X:Cx) (es:List Expr) (t:TA):Prop:=
  ∀ (pos:Pos) (pins:List (Addr×Obj)) (s:Shared) (σ:St) (H:Hp) (Q:List V->Hp->Prop),Inv X pins σ H s->t σ H Q->wpAny (model X.prog X.w) X.A (spliced (backTo pos (starEach es X.env))) (AP X pins σ Q) X.xe s
def PS (X:Cx) (st:Stmt) (t:TS):Prop:=
  ∀ (pins:List (Addr×Obj)) (s:Shared) (σ:St) (H:Hp) (D:Ends),Inv X pins σ H s->t D σ H->wpAny (model X.prog X.w) X.A (exec st X.env) (SP X pins D) X.xe s
def PSs (X:Cx) (st:List Stmt) (t:TS):Prop:=
  ∀ (pins:List (Addr×Obj)) (s:Shared) (σ:St) (H:Hp) (D:Ends),Inv X pins σ H s->t D σ H->wpAny (model X.prog X.w) X.A (execs st X.env) (SP X pins D) X.xe s
theorem thn {α:Type}{t:Sem α}{Q Q':α->Shared->Prop}{M:Model}{A:Around}{E:Value->Shared->Prop}{s:Shared} (h:wpAny M A t Q E s) (hQ:∀ a s,Q a s->Q' a s):wpAny M A t Q' E s:=wpAny_mono h hQ fun _ _ x=>x
end L2
namespace L2
open PySem PySem.Spec PyProof.Rows
section
variable {X:Cx}
theorem bin {a b:Expr}{ta tb:TE} (ha:PE X a ta) (hb:PE X b tb) {pins:List (Addr×Obj)}{s:Shared}{σ:St}{H:Hp}{R:V->V->Hp->Prop} (I:Inv X pins σ H s) (h:ta σ H fun x H1=>tb σ H1 fun y H2=>R x y H2)
    {α:Type}{Q:α->Shared->Prop}{f:Value->Value->Sem α}
    (hf:∀ v u s2 x y H2,Inv X pins σ H2 s2->RelV x v->RelV y u->R x y H2->wpAny (model X.prog X.w) X.A (f v u) Q X.xe s2):
    wpAny (model X.prog X.w) X.A (eval a X.env) (fun v s₁=>wpAny (model X.prog X.w) X.A (eval b X.env) (fun u s₂=>wpAny (model X.prog X.w) X.A (f v u) Q X.xe s₂) X.xe s₁) X.xe s:=by
  refine thn (ha pins s σ H _ I h) fun v s1 q9=>?_
  obtain⟨x,H1,I1,r1,q1⟩:=q9
  refine thn (hb pins s1 σ H1 _ I1 q1) fun u s2 q9=>?_
  obtain⟨y,H2,I2,r2,q2⟩:=q9
  exact hf v u s2 x y H2 I2 r1 r2 q2
noncomputable def tVar (i:Nat):TE:=fun σ H Q=>∃ v,σ[i]?=some (some v)/\Q v H
noncomputable def tC (v:V):TE:=fun _ H Q=>Q v H
theorem qol {i:Nat}{x:Str}{pos:Pos} (hN:X.N[i]?=some x) (hv:Vis X.env.scope x) (hd:(x==("__debug__":Str))=false:=by decide) (hcd:(x==("__classdict__":Str))=false:=by decide):PE X (.Name x pos) (tVar i):=by
  intro pins s σ H Q I h
  obtain⟨v,e,h⟩:=h
  obtain⟨m,hn,hl⟩:=I.loc
  obtain⟨u,r,l⟩:=hl i x v hN e hv
  have fin:EP X pins σ Q u s:=⟨v,H,I,r,h⟩
  rcases l with⟨hk,hm⟩ | ⟨hk,c,hc,hcell⟩
  · exact wpAny_Name (wpAny_loadName_local I.ok.kind hk hn hm fin) hd
  · rcases hk with hk | hk
    · exact wpAny_Name (wpAny_loadName_cell I.ok.kind hk hc hcell fin) hd
    · exact wpAny_Name (wpAny_loadName_free I.ok.kind hk hc hcell fin hcd) hd
theorem qos {i j pos}:PE X (.Constant (.int i) j pos) (tC (.int i)):=fun _ _ _ H _ I h=>wpAny_Constant_int ⟨.int i,H,I.tok _,⟨_,rfl⟩,h⟩
theorem pe_bl {b j pos}:PE X (.Constant (.bool b) j pos) (tC (.bl b)):=fun _ _ _ H _ I h=>Constant_bool ⟨.bl b,H,I,rfl,h⟩
theorem qoq {j pos}:PE X (.Constant .none j pos) (tC .non):=fun _ _ _ H _ I h=>Constant_none ⟨.non,H,I,rfl,h⟩
theorem qon {x j pos}:PE X (.Constant (.str x) j pos) (tC (.str x)):=fun _ _ _ H _ I h=>Calls.Constant_str ⟨.str x,H,I.tok _,⟨_,rfl⟩,h⟩
def Gl (X:Cx) (x:Str):Prop:=X.env.kindOf x=some .globalImplicit
theorem qgu {E:Value->Shared->Prop}{pins:List (Addr×Obj)}{s:Shared}{σ:St}{H:Hp}{x:Str}{u:Value}{pos:Pos}{Q:Value->Shared->Prop} (I:Inv X pins σ H s) (hg:Gl X x) (hm:X.mg x=some u) (h:Q u s)
    (hd:(x==("__debug__":Str))=false:=by decide):wpAny (model X.prog X.w) X.A (eval (.Name x pos) X.env) Q E s:=
  Calls.Name_function_global I.ok.kind hg (Calls.loadGlobal_global (by rw [I.ok.glob]; exact I.mod.glob.keeps I.bk) hm h) hd
theorem qhk {E:Value->Shared->Prop}{pins:List (Addr×Obj)}{s:Shared}{σ:St}{H:Hp}{x:Str}{u:Value}{pos:Pos}{Q:Value->Shared->Prop} (I:Inv X pins σ H s) (hg:Gl X x) (hm:X.mg x=none) (hv:bootBuiltins x=some u) (h:Q u s)
    (hn:x≠"__name__":=by decide) (hd:(x==("__debug__":Str))=false:=by decide):wpAny (model X.prog X.w) X.A (eval (.Name x pos) X.env) Q E s:=by
  obtain⟨mb,h1,h2⟩:=I.mod.blt
  exact Calls.Name_function_global I.ok.kind hg (Calls.loadGlobal_builtin (by rw [I.ok.glob]; exact I.mod.glob.keeps I.bk) hm (by rw [I.ok.blt]; exact h1.keeps I.bk) ((h2 x hn).trans hv) h) hd
theorem qm7 {x:Str}{v:V}{u:Value}{pos:Pos} (hg:Gl X x) (hm:X.mg x=none) (hv:bootBuiltins x=some u) (r:RelV v u) (hn:x≠"__name__":=by decide) (hd:(x==("__debug__":Str))=false:=by decide):PE X (.Name x pos) (tC v):=
  fun _ _ _ H _ I h=>qhk I hg hm hv ⟨v,H,I,r,h⟩ hn hd
noncomputable def t2I (ta tb:TE) (k:Int->Int->Hp->Prop):St->Hp->Prop:=fun σ H=>ta σ H fun x H1=>tb σ H1 fun y H2=>∃ i j,x=.int i/\y=.int j/\k i j H2
noncomputable def tAdd (ta tb:TE):TE:=fun σ H Q=>t2I ta tb (fun i j H2=>Q (.int (i+j)) H2) σ H
noncomputable def tSub (ta tb:TE):TE:=fun σ H Q=>t2I ta tb (fun i j H2=>Q (.int (i - j)) H2) σ H
noncomputable def tMul (ta tb:TE):TE:=fun σ H Q=>t2I ta tb (fun i j H2=>(-(2 ^ 64) < i/\i < 2 ^ 64)/\Q (.int (i*j)) H2) σ H
variable {a b:Expr}{ta tb:TE}{pos:Pos}
def PC (X:Cx) (op:CmpOp) (a b:Expr) (t:TE):Prop:=
  ∀ (pins:List (Addr×Obj)) (s:Shared) (σ:St) (H:Hp) (Q:VK),Inv X pins σ H s->t σ H Q->
    wpAny (model X.prog X.w) X.A (eval a X.env) (fun v s₁=>wpAny (model X.prog X.w) X.A (eval b X.env) (fun u s₂=>wpAny (model X.prog X.w) X.A (compareOp op v u) (EP X pins σ Q) X.xe s₂) X.xe s₁) X.xe s
noncomputable def tCmp (p:Int->Int->Bool) (ta tb:TE):TE:=fun σ H Q=>t2I ta tb (fun i j H2=>Q (.bl (p i j)) H2) σ H
noncomputable abbrev tLt:TE->TE->TE:=tCmp fun i j=>decide (i < j)
noncomputable abbrev tLe:TE->TE->TE:=tCmp fun i j=>decide (i<=j)
noncomputable abbrev tGt:TE->TE->TE:=tCmp fun i j=>decide (j < i)
noncomputable abbrev tGe:TE->TE->TE:=tCmp fun i j=>decide (j<=i)
noncomputable abbrev tEqI:TE->TE->TE:=tCmp fun i j=>decide (i=j)
noncomputable abbrev tNeI:TE->TE->TE:=tCmp fun i j=>!decide (i=j)
noncomputable def tIsN (ta:TE):TE:=fun σ H Q=>ta σ H fun x H1=>Q (.bl (decide (x=.non))) H1
noncomputable def tNotN (ta:TE):TE:=fun σ H Q=>ta σ H fun x H1=>Q (.bl (!decide (x=.non))) H1
noncomputable def tB (t:TE):TT:=fun σ H Q=>t σ H fun x H1=>∃ c,x=.bl c/\Q c H1
theorem pt_cmp {op:CmpOp}{t:TE} (h:PC X op a b t) (h1:behindInMarks op b=false:=by first | exact nobehind _ (by decide) (by decide) | rfl):PT X (.Compare a [op] [b] pos) (tB t):=by
  intro pins s σ H Q I hw
  refine wpAny_isTrue_Compare1 (thn (h pins s σ H _ I hw) fun v s1 h1=>thn h1 fun u s2 h2=>thn h2 fun c s3 q9=>?_) h1
  obtain⟨x,H1,I1,r1,q1⟩:=q9
  obtain⟨d,rfl,q⟩:=q1
  cases r1
  exact wpAny_truthy_bool ⟨H1,I1,q⟩
theorem qob {e:Expr}{t:TE} (h:PE X e t) (he:∀ whole,isTrue e X.env whole=(do let v <-whole; standAt e.pos; holding [v] (truthy v)):=by intro _; rfl):PT X e (tB t):=by
  intro pins s σ H Q I hw
  refine isTrue_plain (thn (h pins s σ H _ I hw) fun v s1 q9=>?_) (he _)
  obtain⟨x,H1,I1,r1,q1⟩:=q9
  obtain⟨d,rfl,q⟩:=q1
  cases r1
  exact wpAny_truthy_bool ⟨H1,I1,q⟩
variable {tA tB':TT}{rest:List Expr}
noncomputable def tAnd (t u:TT):TT:=fun σ H Q=>t σ H fun c H1=>if c=true then u σ H1 Q else Q false H1
noncomputable def tOr (t u:TT):TT:=fun σ H Q=>t σ H fun c H1=>if c=true then Q true H1 else u σ H1 Q
noncomputable def tNot (t:TT):TT:=fun σ H Q=>t σ H fun c H1=>Q (!c) H1
theorem qmV (ha:PT X a tA):PW X (.BoolOp .And [a] pos) tA:=by
  intro wh pins s σ H Q I h
  refine isTrue_and (thn (ha pins s σ H Q I h) fun c s1 e=>?_)
  cases c with
  | true=>exact isTrue_and_nil e
  | false=>exact e
theorem qn8 (ha:PT X a tA):PW X (.BoolOp .Or [a] pos) tA:=by
  intro wh pins s σ H Q I h
  refine isTrue_or (thn (ha pins s σ H Q I h) fun c s1 e=>?_)
  cases c with
  | false=>exact isTrue_or_nil e
  | true=>exact e
theorem qn9 (ha:PT X a tA) (hb:PW X (.BoolOp .And (b::rest) pos) tB'):PW X (.BoolOp .And (a::b::rest) pos) (tAnd tA tB'):=by
  intro wh pins s σ H Q I h
  refine isTrue_and (thn (ha pins s σ H _ I h) fun c s1 q9=>?_)
  obtain⟨H1,I1,q1⟩:=q9
  cases c with
  | true=>exact hb wh pins s1 σ H1 Q I1 q1
  | false=>exact⟨H1,I1,q1⟩
theorem pw_or (ha:PT X a tA) (hb:PW X (.BoolOp .Or (b::rest) pos) tB'):PW X (.BoolOp .Or (a::b::rest) pos) (tOr tA tB'):=by
  intro wh pins s σ H Q I h
  refine isTrue_or (thn (ha pins s σ H _ I h) fun c s1 q9=>?_)
  obtain⟨H1,I1,q1⟩:=q9
  cases c with
  | true=>exact⟨H1,I1,q1⟩
  | false=>exact hb wh pins s1 σ H1 Q I1 q1
theorem qoc (ha:PT X a tA):PT X (.UnaryOp .Not a pos) (tNot tA):=by
  intro pins s σ H Q I h
  exact isTrue_not (ha pins s σ H (fun c H1=>Q (!c) H1) I h)
noncomputable def tAndV (ta tb:TE):TE:=fun σ H Q=>ta σ H fun x H1=>∃ c,x=.bl c/\if c=true then tb σ H1 Q else Q (.bl false) H1
noncomputable def tOrV (ta tb:TE):TE:=fun σ H Q=>ta σ H fun x H1=>∃ c,x=.bl c/\if c=true then Q (.bl true) H1 else tb σ H1 Q
noncomputable def tNotV (ta:TE):TE:=fun σ H Q=>ta σ H fun x H1=>∃ c,x=.bl c/\Q (.bl (!c)) H1
theorem qoo {op}{t:TE} (h:PE X a t):PE X (.BoolOp op [a] pos) t:=fun pins s σ H Q I hw=>BoolOp_one (h pins s σ H Q I hw)
theorem qou (ha:PE X a ta) (hb:PE X (.BoolOp .And (b::rest) pos) tb):PE X (.BoolOp .And (a::b::rest) pos) (tAndV ta tb):=by
  intro pins s σ H Q I h
  refine BoolOp_and (thn (ha pins s σ H _ I h) fun v s1 q9=>?_)
  obtain⟨x,H1,I1,r1,q1⟩:=q9
  obtain⟨c,rfl,q1⟩:=q1
  cases r1
  refine wpAny_truthy_bool ?_
  cases c with
  | true=>exact hb pins s1 σ H1 Q I1 q1
  | false=>exact⟨.bl false,H1,I1,rfl,q1⟩
theorem qop (ha:PE X a ta):PE X (.UnaryOp .Not a pos) (tNotV ta):=by
  intro pins s σ H Q I h
  refine UnaryOp_ (thn (ha pins s σ H _ I h) fun v s1 q9=>?_)
  obtain⟨x,H1,I1,r1,q1⟩:=q9
  obtain⟨c,rfl,q1⟩:=q1
  cases r1
  exact not_of (wpAny_truthy_bool ⟨.bl (!c),H1,I1,rfl,q1⟩)
noncomputable def tIf (t:TT) (ta tb:TE):TE:=fun σ H Q=>t σ H fun c H1=>if c=true then ta σ H1 Q else tb σ H1 Q
end
end L2
namespace L2
open PySem PySem.Spec PyProof.Rows
def SqL (K:PySem.W.Frag) (H:Hp) (a:Addr) (xs:List V):Prop:=
  Rd H a (.lst xs)\/
    ∃ (o:Obj) (its:Array Value) (n:Nat),K.lookup a=some o/\o.cls=.type "list"/\o.dict=none/\o.data=.seq its n/\its.size<=sizeLine/\Vals xs its.toList
def SqT (K:PySem.W.Frag) (H:Hp) (a:Addr) (xs:List V):Prop:=
  Rd H a (.tup xs)\/
    ∃ (o:Obj) (its:Array Value) (n:Nat),K.lookup a=some o/\o.cls=.type "tuple"/\o.data=.seq its n/\its.size<=sizeLine/\Vals xs its.toList
noncomputable def absV:Value->Option V
  | .none=>some .non
  | .bool b=>some (.bl b)
  | .int i _=>some (.int i)
  | .str x _=>some (.str x)
  | .bytes b _=>some (.byt b)
  | .float b _=>some (.flt b)
  | .ref a=>some (.ref a)
  | .type n=>some (.ty n)
  | _=>none
theorem RelV.abs {x:V}{u:Value} (r:RelV x u):absV u=some x:=by
  cases x with
  | non=>cases r; rfl
  | bl _=>cases r; rfl
  | int _=>obtain⟨t,rfl⟩:=r; rfl
  | str _=>obtain⟨t,rfl⟩:=r; rfl
  | byt _=>obtain⟨t,rfl⟩:=r; rfl
  | flt _=>obtain⟨t,rfl⟩:=r; rfl
  | ref _=>cases r; rfl
  | ty _=>cases r; rfl
theorem RelV.inj {x y:V}{u:Value} (r:RelV x u) (q:RelV y u):x=y:=Option.some.inj (r.abs.symm.trans q.abs)
theorem Vals.inj {xs ys:List V}{us:List Value} (h:Vals xs us) (h':Vals ys us):xs=ys:=by
  induction h generalizing ys with
  | nil=>cases h'; rfl
  | cons r t ih=>cases h' with
    | cons r' t'=>rw [r.inj r',ih t']
section
variable {X:Cx}{pins:List (Addr×Obj)}{σ:St}{H:Hp}{s:Shared}{a:Addr}{xs ys:List V}
theorem SqL.of {K:PySem.W.Frag} (h:H a=some (.lst xs)):SqL K H a xs:=.inl (.inl h)
theorem SqT.of {K:PySem.W.Frag} (h:H a=some (.tup xs)):SqT K H a xs:=.inl (.inl h)
theorem Inv.list (I:Inv X pins σ H s) (h:SqL X.K H a xs):∃ its:List Value,Vals xs its/\PlainL s.heap a its.toArray/\xs.length<=sizeLine:=by
  rcases h with h | ⟨o,its,n,hk,hc,hd,hs,hz,r⟩
  · obtain⟨z,its,n,r,e⟩:=h.ok I.hok
    exact⟨its,r,⟨_,n,e,rfl,rfl,rfl⟩,z⟩
  · refine⟨its.toList,r,⟨o,n,I.kIn a o hk,hc,hd,by simpa using hs⟩,?_⟩
    have e:=r.length
    simp only [Array.length_toList] at e
    lia
theorem Inv.tuple (I:Inv X pins σ H s) (h:SqT X.K H a xs):∃ its:List Value,Vals xs its/\IsTup s.heap a its.toArray/\xs.length<=sizeLine:=by
  rcases h with h | ⟨o,its,n,hk,hc,hs,hz,r⟩
  · obtain⟨z,its,r,p⟩:=h.ok I.hok
    exact⟨its,r,p,z⟩
  · refine⟨its.toList,r,⟨o,I.kIn a o hk,hc,n,by simpa using hs⟩,?_⟩
    have e:=r.length
    simp only [Array.length_toList] at e
    lia
theorem Inv.list_inj (I:Inv X pins σ H s) (h:SqL X.K H a xs) (h':SqL X.K H a ys):xs=ys:=by
  obtain⟨its,r,⟨o,n,e,_,_,d⟩,_⟩:=I.list h
  obtain⟨its',r',⟨o',n',e',_,_,d'⟩,_⟩:=I.list h'
  rw [e] at e'; cases e'
  rw [d] at d'
  injection d' with d1 _
  have:its=its':=by simpa using congrArg Array.toList d1
  subst this
  exact r.inj r'
theorem Inv.tuple_inj (I:Inv X pins σ H s) (h:SqT X.K H a xs) (h':SqT X.K H a ys):xs=ys:=by
  obtain⟨its,r,⟨o,e,_,n,d⟩,_⟩:=I.tuple h
  obtain⟨its',r',⟨o',e',_,n',d'⟩,_⟩:=I.tuple h'
  rw [e] at e'; cases e'
  rw [d] at d'
  injection d' with d1 _
  have:its=its':=by simpa using congrArg Array.toList d1
  subst this
  exact r.inj r'
end
noncomputable abbrev Cx.wish (X:Cx) (E:Value->Shared->Prop):Cx:={ X with xe:=E }
noncomputable abbrev Cx.nox (X:Cx):Cx:=X.wish fun _ _=>False
theorem Cx.Ok.wish {X:Cx} (ok:X.Ok) (E:Value->Shared->Prop):(X.wish E).Ok:=
  ⟨ok.mod,ok.kind,ok.glob,ok.blt,ok.above,ok.inj,ok.has,ok.cab,ok.hd,ok.frames,ok.stk,ok.exf,ok.bs,ok.bsz,ok.noex,ok.exfs,ok.funs,ok.frf⟩
theorem Cx.Ok.unwish {X:Cx}{E:Value->Shared->Prop} (ok:(X.wish E).Ok):X.Ok:=
  ⟨ok.mod,ok.kind,ok.glob,ok.blt,ok.above,ok.inj,ok.has,ok.cab,ok.hd,ok.frames,ok.stk,ok.exf,ok.bs,ok.bsz,ok.noex,ok.exfs,ok.funs,ok.frf⟩
section
variable {X:Cx}{pins:List (Addr×Obj)}{σ:St}{H:Hp}{s:Shared}{E:Value->Shared->Prop}
theorem Inv.wish (I:Inv X pins σ H s) (E:Value->Shared->Prop):Inv (X.wish E) pins σ H s:=⟨I.ok.wish E,I.os,I.bare,I.base,I.loc,I.cell,I.free,I.freeC,I.pin,I.hok,I.len⟩
theorem Inv.unwish (I:Inv (X.wish E) pins σ H s):Inv X pins σ H s:=⟨I.ok.unwish,I.os,I.bare,I.base,I.loc,I.cell,I.free,I.freeC,I.pin,I.hok,I.len⟩
theorem SP.unwish {D:Ends}{f:Flow}{s':Shared} (h:SP (X.wish E) pins D f s'):SP X pins D f s':=by
  cases f with
  | next=>obtain⟨σ',H',I,q⟩:=h; exact⟨σ',H',I.unwish,q⟩
  | brk=>obtain⟨σ',H',I,q⟩:=h; exact⟨σ',H',I.unwish,q⟩
  | cont=>obtain⟨σ',H',I,q⟩:=h; exact⟨σ',H',I.unwish,q⟩
  | ret u=>obtain⟨v,σ',H',I,r,q⟩:=h; exact⟨v,σ',H',I.unwish,r,q⟩
theorem PSs.nox {st:List Stmt}{t:TS} (h:PSs X.nox st t):PSs X st t:=fun pins s σ H D I hw=>
  wpAny_mono (h pins s σ H D (I.wish _) hw) (fun _ _ q=>q.unwish) fun _ _ z=>False.elim z
end
section
variable {X:Cx}{st:Stmt}{rest:List Stmt}{t u:TS}{e:Expr}{te:TE}{pos:Pos}
noncomputable def tNext:TS:=fun D σ H=>D.nx σ H
noncomputable def tSeq (t u:TS):TS:=fun D σ H=>t { D with nx:=u D } σ H
theorem qmY:PSs X [] tNext:=fun _ _ σ H _ I h=>wpAny_execs_nil ⟨σ,H,I,h⟩
theorem qlG (h1:PS X st t) (h2:PSs X rest u):PSs X (st::rest) (tSeq t u):=by
  intro pins s σ H D I h
  refine wpAny_execs_cons (thn (h1 pins s σ H { D with nx:=u D } I h) fun f s1 q=>?_)
  cases f with
  | next=>
    obtain⟨σ',H',I',q⟩:=q
    exact h2 pins s1 σ' H' D I' q
  | ret v=>exact q
  | brk=>exact q
  | cont=>exact q
theorem qmX (h1:PS X st t):PSs X [st] t:=by
  intro pins s σ H D I h
  refine wpAny_execs_cons (thn (h1 pins s σ H D I h) fun f s1 q=>?_)
  cases f with
  | next=>exact wpAny_execs_nil q
  | ret v=>exact q
  | brk=>exact q
  | cont=>exact q
noncomputable def tBreak:TS:=fun D σ H=>D.bk σ H
noncomputable def tCont:TS:=fun D σ H=>D.ct σ H
theorem Inv.quiet {pins:List (Addr×Obj)}{σ:St}{H:Hp}{s:Shared} (I:Inv X pins σ H s):interactive X.env=false:=by simp [interactive,I.ok.kind]
noncomputable def tDrop (te:TE):TS:=fun D σ H=>te σ H fun _ H1=>D.nx σ H1
theorem qm0 (he:PE X e te) (hs:swapsWith e none pos.line X.env=pure false:=by rfl):PS X (.Expr e pos) (tDrop te):=by
  intro pins s σ H D I h
  exact wpAny_Expr_any (thn (he pins s σ H _ I h) fun v s1 q9=>by obtain⟨x,H1,I1,r1,q1⟩:=q9; exact⟨σ,H1,I1,q1⟩) I.quiet hs
noncomputable def tRet (te:TE):TS:=fun D σ H=>te σ H D.rt
theorem qof (he:PE X e te):PS X (.Return (some e) pos) (tRet te):=by
  intro pins s σ H D I h
  exact wpAny_Return_some (thn (he pins s σ H _ I h) fun v s1 q9=>by obtain⟨x,H1,I1,r1,q1⟩:=q9; exact⟨x,σ,H1,I1,r1,q1⟩)
noncomputable def tRetN:TS:=fun D _ H=>D.rt .non H
theorem qmZ:PS X (.Return none pos) tRetN:=fun _ _ σ H _ I h=>wpAny_Return_none ⟨.non,σ,H,I,rfl,h⟩
noncomputable def tIfS (c:TT) (t u:TS):TS:=fun D σ H=>c σ H fun b H1=>if b=true then t D σ H1 else u D σ H1
theorem ps_if {c:Expr}{a b:List Stmt}{tc:TT} (hc:PT X c tc) (ha:PSs X a t) (hb:PSs X b u):PS X (.If c a b pos) (tIfS tc t u):=by
  intro pins s σ H D I h
  refine wpAny_If (thn (hc pins s σ H _ I h) fun d s1 q9=>?_)
  obtain⟨H1,I1,q1⟩:=q9
  cases d with
  | true=>exact ha pins s1 σ H1 D I1 q1
  | false=>exact hb pins s1 σ H1 D I1 q1
noncomputable def tNever:TS:=fun _ _ _=>False
end
noncomputable abbrev TG:=V->St->Hp->(St->Hp->Prop)->Prop
noncomputable abbrev TGs:=List V->St->Hp->(St->Hp->Prop)->Prop
def PG (X:Cx) (target:Expr) (t:TG):Prop:=
  ∀ (pins:List (Addr×Obj)) (s:Shared) (σ:St) (H:Hp) (v:V) (u:Value) (Q:St->Hp->Prop),Inv X pins σ H s->RelV v u->t v σ H Q->
    wpAny (model X.prog X.w) X.A (assign target X.env u) (fun _ s'=>∃ σ' H',Inv X pins σ' H' s'/\Q σ' H') X.xe s
def PGs (X:Cx) (ts:List Expr) (t:TGs):Prop:=
  ∀ (pins:List (Addr×Obj)) (s:Shared) (σ:St) (H:Hp) (vs:List V) (us:List Value) (Q:St->Hp->Prop),Inv X pins σ H s->Vals vs us->t vs σ H Q->
    wpAny (model X.prog X.w) X.A (assignInOrder ((assignEach ts X.env).map (·.2)) us) (fun _ s'=>∃ σ' H',Inv X pins σ' H' s'/\Q σ' H') X.xe s
noncomputable abbrev TSet:=V->V->V->Hp->(Hp->Prop)->Prop
def PSet (X:Cx) (t:TSet):Prop:=
  ∀ (pins:List (Addr×Obj)) (s:Shared) (σ:St) (H:Hp) (o i v:V) (ov iv u:Value) (Q:Hp->Prop),Inv X pins σ H s->RelV o ov->RelV i iv->RelV v u->t o i v H Q->
    wpAny (model X.prog X.w) X.A (setItem ov iv u) (fun _ s'=>∃ H',Inv X pins σ H' s'/\Q H') X.xe s
noncomputable abbrev TIp:=V->V->Hp->VK->Prop
def PIp (X:Cx) (op:Operator) (t:TIp):Prop:=
  ∀ (pins:List (Addr×Obj)) (s:Shared) (σ:St) (H:Hp) (x y:V) (v u:Value) (Q:VK),Inv X pins σ H s->RelV x v->RelV y u->t x y H Q->
    wpAny (model X.prog X.w) X.A (inplaceOp op v u) (EP X pins σ Q) X.xe s
section
variable {X:Cx}{pos:Pos}
noncomputable def qhp (i:Nat):TG:=fun v σ H Q=>Q (σ.set i (some v)) H
theorem qgh {i:Nat}{x:Str} (hN:X.N.Nodup) (hi:X.N[i]?=some x) (hx:Loc X.env.scope x) (hf:X.fn x=true\/X.env.scope.names.lookup x=some .local:=by first | exact .inl rfl | exact .inr rfl | assumption):PG X (.Name x pos) (qhp i):=by
  intro pins s σ H v u Q I r h
  exact wpAny_assign_Name (qid I hN hi hx r (fun s' I'=>⟨_,H,I',h⟩) hf)
noncomputable def gNil:TGs:=fun vs σ H Q=>vs=[]/\Q σ H
noncomputable def qkH (t:TG) (u:TGs):TGs:=fun vs σ H Q=>∃ v r,vs=v::r/\t v σ H fun σ' H'=>u r σ' H' Q
theorem qm4:PGs X [] gNil:=by
  intro pins s σ H vs us Q I r h
  obtain⟨e,h⟩:=h
  subst e
  cases r
  exact assignInOrder_nil ⟨σ,H,I,h⟩
theorem qin {e:Expr}{es:List Expr}{t:TG}{u:TGs} (h1:PG X e t) (h2:PGs X es u)
    (hs:(assignEach (e::es) X.env).map (·.2)=assign e X.env::(assignEach es X.env).map (·.2):=by rfl):PGs X (e::es) (qkH t u):=by
  intro pins s σ H vs us Q I r h
  obtain⟨v,vr,e1,h⟩:=h
  subst e1
  cases r with
  | cons r rr=>
    rw [hs]
    refine assignInOrder_cons (thn (h1 pins s σ H _ _ _ I r h) fun _ s1 q9=>?_)
    obtain⟨σ1,H1,I1,q1⟩:=q9
    exact h2 pins s1 σ1 H1 _ _ Q I1 rr q1
noncomputable def gTup (K:PySem.W.Frag) (n:Nat) (t:TGs):TG:=fun v σ H Q=>∃ a xs,v=.ref a/\SqT K H a xs/\xs.length=n/\t xs σ H Q
theorem qoi {es:List Expr}{k:Nat}{t:TGs}{n:Nat} (hc:X.calm=true) (h:PGs X es t)
    (hn:(assignEach es X.env).length=n:=by rfl) (hst:(assignEach es X.env).findIdx? (·.1)=none:=by rfl):PG X (.Tuple es k pos) (gTup X.K n t):=by
  intro pins s σ H v u Q I r hw
  obtain⟨a,xs,e1,hq,hl,hw⟩:=hw
  subst e1
  cases r
  obtain⟨its,rv,ht,hz⟩:=I.tuple hq
  refine assign_Tuple_tuple (I.ok.hd hc) ht (by simp [hn,<-hl,rv.length]) hst fun h' hx=>?_
  have I1:Inv X pins σ H { s with heap:=h' }:=I.kept (t':=s.toks) fun b o e=>hx b o (xR (yF e)) e
  exact h pins _ σ H xs _ Q I1 (by simpa using rv) hw
noncomputable def gSub (to ti:TE) (t:TSet):TG:=fun v σ H Q=>to σ H fun o H1=>ti σ H1 fun i H2=>t o i v H2 fun H3=>Q σ H3
theorem qoj {o i:Expr}{to ti:TE}{t:TSet} (ho:PE X o to) (hi:PE X i ti) (hs:PSet X t)
    (ha:∀ v,assign (.Subscript o i pos) X.env v=(do
      let ov <-holding [v] (eval o X.env)
      let iv <-holding [v,ov] (eval i X.env)
      standAt pos
      holding [v,ov,iv] (setItem ov iv v)
      release [v,ov,iv] []):=by intro _; rfl):PG X (.Subscript o i pos) (gSub to ti t):=by
  intro pins s σ H v u Q I r h
  rw [ha]
  refine wpAny_bind (wpAny_holding (thn (ho pins s σ H _ I h) fun ov s1 q9=>?_))
  obtain⟨x,H1,I1,r1,q1⟩:=q9
  refine wpAny_bind (wpAny_holding (thn (hi pins s1 σ H1 _ I1 q1) fun iv s2 q9=>?_))
  obtain⟨y,H2,I2,r2,q2⟩:=q9
  refine wpAny_bind (wpAny_standAt (wpAny_bind (wpAny_holding (thn (hs pins s2 σ H2 x y v ov iv u _ I2 r1 r2 r q2) fun _ s3 q9=>?_))))
  obtain⟨H3,I3,q3⟩:=q9
  exact wpAny_release ⟨σ,H3,I3,q3⟩
noncomputable def tAsg (te:TE) (g:TG):TS:=fun D σ H=>te σ H fun x H1=>g x σ H1 D.nx
theorem qjW {tg e:Expr}{te:TE}{g:TG} (he:PE X e te) (hg:PG X tg g) (hs:swapsWithSole [tg] e pos.line X.env=pure false:=by rfl) (hw:swappedStores [tg] e X.env=pure none:=by rfl)
    (h1:(assignEach [tg] X.env).map (·.2)=[assign tg X.env]:=by rfl):PS X (.Assign [tg] e pos) (tAsg te g):=by
  intro pins s σ H D I h
  refine wpAny_Assign_stores (thn (he pins s σ H _ I h) fun v s1 q9=>?_) hs hw
  obtain⟨x,H1,I1,r1,q1⟩:=q9
  rw [h1]
  exact thn (hg pins s1 σ H1 x v _ I1 r1 q1) fun _ s2 q=>q
theorem qoe {i:Nat}{x:Str}{e:Expr}{te:TE}{pos':Pos} (hN:X.N.Nodup) (hi:X.N[i]?=some x) (hx:Loc X.env.scope x) (he:PE X e te) (hs:swapsWith e (some (.Name x pos')) pos.line X.env=pure false:=by rfl) (hf:X.fn x=true\/X.env.scope.names.lookup x=some .local:=by first | exact .inl rfl | exact .inr rfl | assumption):
    PS X (.Assign [.Name x pos'] e pos) (tAsg te (qhp i)):=by
  intro pins s σ H D I h
  refine wpAny_Assign_Name (thn (he pins s σ H _ I h) fun v s1 q9=>?_) hs
  obtain⟨y,H1,I1,r1,q1⟩:=q9
  exact qid I1 hN hi hx r1 (fun s2 I2=>⟨_,H1,I2,q1⟩) hf
noncomputable def tPar (i j:Nat) (ta:TA):TS:=fun D σ H=>ta σ H fun vs H1=>∃ v w,vs=[v,w]/\D.nx ((σ.set i (some v)).set j (some w)) H1
noncomputable def tAug (i:Nat) (te:TE) (ti:TIp):TS:=fun D σ H=>∃ x,σ[i]?=some (some x)/\te σ H fun y H1=>ti x y H1 fun z H2=>D.nx (σ.set i (some z)) H2
noncomputable def tAugS (to ti te:TE) (tget:V->V->Hp->VK->Prop) (tip:TIp) (tset:TSet):TS:=fun D σ H=>to σ H fun o H1=>ti σ H1 fun i H2=>tget o i H2 fun x H3=>te σ H3 fun y H4=>tip x y H4 fun z H5=>tset o i z H5 fun H6=>D.nx σ H6
def PGet (X:Cx) (t:V->V->Hp->VK->Prop):Prop:=
  ∀ (pins:List (Addr×Obj)) (s:Shared) (σ:St) (H:Hp) (o i:V) (ov iv:Value) (Q:VK),Inv X pins σ H s->RelV o ov->RelV i iv->t o i H Q->
    wpAny (model X.prog X.w) X.A (getItem ov iv) (EP X pins σ Q) X.xe s
noncomputable def ipI (f:Int->Int->Int):TIp:=fun x y H Q=>∃ i j,x=.int i/\y=.int j/\Q (.int (f i j)) H
end
section
variable {X:Cx}{pos:Pos}
noncomputable def qnU (c:TT) (tb:TS):TS:=fun D σ H=>∃ W:Nat->St->Hp->Prop,(∃ m,W m σ H)/\∀ m σ H,W m σ H->
  c σ H fun b H1=>if b=true then ∃ N:St->Hp->Prop,(∀ σ' H',N σ' H'->∃ m',m' < m/\W m' σ' H')/\tb { D with nx:=N,ct:=N,bk:=D.nx } σ H1 else D.nx σ H1
theorem qlH {c:Expr}{body:List Stmt}{tc:TT}{tb:TS} (hp:PassesOwn (model X.prog X.w) X.A X.env X.xe) (hc:PT X c tc) (hb:PSs X body tb):PS X (.While c body [] pos) (qnU tc tb):=by
  intro pins s σ H D I h
  obtain⟨W,⟨m0,w0⟩,turn⟩:=h
  refine wpAny_While (codeAny_whileLoop (fun n s'=>∃ σ' H',Inv X pins σ' H' s'/\W n σ' H') ?_ m0 ⟨σ,H,I,w0⟩)
  rintro n s1 ⟨σ1,H1,I1,w1⟩
  refine wpAny_passesOwn hp (thn (hc pins s1 σ1 H1 _ I1 (turn n σ1 H1 w1)) fun b s2 q9=>?_)
  obtain⟨H2,I2,q2⟩:=q9
  cases b with
  | true=>
    obtain⟨N,hN,q2⟩:=q2
    rw [if_pos rfl]
    refine wpAny_passesOwn hp (thn (hb pins s2 σ1 H2 _ I2 q2) fun f s3 q3=>?_)
    cases f with
    | next=>
      obtain⟨σ3,H3,I3,n3⟩:=q3
      obtain⟨m',hm,w3⟩:=hN σ3 H3 n3
      exact⟨m',hm,σ3,H3,I3,w3⟩
    | cont=>
      obtain⟨σ3,H3,I3,n3⟩:=q3
      obtain⟨m',hm,w3⟩:=hN σ3 H3 n3
      exact⟨m',hm,σ3,H3,I3,w3⟩
    | brk=>exact q3
    | ret v=>exact q3
  | false=>
    rw [if_neg zZ]
    exact wpAny_execs_nil ⟨σ1,H2,I2,q2⟩
end
structure It where
  go:Nat->Hp->Prop
  yld:Nat->Hp->V->Hp->Prop
  stop:Nat->Hp->Prop
def FpOk (X:Cx) (pins:List (Addr×Obj)) (H:Hp) (b:Addr):Prop:=
  H b=none/\b≠X.env.locals/\b∉X.fs/\(b∈X.ex\/X.s₀.heap.objs.size<=b)/\(∀ x c,X.env.cells.lookup x=some c->c≠b)/\∀ p∈X.pn++pins,p.1≠b
theorem Inv.fpOk {X:Cx}{pins:List (Addr×Obj)}{σ:St}{H H':Hp}{s:Shared}{b:Addr} (I:Inv X pins σ H s) (hb:s.heap.objs.size<=b) (hn:H' b=none):FpOk X pins H' b:=by
  refine⟨hn,Nat.ne_of_gt (zY I.lt hb),I.nofs hb,.inr (yX I.sz hb),fun x c e z=>?_,fun p hp z=>?_⟩
  · obtain⟨v,q⟩:=I.cell x c e
    exact absurd (zY q.lt (by rw [z]; exact hb)) (xH _)
  · exact absurd (zY (yF (I.pin p hp).1) (by rw [z]; exact hb)) (xH _)
structure Turn (P:Program) (w:World) (K:PySem.W.Frag) (tg:Expr) (J:It) (fp:List Addr) (it:Addr) (tn:Nat->Heap->Prop):Prop where
  mem:it∈fp
  obj:∀ i h,tn i h->∀ b∈fp,∃ o,h.get? b=some o/\∀ v,o.data≠.cell v
  keep:∀ i h h',tn i h->(∀ b∈fp,∀ o,h.get? b=some o->h'.get? b=some o)->tn i h'
  item:∀ (X:Cx),X.prog=P->X.w=w->X.K=K->X.calm=true->∀ (i:Nat) (pins:List (Addr×Obj)) (s:Shared) (σ:St) (H:Hp) (E:Value->Shared->Prop),Inv X pins σ H s->(∀ b∈fp,FpOk X pins H b)->tn i s.heap->J.go i H->
    wpAny (model P w) X.A (pyNext (.ref it)) (fun r s1=>∃ u,r=some u/\
      wpAny (model P w) X.A (letOwnedTupleGo tg (.ref it) u) (fun _ s2=>∃ x H',Inv X pins σ H' s2/\RelV x u/\J.yld i H x H'/\tn (i+1) s2.heap/\∀ b∈fp,H' b=none) E s1) E s
  done:∀ (X:Cx),X.prog=P->X.w=w->X.K=K->X.calm=true->∀ (i:Nat) (pins:List (Addr×Obj)) (s:Shared) (σ:St) (H:Hp) (E:Value->Shared->Prop),Inv X pins σ H s->(∀ b∈fp,FpOk X pins H b)->tn i s.heap->J.stop i H->
    wpAny (model P w) X.A (pyNext (.ref it)) (fun r s1=>r=none/\Inv X pins σ H s1) E s
  self:∀ (A:Around) (i:Nat) (s:Shared) (Q:Value->Shared->Prop) (E:Value->Shared->Prop),tn i s.heap->Q (.ref it) s->wpAny (model P w) A (pyIter (.ref it)) Q E s
noncomputable abbrev TI:=St->Hp->(It->Hp->Prop)->Prop
def PIE (X:Cx) (pins:List (Addr×Obj)) (σ:St) (tg:Expr) (R:It->Hp->Prop) (itv:Value) (s2:Shared):Prop:=
  ∃ (it:Addr) (fp:List Addr) (tn:Nat->Heap->Prop) (J:It) (H':Hp),itv=.ref it/\Inv X pins σ H' s2/\Turn X.prog X.w X.K tg J fp it tn/\tn 0 s2.heap/\(∀ b∈fp,FpOk X pins H' b)/\R J H'
def PI (X:Cx) (tg iter:Expr) (wi:TI):Prop:=
  ∀ (pins:List (Addr×Obj)) (s:Shared) (σ:St) (H:Hp) (R:It->Hp->Prop),Inv X pins σ H s->wi σ H R->
    wpAny (model X.prog X.w) X.A (eval iter X.env) (fun v s1=>wpAny (model X.prog X.w) X.A (pyIter v) (PIE X pins σ tg R) X.xe s1) X.xe s
theorem ql2 {M:Model}{A:Around}{E:Value->Shared->Prop}{s:Shared}{tg:Expr}{it:Addr}{u:Value}{o:Obj}{n:String}{vs:Array Value}{Q:Unit->Shared->Prop} (ho:s.heap.get? it=some o) (hc:o.cls=.type n) (hd:o.data=.fields vs)
    (hn:["enumerate","zip","dict_itemiterator","dict_reverseitemiterator","odict_iterator","itertools.zip_longest","itertools.pairwise"].contains n=false) (hQ:Q () s):wpAny M A (letOwnedTupleGo tg (.ref it) u) Q E s:=by
  unfold letOwnedTupleGo
  cases tg<;>first
    | exact wpAny_pure hQ
    | (cases u<;>first
        | exact wpAny_pure hQ
        | (refine wpAny_bind (wpAny_load ho ?_)
           rw [hc,hd]
           show wpAny M A (if (["enumerate","zip","dict_itemiterator","dict_reverseitemiterator","odict_iterator","itertools.zip_longest","itertools.pairwise"].contains n&&vs[0]?==some (rawInt _))=true then _ else _) Q E s
           rw [if_neg (by intro h; rw [hn,Bool.false_and] at h; cases h)]
           exact wpAny_pure hQ))
noncomputable def Itl (K:PySem.W.Frag) (a:Addr):It:=
  ⟨fun i H=>∃ xs x,SqL K H a xs/\xs[i]?=some x,fun i H x H'=>H'=H/\∀ xs,SqL K H a xs->xs[i]?=some x,fun i H=>∃ xs,SqL K H a xs/\xs.length<=i⟩
noncomputable def Itt (K:PySem.W.Frag) (a:Addr):It:=
  ⟨fun i H=>∃ xs x,SqT K H a xs/\xs[i]?=some x,fun i H x H'=>H'=H/\∀ xs,SqT K H a xs->xs[i]?=some x,fun i H=>∃ xs,SqT K H a xs/\xs.length<=i⟩
noncomputable def Itr (lo:Int) (n:Nat):It:=⟨fun i _=>i < n,fun i H x H'=>H'=H/\x=.int (lo+i),fun i _=>n<=i⟩
theorem qjp {P:Program}{w:World}{K:PySem.W.Frag}{tg:Expr} (a it:Addr):Turn P w K tg (Itl K a) [it] it (fun i h=>h.IsListIter it a i) where
  mem:=by simp
  obj:=fun i h st b hb=>by
    have e:b=it:=by simpa using hb
    subst e
    obtain⟨o,e,c,d⟩:=st
    exact⟨o,e,fun v z=>by rw [d] at z; cases z⟩
  keep:=fun i h h' st k=>st.at fun o e=>k it (by simp) o e
  item:=by
    intro X hP hw hK hc i pins s σ H E I hf st hg
    subst hP hw hK
    obtain⟨xs,x,hq,hx⟩:=hg
    obtain⟨its,rv,p,hz⟩:=I.list hq
    obtain⟨u,hu,ru⟩:=rv.get hx
    obtain⟨f0,f1,f2,f3,f4,f5⟩:=hf it (by simp)
    refine wpAny_pyNext_list_item st p.isList (x:=u) (by simpa using hu) fun h' st' sb=>?_
    have I1:Inv X pins σ H { s with heap:=h' }:=I.turned (t':=s.toks) (fun b o hb e=>(sb.2 b hb).trans e) f0 f1 f3 f4 f5
    obtain⟨o,e,c,d⟩:=id st'
    exact⟨u,rfl,ql2 (s:={ s with heap:=h' }) e c d (by decide) ⟨x,H,I1,ru,⟨rfl,fun ys hy=>by rw [I.list_inj hy hq]; exact hx⟩,st',fun b hb=>(hf b hb).1⟩⟩
  done:=by
    intro X hP hw hK hc i pins s σ H E I hf st hg
    subst hP hw hK
    obtain⟨xs,hq,hx⟩:=hg
    obtain⟨its,rv,p,hz⟩:=I.list hq
    obtain⟨f0,f1,f2,f3,f4,f5⟩:=hf it (by simp)
    have hl:=rv.length
    exact wpAny_pyNext_list_end (I.ok.hd hc) st p.isList (by simp; lia) fun h' eb=>⟨rfl,I.turned (t':=s.toks) (fun b o hb e=>eb b o hb e) f0 f1 f3 f4 f5⟩
  self:=fun _ _ _ _ _ st h=>wpAny_pyIter_listiter st h
theorem qiO {P:Program}{w:World}{K:PySem.W.Frag}{tg:Expr} (a it:Addr):Turn P w K tg (Itt K a) [it] it (fun i h=>h.IsTupleIter it a i) where
  mem:=by simp
  obj:=fun i h st b hb=>by
    have e:b=it:=by simpa using hb
    subst e
    obtain⟨o,e,c,d⟩:=st
    exact⟨o,e,fun v z=>by rw [d] at z; cases z⟩
  keep:=fun i h h' st k=>st.at fun o e=>k it (by simp) o e
  item:=by
    intro X hP hw hK hc i pins s σ H E I hf st hg
    subst hP hw hK
    obtain⟨xs,x,hq,hx⟩:=hg
    obtain⟨its,rv,p,hz⟩:=I.tuple hq
    obtain⟨u,hu,ru⟩:=rv.get hx
    obtain⟨f0,f1,f2,f3,f4,f5⟩:=hf it (by simp)
    refine wpAny_pyNext_tuple_item st (show s.heap.IsTuple a its.toArray from p) (x:=u) (by simpa using hu) fun h' st' sb=>?_
    have I1:Inv X pins σ H { s with heap:=h' }:=I.turned (t':=s.toks) (fun b o hb e=>(sb.2 b hb).trans e) f0 f1 f3 f4 f5
    obtain⟨o,e,c,d⟩:=id st'
    exact⟨u,rfl,ql2 (s:={ s with heap:=h' }) e c d (by decide) ⟨x,H,I1,ru,⟨rfl,fun ys hy=>by rw [I.tuple_inj hy hq]; exact hx⟩,st',fun b hb=>(hf b hb).1⟩⟩
  done:=by
    intro X hP hw hK hc i pins s σ H E I hf st hg
    subst hP hw hK
    obtain⟨xs,hq,hx⟩:=hg
    obtain⟨its,rv,p,hz⟩:=I.tuple hq
    obtain⟨f0,f1,f2,f3,f4,f5⟩:=hf it (by simp)
    have hl:=rv.length
    exact wpAny_pyNext_tuple_end (I.ok.hd hc) st (show s.heap.IsTuple a its.toArray from p) (by simp; lia) fun h' eb=>⟨rfl,I.turned (t':=s.toks) (fun b o hb e=>eb b o hb e) f0 f1 f3 f4 f5⟩
  self:=fun _ _ _ _ _ st h=>wpAny_pyIter_tupleiter st h
theorem qiP {P:Program}{w:World}{K:PySem.W.Frag}{tg:Expr} (it:Addr) (lo:Int) (n:Nat):Turn P w K tg (Itr lo n) [it] it (fun i h=>IsRangeIter h it (lo+(i:Nat)*1) ((n:Int) - (i:Nat)) 1) where
  mem:=by simp
  obj:=fun i h st b hb=>by
    have e:b=it:=by simpa using hb
    subst e
    exact⟨_,st,fun v z=>by
      have z':Data.fields _=Data.cell v:=z
      cases z'⟩
  keep:=fun i h h' st k=>k it (by simp) _ st
  item:=by
    intro X hP hw hK hc i pins s σ H E I hf st hg
    subst hP hw hK
    obtain⟨f0,f1,f2,f3,f4,f5⟩:=hf it (by simp)
    have W:=Walks.range (prog:=X.prog) (w:=X.w) (I.ok.hd hc) it lo 1 n
    refine W.item i s _ _ hg st fun v h' tk hv st' kk=>?_
    obtain⟨t,rfl⟩:=hv
    have I1:Inv X pins σ H { s with heap:=h',toks:=tk }:=I.turned (fun b o hb e=>kk b o (by simpa using hb) e) f0 f1 f3 f4 f5
    refine⟨_,rfl,ql2 (s:={ s with heap:=h',toks:=tk }) (n:="range_iterator") st' rfl rfl (by decide) ⟨.int (lo+i),H,I1,⟨t,?_⟩,⟨rfl,rfl⟩,st',fun b hb=>(hf b hb).1⟩⟩
    rw [Int.mul_one]
  done:=by
    intro X hP hw hK hc i pins s σ H E I hf st hg
    subst hP hw hK
    obtain⟨f0,f1,f2,f3,f4,f5⟩:=hf it (by simp)
    exact wpAny_pyNext_range_end (I.ok.hd hc) st (by have:n<=i:=hg; lia) fun h' eb=>⟨rfl,I.turned (t':=s.toks) (fun b o hb e=>eb b o hb e) f0 f1 f3 f4 f5⟩
  self:=fun _ _ _ _ _ st h=>wpAny_pyIter_rangeiter st h
end L2
namespace L2
open PySem PySem.Spec PyProof.Rows
section
variable {X:Cx}{tg:Expr}
noncomputable def iList (K:PySem.W.Frag) (tl:TE):TI:=fun σ H R=>tl σ H fun x H1=>∃ a,x=.ref a/\(∃ xs,SqL K H1 a xs)/\R (Itl K a) H1
noncomputable def iTup (K:PySem.W.Frag) (tl:TE):TI:=fun σ H R=>tl σ H fun x H1=>∃ a,x=.ref a/\(∃ xs,SqT K H1 a xs)/\R (Itt K a) H1
theorem qm3 {l:Expr}{tl:TE} (hl:PE X l tl):PI X tg l (iList X.K tl):=by
  intro pins s σ H R I h
  refine thn (hl pins s σ H _ I h) fun v s1 q9=>?_
  obtain⟨x,H1,I1,r1,q1⟩:=q9
  obtain⟨a,e,⟨xs,hq⟩,q⟩:=q1
  subst e
  cases r1
  obtain⟨its,rv,p,hz⟩:=I1.list hq
  refine wpAny_pyIter_list p.isList ?_
  refine⟨s1.heap.objs.size,[s1.heap.objs.size],_,_,H1,rfl,I1.kept (t':=s1.toks) fun b o e=>yH _ e,qjp a _,⟨_,xK _ rfl,rfl,rfl⟩,fun b hb=>?_,q⟩
  have e:b=s1.heap.objs.size:=by simpa using hb
  subst e
  exact I1.fpOk (zS _) (I1.hok.fresh (zS _))
theorem qoh {l:Expr}{tl:TE} (hl:PE X l tl):PI X tg l (iTup X.K tl):=by
  intro pins s σ H R I h
  refine thn (hl pins s σ H _ I h) fun v s1 q9=>?_
  obtain⟨x,H1,I1,r1,q1⟩:=q9
  obtain⟨a,e,⟨xs,hq⟩,q⟩:=q1
  subst e
  cases r1
  obtain⟨its,rv,p,hz⟩:=I1.tuple hq
  refine wpAny_pyIter_tuple (show s1.heap.IsTuple a its.toArray from p) ?_
  refine⟨s1.heap.objs.size,[s1.heap.objs.size],_,_,H1,rfl,I1.kept (t':=s1.toks) fun b o e=>yH _ e,qiO a _,⟨_,xK _ rfl,rfl,rfl⟩,fun b hb=>?_,q⟩
  have e:b=s1.heap.objs.size:=by simpa using hb
  subst e
  exact I1.fpOk (zS _) (I1.hok.fresh (zS _))
theorem qlF {pins:List (Addr×Obj)}{σ:St}{H:Hp}{s:Shared}{R:It->Hp->Prop}{E:Value->Shared->Prop}{lo hi:Int}{t u v:Tok}{tk:Nat} (I:Inv X pins σ H s) (h1:-(2 ^ 62)<=lo) (h2:lo < 2 ^ 62) (h3:-(2 ^ 62)<=hi) (h4:hi < 2 ^ 62)
    (q:R (Itr lo (hi - lo).toNat) H):wpAny (model X.prog X.w) X.A (pyIter (.ref s.heap.objs.size)) (PIE X pins σ tg R) E { s with heap:=s.heap.push { cls:=.type "range",data:=.fields #[.int lo t,.int hi u,.int 1 v] },toks:=tk }:=by
  refine wpAny_pyIter_range (IsRange.new ..) (small_one h1 h2 h3 h4) ?_
  have I1:Inv X pins σ H { s with heap:=s.heap.push { cls:=.type "range",data:=.fields #[.int lo t,.int hi u,.int 1 v] },toks:=tk }:=I.kept fun b o e=>yH _ e
  refine⟨(s.heap.push { cls:=.type "range",data:=.fields #[.int lo t,.int hi u,.int 1 v] }).objs.size,[(s.heap.push { cls:=.type "range",data:=.fields #[.int lo t,.int hi u,.int 1 v] }).objs.size],_,_,H,rfl,
    I1.kept (t':=tk) fun b o e=>yH _ e,qiP _ lo (hi - lo).toNat,?_,fun b hb=>?_,q⟩
  · have e1:lo+((0:Nat):Int)*1=lo:=by simp
    have e2:(((hi - lo).toNat:Nat):Int) - ((0:Nat):Int)=Builtin.Range.rangeSize lo hi 1:=by rw [rangeSize_one]; split<;>lia
    show IsRangeIter _ _ (lo+((0:Nat):Int)*1) ((((hi - lo).toNat:Nat):Int) - ((0:Nat):Int)) 1
    rw [e1,e2]
    exact xK _ rfl
  · have e:b=(s.heap.push { cls:=.type "range",data:=.fields #[.int lo t,.int hi u,.int 1 v] }).objs.size:=by simpa using hb
    subst e
    exact I1.fpOk (zS _) (I1.hok.fresh (zS _))
noncomputable def iRng1 (ta:TA):TI:=fun σ H R=>ta σ H fun vs H1=>∃ j:Int,vs=[.int j]/\-(2 ^ 62)<=j/\j < 2 ^ 62/\R (Itr 0 j.toNat) H1
noncomputable def iRng2 (ta:TA):TI:=fun σ H R=>ta σ H fun vs H1=>∃ i j:Int,vs=[.int i,.int j]/\(-(2 ^ 62)<=i/\i < 2 ^ 62/\-(2 ^ 62)<=j/\j < 2 ^ 62)/\R (Itr i (j - i).toNat) H1
theorem qj3 {a:Expr}{ta:TA}{p pos:Pos} (hg:Gl X "range") (hm:X.mg "range"=none) (ha:PA X [a] ta) (hs:starEach [a] X.env=[(false,eval a X.env)]:=by rfl):PI X tg (.Call (.Name "range" p) [a] [] pos) (iRng1 ta):=by
  intro pins s σ H R I h
  refine Call_ (qhk I hg hm boot_range (PyProof.Rows.callWith_type1 (thn (ha pos pins s σ H _ I h) fun us s1 q9=>?_) hs rfl))
  obtain⟨vs,H1,I1,r1,q1⟩:=q9
  obtain⟨j,e,q1,q2,q⟩:=q1
  subst e
  cases r1 with
  | cons r rr=>
    cases rr
    obtain⟨t,rfl⟩:=r
    exact call_range_1 (qlF I1 (by lia) (by lia) q1 q2 (by simpa using q))
noncomputable def tFor (wi:TI) (g:TG) (tb:TS):TS:=fun D σ H=>wi σ H fun J H1=>∃ W:Nat->Nat->St->Hp->Prop,(∃ m,W 0 m σ H1)/\∀ i m σ H,W i m σ H->
  (J.stop i H/\D.nx σ H)\/(J.go i H/\∃ N:St->Hp->Prop,(∀ σ' H',N σ' H'->∃ m',m' < m/\W (i+1) m' σ' H')/\∀ x H',J.yld i H x H'->g x σ H' fun σ2 H2=>tb { D with nx:=N,ct:=N,bk:=D.nx } σ2 H2)
noncomputable def qg8 (fp:List Addr) (h:Heap):List (Addr×Obj):=fp.filterMap fun b=>(h.get? b).map fun o=>(b,o)
theorem qeC {fp:List Addr}{h:Heap}{b:Addr}{o:Obj} (hb:b∈fp) (e:h.get? b=some o):(b,o)∈qg8 fp h:=List.mem_filterMap.mpr ⟨b,hb,by rw [e]; rfl⟩
theorem qka {fp:List Addr}{h:Heap}{p:Addr×Obj} (hp:p∈qg8 fp h):p.1∈fp/\h.get? p.1=some p.2:=by
  obtain⟨b,hb,e⟩:=List.mem_filterMap.mp hp
  cases q:h.get? b with
  | none=>rw [q] at e; cases e
  | some o=>
    rw [q] at e
    have e':(b,o)=p:=Option.some.inj e
    subst e'
    exact⟨hb,q⟩
theorem Inv.pinned {pins:List (Addr×Obj)}{σ:St}{H:Hp}{s:Shared}{fp:List Addr} (I:Inv X pins σ H s) (hf:∀ b∈fp,FpOk X pins H b) (ho:∀ b∈fp,∃ o,s.heap.get? b=some o/\∀ v,o.data≠.cell v):Inv X (pins++qg8 fp s.heap) σ H s:=
  I.pins_of fun p hp=>(zP.mp hp).elim (fun z=>I.pin p (zN _ z)) fun z=>by
    obtain⟨hb,e⟩:=qka z
    obtain⟨f0,f1,f2,_⟩:=hf p.1 hb
    obtain⟨o,e',d⟩:=ho p.1 hb
    rw [e] at e'; cases e'
    exact⟨e,f0,f1,f2,d⟩
theorem Inv.unpinned {pins pl:List (Addr×Obj)}{σ:St}{H:Hp}{s:Shared} (I:Inv X (pins++pl) σ H s):Inv X pins σ H s:=I.pins_of fun p hp=>I.pin p (zN _ (zX _ hp))
theorem qog {iter:Expr}{body:List Stmt}{wi:TI}{g:TG}{tb:TS}{pos:Pos} (hp:PassesOwn (model X.prog X.w) X.A X.env X.xe) (hc:X.calm=true) (hi:PI X tg iter wi) (hg:PG X tg g) (hb:PSs X body tb)
    (hs:∀ x,foldedSetIterable iter X.env x=pure x:=by intro _; rfl):PS X (.For tg iter body [] pos) (tFor wi g tb):=by
  intro pins s σ H D I h
  refine wpAny_For (thn (hi pins s σ H _ I h) fun v s1 h1=>thn h1 fun itv s2 h2=>?_) hs
  obtain⟨it,fp,tn,J,H2,e,I2,T,st2,f2,W,⟨m0,w0⟩,turn⟩:=h2
  subst e
  have stat:∀ {H':Hp},(∀ b∈fp,H' b=none)->∀ b∈fp,FpOk X pins H' b:=fun hn b hb=>⟨hn b hb,(f2 b hb).2⟩
  refine codeAny_forLoop_any (fun n s'=>∃ i σ' H',Inv X pins σ' H' s'/\tn i s'.heap/\(∀ b∈fp,H' b=none)/\W i n σ' H') ?_ m0 ⟨0,σ,H2,I2,st2,fun b hb=>(f2 b hb).1,w0⟩
  rintro n s3 ⟨i,σ3,H3,I3,st3,fr3,w3⟩
  rcases turn i n σ3 H3 w3 with⟨stop,qn⟩ | ⟨go,N,hN,step⟩
  · refine wpAny_passesOwn hp (thn (T.done X rfl rfl rfl hc i pins s3 σ3 H3 X.xe I3 (stat fr3) st3 stop) fun r s4 ⟨hr,I4⟩=>?_)
    subst hr
    exact wpAny_execs_nil ⟨σ3,H3,I4,qn⟩
  · refine wpAny_passesOwn hp (thn (T.item X rfl rfl rfl hc i pins s3 σ3 H3 X.xe I3 (stat fr3) st3 go) fun r s4 ⟨u,hr,h4⟩=>?_)
    subst hr
    refine wpAny_passesOwn hp (thn h4 fun _ s5 q9=>?_)
    obtain⟨x,H5,I5,r5,y5,st5,fr5⟩:=q9
    have I5':=I5.pinned (stat fr5) (T.obj _ _ st5)
    refine wpAny_passesOwn hp (thn (hg _ s5 σ3 H5 x u _ I5' r5 (step x H5 y5)) fun _ s6 q9=>?_)
    obtain⟨σ6,H6,I6,q6⟩:=q9
    refine wpAny_passesOwn hp (thn (hb _ s6 σ6 H6 _ I6 q6) fun f s7 q7=>?_)
    have again:∀ {σ7:St}{H7:Hp},Inv X (pins++qg8 fp s5.heap) σ7 H7 s7->N σ7 H7->∃ m,m < n/\∃ i σ' H',Inv X pins σ' H' s7/\tn i s7.heap/\(∀ b∈fp,H' b=none)/\W i m σ' H':=fun {σ7 H7} I7 n7=>by
      obtain⟨m',hm,w7⟩:=hN σ7 H7 n7
      refine⟨m',hm,i+1,σ7,H7,I7.unpinned,T.keep _ _ _ st5 fun b hb o e=>(I7.pin (b,o) (zN _ (zN _ (qeC hb e)))).1,fun b hb=>?_,w7⟩
      obtain⟨o,e,d⟩:=T.obj _ _ st5 b hb
      exact (I7.pin (b,o) (zN _ (zN _ (qeC hb e)))).2.1
    cases f with
    | next=>obtain⟨σ7,H7,I7,n7⟩:=q7; exact again I7 n7
    | cont=>obtain⟨σ7,H7,I7,n7⟩:=q7; exact again I7 n7
    | brk=>obtain⟨σ7,H7,I7,q7⟩:=q7; exact⟨σ7,H7,I7.unpinned,q7⟩
    | ret v=>obtain⟨x7,σ7,H7,I7,r7,q7⟩:=q7; exact⟨x7,σ7,H7,I7.unpinned,r7,q7⟩
end
end L2
namespace L2
open PySem PySem.Spec PyProof.Rows
noncomputable abbrev R2:=V->V->Hp->VK->Prop
def OpR (X:Cx) (f:Value->Value->Sem Value) (r:R2):Prop:=
  ∀ (pins:List (Addr×Obj)) (s:Shared) (σ:St) (H:Hp) (x y:V) (v u:Value) (Q:VK),Inv X pins σ H s->RelV x v->RelV y u->r x y H Q->
    wpAny (model X.prog X.w) X.A (f v u) (EP X pins σ Q) X.xe s
def UnR (X:Cx) (f:Value->Sem Value) (r:V->Hp->VK->Prop):Prop:=
  ∀ (pins:List (Addr×Obj)) (s:Shared) (σ:St) (H:Hp) (x:V) (v:Value) (Q:VK),Inv X pins σ H s->RelV x v->r x H Q->
    wpAny (model X.prog X.w) X.A (f v) (EP X pins σ Q) X.xe s
def qfM (X:Cx) (f:Value) (r:List V->Hp->VK->Prop):Prop:=
  ∀ (pins:List (Addr×Obj)) (s:Shared) (σ:St) (H:Hp) (xs:List V) (us:List Value) (Q:VK),Inv X pins σ H s->Vals xs us->r xs H Q->
    wpAny (model X.prog X.w) X.A (call f us) (EP X pins σ Q) X.xe s
def TruR (X:Cx) (r:V->Hp->(Bool->Hp->Prop)->Prop):Prop:=
  ∀ (pins:List (Addr×Obj)) (s:Shared) (σ:St) (H:Hp) (x:V) (v:Value) (Q:Bool->Hp->Prop),Inv X pins σ H s->RelV x v->r x H Q->
    wpAny (model X.prog X.w) X.A (truthy v) (TP X pins σ Q) X.xe s
noncomputable def tOp (r:R2) (ta tb:TE):TE:=fun σ H Q=>ta σ H fun x H1=>tb σ H1 fun y H2=>r x y H2 Q
noncomputable def tUn (r:V->Hp->VK->Prop) (ta:TE):TE:=fun σ H Q=>ta σ H fun x H1=>r x H1 Q
noncomputable def rI (C:Int->Int->Prop) (g:Int->Int->V):R2:=fun x y H Q=>∃ i j,x=.int i/\y=.int j/\C i j/\Q (g i j) H
noncomputable def rI0 (g:Int->Int->V):R2:=fun x y H Q=>∃ i j,x=.int i/\y=.int j/\Q (g i j) H
noncomputable def rU (g:Int->V):V->Hp->VK->Prop:=fun x H Q=>∃ i,x=.int i/\Q (g i) H
section
variable {X:Cx}{a b c:Expr}{ta tb tc:TE}{pos:Pos}
theorem binT (ha:PE X a ta) (hb:PE X b tb) {pins:List (Addr×Obj)}{s:Shared}{σ:St}{H:Hp}{R:V->V->Hp->Prop} (I:Inv X pins σ H s)
    (h:ta σ H fun x H1=>tb σ H1 fun y H2=>R x y H2) {Q:Value->Shared->Prop}{f:Value->Value->Sem Value}
    (hf:∀ v u s2 x y H2,Inv X pins σ H2 s2->RelV x v->RelV y u->R x y H2->wpAny (model X.prog X.w) X.A (f v u) Q X.xe s2):
    wpAny (model X.prog X.w) X.A (eval a X.env) (fun v s₁=>wpAny (model X.prog X.w) X.A (eval b X.env) (fun u s₂=>wpAny (model X.prog X.w) X.A (f v u) Q X.xe s₂) X.xe s₁) X.xe s:=by
  refine thn (ha pins s σ H _ I h) fun v s1 q9=>?_
  obtain⟨x,H1,I1,r1,q1⟩:=q9
  refine thn (hb pins s1 σ H1 _ I1 q1) fun u s2 q9=>?_
  obtain⟨y,H2,I2,r2,q2⟩:=q9
  exact hf v u s2 x y H2 I2 r1 r2 q2
theorem pe_op {op:Operator}{r:R2} (ho:OpR X (binaryOp op) r) (ha:PE X a ta) (hb:PE X b tb):PE X (.BinOp a op b pos) (tOp r ta tb):=by
  intro pins s σ H Q I h
  exact wpAny_BinOp (binT ha hb I h fun v u s2 x y H2 I2 rx ry q=>ho pins s2 σ H2 x y v u Q I2 rx ry q)
theorem pe_un {op:UnaryOp}{r:V->Hp->VK->Prop} (ho:UnR X (unaryOp op) r) (ha:PE X a ta):PE X (.UnaryOp op a pos) (tUn r ta):=by
  intro pins s σ H Q I h
  exact UnaryOp_ (thn (ha pins s σ H _ I h) fun v s1 q9=>by obtain⟨x,H1,I1,r1,q1⟩:=q9; exact ho pins s1 σ H1 x v Q I1 r1 q1)
theorem opI {f:Value->Value->Sem Value}{C:Int->Int->Prop}{g:Int->Int->Int}
    (rule:∀ (i j:Int) (t u:Tok) (s:Shared) (Q:Value->Shared->Prop) (E:Value->Shared->Prop),C i j->Q (.int (g i j) s.toks) { s with toks:=s.toks+1 }->wpAny (model X.prog X.w) X.A (f (.int i t) (.int j u)) Q E s):
    OpR X f (rI C fun i j=>.int (g i j)):=by
  intro pins s σ H x y v u Q I rx ry h
  obtain⟨i,j,rfl,rfl,hc,q⟩:=h
  obtain⟨t,rfl⟩:=rx
  obtain⟨t',rfl⟩:=ry
  exact rule i j t t' s _ _ hc ⟨.int (g i j),H,I.tok _,⟨_,rfl⟩,q⟩
theorem opI0 {f:Value->Value->Sem Value}{g:Int->Int->Int}
    (rule:∀ (i j:Int) (t u:Tok) (s:Shared) (Q:Value->Shared->Prop) (E:Value->Shared->Prop),Q (.int (g i j) s.toks) { s with toks:=s.toks+1 }->wpAny (model X.prog X.w) X.A (f (.int i t) (.int j u)) Q E s):
    OpR X f (rI0 fun i j=>.int (g i j)):=by
  intro pins s σ H x y v u Q I rx ry h
  obtain⟨i,j,rfl,rfl,q⟩:=h
  obtain⟨t,rfl⟩:=rx
  obtain⟨t',rfl⟩:=ry
  exact rule i j t t' s _ _ ⟨.int (g i j),H,I.tok _,⟨_,rfl⟩,q⟩
theorem opB0 {f:Value->Value->Sem Value}{g:Int->Int->Bool}
    (rule:∀ (i j:Int) (t u:Tok) (s:Shared) (Q:Value->Shared->Prop) (E:Value->Shared->Prop),Q (.bool (g i j)) s->wpAny (model X.prog X.w) X.A (f (.int i t) (.int j u)) Q E s):
    OpR X f (rI0 fun i j=>.bl (g i j)):=by
  intro pins s σ H x y v u Q I rx ry h
  obtain⟨i,j,rfl,rfl,q⟩:=h
  obtain⟨t,rfl⟩:=rx
  obtain⟨t',rfl⟩:=ry
  exact rule i j t t' s _ _ ⟨.bl (g i j),H,I,rfl,q⟩
def CDiv (i j:Int):Prop:=0 < j/\j < 1073741824
def CDivN (i j:Int):Prop:=j≠0/\j.natAbs < 1073741824
def CPow (i j:Int):Prop:=0<=j/\j<=1000000/\i.natAbs < 2 ^ 64
def CMul (i j:Int):Prop:=(-(2 ^ 64) < i/\i < 2 ^ 64)\/(-(2 ^ 64) < j/\j < 2 ^ 64)
theorem CMul.ok {i j:Int} (h:CMul i j):IntMulOk i j:=by
  rcases h with⟨h1,h2⟩ | ⟨h1,h2⟩
  · exact .of_left (intBits_le_64 h1 h2)
  · exact .of_right (intBits_le_64 h1 h2)
theorem op_add:OpR X (binaryOp .Add) (rI0 fun i j=>.int (i+j)):=opI0 fun _ _ _ _ _ _ _ q=>add_int q
theorem qov:OpR X (binaryOp .Sub) (rI0 fun i j=>.int (i - j)):=opI0 fun _ _ _ _ _ _ _ q=>sub_int q
theorem qnb:OpR X (binaryOp .FloorDiv) (rI CDiv fun i j=>.int (i / j)):=opI fun i j _ _ _ _ _ hc q=>by
  have h1:(0:Int) < j:=hc.1
  have h2:j < 1073741824:=hc.2
  exact floordiv_int (by lia) (by rw [Int.fdiv_eq_ediv_of_nonneg i (by lia)]; exact q) (.inl (PyProof.noPylong_small (by lia)))
theorem qoy:OpR X (binaryOp .Mod) (rI (fun _ j=>0 < j) fun i j=>.int (i % j)):=opI fun i j _ _ _ _ _ hc q=>by
  have h1:(0:Int) < j:=hc
  exact mod_int' (by lia) (by rw [Int.fmod_eq_emod_of_nonneg i (by lia)]; exact q)
theorem qow:OpR X (binaryOp .Pow) (rI CPow fun i j=>.int (i ^ j.toNat)):=opI fun _ _ _ _ _ _ _ hc q=>pow_int_small hc.1 hc.2.1 hc.2.2 q
theorem unI {f:Value->Sem Value}{g:Int->Int}
    (rule:∀ (i:Int) (t:Tok) (s:Shared) (Q:Value->Shared->Prop) (E:Value->Shared->Prop),Q (.int (g i) s.toks) { s with toks:=s.toks+1 }->wpAny (model X.prog X.w) X.A (f (.int i t)) Q E s):
    UnR X f (rU fun i=>.int (g i)):=by
  intro pins s σ H x v Q I rx h
  obtain⟨i,rfl,q⟩:=h
  obtain⟨t,rfl⟩:=rx
  exact rule i t s _ _ ⟨.int (g i),H,I.tok _,⟨_,rfl⟩,q⟩
theorem qnQ:UnR X (unaryOp .USub) (rU fun i=>.int (-i)):=unI fun _ _ _ _ _ q=>neg_int q
end
noncomputable def scal:V->V->Bool
  | .non,.non=>true | .non,.int _=>true | .int _,.non=>true | .non,.bl _=>true | .bl _,.non=>true | .non,.str _=>true | .str _,.non=>true
  | .int _,.int _=>true | .bl _,.bl _=>true | .str _,.str _=>true | .byt _,.byt _=>true
  | .int _,.str _=>true | .str _,.int _=>true | .bl _,.str _=>true | .str _,.bl _=>true
  | _,_=>false
noncomputable def rEq:R2:=fun x y H Q=>scal x y=true/\Q (.bl (decide (x=y))) H
noncomputable def rNe:R2:=fun x y H Q=>scal x y=true/\Q (.bl (!decide (x=y))) H
theorem qh6 {i j:Int}:decide (V.int i=V.int j)=(i==j):=by
  rw [Bool.eq_iff_iff]
  simp
theorem qkZ {i j:Bool}:decide (V.bl i=V.bl j)=(i==j):=by
  rw [Bool.eq_iff_iff]
  simp
theorem qh5 {i j:Str}:decide (V.str i=V.str j)=(i==j):=by
  rw [Bool.eq_iff_iff]
  simp
theorem qkY {i j:Array UInt8}:decide (V.byt i=V.byt j)=(i.toList==j.toList):=by
  rw [Bool.eq_iff_iff]
  cases i
  cases j
  simp
section
variable {X:Cx}{a b c:Expr}{ta tb tc:TE}{pos:Pos}
theorem qbi {pins:List (Addr×Obj)}{σ:St}{H:Hp}{s:Shared}{Q:VK}{k k':Bool} (I:Inv X pins σ H s) (q:Q (.bl k) H) (e:k=k'):EP X pins σ Q (.bool k') s:=by
  subst e
  exact⟨.bl k,H,I,rfl,q⟩
theorem op_eq:OpR X (compareOp .Eq) rEq:=by
  intro pins s σ H x y v u Q I rx ry h
  obtain⟨hs,q⟩:=h
  cases x with
  | non=>
    cases rx
    cases y with
    | non=>cases ry; exact PySem.EqNone.eq_none_none (qbi I q (by simp))
    | bl j=>cases ry; exact PySem.EqNone.eq_none_bool (qbi I q (by simp))
    | int j=>obtain⟨t',rfl⟩:=ry; exact PySem.EqNone.eq_none_int (qbi I q (by simp))
    | str j=>obtain⟨t',rfl⟩:=ry; exact PySem.EqNone.eq_none_str (qbi I q (by simp))
    | _=>exact absurd (show false=true from hs) zZ
  | bl i=>
    cases rx
    cases y with
    | non=>cases ry; exact PySem.EqNone.eq_bool_none (qbi I q (by simp))
    | bl j=>cases ry; exact eq_bool (qbi I q qkZ)
    | str j=>obtain⟨t',rfl⟩:=ry; exact PySem.EqMixed.eq_bool_str (qbi I q (by simp))
    | _=>exact absurd (show false=true from hs) zZ
  | int i=>
    obtain⟨t,rfl⟩:=rx
    cases y with
    | non=>cases ry; exact PySem.EqNone.eq_int_none (qbi I q (by simp))
    | int j=>obtain⟨t',rfl⟩:=ry; exact eq_int (qbi I q qh6)
    | str j=>obtain⟨t',rfl⟩:=ry; exact PySem.EqMixed.eq_int_str (qbi I q (by simp))
    | _=>exact absurd (show false=true from hs) zZ
  | str i=>
    obtain⟨t,rfl⟩:=rx
    cases y with
    | non=>cases ry; exact PySem.EqNone.eq_str_none (qbi I q (by simp))
    | bl j=>cases ry; exact PySem.EqMixed.eq_str_bool (qbi I q (by simp))
    | int j=>obtain⟨t',rfl⟩:=ry; exact PySem.EqMixed.eq_str_int (qbi I q (by simp))
    | str j=>obtain⟨t',rfl⟩:=ry; exact eq_str (qbi I q qh5)
    | _=>exact absurd (show false=true from hs) zZ
  | byt i=>
    obtain⟨t,rfl⟩:=rx
    cases y with
    | byt j=>obtain⟨t',rfl⟩:=ry; exact PySem.W.eq_bytes (qbi I q qkY)
    | _=>exact absurd (show false=true from hs) zZ
  | _=>cases y<;>exact absurd (show false=true from hs) zZ
theorem op_ne:OpR X (compareOp .NotEq) rNe:=by
  intro pins s σ H x y v u Q I rx ry h
  obtain⟨hs,q⟩:=h
  cases x with
  | non=>
    cases rx
    cases y with
    | non=>cases ry; exact PySem.EqNone.ne_none_none (qbi I q (by simp))
    | bl j=>cases ry; exact PySem.EqNone.ne_none_bool (qbi I q (by simp))
    | int j=>obtain⟨t',rfl⟩:=ry; exact PySem.EqNone.ne_none_int (qbi I q (by simp))
    | str j=>obtain⟨t',rfl⟩:=ry; exact PySem.EqNone.ne_none_str (qbi I q (by simp))
    | _=>exact absurd (show false=true from hs) zZ
  | bl i=>
    cases rx
    cases y with
    | non=>cases ry; exact PySem.EqNone.ne_bool_none (qbi I q (by simp))
    | bl j=>cases ry; exact ne_bool (qbi I q (congrArg not qkZ))
    | str j=>obtain⟨t',rfl⟩:=ry; exact PySem.EqMixed.ne_bool_str (qbi I q (by simp))
    | _=>exact absurd (show false=true from hs) zZ
  | int i=>
    obtain⟨t,rfl⟩:=rx
    cases y with
    | non=>cases ry; exact PySem.EqNone.ne_int_none (qbi I q (by simp))
    | int j=>obtain⟨t',rfl⟩:=ry; exact ne_int (qbi I q (congrArg not qh6))
    | str j=>obtain⟨t',rfl⟩:=ry; exact PySem.EqMixed.ne_int_str (qbi I q (by simp))
    | _=>exact absurd (show false=true from hs) zZ
  | str i=>
    obtain⟨t,rfl⟩:=rx
    cases y with
    | non=>cases ry; exact PySem.EqNone.ne_str_none (qbi I q (by simp))
    | bl j=>cases ry; exact PySem.EqMixed.ne_str_bool (qbi I q (by simp))
    | int j=>obtain⟨t',rfl⟩:=ry; exact PySem.EqMixed.ne_str_int (qbi I q (by simp))
    | str j=>obtain⟨t',rfl⟩:=ry; exact ne_str (qbi I q (congrArg not qh5))
    | _=>exact absurd (show false=true from hs) zZ
  | byt i=>
    obtain⟨t,rfl⟩:=rx
    cases y with
    | byt j=>obtain⟨t',rfl⟩:=ry; exact PySem.W.ne_bytes (qbi I q (congrArg not qkY))
    | _=>exact absurd (show false=true from hs) zZ
  | _=>cases y<;>exact absurd (show false=true from hs) zZ
theorem qoz:OpR X (compareOp .Lt) (rI0 fun i j=>.bl (decide (i < j))):=opB0 fun _ _ _ _ _ _ _ q=>lt_int q
theorem op_le:OpR X (compareOp .LtE) (rI0 fun i j=>.bl (decide (i<=j))):=opB0 fun _ _ _ _ _ _ _ q=>le_int q
theorem op_gt:OpR X (compareOp .Gt) (rI0 fun i j=>.bl (decide (j < i))):=opB0 fun _ _ _ _ _ _ _ q=>gt_int q
theorem op_ge:OpR X (compareOp .GtE) (rI0 fun i j=>.bl (decide (j<=i))):=opB0 fun _ _ _ _ _ _ _ q=>ge_int q
theorem qm9:OpR X (compareOp .IsNot) (fun x y H Q=>y=.non/\Q (.bl (!decide (x=.non))) H):=by
  intro pins s σ H x y v u Q I rx ry h
  obtain⟨rfl,q⟩:=h
  cases ry
  refine isnot_none_gen (qbi I q ?_)
  cases x<;>first
    | (cases rx; rfl)
    | (obtain⟨t,rfl⟩:=rx; rfl)
noncomputable def isObj:HO->Bool
  | .lst _=>true
  | .ins _ _ _=>true
  | _=>false
theorem qhe {pins:List (Addr×Obj)}{s:Shared}{σ:St}{H:Hp}{a:Addr}{o:HO} (I:Inv X pins σ H s) (h:H a=some o) (p:isObj o=true):∃ ob,s.heap.get? a=some ob/\ob.cls≠.type "tuple":=by
  cases o with
  | lst xs=>
    obtain⟨_,its,n,_,e⟩:xs.length<=sizeLine/\∃ (its:List Value) (n:Nat),Vals xs its/\s.heap.get? a=some { cls:=.type "list",data:=.seq its.toArray n }:=I.hok a _ h
    exact⟨_,e,(by show Value.type "list"≠.type "tuple"; decide +kernel)⟩
  | ins C dx fs=>
    have x:=I.hok a _ h
    obtain⟨_,_,_,e,_⟩:=x
    exact⟨_,e,(by show Value.ref C≠.type "tuple"; exact fun z=>by cases z)⟩
  | _=>exact absurd (show false=true from p) zZ
theorem OpR.or {f:Value->Value->Sem Value}{r r':R2} (h:OpR X f r) (h':OpR X f r'):OpR X f (fun x y H Q=>r x y H Q\/r' x y H Q):=by
  intro pins s σ H x y v u Q I rx ry q
  rcases q with q | q
  · exact h pins s σ H x y v u Q I rx ry q
  · exact h' pins s σ H x y v u Q I rx ry q
theorem qef (b:Expr) {op:CmpOp} (h:op≠.In:=by decide) (h2:op≠.NotIn:=by decide):behindInMarks op b=false:=by
  have e1:(op==CmpOp.In)=false:=by cases op<;>first | rfl | exact absurd rfl h
  have e2:(op==CmpOp.NotIn)=false:=by cases op<;>first | rfl | exact absurd rfl h2
  cases b<;>simp [behindInMarks,e1,e2]
theorem qm5 {op:CmpOp}{r:R2} (ho:OpR X (compareOp op) r) (ha:PE X a ta) (hb:PE X b tb) (hm:behindInMarks op b=false):PE X (.Compare a [op] [b] pos) (tOp r ta tb):=by
  intro pins s σ H Q I h
  exact wpAny_Compare1 (binT ha hb I h fun v u s2 x y H2 I2 rx ry q=>ho pins s2 σ H2 x y v u Q I2 rx ry q) hm
noncomputable def tTest (t:TE):TT:=fun σ H Q=>t σ H fun x H'=>∃ k,x=.bl k/\Q k H'
theorem qmW {op:CmpOp}{r:R2} (ho:OpR X (compareOp op) r) (ha:PE X a ta) (hb:PE X b tb) (hm:behindInMarks op b=false):PT X (.Compare a [op] [b] pos) (tTest (tOp r ta tb)):=by
  intro pins s σ H Q I h
  refine wpAny_isTrue_Compare1 (thn (ha pins s σ H _ I h) fun v s1 ⟨x,H1,I1,r1,q1⟩=>thn (hb pins s1 σ H1 _ I1 q1) fun u s2 ⟨y,H2,I2,r2,q2⟩=>
    thn (ho pins s2 σ H2 x y v u _ I2 r1 r2 q2) fun c s3 ⟨z,H3,I3,r3,k,e,q3⟩=>?_) hm
  subst e
  cases r3
  exact wpAny_truthy_bool ⟨H3,I3,q3⟩
noncomputable def tChain (r r':R2) (ta tb tc:TE):TE:=fun σ H Q=>ta σ H fun x H1=>tb σ H1 fun y H2=>r x y H2 fun z H3=>∃ k,z=.bl k/\
  (if k=true then tc σ H3 fun w' H4=>r' y w' H4 Q else Q (.bl false) H3)
def TruV (K:PySem.W.Frag) (x:V) (H:Hp) (k:Bool):Prop:=
  match x with
  | .non=>k=false
  | .bl b=>k=b
  | .int i=>k=(i != 0)
  | .str y=>y.length<=sizeLine/\k=((y.length:Int) != 0)
  | .byt y=>y.size<=sizeLine/\k=((y.size:Int) != 0)
  | .ref p=>(∃ xs,SqL K H p xs/\k=!xs.isEmpty)\/(∃ xs,SqT K H p xs/\k=!xs.isEmpty)\/∃ kvs,H p=some (.dK kvs)/\k=!kvs.isEmpty
  | _=>False
theorem qhi:(sizeLine:Nat) < 2 ^ 63:=by rw [sizeLine_eq]; decide
theorem op_add_str:OpR X (binaryOp .Add) (fun x y H Q=>∃ i j,x=.str i/\y=.str j/\i.length+j.length<=sizeLine/\Q (.str (i++j)) H):=by
  intro pins s σ H x y v u Q I rx ry h
  obtain⟨i,j,rfl,rfl,hz,q⟩:=h
  obtain⟨t,rfl⟩:=rx
  obtain⟨t',rfl⟩:=ry
  exact add_str (fun t' tk=>⟨.str (i++j),H,I.tok _,⟨_,rfl⟩,q⟩) hz
def PlainIxT (b:Expr):Prop:=∀ o i,subscripted b false o i=operate [o,i] (getItem o i)
theorem qln {x:V}{us:List Value} (r:Vals [x] us):∃ u,us=[u]/\RelV x u:=by
  cases r with
  | cons r1 r2=>cases r2; exact⟨_,rfl,r1⟩
theorem qnP {x y:V}{us:List Value} (r:Vals [x,y] us):∃ u w',us=[u,w']/\RelV x u/\RelV y w':=by
  cases r with
  | cons r1 r2=>
    cases r2 with
    | cons r3 r4=>cases r4; exact⟨_,_,rfl,r1,r3⟩
theorem qla (hc:X.calm=true):qfM X (.builtin "max") (fun xs H Q=>∃ i j,xs=[.int i,.int j]/\Q (.int (if j > i then j else i)) H):=by
  intro pins s σ H xs us Q I r h
  obtain⟨i,j,rfl,q⟩:=h
  obtain⟨u,w',rfl,⟨t,rfl⟩,⟨t',rfl⟩⟩:=qnP r
  refine max_two_ints (I.ok.hd hc) fun h' tk k=>⟨_,H,I.kept k,?_,q⟩
  by_cases hj:j > i
  · rw [if_pos hj,if_pos hj]; exact⟨_,rfl⟩
  · rw [if_neg hj,if_neg hj]; exact⟨_,rfl⟩
theorem qhB:qfM X (.type "str") (fun xs H Q=>∃ i,xs=[.int i]/\i.natAbs.log2 < 1920/\Q (.str (toString i)) H):=by
  intro pins s σ H xs us Q I r h
  obtain⟨i,rfl,hz,q⟩:=h
  obtain⟨u,rfl,t,rfl⟩:=qln r
  exact PySem.P.str_of_int hz ⟨.str _,H,I.tok _,⟨_,rfl⟩,q⟩
def LenV (K:PySem.W.Frag) (x:V) (H:Hp) (n:Nat):Prop:=
  match x with
  | .str y=>y.length<=sizeLine/\n=y.length
  | .byt y=>y.size<=sizeLine/\n=y.size
  | .ref p=>(∃ xs,SqL K H p xs/\n=xs.length)\/∃ xs,SqT K H p xs/\n=xs.length
  | _=>False
end
end L2
namespace L2
open PySem PySem.Spec PyProof.Rows
structure ObjM (h:Heap) (x dx C:Addr) (mA:Str->Option Value):Prop where
  obj:h.get? x=some (PySem.W.instObj C dx)
  ns:h.Ns1 dx mA
  ne:dx≠x
theorem qkr {h:Heap}{dx:Addr}{mA:Str->Option Value} (n:h.Ns1 dx mA):∃ od,h.get? dx=some od/\∀ name,PySem.W.lookIn name od=some (mA name):=by
  obtain⟨o,es,ep,ho,hd,hk,_,hm⟩:=n
  refine⟨o,ho,fun name=>?_⟩
  have e:=hm name
  unfold nsFind findBy at e
  rw [<-Array.find?_toList] at e
  unfold PySem.W.lookIn
  rw [hd]
  dsimp only
  split
  · rename_i y q
    rw [q] at e
    exact congrArg some e
  · rename_i q
    rw [q] at e
    have a:es.toList.any (·.refKey)=false:=by
      rw [List.any_eq_false]
      intro y hy
      obtain⟨z,t,hkey⟩:=hk y (Array.mem_toList_iff.mp hy)
      simp [DictEntry.refKey,hkey]
    have a':¬ es.toList.any (·.refKey)=true:=by rw [a]; exact zZ
    rw [if_neg a']
    exact congrArg some e
theorem ObjM.look {h:Heap}{x dx C:Addr}{mA:Str->Option Value} (I:ObjM h x dx C mA):∃ od,PySem.W.InstAt h x (PySem.W.instObj C dx) C (some od)/\∀ name,PySem.W.lookIn name od=some (mA name):=
  let ⟨od,ho,hl⟩:=qkr I.ns
  ⟨od,⟨I.obj,rfl,rfl,ho⟩,hl⟩
section
variable {prog:Program}{w:World}{A:Around}{E:Value->Shared->Prop}{s:Shared}{K:PySem.W.Frag}{x dx C f:Addr}{mA:Str->Option Value}{name:Str}{v:Value}
end
noncomputable def putF (f:Str) (v:V):List (Str×V)->List (Str×V)
  | []=>[(f,v)]
  | (g,x)::r=>if g=f then (g,v)::r else (g,x)::putF f v r
section
variable {P:Program}{w:World}{H H':Hp}{h h':Heap}{a C dx:Addr}{fs fs':List (Str×V)}
theorem qnk (hok:HOk P w H h) (e:H a=some (.ins C dx fs)):∃ mA,ObjM h a dx C mA/\(∀ f,RelO (fs.lookup f) (mA f))/\PySem.Within mA (fs.map (·.1))/\fs.length<=1000/\H dx=some (.own a):=by
  obtain⟨d,z,ne,ob,mA,n,r,q⟩:=(show ObjOk P w H h a (.ins C dx fs) from hok a _ e)
  exact⟨mA,⟨ob,n,ne⟩,r,q,z,d⟩
end
structure Cls (K:PySem.W.Frag) (C:Addr):Prop where
  pg:PySem.W.plainGet K C Str.empty=true
  hd:PySem.W.hasDictIn K C=true
  po:PySem.W.plainOver K C=true
  sa:PySem.W.findIn K (.ref C) "__setattr__"=some (some (.builtin "object.__setattr__"))
theorem Cls.get {K:PySem.W.Frag}{C:Addr} (c:Cls K C) (f:Str):PySem.W.plainGet K C f=true:=c.pg
def qll (K:PySem.W.Frag) (C:Addr) (f:Str):Prop:=PySem.W.findIn K (.ref C) f=some none
structure Con (K:PySem.W.Frag) (C:Addr) (f:Str) (v:V) (u:Value):Prop where
  at_:PySem.W.findIn K (.ref C) f=some (some u)
  rel:RelV v u
  get:PySem.W.specialIn K u "__get__"=some none
  cp:PySem.W.copiedNames.contains f=false
structure Meth (K:PySem.W.Frag) (C:Addr) (m:Str) (f:Addr):Prop where
  at_:PySem.W.findIn K (.ref C) m=some (some (.ref f))
  fn:PySem.W.isFn K (.ref f)=true
  kp:PySem.W.keepIn K (.ref f)=true
section
variable {X:Cx}{pins:List (Addr×Obj)}{σ:St}{H:Hp}{s:Shared}{a C dx:Addr}{fs:List (Str×V)}{f:Str}{v:V}{A:Around}{E:Value->Shared->Prop}
end
noncomputable def tFld (K:PySem.W.Frag) (ta:TE) (f:Str):TE:=fun σ H Q=>ta σ H fun x H1=>∃ a C dx fs v,x=.ref a/\H1 a=some (.ins C dx fs)/\Cls K C/\qll K C f/\fs.lookup f=some v/\Q v H1
noncomputable def tCon (K:PySem.W.Frag) (ta:TE) (f:Str):TE:=fun σ H Q=>ta σ H fun x H1=>∃ a C dx fs v u,x=.ref a/\H1 a=some (.ins C dx fs)/\Cls K C/\Con K C f v u/\fs.lookup f=none/\Q v H1
noncomputable def sFld (K:PySem.W.Frag) (ta tv:TE) (f:Str):TS:=fun D σ H=>tv σ H fun y H1=>ta σ H1 fun x H2=>∃ a C dx fs,x=.ref a/\H2 a=some (.ins C dx fs)/\Cls K C/\qll K C f/\fs.length < 1000/\
  D.nx σ (upd H2 a (.ins C dx (putF f y fs)))
def InOp (X:Cx) (op:Operator) (rd:V->V->Hp->VK->Prop):Prop:=
  ∀ (pins:List (Addr×Obj)) (s:Shared) (σ:St) (H:Hp) (x y:V) (u v:Value) (Q:VK),Inv X pins σ H s->RelV x u->RelV y v->rd x y H Q->wpAny (model X.prog X.w) X.A (inplaceOp op u v) (EP X pins σ Q) X.xe s
noncomputable def sFldAug (K:PySem.W.Frag) (ta tv:TE) (rd:V->V->Hp->VK->Prop) (f:Str):TS:=fun D σ H=>ta σ H fun x H1=>∃ a C dx fs v,x=.ref a/\H1 a=some (.ins C dx fs)/\Cls K C/\qll K C f/\fs.lookup f=some v/\
  tv σ H1 fun y H2=>rd v y H2 fun z H3=>∃ dx' fs',H3 a=some (.ins C dx' fs')/\fs'.length < 1000/\D.nx σ (upd H3 a (.ins C dx' (putF f z fs')))
section
variable {X:Cx}{o e value:Expr}{f:Str}{pos pos' tpos:Pos}{ta tv:TE}
noncomputable def rAdd:V->V->Hp->VK->Prop:=fun x y H Q=>∃ i j,x=.int i/\y=.int j/\Q (.int (i+j)) H
noncomputable def rSub:V->V->Hp->VK->Prop:=fun x y H Q=>∃ i j,x=.int i/\y=.int j/\Q (.int (i - j)) H
end
section
variable {X:Cx}{pins:List (Addr×Obj)}{σ:St}{H:Hp}{s:Shared}{A:Around}{E:Value->Shared->Prop}{Q:Value->Shared->Prop}{c:Value}{b:Bool}
inductive TyOf (K:PySem.W.Frag) (H:Hp):V->Value->Prop where
  | non:TyOf K H .non (.type "NoneType")
  | bl (x:Bool):TyOf K H (.bl x) (.type "bool")
  | int (i:Int):TyOf K H (.int i) (.type "int")
  | str (x:Str):TyOf K H (.str x) (.type "str")
  | flt (x:UInt64):TyOf K H (.flt x) (.type "float")
  | lst {a:Addr}{xs:List V} (e:H a=some (.lst xs)):TyOf K H (.ref a) (.type "list")
  | frz {a:Addr}{o:Obj}{xs:List V} (e:H a=some (.frz o (.lst xs))):TyOf K H (.ref a) (.type "list")
  | tup {a:Addr}{xs:List V} (e:H a=some (.tup xs)):TyOf K H (.ref a) (.type "tuple")
  | dK {a:Addr}{kvs:List (Key×V)} (e:H a=some (.dK kvs)):TyOf K H (.ref a) (.type "dict")
  | dT {a:Addr}{kvs:List (List Key×V)} (e:H a=some (.dT kvs)):TyOf K H (.ref a) (.type "dict")
  | ins {a C dx:Addr}{fs:List (Str×V)} (e:H a=some (.ins C dx fs)) (cl:Cls K C) (ha:PySem.W.findIn K (.ref C) "__class__"=some (some (.builtin "object.__class__")))
      (hn:PySem.W.specialIn K (.builtin "object.__class__") "__get__"=some (some (.builtin "getset_descriptor.__get__"))) (htk:PySem.W.takesIn K (.builtin "object.__class__")=some true)
      (hm:PySem.W.mroIn K C (.type "object")=some true):TyOf K H (.ref a) (.ref C)
theorem qkv {x:V}{u t:Value} (I:Inv X pins σ H s) (rx:RelV x u) (ty:TyOf X.K H x t) (e:PySem.W.kitOne X.K t c=some b) (h:∀ tk,Q (.bool b) { s with toks:=tk }):
    wpAny (model X.prog X.w) A (call (.builtin "isinstance") [u,c]) Q E s:=by
  cases ty with
  | non=>cases (show u=Value.none from rx); exact PySem.W.kia_one PySem.W.kitx_none I.kIn True.intro e (fun z=>nomatch z) h
  | bl y=>cases (show u=Value.bool y from rx); exact PySem.W.kia_one PySem.W.kitx_bool I.kIn True.intro e (fun z=>nomatch z) h
  | int i=>obtain⟨t,q⟩:=(show ∃ t,u=Value.int i t from rx); cases q; exact PySem.W.kia_one PySem.W.kitx_int I.kIn True.intro e (fun z=>nomatch z) h
  | str y=>obtain⟨t,q⟩:=(show ∃ t,u=Value.str y t from rx); cases q; exact PySem.W.kia_one PySem.W.kitx_str I.kIn True.intro e (fun z=>nomatch z) h
  | flt y=>obtain⟨t,q⟩:=(show ∃ t,u=Value.float y t from rx); cases q; exact PySem.W.kia_one PySem.W.kitx_float I.kIn True.intro e (fun z=>nomatch z) h
  | @lst a xs ea=>
    cases (show u=Value.ref a from rx)
    obtain⟨_,_,n,_,h1⟩:=(show ObjOk X.prog X.w H s.heap a (.lst xs) from I.hok a _ ea)
    exact PySem.W.kia_one PySem.W.kitx_list I.kIn ⟨_,h1,rfl⟩ e (fun z=>nomatch z) h
  | @frz a ob xs ea=>
    cases (show u=Value.ref a from rx)
    obtain⟨_,_,_,n,_,h1⟩:=(show ObjOk X.prog X.w H s.heap a (.frz ob (.lst xs)) from I.hok a _ ea)
    exact PySem.W.kia_one PySem.W.kitx_list I.kIn ⟨_,h1,rfl⟩ e (fun z=>nomatch z) h
  | @tup a xs ea=>
    cases (show u=Value.ref a from rx)
    obtain⟨_,_,_,p⟩:=(show ObjOk X.prog X.w H s.heap a (.tup xs) from I.hok a _ ea)
    obtain⟨o,h1,h2,_⟩:=p
    exact PySem.W.kia_one PySem.W.kitx_tuple I.kIn ⟨o,h1,h2⟩ e (fun z=>nomatch z) h
  | @dK a kvs ea=>
    cases (show u=Value.ref a from rx)
    obtain⟨_,_,vs,_,p⟩:=(show ObjOk X.prog X.w H s.heap a (.dK kvs) from I.hok a _ ea)
    obtain⟨o,es,ep,h1,h2,_⟩:=p
    exact PySem.W.kia_one PySem.W.kitx_dict I.kIn ⟨o,h1,h2.1⟩ e (fun z=>nomatch z) h
  | @dT a kvs ea=>
    cases (show u=Value.ref a from rx)
    obtain⟨_,_,xs,_,o,es,ep,h1,h2,_⟩:=(show ObjOk X.prog X.w H s.heap a (.dT kvs) from I.hok a _ ea)
    exact PySem.W.kia_one PySem.W.kitx_dict I.kIn ⟨o,h1,h2.1⟩ e (fun z=>nomatch z) h
  | @ins a C dx fs ea cl ha hn htk hm=>
    cases (show u=Value.ref a from rx)
    obtain⟨mA,O,_⟩:=qnk I.hok ea
    obtain⟨od,J,_⟩:=O.look
    exact PySem.W.kia_one (PySem.W.kitx_own (cl.get _) cl.hd ha hn htk hm) I.kIn J e (fun z=>nomatch z) h
end
end L2
namespace L2
open PySem PySem.Spec PyProof.Rows
structure Room (k:Nat) (A:Around):Prop where
  hd:A.handled=none
  dp:A.depth+3*k+5 < recursionLimit
  un:A.units+16*k+200 < cLine
theorem Room.mono {j k:Nat}{A:Around} (r:Room k A) (h:j<=k):Room j A:=⟨r.hd,by have:=r.dp; lia,by have:=r.un; lia⟩
theorem Room.deeper {k:Nat}{A:Around} (r:Room (k+1) A) (env:Env):Room k (A.deeper env):=
  ⟨r.hd,by have:=r.dp; show A.depth+1+3*k+5 < _; lia,by have:=r.un; show A.units+3+16*k+200 < _; lia⟩
theorem Room.depth {k:Nat}{A:Around} (r:Room k A):A.depth < recursionLimit:=by have:=r.dp; lia
noncomputable def tNil:TA:=fun _ H Q=>Q [] H
noncomputable def tCons (ta:TE) (tr:TA):TA:=fun σ H Q=>ta σ H fun x H1=>tr σ H1 fun xs H2=>Q (x::xs) H2
section
variable {X:Cx}{e:Expr}{es:List Expr}{te:TE}{t:TA}{pos:Pos}
theorem qmo:PA X [] tNil:=fun _ _ _ _ H Q I h=>Calls.spliced_nil ⟨[],H,I,.nil,h⟩
theorem qhQ (ha:PE X e te) (hr:PA X es t) (hs:starEach (e::es) X.env=(false,eval e X.env)::starEach es X.env:=by rfl):PA X (e::es) (tCons te t):=by
  intro pos pins s σ H Q I h
  rw [hs]
  show wpAny _ _ (spliced ((false,eval e X.env)::backTo pos (starEach es X.env))) _ _ s
  refine Calls.spliced_cons (thn (ha pins s σ H _ I h) fun u s1 q9=>?_)
  obtain⟨x,H1,I1,r1,q1⟩:=q9
  exact thn (hr pos pins s1 σ H1 _ I1 q1) fun us s2 ⟨xs,H2,I2,r2,q2⟩=>⟨x::xs,H2,I2,.cons r1 r2,q2⟩
noncomputable def tTup (t:TA):TE:=fun σ H Q=>t σ H fun xs H1=>xs.length<=sizeLine/\∀ p,H1 p=none->Q (.ref p) (upd H1 p (.tup xs))
noncomputable def tLst (t:TA):TE:=fun σ H Q=>t σ H fun xs H1=>xs.length<=sizeLine/\∀ p,H1 p=none->Q (.ref p) (upd H1 p (.lst xs))
theorem qom {x1} (h:PA X es t):PE X (.Tuple es x1 pos) (tTup t):=by
  intro pins s σ H Q I hq
  refine wpAny_Tuple_spliced (thn (h pos pins s σ H _ I hq) fun us s1 q9=>?_)
  obtain⟨xs,H1,I1,r,z,q⟩:=q9
  refine⟨by rw [<-r.length]; exact z,?_⟩
  have hf:H1 s1.heap.objs.size=none:=I1.hok.fresh (zS _)
  refine⟨.ref s1.heap.objs.size,upd H1 s1.heap.objs.size (.tup xs),I1.laid (t':=s1.toks) (fun b u e=>yH _ e) (zS _) ?_,rfl,q _ hf⟩
  exact⟨z,us,r,⟨_,xK _ rfl,rfl,_,rfl⟩⟩
theorem qor (h:PA X es t):PE X (.List es pos) (tLst t):=by
  intro pins s σ H Q I hq
  refine wpAny_List_spliced (thn (h pos pins s σ H _ I hq) fun us s1 q9=>?_)
  obtain⟨xs,H1,I1,r,z,q⟩:=q9
  refine⟨by rw [<-r.length]; exact z,?_⟩
  have hf:H1 s1.heap.objs.size=none:=I1.hok.fresh (zS _)
  refine⟨.ref s1.heap.objs.size,upd H1 s1.heap.objs.size (.lst xs),I1.laid (t':=s1.toks) (fun b u e=>yH _ e) (zS _) ?_,rfl,q _ hf⟩
  exact⟨z,us,0,r,xK _ rfl⟩
end
noncomputable abbrev Sp:=List V->Hp->VK->XK->Prop
noncomputable abbrev CXT:=List Env->Hp->Shared->XK->Value->Shared->Prop
structure Env0 (P:Program) (w:World) (K:PySem.W.Frag) (mg:Str->Option Value) (base:Heap) (A:Around) (outer:List Env) (s:Shared) (H:Hp):Prop where
  frames:A.frames=some outer
  mod:Mod K mg base
  bs:∀ b o,base.get? b=some o->s.heap.get? b=some o/\H b=none
  bsz:base.objs.size<=s.heap.objs.size
  funs:s.heap.FunFrames base outer
  frf:∀ b∈frs outer,H b=none
  hok:HOk P w H s.heap
  bare:AllBare s.gens
def CE (outer:List Env) (P:Program) (w:World) (H:Hp) (s:Shared) (Q:VK) (u:Value) (s':Shared):Prop:=
  ∃ v H',s'.os=s.os/\AllBare s'.gens/\Un (frs outer) [] H H' s.heap s'.heap/\HOk P w H' s'.heap/\RelV v u/\Q v H'
def CR (CX:CXT) (outer:List Env) (P:Program) (w:World) (H:Hp) (s:Shared) (Q:VK) (E:XK) (r:Result) (s':Shared):Prop:=
  match r with
  | .ok (.ret u)=>CE outer P w H s Q u s'
  | .ok _=>False
  | .error e=>CX outer H s E e s'
structure FnOk (P:Program) (w:World) (K:PySem.W.Frag) (mg:Str->Option Value) (base:Heap) (CX:CXT) (k:Nat) (f:Addr) (fd:FuncData) (ps:List Str) (sp:Sp):Prop where
  len:∀ vs H Q E,sp vs H Q E->vs.length=ps.length
  run:∀ (A:Around) (outer:List Env) (s:Shared) (H:Hp) (args:Args) (us:List Value) (vs:List V) (Q:VK) (E:XK),Room k A->Env0 P w K mg base A outer s H->BindsTo s fd args (ps.zip us)->Vals vs us->sp vs H Q E->
    codeAny (model P w) A (.call (.ref f) args) (CR CX outer P w H s Q E) s
theorem FnOk.mono {P:Program}{w:World}{K:PySem.W.Frag}{mg:Str->Option Value}{base:Heap}{CX:CXT}{j k:Nat}{f:Addr}{fd:FuncData}{ps:List Str}{sp:Sp} (F:FnOk P w K mg base CX j f fd ps sp) (h:j<=k):
    FnOk P w K mg base CX k f fd ps sp:=⟨F.len,fun A outer s H args us vs Q E hr=>F.run A outer s H args us vs Q E (hr.mono h)⟩
theorem FnOk.imp {P:Program}{w:World}{K:PySem.W.Frag}{mg:Str->Option Value}{base:Heap}{CX:CXT}{k:Nat}{f:Addr}{fd:FuncData}{ps:List Str}{sp sp':Sp} (F:FnOk P w K mg base CX k f fd ps sp)
    (h:∀ vs H Q E,sp' vs H Q E->sp vs H Q E):FnOk P w K mg base CX k f fd ps sp':=
  ⟨fun vs H Q E q=>F.len vs H Q E (h _ _ _ _ q),fun A outer s H args us vs Q E hr he hb hv hs=>F.run A outer s H args us vs Q E hr he hb hv (h _ _ _ _ hs)⟩
section
variable {X:Cx}{pins:List (Addr×Obj)}{σ:St}{H:Hp}{s s':Shared}
theorem Inv.env0 (I:Inv X pins σ H s):Env0 X.prog X.w X.K X.mg X.base X.A X.stack s H:=
  ⟨I.ok.frames,I.ok.mod,I.bs,yX I.ok.bsz I.sz,I.stack,I.stkFree,I.hok,I.bare⟩
theorem Inv.after {Q:VK}{u:Value} (I:Inv X pins σ H s) (h:CE X.stack X.prog X.w H s Q u s'):EP X pins σ Q u s':=by
  obtain⟨v,H',os,bare,un,hok,r,q⟩:=h
  obtain⟨hh,g,d,t,os'⟩:=s'
  obtain rfl:os'=s.os:=os
  exact⟨v,H',I.call (h':=hh) (g':=g) (d':=d) (t':=t) (ch:=[]) un hok bare (fun b z=>absurd z (by simp)),r,q⟩
end
noncomputable def tCall (sp:Sp) (dvs:List V) (E:XK) (t:TA):TE:=fun σ H Q=>t σ H fun vs H1=>sp (vs++dvs) H1 Q E
noncomputable def tMeth (C:Addr) (m:Str) (sp:Sp) (dvs:List V) (E:XK) (ta:TE) (t:TA):TE:=fun σ H Q=>ta σ H fun x H1=>∃ a dx fs,x=.ref a/\H1 a=some (.ins C dx fs)/\fs.lookup m=none/\
  t σ H1 fun vs H2=>sp (x::(vs++dvs)) H2 Q E
noncomputable def tMake (C:Addr) (sp:Sp) (dvs:List V) (E:XK) (t:TA):TE:=fun σ H Q=>t σ H fun vs H1=>∀ x dx,H1 x=none->H1 dx=none->dx≠x->
  sp (.ref x::(vs++dvs)) (upd (upd H1 dx (.own x)) x (.ins C dx [])) (fun v H2=>v=.non/\Q (.ref x) H2) E
def Binds (K:PySem.W.Frag) (fd:FuncData) (ps:List Str) (ds:List Value):Prop:=
  ∀ (s:Shared) (us:List Value),K.In s.heap->(us++ds).length=ps.length->BindsTo s fd ⟨us,[]⟩ (ps.zip (us++ds))
theorem Binds.all {K:PySem.W.Frag}{fd:FuncData}{ps:List Str} (h:∀ us:List Value,us.length=ps.length->bindArgs fd ⟨us,[]⟩=pure (ps.zip us)):Binds K fd ps []:=fun s us _ hl=>by
  rw [zW] at hl |-
  exact .of_eq (h us hl)
def qlk (CX:CXT) (X:Cx) (E:XK):Prop:=∀ (pins:List (Addr×Obj)) (σ:St) (H:Hp) (s:Shared) (e:Value) (s':Shared),Inv X pins σ H s->CX X.stack H s E e s'->X.xe e s'
section
variable {X:Cx}{CX:CXT}{k:Nat}{f C:Addr}{fd:FuncData}{ps:List Str}{sp:Sp}{dvs:List V}{ds:List Value}{E:XK}{x m:Str}{p pos apos:Pos}{e o:Expr}{es:List Expr}{ta:TE}{t:TA}
theorem qn5 {pins:List (Addr×Obj)}{σ:St}{H:Hp}{s:Shared}{Q:VK}{us:List Value}{vs:List V} (F:FnOk X.prog X.w X.K X.mg X.base CX k f fd ps sp) (hr:Room k X.A) (hb:Binds X.K fd ps ds) (hd:Vals dvs ds) (hx:qlk CX X E)
    (I:Inv X pins σ H s) (r:Vals vs us) (h:sp (vs++dvs) H Q E):wpAny (model X.prog X.w) X.A (call (.ref f) us) (EP X pins σ Q) X.xe s:=by
  have r2:Vals (vs++dvs) (us++ds):=r.append hd
  have hl:(us++ds).length=ps.length:=by rw [<-r2.length]; exact F.len _ _ _ _ h
  refine wpAny_call (codeAny_mono (F.run X.A X.stack s H ⟨us,[]⟩ (us++ds) (vs++dvs) Q E hr I.env0 (hb s us I.kIn hl) r2 h) fun r s' hq=>?_)
  cases r with
  | error e=>exact hx pins σ H s e s' I hq
  | ok fl=>
    cases fl with
    | ret u=>exact I.after hq
    | next=>exact False.elim hq
    | brk=>exact False.elim hq
    | cont=>exact False.elim hq
theorem qm6 (F:FnOk X.prog X.w X.K X.mg X.base CX k f fd ps sp) (hr:Room k X.A) (hg:Gl X x) (hm:X.mg x=some (.ref f)) (hk:PySem.W.keepIn X.K (.ref f)=true) (hb:Binds X.K fd ps ds) (hd:Vals dvs ds) (hx:qlk CX X E)
    (ha:PA X (e::es) t) (hdb:(x==("__debug__":Str))=false:=by decide) (he:starEach (e::es) X.env=(false,eval e X.env)::starEach es X.env:=by rfl) (hpl:(backTo pos (starEach es X.env)).any (·.1)=false:=by rfl):
    PE X (.Call (.Name x p) (e::es) [] pos) (tCall sp dvs E t):=by
  intro pins s σ H Q I h
  refine wpAny_Call_Name_kw (qgu I hg hm ?_ hdb)
  refine PySem.W.callWith_K (h₀:=X.base) I.ok.mod.kin hk (thn (ha pos pins s σ H _ I h) fun us s1 q9=>?_) he hpl
  obtain⟨vs,H1,I1,r,q⟩:=q9
  refine⟨I1.kIn,?_⟩
  exact qn5 F hr hb hd hx I1 r q
structure Mk (K:PySem.W.Frag) (C f:Addr):Prop where
  makes:PySem.W.makesIn K C=true
  init:PySem.W.findIn K (.ref C) "__init__"=some (some (.ref f))
  fn:PySem.W.isFn K (.ref f)=true
  kp:PySem.W.keepIn K (.ref C)=true
end
def PK (X:Cx) (kws:List Keyword) (t:TA):Prop:=
  ∀ (pos:Pos) (pins:List (Addr×Obj)) (s:Shared) (σ:St) (H:Hp) (Q:List V->Hp->Prop),Inv X pins σ H s->t σ H Q->wpAny (model X.prog X.w) X.A (evalAll ((backToKw pos (keywordEach kws X.env)).map (·.2))) (AP X pins σ Q) X.xe s
section
variable {X:Cx}{CX:CXT}{k:Nat}{f C:Addr}{fd:FuncData}{ps ks:List Str}{sp:Sp}{E:XK}{x m:Str}{p pos apos kpos:Pos}{e o:Expr}{es:List Expr}{kws:List Keyword}{te ta:TE}{t tk:TA}{nm:Option Str}
structure KBinds (K:PySem.W.Frag) (fd:FuncData) (ps ks:List Str) (g:List Value->List Value->List Value) (gV:List V->List V->List V):Prop where
  to:∀ (s:Shared) (us ws:List Value),K.In s.heap->(g us ws).length=ps.length->BindsTo s fd ⟨us,ks.zip ws⟩ (ps.zip (g us ws))
  rel:∀ {vs:List V}{us:List Value}{zs:List V}{ws:List Value},Vals vs us->Vals zs ws->Vals (gV vs zs) (g us ws)
noncomputable def tCallK (sp:Sp) (gV:List V->List V->List V) (E:XK) (t tk:TA):TE:=fun σ H Q=>t σ H fun vs H1=>tk σ H1 fun zs H2=>sp (gV vs zs) H2 Q E
variable {g:List Value->List Value->List Value}{gV:List V->List V->List V}
end
structure qaE (N P:List Str) (sc:Scope):Prop where
  kind:sc.kind=.function
  co:sc.isCoroutine=false
  gen:sc.isGenerator=false
  nd:N.Nodup
  pre:N.take P.length=P
  par:∀ x∈P,sc.names.lookup x=some .local\/sc.names.lookup x=some .cell
  nofree:∀ y∈sc.names,y.2≠.free
theorem qhE {kindOf:Str->Option NameKind}{x:Str}:∀ {binds:List (Str×Value)}{m:Str->Option Value},(∀ v,(x,v)∉binds)->bindL kindOf binds m x=m x
  | [],_,_=>rfl
  | (n,v)::r,m,h=>by
    unfold bindL
    rw [qhE fun w hw=>h w (zR _ hw)]
    split
    · have:x≠n:=by rintro rfl; exact h v zV
      simp [this]
    · rfl
theorem qhG {kindOf:Str->Option NameKind}{x:Str}:∀ {binds:List (Str×Value)}{m:Str->Option Value},(∀ v,(x,v)∉binds)->bindC kindOf binds m x=m x
  | [],_,_=>rfl
  | (n,v)::r,m,h=>by
    unfold bindC
    rw [qhG fun w hw=>h w (zR _ hw)]
    split
    · rfl
    · have:x≠n:=by rintro rfl; exact h v zV
      simp [this]
theorem qhF {kindOf:Str->Option NameKind}{x:Str}{v:Value}:∀ {P:List Str}{vs:List Value}{i:Nat}{m:Str->Option Value},P.Nodup->P[i]?=some x->vs[i]?=some v->kindOf x=some .local->
    bindL kindOf (P.zip vs) m x=some v
  | [],_,_,_,_,h,_,_=>by simp at h
  | _::_,[],_,_,_,_,h,_=>by simp at h
  | p::P,w::vs,0,m,nd,h1,h2,hk=>by
    simp at h1 h2; subst h1; subst h2
    show bindL kindOf ((p,w)::P.zip vs) m p=_
    unfold bindL
    rw [qhE fun v hv=>(xA.mp nd).1 (List.of_mem_zip hv).1,if_pos hk]
    simp
  | p::P,w::vs,i+1,m,nd,h1,h2,hk=>by
    show bindL kindOf ((p,w)::P.zip vs) m x=_
    unfold bindL
    exact qhF (i:=i) (xA.mp nd).2 (by simpa using h1) (by simpa using h2) hk
theorem qhH {kindOf:Str->Option NameKind}{x:Str}{v:Value}:∀ {P:List Str}{vs:List Value}{i:Nat}{m:Str->Option Value},P.Nodup->P[i]?=some x->vs[i]?=some v->kindOf x≠some .local->
    bindC kindOf (P.zip vs) m x=some v
  | [],_,_,_,_,h,_,_=>by simp at h
  | _::_,[],_,_,_,_,h,_=>by simp at h
  | p::P,w::vs,0,m,nd,h1,h2,hk=>by
    simp at h1 h2; subst h1; subst h2
    show bindC kindOf ((p,w)::P.zip vs) m p=_
    unfold bindC
    rw [qhG fun v hv=>(xA.mp nd).1 (List.of_mem_zip hv).1,if_neg hk]
    simp
  | p::P,w::vs,i+1,m,nd,h1,h2,hk=>by
    show bindC kindOf ((p,w)::P.zip vs) m x=_
    unfold bindC
    exact qhH (i:=i) (xA.mp nd).2 (by simpa using h1) (by simpa using h2) hk
noncomputable def start (N:List Str) (vs:List V):St:=vs.map some++List.replicate (N.length - vs.length) none
noncomputable def cxOf (CX:CXT) (P:Program) (w:World) (K:PySem.W.Frag) (mg:Str->Option Value) (base:Heap) (N:List Str) (qual:Str) (scope:Scope) (f:Addr) (cd:Value) (A:Around) (outer:List Env) (s:Shared) (H:Hp) (E:XK):Cx where
  prog:=P
  w:=w
  K:=K
  mg:=mg
  base:=base
  A:=A.deeper (envOfC qual scope s.heap.objs.size f cd)
  N:=N
  s₀:=s
  H₀:=H
  env:=envOfC qual scope s.heap.objs.size f cd
  outer:=outer
  stack:=envOfC qual scope s.heap.objs.size f cd::outer
  ex:=[]
  calm:=true
  fn:=fun _=>true
  pn:=[]
  xe:=fun e s'=>wpAny (model P w) (A.deeper (envOfC qual scope s.heap.objs.size f cd)) (leaving (envOfC qual scope s.heap.objs.size f cd) e) (fun _ s''=>CX outer H s E e s'') (fun e' s''=>CX outer H s E e' s'') s'
theorem qiH {sc:Scope}{n:Nat}{x:Str} (h:sc.names.lookup x=some .cell):∃ c,(cellsFrom n sc.names []).lookup x=some c:=by
  have q:=PySem.W.cellsFrom_some sc.names n [] (.inl h)
  exact Option.isSome_iff_exists.mp q
theorem qkw {CX:CXT}{P:Program}{w:World}{K:PySem.W.Frag}{mg:Str->Option Value}{base:Heap}{N ps:List Str}{qual:Str}{scope:Scope}{f:Addr}{cd:Value}{A:Around}{outer:List Env}{s s1:Shared}{H:Hp}{E:XK}{us:List Value}{vs:List V}
    (S:qaE N ps scope) (hd:A.handled=none) (e0:Env0 P w K mg base A outer s H) (hl:vs.length=ps.length) (r:Vals vs us)
    (x:InCallC s s.heap.objs.size (bindL (envOfC qual scope s.heap.objs.size f cd).kindOf (ps.zip us) fun _=>none) (cellsFrom (s.heap.objs.size+1) scope.names []) (bindC (envOfC qual scope s.heap.objs.size f cd).kindOf (ps.zip us) fun _=>none) s1):
    Inv (cxOf CX P w K mg base N qual scope f cd A outer s H E) [] (start N vs) H s1:=by
  have hpl:ps.length<=N.length:=by have:=congrArg List.length S.pre; rw [zM] at this; lia
  obtain⟨h1,tk,rfl,hk⟩:=x.done
  have noA:∀ b:Addr,b∉(cxOf CX P w K mg base N qual scope f cd A outer s H E).ex:=fun b z=>absurd (show b∈([]:List Addr) from z) (by simp)
  refine⟨⟨e0.mod,S.kind,rfl,rfl,zS _,fun y z c h1 h2=>?_,fun y hy=>?_,fun y c _ h=>?_,fun _=>hd,Around.frames_deeper e0.frames,.inr ⟨rfl,rfl⟩,fun b z=>absurd z (noA b),e0.bs,e0.bsz,fun b _ _=>noA b,fun b z=>absurd z (noA b),e0.funs,e0.frf⟩,
    rfl,e0.bare,Un.kept hk,⟨_,x.toInCall.ns,fun i y v h1 h2 h3=>?_⟩,fun y c h=>⟨_,x.cell y c h⟩,e0.hok.fresh (zS _),fun y c h=>?_,fun p hp=>absurd (show p∈([]:List (Addr×Obj)) from hp) (by simp),e0.hok.kept hk,?_⟩
  · exact name_of_addr x.apart (PySem.mem_of_lookup h1) (PySem.mem_of_lookup h2)
  · have hy:scope.names.lookup y=some .cell\/scope.names.lookup y=some .free:=hy
    rcases hy with hy | hy
    · exact qiH hy
    · exact absurd rfl (S.nofree _ (PySem.mem_of_lookup hy))
  · exact Nat.le_of_lt (x.above y c (PySem.mem_of_lookup h))
  · have hi:i < vs.length:=by
      unfold start at h2
      by_cases hi:i < vs.length
      · exact hi
      · rw [yI (by simpa using hi)] at h2
        rw [List.getElem?_replicate] at h2
        split at h2<;>cases h2
    have ha:vs[i]?=some v:=by
      unfold start at h2
      rw [zK (by simpa using hi),zE] at h2
      cases e:vs[i]? with
      | none=>rw [e] at h2; cases h2
      | some a=>rw [e] at h2; cases h2; rfl
    obtain⟨u,hu,rv⟩:=r.get ha
    have hp:ps[i]?=some y:=by
      rw [<-S.pre,xF (by lia)]; exact h1
    have ndP:ps.Nodup:=by rw [<-S.pre]; exact S.nd.sublist (List.take_sublist _ _)
    refine⟨u,rv,?_⟩
    rcases S.par y (zD hp) with k | k
    · exact .inl ⟨k,qhF ndP hp hu k⟩
    · obtain⟨c,e⟩:=qiH (n:=s.heap.objs.size+1) k
      refine .inr ⟨.inl k,c,e,?_⟩
      have q:=x.cell y c e
      rw [qhH ndP hp hu (by show scope.names.lookup y≠_; rw [k]; decide)] at q
      exact q
  · exact e0.hok.fresh (Nat.le_of_lt (x.above y c (PySem.mem_of_lookup h)))
  · unfold start
    show _=N.length
    rw [zJ,zC,List.length_replicate]
    lia
theorem qo2 {CX:CXT}{P:Program}{w:World}{K:PySem.W.Frag}{mg:Str->Option Value}{base:Heap}{k:Nat}{f:Addr}{name qual:Str}{params:Arguments}{body:List Stmt}{scope:Scope}{dV kV doc pm cdv ct oc:Value}{an od:Option Addr}
    {osl:Array (Option Value)}{N ps:List Str}{sp:Sp} (lk:K.lookup f=some ⟨oc,od,.func (PySem.W.fnOf name qual params body scope dV kV doc pm an cdv ct),osl⟩) (hcd:PySem.W.codeIn K cdv qual=true) (S:qaE N ps scope)
    (len:∀ vs H Q E,sp vs H Q E->vs.length=ps.length)
    (hbody:∀ (A:Around) (outer:List Env) (s:Shared) (H:Hp) (vs:List V) (Q:VK) (E:XK),Room k (A.deeper (envOfC qual scope s.heap.objs.size f cdv))->sp vs H Q E->
      ∃ t,PSs (cxOf CX P w K mg base N qual scope f cdv A outer s H E) body t/\t { nx:=fun _ H'=>Q .non H',rt:=Q } (start N vs) H):
    FnOk P w K mg base CX (k+1) f (PySem.W.fnOf name qual params body scope dV kV doc pm an cdv ct) ps sp:=by
  refine⟨len,fun A outer s H args us vs Q E hr e0 hb r hsp=>?_⟩
  have hl:=len _ _ _ _ hsp
  have KX:K.In s.heap:=e0.mod.kin.keeps fun b o e=>(e0.bs b o e).1
  have lim:s.heap.NoLimit:=e0.mod.nolimit.keeps fun b o e=>(e0.bs b o e).1
  have hkind:∀ y∈ps.zip us,scope.names.lookup y.1=some .local\/(scope.names.lookup y.1=some .cell/\((cellsFrom (s.heap.objs.size+1) scope.names []).lookup y.1).isSome=true):=fun⟨n,v⟩ hy=>by
    rcases S.par n (List.of_mem_zip hy).1 with q | q
    · exact .inl q
    · exact .inr ⟨q,PySem.W.cellsFrom_some _ _ _ (.inl q)⟩
  refine codeAny_call_function hr.depth (KX _ _ lk) rfl S.co S.gen rfl (PySem.W.codeRec_of KX hcd) (hb _ _ _ _ ?_)
  refine wpAny_newFunctionEnv_cells S.kind hkind fun env he s1 x=>?_
  subst he
  refine⟨lim.keeps x.toInCall.keep,codeAny_func ?_⟩
  obtain⟨t,ht,hq⟩:=hbody A outer s H vs Q E (hr.deeper _) hsp
  have I:Inv (cxOf CX P w K mg base N qual scope f cdv A outer s H E) [] (start N vs) H s1:=qkw S hr.hd e0 hl r x
  refine wpAny_mono (ht [] s1 (start N vs) H _ I hq) (fun fl s' hs=>?_) fun e s' hs=>hs
  have fin:∀ {σ':St}{H':Hp}{v:V}{u:Value},Inv (cxOf CX P w K mg base N qual scope f cdv A outer s H E) [] σ' H' s'->RelV v u->Q v H'->CE outer P w H s Q u s':=
    fun {σ' H' v u} J rv q=>⟨v,H',J.os,J.bare,J.base,J.hok,rv,q⟩
  cases fl with
  | ret u=>
    obtain⟨v,σ',H',J,rv,q⟩:=hs
    exact fin J rv q
  | next=>
    obtain⟨σ',H',J,q⟩:=hs
    exact fin (v:=V.non) (u:=Value.none) J rfl q
  | brk=>
    obtain⟨_,_,_,q⟩:=hs
    exact False.elim q
  | cont=>
    obtain⟨_,_,_,q⟩:=hs
    exact False.elim q
end L2
namespace L2
open PySem PySem.Spec PyProof.Rows
section
variable {X:Cx}{x:Str}{p pos:Pos}{e:Expr}{es:List Expr}{t:TA}{id T:String}{r:List V->Hp->VK->Prop}
noncomputable def tCB (r:List V->Hp->VK->Prop) (t:TA):TE:=fun σ H Q=>t σ H fun vs H1=>r vs H1 Q
theorem qio (hc:qfM X (.builtin id) r) (hg:Gl X x) (hm:X.mg x=none) (hv:bootBuiltins x=some (.builtin id)) (ha:PA X (e::es) t) (hn:x≠"__name__":=by decide) (hdb:(x==("__debug__":Str))=false:=by decide)
    (he:starEach (e::es) X.env=(false,eval e X.env)::starEach es X.env:=by rfl) (hpl:(backTo pos (starEach es X.env)).any (·.1)=false:=by rfl):PE X (.Call (.Name x p) (e::es) [] pos) (tCB r t):=by
  intro pins s σ H Q I h
  refine wpAny_Call_Name_kw (qhk I hg hm hv ?_ hn hdb)
  exact PyProof.Rows.callWith_builtin1 (thn (ha pos pins s σ H _ I h) fun us s1 q9=>by obtain⟨vs,H1,I1,r1,q1⟩:=q9; exact hc pins s1 σ H1 vs us Q I1 r1 q1) he hpl
theorem qj4 (hc:qfM X (.type T) r) (hg:Gl X x) (hm:X.mg x=none) (hv:bootBuiltins x=some (.type T)) (ha:PA X (e::es) t) (hn:x≠"__name__":=by decide) (hdb:(x==("__debug__":Str))=false:=by decide)
    (he:starEach (e::es) X.env=(false,eval e X.env)::starEach es X.env:=by rfl) (hpl:(backTo pos (starEach es X.env)).any (·.1)=false:=by rfl):PE X (.Call (.Name x p) (e::es) [] pos) (tCB r t):=by
  intro pins s σ H Q I h
  refine wpAny_Call_Name_kw (qhk I hg hm hv ?_ hn hdb)
  exact PyProof.Rows.callWith_type1 (thn (ha pos pins s σ H _ I h) fun us s1 q9=>by obtain⟨vs,H1,I1,r1,q1⟩:=q9; exact hc pins s1 σ H1 vs us Q I1 r1 q1) he hpl
end
end L2
namespace HT
open PySem PyProof.Rows
noncomputable def lexLt:List Int->List Int->Bool
  | [],[]=>false
  | [],_::_=>true
  | _::_,[]=>false
  | x::xs,y::ys=>if x=y then lexLt xs ys else decide (x < y)
section
open PySem.SeqAt
open PySem.AutoSeq1 (wpAny_loadPart')
open PySem.MeetsSeq PySem.MeetsSeq2 PySem.MeetsSeq3
end
section
variable {prog:Program}{w:World}{A:Around}{E:Value->Shared->Prop}{s:Shared}
theorem cat_tup {t b:Addr}{vs ws:List Value}{Q:Value->Shared->Prop} (ht:IsTup s.heap t vs.toArray) (hb:IsTup s.heap b ws.toArray) (hv:vs≠[])
    (h1:ws=[]->Q (.ref t) s) (h2:ws≠[]->Q (.ref s.heap.objs.size) { s with heap:=s.heap.push { cls:=.type "tuple",data:=.seq (vs++ws).toArray } })
    (hsz:vs.length+ws.length<=sizeLine):wpAny (model prog w) A (binaryOp .Add (.ref t) (.ref b)) Q E s:=by
  obtain⟨⟨cls,dd,data,sl⟩,ho,hc,n,hd⟩:=id ht
  obtain⟨⟨cls2,dd2,data2,sl2⟩,ho2,hc2,n2,hd2⟩:=id hb
  simp only at hc hd hc2 hd2
  subst hc hd hc2 hd2
  have e:vs.toArray++ws.toArray=(vs++ws).toArray:=by simp
  by_cases hw:ws=[]
  · exact concat_meets ⟨_,ho,rfl⟩ ⟨_,ho2,rfl⟩ noFill_tuple_add seq_tuple_add PySem.F.slot_tuple_add PySem.F.entry_tuple_add (PySem.F.args_tuple_add_2 _ _)
      (tuple_addW1 t b vs.toArray ws.toArray n n2 dd dd2 sl sl2 (by simpa using hv) (by simp [hw])) ⟨ho,ho2,h1 hw⟩
  · refine concat_meets ⟨_,ho,rfl⟩ ⟨_,ho2,rfl⟩ noFill_tuple_add seq_tuple_add PySem.F.slot_tuple_add PySem.F.entry_tuple_add (PySem.F.args_tuple_add_2 _ _)
      (tuple_addW2 t b vs.toArray ws.toArray n n2 dd dd2 sl sl2 (by simpa using hv) (by simpa using hw) (by rw [zH,zH]; exact hsz)) ⟨ho,ho2,?_⟩
    rw [e]
    exact h2 hw
noncomputable def sIx (n d:Nat):Option Int->Nat
  | none=>d
  | some v=>if v < 0 then (v+(n:Int)).toNat else min v.toNat n
theorem sIx_none (n d:Nat):sIx n d none=d:=rfl
theorem sIx_nat (n d k:Nat):sIx n d (some (k:Int))=min k n:=by
  show (if (k:Int) < 0 then ((k:Int)+(n:Int)).toNat else min (k:Int).toNat n)=min k n
  rw [if_neg (by lia),Int.toNat_natCast]
theorem qn4 (n d:Nat) (hd:d<=n) (o:Option Int):sIx n d o<=n:=by
  cases o with
  | none=>exact hd
  | some v=>
    show (if v < 0 then (v+(n:Int)).toNat else min v.toNat n)<=n
    by_cases hv:v < 0
    · rw [if_pos hv]; lia
    · rw [if_neg hv]; exact Nat.min_le_right _ _
theorem qk8 (v:Int) (n d:Nat):(if v < 0 then max (v+(n:Int)) 0 else min v (n:Int))=((sIx n d (some v):Nat):Int):=by
  show (if v < 0 then max (v+(n:Int)) 0 else min v (n:Int))=(((if v < 0 then (v+(n:Int)).toNat else min v.toNat n):Nat):Int)
  by_cases hv:v < 0
  · simp only [if_pos hv]; lia
  · simp only [if_neg hv]; lia
theorem qjj (lo hi:Option Int) (n:Nat):Builtin.Slice.sliceAdjust lo hi 1 (n:Int)=(((sIx n 0 lo:Nat):Int),((sIx n n hi:Nat):Int)):=by
  have h1:¬ ((1:Int) < 0):=by lia
  unfold Builtin.Slice.sliceAdjust
  simp only [h1,if_false]
  refine Prod.ext ?_ ?_
  · cases lo with
    | none=>rfl
    | some v=>exact qk8 v n 0
  · cases hi with
    | none=>rfl
    | some v=>exact qk8 v n n
theorem qiZ (i j:Nat):Builtin.Slice.slicePlaces (i:Int) (j:Int) 1=j - i:=by
  unfold Builtin.Slice.slicePlaces
  have h1:(1:Int) > 0:=by lia
  simp only [h1,if_true,Int.ediv_one]
  split<;>lia
theorem qfP {v:Value}{o:Option Int}{Q:Option Int->Shared->Prop} (p:IsPart v o) (h:Q o s):wpAny (model prog w) A (Builtin.Slice.slicePartIndex v) Q E s:=by
  cases p with
  | none=>exact slicePart_none h
  | int i t=>exact slicePart_int h
theorem sliceApplied_gen {sl:Addr}{vl vu:Value}{lo hi:Option Int}{n:Nat}{Q:Int×Int×Nat->Shared->Prop} (hs:s.heap.IsSliceOf sl vl vu .none) (pl:IsPart vl lo) (pu:IsPart vu hi)
    (h:Q (((sIx n 0 lo:Nat):Int),1,sIx n n hi - sIx n 0 lo) s):wpAny (model prog w) A (Builtin.Slice.sliceApplied (.ref sl) (pure (n:Int))) Q E s:=by
  obtain⟨os,hos,hcs,hds⟩:=id hs
  unfold Builtin.Slice.sliceApplied Builtin.Slice.sliceFields
  refine wpAny_bind (wpAny_bind (wpAny_field hos hds (x:=vl) rfl (wpAny_bind (wpAny_field hos hds (x:=vu) rfl (wpAny_bind (wpAny_field hos hds (x:=.none) rfl (wpAny_pure ?_)))))))
  refine wpAny_bind (slicePart_none ?_)
  show wpAny _ _ (if ((1:Int)==0)=true then _ else _) _ _ s
  rw [if_neg (by decide)]
  refine wpAny_bind (qfP pl (wpAny_bind (qfP pu (wpAny_bind (wpAny_pure ?_)))))
  show wpAny _ _ (match Builtin.Slice.sliceAdjust lo hi 1 (n:Int) with | (lo,hi)=>pure (lo,(1:Int),Builtin.Slice.slicePlaces lo hi 1)) _ _ s
  rw [qjj lo hi n]
  show wpAny _ _ (pure (((sIx n 0 lo:Nat):Int),(1:Int),Builtin.Slice.slicePlaces ((sIx n 0 lo:Nat):Int) ((sIx n n hi:Nat):Int) 1)) _ _ s
  rw [qiZ]
  exact wpAny_pure h
theorem qlI (xs:Array Value) (i k:Nat):((List.range k).filterMap fun (m:Nat)=>xs[((i:Int)+(m:Int)*1).toNat]?).toArray=((xs.toList.drop i).take k).toArray:=by
  have e:(fun (m:Nat)=>xs[((i:Int)+(m:Int)*1).toNat]?)=fun m=>xs[i+m]?:=by
    funext m
    have:((i:Int)+(m:Int)*1).toNat=i+m:=by lia
    rw [this]
  rw [e]
  have:=pick_run xs i k
  rw [List.filterMap_map] at this
  have e2:((fun x=>xs[x]?) ∘ fun x=>i+x)=fun m=>xs[i+m]?:=rfl
  rw [e2] at this
  rw [this]
theorem getItem_tuple_cut {t sl:Addr}{items:Array Value}{vl vu:Value}{lo hi:Option Int}{Q:Value->Shared->Prop} (ht:IsTup s.heap t items) (hs:s.heap.IsSliceOf sl vl vu .none) (pl:IsPart vl lo) (pu:IsPart vu hi)
    (hw:¬ (sIx items.size 0 lo=0/\sIx items.size items.size hi=items.size))
    (h:Q (.ref s.heap.objs.size) { s with heap:=s.heap.push { cls:=.type "tuple",data:=.seq ((items.toList.drop (sIx items.size 0 lo)).take (sIx items.size items.size hi - sIx items.size 0 lo)).toArray } })
    (hsz:items.size<=sizeLine):wpAny (model prog w) A (getItem (.ref t) (.ref sl)) Q E s:=by
  have htake:sizeOk (.seq ((items.toList.drop (sIx items.size 0 lo)).take (sIx items.size items.size hi - sIx items.size 0 lo)).toArray):=by
    show ((items.toList.drop (sIx items.size 0 lo)).take (sIx items.size items.size hi - sIx items.size 0 lo)).toArray.size<=sizeLine
    rw [zH,zM,zQ,Array.length_toList]
    lia
  have hj:sIx items.size items.size hi<=items.size:=qn4 _ _ (zS _) hi
  obtain⟨os,hos,hcs,hds⟩:=id hs
  have hTs:s.TypeIs (.ref sl) "slice":=⟨os,hos,hcs⟩
  unfold getItem
  try with_reducible refine wpAny_holding ?_
  first | refine wpAny_bind (wpAny_pure ?_) | skip
  refine wpAny_bind (wpAny_sequenceKey ht.typeIs (by decide) ?_)
  refine wpAny_bind (wpAny_callSpecial?_slot (name:=Str.ofString "__getitem__") ht.typeIs PyProof.Rows.slot_tuple_getitem
    (wpAny_call_entry PyProof.Rows.slot_tuple_getitem ht.typeIs entry_tuple_getitem ?_ (args_tuple_getitem _ _)))
  show wpAny _ _ (Builtin.Tuple.tupleItemsOf (.ref t) >>= _) _ _ s
  refine wpAny_bind (tupleItemsOf_ ht ?_)
  refine wpAny_bind (wpAny_typeOf hTs ?_)
  rw [if_pos (by decide)]
  refine wpAny_bind (sliceApplied_gen hs pl pu ?_)
  have hno:¬ ((((sIx items.size 0 lo:Nat):Int)==0&&(1:Int)==1&&(sIx items.size items.size hi - sIx items.size 0 lo)==items.size)=true):=by
    intro q
    rw [Bool.and_eq_true,Bool.and_eq_true] at q
    have q1:((sIx items.size 0 lo:Nat):Int)=0:=eq_of_beq q.1.1
    have q2:sIx items.size items.size hi - sIx items.size 0 lo=items.size:=eq_of_beq q.2
    exact hw ⟨by lia,by lia⟩
  show wpAny _ _ (if (((sIx items.size 0 lo:Nat):Int)==0&&(1:Int)==1&&(sIx items.size items.size hi - sIx items.size 0 lo)==items.size)=true then _ else _) _ _ s
  rw [if_neg hno,qlI]
  first
    | exact wpAny_bind (m:=Builtin.Tuple.tupleExact _) (wpAny_newObj_type (wpAny_pure ⟨_,rfl,wpAny_pure h⟩) htake)
    | exact wpAny_bind (m:=Builtin.Tuple.tupleExact _) (wpAny_newObj_type (wpAny_bind (wpAny_pure (wpAny_pure ⟨_,rfl,wpAny_pure h⟩))) htake)
    | exact wpAny_bind (wpAny_bind (m:=Builtin.Tuple.tupleExact _) (wpAny_newObj_type (wpAny_pure (wpAny_pure ⟨_,rfl,wpAny_pure h⟩)) htake))
    | exact wpAny_bind (wpAny_bind (m:=Builtin.Tuple.tupleExact _) (wpAny_newObj_type (wpAny_pure ⟨_,rfl,wpAny_pure h⟩) htake))
end
end HT
namespace L2
open PySem PySem.Spec PyProof.Rows
noncomputable abbrev TO:=St->Hp->(Option Int->Hp->Prop)->Prop
def PO (X:Cx) (e:Option Expr) (t:TO):Prop:=
  ∀ (pins:List (Addr×Obj)) (s:Shared) (σ:St) (H:Hp) (Q:Option Int->Hp->Prop),Inv X pins σ H s->t σ H Q->
    wpAny (model X.prog X.w) X.A (evalPart e X.env) (fun u s'=>∃ o H',Inv X pins σ H' s'/\IsPart u o/\Q o H') X.xe s
noncomputable def qmG:TO:=fun _ H Q=>Q none H
noncomputable def tPart (t:TE):TO:=fun σ H Q=>t σ H fun x H1=>∃ i,x=.int i/\Q (some i) H1
theorem qi6 {ns:List Int}:∀ {us:List Value},Vals (ns.map V.int) us->IntsAre us ns:=by
  induction ns with
  | nil=>intro us r; rw [yG] at r; cases r; exact .nil
  | cons n ns ih=>
    intro us r
    rw [yE] at r
    cases r with
    | cons r1 r2=>
      obtain⟨t,e⟩:=r1
      subst e
      exact .cons n t (ih r2)
section
variable {X:Cx}{e:Expr}{te:TE}{lo hi:Option Expr}{tl th:TO}{pos p2:Pos}
theorem qm2:PO X none qmG:=by
  intro pins s σ H Q I h
  rw [evalPart_none]
  exact wpAny_pure ⟨none,H,I,.none,h⟩
theorem qm1 (h:PE X e te):PO X (some e) (tPart te):=by
  intro pins s σ H Q I hw
  rw [evalPart_some]
  refine thn (h pins s σ H _ I hw) fun u s1 q9=>?_
  obtain⟨x,H1,I1,r1,q1⟩:=q9
  obtain⟨i,rfl,q⟩:=q1
  obtain⟨t,rfl⟩:=r1
  exact⟨some i,H1,I1,.int i t,q⟩
def SlR (X:Cx) (r:V->Option Int->Option Int->Hp->VK->Prop):Prop:=
  ∀ (pins:List (Addr×Obj)) (s:Shared) (σ:St) (H:Hp) (x:V) (v vl vu:Value) (lo hi:Option Int) (sl:Addr) (Q:VK),Inv X pins σ H s->RelV x v->s.heap.IsSliceOf sl vl vu .none->IsPart vl lo->IsPart vu hi->r x lo hi H Q->
    ∃ T id,typeLookup (.type T) "__getitem__"=pure (some (.builtin id))/\s.TypeIs v T/\wpAny (model X.prog X.w) X.A (getItem v (.ref sl)) (EP X pins σ Q) X.xe s
theorem SlR.or {r r':V->Option Int->Option Int->Hp->VK->Prop} (h:SlR X r) (h':SlR X r'):SlR X (fun x lo hi H Q=>r x lo hi H Q\/r' x lo hi H Q):=by
  intro pins s σ H x v vl vu lo hi sl Q I rx hs pl pu q
  rcases q with q | q
  · exact h pins s σ H x v vl vu lo hi sl Q I rx hs pl pu q
  · exact h' pins s σ H x v vl vu lo hi sl Q I rx hs pl pu q
noncomputable def tSl (r:V->Option Int->Option Int->Hp->VK->Prop) (te:TE) (tl th:TO):TE:=fun σ H Q=>te σ H fun x H1=>tl σ H1 fun l H2=>th σ H2 fun u H3=>r x l u H3 Q
theorem qlJ {r:V->Option Int->Option Int->Hp->VK->Prop} (hr:SlR X r) (he:PE X e te) (hl:PO X lo tl) (hu:PO X hi th):PE X (.Subscript e (.Slice lo hi none p2) pos) (tSl r te tl th):=by
  intro pins s σ H Q I h
  refine Subscript_ (thn (he pins s σ H _ I h) fun v s1 q9=>?_)
  obtain⟨x,H1,I1,r1,q1⟩:=q9
  refine wpAny_Slice (thn (hl pins s1 σ H1 _ I1 q1) fun vl s2 q9=>?_)
  obtain⟨l,H2,I2,pl,q2⟩:=q9
  refine thn (hu pins s2 σ H2 _ I2 q2) fun vu s3 q9=>?_
  obtain⟨u,H3,I3,pu,q3⟩:=q9
  rw [evalPart_none]
  refine wpAny_pure ?_
  have I4:Inv X pins σ H3 { s3 with heap:=s3.heap.push { cls:=.type "slice",data:=.fields #[vl,vu,.none] } }:=I3.kept (t':=s3.toks) fun b ob q=>yH _ q
  obtain⟨T,id,hT,ht,hg⟩:=hr pins { s3 with heap:=s3.heap.push { cls:=.type "slice",data:=.fields #[vl,vu,.none] } } σ H3 x v vl vu l u s3.heap.objs.size Q I4 r1 (Heap.IsSliceOf.new ..) pl pu q3
  show wpAny (model X.prog X.w) X.A (subscriptTail e (.Slice lo hi none p2) v (.ref s3.heap.objs.size)) (EP X pins σ Q) X.xe { s3 with heap:=s3.heap.push { cls:=.type "slice",data:=.fields #[vl,vu,.none] } }
  exact tail_any (ops:=[.ref s3.heap.objs.size,v]) ht hT hg (by with_unfolding_all rfl)
noncomputable def cutV (xs:List V) (lo hi:Option Int):List V:=(xs.drop (HT.sIx xs.length 0 lo)).take (HT.sIx xs.length xs.length hi - HT.sIx xs.length 0 lo)
theorem qfE (xs:List V) (lo hi:Option Int):(cutV xs lo hi).length<=xs.length:=by
  unfold cutV
  rw [zM,zQ]
  lia
noncomputable def rSlT (K:PySem.W.Frag):V->Option Int->Option Int->Hp->VK->Prop:=fun x lo hi H Q=>∃ a xs,x=.ref a/\SqT K H a xs/\
  ¬ (HT.sIx xs.length 0 lo=0/\HT.sIx xs.length xs.length hi=xs.length)/\∀ p,H p=none->Q (.ref p) (upd H p (.tup (cutV xs lo hi)))
theorem qn2:SlR X (rSlT X.K):=by
  intro pins s σ H x v vl vu lo hi sl Q I rx hs pl pu h
  obtain⟨a,xs,rfl,hx,hw,q⟩:=h
  cases rx
  obtain⟨its,r,ht,hz⟩:=I.tuple hx
  have hlen:its.toArray.size=xs.length:=by rw [zH]; exact r.length.symm
  refine⟨"tuple",_,PyProof.Rows.slot_tuple_getitem.lookup,ht.typeIs,?_⟩
  refine HT.getItem_tuple_cut ht hs pl pu (by rw [hlen]; exact hw) ?_ (by rw [hlen]; exact hz)
  rw [hlen]
  refine⟨.ref s.heap.objs.size,_,I.laid (t':=s.toks) (o:=.tup (cutV xs lo hi)) (fun b ob q=>yH _ q) (zS _) ?_,rfl,q _ (I.hok.fresh (zS _))⟩
  exact⟨yX (qfE xs lo hi) hz,_,(r.drop (HT.sIx xs.length 0 lo)).take (HT.sIx xs.length xs.length hi - HT.sIx xs.length 0 lo),IsTup.new _ _⟩
noncomputable def rLtT (K:PySem.W.Frag):R2:=fun x y H Q=>∃ a b ns ms,x=.ref a/\y=.ref b/\SqT K H a (ns.map V.int)/\SqT K H b (ms.map V.int)/\Q (.bl (HT.lexLt ns ms)) H
noncomputable def rCatT (K:PySem.W.Frag):R2:=fun x y H Q=>∃ a b xs ys,x=.ref a/\y=.ref b/\SqT K H a xs/\SqT K H b ys/\xs≠[]/\xs.length+ys.length<=sizeLine/\
  (ys=[]->Q (.ref a) H)/\(ys≠[]->∀ p,H p=none->Q (.ref p) (upd H p (.tup (xs++ys))))
theorem Vals.nil_iff {xs:List V}{us:List Value} (r:Vals xs us):us=[]↔xs=[]:=by
  cases r with
  | nil=>simp
  | cons _ _=>simp
theorem qnc:OpR X (binaryOp .Add) (rCatT X.K):=by
  intro pins s σ H x y v u Q I rx ry h
  obtain⟨a,b,xs,ys,rfl,rfl,ha,hb,hx,hz,q1,q2⟩:=h
  cases rx
  cases ry
  obtain⟨its,r1,p1,_⟩:=I.tuple ha
  obtain⟨its2,r2,p2,_⟩:=I.tuple hb
  refine HT.cat_tup p1 p2 (fun z=>hx (r1.nil_iff.mp z)) (fun z=>⟨.ref a,H,I,rfl,q1 (r2.nil_iff.mp z)⟩) (fun z=>?_) (by rw [<-r1.length,<-r2.length]; exact hz)
  refine⟨.ref s.heap.objs.size,_,I.laid (t':=s.toks) (o:=.tup (xs++ys)) (fun b ob q=>yH _ q) (zS _) ?_,rfl,q2 (fun w=>z (r2.nil_iff.mpr w)) _ (I.hok.fresh (zS _))⟩
  exact⟨by rw [zJ]; exact hz,_,r1.append r2,IsTup.new _ _⟩
end
end L2
namespace L2
open PySem PySem.Spec PyProof.Rows
noncomputable def ixN (n:Nat) (i:Int):Option Nat:=if 0<=i then (if i < n then some i.toNat else none) else if -(n:Int)<=i then some (i+n).toNat else none
noncomputable def atI {α:Type} (xs:List α) (i:Int):Option α:=(ixN xs.length i).bind fun j=>xs[j]?
theorem qku {n:Nat}{i:Int}{j:Nat} (h:ixN n i=some j):seqIndex? i n=some j/\j < n/\-(n:Int)<=i/\i < n:=by
  unfold ixN at h
  by_cases h0:0<=i
  · rw [if_pos h0] at h
    by_cases h1:i < n
    · rw [if_pos h1] at h
      have e:i.toNat=j:=Option.some.inj h
      exact⟨by rw [seqIndex_of h0 h1,e],by lia,by lia,h1⟩
    · rw [if_neg h1] at h; cases h
  · rw [if_neg h0] at h
    by_cases h1:-(n:Int)<=i
    · rw [if_pos h1] at h
      have e:(i+n).toNat=j:=Option.some.inj h
      exact⟨by rw [seqIndex_neg (by lia) h1,e],by lia,h1,by lia⟩
    · rw [if_neg h1] at h; cases h
theorem qh8 {α:Type}{xs:List α}{i:Int}{v:α} (h:atI xs i=some v):∃ j,seqIndex? i xs.length=some j/\xs[j]?=some v/\j < xs.length/\-(xs.length:Int)<=i/\i < xs.length:=by
  unfold atI at h
  cases e:ixN xs.length i with
  | none=>rw [e] at h; cases h
  | some j=>
    rw [e] at h
    obtain⟨h1,h2,h3,h4⟩:=qku e
    exact⟨j,h1,h,h2,h3,h4⟩
def qlj (b:Expr):Prop:=∀ o i,subscripted b false o i=operate [o,i] (getItem o i)
def IxR (X:Cx) (r:R2):Prop:=
  ∀ (value slice:Expr) (pins:List (Addr×Obj)) (s:Shared) (σ:St) (H:Hp) (x y:V) (v u:Value) (Q:VK),Inv X pins σ H s->RelV x v->RelV y u->r x y H Q->
    subscripted slice false v u=operate [v,u] (getItem v u)->wpAny (model X.prog X.w) X.A (subscriptTail value slice v u) (EP X pins σ Q) X.xe s
def MtR (X:Cx) (id:String) (r:V->List V->Hp->VK->Prop):Prop:=
  ∀ (pins:List (Addr×Obj)) (s:Shared) (σ:St) (H:Hp) (x:V) (xs:List V) (v:Value) (us:List Value) (Q:VK),Inv X pins σ H s->RelV x v->Vals xs us->r x xs H Q->
    wpAny (model X.prog X.w) X.A (call (.builtin id) (v::us)) (EP X pins σ Q) X.xe s
section
variable {X:Cx}{a b:Expr}{ta tb:TE}{pos:Pos}
theorem IxR.or {r r':R2} (h:IxR X r) (h':IxR X r'):IxR X (fun x y H Q=>r x y H Q\/r' x y H Q):=by
  intro value slice pins s σ H x y v u Q I rx ry q hs
  rcases q with q | q
  · exact h value slice pins s σ H x y v u Q I rx ry q hs
  · exact h' value slice pins s σ H x y v u Q I rx ry q hs
theorem pe_ix {r:R2} (hr:IxR X r) (ha:PE X a ta) (hb:PE X b tb) (hs:qlj b):PE X (.Subscript a b pos) (tOp r ta tb):=by
  intro pins s σ H Q I h
  exact Subscript_ (binT ha hb I h fun v u s2 x y H2 I2 rx ry q=>hr a b pins s2 σ H2 x y v u Q I2 rx ry q (hs _ _))
noncomputable def rIxL (K:PySem.W.Frag):R2:=fun x y H Q=>∃ p xs i v,x=.ref p/\y=.int i/\SqL K H p xs/\atI xs i=some v/\Q v H
noncomputable def rIxT (K:PySem.W.Frag):R2:=fun x y H Q=>∃ p xs i v,x=.ref p/\y=.int i/\SqT K H p xs/\atI xs i=some v/\Q v H
noncomputable def rIxS:R2:=fun x y H Q=>∃ z i c,x=.str z/\y=.int i/\z.length<=sizeLine/\atI z.cps.toList i=some c/\Q (.str ⟨#[c]⟩) H
theorem ix_list:IxR X (rIxL X.K):=by
  intro value slice pins s σ H x y v u Q I rx ry h hs
  obtain⟨p,xs,i,z,rfl,rfl,hq,he,q⟩:=h
  cases rx
  obtain⟨t,rfl⟩:=ry
  obtain⟨its,r,pl,hz⟩:=I.list hq
  obtain⟨j,h1,h2,h3,h4,h5⟩:=qh8 he
  obtain⟨w,ew,rw'⟩:=r.get h2
  have hl:=r.length
  have hn:=qhi
  have fin:EP X pins σ Q w s:=⟨z,H,I,rw',q⟩
  by_cases h0:0<=i
  · have hj:i.toNat=j:=by
      rw [seqIndex_of h0 h5] at h1
      exact Option.some.inj h1
    exact item_listR pl.isList h0 (by lia) (by rw [hj]; simpa using ew) fin hs
  · have hj:(i+(its.toArray.size:Int)).toNat=j:=by
      rw [seqIndex_neg (by lia) h4] at h1
      rw [zH,<-hl]
      exact Option.some.inj h1
    exact subscriptTail_builtinR (x:=w) pl.isList.typeIs slot_list_getitem.lookup
      (wpAny_getItem_list_neg (Q:=fun r s'=>r=w/\EP X pins σ Q r s') pl.isList (by lia) (by rw [zH]<;>lia) (by lia) (by rw [hj]; simpa using ew) ⟨rfl,fin⟩) hs
theorem ix_tup:IxR X (rIxT X.K):=by
  intro value slice pins s σ H x y v u Q I rx ry h hs
  obtain⟨p,xs,i,z,rfl,rfl,hq,he,q⟩:=h
  cases rx
  obtain⟨t,rfl⟩:=ry
  obtain⟨its,r,pl,hz⟩:=I.tuple hq
  obtain⟨j,h1,h2,h3,h4,h5⟩:=qh8 he
  obtain⟨w,ew,rw'⟩:=r.get h2
  have hl:=r.length
  have hn:=qhi
  have fin:EP X pins σ Q w s:=⟨z,H,I,rw',q⟩
  exact subscriptTail_builtinR (x:=w) pl.typeIs slot_tuple_getitem.lookup
    (getItem_tuple (j:=j) (Q:=fun r s'=>r=w/\EP X pins σ Q r s') pl (by lia) (by lia) (by rw [zH,<-hl]; exact h1) (by simpa using ew) ⟨rfl,fin⟩) hs
theorem qoP:IxR X rIxS:=by
  intro value slice pins s σ H x y v u Q I rx ry h hs
  obtain⟨z,i,c,rfl,rfl,hz,he,q⟩:=h
  obtain⟨t,rfl⟩:=rx
  obtain⟨t',rfl⟩:=ry
  obtain⟨j,h1,h2,h3,h4,h5⟩:=qh8 he
  have hl:z.cps.toList.length=z.length:=by simp [Str.length]
  rw [hl] at h1 h4 h5
  have hn:=qhi
  exact tail_any (typeIs_str s z t) slot_str_getitem.lookup (getItem_str (c:=c) (by
    have e1:decide (i < -(2 ^ 63:Int))=false:=decide_eq_false (by lia)
    have e2:decide (i>=2 ^ 63)=false:=decide_eq_false (by lia)
    rw [e1,e2,Bool.or_false]) (by rw [h1]; simpa using h2) ⟨.str ⟨#[c]⟩,H,I.tok _,⟨_,rfl⟩,q⟩) hs
noncomputable def rIx (K:PySem.W.Frag):R2:=fun x y H Q=>rIxL K x y H Q\/rIxT K x y H Q\/rIxS x y H Q
theorem qoQ:IxR X (rIx X.K):=ix_list.or (ix_tup.or qoP)
theorem qi5 (its:List Value) (n j:Nat) (u:Value):Obj.mapSeq (·.setIfInBounds j u) { cls:=.type "list",data:=.seq its.toArray n }={ cls:=.type "list",data:=.seq (its.set j u).toArray n }:=by
  simp [Obj.mapSeq]
theorem Inv.lst {pins:List (Addr×Obj)}{σ:St}{H:Hp}{s:Shared}{p:Addr}{xs:List V} (I:Inv X pins σ H s) (h:H p=some (.lst xs)):
    ∃ (its:List Value) (n:Nat),Vals xs its/\s.heap.get? p=some { cls:=.type "list",data:=.seq its.toArray n }/\xs.length<=sizeLine:=by
  obtain⟨z,its,n,r,e⟩:=I.hok p _ h
  exact⟨its,n,r,e,z⟩
theorem Inv.lstUpd {pins:List (Addr×Obj)}{σ:St}{H:Hp}{s:Shared}{p:Addr}{xs ys:List V}{its its':List Value}{n n':Nat}{f:Obj->Obj} (I:Inv X pins σ H s) (h:H p=some (.lst xs))
    (ho:s.heap.get? p=some { cls:=.type "list",data:=.seq its.toArray n }) (hf:f { cls:=.type "list",data:=.seq its.toArray n }={ cls:=.type "list",data:=.seq its'.toArray n' }) (r:Vals ys its') (hz:ys.length<=sizeLine) (t:Nat):
    Inv X pins σ (upd H p (.lst ys)) { s with heap:=s.heap.update p f,toks:=t }:=by
  have e:(s.heap.update p f).get? p=some { cls:=.type "list",data:=.seq its'.toArray n' }:=by
    rw [Heap.get?_update_self f ho (by rw [hf]<;>rfl),hf]
  refine I.write (x:=p) (e:=p) (by rw [h]; trivial) (.inl rfl) (fun b u hb q=>(Heap.get?_update_other _ _ (Ne.symm hb)).trans q) ⟨_,e⟩ ?_
  exact⟨hz,its',n',r,e⟩
noncomputable def rSetL:V->V->V->Hp->(Hp->Prop)->Prop:=fun o i v H Q=>∃ p xs k j,o=.ref p/\i=.int k/\H p=some (.lst xs)/\ixN xs.length k=some j/\Q (upd H p (.lst (xs.set j v)))
theorem qlv:PSet X rSetL:=by
  intro pins s σ H o i v ov iv u Q I ro ri rv h
  obtain⟨p,xs,k,j,rfl,rfl,hp,hj,q⟩:=h
  cases ro
  obtain⟨t,rfl⟩:=ri
  obtain⟨its,n,r,ho,hz⟩:=I.lst hp
  obtain⟨h1,h2,h3,h4⟩:=qku hj
  have hl:=r.length
  have hn:=qhi
  have I':Inv X pins σ (upd H p (.lst (xs.set j v))) { s with heap:=s.heap.update p (Obj.mapSeq (·.setIfInBounds j u)) }:=
    I.lstUpd hp ho (qi5 its n j u) (r.set rv j) (by rw [zT]; exact hz) s.toks
  by_cases h0:0<=k
  · have hk:k.toNat=j:=by
      rw [seqIndex_of h0 h4] at h1
      exact Option.some.inj h1
    exact PySem.W.ki_setAt ho h0 (by lia) (by rw [zH,<-hl]; exact h4) (by rw [hk]; exact⟨_,I',q⟩)
  · have hk:(k+(its.toArray.size:Int)).toNat=j:=by
      rw [seqIndex_neg (by lia) h3] at h1
      rw [zH,<-hl]
      exact Option.some.inj h1
    exact PySem.W.ki_setBack ho (by lia) (by rw [zH,<-hl]; exact h3) (by lia) (by rw [hk]; exact⟨_,I',q⟩)
theorem qg0 (lo hi:Option Int) (n:Nat):(sliceBounds lo hi none n).1=((HT.sIx n 0 lo:Nat):Int)/\(sliceBounds lo hi none n).2.1=((HT.sIx n n hi:Nat):Int)/\(sliceBounds lo hi none n).2.2=1:=by
  refine⟨?_,?_,rfl⟩
  · cases lo with
    | none=>simp [sliceBounds,HT.sIx]
    | some i=>
      simp only [sliceBounds,HT.sIx,Option.getD_none,show (1:Int) > 0 by decide,if_true]
      by_cases h:i < 0
      · simp only [h,if_true]<;>lia
      · simp only [h,if_false]<;>lia
  · cases hi with
    | none=>simp [sliceBounds,HT.sIx]
    | some i=>
      simp only [sliceBounds,HT.sIx,Option.getD_none,show (1:Int) > 0 by decide,if_true]
      by_cases h:i < 0
      · simp only [h,if_true]<;>lia
      · simp only [h,if_false]<;>lia
theorem qf5 (its:List Value) (lo hi:Option Int):slicePick its.toArray lo hi none=((its.drop (HT.sIx its.length 0 lo)).take (HT.sIx its.length its.length hi - HT.sIx its.length 0 lo)).toArray:=by
  obtain⟨h1,h2,h3⟩:=qg0 lo hi its.toArray.size
  unfold slicePick
  rw [h1,h2,h3]
  simp only [sliceRange_one,pick_run,zH]<;>rfl
noncomputable def rSlL (K:PySem.W.Frag):V->Option Int->Option Int->Hp->VK->Prop:=fun x lo hi H Q=>∃ a xs,x=.ref a/\SqL K H a xs/\∀ p,H p=none->Q (.ref p) (upd H p (.lst (cutV xs lo hi)))
theorem sl_list:SlR X (rSlL X.K):=by
  intro pins s σ H x v vl vu lo hi sl Q I rx hs pl pu h
  obtain⟨a,xs,rfl,hx,q⟩:=h
  cases rx
  obtain⟨its,r,ht,hz⟩:=I.list hx
  have hlen:=r.length
  refine⟨"list",_,slot_list_getitem.lookup,ht.isList.typeIs,?_⟩
  refine wpAny_getItem_list_slice ht.isList hs pl pu .none (by simp) ?_ (by rw [zH]<;>lia)
  rw [qf5,<-hlen]
  refine⟨.ref s.heap.objs.size,_,I.laid (t':=s.toks) (o:=.lst (cutV xs lo hi)) (fun b ob q=>yH _ q) (zS _) ?_,rfl,q _ (I.hok.fresh (zS _))⟩
  exact⟨yX (qfE xs lo hi) hz,_,0,(r.drop (HT.sIx xs.length 0 lo)).take (HT.sIx xs.length xs.length hi - HT.sIx xs.length 0 lo),xK _ rfl⟩
noncomputable def qjb:V->Bool
  | .non=>true
  | .bl _=>true
  | .int _=>true
  | .str _=>true
  | _=>false
noncomputable def eqV:V->V->Bool
  | .non,.non=>true
  | .bl a,.bl b=>a==b
  | .bl a,.int b=>(if a then 1 else 0)==b
  | .int a,.bl b=>a==(if b then 1 else 0)
  | .int a,.int b=>a==b
  | .str a,.str b=>a==b
  | _,_=>false
theorem qo5 {A:Around}{s:Shared}{y x:V}{u v:Value} (ry:RelV y u) (rx:RelV x v) (fy:qjb y=true) (fx:qjb x=true):SeqAt.EqAt A s u v (eqV y x):=by
  cases y with
  | non=>
    cases ry
    cases x with
    | non=>cases rx; exact SeqAt.EqAt.same _
    | bl b=>cases rx; exact SeqAt.EqAt.none_bool b
    | int b=>obtain⟨t,rfl⟩:=rx; exact SeqAt.EqAt.none_int b t
    | str b=>obtain⟨t,rfl⟩:=rx; exact SeqAt.EqAt.none_str b t
    | _=>exact absurd (show false=true from fx) zZ
  | bl a=>
    cases ry
    cases x with
    | non=>cases rx; exact SeqAt.EqAt.bool_none a
    | bl b=>cases rx; exact SeqAt.EqAt.bool_bool a b
    | int b=>obtain⟨t,rfl⟩:=rx; exact SeqAt.EqAt.bool_int a b t
    | str b=>obtain⟨t,rfl⟩:=rx; exact SeqAt.EqAt.bool_str a b t
    | _=>exact absurd (show false=true from fx) zZ
  | int a=>
    obtain⟨t',rfl⟩:=ry
    cases x with
    | non=>cases rx; exact SeqAt.EqAt.int_none a t'
    | bl b=>cases rx; exact SeqAt.EqAt.int_bool a t' b
    | int b=>obtain⟨t,rfl⟩:=rx; exact SeqAt.EqAt.int_int a t' b t
    | str b=>obtain⟨t,rfl⟩:=rx; exact SeqAt.EqAt.int_str a t' b t
    | _=>exact absurd (show false=true from fx) zZ
  | str a=>
    obtain⟨t',rfl⟩:=ry
    cases x with
    | non=>cases rx; exact SeqAt.EqAt.str_none a t'
    | bl b=>cases rx; exact SeqAt.EqAt.str_bool a t' b
    | int b=>obtain⟨t,rfl⟩:=rx; exact SeqAt.EqAt.str_int a t' b t
    | str b=>obtain⟨t,rfl⟩:=rx; exact SeqAt.EqAt.str_str a t' b t
    | _=>exact absurd (show false=true from fx) zZ
  | _=>exact absurd (show false=true from fy) zZ
noncomputable def eqU (x:V) (u:Value):Bool:=match u with
  | .none=>eqV .non x
  | .bool b=>eqV (.bl b) x
  | .int i _=>eqV (.int i) x
  | .str z _=>eqV (.str z) x
  | _=>false
noncomputable def inV (x:V) (xs:List V):Bool:=xs.any fun y=>eqV y x
noncomputable def rIn (K:PySem.W.Frag) (neg:Bool):R2:=fun x y H Q=>∃ p xs,y=.ref p/\(SqL K H p xs\/SqT K H p xs)/\qjb x=true/\xs.all qjb=true/\Q (.bl (if neg then !inV x xs else inV x xs)) H
theorem qhD:qfM X (.builtin "len") (fun xs H Q=>∃ p ys,xs=[.ref p]/\(SqL X.K H p ys\/SqT X.K H p ys)/\Q (.int ys.length) H):=by
  intro pins s σ H xs us Q I r h
  obtain⟨p,ys,rfl,hq,q⟩:=h
  obtain⟨u,rfl,rx⟩:=qln r
  cases rx
  have hn:=qhi
  rcases hq with hq | hq
  · obtain⟨its,r',pl,hz⟩:=I.list hq
    have hlen:=r'.length
    exact Calls.call_len_list pl.isList (by simp only [zH]<;>lia) ⟨.int ys.length,H,I.tok _,⟨s.toks+1,by rw [zH,hlen]⟩,q⟩
  · obtain⟨its,r',pl,hz⟩:=I.tuple hq
    have hlen:=r'.length
    exact len_tuple pl (by simp only [zH]<;>lia) ⟨.int ys.length,H,I.tok _,⟨s.toks+1,by rw [zH,hlen]⟩,q⟩
theorem qhC:qfM X (.type "list") (fun xs H Q=>∃ p ys,xs=[.ref p]/\(SqL X.K H p ys\/SqT X.K H p ys)/\∀ l,H l=none->Q (.ref l) (upd H l (.lst ys))):=by
  intro pins s σ H xs us Q I r h
  obtain⟨p,ys,rfl,hq,q⟩:=h
  obtain⟨u,rfl,rx⟩:=qln r
  cases rx
  have fin:∀ (its:List Value),Vals ys its->ys.length<=sizeLine->∀ (h':Heap) (c':Nat),(∀ b o',s.heap.get? b=some o'->h'.get? b=some o')->
      h'.get? s.heap.objs.size=some { cls:=.type "list",dict:=none,data:=.seq its.toArray c',slots:=#[] }->EP X pins σ Q (.ref s.heap.objs.size) { s with heap:=h' }:=fun its r' hz h' c' kp e=>
    ⟨.ref s.heap.objs.size,_,I.laid (t':=s.toks) kp (zS _) (show ObjOk X.prog X.w _ h' _ (.lst ys) from⟨hz,its,c',r',e⟩),rfl,q _ (I.hok.fresh (zS _))⟩
  rcases hq with hq | hq
  · obtain⟨its,r',pl,hz⟩:=I.list hq
    have hlen:=r'.length
    obtain⟨o,ho,hc,n,hd⟩:=pl.isList
    exact call_list_seq p (.inl rfl) ho hc hd (fun h' c' kp e=>fin its r' hz h' c' kp e) (by simp only [zH]<;>lia)
  · obtain⟨its,r',pl,hz⟩:=I.tuple hq
    have hlen:=r'.length
    obtain⟨o,ho,hc,n,hd⟩:=pl
    exact call_list_seq p (.inr rfl) ho hc hd (fun h' c' kp e=>fin its r' hz h' c' kp e) (by simp only [zH]<;>lia)
def tyV (K:PySem.W.Frag) (T:String) (x:V) (H:Hp):Prop:=match x with
  | .str _=>T="str"
  | .int _=>T="int"
  | .ref p=>(T="list"/\∃ xs,SqL K H p xs)\/(T="tuple"/\∃ o,K.lookup p=some o/\o.cls=.type "tuple"/\o.dict=none)\/
      (T="dict"/\((∃ kvs,H p=some (.dK kvs))\/∃ kvs,H p=some (.dT kvs)))\/(T="set"/\∃ S n,H p=some (.set S n))
  | _=>False
theorem qmh {pins:List (Addr×Obj)}{σ:St}{H:Hp}{s:Shared}{T:String}{x:V}{v:Value} (I:Inv X pins σ H s) (r:RelV x v) (ty:tyV X.K T x H):
    s.TypeIs v T/\∀ a,v=.ref a->∃ ob,s.heap.get? a=some ob/\ob.dict=none:=by
  cases x with
  | str z=>
    obtain⟨t,rfl⟩:=r
    cases (show T="str" from ty)
    exact⟨typeIs_str s z t,fun _ e=>nomatch e⟩
  | int i=>
    obtain⟨t,rfl⟩:=r
    cases (show T="int" from ty)
    exact⟨typeIs_int s i t,fun _ e=>nomatch e⟩
  | ref p=>
    cases r
    rcases ty with⟨rfl,xs,hq⟩ | ⟨rfl,o,hk,hc,hd⟩ | ⟨rfl,hk⟩ | ⟨rfl,S,n,hk⟩
    · obtain⟨its,_,pl,_⟩:=I.list hq
      refine⟨pl.isList.typeIs,fun a e=>?_⟩
      cases e
      obtain⟨o,n,e,c,hd,_⟩:=pl
      exact⟨o,e,hd⟩
    · refine⟨⟨o,I.kIn p o hk,hc⟩,fun a e=>?_⟩
      cases e
      exact⟨o,I.kIn _ o hk,hd⟩
    · have z:∃ o,s.heap.get? p=some o/\o.ExactDict:=by
        rcases hk with⟨kvs,hk⟩ | ⟨kvs,hk⟩
        · obtain⟨_,_,_,_,o,_,_,e,ex,_⟩:=I.hok p _ hk
          exact⟨o,e,ex⟩
        · obtain⟨_,_,_,_,o,_,_,e,ex,_⟩:=I.hok p _ hk
          exact⟨o,e,ex⟩
      obtain⟨o,e,ex⟩:=z
      refine⟨⟨o,e,ex.1⟩,fun a e2=>?_⟩
      cases e2
      exact⟨o,e,ex.2.1⟩
    · obtain⟨o,_,_,_,e,ex,_⟩:=I.hok p _ hk
      refine⟨⟨o,e,ex.1⟩,fun a e2=>?_⟩
      cases e2
      exact⟨o,e,ex.2.1⟩
  | _=>exact False.elim ty
noncomputable def tBM0 (K:PySem.W.Frag) (T:String) (r:V->List V->Hp->VK->Prop) (to:TE):TE:=fun σ H Q=>to σ H fun x H1=>tyV K T x H1/\r x [] H1 Q
noncomputable def tBM (K:PySem.W.Frag) (T:String) (r:V->List V->Hp->VK->Prop) (to:TE) (t:TA):TE:=fun σ H Q=>to σ H fun x H1=>tyV K T x H1/\t σ H1 fun xs H2=>r x xs H2 Q
variable {o e:Expr}{es:List Expr}{to:TE}{t:TA}{name:Str}{apos cpos:Pos}{T id:String}{r:V->List V->Hp->VK->Prop}
theorem qot (pa:PlainAttrs T) (slot:Slot T name id) (hty:typeOf (.builtin id)=pure (.type "method_descriptor")) (hm:MtR X id r) (ho:PE X o to)
    (hbase:attributeBase o name X.env (eval o X.env)=eval o X.env:=by rfl) (hline:(apos.endLine==cpos.line)=true:=by rfl):PE X (.Call (.Attribute o name apos) [] [] cpos) (tBM0 X.K T r to):=by
  intro pins s σ H Q I h
  refine wpAny_Call_method0_late hbase hline (thn (ho pins s σ H _ I h) fun v s1 q9=>?_)
  obtain⟨x,H1,I1,r1,ty,q1⟩:=q9
  obtain⟨h1,h2⟩:=qmh I1 r1 ty
  exact⟨T,id,pa,slot,hty,h1,h2,Calls.callWith_builtin rfl (PySem.evalArgs_none (hm pins s1 σ H1 x [] v [] Q I1 r1 .nil q1))⟩
theorem pe_bm (pa:PlainAttrs T) (slot:Slot T name id) (hty:typeOf (.builtin id)=pure (.type "method_descriptor")) (hm:MtR X id r) (ho:PE X o to) (ha:PA X (e::es) t)
    (hbase:attributeBase o name X.env (eval o X.env)=eval o X.env:=by rfl)
    (hfew:((backTo cpos (starEach (e::es) X.env)).all (fun x=>!x.1)&&(backToKw cpos (keywordEach [] X.env)).all (fun x=>x.1.isSome)
      && decide ((e::es).length+([]:List Keyword).length+(if ([]:List Keyword).isEmpty then 0 else 1) < 30))=true:=by rfl)
    (hline:(apos.endLine==cpos.line)=true:=by rfl) (hs:starEach (e::es) X.env=(false,eval e X.env)::starEach es X.env:=by rfl) (hplain:(backTo cpos (starEach es X.env)).any (·.1)=false:=by rfl):
    PE X (.Call (.Attribute o name apos) (e::es) [] cpos) (tBM X.K T r to t):=by
  intro pins s σ H Q I h
  refine wpAny_Call_method_late hbase hfew hline rfl (thn (ho pins s σ H _ I h) fun v s1 q9=>?_)
  obtain⟨x,H1,I1,r1,ty,q1⟩:=q9
  obtain⟨h1,h2⟩:=qmh I1 r1 ty
  refine⟨T,id,pa,slot,hty,h1,h2,?_⟩
  have hA:=ha cpos pins s1 σ H1 _ I1 q1
  rw [hs] at hA |-
  refine Calls.callWith_builtin (by show (false||(backTo cpos (starEach es X.env)).any (·.1))=false; rw [hplain]<;>rfl) (Calls.evalArgs_plain ?_)
  exact thn hA fun us s2 ⟨vs,H2,I2,r2,q2⟩=>hm pins s2 σ H2 x vs v us Q I2 r1 r2 q2
end
end L2
namespace L2
open PySem PySem.Spec PyProof.Rows
def MtM (X:Cx) (id:String) (r:V->List V->Hp->VK->Prop):Prop:=
  ∀ (pins:List (Addr×Obj)) (s:Shared) (σ:St) (H:Hp) (x:V) (xs:List V) (v:Value) (us:List Value) (Q:VK),Inv X pins σ H s->RelV x v->Vals xs us->r x xs H Q->
    wpAny (model X.prog X.w) X.A (call (.builtin id) (v::us)) (EP X pins σ Q) X.xe s
theorem Vals.one {x:V}{us:List Value} (h:Vals [x] us):∃ u,us=[u]/\RelV x u:=by
  cases h with
  | cons r t=>cases t; exact⟨_,rfl,r⟩
theorem Vals.two {x y:V}{us:List Value} (h:Vals [x,y] us):∃ u v,us=[u,v]/\RelV x u/\RelV y v:=by
  cases h with
  | cons r t=>cases t with
    | cons q t=>cases t; exact⟨_,_,rfl,r,q⟩
theorem Vals.zero:∀ {us:List Value},Vals [] us->us=[]
  | _,.nil=>rfl
theorem Vals.dropLast {xs:List V}{us:List Value} (h:Vals xs us):Vals xs.dropLast us.dropLast:=by
  induction h with
  | nil=>exact .nil
  | cons r t ih=>
    cases t with
    | nil=>exact .nil
    | cons q t'=>exact .cons r ih
theorem Vals.eraseIdx:∀ {xs:List V}{us:List Value} (i:Nat),Vals xs us->Vals (xs.eraseIdx i) (us.eraseIdx i)
  | _,_,_,.nil=>.nil
  | _,_,0,.cons _ t=>t
  | _,_,i+1,.cons r t=>.cons r (Vals.eraseIdx i t)
theorem qjd {α:Type} (l:List α):l.eraseIdx (l.length - 1)=l.dropLast:=by
  induction l with
  | nil=>rfl
  | cons a r ih=>
    cases r with
    | nil=>rfl
    | cons b r=>
      have e:(a::b::r).length - 1=((b::r).length - 1)+1:=by
        have h1:(a::b::r).length=r.length+2:=rfl
        have h2:(b::r).length=r.length+1:=rfl
        lia
      rw [e,List.eraseIdx_cons_succ,ih]
      all_goals rfl
theorem qhj {α:Type}:∀ (l:List α) (i:Nat),(l.eraseIdx i).length<=l.length
  | [],_=>zS _
  | _::_,0=>Nat.le_succ _
  | _::r,i+1=>Nat.succ_le_succ (qhj r i)
section
variable {X:Cx}{pins:List (Addr×Obj)}{σ:St}{H:Hp}{s:Shared}{l b:Addr}{xs ys zs:List V}
theorem Inv.lset {its its':List Value}{n:Nat}{f:Array Value->Array Value}{t':Nat} (I:Inv X pins σ H s) (hH:H l=some (.lst xs))
    (e:s.heap.get? l=some { cls:=.type "list",data:=.seq its.toArray n }) (hf:f its.toArray=its'.toArray) (hv:Vals ys its') (hz:ys.length<=sizeLine):
    Inv X pins σ (upd H l (.lst ys)) { s with heap:=s.heap.update l (Obj.mapSeq f),toks:=t' }:=by
  have q:=PySem.IsL.update e f
  rw [hf] at q
  refine I.write (x:=l) (e:=l) (by rw [hH]; exact trivial) (.inl rfl) (fun b' u hb hu=>(Heap.get?_update_other s.heap (Obj.mapSeq f) (Ne.symm hb)).trans hu) ⟨_,q⟩ ?_
  exact⟨hz,its',_,hv,q⟩
theorem Inv.lnew {its:List Value}{t':Nat} (I:Inv X pins σ H s) (hv:Vals ys its) (hz:ys.length<=sizeLine):
    Inv X pins σ (upd H s.heap.objs.size (.lst ys)) { s with heap:=s.heap.push { cls:=.type "list",data:=.seq its.toArray },toks:=t' }:=
  I.laid (fun _ _ q=>yH _ q) (zS _) ⟨hz,its,0,hv,xK _ rfl⟩
theorem Inv.lstM (I:Inv X pins σ H s) (hH:H l=some (.lst xs)):xs.length<=sizeLine/\∃ (its:List Value) (n:Nat),Vals xs its/\xs.length=its.length/\s.heap.get? l=some { cls:=.type "list",data:=.seq its.toArray n }:=by
  obtain⟨z,its,n,r,e⟩:=I.hok l _ hH
  exact⟨z,its,n,r,r.length,e⟩
theorem qlT {n:Nat} (h:n<=sizeLine):Builtin.List.listTooLong n=false:=by
  unfold Builtin.List.listTooLong
  exact decide_eq_false (by lia)
end
section
variable {X:Cx}
noncomputable def qjV:V->List V->Hp->VK->Prop:=fun x vs H Q=>∃ l xs y,x=.ref l/\vs=[y]/\H l=some (.lst xs)/\xs.length < sizeLine/\Q .non (upd H l (.lst (xs++[y])))
theorem qhg:MtM X "list.append" qjV:=by
  intro pins s σ H x vs v us Q I rx rv h
  obtain⟨l,xs,y,rfl,rfl,hH,hz,q⟩:=h
  cases rx
  obtain⟨u,rfl,ru⟩:=rv.one
  obtain⟨z,its,n,r,hl,e⟩:=I.lstM hH
  refine call_meets F.slot_list_append ⟨_,e,rfl⟩ F.entry_list_append (F.args_list_append_2 _ _) (PySem.list_append l its.toArray n u (by rw [zH]; lia)) ⟨e,?_⟩
  refine⟨.non,_,I.lset (its':=its++[u]) hH e (by simp) (r.append (.cons ru .nil)) ?_,rfl,q⟩
  rw [zJ,yV]
  lia
noncomputable def qjU:V->List V->Hp->VK->Prop:=fun x vs H Q=>∃ l b xs zs,x=.ref l/\vs=[.ref b]/\H l=some (.lst xs)/\H b=some (.lst zs)/\xs.length+zs.length<=sizeLine/\Q .non (upd H l (.lst (xs++zs)))
theorem qkg:MtM X "list.extend" qjU:=by
  intro pins s σ H x vs v us Q I rx rv h
  obtain⟨l,b,xs,zs,rfl,rfl,hH,hB,hz,q⟩:=h
  cases rx
  obtain⟨u,rfl,ru⟩:=rv.one
  cases ru
  obtain⟨z,its,n,r,hl,e⟩:=I.lstM hH
  obtain⟨z2,its2,n2,r2,hl2,e2⟩:=I.lstM hB
  have hsz:its.toArray.size+its2.toArray.size<=sizeLine:=by rw [zH,zH]; lia
  have hlong:¬ (!its.toArray.isEmpty&&Builtin.List.listTooLong (its.toArray.size+its2.toArray.size))=true:=by
    rw [qlT hsz,Bool.and_false]
    exact zZ
  refine call_meets F.slot_list_extend ⟨_,e,rfl⟩ F.entry_list_extend (F.args_list_extend_2 _ _)
    (AutoSeq1.list_extend_list_list_0 l its.toArray n b its2.toArray n2 hlong (by rw [zH]; lia) (by lia)) ⟨e,e2,?_⟩
  refine⟨.non,_,I.lset (its':=its++its2) hH e (by simp) (r.append r2) ?_,rfl,q⟩
  rw [zJ]
  lia
noncomputable def rPop:V->List V->Hp->VK->Prop:=fun x vs H Q=>∃ l xs y,x=.ref l/\vs=[]/\H l=some (.lst xs)/\xs[xs.length - 1]?=some y/\Q y (upd H l (.lst xs.dropLast))
theorem qoG:MtM X "list.pop" rPop:=by
  intro pins s σ H x vs v us Q I rx rv h
  obtain⟨l,xs,y,rfl,rfl,hH,hy,q⟩:=h
  cases rx
  have hus:=rv.zero
  subst hus
  obtain⟨z,its,n,r,hl,e⟩:=I.lstM hH
  obtain⟨u,hu,ru⟩:=r.get hy
  have hy':its.toArray[its.toArray.size - 1]?=some u:=by
    show its.toArray[its.length - 1]?=some u
    rw [<-Array.getElem?_toList,<-hl]
    exact hu
  refine call_meets F.slot_list_pop ⟨_,e,rfl⟩ F.entry_list_pop (F.args_list_pop_1 _) (MeetsSeq.list_pop_last l its.toArray n u hy' (by rw [zH]; lia)) ⟨e,?_⟩
  refine⟨y,_,I.lset (its':=its.dropLast) hH e ?_ r.dropLast ?_,ru,q⟩
  · show its.toArray.eraseIdxIfInBounds (its.toArray.size - 1)=its.dropLast.toArray
    rw [zH,List.eraseIdxIfInBounds_toArray,qjd]
  · rw [y8]
    lia
noncomputable def qml:V->List V->Hp->VK->Prop:=fun x vs H Q=>∃ l xs i k y,x=.ref l/\vs=[.int i]/\H l=some (.lst xs)/\-(2 ^ 63)<=i/\i < 2 ^ 63/\seqIndex? i xs.length=some k/\xs[k]?=some y/\Q y (upd H l (.lst (xs.eraseIdx k)))
theorem qlU:MtM X "list.pop" qml:=by
  intro pins s σ H x vs v us Q I rx rv h
  obtain⟨l,xs,i,k,y,rfl,rfl,hH,h1,h2,hk,hy,q⟩:=h
  cases rx
  obtain⟨u,rfl,ru⟩:=rv.one
  obtain⟨t,rfl⟩:=ru
  obtain⟨z,its,n,r,hl,e⟩:=I.lstM hH
  obtain⟨w,hw,rw'⟩:=r.get hy
  refine call_meets F.slot_list_pop ⟨_,e,rfl⟩ F.entry_list_pop (F.args_list_pop_2 _ _)
    (MeetsSeq.list_pop_at l its.toArray n i t k w (fitsIndex_both h1 h2) (by rw [zH,<-hl]; exact hk) (by rw [<-Array.getElem?_toList]; exact hw) (by rw [zH]; lia)) ⟨e,?_⟩
  refine⟨y,_,I.lset (its':=its.eraseIdx k) hH e ?_ (r.eraseIdx k) ?_,rw',q⟩
  · show its.toArray.eraseIdxIfInBounds k=(its.eraseIdx k).toArray
    rw [List.eraseIdxIfInBounds_toArray]
  · have:=qhj xs k
    lia
noncomputable def rReverse:V->List V->Hp->VK->Prop:=fun x vs H Q=>∃ l xs,x=.ref l/\vs=[]/\H l=some (.lst xs)/\Q .non (upd H l (.lst xs.reverse))
noncomputable def rClear:V->List V->Hp->VK->Prop:=fun x vs H Q=>∃ l xs,x=.ref l/\vs=[]/\H l=some (.lst xs)/\Q .non (upd H l (.lst []))
noncomputable def rCat:R2:=fun x y H Q=>∃ l b xs zs,x=.ref l/\y=.ref b/\H l=some (.lst xs)/\H b=some (.lst zs)/\xs.length+zs.length<=sizeLine/\∀ p,H p=none->Q (.ref p) (upd H p (.lst (xs++zs)))
noncomputable def rRep:R2:=fun x y H Q=>∃ l k xs,x=.ref l/\y=.int k/\H l=some (.lst xs)/\-(2 ^ 63)<=k/\k < 2 ^ 63/\xs.length*k.toNat<=sizeLine/\
  ∀ p,H p=none->Q (.ref p) (upd H p (.lst (List.replicate k.toNat xs).flatten))
end
section
variable {prog:Program}{w:World}{A:Around}{E:Value->Shared->Prop}{s:Shared}
set_option maxRecDepth 100000 in
end
section
variable {X:Cx}
end
end L2
namespace Att
open PySem PySem.W PySem.Calls PyProof.Rows
theorem qft {P:Params}{h:Heap}:∀ (ns:List Int) (vs:List Value),WellAll P h vs (ns.map WData.int)->IntsAre vs ns:=by
  intro ns
  induction ns with
  | nil=>
    intro vs w
    rw [yG] at w
    cases w
    exact .nil
  | cons n ns ih=>
    intro vs w
    rw [yE] at w
    cases w with
    | cons a b=>
      cases a
      exact .cons _ _ (ih _ b)
theorem qjF {l:OpenLaw}{n:Nat} (hn:l.most=some n) {P:Params}{h:Heap}{args:List WData}{vals:List Value}
    (hpre:l.row.toRowW.claim.pre args=true) (hwl:WellAll P h vals args):
    ∃ a vs ns,vals=[Value.ref a]/\args=[WData.list (ns.map WData.int)]/\h.get? a=some { cls:=.type "list",data:=.seq vs.toArray }/\IntsAre vs ns/\ns.length<=n:=by
  have hsh:WShape.hasAll [] args [.list .int]=true:=(pre_splitW hpre).1
  have hc:l.pre.holds [] { args:=args }=true:=(pre_splitW hpre).2
  obtain⟨d,r,rfl,h1,h2⟩:=hasAllW_cons hsh
  obtain rfl:=hasAllW_nil h2
  obtain⟨xs,rfl,h3⟩:=hasW_list h1
  obtain⟨ns,rfl⟩:=items_int h3
  have hlen:ns.length<=n:=by
    unfold OpenLaw.pre at hc
    have h4:(WTm.not (.lt (.lit (.int (n:Int))) (.len (.arg 0)))).holds [] { args:=[.list (ns.map .int)] }=true:=by
      have h4:=(holds_andW hc).1
      rw [hn] at h4
      exact h4
    have h5:=condW_of h4 (w_not (w_lt w_lit (w_len_list (w_arg rfl))))
    rw [zC] at h5
    refine Nat.le_of_not_lt fun q=>?_
    have q':(n:Int) < ((ns.length:Nat):Int):=by lia
    first
      | (rw [decide_eq_true q'] at h5; exact absurd h5 (by decide))
      | (simp at h5; lia)
  cases hwl with
  | cons w1 w2=>
    cases w2
    cases w1 with
    | list ho hall=>exact⟨_,_,ns,rfl,rfl,ho,qft ns _ hall,hlen⟩
theorem qj0 (l:OpenLaw) (args:List WData):l.row.toRowW.claim.post args (.bool true) args=true:=
  postW_of (r:=l.row.toRowW) (X:=(true==true))
    (show WShape.has [] (.bool true) .bool=true by first | rfl | decide | simp [WShape.has,WShape.arms,WShape.armsAll])
    (show (WTm.eq .res (.lit (.bool true))).value [] { args:=args,res:=some (.bool true),after:=args }=some (.bool (true==true)) from w_eq_bool (w_res rfl) w_lit) rfl
theorem attach_call {l:OpenLaw}{n:Nat}{q:Program}{loose:List Str}{XP:(Str->Option Value)->Heap->Prop}{YP:World->Heap->Prop}{d:DefRec}
    (hn:l.most=some n) (hdf:d.params.defaults=[])
    (call:∀ (w:World) (s₀ s₁:Shared) (mg mb:Str->Option Value) (fa:Addr) (o:Obj) (pm cd doc:Value) (a:Addr) (vs:List Value) (ns:List Int),
      Ground q loose [] XP w s₀ mg mb s₁.heap->YP w s₁.heap->
      s₁.heap.get? fa=some o->o.data=.func (docDef d.name d.params d.body d.scope pm cd doc)->s₁.heap.CodeRec cd d.name->mg d.name=some (.ref fa)->
      s₁.heap.get? a=some { cls:=.type "list",data:=.seq vs.toArray }->IntsAre vs ns->ns.length<=n->s₁.gens=#[]->
      codeAny (model l.prog w) callerA (.call (.ref fa) ⟨[.ref a],[]⟩) (fun r s'=>r=.ok (.ret (.bool true))/\OldK s₁.heap s'.heap/\s'.os=s₁.os/\AllBare s'.gens) s₁):
    WalkO q loose XP YP l.row.toRowW d [] (fun f vs=>PySem.call f vs):=by
  intro w s₀ s₁ mg mb G Y fa o pm cd doc dV kV ho hd hcd hD hmg hg args vals as hpre hlay hrd hwl hlo
  obtain rfl:dV=.none:=Dflts.none hD hdf
  obtain rfl:kV=.none:=Dflts.noKw hD
  obtain⟨a,vs,ns,rfl,rfl,hobj,hints,hlen⟩:=qjF hn hpre hwl
  refine enter_call (codeAny_mono (call w s₀ s₁ mg mb fa o pm cd doc a vs ns G Y ho (fd_plain hd) hcd hmg hobj hints hlen hg) fun r s' hq=>?_)
  obtain⟨rfl,h2,h3,h4⟩:=hq
  exact⟨.inl ⟨.bool true,.bool true,[],rfl,fun _=>rfl,.bool true,qj0 l _,fun _=>⟨List.Pairwise.nil,fun _ hm=>(nomatch hm)⟩⟩,h2,h3,h4⟩
section
variable {prog:Program}{w:World}{A:Around}{E:Value->Shared->Prop}{s:Shared}{K:Frag}
noncomputable def noObjs (h:Heap):Heap:={ h with objs:=#[] }
noncomputable def ledger (h:Heap) (L d:Addr):List (Addr×Obj):=(List.range h.objs.size).filterMap fun a=>if a=L\/a=d then none else (h.get? a).map fun o=>(a,o)
end
end Att
namespace L2
open PySem PySem.Spec PyProof.Rows
theorem qgV:∀ {vs:List Value}{ns:List Int},IntsAre vs ns->Vals (ns.map V.int) vs
  | _,_,.nil=>.nil
  | _,_,.cons n t h=>.cons ⟨t,rfl⟩ (qgV h)
def Only (H:Hp):Prop:=∀ b,H b=none\/∃ o xs,H b=some (.frz o (.lst xs))
theorem qlX {P:Program}{w:World}{K:PySem.W.Frag}{mg mb:Str->Option Value}{CX:CXT}{k:Nat}{fa a:Addr}{fd:FuncData}{x:Str}{sp:Sp}{s₁:Shared}{vs:List Value}{ns:List Int}
    (KX:K.In s₁.heap) (hns:s₁.heap.Ns mainGlobals mg) (hb:s₁.heap.Ns builtinsNs mb) (hbb:∀ x:Str,x≠"__name__"->mb x=bootBuiltins x) (hlim:s₁.heap.NoLimit) (hg:s₁.gens=#[])
    (ha:s₁.heap.get? a=some { cls:=.type "list",data:=.seq vs.toArray }) (hi:IntsAre vs ns) (hl:ns.length<=sizeLine) (hr:Room k callerA)
    (F:∀ base:Heap,K.In base->base.Ns mainGlobals mg->FnOk P w K mg base CX k fa fd [x] sp) (hbind:∀ (s:Shared) (u:Value),BindsTo s fd ⟨[u],[]⟩ [(x,u)])
    (hsp:∀ H:Hp,Only H->SqL K H a (ns.map V.int)->sp [.ref a] H (fun v _=>v=.bl true) fun _ _ _=>False)
    (hCX:∀ H e s',CX [] H s₁ (fun _ _ _=>False) e s'->False):
    codeAny (model P w) callerA (.call (.ref fa) ⟨[.ref a],[]⟩) (fun r s'=>r=.ok (.ret (.bool true))/\OldK s₁.heap s'.heap/\s'.os=s₁.os/\AllBare s'.gens) s₁:=by
  have rv:=qgV hi
  have lenV:=hi.length
  have core:∀ H:Hp,Only H->SqL K H a (ns.map V.int)->HOk P w H s₁.heap->(∀ b,H b≠none->b=a)->(H a≠none->K.lookup a=none)->
      codeAny (model P w) callerA (.call (.ref fa) ⟨[.ref a],[]⟩) (fun r s'=>r=.ok (.ret (.bool true))/\OldK s₁.heap s'.heap/\s'.os=s₁.os/\AllBare s'.gens) s₁:=by
    intro H hO hS hok hA hK
    have base_of:∀ {b:Addr}{o:Obj},s₁.heap.get? b=some o->H b=none->(hidT s₁.heap H).get? b=some o:=fun e n=>ql1 e n
    have noA:∀ {b:Addr}{o:Obj}{es:Array DictEntry}{ep:Nat},s₁.heap.get? b=some o->o.data=.dict es ep->H b=none:=fun {b o es ep} e d=>by
      cases q:H b with
      | none=>rfl
      | some u=>
        have e':b=a:=hA b (by rw [q]; simp)
        subst e'
        rw [ha] at e; cases e
        have d':Data.seq vs.toArray _=Data.dict es ep:=d
        cases d'
    have nsK:∀ {b:Addr}{m:Str->Option Value},s₁.heap.Ns b m->(hidT s₁.heap H).Ns b m:=fun {b m} ⟨o,es,ep,e,d,r⟩=>⟨o,es,ep,base_of e (noA e d),d,r⟩
    have hKb:K.In (hidT s₁.heap H):=fun b o e=>base_of (KX b o e) (by
      cases q:H b with
      | none=>rfl
      | some u=>
        have e':b=a:=hA b (by rw [q]; simp)
        subst e'
        rw [hK (by rw [q]; simp)] at e; cases e)
    have hM:Mod K mg (hidT s₁.heap H):=⟨hKb,nsK hns,⟨mb,nsK hb,hbb⟩,let ⟨mc,h1,h2⟩:=hlim; ⟨mc,nsK h1,h2⟩⟩
    have e0:Env0 P w K mg (hidT s₁.heap H) callerA [] s₁ H:=⟨rfl,hM,fun b o e=>qng e,Nat.le_of_eq (qkD _ _),trivial,fun b hb=>absurd (show b∈([]:List Addr) from hb) (by simp),hok,.of_eq hg⟩
    refine codeAny_mono ((F _ hKb (nsK hns)).run callerA [] s₁ H ⟨[.ref a],[]⟩ [.ref a] [.ref a] _ _ hr e0 (hbind s₁ (.ref a)) (.cons rfl .nil) (hsp H hO hS)) fun r s' h=>?_
    cases r with
    | error e=>exact (hCX H e s' h).elim
    | ok fl=>
      cases fl with
      | next=>exact False.elim h
      | brk=>exact False.elim h
      | cont=>exact False.elim h
      | ret u=>
        obtain⟨v,H',os,bare,un,hok',r',q⟩:=h
        have q':v=.bl true:=q
        subst q'
        obtain rfl:u=Value.bool true:=r'
        refine⟨rfl,OldK.of_keep fun b o e=>?_,os,bare⟩
        cases q:H b with
        | none=>exact un.keep b o e q (by intro z; exact absurd (show b∈([]:List Addr) from z) (by simp)) (by simp)
        | some u=>
          rcases hO b with z | ⟨ob,xs,z⟩
          · rw [q] at z; cases z
          · have z2:=un.frzs b ob _ z
            obtain⟨e1,_⟩:=hok b _ z
            obtain⟨e2,_⟩:=hok' b _ z2
            rw [e] at e1; cases e1
            exact e2
  cases hk:K.lookup a with
  | some o=>
    have e:=KX a o hk
    rw [ha] at e
    cases e
    refine core (fun _=>none) (fun _=>.inl rfl) (.inr ⟨_,vs.toArray,_,hk,rfl,rfl,rfl,by rw [zH,lenV]; exact hl,by simpa using rv⟩) (fun b u z=>by have z':(none:Option HO)=some u:=z; cases z') (fun b z=>absurd rfl z) fun z=>absurd rfl z
  | none=>
    refine core (fun b=>if b=a then some (.frz { cls:=.type "list",data:=.seq vs.toArray } (.lst (ns.map V.int))) else none) (fun b=>?_) (.inl (.inr ⟨{ cls:=.type "list",data:=.seq vs.toArray },if_pos rfl⟩)) (fun b u z=>?_) (fun b z=>?_) fun _=>hk
    · by_cases hb:b=a
      · exact .inr ⟨_,_,if_pos hb⟩
      · exact .inl (if_neg hb)
    · by_cases hb:b=a
      · have z':=(if_pos hb).symm.trans z
        cases z'
        subst hb
        exact⟨ha,by rw [zC]; exact hl,vs,_,rv,ha⟩
      · have z':=(if_neg hb).symm.trans z
        cases z'
    · by_cases hb:b=a
      · exact hb
      · exact absurd (if_neg hb) z
end L2
namespace L2
open PySem PySem.Spec PyProof.Rows
noncomputable abbrev KOf {K:PySem.W.Frag}{h:Heap} (_:K.In h):PySem.W.Frag:=K
theorem walk_of {l:PySem.W.OpenLaw}{n k:Nat}{q:Program}{loose:List Str}{XP:(Str->Option Value)->Heap->Prop}{YP:World->Heap->Prop}{d:DefRec}{K:Params->PySem.W.Frag}{CX:World->CXT}{sp:World->Sp}{x:Str}
    (hn:l.most=some n) (hn2:n<=sizeLine) (hdf:d.params.defaults=[]) (hr:Room k callerA)
    (hY:∀ (w:World) (h:Heap),YP w h->(K w.params).In h)
    (F:∀ (w:World) (mg:Str->Option Value) (fa:Addr) (h:Heap),(K w.params).In h->h.Ns mainGlobals mg->mg d.name=some (.ref fa)->
      ∃ fd:FuncData,(∀ (s:Shared) (u:Value),BindsTo s fd ⟨[u],[]⟩ [(x,u)])/\
        ∀ base:Heap,(K w.params).In base->base.Ns mainGlobals mg->FnOk l.prog w (K w.params) mg base (CX w) k fa fd [x] (sp w))
    (hsp:∀ (w:World) (H:Hp) (a:Addr) (ns:List Int),ns.length<=n->Only H->SqL (K w.params) H a (ns.map V.int)->sp w [.ref a] H (fun v _=>v=.bl true) fun _ _ _=>False)
    (hCX:∀ (w:World) (H:Hp) (s:Shared) (e:Value) (s':Shared),CX w [] H s (fun _ _ _=>False) e s'->False):
    PySem.W.WalkO q loose XP YP l.row.toRowW d [] (fun f vs=>PySem.call f vs):=by
  refine Att.attach_call hn hdf fun w s₀ s₁ mg mb fa o pm cd doc a vs ns G Y ho hd hcd hmg hobj hints hlen hg=>?_
  have KX:=hY w _ Y
  obtain⟨fd,hb,hF⟩:=F w mg fa _ KX G.T.g hmg
  exact qlX KX G.T.g G.T.b G.T.builtins G.T.nolimit hg hobj hints (yX hlen hn2) hr hF hb (fun H hO hS=>hsp w H a ns hlen hO hS) fun H e s'=>hCX w H s₁ e s'
end L2
namespace L2
open PySem PySem.Spec PyProof.Rows
noncomputable def inClass (s:Stmt) (j:Nat):Stmt:=match s with
  | .ClassDef _ _ _ body _ _ _ _ _ _ _=>body.getD j (.Pass ⟨0,0,0,0⟩)
  | _=>.Pass ⟨0,0,0,0⟩
noncomputable def qb8 (s:Stmt):Arguments:=match s with
  | .FunctionDef _ a _ _ _ _ _ _ _ _=>a
  | _=>{ posonlyargs:=[],args:=[],vararg:=none,kwonlyargs:=[],kw_defaults:=[],kwarg:=none,defaults:=[] }
noncomputable def qby (s:Stmt):List Stmt:=match s with
  | .FunctionDef _ _ b _ _ _ _ _ _ _=>b
  | _=>[]
noncomputable def qam (s:Stmt):Scope:=match s with
  | .FunctionDef _ _ _ _ _ _ sc _ _ _=>sc
  | _=>{ kind:=.function,names:=[],isGenerator:=false,isCoroutine:=false }
noncomputable abbrev CX0:CXT:=fun _ _ _ _ _ _=>False
noncomputable abbrev E0:XK:=fun _ _ _=>False
theorem pass0 {X:Cx}:qlk CX0 X E0:=fun _ _ _ _ _ _ _ h=>h.elim
structure Fun (K:PySem.W.Frag) (x qual:Str) (st:Stmt) (f:Addr) (fd:FuncData):Prop where
  ex:∃ (oc:Value) (od:Option Addr) (kV doc pm:Value) (an:Option Addr) (cdv ct:Value) (osl:Array (Option Value)),
    fd=PySem.W.fnOf x qual (qb8 st) (qby st) (qam st) .none kV doc pm an cdv ct/\K.lookup f=some ⟨oc,od,.func fd,osl⟩/\PySem.W.codeIn K cdv qual=true
  kp:PySem.W.keepIn K (.ref f)=true
section
variable {P:Program}{w:World}{K:PySem.W.Frag}{mg:Str->Option Value}{base:Heap}
theorem Fun.ok {x qual:Str}{st:Stmt}{f:Addr}{fd:FuncData}{N ps:List Str}{k:Nat}{sp:Sp} (F:Fun K x qual st f fd) (S:qaE N ps (qam st)) (len:∀ vs H Q E,sp vs H Q E->vs.length=ps.length)
    (hbody:∀ (cdv:Value) (A:Around) (outer:List Env) (s:Shared) (H:Hp) (vs:List V) (Q:VK) (E:XK),Room k (A.deeper (envOfC qual (qam st) s.heap.objs.size f cdv))->sp vs H Q E->
      ∃ t,PSs (cxOf CX0 P w K mg base N qual (qam st) f cdv A outer s H E).nox (qby st) t/\t { nx:=fun _ H'=>Q .non H',rt:=Q } (start N vs) H):FnOk P w K mg base CX0 (k+1) f fd ps sp:=by
  obtain⟨oc,od,kV,doc,pm,an,cdv,ct,osl,rfl,lk,hcd⟩:=F.ex
  refine qo2 lk hcd S len fun A outer s H vs Q E hr hsp=>?_
  obtain⟨t,h,q⟩:=hbody cdv A outer s H vs Q E hr hsp
  exact⟨t,h.nox,q⟩
theorem Fun.binds {x qual:Str}{st:Stmt}{f:Addr}{fd:FuncData}{ps:List Str} (F:Fun K x qual st f fd)
    (h:∀ (kV doc pm:Value) (an:Option Addr) (cdv ct:Value) (us:List Value),us.length=ps.length->bindArgs (PySem.W.fnOf x qual (qb8 st) (qby st) (qam st) .none kV doc pm an cdv ct) ⟨us,[]⟩=pure (ps.zip us)):Binds K fd ps []:=by
  obtain⟨oc,od,kV,doc,pm,an,cdv,ct,osl,rfl,lk,hcd⟩:=F.ex
  exact .all (h kV doc pm an cdv ct)
theorem qmu {x qual:Str}{st:Stmt}{f:Addr}{oc:Value}{od an:Option Addr}{osl:Array (Option Value)}{kV doc pm cdv ct:Value} (l:K.lookup f=some ⟨oc,od,.func (PySem.W.fnOf x qual (qb8 st) (qby st) (qam st) .none kV doc pm an cdv ct),osl⟩)
    (c:PySem.W.codeIn K cdv qual=true) (k:PySem.W.keepIn K (.ref f)=true):Fun K x qual st f (PySem.W.fnOf x qual (qb8 st) (qby st) (qam st) .none kV doc pm an cdv ct):=⟨⟨oc,od,kV,doc,pm,an,cdv,ct,osl,rfl,l,c⟩,k⟩
end
section
variable {X:Cx}
theorem pv (i:Nat) {x:Str}{pos:Pos} (hN:X.N[i]?=some x:=by rfl) (hv:Vis X.env.scope x:=by first | exact Or.inl rfl | exact Or.inr (Or.inl rfl) | exact Or.inr (Or.inr rfl)) (hd:(x==("__debug__":Str))=false:=by decide)
    (hcd:(x==("__classdict__":Str))=false:=by decide):PE X (.Name x pos) (tVar i):=qol hN hv hd hcd
end
theorem iteF {A B:Prop} (h:B):if false=true then A else B:=by
  rw [if_neg zZ]
  exact h
theorem iteT {A B:Prop} (h:A):if true=true then A else B:=by
  rw [if_pos rfl]
  exact h
def Same (H H':Hp):Prop:=∀ b o,H b=some o->H' b=some o
end L2
set_option Elab.async false
set_option linter.all false
set_option maxRecDepth 100000
set_option maxHeartbeats 8000000
namespace DL
open PySem PySem.Spec PyProof.Rows L2
noncomputable abbrev St:=L2.St
inductive D where
 | non | bl (b:Bool) | int (i:Int) | str (x:Str) | tup (ds:List D) | lst (n:Nat) | ro (ns:List Int)
inductive O where
 | lst (ds:List D) | dct (kvs:List (Key×D))
noncomputable abbrev Hh:=List O
noncomputable abbrev En:=List (Option D)
inductive Res (α:Type) where
 | ok (a:α) (h:Hh) | ex (c:Value) (h:Hh) | bad
inductive Out where
 | nx (e:En) (h:Hh) | rt (d:D) (h:Hh) | bk (e:En) (h:Hh) | ct (e:En) (h:Hh) | ex (c:Value) (e:En) (h:Hh) | bad
noncomputable abbrev FE:=En->Hh->Res D
noncomputable abbrev FT:=En->Hh->Res Bool
noncomputable abbrev FA:=En->Hh->Res (List D)
noncomputable abbrev FS:=En->Hh->Out
noncomputable def Res.bind {α β:Type} (r:Res α) (k:α->Hh->Res β):Res β:=match r with
 | .ok a h=>k a h
 | .ex c h=>.ex c h
 | .bad=>.bad
@[simp] theorem Res.bind_ok {α β:Type} (a:α) (h:Hh) (k:α->Hh->Res β):(Res.ok a h).bind k=k a h:=rfl
@[simp] theorem Res.bind_ex {α β:Type} (c:Value) (h:Hh) (k:α->Hh->Res β):(Res.ex c h:Res α).bind k=.ex c h:=rfl
@[simp] theorem Res.bind_bad {α β:Type} (k:α->Hh->Res β):(Res.bad:Res α).bind k=.bad:=rfl
noncomputable def Res.out {α:Type} (r:Res α) (e:En) (k:α->Hh->Out):Out:=match r with
 | .ok a h=>k a h
 | .ex c h=>.ex c e h
 | .bad=>.bad
@[simp] theorem Res.out_ok {α:Type} (a:α) (h:Hh) (e:En) (k:α->Hh->Out):(Res.ok a h).out e k=k a h:=rfl
@[simp] theorem Res.out_ex {α:Type} (c:Value) (h:Hh) (e:En) (k:α->Hh->Out):(Res.ex c h:Res α).out e k=.ex c e h:=rfl
@[simp] theorem Res.out_bad {α:Type} (e:En) (k:α->Hh->Out):(Res.bad:Res α).out e k=.bad:=rfl
section
variable {α β:Type}{F G:α->β->Prop}
theorem Pd.app {xs:List α}{us:List β}{ys:List α}{ws:List β} (h:Paired F xs us) (s:Paired F ys ws):Paired F (xs++ys) (us++ws):=by
 induction h with
 | nil=>exact s
 | cons r t ih=>exact .cons r ih
theorem Pd.take:∀ {xs:List α}{us:List β} (n:Nat),Paired F xs us->Paired F (xs.take n) (us.take n)
 | _,_,0,_=>.nil
 | _,_,_+1,.nil=>.nil
 | _,_,n+1,.cons r t=>.cons r (Pd.take n t)
theorem Pd.drop:∀ {xs:List α}{us:List β} (n:Nat),Paired F xs us->Paired F (xs.drop n) (us.drop n)
 | _,_,0,r=>r
 | _,_,_+1,.nil=>.nil
 | _,_,n+1,.cons _ t=>Pd.drop n t
theorem Pd.get:∀ {xs:List α}{us:List β}{i:Nat}{x:α},Paired F xs us->xs[i]?=some x->∃ u,us[i]?=some u/\F x u
 | _,_,_,_,.nil,e=>by simp at e
 | _,_,0,_,.cons r _,e=>by
  simp only [zU,Option.some.injEq] at e
  subst e
  exact⟨_,by simp,r⟩
 | _,_,i+1,_,.cons _ t,e=>by
  simp only [zL] at e
  obtain⟨u,e2,r⟩:=Pd.get t e
  exact⟨u,by simpa using e2,r⟩
theorem Pd.set {x:α}{u:β} (r:F x u):∀ {xs:List α}{us:List β} (i:Nat),Paired F xs us->Paired F (xs.set i x) (us.set i u)
 | _,_,_,.nil=>.nil
 | _,_,0,.cons _ t=>.cons r t
 | _,_,i+1,.cons q t=>.cons q (Pd.set r i t)
theorem Pd.imp (f:∀ a b,F a b->G a b) {xs:List α}{us:List β} (h:Paired F xs us):Paired G xs us:=by
 induction h with
 | nil=>exact .nil
 | cons r t ih=>exact .cons (f _ _ r) ih
theorem Pd.of_get:∀ {xs:List α}{us:List β},xs.length=us.length->(∀ (i:Nat) x u,xs[i]?=some x->us[i]?=some u->F x u)->Paired F xs us
 | [],[],_,_=>.nil
 | [],_::_,h,_=>by simp at h
 | _::_,[],h,_=>by simp at h
 | _::_,_::_,h,f=>.cons (f 0 _ _ (by simp) (by simp)) (Pd.of_get (by simpa using h) fun i x u e1 e2=>f (i+1) x u (by simpa using e1) (by simpa using e2))
theorem Pd.erase:∀ {xs:List α}{us:List β} (i:Nat),Paired F xs us->Paired F (xs.eraseIdx i) (us.eraseIdx i)
 | _,_,_,.nil=>.nil
 | _,_,0,.cons _ t=>t
 | _,_,i+1,.cons r t=>.cons r (Pd.erase i t)
theorem Pd.dropLast:∀ {xs:List α}{us:List β},Paired F xs us->Paired F xs.dropLast us.dropLast
 | _,_,.nil=>.nil
 | _,_,.cons _ .nil=>.nil
 | _,_,.cons r (.cons q t)=>.cons r (Pd.dropLast (.cons q t))
end
def SqRo (K:PySem.W.Frag) (H:Hp) (a:Addr) (xs:List V):Prop:=
 (∃ o,H a=some (.frz o (.lst xs)))\/
  ∃ (o:Obj) (its:Array Value) (n:Nat),K.lookup a=some o/\o.cls=.type "list"/\o.dict=none/\o.data=.seq its n/\its.size<=sizeLine/\Vals xs its.toList
theorem SqRo.sq {K:PySem.W.Frag}{H:Hp}{a:Addr}{xs:List V} (h:SqRo K H a xs):SqL K H a xs:=by
 rcases h with⟨o,h⟩ | h
 ·exact .inl (.inr ⟨o,h⟩)
 ·exact .inr h
inductive RelD (K:PySem.W.Frag) (as:List Addr) (H:Hp):D->V->Prop where
 | non:RelD K as H .non .non
 | bl (b:Bool):RelD K as H (.bl b) (.bl b)
 | int (i:Int):RelD K as H (.int i) (.int i)
 | str (x:Str):RelD K as H (.str x) (.str x)
 | tup' {ds:List D}{vs:List V}{a:Addr}:H a=some (.tup vs)->ds.length=vs.length->(∀ (i:Nat) d v,ds[i]?=some d->vs[i]?=some v->RelD K as H d v)->RelD K as H (.tup ds) (.ref a)
 | lst {n:Nat}{a:Addr}:as[n]?=some a->RelD K as H (.lst n) (.ref a)
 | ro {ns:List Int}{a:Addr}:SqRo K H a (ns.map V.int)->RelD K as H (.ro ns) (.ref a)
noncomputable abbrev RelDs (K:PySem.W.Frag) (as:List Addr) (H:Hp):List D->List V->Prop:=Paired (RelD K as H)
theorem RelD.tup {K:PySem.W.Frag}{as:List Addr}{H:Hp}{ds:List D}{vs:List V}{a:Addr} (h:H a=some (.tup vs)) (r:RelDs K as H ds vs):RelD K as H (.tup ds) (.ref a):=
 .tup' h r.length fun i d v e1 e2=>by
  obtain⟨u,e3,q⟩:=Pd.get r e1
  rw [e2] at e3
  cases e3
  exact q
theorem RelD.tup_inv {K:PySem.W.Frag}{as:List Addr}{H:Hp}{ds:List D}{v:V} (h:RelD K as H (.tup ds) v):∃ a vs,v=.ref a/\H a=some (.tup vs)/\RelDs K as H ds vs:=by
 cases h with
 | tup' h1 h2 h3=>exact⟨_,_,rfl,h1,Pd.of_get h2 h3⟩
structure Ext (as:List Addr) (H:Hp) (as':List Addr) (H':Hp):Prop where
 pre:∃ m,as'=as++m
 tups:∀ b xs,H b=some (.tup xs)->H' b=some (.tup xs)
 frzs:∀ b o u,H b=some (.frz o u)->H' b=some (.frz o u)
theorem Ext.refl (as:List Addr) (H:Hp):Ext as H as H:=⟨⟨[],by simp⟩,fun _ _ h=>h,fun _ _ _ h=>h⟩
theorem Ext.trans {as as1 as2:List Addr}{H H1 H2:Hp} (a:Ext as H as1 H1) (b:Ext as1 H1 as2 H2):Ext as H as2 H2:=by
 obtain⟨m1,e1⟩:=a.pre
 obtain⟨m2,e2⟩:=b.pre
 exact⟨⟨m1++m2,by rw [e2,e1,yT]⟩,fun c xs h=>b.tups c xs (a.tups c xs h),fun c o u h=>b.frzs c o u (a.frzs c o u h)⟩
theorem Ext.at {as as1:List Addr}{H H1:Hp} (a:Ext as H as1 H1) {n:Nat}{p:Addr} (h:as[n]?=some p):as1[n]?=some p:=by
 obtain⟨m,rfl⟩:=a.pre
 rw [zK (zB.mp h).1]
 exact h
theorem RelD.mono {K:PySem.W.Frag}{as as1:List Addr}{H H1:Hp} (x:Ext as H as1 H1) {d:D}{v:V} (h:RelD K as H d v):RelD K as1 H1 d v:=by
 induction h with
 | non=>exact .non
 | bl b=>exact .bl b
 | int i=>exact .int i
 | str y=>exact .str y
 | tup' h1 h2 h3 ih=>exact .tup' (x.tups _ _ h1) h2 ih
 | lst h=>exact .lst (x.at h)
 | ro h=>
  refine .ro ?_
  rcases h with⟨o,h⟩ | h
  ·exact .inl ⟨o,x.frzs _ _ _ h⟩
  ·exact .inr h
theorem RelDs.mono {K:PySem.W.Frag}{as as1:List Addr}{H H1:Hp} (x:Ext as H as1 H1) {ds:List D}{vs:List V} (h:RelDs K as H ds vs):RelDs K as1 H1 ds vs:=Pd.imp (fun _ _ r=>RelD.mono x r) h
noncomputable def RelO (K:PySem.W.Frag) (as:List Addr) (H:Hp) (a:Addr):O->Prop
 | .lst ds=>∃ vs,H a=some (.lst vs)/\RelDs K as H ds vs
 | .dct kvs=>∃ ws,H a=some (.dK ws)/\Paired (fun (p:Key×D) (q:Key×V)=>p.1=q.1/\RelD K as H p.2 q.2) kvs ws
structure RelH (K:PySem.W.Frag) (as:List Addr) (H:Hp) (h:Hh):Prop where
 len:as.length=h.length
 nd:as.Nodup
 obj:∀ (n:Nat) a o,as[n]?=some a->h[n]?=some o->RelO K as H a o
theorem RelO.there {K:PySem.W.Frag}{as:List Addr}{H:Hp}{a:Addr}{o:O} (h:RelO K as H a o):∃ u,H a=some u:=by
 cases o with
 | lst ds=>obtain⟨vs,h,_⟩:=h; exact⟨_,h⟩
 | dct kvs=>obtain⟨vs,h,_⟩:=h; exact⟨_,h⟩
theorem RelO.mono {K:PySem.W.Frag}{as as1:List Addr}{H H1:Hp}{a:Addr}{o:O} (x:Ext as H as1 H1) (e:H1 a=H a) (h:RelO K as H a o):RelO K as1 H1 a o:=by
 cases o with
 | lst ds=>obtain⟨vs,h,r⟩:=h; exact⟨vs,by rw [e]; exact h,r.mono x⟩
 | dct kvs=>obtain⟨ws,h,r⟩:=h; exact⟨ws,by rw [e]; exact h,Pd.imp (fun _ _ q=>⟨q.1,q.2.mono x⟩) r⟩
theorem RelH.there {K:PySem.W.Frag}{as:List Addr}{H:Hp}{h:Hh} (r:RelH K as H h) {a:Addr} (m:a∈as):∃ u,H a=some u:=by
 obtain⟨n,hn,e⟩:=List.mem_iff_getElem.mp m
 have hn':n < h.length:=by rw [<-r.len]; exact hn
 exact (r.obj n a h[n] (by rw [zA hn,e]) (zA hn')).there
theorem RelH.not_mem {K:PySem.W.Frag}{as:List Addr}{H:Hp}{h:Hh} (r:RelH K as H h) {p:Addr} (e:H p=none):p∉as:=fun m=>by
 obtain⟨u,q⟩:=r.there m
 rw [e] at q
 cases q
section
variable {K:PySem.W.Frag}{as:List Addr}{H:Hp}{h:Hh}{p a:Addr}
theorem qdb {o:HO} (hp:H p=none):Ext as H as (upd H p o):=
 ⟨⟨[],by simp⟩,fun b xs e=>by rw [qbO (qbL e hp)]; exact e,fun b o u e=>by rw [qbO (qbL e hp)]; exact e⟩
theorem qdB {o:HO} (hp:H p=none):Ext as H (as++[p]) (upd H p o):=
 ⟨⟨[p],rfl⟩,(qdb (as:=as) hp).tups,(qdb (as:=as) hp).frzs⟩
theorem qnt {o u:HO} (ha:H a=some o) (h1:∀ xs,o≠.tup xs) (h2:∀ b x,o≠.frz b x):Ext as H as (upd H a u):=
 ⟨⟨[],by simp⟩,fun b xs e=>by rw [qbO (qoF e ha fun z=>h1 xs z.symm)]; exact e,fun b o' w e=>by rw [qbO (qoF e ha fun z=>h2 o' w z.symm)]; exact e⟩
theorem RelH.tup {vs:List V} (r:RelH K as H h) (hp:H p=none):RelH K as (upd H p (.tup vs)) h:=
 ⟨r.len,r.nd,fun n a o e1 e2=>by
  have q:=r.obj n a o e1 e2
  obtain⟨u,hu⟩:=q.there
  exact q.mono (qdb hp) (qbO (qbL hu hp))⟩
theorem RelH.new {o:O}{u:HO} (r:RelH K as H h) (hp:H p=none) (ro:RelO K (as++[p]) (upd H p u) p o):RelH K (as++[p]) (upd H p u) (h++[o]):=by
 refine⟨by simp [r.len],?_,fun n a o' e1 e2=>?_⟩
 ·rw [yR]
  exact⟨r.nd,by simp,fun x hx y hy=>by
   have:y=p:=by simpa using hy
   subst this
   intro z
   subst z
   exact r.not_mem hp hx⟩
 ·by_cases hn:n < as.length
  ·rw [zK hn] at e1
   rw [zK (by rw [<-r.len]; exact hn)] at e2
   have q:=r.obj n a o' e1 e2
   obtain⟨w,hw⟩:=q.there
   exact q.mono (qdB hp) (qbO (qbL hw hp))
  ·have hlt:=(zB.mp e1).1
   have hn':n=as.length:=by
    rw [zJ,yV] at hlt
    lia
   subst hn'
   rw [xC] at e1
   rw [r.len,xC] at e2
   cases e1
   cases e2
   exact ro
theorem RelH.newL {ds:List D}{vs:List V} (r:RelH K as H h) (hp:H p=none) (rd:RelDs K as H ds vs):RelH K (as++[p]) (upd H p (.lst vs)) (h++[.lst ds]):=
 r.new hp ⟨vs,qc3,rd.mono (qdB hp)⟩
theorem RelH.put {n:Nat}{o o':O}{u:HO} (r:RelH K as H h) (hn:as[n]?=some a) (ho:h[n]?=some o) (x:Ext as H as (upd H a u)) (ro:RelO K as (upd H a u) a o'):RelH K as (upd H a u) (h.set n o'):=by
 refine⟨by simp [r.len],r.nd,fun m b o2 e1 e2=>?_⟩
 by_cases hm:m=n
 ·subst hm
  rw [hn] at e1
  cases e1
  rw [zI (zB.mp ho).1] at e2
  cases e2
  exact ro
 ·rw [zF (Ne.symm hm)] at e2
  have q:=r.obj m b o2 e1 e2
  refine q.mono x (qbO ?_)
  intro z
  subst z
  exact hm (nodup_ix' r.nd e1 hn)
where
 nodup_ix' {l:List Addr} (hN:l.Nodup) {i j:Nat}{x:Addr} (a:l[i]?=some x) (b:l[j]?=some x):i=j:=by
  obtain⟨h1,e1⟩:=zB.mp a
  obtain⟨h2,e2⟩:=zB.mp b
  exact (List.getElem_inj hN).mp (e1.trans e2.symm)
theorem qdc {n:Nat}{ds:List D}{vs:List V} (r:RelH K as H h) (hn:as[n]?=some a) (ho:h[n]?=some (.lst ds)):Ext as H as (upd H a (.lst vs)):=by
 obtain⟨ws,e,_⟩:=r.obj n a _ hn ho
 exact qnt e (fun xs z=>by cases z) (fun b x z=>by cases z)
theorem RelH.setL {n:Nat}{ds ds':List D}{vs:List V} (r:RelH K as H h) (hn:as[n]?=some a) (ho:h[n]?=some (.lst ds)) (rd:RelDs K as H ds' vs):RelH K as (upd H a (.lst vs)) (h.set n (.lst ds')):=
 r.put hn ho (qdc r hn ho) ⟨vs,qc3,rd.mono (qdc r hn ho)⟩
end
structure RelE (K:PySem.W.Frag) (as:List Addr) (H:Hp) (env:En) (σ:St):Prop where
 len:env.length=σ.length
 at_:∀ (i:Nat) d,env[i]?=some (some d)->∃ v,σ[i]?=some (some v)/\RelD K as H d v
theorem RelE.mono {K:PySem.W.Frag}{as as1:List Addr}{H H1:Hp}{env:En}{σ:St} (x:Ext as H as1 H1) (r:RelE K as H env σ):RelE K as1 H1 env σ:=
 ⟨r.len,fun i d e=>let ⟨v,e1,q⟩:=r.at_ i d e; ⟨v,e1,q.mono x⟩⟩
theorem RelE.set {K:PySem.W.Frag}{as:List Addr}{H:Hp}{env:En}{σ:St} (r:RelE K as H env σ) (i:Nat) {d:D}{v:V} (q:RelD K as H d v):RelE K as H (env.set i (some d)) (σ.set i (some v)):=by
 refine⟨by simp [r.len],fun j d' e=>?_⟩
 by_cases hj:j=i
 ·subst hj
  have hlt:j < env.length:=by
   have:=(zB.mp e).1
   simpa using this
  rw [zI hlt] at e
  cases e
  exact⟨v,by rw [zI (by rw [<-r.len]; exact hlt)],q⟩
 ·rw [zF (Ne.symm hj)] at e
  rw [zF (Ne.symm hj)]
  exact r.at_ j d' e
def qeJ (X:Cx) (pins:List (Addr×Obj)) (H:Hp) (p:Addr):Prop:=X.s₀.heap.get? p=none/\H p=none/\∀ q∈X.pn++pins,q.1≠p
def qpg (h:Heap) (p:Addr) (c:Value) (L:Addr->Prop):Prop:=∃ oe vs a0,h.get? p=some oe/\oe.cls=c/\oe.data=.fields vs/\vs[0]?=some a0/\L p/\vs[1]?=some .none
def Fly (h:Heap) (p:Addr) (c:Value) (L:Addr->Prop):Prop:=∃ oe vs a0 T oT ts,h.get? p=some oe/\oe.cls=c/\oe.data=.fields vs/\vs[0]?=some a0/\L p/\vs[1]?=some (.ref T)/\T≠p/\h.get? T=some oT/\oT.data=.fields ts/\ts[3]?=some .none/\L T
def qph (X:Cx) (pins:List (Addr×Obj)) (H:Hp) (e c:Value) (s:Shared):Prop:=∃ p,e=.ref p/\(qpg s.heap p c (qeJ X pins H)\/Fly s.heap p c (qeJ X pins H))
def XW (X:Cx) (c:Value) (P:St->Hp->Prop):Prop:=∀ pins σ H e s,Inv X pins σ H s->qph X pins H e c s->P σ H->X.xe e s
theorem XW.imp {X:Cx}{c:Value}{P P':St->Hp->Prop} (h:XW X c P) (f:∀ σ H,P' σ H->P σ H):XW X c P':=fun pins σ H e s I fl p=>h pins σ H e s I fl (f σ H p)
def PX {α:Type} (X:Cx) (as:List Addr) (H:Hp) (env:En) (r:Res α) (R:List Addr->Hp->Hh->α->Prop):Prop:=match r with
 | .ok a h'=>∀ as' H',Ext as H as' H'->RelH X.K as' H' h'->R as' H' h' a
 | .ex c h'=>XW X c fun σ' H'=>∃ as',Ext as H as' H'/\RelH X.K as' H' h'/\RelE X.K as' H' env σ'
 | .bad=>False
section
variable {α β:Type}{X:Cx}{as as1:List Addr}{H H1:Hp}{env:En}{r:Res α}{R R':List Addr->Hp->Hh->α->Prop}
theorem PX.later (x:Ext as H as1 H1) (h:PX X as H env r R):PX X as1 H1 env r R:=by
 cases r with
 | ok a h'=>exact fun as' H' y rh=>h as' H' (x.trans y) rh
 | ex c h'=>exact XW.imp h fun σ' H' q9=>by obtain⟨as',y,z⟩:=q9; exact⟨as',x.trans y,z⟩
 | bad=>exact h
theorem PX.imp (h:PX X as H env r R) (f:∀ as' H' h' a,Ext as H as' H'->RelH X.K as' H' h'->R as' H' h' a->R' as' H' h' a):PX X as H env r R':=by
 cases r with
 | ok a h'=>exact fun as' H' y rh=>f as' H' h' a y rh (h as' H' y rh)
 | ex c h'=>exact h
 | bad=>exact h
theorem PX.bind {k:α->Hh->Res β}{R:List Addr->Hp->Hh->β->Prop} (h:PX X as H env (r.bind k) R):PX X as H env r fun as1 H1 h1 a=>PX X as1 H1 env (k a h1) R:=by
 cases r with
 | ok a h'=>exact fun as' H' y rh=>PX.later y h
 | ex c h'=>exact h
 | bad=>exact h
end
noncomputable def tE (X:Cx) (f:FE):TE:=fun σ H Q=>∃ as env h,RelE X.K as H env σ/\RelH X.K as H h/\PX X as H env (f env h) fun as' H' _ d=>∀ v,RelD X.K as' H' d v->Q v H'
noncomputable def tT (X:Cx) (f:FT):TT:=fun σ H Q=>∃ as env h,RelE X.K as H env σ/\RelH X.K as H h/\PX X as H env (f env h) fun _ H' _ b=>Q b H'
noncomputable def tA (X:Cx) (f:FA):TA:=fun σ H Q=>∃ as env h,RelE X.K as H env σ/\RelH X.K as H h/\PX X as H env (f env h) fun as' H' _ ds=>∀ vs,RelDs X.K as' H' ds vs->Q vs H'
def POut (X:Cx) (as:List Addr) (H:Hp) (Dn:Ends) (o:Out):Prop:=match o with
 | .nx e h'=>∀ as' H' σ',Ext as H as' H'->RelH X.K as' H' h'->RelE X.K as' H' e σ'->Dn.nx σ' H'
 | .rt d h'=>∀ as' H' v,Ext as H as' H'->RelH X.K as' H' h'->RelD X.K as' H' d v->Dn.rt v H'
 | .bk e h'=>∀ as' H' σ',Ext as H as' H'->RelH X.K as' H' h'->RelE X.K as' H' e σ'->Dn.bk σ' H'
 | .ct e h'=>∀ as' H' σ',Ext as H as' H'->RelH X.K as' H' h'->RelE X.K as' H' e σ'->Dn.ct σ' H'
 | .ex c e h'=>XW X c fun σ' H'=>∃ as',Ext as H as' H'/\RelH X.K as' H' h'/\RelE X.K as' H' e σ'
 | .bad=>False
theorem POut.later {X:Cx}{as as1:List Addr}{H H1:Hp}{Dn:Ends}{o:Out} (x:Ext as H as1 H1) (h:POut X as H Dn o):POut X as1 H1 Dn o:=by
 cases o with
 | nx e h'=>exact fun as' H' σ' y=>h as' H' σ' (x.trans y)
 | rt d h'=>exact fun as' H' v y=>h as' H' v (x.trans y)
 | bk e h'=>exact fun as' H' σ' y=>h as' H' σ' (x.trans y)
 | ct e h'=>exact fun as' H' σ' y=>h as' H' σ' (x.trans y)
 | ex c e h'=>exact XW.imp h fun σ' H' q9=>by obtain⟨as',y,z⟩:=q9; exact⟨as',x.trans y,z⟩
 | bad=>exact h
theorem PX.of_out {α:Type}{X:Cx}{as:List Addr}{H:Hp}{env:En}{Dn:Ends}{r:Res α}{k:α->Hh->Out} (h:POut X as H Dn (r.out env k)):PX X as H env r fun as1 H1 h1 a=>POut X as1 H1 Dn (k a h1):=by
 cases r with
 | ok a h'=>exact fun as' H' y rh=>POut.later y h
 | ex c h'=>exact h
 | bad=>exact h
noncomputable def tS (X:Cx) (f:FS):TS:=fun Dn σ H=>∃ as env h,RelE X.K as H env σ/\RelH X.K as H h/\POut X as H Dn (f env h)
abbrev DE (X:Cx) (e:Expr) (f:FE):Prop:=PE X e (tE X f)
abbrev DT (X:Cx) (e:Expr) (f:FT):Prop:=PT X e (tT X f)
abbrev DW (X:Cx) (e:Expr) (f:FT):Prop:=PW X e (tT X f)
abbrev DA (X:Cx) (es:List Expr) (f:FA):Prop:=PA X es (tA X f)
abbrev DS (X:Cx) (st:Stmt) (f:FS):Prop:=PS X st (tS X f)
abbrev DSs (X:Cx) (st:List Stmt) (f:FS):Prop:=PSs X st (tS X f)
theorem peOf {X:Cx}{e:Expr}{t t':TE} (h:PE X e t) (f:∀ σ H Q,t' σ H Q->t σ H Q):PE X e t':=fun pins s σ H Q I q=>h pins s σ H Q I (f σ H Q q)
theorem ptOf {X:Cx}{e:Expr}{t t':TT} (h:PT X e t) (f:∀ σ H Q,t' σ H Q->t σ H Q):PT X e t':=fun pins s σ H Q I q=>h pins s σ H Q I (f σ H Q q)
theorem pwOf {X:Cx}{e:Expr}{t t':TT} (h:PW X e t) (f:∀ σ H Q,t' σ H Q->t σ H Q):PW X e t':=fun whole pins s σ H Q I q=>h whole pins s σ H Q I (f σ H Q q)
theorem paOf {X:Cx}{es:List Expr}{t t':TA} (h:PA X es t) (f:∀ σ H Q,t' σ H Q->t σ H Q):PA X es t':=fun pos pins s σ H Q I q=>h pos pins s σ H Q I (f σ H Q q)
theorem psOf {X:Cx}{st:Stmt}{t t':TS} (h:PS X st t) (f:∀ Dn σ H,t' Dn σ H->t Dn σ H):PS X st t':=fun pins s σ H Dn I q=>h pins s σ H Dn I (f Dn σ H q)
theorem qod {X:Cx}{st:List Stmt}{t t':TS} (h:PSs X st t) (f:∀ Dn σ H,t' Dn σ H->t Dn σ H):PSs X st t':=fun pins s σ H Dn I q=>h pins s σ H Dn I (f Dn σ H q)
theorem qd0 {us:List Value}{n:Nat} (h:us.length=n+1):∃ a r,us=a::r/\r.length=n:=by
 cases us with
 | nil=>cases h
 | cons a r=>exact⟨a,r,rfl,Nat.succ.inj h⟩
section
variable {K:PySem.W.Frag}{x qual:Str}{st:Stmt}{f:Addr}{fd:FuncData}
theorem qeQ {p0:Str} (F:Fun K x qual st f fd) (h:∀ (kV doc pm:Value) (an:Option Addr) (cdv ct a0:Value),bindArgs (PySem.W.fnOf x qual (qb8 st) (qby st) (qam st) .none kV doc pm an cdv ct) ⟨[a0],[]⟩=pure ([p0].zip [a0])):Binds K fd [p0] []:=
 F.binds fun _ _ _ _ _ _ us h0=>by
  obtain⟨_,r0,rfl,h1⟩:=qd0 h0
  cases xO h1
  exact h _ _ _ _ _ _ _
theorem qcd {p0 p1:Str} (F:Fun K x qual st f fd) (h:∀ (kV doc pm:Value) (an:Option Addr) (cdv ct a0 a1:Value),bindArgs (PySem.W.fnOf x qual (qb8 st) (qby st) (qam st) .none kV doc pm an cdv ct) ⟨[a0,a1],[]⟩=pure ([p0,p1].zip [a0,a1])):Binds K fd [p0,p1] []:=
 F.binds fun _ _ _ _ _ _ us h0=>by
  obtain⟨_,r0,rfl,h1⟩:=qd0 h0
  obtain⟨_,r1,rfl,h2⟩:=qd0 h1
  cases xO h2
  exact h _ _ _ _ _ _ _ _
theorem qer {p0 p1 p2:Str} (F:Fun K x qual st f fd) (h:∀ (kV doc pm:Value) (an:Option Addr) (cdv ct a0 a1 a2:Value),bindArgs (PySem.W.fnOf x qual (qb8 st) (qby st) (qam st) .none kV doc pm an cdv ct) ⟨[a0,a1,a2],[]⟩=pure ([p0,p1,p2].zip [a0,a1,a2])):Binds K fd [p0,p1,p2] []:=
 F.binds fun _ _ _ _ _ _ us h0=>by
  obtain⟨_,r0,rfl,h1⟩:=qd0 h0
  obtain⟨_,r1,rfl,h2⟩:=qd0 h1
  obtain⟨_,r2,rfl,h3⟩:=qd0 h2
  cases xO h3
  exact h _ _ _ _ _ _ _ _ _
theorem qiJ {p0 p1 p2 p3:Str} (F:Fun K x qual st f fd) (h:∀ (kV doc pm:Value) (an:Option Addr) (cdv ct a0 a1 a2 a3:Value),bindArgs (PySem.W.fnOf x qual (qb8 st) (qby st) (qam st) .none kV doc pm an cdv ct) ⟨[a0,a1,a2,a3],[]⟩=pure ([p0,p1,p2,p3].zip [a0,a1,a2,a3])):Binds K fd [p0,p1,p2,p3] []:=
 F.binds fun _ _ _ _ _ _ us h0=>by
  obtain⟨_,r0,rfl,h1⟩:=qd0 h0
  obtain⟨_,r1,rfl,h2⟩:=qd0 h1
  obtain⟨_,r2,rfl,h3⟩:=qd0 h2
  obtain⟨_,r3,rfl,h4⟩:=qd0 h3
  cases xO h4
  exact h _ _ _ _ _ _ _ _ _ _
theorem qpe {p0 p1 p2 p3 p4:Str} (F:Fun K x qual st f fd) (h:∀ (kV doc pm:Value) (an:Option Addr) (cdv ct a0 a1 a2 a3 a4:Value),bindArgs (PySem.W.fnOf x qual (qb8 st) (qby st) (qam st) .none kV doc pm an cdv ct) ⟨[a0,a1,a2,a3,a4],[]⟩=pure ([p0,p1,p2,p3,p4].zip [a0,a1,a2,a3,a4])):Binds K fd [p0,p1,p2,p3,p4] []:=
 F.binds fun _ _ _ _ _ _ us h0=>by
  obtain⟨_,r0,rfl,h1⟩:=qd0 h0
  obtain⟨_,r1,rfl,h2⟩:=qd0 h1
  obtain⟨_,r2,rfl,h3⟩:=qd0 h2
  obtain⟨_,r3,rfl,h4⟩:=qd0 h3
  obtain⟨_,r4,rfl,h5⟩:=qd0 h4
  cases xO h5
  exact h _ _ _ _ _ _ _ _ _ _ _
end
def FK (K:PySem.W.Frag) (x:Str) (st:Stmt) (f:Addr):Prop:=∃ (oc:Value) (od an:Option Addr) (sl:Array (Option Value)) (kV dc pm cd ct:Value),PySem.W.nsIn K mainGlobals x=some (some (.ref f))/\K.lookup f=some ⟨oc,od,.func (PySem.W.fnOf x x (qb8 st) (qby st) (qam st) .none kV dc pm an cd ct),sl⟩/\PySem.W.codeIn K cd x=true/\PySem.W.keepIn K (.ref f)=true
theorem fk_mk {K:PySem.W.Frag}{x:Str}{st:Stmt}{f:Addr}{oc:Value}{od an:Option Addr}{sl:Array (Option Value)}{kV dc pm cd ct:Value} (a:PySem.W.nsIn K mainGlobals x=some (some (.ref f))) (l:K.lookup f=some ⟨oc,od,.func (PySem.W.fnOf x x (qb8 st) (qby st) (qam st) .none kV dc pm an cd ct),sl⟩) (c:PySem.W.codeIn K cd x=true) (k:PySem.W.keepIn K (.ref f)=true):∃ f,FK K x st f:=⟨f,oc,od,an,sl,kV,dc,pm,cd,ct,a,l,c,k⟩
theorem qa3 {K:PySem.W.Frag}{h:Heap}{mg:Str->Option Value}{x:Str}{st:Stmt} (X:K.In h) (G:h.Ns mainGlobals mg) (q:∃ f,FK K x st f):∃ f fd,Fun K x x st f fd/\mg x=some (.ref f):=by
 obtain⟨f,oc,od,an,sl,kV,dc,pm,cd,ct,a,l,c,k⟩:=q
 exact⟨f,_,qmu l c k,PySem.W.mg_of X G a⟩
noncomputable def fC (d:D):FE:=fun _ h=>.ok d h
noncomputable def getO (o:Option (Option D)) (h:Hh):Res D:=match o with
 | some (some d)=>.ok d h
 | _=>.bad
@[simp] theorem qaI (d:D) (h:Hh):getO (some (some d)) h=.ok d h:=rfl
noncomputable def fV (i:Nat):FE:=fun env h=>getO env[i]? h
section
variable {X:Cx}{pos:Pos}
theorem qab {i:Int}{j:Nat}:DE X (.Constant (.int i) j pos) (fC (.int i)):=
 peOf qos fun σ H Q q9=>by obtain⟨as,env,h,re,rh,p⟩:=q9; exact p as H (Ext.refl as H) rh _ (.int i)
theorem qdd {b:Bool}{j:Nat}:DE X (.Constant (.bool b) j pos) (fC (.bl b)):=
 peOf pe_bl fun σ H Q q9=>by obtain⟨as,env,h,re,rh,p⟩:=q9; exact p as H (Ext.refl as H) rh _ (.bl b)
theorem qiF {j:Nat}:DE X (.Constant .none j pos) (fC .non):=
 peOf qoq fun σ H Q q9=>by obtain⟨as,env,h,re,rh,p⟩:=q9; exact p as H (Ext.refl as H) rh _ .non
theorem qdF {x:Str}{j:Nat}:DE X (.Constant (.str x) j pos) (fC (.str x)):=
 peOf qon fun σ H Q q9=>by obtain⟨as,env,h,re,rh,p⟩:=q9; exact p as H (Ext.refl as H) rh _ (.str x)
theorem dv (i:Nat) {x:Str} (hN:X.N[i]?=some x:=by rfl) (hv:Vis X.env.scope x:=by first | exact Or.inl rfl | exact Or.inr (Or.inl rfl) | exact Or.inr (Or.inr rfl)) (hd:(x==("__debug__":Str))=false:=by decide)
  (hcd:(x==("__classdict__":Str))=false:=by decide):DE X (.Name x pos) (fV i):=
 peOf (pv i hN hv hd hcd) fun σ H Q ⟨as,env,h,re,rh,p⟩=>by
  unfold fV at p
  cases e:env[i]? with
  | none=>rw [e] at p; exact p.elim
  | some o=>
   cases o with
   | none=>rw [e] at p; exact p.elim
   | some d=>
    rw [e] at p
    obtain⟨v,e1,q⟩:=re.at_ i d e
    exact⟨v,e1,p as H (Ext.refl as H) rh v q⟩
end
noncomputable def Res.ofO {α:Type}:Option (α×Hh)->Res α
 | some (a,h)=>.ok a h
 | none=>.bad
@[simp] theorem qaR {α:Type} (a:α) (h:Hh):Res.ofO (some (a,h))=.ok a h:=rfl
@[simp] theorem ofO_none {α:Type}:Res.ofO (none:Option (α×Hh))=.bad:=rfl
def PQ (K:PySem.W.Frag) (as:List Addr) (H:Hp) (r:Option (D×Hh)) (Q:VK):Prop:=match r with
 | some (d,h')=>∀ as' H' v,Ext as H as' H'->RelH K as' H' h'->RelD K as' H' d v->Q v H'
 | none=>False
theorem PX.pq {X:Cx}{as:List Addr}{H:Hp}{env:En}{r:Option (D×Hh)}{Q:VK} (h:PX X as H env (Res.ofO r) fun as' H' _ d=>∀ v,RelD X.K as' H' d v->Q v H'):PQ X.K as H r Q:=by
 cases r with
 | none=>exact h
 | some p=>exact fun as' H' v x rh rd=>h as' H' x rh v rd
noncomputable abbrev O1:=D->Hh->Option (D×Hh)
noncomputable abbrev O2:=D->D->Hh->Option (D×Hh)
noncomputable abbrev OC:=List D->Hh->Option (D×Hh)
noncomputable def f1 (r:O1) (f:FE):FE:=fun env h=>(f env h).bind fun x h1=>.ofO (r x h1)
noncomputable def f2 (r:O2) (f g:FE):FE:=fun env h=>(f env h).bind fun x h1=>(g env h1).bind fun y h2=>.ofO (r x y h2)
noncomputable def fc (r:OC) (f:FA):FE:=fun env h=>(f env h).bind fun x h1=>.ofO (r x h1)
noncomputable def asB (d:D) (h:Hh):Res Bool:=match d with
 | .bl b=>.ok b h
 | _=>.bad
@[simp] theorem qbT (b:Bool) (h:Hh):asB (.bl b) h=.ok b h:=rfl
noncomputable def fB (f:FE):FT:=fun env h=>(f env h).bind asB
def Im1 (K:PySem.W.Frag) (r1:V->Hp->VK->Prop) (r:O1):Prop:=∀ as H h x v Q,RelH K as H h->RelD K as H x v->PQ K as H (r x h) Q->r1 v H Q
def Im2 (K:PySem.W.Frag) (r2:R2) (r:O2):Prop:=∀ as H h x y v u Q,RelH K as H h->RelD K as H x v->RelD K as H y u->PQ K as H (r x y h) Q->r2 v u H Q
def ImC (K:PySem.W.Frag) (rc:List V->Hp->VK->Prop) (r:OC):Prop:=∀ as H h ds vs Q,RelH K as H h->RelDs K as H ds vs->PQ K as H (r ds h) Q->rc vs H Q
section
variable {X:Cx}{a b:Expr}{f g:FE}{pos:Pos}
theorem qic {r2:R2}{r:O2} (im:Im2 X.K r2 r) (σ:St) (H:Hp) (Q:VK) (q:tE X (f2 r f g) σ H Q):tOp r2 (tE X f) (tE X g) σ H Q:=by
 obtain⟨as,env,h,re,rh,p⟩:=q
 refine⟨as,env,h,re,rh,(PX.bind p).imp fun as1 H1 h1 x e1 rh1 p1 v rv=>?_⟩
 refine⟨as1,env,h1,re.mono e1,rh1,(PX.bind p1).imp fun as2 H2 h2 y e2 rh2 p2 u ru=>?_⟩
 exact im as2 H2 h2 x y v u Q rh2 (rv.mono e2) ru p2.pq
theorem qnV {r1:V->Hp->VK->Prop}{r:O1} (im:Im1 X.K r1 r) (σ:St) (H:Hp) (Q:VK) (q:tE X (f1 r f) σ H Q):tUn r1 (tE X f) σ H Q:=by
 obtain⟨as,env,h,re,rh,p⟩:=q
 refine⟨as,env,h,re,rh,(PX.bind p).imp fun as1 H1 h1 x e1 rh1 p1 v rv=>?_⟩
 exact im as1 H1 h1 x v Q rh1 rv p1.pq
theorem qnW (σ:St) (H:Hp) (Q:Bool->Hp->Prop) (q:tT X (fB f) σ H Q):tE X f σ H fun x H'=>∃ k,x=.bl k/\Q k H':=by
 obtain⟨as,env,h,re,rh,p⟩:=q
 refine⟨as,env,h,re,rh,(PX.bind p).imp fun as1 H1 h1 x e1 rh1 p1 v rv=>?_⟩
 cases x with
 | bl k=>
  cases rv
  exact⟨k,rfl,p1 as1 H1 (Ext.refl _ _) rh1⟩
 | _=>exact p1.elim
theorem qjh {op:Operator}{r2:R2}{r:O2} (ho:OpR X (binaryOp op) r2) (im:Im2 X.K r2 r) (ha:DE X a f) (hb:DE X b g):DE X (.BinOp a op b pos) (f2 r f g):=peOf (pe_op ho ha hb) (qic im)
theorem de_un {op:UnaryOp}{r1:V->Hp->VK->Prop}{r:O1} (ho:UnR X (unaryOp op) r1) (im:Im1 X.K r1 r) (ha:DE X a f):DE X (.UnaryOp op a pos) (f1 r f):=peOf (pe_un ho ha) (qnV im)
theorem qmA {op:CmpOp}{r2:R2}{r:O2} (ho:OpR X (compareOp op) r2) (im:Im2 X.K r2 r) (hm:behindInMarks op b=false) (ha:DE X a f) (hb:DE X b g):DE X (.Compare a [op] [b] pos) (f2 r f g):=peOf (qm5 ho ha hb hm) (qic im)
theorem qfz {op:CmpOp}{r2:R2}{r:O2} (ho:OpR X (compareOp op) r2) (im:Im2 X.K r2 r) (hm:behindInMarks op b=false) (ha:DE X a f) (hb:DE X b g):DT X (.Compare a [op] [b] pos) (fB (f2 r f g)):=
 ptOf (qmW ho ha hb hm) fun σ H Q q=>qic im σ H _ (qnW σ H Q q)
theorem qbD {e:Expr} (h:DE X e f) (he:∀ whole,isTrue e X.env whole=(do let v <-whole; standAt e.pos; holding [v] (truthy v)):=by intro _; rfl):DT X e (fB f):=
 ptOf (qob h he) fun σ H Q q=>qnW σ H Q q
noncomputable def fAnd (s t:FT):FT:=fun env h=>(s env h).bind fun b h1=>if b=true then t env h1 else .ok false h1
noncomputable def fOr (s t:FT):FT:=fun env h=>(s env h).bind fun b h1=>if b=true then .ok true h1 else t env h1
noncomputable def fNot (s:FT):FT:=fun env h=>(s env h).bind fun b h1=>.ok (!b) h1
noncomputable def qb9 (s t:FE):FE:=fun env h=>(s env h).bind fun d h1=>(asB d h1).bind fun b h2=>if b=true then t env h2 else .ok (.bl false) h2
noncomputable def fOrV (s t:FE):FE:=fun env h=>(s env h).bind fun d h1=>(asB d h1).bind fun b h2=>if b=true then .ok (.bl true) h2 else t env h2
noncomputable def oNot:O1:=fun d h=>match d with
 | .bl b=>some (.bl (!b),h)
 | _=>none
variable {s t:FT}{rest:List Expr}
theorem qcS (ha:DT X a s):DW X (.BoolOp .And [a] pos) s:=qmV ha
theorem qeP (ha:DT X a s):DW X (.BoolOp .Or [a] pos) s:=qn8 ha
theorem qdg (ha:DT X a s) (hb:DW X (.BoolOp .And (b::rest) pos) t):DW X (.BoolOp .And (a::b::rest) pos) (fAnd s t):=
 pwOf (qn9 ha hb) fun σ H Q q9=>by obtain⟨as,env,h,re,rh,p⟩:=q9; exact⟨as,env,h,re,rh,(PX.bind p).imp fun as1 H1 h1 c e1 rh1 p1=>by
  cases c with
  | true=>exact iteT ⟨as1,env,h1,re.mono e1,rh1,p1⟩
  | false=>exact iteF (p1 as1 H1 (Ext.refl _ _) rh1)⟩
theorem qgF (ha:DT X a s) (hb:DW X (.BoolOp .Or (b::rest) pos) t):DW X (.BoolOp .Or (a::b::rest) pos) (fOr s t):=
 pwOf (pw_or ha hb) fun σ H Q q9=>by obtain⟨as,env,h,re,rh,p⟩:=q9; exact⟨as,env,h,re,rh,(PX.bind p).imp fun as1 H1 h1 c e1 rh1 p1=>by
  cases c with
  | true=>exact iteT (p1 as1 H1 (Ext.refl _ _) rh1)
  | false=>exact iteF ⟨as1,env,h1,re.mono e1,rh1,p1⟩⟩
theorem qcb (ha:DT X a s):DT X (.UnaryOp .Not a pos) (fNot s):=
 ptOf (qoc ha) fun σ H Q q9=>by obtain⟨as,env,h,re,rh,p⟩:=q9; exact⟨as,env,h,re,rh,(PX.bind p).imp fun as1 H1 h1 c e1 rh1 p1=>p1 as1 H1 (Ext.refl _ _) rh1⟩
theorem dt_w {e:Expr} (h:DW X e s):DT X e s:=PW.pt h
theorem qiE {op:BoolOp} (h:DE X a f):DE X (.BoolOp op [a] pos) f:=qoo h
theorem qiG (ha:DE X a f) (hb:DE X (.BoolOp .And (b::rest) pos) g):DE X (.BoolOp .And (a::b::rest) pos) (qb9 f g):=
 peOf (qou ha hb) fun σ H Q q9=>by obtain⟨as,env,h,re,rh,p⟩:=q9; exact⟨as,env,h,re,rh,(PX.bind p).imp fun as1 H1 h1 c e1 rh1 p1 v rv=>by
  cases c with
  | bl k=>
   cases rv
   refine⟨k,rfl,?_⟩
   cases k with
   | true=>exact iteT ⟨as1,env,h1,re.mono e1,rh1,p1⟩
   | false=>exact iteF (p1 as1 H1 (Ext.refl _ _) rh1 _ (.bl false))
  | _=>exact p1.elim⟩
theorem qo8 (ha:DE X a f):DE X (.UnaryOp .Not a pos) (f1 oNot f):=
 peOf (qop ha) fun σ H Q q9=>by obtain⟨as,env,h,re,rh,p⟩:=q9; exact⟨as,env,h,re,rh,(PX.bind p).imp fun as1 H1 h1 c e1 rh1 p1 v rv=>by
  cases c with
  | bl k=>
   cases rv
   exact⟨k,rfl,p1 as1 H1 (Ext.refl _ _) rh1 _ (.bl (!k))⟩
  | _=>exact p1.elim⟩
end
noncomputable def fAll:List FE->FA
 | [],_,h=>.ok [] h
 | f::r,env,h=>(f env h).bind fun d h1=>(fAll r env h1).bind fun ds h2=>.ok (d::ds) h2
theorem qiy:∀ (fs:List FE) (env:En) (h:Hh) (ds:List D) (h':Hh),fAll fs env h=.ok ds h'->ds.length=fs.length
 | [],_,_,_,_,e=>by cases e; rfl
 | f::r,env,h,ds,h',e=>by
  unfold fAll at e
  cases e1:f env h with
  | ok d h1=>
   rw [e1,Res.bind_ok] at e
   cases e2:fAll r env h1 with
   | ok ds2 h2=>
    rw [e2,Res.bind_ok] at e
    cases e
    simp [qiy r env h1 ds2 h' e2]
   | ex c h2=>rw [e2] at e; cases e
   | bad=>rw [e2] at e; cases e
  | ex c h1=>rw [e1] at e; cases e
  | bad=>rw [e1] at e; cases e
section
variable {X:Cx}{e:Expr}{es:List Expr}{f:FE}{fs:List FE}{pos:Pos}
theorem qad:DA X [] (fAll []):=paOf qmo fun σ H Q q9=>by obtain⟨as,env,h,re,rh,p⟩:=q9; exact p as H (Ext.refl _ _) rh [] .nil
theorem qaa (ha:DE X e f) (hr:DA X es (fAll fs)) (hs:starEach (e::es) X.env=(false,eval e X.env)::starEach es X.env:=by rfl):DA X (e::es) (fAll (f::fs)):=
 paOf (qhQ ha hr hs) fun σ H Q q9=>by obtain⟨as,env,h,re,rh,p⟩:=q9; exact⟨as,env,h,re,rh,(PX.bind p).imp fun as1 H1 h1 d e1 rh1 p1 v rv=>
  ⟨as1,env,h1,re.mono e1,rh1,(PX.bind p1).imp fun as2 H2 h2 ds e2 rh2 p2 vs rvs=>p2 as2 H2 (Ext.refl _ _) rh2 _ (.cons (rv.mono e2) rvs)⟩⟩
theorem PX.lenA {env:En}{h:Hh}{as:List Addr}{H:Hp}{R:List Addr->Hp->Hh->List D->Prop} (p:PX X as H env (fAll fs env h) R):PX X as H env (fAll fs env h) fun as' H' h' ds=>ds.length=fs.length/\R as' H' h' ds:=by
 cases e:fAll fs env h with
 | ok ds h'=>rw [e] at p; exact fun as' H' x rh=>⟨qiy fs env h ds h' e,p as' H' x rh⟩
 | ex c h'=>rw [e] at p; exact p
 | bad=>rw [e] at p; exact p
noncomputable def fTup (fs:List FE):FE:=fun env h=>(fAll fs env h).bind fun ds h1=>.ok (.tup ds) h1
noncomputable def fLst (fs:List FE):FE:=fun env h=>(fAll fs env h).bind fun ds h1=>.ok (.lst h1.length) (h1++[.lst ds])
theorem qa4 {x1} (h:DA X es (fAll fs)) (hl:fs.length<=sizeLine:=by exact Nat.le_of_ble_eq_true rfl):DE X (.Tuple es x1 pos) (fTup fs):=
 peOf (qom h) fun σ H Q q9=>by obtain⟨as,env,h,re,rh,p⟩:=q9; exact⟨as,env,h,re,rh,(PX.bind p).lenA.imp fun as1 H1 h1 ds e1 rh1 p1 vs rvs=>
  ⟨by rw [<-rvs.length,p1.1]; exact hl,fun q hq=>p1.2 as1 _ (qdb hq) (rh1.tup hq) _ (.tup qc3 (rvs.mono (qdb hq)))⟩⟩
theorem qbt (h:DA X es (fAll fs)) (hl:fs.length<=sizeLine:=by exact Nat.le_of_ble_eq_true rfl):DE X (.List es pos) (fLst fs):=
 peOf (qor h) fun σ H Q q9=>by obtain⟨as,env,h,re,rh,p⟩:=q9; exact⟨as,env,h,re,rh,(PX.bind p).lenA.imp fun as1 H1 h1 ds e1 rh1 p1 vs rvs=>
  ⟨by rw [<-rvs.length,p1.1]; exact hl,fun q hq=>p1.2 (as1++[q]) _ (qdB hq) (rh1.newL hq rvs) _ (.lst (by rw [<-rh1.len]; exact xC))⟩⟩
end
section
variable {X:Cx}{x:Str}{p pos:Pos}{e:Expr}{es:List Expr}{fs:List FE}{id T:String}{rc:List V->Hp->VK->Prop}{r:OC}
theorem qmj (im:ImC X.K rc r) (σ:St) (H:Hp) (Q:VK) (q:tE X (fc r (fAll fs)) σ H Q):tCB rc (tA X (fAll fs)) σ H Q:=by
 obtain⟨as,env,h,re,rh,p⟩:=q
 exact⟨as,env,h,re,rh,(PX.bind p).imp fun as1 H1 h1 ds e1 rh1 p1 vs rvs=>im as1 H1 h1 ds vs Q rh1 rvs p1.pq⟩
theorem qgN (hc:qfM X (.builtin id) rc) (im:ImC X.K rc r) (hg:Gl X x) (hm:X.mg x=none) (hv:bootBuiltins x=some (.builtin id)) (ha:DA X (e::es) (fAll fs)) (hn:x≠"__name__":=by decide) (hdb:(x==("__debug__":Str))=false:=by decide)
  (he:starEach (e::es) X.env=(false,eval e X.env)::starEach es X.env:=by rfl) (hpl:(backTo pos (starEach es X.env)).any (·.1)=false:=by rfl):
  DE X (.Call (.Name x p) (e::es) [] pos) (fc r (fAll fs)):=peOf (qio hc hg hm hv ha hn hdb he hpl) (qmj im)
theorem qhx (hc:qfM X (.type T) rc) (im:ImC X.K rc r) (hg:Gl X x) (hm:X.mg x=none) (hv:bootBuiltins x=some (.type T)) (ha:DA X (e::es) (fAll fs)) (hn:x≠"__name__":=by decide) (hdb:(x==("__debug__":Str))=false:=by decide)
  (he:starEach (e::es) X.env=(false,eval e X.env)::starEach es X.env:=by rfl) (hpl:(backTo pos (starEach es X.env)).any (·.1)=false:=by rfl):
  DE X (.Call (.Name x p) (e::es) [] pos) (fc r (fAll fs)):=peOf (qj4 hc hg hm hv ha hn hdb he hpl) (qmj im)
end
noncomputable def qaC:FS:=fun e h=>.nx e h
noncomputable def fSeq (s t:FS):FS:=fun e h=>match s e h with
 | .nx e1 h1=>t e1 h1
 | o=>o
noncomputable def fRet (f:FE):FS:=fun e h=>(f e h).out e fun d h1=>.rt d h1
noncomputable def qjc:FS:=fun _ h=>.rt .non h
noncomputable def fIfS (c:FT) (s t:FS):FS:=fun e h=>(c e h).out e fun b h1=>if b=true then s e h1 else t e h1
noncomputable def fSet (i:Nat) (f:FE):FS:=fun e h=>(f e h).out e fun d h1=>.nx (e.set i (some d)) h1
noncomputable def qaU (f:FE):FS:=fun e h=>(f e h).out e fun _ h1=>.nx e h1
section
variable {X:Cx}{st:Stmt}{rest:List Stmt}{s t:FS}{e:Expr}{f:FE}{c:FT}{pos:Pos}
theorem qaG:DSs X [] qaC:=qod qmY fun Dn σ H q9=>by obtain⟨as,env,h,re,rh,p⟩:=q9; exact p as H σ (Ext.refl _ _) rh re
theorem qac (h1:DS X st s) (h2:DSs X rest t):DSs X (st::rest) (fSeq s t):=
 qod (qlG h1 h2) fun Dn σ H q9=>by obtain⟨as,env,h,re,rh,p⟩:=q9; exact⟨as,env,h,re,rh,by
  unfold fSeq at p
  cases e:s env h with
  | nx e1 h1=>rw [e] at p; exact fun as' H' σ' x rh' re'=>⟨as',e1,h1,re',rh',p.later x⟩
  | rt d h1=>rw [e] at p; exact p
  | bk e1 h1=>rw [e] at p; exact p
  | ct e1 h1=>rw [e] at p; exact p
  | ex c e1 h1=>rw [e] at p; exact p
  | bad=>rw [e] at p; exact p⟩
theorem qaj (h1:DS X st s):DSs X [st] s:=qmX h1
theorem qay (he:DE X e f):DS X (.Return (some e) pos) (fRet f):=
 psOf (qof he) fun Dn σ H q9=>by obtain⟨as,env,h,re,rh,p⟩:=q9; exact⟨as,env,h,re,rh,(PX.of_out p).imp fun as1 H1 h1 d e1 rh1 p1 v rv=>p1 as1 H1 v (Ext.refl _ _) rh1 rv⟩
theorem qnv:DS X (.Return none pos) qjc:=psOf qmZ fun Dn σ H q9=>by obtain⟨as,env,h,re,rh,p⟩:=q9; exact p as H .non (Ext.refl _ _) rh .non
theorem qbf {c':Expr}{a b:List Stmt} (hc:DT X c' c) (ha:DSs X a s) (hb:DSs X b t):DS X (.If c' a b pos) (fIfS c s t):=
 psOf (ps_if hc ha hb) fun Dn σ H q9=>by obtain⟨as,env,h,re,rh,p⟩:=q9; exact⟨as,env,h,re,rh,(PX.of_out p).imp fun as1 H1 h1 b e1 rh1 p1=>by
  cases b with
  | true=>exact iteT ⟨as1,env,h1,re.mono e1,rh1,p1⟩
  | false=>exact iteF ⟨as1,env,h1,re.mono e1,rh1,p1⟩⟩
theorem qas {i:Nat}{x:Str}{pos':Pos} (hN:X.N.Nodup) (he:DE X e f) (hi:X.N[i]?=some x:=by rfl) (hx:Loc X.env.scope x:=by first | exact Or.inl rfl | exact Or.inr rfl)
  (hs:swapsWith e (some (.Name x pos')) pos.line X.env=pure false:=by rfl) (hf:X.fn x=true\/X.env.scope.names.lookup x=some .local:=by first | exact .inl rfl | exact .inr rfl):DS X (.Assign [.Name x pos'] e pos) (fSet i f):=
 psOf (qoe (i:=i) hN hi hx he hs hf) fun Dn σ H q9=>by obtain⟨as,env,h,re,rh,p⟩:=q9; exact⟨as,env,h,re,rh,(PX.of_out p).imp fun as1 H1 h1 d e1 rh1 p1 v rv=>p1 as1 H1 _ (Ext.refl _ _) rh1 ((re.mono e1).set i rv)⟩
theorem qbs (he:DE X e f) (hs:swapsWith e none pos.line X.env=pure false:=by rfl):DS X (.Expr e pos) (qaU f):=
 psOf (qm0 he hs) fun Dn σ H q9=>by obtain⟨as,env,h,re,rh,p⟩:=q9; exact⟨as,env,h,re,rh,(PX.of_out p).imp fun as1 H1 h1 d e1 rh1 p1 v rv=>p1 as1 H1 σ (Ext.refl _ _) rh1 (re.mono e1)⟩
noncomputable def qb7 (c:FT) (t:FS):Nat->FS
 | 0,_,_=>.bad
 | n+1,e,h=>(c e h).out e fun b h1=>if b=true then (match t e h1 with
  | .nx e2 h2=>qb7 c t n e2 h2
  | .ct e2 h2=>qb7 c t n e2 h2
  | .bk e2 h2=>.nx e2 h2
  | o=>o) else .nx e h1
theorem qe7 {c':Expr}{body:List Stmt} (n:Nat) (hp:PassesOwn (model X.prog X.w) X.A X.env X.xe) (hc:DT X c' c) (hb:DSs X body t):DS X (.While c' body [] pos) (qb7 c t n):=
 psOf (qlH hp hc hb) fun Dn σ H q=>by
  refine⟨fun m σ H=>tS X (qb7 c t m) Dn σ H,⟨n,q⟩,fun m σ H q9=>?_⟩
  obtain⟨as,env,h,re,rh,p⟩:=q9
  cases m with
  | zero=>exact p.elim
  | succ m=>
   refine⟨as,env,h,re,rh,(PX.of_out p).imp fun as1 H1 h1 b e1 rh1 p1=>?_⟩
   cases b with
   | false=>exact iteF (p1 as1 H1 σ (Ext.refl _ _) rh1 (re.mono e1))
   | true=>
    refine iteT ⟨fun σ' H'=>tS X (qb7 c t m) Dn σ' H',fun σ' H' z=>⟨m,Nat.lt_succ_self m,z⟩,as1,env,h1,re.mono e1,rh1,?_⟩
    have p2:POut X as1 H1 Dn (match t env h1 with
     | .nx e2 h2=>qb7 c t m e2 h2
     | .ct e2 h2=>qb7 c t m e2 h2
     | .bk e2 h2=>.nx e2 h2
     | o=>o):=p1
    cases e:t env h1 with
    | nx e2 h2=>rw [e] at p2; exact fun as' H' σ' x rh' re'=>⟨as',e2,h2,re',rh',p2.later x⟩
    | ct e2 h2=>rw [e] at p2; exact fun as' H' σ' x rh' re'=>⟨as',e2,h2,re',rh',p2.later x⟩
    | bk e2 h2=>rw [e] at p2; exact p2
    | rt d h2=>rw [e] at p2; exact p2
    | ex c e2 h2=>rw [e] at p2; exact p2
    | bad=>rw [e] at p2; exact p2
end
open Classical in
noncomputable def forG (chk:Hh->Prop) (i:Nat) (t:FS):List D->FS
 | [],e,h=>if chk h then .nx e h else .bad
 | d::r,e,h=>if chk h then (match t (e.set i (some d)) h with
  | .nx e2 h2=>forG chk i t r e2 h2
  | .ct e2 h2=>forG chk i t r e2 h2
  | .bk e2 h2=>.nx e2 h2
  | o=>o) else .bad
theorem qjv {X:Cx}{J:It}{i:Nat}{t:FS}{items:List D}{chk:Hh->Prop}{Base:List Addr->Hp->Prop}{Dn:Ends}{σ:St}{H:Hp}{as:List Addr}{env:En}{h:Hh}
  (mono:∀ as H as' H',Ext as H as' H'->Base as H->Base as' H')
  (hgo:∀ (k:Nat) as H h d,RelH X.K as H h->chk h->Base as H->items[k]?=some d->J.go k H/\∀ x H',J.yld k H x H'->H'=H/\RelD X.K as H d x)
  (hstop:∀ as H h,RelH X.K as H h->chk h->Base as H->J.stop items.length H)
  (re:RelE X.K as H env σ) (rh:RelH X.K as H h) (b0:Base as H) (p:POut X as H Dn (forG chk i t items env h)):
  ∃ W:Nat->Nat->St->Hp->Prop,(∃ m,W 0 m σ H)/\∀ k m σ H,W k m σ H->(J.stop k H/\Dn.nx σ H)\/(J.go k H/\∃ N:St->Hp->Prop,(∀ σ' H',N σ' H'->∃ m',m' < m/\W (k+1) m' σ' H')/\
   ∀ x H',J.yld k H x H'->qhp i x σ H' fun σ2 H2=>tS X t { Dn with nx:=N,ct:=N,bk:=Dn.nx } σ2 H2):=by
 refine⟨fun k m σ H=>k+m=items.length/\∃ as env h,RelE X.K as H env σ/\RelH X.K as H h/\Base as H/\POut X as H Dn (forG chk i t (items.drop k) env h),⟨items.length,by lia,as,env,h,re,rh,b0,p⟩,?_⟩
 rintro k m σ H ⟨hk,as,env,h,re,rh,b0,p⟩
 cases hd:items.drop k with
 | nil=>
  rw [hd] at p
  unfold forG at p
  by_cases hc:chk h
  ·rw [if_pos hc] at p
   have hlen:items.length<=k:=by
    have:=congrArg List.length hd
    rw [zQ,xG] at this
    lia
   have hk':k=items.length:=by lia
   exact .inl ⟨hk'▸hstop as H h rh hc b0,p as H σ (Ext.refl _ _) rh re⟩
  ·rw [if_neg hc] at p
   exact p.elim
 | cons d r=>
  rw [hd] at p
  unfold forG at p
  by_cases hc:chk h
  ·rw [if_pos hc] at p
   have hlt:k < items.length:=by
    have:=congrArg List.length hd
    rw [zQ,zO] at this
    lia
   have hq:=yQ hlt
   rw [hd] at hq
   have hd1:items[k]?=some d:=by
    rw [zA hlt]
    exact congrArg some (List.cons.inj hq).1.symm
   have hr:items.drop (k+1)=r:=(List.cons.inj hq).2.symm
   obtain⟨g1,g2⟩:=hgo k as H h d rh hc b0 hd1
   refine .inr ⟨g1,fun σ' H'=>(k+1)+(m - 1)=items.length/\∃ as env h,RelE X.K as H' env σ'/\RelH X.K as H' h/\Base as H'/\POut X as H' Dn (forG chk i t (items.drop (k+1)) env h),fun σ' H' z=>⟨m - 1,by lia,z⟩,fun x H' y=>?_⟩
   obtain⟨rfl,rx⟩:=g2 x H' y
   refine⟨as,env.set i (some d),h,re.set i rx,rh,?_⟩
   rw [hr]
   cases e:t (env.set i (some d)) h with
   | nx e2 h2=>rw [e] at p; exact fun as' H' σ' x rh' re'=>⟨by lia,as',e2,h2,re',rh',mono _ _ _ _ x b0,POut.later x p⟩
   | ct e2 h2=>rw [e] at p; exact fun as' H' σ' x rh' re'=>⟨by lia,as',e2,h2,re',rh',mono _ _ _ _ x b0,POut.later x p⟩
   | bk e2 h2=>rw [e] at p; exact p
   | rt d h2=>rw [e] at p; exact p
   | ex c e2 h2=>rw [e] at p; exact p
   | bad=>rw [e] at p; exact p
  ·rw [if_neg hc] at p
   exact p.elim
structure Itm where
 items:List D
 chk:Hh->Prop
noncomputable abbrev FI:=En->Hh->Res Itm
structure Adm (X:Cx) (it:Itm) (J:It) (Base:List Addr->Hp->Prop):Prop where
 mono:∀ as H as' H',Ext as H as' H'->Base as H->Base as' H'
 go:∀ (k:Nat) as H h d,RelH X.K as H h->it.chk h->Base as H->it.items[k]?=some d->J.go k H/\∀ x H',J.yld k H x H'->H'=H/\RelD X.K as H d x
 stop:∀ as H h,RelH X.K as H h->it.chk h->Base as H->J.stop it.items.length H
noncomputable def tI (X:Cx) (fi:FI):TI:=fun σ H R=>∃ as env h,RelE X.K as H env σ/\RelH X.K as H h/\PX X as H env (fi env h) fun as' H' _ it=>∀ J Base,Adm X it J Base->Base as' H'->R J H'
abbrev DI (X:Cx) (tg iter:Expr) (fi:FI):Prop:=PI X tg iter (tI X fi)
noncomputable def qhm (d:D) (h:Hh):Res Itm:=match d with
 | .tup ds=>.ok ⟨ds,fun _=>True⟩ h
 | .lst n=>(match h[n]? with
  | some (.lst ds)=>.ok ⟨ds,fun h=>h[n]?=some (.lst ds)⟩ h
  | _=>.bad)
 | _=>.bad
noncomputable def qco (f:FE):FI:=fun env h=>(f env h).bind qhm
noncomputable def rng1 (ds:List D):Option (List D):=match ds with
 | [.int j]=>if -(2 ^ 62)<=j/\j < 2 ^ 62 then some ((List.range j.toNat).map fun (k:Nat)=>D.int k) else none
 | _=>none
noncomputable def itOf (o:Option (List D)) (h:Hh):Res Itm:=match o with
 | some items=>.ok ⟨items,fun _=>True⟩ h
 | none=>.bad
noncomputable def qcC (rng:List D->Option (List D)) (fs:List FE):FI:=fun env h=>(fAll fs env h).bind fun ds h1=>itOf (rng ds) h1
section
variable {X:Cx}{tg l:Expr}{pos p:Pos}{f:FE}{fs:List FE}
theorem qfZ (hl:DE X l f):DI X tg l (qco f):=by
 have pT:=qoh (tg:=tg) hl
 have pL:=qm3 (tg:=tg) hl
 intro pins s σ H R I q
 obtain⟨as,env,h,re,rh,p⟩:=q
 unfold qco at p
 cases e:f env h with
 | bad=>rw [e] at p; exact p.elim
 | ex c h1=>
  refine pT pins s σ H R I ⟨as,env,h,re,rh,?_⟩
  rw [e] at p |-
  exact p
 | ok d h1=>
  rw [e,Res.bind_ok] at p
  cases d with
  | tup ds=>
   refine pT pins s σ H R I ⟨as,env,h,re,rh,?_⟩
   rw [e]
   intro as1 H1 e1 rh1 v rv
   obtain⟨a,vs,rfl,ha,rvs⟩:=rv.tup_inv
   refine⟨a,rfl,⟨vs,SqT.of ha⟩,?_⟩
   refine p as1 H1 e1 rh1 (Itt X.K a) (fun as H=>H a=some (.tup vs)/\RelDs X.K as H ds vs) ⟨fun as H as' H' x b=>⟨x.tups _ _ b.1,b.2.mono x⟩,?_,?_⟩ ⟨ha,rvs⟩
   ·intro k as H h d _ _ b hd
    obtain⟨v,hv,rd⟩:=Pd.get b.2 hd
    exact⟨⟨vs,v,SqT.of b.1,hv⟩,fun x H' y=>⟨y.1,by
     have:=y.2 vs (SqT.of b.1)
     rw [hv] at this
     cases this
     exact rd⟩⟩
   ·intro as H h _ _ b
    exact⟨vs,SqT.of b.1,by rw [b.2.length]; exact zS _⟩
  | lst n=>
   refine pL pins s σ H R I ⟨as,env,h,re,rh,?_⟩
   rw [e]
   unfold qhm at p
   dsimp only at p
   cases hn:h1[n]? with
   | none=>rw [hn] at p; exact p.elim
   | some o=>
    cases o with
    | dct kvs=>rw [hn] at p; exact p.elim
    | lst ds=>
     rw [hn] at p
     intro as1 H1 e1 rh1 v rv
     cases rv with
     | @lst _ a ha=>
      obtain⟨vs,hv,rvs⟩:=rh1.obj n a _ ha hn
      refine⟨a,rfl,⟨vs,SqL.of hv⟩,?_⟩
      refine p as1 H1 e1 rh1 (Itl X.K a) (fun as H=>as[n]?=some a) ⟨fun as H as' H' x b=>x.at b,?_,?_⟩ ha
      ·intro k as H h d r1 r2 b hd
       obtain⟨ws,hw,rws⟩:=r1.obj n a _ b r2
       obtain⟨v,hv,rd⟩:=Pd.get rws hd
       exact⟨⟨ws,v,SqL.of hw,hv⟩,fun x H' y=>⟨y.1,by
        have:=y.2 ws (SqL.of hw)
        rw [hv] at this
        cases this
        exact rd⟩⟩
      ·intro as H h r1 r2 b
       obtain⟨ws,hw,rws⟩:=r1.obj n a _ b r2
       exact⟨ws,SqL.of hw,by rw [rws.length]; exact zS _⟩
  | _=>exact p.elim
theorem qnK {lo:Int}{n:Nat}{items:List D} (e:items=(List.range n).map fun (k:Nat)=>D.int (lo+k)):Adm X ⟨items,fun _=>True⟩ (Itr lo n) fun _ _=>True:=by
 subst e
 refine⟨fun _ _ _ _ _ b=>b,?_,?_⟩
 ·intro k as H h d _ _ _ hd
  rw [zE] at hd
  obtain⟨m,hm,rfl⟩:=yB.mp hd
  obtain⟨hlt,e⟩:=zB.mp hm
  rw [List.getElem_range] at e
  subst e
  rw [xB] at hlt
  exact⟨hlt,fun x H' y=>⟨y.1,by
   rw [y.2]
   exact .int _⟩⟩
 ·intro as H h _ _ _
  show n<=_
  rw [zC,xB]
  exact zS _
theorem qdE {a:Expr} (hm:X.mg "range"=none) (ha:DA X [a] (fAll fs)) (hg:Gl X "range":=by rfl) (hst:starEach [a] X.env=[(false,eval a X.env)]:=by rfl):DI X tg (.Call (.Name "range" p) [a] [] pos) (qcC rng1 fs):=by
 intro pins s σ H R I q
 refine qj3 (tg:=tg) hg hm ha hst pins s σ H R I ?_
 obtain⟨as,env,h,re,rh,p⟩:=q
 refine⟨as,env,h,re,rh,(PX.bind p).imp fun as1 H1 h1 ds e1 rh1 p1 vs rvs=>?_⟩
 cases hr:rng1 ds with
 | none=>rw [hr] at p1; exact p1.elim
 | some items=>
  rw [hr] at p1
  unfold rng1 at hr
  split at hr
  ·rename_i j
   split at hr
   ·rename_i hj
    cases hr
    cases rvs with
    | cons r1 r2=>
     cases r1
     cases r2
     exact⟨j,rfl,hj.1,hj.2,p1 as1 H1 (Ext.refl _ _) rh1 _ _ (qnK (by simp)) trivial⟩
   ·cases hr
  ·cases hr
noncomputable def fFor (i:Nat) (fi:FI) (t:FS):FS:=fun e h=>(fi e h).out e fun it h1=>forG it.chk i t it.items e h1
theorem qen {x:Str}{px:Pos}{body:List Stmt}{i:Nat}{fi:FI}{t:FS} (hp:PassesOwn (model X.prog X.w) X.A X.env X.xe) (hcalm:X.calm=true) (hN:X.N.Nodup) (hl:DI X (.Name x px) l fi) (hb:DSs X body t) (hi:X.N[i]?=some x:=by rfl)
  (hx:Loc X.env.scope x:=by first | exact Or.inl rfl | exact Or.inr rfl) (hf:X.fn x=true\/X.env.scope.names.lookup x=some .local:=by first | exact .inl rfl | exact .inr rfl) (hs:∀ x,foldedSetIterable l X.env x=pure x:=by intro _; rfl):
  DS X (.For (.Name x px) l body [] pos) (fFor i fi t):=
 psOf (qog (pos:=pos) hp hcalm hl (qgh hN hi hx hf) hb hs) fun Dn σ H q9=>by obtain⟨as,env,h,re,rh,p⟩:=q9; exact⟨as,env,h,re,rh,(PX.of_out p).imp fun as1 H1 h1 it e1 rh1 p1 J Base ad b0=>
  qjv ad.mono ad.go ad.stop (re.mono e1) rh1 b0 p1⟩
end
noncomputable def spD (K:PySem.W.Frag) (n:Nat) (g:OC):Sp:=fun vs H Q _=>vs.length=n/\∃ as ds h,RelH K as H h/\RelDs K as H ds vs/\PQ K as H (g ds h) Q
noncomputable def qo4 (o:Out):Option (D×Hh):=match o with
 | .rt d h'=>some (d,h')
 | .nx _ h'=>some (.non,h')
 | _=>none
noncomputable def qaM (n:Nat) (ds:List D):En:=ds.map some++List.replicate (n - ds.length) none
noncomputable def qae (n:Nat) (t:FS):OC:=fun ds h=>qo4 (t (qaM n ds) h)
theorem qfQ {K:PySem.W.Frag}{as:List Addr}{H:Hp}{N:List Str}{ds:List D}{vs:List V} (r:RelDs K as H ds vs):RelE K as H (qaM N.length ds) (L2.start N vs):=by
 refine⟨by simp [qaM,L2.start,r.length],fun i d e=>?_⟩
 unfold qaM at e
 by_cases hi:i < ds.length
 ·rw [zK (by simpa using hi),zE] at e
  obtain⟨d',hd,e'⟩:=yB.mp e
  cases e'
  obtain⟨v,hv,rd⟩:=Pd.get r hd
  refine⟨v,?_,rd⟩
  unfold L2.start
  rw [zK (by rw [zC,<-r.length]; exact hi),zE,hv]
  rfl
 ·rw [yI (by simpa using hi)] at e
  have:=zD e
  rw [List.mem_replicate] at this
  exact nomatch this.2
section
variable {P:Program}{w:World}{K:PySem.W.Frag}{mg:Str->Option Value}{base:Heap}
theorem fn_D {x qual:Str}{st:Stmt}{f:Addr}{fd:FuncData}{N ps:List Str}{k:Nat}{t:FS} (F:Fun K x qual st f fd) (S:qaE N ps (qam st))
  (hb:∀ (cdv:Value) (A:Around) (outer:List Env) (s:Shared) (H:Hp) (E:XK),Room k (A.deeper (envOfC qual (qam st) s.heap.objs.size f cdv))->
   DSs (cxOf CX0 P w K mg base N qual (qam st) f cdv A outer s H E).nox (qby st) t):FnOk P w K mg base CX0 (k+1) f fd ps (spD K ps.length (qae N.length t)):=by
 refine F.ok S (fun vs H Q E h=>h.1) fun cdv A outer s H vs Q E hr h=>⟨_,hb cdv A outer s H E hr,?_⟩
 obtain⟨hl,as,ds,h,rh,rd,p⟩:=h
 refine⟨as,qaM N.length ds,h,qfQ rd,rh,?_⟩
 unfold qae at p
 cases e:t (qaM N.length ds) h with
 | rt d h'=>rw [e] at p; exact fun as' H' v x rh' rd'=>p as' H' v x rh' rd'
 | nx e1 h'=>rw [e] at p; exact fun as' H' σ' x rh' re'=>p as' H' .non x rh' .non
 | bk e1 h'=>rw [e] at p; exact p.elim
 | ct e1 h'=>rw [e] at p; exact p.elim
 | ex c e1 h'=>rw [e] at p; exact p.elim
 | bad=>rw [e] at p; exact p.elim
end
section
variable {X:Cx}{k:Nat}{f:Addr}{fd:FuncData}{ps:List Str}{x:Str}{p pos:Pos}{e:Expr}{es:List Expr}{fs:List FE}{g:OC}{n:Nat}
theorem qnD (G:FnOk X.prog X.w X.K X.mg X.base CX0 k f fd ps (spD X.K n g)) (hr:Room k X.A) (hm:X.mg x=some (.ref f)) (hk:PySem.W.keepIn X.K (.ref f)=true) (hb:Binds X.K fd ps []) (ha:DA X (e::es) (fAll fs)) (hg:Gl X x:=by rfl) (hl:fs.length=n:=by rfl)
  (hdb:(x==("__debug__":Str))=false:=by decide) (he:starEach (e::es) X.env=(false,eval e X.env)::starEach es X.env:=by rfl) (hpl:(backTo pos (starEach es X.env)).any (·.1)=false:=by rfl):
  DE X (.Call (.Name x p) (e::es) [] pos) (fc g (fAll fs)):=
 peOf (qm6 (dvs:=[]) (E:=E0) G hr hg hm hk hb .nil pass0 ha hdb he hpl) fun σ H Q q9=>by obtain⟨as,env,h,re,rh,p⟩:=q9; exact⟨as,env,h,re,rh,(PX.bind p).lenA.imp fun as1 H1 h1 ds e1 rh1 p1 vs rvs=>by
  show spD X.K n g (vs++[]) H1 Q E0
  rw [zW]
  exact⟨by rw [<-rvs.length,p1.1,hl],as1,ds,h1,rh1,rvs,p1.2.pq⟩⟩
end
inductive HB (n:Nat):D->Prop where
 | non:HB n .non
 | bl (b:Bool):HB n (.bl b)
 | int (i:Int):HB n (.int i)
 | str (x:Str):HB n (.str x)
 | tup {ds:List D}:(∀ d∈ds,HB n d)->HB n (.tup ds)
 | lst {k:Nat}:k < n->HB n (.lst k)
 | ro (ns:List Int):HB n (.ro ns)
theorem RelD.hb {K:PySem.W.Frag}{as:List Addr}{H:Hp}{d:D}{v:V} (h:RelD K as H d v):HB as.length d:=by
 induction h with
 | non=>exact .non
 | bl b=>exact .bl b
 | int i=>exact .int i
 | str y=>exact .str y
 | @tup' ds vs a h1 h2 h3 ih=>
  refine .tup fun d hd=>?_
  obtain⟨i,hi,e⟩:=List.mem_iff_getElem.mp hd
  exact ih i d vs[i] (by rw [zA hi,e]) (zA (by rw [<-h2]; exact hi))
 | lst h=>exact .lst (zB.mp h).1
 | ro h=>exact .ro _
theorem RelD.cut {K:PySem.W.Frag}{as m:List Addr}{H:Hp}{d:D}{v:V} (h:RelD K (as++m) H d v) (b:HB as.length d):RelD K as H d v:=by
 induction h with
 | non=>exact .non
 | bl k=>exact .bl k
 | int i=>exact .int i
 | str y=>exact .str y
 | tup' h1 h2 h3 ih=>
  cases b with
  | tup b=>exact .tup' h1 h2 fun i d v e1 e2=>ih i d v e1 e2 (b d (zD e1))
 | lst h=>
  cases b with
  | lst b=>
   rw [zK b] at h
   exact .lst h
 | ro h=>exact .ro h
theorem HB.mono {n m:Nat} (h:n<=m) {d:D} (b:HB n d):HB m d:=by
 induction b with
 | non=>exact .non
 | bl b=>exact .bl b
 | int i=>exact .int i
 | str y=>exact .str y
 | tup _ ih=>exact .tup ih
 | lst q=>exact .lst (zY q h)
 | ro ns=>exact .ro ns
theorem RelH.cut {K:PySem.W.Frag}{as m:List Addr}{H H':Hp}{h junk:Hh} (r0:RelH K as H h) (r:RelH K (as++m) H' (h++junk)):RelH K as H' h:=by
 refine⟨r0.len,(yR.mp r.nd).1,fun n a o e1 e2=>?_⟩
 have hn:n < as.length:=(zB.mp e1).1
 have hn':n < h.length:=(zB.mp e2).1
 have q0:=r0.obj n a o e1 e2
 have q:=r.obj n a o (by rw [zK hn]; exact e1) (by rw [zK hn']; exact e2)
 cases o with
 | lst ds=>
  obtain⟨vs0,_,r0⟩:=q0
  obtain⟨vs,h1,r1⟩:=q
  refine⟨vs,h1,Pd.of_get r1.length fun i d v e1 e2=>?_⟩
  obtain⟨u,_,ru⟩:=Pd.get r0 e1
  obtain⟨v',hv,rv⟩:=Pd.get r1 e1
  rw [e2] at hv
  cases hv
  exact rv.cut ru.hb
 | dct kvs=>
  obtain⟨ws0,_,r0⟩:=q0
  obtain⟨ws,h1,r1⟩:=q
  refine⟨ws,h1,Pd.of_get r1.length fun i d v e1 e2=>?_⟩
  obtain⟨u,_,ru⟩:=Pd.get r0 e1
  obtain⟨v',hv,rv⟩:=Pd.get r1 e1
  rw [e2] at hv
  cases hv
  exact⟨rv.1,rv.2.cut ru.2.hb⟩
noncomputable def qiY (m:List D->Option D):OC:=fun ds h=>(m ds).map fun d=>(d,h)
theorem qnq {P:Program}{w:World}{K:PySem.W.Frag}{mg:Str->Option Value}{base:Heap}{CX:CXT}{k:Nat}{f:Addr}{fd:FuncData}{ps:List Str}{n:Nat}{g:OC}{m:List D->Option D} (G:FnOk P w K mg base CX k f fd ps (spD K n g))
  (hm:∀ ds h d,m ds=some d->∃ junk,g ds h=some (d,h++junk)) (hb:∀ ds d,m ds=some d->HB 0 d):FnOk P w K mg base CX k f fd ps (spD K n (qiY m)):=by
 refine G.imp fun vs H Q E q9=>?_
 obtain⟨hl,as,ds,h,rh,rd,p⟩:=q9
 refine⟨hl,as,ds,h,rh,rd,?_⟩
 unfold qiY at p
 cases e:m ds with
 | none=>rw [e] at p; exact p.elim
 | some d=>
  rw [e] at p
  obtain⟨junk,e2⟩:=hm ds h d e
  rw [e2]
  intro as' H' v x rh' rd'
  obtain⟨mo,rfl⟩:=x.pre
  exact p as H' v ⟨⟨[],by simp⟩,x.tups,x.frzs⟩ (rh.cut rh') (rd'.cut ((hb ds d e).mono (xV _)))
section
variable {X:Cx}
noncomputable def qn7 (K:PySem.W.Frag):R2:=fun x y H Q=>∃ a b xs ys,x=.ref a/\y=.ref b/\SqT K H a xs/\SqT K H b ys/\xs.length+ys.length<=sizeLine/\
 (xs=[]->Q (.ref b) H)/\(xs≠[]->ys=[]->Q (.ref a) H)/\(xs≠[]->ys≠[]->∀ p,H p=none->Q (.ref p) (upd H p (.tup (xs++ys))))
theorem qnd:OpR X (binaryOp .Add) (qn7 X.K):=by
 intro pins s σ H x y v u Q I rx ry h
 obtain⟨a,b,xs,ys,rfl,rfl,ha,hb,hz,q0,q1,q2⟩:=h
 by_cases hx:xs=[]
 ·cases rx
  cases ry
  obtain⟨its,r1,p1,_⟩:=I.tuple ha
  obtain⟨its2,r2,p2,_⟩:=I.tuple hb
  obtain⟨⟨cls,dd,data,sl⟩,ho,hc,n,hd⟩:=id p1
  obtain⟨⟨cls2,dd2,data2,sl2⟩,ho2,hc2,n2,hd2⟩:=id p2
  simp only at hc hd hc2 hd2
  subst hc hd hc2 hd2
  have e:its=[]:=r1.nil_iff.mpr hx
  exact concat_meets ⟨_,ho,rfl⟩ ⟨_,ho2,rfl⟩ noFill_tuple_add seq_tuple_add PySem.F.slot_tuple_add PySem.F.entry_tuple_add (PySem.F.args_tuple_add_2 _ _)
   (tuple_addW0 a b its.toArray its2.toArray n n2 dd dd2 sl sl2 (by simp [e])) ⟨ho,ho2,.ref b,H,I,rfl,q0 hx⟩
 ·exact qnc pins s σ H _ _ v u Q I rx ry ⟨a,b,xs,ys,rfl,rfl,ha,hb,hx,hz,q1 hx,q2 hx⟩
theorem qd2 {prog:Program}{w:World}{A:Around}{E:Value->Shared->Prop}{s:Shared}{t sl:Addr}{items:Array Value}{vl vu:Value}{lo hi:Option Int}{Q:Value->Shared->Prop} (ht:IsTup s.heap t items) (hs:s.heap.IsSliceOf sl vl vu .none) (pl:IsPart vl lo) (pu:IsPart vu hi)
  (hw:HT.sIx items.size 0 lo=0/\HT.sIx items.size items.size hi=items.size) (h:Q (.ref t) s):wpAny (model prog w) A (getItem (.ref t) (.ref sl)) Q E s:=by
 obtain⟨os,hos,hcs,hds⟩:=id hs
 have hTs:s.TypeIs (.ref sl) "slice":=⟨os,hos,hcs⟩
 unfold getItem
 try with_reducible refine wpAny_holding ?_
 first | refine wpAny_bind (wpAny_pure ?_) | skip
 refine wpAny_bind (wpAny_sequenceKey ht.typeIs (by decide) ?_)
 refine wpAny_bind (wpAny_callSpecial?_slot (name:=Str.ofString "__getitem__") ht.typeIs PyProof.Rows.slot_tuple_getitem
  (wpAny_call_entry PyProof.Rows.slot_tuple_getitem ht.typeIs entry_tuple_getitem ?_ (args_tuple_getitem _ _)))
 show wpAny _ _ (Builtin.Tuple.tupleItemsOf (.ref t) >>= _) _ _ s
 refine wpAny_bind (tupleItemsOf_ ht ?_)
 refine wpAny_bind (wpAny_typeOf hTs ?_)
 rw [if_pos (by decide)]
 refine wpAny_bind (HT.sliceApplied_gen hs pl pu ?_)
 have hyes:(((HT.sIx items.size 0 lo:Nat):Int)==0&&(1:Int)==1&&(HT.sIx items.size items.size hi - HT.sIx items.size 0 lo)==items.size)=true:=by
  rw [hw.1,hw.2]
  simp
 show wpAny _ _ (if (((HT.sIx items.size 0 lo:Nat):Int)==0&&(1:Int)==1&&(HT.sIx items.size items.size hi - HT.sIx items.size 0 lo)==items.size)=true then _ else _) _ _ s
 rw [if_pos hyes]
 refine wpAny_bind (m:=Builtin.Tuple.tupleIsExact (.ref t)) ?_
 unfold Builtin.Tuple.tupleIsExact
 refine wpAny_bind (wpAny_typeOf ht.typeIs (wpAny_pure ?_))
 rw [if_pos (by decide)]
 first
  | exact wpAny_bind (wpAny_rule (wpAny_pure ⟨_,rfl,wpAny_pure h⟩))
  | exact wpAny_bind (wpAny_rule (wpAny_bind (wpAny_pure ⟨_,rfl,wpAny_pure h⟩)))
  | exact wpAny_bind (wpAny_rule (wpAny_bind (wpAny_pure (wpAny_pure ⟨_,rfl,wpAny_pure h⟩))))
noncomputable def qn6 (K:PySem.W.Frag):V->Option Int->Option Int->Hp->VK->Prop:=fun x lo hi H Q=>∃ a xs,x=.ref a/\SqT K H a xs/\
 ((HT.sIx xs.length 0 lo=0/\HT.sIx xs.length xs.length hi=xs.length)->Q (.ref a) H)/\
 (¬ (HT.sIx xs.length 0 lo=0/\HT.sIx xs.length xs.length hi=xs.length)->∀ p,H p=none->Q (.ref p) (upd H p (.tup (cutV xs lo hi))))
theorem sl_tupA:SlR X (qn6 X.K):=by
 intro pins s σ H x v vl vu lo hi sl Q I rx hs pl pu h
 obtain⟨a,xs,rfl,hx,q1,q2⟩:=h
 by_cases hw:HT.sIx xs.length 0 lo=0/\HT.sIx xs.length xs.length hi=xs.length
 ·cases rx
  obtain⟨its,r,ht,hz⟩:=I.tuple hx
  have hlen:its.toArray.size=xs.length:=by rw [zH]; exact r.length.symm
  refine⟨"tuple",_,PyProof.Rows.slot_tuple_getitem.lookup,ht.typeIs,?_⟩
  exact qd2 ht hs pl pu (by rw [hlen]; exact hw) ⟨.ref a,H,I,rfl,q1 hw⟩
 ·exact qn2 pins s σ H _ v vl vu lo hi sl Q I rx hs pl pu ⟨a,xs,rfl,hx,hw,q2 hw⟩
theorem qn3:SlR X (fun x lo hi H Q=>∃ z,x=.str z/\z.length<=sizeLine/\Q (.str (Txt.slice z lo hi)) H):=by
 intro pins s σ H x v vl vu lo hi sl Q I rx hs pl pu h
 obtain⟨z,rfl,hz,q⟩:=h
 obtain⟨t,rfl⟩:=rx
 refine⟨"str",_,F.slot_str_getitem.lookup,typeIs_str _ _ _,?_⟩
 cases pl with
 | none=>
  cases pu with
  | none=>exact wpAny_getItem_str_slice (l:=none) (u:=none) (st:=none) hs rfl (post_val_or_str ⟨yX (Txt.slice_le z _ _) hz,fun t' k=>⟨.str _,H,I.tok k,⟨t',rfl⟩,q⟩⟩)
  | int j u=>exact wpAny_getItem_str_slice (l:=none) (u:=some (j,u)) (st:=none) hs rfl (post_val_or_str ⟨yX (Txt.slice_le z _ _) hz,fun t' k=>⟨.str _,H,I.tok k,⟨t',rfl⟩,q⟩⟩)
 | int i u0=>
  cases pu with
  | none=>exact wpAny_getItem_str_slice (l:=some (i,u0)) (u:=none) (st:=none) hs rfl (post_val_or_str ⟨yX (Txt.slice_le z _ _) hz,fun t' k=>⟨.str _,H,I.tok k,⟨t',rfl⟩,q⟩⟩)
  | int j u=>exact wpAny_getItem_str_slice (l:=some (i,u0)) (u:=some (j,u)) (st:=none) hs rfl (post_val_or_str ⟨yX (Txt.slice_le z _ _) hz,fun t' k=>⟨.str _,H,I.tok k,⟨t',rfl⟩,q⟩⟩)
theorem qk9 (hc:X.calm=true):qfM X (.builtin "sum") (fun xs H Q=>∃ (p:Addr) (ns:List Int),xs=[.ref p]/\SqL X.K H p (ns.map V.int)/\Q (.int ns.sum) H):=by
 intro pins s σ H xs us Q I r h
 obtain⟨p,ns,rfl,hp,q⟩:=h
 obtain⟨u,rfl,ru⟩:=qln r
 cases ru
 obtain⟨its,rv,pl,_⟩:=I.list hp
 have hi:IntsAre its ns:=qi6 rv
 obtain⟨xs,hx⟩:=hi.allInts.items
 have hl':s.heap.IsList p (intItems xs):=hx▸pl.isList
 refine sum_intListG (I.ok.hd hc) hl' fun h' tk t' hk=>?_
 have e1:ns=xs.toList.map (·.1):=by
  rw [<-nums_intItems,<-hx]
  exact (show numsOf its.toArray.toList=ns from hi.numsOf).symm
 have e2:preSum (numAt xs) xs.size=ns.sum:=by
  rw [preSum_eq,yZ (by simp),e1]
 rw [e2]
 exact⟨.int ns.sum,H,I.kept hk,⟨t',rfl⟩,q⟩
noncomputable def insV {α:Type} (xs:List α) (i:Int) (y:α):List α:=xs.take (if i < 0 then (i+(xs.length:Int)).toNat else min i.toNat xs.length)++y::xs.drop (if i < 0 then (i+(xs.length:Int)).toNat else min i.toNat xs.length)
noncomputable def qjT:V->List V->Hp->VK->Prop:=fun x vs H Q=>∃ l xs i y,x=.ref l/\vs=[.int i,y]/\H l=some (.lst xs)/\-(2 ^ 63)<=i/\i < 2 ^ 63/\xs.length < sizeLine/\Q .non (upd H l (.lst (insV xs i y)))
theorem qkf:MtM X "list.insert" qjT:=by
 intro pins s σ H x vs v us Q I rx rv h
 obtain⟨l,xs,i,y,rfl,rfl,hH,h1,h2,hz,q⟩:=h
 cases rx
 obtain⟨u1,u2,rfl,ru1,ru2⟩:=rv.two
 obtain⟨t,rfl⟩:=ru1
 obtain⟨z,its,n,r,hl,e⟩:=I.lstM hH
 refine call_meets F.slot_list_insert ⟨_,e,rfl⟩ F.entry_list_insert (F.args_list_insert_3 _ _ _)
  (AutoSeq1.list_insert_list_int_val_1 l its.toArray n i t u2 (by rw [fitsIndex_both h1 h2]; decide) (by rw [zH]; lia)) ⟨e,?_⟩
 refine⟨.non,_,I.lset (its':=insV its i u2) hH e ?_ ?_ ?_,rfl,q⟩
 ·apply Array.toList_inj.mp
  unfold insV
  simp
  exact yZ (by simp)
 ·unfold insV
  rw [hl]
  exact (r.take _).append (.cons ru2 (r.drop _))
 ·unfold insV
  rw [zJ,zO,zM,zQ]
  split<;>lia
end
noncomputable def oI2 (g:Int->Int->D):O2:=fun x y h=>match x,y with
 | .int i,.int j=>some (g i j,h)
 | _,_=>none
@[simp] theorem oI2_int (g:Int->Int->D) (i j:Int) (h:Hh):oI2 g (.int i) (.int j) h=some (g i j,h):=rfl
theorem qi8 {K:PySem.W.Frag}{g:Int->Int->D}{gv:Int->Int->V} (hg:∀ as H i j,RelD K as H (g i j) (gv i j)):Im2 K (rI0 gv) (oI2 g):=by
 intro as H h x y v u Q rh rx ry p
 cases x with
 | int i=>
  cases y with
  | int j=>
   cases rx
   cases ry
   exact⟨i,j,rfl,rfl,p as H _ (Ext.refl _ _) rh (hg as H i j)⟩
  | _=>exact p.elim
 | _=>exact p.elim
noncomputable def oSub:O2:=oI2 fun i j=>.int (i - j)
noncomputable def oLt:O2:=oI2 fun i j=>.bl (decide (i < j))
noncomputable def oLe:O2:=oI2 fun i j=>.bl (decide (i<=j))
noncomputable def oGt:O2:=oI2 fun i j=>.bl (decide (j < i))
noncomputable def oGe:O2:=oI2 fun i j=>.bl (decide (j<=i))
@[simp] theorem qeY (i j:Int) (h:Hh):oSub (.int i) (.int j) h=some (.int (i - j),h):=rfl
@[simp] theorem qkd (i j:Int) (h:Hh):oLt (.int i) (.int j) h=some (.bl (decide (i < j)),h):=rfl
@[simp] theorem oLe_int (i j:Int) (h:Hh):oLe (.int i) (.int j) h=some (.bl (decide (i<=j)),h):=rfl
@[simp] theorem oGt_int (i j:Int) (h:Hh):oGt (.int i) (.int j) h=some (.bl (decide (j < i)),h):=rfl
@[simp] theorem oGe_int (i j:Int) (h:Hh):oGe (.int i) (.int j) h=some (.bl (decide (j<=i)),h):=rfl
noncomputable def oI2c (c:Int->Int->Bool) (g:Int->Int->D):O2:=fun x y h=>match x,y with
 | .int i,.int j=>if c i j=true then some (g i j,h) else none
 | _,_=>none
theorem qiu {K:PySem.W.Frag}{c:Int->Int->Bool}{C:Int->Int->Prop}{g:Int->Int->D}{gv:Int->Int->V} (hg:∀ as H i j,RelD K as H (g i j) (gv i j)) (hc:∀ i j,c i j=true->C i j):Im2 K (rI C gv) (oI2c c g):=by
 intro as H h x y v u Q rh rx ry p
 cases x with
 | int i=>
  cases y with
  | int j=>
   cases rx
   cases ry
   by_cases e:c i j=true
   ·have p':PQ K as H (if c i j=true then some (g i j,h) else none) Q:=p
    rw [if_pos e] at p'
    exact⟨i,j,rfl,rfl,hc i j e,p' as H _ (Ext.refl _ _) rh (hg as H i j)⟩
   ·have p':PQ K as H (if c i j=true then some (g i j,h) else none) Q:=p
    rw [if_neg e] at p'
    exact p'.elim
  | _=>exact p.elim
 | _=>exact p.elim
noncomputable def cMul (i j:Int):Bool:=decide (-(2 ^ 64) < i/\i < 2 ^ 64)||decide (-(2 ^ 64) < j/\j < 2 ^ 64)||decide (i.natAbs < 2 ^ 1000/\j.natAbs < 2 ^ 1000)
theorem qnF {i j:Int} (c:cMul i j=true):IntMulOk i j:=by
 unfold cMul at c
 rw [Bool.or_eq_true,Bool.or_eq_true] at c
 rcases c with (c | c) | c
 ·exact CMul.ok (.inl (of_decide_eq_true c))
 ·exact CMul.ok (.inr (of_decide_eq_true c))
 ·have c':=of_decide_eq_true c
  exact IntMulOk.of_le (m:=1000) (n:=1000) (intBits_le_iff.mpr c'.1) (intBits_le_iff.mpr c'.2) (by decide)
theorem qna {X:Cx}:OpR X (binaryOp .Mult) (rI IntMulOk fun i j=>.int (i*j)):=opI fun _ _ _ _ _ _ _ hc q=>mul_int q hc
noncomputable def cDiv (_ j:Int):Bool:=decide (0 < j/\j < 1073741824)
noncomputable def cMod (_ j:Int):Bool:=decide (0 < j)
noncomputable def cPow (i j:Int):Bool:=decide (0<=j/\j<=1000000/\i.natAbs < 2 ^ 64)
noncomputable def oMul:O2:=oI2c cMul fun i j=>.int (i*j)
noncomputable def oDiv:O2:=oI2c cDiv fun i j=>.int (i / j)
noncomputable def oMod:O2:=oI2c cMod fun i j=>.int (i % j)
noncomputable def oPow:O2:=oI2c cPow fun i j=>.int (i ^ j.toNat)
theorem qee {i j:Int} (h:Hh) (c:cMul i j=true):oMul (.int i) (.int j) h=some (.int (i*j),h):=if_pos c
theorem qgr {i j:Int} (h:Hh) (c:0 < j/\j < 1073741824):oDiv (.int i) (.int j) h=some (.int (i / j),h):=if_pos (decide_eq_true c)
theorem qgp {i j:Int} (h:Hh) (c:0 < j):oMod (.int i) (.int j) h=some (.int (i % j),h):=if_pos (decide_eq_true c)
theorem qip {i j:Int} (h:Hh) (c:0<=j/\j<=1000000/\i.natAbs < 2 ^ 64):oPow (.int i) (.int j) h=some (.int (i ^ j.toNat),h):=if_pos (decide_eq_true c)
noncomputable def oNeg:O1:=fun x h=>match x with
 | .int i=>some (.int (-i),h)
 | _=>none
@[simp] theorem qe0 (i:Int) (h:Hh):oNeg (.int i) h=some (.int (-i),h):=rfl
@[simp] theorem oNot_bl (b:Bool) (h:Hh):oNot (.bl b) h=some (.bl (!b),h):=rfl
noncomputable def isNon:D->Bool
 | .non=>true
 | _=>false
noncomputable def qkb:O2:=fun x y h=>match y with
 | .non=>some (.bl (!isNon x),h)
 | _=>none
@[simp] theorem oNotN_non (x:D) (h:Hh):qkb x .non h=some (.bl (!isNon x),h):=rfl
theorem RelD.isNon {K:PySem.W.Frag}{as:List Addr}{H:Hp}{x:D}{v:V} (r:RelD K as H x v):decide (v=.non)=isNon x:=by
 cases r<;>simp [DL.isNon]
noncomputable def oAdd:O2:=fun x y h=>match x,y with
 | .int i,.int j=>some (.int (i+j),h)
 | .str a,.str b=>if a.length+b.length<=sizeLine then some (.str (a++b),h) else none
 | .tup a,.tup b=>if a.length+b.length<=sizeLine then some (.tup (a++b),h) else none
 | _,_=>none
@[simp] theorem qct (i j:Int) (h:Hh):oAdd (.int i) (.int j) h=some (.int (i+j),h):=rfl
theorem qiq {a b:Str} (h:Hh) (c:a.length+b.length<=sizeLine):oAdd (.str a) (.str b) h=some (.str (a++b),h):=if_pos c
theorem qgs {a b:List D} (h:Hh) (c:a.length+b.length<=sizeLine):oAdd (.tup a) (.tup b) h=some (.tup (a++b),h):=if_pos c
noncomputable def rAddA (K:PySem.W.Frag):R2:=fun x y H Q=>rI0 (fun i j=>.int (i+j)) x y H Q\/(∃ i j,x=.str i/\y=.str j/\i.length+j.length<=sizeLine/\Q (.str (i++j)) H)\/qn7 K x y H Q
theorem qo0 {K:PySem.W.Frag}:Im2 K (rAddA K) oAdd:=by
 intro as H h x y v u Q rh rx ry p
 cases x with
 | int i=>
  cases y with
  | int j=>
   cases rx
   cases ry
   exact .inl ⟨i,j,rfl,rfl,p as H _ (Ext.refl _ _) rh (.int _)⟩
  | _=>exact p.elim
 | str a=>
  cases y with
  | str b=>
   cases rx
   cases ry
   have p':PQ K as H (if a.length+b.length<=sizeLine then some (.str (a++b),h) else none) Q:=p
   by_cases c:a.length+b.length<=sizeLine
   ·rw [if_pos c] at p'
    exact .inr (.inl ⟨a,b,rfl,rfl,c,p' as H _ (Ext.refl _ _) rh (.str _)⟩)
   ·rw [if_neg c] at p'
    exact p'.elim
  | _=>exact p.elim
 | tup a=>
  cases y with
  | tup b=>
   have p':PQ K as H (if a.length+b.length<=sizeLine then some (.tup (a++b),h) else none) Q:=p
   by_cases c:a.length+b.length<=sizeLine
   ·rw [if_pos c] at p'
    obtain⟨x,xs,rfl,hx,rxs⟩:=rx.tup_inv
    obtain⟨y,ys,rfl,hy,rys⟩:=ry.tup_inv
    refine .inr (.inr ⟨x,y,xs,ys,rfl,rfl,SqT.of hx,SqT.of hy,by rw [<-rxs.length,<-rys.length]; exact c,fun z=>?_,fun _ z=>?_,fun _ _ q hq=>?_⟩)
    ·subst z
     cases rxs
     exact p' as H _ (Ext.refl _ _) rh (.tup hy rys)
    ·subst z
     cases rys
     exact p' as H _ (Ext.refl _ _) rh (.tup hx (by rw [zW]; exact rxs))
    ·exact p' as _ _ (qdb hq) (rh.tup hq) (.tup qc3 (RelDs.mono (qdb hq) (Pd.app rxs rys)))
   ·rw [if_neg c] at p'
    exact p'.elim
  | _=>exact p.elim
 | _=>exact p.elim
section
variable {X:Cx}{a b:Expr}{f g:FE}{pos:Pos}
theorem qaQ (ha:DE X a f) (hb:DE X b g):DE X (.BinOp a .Add b pos) (f2 oAdd f g):=qjh (op_add.or (op_add_str.or qnd)) qo0 ha hb
theorem qb1 (ha:DE X a f) (hb:DE X b g):DE X (.BinOp a .Sub b pos) (f2 oSub f g):=qjh qov (qi8 fun _ _ _ _=>.int _) ha hb
theorem qhv (ha:DE X a f) (hb:DE X b g):DE X (.BinOp a .Mult b pos) (f2 oMul f g):=qjh qna (qiu (fun _ _ _ _=>.int _) fun i j c=>qnF c) ha hb
theorem qc0 (ha:DE X a f) (hb:DE X b g):DE X (.BinOp a .FloorDiv b pos) (f2 oDiv f g):=qjh qnb (qiu (fun _ _ _ _=>.int _) fun i j c=>(of_decide_eq_true c:0 < j/\j < 1073741824)) ha hb
theorem qcc (ha:DE X a f) (hb:DE X b g):DE X (.BinOp a .Mod b pos) (f2 oMod f g):=qjh qoy (qiu (fun _ _ _ _=>.int _) fun i j c=>(of_decide_eq_true c:0 < j)) ha hb
theorem qk0 (ha:DE X a f) (hb:DE X b g):DE X (.BinOp a .Pow b pos) (f2 oPow f g):=qjh qow (qiu (fun _ _ _ _=>.int _) fun i j c=>(of_decide_eq_true c:0<=j/\j<=1000000/\i.natAbs < 2 ^ 64)) ha hb
theorem qbF (ha:DE X a f):DE X (.UnaryOp .USub a pos) (f1 oNeg f):=de_un qnQ (fun as H h x v Q rh rx p=>by
 cases x with
 | int i=>cases rx; exact⟨i,rfl,p as H _ (Ext.refl _ _) rh (.int _)⟩
 | _=>exact p.elim) ha
theorem qnC (ha:DE X a f) (hb:DE X b g):DE X (.Compare a [.Lt] [b] pos) (f2 oLt f g):=qmA qoz (qi8 fun _ _ _ _=>.bl _) (qef _) ha hb
theorem qgG (ha:DE X a f) (hb:DE X b g):DT X (.Compare a [.Lt] [b] pos) (fB (f2 oLt f g)):=qfz qoz (qi8 fun _ _ _ _=>.bl _) (qef _) ha hb
theorem qo6 (ha:DE X a f) (hb:DE X b g):DT X (.Compare a [.LtE] [b] pos) (fB (f2 oLe f g)):=qfz op_le (qi8 fun _ _ _ _=>.bl _) (qef _) ha hb
theorem qfJ (ha:DE X a f) (hb:DE X b g):DT X (.Compare a [.Gt] [b] pos) (fB (f2 oGt f g)):=qfz op_gt (qi8 fun _ _ _ _=>.bl _) (qef _) ha hb
theorem dt_ge (ha:DE X a f) (hb:DE X b g):DT X (.Compare a [.GtE] [b] pos) (fB (f2 oGe f g)):=qfz op_ge (qi8 fun _ _ _ _=>.bl _) (qef _) ha hb
theorem qnl {K:PySem.W.Frag}:Im2 K (fun x y H Q=>y=.non/\Q (.bl (!decide (x=.non))) H) qkb:=fun as H h x y v u Q rh rx ry p=>by
 cases y with
 | non=>cases ry; rw [rx.isNon]; exact⟨rfl,p as H _ (Ext.refl _ _) rh (.bl _)⟩
 | _=>exact p.elim
theorem qnu (ha:DE X a f) (hb:DE X b g):DT X (.Compare a [.IsNot] [b] pos) (fB (f2 qkb f g)):=qfz qm9 qnl (qef _) ha hb
end
noncomputable def qat (h:Hh) (n:Nat):Option (List D):=match h[n]? with
 | some (.lst ds)=>some ds
 | _=>none
theorem qaH {h:Hh}{n:Nat}{ds:List D} (e:h[n]?=some (.lst ds)):qat h n=some ds:=by unfold qat; rw [e]
theorem qav {h:Hh}{n:Nat}{ds:List D} (e:qat h n=some ds):h[n]?=some (.lst ds):=by
 unfold qat at e
 split at e
 ·rename_i e2; cases e; exact e2
 ·cases e
noncomputable def oIx:O2:=fun x y h=>match x,y with
 | .tup ds,.int i=>(atI ds i).map fun d=>(d,h)
 | .lst n,.int i=>(qat h n).bind fun ds=>(atI ds i).map fun d=>(d,h)
 | _,_=>none
@[simp] theorem qcQ (ds:List D) (i:Int) (h:Hh):oIx (.tup ds) (.int i) h=(atI ds i).map fun d=>(d,h):=rfl
theorem qaB {n:Nat}{ds:List D}{h:Hh} (e:h[n]?=some (.lst ds)) (i:Int):oIx (.lst n) (.int i) h=(atI ds i).map fun d=>(d,h):=by
 show (qat h n).bind _=_
 rw [qaH e]
 rfl
theorem Pd.atI {α β:Type}{F:α->β->Prop}{xs:List α}{us:List β}{i:Int}{x:α} (r:Paired F xs us) (e:atI xs i=some x):∃ u,L2.atI us i=some u/\F x u:=by
 unfold L2.atI at e |-
 rw [<-r.length]
 cases q:ixN xs.length i with
 | none=>rw [q] at e; cases e
 | some j=>
  rw [q] at e
  exact Pd.get r e
theorem im_ix {K:PySem.W.Frag}:Im2 K (rIx K) oIx:=by
 intro as H h x y v u Q rh rx ry p
 cases x with
 | tup ds=>
  cases y with
  | int i=>
   cases ry
   obtain⟨a,vs,rfl,ha,rvs⟩:=rx.tup_inv
   rw [qcQ] at p
   cases e:L2.atI ds i with
   | none=>rw [e] at p; exact p.elim
   | some d=>
    rw [e] at p
    obtain⟨w,hw,rw'⟩:=Pd.atI rvs e
    exact .inr (.inl ⟨a,vs,i,w,rfl,rfl,SqT.of ha,hw,p as H w (Ext.refl _ _) rh rw'⟩)
  | _=>exact p.elim
 | lst n=>
  cases y with
  | int i=>
   cases ry
   cases rx with
   | @lst _ a ha=>
    have p':PQ K as H ((qat h n).bind fun ds=>(L2.atI ds i).map fun d=>(d,h)) Q:=p
    cases e0:qat h n with
    | none=>rw [e0] at p'; exact p'.elim
    | some ds=>
     rw [e0] at p'
     obtain⟨vs,hv,rvs⟩:=rh.obj n a _ ha (qav e0)
     cases e:L2.atI ds i with
     | none=>simp only [yN,e] at p'; exact p'.elim
     | some d=>
      simp only [yN,e] at p'
      obtain⟨w,hw,rw'⟩:=Pd.atI rvs e
      exact .inl ⟨a,vs,i,w,rfl,rfl,SqL.of hv,hw,p' as H w (Ext.refl _ _) rh rw'⟩
  | _=>exact p.elim
 | _=>exact p.elim
theorem qai {X:Cx}{a b:Expr}{f g:FE}{pos:Pos} (ha:DE X a f) (hb:DE X b g) (hs:qlj b:=by exact fun _ _=>rfl):DE X (.Subscript a b pos) (f2 oIx f g):=peOf (pe_ix qoQ ha hb hs) (qic im_ix)
noncomputable abbrev FO:=En->Hh->Res (Option Int)
noncomputable def tO (X:Cx) (f:FO):TO:=fun σ H Q=>∃ as env h,RelE X.K as H env σ/\RelH X.K as H h/\PX X as H env (f env h) fun _ H' _ o=>Q o H'
abbrev DO (X:Cx) (e:Option Expr) (f:FO):Prop:=PO X e (tO X f)
noncomputable def qar:FO:=fun _ h=>.ok none h
noncomputable def qmn (d:D) (h:Hh):Res (Option Int):=match d with
 | .int i=>.ok (some i) h
 | _=>.bad
@[simp] theorem qbC (i:Int) (h:Hh):qmn (.int i) h=.ok (some i) h:=rfl
noncomputable def qaJ (f:FE):FO:=fun env h=>(f env h).bind qmn
theorem qbj {X:Cx}:DO X none qar:=fun pins s σ H Q I q9=>by obtain⟨as,env,h,re,rh,p⟩:=q9; exact qm2 pins s σ H Q I (p as H (Ext.refl _ _) rh)
theorem qbe {X:Cx}{e:Expr}{f:FE} (he:DE X e f):DO X (some e) (qaJ f):=fun pins s σ H Q I q9=>by obtain⟨as,env,h,re,rh,p⟩:=q9; exact qm1 he pins s σ H Q I ⟨as,env,h,re,rh,(PX.bind p).imp fun as1 H1 h1 d e1 rh1 p1 v rv=>by
 cases d with
 | int i=>cases rv; exact⟨i,rfl,p1 as1 H1 (Ext.refl _ _) rh1⟩
 | _=>exact p1.elim⟩
noncomputable def cutD {α:Type} (xs:List α) (lo hi:Option Int):List α:=(xs.drop (HT.sIx xs.length 0 lo)).take (HT.sIx xs.length xs.length hi - HT.sIx xs.length 0 lo)
theorem Pd.cut {α:Type}{F:α->V->Prop}{xs:List α}{us:List V} (r:Paired F xs us) (lo hi:Option Int):Paired F (cutD xs lo hi) (cutV us lo hi):=by
 unfold cutD cutV
 rw [r.length]
 exact Pd.take _ (Pd.drop _ r)
noncomputable def oSl (x:D) (lo hi:Option Int) (h:Hh):Option (D×Hh):=match x with
 | .tup ds=>some (.tup (cutD ds lo hi),h)
 | .lst n=>(qat h n).map fun ds=>(.lst h.length,h++[.lst (cutD ds lo hi)])
 | .ro ns=>some (.lst h.length,h++[.lst (cutD (ns.map D.int) lo hi)])
 | .str z=>if z.length<=sizeLine then some (.str (Txt.slice z lo hi),h) else none
 | _=>none
@[simp] theorem qdZ (ds:List D) (lo hi:Option Int) (h:Hh):oSl (.tup ds) lo hi h=some (.tup (cutD ds lo hi),h):=rfl
theorem qeA {n:Nat}{ds:List D}{h:Hh} (e:h[n]?=some (.lst ds)) (lo hi:Option Int):oSl (.lst n) lo hi h=some (.lst h.length,h++[.lst (cutD ds lo hi)]):=by
 show (qat h n).map _=_
 rw [qaH e]
 rfl
theorem qnh {z:Str} (lo hi:Option Int) (h:Hh) (c:z.length<=sizeLine):oSl (.str z) lo hi h=some (.str (Txt.slice z lo hi),h):=if_pos c
noncomputable def fSl (f:FE) (l u:FO):FE:=fun env h=>(f env h).bind fun x h1=>(l env h1).bind fun lo h2=>(u env h2).bind fun hi h3=>.ofO (oSl x lo hi h3)
theorem qfR {K:PySem.W.Frag}{as:List Addr}{H:Hp}:∀ ns:List Int,RelDs K as H (ns.map D.int) (ns.map V.int)
 | []=>.nil
 | n::r=>.cons (.int n) (qfR r)
theorem im_sl {K:PySem.W.Frag}{as:List Addr}{H:Hp}{h:Hh}{x:D}{v:V}{lo hi:Option Int}{Q:VK} (rh:RelH K as H h) (rx:RelD K as H x v) (p:PQ K as H (oSl x lo hi h) Q):
  qn6 K v lo hi H Q\/rSlL K v lo hi H Q\/∃ z,v=.str z/\z.length<=sizeLine/\Q (.str (Txt.slice z lo hi)) H:=by
 have hw:∀ {n:Nat}{p:Addr},H p=none->(as++[p])[h.length]?=some p:=fun _=>by rw [<-rh.len]; exact xC
 cases x with
 | tup ds=>
  obtain⟨a,vs,rfl,ha,rvs⟩:=rx.tup_inv
  rw [qdZ] at p
  refine .inl ⟨a,vs,rfl,SqT.of ha,fun z=>?_,fun z q hq=>?_⟩
  ·have e:cutD ds lo hi=ds:=by
    unfold cutD
    rw [rvs.length,z.1,z.2,Nat.sub_zero,List.drop_zero,yZ (by rw [rvs.length]; exact zS _)]
   exact p as H _ (Ext.refl _ _) rh (by rw [e]; exact .tup ha rvs)
  ·exact p as _ _ (qdb hq) (rh.tup hq) (.tup qc3 (RelDs.mono (qdb hq) (Pd.cut rvs lo hi)))
 | lst n=>
  cases rx with
  | @lst _ a ha=>
   have p':PQ K as H ((qat h n).map fun ds=>(D.lst h.length,h++[.lst (cutD ds lo hi)])) Q:=p
   cases e0:qat h n with
   | none=>rw [e0] at p'; exact p'.elim
   | some ds=>
    rw [e0] at p'
    obtain⟨vs,hv,rvs⟩:=rh.obj n a _ ha (qav e0)
    exact .inr (.inl ⟨a,vs,rfl,SqL.of hv,fun q hq=>p' (as++[q]) _ _ (qdB hq) (rh.newL hq (Pd.cut rvs lo hi)) (.lst (hw (n:=0) hq))⟩)
 | ro ns=>
  cases rx with
  | @ro _ a ha=>
   exact .inr (.inl ⟨a,_,rfl,ha.sq,fun q hq=>p (as++[q]) _ _ (qdB hq) (rh.newL hq (Pd.cut (qfR ns) lo hi)) (.lst (hw (n:=0) hq))⟩)
 | str z=>
  cases rx
  have p':PQ K as H (if z.length<=sizeLine then some (.str (Txt.slice z lo hi),h) else none) Q:=p
  by_cases c:z.length<=sizeLine
  ·rw [if_pos c] at p'
   exact .inr (.inr ⟨z,rfl,c,p' as H _ (Ext.refl _ _) rh (.str _)⟩)
  ·rw [if_neg c] at p'
   exact p'.elim
 | _=>exact p.elim
theorem qa2 {X:Cx}{e:Expr}{lo hi:Option Expr}{f:FE}{l u:FO}{pos p2:Pos} (he:DE X e f) (hl:DO X lo l) (hu:DO X hi u):DE X (.Subscript e (.Slice lo hi none p2) pos) (fSl f l u):=
 peOf (qlJ (sl_tupA.or (sl_list.or qn3)) he hl hu) fun σ H Q q9=>by obtain⟨as,env,h,re,rh,p⟩:=q9; exact⟨as,env,h,re,rh,(PX.bind p).imp fun as1 H1 h1 x e1 rh1 p1 v rv=>
  ⟨as1,env,h1,re.mono e1,rh1,(PX.bind p1).imp fun as2 H2 h2 lo e2 rh2 p2=>⟨as2,env,h2,(re.mono e1).mono e2,rh2,(PX.bind p2).imp fun as3 H3 h3 hi e3 rh3 p3=>im_sl rh3 ((rv.mono e2).mono e3) p3.pq⟩⟩⟩
noncomputable def oLen:OC:=fun ds h=>match ds with
 | [.tup xs]=>some (.int xs.length,h)
 | [.lst n]=>(qat h n).map fun xs=>(.int xs.length,h)
 | _=>none
@[simp] theorem qcJ (xs:List D) (h:Hh):oLen [.tup xs] h=some (.int xs.length,h):=rfl
theorem qbo {n:Nat}{ds:List D}{h:Hh} (e:h[n]?=some (.lst ds)):oLen [.lst n] h=some (.int ds.length,h):=by
 show (qat h n).map _=_
 rw [qaH e]
 rfl
theorem RelDs.one {K:PySem.W.Frag}{as:List Addr}{H:Hp}{d:D}{vs:List V} (r:RelDs K as H [d] vs):∃ v,vs=[v]/\RelD K as H d v:=by
 cases r with
 | cons r1 r2=>cases r2; exact⟨_,rfl,r1⟩
theorem RelDs.two {K:PySem.W.Frag}{as:List Addr}{H:Hp}{d e:D}{vs:List V} (r:RelDs K as H [d,e] vs):∃ v u,vs=[v,u]/\RelD K as H d v/\RelD K as H e u:=by
 cases r with
 | cons r1 r2=>
  obtain⟨u,rfl,r3⟩:=RelDs.one r2
  exact⟨_,_,rfl,r1,r3⟩
noncomputable def qdn (d:D) (h:Hh):Option (List D):=match d with
 | .tup xs=>some xs
 | .lst n=>qat h n
 | _=>none
theorem qjE {K:PySem.W.Frag}{as:List Addr}{H:Hp}{h:Hh}{d:D}{v:V}{xs:List D} (rh:RelH K as H h) (r:RelD K as H d v) (e:qdn d h=some xs):
  ∃ a vs,v=.ref a/\RelDs K as H xs vs/\((∃ n,d=.lst n/\H a=some (.lst vs))\/(d=.tup xs/\H a=some (.tup vs))):=by
 cases d with
 | tup ys=>
  cases e
  obtain⟨a,vs,rfl,ha,rv⟩:=r.tup_inv
  exact⟨a,vs,rfl,rv,.inr ⟨rfl,ha⟩⟩
 | lst n=>
  cases r with
  | @lst _ a ha=>
   obtain⟨vs,hv,rv⟩:=rh.obj n a _ ha (qav e)
   exact⟨a,vs,rfl,rv,.inl ⟨n,rfl,hv⟩⟩
 | _=>cases e
theorem qie {K:PySem.W.Frag}{as:List Addr}{H:Hp}{h:Hh}{d:D}{v:V}{xs:List D} (rh:RelH K as H h) (r:RelD K as H d v) (e:qdn d h=some xs):
  ∃ a vs,v=.ref a/\RelDs K as H xs vs/\(SqL K H a vs\/SqT K H a vs):=by
 obtain⟨a,vs,h1,h2,h3⟩:=qjE rh r e
 rcases h3 with⟨n,_,z⟩ | ⟨_,z⟩
 ·exact⟨a,vs,h1,h2,.inl (SqL.of z)⟩
 ·exact⟨a,vs,h1,h2,.inr (SqT.of z)⟩
theorem qlR (d:D) (h:Hh):oLen [d] h=(qdn d h).map fun xs=>(.int xs.length,h):=by
 cases d<;>rfl
theorem qoY {K:PySem.W.Frag}:ImC K (fun xs H Q=>∃ p ys,xs=[.ref p]/\(SqL K H p ys\/SqT K H p ys)/\Q (.int ys.length) H) oLen:=by
 intro as H h ds vs Q rh rd p
 match ds,rd,p with
 | [],_,p=>exact p.elim
 | [d],rd,p=>
  rw [qlR] at p
  obtain⟨v,rfl,rv⟩:=rd.one
  cases e:qdn d h with
  | none=>rw [e] at p; exact p.elim
  | some xs=>
   rw [e] at p
   obtain⟨a,ws,rfl,rw',hs⟩:=qie rh rv e
   refine⟨a,ws,rfl,hs,?_⟩
   have q:=p as H (.int xs.length) (Ext.refl _ _) rh (.int _)
   rw [rw'.length] at q
   exact q
 | d::e::r,_,p=>
  cases d<;>exact p.elim
noncomputable def qgy:List D->Option (List Int)
 | []=>some []
 | .int i::r=>(qgy r).map (i::·)
 | _=>none
theorem qit:∀ (ds:List D) (ns:List Int),qgy ds=some ns->ds=ns.map D.int
 | [],ns,e=>by cases e; rfl
 | .int i::r,ns,e=>by
  obtain⟨ms,e1,rfl⟩:=yB.mp e
  rw [qit r ms e1]
  rfl
 | .non::_,_,e=>nomatch e
 | .bl _::_,_,e=>nomatch e
 | .str _::_,_,e=>nomatch e
 | .tup _::_,_,e=>nomatch e
 | .lst _::_,_,e=>nomatch e
 | .ro _::_,_,e=>nomatch e
@[simp] theorem qhn:∀ ns:List Int,qgy (ns.map D.int)=some ns
 | []=>rfl
 | n::r=>by
  show (qgy (r.map D.int)).map (n::·)=_
  rw [qhn r]
  rfl
theorem qdO {K:PySem.W.Frag}{as:List Addr}{H:Hp}:∀ (ns:List Int) (vs:List V),RelDs K as H (ns.map D.int) vs->vs=ns.map V.int
 | [],_,r=>by cases r; rfl
 | n::r,_,q=>by
  cases q with
  | cons q1 q2=>cases q1; rw [qdO r _ q2]; rfl
noncomputable def oSum:OC:=fun ds h=>match ds with
 | [.lst n]=>(qat h n).bind fun xs=>(qgy xs).map fun ns=>(.int ns.sum,h)
 | _=>none
theorem qlN {n:Nat}{ds:List D}{ns:List Int}{h:Hh} (e:h[n]?=some (.lst ds)) (e2:qgy ds=some ns):oSum [.lst n] h=some (.int ns.sum,h):=by
 show (qat h n).bind _=_
 rw [qaH e]
 show (qgy ds).map _=_
 rw [e2]
 rfl
theorem qoU {K:PySem.W.Frag}:ImC K (fun xs H Q=>∃ (p:Addr) (ns:List Int),xs=[.ref p]/\SqL K H p (ns.map V.int)/\Q (.int ns.sum) H) oSum:=by
 intro as H h ds vs Q rh rd p
 match ds,rd,p with
 | [.lst n],rd,p=>
  obtain⟨v,rfl,rv⟩:=rd.one
  cases rv with
  | @lst _ a ha=>
   have p':PQ K as H ((qat h n).bind fun xs=>(qgy xs).map fun ns=>(D.int ns.sum,h)) Q:=p
   cases e:qat h n with
   | none=>rw [e] at p'; exact p'.elim
   | some xs=>
    rw [e,yN] at p'
    cases e2:qgy xs with
    | none=>rw [e2] at p'; exact p'.elim
    | some ns=>
     rw [e2] at p'
     obtain⟨ws,hw,rw'⟩:=rh.obj n a _ ha (qav e)
     rw [qit xs ns e2] at rw'
     have:=qdO ns ws rw'
     subst this
     exact⟨a,ns,rfl,SqL.of hw,p' as H _ (Ext.refl _ _) rh (.int _)⟩
 | [],_,p=>exact p.elim
 | [.non],_,p=>exact p.elim
 | [.bl _],_,p=>exact p.elim
 | [.int _],_,p=>exact p.elim
 | [.str _],_,p=>exact p.elim
 | [.tup _],_,p=>exact p.elim
 | [.ro _],_,p=>exact p.elim
 | d::e::r,_,p=>cases d<;>exact p.elim
noncomputable def oTuple:OC:=fun ds h=>match ds with
 | [d]=>(qdn d h).map fun xs=>(.tup xs,h)
 | _=>none
noncomputable def qgq:OC:=fun ds h=>match ds with
 | [d]=>(qdn d h).map fun xs=>(.lst h.length,h++[.lst xs])
 | _=>none
theorem qnm {K:PySem.W.Frag}:ImC K (fun xs H Q=>∃ p ys,xs=[.ref p]/\(SqL K H p ys\/SqT K H p ys)/\∀ l,H l=none->Q (.ref l) (upd H l (.lst ys))) qgq:=by
 intro as H h ds vs Q rh rd p
 match ds,rd,p with
 | [],_,p=>exact p.elim
 | [d],rd,p=>
  have p':PQ K as H ((qdn d h).map fun xs=>(D.lst h.length,h++[.lst xs])) Q:=p
  obtain⟨v,rfl,rv⟩:=rd.one
  cases e:qdn d h with
  | none=>rw [e] at p'; exact p'.elim
  | some xs=>
   rw [e] at p'
   obtain⟨a,ws,rfl,rw',hs⟩:=qie rh rv e
   exact⟨a,ws,rfl,hs,fun l hl=>p' (as++[l]) _ _ (qdB hl) (rh.newL hl rw') (.lst (by rw [<-rh.len]; exact xC))⟩
 | _::_::_,_,p=>exact p.elim
noncomputable def oMin:OC:=fun ds h=>match ds with
 | [.int i,.int j]=>some (.int (if j < i then j else i),h)
 | _=>none
noncomputable def oMax:OC:=fun ds h=>match ds with
 | [.int i,.int j]=>some (.int (if j > i then j else i),h)
 | _=>none
@[simp] theorem oMin_int (i j:Int) (h:Hh):oMin [.int i,.int j] h=some (.int (if j < i then j else i),h):=rfl
@[simp] theorem qlQ (i j:Int) (h:Hh):oMax [.int i,.int j] h=some (.int (if j > i then j else i),h):=rfl
theorem qoX {K:PySem.W.Frag}:ImC K (fun xs H Q=>∃ i j,xs=[.int i,.int j]/\Q (.int (if j > i then j else i)) H) oMax:=by
 intro as H h ds vs Q rh rd p
 unfold oMax at p
 split at p
 ·obtain⟨v,u,rfl,r1,r2⟩:=rd.two
  cases r1
  cases r2
  exact⟨_,_,rfl,p as H _ (Ext.refl _ _) rh (.int _)⟩
 ·exact p.elim
noncomputable def oStr:OC:=fun ds h=>match ds with
 | [.int i]=>if i.natAbs.log2 < 1920 then some (.str (toString i),h) else none
 | _=>none
theorem qlO {i:Int} (h:Hh) (c:i.natAbs.log2 < 1920):oStr [.int i] h=some (.str (toString i),h):=if_pos c
theorem qoV {K:PySem.W.Frag}:ImC K (fun xs H Q=>∃ i,xs=[.int i]/\i.natAbs.log2 < 1920/\Q (.str (toString i)) H) oStr:=by
 intro as H h ds vs Q rh rd p
 unfold oStr at p
 split at p
 ·obtain⟨v,rfl,r1⟩:=rd.one
  cases r1
  split at p
  ·rename_i c
   exact⟨_,rfl,c,p as H _ (Ext.refl _ _) rh (.str _)⟩
  ·exact p.elim
 ·exact p.elim
section
variable {X:Cx}{p pos:Pos}{e:Expr}{es:List Expr}{fs:List FE}
theorem qaY (hm:X.mg "len"=none) (ha:DA X (e::es) (fAll fs)) (hg:Gl X "len":=by rfl) (he:starEach (e::es) X.env=(false,eval e X.env)::starEach es X.env:=by rfl) (hpl:(backTo pos (starEach es X.env)).any (·.1)=false:=by rfl):
  DE X (.Call (.Name "len" p) (e::es) [] pos) (fc oLen (fAll fs)):=qgN qhD qoY hg hm PySem.boot_len ha (by decide) (by decide) he hpl
theorem qo7 (hm:X.mg "sum"=none) (hcalm:X.calm=true) (ha:DA X (e::es) (fAll fs)) (hg:Gl X "sum":=by rfl) (he:starEach (e::es) X.env=(false,eval e X.env)::starEach es X.env:=by rfl) (hpl:(backTo pos (starEach es X.env)).any (·.1)=false:=by rfl):
  DE X (.Call (.Name "sum" p) (e::es) [] pos) (fc oSum (fAll fs)):=qgN (qk9 hcalm) qoU hg hm boot_sum ha (by decide) (by decide) he hpl
theorem qo9 (hm:X.mg "max"=none) (hcalm:X.calm=true) (ha:DA X (e::es) (fAll fs)) (hg:Gl X "max":=by rfl) (he:starEach (e::es) X.env=(false,eval e X.env)::starEach es X.env:=by rfl) (hpl:(backTo pos (starEach es X.env)).any (·.1)=false:=by rfl):
  DE X (.Call (.Name "max" p) (e::es) [] pos) (fc oMax (fAll fs)):=qgN (qla hcalm) qoX hg hm boot_max ha (by decide) (by decide) he hpl
theorem qk1 (hm:X.mg "list"=none) (ha:DA X (e::es) (fAll fs)) (hg:Gl X "list":=by rfl) (he:starEach (e::es) X.env=(false,eval e X.env)::starEach es X.env:=by rfl) (hpl:(backTo pos (starEach es X.env)).any (·.1)=false:=by rfl):
  DE X (.Call (.Name "list" p) (e::es) [] pos) (fc qgq (fAll fs)):=qhx qhC qnm hg hm (by decide +kernel) ha (by decide) (by decide) he hpl
theorem qnB (hm:X.mg "str"=none) (ha:DA X (e::es) (fAll fs)) (hg:Gl X "str":=by rfl) (he:starEach (e::es) X.env=(false,eval e X.env)::starEach es X.env:=by rfl) (hpl:(backTo pos (starEach es X.env)).any (·.1)=false:=by rfl):
  DE X (.Call (.Name "str" p) (e::es) [] pos) (fc oStr (fAll fs)):=qhx qhB qoV hg hm (by decide +kernel) ha (by decide) (by decide) he hpl
end
noncomputable abbrev OM:=D->List D->Hh->Option (D×Hh)
def ImM (K:PySem.W.Frag) (rm:V->List V->Hp->VK->Prop) (r:OM):Prop:=∀ as H h x ds v vs Q,RelH K as H h->RelD K as H x v->RelDs K as H ds vs->PQ K as H (r x ds h) Q->rm v vs H Q
noncomputable def qhZ (x:D) (h:Hh):Bool:=match x with
 | .lst n=>(qat h n).isSome
 | _=>false
noncomputable def fM (r:OM) (f:FE) (fs:List FE):FE:=fun env h=>(f env h).bind fun x h1=>if qhZ x h1=true then (fAll fs env h1).bind fun ds h2=>.ofO (r x ds h2) else .bad
theorem qjn {K:PySem.W.Frag}{as:List Addr}{H:Hp}{h:Hh}{x:D}{v:V} (rh:RelH K as H h) (rx:RelD K as H x v) (e:qhZ x h=true):tyV K "list" v H:=by
 cases x with
 | lst n=>
  cases rx with
  | @lst _ a ha=>
   obtain⟨ds,e1⟩:=Option.isSome_iff_exists.mp (show (qat h n).isSome=true from e)
   obtain⟨vs,hv,_⟩:=rh.obj n a _ ha (qav e1)
   exact .inl ⟨rfl,vs,SqL.of hv⟩
 | _=>cases e
section
variable {X:Cx}{o e:Expr}{es:List Expr}{f:FE}{fs:List FE}{name:Str}{apos cpos:Pos}{id:String}{rm:V->List V->Hp->VK->Prop}{r:OM}
theorem qgL (slot:Slot "list" name id) (hty:typeOf (.builtin id)=pure (.type "method_descriptor")) (hm:MtR X id rm) (im:ImM X.K rm r) (ho:DE X o f) (ha:DA X (e::es) (fAll fs))
  (hbase:attributeBase o name X.env (eval o X.env)=eval o X.env:=by rfl)
  (hfew:((backTo cpos (starEach (e::es) X.env)).all (fun x=>!x.1)&&(backToKw cpos (keywordEach [] X.env)).all (fun x=>x.1.isSome)
   && decide ((e::es).length+([]:List Keyword).length+(if ([]:List Keyword).isEmpty then 0 else 1) < 30))=true:=by rfl)
  (hline:(apos.endLine==cpos.line)=true:=by rfl) (hs:starEach (e::es) X.env=(false,eval e X.env)::starEach es X.env:=by rfl) (hplain:(backTo cpos (starEach es X.env)).any (·.1)=false:=by rfl):
  DE X (.Call (.Attribute o name apos) (e::es) [] cpos) (fM r f fs):=
 peOf (pe_bm F.plainAttrs_list slot hty hm ho ha hbase hfew hline hs hplain) fun σ H Q q9=>by obtain⟨as,env,h,re,rh,p⟩:=q9; exact⟨as,env,h,re,rh,(PX.bind p).imp fun as1 H1 h1 x e1 rh1 p1 v rv=>by
  by_cases c:qhZ x h1=true
  ·rw [if_pos c] at p1
   exact⟨qjn rh1 rv c,as1,env,h1,re.mono e1,rh1,(PX.bind p1).imp fun as2 H2 h2 ds e2 rh2 p2 vs rvs=>im as2 H2 h2 x ds v vs Q rh2 (rv.mono e2) rvs p2.pq⟩
  ·rw [if_neg c] at p1
   exact p1.elim⟩
theorem ql8 (slot:Slot "list" name id) (hty:typeOf (.builtin id)=pure (.type "method_descriptor")) (hm:MtR X id rm) (im:ImM X.K rm r) (ho:DE X o f)
  (hbase:attributeBase o name X.env (eval o X.env)=eval o X.env:=by rfl) (hline:(apos.endLine==cpos.line)=true:=by rfl):DE X (.Call (.Attribute o name apos) [] [] cpos) (fM r f []):=
 peOf (qot F.plainAttrs_list slot hty hm ho hbase hline) fun σ H Q q9=>by obtain⟨as,env,h,re,rh,p⟩:=q9; exact⟨as,env,h,re,rh,(PX.bind p).imp fun as1 H1 h1 x e1 rh1 p1 v rv=>by
  by_cases c:qhZ x h1=true
  ·rw [if_pos c] at p1
   exact⟨qjn rh1 rv c,im as1 H1 h1 x [] v [] Q rh1 rv .nil (PX.pq (env:=env) p1)⟩
  ·rw [if_neg c] at p1
   exact p1.elim⟩
end
noncomputable def qa0:OM:=fun x ds h=>match x,ds with
 | .lst n,[d]=>(qat h n).bind fun xs=>if xs.length < sizeLine then some (.non,h.set n (.lst (xs++[d]))) else none
 | _,_=>none
noncomputable def qc8:OM:=fun x ds h=>match x,ds with
 | .lst n,[.lst m]=>(qat h n).bind fun xs=>(qat h m).bind fun ys=>if xs.length+ys.length<=sizeLine then some (.non,h.set n (.lst (xs++ys))) else none
 | _,_=>none
noncomputable def oPop:OM:=fun x ds h=>match x,ds with
 | .lst n,[]=>(qat h n).bind fun xs=>(xs[xs.length - 1]?).map fun d=>(d,h.set n (.lst xs.dropLast))
 | _,_=>none
noncomputable def qbP:OM:=fun x ds h=>match x,ds with
 | .lst n,[.int i]=>(qat h n).bind fun xs=>if -(2 ^ 63)<=i/\i < 2 ^ 63 then (seqIndex? i xs.length).bind fun k=>(xs[k]?).map fun d=>(d,h.set n (.lst (xs.eraseIdx k))) else none
 | _,_=>none
noncomputable def qbr:OM:=fun x ds h=>match x,ds with
 | .lst n,[.int i,d]=>(qat h n).bind fun xs=>if (-(2 ^ 63)<=i/\i < 2 ^ 63)/\xs.length < sizeLine then some (.non,h.set n (.lst (insV xs i d))) else none
 | _,_=>none
theorem qfo {n:Nat}{xs:List D}{h:Hh} (d:D) (e:h[n]?=some (.lst xs)) (c:xs.length < sizeLine):qa0 (.lst n) [d] h=some (.non,h.set n (.lst (xs++[d]))):=by
 show (qat h n).bind _=_
 rw [qaH e,yN,if_pos c]
theorem qhV {n m:Nat}{xs ys:List D}{h:Hh} (e:h[n]?=some (.lst xs)) (e2:h[m]?=some (.lst ys)) (c:xs.length+ys.length<=sizeLine):qc8 (.lst n) [.lst m] h=some (.non,h.set n (.lst (xs++ys))):=by
 show (qat h n).bind _=_
 rw [qaH e,yN,qaH e2,yN,if_pos c]
theorem qeZ {n:Nat}{xs:List D}{h:Hh}{d:D} (e:h[n]?=some (.lst (xs++[d]))):oPop (.lst n) [] h=some (d,h.set n (.lst xs)):=by
 show (qat h n).bind _=_
 rw [qaH e,yN]
 simp
theorem qi3 {n:Nat}{xs:List D}{h:Hh}{d:D}{i:Int}{k:Nat} (e:h[n]?=some (.lst xs)) (c:-(2 ^ 63)<=i/\i < 2 ^ 63) (e2:seqIndex? i xs.length=some k) (e3:xs[k]?=some d):
  qbP (.lst n) [.int i] h=some (d,h.set n (.lst (xs.eraseIdx k))):=by
 show (qat h n).bind _=_
 rw [qaH e,yN,if_pos c,e2,yN,e3]
 rfl
theorem qc7 {n:Nat}{xs:List D}{h:Hh}{i:Int} (d:D) (e:h[n]?=some (.lst xs)) (c:(-(2 ^ 63)<=i/\i < 2 ^ 63)/\xs.length < sizeLine):qbr (.lst n) [.int i,d] h=some (.non,h.set n (.lst (insV xs i d))):=by
 show (qat h n).bind _=_
 rw [qaH e,yN,if_pos c]
theorem Pd.ins {α β:Type}{F:α->β->Prop}{xs:List α}{us:List β} (r:Paired F xs us) (i:Int) {x:α}{u:β} (q:F x u):Paired F (insV xs i x) (insV us i u):=by
 unfold insV
 rw [r.length]
 exact Pd.app (Pd.take _ r) (.cons q (Pd.drop _ r))
section
variable {K:PySem.W.Frag}
theorem qkC:ImM K qjV qa0:=by
 intro as H h x ds v vs Q rh rx rd p
 unfold qa0 at p
 split at p
 ·rename_i n d
  cases rx with
  | @lst _ a ha=>
   obtain⟨u,rfl,ru⟩:=rd.one
   cases e:qat h n with
   | none=>rw [e] at p; exact p.elim
   | some xs=>
    rw [e,yN] at p
    obtain⟨ws,hw,rw'⟩:=rh.obj n a _ ha (qav e)
    by_cases c:xs.length < sizeLine
    ·rw [if_pos c] at p
     exact⟨a,ws,u,rfl,rfl,hw,by rw [<-rw'.length]; exact c,p as _ _ (qdc rh ha (qav e)) (rh.setL ha (qav e) (Pd.app rw' (.cons ru .nil))) .non⟩
    ·rw [if_neg c] at p
     exact p.elim
 ·exact p.elim
theorem qkB:ImM K qjU qc8:=by
 intro as H h x ds v vs Q rh rx rd p
 unfold qc8 at p
 split at p
 ·rename_i n m
  cases rx with
  | @lst _ a ha=>
   obtain⟨u,rfl,ru⟩:=rd.one
   cases ru with
   | @lst _ b hb=>
    cases e:qat h n with
    | none=>rw [e] at p; exact p.elim
    | some xs=>
     rw [e,yN] at p
     cases e2:qat h m with
     | none=>rw [e2] at p; exact p.elim
     | some ys=>
      rw [e2,yN] at p
      obtain⟨ws,hw,rw'⟩:=rh.obj n a _ ha (qav e)
      obtain⟨zs,hz,rz⟩:=rh.obj m b _ hb (qav e2)
      by_cases c:xs.length+ys.length<=sizeLine
      ·rw [if_pos c] at p
       exact⟨a,b,ws,zs,rfl,rfl,hw,hz,by rw [<-rw'.length,<-rz.length]; exact c,p as _ _ (qdc rh ha (qav e)) (rh.setL ha (qav e) (Pd.app rw' rz)) .non⟩
      ·rw [if_neg c] at p
       exact p.elim
 ·exact p.elim
theorem qoW:ImM K rPop oPop:=by
 intro as H h x ds v vs Q rh rx rd p
 unfold oPop at p
 split at p
 ·rename_i n
  cases rx with
  | @lst _ a ha=>
   cases rd
   cases e:qat h n with
   | none=>rw [e] at p; exact p.elim
   | some xs=>
    rw [e,yN] at p
    obtain⟨ws,hw,rw'⟩:=rh.obj n a _ ha (qav e)
    cases e2:xs[xs.length - 1]? with
    | none=>rw [e2] at p; exact p.elim
    | some d=>
     rw [e2] at p
     obtain⟨u,hu,ru⟩:=Pd.get rw' e2
     have ex:=qdc (vs:=ws.dropLast) rh ha (qav e)
     exact⟨a,ws,u,rfl,rfl,hw,by rw [<-rw'.length]; exact hu,p as _ _ ex (rh.setL ha (qav e) (Pd.dropLast rw')) (ru.mono ex)⟩
 ·exact p.elim
theorem ql0:ImM K qml qbP:=by
 intro as H h x ds v vs Q rh rx rd p
 unfold qbP at p
 split at p
 ·rename_i n i
  cases rx with
  | @lst _ a ha=>
   obtain⟨u,rfl,ru⟩:=rd.one
   cases ru
   cases e:qat h n with
   | none=>rw [e] at p; exact p.elim
   | some xs=>
    rw [e,yN] at p
    obtain⟨ws,hw,rw'⟩:=rh.obj n a _ ha (qav e)
    by_cases c:-(2 ^ 63)<=i/\i < 2 ^ 63
    ·rw [if_pos c] at p
     cases e3:seqIndex? i xs.length with
     | none=>rw [e3] at p; exact p.elim
     | some k=>
      rw [e3,yN] at p
      cases e2:xs[k]? with
      | none=>rw [e2] at p; exact p.elim
      | some d=>
       rw [e2] at p
       obtain⟨u,hu,ru⟩:=Pd.get rw' e2
       have ex:=qdc (vs:=ws.eraseIdx k) rh ha (qav e)
       exact⟨a,ws,i,k,u,rfl,rfl,hw,c.1,c.2,by rw [<-rw'.length]; exact e3,hu,p as _ _ ex (rh.setL ha (qav e) (Pd.erase k rw')) (ru.mono ex)⟩
    ·rw [if_neg c] at p
     exact p.elim
 ·exact p.elim
theorem qkA:ImM K qjT qbr:=by
 intro as H h x ds v vs Q rh rx rd p
 unfold qbr at p
 split at p
 ·rename_i n i d
  cases rx with
  | @lst _ a ha=>
   obtain⟨u,w,rfl,ru,rw2⟩:=rd.two
   cases ru
   cases e:qat h n with
   | none=>rw [e] at p; exact p.elim
   | some xs=>
    rw [e,yN] at p
    obtain⟨ws,hw,rw'⟩:=rh.obj n a _ ha (qav e)
    by_cases c:(-(2 ^ 63)<=i/\i < 2 ^ 63)/\xs.length < sizeLine
    ·rw [if_pos c] at p
     exact⟨a,ws,i,w,rfl,rfl,hw,c.1.1,c.1.2,by rw [<-rw'.length]; exact c.2,p as _ _ (qdc rh ha (qav e)) (rh.setL ha (qav e) (Pd.ins rw' i rw2)) .non⟩
    ·rw [if_neg c] at p
     exact p.elim
 ·exact p.elim
end
section
variable {X:Cx}{o e:Expr}{es:List Expr}{f:FE}{fs:List FE}{apos cpos:Pos}
theorem qbS (ho:DE X o f) (ha:DA X [e] (fAll fs)) (hbase:attributeBase o "append" X.env (eval o X.env)=eval o X.env:=by rfl)
  (hfew:((backTo cpos (starEach [e] X.env)).all (fun x=>!x.1)&&(backToKw cpos (keywordEach [] X.env)).all (fun x=>x.1.isSome)&&decide (([e]:List Expr).length+([]:List Keyword).length+(if ([]:List Keyword).isEmpty then 0 else 1) < 30))=true:=by rfl)
  (hline:(apos.endLine==cpos.line)=true:=by rfl) (hs:starEach [e] X.env=(false,eval e X.env)::starEach [] X.env:=by rfl) (hplain:(backTo cpos (starEach [] X.env)).any (·.1)=false:=by rfl):
  DE X (.Call (.Attribute o "append" apos) [e] [] cpos) (fM qa0 f fs):=qgL F.slot_list_append F.type_list_append qhg qkC ho ha hbase hfew hline hs hplain
theorem qhw (ho:DE X o f) (ha:DA X [e] (fAll fs)) (hbase:attributeBase o "extend" X.env (eval o X.env)=eval o X.env:=by rfl)
  (hfew:((backTo cpos (starEach [e] X.env)).all (fun x=>!x.1)&&(backToKw cpos (keywordEach [] X.env)).all (fun x=>x.1.isSome)&&decide (([e]:List Expr).length+([]:List Keyword).length+(if ([]:List Keyword).isEmpty then 0 else 1) < 30))=true:=by rfl)
  (hline:(apos.endLine==cpos.line)=true:=by rfl) (hs:starEach [e] X.env=(false,eval e X.env)::starEach [] X.env:=by rfl) (hplain:(backTo cpos (starEach [] X.env)).any (·.1)=false:=by rfl):
  DE X (.Call (.Attribute o "extend" apos) [e] [] cpos) (fM qc8 f fs):=qgL F.slot_list_extend F.type_list_extend qkg qkB ho ha hbase hfew hline hs hplain
theorem qep (ho:DE X o f) (ha:DA X [e] (fAll fs)) (hbase:attributeBase o "pop" X.env (eval o X.env)=eval o X.env:=by rfl)
  (hfew:((backTo cpos (starEach [e] X.env)).all (fun x=>!x.1)&&(backToKw cpos (keywordEach [] X.env)).all (fun x=>x.1.isSome)&&decide (([e]:List Expr).length+([]:List Keyword).length+(if ([]:List Keyword).isEmpty then 0 else 1) < 30))=true:=by rfl)
  (hline:(apos.endLine==cpos.line)=true:=by rfl) (hs:starEach [e] X.env=(false,eval e X.env)::starEach [] X.env:=by rfl) (hplain:(backTo cpos (starEach [] X.env)).any (·.1)=false:=by rfl):
  DE X (.Call (.Attribute o "pop" apos) [e] [] cpos) (fM qbP f fs):=qgL F.slot_list_pop F.type_list_pop qlU ql0 ho ha hbase hfew hline hs hplain
theorem qiD (ho:DE X o f) (hbase:attributeBase o "pop" X.env (eval o X.env)=eval o X.env:=by rfl) (hline:(apos.endLine==cpos.line)=true:=by rfl):DE X (.Call (.Attribute o "pop" apos) [] [] cpos) (fM oPop f []):=
 ql8 F.slot_list_pop F.type_list_pop qoG qoW ho hbase hline
theorem qdG {e2:Expr} (ho:DE X o f) (ha:DA X [e,e2] (fAll fs)) (hbase:attributeBase o "insert" X.env (eval o X.env)=eval o X.env:=by rfl)
  (hfew:((backTo cpos (starEach [e,e2] X.env)).all (fun x=>!x.1)&&(backToKw cpos (keywordEach [] X.env)).all (fun x=>x.1.isSome)&&decide (([e,e2]:List Expr).length+([]:List Keyword).length+(if ([]:List Keyword).isEmpty then 0 else 1) < 30))=true:=by rfl)
  (hline:(apos.endLine==cpos.line)=true:=by rfl) (hs:starEach [e,e2] X.env=(false,eval e X.env)::starEach [e2] X.env:=by rfl) (hplain:(backTo cpos (starEach [e2] X.env)).any (·.1)=false:=by rfl):
  DE X (.Call (.Attribute o "insert" apos) [e,e2] [] cpos) (fM qbr f fs):=qgL F.slot_list_insert F.type_list_insert qkf qkA ho ha hbase hfew hline hs hplain
end
noncomputable def qmN (x y d:D) (h:Hh):Option Hh:=match x,y with
 | .lst n,.int k=>(qat h n).bind fun ds=>(ixN ds.length k).map fun j=>h.set n (.lst (ds.set j d))
 | _,_=>none
theorem qdm {n:Nat}{k:Int}{j:Nat}{ds:List D}{h:Hh} (d:D) (e:h[n]?=some (.lst ds)) (e2:ixN ds.length k=some j):qmN (.lst n) (.int k) d h=some (h.set n (.lst (ds.set j d))):=by
 show (qat h n).bind _=_
 rw [qaH e,yN,e2]
 rfl
noncomputable def outO (o:Option Hh) (e:En):Out:=match o with
 | some h=>.nx e h
 | none=>.bad
noncomputable def qca (f fo fi:FE):FS:=fun e h=>(f e h).out e fun d h1=>(fo e h1).out e fun x h2=>(fi e h2).out e fun y h3=>outO (qmN x y d h3) e
theorem qem {X:Cx}{o i e:Expr}{f fo fi:FE}{pos pos':Pos} (he:DE X e f) (ho:DE X o fo) (hi:DE X i fi)
  (ha:∀ v,assign (.Subscript o i pos') X.env v=(do
   let ov <-holding [v] (eval o X.env)
   let iv <-holding [v,ov] (eval i X.env)
   standAt pos'
   holding [v,ov,iv] (setItem ov iv v)
   release [v,ov,iv] []):=by intro _; rfl)
  (hs:swapsWithSole [.Subscript o i pos'] e pos.line X.env=pure false:=by rfl) (hw:swappedStores [.Subscript o i pos'] e X.env=pure none:=by rfl)
  (h1:(assignEach [.Subscript o i pos'] X.env).map (·.2)=[assign (.Subscript o i pos') X.env]:=by rfl):DS X (.Assign [.Subscript o i pos'] e pos) (qca f fo fi):=
 psOf (qjW he (qoj ho hi qlv ha) hs hw h1) fun Dn σ H q9=>by obtain⟨as,env,h,re,rh,p⟩:=q9; exact⟨as,env,h,re,rh,(PX.of_out p).imp fun as1 H1 h1 d e1 rh1 p1 v rv=>
  ⟨as1,env,h1,re.mono e1,rh1,(PX.of_out p1).imp fun as2 H2 h2 x e2 rh2 p2 u ru=>⟨as2,env,h2,(re.mono e1).mono e2,rh2,(PX.of_out p2).imp fun as3 H3 h3 y e3 rh3 p3 w rw'=>by
   have rv3:=(rv.mono e2).mono e3
   have ru3:=ru.mono e3
   have re3:=((re.mono e1).mono e2).mono e3
   unfold qmN at p3
   split at p3
   ·rename_i n k
    cases ru3 with
    | @lst _ a ha=>
     cases rw'
     cases q:qat h3 n with
     | none=>rw [q] at p3; exact p3.elim
     | some ds=>
      rw [q,yN] at p3
      obtain⟨ws,hw,rws⟩:=rh3.obj n a _ ha (qav q)
      cases q2:ixN ds.length k with
      | none=>rw [q2] at p3; exact p3.elim
      | some j=>
       rw [q2] at p3
       have ex:=qdc (vs:=ws.set j v) rh3 ha (qav q)
       exact⟨a,ws,k,j,rfl,rfl,hw,by rw [<-rws.length]; exact q2,p3 as3 _ σ ex (rh3.setL ha (qav q) (Pd.set rv3 j rws)) (re3.mono ex)⟩
   ·exact p3.elim⟩⟩⟩
noncomputable def gLst (K:PySem.W.Frag) (n:Nat) (t:TGs):TG:=fun v σ H Q=>∃ a xs,v=.ref a/\SqL K H a xs/\xs.length=n/\t xs σ H Q
theorem qok {X:Cx}{es:List Expr}{k:Nat}{t:TGs}{n:Nat}{pos:Pos} (hc:X.calm=true) (h:PGs X es t)
  (hn:(assignEach es X.env).length=n:=by rfl) (hst:(assignEach es X.env).findIdx? (·.1)=none:=by rfl):PG X (.Tuple es k pos) (gLst X.K n t):=by
 intro pins s σ H v u Q I r hw
 obtain⟨a,xs,e1,hq,hl,hw⟩:=hw
 subst e1
 cases r
 obtain⟨its,rv,pl,hz⟩:=I.list hq
 rw [assign_Tuple]
 refine wpAny_bind (wpAny_standAt ?_)
 unfold unpack
 have hn2:(assignEach es X.env).length=its.toArray.size:=by rw [hn,<-hl,rv.length,zH]
 rw [hn2,hst]
 refine wpAny_bind (wpAny_holding (PySem.W.kun_itemsOf (I.ok.hd hc) pl.isList fun h' hx=>?_))
 have I1:Inv X pins σ H { s with heap:=h' }:=I.kept (t':=s.toks) fun b o e=>hx b o (xR (yF e)) e
 exact h pins _ σ H xs _ Q I1 (by simpa using rv) hw
noncomputable def qjD (env:En):List Nat->List D->Option En
 | [],[]=>some env
 | i::is,d::ds=>qjD (env.set i (some d)) is ds
 | _,_=>none
noncomputable def fUnp (is:List Nat) (f:FE):FS:=fun e h=>(f e h).out e fun d h1=>match (qdn d h1).bind (qjD e is) with
 | some e'=>.nx e' h1
 | none=>.bad
theorem qfA {X:Cx}{x y:Str}{px py pt:Pos}{kt:Nat}{e:Expr}{f:FE}{i j:Nat}{pos:Pos} (hcalm:X.calm=true) (hN:X.N.Nodup) (he:DE X e f)
  (hi:X.N[i]?=some x:=by rfl) (hj:X.N[j]?=some y:=by rfl) (hx:Loc X.env.scope x:=by first | exact Or.inl rfl | exact Or.inr rfl) (hy:Loc X.env.scope y:=by first | exact Or.inl rfl | exact Or.inr rfl)
  (hfx:X.fn x=true\/X.env.scope.names.lookup x=some .local:=by first | exact .inl rfl | exact .inr rfl) (hfy:X.fn y=true\/X.env.scope.names.lookup y=some .local:=by first | exact .inl rfl | exact .inr rfl)
  (hn:(assignEach [.Name x px,.Name y py] X.env).length=2:=by rfl) (hst:(assignEach [.Name x px,.Name y py] X.env).findIdx? (·.1)=none:=by rfl)
  (ha1:(assignEach [.Name x px,.Name y py] X.env).map (·.2)=assign (.Name x px) X.env::(assignEach [.Name y py] X.env).map (·.2):=by rfl)
  (ha2:(assignEach [.Name y py] X.env).map (·.2)=assign (.Name y py) X.env::(assignEach [] X.env).map (·.2):=by rfl)
  (hs:swapsWithSole [.Tuple [.Name x px,.Name y py] kt pt] e pos.line X.env=pure false:=by rfl) (hw:swappedStores [.Tuple [.Name x px,.Name y py] kt pt] e X.env=pure none:=by rfl)
  (h1:(assignEach [.Tuple [.Name x px,.Name y py] kt pt] X.env).map (·.2)=[assign (.Tuple [.Name x px,.Name y py] kt pt) X.env]:=by rfl):
  DS X (.Assign [.Tuple [.Name x px,.Name y py] kt pt] e pos) (fUnp [i,j] f):=by
 have g2:PGs X [.Name x px,.Name y py] (qkH (qhp i) (qkH (qhp j) gNil)):=qin (qgh hN hi hx hfx) (qin (qgh hN hj hy hfy) qm4 ha2) ha1
 have pT:=qjW (pos:=pos) he (qoi (k:=kt) (pos:=pt) hcalm g2 hn hst) hs hw h1
 have pL:=qjW (pos:=pos) he (qok (k:=kt) (pos:=pt) hcalm g2 hn hst) hs hw h1
 rintro pins s σ H Dn I ⟨as,env,h,re,rh,p⟩
 unfold fUnp at p
 cases e1:f env h with
 | bad=>rw [e1] at p; exact p.elim
 | ex c h1=>
  refine pT pins s σ H Dn I ⟨as,env,h,re,rh,?_⟩
  rw [e1] at p |-
  exact p
 | ok d h1=>
  rw [e1,Res.out_ok] at p
  cases e2:qdn d h1 with
  | none=>rw [e2] at p; exact p.elim
  | some ds=>
   rw [e2,yN] at p
   have fin:∀ as1 H1 vs,Ext as H as1 H1->RelH X.K as1 H1 h1->RelDs X.K as1 H1 ds vs->vs.length=2/\qkH (qhp i) (qkH (qhp j) gNil) vs σ H1 Dn.nx:=by
    intro as1 H1 vs x1 rh1 rvs
    match ds,rvs,p with
    | [],_,p=>exact p.elim
    | [_],_,p=>exact p.elim
    | [d1,d2],rvs,p=>
     obtain⟨v,u,rfl,rv,ru⟩:=rvs.two
     exact⟨rfl,v,[u],rfl,u,[],rfl,rfl,p as1 H1 _ x1 rh1 (((re.mono x1).set i rv).set j ru)⟩
    | _::_::_::_,_,p=>exact p.elim
   cases d with
   | tup xs=>
    cases e2
    refine pT pins s σ H Dn I ⟨as,env,h,re,rh,?_⟩
    rw [e1]
    intro as1 H1 x1 rh1 v rv
    obtain⟨a,vs,rfl,ha,rvs⟩:=rv.tup_inv
    obtain⟨q1,q2⟩:=fin as1 H1 vs x1 rh1 rvs
    exact⟨a,vs,rfl,SqT.of ha,q1,q2⟩
   | lst n=>
    refine pL pins s σ H Dn I ⟨as,env,h,re,rh,?_⟩
    rw [e1]
    intro as1 H1 x1 rh1 v rv
    cases rv with
    | @lst _ a ha=>
     obtain⟨vs,hv,rvs⟩:=rh1.obj n a _ ha (qav e2)
     obtain⟨q1,q2⟩:=fin as1 H1 vs x1 rh1 rvs
     exact⟨a,vs,rfl,SqL.of hv,q1,q2⟩
   | _=>cases e2
noncomputable def tyD (d:D) (h:Hh):Option String:=match d with
 | .non=>some "NoneType"
 | .bl _=>some "bool"
 | .int _=>some "int"
 | .str _=>some "str"
 | .tup _=>some "tuple"
 | .lst n=>(match h[n]? with
  | some (.lst _)=>some "list"
  | some (.dct _)=>some "dict"
  | none=>none)
 | .ro _=>none
noncomputable def isiB (t T:String):Bool:=t==T||(t=="bool"&&T=="int")
noncomputable def oIsi (T:String):O1:=fun d h=>(tyD d h).map fun t=>(.bl (isiB t T),h)
def KitT (T:String):Prop:=∀ K:PySem.W.Frag,∀ t∈["NoneType","bool","int","str","tuple","list","dict"],PySem.W.kitOne K (.type t) (.type T)=some (isiB t T)
theorem qnR {K:PySem.W.Frag}{as:List Addr}{H:Hp}{h:Hh}{d:D}{v:V}{t:String} (rh:RelH K as H h) (r:RelD K as H d v) (e:tyD d h=some t):TyOf K H v (.type t)/\t∈["NoneType","bool","int","str","tuple","list","dict"]:=by
 cases r with
 | non=>cases e; exact⟨.non,by decide⟩
 | bl b=>cases e; exact⟨.bl b,by decide⟩
 | int i=>cases e; exact⟨.int i,by decide⟩
 | str x=>cases e; exact⟨.str x,by decide⟩
 | tup' h1 h2 h3=>cases e; exact⟨.tup h1,by decide⟩
 | @lst n a ha=>
  unfold tyD at e
  dsimp only at e
  cases q:h[n]? with
  | none=>rw [q] at e; cases e
  | some o=>
   rw [q] at e
   cases o with
   | lst ds=>
    cases e
    obtain⟨vs,hv,_⟩:=rh.obj n a _ ha q
    exact⟨.lst hv,by decide⟩
   | dct kvs=>
    cases e
    obtain⟨vs,hv,_⟩:=rh.obj n a _ ha q
    exact⟨.dK hv,by decide⟩
 | ro h=>cases e
theorem qmd {X:Cx}{T:String} (kt:KitT T):qfM X (.builtin "isinstance") (fun xs H Q=>∃ v t,xs=[v,.ty T]/\TyOf X.K H v (.type t)/\t∈["NoneType","bool","int","str","tuple","list","dict"]/\Q (.bl (isiB t T)) H):=by
 intro pins s σ H xs us Q I r h
 obtain⟨v,t,rfl,ty,ht,q⟩:=h
 obtain⟨u,c,rfl,ru,rc⟩:=qnP r
 cases rc
 exact qkv I ru ty (kt X.K t ht) fun tk=>⟨.bl _,H,I.tok tk,rfl,q⟩
theorem qfF:bootBuiltins "isinstance"=some (.builtin "isinstance"):=by decide +kernel
theorem qdQ {X:Cx}{x:Str}{T:String}{e:Expr}{f:FE}{p pT pos:Pos} (kt:KitT T) (hbT:bootBuiltins x=some (.type T)) (hm:X.mg "isinstance"=none) (hmT:X.mg x=none) (ha:DE X e f) (hg:Gl X "isinstance":=by rfl) (hgT:Gl X x:=by rfl)
  (hn:x≠"__name__":=by decide) (hd:(x==("__debug__":Str))=false:=by decide)
  (hs1:starEach [e,.Name x pT] X.env=(false,eval e X.env)::starEach [.Name x pT] X.env:=by rfl) (hs2:starEach [.Name x pT] X.env=(false,eval (.Name x pT) X.env)::starEach [] X.env:=by rfl)
  (hpl:(backTo pos (starEach [.Name x pT] X.env)).any (·.1)=false:=by rfl):
  DE X (.Call (.Name "isinstance" p) [e,.Name x pT] [] pos) (f1 (oIsi T) f):=
 peOf (qio (qmd kt) hg hm qfF (qhQ ha (qhQ (qm7 (v:=.ty T) hgT hmT hbT rfl hn hd) qmo hs2) hs1) (by decide) (by decide) hs1 hpl) fun σ H Q q9=>by obtain⟨as,env,h,re,rh,p⟩:=q9; exact⟨as,env,h,re,rh,(PX.bind p).imp fun as1 H1 h1 d e1 rh1 p1 v rv=>by
  cases q:tyD d h1 with
  | none=>unfold oIsi at p1; rw [q] at p1; exact p1.elim
  | some t=>
   unfold oIsi at p1
   rw [q] at p1
   obtain⟨ty,ht⟩:=qnR rh1 rv q
   exact⟨v,t,rfl,ty,ht,p1 as1 H1 (Ext.refl _ _) rh1 _ (.bl _)⟩⟩
theorem qnj:KitT "int":=fun K t ht=>by
 simp only [zG,yD,or_false] at ht
 rcases ht with rfl | rfl | rfl | rfl | rfl | rfl | rfl<;>kernel_rfl
theorem qlZ:KitT "bool":=fun K t ht=>by
 simp only [zG,yD,or_false] at ht
 rcases ht with rfl | rfl | rfl | rfl | rfl | rfl | rfl<;>kernel_rfl
theorem qkt:KitT "str":=fun K t ht=>by
 simp only [zG,yD,or_false] at ht
 rcases ht with rfl | rfl | rfl | rfl | rfl | rfl | rfl<;>kernel_rfl
theorem qdy:KitT "tuple":=fun K t ht=>by
 simp only [zG,yD,or_false] at ht
 rcases ht with rfl | rfl | rfl | rfl | rfl | rfl | rfl<;>kernel_rfl
theorem qlY:KitT "list":=fun K t ht=>by
 simp only [zG,yD,or_false] at ht
 rcases ht with rfl | rfl | rfl | rfl | rfl | rfl | rfl<;>kernel_rfl
noncomputable def eqL (f:D->D->Option Bool):List D->List D->Option Bool
 | [],[]=>some true
 | x::xs,y::ys=>match f x y,eqL f xs ys with
  | some a,some b=>some (a&&b)
  | _,_=>none
 | _,_=>some false
noncomputable def eqI (f:D->D->Option Bool) (a b:Option (List D)):Option Bool:=match a,b with
 | some xs,some ys=>eqL f xs ys
 | _,_=>none
noncomputable def eqD:Nat->Hh->D->D->Option Bool
 | 0,_,_,_=>none
 | n+1,h,.tup xs,.tup ys=>eqL (eqD n h) xs ys
 | n+1,h,.lst a,.lst b=>eqI (eqD n h) (qat h a) (qat h b)
 | _+1,_,.non,.non=>some true
 | _+1,_,.bl a,.bl b=>some (a==b)
 | _+1,_,.int a,.int b=>some (a==b)
 | _+1,_,.str a,.str b=>some (a==b)
 | _+1,_,.int _,.str _=>some false
 | _+1,_,.str _,.int _=>some false
 | _+1,_,.non,.int _=>some false
 | _+1,_,.int _,.non=>some false
 | _+1,_,.non,.str _=>some false
 | _+1,_,.str _,.non=>some false
 | _,_,_,_=>none
theorem qcM {f:D->D->Option Bool}:∀ {xs ys:List D}{b:Bool},eqL f xs ys=some b->∃ e:Nat->Bool,(∀ (j:Nat) x y,xs[j]?=some x->ys[j]?=some y->f x y=some (e j))/\b=((List.range (min xs.length ys.length)).all e&&xs.length==ys.length)
 | [],[],b,q=>by cases q; exact⟨fun _=>true,fun j x y h=>by simp at h,by simp⟩
 | [],y::ys,b,q=>by cases q; exact⟨fun _=>true,fun j x y h=>by simp at h,by simp⟩
 | x::xs,[],b,q=>by cases q; exact⟨fun _=>true,fun j x y _ h=>by simp at h,by simp⟩
 | x::xs,y::ys,b,q=>by
  unfold eqL at q
  cases e1:f x y with
  | none=>rw [e1] at q; cases q
  | some a=>
   cases e2:eqL f xs ys with
   | none=>rw [e1,e2] at q; cases q
   | some c=>
    rw [e1,e2] at q
    cases q
    obtain⟨e,h1,h2⟩:=qcM e2
    refine⟨fun j=>match j with | 0=>a | j+1=>e j,fun j x' y' hx hy=>?_,?_⟩
    ·cases j with
     | zero=>
      simp only [zU,Option.some.injEq] at hx hy
      subst hx hy
      exact e1
     | succ j=>
      simp only [zL] at hx hy
      exact h1 j x' y' hx hy
    ·rw [h2]
     simp only [zO]
     have e3:min (xs.length+1) (ys.length+1)=min xs.length ys.length+1:=by lia
     rw [e3,List.range_succ_eq_map,List.all_cons,List.all_map]
     have e4:(xs.length+1==ys.length+1)=(xs.length==ys.length):=by
      rw [Bool.eq_iff_iff]; simp
     rw [e4,Bool.and_assoc]
     rfl
theorem qiz {f:D->D->Option Bool}{xs ys:List D}{b:Bool} (q:eqL f xs ys=some b) (hl:xs.length=ys.length) (h:∀ (j:Nat) x y c,xs[j]?=some x->ys[j]?=some y->f x y=some c->c=true):b=true:=by
 obtain⟨e,h1,h2⟩:=qcM q
 rw [h2,hl,Nat.min_self,beq_self_eq_true,Bool.and_true,List.all_eq_true]
 intro j hj
 have hj':=List.mem_range.mp hj
 exact h j _ _ _ (zA (by lia)) (zA hj') (h1 j _ _ (zA (by lia)) (zA hj'))
theorem qe6 {K:PySem.W.Frag}{as:List Addr}{H:Hp}{h:Hh} (rh:RelH K as H h):∀ (n:Nat) (x y:D) (v:V) (b:Bool),eqD n h x y=some b->RelD K as H x v->RelD K as H y v->b=true
 | 0,_,_,_,_,q,_,_=>nomatch q
 | n+1,x,y,v,b,q,rx,ry=>by
  cases rx with
  | non=>cases ry; cases q; rfl
  | bl c=>cases ry; cases q; exact beq_self_eq_true c
  | int c=>cases ry; cases q; exact beq_self_eq_true c
  | str c=>cases ry; cases q; exact beq_self_eq_true c
  | @tup' xs vs a h1 h2 h3=>
   cases ry with
   | @tup' ys ws _ k1 k2 k3=>
    rw [h1] at k1
    cases k1
    refine qiz (show eqL (eqD n h) xs ys=some b from q) (h2.trans k2.symm) fun j x y c hx hy hc=>?_
    have hj:j < vs.length:=by rw [<-h2]; exact (zB.mp hx).1
    exact qe6 rh n x y vs[j] c hc (h3 j x _ hx (zA hj)) (k3 j y _ hy (zA hj))
   | lst _=>cases q
   | ro _=>cases q
  | @lst i a ha=>
   cases ry with
   | tup' _ _ _=>cases q
   | ro _=>cases q
   | @lst j _ hb=>
    have hij:i=j:=by
     obtain⟨h1,e1⟩:=zB.mp ha
     obtain⟨h2,e2⟩:=zB.mp hb
     exact (List.getElem_inj rh.nd).mp (e1.trans e2.symm)
    subst hij
    have q:eqI (eqD n h) (qat h i) (qat h i)=some b:=q
    cases e:qat h i with
    | none=>rw [e] at q; cases q
    | some xs=>
     rw [e] at q
     obtain⟨vs,hv,rvs⟩:=rh.obj i a _ ha (qav e)
     refine qiz (show eqL (eqD n h) xs xs=some b from q) rfl fun j x y c hx hy hc=>?_
     rw [hx] at hy
     cases hy
     obtain⟨u,hu,ru⟩:=Pd.get rvs hx
     exact qe6 rh n x x u c hc ru ru
  | ro _=>cases y<;>cases q
theorem qmx {X:Cx}{pins:List (Addr×Obj)}{σ:St}{H:Hp}{s:Shared}{as:List Addr}{h:Hh} (I:Inv X pins σ H s) (rh:RelH X.K as H h):
  ∀ (n:Nat) (A:Around) (x y:D) (v u:V) (vv uu:Value) (b:Bool),A.units+n < cLine->eqD n h x y=some b->RelD X.K as H x v->RelD X.K as H y u->RelV v vv->RelV u uu->SeqAt.EqAt A s vv uu b
 | 0,_,_,_,_,_,_,_,_,_,q,_,_,_,_=>nomatch q
 | n+1,A,x,y,v,u,vv,uu,b,hu,q,rx,ry,rv,ru=>by
  have hA:A.units < cLine:=by lia
  have hA1:A.in1.units+n < cLine:=by
   show A.units+1+n < cLine
   lia
  have qlK:∀ (xs ys:List D) (vs us:List V) (its its2:List Value) (e:Nat->Bool),RelDs X.K as H xs vs->RelDs X.K as H ys us->Vals vs its->Vals us its2->(∀ (j:Nat) x y,xs[j]?=some x->ys[j]?=some y->eqD n h x y=some (e j))->
    ∀ j (h1:j < its.toArray.size) (h2:j < its2.toArray.size),SeqAt.EqAt A.in1 s its.toArray[j] its2.toArray[j] (e j):=by
   intro xs ys vs us its its2 e r1 r2 v1 v2 he j h1 h2
   rw [zH] at h1 h2
   have hx:j < xs.length:=by rw [r1.length,v1.length]; exact h1
   have hy:j < ys.length:=by rw [r2.length,v2.length]; exact h2
   obtain⟨v,hv,rv⟩:=Pd.get r1 (zA hx)
   obtain⟨u,hu,ru⟩:=Pd.get r2 (zA hy)
   obtain⟨vv,hvv,rvv⟩:=v1.get hv
   obtain⟨uu,huu,ruu⟩:=v2.get hu
   have e1:its.toArray[j]=vv:=by
    rw [zA h1] at hvv
    exact Option.some.inj hvv
   have e2:its2.toArray[j]=uu:=by
    rw [zA h2] at huu
    exact Option.some.inj huu
   rw [e1,e2]
   exact qmx I rh n A.in1 _ _ v u vv uu (e j) hA1 (he j _ _ (zA hx) (zA hy)) rv ru rvv ruu
  have flat:∀ (v u:V) (vv uu:Value),qjb v=true->qjb u=true->RelV v vv->RelV u uu->SeqAt.EqAt A s vv uu (eqV v u):=fun v u vv uu f1 f2 r1 r2=>qo5 r1 r2 f1 f2
  cases rx with
  | non=>
   cases ry with
   | non=>cases q; exact flat _ _ _ _ rfl rfl rv ru
   | int i=>cases q; exact flat _ _ _ _ rfl rfl rv ru
   | str z=>cases q; exact flat _ _ _ _ rfl rfl rv ru
   | _=>cases q
  | bl c=>
   cases ry with
   | bl d=>cases q; exact flat _ _ _ _ rfl rfl rv ru
   | _=>cases q
  | int c=>
   cases ry with
   | non=>cases q; exact flat _ _ _ _ rfl rfl rv ru
   | int d=>cases q; exact flat _ _ _ _ rfl rfl rv ru
   | str d=>cases q; exact flat _ _ _ _ rfl rfl rv ru
   | _=>cases q
  | str c=>
   cases ry with
   | non=>cases q; exact flat _ _ _ _ rfl rfl rv ru
   | int d=>cases q; exact flat _ _ _ _ rfl rfl rv ru
   | str d=>cases q; exact flat _ _ _ _ rfl rfl rv ru
   | _=>cases q
  | @tup' xs vs a h1 h2 h3=>
   cases ry with
   | @tup' ys us c k1 k2 k3=>
    cases rv
    cases ru
    by_cases hac:a=c
    ·subst hac
     rw [qe6 rh (n+1) _ _ (.ref a) b q (.tup' h1 h2 h3) (.tup' k1 k2 k3)]
     exact SeqAt.EqAt.same _
    ·obtain⟨its,v1,p1,_⟩:=I.tuple (SqT.of h1)
     obtain⟨its2,v2,p2,_⟩:=I.tuple (SqT.of k1)
     obtain⟨e,he,hb⟩:=qcM (show eqL (eqD n h) xs ys=some b from q)
     have r1:RelDs X.K as H xs vs:=Pd.of_get h2 h3
     have r2:RelDs X.K as H ys us:=Pd.of_get k2 k3
     have hr:=SeqAt.RcAt.tuples (A:=A) (e:=e) p1 p2 hA (qlK xs ys vs us its its2 e r1 r2 v1 v2 he)
     rw [hb,r1.length,r2.length,v1.length,v2.length]
     rw [zH,zH] at hr
     exact SeqAt.EqAt.of_refs hac hr
   | lst _=>cases q
   | ro _=>cases q
   | _=>cases q
  | @lst i a ha=>
   cases ry with
   | @lst j c hc=>
    cases rv
    cases ru
    by_cases hac:a=c
    ·subst hac
     rw [qe6 rh (n+1) _ _ (.ref a) b q (.lst ha) (.lst hc)]
     exact SeqAt.EqAt.same _
    ·have q:eqI (eqD n h) (qat h i) (qat h j)=some b:=q
     cases e1:qat h i with
     | none=>rw [e1] at q; cases q
     | some xs=>
      cases e2:qat h j with
      | none=>rw [e1,e2] at q; cases q
      | some ys=>
       rw [e1,e2] at q
       obtain⟨vs,hv,r1⟩:=rh.obj i a _ ha (qav e1)
       obtain⟨us,hu',r2⟩:=rh.obj j c _ hc (qav e2)
       obtain⟨its,v1,p1,_⟩:=I.list (SqL.of hv)
       obtain⟨its2,v2,p2,_⟩:=I.list (SqL.of hu')
       obtain⟨e,he,hb⟩:=qcM (show eqL (eqD n h) xs ys=some b from q)
       have l1:xs.length=its.toArray.size:=by rw [zH,r1.length,v1.length]
       have l2:ys.length=its2.toArray.size:=by rw [zH,r2.length,v2.length]
       by_cases hl:its.toArray.size=its2.toArray.size
       ·have hr:=SeqAt.RcAt.lists (A:=A) (e:=e) p1.isList p2.isList hl hA (qlK xs ys vs us its its2 e r1 r2 v1 v2 he)
        rw [hb,l1,l2,hl,Nat.min_self,beq_self_eq_true,Bool.and_true]
        rw [hl] at hr
        exact SeqAt.EqAt.of_refs hac hr
       ·have hr:=SeqAt.RcAt.lists_lengths (A:=A) p1.isList p2.isList (by simpa using hl) hA
        have:(xs.length==ys.length)=false:=by rw [l1,l2]; simpa using hl
        rw [hb,this,Bool.and_false]
        exact SeqAt.EqAt.of_refs hac hr
   | _=>cases q
  | ro _=>cases y<;>cases q
noncomputable def rEqD (K:PySem.W.Frag) (n:Nat) (neg:Bool):R2:=fun v u H Q=>∃ as h x y b,RelH K as H h/\RelD K as H x v/\RelD K as H y u/\eqD n h x y=some b/\Q (.bl (if neg then !b else b)) H
theorem qe5 {X:Cx}{pins:List (Addr×Obj)}{σ:St}{H:Hp}{s:Shared}{as:List Addr}{h:Hh}{n:Nat}{A:Around}{xs ys:List D}{vs us:List V}{its its2:List Value}{e:Nat->Bool} (I:Inv X pins σ H s) (rh:RelH X.K as H h) (hA1:A.units+(n+1) < cLine)
  (r1:RelDs X.K as H xs vs) (r2:RelDs X.K as H ys us) (v1:Vals vs its) (v2:Vals us its2) (he:∀ (j:Nat) x y,xs[j]?=some x->ys[j]?=some y->eqD n h x y=some (e j)):
  ∀ j (h1:j < its.toArray.size) (h2:j < its2.toArray.size),SeqAt.EqAt A.in1 s its.toArray[j] its2.toArray[j] (e j):=by
 intro j h1 h2
 rw [zH] at h1 h2
 have hx:j < xs.length:=by rw [r1.length,v1.length]; exact h1
 have hy:j < ys.length:=by rw [r2.length,v2.length]; exact h2
 obtain⟨v,hv,rv⟩:=Pd.get r1 (zA hx)
 obtain⟨u,hu,ru⟩:=Pd.get r2 (zA hy)
 obtain⟨vv,hvv,rvv⟩:=v1.get hv
 obtain⟨uu,huu,ruu⟩:=v2.get hu
 have e1:its.toArray[j]=vv:=by
  rw [zA h1] at hvv
  exact Option.some.inj hvv
 have e2:its2.toArray[j]=uu:=by
  rw [zA h2] at huu
  exact Option.some.inj huu
 rw [e1,e2]
 exact qmx I rh n A.in1 _ _ v u vv uu (e j) (by show A.units+1+n < cLine; lia) (he j _ _ (zA hx) (zA hy)) rv ru rvv ruu
theorem qiA {n:Nat}{h:Hh}{x y:D}{b:Bool}{K:PySem.W.Frag}{as:List Addr}{H:Hp}{v u:V} (q:eqD (n+1) h x y=some b) (rx:RelD K as H x v) (ry:RelD K as H y u):
  (scal v u=true/\decide (v=u)=b)\/(∃ xs ys,x=.tup xs/\y=.tup ys)\/(∃ i j,x=.lst i/\y=.lst j):=by
 cases rx with
 | non=>
  cases ry with
  | non=>cases q; exact .inl ⟨rfl,rfl⟩
  | int i=>cases q; exact .inl ⟨rfl,rfl⟩
  | str z=>cases q; exact .inl ⟨rfl,rfl⟩
  | _=>cases q
 | bl c=>
  cases ry with
  | bl d=>cases q; exact .inl ⟨rfl,qkZ⟩
  | _=>cases q
 | int c=>
  cases ry with
  | non=>cases q; exact .inl ⟨rfl,rfl⟩
  | int d=>cases q; exact .inl ⟨rfl,qh6⟩
  | str d=>cases q; exact .inl ⟨rfl,rfl⟩
  | _=>cases q
 | str c=>
  cases ry with
  | non=>cases q; exact .inl ⟨rfl,rfl⟩
  | int d=>cases q; exact .inl ⟨rfl,rfl⟩
  | str d=>cases q; exact .inl ⟨rfl,qh5⟩
  | _=>cases q
 | tup' _ _ _=>
  cases ry with
  | tup' _ _ _=>exact .inr (.inl ⟨_,_,rfl,rfl⟩)
  | _=>cases q
 | lst _=>
  cases ry with
  | lst _=>exact .inr (.inr ⟨_,_,rfl,rfl⟩)
  | _=>cases q
 | ro _=>cases y<;>cases q
theorem qmp {X:Cx}{n:Nat} (hu:X.A.units+(n+1) < cLine):OpR X (compareOp .Eq) (rEqD X.K (n+1) false):=by
 intro pins s σ H v u vv uu Q I rv ru q
 obtain⟨as,h,x,y,b,rh,rx,ry,hb,q⟩:=q
 have hA:X.A.units < cLine:=by lia
 rcases qiA hb rx ry with⟨h1,h2⟩ | ⟨xs,ys,rfl,rfl⟩ | ⟨i,j,rfl,rfl⟩
 ·exact op_eq pins s σ H v u vv uu Q I rv ru ⟨h1,by rw [h2]; exact q⟩
 ·obtain⟨a,vs,rfl,ha,r1⟩:=rx.tup_inv
  obtain⟨c,us,rfl,hc,r2⟩:=ry.tup_inv
  cases rv
  cases ru
  obtain⟨its,v1,p1,_⟩:=I.tuple (SqT.of ha)
  obtain⟨its2,v2,p2,_⟩:=I.tuple (SqT.of hc)
  obtain⟨e,he,hb'⟩:=qcM (show eqL (eqD n h) xs ys=some b from hb)
  refine SeqAt.eq_tupleAt (e:=e) p1 p2 hA (qe5 I rh hu r1 r2 v1 v2 he) ?_
  rw [zH,zH,<-v1.length,<-v2.length,<-r1.length,<-r2.length,<-hb']
  exact⟨.bl b,H,I,rfl,q⟩
 ·cases rx with
  | @lst _ a ha=>
   cases ry with
   | @lst _ c hc=>
    cases rv
    cases ru
    have hb:eqI (eqD n h) (qat h i) (qat h j)=some b:=hb
    cases e1:qat h i with
    | none=>rw [e1] at hb; cases hb
    | some xs=>
     cases e2:qat h j with
     | none=>rw [e1,e2] at hb; cases hb
     | some ys=>
      rw [e1,e2] at hb
      obtain⟨vs,hv,r1⟩:=rh.obj i a _ ha (qav e1)
      obtain⟨us,hu',r2⟩:=rh.obj j c _ hc (qav e2)
      obtain⟨its,v1,p1,_⟩:=I.list (SqL.of hv)
      obtain⟨its2,v2,p2,_⟩:=I.list (SqL.of hu')
      obtain⟨e,he,hb'⟩:=qcM (show eqL (eqD n h) xs ys=some b from hb)
      have l1:its.toArray.size=xs.length:=by rw [zH,r1.length,v1.length]
      have l2:its2.toArray.size=ys.length:=by rw [zH,r2.length,v2.length]
      by_cases hl:xs.length=ys.length
      ·refine SeqAt.eq_listAt (e:=e) p1.isList p2.isList (by rw [l1,l2,hl]) hA (qe5 I rh hu r1 r2 v1 v2 he) ?_
       have:(List.range its.toArray.size).all e=b:=by rw [hb',l1,hl,Nat.min_self,beq_self_eq_true,Bool.and_true]
       rw [this]
       exact⟨.bl b,H,I,rfl,q⟩
      ·refine SeqAt.eq_list_lengthsAt p1.isList p2.isList (by rw [l1,l2]; simpa using hl) hA ?_
       have:b=false:=by rw [hb',show (xs.length==ys.length)=false by simpa using hl,Bool.and_false]
       subst this
       exact⟨.bl false,H,I,rfl,q⟩
theorem qox {X:Cx}{n:Nat} (hu:X.A.units+(n+1) < cLine):OpR X (compareOp .NotEq) (rEqD X.K (n+1) true):=by
 intro pins s σ H v u vv uu Q I rv ru q
 obtain⟨as,h,x,y,b,rh,rx,ry,hb,q⟩:=q
 have hA:X.A.units < cLine:=by lia
 rcases qiA hb rx ry with⟨h1,h2⟩ | ⟨xs,ys,rfl,rfl⟩ | ⟨i,j,rfl,rfl⟩
 ·exact op_ne pins s σ H v u vv uu Q I rv ru ⟨h1,by rw [h2]; exact q⟩
 ·obtain⟨a,vs,rfl,ha,r1⟩:=rx.tup_inv
  obtain⟨c,us,rfl,hc,r2⟩:=ry.tup_inv
  cases rv
  cases ru
  obtain⟨its,v1,p1,_⟩:=I.tuple (SqT.of ha)
  obtain⟨its2,v2,p2,_⟩:=I.tuple (SqT.of hc)
  obtain⟨e,he,hb'⟩:=qcM (show eqL (eqD n h) xs ys=some b from hb)
  refine SeqAt.RcNeAt.tuples (e:=e) p1 p2 hA (qe5 I rh hu r1 r2 v1 v2 he) _ _ _ _ ?_
  rw [zH,zH,<-v1.length,<-v2.length,<-r1.length,<-r2.length,<-hb']
  exact⟨.bl (!b),H,I,rfl,q⟩
 ·cases rx with
  | @lst _ a ha=>
   cases ry with
   | @lst _ c hc=>
    cases rv
    cases ru
    have hb:eqI (eqD n h) (qat h i) (qat h j)=some b:=hb
    cases e1:qat h i with
    | none=>rw [e1] at hb; cases hb
    | some xs=>
     cases e2:qat h j with
     | none=>rw [e1,e2] at hb; cases hb
     | some ys=>
      rw [e1,e2] at hb
      obtain⟨vs,hv,r1⟩:=rh.obj i a _ ha (qav e1)
      obtain⟨us,hu',r2⟩:=rh.obj j c _ hc (qav e2)
      obtain⟨its,v1,p1,_⟩:=I.list (SqL.of hv)
      obtain⟨its2,v2,p2,_⟩:=I.list (SqL.of hu')
      obtain⟨e,he,hb'⟩:=qcM (show eqL (eqD n h) xs ys=some b from hb)
      have l1:its.toArray.size=xs.length:=by rw [zH,r1.length,v1.length]
      have l2:its2.toArray.size=ys.length:=by rw [zH,r2.length,v2.length]
      by_cases hl:xs.length=ys.length
      ·refine SeqAt.RcNeAt.lists (e:=e) p1.isList p2.isList (by rw [l1,l2,hl]) hA (qe5 I rh hu r1 r2 v1 v2 he) _ _ _ _ ?_
       have:(List.range its.toArray.size).all e=b:=by rw [hb',l1,hl,Nat.min_self,beq_self_eq_true,Bool.and_true]
       rw [this]
       exact⟨.bl (!b),H,I,rfl,q⟩
      ·refine SeqAt.RcNeAt.lists_lengths p1.isList p2.isList (by rw [l1,l2]; simpa using hl) hA _ _ _ _ ?_
       have:b=false:=by rw [hb',show (xs.length==ys.length)=false by simpa using hl,Bool.and_false]
       subst this
       exact⟨.bl true,H,I,rfl,q⟩
noncomputable def oEq:O2:=fun x y h=>(eqD 24 h x y).map fun b=>(.bl b,h)
noncomputable def oNe:O2:=fun x y h=>(eqD 24 h x y).map fun b=>(.bl (!b),h)
@[simp] theorem qdx (i j:Int) (h:Hh):oEq (.int i) (.int j) h=some (.bl (i==j),h):=rfl
@[simp] theorem qeB (i j:Int) (h:Hh):oNe (.int i) (.int j) h=some (.bl (!(i==j)),h):=rfl
@[simp] theorem oEq_str (i j:Str) (h:Hh):oEq (.str i) (.str j) h=some (.bl (i==j),h):=rfl
@[simp] theorem oNe_bl (i j:Bool) (h:Hh):oNe (.bl i) (.bl j) h=some (.bl (!(i==j)),h):=rfl
@[simp] theorem qoB (i j:Bool) (h:Hh):oEq (.bl i) (.bl j) h=some (.bl (i==j),h):=rfl
theorem qoZ {K:PySem.W.Frag}:Im2 K (rEqD K 24 false) oEq:=by
 intro as H h x y v u Q rh rx ry p
 unfold oEq at p
 cases e:eqD 24 h x y with
 | none=>rw [e] at p; exact p.elim
 | some b=>
  rw [e] at p
  exact⟨as,h,x,y,b,rh,rx,ry,e,p as H _ (Ext.refl _ _) rh (.bl b)⟩
theorem im_ne {K:PySem.W.Frag}:Im2 K (rEqD K 24 true) oNe:=by
 intro as H h x y v u Q rh rx ry p
 unfold oNe at p
 cases e:eqD 24 h x y with
 | none=>rw [e] at p; exact p.elim
 | some b=>
  rw [e] at p
  exact⟨as,h,x,y,b,rh,rx,ry,e,p as H _ (Ext.refl _ _) rh (.bl (!b))⟩
section
variable {X:Cx}{a b:Expr}{f g:FE}{pos:Pos}{k:Nat}
theorem qjQ (hr:Room k X.A):X.A.units+(23+1) < cLine:=by
 have:=hr.un
 lia
theorem qk2 (hr:Room k X.A) (ha:DE X a f) (hb:DE X b g):DE X (.Compare a [.Eq] [b] pos) (f2 oEq f g):=qmA (qmp (qjQ hr)) qoZ (qef _) ha hb
theorem qeW (hr:Room k X.A) (ha:DE X a f) (hb:DE X b g):DT X (.Compare a [.Eq] [b] pos) (fB (f2 oEq f g)):=qfz (qmp (qjQ hr)) qoZ (qef _) ha hb
theorem qdC (hr:Room k X.A) (ha:DE X a f) (hb:DE X b g):DT X (.Compare a [.NotEq] [b] pos) (fB (f2 oNe f g)):=qfz (qox (qjQ hr)) im_ne (qef _) ha hb
end
theorem qpd:bootBuiltins "int"=some (.type "int"):=by decide +kernel
theorem qnH:bootBuiltins "bool"=some (.type "bool"):=by decide +kernel
theorem qmE:bootBuiltins "str"=some (.type "str"):=by decide +kernel
theorem qeq:bootBuiltins "tuple"=some (.type "tuple"):=by decide +kernel
theorem qnG:bootBuiltins "list"=some (.type "list"):=by decide +kernel
structure Bu (mg:Str->Option Value):Prop where
 len:mg "len"=none
 sum:mg "sum"=none
 min:mg "min"=none
 max:mg "max"=none
 range:mg "range"=none
 tuple:mg "tuple"=none
 list:mg "list"=none
 int:mg "int"=none
 str:mg "str"=none
 bool:mg "bool"=none
 isinstance:mg "isinstance"=none
def Cal (P:Program) (w:World) (K:PySem.W.Frag) (mg:Str->Option Value) (base:Heap) (k:Nat) (x:Str) (ps:List Str) (g:OC):Prop:=
 ∃ f fd,FnOk P w K mg base CX0 k f fd ps (spD K ps.length g)/\mg x=some (.ref f)/\PySem.W.keepIn K (.ref f)=true/\Binds K fd ps []
theorem Cal.mono {P:Program}{w:World}{K:PySem.W.Frag}{mg:Str->Option Value}{base:Heap}{k k':Nat}{x:Str}{ps:List Str}{g:OC} (c:Cal P w K mg base k x ps g) (h:k<=k'):Cal P w K mg base k' x ps g:=by
 obtain⟨f,fd,G,r⟩:=c
 exact⟨f,fd,G.mono h,r⟩
theorem Cal.pure {P:Program}{w:World}{K:PySem.W.Frag}{mg:Str->Option Value}{base:Heap}{k:Nat}{x:Str}{ps:List Str}{g:OC}{m:List D->Option D} (c:Cal P w K mg base k x ps g) (hm:∀ ds h d,m ds=some d->∃ junk,g ds h=some (d,h++junk)) (hb:∀ ds d,m ds=some d->HB 0 d):Cal P w K mg base k x ps (qiY m):=by
 obtain⟨f,fd,G,r⟩:=c
 exact⟨f,fd,qnq G hm hb,r⟩
theorem qau {X:Cx}{k:Nat}{ps:List Str}{x:Str}{p pos:Pos}{e:Expr}{es:List Expr}{fs:List FE}{g:OC} (c:Cal X.prog X.w X.K X.mg X.base k x ps g) (hr:Room k X.A) (ha:DA X (e::es) (fAll fs)) (hg:Gl X x:=by rfl) (hl:fs.length=ps.length:=by rfl)
  (hdb:(x==("__debug__":Str))=false:=by decide) (he:starEach (e::es) X.env=(false,eval e X.env)::starEach es X.env:=by rfl) (hpl:(backTo pos (starEach es X.env)).any (·.1)=false:=by rfl):
  DE X (.Call (.Name x p) (e::es) [] pos) (fc g (fAll fs)):=by
 obtain⟨f,fd,G,hm,hk,hb⟩:=c
 exact qnD G hr hm hk hb ha hg hl hdb he hpl
theorem qbh {P:Program}{w:World}{K:PySem.W.Frag}{mg:Str->Option Value}{base:Heap}{x qual:Str}{st:Stmt}{f:Addr}{fd:FuncData}{N ps:List Str}{k:Nat}{t:FS} (F:Fun K x qual st f fd) (S:qaE N ps (qam st)) (hm:mg x=some (.ref f)) (b:Binds K fd ps [])
  (hb:∀ (cdv:Value) (A:Around) (outer:List Env) (s:Shared) (H:Hp) (E:XK),Room k (A.deeper (envOfC qual (qam st) s.heap.objs.size f cdv))->
   DSs (cxOf CX0 P w K mg base N qual (qam st) f cdv A outer s H E).nox (qby st) t):Cal P w K mg base (k+1) x ps (qae N.length t):=⟨f,fd,fn_D F S hb,hm,F.kp,b⟩
theorem qag {s t:FS}{e e1:En}{h h1:Hh} (q:s e h=.nx e1 h1):fSeq s t e h=t e1 h1:=by unfold fSeq; rw [q]
theorem qba {s t:FS}{e:En}{h h1:Hh}{d:D} (q:s e h=.rt d h1):fSeq s t e h=.rt d h1:=by unfold fSeq; rw [q]
theorem qaq {i:Nat}{f:FE}{e:En}{h h1:Hh}{d:D} (q:f e h=.ok d h1):fSet i f e h=.nx (e.set i (some d)) h1:=by unfold fSet; rw [q]; rfl
theorem qaO {f:FE}{e:En}{h h1:Hh}{d:D} (q:f e h=.ok d h1):fRet f e h=.rt d h1:=by unfold fRet; rw [q]; rfl
theorem qbM {f:FE}{e:En}{h h1:Hh}{d:D} (q:f e h=.ok d h1):qaU f e h=.nx e h1:=by unfold qaU; rw [q]; rfl
theorem qbb {c:FT}{s t:FS}{e:En}{h h1:Hh} (q:c e h=.ok true h1):fIfS c s t e h=s e h1:=by unfold fIfS; rw [q]; rfl
theorem qaL {c:FT}{s t:FS}{e:En}{h h1:Hh} (q:c e h=.ok false h1):fIfS c s t e h=t e h1:=by unfold fIfS; rw [q]; rfl
theorem qmv {c:FT}{s t:FS}{e:En}{h h1:Hh}{b:Bool} (q:c e h=.ok b h1):fIfS c s t e h=if b=true then s e h1 else t e h1:=by unfold fIfS; rw [q]; rfl
theorem qap {r:O2}{f g:FE}{e:En}{h h1 h2:Hh}{x y:D} (q:f e h=.ok x h1) (q2:g e h1=.ok y h2):f2 r f g e h=Res.ofO (r x y h2):=by
 unfold f2; rw [q,Res.bind_ok,q2,Res.bind_ok]
theorem qaK {r:OC}{f:FA}{e:En}{h h1:Hh}{ds:List D} (q:f e h=.ok ds h1):fc r f e h=Res.ofO (r ds h1):=by unfold fc; rw [q]; rfl
theorem qaz {f:FE}{fs:List FE}{e:En}{h h1 h2:Hh}{d:D}{ds:List D} (q:f e h=.ok d h1) (q2:fAll fs e h1=.ok ds h2):fAll (f::fs) e h=.ok (d::ds) h2:=by
 unfold fAll; rw [q,Res.bind_ok,q2,Res.bind_ok]
theorem qa5 {f:FE}{e:En}{h h1:Hh}{b:Bool} (q:f e h=.ok (.bl b) h1):fB f e h=.ok b h1:=by unfold fB; rw [q]; rfl
theorem qcR {i:Nat}{fi:FI}{t:FS}{e:En}{h h1:Hh}{it:Itm} (q:fi e h=.ok it h1):fFor i fi t e h=forG it.chk i t it.items e h1:=by unfold fFor; rw [q]; rfl
theorem qaP (d:D) (e:En) (h:Hh):fC d e h=.ok d h:=rfl
theorem qbc {i:Nat}{e:En}{d:D} (q:e[i]?=some (some d)) (h:Hh):fV i e h=.ok d h:=by unfold fV; rw [q]; rfl
theorem qkJ {chk:Hh->Prop}{i:Nat}{t:FS} (P:Nat->En->Hh->Prop):∀ (items:List D) (k:Nat) (e:En) (h:Hh),P k e h->(∀ k e h,P k e h->chk h)->
  (∀ (j:Nat) d e h,items[j]?=some d->P (k+j) e h->∃ e' h',t (e.set i (some d)) h=.nx e' h'/\P (k+j+1) e' h')->∃ e' h',forG chk i t items e h=.nx e' h'/\P (k+items.length) e' h'
 | [],k,e,h,p,hc,_=>⟨e,h,by unfold forG; rw [if_pos (hc k e h p)],p⟩
 | d::r,k,e,h,p,hc,ht=>by
  obtain⟨e1,h1,q1,p1⟩:=ht 0 d e h (by simp) p
  obtain⟨e2,h2,q2,p2⟩:=qkJ P r (k+1) e1 h1 p1 hc fun j d' e' h' hj p'=>by
   obtain⟨e3,h3,q3,p3⟩:=ht (j+1) d' e' h' (by simpa using hj) (by rw [show k+(j+1)=k+1+j by lia]; exact p')
   exact⟨e3,h3,q3,by rw [show k+1+j+1=k+(j+1)+1 by lia]; exact p3⟩
  refine⟨e2,h2,?_,by rw [zO,show k+(r.length+1)=k+1+r.length by lia]; exact p2⟩
  unfold forG
  rw [if_pos (hc k e h p),q1]
  exact q2
theorem qcL {chk:Hh->Prop}{i:Nat}{t:FS} (P:Nat->En->Hh->Prop) (items:List D) (e:En) (h:Hh) (p:P 0 e h) (hc:∀ k e h,P k e h->chk h)
  (ht:∀ (j:Nat) d e h,items[j]?=some d->P j e h->∃ e' h',t (e.set i (some d)) h=.nx e' h'/\P (j+1) e' h'):∃ e' h',forG chk i t items e h=.nx e' h'/\P items.length e' h':=by
 obtain⟨e',h',q,p'⟩:=qkJ P items 0 e h p hc fun j d e h hj p=>by
  obtain⟨e',h',q,p'⟩:=ht j d e h hj (by rw [Nat.zero_add] at p; exact p)
  exact⟨e',h',q,by rw [Nat.zero_add]; exact p'⟩
 exact⟨e',h',q,by rw [Nat.zero_add] at p'; exact p'⟩
theorem qhs {c:FT}{t:FS} (P:En->Hh->Prop) (R:En->Hh->Prop) (μ:En->Hh->Nat)
  (hs:∀ e h,P e h->(∃ h1,c e h=.ok false h1/\R e h1)\/∃ h1 e2 h2,c e h=.ok true h1/\t e h1=.nx e2 h2/\P e2 h2/\μ e2 h2 < μ e h):
  ∀ (n:Nat) (e:En) (h:Hh),P e h->μ e h < n->∃ e' h',qb7 c t n e h=.nx e' h'/\R e' h'
 | 0,_,_,_,q=>absurd q (Nat.not_lt_zero _)
 | n+1,e,h,p,q=>by
  rcases hs e h p with⟨h1,q1,r⟩ | ⟨h1,e2,h2,q1,q2,p2,lt⟩
  ·exact⟨e,h1,by unfold qb7; rw [q1]; rfl,r⟩
  ·obtain⟨e',h',q3,r⟩:=qhs P R μ hs n e2 h2 p2 (by lia)
   refine⟨e',h',?_,r⟩
   unfold qb7
   rw [q1,Res.out_ok,if_pos rfl,q2]
   exact q3
theorem qaD {n:Nat}{t:FS}{ds:List D}{h h1:Hh}{d:D} (q:t (qaM n ds) h=.rt d h1):qae n t ds h=some (d,h1):=by unfold qae; rw [q]; rfl
theorem qcE {α:Type}{xs:List α}{i:Int} (h0:0<=i):atI xs i=xs[i.toNat]?:=by
 unfold atI ixN
 rw [if_pos h0]
 split
 ·rfl
 ·rename_i h
  rw [yM (by lia)]
  rfl
@[simp] theorem qaS {α:Type} (xs:List α) (j:Nat):atI xs (j:Int)=xs[j]?:=by
 rw [qcE (Int.natCast_nonneg j)]
 rfl
theorem qn1 {K:PySem.W.Frag}{g:OC} (hg:∀ ns:List Int,ns.length<=63->∃ h',g [.ro ns] []=some (.bl true,h')) {H:Hp}{a:Addr}{ns:List Int}{E:XK} (hl:ns.length<=63) (hO:Only H) (hS:SqL K H a (ns.map V.int)):
  spD K 1 g [.ref a] H (fun v _=>v=.bl true) E:=by
 obtain⟨h',e⟩:=hg ns hl
 refine⟨rfl,[],[.ro ns],[],⟨rfl,.nil,fun n a o q=>by simp at q⟩,.cons (.ro ?_) .nil,?_⟩
 ·rcases hS with (q | q) | q
  ·rcases hO a with z | ⟨o,xs,z⟩
   ·rw [z] at q; cases q
   ·rw [z] at q; cases q
  ·exact .inl q
  ·exact .inr q
 ·rw [e]
  intro as' H' v _ _ r
  cases r
  rfl
theorem qh7 {prog:Program}{w:World}{A:Around}{R:Result->Shared->Prop}{elt target iter:Expr}{ifs:List Expr}{scope:Scope}{pos:Pos}{it acc:Value}{env:Env}{s:Shared} (I:Nat->Shared->Prop)
  (turn:∀ n s,I n s->wpAny (model prog w) A (pyNext it) (fun r s₁=>match r with
   | none=>R (.ok .next) s₁
   | some v=>wpAny (model prog w) A (letOwnedTupleGo target it v) (fun _ s'=>wpAny (model prog w) A (assign target env v) (fun _ s₂=>
     wpAny (model prog w) A (forIn ifs true fun c r=>if r=true then do let ok <-isTrue c env (eval c env); pure (ForInStep.yield ok) else pure (ForInStep.yield r)) (fun ok s₃=>
      if ok=true then wpAny (model prog w) A (eval elt env) (fun x s₄=>
       wpAny (model prog w) A (call (.builtin "list.append") [acc,x]) (fun _ s₅=>∃ m,m < n/\I m s₅) (notedBy (model prog w) A env fun e s'=>R (.error e) s') s₄) (notedBy (model prog w) A env fun e s'=>R (.error e) s') s₃
      else ∃ m,m < n/\I m s₃) (notedBy (model prog w) A env fun e s'=>R (.error e) s') s₂) (notedBy (model prog w) A env fun e s'=>R (.error e) s') s') (notedBy (model prog w) A env fun e s'=>R (.error e) s') s₁) (notedBy (model prog w) A env fun e s'=>R (.error e) s') s)
  (n:Nat) (h:I n s):codeAny (model prog w) A (.compLoop (.ListComp elt [⟨target,iter,ifs,0⟩] scope pos) 0 it acc env) R s:=by
 refine codeAny_loop rfl I (fun n s hI=>?_) n h
 show wpAny _ A ((compTurn (.ListComp elt [⟨target,iter,ifs,0⟩] scope pos) 0 it acc env).onRaise (fun x=>do noteFrame x env; theTreesLotGoes x)) _ _ s
 refine wpAny_noted ?_
 rw [compTurn_list]
 refine wpAny_bind (wpAny_standAt (wpAny_bind (wpAny_mono (turn n s hI) (fun r s₁ h₁=>?_) fun _ _ h'=>h')))
 cases r with
 | none=>exact wpAny_pure h₁
 | some v=>
  refine wpAny_bind (wpAny_mono h₁ (fun _ s' hs'=>?_) fun _ _ h'=>h')
  refine wpAny_bind (wpAny_mono hs' (fun _ s₂ h₂=>wpAny_bind (wpAny_mono h₂ (fun ok s₃ h₃=>?_) fun _ _ h'=>h')) fun _ _ h'=>h')
  cases ok with
  | false=>exact wpAny_pure ⟨rfl,h₃⟩
  | true=>
   exact wpAny_bind (wpAny_bind (wpAny_mono h₃ (fun x s₄ h₄=>wpAny_bind (wpAny_mono h₄ (fun _ s₅ h₅=>wpAny_pure (wpAny_pure ⟨rfl,h₅⟩)) fun _ _ h'=>h')) fun _ _ h'=>h'))
noncomputable def qc1 (cells:List (Str×Addr)):List (Str×NameKind)->List (Str×Addr)->Option (List (Str×Addr))
 | [],acc=>some acc
 | (n,k)::r,acc=>if k==.free then (match cells.lookup n with
  | some c=>qc1 cells r ((n,c)::acc)
  | none=>none) else qc1 cells r acc
theorem qfK {scope:Scope}{env:Env}{cl:List (Str×Addr)} (h:qc1 env.cells scope.names []=some cl):closureFor scope env=pure cl:=by
 simp only [closureFor]
 generalize scope.names=names at h
 generalize ([]:List (Str×Addr))=acc at h
 induction names generalizing acc with
 | nil=>cases h; rfl
 | cons x r ih=>
  obtain⟨n,k⟩:=x
  unfold qc1 at h
  rw [List.forIn_cons]
  by_cases hk:(k==NameKind.free)=true
  ·rw [if_pos hk] at h
   cases hc:env.cells.lookup n with
   | none=>rw [hc] at h; cases h
   | some c=>
    rw [hc] at h
    have:=ih _ h
    simp only [hk,if_true,cellOf,hc]
    exact this
  ·rw [if_neg hk] at h
   have:=ih _ h
   simp only [hk,Bool.false_eq_true,if_false]
   exact this
theorem qeF {cells:List (Str×Addr)}:∀ {names:List (Str×NameKind)}{acc cl:List (Str×Addr)},qc1 cells names acc=some cl->(∀ p∈acc,cells.lookup p.1=some p.2)->∀ p∈cl,cells.lookup p.1=some p.2
 | [],_,_,h,ha=>by cases h; exact ha
 | (n,k)::r,acc,cl,h,ha=>by
  unfold qc1 at h
  by_cases hk:(k==NameKind.free)=true
  ·rw [if_pos hk] at h
   cases hc:cells.lookup n with
   | none=>rw [hc] at h; cases h
   | some c=>
    rw [hc] at h
    refine qeF h fun p hp=>?_
    rcases zG.mp hp with rfl | hp
    ·exact hc
    ·exact ha p hp
  ·rw [if_neg hk] at h
   exact qeF h ha
theorem qeH {cells:List (Str×Addr)}:∀ {names:List (Str×NameKind)}{acc cl:List (Str×Addr)},qc1 cells names acc=some cl->∀ p∈acc,p∈cl
 | [],_,_,h=>by cases h; exact fun _ h=>h
 | (n,k)::r,acc,cl,h=>by
  unfold qc1 at h
  by_cases hk:(k==NameKind.free)=true
  ·rw [if_pos hk] at h
   cases hc:cells.lookup n with
   | none=>rw [hc] at h; cases h
   | some c=>
    rw [hc] at h
    exact fun p hp=>qeH h p (zR _ hp)
  ·rw [if_neg hk] at h
   exact qeH h
theorem qeG {cells:List (Str×Addr)}:∀ {names:List (Str×NameKind)}{acc cl:List (Str×Addr)},qc1 cells names acc=some cl->∀ n,(n,NameKind.free)∈names->∃ c,(n,c)∈cl
 | [],_,_,_,n,hn=>nomatch hn
 | (m,k)::r,acc,cl,h,n,hn=>by
  unfold qc1 at h
  by_cases hk:(k==NameKind.free)=true
  ·rw [if_pos hk] at h
   cases hc:cells.lookup m with
   | none=>rw [hc] at h; cases h
   | some c=>
    rw [hc] at h
    rcases zG.mp hn with e | hn
    ·cases e
     exact⟨c,qeH h _ zV⟩
    ·exact qeG h n hn
  ·rw [if_neg hk] at h
   rcases zG.mp hn with e | hn
   ·cases e
    exact absurd rfl hk
   ·exact qeG h n hn
theorem mem_of_lookup {β:Type}{n:Str}{c:β}:∀ {l:List (Str×β)},l.lookup n=some c->(n,c)∈l
 | [],h=>by simp at h
 | (m,d)::r,h=>by
  rw [List.lookup_cons] at h
  split at h
  ·rename_i e
   cases h
   rw [eq_of_beq e]
   exact zV
  ·exact zR _ (mem_of_lookup h)
theorem qeg {n:Str}{β:Type}:∀ {l:List (Str×β)}{c:β},(n,c)∈l->∃ d,l.lookup n=some d
 | [],_,h=>nomatch h
 | (m,d)::r,c,h=>by
  rw [List.lookup_cons]
  split
  ·exact⟨d,rfl⟩
  ·rename_i e
   rcases zG.mp h with z | z
   ·cases z
    simp at e
   ·exact qeg z
theorem qg4 {env:Env}:∀ {names:List (Str×NameKind)}{x:Str},(∀ y∈names,y.2≠.cell)->
  ((names.map fun (n,k)=>if (k==NameKind.free&&env.scope.kind==.function&&env.kindOf n==some .cell) then (n,NameKind.cell) else (n,k)).lookup x=some .cell\/
  (names.map fun (n,k)=>if (k==NameKind.free&&env.scope.kind==.function&&env.kindOf n==some .cell) then (n,NameKind.cell) else (n,k)).lookup x=some .free)->(x,NameKind.free)∈names:=by
 intro names x hc h
 have key:∀ k',k'=NameKind.cell\/k'=NameKind.free->(names.map fun (n,k)=>if (k==NameKind.free&&env.scope.kind==.function&&env.kindOf n==some .cell) then (n,NameKind.cell) else (n,k)).lookup x=some k'->(x,NameKind.free)∈names:=by
  intro k' hk' h
  obtain⟨⟨n,k⟩,hq,e⟩:=yW.mp (mem_of_lookup h)
  dsimp only at e
  by_cases c:(k==NameKind.free&&env.scope.kind==.function&&env.kindOf n==some .cell)=true
  ·rw [if_pos c] at e
   rw [Bool.and_eq_true,Bool.and_eq_true] at c
   have e1:n=x:=(Prod.mk.inj e).1
   have e2:k=.free:=eq_of_beq c.1.1
   rw [<-e1,<-e2]
   exact hq
  ·rw [if_neg c] at e
   have e1:n=x:=(Prod.mk.inj e).1
   have e2:k=k':=(Prod.mk.inj e).2
   rcases hk' with rfl | rfl
   ·exact absurd e2 (hc _ hq)
   ·rw [<-e1,<-e2]
    exact hq
 rcases h with h | h
 ·exact key _ (.inl rfl) h
 ·exact key _ (.inr rfl) h
noncomputable def qdh (X:Cx) (scope:Scope) (cl:List (Str×Addr)) (C:Addr) (N:List Str) (s₀:Shared) (H₀:Hp) (fp:List Addr):Cx where
 prog:=X.prog
 w:=X.w
 K:=X.K
 mg:=X.mg
 base:=X.base
 A:=X.A
 N:=N
 s₀:=s₀
 H₀:=H₀
 env:=compEnvC scope cl C X.env
 outer:=X.stack
 stack:=X.stack
 ex:=fp
 fn:=fun _=>false
 calm:=X.calm
 pn:=[]
 xe:=fun _ _=>False
structure CompOk (X:Cx) (scope:Scope) (x:Str) (fr:List Nat) (frn:List Str) (cl:List (Str×Addr)):Prop where
 cl:qc1 X.env.cells scope.names []=some cl
 cell:∀ y∈scope.names,y.2≠.cell
 kind:scope.kind=.function
 names:∀ y∈scope.names,y.2=.local->scope.names.lookup y.1=some .local
 own:scope.names.lookup x=some .local
 nd:(x::frn).Nodup
 len:fr.length=frn.length
 fr:∀ (j i:Nat) n,fr[j]?=some i->frn[j]?=some n->X.N[i]?=some n/\X.env.kindOf n=some .cell
 frk:∀ n∈frn,(relabel scope X.env).names.lookup n=some .cell\/(relabel scope X.env).names.lookup n=some .free
noncomputable def qeO (fr:List Nat) (σ:St):St:=fr.map fun i=>(σ[i]?).getD none
noncomputable def qb6 (fr:List Nat) (env:En):En:=fr.map fun i=>(env[i]?).getD none
theorem qjR {K:PySem.W.Frag}{as:List Addr}{H:Hp}{env:En}{σ:St} (r:RelE K as H env σ) (fr:List Nat) (z:Option V):RelE K as H (none::qb6 fr env) (z::qeO fr σ):=by
 refine⟨by simp [qb6,qeO],fun i d e=>?_⟩
 cases i with
 | zero=>simp at e
 | succ i=>
  simp only [zL,qb6,zE] at e |-
  obtain⟨j,hj,e1⟩:=yB.mp e
  cases q:env[j]? with
  | none=>rw [q] at e1; cases e1
  | some o=>
   rw [q] at e1
   have e2:o=some d:=e1
   subst e2
   obtain⟨v,hv,rv⟩:=r.at_ j d q
   refine⟨v,?_,rv⟩
   simp [qeO,zE,hj,hv]
section
variable {X:Cx}{scope:Scope}{x:Str}{fr:List Nat}{frn:List Str}{cl:List (Str×Addr)}
theorem CompOk.clsub (c:CompOk X scope x fr frn cl) {n:Str}{a:Addr} (h:cl.lookup n=some a):X.env.cells.lookup n=some a:=
 qeF c.cl (fun _ h=>nomatch h) (n,a) (mem_of_lookup h)
theorem CompOk.clhas (c:CompOk X scope x fr frn cl) {n:Str} (h:(relabel scope X.env).names.lookup n=some .cell\/(relabel scope X.env).names.lookup n=some .free):∃ a,cl.lookup n=some a:=by
 obtain⟨a,ha⟩:=qeG c.cl n (qg4 c.cell h)
 exact qeg ha
theorem qji {pins:List (Addr×Obj)}{σ:St}{H:Hp}{s₃ s₄:Shared}{C:Addr}{fp:List Addr}{m:Str->Option Value} (c:CompOk X scope x fr frn cl) (hcalm:X.calm=true) (I:Inv X pins σ H s₃) (hC:C=s₃.heap.objs.size)
  (hns:s₄.heap.Ns C m) (keep:∀ b o,s₃.heap.get? b=some o->s₄.heap.get? b=some o) (hos:s₄.os=s₃.os) (hg:s₄.gens=s₃.gens) (hfp:∀ b∈fp,FpOk X pins H b) (hfl:∀ b∈fp,b < s₃.heap.objs.size):
  Inv (qdh X scope cl C (x::frn) s₃ H fp) [] (none::qeO fr σ) H s₄:=by
 have hb:∀ b,b < s₃.heap.objs.size->b≠C:=fun b h z=>by rw [z,hC] at h; exact xH _ h
 have fsub:∀ b∈frs X.stack,b∈X.env.locals::X.fs:=I.stkSub
 have ok:(qdh X scope cl C (x::frn) s₃ H fp).Ok:=by
  refine⟨I.ok.mod,c.kind,I.ok.glob,I.ok.blt,?_,?_,?_,?_,I.ok.hd,I.ok.frames,.inl rfl,?_,I.bs,yX I.ok.bsz I.sz,?_,?_,I.stack,I.stkFree⟩
  ·show s₃.heap.objs.size<=C
   rw [hC]; exact zS _
  ·intro a b z h1 h2
   exact I.ok.inj a b z (c.clsub h1) (c.clsub h2)
  ·intro a h
   exact c.clhas h
  ·intro a b h
   cases h
  ·intro b hbm
   refine⟨hb b (hfl b hbm),fun a z h=>?_⟩
   exact (hfp b hbm).2.2.2.2.1 a z (c.clsub h)
  ·intro b o e hbm
   rcases (hfp b hbm).2.2.2.1 with z | z
   ·exact I.ok.noex b o e z
   ·exact absurd (zY (yF e) (yX I.ok.bsz z)) (xH _)
  ·intro b hbm z
   rcases zG.mp (fsub b z) with e | e
   ·exact (hfp b hbm).2.1 e
   ·exact (hfp b hbm).2.2.1 e
 refine⟨ok,hos,(by rw [hg]; exact I.bare),Un.kept keep,⟨m,hns,?_⟩,?_,?_,?_,(fun p hp=>nomatch hp),I.hok.kept keep,(by simp [qdh,qeO,c.len])⟩
 ·intro i n v e1 e2 e3
  cases i with
  | zero=>simp at e2
  | succ j=>
   have e1':frn[j]?=some n:=e1
   have e2':(qeO fr σ)[j]?=some (some v):=e2
   unfold qeO at e2'
   rw [zE] at e2'
   obtain⟨i,hi,e4⟩:=yB.mp e2'
   obtain⟨h1,h2⟩:=c.fr j i n hi e1'
   have e5:σ[i]?=some (some v):=by
    cases q:σ[i]? with
    | none=>rw [q] at e4; cases e4
    | some o=>rw [q] at e4; exact congrArg some e4
   obtain⟨m0,_,hl⟩:=I.loc
   obtain⟨u,ru,lk⟩:=hl i n v h1 e5 (.inr (.inl h2))
   refine⟨u,ru,?_⟩
   rcases lk with⟨k,_⟩ | ⟨_,a,ha,z⟩
   ·rw [h2] at k; cases k
   ·have hk:=c.frk n (zD e1')
    obtain⟨d,hd⟩:=c.clhas hk
    have:=c.clsub hd
    rw [ha] at this
    cases this
    obtain⟨o,ho,hod⟩:=z
    exact .inr ⟨hk,a,hd,o,keep _ _ ho,hod⟩
 ·intro n a h
  obtain⟨v,o,ho,hod⟩:=I.cell n a (c.clsub h)
  exact⟨v,o,keep _ _ ho,hod⟩
 ·show H C=none
  rw [hC]
  exact I.hok.fresh (zS _)
 ·intro n a h
  exact I.freeC n a (c.clsub h)
theorem qmc {pins:List (Addr×Obj)}{σ σ':St}{H H':Hp}{s₃ s':Shared}{C:Addr}{fp:List Addr} (I:Inv X pins σ H s₃) (hfp:∀ b∈fp,FpOk X pins H b) (Y:Inv (qdh X scope cl C (x::frn) s₃ H fp) [] σ' H' s'):Inv X pins σ H' s':=
 I.call' (ch:=fp) Y.os Y.base Y.hok Y.bare fun b hb=>⟨(hfp b hb).2.2.2.1,(hfp b hb).2.1,(hfp b hb).2.2.2.2.1,(hfp b hb).2.2.2.2.2⟩
end
open Classical in
noncomputable def qeE (chk:Hh->Prop) (n0:Nat) (ft:FT) (fe:FE) (fenv:En):List D->Hh->Option Hh
 | [],h=>if chk h then some h else none
 | d::r,h=>if chk h then (match ft (some d::fenv) h with
  | .ok false h1=>qeE chk n0 ft fe fenv r h1
  | .ok true h1=>(match fe (some d::fenv) h1 with
   | .ok d' h2=>(match qat h2 n0 with
    | some ds=>if ds.length < sizeLine then qeE chk n0 ft fe fenv r (h2.set n0 (.lst (ds++[d']))) else none
    | none=>none)
   | _=>none)
  | _=>none) else none
def CPost (K:PySem.W.Frag) (G:List Addr->Hp->Hh->Prop) (as:List Addr) (H:Hp) (r:Option Hh):Prop:=match r with
 | some hf=>∀ asf Hf,Ext as H asf Hf->RelH K asf Hf hf->G asf Hf hf
 | none=>False
theorem CPost.later {K:PySem.W.Frag}{G:List Addr->Hp->Hh->Prop}{as as1:List Addr}{H H1:Hp}{r:Option Hh} (x:Ext as H as1 H1) (h:CPost K G as H r):CPost K G as1 H1 r:=by
 cases r with
 | none=>exact h
 | some hf=>exact fun asf Hf y=>h asf Hf (x.trans y)
noncomputable def fYes:FT:=fun _ h=>.ok true h
inductive DTs (Y:Cx):List Expr->FT->Prop where
 | nil:DTs Y [] fYes
 | one {c:Expr}{f:FT}:DT Y c f->DTs Y [c] f
theorem DTs.run {Y:Cx}{ifs:List Expr}{ft:FT} (d:DTs Y ifs ft) {pins:List (Addr×Obj)}{s:Shared}{σ:St}{H:Hp}{Q:Bool->Hp->Prop} (I:Inv Y pins σ H s) (q:tT Y ft σ H Q):
  wpAny (model Y.prog Y.w) Y.A (forIn ifs true fun c r=>if r=true then do let ok <-isTrue c Y.env (eval c Y.env); pure (ForInStep.yield ok) else pure (ForInStep.yield r)) (TP Y pins σ Q) Y.xe s:=by
 cases d with
 | nil=>
  obtain⟨as,env,h,re,rh,p⟩:=q
  exact wpAny_tests_nil ⟨H,I,p as H (Ext.refl _ _) rh⟩
 | one hc=>exact wpAny_tests_one (hc pins s σ H Q I q)
theorem PX.ok_of {α:Type}{X:Cx}{as:List Addr}{H:Hp}{env:En}{r:Res α}{R:List Addr->Hp->Hh->α->Prop}{a:α}{h':Hh} (e:r=.ok a h') (f:∀ as' H',Ext as H as' H'->RelH X.K as' H' h'->R as' H' h' a):PX X as H env r R:=by
 subst e
 exact f
theorem qk6 {X:Cx}{elt iter:Expr}{x:Str}{px:Pos}{ifs:List Expr}{scope:Scope}{pos:Pos}{fr:List Nat}{frn:List Str}{cl:List (Str×Addr)}{fi:FI}{ft:FT}{fe:FE}
  (c:CompOk X scope x fr frn cl) (hcalm:X.calm=true) (hi:DI X (.Name x px) iter fi)
  (hin:∀ (C:Addr) (s₀:Shared) (H₀:Hp) (fp:List Addr),DTs (qdh X scope cl C (x::frn) s₀ H₀ fp) ifs ft/\DE (qdh X scope cl C (x::frn) s₀ H₀ fp) elt fe)
  {pins:List (Addr×Obj)}{σ:St}{H:Hp}{s:Shared}{as:List Addr}{env:En}{h:Hh}{RR:Value->Addr->Result->Shared->Prop} (I:Inv X pins σ H s) (re:RelE X.K as H env σ) (rh:RelH X.K as H h)
  {G:Addr->List Addr->Hp->Hh->Prop}
  (p:PX X as H env (fi env h) fun as1 H1 h1 it=>∀ acc,H1 acc=none->CPost X.K (G acc) (as1++[acc]) (upd H1 acc (.lst [])) (qeE it.chk h1.length ft fe (qb6 fr env) it.items (h1++[.lst []])))
  (hRR:∀ acc C H' s' asf hf,G acc asf H' hf->Inv X pins σ H' s'->(∃ m,s'.heap.Ns C m)->H' C=none->C≠X.env.locals->X.s₀.heap.objs.size<=C->(∀ y z,X.env.cells.lookup y=some z->z≠C)->(∀ q∈X.pn++pins,q.1≠C)->RR (.ref acc) C (.ok .next) s'):
  wpAny (model X.prog X.w) X.A (eval iter X.env) (fun xv s₁=>wpAny (model X.prog X.w) X.A (pyIter xv) (fun it s₂=>wpAny (model X.prog X.w) X.A (newList []) (fun acc s₃=>
   wpAny (model X.prog X.w) X.A (newFunctionEnv scope X.env.globals cl [] X.env.qual none .none (some X.env)) (fun cenv s₄=>
    codeAny (model X.prog X.w) X.A (.compStart (.ListComp elt [⟨.Name x px,iter,ifs,0⟩] scope pos) 0 it acc { cenv with scope:=relabel scope X.env }) (RR acc cenv.locals) s₄) X.xe s₃) X.xe s₂) X.xe s₁) X.xe s:=by
 refine thn (hi pins s σ H (fun J H1=>∃ as1 h1 it Base,Ext as H as1 H1/\RelH X.K as1 H1 h1/\Adm X it J Base/\Base as1 H1/\∀ acc,H1 acc=none->CPost X.K (G acc) (as1++[acc]) (upd H1 acc (.lst [])) (qeE it.chk h1.length ft fe (qb6 fr env) it.items (h1++[.lst []]))) I
  ⟨as,env,h,re,rh,p.imp fun as1 H1 h1 it e1 rh1 p1 J Base ad b0=>⟨as1,h1,it,Base,e1,rh1,ad,b0,p1⟩⟩) fun xv s₁ q1=>thn q1 fun itv s₂ q2=>?_
 obtain⟨it,fp,tn,J,H1,rfl,I2,T,st0,hfp,as1,h1,itm,Base,e1,rh1,ad,b0,p1⟩:=q2
 have hfl:∀ b∈fp,b < s₂.heap.objs.size:=fun b hb=>by
  obtain⟨o,ho,_⟩:=T.obj 0 _ st0 b hb
  exact yF ho
 refine wpAny_newObj_type (wpAny_newFunctionEnv c.cell (by intro y hy; simp at hy) (fun h₁ hns₁ hsb₁=>?_) c.kind)
 dsimp only at hns₁ hsb₁ |-
 have I3:Inv X pins σ (upd H1 s₂.heap.objs.size (.lst [])) { s₂ with heap:=s₂.heap.push { cls:=.type "list",data:=.seq ([]:List Value).toArray },toks:=s₂.toks }:=I2.lnew (its:=[]) .nil (xV _)
 have hacc0:H1 s₂.heap.objs.size=none:=I2.hok.fresh (zS _)
 have pc:=p1 s₂.heap.objs.size hacc0
 generalize hA:s₂.heap.objs.size=acc at I3 hacc0 pc hfl hns₁ hsb₁ |-
 have hC0:(s₂.heap.push { cls:=.type "list",data:=.seq ([]:List Value).toArray }).objs.size=acc+1:=by rw [Heap.size_push,hA]
 generalize hH2:s₂.heap.push { cls:=.type "list",data:=.seq ([]:List Value).toArray }=H2 at I3 hns₁ hsb₁ hC0 |-
 have hold:∀ b o,H2.get? b=some o->h₁.get? b=some o:=fun b o e=>(hsb₁.2 b (xR (yF e))).trans (yH _ e)
 have hne:∀ b∈fp,b≠acc:=fun b hb z=>by have:=hfl b hb; rw [z] at this; exact xH _ this
 have hfp3:∀ b∈fp,FpOk X pins (upd H1 acc (.lst [])) b:=fun b hb=>⟨by rw [qbO (hne b hb)]; exact (hfp b hb).1,(hfp b hb).2⟩
 have hfl3:∀ b∈fp,b < H2.objs.size:=fun b hb=>by rw [hC0]; exact Nat.lt_succ_of_lt (hfl b hb)
 have IY0:=qji (s₃:={ s₂ with heap:=H2,toks:=s₂.toks }) (s₄:={ s₂ with heap:=h₁,toks:=s₂.toks+([]:List (Str×Value)).length }) (C:=H2.objs.size) (fp:=fp) c hcalm I3 rfl hns₁ hold rfl rfl hfp3 hfl3
 obtain⟨hts,hel⟩:=hin H2.objs.size { s₂ with heap:=H2,toks:=s₂.toks } (upd H1 acc (.lst [])) fp
 have hCL:H2.objs.size≠X.env.locals:=(Nat.ne_of_gt I3.lt)
 have hCs:X.s₀.heap.objs.size<=H2.objs.size:=I3.sz
 have hCc:∀ y z,X.env.cells.lookup y=some z->z≠H2.objs.size:=fun y z e w=>by
  obtain⟨v,o,ho,_⟩:=I3.cell y z e
  have:=yF ho
  rw [w] at this
  exact xH _ this
 have hCp:∀ q∈X.pn++pins,q.1≠H2.objs.size:=fun q hq w=>by
  have:=yF (I3.pin q hq).1
  rw [w] at this
  exact xH _ this
 have rhA:RelH X.K (as1++[acc]) (upd H1 acc (.lst [])) (h1++[.lst []]):=rh1.newL hacc0 .nil
 have exA:Ext as1 H1 (as1++[acc]) (upd H1 acc (.lst [])):=qdB hacc0
 have reY0:RelE X.K (as1++[acc]) (upd H1 acc (.lst [])) (none::qb6 fr env) (none::qeO fr σ):=qjR ((re.mono e1).mono exA) fr none
 have hn0:(as1++[acc])[h1.length]?=some acc:=by rw [<-rh1.len]; exact xC
 have ndY:(qdh X scope cl H2.objs.size (x::frn) { s₂ with heap:=H2,toks:=s₂.toks } (upd H1 acc (.lst [])) fp).N.Nodup:=c.nd
 have locY:Loc (qdh X scope cl H2.objs.size (x::frn) { s₂ with heap:=H2,toks:=s₂.toks } (upd H1 acc (.lst [])) fp).env.scope x:=.inl (lookup_relabel_local c.own)
 have pgx:PG (qdh X scope cl H2.objs.size (x::frn) { s₂ with heap:=H2,toks:=s₂.toks } (upd H1 acc (.lst [])) fp) (.Name x px) (qhp 0):=qgh ndY rfl locY (.inr (lookup_relabel_local c.own))
 generalize hY:qdh X scope cl H2.objs.size (x::frn) { s₂ with heap:=H2,toks:=s₂.toks } (upd H1 acc (.lst [])) fp=Y at IY0 hts hel pgx
 have yP:Y.prog=X.prog:=by rw [<-hY]; rfl
 have yw:Y.w=X.w:=by rw [<-hY]; rfl
 have yK:Y.K=X.K:=by rw [<-hY]; rfl
 have yA:Y.A=X.A:=by rw [<-hY]; rfl
 have yc:Y.calm=true:=by rw [<-hY]; exact hcalm
 have ye:Y.env=compEnvC scope cl H2.objs.size X.env:=by rw [<-hY]; rfl
 have yx:Y.xe=fun _ _=>False:=by rw [<-hY]; rfl
 have yex:Y.ex=fp:=by rw [<-hY]; rfl
 have hfpY0:∀ b∈fp,FpOk Y [] (upd H1 acc (.lst [])) b:=fun b hb=>⟨(hfp3 b hb).1,by rw [ye]; exact xR (hfl3 b hb),by
   rw [<-hY]
   intro z
   rcases zG.mp (I3.stkSub b z) with e | e
   ·exact (hfp3 b hb).2.1 e
   ·exact (hfp3 b hb).2.2.1 e,.inl (by rw [yex]; exact hb),fun y z e w=>by
   rw [ye] at e
   exact (hfp3 b hb).2.2.2.2.1 y z (c.clsub e) w,fun q hq=>by rw [<-hY] at hq; exact nomatch hq⟩
 have stay:tn 0 h₁:=T.keep 0 _ _ st0 fun b hb o e=>hold b o (by rw [<-hH2]; exact yH _ e)
 have loop:∀ s₄:Shared,s₄={ s₂ with heap:=h₁,toks:=s₂.toks+([]:List (Str×Value)).length }->
   codeAny (model X.prog X.w) X.A (.compLoop (.ListComp elt [⟨.Name x px,iter,ifs,0⟩] scope pos) 0 (.ref it) (.ref acc) (compEnvC scope cl H2.objs.size X.env)) (RR (.ref acc) H2.objs.size) s₄:=by
  rintro s₄ rfl
  refine qh7 (fun n s'=>∃ (k:Nat) (H':Hp) (σ':St) (as':List Addr) (h':Hh) (z:Option D),k+n=itm.items.length/\Inv Y [] σ' H' s'/\tn k s'.heap/\(∀ b∈fp,FpOk Y [] H' b)/\RelH X.K as' H' h'/\as'[h1.length]?=some acc/\Base as' H'/\
   RelE X.K as' H' (z::qb6 fr env) σ'/\CPost X.K (G acc) as' H' (qeE itm.chk h1.length ft fe (qb6 fr env) (itm.items.drop k) h')) ?_ itm.items.length
   ⟨0,_,_,_,_,none,by lia,IY0,stay,hfpY0,rhA,hn0,ad.mono _ _ _ _ exA b0,reY0,pc⟩
  rintro n s' ⟨k,H',σ',as',h',z,hk,IY,stk,hfY,rh',hn',bs',reY,pc'⟩
  cases hd:itm.items.drop k with
  | nil=>
   rw [hd] at pc'
   unfold qeE at pc'
   by_cases hch:itm.chk h'
   ·rw [if_pos hch] at pc'
    have hlen:itm.items.length<=k:=by
     have:=congrArg List.length hd
     rw [zQ,xG] at this
     lia
    have hk':k=itm.items.length:=by lia
    have dn:=T.done Y yP yw yK yc k [] s' σ' H' (notedBy (model X.prog X.w) X.A (compEnvC scope cl H2.objs.size X.env) fun e s'=>RR (.ref acc) H2.objs.size (.error e) s') IY hfY stk (by rw [hk']; exact ad.stop as' H' h' rh' hch bs')
    rw [yA] at dn
    refine thn dn fun r s1 q9=>?_
    obtain⟨hr,IY1⟩:=q9
    subst hr
    rw [<-hY] at IY1
    have IX:=qmc I3 hfp3 IY1
    obtain⟨m1,hm1,_⟩:=IY1.loc
    exact hRR acc H2.objs.size H' s1 as' h' (pc' as' H' (Ext.refl _ _) rh') IX ⟨m1,hm1⟩ IY1.free hCL hCs hCc hCp
   ·rw [if_neg hch] at pc'
    exact pc'.elim
  | cons d r=>
   rw [hd] at pc'
   unfold qeE at pc'
   by_cases hch:itm.chk h'
   ·rw [if_pos hch] at pc'
    have hlt:k < itm.items.length:=by
     have:=congrArg List.length hd
     rw [zQ,zO] at this
     lia
    have hq:=yQ hlt
    rw [hd] at hq
    have hd1:itm.items[k]?=some d:=by
     rw [zA hlt]
     exact congrArg some (List.cons.inj hq).1.symm
    have hr:itm.items.drop (k+1)=r:=(List.cons.inj hq).2.symm
    obtain⟨g1,g2⟩:=ad.go k as' H' h' d rh' hch bs' hd1
    have im:=T.item Y yP yw yK yc k [] s' σ' H' (notedBy (model X.prog X.w) X.A (compEnvC scope cl H2.objs.size X.env) fun e s'=>RR (.ref acc) H2.objs.size (.error e) s') IY hfY stk g1
    rw [yA] at im
    refine thn im fun rr s1 q9=>?_
    obtain⟨u,hru,q1⟩:=q9
    subst hru
    refine thn q1 fun _ s2 q9=>?_
    obtain⟨xv,Hn,IY2,ru,hyl,st2,hf2⟩:=q9
    obtain⟨rfl,rxd⟩:=g2 xv Hn hyl
    have hfY2:∀ b∈fp,FpOk Y [] Hn b:=fun b hb=>⟨hf2 b hb,(hfY b hb).2⟩
    have IYp:=IY2.pinned hfY2 (fun b hb=>T.obj (k+1) _ st2 b hb)
    generalize hP:([]:List (Addr×Obj))++qg8 fp s2.heap=P at IYp
    have again:∀ (s5:Shared) (σ5:St) (H5:Hp),Inv Y P σ5 H5 s5->Inv Y [] σ5 H5 s5/\tn (k+1) s5.heap/\∀ b∈fp,FpOk Y [] H5 b:=by
     intro s5 σ5 H5 I5
     rw [<-hP] at I5
     have pin:∀ b∈fp,∀ o,s2.heap.get? b=some o->s5.heap.get? b=some o/\H5 b=none:=fun b hb o e=>by
      have:=I5.pin (b,o) (by
       rw [xI]
       exact zN _ (qeC hb e))
      exact⟨this.1,this.2.1⟩
     refine⟨I5.unpinned,T.keep (k+1) _ _ st2 fun b hb o e=>(pin b hb o e).1,fun b hb=>?_⟩
     obtain⟨o,ho,_⟩:=T.obj (k+1) _ st2 b hb
     exact⟨(pin b hb o ho).2,(hfY b hb).2⟩
    have hasg:=pgx P s2 σ' Hn xv u (fun σ2 H2'=>σ2=σ'.set 0 (some xv)/\H2'=Hn) IYp ru ⟨rfl,rfl⟩
    rw [yP,yw,yA,ye,yx] at hasg
    refine wpAny_mono hasg (fun _ s3 hq3=>?_) fun _ _ f=>f.elim
    obtain⟨σ2,H2',IY3,e2',e3'⟩:=hq3
    rw [e2',e3'] at IY3
    have reS:RelE X.K as' Hn (some d::qb6 fr env) (σ'.set 0 (some xv)):=reY.set 0 rxd
    cases ht:ft (some d::qb6 fr env) h' with
    | ex cc hh=>rw [ht] at pc'; exact pc'.elim
    | bad=>rw [ht] at pc'; exact pc'.elim
    | ok bb h2=>
     rw [ht] at pc'
     have tst:=hts.run (Q:=fun b H3=>b=bb/\∃ as3,Ext as' Hn as3 H3/\RelH X.K as3 H3 h2) IY3 ⟨as',some d::qb6 fr env,h',by rw [yK]; exact reS,by rw [yK]; exact rh',PX.ok_of ht fun as3 H3 x3 rh3=>⟨rfl,as3,x3,by rw [yK] at rh3; exact rh3⟩⟩
     rw [yP,yw,yA,ye,yx] at tst
     refine wpAny_mono tst (fun b3 s4 hq4=>?_) fun _ _ f=>f.elim
     obtain⟨H3,IY4,rfl,as3,x3,rh3⟩:=hq4
     cases b3 with
     | false=>
      have pc2:CPost X.K (G acc) as' Hn (qeE itm.chk h1.length ft fe (qb6 fr env) r h2):=pc'
      rw [if_neg zZ]
      obtain⟨J1,J2,J3⟩:=again s4 _ H3 IY4
      exact⟨n - 1,by lia,k+1,H3,_,as3,h2,some d,by lia,J1,J2,J3,rh3,x3.at hn',ad.mono _ _ _ _ x3 bs',reS.mono x3,by rw [hr]; exact CPost.later x3 pc2⟩
     | true=>
      rw [if_pos rfl]
      dsimp only at pc'
      cases hf:fe (some d::qb6 fr env) h2 with
      | ex cc hh=>rw [hf] at pc'; exact pc'.elim
      | bad=>rw [hf] at pc'; exact pc'.elim
      | ok d' h3=>
       rw [hf] at pc'
       dsimp only at pc'
       have eli:=hel P s4 _ H3 (fun v H4=>∃ as4,Ext as3 H3 as4 H4/\RelH X.K as4 H4 h3/\RelD X.K as4 H4 d' v) IY4 ⟨as3,some d::qb6 fr env,h2,by rw [yK]; exact reS.mono x3,by rw [yK]; exact rh3,PX.ok_of hf fun as4 H4 x4 rh4 v rv=>⟨as4,x4,by rw [yK] at rh4; exact rh4,by rw [yK] at rv; exact rv⟩⟩
       rw [yP,yw,yA,ye,yx] at eli
       refine wpAny_mono eli (fun uu s5 hq5=>?_) fun _ _ f=>f.elim
       obtain⟨vv,H4,IY5,ruu,as4,x4,rh4,rd4⟩:=hq5
       cases hit:qat h3 h1.length with
       | none=>rw [hit] at pc'; exact pc'.elim
       | some ds=>
        rw [hit] at pc'
        dsimp only at pc'
        by_cases hz:ds.length < sizeLine
        ·rw [if_pos hz] at pc'
         have ha4:as4[h1.length]?=some acc:=x4.at (x3.at hn')
         obtain⟨ws,hw,rws⟩:=rh4.obj h1.length acc _ ha4 (qav hit)
         have ex5:=qdc (vs:=ws++[vv]) rh4 ha4 (qav hit)
         have app:=qhg (X:=Y) P s5 _ H4 (.ref acc) [vv] (.ref acc) [uu] (fun _ H5=>H5=upd H4 acc (.lst (ws++[vv]))) IY5 rfl (.cons ruu .nil) ⟨acc,ws,vv,rfl,rfl,hw,by rw [<-rws.length]; exact hz,rfl⟩
         rw [yP,yw,yA,yx] at app
         refine wpAny_mono app (fun _ s6 hq6=>?_) fun _ _ f=>f.elim
         obtain⟨_,H5,IY6,_,rfl⟩:=hq6
         obtain⟨J1,J2,J3⟩:=again s6 _ _ IY6
         have xx:=x3.trans (x4.trans ex5)
         exact⟨n - 1,by lia,k+1,_,_,as4,h3.set h1.length (.lst (ds++[d'])),some d,by lia,J1,J2,J3,rh4.setL ha4 (qav hit) (Pd.app rws (.cons rd4 .nil)),ha4,ad.mono _ _ _ _ xx bs',reS.mono xx,by rw [hr]; exact CPost.later xx pc'⟩
        ·rw [if_neg hz] at pc'
         exact pc'.elim
   ·rw [if_neg hch] at pc'
    exact pc'.elim
 have self:=T.self X.A 0 { s₂ with heap:=h₁,toks:=s₂.toks+([]:List (Str×Value)).length } (fun it' s'=>codeAny (model X.prog X.w) X.A (.compLoop (.ListComp elt [⟨.Name x px,iter,ifs,0⟩] scope pos) 0 it' (.ref acc) (compEnvC scope cl H2.objs.size X.env)) (RR (.ref acc) H2.objs.size) s')
  (notedBy (model X.prog X.w) X.A (compEnvC scope cl H2.objs.size X.env) fun e s'=>RR (.ref acc) H2.objs.size (.error e) s') stay (loop _ rfl)
 exact codeAny_compStart_list (loop _ rfl) self
noncomputable def qek (fi:FI) (fr:List Nat) (ft:FT) (fe:FE):FE:=fun env h=>(fi env h).bind fun it h1=>.ofO ((qeE it.chk h1.length ft fe (qb6 fr env) it.items (h1++[.lst []])).map fun h2=>(.lst h1.length,h2))
noncomputable def FrOk (X:Cx) (scope:Scope):List Nat->List Str->Prop
 | [],[]=>True
 | i::r,n::t=>(X.N[i]?=some n/\X.env.kindOf n=some .cell/\((relabel scope X.env).names.lookup n=some .cell\/(relabel scope X.env).names.lookup n=some .free))/\FrOk X scope r t
 | _,_=>False
theorem FrOk.spec {X:Cx}{scope:Scope}:∀ {fr:List Nat}{frn:List Str},FrOk X scope fr frn->fr.length=frn.length/\(∀ (j i:Nat) n,fr[j]?=some i->frn[j]?=some n->X.N[i]?=some n/\X.env.kindOf n=some .cell)/\
  ∀ n∈frn,(relabel scope X.env).names.lookup n=some .cell\/(relabel scope X.env).names.lookup n=some .free
 | [],[],_=>⟨rfl,fun j i n h=>by simp at h,fun n h=>nomatch h⟩
 | i::r,n::t,⟨⟨h1,h2,h3⟩,h4⟩=>by
  obtain⟨q1,q2,q3⟩:=FrOk.spec h4
  refine⟨by simp [q1],fun j i' n' e1 e2=>?_,fun n' hn=>?_⟩
  ·cases j with
   | zero=>
    simp only [zU,Option.some.injEq] at e1 e2
    subst e1 e2
    exact⟨h1,h2⟩
   | succ j=>
    simp only [zL] at e1 e2
    exact q2 j i' n' e1 e2
  ·rcases zG.mp hn with rfl | hn
   ·exact h3
   ·exact q3 n' hn
theorem qk7 {X:Cx}{scope:Scope}{x:Str}{fr:List Nat}{frn:List Str}{cl:List (Str×Addr)} (hcl:qc1 X.env.cells scope.names []=some cl) (hcell:∀ y∈scope.names,y.2≠.cell) (hkind:scope.kind=.function)
  (hnames:∀ y∈scope.names,y.2=.local->scope.names.lookup y.1=some .local) (hown:scope.names.lookup x=some .local) (hnd:(x::frn).Nodup) (hfr:FrOk X scope fr frn):CompOk X scope x fr frn cl:=
 ⟨hcl,hcell,hkind,hnames,hown,hnd,hfr.spec.1,hfr.spec.2.1,hfr.spec.2.2⟩
section
variable {X:Cx}{elt iter:Expr}{x:Str}{px:Pos}{ifs:List Expr}{scope:Scope}{pos:Pos}{fr:List Nat}{frn:List Str}{cl:List (Str×Addr)}{fi:FI}{ft:FT}{fe:FE}
theorem qk5 {pins:List (Addr×Obj)}{σ:St}{H':Hp}{s':Shared}{C:Addr}{h':Heap} (IX:Inv X pins σ H' s') (hs:Heap.SameBut C s'.heap h') (h1:H' C=none) (h2:C≠X.env.locals) (h3:X.s₀.heap.objs.size<=C)
  (h4:∀ y z,X.env.cells.lookup y=some z->z≠C) (h5:∀ q∈X.pn++pins,q.1≠C):Inv X pins σ H' { s' with heap:=h' }:=
 IX.turned (t':=s'.toks) (it:=C) (fun b o hb e=>(hs.2 b hb).trans e) h1 h2 (.inr h3) h4 h5
theorem qgM (hcalm:X.calm=true) (hi:DI X (.Name x px) iter fi)
  (hin:∀ (C:Addr) (s₀:Shared) (H₀:Hp) (fp:List Addr),DTs (qdh X scope cl C (x::frn) s₀ H₀ fp) ifs ft/\DE (qdh X scope cl C (x::frn) s₀ H₀ fp) elt fe)
  (hcl:qc1 X.env.cells scope.names []=some cl:=by rfl) (hcell:∀ y∈scope.names,y.2≠.cell:=by decide) (hkind:scope.kind=.function:=by rfl)
  (hnames:∀ y∈scope.names,y.2=.local->scope.names.lookup y.1=some .local:=by decide) (hown:scope.names.lookup x=some .local:=by rfl) (hnd:(x::frn).Nodup:=by decide)
  (hfr:FrOk X scope fr frn:=by repeat' (first | exact trivial | exact rfl | exact Or.inl rfl | exact Or.inr rfl | refine⟨⟨?_,?_,?_⟩,?_⟩))
  (hs:∀ x,foldedSetIterable iter X.env x=pure x:=by intro _; rfl):DE X (.ListComp elt [⟨.Name x px,iter,ifs,0⟩] scope pos) (qek fi fr ft fe):=by
 have c:=qk7 hcl hcell hkind hnames hown hnd hfr
 rintro pins s σ H Q I ⟨as,env,h,re,rh,p⟩
 rw [eval_ListComp]
 refine wpAny_comprehension_free (use:=none) rfl hs (qfK c.cl) c.kind c.names ?_
 refine qk6 (RR:=fun acc C=>compPost (model X.prog X.w) X.A X.xe none (EP X pins σ Q) acc C) (G:=fun acc asf Hf hf=>Q (.ref acc) Hf) c hcalm hi hin I re rh ?_ ?_
 ·refine (PX.bind p).imp fun as1 H1 h1 it e1 rh1 p1 acc hacc=>?_
  cases hc:qeE it.chk h1.length ft fe (qb6 fr env) it.items (h1++[.lst []]) with
  | none=>rw [hc] at p1; exact p1.elim
  | some hf=>
   rw [hc] at p1
   intro asf Hf y rhf
   exact p1 asf Hf ((qdB hacc).trans y) rhf (.ref acc) (.lst (y.at (by rw [<-rh1.len]; exact xC)))
 ·rintro acc C H' s' asf hf g IX ⟨m,hm⟩ h1 h2 h3 h4 h5
  exact⟨m,hm,fun h' hs'=>⟨.ref acc,H',qk5 IX hs' h1 h2 h3 h4 h5,rfl,g⟩⟩
end
noncomputable def Itd (hi:Int) (n:Nat):It:=⟨fun i _=>i < n,fun i H x H'=>H'=H/\x=.int (hi - i),fun i _=>n<=i⟩
theorem qhJ {P:Program}{w:World}{K:PySem.W.Frag}{tg:Expr} (it:Addr) (hi:Int) (n:Nat):Turn P w K tg (Itd hi n) [it] it (fun i h=>IsRangeIter h it (hi+(i:Nat)*(-1)) ((n:Int) - (i:Nat)) (-1)) where
 mem:=by simp
 obj:=fun i h st b hb=>by
  have e:b=it:=by simpa using hb
  subst e
  exact⟨_,st,fun v z=>by
   have z':Data.fields _=Data.cell v:=z
   cases z'⟩
 keep:=fun i h h' st k=>k it (by simp) _ st
 item:=by
  intro X hP hw hK hc i pins s σ H E I hf st hg
  subst hP hw hK
  obtain⟨f0,f1,f2,f3,f4,f5⟩:=hf it (by simp)
  have W:=Walks.range (prog:=X.prog) (w:=X.w) (I.ok.hd hc) it hi (-1) n
  refine W.item i s _ _ hg st fun v h' tk hv st' kk=>?_
  obtain⟨t,rfl⟩:=hv
  have I1:Inv X pins σ H { s with heap:=h',toks:=tk }:=I.turned (fun b o hb e=>kk b o (by simpa using hb) e) f0 f1 f3 f4 f5
  refine⟨_,rfl,ql2 (s:={ s with heap:=h',toks:=tk }) (n:="range_iterator") st' rfl rfl (by decide) ⟨.int (hi - i),H,I1,⟨t,?_⟩,⟨rfl,rfl⟩,st',fun b hb=>(hf b hb).1⟩⟩
  have:hi+((i:Nat):Int)*(-1)=hi - i:=by lia
  rw [this]
 done:=by
  intro X hP hw hK hc i pins s σ H E I hf st hg
  subst hP hw hK
  obtain⟨f0,f1,f2,f3,f4,f5⟩:=hf it (by simp)
  exact wpAny_pyNext_range_end (I.ok.hd hc) st (by have:n<=i:=hg; lia) fun h' eb=>⟨rfl,I.turned (t':=s.toks) (fun b o hb e=>eb b o hb e) f0 f1 f3 f4 f5⟩
 self:=fun _ _ _ _ _ st h=>wpAny_pyIter_rangeiter st h
theorem qdP (a b:Int):Builtin.Range.rangeSize a b (-1)=if a > b then a - b else 0:=by
 unfold Builtin.Range.rangeSize
 simp only [show ¬ ((-1:Int) > 0) by decide,if_false,Int.neg_neg,Int.ediv_one]
 split<;>lia
theorem qiR {a b:Int} (ha:-(2 ^ 62)<=a) (ha':a < 2 ^ 62) (hb:-(2 ^ 62)<=b) (hb':b < 2 ^ 62):Builtin.Range.small a b (-1)=true:=by
 unfold Builtin.Range.small
 rw [qdP]
 simp only [Builtin.Range.rangeFitsLong,Bool.and_eq_true,Bool.or_eq_true,decide_eq_true_eq,beq_iff_eq,show ¬ ((-1:Int) > 0) by decide,if_false]
 split<;>lia
section
variable {X:Cx}{tg:Expr}
theorem qjS {pins:List (Addr×Obj)}{σ:St}{H:Hp}{s:Shared}{R:It->Hp->Prop}{E:Value->Shared->Prop}{lo hi:Int}{t u v:Tok}{tk:Nat} (I:Inv X pins σ H s) (h1:-(2 ^ 62)<=lo) (h2:lo < 2 ^ 62) (h3:-(2 ^ 62)<=hi) (h4:hi < 2 ^ 62)
  (q:R (Itd hi (hi - lo).toNat) H):wpAny (model X.prog X.w) X.A (pyIter (.ref s.heap.objs.size)) (PIE X pins σ tg R) E { s with heap:=s.heap.push { cls:=.type "range",data:=.fields #[.int hi t,.int lo u,.int (-1) v] },toks:=tk }:=by
 refine wpAny_pyIter_range (IsRange.new ..) (qiR h3 h4 h1 h2) ?_
 have I1:Inv X pins σ H { s with heap:=s.heap.push { cls:=.type "range",data:=.fields #[.int hi t,.int lo u,.int (-1) v] },toks:=tk }:=I.kept fun b o e=>yH _ e
 refine⟨(s.heap.push { cls:=.type "range",data:=.fields #[.int hi t,.int lo u,.int (-1) v] }).objs.size,[(s.heap.push { cls:=.type "range",data:=.fields #[.int hi t,.int lo u,.int (-1) v] }).objs.size],_,_,H,rfl,
  I1.kept (t':=tk) fun b o e=>yH _ e,qhJ _ hi (hi - lo).toNat,?_,fun b hb=>?_,q⟩
 ·have e1:hi+((0:Nat):Int)*(-1)=hi:=by simp
  have e2:(((hi - lo).toNat:Nat):Int) - ((0:Nat):Int)=Builtin.Range.rangeSize hi lo (-1):=by rw [qdP]; split<;>lia
  show IsRangeIter _ _ (hi+((0:Nat):Int)*(-1)) ((((hi - lo).toNat:Nat):Int) - ((0:Nat):Int)) (-1)
  rw [e1,e2]
  exact xK _ rfl
 ·have e:b=(s.heap.push { cls:=.type "range",data:=.fields #[.int hi t,.int lo u,.int (-1) v] }).objs.size:=by simpa using hb
  subst e
  exact I1.fpOk (zS _) (I1.hok.fresh (zS _))
noncomputable def iRng3 (ta:TA):TI:=fun σ H R=>ta σ H fun vs H1=>∃ i j:Int,vs=[.int i,.int j,.int (-1)]/\(-(2 ^ 62)<=i/\i < 2 ^ 62/\-(2 ^ 62)<=j/\j < 2 ^ 62)/\R (Itd i (i - j).toNat) H1
theorem qj2 {a b c:Expr}{ta:TA}{p pos:Pos} (hg:Gl X "range") (hm:X.mg "range"=none) (ha:PA X [a,b,c] ta) (hs:starEach [a,b,c] X.env=(false,eval a X.env)::starEach [b,c] X.env:=by rfl) (hpl:(backTo pos (starEach [b,c] X.env)).any (·.1)=false:=by rfl):
  PI X tg (.Call (.Name "range" p) [a,b,c] [] pos) (iRng3 ta):=by
 intro pins s σ H R I h
 refine Call_ (qhk I hg hm boot_range (PyProof.Rows.callWith_type1 (thn (ha pos pins s σ H _ I h) fun us s1 q9=>?_) hs hpl))
 obtain⟨vs,H1,I1,r1,q1⟩:=q9
 obtain⟨i,j,e,⟨q1,q2,q3,q4⟩,q⟩:=q1
 subst e
 cases r1 with
 | cons r rr=>
  cases rr with
  | cons r' rr=>
   cases rr with
   | cons r'' rr=>
    cases rr
    obtain⟨t,rfl⟩:=r
    obtain⟨t',rfl⟩:=r'
    obtain⟨t'',rfl⟩:=r''
    exact call_range_3 (by decide) (qjS I1 q3 q4 q1 q2 q) (Or.inl (PyProof.noPylong_small (by lia)))
end
noncomputable def rng3 (ds:List D):Option (List D):=match ds with
 | [.int i,.int j,.int c]=>if -(2 ^ 62)<=i/\i < 2 ^ 62/\-(2 ^ 62)<=j/\j < 2 ^ 62/\c=-1 then some ((List.range (i - j).toNat).map fun (k:Nat)=>D.int (i - k)) else none
 | _=>none
theorem qmf {X:Cx}{hi:Int}{n:Nat}{items:List D} (e:items=(List.range n).map fun (k:Nat)=>D.int (hi - k)):Adm X ⟨items,fun _=>True⟩ (Itd hi n) fun _ _=>True:=by
 subst e
 refine⟨fun _ _ _ _ _ b=>b,?_,?_⟩
 ·intro k as H h d _ _ _ hd
  rw [zE] at hd
  obtain⟨m,hm,rfl⟩:=yB.mp hd
  obtain⟨hlt,e⟩:=zB.mp hm
  rw [List.getElem_range] at e
  subst e
  rw [xB] at hlt
  exact⟨hlt,fun x H' y=>⟨y.1,by
   rw [y.2]
   exact .int _⟩⟩
 ·intro as H h _ _ _
  show n<=_
  rw [zC,xB]
  exact zS _
theorem qhu {X:Cx}{tg a b c:Expr}{pos p:Pos}{fs:List FE} (hm:X.mg "range"=none) (ha:DA X [a,b,c] (fAll fs)) (hg:Gl X "range":=by rfl) (hs:starEach [a,b,c] X.env=(false,eval a X.env)::starEach [b,c] X.env:=by rfl) (hpl:(backTo pos (starEach [b,c] X.env)).any (·.1)=false:=by rfl):
  DI X tg (.Call (.Name "range" p) [a,b,c] [] pos) (qcC rng3 fs):=by
 intro pins s σ H R I q
 refine qj2 (tg:=tg) hg hm ha hs hpl pins s σ H R I ?_
 obtain⟨as,env,h,re,rh,p⟩:=q
 refine⟨as,env,h,re,rh,(PX.bind p).imp fun as1 H1 h1 ds e1 rh1 p1 vs rvs=>?_⟩
 cases hr:rng3 ds with
 | none=>rw [hr] at p1; exact p1.elim
 | some items=>
  rw [hr] at p1
  unfold rng3 at hr
  split at hr
  ·rename_i i' j c'
   split at hr
   ·rename_i hj
    obtain⟨j1,j2,j3,j4,rfl⟩:=hj
    cases hr
    cases rvs with
    | cons r1 r2=>
     cases r1
     cases r2 with
     | cons r2 r3=>
      cases r2
      cases r3 with
      | cons r3 r4=>
       cases r3
       cases r4
       exact⟨i',j,rfl,⟨j1,j2,j3,j4⟩,p1 as1 H1 (Ext.refl _ _) rh1 _ _ (qmf rfl) trivial⟩
   ·cases hr
  ·cases hr
open Classical in
noncomputable def ofR (R:List D->D->Prop):List D->Option D:=fun ds=>if h:∃ d,R ds d then some h.choose else none
noncomputable def relF (R:List D->D->Prop):OC:=qiY (ofR R)
def Runs (g:OC) (R:List D->D->Prop):Prop:=∀ ds d,R ds d->HB 0 d/\∀ h,∃ junk,g ds h=some (d,h++junk)
def Det (R:List D->D->Prop):Prop:=∀ ds d d',R ds d->R ds d'->d=d'
theorem Runs.det {g:OC}{R:List D->D->Prop} (r:Runs g R):Det R:=fun ds d d' h h'=>by
 obtain⟨j,e⟩:=(r ds d h).2 []
 obtain⟨j',e'⟩:=(r ds d' h').2 []
 rw [e] at e'
 exact (Prod.mk.inj (Option.some.inj e')).1
theorem qgo {R:List D->D->Prop}{ds:List D}{d:D} (h:ofR R ds=some d):R ds d:=by
 unfold ofR at h
 split at h
 ·rename_i e
  cases h
  exact e.choose_spec
 ·cases h
theorem qoA {R:List D->D->Prop} (t:Det R) {ds:List D}{d:D} (r:R ds d):ofR R ds=some d:=by
 have e:∃ d,R ds d:=⟨d,r⟩
 unfold ofR
 rw [dif_pos e,t ds _ _ e.choose_spec r]
theorem qa9 {R:List D->D->Prop} (t:Det R) {ds:List D}{d:D} (r:R ds d) (h:Hh):relF R ds h=some (d,h):=by
 unfold relF qiY
 rw [qoA t r]
 rfl
theorem Cal.rel {P:Program}{w:World}{K:PySem.W.Frag}{mg:Str->Option Value}{base:Heap}{k:Nat}{x:Str}{ps:List Str}{g:OC}{R:List D->D->Prop} (c:Cal P w K mg base k x ps g) (r:Runs g R):Cal P w K mg base k x ps (relF R):=
 c.pure (fun ds h d e=>(r ds d (qgo e)).2 h) fun ds d e=>(r ds d (qgo e)).1
theorem qhe {P:Program}{w:World}{H:Hp}{h:Heap}{a:Addr}{o:HO} (x:ObjOk P w H h a o):∃ u,h.get? a=some u:=by
 cases o with
 | lst xs=>obtain⟨_,_,_,_,e⟩:=x; exact⟨_,e⟩
 | tup xs=>obtain⟨_,_,_,_,e,_⟩:=x; exact⟨_,e⟩
 | dK kvs=>obtain⟨_,_,_,_,o,_,_,e,_⟩:=x; exact⟨_,e⟩
 | dT kvs=>obtain⟨_,_,_,_,o,_,_,e,_⟩:=x; exact⟨_,e⟩
 | set S n=>obtain⟨o,_,_,_,e,_⟩:=x; exact⟨_,e⟩
 | ins C dx fs=>obtain⟨_,_,_,e,_⟩:=x; exact⟨_,e⟩
 | own y=>exact x
 | xd fs=>obtain⟨_,⟨_,_,_,e,_⟩,_⟩:=x; exact⟨_,e⟩
 | rng lo hi=>obtain⟨_,_,_,e⟩:=x; exact⟨_,e⟩
 | frz ob u=>obtain⟨e,_⟩:=x; exact⟨_,e⟩
 | tbl ps=>exact⟨_,(show h.get? a=some _ from x)⟩
 | met f y=>exact⟨_,(show h.get? a=some _ from x)⟩
 | ext φ=>obtain⟨_,⟨_,e⟩,_⟩:=x; exact⟨_,e⟩
section
variable {X:Cx}{pins:List (Addr×Obj)}{σ:St}{H:Hp}{s:Shared}
theorem flown {h':Heap}{bad:List Addr} (I:Inv X pins σ H s) (hb:∀ b∈bad,qeJ X pins H b/\∃ o vs,s.heap.get? b=some o/\o.data=.fields vs)
  (keep:∀ b o,b∉frs X.stack->b∉bad->s.heap.get? b=some o->h'.get? b=some o) (slot:∀ b o,b∈frs X.stack->s.heap.get? b=some o->∃ sl,h'.get? b=some { o with slots:=sl }):
  Inv X pins σ H { s with heap:=h' }:=by
 have any:∀ b o,b∉bad->s.heap.get? b=some o->∃ sl,h'.get? b=some { o with slots:=sl }:=fun b o nb e=>by
  by_cases m:b∈frs X.stack
  ·exact slot b o m e
  ·exact⟨o.slots,keep b o m nb e⟩
 have old:∀ b o,X.s₀.heap.get? b=some o->b∉bad:=fun b o e z=>by
  rw [(hb b z).1.1] at e
  cases e
 have nrec:∀ b o,s.heap.get? b=some o->(∀ vs,o.data≠.fields vs)->b∉bad:=fun b o e n z=>by
  obtain⟨_,o',vs,e',d⟩:=hb b z
  rw [e] at e'
  cases e'
  exact n vs d
 have cellK:∀ x c,X.env.cells.lookup x=some c->∀ v,s.heap.IsCell c v->h'.IsCell c v:=fun x c e v ⟨o,ho,hd⟩=>by
  obtain⟨sl,q⟩:=any c o (nrec c o ho fun vs z=>by rw [hd] at z; cases z) ho
  exact⟨_,q,hd⟩
 refine⟨I.ok,I.os,I.bare,⟨fun b o e n nb hx=>?_,fun b o e n mb hx=>?_,I.base.free,fun b o e hx=>?_,I.base.tups,I.base.frzs,I.base.tbls⟩,?_,fun x c e=>?_,I.free,I.freeC,fun p hp=>?_,fun b u e=>?_,I.len⟩
 ·refine keep b o (fun m=>?_) (old b o e) (I.base.keep b o e n nb hx)
  rcases zG.mp (I.stkSub b m) with z | z
  ·exact absurd (zY (yF e) I.ok.above) (by rw [z]; exact xH _)
  ·exact nb z
 ·obtain⟨sl,e1⟩:=I.base.slot b o e n mb hx
  obtain⟨sl',e2⟩:=any b _ (old b o e) e1
  exact⟨sl',e2⟩
 ·obtain⟨o',e1⟩:=I.base.there b o e hx
  obtain⟨sl,e2⟩:=any b o' (old b o e) e1
  exact⟨_,e2⟩
 ·obtain⟨m,⟨o,es,ep,ho,hd,r⟩,hl⟩:=I.loc
  obtain⟨sl,q⟩:=any _ o (nrec _ o ho fun vs z=>by rw [hd] at z; cases z) ho
  refine⟨m,⟨_,es,ep,q,hd,r⟩,fun i x v e1 e2 e3=>?_⟩
  obtain⟨u,ru,l⟩:=hl i x v e1 e2 e3
  refine⟨u,ru,?_⟩
  rcases l with l | ⟨k,c,e,z⟩
  ·exact .inl l
  ·exact .inr ⟨k,c,e,cellK x c e _ z⟩
 ·obtain⟨v,z⟩:=I.cell x c e
  exact⟨v,cellK x c e v z⟩
 ·obtain⟨e,n,ne,nf,d⟩:=I.pin p hp
  refine⟨keep p.1 p.2 (fun m=>(zG.mp (I.stkSub p.1 m)).elim ne nf) (fun z=>(hb _ z).1.2.2 p hp rfl) e,n,ne,nf,d⟩
 ·refine (I.hok b u e).stay (fun c v hc q=>?_) (fun _ q=>q) fun _ _ q=>q
  have hcn:H c≠none:=by
   rcases hc with z | z
   ·rw [z,e]; exact fun z=>nomatch z
   ·rw [z]; exact fun z=>nomatch z
  exact keep c v (fun m=>hcn (I.stkFree c m)) (fun z=>hcn (hb c z).1.2.1) q
theorem qe1 (I:Inv X pins σ H s) (hex:X.ex=[]) {b:Addr} (e:s.heap.get? b=none) (n:H b=none):qeJ X pins H b:=by
 refine⟨?_,n,fun q hq z=>?_⟩
 ·cases q:X.s₀.heap.get? b with
  | none=>rfl
  | some o=>
   obtain⟨o',e'⟩:=I.base.there b o q (by rw [hex]; exact fun z=>nomatch z)
   rw [e] at e'
   cases e'
 ·obtain⟨q1,_⟩:=I.pin q hq
  rw [z,e] at q1
  cases q1
theorem qda (I:Inv X pins σ H s) {b:Addr} (e:s.heap.get? b=none):H b=none:=by
 cases q:H b with
 | none=>rfl
 | some u=>
  obtain⟨o,z⟩:=qhe (I.hok b u q)
  rw [e] at z
  cases z
theorem Fly.imp {h:Heap}{p:Addr}{c:Value}{L L':Addr->Prop} (f:Fly h p c L) (k:∀ b,L b->L' b):Fly h p c L':=by
 obtain⟨oe,vs,a0,T,oT,ts,e1,e2,e3,e4,e5,e6,e7,e8,e9,e10,e11⟩:=f
 exact⟨oe,vs,a0,T,oT,ts,e1,e2,e3,e4,k _ e5,e6,e7,e8,e9,e10,k _ e11⟩
theorem qix {M:Model}{A:Around}{E:Value->Shared->Prop}{Q:Unit->Shared->Prop}{p:Addr}{c:Value} (I:Inv X pins σ H s) (hex:X.ex=[]) (hst:X.stack=X.env::X.outer) (hfr:X.env.frame=some X.env.locals) (hA:A.frames=some X.stack)
  (fl:qpg s.heap p c (qeJ X pins H)\/Fly s.heap p c (qeJ X pins H))
  (k:∀ h',Inv X pins σ H { s with heap:=h' }->Fly h' p c (qeJ X pins H)->Q () { s with heap:=h' }):
  wpAny M A (noteFrame (.ref p) X.env) (fun _ s1=>wpAny M A (setFlight (.ref p) none) Q E s1) E s:=by
 have hl0:=I.stack
 have main:∀ (bad:List Addr) (a0:Value),p∈bad->(∀ b∈bad,qeJ X pins H b/\∃ o vs,s.heap.get? b=some o/\o.data=.fields vs)->
   ∀ h1,Heap.NotedW (PySem.W.hideAll s.heap (frs X.stack++bad)) (X.env::X.outer) p c a0 (rawInt X.env.locals) s.heap h1->wpAny M A (setFlight (.ref p) none) Q E { s with heap:=h1 }:=by
  rintro bad a0 hp hb h1 ⟨n1,n2,n3,n4⟩
  refine wpAny_setFlight_noneW (s:={ s with heap:=h1 }) n1 n2 n3 fun h2 j1 j2 j3 j4=>?_
  have keep:∀ b o,b∉frs X.stack->b∉bad->s.heap.get? b=some o->h2.get? b=some o:=fun b o m nb e=>
   j1 b o (PySem.W.hideAll_get _ e fun z=>(zP.mp z).elim m nb)
  have slot:∀ b o,b∈frs X.stack->s.heap.get? b=some o->∃ sl,h2.get? b=some { o with slots:=sl }:=fun b o m e=>by
   obtain⟨_,o',e',nf⟩:=hl0.mem m
   rw [e] at e'
   cases e'
   obtain⟨sl,q⟩:=n4 b o e nf
   exact⟨sl,j4 b _ q nf⟩
  have I2:=flown I hb keep slot
  refine k h2 I2 ?_
  obtain⟨oe,vs,T,oT,ts,he,⟨hc,h0⟩,hd,t1,hnT,hTp,hT,hdT,t3⟩:=j3
  refine⟨oe,vs,a0,T,oT,ts,he,hc,hd,h0,(hb p hp).1,t1,hTp,hT,hdT,t3,?_⟩
  by_cases mb:T∈bad
  ·exact (hb T mb).1
  ·have no:s.heap.get? T=none:=by
    cases q:s.heap.get? T with
    | none=>rfl
    | some o=>
     by_cases m:T∈frs X.stack
     ·obtain⟨_,o',e',nf⟩:=hl0.mem m
      obtain⟨sl,e2⟩:=slot T o' m e'
      rw [hT] at e2
      cases e2
      exact absurd hdT (nf ts)
     ·have:=PySem.W.hideAll_get (frs X.stack++bad) q fun z=>(zP.mp z).elim m mb
      rw [hnT] at this
      cases this
   exact qe1 I hex no (qda I no)
 have hfun:∀ bad:List Addr,s.heap.FunFrames (PySem.W.hideAll s.heap (frs X.stack++bad)) (X.env::X.outer):=fun bad=>by
  rw [hst] at hl0 |-
  exact PySem.W.funFrames_hide hl0 fun env he a ha=>zX _ (List.mem_filterMap.mpr ⟨env,he,ha⟩)
 rw [hst] at hA
 rcases fl with⟨oe,vs,a0,he,hc,hd,h0,lp,t1⟩ | ⟨oe,vs,a0,T,oT,ts,he,hc,hd,h0,lp,t1,hTp,hT,hdT,t3,lT⟩
 ·subst hc
  have hb:∀ b∈[p],qeJ X pins H b/\∃ o vs,s.heap.get? b=some o/\o.data=.fields vs:=fun b z=>by
   cases xE.mp z
   exact⟨lp,oe,vs,he,hd⟩
  unfold noteFrame
  simp only [hfr]
  refine wpAny_bind (wpAny_field he hd t1 ?_)
  rw [if_neg (by decide)]
  exact wpAny_entryW hA (hfun [p]) hfr he (fun b o z=>PySem.W.of_hideAll _ z) (PySem.W.hideAll_none _ (zN _ (xE.mpr rfl))) hd (Array.getElem?_eq_some_iff.mp t1).1 h0 fun h1 n=>main [p] a0 (xE.mpr rfl) hb h1 n
 ·subst hc
  have hb:∀ b∈[p,T],qeJ X pins H b/\∃ o vs,s.heap.get? b=some o/\o.data=.fields vs:=fun b z=>by
   rcases zG.mp z with rfl | z
   ·exact⟨lp,oe,vs,he,hd⟩
   ·cases xE.mp z
    exact⟨lT,oT,ts,hT,hdT⟩
  exact wpAny_noteFrame_onW hA (hfun [p,T]) hfr ⟨oe,vs,T,oT,ts,he,⟨rfl,h0⟩,hd,t1,PySem.W.hideAll_none _ (zN _ (by simp)),hTp,hT,hdT,t3⟩ (fun b o z=>PySem.W.of_hideAll _ z) (PySem.W.hideAll_none _ (zN _ (by simp)))
   fun h1 n=>main [p,T] a0 (by simp) hb h1 n
end
noncomputable def CX1 (P:Program) (w:World):CXT:=fun outer H s E e s'=>∃ p c H',e=.ref p/\s'.os=s.os/\AllBare s'.gens/\Un (frs outer) [] H H' s.heap s'.heap/\HOk P w H' s'.heap/\Fly s'.heap p c (fun b=>s.heap.get? b=none/\H' b=none)/\E c none H'
noncomputable abbrev OX:=List D->Hh->Res D
def PQX (K:PySem.W.Frag) (as:List Addr) (H:Hp) (r:Res D) (Q:VK) (E:XK):Prop:=match r with
 | .ok d h'=>∀ as' H' v,Ext as H as' H'->RelH K as' H' h'->RelD K as' H' d v->Q v H'
 | .ex c h'=>∀ as' H',Ext as H as' H'->RelH K as' H' h'->E c none H'
 | .bad=>False
noncomputable def spX (K:PySem.W.Frag) (n:Nat) (g:OX):Sp:=fun vs H Q E=>vs.length=n/\∃ as ds h,RelH K as H h/\RelDs K as H ds vs/\PQX K as H (g ds h) Q E
noncomputable def qo3 (o:Out):Res D:=match o with
 | .rt d h'=>.ok d h'
 | .nx _ h'=>.ok .non h'
 | .ex c _ h'=>.ex c h'
 | _=>.bad
noncomputable def qa6 (n:Nat) (t:FS):OX:=fun ds h=>qo3 (t (qaM n ds) h)
theorem qcY {n:Nat}{t:FS}{ds:List D}{h h1:Hh}{d:D} (q:t (qaM n ds) h=.rt d h1):qa6 n t ds h=.ok d h1:=by unfold qa6; rw [q]; rfl
theorem qcB {n:Nat}{t:FS}{ds:List D}{h h1:Hh}{c:Value}{e:En} (q:t (qaM n ds) h=.ex c e h1):qa6 n t ds h=.ex c h1:=by unfold qa6; rw [q]; rfl
theorem qkK {n:Nat}{t:FS}{ds:List D}{h h1:Hh}{e:En} (q:t (qaM n ds) h=.nx e h1):qa6 n t ds h=.ok .non h1:=by unfold qa6; rw [q]; rfl
section
variable {P:Program}{w:World}{K:PySem.W.Frag}{mg:Str->Option Value}{base:Heap}
theorem fn_DX {x qual:Str}{st:Stmt}{f:Addr}{fd:FuncData}{N ps:List Str}{k:Nat}{t:FS} (F:Fun K x qual st f fd) (S:qaE N ps (qam st))
  (hb:∀ (cdv:Value) (A:Around) (outer:List Env) (s:Shared) (H:Hp) (E:XK),Room k (A.deeper (envOfC qual (qam st) s.heap.objs.size f cdv))->
   DSs (cxOf (CX1 P w) P w K mg base N qual (qam st) f cdv A outer s H E) (qby st) t):FnOk P w K mg base (CX1 P w) (k+1) f fd ps (spX K ps.length (qa6 N.length t)):=by
 obtain⟨oc,od,kV,doc,pm,an,cdv,ct,osl,rfl,lk,hcd⟩:=F.ex
 refine qo2 lk hcd S (fun vs H Q E h=>h.1) fun A outer s H vs Q E hr h=>⟨_,hb cdv A outer s H E hr,?_⟩
 obtain⟨hl,as,ds,h,rh,rd,p⟩:=h
 refine⟨as,qaM N.length ds,h,qfQ rd,rh,?_⟩
 unfold qa6 at p
 cases e:t (qaM N.length ds) h with
 | rt d h'=>rw [e] at p; exact fun as' H' v x rh' rd'=>p as' H' v x rh' rd'
 | nx e1 h'=>rw [e] at p; exact fun as' H' σ' x rh' re'=>p as' H' .non x rh' .non
 | bk e1 h'=>rw [e] at p; exact p.elim
 | ct e1 h'=>rw [e] at p; exact p.elim
 | bad=>rw [e] at p; exact p.elim
 | ex c e1 h'=>
  rw [e] at p
  rintro pins σ' H' _ s' I ⟨q,rfl,fl⟩ ⟨as',x,rh',re'⟩
  show wpAny _ _ (leaving _ _) _ _ _
  unfold leaving
  refine wpAny_bind (qix I rfl rfl rfl I.ok.frames fl fun h2 I2 fl2=>?_)
  exact⟨q,c,H',rfl,I2.os,I2.bare,I2.base,I2.hok,fl2.imp fun b z=>⟨z.1,z.2.1⟩,p as' H' x rh'⟩
end
def CalX (P:Program) (w:World) (K:PySem.W.Frag) (mg:Str->Option Value) (base:Heap) (k:Nat) (x:Str) (ps:List Str) (g:OX):Prop:=
 ∃ f fd,FnOk P w K mg base (CX1 P w) k f fd ps (spX K ps.length g)/\mg x=some (.ref f)/\PySem.W.keepIn K (.ref f)=true/\Binds K fd ps []
theorem CalX.mono {P:Program}{w:World}{K:PySem.W.Frag}{mg:Str->Option Value}{base:Heap}{k k':Nat}{x:Str}{ps:List Str}{g:OX} (c:CalX P w K mg base k x ps g) (h:k<=k'):CalX P w K mg base k' x ps g:=by
 obtain⟨f,fd,c1,c2⟩:=c
 exact⟨f,fd,c1.mono h,c2⟩
theorem qeI {P:Program}{w:World}{K:PySem.W.Frag}{mg:Str->Option Value}{base:Heap}{x qual:Str}{st:Stmt}{f:Addr}{fd:FuncData}{N ps:List Str}{k:Nat}{t:FS} (F:Fun K x qual st f fd) (S:qaE N ps (qam st)) (hm:mg x=some (.ref f)) (b:Binds K fd ps [])
  (hb:∀ (cdv:Value) (A:Around) (outer:List Env) (s:Shared) (H:Hp) (E:XK),Room k (A.deeper (envOfC qual (qam st) s.heap.objs.size f cdv))->
   DSs (cxOf (CX1 P w) P w K mg base N qual (qam st) f cdv A outer s H E) (qby st) t):CalX P w K mg base (k+1) x ps (qa6 N.length t):=
 ⟨f,fd,fn_DX F S hb,hm,F.kp,b⟩
theorem qiI {P:Program}{w:World}{K:PySem.W.Frag}{mg:Str->Option Value}{base:Heap}{x qual:Str}{st:Stmt}{f:Addr}{fd:FuncData}{ps:List Str}{k:Nat}{g:OX} (F:Fun K x qual st f fd) (hm:mg x=some (.ref f)) (b:Binds K fd ps []) (hg:∀ ds h,g ds h=.bad):
  CalX P w K mg base k x ps g:=by
 refine⟨f,fd,⟨fun vs H Q E q=>q.1,?_⟩,hm,F.kp,b⟩
 rintro A outer s H args us vs Q E hr he hb hv ⟨_,as,ds,h1,_,_,p⟩
 rw [hg] at p
 exact p.elim
noncomputable def fcX (r:OX) (f:FA):FE:=fun env h=>(f env h).bind fun x h1=>r x h1
section
variable {X:Cx}{k:Nat}{ps:List Str}{x:Str}{p pos:Pos}{e:Expr}{es:List Expr}{fs:List FE}{g:OX}
theorem qdH (c:CalX X.prog X.w X.K X.mg X.base k x ps g) (hr:Room k X.A) (ha:DA X (e::es) (fAll fs)) (hex:X.ex=[]:=by rfl) (hg:Gl X x:=by rfl) (hl:fs.length=ps.length:=by rfl)
  (hdb:(x==("__debug__":Str))=false:=by decide) (he:starEach (e::es) X.env=(false,eval e X.env)::starEach es X.env:=by rfl) (hpl:(backTo pos (starEach es X.env)).any (·.1)=false:=by rfl):
  DE X (.Call (.Name x p) (e::es) [] pos) (fcX g (fAll fs)):=by
 obtain⟨f,fd,F,hm,hk,hb⟩:=c
 rintro pins s σ H Q I ⟨as,env,h,re,rh,p⟩
 refine wpAny_Call_Name_kw (qgu I hg hm ?_ hdb)
 have hA:=ha pos pins s σ H (fun vs H1=>vs.length=ps.length/\∃ as1 ds h1,Ext as H as1 H1/\RelH X.K as1 H1 h1/\RelDs X.K as1 H1 ds vs/\PX X as1 H1 env (g ds h1) fun as' H' _ d=>∀ v,RelD X.K as' H' d v->Q v H') I
  ⟨as,env,h,re,rh,(PX.bind p).lenA.imp fun as1 H1 h1 ds e1 rh1 p1 vs rvs=>⟨by rw [<-rvs.length,p1.1,hl],as1,ds,h1,e1,rh1,rvs,p1.2⟩⟩
 refine PySem.W.callWith_K (h₀:=X.base) I.ok.mod.kin hk (thn hA fun us s1 q9=>?_) he hpl
 obtain⟨vs,H1,I1,r,hlen,as1,ds,h1,e1,rh1,rvs,q⟩:=q9
 refine⟨I1.kIn,?_⟩
 have hl2:us.length=ps.length:=by rw [<-r.length]; exact hlen
 have hb2:=hb s1 us I1.kIn (by rw [zW]; exact hl2)
 rw [zW] at hb2
 refine wpAny_call (codeAny_mono (F.run X.A X.stack s1 H1 ⟨us,[]⟩ us vs Q (fun c _ H'=>∀ e' s',Inv X pins σ H' s'->qph X pins H' e' c s'->X.xe e' s') hr I1.env0 hb2 r ⟨hlen,as1,ds,h1,rh1,rvs,?_⟩) fun r s' hq=>?_)
 ·cases q0:g ds h1 with
  | bad=>rw [q0] at q; exact q.elim
  | ok d h'=>
   rw [q0] at q
   exact fun as' H' v x rh' rd'=>q as' H' x rh' v rd'
  | ex c h'=>
   rw [q0] at q
   exact fun as' H' x rh' e' s' I' fl=>q pins σ H' e' s' I' fl ⟨as',x,rh',re.mono (e1.trans x)⟩
 ·cases r with
  | error e'=>
   obtain⟨q',c,H',rfl,os,bare,un,hok,fl,w⟩:=hq
   have I2:Inv X pins σ H' s':=I1.call' os un hok bare (fun b z=>absurd z (by simp))
   exact w _ s' I2 ⟨q',rfl,.inr (fl.imp fun b z=>⟨(qe1 I1 hex z.1 (qda I1 z.1)).1,z.2,(qe1 I1 hex z.1 (qda I1 z.1)).2.2⟩)⟩
  | ok fl=>
   cases fl with
   | ret u=>exact I1.after hq
   | next=>exact False.elim hq
   | brk=>exact False.elim hq
   | cont=>exact False.elim hq
end
abbrev bmV:List Value:=[.type "ValueError",.type "Exception",.type "BaseException",.type "object"]
def ExC (K:PySem.W.Frag) (C:Addr) (bm:List Value):Prop:=∃ N nm q bs hdct sn sub ab col dd k0 k1 k2 k3 k5,K.lookup C=some (excClassObj nm q C N bs bm hdct sn sub ab col dd k0 k1 k2 k3 k5 "ValueError.__new__")/\
 PySem.W.tailIn K bmV bm=true/\PySem.W.nsOkIn K N=true/\PySem.W.nsIn K N "__init__"=some none
noncomputable def qkP (c:Value) (f:FE):FS:=fun e h=>(fAll [f] e h).out e fun _ h1=>.ex c e h1
theorem qiB {X:Cx}{x:Str}{np cpos pos:Pos}{a:Expr}{f:FE}{C:Addr}{bm:List Value} (ec:ExC X.K C bm) (hm:X.mg x=some (.ref C)) (ha:DA X [a] (fAll [f])) (hcalm:X.calm=true:=by rfl) (hex:X.ex=[]:=by rfl) (hg:Gl X x:=by rfl)
  (hdb:(x==("__debug__":Str))=false:=by decide) (he:starEach [a] X.env=(false,eval a X.env)::starEach [] X.env:=by rfl) (hpl:(backTo cpos (starEach [a] X.env)).any (·.1)=false:=by rfl):
  DS X (.Raise (some (.Call (.Name x np) [a] [] cpos)) none pos) (qkP (.ref C) f):=by
 rintro pins s σ H Dn I ⟨as,env,h,re,rh,p⟩
 obtain⟨N,nm,qn,bs,hdct,sn,sub,ab,col,dd,k0,k1,k2,k3,k5,lk,tl,ok,ini⟩:=ec
 have kin:=I.mod.kin
 refine wpAny_Raise_call_subT (C:=C) (N:=N) (nm:=nm) (q:=qn) (bs:=bs) (bm:=bm) (hdct:=hdct) (sn:=sn) (sub:=sub) (ab:=ab) (col:=col) (dd:=dd) (k0:=k0) (k1:=k1) (k2:=k2) (k3:=k3) (k5:=k5) (mN:=X.base.nsMap N) PySem.F.excBase_ValueError
  ((PySem.W.tail_of_in kin tl).hasType (by decide)) (I.ok.hd hcalm) hpl (PySem.W.nsMap_none_of_in kin ok ini) (qgu I hg hm ⟨rfl,?_⟩ hdb)
 have hA:=ha cpos pins s σ H (fun vs H1=>vs.length=1/\∃ as1 h1,Ext as H as1 H1/\RelH X.K as1 H1 h1/\POut X as1 H1 Dn (.ex (.ref C) env h1)) I
  ⟨as,env,h,re,rh,(PX.of_out p).lenA.imp fun as1 H1 h1 ds e1 rh1 p1 vs rvs=>⟨by rw [<-rvs.length,p1.1]; rfl,as1,h1,e1,rh1,p1.2⟩⟩
 rw [he] at hA |-
 refine Calls.evalArgs_plain (thn hA fun us s1 q9=>?_)
 obtain⟨vs,H1,I1,r,hlen,as1,h1,e1,rh1,xw⟩:=q9
 refine⟨rfl,?_,I1.kIn _ _ lk,(Heap.Ns.of_isNs (PySem.W.isNs_of_in kin ok)).keeps I1.bk,PySem.W.tail_of_in I1.kIn tl,fun h' e m=>?_⟩
 ·show us.length<=sizeLine
  rw [<-r.length,hlen]
  decide
 ·have I2:Inv X pins σ H1 { s1 with heap:=h' }:=I1.kept (t':=s1.toks) m.keeps
  obtain⟨t,he',_,_⟩:=m.there
  exact xw pins σ H1 (.ref e) _ I2 ⟨e,rfl,.inl ⟨_,_,.ref t,he',rfl,rfl,rfl,qe1 I1 hex m.new (qda I1 m.new),rfl⟩⟩ ⟨as1,Ext.refl _ _,rh1,re.mono e1⟩
noncomputable abbrev qj5 (X:Cx) (pn:List (Addr×Obj)) (E:Value->Shared->Prop):Cx:={ X with pn:=pn,xe:=E }
noncomputable abbrev qkz (X:Cx) (pn:List (Addr×Obj)) (p:Addr):Cx:={ X with pn:=pn,xe:=fun _ _=>False,A:=X.A.mark (some (.ref p)),calm:=false }
section
variable {X:Cx}{pins pins':List (Addr×Obj)}{σ:St}{H:Hp}{s:Shared}{E:Value->Shared->Prop}{p:Addr}
theorem qoR (I:Inv X pins σ H s) (E:Value->Shared->Prop):Inv (qj5 X (X.pn++pins) E) [] σ H s:=
 ⟨⟨I.ok.mod,I.ok.kind,I.ok.glob,I.ok.blt,I.ok.above,I.ok.inj,I.ok.has,I.ok.cab,I.ok.hd,I.ok.frames,I.ok.stk,I.ok.exf,I.ok.bs,I.ok.bsz,I.ok.noex,I.ok.exfs,I.ok.funs,I.ok.frf⟩,I.os,I.bare,I.base,I.loc,I.cell,I.free,I.freeC,
  fun q hq=>I.pin q ((zP.mp hq).elim id fun z=>nomatch z),I.hok,I.len⟩
theorem qfs (ok:X.Ok) (I:Inv (qj5 X (X.pn++pins) E) pins' σ H s):Inv X pins σ H s:=
 ⟨ok,I.os,I.bare,I.base,I.loc,I.cell,I.free,I.freeC,fun q hq=>I.pin q (zX _ hq),I.hok,I.len⟩
theorem qoS (I:Inv X pins σ H s) (p:Addr):Inv (qkz X (X.pn++pins) p) [] σ H s:=
 ⟨⟨I.ok.mod,I.ok.kind,I.ok.glob,I.ok.blt,I.ok.above,I.ok.inj,I.ok.has,I.ok.cab,(fun z=>nomatch z),I.ok.frames,I.ok.stk,I.ok.exf,I.ok.bs,I.ok.bsz,I.ok.noex,I.ok.exfs,I.ok.funs,I.ok.frf⟩,I.os,I.bare,I.base,I.loc,I.cell,I.free,I.freeC,
  fun q hq=>I.pin q ((zP.mp hq).elim id fun z=>nomatch z),I.hok,I.len⟩
theorem qgx (ok:X.Ok) (I:Inv (qkz X (X.pn++pins) p) pins' σ H s):Inv X pins σ H s:=
 ⟨ok,I.os,I.bare,I.base,I.loc,I.cell,I.free,I.freeC,fun q hq=>I.pin q (zX _ hq),I.hok,I.len⟩
theorem qhh {a:Addr} (z:qeJ (qj5 X (X.pn++pins) E) pins' H a):qeJ X pins H a:=⟨z.1,z.2.1,fun q hq=>z.2.2 q (zX _ hq)⟩
theorem qn0 {Dn:Ends}{f:Flow} (ok:X.Ok) (h:SP (qj5 X (X.pn++pins) E) [] Dn f s):SP X pins Dn f s:=by
 cases f with
 | next=>obtain⟨σ',H',I,q⟩:=h; exact⟨σ',H',qfs ok I,q⟩
 | brk=>obtain⟨σ',H',I,q⟩:=h; exact⟨σ',H',qfs ok I,q⟩
 | cont=>obtain⟨σ',H',I,q⟩:=h; exact⟨σ',H',qfs ok I,q⟩
 | ret u=>obtain⟨v,σ',H',I,r,q⟩:=h; exact⟨v,σ',H',qfs ok I,r,q⟩
theorem qnZ {Dn:Ends}{f:Flow} (ok:X.Ok) (h:SP (qkz X (X.pn++pins) p) [] Dn f s):SP X pins Dn f s:=by
 cases f with
 | next=>obtain⟨σ',H',I,q⟩:=h; exact⟨σ',H',qgx ok I,q⟩
 | brk=>obtain⟨σ',H',I,q⟩:=h; exact⟨σ',H',qgx ok I,q⟩
 | cont=>obtain⟨σ',H',I,q⟩:=h; exact⟨σ',H',qgx ok I,q⟩
 | ret u=>obtain⟨v,σ',H',I,r,q⟩:=h; exact⟨v,σ',H',qgx ok I,r,q⟩
end
section
variable {M:Model}{A:Around}{E:Value->Shared->Prop}{s:Shared}
theorem qh3 {K:PySem.W.Frag}{C C' e:Addr}{bm bm':List Value}{oe:Obj}{b:Bool}{Q:Bool->Shared->Prop} (kin:K.In s.heap) (ec:ExC K C bm) (ec':ExC K C' bm') (he:s.heap.get? e=some oe) (hc:oe.cls=.ref C) (hb:(Value.ref C::bm).contains (.ref C')=b) (q:Q b s):
  wpAny M A (excMatches (.ref e) (.ref C')) Q E s:=by
 obtain⟨N,nm,qn,bs,hdct,sn,sub,ab,col,dd,k0,k1,k2,k3,k5,lk,tl,ok,ini⟩:=ec
 obtain⟨N',nm',qn',bs',hdct',sn',sub',ab',col',dd',k0',k1',k2',k3',k5',lk',tl',ok',ini'⟩:=ec'
 have hC:=kin _ _ lk
 have hC':=kin _ _ lk'
 have t':(Value.ref C'::bm').contains (.type "BaseException")=true:=by
  rw [List.contains_cons,(PySem.W.tail_of_in kin tl').hasType (X:="BaseException") (b:=true) (by decide),Bool.or_true]
 have nt:=tc_notTuple
 obtain⟨hp,g,d,t,os⟩:=s
 unfold excMatches
 repeat (first
  | (with_reducible refine wpAny_loadPart_at he ?_; rw [hc])
  | with_reducible refine wpAny_loadPart_at hC' ?_
  | (with_reducible refine wpAny_isSubtype_exc hC' ?_; rw [t'])
  | (with_reducible refine wpAny_isSubtype_exc hC ?_; rw [hb])
  | wp_step)
 cases b<;>(wp_walk; exact q)
theorem lands {p:Addr}{c:Value}{L:Addr->Prop}{Q:Unit->Shared->Prop} (f:Fly s.heap p c L) (q:Q () s):wpAny M A (setFlight (.ref p) none) Q E s:=by
 obtain⟨oe,vs,a0,T,oT,ts,e1,e2,e3,e4,e5,e6,e7,e8,e9,e10,e11⟩:=f
 refine wpAny_setFlight_none e1 e3 e6 e8 e9 (Array.getElem?_eq_some_iff.mp e10).1 ?_
 rw [Heap.update_setField_same s.heap T oT ts 3 .none e8 e9 e10]
 exact q
end
def DH (X:Cx) (hs:List ExceptHandler) (c:Value) (g:FS):Prop:=∀ pins s σ H Dn p as env h,Inv X pins σ H s->Fly s.heap p c (qeJ X pins H)->RelE X.K as H env σ->RelH X.K as H h->POut X as H Dn (g env h)->
 wpAny (model X.prog X.w) X.A (handleBy (.ref p) X.env hs) (SP X pins Dn) X.xe s
noncomputable def noEx (f:FS):FS:=fun e h=>match f e h with
 | .ex _ _ _=>.bad
 | o=>o
section
variable {X:Cx}{x:Str}{np pos:Pos}{b₀:Stmt}{suite:List Stmt}{rest:List ExceptHandler}{g:FS}{C C':Addr}{bm bm':List Value}
theorem qmz (ec:ExC X.K C bm) (ec':ExC X.K C' bm') (hm:X.mg x=some (.ref C')) (hb:(Value.ref C::bm).contains (.ref C')=true) (hs:∀ pn p,DSs (qkz X pn p) (b₀::suite) g) (hg:Gl X x:=by rfl) (hdb:(x==("__debug__":Str))=false:=by decide):
  DH X (.ExceptHandler (some (.Name x np)) none (b₀::suite) pos::rest) (.ref C) (noEx g):=by
 intro pins s σ H Dn p as env h I fl re rh po
 have J:=qoS I p
 obtain⟨oe,vs,a0,T,oT,ts,e1,e2,_⟩:=id fl
 refine wpAny_handleBy_cons (codeAny_handlers_test (qgu (X:=qkz X (X.pn++pins) p) J hg hm (qh3 J.kIn ec ec' e1 e2 hb ?_) hdb)) (by intro q; cases q)
 refine codeAny_handlers_suite (lands fl ?_)
 refine wpAny_mono (hs (X.pn++pins) p [] s σ H Dn J ⟨as,env,h,re,rh,?_⟩) (fun f s2 q=>qnZ I.ok q) fun _ _ z=>z.elim
 unfold noEx at po
 cases q:g env h with
 | ex c' e' h'=>rw [q] at po; exact po.elim
 | nx e' h'=>rw [q] at po; exact po
 | rt d h'=>rw [q] at po; exact po
 | bk e' h'=>rw [q] at po; exact po
 | ct e' h'=>rw [q] at po; exact po
 | bad=>rw [q] at po; exact po
noncomputable def fTry (f:FS) (m:Value->Option FS):FS:=fun e h=>match f e h with
 | .ex c e1 h1=>(match m c with
  | some g=>g e1 h1
  | none=>.bad)
 | o=>o
theorem qnr {f:FS}{m:Value->Option FS}{e e1:En}{h h1:Hh} (q:f e h=.nx e1 h1):fTry f m e h=.nx e1 h1:=by unfold fTry; rw [q]
theorem qkN {f:FS}{m:Value->Option FS}{e:En}{h h1:Hh}{d:D} (q:f e h=.rt d h1):fTry f m e h=.rt d h1:=by unfold fTry; rw [q]
theorem qkO {f g:FS}{m:Value->Option FS}{e e1:En}{h h1:Hh}{c:Value} (q:f e h=.ex c e1 h1) (hm:m c=some g):fTry f m e h=g e1 h1:=by unfold fTry; rw [q]; dsimp only; rw [hm]
theorem qmy {body:List Stmt}{h₀:ExceptHandler}{hs:List ExceptHandler}{f:FS}{m:Value->Option FS} (hb:∀ pn E,DSs (qj5 X pn E) body f) (hh:∀ c g,m c=some g->DH X (h₀::hs) c g)
  (hex:X.ex=[]:=by rfl) (hst:X.stack=X.env::X.outer:=by rfl) (hfr:X.env.frame=some X.env.locals:=by rfl):DS X (.Try body (h₀::hs) [] [] pos) (fTry f m):=by
 rintro pins s σ H Dn I ⟨as,env,h,re,rh,p⟩
 refine wpAny_Try_except (wpAny_mono (hb (X.pn++pins) _ [] s σ H Dn (qoR I _) ⟨as,env,h,re,rh,?_⟩) (fun f s1 q=>?_) fun _ _ z=>z)
 ·unfold fTry at p
  cases q:f env h with
  | nx e' h'=>rw [q] at p; exact p
  | rt d h'=>rw [q] at p; exact p
  | bk e' h'=>rw [q] at p; exact p
  | ct e' h'=>rw [q] at p; exact p
  | bad=>rw [q] at p; exact p
  | ex c e1 h1=>
   rw [q] at p
   dsimp only at p
   cases qm:m c with
   | none=>rw [qm] at p; exact p.elim
   | some g=>
    rw [qm] at p
    rintro pins' σ' H' _ s' J ⟨b,rfl,fl⟩ ⟨as',x,rh',re'⟩
    refine qix (qfs I.ok J) hex hst hfr I.ok.frames (fl.imp (fun q9=>by obtain⟨oe,vs,a0,e1,e2,e3,e4,e5,e6⟩:=q9; exact⟨oe,vs,a0,e1,e2,e3,e4,qhh e5,e6⟩) fun z=>z.imp fun _=>qhh) fun h2 I2 fl2=>?_
    exact hh c g qm pins _ σ' H' Dn b as' e1 h1 I2 fl2 re' rh' (POut.later x p)
 ·have q':=qn0 I.ok q
  cases f with
  | next=>exact wpAny_execs_nil q'
  | brk=>exact q'
  | cont=>exact q'
  | ret u=>exact q'
end
noncomputable def mOf:List (Addr×FS)->Value->Option FS
 | [],_=>none
 | (a,g)::r,c=>match c with
  | .ref b=>if b=a then some g else mOf r (.ref b)
  | _=>none
theorem qko (a:Addr) (g:FS) (r:List (Addr×FS)):mOf ((a,g)::r) (.ref a)=some g:=by
 rw [mOf]
 exact if_pos rfl
section
variable {X:Cx}{hs:List ExceptHandler}
theorem qmq:∀ c g,mOf [] c=some g->DH X hs c g:=fun c g z=>by unfold mOf at z; cases z
theorem qkj {a:Addr}{g1:FS}{r:List (Addr×FS)} (h1:DH X hs (.ref a) g1) (h2:∀ c g,mOf r c=some g->DH X hs c g):∀ c g,mOf ((a,g1)::r) c=some g->DH X hs c g:=fun c g z=>by
 cases c with
 | ref b=>
  unfold mOf at z
  dsimp only at z
  split at z
  ·rename_i e
   cases z
   subst e
   exact h1
  ·exact h2 _ g z
 | _=>unfold mOf at z; cases z
end
theorem qgO (C:Addr) (bm:List Value):(Value.ref C::bm).contains (.ref C)=true:=by simp
inductive RO where
 | ok (d:D) | ex (c:Value)
noncomputable def RO.res (o:RO) (h:Hh):Res D:=match o with
 | .ok d=>.ok d h
 | .ex c=>.ex c h
def RO.hb (o:RO):Prop:=match o with
 | .ok d=>HB 0 d
 | .ex _=>True
open Classical in
noncomputable def relX (R:List D->RO->Prop):OX:=fun ds h=>if q:∃ o,R ds o then q.choose.res h else .bad
def RunsX (g:OX) (R:List D->RO->Prop):Prop:=∀ ds o,R ds o->o.hb/\∀ h,∃ junk,g ds h=o.res (h++junk)
def DetX (R:List D->RO->Prop):Prop:=∀ ds o o',R ds o->R ds o'->o=o'
theorem RunsX.det {g:OX}{R:List D->RO->Prop} (r:RunsX g R):DetX R:=fun ds o o' h h'=>by
 obtain⟨j,e⟩:=(r ds o h).2 []
 obtain⟨j',e'⟩:=(r ds o' h').2 []
 rw [e] at e'
 cases o<;>cases o'<;>simp [RO.res] at e' |-
 ·exact e'.1
 ·exact e'.1
theorem qgg {R:List D->RO->Prop} (t:DetX R) {ds:List D}{o:RO} (r:R ds o) (h:Hh):relX R ds h=o.res h:=by
 have e:∃ o,R ds o:=⟨o,r⟩
 unfold relX
 rw [dif_pos e,t ds _ _ e.choose_spec r]
theorem qlD {R:List D->RO->Prop} (n:∀ ds o,¬ R ds o) (ds:List D) (h:Hh):relX R ds h=.bad:=by
 unfold relX
 rw [dif_neg fun q9=>by obtain⟨o,r⟩:=q9; exact n ds o r]
theorem CalX.rel {P:Program}{w:World}{K:PySem.W.Frag}{mg:Str->Option Value}{base:Heap}{k:Nat}{x:Str}{ps:List Str}{g:OX}{R:List D->RO->Prop} (c:CalX P w K mg base k x ps g) (r:RunsX g R):CalX P w K mg base k x ps (relX R):=by
 obtain⟨f,fd,G,z⟩:=c
 refine⟨f,fd,G.imp fun vs H Q E q9=>?_,z⟩
 obtain⟨hl,as,ds,h,rh,rd,p⟩:=q9
 refine⟨hl,as,ds,h,rh,rd,?_⟩
 unfold relX at p
 split at p
 ·rename_i q
  obtain⟨hb,hj⟩:=r ds _ q.choose_spec
  obtain⟨junk,e⟩:=hj h
  rw [e]
  generalize q.choose=o at p hb
  cases o with
  | ok d=>
   intro as' H' v x rh' rd'
   obtain⟨mo,rfl⟩:=x.pre
   exact p as H' v ⟨⟨[],by simp⟩,x.tups,x.frzs⟩ (rh.cut rh') (rd'.cut ((show HB 0 d from hb).mono (xV _)))
  | ex c=>
   intro as' H' x rh'
   obtain⟨mo,rfl⟩:=x.pre
   exact p as H' ⟨⟨[],by simp⟩,x.tups,x.frzs⟩ (rh.cut rh')
 ·exact p.elim
theorem qcD {r:OX}{f:FA}{e:En}{h h1:Hh}{ds:List D} (q:f e h=.ok ds h1):fcX r f e h=r ds h1:=by unfold fcX; rw [q]; rfl
theorem qd4 {s t:FS}{e e1:En}{h h1:Hh}{c:Value} (q:s e h=.ex c e1 h1):fSeq s t e h=.ex c e1 h1:=by unfold fSeq; rw [q]
theorem qh1 {i:Nat}{f:FE}{e:En}{h h1:Hh}{c:Value} (q:f e h=.ex c h1):fSet i f e h=.ex c e h1:=by unfold fSet; rw [q]; rfl
theorem qh2 {f:FE}{e:En}{h h1:Hh}{c:Value} (q:f e h=.ex c h1):fRet f e h=.ex c e h1:=by unfold fRet; rw [q]; rfl
theorem ql4 {f:FE}{e:En}{h h1:Hh}{c:Value} (q:f e h=.ex c h1):qaU f e h=.ex c e h1:=by unfold qaU; rw [q]; rfl
section
variable {prog:Program}{w:World}{A:Around}{E:Value->Shared->Prop}{h:Heap}{g:Array GenState}{d:Drawn}{t:Nat}{os:OsState}{K:PySem.W.Frag}{a C:Addr}{o:Obj}{bm:List Value}
end
section
variable {Y:Cx}{p C C':Addr}{oe:Obj}{bm:List Value}{b:Bool}{c:Value}{cv:V}{x:Str}{i:Nat}{en:Str}{p1 p2 p3 pos:Pos}
end
theorem qkR {K:PySem.W.Frag}{C N:Addr}{nm q:Str}{bs bm sub:List Value}{hdct ab:Bool}{sn:List Str}{col:Option Bool}{dd:Option Addr}{k0 k1 k2 k3 k5:Option Value} (l:K.lookup C=some (excClassObj nm q C N bs bm hdct sn sub ab col dd k0 k1 k2 k3 k5 "ValueError.__new__"))
  (e:PySem.W.excIn K C bmV "ValueError.__new__"=true):ExC K C bm:=by
 refine⟨N,nm,q,bs,hdct,sn,sub,ab,col,dd,k0,k1,k2,k3,k5,l,?_⟩
 unfold PySem.W.excIn at e
 rw [l] at e
 simp only [Bool.and_eq_true,beq_iff_eq,Bool.not_eq_true'] at e
 obtain⟨⟨⟨⟨⟨_,_⟩,_⟩,ht⟩,hok⟩,hni⟩:=e
 exact⟨ht,hok,hni⟩
section
variable {X:Cx}{a b:Expr}{f g:FE}{pos:Pos}
end
end DL
namespace L2
open PySem PySem.Spec PyProof.Rows
section
variable {κ:Type} [DecidableEq κ]
noncomputable def valV (kvs:List (κ×V)) (k:κ):Option V:=(kvs.find? fun kv=>decide (kv.1=k)).map (·.2)
noncomputable def putK (kvs:List (κ×V)) (k:κ) (v:V):List (κ×V):=
 if (kvs.any fun kv=>decide (kv.1=k))=true then kvs.map (fun kv=>if kv.1=k then (kv.1,v) else kv) else kvs++[(k,v)]
noncomputable def dropK (kvs:List (κ×V)) (k:κ):List (κ×V):=kvs.filter fun kv=>decide (kv.1≠k)
theorem qlo {p:κ×V}{r:List (κ×V)}{k:κ} (e:p.1=k):valV (p::r) k=some p.2:=by simp [valV,List.find?_cons,e]
theorem qlp {p:κ×V}{r:List (κ×V)}{k:κ} (e:¬ p.1=k):valV (p::r) k=valV r k:=by simp [valV,List.find?_cons,e]
theorem qlq (k:κ):∀ kvs:List (κ×V),(kvs.any fun kv=>decide (kv.1=k))=(valV kvs k).isSome
 | []=>rfl
 | p::r=>by
  rw [List.any_cons]
  by_cases e:p.1=k
  ·simp only [qlo e,decide_eq_true e,Bool.true_or,Option.isSome_some]
  ·rw [qlp e,decide_eq_false e,Bool.false_or]; exact qlq k r
end
noncomputable abbrev KT (H:Hp):List (List Key×V)->List (List Key×Addr×Value)->Prop:=Paired fun p q=>p.1=q.1/\H q.2.1=some (.tup (p.1.map kV))/\RelV p.2 q.2.2
section
variable {P:Program}{w:World}{H:Hp}{h:Heap}{a:Addr}
end
def DGet (H:Hp) (a:Addr) (y:V) (r:Option V):Prop:=
 (∃ kvs k,Rd H a (.dK kvs)/\y=kV k/\r=valV kvs k)\/False
def DPut (H:Hp) (a:Addr) (y v:V) (H':Hp):Prop:=
 (∃ kvs k,H a=some (.dK kvs)/\y=kV k/\kvs.length < sizeLine/\H'=upd H a (.dK (putK kvs k v)))\/False
section
variable {X:Cx}{pins:List (Addr×Obj)}{σ:St}{H:Hp}{s:Shared}{a:Addr}{y v:V}{u r:Value}{o:Option V}{A:Around}{E:Value->Shared->Prop}
end
section
variable {X:Cx}{pins:List (Addr×Obj)}{σ:St}{H:Hp}{s:Shared}{a:Addr}{kvs:List (Key×V)}{k:Key}{u:Value}{A:Around}{E:Value->Shared->Prop}
end
section
variable {X:Cx}{o i e value:Expr}{pos pos' tpos:Pos}{td ty tv:TE}
end
section
variable {X:Cx}{pos:Pos}
end
structure M1 (X:Cx) (o:Expr) (m:Str) (apos:Pos) (e:Expr) (cpos:Pos):Prop where
 base:attributeBase o m X.env (eval o X.env)=eval o X.env
 few:((backTo cpos (starEach [e] X.env)).all (fun x=>!x.1)&&(backToKw cpos (keywordEach [] X.env)).all (fun x=>x.1.isSome)
  && decide (([e]:List Expr).length+([]:List Keyword).length+(if ([]:List Keyword).isEmpty then 0 else 1) < 30))=true
 line:(apos.endLine==cpos.line)=true
 trees:backTo cpos (starEach [e] X.env)=[(false,eval e X.env)]
structure M2 (X:Cx) (o:Expr) (m:Str) (apos:Pos) (e f:Expr) (cpos:Pos):Prop where
 base:attributeBase o m X.env (eval o X.env)=eval o X.env
 few:((backTo cpos (starEach [e,f] X.env)).all (fun x=>!x.1)&&(backToKw cpos (keywordEach [] X.env)).all (fun x=>x.1.isSome)
  && decide (([e,f]:List Expr).length+([]:List Keyword).length+(if ([]:List Keyword).isEmpty then 0 else 1) < 30))=true
 line:(apos.endLine==cpos.line)=true
 trees:backTo cpos (starEach [e,f] X.env)=[(false,eval e X.env),(false,eval f X.env)]
section
variable {X:Cx}{pins:List (Addr×Obj)}{σ:St}{H:Hp}{s:Shared}{a:Addr}{y d:V}{u r:Value}{o:Option V}{A:Around}{E:Value->Shared->Prop}
end
section
variable {X:Cx}{o e f:Expr}{apos cpos:Pos}{td ty tx:TE}
end
section
variable {X:Cx}{pins:List (Addr×Obj)}{σ:St}{H:Hp}{s:Shared}{a:Addr}{kvs:List (Key×V)}{A:Around}{E:Value->Shared->Prop}
end
section
variable {X:Cx}{pins:List (Addr×Obj)}{σ:St}{H:Hp}{s:Shared}{a:Addr}{y:V}{u:Value}{A:Around}{E:Value->Shared->Prop}
end
end L2
namespace L2
open PySem PySem.Spec PyProof.Rows
section
variable {P:Program}{w:World}{K:PySem.W.Frag}{mg:Str->Option Value}{base:Heap}
end
section
variable {X:Cx}
end
section
variable {κ:Type} [DecidableEq κ]
end
end L2
namespace DL
open PySem PySem.Spec PyProof.Rows L2
section
variable {α:Type}
end
section
variable {K:PySem.W.Frag}{as:List Addr}{H:Hp}
end
section
variable {h:Hh}{n:Nat}{kvs:List (Key×D)} (e:h[n]?=some (.dct kvs))
include e
end
section
variable {X:Cx}{a b o i e:Expr}{f g fo fi:FE}{pos pos' apos cpos p:Pos}{k:Nat}
end
end DL
namespace MD
open PySem PySem.Spec PyProof.Rows L2 DL
noncomputable def qet:FS:=
 (fSeq (fSet 2 (fC (.int 0)))
  (fSeq (qb7 (fAnd (fB (f2 oLt (fV 2) (fc oLen (fAll [(fV 0)])))) (fB (f2 oLt (f2 oIx (f2 oIx (fV 0) (fV 2)) (fC (.int 0))) (fV 1)))) (fSet 2 (f2 oAdd (fV 2) (fC (.int 1)))) 2000)
  (fRet (fV 2))))
noncomputable def qax:FS:=
 (fRet (qb9 (f1 (oIsi "int") (fV 0)) (f1 oNot (f1 (oIsi "bool") (fV 0)))))
noncomputable def qaw:FS:=
 (fSeq (fIfS (fB (f2 oLt (fV 1) (fc oLen (fAll [(fV 0)])))) (fRet (f2 oIx (fV 0) (fV 1))) qaC)
  (fRet (fC (.int 0))))
noncomputable def qaT (g__law_at:OC):FS:=
 (fSeq (fSet 1 (f2 oMod (fc g__law_at (fAll [(fV 0),(fC (.int 2))])) (f2 oMul (f2 oPow (fC (.int 10)) (fC (.int 48))) (f2 oPow (fC (.int 10)) (fC (.int 48))))))
  (fRet (f2 oIx (fLst [(f2 oPow (fC (.int 10)) (fC (.int 30))),(fC (.int 0)),(fC (.int 90)),(fC (.int 1)),(fV 1)]) (f2 oMod (f2 oDiv (fc g__law_at (fAll [(fV 0),(fC (.int 1))])) (fC (.int 18))) (fC (.int 5))))))
noncomputable def qbl:FS:=
 (fSeq (fIfS (fB (f2 oGt (fV 0) (fC (.int 6)))) (fRet (f2 oAdd (fV 0) (fV 1))) qaC)
  (fSeq (fIfS (fB (f2 oLt (fV 0) (f1 oNeg (fC (.int 6))))) (fRet (f2 oSub (fV 0) (fV 1))) qaC)
  (fRet (fV 0))))
noncomputable def qdk:FS:=
 (fRet (f2 oDiv (fV 0) (fC (.int 2))))
noncomputable def qdV:FS:=
 (fRet (fTup [(fV 0),(fV 1),(f2 oAdd (fc oLen (fAll [(fV 0)])) (fc oSum (fAll [(qek (qco (fV 1)) [] fYes (f2 oIx (fV 0) (fC (.int 2))))])))]))
noncomputable def qf2 (g_half_of:OC) (g_drawer_of:OC):FS:=
 (fSeq (fSet 2 (fc g_half_of (fAll [(fV 0)])))
  (fSeq (fSet 3 (f2 oIx (fV 1) (fC (.int 0))))
  (fSeq (fSet 4 (f2 oIx (fV 1) (fC (.int 1))))
  (fSeq (fSet 5 (fc g_drawer_of (fAll [(fSl (fV 3) qar (qaJ (fV 2))),(fSl (fV 4) qar (qaJ (f2 oAdd (fV 2) (fC (.int 1)))))])))
  (fSeq (fSet 6 (fc g_drawer_of (fAll [(fSl (fV 3) (qaJ (f2 oAdd (fV 2) (fC (.int 1)))) qar),(fSl (fV 4) (qaJ (f2 oAdd (fV 2) (fC (.int 1)))) qar)])))
  (fRet (fTup [(fV 5),(f2 oIx (fV 3) (fV 2)),(fV 6)])))))))
noncomputable def qaA (g__law_whole:OC):FS:=
 (fSeq (fIfS (fOr (fNot (fB (f1 (oIsi "tuple") (fV 0)))) (fB (f2 oNe (fc oLen (fAll [(fV 0)])) (fC (.int 3))))) (fRet (fC (.bl false))) qaC)
  (fSeq (fIfS (fOr (fNot (fB (f1 (oIsi "tuple") (f2 oIx (fV 0) (fC (.int 0)))))) (fNot (fB (f1 (oIsi "tuple") (f2 oIx (fV 0) (fC (.int 1))))))) (fRet (fC (.bl false))) qaC)
  (fSeq (fFor 1 (qco (f2 oIx (fV 0) (fC (.int 0)))) (fSeq (fIfS (fOr (fNot (fB (f1 (oIsi "tuple") (fV 1)))) (fB (f2 oNe (fc oLen (fAll [(fV 1)])) (fC (.int 2))))) (fRet (fC (.bl false))) qaC)
  (fIfS (fOr (fNot (fB (fc g__law_whole (fAll [(f2 oIx (fV 1) (fC (.int 0)))])))) (fNot (fB (f1 (oIsi "str") (f2 oIx (fV 1) (fC (.int 1))))))) (fRet (fC (.bl false))) qaC)))
  (fRet (fc g__law_whole (fAll [(f2 oIx (fV 0) (fC (.int 2)))]))))))
noncomputable def qfa:FS:=
 (fRet (f2 oAdd (f2 oAdd (fSl (fV 0) qar (qaJ (fV 1))) (fV 3)) (fSl (fV 0) (qaJ (fV 2)) qar)))
noncomputable def qcm:FS:=
 (fRet (qb9 (f2 oLt (fV 1) (fc oLen (fAll [(fV 0)]))) (f2 oEq (f2 oIx (f2 oIx (fV 0) (fV 1)) (fC (.int 0))) (fV 2))))
noncomputable def qbU (g_spliced:OC) (g_drawer_of:OC) (g_parted:OC):FS:=
 (fSeq (fSet 4 (f2 oIx (fV 1) (fC (.int 0))))
  (fSeq (fSet 5 (f2 oIx (fV 1) (fC (.int 1))))
  (fSeq (fIfS (fB (f2 oLe (fc oLen (fAll [(f2 oIx (fV 3) (fC (.int 0)))])) (fV 0))) (fRet (fc g_drawer_of (fAll [(fV 4),(fc g_spliced (fAll [(fV 5),(fV 2),(f2 oAdd (fV 2) (fC (.int 1))),(fTup [(fV 3)])]))]))) qaC)
  (fSeq (fSet 6 (fc g_parted (fAll [(fV 0),(fV 3)])))
  (fRet (fc g_drawer_of (fAll [(fc g_spliced (fAll [(fV 4),(fV 2),(fV 2),(fTup [(f2 oIx (fV 6) (fC (.int 1)))])])),(fc g_spliced (fAll [(fV 5),(fV 2),(f2 oAdd (fV 2) (fC (.int 1))),(fTup [(f2 oIx (fV 6) (fC (.int 0))),(f2 oIx (fV 6) (fC (.int 2)))])]))])))))))
noncomputable def qd7 (g_place_of:OC) (g_is_at:OC) (g_spliced:OC) (g_drawer_of:OC) (g_laid_in:OC) (g_with_under_parted:OC):FS:=
 (fSeq (fSet 4 (f2 oIx (fV 1) (fC (.int 0))))
  (fSeq (fSet 5 (f2 oIx (fV 1) (fC (.int 1))))
  (fSeq (fSet 6 (fc g_place_of (fAll [(fV 4),(fV 2)])))
  (fSeq (fIfS (fB (fc g_is_at (fAll [(fV 4),(fV 6),(fV 2)]))) (fRet (fc g_drawer_of (fAll [(fc g_spliced (fAll [(fV 4),(fV 6),(f2 oAdd (fV 6) (fC (.int 1))),(fTup [(fTup [(fV 2),(fV 3)])])])),(fV 5)]))) qaC)
  (fSeq (fIfS (fB (f2 oEq (fc oLen (fAll [(fV 5)])) (fC (.int 0)))) (fRet (fc g_drawer_of (fAll [(fc g_spliced (fAll [(fV 4),(fV 6),(fV 6),(fTup [(fTup [(fV 2),(fV 3)])])])),(fV 5)]))) qaC)
  (fSeq (fSet 7 (fc g_laid_in (fAll [(fV 0),(f2 oIx (fV 5) (fV 6)),(fV 2),(fV 3)])))
  (fRet (fc g_with_under_parted (fAll [(fV 0),(fV 1),(fV 6),(fV 7)])))))))))
noncomputable def qf1 (g_laid_in:OC) (g_parted:OC) (g_drawer_of:OC):FS:=
 (fSeq (fSet 4 (fc g_laid_in (fAll [(fV 0),(fV 1),(fV 2),(fV 3)])))
  (fSeq (fIfS (fB (f2 oLe (fc oLen (fAll [(f2 oIx (fV 4) (fC (.int 0)))])) (fV 0))) (fRet (fV 4)) qaC)
  (fSeq (fSet 5 (fc g_parted (fAll [(fV 0),(fV 4)])))
  (fRet (fc g_drawer_of (fAll [(fTup [(f2 oIx (fV 5) (fC (.int 1)))]),(fTup [(f2 oIx (fV 5) (fC (.int 0))),(f2 oIx (fV 5) (fC (.int 2)))])]))))))
noncomputable def qan:FS:=
 (fRet (fc oLen (fAll [(qek (qco (f2 oIx (fV 0) (fC (.int 0)))) [1] (fB (f2 oLt (f2 oIx (fV 0) (fC (.int 0))) (fV 1))) (fV 0))])))
noncomputable def qak:FS:=
 (fSeq (fSet 2 (f2 oIx (f2 oIx (fV 0) (fC (.int 0))) (fC (.int 0))))
  (fRet (qb9 (f2 oLt (f2 oIx (fV 0) (fC (.int 1))) (fc oLen (fAll [(fV 2)]))) (f2 oEq (f2 oIx (f2 oIx (fV 2) (f2 oIx (fV 0) (fC (.int 1)))) (fC (.int 0))) (fV 1)))))
noncomputable def qa7 (g__law_steps_to:OC) (g__law_there:OC):FS:=
 (fSeq (fSet 3 (fc g__law_steps_to (fAll [(fV 1),(f2 oIx (fV 2) (fC (.int 0)))])))
  (fSeq (fIfS (fB (fc g__law_there (fAll [(f2 oIx (fV 3) (f1 oNeg (fC (.int 1)))),(f2 oIx (fV 2) (fC (.int 0)))]))) (fSeq (qca (fV 2) (f2 oIx (f2 oIx (f2 oIx (fV 3) (f1 oNeg (fC (.int 1)))) (fC (.int 0))) (fC (.int 0))) (f2 oIx (f2 oIx (fV 3) (f1 oNeg (fC (.int 1)))) (fC (.int 1))))
  (fRet (fV 1))) qaC)
  (fSeq (qaU (fM qbr (f2 oIx (f2 oIx (f2 oIx (fV 3) (f1 oNeg (fC (.int 1)))) (fC (.int 0))) (fC (.int 0))) [(f2 oIx (f2 oIx (fV 3) (f1 oNeg (fC (.int 1)))) (fC (.int 1))),(fV 2)]))
  (fSeq (fSet 4 (f2 oDiv (fV 0) (fC (.int 2))))
  (fSeq (fFor 5 (qcC rng3 [(f2 oSub (fc oLen (fAll [(fV 3)])) (fC (.int 1))),(f1 oNeg (fC (.int 1))),(f1 oNeg (fC (.int 1)))]) (fSeq (fUnp [6,7] (f2 oIx (f2 oIx (fV 3) (fV 5)) (fC (.int 0))))
  (fIfS (fB (f2 oGt (fc oLen (fAll [(fV 6)])) (fV 0))) (fSeq (fSet 8 (fLst [(fSl (fV 6) qar (qaJ (fV 4))),(fSl (fV 7) qar (qaJ (f2 oAdd (fV 4) (fC (.int 1)))))]))
  (fSeq (fSet 9 (fLst [(fSl (fV 6) (qaJ (f2 oAdd (fV 4) (fC (.int 1)))) qar),(fSl (fV 7) (qaJ (f2 oAdd (fV 4) (fC (.int 1)))) qar)]))
  (fSeq (fIfS (fB (f2 oEq (fV 5) (fC (.int 0)))) (fRet (fLst [(fLst [(f2 oIx (fV 6) (fV 4))]),(fLst [(fV 8),(fV 9)])])) qaC)
  (fSeq (fUnp [10,11] (f2 oIx (fV 3) (f2 oSub (fV 5) (fC (.int 1)))))
  (fSeq (qaU (fM qbr (f2 oIx (fV 10) (fC (.int 0))) [(fV 11),(f2 oIx (fV 6) (fV 4))]))
  (fSeq (qca (fV 8) (f2 oIx (fV 10) (fC (.int 1))) (fV 11))
  (qaU (fM qbr (f2 oIx (fV 10) (fC (.int 1))) [(f2 oAdd (fV 11) (fC (.int 1))),(fV 9)])))))))) qaC)))
  (fRet (fV 1)))))))
noncomputable def qcN (g_drawer_of:OC) (g_spliced:OC):FS:=
 (fSeq (fSet 2 (f2 oIx (fV 0) (fC (.int 0))))
  (fSeq (fSet 3 (f2 oIx (fV 0) (fC (.int 1))))
  (fSeq (fSet 4 (f2 oIx (fV 3) (f2 oSub (fV 1) (fC (.int 1)))))
  (fSeq (fSet 5 (f2 oIx (fV 3) (fV 1)))
  (fSeq (fSet 6 (fc g_drawer_of (fAll [(fSl (f2 oIx (fV 4) (fC (.int 0))) qar (qaJ (f1 oNeg (fC (.int 1))))),(fSl (f2 oIx (fV 4) (fC (.int 1))) qar (qaJ (f1 oNeg (fC (.int 1)))))])))
  (fSeq (fSet 7 (fc g_drawer_of (fAll [(f2 oAdd (fTup [(f2 oIx (fV 2) (f2 oSub (fV 1) (fC (.int 1))))]) (f2 oIx (fV 5) (fC (.int 0)))),(f2 oAdd (fSl (f2 oIx (fV 4) (fC (.int 1))) (qaJ (f1 oNeg (fC (.int 1)))) qar) (f2 oIx (fV 5) (fC (.int 1))))])))
  (fRet (fc g_drawer_of (fAll [(fc g_spliced (fAll [(fV 2),(f2 oSub (fV 1) (fC (.int 1))),(fV 1),(fSl (f2 oIx (fV 4) (fC (.int 0))) (qaJ (f1 oNeg (fC (.int 1)))) qar)])),(fc g_spliced (fAll [(fV 3),(f2 oSub (fV 1) (fC (.int 1))),(f2 oAdd (fV 1) (fC (.int 1))),(fTup [(fV 6),(fV 7)])]))])))))))))
noncomputable def qcv (g_drawer_of:OC) (g_spliced:OC):FS:=
 (fSeq (fSet 2 (f2 oIx (fV 0) (fC (.int 0))))
  (fSeq (fSet 3 (f2 oIx (fV 0) (fC (.int 1))))
  (fSeq (fSet 4 (f2 oIx (fV 3) (fV 1)))
  (fSeq (fSet 5 (f2 oIx (fV 3) (f2 oAdd (fV 1) (fC (.int 1)))))
  (fSeq (fSet 6 (fc g_drawer_of (fAll [(f2 oAdd (f2 oIx (fV 4) (fC (.int 0))) (fTup [(f2 oIx (fV 2) (fV 1))])),(f2 oAdd (f2 oIx (fV 4) (fC (.int 1))) (fSl (f2 oIx (fV 5) (fC (.int 1))) qar (qaJ (fC (.int 1)))))])))
  (fSeq (fSet 7 (fc g_drawer_of (fAll [(fSl (f2 oIx (fV 5) (fC (.int 0))) (qaJ (fC (.int 1))) qar),(fSl (f2 oIx (fV 5) (fC (.int 1))) (qaJ (fC (.int 1))) qar)])))
  (fRet (fc g_drawer_of (fAll [(fc g_spliced (fAll [(fV 2),(fV 1),(f2 oAdd (fV 1) (fC (.int 1))),(fSl (f2 oIx (fV 5) (fC (.int 0))) qar (qaJ (fC (.int 1))))])),(fc g_spliced (fAll [(fV 3),(fV 1),(f2 oAdd (fV 1) (fC (.int 2))),(fTup [(fV 6),(fV 7)])]))])))))))))
noncomputable def qf4 (g_drawer_of:OC) (g_spliced:OC):FS:=
 (fSeq (fSet 2 (f2 oIx (fV 0) (fC (.int 0))))
  (fSeq (fSet 3 (f2 oIx (fV 0) (fC (.int 1))))
  (fSeq (fSet 4 (f2 oIx (fV 3) (fV 1)))
  (fSeq (fSet 5 (f2 oIx (fV 3) (f2 oAdd (fV 1) (fC (.int 1)))))
  (fSeq (fSet 6 (fc g_drawer_of (fAll [(f2 oAdd (f2 oAdd (f2 oIx (fV 4) (fC (.int 0))) (fTup [(f2 oIx (fV 2) (fV 1))])) (f2 oIx (fV 5) (fC (.int 0)))),(f2 oAdd (f2 oIx (fV 4) (fC (.int 1))) (f2 oIx (fV 5) (fC (.int 1))))])))
  (fRet (fc g_drawer_of (fAll [(fc g_spliced (fAll [(fV 2),(fV 1),(f2 oAdd (fV 1) (fC (.int 1))),(fTup [])])),(fc g_spliced (fAll [(fV 3),(fV 1),(f2 oAdd (fV 1) (fC (.int 2))),(fTup [(fV 6)])]))]))))))))
noncomputable def qf3 (g_half_of:OC) (g_lent_by_left:OC) (g_lent_by_right:OC) (g_joined:OC):FS:=
 (fSeq (fSet 3 (fc g_half_of (fAll [(fV 0)])))
  (fSeq (fSet 4 (f2 oIx (fV 1) (fC (.int 1))))
  (fSeq (fIfS (fB (f2 oNe (fc oLen (fAll [(f2 oIx (f2 oIx (fV 4) (fV 2)) (fC (.int 0)))])) (f2 oSub (fV 3) (fC (.int 1))))) (fRet (fV 1)) qaC)
  (fSeq (fIfS (fAnd (fB (f2 oGt (fV 2) (fC (.int 0)))) (fB (f2 oGt (fc oLen (fAll [(f2 oIx (f2 oIx (fV 4) (f2 oSub (fV 2) (fC (.int 1)))) (fC (.int 0)))])) (fV 3)))) (fRet (fc g_lent_by_left (fAll [(fV 1),(fV 2)]))) qaC)
  (fSeq (fIfS (fAnd (fB (f2 oLt (f2 oAdd (fV 2) (fC (.int 1))) (fc oLen (fAll [(fV 4)])))) (fB (f2 oGt (fc oLen (fAll [(f2 oIx (f2 oIx (fV 4) (f2 oAdd (fV 2) (fC (.int 1)))) (fC (.int 0)))])) (fV 3)))) (fRet (fc g_lent_by_right (fAll [(fV 1),(fV 2)]))) qaC)
  (fSeq (fIfS (fB (f2 oGt (fV 2) (fC (.int 0)))) (fRet (fc g_joined (fAll [(fV 1),(f2 oSub (fV 2) (fC (.int 1)))]))) qaC)
  (fRet (fc g_joined (fAll [(fV 1),(fV 2)])))))))))
noncomputable def qaZ:FS:=
 (fSeq (fUnp [3,4] (fV 1))
  (fSeq (fSet 5 (f2 oDiv (fV 0) (fC (.int 2))))
  (fSeq (fIfS (fB (f2 oGe (fc oLen (fAll [(f2 oIx (f2 oIx (fV 4) (fV 2)) (fC (.int 0)))])) (fV 5))) qjc qaC)
  (fIfS (fAnd (fB (f2 oGt (fV 2) (fC (.int 0)))) (fB (f2 oGt (fc oLen (fAll [(f2 oIx (f2 oIx (fV 4) (f2 oSub (fV 2) (fC (.int 1)))) (fC (.int 0)))])) (fV 5)))) (fSeq (qaU (fM qbr (f2 oIx (f2 oIx (fV 4) (fV 2)) (fC (.int 0))) [(fC (.int 0)),(f2 oIx (fV 3) (f2 oSub (fV 2) (fC (.int 1))))]))
  (fSeq (qca (fM oPop (f2 oIx (f2 oIx (fV 4) (f2 oSub (fV 2) (fC (.int 1)))) (fC (.int 0))) []) (fV 3) (f2 oSub (fV 2) (fC (.int 1))))
  (fIfS (fB (f2 oNe (f2 oIx (f2 oIx (fV 4) (f2 oSub (fV 2) (fC (.int 1)))) (fC (.int 1))) (fLst []))) (qaU (fM qbr (f2 oIx (f2 oIx (fV 4) (fV 2)) (fC (.int 1))) [(fC (.int 0)),(fM oPop (f2 oIx (f2 oIx (fV 4) (f2 oSub (fV 2) (fC (.int 1)))) (fC (.int 1))) [])])) qaC))) (fIfS (fAnd (fB (f2 oLt (f2 oAdd (fV 2) (fC (.int 1))) (fc oLen (fAll [(fV 4)])))) (fB (f2 oGt (fc oLen (fAll [(f2 oIx (f2 oIx (fV 4) (f2 oAdd (fV 2) (fC (.int 1)))) (fC (.int 0)))])) (fV 5)))) (fSeq (qaU (fM qa0 (f2 oIx (f2 oIx (fV 4) (fV 2)) (fC (.int 0))) [(f2 oIx (fV 3) (fV 2))]))
  (fSeq (qca (fM qbP (f2 oIx (f2 oIx (fV 4) (f2 oAdd (fV 2) (fC (.int 1)))) (fC (.int 0))) [(fC (.int 0))]) (fV 3) (fV 2))
  (fIfS (fB (f2 oNe (f2 oIx (f2 oIx (fV 4) (f2 oAdd (fV 2) (fC (.int 1)))) (fC (.int 1))) (fLst []))) (qaU (fM qa0 (f2 oIx (f2 oIx (fV 4) (fV 2)) (fC (.int 1))) [(fM qbP (f2 oIx (f2 oIx (fV 4) (f2 oAdd (fV 2) (fC (.int 1)))) (fC (.int 1))) [(fC (.int 0))])])) qaC))) (fSeq (fSet 6 (fc oMax (fAll [(fC (.int 0)),(f2 oSub (fV 2) (fC (.int 1)))])))
  (fSeq (fSet 7 (fM qbP (fV 4) [(f2 oAdd (fV 6) (fC (.int 1)))]))
  (fSeq (qaU (fM qa0 (f2 oIx (f2 oIx (fV 4) (fV 6)) (fC (.int 0))) [(fM qbP (fV 3) [(fV 6)])]))
  (fSeq (qaU (fM qc8 (f2 oIx (f2 oIx (fV 4) (fV 6)) (fC (.int 0))) [(f2 oIx (fV 7) (fC (.int 0)))]))
  (qaU (fM qc8 (f2 oIx (f2 oIx (fV 4) (fV 6)) (fC (.int 1))) [(f2 oIx (fV 7) (fC (.int 1)))])))))))))))
noncomputable def qbV (g_spliced:OC) (g_drawer_of:OC) (g_mended:OC):FS:=
 (fSeq (fSet 5 (fc g_drawer_of (fAll [(fV 1),(fc g_spliced (fAll [(fV 2),(fV 3),(f2 oAdd (fV 3) (fC (.int 1))),(fTup [(fV 4)])]))])))
  (fRet (fc g_mended (fAll [(fV 0),(fV 5),(fV 3)]))))
noncomputable def qdJ (g_drawer_of:OC) (g_last_out:OC) (g_with_under_mended:OC):FS:=
 (fSeq (fSet 2 (f2 oIx (fV 1) (fC (.int 0))))
  (fSeq (fSet 3 (f2 oIx (fV 1) (fC (.int 1))))
  (fSeq (fIfS (fB (f2 oEq (fc oLen (fAll [(fV 3)])) (fC (.int 0)))) (fRet (fTup [(f2 oIx (fV 2) (f1 oNeg (fC (.int 1)))),(fc g_drawer_of (fAll [(fSl (fV 2) qar (qaJ (f1 oNeg (fC (.int 1))))),(fTup [])]))])) qaC)
  (fSeq (fSet 4 (f2 oSub (fc oLen (fAll [(fV 3)])) (fC (.int 1))))
  (fSeq (fSet 5 (fc g_last_out (fAll [(fV 0),(f2 oIx (fV 3) (fV 4))])))
  (fRet (fTup [(f2 oIx (fV 5) (fC (.int 0))),(fc g_with_under_mended (fAll [(fV 0),(fV 2),(fV 3),(fV 4),(f2 oIx (fV 5) (fC (.int 1)))]))])))))))
noncomputable def qfN (g_taken_from:OC):FS:=
 (fSeq (fSet 3 (fc g_taken_from (fAll [(fV 0),(fV 1),(fV 2)])))
  (fSeq (fIfS (fAnd (fB (f2 oEq (fc oLen (fAll [(f2 oIx (fV 3) (fC (.int 0)))])) (fC (.int 0)))) (fB (f2 oEq (fc oLen (fAll [(f2 oIx (fV 3) (fC (.int 1)))])) (fC (.int 1))))) (fRet (f2 oIx (f2 oIx (fV 3) (fC (.int 1))) (fC (.int 0)))) qaC)
  (fRet (fV 3))))
noncomputable def qbK:FS:=
 (fSeq (fSet 2 (f2 oIx (f2 oIx (fV 0) (fC (.int 0))) (fC (.int 0))))
  (fRet (qb9 (f2 oLt (f2 oIx (fV 0) (fC (.int 1))) (fc oLen (fAll [(fV 2)]))) (f2 oEq (f2 oIx (f2 oIx (fV 2) (f2 oIx (fV 0) (fC (.int 1)))) (fC (.int 0))) (fV 1)))))
noncomputable def qa8 (g__law_steps_to:OC) (g__law_stands:OC) (g__law_mend:OC):FS:=
 (fSeq (fSet 3 (fc g__law_steps_to (fAll [(fV 1),(fV 2)])))
  (fSeq (fIfS (fNot (fB (fc g__law_stands (fAll [(f2 oIx (fV 3) (f1 oNeg (fC (.int 1)))),(fV 2)])))) (fRet (fV 1)) qaC)
  (fSeq (fUnp [4,5] (f2 oIx (fV 3) (f1 oNeg (fC (.int 1)))))
  (fSeq (fIfS (fB (f2 oEq (f2 oIx (fV 4) (fC (.int 1))) (fLst []))) (qaU (fM qbP (f2 oIx (fV 4) (fC (.int 0))) [(fV 5)])) (fSeq (fSet 6 (f2 oIx (f2 oIx (fV 4) (fC (.int 1))) (fV 5)))
  (fSeq (qb7 (fB (f2 oNe (f2 oIx (fV 6) (fC (.int 1))) (fLst []))) (fSeq (qaU (fM qa0 (fV 3) [(fTup [(fV 6),(fc oLen (fAll [(f2 oIx (fV 6) (fC (.int 0)))]))])]))
  (fSet 6 (f2 oIx (f2 oIx (fV 6) (fC (.int 1))) (f1 oNeg (fC (.int 1)))))) 2000)
  (fSeq (qaU (fM qa0 (fV 3) [(fTup [(fV 6),(fC (.int 0))])]))
  (qca (fM oPop (f2 oIx (fV 6) (fC (.int 0))) []) (f2 oIx (fV 4) (fC (.int 0))) (fV 5))))))
  (fSeq (fFor 7 (qcC rng3 [(f2 oSub (fc oLen (fAll [(fV 3)])) (fC (.int 2))),(f1 oNeg (fC (.int 1))),(f1 oNeg (fC (.int 1)))]) (qaU (fc g__law_mend (fAll [(fV 0),(f2 oIx (f2 oIx (fV 3) (fV 7)) (fC (.int 0))),(f2 oIx (f2 oIx (fV 3) (fV 7)) (fC (.int 1)))]))))
  (fSeq (fIfS (fAnd (fB (f2 oEq (f2 oIx (fV 1) (fC (.int 0))) (fLst []))) (fB (f2 oNe (f2 oIx (fV 1) (fC (.int 1))) (fLst [])))) (fRet (f2 oIx (f2 oIx (fV 1) (fC (.int 1))) (fC (.int 0)))) qaC)
  (fRet (fV 1))))))))
noncomputable def qd6 (g_place_of:OC) (g_is_at:OC) (g_note_of:OC):FS:=
 (fSeq (fSet 2 (f2 oIx (fV 0) (fC (.int 0))))
  (fSeq (fSet 3 (f2 oIx (fV 0) (fC (.int 1))))
  (fSeq (fSet 4 (fc g_place_of (fAll [(fV 2),(fV 1)])))
  (fSeq (fIfS (fB (fc g_is_at (fAll [(fV 2),(fV 4),(fV 1)]))) (fRet (f2 oIx (f2 oIx (fV 2) (fV 4)) (fC (.int 1)))) qaC)
  (fSeq (fIfS (fB (f2 oEq (fc oLen (fAll [(fV 3)])) (fC (.int 0)))) (fRet (fC .non)) qaC)
  (fRet (fc g_note_of (fAll [(f2 oIx (fV 3) (fV 4)),(fV 1)]))))))))
noncomputable def qbv (g__law_whole:OC):FS:=
 (fSeq (fIfS (fB (f2 oNe (fc oLen (fAll [(fV 0)])) (fc oLen (fAll [(fV 1)])))) (fRet (fC (.bl false))) qaC)
  (fSeq (fFor 2 (qcC rng1 [(fc oLen (fAll [(fV 1)]))]) (fSeq (fIfS (fOr (fNot (fB (f1 (oIsi "tuple") (f2 oIx (fV 0) (fV 2))))) (fB (f2 oNe (fc oLen (fAll [(f2 oIx (fV 0) (fV 2))])) (fc oLen (fAll [(f2 oIx (fV 1) (fV 2))]))))) (fRet (fC (.bl false))) qaC)
  (fSeq (fFor 3 (qco (f2 oIx (fV 0) (fV 2))) (fIfS (fAnd (fB (f2 qkb (fV 3) (fC .non))) (fAnd (fNot (fB (f1 (oIsi "str") (fV 3)))) (fNot (fB (fc g__law_whole (fAll [(fV 3)])))))) (fRet (fC (.bl false))) qaC))
  (fIfS (fB (f2 oNe (f2 oIx (fV 0) (fV 2)) (f2 oIx (fV 1) (fV 2)))) (fRet (fC (.bl false))) qaC))))
  (fRet (fC (.bl true)))))
noncomputable def qao (g__law_spot_in:OC) (g__law_there:OC):FS:=
 (fSeq (fSet 2 (fLst [(fTup [(fV 0),(fc g__law_spot_in (fAll [(fV 0),(fV 1)]))])]))
  (fSeq (qb7 (fAnd (fB (f2 oNe (f2 oIx (f2 oIx (f2 oIx (fV 2) (f1 oNeg (fC (.int 1)))) (fC (.int 0))) (fC (.int 1))) (fLst []))) (fNot (fB (fc g__law_there (fAll [(f2 oIx (fV 2) (f1 oNeg (fC (.int 1)))),(fV 1)]))))) (fSeq (fSet 3 (f2 oIx (f2 oIx (f2 oIx (f2 oIx (fV 2) (f1 oNeg (fC (.int 1)))) (fC (.int 0))) (fC (.int 1))) (f2 oIx (f2 oIx (fV 2) (f1 oNeg (fC (.int 1)))) (fC (.int 1)))))
  (qaU (fM qa0 (fV 2) [(fTup [(fV 3),(fc g__law_spot_in (fAll [(fV 3),(fV 1)]))])]))) 2000)
  (fRet (fV 2))))
noncomputable def qbn (g__law_is_drawer:OC):FS:=
 (fSeq (fSet 2 (fLst [(fTup [(fV 0),(fV 1)])]))
  (fSeq (qb7 (fB (f2 oNe (fV 2) (fLst []))) (fSeq (fUnp [3,4] (fM oPop (fV 2) []))
  (fSeq (fIfS (fOr (fNot (fB (fc g__law_is_drawer (fAll [(fV 3)])))) (fOr (fB (f2 oNe (fc qgq (fAll [(f2 oIx (fV 3) (fC (.int 0)))])) (f2 oIx (fV 4) (fC (.int 0))))) (fB (f2 oNe (fc oLen (fAll [(f2 oIx (fV 3) (fC (.int 1)))])) (fc oLen (fAll [(f2 oIx (fV 4) (fC (.int 1)))])))))) (fRet (fC (.bl false))) qaC)
  (fSeq (fSet 5 (fc oLen (fAll [(f2 oIx (fV 4) (fC (.int 0)))])))
  (fSeq (fFor 6 (qcC rng1 [(fc oLen (fAll [(f2 oIx (fV 4) (fC (.int 1)))]))]) (fSeq (fIfS (fNot (fB (fc g__law_is_drawer (fAll [(f2 oIx (f2 oIx (fV 3) (fC (.int 1))) (fV 6))])))) (fRet (fC (.bl false))) qaC)
  (fSeq (fSet 5 (f2 oAdd (fV 5) (f2 oIx (f2 oIx (f2 oIx (fV 3) (fC (.int 1))) (fV 6)) (fC (.int 2)))))
  (qaU (fM qa0 (fV 2) [(fTup [(f2 oIx (f2 oIx (fV 3) (fC (.int 1))) (fV 6)),(f2 oIx (f2 oIx (fV 4) (fC (.int 1))) (fV 6))])])))))
  (fIfS (fB (f2 oNe (f2 oIx (fV 3) (fC (.int 2))) (fV 5))) (fRet (fC (.bl false))) qaC))))) 2000)
  (fRet (fC (.bl true)))))
noncomputable def qcj (x_NoCard:Addr) (g_place_of:OC) (g_is_at:OC) (g_spliced:OC) (g_drawer_of:OC) (g_taken_from:OX) (g_with_under_mended:OC) (g_last_out:OC):FS:=
 (fSeq (fSet 3 (f2 oIx (fV 1) (fC (.int 0))))
  (fSeq (fSet 4 (f2 oIx (fV 1) (fC (.int 1))))
  (fSeq (fSet 5 (fc g_place_of (fAll [(fV 3),(fV 2)])))
  (fSeq (fSet 6 (fc g_is_at (fAll [(fV 3),(fV 5),(fV 2)])))
  (fSeq (fIfS (fB (f2 oEq (fc oLen (fAll [(fV 4)])) (fC (.int 0)))) (fSeq (fIfS (fNot (fB (fV 6))) (qkP (.ref x_NoCard) (fC (.str "no card has this number"))) qaC)
  (fRet (fc g_drawer_of (fAll [(fc g_spliced (fAll [(fV 3),(fV 5),(f2 oAdd (fV 5) (fC (.int 1))),(fTup [])])),(fTup [])])))) qaC)
  (fSeq (fIfS (fNot (fB (fV 6))) (fSeq (fSet 7 (fcX g_taken_from (fAll [(fV 0),(f2 oIx (fV 4) (fV 5)),(fV 2)])))
  (fRet (fc g_with_under_mended (fAll [(fV 0),(fV 3),(fV 4),(fV 5),(fV 7)])))) qaC)
  (fSeq (fSet 8 (fc g_last_out (fAll [(fV 0),(f2 oIx (fV 4) (fV 5))])))
  (fSeq (fSet 9 (fc g_spliced (fAll [(fV 3),(fV 5),(f2 oAdd (fV 5) (fC (.int 1))),(fTup [(f2 oIx (fV 8) (fC (.int 0)))])])))
  (fRet (fc g_with_under_mended (fAll [(fV 0),(fV 9),(fV 4),(fV 5),(f2 oIx (fV 8) (fC (.int 1)))])))))))))))
noncomputable def qbJ (x_NoWidth:Addr):FS:=
 (fIfS (fB (f2 oLt (fV 0) (fC (.int 2)))) (qkP (.ref x_NoWidth) (fC (.str "the width is below 2"))) qaC)
noncomputable def qcf (g_taken_from:OX):FS:=
 (fSeq (fSet 3 (fcX g_taken_from (fAll [(fV 0),(fV 1),(fV 2)])))
  (fSeq (fIfS (fAnd (fB (f2 oEq (fc oLen (fAll [(f2 oIx (fV 3) (fC (.int 0)))])) (fC (.int 0)))) (fB (f2 oEq (fc oLen (fAll [(f2 oIx (fV 3) (fC (.int 1)))])) (fC (.int 1))))) (fRet (f2 oIx (f2 oIx (fV 3) (fC (.int 1))) (fC (.int 0)))) qaC)
  (fRet (fV 3))))
noncomputable def qfO (g_note_of:OC) (g_put_in:OC) (g_take_out:OX) (g_asked:OX):FS:=
 (fSeq (fSet 3 (f2 oIx (fV 2) (fC (.int 0))))
  (fSeq (fIfS (fB (f2 oEq (fV 3) (fC (.str "put")))) (fRet (fTup [(fc g_note_of (fAll [(fV 1),(f2 oIx (fV 2) (fC (.int 1)))])),(fc g_put_in (fAll [(fV 0),(fV 1),(f2 oIx (fV 2) (fC (.int 1))),(f2 oIx (fV 2) (fC (.int 2)))]))])) qaC)
  (fSeq (fIfS (fB (f2 oEq (fV 3) (fC (.str "take")))) (fRet (fTup [(fc g_note_of (fAll [(fV 1),(f2 oIx (fV 2) (fC (.int 1)))])),(fcX g_take_out (fAll [(fV 0),(fV 1),(f2 oIx (fV 2) (fC (.int 1)))]))])) qaC)
  (fRet (fTup [(fcX g_asked (fAll [(fV 1),(fV 2)])),(fV 1)])))))
noncomputable def qcg (x_NoCard:Addr) (g_done:OX):FS:=
 (fTry (fRet (fcX g_done (fAll [(fV 0),(fV 1),(fV 2)]))) (mOf [(x_NoCard,noEx (fRet (fTup [(fC .non),(fV 1)])))]))
noncomputable def qdT (g_check_width:OX) (g_drawer_of:OC) (g_done_or_refused:OC):FS:=
 (fSeq (qaU (fcX g_check_width (fAll [(fV 0)])))
  (fSeq (fSet 2 (fc g_drawer_of (fAll [(fTup []),(fTup [])])))
  (fSeq (fSet 3 (fLst []))
  (fSeq (fFor 4 (qco (fV 1)) (fSeq (fSet 5 (fc g_done_or_refused (fAll [(fV 0),(fV 2),(fV 4)])))
  (fSeq (qaU (fM qa0 (fV 3) [(fV 5)]))
  (fSet 2 (f2 oIx (fV 5) (fC (.int 1)))))))
  (fRet (fV 3))))))
noncomputable def qgY (g_steps:OX):FS:=
 (fRet (qek (qco (fcX g_steps (fAll [(fV 0),(fV 1)]))) [] fYes (f2 oIx (fV 0) (fC (.int 1)))))
noncomputable def qbm:FS:=
 (fRet (qek (qcC rng1 [(fc oLen (fAll [(fV 0)]))]) [0] fYes (f2 oMod (f2 oMul (f2 oAdd (f2 oIx (fV 1) (fV 0)) (f2 oMul (fC (.int 7919)) (fV 0))) (fC (.int 48271))) (fC (.int 1000003)))))
noncomputable def qbB (g__law_reach_by:OC) (g__law_at:OC) (g__law_far:OC):FS:=
 (fSeq (fSet 1 (fc g__law_reach_by (fAll [(fV 0)])))
  (fSeq (fSet 2 (fC (.str "abcdefghijklmnopqrstuvwxyz")))
  (fSeq (fSet 3 (f2 oAdd (fC (.int 4)) (f2 oMod (fc g__law_at (fAll [(fV 0),(fC (.int 1))])) (fC (.int 60)))))
  (fSeq (fSet 4 (f2 oIx (fLst [(fC (.int 1)),(fC (.int 36)),(fC (.int 13)),(fC (.int 24))]) (f2 oMod (fc g__law_at (fAll [(fV 0),(fC (.int 2))])) (fC (.int 4)))))
  (fSeq (fSet 5 (f2 oIx (fLst [(fC (.int 37)),(fC (.int 7)),(fC (.int 1))]) (f2 oMod (f2 oDiv (fc g__law_at (fAll [(fV 0),(fC (.int 2))])) (fC (.int 4))) (fC (.int 3)))))
  (fSeq (fSet 6 (f2 oIx (fLst [(fC (.int 37)),(fC (.int 1009)),(fC (.int 37))]) (f2 oMod (f2 oDiv (fc g__law_at (fAll [(fV 0),(fC (.int 2))])) (fC (.int 12))) (fC (.int 3)))))
  (fSeq (fSet 7 (fSl (fV 0) (qaJ (fC (.int 3))) qar))
  (fSeq (fSet 8 (fLst []))
  (fSeq (fFor 9 (qcC rng1 [(fc oLen (fAll [(fV 7)]))]) (fSeq (fSet 10 (f2 oEq (f2 oMod (f2 oDiv (fV 9) (fV 3)) (fC (.int 2))) (fC (.int 0))))
  (fSeq (fSet 11 (f2 oEq (f2 oEq (f2 oMod (f2 oIx (fV 7) (fV 9)) (fC (.int 8))) (fC (.int 0))) (fV 10)))
  (fSeq (fSet 12 (f2 oMod (f2 oAdd (f2 oMod (f2 oDiv (f2 oIx (fV 7) (fV 9)) (fC (.int 8))) (fV 5)) (f2 oMul (fV 9) (fV 4))) (fV 6)))
  (fSeq (fSet 13 (fc g__law_far (fAll [(f2 oSub (fV 12) (f2 oDiv (fV 6) (fC (.int 3)))),(fV 1)])))
  (fSeq (fIfS (fAnd (fB (fV 11)) (fAnd (fB (f2 oGt (fV 9) (fC (.int 0)))) (fB (f2 oNe (f2 oMod (f2 oDiv (f2 oIx (fV 7) (fV 9)) (fC (.int 8))) (fC (.int 8))) (fC (.int 7)))))) (fSet 13 (f2 oIx (f2 oIx (fV 8) (f2 oMod (f2 oAdd (f2 oMul (f2 oMod (fV 9) (fV 3)) (fC (.int 7))) (f2 oDiv (f2 oIx (fV 7) (fV 9)) (fC (.int 64)))) (fV 9))) (fC (.int 1)))) qaC)
  (fSeq (fSet 14 (f2 oMod (f2 oDiv (f2 oIx (fV 7) (fV 9)) (fC (.int 8))) (fC (.int 27))))
  (fIfS (fB (fV 11)) (qaU (fM qa0 (fV 8) [(fTup [(fC (.str "take")),(fV 13)])])) (fSeq (fSet 15 (f2 oIx (fLst [(fC (.str "")),(fC (.str " & so on; ")),(f2 oAdd (fC (.str ", put in as No. ")) (fc oStr (fAll [(fV 9)])))]) (f2 oMod (fV 9) (fC (.int 3)))))
  (qaU (fM qa0 (fV 8) [(fTup [(fC (.str "put")),(fV 13),(f2 oAdd (fSl (fV 2) (qaJ (fV 14)) (qaJ (f2 oAdd (fV 14) (fC (.int 1))))) (fV 15))])])))))))))))
  (fRet (fV 8)))))))))))
end MD
namespace K13
open PySem PySem.Spec PyProof.Rows L2 DL MD
seal PySem.exec PySem.execs PySem.eval
local macro_rules | `(tactic| trivial)=>`(tactic| exact⟨rfl,rfl,rfl,by decide +kernel,rfl,by decide +kernel,by decide +kernel⟩)
def top (i:Nat):Stmt:=PySem.Challenge.pw_manydrawer_k13_whole_drawers_beside.main.body.getD i (.Pass ⟨0,0,0,0⟩)
abbrev qc5:Stmt:=top 5
abbrev qfg:Stmt:=top 6
abbrev qdW:Stmt:=top 7
abbrev qfd:Stmt:=top 8
abbrev qev:Stmt:=top 9
abbrev qhM:Stmt:=top 10
abbrev qfe:Stmt:=top 12
abbrev qf9:Stmt:=top 18
abbrev qbX:Stmt:=top 19
abbrev qff:Stmt:=top 20
abbrev qf8:Stmt:=top 21
abbrev qcO:Stmt:=top 22
abbrev qcw:Stmt:=top 23
abbrev qgc:Stmt:=top 24
abbrev qga:Stmt:=top 25
abbrev qbY:Stmt:=top 26
abbrev qew:Stmt:=top 27
abbrev qdo:Stmt:=top 28
abbrev qeu:Stmt:=top 29
abbrev qmR:Stmt:=top 31
abbrev qjH:Stmt:=top 32
abbrev qch:Stmt:=top 33
abbrev qhL:Stmt:=top 34
abbrev qjG:Stmt:=top 35
abbrev qdp:Stmt:=top 37
abbrev qfh:Stmt:=top 38
abbrev qcy:Stmt:=top 39
abbrev qex:Stmt:=top 40
abbrev qey:Stmt:=top 41
abbrev qdX:Stmt:=top 42
abbrev qcn:Stmt:=top 43
abbrev qdY:Stmt:=top 44
abbrev qcP:Stmt:=top 45
abbrev qdq:Stmt:=top 46
abbrev qcx:Stmt:=top 47
abbrev qc6:Stmt:=top 48
abbrev qdr:Stmt:=top 49
abbrev qdt:Stmt:=top 50
abbrev qds:Stmt:=top 51
abbrev qgb:Stmt:=top 52
theorem qfG:qaE ["width"] ["width"] (qam qc5):=by trivial
theorem qiT:qaE ["width"] ["width"] (qam qfg):=by trivial
theorem qg1:qaE ["cards","below"] ["cards","below"] (qam qdW):=by trivial
theorem qiS:qaE ["row","start","end","parts"] ["row","start","end","parts"] (qam qfd):=by trivial
theorem sc_place_of:qaE ["cards","number","place"] ["cards","number"] (qam qev):=by trivial
theorem qlw:qaE ["cards","place","number"] ["cards","place","number"] (qam qhM):=by trivial
theorem sc_note_of:qaE ["top","number","cards","below","place"] ["top","number"] (qam qfe):=by trivial
theorem sc_parted:qaE ["width","drawer","half","cards","below","left","right"] ["width","drawer"] (qam qf9):=by trivial
theorem sc_with_under_parted:qaE ["width","drawer","place","under","cards","below","parts"] ["width","drawer","place","under"] (qam qbX):=by trivial
theorem sc_laid_in:qaE ["width","drawer","number","note","cards","below","place","under"] ["width","drawer","number","note"] (qam qff):=by trivial
theorem sc_put_in:qaE ["width","top","number","note","drawer","parts"] ["width","top","number","note"] (qam qf8):=by trivial
theorem sc_lent_by_left:qaE ["drawer","place","cards","below","left","short","lender","filled"] ["drawer","place"] (qam qcO):=by trivial
theorem sc_lent_by_right:qaE ["drawer","place","cards","below","short","right","filled","lender"] ["drawer","place"] (qam qcw):=by trivial
theorem sc_joined:qaE ["drawer","place","cards","below","left","right","one"] ["drawer","place"] (qam qgc):=by trivial
theorem sc_mended:qaE ["width","drawer","place","half","below"] ["width","drawer","place"] (qam qga):=by trivial
theorem sc_with_under_mended:qaE ["width","cards","below","place","under","drawer"] ["width","cards","below","place","under"] (qam qbY):=by trivial
theorem sc_last_out:qaE ["width","drawer","cards","below","place","pair"] ["width","drawer"] (qam qew):=by trivial
theorem sc_taken_from:qaE ["width","drawer","number","cards","below","place","found","under","pair","with_stand_in"] ["width","drawer","number"] (qam qdo):=by trivial
theorem sc_take_out:qaE ["width","top","number","drawer"] ["width","top","number"] (qam qeu):=by trivial
noncomputable def qfN (g_taken_from:OX):FS:=
 (fSeq (fSet 3 (fcX g_taken_from (fAll [(fV 0),(fV 1),(fV 2)])))
  (fSeq (fIfS (fAnd (fB (f2 oEq (fc oLen (fAll [(f2 oIx (fV 3) (fC (.int 0)))])) (fC (.int 0)))) (fB (f2 oEq (fc oLen (fAll [(f2 oIx (fV 3) (fC (.int 1)))])) (fC (.int 1))))) (fRet (f2 oIx (f2 oIx (fV 3) (fC (.int 1))) (fC (.int 0)))) qaC)
  (fRet (fV 3))))
theorem sc_done:qaE ["width","top","deed","kind"] ["width","top","deed"] (qam qjH):=by trivial
theorem qd8:qaE ["width","top","deed"] ["width","top","deed"] (qam qch):=by trivial
theorem sc_steps:qaE ["width","deeds","top","row","deed","step"] ["width","deeds"] (qam qhL):=by trivial
theorem qmP:qaE ["width","deeds"] ["width","deeds"] (qam qjG):=by trivial
theorem qf6:qaE ["_law_found"] ["_law_found"] (qam qdp):=by trivial
theorem qiU:qaE ["_law_script","_law_k"] ["_law_script","_law_k"] (qam qfh):=by trivial
theorem sc__law_reach_by:qaE ["_law_script","_law_some"] ["_law_script"] (qam qcy):=by trivial
theorem qhK:qaE ["_law_number","_law_step"] ["_law_number","_law_step"] (qam qex):=by trivial
theorem sc__law_day:qaE ["_law_script","_law_step","_law_signs","_law_wave","_law_stride","_law_spread","_law_wide","_law_cells","_law_deeds","_law_k","_law_rising","_law_taking","_law_place","_law_number","_law_spot","_law_words"] ["_law_script"] (qam qey):=by trivial
theorem sc__law_same:qaE ["_law_handed","_law_deeds","_law_k","_law_part"] ["_law_handed","_law_deeds"] (qam qdX):=by trivial
theorem sc__law_is_drawer:qaE ["_law_found","_law_card"] ["_law_found"] (qam qcn):=by trivial
theorem sc__law_mend:qaE ["_law_width","_law_drawer","_law_place","_law_cards","_law_rows","_law_half","_law_spot","_law_right"] ["_law_width","_law_drawer","_law_place"] (qam qdY):=by trivial
theorem qfc:qaE ["_law_drawer","_law_number"] ["_law_drawer","_law_number"] (qam qcP):=by trivial
theorem sc__law_there:qaE ["_law_step","_law_number","_law_cards"] ["_law_step","_law_number"] (qam qdq):=by trivial
theorem sc__law_steps_to:qaE ["_law_top","_law_number","_law_way","_law_inner"] ["_law_top","_law_number"] (qam qcx):=by trivial
theorem sc__law_put_in:qaE ["_law_width","_law_top","_law_card","_law_way","_law_half","_law_k","_law_cards","_law_under","_law_left","_law_right","_law_above","_law_spot"] ["_law_width","_law_top","_law_card"] (qam qc6):=by trivial
theorem sc__law_taken:qaE ["_law_width","_law_top","_law_number","_law_way","_law_home","_law_place","_law_here","_law_k"] ["_law_width","_law_top","_law_number"] (qam qdr):=by trivial
theorem sc__law_alike:qaE ["_law_found","_law_top","_law_todo","_law_one","_law_due","_law_held","_law_k"] ["_law_found","_law_top"] (qam qdt):=by trivial
theorem qf7:qaE ["_law_script"] ["_law_script"] (qam qds):=by trivial
theorem sc_law:qaE ["_law_script","_law_width","_law_deeds","_law_handed","_law_found","_law_refused","_law_top","_law_k"] ["_law_script"] (qam qgb):=by trivial
noncomputable def qiQ (x_NoWidth:Addr) (x_DrawerError:Addr) (g__law_mixed:OC) (g__law_at:OC) (g__law_day:OC) (g_tops:OX) (g__law_same:OC) (g__law_put_in:OC) (g__law_taken:OC) (g__law_alike:OC):FS:=
 (fSeq (fSet 0 (fSl (fV 0) qar (qaJ (fC (.int 500)))))
  (fSeq (fSet 0 (fc g__law_mixed (fAll [(fSl (fV 0) qar (qaJ (fC (.int 46))))])))
  (fSeq (fSet 1 (f2 oIx (fLst [(fC (.int 2)),(fC (.int 3)),(fC (.int 4)),(fC (.int 5)),(f2 oAdd (fC (.int 6)) (f2 oMod (f2 oDiv (fc g__law_at (fAll [(fV 0),(fC (.int 0))])) (fC (.int 8))) (fC (.int 12)))),(fC (.int 1)),(fC (.int 0)),(f1 oNeg (fC (.int 1)))]) (f2 oMod (fc g__law_at (fAll [(fV 0),(fC (.int 0))])) (fC (.int 8)))))
  (fSeq (fSet 2 (fc g__law_day (fAll [(fV 0)])))
  (fSeq (fSet 3 (fc qgq (fAll [(fV 2)])))
  (fSeq (fSet 4 (fC .non))
  (fSeq (fSet 5 (fC (.bl false)))
  (fSeq (fTry (fSet 4 (fcX g_tops (fAll [(fV 1),(fV 3)]))) (mOf [(x_NoWidth,noEx (fSet 5 (fC (.bl true))))]))
  (fSeq (fIfS (fNot (fB (fc g__law_same (fAll [(fV 3),(fV 2)])))) (fRet (fC (.bl false))) qaC)
  (fSeq (fIfS (fOr (fB (fV 5)) (fB (f2 oLt (fV 1) (fC (.int 2))))) (fRet (qb9 (fV 5) (f2 oLt (fV 1) (fC (.int 2))))) qaC)
  (fSeq (fIfS (fOr (fNot (fB (f1 (oIsi "list") (fV 4)))) (fB (f2 oNe (fc oLen (fAll [(fV 4)])) (fc oLen (fAll [(fV 2)]))))) (fRet (fC (.bl false))) qaC)
  (fSeq (fSet 6 (fLst [(fLst []),(fLst [])]))
  (fSeq (fFor 7 (qcC rng1 [(fc oLen (fAll [(fV 2)]))]) (fSeq (fIfS (fB (f2 oEq (f2 oIx (f2 oIx (fV 2) (fV 7)) (fC (.int 0))) (fC (.str "put")))) (fSet 6 (fc g__law_put_in (fAll [(fV 1),(fV 6),(fSl (f2 oIx (fV 2) (fV 7)) (qaJ (fC (.int 1))) qar)]))) (fSet 6 (fc g__law_taken (fAll [(fV 1),(fV 6),(f2 oIx (f2 oIx (fV 2) (fV 7)) (fC (.int 1)))]))))
  (fIfS (fNot (fB (fc g__law_alike (fAll [(f2 oIx (fV 4) (fV 7)),(fV 6)])))) (fRet (fC (.bl false))) qaC)))
  (fRet (fC (.bl true))))))))))))))))
variable {P:Program}{w:World}{K:PySem.W.Frag}{mg:Str->Option Value}{base:Heap}{k:Nat}{fa:Addr}{fd:FuncData} (B:Bu mg)
include B
theorem qfH {x_NoWidth:Addr}{bm_NoWidth:List Value} (e_NoWidth:ExC K x_NoWidth bm_NoWidth) (m_NoWidth:mg "NoWidth"=some (.ref x_NoWidth))
  (F:Fun K "check_width" "check_width" qc5 fa fd) (hm:mg "check_width"=some (.ref fa)) (b:Binds K fd ["width"] []):CalX P w K mg base (k+1) "check_width" ["width"] (qa6 1 (qbJ x_NoWidth)):=
 qeI F qfG hm b fun cdv A outer s H E hr=>
  (qaj (qbf (qgG (dv 0) qab) (qaj (qiB e_NoWidth m_NoWidth (qaa qdF qad))) qaG))
theorem qi1
  (F:Fun K "half_of" "half_of" qfg fa fd) (hm:mg "half_of"=some (.ref fa)) (b:Binds K fd ["width"] []):Cal P w K mg base (k+1) "half_of" ["width"] (qae 1 (qdk )):=
 qbh F qiT hm b fun cdv A outer s H E hr=>
  (qaj (qay (qc0 (dv 0) qab)))
theorem qha
  (F:Fun K "drawer_of" "drawer_of" qdW fa fd) (hm:mg "drawer_of"=some (.ref fa)) (b:Binds K fd ["cards","below"] []):Cal P w K mg base (k+1) "drawer_of" ["cards","below"] (qae 2 (qdV )):=
 qbh F qg1 hm b fun cdv A outer s H E hr=>
  (qaj (qay (qa4 (qaa (dv 0) (qaa (dv 1) (qaa (qaQ (qaY B.len (qaa (dv 0) qad)) (qo7 B.sum rfl (qaa (qgM (fr:=[]) (frn:=[]) rfl (qfZ (dv 1)) fun _ _ _ _=>⟨.nil,(qai (dv 0) qab)⟩) qad))) qad))))))
theorem qi0
  (F:Fun K "spliced" "spliced" qfd fa fd) (hm:mg "spliced"=some (.ref fa)) (b:Binds K fd ["row","start","end","parts"] []):Cal P w K mg base (k+1) "spliced" ["row","start","end","parts"] (qae 4 (qfa )):=
 qbh F qiS hm b fun cdv A outer s H E hr=>
  (qaj (qay (qaQ (qaQ (qa2 (dv 0) qbj (qbe (dv 1))) (dv 3)) (qa2 (dv 0) (qbe (dv 2)) qbj))))
theorem qhS
  (F:Fun K "place_of" "place_of" qev fa fd) (hm:mg "place_of"=some (.ref fa)) (b:Binds K fd ["cards","number"] []):Cal P w K mg base (k+1) "place_of" ["cards","number"] (qae 3 (qet )):=
 qbh F sc_place_of hm b fun cdv A outer s H E hr=>
  (qac (qas (i:=2) sc_place_of.nd qab)
  (qac (qe7 2000 PassesOwn.never (dt_w (qdg (qgG (dv 2) (qaY B.len (qaa (dv 0) qad))) (qcS (qgG (qai (qai (dv 0) (dv 2)) qab) (dv 1))))) (qaj (qas (i:=2) sc_place_of.nd (qaQ (dv 2) qab))))
  (qaj (qay (dv 2)))))
theorem qlM
  (F:Fun K "is_at" "is_at" qhM fa fd) (hm:mg "is_at"=some (.ref fa)) (b:Binds K fd ["cards","place","number"] []):Cal P w K mg base (k+1) "is_at" ["cards","place","number"] (qae 3 (qcm )):=
 qbh F qlw hm b fun cdv A outer s H E hr=>
  (qaj (qay (qiG (qnC (dv 1) (qaY B.len (qaa (dv 0) qad))) (qiE (qk2 hr (qai (qai (dv 0) (dv 1)) qab) (dv 2))))))
theorem qcV {g_place_of:OC} (c_place_of:Cal P w K mg base k "place_of" ["cards","number"] g_place_of) {g_is_at:OC} (c_is_at:Cal P w K mg base k "is_at" ["cards","place","number"] g_is_at) {g_note_of:OC} (c_note_of:Cal P w K mg base k "note_of" ["top","number"] g_note_of)
  (F:Fun K "note_of" "note_of" qfe fa fd) (hm:mg "note_of"=some (.ref fa)) (b:Binds K fd ["top","number"] []):Cal P w K mg base (k+1) "note_of" ["top","number"] (qae 5 (qd6 g_place_of g_is_at g_note_of)):=
 qbh F sc_note_of hm b fun cdv A outer s H E hr=>
  (qac (qas (i:=2) sc_note_of.nd (qai (dv 0) qab))
  (qac (qas (i:=3) sc_note_of.nd (qai (dv 0) qab))
  (qac (qas (i:=4) sc_note_of.nd (qau c_place_of hr (qaa (dv 2) (qaa (dv 1) qad))))
  (qac (qbf (qbD (qau c_is_at hr (qaa (dv 2) (qaa (dv 4) (qaa (dv 1) qad))))) (qaj (qay (qai (qai (dv 2) (dv 4)) qab))) qaG)
  (qac (qbf (qeW hr (qaY B.len (qaa (dv 3) qad)) qab) (qaj (qay qiF)) qaG)
  (qaj (qay (qau c_note_of hr (qaa (qai (dv 3) (dv 4)) (qaa (dv 1) qad))))))))))
theorem qj7 {g_half_of:OC} (c_half_of:Cal P w K mg base k "half_of" ["width"] g_half_of) {g_drawer_of:OC} (c_drawer_of:Cal P w K mg base k "drawer_of" ["cards","below"] g_drawer_of)
  (F:Fun K "parted" "parted" qf9 fa fd) (hm:mg "parted"=some (.ref fa)) (b:Binds K fd ["width","drawer"] []):Cal P w K mg base (k+1) "parted" ["width","drawer"] (qae 7 (qf2 g_half_of g_drawer_of)):=
 qbh F sc_parted hm b fun cdv A outer s H E hr=>
  (qac (qas (i:=2) sc_parted.nd (qau c_half_of hr (qaa (dv 0) qad)))
  (qac (qas (i:=3) sc_parted.nd (qai (dv 1) qab))
  (qac (qas (i:=4) sc_parted.nd (qai (dv 1) qab))
  (qac (qas (i:=5) sc_parted.nd (qau c_drawer_of hr (qaa (qa2 (dv 3) qbj (qbe (dv 2))) (qaa (qa2 (dv 4) qbj (qbe (qaQ (dv 2) qab))) qad))))
  (qac (qas (i:=6) sc_parted.nd (qau c_drawer_of hr (qaa (qa2 (dv 3) (qbe (qaQ (dv 2) qab)) qbj) (qaa (qa2 (dv 4) (qbe (qaQ (dv 2) qab)) qbj) qad))))
  (qaj (qay (qa4 (qaa (dv 5) (qaa (qai (dv 3) (dv 2)) (qaa (dv 6) qad)))))))))))
theorem qdM {g_spliced:OC} (c_spliced:Cal P w K mg base k "spliced" ["row","start","end","parts"] g_spliced) {g_drawer_of:OC} (c_drawer_of:Cal P w K mg base k "drawer_of" ["cards","below"] g_drawer_of) {g_parted:OC} (c_parted:Cal P w K mg base k "parted" ["width","drawer"] g_parted)
  (F:Fun K "with_under_parted" "with_under_parted" qbX fa fd) (hm:mg "with_under_parted"=some (.ref fa)) (b:Binds K fd ["width","drawer","place","under"] []):Cal P w K mg base (k+1) "with_under_parted" ["width","drawer","place","under"] (qae 7 (qbU g_spliced g_drawer_of g_parted)):=
 qbh F sc_with_under_parted hm b fun cdv A outer s H E hr=>
  (qac (qas (i:=4) sc_with_under_parted.nd (qai (dv 1) qab))
  (qac (qas (i:=5) sc_with_under_parted.nd (qai (dv 1) qab))
  (qac (qbf (qo6 (qaY B.len (qaa (qai (dv 3) qab) qad)) (dv 0)) (qaj (qay (qau c_drawer_of hr (qaa (dv 4) (qaa (qau c_spliced hr (qaa (dv 5) (qaa (dv 2) (qaa (qaQ (dv 2) qab) (qaa (qa4 (qaa (dv 3) qad)) qad))))) qad))))) qaG)
  (qac (qas (i:=6) sc_with_under_parted.nd (qau c_parted hr (qaa (dv 0) (qaa (dv 3) qad))))
  (qaj (qay (qau c_drawer_of hr (qaa (qau c_spliced hr (qaa (dv 4) (qaa (dv 2) (qaa (dv 2) (qaa (qa4 (qaa (qai (dv 6) qab) qad)) qad))))) (qaa (qau c_spliced hr (qaa (dv 5) (qaa (dv 2) (qaa (qaQ (dv 2) qab) (qaa (qa4 (qaa (qai (dv 6) qab) (qaa (qai (dv 6) qab) qad))) qad))))) qad)))))))))
theorem qcW {g_place_of:OC} (c_place_of:Cal P w K mg base k "place_of" ["cards","number"] g_place_of) {g_is_at:OC} (c_is_at:Cal P w K mg base k "is_at" ["cards","place","number"] g_is_at) {g_spliced:OC} (c_spliced:Cal P w K mg base k "spliced" ["row","start","end","parts"] g_spliced) {g_drawer_of:OC} (c_drawer_of:Cal P w K mg base k "drawer_of" ["cards","below"] g_drawer_of) {g_laid_in:OC} (c_laid_in:Cal P w K mg base k "laid_in" ["width","drawer","number","note"] g_laid_in) {g_with_under_parted:OC} (c_with_under_parted:Cal P w K mg base k "with_under_parted" ["width","drawer","place","under"] g_with_under_parted)
  (F:Fun K "laid_in" "laid_in" qff fa fd) (hm:mg "laid_in"=some (.ref fa)) (b:Binds K fd ["width","drawer","number","note"] []):Cal P w K mg base (k+1) "laid_in" ["width","drawer","number","note"] (qae 8 (qd7 g_place_of g_is_at g_spliced g_drawer_of g_laid_in g_with_under_parted)):=
 qbh F sc_laid_in hm b fun cdv A outer s H E hr=>
  (qac (qas (i:=4) sc_laid_in.nd (qai (dv 1) qab))
  (qac (qas (i:=5) sc_laid_in.nd (qai (dv 1) qab))
  (qac (qas (i:=6) sc_laid_in.nd (qau c_place_of hr (qaa (dv 4) (qaa (dv 2) qad))))
  (qac (qbf (qbD (qau c_is_at hr (qaa (dv 4) (qaa (dv 6) (qaa (dv 2) qad))))) (qaj (qay (qau c_drawer_of hr (qaa (qau c_spliced hr (qaa (dv 4) (qaa (dv 6) (qaa (qaQ (dv 6) qab) (qaa (qa4 (qaa (qa4 (qaa (dv 2) (qaa (dv 3) qad))) qad)) qad))))) (qaa (dv 5) qad))))) qaG)
  (qac (qbf (qeW hr (qaY B.len (qaa (dv 5) qad)) qab) (qaj (qay (qau c_drawer_of hr (qaa (qau c_spliced hr (qaa (dv 4) (qaa (dv 6) (qaa (dv 6) (qaa (qa4 (qaa (qa4 (qaa (dv 2) (qaa (dv 3) qad))) qad)) qad))))) (qaa (dv 5) qad))))) qaG)
  (qac (qas (i:=7) sc_laid_in.nd (qau c_laid_in hr (qaa (dv 0) (qaa (qai (dv 5) (dv 6)) (qaa (dv 2) (qaa (dv 3) qad))))))
  (qaj (qay (qau c_with_under_parted hr (qaa (dv 0) (qaa (dv 1) (qaa (dv 6) (qaa (dv 7) qad)))))))))))))
theorem qj6 {g_laid_in:OC} (c_laid_in:Cal P w K mg base k "laid_in" ["width","drawer","number","note"] g_laid_in) {g_parted:OC} (c_parted:Cal P w K mg base k "parted" ["width","drawer"] g_parted) {g_drawer_of:OC} (c_drawer_of:Cal P w K mg base k "drawer_of" ["cards","below"] g_drawer_of)
  (F:Fun K "put_in" "put_in" qf8 fa fd) (hm:mg "put_in"=some (.ref fa)) (b:Binds K fd ["width","top","number","note"] []):Cal P w K mg base (k+1) "put_in" ["width","top","number","note"] (qae 6 (qf1 g_laid_in g_parted g_drawer_of)):=
 qbh F sc_put_in hm b fun cdv A outer s H E hr=>
  (qac (qas (i:=4) sc_put_in.nd (qau c_laid_in hr (qaa (dv 0) (qaa (dv 1) (qaa (dv 2) (qaa (dv 3) qad))))))
  (qac (qbf (qo6 (qaY B.len (qaa (qai (dv 4) qab) qad)) (dv 0)) (qaj (qay (dv 4))) qaG)
  (qac (qas (i:=5) sc_put_in.nd (qau c_parted hr (qaa (dv 0) (qaa (dv 4) qad))))
  (qaj (qay (qau c_drawer_of hr (qaa (qa4 (qaa (qai (dv 5) qab) qad)) (qaa (qa4 (qaa (qai (dv 5) qab) (qaa (qai (dv 5) qab) qad))) qad))))))))
theorem qfm {g_drawer_of:OC} (c_drawer_of:Cal P w K mg base k "drawer_of" ["cards","below"] g_drawer_of) {g_spliced:OC} (c_spliced:Cal P w K mg base k "spliced" ["row","start","end","parts"] g_spliced)
  (F:Fun K "lent_by_left" "lent_by_left" qcO fa fd) (hm:mg "lent_by_left"=some (.ref fa)) (b:Binds K fd ["drawer","place"] []):Cal P w K mg base (k+1) "lent_by_left" ["drawer","place"] (qae 8 (qcN g_drawer_of g_spliced)):=
 qbh F sc_lent_by_left hm b fun cdv A outer s H E hr=>
  (qac (qas (i:=2) sc_lent_by_left.nd (qai (dv 0) qab))
  (qac (qas (i:=3) sc_lent_by_left.nd (qai (dv 0) qab))
  (qac (qas (i:=4) sc_lent_by_left.nd (qai (dv 3) (qb1 (dv 1) qab)))
  (qac (qas (i:=5) sc_lent_by_left.nd (qai (dv 3) (dv 1)))
  (qac (qas (i:=6) sc_lent_by_left.nd (qau c_drawer_of hr (qaa (qa2 (qai (dv 4) qab) qbj (qbe (qbF qab))) (qaa (qa2 (qai (dv 4) qab) qbj (qbe (qbF qab))) qad))))
  (qac (qas (i:=7) sc_lent_by_left.nd (qau c_drawer_of hr (qaa (qaQ (qa4 (qaa (qai (dv 2) (qb1 (dv 1) qab)) qad)) (qai (dv 5) qab)) (qaa (qaQ (qa2 (qai (dv 4) qab) (qbe (qbF qab)) qbj) (qai (dv 5) qab)) qad))))
  (qaj (qay (qau c_drawer_of hr (qaa (qau c_spliced hr (qaa (dv 2) (qaa (qb1 (dv 1) qab) (qaa (dv 1) (qaa (qa2 (qai (dv 4) qab) (qbe (qbF qab)) qbj) qad))))) (qaa (qau c_spliced hr (qaa (dv 3) (qaa (qb1 (dv 1) qab) (qaa (qaQ (dv 1) qab) (qaa (qa4 (qaa (dv 6) (qaa (dv 7) qad))) qad))))) qad)))))))))))
theorem qeS {g_drawer_of:OC} (c_drawer_of:Cal P w K mg base k "drawer_of" ["cards","below"] g_drawer_of) {g_spliced:OC} (c_spliced:Cal P w K mg base k "spliced" ["row","start","end","parts"] g_spliced)
  (F:Fun K "lent_by_right" "lent_by_right" qcw fa fd) (hm:mg "lent_by_right"=some (.ref fa)) (b:Binds K fd ["drawer","place"] []):Cal P w K mg base (k+1) "lent_by_right" ["drawer","place"] (qae 8 (qcv g_drawer_of g_spliced)):=
 qbh F sc_lent_by_right hm b fun cdv A outer s H E hr=>
  (qac (qas (i:=2) sc_lent_by_right.nd (qai (dv 0) qab))
  (qac (qas (i:=3) sc_lent_by_right.nd (qai (dv 0) qab))
  (qac (qas (i:=4) sc_lent_by_right.nd (qai (dv 3) (dv 1)))
  (qac (qas (i:=5) sc_lent_by_right.nd (qai (dv 3) (qaQ (dv 1) qab)))
  (qac (qas (i:=6) sc_lent_by_right.nd (qau c_drawer_of hr (qaa (qaQ (qai (dv 4) qab) (qa4 (qaa (qai (dv 2) (dv 1)) qad))) (qaa (qaQ (qai (dv 4) qab) (qa2 (qai (dv 5) qab) qbj (qbe qab))) qad))))
  (qac (qas (i:=7) sc_lent_by_right.nd (qau c_drawer_of hr (qaa (qa2 (qai (dv 5) qab) (qbe qab) qbj) (qaa (qa2 (qai (dv 5) qab) (qbe qab) qbj) qad))))
  (qaj (qay (qau c_drawer_of hr (qaa (qau c_spliced hr (qaa (dv 2) (qaa (dv 1) (qaa (qaQ (dv 1) qab) (qaa (qa2 (qai (dv 5) qab) qbj (qbe qab)) qad))))) (qaa (qau c_spliced hr (qaa (dv 3) (qaa (dv 1) (qaa (qaQ (dv 1) qab) (qaa (qa4 (qaa (dv 6) (qaa (dv 7) qad))) qad))))) qad)))))))))))
theorem qj9 {g_drawer_of:OC} (c_drawer_of:Cal P w K mg base k "drawer_of" ["cards","below"] g_drawer_of) {g_spliced:OC} (c_spliced:Cal P w K mg base k "spliced" ["row","start","end","parts"] g_spliced)
  (F:Fun K "joined" "joined" qgc fa fd) (hm:mg "joined"=some (.ref fa)) (b:Binds K fd ["drawer","place"] []):Cal P w K mg base (k+1) "joined" ["drawer","place"] (qae 7 (qf4 g_drawer_of g_spliced)):=
 qbh F sc_joined hm b fun cdv A outer s H E hr=>
  (qac (qas (i:=2) sc_joined.nd (qai (dv 0) qab))
  (qac (qas (i:=3) sc_joined.nd (qai (dv 0) qab))
  (qac (qas (i:=4) sc_joined.nd (qai (dv 3) (dv 1)))
  (qac (qas (i:=5) sc_joined.nd (qai (dv 3) (qaQ (dv 1) qab)))
  (qac (qas (i:=6) sc_joined.nd (qau c_drawer_of hr (qaa (qaQ (qaQ (qai (dv 4) qab) (qa4 (qaa (qai (dv 2) (dv 1)) qad))) (qai (dv 5) qab)) (qaa (qaQ (qai (dv 4) qab) (qai (dv 5) qab)) qad))))
  (qaj (qay (qau c_drawer_of hr (qaa (qau c_spliced hr (qaa (dv 2) (qaa (dv 1) (qaa (qaQ (dv 1) qab) (qaa (qa4 qad) qad))))) (qaa (qau c_spliced hr (qaa (dv 3) (qaa (dv 1) (qaa (qaQ (dv 1) qab) (qaa (qa4 (qaa (dv 6) qad)) qad))))) qad))))))))))
theorem qj8 {g_half_of:OC} (c_half_of:Cal P w K mg base k "half_of" ["width"] g_half_of) {g_lent_by_left:OC} (c_lent_by_left:Cal P w K mg base k "lent_by_left" ["drawer","place"] g_lent_by_left) {g_lent_by_right:OC} (c_lent_by_right:Cal P w K mg base k "lent_by_right" ["drawer","place"] g_lent_by_right) {g_joined:OC} (c_joined:Cal P w K mg base k "joined" ["drawer","place"] g_joined)
  (F:Fun K "mended" "mended" qga fa fd) (hm:mg "mended"=some (.ref fa)) (b:Binds K fd ["width","drawer","place"] []):Cal P w K mg base (k+1) "mended" ["width","drawer","place"] (qae 5 (qf3 g_half_of g_lent_by_left g_lent_by_right g_joined)):=
 qbh F sc_mended hm b fun cdv A outer s H E hr=>
  (qac (qas (i:=3) sc_mended.nd (qau c_half_of hr (qaa (dv 0) qad)))
  (qac (qas (i:=4) sc_mended.nd (qai (dv 1) qab))
  (qac (qbf (qdC hr (qaY B.len (qaa (qai (qai (dv 4) (dv 2)) qab) qad)) (qb1 (dv 3) qab)) (qaj (qay (dv 1))) qaG)
  (qac (qbf (dt_w (qdg (qfJ (dv 2) qab) (qcS (qfJ (qaY B.len (qaa (qai (qai (dv 4) (qb1 (dv 2) qab)) qab) qad)) (dv 3))))) (qaj (qay (qau c_lent_by_left hr (qaa (dv 1) (qaa (dv 2) qad))))) qaG)
  (qac (qbf (dt_w (qdg (qgG (qaQ (dv 2) qab) (qaY B.len (qaa (dv 4) qad))) (qcS (qfJ (qaY B.len (qaa (qai (qai (dv 4) (qaQ (dv 2) qab)) qab) qad)) (dv 3))))) (qaj (qay (qau c_lent_by_right hr (qaa (dv 1) (qaa (dv 2) qad))))) qaG)
  (qac (qbf (qfJ (dv 2) qab) (qaj (qay (qau c_joined hr (qaa (dv 1) (qaa (qb1 (dv 2) qab) qad))))) qaG)
  (qaj (qay (qau c_joined hr (qaa (dv 1) (qaa (dv 2) qad)))))))))))
theorem qdN {g_spliced:OC} (c_spliced:Cal P w K mg base k "spliced" ["row","start","end","parts"] g_spliced) {g_drawer_of:OC} (c_drawer_of:Cal P w K mg base k "drawer_of" ["cards","below"] g_drawer_of) {g_mended:OC} (c_mended:Cal P w K mg base k "mended" ["width","drawer","place"] g_mended)
  (F:Fun K "with_under_mended" "with_under_mended" qbY fa fd) (hm:mg "with_under_mended"=some (.ref fa)) (b:Binds K fd ["width","cards","below","place","under"] []):Cal P w K mg base (k+1) "with_under_mended" ["width","cards","below","place","under"] (qae 6 (qbV g_spliced g_drawer_of g_mended)):=
 qbh F sc_with_under_mended hm b fun cdv A outer s H E hr=>
  (qac (qas (i:=5) sc_with_under_mended.nd (qau c_drawer_of hr (qaa (dv 1) (qaa (qau c_spliced hr (qaa (dv 2) (qaa (dv 3) (qaa (qaQ (dv 3) qab) (qaa (qa4 (qaa (dv 4) qad)) qad))))) qad))))
  (qaj (qay (qau c_mended hr (qaa (dv 0) (qaa (dv 5) (qaa (dv 3) qad)))))))
theorem qcz {g_drawer_of:OC} (c_drawer_of:Cal P w K mg base k "drawer_of" ["cards","below"] g_drawer_of) {g_last_out:OC} (c_last_out:Cal P w K mg base k "last_out" ["width","drawer"] g_last_out) {g_with_under_mended:OC} (c_with_under_mended:Cal P w K mg base k "with_under_mended" ["width","cards","below","place","under"] g_with_under_mended)
  (F:Fun K "last_out" "last_out" qew fa fd) (hm:mg "last_out"=some (.ref fa)) (b:Binds K fd ["width","drawer"] []):Cal P w K mg base (k+1) "last_out" ["width","drawer"] (qae 6 (qdJ g_drawer_of g_last_out g_with_under_mended)):=
 qbh F sc_last_out hm b fun cdv A outer s H E hr=>
  (qac (qas (i:=2) sc_last_out.nd (qai (dv 1) qab))
  (qac (qas (i:=3) sc_last_out.nd (qai (dv 1) qab))
  (qac (qbf (qeW hr (qaY B.len (qaa (dv 3) qad)) qab) (qaj (qay (qa4 (qaa (qai (dv 2) (qbF qab)) (qaa (qau c_drawer_of hr (qaa (qa2 (dv 2) qbj (qbe (qbF qab))) (qaa (qa4 qad) qad))) qad))))) qaG)
  (qac (qas (i:=4) sc_last_out.nd (qb1 (qaY B.len (qaa (dv 3) qad)) qab))
  (qac (qas (i:=5) sc_last_out.nd (qau c_last_out hr (qaa (dv 0) (qaa (qai (dv 3) (dv 4)) qad))))
  (qaj (qay (qa4 (qaa (qai (dv 5) qab) (qaa (qau c_with_under_mended hr (qaa (dv 0) (qaa (dv 2) (qaa (dv 3) (qaa (dv 4) (qaa (qai (dv 5) qab) qad)))))) qad))))))))))
theorem qb5 {x_NoCard:Addr}{bm_NoCard:List Value} (e_NoCard:ExC K x_NoCard bm_NoCard) (m_NoCard:mg "NoCard"=some (.ref x_NoCard)) {g_place_of:OC} (c_place_of:Cal P w K mg base k "place_of" ["cards","number"] g_place_of) {g_is_at:OC} (c_is_at:Cal P w K mg base k "is_at" ["cards","place","number"] g_is_at) {g_spliced:OC} (c_spliced:Cal P w K mg base k "spliced" ["row","start","end","parts"] g_spliced) {g_drawer_of:OC} (c_drawer_of:Cal P w K mg base k "drawer_of" ["cards","below"] g_drawer_of) {g_taken_from:OX} (c_taken_from:CalX P w K mg base k "taken_from" ["width","drawer","number"] g_taken_from) {g_with_under_mended:OC} (c_with_under_mended:Cal P w K mg base k "with_under_mended" ["width","cards","below","place","under"] g_with_under_mended) {g_last_out:OC} (c_last_out:Cal P w K mg base k "last_out" ["width","drawer"] g_last_out)
  (F:Fun K "taken_from" "taken_from" qdo fa fd) (hm:mg "taken_from"=some (.ref fa)) (b:Binds K fd ["width","drawer","number"] []):CalX P w K mg base (k+1) "taken_from" ["width","drawer","number"] (qa6 10 (qcj x_NoCard g_place_of g_is_at g_spliced g_drawer_of g_taken_from g_with_under_mended g_last_out)):=
 qeI F sc_taken_from hm b fun cdv A outer s H E hr=>
  (qac (qas (i:=3) sc_taken_from.nd (qai (dv 1) qab))
  (qac (qas (i:=4) sc_taken_from.nd (qai (dv 1) qab))
  (qac (qas (i:=5) sc_taken_from.nd (qau c_place_of hr (qaa (dv 3) (qaa (dv 2) qad))))
  (qac (qas (i:=6) sc_taken_from.nd (qau c_is_at hr (qaa (dv 3) (qaa (dv 5) (qaa (dv 2) qad)))))
  (qac (qbf (qeW hr (qaY B.len (qaa (dv 4) qad)) qab) (qac (qbf (qcb (qbD (dv 6))) (qaj (qiB e_NoCard m_NoCard (qaa qdF qad))) qaG)
  (qaj (qay (qau c_drawer_of hr (qaa (qau c_spliced hr (qaa (dv 3) (qaa (dv 5) (qaa (qaQ (dv 5) qab) (qaa (qa4 qad) qad))))) (qaa (qa4 qad) qad)))))) qaG)
  (qac (qbf (qcb (qbD (dv 6))) (qac (qas (i:=7) sc_taken_from.nd (qdH c_taken_from hr (qaa (dv 0) (qaa (qai (dv 4) (dv 5)) (qaa (dv 2) qad)))))
  (qaj (qay (qau c_with_under_mended hr (qaa (dv 0) (qaa (dv 3) (qaa (dv 4) (qaa (dv 5) (qaa (dv 7) qad))))))))) qaG)
  (qac (qas (i:=8) sc_taken_from.nd (qau c_last_out hr (qaa (dv 0) (qaa (qai (dv 4) (dv 5)) qad))))
  (qac (qas (i:=9) sc_taken_from.nd (qau c_spliced hr (qaa (dv 3) (qaa (dv 5) (qaa (qaQ (dv 5) qab) (qaa (qa4 (qaa (qai (dv 8) qab) qad)) qad))))))
  (qaj (qay (qau c_with_under_mended hr (qaa (dv 0) (qaa (dv 9) (qaa (dv 4) (qaa (dv 5) (qaa (qai (dv 8) qab) qad))))))))))))))))
theorem qhR {g_taken_from:OX} (c_taken_from:CalX P w K mg base k "taken_from" ["width","drawer","number"] g_taken_from)
  (F:Fun K "take_out" "take_out" qeu fa fd) (hm:mg "take_out"=some (.ref fa)) (b:Binds K fd ["width","top","number"] []):CalX P w K mg base (k+1) "take_out" ["width","top","number"] (qa6 4 (qfN g_taken_from)):=
 qeI F sc_take_out hm b fun cdv A outer s H E hr=>
  (qac (qas (i:=3) sc_take_out.nd (qdH c_taken_from hr (qaa (dv 0) (qaa (dv 1) (qaa (dv 2) qad)))))
  (qac (qbf (dt_w (qdg (qeW hr (qaY B.len (qaa (qai (dv 3) qab) qad)) qab) (qcS (qeW hr (qaY B.len (qaa (qai (dv 3) qab) qad)) qab)))) (qaj (qay (qai (qai (dv 3) qab) qab))) qaG)
  (qaj (qay (dv 3)))))
theorem qnf {g_note_of:OC} (c_note_of:Cal P w K mg base k "note_of" ["top","number"] g_note_of) {g_put_in:OC} (c_put_in:Cal P w K mg base k "put_in" ["width","top","number","note"] g_put_in) {g_take_out:OX} (c_take_out:CalX P w K mg base k "take_out" ["width","top","number"] g_take_out) {g_asked:OX} (c_asked:CalX P w K mg base k "asked" ["top","deed"] g_asked)
  (F:Fun K "done" "done" qjH fa fd) (hm:mg "done"=some (.ref fa)) (b:Binds K fd ["width","top","deed"] []):CalX P w K mg base (k+1) "done" ["width","top","deed"] (qa6 4 (qfO g_note_of g_put_in g_take_out g_asked)):=
 qeI F sc_done hm b fun cdv A outer s H E hr=>
  (qac (qas (i:=3) sc_done.nd (qai (dv 2) qab))
  (qac (qbf (qeW hr (dv 3) qdF) (qaj (qay (qa4 (qaa (qau c_note_of hr (qaa (dv 1) (qaa (qai (dv 2) qab) qad))) (qaa (qau c_put_in hr (qaa (dv 0) (qaa (dv 1) (qaa (qai (dv 2) qab) (qaa (qai (dv 2) qab) qad))))) qad))))) qaG)
  (qac (qbf (qeW hr (dv 3) qdF) (qaj (qay (qa4 (qaa (qau c_note_of hr (qaa (dv 1) (qaa (qai (dv 2) qab) qad))) (qaa (qdH c_take_out hr (qaa (dv 0) (qaa (dv 1) (qaa (qai (dv 2) qab) qad)))) qad))))) qaG)
  (qaj (qay (qa4 (qaa (qdH c_asked hr (qaa (dv 1) (qaa (dv 2) qad))) (qaa (dv 1) qad))))))))
theorem qed {x_NoCard:Addr}{bm_NoCard:List Value} (e_NoCard:ExC K x_NoCard bm_NoCard) (m_NoCard:mg "NoCard"=some (.ref x_NoCard)) {g_done:OX} (c_done:CalX P w K mg base k "done" ["width","top","deed"] g_done)
  (F:Fun K "done_or_refused" "done_or_refused" qch fa fd) (hm:mg "done_or_refused"=some (.ref fa)) (b:Binds K fd ["width","top","deed"] []):Cal P w K mg base (k+1) "done_or_refused" ["width","top","deed"] (qae 3 (qcg x_NoCard g_done)):=
 qbh F qd8 hm b fun cdv A outer s H E hr=>
  (qaj (qmy (fun _ _=>(qaj (qay (qdH c_done hr (qaa (dv 0) (qaa (dv 1) (qaa (dv 2) qad))))))) (qkj (qmz e_NoCard e_NoCard m_NoCard (qgO _ _) fun _ _=>(qaj (qay (qa4 (qaa qiF (qaa (dv 1) qad)))))) qmq)))
theorem qlL {g_check_width:OX} (c_check_width:CalX P w K mg base k "check_width" ["width"] g_check_width) {g_drawer_of:OC} (c_drawer_of:Cal P w K mg base k "drawer_of" ["cards","below"] g_drawer_of) {g_done_or_refused:OC} (c_done_or_refused:Cal P w K mg base k "done_or_refused" ["width","top","deed"] g_done_or_refused)
  (F:Fun K "steps" "steps" qhL fa fd) (hm:mg "steps"=some (.ref fa)) (b:Binds K fd ["width","deeds"] []):CalX P w K mg base (k+1) "steps" ["width","deeds"] (qa6 6 (qdT g_check_width g_drawer_of g_done_or_refused)):=
 qeI F sc_steps hm b fun cdv A outer s H E hr=>
  (qac (qbs (qdH c_check_width hr (qaa (dv 0) qad)))
  (qac (qas (i:=2) sc_steps.nd (qau c_drawer_of hr (qaa (qa4 qad) (qaa (qa4 qad) qad))))
  (qac (qas (i:=3) sc_steps.nd (qbt qad))
  (qac (qen (i:=4) PassesOwn.leaving rfl sc_steps.nd (qfZ (dv 1)) (qac (qas (i:=5) sc_steps.nd (qau c_done_or_refused hr (qaa (dv 0) (qaa (dv 2) (qaa (dv 4) qad)))))
  (qac (qbs (qbS (dv 3) (qaa (dv 5) qad)))
  (qaj (qas (i:=2) sc_steps.nd (qai (dv 5) qab))))))
  (qaj (qay (dv 3)))))))
theorem qne {g_steps:OX} (c_steps:CalX P w K mg base k "steps" ["width","deeds"] g_steps)
  (F:Fun K "tops" "tops" qjG fa fd) (hm:mg "tops"=some (.ref fa)) (b:Binds K fd ["width","deeds"] []):CalX P w K mg base (k+1) "tops" ["width","deeds"] (qa6 2 (qgY g_steps)):=
 qeI F qmP hm b fun cdv A outer s H E hr=>
  (qaj (qay (qgM (fr:=[]) (frn:=[]) rfl (qfZ (qdH c_steps hr (qaa (dv 0) (qaa (dv 1) qad)))) fun _ _ _ _=>⟨.nil,(qai (dv 0) qab)⟩)))
theorem qgj
  (F:Fun K "_law_whole" "_law_whole" qdp fa fd) (hm:mg "_law_whole"=some (.ref fa)) (b:Binds K fd ["_law_found"] []):Cal P w K mg base (k+1) "_law_whole" ["_law_found"] (qae 1 (qax )):=
 qbh F qf6 hm b fun cdv A outer s H E hr=>
  (qaj (qay (qiG (qdQ qnj qpd B.isinstance B.int (dv 0)) (qiE (qo8 (qdQ qlZ qnH B.isinstance B.bool (dv 0)))))))
theorem qi2
  (F:Fun K "_law_at" "_law_at" qfh fa fd) (hm:mg "_law_at"=some (.ref fa)) (b:Binds K fd ["_law_script","_law_k"] []):Cal P w K mg base (k+1) "_law_at" ["_law_script","_law_k"] (qae 2 (qaw )):=
 qbh F qiU hm b fun cdv A outer s H E hr=>
  (qac (qbf (qgG (dv 1) (qaY B.len (qaa (dv 0) qad))) (qaj (qay (qai (dv 0) (dv 1)))) qaG)
  (qaj (qay qab)))
theorem qeU {g__law_at:OC} (c__law_at:Cal P w K mg base k "_law_at" ["_law_script","_law_k"] g__law_at)
  (F:Fun K "_law_reach_by" "_law_reach_by" qcy fa fd) (hm:mg "_law_reach_by"=some (.ref fa)) (b:Binds K fd ["_law_script"] []):Cal P w K mg base (k+1) "_law_reach_by" ["_law_script"] (qae 2 (qaT g__law_at)):=
 qbh F sc__law_reach_by hm b fun cdv A outer s H E hr=>
  (qac (qas (i:=1) sc__law_reach_by.nd (qcc (qau c__law_at hr (qaa (dv 0) (qaa qab qad))) (qhv (qk0 qab qab) (qk0 qab qab))))
  (qaj (qay (qai (qbt (qaa (qk0 qab qab) (qaa qab (qaa qab (qaa qab (qaa (dv 1) qad)))))) (qcc (qc0 (qau c__law_at hr (qaa (dv 0) (qaa qab qad))) qab) qab)))))
theorem qhT
  (F:Fun K "_law_far" "_law_far" qex fa fd) (hm:mg "_law_far"=some (.ref fa)) (b:Binds K fd ["_law_number","_law_step"] []):Cal P w K mg base (k+1) "_law_far" ["_law_number","_law_step"] (qae 2 (qbl )):=
 qbh F qhK hm b fun cdv A outer s H E hr=>
  (qac (qbf (qfJ (dv 0) qab) (qaj (qay (qaQ (dv 0) (dv 1)))) qaG)
  (qac (qbf (qgG (dv 0) (qbF qab)) (qaj (qay (qb1 (dv 0) (dv 1)))) qaG)
  (qaj (qay (dv 0)))))
theorem qhU {g__law_reach_by:OC} (c__law_reach_by:Cal P w K mg base k "_law_reach_by" ["_law_script"] g__law_reach_by) {g__law_at:OC} (c__law_at:Cal P w K mg base k "_law_at" ["_law_script","_law_k"] g__law_at) {g__law_far:OC} (c__law_far:Cal P w K mg base k "_law_far" ["_law_number","_law_step"] g__law_far)
  (F:Fun K "_law_day" "_law_day" qey fa fd) (hm:mg "_law_day"=some (.ref fa)) (b:Binds K fd ["_law_script"] []):Cal P w K mg base (k+1) "_law_day" ["_law_script"] (qae 16 (qbB g__law_reach_by g__law_at g__law_far)):=
 qbh F sc__law_day hm b fun cdv A outer s H E hr=>
  (qac (qas (i:=1) sc__law_day.nd (qau c__law_reach_by hr (qaa (dv 0) qad)))
  (qac (qas (i:=2) sc__law_day.nd qdF)
  (qac (qas (i:=3) sc__law_day.nd (qaQ qab (qcc (qau c__law_at hr (qaa (dv 0) (qaa qab qad))) qab)))
  (qac (qas (i:=4) sc__law_day.nd (qai (qbt (qaa qab (qaa qab (qaa qab (qaa qab qad))))) (qcc (qau c__law_at hr (qaa (dv 0) (qaa qab qad))) qab)))
  (qac (qas (i:=5) sc__law_day.nd (qai (qbt (qaa qab (qaa qab (qaa qab qad)))) (qcc (qc0 (qau c__law_at hr (qaa (dv 0) (qaa qab qad))) qab) qab)))
  (qac (qas (i:=6) sc__law_day.nd (qai (qbt (qaa qab (qaa qab (qaa qab qad)))) (qcc (qc0 (qau c__law_at hr (qaa (dv 0) (qaa qab qad))) qab) qab)))
  (qac (qas (i:=7) sc__law_day.nd (qa2 (dv 0) (qbe qab) qbj))
  (qac (qas (i:=8) sc__law_day.nd (qbt qad))
  (qac (qen (i:=9) PassesOwn.never rfl sc__law_day.nd (qdE B.range (qaa (qaY B.len (qaa (dv 7) qad)) qad)) (qac (qas (i:=10) sc__law_day.nd (qk2 hr (qcc (qc0 (dv 9) (dv 3)) qab) qab))
  (qac (qas (i:=11) sc__law_day.nd (qk2 hr (qk2 hr (qcc (qai (dv 7) (dv 9)) qab) qab) (dv 10)))
  (qac (qas (i:=12) sc__law_day.nd (qcc (qaQ (qcc (qc0 (qai (dv 7) (dv 9)) qab) (dv 5)) (qhv (dv 9) (dv 4))) (dv 6)))
  (qac (qas (i:=13) sc__law_day.nd (qau c__law_far hr (qaa (qb1 (dv 12) (qc0 (dv 6) qab)) (qaa (dv 1) qad))))
  (qac (qbf (dt_w (qdg (qbD (dv 11)) (qdg (qfJ (dv 9) qab) (qcS (qdC hr (qcc (qc0 (qai (dv 7) (dv 9)) qab) qab) qab))))) (qaj (qas (i:=13) sc__law_day.nd (qai (qai (dv 8) (qcc (qaQ (qhv (qcc (dv 9) (dv 3)) qab) (qc0 (qai (dv 7) (dv 9)) qab)) (dv 9))) qab))) qaG)
  (qac (qas (i:=14) sc__law_day.nd (qcc (qc0 (qai (dv 7) (dv 9)) qab) qab))
  (qaj (qbf (qbD (dv 11)) (qaj (qbs (qbS (dv 8) (qaa (qa4 (qaa qdF (qaa (dv 13) qad))) qad)))) (qac (qas (i:=15) sc__law_day.nd (qai (qbt (qaa qdF (qaa qdF (qaa (qaQ qdF (qnB B.str (qaa (dv 9) qad))) qad)))) (qcc (dv 9) qab)))
  (qaj (qbs (qbS (dv 8) (qaa (qa4 (qaa qdF (qaa (dv 13) (qaa (qaQ (qa2 (dv 2) (qbe (dv 14)) (qbe (qaQ (dv 14) qab))) (dv 15)) qad)))) qad))))))))))))))
  (qaj (qay (dv 8))))))))))))
theorem qhb {g__law_whole:OC} (c__law_whole:Cal P w K mg base k "_law_whole" ["_law_found"] g__law_whole)
  (F:Fun K "_law_same" "_law_same" qdX fa fd) (hm:mg "_law_same"=some (.ref fa)) (b:Binds K fd ["_law_handed","_law_deeds"] []):Cal P w K mg base (k+1) "_law_same" ["_law_handed","_law_deeds"] (qae 4 (qbv g__law_whole)):=
 qbh F sc__law_same hm b fun cdv A outer s H E hr=>
  (qac (qbf (qdC hr (qaY B.len (qaa (dv 0) qad)) (qaY B.len (qaa (dv 1) qad))) (qaj (qay qdd)) qaG)
  (qac (qen (i:=2) PassesOwn.never rfl sc__law_same.nd (qdE B.range (qaa (qaY B.len (qaa (dv 1) qad)) qad)) (qac (qbf (dt_w (qgF (qcb (qbD (qdQ qdy qeq B.isinstance B.tuple (qai (dv 0) (dv 2))))) (qeP (qdC hr (qaY B.len (qaa (qai (dv 0) (dv 2)) qad)) (qaY B.len (qaa (qai (dv 1) (dv 2)) qad)))))) (qaj (qay qdd)) qaG)
  (qac (qen (i:=3) PassesOwn.never rfl sc__law_same.nd (qfZ (qai (dv 0) (dv 2))) (qaj (qbf (dt_w (qdg (qnu (dv 3) qiF) (qdg (qcb (qbD (qdQ qkt qmE B.isinstance B.str (dv 3)))) (qcS (qcb (qbD (qau c__law_whole hr (qaa (dv 3) qad)))))))) (qaj (qay qdd)) qaG)))
  (qaj (qbf (qdC hr (qai (dv 0) (dv 2)) (qai (dv 1) (dv 2))) (qaj (qay qdd)) qaG)))))
  (qaj (qay qdd))))
theorem qez {g__law_whole:OC} (c__law_whole:Cal P w K mg base k "_law_whole" ["_law_found"] g__law_whole)
  (F:Fun K "_law_is_drawer" "_law_is_drawer" qcn fa fd) (hm:mg "_law_is_drawer"=some (.ref fa)) (b:Binds K fd ["_law_found"] []):Cal P w K mg base (k+1) "_law_is_drawer" ["_law_found"] (qae 2 (qaA g__law_whole)):=
 qbh F sc__law_is_drawer hm b fun cdv A outer s H E hr=>
  (qac (qbf (dt_w (qgF (qcb (qbD (qdQ qdy qeq B.isinstance B.tuple (dv 0)))) (qeP (qdC hr (qaY B.len (qaa (dv 0) qad)) qab)))) (qaj (qay qdd)) qaG)
  (qac (qbf (dt_w (qgF (qcb (qbD (qdQ qdy qeq B.isinstance B.tuple (qai (dv 0) qab)))) (qeP (qcb (qbD (qdQ qdy qeq B.isinstance B.tuple (qai (dv 0) qab))))))) (qaj (qay qdd)) qaG)
  (qac (qen (i:=1) PassesOwn.never rfl sc__law_is_drawer.nd (qfZ (qai (dv 0) qab)) (qac (qbf (dt_w (qgF (qcb (qbD (qdQ qdy qeq B.isinstance B.tuple (dv 1)))) (qeP (qdC hr (qaY B.len (qaa (dv 1) qad)) qab)))) (qaj (qay qdd)) qaG)
  (qaj (qbf (dt_w (qgF (qcb (qbD (qau c__law_whole hr (qaa (qai (dv 1) qab) qad)))) (qeP (qcb (qbD (qdQ qkt qmE B.isinstance B.str (qai (dv 1) qab))))))) (qaj (qay qdd)) qaG))))
  (qaj (qay (qau c__law_whole hr (qaa (qai (dv 0) qab) qad)))))))
theorem qhc
  (F:Fun K "_law_mend" "_law_mend" qdY fa fd) (hm:mg "_law_mend"=some (.ref fa)) (b:Binds K fd ["_law_width","_law_drawer","_law_place"] []):Cal P w K mg base (k+1) "_law_mend" ["_law_width","_law_drawer","_law_place"] (qae 8 (qaZ )):=
 qbh F sc__law_mend hm b fun cdv A outer s H E hr=>
  (qac (qfA (i:=3) (j:=4) rfl sc__law_mend.nd (dv 1))
  (qac (qas (i:=5) sc__law_mend.nd (qc0 (dv 0) qab))
  (qac (qbf (dt_ge (qaY B.len (qaa (qai (qai (dv 4) (dv 2)) qab) qad)) (dv 5)) (qaj qnv) qaG)
  (qaj (qbf (dt_w (qdg (qfJ (dv 2) qab) (qcS (qfJ (qaY B.len (qaa (qai (qai (dv 4) (qb1 (dv 2) qab)) qab) qad)) (dv 5))))) (qac (qbs (qdG (qai (qai (dv 4) (dv 2)) qab) (qaa qab (qaa (qai (dv 3) (qb1 (dv 2) qab)) qad))))
  (qac (qem (qiD (qai (qai (dv 4) (qb1 (dv 2) qab)) qab)) (dv 3) (qb1 (dv 2) qab))
  (qaj (qbf (qdC hr (qai (qai (dv 4) (qb1 (dv 2) qab)) qab) (qbt qad)) (qaj (qbs (qdG (qai (qai (dv 4) (dv 2)) qab) (qaa qab (qaa (qiD (qai (qai (dv 4) (qb1 (dv 2) qab)) qab)) qad))))) qaG)))) (qaj (qbf (dt_w (qdg (qgG (qaQ (dv 2) qab) (qaY B.len (qaa (dv 4) qad))) (qcS (qfJ (qaY B.len (qaa (qai (qai (dv 4) (qaQ (dv 2) qab)) qab) qad)) (dv 5))))) (qac (qbs (qbS (qai (qai (dv 4) (dv 2)) qab) (qaa (qai (dv 3) (dv 2)) qad)))
  (qac (qem (qep (qai (qai (dv 4) (qaQ (dv 2) qab)) qab) (qaa qab qad)) (dv 3) (dv 2))
  (qaj (qbf (qdC hr (qai (qai (dv 4) (qaQ (dv 2) qab)) qab) (qbt qad)) (qaj (qbs (qbS (qai (qai (dv 4) (dv 2)) qab) (qaa (qep (qai (qai (dv 4) (qaQ (dv 2) qab)) qab) (qaa qab qad)) qad)))) qaG)))) (qac (qas (i:=6) sc__law_mend.nd (qo9 B.max rfl (qaa qab (qaa (qb1 (dv 2) qab) qad))))
  (qac (qas (i:=7) sc__law_mend.nd (qep (dv 4) (qaa (qaQ (dv 6) qab) qad)))
  (qac (qbs (qbS (qai (qai (dv 4) (dv 6)) qab) (qaa (qep (dv 3) (qaa (dv 6) qad)) qad)))
  (qac (qbs (qhw (qai (qai (dv 4) (dv 6)) qab) (qaa (qai (dv 7) qab) qad)))
  (qaj (qbs (qhw (qai (qai (dv 4) (dv 6)) qab) (qaa (qai (dv 7) qab) qad)))))))))))))))
theorem qfn
  (F:Fun K "_law_spot_in" "_law_spot_in" qcP fa fd) (hm:mg "_law_spot_in"=some (.ref fa)) (b:Binds K fd ["_law_drawer","_law_number"] []):Cal P w K mg base (k+1) "_law_spot_in" ["_law_drawer","_law_number"] (qae 2 (qan )):=
 qbh F qfc hm b fun cdv A outer s H E hr=>
  (qaj (qay (qaY B.len (qaa (qgM (fr:=[1]) (frn:=["_law_number"]) rfl (qfZ (qai (dv 0) qab)) fun _ _ _ _=>⟨(.one (qgG (qai (dv 0) qab) (dv 1))),(dv 0)⟩) qad))))
theorem qgk
  (F:Fun K "_law_there" "_law_there" qdq fa fd) (hm:mg "_law_there"=some (.ref fa)) (b:Binds K fd ["_law_step","_law_number"] []):Cal P w K mg base (k+1) "_law_there" ["_law_step","_law_number"] (qae 3 (qak )):=
 qbh F sc__law_there hm b fun cdv A outer s H E hr=>
  (qac (qas (i:=2) sc__law_there.nd (qai (qai (dv 0) qab) qab))
  (qaj (qay (qiG (qnC (qai (dv 0) qab) (qaY B.len (qaa (dv 2) qad))) (qiE (qk2 hr (qai (qai (dv 2) (qai (dv 0) qab)) qab) (dv 1)))))))
theorem qeT {g__law_spot_in:OC} (c__law_spot_in:Cal P w K mg base k "_law_spot_in" ["_law_drawer","_law_number"] g__law_spot_in) {g__law_there:OC} (c__law_there:Cal P w K mg base k "_law_there" ["_law_step","_law_number"] g__law_there)
  (F:Fun K "_law_steps_to" "_law_steps_to" qcx fa fd) (hm:mg "_law_steps_to"=some (.ref fa)) (b:Binds K fd ["_law_top","_law_number"] []):Cal P w K mg base (k+1) "_law_steps_to" ["_law_top","_law_number"] (qae 4 (qao g__law_spot_in g__law_there)):=
 qbh F sc__law_steps_to hm b fun cdv A outer s H E hr=>
  (qac (qas (i:=2) sc__law_steps_to.nd (qbt (qaa (qa4 (qaa (dv 0) (qaa (qau c__law_spot_in hr (qaa (dv 0) (qaa (dv 1) qad))) qad))) qad)))
  (qac (qe7 2000 PassesOwn.never (dt_w (qdg (qdC hr (qai (qai (qai (dv 2) (qbF qab)) qab) qab) (qbt qad)) (qcS (qcb (qbD (qau c__law_there hr (qaa (qai (dv 2) (qbF qab)) (qaa (dv 1) qad)))))))) (qac (qas (i:=3) sc__law_steps_to.nd (qai (qai (qai (qai (dv 2) (qbF qab)) qab) qab) (qai (qai (dv 2) (qbF qab)) qab)))
  (qaj (qbs (qbS (dv 2) (qaa (qa4 (qaa (dv 3) (qaa (qau c__law_spot_in hr (qaa (dv 3) (qaa (dv 1) qad))) qad))) qad))))))
  (qaj (qay (dv 2)))))
theorem qfI {g__law_steps_to:OC} (c__law_steps_to:Cal P w K mg base k "_law_steps_to" ["_law_top","_law_number"] g__law_steps_to) {g__law_there:OC} (c__law_there:Cal P w K mg base k "_law_there" ["_law_step","_law_number"] g__law_there)
  (F:Fun K "_law_put_in" "_law_put_in" qc6 fa fd) (hm:mg "_law_put_in"=some (.ref fa)) (b:Binds K fd ["_law_width","_law_top","_law_card"] []):Cal P w K mg base (k+1) "_law_put_in" ["_law_width","_law_top","_law_card"] (qae 12 (qa7 g__law_steps_to g__law_there)):=
 qbh F sc__law_put_in hm b fun cdv A outer s H E hr=>
  (qac (qas (i:=3) sc__law_put_in.nd (qau c__law_steps_to hr (qaa (dv 1) (qaa (qai (dv 2) qab) qad))))
  (qac (qbf (qbD (qau c__law_there hr (qaa (qai (dv 3) (qbF qab)) (qaa (qai (dv 2) qab) qad)))) (qac (qem (dv 2) (qai (qai (qai (dv 3) (qbF qab)) qab) qab) (qai (qai (dv 3) (qbF qab)) qab))
  (qaj (qay (dv 1)))) qaG)
  (qac (qbs (qdG (qai (qai (qai (dv 3) (qbF qab)) qab) qab) (qaa (qai (qai (dv 3) (qbF qab)) qab) (qaa (dv 2) qad))))
  (qac (qas (i:=4) sc__law_put_in.nd (qc0 (dv 0) qab))
  (qac (qen (i:=5) PassesOwn.never rfl sc__law_put_in.nd (qhu B.range (qaa (qb1 (qaY B.len (qaa (dv 3) qad)) qab) (qaa (qbF qab) (qaa (qbF qab) qad)))) (qac (qfA (i:=6) (j:=7) rfl sc__law_put_in.nd (qai (qai (dv 3) (dv 5)) qab))
  (qaj (qbf (qfJ (qaY B.len (qaa (dv 6) qad)) (dv 0)) (qac (qas (i:=8) sc__law_put_in.nd (qbt (qaa (qa2 (dv 6) qbj (qbe (dv 4))) (qaa (qa2 (dv 7) qbj (qbe (qaQ (dv 4) qab))) qad))))
  (qac (qas (i:=9) sc__law_put_in.nd (qbt (qaa (qa2 (dv 6) (qbe (qaQ (dv 4) qab)) qbj) (qaa (qa2 (dv 7) (qbe (qaQ (dv 4) qab)) qbj) qad))))
  (qac (qbf (qeW hr (dv 5) qab) (qaj (qay (qbt (qaa (qbt (qaa (qai (dv 6) (dv 4)) qad)) (qaa (qbt (qaa (dv 8) (qaa (dv 9) qad))) qad))))) qaG)
  (qac (qfA (i:=10) (j:=11) rfl sc__law_put_in.nd (qai (dv 3) (qb1 (dv 5) qab)))
  (qac (qbs (qdG (qai (dv 10) qab) (qaa (dv 11) (qaa (qai (dv 6) (dv 4)) qad))))
  (qac (qem (dv 8) (qai (dv 10) qab) (dv 11))
  (qaj (qbs (qdG (qai (dv 10) qab) (qaa (qaQ (dv 11) qab) (qaa (dv 9) qad))))))))))) qaG))))
  (qaj (qay (dv 1))))))))
theorem qgl {g__law_steps_to:OC} (c__law_steps_to:Cal P w K mg base k "_law_steps_to" ["_law_top","_law_number"] g__law_steps_to) {g__law_there:OC} (c__law_there:Cal P w K mg base k "_law_there" ["_law_step","_law_number"] g__law_there) {g__law_mend:OC} (c__law_mend:Cal P w K mg base k "_law_mend" ["_law_width","_law_drawer","_law_place"] g__law_mend)
  (F:Fun K "_law_taken" "_law_taken" qdr fa fd) (hm:mg "_law_taken"=some (.ref fa)) (b:Binds K fd ["_law_width","_law_top","_law_number"] []):Cal P w K mg base (k+1) "_law_taken" ["_law_width","_law_top","_law_number"] (qae 8 (qa8 g__law_steps_to g__law_there g__law_mend)):=
 qbh F sc__law_taken hm b fun cdv A outer s H E hr=>
  (qac (qas (i:=3) sc__law_taken.nd (qau c__law_steps_to hr (qaa (dv 1) (qaa (dv 2) qad))))
  (qac (qbf (qcb (qbD (qau c__law_there hr (qaa (qai (dv 3) (qbF qab)) (qaa (dv 2) qad))))) (qaj (qay (dv 1))) qaG)
  (qac (qfA (i:=4) (j:=5) rfl sc__law_taken.nd (qai (dv 3) (qbF qab)))
  (qac (qbf (qeW hr (qai (dv 4) qab) (qbt qad)) (qaj (qbs (qep (qai (dv 4) qab) (qaa (dv 5) qad)))) (qac (qas (i:=6) sc__law_taken.nd (qai (qai (dv 4) qab) (dv 5)))
  (qac (qe7 2000 PassesOwn.never (qdC hr (qai (dv 6) qab) (qbt qad)) (qac (qbs (qbS (dv 3) (qaa (qa4 (qaa (dv 6) (qaa (qaY B.len (qaa (qai (dv 6) qab) qad)) qad))) qad)))
  (qaj (qas (i:=6) sc__law_taken.nd (qai (qai (dv 6) qab) (qbF qab))))))
  (qac (qbs (qbS (dv 3) (qaa (qa4 (qaa (dv 6) (qaa qab qad))) qad)))
  (qaj (qem (qiD (qai (dv 6) qab)) (qai (dv 4) qab) (dv 5)))))))
  (qac (qen (i:=7) PassesOwn.never rfl sc__law_taken.nd (qhu B.range (qaa (qb1 (qaY B.len (qaa (dv 3) qad)) qab) (qaa (qbF qab) (qaa (qbF qab) qad)))) (qaj (qbs (qau c__law_mend hr (qaa (dv 0) (qaa (qai (qai (dv 3) (dv 7)) qab) (qaa (qai (qai (dv 3) (dv 7)) qab) qad)))))))
  (qac (qbf (dt_w (qdg (qeW hr (qai (dv 1) qab) (qbt qad)) (qcS (qdC hr (qai (dv 1) qab) (qbt qad))))) (qaj (qay (qai (qai (dv 1) qab) qab))) qaG)
  (qaj (qay (dv 1)))))))))
theorem qgn {g__law_is_drawer:OC} (c__law_is_drawer:Cal P w K mg base k "_law_is_drawer" ["_law_found"] g__law_is_drawer)
  (F:Fun K "_law_alike" "_law_alike" qdt fa fd) (hm:mg "_law_alike"=some (.ref fa)) (b:Binds K fd ["_law_found","_law_top"] []):Cal P w K mg base (k+1) "_law_alike" ["_law_found","_law_top"] (qae 7 (qbn g__law_is_drawer)):=
 qbh F sc__law_alike hm b fun cdv A outer s H E hr=>
  (qac (qas (i:=2) sc__law_alike.nd (qbt (qaa (qa4 (qaa (dv 0) (qaa (dv 1) qad))) qad)))
  (qac (qe7 2000 PassesOwn.never (qdC hr (dv 2) (qbt qad)) (qac (qfA (i:=3) (j:=4) rfl sc__law_alike.nd (qiD (dv 2)))
  (qac (qbf (dt_w (qgF (qcb (qbD (qau c__law_is_drawer hr (qaa (dv 3) qad)))) (qgF (qdC hr (qk1 B.list (qaa (qai (dv 3) qab) qad)) (qai (dv 4) qab)) (qeP (qdC hr (qaY B.len (qaa (qai (dv 3) qab) qad)) (qaY B.len (qaa (qai (dv 4) qab) qad))))))) (qaj (qay qdd)) qaG)
  (qac (qas (i:=5) sc__law_alike.nd (qaY B.len (qaa (qai (dv 4) qab) qad)))
  (qac (qen (i:=6) PassesOwn.never rfl sc__law_alike.nd (qdE B.range (qaa (qaY B.len (qaa (qai (dv 4) qab) qad)) qad)) (qac (qbf (qcb (qbD (qau c__law_is_drawer hr (qaa (qai (qai (dv 3) qab) (dv 6)) qad)))) (qaj (qay qdd)) qaG)
  (qac (qas (i:=5) sc__law_alike.nd (qaQ (dv 5) (qai (qai (qai (dv 3) qab) (dv 6)) qab)))
  (qaj (qbs (qbS (dv 2) (qaa (qa4 (qaa (qai (qai (dv 3) qab) (dv 6)) (qaa (qai (qai (dv 4) qab) (dv 6)) qad))) qad)))))))
  (qaj (qbf (qdC hr (qai (dv 3) qab) (dv 5)) (qaj (qay qdd)) qaG)))))))
  (qaj (qay qdd))))
theorem qgm
  (F:Fun K "_law_mixed" "_law_mixed" qds fa fd) (hm:mg "_law_mixed"=some (.ref fa)) (b:Binds K fd ["_law_script"] []):Cal P w K mg base (k+1) "_law_mixed" ["_law_script"] (qae 1 (qbm )):=
 qbh F qf7 hm b fun cdv A outer s H E hr=>
  (qaj (qay (qgM (fr:=[0]) (frn:=["_law_script"]) rfl (qdE B.range (qaa (qaY B.len (qaa (dv 0) qad)) qad)) fun _ _ _ _=>⟨.nil,(qcc (qhv (qaQ (qai (dv 1) (dv 0)) (qhv qab (dv 0))) qab) qab)⟩)))
theorem ql3 {x_NoWidth:Addr}{bm_NoWidth:List Value} (e_NoWidth:ExC K x_NoWidth bm_NoWidth) (m_NoWidth:mg "NoWidth"=some (.ref x_NoWidth)) {x_DrawerError:Addr}{bm_DrawerError:List Value} (e_DrawerError:ExC K x_DrawerError bm_DrawerError) (m_DrawerError:mg "DrawerError"=some (.ref x_DrawerError)) (s_NoWidth_DrawerError:(Value.ref x_NoWidth::bm_NoWidth).contains (.ref x_DrawerError)=true) {g__law_mixed:OC} (c__law_mixed:Cal P w K mg base k "_law_mixed" ["_law_script"] g__law_mixed) {g__law_at:OC} (c__law_at:Cal P w K mg base k "_law_at" ["_law_script","_law_k"] g__law_at) {g__law_day:OC} (c__law_day:Cal P w K mg base k "_law_day" ["_law_script"] g__law_day) {g_tops:OX} (c_tops:CalX P w K mg base k "tops" ["width","deeds"] g_tops) {g__law_same:OC} (c__law_same:Cal P w K mg base k "_law_same" ["_law_handed","_law_deeds"] g__law_same) {g__law_put_in:OC} (c__law_put_in:Cal P w K mg base k "_law_put_in" ["_law_width","_law_top","_law_card"] g__law_put_in) {g__law_taken:OC} (c__law_taken:Cal P w K mg base k "_law_taken" ["_law_width","_law_top","_law_number"] g__law_taken) {g__law_alike:OC} (c__law_alike:Cal P w K mg base k "_law_alike" ["_law_found","_law_top"] g__law_alike)
  (F:Fun K "law" "law" qgb fa fd):FnOk P w K mg base CX0 (k+1) fa fd ["_law_script"] (spD K 1 (qae 8 (qiQ x_NoWidth x_DrawerError g__law_mixed g__law_at g__law_day g_tops g__law_same g__law_put_in g__law_taken g__law_alike))):=
 fn_D F sc_law fun cdv A outer s H E hr=>
  (qac (qas (i:=0) sc_law.nd (qa2 (dv 0) qbj (qbe qab)))
  (qac (qas (i:=0) sc_law.nd (qau c__law_mixed hr (qaa (qa2 (dv 0) qbj (qbe qab)) qad)))
  (qac (qas (i:=1) sc_law.nd (qai (qbt (qaa qab (qaa qab (qaa qab (qaa qab (qaa (qaQ qab (qcc (qc0 (qau c__law_at hr (qaa (dv 0) (qaa qab qad))) qab) qab)) (qaa qab (qaa qab (qaa (qbF qab) qad))))))))) (qcc (qau c__law_at hr (qaa (dv 0) (qaa qab qad))) qab)))
  (qac (qas (i:=2) sc_law.nd (qau c__law_day hr (qaa (dv 0) qad)))
  (qac (qas (i:=3) sc_law.nd (qk1 B.list (qaa (dv 2) qad)))
  (qac (qas (i:=4) sc_law.nd qiF)
  (qac (qas (i:=5) sc_law.nd qdd)
  (qac (qmy (fun _ _=>(qaj (qas (i:=4) sc_law.nd (qdH c_tops hr (qaa (dv 1) (qaa (dv 3) qad)))))) (qkj (qmz e_NoWidth e_DrawerError m_DrawerError s_NoWidth_DrawerError fun _ _=>(qaj (qas (i:=5) sc_law.nd qdd))) qmq))
  (qac (qbf (qcb (qbD (qau c__law_same hr (qaa (dv 3) (qaa (dv 2) qad))))) (qaj (qay qdd)) qaG)
  (qac (qbf (dt_w (qgF (qbD (dv 5)) (qeP (qgG (dv 1) qab)))) (qaj (qay (qiG (dv 5) (qiE (qnC (dv 1) qab))))) qaG)
  (qac (qbf (dt_w (qgF (qcb (qbD (qdQ qlY qnG B.isinstance B.list (dv 4)))) (qeP (qdC hr (qaY B.len (qaa (dv 4) qad)) (qaY B.len (qaa (dv 2) qad)))))) (qaj (qay qdd)) qaG)
  (qac (qas (i:=6) sc_law.nd (qbt (qaa (qbt qad) (qaa (qbt qad) qad))))
  (qac (qen (i:=7) PassesOwn.never rfl sc_law.nd (qdE B.range (qaa (qaY B.len (qaa (dv 2) qad)) qad)) (qac (qbf (qeW hr (qai (qai (dv 2) (dv 7)) qab) qdF) (qaj (qas (i:=6) sc_law.nd (qau c__law_put_in hr (qaa (dv 1) (qaa (dv 6) (qaa (qa2 (qai (dv 2) (dv 7)) (qbe qab) qbj) qad)))))) (qaj (qas (i:=6) sc_law.nd (qau c__law_taken hr (qaa (dv 1) (qaa (dv 6) (qaa (qai (qai (dv 2) (dv 7)) qab) qad)))))))
  (qaj (qbf (qcb (qbD (qau c__law_alike hr (qaa (qai (dv 4) (dv 7)) (qaa (dv 6) qad))))) (qaj (qay qdd)) qaG))))
  (qaj (qay qdd)))))))))))))))
end K13
namespace M
open PySem PySem.Spec PyProof.Rows L2 DL MD
theorem qgP {chk:Hh->Prop}{ft:FT}{fe:FE}{fenv:En}{p:D->Bool}{g:D->D}{h1:Hh} (hc:∀ xs,chk (h1++[.lst xs])):∀ (items acc:List D),(∀ d∈items,∀ xs,ft (some d::fenv) (h1++[.lst xs])=.ok (p d) (h1++[.lst xs]))->
  (∀ d∈items,p d=true->∀ xs,fe (some d::fenv) (h1++[.lst xs])=.ok (g d) (h1++[.lst xs]))->acc.length+items.length<=sizeLine->
  qeE chk h1.length ft fe fenv items (h1++[.lst acc])=some (h1++[.lst (acc++(items.filter p).map g)])
 | [],acc,_,_,_=>by
  unfold qeE
  rw [if_pos (hc acc)]
  simp
 | d::r,acc,ht,he,hl=>by
  have hd:=ht d zV acc
  unfold qeE
  rw [if_pos (hc acc),hd]
  cases hp:p d with
  | false=>
   have:=qgP hc r acc (fun x hx=>ht x (zR _ hx)) (fun x hx=>he x (zR _ hx)) (by simp at hl; lia)
   simp only [List.filter_cons,hp,Bool.false_eq_true,if_false]
   exact this
  | true=>
   have h2:=he d zV hp acc
   have e1:(h1++[O.lst acc])[h1.length]?=some (.lst acc):=xC
   have e2:(h1++[O.lst acc]).set h1.length (.lst (acc++[g d]))=h1++[.lst (acc++[g d])]:=by simp
   have:=qgP hc r (acc++[g d]) (fun x hx=>ht x (zR _ hx)) (fun x hx=>he x (zR _ hx)) (by simp at hl |-; lia)
   simp only [h2,qaH e1]
   rw [if_pos (by simp at hl; lia),e2,this]
   simp [List.filter_cons,hp]
theorem qht {fi:FI}{fr:List Nat}{ft:FT}{fe:FE}{env:En}{h h1:Hh}{it:Itm}{p:D->Bool}{g:D->D} (q:fi env h=.ok it h1) (hc:∀ xs,it.chk (h1++[.lst xs])) (ht:∀ d∈it.items,∀ xs,ft (some d::qb6 fr env) (h1++[.lst xs])=.ok (p d) (h1++[.lst xs]))
  (he:∀ d∈it.items,p d=true->∀ xs,fe (some d::qb6 fr env) (h1++[.lst xs])=.ok (g d) (h1++[.lst xs])) (hl:it.items.length<=sizeLine):
  qek fi fr ft fe env h=.ok (.lst h1.length) (h1++[.lst ((it.items.filter p).map g)]):=by
 unfold qek
 rw [q,Res.bind_ok,qgP hc it.items [] ht he (by simpa using hl)]
 simp
theorem qfy {fi:FI}{fr:List Nat}{fe:FE}{env:En}{h h1:Hh}{it:Itm}{g:D->D} (q:fi env h=.ok it h1) (hc:∀ xs,it.chk (h1++[.lst xs]))
  (he:∀ d∈it.items,∀ xs,fe (some d::qb6 fr env) (h1++[.lst xs])=.ok (g d) (h1++[.lst xs])) (hl:it.items.length<=sizeLine):
  qek fi fr fYes fe env h=.ok (.lst h1.length) (h1++[.lst (it.items.map g)]):=by
 have:=qht (ft:=fYes) (p:=fun _=>true) q hc (fun _ _ _=>rfl) (fun d hd _=>he d hd) hl
 rw [this,List.filter_eq_self.mpr (by simp)]
theorem qdf {α:Type} (xs:List α) (k:Nat):DL.cutD xs none (some (k:Int))=xs.take k:=by
 unfold DL.cutD
 rw [HT.sIx_none,HT.sIx_nat,List.drop_zero,Nat.sub_zero]
 by_cases h:k<=xs.length
 ·rw [Nat.min_eq_left h]
 ·rw [Nat.min_eq_right (by lia),yZ (by lia),yZ (by lia)]
theorem qde {α:Type} (xs:List α) (k:Nat):DL.cutD xs (some (k:Int)) none=xs.drop k:=by
 unfold DL.cutD
 rw [HT.sIx_none,HT.sIx_nat]
 by_cases h:k<=xs.length
 ·rw [Nat.min_eq_left h]
  exact yZ (by rw [zQ]; lia)
 ·rw [Nat.min_eq_right (by lia),List.drop_length,List.drop_eq_nil_of_le (by lia)]
  simp
noncomputable def qa1:D->Int
 | .tup [_,_,.int n]=>n
 | _=>0
def IsDr (b:D):Prop:=∃ x y n,b=.tup [x,y,.int n]
noncomputable def qbE (cs bs:List D):D:=.tup [.tup cs,.tup bs,.int (cs.length+(bs.map qa1).sum)]
@[simp] theorem drawer_ix0 (cs bs:List D) (h:Hh):oIx (qbE cs bs) (.int 0) h=some (.tup cs,h):=rfl
@[simp] theorem drawer_ix1 (cs bs:List D) (h:Hh):oIx (qbE cs bs) (.int 1) h=some (.tup bs,h):=rfl
@[simp] theorem drawer_ix2 (cs bs:List D) (h:Hh):oIx (qbE cs bs) (.int 2) h=some (.int (cs.length+(bs.map qa1).sum),h):=rfl
@[simp] theorem heldOf_drawer (cs bs:List D):qa1 (qbE cs bs)=cs.length+(bs.map qa1).sum:=rfl
theorem qlC {n:Nat} (h:n<=1000000):rng1 [.int n]=some ((List.range n).map fun (k:Nat)=>D.int k):=by
 have c:-(2 ^ 62)<=(n:Int)/\(n:Int) < 2 ^ 62:=⟨by lia,by lia⟩
 unfold rng1
 dsimp only
 rw [if_pos c,Int.toNat_natCast]
theorem qdz {fs:List FE}{env:En}{h h1:Hh}{n:Nat} (q:fAll fs env h=.ok [.int (n:Int)] h1) (hn:n<=1000000):qcC rng1 fs env h=.ok ⟨(List.range n).map fun (k:Nat)=>D.int k,fun _=>True⟩ h1:=by
 unfold qcC
 rw [q,Res.bind_ok,qlC hn]
 rfl
theorem qlB {n:Nat} (h:n<=1000000):rng3 [.int ((n:Int) - 1),.int (-1),.int (-1)]=some ((List.range n).map fun (k:Nat)=>D.int ((n:Int) - 1 - k)):=by
 have c:-(2 ^ 62)<=(n:Int) - 1/\(n:Int) - 1 < 2 ^ 62/\-(2 ^ 62)<=(-1:Int)/\(-1:Int) < 2 ^ 62/\(-1:Int)=-1:=⟨by lia,by lia,by decide,by decide,rfl⟩
 unfold rng3
 dsimp only
 rw [if_pos c,show ((n:Int) - 1 - (-1)).toNat=n by lia]
theorem qhr {fs:List FE}{env:En}{h h1:Hh}{n:Nat} (q:fAll fs env h=.ok [.int ((n:Int) - 1),.int (-1),.int (-1)] h1) (hn:n<=1000000):qcC rng3 fs env h=.ok ⟨(List.range n).map fun (k:Nat)=>D.int ((n:Int) - 1 - k),fun _=>True⟩ h1:=by
 unfold qcC
 rw [q,Res.bind_ok,qlB hn]
 rfl
theorem qfl {n j:Nat}{d:D} (h:((List.range n).map fun (k:Nat)=>D.int k)[j]?=some d):j < n/\d=.int j:=by
 rw [zE] at h
 obtain⟨k,hk,rfl⟩:=yB.mp h
 obtain⟨hlt,e⟩:=zB.mp hk
 rw [List.getElem_range] at e
 subst e
 exact⟨by simpa using hlt,rfl⟩
theorem IsDr.of (cs bs:List D):IsDr (qbE cs bs):=⟨_,_,_,rfl⟩
theorem qij (w:Int) (h:Hh):qae 1 qdk [.int w] h=some (.int (w / 2),h):=by
 refine qaD ?_
 unfold qdk
 simp [fRet,f2,fV,fC,qaM,qgr]
def qaX (ds:List D) (d:D):Prop:=∃ cs bs:List D,ds=[.tup cs,.tup bs]/\d=qbE cs bs/\(∀ b∈bs,IsDr b)/\(∀ x∈cs,HB 0 x)/\(∀ x∈bs,HB 0 x)/\bs.length<=sizeLine
theorem runs_drawer:Runs (qae 2 qdV) qaX:=by
 rintro ds d ⟨cs,bs,rfl,rfl,hd,h1,h2,hl⟩
 refine⟨.tup fun x hx=>?_,fun h=>⟨[.lst (bs.map fun b=>.int (qa1 b))],qaD ?_⟩⟩
 ·simp only [zG,yD,or_false] at hx
  rcases hx with rfl | rfl | rfl
  ·exact .tup h1
  ·exact .tup h2
  ·exact .int _
 unfold qdV
 refine qaO ?_
 have e:qek (qco (fV 1)) [] fYes (f2 oIx (fV 0) (fC (.int 2))) (qaM 2 [.tup cs,.tup bs]) h=.ok (.lst h.length) (h++[.lst (bs.map fun b=>.int (qa1 b))]):=by
  refine qfy (it:=⟨bs,fun _=>True⟩) (h1:=h) (g:=fun b=>.int (qa1 b)) ?_ (fun _=>trivial) (fun b hb xs=>?_) hl
  ·simp [qco,fV,qaM,qhm]
  ·obtain⟨x,y,n,rfl⟩:=hd b hb
   simp [f2,fV,fC,qa1,qcE]
 have es:oSum [.lst h.length] (h++[.lst (bs.map fun b=>.int (qa1 b))])=some (.int (bs.map qa1).sum,h++[.lst (bs.map fun b=>.int (qa1 b))]):=by
  refine qlN (ds:=bs.map fun b=>.int (qa1 b)) (ns:=bs.map qa1) (by simp) ?_
  have:=qhn (bs.map qa1)
  rw [xT] at this
  exact this
 have a3:f2 oAdd (fc oLen (fAll [fV 0])) (fc oSum (fAll [qek (qco (fV 1)) [] fYes (f2 oIx (fV 0) (fC (.int 2)))])) (qaM 2 [.tup cs,.tup bs]) h=.ok (.int (cs.length+(bs.map qa1).sum)) (h++[.lst (bs.map fun b=>.int (qa1 b))]):=by
  rw [qap (x:=.int cs.length) (h1:=h) (y:=.int (bs.map qa1).sum) (h2:=h++[.lst (bs.map fun b=>.int (qa1 b))]) rfl (by rw [qaK (qaz e rfl),es]; rfl)]
  rfl
 unfold fTup
 rw [qaz rfl (qaz rfl (qaz a3 rfl))]
 rfl
def qaN (ds:List D) (d:D):Prop:=∃ (row parts:List D) (i j:Nat),ds=[.tup row,.int i,.int j,.tup parts]/\d=.tup (row.take i++parts++row.drop j)/\(∀ x∈row,HB 0 x)/\(∀ x∈parts,HB 0 x)/\row.length+parts.length+row.length<=sizeLine
theorem runs_spliced:Runs (qae 4 qfa) qaN:=by
 rintro ds d ⟨row,parts,i,j,rfl,rfl,h1,h2,hl⟩
 refine⟨.tup fun x hx=>?_,fun h=>⟨[],qaD ?_⟩⟩
 ·rcases zP.mp hx with hx | hx
  ·rcases zP.mp hx with hx | hx
   ·exact h1 x (y7 hx)
   ·exact h2 x hx
  ·exact h1 x (yO hx)
 unfold qfa
 refine qaO ?_
 rw [zW]
 have e1:(row.take i).length+parts.length<=sizeLine:=by rw [zM]; lia
 have e2:(row.take i++parts).length+(row.drop j).length<=sizeLine:=by rw [zJ,zM,zQ]; lia
 simp only [f2,fSl,qar,qaJ,fV,qaM,yE,yG,zO,xG,y9,xI,zU,zL,qaI,Res.bind_ok,qbC,qdZ,qaR,qdf,qde]
 rw [qgs _ e1]
 simp only [qaR,Res.bind_ok]
 rw [qgs _ e2]
 rfl
theorem qeD:Det qaX:=runs_drawer.det
theorem qfB:Det qaN:=runs_spliced.det
noncomputable def qgi (w:Int) (cs bs:List D):D:=.tup [qbE (cs.take (w / 2).toNat) (bs.take ((w / 2).toNat+1)),cs.getD (w / 2).toNat .non,qbE (cs.drop ((w / 2).toNat+1)) (bs.drop ((w / 2).toNat+1))]
def qdL (ds:List D) (d:D):Prop:=∃ (w n:Int) (cs bs:List D),ds=[.int w,.tup [.tup cs,.tup bs,.int n]]/\d=qgi w cs bs/\0<=w/\(w / 2).toNat < cs.length/\(∀ b∈bs,IsDr b)/\(∀ x∈cs,HB 0 x)/\(∀ x∈bs,HB 0 x)/\bs.length<=sizeLine
theorem runs_parted:Runs (qae 7 (qf2 (qae 1 qdk) (relF qaX))) qdL:=by
 rintro ds d ⟨w,n,cs,bs,rfl,rfl,hw,hk,hd,h1,h2,hl⟩
 obtain⟨k,hk0⟩:∃ k:Nat,w / 2=k:=⟨(w / 2).toNat,by lia⟩
 have hkn:(w / 2).toNat=k:=by lia
 rw [hkn] at hk
 unfold qgi
 rw [hkn]
 have ek:cs[k]?=some cs[k]:=zA hk
 have hbD:∀ {xs:List D},(∀ x∈xs,HB 0 x)->∀ {ys:List D},(∀ x∈ys,HB 0 x)->HB 0 (qbE xs ys):=fun ha _ hb=>.tup fun x hx=>by
  simp only [zG,yD,or_false] at hx
  rcases hx with rfl | rfl | rfl
  ·exact .tup ha
  ·exact .tup hb
  ·exact .int _
 refine⟨.tup fun x hx=>?_,fun h=>⟨[],qaD ?_⟩⟩
 ·simp only [zG,yD,or_false] at hx
  rcases hx with rfl | rfl | rfl
  ·exact hbD (fun x hx=>h1 x (y7 hx)) (fun x hx=>h2 x (y7 hx))
  ·rw [yJ,ek]
   exact h1 _ (List.getElem_mem hk)
  ·exact hbD (fun x hx=>h1 x (yO hx)) (fun x hx=>h2 x (yO hx))
 rw [zW]
 have rl:relF qaX [.tup (cs.take k),.tup (bs.take (k+1))] h=some (qbE (cs.take k) (bs.take (k+1)),h):=qa9 qeD ⟨_,_,rfl,rfl,fun b hb=>hd b (y7 hb),fun x hx=>h1 x (y7 hx),fun x hx=>h2 x (y7 hx),by rw [zM]; lia⟩ h
 have rr:relF qaX [.tup (cs.drop (k+1)),.tup (bs.drop (k+1))] h=some (qbE (cs.drop (k+1)) (bs.drop (k+1)),h):=qa9 qeD ⟨_,_,rfl,rfl,fun b hb=>hd b (yO hb),fun x hx=>h1 x (yO hx),fun x hx=>h2 x (yO hx),by rw [zQ]; lia⟩ h
 unfold qf2
 have ek1:((k:Nat):Int)+1=((k+1:Nat):Int):=by lia
 simp [fSeq,fSet,fRet,fTup,fAll,f2,fc,fSl,qar,qaJ,fV,fC,qaM,qij,hk0,qcE,ek1,qdf,qde,rl,rr,ek,yJ,-Int.natCast_add]
theorem qje:Det qdL:=runs_parted.det
inductive Dp:Nat->D->Prop where
 | int {n:Nat} (i:Int):Dp (n+1) (.int i)
 | str {n:Nat} (x:Str):Dp (n+1) (.str x)
 | bl {n:Nat} (b:Bool):Dp (n+1) (.bl b)
 | non {n:Nat}:Dp (n+1) .non
 | tup {n:Nat}{ds:List D}:(∀ d∈ds,Dp n d)->Dp (n+1) (.tup ds)
theorem qgD {f:D->D->Option Bool}:∀ {xs:List D},(∀ x∈xs,f x x=some true)->eqL f xs xs=some true
 | [],_=>rfl
 | x::r,h=>by
  unfold eqL
  rw [h x zV,qgD fun y hy=>h y (zR _ hy)]
  rfl
theorem qgE {h:Hh}:∀ {n:Nat}{d:D},Dp n d->eqD n h d d=some true
 | _,_,.int i=>congrArg some (beq_self_eq_true i)
 | _,_,.str x=>congrArg some (beq_self_eq_true x)
 | _,_,.bl b=>congrArg some (beq_self_eq_true b)
 | _,_,.non=>rfl
 | _,_,.tup (n:=n) hd=>by
  show eqL (eqD n h) _ _=_
  exact qgD fun x hx=>qgE (hd x hx)
theorem qlP {d:D} (h:Hh) (p:Dp 24 d):oNe d d h=some (.bl false,h):=by
 unfold oNe
 rw [qgE p]
 rfl
noncomputable def qah (p:Int×Str):D:=.tup [.int p.1,.str p.2]
theorem qh0 (p:Int×Str):HB 0 (qah p):=.tup fun x hx=>by
 simp only [zG,yD,or_false] at hx
 rcases hx with rfl | rfl
 ·exact .int _
 ·exact .str _
theorem qnw (p:Int×Str) (n:Nat):Dp (n+2) (qah p):=.tup fun x hx=>by
 simp only [zG,yD,or_false] at hx
 rcases hx with rfl | rfl
 ·exact .int _
 ·exact .str _
def qpf (c:D):Prop:=∃ p,c=qah p
theorem qfi (i:Int) (h:Hh):qae 1 qax [.int i] h=some (.bl true,h):=by
 refine qaD ?_
 unfold qax
 simp [fSeq,fSet,fRet,qaU,fIfS,fB,f1,f2,fc,fAll,fTup,fLst,fC,fV,fAnd,fOr,fNot,qb9,fOrV,fSl,qar,qaJ,qaC,qaM,qaI,qbT,qaR,Res.bind_ok,Res.out_ok,oIsi,tyD,isiB]
theorem qjO {h:Hh}{n:Nat}{ns:List Int}{k:Int} (e:h[n]?=some (.lst (ns.map D.int))) (hk:0<=k):qae 2 qaw [.lst n,.int k] h=some (.int (ns.getD k.toNat 0),h):=by
 refine qaD ?_
 unfold qaw
 by_cases c:k < (ns.length:Int)
 ·have hlt:k.toNat < ns.length:=by lia
  refine qba ?_
  rw [qbb (h1:=h)]
  ·simp [fSeq,fSet,fRet,qaU,fIfS,fB,f1,f2,fc,fAll,fTup,fLst,fC,fV,fAnd,fOr,fNot,qb9,fOrV,fSl,qar,qaJ,qaC,qaM,qaI,qbT,qaR,Res.bind_ok,Res.out_ok,qaB e,qcE hk,hlt,yJ]
  ·simp [fSeq,fSet,fRet,qaU,fIfS,fB,f1,f2,fc,fAll,fTup,fLst,fC,fV,fAnd,fOr,fNot,qb9,fOrV,fSl,qar,qaJ,qaC,qaM,qaI,qbT,qaR,Res.bind_ok,Res.out_ok,qbo e,c]
 ·rw [qag (e1:=[some (.lst n),some (.int k)]) (h1:=h)]
  ·have:ns[k.toNat]?=none:=yM (by lia)
   simp [fRet,fC,yJ,this]
  ·rw [qaL (h1:=h)]
   ·rfl
   ·simp [fSeq,fSet,fRet,qaU,fIfS,fB,f1,f2,fc,fAll,fTup,fLst,fC,fV,fAnd,fOr,fNot,qb9,fOrV,fSl,qar,qaJ,qaC,qaM,qaI,qbT,qaR,Res.bind_ok,Res.out_ok,qbo e,c]
theorem qgf {cs:List D}{b:D}{n:Int} (hb:∃ bs,b=.tup bs) (hc:∀ c∈cs,qpf c) (h:Hh):qae 2 (qaA (qae 1 qax)) [.tup [.tup cs,b,.int n]] h=some (.bl true,h):=by
 obtain⟨bs,rfl⟩:=hb
 refine qaD ?_
 unfold qaA
 rw [qag (e1:=[some (.tup [.tup cs,.tup bs,.int n]),none]) (h1:=h) (by simp [fSeq,fSet,fRet,qaU,fIfS,fB,f1,f2,fc,fAll,fTup,fLst,fC,fV,fAnd,fOr,fNot,qb9,fOrV,fSl,qar,qaJ,qaC,qaM,qaI,qbT,qaR,Res.bind_ok,Res.out_ok,oIsi,tyD,isiB])]
 rw [qag (e1:=[some (.tup [.tup cs,.tup bs,.int n]),none]) (h1:=h) (by simp [fSeq,fSet,fRet,qaU,fIfS,fB,f1,f2,fc,fAll,fTup,fLst,fC,fV,fAnd,fOr,fNot,qb9,fOrV,fSl,qar,qaJ,qaC,qaM,qaI,qbT,qaR,Res.bind_ok,Res.out_ok,oIsi,tyD,isiB,qcE])]
 obtain⟨e2,h2,q2,k2⟩:=qcL (chk:=fun _=>True) (i:=1)
  (t:=(fSeq (fIfS (fOr (fNot (fB (f1 (oIsi "tuple") (fV 1)))) (fB (f2 oNe (fc oLen (fAll [(fV 1)])) (fC (.int 2))))) (fRet (fC (.bl false))) qaC)
   (fIfS (fOr (fNot (fB (fc (qae 1 qax) (fAll [(f2 oIx (fV 1) (fC (.int 0)))])))) (fNot (fB (f1 (oIsi "str") (f2 oIx (fV 1) (fC (.int 1))))))) (fRet (fC (.bl false))) qaC)))
  (P:=fun k e h'=>h'=h/\∃ z,e=[some (.tup [.tup cs,.tup bs,.int n]),z]) cs [some (.tup [.tup cs,.tup bs,.int n]),none] h ⟨rfl,none,rfl⟩ (fun _ _ _ _=>trivial) (by
   rintro j d e h' hj ⟨rfl,z,rfl⟩
   obtain⟨p,rfl⟩:=hc d (zD hj)
   exact⟨[some (.tup [.tup cs,.tup bs,.int n]),some (qah p)],h',by simp [fSeq,fSet,fRet,qaU,fIfS,fB,f1,f2,fc,fAll,fTup,fLst,fC,fV,fAnd,fOr,fNot,qb9,fOrV,fSl,qar,qaJ,qaC,qaM,qaI,qbT,qaR,Res.bind_ok,Res.out_ok,oIsi,tyD,isiB,qcE,qah,qfi],rfl,_,rfl⟩)
 obtain⟨rfl,z,rfl⟩:=k2
 rw [qag ((qcR (it:=⟨cs,fun _=>True⟩) (h1:=h2) (by simp [qco,fSeq,fSet,fRet,qaU,fIfS,fB,f1,f2,fc,fAll,fTup,fLst,fC,fV,fAnd,fOr,fNot,qb9,fOrV,fSl,qar,qaJ,qaC,qaM,qaI,qbT,qaR,Res.bind_ok,Res.out_ok,qhm,qcE])).trans q2)]
 simp [fSeq,fSet,fRet,qaU,fIfS,fB,f1,f2,fc,fAll,fTup,fLst,fC,fV,fAnd,fOr,fNot,qb9,fOrV,fSl,qar,qaJ,qaC,qaM,qaI,qbT,qaR,Res.bind_ok,Res.out_ok,qcE,qfi]
noncomputable abbrev Card:=Int×Str
inductive T where
 | node (cs:List Card) (bs:List T)
noncomputable def T.cs:T->List Card
 | .node cs _=>cs
noncomputable def T.bs:T->List T
 | .node _ bs=>bs
@[simp] theorem T.cs_node (cs:List Card) (bs:List T):(T.node cs bs).cs=cs:=rfl
@[simp] theorem T.bs_node (cs:List Card) (bs:List T):(T.node cs bs).bs=bs:=rfl
theorem T.eta (t:T):T.node t.cs t.bs=t:=by cases t; rfl
mutual
noncomputable def T.d:T->D
 | .node cs bs=>qbE (cs.map qah) (T.dL bs)
noncomputable def T.dL:List T->List D
 | []=>[]
 | t::r=>t.d::T.dL r
end
theorem T.dL_map:∀ bs:List T,T.dL bs=bs.map T.d
 | []=>by simp [T.dL]
 | t::r=>by simp [T.dL,T.dL_map r]
theorem T.d_node (cs:List Card) (bs:List T):(T.node cs bs).d=qbE (cs.map qah) (bs.map T.d):=by
 rw [T.d,T.dL_map]
theorem T.isDr (t:T):IsDr t.d:=by
 cases t with
 | node cs bs=>rw [T.d_node]; exact .of _ _
mutual
noncomputable def T.flat:T->List Card
 | .node cs bs=>T.inter (T.flatL bs) cs
noncomputable def T.flatL:List T->List (List Card)
 | []=>[]
 | t::r=>t.flat::T.flatL r
noncomputable def T.inter:List (List Card)->List Card->List Card
 | [],cs=>cs
 | f::r,[]=>f++T.inter r []
 | f::r,c::cs=>f++c::T.inter r cs
end
theorem T.flatL_map:∀ bs:List T,T.flatL bs=bs.map T.flat
 | []=>by simp [T.flatL]
 | t::r=>by simp [T.flatL,T.flatL_map r]
theorem T.flat_node (cs:List Card) (bs:List T):(T.node cs bs).flat=T.inter (bs.map T.flat) cs:=by
 rw [T.flat,T.flatL_map]
noncomputable def T.V (least w:Nat):Nat->Nat->T->Prop
 | _,0,_=>False
 | own,n+1,.node cs bs=>own<=cs.length/\cs.length<=w/\(n=0->bs=[])/\(0 < n->bs.length=cs.length+1/\∀ b∈bs,T.V least w least n b)
theorem T.V_mono {least w own own' n:Nat} (h:own'<=own) {t:T} (v:T.V least w own n t):T.V least w own' n t:=by
 cases n with
 | zero=>exact v.elim
 | succ n=>
  cases t with
  | node cs bs=>
   unfold T.V at v |-
   exact⟨by lia,v.2⟩
theorem qif (n d:Nat):HT.sIx n d (some (-1))=n - 1:=by
 unfold HT.sIx
 dsimp only
 rw [if_pos (by decide)]
 lia
theorem qmb {α:Type} (xs:List α):DL.cutD xs none (some (-1))=xs.dropLast:=by
 unfold DL.cutD
 rw [HT.sIx_none,List.drop_zero,Nat.sub_zero,List.dropLast_eq_take,qif]
theorem qma {α:Type} (xs:List α):DL.cutD xs (some (-1)) none=xs.drop (xs.length - 1):=by
 unfold DL.cutD
 rw [HT.sIx_none,qif]
 exact yZ (by rw [zQ]; lia)
theorem qgR {α:Type} (xs:List α):atI xs (-1)=xs[xs.length - 1]?:=by
 unfold L2.atI ixN
 rw [if_neg (by decide)]
 by_cases h:xs.length=0
 ·rw [if_neg (by lia)]
  have:xs=[]:=xP.mp h
  subst this
  rfl
 ·rw [if_pos (by lia)]
  show xs[((-1:Int)+(xs.length:Int)).toNat]?=_
  rw [show ((-1:Int)+(xs.length:Int)).toNat=xs.length - 1 by lia]
mutual
theorem T.hbd:∀ t:T,HB 0 t.d
 | .node cs bs=>by
  rw [T.d]
  refine .tup fun x hx=>?_
  simp only [zG,yD,or_false] at hx
  rcases hx with rfl | rfl | rfl
  ·exact .tup fun y hy=>by
    obtain⟨p,_,rfl⟩:=yW.mp hy
    exact qh0 p
  ·exact .tup (T.hbL bs)
  ·exact .int _
theorem T.hbL:∀ (bs:List T),∀ y∈T.dL bs,HB 0 y
 | [],y,hy=>by rw [T.dL] at hy; exact nomatch hy
 | t::r,y,hy=>by
  rw [T.dL] at hy
  rcases zG.mp hy with rfl | hy
  ·exact T.hbd t
  ·exact T.hbL r y hy
end
theorem qe3 (cs:List Card):∀ x∈cs.map qah,HB 0 x:=fun x hx=>by
 obtain⟨p,_,rfl⟩:=yW.mp hx
 exact qh0 p
theorem qe2 (bs:List T):∀ x∈bs.map T.d,HB 0 x:=fun x hx=>by
 obtain⟨p,_,rfl⟩:=yW.mp hx
 exact p.hbd
theorem qeR (t:T) (h:Hh):oIx t.d (.int 0) h=some (.tup (t.cs.map qah),h):=by cases t; rw [T.d_node]; rfl
theorem qdU (t:T) (h:Hh):oIx t.d (.int 1) h=some (.tup (t.bs.map T.d),h):=by cases t; rw [T.d_node]; rfl
theorem qeK {n:Nat} (h:n<=100000):n<=sizeLine:=yX h (by decide)
theorem qbH (cs:List Card) (bs:List T) (hl:bs.length<=10000) (h:Hh):relF qaX [.tup (cs.map qah),.tup (bs.map T.d)] h=some ((T.node cs bs).d,h):=by
 rw [T.d_node]
 exact qa9 qeD ⟨_,_,rfl,rfl,fun b hb=>by obtain⟨t,_,rfl⟩:=yW.mp hb; exact t.isDr,qe3 cs,qe2 bs,by rw [zC]; exact qeK (by lia)⟩ h
theorem qcI (cs zs:List Card) (i j:Nat) (h1:cs.length<=10000) (h2:zs.length<=10000) (h:Hh):relF qaN [.tup (cs.map qah),.int i,.int j,.tup (zs.map qah)] h=some (.tup ((cs.take i++zs++cs.drop j).map qah),h):=by
 rw [qa9 qfB ⟨_,_,i,j,rfl,rfl,qe3 cs,qe3 zs,by simp only [zC]; exact qeK (by lia)⟩ h]
 simp [yY,yS]
theorem qdK (bs zs:List T) (i j:Nat) (h1:bs.length<=10000) (h2:zs.length<=10000) (h:Hh):relF qaN [.tup (bs.map T.d),.int i,.int j,.tup (zs.map T.d)] h=some (.tup ((bs.take i++zs++bs.drop j).map T.d),h):=by
 rw [qa9 qfB ⟨_,_,i,j,rfl,rfl,qe2 bs,qe2 zs,by simp only [zC]; exact qeK (by lia)⟩ h]
 simp [yY,yS]
section
variable {α:Type} (f:α->D)
theorem qhz (xs:List α):DL.cutD (xs.map f) none (some (-1))=xs.dropLast.map f:=by rw [qmb,List.map_dropLast]
theorem qk3 (xs:List α):DL.cutD (xs.map f) (some (-1)) none=(xs.drop (xs.length - 1)).map f:=by rw [qma,zC,yS]
theorem qhA (xs:List α) (k:Nat):DL.cutD (xs.map f) none (some (k:Int))=(xs.take k).map f:=by rw [qdf,yY]
theorem qhy (xs:List α) (k:Nat):DL.cutD (xs.map f) (some (k:Int)) none=(xs.drop k).map f:=by rw [qde,yS]
theorem qc9 {xs ys:List α} (h:Hh) (c:xs.length+ys.length<=100000):oAdd (.tup (xs.map f)) (.tup (ys.map f)) h=some (.tup ((xs++ys).map f),h):=by
 rw [qgs h (by simp only [zC]; exact qeK c),yC]
end
noncomputable def qfq (cs:List Card) (bs:List T) (p:Nat) (c:Card) (l s:T):T:=
 .node (cs.take p++l.cs.drop (l.cs.length - 1)++cs.drop (p+1)) (bs.take p++[.node l.cs.dropLast l.bs.dropLast,.node (c::s.cs) (l.bs.drop (l.bs.length - 1)++s.bs)]++bs.drop (p+2))
noncomputable def qfp (cs:List Card) (bs:List T) (p:Nat) (c:Card) (s r:T):T:=
 .node (cs.take p++r.cs.take 1++cs.drop (p+1)) (bs.take p++[.node (s.cs++[c]) (s.bs++r.bs.take 1),.node (r.cs.drop 1) (r.bs.drop 1)]++bs.drop (p+2))
noncomputable def qeh (cs:List Card) (bs:List T) (p:Nat) (c:Card) (l r:T):T:=
 .node (cs.take p++[]++cs.drop (p+1)) (bs.take p++[.node (l.cs++[c]++r.cs) (l.bs++r.bs)]++bs.drop (p+2))
structure Nb (cs:List Card) (bs:List T) (p:Nat) (c:Card) (l r:T):Prop where
 hc:cs[p]?=some c
 hl:bs[p]?=some l
 hr:bs[p+1]?=some r
 zc:cs.length<=1000
 zb:bs.length<=1000
 zlc:l.cs.length<=1000
 zlb:l.bs.length<=1000
 zrc:r.cs.length<=1000
 zrb:r.bs.length<=1000
def qgT (ds:List D) (d:D):Prop:=∃ (cs:List Card) (bs:List T) (p:Nat) (c:Card) (l s:T),ds=[(T.node cs bs).d,.int ((p+1:Nat):Int)]/\d=(qfq cs bs p c l s).d/\Nb cs bs p c l s
def qgS (ds:List D) (d:D):Prop:=∃ (cs:List Card) (bs:List T) (p:Nat) (c:Card) (s r:T),ds=[(T.node cs bs).d,.int (p:Int)]/\d=(qfp cs bs p c s r).d/\Nb cs bs p c s r
def qiN (ds:List D) (d:D):Prop:=∃ (cs:List Card) (bs:List T) (p:Nat) (c:Card) (l r:T),ds=[(T.node cs bs).d,.int (p:Int)]/\d=(qeh cs bs p c l r).d/\Nb cs bs p c l r
theorem qgw {cs:List Card}{p:Nat}{c:Card} (e:cs[p]?=some c) (h:Hh):oIx (.tup (cs.map qah)) (.int p) h=some (qah c,h):=by
 rw [qcQ,qaS,zE,e]; rfl
theorem qcK {bs:List T}{p:Nat}{t:T} (e:bs[p]?=some t) (h:Hh):oIx (.tup (bs.map T.d)) (.int p) h=some (t.d,h):=by
 rw [qcQ,qaS,zE,e]; rfl
theorem runs_lentL:Runs (qae 8 (qcN (relF qaX) (relF qaN))) qgT:=by
 rintro ds d ⟨cs,bs,p,c,l,s,rfl,rfl,nb⟩
 refine⟨T.hbd _,fun h=>⟨[],qaD ?_⟩⟩
 rw [zW]
 have e1:(((p+1:Nat):Int)) - 1=(p:Int):=by lia
 have e2:(((p+1:Nat):Int))+1=((p+2:Nat):Int):=by lia
 have n1:=nb.zlb
 have n2:=nb.zlc
 have n3:=nb.zrb
 have n4:=nb.zrc
 have n5:=nb.zc
 have n6:=nb.zb
 have d1:=qbH l.cs.dropLast l.bs.dropLast (by rw [y8]; lia) h
 have a1:oAdd (.tup [qah c]) (.tup (s.cs.map qah)) h=some (.tup ((c::s.cs).map qah),h):=qc9 qah (xs:=[c]) h (by simp; lia)
 have a2:oAdd (.tup ((l.bs.drop (l.bs.length - 1)).map T.d)) (.tup (s.bs.map T.d)) h=some (.tup ((l.bs.drop (l.bs.length - 1)++s.bs).map T.d),h):=qc9 T.d h (by rw [zQ]; lia)
 have d2:=qbH (c::s.cs) (l.bs.drop (l.bs.length - 1)++s.bs) (by rw [zJ,zQ]; lia) h
 rw [yE] at d2
 have p1:=qcI cs (l.cs.drop (l.cs.length - 1)) p (p+1) (by lia) (by rw [zQ]; lia) h
 have p2:relF qaN [.tup (bs.map T.d),.int (p:Int),.int ((p+2:Nat):Int),.tup [(T.node l.cs.dropLast l.bs.dropLast).d,(T.node (c::s.cs) (l.bs.drop (l.bs.length - 1)++s.bs)).d]] h=_:=
  qdK bs [T.node l.cs.dropLast l.bs.dropLast,T.node (c::s.cs) (l.bs.drop (l.bs.length - 1)++s.bs)] p (p+2) (by lia) (by simp) h
 have d3:=qbH (cs.take p++l.cs.drop (l.cs.length - 1)++cs.drop (p+1)) (bs.take p++[.node l.cs.dropLast l.bs.dropLast,.node (c::s.cs) (l.bs.drop (l.bs.length - 1)++s.bs)]++bs.drop (p+2)) (by simp; lia) h
 unfold qcN qfq
 generalize hq:(((p+1:Nat):Int))=q at*
 have ic:=qgw nb.hc h
 have il:=qcK nb.hl h
 have is:=qcK nb.hr h
 rw [hq] at is
 simp only [fSeq,fSet,fRet,fc,fAll,fTup,f1,f2,fSl,qar,qaJ,fV,fC,qaM,yE,yG,zO,xG,y9,xI,zU,zL,List.set_cons_zero,List.set_cons_succ,List.replicate,Nat.reduceAdd,Nat.reduceSub,qaI,Res.bind_ok,Res.out_ok,qaR,qbC,
  qeR,qdU,T.cs_node,T.bs_node,qeY,qct,qe0,qdZ,qhz,qk3,e1,e2,ic,il,is,d1,a1,a2,d2,p1,p2,d3]
theorem runs_lentR:Runs (qae 8 (qcv (relF qaX) (relF qaN))) qgS:=by
 rintro ds d ⟨cs,bs,p,c,s,r,rfl,rfl,nb⟩
 refine⟨T.hbd _,fun h=>⟨[],qaD ?_⟩⟩
 rw [zW]
 have e1:(p:Int)+1=((p+1:Nat):Int):=by lia
 have e2:(p:Int)+2=((p+2:Nat):Int):=by lia
 have n1:=nb.zlb
 have n2:=nb.zlc
 have n3:=nb.zrb
 have n4:=nb.zrc
 have n5:=nb.zc
 have n6:=nb.zb
 have c1:DL.cutD (r.bs.map T.d) none (some 1)=(r.bs.take 1).map T.d:=qhA T.d r.bs 1
 have c2:DL.cutD (r.bs.map T.d) (some 1) none=(r.bs.drop 1).map T.d:=qhy T.d r.bs 1
 have c3:DL.cutD (r.cs.map qah) none (some 1)=(r.cs.take 1).map qah:=qhA qah r.cs 1
 have c4:DL.cutD (r.cs.map qah) (some 1) none=(r.cs.drop 1).map qah:=qhy qah r.cs 1
 have a1:oAdd (.tup (s.cs.map qah)) (.tup [qah c]) h=some (.tup ((s.cs++[c]).map qah),h):=qc9 qah (ys:=[c]) h (by simp; lia)
 have a2:oAdd (.tup (s.bs.map T.d)) (.tup ((r.bs.take 1).map T.d)) h=some (.tup ((s.bs++r.bs.take 1).map T.d),h):=qc9 T.d h (by rw [zM]; lia)
 have d1:=qbH (s.cs++[c]) (s.bs++r.bs.take 1) (by rw [zJ,zM]; lia) h
 have d2:=qbH (r.cs.drop 1) (r.bs.drop 1) (by rw [zQ]; lia) h
 have p1:=qcI cs (r.cs.take 1) p (p+1) (by lia) (by rw [zM]; lia) h
 have p2:relF qaN [.tup (bs.map T.d),.int (p:Int),.int ((p+2:Nat):Int),.tup [(T.node (s.cs++[c]) (s.bs++r.bs.take 1)).d,(T.node (r.cs.drop 1) (r.bs.drop 1)).d]] h=_:=
  qdK bs [T.node (s.cs++[c]) (s.bs++r.bs.take 1),T.node (r.cs.drop 1) (r.bs.drop 1)] p (p+2) (by lia) (by simp) h
 have d3:=qbH (cs.take p++r.cs.take 1++cs.drop (p+1)) (bs.take p++[.node (s.cs++[c]) (s.bs++r.bs.take 1),.node (r.cs.drop 1) (r.bs.drop 1)]++bs.drop (p+2)) (by simp; lia) h
 have ic:=qgw nb.hc h
 have il:=qcK nb.hl h
 have is:=qcK nb.hr h
 unfold qcv qfp
 simp only [fSeq,fSet,fRet,fc,fAll,fTup,f1,f2,fSl,qar,qaJ,fV,fC,qaM,yE,yG,zO,xG,y9,xI,zU,zL,List.set_cons_zero,List.set_cons_succ,List.replicate,Nat.reduceAdd,Nat.reduceSub,qaI,Res.bind_ok,Res.out_ok,qaR,qbC,
  qeR,qdU,T.cs_node,T.bs_node,qeY,qct,qe0,qdZ,c1,c2,c3,c4,e1,e2,ic,il,is,d1,a1,a2,d2,p1,p2,d3]
theorem runs_join:Runs (qae 7 (qf4 (relF qaX) (relF qaN))) qiN:=by
 rintro ds d ⟨cs,bs,p,c,s,r,rfl,rfl,nb⟩
 refine⟨T.hbd _,fun h=>⟨[],qaD ?_⟩⟩
 rw [zW]
 have e1:(p:Int)+1=((p+1:Nat):Int):=by lia
 have e2:(p:Int)+2=((p+2:Nat):Int):=by lia
 have n1:=nb.zlb
 have n2:=nb.zlc
 have n3:=nb.zrb
 have n4:=nb.zrc
 have n5:=nb.zc
 have n6:=nb.zb
 have a1:oAdd (.tup (s.cs.map qah)) (.tup [qah c]) h=some (.tup ((s.cs++[c]).map qah),h):=qc9 qah (ys:=[c]) h (by simp; lia)
 have a2:oAdd (.tup ((s.cs++[c]).map qah)) (.tup (r.cs.map qah)) h=some (.tup ((s.cs++[c]++r.cs).map qah),h):=qc9 qah h (by simp; lia)
 have a3:oAdd (.tup (s.bs.map T.d)) (.tup (r.bs.map T.d)) h=some (.tup ((s.bs++r.bs).map T.d),h):=qc9 T.d h (by lia)
 have d1:=qbH (s.cs++[c]++r.cs) (s.bs++r.bs) (by rw [zJ]; lia) h
 have p1:relF qaN [.tup (cs.map qah),.int (p:Int),.int ((p+1:Nat):Int),.tup []] h=_:=qcI cs [] p (p+1) (by lia) (by simp) h
 have p2:relF qaN [.tup (bs.map T.d),.int (p:Int),.int ((p+2:Nat):Int),.tup [(T.node (s.cs++[c]++r.cs) (s.bs++r.bs)).d]] h=_:=
  qdK bs [T.node (s.cs++[c]++r.cs) (s.bs++r.bs)] p (p+2) (by lia) (by simp) h
 have d3:=qbH (cs.take p++[]++cs.drop (p+1)) (bs.take p++[.node (s.cs++[c]++r.cs) (s.bs++r.bs)]++bs.drop (p+2)) (by simp; lia) h
 have ic:=qgw nb.hc h
 have il:=qcK nb.hl h
 have is:=qcK nb.hr h
 unfold qf4 qeh
 simp only [fSeq,fSet,fRet,fc,fAll,fTup,f1,f2,fSl,qar,qaJ,fV,fC,qaM,yE,yG,zO,xG,y9,xI,zU,zL,List.set_cons_zero,List.set_cons_succ,List.replicate,Nat.reduceAdd,Nat.reduceSub,qaI,Res.bind_ok,Res.out_ok,qaR,qbC,
  qeR,qdU,T.cs_node,T.bs_node,qeY,qct,qe0,qdZ,e1,e2,ic,il,is,d1,a1,a2,a3,p1,p2,d3]
theorem qkV:Det qgT:=runs_lentL.det
theorem qkU:Det qgS:=runs_lentR.det
theorem qiC:Det qiN:=runs_join.det
inductive Mend (half:Nat) (cs:List Card) (bs:List T) (p:Nat):T->Prop where
 | asis {t:T} (e:bs[p]?=some t) (h:t.cs.length+1≠half):Mend half cs bs p (.node cs bs)
 | left {q:Nat}{c:Card}{l t:T} (hp:p=q+1) (nb:Nb cs bs q c l t) (h:t.cs.length+1=half) (hl:half < l.cs.length):Mend half cs bs p (qfq cs bs q c l t)
 | right {c:Card}{t r:T} (nb:Nb cs bs p c t r) (h:t.cs.length+1=half) (hr:half < r.cs.length) (hl:∀ l,0 < p->bs[p - 1]?=some l->¬ half < l.cs.length):Mend half cs bs p (qfp cs bs p c t r)
 | joinL {q:Nat}{c:Card}{l t:T} (hp:p=q+1) (nb:Nb cs bs q c l t) (h:t.cs.length+1=half) (hl:¬ half < l.cs.length) (hr:∀ r,bs[p+1]?=some r->¬ half < r.cs.length):Mend half cs bs p (qeh cs bs q c l t)
 | joinR {c:Card}{t r:T} (hp:p=0) (nb:Nb cs bs p c t r) (h:t.cs.length+1=half) (hr:¬ half < r.cs.length):Mend half cs bs p (qeh cs bs p c t r)
def qes (ds:List D) (d:D):Prop:=∃ (w half:Nat) (cs:List Card) (bs:List T) (p:Nat) (t:T),ds=[.int (w:Int),(T.node cs bs).d,.int (p:Int)]/\d=t.d/\half=w / 2/\0 < half/\p < bs.length/\Mend half cs bs p t
theorem qgZ {t:T}{h:Hh}{f:FE}{e:En}{h0:Hh} (q:f e h0=.ok t.d h):fc oLen (fAll [f2 oIx f (fC (.int 0))]) e h0=.ok (.int t.cs.length) h:=by
 rw [qaK (qaz (d:=.tup (t.cs.map qah)) (h1:=h) (by rw [qap q rfl,qeR]; rfl) rfl),qcJ,zC]
 rfl
theorem runs_mended:Runs (qae 5 (qf3 (qae 1 qdk) (relF qgT) (relF qgS) (relF qiN))) qes:=by
 rintro ds d ⟨w,half,cs,bs,p,t',rfl,rfl,hh,h0,hpl,m⟩
 refine⟨T.hbd _,fun h=>⟨[],qaD ?_⟩⟩
 rw [zW]
 have hI:(w:Int) / 2=(half:Int):=by lia
 have et:∃ t,bs[p]?=some t:=⟨bs[p],zA hpl⟩
 obtain⟨t,et⟩:=et
 unfold qf3
 generalize hE:[some (D.int (w:Int)),some (T.node cs bs).d,some (.int (p:Int)),some (.int (half:Int)),some (.tup (bs.map T.d))]=E
 have E0:E[0]?=some (some (.int (w:Int))):=by rw [<-hE]; rfl
 have E1:E[1]?=some (some (T.node cs bs).d):=by rw [<-hE]; rfl
 have E2:E[2]?=some (some (.int (p:Int))):=by rw [<-hE]; rfl
 have E3:E[3]?=some (some (.int (half:Int))):=by rw [<-hE]; rfl
 have E4:E[4]?=some (some (.tup (bs.map T.d))):=by rw [<-hE]; rfl
 rw [qag (e1:=[some (D.int (w:Int)),some (T.node cs bs).d,some (.int (p:Int)),some (.int (half:Int)),none]) (h1:=h) (qaq (d:=.int (half:Int)) (by rw [qaK (ds:=[.int (w:Int)]) (h1:=h) rfl,qij,hI]; rfl))]
 rw [qag (e1:=E) (h1:=h) (by rw [<-hE]; exact qaq (d:=.tup (bs.map T.d)) (by rw [qap (x:=(T.node cs bs).d) (h1:=h) rfl rfl,qdU]; rfl))]
 have gp:∀ {f:FE}{q:Nat}{s:T},f E h=.ok (.int (q:Int)) h->bs[q]?=some s->f2 oIx (fV 4) f E h=.ok s.d h:=fun {f q s} hf hs=>by
  rw [qap (qbc E4 h) hf,qcK hs]; rfl
 have lt:fc oLen (fAll [f2 oIx (f2 oIx (fV 4) (fV 2)) (fC (.int 0))]) E h=.ok (.int t.cs.length) h:=qgZ (gp (qbc E2 h) et)
 have sb:f2 oSub (fV 3) (fC (.int 1)) E h=.ok (.int ((half:Int) - 1)) h:=by rw [qap (qbc E3 h) rfl]; rfl
 have c1:fB (f2 oNe (fc oLen (fAll [(f2 oIx (f2 oIx (fV 4) (fV 2)) (fC (.int 0)))])) (f2 oSub (fV 3) (fC (.int 1)))) E h=.ok (!((t.cs.length:Int)==(half:Int) - 1)) h:=qa5 (by rw [qap lt sb]; rfl)
 by_cases hs:t.cs.length+1=half
 ·have b1:(!((t.cs.length:Int)==(half:Int) - 1))=false:=by
   have:(t.cs.length:Int)=(half:Int) - 1:=by lia
   rw [this]; simp
  rw [b1] at c1
  rw [qag (e1:=E) (h1:=h) (by rw [qaL c1]; rfl)]
  have gt0:fB (f2 oGt (fV 2) (fC (.int 0))) E h=.ok (decide ((0:Int) < (p:Int))) h:=qa5 (by rw [qap (qbc E2 h) rfl]; rfl)
  have lenL:∀ (q:Nat) (l:T),p=q+1->bs[q]?=some l->fB (f2 oGt (fc oLen (fAll [(f2 oIx (f2 oIx (fV 4) (f2 oSub (fV 2) (fC (.int 1)))) (fC (.int 0)))])) (fV 3)) E h=.ok (decide ((half:Int) < (l.cs.length:Int))) h:=by
   intro q l hq hl
   have e1:f2 oSub (fV 2) (fC (.int 1)) E h=.ok (.int (q:Int)) h:=by
    rw [qap (qbc E2 h) rfl]
    show Res.ok (D.int ((p:Int) - 1)) h=_
    rw [show (p:Int) - 1=(q:Int) by lia]
   exact qa5 (by rw [qap (qgZ (gp e1 hl)) (qbc E3 h)]; rfl)
  have lenR:∀ (r:T),bs[p+1]?=some r->fB (f2 oGt (fc oLen (fAll [(f2 oIx (f2 oIx (fV 4) (f2 oAdd (fV 2) (fC (.int 1)))) (fC (.int 0)))])) (fV 3)) E h=.ok (decide ((half:Int) < (r.cs.length:Int))) h:=by
   intro r hr
   have e1:f2 oAdd (fV 2) (fC (.int 1)) E h=.ok (.int ((p+1:Nat):Int)) h:=by
    rw [qap (qbc E2 h) rfl]
    rfl
   exact qa5 (by rw [qap (qgZ (gp e1 hr)) (qbc E3 h)]; rfl)
  have ltR:fB (f2 oLt (f2 oAdd (fV 2) (fC (.int 1))) (fc oLen (fAll [(fV 4)]))) E h=.ok (decide ((p:Int)+1 < (bs.length:Int))) h:=qa5 (by
   rw [qap (x:=.int ((p:Int)+1)) (h1:=h) (y:=.int bs.length) (h2:=h) (by rw [qap (qbc E2 h) rfl]; rfl) (by rw [qaK (qaz (qbc E4 h) rfl),qcJ,zC]; rfl)]
   rfl)
  have args:fAll [fV 1,fV 2] E h=.ok [(T.node cs bs).d,.int (p:Int)] h:=qaz (qbc E1 h) (qaz (qbc E2 h) rfl)
  have qL:∃ b,fAnd (fB (f2 oGt (fV 2) (fC (.int 0)))) (fB (f2 oGt (fc oLen (fAll [(f2 oIx (f2 oIx (fV 4) (f2 oSub (fV 2) (fC (.int 1)))) (fC (.int 0)))])) (fV 3))) E h=.ok b h/\(b=true↔∃ q l,p=q+1/\bs[q]?=some l/\half < l.cs.length):=by
   unfold fAnd
   rw [gt0,Res.bind_ok]
   by_cases hp:p=0
   ·refine⟨false,?_,?_⟩
    ·rw [hp]; rfl
    ·constructor
     ·intro z; cases z
     ·rintro⟨q,l,e,_⟩; lia
   ·obtain⟨q,rfl⟩:∃ q,p=q+1:=⟨p - 1,by lia⟩
    obtain⟨l,hl⟩:∃ l,bs[q]?=some l:=⟨bs[q]'(by lia),zA (by lia)⟩
    refine⟨decide ((half:Int) < (l.cs.length:Int)),?_,?_⟩
    ·rw [decide_eq_true (show (0:Int) < ((q+1:Nat):Int) by lia),if_pos rfl]
     exact lenL q l rfl hl
    ·rw [decide_eq_true_iff]
     constructor
     ·exact fun z=>⟨q,l,rfl,hl,by lia⟩
     ·rintro⟨q',l',e,hl',z⟩
      have:q'=q:=by lia
      subst this
      rw [hl] at hl'
      cases hl'
      lia
  obtain⟨bL,qL,iL⟩:=qL
  have qR:∃ b,fAnd (fB (f2 oLt (f2 oAdd (fV 2) (fC (.int 1))) (fc oLen (fAll [(fV 4)])))) (fB (f2 oGt (fc oLen (fAll [(f2 oIx (f2 oIx (fV 4) (f2 oAdd (fV 2) (fC (.int 1)))) (fC (.int 0)))])) (fV 3))) E h=.ok b h/\(b=true↔∃ r,bs[p+1]?=some r/\half < r.cs.length):=by
   unfold fAnd
   rw [ltR,Res.bind_ok]
   by_cases hp:p+1 < bs.length
   ·refine⟨decide ((half:Int) < ((bs[p+1]).cs.length:Int)),?_,?_⟩
    ·rw [decide_eq_true (show (p:Int)+1 < (bs.length:Int) by lia),if_pos rfl]
     exact lenR _ (zA hp)
    ·rw [decide_eq_true_iff]
     constructor
     ·exact fun z=>⟨_,zA hp,by lia⟩
     ·rintro⟨r,hr,z⟩
      rw [zA hp] at hr
      cases hr
      lia
   ·refine⟨false,?_,?_⟩
    ·rw [decide_eq_false (by lia)]; rfl
    ·constructor
     ·intro z; cases z
     ·rintro⟨r,hr,_⟩
      rw [yM (by lia)] at hr
      cases hr
  obtain⟨bR,qR,iR⟩:=qR
  cases m with
  | asis e hn=>rw [et] at e; cases e; exact absurd hs hn
  | @left q c l t2 hp nb _ hl=>
   have:bL=true:=iL.mpr ⟨q,l,hp,nb.hl,hl⟩
   subst this
   refine qba ?_
   rw [qbb qL]
   refine qaO ?_
   rw [qaK args]
   subst hp
   rw [qa9 qkV ⟨cs,bs,q,c,l,t2,rfl,rfl,nb⟩]
   rfl
  | @right c t2 r nb _ hr hl=>
   have bl:bL=false:=by
    cases hb:bL with
    | false=>rfl
    | true=>
     obtain⟨q,l,e,hl',z⟩:=iL.mp hb
     exact absurd z (hl l (by lia) (by rw [show p - 1=q by lia]; exact hl'))
   subst bl
   rw [qag (e1:=E) (h1:=h) (by rw [qaL qL]; rfl)]
   have:bR=true:=iR.mpr ⟨r,nb.hr,hr⟩
   subst this
   refine qba ?_
   rw [qbb qR]
   refine qaO ?_
   rw [qaK args,qa9 qkU ⟨cs,bs,p,c,t2,r,rfl,rfl,nb⟩]
   rfl
  | @joinL q c l t2 hp nb _ hl hr=>
   have bl:bL=false:=by
    cases hb:bL with
    | false=>rfl
    | true=>
     obtain⟨q',l',e,hl',z⟩:=iL.mp hb
     have:q'=q:=by lia
     subst this
     rw [nb.hl] at hl'
     cases hl'
     exact absurd z hl
   subst bl
   rw [qag (e1:=E) (h1:=h) (by rw [qaL qL]; rfl)]
   have br:bR=false:=by
    cases hb:bR with
    | false=>rfl
    | true=>
     obtain⟨r,hr',z⟩:=iR.mp hb
     exact absurd z (hr r hr')
   subst br
   rw [qag (e1:=E) (h1:=h) (by rw [qaL qR]; rfl)]
   refine qba ?_
   rw [qbb (h1:=h) (by rw [gt0,decide_eq_true (by lia)])]
   refine qaO ?_
   rw [qaK (ds:=[(T.node cs bs).d,.int (q:Int)]) (h1:=h) (qaz (qbc E1 h) (qaz (d:=.int (q:Int)) (h1:=h) (by
    rw [qap (qbc E2 h) rfl]
    show Res.ok (D.int ((p:Int) - 1)) h=_
    rw [show (p:Int) - 1=(q:Int) by lia]) rfl)),qa9 qiC ⟨cs,bs,q,c,l,t2,rfl,rfl,nb⟩]
   rfl
  | @joinR c t2 r hp nb _ hr=>
   have bl:bL=false:=by
    cases hb:bL with
    | false=>rfl
    | true=>
     obtain⟨q',l',e,hl',z⟩:=iL.mp hb
     lia
   subst bl
   rw [qag (e1:=E) (h1:=h) (by rw [qaL qL]; rfl)]
   have br:bR=false:=by
    cases hb:bR with
    | false=>rfl
    | true=>
     obtain⟨r',hr',z⟩:=iR.mp hb
     rw [nb.hr] at hr'
     cases hr'
     exact absurd z hr
   subst br
   rw [qag (e1:=E) (h1:=h) (by rw [qaL qR]; rfl)]
   rw [qag (e1:=E) (h1:=h) (by rw [qaL (h1:=h) (by rw [gt0,decide_eq_false (by lia)])]; rfl)]
   refine qaO ?_
   rw [qaK args,qa9 qiC ⟨cs,bs,p,c,t2,r,rfl,rfl,nb⟩]
   rfl
 ·have b1:(!((t.cs.length:Int)==(half:Int) - 1))=true:=by
   have:¬ (t.cs.length:Int)=(half:Int) - 1:=by lia
   simp [this]
  rw [b1] at c1
  have:t'=.node cs bs:=by
   cases m with
   | asis e hn=>rfl
   | left hp nb h2 _=>subst hp; rw [nb.hr] at et; cases et; exact absurd h2 hs
   | right nb h2 _ _=>rw [nb.hl] at et; cases et; exact absurd h2 hs
   | joinL hp nb h2 _ _=>subst hp; rw [nb.hr] at et; cases et; exact absurd h2 hs
   | joinR hp nb h2 _=>rw [nb.hl] at et; cases et; exact absurd h2 hs
  subst this
  refine qba ?_
  rw [qbb c1]
  exact qaO (qbc E1 h)
theorem qjf:Det qes:=runs_mended.det
theorem qbA:∀ {F1:List (List Card)}{C1:List Card} (F2:List (List Card)) (C2:List Card),F1.length=C1.length->T.inter (F1++F2) (C1++C2)=T.inter F1 C1++T.inter F2 C2
 | [],[],F2,C2,_=>by simp [T.inter]
 | f::F1,c::C1,F2,C2,h=>by
  simp only [y9,T.inter,yT]
  rw [qbA F2 C2 (by simpa using h)]
 | [],c::C1,F2,C2,h=>by simp at h
 | f::F1,[],F2,C2,h=>by simp at h
theorem qcX:∀ {F:List (List Card)}{C:List Card} (G:List (List Card)) (c:Card) (E:List Card),F.length=C.length+1->T.inter (F++G) (C++c::E)=T.inter F C++c::T.inter G E
 | [],C,G,c,E,h=>by simp at h
 | [f],[],G,c,E,h=>by simp [T.inter]
 | [f],d::C,G,c,E,h=>by simp at h
 | f::f2::F,[],G,c,E,h=>by simp at h
 | f::f2::F,d::C,G,c,E,h=>by
  have:=qcX (F:=f2::F) (C:=C) G c E (by simpa using h)
  simp only [y9,T.inter,yT] at this |-
  rw [this]
theorem qfV (F2:List (List Card)) (C2:List Card):∃ r,∀ g,T.inter (g::F2) C2=g++r:=by
 cases C2 with
 | nil=>exact⟨T.inter F2 [],fun g=>by simp [T.inter]⟩
 | cons c C3=>exact⟨c::T.inter F2 C3,fun g=>by simp [T.inter]⟩
theorem qej (g:List Card):T.inter [g] []=g:=by simp [T.inter]
theorem qbp (cs:List Card):T.inter [] cs=cs:=by cases cs<;>rfl
theorem qgz {cs:List Card}{fs:List (List Card)}{p:Nat}{c:Card}{f g:List Card} (hc:cs[p]?=some c) (hf:fs[p]?=some f) (hg:fs[p+1]?=some g):
  ∃ A r,T.inter fs cs=A++f++c::g++r/\(∀ c' f' g',T.inter (fs.take p++[f',g']++fs.drop (p+2)) (cs.take p++[c']++cs.drop (p+1))=A++f'++c'::g'++r)/\∀ j,T.inter (fs.take p++[j]++fs.drop (p+2)) (cs.take p++[]++cs.drop (p+1))=A++j++r:=by
 have hcl:p < cs.length:=(zB.mp hc).1
 have hgl:p+1 < fs.length:=(zB.mp hg).1
 have l1:(fs.take p).length=(cs.take p).length:=by rw [zM,zM]; lia
 have ec:cs=cs.take p++c::cs.drop (p+1):=by
  rw [zA hcl] at hc
  cases hc
  rw [<-yQ hcl,yU]
 have ef:fs=fs.take p++f::g::fs.drop (p+2):=by
  rw [zA (by lia)] at hf hg
  cases hf
  cases hg
  rw [<-yQ hgl,<-yQ (show p < fs.length by lia),yU]
 obtain⟨r,hr⟩:=qfV (fs.drop (p+2)) (cs.drop (p+1))
 refine⟨T.inter (fs.take p) (cs.take p),r,?_,?_,?_⟩
 ·have:T.inter fs cs=T.inter (fs.take p++f::g::fs.drop (p+2)) (cs.take p++c::cs.drop (p+1)):=by rw [<-ec,<-ef]
  rw [this,qbA _ _ l1]
  simp only [T.inter,hr]
  simp
 ·intro c' f' g'
  rw [yT,yT,qbA _ _ l1]
  simp only [y9,xI,T.inter,hr]
  simp
 ·intro j
  rw [yT,zW,qbA _ _ l1]
  simp only [y9,xI,hr]
  simp
def T.Fl (bot:Bool) (t:T):Prop:=if bot then t.bs=[] else t.bs.length=t.cs.length+1
theorem T.flat_eq (t:T):t.flat=T.inter (t.bs.map T.flat) t.cs:=by cases t; rw [T.flat_node]; rfl
theorem T.flat_bot {t:T} (h:t.bs=[]):t.flat=t.cs:=by rw [T.flat_eq,h,yG,qbp]
section
variable {cs:List Card}{bs:List T}{p:Nat}{c:Card}{l s r:T}{bot:Bool}
theorem qfx (h:bs[p]?=some l):(bs.map T.flat)[p]?=some l.flat:=by rw [zE,h]; rfl
theorem qja (nb:Nb cs bs p c l s) (hl:T.Fl bot l) (hs:T.Fl bot s) (h0:0 < l.cs.length):(qfq cs bs p c l s).flat=(T.node cs bs).flat:=by
 obtain⟨A,r,e,e2,_⟩:=qgz nb.hc (qfx nb.hl) (qfx nb.hr)
 unfold qfq
 rw [T.flat_node,T.flat_node,e]
 obtain⟨l0,x,ex⟩:∃ l0 x,l.cs=l0++[x]:=⟨l.cs.dropLast,l.cs.getLast (by intro z; rw [z] at h0; simp at h0),(xQ _).symm⟩
 have d1:l.cs.drop (l.cs.length - 1)=[x]:=by rw [ex]; simp
 have d2:l.cs.dropLast=l0:=by rw [ex]; simp
 rw [d1,d2]
 simp only [yC,yY,yS,yE,yG]
 rw [e2]
 cases bot with
 | true=>
  have hl:l.bs=[]:=hl
  have hs:s.bs=[]:=hs
  rw [T.flat_node,T.flat_node,hl,hs]
  simp only [List.dropLast_nil,List.drop_nil,zW,yG,qbp]
  rw [T.flat_bot hl,T.flat_bot hs,ex]
  simp
 | false=>
  have hl:l.bs.length=l.cs.length+1:=hl
  obtain⟨b0,b,eb⟩:∃ b0 b,l.bs=b0++[b]:=⟨l.bs.dropLast,l.bs.getLast (by intro z; rw [z] at hl; simp at hl),(xQ _).symm⟩
  have d3:l.bs.drop (l.bs.length - 1)=[b]:=by rw [eb]; simp
  have d4:l.bs.dropLast=b0:=by rw [eb]; simp
  rw [d3,d4,T.flat_node,T.flat_node,T.flat_eq l,T.flat_eq s,ex,eb]
  simp only [yC,yE,yG,y9,xI]
  rw [qcX (F:=b0.map T.flat) (C:=l0) [b.flat] x [] (by
   rw [ex,eb] at hl
   simp at hl |-
   lia),qej]
  simp [T.inter]
theorem qi9 (nb:Nb cs bs p c s r) (hs:T.Fl bot s) (hr:T.Fl bot r) (h0:0 < r.cs.length):(qfp cs bs p c s r).flat=(T.node cs bs).flat:=by
 obtain⟨A,z,e,e2,_⟩:=qgz nb.hc (qfx nb.hl) (qfx nb.hr)
 unfold qfp
 rw [T.flat_node,T.flat_node,e]
 obtain⟨x,r0,ex⟩:∃ x r0,r.cs=x::r0:=by
  cases hq:r.cs with
  | nil=>rw [hq] at h0; simp at h0
  | cons x r0=>exact⟨x,r0,rfl⟩
 have d1:r.cs.take 1=[x]:=by rw [ex]; rfl
 have d2:r.cs.drop 1=r0:=by rw [ex]; rfl
 rw [d1,d2]
 simp only [yC,yY,yS,yE,yG]
 rw [e2]
 cases bot with
 | true=>
  have hs:s.bs=[]:=hs
  have hr:r.bs=[]:=hr
  rw [T.flat_node,T.flat_node,hr,hs]
  simp only [List.take_nil,List.drop_nil,zW,yG,qbp]
  rw [T.flat_bot hr,T.flat_bot hs,ex]
  simp
 | false=>
  have hr:r.bs.length=r.cs.length+1:=hr
  have hs:s.bs.length=s.cs.length+1:=hs
  obtain⟨b,b0,eb⟩:∃ b b0,r.bs=b::b0:=by
   cases hq:r.bs with
   | nil=>rw [hq] at hr; simp at hr
   | cons x r0=>exact⟨x,r0,rfl⟩
  have d3:r.bs.take 1=[b]:=by rw [eb]; rfl
  have d4:r.bs.drop 1=b0:=by rw [eb]; rfl
  rw [d3,d4,T.flat_node,T.flat_node,T.flat_eq r,T.flat_eq s,ex,eb]
  simp only [yC,yE,yG,y9,xI]
  rw [qcX (F:=s.bs.map T.flat) (C:=s.cs) [b.flat] c [] (by rw [zC]; lia),qej]
  simp [T.inter]
theorem qhq (nb:Nb cs bs p c l r) (hl:T.Fl bot l) (hr:T.Fl bot r):(qeh cs bs p c l r).flat=(T.node cs bs).flat:=by
 obtain⟨A,z,e,_,e2⟩:=qgz nb.hc (qfx nb.hl) (qfx nb.hr)
 unfold qeh
 rw [T.flat_node,T.flat_node,e]
 simp only [yC,yY,yS,yE,yG]
 rw [e2]
 cases bot with
 | true=>
  have hl:l.bs=[]:=hl
  have hr:r.bs=[]:=hr
  rw [T.flat_node,hr,hl]
  simp only [zW,yG,qbp]
  rw [T.flat_bot hr,T.flat_bot hl]
  simp
 | false=>
  have hl:l.bs.length=l.cs.length+1:=hl
  rw [T.flat_node,T.flat_eq l,T.flat_eq r]
  simp only [yC]
  rw [show l.cs++[c]++r.cs=l.cs++c::r.cs by simp,qcX (F:=l.bs.map T.flat) (C:=l.cs) _ c _ (by rw [zC]; lia)]
  simp
end
theorem T.V.fl {least w own n:Nat}{t:T} (v:T.V least w own (n+1) t):T.Fl (decide (n=0)) t:=by
 cases t with
 | node cs bs=>
  unfold T.V at v
  unfold T.Fl
  by_cases h:n=0
  ·rw [decide_eq_true h,if_pos rfl]; exact v.2.2.1 h
  ·rw [decide_eq_false h,if_neg (by decide)]; exact (v.2.2.2 (by lia)).1
theorem T.V.lo {least w own n:Nat}{t:T} (v:T.V least w own (n+1) t):own<=t.cs.length:=by
 cases t; unfold T.V at v; exact v.1
theorem T.V.hi {least w own n:Nat}{t:T} (v:T.V least w own (n+1) t):t.cs.length<=w:=by
 cases t; unfold T.V at v; exact v.2.1
theorem T.V.kids {least w own n:Nat}{t:T} (v:T.V least w own (n+1) t) (h:0 < n):t.bs.length=t.cs.length+1/\∀ b∈t.bs,T.V least w least n b:=by
 cases t; unfold T.V at v; exact v.2.2.2 h
theorem T.V.leaf {least w own:Nat}{t:T} (v:T.V least w own 1 t):t.bs=[]:=by
 cases t; unfold T.V at v; exact v.2.2.1 rfl
theorem T.V.mk {least w own n:Nat}{cs:List Card}{bs:List T} (h1:own<=cs.length) (h2:cs.length<=w) (h3:n=0->bs=[]) (h4:0 < n->bs.length=cs.length+1/\∀ b∈bs,T.V least w least n b):T.V least w own (n+1) (.node cs bs):=by
 unfold T.V; exact⟨h1,h2,h3,h4⟩
theorem T.V.bsz {least w own n:Nat}{t:T} (v:T.V least w own (n+1) t):t.bs.length<=w+1:=by
 by_cases h:n=0
 ·subst h; rw [v.leaf]; simp
 ·rw [(v.kids (by lia)).1]; have:=v.hi; lia
section
variable {half w n p:Nat}{cs:List Card}{bs:List T}{c:Card}{l s r:T}
structure Short (half w n:Nat) (cs:List Card) (bs:List T) (p:Nat):Prop where
 hp:p < bs.length
 c0:0 < cs.length
 cw:cs.length<=w
 bl:bs.length=cs.length+1
 hh:half=w / 2
 h0:0 < half
 hw:w<=500
 ok:∀ i b,bs[i]?=some b->i≠p->T.V half w half (n+1) b
 at':∀ b,bs[p]?=some b->T.V half w (half - 1) (n+1) b
theorem mem3 {α:Type}{bs zs:List α}{p q:Nat}{x:α} (h:x∈bs.take p++zs++bs.drop q):(∃ i,i < p/\bs[i]?=some x)\/x∈zs\/∃ i,q<=i/\bs[i]?=some x:=by
 rw [zP,zP] at h
 rcases h with (h | h) | h
 ·obtain⟨i,hi,e⟩:=List.mem_take_iff_getElem.mp h
  exact .inl ⟨i,by lia,by rw [zA (by lia),e]⟩
 ·exact .inr (.inl h)
 ·obtain⟨i,hi,e⟩:=List.mem_drop_iff_getElem.mp h
  exact .inr (.inr ⟨q+i,by lia,by rw [zA (by lia),e]⟩)
theorem Short.nb (S:Short half w n cs bs p) {q:Nat} (hq:q+1 < bs.length):∃ c l r,Nb cs bs q c l r:=by
 have h1:=S.bl
 have h2:=S.cw
 have h3:=S.hw
 have sz:∀ i (hi:i < bs.length),(bs[i]).cs.length<=1000/\(bs[i]).bs.length<=1000:=fun i hi=>by
  by_cases e:i=p
  ·subst e
   have v:=S.at' _ (zA hi)
   have:=v.hi
   have:=v.bsz
   lia
  ·have v:=S.ok i _ (zA hi) e
   have:=v.hi
   have:=v.bsz
   lia
 exact⟨cs[q]'(by lia),bs[q]'(by lia),bs[q+1],zA (by lia),zA (by lia),zA hq,by lia,by lia,(sz q (by lia)).1,(sz q (by lia)).2,(sz (q+1) hq).1,(sz (q+1) hq).2⟩
theorem qaW {α:Type}{xs zs:List α}{p q:Nat} (h1:p<=xs.length) (h2:q<=xs.length):(xs.take p++zs++xs.drop q).length=p+zs.length+(xs.length - q):=by
 simp; lia
theorem qle (S:Short half w n cs bs (p+1)) (nb:Nb cs bs p c l s) (hl:half < l.cs.length) (hs:s.cs.length+1=half):T.V half w cs.length (n+2) (qfq cs bs p c l s)/\(qfq cs bs p c l s).cs.length=cs.length:=by
 have vl:=S.ok p l nb.hl (by lia)
 have vs:=S.at' s nb.hr
 have k1:=S.bl
 have k2:=S.hp
 have k3:=S.hh
 have k4:=vl.hi
 have k5:=S.cw
 have hd:(l.cs.drop (l.cs.length - 1)).length=1:=by rw [zQ]; lia
 have len:(cs.take p++l.cs.drop (l.cs.length - 1)++cs.drop (p+1)).length=cs.length:=by rw [qaW (by lia) (by lia),hd]; lia
 refine⟨?_,len⟩
 unfold qfq
 refine .mk (by lia) (by lia) (by lia) fun _=>⟨by rw [len,qaW (by lia) (by lia)]; simp; lia,?_⟩
 intro b hb
 rcases mem3 hb with⟨i,hi,e⟩ | hb | ⟨i,hi,e⟩
 ·exact S.ok i b e (by lia)
 ·simp only [zG,yD,or_false] at hb
  rcases hb with rfl | rfl
  ·refine .mk (by rw [y8]; lia) (by rw [y8]; lia) (fun z=>?_) fun z=>?_
   ·subst z; rw [vl.leaf]; rfl
   ·have g:=vl.kids z
    exact⟨by rw [y8,y8]; lia,fun b hb=>g.2 b (by rw [List.dropLast_eq_take] at hb; exact y7 hb)⟩
  ·refine .mk (by rw [zO]; lia) (by rw [zO]; lia) (fun z=>?_) fun z=>?_
   ·subst z; rw [vl.leaf,vs.leaf]; rfl
   ·have g:=vl.kids z
    have g':=vs.kids z
    refine⟨by rw [zJ,zQ,zO]; lia,fun b hb=>?_⟩
    rcases zP.mp hb with hb | hb
    ·exact g.2 b (yO hb)
    ·exact g'.2 b hb
 ·exact S.ok i b e (by lia)
theorem qld (S:Short half w n cs bs p) (nb:Nb cs bs p c s r) (hr:half < r.cs.length) (hs:s.cs.length+1=half):T.V half w cs.length (n+2) (qfp cs bs p c s r)/\(qfp cs bs p c s r).cs.length=cs.length:=by
 have vr:=S.ok (p+1) r nb.hr (by lia)
 have vs:=S.at' s nb.hl
 have k1:=S.bl
 have k2:p+1 < bs.length:=(zB.mp nb.hr).1
 have k3:=S.hh
 have k4:=vr.hi
 have k5:=S.cw
 have hd:(r.cs.take 1).length=1:=by rw [zM]; lia
 have len:(cs.take p++r.cs.take 1++cs.drop (p+1)).length=cs.length:=by rw [qaW (by lia) (by lia),hd]; lia
 refine⟨?_,len⟩
 unfold qfp
 refine .mk (by lia) (by lia) (by lia) fun _=>⟨by rw [len,qaW (by lia) (by lia)]; simp; lia,?_⟩
 intro b hb
 rcases mem3 hb with⟨i,hi,e⟩ | hb | ⟨i,hi,e⟩
 ·exact S.ok i b e (by lia)
 ·simp only [zG,yD,or_false] at hb
  rcases hb with rfl | rfl
  ·refine .mk (by rw [zJ,yV]; lia) (by rw [zJ,yV]; lia) (fun z=>?_) fun z=>?_
   ·subst z; rw [vr.leaf,vs.leaf]; rfl
   ·have g:=vr.kids z
    have g':=vs.kids z
    refine⟨by rw [zJ,zM,zJ,yV]; lia,fun b hb=>?_⟩
    rcases zP.mp hb with hb | hb
    ·exact g'.2 b hb
    ·exact g.2 b (y7 hb)
  ·refine .mk (by rw [zQ]; lia) (by rw [zQ]; lia) (fun z=>?_) fun z=>?_
   ·subst z; rw [vr.leaf]; rfl
   ·have g:=vr.kids z
    exact⟨by rw [zQ,zQ]; lia,fun b hb=>g.2 b (yO hb)⟩
 ·exact S.ok i b e (by lia)
theorem qiL {q:Nat} (S:Short half w n cs bs p) (nb:Nb cs bs q c l r) (hq:q=p\/q+1=p) (hn:l.cs.length+r.cs.length+1=half+half):T.V half w (cs.length - 1) (n+2) (qeh cs bs q c l r)/\(qeh cs bs q c l r).cs.length+1=cs.length:=by
 have k1:=S.bl
 have k2:q+1 < bs.length:=(zB.mp nb.hr).1
 have k3:=S.hh
 have k5:=S.cw
 have k6:=S.h0
 have vv:∀ i b,bs[i]?=some b->T.V half w (half - 1) (n+1) b:=fun i b e=>by
  by_cases h:i=p
  ·rw [h] at e; exact S.at' b e
  ·exact T.V_mono (by lia) (S.ok i b e h)
 have vl:=vv q l nb.hl
 have vr:=vv (q+1) r nb.hr
 have len:(cs.take q++[]++cs.drop (q+1)).length+1=cs.length:=by rw [qaW (by lia) (by lia)]; simp; lia
 refine⟨?_,len⟩
 unfold qeh
 refine .mk (by lia) (by lia) (by lia) fun _=>⟨by rw [qaW (by lia) (by lia)]; simp only [yV]; lia,?_⟩
 intro b hb
 rcases mem3 hb with⟨i,hi,e⟩ | hb | ⟨i,hi,e⟩
 ·exact S.ok i b e (by lia)
 ·simp only [zG,yD,or_false] at hb
  subst hb
  refine .mk (by simp only [zJ,yV]; lia) (by simp only [zJ,yV]; lia) (fun z=>?_) fun z=>?_
  ·subst z; rw [vr.leaf,vl.leaf]; rfl
  ·have g:=vr.kids z
   have g':=vl.kids z
   refine⟨by simp only [zJ,yV]; lia,fun b hb=>?_⟩
   rcases zP.mp hb with hb | hb
   ·exact g'.2 b hb
   ·exact g.2 b hb
 ·exact S.ok i b e (by lia)
theorem qhY (S:Short half w n cs bs p):∃ t',Mend half cs bs p t'/\t'.flat=(T.node cs bs).flat/\T.V half w (cs.length - 1) (n+2) t'/\t'.cs.length<=cs.length:=by
 have k1:=S.bl
 have k2:=S.hp
 have k3:=S.c0
 obtain⟨t,et⟩:∃ t,bs[p]?=some t:=⟨bs[p],zA k2⟩
 have vt:=S.at' t et
 have lt:=vt.lo
 have fl:∀ {i:Nat}{b:T},bs[i]?=some b->T.Fl (decide (n=0)) b:=fun {i b} e=>by
  by_cases h:i=p
  ·subst h; exact (S.at' b e).fl
  ·exact (S.ok i b e h).fl
 by_cases hs:t.cs.length+1=half
 ·
  by_cases hL:∃ q l,p=q+1/\bs[q]?=some l/\half < l.cs.length
  ·obtain⟨q,l,rfl,el,hl⟩:=hL
   obtain⟨c,l',s',nb⟩:=S.nb (q:=q) k2
   have:l'=l:=by have:=nb.hl; rw [el] at this; cases this; rfl
   subst this
   have:s'=t:=by have:=nb.hr; rw [et] at this; cases this; rfl
   subst this
   have g:=qle S nb hl hs
   exact⟨_,.left rfl nb hs hl,qja nb (fl el) (fl et) (by lia),T.V_mono (by lia) g.1,by lia⟩
  ·by_cases hR:∃ r,bs[p+1]?=some r/\half < r.cs.length
   ·obtain⟨r,er,hr⟩:=hR
    obtain⟨c,l',s',nb⟩:=S.nb (q:=p) (zB.mp er).1
    have:l'=t:=by have:=nb.hl; rw [et] at this; cases this; rfl
    subst this
    have:s'=r:=by have:=nb.hr; rw [er] at this; cases this; rfl
    subst this
    have g:=qld S nb hr hs
    exact⟨_,.right nb hs hr (fun l h0 e z=>hL ⟨p - 1,l,by lia,e,z⟩),qi9 nb (fl et) (fl er) (by lia),T.V_mono (by lia) g.1,by lia⟩
   ·by_cases hp:p=0
    ·obtain⟨c,l',s',nb⟩:=S.nb (q:=p) (by lia)
     have:l'=t:=by have:=nb.hl; rw [et] at this; cases this; rfl
     subst this
     have vs:=S.ok _ _ nb.hr (by lia)
     have hs':¬ half < s'.cs.length:=fun z=>hR ⟨s',nb.hr,z⟩
     have:=vs.lo
     have g:=qiL S nb (.inl rfl) (by lia)
     exact⟨_,.joinR hp nb hs hs',qhq nb (fl et) (fl nb.hr),g.1,by lia⟩
    ·obtain⟨q,rfl⟩:∃ q,p=q+1:=⟨p - 1,by lia⟩
     obtain⟨c,l',s',nb⟩:=S.nb (q:=q) (by lia)
     have:s'=t:=by have:=nb.hr; rw [et] at this; cases this; rfl
     subst this
     have vl:=S.ok _ _ nb.hl (by lia)
     have hl':¬ half < l'.cs.length:=fun z=>hL ⟨q,l',rfl,nb.hl,z⟩
     have:=vl.lo
     have g:=qiL S nb (.inr rfl) (by lia)
     exact⟨_,.joinL rfl nb hs hl' (fun r e z=>hR ⟨r,e,z⟩),qhq nb (fl nb.hl) (fl et),g.1,by lia⟩
 ·refine⟨_,.asis et hs,rfl,?_,zS _⟩
  refine .mk (by lia) S.cw (by lia) fun _=>⟨k1,fun b hb=>?_⟩
  obtain⟨i,hi,e⟩:=List.mem_iff_getElem.mp hb
  have e:bs[i]?=some b:=by rw [zA hi,e]
  by_cases h:i=p
  ·subst h
   rw [et] at e
   cases e
   cases t with
   | node c2 b2=>
    unfold T.V at vt |-
    exact⟨by have:c2.length+1≠half:=hs; have:=S.h0; lia,vt.2⟩
  ·exact S.ok i b e h
end
def qhI (ds:List D) (d:D):Prop:=∃ (w half:Nat) (cs:List Card) (bs:List T) (p:Nat) (u t:T),ds=[.int (w:Int),.tup (cs.map qah),.tup (bs.map T.d),.int (p:Int),u.d]/\d=t.d/\half=w / 2/\0 < half/\p < bs.length/\bs.length<=1000/\Mend half cs (bs.take p++[u]++bs.drop (p+1)) p t
theorem runs_wum:Runs (qae 6 (qbV (relF qaN) (relF qaX) (relF qes))) qhI:=by
 rintro ds d ⟨w,half,cs,bs,p,u,t,rfl,rfl,hh,h0,hp,hz,m⟩
 refine⟨T.hbd _,fun h=>⟨[],qaD ?_⟩⟩
 rw [zW]
 have e1:(p:Int)+1=((p+1:Nat):Int):=by lia
 have p1:relF qaN [.tup (bs.map T.d),.int (p:Int),.int ((p+1:Nat):Int),.tup [u.d]] h=_:=qdK bs [u] p (p+1) (by lia) (by simp) h
 have d1:=qbH cs (bs.take p++[u]++bs.drop (p+1)) (by simp; lia) h
 have m1:relF qes [.int (w:Int),(T.node cs (bs.take p++[u]++bs.drop (p+1))).d,.int (p:Int)] h=some (t.d,h):=qa9 qjf ⟨w,half,cs,_,p,t,rfl,rfl,hh,h0,by simp; lia,m⟩ h
 unfold qbV
 simp only [fSeq,fSet,fRet,fc,fAll,fTup,f1,f2,fSl,qar,qaJ,fV,fC,qaM,yE,yG,zO,xG,y9,xI,zU,zL,List.set_cons_zero,List.set_cons_succ,List.replicate,Nat.reduceAdd,Nat.reduceSub,qaI,Res.bind_ok,Res.out_ok,qaR,qbC,
  qct,e1,p1,d1,m1]
theorem qh4:Det qhI:=runs_wum.det
inductive LO (half:Nat):Nat->T->Card->T->Prop where
 | bot {n:Nat}{cs:List Card}{c:Card} (e:cs[cs.length - 1]?=some c):LO half (n+1) (.node cs []) c (.node cs.dropLast [])
 | up {n:Nat}{cs:List Card}{bs:List T}{b:T}{c:Card}{b' t':T} (hb:bs[bs.length - 1]?=some b) (z:bs.length<=1000) (r:LO half n b c b')
   (m:Mend half cs (bs.take (bs.length - 1)++[b']++bs.drop (bs.length - 1+1)) (bs.length - 1) t'):LO half (n+1) (.node cs bs) c t'
def qcr (n:Nat) (ds:List D) (d:D):Prop:=∃ (w half:Nat) (t:T) (c:Card) (t':T),ds=[.int (w:Int),t.d]/\d=.tup [qah c,t'.d]/\half=w / 2/\0 < half/\LO half n t c t'
theorem qnn (c:Card) (t:T):HB 0 (.tup [qah c,t.d]):=.tup fun x hx=>by
 simp only [zG,yD,or_false] at hx
 rcases hx with rfl | rfl
 ·exact qh0 c
 ·exact t.hbd
theorem qeM {n:Nat} (dt:Det (qcr n)):Runs (qae 6 (qdJ (relF qaX) (relF (qcr n)) (relF qhI))) (qcr (n+1)):=by
 rintro ds d ⟨w,half,t,c,t',rfl,rfl,hh,h0,r⟩
 refine⟨qnn _ _,fun h=>⟨[],qaD ?_⟩⟩
 rw [zW]
 unfold qdJ
 cases r with
 | @bot _ cs _ e=>
  have i1:=qeR (.node cs []) h
  have i2:=qdU (.node cs []) h
  have d1:relF qaX [.tup (cs.dropLast.map qah),.tup []] h=_:=qbH cs.dropLast [] (by simp) h
  have ix:oIx (.tup (cs.map qah)) (.int (-1)) h=some (qah c,h):=by
   rw [qcQ,qgR,zC,zE,e]; rfl
  rw [qag (e1:=[some (.int (w:Int)),some (T.node cs []).d,some (.tup (cs.map qah)),none,none,none]) (h1:=h) (qaq (by rw [qap (x:=(T.node cs []).d) (h1:=h) rfl rfl,i1]; rfl))]
  rw [qag (e1:=[some (.int (w:Int)),some (T.node cs []).d,some (.tup (cs.map qah)),some (.tup []),none,none]) (h1:=h) (qaq (by rw [qap (x:=(T.node cs []).d) (h1:=h) rfl rfl,i2]; rfl))]
  refine qba ?_
  rw [qbb (h1:=h) rfl]
  simp only [fRet,fc,fAll,fTup,f1,f2,fSl,qar,qaJ,fV,fC,zU,zL,qaI,Res.bind_ok,Res.out_ok,qaR,qbC,qe0,ix,qdZ,qhz,d1]
 | @up _ cs bs b _ b' _ hb z r m=>
  have hl:0 < bs.length:=by
   have:=(zB.mp hb).1
   lia
  have i1:=qeR (.node cs bs) h
  have i2:=qdU (.node cs bs) h
  have e1:(bs.length:Int) - 1=((bs.length - 1:Nat):Int):=by lia
  have ib:=qcK hb h
  have g1:relF (qcr n) [.int (w:Int),b.d] h=some (.tup [qah c,b'.d],h):=qa9 dt ⟨w,half,b,c,b',rfl,rfl,hh,h0,r⟩ h
  have g2:relF qhI [.int (w:Int),.tup (cs.map qah),.tup (bs.map T.d),.int ((bs.length - 1:Nat):Int),b'.d] h=some (t'.d,h):=qa9 qh4 ⟨w,half,cs,bs,bs.length - 1,b',t',rfl,rfl,hh,h0,by lia,z,m⟩ h
  rw [qag (e1:=[some (.int (w:Int)),some (T.node cs bs).d,some (.tup (cs.map qah)),none,none,none]) (h1:=h) (qaq (by rw [qap (x:=(T.node cs bs).d) (h1:=h) rfl rfl,i1]; rfl))]
  rw [qag (e1:=[some (.int (w:Int)),some (T.node cs bs).d,some (.tup (cs.map qah)),some (.tup (bs.map T.d)),none,none]) (h1:=h) (qaq (by rw [qap (x:=(T.node cs bs).d) (h1:=h) rfl rfl,i2]; rfl))]
  have len:fc oLen (fAll [fV 3]) [some (.int (w:Int)),some (T.node cs bs).d,some (.tup (cs.map qah)),some (.tup (bs.map T.d)),none,none] h=.ok (.int bs.length) h:=by
   rw [qaK (qaz (d:=.tup (bs.map T.d)) (h1:=h) rfl rfl),qcJ,zC]; rfl
  rw [qag (e1:=[some (.int (w:Int)),some (T.node cs bs).d,some (.tup (cs.map qah)),some (.tup (bs.map T.d)),none,none]) (h1:=h) (by
   rw [qaL (h1:=h)]
   ·rfl
   ·refine qa5 ?_
    rw [qap len rfl,qdx]
    have:((bs.length:Int)==0)=false:=beq_eq_false_iff_ne.mpr (by lia)
    rw [this]; rfl)]
  rw [qag (e1:=[some (.int (w:Int)),some (T.node cs bs).d,some (.tup (cs.map qah)),some (.tup (bs.map T.d)),some (.int ((bs.length - 1:Nat):Int)),none]) (h1:=h) (qaq (by
   rw [qap len rfl,qeY,e1]; rfl))]
  have a0:oIx (.tup [qah c,b'.d]) (.int 0) h=some (qah c,h):=rfl
  have a1:oIx (.tup [qah c,b'.d]) (.int 1) h=some (b'.d,h):=rfl
  simp only [fSeq,fSet,fRet,fc,fAll,fTup,f1,f2,fSl,qar,qaJ,fV,fC,zU,zL,List.set_cons_zero,List.set_cons_succ,qaI,Res.bind_ok,Res.out_ok,qaR,ib,g1,a0,a1,g2]
theorem qgI:∀ n,Det (qcr n)
 | 0=>by
  rintro ds d d' ⟨w,half,t,c,t',_,_,_,_,r⟩
  cases r
 | n+1=>(qeM (qgI n)).det
theorem qdv (n:Nat):Runs (qae 6 (qdJ (relF qaX) (relF (qcr n)) (relF qhI))) (qcr (n+1)):=qeM (qgI n)
theorem relF0 {R:List D->D->Prop} (h:∀ ds d,¬ R ds d) (ds:List D) (hh:Hh):relF R ds hh=none:=by
 unfold relF qiY
 cases e:ofR R ds with
 | none=>rfl
 | some d=>exact absurd (qgo e) (h ds d)
theorem qgQ {P:Program}{w:World}{K:PySem.W.Frag}{mg:Str->Option Value}{base:Heap}{x qual:Str}{st:Stmt}{f:Addr}{fd:FuncData}{ps:List Str}{k:Nat}{R:List D->D->Prop} (F:Fun K x qual st f fd) (hm:mg x=some (.ref f)) (b:Binds K fd ps []) (h:∀ ds d,¬ R ds d):
  Cal P w K mg base k x ps (relF R):=by
 refine⟨f,fd,⟨fun vs H Q E q=>q.1,?_⟩,hm,F.kp,b⟩
 rintro A outer s H args us vs Q E hr he hb hv ⟨_,as,ds,h1,_,_,p⟩
 rw [relF0 h] at p
 exact p.elim
theorem qnL (ds:List D) (d:D):¬ qcr 0 ds d:=by
 rintro⟨w,half,t,c,t',_,_,_,_,r⟩
 cases r
theorem qks {half w:Nat} (hh:half=w / 2) (h0:0 < half) (hw:w<=500):∀ (n own:Nat) (t:T),T.V half w own (n+1) t->0 < t.cs.length->
  ∃ c t',LO half (n+1) t c t'/\t.flat=t'.flat++[c]/\T.V half w (t.cs.length - 1) (n+1) t'/\t'.cs.length<=t.cs.length
 | 0,own,.node cs bs,v,hc=>by
  have hb:bs=[]:=v.leaf
  subst hb
  have hc:0 < cs.length:=hc
  have e:cs[cs.length - 1]?=some (cs[cs.length - 1]'(by lia)):=zA (by lia)
  have hw:=v.hi
  refine⟨_,_,.bot e,?_,.mk ?_ ?_ (fun _=>rfl) (by lia),?_⟩
  ·rw [T.flat_node,T.flat_node,yG,qbp,qbp]
   have:=(xQ (l:=cs) (by intro z; rw [z] at hc; simp at hc)).symm
   rw [List.getLast_eq_getElem] at this
   exact this
  ·rw [y8]; exact zS _
  ·rw [y8]; simp at hw; lia
  ·simp
 | n+1,own,.node cs bs,v,hc=>by
  have hc:0 < cs.length:=hc
  have kd:=v.kids (by lia)
  simp only [T.cs_node,T.bs_node] at kd
  have hi:=v.hi
  simp only [T.cs_node] at hi
  obtain⟨b,eb⟩:∃ b,bs[bs.length - 1]?=some b:=⟨_,zA (by lia)⟩
  have vb:=kd.2 b (zD eb)
  have lb:=vb.lo
  obtain⟨c,b',r,fe,vb',lb'⟩:=qks hh h0 hw n half b vb (by lia)
  have dr:bs.drop (bs.length - 1+1)=[]:=List.drop_of_length_le (by lia)
  have eL:bs.take (bs.length - 1)++[b']++bs.drop (bs.length - 1+1)=bs.take (bs.length - 1)++[b']:=by rw [dr,zW]
  have ln:(bs.take (bs.length - 1)).length=cs.length:=by rw [zM]; lia
  have S:Short half w n cs (bs.take (bs.length - 1)++[b']++bs.drop (bs.length - 1+1)) (bs.length - 1):=by
   rw [eL]
   refine⟨by rw [zJ,ln,yV]; lia,hc,hi,by rw [zJ,ln,yV],hh,h0,hw,?_,?_⟩
   ·intro i x e ne
    have hlt:i < bs.length - 1:=by
     have:=(zB.mp e).1
     simp at this
     lia
    rw [zK (by lia),xF hlt] at e
    exact kd.2 x (zD e)
   ·intro x e
    rw [yI (by lia),show bs.length - 1 - (bs.take (bs.length - 1)).length=0 by lia] at e
    cases e
    exact T.V_mono (by lia) vb'
  obtain⟨t',m,fl,vt,lt⟩:=qhY S
  refine⟨c,t',.up eb (by lia) r m,?_,vt,lt⟩
  rw [fl,eL,T.flat_node,T.flat_node]
  have e2:bs=bs.take (bs.length - 1)++[b]:=by
   have h1:bs.length - 1 < bs.length:=by lia
   rw [zA h1] at eb
   cases eb
   have:=yU (bs.length - 1) bs
   rw [yQ h1,dr] at this
   exact this.symm
  have e3:(bs.map T.flat)=(bs.take (bs.length - 1)).map T.flat++[b.flat]:=by
   have:=congrArg (List.map T.flat) e2
   rw [yC] at this
   exact this
  have q1:=qbA (F1:=(bs.take (bs.length - 1)).map T.flat) (C1:=cs) [b.flat] [] (by rw [zC]; exact ln)
  have q2:=qbA (F1:=(bs.take (bs.length - 1)).map T.flat) (C1:=cs) [b'.flat] [] (by rw [zC]; exact ln)
  rw [zW,qej] at q1 q2
  rw [e3,q1,yC,yE,yG,q2,fe]
  simp
def Grow (h h':Hh):Prop:=∃ j,h'=h++j
theorem Grow.refl (h:Hh):Grow h h:=⟨[],by simp⟩
theorem Grow.app (h j:Hh):Grow h (h++j):=⟨j,rfl⟩
theorem Grow.trans {a b c:Hh} (h1:Grow a b) (h2:Grow b c):Grow a c:=by
 obtain⟨j,rfl⟩:=h1
 obtain⟨k,rfl⟩:=h2
 exact⟨j++k,by simp⟩
theorem Grow.set {a b:Hh} (h1:Grow a b) {n:Nat} (hn:a.length<=n) (o:O):Grow a (b.set n o):=by
 obtain⟨j,rfl⟩:=h1
 exact⟨j.set (n - a.length) o,by rw [List.set_append_right _ _ hn]⟩
theorem Grow.len {a b:Hh} (h1:Grow a b):a.length<=b.length:=by
 obtain⟨j,rfl⟩:=h1
 simp
theorem Grow.at' {a b:Hh} (h1:Grow a b) {n:Nat}{o:O} (e:a[n]?=some o):b[n]?=some o:=by
 obtain⟨j,rfl⟩:=h1
 rw [zK (zB.mp e).1]
 exact e
theorem qbu (h:Hh) (o:O):(h++[o])[h.length]?=some o:=by simp
theorem qce {h:Hh}{n:Nat}{o o':O} (e:h[n]?=some o'):(h.set n o)[n]?=some o:=zI (zB.mp e).1
theorem qal {h:Hh}{n m:Nat}{o o':O} (e:h[m]?=some o') (hn:n≠m):(h.set n o)[m]?=some o':=by rw [zF hn]; exact e
theorem Grow.app1 {a b:Hh} (h1:Grow a b) (o:O):Grow a (b++[o]):=h1.trans (.app _ _)
theorem qmD {i j:Int} (h1:-1000000<=i) (h2:i<=1000000):cMul i j=true:=by
 unfold cMul
 rw [Bool.or_eq_true,Bool.or_eq_true]
 exact .inl (.inl (decide_eq_true ⟨by lia,by lia⟩))
noncomputable def far (x step:Int):Int:=if 6 < x then x+step else if x < -6 then x - step else x
theorem qmT (x step:Int) (h:Hh):qae 2 qbl [.int x,.int step] h=some (.int (far x step),h):=by
 refine qaD ?_
 unfold qbl far
 by_cases c:6 < x
 ·refine qba ?_
  simp [fIfS,fB,f2,fV,fC,qaM,c,fRet]
 ·rw [qag (e1:=[some (.int x),some (.int step)]) (h1:=h) (by simp [fIfS,fB,f2,fV,fC,qaM,c,qaC])]
  by_cases c2:x < -6
  ·refine qba ?_
   simp [fIfS,fB,f2,f1,fV,fC,c,c2,fRet]
  ·rw [qag (e1:=[some (.int x),some (.int step)]) (h1:=h) (by simp [fIfS,fB,f2,f1,fV,fC,c2,qaC])]
   simp [fRet,fV,c,c2]
theorem qjJ {h:Hh}{n:Nat}{ns:List Int} (e:h[n]?=some (.lst (ns.map D.int))):∃ v o,0<=v/\qae 2 (qaT (qae 2 qaw)) [.lst n] h=some (.int v,h++[o]):=by
 have m1:cMul (10 ^ 48) (10 ^ 48)=true:=by decide +kernel
 have hM:(0:Int) < 10 ^ 48*10 ^ 48:=by decide +kernel
 have h0:=xL (ns.getD 2 0) (Int.ne_of_gt hM)
 have p48:oPow (.int 10) (.int 48) h=some (.int (10 ^ 48),h):=by
  rw [qip h (by decide)]; rfl
 have p30:oPow (.int 10) (.int 30) h=some (.int (10 ^ 30),h):=by
  rw [qip h (by decide)]; rfl
 generalize hs:ns.getD 2 0 % (10 ^ 48*10 ^ 48)=some_ at h0
 have hi0:=xL (ns.getD 1 0 / 18) (show (5:Int)≠0 by decide)
 have hi5:=xJ (ns.getD 1 0 / 18) (show (0:Int) < 5 by decide)
 generalize hi:ns.getD 1 0 / 18 % 5=ix at hi0 hi5
 have hat:∃ v,0<=v/\atI [D.int (10 ^ 30),.int 0,.int 90,.int 1,.int some_] ix=some (.int v):=by
  have:ix=0\/ix=1\/ix=2\/ix=3\/ix=4:=by lia
  rcases this with rfl | rfl | rfl | rfl | rfl
  ·exact⟨10 ^ 30,by decide,rfl⟩
  ·exact⟨0,by decide,rfl⟩
  ·exact⟨90,by decide,rfl⟩
  ·exact⟨1,by decide,rfl⟩
  ·exact⟨some_,h0,rfl⟩
 obtain⟨v,hv,hat⟩:=hat
 refine⟨v,.lst [D.int (10 ^ 30),.int 0,.int 90,.int 1,.int some_],hv,qaD ?_⟩
 unfold qaT
 have a2:=qjO (k:=2) e (by decide)
 have e':(h++[O.lst [D.int (10 ^ 30),.int 0,.int 90,.int 1,.int some_]])[n]?=some (.lst (ns.map D.int)):=by
  rw [zK (zB.mp e).1]; exact e
 have a1:=qjO (k:=1) e' (by decide)
 rw [qag (e1:=[some (.lst n),some (.int some_)]) (h1:=h)]
 ·refine qaO ?_
  rw [qap (x:=.lst h.length) (h1:=h++[O.lst [D.int (10 ^ 30),.int 0,.int 90,.int 1,.int some_]]) (y:=.int ix) (h2:=h++[O.lst [D.int (10 ^ 30),.int 0,.int 90,.int 1,.int some_]])]
  ·rw [qaB (ds:=[D.int (10 ^ 30),.int 0,.int 90,.int 1,.int some_]) (by simp),hat]
   rfl
  ·simp [fLst,fAll,f2,fC,fV,p30]
  ·rw [qap (x:=.int (ns.getD 1 0 / 18)) (h1:=_) (y:=.int 5) (h2:=h++[O.lst [D.int (10 ^ 30),.int 0,.int 90,.int 1,.int some_]]) ?_ rfl]
   ·rw [qgp _ (by decide),hi]
    rfl
   ·rw [qap (x:=.int (ns.getD 1 0)) (h1:=_) (y:=.int 18) (h2:=h++[O.lst [D.int (10 ^ 30),.int 0,.int 90,.int 1,.int some_]]) ?_ rfl]
    ·rw [qgr _ (by decide)]
     rfl
    ·rw [qaK (ds:=[.lst n,.int 1]) (h1:=_) rfl,a1]
     rfl
 ·refine qaq ?_
  rw [qap (x:=.int (ns.getD 2 0)) (h1:=h) (y:=.int (10 ^ 48*10 ^ 48)) (h2:=h)]
  ·rw [qgp _ hM,hs]
   rfl
  ·rw [qaK (ds:=[.lst n,.int 2]) (h1:=h) rfl,a2]
   rfl
  ·rw [qap (x:=.int (10 ^ 48)) (h1:=h) (y:=.int (10 ^ 48)) (h2:=h)]
   ·rw [qee _ m1]
    rfl
   ·simp [f2,fC,p48]
   ·simp [f2,fC,p48]
theorem qfY (b:Nat):∀ (f n:Nat) (acc:List Char),(Nat.toDigitsCore b f n acc).length<=f+acc.length
 | 0,n,acc=>by simp [Nat.toDigitsCore]
 | f+1,n,acc=>by
  unfold Nat.toDigitsCore
  dsimp only
  split
  ·simp; lia
  ·have:=qfY b f (n / b) (Nat.digitChar (n % b)::acc)
   simp only [zO] at this
   lia
theorem qik (n:Nat):(Nat.repr n).length<=n+1:=by
 unfold Nat.repr
 rw [String.length_ofList]
 have:=qfY 10 (n+1) n []
 simpa [Nat.toDigits] using this
theorem qgW (x:Int):(toString x).length<=x.natAbs+2:=by
 cases x with
 | ofNat n=>
  show (Nat.repr n).length<=n+2
  have:=qik n
  lia
 | negSucc n=>
  show ("-"++Nat.repr (n+1)).length<=_
  rw [String.length_append]
  have:=qik (n+1)
  show 1+_<=n+1+2
  lia
theorem qjw {n:Nat} (h:n<=1000000):n<=sizeLine:=yX h (by decide)
theorem qhd (s:String):(Str.ofString s).length=s.length:=by
 rw [Str.ofString_eq_toList]
 show ((s.toList.map Char.toNat).toArray).size=_
 rw [zH,zC]
 first | rfl | exact String.length_toList | exact (String.length_toList ..) | exact String.toList_length _
theorem qmH (a b:Str):(a++b).length=a.length+b.length:=Array.size_append
theorem qd5 {f g:FE}{e:En}{h h2:Hh}{n:Nat}{o:List D}{xs:List D}{d:D} (q:f e h=.ok (.lst n) h) (q0:h[n]?=some (.lst o)) (q1:g e h=.ok d h2) (q2:h2[n]?=some (.lst xs)) (c:xs.length<=100000):qaU (fM qa0 f [g]) e h=.nx e (h2.set n (.lst (xs++[d]))):=by
 refine qbM (d:=.non) ?_
 unfold fM
 rw [q,Res.bind_ok,if_pos (show qhZ (.lst n) h=true from (show (qat h n).isSome=true by rw [qaH q0]; rfl)),qaz q1 rfl,Res.bind_ok,qfo d q2 (zY (show xs.length < 1000000 by lia) (by decide))]
 rfl
theorem qbg {f:FE}{e:En}{h h1:Hh}{d:D} (q:f e h=.ok d h1):fAll [f] e h=.ok [d] h1:=qaz q rfl
theorem qb3 {f g:FE}{e:En}{h h1 h2:Hh}{d d2:D} (q:f e h=.ok d h1) (q2:g e h1=.ok d2 h2):fAll [f,g] e h=.ok [d,d2] h2:=qaz q (qbg q2)
theorem qdR {f g:FE}{e:En}{h:Hh}{x y:Int} (q:f e h=.ok (.int x) h) (q2:g e h=.ok (.int y) h):f2 oAdd f g e h=.ok (.int (x+y)) h:=by
 rw [qap q q2]; rfl
theorem qfb {f g:FE}{e:En}{h:Hh}{x y:Int} (q:f e h=.ok (.int x) h) (q2:g e h=.ok (.int y) h):f2 oSub f g e h=.ok (.int (x - y)) h:=by
 rw [qap q q2]; rfl
theorem qcA {f g:FE}{e:En}{h:Hh}{x y:Int} (q:f e h=.ok (.int x) h) (q2:g e h=.ok (.int y) h) (c:0 < y):f2 oMod f g e h=.ok (.int (x % y)) h:=by
 rw [qap q q2,qgp _ c]; rfl
theorem qdD {f g:FE}{e:En}{h:Hh}{x y:Int} (q:f e h=.ok (.int x) h) (q2:g e h=.ok (.int y) h) (c:0 < y/\y < 1073741824):f2 oDiv f g e h=.ok (.int (x / y)) h:=by
 rw [qap q q2,qgr _ c]; rfl
structure Rows (h:Hh) (f:Nat) (hs:List Nat) (rows:List (List Nat)):Prop where
 out:h[f]?=some (.lst (hs.map D.lst))
 len:hs.length=rows.length
 row:∀ (i n:Nat) (r:List Nat),hs[i]?=some n->rows[i]?=some r->h[n]?=some (.lst (r.map fun (k:Nat)=>D.int k))
structure FR (w half L:Nat) (rows:List (List Nat)):Prop where
 len:rows.length=L
 lo:1<=L
 hi:L<=3
 hi5:5 < w->L<=2
 head:∃ x,rows[0]?=some [x]/\x<=w/\(1 < L->1<=x/\x<=5/\(5 < w->x<=3))
 next:∀ i r r',rows[i]?=some r->rows[i+1]?=some r'->r'.length=r.sum+r.length
 ent:∀ i r,0 < i->rows[i]?=some r->∀ x∈r,half<=x/\x<=w
theorem qnY {w:Nat}:∀ {r:List Nat},(∀ x∈r,x<=w)->r.sum<=r.length*w
 | [],_=>by simp
 | a::r,h=>by
  have:=qnY (r:=r) fun x hx=>h x (zR _ hx)
  have:=h a zV
  simp only [xX,zO,Nat.add_mul,Nat.one_mul]
  lia
theorem qlb {e:En}{h:Hh}{n:Nat}{ns:List Int}{g:FE}{k:Nat} (q0:e[0]?=some (some (.lst n))) (q:h[n]?=some (.lst (ns.map D.int))) (qg:g e h=.ok (.int k) h):fc (qae 2 qaw) (fAll [fV 0,g]) e h=.ok (.int (ns.getD k 0)) h:=by
 rw [qaK (qb3 (qbc q0 h) qg),qjO q (by lia),Int.toNat_natCast]
 rfl
section
variable {h:Hh}{n:Nat}{ns:List Int}{w L half f:Nat}
end
noncomputable def qlK:List T->List Card->List Card
 | t::ts,m::ms=>t.flat++m::qlK ts ms
 | _,_=>[]
structure Lv (half w n:Nat) (r:List Nat) (ts:List T) (ms:List Card):Prop where
 lt:ts.length=r.length
 lm:ms.length=r.length
 ok:∀ (i:Nat) (t:T) (x:Nat),ts[i]?=some t->r[i]?=some x->T.V half w x n t/\t.cs.length=x
section
variable {h:Hh}{f:Nat}{first step:Int}{half w:Nat}{r:List Nat}{dh mh:Nat}
end
theorem qkE (t:T) (h:Hh):oIx t.d (.int 2) h=some (.int (qa1 t.d),h):=by
 cases t; rw [T.d_node]; rfl
section
variable {h:Hh}{f:Nat}{first step:Int}{half w n:Nat}{r r0:List Nat}{dh mh kh lh:Nat}{ts:List T}{ms:List Card}{z3 z7 z8:Option D}
end
section
variable {h:Hh}{f:Nat}{hs:List Nat}{rows:List (List Nat)}{first step:Int}{half w L N:Nat}
end
theorem qkQ {f g:FE}{e:En}{h h2:Hh}{n m:Nat}{o xs ys:List D} (q:f e h=.ok (.lst n) h) (q0:h[n]?=some (.lst o)) (q1:g e h=.ok (.lst m) h2) (q2:h2[n]?=some (.lst xs)) (q3:h2[m]?=some (.lst ys)) (c:xs.length+ys.length<=100000):qaU (fM qc8 f [g]) e h=.nx e (h2.set n (.lst (xs++ys))):=by
 refine qbM (d:=.non) ?_
 unfold fM
 rw [q,Res.bind_ok,if_pos (show qhZ (.lst n) h=true from (show (qat h n).isSome=true by rw [qaH q0]; rfl)),qbg q1,Res.bind_ok,qhV q2 q3 (qeK c)]
 rfl
noncomputable def lay:List T->List Card->List Card
 | [],_=>[]
 | t::r,[]=>t.cs++lay r []
 | t::r,m::ms=>t.cs++m::lay r ms
theorem qfr (t:T) (h:Hh):qae 2 (qaA (qae 1 qax)) [t.d] h=some (.bl true,h):=by
 cases t with
 | node cs bs=>
  rw [T.d_node]
  exact qgf ⟨_,rfl⟩ (fun c hc=>by obtain⟨p,_,rfl⟩:=yW.mp hc; exact⟨p,rfl⟩) h
section
variable {h:Hh}{dh mh u c least w half n:Nat}{ts:List T}{ms:List Card}
theorem qnT {t:T}{h:Hh}{f:FE}{e:En}{h0:Hh} (q:f e h0=.ok t.d h):fc oLen (fAll [f2 oIx f (fC (.int 1))]) e h0=.ok (.int t.bs.length) h:=by
 rw [qaK (qbg (d:=.tup (t.bs.map T.d)) (h1:=h) (by rw [qap q rfl,qdU]; rfl)),qcJ,zC]
 rfl
end
section
variable {h:Hh}{dh mh least w half n:Nat}{ts:List T}{ms:List Card}
end
theorem qiv {least w n:Nat}:∀ {bs:List T},(∀ b∈bs,qa1 b.d=b.flat.length)->(bs.map fun b=>qa1 b.d).sum=((bs.map fun b=>b.flat.length).sum:Nat)
 | [],_=>rfl
 | b::r,h=>by
  have:=qiv (least:=least) (w:=w) (n:=n) (bs:=r) fun x hx=>h x (zR _ hx)
  simp only [yE,xX,this,h b zV]
  lia
theorem qb0:∀ (fs:List (List Card)) (cs:List Card),(T.inter fs cs).length=(fs.map List.length).sum+cs.length
 | [],cs=>by rw [qbp]; simp
 | f::r,[]=>by
  have:=qb0 r []
  simp only [T.inter,zJ,this,yE,xX,xG]
  lia
 | f::r,c::cs=>by
  have:=qb0 r cs
  simp only [T.inter,zJ,zO,this,yE,xX]
  lia
theorem T.V.held {least w:Nat}:∀ {n own:Nat}{t:T},T.V least w own n t->qa1 t.d=t.flat.length
 | 0,_,_,v=>v.elim
 | n+1,own,.node cs bs,v=>by
  have ih:∀ b∈bs,qa1 b.d=b.flat.length:=fun b hb=>by
   cases n with
   | zero=>rw [show bs=[] from v.leaf] at hb; exact nomatch hb
   | succ n=>exact T.V.held ((v.kids (by lia)).2 b hb)
  rw [T.flat_node,qb0,T.d_node]
  have:=qiv (least:=least) (w:=w) (n:=n) ih
  show ((cs.map qah).length:Int)+((bs.map T.d).map qa1).sum=_
  simp only [xT,Function.comp_def,zC] at this |-
  rw [this]
  lia
theorem qke {h:Hh}{a b:Nat}{cs:List Card} (ea:h[a]?=some (.lst (cs.map qah))) (eb:h[b]?=some (.lst (cs.map qah))):oEq (.lst a) (.lst b) h=some (.bl true,h):=by
 unfold oEq
 have:eqD 24 h (.lst a) (.lst b)=some true:=by
  show (match qat h a,qat h b with | some xs,some ys=>eqL (eqD 23 h) xs ys | _,_=>none)=_
  rw [qaH ea,qaH eb]
  refine qgD fun x hx=>?_
  obtain⟨p,_,rfl⟩:=yW.mp hx
  exact qgE (qnw p 21)
 rw [this]
 rfl
noncomputable def qaf (cs:List Card) (x:Int):Nat:=(cs.takeWhile fun p=>decide (p.1 < x)).length
theorem qb4 (cs:List Card) (x:Int):qaf cs x<=cs.length:=by
 unfold qaf
 exact (List.takeWhile_sublist _).length_le
@[simp] theorem placeC_nil (x:Int):qaf [] x=0:=rfl
theorem qbd (c:Card) (cs:List Card) (x:Int):qaf (c::cs) x=if c.1 < x then qaf cs x+1 else 0:=by
 unfold qaf
 rw [List.takeWhile_cons]
 by_cases hc:c.1 < x<;>simp [hc]
theorem qg6 {cs:List Card}{x:Int}{k:Nat}{p:Card} (h:k < qaf cs x) (e:cs[k]?=some p):p.1 < x:=by
 induction cs generalizing k with
 | nil=>simp at e
 | cons c r ih=>
  rw [qbd] at h
  by_cases hc:c.1 < x
  ·rw [if_pos hc] at h
   cases k with
   | zero=>
    simp only [zU,Option.some.injEq] at e
    subst e
    exact hc
   | succ k=>
    simp only [zL] at e
    exact ih (by lia) e
  ·rw [if_neg hc] at h
   lia
theorem qg7 {cs:List Card}{x:Int}{p:Card} (e:cs[qaf cs x]?=some p):¬ p.1 < x:=by
 induction cs with
 | nil=>simp at e
 | cons c r ih=>
  rw [qbd] at e
  by_cases hc:c.1 < x
  ·rw [if_pos hc,zL] at e
   exact ih e
  ·rw [if_neg hc,zU,Option.some.injEq] at e
   subst e
   exact hc
def qcF (ds:List D) (d:D):Prop:=∃ (cs:List Card) (x:Int),ds=[.tup (cs.map qah),.int x]/\d=.int (qaf cs x)/\cs.length<=1000
theorem runs_place:Runs (qae 3 qet) qcF:=by
 rintro ds d ⟨cs,x,rfl,rfl,hl⟩
 refine⟨.int _,fun h=>⟨[],qaD ?_⟩⟩
 rw [zW]
 unfold qet
 rw [qag (qaq rfl)]
 have loop:=qhs (c:=fAnd (fB (f2 oLt (fV 2) (fc oLen (fAll [fV 0])))) (fB (f2 oLt (f2 oIx (f2 oIx (fV 0) (fV 2)) (fC (.int 0))) (fV 1)))) (t:=fSet 2 (f2 oAdd (fV 2) (fC (.int 1))))
  (P:=fun e h'=>h'=h/\∃ k:Nat,k<=qaf cs x/\e=[some (.tup (cs.map qah)),some (.int x),some (.int k)])
  (R:=fun e h'=>h'=h/\e=[some (.tup (cs.map qah)),some (.int x),some (.int (qaf cs x))])
  (μ:=fun e _=>match e with | [_,_,some (.int k)]=>cs.length - k.toNat | _=>0) ?_ 2000 ((qaM 3 [.tup (cs.map qah),.int x]).set 2 (some (.int 0))) h ⟨rfl,0,xV _,rfl⟩ ?_
 ·obtain⟨e',h',q,rfl,rfl⟩:=loop
  rw [qag q]
  exact qaO rfl
 ·rintro e h' ⟨rfl,k,hk,rfl⟩
  have hle:=qb4 cs x
  by_cases hlt:k < qaf cs x
  ·right
   have hk':k < cs.length:=by lia
   have e1:cs[k]?=some cs[k]:=zA hk'
   have e2:=qg6 hlt e1
   refine⟨h',[some (.tup (cs.map qah)),some (.int x),some (.int (k+1))],h',?_,?_,⟨rfl,k+1,by lia,by simp⟩,?_⟩
   ·simp [fAnd,fB,f2,fV,fc,fAll,fC,qah,e1,hk',e2,qcE]
   ·simp [fSet,f2,fV,fC]
   ·simp
    lia
  ·left
   have hk':k=qaf cs x:=by lia
   refine⟨h',?_,rfl,by rw [hk']⟩
   by_cases hk2:k < cs.length
   ·have e1:cs[k]?=some cs[k]:=zA hk2
    have e2:=qg7 (cs:=cs) (x:=x) (p:=cs[k]) (by rw [<-hk']; exact e1)
    simp [fAnd,fB,f2,fV,fc,fAll,fC,qah,e1,hk2,e2,qcE]
   ·simp [fAnd,fB,f2,fV,fc,fAll,fC,qah,hk2]
 ·show cs.length - (0:Int).toNat < 2000
  lia
theorem qfC:Det qcF:=runs_place.det
noncomputable def atC (cs:List Card) (p:Nat) (x:Int):Bool:=match cs[p]? with
 | some c=>decide (c.1=x)
 | none=>false
theorem qge (cs:List Card) (p:Nat) (x:Int) (h:Hh):qae 3 qcm [.tup (cs.map qah),.int p,.int x] h=some (.bl (atC cs p x),h):=by
 refine qaD ?_
 unfold qcm
 by_cases hk2:p < cs.length
 ·have e1:cs[p]?=some cs[p]:=zA hk2
  simp [fSeq,fSet,fRet,qaU,fIfS,fB,f1,f2,fc,fAll,fTup,fLst,fC,fV,fAnd,fOr,fNot,qb9,fOrV,fSl,qar,qaJ,qaC,qaM,qaI,qbT,qaR,Res.bind_ok,Res.out_ok,atC,qah,e1,hk2,qcE]
  rfl
 ·have e1:cs[p]?=none:=yM (by lia)
  simp [fSeq,fSet,fRet,qaU,fIfS,fB,f1,f2,fc,fAll,fTup,fLst,fC,fV,fAnd,fOr,fNot,qb9,fOrV,fSl,qar,qaJ,qaC,qaM,qaI,qbT,qaR,Res.bind_ok,Res.out_ok,atC,hk2,e1]
theorem qel {e:En}{h:Hh}{i:Nat}{ds:List D} (q:e[i]?=some (some (.tup ds))) (n:0 < ds.length):fB (f2 oEq (fc oLen (fAll [fV i])) (fC (.int 0))) e h=.ok false h:=by
 refine qa5 ?_
 rw [qap (x:=.int ds.length) (h1:=h) (by rw [qaK (qbg (qbc q h))]; rfl) (qaP _ _ _),qdx,show ((ds.length:Int)==0)=false by
  rw [beq_eq_false_iff_ne]
  lia]
 rfl
abbrev Srt (l:List Card):Prop:=l.Pairwise fun a b=>a.1 < b.1
theorem qd3 {α:Type}{p:α->Bool}{l:List α} (h:∀ x∈l,p x=false):l.filter p=[]:=by
 rw [List.filter_eq_nil_iff]
 intro x hx
 rw [h x hx]
 decide
theorem qcG {f:List Card}{c:Card}{r:List Card} (s:Srt (f++c::r)):(∀ x∈f,x.1 < c.1)/\(∀ x∈r,c.1 < x.1)/\Srt r:=by
 rw [Srt,List.pairwise_append] at s
 obtain⟨s1,s2,s3⟩:=s
 rw [xM] at s2
 exact⟨fun x hx=>s3 x hx c (by simp),s2.1,s2.2⟩
theorem qei:∀ (fs:List (List Card)) (cs:List Card) (f:List Card),f∈fs->f.Sublist (T.inter fs cs)
 | [],_,f,h=>nomatch h
 | f0::fs,[],f,h=>by
  rw [T.inter]
  rcases zG.mp h with rfl | h
  ·exact List.sublist_append_left _ _
  ·exact (qei fs [] f h).trans (List.sublist_append_right _ _)
 | f0::fs,c::cs,f,h=>by
  rw [T.inter]
  rcases zG.mp h with rfl | h
  ·exact List.sublist_append_left _ _
  ·exact ((qei fs cs f h).trans (List.sublist_cons_self _ _)).trans (List.sublist_append_right _ _)
theorem qdl {cs:List Card}{bs:List T} (s:Srt (T.node cs bs).flat) {b:T} (hb:b∈bs):Srt b.flat:=by
 rw [T.flat_node] at s
 exact s.sublist (qei _ _ _ (List.mem_map_of_mem hb))
noncomputable def qcl (l:List Card) (x:Int):Option Card:=l.find? fun c=>decide (c.1=x)
theorem qkM (a b:List Card) (x:Int):qcl (a++b) x=(qcl a x).or (qcl b x):=by unfold qcl; exact List.find?_append
theorem qcZ {l:List Card}{x:Int} (h:∀ c∈l,c.1≠x):qcl l x=none:=by
 unfold qcl
 rw [List.find?_eq_none]
 intro c hc
 simpa using h c hc
theorem qfW (c:Card) (l:List Card) (x:Int):qcl (c::l) x=if c.1=x then some c else qcl l x:=by
 unfold qcl
 rw [List.find?_cons]
 by_cases h:c.1=x<;>simp [h]
theorem qiK (c:Card) (cs:List Card) (p:Nat) (x:Int):atC (c::cs) (p+1) x=atC cs p x:=by simp [atC]
theorem qhf (x:Int):∀ (cs:List Card) (fs:List (List Card)),fs.length=cs.length+1->Srt (T.inter fs cs)->
  qcl (T.inter fs cs) x=if atC cs (qaf cs x) x=true then cs[qaf cs x]? else qcl (fs.getD (qaf cs x) []) x
 | [],fs,hl,_=>by
  match fs,hl with
  | [f],_=>simp [T.inter,atC]
 | c::cs,fs,hl,s=>by
  match fs,hl with
  | f::fs,hl=>
   have hl':fs.length=cs.length+1:=by simpa using hl
   rw [T.inter] at s |-
   obtain⟨h1,h2,h3⟩:=qcG s
   have ih:=qhf x cs fs hl' h3
   rw [qkM,qfW,qbd]
   by_cases c1:c.1 < x
   ·rw [if_pos c1,qiK,zL,List.getD_cons_succ,<-ih,if_neg (by lia),qcZ fun y hy=>by have:=h1 y hy; lia]
    rfl
   ·rw [if_neg c1]
    by_cases c2:c.1=x
    ·rw [if_pos c2,qcZ fun y hy=>by have:=h1 y hy; lia]
     simp [atC,c2]
    ·rw [if_neg c2,qcZ (l:=T.inter fs cs) fun y hy=>by have:=h2 y hy; lia]
     simp [atC,c2]
theorem qlS {cs:List Card}{x:Int} (s:Srt cs):qcl cs x=if atC cs (qaf cs x) x=true then cs[qaf cs x]? else none:=by
 induction cs with
 | nil=>simp [qcl,atC]
 | cons c cs ih=>
  rw [Srt,xM] at s
  rw [qfW,qbd]
  by_cases c1:c.1 < x
  ·rw [if_pos c1,qiK,zL,<-ih s.2,if_neg (by lia)]
  ·rw [if_neg c1]
   by_cases c2:c.1=x
   ·simp [atC,c2]
   ·rw [if_neg c2,qcZ fun y hy=>by have:=s.1 y hy; lia]
    simp [atC,c2]
noncomputable def ltC (l:List Card) (x:Int):Nat:=(l.filter fun c=>decide (c.1 < x)).length
theorem qlV (c:Card) (l:List Card) (x:Int):ltC (c::l) x=(if c.1 < x then 1 else 0)+ltC l x:=by
 unfold ltC
 rw [List.filter_cons]
 by_cases h:c.1 < x<;>simp [h]
 lia
theorem qoI {l:List Card}{x:Int} (h:∀ c∈l,¬ c.1 < x):ltC l x=0:=by
 unfold ltC
 rw [qd3 fun c hc=>by simpa using h c hc]
 rfl
theorem qlE {cs:List Card}{x:Int} (s:Srt cs):ltC cs x=qaf cs x:=by
 induction cs with
 | nil=>rfl
 | cons c cs ih=>
  rw [Srt,xM] at s
  rw [qlV,qbd]
  by_cases c1:c.1 < x
  ·rw [if_pos c1,if_pos c1,ih s.2]; lia
  ·rw [if_neg c1,if_neg c1,qoI fun y hy=>by have:=s.1 y hy; lia]
theorem qhP (cs:List Card) (x:Int) (hl:cs.length<=1000) (h:Hh):relF qcF [.tup (cs.map qah),.int x] h=some (.int (qaf cs x),h):=qa9 qfC ⟨cs,x,rfl,rfl,hl⟩ h
theorem qkG {bs:List T}{p:Nat}{b:T} (e:bs[p]?=some b):(bs.map T.flat).getD p []=b.flat:=by
 rw [yJ,zE,e]
 rfl
def Cab (n:Nat) (t:T):Prop:=∃ least w own j,j<=n/\T.V least w own j t/\Srt t.flat/\w<=900
theorem Cab.split {n:Nat}{cs:List Card}{bs:List T} (c:Cab (n+1) (.node cs bs)):cs.length<=900/\(bs=[]\/(bs.length=cs.length+1/\∀ b∈bs,Cab n b))/\(∀ b∈bs,qa1 b.d=b.flat.length)/\Srt (T.inter (bs.map T.flat) cs):=by
 obtain⟨least,w,own,j,hj,v,s,hw⟩:=c
 match j,v with
 | 0,v=>exact v.elim
 | j+1,v=>
  have s':=s
  rw [T.flat_node] at s'
  unfold T.V at v
  obtain⟨-,hc,hb0,hb1⟩:=v
  refine⟨by lia,?_,?_,s'⟩
  ·by_cases hn:j=0
   ·exact .inl (hb0 hn)
   ·obtain⟨bl,bv⟩:=hb1 (by lia)
    exact .inr ⟨bl,fun b hb=>⟨least,w,least,j,by lia,bv b hb,qdl s hb,hw⟩⟩
  ·intro b hb
   by_cases hn:j=0
   ·rw [hb0 hn] at hb; exact nomatch hb
   ·exact ((hb1 (by lia)).2 b hb).held
theorem Cab.zero {t:T} (c:Cab 0 t):False:=by
 obtain⟨least,w,own,j,hj,v,s,hw⟩:=c
 have:j=0:=by lia
 subst this
 exact v
noncomputable def qeV (o:Option Card):D:=match o with
 | some c=>.str c.2
 | none=>.non
def qcq (n:Nat) (ds:List D) (d:D):Prop:=∃ (t:T) (x:Int),ds=[t.d,.int x]/\d=qeV (qcl t.flat x)/\Cab n t
theorem qeL {n:Nat} (dt:Det (qcq n)):Runs (qae 5 (qd6 (relF qcF) (qae 3 qcm) (relF (qcq n)))) (qcq (n+1)):=by
 rintro ds d ⟨⟨cs,bs⟩,x,rfl,rfl,c⟩
 obtain⟨hc,hb,hh,s⟩:=c.split
 refine⟨by cases qcl _ x<;>first | exact .non | exact .str _,fun h=>⟨[],qaD ?_⟩⟩
 rw [zW]
 have i0:=qeR (.node cs bs) h
 have i1:=qdU (.node cs bs) h
 have pl:=qhP cs x (by lia) h
 have sp:=qhf x cs (bs.map T.flat)
 have sb:=qlS (cs:=cs) (x:=x)
 have ple:=qb4 cs x
 have ia:=qge cs (qaf cs x) x h
 rw [T.flat_node]
 generalize hp:qaf cs x=p at pl sp sb ple ia
 unfold qd6
 rw [qag (e1:=[some (T.node cs bs).d,some (.int x),some (.tup (cs.map qah)),none,none]) (h1:=h) (qaq (by rw [qap (x:=(T.node cs bs).d) (h1:=h) rfl rfl,i0]; rfl))]
 rw [qag (e1:=[some (T.node cs bs).d,some (.int x),some (.tup (cs.map qah)),some (.tup (bs.map T.d)),none]) (h1:=h) (qaq (by rw [qap (x:=(T.node cs bs).d) (h1:=h) rfl rfl,i1]; rfl))]
 rw [qag (e1:=[some (T.node cs bs).d,some (.int x),some (.tup (cs.map qah)),some (.tup (bs.map T.d)),some (.int p)]) (h1:=h) (qaq (by rw [qaK (ds:=[.tup (cs.map qah),.int x]) (h1:=h) rfl,pl]; rfl))]
 have tst:fB (fc (qae 3 qcm) (fAll [(fV 2),(fV 4),(fV 1)])) [some (T.node cs bs).d,some (.int x),some (.tup (cs.map qah)),some (.tup (bs.map T.d)),some (.int p)] h=.ok (atC cs p x) h:=by
  refine qa5 ?_
  rw [qaK (ds:=[.tup (cs.map qah),.int p,.int x]) (h1:=h) rfl,ia]
  rfl
 cases ha:atC cs p x with
 | true=>
  have hcp:∃ k,cs[p]?=some k:=by
   unfold atC at ha
   cases q:cs[p]? with
   | none=>rw [q] at ha; cases ha
   | some k=>exact⟨k,rfl⟩
  obtain⟨k,hk⟩:=hcp
  have fe:qcl (T.inter (bs.map T.flat) cs) x=some k:=by
   rcases hb with rfl | ⟨bl,_⟩
   ·have:=sb (by simpa [T.inter] using s)
    rw [ha,if_pos rfl,hk] at this
    simpa [T.inter] using this
   ·have:=sp (by rw [zC]; exact bl) s
    rw [ha,if_pos rfl,hk] at this
    exact this
  rw [fe]
  refine qba ?_
  rw [qbb (by rw [tst,ha])]
  refine qaO ?_
  rw [qap (x:=qah k) (h1:=h) (by rw [qap (x:=.tup (cs.map qah)) (h1:=h) (y:=.int p) (h2:=h) rfl rfl,qcQ,qaS,zE,hk]; rfl) rfl]
  rfl
 | false=>
  rw [qag (e1:=[some (T.node cs bs).d,some (.int x),some (.tup (cs.map qah)),some (.tup (bs.map T.d)),some (.int p)]) (h1:=h) (by rw [qaL (by rw [tst,ha])]; rfl)]
  rcases hb with rfl | ⟨bl,hk⟩
  ·have:=sb (by simpa [T.inter] using s)
   rw [ha,if_neg (by decide)] at this
   rw [show T.inter (([]:List T).map T.flat) cs=cs by simp [T.inter],this]
   refine qba ?_
   rw [qbb (h1:=h) (by simp [fSeq,fSet,fRet,qaU,fIfS,fB,f1,f2,fc,fAll,fTup,fLst,fC,fV,fAnd,fOr,fNot,qb9,fOrV,fSl,qar,qaJ,qaC,qaM,qaI,qbT,qaR,Res.bind_ok,Res.out_ok])]
   rfl
  ·have:=sp (by rw [zC]; exact bl) s
   rw [ha,if_neg (by decide)] at this
   have hbp:bs[p]?=some bs[p]:=zA (by lia)
   rw [qkG hbp] at this
   rw [this]
   rw [qag (e1:=[some (T.node cs bs).d,some (.int x),some (.tup (cs.map qah)),some (.tup (bs.map T.d)),some (.int p)]) (h1:=h) (by
    rw [qaL (h1:=h) (qel rfl (by rw [zC]; lia))]
    rfl)]
   refine qaO ?_
   rw [qaK (ds:=[(bs[p]).d,.int x]) (h1:=h) (qb3 (by rw [qap (x:=.tup (bs.map T.d)) (h1:=h) (y:=.int p) (h2:=h) rfl rfl,qcQ,qaS,zE,hbp]; rfl) rfl),qa9 dt ⟨_,x,rfl,rfl,hk _ (zD hbp)⟩ h]
   rfl
theorem qlh (ds:List D) (d:D):¬ qcq 0 ds d:=fun q9=>by obtain⟨t,x,_,_,c⟩:=q9; exact c.zero
theorem qgH:∀ n,Det (qcq n)
 | 0=>fun ds d d' h=>absurd h (qlh ds d)
 | n+1=>(qeL (qgH n)).det
theorem qdu (n:Nat):Runs (qae 5 (qd6 (relF qcF) (qae 3 qcm) (relF (qcq n)))) (qcq (n+1)):=qeL (qgH n)
theorem orT {s t:FT}{e:En}{h h1:Hh} (q:s e h=.ok true h1):fOr s t e h=.ok true h1:=by
 unfold fOr
 rw [q,Res.bind_ok,if_pos rfl]
theorem orF {s t:FT}{e:En}{h h1 h2:Hh}{b:Bool} (q:s e h=.ok false h1) (q2:t e h1=.ok b h2):fOr s t e h=.ok b h2:=by
 unfold fOr
 rw [q,Res.bind_ok,if_neg (by decide),q2]
theorem andF {s t:FT}{e:En}{h h1:Hh} (q:s e h=.ok false h1):fAnd s t e h=.ok false h1:=by
 unfold fAnd
 rw [q,Res.bind_ok,if_neg (by decide)]
theorem andT {s t:FT}{e:En}{h h1 h2:Hh}{b:Bool} (q:s e h=.ok true h1) (q2:t e h1=.ok b h2):fAnd s t e h=.ok b h2:=by
 unfold fAnd
 rw [q,Res.bind_ok,if_pos rfl,q2]
theorem notB {s:FT}{e:En}{h h1:Hh}{b:Bool} (q:s e h=.ok b h1):fNot s e h=.ok (!b) h1:=by
 unfold fNot
 rw [q,Res.bind_ok]
theorem andVT {s t:FE}{e:En}{h h1 h2:Hh}{d:D} (q:s e h=.ok (.bl true) h1) (q2:t e h1=.ok d h2):qb9 s t e h=.ok d h2:=by
 unfold qb9
 rw [q,Res.bind_ok,qbT,Res.bind_ok,if_pos rfl,q2]
theorem ix1 {e:En}{h:Hh}{t:T} (q:e[4]?=some (some t.d)):f2 oIx (fV 4) (fC (.int 1)) e h=.ok (.tup (t.bs.map T.d)) h:=by
 rw [qap (qbc q h) (qaP (.int 1) _ _),qdU]; rfl
def IsDeed (d:D):Prop:=∃ xs:List D,d=.tup xs/\∀ x∈xs,x=.non\/(∃ s,x=.str s)\/∃ i,x=.int i
theorem IsDeed.dp {d:D} (h:IsDeed d) (n:Nat):Dp (n+2) d:=by
 obtain⟨xs,rfl,hx⟩:=h
 refine .tup fun x m=>?_
 rcases hx x m with rfl | ⟨s,rfl⟩ | ⟨i,rfl⟩
 ·exact .non
 ·exact .str _
 ·exact .int _
noncomputable def qlx:FS:=(fIfS (fAnd (fB (f2 qkb (fV 3) (fC .non))) (fAnd (fNot (fB (f1 (oIsi "str") (fV 3)))) (fNot (fB (fc (qae 1 qax) (fAll [(fV 3)])))))) (fRet (fC (.bl false))) qaC)
noncomputable def qly:FS:=(fSeq (fIfS (fOr (fNot (fB (f1 (oIsi "tuple") (f2 oIx (fV 0) (fV 2))))) (fB (f2 oNe (fc oLen (fAll [(f2 oIx (fV 0) (fV 2))])) (fc oLen (fAll [(f2 oIx (fV 1) (fV 2))]))))) (fRet (fC (.bl false))) qaC)
  (fSeq (fFor 3 (qco (f2 oIx (fV 0) (fV 2))) qlx)
  (fIfS (fB (f2 oNe (f2 oIx (fV 0) (fV 2)) (f2 oIx (fV 1) (fV 2)))) (fRet (fC (.bl false))) qaC)))
theorem qmQ:qbv (qae 1 qax)=(fSeq (fIfS (fB (f2 oNe (fc oLen (fAll [(fV 0)])) (fc oLen (fAll [(fV 1)])))) (fRet (fC (.bl false))) qaC)
  (fSeq (fFor 2 (qcC rng1 [(fc oLen (fAll [(fV 1)]))]) qly)
  (fRet (fC (.bl true))))):=rfl
theorem qii {h:Hh}{a b:Nat}{ds:List D} (ea:h[a]?=some (.lst ds)) (eb:h[b]?=some (.lst ds)) (hd:∀ d∈ds,IsDeed d) (hl:ds.length<=100000):
  qae 4 (qbv (qae 1 qax)) [.lst a,.lst b] h=some (.bl true,h):=by
 refine qaD ?_
 rw [qmQ]
 show fSeq _ _ [some (.lst a),some (.lst b),none,none] h=_
 have la:∀ z2 z3,fc oLen (fAll [(fV 0)]) [some (.lst a),some (.lst b),z2,z3] h=.ok (.int (ds.length:Int)) h:=fun _ _=>by
  rw [qaK (qbg (d:=.lst a) (h1:=h) rfl),qbo ea]; rfl
 have lb:∀ z2 z3,fc oLen (fAll [(fV 1)]) [some (.lst a),some (.lst b),z2,z3] h=.ok (.int (ds.length:Int)) h:=fun _ _=>by
  rw [qaK (qbg (d:=.lst b) (h1:=h) rfl),qbo eb]; rfl
 rw [qag (e1:=[some (.lst a),some (.lst b),none,none]) (h1:=h) (by
  rw [qaL (h1:=h) (qa5 (by rw [qap (la _ _) (lb _ _),qeB,beq_self_eq_true]; rfl))]
  rfl)]
 obtain⟨e',h',q,z2,z3,he,hh⟩:=qcL (chk:=fun _=>True) (i:=2) (t:=qly)
  (P:=fun _ e h'=>∃ z2 z3,e=[some (.lst a),some (.lst b),z2,z3]/\h'=h)
  ((List.range ds.length).map fun (k:Nat)=>D.int k) [some (.lst a),some (.lst b),none,none] h ⟨none,none,rfl,rfl⟩ (fun _ _ _ _=>trivial)
  (fun k d e h' hk p=>by
   obtain⟨z2,z3,re,rh⟩:=p
   subst re
   subst rh
   obtain⟨hlt,rfl⟩:=qfl hk
   obtain⟨x,ex⟩:∃ x,ds[k]?=some x:=⟨_,zA hlt⟩
   have dx:=hd x (zD ex)
   have xa:∀ z,f2 oIx (fV 0) (fV 2) [some (.lst a),some (.lst b),some (.int (k:Int)),z] h'=.ok x h':=fun z=>by
    rw [qap (x:=.lst a) (h1:=h') rfl (y:=.int (k:Int)) (h2:=h') rfl,qaB ea,qaS,ex]; rfl
   have xb:∀ z,f2 oIx (fV 1) (fV 2) [some (.lst a),some (.lst b),some (.int (k:Int)),z] h'=.ok x h':=fun z=>by
    rw [qap (x:=.lst b) (h1:=h') rfl (y:=.int (k:Int)) (h2:=h') rfl,qaB eb,qaS,ex]; rfl
   show ∃ e' h'',qly [some (.lst a),some (.lst b),some (.int (k:Int)),z3] h'=.nx e' h''/\_
   obtain⟨xs,rfl,hx⟩:=id dx
   unfold qly
   rw [qag (e1:=[some (.lst a),some (.lst b),some (.int (k:Int)),z3]) (h1:=h') (by
    rw [qaL (h1:=h') (orF (h1:=h') (notB (b:=true) (qa5 (by unfold f1; rw [xa]; rfl))) (qa5 (b:=false) (by
     rw [qap (x:=.int (xs.length:Int)) (h1:=h') (by rw [qaK (qbg (xa _)),qcJ]; rfl) (y:=.int (xs.length:Int)) (h2:=h') (by rw [qaK (qbg (xb _)),qcJ]; rfl),qeB,beq_self_eq_true]
     rfl)))]
    rfl)]
   obtain⟨e2,h2,q2,z,he2,hh2⟩:=qcL (chk:=fun _=>True) (i:=3) (t:=qlx)
    (P:=fun _ e h''=>∃ z,e=[some (.lst a),some (.lst b),some (.int (k:Int)),z]/\h''=h')
    xs [some (.lst a),some (.lst b),some (.int (k:Int)),z3] h' ⟨z3,rfl,rfl⟩ (fun _ _ _ _=>trivial)
    (fun j y e h'' hj p=>by
     obtain⟨z,re,rh⟩:=p
     subst re
     subst rh
     refine⟨[some (.lst a),some (.lst b),some (.int (k:Int)),some y],h'',?_,_,rfl,rfl⟩
     rcases hx y (zD hj) with rfl | ⟨s,rfl⟩ | ⟨i,rfl⟩
     ·rfl
     ·rfl
     ·show qlx [some (.lst a),some (.lst b),some (.int (k:Int)),some (.int i)] h''=_
      unfold qlx
      rw [qaL (h1:=h'') (andT (h1:=h'') (b:=false) rfl (andT (h1:=h'') (b:=false) rfl (notB (b:=true) (qa5 (by rw [qaK (qbg (d:=.int i) (h1:=h'') rfl),qfi]; rfl)))))]
      rfl)
   have it:qco (f2 oIx (fV 0) (fV 2)) [some (.lst a),some (.lst b),some (.int (k:Int)),z3] h'=.ok ⟨xs,fun _=>True⟩ h':=by
    unfold qco
    rw [xa]
    rfl
   rw [qag ((qcR it).trans q2),he2,hh2]
   refine⟨[some (.lst a),some (.lst b),some (.int (k:Int)),z],h',?_,_,_,rfl,rfl⟩
   rw [qaL (h1:=h') (qa5 (b:=false) (by rw [qap (xa _) (xb _),qlP _ (dx.dp 22)]; rfl))]
   rfl)
 rw [qag ((qcR (qdz (n:=ds.length) (qbg (lb _ _)) (by lia))).trans q),he,hh]
 rfl
noncomputable abbrev P3:=Nat×Nat×Nat
noncomputable abbrev X2:=List D×List D
structure Dj (C R:Nat) (ps:List P3):Prop where
 cr:C≠R
 c1:∀ p∈ps,C≠p.1/\C≠p.2.1/\C≠p.2.2
 r1:∀ p∈ps,R≠p.1/\R≠p.2.1/\R≠p.2.2
 x1:∀ p∈ps,∀ q∈ps,p.1≠q.2.1/\p.1≠q.2.2/\p.2.1≠q.2.2
 aa:∀ (i j:Nat) (p q:P3),ps[i]?=some p->ps[j]?=some q->i≠j->p.2.1≠q.2.1/\p.2.2≠q.2.2/\p.1≠q.1
def At3 (h:Hh) (p:P3) (x:X2):Prop:=h[p.1]?=some (.lst [.lst p.2.1,.lst p.2.2])/\h[p.2.1]?=some (.lst x.1)/\h[p.2.2]?=some (.lst x.2)
structure Rw (h:Hh) (R:Nat) (ps:List P3) (xs:List X2):Prop where
 out:h[R]?=some (.lst (ps.map fun p=>.lst p.1))
 len:ps.length=xs.length
 at':∀ (i:Nat) (p:P3) (x:X2),ps[i]?=some p->xs[i]?=some x->At3 h p x
theorem Rw.grow {h h':Hh}{R:Nat}{ps:List P3}{xs:List X2} (r:Rw h R ps xs) (g:Grow h h'):Rw h' R ps xs:=
 ⟨g.at' r.out,r.len,fun i p x a b=>⟨g.at' (r.at' i p x a b).1,g.at' (r.at' i p x a b).2.1,g.at' (r.at' i p x a b).2.2⟩⟩
section
variable {h:Hh}{C R:Nat}{ps:List P3}{xs:List X2}{i:Nat}{p:P3}{x:X2}
theorem Rw.setA (r:Rw h R ps xs) (d:Dj C R ps) (hp:ps[i]?=some p) (hx:xs[i]?=some x) (y:List D):Rw (h.set p.2.1 (.lst y)) R ps (xs.set i (y,x.2)):=by
 have mp:=zD hp
 refine⟨qal r.out (d.r1 p mp).2.1.symm,by simp [r.len],?_⟩
 intro j q z hq hz
 have mq:=zD hq
 by_cases e:i=j
 ·subst e
  rw [hp] at hq
  cases hq
  rw [zI (zB.mp hx).1] at hz
  cases hz
  obtain⟨a,b,c⟩:=r.at' i p x hp hx
  exact⟨qal a (d.x1 p mp p mp).1.symm,qce b,qal c (d.x1 p mp p mp).2.2⟩
 ·rw [zF e] at hz
  obtain⟨a,b,c⟩:=r.at' j q z hq hz
  exact⟨qal a (d.x1 q mq p mp).1.symm,qal b (d.aa i j p q hp hq e).1,qal c (d.x1 p mp q mq).2.2⟩
theorem Rw.setB (r:Rw h R ps xs) (d:Dj C R ps) (hp:ps[i]?=some p) (hx:xs[i]?=some x) (y:List D):Rw (h.set p.2.2 (.lst y)) R ps (xs.set i (x.1,y)):=by
 have mp:=zD hp
 refine⟨qal r.out (d.r1 p mp).2.2.symm,by simp [r.len],?_⟩
 intro j q z hq hz
 have mq:=zD hq
 by_cases e:i=j
 ·subst e
  rw [hp] at hq
  cases hq
  rw [zI (zB.mp hx).1] at hz
  cases hz
  obtain⟨a,b,c⟩:=r.at' i p x hp hx
  exact⟨qal a (d.x1 p mp p mp).2.1.symm,qal b (d.x1 p mp p mp).2.2.symm,qce c⟩
 ·rw [zF e] at hz
  obtain⟨a,b,c⟩:=r.at' j q z hq hz
  exact⟨qal a (d.x1 q mq p mp).2.1.symm,qal b (d.x1 q mq p mp).2.2.symm,qal c (d.aa i j p q hp hq e).2.1⟩
theorem Rw.setC (r:Rw h R ps xs) (d:Dj C R ps) (o:O):Rw (h.set C o) R ps xs:=
 ⟨qal r.out d.cr,r.len,fun j q z hq hz=>by
  obtain⟨a,b,c⟩:=r.at' j q z hq hz
  have k:=d.c1 q (zD hq)
  exact⟨qal a k.1,qal b k.2.1,qal c k.2.2⟩⟩
theorem rowA {e:En}{f:FE} (r:Rw h R ps xs) (q:e[4]?=some (some (.lst R))) (qf:f e h=.ok (.int i) h) (hp:ps[i]?=some p) (hx:xs[i]?=some x):f2 oIx (f2 oIx (fV 4) f) (fC (.int 0)) e h=.ok (.lst p.2.1) h:=by
 rw [qap (x:=.lst p.1) (h1:=h) (by rw [qap (qbc q h) qf,qaB r.out,qaS,zE,hp]; rfl) rfl,qaB (r.at' i p x hp hx).1]
 rfl
theorem rowB {e:En}{f:FE} (r:Rw h R ps xs) (q:e[4]?=some (some (.lst R))) (qf:f e h=.ok (.int i) h) (hp:ps[i]?=some p) (hx:xs[i]?=some x):f2 oIx (f2 oIx (fV 4) f) (fC (.int 1)) e h=.ok (.lst p.2.2) h:=by
 rw [qap (x:=.lst p.1) (h1:=h) (by rw [qap (qbc q h) qf,qaB r.out,qaS,zE,hp]; rfl) rfl,qaB (r.at' i p x hp hx).1]
 rfl
theorem lenA {e:En}{f:FE} (r:Rw h R ps xs) (q:e[4]?=some (some (.lst R))) (qf:f e h=.ok (.int i) h) (hp:ps[i]?=some p) (hx:xs[i]?=some x):fc oLen (fAll [f2 oIx (f2 oIx (fV 4) f) (fC (.int 0))]) e h=.ok (.int x.1.length) h:=by
 rw [qaK (qbg (rowA r q qf hp hx)),qbo (r.at' i p x hp hx).2.1]
 rfl
end
theorem qdA {r:OM}{f:FE}{fs:List FE}{e:En}{h h2 h3:Hh}{n:Nat}{o:List D}{ds:List D}{d:D} (q:f e h=.ok (.lst n) h) (q0:h[n]?=some (.lst o)) (q1:fAll fs e h=.ok ds h2) (q2:r (.lst n) ds h2=some (d,h3)):fM r f fs e h=.ok d h3:=by
 unfold fM
 rw [q,Res.bind_ok,if_pos (show qhZ (.lst n) h=true from (show (qat h n).isSome=true by rw [qaH q0]; rfl)),q1,Res.bind_ok,q2]
 rfl
theorem qoT {α:Type} (xs:List D) (d:D):insV xs 0 d=d::xs:=by
 simp [insV]
theorem qeb {h:Hh}{n k:Nat}{xs:List D}{d:D} (e:h[n]?=some (.lst xs)) (e3:xs[k]?=some d) (hk:k<=100000):qbP (.lst n) [.int k] h=some (d,h.set n (.lst (xs.eraseIdx k))):=by
 have hlt:=(zB.mp e3).1
 exact qi3 e ⟨by lia,by lia⟩ (by
  unfold seqIndex?
  simp
  lia) e3
theorem qky {h:Hh}{n:Nat}{xs:List D}{d:D} (e:h[n]?=some (.lst xs)) (c:xs.length<=100000):qbr (.lst n) [.int 0,d] h=some (.non,h.set n (.lst (d::xs))):=by
 rw [qc7 d e ⟨⟨by decide,by decide⟩,zY (show xs.length < 1000000 by lia) (by decide)⟩,qoT (α:=Nat)]
theorem qlc {h:Hh}{n:Nat}{xs:List D}{d:D} (e:h[n]?=some (.lst xs)) (c:xs.length<=100000):qa0 (.lst n) [d] h=some (.non,h.set n (.lst (xs++[d]))):=
 qfo d e (zY (show xs.length < 1000000 by lia) (by decide))
theorem qfU {h:Hh}{n m:Nat}{xs:List D} (e:h[n]?=some (.lst xs)) (e2:h[m]?=some (.lst [])):oNe (.lst n) (.lst m) h=some (.bl (!xs.isEmpty),h):=by
 unfold oNe
 have:eqD 24 h (.lst n) (.lst m)=some xs.isEmpty:=by
  show (match qat h n,qat h m with | some xs,some ys=>eqL (eqD 23 h) xs ys | _,_=>none)=_
  rw [qaH e,qaH e2]
  cases xs<;>rfl
 rw [this]
 rfl
noncomputable def insC (l:List Card) (x:Int) (s:Str):List Card:=(l.filter fun c=>decide (c.1 < x))++(x,s)::l.filter fun c=>decide (x < c.1)
theorem qfX {α:Type}{p:α->Bool}{l:List α} (h:∀ x∈l,p x=true):l.filter p=l:=List.filter_eq_self.mpr h
theorem qfw {f:List Card}{x:Int} (r:List Card) (s:Str) (h:∀ y∈f,y.1 < x):insC (f++r) x s=f++insC r x s:=by
 unfold insC
 rw [List.filter_append,List.filter_append,qfX (l:=f) fun y hy=>by simpa using h y hy,qd3 (l:=f) fun y hy=>by have:=h y hy; simp; lia]
 simp
theorem qgB {r:List Card}{x:Int} (f:List Card) (s:Str) (h:∀ y∈r,x < y.1):insC (f++r) x s=insC f x s++r:=by
 unfold insC
 rw [List.filter_append,List.filter_append,qd3 (l:=r) fun y hy=>by have:=h y hy; simp; lia,qfX (l:=r) fun y hy=>by simpa using h y hy]
 simp
theorem qc4 {α:Type} (c:α) (cs zs:List α) (p q:Nat):(c::cs).take (p+1)++zs++(c::cs).drop (q+1)=c::(cs.take p++zs++cs.drop q):=by simp
theorem ins_hit (x:Int) (s:Str):∀ (cs:List Card) (fs:List (List Card)),fs.length=cs.length+1->Srt (T.inter fs cs)->atC cs (qaf cs x) x=true->
  T.inter fs (cs.take (qaf cs x)++[(x,s)]++cs.drop (qaf cs x+1))=insC (T.inter fs cs) x s
 | [],fs,_,_,a=>by simp [atC] at a
 | c::cs,fs,hl,so,a=>by
  match fs,hl with
  | f::fs,hl=>
   have hl':fs.length=cs.length+1:=by simpa using hl
   rw [T.inter] at so |-
   obtain⟨h1,h2,h3⟩:=qcG so
   rw [qbd] at a |-
   by_cases c1:c.1 < x
   ·rw [if_pos c1] at a |-
    rw [atC_succ] at a
    rw [qc4,T.inter,ins_hit x s cs fs hl' h3 a,show f++c::T.inter fs cs=(f++[c])++T.inter fs cs by simp,qfw _ _ fun y hy=>by
     rcases zP.mp hy with z | z
     ·have:=h1 y z; lia
     ·rw [xE.mp z]; exact c1]
    simp
   ·rw [if_neg c1] at a |-
    have e:c.1=x:=by simpa [atC] using a
    have hi:∀ y∈T.inter fs cs,x < y.1:=fun y hy=>by have:=h2 y hy; lia
    rw [show f++c::T.inter fs cs=f++([c]++T.inter fs cs) by simp,qfw _ _ fun y hy=>by have:=h1 y hy; lia,qgB _ _ hi]
    have:insC [c] x s=[(x,s)]:=by
     unfold insC
     simp [e]
    rw [this]
    simp [T.inter]
where
 atC_succ {c:Card}{cs:List Card}{p:Nat}{x:Int}:atC (c::cs) (p+1) x=atC cs p x:=by simp [atC]
theorem qfv (x:Int) (s:Str):∀ (cs:List Card),Srt cs->atC cs (qaf cs x) x=true->cs.take (qaf cs x)++[(x,s)]++cs.drop (qaf cs x+1)=insC cs x s
 | [],_,a=>by simp [atC] at a
 | c::cs,so,a=>by
  rw [Srt,xM] at so
  rw [qbd] at a |-
  by_cases c1:c.1 < x
  ·rw [if_pos c1] at a |-
   rw [ins_hit.atC_succ] at a
   rw [qc4,qfv x s cs so.2 a,show c::cs=[c]++cs from rfl,qfw _ _ fun y hy=>by rw [xE.mp hy]; exact c1]
   rfl
  ·rw [if_neg c1] at a |-
   have e:c.1=x:=by simpa [atC] using a
   have hi:∀ y∈cs,x < y.1:=fun y hy=>by have:=so.1 y hy; lia
   rw [show c::cs=[c]++cs from rfl,qgB _ _ hi]
   have:insC [c] x s=[(x,s)]:=by
    unfold insC
    simp [e]
   rw [this]
   simp
theorem qkx (x:Int) (s:Str):∀ (cs:List Card),Srt cs->atC cs (qaf cs x) x=false->cs.take (qaf cs x)++[(x,s)]++cs.drop (qaf cs x)=insC cs x s
 | [],_,_=>by simp [insC]
 | c::cs,so,a=>by
  rw [Srt,xM] at so
  rw [qbd] at a |-
  by_cases c1:c.1 < x
  ·rw [if_pos c1] at a |-
   rw [ins_hit.atC_succ] at a
   rw [qc4,qkx x s cs so.2 a,show c::cs=[c]++cs from rfl,qfw _ _ fun y hy=>by rw [xE.mp hy]; exact c1]
   rfl
  ·rw [if_neg c1] at a |-
   have e:c.1≠x:=by simpa [atC] using a
   have hi:∀ y∈c::cs,x < y.1:=fun y hy=>by
    rcases zG.mp hy with rfl | z
    ·lia
    ·have:=so.1 y z; lia
   rw [show c::cs=[]++(c::cs) from rfl,qgB _ _ hi]
   simp [insC]
theorem qmt (x:Int) (s:Str):∀ (cs:List Card) (fs:List (List Card)),fs.length=cs.length+1->Srt (T.inter fs cs)->atC cs (qaf cs x) x=false->
  T.inter (fs.take (qaf cs x)++[insC (fs.getD (qaf cs x) []) x s]++fs.drop (qaf cs x+1)) cs=insC (T.inter fs cs) x s
 | [],fs,hl,_,_=>by
  match fs,hl with
  | [f],_=>simp [T.inter]
 | c::cs,fs,hl,so,a=>by
  match fs,hl with
  | f::fs,hl=>
   have hl':fs.length=cs.length+1:=by simpa using hl
   rw [T.inter] at so
   rw [show T.inter (f::fs) (c::cs)=f++c::T.inter fs cs by rw [T.inter]]
   obtain⟨h1,h2,h3⟩:=qcG so
   rw [qbd] at a |-
   by_cases c1:c.1 < x
   ·rw [if_pos c1] at a |-
    rw [ins_hit.atC_succ] at a
    rw [qc4,T.inter,List.getD_cons_succ,qmt x s cs fs hl' h3 a,show f++c::T.inter fs cs=(f++[c])++T.inter fs cs by simp,qfw _ _ fun y hy=>by
     rcases zP.mp hy with z | z
     ·have:=h1 y z; lia
     ·rw [xE.mp z]; exact c1]
    simp
   ·rw [if_neg c1] at a |-
    have e:c.1≠x:=by simpa [atC] using a
    have hi:∀ y∈c::T.inter fs cs,x < y.1:=fun y hy=>by
     rcases zG.mp hy with rfl | z
     ·lia
     ·have:=h2 y z; lia
    rw [qgB _ _ hi]
    simp [T.inter]
noncomputable def qbR (w:Nat) (u:T):T:=.node (u.cs.take (w / 2)) (u.bs.take (w / 2+1))
noncomputable def qbQ (w:Nat) (u:T):T:=.node (u.cs.drop (w / 2+1)) (u.bs.drop (w / 2+1))
noncomputable def midC (w:Nat) (u:T):Card:=u.cs.getD (w / 2) (0,Str.ofString "")
noncomputable def wupT (w:Nat) (cs:List Card) (bs:List T) (p:Nat) (u:T):T:=
 if u.cs.length<=w then .node cs (bs.take p++[u]++bs.drop (p+1)) else .node (cs.take p++[midC w u]++cs.drop p) (bs.take p++[qbR w u,qbQ w u]++bs.drop (p+1))
noncomputable def layT (w:Nat) (x:Int) (s:Str):Nat->T->T
 | 0,t=>t
 | n+1,.node cs bs=>if atC cs (qaf cs x) x=true then .node (cs.take (qaf cs x)++[(x,s)]++cs.drop (qaf cs x+1)) bs else
  match bs[qaf cs x]? with
  | none=>.node (cs.take (qaf cs x)++[(x,s)]++cs.drop (qaf cs x)) bs
  | some b=>wupT w cs bs (qaf cs x) (layT w x s n b)
noncomputable def topT (w:Nat) (u:T):T:=if u.cs.length<=w then u else .node [midC w u] [qbR w u,qbQ w u]
def VW (half w n:Nat) (u:T):Prop:=u.cs.length<=w+1/\(n=0->u.bs=[])/\(0 < n->u.bs.length=u.cs.length+1/\∀ b∈u.bs,T.V half w half n b)
theorem qki {w:Nat}{u:T} (h:¬ u.cs.length<=w):u.cs=u.cs.take (w / 2)++midC w u::u.cs.drop (w / 2+1):=by
 have hl:w / 2 < u.cs.length:=by lia
 unfold midC
 rw [yJ,zA hl]
 exact (List.take_append_getElem_cons_drop hl).symm
where
 List.take_append_getElem_cons_drop {α:Type}{l:List α}{i:Nat} (h:i < l.length):l.take i++l[i]::l.drop (i+1)=l:=by
  rw [List.getElem_cons_drop,yU]
theorem qg9 {half w n:Nat}{u:T} (v:VW half w n u) (h:¬ u.cs.length<=w):u.flat=(qbR w u).flat++midC w u::(qbQ w u).flat:=by
 obtain⟨h1,h2,h3⟩:=v
 have sp:=qki h
 rw [T.flat_eq u]
 unfold qbR qbQ
 rw [T.flat_node,T.flat_node]
 by_cases hn:n=0
 ·rw [h2 hn]
  simp only [yG,List.take_nil,List.drop_nil,qbp]
  exact sp
 ·obtain⟨bl,_⟩:=h3 (by lia)
  have sb:u.bs.map T.flat=(u.bs.take (w / 2+1)).map T.flat++(u.bs.drop (w / 2+1)).map T.flat:=by rw [<-yC,yU]
  rw [sb]
  conv=>lhs; rw [sp]
  exact qcX _ _ _ (by rw [zC,zM,zM]; lia)
theorem qmm {half w n:Nat}{u:T} (hh:half=w / 2) (v:VW half w n u) (h:¬ u.cs.length<=w):T.V half w half (n+1) (qbR w u)/\T.V half w half (n+1) (qbQ w u):=by
 obtain⟨h1,h2,h3⟩:=v
 refine⟨T.V.mk ?_ ?_ (fun z=>by rw [h2 z]; rfl) fun z=>?_,T.V.mk ?_ ?_ (fun z=>by rw [h2 z]; simp) fun z=>?_⟩
 ·rw [zM]; lia
 ·rw [zM]; lia
 ·obtain⟨bl,bv⟩:=h3 z
  exact⟨by rw [zM,zM]; lia,fun b hb=>bv b (y7 hb)⟩
 ·rw [zQ]; lia
 ·rw [zQ]; lia
 ·obtain⟨bl,bv⟩:=h3 z
  exact⟨by rw [zQ,zQ]; lia,fun b hb=>bv b (yO hb)⟩
theorem qnO {half w n p:Nat}{cs:List Card}{bs:List T}{u:T} (hh:half=w / 2) (hc:cs.length<=w) (bl:bs.length=cs.length+1) (bv:∀ b∈bs,T.V half w half (n+1) b) (hp:p<=cs.length) (vu:VW half w n u) (hu:half<=u.cs.length):
  VW half w (n+1) (wupT w cs bs p u)/\cs.length<=(wupT w cs bs p u).cs.length/\(wupT w cs bs p u).flat=T.inter ((bs.map T.flat).take p++[u.flat]++(bs.map T.flat).drop (p+1)) cs:=by
 unfold wupT
 by_cases h:u.cs.length<=w
 ·rw [if_pos h]
  refine⟨⟨by simp only [T.cs_node]; lia,fun z=>by lia,fun _=>⟨?_,fun b hb=>?_⟩⟩,zS _,?_⟩
  ·simp only [T.cs_node,T.bs_node]
   rw [qaW (by lia) (by lia)]
   simp
   lia
  ·simp only [T.bs_node] at hb
   rcases mem3 hb with⟨i,_,e⟩ | z | ⟨i,_,e⟩
   ·exact bv b (zD e)
   ·rw [xE.mp z]
    cases u with
    | node ucs ubs=>exact T.V.mk hu h vu.2.1 vu.2.2
   ·exact bv b (zD e)
  ·rw [T.flat_node]
   simp [yY,yS]
 ·rw [if_neg h]
  obtain⟨vl,vr⟩:=qmm hh vu h
  refine⟨⟨?_,fun z=>by lia,fun _=>⟨?_,fun b hb=>?_⟩⟩,?_,?_⟩
  ·simp only [T.cs_node]
   rw [qaW hp hp]
   simp
   lia
  ·simp only [T.cs_node,T.bs_node]
   rw [qaW (by lia) (by lia),qaW hp hp]
   simp
   lia
  ·simp only [T.bs_node] at hb
   rcases mem3 hb with⟨i,_,e⟩ | z | ⟨i,_,e⟩
   ·exact bv b (zD e)
   ·simp only [zG,yD,or_false] at z
    rcases z with rfl | rfl
    ·exact vl
    ·exact vr
   ·exact bv b (zD e)
  ·simp only [T.cs_node]
   rw [qaW hp hp]
   simp
   lia
  ·rw [T.flat_node,qg9 vu h]
   have e1:(bs.take p++[qbR w u,qbQ w u]++bs.drop (p+1)).map T.flat=(bs.map T.flat).take p++((qbR w u).flat::(qbQ w u).flat::(bs.map T.flat).drop (p+1)):=by simp [yY,yS]
   have e2:cs.take p++[midC w u]++cs.drop p=cs.take p++(midC w u::cs.drop p):=by simp
   have e3:(bs.map T.flat).take p++[(qbR w u).flat++midC w u::(qbQ w u).flat]++(bs.map T.flat).drop (p+1)=(bs.map T.flat).take p++(((qbR w u).flat++midC w u::(qbQ w u).flat)::(bs.map T.flat).drop (p+1)):=by simp
   have hl:((bs.map T.flat).take p).length=(cs.take p).length:=by rw [zM,zM,zC]; lia
   rw [e1,e2,e3,qbA _ _ hl]
   conv=>rhs; rw [<-yU p cs]
   rw [qbA _ _ hl]
   congr 1
   obtain⟨r,hr⟩:=qfV ((bs.map T.flat).drop (p+1)) (cs.drop p)
   rw [hr,show T.inter ((qbR w u).flat::(qbQ w u).flat::(bs.map T.flat).drop (p+1)) (midC w u::cs.drop p)=(qbR w u).flat++midC w u::T.inter ((qbQ w u).flat::(bs.map T.flat).drop (p+1)) (cs.drop p) by rw [T.inter],hr]
   simp
theorem qis {half w:Nat} (x:Int) (s:Str) (hh:half=w / 2):∀ (n own:Nat) (t:T),T.V half w own (n+1) t->Srt t.flat->
  (layT w x s (n+1) t).flat=insC t.flat x s/\VW half w n (layT w x s (n+1) t)/\t.cs.length<=(layT w x s (n+1) t).cs.length/\((∃ c∈t.flat,c.1=x)->(layT w x s (n+1) t).cs.length=t.cs.length)
 | n,own,.node cs bs,v,so=>by
  have ple:=qb4 cs x
  have hc:=v.hi
  simp only [T.cs_node] at hc
  have so':=so
  rw [T.flat_node] at so' |-
  unfold layT
  cases ha:atC cs (qaf cs x) x with
  | true=>
   rw [if_pos rfl,T.flat_node]
   have plt:qaf cs x < cs.length:=by
    by_cases z:qaf cs x < cs.length
    ·exact z
    ·unfold atC at ha
     rw [yM (by lia)] at ha
     cases ha
   have ll:(cs.take (qaf cs x)++[(x,s)]++cs.drop (qaf cs x+1)).length=cs.length:=by
    rw [qaW (by lia) (by lia)]
    simp
    lia
   refine⟨?_,⟨by simp only [T.cs_node]; lia,fun z=>?_,fun z=>?_⟩,by simp only [T.cs_node]; lia,fun _=>by simp only [T.cs_node]; exact ll⟩
   ·by_cases hn:n=0
    ·subst hn
     have hbs:bs=[]:=v.leaf
     subst hbs
     simp only [yG,qbp] at so' |-
     exact qfv x s cs so' ha
    ·exact ins_hit x s cs _ (by rw [zC]; exact (v.kids (by lia)).1) so' ha
   ·subst z
    exact v.leaf
   ·obtain⟨bl,bv⟩:=v.kids z
    simp only [T.cs_node,T.bs_node] at bl bv |-
    exact⟨by lia,bv⟩
  | false=>
   rw [if_neg (by decide)]
   by_cases hn:n=0
   ·subst hn
    have hbs:bs=[]:=v.leaf
    subst hbs
    have ll:(cs.take (qaf cs x)++[(x,s)]++cs.drop (qaf cs x)).length=cs.length+1:=by
     rw [qaW (by lia) (by lia)]
     simp
     lia
    simp only [List.getElem?_nil]
    rw [T.flat_node]
    simp only [yG,qbp] at so' |-
    refine⟨qkx x s cs so' ha,⟨by simp only [T.cs_node]; lia,fun _=>rfl,fun z=>by lia⟩,by simp only [T.cs_node]; lia,fun⟨c,hm,e⟩=>?_⟩
    exfalso
    have:=not_there so' ha c hm
    exact this e
   ·obtain⟨m,rfl⟩:∃ m,n=m+1:=⟨n - 1,by lia⟩
    obtain⟨bl,bv⟩:=v.kids (by lia)
    simp only [T.cs_node,T.bs_node] at bl bv
    have hbp:bs[qaf cs x]?=some bs[qaf cs x]:=zA (by lia)
    have vb:=bv _ (zD hbp)
    have hlm:(bs.map T.flat).length=cs.length+1:=by rw [zC]; exact bl
    obtain⟨i1,i2,i3,i4⟩:=qis x s hh m half _ vb (qdl so (zD hbp))
    rw [hbp]
    dsimp only
    have vlo:=vb.lo
    obtain⟨w1,w2,w3⟩:=qnO hh hc bl bv ple i2 (by lia)
    refine⟨?_,w1,w2,fun⟨c,hm,e⟩=>?_⟩
    ·rw [w3,i1,<-qmt x s cs (bs.map T.flat) hlm so' ha]
     congr 2
     rw [yJ,zE,hbp]
     rfl
    ·have hin:∃ c∈(bs[qaf cs x]).flat,c.1=x:=by
      have:=in_below cs (bs.map T.flat) hlm so' ha ⟨c,hm,e⟩
      rw [yJ,zE,hbp] at this
      exact this
     have hl:=i4 hin
     have vhi:=vb.hi
     unfold wupT
     rw [if_pos (by lia)]
     rfl
where
 not_there {cs:List Card}{x:Int} (so:Srt cs) (ha:atC cs (qaf cs x) x=false):∀ c∈cs,c.1≠x:=by
  induction cs with
  | nil=>intro c hc; exact nomatch hc
  | cons k cs ih=>
   rw [Srt,xM] at so
   rw [qbd] at ha
   intro c hc
   by_cases c1:k.1 < x
   ·rw [if_pos c1,ins_hit.atC_succ] at ha
    rcases zG.mp hc with rfl | z
    ·lia
    ·exact ih so.2 ha c z
   ·rw [if_neg c1] at ha
    have e:k.1≠x:=by simpa [atC] using ha
    rcases zG.mp hc with rfl | z
    ·exact e
    ·have:=so.1 c z; lia
 in_below {x:Int}:∀ (cs:List Card) (fs:List (List Card)),fs.length=cs.length+1->Srt (T.inter fs cs)->atC cs (qaf cs x) x=false->(∃ c∈T.inter fs cs,c.1=x)->∃ c∈fs.getD (qaf cs x) [],c.1=x
  | [],fs,hl,_,_,⟨c,hm,e⟩=>by
   match fs,hl with
   | [f],_=>exact⟨c,by simpa [T.inter] using hm,e⟩
  | k::cs,fs,hl,so,ha,⟨c,hm,e⟩=>by
   match fs,hl with
   | f::fs,hl=>
    have hl':fs.length=cs.length+1:=by simpa using hl
    rw [T.inter] at so hm
    obtain⟨h1,h2,h3⟩:=qcG so
    rw [qbd] at ha |-
    by_cases c1:k.1 < x
    ·rw [if_pos c1,ins_hit.atC_succ] at ha
     rw [if_pos c1,List.getD_cons_succ]
     refine in_below cs fs hl' h3 ha ⟨c,?_,e⟩
     rcases zP.mp hm with z | z
     ·have:=h1 c z; lia
     ·rcases zG.mp z with rfl | z
      ·lia
      ·exact z
    ·rw [if_neg c1] at ha |-
     have ek:k.1≠x:=by simpa [atC] using ha
     refine⟨c,?_,e⟩
     rcases zP.mp hm with z | z
     ·exact z
     ·rcases zG.mp z with rfl | z
      ·lia
      ·have:=h2 c z; lia
theorem qg5 {w:Nat}{u:T} (h0:w / 2 < u.cs.length) (hb:u.bs.length<=10000) (h:Hh):relF qdL [.int (w:Int),u.d] h=some (.tup [(qbR w u).d,qah (midC w u),(qbQ w u).d],h):=by
 cases u with
 | node cs bs=>
  simp only [T.cs_node,T.bs_node] at h0 hb
  have hw:((w:Int) / 2).toNat=w / 2:=by lia
  have e:=qa9 qje (ds:=[.int (w:Int),(T.node cs bs).d]) (d:=qgi (w:Int) (cs.map qah) (bs.map T.d)) ⟨w,_,cs.map qah,bs.map T.d,by rw [T.d_node]; rfl,rfl,by lia,by rw [hw,zC]; exact h0,fun b hb=>by obtain⟨t,_,rfl⟩:=yW.mp hb; exact t.isDr,qe3 cs,qe2 bs,by rw [zC]; exact qeK (by lia)⟩ h
  rw [e]
  unfold qgi qbR qbQ midC
  rw [hw,T.d_node,T.d_node]
  simp only [T.cs_node,T.bs_node,yY,yS]
  rw [yJ,yJ,zE,zA h0]
  rfl
def qlg (ds:List D) (d:D):Prop:=∃ (w:Nat) (cs:List Card) (bs:List T) (p:Nat) (u:T),ds=[.int (w:Int),(T.node cs bs).d,.int (p:Int),u.d]/\d=(wupT w cs bs p u).d/\cs.length<=1000/\bs.length<=1001/\u.bs.length<=1002
theorem runs_wup:Runs (qae 7 (qbU (relF qaN) (relF qaX) (relF qdL))) qlg:=by
 rintro ds d ⟨w,cs,bs,p,u,rfl,rfl,hc,hb,hu⟩
 refine⟨T.hbd _,fun h=>⟨[],qaD ?_⟩⟩
 rw [zW]
 have i0:=qeR (.node cs bs) h
 have i1:=qdU (.node cs bs) h
 have e1:(p:Int)+1=((p+1:Nat):Int):=by lia
 have lu:fB (f2 oLe (fc oLen (fAll [(f2 oIx (fV 3) (fC (.int 0)))])) (fV 0)) [some (.int (w:Int)),some (T.node cs bs).d,some (.int (p:Int)),some u.d,some (.tup (cs.map qah)),some (.tup (bs.map T.d)),none] h=.ok (decide (u.cs.length<=w)) h:=by
  refine qa5 ?_
  rw [qap (qgZ (t:=u) (h:=h) rfl) (y:=.int w) (h2:=h) rfl]
  show Res.ok (D.bl (decide ((u.cs.length:Int)<=(w:Int)))) h=_
  rw [decide_eq_decide.mpr (show ((u.cs.length:Int)<=(w:Int))↔u.cs.length<=w by lia)]
 unfold qbU wupT
 rw [qag (e1:=[some (.int (w:Int)),some (T.node cs bs).d,some (.int (p:Int)),some u.d,some (.tup (cs.map qah)),none,none]) (h1:=h) (qaq (by rw [qap (x:=(T.node cs bs).d) (h1:=h) rfl rfl,i0]; rfl))]
 rw [qag (e1:=[some (.int (w:Int)),some (T.node cs bs).d,some (.int (p:Int)),some u.d,some (.tup (cs.map qah)),some (.tup (bs.map T.d)),none]) (h1:=h) (qaq (by rw [qap (x:=(T.node cs bs).d) (h1:=h) rfl rfl,i1]; rfl))]
 by_cases c:u.cs.length<=w
 ·rw [if_pos c]
  refine qba ?_
  rw [qbb (by rw [lu,decide_eq_true c])]
  refine qaO ?_
  have p1:relF qaN [.tup (bs.map T.d),.int (p:Int),.int ((p+1:Nat):Int),.tup [u.d]] h=_:=qdK bs [u] p (p+1) (by lia) (by simp) h
  have d1:=qbH cs (bs.take p++[u]++bs.drop (p+1)) (by simp; lia) h
  simp only [fSeq,fSet,fRet,qaU,fIfS,fB,f1,f2,fc,fAll,fTup,fLst,fC,fV,fAnd,fOr,fNot,qb9,fOrV,fSl,qar,qaJ,qaC,qaM,qaI,qbT,qaR,Res.bind_ok,Res.out_ok,zU,zL,qct,e1,p1,d1]
 ·rw [if_neg c]
  rw [qag (e1:=[some (.int (w:Int)),some (T.node cs bs).d,some (.int (p:Int)),some u.d,some (.tup (cs.map qah)),some (.tup (bs.map T.d)),none]) (h1:=h) (by rw [qaL (by rw [lu,decide_eq_false c])]; rfl)]
  have q1:=qg5 (w:=w) (u:=u) (by lia) (by lia) h
  rw [qag (e1:=[some (.int (w:Int)),some (T.node cs bs).d,some (.int (p:Int)),some u.d,some (.tup (cs.map qah)),some (.tup (bs.map T.d)),some (.tup [(qbR w u).d,qah (midC w u),(qbQ w u).d])]) (h1:=h) (qaq (by rw [qaK (ds:=[.int (w:Int),u.d]) (h1:=h) rfl,q1]; rfl))]
  refine qaO ?_
  have p1:relF qaN [.tup (cs.map qah),.int (p:Int),.int (p:Int),.tup [qah (midC w u)]] h=_:=qcI cs [midC w u] p p (by lia) (by simp) h
  have p2:relF qaN [.tup (bs.map T.d),.int (p:Int),.int ((p+1:Nat):Int),.tup [(qbR w u).d,(qbQ w u).d]] h=_:=qdK bs [qbR w u,qbQ w u] p (p+1) (by lia) (by simp) h
  have d1:=qbH (cs.take p++[midC w u]++cs.drop p) (bs.take p++[qbR w u,qbQ w u]++bs.drop (p+1)) (by simp; lia) h
  have x0:∀ h,oIx (.tup [(qbR w u).d,qah (midC w u),(qbQ w u).d]) (.int 0) h=some ((qbR w u).d,h):=fun _=>rfl
  have x1:∀ h,oIx (.tup [(qbR w u).d,qah (midC w u),(qbQ w u).d]) (.int 1) h=some (qah (midC w u),h):=fun _=>rfl
  have x2:∀ h,oIx (.tup [(qbR w u).d,qah (midC w u),(qbQ w u).d]) (.int 2) h=some ((qbQ w u).d,h):=fun _=>rfl
  simp only [fSeq,fSet,fRet,qaU,fIfS,fB,f1,f2,fc,fAll,fTup,fLst,fC,fV,fAnd,fOr,fNot,qb9,fOrV,fSl,qar,qaJ,qaC,qaM,qaI,qbT,qaR,Res.bind_ok,Res.out_ok,zU,zL,qct,e1,x0,x1,x2,p1,p2,d1]
theorem qnx:Det qlg:=runs_wup.det
def qcs (n:Nat) (ds:List D) (d:D):Prop:=∃ (w half own j:Nat) (x:Int) (s:Str) (t:T),ds=[.int (w:Int),t.d,.int x,.str s]/\d=(layT w x s j t).d/\half=w / 2/\j<=n/\T.V half w own j t/\Srt t.flat/\w<=900
theorem qeN {n:Nat} (dt:Det (qcs n)):Runs (qae 8 (qd7 (relF qcF) (qae 3 qcm) (relF qaN) (relF qaX) (relF (qcs n)) (relF qlg))) (qcs (n+1)):=by
 rintro ds d ⟨w,half,own,j,x,s,⟨cs,bs⟩,rfl,rfl,hh,hj,v,so,hw⟩
 refine⟨T.hbd _,fun h=>⟨[],qaD ?_⟩⟩
 rw [zW]
 match j,v with
 | 0,v=>exact v.elim
 | j+1,v=>
  have hc:=v.hi
  have hbz:=v.bsz
  simp only [T.cs_node,T.bs_node] at hc hbz
  have i0:=qeR (.node cs bs) h
  have i1:=qdU (.node cs bs) h
  have pl:=qa9 qfC ⟨cs,x,rfl,rfl,by lia⟩ h
  have ple:=qb4 cs x
  have ia:=qge cs (qaf cs x) x h
  unfold layT
  generalize hp:qaf cs x=p at pl ple ia
  have e1:(p:Int)+1=((p+1:Nat):Int):=by lia
  unfold qd7
  rw [qag (e1:=[some (.int (w:Int)),some (T.node cs bs).d,some (.int x),some (.str s),some (.tup (cs.map qah)),none,none,none]) (h1:=h) (qaq (by rw [qap (x:=(T.node cs bs).d) (h1:=h) rfl rfl,i0]; rfl))]
  rw [qag (e1:=[some (.int (w:Int)),some (T.node cs bs).d,some (.int x),some (.str s),some (.tup (cs.map qah)),some (.tup (bs.map T.d)),none,none]) (h1:=h) (qaq (by rw [qap (x:=(T.node cs bs).d) (h1:=h) rfl rfl,i1]; rfl))]
  rw [qag (e1:=[some (.int (w:Int)),some (T.node cs bs).d,some (.int x),some (.str s),some (.tup (cs.map qah)),some (.tup (bs.map T.d)),some (.int p),none]) (h1:=h) (qaq (by rw [qaK (ds:=[.tup (cs.map qah),.int x]) (h1:=h) rfl,pl]; rfl))]
  have tst:fB (fc (qae 3 qcm) (fAll [(fV 4),(fV 6),(fV 2)])) [some (.int (w:Int)),some (T.node cs bs).d,some (.int x),some (.str s),some (.tup (cs.map qah)),some (.tup (bs.map T.d)),some (.int p),none] h=.ok (atC cs p x) h:=by
   refine qa5 ?_
   rw [qaK (ds:=[.tup (cs.map qah),.int p,.int x]) (h1:=h) rfl,ia]
   rfl
  have cd:D.tup [.int x,.str s]=qah (x,s):=rfl
  cases ha:atC cs p x with
  | true=>
   rw [if_pos rfl]
   refine qba ?_
   rw [qbb (by rw [tst,ha])]
   refine qaO ?_
   have p1:relF qaN [.tup (cs.map qah),.int (p:Int),.int ((p+1:Nat):Int),.tup [qah (x,s)]] h=_:=qcI cs [(x,s)] p (p+1) (by lia) (by simp) h
   have d1:=qbH (cs.take p++[(x,s)]++cs.drop (p+1)) bs (by lia) h
   simp only [fSeq,fSet,fRet,qaU,fIfS,fB,f1,f2,fc,fAll,fTup,fLst,fC,fV,fAnd,fOr,fNot,qb9,fOrV,fSl,qar,qaJ,qaC,qaM,qaI,qbT,qaR,Res.bind_ok,Res.out_ok,zU,zL,qct,e1,cd,p1,d1]
  | false=>
   rw [if_neg (by decide)]
   rw [qag (e1:=[some (.int (w:Int)),some (T.node cs bs).d,some (.int x),some (.str s),some (.tup (cs.map qah)),some (.tup (bs.map T.d)),some (.int p),none]) (h1:=h) (by rw [qaL (by rw [tst,ha])]; rfl)]
   by_cases hn:j=0
   ·subst hn
    have hbs:bs=[]:=v.leaf
    subst hbs
    simp only [List.getElem?_nil]
    refine qba ?_
    rw [qbb (h1:=h) (by simp [fSeq,fSet,fRet,qaU,fIfS,fB,f1,f2,fc,fAll,fTup,fLst,fC,fV,fAnd,fOr,fNot,qb9,fOrV,fSl,qar,qaJ,qaC,qaM,qaI,qbT,qaR,Res.bind_ok,Res.out_ok])]
    refine qaO ?_
    have p1:relF qaN [.tup (cs.map qah),.int (p:Int),.int (p:Int),.tup [qah (x,s)]] h=_:=qcI cs [(x,s)] p p (by lia) (by simp) h
    have d1:=qbH (cs.take p++[(x,s)]++cs.drop p) [] (by simp) h
    simp only [fSeq,fSet,fRet,qaU,fIfS,fB,f1,f2,fc,fAll,fTup,fLst,fC,fV,fAnd,fOr,fNot,qb9,fOrV,fSl,qar,qaJ,qaC,qaM,qaI,qbT,qaR,Res.bind_ok,Res.out_ok,zU,zL,cd,p1]
    rw [d1]
    rfl
   ·obtain⟨bl,bv⟩:=v.kids (by lia)
    simp only [T.cs_node,T.bs_node] at bl bv
    have hbp:bs[p]?=some bs[p]:=zA (by lia)
    have vb:=bv _ (zD hbp)
    have sb:=qdl so (zD hbp)
    rw [hbp]
    dsimp only
    rw [qag (e1:=[some (.int (w:Int)),some (T.node cs bs).d,some (.int x),some (.str s),some (.tup (cs.map qah)),some (.tup (bs.map T.d)),some (.int p),none]) (h1:=h) (by
     rw [qaL (h1:=h) (qel rfl (by rw [zC]; lia))]
     rfl)]
    have q1:relF (qcs n) [.int (w:Int),(bs[p]).d,.int x,.str s] h=some ((layT w x s j bs[p]).d,h):=qa9 dt ⟨w,half,half,j,x,s,_,rfl,rfl,hh,by lia,vb,sb,hw⟩ h
    rw [qag (e1:=[some (.int (w:Int)),some (T.node cs bs).d,some (.int x),some (.str s),some (.tup (cs.map qah)),some (.tup (bs.map T.d)),some (.int p),some (layT w x s j bs[p]).d]) (h1:=h) (qaq (by
     rw [qaK (ds:=[.int (w:Int),(bs[p]).d,.int x,.str s]) (h1:=h) (qaz (d:=.int (w:Int)) (h1:=h) rfl (qaz (d:=(bs[p]).d) (h1:=h) (by rw [qap (x:=.tup (bs.map T.d)) (h1:=h) (y:=.int p) (h2:=h) rfl rfl,qcQ,qaS,zE,hbp]; rfl) rfl)),q1]
     rfl))]
    refine qaO ?_
    obtain⟨m,rfl⟩:∃ m,j=m+1:=⟨j - 1,by lia⟩
    obtain⟨_,vw,_,_⟩:=qis x s hh m half _ vb sb
    have ub:(layT w x s (m+1) bs[p]).bs.length<=1002:=by
     by_cases z:m=0
     ·rw [vw.2.1 z]; simp
     ·have:=(vw.2.2 (by lia)).1
      have:=vw.1
      lia
    rw [qaK (ds:=[.int (w:Int),(T.node cs bs).d,.int (p:Int),(layT w x s (m+1) bs[p]).d]) (h1:=h) rfl,qa9 qnx ⟨w,cs,bs,p,_,rfl,rfl,by lia,by lia,ub⟩ h]
    rfl
theorem qli (ds:List D) (d:D):¬ qcs 0 ds d:=by
 rintro⟨w,half,own,j,x,s,t,_,_,_,hj,v,_⟩
 have:j=0:=by lia
 subst this
 exact v
theorem qgJ:∀ n,Det (qcs n)
 | 0=>fun ds d d' h=>absurd h (qli ds d)
 | n+1=>(qeN (qgJ n)).det
theorem qdw (n:Nat):Runs (qae 8 (qd7 (relF qcF) (qae 3 qcm) (relF qaN) (relF qaX) (relF (qcs n)) (relF qlg))) (qcs (n+1)):=qeN (qgJ n)
def qjk (n:Nat) (ds:List D) (d:D):Prop:=∃ (w half own j:Nat) (x:Int) (s:Str) (t:T),ds=[.int (w:Int),t.d,.int x,.str s]/\d=(topT w (layT w x s j t)).d/\half=w / 2/\j<=n/\T.V half w own j t/\Srt t.flat/\w<=900
theorem qig (n:Nat):Runs (qae 6 (qf1 (relF (qcs n)) (relF qdL) (relF qaX))) (qjk n):=by
 rintro ds d ⟨w,half,own,j,x,s,t,rfl,rfl,hh,hj,v,so,hw⟩
 refine⟨T.hbd _,fun h=>⟨[],qaD ?_⟩⟩
 rw [zW]
 have q1:relF (qcs n) [.int (w:Int),t.d,.int x,.str s] h=some ((layT w x s j t).d,h):=qa9 (qgJ n) ⟨w,half,own,j,x,s,_,rfl,rfl,hh,hj,v,so,hw⟩ h
 obtain⟨m,rfl⟩:∃ m,j=m+1:=⟨j - 1,by
  cases j with
  | zero=>exact v.elim
  | succ j=>lia⟩
 obtain⟨_,vw,_,_⟩:=qis x s hh m own t v so
 generalize layT w x s (m+1) t=u at q1 vw
 have ub:u.bs.length<=1002:=by
  by_cases z:m=0
  ·rw [vw.2.1 z]; simp
  ·have:=(vw.2.2 (by lia)).1
   have:=vw.1
   lia
 unfold qf1 topT
 rw [qag (e1:=[some (.int (w:Int)),some t.d,some (.int x),some (.str s),some u.d,none]) (h1:=h) (qaq (by rw [qaK (ds:=[.int (w:Int),t.d,.int x,.str s]) (h1:=h) rfl,q1]; rfl))]
 have lu:fB (f2 oLe (fc oLen (fAll [(f2 oIx (fV 4) (fC (.int 0)))])) (fV 0)) [some (.int (w:Int)),some t.d,some (.int x),some (.str s),some u.d,none] h=.ok (decide (u.cs.length<=w)) h:=by
  refine qa5 ?_
  rw [qap (qgZ (t:=u) (h:=h) rfl) (y:=.int w) (h2:=h) rfl]
  show Res.ok (D.bl (decide ((u.cs.length:Int)<=(w:Int)))) h=_
  rw [decide_eq_decide.mpr (show ((u.cs.length:Int)<=(w:Int))↔u.cs.length<=w by lia)]
 by_cases c:u.cs.length<=w
 ·rw [if_pos c]
  refine qba ?_
  rw [qbb (by rw [lu,decide_eq_true c])]
  rfl
 ·rw [if_neg c]
  rw [qag (e1:=[some (.int (w:Int)),some t.d,some (.int x),some (.str s),some u.d,none]) (h1:=h) (by rw [qaL (by rw [lu,decide_eq_false c])]; rfl)]
  have q2:=qg5 (w:=w) (u:=u) (by lia) (by lia) h
  rw [qag (e1:=[some (.int (w:Int)),some t.d,some (.int x),some (.str s),some u.d,some (.tup [(qbR w u).d,qah (midC w u),(qbQ w u).d])]) (h1:=h) (qaq (by rw [qaK (ds:=[.int (w:Int),u.d]) (h1:=h) rfl,q2]; rfl))]
  refine qaO ?_
  have d1:relF qaX [.tup [qah (midC w u)],.tup [(qbR w u).d,(qbQ w u).d]] h=some ((T.node [midC w u] [qbR w u,qbQ w u]).d,h):=qbH [midC w u] [qbR w u,qbQ w u] (by simp) h
  have x0:∀ h,oIx (.tup [(qbR w u).d,qah (midC w u),(qbQ w u).d]) (.int 0) h=some ((qbR w u).d,h):=fun _=>rfl
  have x1:∀ h,oIx (.tup [(qbR w u).d,qah (midC w u),(qbQ w u).d]) (.int 1) h=some (qah (midC w u),h):=fun _=>rfl
  have x2:∀ h,oIx (.tup [(qbR w u).d,qah (midC w u),(qbQ w u).d]) (.int 2) h=some ((qbQ w u).d,h):=fun _=>rfl
  simp only [fSeq,fSet,fRet,qaU,fIfS,fB,f1,f2,fc,fAll,fTup,fLst,fC,fV,fAnd,fOr,fNot,qb9,fOrV,fSl,qar,qaJ,qaC,qaM,qaI,qbT,qaR,Res.bind_ok,Res.out_ok,zU,zL,x0,x1,x2,d1]
theorem qny (n:Nat):Det (qjk n):=(qig n).det
inductive HT where
 | node (q a b:Nat) (ks:List HT)
noncomputable def HT.q:HT->Nat
 | .node q _ _ _=>q
noncomputable def HT.a:HT->Nat
 | .node _ a _ _=>a
noncomputable def HT.b:HT->Nat
 | .node _ _ b _=>b
noncomputable def HT.ks:HT->List HT
 | .node _ _ _ ks=>ks
mutual
noncomputable def HT.all:HT->List Nat
 | .node q a b ks=>q::a::b::HT.allL ks
noncomputable def HT.allL:List HT->List Nat
 | []=>[]
 | k::r=>k.all++HT.allL r
end
theorem qbG:∀ a b:List HT,HT.allL (a++b)=HT.allL a++HT.allL b
 | [],b=>by simp [HT.allL]
 | k::r,b=>by simp [HT.allL,qbG r b]
theorem qbq {ks:List HT}{k:HT} (h:k∈ks):k.all.Sublist (HT.allL ks):=by
 obtain⟨a,b,rfl⟩:=List.append_of_mem h
 rw [qbG,HT.allL]
 exact (List.sublist_append_left _ _).trans (List.sublist_append_right _ _)
theorem qaF (q a b:Nat) (ks:List HT):(HT.node q a b ks).all=q::a::b::HT.allL ks:=by rw [HT.all]
theorem qck {α:Type}{xs:List α}{p:Nat} (x:α) (h:p < xs.length):xs.set p x=xs.take p++x::xs.drop (p+1):=by
 rw [List.set_eq_take_append_cons_drop,if_pos h]
theorem qcu {ks:List HT}{p:Nat} (k:HT) (h:p < ks.length):HT.allL (ks.set p k)=HT.allL (ks.take p)++(k.all++HT.allL (ks.drop (p+1))):=by
 rw [qck k h,qbG,HT.allL]
inductive At (h:Hh):HT->T->Prop where
 | mk {q a b:Nat}{ks:List HT}{cs:List Card}{bs:List T}:h[q]?=some (.lst [.lst a,.lst b])->h[a]?=some (.lst (cs.map qah))->h[b]?=some (.lst (ks.map fun k=>D.lst k.q))->ks.length=bs.length->
   (∀ (i:Nat) k t,ks[i]?=some k->bs[i]?=some t->At h k t)->At h (.node q a b ks) (.node cs bs)
theorem At.frame {h h':Hh}{k:HT}{t:T} (r:At h k t):(∀ x∈k.all,h'[x]?=h[x]?)->At h' k t:=by
 induction r with
 | @mk q a b ks cs bs h1 h2 h3 h4 h5 ih=>
  intro hx
  rw [qaF] at hx
  refine .mk (by rw [hx q (by simp)]; exact h1) (by rw [hx a (by simp)]; exact h2) (by rw [hx b (by simp)]; exact h3) h4 fun i k t e1 e2=>ih i k t e1 e2 fun x z=>hx x ?_
  have:=(qbq (zD e1)).subset z
  simp [this]
theorem At.grow {h h':Hh}{k:HT}{t:T} (r:At h k t) (g:Grow h h'):At h' k t:=by
 induction r with
 | mk h1 h2 h3 h4 h5 ih=>exact .mk (g.at' h1) (g.at' h2) (g.at' h3) h4 ih
theorem At.lt {h:Hh}{k:HT}{t:T} (r:At h k t):∀ x∈k.all,x < h.length:=by
 induction r with
 | @mk q a b ks cs bs h1 h2 h3 h4 h5 ih=>
  intro x hx
  rw [qaF] at hx
  simp only [zG] at hx
  rcases hx with rfl | rfl | rfl | hx
  ·exact (zB.mp h1).1
  ·exact (zB.mp h2).1
  ·exact (zB.mp h3).1
  ·have:∃ k∈ks,x∈k.all:=mem_allL ks x hx
   obtain⟨k,hk,z⟩:=this
   obtain⟨i,hi,e⟩:=List.mem_iff_getElem.mp hk
   have hi':i < bs.length:=by lia
   exact ih i k bs[i] (by rw [zA hi,e]) (zA hi') x z
where
 mem_allL:∀ (ks:List HT) (x:Nat),x∈HT.allL ks->∃ k∈ks,x∈k.all
  | [],x,h=>by simp [HT.allL] at h
  | k::r,x,h=>by
   rw [HT.allL] at h
   rcases zP.mp h with z | z
   ·exact⟨k,zV,z⟩
   ·obtain⟨k',h1,h2⟩:=mem_allL r x z
    exact⟨k',zR _ h1,h2⟩
theorem At.inv {h:Hh}{k:HT}{t:T} (r:At h k t):h[k.q]?=some (.lst [.lst k.a,.lst k.b])/\h[k.a]?=some (.lst (t.cs.map qah))/\h[k.b]?=some (.lst (k.ks.map fun k=>D.lst k.q))/\k.ks.length=t.bs.length/\(∀ (i:Nat) k' t',k.ks[i]?=some k'->t.bs[i]?=some t'->At h k' t')/\k=.node k.q k.a k.b k.ks:=by
 cases r with
 | mk h1 h2 h3 h4 h5=>exact⟨h1,h2,h3,h4,h5,rfl⟩
structure Fm where
 q:Nat
 a:Nat
 b:Nat
 cs:List Card
 p:Nat
 ks:List HT
 bs:List T
def Fm.ok (f:Fm):Prop:=f.p < f.ks.length/\f.ks.length=f.bs.length
noncomputable def Fm.k (f:Fm) (k:HT):HT:=.node f.q f.a f.b (f.ks.set f.p k)
noncomputable def Fm.t (f:Fm) (t:T):T:=.node f.cs (f.bs.set f.p t)
noncomputable def qaV:List Fm->HT->HT
 | [],k=>k
 | f::r,k=>qaV r (f.k k)
noncomputable def qbz:List Fm->T->T
 | [],t=>t
 | f::r,t=>qbz r (f.t t)
theorem qci {fs:List Fm} (ok:∀ f∈fs,f.ok):∀ k:HT,k.all.Sublist (qaV fs k).all:=by
 induction fs with
 | nil=>exact fun k=>List.Sublist.refl _
 | cons f r ih=>
  intro k
  refine List.Sublist.trans ?_ (ih (fun g hg=>ok g (zR _ hg)) (f.k k))
  unfold Fm.k
  rw [qaF]
  have:k∈f.ks.set f.p k:=yL.mpr ⟨f.p,zI (ok f zV).1⟩
  exact (((qbq this).cons _).cons _).cons _
theorem qgC {h:Hh}{fs:List Fm} (ok:∀ f∈fs,f.ok):∀ {k:HT}{t:T},At h (qaV fs k) (qbz fs t)->At h k t:=by
 induction fs with
 | nil=>exact fun r=>r
 | cons f r ih=>
  intro k t z
  have y:=ih (fun g hg=>ok g (zR _ hg)) z
  obtain⟨o1,o2⟩:=ok f zV
  obtain⟨_,_,_,_,y5,_⟩:=y.inv
  exact y5 f.p k t (zI o1) (zI (by lia))
theorem qfT {A B X Y:List Nat}{n:Nat} (h:(A++(X++B)).Nodup) (hy:Y.Nodup) (hs:∀ x∈Y,x∈X\/n<=x) (hA:∀ x∈A,x < n) (hB:∀ x∈B,x < n):(A++(Y++B)).Nodup:=by
 rw [yR] at h |-
 obtain⟨h1,h2,h3⟩:=h
 rw [yR] at h2
 obtain⟨h4,h5,h6⟩:=h2
 refine⟨h1,?_,fun a ha b hb e=>?_⟩
 ·rw [yR]
  refine⟨hy,h5,fun a ha b hb e=>?_⟩
  subst e
  rcases hs a ha with z | z
  ·exact h6 a z a hb rfl
  ·have:=hB a hb; lia
 ·subst e
  rcases zP.mp hb with z | z
  ·rcases hs a z with y | y
   ·exact h3 a ha a (zX _ y) rfl
   ·have:=hA a ha; lia
  ·exact h3 a ha a (zN _ z) rfl
theorem qfk {h h':Hh}{fs:List Fm} (ok:∀ f∈fs,f.ok):∀ {k k':HT}{t t':T},At h (qaV fs k) (qbz fs t)->(qaV fs k).all.Nodup->k'.q=k.q->At h' k' t'->(∀ x∈(qaV fs k).all,x∉k.all->h'[x]?=h[x]?)->k'.all.Nodup->(∀ x∈k'.all,x∈k.all\/h.length<=x)->
  At h' (qaV fs k') (qbz fs t')/\(qaV fs k').all.Nodup/\∀ x∈(qaV fs k').all,x∈(qaV fs k).all\/h.length<=x:=by
 induction fs with
 | nil=>exact fun _ _ _ r' _ nd hs=>⟨r',nd,hs⟩
 | cons f r ih=>
  intro k k' t t' z nd hq r' hx nd' hs
  have ok':∀ g∈r,g.ok:=fun g hg=>ok g (zR _ hg)
  obtain⟨o1,o2⟩:=ok f zV
  have y:=qgC ok' z
  have sub:=qci ok' (f.k k)
  have ndP:=nd.sublist sub
  have ylt:=y.lt
  unfold Fm.k at ndP ylt
  rw [qaF,qcu k o1] at ndP ylt
  have ndP':([f.q,f.a,f.b]++HT.allL (f.ks.take f.p)++(k.all++HT.allL (f.ks.drop (f.p+1)))).Nodup:=by simpa using ndP
  have mem:∀ x,x∈[f.q,f.a,f.b]++HT.allL (f.ks.take f.p)++(k.all++HT.allL (f.ks.drop (f.p+1)))->x∈(qaV r (f.k k)).all:=fun x m=>sub.subset (by
   unfold Fm.k
   rw [qaF,qcu k o1]
   simpa using m)
  have ylt':∀ x∈[f.q,f.a,f.b]++HT.allL (f.ks.take f.p)++(k.all++HT.allL (f.ks.drop (f.p+1))),x < h.length:=fun x m=>ylt x (by simpa using m)
  have out1:∀ x∈[f.q,f.a,f.b]++HT.allL (f.ks.take f.p),x∉k.all:=fun x m n=>(yR.mp ndP').2.2 x m x (zX _ n) rfl
  have out2:∀ x∈HT.allL (f.ks.drop (f.p+1)),x∉k.all:=fun x m n=>(yR.mp (yR.mp ndP').2.1).2.2 x n x m rfl
  have same:∀ x,x∈[f.q,f.a,f.b]++HT.allL (f.ks.take f.p)\/x∈HT.allL (f.ks.drop (f.p+1))->h'[x]?=h[x]?:=fun x m=>by
   rcases m with m | m
   ·exact hx x (mem x (zX _ m)) (out1 x m)
   ·exact hx x (mem x (zN _ (zN _ m))) (out2 x m)
  obtain⟨y1,y2,y3,y4,y5,_⟩:=y.inv
  have nd2:([f.q,f.a,f.b]++HT.allL (f.ks.take f.p)++(k'.all++HT.allL (f.ks.drop (f.p+1)))).Nodup:=qfT ndP' nd' hs (fun x m=>ylt' x (zX _ m)) fun x m=>ylt' x (zN _ (zN _ m))
  refine ih ok' (k:=f.k k) (k':=f.k k') (t:=f.t t) (t':=f.t t') z nd rfl ?_ (fun x m n=>hx x m fun z=>n ?_) ?_ fun x m=>?_
  ·refine .mk (by rw [same f.q (.inl (by simp))]; exact y1) (by rw [same f.a (.inl (by simp))]; exact y2) ?_ (by rw [zT,zT]; exact o2) fun i kk tt e1 e2=>?_
   ·rw [same f.b (.inl (by simp))]
    have:(f.ks.set f.p k').map (fun k=>D.lst k.q)=(f.ks.set f.p k).map (fun k=>D.lst k.q):=by rw [List.map_set,List.map_set,hq]
    rw [this]
    exact y3
   ·by_cases hi:i=f.p
    ·subst hi
     rw [zI o1] at e1
     rw [zI (by lia)] at e2
     cases e1
     cases e2
     exact r'
    ·have e1':(f.ks.set f.p k)[i]?=some kk:=by rw [zF (Ne.symm hi)] at e1 |-; exact e1
     have e2':(f.bs.set f.p t)[i]?=some tt:=by rw [zF (Ne.symm hi)] at e2 |-; exact e2
     refine (y5 i kk tt e1' e2').frame fun x m=>same x ?_
     rw [zF (Ne.symm hi)] at e1
     by_cases hlt:i < f.p
     ·exact .inl (zN _ ((qbq (yL.mpr ⟨i,by rw [xF hlt]; exact e1⟩)).subset m))
     ·exact .inr ((qbq (yL.mpr ⟨i - (f.p+1),by rw [xU,show f.p+1+(i - (f.p+1))=i by lia]; exact e1⟩)).subset m)
  ·unfold Fm.k
   rw [qaF,qcu k o1]
   simp [z]
  ·unfold Fm.k
   rw [qaF,qcu k' o1]
   simpa using nd2
  ·unfold Fm.k at m |-
   rw [qaF,qcu k' o1] at m
   rw [qaF,qcu k o1]
   simp only [zG,zP] at m |-
   rcases m with m | m | m | m | m | m
   ·simp [m]
   ·simp [m]
   ·simp [m]
   ·simp [m]
   ·rcases hs x m with z | z
    ·simp [z]
    ·exact .inr z
   ·simp [m]
theorem qk4:∀ (fs:List (List Card)) (cs:List Card),cs.Sublist (T.inter fs cs)
 | [],cs=>by rw [qbp]; exact List.Sublist.refl _
 | f::fs,[]=>List.nil_sublist _
 | f::fs,c::cs=>by
  rw [T.inter]
  exact ((qk4 fs cs).cons_cons c).trans (List.sublist_append_right _ _)
theorem qmk {t:T} (s:Srt t.flat):Srt t.cs:=by
 rw [T.flat_eq] at s
 exact s.sublist (qk4 _ _)
theorem qih {h:Hh}{k:HT}{t:T} (r:At h k t) (s:Srt t.cs) (hl:t.cs.length<=1000) (x:Int):∃ o,qae 2 qan [.lst k.q,.int x] h=some (.int (qaf t.cs x),h++[o]):=by
 obtain⟨i1,i2,_⟩:=r.inv
 refine⟨.lst ((t.cs.filter fun c=>decide (c.1 < x)).map qah),qaD (qaO ?_)⟩
 have e:qek (qco (f2 oIx (fV 0) (fC (.int 0)))) [1] (fB (f2 oLt (f2 oIx (fV 0) (fC (.int 0))) (fV 1))) (fV 0) (qaM 2 [.lst k.q,.int x]) h=.ok (.lst h.length) (h++[.lst ((t.cs.filter fun c=>decide (c.1 < x)).map qah)]):=by
  have q:qco (f2 oIx (fV 0) (fC (.int 0))) (qaM 2 [.lst k.q,.int x]) h=.ok ⟨t.cs.map qah,fun h=>h[k.a]?=some (.lst (t.cs.map qah))⟩ h:=by
   unfold qco
   rw [qap (x:=.lst k.q) (h1:=h) rfl (y:=.int ((0:Nat):Int)) (h2:=h) rfl,qaB i1]
   show qhm (.lst k.a) h=_
   unfold qhm
   dsimp only
   rw [i2]
  have:=qht (fr:=[1]) (ft:=fB (f2 oLt (f2 oIx (fV 0) (fC (.int 0))) (fV 1))) (fe:=fV 0) (p:=fun d=>match d with | .tup [.int n,.str s]=>decide (n < x) | _=>false) (g:=fun d=>d) q (fun xs=>(Grow.app _ _).at' i2) (fun d hd xs=>by
   obtain⟨c,_,rfl⟩:=yW.mp hd
   refine qa5 ?_
   rw [qap (x:=.int c.1) (h1:=h++[.lst xs]) rfl (y:=.int x) (h2:=h++[.lst xs]) rfl]
   rfl) (fun d hd _ xs=>rfl) (by rw [zC]; exact yX hl (by decide))
  rw [this,List.map_id',List.filter_map]
  rfl
 rw [qaK (qbg e),qbo (qbu _ _),zC,<-qlE s]
 rfl
theorem qea {h:Hh}{k:HT}{t:T} (r:At h k t) (p:Nat) (x:Int):qae 3 qak [.tup [.lst k.q,.int p],.int x] h=some (.bl (atC t.cs p x),h):=by
 obtain⟨i1,i2,_⟩:=r.inv
 refine qaD ?_
 unfold qak
 rw [qag (e1:=[some (.tup [.lst k.q,.int p]),some (.int x),some (.lst k.a)]) (h1:=h) (qaq (by
  rw [qap (x:=.lst k.q) (h1:=h) rfl (y:=.int ((0:Nat):Int)) (h2:=h) rfl,qaB i1]
  rfl))]
 refine qaO ?_
 have l1:f2 oLt (f2 oIx (fV 0) (fC (.int 1))) (fc oLen (fAll [(fV 2)])) [some (.tup [.lst k.q,.int p]),some (.int x),some (.lst k.a)] h=.ok (.bl (decide (p < t.cs.length))) h:=by
  rw [qap (x:=.int p) (h1:=h) rfl (y:=.int t.cs.length) (h2:=h) (by rw [qaK (qbg (d:=.lst k.a) (h1:=h) rfl),qbo i2,zC]; rfl)]
  show Res.ok (D.bl (decide ((p:Int) < (t.cs.length:Int)))) h=_
  rw [decide_eq_decide.mpr (show ((p:Int) < (t.cs.length:Int))↔p < t.cs.length by lia)]
 unfold qb9
 rw [l1,Res.bind_ok,qbT,Res.bind_ok]
 by_cases hp:p < t.cs.length
 ·rw [decide_eq_true hp,if_pos rfl]
  have e1:t.cs[p]?=some t.cs[p]:=zA hp
  rw [qap (x:=.int (t.cs[p]).1) (h1:=h) (by
   rw [qap (x:=qah t.cs[p]) (h1:=h) (by rw [qap (x:=.lst k.a) (h1:=h) rfl (y:=.int p) (h2:=h) rfl,qaB i2,qaS,zE,e1]; rfl) rfl]
   rfl) (y:=.int x) (h2:=h) rfl,qdx]
  unfold atC
  rw [e1]
  have:((t.cs[p]).1==x)=decide ((t.cs[p]).1=x):=by rw [Bool.eq_iff_iff]; simp
  dsimp only
  rw [this]
  rfl
 ·rw [decide_eq_false hp,if_neg (by decide)]
  unfold atC
  rw [yM (by lia)]
theorem qe4 {c:FT}{t:FS} (P:Nat->En->Hh->Prop) (R:En->Hh->Prop)
  (hs:∀ m e h,P m e h->(∃ h1,c e h=.ok false h1/\R e h1)\/∃ h1 e2 h2 m',c e h=.ok true h1/\t e h1=.nx e2 h2/\P m' e2 h2/\m' < m):
  ∀ (n m:Nat) (e:En) (h:Hh),P m e h->m < n->∃ e' h',qb7 c t n e h=.nx e' h'/\R e' h'
 | 0,_,_,_,_,q=>absurd q (Nat.not_lt_zero _)
 | n+1,m,e,h,p,q=>by
  rcases hs m e h p with⟨h1,q1,r⟩ | ⟨h1,e2,h2,m',q1,q2,p2,lt⟩
  ·exact⟨e,h1,by unfold qb7; rw [q1]; rfl,r⟩
  ·obtain⟨e',h',q3,r⟩:=qe4 P R hs n m' e2 h2 p2 (by lia)
   refine⟨e',h',?_,r⟩
   unfold qb7
   rw [q1,Res.out_ok,if_pos rfl,q2]
   exact q3
structure FmW (x:Int) (w:Nat) (f:Fm):Prop where
 ok:f.ok
 p:f.p=qaf f.cs x
 no:atC f.cs f.p x=false
 cw:f.cs.length<=w
 bw:f.bs.length=f.cs.length+1
noncomputable def wayD (z:Nat×Nat):D:=.tup [.lst z.1,.int z.2]
noncomputable def ways (fs:List Fm) (kb:HT) (tb:T) (x:Int):List (Nat×Nat):=fs.reverse.map (fun f=>(f.q,f.p))++[(kb.q,qaf tb.cs x)]
structure St (x:Int) (least w j:Nat) (k:HT) (t:T) (fs:List Fm) (kb:HT) (tb:T) (jb ownb:Nat):Prop where
 pk:qaV fs kb=k
 pt:qbz fs tb=t
 fm:∀ f∈fs,FmW x w f
 lv:j=jb+fs.length
 v:T.V least w ownb jb tb
 s:Srt tb.flat
theorem St.oks {x:Int}{least w j jb ownb:Nat}{k kb:HT}{t tb:T}{fs:List Fm} (S:St x least w j k t fs kb tb jb ownb):∀ f∈fs,f.ok:=fun f hf=>(S.fm f hf).ok
theorem St.at {h:Hh}{x:Int}{least w j jb ownb:Nat}{k kb:HT}{t tb:T}{fs:List Fm} (S:St x least w j k t fs kb tb jb ownb) (r:At h k t):At h kb tb:=by
 rw [<-S.pk,<-S.pt] at r
 exact qgC S.oks r
theorem qc2 {e:En}{h:Hh}{y:Nat}{fs:List Fm}{kb:HT}{tb:T}{x:Int}{i:Nat} (ey:e[i]?=some (some (.lst y))) (hy:h[y]?=some (.lst ((ways fs kb tb x).map wayD))):f2 oIx (fV i) (f1 oNeg (fC (.int 1))) e h=.ok (.tup [.lst kb.q,.int (qaf tb.cs x)]) h:=by
 rw [qap (qbc ey h) (y:=.int (-1)) (h2:=h) rfl,qaB hy,qgR]
 unfold ways
 simp [wayD]
theorem St.down {h:Hh}{x:Int}{least w j jb ownb:Nat}{k kb:HT}{t tb:T}{fs:List Fm} (S:St x least w j k t fs kb tb jb ownb) (r:At h kb tb) (hb:tb.bs≠[]) (ha:atC tb.cs (qaf tb.cs x) x=false):
  ∃ k2 t2 jb2,kb.ks[qaf tb.cs x]?=some k2/\tb.bs[qaf tb.cs x]?=some t2/\jb=jb2+1/\St x least w j k t (⟨kb.q,kb.a,kb.b,tb.cs,qaf tb.cs x,kb.ks,tb.bs⟩::fs) k2 t2 jb2 least:=by
 obtain⟨i1,i2,i3,i4,i5,i6⟩:=r.inv
 have v:=S.v
 have ple:=qb4 tb.cs x
 match jb,v,S with
 | 0,v,_=>exact v.elim
 | 1,v,_=>exact absurd v.leaf hb
 | jb+2,v,S=>
  obtain⟨bl,bv⟩:=v.kids (by lia)
  have hlt:qaf tb.cs x < tb.bs.length:=by lia
  have hlk:qaf tb.cs x < kb.ks.length:=by lia
  refine⟨kb.ks[qaf tb.cs x],tb.bs[qaf tb.cs x],jb+1,zA hlk,zA hlt,rfl,⟨?_,?_,?_,?_,bv _ (List.getElem_mem hlt),?_⟩⟩
  ·show qaV fs (Fm.k _ _)=k
   rw [<-S.pk]
   congr 1
   unfold Fm.k
   dsimp only
   rw [List.set_getElem_self]
   exact i6.symm
  ·show qbz fs (Fm.t _ _)=t
   rw [<-S.pt]
   congr 1
   unfold Fm.t
   dsimp only
   rw [List.set_getElem_self,T.eta]
  ·intro f hf
   rcases zG.mp hf with rfl | z
   ·exact⟨⟨hlk,i4⟩,rfl,ha,v.hi,bl⟩
   ·exact S.fm f z
  ·have:=S.lv
   rw [zO]
   lia
  ·have:=S.s
   rw [<-T.eta tb] at this
   exact qdl this (List.getElem_mem hlt)
theorem qfj {least w:Nat} (hw:w<=900) {x:Int}{own j:Nat}{k:HT}{t:T}{h:Hh} (hj:j<=1000) (v:T.V least w own j t) (so:Srt t.flat) (r:At h k t):
  ∃ y h' fs kb tb jb ownb,qae 4 (qao (qae 2 qan) (qae 3 qak)) [.lst k.q,.int x] h=some (.lst y,h')/\Grow h h'/\h.length<=y/\h'[y]?=some (.lst ((ways fs kb tb x).map wayD))/\St x least w j k t fs kb tb jb ownb/\(tb.bs=[]\/atC tb.cs (qaf tb.cs x) x=true):=by
 have hi:∀ {fs kb tb jb ownb},St x least w j k t fs kb tb jb ownb->tb.cs.length<=900:=fun {fs kb tb jb ownb} S=>by
  have v:=S.v
  match jb,v with
  | 0,v=>exact v.elim
  | jb+1,v=>have:=v.hi; lia
 have S0:St x least w j k t [] k t j own:=⟨rfl,rfl,fun _ z=>(nomatch z),rfl,v,so⟩
 obtain⟨o1,q1⟩:=qih r (qmk so) (by have:=hi S0; lia) x
 have s1:fLst [(fTup [(fV 0),(fc (qae 2 qan) (fAll [(fV 0),(fV 1)]))])] (qaM 4 [.lst k.q,.int x]) h=.ok (.lst (h++[o1]).length) ((h++[o1])++[.lst [wayD (k.q,qaf t.cs x)]]):=by
  have:fTup [(fV 0),(fc (qae 2 qan) (fAll [(fV 0),(fV 1)]))] (qaM 4 [.lst k.q,.int x]) h=.ok (wayD (k.q,qaf t.cs x)) (h++[o1]):=by
   unfold fTup
   rw [qb3 (d:=.lst k.q) (h1:=h) rfl (by rw [qaK (ds:=[.lst k.q,.int x]) (h1:=h) rfl,q1]; rfl)]
   rfl
  unfold fLst
  rw [qbg this]
  rfl
 have g1:Grow h ((h++[o1])++[.lst [wayD (k.q,qaf t.cs x)]]):=(Grow.app _ _).app1 _
 have a1:((h++[o1])++[O.lst [wayD (k.q,qaf t.cs x)]])[(h++[o1]).length]?=some (.lst ((ways [] k t x).map wayD)):=qbu _ _
 have ly:h.length<=(h++[o1]).length:=by simp
 generalize (h++[o1])++[O.lst [wayD (k.q,qaf t.cs x)]]=h1 at s1 g1 a1
 generalize (h++[o1]).length=y at s1 a1 ly
 unfold qao
 obtain⟨e2,h2,q2,fs,kb,tb,jb,ownb,z3,rfl,g2,a2,S,fin⟩:=qe4
  (c:=fAnd (fB (f2 oNe (f2 oIx (f2 oIx (f2 oIx (fV 2) (f1 oNeg (fC (.int 1)))) (fC (.int 0))) (fC (.int 1))) (fLst []))) (fNot (fB (fc (qae 3 qak) (fAll [(f2 oIx (fV 2) (f1 oNeg (fC (.int 1)))),(fV 1)])))))
  (t:=fSeq (fSet 3 (f2 oIx (f2 oIx (f2 oIx (f2 oIx (fV 2) (f1 oNeg (fC (.int 1)))) (fC (.int 0))) (fC (.int 1))) (f2 oIx (f2 oIx (fV 2) (f1 oNeg (fC (.int 1)))) (fC (.int 1))))) (qaU (fM qa0 (fV 2) [(fTup [(fV 3),(fc (qae 2 qan) (fAll [(fV 3),(fV 1)]))])])))
  (P:=fun m e hh=>∃ fs kb tb jb ownb z3,e=[some (.lst k.q),some (.int x),some (.lst y),z3]/\Grow h hh/\hh[y]?=some (.lst ((ways fs kb tb x).map wayD))/\St x least w j k t fs kb tb jb ownb/\m=jb)
  (R:=fun e hh=>∃ fs kb tb jb ownb z3,e=[some (.lst k.q),some (.int x),some (.lst y),z3]/\Grow h hh/\hh[y]?=some (.lst ((ways fs kb tb x).map wayD))/\St x least w j k t fs kb tb jb ownb/\(tb.bs=[]\/atC tb.cs (qaf tb.cs x) x=true))
  (by
   rintro m e hh ⟨fs,kb,tb,jb,ownb,z3,rfl,g,a,S,hm⟩
   have rk:=S.at (r.grow g)
   obtain⟨i1,i2,i3,i4,i5,i6⟩:=rk.inv
   have wl:=fun z=>qc2 (e:=[some (.lst k.q),some (.int x),some (.lst y),z]) (i:=2) rfl a
   have n1:f2 oIx (f2 oIx (f2 oIx (fV 2) (f1 oNeg (fC (.int 1)))) (fC (.int 0))) (fC (.int 1)) [some (.lst k.q),some (.int x),some (.lst y),z3] hh=.ok (.lst kb.b) hh:=by
    rw [qap (x:=.lst kb.q) (h1:=hh) (by rw [qap (wl z3) (qaP _ _ _)]; rfl) (y:=.int ((1:Nat):Int)) (h2:=hh) rfl,qaB i1]
    rfl
   have c1:fB (f2 oNe (f2 oIx (f2 oIx (f2 oIx (fV 2) (f1 oNeg (fC (.int 1)))) (fC (.int 0))) (fC (.int 1))) (fLst [])) [some (.lst k.q),some (.int x),some (.lst y),z3] hh=.ok (!(kb.ks.map fun k=>D.lst k.q).isEmpty) (hh++[.lst []]):=by
    refine qa5 ?_
    rw [qap n1 (y:=.lst hh.length) (h2:=hh++[.lst []]) rfl,qfU ((Grow.app _ _).at' i3) (qbu _ _)]
    rfl
   have g':Grow h (hh++[.lst []]):=g.app1 _
   have a':=(Grow.app hh [.lst []]).at' a
   have rk':=rk.grow (Grow.app hh [.lst []])
   have fn1:f2 oIx (f2 oIx (f2 oIx (fV 2) (f1 oNeg (fC (.int 1)))) (fC (.int 0))) (fC (.int 1)) [some (.lst k.q),some (.int x),some (.lst y),z3] (hh++[.lst []])=.ok (.lst kb.b) (hh++[.lst []]):=by
    rw [qap (x:=.lst kb.q) (h1:=hh++[.lst []]) (by rw [qap (qc2 (e:=[some (.lst k.q),some (.int x),some (.lst y),z3]) (i:=2) rfl a') (qaP _ _ _)]; rfl) (y:=.int ((1:Nat):Int)) (h2:=hh++[.lst []]) rfl,qaB ((Grow.app _ _).at' i1)]
    rfl
   cases hks:kb.ks with
   | nil=>
    left
    refine⟨hh++[.lst []],andF (by rw [c1,hks]; rfl),fs,kb,tb,jb,ownb,z3,rfl,g',a',S,.inl ?_⟩
    rw [hks] at i4
    exact xP.mp i4.symm
   | cons k0 kr=>
    have hbs:tb.bs≠[]:=fun z=>by rw [hks,z] at i4; simp at i4
    have c2:fB (fc (qae 3 qak) (fAll [(f2 oIx (fV 2) (f1 oNeg (fC (.int 1)))),(fV 1)])) [some (.lst k.q),some (.int x),some (.lst y),z3] (hh++[.lst []])=.ok (atC tb.cs (qaf tb.cs x) x) (hh++[.lst []]):=by
     refine qa5 ?_
     rw [qaK (qb3 (qc2 (e:=[some (.lst k.q),some (.int x),some (.lst y),z3]) (i:=2) rfl a') (d2:=.int x) (h2:=hh++[.lst []]) rfl),qea rk']
     rfl
    cases ha:atC tb.cs (qaf tb.cs x) x with
    | true=>
     left
     exact⟨hh++[.lst []],andT (by rw [c1,hks]; rfl) (notB (b:=true) (by rw [c2,ha])),fs,kb,tb,jb,ownb,z3,rfl,g',a',S,.inr ha⟩
    | false=>
     right
     obtain⟨k2,t2,jb2,ek,et,ej,S2⟩:=S.down rk' hbs ha
     have rk2:=S2.at (r.grow g')
     obtain⟨o2,q3⟩:=qih rk2 (qmk S2.s) (by have:=hi S2; lia) x
     refine⟨hh++[.lst []],[some (.lst k.q),some (.int x),some (.lst y),some (.lst k2.q)],((hh++[O.lst []])++[o2]).set y (O.lst ((ways fs kb tb x).map wayD++[wayD (k2.q,qaf t2.cs x)])),jb2,andT (by rw [c1,hks]; rfl) (notB (b:=false) (by rw [c2,ha])),?_,⟨_,k2,t2,jb2,least,_,rfl,?_,?_,S2,rfl⟩,by lia⟩
     ·rw [qag (e1:=[some (.lst k.q),some (.int x),some (.lst y),some (.lst k2.q)]) (h1:=hh++[.lst []]) (qaq (by
       rw [qap fn1 (y:=.int (qaf tb.cs x)) (h2:=hh++[.lst []]) (by rw [qap (qc2 (e:=[some (.lst k.q),some (.int x),some (.lst y),z3]) (i:=2) rfl a') (qaP _ _ _)]; rfl),qaB ((Grow.app _ _).at' i3),qaS,zE,ek]
       rfl))]
      refine qd5 (f:=fV 2) (e:=[some (.lst k.q),some (.int x),some (.lst y),some (.lst k2.q)]) (d:=wayD (k2.q,qaf t2.cs x)) (h2:=(hh++[.lst []])++[o2]) rfl a' ?_ ((Grow.app _ _).at' a') ?_
      ·unfold fTup
       rw [qb3 (d:=.lst k2.q) (h1:=hh++[.lst []]) rfl (by rw [qaK (ds:=[.lst k2.q,.int x]) (h1:=hh++[.lst []]) rfl,q3]; rfl)]
       rfl
      ·rw [zC]
       unfold ways
       have:=S.lv
       simp
       lia
     ·exact (g'.app1 _).set ly _
     ·rw [qce (o':=.lst ((ways fs kb tb x).map wayD)) ((Grow.app (hh++[O.lst []]) [o2]).at' a')]
      congr 2
      unfold ways
      simp) 2000 j [some (.lst k.q),some (.int x),some (.lst y),none] h1 ⟨[],k,t,j,own,none,rfl,g1,a1,S0,rfl⟩ (by lia)
 refine⟨y,h2,fs,kb,tb,jb,ownb,qaD ?_,g2,ly,a2,S,fin⟩
 rw [qag (e1:=[some (.lst k.q),some (.int x),some (.lst y),none]) (h1:=h1) (qaq s1)]
 rw [qag q2]
 exact qaO rfl
theorem qgA {xs:List D}{p:Nat} (d:D) (h:p<=xs.length):insV xs (p:Int) d=xs.take p++d::xs.drop p:=by
 unfold insV
 rw [if_neg (by lia),Int.toNat_natCast,Nat.min_eq_left h]
theorem qh9 {i j:Nat}{f:FE}{e:En}{h h1:Hh}{d d1 d2:D} (q:f e h=.ok d h1) (s:qdn d h1=some [d1,d2]):fUnp [i,j] f e h=.nx ((e.set i (some d1)).set j (some d2)) h1:=by
 unfold fUnp
 rw [q,Res.out_ok,s]
 rfl
theorem qmO {h:Hh}{n:Nat}{xs:List D} (e:h[n]?=some (.lst xs)):qdn (.lst n) h=some xs:=by
 unfold qdn
 dsimp only
 exact qaH e
theorem qkI {chk:Hh->Prop}{i:Nat}{t:FS} (P:Nat->En->Hh->Prop) (Rr:D->Hh->Prop):∀ (items:List D) (k:Nat) (e:En) (h:Hh),P k e h->(∀ h,chk h)->
  (∀ (j:Nat) d e h,items[j]?=some d->P (k+j) e h->(∃ e' h',t (e.set i (some d)) h=.nx e' h'/\P (k+j+1) e' h')\/∃ d' h',t (e.set i (some d)) h=.rt d' h'/\Rr d' h')->
  (∃ e' h',forG chk i t items e h=.nx e' h'/\P (k+items.length) e' h')\/∃ d' h',forG chk i t items e h=.rt d' h'/\Rr d' h'
 | [],k,e,h,p,hc,_=>.inl ⟨e,h,by unfold forG; rw [if_pos (hc h)],p⟩
 | d::r,k,e,h,p,hc,ht=>by
  rcases ht 0 d e h (by simp) p with⟨e1,h1,q1,p1⟩ | ⟨d',h',q,rr⟩
  ·rcases qkI P Rr r (k+1) e1 h1 p1 hc (fun j d' e' h' hj p'=>by
    rcases ht (j+1) d' e' h' (by simpa using hj) (by rw [show k+(j+1)=k+1+j by lia]; exact p') with⟨e3,h3,q3,p3⟩ | z
    ·exact .inl ⟨e3,h3,q3,by rw [show k+1+j+1=k+(j+1)+1 by lia]; exact p3⟩
    ·exact .inr z) with⟨e2,h2,q2,p2⟩ | ⟨d',h',q,rr⟩
   ·refine .inl ⟨e2,h2,?_,by rw [zO,show k+(r.length+1)=k+1+r.length by lia]; exact p2⟩
    unfold forG
    rw [if_pos (hc h),q1]
    exact q2
   ·refine .inr ⟨d',h',?_,rr⟩
    unfold forG
    rw [if_pos (hc h),q1]
    exact q
  ·refine .inr ⟨d',h',?_,rr⟩
   unfold forG
   rw [if_pos (hc h),q]
noncomputable def qb2 (n w:Nat) (k:HT):HT×HT:=(.node (n+2) n (n+1) (k.ks.take (w / 2+1)),.node (n+5) (n+3) (n+4) (k.ks.drop (w / 2+1)))
noncomputable def qbx (h:Hh) (w:Nat) (k:HT) (u:T):Hh:=h++[.lst ((u.cs.take (w / 2)).map qah),.lst ((k.ks.take (w / 2+1)).map fun k=>D.lst k.q),.lst [.lst h.length,.lst (h.length+1)],
 .lst ((u.cs.drop (w / 2+1)).map qah),.lst ((k.ks.drop (w / 2+1)).map fun k=>D.lst k.q),.lst [.lst (h.length+3),.lst (h.length+4)]]
theorem qkF {h:Hh}{w:Nat}{k:HT}{u:T} (r:At h k u):At (qbx h w k u) (qb2 h.length w k).1 (qbR w u)/\At (qbx h w k u) (qb2 h.length w k).2 (qbQ w u):=by
 obtain⟨i1,i2,i3,i4,i5,i6⟩:=r.inv
 have g:Grow h (qbx h w k u):=.app _ _
 have ix:∀ n,(qbx h w k u)[h.length+n]?=([O.lst ((u.cs.take (w / 2)).map qah),.lst ((k.ks.take (w / 2+1)).map fun k=>D.lst k.q),.lst [.lst h.length,.lst (h.length+1)],.lst ((u.cs.drop (w / 2+1)).map qah),.lst ((k.ks.drop (w / 2+1)).map fun k=>D.lst k.q),.lst [.lst (h.length+3),.lst (h.length+4)]]:Hh)[n]?:=fun n=>by
  unfold qbx
  rw [yI (by lia)]
  congr 1
  lia
 refine⟨.mk (ix 2) (ix 0) (ix 1) (by rw [zM,zM,i4]) fun i k' t' e1 e2=>?_,.mk (ix 5) (ix 3) (ix 4) (by rw [zQ,zQ,i4]) fun i k' t' e1 e2=>?_⟩
 ·rw [List.getElem?_take] at e1 e2
  split at e1
  ·rename_i hi
   rw [if_pos hi] at e2
   exact (i5 i k' t' e1 e2).grow g
  ·cases e1
 ·rw [xU] at e1 e2
  exact (i5 _ k' t' e1 e2).grow g
theorem qiw {n w:Nat}{k:HT} (hk:k=.node k.q k.a k.b k.ks) (nd:k.all.Nodup) (hlt:∀ x∈k.all,x < n):((qb2 n w k).1.all++(qb2 n w k).2.all).Nodup/\∀ x∈(qb2 n w k).1.all++(qb2 n w k).2.all,x∈k.all\/n<=x:=by
 rw [hk,qaF] at nd hlt
 have sp:HT.allL (k.ks.take (w / 2+1))++HT.allL (k.ks.drop (w / 2+1))=HT.allL k.ks:=by rw [<-qbG,yU]
 have ndl:(HT.allL k.ks).Nodup:=(xA.mp (xA.mp (xA.mp nd).2).2).2
 have l1:∀ x∈HT.allL (k.ks.take (w / 2+1)),x < n:=fun x hx=>hlt x (by
   have:x∈HT.allL k.ks:=by rw [<-sp]; exact zX _ hx
   simp [this])
 have l2:∀ x∈HT.allL (k.ks.drop (w / 2+1)),x < n:=fun x hx=>hlt x (by
   have:x∈HT.allL k.ks:=by rw [<-sp]; exact zN _ hx
   simp [this])
 rw [<-sp,yR] at ndl
 obtain⟨n1,n2,n3⟩:=ndl
 unfold qb2
 rw [qaF,qaF]
 refine⟨?_,fun x hx=>?_⟩
 ·rw [yR]
  refine⟨?_,?_,fun a ha b hb e=>?_⟩
  ·simp only [xA,zG,not_or]
   exact⟨⟨by lia,by lia,fun z=>by have:=l1 _ z; lia⟩,⟨by lia,fun z=>by have:=l1 _ z; lia⟩,fun z=>by have:=l1 _ z; lia,n1⟩
  ·simp only [xA,zG,not_or]
   exact⟨⟨by lia,by lia,fun z=>by have:=l2 _ z; lia⟩,⟨by lia,fun z=>by have:=l2 _ z; lia⟩,fun z=>by have:=l2 _ z; lia,n2⟩
  ·subst e
   simp only [zG] at ha hb
   rcases ha with ha | ha | ha | ha<;>rcases hb with hb | hb | hb | hb
   all_goals first | lia | (have:=l1 _ ha; lia) | (have:=l2 _ hb; lia) | exact n3 _ ha _ hb rfl
 ·rw [hk,qaF]
  simp only [zP,zG] at hx |-
  rw [<-sp]
  simp only [zP]
  rcases hx with (hx | hx | hx | hx) | (hx | hx | hx | hx)
  ·exact .inr (by lia)
  ·exact .inr (by lia)
  ·exact .inr (by lia)
  ·simp [hx]
  ·exact .inr (by lia)
  ·exact .inr (by lia)
  ·exact .inr (by lia)
  ·simp [hx]
theorem qm8 {h:Hh}{w:Nat}{f:Fm}{k:HT}{u:T} (fo:f.ok) (r:At h (f.k k) (f.t u)) (nd:(f.k k).all.Nodup) (hu:¬ u.cs.length<=w):
  ∃ h' k',h'=((qbx h w k u).set f.a (.lst ((f.cs.take f.p++[midC w u]++f.cs.drop f.p).map qah))).set f.b (.lst ((f.ks.take f.p++[(qb2 h.length w k).1,(qb2 h.length w k).2]++f.ks.drop (f.p+1)).map fun k=>D.lst k.q))/\k'.q=f.q/\At h' k' (wupT w f.cs f.bs f.p u)/\k'.all.Nodup/\(∀ x∈k'.all,x∈(f.k k).all\/h.length<=x)/\∀ x,x < h.length->x∉(f.k k).all->h'[x]?=h[x]?:=by
 obtain⟨o1,o2⟩:=fo
 obtain⟨y1,y2,y3,y4,y5,_⟩:=r.inv
 have rk:At h k u:=y5 f.p k u (zI o1) (zI (by lia))
 have lt:=r.lt
 obtain⟨hL,hR⟩:=qkF (w:=w) rk
 have g:Grow h (qbx h w k u):=.app _ _
 have ndP:=nd
 unfold Fm.k at ndP lt
 rw [qaF,qcu k o1] at ndP lt
 have ndP':([f.q,f.a,f.b]++HT.allL (f.ks.take f.p)++(k.all++HT.allL (f.ks.drop (f.p+1)))).Nodup:=by simpa using ndP
 have lt':∀ x∈[f.q,f.a,f.b]++HT.allL (f.ks.take f.p)++(k.all++HT.allL (f.ks.drop (f.p+1))),x < h.length:=fun x m=>lt x (by simpa using m)
 have hkk:=rk.inv.2.2.2.2.2
 have ndk:k.all.Nodup:=(yR.mp (yR.mp ndP').2.1).1
 obtain⟨ndY,subY⟩:=qiw (n:=h.length) (w:=w) hkk ndk fun x m=>lt' x (zN _ (zX _ m))
 have ne1:f.q≠f.a/\f.q≠f.b/\f.a≠f.b:=by
  simp only [xA,zG,not_or] at ndP
  exact⟨ndP.1.1,ndP.1.2.1,ndP.2.1.1⟩
 have ltq:f.q < h.length:=lt' _ (by simp)
 have lta:f.a < h.length:=lt' _ (by simp)
 have ltb:f.b < h.length:=lt' _ (by simp)
 have nab:∀ x∈HT.allL (f.ks.take f.p)++(k.all++HT.allL (f.ks.drop (f.p+1))),x≠f.a/\x≠f.b:=fun x m=>by
  have q:=yR.mp (show ([f.q,f.a,f.b]++(HT.allL (f.ks.take f.p)++(k.all++HT.allL (f.ks.drop (f.p+1))))).Nodup by simpa using ndP)
  exact⟨fun z=>q.2.2 f.a (by simp) x m z.symm,fun z=>q.2.2 f.b (by simp) x m z.symm⟩
 refine⟨_,.node f.q f.a f.b (f.ks.take f.p++[(qb2 h.length w k).1,(qb2 h.length w k).2]++f.ks.drop (f.p+1)),rfl,rfl,?_,?_,?_,?_⟩
 ·unfold wupT
  rw [if_neg hu]
  have hq':(((qbx h w k u).set f.a (.lst ((f.cs.take f.p++[midC w u]++f.cs.drop f.p).map qah))).set f.b (.lst ((f.ks.take f.p++[(qb2 h.length w k).1,(qb2 h.length w k).2]++f.ks.drop (f.p+1)).map fun k=>D.lst k.q)))[f.q]?=some (.lst [.lst f.a,.lst f.b]):=by
   rw [zF (Ne.symm ne1.2.1),zF (Ne.symm ne1.1)]
   exact g.at' y1
  have ha':(((qbx h w k u).set f.a (.lst ((f.cs.take f.p++[midC w u]++f.cs.drop f.p).map qah))).set f.b (.lst ((f.ks.take f.p++[(qb2 h.length w k).1,(qb2 h.length w k).2]++f.ks.drop (f.p+1)).map fun k=>D.lst k.q)))[f.a]?=some (.lst ((f.cs.take f.p++[midC w u]++f.cs.drop f.p).map qah)):=by
   rw [zF (Ne.symm ne1.2.2)]
   exact qce (g.at' y2)
  have hb':(((qbx h w k u).set f.a (.lst ((f.cs.take f.p++[midC w u]++f.cs.drop f.p).map qah))).set f.b (.lst ((f.ks.take f.p++[(qb2 h.length w k).1,(qb2 h.length w k).2]++f.ks.drop (f.p+1)).map fun k=>D.lst k.q)))[f.b]?=some (.lst ((f.ks.take f.p++[(qb2 h.length w k).1,(qb2 h.length w k).2]++f.ks.drop (f.p+1)).map fun k=>D.lst k.q)):=
   qce (o':=.lst ((f.ks.set f.p k).map fun k=>D.lst k.q)) (by rw [zF ne1.2.2]; exact g.at' y3)
  refine .mk hq' ha' hb' (by rw [qaW (by lia) (by lia),qaW (by lia) (by lia)]; simp; lia) fun i kk tt e1 e2=>?_
  have fr:∀ {kk:HT}{tt:T},At (qbx h w k u) kk tt->(∀ x∈kk.all,x≠f.a/\x≠f.b)->At (((qbx h w k u).set f.a (.lst ((f.cs.take f.p++[midC w u]++f.cs.drop f.p).map qah))).set f.b (.lst ((f.ks.take f.p++[(qb2 h.length w k).1,(qb2 h.length w k).2]++f.ks.drop (f.p+1)).map fun k=>D.lst k.q))) kk tt:=fun {kk tt} z hx=>z.frame fun x m=>by
   rw [zF (Ne.symm (hx x m).2),zF (Ne.symm (hx x m).1)]
  have newY:∀ x∈(qb2 h.length w k).1.all++(qb2 h.length w k).2.all,x≠f.a/\x≠f.b:=fun x m=>by
   rcases subY x m with z | z
   ·exact nab x (zN _ (zX _ z))
   ·exact⟨by lia,by lia⟩
  have lkt:(f.ks.take f.p).length=f.p:=by rw [zM]; lia
  have lbt:(f.bs.take f.p).length=f.p:=by rw [zM]; lia
  rw [yT] at e1 e2
  by_cases h1:i < f.p
  ·rw [zK (by lia),xF h1] at e1
   rw [zK (by lia),xF h1] at e2
   refine fr ((y5 i kk tt ?_ ?_).grow g) fun x m=>nab x (zX _ ((qbq (yL.mpr ⟨i,by rw [xF h1]; exact e1⟩)).subset m))
   ·show (f.ks.set f.p k)[i]?=_
    rw [zF (by lia)]; exact e1
   ·show (f.bs.set f.p u)[i]?=_
    rw [zF (by lia)]; exact e2
  ·rw [yI (by lia),lkt] at e1
   rw [yI (by lia),lbt] at e2
   obtain⟨m,rfl⟩:∃ m,i=f.p+m:=⟨i - f.p,by lia⟩
   rw [show f.p+m - f.p=m by lia] at e1 e2
   match m,e1,e2 with
   | 0,e1,e2=>
    cases e1
    cases e2
    exact fr hL fun x m=>newY x (zX _ m)
   | 1,e1,e2=>
    cases e1
    cases e2
    exact fr hR fun x m=>newY x (zN _ m)
   | m+2,e1,e2=>
    have e1':f.ks[f.p+1+m]?=some kk:=by simpa [xU] using e1
    have e2':f.bs[f.p+1+m]?=some tt:=by simpa [xU] using e2
    refine fr ((y5 (f.p+1+m) kk tt ?_ ?_).grow g) fun x z=>nab x (zN _ (zN _ ((qbq (yL.mpr ⟨m,by rw [xU]; exact e1'⟩)).subset z)))
    ·show (f.ks.set f.p k)[f.p+1+m]?=_
     rw [zF (by lia)]; exact e1'
    ·show (f.bs.set f.p u)[f.p+1+m]?=_
     rw [zF (by lia)]; exact e2'
 ·have:=qfT (n:=h.length) ndP' ndY subY (fun x m=>lt' x (zX _ m)) fun x m=>lt' x (zN _ (zN _ m))
  rw [qaF,qbG,qbG]
  simpa [HT.allL] using this
 ·intro x hx
  rw [qaF,qbG,qbG] at hx
  unfold Fm.k
  rw [qaF,qcu k o1]
  simp only [zG,zP,HT.allL,yD,or_false] at hx |-
  rcases hx with hx | hx | hx | (hx | hx | hx) | hx
  ·simp [hx]
  ·simp [hx]
  ·simp [hx]
  ·simp [hx]
  ·rcases subY x (zX _ hx) with z | z
   ·simp [z]
   ·exact .inr z
  ·rcases subY x (zN _ hx) with z | z
   ·simp [z]
   ·exact .inr z
  ·simp [hx]
 ·intro x hx nx
  have na:x≠f.a:=fun z=>nx (by unfold Fm.k; rw [qaF,z]; simp)
  have nb:x≠f.b:=fun z=>nx (by unfold Fm.k; rw [qaF,z]; simp)
  rw [zF (Ne.symm nb),zF (Ne.symm na)]
  unfold qbx
  exact zK hx
noncomputable def upT (w:Nat):List Fm->T->T
 | [],u=>u
 | f::r,u=>upT w r (wupT w f.cs f.bs f.p u)
theorem qmF {w p:Nat}{cs:List Card}{bs:List T} (b u:T):wupT w cs (bs.set p b) p u=wupT w cs bs p u:=by
 have h1:(bs.set p b).take p=bs.take p:=by rw [List.take_set_of_le (zS _)]
 have h2:(bs.set p b).drop (p+1)=bs.drop (p+1):=by rw [List.drop_set_of_lt (Nat.lt_succ_self _)]
 unfold wupT
 rw [h1,h2]
theorem qgv {w:Nat}{x:Int}{s:Str}{n:Nat}{cs:List Card}{bs:List T}:layT w x s (n+1) (.node cs bs)=if atC cs (qaf cs x) x=true then .node (cs.take (qaf cs x)++[(x,s)]++cs.drop (qaf cs x+1)) bs else
  match bs[qaf cs x]? with
  | none=>.node (cs.take (qaf cs x)++[(x,s)]++cs.drop (qaf cs x)) bs
  | some b=>wupT w cs bs (qaf cs x) (layT w x s n b):=rfl
theorem qms {w:Nat}{x:Int}{s:Str}:∀ (fs:List Fm) (jb:Nat) (tb:T),(∀ f∈fs,FmW x w f)->layT w x s (jb+fs.length) (qbz fs tb)=upT w fs (layT w x s jb tb)
 | [],jb,tb,_=>rfl
 | f::r,jb,tb,hf=>by
  have F:=hf f zV
  have ih:=qms (s:=s) r (jb+1) (f.t tb) fun g hg=>hf g (zR _ hg)
  rw [show jb+(f::r).length=jb+1+r.length by rw [zO]; lia]
  show layT w x s (jb+1+r.length) (qbz r (f.t tb))=upT w r (wupT w f.cs f.bs f.p (layT w x s jb tb))
  rw [ih]
  congr 1
  show layT w x s (jb+1) (.node f.cs (f.bs.set f.p tb))=_
  rw [qgv,<-F.p,F.no,if_neg (by decide),zI (by have:=F.ok; unfold Fm.ok at this; lia)]
  exact qmF _ _
theorem qjl {w:Nat}{f:Fm}{u:T} (fo:f.ok) (h:u.cs.length<=w):wupT w f.cs f.bs f.p u=f.t u:=by
 unfold wupT Fm.t
 rw [if_pos h,qck u (by have:=fo.1; have:=fo.2; lia)]
 simp
theorem qmg {w:Nat}:∀ (fs:List Fm) (u:T),(∀ f∈fs,f.ok/\f.cs.length<=w)->u.cs.length<=w->upT w fs u=qbz fs u/\(qbz fs u).cs.length<=w
 | [],u,_,h=>⟨rfl,h⟩
 | f::r,u,hf,h=>by
  show upT w r (wupT w f.cs f.bs f.p u)=qbz r (f.t u)/\(qbz r (f.t u)).cs.length<=w
  rw [qjl (hf f zV).1 h]
  exact qmg r (f.t u) (fun g hg=>hf g (zR _ hg)) (hf f zV).2
theorem qjm {fs:List Fm}{kb:HT}{tb:T}{x:Int}:(ways fs kb tb x)[fs.length]?=some (kb.q,qaf tb.cs x):=by
 unfold ways
 rw [yI (by simp)]
 simp
theorem qlm {fs:List Fm}{kb:HT}{tb:T}{x:Int}{i:Nat}{f:Fm} (e:fs[i]?=some f):(ways fs kb tb x)[fs.length - (i+1)]?=some (f.q,f.p):=by
 have hi:=(zB.mp e).1
 unfold ways
 rw [zK (by simp; lia),zE,List.getElem?_reverse (by lia),show fs.length - 1 - (fs.length - (i+1))=i by lia,e]
 rfl
theorem qns {fs:List FE}{e:En}{h h1:Hh}{ds:List D} (q:fAll fs e h=.ok ds h1):fLst fs e h=.ok (.lst h1.length) (h1++[.lst ds]):=by
 unfold fLst
 rw [q,Res.bind_ok]
theorem qmM {α:Type}{L:List α}{p:Nat} (b c:α) (h:p < L.length):(L.set p b).take (p+1)++c::(L.set p b).drop (p+1)=L.take p++[b,c]++L.drop (p+1):=by
 have hl:(L.take p++[b]).length=p+1:=by rw [zJ,zM,yV]; lia
 rw [qck b h,show L.take p++b::L.drop (p+1)=(L.take p++[b])++L.drop (p+1) by simp,List.take_left' hl,List.drop_left' hl]
 simp
theorem qeX (k:HT):k.a∈k.all:=by
 cases k
 rw [qaF]
 simp [HT.a]
theorem qj1:∀ (fs:List Fm) {k k':HT},k'.q=k.q->(qaV fs k').q=(qaV fs k).q
 | [],_,_,h=>h
 | f::r,k,k',_=>qj1 r (k:=f.k k) (k':=f.k k') rfl
noncomputable def pinT:FS:=
 (fSeq (fIfS (fB (f2 oEq (fV 5) (fC (.int 0)))) (fRet (fLst [(fLst [(f2 oIx (fV 6) (fV 4))]),(fLst [(fV 8),(fV 9)])])) qaC)
   (fSeq (fUnp [10,11] (f2 oIx (fV 3) (f2 oSub (fV 5) (fC (.int 1)))))
   (fSeq (qaU (fM qbr (f2 oIx (fV 10) (fC (.int 0))) [(fV 11),(f2 oIx (fV 6) (fV 4))]))
   (fSeq (qca (fV 8) (f2 oIx (fV 10) (fC (.int 1))) (fV 11))
   (qaU (fM qbr (f2 oIx (fV 10) (fC (.int 1))) [(f2 oAdd (fV 11) (fC (.int 1))),(fV 9)]))))))
noncomputable def pinB:FS:=
 fSeq (fUnp [6,7] (f2 oIx (f2 oIx (fV 3) (fV 5)) (fC (.int 0))))
   (fIfS (fB (f2 oGt (fc oLen (fAll [(fV 6)])) (fV 0))) (fSeq (fSet 8 (fLst [(fSl (fV 6) qar (qaJ (fV 4))),(fSl (fV 7) qar (qaJ (f2 oAdd (fV 4) (fC (.int 1)))))]))
   (fSeq (fSet 9 (fLst [(fSl (fV 6) (qaJ (f2 oAdd (fV 4) (fC (.int 1)))) qar),(fSl (fV 7) (qaJ (f2 oAdd (fV 4) (fC (.int 1)))) qar)]))
   pinT)) qaC)
theorem qiX {w half:Nat} (hhf:half=w / 2) (hw:w<=900) {h:Hh}{k:HT}{y:Nat}{ws:List (Nat×Nat)}{fs:List Fm}{cd:D}{U:T} (hfs:fs.length<=1000) (hf:∀ f∈fs,f.ok/\f.cs.length<=w/\f.bs.length<=w+1/\f.p<=f.cs.length)
  (hws:∀ (i:Nat) f,fs[i]?=some f->ws[fs.length - (i+1)]?=some (f.q,f.p)) (hlen:ws.length=fs.length+1) {k0:HT}{u0:T}{h0:Hh} (hq0:∃ pp,ws[fs.length]?=some (k0.q,pp)) (r0:At h0 (qaV fs k0) (qbz fs u0)) (nd0:(qaV fs k0).all.Nodup) (e0:upT w fs u0=U) (c0:u0.cs.length<=w+1)
  (y0:h0[y]?=some (.lst (ws.map wayD))) (yn:y∉(qaV fs k0).all) (tq:(qaV fs k0).q=k.q) (kp:∀ z,z < h.length->z∉k.all->z≠y->h0[z]?=h[z]?) (sb:∀ z∈(qaV fs k0).all,z∈k.all\/h.length<=z) (hl0:h.length<=h0.length):
  (∃ e' h',forG (fun _=>True) 5 pinB ((List.range (fs.length+1)).map fun (i:Nat)=>D.int (((fs.length+1:Nat):Int) - 1 - i))
   [some (.int w),some (.lst k.q),some cd,some (.lst y),some (.int half),none,none,none,none,none,none,none] h0=.nx e' h'/\e'[1]?=some (some (.lst k.q))/\∃ k',k'.q=k.q/\At h' k' (topT w U)/\k'.all.Nodup/\(∀ z,z < h.length->z∉k.all->z≠y->h'[z]?=h[z]?)/\h.length<=h'.length)\/
  ∃ k' h',forG (fun _=>True) 5 pinB ((List.range (fs.length+1)).map fun (i:Nat)=>D.int (((fs.length+1:Nat):Int) - 1 - i))
   [some (.int w),some (.lst k.q),some cd,some (.lst y),some (.int half),none,none,none,none,none,none,none] h0=.rt (.lst k'.q) h'/\At h' k' (topT w U)/\k'.all.Nodup/\(∀ z,z < h.length->z∉k.all->z≠y->h'[z]?=h[z]?)/\h.length<=h'.length:=by
 have main:=qkI (chk:=fun _=>True) (i:=5) (t:=pinB)
  (P:=fun i e hh=>∃ z5 z6 z7 z8 z9 z10 z11,e=[some (.int w),some (.lst k.q),some cd,some (.lst y),some (.int half),z5,z6,z7,z8,z9,z10,z11]/\(∀ z,z < h.length->z∉k.all->z≠y->hh[z]?=h[z]?)/\h.length<=hh.length/\
   ((i<=fs.length/\hh[y]?=some (.lst (ws.map wayD))/\∃ kc uc,(∃ pp,ws[fs.length - i]?=some (kc.q,pp))/\At hh (qaV (fs.drop i) kc) (qbz (fs.drop i) uc)/\(qaV (fs.drop i) kc).all.Nodup/\upT w (fs.drop i) uc=U/\uc.cs.length<=w+1/\y∉(qaV (fs.drop i) kc).all/\(qaV (fs.drop i) kc).q=k.q/\∀ z∈(qaV (fs.drop i) kc).all,z∈k.all\/h.length<=z)\/
   (i=fs.length+1/\∃ k',k'.q=k.q/\At hh k' (topT w U)/\k'.all.Nodup)))
  (Rr:=fun d hh=>∃ k',d=.lst k'.q/\At hh k' (topT w U)/\k'.all.Nodup/\(∀ z,z < h.length->z∉k.all->z≠y->hh[z]?=h[z]?)/\h.length<=hh.length)
  ((List.range (fs.length+1)).map fun (i:Nat)=>D.int (((fs.length+1:Nat):Int) - 1 - i)) 0 [some (.int w),some (.lst k.q),some cd,some (.lst y),some (.int half),none,none,none,none,none,none,none] h0
  ⟨none,none,none,none,none,none,none,rfl,kp,hl0,.inl ⟨xV _,y0,k0,u0,by simpa using hq0,r0,nd0,e0,c0,yn,tq,sb⟩⟩ (fun _=>trivial) (by
   rintro i d e hh hd ⟨z5,z6,z7,z8,z9,z10,z11,rfl,kp,hl,hA⟩
   rw [Nat.zero_add] at hA |-
   rw [zE] at hd
   obtain⟨i',hi',rfl⟩:=yB.mp hd
   obtain⟨lt,ei⟩:=zB.mp hi'
   rw [List.getElem_range] at ei
   have ei':=ei.symm
   subst ei'
   rw [xB] at lt
   rcases hA with⟨hi,ey,kc,uc,⟨pp,hpp⟩,r,nd,eU,cu,yn,tq,sb⟩ | ⟨hi,_⟩
   ·have cast:(((fs.length+1:Nat):Int) - 1 - (i':Nat))=((fs.length - i':Nat):Int):=by lia
    rw [cast]
    have oks:∀ f∈fs.drop i',f.ok:=fun f hf'=>(hf f (yO hf')).1
    have rc:=qgC oks r
    obtain⟨i1,i2,i3,i4,i5,i6⟩:=rc.inv
    have rd:∀ z6 z7 z8 z9 z10 z11,f2 oIx (f2 oIx (fV 3) (fV 5)) (fC (.int 0)) [some (.int w),some (.lst k.q),some cd,some (.lst y),some (.int half),some (.int ((fs.length - i':Nat):Int)),z6,z7,z8,z9,z10,z11] hh=.ok (.lst kc.q) hh:=fun _ _ _ _ _ _=>by
     rw [qap (x:=wayD (kc.q,pp)) (h1:=hh) (by rw [qap (x:=.lst y) (h1:=hh) rfl (y:=.int ((fs.length - i':Nat):Int)) (h2:=hh) rfl,qaB ey,qaS,zE,hpp]; rfl) rfl]
     rfl
    have u1:fUnp [6,7] (f2 oIx (f2 oIx (fV 3) (fV 5)) (fC (.int 0))) [some (.int w),some (.lst k.q),some cd,some (.lst y),some (.int half),some (.int ((fs.length - i':Nat):Int)),z6,z7,z8,z9,z10,z11] hh=.nx [some (.int w),some (.lst k.q),some cd,some (.lst y),some (.int half),some (.int ((fs.length - i':Nat):Int)),some (.lst kc.a),some (.lst kc.b),z8,z9,z10,z11] hh:=qh9 (rd _ _ _ _ _ _) (qmO i1)
    have t1:fB (f2 oGt (fc oLen (fAll [(fV 6)])) (fV 0)) [some (.int w),some (.lst k.q),some cd,some (.lst y),some (.int half),some (.int ((fs.length - i':Nat):Int)),some (.lst kc.a),some (.lst kc.b),z8,z9,z10,z11] hh=.ok (decide (¬ uc.cs.length<=w)) hh:=qa5 (by
     rw [qap (x:=.int uc.cs.length) (h1:=hh) (by rw [qaK (qbg (d:=.lst kc.a) (h1:=hh) rfl),qbo i2,zC]; rfl) (y:=.int w) (h2:=hh) rfl]
     show Res.ok (D.bl (decide ((w:Int) < (uc.cs.length:Int)))) hh=_
     rw [decide_eq_decide.mpr (show ((w:Int) < (uc.cs.length:Int))↔¬ uc.cs.length<=w by lia)])
    by_cases fit:uc.cs.length<=w
    ·left
     refine⟨[some (.int w),some (.lst k.q),some cd,some (.lst y),some (.int half),some (.int ((fs.length - i':Nat):Int)),some (.lst kc.a),some (.lst kc.b),z8,z9,z10,z11],hh,?_,_,_,_,_,_,_,_,rfl,kp,hl,?_⟩
     ·unfold pinB
      refine (qag u1).trans ?_
      rw [qaL (by rw [t1,decide_eq_false (by simpa using fit)])]
      rfl
     ·by_cases hlast:i'=fs.length
      ·right
       subst hlast
       rw [List.drop_length] at r nd eU tq
       refine⟨rfl,kc,tq,?_,nd⟩
       have:topT w U=uc:=by
        rw [<-eU]
        unfold topT upT
        rw [if_pos fit]
       rw [this]
       exact r
      ·left
       have hlt:i' < fs.length:=by lia
       have hd':fs.drop i'=fs[i']::fs.drop (i'+1):=yQ hlt
       rw [hd'] at r nd eU yn tq sb
       have fo:=hf fs[i'] (List.getElem_mem hlt)
       refine⟨by lia,ey,(fs[i']).k kc,(fs[i']).t uc,⟨(fs[i']).p,?_⟩,r,nd,?_,?_,yn,tq,sb⟩
       ·exact hws i' _ (zA hlt)
       ·rw [<-eU]
        show upT w (fs.drop (i'+1)) ((fs[i']).t uc)=upT w (fs.drop (i'+1)) (wupT w (fs[i']).cs (fs[i']).bs (fs[i']).p uc)
        rw [qjl fo.1 fit]
       ·show (fs[i']).cs.length<=w+1
        have:=fo.2.1
        lia
    ·
     have hmid:w / 2 < uc.cs.length:=by lia
     have kpH:∀ z,z < h.length->z∉k.all->z≠y->(qbx hh w kc uc)[z]?=h[z]?:=fun z z1 z2 z3=>by
      unfold qbx
      rw [zK (by lia)]
      exact kp z z1 z2 z3
     have lH:(qbx hh w kc uc).length=hh.length+6:=by unfold qbx; simp
     have h2eq:(half:Int)+1=((half+1:Nat):Int):=by lia
     have L8:fLst [(fSl (fV 6) qar (qaJ (fV 4))),(fSl (fV 7) qar (qaJ (f2 oAdd (fV 4) (fC (.int 1)))))] [some (.int w),some (.lst k.q),some cd,some (.lst y),some (.int half),some (.int ((fs.length - i':Nat):Int)),some (.lst kc.a),some (.lst kc.b),z8,z9,z10,z11] hh=.ok (.lst (hh.length+2)) (hh++[.lst ((uc.cs.take half).map qah),.lst ((kc.ks.take (half+1)).map fun k=>D.lst k.q),.lst [.lst hh.length,.lst (hh.length+1)]]):=by
      have a1:fSl (fV 6) qar (qaJ (fV 4)) [some (.int w),some (.lst k.q),some cd,some (.lst y),some (.int half),some (.int ((fs.length - i':Nat):Int)),some (.lst kc.a),some (.lst kc.b),z8,z9,z10,z11] hh=.ok (.lst hh.length) (hh++[.lst ((uc.cs.take half).map qah)]):=by
       show Res.ofO (oSl (.lst kc.a) none (some (half:Int)) hh)=_
       rw [qeA i2,qdf,<-yY]
       rfl
      have a2:fSl (fV 7) qar (qaJ (f2 oAdd (fV 4) (fC (.int 1)))) [some (.int w),some (.lst k.q),some cd,some (.lst y),some (.int half),some (.int ((fs.length - i':Nat):Int)),some (.lst kc.a),some (.lst kc.b),z8,z9,z10,z11] (hh++[.lst ((uc.cs.take half).map qah)])=.ok (.lst (hh.length+1)) (hh++[.lst ((uc.cs.take half).map qah)]++[.lst ((kc.ks.take (half+1)).map fun k=>D.lst k.q)]):=by
       show Res.ofO (oSl (.lst kc.b) none (some ((half:Int)+1)) (hh++[.lst ((uc.cs.take half).map qah)]))=_
       rw [qeA ((Grow.app _ _).at' i3),h2eq,qdf,<-yY,zJ]
       rfl
      unfold fLst
      rw [qb3 a1 a2]
      simp
     have L9:fLst [(fSl (fV 6) (qaJ (f2 oAdd (fV 4) (fC (.int 1)))) qar),(fSl (fV 7) (qaJ (f2 oAdd (fV 4) (fC (.int 1)))) qar)] [some (.int w),some (.lst k.q),some cd,some (.lst y),some (.int half),some (.int ((fs.length - i':Nat):Int)),some (.lst kc.a),some (.lst kc.b),some (.lst (hh.length+2)),z9,z10,z11] (hh++[.lst ((uc.cs.take half).map qah),.lst ((kc.ks.take (half+1)).map fun k=>D.lst k.q),.lst [.lst hh.length,.lst (hh.length+1)]])=.ok (.lst (hh.length+5)) (qbx hh w kc uc):=by
      have gg:Grow hh (hh++[.lst ((uc.cs.take half).map qah),.lst ((kc.ks.take (half+1)).map fun k=>D.lst k.q),.lst [.lst hh.length,.lst (hh.length+1)]]):=.app _ _
      have lg:(hh++[O.lst ((uc.cs.take half).map qah),.lst ((kc.ks.take (half+1)).map fun k=>D.lst k.q),.lst [.lst hh.length,.lst (hh.length+1)]]).length=hh.length+3:=by simp
      have hH:qbx hh w kc uc=(hh++[O.lst ((uc.cs.take half).map qah),.lst ((kc.ks.take (half+1)).map fun k=>D.lst k.q),.lst [.lst hh.length,.lst (hh.length+1)]])++[.lst ((uc.cs.drop (half+1)).map qah)]++[.lst ((kc.ks.drop (half+1)).map fun k=>D.lst k.q)]++[.lst [.lst (hh.length+3),.lst (hh.length+4)]]:=by
       unfold qbx
       rw [<-hhf]
       simp
      rw [hH]
      generalize hh++[O.lst ((uc.cs.take half).map qah),.lst ((kc.ks.take (half+1)).map fun k=>D.lst k.q),.lst [.lst hh.length,.lst (hh.length+1)]]=hg at gg lg
      have a1:fSl (fV 6) (qaJ (f2 oAdd (fV 4) (fC (.int 1)))) qar [some (.int w),some (.lst k.q),some cd,some (.lst y),some (.int half),some (.int ((fs.length - i':Nat):Int)),some (.lst kc.a),some (.lst kc.b),some (.lst (hh.length+2)),z9,z10,z11] hg=.ok (.lst (hh.length+3)) (hg++[.lst ((uc.cs.drop (half+1)).map qah)]):=by
       show Res.ofO (oSl (.lst kc.a) (some ((half:Int)+1)) none hg)=_
       rw [qeA (gg.at' i2),h2eq,qde,<-yS,lg]
       rfl
      have a2:fSl (fV 7) (qaJ (f2 oAdd (fV 4) (fC (.int 1)))) qar [some (.int w),some (.lst k.q),some cd,some (.lst y),some (.int half),some (.int ((fs.length - i':Nat):Int)),some (.lst kc.a),some (.lst kc.b),some (.lst (hh.length+2)),z9,z10,z11] (hg++[.lst ((uc.cs.drop (half+1)).map qah)])=.ok (.lst (hh.length+4)) (hg++[.lst ((uc.cs.drop (half+1)).map qah)]++[.lst ((kc.ks.drop (half+1)).map fun k=>D.lst k.q)]):=by
       show Res.ofO (oSl (.lst kc.b) (some ((half:Int)+1)) none (hg++[.lst ((uc.cs.drop (half+1)).map qah)]))=_
       rw [qeA ((Grow.app _ _).at' (gg.at' i3)),h2eq,qde,<-yS,zJ,lg]
       rfl
      unfold fLst
      rw [qb3 a1 a2]
      simp [lg]
     have gH:Grow hh (qbx hh w kc uc):=.app _ _
     have cm:∀ (e:En) (h':Hh),e[6]?=some (some (.lst kc.a))->e[4]?=some (some (.int half))->h'[kc.a]?=some (.lst (uc.cs.map qah))->f2 oIx (fV 6) (fV 4) e h'=.ok (qah (midC w uc)) h':=fun e h' e6 e4 ea=>by
      rw [qap (qbc e6 h') (qbc e4 h'),qaB ea,qaS,zE]
      unfold midC
      rw [<-hhf,yJ,zA (show half < uc.cs.length by lia)]
      rfl
     have body:∀ o,pinT [some (.int w),some (.lst k.q),some cd,some (.lst y),some (.int half),some (.int ((fs.length - i':Nat):Int)),some (.lst kc.a),some (.lst kc.b),some (.lst (hh.length+2)),some (.lst (hh.length+5)),z10,z11] (qbx hh w kc uc)=o->
       pinB [some (.int w),some (.lst k.q),some cd,some (.lst y),some (.int half),some (.int ((fs.length - i':Nat):Int)),z6,z7,z8,z9,z10,z11] hh=o:=fun o ho=>by
      unfold pinB
      refine (qag u1).trans ?_
      rw [qbb (by rw [t1,decide_eq_true (by simpa using fit)])]
      rw [qag (e1:=[some (.int w),some (.lst k.q),some cd,some (.lst y),some (.int half),some (.int ((fs.length - i':Nat):Int)),some (.lst kc.a),some (.lst kc.b),some (.lst (hh.length+2)),z9,z10,z11]) (qaq L8)]
      rw [qag (e1:=[some (.int w),some (.lst k.q),some cd,some (.lst y),some (.int half),some (.int ((fs.length - i':Nat):Int)),some (.lst kc.a),some (.lst kc.b),some (.lst (hh.length+2)),some (.lst (hh.length+5)),z10,z11]) (qaq L9)]
      exact ho
     have t5:fB (f2 oEq (fV 5) (fC (.int 0))) [some (.int w),some (.lst k.q),some cd,some (.lst y),some (.int half),some (.int ((fs.length - i':Nat):Int)),some (.lst kc.a),some (.lst kc.b),some (.lst (hh.length+2)),some (.lst (hh.length+5)),z10,z11] (qbx hh w kc uc)=.ok (((fs.length - i':Nat):Int)==0) (qbx hh w kc uc):=qa5 (by rw [qap (x:=.int ((fs.length - i':Nat):Int)) (h1:=qbx hh w kc uc) rfl (qaP _ _ _),qdx]; rfl)
     by_cases hlast:i'=fs.length
     ·
      right
      subst hlast
      rw [List.drop_length] at r nd eU tq sb
      have eU':topT w U=.node [midC w uc] [qbR w uc,qbQ w uc]:=by
       rw [<-eU]
       unfold topT upT
       rw [if_neg fit]
      obtain⟨hL,hR⟩:=qkF (w:=w) rc
      have ndk:kc.all.Nodup:=nd
      obtain⟨ndY,subY⟩:=qiw (n:=hh.length) (w:=w) i6 ndk rc.lt
      have gT:Grow (qbx hh w kc uc) (qbx hh w kc uc++[.lst [qah (midC w uc)]]++[.lst [.lst (hh.length+2),.lst (hh.length+5)]]++[.lst [.lst (hh.length+6),.lst (hh.length+7)]]):=((Grow.app _ _).app1 _).app1 _
      have ltY:∀ x∈(qb2 hh.length w kc).1.all++(qb2 hh.length w kc).2.all,x < hh.length+6:=fun x m=>by
       rw [<-lH]
       rcases zP.mp m with z | z
       ·exact hL.lt x z
       ·exact hR.lt x z
      refine⟨.lst (hh.length+8),qbx hh w kc uc++[.lst [qah (midC w uc)]]++[.lst [.lst (hh.length+2),.lst (hh.length+5)]]++[.lst [.lst (hh.length+6),.lst (hh.length+7)]],body _ ?_,.node (hh.length+8) (hh.length+6) (hh.length+7) [(qb2 hh.length w kc).1,(qb2 hh.length w kc).2],rfl,?_,?_,?_,?_⟩
      ·unfold pinT
       refine qba ?_
       rw [qbb (h1:=qbx hh w kc uc) (by rw [t5]; simp)]
       refine qaO ?_
       have b1:fLst [(f2 oIx (fV 6) (fV 4))] [some (.int w),some (.lst k.q),some cd,some (.lst y),some (.int half),some (.int ((fs.length - fs.length:Nat):Int)),some (.lst kc.a),some (.lst kc.b),some (.lst (hh.length+2)),some (.lst (hh.length+5)),z10,z11] (qbx hh w kc uc)=.ok (.lst (hh.length+6)) (qbx hh w kc uc++[.lst [qah (midC w uc)]]):=by
        unfold fLst
        rw [qbg (cm _ _ rfl rfl (gH.at' i2)),Res.bind_ok,<-lH]
       have b2:fLst [(fV 8),(fV 9)] [some (.int w),some (.lst k.q),some cd,some (.lst y),some (.int half),some (.int ((fs.length - fs.length:Nat):Int)),some (.lst kc.a),some (.lst kc.b),some (.lst (hh.length+2)),some (.lst (hh.length+5)),z10,z11] (qbx hh w kc uc++[.lst [qah (midC w uc)]])=.ok (.lst (hh.length+7)) (qbx hh w kc uc++[.lst [qah (midC w uc)]]++[.lst [.lst (hh.length+2),.lst (hh.length+5)]]):=by
        show Res.ok (D.lst (qbx hh w kc uc++[O.lst [qah (midC w uc)]]).length) _=_
        rw [zJ,lH]
        rfl
       rw [qns (qb3 b1 b2)]
       show Res.ok (D.lst (qbx hh w kc uc++[O.lst [qah (midC w uc)]]++[O.lst [.lst (hh.length+2),.lst (hh.length+5)]]).length) _=_
       rw [zJ,zJ,lH]
       rfl
      ·rw [eU']
       have l6:(qbx hh w kc uc++[O.lst [qah (midC w uc)]]++[O.lst [.lst (hh.length+2),.lst (hh.length+5)]]++[O.lst [.lst (hh.length+6),.lst (hh.length+7)]])=qbx hh w kc uc++[O.lst [qah (midC w uc)],.lst [.lst (hh.length+2),.lst (hh.length+5)],.lst [.lst (hh.length+6),.lst (hh.length+7)]]:=by simp
       have ix:∀ n,(qbx hh w kc uc++[O.lst [qah (midC w uc)]]++[O.lst [.lst (hh.length+2),.lst (hh.length+5)]]++[O.lst [.lst (hh.length+6),.lst (hh.length+7)]])[hh.length+6+n]?=([O.lst [qah (midC w uc)],.lst [.lst (hh.length+2),.lst (hh.length+5)],.lst [.lst (hh.length+6),.lst (hh.length+7)]]:Hh)[n]?:=fun n=>by
        rw [l6,yI (by lia),lH]
        congr 1
        lia
       refine .mk (ix 2) (ix 0) (ix 1) rfl fun i kk tt e1 e2=>?_
       match i,e1,e2 with
       | 0,e1,e2=>cases e1; cases e2; exact hL.grow gT
       | 1,e1,e2=>cases e1; cases e2; exact hR.grow gT
      ·rw [qaF]
       simp only [HT.allL,zW]
       simp only [xA,zG,not_or]
       exact⟨⟨by lia,by lia,fun z=>by have:=ltY _ z; lia⟩,⟨by lia,fun z=>by have:=ltY _ z; lia⟩,fun z=>by have:=ltY _ z; lia,ndY⟩
      ·intro z z1 z2 z3
       rw [<-kpH z z1 z2 z3,yT,yT,zK (by lia)]
      ·have:=gT.len
       lia
     ·
      left
      have hlt:i' < fs.length:=by lia
      have hd':fs.drop i'=fs[i']::fs.drop (i'+1):=yQ hlt
      rw [hd'] at r nd eU yn tq sb
      have fo:=hf fs[i'] (List.getElem_mem hlt)
      have oks':∀ f∈fs.drop (i'+1),f.ok:=fun f hf'=>(hf f (yO hf')).1
      have hway:=hws i' _ (zA hlt)
      generalize fs[i']=f at r nd eU yn tq sb fo hway
      obtain⟨fok,fcw,fbw,plen⟩:=fo
      obtain⟨fp1,fp2⟩:=id fok
      have rP:=qgC oks' (k:=f.k kc) (t:=f.t uc) r
      have ndP:(f.k kc).all.Nodup:=nd.sublist (qci oks' (f.k kc))
      obtain⟨h',k',eh',kq',r',nd',sub',keep'⟩:=qm8 (w:=w) fok rP ndP fit
      obtain⟨y1',y2',y3',y4,_,_⟩:=rP.inv
      have y1:hh[f.q]?=some (.lst [.lst f.a,.lst f.b]):=y1'
      have y2:hh[f.a]?=some (.lst (f.cs.map qah)):=y2'
      have y3:hh[f.b]?=some (.lst ((f.ks.set f.p kc).map fun k=>D.lst k.q)):=y3'
      have ltP:=rP.lt
      have ya:f.a < hh.length:=ltP _ (by unfold Fm.k; rw [qaF]; simp)
      have yb:f.b < hh.length:=ltP _ (by unfold Fm.k; rw [qaF]; simp)
      have nab:f.a≠f.b/\f.q≠f.a/\f.q≠f.b:=by
       unfold Fm.k at ndP
       rw [qaF] at ndP
       simp only [xA,zG,not_or] at ndP
       exact⟨ndP.2.1.1,ndP.1.1,ndP.1.2.1⟩
      have yinP:∀ z∈(f.k kc).all,z∈(qaV (fs.drop (i'+1)) (f.k kc)).all:=fun z m=>(qci oks' (f.k kc)).subset m
      have yna:y≠f.a:=fun z=>yn (yinP _ (by unfold Fm.k; rw [qaF,z]; simp))
      have ynb:y≠f.b:=fun z=>yn (yinP _ (by unfold Fm.k; rw [qaF,z]; simp))
      have ylt:y < hh.length:=(zB.mp ey).1
      have eyH:=gH.at' ey
      have y1H:=gH.at' y1
      have y2H:=gH.at' y2
      have y3H:=gH.at' y3
      have i2H:=gH.at' i2
      have kca:kc.a≠f.a/\kc.a≠f.b:=by
       have q:kc.a∈kc.all:=qeX kc
       unfold Fm.k at ndP
       rw [qaF,qcu kc fp1] at ndP
       have nn:=yR.mp (show ([f.q,f.a,f.b]++(HT.allL (f.ks.take f.p)++(kc.all++HT.allL (f.ks.drop (f.p+1))))).Nodup by simpa using ndP)
       exact⟨fun z=>nn.2.2 f.a (by simp) kc.a (zN _ (zX _ q)) z.symm,fun z=>nn.2.2 f.b (by simp) kc.a (zN _ (zX _ q)) z.symm⟩
      obtain⟨H,hHdef⟩:∃ H,H=qbx hh w kc uc:=⟨_,rfl⟩
      rw [<-hHdef] at eyH y1H y2H y3H i2H eh' t5 body lH
      have E0:∀ (z:Int),z=((fs.length - i':Nat):Int) - 1->z=((fs.length - (i'+1):Nat):Int):=fun z ez=>by lia
      have w1:f2 oIx (fV 3) (f2 oSub (fV 5) (fC (.int 1))) [some (.int w),some (.lst k.q),some cd,some (.lst y),some (.int half),some (.int ((fs.length - i':Nat):Int)),some (.lst kc.a),some (.lst kc.b),some (.lst (hh.length+2)),some (.lst (hh.length+5)),z10,z11] H=.ok (.tup [.lst f.q,.int f.p]) H:=by
       rw [qap (x:=.lst y) (h1:=H) rfl (qfb (x:=((fs.length - i':Nat):Int)) (y:=1) rfl rfl),E0 _ rfl,qaB eyH,qaS,zE,hway]
       rfl
      have u2:fUnp [10,11] (f2 oIx (fV 3) (f2 oSub (fV 5) (fC (.int 1)))) [some (.int w),some (.lst k.q),some cd,some (.lst y),some (.int half),some (.int ((fs.length - i':Nat):Int)),some (.lst kc.a),some (.lst kc.b),some (.lst (hh.length+2)),some (.lst (hh.length+5)),z10,z11] H=.nx [some (.int w),some (.lst k.q),some cd,some (.lst y),some (.int half),some (.int ((fs.length - i':Nat):Int)),some (.lst kc.a),some (.lst kc.b),some (.lst (hh.length+2)),some (.lst (hh.length+5)),some (.lst f.q),some (.int f.p)] H:=qh9 w1 rfl
      obtain⟨En,hEn⟩:∃ En:En,En=[some (.int w),some (.lst k.q),some cd,some (.lst y),some (.int half),some (.int ((fs.length - i':Nat):Int)),some (.lst kc.a),some (.lst kc.b),some (.lst (hh.length+2)),some (.lst (hh.length+5)),some (.lst f.q),some (.int f.p)]:=⟨_,rfl⟩
      have en4:En[4]?=some (some (.int half)):=by rw [hEn]; rfl
      have en6:En[6]?=some (some (.lst kc.a)):=by rw [hEn]; rfl
      have en8:En[8]?=some (some (.lst (hh.length+2))):=by rw [hEn]; rfl
      have en9:En[9]?=some (some (.lst (hh.length+5))):=by rw [hEn]; rfl
      have en10:En[10]?=some (some (.lst f.q)):=by rw [hEn]; rfl
      have en11:En[11]?=some (some (.int f.p)):=by rw [hEn]; rfl
      rw [<-hEn] at u2
      have pa:∀ h',h'[f.q]?=some (.lst [.lst f.a,.lst f.b])->f2 oIx (fV 10) (fC (.int 0)) En h'=.ok (.lst f.a) h':=fun h' e=>by
       rw [qap (qbc en10 h') (y:=.int ((0:Nat):Int)) (h2:=h') rfl,qaB e]
       rfl
      have pb:∀ h',h'[f.q]?=some (.lst [.lst f.a,.lst f.b])->f2 oIx (fV 10) (fC (.int 1)) En h'=.ok (.lst f.b) h':=fun h' e=>by
       rw [qap (qbc en10 h') (y:=.int ((1:Nat):Int)) (h2:=h') rfl,qaB e]
       rfl
      have small:∀ n:Nat,n<=100000->(-(2 ^ 63)<=(n:Int)/\(n:Int) < 2 ^ 63):=fun n hn=>⟨by lia,by lia⟩
      have lcs:(f.cs.map qah).length < sizeLine:=zY (show (f.cs.map qah).length < 1000000 by rw [zC]; lia) (by decide)
      have s1:qaU (fM qbr (f2 oIx (fV 10) (fC (.int 0))) [(fV 11),(f2 oIx (fV 6) (fV 4))]) En H=.nx En (H.set f.a (.lst ((f.cs.take f.p++[midC w uc]++f.cs.drop f.p).map qah))):=by
       refine qbM (d:=.non) (qdA (pa H y1H) y2H (qb3 (qbc en11 H) (cm En H en6 en4 i2H)) ?_)
       rw [qc7 (qah (midC w uc)) y2H ⟨small f.p (by lia),lcs⟩,qgA _ (by rw [zC]; exact plen)]
       simp [yY,yS]
      obtain⟨H1,hH1⟩:∃ H1,H1=H.set f.a (.lst ((f.cs.take f.p++[midC w uc]++f.cs.drop f.p).map qah)):=⟨_,rfl⟩
      rw [<-hH1] at s1 eh'
      have y1a:H1[f.q]?=some (.lst [.lst f.a,.lst f.b]):=by rw [hH1]; exact qal y1H (Ne.symm nab.2.1)
      have y3a:H1[f.b]?=some (.lst ((f.ks.set f.p kc).map fun k=>D.lst k.q)):=by rw [hH1]; exact qal y3H nab.1
      have lb:((f.ks.set f.p kc).map fun k=>D.lst k.q).length=f.ks.length:=by rw [zC,zT]
      have s2:qca (fV 8) (f2 oIx (fV 10) (fC (.int 1))) (fV 11) En H1=.nx En (H1.set f.b (.lst (((f.ks.set f.p kc).map fun k=>D.lst k.q).set f.p (.lst (hh.length+2))))):=by
       unfold qca
       rw [qbc en8 H1,Res.out_ok,pb H1 y1a,Res.out_ok,qbc en11 H1,Res.out_ok,qdm (j:=f.p) _ y3a (by
        unfold ixN
        rw [if_pos (by lia),if_pos (by rw [lb]; lia)]
        simp)]
       rfl
      have y3b:(H1.set f.b (.lst (((f.ks.set f.p kc).map fun k=>D.lst k.q).set f.p (.lst (hh.length+2)))))[f.b]?=some (.lst (((f.ks.set f.p kc).map fun k=>D.lst k.q).set f.p (.lst (hh.length+2)))):=qce y3a
      have y1b:(H1.set f.b (.lst (((f.ks.set f.p kc).map fun k=>D.lst k.q).set f.p (.lst (hh.length+2)))))[f.q]?=some (.lst [.lst f.a,.lst f.b]):=qal y1a (Ne.symm nab.2.2)
      have s3:qaU (fM qbr (f2 oIx (fV 10) (fC (.int 1))) [(f2 oAdd (fV 11) (fC (.int 1))),(fV 9)]) En (H1.set f.b (.lst (((f.ks.set f.p kc).map fun k=>D.lst k.q).set f.p (.lst (hh.length+2)))))=.nx En h':=by
       refine qbM (d:=.non) (qdA (pb _ y1b) y3b (qb3 (qdR (qbc en11 _) (qaP _ _ _)) (qbc en9 _)) ?_)
       have eB:(((f.ks.set f.p kc).map fun k=>D.lst k.q).set f.p (.lst (hh.length+2))).take (f.p+1)++D.lst (hh.length+5)::(((f.ks.set f.p kc).map fun k=>D.lst k.q).set f.p (.lst (hh.length+2))).drop (f.p+1)=(f.ks.take f.p++[(qb2 hh.length w kc).1,(qb2 hh.length w kc).2]++f.ks.drop (f.p+1)).map fun k=>D.lst k.q:=by
        rw [List.map_set,xS,qmM _ _ (by rw [zC]; exact fp1)]
        simp [yY,yS,qb2,HT.q]
       rw [show (f.p:Int)+1=((f.p+1:Nat):Int) by lia,qc7 (D.lst (hh.length+5)) y3b ⟨small (f.p+1) (by lia),zY (show _ < 1000000 by rw [zT,lb]; lia) (by decide)⟩,qgA _ (by rw [zT,lb]; lia),xS,eB,eh']
      obtain⟨rN,ndN,sbN⟩:=qfk oks' (k:=f.k kc) (k':=k') (t:=f.t uc) (t':=wupT w f.cs f.bs f.p uc) r nd kq' r' (fun x m n=>keep' x (r.lt x m) n) nd' sub'
      have kp':∀ z,z < h.length->z∉k.all->z≠y->h'[z]?=h[z]?:=fun z z1 z2 z3=>by
       rw [keep' z (by lia) fun m=>by
        rcases sb z (yinP z m) with q | q
        ·exact z2 q
        ·lia]
       exact kp z z1 z2 z3
      refine⟨En,h',body _ ?_,?_⟩
      ·unfold pinT
       rw [qag (e1:=[some (.int w),some (.lst k.q),some cd,some (.lst y),some (.int half),some (.int ((fs.length - i':Nat):Int)),some (.lst kc.a),some (.lst kc.b),some (.lst (hh.length+2)),some (.lst (hh.length+5)),z10,z11]) (h1:=H) (by
        rw [qaL (by rw [t5,show ((((fs.length - i':Nat):Int))==0)=false by rw [beq_eq_false_iff_ne]; lia])]
        rfl)]
       rw [qag u2,qag s1,qag s2]
       exact s3
      ·refine⟨_,_,_,_,_,_,_,hEn,kp',?_,.inl ⟨by lia,?_,k',wupT w f.cs f.bs f.p uc,⟨f.p,by rw [kq']; exact hway⟩,rN,ndN,eU,?_,?_,?_,?_⟩⟩
       ·rw [eh',zT,hH1,zT,lH]
        lia
       ·rw [keep' y ylt fun m=>yn (yinP y m)]
        exact ey
       ·unfold wupT
        rw [if_neg fit]
        show (f.cs.take f.p++[midC w uc]++f.cs.drop f.p).length<=w+1
        rw [qaW plen plen]
        simp
        lia
       ·intro m
        rcases sbN y m with q | q
        ·exact yn q
        ·lia
       ·rw [qj1 _ (show k'.q=(f.k kc).q from kq')]
        exact tq
       ·intro z m
        rcases sbN z m with q | q
        ·exact sb z q
        ·exact .inr (by lia)
   ·lia)
 rw [zC,xB,Nat.zero_add] at main
 rcases main with⟨e',h',q,z5,z6,z7,z8,z9,z10,z11,rfl,kp',hl',hA⟩ | ⟨d',h',q,k',rfl,a,nd,kp',hl'⟩
 ·left
  rcases hA with⟨hi,_⟩ | ⟨_,k',kq,a,nd⟩
  ·lia
  ·exact⟨_,h',q,rfl,k',kq,a,nd,kp',hl'⟩
 ·right
  exact⟨k',h',q,a,nd,kp',hl'⟩
theorem Grow.same {h h':Hh} (g:Grow h h') {z:Nat} (hz:z < h.length):h'[z]?=h[z]?:=by
 obtain⟨j,rfl⟩:=g
 exact zK hz
theorem qoa:qa7 (qae 4 (qao (qae 2 qan) (qae 3 qak))) (qae 3 qak)=
 (fSeq (fSet 3 (fc (qae 4 (qao (qae 2 qan) (qae 3 qak))) (fAll [(fV 1),(f2 oIx (fV 2) (fC (.int 0)))])))
  (fSeq (fIfS (fB (fc (qae 3 qak) (fAll [(f2 oIx (fV 3) (f1 oNeg (fC (.int 1)))),(f2 oIx (fV 2) (fC (.int 0)))]))) (fSeq (qca (fV 2) (f2 oIx (f2 oIx (f2 oIx (fV 3) (f1 oNeg (fC (.int 1)))) (fC (.int 0))) (fC (.int 0))) (f2 oIx (f2 oIx (fV 3) (f1 oNeg (fC (.int 1)))) (fC (.int 1))))
  (fRet (fV 1))) qaC)
  (fSeq (qaU (fM qbr (f2 oIx (f2 oIx (f2 oIx (fV 3) (f1 oNeg (fC (.int 1)))) (fC (.int 0))) (fC (.int 0))) [(f2 oIx (f2 oIx (fV 3) (f1 oNeg (fC (.int 1)))) (fC (.int 1))),(fV 2)]))
  (fSeq (fSet 4 (f2 oDiv (fV 0) (fC (.int 2))))
  (fSeq (fFor 5 (qcC rng3 [(f2 oSub (fc oLen (fAll [(fV 3)])) (fC (.int 1))),(f1 oNeg (fC (.int 1))),(f1 oNeg (fC (.int 1)))]) pinB)
  (fRet (fV 1))))))):=rfl
theorem At.setA {h:Hh}{k:HT}{t:T} (r:At h k t) (nd:k.all.Nodup) (cs:List Card):At (h.set k.a (.lst (cs.map qah))) k (.node cs t.bs):=by
 obtain⟨i1,i2,i3,i4,i5,i6⟩:=r.inv
 rw [i6,qaF] at nd
 simp only [xA,zG,not_or] at nd
 obtain⟨⟨n1,n2,_⟩,⟨n3,n4⟩,_⟩:=nd
 rw [i6]
 refine .mk (qal i1 (Ne.symm n1)) (qce i2) (qal i3 n3) i4 fun i k' t' e1 e2=>(i5 i k' t' e1 e2).frame fun x m=>zF fun z=>n4 (by
  have q:=(qbq (zD e1)).subset m
  rw [<-z] at q
  exact q)
theorem qjK {half w:Nat} (hh:half=w / 2) (hw:w<=900) {x:Int}{s:Str}{own j:Nat}{k:HT}{t:T}{h:Hh} (hj:j<=900) (v:T.V half w own j t) (so:Srt t.flat) (r:At h k t) (nd:k.all.Nodup):
  ∃ k' h',qae 12 (qa7 (qae 4 (qao (qae 2 qan) (qae 3 qak))) (qae 3 qak)) [.int w,.lst k.q,qah (x,s)] h=some (.lst k'.q,h')/\At h' k' (topT w (layT w x s j t))/\k'.all.Nodup/\(∀ z,z < h.length->z∉k.all->h'[z]?=h[z]?)/\h.length<=h'.length:=by
 obtain⟨y,h1,fs,kb,tb,jb,ownb,q1,g1,ly,ey,S,fin⟩:=qfj hw (x:=x) (by lia) v so r
 have r1:=r.grow g1
 have rb:=S.at r1
 have sbk:kb.all.Sublist k.all:=by rw [<-S.pk]; exact qci S.oks kb
 have ndb:=nd.sublist sbk
 obtain⟨i1,i2,i3,i4,i5,i6⟩:=rb.inv
 have lv:=S.lv
 have pre:∀ rest:FS,(fSeq (fSet 3 (fc (qae 4 (qao (qae 2 qan) (qae 3 qak))) (fAll [(fV 1),(f2 oIx (fV 2) (fC (.int 0)))]))) rest) (qaM 12 [.int w,.lst k.q,qah (x,s)]) h
   = rest [some (.int w),some (.lst k.q),some (qah (x,s)),some (.lst y),none,none,none,none,none,none,none,none] h1:=fun rest=>by
  rw [qag (e1:=[some (.int w),some (.lst k.q),some (qah (x,s)),some (.lst y),none,none,none,none,none,none,none,none]) (h1:=h1) (qaq (by rw [qaK (ds:=[.lst k.q,.int x]) (h1:=h) rfl,q1]; rfl))]
 obtain⟨E1,hE1⟩:∃ E1:En,E1=[some (.int w),some (.lst k.q),some (qah (x,s)),some (.lst y),none,none,none,none,none,none,none,none]:=⟨_,rfl⟩
 have wl:f2 oIx (fV 3) (f1 oNeg (fC (.int 1))) E1 h1=.ok (.tup [.lst kb.q,.int (qaf tb.cs x)]) h1:=qc2 (by rw [hE1]; rfl) ey
 have e2:fV 2 E1 h1=.ok (qah (x,s)) h1:=by rw [hE1]; rfl
 have wa:f2 oIx (f2 oIx (f2 oIx (fV 3) (f1 oNeg (fC (.int 1)))) (fC (.int 0))) (fC (.int 0)) E1 h1=.ok (.lst kb.a) h1:=by
  rw [qap (x:=.lst kb.q) (h1:=h1) (by rw [qap wl (qaP _ _ _)]; rfl) (y:=.int ((0:Nat):Int)) (h2:=h1) rfl,qaB i1]
  rfl
 have wp:f2 oIx (f2 oIx (fV 3) (f1 oNeg (fC (.int 1)))) (fC (.int 1)) E1 h1=.ok (.int (qaf tb.cs x)) h1:=by
  rw [qap wl (qaP _ _ _)]
  rfl
 have tst:fB (fc (qae 3 qak) (fAll [(f2 oIx (fV 3) (f1 oNeg (fC (.int 1)))),(f2 oIx (fV 2) (fC (.int 0)))])) E1 h1=.ok (atC tb.cs (qaf tb.cs x) x) h1:=by
  refine qa5 ?_
  rw [qaK (qb3 wl (d2:=.int x) (h2:=h1) (by rw [qap e2 (qaP _ _ _)]; rfl)),qea rb]
  rfl
 have aM:kb.a∈k.all:=sbk.subset (qeX kb)
 have ple:=qb4 tb.cs x
 have cbw:tb.cs.length<=w:=by
  have v:=S.v
  match jb,v with
  | 0,v=>exact v.elim
  | jb+1,v=>exact v.hi
 obtain⟨jc,rfl⟩:∃ jc,jb=jc+1:=⟨jb - 1,by
  have v:=S.v
  match jb,v with
  | 0,v=>exact v.elim
  | jb+1,v=>lia⟩
 have lay:∀ u,layT w x s (jc+1) tb=u->layT w x s j t=upT w fs u:=fun u eu=>by
  rw [<-eu,<-qms fs (jc+1) tb S.fm,S.pt,<-lv]
 have ltn:layT w x s (jc+1) tb=layT w x s (jc+1) (.node tb.cs tb.bs):=by rw [T.eta]
 have kp1:∀ (cs:List Card) z,z < h.length->z∉k.all->(h1.set kb.a (.lst (cs.map qah)))[z]?=h[z]?:=fun cs z z1 z2=>by
  rw [zF (show kb.a≠z from fun e=>z2 (e▸aM))]
  exact g1.same z1
 rw [qoa]
 cases ha:atC tb.cs (qaf tb.cs x) x with
 | true=>
  have plt:qaf tb.cs x < tb.cs.length:=by
   by_cases z:qaf tb.cs x < tb.cs.length
   ·exact z
   ·unfold atC at ha
    rw [yM (by lia)] at ha
    cases ha
  have e1:layT w x s (jc+1) tb=.node (tb.cs.set (qaf tb.cs x) (x,s)) tb.bs:=by
   rw [ltn,qgv,ha,if_pos rfl,qck _ plt]
   simp
  have hl:=lay _ e1
  obtain⟨uf,ul⟩:=qmg (w:=w) fs (.node (tb.cs.set (qaf tb.cs x) (x,s)) tb.bs) (fun f hf=>⟨(S.fm f hf).ok,(S.fm f hf).cw⟩) (by simp only [T.cs_node,zT]; exact cbw)
  obtain⟨rN,ndN,_⟩:=qfk S.oks (k:=kb) (k':=kb) (t:=tb) (by rw [S.pk,S.pt]; exact r1) (by rw [S.pk]; exact nd) rfl (rb.setA ndb (tb.cs.set (qaf tb.cs x) (x,s))) (fun z z1 z2=>zF (show kb.a≠z from fun e=>z2 (e▸qeX kb))) ndb fun z m=>.inl m
  refine⟨k,h1.set kb.a (.lst ((tb.cs.set (qaf tb.cs x) (x,s)).map qah)),qaD ?_,?_,nd,kp1 _,by rw [zT]; exact g1.len⟩
  ·rw [pre,<-hE1]
   refine qba ?_
   rw [qbb (by rw [tst,ha])]
   rw [qag (e1:=E1) (h1:=h1.set kb.a (.lst ((tb.cs.set (qaf tb.cs x) (x,s)).map qah))) (by
    unfold qca
    rw [e2,Res.out_ok,wa,Res.out_ok,wp,Res.out_ok,qdm (j:=qaf tb.cs x) _ i2 (by
     unfold ixN
     rw [if_pos (by lia),if_pos (by rw [zC]; lia)]
     simp),List.map_set]
    rfl)]
   rw [hE1]
   exact qaO rfl
  ·rw [hl,uf]
   unfold topT
   rw [if_pos ul]
   rw [S.pk] at rN
   exact rN
 | false=>
  have hbs:tb.bs=[]:=fin.resolve_right (by rw [ha]; decide)
  have e1:layT w x s (jc+1) tb=.node (tb.cs.take (qaf tb.cs x)++[(x,s)]++tb.cs.drop (qaf tb.cs x)) tb.bs:=by
   rw [ltn,qgv,ha,if_neg (by decide),hbs]
   rfl
  have hl:=lay _ e1
  have lu:(tb.cs.take (qaf tb.cs x)++[(x,s)]++tb.cs.drop (qaf tb.cs x)).length<=w+1:=by
   rw [qaW ple ple]
   simp
   lia
  obtain⟨rN,ndN,sbN⟩:=qfk S.oks (k:=kb) (k':=kb) (t:=tb) (by rw [S.pk,S.pt]; exact r1) (by rw [S.pk]; exact nd) rfl (rb.setA ndb (tb.cs.take (qaf tb.cs x)++[(x,s)]++tb.cs.drop (qaf tb.cs x))) (fun z z1 z2=>zF (show kb.a≠z from fun e=>z2 (e▸qeX kb))) ndb fun z m=>.inl m
  have yk:y∉k.all:=fun m=>by have:=r.lt y m; lia
  have ya:y≠kb.a:=fun e=>yk (e▸aM)
  have hfl:fs.length<=900:=by lia
  have wlen:(ways fs kb tb x).length=fs.length+1:=by unfold ways; simp
  have loop:=qiX (w:=w) (half:=half) hh hw (h:=h) (k:=k) (y:=y) (ws:=ways fs kb tb x) (fs:=fs) (cd:=qah (x,s)) (U:=upT w fs (.node (tb.cs.take (qaf tb.cs x)++[(x,s)]++tb.cs.drop (qaf tb.cs x)) tb.bs)) (by lia)
   (fun f hf=>by
    have F:=S.fm f hf
    have:=F.bw
    have:=F.cw
    have:=F.p
    have:=qb4 f.cs x
    exact⟨F.ok,F.cw,by lia,by lia⟩) (fun i f e=>qlm e) wlen (k0:=kb) (u0:=.node (tb.cs.take (qaf tb.cs x)++[(x,s)]++tb.cs.drop (qaf tb.cs x)) tb.bs) (h0:=h1.set kb.a (.lst ((tb.cs.take (qaf tb.cs x)++[(x,s)]++tb.cs.drop (qaf tb.cs x)).map qah))) ⟨_,qjm⟩ rN ndN rfl lu (qal ey (Ne.symm ya)) (by rw [S.pk]; exact yk) (by rw [S.pk]) (fun z z1 z2 _=>kp1 _ z z1 z2) (by rw [S.pk]; exact fun z m=>.inl m) (by rw [zT]; exact g1.len)
  have s1:qaU (fM qbr (f2 oIx (f2 oIx (f2 oIx (fV 3) (f1 oNeg (fC (.int 1)))) (fC (.int 0))) (fC (.int 0))) [(f2 oIx (f2 oIx (fV 3) (f1 oNeg (fC (.int 1)))) (fC (.int 1))),(fV 2)]) E1 h1=.nx E1 (h1.set kb.a (.lst ((tb.cs.take (qaf tb.cs x)++[(x,s)]++tb.cs.drop (qaf tb.cs x)).map qah))):=by
   refine qbM (d:=.non) (qdA wa i2 (qb3 wp e2) ?_)
   rw [qc7 (qah (x,s)) i2 ⟨⟨by lia,by lia⟩,zY (show (tb.cs.map qah).length < 1000000 by rw [zC]; lia) (by decide)⟩,qgA _ (by rw [zC]; exact ple)]
   simp [yY,yS]
  obtain⟨h2,hh2⟩:∃ h2,h2=h1.set kb.a (.lst ((tb.cs.take (qaf tb.cs x)++[(x,s)]++tb.cs.drop (qaf tb.cs x)).map qah)):=⟨_,rfl⟩
  rw [<-hh2] at s1 loop
  have ey2:h2[y]?=some (.lst ((ways fs kb tb x).map wayD)):=by rw [hh2]; exact qal ey (Ne.symm ya)
  rw [hl]
  have run:∀ o,(fSeq (fFor 5 (qcC rng3 [(f2 oSub (fc oLen (fAll [(fV 3)])) (fC (.int 1))),(f1 oNeg (fC (.int 1))),(f1 oNeg (fC (.int 1)))]) pinB) (fRet (fV 1))) [some (.int w),some (.lst k.q),some (qah (x,s)),some (.lst y),some (.int half),none,none,none,none,none,none,none] h2=o->
    fSeq (fSet 3 (fc (qae 4 (qao (qae 2 qan) (qae 3 qak))) (fAll [(fV 1),(f2 oIx (fV 2) (fC (.int 0)))]))) (fSeq (fIfS (fB (fc (qae 3 qak) (fAll [(f2 oIx (fV 3) (f1 oNeg (fC (.int 1)))),(f2 oIx (fV 2) (fC (.int 0)))]))) (fSeq (qca (fV 2) (f2 oIx (f2 oIx (f2 oIx (fV 3) (f1 oNeg (fC (.int 1)))) (fC (.int 0))) (fC (.int 0))) (f2 oIx (f2 oIx (fV 3) (f1 oNeg (fC (.int 1)))) (fC (.int 1)))) (fRet (fV 1))) qaC) (fSeq (qaU (fM qbr (f2 oIx (f2 oIx (f2 oIx (fV 3) (f1 oNeg (fC (.int 1)))) (fC (.int 0))) (fC (.int 0))) [(f2 oIx (f2 oIx (fV 3) (f1 oNeg (fC (.int 1)))) (fC (.int 1))),(fV 2)])) (fSeq (fSet 4 (f2 oDiv (fV 0) (fC (.int 2)))) (fSeq (fFor 5 (qcC rng3 [(f2 oSub (fc oLen (fAll [(fV 3)])) (fC (.int 1))),(f1 oNeg (fC (.int 1))),(f1 oNeg (fC (.int 1)))]) pinB) (fRet (fV 1)))))) (qaM 12 [.int w,.lst k.q,qah (x,s)]) h=o:=fun o ho=>by
   rw [pre,<-hE1,qag (e1:=E1) (h1:=h1) (by rw [qaL (by rw [tst,ha])]; rfl),qag s1,hE1]
   rw [qag (e1:=[some (.int w),some (.lst k.q),some (qah (x,s)),some (.lst y),some (.int half),none,none,none,none,none,none,none]) (h1:=h2) (qaq (by
    rw [qdD (x:=w) (y:=2) rfl rfl (by decide),show (w:Int) / 2=(half:Int) by lia]))]
   exact ho
  have it:qcC rng3 [(f2 oSub (fc oLen (fAll [(fV 3)])) (fC (.int 1))),(f1 oNeg (fC (.int 1))),(f1 oNeg (fC (.int 1)))] [some (.int w),some (.lst k.q),some (qah (x,s)),some (.lst y),some (.int half),none,none,none,none,none,none,none] h2=.ok ⟨(List.range (fs.length+1)).map fun (i:Nat)=>D.int (((fs.length+1:Nat):Int) - 1 - i),fun _=>True⟩ h2:=by
   refine qhr (n:=fs.length+1) ?_ (by lia)
   have l3:fc oLen (fAll [(fV 3)]) [some (.int w),some (.lst k.q),some (qah (x,s)),some (.lst y),some (.int half),none,none,none,none,none,none,none] h2=.ok (.int ((fs.length+1:Nat):Int)) h2:=by
    rw [qaK (qbg (d:=.lst y) (h1:=h2) rfl),qbo ey2,zC,wlen]
    rfl
   rw [qaz (qfb l3 (qaP _ _ _)) rfl]
  rcases loop with⟨e',h',q,e1',k',kq,a,ndk,kp',hl'⟩ | ⟨k',h',q,a,ndk,kp',hl'⟩
  ·refine⟨k',h',qaD (run _ ?_),a,ndk,fun z z1 z2=>kp' z z1 z2 (by lia),hl'⟩
   rw [qag ((qcR it).trans q),kq]
   exact qaO (qbc e1' h')
  ·refine⟨k',h',qaD (run _ ?_),a,ndk,fun z z1 z2=>kp' z z1 z2 (by lia),hl'⟩
   exact qba ((qcR it).trans q)
mutual
noncomputable def T.nn:T->Nat
 | .node _ bs=>1+T.nnL bs
noncomputable def T.nnL:List T->Nat
 | []=>0
 | t::r=>t.nn+T.nnL r
end
theorem qhW (cs:List Card) (bs:List T):(T.node cs bs).nn=1+T.nnL bs:=by rw [T.nn]
theorem qgt:∀ a b:List T,T.nnL (a++b)=T.nnL a+T.nnL b
 | [],b=>by simp [T.nnL]
 | t::r,b=>by simp [T.nnL,qgt r b]; lia
theorem qoC (t:T):1<=t.nn:=by cases t; rw [qhW]; lia
theorem qhX:∀ ts:List T,ts.length<=T.nnL ts
 | []=>by simp [T.nnL]
 | t::r=>by
  have:=qhX r
  have:=qoC t
  simp only [T.nnL,zO]
  lia
theorem qoD {half w:Nat} (hp:1<=half):∀ (n own:Nat) (t:T),T.V half w own n t->t.nn+t.cs.length<=t.flat.length+1
 | 0,_,_,v=>v.elim
 | n+1,own,.node cs bs,v=>by
  rw [qhW,T.flat_node,qb0]
  have kids:∀ b∈bs,b.nn<=b.flat.length:=fun b hb=>by
   by_cases hn:n=0
   ·subst hn
    rw [show bs=[] from v.leaf] at hb
    exact nomatch hb
   ·obtain⟨m,rfl⟩:∃ m,n=m+1:=⟨n - 1,by lia⟩
    have vb:=(v.kids (by lia)).2 b hb
    have:=qoD hp (m+1) half b vb
    have:=vb.lo
    lia
  have:=sumL bs kids
  simp only [T.cs_node,xT] at this |-
  lia
where
 sumL:∀ bs:List T,(∀ b∈bs,b.nn<=b.flat.length)->T.nnL bs<=(bs.map (List.length ∘ T.flat)).sum
  | [],_=>by simp [T.nnL]
  | t::r,h=>by
   have:=sumL r fun b hb=>h b (zR _ hb)
   have:=h t zV
   simp only [T.nnL,yE,xX,Function.comp_apply]
   lia
noncomputable def qdi (z:T×HT):D:=.tup [z.1.d,.lst z.2.q]
theorem qkc {h:Hh}{a b:Nat}{cs:List Card} (ea:h[a]?=some (.lst (cs.map qah))) (eb:h[b]?=some (.lst (cs.map qah))):oNe (.lst a) (.lst b) h=some (.bl false,h):=by
 have:=qke ea eb
 unfold oEq at this
 unfold oNe
 cases q:eqD 24 h (.lst a) (.lst b) with
 | none=>rw [q] at this; cases this
 | some v=>
  rw [q] at this
  cases this
  rfl
noncomputable def alF:FS:=(fSeq (fIfS (fNot (fB (fc (qae 2 (qaA (qae 1 qax))) (fAll [(f2 oIx (f2 oIx (fV 3) (fC (.int 1))) (fV 6))])))) (fRet (fC (.bl false))) qaC)
  (fSeq (fSet 5 (f2 oAdd (fV 5) (f2 oIx (f2 oIx (f2 oIx (fV 3) (fC (.int 1))) (fV 6)) (fC (.int 2)))))
  (qaU (fM qa0 (fV 2) [(fTup [(f2 oIx (f2 oIx (fV 3) (fC (.int 1))) (fV 6)),(f2 oIx (f2 oIx (fV 4) (fC (.int 1))) (fV 6))])]))))
noncomputable def alB:FS:=(fSeq (fUnp [3,4] (fM oPop (fV 2) []))
  (fSeq (fIfS (fOr (fNot (fB (fc (qae 2 (qaA (qae 1 qax))) (fAll [(fV 3)])))) (fOr (fB (f2 oNe (fc qgq (fAll [(f2 oIx (fV 3) (fC (.int 0)))])) (f2 oIx (fV 4) (fC (.int 0))))) (fB (f2 oNe (fc oLen (fAll [(f2 oIx (fV 3) (fC (.int 1)))])) (fc oLen (fAll [(f2 oIx (fV 4) (fC (.int 1)))])))))) (fRet (fC (.bl false))) qaC)
  (fSeq (fSet 5 (fc oLen (fAll [(f2 oIx (fV 4) (fC (.int 0)))])))
  (fSeq (fFor 6 (qcC rng1 [(fc oLen (fAll [(f2 oIx (fV 4) (fC (.int 1)))]))]) alF)
  (fIfS (fB (f2 oNe (f2 oIx (fV 3) (fC (.int 2))) (fV 5))) (fRet (fC (.bl false))) qaC)))))
theorem qme:qbn (qae 2 (qaA (qae 1 qax)))=(fSeq (fSet 2 (fLst [(fTup [(fV 0),(fV 1)])])) (fSeq (qb7 (fB (f2 oNe (fV 2) (fLst []))) alB 2000) (fRet (fC (.bl true))))):=rfl
theorem At.at1 {h:Hh}{k:HT}{t:T} (r:At h k t) {f:FE}{e:En}{h0:Hh} (q:f e h0=.ok (.lst k.q) h):f2 oIx f (fC (.int 1)) e h0=.ok (.lst k.b) h:=by
 rw [qap q (y:=.int ((1:Nat):Int)) (h2:=h) rfl,qaB r.inv.1]
 rfl
theorem At.at0 {h:Hh}{k:HT}{t:T} (r:At h k t) {f:FE}{e:En}{h0:Hh} (q:f e h0=.ok (.lst k.q) h):f2 oIx f (fC (.int 0)) e h0=.ok (.lst k.a) h:=by
 rw [qap q (y:=.int ((0:Nat):Int)) (h2:=h) rfl,qaB r.inv.1]
 rfl
theorem At.len1 {h:Hh}{k:HT}{t:T} (r:At h k t) {f:FE}{e:En}{h0:Hh} (q:f e h0=.ok (.lst k.q) h):fc oLen (fAll [f2 oIx f (fC (.int 1))]) e h0=.ok (.int t.bs.length) h:=by
 obtain⟨i1,i2,i3,i4,i5,i6⟩:=r.inv
 rw [qaK (qbg (r.at1 q)),qbo i3,zC,i4]
 rfl
theorem At.len0 {h:Hh}{k:HT}{t:T} (r:At h k t) {f:FE}{e:En}{h0:Hh} (q:f e h0=.ok (.lst k.q) h):fc oLen (fAll [f2 oIx f (fC (.int 0))]) e h0=.ok (.int t.cs.length) h:=by
 obtain⟨i1,i2,i3,i4,i5,i6⟩:=r.inv
 rw [qaK (qbg (r.at0 q)),qbo i2,zC]
 rfl
theorem qo1 (t:T):qa1 t.d=t.cs.length+(t.bs.map fun b=>qa1 b.d).sum:=by
 cases t with
 | node cs bs=>
  rw [T.d_node]
  unfold qbE qa1
  simp [xT,Function.comp_def]
theorem qnJ {h hh:Hh}{y:Nat}{ps:List (T×HT)}{t:T}{k:HT}{d0 d1:D}{y3 y4 y5 y6:Option D} (ly:h.length<=y) (g:Grow h hh) (ey:hh[y]?=some (.lst ((ps++[(t,k)]).map qdi))) (r:At h k t) (hb:t.bs.length<=1000) (hps:ps.length<=3000):
  ∃ z3 z4 z5 z6 h',alB [some d0,some d1,some (.lst y),y3,y4,y5,y6] hh=.nx [some d0,some d1,some (.lst y),z3,z4,z5,z6] h'/\Grow h h'/\h'[y]?=some (.lst ((ps++List.zip t.bs k.ks).map qdi)):=by
 rw [yC] at ey
 have g1:Grow h (hh.set y (.lst (ps.map qdi))):=g.set ly _
 have e1:(hh.set y (.lst (ps.map qdi)))[y]?=some (.lst (ps.map qdi)):=qce ey
 have u1:fUnp [3,4] (fM oPop (fV 2) []) [some d0,some d1,some (.lst y),y3,y4,y5,y6] hh=.nx [some d0,some d1,some (.lst y),some t.d,some (.lst k.q),y5,y6] (hh.set y (.lst (ps.map qdi))):=
  qh9 (d:=qdi (t,k)) (qdA (h2:=hh) rfl ey rfl (qeZ ey)) rfl
 generalize hh.set y (.lst (ps.map qdi))=h1 at g1 e1 u1
 have g2:Grow h (h1++[.lst (t.cs.map qah)]):=g1.app1 _
 have r2:=r.grow g2
 have e2:=(Grow.app h1 [.lst (t.cs.map qah)]).at' e1
 have a2:(h1++[O.lst (t.cs.map qah)])[h1.length]?=some (.lst (t.cs.map qah)):=qbu _ _
 have c1:fOr (fNot (fB (fc (qae 2 (qaA (qae 1 qax))) (fAll [(fV 3)])))) (fOr (fB (f2 oNe (fc qgq (fAll [(f2 oIx (fV 3) (fC (.int 0)))])) (f2 oIx (fV 4) (fC (.int 0))))) (fB (f2 oNe (fc oLen (fAll [(f2 oIx (fV 3) (fC (.int 1)))])) (fc oLen (fAll [(f2 oIx (fV 4) (fC (.int 1)))]))))) [some d0,some d1,some (.lst y),some t.d,some (.lst k.q),y5,y6] h1=.ok false (h1++[.lst (t.cs.map qah)]):=by
  refine orF (h1:=h1) (notB (b:=true) (qa5 (by rw [qaK (qbg (d:=t.d) (h1:=h1) rfl),qfr]; rfl))) (orF (h1:=h1++[.lst (t.cs.map qah)]) (qa5 ?_) (qa5 ?_))
  ·rw [qap (x:=.lst h1.length) (h1:=h1++[.lst (t.cs.map qah)]) (by
    rw [qaK (qbg (d:=.tup (t.cs.map qah)) (h1:=h1) (by rw [qap (x:=t.d) (h1:=h1) rfl rfl,qeR]; rfl))]
    rfl) (r2.at0 rfl),qkc a2 r2.inv.2.1]
   rfl
  ·rw [qap (qnT (t:=t) (h:=h1++[.lst (t.cs.map qah)]) rfl) (r2.len1 rfl),qeB]
   simp
 generalize h1++[O.lst (t.cs.map qah)]=h2 at g2 r2 e2 a2 c1
 obtain⟨i1,i2,i3,i4,i5,i6⟩:=r.inv
 obtain⟨e3,h3,q3,g3,z5,z6,rfl,hz5,ey3⟩:=qcL (chk:=fun _=>True) (i:=6) (t:=alF)
  (P:=fun j e2 h2=>Grow h h2/\∃ z5 z6,e2=[some d0,some d1,some (.lst y),some t.d,some (.lst k.q),z5,z6]/\z5=some (.int (t.cs.length+((t.bs.take j).map fun b=>qa1 b.d).sum))/\h2[y]?=some (.lst ((ps++(List.zip t.bs k.ks).take j).map qdi)))
  ((List.range t.bs.length).map fun (i:Nat)=>D.int i) [some d0,some d1,some (.lst y),some t.d,some (.lst k.q),some (.int t.cs.length),y6] h2 ⟨g2,_,_,rfl,by simp,by simpa using e2⟩ (fun _ _ _ _=>trivial) (by
   rintro j d e2 h2 hk ⟨g2,z5,z6,rfl,rfl,ey2⟩
   rw [zE] at hk
   obtain⟨j',hj',rfl⟩:=yB.mp hk
   obtain⟨hlt,hj2⟩:=zB.mp hj'
   rw [xB] at hlt
   rw [List.getElem_range] at hj2
   subst hj2
   have eb:t.bs[j]?=some t.bs[j]:=zA hlt
   have ek:k.ks[j]?=some (k.ks[j]'(by lia)):=zA (by lia)
   generalize t.bs[j]=b at eb
   generalize k.ks[j]'(by lia)=kb at ek
   have r2:=r.grow g2
   have ez:(List.zip t.bs k.ks)[j]?=some (b,kb):=by
    rw [List.getElem?_zip_eq_some]
    exact⟨eb,ek⟩
   have lz:(List.zip t.bs k.ks).length=t.bs.length:=by rw [List.length_zip]; lia
   refine⟨[some d0,some d1,some (.lst y),some t.d,some (.lst k.q),some (.int (t.cs.length+((t.bs.take j).map fun b=>qa1 b.d).sum+qa1 b.d)),some (.int j)],h2.set y (.lst ((ps++(List.zip t.bs k.ks).take j).map qdi++[qdi (b,kb)])),?_,g2.set ly _,_,_,rfl,?_,?_⟩
   ·show alF [some d0,some d1,some (.lst y),some t.d,some (.lst k.q),some (.int (t.cs.length+((t.bs.take j).map fun b=>qa1 b.d).sum)),some (.int j)] h2=_
    have qb:∀ z5,f2 oIx (f2 oIx (fV 3) (fC (.int 1))) (fV 6) [some d0,some d1,some (.lst y),some t.d,some (.lst k.q),z5,some (.int j)] h2=.ok b.d h2:=fun z5=>by
     rw [qap (x:=.tup (t.bs.map T.d)) (h1:=h2) (by rw [qap (x:=t.d) (h1:=h2) rfl rfl,qdU]; rfl) (y:=.int (j:Int)) (h2:=h2) rfl,qcQ,qaS,zE,eb]
     rfl
    have qk:∀ z5,f2 oIx (f2 oIx (fV 4) (fC (.int 1))) (fV 6) [some d0,some d1,some (.lst y),some t.d,some (.lst k.q),z5,some (.int j)] h2=.ok (.lst kb.q) h2:=fun z5=>by
     rw [qap (r2.at1 rfl) (y:=.int (j:Int)) (h2:=h2) rfl,qaB r2.inv.2.2.1,qaS,zE,ek]
     rfl
    unfold alF
    rw [qag (e1:=[some d0,some d1,some (.lst y),some t.d,some (.lst k.q),some (.int (t.cs.length+((t.bs.take j).map fun b=>qa1 b.d).sum)),some (.int j)]) (h1:=h2) (by
     rw [qaL (h1:=h2)]
     ·rfl
     ·exact notB (b:=true) (qa5 (by rw [qaK (qbg (qb _)),qfr]; rfl)))]
    rw [qag (e1:=[some d0,some d1,some (.lst y),some t.d,some (.lst k.q),some (.int (t.cs.length+((t.bs.take j).map fun b=>qa1 b.d).sum+qa1 b.d)),some (.int j)]) (h1:=h2) (qaq (qdR rfl (by rw [qap (qb _) rfl,qkE]; rfl)))]
    refine qd5 (n:=y) rfl ey2 (h2:=h2) ?_ ey2 ?_
    ·unfold fTup
     rw [qb3 (qb _) (qk _)]
     rfl
    ·simp only [zC,zJ,zM,lz]
     lia
   ·have:((t.bs.take (j+1)).map fun b=>qa1 b.d).sum=((t.bs.take j).map fun b=>qa1 b.d).sum+qa1 b.d:=by
     rw [List.take_add_one,eb,yC,List.sum_append]
     simp
    rw [this,Int.add_assoc]
   ·rw [qce ey2,List.take_add_one,ez]
    simp)
 rw [zC,xB] at hz5 ey3
 rw [List.take_length,<-qo1] at hz5
 subst hz5
 rw [yZ (by rw [List.length_zip]; lia)] at ey3
 refine⟨some t.d,some (.lst k.q),some (.int (qa1 t.d)),z6,h3,?_,g3,ey3⟩
 unfold alB
 rw [qag u1]
 rw [qag (e1:=[some d0,some d1,some (.lst y),some t.d,some (.lst k.q),y5,y6]) (h1:=h2) (by rw [qaL c1]; rfl)]
 rw [qag (e1:=[some d0,some d1,some (.lst y),some t.d,some (.lst k.q),some (.int t.cs.length),y6]) (h1:=h2) (qaq (r2.len0 rfl))]
 rw [qag ((qcR (it:=⟨(List.range t.bs.length).map fun (i:Nat)=>D.int i,fun _=>True⟩) (h1:=h2) (qdz (qbg (r2.len1 rfl)) (by lia))).trans q3)]
 rw [qaL (h1:=h3)]
 ·rfl
 ·refine qa5 ?_
  rw [qap (x:=.int (qa1 t.d)) (h1:=h3) (y:=.int (qa1 t.d)) (h2:=h3) (by rw [qap (x:=t.d) (h1:=h3) rfl rfl,qkE]; rfl) rfl,qeB]
  simp
theorem qjP {h:Hh}{k:HT}{t:T} (r:At h k t) (hn:t.nn<=1000):
  ∃ h',qae 7 (qbn (qae 2 (qaA (qae 1 qax)))) [t.d,.lst k.q] h=some (.bl true,h')/\Grow h h':=by
 rw [qme]
 have g1:Grow h (h++[.lst [qdi (t,k)]]):=.app _ _
 have a1:(h++[O.lst [qdi (t,k)]])[h.length]?=some (.lst [qdi (t,k)]):=qbu _ _
 obtain⟨e2,h2,q2,g2,y3,y4,y5,y6,rfl⟩:=qe4
  (c:=fB (f2 oNe (fV 2) (fLst []))) (t:=alB)
  (P:=fun m e hh=>∃ (ps:List (T×HT)) (y3 y4 y5 y6:Option D),e=[some t.d,some (.lst k.q),some (.lst h.length),y3,y4,y5,y6]/\Grow h hh/\hh[h.length]?=some (.lst (ps.map qdi))/\(∀ p∈ps,At h p.2 p.1)/\m=T.nnL (ps.map Prod.fst)/\m<=1000)
  (R:=fun e hh=>Grow h hh/\∃ y3 y4 y5 y6:Option D,e=[some t.d,some (.lst k.q),some (.lst h.length),y3,y4,y5,y6])
  (by
   rintro m e hh ⟨ps,y3,y4,y5,y6,rfl,g,ey,ra,hm,hm2⟩
   have c1:fB (f2 oNe (fV 2) (fLst [])) [some t.d,some (.lst k.q),some (.lst h.length),y3,y4,y5,y6] hh=.ok (!(ps.map qdi).isEmpty) (hh++[.lst []]):=by
    refine qa5 ?_
    rw [qap (x:=.lst h.length) (h1:=hh) rfl (y:=.lst hh.length) (h2:=hh++[.lst []]) rfl,qfU ((Grow.app _ _).at' ey) (qbu _ _)]
    rfl
   have g':Grow h (hh++[.lst []]):=g.app1 _
   have ey':=(Grow.app hh [.lst []]).at' ey
   rcases List.eq_nil_or_concat ps with rfl | ⟨ps',p,rfl⟩
   ·left
    exact⟨_,c1,g',_,_,_,_,rfl⟩
   ·right
    rw [List.concat_eq_append] at*
    obtain⟨t',k'⟩:=p
    have rr:At h k' t':=ra (t',k') (by simp)
    obtain⟨i1,i2,i3,i4,i5,i6⟩:=rr.inv
    rw [yC,qgt] at hm
    have hn1:T.nnL (List.map Prod.fst [(t',k')])=1+T.nnL t'.bs:=by
     show t'.nn+T.nnL []=_
     rw [<-T.eta t',qhW]
     rfl
    have l1:t'.bs.length<=T.nnL t'.bs:=qhX _
    have l2:ps'.length<=T.nnL (ps'.map Prod.fst):=by have:=qhX (ps'.map Prod.fst); rwa [zC] at this
    obtain⟨z3,z4,z5,z6,h',q,g2,ey2⟩:=qnJ (d0:=t.d) (d1:=.lst k.q) (y3:=y3) (y4:=y4) (y5:=y5) (y6:=y6) (zS _) g' ey' rr (by lia) (by lia)
    have zf:(List.zip t'.bs k'.ks).map Prod.fst=t'.bs:=List.map_fst_zip (by lia)
    refine⟨_,_,_,_,by rw [c1]; simp,q,⟨ps'++List.zip t'.bs k'.ks,_,_,_,_,rfl,g2,ey2,?_,rfl,?_⟩,?_⟩
    ·intro p hp
     rcases zP.mp hp with z | z
     ·exact ra p (zX _ z)
     ·obtain⟨i,hi⟩:=yL.mp z
      rw [List.getElem?_zip_eq_some] at hi
      exact i5 i _ _ hi.2 hi.1
    ·rw [yC,qgt,zf]
     lia
    ·rw [yC,qgt,zf]
     lia)
  2000 t.nn [some t.d,some (.lst k.q),some (.lst h.length),none,none,none,none] (h++[.lst [qdi (t,k)]])
  ⟨[(t,k)],none,none,none,none,rfl,g1,a1,fun p hp=>by rw [xE] at hp; subst hp; exact r,by simp [T.nnL],hn⟩ (by lia)
 refine⟨h2,qaD ?_,g2⟩
 rw [qag (e1:=[some t.d,some (.lst k.q),some (.lst h.length),none,none,none,none]) (h1:=h++[.lst [qdi (t,k)]]) (qaq rfl)]
 rw [qag q2]
 rfl
noncomputable def mBL:FS:=(fSeq (qaU (fM qbr (f2 oIx (f2 oIx (fV 4) (fV 2)) (fC (.int 0))) [(fC (.int 0)),(f2 oIx (fV 3) (f2 oSub (fV 2) (fC (.int 1))))]))
  (fSeq (qca (fM oPop (f2 oIx (f2 oIx (fV 4) (f2 oSub (fV 2) (fC (.int 1)))) (fC (.int 0))) []) (fV 3) (f2 oSub (fV 2) (fC (.int 1))))
  (fIfS (fB (f2 oNe (f2 oIx (f2 oIx (fV 4) (f2 oSub (fV 2) (fC (.int 1)))) (fC (.int 1))) (fLst []))) (qaU (fM qbr (f2 oIx (f2 oIx (fV 4) (fV 2)) (fC (.int 1))) [(fC (.int 0)),(fM oPop (f2 oIx (f2 oIx (fV 4) (f2 oSub (fV 2) (fC (.int 1)))) (fC (.int 1))) [])])) qaC)))
noncomputable def mBR:FS:=(fSeq (qaU (fM qa0 (f2 oIx (f2 oIx (fV 4) (fV 2)) (fC (.int 0))) [(f2 oIx (fV 3) (fV 2))]))
  (fSeq (qca (fM qbP (f2 oIx (f2 oIx (fV 4) (f2 oAdd (fV 2) (fC (.int 1)))) (fC (.int 0))) [(fC (.int 0))]) (fV 3) (fV 2))
  (fIfS (fB (f2 oNe (f2 oIx (f2 oIx (fV 4) (f2 oAdd (fV 2) (fC (.int 1)))) (fC (.int 1))) (fLst []))) (qaU (fM qa0 (f2 oIx (f2 oIx (fV 4) (fV 2)) (fC (.int 1))) [(fM qbP (f2 oIx (f2 oIx (fV 4) (f2 oAdd (fV 2) (fC (.int 1)))) (fC (.int 1))) [(fC (.int 0))])])) qaC)))
noncomputable def mBJ:FS:=(fSeq (fSet 6 (fc oMax (fAll [(fC (.int 0)),(f2 oSub (fV 2) (fC (.int 1)))])))
  (fSeq (fSet 7 (fM qbP (fV 4) [(f2 oAdd (fV 6) (fC (.int 1)))]))
  (fSeq (qaU (fM qa0 (f2 oIx (f2 oIx (fV 4) (fV 6)) (fC (.int 0))) [(fM qbP (fV 3) [(fV 6)])]))
  (fSeq (qaU (fM qc8 (f2 oIx (f2 oIx (fV 4) (fV 6)) (fC (.int 0))) [(f2 oIx (fV 7) (fC (.int 0)))]))
  (qaU (fM qc8 (f2 oIx (f2 oIx (fV 4) (fV 6)) (fC (.int 1))) [(f2 oIx (fV 7) (fC (.int 1)))]))))))
noncomputable def mQL:FT:=(fAnd (fB (f2 oGt (fV 2) (fC (.int 0)))) (fB (f2 oGt (fc oLen (fAll [(f2 oIx (f2 oIx (fV 4) (f2 oSub (fV 2) (fC (.int 1)))) (fC (.int 0)))])) (fV 5))))
noncomputable def mQR:FT:=(fAnd (fB (f2 oLt (f2 oAdd (fV 2) (fC (.int 1))) (fc oLen (fAll [(fV 4)])))) (fB (f2 oGt (fc oLen (fAll [(f2 oIx (f2 oIx (fV 4) (f2 oAdd (fV 2) (fC (.int 1)))) (fC (.int 0)))])) (fV 5))))
theorem qni:qaZ=(fSeq (fUnp [3,4] (fV 1)) (fSeq (fSet 5 (f2 oDiv (fV 0) (fC (.int 2))))
  (fSeq (fIfS (fB (f2 oGe (fc oLen (fAll [(f2 oIx (f2 oIx (fV 4) (fV 2)) (fC (.int 0)))])) (fV 5))) qjc qaC)
  (fIfS mQL mBL (fIfS mQR mBR mBJ))))):=rfl
inductive MendL (half:Nat) (cs:List D) (ps:List P3) (xs:List X2) (p:Nat):List D->List P3->List X2->Prop where
 | asis {x:X2} (hx:xs[p]?=some x) (h:half<=x.1.length):MendL half cs ps xs p cs ps xs
 | left {q:Nat}{c y:D}{la lb sa sb:List D} (hp:p=q+1) (hc:cs[q]?=some c) (hl:xs[q]?=some (la++[y],lb)) (hs:xs[q+1]?=some (sa,sb)) (h:sa.length < half) (hh:half < (la++[y]).length):
   MendL half cs ps xs p (cs.set q y) ps ((xs.set (q+1) (c::sa,lb.drop (lb.length - 1)++sb)).set q (la,lb.dropLast))
 | right {c y:D}{sa sb ra rb:List D} (hc:cs[p]?=some c) (hs:xs[p]?=some (sa,sb)) (hr:xs[p+1]?=some (y::ra,rb)) (h:sa.length < half) (hh:half < (y::ra).length) (nl:∀ q l,p=q+1->xs[q]?=some l->¬ half < l.1.length):
   MendL half cs ps xs p (cs.set p y) ps ((xs.set p (sa++[c],sb++rb.take 1)).set (p+1) (ra,rb.drop 1))
 | join {s:Nat}{c:D}{x:X2}{la lb ra rb:List D} (hp:s=p - 1) (hx:xs[p]?=some x) (h:x.1.length < half) (hc:cs[s]?=some c) (hl:xs[s]?=some (la,lb)) (hr:xs[s+1]?=some (ra,rb)) (nl:∀ q l,p=q+1->xs[q]?=some l->¬ half < l.1.length) (nr:∀ r,xs[p+1]?=some r->¬ half < r.1.length):
   MendL half cs ps xs p (cs.eraseIdx s) (ps.eraseIdx (s+1)) ((xs.eraseIdx (s+1)).set s (la++[c]++ra,lb++rb))
def Frm (C R:Nat) (ps:List P3) (h h':Hh):Prop:=h.length<=h'.length/\∀ (n:Nat) (o:O),h[n]?=some o->n≠C->n≠R->(∀ p∈ps,n≠p.2.1/\n≠p.2.2)->h'[n]?=some o
section
variable {h h':Hh}{C R:Nat}{ps:List P3}
theorem Frm.refl:Frm C R ps h h:=⟨zS _,fun _ _ e _ _ _=>e⟩
theorem Frm.setC (f:Frm C R ps h h') (o:O):Frm C R ps h (h'.set C o):=⟨by rw [zT]; exact f.1,fun n o' e a b c=>qal (f.2 n o' e a b c) a.symm⟩
theorem Frm.setR (f:Frm C R ps h h') (o:O):Frm C R ps h (h'.set R o):=⟨by rw [zT]; exact f.1,fun n o' e a b c=>qal (f.2 n o' e a b c) b.symm⟩
theorem Frm.setA (f:Frm C R ps h h') {p:P3} (hp:p∈ps) (o:O):Frm C R ps h (h'.set p.2.1 o):=⟨by rw [zT]; exact f.1,fun n o' e a b c=>qal (f.2 n o' e a b c) (c p hp).1.symm⟩
theorem Frm.setB (f:Frm C R ps h h') {p:P3} (hp:p∈ps) (o:O):Frm C R ps h (h'.set p.2.2 o):=⟨by rw [zT]; exact f.1,fun n o' e a b c=>qal (f.2 n o' e a b c) (c p hp).2.symm⟩
theorem Frm.app (f:Frm C R ps h h') (o:O):Frm C R ps h (h'++[o]):=⟨by have:=f.1; simp; lia,fun n o' e a b c=>(Grow.app _ _).at' (f.2 n o' e a b c)⟩
end
section
variable {h:Hh}{C R q0 p w half:Nat}{ps:List P3}{xs:List X2}{cs:List D}
def Sz (cs:List D) (xs:List X2):Prop:=cs.length<=1000/\xs.length<=1000/\∀ x∈xs,x.1.length<=1000/\x.2.length<=1000
theorem qkl {q:Nat}{c y:D}{la lb sa sb:List D} (r:Rw h R ps xs) (d:Dj C R ps) (ec:h[C]?=some (.lst cs)) (sz:Sz cs xs) (hc:cs[q]?=some c) (hl:xs[q]?=some (la++[y],lb)) (hs:xs[q+1]?=some (sa,sb)):
  ∃ h',mBL [some (.int w),some (.lst q0),some (.int ((q+1:Nat):Int)),some (.lst C),some (.lst R),some (.int half),none,none] h=.nx [some (.int w),some (.lst q0),some (.int ((q+1:Nat):Int)),some (.lst C),some (.lst R),some (.int half),none,none] h'/\h'[C]?=some (.lst (cs.set q y))/\Rw h' R ps ((xs.set (q+1) (c::sa,lb.drop (lb.length - 1)++sb)).set q (la,lb.dropLast))/\Frm C R ps h h':=by
 obtain⟨pq,hpq⟩:∃ pq,ps[q]?=some pq:=⟨_,zA (by rw [r.len]; exact (zB.mp hl).1)⟩
 obtain⟨pp,hpp⟩:∃ pp,ps[q+1]?=some pp:=⟨_,zA (by rw [r.len]; exact (zB.mp hs).1)⟩
 have mq:=zD hpq
 have mp:=zD hpp
 have hql:q < xs.length:=(zB.mp hl).1
 have hpl:q+1 < xs.length:=(zB.mp hs).1
 have z1:=sz.2.2 _ (zD hl)
 have z2:=sz.2.2 _ (zD hs)
 generalize hE:([some (.int w),some (.lst q0),some (.int ((q+1:Nat):Int)),some (.lst C),some (.lst R),some (.int half),none,none]:En)=E
 have E2:∀ h,fV 2 E h=.ok (.int ((q+1:Nat):Int)) h:=fun h=>by rw [<-hE]; rfl
 have E3:∀ h,fV 3 E h=.ok (.lst C) h:=fun h=>by rw [<-hE]; rfl
 have E4:E[4]?=some (some (.lst R)):=by rw [<-hE]; rfl
 have Eq':∀ h,f2 oSub (fV 2) (fC (.int 1)) E h=.ok (.int (q:Int)) h:=fun h=>by
  rw [qfb (E2 h) (qaP _ _ _),show ((q+1:Nat):Int) - 1=(q:Int) by lia]
 unfold mBL
 have s1:fM qbr (f2 oIx (f2 oIx (fV 4) (fV 2)) (fC (.int 0))) [(fC (.int 0)),(f2 oIx (fV 3) (f2 oSub (fV 2) (fC (.int 1))))] E h=.ok .non (h.set pp.2.1 (.lst (c::sa))):=
  qdA (rowA r E4 (E2 h) hpp hs) (r.at' _ _ _ hpp hs).2.1 (qb3 (qaP _ _ _) (by rw [qap (E3 h) (Eq' h),qaB ec,qaS,hc]; rfl)) (qky (r.at' _ _ _ hpp hs).2.1 (by have:=z2.1; simp at this; lia))
 rw [qag (qbM s1)]
 have r1:=r.setA d hpp hs (c::sa)
 have ec1:=qal (o:=.lst (c::sa)) ec (d.c1 pp mp).2.1.symm
 have f1':=(Frm.refl (C:=C) (R:=R) (ps:=ps) (h:=h)).setA mp (.lst (c::sa))
 generalize h.set pp.2.1 (.lst (c::sa))=h1 at r1 ec1 f1'
 have hl1:(xs.set (q+1) (c::sa,sb))[q]?=some (la++[y],lb):=by rw [zF (by lia)]; exact hl
 have hs1:(xs.set (q+1) (c::sa,sb))[q+1]?=some (c::sa,sb):=zI hpl
 have s2:fM oPop (f2 oIx (f2 oIx (fV 4) (f2 oSub (fV 2) (fC (.int 1)))) (fC (.int 0))) [] E h1=.ok y (h1.set pq.2.1 (.lst la)):=
  qdA (rowA r1 E4 (Eq' h1) hpq hl1) (r1.at' _ _ _ hpq hl1).2.1 rfl (qeZ (r1.at' _ _ _ hpq hl1).2.1)
 have r2:=r1.setA d hpq hl1 la
 have ec2:=qal (o:=.lst la) ec1 (d.c1 pq mq).2.1.symm
 have f2':=f1'.setA mq (.lst la)
 rw [qag (e1:=E) (h1:=(h1.set pq.2.1 (.lst la)).set C (.lst (cs.set q y))) (by
  unfold qca
  rw [s2,Res.out_ok,E3,Res.out_ok,Eq',Res.out_ok,qdm (j:=q) y ec2 (by
   have:=(zB.mp hc).1
   unfold ixN
   rw [if_pos (by lia),if_pos (by lia),Int.toNat_natCast])]
  rfl)]
 have r3:=r2.setC d (.lst (cs.set q y))
 have ec3:=qce (o:=.lst (cs.set q y)) ec2
 have f3':=f2'.setC (.lst (cs.set q y))
 generalize (h1.set pq.2.1 (.lst la)).set C (.lst (cs.set q y))=h3 at r3 ec3 f3'
 have hl3:((xs.set (q+1) (c::sa,sb)).set q (la,lb))[q]?=some (la,lb):=zI (by rw [zT]; exact hql)
 have hs3:((xs.set (q+1) (c::sa,sb)).set q (la,lb))[q+1]?=some (c::sa,sb):=by rw [zF (by lia)]; exact hs1
 have g4:=Grow.app h3 [.lst []]
 have r4:=r3.grow g4
 have ec4:=g4.at' ec3
 have f4':=f3'.app (.lst [])
 have cnd:fB (f2 oNe (f2 oIx (f2 oIx (fV 4) (f2 oSub (fV 2) (fC (.int 1)))) (fC (.int 1))) (fLst [])) E h3=.ok (!lb.isEmpty) (h3++[.lst []]):=by
  refine qa5 ?_
  rw [qap (rowB r3 E4 (Eq' h3) hpq hl3) (y:=.lst h3.length) (h2:=h3++[.lst []]) rfl,qfU (r4.at' _ _ _ hpq hl3).2.2 (qbu _ _)]
  rfl
 rw [qmv cnd]
 generalize h3++[O.lst []]=h4 at r4 ec4 f4'
 rcases List.eq_nil_or_concat lb with e | ⟨b0,z,e⟩
 ·subst e
  refine⟨h4,rfl,ec4,?_,f4'⟩
  exact r4
 ·rw [List.concat_eq_append] at e
  subst e
  have s5:fM oPop (f2 oIx (f2 oIx (fV 4) (f2 oSub (fV 2) (fC (.int 1)))) (fC (.int 1))) [] E h4=.ok z (h4.set pq.2.2 (.lst b0)):=
   qdA (rowB r4 E4 (Eq' h4) hpq hl3) (r4.at' _ _ _ hpq hl3).2.2 rfl (qeZ (r4.at' _ _ _ hpq hl3).2.2)
  have r5:=r4.setB d hpq hl3 b0
  have hs5:(((xs.set (q+1) (c::sa,sb)).set q (la,b0++[z])).set q (la,b0))[q+1]?=some (c::sa,sb):=by rw [zF (by lia)]; exact hs3
  have s6:fM qbr (f2 oIx (f2 oIx (fV 4) (fV 2)) (fC (.int 1))) [(fC (.int 0)),(fM oPop (f2 oIx (f2 oIx (fV 4) (f2 oSub (fV 2) (fC (.int 1)))) (fC (.int 1))) [])] E h4=.ok .non ((h4.set pq.2.2 (.lst b0)).set pp.2.2 (.lst (z::sb))):=
   qdA (rowB r4 E4 (E2 h4) hpp hs3) (r4.at' _ _ _ hpp hs3).2.2 (qb3 (qaP _ _ _) s5) (qky (r5.at' _ _ _ hpp hs5).2.2 (by have:=z2.2; simp at this; lia))
  have r6:=r5.setB d hpp hs5 (z::sb)
  refine⟨(h4.set pq.2.2 (.lst b0)).set pp.2.2 (.lst (z::sb)),?_,?_,?_,(f4'.setB mq _).setB mp _⟩
  ·rw [if_pos (by simp)]
   exact qbM s6
  ·exact qal (qal ec4 (d.c1 pq mq).2.2.symm) (d.c1 pp mp).2.2.symm
  ·have e1:((((xs.set (q+1) (c::sa,sb)).set q (la,b0++[z])).set q (la,b0)).set (q+1) (c::sa,z::sb))=((xs.set (q+1) (c::sa,(b0++[z]).drop ((b0++[z]).length - 1)++sb)).set q (la,(b0++[z]).dropLast)):=by
    rw [xS,List.set_comm _ _ (show q≠q+1 by lia),xS]
    simp
   rw [<-e1]
   exact r6
end
section
variable {h:Hh}{C R q0 p w half:Nat}{ps:List P3}{xs:List X2}{cs:List D}
theorem qi4 {c y:D}{sa sb ra rb:List D} (r:Rw h R ps xs) (d:Dj C R ps) (ec:h[C]?=some (.lst cs)) (sz:Sz cs xs) (hc:cs[p]?=some c) (hs:xs[p]?=some (sa,sb)) (hr:xs[p+1]?=some (y::ra,rb)):
  ∃ h',mBR [some (.int w),some (.lst q0),some (.int (p:Int)),some (.lst C),some (.lst R),some (.int half),none,none] h=.nx [some (.int w),some (.lst q0),some (.int (p:Int)),some (.lst C),some (.lst R),some (.int half),none,none] h'/\h'[C]?=some (.lst (cs.set p y))/\Rw h' R ps ((xs.set p (sa++[c],sb++rb.take 1)).set (p+1) (ra,rb.drop 1))/\Frm C R ps h h':=by
 obtain⟨pr,hpr⟩:∃ pr,ps[p+1]?=some pr:=⟨_,zA (by rw [r.len]; exact (zB.mp hr).1)⟩
 obtain⟨pp,hpp⟩:∃ pp,ps[p]?=some pp:=⟨_,zA (by rw [r.len]; exact (zB.mp hs).1)⟩
 have mr:=zD hpr
 have mp:=zD hpp
 have hrl:p+1 < xs.length:=(zB.mp hr).1
 have hpl:p < xs.length:=(zB.mp hs).1
 have z1:=sz.2.2 _ (zD hr)
 have z2:=sz.2.2 _ (zD hs)
 generalize hE:([some (.int w),some (.lst q0),some (.int (p:Int)),some (.lst C),some (.lst R),some (.int half),none,none]:En)=E
 have E2:∀ h,fV 2 E h=.ok (.int (p:Int)) h:=fun h=>by rw [<-hE]; rfl
 have E3:∀ h,fV 3 E h=.ok (.lst C) h:=fun h=>by rw [<-hE]; rfl
 have E4:E[4]?=some (some (.lst R)):=by rw [<-hE]; rfl
 have Er:∀ h,f2 oAdd (fV 2) (fC (.int 1)) E h=.ok (.int ((p+1:Nat):Int)) h:=fun h=>qdR (E2 h) (qaP _ _ _)
 unfold mBR
 have s1:fM qa0 (f2 oIx (f2 oIx (fV 4) (fV 2)) (fC (.int 0))) [(f2 oIx (fV 3) (fV 2))] E h=.ok .non (h.set pp.2.1 (.lst (sa++[c]))):=
  qdA (rowA r E4 (E2 h) hpp hs) (r.at' _ _ _ hpp hs).2.1 (qbg (by rw [qap (E3 h) (E2 h),qaB ec,qaS,hc]; rfl)) (qlc (r.at' _ _ _ hpp hs).2.1 (by have:=z2.1; simp at this; lia))
 rw [qag (qbM s1)]
 have r1:=r.setA d hpp hs (sa++[c])
 have ec1:=qal (o:=.lst (sa++[c])) ec (d.c1 pp mp).2.1.symm
 have f1':=(Frm.refl (C:=C) (R:=R) (ps:=ps) (h:=h)).setA mp (.lst (sa++[c]))
 generalize h.set pp.2.1 (.lst (sa++[c]))=h1 at r1 ec1 f1'
 have hr1:(xs.set p (sa++[c],sb))[p+1]?=some (y::ra,rb):=by rw [zF (by lia)]; exact hr
 have hs1:(xs.set p (sa++[c],sb))[p]?=some (sa++[c],sb):=zI hpl
 have s2:fM qbP (f2 oIx (f2 oIx (fV 4) (f2 oAdd (fV 2) (fC (.int 1)))) (fC (.int 0))) [(fC (.int 0))] E h1=.ok y (h1.set pr.2.1 (.lst ra)):=
  qdA (rowA r1 E4 (Er h1) hpr hr1) (r1.at' _ _ _ hpr hr1).2.1 (qbg (qaP _ _ _)) (qeb (k:=0) (xs:=y::ra) (r1.at' _ _ _ hpr hr1).2.1 rfl (by lia))
 have r2:=r1.setA d hpr hr1 ra
 have ec2:=qal (o:=.lst ra) ec1 (d.c1 pr mr).2.1.symm
 have f2':=f1'.setA mr (.lst ra)
 rw [qag (e1:=E) (h1:=(h1.set pr.2.1 (.lst ra)).set C (.lst (cs.set p y))) (by
  unfold qca
  rw [s2,Res.out_ok,E3,Res.out_ok,E2,Res.out_ok,qdm (j:=p) y ec2 (by
   have:=(zB.mp hc).1
   unfold ixN
   rw [if_pos (by lia),if_pos (by lia),Int.toNat_natCast])]
  rfl)]
 have r3:=r2.setC d (.lst (cs.set p y))
 have ec3:=qce (o:=.lst (cs.set p y)) ec2
 have f3':=f2'.setC (.lst (cs.set p y))
 generalize (h1.set pr.2.1 (.lst ra)).set C (.lst (cs.set p y))=h3 at r3 ec3 f3'
 have hr3:((xs.set p (sa++[c],sb)).set (p+1) (ra,rb))[p+1]?=some (ra,rb):=zI (by rw [zT]; exact hrl)
 have hs3:((xs.set p (sa++[c],sb)).set (p+1) (ra,rb))[p]?=some (sa++[c],sb):=by rw [zF (by lia)]; exact hs1
 have g4:=Grow.app h3 [.lst []]
 have r4:=r3.grow g4
 have ec4:=g4.at' ec3
 have f4':=f3'.app (.lst [])
 have cnd:fB (f2 oNe (f2 oIx (f2 oIx (fV 4) (f2 oAdd (fV 2) (fC (.int 1)))) (fC (.int 1))) (fLst [])) E h3=.ok (!rb.isEmpty) (h3++[.lst []]):=by
  refine qa5 ?_
  rw [qap (rowB r3 E4 (Er h3) hpr hr3) (y:=.lst h3.length) (h2:=h3++[.lst []]) rfl,qfU (r4.at' _ _ _ hpr hr3).2.2 (qbu _ _)]
  rfl
 rw [qmv cnd]
 generalize h3++[O.lst []]=h4 at r4 ec4 f4'
 cases rb with
 | nil=>
  refine⟨h4,rfl,ec4,?_,f4'⟩
  rw [List.take_nil,zW]
  exact r4
 | cons z b0=>
  have s5:fM qbP (f2 oIx (f2 oIx (fV 4) (f2 oAdd (fV 2) (fC (.int 1)))) (fC (.int 1))) [(fC (.int 0))] E h4=.ok z (h4.set pr.2.2 (.lst b0)):=
   qdA (rowB r4 E4 (Er h4) hpr hr3) (r4.at' _ _ _ hpr hr3).2.2 (qbg (qaP _ _ _)) (qeb (k:=0) (xs:=z::b0) (r4.at' _ _ _ hpr hr3).2.2 rfl (by lia))
  have r5:=r4.setB d hpr hr3 b0
  have hs5:(((xs.set p (sa++[c],sb)).set (p+1) (ra,z::b0)).set (p+1) (ra,b0))[p]?=some (sa++[c],sb):=by rw [zF (by lia)]; exact hs3
  have s6:fM qa0 (f2 oIx (f2 oIx (fV 4) (fV 2)) (fC (.int 1))) [(fM qbP (f2 oIx (f2 oIx (fV 4) (f2 oAdd (fV 2) (fC (.int 1)))) (fC (.int 1))) [(fC (.int 0))])] E h4=.ok .non ((h4.set pr.2.2 (.lst b0)).set pp.2.2 (.lst (sb++[z]))):=
   qdA (rowB r4 E4 (E2 h4) hpp hs3) (r4.at' _ _ _ hpp hs3).2.2 (qbg s5) (qlc (r5.at' _ _ _ hpp hs5).2.2 (by have:=z2.2; simp at this; lia))
  have r6:=r5.setB d hpp hs5 (sb++[z])
  refine⟨(h4.set pr.2.2 (.lst b0)).set pp.2.2 (.lst (sb++[z])),?_,?_,?_,(f4'.setB mr _).setB mp _⟩
  ·rw [if_pos (by simp)]
   exact qbM s6
  ·exact qal (qal ec4 (d.c1 pr mr).2.2.symm) (d.c1 pp mp).2.2.symm
  ·have e1:((((xs.set p (sa++[c],sb)).set (p+1) (ra,z::b0)).set (p+1) (ra,b0)).set p (sa++[c],sb++[z]))=((xs.set p (sa++[c],sb++(z::b0).take 1)).set (p+1) (ra,(z::b0).drop 1)):=by
    rw [xS,List.set_comm _ _ (show p+1≠p by lia),xS]
    rfl
   rw [<-e1]
   exact r6
theorem Dj.erase (d:Dj C R ps) (k:Nat):Dj C R (ps.eraseIdx k):=by
 have m:∀ p,p∈ps.eraseIdx k->p∈ps:=fun p hp=>List.mem_of_mem_eraseIdx hp
 refine⟨d.cr,fun p hp=>d.c1 p (m p hp),fun p hp=>d.r1 p (m p hp),fun p hp q hq=>d.x1 p (m p hp) q (m q hq),?_⟩
 intro i j p q hp hq hij
 rw [xY] at hp hq
 split at hp<;>split at hq
 ·exact d.aa _ _ p q hp hq (by lia)
 ·exact d.aa _ _ p q hp hq (by lia)
 ·exact d.aa _ _ p q hp hq (by lia)
 ·exact d.aa _ _ p q hp hq (by lia)
theorem Rw.erase (r:Rw h R ps xs) (d:Dj C R ps) (k:Nat):Rw (h.set R (.lst ((ps.eraseIdx k).map fun p=>.lst p.1))) R (ps.eraseIdx k) (xs.eraseIdx k):=by
 refine⟨qce r.out,by simp only [List.length_eraseIdx,r.len],?_⟩
 intro i p x hp hx
 have mp:=d.r1 p (List.mem_of_mem_eraseIdx (zD hp))
 rw [xY] at hp hx
 have key:∀ j,ps[j]?=some p->xs[j]?=some x->At3 (h.set R (.lst ((ps.eraseIdx k).map fun p=>.lst p.1))) p x:=fun j a b=>by
  obtain⟨a,b,c⟩:=r.at' j p x a b
  exact⟨qal a mp.1,qal b mp.2.1,qal c mp.2.2⟩
 split at hp<;>split at hx
 ·exact key _ hp hx
 ·lia
 ·lia
 ·exact key _ hp hx
theorem qbN {α β:Type} (f:α->β):∀ (l:List α) (k:Nat),(l.map f).eraseIdx k=(l.eraseIdx k).map f
 | [],k=>by simp
 | a::r,0=>by simp
 | a::r,k+1=>by simp [qbN f r k]
theorem qkm {s:Nat}{c:D}{la lb ra rb:List D} (r:Rw h R ps xs) (d:Dj C R ps) (ec:h[C]?=some (.lst cs)) (sz:Sz cs xs) (hp:s=p - 1) (hc:cs[s]?=some c) (hl:xs[s]?=some (la,lb)) (hr:xs[s+1]?=some (ra,rb)):
  ∃ h' e',mBJ [some (.int w),some (.lst q0),some (.int (p:Int)),some (.lst C),some (.lst R),some (.int half),none,none] h=.nx e' h'/\h'[C]?=some (.lst (cs.eraseIdx s))/\Rw h' R (ps.eraseIdx (s+1)) ((xs.eraseIdx (s+1)).set s (la++[c]++ra,lb++rb))/\Frm C R ps h h':=by
 obtain⟨pl,hpl⟩:∃ pl,ps[s]?=some pl:=⟨_,zA (by rw [r.len]; exact (zB.mp hl).1)⟩
 obtain⟨pr,hpr⟩:∃ pr,ps[s+1]?=some pr:=⟨_,zA (by rw [r.len]; exact (zB.mp hr).1)⟩
 have ml:=zD hpl
 have mr:=zD hpr
 have hrl:s+1 < xs.length:=(zB.mp hr).1
 have z0:=sz.2.1
 have z1:=sz.2.2 _ (zD hr)
 have z2:=sz.2.2 _ (zD hl)
 have zc:=sz.1
 simp only at z1 z2
 obtain⟨ar1,ar2,ar3⟩:=r.at' _ _ _ hpr hr
 generalize hE0:([some (.int w),some (.lst q0),some (.int (p:Int)),some (.lst C),some (.lst R),some (.int half),some (.int (s:Int)),none]:En)=E0
 generalize hE:([some (.int w),some (.lst q0),some (.int (p:Int)),some (.lst C),some (.lst R),some (.int half),some (.int (s:Int)),some (.lst pr.1)]:En)=E
 unfold mBJ
 rw [qag (e1:=E0) (h1:=h) (by
  rw [<-hE0]
  refine qaq (d:=.int (s:Int)) ?_
  rw [qaK (qb3 (qaP _ _ _) (qfb (x:=p) (y:=1) rfl rfl)),qlQ]
  have:(if ((p:Int) - 1) > 0 then (p:Int) - 1 else 0)=(s:Int):=by split<;>lia
  rw [this]
  rfl)]
 have hpk:(ps.map fun p=>D.lst p.1)[s+1]?=some (.lst pr.1):=by rw [zE,hpr]; rfl
 have s1:fM qbP (fV 4) [(f2 oAdd (fV 6) (fC (.int 1)))] E0 h=.ok (.lst pr.1) (h.set R (.lst ((ps.eraseIdx (s+1)).map fun p=>.lst p.1))):=by
  have:=qeb (k:=s+1) r.out hpk (by lia)
  rw [qbN] at this
  refine qdA (n:=R) (by rw [<-hE0]; rfl) r.out (qbg (qdR (x:=s) (y:=1) (by rw [<-hE0]; rfl) rfl)) this
 rw [qag (e1:=E) (h1:=h.set R (.lst ((ps.eraseIdx (s+1)).map fun p=>.lst p.1))) (by rw [qaq s1,<-hE0,<-hE]; rfl)]
 have d1:=d.erase (s+1)
 have r1:=r.erase d (s+1)
 have ec1:=qal (o:=.lst ((ps.eraseIdx (s+1)).map fun p=>.lst p.1)) ec d.cr.symm
 have b1:=qal (o:=.lst ((ps.eraseIdx (s+1)).map fun p=>.lst p.1)) ar1 (d.r1 pr mr).1
 have b2:=qal (o:=.lst ((ps.eraseIdx (s+1)).map fun p=>.lst p.1)) ar2 (d.r1 pr mr).2.1
 have b3:=qal (o:=.lst ((ps.eraseIdx (s+1)).map fun p=>.lst p.1)) ar3 (d.r1 pr mr).2.2
 have f1':=(Frm.refl (C:=C) (R:=R) (ps:=ps) (h:=h)).setR (.lst ((ps.eraseIdx (s+1)).map fun p=>.lst p.1))
 generalize h.set R (.lst ((ps.eraseIdx (s+1)).map fun p=>.lst p.1))=h1 at r1 ec1 b1 b2 b3 f1'
 have hpl1:(ps.eraseIdx (s+1))[s]?=some pl:=by rw [xY,if_pos (by lia)]; exact hpl
 have hl1:(xs.eraseIdx (s+1))[s]?=some (la,lb):=by rw [xY,if_pos (by lia)]; exact hl
 have E3:∀ h,fV 3 E h=.ok (.lst C) h:=fun h=>by rw [<-hE]; rfl
 have E4:E[4]?=some (some (.lst R)):=by rw [<-hE]; rfl
 have E6:∀ h,fV 6 E h=.ok (.int (s:Int)) h:=fun h=>by rw [<-hE]; rfl
 have E7:∀ h,fV 7 E h=.ok (.lst pr.1) h:=fun h=>by rw [<-hE]; rfl
 have n1:=d.aa (s+1) s pr pl hpr hpl (by lia)
 have s2:fM qbP (fV 3) [(fV 6)] E h1=.ok c (h1.set C (.lst (cs.eraseIdx s))):=qdA (E3 h1) ec1 (qbg (E6 h1)) (qeb (k:=s) ec1 hc (by lia))
 have r2:=r1.setC d1 (.lst (cs.eraseIdx s))
 have s3:fM qa0 (f2 oIx (f2 oIx (fV 4) (fV 6)) (fC (.int 0))) [(fM qbP (fV 3) [(fV 6)])] E h1=.ok .non ((h1.set C (.lst (cs.eraseIdx s))).set pl.2.1 (.lst (la++[c]))):=
  qdA (rowA r1 E4 (E6 h1) hpl1 hl1) (r1.at' _ _ _ hpl1 hl1).2.1 (qbg s2) (qlc (r2.at' _ _ _ hpl1 hl1).2.1 (by lia))
 rw [qag (qbM s3)]
 have r3:=r2.setA d1 hpl1 hl1 (la++[c])
 have ec3:=qal (o:=.lst (la++[c])) (qce (o:=.lst (cs.eraseIdx s)) ec1) (d.c1 pl ml).2.1.symm
 have c1':=qal (o:=.lst (la++[c])) (qal (o:=.lst (cs.eraseIdx s)) b1 (d.c1 pr mr).1) (d.x1 pr mr pl ml).1.symm
 have c2':=qal (o:=.lst (la++[c])) (qal (o:=.lst (cs.eraseIdx s)) b2 (d.c1 pr mr).2.1) n1.1.symm
 have c3':=qal (o:=.lst (la++[c])) (qal (o:=.lst (cs.eraseIdx s)) b3 (d.c1 pr mr).2.2) (d.x1 pl ml pr mr).2.2
 have f3':=(f1'.setC (.lst (cs.eraseIdx s))).setA ml (.lst (la++[c]))
 generalize (h1.set C (.lst (cs.eraseIdx s))).set pl.2.1 (.lst (la++[c]))=h3 at r3 ec3 c1' c2' c3' f3'
 have hl3:((xs.eraseIdx (s+1)).set s (la++[c],lb))[s]?=some (la++[c],lb):=zI (zB.mp hl1).1
 have rA:f2 oIx (fV 7) (fC (.int 0)) E h3=.ok (.lst pr.2.1) h3:=by rw [qap (E7 h3) rfl,qaB c1']; rfl
 rw [qag (qkQ (rowA r3 E4 (E6 h3) hpl1 hl3) (r3.at' _ _ _ hpl1 hl3).2.1 rA (r3.at' _ _ _ hpl1 hl3).2.1 c2' (by simp; lia))]
 have r4:=r3.setA d1 hpl1 hl3 (la++[c]++ra)
 have ec4:=qal (o:=.lst (la++[c]++ra)) ec3 (d.c1 pl ml).2.1.symm
 have d1':=qal (o:=.lst (la++[c]++ra)) c1' (d.x1 pr mr pl ml).1.symm
 have d3':=qal (o:=.lst (la++[c]++ra)) c3' (d.x1 pl ml pr mr).2.2
 have f4':=f3'.setA ml (.lst (la++[c]++ra))
 generalize h3.set pl.2.1 (.lst (la++[c]++ra))=h4 at r4 ec4 d1' d3' f4'
 rw [xS] at r4
 have hl4:((xs.eraseIdx (s+1)).set s (la++[c]++ra,lb))[s]?=some (la++[c]++ra,lb):=zI (zB.mp hl1).1
 have rB:f2 oIx (fV 7) (fC (.int 1)) E h4=.ok (.lst pr.2.2) h4:=by rw [qap (E7 h4) rfl,qaB d1']; rfl
 refine⟨_,_,qkQ (rowB r4 E4 (E6 h4) hpl1 hl4) (r4.at' _ _ _ hpl1 hl4).2.2 rB (r4.at' _ _ _ hpl1 hl4).2.2 d3' (show lb.length+rb.length<=100000 by have:=z1.2; have:=z2.2; lia),qal ec4 (d.c1 pl ml).2.2.symm,?_,f4'.setB ml _⟩
 have r5:=r4.setB d1 hpl1 hl4 (lb++rb)
 rw [xS] at r5
 exact r5
end
section
variable {h:Hh}{C R q0 p w half:Nat}{ps ps':List P3}{xs xs':List X2}{cs cs':List D}
theorem qlA (r:Rw h R ps xs) (d:Dj C R ps) (ec:h[C]?=some (.lst cs)) (sz:Sz cs xs) (eq0:h[q0]?=some (.lst [.lst C,.lst R])) (hh:half=w / 2) (hp:p < xs.length) (m:MendL half cs ps xs p cs' ps' xs'):
  ∃ h',qae 8 qaZ [.int w,.lst q0,.int p] h=some (.non,h')/\h'[C]?=some (.lst cs')/\Rw h' R ps' xs'/\Frm C R ps h h':=by
 rw [qni]
 have hpp:∀ {i:Nat},i < xs.length->∃ pi,ps[i]?=some pi:=fun {i} hi=>⟨_,zA (by rw [r.len]; exact hi)⟩
 obtain⟨x,hx⟩:∃ x,xs[p]?=some x:=⟨_,zA hp⟩
 obtain⟨pp,hpx⟩:=hpp hp
 generalize hE:([some (.int w),some (.lst q0),some (.int (p:Int)),some (.lst C),some (.lst R),some (.int half),none,none]:En)=E
 have E2:∀ h,fV 2 E h=.ok (.int (p:Int)) h:=fun h=>by rw [<-hE]; rfl
 have E4:E[4]?=some (some (.lst R)):=by rw [<-hE]; rfl
 have E5:∀ h,fV 5 E h=.ok (.int (half:Int)) h:=fun h=>by rw [<-hE]; rfl
 have pre:∀ o,(fSeq (fIfS (fB (f2 oGe (fc oLen (fAll [(f2 oIx (f2 oIx (fV 4) (fV 2)) (fC (.int 0)))])) (fV 5))) qjc qaC) (fIfS mQL mBL (fIfS mQR mBR mBJ))) E h=o->qae 8 (fSeq (fUnp [3,4] (fV 1)) (fSeq (fSet 5 (f2 oDiv (fV 0) (fC (.int 2)))) (fSeq (fIfS (fB (f2 oGe (fc oLen (fAll [(f2 oIx (f2 oIx (fV 4) (fV 2)) (fC (.int 0)))])) (fV 5))) qjc qaC) (fIfS mQL mBL (fIfS mQR mBR mBJ))))) [.int w,.lst q0,.int p] h=qo4 o:=fun o ho=>by
  unfold qae
  rw [qag (e1:=[some (.int w),some (.lst q0),some (.int (p:Int)),some (.lst C),some (.lst R),none,none,none]) (h1:=h) (by
   show (match (qdn (.lst q0) h).bind (qjD [some (.int w),some (.lst q0),some (.int (p:Int)),none,none,none,none,none] [3,4]) with | some e'=>Out.nx e' h | none=>.bad)=_
   rw [show qdn (.lst q0) h=some [.lst C,.lst R] from qaH eq0]
   rfl)]
  rw [qag (e1:=E) (h1:=h) (by
   rw [<-hE]
   exact qaq (d:=.int (half:Int)) (by rw [qdD (x:=w) (y:=2) rfl rfl (by decide),show (w:Int) / 2=(half:Int) by lia]))]
  rw [ho]
 have c1:fB (f2 oGe (fc oLen (fAll [(f2 oIx (f2 oIx (fV 4) (fV 2)) (fC (.int 0)))])) (fV 5)) E h=.ok (decide ((half:Int)<=(x.1.length:Int))) h:=qa5 (by
  rw [qap (lenA r E4 (E2 h) hpx hx) (E5 h)]
  rfl)
 by_cases hge:half<=x.1.length
 ·rw [decide_eq_true (by lia)] at c1
  have:cs'=cs/\ps'=ps/\xs'=xs:=by
   cases m with
   | asis _ _=>exact⟨rfl,rfl,rfl⟩
   | left hp' hc hl hs hlt _=>subst hp'; rw [hx] at hs; cases hs; exact absurd hge (by simp only; lia)
   | right hc hs hr hlt _ _=>rw [hx] at hs; cases hs; exact absurd hge (by simp only; lia)
   | join hp' hx' hlt _ _ _ _ _=>rw [hx] at hx'; cases hx'; lia
  obtain⟨rfl,rfl,rfl⟩:=this
  refine⟨h,?_,ec,r,.refl⟩
  rw [pre (.rt .non h) (qba (by rw [qbb c1]; rfl))]
  rfl
 ·rw [decide_eq_false (by lia)] at c1
  have pre2:∀ {e':En}{h':Hh},fIfS mQL mBL (fIfS mQR mBR mBJ) E h=.nx e' h'->qae 8 (fSeq (fUnp [3,4] (fV 1)) (fSeq (fSet 5 (f2 oDiv (fV 0) (fC (.int 2)))) (fSeq (fIfS (fB (f2 oGe (fc oLen (fAll [(f2 oIx (f2 oIx (fV 4) (fV 2)) (fC (.int 0)))])) (fV 5))) qjc qaC) (fIfS mQL mBL (fIfS mQR mBR mBJ))))) [.int w,.lst q0,.int p] h=some (.non,h'):=fun {e' h'} ho=>by
   rw [pre (.nx e' h') (by rw [qag (e1:=E) (h1:=h) (by rw [qaL c1]; rfl)]; exact ho)]
   rfl
  have qL:∃ b,mQL E h=.ok b h/\(b=true↔∃ q l,p=q+1/\xs[q]?=some l/\half < l.1.length):=by
   unfold mQL fAnd
   rw [show fB (f2 oGt (fV 2) (fC (.int 0))) E h=.ok (decide ((0:Int) < (p:Int))) h from qa5 (by rw [qap (E2 h) (qaP _ _ _)]; rfl),Res.bind_ok]
   by_cases hp0:p=0
   ·refine⟨false,?_,?_⟩
    ·rw [hp0]; rfl
    ·constructor
     ·intro z; cases z
     ·rintro⟨q,l,e,_⟩; lia
   ·obtain⟨q,hq⟩:∃ q,p=q+1:=⟨p - 1,by lia⟩
    obtain⟨l,hl⟩:∃ l,xs[q]?=some l:=⟨xs[q]'(by lia),zA (by lia)⟩
    obtain⟨pl,hpl⟩:=hpp (i:=q) (by lia)
    have e1:f2 oSub (fV 2) (fC (.int 1)) E h=.ok (.int (q:Int)) h:=by rw [qfb (E2 h) (qaP _ _ _),show (p:Int) - 1=(q:Int) by lia]
    refine⟨decide ((half:Int) < (l.1.length:Int)),?_,?_⟩
    ·rw [decide_eq_true (show (0:Int) < (p:Int) by lia),if_pos rfl]
     exact qa5 (by rw [qap (lenA r E4 e1 hpl hl) (E5 h)]; rfl)
    ·rw [decide_eq_true_iff]
     constructor
     ·exact fun z=>⟨q,l,hq,hl,by lia⟩
     ·rintro⟨q',l',e,hl',z⟩
      have:q'=q:=by lia
      subst this
      rw [hl] at hl'
      cases hl'
      lia
  obtain⟨bL,qL,iL⟩:=qL
  have qR:∃ b,mQR E h=.ok b h/\(b=true↔∃ r,xs[p+1]?=some r/\half < r.1.length):=by
   unfold mQR fAnd
   have e1:f2 oAdd (fV 2) (fC (.int 1)) E h=.ok (.int ((p+1:Nat):Int)) h:=qdR (E2 h) (qaP _ _ _)
   have e2:fc oLen (fAll [fV 4]) E h=.ok (.int xs.length) h:=by rw [qaK (qbg (qbc E4 h)),qbo r.out,zC,r.len]; rfl
   rw [show fB (f2 oLt (f2 oAdd (fV 2) (fC (.int 1))) (fc oLen (fAll [(fV 4)]))) E h=.ok (decide (((p+1:Nat):Int) < (xs.length:Int))) h from qa5 (by rw [qap e1 e2]; rfl),Res.bind_ok]
   by_cases hp1:p+1 < xs.length
   ·obtain⟨y,hy⟩:∃ y,xs[p+1]?=some y:=⟨_,zA hp1⟩
    obtain⟨pl,hpl⟩:=hpp hp1
    refine⟨decide ((half:Int) < (y.1.length:Int)),?_,?_⟩
    ·rw [decide_eq_true (by lia),if_pos rfl]
     exact qa5 (by rw [qap (lenA r E4 e1 hpl hy) (E5 h)]; rfl)
    ·rw [decide_eq_true_iff]
     constructor
     ·exact fun z=>⟨y,hy,by lia⟩
     ·rintro⟨r,hr,z⟩
      rw [hy] at hr
      cases hr
      lia
   ·refine⟨false,?_,?_⟩
    ·rw [decide_eq_false (by lia)]; rfl
    ·constructor
     ·intro z; cases z
     ·rintro⟨r,hr,_⟩
      rw [yM (by lia)] at hr
      cases hr
  obtain⟨bR,qR,iR⟩:=qR
  cases m with
  | asis hx' hge'=>rw [hx] at hx'; cases hx'; exact absurd hge' hge
  | @left q c y la lb sa sb hpq hc hl hs hlt hlh=>
   have:bL=true:=iL.mpr ⟨q,_,hpq,hl,hlh⟩
   subst this
   subst hpq
   obtain⟨h',k1,k2,k3,k4⟩:=qkl (w:=w) (q0:=q0) (half:=half) r d ec sz hc hl hs
   rw [hE] at k1
   exact⟨h',pre2 (by rw [qbb qL]; exact k1),k2,k3,k4⟩
  | @right c y sa sb ra rb hc hs hr hlt hrh nl=>
   have bl:bL=false:=by
    cases hb:bL with
    | false=>rfl
    | true=>obtain⟨q,l,e,hl',z⟩:=iL.mp hb; exact absurd z (nl q l e hl')
   have br:bR=true:=iR.mpr ⟨_,hr,hrh⟩
   subst bl
   subst br
   obtain⟨h',k1,k2,k3,k4⟩:=qi4 (w:=w) (q0:=q0) (half:=half) r d ec sz hc hs hr
   rw [hE] at k1
   exact⟨h',pre2 (by rw [qaL qL,qbb qR]; exact k1),k2,k3,k4⟩
  | @join s c x' la lb ra rb hps hx' hlt hc hl hr nl nr=>
   have bl:bL=false:=by
    cases hb:bL with
    | false=>rfl
    | true=>obtain⟨q,l,e,hl',z⟩:=iL.mp hb; exact absurd z (nl q l e hl')
   have br:bR=false:=by
    cases hb:bR with
    | false=>rfl
    | true=>obtain⟨y,hy,z⟩:=iR.mp hb; exact absurd z (nr y hy)
   subst bl
   subst br
   obtain⟨h',e',k1,k2,k3,k4⟩:=qkm (w:=w) (q0:=q0) (half:=half) r d ec sz hps hc hl hr
   rw [hE] at k1
   exact⟨h',pre2 (by rw [qaL qL,qaL qR]; exact k1),k2,k3,k4⟩
end
theorem qbk {α β:Type} (f:α->β) (l:List α) (i:Nat) (a:α):(l.set i a).map f=(l.map f).set i (f a):=by
 rw [List.map_set]
theorem qjB {α:Type}{l:List α}{p:Nat} (a b:α) (h:p+1 < l.length):l.take p++[a,b]++l.drop (p+2)=(l.set (p+1) b).set p a:=by
 refine List.ext_getElem? fun i=>?_
 by_cases h1:i < p
 ·rw [yT,zK (by rw [zM]; lia),xF h1,zF (by lia),zF (by lia)]
 ·rw [yT,yI (by rw [zM]; lia),zM,Nat.min_eq_left (by lia)]
  by_cases h2:i=p
  ·subst h2
   rw [zI (by rw [zT]; lia)]
   simp
  ·by_cases h3:i=p+1
   ·subst h3
    rw [zF (by lia),zI h]
    simp
   ·rw [zF (by lia),zF (by lia),show i - p=(i - p - 2)+2 by lia]
    simp only [y9,xI,zL,xU]
    rw [show p+2+(i - p - 2)=i by lia]
theorem qbW {α:Type}{l:List α}{p:Nat} (a:α) (h:p < l.length):l.take p++[a]++l.drop (p+1)=l.set p a:=by
 rw [List.set_eq_take_append_cons_drop,if_pos h]
 simp
theorem qjC {α:Type}{l:List α}{p:Nat}:l.take p++[]++l.drop (p+1)=l.eraseIdx p:=by
 rw [List.eraseIdx_eq_take_drop_succ]
 simp
theorem qmL {α:Type}{l:List α}{p:Nat} (a:α) (h:p+1 < l.length):l.take p++[a]++l.drop (p+2)=(l.eraseIdx (p+1)).set p a:=by
 rw [List.set_eq_take_append_cons_drop,if_pos (by rw [List.length_eraseIdx,if_pos h]; lia),List.eraseIdx_eq_take_drop_succ]
 have t1:(l.take (p+1)++l.drop (p+1+1)).take p=l.take p:=by
  rw [List.take_append_of_le_length (by rw [zM]; lia),List.take_take,Nat.min_eq_left (by lia)]
 have t2:(l.take (p+1)++l.drop (p+1+1)).drop (p+1)=l.drop (p+2):=List.drop_left' (by rw [zM]; lia)
 rw [t1,t2]
 simp
theorem getc {cs:List Card}{i:Nat}{c:Card} (h:cs[i]?=some c):(cs.map qah)[i]?=some (qah c):=by
 rw [zE,h]; rfl
inductive TK (half:Nat) (x:Int):Nat->T->T->Prop where
 | bot {n p:Nat}{cs:List Card} (hp:qaf cs x=p) (hc:cs.length<=1000) (a:atC cs p x=true):TK half x (n+1) (.node cs []) (.node (cs.take p++[]++cs.drop (p+1)) [])
 | down {n p:Nat}{cs:List Card}{bs:List T}{b u t':T} (hp:qaf cs x=p) (hc:cs.length<=1000) (hz:bs.length<=1000) (a:atC cs p x=false) (hb:bs[p]?=some b) (r:TK half x n b u)
   (m:Mend half cs (bs.take p++[u]++bs.drop (p+1)) p t'):TK half x (n+1) (.node cs bs) t'
 | here {n p:Nat}{cs:List Card}{bs:List T}{b u t':T}{c:Card} (hp:qaf cs x=p) (hc:cs.length<=1000) (hz:bs.length<=1000) (a:atC cs p x=true) (hb:bs[p]?=some b) (r:LO half 5 b c u)
   (m:Mend half (cs.take p++[c]++cs.drop (p+1)) (bs.take p++[u]++bs.drop (p+1)) p t'):TK half x (n+1) (.node cs bs) t'
inductive NK (x:Int):Nat->T->Prop where
 | bot {n p:Nat}{cs:List Card} (hp:qaf cs x=p) (hc:cs.length<=1000) (a:atC cs p x=false):NK x (n+1) (.node cs [])
 | down {n p:Nat}{cs:List Card}{bs:List T}{b:T} (hp:qaf cs x=p) (hc:cs.length<=1000) (hz:bs.length<=1000) (a:atC cs p x=false) (hb:bs[p]?=some b) (r:NK x n b):NK x (n+1) (.node cs bs)
def qbI (xN:Addr) (n:Nat) (ds:List D) (o:RO):Prop:=∃ (w half:Nat) (x:Int) (t:T),ds=[.int (w:Int),t.d,.int x]/\half=w / 2/\0 < half/\((∃ t',TK half x n t t'/\o=.ok t'.d)\/NK x n t/\o=.ex (.ref xN))
section
variable {xN:Addr}{n w p:Nat}{x:Int}{cs:List Card}{bs:List T}{h:Hh}{gT:OX}{gL:OC}
theorem qdj (hp:qaf cs x=p) (hc:cs.length<=1000) (rest:FS):
  (fSeq (fSet 3 (f2 oIx (fV 1) (fC (.int 0)))) (fSeq (fSet 4 (f2 oIx (fV 1) (fC (.int 1)))) (fSeq (fSet 5 (fc (relF qcF) (fAll [(fV 3),(fV 2)]))) (fSeq (fSet 6 (fc (qae 3 qcm) (fAll [(fV 3),(fV 5),(fV 2)]))) rest)))) (qaM 10 [.int (w:Int),(T.node cs bs).d,.int x]) h
   = rest [some (.int (w:Int)),some (T.node cs bs).d,some (.int x),some (.tup (cs.map qah)),some (.tup (bs.map T.d)),some (.int p),some (.bl (atC cs p x)),none,none,none] h:=by
 have i0:=qeR (.node cs bs) h
 have i1:=qdU (.node cs bs) h
 have pl:=qa9 qfC ⟨cs,x,rfl,rfl,hc⟩ h
 rw [hp] at pl
 have ia:=qge cs p x h
 rw [qag (e1:=[some (.int (w:Int)),some (T.node cs bs).d,some (.int x),some (.tup (cs.map qah)),none,none,none,none,none,none]) (h1:=h) (qaq (by rw [qap (x:=(T.node cs bs).d) (h1:=h) rfl rfl,i0]; rfl))]
 rw [qag (e1:=[some (.int (w:Int)),some (T.node cs bs).d,some (.int x),some (.tup (cs.map qah)),some (.tup (bs.map T.d)),none,none,none,none,none]) (h1:=h) (qaq (by rw [qap (x:=(T.node cs bs).d) (h1:=h) rfl rfl,i1]; rfl))]
 rw [qag (e1:=[some (.int (w:Int)),some (T.node cs bs).d,some (.int x),some (.tup (cs.map qah)),some (.tup (bs.map T.d)),some (.int p),none,none,none,none]) (h1:=h) (qaq (by rw [qaK (ds:=[.tup (cs.map qah),.int x]) (h1:=h) rfl,pl]; rfl))]
 rw [qag (e1:=[some (.int (w:Int)),some (T.node cs bs).d,some (.int x),some (.tup (cs.map qah)),some (.tup (bs.map T.d)),some (.int p),some (.bl (atC cs p x)),none,none,none]) (h1:=h) (qaq (by rw [qaK (ds:=[.tup (cs.map qah),.int p,.int x]) (h1:=h) rfl,ia]; rfl))]
theorem qf0 {b:T}{z7 z8 z9:Option D} (hb:bs[p]?=some b):f2 oIx (fV 4) (fV 5) [some (.int (w:Int)),some (T.node cs bs).d,some (.int x),some (.tup (cs.map qah)),some (.tup (bs.map T.d)),some (.int p),some (.bl (atC cs p x)),z7,z8,z9] h=.ok b.d h:=by
 rw [qap (x:=.tup (bs.map T.d)) (h1:=h) (y:=.int p) (h2:=h) rfl rfl,qcQ,qaS,zE,hb]
 rfl
end
theorem qd9 {xN:Addr}{n:Nat} (dt:DetX (qbI xN n)):RunsX (qa6 10 (qcj xN (relF qcF) (qae 3 qcm) (relF qaN) (relF qaX) (relX (qbI xN n)) (relF qhI) (relF (qcr 5)))) (qbI xN (n+1)):=by
 rintro ds o ⟨w,half,x,t,rfl,hh,h0,k⟩
 rcases k with⟨t',r,rfl⟩ | ⟨r,rfl⟩
 ·refine⟨T.hbd _,fun h=>⟨[],?_⟩⟩
  rw [zW]
  refine qcY ?_
  unfold qcj
  cases r with
  | @bot _ p cs hp hc a=>
   rw [qdj hp hc]
   refine qba ?_
   rw [qbb (h1:=h) rfl]
   rw [qag (e1:=[some (.int (w:Int)),some (T.node cs []).d,some (.int x),some (.tup (cs.map qah)),some (.tup ([].map T.d)),some (.int p),some (.bl (atC cs p x)),none,none,none]) (h1:=h) (by
    rw [qaL (h1:=h)]
    ·rfl
    ·rw [a]; rfl)]
   refine qaO ?_
   have p1:relF qaN [.tup (cs.map qah),.int (p:Int),.int ((p+1:Nat):Int),.tup []] h=_:=qcI cs [] p (p+1) (by lia) (by simp) h
   have d1:relF qaX [.tup ((cs.take p++[]++cs.drop (p+1)).map qah),.tup []] h=_:=qbH (cs.take p++[]++cs.drop (p+1)) [] (by simp) h
   have e1:(p:Int)+1=((p+1:Nat):Int):=by lia
   simp only [fSeq,fSet,fRet,qaU,fIfS,fB,f1,f2,fc,fAll,fTup,fLst,fC,fV,qaC,qaI,qbT,qaR,Res.bind_ok,Res.out_ok,zU,zL,qct,e1,p1,d1]
  | @down _ p cs bs b u _ hp hc hz a hb r m=>
   have hpl:=(zB.mp hb).1
   rw [qdj hp hc]
   rw [qag (e1:=[some (.int (w:Int)),some (T.node cs bs).d,some (.int x),some (.tup (cs.map qah)),some (.tup (bs.map T.d)),some (.int p),some (.bl (atC cs p x)),none,none,none]) (h1:=h) (by rw [qaL (h1:=h) (qel rfl (by rw [zC]; lia))]; rfl)]
   refine qba ?_
   rw [qbb (h1:=h) (by rw [a]; rfl)]
   rw [qag (e1:=[some (.int (w:Int)),some (T.node cs bs).d,some (.int x),some (.tup (cs.map qah)),some (.tup (bs.map T.d)),some (.int p),some (.bl (atC cs p x)),some u.d,none,none]) (h1:=h) (qaq (by
    rw [qcD (qaz (d:=.int (w:Int)) (h1:=h) rfl (qaz (qf0 hb) (qbg (d:=.int x) (h1:=h) rfl))),qgg dt ⟨w,half,x,b,rfl,hh,h0,.inl ⟨u,r,rfl⟩⟩ h]
    rfl))]
   refine qaO ?_
   rw [qaK (ds:=[.int (w:Int),.tup (cs.map qah),.tup (bs.map T.d),.int (p:Int),u.d]) (h1:=h) rfl,qa9 qh4 ⟨w,half,cs,bs,p,u,_,rfl,rfl,hh,h0,hpl,hz,m⟩ h]
   rfl
  | @here _ p cs bs b u _ c hp hc hz a hb r m=>
   have hpl:=(zB.mp hb).1
   rw [qdj hp hc]
   rw [qag (e1:=[some (.int (w:Int)),some (T.node cs bs).d,some (.int x),some (.tup (cs.map qah)),some (.tup (bs.map T.d)),some (.int p),some (.bl (atC cs p x)),none,none,none]) (h1:=h) (by rw [qaL (h1:=h) (qel rfl (by rw [zC]; lia))]; rfl)]
   rw [qag (e1:=[some (.int (w:Int)),some (T.node cs bs).d,some (.int x),some (.tup (cs.map qah)),some (.tup (bs.map T.d)),some (.int p),some (.bl (atC cs p x)),none,none,none]) (h1:=h) (by
    rw [qaL (h1:=h)]
    ·rfl
    ·rw [a]; rfl)]
   rw [qag (e1:=[some (.int (w:Int)),some (T.node cs bs).d,some (.int x),some (.tup (cs.map qah)),some (.tup (bs.map T.d)),some (.int p),some (.bl (atC cs p x)),none,some (.tup [qah c,u.d]),none]) (h1:=h) (qaq (by
    rw [qaK (qb3 (d:=.int (w:Int)) (h1:=h) rfl (qf0 hb)),qa9 (qgI 5) ⟨w,half,b,c,u,rfl,rfl,hh,h0,r⟩ h]
    rfl))]
   have p1:relF qaN [.tup (cs.map qah),.int (p:Int),.int ((p+1:Nat):Int),.tup [qah c]] h=_:=qcI cs [c] p (p+1) (by lia) (by simp) h
   rw [qag (e1:=[some (.int (w:Int)),some (T.node cs bs).d,some (.int x),some (.tup (cs.map qah)),some (.tup (bs.map T.d)),some (.int p),some (.bl (atC cs p x)),none,some (.tup [qah c,u.d]),some (.tup ((cs.take p++[c]++cs.drop (p+1)).map qah))]) (h1:=h) (qaq (by
    rw [qaK (ds:=[.tup (cs.map qah),.int (p:Int),.int ((p+1:Nat):Int),.tup [qah c]]) (h1:=h) rfl,p1]
    rfl))]
   refine qaO ?_
   rw [qaK (ds:=[.int (w:Int),.tup ((cs.take p++[c]++cs.drop (p+1)).map qah),.tup (bs.map T.d),.int (p:Int),u.d]) (h1:=h) rfl,qa9 qh4 ⟨w,half,_,bs,p,u,_,rfl,rfl,hh,h0,hpl,hz,m⟩ h]
   rfl
 ·refine⟨trivial,fun h=>⟨[],?_⟩⟩
  rw [zW]
  unfold qcj
  cases r with
  | @bot _ p cs hp hc a=>
   refine qcB (e:=[some (.int (w:Int)),some (T.node cs []).d,some (.int x),some (.tup (cs.map qah)),some (.tup ([].map T.d)),some (.int p),some (.bl (atC cs p x)),none,none,none]) ?_
   rw [qdj hp hc]
   refine qd4 ?_
   rw [qbb (h1:=h) rfl]
   refine qd4 ?_
   rw [qbb (h1:=h) (by rw [a]; rfl)]
   rfl
  | @down _ p cs bs b hp hc hz a hb r=>
   have hpl:=(zB.mp hb).1
   refine qcB (e:=[some (.int (w:Int)),some (T.node cs bs).d,some (.int x),some (.tup (cs.map qah)),some (.tup (bs.map T.d)),some (.int p),some (.bl (atC cs p x)),none,none,none]) ?_
   rw [qdj hp hc]
   rw [qag (e1:=[some (.int (w:Int)),some (T.node cs bs).d,some (.int x),some (.tup (cs.map qah)),some (.tup (bs.map T.d)),some (.int p),some (.bl (atC cs p x)),none,none,none]) (h1:=h) (by rw [qaL (h1:=h) (qel rfl (by rw [zC]; lia))]; rfl)]
   refine qd4 ?_
   rw [qbb (h1:=h) (by rw [a]; rfl)]
   refine qd4 (qh1 ?_)
   rw [qcD (qaz (d:=.int (w:Int)) (h1:=h) rfl (qaz (qf0 hb) (qbg (d:=.int x) (h1:=h) rfl))),qgg dt ⟨w,half,x,b,rfl,hh,h0,.inr ⟨r,rfl⟩⟩ h]
   rfl
theorem qiM {xN:Addr} (ds:List D) (o:RO):¬ qbI xN 0 ds o:=by
 rintro⟨w,half,x,t,_,_,_,⟨t',r,_⟩ | ⟨r,_⟩⟩
 ·cases r
 ·cases r
theorem qeo {xN:Addr}:∀ n,DetX (qbI xN n)
 | 0=>fun ds o o' r=>absurd r (qiM ds o)
 | n+1=>(qd9 (qeo n)).det
theorem qcT {xN:Addr} (n:Nat):RunsX (qa6 10 (qcj xN (relF qcF) (qae 3 qcm) (relF qaN) (relF qaX) (relX (qbI xN n)) (relF qhI) (relF (qcr 5)))) (qbI xN (n+1)):=qd9 (qeo n)
noncomputable def delC (l:List Card) (x:Int):List Card:=l.filter fun c=>decide (c.1≠x)
theorem qgK (a b:List Card) (x:Int):delC (a++b) x=delC a x++delC b x:=List.filter_append ..
theorem qfD {l:List Card}{x:Int} (h:∀ c∈l,c.1≠x):delC l x=l:=List.filter_eq_self.mpr fun c hc=>by simpa using h c hc
theorem qkW {c:Card}{x:Int} (h:c.1=x) (r:List Card):delC (c::r) x=delC r x:=List.filter_cons_of_neg (by simp [h])
theorem qho {cs:List Card}{fs:List (List Card)}{p:Nat}{f:List Card} (hl:fs.length=cs.length+1) (hf:fs[p]?=some f):
  ∃ A R,(∀ g,T.inter (fs.set p g) cs=A++(g++R))/\(A=[]\/∃ k a A',k < p/\cs[k]?=some a/\A=A'++[a])/\
   (R=[]/\cs[p]?=none\/∃ c R',cs[p]?=some c/\R=c::R'/\∀ g d,T.inter (fs.set p g) (cs.set p d)=A++(g++d::R')):=by
 have hp:=(zB.mp hf).1
 have l1:(fs.take p).length=(cs.take p).length:=by rw [zM,zM]; lia
 refine⟨T.inter (fs.take p) (cs.take p),?_⟩
 have hA:T.inter (fs.take p) (cs.take p)=[]\/∃ k a A',k < p/\cs[k]?=some a/\T.inter (fs.take p) (cs.take p)=A'++[a]:=by
  cases p with
  | zero=>left; simp [T.inter]
  | succ k=>
   right
   have hk:k < cs.length:=by lia
   have hk2:k < fs.length:=by lia
   refine⟨k,cs[k],T.inter (fs.take k) (cs.take k)++fs[k],by lia,zA hk,?_⟩
   rw [List.take_add_one,List.take_add_one,zA hk,zA hk2]
   rw [show (some fs[k]).toList=[fs[k]] from rfl,show (some cs[k]).toList=[cs[k]] from rfl,qbA [fs[k]] [cs[k]] (by rw [zM,zM]; lia)]
   simp [T.inter]
 by_cases hc:p < cs.length
 ·have ec:cs[p]?=some cs[p]:=zA hc
  refine⟨cs[p]::T.inter (fs.drop (p+1)) (cs.drop (p+1)),fun g=>?_,hA,.inr ⟨_,_,ec,rfl,fun g d=>?_⟩⟩
  ·have e1:cs=cs.take p++cs[p]::cs.drop (p+1):=by rw [List.getElem_cons_drop,yU]
   rw [qck g hp]
   conv=>lhs; rw [e1]
   rw [qbA _ _ l1]
   rw [T.inter]
  ·rw [qck g hp,qck d hc,qbA _ _ l1,T.inter]
 ·have ec:cs[p]?=none:=yM (by lia)
  refine⟨[],fun g=>?_,hA,.inl ⟨rfl,ec⟩⟩
  have e1:cs.take p=cs:=yZ (by lia)
  rw [qck g hp,List.drop_of_length_le (show fs.length<=p+1 by lia)]
  have:=qbA (F1:=fs.take p) (C1:=cs.take p) [g] [] l1
  rw [zW,qej] at this
  rw [e1] at this |-
  rw [this,zW]
theorem del_at {cs:List Card}{fs:List (List Card)}{x:Int}{f:List Card} (hl:fs.length=cs.length+1) (hs:Srt (T.inter fs cs)) (hf:fs[qaf cs x]?=some f) (a:atC cs (qaf cs x) x=false):
  T.inter (fs.set (qaf cs x) (delC f x)) cs=delC (T.inter fs cs) x/\((∃ c∈T.inter fs cs,c.1=x)->∃ c∈f,c.1=x):=by
 obtain⟨A,R,e,hA,hR⟩:=qho hl hf
 have e0:T.inter fs cs=A++(f++R):=by
  have:=e f
  rwa [show fs.set (qaf cs x) f=fs from List.set_getElem?_self' hf] at this
 have lo:∀ y∈A,y.1 < x:=by
  rcases hA with rfl | ⟨k,b,A',hk,ek,rfl⟩
  ·exact fun y hy=>nomatch hy
  ·have:=qg6 hk ek
   rw [e0,yT,List.singleton_append] at hs
   intro y hy
   rcases zP.mp hy with z | z
   ·have:=(qcG hs).1 y z; lia
   ·rw [xE] at z; subst z; exact this
 have hi:∀ y∈R,x < y.1:=by
  rcases hR with⟨rfl,_⟩ | ⟨c,R',ec,rfl,_⟩
  ·exact fun y hy=>nomatch hy
  ·have g1:=qg7 ec
   have g2:c.1≠x:=by
    intro z
    unfold atC at a
    rw [ec] at a
    simp [z] at a
   rw [e0,<-yT] at hs
   intro y hy
   rcases zG.mp hy with rfl | z
   ·lia
   ·have:=(qcG hs).2.1 y z; lia
 refine⟨?_,?_⟩
 ·rw [e,e0,qgK,qgK,qfD (l:=A) fun c hc=>by have:=lo c hc; lia,qfD (l:=R) fun c hc=>by have:=hi c hc; lia]
 ·rintro⟨c,hc,ex⟩
  rw [e0] at hc
  rcases zP.mp hc with z | z
  ·have:=lo c z; lia
  ·rcases zP.mp z with z | z
   ·exact⟨c,z,ex⟩
   ·have:=hi c z; lia
where
 List.set_getElem?_self' {α:Type}{l:List α}{i:Nat}{a:α} (h:l[i]?=some a):l.set i a=l:=by
  obtain⟨hi,e⟩:=zB.mp h
  rw [<-e,List.set_getElem_self]
theorem ql6 {cs:List Card}{fs:List (List Card)}{x:Int}{f g:List Card}{d:Card} (hl:fs.length=cs.length+1) (hs:Srt (T.inter fs cs)) (hf:fs[qaf cs x]?=some f) (hg:f=g++[d]) (a:atC cs (qaf cs x) x=true):
  T.inter (fs.set (qaf cs x) g) (cs.set (qaf cs x) d)=delC (T.inter fs cs) x:=by
 obtain⟨A,R,e,hA,hR⟩:=qho hl hf
 have e0:T.inter fs cs=A++(f++R):=by
  have:=e f
  rwa [show fs.set (qaf cs x) f=fs from del_at.List.set_getElem?_self' hf] at this
 rcases hR with⟨_,ec⟩ | ⟨c,R',ec,rfl,e2⟩
 ·unfold atC at a
  rw [ec] at a
  cases a
 ·have cx:c.1=x:=by
   unfold atC at a
   rw [ec] at a
   simpa using a
  rw [e2,e0]
  rw [e0,<-yT] at hs
  obtain⟨s1,s2,_⟩:=qcG hs
  rw [<-yT A f,qgK,qfD (l:=A++f) fun y hy=>by have:=s1 y hy; lia,qkW cx,qfD (l:=R') fun y hy=>by have:=s2 y hy; lia,hg]
  simp
theorem qnA {cs:List Card}{x:Int}{p:Nat} (hp:qaf cs x=p) (hs:Srt cs) (a:atC cs p x=true):cs.take p++[]++cs.drop (p+1)=delC cs x:=by
 have hlt:p < cs.length:=by
  by_cases z:p < cs.length
  ·exact z
  ·unfold atC at a
   rw [yM (by lia)] at a
   cases a
 have ec:cs[p]?=some cs[p]:=zA hlt
 have cx:(cs[p]).1=x:=by
  unfold atC at a
  rw [ec] at a
  simpa using a
 have e1:cs=cs.take p++cs[p]::cs.drop (p+1):=by rw [List.getElem_cons_drop,yU]
 have hs':=hs
 rw [e1] at hs'
 obtain⟨s1,s2,_⟩:=qcG hs'
 conv=>rhs; rw [e1]
 rw [qgK,qfD (l:=cs.take p) fun y hy=>by have:=s1 y hy; lia,qkW cx,qfD (l:=cs.drop (p+1)) fun y hy=>by have:=s2 y hy; lia]
 simp
theorem LO.up_to {half:Nat}{n m:Nat}{t t':T}{c:Card} (r:LO half n t c t'):n<=m->LO half m t c t':=by
 induction r generalizing m with
 | bot e=>
  intro h
  obtain⟨k,rfl⟩:∃ k,m=k+1:=⟨m - 1,by lia⟩
  exact .bot e
 | up hb z r mm ih=>
  intro h
  obtain⟨k,rfl⟩:∃ k,m=k+1:=⟨m - 1,by lia⟩
  exact .up hb z (ih (by lia)) mm
theorem qcH {half w n p own:Nat}{cs:List Card}{bs:List T}{u:T} (hh:half=w / 2) (h0:0 < half) (hw:w<=500) (v:T.V half w own (n+2) (.node cs bs)) (c0:0 < cs.length) {cs':List Card} (lc:cs'.length=cs.length) (hp:p < bs.length) (vu:T.V half w (half - 1) (n+1) u):
  Short half w n cs' (bs.take p++[u]++bs.drop (p+1)) p:=by
 have kd:=v.kids (by lia)
 simp only [T.cs_node,T.bs_node] at kd
 have hi:=v.hi
 simp only [T.cs_node] at hi
 rw [qbW u hp]
 refine⟨by rw [zT]; exact hp,by lia,by lia,by rw [zT,lc]; exact kd.1,hh,h0,hw,fun i b e ne=>?_,fun b e=>?_⟩
 ·rw [zF (Ne.symm ne)] at e
  exact kd.2 b (zD e)
 ·rw [zI hp] at e
  cases e
  exact vu
theorem qju {half w:Nat}{x:Int} (hh:half=w / 2) (h0:0 < half) (hw:w<=500):∀ (n own:Nat) (t:T),n<=5->T.V half w own (n+1) t->Srt t.flat->(0 < n->0 < t.cs.length)->(∃ c∈t.flat,c.1=x)->
  ∃ t',TK half x (n+1) t t'/\t'.flat=delC t.flat x/\T.V half w (t.cs.length - 1) (n+1) t'/\t'.cs.length<=t.cs.length
 | 0,own,.node cs bs,_,v,so,_,hx=>by
  have hb:bs=[]:=v.leaf
  subst hb
  have hi:=v.hi
  simp only [T.cs_node] at hi
  rw [T.flat_node,yG,qbp] at so hx
  have a:atC cs (qaf cs x) x=true:=by
   obtain⟨c,hc,ex⟩:=hx
   exact atC_of so hc ex
  have e:=qnA rfl so a
  have hlt:qaf cs x < cs.length:=by
   by_cases z:qaf cs x < cs.length
   ·exact z
   ·unfold atC at a
    rw [yM (by lia)] at a
    cases a
  have ll:(cs.take (qaf cs x)++[]++cs.drop (qaf cs x+1)).length=cs.length - 1:=by
   rw [qaW (by lia) (by lia)]
   simp
   lia
  refine⟨_,.bot rfl (by lia) a,?_,.mk (by simp only [T.cs_node]; lia) (by lia) (fun _=>rfl) (by lia),by simp only [T.cs_node]; lia⟩
  rw [T.flat_node,T.flat_node,yG,qbp,qbp,e]
 | n+1,own,.node cs bs,hn,v,so,hc0,hx=>by
  have kd:=v.kids (by lia)
  simp only [T.cs_node,T.bs_node] at kd hc0
  have hc0:=hc0 (by lia)
  have hi:=v.hi
  simp only [T.cs_node] at hi
  have ple:=qb4 cs x
  obtain⟨b,eb⟩:∃ b,bs[qaf cs x]?=some b:=⟨_,zA (by lia)⟩
  have hpl:=(zB.mp eb).1
  have vb:=kd.2 b (zD eb)
  have lb:=vb.lo
  have sb:=qdl so (zD eb)
  rw [T.flat_node] at so hx
  have ef:(bs.map T.flat)[qaf cs x]?=some b.flat:=qfx eb
  have lf:(bs.map T.flat).length=cs.length+1:=by rw [zC]; exact kd.1
  cases a:atC cs (qaf cs x) x with
  | false=>
   obtain⟨d1,d2⟩:=del_at lf so ef a
   obtain⟨u,r,fu,vu,lu⟩:=qju hh h0 hw n half b (by lia) vb sb (by lia) (d2 hx)
   have S:=qcH hh h0 hw v hc0 rfl hpl (T.V_mono (by lia) vu)
   obtain⟨t',m,fl,vt,lt⟩:=qhY S
   refine⟨t',.down rfl (by lia) (by lia) a eb r m,?_,vt,lt⟩
   rw [fl,qbW u hpl,T.flat_node,T.flat_node,List.map_set,fu,d1]
  | true=>
   obtain⟨c,u,r,fe,vu,lu⟩:=qks hh h0 hw n half b vb (by lia)
   have hlt:qaf cs x < cs.length:=by
    by_cases z:qaf cs x < cs.length
    ·exact z
    ·unfold atC at a
     rw [yM (by lia)] at a
     cases a
   have lc:(cs.take (qaf cs x)++[c]++cs.drop (qaf cs x+1)).length=cs.length:=by rw [qbW c hlt,zT]
   have S:=qcH hh h0 hw v hc0 lc hpl (T.V_mono (by lia) vu)
   obtain⟨t',m,fl,vt,lt⟩:=qhY S
   refine⟨t',.here rfl (by lia) (by lia) a eb (r.up_to (by lia)) m,?_,by rw [lc] at vt; exact vt,by rw [lc] at lt; exact lt⟩
   rw [fl,qbW u hpl,qbW c hlt,T.flat_node,T.flat_node,List.map_set]
   exact ql6 lf so ef fe a
where
 atC_of {cs:List Card}{x:Int}{c:Card} (so:Srt cs) (hc:c∈cs) (ex:c.1=x):atC cs (qaf cs x) x=true:=by
  induction cs with
  | nil=>exact nomatch hc
  | cons d r ih=>
   rw [qbd]
   obtain⟨h1,h2⟩:=xM.mp so
   rcases zG.mp hc with rfl | z
   ·rw [if_neg (by lia)]
    unfold atC
    simp [ex]
   ·have:=h1 c z
    rw [if_pos (by lia)]
    have:=ih h2 z
    unfold atC at this |-
    simpa using this
theorem qoE {half w:Nat}{x:Int} (hw:w<=500):∀ (n own:Nat) (t:T),T.V half w own (n+1) t->(∀ c∈t.flat,c.1≠x)->NK x (n+1) t
 | n,own,.node cs bs,v,hx=>by
  have hi:=v.hi
  have bz:=v.bsz
  simp only [T.cs_node,T.bs_node] at hi bz
  rw [T.flat_node] at hx
  have a:atC cs (qaf cs x) x=false:=by
   unfold atC
   cases e:cs[qaf cs x]? with
   | none=>rfl
   | some c=>simpa using hx c ((qk4 _ _).subset (zD e))
  have ple:=qb4 cs x
  match n,v with
  | 0,v=>
   have hb:bs=[]:=v.leaf
   subst hb
   exact .bot rfl (by lia) a
  | n+1,v=>
   have kd:=v.kids (by lia)
   simp only [T.cs_node,T.bs_node] at kd
   obtain⟨b,eb⟩:∃ b,bs[qaf cs x]?=some b:=⟨_,zA (by lia)⟩
   have mb:=zD eb
   exact .down rfl (by lia) (by lia) a eb (qoE hw n half b (kd.2 b mb) fun c hc=>hx c ((qei _ _ _ (List.mem_map_of_mem mb)).subset hc))
noncomputable abbrev TH:=T×HT
def Pr (z y:TH):Prop:=∃ i:Nat,z.1.bs[i]?=some y.1/\z.2.ks[i]?=some y.2
def zok (z:TH):Prop:=z.2.ks.length=z.1.bs.length
noncomputable def pz (z:TH):P3:=(z.2.q,z.2.a,z.2.b)
noncomputable def xz (z:TH):X2:=(z.1.cs.map qah,z.2.ks.map fun k=>D.lst k.q)
structure Mv (zs zs':List TH):Prop where
 ok:∀ z∈zs',zok z
 pr:∀ z∈zs',∀ y,Pr z y->∃ z0∈zs,Pr z0 y
 pm:∃ l,(HT.allL (zs'.map Prod.snd)++l).Perm (HT.allL (zs.map Prod.snd))
theorem qbZ (q a b:Nat) (ks:List HT):(HT.node q a b ks).ks=ks:=rfl
theorem qdI (k:HT) (r:List HT):HT.allL (k::r)=k.all++HT.allL r:=by rw [HT.allL]
theorem qnS {α:Type}{zs:List α}{q:Nat}{zl zr:α} (h1:zs[q]?=some zl) (h2:zs[q+1]?=some zr):zs=zs.take q++[zl,zr]++zs.drop (q+2):=by
 obtain⟨l1,e1⟩:=zB.mp h1
 obtain⟨l2,e2⟩:=zB.mp h2
 rw [yT]
 conv=>lhs; rw [<-yU q zs,yQ l1,yQ l2,e1,e2]
 rfl
theorem qjo {zs:List TH}{q:Nat}{zl zr:TH} (new:List TH) (h1:zs[q]?=some zl) (h2:zs[q+1]?=some zr) (hz:∀ z∈zs,zok z) (hn:∀ z∈new,zok z/\∀ y,Pr z y->Pr zl y\/Pr zr y)
  (hp:∃ l,(HT.allL (new.map Prod.snd)++l).Perm (zl.2.all++zr.2.all)):Mv zs (zs.take q++new++zs.drop (q+2)):=by
 refine⟨fun z m=>?_,fun z m y py=>?_,?_⟩
 ·rcases zP.mp m with m | m
  ·rcases zP.mp m with m | m
   ·exact hz z (y7 m)
   ·exact (hn z m).1
  ·exact hz z (yO m)
 ·rcases zP.mp m with m | m
  ·rcases zP.mp m with m | m
   ·exact⟨z,y7 m,py⟩
   ·rcases (hn z m).2 y py with k | k
    ·exact⟨zl,zD h1,k⟩
    ·exact⟨zr,zD h2,k⟩
  ·exact⟨z,yO m,py⟩
 ·obtain⟨l,pm⟩:=hp
  refine⟨l,?_⟩
  have e:=congrArg (fun v=>HT.allL (v.map Prod.snd)) (qnS h1 h2)
  rw [e]
  rw [List.perm_iff_count] at pm |-
  intro a
  have:=pm a
  simp only [yC,yE,yG,qbG,qdI,List.count_append,show HT.allL []=[] from by rw [HT.allL],List.count_nil] at this |-
  lia
theorem qjX {z y:TH}{n i:Nat} (e1:(z.1.bs.take n)[i]?=some y.1) (e2:(z.2.ks.take n)[i]?=some y.2):Pr z y:=by
 have:i < n:=by
  have:=(zB.mp e1).1
  rw [zM] at this
  lia
 rw [xF this] at e1 e2
 exact⟨i,e1,e2⟩
theorem qjY {z y:TH}{n i:Nat} (e1:(z.1.bs.drop n)[i]?=some y.1) (e2:(z.2.ks.drop n)[i]?=some y.2):Pr z y:=by
 rw [xU] at e1 e2
 exact⟨n+i,e1,e2⟩
theorem qjZ {A1 A2:List T}{B1 B2:List HT}{i:Nat}{y:TH} (hl:B1.length=A1.length) (e1:(A1++A2)[i]?=some y.1) (e2:(B1++B2)[i]?=some y.2):(A1[i]?=some y.1/\B1[i]?=some y.2)\/∃ j:Nat,A2[j]?=some y.1/\B2[j]?=some y.2:=by
 by_cases h:i < A1.length
 ·rw [zK h] at e1
  rw [zK (by lia)] at e2
  exact .inl ⟨e1,e2⟩
 ·rw [yI (by lia)] at e1 e2
  rw [hl] at e2
  exact .inr ⟨_,e1,e2⟩
theorem qcp (k:HT):k.all=k.q::k.a::k.b::HT.allL k.ks:=by cases k; rw [qaF]; rfl
theorem qkT {α:Type} (l:List α):l=l.dropLast++l.drop (l.length - 1):=by
 rw [List.dropLast_eq_take,yU]
section
variable {half p:Nat}{cs:List Card}{t':T}{zs:List TH}
theorem gtz {i:Nat}{z:TH} (h:zs[i]?=some z):(zs.map xz)[i]?=some (z.1.cs.map qah,z.2.ks.map fun k=>D.lst k.q):=by
 rw [zE,h]; rfl
theorem ofz {i:Nat}{t:T} (h:(zs.map Prod.fst)[i]?=some t):∃ k,zs[i]?=some (t,k):=by
 rw [zE] at h
 obtain⟨⟨t2,k⟩,e,rfl⟩:=yB.mp h
 exact⟨k,e⟩
theorem qoH (m:Mend half cs (zs.map Prod.fst) p t') (hsh:∀ t,(zs.map Prod.fst)[p]?=some t->half<=t.cs.length+1) (hz:∀ z∈zs,zok z):
  ∃ zs',t'.bs=zs'.map Prod.fst/\MendL half (cs.map qah) (zs.map pz) (zs.map xz) p (t'.cs.map qah) (zs'.map pz) (zs'.map xz)/\Mv zs zs':=by
 cases m with
 | @asis t e hn=>
  obtain⟨k,ek⟩:=ofz e
  refine⟨zs,rfl,.asis (gtz ek) (by have:=hsh t e; simp only [zC]; lia),hz,fun z m y py=>⟨z,m,py⟩,[],by simp⟩
 | @left q c l s hp nb hs hl=>
  subst hp
  obtain⟨kl,el⟩:=ofz nb.hl
  obtain⟨kr,er⟩:=ofz nb.hr
  obtain⟨la,y,ey⟩:∃ la y,l.cs=la++[y]:=⟨l.cs.dropLast,l.cs.getLast (by intro z; rw [z] at hl; simp at hl),(xQ _).symm⟩
  have gl:=gtz el
  dsimp only at gl
  rw [ey,yC,yE,yG] at gl
  have k:=MendL.left (half:=half) (ps:=zs.map pz) (p:=q+1) rfl (getc nb.hc) gl (gtz er) (by simp only [zC]; lia) (by rw [ey] at hl; simp at hl |-; lia)
  have hcl:=(zB.mp nb.hc).1
  have hbl:=(zB.mp er).1
  have okl:kl.ks.length=l.bs.length:=hz _ (zD el)
  have okr:kr.ks.length=s.bs.length:=hz _ (zD er)
  refine⟨zs.take q++[(.node l.cs.dropLast l.bs.dropLast,.node kl.q kl.a kl.b kl.ks.dropLast),(.node (c::s.cs) (l.bs.drop (l.bs.length - 1)++s.bs),.node kr.q kr.a kr.b (kl.ks.drop (kl.ks.length - 1)++kr.ks))]++zs.drop (q+2),?_,?_,qjo _ el er hz ?_ ⟨[],?_⟩⟩
  ·unfold qfq
   simp only [T.bs_node,yC,yY,yS,yE,yG]
  ·have e1:(qfq cs (zs.map Prod.fst) q c l s).cs=cs.set q y:=by
    unfold qfq
    rw [T.cs_node,ey]
    rw [show (la++[y]).drop ((la++[y]).length - 1)=[y] by simp,qbW y hcl]
   rw [e1,qjB _ _ hbl,qbk,qbk,qbk,qbk,qbk]
   have e5:((zs.map pz).set (q+1) (pz (.node (c::s.cs) (l.bs.drop (l.bs.length - 1)++s.bs),.node kr.q kr.a kr.b (kl.ks.drop (kl.ks.length - 1)++kr.ks)))).set q (pz (.node l.cs.dropLast l.bs.dropLast,.node kl.q kl.a kl.b kl.ks.dropLast))=zs.map pz:=by
    rw [<-qbk,<-qbk]
    exact keep2 el er rfl rfl
   rw [e5]
   have e3:xz (.node (c::s.cs) (l.bs.drop (l.bs.length - 1)++s.bs),.node kr.q kr.a kr.b (kl.ks.drop (kl.ks.length - 1)++kr.ks))=(qah c::s.cs.map qah,(kl.ks.map fun k=>D.lst k.q).drop ((kl.ks.map fun k=>D.lst k.q).length - 1)++kr.ks.map fun k=>D.lst k.q):=by
    unfold xz
    simp [yS,qbZ]
   have e4:xz (.node l.cs.dropLast l.bs.dropLast,.node kl.q kl.a kl.b kl.ks.dropLast)=(la.map qah,(kl.ks.map fun k=>D.lst k.q).dropLast):=by
    unfold xz
    simp only [T.cs_node,qbZ]
    rw [ey,List.map_dropLast,List.map_dropLast]
    simp
   rw [e3,e4]
   exact k
  ·intro z hz'
   simp only [zG,yD,or_false] at hz'
   rcases hz' with rfl | rfl
   ·refine⟨by unfold zok; simp only [qbZ,T.bs_node,y8]; lia,fun y ⟨i,e1,e2⟩=>.inl ?_⟩
    simp only [qbZ,T.bs_node] at e1 e2
    rw [List.dropLast_eq_take] at e1 e2
    rw [okl] at e2
    exact qjX (z:=(l,kl)) e1 e2
   ·refine⟨by unfold zok; simp only [qbZ,T.bs_node,zJ,zQ]; lia,fun y ⟨i,e1,e2⟩=>?_⟩
    simp only [qbZ,T.bs_node] at e1 e2
    rw [okl] at e2
    rcases qjZ (by rw [zQ,zQ,okl]) e1 e2 with⟨e1,e2⟩ | ⟨j,e1,e2⟩
    ·exact .inl (qjY (z:=(l,kl)) e1 e2)
    ·exact .inr ⟨j,e1,e2⟩
  ·have e:=congrArg HT.allL (qkT kl.ks)
   rw [qbG] at e
   rw [List.perm_iff_count]
   intro a
   simp only [yE,yG,qdI,qaF,qcp kl,qcp kr,e,qbG,List.count_append,List.count_cons,List.count_nil,show HT.allL []=[] from by rw [HT.allL]]
   lia
 | @right c s r nb hs hr hnl=>
  obtain⟨kl,el⟩:=ofz nb.hl
  obtain⟨kr,er⟩:=ofz nb.hr
  obtain⟨y,ra,ey⟩:∃ y ra,r.cs=y::ra:=by
   cases hq:r.cs with
   | nil=>rw [hq] at hr; simp at hr
   | cons x r0=>exact⟨x,r0,rfl⟩
  have gr:=gtz er
  dsimp only at gr
  rw [ey,yE] at gr
  have k:=MendL.right (half:=half) (ps:=zs.map pz) (p:=p) (getc nb.hc) (gtz el) gr (by simp only [zC]; lia) (by rw [ey] at hr; simp at hr |-; lia) (by
   intro q l hq hl
   rw [zE] at hl
   obtain⟨l',hl',rfl⟩:=yB.mp hl
   have:=hnl l'.1 (by lia) (by rw [show p - 1=q by lia,zE,hl']; rfl)
   simp only [xz,zC]
   exact this)
  have hcl:=(zB.mp nb.hc).1
  have hbl:=(zB.mp er).1
  have okl:kl.ks.length=s.bs.length:=hz _ (zD el)
  have okr:kr.ks.length=r.bs.length:=hz _ (zD er)
  refine⟨zs.take p++[(.node (s.cs++[c]) (s.bs++r.bs.take 1),.node kl.q kl.a kl.b (kl.ks++kr.ks.take 1)),(.node (r.cs.drop 1) (r.bs.drop 1),.node kr.q kr.a kr.b (kr.ks.drop 1))]++zs.drop (p+2),?_,?_,qjo _ el er hz ?_ ⟨[],?_⟩⟩
  ·unfold qfp
   simp only [T.bs_node,yC,yY,yS,yE,yG]
  ·have e1:(qfp cs (zs.map Prod.fst) p c s r).cs=cs.set p y:=by
    unfold qfp
    rw [T.cs_node,ey]
    exact qbW y hcl
   rw [e1,qjB _ _ hbl,qbk,qbk,qbk,qbk,qbk]
   have e5:((zs.map pz).set (p+1) (pz (.node (r.cs.drop 1) (r.bs.drop 1),.node kr.q kr.a kr.b (kr.ks.drop 1)))).set p (pz (.node (s.cs++[c]) (s.bs++r.bs.take 1),.node kl.q kl.a kl.b (kl.ks++kr.ks.take 1)))=zs.map pz:=by
    rw [<-qbk,<-qbk]
    exact keep2 el er rfl rfl
   rw [e5,List.set_comm _ _ (by lia)]
   have e3:xz (.node (s.cs++[c]) (s.bs++r.bs.take 1),.node kl.q kl.a kl.b (kl.ks++kr.ks.take 1))=(s.cs.map qah++[qah c],(kl.ks.map fun k=>D.lst k.q)++(kr.ks.map fun k=>D.lst k.q).take 1):=by
    unfold xz
    simp [yY,qbZ]
   have e4:xz (.node (r.cs.drop 1) (r.bs.drop 1),.node kr.q kr.a kr.b (kr.ks.drop 1))=(ra.map qah,(kr.ks.map fun k=>D.lst k.q).drop 1):=by
    unfold xz
    simp only [T.cs_node,qbZ]
    rw [ey,yS,yS]
    rfl
   rw [e3,e4]
   exact k
  ·intro z hz'
   simp only [zG,yD,or_false] at hz'
   rcases hz' with rfl | rfl
   ·refine⟨by unfold zok; simp only [qbZ,T.bs_node,zJ,zM]; lia,fun y ⟨i,e1,e2⟩=>?_⟩
    simp only [qbZ,T.bs_node] at e1 e2
    rcases qjZ okl e1 e2 with⟨e1,e2⟩ | ⟨j,e1,e2⟩
    ·exact .inl ⟨i,e1,e2⟩
    ·exact .inr (qjX (z:=(r,kr)) e1 e2)
   ·refine⟨by unfold zok; simp only [qbZ,T.bs_node,zQ]; lia,fun y ⟨i,e1,e2⟩=>.inr ?_⟩
    simp only [qbZ,T.bs_node] at e1 e2
    exact qjY (z:=(r,kr)) e1 e2
  ·have e:=congrArg HT.allL (yU 1 kr.ks)
   rw [qbG] at e
   rw [List.perm_iff_count]
   intro a
   simp only [yE,yG,qdI,qaF,qcp kl,qcp kr,<-e,qbG,List.count_append,List.count_cons,List.count_nil,show HT.allL []=[] from by rw [HT.allL]]
   lia
 | @joinL q c l s hp nb hs hl hr=>
  subst hp
  obtain⟨kl,el⟩:=ofz nb.hl
  obtain⟨kr,er⟩:=ofz nb.hr
  have k:=MendL.join (half:=half) (ps:=zs.map pz) (p:=q+1) (s:=q) rfl (gtz er) (by simp only [zC]; lia) (getc nb.hc) (gtz el) (gtz er) (by
   intro q' l' hq hl'
   have:q'=q:=by lia
   subst this
   rw [gtz el] at hl'
   cases hl'
   simp only [zC]
   exact hl) (by
   intro r' hr'
   rw [zE] at hr'
   obtain⟨r2,hr2,rfl⟩:=yB.mp hr'
   simp only [xz,zC]
   exact hr r2.1 (by rw [zE,hr2]; rfl))
  exact join_K nb el er k hz
 | @joinR c s r hp nb hs hr=>
  subst hp
  obtain⟨kl,el⟩:=ofz nb.hl
  obtain⟨kr,er⟩:=ofz nb.hr
  have k:=MendL.join (half:=half) (ps:=zs.map pz) (p:=0) (s:=0) rfl (gtz el) (by simp only [zC]; lia) (getc nb.hc) (gtz el) (gtz er) (by
   intro q' l' hq hl'
   lia) (by
   intro r' hr'
   rw [gtz er] at hr'
   cases hr'
   simp only [zC]
   exact hr)
  exact join_K nb el er k hz
where
 keep2 {q:Nat}{zl zr a b:TH} (el:zs[q]?=some zl) (er:zs[q+1]?=some zr) (ha:pz a=pz zl) (hb:pz b=pz zr):((zs.set (q+1) b).set q a).map pz=zs.map pz:=by
  rw [qbk,qbk,ha,hb]
  apply List.ext_getElem?
  intro i
  by_cases h1:q=i
  ·subst h1
   rw [zI (by simp; exact (zB.mp el).1),zE,el]
   rfl
  ·rw [zF h1]
   by_cases h2:q+1=i
   ·subst h2
    rw [zI (by simp; exact (zB.mp er).1),zE,er]
    rfl
   ·rw [zF h2]
 join_K {p q:Nat}{c:Card}{l r:T}{kl kr:HT} (nb:Nb cs (zs.map Prod.fst) q c l r) (el:zs[q]?=some (l,kl)) (er:zs[q+1]?=some (r,kr))
   (k:MendL half (cs.map qah) (zs.map pz) (zs.map xz) p ((cs.map qah).eraseIdx q) ((zs.map pz).eraseIdx (q+1)) (((zs.map xz).eraseIdx (q+1)).set q (l.cs.map qah++[qah c]++r.cs.map qah,(kl.ks.map fun k=>D.lst k.q)++kr.ks.map fun k=>D.lst k.q))) (hz:∀ z∈zs,zok z):
   ∃ zs',(qeh cs (zs.map Prod.fst) q c l r).bs=zs'.map Prod.fst/\MendL half (cs.map qah) (zs.map pz) (zs.map xz) p ((qeh cs (zs.map Prod.fst) q c l r).cs.map qah) (zs'.map pz) (zs'.map xz)/\Mv zs zs':=by
  have hbl:=(zB.mp er).1
  have okl:kl.ks.length=l.bs.length:=hz _ (zD el)
  have okr:kr.ks.length=r.bs.length:=hz _ (zD er)
  refine⟨zs.take q++[(.node (l.cs++[c]++r.cs) (l.bs++r.bs),.node kl.q kl.a kl.b (kl.ks++kr.ks))]++zs.drop (q+2),?_,?_,qjo _ el er hz ?_ ⟨[kr.q,kr.a,kr.b],?_⟩⟩
  ·unfold qeh
   simp only [T.bs_node,yC,yY,yS,yE,yG]
  ·have e1:(qeh cs (zs.map Prod.fst) q c l r).cs=cs.eraseIdx q:=by
    unfold qeh
    rw [T.cs_node,qjC]
   rw [e1,qmL _ hbl,qbk,qbk,<-qbN,<-qbN,<-qbN]
   have e3:xz (.node (l.cs++[c]++r.cs) (l.bs++r.bs),.node kl.q kl.a kl.b (kl.ks++kr.ks))=(l.cs.map qah++[qah c]++r.cs.map qah,(kl.ks.map fun k=>D.lst k.q)++kr.ks.map fun k=>D.lst k.q):=by
    unfold xz
    simp [qbZ]
   have e5:((zs.map pz).eraseIdx (q+1)).set q (pz (.node (l.cs++[c]++r.cs) (l.bs++r.bs),.node kl.q kl.a kl.b (kl.ks++kr.ks)))=(zs.map pz).eraseIdx (q+1):=by
    apply List.ext_getElem?
    intro i
    by_cases h1:q=i
    ·subst h1
     have hq:q < ((zs.map pz).eraseIdx (q+1)).length:=by
      rw [List.length_eraseIdx,if_pos (by rw [zC]; exact hbl),zC]
      lia
     rw [zI hq,xY,if_pos (by lia),zE,el]
     rfl
    ·rw [zF h1]
   rw [e3,e5]
   exact k
  ·intro z hz'
   rw [xE] at hz'
   subst hz'
   refine⟨by unfold zok; simp only [qbZ,T.bs_node,zJ]; lia,fun y ⟨i,e1,e2⟩=>?_⟩
   simp only [qbZ,T.bs_node] at e1 e2
   rcases qjZ okl e1 e2 with⟨e1,e2⟩ | ⟨j,e1,e2⟩
   ·exact .inl ⟨i,e1,e2⟩
   ·exact .inr ⟨j,e1,e2⟩
  ·rw [List.perm_iff_count]
   intro a
   simp only [yE,yG,qdI,qaF,qcp kl,qcp kr,qbG,List.count_append,List.count_cons,List.count_nil,show HT.allL []=[] from by rw [HT.allL]]
   lia
end
theorem qe8:∀ {ks:List HT}{i j:Nat}{k1 k2:HT},(HT.allL ks).Nodup->ks[i]?=some k1->ks[j]?=some k2->i≠j->∀ x∈k1.all,x∉k2.all
 | [],i,j,k1,k2,nd,e1,e2,ne=>by simp at e1
 | k::r,i,j,k1,k2,nd,e1,e2,ne=>by
  rw [qdI,yR] at nd
  obtain⟨n1,n2,n3⟩:=nd
  intro x m1 m2
  match i,j with
  | 0,0=>exact ne rfl
  | 0,j+1=>
   simp only [zU,Option.some.injEq,zL] at e1 e2
   subst e1
   exact n3 x m1 x ((qbq (zD e2)).subset m2) rfl
  | i+1,0=>
   simp only [zU,Option.some.injEq,zL] at e1 e2
   subst e2
   exact n3 x m2 x ((qbq (zD e1)).subset m1) rfl
  | i+1,j+1=>
   simp only [zL] at e1 e2
   exact qe8 n2 e1 e2 (by lia) x m1 m2
theorem qiW (k:HT):k.q∈k.all:=by rw [qcp]; simp
theorem qdS (k:HT):k.a∈k.all:=by rw [qcp]; simp
theorem qfL (k:HT):k.b∈k.all:=by rw [qcp]; simp
theorem qhl (k:HT) {x:Nat} (h:x∈HT.allL k.ks):x∈k.all:=by rw [qcp]; simp [h]
theorem qfS {k:HT} (nd:k.all.Nodup):k.q≠k.a/\k.q≠k.b/\k.a≠k.b/\k.q∉HT.allL k.ks/\k.a∉HT.allL k.ks/\k.b∉HT.allL k.ks/\(HT.allL k.ks).Nodup:=by
 rw [qcp] at nd
 simp only [xA,zG,not_or] at nd
 obtain⟨⟨a1,a2,a3⟩,⟨b1,b2⟩,c1,d⟩:=nd
 exact⟨a1,a2,b1,a3,b2,c1,d⟩
section
variable {h:Hh}{k:HT}{cs:List Card}{bs:List T}
theorem qe9 (r:At h k (.node cs bs)) {i:Nat}{z:TH} (e:(List.zip bs k.ks)[i]?=some z):bs[i]?=some z.1/\k.ks[i]?=some z.2/\At h z.2 z.1:=by
 obtain⟨i1,i2,i3,i4,i5,i6⟩:=r.inv
 rw [List.getElem?_zip_eq_some] at e
 exact⟨e.1,e.2,i5 i _ _ e.2 e.1⟩
theorem qnM (r:At h k (.node cs bs)):Rw h k.b ((List.zip bs k.ks).map pz) ((List.zip bs k.ks).map xz):=by
 obtain⟨i1,i2,i3,i4,i5,i6⟩:=r.inv
 simp only [T.bs_node] at i4
 refine⟨?_,by simp,fun i p x e1 e2=>?_⟩
 ·rw [i3,xT]
  have:(List.zip bs k.ks).map Prod.snd=k.ks:=List.map_snd_zip (by lia)
  conv=>lhs; rw [<-this,xT]
  rfl
 ·rw [zE] at e1 e2
  obtain⟨z,ez,rfl⟩:=yB.mp e1
  rw [ez] at e2
  cases e2
  obtain⟨a1,a2,a3,_⟩:=(qe9 r ez).2.2.inv
  exact⟨a1,a2,a3⟩
theorem qnN (r:At h k (.node cs bs)) (nd:k.all.Nodup):Dj k.a k.b ((List.zip bs k.ks).map pz):=by
 obtain⟨o1,o2,o3,o4,o5,o6,o7⟩:=qfS nd
 have idx:∀ p∈(List.zip bs k.ks).map pz,∃ (i:Nat) (z:TH),k.ks[i]?=some z.2/\p=pz z:=fun p hp=>by
  obtain⟨z,hz,rfl⟩:=yW.mp hp
  obtain⟨i,e⟩:=yL.mp hz
  exact⟨i,z,(qe9 r e).2.1,rfl⟩
 have inn:∀ {i:Nat}{z:TH},k.ks[i]?=some z.2->∀ x∈z.2.all,x∈HT.allL k.ks:=fun e x hx=>(qbq (zD e)).subset hx
 refine⟨o3,fun p hp=>?_,fun p hp=>?_,fun p hp q hq=>?_,fun i j p q hp hq ne=>?_⟩
 ·obtain⟨i,z,e,rfl⟩:=idx p hp
  exact⟨fun y=>o5 (y▸inn e _ (qiW _)),fun y=>o5 (y▸inn e _ (qdS _)),fun y=>o5 (y▸inn e _ (qfL _))⟩
 ·obtain⟨i,z,e,rfl⟩:=idx p hp
  exact⟨fun y=>o6 (y▸inn e _ (qiW _)),fun y=>o6 (y▸inn e _ (qdS _)),fun y=>o6 (y▸inn e _ (qfL _))⟩
 ·obtain⟨i,z,e,rfl⟩:=idx p hp
  obtain⟨j,y,e',rfl⟩:=idx q hq
  by_cases ij:i=j
  ·subst ij
   rw [e] at e'
   have e':z.2=y.2:=Option.some.inj e'
   have n:=qfS (o7.sublist (qbq (zD e)))
   unfold pz
   rw [<-e']
   exact⟨n.1,n.2.1,n.2.2.1⟩
  ·have d:=qe8 o7 e e' ij
   exact⟨fun g=>d _ (qiW _) (show z.2.q∈y.2.all from (show z.2.q=y.2.a from g)▸qdS _),fun g=>d _ (qiW _) (show z.2.q∈y.2.all from (show z.2.q=y.2.b from g)▸qfL _),fun g=>d _ (qdS _) (show z.2.a∈y.2.all from (show z.2.a=y.2.b from g)▸qfL _)⟩
 ·rw [zE] at hp hq
  obtain⟨z,ez,rfl⟩:=yB.mp hp
  obtain⟨y,ey,rfl⟩:=yB.mp hq
  have d:=qe8 o7 (qe9 r ez).2.1 (qe9 r ey).2.1 ne
  exact⟨fun g=>d _ (qdS _) (show z.2.a∈y.2.all from (show z.2.a=y.2.a from g)▸qdS _),fun g=>d _ (qfL _) (show z.2.b∈y.2.all from (show z.2.b=y.2.b from g)▸qfL _),fun g=>d _ (qiW _) (show z.2.q∈y.2.all from (show z.2.q=y.2.q from g)▸qiW _)⟩
theorem qjM {half w p:Nat}{t':T} (hh:half=w / 2) (r:At h k (.node cs bs)) (nd:k.all.Nodup) (hp:p < bs.length) (m:Mend half cs bs p t') (hsh:∀ t,bs[p]?=some t->half<=t.cs.length+1) (z1:cs.length<=1000) (z2:bs.length<=1000) (z3:∀ b∈bs,b.cs.length<=1000/\b.bs.length<=1000):
  ∃ k' h',qae 8 qaZ [.int w,.lst k.q,.int p] h=some (.non,h')/\At h' k' t'/\k'.q=k.q/\k'.all.Nodup/\(∀ x∈k'.all,x∈k.all)/\(∀ z,z < h.length->z∉k.all->h'[z]?=h[z]?)/\h.length<=h'.length:=by
 obtain⟨i1,i2,i3,i4,i5,i6⟩:=r.inv
 simp only [T.bs_node,T.cs_node] at i2 i4
 obtain⟨o1,o2,o3,o4,o5,o6,o7⟩:=qfS nd
 have mf:(List.zip bs k.ks).map Prod.fst=bs:=List.map_fst_zip (by lia)
 have ms:(List.zip bs k.ks).map Prod.snd=k.ks:=List.map_snd_zip (by lia)
 have hz:∀ z∈List.zip bs k.ks,zok z:=fun z hz=>by
  obtain⟨i,e⟩:=yL.mp hz
  exact (qe9 r e).2.2.inv.2.2.2.1
 obtain⟨zs',eb',mL,mv⟩:=qoH (zs:=List.zip bs k.ks) (by rw [mf]; exact m) (by rw [mf]; exact hsh) hz
 have lz:(List.zip bs k.ks).length=bs.length:=by rw [List.length_zip]; lia
 have sz:Sz (cs.map qah) ((List.zip bs k.ks).map xz):=by
  refine⟨by rw [zC]; exact z1,by rw [zC,lz]; exact z2,fun x hx=>?_⟩
  obtain⟨z,hz',rfl⟩:=yW.mp hx
  have:=z3 z.1 (by rw [<-mf]; exact List.mem_map_of_mem hz')
  have:=hz z hz'
  unfold zok at this
  unfold xz
  simp only [zC]
  lia
 obtain⟨h',q1,c1,rw1,fr⟩:=qlA (qnM r) (qnN r nd) i2 sz i1 hh (by rw [zC,lz]; exact hp) mL
 obtain⟨l,pm⟩:=mv.pm
 rw [ms] at pm
 have sub:∀ x∈HT.allL (zs'.map Prod.snd),x∈HT.allL k.ks:=fun x hx=>pm.subset (zX _ hx)
 have keep:∀ {n:Nat}{o:O},h[n]?=some o->n≠k.a->n≠k.b->(∀ z∈List.zip bs k.ks,n≠z.2.a/\n≠z.2.b)->h'[n]?=some o:=fun {n o} e n1 n2 n3=>fr.2 n o e n1 n2 fun p hp=>by
  obtain⟨z,hz',rfl⟩:=yW.mp hp
  exact n3 z hz'
 have zin:∀ z∈List.zip bs k.ks,∀ x∈z.2.all,x∈HT.allL k.ks:=fun z hz' x hx=>by
  have:z.2∈k.ks:=by rw [<-ms]; exact List.mem_map_of_mem hz'
  exact (qbq this).subset hx
 refine⟨.node k.q k.a k.b (zs'.map Prod.snd),h',q1,?_,rfl,?_,?_,?_,fr.1⟩
 ·rw [<-T.eta t',eb']
  refine .mk (keep i1 o1 o2 fun z hz'=>⟨fun g=>o4 (g▸zin z hz' _ (qdS _)),fun g=>o4 (g▸zin z hz' _ (qfL _))⟩) c1 (by rw [rw1.out,xT,xT]; rfl) (by simp) fun i k1 t1 e1 e2=>?_
  rw [zE] at e1 e2
  obtain⟨z,ez,rfl⟩:=yB.mp e1
  rw [ez] at e2
  cases e2
  obtain⟨a1,a2,a3⟩:=rw1.at' i (pz z) (xz z) (by rw [zE,ez]; rfl) (by rw [zE,ez]; rfl)
  have mz:=zD ez
  obtain⟨zt,zk⟩:=z
  have hk:zk=.node zk.q zk.a zk.b zk.ks:=by cases zk; rfl
  rw [show (zt,zk).1=.node zt.cs zt.bs from (T.eta zt).symm]
  show At h' zk _
  rw [hk]
  refine .mk a1 a2 a3 (mv.ok _ mz) fun j kk tt f1 f2=>?_
  obtain⟨z0,hz0,j0,g1,g2⟩:=mv.pr _ mz (tt,kk) ⟨j,f2,f1⟩
  obtain⟨i0,ei0⟩:=yL.mp hz0
  obtain⟨_,ek0,r0⟩:=qe9 r ei0
  have ra:At h kk tt:=r0.inv.2.2.2.2.1 j0 kk tt g2 g1
  have insd:∀ x∈kk.all,x∈HT.allL z0.2.ks:=fun x hx=>(qbq (zD g2)).subset hx
  refine ra.frame fun x hx=>?_
  have hx0:=insd x hx
  have hxk:=zin z0 hz0 x (qhl _ hx0)
  have hlt:=ra.lt x hx
  rw [zA hlt]
  refine keep (zA hlt) (fun g=>o5 (g▸hxk)) (fun g=>o6 (g▸hxk)) fun z1 hz1=>?_
  obtain⟨i1',ei1⟩:=yL.mp hz1
  obtain⟨_,ek1,_⟩:=qe9 r ei1
  by_cases ij:i0=i1'
  ·subst ij
   rw [ei0] at ei1
   cases ei1
   have n:=qfS (o7.sublist (qbq (zD ek0)))
   exact⟨fun g=>n.2.2.2.2.1 (g▸hx0),fun g=>n.2.2.2.2.2.1 (g▸hx0)⟩
  ·have d:=qe8 o7 ek0 ek1 ij x (qhl _ hx0)
   exact⟨fun g=>d (g▸qdS _),fun g=>d (g▸qfL _)⟩
 ·rw [qaF]
  have n0:(HT.allL (zs'.map Prod.snd)).Nodup:=(yR.mp (pm.nodup_iff.mpr o7)).1
  simp only [xA,zG,not_or]
  exact⟨⟨o1,o2,fun g=>o4 (sub _ g)⟩,⟨o3,fun g=>o5 (sub _ g)⟩,fun g=>o6 (sub _ g),n0⟩
 ·intro x hx
  rw [qaF] at hx
  rw [qcp]
  simp only [zG] at hx |-
  rcases hx with hx | hx | hx | hx
  ·exact .inl hx
  ·exact .inr (.inl hx)
  ·exact .inr (.inr (.inl hx))
  ·exact .inr (.inr (.inr (sub x hx)))
 ·intro z hz' nz
  rw [zA hz']
  refine keep (zA hz') (fun g=>nz (g▸qdS _)) (fun g=>nz (g▸qfL _)) fun z1 hz1=>⟨fun g=>nz ?_,fun g=>nz ?_⟩
  ·exact qhl _ (zin z1 hz1 _ (g▸qdS _))
  ·exact qhl _ (zin z1 hz1 _ (g▸qfL _))
end
theorem qkn {half w n p:Nat}{cs:List Card}{bs:List T}{t':T} (S:Short half w n cs bs p) (m:Mend half cs bs p t'):T.V half w (cs.length - 1) (n+2) t':=by
 have k1:=S.bl
 have c0:=S.c0
 have lo:∀ {i b},bs[i]?=some b->i≠p->half<=b.cs.length:=fun e ne=>(S.ok _ _ e ne).lo
 cases m with
 | @asis t e hn=>
  refine .mk (by lia) S.cw (by lia) fun _=>⟨k1,fun b hb=>?_⟩
  obtain⟨i,e'⟩:=yL.mp hb
  by_cases h:i=p
  ·subst h
   rw [e] at e'
   cases e'
   have vt:=S.at' t e
   cases t with
   | node c2 b2=>
    unfold T.V at vt |-
    exact⟨by have:c2.length+1≠half:=hn; have:=S.h0; lia,vt.2⟩
  ·exact S.ok i b e' h
 | @left q c l s hp nb hs hl=>
  subst hp
  exact T.V_mono (by lia) (qle S nb hl hs).1
 | @right c s r nb hs hr hnl=>exact T.V_mono (by lia) (qld S nb hr hs).1
 | @joinL q c l s hp nb hs hl hr=>
  subst hp
  have:=lo nb.hl (by lia)
  exact (qiL S nb (.inr rfl) (by lia)).1
 | @joinR c s r hp nb hs hr=>
  subst hp
  have:=lo nb.hr (by lia)
  exact (qiL S nb (.inl rfl) (by lia)).1
section
variable {half w:Nat} (hh:half=w / 2) (h0:0 < half) (hw:w<=500)
include hh h0 hw
theorem lo_V {n:Nat}{t t':T}{c:Card} (r:LO half n t c t'):∀ {m own:Nat},T.V half w own (m+1) t->0 < t.cs.length->T.V half w (t.cs.length - 1) (m+1) t':=by
 induction r with
 | @bot n cs c e=>
  intro m own v hc
  have hi:=v.hi
  simp only [T.cs_node] at hi hc |-
  match m,v with
  | 0,v=>exact .mk (by rw [y8]; exact zS _) (by rw [y8]; lia) (fun _=>rfl) (by lia)
  | m+1,v=>
   have:=(v.kids (by lia)).1
   simp only [T.bs_node,xG] at this
   lia
 | @up n cs bs b c b' t' hb z r mm ih=>
  intro m own v hc
  simp only [T.cs_node] at hc |-
  match m,v with
  | 0,v=>
   have hl:bs=[]:=v.leaf
   rw [hl] at hb
   simp at hb
  | m+1,v=>
   have kd:=v.kids (by lia)
   simp only [T.cs_node,T.bs_node] at kd
   have vb:=kd.2 b (zD hb)
   have lb:=vb.lo
   have vu:=ih vb (by lia)
   exact qkn (qcH hh h0 hw v hc rfl (by lia) (T.V_mono (by lia) vu)) mm
theorem tk_V {x:Int}{n:Nat}{t t':T} (r:TK half x n t t'):∀ {m own:Nat},T.V half w own (m+1) t->(0 < m->0 < t.cs.length)->T.V half w (t.cs.length - 1) (m+1) t':=by
 induction r with
 | @bot n p cs hp hc a=>
  intro m own v hc0
  have hi:=v.hi
  simp only [T.cs_node] at hi hc0 |-
  have hlt:p < cs.length:=by
   by_cases z:p < cs.length
   ·exact z
   ·unfold atC at a
    rw [yM (by lia)] at a
    cases a
  have ll:(cs.take p++[]++cs.drop (p+1)).length=cs.length - 1:=by
   rw [qaW (by lia) (by lia)]
   simp
   lia
  match m,v with
  | 0,v=>exact .mk (by lia) (by lia) (fun _=>rfl) (by lia)
  | m+1,v=>
   have:=(v.kids (by lia)).1
   simp only [T.bs_node,xG] at this
   lia
 | @down n p cs bs b u t' hp hc hz a hb r mm ih=>
  intro m own v hc0
  simp only [T.cs_node] at hc0 |-
  match m,v with
  | 0,v=>
   have hl:bs=[]:=v.leaf
   rw [hl] at hb
   simp at hb
  | m+1,v=>
   have hpl:=(zB.mp hb).1
   have kd:=v.kids (by lia)
   simp only [T.cs_node,T.bs_node] at kd
   have vb:=kd.2 b (zD hb)
   have lb:=vb.lo
   have vu:=ih vb (by lia)
   exact qkn (qcH hh h0 hw v (hc0 (by lia)) rfl hpl (T.V_mono (by lia) vu)) mm
 | @here n p cs bs b u t' c hp hc hz a hb r mm=>
  intro m own v hc0
  simp only [T.cs_node] at hc0 |-
  match m,v with
  | 0,v=>
   have hl:bs=[]:=v.leaf
   rw [hl] at hb
   simp at hb
  | m+1,v=>
   have hpl:=(zB.mp hb).1
   have kd:=v.kids (by lia)
   simp only [T.cs_node,T.bs_node] at kd
   have vb:=kd.2 b (zD hb)
   have lb:=vb.lo
   have vu:=lo_V hh h0 hw r vb (by lia)
   have hlt:p < cs.length:=by
    by_cases z:p < cs.length
    ·exact z
    ·unfold atC at a
     rw [yM (by lia)] at a
     cases a
   have lc:(cs.take p++[c]++cs.drop (p+1)).length=cs.length:=by rw [qbW c hlt,zT]
   have:=qkn (qcH hh h0 hw v (hc0 (by lia)) lc hpl (T.V_mono (by lia) vu)) mm
   rw [lc] at this
   exact this
end
noncomputable def UpS (half w:Nat):Nat->List Fm->T->T->Prop
 | _,[],u,t'=>u=t'
 | n,f::r,u,t'=>∃ u1,Short half w n f.cs (f.bs.set f.p u) f.p/\Mend half f.cs (f.bs.set f.p u) f.p u1/\UpS half w (n+1) r u1 t'
theorem UpS.app {half w:Nat}:∀ {n:Nat}{a b:List Fm}{u v t':T},UpS half w n a u v->UpS half w (n+a.length) b v t'->UpS half w n (a++b) u t'
 | n,[],b,u,v,t',h1,h2=>by
  cases h1
  exact h2
 | n,f::r,b,u,v,t',⟨u1,s,m,h1⟩,h2=>⟨u1,s,m,h1.app (by rw [zO,show n+(r.length+1)=n+1+r.length by lia] at h2; exact h2)⟩
section
variable {half w:Nat} (hh:half=w / 2) (h0:0 < half) (hw:w<=500)
include hh h0 hw
theorem qmi {x:Int}{t':T}:∀ {fs:List Fm}{tb:T}{n jb own:Nat},(∀ f∈fs,FmW x w f)->TK half x n (qbz fs tb) t'->T.V half w own (jb+1+fs.length) (qbz fs tb)->(0 < jb+fs.length->0 < (qbz fs tb).cs.length)->
  ∃ m u own',TK half x m tb u/\UpS half w jb fs u t'/\T.V half w own' (jb+1) tb/\(0 < jb->0 < tb.cs.length)
 | [],tb,n,jb,own,hf,r,v,hc=>⟨n,t',own,r,rfl,v,hc⟩
 | f::fs,tb,n,jb,own,hf,r,v,hc=>by
  obtain⟨m,u1,own',r1,up,v1,hc1⟩:=qmi (fs:=fs) (tb:=f.t tb) (jb:=jb+1) (fun g hg=>hf g (zR _ hg)) r (by rw [zO,show jb+1+(fs.length+1)=jb+1+1+fs.length by lia] at v; exact v) (fun _=>hc (by rw [zO]; lia))
  have F:=hf f zV
  obtain⟨o1,o2⟩:=F.ok
  have hc1:=hc1 (by lia)
  have fp:f.p < f.bs.length:=by lia
  unfold Fm.t at r1 v1 hc1
  simp only [T.cs_node] at hc1
  have kd:=v1.kids (by lia)
  simp only [T.cs_node,T.bs_node] at kd
  have vb:=kd.2 tb (yL.mpr ⟨f.p,zI fp⟩)
  have lb:=vb.lo
  generalize hB:f.bs.set f.p tb=B at r1
  cases r1 with
  | @bot n p cs hp hcz a=>
   have:=congrArg List.length hB
   rw [zT,xG] at this
   lia
  | @here n p cs bs b u t' c hp hcz hz a hb r mm=>
   rw [<-hp,<-F.p,F.no] at a
   cases a
  | @down n p cs bs b u t' hp hcz hz a hb r mm=>
   have ep:p=f.p:=by rw [<-hp,F.p]
   subst ep
   rw [<-hB,zI fp] at hb
   cases hb
   rw [<-hB,qbW u (by rw [zT]; exact fp),xS] at mm
   have vu:=tk_V hh h0 hw r vb (by lia)
   have S:=qcH hh h0 hw v1 hc1 rfl (by rw [zT]; exact fp) (T.V_mono (show half - 1<=tb.cs.length - 1 by lia) vu)
   rw [qbW u (by rw [zT]; exact fp),xS] at S
   exact⟨_,u,_,r,⟨u1,S,mm,up⟩,vb,fun _=>by lia⟩
structure FmL (w:Nat) (f:Fm):Prop where
 ok:f.ok
 p:f.p=f.cs.length
 cw:f.cs.length<=w
 bw:f.bs.length=f.cs.length+1
theorem qmr {c:Card}{t':T}:∀ {fs:List Fm}{tb:T}{n jb own:Nat},(∀ f∈fs,FmL w f)->LO half n (qbz fs tb) c t'->T.V half w own (jb+1+fs.length) (qbz fs tb)->0 < (qbz fs tb).cs.length->
  ∃ m u own',LO half m tb c u/\UpS half w jb fs u t'/\T.V half w own' (jb+1) tb/\0 < tb.cs.length
 | [],tb,n,jb,own,hf,r,v,hc=>⟨n,t',own,r,rfl,v,hc⟩
 | f::fs,tb,n,jb,own,hf,r,v,hc=>by
  obtain⟨m,u1,own',r1,up,v1,hc1⟩:=qmr (fs:=fs) (tb:=f.t tb) (jb:=jb+1) (fun g hg=>hf g (zR _ hg)) r (by rw [zO,show jb+1+(fs.length+1)=jb+1+1+fs.length by lia] at v; exact v) hc
  have F:=hf f zV
  obtain⟨o1,o2⟩:=F.ok
  have bw:=F.bw
  have pp:=F.p
  have fp:f.p < f.bs.length:=by lia
  unfold Fm.t at r1 v1 hc1
  simp only [T.cs_node] at hc1
  have kd:=v1.kids (by lia)
  simp only [T.cs_node,T.bs_node] at kd
  have vb:=kd.2 tb (yL.mpr ⟨f.p,zI fp⟩)
  have lb:=vb.lo
  generalize hB:f.bs.set f.p tb=B at r1
  cases r1 with
  | @bot n cs c e=>
   have:=congrArg List.length hB
   rw [zT,xG] at this
   lia
  | @up n cs bs b c b' t' hb z r mm=>
   have lB:B.length=f.bs.length:=by rw [<-hB,zT]
   have ep:B.length - 1=f.p:=by lia
   rw [ep] at hb mm
   rw [<-hB,zI fp] at hb
   cases hb
   rw [<-hB,qbW b' (by rw [zT]; exact fp),xS] at mm
   have vu:=lo_V hh h0 hw r vb (by lia)
   have S:=qcH hh h0 hw v1 hc1 rfl (by rw [zT]; exact fp) (T.V_mono (show half - 1<=tb.cs.length - 1 by lia) vu)
   rw [qbW b' (by rw [zT]; exact fp),xS] at S
   exact⟨_,b',_,r,⟨u1,S,mm,up⟩,vb,by lia⟩
end
theorem qim {k k':HT} (e:k'.q=k.q):∀ fs:List Fm,(qaV fs k').q=(qaV fs k).q
 | []=>e
 | f::r=>qim (k:=f.k k) (k':=f.k k') rfl r
theorem qcU:∀ (a b:List Fm) (k:HT),qaV (a++b) k=qaV b (qaV a k)
 | [],b,k=>rfl
 | f::r,b,k=>qcU r b (f.k k)
theorem qec:∀ (a b:List Fm) (t:T),qbz (a++b) t=qbz b (qbz a t)
 | [],b,t=>rfl
 | f::r,b,t=>qec r b (f.t t)
theorem Grow.same' {h h':Hh} (g:Grow h h') {z:Nat} (hz:z < h.length):h'[z]?=h[z]?:=by
 obtain⟨j,rfl⟩:=g
 exact zK hz
noncomputable def takB:FS:=(qaU (fc (qae 8 qaZ) (fAll [(fV 0),(f2 oIx (f2 oIx (fV 3) (fV 7)) (fC (.int 0))),(f2 oIx (f2 oIx (fV 3) (fV 7)) (fC (.int 1)))])))
theorem qlu {half w n p:Nat}{cs:List Card}{bs:List T} (S:Short half w n cs bs p):(∀ t,bs[p]?=some t->half<=t.cs.length+1)/\cs.length<=1000/\bs.length<=1000/\∀ b∈bs,b.cs.length<=1000/\b.bs.length<=1000:=by
 have h1:=S.cw
 have h2:=S.bl
 have h3:=S.hw
 have h4:=S.h0
 refine⟨fun t e=>by have:=(S.at' t e).lo; lia,by lia,by lia,fun b hb=>?_⟩
 obtain⟨i,e⟩:=yL.mp hb
 by_cases z:i=p
 ·subst z
  have v:=S.at' b e
  have:=v.hi
  have:=v.bsz
  lia
 ·have v:=S.ok i b e z
  have:=v.hi
  have:=v.bsz
  lia
noncomputable def fmW (f:Fm):Nat×Nat:=(f.q,f.p)
theorem qkk {half w n top y:Nat}{x:Int}{FS:List Fm}{k0:HT}{u0 t':T}{h0:Hh}{lw:Nat×Nat}{z4 z5 z6 z7:Option D} (hh:half=w / 2) (ok:∀ f∈FS,f.ok) (r:At h0 (qaV FS k0) (qbz FS u0)) (nd:(qaV FS k0).all.Nodup) (up:UpS half w n FS u0 t')
  (ey:h0[y]?=some (.lst ((FS.reverse.map fmW++[lw]).map wayD))) (yk:y∉(qaV FS k0).all):
  ∃ z h',forG (fun _=>True) 7 takB ((List.range FS.length).map fun (i:Nat)=>D.int ((FS.length:Int) - 1 - i)) [some (.int w),some (.lst top),some (.int x),some (.lst y),z4,z5,z6,z7] h0=.nx [some (.int w),some (.lst top),some (.int x),some (.lst y),z4,z5,z6,z] h'/\
   ∃ k',At h' k' t'/\k'.q=(qaV FS k0).q/\(∀ z,z < h0.length->z∉(qaV FS k0).all->h'[z]?=h0[z]?)/\h0.length<=h'.length/\(∀ x∈k'.all,x∈(qaV FS k0).all\/h0.length<=x)/\k'.all.Nodup:=by
 have yl:=(zB.mp ey).1
 obtain⟨e',h',q,ks,us,z,rfl,r',nd',q',sub',up',kp',l'⟩:=qcL (chk:=fun _=>True) (i:=7) (t:=takB)
  (P:=fun s e hh=>∃ ks us z,e=[some (.int w),some (.lst top),some (.int x),some (.lst y),z4,z5,z6,z]/\At hh (qaV (FS.drop s) ks) (qbz (FS.drop s) us)/\(qaV (FS.drop s) ks).all.Nodup/\(qaV (FS.drop s) ks).q=(qaV FS k0).q/\(∀ x∈(qaV (FS.drop s) ks).all,x∈(qaV FS k0).all\/h0.length<=x)/\UpS half w (n+s) (FS.drop s) us t'/\(∀ z,z < h0.length->z∉(qaV FS k0).all->hh[z]?=h0[z]?)/\h0.length<=hh.length)
  ((List.range FS.length).map fun (i:Nat)=>D.int ((FS.length:Int) - 1 - i)) [some (.int w),some (.lst top),some (.int x),some (.lst y),z4,z5,z6,z7] h0 ⟨k0,u0,z7,rfl,r,nd,rfl,fun x hx=>.inl hx,up,fun _ _ _=>rfl,zS _⟩ (fun _ _ _ _=>trivial) (by
   rintro s d e2 h2 hk ⟨ks,us,z,rfl,r2,nd2,q2,sub2,up2,kp2,l2⟩
   rw [zE] at hk
   obtain⟨s',hs',rfl⟩:=yB.mp hk
   obtain⟨hlt,hs2⟩:=zB.mp hs'
   rw [xB] at hlt
   rw [List.getElem_range] at hs2
   subst hs2
   obtain⟨f,hf⟩:∃ f,FS[s]?=some f:=⟨_,zA hlt⟩
   have ed:FS.drop s=f::FS.drop (s+1):=by
    rw [yQ hlt]
    rw [zA hlt] at hf
    cases hf
    rfl
   have okr:∀ g∈FS.drop (s+1),g.ok:=fun g hg=>ok g (yO hg)
   rw [ed] at r2 nd2 q2 sub2 up2
   obtain⟨u1,S,m,up3⟩:=up2
   obtain⟨s1,s2,s3,s4⟩:=qlu S
   have r3:At h2 (f.k ks) (f.t us):=qgC okr r2
   have nd3:(f.k ks).all.Nodup:=nd2.sublist (qci okr (f.k ks))
   have sb3:∀ x∈(f.k ks).all,x∈(qaV FS k0).all\/h0.length<=x:=fun x hx=>sub2 x ((qci okr (f.k ks)).subset hx)
   obtain⟨k',h3,q3,a3,kq3,ndk3,sb',kp3,l3⟩:=qjM (k:=f.k ks) (cs:=f.cs) (bs:=f.bs.set f.p us) hh r3 nd3 S.hp m s1 s2 s3 s4
   obtain⟨rN,ndN,sbN⟩:=qfk okr r2 nd2 kq3 a3 (fun x hx nx=>kp3 x (r2.lt x hx) nx) ndk3 fun x hx=>.inl (sb' x hx)
   have y2:h2[y]?=some (.lst ((FS.reverse.map fmW++[lw]).map wayD)):=by rw [kp2 y yl yk]; exact ey
   have wi:f2 oIx (fV 3) (fV 7) [some (.int w),some (.lst top),some (.int x),some (.lst y),z4,z5,z6,some (.int ((FS.length:Int) - 1 - s))] h2=.ok (wayD (fmW f)) h2:=by
    have ei:(FS.length:Int) - 1 - s=((FS.length - 1 - s:Nat):Int):=by lia
    rw [qap (x:=.lst y) (h1:=h2) rfl (y:=.int ((FS.length - 1 - s:Nat):Int)) (h2:=h2) (by rw [<-ei]; rfl),qaB y2,qaS,zE,zK (by rw [zC,List.length_reverse]; lia),zE,List.getElem?_reverse (by lia),show FS.length - 1 - (FS.length - 1 - s)=s by lia,hf]
    rfl
   refine⟨[some (.int w),some (.lst top),some (.int x),some (.lst y),z4,z5,z6,some (.int ((FS.length:Int) - 1 - s))],h3,?_,k',u1,_,rfl,rN,ndN,?_,?_,by rw [show n+(s+1)=n+s+1 by lia]; exact up3,?_,by lia⟩
   ·show takB [some (.int w),some (.lst top),some (.int x),some (.lst y),z4,z5,z6,some (.int ((FS.length:Int) - 1 - s))] h2=_
    unfold takB
    refine qbM (d:=.non) ?_
    rw [qaK (ds:=[.int w,.lst f.q,.int f.p]) (h1:=h2) (qaz (d:=.int w) (h1:=h2) rfl (qb3 (by rw [qap wi (qaP _ _ _)]; rfl) (by rw [qap wi (qaP _ _ _)]; rfl)))]
    rw [show D.lst f.q=.lst (f.k ks).q from rfl,q3]
    rfl
   ·rw [qim kq3]
    exact q2
   ·intro x hx
    rcases sbN x hx with z | z
    ·exact sub2 x z
    ·exact .inr (by lia)
   ·intro z z1 z2
    rw [kp3 z (by lia) fun g=>by rcases sb3 z g with q | q; exact z2 q; lia]
    exact kp2 z z1 z2)
 rw [zC,xB,List.drop_length] at r' nd' q' sub' up'
 refine⟨z,h',q,ks,?_,q',kp',l',sub',nd'⟩
 have:us=t':=up'
 rw [<-this]
 exact r'
theorem qmw {h:Hh}{n m:Nat}{xs:List D} (e:h[n]?=some (.lst xs)) (e2:h[m]?=some (.lst [])):oEq (.lst n) (.lst m) h=some (.bl xs.isEmpty,h):=by
 unfold oEq
 have:eqD 24 h (.lst n) (.lst m)=some xs.isEmpty:=by
  show (match qat h n,qat h m with | some xs,some ys=>eqL (eqD 23 h) xs ys | _,_=>none)=_
  rw [qaH e,qaH e2]
  cases xs<;>rfl
 rw [this]
 rfl
noncomputable def topO (t:T):T:=match t.cs,t.bs with
 | [],b::_=>b
 | _,_=>t
theorem qjs {t:T} (h:t.cs≠[]):topO t=t:=by
 unfold topO
 split
 ·rename_i e _
  exact absurd e h
 ·rfl
theorem qjt {t:T} (h:t.bs=[]):topO t=t:=by
 unfold topO
 split
 ·rename_i e
  rw [h] at e
  cases e
 ·rfl
theorem qjr {t b:T}{r:List T} (h:t.cs=[]) (e:t.bs=b::r):topO t=b:=by
 unfold topO
 rw [h,e]
noncomputable def takT:FS:=(fSeq (fFor 7 (qcC rng3 [(f2 oSub (fc oLen (fAll [(fV 3)])) (fC (.int 2))),(f1 oNeg (fC (.int 1))),(f1 oNeg (fC (.int 1)))]) takB)
  (fSeq (fIfS (fAnd (fB (f2 oEq (f2 oIx (fV 1) (fC (.int 0))) (fLst []))) (fB (f2 oNe (f2 oIx (fV 1) (fC (.int 1))) (fLst [])))) (fRet (f2 oIx (f2 oIx (fV 1) (fC (.int 1))) (fC (.int 0)))) qaC)
  (fRet (fV 1))))
noncomputable def takW:FS:=(fSeq (qaU (fM qa0 (fV 3) [(fTup [(fV 6),(fc oLen (fAll [(f2 oIx (fV 6) (fC (.int 0)))]))])]))
  (fSet 6 (f2 oIx (f2 oIx (fV 6) (fC (.int 1))) (f1 oNeg (fC (.int 1))))))
noncomputable def takH:FS:=(fSeq (fSet 6 (f2 oIx (f2 oIx (fV 4) (fC (.int 1))) (fV 5)))
  (fSeq (qb7 (fB (f2 oNe (f2 oIx (fV 6) (fC (.int 1))) (fLst []))) takW 2000)
  (fSeq (qaU (fM qa0 (fV 3) [(fTup [(fV 6),(fC (.int 0))])]))
  (qca (fM oPop (f2 oIx (fV 6) (fC (.int 0))) []) (f2 oIx (fV 4) (fC (.int 0))) (fV 5)))))
theorem qib:qa8 (qae 4 (qao (qae 2 qan) (qae 3 qbK))) (qae 3 qbK) (qae 8 qaZ)=
 (fSeq (fSet 3 (fc (qae 4 (qao (qae 2 qan) (qae 3 qak))) (fAll [(fV 1),(fV 2)])))
  (fSeq (fIfS (fNot (fB (fc (qae 3 qak) (fAll [(f2 oIx (fV 3) (f1 oNeg (fC (.int 1)))),(fV 2)])))) (fRet (fV 1)) qaC)
  (fSeq (fUnp [4,5] (f2 oIx (fV 3) (f1 oNeg (fC (.int 1)))))
  (fSeq (fIfS (fB (f2 oEq (f2 oIx (fV 4) (fC (.int 1))) (fLst []))) (qaU (fM qbP (f2 oIx (fV 4) (fC (.int 0))) [(fV 5)])) takH) takT)))):=rfl
theorem qgX {half w n y:Nat}{x:Int}{FS:List Fm}{k k0:HT}{u0 t':T}{h0:Hh}{lw:Nat×Nat}{z4 z5 z6 z7:Option D} (hh:half=w / 2) (ok:∀ f∈FS,f.ok) (hl:FS.length<=1000) (hq:(qaV FS k0).q=k.q) (r:At h0 (qaV FS k0) (qbz FS u0)) (nd:(qaV FS k0).all.Nodup) (up:UpS half w n FS u0 t')
  (ey:h0[y]?=some (.lst ((FS.reverse.map fmW++[lw]).map wayD))) (yk:y∉(qaV FS k0).all):
  ∃ kr h',takT [some (.int w),some (.lst k.q),some (.int x),some (.lst y),z4,z5,z6,z7] h0=.rt (.lst kr.q) h'/\At h' kr (topO t')/\(∀ z,z < h0.length->z∉(qaV FS k0).all->h'[z]?=h0[z]?)/\h0.length<=h'.length/\kr.all.Nodup:=by
 obtain⟨z,h1,q1,k',r1,kq,kp,l1,sb,ndk⟩:=qkk (top:=k.q) (x:=x) (z4:=z4) (z5:=z5) (z6:=z6) (z7:=z7) hh ok r nd up ey yk
 obtain⟨i1,i2,i3,i4,i5,i6⟩:=r1.inv
 rw [hq] at kq
 rw [kq] at i1
 have it:qcC rng3 [(f2 oSub (fc oLen (fAll [(fV 3)])) (fC (.int 2))),(f1 oNeg (fC (.int 1))),(f1 oNeg (fC (.int 1)))] [some (.int w),some (.lst k.q),some (.int x),some (.lst y),z4,z5,z6,z7] h0=.ok ⟨(List.range FS.length).map fun (i:Nat)=>D.int ((FS.length:Int) - 1 - i),fun _=>True⟩ h0:=by
  refine qhr (n:=FS.length) ?_ (by lia)
  have l3:fc oLen (fAll [(fV 3)]) [some (.int w),some (.lst k.q),some (.int x),some (.lst y),z4,z5,z6,z7] h0=.ok (.int ((FS.length+1:Nat):Int)) h0:=by
   rw [qaK (qbg (d:=.lst y) (h1:=h0) rfl),qbo ey,zC,zJ,zC,List.length_reverse]
   rfl
  rw [qaz (qfb l3 (qaP _ _ _)) rfl,show ((FS.length+1:Nat):Int) - 2=(FS.length:Int) - 1 by lia]
 have c1:fB (f2 oEq (f2 oIx (fV 1) (fC (.int 0))) (fLst [])) [some (.int w),some (.lst k.q),some (.int x),some (.lst y),z4,z5,z6,z] h1=.ok (t'.cs.map qah).isEmpty (h1++[.lst []]):=by
  refine qa5 ?_
  rw [qap (x:=.lst k'.a) (h1:=h1) (by rw [qap (x:=.lst k.q) (h1:=h1) rfl (y:=.int ((0:Nat):Int)) (h2:=h1) rfl,qaB i1]; rfl) (y:=.lst h1.length) (h2:=h1++[.lst []]) rfl,qmw ((Grow.app _ _).at' i2) (qbu _ _)]
  rfl
 have ix1:∀ hx:Hh,hx[k.q]?=some (.lst [.lst k'.a,.lst k'.b])->f2 oIx (fV 1) (fC (.int 1)) [some (.int w),some (.lst k.q),some (.int x),some (.lst y),z4,z5,z6,z] hx=.ok (.lst k'.b) hx:=fun hx ex=>by
  rw [qap (x:=.lst k.q) (h1:=hx) rfl (y:=.int ((1:Nat):Int)) (h2:=hx) rfl,qaB ex]
  rfl
 have g1:=Grow.app h1 [O.lst []]
 have g2:Grow h1 (h1++[.lst []]++[.lst []]):=g1.app1 _
 have c2:fB (f2 oNe (f2 oIx (fV 1) (fC (.int 1))) (fLst [])) [some (.int w),some (.lst k.q),some (.int x),some (.lst y),z4,z5,z6,z] (h1++[.lst []])=.ok (!(k'.ks.map fun k=>D.lst k.q).isEmpty) (h1++[.lst []]++[.lst []]):=by
  refine qa5 ?_
  rw [qap (ix1 _ (g1.at' i1)) (y:=.lst (h1++[O.lst []]).length) (h2:=h1++[.lst []]++[.lst []]) rfl,qfU (g2.at' i3) (qbu _ _)]
  rfl
 have fin:∀ {h2:Hh},Grow h1 h2->(∀ z,z < h0.length->z∉(qaV FS k0).all->h2[z]?=h0[z]?)/\h0.length<=h2.length:=fun {h2} g=>⟨fun z z1 z2=>by rw [g.same' (by lia)]; exact kp z z1 z2,by have:=g.len; lia⟩
 unfold takT
 rw [qag ((qcR it).trans q1)]
 cases hc:t'.cs with
 | cons c0 cr=>
  refine⟨k',h1++[.lst []],?_,?_,(fin g1).1,(fin g1).2,ndk⟩
  ·rw [qag (e1:=[some (.int w),some (.lst k.q),some (.int x),some (.lst y),z4,z5,z6,z]) (h1:=h1++[.lst []]) (by
    rw [qaL (andF (by rw [c1,hc]; rfl))]
    rfl),kq]
   exact qaO rfl
  ·rw [qjs (by rw [hc]; exact fun q=>nomatch q)]
   exact r1.grow g1
 | nil=>
  cases hb:t'.bs with
  | nil=>
   have hk:k'.ks=[]:=xP.mp (by rw [i4,hb]; rfl)
   refine⟨k',h1++[.lst []]++[.lst []],?_,?_,(fin g2).1,(fin g2).2,ndk⟩
   ·rw [qag (e1:=[some (.int w),some (.lst k.q),some (.int x),some (.lst y),z4,z5,z6,z]) (h1:=h1++[.lst []]++[.lst []]) (by
     rw [qaL (andT (by rw [c1,hc]; rfl) (by rw [c2,hk]; rfl))]
     rfl),kq]
    exact qaO rfl
   ·rw [qjt hb]
    exact r1.grow g2
  | cons b br=>
   obtain⟨k2,kr2,hk⟩:∃ k2 kr2,k'.ks=k2::kr2:=by
    cases hq2:k'.ks with
    | nil=>rw [hq2,hb] at i4; simp at i4
    | cons a b=>exact⟨a,b,rfl⟩
   refine⟨k2,h1++[.lst []]++[.lst []],?_,?_,(fin g2).1,(fin g2).2,(qfS ndk).2.2.2.2.2.2.sublist (qbq (by rw [hk]; exact zV))⟩
   ·refine qba ?_
    rw [qbb (andT (by rw [c1,hc]; rfl) (by rw [c2,hk]; rfl))]
    refine qaO ?_
    rw [qap (ix1 _ (g2.at' i1)) (y:=.int ((0:Nat):Int)) (h2:=h1++[.lst []]++[.lst []]) rfl,qaB (g2.at' i3),hk,qaS]
    rfl
   ·rw [qjr hc hb]
    exact (i5 0 k2 b (by rw [hk]; rfl) (by rw [hb]; rfl)).grow g2
theorem TK.hit {half:Nat}{x:Int}{n:Nat}{t u:T} (r:TK half x n t u) (h:t.bs=[]):atC t.cs (qaf t.cs x) x=true/\u=.node (t.cs.eraseIdx (qaf t.cs x)) []:=by
 cases r with
 | @bot n p cs hp hc a=>
  subst hp
  exact⟨a,by rw [qjC]; rfl⟩
 | @down n p cs bs b u t' hp hc hz a hb r m=>
  have h:bs=[]:=h
  rw [h] at hb
  simp at hb
 | @here n p cs bs b u t' c hp hc hz a hb r m=>
  have h:bs=[]:=h
  rw [h] at hb
  simp at hb
theorem TK.mid {half:Nat}{x:Int}{n:Nat}{t u:T} (r:TK half x n t u) (h:t.bs≠[]) (ha:atC t.cs (qaf t.cs x) x=true):∃ b c v,t.bs[qaf t.cs x]?=some b/\LO half 5 b c v/\Mend half (t.cs.take (qaf t.cs x)++[c]++t.cs.drop (qaf t.cs x+1)) (t.bs.take (qaf t.cs x)++[v]++t.bs.drop (qaf t.cs x+1)) (qaf t.cs x) u:=by
 cases r with
 | @bot n p cs hp hc a=>exact absurd rfl h
 | @down n p cs bs b u t' hp hc hz a hb r m=>
  have ha:atC cs (qaf cs x) x=true:=ha
  rw [hp,a] at ha
  cases ha
 | @here n p cs bs b u t' c hp hc hz a hb r m=>
  subst hp
  exact⟨b,c,u,hb,r,m⟩
theorem LO.leaf {half n:Nat}{t u:T}{c:Card} (r:LO half n t c u) (h:t.bs=[]) (hc:0 < t.cs.length):t.cs=t.cs.dropLast++[c]/\u=.node t.cs.dropLast []:=by
 cases r with
 | @bot n cs c e=>
  refine⟨?_,rfl⟩
  have hc:0 < cs.length:=hc
  have h2:cs≠[]:=fun z=>by rw [z] at hc; simp at hc
  have:=(xQ h2).symm
  rw [List.getLast_eq_getElem] at this
  rw [zA (by omega)] at e
  cases e
  exact this
 | @up n cs bs b c b' t' hb z r m=>
  have h:bs=[]:=h
  rw [h] at hb
  simp at hb
theorem qjI {half w:Nat} (hh:half=w / 2) (h0:0 < half) (hw:w<=500) {x:Int}{own j n:Nat}{k:HT}{t t':T}{h:Hh} (hj:j<=500) (v:T.V half w own (j+1) t) (so:Srt t.flat) (r:At h k t) (nd:k.all.Nodup) (tk:TK half x n t t') (hc:0 < j->0 < t.cs.length):
  ∃ kr h',qae 8 (qa8 (qae 4 (qao (qae 2 qan) (qae 3 qbK))) (qae 3 qbK) (qae 8 qaZ)) [.int w,.lst k.q,.int x] h=some (.lst kr.q,h')/\At h' kr (topO t')/\(∀ z,z < h.length->z∉k.all->h'[z]?=h[z]?)/\h.length<=h'.length/\kr.all.Nodup:=by
 obtain⟨y,h1,fs,kb,tb,jb,ownb,q1,g1,ly,ey,S,fin⟩:=qfj (show w<=900 by lia) (x:=x) (by lia) v so r
 have lv:=S.lv
 obtain⟨jc,rfl⟩:∃ jc,jb=jc+1:=⟨jb - 1,by
  have v:=S.v
  match jb,v with
  | 0,v=>exact v.elim
  | jb+1,v=>lia⟩
 have r1:=r.grow g1
 have rb:=S.at r1
 have okf:=S.oks
 have sbk:kb.all.Sublist k.all:=by rw [<-S.pk]; exact qci okf kb
 have ndb:=nd.sublist sbk
 obtain⟨i1,i2,i3,i4,i5,i6⟩:=rb.inv
 have yk:y∉k.all:=fun m=>by have:=r.lt y m; lia
 have cbw:tb.cs.length<=w:=S.v.hi
 obtain⟨m,u,own',tkb,up,vb,hcb⟩:=qmi hh h0 hw (fs:=fs) (tb:=tb) (jb:=jc) (own:=own) S.fm (by rw [S.pt]; exact tk) (by rw [S.pt,<-lv]; exact v) (by rw [S.pt]; exact fun z=>hc (by lia))
 have ha:atC tb.cs (qaf tb.cs x) x=true:=by
  by_cases z:tb.bs=[]
  ·exact (tkb.hit z).1
  ·exact fin.resolve_left z
 have plt:qaf tb.cs x < tb.cs.length:=by
  by_cases z:qaf tb.cs x < tb.cs.length
  ·exact z
  ·unfold atC at ha
   rw [yM (by lia)] at ha
   cases ha
 have wl:=fun z4 z5 z6 z7=>qc2 (e:=[some (.int w),some (.lst k.q),some (.int x),some (.lst y),z4,z5,z6,z7]) (i:=3) rfl ey
 have pre:∀ (o:Out) (rest:FS),rest [some (.int w),some (.lst k.q),some (.int x),some (.lst y),some (.lst kb.q),some (.int (qaf tb.cs x)),none,none] h1=o->
   (fSeq (fSet 3 (fc (qae 4 (qao (qae 2 qan) (qae 3 qak))) (fAll [(fV 1),(fV 2)]))) (fSeq (fIfS (fNot (fB (fc (qae 3 qak) (fAll [(f2 oIx (fV 3) (f1 oNeg (fC (.int 1)))),(fV 2)])))) (fRet (fV 1)) qaC) (fSeq (fUnp [4,5] (f2 oIx (fV 3) (f1 oNeg (fC (.int 1))))) rest))) (qaM 8 [.int w,.lst k.q,.int x]) h=o:=fun o rest ho=>by
  rw [qag (e1:=[some (.int w),some (.lst k.q),some (.int x),some (.lst y),none,none,none,none]) (h1:=h1) (qaq (by rw [qaK (ds:=[.lst k.q,.int x]) (h1:=h) rfl,q1]; rfl))]
  rw [qag (e1:=[some (.int w),some (.lst k.q),some (.int x),some (.lst y),none,none,none,none]) (h1:=h1) (by
   rw [qaL (h1:=h1)]
   ·rfl
   ·refine notB (b:=true) (qa5 ?_)
    rw [qaK (qb3 (wl none none none none) (d2:=.int x) (h2:=h1) rfl),qea rb,ha]
    rfl)]
  rw [qag (qh9 (i:=4) (j:=5) (wl none none none none) rfl)]
  exact ho
 have ix1:∀ (z6 z7:Option D) (hx:Hh),hx[kb.q]?=some (.lst [.lst kb.a,.lst kb.b])->f2 oIx (fV 4) (fC (.int 1)) [some (.int w),some (.lst k.q),some (.int x),some (.lst y),some (.lst kb.q),some (.int (qaf tb.cs x)),z6,z7] hx=.ok (.lst kb.b) hx:=fun z6 z7 hx ex=>by
  rw [qap (x:=.lst kb.q) (h1:=hx) rfl (y:=.int ((1:Nat):Int)) (h2:=hx) rfl,qaB ex]
  rfl
 have ix0:∀ (z6 z7:Option D) (hx:Hh),hx[kb.q]?=some (.lst [.lst kb.a,.lst kb.b])->f2 oIx (fV 4) (fC (.int 0)) [some (.int w),some (.lst k.q),some (.int x),some (.lst y),some (.lst kb.q),some (.int (qaf tb.cs x)),z6,z7] hx=.ok (.lst kb.a) hx:=fun z6 z7 hx ex=>by
  rw [qap (x:=.lst kb.q) (h1:=hx) rfl (y:=.int ((0:Nat):Int)) (h2:=hx) rfl,qaB ex]
  rfl
 have gn:=Grow.app h1 [O.lst []]
 have g2:Grow h (h1++[.lst []]):=g1.app1 _
 have c1:fB (f2 oEq (f2 oIx (fV 4) (fC (.int 1))) (fLst [])) [some (.int w),some (.lst k.q),some (.int x),some (.lst y),some (.lst kb.q),some (.int (qaf tb.cs x)),none,none] h1=.ok (kb.ks.map fun k=>D.lst k.q).isEmpty (h1++[.lst []]):=by
  refine qa5 ?_
  rw [qap (ix1 none none _ i1) (y:=.lst h1.length) (h2:=h1++[.lst []]) rfl,qmw (gn.at' i3) (qbu _ _)]
  rfl
 have r2:=r.grow g2
 have rb2:=rb.grow gn
 have ey2:=gn.at' ey
 generalize h1++[O.lst []]=h2 at g2 c1 r2 rb2 ey2 gn
 obtain⟨j1,j2,j3,j4,j5,j6⟩:=rb2.inv
 have aM:kb.a∈k.all:=sbk.subset (qeX kb)
 have ya:y≠kb.a:=fun e=>yk (e▸aM)
 rw [qib]
 by_cases hbs:tb.bs=[]
 ·
  obtain⟨_,hu⟩:=tkb.hit hbs
  have hks:kb.ks=[]:=xP.mp (by rw [i4,hbs]; rfl)
  have ep:qbP (.lst kb.a) [.int (qaf tb.cs x)] h2=some (qah tb.cs[qaf tb.cs x],h2.set kb.a (.lst ((tb.cs.eraseIdx (qaf tb.cs x)).map qah))):=by
   rw [qeb (d:=qah tb.cs[qaf tb.cs x]) j2 (by rw [zE,zA plt]; rfl) (by lia),qbN]
  have rs:At (h2.set kb.a (.lst ((tb.cs.eraseIdx (qaf tb.cs x)).map qah))) kb u:=by
   have:=rb2.setA ndb (tb.cs.eraseIdx (qaf tb.cs x))
   rw [hbs] at this
   rw [hu]
   exact this
  obtain⟨rN,ndN,sbN⟩:=qfk okf (k:=kb) (k':=kb) (t:=tb) (by rw [S.pk,S.pt]; exact r2) (by rw [S.pk]; exact nd) rfl rs (fun z z1 z2=>zF (show kb.a≠z from fun e=>z2 (e▸qeX kb))) ndb fun z m=>.inl m
  obtain⟨kr,h',q,a,kp,l,ndr⟩:=qgX (k:=k) (lw:=(kb.q,qaf tb.cs x)) (x:=x) (y:=y) (z4:=some (.lst kb.q)) (z5:=some (.int (qaf tb.cs x))) (z6:=none) (z7:=none) hh okf (by lia) (by rw [S.pk]) rN ndN up (qal ey2 (Ne.symm ya)) (by rw [S.pk]; exact yk)
  rw [zT,S.pk] at*
  refine⟨kr,h',qaD (pre _ _ ?_),a,fun z z1 z2=>?_,by have:=g2.len; lia,ndr⟩
  ·rw [qag (e1:=[some (.int w),some (.lst k.q),some (.int x),some (.lst y),some (.lst kb.q),some (.int (qaf tb.cs x)),none,none]) (h1:=h2.set kb.a (.lst ((tb.cs.eraseIdx (qaf tb.cs x)).map qah))) (by
    rw [qbb (by rw [c1,hks]; rfl)]
    exact qbM (qdA (ix0 none none _ j1) j2 (qbg (d:=.int (qaf tb.cs x)) (h1:=h2) rfl) ep))]
   exact q
  ·rw [kp z (by have:=g2.len; lia) z2,zF (show kb.a≠z from fun e=>z2 (e▸aM))]
   exact g2.same' z1
 ·
  obtain⟨b,c,ub,hb,lo,mm⟩:=tkb.mid hbs ha
  have pb:=(zB.mp hb).1
  have pk:qaf tb.cs x < kb.ks.length:=by lia
  have hk2:kb.ks[qaf tb.cs x]?=some kb.ks[qaf tb.cs x]:=zA pk
  generalize kb.ks[qaf tb.cs x]=k2 at hk2
  obtain⟨jd,rfl⟩:∃ jd,jc=jd+1:=⟨jc - 1,by
   by_cases z:jc=0
   ·subst z
    exact absurd vb.leaf hbs
   ·lia⟩
  have kd:=vb.kids (by lia)
  have vbb:=kd.2 b (zD hb)
  have lbb:=vbb.lo
  have eB:(kb.ks.map fun k=>D.lst k.q).isEmpty=false:=by
   cases hq:kb.ks with
   | nil=>rw [hq] at pk; simp at pk
   | cons a r=>rfl
  obtain⟨e3,h3,q3,fs2,kh,th,jh,ownh,rfl,g3,ey3,hf2,pK2,pT2,vh,lvh,eh⟩:=qe4 (c:=fB (f2 oNe (f2 oIx (fV 6) (fC (.int 1))) (fLst []))) (t:=takW)
   (P:=fun mm e hx=>∃ fs2 kh th jh ownh,e=[some (.int w),some (.lst k.q),some (.int x),some (.lst y),some (.lst kb.q),some (.int (qaf tb.cs x)),some (.lst kh.q),none]/\Grow h hx/\hx[y]?=some (.lst ((ways fs kb tb x++fs2.reverse.map fmW).map wayD))/\(∀ f∈fs2,FmL w f)/\qaV fs2 kh=k2/\qbz fs2 th=b/\T.V half w ownh (jh+1) th/\jd=jh+fs2.length/\mm=jh)
   (R:=fun e hx=>∃ fs2 kh th jh ownh,e=[some (.int w),some (.lst k.q),some (.int x),some (.lst y),some (.lst kb.q),some (.int (qaf tb.cs x)),some (.lst kh.q),none]/\Grow h hx/\hx[y]?=some (.lst ((ways fs kb tb x++fs2.reverse.map fmW).map wayD))/\(∀ f∈fs2,FmL w f)/\qaV fs2 kh=k2/\qbz fs2 th=b/\T.V half w ownh (jh+1) th/\jd=jh+fs2.length/\th.bs=[])
   (by
    rintro mm e hx ⟨fs2,kh,th,jh,ownh,rfl,g,ey,hf2,pK2,pT2,vh,lvh,hm⟩
    have ok2:∀ f∈fs2,f.ok:=fun f hf=>(hf2 f hf).ok
    have rkb:=S.at (r.grow g)
    have rk2:At hx k2 b:=rkb.inv.2.2.2.2.1 _ _ _ hk2 hb
    rw [<-pK2,<-pT2] at rk2
    have rh:=qgC ok2 rk2
    obtain⟨o1,o2,o3,o4,o5,o6⟩:=rh.inv
    have gx:=Grow.app hx [O.lst []]
    have iy1:∀ hz:Hh,Grow hx hz->f2 oIx (fV 6) (fC (.int 1)) [some (.int w),some (.lst k.q),some (.int x),some (.lst y),some (.lst kb.q),some (.int (qaf tb.cs x)),some (.lst kh.q),none] hz=.ok (.lst kh.b) hz:=fun hz gz=>by
     rw [qap (x:=.lst kh.q) (h1:=hz) rfl (y:=.int ((1:Nat):Int)) (h2:=hz) rfl,qaB (gz.at' o1)]
     rfl
    have cw:fB (f2 oNe (f2 oIx (fV 6) (fC (.int 1))) (fLst [])) [some (.int w),some (.lst k.q),some (.int x),some (.lst y),some (.lst kb.q),some (.int (qaf tb.cs x)),some (.lst kh.q),none] hx=.ok (!(kh.ks.map fun k=>D.lst k.q).isEmpty) (hx++[.lst []]):=by
     refine qa5 ?_
     rw [qap (iy1 hx (.refl _)) (y:=.lst hx.length) (h2:=hx++[.lst []]) rfl,qfU (gx.at' o3) (qbu _ _)]
     rfl
    cases hks:kh.ks with
    | nil=>
     left
     refine⟨hx++[.lst []],by rw [cw,hks]; rfl,fs2,kh,th,jh,ownh,rfl,g.app1 _,gx.at' ey,hf2,pK2,pT2,vh,lvh,?_⟩
     rw [hks] at o4
     exact xP.mp o4.symm
    | cons ka kr=>
     right
     have hbs2:th.bs≠[]:=fun z=>by rw [hks,z] at o4; simp at o4
     obtain⟨ji,rfl⟩:∃ ji,jh=ji+1:=⟨jh - 1,by
      by_cases z:jh=0
      ·subst z
       exact absurd vh.leaf hbs2
      ·lia⟩
     obtain⟨bl,bv⟩:=vh.kids (by lia)
     have hi:=vh.hi
     have l1:th.cs.length < kh.ks.length:=by lia
     have l2:th.cs.length < th.bs.length:=by lia
     have ek:kh.ks[th.cs.length]?=some kh.ks[th.cs.length]:=zA l1
     have et:th.bs[th.cs.length]?=some th.bs[th.cs.length]:=zA l2
     have eyx:=gx.at' ey
     have gg:Grow h (hx++[.lst []]):=g.app1 _
     have wlen:(ways fs kb tb x).length=fs.length+1:=by unfold ways; simp
     have tp:fTup [(fV 6),(fc oLen (fAll [(f2 oIx (fV 6) (fC (.int 0)))]))] [some (.int w),some (.lst k.q),some (.int x),some (.lst y),some (.lst kb.q),some (.int (qaf tb.cs x)),some (.lst kh.q),none] (hx++[.lst []])=.ok (wayD (kh.q,th.cs.length)) (hx++[.lst []]):=by
      unfold fTup
      rw [qb3 (d:=.lst kh.q) (h1:=hx++[.lst []]) rfl ((rh.grow gx).len0 rfl)]
      rfl
     have ap:qaU (fM qa0 (fV 3) [(fTup [(fV 6),(fc oLen (fAll [(f2 oIx (fV 6) (fC (.int 0)))]))])]) [some (.int w),some (.lst k.q),some (.int x),some (.lst y),some (.lst kb.q),some (.int (qaf tb.cs x)),some (.lst kh.q),none] (hx++[.lst []])=.nx [some (.int w),some (.lst k.q),some (.int x),some (.lst y),some (.lst kb.q),some (.int (qaf tb.cs x)),some (.lst kh.q),none] ((hx++[O.lst []]).set y (.lst ((ways fs kb tb x++fs2.reverse.map fmW).map wayD++[wayD (kh.q,th.cs.length)]))):=
      qd5 (n:=y) rfl eyx tp eyx (by rw [zC,zJ,wlen,zC,List.length_reverse]; lia)
     have g5:=gg.set ly (.lst ((ways fs kb tb x++fs2.reverse.map fmW).map wayD++[wayD (kh.q,th.cs.length)]))
     have e5:=qce (o:=.lst ((ways fs kb tb x++fs2.reverse.map fmW).map wayD++[wayD (kh.q,th.cs.length)])) eyx
     generalize (hx++[O.lst []]).set y (.lst ((ways fs kb tb x++fs2.reverse.map fmW).map wayD++[wayD (kh.q,th.cs.length)]))=h5 at ap g5 e5
     have rkb5:=S.at (r.grow g5)
     have rk5:At h5 k2 b:=rkb5.inv.2.2.2.2.1 _ _ _ hk2 hb
     rw [<-pK2,<-pT2] at rk5
     obtain⟨p1,p2,p3,p4,p5,p6⟩:=(qgC ok2 rk5).inv
     refine⟨hx++[.lst []],[some (.int w),some (.lst k.q),some (.int x),some (.lst y),some (.lst kb.q),some (.int (qaf tb.cs x)),some (.lst (kh.ks[th.cs.length]).q),none],h5,ji,by rw [cw,hks]; rfl,?_,⟨⟨kh.q,kh.a,kh.b,th.cs,th.cs.length,kh.ks,th.bs⟩::fs2,kh.ks[th.cs.length],th.bs[th.cs.length],ji,half,rfl,g5,?_,?_,?_,?_,bv _ (List.getElem_mem l2),by rw [zO]; lia,rfl⟩,by lia⟩
     ·unfold takW
      rw [qag ap]
      refine qaq ?_
      rw [qap (x:=.lst kh.b) (h1:=h5) (by rw [qap (x:=.lst kh.q) (h1:=h5) rfl (y:=.int ((1:Nat):Int)) (h2:=h5) rfl,qaB p1]; rfl) (y:=.int (-1)) (h2:=h5) rfl,qaB p3,qgR,zC,show kh.ks.length - 1=th.cs.length by lia,zE,ek]
      rfl
     ·rw [e5]
      simp [fmW]
     ·intro f hf
      rcases zG.mp hf with rfl | z
      ·exact⟨⟨l1,o4⟩,rfl,hi,bl⟩
      ·exact hf2 f z
     ·show qaV fs2 (Fm.k _ _)=k2
      rw [<-pK2]
      congr 1
      unfold Fm.k
      dsimp only
      rw [List.set_getElem_self]
      exact o6.symm
     ·show qbz fs2 (Fm.t _ _)=b
      rw [<-pT2]
      congr 1
      unfold Fm.t
      dsimp only
      rw [List.set_getElem_self,T.eta])
   2000 jd [some (.int w),some (.lst k.q),some (.int x),some (.lst y),some (.lst kb.q),some (.int (qaf tb.cs x)),some (.lst k2.q),none] h2 ⟨[],k2,b,jd,half,rfl,g2,by simpa using ey2,fun _ z=>(nomatch z),rfl,rfl,vbb,by simp,rfl⟩ (by lia)
  have ok2:∀ f∈fs2,f.ok:=fun f hf=>(hf2 f hf).ok
  obtain⟨m2,uu,ownu,loh,up2,vth,hcth⟩:=qmr hh h0 hw (fs:=fs2) (tb:=th) (jb:=jh) (own:=half) hf2 (by rw [pT2]; exact lo) (by rw [pT2,show jh+1+fs2.length=jd+1 by lia]; exact vbb) (by rw [pT2]; lia)
  obtain⟨ecs,euu⟩:=loh.leaf eh hcth
  have wlen:(ways fs kb tb x).length=fs.length+1:=by unfold ways; simp
  have ap:qaU (fM qa0 (fV 3) [(fTup [(fV 6),(fC (.int 0))])]) [some (.int w),some (.lst k.q),some (.int x),some (.lst y),some (.lst kb.q),some (.int (qaf tb.cs x)),some (.lst kh.q),none] h3=.nx [some (.int w),some (.lst k.q),some (.int x),some (.lst y),some (.lst kb.q),some (.int (qaf tb.cs x)),some (.lst kh.q),none] (h3.set y (.lst ((ways fs kb tb x++fs2.reverse.map fmW).map wayD++[wayD (kh.q,0)]))):=
   qd5 (n:=y) (d:=wayD (kh.q,0)) (h2:=h3) rfl ey3 rfl ey3 (by rw [zC,zJ,wlen,zC,List.length_reverse]; lia)
  have g4:=g3.set ly (.lst ((ways fs kb tb x++fs2.reverse.map fmW).map wayD++[wayD (kh.q,0)]))
  have e4:=qce (o:=.lst ((ways fs kb tb x++fs2.reverse.map fmW).map wayD++[wayD (kh.q,0)])) ey3
  generalize h3.set y (.lst ((ways fs kb tb x++fs2.reverse.map fmW).map wayD++[wayD (kh.q,0)]))=h4 at ap g4 e4
  have r4:=r.grow g4
  have rkb4:=S.at r4
  obtain⟨s1,s2,s3,s4,s5,s6⟩:=rkb4.inv
  have rk4:At h4 k2 b:=s5 _ _ _ hk2 hb
  rw [<-pK2,<-pT2] at rk4
  have rh4:=qgC ok2 rk4
  obtain⟨t1,t2,t3,t4,t5,t6⟩:=rh4.inv
  have inK2:∀ z∈kh.all,z∈k2.all:=fun z hz=>by rw [<-pK2]; exact (qci ok2 kh).subset hz
  have inKs:∀ z∈kh.all,z∈HT.allL kb.ks:=fun z hz=>(qbq (zD hk2)).subset (inK2 z hz)
  obtain⟨w1,w2,w3,w4,w5,w6,w7⟩:=qfS ndb
  have inK:∀ z∈kh.all,z∈k.all:=fun z hz=>sbk.subset (qhl _ (inKs z hz))
  have ndh:kh.all.Nodup:=by
   have:k2.all.Nodup:=w7.sublist (qbq (zD hk2))
   rw [<-pK2] at this
   exact this.sublist (qci ok2 kh)
  have yh:y≠kh.a:=fun e=>yk (e▸inK _ (qeX kh))
  obtain⟨F0,eF0⟩:∃ F0:Fm,F0=⟨kb.q,kb.a,kb.b,tb.cs,qaf tb.cs x,kb.ks,tb.bs⟩:=⟨_,rfl⟩
  obtain⟨F1,eF1⟩:∃ F1:Fm,F1=⟨kb.q,kb.a,kb.b,tb.cs.set (qaf tb.cs x) c,qaf tb.cs x,kb.ks,tb.bs⟩:=⟨_,rfl⟩
  have okF0:F0.ok:=by rw [eF0]; exact⟨pk,i4⟩
  have okF1:F1.ok:=by rw [eF1]; exact⟨pk,i4⟩
  have eK:F0.k k2=kb:=by
   rw [eF0]
   unfold Fm.k
   dsimp only
   rw [del_at.List.set_getElem?_self' hk2]
   exact i6.symm
  have eT:F0.t b=tb:=by
   rw [eF0]
   unfold Fm.t
   dsimp only
   rw [del_at.List.set_getElem?_self' hb,T.eta]
  have eKK:F1.k=F0.k:=by rw [eF1,eF0]; rfl
  have ok0:∀ f∈fs2++F0::fs,f.ok:=fun f hf=>by
   rcases zP.mp hf with z | z
   ·exact ok2 f z
   ·rcases zG.mp z with rfl | z
    ·exact okF0
    ·exact okf f z
  have ok1:∀ f∈fs2++F1::fs,f.ok:=fun f hf=>by
   rcases zP.mp hf with z | z
   ·exact ok2 f z
   ·rcases zG.mp z with rfl | z
    ·exact okF1
    ·exact okf f z
  have pk0:qaV (fs2++F0::fs) kh=k:=by
   rw [qcU,pK2]
   show qaV fs (F0.k k2)=k
   rw [eK,S.pk]
  have pk1:qaV (fs2++F1::fs) kh=k:=by
   rw [qcU,pK2]
   show qaV fs (F1.k k2)=k
   rw [eKK,eK,S.pk]
  have pt0:qbz (fs2++F0::fs) th=t:=by
   rw [qec,pT2]
   show qbz fs (F0.t b)=t
   rw [eT,S.pt]
  have rs:At (h4.set kh.a (.lst (th.cs.dropLast.map qah))) kh uu:=by
   have:=rh4.setA ndh th.cs.dropLast
   rw [eh] at this
   rw [euu]
   exact this
  obtain⟨rN1,ndN1,_⟩:=qfk ok0 (k:=kh) (k':=kh) (t:=th) (t':=uu) (by rw [pk0,pt0]; exact r4) (by rw [pk0]; exact nd) rfl rs (fun z z1 z2=>zF (show kh.a≠z from fun e=>z2 (e▸qeX kh))) ndh fun z m=>.inl m
  have q1':(h4.set kh.a (.lst (th.cs.dropLast.map qah)))[kb.q]?=some (.lst [.lst kb.a,.lst kb.b]):=qal s1 fun e=>w4 (e▸inKs _ (qeX kh))
  have q2':(h4.set kh.a (.lst (th.cs.dropLast.map qah)))[kb.a]?=some (.lst (tb.cs.map qah)):=qal s2 fun e=>w5 (e▸inKs _ (qeX kh))
  have ey5:(h4.set kh.a (.lst (th.cs.dropLast.map qah)))[y]?=_:=qal e4 (Ne.symm yh)
  have pop:fM oPop (f2 oIx (fV 6) (fC (.int 0))) [] [some (.int w),some (.lst k.q),some (.int x),some (.lst y),some (.lst kb.q),some (.int (qaf tb.cs x)),some (.lst kh.q),none] h4=.ok (qah c) (h4.set kh.a (.lst (th.cs.dropLast.map qah))):=by
   rw [ecs,yC] at t2
   exact qdA (n:=kh.a) (by rw [qap (x:=.lst kh.q) (h1:=h4) rfl (y:=.int ((0:Nat):Int)) (h2:=h4) rfl,qaB t1]; rfl) t2 (h2:=h4) rfl (qeZ t2)
  have kp5:∀ z,z < h.length->z∉k.all->(h4.set kh.a (.lst (th.cs.dropLast.map qah)))[z]?=h[z]?:=fun z z1 z2=>by
   rw [zF (show kh.a≠z from fun e=>z2 (e▸inK _ (qeX kh)))]
   exact g4.same' z1
  have l5:h.length<=(h4.set kh.a (.lst (th.cs.dropLast.map qah))).length:=by rw [zT]; exact g4.len
  generalize h4.set kh.a (.lst (th.cs.dropLast.map qah))=h5 at rN1 q1' q2' ey5 pop kp5 l5
  rw [qcU,qec] at rN1
  rw [qcU] at ndN1
  have rN1:At h5 (qaV fs (F0.k (qaV fs2 kh))) (qbz fs (F0.t (qbz fs2 uu))):=rN1
  have ndN1:(qaV fs (F0.k (qaV fs2 kh))).all.Nodup:=ndN1
  have rH:=qgC okf rN1
  have ndH:(F0.k (qaV fs2 kh)).all.Nodup:=ndN1.sublist (qci okf _)
  have rH2:At (h5.set kb.a (.lst ((tb.cs.set (qaf tb.cs x) c).map qah))) (F0.k (qaV fs2 kh)) (F1.t (qbz fs2 uu)):=by
   have:=rH.setA ndH (tb.cs.set (qaf tb.cs x) c)
   rw [eF0] at this
   rw [eF1,eF0]
   exact this
  have kaE:(F0.k (qaV fs2 kh)).a=kb.a:=by rw [eF0]; rfl
  obtain⟨rN2,ndN2,_⟩:=qfk okf (k:=F0.k (qaV fs2 kh)) (k':=F0.k (qaV fs2 kh)) rN1 ndN1 rfl rH2 (fun z z1 z2=>zF (show kb.a≠z from fun e=>z2 (by rw [<-e,<-kaE]; exact qeX _))) ndH fun z m=>.inl m
  have rF:At (h5.set kb.a (.lst ((tb.cs.set (qaf tb.cs x) c).map qah))) (qaV (fs2++F1::fs) kh) (qbz (fs2++F1::fs) uu):=by
   rw [qcU,qec]
   show At _ (qaV fs (F1.k (qaV fs2 kh))) (qbz fs (F1.t (qbz fs2 uu)))
   rw [eKK]
   exact rN2
  have vu:=lo_V hh h0 hw lo vbb (by lia)
  have vb':T.V half w own' (jd+2) (.node tb.cs tb.bs):=by rw [T.eta]; exact vb
  have Sh:=qcH hh h0 hw vb' (hcb (by lia)) (cs':=tb.cs.take (qaf tb.cs x)++[c]++tb.cs.drop (qaf tb.cs x+1)) (by rw [qbW c plt,zT]) pb (T.V_mono (show half - 1<=b.cs.length - 1 by lia) vu)
  rw [qbW c plt,qbW ub pb] at Sh mm
  have upA:UpS half w jh (fs2++F1::fs) uu t':=up2.app (by
   refine⟨u,?_,?_,?_⟩
   ·rw [eF1,<-lvh]; exact Sh
   ·rw [eF1]; exact mm
   ·rw [<-lvh]; exact up)
  have ey6:(h5.set kb.a (.lst ((tb.cs.set (qaf tb.cs x) c).map qah)))[y]?=some (.lst (((fs2++F1::fs).reverse.map fmW++[(kh.q,0)]).map wayD)):=by
   rw [qal ey5 (Ne.symm ya)]
   have:fmW F1=(kb.q,qaf tb.cs x):=by rw [eF1]; rfl
   have e2:(ways fs kb tb x)=fs.reverse.map fmW++[(kb.q,qaf tb.cs x)]:=rfl
   rw [e2]
   simp [this]
  obtain⟨kr,h',q,a,kp,l,ndr⟩:=qgX (k:=k) (lw:=(kh.q,0)) (x:=x) (y:=y) (z4:=some (.lst kb.q)) (z5:=some (.int (qaf tb.cs x))) (z6:=some (.lst kh.q)) (z7:=none) hh ok1 (by rw [zJ,zO]; lia) (by rw [pk1]) rF (by rw [pk1]; exact nd) upA ey6 (by rw [pk1]; exact yk)
  rw [zT] at kp l
  rw [pk1] at kp
  refine⟨kr,h',qaD (pre _ _ ?_),a,fun z z1 z2=>?_,by lia,ndr⟩
  ·rw [qag (e1:=[some (.int w),some (.lst k.q),some (.int x),some (.lst y),some (.lst kb.q),some (.int (qaf tb.cs x)),some (.lst kh.q),none]) (h1:=h5.set kb.a (.lst ((tb.cs.set (qaf tb.cs x) c).map qah))) (by
    rw [qaL (by rw [c1,eB])]
    unfold takH
    rw [qag (e1:=[some (.int w),some (.lst k.q),some (.int x),some (.lst y),some (.lst kb.q),some (.int (qaf tb.cs x)),some (.lst k2.q),none]) (h1:=h2) (qaq (by
     rw [qap (ix1 none none _ j1) (y:=.int (qaf tb.cs x)) (h2:=h2) rfl,qaB j3,qaS,zE,hk2]
     rfl)),qag q3,qag ap]
    unfold qca
    rw [pop,Res.out_ok,ix0 _ _ _ q1',Res.out_ok,show fV 5 [some (.int w),some (.lst k.q),some (.int x),some (.lst y),some (.lst kb.q),some (.int (qaf tb.cs x)),some (.lst kh.q),none] h5=.ok (.int (qaf tb.cs x)) h5 from rfl,Res.out_ok,qdm (j:=qaf tb.cs x) _ q2' (by
     unfold ixN
     rw [if_pos (by lia),if_pos (by rw [zC]; lia)]
     simp),List.map_set]
    rfl)]
   exact q
  ·rw [kp z (by lia) z2,zF (show kb.a≠z from fun e=>z2 (e▸aM))]
   exact kp5 z z1 z2
structure Cb (w L:Nat) (t:T):Prop where
 v:T.V (w / 2) w 0 L t
 L1:1<=L
 top:1 < L->1<=t.cs.length
 srt:Srt t.flat
theorem qjy {m:Nat}:∀ {l:List Nat},(∀ x∈l,m<=x)->l.length*m<=l.sum
 | [],_=>by simp
 | a::r,h=>by
  have:=qjy (l:=r) fun x hx=>h x (zR _ hx)
  have:=h a zV
  rw [zO,xX,Nat.add_mul]
  lia
theorem qjx {m:Nat}:∀ {l:List Nat},(∀ x∈l,x<=m)->l.sum<=l.length*m
 | [],_=>by simp
 | a::r,h=>by
  have:=qjx (l:=r) fun x hx=>h x (zR _ hx)
  have:=h a zV
  rw [zO,xX,Nat.add_mul]
  lia
theorem qnX:∀ l:List (List Card),(l.map fun f=>f.length+1).sum=(l.map List.length).sum+l.length
 | []=>rfl
 | a::r=>by
  rw [yE,yE,xX,xX,qnX r,zO]
  lia
theorem qkL {t:T} (h:t.bs.length=t.cs.length+1):t.flat.length+1=(t.bs.map fun b=>b.flat.length+1).sum:=by
 obtain⟨cs,bs⟩:=t
 have h:bs.length=cs.length+1:=h
 rw [T.flat_node,qb0]
 have:=qnX (bs.map T.flat)
 rw [zC,xT] at this
 have e:((fun f:List Card=>f.length+1) ∘ T.flat)=fun b:T=>b.flat.length+1:=rfl
 rw [e] at this
 show _=(bs.map fun b=>b.flat.length+1).sum
 lia
theorem qmB {half w:Nat}:∀ (n own:Nat) (t:T),T.V half w own (n+1) t->half<=own->(half+1) ^ (n+1)<=t.flat.length+1
 | 0,own,t,v,h=>by
  have:=v.lo
  have hb:=v.leaf
  obtain⟨cs,bs⟩:=t
  have hb:bs=[]:=hb
  subst hb
  rw [T.flat_node,qb0]
  have:own<=cs.length:=this
  simp
  lia
 | n+1,own,t,v,h=>by
  have k:=v.kids (by lia)
  have lo:=v.lo
  rw [qkL k.1]
  have:=qjy (m:=(half+1) ^ (n+1)) (l:=t.bs.map fun b=>b.flat.length+1) fun x hx=>by
   obtain⟨b,hb,rfl⟩:=yW.mp hx
   exact qmB n half b (k.2 b hb) (zS _)
  rw [zC] at this
  refine yX ?_ this
  rw [Nat.pow_succ,Nat.mul_comm]
  exact Nat.mul_le_mul_right _ (by lia)
theorem qpa {half w:Nat}:∀ (n own:Nat) (t:T),T.V half w own (n+1) t->t.flat.length+1<=(w+1) ^ (n+1)
 | 0,own,t,v=>by
  have:=v.hi
  have hb:=v.leaf
  obtain⟨cs,bs⟩:=t
  have hb:bs=[]:=hb
  subst hb
  rw [T.flat_node,qb0]
  have:cs.length<=w:=this
  simp
  lia
 | n+1,own,t,v=>by
  have k:=v.kids (by lia)
  have hi:=v.hi
  rw [qkL k.1]
  have:=qjx (m:=(w+1) ^ (n+1)) (l:=t.bs.map fun b=>b.flat.length+1) fun x hx=>by
   obtain⟨b,hb,rfl⟩:=yW.mp hx
   exact qpa n half b (k.2 b hb)
  rw [zC] at this
  refine yX this ?_
  rw [Nat.pow_succ,Nat.mul_comm]
  exact Nat.mul_le_mul_left _ (by lia)
theorem Cb.lo {w L:Nat}{t:T} (c:Cb w L t) (h:1 < L):2*(w / 2+1) ^ (L - 1)<=t.flat.length+1:=by
 obtain⟨n,rfl⟩:∃ n,L=n+2:=⟨L - 2,by lia⟩
 have k:=c.v.kids (by lia)
 have tp:=c.top h
 rw [qkL k.1]
 have:=qjy (m:=(w / 2+1) ^ (n+1)) (l:=t.bs.map fun b=>b.flat.length+1) fun x hx=>by
  obtain⟨b,hb,rfl⟩:=yW.mp hx
  exact qmB n _ b (k.2 b hb) (zS _)
 rw [zC] at this
 refine yX ?_ this
 rw [show n+2 - 1=n+1 by lia]
 exact Nat.mul_le_mul_right _ (by lia)
theorem Cb.few {w L:Nat}{t:T} (c:Cb w L t) (hw:2<=w) (hf:t.flat.length<=61):L<=5:=by
 by_cases h:1 < L
 ·have lo:=c.lo h
  by_cases z:L<=5
  ·exact z
  ·exfalso
   have a1:(2:Nat) ^ 5<=2 ^ (L - 1):=Nat.pow_le_pow_right (by lia) (by lia)
   have a2:2 ^ (L - 1)<=(w / 2+1) ^ (L - 1):=Nat.pow_le_pow_left (by lia) _
   have a3:(2:Nat) ^ 5=32:=by decide
   lia
 ·lia
theorem qmC (w:Nat):Cb w 1 (.node [] []):=by
 refine⟨?_,zS _,fun h=>absurd h (xH _),?_⟩
 ·unfold T.V
  exact⟨zS _,xV _,fun _=>rfl,fun z=>absurd z (xH _)⟩
 ·rw [T.flat_node]
  exact List.Pairwise.nil
theorem qmJ {l:List Card} (x:Int) (s:Str) (h:Srt l):Srt (insC l x s):=by
 unfold insC
 rw [Srt,List.pairwise_append]
 refine⟨List.Pairwise.filter _ h,?_,?_⟩
 ·rw [xM]
  refine⟨fun c hc=>?_,List.Pairwise.filter _ h⟩
  have:=(List.mem_filter.mp hc).2
  simpa using this
 ·intro a ha b hb
  have h1:a.1 < x:=by simpa using (List.mem_filter.mp ha).2
  rcases zG.mp hb with rfl | hb
  ·exact h1
  ·have:x < b.1:=by simpa using (List.mem_filter.mp hb).2
   lia
theorem qmK {l:List Card} (x:Int) (h:Srt l):Srt (delC l x):=List.Pairwise.filter _ h
theorem qi7 (l:List Card) (x:Int) (s:Str):(insC l x s).length<=l.length+1:=by
 have:∀ l:List Card,(l.filter fun c=>decide (c.1 < x)).length+(l.filter fun c=>decide (x < c.1)).length<=l.length:=fun l=>by
  induction l with
  | nil=>exact zS _
  | cons c l ih=>
   by_cases h1:c.1 < x
   ·rw [List.filter_cons_of_pos (by simpa using h1),List.filter_cons_of_neg (by simp; lia)]
    simp only [zO]
    lia
   ·rw [List.filter_cons_of_neg (by simpa using h1)]
    by_cases h2:x < c.1
    ·rw [List.filter_cons_of_pos (by simpa using h2)]
     simp only [zO]
     lia
    ·rw [List.filter_cons_of_neg (by simpa using h2)]
     simp only [zO]
     lia
 unfold insC
 rw [zJ,zO]
 exact Nat.succ_le_succ (this l)
theorem VW_V' {half w n:Nat}{u:T} (v:VW half w n u) (h:u.cs.length<=w):T.V half w 0 (n+1) u:=by
 cases u with
 | node cs bs=>
  obtain⟨v1,v2,v3⟩:=v
  exact⟨xV _,h,v2,v3⟩
theorem qpb {w L:Nat}{t:T} (c:Cb w L t) (w2:2<=w) (x:Int) (s:Str):∃ L',Cb w L' (topT w (layT w x s L t))/\(topT w (layT w x s L t)).flat=insC t.flat x s:=by
 obtain⟨n,rfl⟩:∃ n,L=n+1:=⟨L - 1,by have:=c.L1; lia⟩
 obtain⟨f1,vw,le,hit⟩:=qis x s rfl n 0 t c.v c.srt
 have si:=qmJ x s c.srt
 generalize hu:layT w x s (n+1) t=u at f1 vw le hit
 by_cases h:u.cs.length<=w
 ·have e:topT w u=u:=by unfold topT; rw [if_pos h]
  rw [e]
  exact⟨n+1,⟨VW_V' vw h,by lia,fun z=>by have:=c.top z; lia,by rw [f1]; exact si⟩,f1⟩
 ·have e:topT w u=.node [midC w u] [qbR w u,qbQ w u]:=by unfold topT; rw [if_neg h]
  rw [e]
  obtain⟨pl,pr⟩:=qmm rfl vw h
  have fl:(T.node [midC w u] [qbR w u,qbQ w u]).flat=insC t.flat x s:=by
   rw [T.flat_node,<-f1,qg9 vw h]
   simp [T.inter]
  refine⟨n+2,⟨⟨xV _,by simp; lia,fun z=>by lia,fun _=>⟨rfl,fun b hb=>?_⟩⟩,by lia,fun _=>zS _,by rw [fl]; exact si⟩,fl⟩
  simp only [zG,yD,or_false] at hb
  rcases hb with rfl | rfl
  ·exact pl
  ·exact pr
theorem tk_up {half:Nat}{x:Int}{n m:Nat}{t t':T} (r:TK half x n t t'):n<=m->TK half x m t t':=by
 induction r generalizing m with
 | bot hp hc a=>
  intro h
  obtain⟨k,rfl⟩:∃ k,m=k+1:=⟨m - 1,by lia⟩
  exact .bot hp hc a
 | down hp hc hz a hb r mm ih=>
  intro h
  obtain⟨k,rfl⟩:∃ k,m=k+1:=⟨m - 1,by lia⟩
  exact .down hp hc hz a hb (ih (by lia)) mm
 | here hp hc hz a hb r mm=>
  intro h
  obtain⟨k,rfl⟩:∃ k,m=k+1:=⟨m - 1,by lia⟩
  exact .here hp hc hz a hb r mm
theorem nk_up {x:Int}{n m:Nat}{t:T} (r:NK x n t):n<=m->NK x m t:=by
 induction r generalizing m with
 | bot hp hc a=>
  intro h
  obtain⟨k,rfl⟩:∃ k,m=k+1:=⟨m - 1,by lia⟩
  exact .bot hp hc a
 | down hp hc hz a hb r ih=>
  intro h
  obtain⟨k,rfl⟩:∃ k,m=k+1:=⟨m - 1,by lia⟩
  exact .down hp hc hz a hb (ih (by lia))
theorem qnE {w L:Nat}{t:T} (c:Cb w L t) (w2:2<=w) (hw:w<=500) (L5:L<=5) {x:Int} (hx:∃ k∈t.flat,k.1=x):
  ∃ t' L',TK (w / 2) x 5 t t'/\(t'.cs=[]->t'.bs≠[]->t'.bs.length=1)/\Cb w L' (topO t')/\(topO t').flat=delC t.flat x:=by
 obtain⟨n,rfl⟩:∃ n,L=n+1:=⟨L - 1,by have:=c.L1; lia⟩
 obtain⟨t',tk,tf,tv,tl⟩:=qju (x:=x) rfl (show 0 < w / 2 by lia) hw n 0 t (by lia) c.v c.srt (fun z=>c.top (by lia)) hx
 have sd:=qmK x c.srt
 have one:t'.cs=[]->t'.bs≠[]->t'.bs.length=1:=fun e1 e2=>by
  by_cases hn:n=0
  ·subst hn
   exact absurd tv.leaf e2
  ·rw [(tv.kids (by lia)).1,e1]
   rfl
 refine⟨t',?_⟩
 have tk5:=tk_up (m:=5) tk (by lia)
 cases hc:t'.cs with
 | cons a r=>
  rw [qjs (by rw [hc]; exact fun q=>nomatch q)]
  exact⟨n+1,tk5,fun z=>(nomatch z),⟨T.V_mono (xV _) tv,by lia,fun _=>by rw [hc,zO]; lia,by rw [tf]; exact sd⟩,tf⟩
 | nil=>
  cases hb:t'.bs with
  | nil=>
   rw [qjt hb]
   have hn:n=0:=by
    by_cases hn:n=0
    ·exact hn
    ·have:=(tv.kids (by lia)).1
     rw [hb] at this
     simp at this
   subst hn
   exact⟨1,tk5,fun _ z=>absurd rfl z,⟨T.V_mono (xV _) tv,zS _,fun z=>absurd z (xH _),by rw [tf]; exact sd⟩,tf⟩
  | cons b r=>
   have l1:=one hc (by rw [hb]; exact fun q=>nomatch q)
   rw [hb,zO] at l1
   have hr:r=[]:=xP.mp (by lia)
   subst hr
   rw [qjr hc hb]
   have hn:n≠0:=fun z=>by
    subst z
    have:=tv.leaf
    rw [hb] at this
    cases this
   obtain⟨m,rfl⟩:∃ m,n=m+1:=⟨n - 1,by lia⟩
   have vb:=(tv.kids (by lia)).2 b (by rw [hb]; simp)
   have lb:=vb.lo
   have fb:b.flat=delC t.flat x:=by
    rw [<-tf,T.flat_eq t',hb,hc]
    simp [T.inter]
   exact⟨m+1,tk5,fun _ _=>rfl,⟨T.V_mono (xV _) vb,by lia,fun _=>by lia,by rw [fb]; exact sd⟩,fb⟩
theorem qpc {i j:Int} (h1:-1000000<=j) (h2:j<=1000000):cMul i j=true:=by
 unfold cMul
 rw [Bool.or_eq_true,Bool.or_eq_true]
 exact .inl (.inr (decide_eq_true ⟨by lia,by lia⟩))
inductive Deed where
 | put (x:Int) (s:Str) | take (x:Int)
noncomputable def Deed.d:Deed->D
 | .put x s=>.tup [.str "put",.int x,.str s]
 | .take x=>.tup [.str "take",.int x]
noncomputable def Deed.n:Deed->Int
 | .put x _=>x
 | .take x=>x
noncomputable def eff:Deed->List Card->List Card
 | .put x s,l=>insC l x s
 | .take x,l=>delC l x
inductive Stp (w:Nat) (t:T):Deed->T->Prop where
 | put {L:Nat}{x:Int}{s:Str} (c:Cb w L t) (h:L<=5):Stp w t (.put x s) (topT w (layT w x s L t))
 | take {L':Nat}{x:Int}{t':T} (tk:TK (w / 2) x 5 t t') (one:t'.cs=[]->t'.bs≠[]->t'.bs.length=1) (c:Cb w L' (topO t')) (f:(topO t').flat=delC t.flat x) (hx:∃ k∈t.flat,k.1=x):Stp w t (.take x) (topO t')
 | none {x:Int} (hx:∀ k∈t.flat,k.1≠x) (nk:NK x 5 t):Stp w t (.take x) t
theorem qmI {w L:Nat}{t:T} (c:Cb w L t) (w2:2<=w) (hw:w<=500) (hf:t.flat.length<=61) (de:Deed):∃ t',Stp w t de t':=by
 have L5:=c.few w2 hf
 cases de with
 | put x s=>exact⟨_,.put c L5⟩
 | take x=>
  by_cases hx:∃ k∈t.flat,k.1=x
  ·obtain⟨t',L',tk,one,c',f⟩:=qnE c w2 hw L5 hx
   exact⟨_,.take tk one c' f hx⟩
  ·have hx':∀ k∈t.flat,k.1≠x:=fun k hk e=>hx ⟨k,hk,e⟩
   obtain⟨n,rfl⟩:∃ n,L=n+1:=⟨L - 1,by have:=c.L1; lia⟩
   exact⟨t,.none hx' (nk_up (qoE hw n 0 t c.v hx') (by lia))⟩
theorem qjA {w L:Nat}{t t':T}{de:Deed} (c:Cb w L t) (w2:2<=w) (s:Stp w t de t'):∃ L',Cb w L' t'/\t'.flat=eff de t.flat:=by
 cases s with
 | put c' _=>
  obtain⟨L',c'',f⟩:=qpb c' w2 _ _
  exact⟨L',c'',f⟩
 | take tk one c' f hx=>exact⟨_,c',f⟩
 | none hx nk=>exact⟨L,c,(qfD hx).symm⟩
theorem qkS (de:Deed) (l:List Card):(eff de l).length<=l.length+1:=by
 cases de with
 | put x s=>exact qi7 l x s
 | take x=>exact yX (List.length_filter_le _ _) (Nat.le_succ _)
noncomputable def badX:OX:=fun _ _=>.bad
theorem qg2 {xN:Addr}{half w:Nat}{x:Int}{t t':T} (hh:half=w / 2) (h0:0 < half) (tk:TK half x 5 t t') (one:t'.cs=[]->t'.bs≠[]->t'.bs.length=1) (h:Hh):qa6 4 (qcf (relX (qbI xN 5))) [.int (w:Int),t.d,.int x] h=.ok (topO t').d h:=by
 refine qcY ?_
 unfold qcf
 rw [qag (e1:=[some (.int (w:Int)),some t.d,some (.int x),some t'.d]) (h1:=h) (qaq (by
  rw [qcD (ds:=[.int (w:Int),t.d,.int x]) (h1:=h) rfl,qgg (qeo 5) ⟨w,half,x,t,rfl,hh,h0,.inl ⟨t',tk,rfl⟩⟩ h]
  rfl))]
 have i0:fc oLen (fAll [(f2 oIx (fV 3) (fC (.int 0)))]) [some (.int (w:Int)),some t.d,some (.int x),some t'.d] h=.ok (.int (t'.cs.length:Int)) h:=by
  rw [qaK (qbg (d:=.tup (t'.cs.map qah)) (h1:=h) (by rw [qap (x:=t'.d) (h1:=h) rfl rfl,qeR]; rfl)),qcJ,zC]; rfl
 have i1:fc oLen (fAll [(f2 oIx (fV 3) (fC (.int 1)))]) [some (.int (w:Int)),some t.d,some (.int x),some t'.d] h=.ok (.int (t'.bs.length:Int)) h:=by
  rw [qaK (qbg (d:=.tup (t'.bs.map T.d)) (h1:=h) (by rw [qap (x:=t'.d) (h1:=h) rfl rfl,qdU]; rfl)),qcJ,zC]; rfl
 have c1:fB (f2 oEq (fc oLen (fAll [(f2 oIx (fV 3) (fC (.int 0)))])) (fC (.int 0))) [some (.int (w:Int)),some t.d,some (.int x),some t'.d] h=.ok ((t'.cs.length:Int)==0) h:=qa5 (by rw [qap i0 (qaP _ _ _),qdx]; rfl)
 have c2:fB (f2 oEq (fc oLen (fAll [(f2 oIx (fV 3) (fC (.int 1)))])) (fC (.int 1))) [some (.int (w:Int)),some t.d,some (.int x),some t'.d] h=.ok ((t'.bs.length:Int)==1) h:=qa5 (by rw [qap i1 (qaP _ _ _),qdx]; rfl)
 cases hc:t'.cs with
 | cons a r=>
  rw [qjs (by rw [hc]; exact fun q=>nomatch q)]
  rw [qag (e1:=[some (.int (w:Int)),some t.d,some (.int x),some t'.d]) (h1:=h) (by
   rw [qaL (andF (by rw [c1,hc,show (((a::r).length:Int)==0)=false by rw [beq_eq_false_iff_ne]; simp; lia]))]
   rfl)]
  exact qaO rfl
 | nil=>
  cases hb:t'.bs with
  | nil=>
   rw [qjt hb]
   rw [qag (e1:=[some (.int (w:Int)),some t.d,some (.int x),some t'.d]) (h1:=h) (by
    rw [qaL (andT (by rw [c1,hc]; rfl) (by rw [c2,hb]; rfl))]
    rfl)]
   exact qaO rfl
  | cons b r=>
   have l1:=one hc (by rw [hb]; exact fun q=>nomatch q)
   rw [qjr hc hb]
   refine qba ?_
   rw [qbb (andT (by rw [c1,hc]; rfl) (by rw [c2,l1]; rfl))]
   refine qaO ?_
   rw [qap (x:=.tup (t'.bs.map T.d)) (h1:=h) (by rw [qap (x:=t'.d) (h1:=h) rfl rfl,qdU]; rfl) (y:=.int ((0:Nat):Int)) (h2:=h) rfl,qcQ,hb,qaS]
   rfl
theorem qhO {xN:Addr}{half w:Nat}{x:Int}{t:T} (hh:half=w / 2) (h0:0 < half) (nk:NK x 5 t) (h:Hh):qa6 4 (qcf (relX (qbI xN 5))) [.int (w:Int),t.d,.int x] h=.ex (.ref xN) h:=by
 refine qcB (e:=qaM 4 [.int (w:Int),t.d,.int x]) ?_
 unfold qcf
 refine qd4 (qh1 ?_)
 rw [qcD (ds:=[.int (w:Int),t.d,.int x]) (h1:=h) rfl,qgg (qeo 5) ⟨w,half,x,t,rfl,hh,h0,.inr ⟨nk,rfl⟩⟩ h]
 rfl
theorem ql5 {f g:FE}{e:En}{h h1 h2:Hh}{d:D}{c:Value} (q:f e h=.ok d h1) (q2:g e h1=.ex c h2):fTup [f,g] e h=.ex c h2:=by
 unfold fTup fAll
 rw [q,Res.bind_ok]
 unfold fAll
 rw [q2]
 rfl
def qgU (xN:Addr) (ds:List D) (d:D):Prop:=∃ (w L:Nat) (t t':T) (de:Deed),ds=[.int (w:Int),t.d,de.d]/\d=.tup [qeV (qcl t.flat de.n),t'.d]/\2<=w/\w<=500/\L<=5/\Cb w L t/\Stp w t de t'
theorem qno (o:Option Card) (t:T):HB 0 (.tup [qeV o,t.d]):=.tup fun x hx=>by
 simp only [zG,yD,or_false] at hx
 rcases hx with rfl | rfl
 ·cases o<;>first | exact .non | exact .str _
 ·exact t.hbd
noncomputable abbrev DOR (xN:Addr):OC:=qae 3 (qcg xN (qa6 4 (qfO (relF (qcq 5)) (relF (qjk 5)) (qa6 4 (qcf (relX (qbI xN 5)))) badX)))
theorem runs_dor {xN:Addr}:Runs (DOR xN) (qgU xN):=by
 rintro ds d ⟨w,L,t,t',de,rfl,rfl,w2,hw,L5,c,s⟩
 refine⟨qno _ _,fun h=>⟨[],qaD ?_⟩⟩
 rw [zW]
 have cab:Cab 5 t:=⟨w / 2,w,0,L,L5,c.v,c.srt,by lia⟩
 unfold qcg
 show fTry _ _ [some (.int (w:Int)),some t.d,some de.d] h=_
 have nt:∀ (x:Int),relF (qcq 5) [t.d,.int x] h=some (qeV (qcl t.flat x),h):=fun x=>qa9 (qgH 5) ⟨t,x,rfl,rfl,cab⟩ h
 cases s with
 | @put L' x s c' h5=>
  have pt:relF (qjk 5) [.int (w:Int),t.d,.int x,.str s] h=some ((topT w (layT w x s L' t)).d,h):=qa9 (qny 5) ⟨w,w / 2,0,L',x,s,t,rfl,rfl,rfl,h5,c'.v,c'.srt,by lia⟩ h
  refine qkN (qaO ?_)
  rw [qcD (ds:=[.int (w:Int),t.d,(Deed.put x s).d]) (h1:=h) rfl]
  refine qcY ?_
  unfold qfO
  show fSeq _ _ [some (.int (w:Int)),some t.d,some (Deed.put x s).d,none] h=_
  rw [qag (e1:=[some (.int (w:Int)),some t.d,some (Deed.put x s).d,some (.str "put")]) (h1:=h) (qaq rfl)]
  refine qba ?_
  rw [qbb (h1:=h) (by rfl)]
  refine qaO ?_
  unfold fTup
  rw [qb3 (d:=qeV (qcl t.flat x)) (h1:=h) (by rw [qaK (ds:=[t.d,.int x]) (h1:=h) rfl,nt]; rfl) (d2:=(topT w (layT w x s L' t)).d) (h2:=h) (by rw [qaK (ds:=[.int (w:Int),t.d,.int x,.str s]) (h1:=h) rfl,pt]; rfl)]
  rfl
 | @take L' x u tk one c' f hx=>
  refine qkN (qaO ?_)
  rw [qcD (ds:=[.int (w:Int),t.d,(Deed.take x).d]) (h1:=h) rfl]
  refine qcY ?_
  unfold qfO
  show fSeq _ _ [some (.int (w:Int)),some t.d,some (Deed.take x).d,none] h=_
  rw [qag (e1:=[some (.int (w:Int)),some t.d,some (Deed.take x).d,some (.str "take")]) (h1:=h) (qaq rfl)]
  rw [qag (e1:=[some (.int (w:Int)),some t.d,some (Deed.take x).d,some (.str "take")]) (h1:=h) (by rw [qaL (h1:=h) (by rfl)]; rfl)]
  refine qba ?_
  rw [qbb (h1:=h) (by rfl)]
  refine qaO ?_
  unfold fTup
  rw [qb3 (d:=qeV (qcl t.flat x)) (h1:=h) (by rw [qaK (ds:=[t.d,.int x]) (h1:=h) rfl,nt]; rfl) (d2:=(topO u).d) (h2:=h) (by rw [qcD (ds:=[.int (w:Int),t.d,.int x]) (h1:=h) rfl,qg2 rfl (by lia) tk one])]
  rfl
 | @none x hx nk=>
  have qx:fcX (qa6 4 (qfO (relF (qcq 5)) (relF (qjk 5)) (qa6 4 (qcf (relX (qbI xN 5)))) badX)) (fAll [(fV 0),(fV 1),(fV 2)]) [some (.int (w:Int)),some t.d,some (Deed.take x).d] h=.ex (.ref xN) h:=by
   rw [qcD (ds:=[.int (w:Int),t.d,(Deed.take x).d]) (h1:=h) rfl]
   refine qcB (e:=[some (.int (w:Int)),some t.d,some (Deed.take x).d,some (.str "take")]) ?_
   unfold qfO
   show fSeq _ _ [some (.int (w:Int)),some t.d,some (Deed.take x).d,none] h=_
   rw [qag (e1:=[some (.int (w:Int)),some t.d,some (Deed.take x).d,some (.str "take")]) (h1:=h) (qaq rfl)]
   rw [qag (e1:=[some (.int (w:Int)),some t.d,some (Deed.take x).d,some (.str "take")]) (h1:=h) (by rw [qaL (h1:=h) (by rfl)]; rfl)]
   refine qd4 ?_
   rw [qbb (h1:=h) (by rfl)]
   exact qh2 (ql5 (d:=qeV (qcl t.flat x)) (h1:=h) (by rw [qaK (ds:=[t.d,.int x]) (h1:=h) rfl,nt]; rfl) (by rw [qcD (ds:=[.int (w:Int),t.d,.int x]) (h1:=h) rfl,qhO rfl (by lia) nk]))
  rw [qkO (qh2 qx) (qko _ _ _),show (Deed.take x).n=x from rfl,qcZ hx]
  rfl
theorem qnz {xN:Addr}:Det (qgU xN):=runs_dor.det
structure Dy (w:Nat) (ds:List Deed) (ts:List T):Prop where
 len:ts.length=ds.length
 stp:∀ (j:Nat) de t t',ds[j]?=some de->(T.node [] []::ts)[j]?=some t->ts[j]?=some t'->Stp w t de t'
noncomputable def prD (p:D×T):D:=.tup [p.1,p.2.d]
noncomputable def qls (xN:Addr):FS:=(fSeq (fSet 5 (fc (relF (qgU xN)) (fAll [(fV 0),(fV 2),(fV 4)])))
  (fSeq (qaU (fM qa0 (fV 3) [(fV 5)]))
  (fSet 2 (f2 oIx (fV 5) (fC (.int 1))))))
theorem qjN (xW:Addr) (w:Int) (h:Hh):qa6 1 (qbJ xW) [.int w] h=if w < 2 then .ex (.ref xW) h else .ok .non h:=by
 have qc:fB (f2 oLt (fV 0) (fC (.int 2))) [some (.int w)] h=.ok (decide (w < 2)) h:=qa5 (by rw [qap (x:=.int w) (h1:=h) rfl (y:=.int 2) (h2:=h) rfl]; rfl)
 by_cases c:w < 2
 ·rw [if_pos c]
  rw [decide_eq_true c] at qc
  refine qcB (e:=[some (.int w)]) ?_
  show fIfS _ _ _ [some (.int w)] h=_
  rw [qbb qc]
  rfl
 ·rw [if_neg c]
  rw [decide_eq_false c] at qc
  refine qkK (e:=[some (.int w)]) ?_
  show fIfS _ _ _ [some (.int w)] h=_
  rw [qaL qc]
  rfl
noncomputable abbrev qlf (xW xN:Addr):OX:=qa6 6 (qdT (qa6 1 (qbJ xW)) (relF qaX) (relF (qgU xN)))
theorem qgd {xW xN:Addr}{w:Int} (hw:w < 2) (d:D) (h:Hh):qlf xW xN [.int w,d] h=.ex (.ref xW) h:=by
 refine qcB (e:=[some (.int w),some d,none,none,none,none]) ?_
 unfold qdT
 show fSeq _ _ [some (.int w),some d,none,none,none,none] h=_
 exact qd4 (ql4 (by rw [qcD (ds:=[.int w]) (h1:=h) rfl,qjN,if_pos hw]))
theorem qiV {xW xN:Addr}{w dh:Nat}{h:Hh}{ds:List Deed} (w2:2<=w) (hw:w<=500) (ed:h[dh]?=some (.lst (ds.map Deed.d))) (hl:ds.length<=61):
  ∃ (r:Nat) (ps:List (D×T)) (h':Hh),qlf xW xN [.int (w:Int),.lst dh] h=.ok (.lst r) h'/\Grow h h'/\h'[r]?=some (.lst (ps.map prD))/\Dy w ds (ps.map (·.2)):=by
 obtain⟨e1,h1,q,ps,t,z4,z5,he,er,G,pl,⟨L,c⟩,fl,lt,st⟩:=qcL (chk:=fun h'=>h'[dh]?=some (.lst (ds.map Deed.d))) (i:=4) (t:=qls xN)
  (P:=fun k e h'=>∃ (ps:List (D×T)) (t:T) (z4 z5:Option D),e=[some (.int (w:Int)),some (.lst dh),some t.d,some (.lst h.length),z4,z5]/\h'[h.length]?=some (.lst (ps.map prD))/\Grow h h'/\ps.length=k/\(∃ L,Cb w L t)/\t.flat.length<=k/\(T.node [] []::ps.map (·.2))[k]?=some t/\
   ∀ (j:Nat) de u t',j < k->ds[j]?=some de->(T.node [] []::ps.map (·.2))[j]?=some u->(ps.map (·.2))[j]?=some t'->Stp w u de t')
  (ds.map Deed.d) [some (.int (w:Int)),some (.lst dh),some (T.node [] []).d,some (.lst h.length),none,none] (h++[.lst []])
  ⟨[],.node [] [],none,none,rfl,qbu _ _,.app _ _,rfl,⟨1,qmC w⟩,by rw [T.flat_node]; exact zS _,rfl,fun j _ _ _ z=>absurd z (Nat.not_lt_zero _)⟩
  (fun k e h' p=>by
   obtain⟨_,_,_,_,_,_,G,_⟩:=p
   exact G.at' ed)
  (fun k d e h' hk p=>by
   obtain⟨ps,t,z4,z5,re,er,G,pl,⟨L,c⟩,fl,lt,st⟩:=p
   subst re
   rw [zE] at hk
   obtain⟨de,hd,rfl⟩:=yB.mp hk
   have hlt:=(zB.mp hd).1
   obtain⟨t',s⟩:=qmI c w2 hw (by lia) de
   obtain⟨L',c',f'⟩:=qjA c w2 s
   have L5:=c.few w2 (by lia)
   have dr:relF (qgU xN) [.int (w:Int),t.d,de.d] h'=some (prD (qeV (qcl t.flat de.n),t'),h'):=qa9 qnz ⟨w,L,t,t',de,rfl,rfl,w2,hw,L5,c,s⟩ h'
   refine⟨[some (.int (w:Int)),some (.lst dh),some t'.d,some (.lst h.length),some de.d,some (prD (qeV (qcl t.flat de.n),t'))],h'.set h.length (.lst (ps.map prD++[prD (qeV (qcl t.flat de.n),t')])),?_,ps++[(qeV (qcl t.flat de.n),t')],t',_,_,rfl,?_,G.set (zS _) _,by rw [zJ,pl]; rfl,⟨L',c'⟩,?_,?_,?_⟩
   ·show qls xN [some (.int (w:Int)),some (.lst dh),some t.d,some (.lst h.length),some de.d,z5] h'=_
    unfold qls
    rw [qag (e1:=[some (.int (w:Int)),some (.lst dh),some t.d,some (.lst h.length),some de.d,some (prD (qeV (qcl t.flat de.n),t'))]) (h1:=h') (qaq (by rw [qaK (ds:=[.int (w:Int),t.d,de.d]) (h1:=h') rfl,dr]; rfl))]
    rw [qag (qd5 (qbc rfl h') er (qbc rfl h') er (by rw [zC]; lia))]
    rfl
   ·rw [qce er,yC]
    rfl
   ·rw [f']
    have:=qkS de t.flat
    lia
   ·rw [yC,zL,yI (by rw [zC]; lia),zC,pl,Nat.sub_self]
    rfl
   ·intro j de' u v hj e1 e2 e3
    rw [yC] at e2 e3
    by_cases z:j=k
    ·subst z
     rw [hd] at e1
     cases e1
     rw [<-y9,zK (by rw [zO,zC]; lia),lt] at e2
     cases e2
     rw [yI (by rw [zC]; lia),zC,pl,Nat.sub_self] at e3
     cases e3
     exact s
    ·refine st j de' u v (by lia) e1 ?_ ?_
     ·rw [<-y9,zK (by rw [zO,zC]; lia)] at e2
      exact e2
     ·rw [zK (by rw [zC]; lia)] at e3
      exact e3)
 rw [zC] at pl st
 refine⟨h.length,ps,h1,qcY ?_,G,er,⟨by rw [zC]; exact pl,fun j de u t' e1 e2 e3=>st j de u t' (zB.mp e1).1 e1 e2 e3⟩⟩
 unfold qdT
 show fSeq _ _ [some (.int (w:Int)),some (.lst dh),none,none,none,none] h=_
 rw [qag (e1:=[some (.int (w:Int)),some (.lst dh),none,none,none,none]) (h1:=h) (qbM (d:=.non) (by rw [qcD (ds:=[.int (w:Int)]) (h1:=h) rfl,qjN,if_neg (by lia)]))]
 rw [qag (e1:=[some (.int (w:Int)),some (.lst dh),some (T.node [] []).d,none,none,none]) (h1:=h) (qaq (by
  rw [qaK (ds:=[.tup (([]:List Card).map qah),.tup (([]:List T).map T.d)]) (h1:=h) rfl,qbH [] [] (by simp)]
  rfl))]
 rw [qag (e1:=[some (.int (w:Int)),some (.lst dh),some (T.node [] []).d,some (.lst h.length),none,none]) (h1:=h++[.lst []]) (qaq (d:=.lst h.length) rfl)]
 have it:qco (fV 1) [some (.int (w:Int)),some (.lst dh),some (T.node [] []).d,some (.lst h.length),none,none] (h++[.lst []])=.ok ⟨ds.map Deed.d,fun h'=>h'[dh]?=some (.lst (ds.map Deed.d))⟩ (h++[.lst []]):=by
  unfold qco
  rw [qbc (d:=.lst dh) rfl,Res.bind_ok]
  unfold qhm
  simp only [(Grow.app h [O.lst []]).at' ed]
 show fSeq (fFor 4 (qco (fV 1)) (qls xN)) (fRet (fV 3)) _ _=_
 rw [qag ((qcR it).trans q),he]
 rfl
noncomputable abbrev TOPS (xW xN:Addr):OX:=qa6 2 (qgY (qlf xW xN))
theorem qhN {xW xN:Addr}{w:Int} (hw:w < 2) (d:D) (h:Hh):TOPS xW xN [.int w,d] h=.ex (.ref xW) h:=by
 refine qcB (e:=[some (.int w),some d]) (qh2 ?_)
 unfold qek qco
 rw [qcD (ds:=[.int w,d]) (h1:=h) rfl,qgd hw]
 rfl
theorem qlz {xW xN:Addr}{w dh:Nat}{h:Hh}{ds:List Deed} (w2:2<=w) (hw:w<=500) (ed:h[dh]?=some (.lst (ds.map Deed.d))) (hl:ds.length<=61):
  ∃ (r:Nat) (ts:List T) (h':Hh),TOPS xW xN [.int (w:Int),.lst dh] h=.ok (.lst r) h'/\Grow h h'/\h'[r]?=some (.lst (ts.map T.d))/\Dy w ds ts:=by
 obtain⟨r,ps,h1,q,G,er,dy⟩:=qiV (xW:=xW) (xN:=xN) w2 hw ed hl
 have it:qco (fcX (qlf xW xN) (fAll [(fV 0),(fV 1)])) [some (.int (w:Int)),some (.lst dh)] h=.ok ⟨ps.map prD,fun h'=>h'[r]?=some (.lst (ps.map prD))⟩ h1:=by
  unfold qco
  rw [qcD (ds:=[.int (w:Int),.lst dh]) (h1:=h) rfl,q,Res.bind_ok]
  unfold qhm
  simp only [er]
 have hlen:=dy.len
 rw [zC] at hlen
 have:=qfy (fr:=[]) (fe:=f2 oIx (fV 0) (fC (.int 1))) (g:=fun d=>match d with | .tup [_,b]=>b | _=>.non) it (fun xs=>(Grow.app _ _).at' er) (fun d hd xs=>by
  obtain⟨p,_,rfl⟩:=yW.mp hd
  rfl) (by rw [zC]; exact qeK (by lia))
 refine⟨h1.length,ps.map (·.2),h1++[.lst ((ps.map (·.2)).map T.d)],qcY (qaO ?_),G.app1 _,qbu _ _,dy⟩
 refine Eq.trans (show _=qek (qco (fcX (qlf xW xN) (fAll [(fV 0),(fV 1)]))) [] fYes (f2 oIx (fV 0) (fC (.int 1))) [some (.int (w:Int)),some (.lst dh)] h from rfl) (this.trans ?_)
 simp only [xT]
 rfl
theorem qjL {h:Hh}{n:Nat}{ns:List Int} (e:h[n]?=some (.lst (ns.map D.int))) (hl:ns.length<=1000):∃ (ms:List Int),qae 1 qbm [.lst n] h=some (.lst h.length,h++[.lst (ms.map D.int)])/\ms.length=ns.length:=by
 refine⟨(List.range ns.length).map fun k=>(ns.getD k 0+7919*(k:Int))*48271 % 1000003,qaD (qaO ?_),by rw [zC,xB]⟩
 show qek _ _ _ _ [some (.lst n)] h=_
 have it:=qdz (fs:=[(fc oLen (fAll [(fV 0)]))]) (env:=[some (.lst n)]) (h:=h) (h1:=h) (n:=ns.length) (qbg (by rw [qaK (qbg (d:=.lst n) (h1:=h) rfl),qbo e,zC]; rfl)) (by lia)
 have:=qfy (fr:=[0]) (fe:=(f2 oMod (f2 oMul (f2 oAdd (f2 oIx (fV 1) (fV 0)) (f2 oMul (fC (.int 7919)) (fV 0))) (fC (.int 48271))) (fC (.int 1000003)))) (g:=fun d=>match d with | .int k=>.int ((ns.getD k.toNat 0+7919*k)*48271 % 1000003) | _=>.non) it (fun xs=>trivial) (fun d hd xs=>by
  obtain⟨k,hk,rfl⟩:=yW.mp hd
  have hk:k < ns.length:=List.mem_range.mp hk
  show f2 oMod _ _ [some (.int (k:Int)),some (.lst n)] (h++[.lst xs])=_
  have ix:f2 oIx (fV 1) (fV 0) [some (.int (k:Int)),some (.lst n)] (h++[.lst xs])=.ok (.int (ns.getD k 0)) (h++[.lst xs]):=by
   rw [qap (x:=.lst n) (h1:=h++[.lst xs]) rfl (y:=.int (k:Int)) (h2:=h++[.lst xs]) rfl,qaB ((Grow.app _ _).at' e),qaS,zE,zA hk,yJ,zA hk]
   rfl
  have m1:f2 oMul (fC (.int 7919)) (fV 0) [some (.int (k:Int)),some (.lst n)] (h++[.lst xs])=.ok (.int (7919*(k:Int))) (h++[.lst xs]):=by
   rw [qap (qaP (.int 7919) _ _) (y:=.int (k:Int)) (h2:=h++[.lst xs]) rfl,qee _ (qmD (by decide) (by decide))]; rfl
  have m2:f2 oMul (f2 oAdd (f2 oIx (fV 1) (fV 0)) (f2 oMul (fC (.int 7919)) (fV 0))) (fC (.int 48271)) [some (.int (k:Int)),some (.lst n)] (h++[.lst xs])=.ok (.int ((ns.getD k 0+7919*(k:Int))*48271)) (h++[.lst xs]):=by
   rw [qap (qdR ix m1) (qaP (.int 48271) _ _),qee _ (qpc (by decide) (by decide))]; rfl
  rw [qcA m2 (qaP (.int 1000003) _ _) (by decide)]
  rfl) (by rw [zC,xB]; exact qeK (by lia))
 rw [this]
 simp only [xT]
 rfl
theorem qnp {h:Hh}{e:En}{g:FE}{y a b c d:Int} (qg:∀ h',Grow h h'->g e h'=.ok (.int y) h'):∃ (z:Int) (o:O),(z=a\/z=b\/z=c\/z=d)/\f2 oIx (fLst [(fC (.int a)),(fC (.int b)),(fC (.int c)),(fC (.int d))]) (f2 oMod g (fC (.int 4))) e h=.ok (.int z) (h++[o]):=by
 have i0:=xL y (show (4:Int)≠0 by decide)
 have i1:=xJ y (show (0:Int) < 4 by decide)
 have l1:fLst [(fC (.int a)),(fC (.int b)),(fC (.int c)),(fC (.int d))] e h=.ok (.lst h.length) (h++[.lst [.int a,.int b,.int c,.int d]]):=rfl
 obtain⟨z,hz,hat⟩:∃ z:Int,(z=a\/z=b\/z=c\/z=d)/\atI [D.int a,.int b,.int c,.int d] (y % 4)=some (.int z):=by
  generalize y % 4=ix at i0 i1
  have:ix=0\/ix=1\/ix=2\/ix=3:=by lia
  rcases this with rfl | rfl | rfl | rfl
  ·exact⟨a,.inl rfl,rfl⟩
  ·exact⟨b,.inr (.inl rfl),rfl⟩
  ·exact⟨c,.inr (.inr (.inl rfl)),rfl⟩
  ·exact⟨d,.inr (.inr (.inr rfl)),rfl⟩
 refine⟨z,.lst [.int a,.int b,.int c,.int d],hz,?_⟩
 rw [qap l1 (qcA (qg _ (.app _ _)) (qaP _ _ _) (by decide)),qaB (qbu _ _),hat]
 rfl
theorem qia {h:Hh}{e:En}{g:FE}{y a b c:Int} (qg:∀ h',Grow h h'->g e h'=.ok (.int y) h'):∃ (z:Int) (o:O),(z=a\/z=b\/z=c)/\f2 oIx (fLst [(fC (.int a)),(fC (.int b)),(fC (.int c))]) (f2 oMod g (fC (.int 3))) e h=.ok (.int z) (h++[o]):=by
 have i0:=xL y (show (3:Int)≠0 by decide)
 have i1:=xJ y (show (0:Int) < 3 by decide)
 have l1:fLst [(fC (.int a)),(fC (.int b)),(fC (.int c))] e h=.ok (.lst h.length) (h++[.lst [.int a,.int b,.int c]]):=rfl
 obtain⟨z,hz,hat⟩:∃ z:Int,(z=a\/z=b\/z=c)/\atI [D.int a,.int b,.int c] (y % 3)=some (.int z):=by
  generalize y % 3=ix at i0 i1
  have:ix=0\/ix=1\/ix=2:=by lia
  rcases this with rfl | rfl | rfl
  ·exact⟨a,.inl rfl,rfl⟩
  ·exact⟨b,.inr (.inl rfl),rfl⟩
  ·exact⟨c,.inr (.inr rfl),rfl⟩
 refine⟨z,.lst [.int a,.int b,.int c],hz,?_⟩
 rw [qap l1 (qcA (qg _ (.app _ _)) (qaP _ _ _) (by decide)),qaB (qbu _ _),hat]
 rfl
theorem qlt:∀ k:Fin 27,(Txt.slice (Str.ofString "abcdefghijklmnopqrstuvwxyz") (some ((k.val:Nat):Int)) (some ((k.val:Nat)+1:Int))).length<=26:=by decide +kernel
noncomputable def dayB:FS:=(fSeq (fSet 10 (f2 oEq (f2 oMod (f2 oDiv (fV 9) (fV 3)) (fC (.int 2))) (fC (.int 0))))
  (fSeq (fSet 11 (f2 oEq (f2 oEq (f2 oMod (f2 oIx (fV 7) (fV 9)) (fC (.int 8))) (fC (.int 0))) (fV 10)))
  (fSeq (fSet 12 (f2 oMod (f2 oAdd (f2 oMod (f2 oDiv (f2 oIx (fV 7) (fV 9)) (fC (.int 8))) (fV 5)) (f2 oMul (fV 9) (fV 4))) (fV 6)))
  (fSeq (fSet 13 (fc (qae 2 qbl) (fAll [(f2 oSub (fV 12) (f2 oDiv (fV 6) (fC (.int 3)))),(fV 1)])))
  (fSeq (fIfS (fAnd (fB (fV 11)) (fAnd (fB (f2 oGt (fV 9) (fC (.int 0)))) (fB (f2 oNe (f2 oMod (f2 oDiv (f2 oIx (fV 7) (fV 9)) (fC (.int 8))) (fC (.int 8))) (fC (.int 7)))))) (fSet 13 (f2 oIx (f2 oIx (fV 8) (f2 oMod (f2 oAdd (f2 oMul (f2 oMod (fV 9) (fV 3)) (fC (.int 7))) (f2 oDiv (f2 oIx (fV 7) (fV 9)) (fC (.int 64)))) (fV 9))) (fC (.int 1)))) qaC)
  (fSeq (fSet 14 (f2 oMod (f2 oDiv (f2 oIx (fV 7) (fV 9)) (fC (.int 8))) (fC (.int 27))))
  (fIfS (fB (fV 11)) (qaU (fM qa0 (fV 8) [(fTup [(fC (.str "take")),(fV 13)])])) (fSeq (fSet 15 (f2 oIx (fLst [(fC (.str "")),(fC (.str " & so on; ")),(f2 oAdd (fC (.str ", put in as No. ")) (fc oStr (fAll [(fV 9)])))]) (f2 oMod (fV 9) (fC (.int 3)))))
  (qaU (fM qa0 (fV 8) [(fTup [(fC (.str "put")),(fV 13),(f2 oAdd (fSl (fV 2) (qaJ (fV 14)) (qaJ (f2 oAdd (fV 14) (fC (.int 1))))) (fV 15))])]))))))))))
def DayP (h:Hh) (n c d:Nat) (step wv sd sp wi:Int) (k:Nat) (e:En) (h':Hh):Prop:=∃ (ds:List Deed) (z9 z10 z11 z12 z13 z14 z15:Option D),e=[some (.lst n),some (.int step),some (.str "abcdefghijklmnopqrstuvwxyz"),some (.int wv),some (.int sd),some (.int sp),some (.int wi),some (.lst c),some (.lst d),z9,z10,z11,z12,z13,z14,z15]/\h'[d]?=some (.lst (ds.map Deed.d))/\Grow h h'/\ds.length=k
theorem ql9 {h h':Hh}{n c d:Nat}{step wv sd sp wi:Int}{cells:List Int}{k:Nat}{e:En} (hd:h.length<=d) (hk1:k<=1000) (hwv:4<=wv/\wv<=63) (hsd:-1000<=sd/\sd<=1000) (hsp:0 < sp/\sp<=2000) (hwi:0 < wi/\wi<=2000) (hc:h[c]?=some (.lst (cells.map D.int))) (hk:k < cells.length) (p:DayP h n c d step wv sd sp wi k e h'):
  ∃ e2 h2,dayB (e.set 9 (some (.int (k:Int)))) h'=.nx e2 h2/\DayP h n c d step wv sd sp wi (k+1) e2 h2:=by
 obtain⟨ds,z9,z10,z11,z12,z13,z14,z15,rfl,ed,G,dl⟩:=p
 show ∃ e2 h2,dayB [some (.lst n),some (.int step),some (.str "abcdefghijklmnopqrstuvwxyz"),some (.int wv),some (.int sd),some (.int sp),some (.int wi),some (.lst c),some (.lst d),some (.int (k:Int)),z10,z11,z12,z13,z14,z15] h'=.nx e2 h2/\_
 obtain⟨x,hx⟩:∃ x,cells[k]?=some x:=⟨_,zA hk⟩
 have cell:∀ (e:En) (h':Hh),Grow h h'->e[7]?=some (some (.lst c))->e[9]?=some (some (.int (k:Int)))->f2 oIx (fV 7) (fV 9) e h'=.ok (.int x) h':=fun e h' G e7 e9=>by
  rw [qap (qbc e7 h') (qbc e9 h'),qaB (G.at' hc),qaS,zE,hx]; rfl
 unfold dayB
 obtain⟨b1,q1⟩:∃ b:Bool,f2 oEq (f2 oMod (f2 oDiv (fV 9) (fV 3)) (fC (.int 2))) (fC (.int 0)) [some (.lst n),some (.int step),some (.str "abcdefghijklmnopqrstuvwxyz"),some (.int wv),some (.int sd),some (.int sp),some (.int wi),some (.lst c),some (.lst d),some (.int (k:Int)),z10,z11,z12,z13,z14,z15] h'=.ok (.bl b) h':=⟨_,by
  rw [qap (qcA (qdD (x:=(k:Int)) (y:=wv) (qbc rfl h') (qbc rfl h') (by lia)) (qaP (.int 2) _ _) (by decide)) (qaP (.int 0) _ _),qdx]; rfl⟩
 rw [qag (e1:=[some (.lst n),some (.int step),some (.str "abcdefghijklmnopqrstuvwxyz"),some (.int wv),some (.int sd),some (.int sp),some (.int wi),some (.lst c),some (.lst d),some (.int (k:Int)),some (.bl b1),z11,z12,z13,z14,z15]) (h1:=h') (qaq q1)]
 obtain⟨b2,q2⟩:∃ b:Bool,f2 oEq (f2 oEq (f2 oMod (f2 oIx (fV 7) (fV 9)) (fC (.int 8))) (fC (.int 0))) (fV 10) [some (.lst n),some (.int step),some (.str "abcdefghijklmnopqrstuvwxyz"),some (.int wv),some (.int sd),some (.int sp),some (.int wi),some (.lst c),some (.lst d),some (.int (k:Int)),some (.bl b1),z11,z12,z13,z14,z15] h'=.ok (.bl b) h':=⟨_,by
  rw [qap (x:=.bl (x % 8==0)) (h1:=h') (by rw [qap (qcA (cell _ h' G rfl rfl) (qaP (.int 8) _ _) (by decide)) (qaP (.int 0) _ _),qdx]; rfl) (y:=.bl b1) (h2:=h') rfl,qoB]; rfl⟩
 rw [qag (e1:=[some (.lst n),some (.int step),some (.str "abcdefghijklmnopqrstuvwxyz"),some (.int wv),some (.int sd),some (.int sp),some (.int wi),some (.lst c),some (.lst d),some (.int (k:Int)),some (.bl b1),some (.bl b2),z12,z13,z14,z15]) (h1:=h') (qaq q2)]
 obtain⟨pl,q3⟩:∃ pl:Int,f2 oMod (f2 oAdd (f2 oMod (f2 oDiv (f2 oIx (fV 7) (fV 9)) (fC (.int 8))) (fV 5)) (f2 oMul (fV 9) (fV 4))) (fV 6) [some (.lst n),some (.int step),some (.str "abcdefghijklmnopqrstuvwxyz"),some (.int wv),some (.int sd),some (.int sp),some (.int wi),some (.lst c),some (.lst d),some (.int (k:Int)),some (.bl b1),some (.bl b2),z12,z13,z14,z15] h'=.ok (.int pl) h':=⟨_,by
  have m1:f2 oMul (fV 9) (fV 4) [some (.lst n),some (.int step),some (.str "abcdefghijklmnopqrstuvwxyz"),some (.int wv),some (.int sd),some (.int sp),some (.int wi),some (.lst c),some (.lst d),some (.int (k:Int)),some (.bl b1),some (.bl b2),z12,z13,z14,z15] h'=.ok (.int ((k:Int)*sd)) h':=by
   rw [qap (x:=.int (k:Int)) (h1:=h') rfl (y:=.int sd) (h2:=h') rfl,qee _ (qmD (by lia) (by lia))]; rfl
  exact qcA (qdR (qcA (qdD (cell _ h' G rfl rfl) (qaP (.int 8) _ _) (by decide)) (qbc (i:=5) rfl h') (by lia)) m1) (qbc (i:=6) rfl h') (by lia)⟩
 rw [qag (e1:=[some (.lst n),some (.int step),some (.str "abcdefghijklmnopqrstuvwxyz"),some (.int wv),some (.int sd),some (.int sp),some (.int wi),some (.lst c),some (.lst d),some (.int (k:Int)),some (.bl b1),some (.bl b2),some (.int pl),z13,z14,z15]) (h1:=h') (qaq q3)]
 rw [qag (e1:=[some (.lst n),some (.int step),some (.str "abcdefghijklmnopqrstuvwxyz"),some (.int wv),some (.int sd),some (.int sp),some (.int wi),some (.lst c),some (.lst d),some (.int (k:Int)),some (.bl b1),some (.bl b2),some (.int pl),some (.int (far (pl - wi / 3) step)),z14,z15]) (h1:=h') (qaq (by
  rw [qaK (qb3 (qfb (x:=pl) (qbc rfl h') (qdD (x:=wi) (qbc rfl h') (qaP (.int 3) _ _) (by decide))) (d2:=.int step) (h2:=h') rfl),qmT]
  rfl))]
 obtain⟨nb,q4⟩:∃ nb:Int,(fIfS (fAnd (fB (fV 11)) (fAnd (fB (f2 oGt (fV 9) (fC (.int 0)))) (fB (f2 oNe (f2 oMod (f2 oDiv (f2 oIx (fV 7) (fV 9)) (fC (.int 8))) (fC (.int 8))) (fC (.int 7)))))) (fSet 13 (f2 oIx (f2 oIx (fV 8) (f2 oMod (f2 oAdd (f2 oMul (f2 oMod (fV 9) (fV 3)) (fC (.int 7))) (f2 oDiv (f2 oIx (fV 7) (fV 9)) (fC (.int 64)))) (fV 9))) (fC (.int 1)))) qaC) [some (.lst n),some (.int step),some (.str "abcdefghijklmnopqrstuvwxyz"),some (.int wv),some (.int sd),some (.int sp),some (.int wi),some (.lst c),some (.lst d),some (.int (k:Int)),some (.bl b1),some (.bl b2),some (.int pl),some (.int (far (pl - wi / 3) step)),z14,z15] h'=.nx [some (.lst n),some (.int step),some (.str "abcdefghijklmnopqrstuvwxyz"),some (.int wv),some (.int sd),some (.int sp),some (.int wi),some (.lst c),some (.lst d),some (.int (k:Int)),some (.bl b1),some (.bl b2),some (.int pl),some (.int nb),z14,z15] h':=by
  have g1:fB (f2 oGt (fV 9) (fC (.int 0))) [some (.lst n),some (.int step),some (.str "abcdefghijklmnopqrstuvwxyz"),some (.int wv),some (.int sd),some (.int sp),some (.int wi),some (.lst c),some (.lst d),some (.int (k:Int)),some (.bl b1),some (.bl b2),some (.int pl),some (.int (far (pl - wi / 3) step)),z14,z15] h'=.ok (decide ((0:Int) < (k:Int))) h':=qa5 (by rw [qap (x:=.int (k:Int)) (h1:=h') rfl (qaP (.int 0) _ _)]; rfl)
  obtain⟨b3,g2⟩:∃ b:Bool,fB (f2 oNe (f2 oMod (f2 oDiv (f2 oIx (fV 7) (fV 9)) (fC (.int 8))) (fC (.int 8))) (fC (.int 7))) [some (.lst n),some (.int step),some (.str "abcdefghijklmnopqrstuvwxyz"),some (.int wv),some (.int sd),some (.int sp),some (.int wi),some (.lst c),some (.lst d),some (.int (k:Int)),some (.bl b1),some (.bl b2),some (.int pl),some (.int (far (pl - wi / 3) step)),z14,z15] h'=.ok b h':=⟨_,qa5 (by
   rw [qap (qcA (qdD (cell _ h' G rfl rfl) (qaP (.int 8) _ _) (by decide)) (qaP (.int 8) _ _) (by decide)) (qaP (.int 7) _ _),qeB]; rfl)⟩
  cases b2 with
  | false=>exact⟨_,by rw [qaL (h1:=h') (andF (h1:=h') rfl)]; rfl⟩
  | true=>
   by_cases c0:k=0
   ·exact⟨_,by rw [qaL (h1:=h') (andT (h1:=h') (b:=false) rfl (andF (by rw [g1,decide_eq_false (by lia)])))]; rfl⟩
   ·rw [decide_eq_true (by lia)] at g1
    cases b3 with
    | false=>exact⟨_,by rw [qaL (h1:=h') (andT (h1:=h') (b:=false) rfl (andT g1 g2))]; rfl⟩
    | true=>
     obtain⟨j,q5⟩:∃ j:Int,f2 oMod (f2 oAdd (f2 oMul (f2 oMod (fV 9) (fV 3)) (fC (.int 7))) (f2 oDiv (f2 oIx (fV 7) (fV 9)) (fC (.int 64)))) (fV 9) [some (.lst n),some (.int step),some (.str "abcdefghijklmnopqrstuvwxyz"),some (.int wv),some (.int sd),some (.int sp),some (.int wi),some (.lst c),some (.lst d),some (.int (k:Int)),some (.bl b1),some (.bl true),some (.int pl),some (.int (far (pl - wi / 3) step)),z14,z15] h'=.ok (.int (j % (k:Int))) h':=⟨_,by
      have m1:f2 oMul (f2 oMod (fV 9) (fV 3)) (fC (.int 7)) [some (.lst n),some (.int step),some (.str "abcdefghijklmnopqrstuvwxyz"),some (.int wv),some (.int sd),some (.int sp),some (.int wi),some (.lst c),some (.lst d),some (.int (k:Int)),some (.bl b1),some (.bl true),some (.int pl),some (.int (far (pl - wi / 3) step)),z14,z15] h'=.ok (.int ((k:Int) % wv*7)) h':=by
       rw [qap (qcA (x:=(k:Int)) (y:=wv) (qbc rfl h') (qbc rfl h') (by lia)) (qaP (.int 7) _ _),qee _ (qpc (by decide) (by decide))]; rfl
      exact qcA (qdR m1 (qdD (cell _ h' G rfl rfl) (qaP (.int 64) _ _) (by decide))) (qbc (i:=9) rfl h') (by lia)⟩
     have j0:=xL j (show (k:Int)≠0 by lia)
     have j1:=xJ j (show (0:Int) < (k:Int) by lia)
     obtain⟨m,hm⟩:∃ m:Nat,j % (k:Int)=(m:Int):=⟨(j % (k:Int)).toNat,by lia⟩
     rw [hm] at q5 j1
     obtain⟨de,hde⟩:∃ de,ds[m]?=some de:=⟨_,zA (by lia)⟩
     refine⟨de.n,?_⟩
     rw [qbb (h1:=h') (andT (h1:=h') (b:=true) rfl (andT g1 g2))]
     refine (qaq (d:=.int de.n) (h1:=h') ?_).trans rfl
     rw [qap (x:=de.d) (h1:=h') (by rw [qap (x:=.lst d) (h1:=h') rfl q5,qaB ed,qaS,zE,hde]; rfl) (qaP (.int 1) _ _)]
     cases de<;>rfl
 rw [qag q4]
 have r0:=xL (x / 8) (show (27:Int)≠0 by decide)
 have r1:=xJ (x / 8) (show (0:Int) < 27 by decide)
 rw [qag (e1:=[some (.lst n),some (.int step),some (.str "abcdefghijklmnopqrstuvwxyz"),some (.int wv),some (.int sd),some (.int sp),some (.int wi),some (.lst c),some (.lst d),some (.int (k:Int)),some (.bl b1),some (.bl b2),some (.int pl),some (.int nb),some (.int (x / 8 % 27)),z15]) (h1:=h') (qaq (qcA (qdD (cell _ h' G rfl rfl) (qaP (.int 8) _ _) (by decide)) (qaP (.int 27) _ _) (by decide)))]
 generalize x / 8 % 27=sg at r0 r1
 cases b2 with
 | true=>
  rw [qbb (h1:=h') rfl]
  rw [qd5 (qbc rfl h') ed (d:=(Deed.take nb).d) (h2:=h') rfl ed (by rw [zC]; lia)]
  refine⟨_,_,rfl,ds++[.take nb],_,_,_,_,_,_,_,rfl,?_,G.set hd _,by rw [zJ,dl]; rfl⟩
  rw [qce ed,yC]
  rfl
 | false=>
  rw [qaL (h1:=h') rfl]
  have sl:(Txt.slice (Str.ofString "abcdefghijklmnopqrstuvwxyz") (some sg) (some (sg+1))).length<=26:=by
   have:=qlt ⟨sg.toNat,by lia⟩
   simp only at this
   rw [show ((sg.toNat:Nat):Int)=sg by lia] at this
   exact this
  have tl:=qgW (k:Int)
  have lg:(k:Int).natAbs.log2 < 1920:=by
   by_cases z:(k:Int).natAbs=0
   ·rw [z]; decide
   ·exact Nat.lt_trans ((Nat.log2_lt z).mpr (show (k:Int).natAbs < 2 ^ 20 by lia)) (by decide)
  have w16:(Str.ofString ", put in as No. ").length=16:=by decide +kernel
  have wt:(Str.ofString (toString (k:Int))).length<=1002:=by rw [qhd]; lia
  have s1:fc oStr (fAll [fV 9]) [some (.lst n),some (.int step),some (.str "abcdefghijklmnopqrstuvwxyz"),some (.int wv),some (.int sd),some (.int sp),some (.int wi),some (.lst c),some (.lst d),some (.int (k:Int)),some (.bl b1),some (.bl false),some (.int pl),some (.int nb),some (.int sg),z15] h'=.ok (.str (toString (k:Int))) h':=by
   rw [qaK (qbg (d:=.int (k:Int)) (h1:=h') rfl),qlO _ lg]; rfl
  have s2:f2 oAdd (fC (.str ", put in as No. ")) (fc oStr (fAll [fV 9])) [some (.lst n),some (.int step),some (.str "abcdefghijklmnopqrstuvwxyz"),some (.int wv),some (.int sd),some (.int sp),some (.int wi),some (.lst c),some (.lst d),some (.int (k:Int)),some (.bl b1),some (.bl false),some (.int pl),some (.int nb),some (.int sg),z15] h'=.ok (.str (Str.ofString ", put in as No. "++Str.ofString (toString (k:Int)))) h':=by
   rw [qap (qaP _ _ _) s1,qiq _ (qjw (by lia))]; rfl
  have s3:fLst [(fC (.str "")),(fC (.str " & so on; ")),(f2 oAdd (fC (.str ", put in as No. ")) (fc oStr (fAll [(fV 9)])))] [some (.lst n),some (.int step),some (.str "abcdefghijklmnopqrstuvwxyz"),some (.int wv),some (.int sd),some (.int sp),some (.int wi),some (.lst c),some (.lst d),some (.int (k:Int)),some (.bl b1),some (.bl false),some (.int pl),some (.int nb),some (.int sg),z15] h'=.ok (.lst h'.length) (h'++[.lst [.str "",.str " & so on; ",.str (Str.ofString ", put in as No. "++Str.ofString (toString (k:Int)))]]):=by
   unfold fLst
   rw [qaz (qaP _ _ _) (qaz (qaP _ _ _) (qaz s2 rfl))]
   rfl
  obtain⟨wd,wl,hat⟩:∃ wd:Str,wd.length<=2000/\atI [D.str "",.str " & so on; ",.str (Str.ofString ", put in as No. "++Str.ofString (toString (k:Int)))] ((k:Int) % 3)=some (.str wd):=by
   have i0:=xL (k:Int) (show (3:Int)≠0 by decide)
   have i1:=xJ (k:Int) (show (0:Int) < 3 by decide)
   generalize (k:Int) % 3=ix at i0 i1
   have:ix=0\/ix=1\/ix=2:=by lia
   rcases this with rfl | rfl | rfl
   ·exact⟨_,by decide +kernel,rfl⟩
   ·exact⟨_,by decide +kernel,rfl⟩
   ·exact⟨_,by rw [qmH]; lia,rfl⟩
  have G2:=G.app1 (.lst [.str "",.str " & so on; ",.str (Str.ofString ", put in as No. "++Str.ofString (toString (k:Int)))])
  have ed2:(h'++[.lst [.str "",.str " & so on; ",.str (Str.ofString ", put in as No. "++Str.ofString (toString (k:Int)))]])[d]?=some (.lst (ds.map Deed.d)):=(Grow.app _ _).at' ed
  have q6:fSet 15 (f2 oIx (fLst [(fC (.str "")),(fC (.str " & so on; ")),(f2 oAdd (fC (.str ", put in as No. ")) (fc oStr (fAll [(fV 9)])))]) (f2 oMod (fV 9) (fC (.int 3)))) [some (.lst n),some (.int step),some (.str "abcdefghijklmnopqrstuvwxyz"),some (.int wv),some (.int sd),some (.int sp),some (.int wi),some (.lst c),some (.lst d),some (.int (k:Int)),some (.bl b1),some (.bl false),some (.int pl),some (.int nb),some (.int sg),z15] h'=.nx [some (.lst n),some (.int step),some (.str "abcdefghijklmnopqrstuvwxyz"),some (.int wv),some (.int sd),some (.int sp),some (.int wi),some (.lst c),some (.lst d),some (.int (k:Int)),some (.bl b1),some (.bl false),some (.int pl),some (.int nb),some (.int sg),some (.str wd)] (h'++[.lst [.str "",.str " & so on; ",.str (Str.ofString ", put in as No. "++Str.ofString (toString (k:Int)))]]):=
   qaq (by rw [qap s3 (qcA (x:=(k:Int)) (y:=3) (qbc rfl _) (qaP (.int 3) _ _) (by decide)),qaB (qbu _ _),hat]; rfl)
  generalize h'++[.lst [.str "",.str " & so on; ",.str (Str.ofString ", put in as No. "++Str.ofString (toString (k:Int)))]]=h2 at q6 G2 ed2
  rw [qag q6]
  have cd:fTup [(fC (.str "put")),(fV 13),(f2 oAdd (fSl (fV 2) (qaJ (fV 14)) (qaJ (f2 oAdd (fV 14) (fC (.int 1))))) (fV 15))] [some (.lst n),some (.int step),some (.str "abcdefghijklmnopqrstuvwxyz"),some (.int wv),some (.int sd),some (.int sp),some (.int wi),some (.lst c),some (.lst d),some (.int (k:Int)),some (.bl b1),some (.bl false),some (.int pl),some (.int nb),some (.int sg),some (.str wd)] h2=.ok (Deed.put nb (Txt.slice (Str.ofString "abcdefghijklmnopqrstuvwxyz") (some sg) (some (sg+1))++wd)).d h2:=by
   unfold fTup
   rw [qaz (qaP (.str "put") _ _) (qb3 (d:=.int nb) (h1:=h2) rfl (d2:=.str (Txt.slice (Str.ofString "abcdefghijklmnopqrstuvwxyz") (some sg) (some (sg+1))++wd)) (h2:=h2) (by
    rw [qap (x:=.str (Txt.slice (Str.ofString "abcdefghijklmnopqrstuvwxyz") (some sg) (some (sg+1)))) (h1:=h2) (y:=.str wd) (h2:=h2) (by
     simp only [fSl,fC,qaJ,fV,f2,zU,zL,qaI,Res.bind_ok,qaR,qbC,qct]
     rw [qnh _ _ _ (by decide +kernel)]
     rfl) rfl,qiq _ (qjw (by lia))]
    rfl))]
   rfl
  rw [qd5 (qbc rfl h2) ed2 cd ed2 (by rw [zC]; lia)]
  refine⟨_,_,rfl,ds++[.put nb (Txt.slice (Str.ofString "abcdefghijklmnopqrstuvwxyz") (some sg) (some (sg+1))++wd)],_,_,_,_,_,_,_,rfl,?_,G2.set hd _,by rw [zJ,dl]; rfl⟩
  rw [qce ed2,yC]
  rfl
theorem qmU {h:Hh}{n:Nat}{ns:List Int} (e:h[n]?=some (.lst (ns.map D.int))) (hl:ns.length<=1000):
  ∃ (d:Nat) (ds:List Deed) (h':Hh),qae 16 (qbB (qae 2 (qaT (qae 2 qaw))) (qae 2 qaw) (qae 2 qbl)) [.lst n] h=some (.lst d,h')/\Grow h h'/\h'[d]?=some (.lst (ds.map Deed.d))/\ds.length=ns.length - 3:=by
 obtain⟨step,o1,hs,q1⟩:=qjJ e
 have G1:Grow h (h++[o1]):=.app _ _
 generalize h++[o1]=h1 at q1 G1
 have w0:=xL (ns.getD 1 0) (show (60:Int)≠0 by decide)
 have w1:=xJ (ns.getD 1 0) (show (0:Int) < 60 by decide)
 have at_:∀ (e':En) (h':Hh) (i:Nat),Grow h h'->e'[0]?=some (some (.lst n))->fc (qae 2 qaw) (fAll [(fV 0),(fC (.int (i:Int)))]) e' h'=.ok (.int (ns.getD i 0)) h':=fun e' h' i G e0=>qlb (k:=i) e0 (G.at' e) rfl
 obtain⟨sd,o2,hsd,q2⟩:=qnp (h:=h1) (e:=[some (.lst n),some (.int step),some (.str "abcdefghijklmnopqrstuvwxyz"),some (.int (4+ns.getD 1 0 % 60)),none,none,none,none,none,none,none,none,none,none,none,none]) (g:=fc (qae 2 qaw) (fAll [(fV 0),(fC (.int 2))])) (y:=ns.getD 2 0) (a:=1) (b:=36) (c:=13) (d:=24) (fun h' g=>at_ _ h' 2 (G1.trans g) rfl)
 have G2:=G1.app1 o2
 generalize h1++[o2]=h2 at q2 G2
 obtain⟨sp,o3,hsp,q3⟩:=qia (h:=h2) (e:=[some (.lst n),some (.int step),some (.str "abcdefghijklmnopqrstuvwxyz"),some (.int (4+ns.getD 1 0 % 60)),some (.int sd),none,none,none,none,none,none,none,none,none,none,none]) (g:=f2 oDiv (fc (qae 2 qaw) (fAll [(fV 0),(fC (.int 2))])) (fC (.int 4))) (y:=ns.getD 2 0 / 4) (a:=37) (b:=7) (c:=1) (fun h' g=>qdD (at_ _ h' 2 (G2.trans g) rfl) (qaP (.int 4) _ _) (by decide))
 have G3:=G2.app1 o3
 generalize h2++[o3]=h3 at q3 G3
 obtain⟨wi,o4,hwi,q4⟩:=qia (h:=h3) (e:=[some (.lst n),some (.int step),some (.str "abcdefghijklmnopqrstuvwxyz"),some (.int (4+ns.getD 1 0 % 60)),some (.int sd),some (.int sp),none,none,none,none,none,none,none,none,none,none]) (g:=f2 oDiv (fc (qae 2 qaw) (fAll [(fV 0),(fC (.int 2))])) (fC (.int 12))) (y:=ns.getD 2 0 / 12) (a:=37) (b:=1009) (c:=37) (fun h' g=>qdD (at_ _ h' 2 (G3.trans g) rfl) (qaP (.int 12) _ _) (by decide))
 have G4:=G3.app1 o4
 generalize h3++[o4]=h4 at q4 G4
 have q5:fSl (fV 0) (qaJ (fC (.int 3))) qar [some (.lst n),some (.int step),some (.str "abcdefghijklmnopqrstuvwxyz"),some (.int (4+ns.getD 1 0 % 60)),some (.int sd),some (.int sp),some (.int wi),none,none,none,none,none,none,none,none,none] h4=.ok (.lst h4.length) (h4++[.lst ((ns.drop 3).map D.int)]):=by
  unfold fSl qaJ qar
  rw [qbc (d:=.lst n) rfl,Res.bind_ok,qaP]
  simp only [Res.bind_ok,qbC]
  rw [qeA (G4.at' e),show (3:Int)=((3:Nat):Int) from rfl,qde,<-yS]
  rfl
 have G5:=G4.app1 (.lst ((ns.drop 3).map D.int))
 have a5:=qbu h4 (.lst ((ns.drop 3).map D.int))
 generalize h4++[.lst ((ns.drop 3).map D.int)]=h5 at q5 G5 a5
 obtain⟨e6,h6,q6,ds,z9,z10,z11,z12,z13,z14,z15,he,ed,G6,dl⟩:=qcL (chk:=fun _=>True) (i:=9) (t:=dayB)
  (P:=DayP h5 n h4.length h5.length step (4+ns.getD 1 0 % 60) sd sp wi) ((List.range (ns.drop 3).length).map fun (k:Nat)=>D.int k) [some (.lst n),some (.int step),some (.str "abcdefghijklmnopqrstuvwxyz"),some (.int (4+ns.getD 1 0 % 60)),some (.int sd),some (.int sp),some (.int wi),some (.lst h4.length),some (.lst h5.length),none,none,none,none,none,none,none] (h5++[.lst []])
  ⟨[],none,none,none,none,none,none,none,rfl,qbu _ _,.app _ _,rfl⟩ (fun _ _ _ _=>trivial)
  (fun k d e' h' hk p=>by
   obtain⟨hlt,rfl⟩:=qfl hk
   exact ql9 (zS _) (by rw [zQ] at hlt; lia) (by lia) (by lia) (by lia) (by lia) a5 hlt p)
 rw [zC,xB] at dl
 refine⟨h5.length,ds,h6,qaD ?_,G5.trans G6,ed,by rw [dl,zQ]⟩
 unfold qbB
 show fSeq _ _ [some (.lst n),none,none,none,none,none,none,none,none,none,none,none,none,none,none,none] h=_
 rw [qag (e1:=[some (.lst n),some (.int step),none,none,none,none,none,none,none,none,none,none,none,none,none,none]) (h1:=h1) (qaq (by rw [qaK (qbg (d:=.lst n) (h1:=h) rfl),q1]; rfl))]
 rw [qag (e1:=[some (.lst n),some (.int step),some (.str "abcdefghijklmnopqrstuvwxyz"),none,none,none,none,none,none,none,none,none,none,none,none,none]) (h1:=h1) (qaq rfl)]
 rw [qag (e1:=[some (.lst n),some (.int step),some (.str "abcdefghijklmnopqrstuvwxyz"),some (.int (4+ns.getD 1 0 % 60)),none,none,none,none,none,none,none,none,none,none,none,none]) (h1:=h1) (qaq (qdR (qaP _ _ _) (qcA (at_ _ h1 1 G1 rfl) (qaP (.int 60) _ _) (by decide))))]
 rw [qag (e1:=[some (.lst n),some (.int step),some (.str "abcdefghijklmnopqrstuvwxyz"),some (.int (4+ns.getD 1 0 % 60)),some (.int sd),none,none,none,none,none,none,none,none,none,none,none]) (h1:=h2) (qaq q2)]
 rw [qag (e1:=[some (.lst n),some (.int step),some (.str "abcdefghijklmnopqrstuvwxyz"),some (.int (4+ns.getD 1 0 % 60)),some (.int sd),some (.int sp),none,none,none,none,none,none,none,none,none,none]) (h1:=h3) (qaq q3)]
 rw [qag (e1:=[some (.lst n),some (.int step),some (.str "abcdefghijklmnopqrstuvwxyz"),some (.int (4+ns.getD 1 0 % 60)),some (.int sd),some (.int sp),some (.int wi),none,none,none,none,none,none,none,none,none]) (h1:=h4) (qaq q4)]
 rw [qag (e1:=[some (.lst n),some (.int step),some (.str "abcdefghijklmnopqrstuvwxyz"),some (.int (4+ns.getD 1 0 % 60)),some (.int sd),some (.int sp),some (.int wi),some (.lst h4.length),none,none,none,none,none,none,none,none]) (h1:=h5) (qaq q5)]
 rw [qag (e1:=[some (.lst n),some (.int step),some (.str "abcdefghijklmnopqrstuvwxyz"),some (.int (4+ns.getD 1 0 % 60)),some (.int sd),some (.int sp),some (.int wi),some (.lst h4.length),some (.lst h5.length),none,none,none,none,none,none,none]) (h1:=h5++[.lst []]) (qaq (d:=.lst h5.length) rfl)]
 have len:fc oLen (fAll [(fV 7)]) [some (.lst n),some (.int step),some (.str "abcdefghijklmnopqrstuvwxyz"),some (.int (4+ns.getD 1 0 % 60)),some (.int sd),some (.int sp),some (.int wi),some (.lst h4.length),some (.lst h5.length),none,none,none,none,none,none,none] (h5++[.lst []])=.ok (.int ((ns.drop 3).length:Int)) (h5++[.lst []]):=by
  rw [qaK (qbg (d:=.lst h4.length) (h1:=h5++[.lst []]) rfl),qbo ((Grow.app _ _).at' a5),zC]; rfl
 show fSeq (fFor 9 (qcC rng1 [(fc oLen (fAll [(fV 7)]))]) dayB) (fRet (fV 8)) _ _=_
 rw [qag ((qcR (qdz (n:=(ns.drop 3).length) (qbg len) (by rw [zQ]; lia))).trans q6),he]
 rfl
theorem qd1 {c:Card}:∀ {fs:List (List Card)}{cs:List Card}{f:List Card},f∈fs->c∈f->c∈T.inter fs cs
 | [],_,_,h,_=>nomatch h
 | g::r,[],f,h,hc=>by
  simp only [T.inter,zP]
  rcases zG.mp h with rfl | h
  ·exact .inl hc
  ·exact .inr (qd1 h hc)
 | g::r,d::cs,f,h,hc=>by
  simp only [T.inter,zP,zG]
  rcases zG.mp h with rfl | h
  ·exact .inl hc
  ·exact .inr (.inr (qd1 h hc))
theorem qfu {c:Card}:∀ {fs:List (List Card)}{cs:List Card},c∈cs->c∈T.inter fs cs
 | [],_,h=>by rw [T.inter]; exact h
 | g::r,[],h=>nomatch h
 | g::r,d::cs,h=>by
  simp only [T.inter,zP,zG]
  rcases zG.mp h with rfl | h
  ·exact .inr (.inl rfl)
  ·exact .inr (.inr (qfu h))
theorem qil {c:Card}:∀ {fs:List Fm}{t:T},(∀ f∈fs,f.ok)->c∈t.flat->c∈(qbz fs t).flat
 | [],_,_,h=>h
 | f::r,t,ok,h=>by
  have o:=ok f zV
  refine qil (fs:=r) (fun g hg=>ok g (zR _ hg)) ?_
  show c∈(T.node f.cs (f.bs.set f.p t)).flat
  rw [T.flat_node]
  refine qd1 (f:=t.flat) ?_ h
  rw [List.map_set]
  exact yL.mpr ⟨f.p,by rw [zI (by rw [zC,<-o.2]; exact o.1)]⟩
theorem At.cont {h:Hh}{k:HT}{t:T} (r:At h k t):∀ z∈k.all,∃ X:List D,h[z]?=some (.lst X)/\∀ x∈X,(∃ n,x=.lst n)\/∃ c,x=qah c:=by
 induction r with
 | @mk q a b ks cs bs h1 h2 h3 h4 h5 ih=>
  intro z hz
  rw [qaF] at hz
  rcases zG.mp hz with rfl | hz
  ·exact⟨_,h1,fun x hx=>by
    simp only [zG,yD,or_false] at hx
    rcases hx with rfl | rfl
    ·exact .inl ⟨_,rfl⟩
    ·exact .inl ⟨_,rfl⟩⟩
  rcases zG.mp hz with rfl | hz
  ·exact⟨_,h2,fun x hx=>by
    obtain⟨c,_,rfl⟩:=yW.mp hx
    exact .inr ⟨c,rfl⟩⟩
  rcases zG.mp hz with rfl | hz
  ·exact⟨_,h3,fun x hx=>by
    obtain⟨c,_,rfl⟩:=yW.mp hx
    exact .inl ⟨_,rfl⟩⟩
  ·obtain⟨k',hk',m⟩:=allL_ex hz
   obtain⟨i,hi,rfl⟩:=List.getElem_of_mem hk'
   exact ih i _ (bs[i]'(by lia)) (zA hi) (zA (by lia)) z m
where
 allL_ex:∀ {ks:List HT}{z:Nat},z∈HT.allL ks->∃ k∈ks,z∈k.all
  | [],z,h=>by simp [HT.allL] at h
  | k::r,z,h=>by
   simp only [HT.allL,zP] at h
   rcases h with h | h
   ·exact⟨k,zV,h⟩
   ·obtain⟨k',hk',m⟩:=allL_ex h
    exact⟨k',zR _ hk',m⟩
theorem At.out {h:Hh}{k:HT}{t:T} (r:At h k t) {z:Nat}{X:List D}{x:D} (e:h[z]?=some (.lst X)) (hx:x∈X) (h1:∀ n,x≠.lst n) (h2:∀ c,x≠qah c):z∉k.all:=fun m=>by
 obtain⟨Y,e2,hy⟩:=r.cont z m
 rw [e] at e2
 cases e2
 rcases hy x hx with⟨n,z⟩ | ⟨c,z⟩
 ·exact h1 n z
 ·exact h2 c z
theorem qg3 {half w:Nat} (hw:w<=500) {x:Int}{own j:Nat}{k:HT}{t:T}{h:Hh} (hj:j<=500) (v:T.V half w own j t) (so:Srt t.flat) (r:At h k t) (hx:∀ c∈t.flat,c.1≠x):
  ∃ h',qae 8 (qa8 (qae 4 (qao (qae 2 qan) (qae 3 qbK))) (qae 3 qbK) (qae 8 qaZ)) [.int w,.lst k.q,.int x] h=some (.lst k.q,h')/\Grow h h':=by
 obtain⟨y,h1,fs,kb,tb,jb,ownb,q1,g1,ly,ey,S,fin⟩:=qfj (show w<=900 by lia) (x:=x) (by lia) v so r
 have rb:=S.at (r.grow g1)
 have ha:atC tb.cs (qaf tb.cs x) x=false:=by
  cases e:atC tb.cs (qaf tb.cs x) x with
  | false=>rfl
  | true=>
   exfalso
   unfold atC at e
   cases e2:tb.cs[qaf tb.cs x]? with
   | none=>rw [e2] at e; cases e
   | some c=>
    rw [e2] at e
    have e3:c.1=x:=by simpa using e
    refine hx c ?_ e3
    rw [<-S.pt]
    refine qil S.oks ?_
    rw [T.flat_eq]
    exact qfu (zD e2)
 refine⟨h1,qaD ?_,g1⟩
 rw [qib]
 show fSeq _ _ [some (.int w),some (.lst k.q),some (.int x),none,none,none,none,none] h=_
 rw [qag (e1:=[some (.int w),some (.lst k.q),some (.int x),some (.lst y),none,none,none,none]) (h1:=h1) (qaq (by rw [qaK (ds:=[.lst k.q,.int x]) (h1:=h) rfl,q1]; rfl))]
 refine qba ?_
 rw [qbb (h1:=h1)]
 ·rfl
 ·refine notB (b:=false) (qa5 ?_)
  rw [qaK (qb3 (qc2 (e:=[some (.int w),some (.lst k.q),some (.int x),some (.lst y),none,none,none,none]) (i:=3) rfl ey) (d2:=.int x) (h2:=h1) rfl),qea rb,ha]
  rfl
end M
namespace K13
open PySem PySem.Spec PyProof.Rows L2 DL MD M
noncomputable def qkq:FS:=(fSeq (fIfS (fB (f2 oEq (f2 oIx (f2 oIx (fV 2) (fV 7)) (fC (.int 0))) (fC (.str "put")))) (fSet 6 (fc (qae 12 (qa7 (qae 4 (qao (qae 2 qan) (qae 3 qak))) (qae 3 qak))) (fAll [(fV 1),(fV 6),(fSl (f2 oIx (fV 2) (fV 7)) (qaJ (fC (.int 1))) qar)]))) (fSet 6 (fc (qae 8 (qa8 (qae 4 (qao (qae 2 qan) (qae 3 qak))) (qae 3 qak) (qae 8 qaZ))) (fAll [(fV 1),(fV 6),(f2 oIx (f2 oIx (fV 2) (fV 7)) (fC (.int 1)))]))))
  (fIfS (fNot (fB (fc (qae 7 (qbn (qae 2 (qaA (qae 1 qax))))) (fAll [(f2 oIx (fV 4) (fV 7)),(fV 6)])))) (fRet (fC (.bl false))) qaC))
theorem qoJ (xW xD xN:Addr):qiQ xW xD (qae 1 qbm) (qae 2 qaw) (qae 16 (qbB (qae 2 (qaT (qae 2 qaw))) (qae 2 qaw) (qae 2 qbl))) (TOPS xW xN) (qae 4 (qbv (qae 1 qax))) (qae 12 (qa7 (qae 4 (qao (qae 2 qan) (qae 3 qak))) (qae 3 qak))) (qae 8 (qa8 (qae 4 (qao (qae 2 qan) (qae 3 qak))) (qae 3 qak) (qae 8 qaZ))) (qae 7 (qbn (qae 2 (qaA (qae 1 qax)))))=(fSeq (fSet 0 (fSl (fV 0) qar (qaJ (fC (.int 500)))))
  (fSeq (fSet 0 (fc (qae 1 qbm) (fAll [(fSl (fV 0) qar (qaJ (fC (.int 46))))])))
  (fSeq (fSet 1 (f2 oIx (fLst [(fC (.int 2)),(fC (.int 3)),(fC (.int 4)),(fC (.int 5)),(f2 oAdd (fC (.int 6)) (f2 oMod (f2 oDiv (fc (qae 2 qaw) (fAll [(fV 0),(fC (.int 0))])) (fC (.int 8))) (fC (.int 12)))),(fC (.int 1)),(fC (.int 0)),(f1 oNeg (fC (.int 1)))]) (f2 oMod (fc (qae 2 qaw) (fAll [(fV 0),(fC (.int 0))])) (fC (.int 8)))))
  (fSeq (fSet 2 (fc (qae 16 (qbB (qae 2 (qaT (qae 2 qaw))) (qae 2 qaw) (qae 2 qbl))) (fAll [(fV 0)])))
  (fSeq (fSet 3 (fc qgq (fAll [(fV 2)])))
  (fSeq (fSet 4 (fC .non))
  (fSeq (fSet 5 (fC (.bl false)))
  (fSeq (fTry (fSet 4 (fcX (TOPS xW xN) (fAll [(fV 1),(fV 3)]))) (mOf [(xW,noEx (fSet 5 (fC (.bl true))))]))
  (fSeq (fIfS (fNot (fB (fc (qae 4 (qbv (qae 1 qax))) (fAll [(fV 3),(fV 2)])))) (fRet (fC (.bl false))) qaC)
  (fSeq (fIfS (fOr (fB (fV 5)) (fB (f2 oLt (fV 1) (fC (.int 2))))) (fRet (qb9 (fV 5) (f2 oLt (fV 1) (fC (.int 2))))) qaC)
  (fSeq (fIfS (fOr (fNot (fB (f1 (oIsi "list") (fV 4)))) (fB (f2 oNe (fc oLen (fAll [(fV 4)])) (fc oLen (fAll [(fV 2)]))))) (fRet (fC (.bl false))) qaC)
  (fSeq (fSet 6 (fLst [(fLst []),(fLst [])]))
  (fSeq (fFor 7 (qcC rng1 [(fc oLen (fAll [(fV 2)]))]) qkq)
  (fRet (fC (.bl true)))))))))))))))):=rfl
theorem qmS {e:En}{h:Hh}{n:Nat}{ns:List Int} (q0:e[0]?=some (some (.lst n))) (q:h[n]?=some (.lst (ns.map D.int))):∃ (w:Int) (o:O),w<=17/\(f2 oIx (fLst [(fC (.int 2)),(fC (.int 3)),(fC (.int 4)),(fC (.int 5)),(f2 oAdd (fC (.int 6)) (f2 oMod (f2 oDiv (fc (qae 2 qaw) (fAll [(fV 0),(fC (.int 0))])) (fC (.int 8))) (fC (.int 12)))),(fC (.int 1)),(fC (.int 0)),(f1 oNeg (fC (.int 1)))]) (f2 oMod (fc (qae 2 qaw) (fAll [(fV 0),(fC (.int 0))])) (fC (.int 8)))) e h=.ok (.int w) (h++[o]):=by
 have a0:∀ h',Grow h h'->fc (qae 2 qaw) (fAll [(fV 0),(fC (.int 0))]) e h'=.ok (.int (ns.getD 0 0)) h':=fun h' G=>qlb (k:=0) q0 (G.at' q) rfl
 have b0:=xL (ns.getD 0 0 / 8) (show (12:Int)≠0 by decide)
 have b1:=xJ (ns.getD 0 0 / 8) (show (0:Int) < 12 by decide)
 have s1:f2 oAdd (fC (.int 6)) (f2 oMod (f2 oDiv (fc (qae 2 qaw) (fAll [(fV 0),(fC (.int 0))])) (fC (.int 8))) (fC (.int 12))) e h=.ok (.int (6+ns.getD 0 0 / 8 % 12)) h:=
  qdR (qaP _ _ _) (qcA (qdD (a0 h (.refl _)) (qaP _ _ _) (by decide)) (qaP _ _ _) (by decide))
 generalize ns.getD 0 0 / 8 % 12=v at b0 b1 s1
 have s2:fLst [(fC (.int 2)),(fC (.int 3)),(fC (.int 4)),(fC (.int 5)),(f2 oAdd (fC (.int 6)) (f2 oMod (f2 oDiv (fc (qae 2 qaw) (fAll [(fV 0),(fC (.int 0))])) (fC (.int 8))) (fC (.int 12)))),(fC (.int 1)),(fC (.int 0)),(f1 oNeg (fC (.int 1)))] e h=.ok (.lst h.length) (h++[.lst [.int 2,.int 3,.int 4,.int 5,.int (6+v),.int 1,.int 0,.int (-1)]]):=by
  unfold fLst
  rw [qaz (qaP _ _ _) (qaz (qaP _ _ _) (qaz (qaP _ _ _) (qaz (qaP _ _ _) (qaz s1 rfl))))]
  rfl
 have i0:=xL (ns.getD 0 0) (show (8:Int)≠0 by decide)
 have i1:=xJ (ns.getD 0 0) (show (0:Int) < 8 by decide)
 have s3:∀ o,f2 oMod (fc (qae 2 qaw) (fAll [(fV 0),(fC (.int 0))])) (fC (.int 8)) e (h++[o])=.ok (.int (ns.getD 0 0 % 8)) (h++[o]):=fun o=>qcA (a0 _ (.app _ _)) (qaP _ _ _) (by decide)
 generalize ns.getD 0 0 % 8=ix at i0 i1 s3
 have hat:∃ w:Int,w<=17/\atI [D.int 2,.int 3,.int 4,.int 5,.int (6+v),.int 1,.int 0,.int (-1)] ix=some (.int w):=by
  have:ix=0\/ix=1\/ix=2\/ix=3\/ix=4\/ix=5\/ix=6\/ix=7:=by lia
  rcases this with rfl | rfl | rfl | rfl | rfl | rfl | rfl | rfl
  ·exact⟨2,by decide,rfl⟩
  ·exact⟨3,by decide,rfl⟩
  ·exact⟨4,by decide,rfl⟩
  ·exact⟨5,by decide,rfl⟩
  ·exact⟨6+v,by lia,rfl⟩
  ·exact⟨1,by decide,rfl⟩
  ·exact⟨0,by decide,rfl⟩
  ·exact⟨-1,by decide,rfl⟩
 obtain⟨w,w1,hat⟩:=hat
 refine⟨w,.lst [.int 2,.int 3,.int 4,.int 5,.int (6+v),.int 1,.int 0,.int (-1)],w1,?_⟩
 rw [qap s2 (s3 _),qaB (qbu _ _),hat]
 rfl
theorem qkX (de:Deed):IsDeed de.d:=by
 cases de with
 | put x s=>exact⟨_,rfl,fun y hy=>by
   simp only [zG,yD,or_false] at hy
   rcases hy with rfl | rfl | rfl
   ·exact .inr (.inl ⟨_,rfl⟩)
   ·exact .inr (.inr ⟨_,rfl⟩)
   ·exact .inr (.inl ⟨_,rfl⟩)⟩
 | take x=>exact⟨_,rfl,fun y hy=>by
   simp only [zG,yD,or_false] at hy
   rcases hy with rfl | rfl
   ·exact .inr (.inl ⟨_,rfl⟩)
   ·exact .inr (.inr ⟨_,rfl⟩)⟩
theorem ql7 (de:Deed) (n:Nat):de.d≠.lst n:=by cases de<;>exact fun z=>nomatch z
theorem qjg (de:Deed) (c:Card):de.d≠qah c:=by
 cases de with
 | put x s=>intro z; unfold Deed.d qah at z; injection z with z; injection z with z1 z2; injection z1
 | take x=>intro z; unfold Deed.d qah at z; injection z with z; injection z with z1 z2; injection z1
theorem qlr (t:T) (n:Nat):t.d≠.lst n:=by
 obtain⟨cs,bs,i,e⟩:=t.isDr
 rw [e]
 exact fun z=>nomatch z
theorem qjq (t:T) (c:Card):t.d≠qah c:=by
 obtain⟨cs,bs,i,e⟩:=t.isDr
 rw [e]
 intro z
 unfold qah at z
 injection z with z
 injection z with z1 z2
 injection z2 with z3 z4
 exact nomatch z4
def LpP (s w d hd f:Nat) (ds:List Deed) (ts:List T) (k:Nat) (e:En) (h':Hh):Prop:=∃ (kt:HT) (t:T) (z7:Option D),e=[some (.lst s),some (.int (w:Int)),some (.lst d),some (.lst hd),some (.lst f),some (.bl false),some (.lst kt.q),z7]/\At h' kt t/\kt.all.Nodup/\h'[d]?=some (.lst (ds.map Deed.d))/\h'[f]?=some (.lst (ts.map T.d))/\(∃ L,Cb w L t)/\t.flat.length<=k/\(T.node [] []::ts)[k]?=some t
theorem qkp {h':Hh}{s w d hd f k:Nat}{ds:List Deed}{ts:List T}{e:En} (w2:2<=w) (hw:w<=17) (dy:Dy w ds ts) (hk:k < ds.length) (hl:ds.length<=60) (p:LpP s w d hd f ds ts k e h'):
  ∃ e2 h2,qkq (e.set 7 (some (.int (k:Int)))) h'=.nx e2 h2/\LpP s w d hd f ds ts (k+1) e2 h2:=by
 obtain⟨kt,t,z7,rfl,ra,nd,ed,ef,⟨L0,c0⟩,fl,ht⟩:=p
 obtain⟨de,hde⟩:∃ de,ds[k]?=some de:=⟨_,zA hk⟩
 obtain⟨t',ht'⟩:∃ t',ts[k]?=some t':=⟨_,zA (by rw [dy.len]; exact hk)⟩
 have st:=dy.stp k de t t' hde ht ht'
 obtain⟨L,c,f'⟩:=qjA c0 w2 st
 have fl':t'.flat.length<=k+1:=by rw [f']; have:=qkS de t.flat; lia
 have L5:=c0.few w2 (by lia)
 have L05:=c.few w2 (by lia)
 show ∃ e2 h2,qkq [some (.lst s),some (.int (w:Int)),some (.lst d),some (.lst hd),some (.lst f),some (.bl false),some (.lst kt.q),some (.int (k:Int))] h'=.nx e2 h2/\_
 have dout:d∉kt.all:=ra.out ed (yW.mpr ⟨de,zD hde,rfl⟩) (ql7 de) (qjg de)
 have fout:f∉kt.all:=ra.out ef (yW.mpr ⟨t',zD ht',rfl⟩) (qlr t') (qjq t')
 have dlt:=(zB.mp ed).1
 have flt:=(zB.mp ef).1
 have xd:f2 oIx (fV 2) (fV 7) [some (.lst s),some (.int (w:Int)),some (.lst d),some (.lst hd),some (.lst f),some (.bl false),some (.lst kt.q),some (.int (k:Int))] h'=.ok de.d h':=by
  rw [qap (x:=.lst d) (h1:=h') rfl (y:=.int (k:Int)) (h2:=h') rfl,qaB ed,qaS,zE,hde]; rfl
 obtain⟨k2,h2,q2,r2,nd2,ed2,ef2⟩:∃ (k2:HT) (h2:Hh),(fIfS (fB (f2 oEq (f2 oIx (f2 oIx (fV 2) (fV 7)) (fC (.int 0))) (fC (.str "put")))) (fSet 6 (fc (qae 12 (qa7 (qae 4 (qao (qae 2 qan) (qae 3 qak))) (qae 3 qak))) (fAll [(fV 1),(fV 6),(fSl (f2 oIx (fV 2) (fV 7)) (qaJ (fC (.int 1))) qar)]))) (fSet 6 (fc (qae 8 (qa8 (qae 4 (qao (qae 2 qan) (qae 3 qak))) (qae 3 qak) (qae 8 qaZ))) (fAll [(fV 1),(fV 6),(f2 oIx (f2 oIx (fV 2) (fV 7)) (fC (.int 1)))])))) [some (.lst s),some (.int (w:Int)),some (.lst d),some (.lst hd),some (.lst f),some (.bl false),some (.lst kt.q),some (.int (k:Int))] h'=.nx [some (.lst s),some (.int (w:Int)),some (.lst d),some (.lst hd),some (.lst f),some (.bl false),some (.lst k2.q),some (.int (k:Int))] h2/\At h2 k2 t'/\k2.all.Nodup/\h2[d]?=some (.lst (ds.map Deed.d))/\h2[f]?=some (.lst (ts.map T.d)):=by
  cases st with
  | @put L' x sx c' h5=>
   have k0:fB (f2 oEq (f2 oIx (f2 oIx (fV 2) (fV 7)) (fC (.int 0))) (fC (.str "put"))) [some (.lst s),some (.int (w:Int)),some (.lst d),some (.lst hd),some (.lst f),some (.bl false),some (.lst kt.q),some (.int (k:Int))] h'=.ok true h':=qa5 (by rw [qap (x:=.str "put") (h1:=h') (by rw [qap xd (qaP (.int 0) _ _)]; rfl) (qaP (.str "put") _ _)]; rfl)
   obtain⟨k',h2,q,r,n,kp,l⟩:=qjK (half:=w / 2) (w:=w) (x:=x) (s:=sx) rfl (by lia) (j:=L') (by lia) c'.v c'.srt ra nd
   refine⟨k',h2,?_,r,n,by rw [kp d dlt dout]; exact ed,by rw [kp f flt fout]; exact ef⟩
   rw [qbb k0]
   refine (qaq (d:=.lst k'.q) (h1:=h2) ?_).trans rfl
   have cd:fSl (f2 oIx (fV 2) (fV 7)) (qaJ (fC (.int 1))) qar [some (.lst s),some (.int (w:Int)),some (.lst d),some (.lst hd),some (.lst f),some (.bl false),some (.lst kt.q),some (.int (k:Int))] h'=.ok (qah (x,sx)) h':=by
    unfold fSl qaJ qar
    rw [xd,Res.bind_ok,qaP]
    simp only [Res.bind_ok,qbC]
    unfold Deed.d
    rw [qdZ,show (1:Int)=((1:Nat):Int) from rfl,qde]
    rfl
   rw [qaK (qaz (d:=.int (w:Int)) (h1:=h') rfl (qb3 (d:=.lst kt.q) (h1:=h') rfl cd)),q]
   rfl
  | @take L' x u tk one c' fx hx=>
   have k0:fB (f2 oEq (f2 oIx (f2 oIx (fV 2) (fV 7)) (fC (.int 0))) (fC (.str "put"))) [some (.lst s),some (.int (w:Int)),some (.lst d),some (.lst hd),some (.lst f),some (.bl false),some (.lst kt.q),some (.int (k:Int))] h'=.ok false h':=qa5 (by rw [qap (x:=.str "take") (h1:=h') (by rw [qap xd (qaP (.int 0) _ _)]; rfl) (qaP (.str "put") _ _)]; rfl)
   have nx:f2 oIx (f2 oIx (fV 2) (fV 7)) (fC (.int 1)) [some (.lst s),some (.int (w:Int)),some (.lst d),some (.lst hd),some (.lst f),some (.bl false),some (.lst kt.q),some (.int (k:Int))] h'=.ok (.int x) h':=by rw [qap xd (qaP (.int 1) _ _)]; rfl
   obtain⟨j,rfl⟩:∃ j,L0=j+1:=⟨L0 - 1,by have:=c0.L1; lia⟩
   obtain⟨k',h2,q,r,kp,l,n⟩:=qjI (half:=w / 2) (w:=w) (x:=x) rfl (by lia) (by lia) (by lia) c0.v c0.srt ra nd tk (fun z=>c0.top (by lia))
   refine⟨k',h2,?_,r,n,by rw [kp d dlt dout]; exact ed,by rw [kp f flt fout]; exact ef⟩
   rw [qaL k0]
   refine (qaq (d:=.lst k'.q) (h1:=h2) ?_).trans rfl
   rw [qaK (qaz (d:=.int (w:Int)) (h1:=h') rfl (qb3 (d:=.lst kt.q) (h1:=h') rfl nx))]
   exact congrArg Res.ofO q
  | @none x hx nk=>
   have k0:fB (f2 oEq (f2 oIx (f2 oIx (fV 2) (fV 7)) (fC (.int 0))) (fC (.str "put"))) [some (.lst s),some (.int (w:Int)),some (.lst d),some (.lst hd),some (.lst f),some (.bl false),some (.lst kt.q),some (.int (k:Int))] h'=.ok false h':=qa5 (by rw [qap (x:=.str "take") (h1:=h') (by rw [qap xd (qaP (.int 0) _ _)]; rfl) (qaP (.str "put") _ _)]; rfl)
   have nx:f2 oIx (f2 oIx (fV 2) (fV 7)) (fC (.int 1)) [some (.lst s),some (.int (w:Int)),some (.lst d),some (.lst hd),some (.lst f),some (.bl false),some (.lst kt.q),some (.int (k:Int))] h'=.ok (.int x) h':=by rw [qap xd (qaP (.int 1) _ _)]; rfl
   obtain⟨h2,q,g⟩:=qg3 (half:=w / 2) (w:=w) (x:=x) (by lia) (by lia) c0.v c0.srt ra hx
   refine⟨kt,h2,?_,ra.grow g,nd,g.at' ed,g.at' ef⟩
   rw [qaL k0]
   refine (qaq (d:=.lst kt.q) (h1:=h2) ?_).trans rfl
   rw [qaK (qaz (d:=.int (w:Int)) (h1:=h') rfl (qb3 (d:=.lst kt.q) (h1:=h') rfl nx))]
   exact congrArg Res.ofO q
 have nn1:t'.nn<=1000:=by
  have:=qoD (show 1<=w / 2 by lia) L 0 _ c.v
  lia
 obtain⟨h3,q3,g3⟩:=qjP r2 nn1
 refine⟨[some (.lst s),some (.int (w:Int)),some (.lst d),some (.lst hd),some (.lst f),some (.bl false),some (.lst k2.q),some (.int (k:Int))],h3,?_,k2,t',_,rfl,r2.grow g3,nd2,g3.at' ed2,g3.at' ef2,⟨L,c⟩,fl',by rw [zL]; exact ht'⟩
 unfold qkq
 rw [qag q2]
 rw [qaL (h1:=h3) (notB (b:=true) (qa5 (by
  rw [qaK (qb3 (d:=t'.d) (h1:=h2) (by rw [qap (x:=.lst f) (h1:=h2) rfl (y:=.int (k:Int)) (h2:=h2) rfl,qaB ef2,qaS,zE,ht']; rfl) (d2:=.lst k2.q) (h2:=h2) rfl),q3]
  rfl)))]
 rfl
theorem qlW {xW xD xN:Addr} (ns:List Int) (hl:ns.length<=63):∃ h',qae 8 (qiQ xW xD (qae 1 qbm) (qae 2 qaw) (qae 16 (qbB (qae 2 (qaT (qae 2 qaw))) (qae 2 qaw) (qae 2 qbl))) (TOPS xW xN) (qae 4 (qbv (qae 1 qax))) (qae 12 (qa7 (qae 4 (qao (qae 2 qan) (qae 3 qak))) (qae 3 qak))) (qae 8 (qa8 (qae 4 (qao (qae 2 qan) (qae 3 qak))) (qae 3 qak) (qae 8 qaZ))) (qae 7 (qbn (qae 2 (qaA (qae 1 qax)))))) [.ro ns] []=some (.bl true,h'):=by
 rw [qoJ]
 have s1:fSl (fV 0) qar (qaJ (fC (.int 500))) [some (.ro ns),none,none,none,none,none,none,none] []=.ok (.lst 0) [.lst (ns.map D.int)]:=by
  have:=qdf (ns.map D.int) 500
  rw [yZ (by rw [zC]; lia)] at this
  simp [fSl,fV,qar,qaJ,fC,oSl]
  exact this
 have q0:([O.lst (ns.map D.int)]:Hh)[0]?=some (.lst (ns.map D.int)):=rfl
 generalize hh0:([O.lst (ns.map D.int)]:Hh)=h0 at s1 q0
 have sl:fSl (fV 0) qar (qaJ (fC (.int 46))) [some (.lst 0),none,none,none,none,none,none,none] h0=.ok (.lst h0.length) (h0++[.lst ((ns.take 46).map D.int)]):=by
  unfold fSl qar qaJ
  rw [qbc (d:=.lst 0) rfl,Res.bind_ok]
  simp only [Res.bind_ok,qaP,qbC]
  rw [qeA q0,show (46:Int)=((46:Nat):Int) from rfl,qdf,<-yY]
  rfl
 have ab:=qbu h0 (O.lst ((ns.take 46).map D.int))
 generalize h0++[O.lst ((ns.take 46).map D.int)]=hb at sl ab
 generalize h0.length=sb at sl ab
 obtain⟨ms,q1,ml⟩:=qjL ab (by rw [zM]; lia)
 rw [zM] at ml
 have a1:=qbu hb (O.lst (ms.map D.int))
 generalize hb++[O.lst (ms.map D.int)]=h1 at q1 a1
 generalize hb.length=s at q1 a1
 obtain⟨wd,o2,w17,q2⟩:=qmS (e:=[some (.lst s),none,none,none,none,none,none,none]) rfl a1
 have g2:Grow h1 (h1++[o2]):=.app _ _
 generalize h1++[o2]=h2 at q2 g2
 obtain⟨d,ds,h3,q3,g3,a3,dl⟩:=qmU (g2.at' a1) (by lia)
 have g4:=Grow.app h3 [O.lst (ds.map Deed.d)]
 have a4:=qbu h3 (O.lst (ds.map Deed.d))
 have q4:fc qgq (fAll [(fV 2)]) [some (.lst s),some (.int wd),some (.lst d),none,none,none,none,none] h3=.ok (.lst h3.length) (h3++[.lst (ds.map Deed.d)]):=by
  rw [qaK (qbg (d:=.lst d) (h1:=h3) rfl)]
  show Res.ofO ((qdn (.lst d) h3).map fun xs=>(D.lst h3.length,h3++[.lst xs]))=_
  rw [show qdn (.lst d) h3=some (ds.map Deed.d) from qaH a3]
  rfl
 have d4:=g4.at' a3
 generalize h3++[O.lst (ds.map Deed.d)]=h4 at q4 g4 a4 d4
 generalize h3.length=hd at q4 a4
 have isd:∀ x∈ds.map Deed.d,IsDeed x:=fun x hx=>by
  obtain⟨de,_,rfl⟩:=yW.mp hx
  exact qkX de
 have pre:∀ rest:FS,fSeq (fSet 0 (fSl (fV 0) qar (qaJ (fC (.int 500))))) (fSeq (fSet 0 (fc (qae 1 qbm) (fAll [(fSl (fV 0) qar (qaJ (fC (.int 46))))]))) (fSeq (fSet 1 (f2 oIx (fLst [(fC (.int 2)),(fC (.int 3)),(fC (.int 4)),(fC (.int 5)),(f2 oAdd (fC (.int 6)) (f2 oMod (f2 oDiv (fc (qae 2 qaw) (fAll [(fV 0),(fC (.int 0))])) (fC (.int 8))) (fC (.int 12)))),(fC (.int 1)),(fC (.int 0)),(f1 oNeg (fC (.int 1)))]) (f2 oMod (fc (qae 2 qaw) (fAll [(fV 0),(fC (.int 0))])) (fC (.int 8))))) (fSeq (fSet 2 (fc (qae 16 (qbB (qae 2 (qaT (qae 2 qaw))) (qae 2 qaw) (qae 2 qbl))) (fAll [(fV 0)]))) (fSeq (fSet 3 (fc qgq (fAll [(fV 2)]))) (fSeq (fSet 4 (fC .non)) (fSeq (fSet 5 (fC (.bl false))) rest)))))) [some (.ro ns),none,none,none,none,none,none,none] []=rest [some (.lst s),some (.int wd),some (.lst d),some (.lst hd),some (.non),some (.bl false),none,none] h4:=fun rest=>by
  rw [qag (e1:=[some (.lst 0),none,none,none,none,none,none,none]) (h1:=h0) (qaq s1)]
  rw [qag (e1:=[some (.lst s),none,none,none,none,none,none,none]) (h1:=h1) (qaq (by rw [qaK (qbg sl),q1]; rfl))]
  rw [qag (e1:=[some (.lst s),some (.int wd),none,none,none,none,none,none]) (h1:=h2) (qaq q2)]
  rw [qag (e1:=[some (.lst s),some (.int wd),some (.lst d),none,none,none,none,none]) (h1:=h3) (qaq (by rw [qaK (qbg (d:=.lst s) (h1:=h2) rfl),q3]; rfl))]
  rw [qag (e1:=[some (.lst s),some (.int wd),some (.lst d),some (.lst hd),none,none,none,none]) (h1:=h4) (qaq q4)]
  rw [qag (e1:=[some (.lst s),some (.int wd),some (.lst d),some (.lst hd),some (.non),none,none,none]) (h1:=h4) (qaq rfl)]
  rw [qag (e1:=[some (.lst s),some (.int wd),some (.lst d),some (.lst hd),some (.non),some (.bl false),none,none]) (h1:=h4) (qaq rfl)]
 by_cases c2:wd < 2
 ·
  refine⟨h4,qaD ((pre _).trans ?_)⟩
  have qx:fcX (TOPS xW xN) (fAll [(fV 1),(fV 3)]) [some (.lst s),some (.int wd),some (.lst d),some (.lst hd),some (.non),some (.bl false),none,none] h4=.ex (.ref xW) h4:=by rw [qcD (ds:=[.int wd,.lst hd]) (h1:=h4) rfl,qhN c2]
  have qt:fTry (fSet 4 (fcX (TOPS xW xN) (fAll [(fV 1),(fV 3)]))) (mOf [(xW,noEx (fSet 5 (fC (.bl true))))]) [some (.lst s),some (.int wd),some (.lst d),some (.lst hd),some (.non),some (.bl false),none,none] h4=.nx [some (.lst s),some (.int wd),some (.lst d),some (.lst hd),some (.non),some (.bl true),none,none] h4:=by
   rw [qkO (qh1 qx) (qko _ _ _)]
   rfl
  rw [qag qt]
  rw [qag (e1:=[some (.lst s),some (.int wd),some (.lst d),some (.lst hd),some (.non),some (.bl true),none,none]) (h1:=h4) (by
   rw [qaL (h1:=h4) (notB (b:=true) (qa5 (by rw [qaK (ds:=[.lst hd,.lst d]) (h1:=h4) rfl,qii a4 d4 isd (by rw [zC]; lia)]; rfl)))]
   rfl)]
  refine qba ?_
  rw [qbb (h1:=h4) (orT (h1:=h4) rfl)]
  refine qaO ?_
  refine andVT (h1:=h4) rfl ?_
  rw [qap (x:=.int wd) (h1:=h4) rfl (qaP (.int 2) _ _),qkd,decide_eq_true c2]
  rfl
 ·obtain⟨w,rfl⟩:∃ w:Nat,wd=w:=⟨wd.toNat,by lia⟩
  obtain⟨f,ts,h5,q5,g5,a5,dy⟩:=qlz (xW:=xW) (xN:=xN) (w:=w) (by lia) (by lia) a4 (by lia)
  have d5:=g5.at' d4
  have hd5:=g5.at' a4
  have len2:∀ z6 z7 (h':Hh),h'[d]?=some (.lst (ds.map Deed.d))->fc oLen (fAll [(fV 2)]) [some (.lst s),some (.int (w:Int)),some (.lst d),some (.lst hd),some (.lst f),some (.bl false),z6,z7] h'=.ok (.int (ds.length:Int)) h':=fun _ _ h' e=>by
   rw [qaK (qbg (d:=.lst d) (h1:=h') rfl),qbo e,zC]; rfl
  have top0:At (h5++[.lst []]++[.lst []]++[.lst [.lst h5.length,.lst (h5.length+1)]]) (.node (h5.length+2) h5.length (h5.length+1) []) (.node [] []):=by
   refine .mk ?_ ?_ ?_ rfl fun i k t e=>by simp at e
   ·have:=qbu (h5++[O.lst []]++[O.lst []]) (.lst [.lst h5.length,.lst (h5.length+1)])
    rwa [show (h5++[O.lst []]++[O.lst []]).length=h5.length+2 by simp] at this
   ·exact ((Grow.app _ _).app1 _).at' (qbu h5 (O.lst []))
   ·have:=qbu (h5++[O.lst []]) (O.lst [])
    rw [show (h5++[O.lst []]).length=h5.length+1 by simp] at this
    exact (Grow.app _ _).at' this
  have g6:Grow h5 (h5++[O.lst []]++[.lst []]++[.lst [.lst h5.length,.lst (h5.length+1)]]):=((Grow.app _ _).app1 _).app1 _
  have q6:fLst [(fLst []),(fLst [])] [some (.lst s),some (.int (w:Int)),some (.lst d),some (.lst hd),some (.lst f),some (.bl false),none,none] h5=.ok (.lst (h5.length+2)) (h5++[O.lst []]++[.lst []]++[.lst [.lst h5.length,.lst (h5.length+1)]]):=by
   have e1:∀ (e:En) (h:Hh),fLst [] e h=.ok (.lst h.length) (h++[.lst []]):=fun _ _=>rfl
   have:=qb3 (e1 [some (.lst s),some (.int (w:Int)),some (.lst d),some (.lst hd),some (.lst f),some (.bl false),none,none] h5) (e1 [some (.lst s),some (.int (w:Int)),some (.lst d),some (.lst hd),some (.lst f),some (.bl false),none,none] (h5++[.lst []]))
   show (fAll [(fLst []),(fLst [])] _ h5).bind _=_
   rw [this,Res.bind_ok]
   simp
  generalize h5++[O.lst []]++[.lst []]++[.lst [.lst h5.length,.lst (h5.length+1)]]=h6 at top0 g6 q6
  have d6:=g6.at' d5
  have f6:=g6.at' a5
  obtain⟨e7,h7,q7,kt,t,z7,he,_⟩:=qcL (chk:=fun _=>True) (i:=7) (t:=qkq)
   (P:=LpP s w d hd f ds ts) ((List.range ds.length).map fun (k:Nat)=>D.int k) [some (.lst s),some (.int (w:Int)),some (.lst d),some (.lst hd),some (.lst f),some (.bl false),some (.lst (h5.length+2)),none] h6
   ⟨.node (h5.length+2) h5.length (h5.length+1) [],.node [] [],none,rfl,top0,by rw [qaF]; simp [HT.allL],d6,f6,⟨1,qmC w⟩,by rw [T.flat_node]; exact zS _,rfl⟩ (fun _ _ _ _=>trivial)
   (fun k x e' h' hk p=>by
    obtain⟨hlt,rfl⟩:=qfl hk
    exact qkp (by lia) (by lia) dy hlt (by lia) p)
  refine⟨h7,qaD ((pre _).trans ?_)⟩
  have qx:fcX (TOPS xW xN) (fAll [(fV 1),(fV 3)]) [some (.lst s),some (.int (w:Int)),some (.lst d),some (.lst hd),some (.non),some (.bl false),none,none] h4=.ok (.lst f) h5:=by rw [qcD (ds:=[.int (w:Int),.lst hd]) (h1:=h4) rfl,q5]
  rw [qag (e1:=[some (.lst s),some (.int (w:Int)),some (.lst d),some (.lst hd),some (.lst f),some (.bl false),none,none]) (h1:=h5) (qnr (qaq qx))]
  rw [qag (e1:=[some (.lst s),some (.int (w:Int)),some (.lst d),some (.lst hd),some (.lst f),some (.bl false),none,none]) (h1:=h5) (by
   rw [qaL (h1:=h5) (notB (b:=true) (qa5 (by rw [qaK (ds:=[.lst hd,.lst d]) (h1:=h5) rfl,qii hd5 d5 isd (by rw [zC]; lia)]; rfl)))]
   rfl)]
  rw [qag (e1:=[some (.lst s),some (.int (w:Int)),some (.lst d),some (.lst hd),some (.lst f),some (.bl false),none,none]) (h1:=h5) (by
   rw [qaL (h1:=h5) (orF (h1:=h5) rfl (qa5 (b:=false) (by rw [qap (x:=.int (w:Int)) (h1:=h5) rfl (qaP (.int 2) _ _),qkd,decide_eq_false c2]; rfl)))]
   rfl)]
  rw [qag (e1:=[some (.lst s),some (.int (w:Int)),some (.lst d),some (.lst hd),some (.lst f),some (.bl false),none,none]) (h1:=h5) (by
   have isl:f1 (oIsi "list") (fV 4) [some (.lst s),some (.int (w:Int)),some (.lst d),some (.lst hd),some (.lst f),some (.bl false),none,none] h5=.ok (.bl true) h5:=by
    unfold f1
    rw [qbc (d:=.lst f) rfl h5,Res.bind_ok]
    unfold oIsi tyD
    simp only [a5]
    rfl
   rw [qaL (h1:=h5) (orF (h1:=h5) (notB (b:=true) (qa5 isl)) (qa5 (b:=false) (by
    rw [qap (x:=.int (ds.length:Int)) (h1:=h5) (by rw [qaK (qbg (d:=.lst f) (h1:=h5) rfl),qbo a5,zC,dy.len]; rfl) (len2 _ _ h5 d5),qeB,beq_self_eq_true]
    rfl)))]
   rfl)]
  rw [qag (e1:=[some (.lst s),some (.int (w:Int)),some (.lst d),some (.lst hd),some (.lst f),some (.bl false),some (.lst (h5.length+2)),none]) (h1:=h6) (qaq q6)]
  rw [qag ((qcR (qdz (n:=ds.length) (qbg (len2 _ _ h6 d6)) (by lia))).trans q7),he]
  rfl
noncomputable def cO (n:Str) (t0 t1 t2:Nat) (l a b c d:Int) (r1:Addr) (i:Int) (r2 r3 r4 r5:Addr) (j l2:Int) (t3:Nat):Obj:=⟨.type "code",none,.fields #[.str n t0,.str n t1,.str "/claim/cut.py" t2,.int l 0,.int a 0,.int b 0,.int c 0,.int d 0,.ref r1,.bool true,.int i 0,.ref r2,.none,.ref r3,.ref r4,.ref r5,.int j 0,.int l2 0,.str "/claim/cut.py" t3],#[]⟩
noncomputable def fO (n:Str) (i:Nat) (dc pm:Value) (c:Addr):Obj:=⟨.type "function",none,.func (PySem.W.fnOf n n (qb8 (top i)) (qby (top i)) (qam (top i)) .none .none dc pm none (.ref c) .none),#[]⟩
noncomputable def dE (P:Params) (n:Str) (t:Nat) (v:Value):DictEntry:=⟨PyData.keyHash P n,.str n t,v⟩
noncomputable def dO (a:Array DictEntry) (n:Nat):Obj:=⟨.type "dict",none,.dict a n,#[]⟩
noncomputable def KF (P:Params):PySem.W.Frag:=
 (nat_lit 3,dO #[dE P "__name__" 165 (.str "law_manydrawer_k13_whole_drawers_beside" 547),dE P "__doc__" 166 (.none),dE P "__package__" 167 (.none),dE P "__loader__" 168 (.builtin "__main__.__loader__#opaque"),dE P "__spec__" 169 (.none),dE P "__annotations__" 170 (.ref 6),dE P "__builtins__" 171 (.ref 4),dE P "__file__" 173 (.str "/claim/cut.py" 172),dE P "__cached__" 174 (.none),dE P "DrawerError" 206 (.ref 24),dE P "NoCard" 222 (.ref 37),dE P "NoWidth" 238 (.ref 49),dE P "check_width" 247 (.ref 58),dE P "half_of" 254 (.ref 65),dE P "drawer_of" 260 (.ref 70),dE P "spliced" 270 (.ref 77),dE P "place_of" 279 (.ref 84),dE P "is_at" 288 (.ref 91),dE P "note_of" 301 (.ref 98),dE P "rank_of" 307 (.ref 103),dE P "card_with" 319 (.ref 110),dE P "card_at" 327 (.ref 117),dE P "between" 342 (.ref 124),dE P "parted" 357 (.ref 131),dE P "with_under_parted" 370 (.ref 138),dE P "laid_in" 384 (.ref 145),dE P "put_in" 396 (.ref 152),dE P "lent_by_left" 410 (.ref 159),dE P "lent_by_right" 424 (.ref 166),dE P "joined" 437 (.ref 173),dE P "mended" 448 (.ref 180),dE P "with_under_mended" 460 (.ref 187),dE P "last_out" 472 (.ref 194),dE P "taken_from" 488 (.ref 201),dE P "take_out" 498 (.ref 208),dE P "asked" 509 (.ref 215),dE P "done" 519 (.ref 222),dE P "done_or_refused" 528 (.ref 229),dE P "steps" 540 (.ref 236),dE P "tops" 546 (.ref 241),dE P "_law_whole" 555 (.ref 248),dE P "_law_at" 563 (.ref 255),dE P "_law_reach_by" 571 (.ref 262),dE P "_law_far" 579 (.ref 269),dE P "_law_day" 601 (.ref 276),dE P "_law_same" 611 (.ref 283),dE P "_law_is_drawer" 619 (.ref 290),dE P "_law_mend" 633 (.ref 297),dE P "_law_spot_in" 639 (.ref 302),dE P "_law_there" 648 (.ref 309),dE P "_law_steps_to" 658 (.ref 316),dE P "_law_put_in" 676 (.ref 323),dE P "_law_taken" 690 (.ref 330),dE P "_law_alike" 703 (.ref 337),dE P "_law_mixed" 709 (.ref 342),dE P "law" 723 (.ref 349)] 56)::
 (nat_lit 23,dO #[dE P "__module__" 196 (.str "manydrawer.errors" 187),dE P "__firstlineno__" 200 (.int 2 199),dE P "__static_attributes__" 201 (.ref 22),dE P "__weakref__" 203 (.ref 25),dE P "__doc__" 204 (.none)] 3)::
 (nat_lit 24,⟨.type "type",none,.cls { name:="DrawerError",bases:=[.type "ValueError"],mro:=[.ref 24,.type "ValueError",.type "Exception",.type "BaseException",.type "object"],ns:=23,qualname:="DrawerError",subclasses:=[.ref 37,.ref 49] },#[some (.ref 15),none,some (.str "DrawerError" 189),some (.str "DrawerError" 197),some (.builtin "ValueError.__new__"),some (.bool true)]⟩)::
 (nat_lit 36,dO #[dE P "__module__" 214 (.str "manydrawer.errors" 187),dE P "__firstlineno__" 218 (.int 4 217),dE P "__static_attributes__" 219 (.ref 35),dE P "__doc__" 220 (.none)] 2)::
 (nat_lit 37,⟨.type "type",none,.cls { name:="NoCard",bases:=[.ref 24],mro:=[.ref 37,.ref 24,.type "ValueError",.type "Exception",.type "BaseException",.type "object"],ns:=36,qualname:="NoCard" },#[some (.ref 28),none,some (.str "NoCard" 207),some (.str "NoCard" 215),some (.builtin "ValueError.__new__"),some (.bool true)]⟩)::
 (nat_lit 48,dO #[dE P "__module__" 230 (.str "manydrawer.errors" 187),dE P "__firstlineno__" 234 (.int 6 233),dE P "__static_attributes__" 235 (.ref 47),dE P "__doc__" 236 (.none)] 2)::
 (nat_lit 49,⟨.type "type",none,.cls { name:="NoWidth",bases:=[.ref 24],mro:=[.ref 49,.ref 24,.type "ValueError",.type "Exception",.type "BaseException",.type "object"],ns:=48,qualname:="NoWidth" },#[some (.ref 40),none,some (.str "NoWidth" 223),some (.str "NoWidth" 231),some (.builtin "ValueError.__new__"),some (.bool true)]⟩)::
 (nat_lit 57,cO "check_width" 241 242 243 9 1 0 0 3 52 181 53 54 55 56 245 9 246)::
 (nat_lit 58,fO "check_width" 5 (.none) (.str "manydrawer.drawers" 239) 57)::
 (nat_lit 64,cO "half_of" 248 249 250 12 1 0 0 3 59 181 60 61 62 63 252 12 253)::
 (nat_lit 65,fO "half_of" 6 (.none) (.str "manydrawer.drawers" 239) 64)::
 (nat_lit 69,{ cls:=.type "code",data:=.fields #[.str "drawer_of" 255,.str "drawer_of" 256,.str "/claim/cut.py" 257,.int 14 0,.int 2 0,.int 0 0,.int 0 0,.int 3 0,.ref 66,.bool true,.int 181 0,.ref 67,.none,.none,.none,.ref 68,.int 258 0,.int 14 0,.str "/claim/cut.py" 259] })::
 (nat_lit 70,fO "drawer_of" 7 (.none) (.str "manydrawer.drawers" 239) 69)::
 (nat_lit 76,cO "spliced" 261 262 263 16 4 0 0 3 71 181 72 73 74 75 268 16 269)::
 (nat_lit 77,fO "spliced" 8 (.none) (.str "manydrawer.drawers" 239) 76)::
 (nat_lit 83,cO "place_of" 271 272 273 18 2 0 0 3 78 181 79 80 81 82 277 18 278)::
 (nat_lit 84,fO "place_of" 9 (.none) (.str "manydrawer.drawers" 239) 83)::
 (nat_lit 90,cO "is_at" 280 281 282 23 3 0 0 3 85 181 86 87 88 89 286 23 287)::
 (nat_lit 91,fO "is_at" 10 (.none) (.str "manydrawer.drawers" 239) 90)::
 (nat_lit 97,cO "note_of" 291 292 293 26 2 0 0 3 92 181 93 94 95 96 299 26 300)::
 (nat_lit 98,fO "note_of" 12 (.none) (.str "manydrawer.asking" 289) 97)::
 (nat_lit 102,{ cls:=.type "code",data:=.fields #[.str "rank_of" 302,.str "rank_of" 303,.str "/claim/cut.py" 304,.int 35 0,.int 2 0,.int 0 0,.int 0 0,.int 3 0,.ref 99,.bool true,.int 181 0,.ref 100,.none,.none,.none,.ref 101,.int 305 0,.int 35 0,.str "/claim/cut.py" 306] })::
 (nat_lit 103,fO "rank_of" 13 (.none) (.str "manydrawer.asking" 289) 102)::
 (nat_lit 109,cO "card_with" 308 309 310 42 2 0 0 3 104 181 105 106 107 108 317 42 318)::
 (nat_lit 110,fO "card_with" 14 (.none) (.str "manydrawer.asking" 289) 109)::
 (nat_lit 116,cO "card_at" 320 321 322 55 2 0 0 3 111 181 112 113 114 115 325 55 326)::
 (nat_lit 117,fO "card_at" 15 (.none) (.str "manydrawer.asking" 289) 116)::
 (nat_lit 123,cO "between" 328 329 330 59 3 0 0 3 118 181 119 120 121 122 340 59 341)::
 (nat_lit 124,fO "between" 16 (.none) (.str "manydrawer.asking" 289) 123)::
 (nat_lit 130,cO "parted" 345 346 347 73 2 0 0 3 125 181 126 127 128 129 355 73 356)::
 (nat_lit 131,fO "parted" 18 (.none) (.str "manydrawer.changing" 343) 130)::
 (nat_lit 137,cO "with_under_parted" 358 359 360 80 4 0 0 3 132 181 133 134 135 136 368 80 369)::
 (nat_lit 138,fO "with_under_parted" 19 (.none) (.str "manydrawer.changing" 343) 137)::
 (nat_lit 144,cO "laid_in" 371 372 373 87 4 0 0 3 139 181 140 141 142 143 382 87 383)::
 (nat_lit 145,fO "laid_in" 20 (.none) (.str "manydrawer.changing" 343) 144)::
 (nat_lit 151,cO "put_in" 385 386 387 97 4 0 0 3 146 181 147 148 149 150 394 97 395)::
 (nat_lit 152,fO "put_in" 21 (.none) (.str "manydrawer.changing" 343) 151)::
 (nat_lit 158,cO "lent_by_left" 397 398 399 103 2 0 0 3 153 181 154 155 156 157 408 103 409)::
 (nat_lit 159,fO "lent_by_left" 22 (.none) (.str "manydrawer.changing" 343) 158)::
 (nat_lit 165,cO "lent_by_right" 411 412 413 111 2 0 0 3 160 181 161 162 163 164 422 111 423)::
 (nat_lit 166,fO "lent_by_right" 23 (.none) (.str "manydrawer.changing" 343) 165)::
 (nat_lit 172,cO "joined" 425 426 427 119 2 0 0 3 167 181 168 169 170 171 435 119 436)::
 (nat_lit 173,fO "joined" 24 (.none) (.str "manydrawer.changing" 343) 172)::
 (nat_lit 179,cO "mended" 438 439 440 126 3 0 0 3 174 181 175 176 177 178 446 126 447)::
 (nat_lit 180,fO "mended" 25 (.none) (.str "manydrawer.changing" 343) 179)::
 (nat_lit 186,cO "with_under_mended" 449 450 451 138 5 0 0 3 181 181 182 183 184 185 458 138 459)::
 (nat_lit 187,fO "with_under_mended" 26 (.none) (.str "manydrawer.changing" 343) 186)::
 (nat_lit 193,cO "last_out" 461 462 463 141 2 0 0 3 188 181 189 190 191 192 470 141 471)::
 (nat_lit 194,fO "last_out" 27 (.none) (.str "manydrawer.changing" 343) 193)::
 (nat_lit 200,cO "taken_from" 473 474 475 149 3 0 0 3 195 181 196 197 198 199 486 149 487)::
 (nat_lit 201,fO "taken_from" 28 (.none) (.str "manydrawer.changing" 343) 200)::
 (nat_lit 207,cO "take_out" 489 490 491 164 3 0 0 3 202 181 203 204 205 206 496 164 497)::
 (nat_lit 208,fO "take_out" 29 (.none) (.str "manydrawer.changing" 343) 207)::
 (nat_lit 214,cO "asked" 501 502 503 170 2 0 0 3 209 181 210 211 212 213 507 170 508)::
 (nat_lit 215,fO "asked" 31 (.none) (.str "manydrawer.day" 499) 214)::
 (nat_lit 221,cO "done" 510 511 512 179 3 0 0 3 216 181 217 218 219 220 517 179 518)::
 (nat_lit 222,fO "done" 32 (.none) (.str "manydrawer.day" 499) 221)::
 (nat_lit 228,cO "done_or_refused" 520 521 522 186 3 0 0 3 223 181 224 225 226 227 526 186 527)::
 (nat_lit 229,fO "done_or_refused" 33 (.none) (.str "manydrawer.day" 499) 228)::
 (nat_lit 235,cO "steps" 529 530 531 191 2 0 0 3 230 181 231 232 233 234 538 191 539)::
 (nat_lit 236,fO "steps" 34 (.none) (.str "manydrawer.day" 499) 235)::
 (nat_lit 240,{ cls:=.type "code",data:=.fields #[.str "tops" 541,.str "tops" 542,.str "/claim/cut.py" 543,.int 200 0,.int 2 0,.int 0 0,.int 0 0,.int 3 0,.ref 237,.bool true,.int 181 0,.ref 238,.none,.none,.none,.ref 239,.int 544 0,.int 200 0,.str "/claim/cut.py" 545] })::
 (nat_lit 241,fO "tops" 35 (.none) (.str "manydrawer.day" 499) 240)::
 (nat_lit 247,cO "_law_whole" 549 550 551 203 1 0 0 3 242 181 243 244 245 246 553 203 554)::
 (nat_lit 248,fO "_law_whole" 37 (.none) (.str "law_manydrawer_k13_whole_drawers_beside" 547) 247)::
 (nat_lit 254,cO "_law_at" 556 557 558 205 2 0 0 3 249 181 250 251 252 253 561 205 562)::
 (nat_lit 255,fO "_law_at" 38 (.none) (.str "law_manydrawer_k13_whole_drawers_beside" 547) 254)::
 (nat_lit 261,cO "_law_reach_by" 564 565 566 209 1 0 0 3 256 181 257 258 259 260 569 209 570)::
 (nat_lit 262,fO "_law_reach_by" 39 (.none) (.str "law_manydrawer_k13_whole_drawers_beside" 547) 261)::
 (nat_lit 268,cO "_law_far" 572 573 574 212 2 0 0 3 263 181 264 265 266 267 577 212 578)::
 (nat_lit 269,fO "_law_far" 40 (.none) (.str "law_manydrawer_k13_whole_drawers_beside" 547) 268)::
 (nat_lit 275,cO "_law_day" 580 581 582 218 1 0 0 3 270 181 271 272 273 274 599 218 600)::
 (nat_lit 276,fO "_law_day" 41 (.none) (.str "law_manydrawer_k13_whole_drawers_beside" 547) 275)::
 (nat_lit 282,cO "_law_same" 602 603 604 241 2 0 0 3 277 181 278 279 280 281 609 241 610)::
 (nat_lit 283,fO "_law_same" 42 (.none) (.str "law_manydrawer_k13_whole_drawers_beside" 547) 282)::
 (nat_lit 289,cO "_law_is_drawer" 612 613 614 253 1 0 0 3 284 181 285 286 287 288 617 253 618)::
 (nat_lit 290,fO "_law_is_drawer" 43 (.none) (.str "law_manydrawer_k13_whole_drawers_beside" 547) 289)::
 (nat_lit 296,cO "_law_mend" 620 621 622 264 3 0 0 3 291 181 292 293 294 295 631 264 632)::
 (nat_lit 297,fO "_law_mend" 44 (.none) (.str "law_manydrawer_k13_whole_drawers_beside" 547) 296)::
 (nat_lit 301,{ cls:=.type "code",data:=.fields #[.str "_law_spot_in" 634,.str "_law_spot_in" 635,.str "/claim/cut.py" 636,.int 285 0,.int 2 0,.int 0 0,.int 0 0,.int 3 0,.ref 298,.bool true,.int 181 0,.ref 299,.none,.none,.none,.ref 300,.int 637 0,.int 285 0,.str "/claim/cut.py" 638] })::
 (nat_lit 302,fO "_law_spot_in" 45 (.none) (.str "law_manydrawer_k13_whole_drawers_beside" 547) 301)::
 (nat_lit 308,cO "_law_there" 640 641 642 287 2 0 0 3 303 181 304 305 306 307 646 287 647)::
 (nat_lit 309,fO "_law_there" 46 (.none) (.str "law_manydrawer_k13_whole_drawers_beside" 547) 308)::
 (nat_lit 315,cO "_law_steps_to" 649 650 651 290 2 0 0 3 310 181 311 312 313 314 656 290 657)::
 (nat_lit 316,fO "_law_steps_to" 47 (.none) (.str "law_manydrawer_k13_whole_drawers_beside" 547) 315)::
 (nat_lit 322,cO "_law_put_in" 659 660 661 296 3 0 0 3 317 181 318 319 320 321 674 296 675)::
 (nat_lit 323,fO "_law_put_in" 48 (.none) (.str "law_manydrawer_k13_whole_drawers_beside" 547) 322)::
 (nat_lit 329,cO "_law_taken" 677 678 679 315 3 0 0 3 324 181 325 326 327 328 688 315 689)::
 (nat_lit 330,fO "_law_taken" 49 (.none) (.str "law_manydrawer_k13_whole_drawers_beside" 547) 329)::
 (nat_lit 336,cO "_law_alike" 691 692 693 334 2 0 0 3 331 181 332 333 334 335 701 334 702)::
 (nat_lit 337,fO "_law_alike" 50 (.none) (.str "law_manydrawer_k13_whole_drawers_beside" 547) 336)::
 (nat_lit 341,{ cls:=.type "code",data:=.fields #[.str "_law_mixed" 704,.str "_law_mixed" 705,.str "/claim/cut.py" 706,.int 349 0,.int 1 0,.int 0 0,.int 0 0,.int 3 0,.ref 338,.bool true,.int 181 0,.ref 339,.none,.none,.none,.ref 340,.int 707 0,.int 349 0,.str "/claim/cut.py" 708] })::
 (nat_lit 342,fO "_law_mixed" 51 (.none) (.str "law_manydrawer_k13_whole_drawers_beside" 547) 341)::
 (nat_lit 348,cO "law" 710 711 712 351 1 0 0 3 343 181 344 345 346 347 721 351 722)::
 (nat_lit 349,fO "law" 52 (.none) (.str "law_manydrawer_k13_whole_drawers_beside" 547) 348)::[]
noncomputable def KA:List Nat:=3::23::24::36::37::48::49::57::58::64::65::69::70::76::77::83::84::90::91::97::98::102::103::109::110::116::117::123::124::130::131::137::138::144::145::151::152::158::159::165::166::172::173::179::180::186::187::193::194::200::201::207::208::214::215::221::222::228::229::235::236::240::241::247::248::254::255::261::262::268::269::275::276::282::283::289::290::296::297::301::302::308::309::315::316::322::323::329::330::336::337::341::342::348::349::[]
theorem all_mk {l:PySem.W.OpenLaw}{w:World}{K:PySem.W.Frag}{h:Heap}{mg:Str->Option Value}{fa:Addr} (X:K.In h) (G:h.Ns mainGlobals mg) (hfa:mg "law"=some (.ref fa))
  {f40:Addr}{od40 an40:Option Addr}{sl40:Array (Option Value)}{oc40 kV40 dc40 pm40 cd40 ct40:Value}
  {x_NoWidth N_NoWidth:Addr}{nm_NoWidth qn_NoWidth:Str}{bs_NoWidth bm_NoWidth sub_NoWidth:List Value}{hd_NoWidth ab_NoWidth:Bool}{sn_NoWidth:List Str}{col_NoWidth:Option Bool}{dd_NoWidth:Option Addr}{ka_NoWidth kb_NoWidth kc_NoWidth kd_NoWidth ke_NoWidth:Option Value}
  {x_NoCard N_NoCard:Addr}{nm_NoCard qn_NoCard:Str}{bs_NoCard bm_NoCard sub_NoCard:List Value}{hd_NoCard ab_NoCard:Bool}{sn_NoCard:List Str}{col_NoCard:Option Bool}{dd_NoCard:Option Addr}{ka_NoCard kb_NoCard kc_NoCard kd_NoCard ke_NoCard:Option Value}
  {x_DrawerError N_DrawerError:Addr}{nm_DrawerError qn_DrawerError:Str}{bs_DrawerError bm_DrawerError sub_DrawerError:List Value}{hd_DrawerError ab_DrawerError:Bool}{sn_DrawerError:List Str}{col_DrawerError:Option Bool}{dd_DrawerError:Option Addr}{ka_DrawerError kb_DrawerError kc_DrawerError kd_DrawerError ke_DrawerError:Option Value}
  (h1:∃ f,FK K "check_width" qc5 f)
  (h2:∃ f,FK K "half_of" qfg f)
  (h3:∃ f,FK K "drawer_of" qdW f)
  (h4:∃ f,FK K "spliced" qfd f)
  (h5:∃ f,FK K "place_of" qev f)
  (h6:∃ f,FK K "is_at" qhM f)
  (h7:∃ f,FK K "asked" qmR f)
  (h8:∃ f,FK K "_law_whole" qdp f)
  (h9:∃ f,FK K "_law_at" qfh f)
  (h10:∃ f,FK K "_law_far" qex f)
  (h11:∃ f,FK K "_law_mend" qdY f)
  (h12:∃ f,FK K "_law_spot_in" qcP f)
  (h13:∃ f,FK K "_law_there" qdq f)
  (h14:∃ f,FK K "_law_mixed" qds f)
  (h15:∃ f,FK K "parted" qf9 f)
  (h16:∃ f,FK K "lent_by_left" qcO f)
  (h17:∃ f,FK K "lent_by_right" qcw f)
  (h18:∃ f,FK K "joined" qgc f)
  (h19:∃ f,FK K "_law_reach_by" qcy f)
  (h20:∃ f,FK K "_law_same" qdX f)
  (h21:∃ f,FK K "_law_is_drawer" qcn f)
  (h22:∃ f,FK K "_law_steps_to" qcx f)
  (h23:∃ f,FK K "with_under_parted" qbX f)
  (h24:∃ f,FK K "mended" qga f)
  (h25:∃ f,FK K "_law_day" qey f)
  (h26:∃ f,FK K "_law_put_in" qc6 f)
  (h27:∃ f,FK K "_law_taken" qdr f)
  (h28:∃ f,FK K "_law_alike" qdt f)
  (h29:∃ f,FK K "with_under_mended" qbY f)
  (h30:∃ f,FK K "note_of" qfe f)
  (h31:∃ f,FK K "laid_in" qff f)
  (h32:∃ f,FK K "put_in" qf8 f)
  (h33:∃ f,FK K "last_out" qew f)
  (h34:∃ f,FK K "taken_from" qdo f)
  (h35:∃ f,FK K "take_out" qeu f)
  (h36:∃ f,FK K "done" qjH f)
  (h37:∃ f,FK K "done_or_refused" qch f)
  (h38:∃ f,FK K "steps" qhL f)
  (h39:∃ f,FK K "tops" qjG f)
  (a40:PySem.W.nsIn K mainGlobals "law"=some (some (.ref f40))) (l40:K.lookup f40=some ⟨oc40,od40,.func (PySem.W.fnOf "law" "law" (qb8 qgb) (qby qgb) (qam qgb) .none kV40 dc40 pm40 an40 cd40 ct40),sl40⟩) (c40:PySem.W.codeIn K cd40 "law"=true) (k40:PySem.W.keepIn K (.ref f40)=true)
  (qa_NoWidth:PySem.W.nsIn K mainGlobals "NoWidth"=some (some (.ref x_NoWidth))) (ql_NoWidth:K.lookup x_NoWidth=some (excClassObj nm_NoWidth qn_NoWidth x_NoWidth N_NoWidth bs_NoWidth bm_NoWidth hd_NoWidth sn_NoWidth sub_NoWidth ab_NoWidth col_NoWidth dd_NoWidth ka_NoWidth kb_NoWidth kc_NoWidth kd_NoWidth ke_NoWidth "ValueError.__new__")) (qe_NoWidth:PySem.W.excIn K x_NoWidth bmV "ValueError.__new__"=true)
  (qa_NoCard:PySem.W.nsIn K mainGlobals "NoCard"=some (some (.ref x_NoCard))) (ql_NoCard:K.lookup x_NoCard=some (excClassObj nm_NoCard qn_NoCard x_NoCard N_NoCard bs_NoCard bm_NoCard hd_NoCard sn_NoCard sub_NoCard ab_NoCard col_NoCard dd_NoCard ka_NoCard kb_NoCard kc_NoCard kd_NoCard ke_NoCard "ValueError.__new__")) (qe_NoCard:PySem.W.excIn K x_NoCard bmV "ValueError.__new__"=true)
  (qa_DrawerError:PySem.W.nsIn K mainGlobals "DrawerError"=some (some (.ref x_DrawerError))) (ql_DrawerError:K.lookup x_DrawerError=some (excClassObj nm_DrawerError qn_DrawerError x_DrawerError N_DrawerError bs_DrawerError bm_DrawerError hd_DrawerError sn_DrawerError sub_DrawerError ab_DrawerError col_DrawerError dd_DrawerError ka_DrawerError kb_DrawerError kc_DrawerError kd_DrawerError ke_DrawerError "ValueError.__new__")) (qe_DrawerError:PySem.W.excIn K x_DrawerError bmV "ValueError.__new__"=true)
  (qs_NoWidth_DrawerError:(Value.ref x_NoWidth::bm_NoWidth).contains (.ref x_DrawerError)=true)
  (z_len:PySem.W.nsIn K mainGlobals "len"=some none)
  (z_sum:PySem.W.nsIn K mainGlobals "sum"=some none)
  (z_min:PySem.W.nsIn K mainGlobals "min"=some none)
  (z_max:PySem.W.nsIn K mainGlobals "max"=some none)
  (z_range:PySem.W.nsIn K mainGlobals "range"=some none)
  (z_tuple:PySem.W.nsIn K mainGlobals "tuple"=some none)
  (z_list:PySem.W.nsIn K mainGlobals "list"=some none)
  (z_int:PySem.W.nsIn K mainGlobals "int"=some none)
  (z_str:PySem.W.nsIn K mainGlobals "str"=some none)
  (z_bool:PySem.W.nsIn K mainGlobals "bool"=some none)
  (z_isinstance:PySem.W.nsIn K mainGlobals "isinstance"=some none):
  ∃ fd:FuncData,(∀ (s:Shared) (v:Value),BindsTo s fd ⟨[v],[]⟩ [("_law_script",v)])/\∀ base:Heap,K.In base->base.Ns mainGlobals mg->FnOk l.prog w K mg base CX0 20 fa fd ["_law_script"] (spD K 1 (qae 8 (qiQ x_NoWidth x_DrawerError (qae 1 (qbm)) (qae 2 (qaw)) (qae 16 (qbB (qae 2 (qaT (qae 2 (qaw)))) (qae 2 (qaw)) (qae 2 (qbl)))) (qa6 2 (qgY (qa6 6 (qdT (qa6 1 (qbJ x_NoWidth)) (relF qaX) (relF (qgU x_NoCard)))))) (qae 4 (qbv (qae 1 (qax)))) (qae 12 (qa7 (qae 4 (qao (qae 2 (qan)) (qae 3 (qak)))) (qae 3 (qak)))) (qae 8 (qa8 (qae 4 (qao (qae 2 (qan)) (qae 3 (qak)))) (qae 3 (qak)) (qae 8 (qaZ)))) (qae 7 (qbn (qae 2 (qaA (qae 1 (qax))))))))):=by
 have e:=hfa.symm.trans (PySem.W.mg_of X G a40)
 cases e
 obtain⟨f1,d1,F1,m1⟩:=qa3 X G h1
 have b1:=qeQ (p0:="width") F1 fun _ _ _ _ _ _ _=>rfl
 obtain⟨f2,d2,F2,m2⟩:=qa3 X G h2
 have b2:=qeQ (p0:="width") F2 fun _ _ _ _ _ _ _=>rfl
 obtain⟨f3,d3,F3,m3⟩:=qa3 X G h3
 have b3:=qcd (p0:="cards") (p1:="below") F3 fun _ _ _ _ _ _ _ _=>rfl
 obtain⟨f4,d4,F4,m4⟩:=qa3 X G h4
 have b4:=qiJ (p0:="row") (p1:="start") (p2:="end") (p3:="parts") F4 fun _ _ _ _ _ _ _ _ _ _=>rfl
 obtain⟨f5,d5,F5,m5⟩:=qa3 X G h5
 have b5:=qcd (p0:="cards") (p1:="number") F5 fun _ _ _ _ _ _ _ _=>rfl
 obtain⟨f6,d6,F6,m6⟩:=qa3 X G h6
 have b6:=qer (p0:="cards") (p1:="place") (p2:="number") F6 fun _ _ _ _ _ _ _ _ _=>rfl
 obtain⟨f7,d7,F7,m7⟩:=qa3 X G h7
 have b7:=qcd (p0:="top") (p1:="deed") F7 fun _ _ _ _ _ _ _ _=>rfl
 obtain⟨f8,d8,F8,m8⟩:=qa3 X G h8
 have b8:=qeQ (p0:="_law_found") F8 fun _ _ _ _ _ _ _=>rfl
 obtain⟨f9,d9,F9,m9⟩:=qa3 X G h9
 have b9:=qcd (p0:="_law_script") (p1:="_law_k") F9 fun _ _ _ _ _ _ _ _=>rfl
 obtain⟨f10,d10,F10,m10⟩:=qa3 X G h10
 have b10:=qcd (p0:="_law_number") (p1:="_law_step") F10 fun _ _ _ _ _ _ _ _=>rfl
 obtain⟨f11,d11,F11,m11⟩:=qa3 X G h11
 have b11:=qer (p0:="_law_width") (p1:="_law_drawer") (p2:="_law_place") F11 fun _ _ _ _ _ _ _ _ _=>rfl
 obtain⟨f12,d12,F12,m12⟩:=qa3 X G h12
 have b12:=qcd (p0:="_law_drawer") (p1:="_law_number") F12 fun _ _ _ _ _ _ _ _=>rfl
 obtain⟨f13,d13,F13,m13⟩:=qa3 X G h13
 have b13:=qcd (p0:="_law_step") (p1:="_law_number") F13 fun _ _ _ _ _ _ _ _=>rfl
 obtain⟨f14,d14,F14,m14⟩:=qa3 X G h14
 have b14:=qeQ (p0:="_law_script") F14 fun _ _ _ _ _ _ _=>rfl
 obtain⟨f15,d15,F15,m15⟩:=qa3 X G h15
 have b15:=qcd (p0:="width") (p1:="drawer") F15 fun _ _ _ _ _ _ _ _=>rfl
 obtain⟨f16,d16,F16,m16⟩:=qa3 X G h16
 have b16:=qcd (p0:="drawer") (p1:="place") F16 fun _ _ _ _ _ _ _ _=>rfl
 obtain⟨f17,d17,F17,m17⟩:=qa3 X G h17
 have b17:=qcd (p0:="drawer") (p1:="place") F17 fun _ _ _ _ _ _ _ _=>rfl
 obtain⟨f18,d18,F18,m18⟩:=qa3 X G h18
 have b18:=qcd (p0:="drawer") (p1:="place") F18 fun _ _ _ _ _ _ _ _=>rfl
 obtain⟨f19,d19,F19,m19⟩:=qa3 X G h19
 have b19:=qeQ (p0:="_law_script") F19 fun _ _ _ _ _ _ _=>rfl
 obtain⟨f20,d20,F20,m20⟩:=qa3 X G h20
 have b20:=qcd (p0:="_law_handed") (p1:="_law_deeds") F20 fun _ _ _ _ _ _ _ _=>rfl
 obtain⟨f21,d21,F21,m21⟩:=qa3 X G h21
 have b21:=qeQ (p0:="_law_found") F21 fun _ _ _ _ _ _ _=>rfl
 obtain⟨f22,d22,F22,m22⟩:=qa3 X G h22
 have b22:=qcd (p0:="_law_top") (p1:="_law_number") F22 fun _ _ _ _ _ _ _ _=>rfl
 obtain⟨f23,d23,F23,m23⟩:=qa3 X G h23
 have b23:=qiJ (p0:="width") (p1:="drawer") (p2:="place") (p3:="under") F23 fun _ _ _ _ _ _ _ _ _ _=>rfl
 obtain⟨f24,d24,F24,m24⟩:=qa3 X G h24
 have b24:=qer (p0:="width") (p1:="drawer") (p2:="place") F24 fun _ _ _ _ _ _ _ _ _=>rfl
 obtain⟨f25,d25,F25,m25⟩:=qa3 X G h25
 have b25:=qeQ (p0:="_law_script") F25 fun _ _ _ _ _ _ _=>rfl
 obtain⟨f26,d26,F26,m26⟩:=qa3 X G h26
 have b26:=qer (p0:="_law_width") (p1:="_law_top") (p2:="_law_card") F26 fun _ _ _ _ _ _ _ _ _=>rfl
 obtain⟨f27,d27,F27,m27⟩:=qa3 X G h27
 have b27:=qer (p0:="_law_width") (p1:="_law_top") (p2:="_law_number") F27 fun _ _ _ _ _ _ _ _ _=>rfl
 obtain⟨f28,d28,F28,m28⟩:=qa3 X G h28
 have b28:=qcd (p0:="_law_found") (p1:="_law_top") F28 fun _ _ _ _ _ _ _ _=>rfl
 obtain⟨f29,d29,F29,m29⟩:=qa3 X G h29
 have b29:=qpe (p0:="width") (p1:="cards") (p2:="below") (p3:="place") (p4:="under") F29 fun _ _ _ _ _ _ _ _ _ _ _=>rfl
 obtain⟨f30,d30,F30,m30⟩:=qa3 X G h30
 have b30:=qcd (p0:="top") (p1:="number") F30 fun _ _ _ _ _ _ _ _=>rfl
 obtain⟨f31,d31,F31,m31⟩:=qa3 X G h31
 have b31:=qiJ (p0:="width") (p1:="drawer") (p2:="number") (p3:="note") F31 fun _ _ _ _ _ _ _ _ _ _=>rfl
 obtain⟨f32,d32,F32,m32⟩:=qa3 X G h32
 have b32:=qiJ (p0:="width") (p1:="top") (p2:="number") (p3:="note") F32 fun _ _ _ _ _ _ _ _ _ _=>rfl
 obtain⟨f33,d33,F33,m33⟩:=qa3 X G h33
 have b33:=qcd (p0:="width") (p1:="drawer") F33 fun _ _ _ _ _ _ _ _=>rfl
 obtain⟨f34,d34,F34,m34⟩:=qa3 X G h34
 have b34:=qer (p0:="width") (p1:="drawer") (p2:="number") F34 fun _ _ _ _ _ _ _ _ _=>rfl
 obtain⟨f35,d35,F35,m35⟩:=qa3 X G h35
 have b35:=qer (p0:="width") (p1:="top") (p2:="number") F35 fun _ _ _ _ _ _ _ _ _=>rfl
 obtain⟨f36,d36,F36,m36⟩:=qa3 X G h36
 have b36:=qer (p0:="width") (p1:="top") (p2:="deed") F36 fun _ _ _ _ _ _ _ _ _=>rfl
 obtain⟨f37,d37,F37,m37⟩:=qa3 X G h37
 have b37:=qer (p0:="width") (p1:="top") (p2:="deed") F37 fun _ _ _ _ _ _ _ _ _=>rfl
 obtain⟨f38,d38,F38,m38⟩:=qa3 X G h38
 have b38:=qcd (p0:="width") (p1:="deeds") F38 fun _ _ _ _ _ _ _ _=>rfl
 obtain⟨f39,d39,F39,m39⟩:=qa3 X G h39
 have b39:=qcd (p0:="width") (p1:="deeds") F39 fun _ _ _ _ _ _ _ _=>rfl
 have F40:=qmu (st:=qgb) l40 c40 k40
 have b40:=qeQ (p0:="_law_script") F40 fun _ _ _ _ _ _ _=>rfl
 have B:Bu mg:=⟨PySem.W.mg_none_of X G z_len,PySem.W.mg_none_of X G z_sum,PySem.W.mg_none_of X G z_min,PySem.W.mg_none_of X G z_max,PySem.W.mg_none_of X G z_range,PySem.W.mg_none_of X G z_tuple,PySem.W.mg_none_of X G z_list,PySem.W.mg_none_of X G z_int,PySem.W.mg_none_of X G z_str,PySem.W.mg_none_of X G z_bool,PySem.W.mg_none_of X G z_isinstance⟩
 have e_NoWidth:ExC K x_NoWidth bm_NoWidth:=qkR ql_NoWidth qe_NoWidth
 have m_NoWidth:=PySem.W.mg_of X G qa_NoWidth
 have e_NoCard:ExC K x_NoCard bm_NoCard:=qkR ql_NoCard qe_NoCard
 have m_NoCard:=PySem.W.mg_of X G qa_NoCard
 have e_DrawerError:ExC K x_DrawerError bm_DrawerError:=qkR ql_DrawerError qe_DrawerError
 have m_DrawerError:=PySem.W.mg_of X G qa_DrawerError
 refine⟨PySem.W.fnOf "law" "law" (qb8 qgb) (qby qgb) (qam qgb) .none kV40 dc40 pm40 an40 cd40 ct40,fun s v=>.of_eq rfl,fun base _ _=>?_⟩
 have C_check_width:CalX l.prog w K mg base 1 "check_width" ["width"] _:=qfH (k:=0) B e_NoWidth m_NoWidth  F1 m1 b1
 have C_half_of:Cal l.prog w K mg base 1 "half_of" ["width"] _:=qi1 (k:=0) B  F2 m2 b2
 have C_drawer_of:Cal l.prog w K mg base 1 "drawer_of" ["cards","below"] (relF qaX):=(qha (k:=0) B  F3 m3 b3).rel runs_drawer
 have C_spliced:Cal l.prog w K mg base 1 "spliced" ["row","start","end","parts"] (relF qaN):=(qi0 (k:=0) B  F4 m4 b4).rel runs_spliced
 have C_place_of:Cal l.prog w K mg base 1 "place_of" ["cards","number"] (relF qcF):=(qhS (k:=0) B  F5 m5 b5).rel runs_place
 have C_is_at:Cal l.prog w K mg base 1 "is_at" ["cards","place","number"] _:=qlM (k:=0) B  F6 m6 b6
 have C_asked:CalX l.prog w K mg base 1 "asked" ["top","deed"] badX:=qiI F7 m7 b7 (fun _ _=>rfl)
 have C__law_whole:Cal l.prog w K mg base 1 "_law_whole" ["_law_found"] _:=qgj (k:=0) B  F8 m8 b8
 have C__law_at:Cal l.prog w K mg base 1 "_law_at" ["_law_script","_law_k"] _:=qi2 (k:=0) B  F9 m9 b9
 have C__law_far:Cal l.prog w K mg base 1 "_law_far" ["_law_number","_law_step"] _:=qhT (k:=0) B  F10 m10 b10
 have C__law_mend:Cal l.prog w K mg base 1 "_law_mend" ["_law_width","_law_drawer","_law_place"] _:=qhc (k:=0) B  F11 m11 b11
 have C__law_spot_in:Cal l.prog w K mg base 1 "_law_spot_in" ["_law_drawer","_law_number"] _:=qfn (k:=0) B  F12 m12 b12
 have C__law_there:Cal l.prog w K mg base 1 "_law_there" ["_law_step","_law_number"] _:=qgk (k:=0) B  F13 m13 b13
 have C__law_mixed:Cal l.prog w K mg base 1 "_law_mixed" ["_law_script"] _:=qgm (k:=0) B  F14 m14 b14
 have C_parted:Cal l.prog w K mg base 2 "parted" ["width","drawer"] (relF qdL):=(qj7 (k:=1) B (C_half_of.mono (by decide)) (C_drawer_of.mono (by decide)) F15 m15 b15).rel runs_parted
 have C_lent_by_left:Cal l.prog w K mg base 2 "lent_by_left" ["drawer","place"] (relF qgT):=(qfm (k:=1) B (C_drawer_of.mono (by decide)) (C_spliced.mono (by decide)) F16 m16 b16).rel runs_lentL
 have C_lent_by_right:Cal l.prog w K mg base 2 "lent_by_right" ["drawer","place"] (relF qgS):=(qeS (k:=1) B (C_drawer_of.mono (by decide)) (C_spliced.mono (by decide)) F17 m17 b17).rel runs_lentR
 have C_joined:Cal l.prog w K mg base 2 "joined" ["drawer","place"] (relF qiN):=(qj9 (k:=1) B (C_drawer_of.mono (by decide)) (C_spliced.mono (by decide)) F18 m18 b18).rel runs_join
 have C__law_reach_by:Cal l.prog w K mg base 2 "_law_reach_by" ["_law_script"] _:=qeU (k:=1) B (C__law_at.mono (by decide)) F19 m19 b19
 have C__law_same:Cal l.prog w K mg base 2 "_law_same" ["_law_handed","_law_deeds"] _:=qhb (k:=1) B (C__law_whole.mono (by decide)) F20 m20 b20
 have C__law_is_drawer:Cal l.prog w K mg base 2 "_law_is_drawer" ["_law_found"] _:=qez (k:=1) B (C__law_whole.mono (by decide)) F21 m21 b21
 have C__law_steps_to:Cal l.prog w K mg base 2 "_law_steps_to" ["_law_top","_law_number"] _:=qeT (k:=1) B (C__law_spot_in.mono (by decide)) (C__law_there.mono (by decide)) F22 m22 b22
 have C_with_under_parted:Cal l.prog w K mg base 3 "with_under_parted" ["width","drawer","place","under"] (relF qlg):=(qdM (k:=2) B (C_spliced.mono (by decide)) (C_drawer_of.mono (by decide)) (C_parted.mono (by decide)) F23 m23 b23).rel runs_wup
 have C_mended:Cal l.prog w K mg base 3 "mended" ["width","drawer","place"] (relF qes):=(qj8 (k:=2) B (C_half_of.mono (by decide)) (C_lent_by_left.mono (by decide)) (C_lent_by_right.mono (by decide)) (C_joined.mono (by decide)) F24 m24 b24).rel runs_mended
 have C__law_day:Cal l.prog w K mg base 3 "_law_day" ["_law_script"] _:=qhU (k:=2) B (C__law_reach_by.mono (by decide)) (C__law_at.mono (by decide)) (C__law_far.mono (by decide)) F25 m25 b25
 have C__law_put_in:Cal l.prog w K mg base 3 "_law_put_in" ["_law_width","_law_top","_law_card"] _:=qfI (k:=2) B (C__law_steps_to.mono (by decide)) (C__law_there.mono (by decide)) F26 m26 b26
 have C__law_taken:Cal l.prog w K mg base 3 "_law_taken" ["_law_width","_law_top","_law_number"] _:=qgl (k:=2) B (C__law_steps_to.mono (by decide)) (C__law_there.mono (by decide)) (C__law_mend.mono (by decide)) F27 m27 b27
 have C__law_alike:Cal l.prog w K mg base 3 "_law_alike" ["_law_found","_law_top"] _:=qgn (k:=2) B (C__law_is_drawer.mono (by decide)) F28 m28 b28
 have C_with_under_mended:Cal l.prog w K mg base 4 "with_under_mended" ["width","cards","below","place","under"] (relF qhI):=(qdN (k:=3) B (C_spliced.mono (by decide)) (C_drawer_of.mono (by decide)) (C_mended.mono (by decide)) F29 m29 b29).rel runs_wum
 have C_note_of_0:Cal l.prog w K mg base 1 "note_of" ["top","number"] (relF (qcq 0)):=qgQ F30 m30 b30 qlh
 have C_note_of_1:Cal l.prog w K mg base 2 "note_of" ["top","number"] (relF (qcq 1)):=(qcV (k:=1) B (C_place_of.mono (by decide)) (C_is_at.mono (by decide)) C_note_of_0 F30 m30 b30).rel (qdu 0)
 have C_note_of_2:Cal l.prog w K mg base 3 "note_of" ["top","number"] (relF (qcq 2)):=(qcV (k:=2) B (C_place_of.mono (by decide)) (C_is_at.mono (by decide)) C_note_of_1 F30 m30 b30).rel (qdu 1)
 have C_note_of_3:Cal l.prog w K mg base 4 "note_of" ["top","number"] (relF (qcq 3)):=(qcV (k:=3) B (C_place_of.mono (by decide)) (C_is_at.mono (by decide)) C_note_of_2 F30 m30 b30).rel (qdu 2)
 have C_note_of_4:Cal l.prog w K mg base 5 "note_of" ["top","number"] (relF (qcq 4)):=(qcV (k:=4) B (C_place_of.mono (by decide)) (C_is_at.mono (by decide)) C_note_of_3 F30 m30 b30).rel (qdu 3)
 have C_note_of_5:Cal l.prog w K mg base 6 "note_of" ["top","number"] (relF (qcq 5)):=(qcV (k:=5) B (C_place_of.mono (by decide)) (C_is_at.mono (by decide)) C_note_of_4 F30 m30 b30).rel (qdu 4)
 have C_note_of:=C_note_of_5
 have C_laid_in_0:Cal l.prog w K mg base 3 "laid_in" ["width","drawer","number","note"] (relF (qcs 0)):=qgQ F31 m31 b31 qli
 have C_laid_in_1:Cal l.prog w K mg base 4 "laid_in" ["width","drawer","number","note"] (relF (qcs 1)):=(qcW (k:=3) B (C_place_of.mono (by decide)) (C_is_at.mono (by decide)) (C_spliced.mono (by decide)) (C_drawer_of.mono (by decide)) C_laid_in_0 (C_with_under_parted.mono (by decide)) F31 m31 b31).rel (qdw 0)
 have C_laid_in_2:Cal l.prog w K mg base 5 "laid_in" ["width","drawer","number","note"] (relF (qcs 2)):=(qcW (k:=4) B (C_place_of.mono (by decide)) (C_is_at.mono (by decide)) (C_spliced.mono (by decide)) (C_drawer_of.mono (by decide)) C_laid_in_1 (C_with_under_parted.mono (by decide)) F31 m31 b31).rel (qdw 1)
 have C_laid_in_3:Cal l.prog w K mg base 6 "laid_in" ["width","drawer","number","note"] (relF (qcs 3)):=(qcW (k:=5) B (C_place_of.mono (by decide)) (C_is_at.mono (by decide)) (C_spliced.mono (by decide)) (C_drawer_of.mono (by decide)) C_laid_in_2 (C_with_under_parted.mono (by decide)) F31 m31 b31).rel (qdw 2)
 have C_laid_in_4:Cal l.prog w K mg base 7 "laid_in" ["width","drawer","number","note"] (relF (qcs 4)):=(qcW (k:=6) B (C_place_of.mono (by decide)) (C_is_at.mono (by decide)) (C_spliced.mono (by decide)) (C_drawer_of.mono (by decide)) C_laid_in_3 (C_with_under_parted.mono (by decide)) F31 m31 b31).rel (qdw 3)
 have C_laid_in_5:Cal l.prog w K mg base 8 "laid_in" ["width","drawer","number","note"] (relF (qcs 5)):=(qcW (k:=7) B (C_place_of.mono (by decide)) (C_is_at.mono (by decide)) (C_spliced.mono (by decide)) (C_drawer_of.mono (by decide)) C_laid_in_4 (C_with_under_parted.mono (by decide)) F31 m31 b31).rel (qdw 4)
 have C_laid_in:=C_laid_in_5
 have C_put_in:Cal l.prog w K mg base 9 "put_in" ["width","top","number","note"] (relF (qjk 5)):=(qj6 (k:=8) B (C_laid_in.mono (by decide)) (C_parted.mono (by decide)) (C_drawer_of.mono (by decide)) F32 m32 b32).rel (qig 5)
 have C_last_out_0:Cal l.prog w K mg base 4 "last_out" ["width","drawer"] (relF (qcr 0)):=qgQ F33 m33 b33 qnL
 have C_last_out_1:Cal l.prog w K mg base 5 "last_out" ["width","drawer"] (relF (qcr 1)):=(qcz (k:=4) B (C_drawer_of.mono (by decide)) C_last_out_0 (C_with_under_mended.mono (by decide)) F33 m33 b33).rel (qdv 0)
 have C_last_out_2:Cal l.prog w K mg base 6 "last_out" ["width","drawer"] (relF (qcr 2)):=(qcz (k:=5) B (C_drawer_of.mono (by decide)) C_last_out_1 (C_with_under_mended.mono (by decide)) F33 m33 b33).rel (qdv 1)
 have C_last_out_3:Cal l.prog w K mg base 7 "last_out" ["width","drawer"] (relF (qcr 3)):=(qcz (k:=6) B (C_drawer_of.mono (by decide)) C_last_out_2 (C_with_under_mended.mono (by decide)) F33 m33 b33).rel (qdv 2)
 have C_last_out_4:Cal l.prog w K mg base 8 "last_out" ["width","drawer"] (relF (qcr 4)):=(qcz (k:=7) B (C_drawer_of.mono (by decide)) C_last_out_3 (C_with_under_mended.mono (by decide)) F33 m33 b33).rel (qdv 3)
 have C_last_out_5:Cal l.prog w K mg base 9 "last_out" ["width","drawer"] (relF (qcr 5)):=(qcz (k:=8) B (C_drawer_of.mono (by decide)) C_last_out_4 (C_with_under_mended.mono (by decide)) F33 m33 b33).rel (qdv 4)
 have C_last_out:=C_last_out_5
 have C_taken_from_0:CalX l.prog w K mg base 9 "taken_from" ["width","drawer","number"] (relX (qbI x_NoCard 0)):=qiI F34 m34 b34 (qlD qiM)
 have C_taken_from_1:CalX l.prog w K mg base 10 "taken_from" ["width","drawer","number"] (relX (qbI x_NoCard 1)):=(qb5 (k:=9) B e_NoCard m_NoCard (C_place_of.mono (by decide)) (C_is_at.mono (by decide)) (C_spliced.mono (by decide)) (C_drawer_of.mono (by decide)) C_taken_from_0 (C_with_under_mended.mono (by decide)) (C_last_out.mono (by decide)) F34 m34 b34).rel (qcT 0)
 have C_taken_from_2:CalX l.prog w K mg base 11 "taken_from" ["width","drawer","number"] (relX (qbI x_NoCard 2)):=(qb5 (k:=10) B e_NoCard m_NoCard (C_place_of.mono (by decide)) (C_is_at.mono (by decide)) (C_spliced.mono (by decide)) (C_drawer_of.mono (by decide)) C_taken_from_1 (C_with_under_mended.mono (by decide)) (C_last_out.mono (by decide)) F34 m34 b34).rel (qcT 1)
 have C_taken_from_3:CalX l.prog w K mg base 12 "taken_from" ["width","drawer","number"] (relX (qbI x_NoCard 3)):=(qb5 (k:=11) B e_NoCard m_NoCard (C_place_of.mono (by decide)) (C_is_at.mono (by decide)) (C_spliced.mono (by decide)) (C_drawer_of.mono (by decide)) C_taken_from_2 (C_with_under_mended.mono (by decide)) (C_last_out.mono (by decide)) F34 m34 b34).rel (qcT 2)
 have C_taken_from_4:CalX l.prog w K mg base 13 "taken_from" ["width","drawer","number"] (relX (qbI x_NoCard 4)):=(qb5 (k:=12) B e_NoCard m_NoCard (C_place_of.mono (by decide)) (C_is_at.mono (by decide)) (C_spliced.mono (by decide)) (C_drawer_of.mono (by decide)) C_taken_from_3 (C_with_under_mended.mono (by decide)) (C_last_out.mono (by decide)) F34 m34 b34).rel (qcT 3)
 have C_taken_from_5:CalX l.prog w K mg base 14 "taken_from" ["width","drawer","number"] (relX (qbI x_NoCard 5)):=(qb5 (k:=13) B e_NoCard m_NoCard (C_place_of.mono (by decide)) (C_is_at.mono (by decide)) (C_spliced.mono (by decide)) (C_drawer_of.mono (by decide)) C_taken_from_4 (C_with_under_mended.mono (by decide)) (C_last_out.mono (by decide)) F34 m34 b34).rel (qcT 4)
 have C_taken_from:=C_taken_from_5
 have C_take_out:CalX l.prog w K mg base 15 "take_out" ["width","top","number"] _:=qhR (k:=14) B (C_taken_from.mono (by decide)) F35 m35 b35
 have C_done:CalX l.prog w K mg base 16 "done" ["width","top","deed"] _:=qnf (k:=15) B (C_note_of.mono (by decide)) (C_put_in.mono (by decide)) (C_take_out.mono (by decide)) (C_asked.mono (by decide)) F36 m36 b36
 have C_done_or_refused:Cal l.prog w K mg base 17 "done_or_refused" ["width","top","deed"] (relF (qgU x_NoCard)):=(qed (k:=16) B e_NoCard m_NoCard (C_done.mono (by decide)) F37 m37 b37).rel runs_dor
 have C_steps:CalX l.prog w K mg base 18 "steps" ["width","deeds"] _:=qlL (k:=17) B (C_check_width.mono (by decide)) (C_drawer_of.mono (by decide)) (C_done_or_refused.mono (by decide)) F38 m38 b38
 have C_tops:CalX l.prog w K mg base 19 "tops" ["width","deeds"] _:=qne (k:=18) B (C_steps.mono (by decide)) F39 m39 b39
 exact ql3 (k:=19) B e_NoWidth m_NoWidth e_DrawerError m_DrawerError qs_NoWidth_DrawerError (C__law_mixed.mono (by decide)) (C__law_at.mono (by decide)) (C__law_day.mono (by decide)) (C_tops.mono (by decide)) (C__law_same.mono (by decide)) (C__law_put_in.mono (by decide)) (C__law_taken.mono (by decide)) (C__law_alike.mono (by decide)) F40
theorem walk {x_NoWidth:Addr}{x_NoCard:Addr}{x_DrawerError:Addr}{l:PySem.W.OpenLaw}{q:Program}{loose:List Str}{XP:(Str->Option Value)->Heap->Prop}{YP:World->Heap->Prop}{d:DefRec}{K:Params->PySem.W.Frag} (hn:l.most=some 63) (hdf:d.params.defaults=[])
  (hY:∀ (w:World) (h:Heap),YP w h->(K w.params).In h)
  (F:∀ (w:World) (mg:Str->Option Value) (fa:Addr) (h:Heap),(K w.params).In h->h.Ns mainGlobals mg->mg d.name=some (.ref fa)->
   ∃ fd:FuncData,(∀ (s:Shared) (u:Value),BindsTo s fd ⟨[u],[]⟩ [("_law_script",u)])/\∀ base:Heap,(K w.params).In base->base.Ns mainGlobals mg->FnOk l.prog w (K w.params) mg base CX0 20 fa fd ["_law_script"] (spD (K w.params) 1 (qae 8 (qiQ x_NoWidth x_DrawerError (qae 1 (qbm)) (qae 2 (qaw)) (qae 16 (qbB (qae 2 (qaT (qae 2 (qaw)))) (qae 2 (qaw)) (qae 2 (qbl)))) (qa6 2 (qgY (qa6 6 (qdT (qa6 1 (qbJ x_NoWidth)) (relF qaX) (relF (qgU x_NoCard)))))) (qae 4 (qbv (qae 1 (qax)))) (qae 12 (qa7 (qae 4 (qao (qae 2 (qan)) (qae 3 (qak)))) (qae 3 (qak)))) (qae 8 (qa8 (qae 4 (qao (qae 2 (qan)) (qae 3 (qak)))) (qae 3 (qak)) (qae 8 (qaZ)))) (qae 7 (qbn (qae 2 (qaA (qae 1 (qax)))))))))):
  PySem.W.WalkO q loose XP YP l.row.toRowW d [] (fun f vs=>PySem.call f vs):=
 L2.walk_of (n:=63) (k:=20) (x:="_law_script") (CX:=fun _=>CX0) (sp:=fun w=>spD (K w.params) 1 (qae 8 (qiQ x_NoWidth x_DrawerError (qae 1 (qbm)) (qae 2 (qaw)) (qae 16 (qbB (qae 2 (qaT (qae 2 (qaw)))) (qae 2 (qaw)) (qae 2 (qbl)))) (qa6 2 (qgY (qa6 6 (qdT (qa6 1 (qbJ x_NoWidth)) (relF qaX) (relF (qgU x_NoCard)))))) (qae 4 (qbv (qae 1 (qax)))) (qae 12 (qa7 (qae 4 (qao (qae 2 (qan)) (qae 3 (qak)))) (qae 3 (qak)))) (qae 8 (qa8 (qae 4 (qao (qae 2 (qan)) (qae 3 (qak)))) (qae 3 (qak)) (qae 8 (qaZ)))) (qae 7 (qbn (qae 2 (qaA (qae 1 (qax))))))))) hn (by decide) hdf ⟨rfl,by decide,by decide⟩ hY F (fun w H a ns hl hO hS=>qn1 qlW hl hO hS) fun _ _ _ _ _ z=>z
def KP:PySem.Program:={ PySem.Challenge.pw_manydrawer_k13_whole_drawers_beside with main:={ PySem.Challenge.pw_manydrawer_k13_whole_drawers_beside.main with body:=top 0::top 1::top 2::top 3::top 4::top 5::top 6::top 7::top 8::top 9::top 10::top 11::top 12::top 13::top 14::top 15::top 16::top 17::top 18::top 19::top 20::top 21::top 22::top 23::top 24::top 25::top 26::top 27::top 28::top 29::top 30::top 31::top 32::top 33::top 34::top 35::top 36::top 37::top 38::top 39::top 40::top 41::top 42::top 43::top 44::top 45::top 46::top 47::top 48::top 49::top 50::top 51::top 52::[] } }
theorem KP_eq:PySem.Challenge.pw_manydrawer_k13_whole_drawers_beside=KP:=by kernel_rfl
def KL:PySem.W.OpenLaw:={ PySem.Challenge.rw_manydrawer_k13_whole_drawers_beside with prog:=KP }
theorem KL_eq:PySem.Challenge.rw_manydrawer_k13_whole_drawers_beside=KL:=congrArg (fun p=>({ PySem.Challenge.rw_manydrawer_k13_whole_drawers_beside with prog:=p }:PySem.W.OpenLaw)) KP_eq
end K13
noncomputable def PySem.W.Fast.tw14878985888343704441:PySem.Program:=PySem.Challenge.pw_manydrawer_k13_whole_drawers_beside
theorem PySem.W.Fast.te14878985888343704441:PySem.Challenge.pw_manydrawer_k13_whole_drawers_beside=PySem.W.Fast.tw14878985888343704441:=rfl
noncomputable def PySem.W.Fast.tw17942056154042017178:PySem.Params→PySem.W.Frag:=K13.KF
theorem PySem.W.Fast.te17942056154042017178:K13.KF=PySem.W.Fast.tw17942056154042017178:=rfl
def PySem.W.Fast.tw1199878560593237642:Unit:=()
open PySem PySem.W PyProof.Rows
set_option maxRecDepth 100000 in
set_option maxHeartbeats 0 in
theorem PySem.Challenge.cw_manydrawer_k13_whole_drawers_beside_holds : PySem.Challenge.rw_manydrawer_k13_whole_drawers_beside.Holds := by
 rw [K13.KL_eq]
 w_on; o_law; o_head (kHook K13.KF K13.KA (fun _=>by kernel_rfl)); (case hw=>w_witness2)
 k_fill
 refine' K13.walk (l:=K13.KL) rfl rfl (fun w h Y=>PySem.W.kIn_of Y) ?F
 case F=>
  intro w mg fa h KX G hmg
  refine' K13.all_mk KX G hmg ?_ ?_ ?_ ?_ ?_ ?_ ?_ ?_ ?_ ?_ ?_ ?_ ?_ ?_ ?_ ?_ ?_ ?_ ?_ ?_ ?_ ?_ ?_ ?_ ?_ ?_ ?_ ?_ ?_ ?_ ?_ ?_ ?_ ?_ ?_ ?_ ?_ ?_ ?_ ?a40 ?l40 ?c40 ?k40 ?qa_NoWidth ?ql_NoWidth ?qe_NoWidth ?qa_NoCard ?ql_NoCard ?qe_NoCard ?qa_DrawerError ?ql_DrawerError ?qe_DrawerError ?qs_NoWidth_DrawerError ?z_len ?z_sum ?z_min ?z_max ?z_range ?z_tuple ?z_list ?z_int ?z_str ?z_bool ?z_isinstance
  (case a40=>k_is); (case l40=>k_is); (case c40=>k_is); (case k40=>k_is)
  (case qa_NoWidth=>k_is); (case ql_NoWidth=>k_is); (case qe_NoWidth=>k_exc)
  (case qa_NoCard=>k_is); (case ql_NoCard=>k_is); (case qe_NoCard=>k_exc)
  (case qa_DrawerError=>k_is); (case ql_DrawerError=>k_is); (case qe_DrawerError=>k_exc)
  (case qs_NoWidth_DrawerError=>decide +kernel)
  (case z_len=>k_is); (case z_sum=>k_is); (case z_min=>k_is); (case z_max=>k_is); (case z_range=>k_is); (case z_tuple=>k_is); (case z_list=>k_is); (case z_int=>k_is); (case z_str=>k_is); (case z_bool=>k_is); (case z_isinstance=>k_is)
  all_goals (refine' DL.fk_mk ?a ?l ?c ?k; (case a=>k_is); (case l=>k_is); (case c=>k_is); (case k=>k_is))
