import PyProof.Rows.All
import Wide.All
import OpenK.AllK
import Wide.FinOn
import Lean
import PyProof.EqAt
import PyProof.EqKinds
import PyProof.NeKinds
import PyProof.TupleCall
import PyProof.ExcBaseAll.ValueError
import KE.KDictList
import KE.KTryMore
import PyProof.EnumMake
import PyProof.Rows.EnumRows
import PyProof.Rows.FactsT2
import KE.KRevIter
import PyProof.DictItems
import PyProof.FactsAll.dict_3
import PyProof.FactsAll.dict_itemiterator_1
import OpenK.KOwn
import PyProof.StrBlock2
import KE.IntText
import PySem.Challenge.RW_halfask_k02_one_after_the_other
set_option Elab.async false
set_option linter.all false
set_option maxRecDepth 100000
set_option maxHeartbeats 4000000
def qA_:=@List.getElem?_eq_getElem
def qB_:=@List.getElem?_eq_some_iff
def qC_:=@Bool.false_ne_true
def qD_:=@List.mem_of_getElem?
def qE_:=@List.mem_append_right
def qF_:=@List.mem_append_left
def qG_:=@List.mem_append
def qH_:=@List.mem_map
def qI_:=@List.mem_cons_self
def qJ_:=@List.getElem?_set
def qK_:=@List.getElem?_append_left
def qL_:=@List.getElem?_append_right
def qM_:=@List.length_map
def qN_:=@List.length_append
def qO_:=@Nat.le_refl
def qP_:=@Nat.le_of_ble_eq_true
def qQ_:=@List.getElem?_map
def qR_:=@List.mem_cons_of_mem
def qS_:=@List.mem_cons
def qT_:=@List.map_append
def qU_:=@List.getElem?_set_self
def qV_:=@List.getElem?_set_ne
def qW_:=@List.size_toArray
def qX_:=@List.length_set
def qY_:=@List.append_nil
def qZ_:=@decide_eq_true
def qa_:=@decide_eq_false
def qb_:=@List.map_map
def qc_:=@List.nil_append
def qd_:=@Nat.lt_of_lt_of_le
def qe_:=@Nat.lt_irrefl
def qf_:=@Nat.zero_le
namespace L2
open PySem PySem.Spec PyProof.Rows
abbrev Key:=Sum Int Str
def qd:Key->Value->Bool
 | .inl k,v=>Value.isInt k v
 | .inr x,v=>Value.isStrOf x v
def HI(w:World):Key->Int
 | .inl k=>hashInt k
 | .inr x=>hashStr w x
theorem cP:∀{k:Key} {v:Value},qd k v=true->(∃i t,k=Sum.inl i/\v=Value.int i t)\/(∃x t,k=Sum.inr x/\v=Value.str x t)
 | .inl i,v,h=>by
   obtain⟨t,e⟩:=Value.isInt_shape (k:=i) (v:=v) h
   exact .inl ⟨i,t,rfl,e⟩
 | .inr x,v,h=>by
   obtain⟨t,e⟩:=Value.isStrOf_shape (x:=x) (v:=v) h
   exact .inr ⟨x,t,rfl,e⟩
theorem yq(i:Int)(t:Tok):qd (.inl i) (.int i t)=true:=by simp [qd,Value.isInt]
theorem xX(x:Str)(t:Tok):qd (.inr x) (.str x t)=true:=by simp [qd,Value.isStrOf]
theorem DN(a b:Int):decide ((Sum.inl a:Key)=Sum.inl b)=(a==b):=by
 by_cases e:a=b
 · subst e;simp
 · have h:¬(Sum.inl a:Key)=Sum.inl b:=fun q=>e (Sum.inl.inj q)
   rw[qa_ h]
   exact(beq_eq_false_iff_ne.mpr e).symm
theorem E6(a b:Str):decide ((Sum.inr a:Key)=Sum.inr b)=decide (a=b):=by
 by_cases e:a=b
 · subst e;simp
 · have h:¬(Sum.inr a:Key)=Sum.inr b:=fun q=>e (Sum.inr.inj q)
   rw[qa_ h,qa_ e]
theorem Et(a:Int)(b:Str):decide ((Sum.inl a:Key)=Sum.inr b)=false:=qa_ (fun q=>nomatch q)
theorem Es(a:Str)(b:Int):decide ((Sum.inr a:Key)=Sum.inl b)=false:=qa_ (fun q=>nomatch q)
def cN(prog:Program)(w:World):PySem.KeyKind prog w Key where
 is:=qd
 hash:=HI w
 inj:=fun v a b ha hb=>by
  rcases cP ha with ⟨i,t,rfl,rfl⟩ |⟨x,t,rfl,rfl⟩
  · rcases cP hb with ⟨j,u,rfl,e⟩ |⟨y,u,rfl,e⟩
    · injection e with e1 _;rw[e1]
    · exact nomatch e
  · rcases cP hb with ⟨j,u,rfl,e⟩ |⟨y,u,rfl,e⟩
    · exact nomatch e
    · injection e with e1 _;rw[e1]
 byValue:=fun k v h=>by
  rcases cP h with ⟨i,t,rfl,rfl⟩ |⟨x,t,rfl,rfl⟩ <;> rfl
 pyHash:=fun hv h=>by
  rcases cP hv with ⟨i,t,rfl,rfl⟩ |⟨x,t,rfl,rfl⟩
  · exact wpAny_pyHash_int h
  · exact wpAny_pyHash_str h
 eqBool:=fun hu hv h=>by
  rcases cP hu with ⟨i,t,rfl,rfl⟩ |⟨x,t,rfl,rfl⟩
  · rcases cP hv with ⟨j,u,rfl,rfl⟩ |⟨y,u,rfl,rfl⟩
    · rw[DN]at h;exact wpAny_eqBool_int h
    · rw[Et]at h;exact SeqAt.EqAt.int_str i t y u _ _ _ _ h
  · rcases cP hv with ⟨j,u,rfl,rfl⟩ |⟨y,u,rfl,rfl⟩
    · rw[Es]at h;exact SeqAt.EqAt.str_int x t j u _ _ _ _ h
    · rw[E6]at h;exact wpAny_eqBool_str h
 «strs»:=fun k x t v h=>by
  rcases cP h with ⟨i,u,rfl,e⟩ |⟨y,u,rfl,e⟩
  · exact nomatch e
  · injection e with e1 _
    subst e1
    cases v <;> rfl
theorem ug(prog:Program)(w:World)(i:Int)(t:Tok):(cN prog w).is (.inl i) (.int i t)=true:=yq i t
theorem uk(prog:Program)(w:World)(x:Str)(t:Tok):(cN prog w).is (.inr x) (.str x t)=true:=xX x t
inductive V where
 |non |bl (b:Bool) |int (i:Int) |str (x:Str) |byt (b:Array UInt8) |flt (b:UInt64) |ref (a:Addr) |ty (n:String)
 deriving DecidableEq
def RelV:V->Value->Prop
 | .non,u=>u=Value.none
 | .bl b,u=>u=Value.bool b
 | .int i,u=>∃t,u=Value.int i t
 | .str x,u=>∃t,u=Value.str x t
 | .byt b,u=>∃t,u=Value.bytes b t
 | .flt b,u=>∃t,u=Value.float b t
 | .ref a,u=>u=Value.ref a
 | .ty n,u=>u=Value.type n
abbrev Vals:List V->List Value->Prop:=Paired RelV
theorem Vals.length{xs:List V}{us:List Value}(r:Vals xs us):xs.length=us.length:=Paired.length r
theorem Vals.get:∀{xs:List V} {us:List Value} {i:Nat} {x:V},Vals xs us->xs[i]? =some x->∃u,us[i]? =some u/\RelV x u
 |_,_,_,_,.nil,e=>by simp at e
 |_,_,0,_,.cons r _,e=>by simp at e;subst e;exact⟨_,rfl,r⟩
 |_,_,i+1,x,.cons _ t,e=>by
  obtain⟨u,h1,h2⟩:=Vals.get (i:=i) (x:=x) t (by simpa using e)
  exact⟨u,by simpa using h1,h2⟩
theorem Vals.set{x:V}{u:Value}(r:RelV x u):∀{xs:List V} {us:List Value} (i:Nat),Vals xs us->Vals (xs.set i x) (us.set i u)
 |_,_,_,.nil=>.nil
 |_,_,0,.cons _ t=>.cons r t
 |_,_,i+1,.cons q t=>.cons q (Vals.set r i t)
theorem Vals.append:∀{xs ys:List V} {us ws:List Value},Vals xs us->Vals ys ws->Vals (xs++ys) (us++ws)
 |_,_,_,_,.nil,s=>s
 |_,_,_,_,.cons r t,s=>.cons r (Vals.append t s)
theorem Vals.take:∀{xs:List V} {us:List Value} (n:Nat),Vals xs us->Vals (xs.take n) (us.take n)
 |_,_,0,_=>.nil
 |_,_,_+1,.nil=>.nil
 |_,_,n+1,.cons r t=>.cons r (Vals.take n t)
theorem Vals.drop:∀{xs:List V} {us:List Value} (n:Nat),Vals xs us->Vals (xs.drop n) (us.drop n)
 |_,_,0,r=>r
 |_,_,_+1,.nil=>.nil
 |_,_,n+1,.cons _ t=>Vals.drop n t
def ly:Option V->Option Value->Prop
 |some v,some u=>RelV v u
 |none,none=>True
 |_,_=>False
def KV{κ:Type}:List (κ×V)->List (κ×Value)->Prop:=Paired fun(p:κ×V) (q:κ×Value)=>p.1=q.1/\RelV p.2 q.2
def kV:Key->V
 | .inl i=>.int i
 | .inr x=>.str x
inductive HO where
 /-- a list -/
 |lst (xs:List V)
 /-- a tuple (never changes) -/
 |tup (xs:List V)
 /-- a dict whose keys are ints and texts;one whose keys are tuples of ints and texts (the empty one is both) -/
 |dK (kvs:List (Key×V)) |dT (kvs:List (List Key×V))
 /-- a set of ints:its members,its size -/
 |set (S:Int->Bool) (n:Nat)
 /-- an instance of the class at C,its dict at dx,its attributes -/
 |ins (C dx:Addr) (fs:List (Str×V))
 /-- the dict of the instance at x -/
 |own (x:Addr)
 /-- the dict of an exception -/
 |xd (fs:List (Str×V))
 /-- a bound method,f of x -/
 |met (f x:Addr)
 /-- a range object lo,lo+1,.. below hi -/
 |rng (lo hi:Int)
 /-- a thing that is known to the object (the script;a dict while a loop walks it):read,never written while it is so -/
 |frz (o:Obj) (u:HO)
 /-- a code object's table -/
 |tbl (ps:Array Value)
 /-- any other thing,by what is true of its one object (a def of one's own:SetO a S n:=HO.ext fun h=>..) -/
 |ext (φ:Heap->Prop)
abbrev Hp:=Addr->Option HO
def upd(H:Hp)(a:Addr)(o:HO):Hp:=fun b=>if b=a then some o else H b
theorem aW{H:Hp}{a:Addr}{o:HO}:upd H a o a=some o:=by unfold upd;rw[if_pos rfl]
theorem aP{H:Hp}{a b:Addr}{o:HO}(h:b≠a):upd H a o b=H b:=by unfold upd;rw[if_neg h]
theorem y8{H:Hp}{a b:Addr}{o u:HO}(h:H a=some o)(h':H b=some u)(d:o≠u):a≠b:=by
 intro e;subst e;rw[h]at h';exact d (Option.some.inj h')
theorem dq{H:Hp}{a b:Addr}{o:HO}(h:H a=some o)(h':H b=none):a≠b:=by
 intro e;subst e;rw[h]at h';cases h'
section
variable(P:Program)(w:World)
def cL(H:Hp)(h:Heap)(a:Addr):HO->Prop
 | .lst xs=>xs.length<=sizeLine/\∃(its:List Value) (n:Nat),Vals xs its/\h.get? a=some {cls:= .type "list",data:= .seq its.toArray n}
 | .tup xs=>xs.length<=sizeLine/\∃its:List Value,Vals xs its/\IsTup h a its.toArray
 | .dK kvs=>kvs.length<=sizeLine/\(a==sysModules)=false/\∃vs,KV kvs vs/\h.DictOf (cN P w) a vs
 | .dT kvs=>kvs.length<=sizeLine/\(a==sysModules)=false/\∃xs:List (List Key×Addr×Value),
    Paired (fun(p:List Key×V) (q:List Key×Addr×Value)=>p.1=q.1/\H q.2.1=some (.tup (p.1.map kV))/\RelV p.2 q.2.2) kvs xs/\
    ∃o es ep,h.get? a=some o/\o.ExactDict/\o.data= .dict es ep/\es.toList=xs.map (entryOfKey (tupleKind (cN P w)))/\(xs.map (·.1)).Nodup
 | .set S n=>h.SetOf (intKind P w) a S n
 | .ins C dx fs=>H dx=some (.own a)/\fs.length<=1000/\dx≠a/\h.get? a=some (PySem.W.instObj C dx)/\
    ∃mA,h.Ns1 dx mA/\(∀f,ly (fs.lookup f) (mA f))/\PySem.Within mA (fs.map (·.1))
 | .own _=>∃o,h.get? a=some o
 | .xd fs=>∃mA,h.Ns1 a mA/\∀f,ly (fs.lookup f) (mA f)
 | .rng lo hi=>∃t u v,h.get? a=some {cls:= .type "range",data:= .fields #[.int lo t,.int hi u,.int 1 v]}
 | .frz o u=>h.get? a=some o/\cL H h a u
 | .tbl ps=>h.get? a=some {cls:= .none,data:= .fields ps}
 | .met f x=>h.get? a=some (PySem.W.methodObj (.ref f) (.ref x))
 | .ext φ=>φ h/\(∃o,h.get? a=some o)/\∀h1 h2:Heap,φ h1->(∀o,h1.get? a=some o->h2.get? a=some o)->φ h2
def HOk(H:Hp)(h:Heap):Prop:=∀a o,H a=some o->cL P w H h a o
end
section
variable{P:Program}{w:World}{H H':Hp}{h h':Heap}{a:Addr}{o:HO}
theorem cL.lt(x:cL P w H h a o):a < h.objs.size:=by
 cases o with
 |lst xs=>obtain⟨_,_,_,_,e⟩:=x;exact Heap.lt_size e
 |tup xs=>obtain⟨_,_,_,p⟩:=x;exact p.lt
 |dK kvs=>obtain⟨_,_,_,_,o,_,_,e,_⟩:=x;exact Heap.lt_size e
 |dT kvs=>obtain⟨_,_,_,_,o,_,_,e,_⟩:=x;exact Heap.lt_size e
 |set S n=>obtain⟨o,_,_,_,e,_⟩:=x;exact Heap.lt_size e
 |ins C dx fs=>obtain⟨_,_,_,e,_⟩:=x;exact Heap.lt_size e
 |own y=>obtain⟨_,e⟩:=x;exact Heap.lt_size e
 |xd fs=>obtain⟨_,⟨_,_,_,e,_⟩,_⟩:=x;exact Heap.lt_size e
 |rng lo hi=>obtain⟨_,_,_,e⟩:=x;exact Heap.lt_size e
 |frz ob u=>obtain⟨e,_⟩:=x;exact Heap.lt_size e
 |tbl ps=>exact Heap.lt_size (show h.get? a=some _ from x)
 |met f y=>exact Heap.lt_size (show h.get? a=some _ from x)
 |ext φ=>obtain⟨_,⟨_,e⟩,_⟩:=x;exact Heap.lt_size e
theorem Paired.BJ{α β:Type}{F G:α->β->Prop}:∀{l₁:List α} {l₂:List β},Paired F l₁ l₂->(∀a b,F a b->G a b)->Paired G l₁ l₂
 |_,_,.nil,_=>.nil
 |_,_,.cons r t,f=>.cons (f _ _ r) (Paired.BJ t f)
theorem Paired.imp'{α β:Type}{F G:α->β->Prop}(f:∀a b,F a b->G a b){l₁:List α}{l₂:List β}(r:Paired F l₁ l₂):Paired G l₁ l₂:=Paired.BJ r f
theorem cL.jC(x:cL P w H h a o)(k:∀b u,(b=a\/H b=some (.own a))->h.get? b=some u->h'.get? b=some u)
 (ho:∀b,H b=some (.own a)->H' b=some (.own a)) (ht:∀b xs,H b=some (.tup xs)->H' b=some (.tup xs)):cL P w H' h' a o:=by
 induction o with
 |lst xs=>obtain⟨z,its,n,r,e⟩:=x;exact⟨z,its,n,r,k _ _ (.inl rfl) e⟩
 |tup xs=>obtain⟨z,its,r,ob,e,c⟩:=x;exact⟨z,its,r,ob,k _ _ (.inl rfl) e,c⟩
 |dK kvs=>obtain⟨z,y,vs,r,ob,es,ep,e,c⟩:=x;exact⟨z,y,vs,r,ob,es,ep,k _ _ (.inl rfl) e,c⟩
 |dT kvs=>
  obtain⟨z,y,xs,r,ob,es,ep,e,c⟩:=x
  exact⟨z,y,xs,Paired.BJ r fun p q z=>⟨z.1,ht _ _ z.2.1,z.2.2⟩,ob,es,ep,k _ _ (.inl rfl) e,c⟩
 |set S n=>obtain⟨ob,es,ep,t,e,c⟩:=x;exact⟨ob,es,ep,t,k _ _ (.inl rfl) e,c⟩
 |ins C dx fs=>
  obtain⟨d,z,ne,e,mA,⟨od,es,ep,e2,c⟩,r⟩:=x
  exact⟨ho _ d,z,ne,k _ _ (.inl rfl) e,mA,⟨od,es,ep,k _ _ (.inr d) e2,c⟩,r⟩
 |own y=>obtain⟨ob,e⟩:=x;exact⟨ob,k _ _ (.inl rfl) e⟩
 |xd fs=>obtain⟨mA,⟨od,es,ep,e,c⟩,r⟩:=x;exact⟨mA,⟨od,es,ep,k _ _ (.inl rfl) e,c⟩,r⟩
 |rng lo hi=>obtain⟨t,u,v,e⟩:=x;exact⟨t,u,v,k _ _ (.inl rfl) e⟩
 |frz ob u ih=>obtain⟨e,q⟩:=x;exact⟨k _ _ (.inl rfl) e,ih q⟩
 |tbl ps=>
  have e:h.get? a=some {cls:= .none,data:= .fields ps}:=x
  show h'.get? a=some {cls:= .none,data:= .fields ps}
  exact k a _ (.inl rfl) e
 |met f y=>
  have e:h.get? a=some (PySem.W.methodObj (.ref f) (.ref y)):=x
  show h'.get? a=some (PySem.W.methodObj (.ref f) (.ref y))
  exact k a _ (.inl rfl) e
 |ext φ=>obtain⟨p,⟨o,e⟩,st⟩:=x;exact⟨st _ _ p fun o q=>k _ _ (.inl rfl) q,⟨o,k _ _ (.inl rfl) e⟩,st⟩
theorem HOk.lt(x:HOk P w H h)(e:H a=some o):a < h.objs.size:=(x a o e).lt
theorem HOk.fresh(x:HOk P w H h)(e:h.objs.size<=a):H a=none:=by
 cases q:H a with
 |none=>rfl
 |some u=>exact absurd (qd_ (x.lt q) e) (qe_ _)
theorem HOk.kept(x:HOk P w H h)(k:∀b u,h.get? b=some u->h'.get? b=some u):HOk P w H h':=fun a o e=>
 (x a o e).jC (fun b u _ q=>k b u q) (fun _ q=>q) fun _ _ q=>q
theorem HOk.laid(x:HOk P w H h)(k:∀b u,h.get? b=some u->h'.get? b=some u)(hp:h.objs.size<=a)(new:cL P w (upd H a o) h' a o):HOk P w (upd H a o) h':=fun b u e=>by
 have hn:=x.fresh hp
 by_cases hb:b=a
 · subst hb;rw[aW]at e;cases e;exact new
 · rw[aP hb]at e
   exact(x b u e).jC (fun c v _ q=>k c v q) (fun c q=>by rw[aP (dq q hn)];exact q) fun c xs q=>by rw[aP (dq q hn)];exact q
end
def Rd(H:Hp)(a:Addr)(u:HO):Prop:=H a=some u\/∃o,H a=some (.frz o u)
theorem Rd.ok{P:Program}{w:World}{H:Hp}{h:Heap}{a:Addr}{u:HO}(r:Rd H a u)(x:HOk P w H h):cL P w H h a u:=by
 rcases r with r |⟨o,r⟩
 · exact x a u r
 · obtain⟨_,q⟩:=x a _ r
   exact q
def Mut:Option HO->Prop
 |some (.lst _)=>True
 |some (.dK _)=>True
 |some (.dT _)=>True
 |some (.set _ _)=>True
 |some (.ins _ _ _)=>True
 |some (.ext _)=>True
 |_=>False
section
variable{P:Program}{w:World}{H:Hp}{h h':Heap}{x e:Addr}{o':HO}
theorem HOk.write(ok:HOk P w H h)(mu:Mut (H x))(he:e=x\/H e=some (.own x))(k:∀b u,b≠e->h.get? b=some u->h'.get? b=some u)(heo:∃u,h'.get? e=some u)
 (new:cL P w (upd H x o') h' x o'):HOk P w (upd H x o') h':=fun b u q=>by
 have nown:∀c y,H c=some (.own y)->c≠x:=fun c y r z=>by subst z;rw[r]at mu;exact mu
 have ntup:∀c xs,H c=some (.tup xs)->c≠x:=fun c xs r z=>by subst z;rw[r]at mu;exact mu
 by_cases hb:b=x
 · subst hb;rw[aW]at q;cases q;exact new
 · rw[aP hb]at q
   by_cases hbe:b=e
   · have q':H b=some (.own x):=by
      rcases he with z |z
      · exact absurd (hbe.trans z) hb
      · rw[hbe];exact z
     rw[q]at q';cases q'
     obtain⟨v,hv⟩:=heo
     exact⟨v,by rw[hbe];exact hv⟩
   · refine(ok b u q).jC (fun c v hc r=>k c v ?_ r) (fun c r=>by rw[aP (nown c b r)];exact r) fun c xs r=>by rw[aP (ntup c xs r)];exact r
     rcases hc with rfl |hc
     · exact hbe
     · rintro rfl
       rcases he with z |z
       · exact nown c b hc z
       · rw[hc]at z;cases z;exact hb rfl
end
structure Un (fs ex:List Addr) (H H':Hp) (h h':Heap):Prop where
 keep:∀b o,h.get? b=some o->H b=none->b∉fs->b∉ex->h'.get? b=some o
 slot:∀b o,h.get? b=some o->H b=none->b∈fs->b∉ex->∃sl,h'.get? b=some {o with slots:=sl}
 free:∀b o,h.get? b=some o->H b=none->b∉ex->H' b=none
 there:∀b o,h.get? b=some o->b∉ex->∃o',h'.get? b=some o'
 pA:∀b xs,H b=some (.tup xs)->H' b=some (.tup xs)
 oh:∀b o u,H b=some (.frz o u)->H' b=some (.frz o u)
 pz:∀b ps,H b=some (.tbl ps)->∃more,H' b=some (.tbl (ps++more))
section
variable{fs fs' ex ex':List Addr}{H H1 H2:Hp}{h h1 h2 h':Heap}{a x e:Addr}{o:HO}
theorem Un.any(u:Un fs ex H H1 h h1){b:Addr}{ob:Obj}(q:h.get? b=some ob)(n:H b=none)(hx:b∉ex):∃sl,h1.get? b=some {ob with slots:=sl}:=by
 by_cases hb:b∈fs
 · exact u.slot b ob q n hb hx
 · exact⟨ob.slots,u.keep b ob q n hb hx⟩
theorem Un.kept(k:∀b u,h.get? b=some u->h'.get? b=some u):Un fs ex H H h h':=
 ⟨fun b ob q _ _ _=>k b ob q,fun b ob q _ _ _=>⟨ob.slots,k b ob q⟩,fun _ _ _ n _=>n,fun b ob q _=>⟨ob,k b ob q⟩,fun _ _ q=>q,fun _ _ _ q=>q,fun _ ps q=>⟨#[],by rw[q];simp⟩⟩
theorem Un.refl:Un fs ex H H h h:=Un.kept fun _ _ q=>q
theorem Un.laid(k:∀b u,h.get? b=some u->h'.get? b=some u)(hp:h.objs.size<=a)(hn:H a=none):Un fs ex H (upd H a o) h h' where
 keep:=fun b u q _ _ _=>k b u q
 slot:=fun b u q _ _ _=>⟨u.slots,k b u q⟩
 free:=fun b u q n _=>by rw[aP (Nat.ne_of_lt (qd_ (Heap.lt_size q) hp))];exact n
 there:=fun b u q _=>⟨u,k b u q⟩
 pA:=fun b xs q=>by rw[aP (dq q hn)];exact q
 oh:=fun b u xs q=>by rw[aP (dq q hn)];exact q
 pz:=fun b ps q=>⟨#[],by rw[aP (dq q hn),q];simp⟩
theorem Un.write(mu:Mut (H x))(he:e=x\/H e=some (.own x))(k:∀b u,b≠e->h.get? b=some u->h'.get? b=some u)(heo:∃u,h'.get? e=some u):Un fs ex H (upd H x o) h h':=by
 have hx:∀b,H b=none->b≠x:=fun b n z=>by subst z;rw[n]at mu;exact mu
 have hb:∀b,H b=none->b≠e:=fun b n z=>by
  subst z
  rcases he with r |r
  · exact hx b n r
  · rw[n]at r;cases r
 have hm:∀b u,H b=some u->¬Mut (some u)->b≠x:=fun b u q nm z=>by subst z;rw[q]at mu;exact nm mu
 refine⟨fun b u q n _ _=>k b u (hb b n) q,fun b u q n _ _=>⟨u.slots,k b u (hb b n) q⟩,fun b u q n _=>by rw[aP (hx b n)];exact n,fun b u q _=>?_,
  fun b xs q=>by rw[aP (hm b _ q fun z=>z)];exact q,fun b u xs q=>by rw[aP (hm b _ q fun z=>z)];exact q,fun b ps q=>⟨#[],by rw[aP (hm b _ q fun z=>z),q];simp⟩⟩
 by_cases hbe:b=e
 · subst hbe;exact heo
 · exact⟨u,k b u hbe q⟩
end
def trk(h:Heap)(H:Hp):List Addr:=(List.range h.objs.size).filter fun a=>(H a).isSome
def sE(h:Heap)(H:Hp):Heap:=PySem.W.hideAll h (trk h H)
theorem xQ(h:Heap)(H:Hp):(sE h H).objs.size=h.objs.size:=PySem.W.hideAll_size _ _
theorem Ah{h:Heap}{H:Hp}{b:Addr}{o:Obj}(e:h.get? b=some o)(n:H b=none):(sE h H).get? b=some o:=
 PySem.W.hideAll_get _ e fun hm=>by
  have q:(H b).isSome=true:=(List.mem_filter.mp hm).2
  rw[n]at q;simp at q
theorem Cn{h:Heap}{H:Hp}{b:Addr}{o:Obj}(e:(sE h H).get? b=some o):h.get? b=some o/\H b=none:=by
 have e':h.get? b=some o:=PySem.W.of_hideAll (trk h H) e
 refine⟨e',?_⟩
 cases q:H b with
 |none=>rfl
 |some x=>
  have hm:b∈trk h H:=List.mem_filter.mpr ⟨List.mem_range.mpr (Heap.lt_size e'),by simp [q]⟩
  have z:(sE h H).get? b=none:=PySem.W.hideAll_none (trk h H) hm
  rw[z]at e;cases e
structure Mod (K:PySem.W.Frag) (mg:Str->Option Value) (base:Heap):Prop where
 kin:K.In base
 glob:base.Ns mainGlobals mg
 blt:∃mb,base.Ns builtinsNs mb/\∀x:Str,x≠"__name__"->mb x=bootBuiltins x
 nolimit:base.NoLimit
structure Cx where
 prog:Program
 w:World
 K:PySem.W.Frag
 mg:Str->Option Value
 base:Heap
 A:Around
 N:List Str
 s₀:Shared
 H₀:Hp
 env:Env
 outer:List Env
 stack:List Env
 ex:List Addr
 fn:Str->Bool
 calm:Bool
 pn:List (Addr×Obj)
 xe:Value->Shared->Prop
def frs(l:List Env):List Addr:=l.filterMap (·.frame)
abbrev Cx.fs(X:Cx):List Addr:=frs X.outer
def Vis(sc:Scope)(x:Str):Prop:=sc.names.lookup x=some .local\/sc.names.lookup x=some .cell\/sc.names.lookup x=some .free
def Loc(sc:Scope)(x:Str):Prop:=sc.names.lookup x=some .local\/sc.names.lookup x=some .cell
def Look(env:Env)(h:Heap)(m:Str->Option Value)(x:Str)(u:Value):Prop:=
 (env.kindOf x=some .local/\m x=some u)\/((env.kindOf x=some .cell\/env.kindOf x=some .free)/\∃c,env.cells.lookup x=some c/\h.IsCell c (some u))
structure Cx.Ok (X:Cx):Prop where
 mod:Mod X.K X.mg X.base
 kind:X.env.scope.kind= .function
 glob:X.env.globals=mainGlobals
 blt:X.env.builtins=builtinsNs
 above:X.s₀.heap.objs.size<=X.env.locals
 inj:∀x y c,X.env.cells.lookup x=some c->X.env.cells.lookup y=some c->x=y
 has:∀x,(X.env.kindOf x=some .cell\/X.env.kindOf x=some .free)->∃c,X.env.cells.lookup x=some c
 cab:∀x c,X.fn x=true->X.env.cells.lookup x=some c->X.s₀.heap.objs.size<=c
 hd:X.calm=true->X.A.handled=none
 frames:X.A.frames=some X.stack
 stk:X.stack=X.outer\/(X.stack=X.env :: X.outer/\X.env.frame=some X.env.locals)
 exf:∀b∈X.ex,b≠X.env.locals/\∀x c,X.env.cells.lookup x=some c->c≠b
 bs:∀b o,X.base.get? b=some o->X.s₀.heap.get? b=some o/\X.H₀ b=none
 bsz:X.base.objs.size<=X.s₀.heap.objs.size
 wL:∀b o,X.base.get? b=some o->b∉X.ex
 xU:∀b∈X.ex,b∉X.fs
 nI:X.s₀.heap.FunFrames X.base X.outer
 frf:∀b∈X.fs,X.H₀ b=none
structure Inv (X:Cx) (pins:List (Addr×Obj)) (σ:List (Option V)) (H:Hp) (s:Shared):Prop where
 ok:X.Ok
 os:s.os=X.s₀.os
 bare:AllBare s.gens
 base:Un X.fs X.ex X.H₀ H X.s₀.heap s.heap
 loc:∃m,s.heap.Ns X.env.locals m/\∀(i:Nat) (x:Str) (v:V),X.N[i]? =some x->σ[i]? =some (some v)->Vis X.env.scope x->∃u,RelV v u/\Look X.env s.heap m x u
 cell:∀x c,X.env.cells.lookup x=some c->∃v,s.heap.IsCell c v
 free:H X.env.locals=none
 gV:∀x c,X.env.cells.lookup x=some c->H c=none
 pin:∀p∈X.pn++pins,s.heap.get? p.1=some p.2/\H p.1=none/\p.1≠X.env.locals/\p.1∉X.fs/\∀v,p.2.data≠.cell v
 hok:HOk X.prog X.w H s.heap
 len:σ.length=X.N.length
section
variable{X:Cx}{pins:List (Addr×Obj)}{σ:List (Option V)}{H H':Hp}{s:Shared}{h':Heap}
theorem Cx.Ok.Hk(ok:X.Ok){b:Addr}{o:Obj}(e:X.base.get? b=some o):b∉X.fs:=fun hb=>by
 have:=(ok.nI.mem hb).1
 rw[e]at this;cases this
theorem Inv.bs(I:Inv X pins σ H s):∀b o,X.base.get? b=some o->s.heap.get? b=some o/\H b=none:=fun b o e=>
 ⟨I.base.keep b o (I.ok.bs b o e).1 (I.ok.bs b o e).2 (I.ok.Hk e) (I.ok.wL b o e),I.base.free b o (I.ok.bs b o e).1 (I.ok.bs b o e).2 (I.ok.wL b o e)⟩
theorem Inv.bk(I:Inv X pins σ H s):∀b o,X.base.get? b=some o->s.heap.get? b=some o:=fun b o e=>(I.bs b o e).1
theorem Inv.mod(I:Inv X pins σ H s):Mod X.K X.mg X.base:=I.ok.mod
theorem Inv.kIn(I:Inv X pins σ H s):X.K.In s.heap:=I.ok.mod.kin.keeps I.bk
theorem Inv.lt(I:Inv X pins σ H s):X.env.locals < s.heap.objs.size:=let ⟨_,hn,_⟩:=I.loc;hn.lt
theorem Inv.sz(I:Inv X pins σ H s):X.s₀.heap.objs.size<=s.heap.objs.size:=Nat.le_trans I.ok.above (Nat.le_of_lt I.lt)
theorem Inv.Hr(I:Inv X pins σ H s){a:Addr}(h:s.heap.objs.size<=a):a∉X.fs:=fun hb=>by
 obtain⟨_,o,ho,_⟩:=I.ok.nI.mem hb
 exact absurd (qd_ (Heap.lt_size ho) (Nat.le_trans I.sz h)) (qe_ _)
theorem Inv.cne(I:Inv X pins σ H s):∀x c,X.env.cells.lookup x=some c->c≠X.env.locals:=fun x c e z=>by
 obtain⟨v,o,ho,hd⟩:=I.cell x c e
 obtain⟨m,⟨o',es,ep,ho',hd',_⟩,_⟩:=I.loc
 rw[z,ho']at ho;cases ho;rw[hd']at hd;cases hd
theorem Inv.nI(I:Inv X pins σ H s):s.heap.FunFrames X.base X.outer:=by
 have all:∀(l:List Env),(∀b∈frs l,b∈X.fs)->X.s₀.heap.FunFrames X.base l->s.heap.FunFrames X.base l:=by
  intro l
  induction l with
  |nil=>intro _ _;trivial
  |cons env r ih=>
   intro hs hl
   obtain⟨hk,⟨L,o,hf,hn,ho,hd⟩,hr⟩:=hl
   have hL:L∈X.fs:=hs L (by unfold frs;rw[List.filterMap_cons,hf];exact qI_)
   obtain⟨sl,e⟩:=I.base.slot L o ho (I.ok.frf L hL) hL fun z=>I.ok.xU L z hL
   exact⟨hk,⟨L,_,hf,hn,e,hd⟩,ih (fun b hb=>hs b (by unfold frs;rw[List.filterMap_cons,hf];exact qR_ _ hb)) hr⟩
 exact all X.outer (fun _ hb=>hb) I.ok.nI
theorem Inv.stack(I:Inv X pins σ H s):s.heap.FunFrames X.base X.stack:=by
 rcases I.ok.stk with e |⟨e,hf⟩
 · rw[e];exact I.nI
 · rw[e]
   obtain⟨m,hn,_⟩:=I.loc
   refine .cons (by rw[I.ok.kind];decide) hf hn ?_ I.nI
   exact Heap.get?_none_of_le (Nat.le_trans I.ok.bsz I.ok.above)
theorem Inv.jZ(I:Inv X pins σ H s):∀b∈frs X.stack,b∈X.env.locals :: X.fs:=fun b hb=>by
 rcases I.ok.stk with e |⟨e,hf⟩
 · rw[e]at hb;exact qR_ _ hb
 · rw[e]at hb
   unfold frs at hb
   rw[List.filterMap_cons,hf]at hb
   exact hb
theorem Inv.oW(I:Inv X pins σ H s):∀b∈frs X.stack,H b=none:=fun b hb=>by
 rcases qS_.mp (I.jZ b hb)with e |hb
 · rw[e];exact I.free
 · obtain⟨_,o,ho,_⟩:=I.ok.nI.mem hb
   exact I.base.free b o ho (I.ok.frf b hb) fun z=>I.ok.xU b z hb
theorem Inv.step{g':Array GenState}{t':Nat}{d':Drawn}{ch:List Addr}(I:Inv X pins σ H s)
 (hch:∀b∈ch,(b∈X.ex\/X.s₀.heap.objs.size<=b)/\b≠X.env.locals/\(∀x c,X.env.cells.lookup x=some c->c≠b)/\∀p∈X.pn++pins,p.1≠b)
 (keep:∀b o,b≠X.env.locals->b∉X.fs->b∉ch->s.heap.get? b=some o->H b=none->h'.get? b=some o)
 (slot:∀b o,b≠X.env.locals->b∈X.fs->b∉ch->s.heap.get? b=some o->H b=none->∃sl,h'.get? b=some {o with slots:=sl}) (free:∀b o,b∉ch->s.heap.get? b=some o->H b=none->H' b=none)
 (there:∀b o,b∉ch->s.heap.get? b=some o->∃o',h'.get? b=some o')
 (pA:∀b xs,H b=some (.tup xs)->H' b=some (.tup xs)) (oh:∀b o u,H b=some (.frz o u)->H' b=some (.frz o u)) (pz:∀b ps,H b=some (.tbl ps)->∃more,H' b=some (.tbl (ps++more)))
 (ns:∀m,s.heap.Ns X.env.locals m->h'.Ns X.env.locals m) (hok:HOk X.prog X.w H' h') (hg:AllBare g'):
 Inv X pins σ H' {s with heap:=h',gens:=g',drawn:=d',toks:=t'}:=by
 have neL:∀b o,X.s₀.heap.get? b=some o->b≠X.env.locals:=fun b o e=>Nat.ne_of_lt (qd_ (Heap.lt_size e) I.ok.above)
 have neC:∀b o,X.s₀.heap.get? b=some o->b∉X.ex->b∉ch:=fun b o e hx hb=>by
  rcases (hch b hb).1 with z |z
  · exact hx z
  · exact absurd (qd_ (Heap.lt_size e) z) (qe_ _)
 have cellK:∀x c,X.env.cells.lookup x=some c->∀v,s.heap.IsCell c v->h'.IsCell c v:=fun x c e v ⟨o,ho,hd⟩=>by
  have nch:c∉ch:=fun z=>(hch c z).2.2.1 x c e rfl
  by_cases hc:c∈X.fs
  · obtain⟨sl,q⟩:=slot c o (I.cne x c e) hc nch ho (I.gV x c e)
    exact⟨_,q,hd⟩
  · exact⟨o,keep c o (I.cne x c e) hc nch ho (I.gV x c e),hd⟩
 refine⟨I.ok,I.os,hg,⟨fun b o e n hb hx=>?_,fun b o e n hb hx=>?_,fun b o e n hx=>?_,fun b o e hx=>?_,fun b xs e=>pA b xs (I.base.pA b xs e),fun b o xs e=>oh b o xs (I.base.oh b o xs e),fun b ps e=>?_⟩,?_,fun x c e=>?_,?_,fun x c e=>?_,fun p hp=>?_,hok,I.len⟩
 · exact keep b o (neL b o e) hb (neC b o e hx) (I.base.keep b o e n hb hx) (I.base.free b o e n hx)
 · obtain⟨sl,e1⟩:=I.base.slot b o e n hb hx
   obtain⟨sl',e2⟩:=slot b _ (neL b o e) hb (neC b o e hx) e1 (I.base.free b o e n hx)
   exact⟨sl',e2⟩
 · obtain⟨o',e1⟩:=I.base.there b o e hx
   exact free b o' (neC b o e hx) e1 (I.base.free b o e n hx)
 · obtain⟨o',e1⟩:=I.base.there b o e hx
   exact there b o' (neC b o e hx) e1
 · obtain⟨m1,e1⟩:=I.base.pz b ps e
   obtain⟨m2,e2⟩:=pz b _ e1
   exact⟨m1++m2,by rw[e2,Array.append_assoc]⟩
 · obtain⟨m,hn,hl⟩:=I.loc
   refine⟨m,ns m hn,fun i x v e1 e2 e3=>?_⟩
   obtain⟨u,r,l⟩:=hl i x v e1 e2 e3
   refine⟨u,r,?_⟩
   rcases l with l |⟨k,c,e,z⟩
   · exact .inl l
   · exact .inr ⟨k,c,e,cellK x c e _ z⟩
 · obtain⟨v,z⟩:=I.cell x c e
   exact⟨v,cellK x c e v z⟩
 · obtain⟨m,⟨o,_,_,ho,_⟩,_⟩:=I.loc
   exact free _ o (fun z=>(hch _ z).2.1 rfl) ho I.free
 · obtain⟨v,o,ho,hd⟩:=I.cell x c e
   exact free c o (fun z=>(hch c z).2.2.1 x c e rfl) ho (I.gV x c e)
 · obtain⟨e,n,ne,nf,d⟩:=I.pin p hp
   have nch:p.1∉ch:=fun z=>(hch p.1 z).2.2.2 p hp rfl
   exact⟨keep p.1 p.2 ne nf nch e n,free p.1 p.2 nch e n,ne,nf,d⟩
theorem Inv.un{t':Nat}(I:Inv X pins σ H s)(u:Un X.fs [] H H' s.heap h')(hok:HOk X.prog X.w H' h'):Inv X pins σ H' {s with heap:=h',toks:=t'}:=by
 obtain⟨m,⟨o,es,ep,ho,r⟩,_⟩:=id I.loc
 obtain⟨sl,hL⟩:=u.any ho I.free (by simp)
 exact I.step (g':=s.gens) (d':=s.drawn) (ch:=[]) (fun _ z=>nomatch z) (fun b o _ hb _ e n=>u.keep b o e n hb (by simp)) (fun b o _ hb _ e n=>u.slot b o e n hb (by simp)) (fun b o _ e n=>u.free b o e n (by simp)) (fun b o _ e=>u.there b o e (by simp)) u.pA u.oh u.pz (fun m' hm=>by
  obtain⟨o',es',ep',ho',r'⟩:=hm
  rw[ho]at ho';cases ho'
  exact⟨_,es',ep',hL,r'⟩) hok I.bare
theorem Inv.call{g':Array GenState}{t':Nat}{d':Drawn}{ch:List Addr}(I:Inv X pins σ H s)(u:Un (frs X.stack) ch H H' s.heap h')(hok:HOk X.prog X.w H' h')(hg:AllBare g')
 (hch:∀b∈ch,(b∈X.ex\/X.s₀.heap.objs.size<=b)/\b≠X.env.locals/\(∀x c,X.env.cells.lookup x=some c->c≠b)/\∀p∈X.pn++pins,p.1≠b):
 Inv X pins σ H' {s with heap:=h',gens:=g',drawn:=d',toks:=t'}:=by
 obtain⟨m,⟨o,es,ep,ho,r⟩,_⟩:=id I.loc
 obtain⟨sl,hL⟩:=u.any ho I.free fun z=>(hch _ z).2.1 rfl
 exact I.step (ch:=ch) hch (fun b o hL hb hc e n=>u.keep b o e n (fun z=>(qS_.mp (I.jZ b z)).elim hL hb) hc) (fun b o _ _ hc e n=>u.any e n hc) (fun b o hc e n=>u.free b o e n hc) (fun b o hc e=>u.there b o e hc) u.pA u.oh u.pz (fun m' hm=>by
  obtain⟨o',es',ep',ho',r'⟩:=hm
  rw[ho]at ho';cases ho'
  exact⟨_,es',ep',hL,r'⟩) hok hg
theorem Inv.turned{t':Nat}{it:Addr}(I:Inv X pins σ H s)(k:∀b o,b≠it->s.heap.get? b=some o->h'.get? b=some o)(hn:H it=none)(hL:it≠X.env.locals)
 (h1:it∈X.ex\/X.s₀.heap.objs.size<=it) (h2:∀x c,X.env.cells.lookup x=some c->c≠it) (h3:∀p∈X.pn++pins,p.1≠it):Inv X pins σ H {s with heap:=h',toks:=t'}:=by
 have nit:∀b u,H b=some u->b≠it:=fun b u e z=>by rw[z,hn]at e;cases e
 refine I.step (g':=s.gens) (d':=s.drawn) (ch:=[it]) (fun b hb=>?_) (fun b o _ _ hc e _=>k b o (fun z=>hc (by simp [z])) e) (fun b o _ _ hc e _=>⟨o.slots,k b o (fun z=>hc (by simp [z])) e⟩) (fun _ _ _ _ n=>n)
  (fun b o hc e=>⟨o,k b o (fun z=>hc (by simp [z])) e⟩) (fun _ _ e=>e) (fun _ _ _ e=>e) (fun b ps e=>⟨#[],by rw[e];simp⟩) (fun m hm=>?_) (fun b u e=>?_) I.bare
 · have e:b=it:=by simpa using hb
   subst e
   exact⟨h1,hL,h2,h3⟩
 · obtain⟨o,es,ep,ho,r⟩:=hm
   exact⟨o,es,ep,k _ o (Ne.symm hL) ho,r⟩
 · refine(I.hok b u e).jC (fun c v hc q=>k c v ?_ q) (fun _ q=>q) fun _ _ q=>q
   rcases hc with z |z
   · rw[z];exact nit b u e
   · exact nit c _ z
theorem Inv.tok(I:Inv X pins σ H s)(t:Nat):Inv X pins σ H {s with toks:=t}:=I.un (h':=s.heap) (t':=t) Un.refl I.hok
theorem Inv.kept{t':Nat}(I:Inv X pins σ H s)(k:∀b u,s.heap.get? b=some u->h'.get? b=some u):Inv X pins σ H {s with heap:=h',toks:=t'}:=I.un (Un.kept k) (I.hok.kept k)
theorem Inv.laid{a:Addr}{o:HO}{t':Nat}(I:Inv X pins σ H s)(k:∀b u,s.heap.get? b=some u->h'.get? b=some u)(hp:s.heap.objs.size<=a)(new:cL X.prog X.w (upd H a o) h' a o):
 Inv X pins σ (upd H a o) {s with heap:=h',toks:=t'}:=I.un (Un.laid k hp (I.hok.fresh hp)) (I.hok.laid k hp new)
theorem Inv.write{x e:Addr}{o:HO}{t':Nat}(I:Inv X pins σ H s)(mu:Mut (H x))(he:e=x\/H e=some (.own x))(k:∀b u,b≠e->s.heap.get? b=some u->h'.get? b=some u)(heo:∃u,h'.get? e=some u)
 (new:cL X.prog X.w (upd H x o) h' x o):Inv X pins σ (upd H x o) {s with heap:=h',toks:=t'}:=I.un (Un.write mu he k heo) (I.hok.write mu he k heo new)
theorem Inv.oY{pins':List (Addr×Obj)}(I:Inv X pins σ H s)(h:∀p∈pins',s.heap.get? p.1=some p.2/\H p.1=none/\p.1≠X.env.locals/\p.1∉X.fs/\∀v,p.2.data≠.cell v):Inv X pins' σ H s:=
 ⟨I.ok,I.os,I.bare,I.base,I.loc,I.cell,I.free,I.gV,fun p hp=>(qG_.mp hp).elim (fun z=>I.pin p (qF_ _ z)) (h p),I.hok,I.len⟩
theorem um{N:List Str}(hN:N.Nodup){i j:Nat}{x:Str}(a:N[i]? =some x)(b:N[j]? =some x):i=j:=by
 obtain⟨h1,e1⟩:=qB_.mp a
 obtain⟨h2,e2⟩:=qB_.mp b
 exact(List.getElem_inj hN).mp (e1.trans e2.symm)
theorem rR{M:Model}{A:Around}{E:Value->Shared->Prop}{i:Nat}{x:Str}{v:V}{u:Value}{Q:Unit->Shared->Prop}(I:Inv X pins σ H s)(hN:X.N.Nodup)(hi:X.N[i]? =some x)(hx:Loc X.env.scope x)(r:RelV v u)
 (h:∀s',Inv X pins (σ.set i (some v)) H s'->(∃a,Heap.SameBut a s.heap s'.heap/\(a=X.env.locals\/X.env.cells.lookup x=some a))->Q () s') (hf:X.fn x=true\/X.env.scope.names.lookup x=some .local:=by first |exact .inl rfl |exact .inr rfl |assumption):wpAny M A (storeName X.env x u) Q E s:=by
 obtain⟨m,hn,hl⟩:=id I.loc
 have hcls:(X.env.scope.kind== .class||(X.env.scope.kind== .module&&X.env.locals !=X.env.globals))=false:=by rw[I.ok.kind];rfl
 have hiσ:i < σ.length:=by rw[I.len];exact(qB_.mp hi).1
 have cne:=I.cne
 have tracked:∀{a:Addr} {h':Heap},(∃o,s.heap.get? a=some o/\H a=none)->Heap.SameBut a s.heap h'->HOk X.prog X.w H h':=fun {a h'} ha hs b ob e=>by
  obtain⟨_,_,hfree⟩:=ha
  refine(I.hok b ob e).jC (fun c w' hc q=>(hs.2 c ?_).trans q) (fun _ q=>q) fun _ _ q=>q
  rintro rfl
  rcases hc with rfl |hc
  · rw[hfree]at e;cases e
  · rw[hfree]at hc;cases hc
 rcases hx with hk |hk
 · refine wpAny_storeName_local hk hn (fun h' hn' hs=>?_) hcls
   obtain⟨oL,_,_,hoL,_⟩:=id hn
   refine h _ ⟨I.ok,I.os,I.bare,⟨fun b o e n hb hx=>?_,fun b o e n hb hx=>?_,I.base.free,fun b o e hx=>?_,I.base.pA,I.base.oh,I.base.pz⟩,⟨_,hn',fun j y v' e1 e2 e3=>?_⟩,fun y c e=>?_,I.free,I.gV,fun p hp=>?_,tracked ⟨oL,hoL,I.free⟩ hs,by simpa using I.len⟩ ⟨_,hs,.inl rfl⟩
   · exact(hs.2 b (Nat.ne_of_lt (qd_ (Heap.lt_size e) I.ok.above))).trans (I.base.keep b o e n hb hx)
   · obtain⟨sl,e1⟩:=I.base.slot b o e n hb hx
     exact⟨sl,(hs.2 b (Nat.ne_of_lt (qd_ (Heap.lt_size e) I.ok.above))).trans e1⟩
   · obtain⟨o',e1⟩:=I.base.there b o e hx
     exact⟨o',(hs.2 b (Nat.ne_of_lt (qd_ (Heap.lt_size e) I.ok.above))).trans e1⟩
   · by_cases hj:j=i
     · subst hj
       rw[hi]at e1;cases e1
       rw[qU_ hiσ]at e2
       cases e2
       exact⟨u,r,.inl ⟨hk,by simp⟩⟩
     · rw[qV_ (Ne.symm hj)]at e2
       obtain⟨u',r',q⟩:=hl j y v' e1 e2 e3
       refine⟨u',r',?_⟩
       rcases q with ⟨k,e⟩ |⟨k,c,e,z⟩
       · refine .inl ⟨k,?_⟩
         have:y≠x:=fun e=>hj (um hN e1 (e ▸ hi))
         simp [this,e]
       · exact .inr ⟨k,c,e,z.sameBut hs (cne y c e)⟩
   · obtain⟨w',z⟩:=I.cell y c e
     exact⟨w',z.sameBut hs (cne y c e)⟩
   · obtain⟨e,n,ne,nf,d⟩:=I.pin p hp
     exact⟨(hs.2 p.1 ne).trans e,n,ne,nf,d⟩
 · have hfn:X.fn x=true:=by
    rcases hf with z |z
    · exact z
    · rw[z]at hk;cases hk
   obtain⟨c,hc⟩:=I.ok.has x (.inl hk)
   obtain⟨w',z⟩:=I.cell x c hc
   refine wpAny_storeName_cell I.ok.kind hk hc z (fun h' hc' hs=>?_)
   obtain⟨oc,hoc,hocd⟩:=id z
   refine h {s with heap:=h'} ⟨I.ok,I.os,I.bare,⟨fun b o e n hb hx=>?_,fun b o e n hb hx=>?_,I.base.free,fun b o e hx=>?_,I.base.pA,I.base.oh,I.base.pz⟩,⟨m,hn.sameBut hs (Ne.symm (cne x c hc)),fun j y v' e1 e2 e3=>?_⟩,fun y c' e=>?_,I.free,I.gV,fun p hp=>?_,tracked ⟨oc,hoc,I.gV x c hc⟩ hs,by simpa using I.len⟩ ⟨c,hs,.inr hc⟩
   · exact(hs.2 b (Nat.ne_of_lt (qd_ (Heap.lt_size e) (I.ok.cab x c hfn hc)))).trans (I.base.keep b o e n hb hx)
   · obtain⟨sl,e1⟩:=I.base.slot b o e n hb hx
     exact⟨sl,(hs.2 b (Nat.ne_of_lt (qd_ (Heap.lt_size e) (I.ok.cab x c hfn hc)))).trans e1⟩
   · obtain⟨o',e1⟩:=I.base.there b o e hx
     exact⟨o',(hs.2 b (Nat.ne_of_lt (qd_ (Heap.lt_size e) (I.ok.cab x c hfn hc)))).trans e1⟩
   · by_cases hj:j=i
     · subst hj
       rw[hi]at e1;cases e1
       rw[qU_ hiσ]at e2
       cases e2
       exact⟨u,r,.inr ⟨.inl hk,c,hc,hc'⟩⟩
     · rw[qV_ (Ne.symm hj)]at e2
       obtain⟨u',r',q⟩:=hl j y v' e1 e2 e3
       refine⟨u',r',?_⟩
       rcases q with q |⟨k,c',e,z'⟩
       · exact .inl q
       · refine .inr ⟨k,c',e,z'.sameBut hs ?_⟩
         rintro rfl
         exact hj (um hN e1 (I.ok.inj _ _ _ e hc ▸ hi))
   · by_cases hcc:c'=c
     · subst hcc;exact⟨_,hc'⟩
     · obtain⟨w2,z2⟩:=I.cell y c' e
       exact⟨w2,z2.sameBut hs hcc⟩
   · obtain⟨e,n,ne,nf,d⟩:=I.pin p hp
     refine⟨(hs.2 p.1 ?_).trans e,n,ne,nf,d⟩
     intro q
     rw[q,hoc]at e
     have q':oc=p.2:=Option.some.inj e
     exact d w' (by rw[<-q'];exact hocd)
theorem uq{M:Model}{A:Around}{E:Value->Shared->Prop}{i:Nat}{x:Str}{v:V}{u:Value}{Q:Unit->Shared->Prop}(I:Inv X pins σ H s)(hN:X.N.Nodup)(hi:X.N[i]? =some x)(hx:Loc X.env.scope x)(r:RelV v u)
 (h:∀s',Inv X pins (σ.set i (some v)) H s'->Q () s') (hf:X.fn x=true\/X.env.scope.names.lookup x=some .local:=by first |exact .inl rfl |exact .inr rfl |assumption):wpAny M A (storeName X.env x u) Q E s:=
 rR I hN hi hx r (fun s' I' _=>h s' I') hf
theorem Inv.Bb{s':Shared}{ch:List Addr}(I:Inv X pins σ H s)(ho:s'.os=s.os)(u:Un (frs X.stack) ch H H' s.heap s'.heap)(hok:HOk X.prog X.w H' s'.heap)(hg:AllBare s'.gens)
 (hch:∀b∈ch,(b∈X.ex\/X.s₀.heap.objs.size<=b)/\b≠X.env.locals/\(∀x c,X.env.cells.lookup x=some c->c≠b)/\∀p∈X.pn++pins,p.1≠b):Inv X pins σ H' s':=by
 obtain⟨h',g',d',t',o'⟩:=s'
 have e:o'=s.os:=ho
 subst e
 exact I.call (g':=g') (t':=t') (d':=d') u hok hg hch
end
abbrev XK:=Value->Option Addr->Hp->Prop
abbrev St:=List (Option V)
abbrev VK:=V->Hp->Prop
abbrev TE:=St->Hp->VK->Prop
abbrev TT:=St->Hp->(Bool->Hp->Prop)->Prop
abbrev TA:=St->Hp->(List V->Hp->Prop)->Prop
structure Ends where
 nx:St->Hp->Prop
 rt:VK
 bk:St->Hp->Prop:=fun _ _=>False
 ct:St->Hp->Prop:=fun _ _=>False
abbrev TS:=Ends->St->Hp->Prop
def EP(X:Cx)(pins:List (Addr×Obj))(σ:St)(Q:VK)(u:Value)(s':Shared):Prop:=∃v H',Inv X pins σ H' s'/\RelV v u/\Q v H'
def TP(X:Cx)(pins:List (Addr×Obj))(σ:St)(Q:Bool->Hp->Prop)(b:Bool)(s':Shared):Prop:=∃H',Inv X pins σ H' s'/\Q b H'
def AP(X:Cx)(pins:List (Addr×Obj))(σ:St)(Q:List V->Hp->Prop)(us:List Value)(s':Shared):Prop:=∃vs H',Inv X pins σ H' s'/\Vals vs us/\Q vs H'
def SP(X:Cx)(pins:List (Addr×Obj))(D:Ends)(f:Flow)(s':Shared):Prop:=
 match f with
 | .next=>∃σ' H',Inv X pins σ' H' s'/\D.nx σ' H'
 | .brk=>∃σ' H',Inv X pins σ' H' s'/\D.bk σ' H'
 | .cont=>∃σ' H',Inv X pins σ' H' s'/\D.ct σ' H'
 | .ret u=>∃v σ' H',Inv X pins σ' H' s'/\RelV v u/\D.rt v H'
def PE(X:Cx)(e:Expr)(t:TE):Prop:=
 ∀(pins:List (Addr×Obj)) (s:Shared) (σ:St) (H:Hp) (Q:VK),Inv X pins σ H s->t σ H Q->wpAny (model X.prog X.w) X.A (eval e X.env) (EP X pins σ Q) X.xe s
def PT(X:Cx)(e:Expr)(t:TT):Prop:=
 ∀(pins:List (Addr×Obj)) (s:Shared) (σ:St) (H:Hp) (Q:Bool->Hp->Prop),Inv X pins σ H s->t σ H Q->wpAny (model X.prog X.w) X.A (isTrue e X.env (eval e X.env)) (TP X pins σ Q) X.xe s
def PW(X:Cx)(e:Expr)(t:TT):Prop:=
 ∀(whole:Sem Value) (pins:List (Addr×Obj)) (s:Shared) (σ:St) (H:Hp) (Q:Bool->Hp->Prop),Inv X pins σ H s->t σ H Q->wpAny (model X.prog X.w) X.A (isTrue e X.env whole) (TP X pins σ Q) X.xe s
theorem PW.pt{X:Cx}{e:Expr}{t:TT}(h:PW X e t):PT X e t:=h _
def PA(X:Cx)(es:List Expr)(t:TA):Prop:=
 ∀(pos:Pos) (pins:List (Addr×Obj)) (s:Shared) (σ:St) (H:Hp) (Q:List V->Hp->Prop),Inv X pins σ H s->t σ H Q->wpAny (model X.prog X.w) X.A (spliced (backTo pos (starEach es X.env))) (AP X pins σ Q) X.xe s
def PS(X:Cx)(st:Stmt)(t:TS):Prop:=
 ∀(pins:List (Addr×Obj)) (s:Shared) (σ:St) (H:Hp) (D:Ends),Inv X pins σ H s->t D σ H->wpAny (model X.prog X.w) X.A (exec st X.env) (SP X pins D) X.xe s
def PSs(X:Cx)(st:List Stmt)(t:TS):Prop:=
 ∀(pins:List (Addr×Obj)) (s:Shared) (σ:St) (H:Hp) (D:Ends),Inv X pins σ H s->t D σ H->wpAny (model X.prog X.w) X.A (execs st X.env) (SP X pins D) X.xe s
theorem thn{α:Type}{t:Sem α}{Q Q':α->Shared->Prop}{M:Model}{A:Around}{E:Value->Shared->Prop}{s:Shared}(h:wpAny M A t Q E s)(hQ:∀a s,Q a s->Q' a s):wpAny M A t Q' E s:=wpAny_mono h hQ fun _ _ x=>x
section
variable{X:Cx}
def Hq(i:Nat):TE:=fun σ H Q=>∃v,σ[i]? =some (some v)/\Q v H
def tC(v:V):TE:=fun _ H Q=>Q v H
theorem EA{i:Nat}{x:Str}{pos:Pos}(hN:X.N[i]? =some x)(hv:Vis X.env.scope x)(hd:(x==("__debug__":Str))=false:=by decide)(hcd:(x==("__classdict__":Str))=false:=by decide):PE X (.Name x pos) (Hq i):=by
 intro pins s σ H Q I h
 obtain⟨v,e,h⟩:=h
 obtain⟨m,hn,hl⟩:=I.loc
 obtain⟨u,r,l⟩:=hl i x v hN e hv
 have fin:EP X pins σ Q u s:=⟨v,H,I,r,h⟩
 rcases l with ⟨hk,hm⟩ |⟨hk,c,hc,hcell⟩
 · exact wpAny_Name (wpAny_loadName_local I.ok.kind hk hn hm fin) hd
 · rcases hk with hk |hk
   · exact wpAny_Name (wpAny_loadName_cell I.ok.kind hk hc hcell fin) hd
   · exact wpAny_Name (wpAny_loadName_free I.ok.kind hk hc hcell fin hcd) hd
theorem Fb{i j pos}:PE X (.Constant (.int i) j pos) (tC (.int i)):=fun _ _ _ H _ I h=>wpAny_Constant_int ⟨.int i,H,I.tok _,⟨_,rfl⟩,h⟩
theorem Fz{b j pos}:PE X (.Constant (.bool b) j pos) (tC (.bl b)):=fun _ _ _ H _ I h=>Constant_bool ⟨.bl b,H,I,rfl,h⟩
theorem DZ{j pos}:PE X (.Constant .none j pos) (tC .non):=fun _ _ _ H _ I h=>Constant_none ⟨.non,H,I,rfl,h⟩
theorem Er{x j pos}:PE X (.Constant (.str x) j pos) (tC (.str x)):=fun _ _ _ H _ I h=>Calls.Constant_str ⟨.str x,H,I.tok _,⟨_,rfl⟩,h⟩
def Gl(X:Cx)(x:Str):Prop:=X.env.kindOf x=some .globalImplicit
theorem kQ{E:Value->Shared->Prop}{pins:List (Addr×Obj)}{s:Shared}{σ:St}{H:Hp}{x:Str}{u:Value}{pos:Pos}{Q:Value->Shared->Prop}(I:Inv X pins σ H s)(hg:Gl X x)(hm:X.mg x=some u)(h:Q u s)
 (hd:(x==("__debug__":Str))=false:=by decide):wpAny (model X.prog X.w) X.A (eval (.Name x pos) X.env) Q E s:=
 Calls.Name_function_global I.ok.kind hg (Calls.loadGlobal_global (by rw[I.ok.glob];exact I.mod.glob.keeps I.bk) hm h) hd
theorem mm{E:Value->Shared->Prop}{pins:List (Addr×Obj)}{s:Shared}{σ:St}{H:Hp}{x:Str}{u:Value}{pos:Pos}{Q:Value->Shared->Prop}(I:Inv X pins σ H s)(hg:Gl X x)(hm:X.mg x=none)(hv:bootBuiltins x=some u)(h:Q u s)
 (hn:x≠"__name__":=by decide) (hd:(x==("__debug__":Str))=false:=by decide):wpAny (model X.prog X.w) X.A (eval (.Name x pos) X.env) Q E s:=by
 obtain⟨mb,h1,h2⟩:=I.mod.blt
 exact Calls.Name_function_global I.ok.kind hg (Calls.loadGlobal_builtin (by rw[I.ok.glob];exact I.mod.glob.keeps I.bk) hm (by rw[I.ok.blt];exact h1.keeps I.bk) ((h2 x hn).trans hv) h) hd
theorem Bk{x:Str}{v:V}{u:Value}{pos:Pos}(hg:Gl X x)(hm:X.mg x=some u)(r:RelV v u)(hd:(x==("__debug__":Str))=false:=by decide):PE X (.Name x pos) (tC v):=
 fun _ _ _ H _ I h=>kQ I hg hm ⟨v,H,I,r,h⟩ hd
theorem sI{x:Str}{v:V}{u:Value}{pos:Pos}(hg:Gl X x)(hm:X.mg x=none)(hv:bootBuiltins x=some u)(r:RelV v u)(hn:x≠"__name__":=by decide)(hd:(x==("__debug__":Str))=false:=by decide):PE X (.Name x pos) (tC v):=
 fun _ _ _ H _ I h=>mm I hg hm hv ⟨v,H,I,r,h⟩ hn hd
variable{a b:Expr}{ta tb:TE}{pos:Pos}
def PC(X:Cx)(op:CmpOp)(a b:Expr)(t:TE):Prop:=
 ∀(pins:List (Addr×Obj)) (s:Shared) (σ:St) (H:Hp) (Q:VK),Inv X pins σ H s->t σ H Q->
  wpAny (model X.prog X.w) X.A (eval a X.env) (fun v s₁=>wpAny (model X.prog X.w) X.A (eval b X.env) (fun u s₂=>wpAny (model X.prog X.w) X.A (compareOp op v u) (EP X pins σ Q) X.xe s₂) X.xe s₁) X.xe s
theorem uF(b:Expr){op:CmpOp}(h:op≠.In)(h2:op≠.NotIn):behindInMarks op b=false:=by
 have e1:(op==CmpOp.In)=false:=by cases op <;> first |rfl |exact absurd rfl h
 have e2:(op==CmpOp.NotIn)=false:=by cases op <;> first |rfl |exact absurd rfl h2
 cases b <;> simp [behindInMarks,e1,e2]
def Hv(ta:TE):TE:=fun σ H Q=>ta σ H fun x H1=>Q (.bl (decide (x= .non))) H1
def Gi(ta:TE):TE:=fun σ H Q=>ta σ H fun x H1=>Q (.bl (!decide (x= .non))) H1
theorem RelV.uM{x:V}{v:Value}(r:RelV x v):(v==Value.none)=decide (x= .non):=by
 cases x with
 |non=>cases r;rfl
 |bl _=>cases r;rfl
 |int _=>obtain⟨t,rfl⟩:=r;rfl
 |str _=>obtain⟨t,rfl⟩:=r;rfl
 |byt _=>obtain⟨t,rfl⟩:=r;rfl
 |flt _=>obtain⟨t,rfl⟩:=r;rfl
 |ref _=>cases r;rfl
 |ty _=>cases r;rfl
theorem AU{j pos'}(ha:PE X a ta):PC X .Is a (.Constant .none j pos') (Hv ta):=by
 intro pins s σ H Q I h
 refine thn (ha pins s σ H _ I h) fun v s1 ⟨x,H1,I1,r1,q1⟩=>?_
 exact Constant_none (is_none_gen ⟨.bl _,H1,I1,by rw[r1.uM];rfl,q1⟩)
theorem Cy{j pos'}(ha:PE X a ta):PC X .IsNot a (.Constant .none j pos') (Gi ta):=by
 intro pins s σ H Q I h
 refine thn (ha pins s σ H _ I h) fun v s1 ⟨x,H1,I1,r1,q1⟩=>?_
 exact Constant_none (isnot_none_gen ⟨.bl _,H1,I1,by rw[r1.uM];rfl,q1⟩)
def tB(t:TE):TT:=fun σ H Q=>t σ H fun x H1=>∃c,x= .bl c/\Q c H1
theorem D2{op:CmpOp}{t:TE}(h:PC X op a b t)(h1:behindInMarks op b=false:=by first |exact uF _ (by decide) (by decide) |rfl):PE X (.Compare a [op] [b] pos) t:=fun pins s σ H Q I hw=>wpAny_Compare1 (h pins s σ H Q I hw) h1
theorem zH{op:CmpOp}{t:TE}(h:PC X op a b t)(h1:behindInMarks op b=false:=by first |exact uF _ (by decide) (by decide) |rfl):PT X (.Compare a [op] [b] pos) (tB t):=by
 intro pins s σ H Q I hw
 refine wpAny_isTrue_Compare1 (thn (h pins s σ H _ I hw) fun v s1 h1=>thn h1 fun u s2 h2=>thn h2 fun c s3 ⟨x,H1,I1,r1,q1⟩=>?_) h1
 obtain⟨d,rfl,q⟩:=q1
 cases r1
 exact wpAny_truthy_bool ⟨H1,I1,q⟩
variable{tA tB':TT}{rest:List Expr}
def tOr(t u:TT):TT:=fun σ H Q=>t σ H fun c H1=>if c=true then Q true H1 else u σ H1 Q
def gC(t:TT):TT:=fun σ H Q=>t σ H fun c H1=>Q (!c) H1
theorem Ei(ha:PT X a tA):PW X (.BoolOp .Or [a] pos) tA:=by
 intro wh pins s σ H Q I h
 refine isTrue_or (thn (ha pins s σ H Q I h) fun c s1 e=>?_)
 cases c with
 |false=>exact isTrue_or_nil e
 |true=>exact e
theorem FU(ha:PT X a tA)(hb:PW X (.BoolOp .Or (b :: rest) pos) tB'):PW X (.BoolOp .Or (a :: b :: rest) pos) (tOr tA tB'):=by
 intro wh pins s σ H Q I h
 refine isTrue_or (thn (ha pins s σ H _ I h) fun c s1 ⟨H1,I1,q1⟩=>?_)
 cases c with
 |true=>exact⟨H1,I1,q1⟩
 |false=>exact hb wh pins s1 σ H1 Q I1 q1
theorem DB(ha:PT X a tA):PT X (.UnaryOp .Not a pos) (gC tA):=by
 intro pins s σ H Q I h
 exact isTrue_not (ha pins s σ H (fun c H1=>Q (!c) H1) I h)
def FX(ta tb:TE):TE:=fun σ H Q=>ta σ H fun x H1=>∃c,x= .bl c/\if c=true then tb σ H1 Q else Q (.bl false) H1
def FC(ta:TE):TE:=fun σ H Q=>ta σ H fun x H1=>∃c,x= .bl c/\Q (.bl (!c)) H1
theorem En{op}{t:TE}(h:PE X a t):PE X (.BoolOp op [a] pos) t:=fun pins s σ H Q I hw=>BoolOp_one (h pins s σ H Q I hw)
theorem EY(ha:PE X a ta)(hb:PE X (.BoolOp .And (b :: rest) pos) tb):PE X (.BoolOp .And (a :: b :: rest) pos) (FX ta tb):=by
 intro pins s σ H Q I h
 refine BoolOp_and (thn (ha pins s σ H _ I h) fun v s1 ⟨x,H1,I1,r1,q1⟩=>?_)
 obtain⟨c,rfl,q1⟩:=q1
 cases r1
 refine wpAny_truthy_bool ?_
 cases c with
 |true=>exact hb pins s1 σ H1 Q I1 q1
 |false=>exact⟨.bl false,H1,I1,rfl,q1⟩
theorem Fw(ha:PE X a ta):PE X (.UnaryOp .Not a pos) (FC ta):=by
 intro pins s σ H Q I h
 refine UnaryOp_ (thn (ha pins s σ H _ I h) fun v s1 ⟨x,H1,I1,r1,q1⟩=>?_)
 obtain⟨c,rfl,q1⟩:=q1
 cases r1
 exact not_of (wpAny_truthy_bool ⟨.bl (!c),H1,I1,rfl,q1⟩)
def tIf(t:TT)(ta tb:TE):TE:=fun σ H Q=>t σ H fun c H1=>if c=true then ta σ H1 Q else tb σ H1 Q
theorem yT{c:Expr}(hc:PT X c tA)(ha:PE X a ta)(hb:PE X b tb):PE X (.IfExp c a b pos) (tIf tA ta tb):=by
 intro pins s σ H Q I h
 refine wpAny_IfExp (thn (hc pins s σ H _ I h) fun d s1 ⟨H1,I1,q1⟩=>?_)
 cases d with
 |true=>exact ha pins s1 σ H1 Q I1 q1
 |false=>exact hb pins s1 σ H1 Q I1 q1
end
def SqL(K:PySem.W.Frag)(H:Hp)(a:Addr)(xs:List V):Prop:=
 Rd H a (.lst xs)\/
  ∃(o:Obj) (its:Array Value) (n:Nat),K.lookup a=some o/\o.cls= .type "list"/\o.dict=none/\o.data= .seq its n/\its.size<=sizeLine/\Vals xs its.toList
def SqT(K:PySem.W.Frag)(H:Hp)(a:Addr)(xs:List V):Prop:=
 Rd H a (.tup xs)\/
  ∃(o:Obj) (its:Array Value) (n:Nat),K.lookup a=some o/\o.cls= .type "tuple"/\o.data= .seq its n/\its.size<=sizeLine/\Vals xs its.toList
def Hm:Value->Option V
 | .none=>some .non
 | .bool b=>some (.bl b)
 | .int i _=>some (.int i)
 | .str x _=>some (.str x)
 | .bytes b _=>some (.byt b)
 | .float b _=>some (.flt b)
 | .ref a=>some (.ref a)
 | .type n=>some (.ty n)
 |_=>none
theorem RelV.abs{x:V}{u:Value}(r:RelV x u):Hm u=some x:=by
 cases x with
 |non=>cases r;rfl
 |bl _=>cases r;rfl
 |int _=>obtain⟨t,rfl⟩:=r;rfl
 |str _=>obtain⟨t,rfl⟩:=r;rfl
 |byt _=>obtain⟨t,rfl⟩:=r;rfl
 |flt _=>obtain⟨t,rfl⟩:=r;rfl
 |ref _=>cases r;rfl
 |ty _=>cases r;rfl
theorem RelV.inj{x y:V}{u:Value}(r:RelV x u)(q:RelV y u):x=y:=Option.some.inj (r.abs.symm.trans q.abs)
theorem Vals.inj:∀{xs ys:List V} {us:List Value},Vals xs us->Vals ys us->xs=ys
 |_,_,_,.nil,.nil=>rfl
 |_,_,_,.cons r t,.cons r' t'=>by rw[r.inj r',Vals.inj t t']
section
variable{X:Cx}{pins:List (Addr×Obj)}{σ:St}{H:Hp}{s:Shared}{a:Addr}{xs ys:List V}
theorem SqL.of{K:PySem.W.Frag}(h:H a=some (.lst xs)):SqL K H a xs:= .inl (.inl h)
theorem SqT.of{K:PySem.W.Frag}(h:H a=some (.tup xs)):SqT K H a xs:= .inl (.inl h)
theorem Inv.list(I:Inv X pins σ H s)(h:SqL X.K H a xs):∃its:List Value,Vals xs its/\PlainL s.heap a its.toArray/\xs.length<=sizeLine:=by
 rcases h with h |⟨o,its,n,hk,hc,hd,hs,hz,r⟩
 · obtain⟨z,its,n,r,e⟩:=h.ok I.hok
   exact⟨its,r,⟨_,n,e,rfl,rfl,rfl⟩,z⟩
 · refine⟨its.toList,r,⟨o,n,I.kIn a o hk,hc,hd,by simpa using hs⟩,?_⟩
   have e:=r.length
   simp only[Array.length_toList]at e
   omega
theorem Inv.tuple(I:Inv X pins σ H s)(h:SqT X.K H a xs):∃its:List Value,Vals xs its/\IsTup s.heap a its.toArray/\xs.length<=sizeLine:=by
 rcases h with h |⟨o,its,n,hk,hc,hs,hz,r⟩
 · obtain⟨z,its,r,p⟩:=h.ok I.hok
   exact⟨its,r,p,z⟩
 · refine⟨its.toList,r,⟨o,I.kIn a o hk,hc,n,by simpa using hs⟩,?_⟩
   have e:=r.length
   simp only[Array.length_toList]at e
   omega
theorem Inv.kz(I:Inv X pins σ H s)(h:SqL X.K H a xs)(h':SqL X.K H a ys):xs=ys:=by
 obtain⟨its,r,⟨o,n,e,_,_,d⟩,_⟩:=I.list h
 obtain⟨its',r',⟨o',n',e',_,_,d'⟩,_⟩:=I.list h'
 rw[e]at e';cases e'
 rw[d]at d'
 injection d' with d1 _
 have:its=its':=by simpa using congrArg Array.toList d1
 subst this
 exact r.inj r'
theorem Inv.kP(I:Inv X pins σ H s)(h:SqT X.K H a xs)(h':SqT X.K H a ys):xs=ys:=by
 obtain⟨its,r,⟨o,e,_,n,d⟩,_⟩:=I.tuple h
 obtain⟨its',r',⟨o',e',_,n',d'⟩,_⟩:=I.tuple h'
 rw[e]at e';cases e'
 rw[d]at d'
 injection d' with d1 _
 have:its=its':=by simpa using congrArg Array.toList d1
 subst this
 exact r.inj r'
end
abbrev Cx.pX(X:Cx)(E:Value->Shared->Prop):Cx:={X with xe:=E}
abbrev Cx.nox(X:Cx):Cx:=X.pX fun _ _=>False
theorem Cx.Ok.pX{X:Cx}(ok:X.Ok)(E:Value->Shared->Prop):(X.pX E).Ok:=
 ⟨ok.mod,ok.kind,ok.glob,ok.blt,ok.above,ok.inj,ok.has,ok.cab,ok.hd,ok.frames,ok.stk,ok.exf,ok.bs,ok.bsz,ok.wL,ok.xU,ok.nI,ok.frf⟩
theorem Cx.Ok.iq{X:Cx}{E:Value->Shared->Prop}(ok:(X.pX E).Ok):X.Ok:=
 ⟨ok.mod,ok.kind,ok.glob,ok.blt,ok.above,ok.inj,ok.has,ok.cab,ok.hd,ok.frames,ok.stk,ok.exf,ok.bs,ok.bsz,ok.wL,ok.xU,ok.nI,ok.frf⟩
section
variable{X:Cx}{pins:List (Addr×Obj)}{σ:St}{H:Hp}{s:Shared}{E:Value->Shared->Prop}
theorem Inv.pX(I:Inv X pins σ H s)(E:Value->Shared->Prop):Inv (X.pX E) pins σ H s:=⟨I.ok.pX E,I.os,I.bare,I.base,I.loc,I.cell,I.free,I.gV,I.pin,I.hok,I.len⟩
theorem Inv.iq(I:Inv (X.pX E) pins σ H s):Inv X pins σ H s:=⟨I.ok.iq,I.os,I.bare,I.base,I.loc,I.cell,I.free,I.gV,I.pin,I.hok,I.len⟩
theorem SP.iq{D:Ends}{f:Flow}{s':Shared}(h:SP (X.pX E) pins D f s'):SP X pins D f s':=by
 cases f with
 |next=>obtain⟨σ',H',I,q⟩:=h;exact⟨σ',H',I.iq,q⟩
 |brk=>obtain⟨σ',H',I,q⟩:=h;exact⟨σ',H',I.iq,q⟩
 |cont=>obtain⟨σ',H',I,q⟩:=h;exact⟨σ',H',I.iq,q⟩
 |ret u=>obtain⟨v,σ',H',I,r,q⟩:=h;exact⟨v,σ',H',I.iq,r,q⟩
theorem PSs.nox{st:List Stmt}{t:TS}(h:PSs X.nox st t):PSs X st t:=fun pins s σ H D I hw=>
 wpAny_mono (h pins s σ H D (I.pX _) hw) (fun _ _ q=>q.iq) fun _ _ z=>False.elim z
end
section
variable{X:Cx}{st:Stmt}{rest:List Stmt}{t u:TS}{e:Expr}{te:TE}{pos:Pos}
def FJ:TS:=fun D σ H=>D.nx σ H
def HK(t u:TS):TS:=fun D σ H=>t {D with nx:=u D} σ H
theorem BU:PSs X [] FJ:=fun _ _ σ H _ I h=>wpAny_execs_nil ⟨σ,H,I,h⟩
theorem zo(h1:PS X st t)(h2:PSs X rest u):PSs X (st :: rest) (HK t u):=by
 intro pins s σ H D I h
 refine wpAny_execs_cons (thn (h1 pins s σ H {D with nx:=u D} I h) fun f s1 q=>?_)
 cases f with
 |next=>
  obtain⟨σ',H',I',q⟩:=q
  exact h2 pins s1 σ' H' D I' q
 |ret v=>exact q
 |brk=>exact q
 |cont=>exact q
theorem BL(h1:PS X st t):PSs X [st] t:=by
 intro pins s σ H D I h
 refine wpAny_execs_cons (thn (h1 pins s σ H D I h) fun f s1 q=>?_)
 cases f with
 |next=>exact wpAny_execs_nil q
 |ret v=>exact q
 |brk=>exact q
 |cont=>exact q
theorem Inv.quiet{pins:List (Addr×Obj)}{σ:St}{H:Hp}{s:Shared}(I:Inv X pins σ H s):interactive X.env=false:=by simp [interactive,I.ok.kind]
def GO(te:TE):TS:=fun D σ H=>te σ H fun _ H1=>D.nx σ H1
theorem BN(he:PE X e te)(hs:swapsWith e none pos.line X.env=pure false:=by rfl):PS X (.Expr e pos) (GO te):=by
 intro pins s σ H D I h
 exact wpAny_Expr_any (thn (he pins s σ H _ I h) fun v s1 ⟨x,H1,I1,r1,q1⟩=>⟨σ,H1,I1,q1⟩) I.quiet hs
def Hf(te:TE):TS:=fun D σ H=>te σ H D.rt
theorem E5(he:PE X e te):PS X (.Return (some e) pos) (Hf te):=by
 intro pins s σ H D I h
 exact wpAny_Return_some (thn (he pins s σ H _ I h) fun v s1 ⟨x,H1,I1,r1,q1⟩=>⟨x,σ,H1,I1,r1,q1⟩)
def Hx(c:TT)(t u:TS):TS:=fun D σ H=>c σ H fun b H1=>if b=true then t D σ H1 else u D σ H1
theorem Ge{c:Expr}{a b:List Stmt}{tc:TT}(hc:PT X c tc)(ha:PSs X a t)(hb:PSs X b u):PS X (.If c a b pos) (Hx tc t u):=by
 intro pins s σ H D I h
 refine wpAny_If (thn (hc pins s σ H _ I h) fun d s1 ⟨H1,I1,q1⟩=>?_)
 cases d with
 |true=>exact ha pins s1 σ H1 D I1 q1
 |false=>exact hb pins s1 σ H1 D I1 q1
end
abbrev TG:=V->St->Hp->(St->Hp->Prop)->Prop
abbrev TGs:=List V->St->Hp->(St->Hp->Prop)->Prop
def PG(X:Cx)(target:Expr)(t:TG):Prop:=
 ∀(pins:List (Addr×Obj)) (s:Shared) (σ:St) (H:Hp) (v:V) (u:Value) (Q:St->Hp->Prop),Inv X pins σ H s->RelV v u->t v σ H Q->
  wpAny (model X.prog X.w) X.A (assign target X.env u) (fun _ s'=>∃σ' H',Inv X pins σ' H' s'/\Q σ' H') X.xe s
def PGs(X:Cx)(ts:List Expr)(t:TGs):Prop:=
 ∀(pins:List (Addr×Obj)) (s:Shared) (σ:St) (H:Hp) (vs:List V) (us:List Value) (Q:St->Hp->Prop),Inv X pins σ H s->Vals vs us->t vs σ H Q->
  wpAny (model X.prog X.w) X.A (assignInOrder ((assignEach ts X.env).map (·.2)) us) (fun _ s'=>∃σ' H',Inv X pins σ' H' s'/\Q σ' H') X.xe s
abbrev Bl:=V->V->V->Hp->(Hp->Prop)->Prop
def uj(X:Cx)(t:Bl):Prop:=
 ∀(pins:List (Addr×Obj)) (s:Shared) (σ:St) (H:Hp) (o i v:V) (ov iv u:Value) (Q:Hp->Prop),Inv X pins σ H s->RelV o ov->RelV i iv->RelV v u->t o i v H Q->
  wpAny (model X.prog X.w) X.A (setItem ov iv u) (fun _ s'=>∃H',Inv X pins σ H' s'/\Q H') X.xe s
section
variable{X:Cx}{pos:Pos}
def Dc(i:Nat):TG:=fun v σ H Q=>Q (σ.set i (some v)) H
theorem sh{i:Nat}{x:Str}(hN:X.N.Nodup)(hi:X.N[i]? =some x)(hx:Loc X.env.scope x)(hf:X.fn x=true\/X.env.scope.names.lookup x=some .local:=by first |exact .inl rfl |exact .inr rfl |assumption):PG X (.Name x pos) (Dc i):=by
 intro pins s σ H v u Q I r h
 exact wpAny_assign_Name (uq I hN hi hx r (fun s' I'=>⟨_,H,I',h⟩) hf)
def Hb:TGs:=fun vs σ H Q=>vs=[]/\Q σ H
def Gq(t:TG)(u:TGs):TGs:=fun vs σ H Q=>∃v r,vs=v :: r/\t v σ H fun σ' H'=>u r σ' H' Q
theorem B5:PGs X [] Hb:=by
 intro pins s σ H vs us Q I r h
 obtain⟨e,h⟩:=h
 subst e
 cases r
 exact assignInOrder_nil ⟨σ,H,I,h⟩
theorem zW{e:Expr}{es:List Expr}{t:TG}{u:TGs}(h1:PG X e t)(h2:PGs X es u)
 (hs:(assignEach (e :: es) X.env).map (·.2)=assign e X.env :: (assignEach es X.env).map (·.2):=by rfl):PGs X (e :: es) (Gq t u):=by
 intro pins s σ H vs us Q I r h
 obtain⟨v,vr,e1,h⟩:=h
 subst e1
 cases r with
 |cons r rr=>
  rw[hs]
  refine assignInOrder_cons (thn (h1 pins s σ H _ _ _ I r h) fun _ s1 ⟨σ1,H1,I1,q1⟩=>?_)
  exact h2 pins s1 σ1 H1 _ _ Q I1 rr q1
def Hg(K:PySem.W.Frag)(n:Nat)(t:TGs):TG:=fun v σ H Q=>∃a xs,v= .ref a/\SqT K H a xs/\xs.length=n/\t xs σ H Q
theorem Dz{es:List Expr}{k:Nat}{t:TGs}{n:Nat}(hc:X.calm=true)(h:PGs X es t)
 (hn:(assignEach es X.env).length=n:=by rfl) (hst:(assignEach es X.env).findIdx? (·.1)=none:=by rfl):PG X (.Tuple es k pos) (Hg X.K n t):=by
 intro pins s σ H v u Q I r hw
 obtain⟨a,xs,e1,hq,hl,hw⟩:=hw
 subst e1
 cases r
 obtain⟨its,rv,ht,hz⟩:=I.tuple hq
 refine assign_Tuple_tuple (I.ok.hd hc) ht (by simp [hn,<-hl,rv.length]) hst fun h' hx=>?_
 have I1:Inv X pins σ H {s with heap:=h'}:=I.kept (t':=s.toks) fun b o e=>hx b o (Nat.ne_of_lt (Heap.lt_size e)) e
 exact h pins _ σ H xs _ Q I1 (by simpa using rv) hw
def He(to ti:TE)(t:Bl):TG:=fun v σ H Q=>to σ H fun o H1=>ti σ H1 fun i H2=>t o i v H2 fun H3=>Q σ H3
theorem DQ{o i:Expr}{to ti:TE}{t:Bl}(ho:PE X o to)(hi:PE X i ti)(hs:uj X t)
 (ha:∀v,assign (.Subscript o i pos) X.env v=(do
   let ov <-holding [v] (eval o X.env)
   let iv <-holding [v,ov] (eval i X.env)
   standAt pos
   holding [v,ov,iv] (setItem ov iv v)
   release [v,ov,iv] []):=by intro _;rfl):PG X (.Subscript o i pos) (He to ti t):=by
 intro pins s σ H v u Q I r h
 rw[ha]
 refine wpAny_bind (wpAny_holding (thn (ho pins s σ H _ I h) fun ov s1 ⟨x,H1,I1,r1,q1⟩=>?_))
 refine wpAny_bind (wpAny_holding (thn (hi pins s1 σ H1 _ I1 q1) fun iv s2 ⟨y,H2,I2,r2,q2⟩=>?_))
 refine wpAny_bind (wpAny_standAt (wpAny_bind (wpAny_holding (thn (hs pins s2 σ H2 x y v ov iv u _ I2 r1 r2 r q2) fun _ s3 ⟨H3,I3,q3⟩=>?_))))
 exact wpAny_release ⟨σ,H3,I3,q3⟩
def Ga(te:TE)(g:TG):TS:=fun D σ H=>te σ H fun x H1=>g x σ H1 D.nx
theorem Fg{tg e:Expr}{te:TE}{g:TG}(he:PE X e te)(hg:PG X tg g)(hs:swapsWithSole [tg] e pos.line X.env=pure false:=by rfl)(hw:swappedStores [tg] e X.env=pure none:=by rfl)
 (h1:(assignEach [tg] X.env).map (·.2)=[assign tg X.env]:=by rfl):PS X (.Assign [tg] e pos) (Ga te g):=by
 intro pins s σ H D I h
 refine wpAny_Assign_stores (thn (he pins s σ H _ I h) fun v s1 ⟨x,H1,I1,r1,q1⟩=>?_) hs hw
 rw[h1]
 exact thn (hg pins s1 σ H1 x v _ I1 r1 q1) fun _ s2 q=>q
theorem Ed{i:Nat}{x:Str}{e:Expr}{te:TE}{pos':Pos}(hN:X.N.Nodup)(hi:X.N[i]? =some x)(hx:Loc X.env.scope x)(he:PE X e te)(hs:swapsWith e (some (.Name x pos')) pos.line X.env=pure false:=by rfl)(hf:X.fn x=true\/X.env.scope.names.lookup x=some .local:=by first |exact .inl rfl |exact .inr rfl |assumption):
 PS X (.Assign [.Name x pos'] e pos) (Ga te (Dc i)):=by
 intro pins s σ H D I h
 refine wpAny_Assign_Name (thn (he pins s σ H _ I h) fun v s1 ⟨y,H1,I1,r1,q1⟩=>?_) hs
 exact uq I1 hN hi hx r1 (fun s2 I2=>⟨_,H1,I2,q1⟩) hf
def E9(c:TT)(tb:TS):TS:=fun D σ H=>∃W:Nat->St->Hp->Prop,(∃m,W m σ H)/\∀m σ H,W m σ H->
 c σ H fun b H1=>if b=true then ∃N:St->Hp->Prop,(∀σ' H',N σ' H'->∃m',m' < m/\W m' σ' H')/\tb {D with nx:=N,ct:=N,bk:=D.nx} σ H1 else D.nx σ H1
theorem AF{c:Expr}{body:List Stmt}{tc:TT}{tb:TS}(hp:PassesOwn (model X.prog X.w) X.A X.env X.xe)(hc:PT X c tc)(hb:PSs X body tb):PS X (.While c body [] pos) (E9 tc tb):=by
 intro pins s σ H D I h
 obtain⟨W,⟨m0,w0⟩,turn⟩:=h
 refine wpAny_While (codeAny_whileLoop (fun n s'=>∃σ' H',Inv X pins σ' H' s'/\W n σ' H') ?_ m0 ⟨σ,H,I,w0⟩)
 rintro n s1 ⟨σ1,H1,I1,w1⟩
 refine wpAny_passesOwn hp (thn (hc pins s1 σ1 H1 _ I1 (turn n σ1 H1 w1)) fun b s2 ⟨H2,I2,q2⟩=>?_)
 cases b with
 |true=>
  obtain⟨N,hN,q2⟩:=q2
  rw[if_pos rfl]
  refine wpAny_passesOwn hp (thn (hb pins s2 σ1 H2 _ I2 q2) fun f s3 q3=>?_)
  cases f with
  |next=>
   obtain⟨σ3,H3,I3,n3⟩:=q3
   obtain⟨m',hm,w3⟩:=hN σ3 H3 n3
   exact⟨m',hm,σ3,H3,I3,w3⟩
  |cont=>
   obtain⟨σ3,H3,I3,n3⟩:=q3
   obtain⟨m',hm,w3⟩:=hN σ3 H3 n3
   exact⟨m',hm,σ3,H3,I3,w3⟩
  |brk=>exact q3
  |ret v=>exact q3
 |false=>
  rw[if_neg qC_]
  exact wpAny_execs_nil ⟨σ1,H2,I2,q2⟩
end
structure It where
 go:Nat->Hp->Prop
 yld:Nat->Hp->V->Hp->Prop
 stop:Nat->Hp->Prop
def oj(X:Cx)(pins:List (Addr×Obj))(H:Hp)(b:Addr):Prop:=
 H b=none/\b≠X.env.locals/\b∉X.fs/\(b∈X.ex\/X.s₀.heap.objs.size<=b)/\(∀x c,X.env.cells.lookup x=some c->c≠b)/\∀p∈X.pn++pins,p.1≠b
theorem Inv.A1{X:Cx}{pins:List (Addr×Obj)}{σ:St}{H H':Hp}{s:Shared}{b:Addr}(I:Inv X pins σ H s)(hb:s.heap.objs.size<=b)(hn:H' b=none):oj X pins H' b:=by
 refine⟨hn,Nat.ne_of_gt (qd_ I.lt hb),I.Hr hb,.inr (Nat.le_trans I.sz hb),fun x c e z=>?_,fun p hp z=>?_⟩
 · obtain⟨v,q⟩:=I.cell x c e
   exact absurd (qd_ q.lt (by rw[z];exact hb)) (qe_ _)
 · exact absurd (qd_ (Heap.lt_size (I.pin p hp).1) (by rw[z];exact hb)) (qe_ _)
structure Turn (P:Program) (w:World) (K:PySem.W.Frag) (tg:Expr) (J:It) (fp:List Addr) (it:Addr) (tn:Nat->Heap->Prop):Prop where
 mem:it∈fp
 obj:∀i h,tn i h->∀b∈fp,∃o,h.get? b=some o/\∀v,o.data≠.cell v
 keep:∀i h h',tn i h->(∀b∈fp,∀o,h.get? b=some o->h'.get? b=some o)->tn i h'
 item:∀(X:Cx),X.prog=P->X.w=w->X.K=K->X.calm=true->∀(i:Nat) (pins:List (Addr×Obj)) (s:Shared) (σ:St) (H:Hp) (E:Value->Shared->Prop),Inv X pins σ H s->(∀b∈fp,oj X pins H b)->tn i s.heap->J.go i H->
  wpAny (model P w) X.A (pyNext (.ref it)) (fun r s1=>∃u,r=some u/\
   wpAny (model P w) X.A (letOwnedTupleGo tg (.ref it) u) (fun _ s2=>∃x H',Inv X pins σ H' s2/\RelV x u/\J.yld i H x H'/\tn (i+1) s2.heap/\∀b∈fp,H' b=none) E s1) E s
 done:∀(X:Cx),X.prog=P->X.w=w->X.K=K->X.calm=true->∀(i:Nat) (pins:List (Addr×Obj)) (s:Shared) (σ:St) (H:Hp) (E:Value->Shared->Prop),Inv X pins σ H s->(∀b∈fp,oj X pins H b)->tn i s.heap->J.stop i H->
  wpAny (model P w) X.A (pyNext (.ref it)) (fun r s1=>r=none/\Inv X pins σ H s1) E s
 self:∀(A:Around) (i:Nat) (s:Shared) (Q:Value->Shared->Prop) (E:Value->Shared->Prop),tn i s.heap->Q (.ref it) s->wpAny (model P w) A (pyIter (.ref it)) Q E s
abbrev TI:=St->Hp->(It->Hp->Prop)->Prop
def PIE(X:Cx)(pins:List (Addr×Obj))(σ:St)(tg:Expr)(R:It->Hp->Prop)(itv:Value)(s2:Shared):Prop:=
 ∃(it:Addr) (fp:List Addr) (tn:Nat->Heap->Prop) (J:It) (H':Hp),itv= .ref it/\Inv X pins σ H' s2/\Turn X.prog X.w X.K tg J fp it tn/\tn 0 s2.heap/\(∀b∈fp,oj X pins H' b)/\R J H'
def PI(X:Cx)(tg iter:Expr)(wi:TI):Prop:=
 ∀(pins:List (Addr×Obj)) (s:Shared) (σ:St) (H:Hp) (R:It->Hp->Prop),Inv X pins σ H s->wi σ H R->
  wpAny (model X.prog X.w) X.A (eval iter X.env) (fun v s1=>wpAny (model X.prog X.w) X.A (pyIter v) (PIE X pins σ tg R) X.xe s1) X.xe s
theorem y9{M:Model}{A:Around}{E:Value->Shared->Prop}{s:Shared}{tg:Expr}{it:Addr}{u:Value}{o:Obj}{n:String}{vs:Array Value}{Q:Unit->Shared->Prop}(ho:s.heap.get? it=some o)(hc:o.cls= .type n)(hd:o.data= .fields vs)
 (hn:["enumerate","zip","dict_itemiterator","dict_reverseitemiterator","odict_iterator","itertools.zip_longest","itertools.pairwise"].contains n=false) (hQ:Q () s):wpAny M A (letOwnedTupleGo tg (.ref it) u) Q E s:=by
 unfold letOwnedTupleGo
 cases tg <;> first
  |exact wpAny_pure hQ
  |(cases u <;> first
     |exact wpAny_pure hQ
     |(refine wpAny_bind (wpAny_load ho ?_)
       rw[hc,hd]
       show wpAny M A (if (["enumerate","zip","dict_itemiterator","dict_reverseitemiterator","odict_iterator","itertools.zip_longest","itertools.pairwise"].contains n&&vs[0]? ==some (rawInt _))=true then _ else _) Q E s
       rw[if_neg (by intro h;rw[hn,Bool.false_and]at h;cases h)]
       exact wpAny_pure hQ))
def Itl(K:PySem.W.Frag)(a:Addr):It:=
 ⟨fun i H=>∃xs x,SqL K H a xs/\xs[i]? =some x,fun i H x H'=>H'=H/\∀xs,SqL K H a xs->xs[i]? =some x,fun i H=>∃xs,SqL K H a xs/\xs.length<=i⟩
def Itt(K:PySem.W.Frag)(a:Addr):It:=
 ⟨fun i H=>∃xs x,SqT K H a xs/\xs[i]? =some x,fun i H x H'=>H'=H/\∀xs,SqT K H a xs->xs[i]? =some x,fun i H=>∃xs,SqT K H a xs/\xs.length<=i⟩
def Itr(lo:Int)(n:Nat):It:=⟨fun i _=>i < n,fun i H x H'=>H'=H/\x= .int (lo+i),fun i _=>n<=i⟩
theorem yy{P:Program}{w:World}{K:PySem.W.Frag}{tg:Expr}(a it:Addr):Turn P w K tg (Itl K a) [it] it (fun i h=>h.IsListIter it a i) where
 mem:=by simp
 obj:=fun i h st b hb=>by
  have e:b=it:=by simpa using hb
  subst e
  obtain⟨o,e,c,d⟩:=st
  exact⟨o,e,fun v z=>by rw[d]at z;cases z⟩
 keep:=fun i h h' st k=>st.at fun o e=>k it (by simp) o e
 item:=by
  intro X hP hw hK hc i pins s σ H E I hf st hg
  subst hP hw hK
  obtain⟨xs,x,hq,hx⟩:=hg
  obtain⟨its,rv,p,hz⟩:=I.list hq
  obtain⟨u,hu,ru⟩:=rv.get hx
  obtain⟨f0,f1,f2,f3,f4,f5⟩:=hf it (by simp)
  refine wpAny_pyNext_list_item st p.isList (x:=u) (by simpa using hu) fun h' st' sb=>?_
  have I1:Inv X pins σ H {s with heap:=h'}:=I.turned (t':=s.toks) (fun b o hb e=>(sb.2 b hb).trans e) f0 f1 f3 f4 f5
  obtain⟨o,e,c,d⟩:=id st'
  exact⟨u,rfl,y9 (s:={s with heap:=h'}) e c d (by decide) ⟨x,H,I1,ru,⟨rfl,fun ys hy=>by rw[I.kz hy hq];exact hx⟩,st',fun b hb=>(hf b hb).1⟩⟩
 done:=by
  intro X hP hw hK hc i pins s σ H E I hf st hg
  subst hP hw hK
  obtain⟨xs,hq,hx⟩:=hg
  obtain⟨its,rv,p,hz⟩:=I.list hq
  obtain⟨f0,f1,f2,f3,f4,f5⟩:=hf it (by simp)
  have hl:=rv.length
  exact wpAny_pyNext_list_end (I.ok.hd hc) st p.isList (by simp;omega) fun h' eb=>⟨rfl,I.turned (t':=s.toks) (fun b o hb e=>eb b o hb e) f0 f1 f3 f4 f5⟩
 self:=fun _ _ _ _ _ st h=>wpAny_pyIter_listiter st h
theorem wR{P:Program}{w:World}{K:PySem.W.Frag}{tg:Expr}(a it:Addr):Turn P w K tg (Itt K a) [it] it (fun i h=>h.IsTupleIter it a i) where
 mem:=by simp
 obj:=fun i h st b hb=>by
  have e:b=it:=by simpa using hb
  subst e
  obtain⟨o,e,c,d⟩:=st
  exact⟨o,e,fun v z=>by rw[d]at z;cases z⟩
 keep:=fun i h h' st k=>st.at fun o e=>k it (by simp) o e
 item:=by
  intro X hP hw hK hc i pins s σ H E I hf st hg
  subst hP hw hK
  obtain⟨xs,x,hq,hx⟩:=hg
  obtain⟨its,rv,p,hz⟩:=I.tuple hq
  obtain⟨u,hu,ru⟩:=rv.get hx
  obtain⟨f0,f1,f2,f3,f4,f5⟩:=hf it (by simp)
  refine wpAny_pyNext_tuple_item st (show s.heap.IsTuple a its.toArray from p) (x:=u) (by simpa using hu) fun h' st' sb=>?_
  have I1:Inv X pins σ H {s with heap:=h'}:=I.turned (t':=s.toks) (fun b o hb e=>(sb.2 b hb).trans e) f0 f1 f3 f4 f5
  obtain⟨o,e,c,d⟩:=id st'
  exact⟨u,rfl,y9 (s:={s with heap:=h'}) e c d (by decide) ⟨x,H,I1,ru,⟨rfl,fun ys hy=>by rw[I.kP hy hq];exact hx⟩,st',fun b hb=>(hf b hb).1⟩⟩
 done:=by
  intro X hP hw hK hc i pins s σ H E I hf st hg
  subst hP hw hK
  obtain⟨xs,hq,hx⟩:=hg
  obtain⟨its,rv,p,hz⟩:=I.tuple hq
  obtain⟨f0,f1,f2,f3,f4,f5⟩:=hf it (by simp)
  have hl:=rv.length
  exact wpAny_pyNext_tuple_end (I.ok.hd hc) st (show s.heap.IsTuple a its.toArray from p) (by simp;omega) fun h' eb=>⟨rfl,I.turned (t':=s.toks) (fun b o hb e=>eb b o hb e) f0 f1 f3 f4 f5⟩
 self:=fun _ _ _ _ _ st h=>wpAny_pyIter_tupleiter st h
theorem vL{P:Program}{w:World}{K:PySem.W.Frag}{tg:Expr}(it:Addr)(lo:Int)(n:Nat):Turn P w K tg (Itr lo n) [it] it (fun i h=>IsRangeIter h it (lo+(i:Nat)*1) ((n:Int) - (i:Nat)) 1) where
 mem:=by simp
 obj:=fun i h st b hb=>by
  have e:b=it:=by simpa using hb
  subst e
  exact⟨_,st,fun v z=>by
   have z':Data.fields _=Data.cell v:=z
   cases z'⟩
 keep:=fun i h h' st k=>k it (by simp) _ st
 item:=by
  intro X hP hw hK hc i pins s σ H E I hf st hg
  subst hP hw hK
  obtain⟨f0,f1,f2,f3,f4,f5⟩:=hf it (by simp)
  have W:=Walks.range (prog:=X.prog) (w:=X.w) (I.ok.hd hc) it lo 1 n
  refine W.item i s _ _ hg st fun v h' tk hv st' kk=>?_
  obtain⟨t,rfl⟩:=hv
  have I1:Inv X pins σ H {s with heap:=h',toks:=tk}:=I.turned (fun b o hb e=>kk b o (by simpa using hb) e) f0 f1 f3 f4 f5
  refine⟨_,rfl,y9 (s:={s with heap:=h',toks:=tk}) (n:="range_iterator") st' rfl rfl (by decide) ⟨.int (lo+i),H,I1,⟨t,?_⟩,⟨rfl,rfl⟩,st',fun b hb=>(hf b hb).1⟩⟩
  rw[Int.mul_one]
 done:=by
  intro X hP hw hK hc i pins s σ H E I hf st hg
  subst hP hw hK
  obtain⟨f0,f1,f2,f3,f4,f5⟩:=hf it (by simp)
  exact wpAny_pyNext_range_end (I.ok.hd hc) st (by have:n<=i:=hg;omega) fun h' eb=>⟨rfl,I.turned (t':=s.toks) (fun b o hb e=>eb b o hb e) f0 f1 f3 f4 f5⟩
 self:=fun _ _ _ _ _ st h=>wpAny_pyIter_rangeiter st h
section
variable{X:Cx}{tg:Expr}
theorem vn{pins:List (Addr×Obj)}{σ:St}{H:Hp}{s:Shared}{R:It->Hp->Prop}{E:Value->Shared->Prop}{lo hi:Int}{t u v:Tok}{tk:Nat}(I:Inv X pins σ H s)(h1:-(2 ^ 62)<=lo)(h2:lo < 2 ^ 62)(h3:-(2 ^ 62)<=hi)(h4:hi < 2 ^ 62)
 (q:R (Itr lo (hi - lo).toNat) H):wpAny (model X.prog X.w) X.A (pyIter (.ref s.heap.objs.size)) (PIE X pins σ tg R) E {s with heap:=s.heap.push {cls:= .type "range",data:= .fields #[.int lo t,.int hi u,.int 1 v]},toks:=tk}:=by
 refine wpAny_pyIter_range (IsRange.new ..) (small_one h1 h2 h3 h4) ?_
 have I1:Inv X pins σ H {s with heap:=s.heap.push {cls:= .type "range",data:= .fields #[.int lo t,.int hi u,.int 1 v]},toks:=tk}:=I.kept fun b o e=>Heap.get?_push_of_some _ e
 refine⟨(s.heap.push {cls:= .type "range",data:= .fields #[.int lo t,.int hi u,.int 1 v]}).objs.size,[(s.heap.push {cls:= .type "range",data:= .fields #[.int lo t,.int hi u,.int 1 v]}).objs.size],_,_,H,rfl,
  I1.kept (t':=tk) fun b o e=>Heap.get?_push_of_some _ e,vL _ lo (hi - lo).toNat,?_,fun b hb=>?_,q⟩
 · have e1:lo+((0:Nat):Int)*1=lo:=by simp
   have e2:(((hi - lo).toNat:Nat):Int) - ((0:Nat):Int)=Builtin.Range.rangeSize lo hi 1:=by rw[rangeSize_one];split <;> omega
   show IsRangeIter _ _ (lo+((0:Nat):Int)*1) ((((hi - lo).toNat:Nat):Int) - ((0:Nat):Int)) 1
   rw[e1,e2]
   exact Heap.get?_push_size _ rfl
 · have e:b=(s.heap.push {cls:= .type "range",data:= .fields #[.int lo t,.int hi u,.int 1 v]}).objs.size:=by simpa using hb
   subst e
   exact I1.A1 (qO_ _) (I1.hok.fresh (qO_ _))
def kb(ta:TA):TI:=fun σ H R=>ta σ H fun vs H1=>∃j:Int,vs=[.int j]/\-(2 ^ 62)<=j/\j < 2 ^ 62/\R (Itr 0 j.toNat) H1
def vD(ta:TA):TI:=fun σ H R=>ta σ H fun vs H1=>∃i j:Int,vs=[.int i,.int j]/\(-(2 ^ 62)<=i/\i < 2 ^ 62/\-(2 ^ 62)<=j/\j < 2 ^ 62)/\R (Itr i (j - i).toNat) H1
theorem yF{a:Expr}{ta:TA}{p pos:Pos}(hg:Gl X "range")(hm:X.mg "range"=none)(ha:PA X [a] ta)(hs:starEach [a] X.env=[(false,eval a X.env)]:=by rfl):PI X tg (.Call (.Name "range" p) [a] [] pos) (kb ta):=by
 intro pins s σ H R I h
 refine Call_ (mm I hg hm boot_range (PyProof.Rows.callWith_type1 (thn (ha pos pins s σ H _ I h) fun us s1 ⟨vs,H1,I1,r1,q1⟩=>?_) hs rfl))
 obtain⟨j,e,q1,q2,q⟩:=q1
 subst e
 cases r1 with
 |cons r rr=>
  cases rr
  obtain⟨t,rfl⟩:=r
  exact call_range_1 (vn I1 (by omega) (by omega) q1 q2 (by simpa using q))
theorem yH{a b:Expr}{ta:TA}{p pos:Pos}(hg:Gl X "range")(hm:X.mg "range"=none)(ha:PA X [a,b] ta)(hs:starEach [a,b] X.env=[(false,eval a X.env),(false,eval b X.env)]:=by rfl)(hs2:starEach [b] X.env=[(false,eval b X.env)]:=by rfl):
 PI X tg (.Call (.Name "range" p) [a,b] [] pos) (vD ta):=by
 intro pins s σ H R I h
 refine Call_ (mm I hg hm boot_range (PyProof.Rows.callWith_type1 (thn (ha pos pins s σ H _ I h) fun us s1 ⟨vs,H1,I1,r1,q1⟩=>?_) (by rw[hs,hs2]) (by rw[hs2];rfl)))
 obtain⟨i,j,e,⟨q1,q2,q3,q4⟩,q⟩:=q1
 subst e
 cases r1 with
 |cons r rr=>
  cases rr with
  |cons r' rr=>
   cases rr
   obtain⟨t,rfl⟩:=r
   obtain⟨t',rfl⟩:=r'
   exact call_range_2 (vn I1 q1 q2 q3 q4 q)
def HJ(wi:TI)(g:TG)(tb:TS):TS:=fun D σ H=>wi σ H fun J H1=>∃W:Nat->Nat->St->Hp->Prop,(∃m,W 0 m σ H1)/\∀i m σ H,W i m σ H->
 (J.stop i H/\D.nx σ H)\/(J.go i H/\∃N:St->Hp->Prop,(∀σ' H',N σ' H'->∃m',m' < m/\W (i+1) m' σ' H')/\∀x H',J.yld i H x H'->g x σ H' fun σ2 H2=>tb {D with nx:=N,ct:=N,bk:=D.nx} σ2 H2)
def pf(fp:List Addr)(h:Heap):List (Addr×Obj):=fp.filterMap fun b=>(h.get? b).map fun o=>(b,o)
theorem jF{fp:List Addr}{h:Heap}{b:Addr}{o:Obj}(hb:b∈fp)(e:h.get? b=some o):(b,o)∈pf fp h:=List.mem_filterMap.mpr ⟨b,hb,by rw[e];rfl⟩
theorem yb{fp:List Addr}{h:Heap}{p:Addr×Obj}(hp:p∈pf fp h):p.1∈fp/\h.get? p.1=some p.2:=by
 obtain⟨b,hb,e⟩:=List.mem_filterMap.mp hp
 cases q:h.get? b with
 |none=>rw[q]at e;cases e
 |some o=>
  rw[q]at e
  have e':(b,o)=p:=Option.some.inj e
  subst e'
  exact⟨hb,q⟩
theorem Inv.pinned{pins:List (Addr×Obj)}{σ:St}{H:Hp}{s:Shared}{fp:List Addr}(I:Inv X pins σ H s)(hf:∀b∈fp,oj X pins H b)(ho:∀b∈fp,∃o,s.heap.get? b=some o/\∀v,o.data≠.cell v):Inv X (pins++pf fp s.heap) σ H s:=
 I.oY fun p hp=>(qG_.mp hp).elim (fun z=>I.pin p (qE_ _ z)) fun z=>by
   obtain⟨hb,e⟩:=yb z
   obtain⟨f0,f1,f2,_⟩:=hf p.1 hb
   obtain⟨o,e',d⟩:=ho p.1 hb
   rw[e]at e';cases e'
   exact⟨e,f0,f1,f2,d⟩
theorem Inv.kA{pins pl:List (Addr×Obj)}{σ:St}{H:Hp}{s:Shared}(I:Inv X (pins++pl) σ H s):Inv X pins σ H s:=I.oY fun p hp=>I.pin p (qE_ _ (qF_ _ hp))
theorem Am{iter:Expr}{body:List Stmt}{wi:TI}{g:TG}{tb:TS}{pos:Pos}(hp:PassesOwn (model X.prog X.w) X.A X.env X.xe)(hc:X.calm=true)(hi:PI X tg iter wi)(hg:PG X tg g)(hb:PSs X body tb)
 (hs:∀x,foldedSetIterable iter X.env x=pure x:=by intro _;rfl):PS X (.For tg iter body [] pos) (HJ wi g tb):=by
 intro pins s σ H D I h
 refine wpAny_For (thn (hi pins s σ H _ I h) fun v s1 h1=>thn h1 fun itv s2 h2=>?_) hs
 obtain⟨it,fp,tn,J,H2,e,I2,T,st2,f2,W,⟨m0,w0⟩,turn⟩:=h2
 subst e
 have stat:∀{H':Hp},(∀b∈fp,H' b=none)->∀b∈fp,oj X pins H' b:=fun hn b hb=>⟨hn b hb,(f2 b hb).2⟩
 refine codeAny_forLoop_any (fun n s'=>∃i σ' H',Inv X pins σ' H' s'/\tn i s'.heap/\(∀b∈fp,H' b=none)/\W i n σ' H') ?_ m0 ⟨0,σ,H2,I2,st2,fun b hb=>(f2 b hb).1,w0⟩
 rintro n s3 ⟨i,σ3,H3,I3,st3,fr3,w3⟩
 rcases turn i n σ3 H3 w3 with ⟨stop,qn⟩ |⟨go,N,hN,step⟩
 · refine wpAny_passesOwn hp (thn (T.done X rfl rfl rfl hc i pins s3 σ3 H3 X.xe I3 (stat fr3) st3 stop) fun r s4 ⟨hr,I4⟩=>?_)
   subst hr
   exact wpAny_execs_nil ⟨σ3,H3,I4,qn⟩
 · refine wpAny_passesOwn hp (thn (T.item X rfl rfl rfl hc i pins s3 σ3 H3 X.xe I3 (stat fr3) st3 go) fun r s4 ⟨u,hr,h4⟩=>?_)
   subst hr
   refine wpAny_passesOwn hp (thn h4 fun _ s5 ⟨x,H5,I5,r5,y5,st5,fr5⟩=>?_)
   have I5':=I5.pinned (stat fr5) (T.obj _ _ st5)
   refine wpAny_passesOwn hp (thn (hg _ s5 σ3 H5 x u _ I5' r5 (step x H5 y5)) fun _ s6 ⟨σ6,H6,I6,q6⟩=>?_)
   refine wpAny_passesOwn hp (thn (hb _ s6 σ6 H6 _ I6 q6) fun f s7 q7=>?_)
   have again:∀{σ7:St} {H7:Hp},Inv X (pins++pf fp s5.heap) σ7 H7 s7->N σ7 H7->∃m,m < n/\∃i σ' H',Inv X pins σ' H' s7/\tn i s7.heap/\(∀b∈fp,H' b=none)/\W i m σ' H':=fun {σ7 H7} I7 n7=>by
    obtain⟨m',hm,w7⟩:=hN σ7 H7 n7
    refine⟨m',hm,i+1,σ7,H7,I7.kA,T.keep _ _ _ st5 fun b hb o e=>(I7.pin (b,o) (qE_ _ (qE_ _ (jF hb e)))).1,fun b hb=>?_,w7⟩
    obtain⟨o,e,d⟩:=T.obj _ _ st5 b hb
    exact(I7.pin (b,o) (qE_ _ (qE_ _ (jF hb e)))).2.1
   cases f with
   |next=>obtain⟨σ7,H7,I7,n7⟩:=q7;exact again I7 n7
   |cont=>obtain⟨σ7,H7,I7,n7⟩:=q7;exact again I7 n7
   |brk=>obtain⟨σ7,H7,I7,q7⟩:=q7;exact⟨σ7,H7,I7.kA,q7⟩
   |ret v=>obtain⟨x7,σ7,H7,I7,r7,q7⟩:=q7;exact⟨x7,σ7,H7,I7.kA,r7,q7⟩
end
abbrev R2:=V->V->Hp->VK->Prop
def OpR(X:Cx)(f:Value->Value->Sem Value)(r:R2):Prop:=
 ∀(pins:List (Addr×Obj)) (s:Shared) (σ:St) (H:Hp) (x y:V) (v u:Value) (Q:VK),Inv X pins σ H s->RelV x v->RelV y u->r x y H Q->
  wpAny (model X.prog X.w) X.A (f v u) (EP X pins σ Q) X.xe s
def gh(X:Cx)(f:Value)(r:List V->Hp->VK->Prop):Prop:=
 ∀(pins:List (Addr×Obj)) (s:Shared) (σ:St) (H:Hp) (xs:List V) (us:List Value) (Q:VK),Inv X pins σ H s->Vals xs us->r xs H Q->
  wpAny (model X.prog X.w) X.A (call f us) (EP X pins σ Q) X.xe s
def Hj(X:Cx)(r:V->Hp->(Bool->Hp->Prop)->Prop):Prop:=
 ∀(pins:List (Addr×Obj)) (s:Shared) (σ:St) (H:Hp) (x:V) (v:Value) (Q:Bool->Hp->Prop),Inv X pins σ H s->RelV x v->r x H Q->
  wpAny (model X.prog X.w) X.A (truthy v) (TP X pins σ Q) X.xe s
def tOp(r:R2)(ta tb:TE):TE:=fun σ H Q=>ta σ H fun x H1=>tb σ H1 fun y H2=>r x y H2 Q
def rI(C:Int->Int->Prop)(g:Int->Int->V):R2:=fun x y H Q=>∃i j,x= .int i/\y= .int j/\C i j/\Q (g i j) H
def rI0(g:Int->Int->V):R2:=fun x y H Q=>∃i j,x= .int i/\y= .int j/\Q (g i j) H
section
variable{X:Cx}{a b c:Expr}{ta tb tc:TE}{pos:Pos}
theorem D0(ha:PE X a ta)(hb:PE X b tb){pins:List (Addr×Obj)}{s:Shared}{σ:St}{H:Hp}{R:V->V->Hp->Prop}(I:Inv X pins σ H s)
 (h:ta σ H fun x H1=>tb σ H1 fun y H2=>R x y H2) {Q:Value->Shared->Prop} {f:Value->Value->Sem Value}
 (hf:∀v u s2 x y H2,Inv X pins σ H2 s2->RelV x v->RelV y u->R x y H2->wpAny (model X.prog X.w) X.A (f v u) Q X.xe s2):
 wpAny (model X.prog X.w) X.A (eval a X.env) (fun v s₁=>wpAny (model X.prog X.w) X.A (eval b X.env) (fun u s₂=>wpAny (model X.prog X.w) X.A (f v u) Q X.xe s₂) X.xe s₁) X.xe s:=by
 refine thn (ha pins s σ H _ I h) fun v s1 ⟨x,H1,I1,r1,q1⟩=>?_
 refine thn (hb pins s1 σ H1 _ I1 q1) fun u s2 ⟨y,H2,I2,r2,q2⟩=>?_
 exact hf v u s2 x y H2 I2 r1 r2 q2
theorem Gf{op:Operator}{r:R2}(ho:OpR X (binaryOp op) r)(ha:PE X a ta)(hb:PE X b tb):PE X (.BinOp a op b pos) (tOp r ta tb):=by
 intro pins s σ H Q I h
 exact wpAny_BinOp (D0 ha hb I h fun v u s2 x y H2 I2 rx ry q=>ho pins s2 σ H2 x y v u Q I2 rx ry q)
theorem opI{f:Value->Value->Sem Value}{C:Int->Int->Prop}{g:Int->Int->Int}
 (rule:∀(i j:Int) (t u:Tok) (s:Shared) (Q:Value->Shared->Prop) (E:Value->Shared->Prop),C i j->Q (.int (g i j) s.toks) {s with toks:=s.toks+1}->wpAny (model X.prog X.w) X.A (f (.int i t) (.int j u)) Q E s):
 OpR X f (rI C fun i j=>.int (g i j)):=by
 intro pins s σ H x y v u Q I rx ry h
 obtain⟨i,j,rfl,rfl,hc,q⟩:=h
 obtain⟨t,rfl⟩:=rx
 obtain⟨t',rfl⟩:=ry
 exact rule i j t t' s _ _ hc ⟨.int (g i j),H,I.tok _,⟨_,rfl⟩,q⟩
theorem GG{f:Value->Value->Sem Value}{g:Int->Int->Int}
 (rule:∀(i j:Int) (t u:Tok) (s:Shared) (Q:Value->Shared->Prop) (E:Value->Shared->Prop),Q (.int (g i j) s.toks) {s with toks:=s.toks+1}->wpAny (model X.prog X.w) X.A (f (.int i t) (.int j u)) Q E s):
 OpR X f (rI0 fun i j=>.int (g i j)):=by
 intro pins s σ H x y v u Q I rx ry h
 obtain⟨i,j,rfl,rfl,q⟩:=h
 obtain⟨t,rfl⟩:=rx
 obtain⟨t',rfl⟩:=ry
 exact rule i j t t' s _ _ ⟨.int (g i j),H,I.tok _,⟨_,rfl⟩,q⟩
theorem DI{f:Value->Value->Sem Value}{g:Int->Int->Bool}
 (rule:∀(i j:Int) (t u:Tok) (s:Shared) (Q:Value->Shared->Prop) (E:Value->Shared->Prop),Q (.bool (g i j)) s->wpAny (model X.prog X.w) X.A (f (.int i t) (.int j u)) Q E s):
 OpR X f (rI0 fun i j=>.bl (g i j)):=by
 intro pins s σ H x y v u Q I rx ry h
 obtain⟨i,j,rfl,rfl,q⟩:=h
 obtain⟨t,rfl⟩:=rx
 obtain⟨t',rfl⟩:=ry
 exact rule i j t t' s _ _ ⟨.bl (g i j),H,I,rfl,q⟩
def DD(i j:Int):Prop:=0 < j/\j < 1073741824
def Br(i j:Int):Prop:=(-(2 ^ 64) < i/\i < 2 ^ 64)\/(-(2 ^ 64) < j/\j < 2 ^ 64)
theorem Br.ok{i j:Int}(h:Br i j):IntMulOk i j:=by
 rcases h with ⟨h1,h2⟩ |⟨h1,h2⟩
 · exact .of_left (intBits_le_64 h1 h2)
 · exact .of_right (intBits_le_64 h1 h2)
theorem DT:OpR X (binaryOp .Add) (rI0 fun i j=>.int (i+j)):=GG fun _ _ _ _ _ _ _ q=>add_int q
theorem Em:OpR X (binaryOp .Sub) (rI0 fun i j=>.int (i - j)):=GG fun _ _ _ _ _ _ _ q=>sub_int q
theorem Ej:OpR X (binaryOp .Mult) (rI Br fun i j=>.int (i*j)):=opI fun _ _ _ _ _ _ _ hc q=>mul_int q hc.ok
theorem CA:OpR X (binaryOp .FloorDiv) (rI DD fun i j=>.int (i / j)):=opI fun i j _ _ _ _ _ hc q=>by
 have h1:(0:Int) < j:=hc.1
 have h2:j < 1073741824:=hc.2
 exact floordiv_int (by omega) (by rw[Int.fdiv_eq_ediv_of_nonneg i (by omega)];exact q) (.inl (PyProof.noPylong_small (by omega)))
theorem EZ:OpR X (binaryOp .Mod) (rI (fun _ j=>0 < j) fun i j=>.int (i % j)):=opI fun i j _ _ _ _ _ hc q=>by
 have h1:(0:Int) < j:=hc
 exact mod_int' (by omega) (by rw[Int.fmod_eq_emod_of_nonneg i (by omega)];exact q)
theorem FL:OpR X (compareOp .Lt) (rI0 fun i j=>.bl (decide (i < j))):=DI fun _ _ _ _ _ _ _ q=>lt_int q
theorem FH:OpR X (compareOp .Gt) (rI0 fun i j=>.bl (decide (j < i))):=DI fun _ _ _ _ _ _ _ q=>gt_int q
theorem GB:OpR X (compareOp .GtE) (rI0 fun i j=>.bl (decide (j<=i))):=DI fun _ _ _ _ _ _ _ q=>ge_int q
theorem OpR.or{f:Value->Value->Sem Value}{r r':R2}(h:OpR X f r)(h':OpR X f r'):OpR X f (fun x y H Q=>r x y H Q\/r' x y H Q):=by
 intro pins s σ H x y v u Q I rx ry q
 rcases q with q |q
 · exact h pins s σ H x y v u Q I rx ry q
 · exact h' pins s σ H x y v u Q I rx ry q
theorem bQ(b:Expr){op:CmpOp}(h:op≠.In:=by decide)(h2:op≠.NotIn:=by decide):behindInMarks op b=false:=by
 have e1:(op==CmpOp.In)=false:=by cases op <;> first |rfl |exact absurd rfl h
 have e2:(op==CmpOp.NotIn)=false:=by cases op <;> first |rfl |exact absurd rfl h2
 cases b <;> simp [behindInMarks,e1,e2]
theorem Bq{op:CmpOp}{r:R2}(ho:OpR X (compareOp op) r)(ha:PE X a ta)(hb:PE X b tb)(hm:behindInMarks op b=false):PE X (.Compare a [op] [b] pos) (tOp r ta tb):=by
 intro pins s σ H Q I h
 exact wpAny_Compare1 (D0 ha hb I h fun v u s2 x y H2 I2 rx ry q=>ho pins s2 σ H2 x y v u Q I2 rx ry q) hm
def C7(t:TE):TT:=fun σ H Q=>t σ H fun x H'=>∃k,x= .bl k/\Q k H'
theorem BF{op:CmpOp}{r:R2}(ho:OpR X (compareOp op) r)(ha:PE X a ta)(hb:PE X b tb)(hm:behindInMarks op b=false):PT X (.Compare a [op] [b] pos) (C7 (tOp r ta tb)):=by
 intro pins s σ H Q I h
 refine wpAny_isTrue_Compare1 (thn (ha pins s σ H _ I h) fun v s1 ⟨x,H1,I1,r1,q1⟩=>thn (hb pins s1 σ H1 _ I1 q1) fun u s2 ⟨y,H2,I2,r2,q2⟩=>
  thn (ho pins s2 σ H2 x y v u _ I2 r1 r2 q2) fun c s3 ⟨z,H3,I3,r3,k,e,q3⟩=>?_) hm
 subst e
 cases r3
 exact wpAny_truthy_bool ⟨H3,I3,q3⟩
def D7(K:PySem.W.Frag)(x:V)(H:Hp)(k:Bool):Prop:=
 match x with
 | .non=>k=false
 | .bl b=>k=b
 | .int i=>k=(i !=0)
 | .str y=>y.length<=sizeLine/\k=((y.length:Int)!=0)
 | .byt y=>y.size<=sizeLine/\k=((y.size:Int)!=0)
 | .ref p=>(∃xs,SqL K H p xs/\k= !xs.isEmpty)\/(∃xs,SqT K H p xs/\k= !xs.isEmpty)\/∃kvs,H p=some (.dK kvs)/\k= !kvs.isEmpty
 |_=>False
theorem vQ{κ:Type}{kvs:List (κ×V)}{vs:List (κ×Value)}(r:KV kvs vs):(!vs.isEmpty)= !kvs.isEmpty:=by
 cases r <;> rfl
theorem pF{xs:List V}{its:List Value}(r:Vals xs its):(!its.toArray.isEmpty)= !xs.isEmpty:=by
 cases r <;> simp
theorem qF:(sizeLine:Nat) < 2 ^ 63:=by rw[sizeLine_eq];decide
theorem DE:Hj X (fun x H Q=>∃k,D7 X.K x H k/\Q k H):=by
 intro pins s σ H x v Q I rx h
 obtain⟨k,e,q⟩:=h
 have hl:=qF
 have hs:sizeLine=16777216:=sizeLine_eq
 cases x with
 |non=>
  cases rx
  have e':k=false:=e
  subst e'
  exact truthy_none ⟨H,I,q⟩
 |bl b=>
  cases rx
  have e':k=b:=e
  subst e'
  exact wpAny_truthy_bool ⟨H,I,q⟩
 |int i=>
  obtain⟨t,rfl⟩:=rx
  have e':k=(i !=0):=e
  subst e'
  exact PySem.P.truthy_int ⟨H,I,q⟩
 |str y=>
  obtain⟨t,rfl⟩:=rx
  obtain⟨hy,e'⟩:y.length<=sizeLine/\k=((y.length:Int)!=0):=e
  subst e'
  exact PySem.P.truthy_str (by omega) ⟨H,I.tok _,q⟩
 |byt y=>
  obtain⟨t,rfl⟩:=rx
  obtain⟨hy,e'⟩:y.size<=sizeLine/\k=((y.size:Int)!=0):=e
  subst e'
  exact PySem.W.truthy_bytes (by omega) ⟨H,I.tok _,q⟩
 |ref p=>
  cases rx
  have e':(∃xs,SqL X.K H p xs/\k= !xs.isEmpty)\/(∃xs,SqT X.K H p xs/\k= !xs.isEmpty)\/∃kvs,H p=some (.dK kvs)/\k= !kvs.isEmpty:=e
  rcases e' with ⟨xs,hx,e'⟩ |⟨xs,hx,e'⟩ |⟨kvs,hx,e'⟩
  · subst e'
    obtain⟨its,r,pl,hz⟩:=I.list hx
    have hlen:=r.length
    exact wpAny_truthy_list pl.isList (by simp only[qW_];omega) ⟨H,I.tok _,by rw[pF r];exact q⟩
  · subst e'
    obtain⟨its,r,pl,hz⟩:=I.tuple hx
    have hlen:=r.length
    exact truthy_tuple pl (by simp only[qW_];omega) ⟨H,I.tok _,by rw[pF r];exact q⟩
  · subst e'
    obtain⟨hz,hS,vs,r,m⟩:kvs.length<=sizeLine/\(p==sysModules)=false/\∃vs,KV kvs vs/\s.heap.DictOf (cN X.prog X.w) p vs:=I.hok p _ hx
    have hlen:kvs.length=vs.length:=Paired.length r
    exact wpAny_truthy_dict hS m (by omega) ⟨H,I.tok _,by rw[vQ r];exact q⟩
 |_=>exact(show False from e).elim
theorem y0(ha:PE X a ta)(he:∀whole,isTrue a X.env whole=(do let v <-whole;standAt a.pos;holding [v] (truthy v))):
 PT X a (fun σ H Q=>ta σ H fun x H'=>∃k,D7 X.K x H' k/\Q k H'):=by
 intro pins s σ H Q I h
 exact isTrue_plain (thn (ha pins s σ H _ I h) fun v s1 ⟨x,H1,I1,r1,q1⟩=>DE pins s1 σ H1 x v Q I1 r1 q1) (he _)
theorem wG:OpR X (binaryOp .Add) (fun x y H Q=>∃i j,x= .str i/\y= .str j/\i.length+j.length<=sizeLine/\Q (.str (i++j)) H):=by
 intro pins s σ H x y v u Q I rx ry h
 obtain⟨i,j,rfl,rfl,hz,q⟩:=h
 obtain⟨t,rfl⟩:=rx
 obtain⟨t',rfl⟩:=ry
 exact add_str (fun t' tk=>⟨.str (i++j),H,I.tok _,⟨_,rfl⟩,q⟩) hz
theorem vals1{x:V}{us:List Value}(r:Vals [x] us):∃u,us=[u]/\RelV x u:=by
 cases r with
 |cons r1 r2=>cases r2;exact⟨_,rfl,r1⟩
theorem vals2{x y:V}{us:List Value}(r:Vals [x,y] us):∃u w',us=[u,w']/\RelV x u/\RelV y w':=by
 cases r with
 |cons r1 r2=>
  cases r2 with
  |cons r3 r4=>cases r4;exact⟨_,_,rfl,r1,r3⟩
theorem yc(hc:X.calm=true):gh X (.builtin "max") (fun xs H Q=>∃i j,xs=[.int i,.int j]/\Q (.int (if j > i then j else i)) H):=by
 intro pins s σ H xs us Q I r h
 obtain⟨i,j,rfl,q⟩:=h
 obtain⟨u,w',rfl,⟨t,rfl⟩,⟨t',rfl⟩⟩:=vals2 r
 refine max_two_ints (I.ok.hd hc) fun h' tk k=>⟨_,H,I.kept k,?_,q⟩
 by_cases hj:j > i
 · rw[if_pos hj,if_pos hj];exact⟨_,rfl⟩
 · rw[if_neg hj,if_neg hj];exact⟨_,rfl⟩
theorem yI(hc:X.calm=true):gh X (.builtin "min") (fun xs H Q=>∃i j,xs=[.int i,.int j]/\Q (.int (if j < i then j else i)) H):=by
 intro pins s σ H xs us Q I r h
 obtain⟨i,j,rfl,q⟩:=h
 obtain⟨u,w',rfl,⟨t,rfl⟩,⟨t',rfl⟩⟩:=vals2 r
 refine min_two_ints (I.ok.hd hc) fun h' tk k=>⟨_,H,I.kept k,?_,q⟩
 by_cases hj:j < i
 · rw[if_pos hj,if_pos hj];exact⟨_,rfl⟩
 · rw[if_neg hj,if_neg hj];exact⟨_,rfl⟩
theorem yS:gh X (.type "int") (fun xs H Q=>(∃i,xs=[.int i]/\Q (.int i) H)\/∃k,xs=[.bl k]/\Q (.int (if k then 1 else 0)) H):=by
 intro pins s σ H xs us Q I r h
 rcases h with ⟨i,rfl,q⟩ |⟨k,rfl,q⟩
 · obtain⟨u,rfl,t,rfl⟩:=vals1 r
   exact call_int_int ⟨.int i,H,I,⟨_,rfl⟩,q⟩
 · obtain⟨u,rfl,r1⟩:=vals1 r
   cases r1
   exact call_int_bool ⟨.int (if k then 1 else 0),H,I.tok _,⟨_,rfl⟩,q⟩
def Gs(K:PySem.W.Frag)(x:V)(H:Hp)(n:Nat):Prop:=
 match x with
 | .str y=>y.length<=sizeLine/\n=y.length
 | .byt y=>y.size<=sizeLine/\n=y.size
 | .ref p=>(∃xs,SqL K H p xs/\n=xs.length)\/∃xs,SqT K H p xs/\n=xs.length
 |_=>False
theorem AM:gh X (.builtin "len") (fun xs H Q=>∃x n,xs=[x]/\Gs X.K x H n/\Q (.int n) H):=by
 intro pins s σ H xs us Q I r h
 obtain⟨x,n,rfl,e,q⟩:=h
 obtain⟨u,rfl,rx⟩:=vals1 r
 have hl:=qF
 have hs:sizeLine=16777216:=sizeLine_eq
 cases x with
 |str y=>
  obtain⟨t,rfl⟩:=rx
  obtain⟨hy,e'⟩:y.length<=sizeLine/\n=y.length:=e
  subst e'
  exact len_str (by omega) ⟨.int _,H,I.tok _,⟨_,rfl⟩,q⟩
 |byt y=>
  obtain⟨t,rfl⟩:=rx
  obtain⟨hy,e'⟩:y.size<=sizeLine/\n=y.size:=e
  subst e'
  exact PySem.W.len_bytes (by omega) ⟨.int _,H,I.tok _,⟨_,rfl⟩,q⟩
 |ref p=>
  cases rx
  have e':(∃xs,SqL X.K H p xs/\n=xs.length)\/∃xs,SqT X.K H p xs/\n=xs.length:=e
  rcases e' with ⟨xs,hx,e'⟩ |⟨xs,hx,e'⟩
  · subst e'
    obtain⟨its,r',pl,hz⟩:=I.list hx
    have hlen:=r'.length
    exact Calls.call_len_list pl.isList (by simp only[qW_];omega) ⟨.int xs.length,H,I.tok _,⟨_,by simp only[qW_];rw[hlen]⟩,q⟩
  · subst e'
    obtain⟨its,r',pl,hz⟩:=I.tuple hx
    have hlen:=r'.length
    exact len_tuple pl (by simp only[qW_];omega) ⟨.int xs.length,H,I.tok _,⟨_,by simp only[qW_];rw[hlen]⟩,q⟩
 |_=>exact(show False from e).elim
end
structure wq (h:Heap) (x dx C:Addr) (mA:Str->Option Value):Prop where
 obj:h.get? x=some (PySem.W.instObj C dx)
 ns:h.Ns1 dx mA
 ne:dx≠x
theorem yp{h:Heap}{dx:Addr}{mA:Str->Option Value}(n:h.Ns1 dx mA):∃od,h.get? dx=some od/\∀name,PySem.W.lookIn name od=some (mA name):=by
 obtain⟨o,es,ep,ho,hd,hk,_,hm⟩:=n
 refine⟨o,ho,fun name=>?_⟩
 have e:=hm name
 unfold nsFind findBy at e
 rw[<-Array.find?_toList]at e
 unfold PySem.W.lookIn
 rw[hd]
 dsimp only
 split
 · rename_i y q
   rw[q]at e
   exact congrArg some e
 · rename_i q
   rw[q]at e
   have a:es.toList.any (·.refKey)=false:=by
    rw[List.any_eq_false]
    intro y hy
    obtain⟨z,t,hkey⟩:=hk y (Array.mem_toList_iff.mp hy)
    simp [DictEntry.refKey,hkey]
   have a':¬es.toList.any (·.refKey)=true:=by rw[a];exact qC_
   rw[if_neg a']
   exact congrArg some e
theorem wq.look{h:Heap}{x dx C:Addr}{mA:Str->Option Value}(I:wq h x dx C mA):∃od,PySem.W.InstAt h x (PySem.W.instObj C dx) C (some od)/\∀name,PySem.W.lookIn name od=some (mA name):=
 let ⟨od,ho,hl⟩:=yp I.ns
 ⟨od,⟨I.obj,rfl,rfl,ho⟩,hl⟩
section
variable{prog:Program}{w:World}{A:Around}{E:Value->Shared->Prop}{s:Shared}{K:PySem.W.Frag}{x dx C f:Addr}{mA:Str->Option Value}{name:Str}{v:Value}
theorem get_map{expr:Bool}{Q:Value->Shared->Prop}(X:K.In s.heap)(I:wq s.heap x dx C mA)(hg:PySem.W.plainGet K C name=true)(hh:PySem.W.hasDictIn K C=true)
 (ha:PySem.W.findIn K (.ref C) name=some none) (hv:mA name=some v) (hv':PySem.W.handedIn v=true) (h:Q v {s with toks:=s.toks+1}):
 wpAny (model prog w) A (getAttr (.ref x) name expr) Q E s:=by
 obtain⟨od,J,hl⟩:=I.look
 exact PySem.W.get_value X J (PySem.W.plainGet_of hg).1 (PySem.W.findObj_own hh ha rfl (by rw[hl,hv])) hv' h
theorem zp{pl:Sem Bool}{Q:Value×List Value->Shared->Prop}(X:K.In s.heap)(I:wq s.heap x dx C mA)(hg:PySem.W.plainGet K C name=true)
 (hf:PySem.W.findIn K (.ref C) name=some (some (.ref f))) (ht:PySem.W.isFn K (.ref f)=true) (hv:mA name=none) (h:Q (.ref f,[.ref x]) s):
 wpAny (model prog w) A (getMethod (.ref x) name pl) Q E s:=by
 obtain⟨od,J,hl⟩:=I.look
 exact PySem.W.method_fn X J (PySem.W.plainGet_of hg).1 (PySem.W.plainGet_of hg).2 hf (beq_iff_eq.mp ht) (by show (PySem.W.lookIn name od).map (·.isSome)=some false;rw[hl,hv];rfl) h
theorem Cu{ns:List Str}{Q:Unit->Shared->Prop}(X:K.In s.heap)(I:wq s.heap x dx C mA)
 (hs:PySem.W.findIn K (.ref C) "__setattr__"=some (some (.builtin "object.__setattr__"))) (hp:PySem.W.plainOver K C=true) (ht:PySem.W.takerIn K C name=some none) (hh:PySem.W.hasDictIn K C=true)
 (hw:PySem.Within mA ns) (hsz:ns.length<=sizeLine)
 (h:∀h',wq h' x dx C (fun y=>if y=name then some v else mA y)->Heap.SameBut dx s.heap h'->Q () {s with heap:=h',toks:=s.toks+2}):
 wpAny (model prog w) A (setAttr (.ref x) name v) Q E s:=by
 obtain⟨od,J,hl⟩:=I.look
 refine PySem.W.set_plain X J hs (PySem.W.osa_open (s:={s with toks:=s.toks+1}) (r:=none) X J hp ht fun b=>?_)
 obtain⟨cd,hc,hd'⟩:=PySem.W.any_some hh
 have hx:s.heap.get? x=some ⟨.ref C,some dx,.plain,#[]⟩:=I.obj
 refine wpAny_bind (wpAny_pure (wpAny_bind (wpAny_bind (wpAny_loadPart hx (wpAny_bind (PySem.W.Looks.here (s:={s with toks:=s.toks+1}) (PySem.W.looks_clsIn X hc) ?_))))))
 rw[hd']
 refine wpAny_pure (a:=some dx) (wpAny_bind (wpAny_pure (wpAny_bind ?_)))
 refine wpAny_nsSet1 (s:={s with toks:=s.toks+1}) I.ns fun h' hn2 hs2=>?_
 obtain⟨oD,esD,epD,hoD,hdD,hcD⟩:=hn2.count (PySem.Within.cons name v hw)
 refine wpAny_bind (wpAny_lookBehind hoD (by rw[hdD];exact pastItsLine_dict (Nat.le_trans hcD (by rw[List.length_cons];omega))) ?_)
 exact wpAny_pure (h _ ⟨(hs2.2 _ (Ne.symm I.ne)).trans I.obj,hn2,I.ne⟩ hs2)
theorem Au{R:Result->Shared->Prop}{vs:List Value}{kw:List (Str×Value)}(X:K.In s.heap)(hm:PySem.W.makesIn K C=true)
 (hi:PySem.W.findIn K (.ref C) "__init__"=some (some (.ref f))) (hf:PySem.W.typeIn K (.ref f)=some (.type "function"))
 (h:codeAny (model prog w) (A.under (.builtin "type.__call__" ⟨.ref C :: vs,kw⟩)) (.call (.ref f) ⟨.ref (s.heap.objs.size+1) :: vs,kw⟩) (PySem.W.InitBack (s.heap.objs.size+1) R)
   {s with heap:=(s.heap.push PySem.W.emptyDict).push (PySem.W.instObj C s.heap.objs.size)}):
 codeAny (model prog w) A (.call (.ref C) ⟨vs,kw⟩) R s:=by
 obtain⟨hh,g,d,t,os⟩:=s
 exact PySem.W.make_core (PySem.W.makes_of X hm) (PySem.W.looks_findIn X hi) (fun self=>PySem.W.bind_fn X self hf) (.inl rfl) h
end
def jq(f:Str)(v:V):List (Str×V)->List (Str×V)
 | []=>[(f,v)]
 |(g,x) :: r=>if g=f then (g,v) :: r else (g,x) :: jq f v r
theorem oE(f g:Str)(v:V):∀fs:List (Str×V),(jq f v fs).lookup g=if g=f then some v else fs.lookup g
 | []=>by
   show List.lookup g [(f,v)]=_
   by_cases h:g=f
   · have hb:(g==f)=true:=beq_iff_eq.mpr h
     simp only[List.lookup,hb,if_pos h]
   · have hb:(g==f)=false:=beq_eq_false_iff_ne.mpr h
     simp only[List.lookup,hb,if_neg h]
 |(k,x) :: r=>by
  have ih:=oE f g v r
  rw[show jq f v ((k,x) :: r)=(if k=f then (k,v) :: r else (k,x) :: jq f v r)from rfl]
  by_cases hk:k=f
  · rw[if_pos hk]
    by_cases h:g=k
    · have hb:(g==k)=true:=beq_iff_eq.mpr h
      simp only[List.lookup,hb,if_pos (h.trans hk)]
    · have hb:(g==k)=false:=beq_eq_false_iff_ne.mpr h
      simp only[List.lookup,hb,if_neg (fun e:g=f=>h (e.trans hk.symm))]
  · rw[if_neg hk]
    by_cases h:g=k
    · have hb:(g==k)=true:=beq_iff_eq.mpr h
      simp only[List.lookup,hb,if_neg (fun e:g=f=>hk (h.symm.trans e))]
    · have hb:(g==k)=false:=beq_eq_false_iff_ne.mpr h
      simp only[List.lookup,hb]
      exact ih
theorem n0(f:Str)(v:V):∀fs:List (Str×V),f∈(jq f v fs).map (·.1)/\∀g,g∈fs.map (·.1)->g∈(jq f v fs).map (·.1)
 | []=>⟨by simp [jq],fun g h=>by simp at h⟩
 |(k,x) :: r=>by
  obtain⟨i1,i2⟩:=n0 f v r
  rw[show jq f v ((k,x) :: r)=(if k=f then (k,v) :: r else (k,x) :: jq f v r)from rfl]
  by_cases hk:k=f
  · rw[if_pos hk]
    subst hk
    exact⟨by simp,fun g h=>by simpa using h⟩
  · rw[if_neg hk]
    refine⟨?_,fun g h=>?_⟩
    · rw[List.map_cons]
      exact qR_ _ i1
    · rw[List.map_cons]at h ⊢
      rcases qS_.mp h with e |e
      · exact qS_.mpr (.inl e)
      · exact qR_ _ (i2 g e)
theorem oH(f:Str)(v:V):∀fs:List (Str×V),(jq f v fs).length<=fs.length+1
 | []=>by simp [jq]
 |(k,x) :: r=>by
  have ih:=oH f v r
  rw[show jq f v ((k,x) :: r)=(if k=f then (k,v) :: r else (k,x) :: jq f v r)from rfl]
  by_cases hk:k=f
  · rw[if_pos hk,List.length_cons,List.length_cons];omega
  · rw[if_neg hk,List.length_cons,List.length_cons];omega
theorem ly.some_of{v:V}{o:Option Value}(r:ly (some v) o):∃u,o=some u/\RelV v u:=by
 cases o with
 |none=>exact(show False from r).elim
 |some u=>exact⟨u,rfl,r⟩
theorem ly.none_of{o:Option Value}(r:ly none o):o=none:=by
 cases o with
 |none=>rfl
 |some u=>exact(show False from r).elim
theorem xS{v:V}{u:Value}(r:RelV v u):PySem.W.handedIn u=true:=by
 cases v with
 |non=>cases (show u=Value.none from r);rfl
 |bl b=>cases (show u=Value.bool b from r);rfl
 |int i=>obtain⟨t,e⟩:=(show ∃t,u=Value.int i t from r);cases e;rfl
 |str x=>obtain⟨t,e⟩:=(show ∃t,u=Value.str x t from r);cases e;rfl
 |byt b=>obtain⟨t,e⟩:=(show ∃t,u=Value.bytes b t from r);cases e;rfl
 |flt b=>obtain⟨t,e⟩:=(show ∃t,u=Value.float b t from r);cases e;rfl
 |ref a=>cases (show u=Value.ref a from r);rfl
 |ty n=>cases (show u=Value.type n from r);rfl
section
variable{P:Program}{w:World}{H H':Hp}{h h':Heap}{a C dx:Addr}{fs fs':List (Str×V)}
theorem sD(hok:HOk P w H h)(e:H a=some (.ins C dx fs)):∃mA,wq h a dx C mA/\(∀f,ly (fs.lookup f) (mA f))/\PySem.Within mA (fs.map (·.1))/\fs.length<=1000/\H dx=some (.own a):=by
 obtain⟨d,z,ne,ob,mA,n,r,q⟩:=(show cL P w H h a (.ins C dx fs)from hok a _ e)
 exact⟨mA,⟨ob,n,ne⟩,r,q,z,d⟩
end
structure Cls (K:PySem.W.Frag) (C:Addr):Prop where
 pg:PySem.W.plainGet K C Str.empty=true
 hd:PySem.W.hasDictIn K C=true
 po:PySem.W.plainOver K C=true
 sa:PySem.W.findIn K (.ref C) "__setattr__"=some (some (.builtin "object.__setattr__"))
theorem Cls.get{K:PySem.W.Frag}{C:Addr}(c:Cls K C)(f:Str):PySem.W.plainGet K C f=true:=c.pg
def jJ(K:PySem.W.Frag)(C:Addr)(f:Str):Prop:=PySem.W.findIn K (.ref C) f=some none
theorem jJ.Gk{K:PySem.W.Frag}{C:Addr}{f:Str}(n:jJ K C f):PySem.W.takerIn K C f=some none:=by
 unfold PySem.W.takerIn
 rw[show PySem.W.findIn K (.ref C) f=some none from n]
 rfl
structure Meth (K:PySem.W.Frag) (C:Addr) (m:Str) (f:Addr):Prop where
 at_:PySem.W.findIn K (.ref C) m=some (some (.ref f))
 fn:PySem.W.isFn K (.ref f)=true
 kp:PySem.W.keepIn K (.ref f)=true
section
variable{X:Cx}{pins:List (Addr×Obj)}{σ:St}{H:Hp}{s:Shared}{a C dx:Addr}{fs:List (Str×V)}{f:Str}{v:V}{A:Around}{E:Value->Shared->Prop}
theorem wj{b:Bool}{Q:Value->Shared->Prop}(I:Inv X pins σ H s)(e:H a=some (.ins C dx fs))(c:Cls X.K C)(n:jJ X.K C f)(l:fs.lookup f=some v)
 (h:∀u s',Inv X pins σ H s'->RelV v u->Q u s'):wpAny (model X.prog X.w) A (getAttr (.ref a) f b) Q E s:=by
 obtain⟨mA,O,r,_,_,_⟩:=sD I.hok e
 obtain⟨u,hu,ru⟩:=ly.some_of (v:=v) (o:=mA f) (by rw[<-l];exact r f)
 exact get_map I.kIn O (c.get f) c.hd n hu (xS ru) (h u _ (I.tok _) ru)
theorem my{m:Str}{g:Addr}{pl:Sem Bool}{Q:Value×List Value->Shared->Prop}(I:Inv X pins σ H s)(e:H a=some (.ins C dx fs))(c:Cls X.K C)(k:Meth X.K C m g)(l:fs.lookup m=none)
 (h:Q (.ref g,[.ref a]) s):wpAny (model X.prog X.w) A (getMethod (.ref a) m pl) Q E s:=by
 obtain⟨mA,O,r,_,_,_⟩:=sD I.hok e
 have hn:mA m=none:=ly.none_of (by rw[<-l];exact r m)
 exact zp I.kIn O (c.get m) k.at_ k.fn hn h
theorem wM{y:V}{u:Value}{Q:Unit->Shared->Prop}(I:Inv X pins σ H s)(e:H a=some (.ins C dx fs))(c:Cls X.K C)(n:jJ X.K C f)(hl:fs.length < 1000)(ry:RelV y u)
 (h:∀s',Inv X pins σ (upd H a (.ins C dx (jq f y fs))) s'->Q () s'):wpAny (model X.prog X.w) A (setAttr (.ref a) f u) Q E s:=by
 obtain⟨mA,O,r,wi,_,ho⟩:=sD I.hok e
 have hz:(fs.map (·.1)).length<=sizeLine:=by rw[qM_,sizeLine_eq];omega
 refine Cu I.kIn O c.sa c.po n.Gk c.hd wi hz fun h' O' sb=>h _ ?_
 have hd:∃o,h'.get? dx=some o:=let ⟨o,_,_,e',_⟩:=O'.ns;⟨o,e'⟩
 refine I.write (x:=a) (e:=dx) (by rw[e];exact True.intro) (.inr ho) (fun b q hb z=>(sb.2 b hb).trans z) hd ?_
 refine⟨by rw[aP O.ne];exact ho,?_,O.ne,O'.obj,_,O'.ns,fun g=>?_,fun g hg=>?_⟩
 · have:=oH f y fs;omega
 · show ly ((jq f y fs).lookup g) (if g=f then some u else mA g)
   rw[oE]
   by_cases q:g=f
   · rw[if_pos q,if_pos q];exact ry
   · rw[if_neg q,if_neg q];exact r g
 · by_cases q:g=f
   · rw[q];exact(n0 f y fs).1
   · refine(n0 f y fs).2 g (wi g fun z=>hg ?_)
     show (if g=f then some u else mA g)=none
     rw[if_neg q];exact z
theorem Inv.made(I:Inv X pins σ H s):Inv X pins σ (upd (upd H s.heap.objs.size (.own (s.heap.objs.size+1))) (s.heap.objs.size+1) (.ins C s.heap.objs.size []))
 {s with heap:=(s.heap.push PySem.W.emptyDict).push (PySem.W.instObj C s.heap.objs.size)}:=by
 have e1:(s.heap.push PySem.W.emptyDict).get? s.heap.objs.size=some PySem.W.emptyDict:=Heap.get?_push_size s.heap rfl
 have e2:((s.heap.push PySem.W.emptyDict).push (PySem.W.instObj C s.heap.objs.size)).get? (s.heap.objs.size+1)=some (PySem.W.instObj C s.heap.objs.size):=by
  have:=Heap.get?_push_size (s.heap.push PySem.W.emptyDict) (o:=PySem.W.instObj C s.heap.objs.size) rfl
  rwa [Heap.size_push]at this
 have e3:(s.heap.push PySem.W.emptyDict).Ns s.heap.objs.size (fun _=>none):=⟨PySem.W.emptyDict,#[],_,e1,rfl,(fun e he=>absurd he (by simp)),fun _=>rfl⟩
 have I1:=I.laid (a:=s.heap.objs.size) (o:= .own (s.heap.objs.size+1)) (h':=s.heap.push PySem.W.emptyDict) (t':=s.toks) (fun b u q=>Heap.get?_push_of_some _ q) (qO_ _) ⟨_,e1⟩
 refine I1.laid (a:=s.heap.objs.size+1) (o:= .ins C s.heap.objs.size []) (t':=s.toks) (fun b u q=>Heap.get?_push_of_some _ q) (Nat.le_of_eq (Heap.size_push _ _)) ?_
 have ne:s.heap.objs.size≠s.heap.objs.size+1:=Nat.ne_of_lt (Nat.lt_succ_self _)
 refine⟨by rw[aP ne,aW],qf_ _,ne,e2,fun _=>none,(Heap.Ns1.of_empty e3).at fun o q=>Heap.get?_push_of_some _ q,fun _=>True.intro,fun y hy=>absurd rfl hy⟩
theorem BW{prog:Program}{w:World}{env:Env}{e:Expr}{f:Str}{pos:Pos}{s:Shared}{Q:Value->Shared->Prop}(hb:attributeBase e f env (eval e env)=eval e env)
 (h:wpAny (model prog w) A (eval e env) (fun o s₁=>wpAny (model prog w) A (getAttr o f true) Q E s₁) E s):wpAny (model prog w) A (eval (.Attribute e f pos) env) Q E s:=
 Attribute_any_ h (by rw[arm_eval_Attribute,hb])
end
def Ha(K:PySem.W.Frag)(ta:TE)(f:Str):TE:=fun σ H Q=>ta σ H fun x H1=>∃a C dx fs v,x= .ref a/\H1 a=some (.ins C dx fs)/\Cls K C/\jJ K C f/\fs.lookup f=some v/\Q v H1
def Ht(K:PySem.W.Frag)(ta tv:TE)(f:Str):TS:=fun D σ H=>tv σ H fun y H1=>ta σ H1 fun x H2=>∃a C dx fs,x= .ref a/\H2 a=some (.ins C dx fs)/\Cls K C/\jJ K C f/\fs.length < 1000/\
 D.nx σ (upd H2 a (.ins C dx (jq f y fs)))
section
variable{X:Cx}{o e value:Expr}{f:Str}{pos pos' tpos:Pos}{ta tv:TE}
theorem Dv(he:PE X e ta)(hb:attributeBase e f X.env (eval e X.env)=eval e X.env):PE X (.Attribute e f pos) (Ha X.K ta f):=by
 intro pins s σ H Q I h
 refine BW hb (thn (he pins s σ H _ I h) fun u s1 ⟨x,H1,I1,rx,a,C,dx,fs,v,ex,ea,c,n,l,q⟩=>?_)
 subst ex
 obtain rfl:u=Value.ref a:=rx
 exact wj I1 ea c n l fun u' s2 I2 ru=>⟨v,H1,I2,ru,q⟩
theorem EG(ha:PE X o ta)(hv:PE X value tv)(hs:swapsWith value (some (.Attribute o f pos')) pos.line X.env=pure false):PS X (.Assign [.Attribute o f pos'] value pos) (Ht X.K ta tv f):=by
 intro pins s σ H D I h
 refine plainObj_wpAny_Assign_Attribute (thn (hv pins s σ H _ I h) fun u s1 ⟨y,H1,I1,ry,q⟩=>thn (ha pins s1 σ H1 _ I1 q) fun ov s2 ⟨x,H2,I2,rx,a,C,dx,fs,ex,ea,c,n,l,q2⟩=>?_) hs
 subst ex
 obtain rfl:ov=Value.ref a:=rx
 exact wM I2 ea c n l ry fun s3 I3=>⟨σ,_,I3,q2⟩
end
structure eY (k:Nat) (A:Around):Prop where
 hd:A.handled=none
 dp:A.depth+3*k+5 < recursionLimit
 un:A.units+16*k+200 < cLine
theorem eY.mono{j k:Nat}{A:Around}(r:eY k A)(h:j<=k):eY j A:=⟨r.hd,by have:=r.dp;omega,by have:=r.un;omega⟩
theorem eY.deeper{k:Nat}{A:Around}(r:eY (k+1) A)(env:Env):eY k (A.deeper env):=
 ⟨r.hd,by have:=r.dp;show A.depth+1+3*k+5 < _;omega,by have:=r.un;show A.units+3+16*k+200 < _;omega⟩
theorem vW{A:Around}{C:Addr}{us:List Value}{kw:List (Str×Value)}:(A.under (.builtin "type.__call__" ⟨.ref C :: us,kw⟩)).depth=A.depth+1:=by
 first |rfl |simp [Around.under,Code.weight,Code.isCreation,Code.isGuard,Code.isCaller,Code.frames,Code.isFrame,guardIds]
theorem wK{A:Around}{C:Addr}{us:List Value}{kw:List (Str×Value)}:(A.under (.builtin "type.__call__" ⟨.ref C :: us,kw⟩)).units=A.units+1:=by
 first |rfl |simp [Around.under,Code.cUnits,Code.frames,Code.isFrame]
theorem eY.make{k:Nat}{A:Around}(r:eY (k+1) A)(C:Addr)(us:List Value)(kw:List (Str×Value)):eY k (A.under (.builtin "type.__call__" ⟨.ref C :: us,kw⟩)):=
 ⟨r.hd,by have:=r.dp;rw[vW];omega,by have:=r.un;rw[wK];omega⟩
theorem eY.depth{k:Nat}{A:Around}(r:eY k A):A.depth < recursionLimit:=by have:=r.dp;omega
theorem eY.units{k:Nat}{A:Around}(r:eY k A):A.units+64 < cLine:=by have:=r.un;omega
def Eb:TA:=fun _ H Q=>Q [] H
def FG(ta:TE)(tr:TA):TA:=fun σ H Q=>ta σ H fun x H1=>tr σ H1 fun xs H2=>Q (x :: xs) H2
section
variable{X:Cx}{e:Expr}{es:List Expr}{te:TE}{t:TA}{pos:Pos}
theorem je:PA X [] Eb:=fun _ _ _ _ H Q I h=>Calls.spliced_nil ⟨[],H,I,.nil,h⟩
theorem eO(ha:PE X e te)(hr:PA X es t)(hs:starEach (e :: es) X.env=(false,eval e X.env) :: starEach es X.env:=by rfl):PA X (e :: es) (FG te t):=by
 intro pos pins s σ H Q I h
 rw[hs]
 show wpAny _ _ (spliced ((false,eval e X.env) :: backTo pos (starEach es X.env))) _ _ s
 refine Calls.spliced_cons (thn (ha pins s σ H _ I h) fun u s1 ⟨x,H1,I1,r1,q1⟩=>?_)
 exact thn (hr pos pins s1 σ H1 _ I1 q1) fun us s2 ⟨xs,H2,I2,r2,q2⟩=>⟨x :: xs,H2,I2,.cons r1 r2,q2⟩
def GZ(t:TA):TE:=fun σ H Q=>t σ H fun xs H1=>xs.length<=sizeLine/\∀p,H1 p=none->Q (.ref p) (upd H1 p (.tup xs))
def HB(t:TA):TE:=fun σ H Q=>t σ H fun xs H1=>xs.length<=sizeLine/\∀p,H1 p=none->Q (.ref p) (upd H1 p (.lst xs))
theorem AY{x1}(h:PA X es t):PE X (.Tuple es x1 pos) (GZ t):=by
 intro pins s σ H Q I hq
 refine wpAny_Tuple_spliced (thn (h pos pins s σ H _ I hq) fun us s1 ⟨xs,H1,I1,r,z,q⟩=>⟨by rw[<-r.length];exact z,?_⟩)
 have hf:H1 s1.heap.objs.size=none:=I1.hok.fresh (qO_ _)
 refine⟨.ref s1.heap.objs.size,upd H1 s1.heap.objs.size (.tup xs),I1.laid (t':=s1.toks) (fun b u e=>Heap.get?_push_of_some _ e) (qO_ _) ?_,rfl,q _ hf⟩
 exact⟨z,us,r,⟨_,Heap.get?_push_size _ rfl,rfl,_,rfl⟩⟩
theorem Ek(h:PA X es t):PE X (.List es pos) (HB t):=by
 intro pins s σ H Q I hq
 refine wpAny_List_spliced (thn (h pos pins s σ H _ I hq) fun us s1 ⟨xs,H1,I1,r,z,q⟩=>⟨by rw[<-r.length];exact z,?_⟩)
 have hf:H1 s1.heap.objs.size=none:=I1.hok.fresh (qO_ _)
 refine⟨.ref s1.heap.objs.size,upd H1 s1.heap.objs.size (.lst xs),I1.laid (t':=s1.toks) (fun b u e=>Heap.get?_push_of_some _ e) (qO_ _) ?_,rfl,q _ hf⟩
 exact⟨z,us,0,r,Heap.get?_push_size _ rfl⟩
end
abbrev Sp:=List V->Hp->VK->XK->Prop
abbrev CXT:=List Env->Hp->Shared->XK->Value->Shared->Prop
structure wc (P:Program) (w:World) (K:PySem.W.Frag) (mg:Str->Option Value) (base:Heap) (A:Around) (outer:List Env) (s:Shared) (H:Hp):Prop where
 frames:A.frames=some outer
 mod:Mod K mg base
 bs:∀b o,base.get? b=some o->s.heap.get? b=some o/\H b=none
 bsz:base.objs.size<=s.heap.objs.size
 nI:s.heap.FunFrames base outer
 frf:∀b∈frs outer,H b=none
 hok:HOk P w H s.heap
 bare:AllBare s.gens
def CE(outer:List Env)(P:Program)(w:World)(H:Hp)(s:Shared)(Q:VK)(u:Value)(s':Shared):Prop:=
 ∃v H',s'.os=s.os/\AllBare s'.gens/\Un (frs outer) [] H H' s.heap s'.heap/\HOk P w H' s'.heap/\RelV v u/\Q v H'
def CR(CX:CXT)(outer:List Env)(P:Program)(w:World)(H:Hp)(s:Shared)(Q:VK)(E:XK)(r:Result)(s':Shared):Prop:=
 match r with
 | .ok (.ret u)=>CE outer P w H s Q u s'
 | .ok _=>False
 | .error e=>CX outer H s E e s'
structure bh (P:Program) (w:World) (K:PySem.W.Frag) (mg:Str->Option Value) (base:Heap) (CX:CXT) (k:Nat) (f:Addr) (fd:FuncData) (ps:List Str) (sp:Sp):Prop where
 len:∀vs H Q E,sp vs H Q E->vs.length=ps.length
 run:∀(A:Around) (outer:List Env) (s:Shared) (H:Hp) (args:Args) (us:List Value) (vs:List V) (Q:VK) (E:XK),eY k A->wc P w K mg base A outer s H->BindsTo s fd args (ps.zip us)->Vals vs us->sp vs H Q E->
  codeAny (model P w) A (.call (.ref f) args) (CR CX outer P w H s Q E) s
theorem bh.imp{P:Program}{w:World}{K:PySem.W.Frag}{mg:Str->Option Value}{base:Heap}{CX:CXT}{k:Nat}{f:Addr}{fd:FuncData}{ps:List Str}{sp sp':Sp}(F:bh P w K mg base CX k f fd ps sp)
 (h:∀vs H Q E,sp' vs H Q E->sp vs H Q E):bh P w K mg base CX k f fd ps sp':=
 ⟨fun vs H Q E q=>F.len vs H Q E (h _ _ _ _ q),fun A outer s H args us vs Q E hr he hb hv hs=>F.run A outer s H args us vs Q E hr he hb hv (h _ _ _ _ hs)⟩
theorem wc.make{P:Program}{w:World}{K:PySem.W.Frag}{mg:Str->Option Value}{base:Heap}{A:Around}{outer:List Env}{s:Shared}{H:Hp}(e:wc P w K mg base A outer s H)(C:Addr)(us:List Value)(kw:List (Str×Value)):
 wc P w K mg base (A.under (.builtin "type.__call__" ⟨.ref C :: us,kw⟩)) outer s H:=⟨by first |exact e.frames |(simpa [Around.under,Code.envs,Code.isFrame,pushEnvs] using e.frames),e.mod,e.bs,e.bsz,e.nI,e.frf,e.hok,e.bare⟩
section
variable{X:Cx}{pins:List (Addr×Obj)}{σ:St}{H:Hp}{s s':Shared}
theorem Inv.Ff(I:Inv X pins σ H s):wc X.prog X.w X.K X.mg X.base X.A X.stack s H:=
 ⟨I.ok.frames,I.ok.mod,I.bs,Nat.le_trans I.ok.bsz I.sz,I.stack,I.oW,I.hok,I.bare⟩
theorem Inv.after{Q:VK}{u:Value}(I:Inv X pins σ H s)(h:CE X.stack X.prog X.w H s Q u s'):EP X pins σ Q u s':=by
 obtain⟨v,H',os,bare,un,hok,r,q⟩:=h
 obtain⟨hh,g,d,t,os'⟩:=s'
 obtain rfl:os'=s.os:=os
 exact⟨v,H',I.call (h':=hh) (g':=g) (d':=d) (t':=t) (ch:=[]) un hok bare (fun b z=>absurd z (by simp)),r,q⟩
end
def GP(sp:Sp)(dvs:List V)(E:XK)(t:TA):TE:=fun σ H Q=>t σ H fun vs H1=>sp (vs++dvs) H1 Q E
def zt(C:Addr)(m:Str)(sp:Sp)(dvs:List V)(E:XK)(ta:TE)(t:TA):TE:=fun σ H Q=>ta σ H fun x H1=>∃a dx fs,x= .ref a/\H1 a=some (.ins C dx fs)/\fs.lookup m=none/\
 t σ H1 fun vs H2=>sp (x :: (vs++dvs)) H2 Q E
def Dk(C:Addr)(sp:Sp)(dvs:List V)(E:XK)(t:TA):TE:=fun σ H Q=>t σ H fun vs H1=>∀x dx,H1 x=none->H1 dx=none->dx≠x->
 sp (.ref x :: (vs++dvs)) (upd (upd H1 dx (.own x)) x (.ins C dx [])) (fun v H2=>v= .non/\Q (.ref x) H2) E
def Binds(K:PySem.W.Frag)(fd:FuncData)(ps:List Str)(ds:List Value):Prop:=
 ∀(s:Shared) (us:List Value),K.In s.heap->(us++ds).length=ps.length->BindsTo s fd ⟨us,[]⟩ (ps.zip (us++ds))
theorem Binds.all{K:PySem.W.Frag}{fd:FuncData}{ps:List Str}(h:∀us:List Value,us.length=ps.length->bindArgs fd ⟨us,[]⟩=pure (ps.zip us)):Binds K fd ps []:=fun s us _ hl=>by
 rw[qY_]at hl ⊢
 exact .of_eq (h us hl)
def fZ(CX:CXT)(X:Cx)(E:XK):Prop:=∀(pins:List (Addr×Obj)) (σ:St) (H:Hp) (s:Shared) (e:Value) (s':Shared),Inv X pins σ H s->CX X.stack H s E e s'->X.xe e s'
section
variable{X:Cx}{CX:CXT}{k:Nat}{f C:Addr}{fd:FuncData}{ps:List Str}{sp:Sp}{dvs:List V}{ds:List Value}{E:XK}{x m:Str}{p pos apos:Pos}{e o:Expr}{es:List Expr}{ta:TE}{t:TA}
theorem wz{pins:List (Addr×Obj)}{σ:St}{H:Hp}{s:Shared}{Q:VK}{us:List Value}{vs:List V}(F:bh X.prog X.w X.K X.mg X.base CX k f fd ps sp)(hr:eY k X.A)(hb:Binds X.K fd ps ds)(hd:Vals dvs ds)(hx:fZ CX X E)
 (I:Inv X pins σ H s) (r:Vals vs us) (h:sp (vs++dvs) H Q E):wpAny (model X.prog X.w) X.A (call (.ref f) us) (EP X pins σ Q) X.xe s:=by
 have r2:Vals (vs++dvs) (us++ds):=r.append hd
 have hl:(us++ds).length=ps.length:=by rw[<-r2.length];exact F.len _ _ _ _ h
 refine wpAny_call (codeAny_mono (F.run X.A X.stack s H ⟨us,[]⟩ (us++ds) (vs++dvs) Q E hr I.Ff (hb s us I.kIn hl) r2 h) fun r s' hq=>?_)
 cases r with
 |error e=>exact hx pins σ H s e s' I hq
 |ok fl=>
  cases fl with
  |ret u=>exact I.after hq
  |next=>exact False.elim hq
  |brk=>exact False.elim hq
  |cont=>exact False.elim hq
theorem Cj(F:bh X.prog X.w X.K X.mg X.base CX k f fd ps sp)(hr:eY k X.A)(hg:Gl X x)(hm:X.mg x=some (.ref f))(hk:PySem.W.keepIn X.K (.ref f)=true)(hb:Binds X.K fd ps ds)(hd:Vals dvs ds)(hx:fZ CX X E)
 (ha:PA X (e :: es) t) (hdb:(x==("__debug__":Str))=false:=by decide) (he:starEach (e :: es) X.env=(false,eval e X.env) :: starEach es X.env:=by rfl) (hpl:(backTo pos (starEach es X.env)).any (·.1)=false:=by rfl):
 PE X (.Call (.Name x p) (e :: es) [] pos) (GP sp dvs E t):=by
 intro pins s σ H Q I h
 refine wpAny_Call_Name_kw (kQ I hg hm ?_ hdb)
 refine PySem.W.callWith_K (h₀:=X.base) I.ok.mod.kin hk (thn (ha pos pins s σ H _ I h) fun us s1 ⟨vs,H1,I1,r,q⟩=>⟨I1.kIn,?_⟩) he hpl
 exact wz F hr hb hd hx I1 r q
theorem Bw{pl:Sem Bool}(he:PE X o ta)(c:Cls X.K C)(hm:Meth X.K C m f)(F:bh X.prog X.w X.K X.mg X.base CX k f fd ps sp)(hr:eY k X.A)(hb:Binds X.K fd ps ds)(hd:Vals dvs ds)(hx:fZ CX X E)(ha:PA X (e :: es) t)
 (hst:starEach (e :: es) X.env=(false,eval e X.env) :: starEach es X.env:=by rfl) (hpl:(backTo pos (starEach es X.env)).any (·.1)=false:=by rfl)
 (ht:eval (.Call (.Attribute o m apos) (e :: es) [] pos) X.env=(do
   let ov <-eval o X.env
   standAt apos.atName
   let (f,first) <-holding [ov] (getMethod ov m pl)
   callWith pos f first (backTo pos (starEach (e :: es) X.env)) (backToKw pos (keywordEach [] X.env))):=by rfl):
 PE X (.Call (.Attribute o m apos) (e :: es) [] pos) (zt C m sp dvs E ta t):=by
 intro pins s σ H Q I h
 refine PySem.W.methodCall_KW (pl:=pl) (thn (he pins s σ H _ I h) fun u s1 ⟨x,H1,I1,rx,a,dx,fs,ex,ea,l,q⟩=>?_) ht
 subst ex
 obtain rfl:u=Value.ref a:=rx
 refine my I1 ea c hm l ?_
 refine PySem.W.callWith_K (first:=[.ref a]) (h₀:=X.base) I.ok.mod.kin hm.kp (thn (ha pos pins s1 σ H1 _ I1 q) fun us s2 ⟨vs,H2,I2,r,q2⟩=>⟨I2.kIn,?_⟩) hst hpl
 exact wz (us:= .ref a :: us) (vs:= .ref a :: vs) F hr hb hd hx I2 (.cons rfl r) q2
theorem zT{pl:Sem Bool}(he:PE X o ta)(c:Cls X.K C)(hm:Meth X.K C m f)(F:bh X.prog X.w X.K X.mg X.base CX k f fd ps sp)(hr:eY k X.A)(hb:Binds X.K fd ps ds)(hd:Vals dvs ds)(hx:fZ CX X E)
 (ht:eval (.Call (.Attribute o m apos) [] [] pos) X.env=(do
   let ov <-eval o X.env
   standAt apos.atName
   let (f,first) <-holding [ov] (getMethod ov m pl)
   callWith pos f first (backTo pos (starEach [] X.env)) (backToKw pos (keywordEach [] X.env))):=by rfl):
 PE X (.Call (.Attribute o m apos) [] [] pos) (zt C m sp dvs E ta Eb):=by
 intro pins s σ H Q I h
 refine PySem.W.methodCall_KW (pl:=pl) (thn (he pins s σ H _ I h) fun u s1 ⟨x,H1,I1,rx,a,dx,fs,ex,ea,l,q⟩=>?_) ht
 subst ex
 obtain rfl:u=Value.ref a:=rx
 refine my I1 ea c hm l ?_
 exact PySem.W.callWith_K0 (first:=[.ref a]) I1.kIn hm.kp (wz (us:=[.ref a]) (vs:=[.ref a]) F hr hb hd hx I1 (.cons rfl .nil) q)
structure Mk (K:PySem.W.Frag) (C f:Addr):Prop where
 makes:PySem.W.makesIn K C=true
 init:PySem.W.findIn K (.ref C) "__init__"=some (some (.ref f))
 fn:PySem.W.isFn K (.ref f)=true
 kp:PySem.W.keepIn K (.ref C)=true
theorem uv{pins:List (Addr×Obj)}{σ:St}{H:Hp}{s:Shared}{Q:VK}{us:List Value}{vs:List V}(M:Mk X.K C f)(F:bh X.prog X.w X.K X.mg X.base CX k f fd ps sp)(hr:eY (k+1) X.A)(hb:Binds X.K fd ps ds)(hd:Vals dvs ds)
 (hx:fZ CX X E) (I:Inv X pins σ H s) (r:Vals vs us)
 (h:∀x dx,H x=none->H dx=none->dx≠x->sp (.ref x :: (vs++dvs)) (upd (upd H dx (.own x)) x (.ins C dx [])) (fun v H2=>v= .non/\Q (.ref x) H2) E):
 wpAny (model X.prog X.w) X.A (call (.ref C) us) (EP X pins σ Q) X.xe s:=by
 have hq:=h (s.heap.objs.size+1) s.heap.objs.size (I.hok.fresh (Nat.le_succ _)) (I.hok.fresh (qO_ _)) (Nat.ne_of_lt (Nat.lt_succ_self _))
 have I2:=Inv.made (C:=C) I
 have r2:Vals (V.ref (s.heap.objs.size+1) :: (vs++dvs)) (Value.ref (s.heap.objs.size+1) :: (us++ds)):= .cons rfl (r.append hd)
 have hl:(Value.ref (s.heap.objs.size+1) :: us++ds).length=ps.length:=by
  have e:=r2.length
  rw[F.len _ _ _ _ hq]at e
  exact e.symm
 refine wpAny_call (Au (f:=f) I.kIn M.makes M.init (beq_iff_eq.mp M.fn) (codeAny_mono (F.run _ X.stack _ _ ⟨Value.ref (s.heap.objs.size+1) :: us,[]⟩ (Value.ref (s.heap.objs.size+1) :: (us++ds)) _ _ E (hr.make C us [])
  (I2.Ff.make C us []) (hb _ (Value.ref (s.heap.objs.size+1) :: us) I2.kIn hl) r2 hq) fun r s' hq'=>?_))
 cases r with
 |error e=>exact hx pins σ _ _ e s' I2 hq'
 |ok fl=>
  cases fl with
  |ret u=>
   obtain⟨v,H',I3,rv,ev,q3⟩:=I2.after hq'
   subst ev
   exact⟨rv,⟨V.ref (s.heap.objs.size+1),H',I3,rfl,q3⟩⟩
  |next=>exact False.elim hq'
  |brk=>exact False.elim hq'
  |cont=>exact False.elim hq'
theorem Bv(M:Mk X.K C f)(F:bh X.prog X.w X.K X.mg X.base CX k f fd ps sp)(hr:eY (k+1) X.A)(hg:Gl X x)(hm:X.mg x=some (.ref C))(hb:Binds X.K fd ps ds)(hd:Vals dvs ds)(hx:fZ CX X E)
 (ha:PA X (e :: es) t) (hdb:(x==("__debug__":Str))=false:=by decide) (he:starEach (e :: es) X.env=(false,eval e X.env) :: starEach es X.env:=by rfl) (hpl:(backTo pos (starEach es X.env)).any (·.1)=false:=by rfl):
 PE X (.Call (.Name x p) (e :: es) [] pos) (Dk C sp dvs E t):=by
 intro pins s σ H Q I h
 refine wpAny_Call_Name_kw (kQ I hg hm ?_ hdb)
 refine PySem.W.callWith_K (h₀:=X.base) I.ok.mod.kin M.kp (thn (ha pos pins s σ H _ I h) fun us s1 ⟨vs,H1,I1,r,q⟩=>⟨I1.kIn,?_⟩) he hpl
 exact uv M F hr hb hd hx I1 r q
theorem A8(M:Mk X.K C f)(F:bh X.prog X.w X.K X.mg X.base CX k f fd ps sp)(hr:eY (k+1) X.A)(hg:Gl X x)(hm:X.mg x=some (.ref C))(hb:Binds X.K fd ps ds)(hd:Vals dvs ds)(hx:fZ CX X E)
 (hdb:(x==("__debug__":Str))=false:=by decide):PE X (.Call (.Name x p) [] [] pos) (Dk C sp dvs E Eb):=by
 intro pins s σ H Q I h
 refine wpAny_Call_Name_kw (kQ I hg hm ?_ hdb)
 exact PySem.W.callWith_K0 I.kIn M.kp (uv (us:=[]) M F hr hb hd hx I .nil h)
end
structure aB (N P:List Str) (sc:Scope):Prop where
 kind:sc.kind= .function
 co:sc.isCoroutine=false
 gen:sc.isGenerator=false
 nd:N.Nodup
 pre:N.take P.length=P
 par:∀x∈P,sc.names.lookup x=some .local\/sc.names.lookup x=some .cell
 EF:∀y∈sc.names,y.2≠.free
theorem rM{kindOf:Str->Option NameKind}{x:Str}:∀{binds:List (Str×Value)} {m:Str->Option Value},(∀v,(x,v)∉binds)->bindL kindOf binds m x=m x
 | [],_,_=>rfl
 |(n,v) :: r,m,h=>by
  unfold bindL
  rw[rM fun w hw=>h w (qR_ _ hw)]
  split
  · have:x≠n:=by rintro rfl;exact h v qI_
    simp [this]
  · rfl
theorem r6{kindOf:Str->Option NameKind}{x:Str}:∀{binds:List (Str×Value)} {m:Str->Option Value},(∀v,(x,v)∉binds)->bindC kindOf binds m x=m x
 | [],_,_=>rfl
 |(n,v) :: r,m,h=>by
  unfold bindC
  rw[r6 fun w hw=>h w (qR_ _ hw)]
  split
  · rfl
  · have:x≠n:=by rintro rfl;exact h v qI_
    simp [this]
theorem rD{kindOf:Str->Option NameKind}{x:Str}{v:Value}:∀{P:List Str} {vs:List Value} {i:Nat} {m:Str->Option Value},P.Nodup->P[i]? =some x->vs[i]? =some v->kindOf x=some .local->
 bindL kindOf (P.zip vs) m x=some v
 | [],_,_,_,_,h,_,_=>by simp at h
 |_ :: _,[],_,_,_,_,h,_=>by simp at h
 |p :: P,w :: vs,0,m,nd,h1,h2,hk=>by
  simp at h1 h2;subst h1;subst h2
  show bindL kindOf ((p,w) :: P.zip vs) m p=_
  unfold bindL
  rw[rM fun v hv=>(List.nodup_cons.mp nd).1 (List.of_mem_zip hv).1,if_pos hk]
  simp
 |p :: P,w :: vs,i+1,m,nd,h1,h2,hk=>by
  show bindL kindOf ((p,w) :: P.zip vs) m x=_
  unfold bindL
  exact rD (i:=i) (List.nodup_cons.mp nd).2 (by simpa using h1) (by simpa using h2) hk
theorem rP{kindOf:Str->Option NameKind}{x:Str}{v:Value}:∀{P:List Str} {vs:List Value} {i:Nat} {m:Str->Option Value},P.Nodup->P[i]? =some x->vs[i]? =some v->kindOf x≠some .local->
 bindC kindOf (P.zip vs) m x=some v
 | [],_,_,_,_,h,_,_=>by simp at h
 |_ :: _,[],_,_,_,_,h,_=>by simp at h
 |p :: P,w :: vs,0,m,nd,h1,h2,hk=>by
  simp at h1 h2;subst h1;subst h2
  show bindC kindOf ((p,w) :: P.zip vs) m p=_
  unfold bindC
  rw[r6 fun v hv=>(List.nodup_cons.mp nd).1 (List.of_mem_zip hv).1,if_neg hk]
  simp
 |p :: P,w :: vs,i+1,m,nd,h1,h2,hk=>by
  show bindC kindOf ((p,w) :: P.zip vs) m x=_
  unfold bindC
  exact rP (i:=i) (List.nodup_cons.mp nd).2 (by simpa using h1) (by simpa using h2) hk
def start(N:List Str)(vs:List V):St:=vs.map some++List.replicate (N.length - vs.length) none
def li(CX:CXT)(P:Program)(w:World)(K:PySem.W.Frag)(mg:Str->Option Value)(base:Heap)(N:List Str)(qual:Str)(scope:Scope)(f:Addr)(cd:Value)(A:Around)(outer:List Env)(s:Shared)(H:Hp)(E:XK):Cx where
 prog:=P
 w:=w
 K:=K
 mg:=mg
 base:=base
 A:=A.deeper (envOfC qual scope s.heap.objs.size f cd)
 N:=N
 s₀:=s
 H₀:=H
 env:=envOfC qual scope s.heap.objs.size f cd
 outer:=outer
 stack:=envOfC qual scope s.heap.objs.size f cd :: outer
 ex:=[]
 calm:=true
 fn:=fun _=>true
 pn:=[]
 xe:=fun e s'=>wpAny (model P w) (A.deeper (envOfC qual scope s.heap.objs.size f cd)) (leaving (envOfC qual scope s.heap.objs.size f cd) e) (fun _ s''=>CX outer H s E e s'') (fun e' s''=>CX outer H s E e' s'') s'
theorem ul{sc:Scope}{n:Nat}{x:Str}(h:sc.names.lookup x=some .cell):∃c,(cellsFrom n sc.names []).lookup x=some c:=by
 have q:=PySem.W.cellsFrom_some sc.names n [] (.inl h)
 exact Option.isSome_iff_exists.mp q
theorem yL{CX:CXT}{P:Program}{w:World}{K:PySem.W.Frag}{mg:Str->Option Value}{base:Heap}{N ps:List Str}{qual:Str}{scope:Scope}{f:Addr}{cd:Value}{A:Around}{outer:List Env}{s s1:Shared}{H:Hp}{E:XK}{us:List Value}{vs:List V}
 (S:aB N ps scope) (hd:A.handled=none) (e0:wc P w K mg base A outer s H) (hl:vs.length=ps.length) (r:Vals vs us)
 (x:InCallC s s.heap.objs.size (bindL (envOfC qual scope s.heap.objs.size f cd).kindOf (ps.zip us) fun _=>none) (cellsFrom (s.heap.objs.size+1) scope.names []) (bindC (envOfC qual scope s.heap.objs.size f cd).kindOf (ps.zip us) fun _=>none) s1):
 Inv (li CX P w K mg base N qual scope f cd A outer s H E) [] (start N vs) H s1:=by
 have hpl:ps.length<=N.length:=by have:=congrArg List.length S.pre;rw[List.length_take]at this;omega
 obtain⟨h1,tk,rfl,hk⟩:=x.done
 have noA:∀b:Addr,b∉(li CX P w K mg base N qual scope f cd A outer s H E).ex:=fun b z=>absurd (show b∈([]:List Addr)from z) (by simp)
 refine⟨⟨e0.mod,S.kind,rfl,rfl,qO_ _,fun y z c h1 h2=>?_,fun y hy=>?_,fun y c _ h=>?_,fun _=>hd,Around.frames_deeper e0.frames,.inr ⟨rfl,rfl⟩,fun b z=>absurd z (noA b),e0.bs,e0.bsz,fun b _ _=>noA b,fun b z=>absurd z (noA b),e0.nI,e0.frf⟩,
  rfl,e0.bare,Un.kept hk,⟨_,x.toInCall.ns,fun i y v h1 h2 h3=>?_⟩,fun y c h=>⟨_,x.cell y c h⟩,e0.hok.fresh (qO_ _),fun y c h=>?_,fun p hp=>absurd (show p∈([]:List (Addr×Obj))from hp) (by simp),e0.hok.kept hk,?_⟩
 · exact name_of_addr x.apart (PySem.mem_of_lookup h1) (PySem.mem_of_lookup h2)
 · have hy:scope.names.lookup y=some .cell\/scope.names.lookup y=some .free:=hy
   rcases hy with hy |hy
   · exact ul hy
   · exact absurd rfl (S.EF _ (PySem.mem_of_lookup hy))
 · exact Nat.le_of_lt (x.above y c (PySem.mem_of_lookup h))
 · have hi:i < vs.length:=by
    unfold start at h2
    by_cases hi:i < vs.length
    · exact hi
    · rw[qL_ (by simpa using hi)]at h2
      rw[List.getElem?_replicate]at h2
      split at h2 <;> cases h2
   have ha:vs[i]? =some v:=by
    unfold start at h2
    rw[qK_ (by simpa using hi),qQ_]at h2
    cases e:vs[i]? with
    |none=>rw[e]at h2;cases h2
    |some a=>rw[e]at h2;cases h2;rfl
   obtain⟨u,hu,rv⟩:=r.get ha
   have hp:ps[i]? =some y:=by
    rw[<-S.pre,List.getElem?_take_of_lt (by omega)];exact h1
   have ndP:ps.Nodup:=by rw[<-S.pre];exact S.nd.sublist (List.take_sublist _ _)
   refine⟨u,rv,?_⟩
   rcases S.par y (qD_ hp)with k |k
   · exact .inl ⟨k,rD ndP hp hu k⟩
   · obtain⟨c,e⟩:=ul (n:=s.heap.objs.size+1) k
     refine .inr ⟨.inl k,c,e,?_⟩
     have q:=x.cell y c e
     rw[rP ndP hp hu (by show scope.names.lookup y≠_;rw[k];decide)]at q
     exact q
 · exact e0.hok.fresh (Nat.le_of_lt (x.above y c (PySem.mem_of_lookup h)))
 · unfold start
   show _=N.length
   rw[qN_,qM_,List.length_replicate]
   omega
theorem CO{CX:CXT}{P:Program}{w:World}{K:PySem.W.Frag}{mg:Str->Option Value}{base:Heap}{k:Nat}{f:Addr}{name qual:Str}{params:Arguments}{body:List Stmt}{scope:Scope}{dV kV doc pm cdv ct oc:Value}{an od:Option Addr}
 {osl:Array (Option Value)} {N ps:List Str} {sp:Sp} (lk:K.lookup f=some ⟨oc,od,.func (PySem.W.fnOf name qual params body scope dV kV doc pm an cdv ct),osl⟩) (hcd:PySem.W.codeIn K cdv qual=true) (S:aB N ps scope)
 (len:∀vs H Q E,sp vs H Q E->vs.length=ps.length)
 (hbody:∀(A:Around) (outer:List Env) (s:Shared) (H:Hp) (vs:List V) (Q:VK) (E:XK),eY k (A.deeper (envOfC qual scope s.heap.objs.size f cdv))->sp vs H Q E->
   ∃t,PSs (li CX P w K mg base N qual scope f cdv A outer s H E) body t/\t {nx:=fun _ H'=>Q .non H',rt:=Q} (start N vs) H):
 bh P w K mg base CX (k+1) f (PySem.W.fnOf name qual params body scope dV kV doc pm an cdv ct) ps sp:=by
 refine⟨len,fun A outer s H args us vs Q E hr e0 hb r hsp=>?_⟩
 have hl:=len _ _ _ _ hsp
 have KX:K.In s.heap:=e0.mod.kin.keeps fun b o e=>(e0.bs b o e).1
 have lim:s.heap.NoLimit:=e0.mod.nolimit.keeps fun b o e=>(e0.bs b o e).1
 have hkind:∀y∈ps.zip us,scope.names.lookup y.1=some .local\/(scope.names.lookup y.1=some .cell/\((cellsFrom (s.heap.objs.size+1) scope.names []).lookup y.1).isSome=true):=fun⟨n,v⟩ hy=>by
  rcases S.par n (List.of_mem_zip hy).1 with q |q
  · exact .inl q
  · exact .inr ⟨q,PySem.W.cellsFrom_some _ _ _ (.inl q)⟩
 refine codeAny_call_function hr.depth (KX _ _ lk) rfl S.co S.gen rfl (PySem.W.codeRec_of KX hcd) (hb _ _ _ _ ?_)
 refine wpAny_newFunctionEnv_cells S.kind hkind fun env he s1 x=>?_
 subst he
 refine⟨lim.keeps x.toInCall.keep,codeAny_func ?_⟩
 obtain⟨t,ht,hq⟩:=hbody A outer s H vs Q E (hr.deeper _) hsp
 have I:Inv (li CX P w K mg base N qual scope f cdv A outer s H E) [] (start N vs) H s1:=yL S hr.hd e0 hl r x
 refine wpAny_mono (ht [] s1 (start N vs) H _ I hq) (fun fl s' hs=>?_) fun e s' hs=>hs
 have fin:∀{σ':St} {H':Hp} {v:V} {u:Value},Inv (li CX P w K mg base N qual scope f cdv A outer s H E) [] σ' H' s'->RelV v u->Q v H'->CE outer P w H s Q u s':=
  fun {σ' H' v u} J rv q=>⟨v,H',J.os,J.bare,J.base,J.hok,rv,q⟩
 cases fl with
 |ret u=>
  obtain⟨v,σ',H',J,rv,q⟩:=hs
  exact fin J rv q
 |next=>
  obtain⟨σ',H',J,q⟩:=hs
  exact fin (v:=V.non) (u:=Value.none) J rfl q
 |brk=>
  obtain⟨_,_,_,q⟩:=hs
  exact False.elim q
 |cont=>
  obtain⟨_,_,_,q⟩:=hs
  exact False.elim q
section
variable{X:Cx}{x:Str}{p pos:Pos}{e:Expr}{es:List Expr}{t:TA}{id T:String}{r:List V->Hp->VK->Prop}
def tCB(r:List V->Hp->VK->Prop)(t:TA):TE:=fun σ H Q=>t σ H fun vs H1=>r vs H1 Q
theorem qG(hc:gh X (.builtin id) r)(hg:Gl X x)(hm:X.mg x=none)(hv:bootBuiltins x=some (.builtin id))(ha:PA X (e :: es) t)(hn:x≠"__name__":=by decide)(hdb:(x==("__debug__":Str))=false:=by decide)
 (he:starEach (e :: es) X.env=(false,eval e X.env) :: starEach es X.env:=by rfl) (hpl:(backTo pos (starEach es X.env)).any (·.1)=false:=by rfl):PE X (.Call (.Name x p) (e :: es) [] pos) (tCB r t):=by
 intro pins s σ H Q I h
 refine wpAny_Call_Name_kw (mm I hg hm hv ?_ hn hdb)
 exact PyProof.Rows.callWith_builtin1 (thn (ha pos pins s σ H _ I h) fun us s1 ⟨vs,H1,I1,r1,q1⟩=>hc pins s1 σ H1 vs us Q I1 r1 q1) he hpl
theorem yQ(hc:gh X (.type T) r)(hg:Gl X x)(hm:X.mg x=none)(hv:bootBuiltins x=some (.type T))(ha:PA X (e :: es) t)(hn:x≠"__name__":=by decide)(hdb:(x==("__debug__":Str))=false:=by decide)
 (he:starEach (e :: es) X.env=(false,eval e X.env) :: starEach es X.env:=by rfl) (hpl:(backTo pos (starEach es X.env)).any (·.1)=false:=by rfl):PE X (.Call (.Name x p) (e :: es) [] pos) (tCB r t):=by
 intro pins s σ H Q I h
 refine wpAny_Call_Name_kw (mm I hg hm hv ?_ hn hdb)
 exact PyProof.Rows.callWith_type1 (thn (ha pos pins s σ H _ I h) fun us s1 ⟨vs,H1,I1,r1,q1⟩=>hc pins s1 σ H1 vs us Q I1 r1 q1) he hpl
end
end L2
namespace HT
open PySem PyProof.Rows
def lexLt:List Int->List Int->Bool
 | [],[]=>false
 | [],_ :: _=>true
 |_ :: _,[]=>false
 |x :: xs,y :: ys=>if x=y then lexLt xs ys else decide (x < y)
theorem pG(x y:Int)(xs ys:List Int):lexLt (x :: xs) (y :: ys)=if x=y then lexLt xs ys else decide (x < y):=rfl
theorem lQ:lexLt [] []=false:=rfl
theorem kq(y:Int)(ys:List Int):lexLt [] (y :: ys)=true:=rfl
theorem ku(x:Int)(xs:List Int):lexLt (x :: xs) []=false:=rfl
theorem vv(A:Around)(s:Shared)(a:Int)(t:Tok)(c:Int)(u:Tok):∃e,SeqAt.EqAt A s (.int a t) (.int c u) e/\(e=true↔a=c):=
 ⟨(a==c),SeqAt.EqAt.int_int a t c u,by simp⟩
theorem zG(A:Around)(s:Shared)(a:Int)(t:Tok)(c:Int)(u:Tok)(prog:Program)(w:World)(E:Value->Shared->Prop)(Q:Value->Shared->Prop)(h:Q (.bool (decide (a < c))) s):
 wpAny (model prog w) A (richCompare .Lt (.int a t) (.int c u)) Q E s:=
 (PyProof.Rows.lt_int h:wpAny (model prog w) A (compareOp .Lt (.int a t) (.int c u)) Q E s)
section
open PySem.SeqAt
open PySem.AutoSeq1 (wpAny_loadPart')
open PySem.MeetsSeq PySem.MeetsSeq2 PySem.MeetsSeq3
theorem rl(l b:Addr)(items items2:Array Value)(n n2:Nat)(dd dd2:Option Addr)(sl sl2:Array (Option Value))(ns ms:List Int)(hi:IntsAre items.toList ns)(hj:IntsAre items2.toList ms):
 Meets (Builtin.«tuple.__lt__» ⟨[.ref l,.ref b],[]⟩)
  (fun _ R s=>s.heap.get? l=some {cls:= .type "tuple",dict:=dd,data:= .seq items n,slots:=sl}/\s.heap.get? b=some {cls:= .type "tuple",dict:=dd2,data:= .seq items2 n2,slots:=sl2}/\
    R (.ok (.ret (.bool (lexLt ns ms)))) s):=
 .of_wp fun prog w A R s h=>by
  obtain⟨hp,g,d,tk,os⟩:=s;obtain⟨hl,hb,h⟩:=h
  have f2:=AutoSeq1.sub_tuple_tuple
  have z1:items.size=ns.length:=by rw[<-hi.length];simp
  have z2:items2.size=ms.length:=by rw[<-hj.length];simp
  wp_walk using wpAny_loadPart' hl,wpAny_loadPart' hb,wpAny_forIn_list _ (fun rest b s'=>b.1=none/\s'=⟨hp,g,d,tk,os⟩/\∃(vs ws:List Value) (ns' ms':List Int),rest=vs.zip ws/\
   IntsAre vs ns'/\IntsAre ws ms'/\ns'.length+items2.size=ms'.length+items.size/\R (.ok (.ret (.bool (lexLt ns' ms')))) ⟨hp,g,d,tk,os⟩) _
  case turn=>
   rintro⟨y,x⟩ rest b s' ⟨hb',rfl,vs,ws,ns',ms',hz,hvi,hwi,hlen,hR⟩
   cases hvi with
   |nil=>rw[List.zip_nil_left]at hz;cases hz
   |cons a t hvi'=>
    cases hwi with
    |nil=>rw[List.zip_nil_right]at hz;cases hz
    |cons c u hwi'=>
     rw[List.zip_cons_cons]at hz
     injection hz with hyx hrest
     injection hyx with hy hx
     subst hy hx
     rw[pG]at hR
     simp only[List.length_cons]at hlen
     obtain⟨e,he,hiff⟩:=vv A.in1 ⟨hp,g,d,tk,os⟩ a t c u
     refine wpAny_bind (he prog w _ _ ?_)
     cases e with
     |true=>
      rw[if_pos (hiff.mp rfl)]at hR
      wp_walk
      exact⟨rfl,rfl,_,_,_,_,hrest,hvi',hwi',by omega,hR⟩
     |false=>
      rw[if_neg (fun q=>absurd (hiff.mpr q) qC_)]at hR
      have hri:=zG A.in1 ⟨hp,g,d,tk,os⟩ a t c u prog w
      wp_walk using hri
      exact⟨_,rfl,by simpa using hR⟩
  case fin=>
   rintro⟨b1,b2⟩ s' ⟨hb',rfl,vs,ws,ns',ms',hz,hvi,hwi,hlen,hR⟩
   simp only at hb'
   subst hb'
   have hv:lexLt ns' ms'=decide (items.size < items2.size):=by
    cases hvi with
    |nil=>
     cases hwi with
     |nil=>
      simp only[List.length_nil]at hlen
      rw[lQ]
      exact(qa_ (by omega)).symm
     |cons c u hw=>
      simp only[List.length_nil,List.length_cons]at hlen
      rw[kq]
      exact(qZ_ (by omega)).symm
    |cons a t hv=>
     cases hwi with
     |nil=>
      simp only[List.length_nil,List.length_cons]at hlen
      rw[ku]
      exact(qa_ (by omega)).symm
     |cons c u hw=>
      rw[List.zip_cons_cons]at hz
      cases hz
   rw[hv]at hR
   wp_walk
   exact⟨_,rfl,by simpa [Builtin.Tuple.tupleCompareSizes] using hR⟩
  case h=>
   exact⟨rfl,rfl,items.toList,items2.toList,ns,ms,rfl,hi,hj,by omega,h⟩
end
section
variable{prog:Program}{w:World}{A:Around}{E:Value->Shared->Prop}{s:Shared}
theorem wC{l b:Addr}{items items2:Array Value}{ns ms:List Int}{Q:Value->Shared->Prop}(hl:IsTup s.heap l items)(hb:IsTup s.heap b items2)(hi:IntsAre items.toList ns)(hj:IntsAre items2.toList ms)
 (hu:A.units < cLine) (h:Q (.bool (lexLt ns ms)) s):wpAny (model prog w) A (compareOp .Lt (.ref l) (.ref b)) Q E s:=by
 obtain⟨⟨cls,dd,data,sl⟩,ho,hc,n,hd⟩:=id hl
 obtain⟨⟨cls2,dd2,data2,sl2⟩,ho2,hc2,n2,hd2⟩:=id hb
 simp only at hc hd hc2 hd2
 subst hc hd hc2 hd2
 exact richCompare_meets_room (op:= .Lt) ⟨_,ho,rfl⟩ ⟨_,ho2,rfl⟩ PySem.F.slot_tuple_lt PySem.F.entry_tuple_lt (PySem.F.args_tuple_lt_2 _ _) (rl l b items items2 n n2 dd dd2 sl sl2 ns ms hi hj)
  ⟨ho,ho2,show Value.bool (lexLt ns ms)≠Value.notImplemented/\Q (.bool (lexLt ns ms)) s from⟨(fun x=>nomatch x),h⟩⟩ hu
theorem BA{t b:Addr}{vs ws:List Value}{Q:Value->Shared->Prop}(ht:IsTup s.heap t vs.toArray)(hb:IsTup s.heap b ws.toArray)(hv:vs≠ [])
 (h1:ws=[]->Q (.ref t) s) (h2:ws≠ []->Q (.ref s.heap.objs.size) {s with heap:=s.heap.push {cls:= .type "tuple",data:= .seq (vs++ws).toArray}})
 (hsz:vs.length+ws.length<=sizeLine):wpAny (model prog w) A (binaryOp .Add (.ref t) (.ref b)) Q E s:=by
 obtain⟨⟨cls,dd,data,sl⟩,ho,hc,n,hd⟩:=id ht
 obtain⟨⟨cls2,dd2,data2,sl2⟩,ho2,hc2,n2,hd2⟩:=id hb
 simp only at hc hd hc2 hd2
 subst hc hd hc2 hd2
 have e:vs.toArray++ws.toArray=(vs++ws).toArray:=by simp
 by_cases hw:ws=[]
 · exact concat_meets ⟨_,ho,rfl⟩ ⟨_,ho2,rfl⟩ noFill_tuple_add seq_tuple_add PySem.F.slot_tuple_add PySem.F.entry_tuple_add (PySem.F.args_tuple_add_2 _ _)
    (tuple_addW1 t b vs.toArray ws.toArray n n2 dd dd2 sl sl2 (by simpa using hv) (by simp [hw])) ⟨ho,ho2,h1 hw⟩
 · refine concat_meets ⟨_,ho,rfl⟩ ⟨_,ho2,rfl⟩ noFill_tuple_add seq_tuple_add PySem.F.slot_tuple_add PySem.F.entry_tuple_add (PySem.F.args_tuple_add_2 _ _)
    (tuple_addW2 t b vs.toArray ws.toArray n n2 dd dd2 sl sl2 (by simpa using hv) (by simpa using hw) (by rw[qW_,qW_];exact hsz)) ⟨ho,ho2,?_⟩
   rw[e]
   exact h2 hw
def sIx(n d:Nat):Option Int->Nat
 |none=>d
 |some v=>if v < 0 then (v+(n:Int)).toNat else min v.toNat n
theorem EL(n d:Nat)(hd:d<=n)(o:Option Int):sIx n d o<=n:=by
 cases o with
 |none=>exact hd
 |some v=>
  show (if v < 0 then (v+(n:Int)).toNat else min v.toNat n)<=n
  by_cases hv:v < 0
  · rw[if_pos hv];omega
  · rw[if_neg hv];exact Nat.min_le_right _ _
theorem xE(v:Int)(n d:Nat):(if v < 0 then max (v+(n:Int)) 0 else min v (n:Int))=((sIx n d (some v):Nat):Int):=by
 show (if v < 0 then max (v+(n:Int)) 0 else min v (n:Int))=(((if v < 0 then (v+(n:Int)).toNat else min v.toNat n):Nat):Int)
 by_cases hv:v < 0
 · simp only[if_pos hv];omega
 · simp only[if_neg hv];omega
theorem wd(lo hi:Option Int)(n:Nat):Builtin.Slice.sliceAdjust lo hi 1 (n:Int)=(((sIx n 0 lo:Nat):Int),((sIx n n hi:Nat):Int)):=by
 have h1:¬((1:Int) < 0):=by omega
 unfold Builtin.Slice.sliceAdjust
 simp only[h1,if_false]
 refine Prod.ext ?_ ?_
 · cases lo with
   |none=>rfl
   |some v=>exact xE v n 0
 · cases hi with
   |none=>rfl
   |some v=>exact xE v n n
theorem v8(i j:Nat):Builtin.Slice.slicePlaces (i:Int) (j:Int) 1=j - i:=by
 unfold Builtin.Slice.slicePlaces
 have h1:(1:Int) > 0:=by omega
 simp only[h1,if_true,Int.ediv_one]
 split <;> omega
theorem p8{v:Value}{o:Option Int}{Q:Option Int->Shared->Prop}(p:IsPart v o)(h:Q o s):wpAny (model prog w) A (Builtin.Slice.slicePartIndex v) Q E s:=by
 cases p with
 |none=>exact slicePart_none h
 |int i t=>exact slicePart_int h
theorem nS{sl:Addr}{vl vu:Value}{lo hi:Option Int}{n:Nat}{Q:Int×Int×Nat->Shared->Prop}(hs:s.heap.IsSliceOf sl vl vu .none)(pl:IsPart vl lo)(pu:IsPart vu hi)
 (h:Q (((sIx n 0 lo:Nat):Int),1,sIx n n hi - sIx n 0 lo) s):wpAny (model prog w) A (Builtin.Slice.sliceApplied (.ref sl) (pure (n:Int))) Q E s:=by
 obtain⟨os,hos,hcs,hds⟩:=id hs
 unfold Builtin.Slice.sliceApplied Builtin.Slice.sliceFields
 refine wpAny_bind (wpAny_bind (wpAny_field hos hds (x:=vl) rfl (wpAny_bind (wpAny_field hos hds (x:=vu) rfl (wpAny_bind (wpAny_field hos hds (x:= .none) rfl (wpAny_pure ?_)))))))
 refine wpAny_bind (slicePart_none ?_)
 show wpAny _ _ (if ((1:Int)==0)=true then _ else _) _ _ s
 rw[if_neg (by decide)]
 refine wpAny_bind (p8 pl (wpAny_bind (p8 pu (wpAny_bind (wpAny_pure ?_)))))
 show wpAny _ _ (match Builtin.Slice.sliceAdjust lo hi 1 (n:Int)with |(lo,hi)=>pure (lo,(1:Int),Builtin.Slice.slicePlaces lo hi 1)) _ _ s
 rw[wd lo hi n]
 show wpAny _ _ (pure (((sIx n 0 lo:Nat):Int),(1:Int),Builtin.Slice.slicePlaces ((sIx n 0 lo:Nat):Int) ((sIx n n hi:Nat):Int) 1)) _ _ s
 rw[v8]
 exact wpAny_pure h
theorem zP(xs:Array Value)(i k:Nat):((List.range k).filterMap fun(m:Nat)=>xs[((i:Int)+(m:Int)*1).toNat]?).toArray=((xs.toList.drop i).take k).toArray:=by
 have e:(fun(m:Nat)=>xs[((i:Int)+(m:Int)*1).toNat]?)=fun m=>xs[i+m]?:=by
  funext m
  have:((i:Int)+(m:Int)*1).toNat=i+m:=by omega
  rw[this]
 rw[e]
 have:=pick_run xs i k
 rw[List.filterMap_map]at this
 have e2:((fun x=>xs[x]?) ∘ fun x=>i+x)=fun m=>xs[i+m]?:=rfl
 rw[e2]at this
 rw[this]
theorem mW{t sl:Addr}{items:Array Value}{vl vu:Value}{lo hi:Option Int}{Q:Value->Shared->Prop}(ht:IsTup s.heap t items)(hs:s.heap.IsSliceOf sl vl vu .none)(pl:IsPart vl lo)(pu:IsPart vu hi)
 (hw:¬(sIx items.size 0 lo=0/\sIx items.size items.size hi=items.size))
 (h:Q (.ref s.heap.objs.size) {s with heap:=s.heap.push {cls:= .type "tuple",data:= .seq ((items.toList.drop (sIx items.size 0 lo)).take (sIx items.size items.size hi - sIx items.size 0 lo)).toArray}})
 (hsz:items.size<=sizeLine):wpAny (model prog w) A (getItem (.ref t) (.ref sl)) Q E s:=by
 have htake:sizeOk (.seq ((items.toList.drop (sIx items.size 0 lo)).take (sIx items.size items.size hi - sIx items.size 0 lo)).toArray):=by
  show ((items.toList.drop (sIx items.size 0 lo)).take (sIx items.size items.size hi - sIx items.size 0 lo)).toArray.size<=sizeLine
  rw[qW_,List.length_take,List.length_drop,Array.length_toList]
  omega
 have hj:sIx items.size items.size hi<=items.size:=EL _ _ (qO_ _) hi
 obtain⟨os,hos,hcs,hds⟩:=id hs
 have hTs:s.TypeIs (.ref sl) "slice":=⟨os,hos,hcs⟩
 unfold getItem
 try with_reducible refine wpAny_holding ?_
 first |refine wpAny_bind (wpAny_pure ?_) |skip
 refine wpAny_bind (wpAny_sequenceKey ht.typeIs (by decide) ?_)
 refine wpAny_bind (wpAny_callSpecial?_slot (name:=Str.ofString "__getitem__") ht.typeIs PyProof.Rows.slot_tuple_getitem
  (wpAny_call_entry PyProof.Rows.slot_tuple_getitem ht.typeIs entry_tuple_getitem ?_ (args_tuple_getitem _ _)))
 show wpAny _ _ (Builtin.Tuple.tupleItemsOf (.ref t) >>= _) _ _ s
 refine wpAny_bind (tupleItemsOf_ ht ?_)
 refine wpAny_bind (wpAny_typeOf hTs ?_)
 rw[if_pos (by decide)]
 refine wpAny_bind (nS hs pl pu ?_)
 have hno:¬((((sIx items.size 0 lo:Nat):Int)==0&&(1:Int)==1&&(sIx items.size items.size hi - sIx items.size 0 lo)==items.size)=true):=by
  intro q
  rw[Bool.and_eq_true,Bool.and_eq_true]at q
  have q1:((sIx items.size 0 lo:Nat):Int)=0:=eq_of_beq q.1.1
  have q2:sIx items.size items.size hi - sIx items.size 0 lo=items.size:=eq_of_beq q.2
  exact hw ⟨by omega,by omega⟩
 show wpAny _ _ (if (((sIx items.size 0 lo:Nat):Int)==0&&(1:Int)==1&&(sIx items.size items.size hi - sIx items.size 0 lo)==items.size)=true then _ else _) _ _ s
 rw[if_neg hno,zP]
 first
  |exact wpAny_bind (m:=Builtin.Tuple.tupleExact _) (wpAny_newObj_type (wpAny_pure ⟨_,rfl,wpAny_pure h⟩) htake)
  |exact wpAny_bind (m:=Builtin.Tuple.tupleExact _) (wpAny_newObj_type (wpAny_bind (wpAny_pure (wpAny_pure ⟨_,rfl,wpAny_pure h⟩))) htake)
  |exact wpAny_bind (wpAny_bind (m:=Builtin.Tuple.tupleExact _) (wpAny_newObj_type (wpAny_pure (wpAny_pure ⟨_,rfl,wpAny_pure h⟩)) htake))
  |exact wpAny_bind (wpAny_bind (m:=Builtin.Tuple.tupleExact _) (wpAny_newObj_type (wpAny_pure ⟨_,rfl,wpAny_pure h⟩) htake))
end
end HT
namespace L2
open PySem PySem.Spec PyProof.Rows
abbrev TO:=St->Hp->(Option Int->Hp->Prop)->Prop
def PO(X:Cx)(e:Option Expr)(t:TO):Prop:=
 ∀(pins:List (Addr×Obj)) (s:Shared) (σ:St) (H:Hp) (Q:Option Int->Hp->Prop),Inv X pins σ H s->t σ H Q->
  wpAny (model X.prog X.w) X.A (evalPart e X.env) (fun u s'=>∃o H',Inv X pins σ H' s'/\IsPart u o/\Q o H') X.xe s
def Bj:TO:=fun _ H Q=>Q none H
def FD(t:TE):TO:=fun σ H Q=>t σ H fun x H1=>∃i,x= .int i/\Q (some i) H1
theorem intsAre_of{ns:List Int}:∀{us:List Value},Vals (ns.map V.int) us->IntsAre us ns:=by
 induction ns with
 |nil=>intro us r;rw[List.map_nil]at r;cases r;exact .nil
 |cons n ns ih=>
  intro us r
  rw[List.map_cons]at r
  cases r with
  |cons r1 r2=>
   obtain⟨t,e⟩:=r1
   subst e
   exact .cons n t (ih r2)
section
variable{X:Cx}{e:Expr}{te:TE}{lo hi:Option Expr}{tl th:TO}{pos p2:Pos}
theorem Bz:PO X none Bj:=by
 intro pins s σ H Q I h
 rw[evalPart_none]
 exact wpAny_pure ⟨none,H,I,.none,h⟩
theorem BC(h:PE X e te):PO X (some e) (FD te):=by
 intro pins s σ H Q I hw
 rw[evalPart_some]
 refine thn (h pins s σ H _ I hw) fun u s1 ⟨x,H1,I1,r1,q1⟩=>?_
 obtain⟨i,rfl,q⟩:=q1
 obtain⟨t,rfl⟩:=r1
 exact⟨some i,H1,I1,.int i t,q⟩
def SlR(X:Cx)(r:V->Option Int->Option Int->Hp->VK->Prop):Prop:=
 ∀(pins:List (Addr×Obj)) (s:Shared) (σ:St) (H:Hp) (x:V) (v vl vu:Value) (lo hi:Option Int) (sl:Addr) (Q:VK),Inv X pins σ H s->RelV x v->s.heap.IsSliceOf sl vl vu .none->IsPart vl lo->IsPart vu hi->r x lo hi H Q->
  ∃T id,typeLookup (.type T) "__getitem__"=pure (some (.builtin id))/\s.TypeIs v T/\wpAny (model X.prog X.w) X.A (getItem v (.ref sl)) (EP X pins σ Q) X.xe s
theorem SlR.or{r r':V->Option Int->Option Int->Hp->VK->Prop}(h:SlR X r)(h':SlR X r'):SlR X (fun x lo hi H Q=>r x lo hi H Q\/r' x lo hi H Q):=by
 intro pins s σ H x v vl vu lo hi sl Q I rx hs pl pu q
 rcases q with q |q
 · exact h pins s σ H x v vl vu lo hi sl Q I rx hs pl pu q
 · exact h' pins s σ H x v vl vu lo hi sl Q I rx hs pl pu q
def tSl(r:V->Option Int->Option Int->Hp->VK->Prop)(te:TE)(tl th:TO):TE:=fun σ H Q=>te σ H fun x H1=>tl σ H1 fun l H2=>th σ H2 fun u H3=>r x l u H3 Q
theorem y7{r:V->Option Int->Option Int->Hp->VK->Prop}(hr:SlR X r)(he:PE X e te)(hl:PO X lo tl)(hu:PO X hi th):PE X (.Subscript e (.Slice lo hi none p2) pos) (tSl r te tl th):=by
 intro pins s σ H Q I h
 refine Subscript_ (thn (he pins s σ H _ I h) fun v s1 ⟨x,H1,I1,r1,q1⟩=>?_)
 refine wpAny_Slice (thn (hl pins s1 σ H1 _ I1 q1) fun vl s2 ⟨l,H2,I2,pl,q2⟩=>thn (hu pins s2 σ H2 _ I2 q2) fun vu s3 ⟨u,H3,I3,pu,q3⟩=>?_)
 rw[evalPart_none]
 refine wpAny_pure ?_
 have I4:Inv X pins σ H3 {s3 with heap:=s3.heap.push {cls:= .type "slice",data:= .fields #[vl,vu,.none]}}:=I3.kept (t':=s3.toks) fun b ob q=>Heap.get?_push_of_some _ q
 obtain⟨T,id,hT,ht,hg⟩:=hr pins {s3 with heap:=s3.heap.push {cls:= .type "slice",data:= .fields #[vl,vu,.none]}} σ H3 x v vl vu l u s3.heap.objs.size Q I4 r1 (Heap.IsSliceOf.new ..) pl pu q3
 show wpAny (model X.prog X.w) X.A (subscriptTail e (.Slice lo hi none p2) v (.ref s3.heap.objs.size)) (EP X pins σ Q) X.xe {s3 with heap:=s3.heap.push {cls:= .type "slice",data:= .fields #[vl,vu,.none]}}
 exact tail_any (ops:=[.ref s3.heap.objs.size,v]) ht hT hg (by with_unfolding_all rfl)
def qU(xs:List V)(lo hi:Option Int):List V:=(xs.drop (HT.sIx xs.length 0 lo)).take (HT.sIx xs.length xs.length hi - HT.sIx xs.length 0 lo)
theorem oF(xs:List V)(lo hi:Option Int):(qU xs lo hi).length<=xs.length:=by
 unfold qU
 rw[List.length_take,List.length_drop]
 omega
def Hi(K:PySem.W.Frag):V->Option Int->Option Int->Hp->VK->Prop:=fun x lo hi H Q=>∃a xs,x= .ref a/\SqT K H a xs/\
 ¬(HT.sIx xs.length 0 lo=0/\HT.sIx xs.length xs.length hi=xs.length)/\∀p,H p=none->Q (.ref p) (upd H p (.tup (qU xs lo hi)))
theorem Eu:SlR X (Hi X.K):=by
 intro pins s σ H x v vl vu lo hi sl Q I rx hs pl pu h
 obtain⟨a,xs,rfl,hx,hw,q⟩:=h
 cases rx
 obtain⟨its,r,ht,hz⟩:=I.tuple hx
 have hlen:its.toArray.size=xs.length:=by rw[qW_];exact r.length.symm
 refine⟨"tuple",_,PyProof.Rows.slot_tuple_getitem.lookup,ht.typeIs,?_⟩
 refine HT.mW ht hs pl pu (by rw[hlen];exact hw) ?_ (by rw[hlen];exact hz)
 rw[hlen]
 refine⟨.ref s.heap.objs.size,_,I.laid (t':=s.toks) (o:= .tup (qU xs lo hi)) (fun b ob q=>Heap.get?_push_of_some _ q) (qO_ _) ?_,rfl,q _ (I.hok.fresh (qO_ _))⟩
 exact⟨Nat.le_trans (oF xs lo hi) hz,_,(r.drop (HT.sIx xs.length 0 lo)).take (HT.sIx xs.length xs.length hi - HT.sIx xs.length 0 lo),IsTup.new _ _⟩
def GK(K:PySem.W.Frag):R2:=fun x y H Q=>∃a b ns ms,x= .ref a/\y= .ref b/\SqT K H a (ns.map V.int)/\SqT K H b (ms.map V.int)/\Q (.bl (HT.lexLt ns ms)) H
theorem E0(hu:X.A.units < cLine):OpR X (compareOp .Lt) (GK X.K):=by
 intro pins s σ H x y v u Q I rx ry h
 obtain⟨a,b,ns,ms,rfl,rfl,ha,hb,q⟩:=h
 cases rx
 cases ry
 obtain⟨its,r1,p1,_⟩:=I.tuple ha
 obtain⟨its2,r2,p2,_⟩:=I.tuple hb
 have i1:IntsAre its.toArray.toList ns:=intsAre_of r1
 have i2:IntsAre its2.toArray.toList ms:=intsAre_of r2
 exact HT.wC p1 p2 i1 i2 hu ⟨.bl (HT.lexLt ns ms),H,I,rfl,q⟩
def CQ(K:PySem.W.Frag):R2:=fun x y H Q=>∃a b xs ys,x= .ref a/\y= .ref b/\SqT K H a xs/\SqT K H b ys/\xs≠ []/\xs.length+ys.length<=sizeLine/\
 (ys=[]->Q (.ref a) H)/\(ys≠ []->∀p,H p=none->Q (.ref p) (upd H p (.tup (xs++ys))))
theorem Vals.si{xs:List V}{us:List Value}(r:Vals xs us):us=[]↔xs=[]:=by
 cases r with
 |nil=>simp
 |cons _ _=>simp
theorem Cg:OpR X (binaryOp .Add) (CQ X.K):=by
 intro pins s σ H x y v u Q I rx ry h
 obtain⟨a,b,xs,ys,rfl,rfl,ha,hb,hx,hz,q1,q2⟩:=h
 cases rx
 cases ry
 obtain⟨its,r1,p1,_⟩:=I.tuple ha
 obtain⟨its2,r2,p2,_⟩:=I.tuple hb
 refine HT.BA p1 p2 (fun z=>hx (r1.si.mp z)) (fun z=>⟨.ref a,H,I,rfl,q1 (r2.si.mp z)⟩) (fun z=>?_) (by rw[<-r1.length,<-r2.length];exact hz)
 refine⟨.ref s.heap.objs.size,_,I.laid (t':=s.toks) (o:= .tup (xs++ys)) (fun b ob q=>Heap.get?_push_of_some _ q) (qO_ _) ?_,rfl,q2 (fun w=>z (r2.si.mpr w)) _ (I.hok.fresh (qO_ _))⟩
 exact⟨by rw[qN_];exact hz,_,r1.append r2,IsTup.new _ _⟩
end
def ixN(n:Nat)(i:Int):Option Nat:=if 0<=i then (if i < n then some i.toNat else none)else if -(n:Int)<=i then some (i+n).toNat else none
def atI{α:Type}(xs:List α)(i:Int):Option α:=(ixN xs.length i).bind fun j=>xs[j]?
theorem tU{n:Nat}{i:Int}{j:Nat}(h:ixN n i=some j):seqIndex? i n=some j/\j < n/\-(n:Int)<=i/\i < n:=by
 unfold ixN at h
 by_cases h0:0<=i
 · rw[if_pos h0]at h
   by_cases h1:i < n
   · rw[if_pos h1]at h
     have e:i.toNat=j:=Option.some.inj h
     exact⟨by rw[seqIndex_of h0 h1,e],by omega,by omega,h1⟩
   · rw[if_neg h1]at h;cases h
 · rw[if_neg h0]at h
   by_cases h1:-(n:Int)<=i
   · rw[if_pos h1]at h
     have e:(i+n).toNat=j:=Option.some.inj h
     exact⟨by rw[seqIndex_neg (by omega) h1,e],by omega,h1,by omega⟩
   · rw[if_neg h1]at h;cases h
theorem xl{α:Type}{xs:List α}{i:Int}{v:α}(h:atI xs i=some v):∃j,seqIndex? i xs.length=some j/\xs[j]? =some v/\j < xs.length/\-(xs.length:Int)<=i/\i < xs.length:=by
 unfold atI at h
 cases e:ixN xs.length i with
 |none=>rw[e]at h;cases h
 |some j=>
  rw[e]at h
  obtain⟨h1,h2,h3,h4⟩:=tU e
  exact⟨j,h1,h,h2,h3,h4⟩
def sN(b:Expr):Prop:=∀o i,subscripted b false o i=operate [o,i] (getItem o i)
def IxR(X:Cx)(r:R2):Prop:=
 ∀(value slice:Expr) (pins:List (Addr×Obj)) (s:Shared) (σ:St) (H:Hp) (x y:V) (v u:Value) (Q:VK),Inv X pins σ H s->RelV x v->RelV y u->r x y H Q->
  subscripted slice false v u=operate [v,u] (getItem v u)->wpAny (model X.prog X.w) X.A (subscriptTail value slice v u) (EP X pins σ Q) X.xe s
def MtR(X:Cx)(id:String)(r:V->List V->Hp->VK->Prop):Prop:=
 ∀(pins:List (Addr×Obj)) (s:Shared) (σ:St) (H:Hp) (x:V) (xs:List V) (v:Value) (us:List Value) (Q:VK),Inv X pins σ H s->RelV x v->Vals xs us->r x xs H Q->
  wpAny (model X.prog X.w) X.A (call (.builtin id) (v :: us)) (EP X pins σ Q) X.xe s
section
variable{X:Cx}{a b:Expr}{ta tb:TE}{pos:Pos}
theorem IxR.or{r r':R2}(h:IxR X r)(h':IxR X r'):IxR X (fun x y H Q=>r x y H Q\/r' x y H Q):=by
 intro value slice pins s σ H x y v u Q I rx ry q hs
 rcases q with q |q
 · exact h value slice pins s σ H x y v u Q I rx ry q hs
 · exact h' value slice pins s σ H x y v u Q I rx ry q hs
theorem GX{r:R2}(hr:IxR X r)(ha:PE X a ta)(hb:PE X b tb)(hs:sN b):PE X (.Subscript a b pos) (tOp r ta tb):=by
 intro pins s σ H Q I h
 exact Subscript_ (D0 ha hb I h fun v u s2 x y H2 I2 rx ry q=>hr a b pins s2 σ H2 x y v u Q I2 rx ry q (hs _ _))
def GH(K:PySem.W.Frag):R2:=fun x y H Q=>∃p xs i v,x= .ref p/\y= .int i/\SqL K H p xs/\atI xs i=some v/\Q v H
def Fy(K:PySem.W.Frag):R2:=fun x y H Q=>∃p xs i v,x= .ref p/\y= .int i/\SqT K H p xs/\atI xs i=some v/\Q v H
theorem Cq:IxR X (GH X.K):=by
 intro value slice pins s σ H x y v u Q I rx ry h hs
 obtain⟨p,xs,i,z,rfl,rfl,hq,he,q⟩:=h
 cases rx
 obtain⟨t,rfl⟩:=ry
 obtain⟨its,r,pl,hz⟩:=I.list hq
 obtain⟨j,h1,h2,h3,h4,h5⟩:=xl he
 obtain⟨w,ew,rw'⟩:=r.get h2
 have hl:=r.length
 have hn:=qF
 have fin:EP X pins σ Q w s:=⟨z,H,I,rw',q⟩
 by_cases h0:0<=i
 · have hj:i.toNat=j:=by
    rw[seqIndex_of h0 h5]at h1
    exact Option.some.inj h1
   exact item_listR pl.isList h0 (by omega) (by rw[hj];simpa using ew) fin hs
 · have hj:(i+(its.toArray.size:Int)).toNat=j:=by
    rw[seqIndex_neg (by omega) h4]at h1
    rw[qW_,<-hl]
    exact Option.some.inj h1
   exact subscriptTail_builtinR (x:=w) pl.isList.typeIs slot_list_getitem.lookup
    (wpAny_getItem_list_neg (Q:=fun r s'=>r=w/\EP X pins σ Q r s') pl.isList (by omega) (by rw[qW_] <;> omega) (by omega) (by rw[hj];simpa using ew) ⟨rfl,fin⟩) hs
theorem El:IxR X (Fy X.K):=by
 intro value slice pins s σ H x y v u Q I rx ry h hs
 obtain⟨p,xs,i,z,rfl,rfl,hq,he,q⟩:=h
 cases rx
 obtain⟨t,rfl⟩:=ry
 obtain⟨its,r,pl,hz⟩:=I.tuple hq
 obtain⟨j,h1,h2,h3,h4,h5⟩:=xl he
 obtain⟨w,ew,rw'⟩:=r.get h2
 have hl:=r.length
 have hn:=qF
 have fin:EP X pins σ Q w s:=⟨z,H,I,rw',q⟩
 exact subscriptTail_builtinR (x:=w) pl.typeIs slot_tuple_getitem.lookup
  (getItem_tuple (j:=j) (Q:=fun r s'=>r=w/\EP X pins σ Q r s') pl (by omega) (by omega) (by rw[qW_,<-hl];exact h1) (by simpa using ew) ⟨rfl,fin⟩) hs
theorem wm(its:List Value)(n j:Nat)(u:Value):Obj.mapSeq (·.setIfInBounds j u) {cls:= .type "list",data:= .seq its.toArray n}={cls:= .type "list",data:= .seq (its.set j u).toArray n}:=by
 simp [Obj.mapSeq]
theorem Inv.lst{pins:List (Addr×Obj)}{σ:St}{H:Hp}{s:Shared}{p:Addr}{xs:List V}(I:Inv X pins σ H s)(h:H p=some (.lst xs)):
 ∃(its:List Value) (n:Nat),Vals xs its/\s.heap.get? p=some {cls:= .type "list",data:= .seq its.toArray n}/\xs.length<=sizeLine:=by
 obtain⟨z,its,n,r,e⟩:=I.hok p _ h
 exact⟨its,n,r,e,z⟩
theorem Inv.Fs{pins:List (Addr×Obj)}{σ:St}{H:Hp}{s:Shared}{p:Addr}{xs ys:List V}{its its':List Value}{n n':Nat}{f:Obj->Obj}(I:Inv X pins σ H s)(h:H p=some (.lst xs))
 (ho:s.heap.get? p=some {cls:= .type "list",data:= .seq its.toArray n}) (hf:f {cls:= .type "list",data:= .seq its.toArray n}={cls:= .type "list",data:= .seq its'.toArray n'}) (r:Vals ys its') (hz:ys.length<=sizeLine) (t:Nat):
 Inv X pins σ (upd H p (.lst ys)) {s with heap:=s.heap.update p f,toks:=t}:=by
 have e:(s.heap.update p f).get? p=some {cls:= .type "list",data:= .seq its'.toArray n'}:=by
  rw[Heap.get?_update_self f ho (by rw[hf] <;> rfl),hf]
 refine I.write (x:=p) (e:=p) (by rw[h];trivial) (.inl rfl) (fun b u hb q=>(Heap.get?_update_other _ _ (Ne.symm hb)).trans q) ⟨_,e⟩ ?_
 exact⟨hz,its',n',r,e⟩
def GW:V->V->V->Hp->(Hp->Prop)->Prop:=fun o i v H Q=>∃p xs k j,o= .ref p/\i= .int k/\H p=some (.lst xs)/\ixN xs.length k=some j/\Q (upd H p (.lst (xs.set j v)))
theorem set_list:uj X GW:=by
 intro pins s σ H o i v ov iv u Q I ro ri rv h
 obtain⟨p,xs,k,j,rfl,rfl,hp,hj,q⟩:=h
 cases ro
 obtain⟨t,rfl⟩:=ri
 obtain⟨its,n,r,ho,hz⟩:=I.lst hp
 obtain⟨h1,h2,h3,h4⟩:=tU hj
 have hl:=r.length
 have hn:=qF
 have I':Inv X pins σ (upd H p (.lst (xs.set j v))) {s with heap:=s.heap.update p (Obj.mapSeq (·.setIfInBounds j u))}:=
  I.Fs hp ho (wm its n j u) (r.set rv j) (by rw[qX_];exact hz) s.toks
 by_cases h0:0<=k
 · have hk:k.toNat=j:=by
    rw[seqIndex_of h0 h4]at h1
    exact Option.some.inj h1
   exact PySem.W.ki_setAt ho h0 (by omega) (by rw[qW_,<-hl];exact h4) (by rw[hk];exact⟨_,I',q⟩)
 · have hk:(k+(its.toArray.size:Int)).toNat=j:=by
    rw[seqIndex_neg (by omega) h3]at h1
    rw[qW_,<-hl]
    exact Option.some.inj h1
   exact PySem.W.ki_setBack ho (by omega) (by rw[qW_,<-hl];exact h3) (by omega) (by rw[hk];exact⟨_,I',q⟩)
theorem tM(lo hi:Option Int)(n:Nat):(sliceBounds lo hi none n).1=((HT.sIx n 0 lo:Nat):Int)/\(sliceBounds lo hi none n).2.1=((HT.sIx n n hi:Nat):Int)/\(sliceBounds lo hi none n).2.2=1:=by
 refine⟨?_,?_,rfl⟩
 · cases lo with
   |none=>simp [sliceBounds,HT.sIx]
   |some i=>
    simp only[sliceBounds,HT.sIx,Option.getD_none,show (1:Int) > 0 by decide,if_true]
    by_cases h:i < 0
    · simp only[h,if_true] <;> omega
    · simp only[h,if_false] <;> omega
 · cases hi with
   |none=>simp [sliceBounds,HT.sIx]
   |some i=>
    simp only[sliceBounds,HT.sIx,Option.getD_none,show (1:Int) > 0 by decide,if_true]
    by_cases h:i < 0
    · simp only[h,if_true] <;> omega
    · simp only[h,if_false] <;> omega
theorem rm(its:List Value)(lo hi:Option Int):slicePick its.toArray lo hi none=((its.drop (HT.sIx its.length 0 lo)).take (HT.sIx its.length its.length hi - HT.sIx its.length 0 lo)).toArray:=by
 obtain⟨h1,h2,h3⟩:=tM lo hi its.toArray.size
 unfold slicePick
 rw[h1,h2,h3]
 simp only[sliceRange_one,pick_run,qW_] <;> rfl
def Gv(K:PySem.W.Frag):V->Option Int->Option Int->Hp->VK->Prop:=fun x lo hi H Q=>∃a xs,x= .ref a/\SqL K H a xs/\∀p,H p=none->Q (.ref p) (upd H p (.lst (qU xs lo hi)))
theorem B8:SlR X (Gv X.K):=by
 intro pins s σ H x v vl vu lo hi sl Q I rx hs pl pu h
 obtain⟨a,xs,rfl,hx,q⟩:=h
 cases rx
 obtain⟨its,r,ht,hz⟩:=I.list hx
 have hlen:=r.length
 refine⟨"list",_,slot_list_getitem.lookup,ht.isList.typeIs,?_⟩
 refine wpAny_getItem_list_slice ht.isList hs pl pu .none (by simp) ?_ (by rw[qW_] <;> omega)
 rw[rm,<-hlen]
 refine⟨.ref s.heap.objs.size,_,I.laid (t':=s.toks) (o:= .lst (qU xs lo hi)) (fun b ob q=>Heap.get?_push_of_some _ q) (qO_ _) ?_,rfl,q _ (I.hok.fresh (qO_ _))⟩
 exact⟨Nat.le_trans (oF xs lo hi) hz,_,0,(r.drop (HT.sIx xs.length 0 lo)).take (HT.sIx xs.length xs.length hi - HT.sIx xs.length 0 lo),Heap.get?_push_size _ rfl⟩
theorem gh.or{f:Value}{r r':List V->Hp->VK->Prop}(h:gh X f r)(h':gh X f r'):gh X f (fun xs H Q=>r xs H Q\/r' xs H Q):=by
 intro pins s σ H xs us Q I rs q
 rcases q with q |q
 · exact h pins s σ H xs us Q I rs q
 · exact h' pins s σ H xs us Q I rs q
theorem s9:gh X (.type "list") (fun xs H Q=>∃p ys,xs=[.ref p]/\(SqL X.K H p ys\/SqT X.K H p ys)/\∀l,H l=none->Q (.ref l) (upd H l (.lst ys))):=by
 intro pins s σ H xs us Q I r h
 obtain⟨p,ys,rfl,hq,q⟩:=h
 obtain⟨u,rfl,rx⟩:=vals1 r
 cases rx
 have fin:∀(its:List Value),Vals ys its->ys.length<=sizeLine->∀(h':Heap) (c':Nat),(∀b o',s.heap.get? b=some o'->h'.get? b=some o')->
  h'.get? s.heap.objs.size=some {cls:= .type "list",dict:=none,data:= .seq its.toArray c',slots:=#[]}->EP X pins σ Q (.ref s.heap.objs.size) {s with heap:=h'}:=fun its r' hz h' c' kp e=>
  ⟨.ref s.heap.objs.size,_,I.laid (t':=s.toks) kp (qO_ _) (show cL X.prog X.w _ h' _ (.lst ys)from⟨hz,its,c',r',e⟩),rfl,q _ (I.hok.fresh (qO_ _))⟩
 rcases hq with hq |hq
 · obtain⟨its,r',pl,hz⟩:=I.list hq
   have hlen:=r'.length
   obtain⟨o,ho,hc,n,hd⟩:=pl.isList
   exact call_list_seq p (.inl rfl) ho hc hd (fun h' c' kp e=>fin its r' hz h' c' kp e) (by simp only[qW_] <;> omega)
 · obtain⟨its,r',pl,hz⟩:=I.tuple hq
   have hlen:=r'.length
   obtain⟨o,ho,hc,n,hd⟩:=pl
   exact call_list_seq p (.inr rfl) ho hc hd (fun h' c' kp e=>fin its r' hz h' c' kp e) (by simp only[qW_] <;> omega)
def tyV(K:PySem.W.Frag)(T:String)(x:V)(H:Hp):Prop:=match x with
 | .str _=>T="str"
 | .int _=>T="int"
 | .ref p=>(T="list"/\∃xs,SqL K H p xs)\/(T="tuple"/\∃o,K.lookup p=some o/\o.cls= .type "tuple"/\o.dict=none)\/
    (T="dict"/\((∃kvs,H p=some (.dK kvs))\/∃kvs,H p=some (.dT kvs)))\/(T="set"/\∃S n,H p=some (.set S n))
 |_=>False
theorem wu{pins:List (Addr×Obj)}{σ:St}{H:Hp}{s:Shared}{T:String}{x:V}{v:Value}(I:Inv X pins σ H s)(r:RelV x v)(ty:tyV X.K T x H):
 s.TypeIs v T/\∀a,v= .ref a->∃ob,s.heap.get? a=some ob/\ob.dict=none:=by
 cases x with
 |str z=>
  obtain⟨t,rfl⟩:=r
  cases (show T="str" from ty)
  exact⟨typeIs_str s z t,fun _ e=>nomatch e⟩
 |int i=>
  obtain⟨t,rfl⟩:=r
  cases (show T="int" from ty)
  exact⟨typeIs_int s i t,fun _ e=>nomatch e⟩
 |ref p=>
  cases r
  rcases ty with ⟨rfl,xs,hq⟩ |⟨rfl,o,hk,hc,hd⟩ |⟨rfl,hk⟩ |⟨rfl,S,n,hk⟩
  · obtain⟨its,_,pl,_⟩:=I.list hq
    refine⟨pl.isList.typeIs,fun a e=>?_⟩
    cases e
    obtain⟨o,n,e,c,hd,_⟩:=pl
    exact⟨o,e,hd⟩
  · refine⟨⟨o,I.kIn p o hk,hc⟩,fun a e=>?_⟩
    cases e
    exact⟨o,I.kIn _ o hk,hd⟩
  · have z:∃o,s.heap.get? p=some o/\o.ExactDict:=by
     rcases hk with ⟨kvs,hk⟩ |⟨kvs,hk⟩
     · obtain⟨_,_,_,_,o,_,_,e,ex,_⟩:=I.hok p _ hk
       exact⟨o,e,ex⟩
     · obtain⟨_,_,_,_,o,_,_,e,ex,_⟩:=I.hok p _ hk
       exact⟨o,e,ex⟩
    obtain⟨o,e,ex⟩:=z
    refine⟨⟨o,e,ex.1⟩,fun a e2=>?_⟩
    cases e2
    exact⟨o,e,ex.2.1⟩
  · obtain⟨o,_,_,_,e,ex,_⟩:=I.hok p _ hk
    refine⟨⟨o,e,ex.1⟩,fun a e2=>?_⟩
    cases e2
    exact⟨o,e,ex.2.1⟩
 |_=>exact False.elim ty
def tBM(K:PySem.W.Frag)(T:String)(r:V->List V->Hp->VK->Prop)(to:TE)(t:TA):TE:=fun σ H Q=>to σ H fun x H1=>tyV K T x H1/\t σ H1 fun xs H2=>r x xs H2 Q
variable{o e:Expr}{es:List Expr}{to:TE}{t:TA}{name:Str}{apos cpos:Pos}{T id:String}{r:V->List V->Hp->VK->Prop}
theorem Aa(pa:PlainAttrs T)(slot:Slot T name id)(hty:typeOf (.builtin id)=pure (.type "method_descriptor"))(hm:MtR X id r)(ho:PE X o to)(ha:PA X (e :: es) t)
 (hbase:attributeBase o name X.env (eval o X.env)=eval o X.env:=by rfl)
 (hfew:((backTo cpos (starEach (e :: es) X.env)).all (fun x=>!x.1)&&(backToKw cpos (keywordEach [] X.env)).all (fun x=>x.1.isSome)
   &&decide ((e :: es).length+([]:List Keyword).length+(if ([]:List Keyword).isEmpty then 0 else 1) < 30))=true:=by rfl)
 (hline:(apos.endLine==cpos.line)=true:=by rfl) (hs:starEach (e :: es) X.env=(false,eval e X.env) :: starEach es X.env:=by rfl) (hplain:(backTo cpos (starEach es X.env)).any (·.1)=false:=by rfl):
 PE X (.Call (.Attribute o name apos) (e :: es) [] cpos) (tBM X.K T r to t):=by
 intro pins s σ H Q I h
 refine wpAny_Call_method_late hbase hfew hline rfl (thn (ho pins s σ H _ I h) fun v s1 ⟨x,H1,I1,r1,ty,q1⟩=>?_)
 obtain⟨h1,h2⟩:=wu I1 r1 ty
 refine⟨T,id,pa,slot,hty,h1,h2,?_⟩
 have hA:=ha cpos pins s1 σ H1 _ I1 q1
 rw[hs]at hA ⊢
 refine Calls.callWith_builtin (by show (false||(backTo cpos (starEach es X.env)).any (·.1))=false;rw[hplain] <;> rfl) (Calls.evalArgs_plain ?_)
 exact thn hA fun us s2 ⟨vs,H2,I2,r2,q2⟩=>hm pins s2 σ H2 x vs v us Q I2 r1 r2 q2
end
def MtM(X:Cx)(id:String)(r:V->List V->Hp->VK->Prop):Prop:=
 ∀(pins:List (Addr×Obj)) (s:Shared) (σ:St) (H:Hp) (x:V) (xs:List V) (v:Value) (us:List Value) (Q:VK),Inv X pins σ H s->RelV x v->Vals xs us->r x xs H Q->
  wpAny (model X.prog X.w) X.A (call (.builtin id) (v :: us)) (EP X pins σ Q) X.xe s
theorem Vals.one:∀{x:V} {us:List Value},Vals [x] us->∃u,us=[u]/\RelV x u
 |_,_,.cons r .nil=>⟨_,rfl,r⟩
theorem Vals.eraseIdx:∀{xs:List V} {us:List Value} (i:Nat),Vals xs us->Vals (xs.eraseIdx i) (us.eraseIdx i)
 |_,_,_,.nil=>.nil
 |_,_,0,.cons _ t=>t
 |_,_,i+1,.cons r t=>.cons r (Vals.eraseIdx i t)
theorem Vals.rep{xs:List V}{us:List Value}(h:Vals xs us):∀k:Nat,Vals (List.replicate k xs).flatten (List.replicate k us).flatten
 |0=>.nil
 |k+1=>by
  rw[List.replicate_succ,List.replicate_succ,List.flatten_cons,List.flatten_cons]
  exact Vals.append h (Vals.rep h k)
theorem rO{α:Type}:∀(l:List α) (i:Nat),(l.eraseIdx i).length<=l.length
 | [],_=>qO_ _
 |_ :: _,0=>Nat.le_succ _
 |_ :: r,i+1=>Nat.succ_le_succ (rO r i)
theorem foldl_rep(its:List Value):∀(k:Nat) (acc:List Value),
 List.foldl (fun x1 x2=>x1++x2) acc.toArray (List.replicate k its.toArray)=(acc++(List.replicate k its).flatten).toArray
 |0,acc=>by simp
 |k+1,acc=>by
  have e:acc.toArray++its.toArray=(acc++its).toArray:=by simp
  have e2:(acc++its)++(List.replicate k its).flatten=acc++(List.replicate (k+1) its).flatten:=by
   rw[List.replicate_succ,List.flatten_cons,List.append_assoc]
  rw[<-e2,<-foldl_rep its k (acc++its),<-e,List.replicate_succ,List.foldl_cons]
section
variable{X:Cx}{pins:List (Addr×Obj)}{σ:St}{H:Hp}{s:Shared}{l b:Addr}{xs ys zs:List V}
theorem Inv.EQ{its its':List Value}{n:Nat}{f:Array Value->Array Value}{t':Nat}(I:Inv X pins σ H s)(hH:H l=some (.lst xs))
 (e:s.heap.get? l=some {cls:= .type "list",data:= .seq its.toArray n}) (hf:f its.toArray=its'.toArray) (hv:Vals ys its') (hz:ys.length<=sizeLine):
 Inv X pins σ (upd H l (.lst ys)) {s with heap:=s.heap.update l (Obj.mapSeq f),toks:=t'}:=by
 have q:=PySem.IsL.update e f
 rw[hf]at q
 refine I.write (x:=l) (e:=l) (by rw[hH];exact trivial) (.inl rfl) (fun b' u hb hu=>(Heap.get?_update_other s.heap (Obj.mapSeq f) (Ne.symm hb)).trans hu) ⟨_,q⟩ ?_
 exact⟨hz,its',_,hv,q⟩
theorem Inv.GN{its:List Value}{t':Nat}(I:Inv X pins σ H s)(hv:Vals ys its)(hz:ys.length<=sizeLine):
 Inv X pins σ (upd H s.heap.objs.size (.lst ys)) {s with heap:=s.heap.push {cls:= .type "list",data:= .seq its.toArray},toks:=t'}:=
 I.laid (fun _ _ q=>Heap.get?_push_of_some _ q) (qO_ _) ⟨hz,its,0,hv,Heap.get?_push_size _ rfl⟩
theorem Inv.fresh(I:Inv X pins σ H s):H s.heap.objs.size=none:=I.hok.fresh (qO_ _)
theorem Inv.vT(I:Inv X pins σ H s)(hH:H l=some (.lst xs)):xs.length<=sizeLine/\∃(its:List Value) (n:Nat),Vals xs its/\xs.length=its.length/\s.heap.get? l=some {cls:= .type "list",data:= .seq its.toArray n}:=by
 obtain⟨z,its,n,r,e⟩:=I.hok l _ hH
 exact⟨z,its,n,r,r.length,e⟩
theorem uJ{n:Nat}(h:n<=sizeLine):Builtin.List.listTooLong n=false:=by
 unfold Builtin.List.listTooLong
 exact qa_ (by omega)
end
section
variable{X:Cx}
def B6:V->List V->Hp->VK->Prop:=fun x vs H Q=>∃l xs y,x= .ref l/\vs=[y]/\H l=some (.lst xs)/\xs.length < sizeLine/\Q .non (upd H l (.lst (xs++[y])))
theorem rN:MtM X "list.append" B6:=by
 intro pins s σ H x vs v us Q I rx rv h
 obtain⟨l,xs,y,rfl,rfl,hH,hz,q⟩:=h
 cases rx
 obtain⟨u,rfl,ru⟩:=rv.one
 obtain⟨z,its,n,r,hl,e⟩:=I.vT hH
 refine call_meets F.slot_list_append ⟨_,e,rfl⟩ F.entry_list_append (F.args_list_append_2 _ _) (PySem.list_append l its.toArray n u (by rw[qW_];omega)) ⟨e,?_⟩
 refine⟨.non,_,I.EQ (its':=its++[u]) hH e (by simp) (r.append (.cons ru .nil)) ?_,rfl,q⟩
 rw[qN_,List.length_singleton]
 omega
def Cv:V->List V->Hp->VK->Prop:=fun x vs H Q=>∃l b xs zs,x= .ref l/\vs=[.ref b]/\H l=some (.lst xs)/\H b=some (.lst zs)/\xs.length+zs.length<=sizeLine/\Q .non (upd H l (.lst (xs++zs)))
theorem ye:MtM X "list.extend" Cv:=by
 intro pins s σ H x vs v us Q I rx rv h
 obtain⟨l,b,xs,zs,rfl,rfl,hH,hB,hz,q⟩:=h
 cases rx
 obtain⟨u,rfl,ru⟩:=rv.one
 cases ru
 obtain⟨z,its,n,r,hl,e⟩:=I.vT hH
 obtain⟨z2,its2,n2,r2,hl2,e2⟩:=I.vT hB
 have hsz:its.toArray.size+its2.toArray.size<=sizeLine:=by rw[qW_,qW_];omega
 have hlong:¬(!its.toArray.isEmpty&&Builtin.List.listTooLong (its.toArray.size+its2.toArray.size))=true:=by
  rw[uJ hsz,Bool.and_false]
  exact qC_
 refine call_meets F.slot_list_extend ⟨_,e,rfl⟩ F.entry_list_extend (F.args_list_extend_2 _ _)
  (AutoSeq1.list_extend_list_list_0 l its.toArray n b its2.toArray n2 hlong (by rw[qW_];omega) (by omega)) ⟨e,e2,?_⟩
 refine⟨.non,_,I.EQ (its':=its++its2) hH e (by simp) (r.append r2) ?_,rfl,q⟩
 rw[qN_]
 omega
def DJ:V->List V->Hp->VK->Prop:=fun x vs H Q=>∃l xs i k y,x= .ref l/\vs=[.int i]/\H l=some (.lst xs)/\-(2 ^ 63)<=i/\i < 2 ^ 63/\seqIndex? i xs.length=some k/\xs[k]? =some y/\Q y (upd H l (.lst (xs.eraseIdx k)))
theorem yZ:MtM X "list.pop" DJ:=by
 intro pins s σ H x vs v us Q I rx rv h
 obtain⟨l,xs,i,k,y,rfl,rfl,hH,h1,h2,hk,hy,q⟩:=h
 cases rx
 obtain⟨u,rfl,ru⟩:=rv.one
 obtain⟨t,rfl⟩:=ru
 obtain⟨z,its,n,r,hl,e⟩:=I.vT hH
 obtain⟨w,hw,rw'⟩:=r.get hy
 refine call_meets F.slot_list_pop ⟨_,e,rfl⟩ F.entry_list_pop (F.args_list_pop_2 _ _)
  (MeetsSeq.list_pop_at l its.toArray n i t k w (fitsIndex_both h1 h2) (by rw[qW_,<-hl];exact hk) (by rw[<-Array.getElem?_toList];exact hw) (by rw[qW_];omega)) ⟨e,?_⟩
 refine⟨y,_,I.EQ (its':=its.eraseIdx k) hH e ?_ (r.eraseIdx k) ?_,rw',q⟩
 · show its.toArray.eraseIdxIfInBounds k=(its.eraseIdx k).toArray
   rw[List.eraseIdxIfInBounds_toArray]
 · have:=rO xs k
   omega
def FT:R2:=fun x y H Q=>∃l b xs zs,x= .ref l/\y= .ref b/\H l=some (.lst xs)/\H b=some (.lst zs)/\xs.length+zs.length<=sizeLine/\∀p,H p=none->Q (.ref p) (upd H p (.lst (xs++zs)))
theorem Ex:OpR X (binaryOp .Add) FT:=by
 intro pins s σ H x y v u Q I rx ry h
 obtain⟨l,b,xs,zs,rfl,rfl,hH,hB,hz,q⟩:=h
 cases rx
 cases ry
 obtain⟨z,its,n,r,hl,e⟩:=I.vT hH
 obtain⟨z2,its2,n2,r2,hl2,e2⟩:=I.vT hB
 refine PySem.P.add_list e e2 ?_ (by rw[qW_,qW_];omega)
 have ea:its.toArray++its2.toArray=(its++its2).toArray:=by simp
 rw[ea]
 exact⟨.ref _,_,I.GN (t':=s.toks) (r.append r2) (by rw[qN_];omega),rfl,q _ I.fresh⟩
def Gy:R2:=fun x y H Q=>∃l k xs,x= .ref l/\y= .int k/\H l=some (.lst xs)/\-(2 ^ 63)<=k/\k < 2 ^ 63/\xs.length*k.toNat<=sizeLine/\
 ∀p,H p=none->Q (.ref p) (upd H p (.lst (List.replicate k.toNat xs).flatten))
theorem len_rep{α:Type}(xs:List α)(k:Nat):(List.replicate k xs).flatten.length=k*xs.length:=by
 induction k with
 |zero=>simp
 |succ k ih=>rw[List.replicate_succ,List.flatten_cons,qN_,ih,Nat.succ_mul,Nat.add_comm]
theorem EN:OpR X (binaryOp .Mult) Gy:=by
 intro pins s σ H x y v u Q I rx ry h
 obtain⟨l,k,xs,rfl,rfl,hH,h1,h2,hz,q⟩:=h
 cases rx
 obtain⟨t,rfl⟩:=ry
 obtain⟨z,its,n,r,hl,e⟩:=I.vT hH
 have hlen:its.toArray.size*k.toNat<=sizeLine:=by rw[qW_,<-hl];exact hz
 have hcap:¬its.toArray.size*k.toNat > (2 ^ 63 - 1) / 8:=by
  have:(sizeLine:Nat)<=(2 ^ 63 - 1) / 8:=by decide
  omega
 have hfit:¬(!Builtin.List.listFitsIndex k)=true:=by
  rw[fitsIndex_both h1 h2]
  exact qC_
 have hlong:¬Builtin.List.listTooLong (its.toArray.size*k.toNat)=true:=by
  rw[uJ hlen]
  exact qC_
 have hnew:List.foldl (fun x1 x2=>x1++x2) #[] (List.replicate (if its.toArray.isEmpty=true then 0 else k.toNat) its.toArray)=(List.replicate k.toNat its).flatten.toArray:=by
  have f0:∀m:Nat,List.foldl (fun x1 x2=>x1++x2) #[] (List.replicate m its.toArray)=(List.replicate m its).flatten.toArray:=fun m=>by
   have:=foldl_rep its m []
   rw[qc_]at this
   exact this
  rw[f0]
  cases its with
  |nil=>simp
  |cons a r'=>rw[if_neg (by simp)]
 refine wpAny_binaryOp_repeat_ref (T:="list") (U:="int") (by decide) ⟨_,e,rfl⟩ (fun s'=>typeIs_int s' k t) noFill_list_mul F.fills_int_mul F.slot_int_rmul repeat_list F.slot_int_index.lookup
  (call_meets F.slot_int_rmul (typeIs_int s k t) F.entry_int_rmul (F.args_int_rmul_2 _ _) (int___rmul___int_list k t l its.toArray n)
    ⟨e,rfl,⟨_,e,rfl⟩,call_meets F.slot_list_mul ⟨_,e,rfl⟩ F.entry_list_mul (F.args_list_mul_2 _ _) (AutoListH.list___mul___list_int_3 l its.toArray n k t hfit hcap hlong) ⟨e,?_⟩⟩)
 rw[hnew]
 exact⟨.ref _,_,I.GN (t':=s.toks) (r.rep k.toNat) (by rw[len_rep,Nat.mul_comm];exact hz),rfl,q _ I.fresh⟩
end
section
variable{κ:Type} [DecidableEq κ]
def jS(kvs:List (κ×V))(k:κ):Option V:=(kvs.find? fun kv=>decide (kv.1=k)).map (·.2)
def putK(kvs:List (κ×V))(k:κ)(v:V):List (κ×V):=
 if (kvs.any fun kv=>decide (kv.1=k))=true then kvs.map (fun kv=>if kv.1=k then (kv.1,v)else kv)else kvs++[(k,v)]
theorem pw{p:κ×V}{r:List (κ×V)}{k:κ}(e:p.1=k):jS (p :: r) k=some p.2:=by simp [jS,List.find?_cons,e]
theorem p7{p:κ×V}{r:List (κ×V)}{k:κ}(e:¬p.1=k):jS (p :: r) k=jS r k:=by simp [jS,List.find?_cons,e]
theorem uO(k:κ):∀kvs:List (κ×V),(kvs.any fun kv=>decide (kv.1=k))=(jS kvs k).isSome
 | []=>rfl
 |p :: r=>by
  rw[List.any_cons]
  by_cases e:p.1=k
  · simp only[pw e,qZ_ e,Bool.true_or,Option.isSome_some]
  · rw[p7 e,qa_ e,Bool.false_or];exact uO k r
theorem oJ(kvs:List (κ×V))(k:κ)(v:V):(putK kvs k v).length<=kvs.length+1:=by
 unfold putK
 split
 · rw[qM_];omega
 · rw[qN_,List.length_cons,List.length_nil];omega
theorem ly.ji{o:Option V}{u:Option Value}(r:ly o u):o.isSome=u.isSome:=by
 cases o with
 |none=>cases u with
  |none=>rfl
  |some _=>exact(show False from r).elim
 |some _=>cases u with
  |none=>exact(show False from r).elim
  |some _=>rfl
theorem KV.val{kvs:List (κ×V)}{vs:List (κ×Value)}(r:KV kvs vs)(k:κ):ly (jS kvs k) (valueAt vs k):=by
 unfold KV at r
 induction r with
 |nil=>exact True.intro
 |@cons p q ps qs h t ih=>
  obtain⟨h1,h2⟩:=h
  by_cases e:p.1=k
  · have e':q.1=k:=h1.symm.trans e
    have b:valueAt (q :: qs) k=some q.2:=by simp [valueAt,List.find?_cons,e']
    rw[pw e,b];exact h2
  · have e':¬q.1=k:=fun z=>e (h1.trans z)
    have b:valueAt (q :: qs) k=valueAt qs k:=by simp [valueAt,List.find?_cons,e']
    rw[p7 e,b];exact ih
theorem KV.any{kvs:List (κ×V)}{vs:List (κ×Value)}(r:KV kvs vs)(k:κ):(kvs.any fun kv=>decide (kv.1=k))=vs.any fun kv=>decide (kv.1=k):=by
 unfold KV at r
 induction r with
 |nil=>rfl
 |cons h t ih=>rw[List.any_cons,List.any_cons,ih,h.1]
theorem KV.Ec{kvs:List (κ×V)}{vs:List (κ×Value)}(r:KV kvs vs)(k:κ){y:V}{u:Value}(ry:RelV y u):
 KV (kvs.map fun kv=>if kv.1=k then (kv.1,y)else kv) (vs.map fun kv=>if kv.1=k then (kv.1,u)else kv):=by
 unfold KV at r ⊢
 induction r with
 |nil=>exact .nil
 |@cons p q ps qs h t ih=>
  rw[List.map_cons,List.map_cons]
  refine .cons ?_ ih
  obtain⟨h1,h2⟩:=h
  by_cases e:p.1=k
  · rw[if_pos e,if_pos (h1.symm.trans e)];exact⟨h1,ry⟩
  · rw[if_neg e,if_neg (fun z=>e (h1.trans z))];exact⟨h1,h2⟩
theorem KV.put{kvs:List (κ×V)}{vs:List (κ×Value)}(r:KV kvs vs)(k:κ){y:V}{u:Value}(ry:RelV y u):KV (putK kvs k y) (stored vs k u):=by
 unfold putK stored
 rw[r.any k]
 by_cases e:(vs.any fun kv=>decide (kv.1=k))=true
 · rw[if_pos e,if_pos e];exact r.Ec k ry
 · rw[if_neg e,if_neg e];exact Paired.snoc r ⟨rfl,ry⟩
theorem KV.length{kvs:List (κ×V)}{vs:List (κ×Value)}(r:KV kvs vs):kvs.length=vs.length:=Paired.length r
end
theorem vb{P:Program}{w:World}{k:Key}{u:Value}(r:RelV (kV k) u):(cN P w).is k u=true:=by
 cases k with
 |inl i=>obtain⟨t,e⟩:=(show ∃t,u=Value.int i t from r);subst e;exact ug P w i t
 |inr x=>obtain⟨t,e⟩:=(show ∃t,u=Value.str x t from r);subst e;exact uk P w x t
theorem rK{P:Program}{w:World}:∀{ks:List Key} {us:List Value},Vals (ks.map kV) us->ItemsAre (cN P w) ks us
 | [],_,r=>by rw[List.map_nil]at r;cases r;exact .nil
 |k :: ks,_,r=>by
  rw[List.map_cons]at r
  cases r with
  |cons h t=>exact .cons (vb h) (rK t)
abbrev KT(H:Hp):List (List Key×V)->List (List Key×Addr×Value)->Prop:=Paired fun p q=>p.1=q.1/\H q.2.1=some (.tup (p.1.map kV))/\RelV p.2 q.2.2
theorem KT.val{H:Hp}{kvs:List (List Key×V)}{xs:List (List Key×Addr×Value)}(r:KT H kvs xs)(k:List Key):ly (jS kvs k) ((atKey xs k).map (·.2)):=by
 induction r with
 |nil=>exact True.intro
 |@cons p q ps qs h t ih=>
  obtain⟨h1,_,h2⟩:=h
  by_cases e:p.1=k
  · have e':q.1=k:=h1.symm.trans e
    have b:atKey (q :: qs) k=some q.2:=by simp [atKey,List.find?_cons,e']
    rw[pw e,b];exact h2
  · have e':¬q.1=k:=fun z=>e (h1.trans z)
    have b:atKey (q :: qs) k=atKey qs k:=by simp [atKey,List.find?_cons,e']
    rw[p7 e,b];exact ih
theorem KT.Ec{H:Hp}{kvs:List (List Key×V)}{xs:List (List Key×Addr×Value)}(r:KT H kvs xs)(k:List Key){y:V}{u:Value}(ry:RelV y u):
 KT H (kvs.map fun kv=>if kv.1=k then (kv.1,y)else kv) (xs.map (putAt k u)):=by
 induction r with
 |nil=>exact .nil
 |@cons p q ps qs h t ih=>
  rw[List.map_cons,List.map_cons]
  refine .cons ?_ ih
  obtain⟨h1,h2,h3⟩:=h
  unfold putAt
  by_cases e:p.1=k
  · rw[if_pos e,if_pos (h1.symm.trans e)];exact⟨h1,h2,ry⟩
  · rw[if_neg e,if_neg (fun z=>e (h1.trans z))];exact⟨h1,h2,h3⟩
theorem KT.put{H:Hp}{kvs:List (List Key×V)}{xs:List (List Key×Addr×Value)}(r:KT H kvs xs)(k:List Key){b:Addr}{y:V}{u:Value}(hb:H b=some (.tup (k.map kV)))(ry:RelV y u):
 KT H (putK kvs k y) (storedH xs k b u):=by
 have e:(kvs.any fun kv=>decide (kv.1=k))=(atKey xs k).isSome:=by
  rw[uO,(r.val k).ji,Option.isSome_map]
 unfold putK storedH
 rw[e]
 by_cases q:(atKey xs k).isSome=true
 · rw[if_pos q,if_pos q];exact r.Ec k ry
 · rw[if_neg q,if_neg q];exact Paired.snoc r ⟨rfl,hb,ry⟩
theorem KT.keeps{H H':Hp}{kvs:List (List Key×V)}{xs:List (List Key×Addr×Value)}(r:KT H kvs xs)(ht:∀b ys,H b=some (.tup ys)->H' b=some (.tup ys)):KT H' kvs xs:=
 Paired.BJ r fun _ _ z=>⟨z.1,ht _ _ z.2.1,z.2.2⟩
section
variable{P:Program}{w:World}{H:Hp}{h:Heap}{a:Addr}
theorem CK{u:HO}(ok:HOk P w H h)(e:Rd H a u):cL P w H h a u:=e.ok ok
theorem rB{kvs:List (Key×V)}(ok:HOk P w H h)(e:Rd H a (.dK kvs)):kvs.length<=sizeLine/\(a==sysModules)=false/\∃vs,KV kvs vs/\h.DictOf (cN P w) a vs:=
 show cL P w H h a (.dK kvs)from CK ok e
theorem Ag{kvs:List (Key×V)}(ok:HOk P w H h)(e:H a=some (.dK kvs)):kvs.length<=sizeLine/\(a==sysModules)=false/\∃vs,KV kvs vs/\h.DictOf (cN P w) a vs:=rB ok (.inl e)
theorem qb{ks:List Key}(ok:HOk P w H h)(e:H a=some (.tup (ks.map kV))):(tupleKind (cN P w)).is h ks a:=by
 obtain⟨_,its,r,o,h1,h2,n,h3⟩:=(show cL P w H h a (.tup (ks.map kV))from ok a _ e)
 exact⟨o,its.toArray,n,h1,h2,h3,by simpa using rK r⟩
theorem vH{kvs:List (List Key×V)}(ok:HOk P w H h)(e:Rd H a (.dT kvs)):kvs.length<=sizeLine/\(a==sysModules)=false/\
 ∃xs,KT H kvs xs/\h.DictOfH (tupleKind (cN P w)) a xs:=by
 obtain⟨z,y,xs,r,o,es,ep,h1,h2,h3,h4,h5⟩:=(show cL P w H h a (.dT kvs)from CK ok e)
 refine⟨z,y,xs,r,o,es,ep,h1,h2,h3,h4,fun x hx=>?_,h5⟩
 have all:∀{l:List (List Key×V)} {m:List (List Key×Addr×Value)},KT H l m->∀x∈m,(tupleKind (cN P w)).is h x.1 x.2.1:=by
  intro l m q
  induction q with
  |nil=>intro x hx;exact nomatch hx
  |@cons p q ps qs hq t ih=>
   intro x hx
   rcases qS_.mp hx with e |hx
   · subst e
     exact qb ok (by rw[<-hq.1];exact hq.2.1)
   · exact ih x hx
 exact all r x hx
theorem FK{kvs:List (List Key×V)}(ok:HOk P w H h)(e:H a=some (.dT kvs)):kvs.length<=sizeLine/\(a==sysModules)=false/\
 ∃xs,KT H kvs xs/\h.DictOfH (tupleKind (cN P w)) a xs:=vH ok (.inl e)
end
def pZ(H:Hp)(a:Addr)(y:V)(r:Option V):Prop:=
 (∃kvs k,Rd H a (.dK kvs)/\y=kV k/\r=jS kvs k)\/∃kvs k b,Rd H a (.dT kvs)/\y= .ref b/\H b=some (.tup (k.map kV))/\r=jS kvs k
def Ba(H:Hp)(a:Addr)(y v:V)(H':Hp):Prop:=
 (∃kvs k,H a=some (.dK kvs)/\y=kV k/\kvs.length < sizeLine/\H'=upd H a (.dK (putK kvs k v)))\/
 ∃kvs k b,H a=some (.dT kvs)/\y= .ref b/\H b=some (.tup (k.map kV))/\kvs.length < sizeLine/\H'=upd H a (.dT (putK kvs k v))
theorem pZ.k{H:Hp}{a:Addr}{kvs:List (Key×V)}{k:Key}(e:H a=some (.dK kvs)):pZ H a (kV k) (jS kvs k):= .inl ⟨kvs,k,.inl e,rfl,rfl⟩
theorem Ba.k{H:Hp}{a:Addr}{kvs:List (Key×V)}{k:Key}{v:V}(e:H a=some (.dK kvs))(hl:kvs.length < sizeLine):Ba H a (kV k) v (upd H a (.dK (putK kvs k v))):= .inl ⟨kvs,k,e,rfl,hl,rfl⟩
section
variable{X:Cx}{pins:List (Addr×Obj)}{σ:St}{H:Hp}{s:Shared}{a:Addr}{y v:V}{u r:Value}{o:Option V}{A:Around}{E:Value->Shared->Prop}
theorem Inv.big(I:Inv X pins σ H s):sysModules < s.heap.objs.size:=by
 have h:mainGlobals < s.heap.objs.size:=(I.mod.glob.keeps I.bk).lt
 exact Nat.lt_trans (by decide) h
theorem xV{Q:Value->Shared->Prop}(hu:A.units+1 < cLine)(I:Inv X pins σ H s)(g:pZ H a y (some v))(ry:RelV y u)(h:∀w' s',Inv X pins σ H s'->RelV v w'->Q w' s'):
 wpAny (model X.prog X.w) A (getItem (.ref a) u) Q E s:=by
 rcases g with ⟨kvs,k,e,ey,l⟩ |⟨kvs,k,b,e,ey,eb,l⟩
 · subst ey
   obtain⟨z,hd,vs,rel,dd⟩:=rB I.hok e
   obtain⟨w',hw,rw'⟩:=ly.some_of (v:=v) (o:=valueAt vs k) (by rw[l];exact rel.val k)
   exact wpAny_getItem_of (vb ry) dd.mapOf hw (h w' _ (I.tok _) rw')
 · subst ey
   cases (show u=Value.ref b from ry)
   obtain⟨z,hd,xs,rel,dd⟩:=vH I.hok e
   obtain⟨w',hw,rw'⟩:=ly.some_of (v:=v) (o:=(atKey xs k).map (·.2)) (by rw[l];exact rel.val k)
   obtain⟨p,hp,hp2⟩:=Option.map_eq_some_iff.mp hw
   refine wpAny_getItem_heap (tupleKind_room_in1 hu) (qb I.hok eb) dd hp ?_
   rw[hp2]
   exact h w' _ (I.tok _) rw'
theorem HC{Q:Value->Shared->Prop}(hu:A.units+1 < cLine)(I:Inv X pins σ H s)(g:pZ H a y o)(ry:RelV y u)(h:∀s',Inv X pins σ H s'->Q (.bool o.isSome) s'):
 wpAny (model X.prog X.w) A (compareOp .In u (.ref a)) Q E s:=by
 rcases g with ⟨kvs,k,e,ey,l⟩ |⟨kvs,k,b,e,ey,eb,l⟩
 · subst ey
   obtain⟨z,hd,vs,rel,dd⟩:=rB I.hok e
   refine wpAny_in_of (vb ry) hd dd.mapOf ?_
   rw[<-(rel.val k).ji,<-l]
   exact h _ (I.tok _)
 · subst ey
   cases (show u=Value.ref b from ry)
   obtain⟨z,hd,xs,rel,dd⟩:=vH I.hok e
   refine wpAny_in_heap (tupleKind_room_in1 hu) (qb I.hok eb) hd dd ?_
   have q:=(rel.val k).ji
   rw[Option.isSome_map]at q
   rw[<-q,<-l]
   exact h _ (I.tok _)
theorem Bh{Q:Value->Shared->Prop}(hu:A.units+1 < cLine)(I:Inv X pins σ H s)(g:pZ H a y o)(ry:RelV y u)(h:∀s',Inv X pins σ H s'->Q (.bool (!o.isSome)) s'):
 wpAny (model X.prog X.w) A (compareOp .NotIn u (.ref a)) Q E s:=by
 rcases g with ⟨kvs,k,e,ey,l⟩ |⟨kvs,k,b,e,ey,eb,l⟩
 · subst ey
   obtain⟨z,hd,vs,rel,dd⟩:=rB I.hok e
   refine wpAny_notIn_of (vb ry) hd dd.mapOf ?_
   rw[<-(rel.val k).ji,<-l]
   exact h _ (I.tok _)
 · subst ey
   cases (show u=Value.ref b from ry)
   obtain⟨z,hd,xs,rel,dd⟩:=vH I.hok e
   refine wpAny_notIn_heap (tupleKind_room_in1 hu) (qb I.hok eb) hd dd ?_
   have q:=(rel.val k).ji
   rw[Option.isSome_map]at q
   rw[<-q,<-l]
   exact h _ (I.tok _)
theorem xg{h':Heap}{t':Nat}{ob:HO}(I:Inv X pins σ H s)(mu:Mut (H a))(hs:Heap.SameBut a s.heap h')(he:∃q,h'.get? a=some q)(new:cL X.prog X.w (upd H a ob) h' a ob):
 Inv X pins σ (upd H a ob) {s with heap:=h',toks:=t'}:=
 I.write (x:=a) (e:=a) mu (.inl rfl) (fun b q hb z=>(hs.2 b hb).trans z) he new
theorem DP{P:Program}{w:World}{H':Hp}{h':Heap}{kvs:List (Key×V)}{vs:List (Key×Value)}(z:kvs.length<=sizeLine)(hd:(a==sysModules)=false)(rel:KV kvs vs)(dd:h'.DictOf (cN P w) a vs):
 cL P w H' h' a (.dK kvs):=⟨z,hd,vs,rel,dd⟩
theorem yA{H':Hp}{Q:Unit->Shared->Prop}(hu:A.units+1 < cLine)(I:Inv X pins σ H s)(g:Ba H a y v H')(ry:RelV y u)(rv:RelV v r)(h:∀s',Inv X pins σ H' s'->Q () s'):
 wpAny (model X.prog X.w) A (setItem (.ref a) u r) Q E s:=by
 rcases g with ⟨kvs,k,e,ey,l,eH⟩ |⟨kvs,k,b,e,ey,eb,l,eH⟩
 · subst ey eH
   obtain⟨z,hd,vs,rel,dd⟩:=Ag I.hok e
   have hz:vs.length<=sizeLine:=by rw[<-rel.length];exact z
   have hl:(putK kvs k v).length<=sizeLine:=by have:=oJ kvs k v;omega
   refine wpAny_setItem_pairs (hsz:=hz) (vb ry) dd fun h' dd' hs=>h _ ?_
   have he:∃q,h'.get? a=some q:=let ⟨q,_,_,hq,_⟩:=dd';⟨q,hq⟩
   exact xg I (by rw[e];exact True.intro) hs he (DP hl hd (rel.put k rv) dd')
 · subst ey eH
   cases (show u=Value.ref b from ry)
   obtain⟨z,hd,xs,rel,dd⟩:=FK I.hok e
   have hz:xs.length<=sizeLine:=by rw[<-Paired.length rel];exact z
   have hl:(putK kvs k v).length<=sizeLine:=by have:=oJ kvs k v;omega
   refine wpAny_setItem_heap (hsz:=hz) (tupleKind_room_in1 hu) (qb I.hok eb) dd fun h' dd' hs=>h _ ?_
   obtain⟨q,es,ep,hq,h2,h3,h4,_,h5⟩:=dd'
   refine xg I (by rw[e];exact True.intro) hs ⟨q,hq⟩ ⟨hl,hd,_,(rel.put k eb rv).keeps fun c ys ec=>?_,q,es,ep,hq,h2,h3,h4,h5⟩
   rw[aP (y8 ec e (fun z=>nomatch z))]
   exact ec
end
section
variable{X:Cx}{pins:List (Addr×Obj)}{σ:St}{H:Hp}{s:Shared}{a:Addr}{kvs:List (Key×V)}{k:Key}{u:Value}{A:Around}{E:Value->Shared->Prop}
theorem FQ{Q:Value->Shared->Prop}(I:Inv X pins σ H s)(e:Rd H a (.dK kvs))(h:∀t s',Inv X pins σ H s'->Q (.int kvs.length t) s'):wpAny (model X.prog X.w) A (call (.builtin "len") [.ref a]) Q E s:=by
 obtain⟨z,hd,vs,rel,dd⟩:=rB I.hok e
 refine call_len_dict hd dd (by rw[<-rel.length];rw[sizeLine_eq]at z;omega) ?_
 rw[<-rel.length]
 exact h _ _ (I.tok _)
end
theorem uC{X:Cx}{pins:List (Addr×Obj)}{σ:St}{H:Hp}{s:Shared}{a:Addr}{y:V}{o:Option V}(I:Inv X pins σ H s)(g:pZ H a y o):s.TypeIs (.ref a) "dict":=by
 rcases g with ⟨kvs,k,e,_,_⟩ |⟨kvs,k,b,e,_,_,_⟩
 · obtain⟨_,_,vs,_,dd⟩:=rB I.hok e
   exact dd.typeIs
 · obtain⟨_,_,xs,_,dd⟩:=vH I.hok e
   exact dd.typeIs
theorem A6{P:Program}{w:World}{H:Hp}(h:Heap)(hb:sysModules < h.objs.size):cL P w H (h.push {cls:= .type "dict",data:= .dict #[]}) h.objs.size (.dK []):=
 ⟨qf_ _,beq_eq_false_iff_ne.mpr (Ne.symm (Nat.ne_of_lt hb)),[],.nil,Heap.DictOf.new h⟩
def EU:TE:=fun _ H Q=>∀p,H p=none->Q (.ref p) (upd H p (.dK []))
section
variable{X:Cx}{pos:Pos}
theorem AQ:PE X (.Dict [] [] pos) EU:=fun pins s σ H Q I h=>
 wpAny_Dict_empty ⟨.ref s.heap.objs.size,_,I.laid (a:=s.heap.objs.size) (o:= .dK []) (t':=s.toks) (fun _ _ q=>Heap.get?_push_of_some _ q) (qO_ _) (A6 s.heap I.big),rfl,h _ (I.hok.fresh (qO_ _))⟩
end
end L2
namespace Att
open PySem PySem.W PySem.Calls PyProof.Rows
theorem oR{P:Params}{h:Heap}:∀(ns:List Int) (vs:List Value),WellAll P h vs (ns.map WData.int)->IntsAre vs ns:=by
 intro ns
 induction ns with
 |nil=>
  intro vs w
  rw[List.map_nil]at w
  cases w
  exact .nil
 |cons n ns ih=>
  intro vs w
  rw[List.map_cons]at w
  cases w with
  |cons a b=>
   cases a
   exact .cons _ _ (ih _ b)
theorem yx{l:OpenLaw}{n:Nat}(hn:l.most=some n){P:Params}{h:Heap}{args:List WData}{vals:List Value}
 (hpre:l.row.toRowW.claim.pre args=true) (hwl:WellAll P h vals args):
 ∃a vs ns,vals=[Value.ref a]/\args=[WData.list (ns.map WData.int)]/\h.get? a=some {cls:= .type "list",data:= .seq vs.toArray}/\IntsAre vs ns/\ns.length<=n:=by
 have hsh:WShape.hasAll [] args [.list .int]=true:=(pre_splitW hpre).1
 have hc:l.pre.holds [] {args:=args}=true:=(pre_splitW hpre).2
 obtain⟨d,r,rfl,h1,h2⟩:=hasAllW_cons hsh
 obtain rfl:=hasAllW_nil h2
 obtain⟨xs,rfl,h3⟩:=hasW_list h1
 obtain⟨ns,rfl⟩:=items_int h3
 have hlen:ns.length<=n:=by
  unfold OpenLaw.pre at hc
  have h4:(WTm.not (.lt (.lit (.int (n:Int))) (.len (.arg 0)))).holds [] {args:=[.list (ns.map .int)]}=true:=by
   have h4:=(holds_andW hc).1
   rw[hn]at h4
   exact h4
  have h5:=condW_of h4 (w_not (w_lt w_lit (w_len_list (w_arg rfl))))
  rw[qM_]at h5
  refine Nat.le_of_not_lt fun q=>?_
  have q':(n:Int) < ((ns.length:Nat):Int):=by omega
  first
   |(rw[qZ_ q']at h5;exact absurd h5 (by decide))
   |(simp at h5;omega)
 cases hwl with
 |cons w1 w2=>
  cases w2
  cases w1 with
  |list ho aq=>exact⟨_,_,ns,rfl,rfl,ho,oR ns _ aq,hlen⟩
theorem yg(l:OpenLaw)(args:List WData):l.row.toRowW.claim.post args (.bool true) args=true:=
 postW_of (r:=l.row.toRowW) (X:=(true==true))
  (show WShape.has [] (.bool true) .bool=true by first |rfl |decide |simp [WShape.has,WShape.arms,WShape.armsAll])
  (show (WTm.eq .res (.lit (.bool true))).value [] {args:=args,res:=some (.bool true),after:=args}=some (.bool (true==true))from w_eq_bool (w_res rfl) w_lit) rfl
theorem vG{l:OpenLaw}{n:Nat}{q:Program}{loose:List Str}{XP:(Str->Option Value)->Heap->Prop}{YP:World->Heap->Prop}{d:DefRec}
 (hn:l.most=some n) (hdf:d.params.defaults=[])
 (call:∀(w:World) (s₀ s₁:Shared) (mg mb:Str->Option Value) (fa:Addr) (o:Obj) (pm cd doc:Value) (a:Addr) (vs:List Value) (ns:List Int),
   Ground q loose [] XP w s₀ mg mb s₁.heap->YP w s₁.heap->
   s₁.heap.get? fa=some o->o.data= .func (docDef d.name d.params d.body d.scope pm cd doc)->s₁.heap.CodeRec cd d.name->mg d.name=some (.ref fa)->
   s₁.heap.get? a=some {cls:= .type "list",data:= .seq vs.toArray}->IntsAre vs ns->ns.length<=n->s₁.gens=#[]->
   codeAny (model l.prog w) callerA (.call (.ref fa) ⟨[.ref a],[]⟩) (fun r s'=>r= .ok (.ret (.bool true))/\OldK s₁.heap s'.heap/\s'.os=s₁.os/\AllBare s'.gens) s₁):
 WalkO q loose XP YP l.row.toRowW d [] (fun f vs=>PySem.call f vs):=by
 intro w s₀ s₁ mg mb G Y fa o pm cd doc dV kV ho hd hcd hD hmg hg args vals as hpre hlay hrd hwl hlo
 obtain rfl:dV= .none:=Dflts.none hD hdf
 obtain rfl:kV= .none:=Dflts.noKw hD
 obtain⟨a,vs,ns,rfl,rfl,hobj,hints,hlen⟩:=yx hn hpre hwl
 refine enter_call (codeAny_mono (call w s₀ s₁ mg mb fa o pm cd doc a vs ns G Y ho (fd_plain hd) hcd hmg hobj hints hlen hg) fun r s' hq=>?_)
 obtain⟨rfl,h2,h3,h4⟩:=hq
 exact⟨.inl ⟨.bool true,.bool true,[],rfl,fun _=>rfl,.bool true,yg l _,fun _=>⟨List.Pairwise.nil,fun _ hm=>(nomatch hm)⟩⟩,h2,h3,h4⟩
end Att
namespace L2
open PySem PySem.Spec PyProof.Rows
theorem rJ:∀{vs:List Value} {ns:List Int},IntsAre vs ns->Vals (ns.map V.int) vs
 |_,_,.nil=>.nil
 |_,_,.cons n t h=>.cons ⟨t,rfl⟩ (rJ h)
def Aq(H:Hp):Prop:=∀b,H b=none\/∃o xs,H b=some (.frz o (.lst xs))
theorem AK{P:Program}{w:World}{K:PySem.W.Frag}{mg mb:Str->Option Value}{CX:CXT}{k:Nat}{fa a:Addr}{fd:FuncData}{x:Str}{sp:Sp}{s₁:Shared}{vs:List Value}{ns:List Int}
 (KX:K.In s₁.heap) (hns:s₁.heap.Ns mainGlobals mg) (hb:s₁.heap.Ns builtinsNs mb) (hbb:∀x:Str,x≠"__name__"->mb x=bootBuiltins x) (hlim:s₁.heap.NoLimit) (hg:s₁.gens=#[])
 (ha:s₁.heap.get? a=some {cls:= .type "list",data:= .seq vs.toArray}) (hi:IntsAre vs ns) (hl:ns.length<=sizeLine) (hr:eY k callerA)
 (F:∀base:Heap,K.In base->base.Ns mainGlobals mg->bh P w K mg base CX k fa fd [x] sp) (hbind:∀(s:Shared) (u:Value),BindsTo s fd ⟨[u],[]⟩ [(x,u)])
 (hsp:∀H:Hp,Aq H->SqL K H a (ns.map V.int)->sp [.ref a] H (fun v _=>v= .bl true) fun _ _ _=>False)
 (hCX:∀H e s',CX [] H s₁ (fun _ _ _=>False) e s'->False):
 codeAny (model P w) callerA (.call (.ref fa) ⟨[.ref a],[]⟩) (fun r s'=>r= .ok (.ret (.bool true))/\OldK s₁.heap s'.heap/\s'.os=s₁.os/\AllBare s'.gens) s₁:=by
 have rv:=rJ hi
 have lenV:=hi.length
 have core:∀H:Hp,Aq H->SqL K H a (ns.map V.int)->HOk P w H s₁.heap->(∀b,H b≠none->b=a)->(H a≠none->K.lookup a=none)->
  codeAny (model P w) callerA (.call (.ref fa) ⟨[.ref a],[]⟩) (fun r s'=>r= .ok (.ret (.bool true))/\OldK s₁.heap s'.heap/\s'.os=s₁.os/\AllBare s'.gens) s₁:=by
  intro H hO hS hok hA hK
  have base_of:∀{b:Addr} {o:Obj},s₁.heap.get? b=some o->H b=none->(sE s₁.heap H).get? b=some o:=fun e n=>Ah e n
  have noA:∀{b:Addr} {o:Obj} {es:Array DictEntry} {ep:Nat},s₁.heap.get? b=some o->o.data= .dict es ep->H b=none:=fun {b o es ep} e d=>by
   cases q:H b with
   |none=>rfl
   |some u=>
    have e':b=a:=hA b (by rw[q];simp)
    subst e'
    rw[ha]at e;cases e
    have d':Data.seq vs.toArray _=Data.dict es ep:=d
    cases d'
  have nsK:∀{b:Addr} {m:Str->Option Value},s₁.heap.Ns b m->(sE s₁.heap H).Ns b m:=fun {b m} ⟨o,es,ep,e,d,r⟩=>⟨o,es,ep,base_of e (noA e d),d,r⟩
  have hKb:K.In (sE s₁.heap H):=fun b o e=>base_of (KX b o e) (by
   cases q:H b with
   |none=>rfl
   |some u=>
    have e':b=a:=hA b (by rw[q];simp)
    subst e'
    rw[hK (by rw[q];simp)]at e;cases e)
  have hM:Mod K mg (sE s₁.heap H):=⟨hKb,nsK hns,⟨mb,nsK hb,hbb⟩,let ⟨mc,h1,h2⟩:=hlim;⟨mc,nsK h1,h2⟩⟩
  have e0:wc P w K mg (sE s₁.heap H) callerA [] s₁ H:=⟨rfl,hM,fun b o e=>Cn e,Nat.le_of_eq (xQ _ _),trivial,fun b hb=>absurd (show b∈([]:List Addr)from hb) (by simp),hok,.of_eq hg⟩
  refine codeAny_mono ((F _ hKb (nsK hns)).run callerA [] s₁ H ⟨[.ref a],[]⟩ [.ref a] [.ref a] _ _ hr e0 (hbind s₁ (.ref a)) (.cons rfl .nil) (hsp H hO hS)) fun r s' h=>?_
  cases r with
  |error e=>exact(hCX H e s' h).elim
  |ok fl=>
   cases fl with
   |next=>exact False.elim h
   |brk=>exact False.elim h
   |cont=>exact False.elim h
   |ret u=>
    obtain⟨v,H',os,bare,un,hok',r',q⟩:=h
    have q':v= .bl true:=q
    subst q'
    obtain rfl:u=Value.bool true:=r'
    refine⟨rfl,OldK.of_keep fun b o e=>?_,os,bare⟩
    cases q:H b with
    |none=>exact un.keep b o e q (by intro z;exact absurd (show b∈([]:List Addr)from z) (by simp)) (by simp)
    |some u=>
     rcases hO b with z |⟨ob,xs,z⟩
     · rw[q]at z;cases z
     · have z2:=un.oh b ob _ z
       obtain⟨e1,_⟩:=hok b _ z
       obtain⟨e2,_⟩:=hok' b _ z2
       rw[e]at e1;cases e1
       exact e2
 cases hk:K.lookup a with
 |some o=>
  have e:=KX a o hk
  rw[ha]at e
  cases e
  refine core (fun _=>none) (fun _=>.inl rfl) (.inr ⟨_,vs.toArray,_,hk,rfl,rfl,rfl,by rw[qW_,lenV];exact hl,by simpa using rv⟩) (fun b u z=>by have z':(none:Option HO)=some u:=z;cases z') (fun b z=>absurd rfl z) fun z=>absurd rfl z
 |none=>
  refine core (fun b=>if b=a then some (.frz {cls:= .type "list",data:= .seq vs.toArray} (.lst (ns.map V.int)))else none) (fun b=>?_) (.inl (.inr ⟨{cls:= .type "list",data:= .seq vs.toArray},if_pos rfl⟩)) (fun b u z=>?_) (fun b z=>?_) fun _=>hk
  · by_cases hb:b=a
    · exact .inr ⟨_,_,if_pos hb⟩
    · exact .inl (if_neg hb)
  · by_cases hb:b=a
    · have z':=(if_pos hb).symm.trans z
      cases z'
      subst hb
      exact⟨ha,by rw[qM_];exact hl,vs,_,rv,ha⟩
    · have z':=(if_neg hb).symm.trans z
      cases z'
  · by_cases hb:b=a
    · exact hb
    · exact absurd (if_neg hb) z
theorem Cm{l:PySem.W.OpenLaw}{n k:Nat}{q:Program}{loose:List Str}{XP:(Str->Option Value)->Heap->Prop}{YP:World->Heap->Prop}{d:DefRec}{K:Params->PySem.W.Frag}{CX:World->CXT}{sp:World->Sp}{x:Str}
 (hn:l.most=some n) (hn2:n<=sizeLine) (hdf:d.params.defaults=[]) (hr:eY k callerA)
 (hY:∀(w:World) (h:Heap),YP w h->(K w.params).In h)
 (F:∀(w:World) (mg:Str->Option Value) (fa:Addr) (h:Heap),(K w.params).In h->h.Ns mainGlobals mg->mg d.name=some (.ref fa)->
   ∃fd:FuncData,(∀(s:Shared) (u:Value),BindsTo s fd ⟨[u],[]⟩ [(x,u)])/\
    ∀base:Heap,(K w.params).In base->base.Ns mainGlobals mg->bh l.prog w (K w.params) mg base (CX w) k fa fd [x] (sp w))
 (hsp:∀(w:World) (H:Hp) (a:Addr) (ns:List Int),ns.length<=n->Aq H->SqL (K w.params) H a (ns.map V.int)->sp w [.ref a] H (fun v _=>v= .bl true) fun _ _ _=>False)
 (hCX:∀(w:World) (H:Hp) (s:Shared) (e:Value) (s':Shared),CX w [] H s (fun _ _ _=>False) e s'->False):
 PySem.W.WalkO q loose XP YP l.row.toRowW d [] (fun f vs=>PySem.call f vs):=by
 refine Att.vG hn hdf fun w s₀ s₁ mg mb fa o pm cd doc a vs ns G Y ho hd hcd hmg hobj hints hlen hg=>?_
 have KX:=hY w _ Y
 obtain⟨fd,hb,hF⟩:=F w mg fa _ KX G.T.g hmg
 exact AK KX G.T.g G.T.b G.T.builtins G.T.nolimit hg hobj hints (Nat.le_trans hlen hn2) hr hF hb (fun H hO hS=>hsp w H a ns hlen hO hS) fun H e s'=>hCX w H s₁ e s'
def inClass(s:Stmt)(j:Nat):Stmt:=match s with
 | .ClassDef _ _ _ body _ _ _ _ _ _ _=>body.getD j (.Pass ⟨0,0,0,0⟩)
 |_=>.Pass ⟨0,0,0,0⟩
def aD(s:Stmt):Arguments:=match s with
 | .FunctionDef _ a _ _ _ _ _ _ _ _=>a
 |_=>{posonlyargs:=[],args:=[],vararg:=none,kwonlyargs:=[],kw_defaults:=[],kwarg:=none,defaults:=[]}
def aA(s:Stmt):List Stmt:=match s with
 | .FunctionDef _ _ b _ _ _ _ _ _ _=>b
 |_=>[]
def af(s:Stmt):Scope:=match s with
 | .FunctionDef _ _ _ _ _ _ sc _ _ _=>sc
 |_=>{kind:= .function,names:=[],isGenerator:=false,isCoroutine:=false}
abbrev CX0:CXT:=fun _ _ _ _ _ _=>False
structure Fun (K:PySem.W.Frag) (x qual:Str) (st:Stmt) (f:Addr) (fd:FuncData):Prop where
 ex:∃(oc:Value) (od:Option Addr) (kV doc pm:Value) (an:Option Addr) (cdv ct:Value) (osl:Array (Option Value)),
  fd=PySem.W.fnOf x qual (aD st) (aA st) (af st) .none kV doc pm an cdv ct/\K.lookup f=some ⟨oc,od,.func fd,osl⟩/\PySem.W.codeIn K cdv qual=true
 kp:PySem.W.keepIn K (.ref f)=true
section
variable{P:Program}{w:World}{K:PySem.W.Frag}{mg:Str->Option Value}{base:Heap}
theorem Fun.ok{x qual:Str}{st:Stmt}{f:Addr}{fd:FuncData}{N ps:List Str}{k:Nat}{sp:Sp}(F:Fun K x qual st f fd)(S:aB N ps (af st))(len:∀vs H Q E,sp vs H Q E->vs.length=ps.length)
 (hbody:∀(cdv:Value) (A:Around) (outer:List Env) (s:Shared) (H:Hp) (vs:List V) (Q:VK) (E:XK),eY k (A.deeper (envOfC qual (af st) s.heap.objs.size f cdv))->sp vs H Q E->
   ∃t,PSs (li CX0 P w K mg base N qual (af st) f cdv A outer s H E).nox (aA st) t/\t {nx:=fun _ H'=>Q .non H',rt:=Q} (start N vs) H):bh P w K mg base CX0 (k+1) f fd ps sp:=by
 obtain⟨oc,od,kV,doc,pm,an,cdv,ct,osl,rfl,lk,hcd⟩:=F.ex
 refine CO lk hcd S len fun A outer s H vs Q E hr hsp=>?_
 obtain⟨t,h,q⟩:=hbody cdv A outer s H vs Q E hr hsp
 exact⟨t,h.nox,q⟩
theorem Fun.binds{x qual:Str}{st:Stmt}{f:Addr}{fd:FuncData}{ps:List Str}(F:Fun K x qual st f fd)
 (h:∀(kV doc pm:Value) (an:Option Addr) (cdv ct:Value) (us:List Value),us.length=ps.length->bindArgs (PySem.W.fnOf x qual (aD st) (aA st) (af st) .none kV doc pm an cdv ct) ⟨us,[]⟩=pure (ps.zip us)):Binds K fd ps []:=by
 obtain⟨oc,od,kV,doc,pm,an,cdv,ct,osl,rfl,lk,hcd⟩:=F.ex
 exact .all (h kV doc pm an cdv ct)
theorem aO{x qual:Str}{st:Stmt}{f:Addr}{oc:Value}{od an:Option Addr}{osl:Array (Option Value)}{kV doc pm cdv ct:Value}(l:K.lookup f=some ⟨oc,od,.func (PySem.W.fnOf x qual (aD st) (aA st) (af st) .none kV doc pm an cdv ct),osl⟩)
 (c:PySem.W.codeIn K cdv qual=true) (k:PySem.W.keepIn K (.ref f)=true):Fun K x qual st f (PySem.W.fnOf x qual (aD st) (aA st) (af st) .none kV doc pm an cdv ct):=⟨⟨oc,od,kV,doc,pm,an,cdv,ct,osl,rfl,l,c⟩,k⟩
end
section
variable{X:Cx}
theorem yi:gh X (.builtin "len") (fun xs H Q=>∃a kvs,xs=[V.ref a]/\H a=some (.dK kvs)/\Q (.int kvs.length) H):=by
 intro pins s σ H xs us Q I r h
 obtain⟨a,kvs,rfl,ha,q⟩:=h
 obtain⟨u,rfl,ru⟩:=vals1 r
 cases ru
 exact FQ I (.inl ha) fun t s' I'=>⟨.int kvs.length,H,I',⟨t,rfl⟩,q⟩
end
def gK(H H':Hp):Prop:=∀b o,H b=some o->H' b=some o
end L2
namespace M3
open PySem
inductive D where
 |non |bl (b:Bool) |int (i:Int) |str (x:Str) |tup (xs:List D) |ref (n:Nat)
 deriving Inhabited
mutual
def D.beq:D->D->Bool
 | .non,.non=>true
 | .bl a,.bl b=>a==b
 | .int a,.int b=>a==b
 | .str a,.str b=>decide (a=b)
 | .tup a,.tup b=>D.yj a b
 | .ref a,.ref b=>a==b
 |_,_=>false
def D.yj:List D->List D->Bool
 | [],[]=>true
 |a :: r,b :: t=>D.beq a b&&D.yj r t
 |_,_=>false
end
mutual
theorem D.beq_iff:∀(x y:D),D.beq x y=true↔x=y
 | .non,y=>by cases y <;> simp [D.beq]
 | .bl a,y=>by cases y <;> simp [D.beq]
 | .int a,y=>by cases y <;> simp [D.beq]
 | .str a,y=>by cases y <;> simp [D.beq]
 | .tup a,y=>by
   cases y with
   |tup b=>simp only[D.beq,D.tup.injEq];exact D.ve a b
   |_=>simp [D.beq]
 | .ref a,y=>by cases y <;> simp [D.beq]
theorem D.ve:∀(x y:List D),D.yj x y=true↔x=y
 | [],y=>by cases y <;> simp [D.yj]
 |a :: r,y=>by
  cases y with
  |nil=>simp [D.yj]
  |cons b t=>
   simp only[D.yj,Bool.and_eq_true,List.cons.injEq]
   rw[D.beq_iff a b,D.ve r t]
end
instance:DecidableEq D:=fun x y=>decidable_of_iff _ (D.beq_iff x y)
abbrev Key:=Sum Int Str
inductive O where
 |lst (xs:List D) |frz (xs:List D) |dK (kvs:List (Key×D)) |dF (kvs:List (Key×D)) |dT (kvs:List (List Key×D)) |ins (C:Nat) (fs:List (Nat×D))
 deriving Inhabited,DecidableEq
inductive Oc (α:Type) where
 |ok (a:α) |exc (c:Nat)
abbrev Hh:=List O
abbrev M(α:Type):=Hh->Option (Oc α×Hh)
def ret{α:Type}(a:α):M α:=fun G=>some (.ok a,G)
def fail{α:Type}:M α:=fun _=>none
def bnd{α β:Type}(m:M α)(k:α->M β):M β:=fun G=>match m G with
 |some (.ok a,G')=>k a G'
 |some (.exc c,G')=>some (.exc c,G')
 |none=>none
def run{α:Type}(m:M α)(G:Hh)(Q:α->Hh->Prop)(E:Nat->Hh->Prop):Prop:=match m G with
 |some (.ok a,G')=>Q a G'
 |some (.exc c,G')=>E c G'
 |none=>False
theorem bc{α β:Type}{m:M α}{k:α->M β}{G:Hh}{Q:β->Hh->Prop}{E:Nat->Hh->Prop}(h:run (bnd m k) G Q E):run m G (fun a G1=>run (k a) G1 Q E) E:=by
 unfold run bnd at*
 cases e:m G with
 |none=>rw[e]at h;exact h
 |some p=>
  obtain⟨o,G1⟩:=p
  rw[e]at h
  cases o with
  |ok a=>exact h
  |exc c=>exact h
theorem az{α:Type}{m:M α}{G:Hh}{Q Q':α->Hh->Prop}{E E':Nat->Hh->Prop}(h:run m G Q E)(hq:∀a G',Q a G'->Q' a G')(he:∀c G',E c G'->E' c G'):run m G Q' E':=by
 unfold run at*
 cases e:m G with
 |none=>rw[e]at h;exact h
 |some p=>
  obtain⟨o,G1⟩:=p
  rw[e]at h
  cases o with
  |ok a=>exact hq _ _ h
  |exc c=>exact he _ _ h
@[simp] theorem bnd_ret {α β:Type} (a:α) (k:α->M β):bnd (ret a) k=k a:=rfl
theorem kX{α β γ:Type}(m:M α)(k:α->M β)(l:β->M γ):bnd (bnd m k) l=bnd m fun a=>bnd (k a) l:=by
 funext G
 unfold bnd
 cases m G with
 |none=>rfl
 |some p=>
  obtain⟨o,G1⟩:=p
  cases o <;> rfl
abbrev St:=List (Option D)
abbrev E3:=St->M D
abbrev T3:=St->M Bool
abbrev A3:=St->M (List D)
inductive Fl where
 |next |brk |cont |ret (d:D)
abbrev S3:=St->M (Fl×St)
def ae(i:Nat):E3:=fun σ=>match σ[i]? with
 |some (some d)=>ret d
 |_=>fail
def eC(d:D):E3:=fun _=>ret d
def eOp(f:D->D->M D)(a b:E3):E3:=fun σ=>bnd (a σ) fun x=>bnd (b σ) fun y=>f x y
def eUn(f:D->M D)(a:E3):E3:=fun σ=>bnd (a σ) f
def au:A3:=fun _=>ret []
def ah(e:E3)(r:A3):A3:=fun σ=>bnd (e σ) fun x=>bnd (r σ) fun xs=>ret (x :: xs)
def aH:Nat:=16777216
def new(o:O):M D:=fun G=>some (.ok (.ref G.length),G++[o])
def fy(a:A3):E3:=fun σ=>bnd (a σ) fun xs=>if xs.length<=aH then ret (.tup xs)else fail
def gc(a:A3):E3:=fun σ=>bnd (a σ) fun xs=>if xs.length<=aH then new (.lst xs)else fail
def aL(f:List D->M D)(a:A3):E3:=fun σ=>bnd (a σ) f
def eIf(t:T3)(a b:E3):E3:=fun σ=>bnd (t σ) fun c=>if c then a σ else b σ
def truth(d:D):M Bool:=fun G=>match d with
 | .non=>some (.ok false,G)
 | .bl b=>some (.ok b,G)
 | .int i=>some (.ok (i !=0),G)
 | .str x=>if x.length<=aH then some (.ok (x.length !=0),G)else none
 | .tup xs=>some (.ok (!xs.isEmpty),G)
 | .ref n=>match G[n]? with
   |some (.lst xs)=>some (.ok (!xs.isEmpty),G)
   |some (.frz xs)=>some (.ok (!xs.isEmpty),G)
   |some (.dK kvs)=>some (.ok (!kvs.isEmpty),G)
   |_=>none
def tOf(e:E3):T3:=fun σ=>bnd (e σ) truth
def asB(d:D):M Bool:=match d with
 | .bl b=>ret b
 |_=>fail
def tB(e:E3):T3:=fun σ=>bnd (e σ) asB
def tOr(t u:T3):T3:=fun σ=>bnd (t σ) fun c=>if c then ret true else u σ
def gC(t:T3):T3:=fun σ=>bnd (t σ) fun c=>ret (!c)
def uZ(a b:E3):E3:=fun σ=>bnd (a σ) fun x=>bnd (asB x) fun c=>if c then b σ else ret (.bl false)
def zL(a:E3):E3:=fun σ=>bnd (a σ) fun x=>bnd (asB x) fun c=>ret (.bl (!c))
def small(i:Int):Bool:=decide (-(2 ^ 64) < i/\i < 2 ^ 64)
def jO(x y:D):M D:=match x,y with
 | .int i,.int j=>ret (.int (i+j))
 | .str a,.str b=>if a.length+b.length<=aH then ret (.str (a++b))else fail
 | .tup a,.tup b=>if a≠ []/\a.length+b.length<=aH then ret (.tup (a++b))else fail
 | .ref i,.ref j=>fun G=>match G[i]?,G[j]? with
   |some (.lst a),some (.lst b)=>if a.length+b.length<=aH then new (.lst (a++b)) G else none
   |_,_=>none
 |_,_=>fail
def qY(x y:D):M D:=match x,y with
 | .int i,.int j=>ret (.int (i - j))
 |_,_=>fail
def iE(x y:D):M D:=match x,y with
 | .int i,.int j=>if small i||small j then ret (.int (i*j))else fail
 | .str a,.int k=>if 0<=k/\k<=1000/\a.length<=1000 then ret (.str (Txt.mul a k))else fail
 | .ref n,.int k=>fun G=>match G[n]? with
   |some (.lst xs)=>if 0<=k/\k<=1000000/\xs.length*k.toNat<=aH then new (.lst (List.replicate k.toNat xs).flatten) G else none
   |_=>none
 |_,_=>fail
def oMod(x y:D):M D:=match x,y with
 | .int i,.int j=>if 0 < j then ret (.int (i % j))else fail
 |_,_=>fail
def oDiv(x y:D):M D:=match x,y with
 | .int i,.int j=>if 0 < j/\j < 1073741824 then ret (.int (i / j))else fail
 |_,_=>fail
def tY:List Int->List Int->Bool
 | [],[]=>false
 | [],_ :: _=>true
 |_ :: _,[]=>false
 |a :: r,b :: t=>if a=b then tY r t else decide (a < b)
def intsOf:List D->Option (List Int)
 | []=>some []
 | .int i :: r=>(intsOf r).map (i :: ·)
 |_ :: _=>none
def oLt(x y:D):M D:=match x,y with
 | .int i,.int j=>ret (.bl (decide (i < j)))
 | .tup a,.tup b=>match intsOf a,intsOf b with
   |some m,some n=>ret (.bl (tY m n))
   |_,_=>fail
 |_,_=>fail
def oGt(x y:D):M D:=match x,y with
 | .int i,.int j=>ret (.bl (decide (j < i)))
 | .tup a,.tup b=>match intsOf a,intsOf b with
   |some m,some n=>ret (.bl (tY n m))
   |_,_=>fail
 |_,_=>fail
def oGe(x y:D):M D:=match x,y with
 | .int i,.int j=>ret (.bl (decide (j<=i)))
 |_,_=>fail
def eqZ(f:D->D->Option Bool):List D->List D->Option Bool
 |a :: r,b :: t=>match f a b,eqZ f r t with
  |some p,some q=>some (p&&q)
  |_,_=>none
 |_,_=>some true
def listOf(G:Hh)(n:Nat):Option (List D):=match G[n]? with
 |some (.lst xs)=>some xs
 |some (.frz xs)=>some xs
 |_=>none
def eqG(G:Hh):Nat->D->D->Option Bool
 |0,_,_=>none
 |k+1,x,y=>match x,y with
  | .non,.non=>some true
  | .bl a,.bl b=>some (a==b)
  | .int a,.int b=>some (decide (a=b))
  | .str a,.str b=>some (decide (a=b))
  | .tup a,.tup b=>(eqZ (eqG G k) a b).map (·&&decide (a.length=b.length))
  | .ref i,.ref j=>match listOf G i,listOf G j with
    |some a,some b=>if a.length=b.length then eqZ (eqG G k) a b else some false
    |_,_=>none
  | .non,.int _=>some false
  | .int _,.non=>some false
  | .non,.str _=>some false
  | .str _,.non=>some false
  | .non,.tup _=>some false
  | .tup _,.non=>some false
  | .int _,.str _=>some false
  | .str _,.int _=>some false
  | .int _,.tup _=>some false
  | .tup _,.int _=>some false
  |_,_=>none
def oEq(x y:D):M D:=fun G=>match eqG G 8 x y with
 |some b=>some (.ok (.bl b),G)
 |none=>none
def oNe(x y:D):M D:=fun G=>match eqG G 8 x y with
 |some b=>some (.ok (.bl (!b)),G)
 |none=>none
def rh(x:D):M D:=ret (.bl (decide (x= .non)))
def lM(x:D):M D:=ret (.bl (!decide (x= .non)))
def qy(G:Hh)(x:D):List D->Option Bool
 | []=>some false
 |y :: r=>match eqG G 8 y x,qy G x r with
  |some p,some q=>some (p||q)
  |_,_=>none
def qg(d:D):Option Key:=match d with
 | .int i=>some (.inl i)
 | .str x=>some (.inr x)
 |_=>none
def look{κ:Type} [DecidableEq κ](kvs:List (κ×D))(k:κ):Option D:=(kvs.find? fun kv=>decide (kv.1=k)).map (·.2)
def put{κ:Type} [DecidableEq κ](kvs:List (κ×D))(k:κ)(v:D):List (κ×D):=
 if (kvs.any fun kv=>decide (kv.1=k))then kvs.map fun kv=>if kv.1=k then (kv.1,v)else kv else kvs++[(k,v)]
def inG(G:Hh)(x y:D):Option Bool:=match y with
 | .tup ys=>qy G x ys
 | .ref n=>match G[n]? with
   |some (.lst ys)=>qy G x ys
   |some (.frz ys)=>qy G x ys
   |some (.dK kvs)=>match qg x with
    |some k=>some (look kvs k).isSome
    |none=>none
   |_=>none
 |_=>none
def oIn(x y:D):M D:=fun G=>match inG G x y with
 |some b=>some (.ok (.bl b),G)
 |none=>none
def nT(x y:D):M D:=fun G=>match inG G x y with
 |some b=>some (.ok (.bl (!b)),G)
 |none=>none
def ixN(n:Nat)(i:Int):Option Nat:=if 0<=i then (if i < n then some i.toNat else none)else if -(n:Int)<=i then some (i+n).toNat else none
def atI(xs:List D)(i:Int):Option D:=(ixN xs.length i).bind fun j=>xs[j]?
def mE(o:Option D):M D:=match o with
 |some d=>ret d
 |none=>fail
def oIx(x y:D):M D:=match x,y with
 | .tup xs,.int i=>mE (atI xs i)
 | .ref n,y=>fun G=>match G[n]?,y with
   |some (.lst xs),.int i=>mE (atI xs i) G
   |some (.frz xs),.int i=>mE (atI xs i) G
   |some (.dK kvs),y=>match qg y with
    |some k=>mE (look kvs k) G
    |none=>none
   |_,_=>none
 |_,_=>fail
inductive Kd where
 |non |bl |int |str |tup |lst |dic
def kdOf(G:Hh)(d:D):Option Kd:=match d with
 | .non=>some .non
 | .bl _=>some .bl
 | .int _=>some .int
 | .str _=>some .str
 | .tup _=>some .tup
 | .ref n=>match G[n]? with
   |some (.lst _)=>some .lst
   |some (.frz _)=>some .lst
   |some (.dK _)=>some .dic
   |some (.dT _)=>some .dic
   |_=>none
def jV:Kd->Kd->Bool
 | .non,.non=>true | .bl,.bl=>true | .bl,.int=>true | .int,.int=>true | .str,.str=>true | .tup,.tup=>true | .lst,.lst=>true | .dic,.dic=>true
 |_,_=>false
def bIs(c:Kd)(ds:List D):M D:=fun G=>match ds with
 | [d]=>match kdOf G d with
   |some k=>some (.ok (.bl (jV k c)),G)
   |none=>none
 |_=>none
def xP(cs:List Kd)(ds:List D):M D:=fun G=>match ds with
 | [d]=>match kdOf G d with
   |some k=>some (.ok (.bl (cs.any (jV k ·))),G)
   |none=>none
 |_=>none
def gI(ds:List D):M D:=fun G=>match ds with
 | [.tup xs]=>if xs.length<=aH then some (.ok (.int xs.length),G)else none
 | [.str x]=>if x.length<=aH then some (.ok (.int x.length),G)else none
 | [.ref n]=>match G[n]? with
   |some (.lst xs)=>some (.ok (.int xs.length),G)
   |some (.frz xs)=>some (.ok (.int xs.length),G)
   |some (.dK kvs)=>some (.ok (.int kvs.length),G)
   |_=>none
 |_=>none
def jR:Int->List Int->Int
 |m,[]=>m
 |m,x :: r=>jR (if x > m then x else m) r
def x4(ds:List D):M D:=fun G=>match ds with
 | [.int i,.int j]=>some (.ok (.int (if j > i then j else i)),G)
 | [.ref n]=>match G[n]? with
   |some (.lst xs)=>match intsOf xs with
    |some (m :: r)=>some (.ok (.int (jR m r)),G)
    |_=>none
   |_=>none
 |_=>none
def AJ(ds:List D):M D:=fun G=>match ds with
 | [.int i,.int j]=>some (.ok (.int (if j < i then j else i)),G)
 |_=>none
def qt(ds:List D):M D:=fun G=>match ds with
 | [.ref n]=>match G[n]? with
   |some (.lst xs)=>new (.lst xs) G
   |some (.frz xs)=>new (.lst xs) G
   |_=>none
 | [.tup xs]=>if xs.length<=aH then new (.lst xs) G else none
 |_=>none
def AD(ds:List D):M D:=fun G=>match ds with
 | [.int i]=>some (.ok (.int i),G)
 | [.bl b]=>some (.ok (.int (if b then 1 else 0)),G)
 | [.str x]=>match PySem.intText? x with
   |some n=>if x.length<=640 then some (.ok (.int n),G)else none
   |none=>none
 |_=>none
def iH(x y:D):M D:=fun G=>match x with
 | .ref n=>match G[n]? with
   |some (.lst xs)=>if xs.length < aH then some (.ok .non,G.set n (.lst (xs++[y])))else none
   |_=>none
 |_=>none
def isL(x:D):M Unit:=fun G=>match x with
 | .ref n=>match G[n]? with
   |some (.lst _)=>some (.ok (),G)
   |_=>none
 |_=>none
def oK(o a:E3):E3:=fun σ=>bnd (o σ) fun x=>bnd (isL x) fun _=>bnd (a σ) fun y=>iH x y
def putN(f:Nat)(v:D):List (Nat×D)->List (Nat×D)
 | []=>[(f,v)]
 |(g,x) :: r=>if g=f then (g,v) :: r else (g,x) :: putN f v r
def Ac(x:D)(f:Nat):M D:=fun G=>match x with
 | .ref n=>match G[n]? with
   |some (.ins C fs)=>if C < 1000 then (match fs.lookup f with
    |some d=>some (.ok d,G)
    |none=>none)else none
   |_=>none
 |_=>none
def yD(x:D)(f:Nat)(y:D):M Unit:=fun G=>match x with
 | .ref n=>match G[n]? with
   |some (.ins C fs)=>if C < 1000/\fs.length < 1000 then some (.ok (),G.set n (.ins C (putN f y fs)))else none
   |_=>none
 |_=>none
def isC(C:Nat)(x:D):M Unit:=fun G=>match x with
 | .ref n=>match G[n]? with
   |some (.ins C' _)=>if C'=C then some (.ok (),G)else none
   |_=>none
 |_=>none
def bw(o:E3)(f:Nat):E3:=fun σ=>bnd (o σ) fun x=>Ac x f
def bL(o:E3)(f:Nat)(e:E3):S3:=fun σ=>bnd (e σ) fun y=>bnd (o σ) fun x=>bnd (yD x f y) fun _=>ret (.next,σ)
def aV(C:Nat)(g:List D->M D)(o:E3)(a:A3):E3:=fun σ=>bnd (o σ) fun x=>bnd (isC C x) fun _=>bnd (a σ) fun ds=>g (x :: ds)
def xw(d:D):M Unit:=match d with
 | .non=>ret ()
 |_=>fail
def nH(C:Nat)(g:List D->M D)(a:A3):E3:=fun σ=>bnd (a σ) fun ds=>bnd (new (.ins C [])) fun x=>bnd (g (x :: ds)) fun r=>bnd (xw r) fun _=>ret x
def xW(x i v:D):M Unit:=fun G=>match x with
 | .ref n=>match G[n]? with
   |some (.lst xs)=>match i with
    | .int k=>match ixN xs.length k with
      |some j=>some (.ok (),G.set n (.lst (xs.set j v)))
      |none=>none
    |_=>none
   |some (.dK kvs)=>match qg i with
    |some k=>if kvs.length < aH then some (.ok (),G.set n (.dK (put kvs k v)))else none
    |none=>none
   |_=>none
 |_=>none
def w4(o i e:E3):S3:=fun σ=>bnd (e σ) fun v=>bnd (o σ) fun x=>bnd (i σ) fun y=>bnd (xW x y v) fun _=>ret (.next,σ)
def pK:E3:=fun _=>new (.dK [])
def sIx(n d:Nat):Option Int->Nat
 |none=>d
 |some v=>if v < 0 then (v+(n:Int)).toNat else min v.toNat n
def cutD(xs:List D)(lo hi:Option Int):List D:=(xs.drop (sIx xs.length 0 lo)).take (sIx xs.length xs.length hi - sIx xs.length 0 lo)
abbrev P3:=St->M (Option Int)
def ur:P3:=fun _=>ret none
def asI(d:D):M (Option Int):=match d with
 | .int i=>ret (some i)
 |_=>fail
def uQ(e:E3):P3:=fun σ=>bnd (e σ) asI
def oSl(x:D)(lo hi:Option Int):M D:=fun G=>match x with
 | .tup xs=>if sIx xs.length 0 lo=0/\sIx xs.length xs.length hi=xs.length then none else some (.ok (.tup (cutD xs lo hi)),G)
 | .ref n=>match G[n]? with
   |some (.lst xs)=>new (.lst (cutD xs lo hi)) G
   |some (.frz xs)=>new (.lst (cutD xs lo hi)) G
   |_=>none
 |_=>none
def eSl(e:E3)(lo hi:P3):E3:=fun σ=>bnd (e σ) fun x=>bnd (lo σ) fun l=>bnd (hi σ) fun h=>oSl x l h
def jE(x y:D):M D:=fun G=>match x,y with
 | .ref n,.ref m=>match G[n]?,G[m]? with
   |some (.lst xs),some (.lst ys)=>if xs.length+ys.length<=aH then some (.ok .non,G.set n (.lst (xs++ys)))else none
   |_,_=>none
 |_,_=>none
def md(x i:D):M D:=fun G=>match x,i with
 | .ref n,.int i=>match G[n]? with
   |some (.lst xs)=>match ixN xs.length i with
    |some k=>match xs[k]? with
     |some y=>if -(2 ^ 62)<=i/\i < 2 ^ 62 then some (.ok y,G.set n (.lst (xs.eraseIdx k)))else none
     |none=>none
    |none=>none
   |_=>none
 |_,_=>none
def nR(o a:E3):E3:=fun σ=>bnd (o σ) fun x=>bnd (isL x) fun _=>bnd (a σ) fun y=>jE x y
def sL(o a:E3):E3:=fun σ=>bnd (o σ) fun x=>bnd (isL x) fun _=>bnd (a σ) fun y=>md x y
def uA(x:D):M D:=fun G=>match x with
 | .ref n=>match G[n]? with
   |some (.dK kvs)=>new (.lst (kvs.map (·.2))) G
   |_=>none
 |_=>none
def zm(o:E3):E3:=fun σ=>bnd (o σ) uA
structure Src where
 xs:List D
 ck:Hh->Bool
abbrev I3:=St->M Src
def srcOf(d:D):M Src:=match d with
 | .tup xs=>ret ⟨xs,fun _=>true⟩
 | .ref n=>fun G=>match G[n]? with
   |some (.lst xs)=>some (.ok ⟨xs,fun G'=>decide (G'[n]? =some (.lst xs))⟩,G)
   |some (.frz xs)=>some (.ok ⟨xs,fun G'=>decide (G'[n]? =some (.frz xs))⟩,G)
   |_=>none
 |_=>fail
def iOf(e:E3):I3:=fun σ=>bnd (e σ) srcOf
def hZ(i:Int):Bool:=decide (-(2 ^ 62)<=i/\i < 2 ^ 62)
def rng(i:Int)(n:Nat):List D:=(List.range n).map fun(k:Nat)=>.int (i+(k:Int))
def Cw(x:D):M Src:=match x with
 | .int j=>if hZ j then ret ⟨rng 0 j.toNat,fun _=>true⟩else fail
 |_=>fail
def EI(x y:D):M Src:=match x,y with
 | .int i,.int j=>if hZ i&&hZ j then ret ⟨rng i (j - i).toNat,fun _=>true⟩else fail
 |_,_=>fail
def kb(a:E3):I3:=fun σ=>bnd (a σ) Cw
def vD(a b:E3):I3:=fun σ=>bnd (a σ) fun x=>bnd (b σ) fun y=>EI x y
def fE(σ:St)(cap:List Nat):St:=cap.map fun i=>(σ[i]?).join
def df(ck:Hh->Bool)(cond:D->M Bool)(elt:D->M D):List D->List D->M (List D)
 | [],acc=>fun G=>if ck G then some (.ok acc,G)else none
 |x :: r,acc=>fun G=>if ck G then bnd (cond x) (fun c=>if c then bnd (elt x) (fun y=>if acc.length < aH then df ck cond elt r (acc++[y])else fail)else df ck cond elt r acc) G else none
def jz(it:I3)(cap:List Nat)(cond:T3)(elt:E3):E3:=fun σ=>bnd (it σ) fun s=>
 bnd (df s.ck (fun x=>cond (some x :: fE σ cap)) (fun x=>elt (some x :: fE σ cap)) s.xs []) fun ys=>new (.lst ys)
def nr:T3:=fun _=>ret true
def bY:S3:=fun σ=>ret (.next,σ)
def aC(a b:S3):S3:=fun σ=>bnd (a σ) fun r=>match r.1 with
 | .next=>b r.2
 |f=>ret (f,r.2)
def cR(i:Nat)(e:E3):S3:=fun σ=>bnd (e σ) fun d=>ret (.next,σ.set i (some d))
def lY:List Nat->List D->St->Option St
 | [],[],σ=>some σ
 |i :: r,d :: t,σ=>lY r t (σ.set i (some d))
 |_,_,_=>none
def gUn(is:List Nat)(d:D)(σ:St):M St:=match d with
 | .tup ds=>match lY is ds σ with
   |some σ'=>ret σ'
   |none=>fail
 |_=>fail
def gNm(i:Nat)(d:D)(σ:St):M St:=ret (σ.set i (some d))
def bM(e:E3):S3:=fun σ=>bnd (e σ) fun _=>ret (.next,σ)
def ba(e:E3):S3:=fun σ=>bnd (e σ) fun d=>ret (.ret d,σ)
def sIf(t:T3)(a b:S3):S3:=fun σ=>bnd (t σ) fun c=>if c then a σ else b σ
def forL(ck:Hh->Bool)(body:D->St->M (Fl×St)):List D->St->M (Fl×St)
 | [],σ=>fun G=>if ck G then some (.ok (.next,σ),G)else none
 |x :: r,σ=>fun G=>if ck G then bnd (body x σ) (fun p=>match p.1 with
    | .next=>forL ck body r p.2
    | .cont=>forL ck body r p.2
    | .brk=>ret (.next,p.2)
    | .ret d=>ret (.ret d,p.2)) G else none
def jA(t:T3)(body:S3):Nat->St->M (Fl×St)
 |0,_=>fail
 |k+1,σ=>bnd (t σ) fun c=>if c then bnd (body σ) (fun p=>match p.1 with
   | .next=>jA t body k p.2
   | .cont=>jA t body k p.2
   | .brk=>ret (.next,p.2)
   | .ret d=>ret (.ret d,p.2))else ret (.next,σ)
def sM:Nat:=1000000000
def t5(t:T3)(body:S3):S3:=fun σ=>jA t body sM σ
def vw(it:I3)(g:D->St->M St)(body:S3):S3:=fun σ=>bnd (it σ) fun s=>forL s.ck (fun x σ=>bnd (g x σ) body) s.xs σ
def jv(xs:List D):List D:=xs.mapIdx fun i x=>.tup [.int (i:Int),x]
def ph(d:D):M Src:=fun G=>match d with
 | .ref n=>match G[n]? with
   |some (.lst xs)=>some (.ok ⟨jv xs,fun G'=>decide (G'[n]? =some (.lst xs))⟩,G)
   |some (.frz xs)=>some (.ok ⟨jv xs,fun G'=>decide (G'[n]? =some (.frz xs))⟩,G)
   |_=>none
 |_=>none
def yW(e:E3):I3:=fun σ=>bnd (e σ) ph
def HA:Key->D
 | .inl i=>.int i
 | .inr x=>.str x
def fW(kvs:List (Key×D)):List D:=kvs.map fun kv=>.tup [HA kv.1,kv.2]
def uz(n:Nat)(kvs:List (Key×D))(m:M (Fl×St)):M (Fl×St):=fun G=>match m (G.set n (.dF kvs))with
 |some (.ok p,G')=>if G'[n]? =some (.dF kvs)then some (.ok p,G'.set n (.dK kvs))else none
 |_=>none
def vY(body:D->St->M (Fl×St))(σ:St)(d:D):M (Fl×St):=fun G=>match d with
 | .ref n=>match G[n]? with
   |some (.dK kvs)=>uz n kvs (forL (fun _=>true) body (fW kvs) σ) G
   |_=>none
 |_=>none
def we(e:E3)(g:D->St->M St)(body:S3):S3:=fun σ=>bnd (e σ) (vY (fun x σ=>bnd (g x σ) body) σ)
def z0:E3:=fun _=>fail
def CU:S3:=fun _=>fail
def throw{α:Type}(c:Nat):M α:=fun G=>some (.exc c,G)
def ma(c:Nat)(a:A3):S3:=fun σ=>bnd (a σ) fun xs=>if xs.length<=aH then throw c else fail
def pick(c:Nat):List ((Nat->Bool)×S3)->Option S3
 | []=>none
 |(m,f) :: r=>if m c then some f else pick c r
def vX(e:E3)(k:D->St->Fl×St)(ms:List ((Nat->Bool)×S3)):S3:=fun σ G=>match e σ G with
 |some (.ok d,G')=>some (.ok (k d σ),G')
 |some (.exc c,G')=>match pick c ms with
  |some f=>f σ G'
  |none=>none
 |none=>none
theorem Ct{e:E3}{k:D->St->Fl×St}{ms:List ((Nat->Bool)×S3)}{σ:St}{G:Hh}{Q:Fl×St->Hh->Prop}{Z:Nat->Hh->Prop}(h:run (vX e k ms σ) G Q Z):
 run (e σ) G (fun d G'=>Q (k d σ) G') fun c G'=>∃f,pick c ms=some f/\run (f σ) G' Q Z:=by
 unfold run vX at*
 cases q:e σ G with
 |none=>rw[q]at h;exact h
 |some p=>
  obtain⟨o,G1⟩:=p
  rw[q]at h
  cases o with
  |ok d=>exact h
  |exc c=>
   dsimp only at h ⊢
   cases z:pick c ms with
   |none=>rw[z]at h;exact False.elim h
   |some f=>rw[z]at h;exact⟨f,rfl,h⟩
def fnM(n:Nat)(pad:St)(body:S3):List D->M D:=fun ds=>if ds.length=n then bnd (body (ds.map some++pad)) (fun p=>match p.1 with
 | .ret d=>ret d
 | .next=>ret .non
 |_=>fail)else fail
section
variable{α β:Type}{G G':Hh}{E:Nat->Hh->Prop}{σ:St}
theorem aK{m:M α}{k:α->M β}{Q:β->Hh->Prop}(h:run m G (fun a G1=>run (k a) G1 Q E) E):run (bnd m k) G Q E:=by
 unfold run bnd at*
 cases e:m G with
 |none=>rw[e]at h;exact h
 |some p=>
  obtain⟨o,G1⟩:=p
  rw[e]at h
  cases o with
  |ok a=>exact h
  |exc c=>exact h
theorem lP{a:α}{Q:α->Hh->Prop}(h:Q a G):run (ret a) G Q E:=h
theorem w_ite{c:Bool}{m m':M α}{Q:α->Hh->Prop}(h1:c=true->run m G Q E)(h2:c=false->run m' G Q E):run (if c=true then m else m') G Q E:=by
 cases c with
 |true=>exact h1 rfl
 |false=>exact h2 rfl
theorem mq{m m':M α}{Q:α->Hh->Prop}(h1:run m G Q E):run (if true=true then m else m') G Q E:=h1
theorem nW{m m':M α}{Q:α->Hh->Prop}(h1:run m' G Q E):run (if false=true then m else m') G Q E:=h1
theorem pb{m m':M α}{Q:α->Hh->Prop}(h1:run m' G Q E):run (if (!true)=true then m else m') G Q E:=h1
theorem oX{m m':M α}{Q:α->Hh->Prop}(h1:run m G Q E):run (if (!false)=true then m else m') G Q E:=h1
theorem aJ{m:M α}{Q:α->Hh->Prop}{a:α}(h:m G=some (.ok a,G'))(q:Q a G'):run m G Q E:=by
 unfold run;rw[h];exact q
variable{Q:D->Hh->Prop}{QB:Bool->Hh->Prop}{QA:List D->Hh->Prop}{QS:Fl×St->Hh->Prop}
theorem w_var{i:Nat}{d:D}(e:σ[i]? =some (some d))(h:Q d G):run (ae i σ) G Q E:=by
 unfold ae;rw[e];exact h
theorem w_c{d:D}(h:Q d G):run (eC d σ) G Q E:=h
theorem bo{f:D->D->M D}{a b:E3}(h:run (a σ) G (fun x G1=>run (b σ) G1 (fun y G2=>run (f x y) G2 Q E) E) E):run (eOp f a b σ) G Q E:=
 aK (az h (fun _ _ q=>aK q) fun _ _ q=>q)
theorem x6{f:D->M D}{a:E3}(h:run (a σ) G (fun x G1=>run (f x) G1 Q E) E):run (eUn f a σ) G Q E:=aK h
theorem aM(h:QA [] G):run (au σ) G QA E:=h
theorem ax{e:E3}{r:A3}(h:run (e σ) G (fun x G1=>run (r σ) G1 (fun xs G2=>QA (x :: xs) G2) E) E):run (ah e r σ) G QA E:=
 aK (az h (fun _ _ q=>aK q) fun _ _ q=>q)
theorem xD{a:A3}(h:run (a σ) G (fun xs G1=>xs.length<=aH/\Q (.tup xs) G1) E):run (fy a σ) G Q E:=
 aK (az h (fun _ _ q=>by rw[if_pos q.1];exact q.2) fun _ _ q=>q)
theorem zw{a:A3}(h:run (a σ) G (fun xs G1=>xs.length<=aH/\Q (.ref G1.length) (G1++[.lst xs])) E):run (gc a σ) G Q E:=
 aK (az h (fun _ _ q=>by rw[if_pos q.1];exact q.2) fun _ _ q=>q)
theorem eT{f:List D->M D}{a:A3}(h:run (a σ) G (fun ds G1=>run (f ds) G1 Q E) E):run (aL f a σ) G Q E:=aK h
theorem iI{e:E3}(h:run (e σ) G (fun x G1=>run (truth x) G1 QB E) E):run (tOf e σ) G QB E:=aK h
theorem mV{e:E3}(h:run (e σ) G (fun x G1=>run (asB x) G1 QB E) E):run (tB e σ) G QB E:=aK h
theorem ky{b:Bool}(h:QB b G):run (asB (.bl b)) G QB E:=h
theorem iD{b:Bool}(h:QB b G):run (truth (.bl b)) G QB E:=h
theorem iz{t:T3}(h:run (t σ) G (fun c G1=>QB (!c) G1) E):run (gC t σ) G QB E:=aK h
theorem rA{t u:T3}(h:run (t σ) G (fun c G1=>run (if c=true then ret true else u σ) G1 QB E) E):run (tOr t u σ) G QB E:=aK h
theorem DR{a b:E3}(h:run (a σ) G (fun x G1=>run (asB x) G1 (fun c G2=>run (if c=true then b σ else ret (.bl false)) G2 Q E) E) E):run (uZ a b σ) G Q E:=
 aK (az h (fun _ _ q=>aK q) fun _ _ q=>q)
theorem DV{a:E3}(h:run (a σ) G (fun x G1=>run (asB x) G1 (fun c G2=>Q (.bl (!c)) G2) E) E):run (zL a σ) G Q E:=
 aK (az h (fun _ _ q=>aK q) fun _ _ q=>q)
theorem Gj{t:T3}{a b:E3}(h:run (t σ) G (fun c G1=>run (if c=true then a σ else b σ) G1 Q E) E):run (eIf t a b σ) G Q E:=aK h
theorem vR{i j:Int}(h:Q (.int (i+j)) G):run (jO (.int i) (.int j)) G Q E:=h
theorem D3{i j:Nat}{a b:List D}(h1:G[i]? =some (.lst a))(h2:G[j]? =some (.lst b))(hl:a.length+b.length<=aH)(h:Q (.ref G.length) (G++[.lst (a++b)])):run (jO (.ref i) (.ref j)) G Q E:=by
 refine aJ (G':=G++[.lst (a++b)]) (a:= .ref G.length) ?_ h
 show (match G[i]?,G[j]? with
  |some (.lst a),some (.lst b)=>if a.length+b.length<=aH then new (.lst (a++b)) G else none
  |_,_=>none)=_
 rw[h1,h2]
 show (if a.length+b.length<=aH then new (.lst (a++b)) G else none)=_
 rw[if_pos hl];rfl
theorem Dq{i j:Int}(h:Q (.int (i - j)) G):run (qY (.int i) (.int j)) G Q E:=h
theorem zY{i j:Int}(c:(small i||small j)=true)(h:Q (.int (i*j)) G):run (iE (.int i) (.int j)) G Q E:=by
 show run (if (small i||small j)=true then ret (D.int (i*j))else fail) G Q E
 rw[if_pos c];exact h
theorem Fx{i j:Int}(c:small i=true)(h:Q (.int (i*j)) G):run (iE (.int i) (.int j)) G Q E:=zY (by rw[c];rfl) h
theorem Ey{i j:Int}(c:small j=true)(h:Q (.int (i*j)) G):run (iE (.int i) (.int j)) G Q E:=zY (by rw[c];exact Bool.or_true _) h
theorem nO{i j:Int}(c:0 < j)(h:Q (.int (i % j)) G):run (oMod (.int i) (.int j)) G Q E:=by
 show run (if 0 < j then ret (D.int (i % j))else fail) G Q E
 rw[if_pos c];exact h
theorem E8{i j:Int}(c:0 < j/\j < 1073741824)(h:Q (.int (i / j)) G):run (oDiv (.int i) (.int j)) G Q E:=by
 show run (if 0 < j/\j < 1073741824 then ret (D.int (i / j))else fail) G Q E
 rw[if_pos c];exact h
theorem Gm{i j:Int}(h:Q (.bl (decide (i < j))) G):run (oLt (.int i) (.int j)) G Q E:=h
theorem Gp{i j:Int}(h:Q (.bl (decide (j < i))) G):run (oGt (.int i) (.int j)) G Q E:=h
theorem GQ{i j:Int}(h:Q (.bl (decide (j<=i))) G):run (oGe (.int i) (.int j)) G Q E:=h
theorem Gh{a b:List D}{m n:List Int}(e1:intsOf a=some m)(e2:intsOf b=some n)(h:Q (.bl (tY n m)) G):run (oGt (.tup a) (.tup b)) G Q E:=by
 show run (match intsOf a,intsOf b with
  |some m,some n=>ret (.bl (tY n m))
  |_,_=>fail) G Q E
 rw[e1,e2];exact h
theorem w_eq{x y:D}{b:Bool}(e:eqG G 8 x y=some b)(h:Q (.bl b) G):run (oEq x y) G Q E:=by
 refine aJ (a:= .bl b) (G':=G) ?_ h
 unfold oEq;rw[e]
theorem rf{x y:D}{b:Bool}(e:eqG G 8 x y=some b)(h:Q (.bl (!b)) G):run (oNe x y) G Q E:=by
 refine aJ (a:= .bl (!b)) (G':=G) ?_ h
 unfold oNe;rw[e]
theorem HL{x y:D}{b:Bool}(e:inG G x y=some b)(h:Q (.bl b) G):run (oIn x y) G Q E:=by
 refine aJ (a:= .bl b) (G':=G) ?_ h
 unfold oIn;rw[e]
theorem Cz{x y:D}{b:Bool}(e:inG G x y=some b)(h:Q (.bl (!b)) G):run (nT x y) G Q E:=by
 refine aJ (a:= .bl (!b)) (G':=G) ?_ h
 unfold nT;rw[e]
theorem cM{xs:List D}{i:Int}{d:D}(e:atI xs i=some d)(h:Q d G):run (oIx (.tup xs) (.int i)) G Q E:=by
 refine aJ (a:=d) (G':=G) ?_ h
 show mE (atI xs i) G=_
 rw[e];rfl
theorem gP{n:Nat}{xs:List D}{i:Int}{d:D}(hl:G[n]? =some (.lst xs))(e:atI xs i=some d)(h:Q d G):run (oIx (.ref n) (.int i)) G Q E:=by
 refine aJ (a:=d) (G':=G) ?_ h
 unfold oIx
 dsimp only
 rw[hl]
 show mE (atI xs i) G=_
 rw[e];rfl
theorem CJ{n:Nat}{xs:List D}{i:Int}{d:D}(hl:G[n]? =some (.frz xs))(e:atI xs i=some d)(h:Q d G):run (oIx (.ref n) (.int i)) G Q E:=by
 refine aJ (a:=d) (G':=G) ?_ h
 unfold oIx
 dsimp only
 rw[hl]
 show mE (atI xs i) G=_
 rw[e];rfl
theorem GC{x:D}(h:Q (.bl (decide (x= .non))) G):run (rh x) G Q E:=h
theorem tR{x:D}(h:Q (.bl (!decide (x= .non))) G):run (lM x) G Q E:=h
theorem sx{z:Int}(h:Q (.bl true) G):run (bIs .int [(.int z)]) G Q E:=h
theorem sZ{z:Str}(h:Q (.bl false) G):run (bIs .int [(.str z)]) G Q E:=h
theorem t9{z:List D}(h:Q (.bl false) G):run (bIs .int [(.tup z)]) G Q E:=h
theorem t6{n:Nat}{xs:List D}(hl:G[n]? =some (.lst xs))(h:Q (.bl false) G):run (bIs .int [.ref n]) G Q E:=by
 refine aJ (a:= .bl false) (G':=G) ?_ h
 unfold bIs kdOf;dsimp only;rw[hl];rfl
theorem wF{z:Bool}(h:Q (.bl true) G):run (bIs .bl [(.bl z)]) G Q E:=h
theorem uV{z:Int}(h:Q (.bl false) G):run (bIs .bl [(.int z)]) G Q E:=h
theorem uB{z:Str}(h:Q (.bl false) G):run (bIs .bl [(.str z)]) G Q E:=h
theorem uH{z:List D}(h:Q (.bl false) G):run (bIs .bl [(.tup z)]) G Q E:=h
theorem vA{n:Nat}{xs:List D}(hl:G[n]? =some (.lst xs))(h:Q (.bl false) G):run (bIs .bl [.ref n]) G Q E:=by
 refine aJ (a:= .bl false) (G':=G) ?_ h
 unfold bIs kdOf;dsimp only;rw[hl];rfl
theorem sT{z:Str}(h:Q (.bl true) G):run (bIs .str [(.str z)]) G Q E:=h
theorem sQ{z:List D}(h:Q (.bl false) G):run (bIs .str [(.tup z)]) G Q E:=h
theorem tq{n:Nat}{xs:List D}(hl:G[n]? =some (.lst xs))(h:Q (.bl false) G):run (bIs .str [.ref n]) G Q E:=by
 refine aJ (a:= .bl false) (G':=G) ?_ h
 unfold bIs kdOf;dsimp only;rw[hl];rfl
theorem mX{z:List D}(h:Q (.bl true) G):run (bIs .tup [(.tup z)]) G Q E:=h
theorem mJ{n:Nat}{xs:List D}(hl:G[n]? =some (.lst xs))(h:Q (.bl false) G):run (bIs .tup [.ref n]) G Q E:=by
 refine aJ (a:= .bl false) (G':=G) ?_ h
 unfold bIs kdOf;dsimp only;rw[hl];rfl
theorem sG{z:List D}(h:Q (.bl false) G):run (bIs .lst [(.tup z)]) G Q E:=h
theorem mF{n:Nat}{xs:List D}(hl:G[n]? =some (.lst xs))(h:Q (.bl true) G):run (bIs .lst [.ref n]) G Q E:=by
 refine aJ (a:= .bl true) (G':=G) ?_ h
 unfold bIs kdOf;dsimp only;rw[hl];rfl
theorem tH{z:List D}(h:Q (.bl false) G):run (bIs .dic [(.tup z)]) G Q E:=h
theorem sA{n:Nat}{xs:List D}(hl:G[n]? =some (.lst xs))(h:Q (.bl false) G):run (bIs .dic [.ref n]) G Q E:=by
 refine aJ (a:= .bl false) (G':=G) ?_ h
 unfold bIs kdOf;dsimp only;rw[hl];rfl
theorem tW{xs:List D}(hl:xs.length<=aH)(h:Q (.int xs.length) G):run (gI [.tup xs]) G Q E:=by
 refine aJ (a:= .int xs.length) (G':=G) ?_ h
 show (if xs.length<=aH then some (Oc.ok (D.int xs.length),G)else none)=_
 rw[if_pos hl]
theorem gN{n:Nat}{xs:List D}(hl:G[n]? =some (.lst xs))(h:Q (.int xs.length) G):run (gI [.ref n]) G Q E:=by
 refine aJ (a:= .int xs.length) (G':=G) ?_ h
 unfold gI;dsimp only;rw[hl]
theorem Ax{n:Nat}{xs:List D}(hl:G[n]? =some (.frz xs))(h:Q (.int xs.length) G):run (gI [.ref n]) G Q E:=by
 refine aJ (a:= .int xs.length) (G':=G) ?_ h
 unfold gI;dsimp only;rw[hl]
theorem ux{o a:E3}(h:run (o σ) G (fun x G1=>run (isL x) G1 (fun _ G2=>run (a σ) G2 (fun y G3=>run (iH x y) G3 Q E) E) E) E):run (oK o a σ) G Q E:=
 aK (az h (fun _ _ q=>aK (az q (fun _ _ q=>aK q) fun _ _ q=>q)) fun _ _ q=>q)
theorem jk{n:Nat}{xs:List D}{QU:Unit->Hh->Prop}(hl:G[n]? =some (.lst xs))(h:QU () G):run (isL (.ref n)) G QU E:=by
 refine aJ (a:=()) (G':=G) ?_ h
 unfold isL;dsimp only;rw[hl]
theorem GI{i j:Int}(h:Q (.int (if j < i then j else i)) G):run (AJ [.int i,.int j]) G Q E:=h
theorem Dx{n:Nat}{xs:List D}{m:Int}{r:List Int}(hl:G[n]? =some (.lst xs))(e:intsOf xs=some (m :: r))(h:Q (.int (jR m r)) G):run (x4 [.ref n]) G Q E:=by
 refine aJ (a:= .int (jR m r)) (G':=G) ?_ h
 unfold x4;dsimp only;rw[hl];dsimp only;rw[e]
theorem BZ{n:Nat}{xs:List D}(hl:G[n]? =some (.lst xs))(h:Q (.ref G.length) (G++[.lst xs])):run (qt [.ref n]) G Q E:=by
 refine aJ (a:= .ref G.length) (G':=G++[.lst xs]) ?_ h
 unfold qt;dsimp only;rw[hl];rfl
theorem AG{n:Nat}{xs:List D}{y:D}(hl:G[n]? =some (.lst xs))(hz:xs.length < aH)(h:Q .non (G.set n (.lst (xs++[y])))):run (iH (.ref n) y) G Q E:=by
 refine aJ (a:= .non) (G':=G.set n (.lst (xs++[y]))) ?_ h
 unfold iH;dsimp only;rw[hl];dsimp only;rw[if_pos hz]
theorem wY{e:E3}{QI:Src->Hh->Prop}(h:run (e σ) G (fun x G1=>run (srcOf x) G1 QI E) E):run (iOf e σ) G QI E:=aK h
theorem oa{n:Nat}{xs:List D}{QI:Src->Hh->Prop}(hl:G[n]? =some (.lst xs))(h:QI ⟨xs,fun G'=>decide (G'[n]? =some (.lst xs))⟩ G):run (srcOf (.ref n)) G QI E:=by
 refine aJ (G':=G) ?_ h
 unfold srcOf;dsimp only;rw[hl]
theorem kM{a:E3}{QI:Src->Hh->Prop}(h:run (a σ) G (fun x G1=>run (Cw x) G1 QI E) E):run (kb a σ) G QI E:=aK h
theorem Bg{a b:E3}{QI:Src->Hh->Prop}(h:run (a σ) G (fun x G1=>run (b σ) G1 (fun y G2=>run (EI x y) G2 QI E) E) E):run (vD a b σ) G QI E:=aK (az h (fun _ _ q=>aK q) fun _ _ q=>q)
theorem Fq{i j:Int}{QI:Src->Hh->Prop}(c:(hZ i&&hZ j)=true)(h:QI ⟨rng i (j - i).toNat,fun _=>true⟩ G):run (EI (.int i) (.int j)) G QI E:=by
 show run (if (hZ i&&hZ j)=true then ret (⟨rng i (j - i).toNat,fun _=>true⟩:Src)else fail) G QI E
 rw[if_pos c];exact h
theorem kJ{i:Int}{n k:Nat}{x:D}(h:(rng i n)[k]? =some x):x= .int (i+k)/\k < n:=by
 unfold rng at h
 rw[qQ_]at h
 by_cases hk:k < n
 · rw[List.getElem?_range hk]at h
   simp at h
   exact⟨h.symm,hk⟩
 · rw[List.getElem?_eq_none (by simpa using hk)]at h
   cases h
theorem mU{i:Int}{n:Nat}:(rng i n).length=n:=by simp [rng]
theorem jB{ck:Hh->Bool}{cond:D->M Bool}{elt:D->M D}{xs:List D}(P:Nat->List D->Hh->Prop)
 (hck:∀i acc G,P i acc G->ck G=true)
 (hs:∀i x acc G,xs[i]? =some x->P i acc G->run (cond x) G (fun c G1=>if c=true then run (elt x) G1 (fun y G2=>acc.length < aH/\P (i+1) (acc++[y]) G2) E else P (i+1) acc G1) E)
 (hd:∀acc G,P xs.length acc G->QA acc G):∀(r:List D) (i:Nat) (acc:List D) (G:Hh),xs.drop i=r->i<=xs.length->P i acc G->run (df ck cond elt r acc) G QA E
 | [],i,acc,G,e,hi,p=>by
   have hl:i=xs.length:=by
    have:=congrArg List.length e
    simp at this
    omega
   subst hl
   refine aJ (G':=G) (a:=acc) ?_ (hd acc G p)
   unfold df;rw[if_pos (hck _ _ _ p)]
 |x :: r,i,acc,G,e,hi,p=>by
  have hx:xs[i]? =some x:=by
   have:=congrArg (fun l=>l[0]?) e
   simpa using this
  have hlt:i < xs.length:=(qB_.mp hx).1
  have er:xs.drop (i+1)=r:=by
   have:=congrArg List.tail e
   simpa using this
  have key:run (bnd (cond x) (fun c=>if c=true then bnd (elt x) (fun y=>if acc.length < aH then df ck cond elt r (acc++[y])else fail)else df ck cond elt r acc)) G QA E:=by
   refine aK (az (hs i x acc G hx p) (fun c G1 q=>?_) fun _ _ q=>q)
   cases c with
   |false=>exact jB P hck hs hd r (i+1) acc G1 er hlt q
   |true=>
    refine aK (az q (fun y G2 q2=>?_) fun _ _ q=>q)
    rw[if_pos q2.1]
    exact jB P hck hs hd r (i+1) (acc++[y]) G2 er hlt q2.2
  unfold run at key ⊢
  rw[show df ck cond elt (x :: r) acc G=bnd (cond x) (fun c=>if c=true then bnd (elt x) (fun y=>if acc.length < aH then df ck cond elt r (acc++[y])else fail)else df ck cond elt r acc) G by
   conv=>lhs;unfold df
   rw[if_pos (hck _ _ _ p)]]
  exact key
theorem td{it:I3}{cap:List Nat}{cond:T3}{elt:E3}
 (h:run (it σ) G (fun s G1=>run (df s.ck (fun x=>cond (some x :: fE σ cap)) (fun x=>elt (some x :: fE σ cap)) s.xs []) G1 (fun ys G2=>Q (.ref G2.length) (G2++[.lst ys])) E) E):run (jz it cap cond elt σ) G Q E:=
 aK (az h (fun s G1 q=>aK q) fun _ _ q=>q)
def sK(b:S3)(r:Fl×St):M (Fl×St):=match r.1 with
 | .next=>b r.2
 |f=>ret (f,r.2)
theorem aR{a b:S3}(h:run (a σ) G (fun r G1=>run (sK b r) G1 QS E) E):run (aC a b σ) G QS E:=aK h
theorem w_next{b:S3}{σ':St}(h:run (b σ') G QS E):run (sK b (.next,σ')) G QS E:=h
theorem Fc{b:S3}{σ':St}{d:D}(h:QS (.ret d,σ') G):run (sK b (.ret d,σ')) G QS E:=h
theorem lL(h:QS (.next,σ) G):run (bY σ) G QS E:=h
theorem cK{i:Nat}{e:E3}(h:run (e σ) G (fun d G1=>QS (.next,σ.set i (some d)) G1) E):run (cR i e σ) G QS E:=aK h
theorem CW{is:List Nat}{ds:List D}{σ':St}{QG:St->Hh->Prop}(e:lY is ds σ=some σ')(h:QG σ' G):run (gUn is (.tup ds) σ) G QG E:=by
 show run (match lY is ds σ with
  |some σ'=>ret σ'
  |none=>fail) G QG E
 rw[e];exact h
theorem eI{e:E3}(h:run (e σ) G (fun _ G1=>QS (.next,σ) G1) E):run (bM e σ) G QS E:=aK h
theorem cU{e:E3}(h:run (e σ) G (fun d G1=>QS (.ret d,σ) G1) E):run (ba e σ) G QS E:=aK h
theorem fO{t:T3}{a b:S3}(h:run (t σ) G (fun c G1=>run (if c=true then a σ else b σ) G1 QS E) E):run (sIf t a b σ) G QS E:=aK h
theorem nQ{ck:Hh->Bool}{body:D->St->M (Fl×St)}{xs:List D}(P:Nat->St->Hh->Prop)
 (hck:∀i σ G,P i σ G->ck G=true)
 (hs:∀i x σ G,xs[i]? =some x->P i σ G->run (body x σ) G (fun p G1=>match p.1 with
   | .next=>P (i+1) p.2 G1
   | .cont=>P (i+1) p.2 G1
   | .brk=>QS (.next,p.2) G1
   | .ret d=>QS (.ret d,p.2) G1) E)
 (hd:∀σ G,P xs.length σ G->QS (.next,σ) G):∀(r:List D) (i:Nat) (σ:St) (G:Hh),xs.drop i=r->i<=xs.length->P i σ G->run (forL ck body r σ) G QS E
 | [],i,σ,G,e,hi,p=>by
   have hl:i=xs.length:=by
    have:=congrArg List.length e
    simp at this
    omega
   subst hl
   refine aJ (G':=G) (a:=(.next,σ)) ?_ (hd σ G p)
   unfold forL;rw[if_pos (hck _ _ _ p)]
 |x :: r,i,σ,G,e,hi,p=>by
  have hx:xs[i]? =some x:=by
   have:=congrArg (fun l=>l[0]?) e
   simpa using this
  have hlt:i < xs.length:=(qB_.mp hx).1
  have er:xs.drop (i+1)=r:=by
   have:=congrArg List.tail e
   simpa using this
  have key:run (bnd (body x σ) (fun p=>match p.1 with
   | .next=>forL ck body r p.2
   | .cont=>forL ck body r p.2
   | .brk=>ret (.next,p.2)
   | .ret d=>ret (.ret d,p.2))) G QS E:=by
   refine aK (az (hs i x σ G hx p) (fun c G1 q=>?_) fun _ _ q=>q)
   obtain⟨f,σ1⟩:=c
   cases f with
   |next=>exact nQ P hck hs hd r (i+1) σ1 G1 er hlt q
   |cont=>exact nQ P hck hs hd r (i+1) σ1 G1 er hlt q
   |brk=>exact q
   |ret d=>exact q
  unfold run at key ⊢
  rw[show forL ck body (x :: r) σ G=bnd (body x σ) (fun p=>match p.1 with
   | .next=>forL ck body r p.2
   | .cont=>forL ck body r p.2
   | .brk=>ret (.next,p.2)
   | .ret d=>ret (.ret d,p.2)) G by
   conv=>lhs;unfold forL
   rw[if_pos (hck _ _ _ p)]
   all_goals rfl]
  exact key
theorem zS{it:I3}{g:D->St->M St}{body:S3}(h:run (it σ) G (fun s G1=>run (forL s.ck (fun x σ=>bnd (g x σ) body) s.xs σ) G1 QS E) E):run (vw it g body σ) G QS E:=aK h
theorem rH{i:Nat}{d:D}{QG:St->Hh->Prop}(h:QG (σ.set i (some d)) G):run (gNm i d σ) G QG E:=h
def fK(p:Fl×St):M D:=match p.1 with
 | .ret d=>ret d
 | .next=>ret .non
 |_=>fail
theorem Cf{n:Nat}{pad:St}{body:S3}{ds:List D}(hl:ds.length=n)(h:run (body (ds.map some++pad)) G (fun p G1=>run (fK p) G1 Q E) E):run (fnM n pad body ds) G Q E:=by
 unfold fnM
 rw[if_pos hl]
 exact aK h
theorem mx{d:D}{σ':St}(h:Q d G):run (fK (.ret d,σ')) G Q E:=h
theorem tJ{σ':St}(h:Q .non G):run (fK (.next,σ')) G Q E:=h
end
section
variable{α β:Type}{G G':Hh}{E:Nat->Hh->Prop}{σ:St}
variable{Q:D->Hh->Prop}{QB:Bool->Hh->Prop}{QA:List D->Hh->Prop}{QS:Fl×St->Hh->Prop}{QU:Unit->Hh->Prop}
theorem BS{c:Nat}{a:A3}(h:run (a σ) G (fun xs G1=>xs.length<=aH/\E c G1) E):run (ma c a σ) G QS E:=
 aK (az h (fun xs G1 ⟨l,q⟩=>by show run (if xs.length<=aH then throw c else fail) G1 QS E;rw[if_pos l];exact q) fun _ _ z=>z)
theorem FN{e:E3}{k:D->St->Fl×St}{ms:List ((Nat->Bool)×S3)}(h:run (e σ) G (fun d G'=>QS (k d σ) G') fun c G'=>∃f,pick c ms=some f/\run (f σ) G' QS E):run (vX e k ms σ) G QS E:=by
 unfold run vX at*
 cases q:e σ G with
 |none=>rw[q]at h;exact h
 |some p=>
  obtain⟨o,G1⟩:=p
  rw[q]at h
  cases o with
  |ok d=>exact h
  |exc c=>
   obtain⟨f,hf,hr⟩:=h
   dsimp only
   rw[hf]
   exact hr
theorem w_fld{o:E3}{f:Nat}(h:run (o σ) G (fun x G1=>run (Ac x f) G1 Q E) E):run (bw o f σ) G Q E:=aK h
theorem bN{n C f:Nat}{fs:List (Nat×D)}{d:D}(hn:G[n]? =some (.ins C fs))(hC:C < 1000)(hf:fs.lookup f=some d)(h:Q d G):run (Ac (.ref n) f) G Q E:=by
 unfold run Ac
 dsimp only
 rw[hn]
 dsimp only
 rw[if_pos hC,hf]
 exact h
theorem Ep{n C f:Nat}{fs:List (Nat×D)}{y:D}(hn:G[n]? =some (.ins C fs))(hl:C < 1000/\fs.length < 1000)(h:QU () (G.set n (.ins C (putN f y fs)))):run (yD (.ref n) f y) G QU E:=by
 unfold run yD
 dsimp only
 rw[hn]
 dsimp only
 rw[if_pos hl]
 exact h
theorem cX{n C:Nat}{fs:List (Nat×D)}(hn:G[n]? =some (.ins C fs))(h:QU () G):run (isC C (.ref n)) G QU E:=by
 unfold run isC
 dsimp only
 rw[hn]
 dsimp only
 rw[if_pos rfl]
 exact h
theorem gr{o e:E3}{f:Nat}(h:run (e σ) G (fun y G1=>run (o σ) G1 (fun x G2=>run (yD x f y) G2 (fun _ G3=>QS (.next,σ) G3) E) E) E):run (bL o f e σ) G QS E:=
 aK (az h (fun y G1 q=>aK (az q (fun x G2 q=>aK q) fun _ _ z=>z)) fun _ _ z=>z)
theorem bK{C:Nat}{g:List D->M D}{o:E3}{a:A3}(h:run (o σ) G (fun x G1=>run (isC C x) G1 (fun _ G2=>run (a σ) G2 (fun ds G3=>run (g (x :: ds)) G3 Q E) E) E) E):run (aV C g o a σ) G Q E:=
 aK (az h (fun x G1 q=>aK (az q (fun _ G2 q=>aK q) fun _ _ z=>z)) fun _ _ z=>z)
theorem Dn{C:Nat}{g:List D->M D}{a:A3}(h:run (a σ) G (fun ds G1=>run (g (.ref G1.length :: ds)) (G1++[.ins C []]) (fun r G2=>r= .non/\Q (.ref G1.length) G2) E) E):run (nH C g a σ) G Q E:=
 aK (az h (fun ds G1 q=>aK (show run (bnd (g (.ref G1.length :: ds)) fun r=>bnd (xw r) fun _=>ret (D.ref G1.length)) (G1++[.ins C []]) Q E from aK (az q (fun r G2 ⟨e,q⟩=>by subst e;exact q) fun _ _ z=>z))) fun _ _ z=>z)
theorem E7{o i e:E3}(h:run (e σ) G (fun v G1=>run (o σ) G1 (fun x G2=>run (i σ) G2 (fun y G3=>run (xW x y v) G3 (fun _ G4=>QS (.next,σ) G4) E) E) E) E):run (w4 o i e σ) G QS E:=
 aK (az h (fun v G1 q=>aK (az q (fun x G2 q=>aK (az q (fun y G3 q=>aK q) fun _ _ z=>z)) fun _ _ z=>z)) fun _ _ z=>z)
theorem DW{n:Nat}{kvs:List (Key×D)}{i v:D}{k:Key}(hn:G[n]? =some (.dK kvs))(hk:qg i=some k)(hl:kvs.length < aH)(h:QU () (G.set n (.dK (put kvs k v)))):run (xW (.ref n) i v) G QU E:=by
 unfold run xW
 dsimp only
 rw[hn]
 dsimp only
 rw[hk]
 dsimp only
 rw[if_pos hl]
 exact h
theorem CL{n:Nat}{kvs:List (Key×D)}{i d:D}{k:Key}(hn:G[n]? =some (.dK kvs))(hk:qg i=some k)(e:look kvs k=some d)(h:Q d G):run (oIx (.ref n) i) G Q E:=by
 unfold run oIx
 dsimp only
 rw[hn]
 cases i with
 |int z=>dsimp only;rw[hk];dsimp only;rw[e];exact h
 |str z=>dsimp only;rw[hk];dsimp only;rw[e];exact h
 |_=>cases hk
theorem rY{o a:E3}(h:run (o σ) G (fun x G1=>run (isL x) G1 (fun _ G2=>run (a σ) G2 (fun y G3=>run (jE x y) G3 Q E) E) E) E):run (nR o a σ) G Q E:=
 aK (az h (fun x G1 q=>aK (az q (fun _ G2 q=>aK q) fun _ _ z=>z)) fun _ _ z=>z)
theorem xZ{n m:Nat}{xs ys:List D}(hn:G[n]? =some (.lst xs))(hm:G[m]? =some (.lst ys))(hl:xs.length+ys.length<=aH)(h:Q .non (G.set n (.lst (xs++ys)))):run (jE (.ref n) (.ref m)) G Q E:=by
 unfold run jE
 dsimp only
 rw[hn,hm]
 dsimp only
 rw[if_pos hl]
 exact h
theorem xJ{o a:E3}(h:run (o σ) G (fun x G1=>run (isL x) G1 (fun _ G2=>run (a σ) G2 (fun y G3=>run (md x y) G3 Q E) E) E) E):run (sL o a σ) G Q E:=
 aK (az h (fun x G1 q=>aK (az q (fun _ G2 q=>aK q) fun _ _ z=>z)) fun _ _ z=>z)
theorem Ak{n k:Nat}{xs:List D}{i:Int}{y:D}(hn:G[n]? =some (.lst xs))(hk:ixN xs.length i=some k)(hy:xs[k]? =some y)(hi:-(2 ^ 62)<=i/\i < 2 ^ 62)(h:Q y (G.set n (.lst (xs.eraseIdx k)))):run (md (.ref n) (.int i)) G Q E:=by
 unfold run md
 dsimp only
 rw[hn]
 dsimp only
 rw[hk]
 dsimp only
 rw[hy]
 dsimp only
 rw[if_pos hi]
 exact h
theorem Eh{o:E3}(h:run (o σ) G (fun x G1=>run (uA x) G1 Q E) E):run (zm o σ) G Q E:=aK h
theorem BH{n:Nat}{kvs:List (Key×D)}(hn:G[n]? =some (.dK kvs))(h:Q (.ref G.length) (G++[.lst (kvs.map (·.2))])):run (uA (.ref n)) G Q E:=by
 unfold run uA
 dsimp only
 rw[hn]
 exact h
theorem HF{e:E3}{lo hi:P3}(h:run (e σ) G (fun x G1=>run (lo σ) G1 (fun l G2=>run (hi σ) G2 (fun r G3=>run (oSl x l r) G3 Q E) E) E) E):run (eSl e lo hi σ) G Q E:=
 aK (az h (fun x G1 q=>aK (az q (fun l G2 q=>aK q) fun _ _ z=>z)) fun _ _ z=>z)
end
end M3
namespace L3
open PySem PySem.Spec PyProof.Rows L2
structure Tab where
 cls:Nat->Option Addr
 nm:Nat->Str
mutual
def Den(K:PySem.W.Frag)(H:Hp)(μ:List Addr):M3.D->V->Prop
 | .non,v=>v= .non
 | .bl b,v=>v= .bl b
 | .int i,v=>v= .int i
 | .str x,v=>v= .str x
 | .ref n,v=>∃a,μ[n]? =some a/\v= .ref a
 | .tup ds,v=>∃a vs,v= .ref a/\SqT K H a vs/\aF K H μ ds vs
def aF(K:PySem.W.Frag)(H:Hp)(μ:List Addr):List M3.D->List V->Prop
 | [],vs=>vs=[]
 |d :: ds,vs=>∃v r,vs=v :: r/\Den K H μ d v/\aF K H μ ds r
end
structure Keeps (H H':Hp):Prop where
 tup:∀b xs,H b=some (.tup xs)->H' b=some (.tup xs)
 frz:∀b o u,H b=some (.frz o u)->H' b=some (.frz o u)
theorem Keeps.refl(H:Hp):Keeps H H:=⟨fun _ _ h=>h,fun _ _ _ h=>h⟩
theorem Keeps.trans{A B C:Hp}(a:Keeps A B)(b:Keeps B C):Keeps A C:=⟨fun _ _ h=>b.tup _ _ (a.tup _ _ h),fun _ _ _ h=>b.frz _ _ _ (a.frz _ _ _ h)⟩
theorem Keeps.of_same{H H':Hp}(h:gK H H'):Keeps H H':=⟨fun _ _ e=>h _ _ e,fun _ _ _ e=>h _ _ e⟩
theorem gK.new{H:Hp}{p:Addr}(o:HO)(h:H p=none):gK H (upd H p o):=fun b u e=>by rw[aP (dq e h)];exact e
theorem Keeps.write{H:Hp}{a:Addr}{o o':HO}(h:H a=some o)(ht:∀xs,o≠.tup xs)(hf:∀q u,o≠.frz q u):Keeps H (upd H a o'):=
 ⟨fun b xs e=>by rw[aP (y8 e h (fun z=>ht xs z.symm))];exact e,fun b q u e=>by rw[aP (y8 e h (fun z=>hf q u z.symm))];exact e⟩
theorem SqT.keeps{K:PySem.W.Frag}{H H':Hp}{a:Addr}{xs:List V}(k:Keeps H H')(h:SqT K H a xs):SqT K H' a xs:=by
 rcases h with (h |⟨o,h⟩) |h
 · exact .inl (.inl (k.tup _ _ h))
 · exact .inl (.inr ⟨o,k.frz _ _ _ h⟩)
 · exact .inr h
def SqF(K:PySem.W.Frag)(H:Hp)(a:Addr)(xs:List V):Prop:=
 (∃o,H a=some (.frz o (.lst xs)))\/
   ∃(o:Obj) (its:Array Value) (n:Nat),K.lookup a=some o/\o.cls= .type "list"/\o.dict=none/\o.data= .seq its n/\its.size<=sizeLine/\Vals xs its.toList
theorem SqF.keeps{K:PySem.W.Frag}{H H':Hp}{a:Addr}{xs:List V}(k:Keeps H H')(h:SqF K H a xs):SqF K H' a xs:=by
 rcases h with ⟨o,h⟩ |h
 · exact .inl ⟨o,k.frz _ _ _ h⟩
 · exact .inr h
theorem SqF.sq{K:PySem.W.Frag}{H:Hp}{a:Addr}{xs:List V}(h:SqF K H a xs):SqL K H a xs:=by
 rcases h with ⟨o,h⟩ |h
 · exact .inl (.inr ⟨o,h⟩)
 · exact .inr h
structure Up (μ μ':List Addr) (H H':Hp):Prop where
 pre:μ <+: μ'
 keeps:Keeps H H'
 rest:∀b o,H b=some o->b∉μ->H' b=some o/\b∉μ'
theorem Up.refl(μ:List Addr)(H:Hp):Up μ μ H H:=⟨List.prefix_refl _,Keeps.refl _,fun _ _ h n=>⟨h,n⟩⟩
theorem Up.trans{μ μ1 μ2:List Addr}{H H1 H2:Hp}(a:Up μ μ1 H H1)(b:Up μ1 μ2 H1 H2):Up μ μ2 H H2:=⟨a.pre.trans b.pre,a.keeps.trans b.keeps,fun c o h n=>let ⟨h1,n1⟩:=a.rest c o h n;b.rest c o h1 n1⟩
theorem Up.same{μ:List Addr}{H H':Hp}(h:gK H H'):Up μ μ H H':=⟨List.prefix_refl _,Keeps.of_same h,fun c o e n=>⟨h c o e,n⟩⟩
theorem Up.new{μ:List Addr}{H:Hp}{p:Addr}(u:HO)(hp:H p=none):Up μ (μ++[p]) H (upd H p u):=⟨⟨[p],rfl⟩,Keeps.of_same (gK.new u hp),fun c o e n=>⟨gK.new u hp c o e,fun z=>by
 rcases qG_.mp z with z |z
 · exact n z
 · simp at z;subst z;rw[hp]at e;cases e⟩⟩
theorem Up.u0{μ:List Addr}{H:Hp}{a:Addr}{o o':HO}{n:Nat}(ea:μ[n]? =some a)(h:H a=some o)(ht:∀xs,o≠.tup xs)(hf:∀q u,o≠.frz q u):Up μ μ H (upd H a o'):=
 ⟨List.prefix_refl _,Keeps.write h ht hf,fun c u e nc=>⟨by rw[aP (by rintro rfl;exact nc (qD_ ea))];exact e,nc⟩⟩
theorem Up.at{μ μ':List Addr}{H H':Hp}(u:Up μ μ' H H'){n:Nat}{a:Addr}(h:μ[n]? =some a):μ'[n]? =some a:=by
 obtain⟨r,rfl⟩:=u.pre
 rw[qK_ (qB_.mp h).1]
 exact h
theorem ER{μ μ':List Addr}(u:μ <+: μ'){n:Nat}{a:Addr}(h:μ[n]? =some a):μ'[n]? =some a:=by
 obtain⟨r,rfl⟩:=u
 rw[qK_ (qB_.mp h).1]
 exact h
mutual
theorem Den.mono{K:PySem.W.Frag}{μ μ':List Addr}{H H':Hp}(p:μ <+: μ')(k:Keeps H H'):∀{d:M3.D} {v:V},Den K H μ d v->Den K H' μ' d v
 | .non,_,h=>h
 | .bl _,_,h=>h
 | .int _,_,h=>h
 | .str _,_,h=>h
 | .ref _,_,⟨a,e,h⟩=>⟨a,ER p e,h⟩
 | .tup ds,_,⟨a,vs,e,h,r⟩=>⟨a,vs,e,SqT.keeps k h,aF.mono p k r⟩
theorem aF.mono{K:PySem.W.Frag}{μ μ':List Addr}{H H':Hp}(p:μ <+: μ')(k:Keeps H H'):∀{ds:List M3.D} {vs:List V},aF K H μ ds vs->aF K H' μ' ds vs
 | [],_,h=>h
 |_ :: _,_,⟨v,r,e,h,t⟩=>⟨v,r,e,Den.mono p k h,aF.mono p k t⟩
end
theorem Den.up{K:PySem.W.Frag}{μ μ':List Addr}{H H':Hp}(u:Up μ μ' H H'){d:M3.D}{v:V}(h:Den K H μ d v):Den K H' μ' d v:=Den.mono u.pre u.keeps h
theorem aF.up{K:PySem.W.Frag}{μ μ':List Addr}{H H':Hp}(u:Up μ μ' H H'){ds:List M3.D}{vs:List V}(h:aF K H μ ds vs):aF K H' μ' ds vs:=aF.mono u.pre u.keeps h
theorem aF.length{K:PySem.W.Frag}{μ:List Addr}{H:Hp}:∀{ds:List M3.D} {vs:List V},aF K H μ ds vs->ds.length=vs.length
 | [],_,h=>by cases (show _=[]from h);rfl
 |_ :: _,_,⟨v,r,e,_,t⟩=>by subst e;simp [aF.length t]
theorem aF.get{K:PySem.W.Frag}{μ:List Addr}{H:Hp}:∀{ds:List M3.D} {vs:List V} {i:Nat} {d:M3.D},aF K H μ ds vs->ds[i]? =some d->∃v,vs[i]? =some v/\Den K H μ d v
 | [],_,_,_,_,e=>by simp at e
 |d :: ds,_,0,d',⟨v,r,e,h,t⟩,q=>by
  subst e
  simp at q
  subst q
  exact⟨v,rfl,h⟩
 |d :: ds,_,i+1,d',⟨v,r,e,h,t⟩,q=>by
  subst e
  obtain⟨w,h1,h2⟩:=aF.get (i:=i) t (by simpa using q)
  exact⟨w,by simpa using h1,h2⟩
theorem aF.get'{K:PySem.W.Frag}{μ:List Addr}{H:Hp}{ds:List M3.D}{vs:List V}{i:Nat}{v:V}(h:aF K H μ ds vs)(e:vs[i]? =some v):∃d,ds[i]? =some d/\Den K H μ d v:=by
 have hl:i < ds.length:=by rw[h.length];exact(qB_.mp e).1
 obtain⟨w,e1,h1⟩:=aF.get h (qA_ hl)
 rw[e]at e1
 cases e1
 exact⟨_,qA_ hl,h1⟩
theorem aF.append{K:PySem.W.Frag}{μ:List Addr}{H:Hp}:∀{ds es:List M3.D} {vs ws:List V},aF K H μ ds vs->aF K H μ es ws->aF K H μ (ds++es) (vs++ws)
 | [],_,_,_,h,t=>by cases (show _=[]from h);exact t
 |_ :: _,_,_,_,⟨v,r,e,h,t⟩,s=>by subst e;exact⟨v,r++_,rfl,h,aF.append t s⟩
theorem aF.one{K:PySem.W.Frag}{μ:List Addr}{H:Hp}{d:M3.D}{v:V}(h:Den K H μ d v):aF K H μ [d] [v]:=⟨v,[],rfl,h,rfl⟩
theorem aF.ints{K:PySem.W.Frag}{μ:List Addr}{H:Hp}:∀{ns:List Int} {vs:List V},aF K H μ (ns.map M3.D.int) vs->vs=ns.map V.int
 | [],_,h=>h
 |n :: ns,_,⟨v,r,e,h,t⟩=>by
  subst e
  have e1:v=V.int n:=h
  rw[e1,aF.ints t];rfl
theorem aF.xm{K:PySem.W.Frag}{μ:List Addr}{H:Hp}:∀{ns:List Int},aF K H μ (ns.map M3.D.int) (ns.map V.int)
 | []=>rfl
 |n :: ns=>⟨_,_,rfl,rfl,aF.xm⟩
def isF:M3.O->Bool
 | .frz _=>true
 |_=>false
def isW:M3.O->Bool
 | .frz _=>false
 | .dF _=>false
 |_=>true
theorem isW.nf{o:M3.O}(h:isW o=true):isF o=false:=by cases o <;> first |rfl |cases h
def ObD(T:Tab)(K:PySem.W.Frag)(H:Hp)(μ:List Addr):M3.O->Addr->Prop
 | .lst xs,a=>∃vs,H a=some (.lst vs)/\aF K H μ xs vs
 | .frz xs,a=>∃vs,SqF K H a vs/\aF K H μ xs vs
 | .dK kvs,a=>∃ws,H a=some (.dK ws)/\Paired (fun(p:M3.Key×M3.D) (q:L2.Key×V)=>p.1=q.1/\Den K H μ p.2 q.2) kvs ws
 | .dF kvs,a=>∃ob ws,H a=some (.frz ob (.dK ws))/\Paired (fun(p:M3.Key×M3.D) (q:L2.Key×V)=>p.1=q.1/\Den K H μ p.2 q.2) kvs ws
 | .dT kvs,a=>∃ws,H a=some (.dT ws)/\Paired (fun(p:List M3.Key×M3.D) (q:List L2.Key×V)=>p.1=q.1/\Den K H μ p.2 q.2) kvs ws
 | .ins C fs,a=>∃Ca dx ws,T.cls C=some Ca/\H a=some (.ins Ca dx ws)/\Paired (fun(p:Nat×M3.D) (q:Str×V)=>q.1=T.nm p.1/\Den K H μ p.2 q.2) fs ws
structure Sim (T:Tab) (K:PySem.W.Frag) (μ:List Addr) (H:Hp) (G:M3.Hh):Prop where
 len:μ.length=G.length
 obj:∀(n:Nat) a o,μ[n]? =some a->G[n]? =some o->ObD T K H μ o a
 inj:∀(n m:Nat) a o o',n≠m->μ[n]? =some a->μ[m]? =some a->G[n]? =some o->G[m]? =some o'->isF o=true\/isF o'=true
theorem ObD.some_of{T:Tab}{K:PySem.W.Frag}{μ:List Addr}{H:Hp}{o:M3.O}{a:Addr}(h:ObD T K H μ o a)(hf:isW o=true):∃u,H a=some u/\(∀xs,u≠.tup xs)/\∀q w,u≠.frz q w:=by
 cases o with
 |lst xs=>obtain⟨vs,e,_⟩:=h;exact⟨_,e,(fun _ z=>nomatch z),fun _ _ z=>nomatch z⟩
 |frz xs=>cases hf
 |dK kvs=>obtain⟨vs,e,_⟩:=h;exact⟨_,e,(fun _ z=>nomatch z),fun _ _ z=>nomatch z⟩
 |dF kvs=>cases hf
 |dT kvs=>obtain⟨vs,e,_⟩:=h;exact⟨_,e,(fun _ z=>nomatch z),fun _ _ z=>nomatch z⟩
 |ins C fs=>obtain⟨Ca,dx,ws,_,e,_⟩:=h;exact⟨_,e,(fun _ z=>nomatch z),fun _ _ z=>nomatch z⟩
theorem ObD.live{T:Tab}{K:PySem.W.Frag}{μ:List Addr}{H:Hp}{o:M3.O}{a:Addr}(h:ObD T K H μ o a)(hf:isF o=false):∃u,H a=some u:=by
 cases o with
 |frz xs=>cases hf
 |dF kvs=>obtain⟨ob,ws,e,_⟩:=h;exact⟨_,e⟩
 |lst xs=>obtain⟨u,e,_⟩:=h.some_of rfl;exact⟨u,e⟩
 |dK xs=>obtain⟨u,e,_⟩:=h.some_of rfl;exact⟨u,e⟩
 |dT xs=>obtain⟨u,e,_⟩:=h.some_of rfl;exact⟨u,e⟩
 |ins C fs=>obtain⟨u,e,_⟩:=h.some_of rfl;exact⟨u,e⟩
theorem ObD.mono{T:Tab}{K:PySem.W.Frag}{μ μ':List Addr}{H H':Hp}{o:M3.O}{a:Addr}(h:ObD T K H μ o a)(p:μ <+: μ')(k:Keeps H H')(e:∀x,H a=some x->H' a=some x):ObD T K H' μ' o a:=by
 cases o with
 |lst xs=>obtain⟨vs,q,r⟩:=h;exact⟨vs,e _ q,aF.mono p k r⟩
 |frz xs=>obtain⟨vs,q,r⟩:=h;exact⟨vs,SqF.keeps k q,aF.mono p k r⟩
 |dK kvs=>obtain⟨vs,q,r⟩:=h;exact⟨vs,e _ q,Paired.imp' (fun _ _ z=>⟨z.1,Den.mono p k z.2⟩) r⟩
 |dF kvs=>obtain⟨ob,vs,q,r⟩:=h;exact⟨ob,vs,e _ q,Paired.imp' (fun _ _ z=>⟨z.1,Den.mono p k z.2⟩) r⟩
 |dT kvs=>obtain⟨vs,q,r⟩:=h;exact⟨vs,e _ q,Paired.imp' (fun _ _ z=>⟨z.1,Den.mono p k z.2⟩) r⟩
 |ins C fs=>obtain⟨Ca,dx,ws,c,q,r⟩:=h;exact⟨Ca,dx,ws,c,e _ q,Paired.imp' (fun _ _ z=>⟨z.1,Den.mono p k z.2⟩) r⟩
theorem ObD.jC{T:Tab}{K:PySem.W.Frag}{μ μ':List Addr}{H H':Hp}{o:M3.O}{a:Addr}(h:ObD T K H μ o a)(u:Up μ μ' H H')(e:∀x,H a=some x->H' a=some x):ObD T K H' μ' o a:=h.mono u.pre u.keeps e
section
variable{T:Tab}{K:PySem.W.Frag}{μ:List Addr}{H H':Hp}{G:M3.Hh}
theorem Sim.same(S:Sim T K μ H G)(h:gK H H'):Sim T K μ H' G:=
 ⟨S.len,fun n a o e1 e2=>(S.obj n a o e1 e2).jC (Up.same h) (h a),S.inj⟩
theorem Sim.new(S:Sim T K μ H G){p:Addr}{u:HO}{o:M3.O}(hp:H p=none)(hf:isF o=false)(ho:ObD T K (upd H p u) (μ++[p]) o p):Sim T K (μ++[p]) (upd H p u) (G++[o]):=by
 have sm:=gK.new u hp
 have up:Up μ (μ++[p]) H (upd H p u):=Up.new u hp
 have old:∀(n:Nat) a o',(μ++[p])[n]? =some a->(G++[o])[n]? =some o'->(μ[n]? =some a/\G[n]? =some o')\/(n=G.length/\a=p/\o'=o):=by
  intro n a o' e1 e2
  by_cases h:n < G.length
  · rw[qK_ (by rw[S.len];exact h)]at e1
    rw[qK_ h]at e2
    exact .inl ⟨e1,e2⟩
  · have hn:n=G.length:=by
     have:=(qB_.mp e2).1
     rw[qN_]at this
     simp at this
     omega
    subst hn
    rw[<-S.len]at e1
    simp at e1 e2
    exact .inr ⟨rfl,e1.symm,e2.symm⟩
 have free:∀(n:Nat) a o',μ[n]? =some a->G[n]? =some o'->isF o'=false->a≠p:=by
  intro n a o' e1 e2 hf'
  obtain⟨w,hw⟩:=(S.obj n a o' e1 e2).live hf'
  exact dq hw hp
 refine⟨by simp [S.len],fun n a o' e1 e2=>?_,fun n m a o1 o2 hnm e1 e2 e3 e4=>?_⟩
 · rcases old n a o' e1 e2 with ⟨h1,h2⟩ |⟨_,rfl,rfl⟩
   · exact(S.obj n a o' h1 h2).jC up (sm a)
   · exact ho
 · rcases old n a o1 e1 e3 with ⟨h1,h2⟩ |⟨rfl,rfl,rfl⟩
   · rcases old m a o2 e2 e4 with ⟨h3,h4⟩ |⟨rfl,rfl,rfl⟩
     · exact S.inj n m a o1 o2 hnm h1 h3 h2 h4
     · cases q:isF o1 with
       |true=>exact .inl rfl
       |false=>exact absurd rfl (free n a o1 h1 h2 q)
   · rcases old m a o2 e2 e4 with ⟨h3,h4⟩ |⟨h3,_,_⟩
     · cases q:isF o2 with
       |true=>exact .inr rfl
       |false=>exact absurd rfl (free m a o2 h3 h4 q)
     · exact absurd h3.symm hnm
theorem Sim.set(S:Sim T K μ H G){n:Nat}{a:Addr}{o o':M3.O}{u:HO}(e1:μ[n]? =some a)(e2:G[n]? =some o)(hfw:isW o=true)(hf':isF o'=false)(ho:ObD T K (upd H a u) μ o' a):Sim T K μ (upd H a u) (G.set n o'):=by
 have hf:=isW.nf hfw
 obtain⟨w,hw,h1,h2⟩:=(S.obj n a o e1 e2).some_of hfw
 have up:Up μ μ H (upd H a u):=Up.u0 e1 hw h1 h2
 have hl:=(qB_.mp e2).1
 refine⟨by rw[qX_];exact S.len,fun m b ob q1 q2=>?_,fun m k b o1 o2 hmk q1 q2 q3 q4=>?_⟩
 · by_cases h:m=n
   · subst h
     rw[e1]at q1
     cases q1
     rw[qU_ hl]at q2
     cases q2
     exact ho
   · rw[qV_ (Ne.symm h)]at q2
     cases q:isF ob with
     |true=>
      cases ob with
      |frz xs=>
       obtain⟨vs,z,r⟩:=S.obj m b _ q1 q2
       exact⟨vs,SqF.keeps up.keeps z,aF.up up r⟩
      |_=>cases q
     |false=>
      have hb:b≠a:=by
       rintro rfl
       rcases S.inj m n b ob o h q1 e1 q2 e2 with z |z
       · rw[q]at z;cases z
       · rw[hf]at z;cases z
      exact(S.obj m b ob q1 q2).jC up fun x z=>by rw[aP hb];exact z
 · have back:∀(m:Nat) ob,(G.set n o')[m]? =some ob->∃ob',G[m]? =some ob'/\isF ob'=isF ob:=by
    intro m ob q
    by_cases h:m=n
    · subst h
      rw[qU_ hl]at q
      cases q
      exact⟨o,e2,by rw[hf,hf']⟩
    · rw[qV_ (Ne.symm h)]at q
      exact⟨ob,q,rfl⟩
   obtain⟨p1,r1,f1⟩:=back m o1 q3
   obtain⟨p2,r2,f2⟩:=back k o2 q4
   rw[<-f1,<-f2]
   exact S.inj m k b p1 p2 hmk q1 q2 r1 r2
theorem Up.set(S:Sim T K μ H G){n:Nat}{a:Addr}{o:M3.O}(u:HO)(e1:μ[n]? =some a)(e2:G[n]? =some o)(hf:isW o=true):Up μ μ H (upd H a u):=by
 obtain⟨w,hw,h1,h2⟩:=(S.obj n a o e1 e2).some_of hf
 exact Up.u0 e1 hw h1 h2
end
structure StD (K:PySem.W.Frag) (H:Hp) (μ:List Addr) (σ3:M3.St) (σ:L2.St):Prop where
 len:σ3.length=σ.length
 at_:∀(i:Nat) d,σ3[i]? =some (some d)->∃v,σ[i]? =some (some v)/\Den K H μ d v
theorem StD.up{K:PySem.W.Frag}{H H':Hp}{μ μ':List Addr}{σ3:M3.St}{σ:L2.St}(u:Up μ μ' H H')(s:StD K H μ σ3 σ):StD K H' μ' σ3 σ:=
 ⟨s.len,fun i d e=>let ⟨v,h1,h2⟩:=s.at_ i d e;⟨v,h1,Den.up u h2⟩⟩
theorem StD.set{K:PySem.W.Frag}{H:Hp}{μ:List Addr}{σ3:M3.St}{σ:L2.St}(s:StD K H μ σ3 σ){d:M3.D}{v:V}(i:Nat)(h:Den K H μ d v):StD K H μ (σ3.set i (some d)) (σ.set i (some v)):=by
 refine⟨by rw[qX_,qX_];exact s.len,fun j d' e=>?_⟩
 by_cases hj:j=i
 · subst hj
   have hl:j < σ3.length:=by
    have:=(qB_.mp e).1
    rw[qX_]at this
    exact this
   rw[qU_ hl]at e
   cases e
   exact⟨v,by rw[qU_ (by rw[<-s.len];exact hl)],h⟩
 · rw[qV_ (Ne.symm hj)]at e
   rw[qV_ (Ne.symm hj)]
   exact s.at_ j d' e
structure EX where
 x:List Addr->Hp->Nat->M3.Hh->Prop
 up:∀{μ μ':List Addr} {H H':Hp} {c:Nat} {G:M3.Hh},Up μ μ' H H'->x μ H c G->x μ' H' c G
theorem EX.upE{α:Type}(E:EX){m:M3.M α}{G:M3.Hh}{P:α->M3.Hh->Prop}{μ μ':List Addr}{H H':Hp}(u:Up μ μ' H H')(h:M3.run m G P (E.x μ H)):M3.run m G P (E.x μ' H'):=M3.az h (fun _ _ q=>q) fun _ _ q=>E.up u q
def fx(T:Tab)(K:PySem.W.Frag)(μ:List Addr)(H:Hp)(Q:VK)(d:M3.D)(G':M3.Hh):Prop:=∀v H' μ',Up μ μ' H H'->Sim T K μ' H' G'->Den K H' μ' d v->Q v H'
def ox(T:Tab)(K:PySem.W.Frag)(μ:List Addr)(H:Hp)(Q:Bool->Hp->Prop)(b:Bool)(G':M3.Hh):Prop:=∀H' μ',Up μ μ' H H'->Sim T K μ' H' G'->Q b H'
def CH(T:Tab)(K:PySem.W.Frag)(μ:List Addr)(H:Hp)(Q:List V->Hp->Prop)(ds:List M3.D)(G':M3.Hh):Prop:=∀vs H' μ',Up μ μ' H H'->Sim T K μ' H' G'->aF K H' μ' ds vs->Q vs H'
def fH(T:Tab)(K:PySem.W.Frag)(μ:List Addr)(H:Hp)(D:Ends)(r:M3.Fl×M3.St)(G':M3.Hh):Prop:=∀σ' H' μ',Up μ μ' H H'->Sim T K μ' H' G'->StD K H' μ' r.2 σ'->match r.1 with
 | .next=>D.nx σ' H'
 | .brk=>D.bk σ' H'
 | .cont=>D.ct σ' H'
 | .ret d=>∀v,Den K H' μ' d v->D.rt v H'
section
variable{T:Tab}{K:PySem.W.Frag}{μ μ':List Addr}{H H':Hp}{G:M3.Hh}
theorem fx.up{Q:VK}{d:M3.D}(u:Up μ μ' H H')(h:fx T K μ H Q d G):fx T K μ' H' Q d G:=fun v H2 μ2 u2 S r=>h v H2 μ2 (u.trans u2) S r
theorem ox.up{Q:Bool->Hp->Prop}{d:Bool}(u:Up μ μ' H H')(h:ox T K μ H Q d G):ox T K μ' H' Q d G:=fun H2 μ2 u2 S=>h H2 μ2 (u.trans u2) S
theorem fH.up{D:Ends}{r:M3.Fl×M3.St}(u:Up μ μ' H H')(h:fH T K μ H D r G):fH T K μ' H' D r G:=fun v H2 μ2 u2 S r=>h v H2 μ2 (u.trans u2) S r
end
def tE(T:Tab)(K:PySem.W.Frag)(Y:EX)(f:M3.E3):TE:=fun σ H Q=>∃μ σ3 G,Sim T K μ H G/\StD K H μ σ3 σ/\M3.run (f σ3) G (fx T K μ H Q) (Y.x μ H)
def tT(T:Tab)(K:PySem.W.Frag)(Y:EX)(f:M3.T3):TT:=fun σ H Q=>∃μ σ3 G,Sim T K μ H G/\StD K H μ σ3 σ/\M3.run (f σ3) G (ox T K μ H Q) (Y.x μ H)
def tA(T:Tab)(K:PySem.W.Frag)(Y:EX)(f:M3.A3):TA:=fun σ H Q=>∃μ σ3 G,Sim T K μ H G/\StD K H μ σ3 σ/\M3.run (f σ3) G (CH T K μ H Q) (Y.x μ H)
def tS(T:Tab)(K:PySem.W.Frag)(Y:EX)(f:M3.S3):TS:=fun D σ H=>∃μ σ3 G,Sim T K μ H G/\StD K H μ σ3 σ/\M3.run (f σ3) G (fH T K μ H D) (Y.x μ H)
theorem bZ{Y:EX}{α:Type}{T:Tab}{K:PySem.W.Frag}{μ:List Addr}{H:Hp}{m:M3.M M3.D}{k:M3.D->M3.M α}{G:M3.Hh}{P:α->M3.Hh->Prop}{R:VK}(h:M3.run (M3.bnd m k) G P (Y.x μ H))
 (f:∀d G1 v H1 μ1,Up μ μ1 H H1->Sim T K μ1 H1 G1->Den K H1 μ1 d v->M3.run (k d) G1 P (Y.x μ1 H1)->R v H1):M3.run m G (fx T K μ H R) (Y.x μ H):=
 M3.az (M3.bc h) (fun d G1 q v H1 μ1 u S r=>f d G1 v H1 μ1 u S r (Y.upE u q)) fun _ _ z=>z
theorem vi{Y:EX}{α:Type}{T:Tab}{K:PySem.W.Frag}{μ:List Addr}{H:Hp}{m:M3.M Bool}{k:Bool->M3.M α}{G:M3.Hh}{P:α->M3.Hh->Prop}{R:Bool->Hp->Prop}(h:M3.run (M3.bnd m k) G P (Y.x μ H))
 (f:∀b G1 H1 μ1,Up μ μ1 H H1->Sim T K μ1 H1 G1->M3.run (k b) G1 P (Y.x μ1 H1)->R b H1):M3.run m G (ox T K μ H R) (Y.x μ H):=
 M3.az (M3.bc h) (fun d G1 q H1 μ1 u S=>f d G1 H1 μ1 u S (Y.upE u q)) fun _ _ z=>z
theorem oG{Y:EX}{α:Type}{T:Tab}{K:PySem.W.Frag}{μ:List Addr}{H:Hp}{m:M3.M (List M3.D)}{k:List M3.D->M3.M α}{G:M3.Hh}{P:α->M3.Hh->Prop}{R:List V->Hp->Prop}(h:M3.run (M3.bnd m k) G P (Y.x μ H))
 (f:∀ds G1 vs H1 μ1,Up μ μ1 H H1->Sim T K μ1 H1 G1->aF K H1 μ1 ds vs->M3.run (k ds) G1 P (Y.x μ1 H1)->R vs H1):M3.run m G (CH T K μ H R) (Y.x μ H):=
 M3.az (M3.bc h) (fun d G1 q v H1 μ1 u S r=>f d G1 v H1 μ1 u S r (Y.upE u q)) fun _ _ z=>z
theorem eP{α:Type}{m:M3.M α}{G:M3.Hh}{P P':α->M3.Hh->Prop}{X:Nat->M3.Hh->Prop}(h:M3.run m G P X)(f:∀a G',P a G'->P' a G'):M3.run m G P' X:=M3.az h f fun _ _ z=>z
section
variable{X:Cx}{T:Tab}{Y:EX}{a b e:Expr}{es:List Expr}{fa fb:M3.E3}{pos:Pos}{tt:M3.T3}
theorem PE.of{t u:TE}(h:PE X e t)(f:∀σ H Q,u σ H Q->t σ H Q):PE X e u:=fun pins s σ H Q I q=>h pins s σ H Q I (f σ H Q q)
theorem PT.of{t u:TT}(h:PT X e t)(f:∀σ H Q,u σ H Q->t σ H Q):PT X e u:=fun pins s σ H Q I q=>h pins s σ H Q I (f σ H Q q)
theorem PW.of{t u:TT}(h:PW X e t)(f:∀σ H Q,u σ H Q->t σ H Q):PW X e u:=fun wh pins s σ H Q I q=>h wh pins s σ H Q I (f σ H Q q)
theorem PA.of{t u:TA}(h:PA X es t)(f:∀σ H Q,u σ H Q->t σ H Q):PA X es u:=fun ps pins s σ H Q I q=>h ps pins s σ H Q I (f σ H Q q)
theorem PS.of{st:Stmt}{t u:TS}(h:PS X st t)(f:∀D σ H,u D σ H->t D σ H):PS X st u:=fun pins s σ H D I q=>h pins s σ H D I (f D σ H q)
theorem PSs.of{st:List Stmt}{t u:TS}(h:PSs X st t)(f:∀D σ H,u D σ H->t D σ H):PSs X st u:=fun pins s σ H D I q=>h pins s σ H D I (f D σ H q)
theorem aa(i:Nat){x:Str}(hN:X.N[i]? =some x:=by rfl)(hv:Vis X.env.scope x:=by first |exact Or.inl rfl |exact Or.inr (Or.inl rfl) |exact Or.inr (Or.inr rfl))(hd:(x==("__debug__":Str))=false:=by decide)
 (hcd:(x==("__classdict__":Str))=false:=by decide):PE X (.Name x pos) (tE T X.K Y (M3.ae i)):=by
 refine PE.of (EA hN hv hd hcd) fun σ H Q ⟨μ,σ3,G,S,sd,h⟩=>?_
 unfold M3.ae at h
 cases q:σ3[i]? with
 |none=>rw[q]at h;exact False.elim h
 |some o=>
  rw[q]at h
  cases o with
  |none=>exact False.elim h
  |some d=>
   obtain⟨v,e,r⟩:=sd.at_ i d q
   exact⟨v,e,h v H μ (Up.refl _ _) S r⟩
theorem nu{d:M3.D}{v:V}(h:PE X e (tC v))(hd:∀H μ,Den X.K H μ d v):PE X e (tE T X.K Y (M3.eC d)):=
 PE.of h fun σ H Q ⟨μ,σ3,G,S,sd,q⟩=>q v H μ (Up.refl _ _) S (hd H μ)
theorem aE{i j}:PE X (.Constant (.int i) j pos) (tE T X.K Y (M3.eC (.int i))):=nu Fb fun _ _=>rfl
theorem iF{c j}:PE X (.Constant (.bool c) j pos) (tE T X.K Y (M3.eC (.bl c))):=nu Fz fun _ _=>rfl
theorem iw{j}:PE X (.Constant .none j pos) (tE T X.K Y (M3.eC .non)):=nu DZ fun _ _=>rfl
theorem eN{x j}:PE X (.Constant (.str x) j pos) (tE T X.K Y (M3.eC (.str x))):=nu Er fun _ _=>rfl
def Br2(T:Tab)(K:PySem.W.Frag)(Y:EX)(g:M3.D->M3.D->M3.M M3.D)(r:R2):Prop:=
 ∀μ H G x y v w Q,Sim T K μ H G->Den K H μ x v->Den K H μ y w->M3.run (g x y) G (fx T K μ H Q) (Y.x μ H)->r v w H Q
theorem Cb{g:M3.D->M3.D->M3.M M3.D}{r:R2}{K:PySem.W.Frag}(br:Br2 T K Y g r){σ:L2.St}{H:Hp}{Q:VK}(h:tE T K Y (M3.eOp g fa fb) σ H Q):tOp r (tE T K Y fa) (tE T K Y fb) σ H Q:=by
 obtain⟨μ,σ3,G,S,sd,h⟩:=h
 refine⟨μ,σ3,G,S,sd,bZ h fun x G1 v H1 μ1 u1 S1 d1 h1=>⟨μ1,σ3,G1,S1,sd.up u1,bZ h1 fun y G2 w H2 μ2 u2 S2 d2 h2=>?_⟩⟩
 exact br μ2 H2 G2 x y v w Q S2 (Den.up u2 d1) d2 (eP h2 fun _ _ q=>q.up (u1.trans u2))
theorem dB{op:Operator}{g:M3.D->M3.D->M3.M M3.D}{r:R2}(br:OpR X (binaryOp op) r/\Br2 T X.K Y g r)(ha:PE X a (tE T X.K Y fa))(hb:PE X b (tE T X.K Y fb)):PE X (.BinOp a op b pos) (tE T X.K Y (M3.eOp g fa fb)):=
 PE.of (Gf br.1 ha hb) fun _ _ _ h=>Cb br.2 h
theorem vE{op:CmpOp}{g:M3.D->M3.D->M3.M M3.D}{r:R2}(br:OpR X (compareOp op) r/\Br2 T X.K Y g r)(ha:PE X a (tE T X.K Y fa))(hb:PE X b (tE T X.K Y fb))(hm:behindInMarks op b=false):PE X (.Compare a [op] [b] pos) (tE T X.K Y (M3.eOp g fa fb)):=
 PE.of (Bq br.1 ha hb hm) fun _ _ _ h=>Cb br.2 h
theorem v7{x:M3.D}{G:M3.Hh}{P:Bool->M3.Hh->Prop}{Z:Nat->M3.Hh->Prop}(h:M3.run (M3.asB x) G P Z):∃c,x= .bl c/\P c G:=by
 cases x with
 |bl c=>exact⟨c,rfl,h⟩
 |_=>exact False.elim h
theorem Fv{K:PySem.W.Frag}{f:M3.E3}{σ:L2.St}{H:Hp}{Q:Bool->Hp->Prop}(h:tT T K Y (M3.tB f) σ H Q):C7 (tE T K Y f) σ H Q:=by
 obtain⟨μ,σ3,G,S,sd,h⟩:=h
 refine⟨μ,σ3,G,S,sd,bZ h fun x G1 v H1 μ1 u1 S1 d1 h1=>?_⟩
 obtain⟨c,rfl,q⟩:=v7 h1
 exact⟨c,d1,q H1 μ1 u1 S1⟩
theorem dX{op:CmpOp}{g:M3.D->M3.D->M3.M M3.D}{r:R2}(br:OpR X (compareOp op) r/\Br2 T X.K Y g r)(ha:PE X a (tE T X.K Y fa))(hb:PE X b (tE T X.K Y fb))(hm:behindInMarks op b=false):PT X (.Compare a [op] [b] pos) (tT T X.K Y (M3.tB (M3.eOp g fa fb))):=by
 refine PT.of (BF br.1 ha hb hm) fun σ H Q h=>?_
 obtain⟨μ,σ3,G,S,sd,h⟩:=Fv h
 exact Cb br.2 ⟨μ,σ3,G,S,sd,h⟩
end
theorem dO:M3.aH=sizeLine:=by rw[sizeLine_eq];rfl
section
variable{X:Cx}{T:Tab}{Y:EX}{a b e:Expr}{es:List Expr}{fa fb:M3.E3}{ta tb:M3.T3}{f3:M3.A3}{pos:Pos}{rest:List Expr}
theorem vx{op}{f:M3.E3}(h:PE X a (tE T X.K Y f)):PE X (.BoolOp op [a] pos) (tE T X.K Y f):=En h
theorem rG(ha:PE X a (tE T X.K Y fa))(hb:PE X (.BoolOp .And (b :: rest) pos) (tE T X.K Y fb)):PE X (.BoolOp .And (a :: b :: rest) pos) (tE T X.K Y (M3.uZ fa fb)):=by
 refine PE.of (EY ha hb) fun σ H Q ⟨μ,σ3,G,S,sd,h⟩=>⟨μ,σ3,G,S,sd,bZ h fun x G1 v H1 μ1 u1 S1 d1 h1=>?_⟩
 obtain⟨c,rfl,q⟩:=v7 (M3.bc h1)
 refine⟨c,d1,?_⟩
 cases c with
 |true=>exact⟨μ1,σ3,G1,S1,sd.up u1,eP q fun _ _ z=>z.up u1⟩
 |false=>exact q _ H1 μ1 u1 S1 rfl
theorem AZ(ha:PE X a (tE T X.K Y fa)):PE X (.UnaryOp .Not a pos) (tE T X.K Y (M3.zL fa)):=by
 refine PE.of (Fw ha) fun σ H Q ⟨μ,σ3,G,S,sd,h⟩=>⟨μ,σ3,G,S,sd,bZ h fun x G1 v H1 μ1 u1 S1 d1 h1=>?_⟩
 obtain⟨c,rfl,q⟩:=v7 (M3.bc h1)
 exact⟨c,d1,q _ H1 μ1 u1 S1 rfl⟩
theorem Gw{j pos'}(ha:PE X a (tE T X.K Y fa)):PE X (.Compare a [.Is] [.Constant .none j pos'] pos) (tE T X.K Y (M3.eUn M3.rh fa)):=by
 refine PE.of (D2 (AU ha)) fun σ H Q ⟨μ,σ3,G,S,sd,h⟩=>⟨μ,σ3,G,S,sd,bZ h fun x G1 v H1 μ1 u1 S1 d1 h1=>?_⟩
 refine h1 _ H1 μ1 u1 S1 ?_
 cases x with
 |non=>cases (show v= .non from d1);rfl
 |bl b=>cases (show v= .bl b from d1);rfl
 |int b=>cases (show v= .int b from d1);rfl
 |str b=>cases (show v= .str b from d1);rfl
 |ref n=>obtain⟨_,_,rfl⟩:=d1;rfl
 |tup ds=>obtain⟨_,_,rfl,_⟩:=d1;rfl
theorem qx(ha:PT X a (tT T X.K Y ta)):PW X (.BoolOp .Or [a] pos) (tT T X.K Y ta):=Ei ha
theorem w_or(ha:PT X a (tT T X.K Y ta))(hb:PW X (.BoolOp .Or (b :: rest) pos) (tT T X.K Y tb)):PW X (.BoolOp .Or (a :: b :: rest) pos) (tT T X.K Y (M3.tOr ta tb)):=by
 refine PW.of (FU ha hb) fun σ H Q ⟨μ,σ3,G,S,sd,h⟩=>⟨μ,σ3,G,S,sd,vi h fun c G1 H1 μ1 u1 S1 h1=>?_⟩
 cases c with
 |true=>exact h1 H1 μ1 u1 S1
 |false=>exact⟨μ1,σ3,G1,S1,sd.up u1,eP h1 fun _ _ z=>z.up u1⟩
theorem iT(ha:PT X a (tT T X.K Y ta)):PT X (.UnaryOp .Not a pos) (tT T X.K Y (M3.gC ta)):=by
 refine PT.of (DB ha) fun σ H Q ⟨μ,σ3,G,S,sd,h⟩=>⟨μ,σ3,G,S,sd,vi h fun c G1 H1 μ1 u1 S1 h1=>?_⟩
 exact h1 H1 μ1 u1 S1
theorem EW{Z:Nat->M3.Hh->Prop}{K:PySem.W.Frag}{μ:List Addr}{H:Hp}{G:M3.Hh}{x:M3.D}{v:V}{P:Bool->M3.Hh->Prop}(S:Sim T K μ H G)(d:Den K H μ x v)(h:M3.run (M3.truth x) G P Z):∃k,D7 K v H k/\P k G:=by
 cases x with
 |non=>cases (show v= .non from d);exact⟨false,rfl,h⟩
 |bl b=>cases (show v= .bl b from d);exact⟨b,rfl,h⟩
 |int b=>cases (show v= .int b from d);exact⟨_,rfl,h⟩
 |str b=>
  cases (show v= .str b from d)
  unfold M3.run M3.truth at h
  dsimp only at h
  by_cases hl:b.length<=M3.aH
  · rw[if_pos hl]at h
    refine⟨b.length !=0,⟨by rw[<-dO];exact hl,?_⟩,h⟩
    cases q:b.length with
    |zero=>rfl
    |succ n=>rfl
  · rw[if_neg hl]at h
    exact False.elim h
 |tup ds=>
  obtain⟨a,vs,rfl,sq,r⟩:=d
  refine⟨!ds.isEmpty,.inr (.inl ⟨vs,sq,?_⟩),h⟩
  have:=r.length
  cases ds <;> cases vs <;> simp_all
 |ref n=>
  obtain⟨a,e,rfl⟩:=d
  unfold M3.run M3.truth at h
  dsimp only at h
  cases q:G[n]? with
  |none=>rw[q]at h;exact False.elim h
  |some o=>
   rw[q]at h
   have ob:=S.obj n a o e q
   cases o with
   |lst xs=>
    obtain⟨vs,e1,r⟩:=ob
    refine⟨_,.inl ⟨vs,SqL.of e1,rfl⟩,?_⟩
    have:=r.length
    cases xs <;> cases vs <;> simp_all
   |frz xs=>
    obtain⟨vs,e1,r⟩:=ob
    refine⟨_,.inl ⟨vs,e1.sq,rfl⟩,?_⟩
    have:=r.length
    cases xs <;> cases vs <;> simp_all
   |dK kvs=>
    obtain⟨ws,e1,r⟩:=ob
    refine⟨_,.inr (.inr ⟨ws,e1,rfl⟩),?_⟩
    have:=Paired.length r
    cases kvs <;> cases ws <;> simp_all
   |dF kvs=>exact False.elim h
   |dT kvs=>exact False.elim h
   |ins C fs=>exact False.elim h
theorem iG{f:M3.E3}(h:PE X e (tE T X.K Y f))(he:∀whole,isTrue e X.env whole=(do let v <-whole;standAt e.pos;holding [v] (truthy v)):=by intro _;rfl):PT X e (tT T X.K Y (M3.tOf f)):=by
 refine PT.of (y0 h he) fun σ H Q ⟨μ,σ3,G,S,sd,h⟩=>⟨μ,σ3,G,S,sd,bZ h fun x G1 v H1 μ1 u1 S1 d1 h1=>?_⟩
 obtain⟨k,t,q⟩:=EW S1 d1 h1
 exact⟨k,t,q H1 μ1 u1 S1⟩
theorem HE{c:Expr}(hc:PT X c (tT T X.K Y ta))(ha:PE X a (tE T X.K Y fa))(hb:PE X b (tE T X.K Y fb)):PE X (.IfExp c a b pos) (tE T X.K Y (M3.eIf ta fa fb)):=by
 refine PE.of (yT hc ha hb) fun σ H Q ⟨μ,σ3,G,S,sd,h⟩=>⟨μ,σ3,G,S,sd,vi h fun c G1 H1 μ1 u1 S1 h1=>?_⟩
 cases c with
 |true=>exact⟨μ1,σ3,G1,S1,sd.up u1,eP h1 fun _ _ z=>z.up u1⟩
 |false=>exact⟨μ1,σ3,G1,S1,sd.up u1,eP h1 fun _ _ z=>z.up u1⟩
theorem av:PA X [] (tA T X.K Y M3.au):=PA.of je fun σ H Q ⟨μ,σ3,G,S,sd,h⟩=>h [] H μ (Up.refl _ _) S rfl
theorem aj{r:M3.A3}(ha:PE X e (tE T X.K Y fa))(hr:PA X es (tA T X.K Y r))(hs:starEach (e :: es) X.env=(false,eval e X.env) :: starEach es X.env:=by rfl):PA X (e :: es) (tA T X.K Y (M3.ah fa r)):=by
 refine PA.of (eO ha hr hs) fun σ H Q ⟨μ,σ3,G,S,sd,h⟩=>⟨μ,σ3,G,S,sd,bZ h fun x G1 v H1 μ1 u1 S1 d1 h1=>⟨μ1,σ3,G1,S1,sd.up u1,oG h1 fun xs G2 vs H2 μ2 u2 S2 d2 h2=>?_⟩⟩
 exact h2 _ H2 μ2 (u1.trans u2) S2 ⟨v,vs,rfl,Den.up u2 d1,d2⟩
theorem fw{x1}(h:PA X es (tA T X.K Y f3)):PE X (.Tuple es x1 pos) (tE T X.K Y (M3.fy f3)):=by
 refine PE.of (AY h) fun σ H Q ⟨μ,σ3,G,S,sd,h⟩=>⟨μ,σ3,G,S,sd,oG h fun xs G1 vs H1 μ1 u1 S1 d1 h1=>?_⟩
 by_cases hl:xs.length<=M3.aH
 · rw[if_pos hl]at h1
   refine⟨by rw[<-d1.length,<-dO];exact hl,fun p hp=>?_⟩
   have u2:Up μ1 μ1 H1 (upd H1 p (.tup vs)):=Up.same (gK.new _ hp)
   exact h1 _ _ μ1 (u1.trans u2) (S1.same (gK.new _ hp)) ⟨p,vs,rfl,SqT.of aW,aF.up u2 d1⟩
 · rw[if_neg hl]at h1;exact False.elim h1
theorem fT(h:PA X es (tA T X.K Y f3)):PE X (.List es pos) (tE T X.K Y (M3.gc f3)):=by
 refine PE.of (Ek h) fun σ H Q ⟨μ,σ3,G,S,sd,h⟩=>⟨μ,σ3,G,S,sd,oG h fun xs G1 vs H1 μ1 u1 S1 d1 h1=>?_⟩
 by_cases hl:xs.length<=M3.aH
 · rw[if_pos hl]at h1
   refine⟨by rw[<-d1.length,<-dO];exact hl,fun p hp=>?_⟩
   have u2:=Up.new (μ:=μ1) (.lst vs) hp
   refine h1 _ _ (μ1++[p]) (u1.trans u2) (S1.new hp rfl ⟨vs,aW,aF.up u2 d1⟩) ⟨p,?_,rfl⟩
   rw[<-S1.len];simp
 · rw[if_neg hl]at h1;exact False.elim h1
theorem bB:PSs X [] (tS T X.K Y M3.bY):=PSs.of BU fun D σ H ⟨μ,σ3,G,S,sd,h⟩=>h σ H μ (Up.refl _ _) S sd
theorem ay{st:Stmt}{f:M3.S3}(h:PS X st (tS T X.K Y f)):PSs X [st] (tS T X.K Y f):=BL h
theorem ak{st:Stmt}{sts:List Stmt}{f g:M3.S3}(h1:PS X st (tS T X.K Y f))(h2:PSs X sts (tS T X.K Y g)):PSs X (st :: sts) (tS T X.K Y (M3.aC f g)):=by
 refine PSs.of (zo h1 h2) fun D σ H ⟨μ,σ3,G,S,sd,h⟩=>⟨μ,σ3,G,S,sd,eP (M3.bc h) fun r G1 q σ1 H1 μ1 u1 S1 sd1=>?_⟩
 obtain⟨fl,σ2⟩:=r
 cases fl with
 |next=>exact⟨μ1,σ2,G1,S1,sd1,eP (Y.upE u1 q) fun _ _ z=>z.up u1⟩
 |brk=>exact q σ1 H1 μ1 u1 S1 sd1
 |cont=>exact q σ1 H1 μ1 u1 S1 sd1
 |ret d=>exact q σ1 H1 μ1 u1 S1 sd1
theorem bW{i:Nat}{x:Str}{pos':Pos}(hN:X.N.Nodup)(hi:X.N[i]? =some x)(hx:Loc X.env.scope x)(he:PE X e (tE T X.K Y fa))(hs:swapsWith e (some (.Name x pos')) pos.line X.env=pure false:=by rfl)(hf:X.fn x=true\/X.env.scope.names.lookup x=some .local:=by first |exact .inl rfl |exact .inr rfl |assumption):
 PS X (.Assign [.Name x pos'] e pos) (tS T X.K Y (M3.cR i fa)):=by
 refine PS.of (Ed hN hi hx he hs hf) fun D σ H ⟨μ,σ3,G,S,sd,h⟩=>⟨μ,σ3,G,S,sd,bZ h fun d G1 v H1 μ1 u1 S1 d1 h1=>?_⟩
 exact h1 _ H1 μ1 u1 S1 ((sd.up u1).set i d1)
theorem bX(he:PE X e (tE T X.K Y fa))(hs:swapsWith e none pos.line X.env=pure false:=by rfl):PS X (.Expr e pos) (tS T X.K Y (M3.bM fa)):=by
 refine PS.of (BN he hs) fun D σ H ⟨μ,σ3,G,S,sd,h⟩=>⟨μ,σ3,G,S,sd,bZ h fun d G1 v H1 μ1 u1 S1 d1 h1=>?_⟩
 exact h1 _ H1 μ1 u1 S1 (sd.up u1)
theorem y_ret(he:PE X e (tE T X.K Y fa)):PS X (.Return (some e) pos) (tS T X.K Y (M3.ba fa)):=by
 refine PS.of (E5 he) fun D σ H ⟨μ,σ3,G,S,sd,h⟩=>⟨μ,σ3,G,S,sd,bZ h fun d G1 v H1 μ1 u1 S1 d1 h1=>?_⟩
 exact h1 _ H1 μ1 u1 S1 (sd.up u1) v d1
theorem cZ{c:Expr}{p q:List Stmt}{f g:M3.S3}(hc:PT X c (tT T X.K Y ta))(ha:PSs X p (tS T X.K Y f))(hb:PSs X q (tS T X.K Y g)):PS X (.If c p q pos) (tS T X.K Y (M3.sIf ta f g)):=by
 refine PS.of (Ge hc ha hb) fun D σ H ⟨μ,σ3,G,S,sd,h⟩=>⟨μ,σ3,G,S,sd,vi h fun c G1 H1 μ1 u1 S1 h1=>?_⟩
 cases c with
 |true=>exact⟨μ1,σ3,G1,S1,sd.up u1,eP h1 fun _ _ z=>z.up u1⟩
 |false=>exact⟨μ1,σ3,G1,S1,sd.up u1,eP h1 fun _ _ z=>z.up u1⟩
def GR(T:Tab)(K:PySem.W.Frag)(μ:List Addr)(H:Hp)(Q:L2.St->Hp->Prop)(σ3:M3.St)(G':M3.Hh):Prop:=∀σ' H' μ',Up μ μ' H H'->Sim T K μ' H' G'->StD K H' μ' σ3 σ'->Q σ' H'
def tG(T:Tab)(K:PySem.W.Frag)(Y:EX)(g:M3.D->M3.St->M3.M M3.St):TG:=fun v σ H Q=>∃μ σ3 G d,Sim T K μ H G/\StD K H μ σ3 σ/\Den K H μ d v/\M3.run (g d σ3) G (GR T K μ H Q) (Y.x μ H)
theorem PG.of{tg:Expr}{t u:TG}(h:PG X tg t)(f:∀v σ H Q,u v σ H Q->t v σ H Q):PG X tg u:=fun pins s σ H v w Q I r q=>h pins s σ H v w Q I r (f v σ H Q q)
theorem AN{i:Nat}{x:Str}(hN:X.N.Nodup)(hi:X.N[i]? =some x)(hx:Loc X.env.scope x)(hf:X.fn x=true\/X.env.scope.names.lookup x=some .local:=by first |exact .inl rfl |exact .inr rfl |assumption):PG X (.Name x pos) (tG T X.K Y (M3.gNm i)):=
 PG.of (sh hN hi hx hf) fun v σ H Q ⟨μ,σ3,G,d,S,sd,r,h⟩=>h _ H μ (Up.refl _ _) S (sd.set i r)
def tGs(K:PySem.W.Frag)(is:List Nat):TGs:=fun vs σ H Q=>∃μ σ3 ds σ3',StD K H μ σ3 σ/\aF K H μ ds vs/\M3.lY is ds σ3=some σ3'/\∀σ',StD K H μ σ3' σ'->Q σ' H
theorem PGs.of{ts:List Expr}{t u:TGs}(h:PGs X ts t)(f:∀v σ H Q,u v σ H Q->t v σ H Q):PGs X ts u:=fun pins s σ H v w Q I r q=>h pins s σ H v w Q I r (f v σ H Q q)
theorem CM:PGs X [] (tGs X.K []):=by
 refine PGs.of B5 fun vs σ H Q ⟨μ,σ3,ds,σ3',sd,r,e,h⟩=>?_
 cases ds with
 |nil=>
  cases e
  exact⟨r,h σ sd⟩
 |cons d t=>cases e
theorem tj{i:Nat}{is:List Nat}{x:Str}{ts:List Expr}(hN:X.N.Nodup)(hi:X.N[i]? =some x)(hx:Loc X.env.scope x)(ht:PGs X ts (tGs X.K is))(hf:X.fn x=true\/X.env.scope.names.lookup x=some .local:=by first |exact .inl rfl |exact .inr rfl |assumption)
 (hs:(assignEach (.Name x pos :: ts) X.env).map (·.2)=assign (.Name x pos) X.env :: (assignEach ts X.env).map (·.2):=by rfl):PGs X (.Name x pos :: ts) (tGs X.K (i :: is)):=by
 refine PGs.of (zW (sh hN hi hx hf) ht hs) fun vs σ H Q ⟨μ,σ3,ds,σ3',sd,r,e,h⟩=>?_
 cases ds with
 |nil=>cases e
 |cons d t=>
  obtain⟨v,rv,rfl,d1,d2⟩:=r
  exact⟨v,rv,rfl,μ,σ3.set i (some d),t,σ3',sd.set i d1,d2,e,h⟩
theorem pP:∀{is:List Nat} {ds:List M3.D} {σ σ':M3.St},M3.lY is ds σ=some σ'->ds.length=is.length
 | [],[],_,_,_=>rfl
 | [],_ :: _,_,_,h=>by cases h
 |_ :: _,[],_,_,h=>by cases h
 |i :: r,d :: t,_,_,h=>by
  have:=pP (is:=r) (ds:=t) h
  simp [this]
theorem FI{ts:List Expr}{k:Nat}{is:List Nat}(hc:X.calm=true)(h:PGs X ts (tGs X.K is))(hn:(assignEach ts X.env).length=is.length:=by rfl)(hst:(assignEach ts X.env).findIdx? (·.1)=none:=by rfl):PG X (.Tuple ts k pos) (tG T X.K Y (M3.gUn is)):=by
 refine PG.of (Dz hc h hn hst) fun v σ H Q ⟨μ,σ3,G,d,S,sd,r,h⟩=>?_
 cases d with
 |tup ds=>
  obtain⟨a,vs,rfl,sq,r⟩:=r
  unfold M3.gUn at h
  dsimp only at h
  cases q:M3.lY is ds σ3 with
  |none=>rw[q]at h;exact False.elim h
  |some σ3'=>
   rw[q]at h
   refine⟨a,vs,rfl,sq,by rw[<-r.length];exact pP q,μ,σ3,ds,σ3',sd,r,q,fun σ' sd'=>h σ' H μ (Up.refl _ _) S sd'⟩
 |_=>exact False.elim h
theorem jn{Z:Nat->M3.Hh->Prop}{c:Prop} [Decidable c]{α:Type}{m:M3.M α}{G:M3.Hh}{P:α->M3.Hh->Prop}(h:M3.run (if c then m else M3.fail) G P Z):c/\M3.run m G P Z:=by
 by_cases hc:c
 · rw[if_pos hc]at h;exact⟨hc,h⟩
 · rw[if_neg hc]at h;exact False.elim h
theorem sv:OpR X (binaryOp .Sub) (rI0 fun i j=>.int (i - j))/\Br2 T X.K Y M3.qY (rI0 fun i j=>.int (i - j)):=⟨Em,by
 intro μ H G x y v w Q S dx dy h
 cases x with
 |int i=>cases y with
  |int j=>exact⟨i,j,dx,dy,h _ H μ (Up.refl _ _) S rfl⟩
  |_=>exact False.elim h
 |_=>exact False.elim h⟩
theorem vm{i:Int}(h:M3.small i=true):-(2 ^ 64) < i/\i < 2 ^ 64:=of_decide_eq_true h
theorem BR:OpR X (binaryOp .Mult) (fun x y H Q=>∃s k,x= .str s/\y= .int k/\(0<=k/\k<=1000/\s.length<=1000)/\Q (.str (Txt.mul s k)) H):=by
 intro pins s σ H x y v u Q I rx ry h
 obtain⟨z,k,rfl,rfl,⟨h0,h1,h2⟩,q⟩:=h
 obtain⟨t,rfl⟩:=rx
 obtain⟨t',rfl⟩:=ry
 refine SB.mul ⟨?_,fun _ _=>?_,fun _ _=>?_⟩ fun t' tk=>⟨.str _,H,I.tok _,⟨_,rfl⟩,q⟩
 · rw[qa_ (by omega),qa_ (by omega)];rfl
 · rename_i hk _
   have hk':0 < k:=by omega
   have h3:(z.length:Int)*k<=1000*1000:=Int.mul_le_mul (by omega) h1 h0 (by decide)
   have:=Int.le_ediv_of_mul_le hk' (show (z.length:Int)*k<=2 ^ 63 - 1 by omega)
   omega
 · have h3:z.length*k.toNat<=1000*1000:=Nat.mul_le_mul h2 (by omega)
   have h4:sizeLine=16777216:=sizeLine_eq
   show decide (z.length*k.toNat > sizeLine)=false
   exact qa_ (by omega)
def Dd:R2:=fun x y H Q=>rI Br (fun i j=>.int (i*j)) x y H Q\/((∃s k,x= .str s/\y= .int k/\(0<=k/\k<=1000/\s.length<=1000)/\Q (.str (Txt.mul s k)) H)\/Gy x y H Q)
theorem aF.rep{K:PySem.W.Frag}{H:Hp}{μ:List Addr}{ds:List M3.D}{vs:List V}(h:aF K H μ ds vs):∀k:Nat,aF K H μ (List.replicate k ds).flatten (List.replicate k vs).flatten
 |0=>rfl
 |k+1=>by
  rw[List.replicate_succ,List.replicate_succ,List.flatten_cons,List.flatten_cons]
  exact h.append (aF.rep h k)
theorem gz:OpR X (binaryOp .Mult) Dd/\Br2 T X.K Y M3.iE Dd:=⟨Ej.or (BR.or EN),by
 intro μ H G x y v w Q S dx dy h
 cases x with
 |int i=>cases y with
  |int j=>
   obtain⟨c,h⟩:=jn (c:=(M3.small i||M3.small j)=true) h
   refine .inl ⟨i,j,dx,dy,?_,h _ H μ (Up.refl _ _) S rfl⟩
   rcases Bool.or_eq_true _ _ |>.mp c with c |c
   · exact .inl (vm c)
   · exact .inr (vm c)
  |_=>exact False.elim h
 |str s=>cases y with
  |int k=>
   obtain⟨c,h⟩:=jn (c:=0<=k/\k<=1000/\s.length<=1000) h
   exact .inr (.inl ⟨s,k,dx,dy,c,h _ H μ (Up.refl _ _) S rfl⟩)
  |_=>exact False.elim h
 |ref n=>cases y with
  |int k=>
   unfold M3.run M3.iE at h
   dsimp only at h
   cases q1:G[n]? with
   |none=>rw[q1]at h;exact False.elim h
   |some o1=>
    cases o1 with
    |lst xs=>
     rw[q1]at h
     dsimp only at h
     by_cases c:0<=k/\k<=1000000/\xs.length*k.toNat<=M3.aH
     · rw[if_pos c]at h
       obtain⟨c1,c2,c3⟩:=c
       obtain⟨p,ep,rfl⟩:=dx
       obtain⟨vs,hp,rp⟩:=S.obj n p _ ep q1
       refine .inr (.inr ⟨p,k,vs,rfl,dy,hp,by omega,by omega,by rw[<-rp.length,<-dO];exact c3,fun t ht=>?_⟩)
       have u2:=Up.new (μ:=μ) (.lst (List.replicate k.toNat vs).flatten) ht
       refine h _ _ (μ++[t]) u2 (S.new ht rfl ⟨_,aW,aF.up u2 (rp.rep k.toNat)⟩) ⟨t,?_,rfl⟩
       rw[<-S.len];simp
     · rw[if_neg c]at h;exact False.elim h
    |_=>rw[q1]at h;exact False.elim h
  |_=>exact False.elim h
 |_=>exact False.elim h⟩
theorem dH:OpR X (binaryOp .Mod) (rI (fun _ j=>0 < j) fun i j=>.int (i % j))/\Br2 T X.K Y M3.oMod (rI (fun _ j=>0 < j) fun i j=>.int (i % j)):=⟨EZ,by
 intro μ H G x y v w Q S dx dy h
 cases x with
 |int i=>cases y with
  |int j=>
   obtain⟨c,h⟩:=jn (c:=0 < j) h
   exact⟨i,j,dx,dy,c,h _ H μ (Up.refl _ _) S rfl⟩
  |_=>exact False.elim h
 |_=>exact False.elim h⟩
theorem Bu:OpR X (binaryOp .FloorDiv) (rI DD fun i j=>.int (i / j))/\Br2 T X.K Y M3.oDiv (rI DD fun i j=>.int (i / j)):=⟨CA,by
 intro μ H G x y v w Q S dx dy h
 cases x with
 |int i=>cases y with
  |int j=>
   obtain⟨c,h⟩:=jn (c:=0 < j/\j < 1073741824) h
   exact⟨i,j,dx,dy,c,h _ H μ (Up.refl _ _) S rfl⟩
  |_=>exact False.elim h
 |_=>exact False.elim h⟩
def CN(K:PySem.W.Frag):R2:=fun x y H Q=>rI0 (fun i j=>.int (i+j)) x y H Q\/(fun x y H Q=>(∃i j,x= .str i/\y= .str j/\i.length+j.length<=sizeLine/\Q (.str (i++j)) H)\/(fun x y H Q=>CQ K x y H Q\/FT x y H Q) x y H Q) x y H Q
theorem fB:OpR X (binaryOp .Add) (CN X.K)/\Br2 T X.K Y M3.jO (CN X.K):=⟨DT.or (wG.or (Cg.or Ex)),by
 intro μ H G x y v w Q S dx dy h
 cases x with
 |int i=>cases y with
  |int j=>exact .inl ⟨i,j,dx,dy,h _ H μ (Up.refl _ _) S rfl⟩
  |_=>exact False.elim h
 |str p=>cases y with
  |str q=>
   obtain⟨c,h⟩:=jn (c:=p.length+q.length<=M3.aH) h
   exact .inr (.inl ⟨p,q,dx,dy,by rw[<-dO];exact c,h _ H μ (Up.refl _ _) S rfl⟩)
  |_=>exact False.elim h
 |tup ds=>cases y with
  |tup es=>
   obtain⟨⟨c1,c2⟩,h⟩:=jn (c:=ds≠ []/\ds.length+es.length<=M3.aH) h
   obtain⟨p,vs,rfl,sp,rp⟩:=dx
   obtain⟨q,ws,rfl,sq,rq⟩:=dy
   refine .inr (.inr (.inl ⟨p,q,vs,ws,rfl,rfl,sp,sq,?_,by rw[<-rp.length,<-rq.length,<-dO];exact c2,fun z=>?_,fun z t ht=>?_⟩))
   · intro z;subst z
     cases ds with
     |nil=>exact c1 rfl
     |cons d t=>obtain⟨_,_,e,_⟩:=rp;cases e
   · subst z
     refine h _ H μ (Up.refl _ _) S ⟨p,vs,rfl,sp,?_⟩
     have:es=[]:=by
      have:=rq.length
      cases es with
      |nil=>rfl
      |cons _ _=>simp at this
     subst this
     rw[qY_];exact rp
   · have u2:Up μ μ H (upd H t (.tup (vs++ws))):=Up.same (gK.new _ ht)
     exact h _ _ μ u2 (S.same (gK.new _ ht)) ⟨t,_,rfl,SqT.of aW,aF.up u2 (rp.append rq)⟩
  |_=>exact False.elim h
 |ref i=>cases y with
  |ref j=>
   unfold M3.run M3.jO at h
   dsimp only at h
   cases q1:G[i]? with
   |none=>rw[q1]at h;exact False.elim h
   |some o1=>
    cases o1 with
    |lst xs=>
     cases q2:G[j]? with
     |none=>rw[q1,q2]at h;exact False.elim h
     |some o2=>
      cases o2 with
      |lst ys=>
       rw[q1,q2]at h
       dsimp only at h
       by_cases c:xs.length+ys.length<=M3.aH
       · rw[if_pos c]at h
         obtain⟨p,ep,rfl⟩:=dx
         obtain⟨q,eq,rfl⟩:=dy
         obtain⟨vs,hp,rp⟩:=S.obj i p _ ep q1
         obtain⟨ws,hq,rq⟩:=S.obj j q _ eq q2
         refine .inr (.inr (.inr ⟨p,q,vs,ws,rfl,rfl,hp,hq,by rw[<-rp.length,<-rq.length,<-dO];exact c,fun t ht=>?_⟩))
         have u2:=Up.new (μ:=μ) (.lst (vs++ws)) ht
         refine h _ _ (μ++[t]) u2 (S.new ht rfl ⟨_,aW,aF.up u2 (rp.append rq)⟩) ⟨t,?_,rfl⟩
         rw[<-S.len];simp
       · rw[if_neg c]at h;exact False.elim h
      |_=>rw[q1,q2]at h;exact False.elim h
    |_=>rw[q1]at h;exact False.elim h
  |_=>exact False.elim h
 |_=>exact False.elim h⟩
theorem D8:OpR X (compareOp .GtE) (rI0 fun i j=>.bl (decide (j<=i)))/\Br2 T X.K Y M3.oGe (rI0 fun i j=>.bl (decide (j<=i))):=⟨GB,by
 intro μ H G x y v w Q S dx dy h
 cases x with
 |int i=>cases y with
  |int j=>exact⟨i,j,dx,dy,h _ H μ (Up.refl _ _) S rfl⟩
  |_=>exact False.elim h
 |_=>exact False.elim h⟩
theorem gp:∀{ds:List M3.D} {ns:List Int},M3.intsOf ds=some ns->ds=ns.map M3.D.int
 | [],_,h=>by cases h;rfl
 |d :: r,ns,h=>by
  cases d with
  |int i=>
   have h:(M3.intsOf r).map (i :: ·)=some ns:=h
   cases q:M3.intsOf r with
   |none=>rw[q]at h;cases h
   |some m=>
    rw[q]at h
    cases h
    rw[gp q];rfl
  |_=>cases h
theorem tV:∀(a b:List Int),M3.tY a b=HT.lexLt a b
 | [],[]=>rfl
 | [],_ :: _=>rfl
 |_ :: _,[]=>rfl
 |a :: r,b :: t=>by
  show (if a=b then M3.tY r t else decide (a < b))=if a=b then HT.lexLt r t else decide (a < b)
  rw[tV r t]
def Bf(K:PySem.W.Frag):R2:=fun x y H Q=>rI0 (fun i j=>.bl (decide (i < j))) x y H Q\/GK K x y H Q
theorem Fu(hu:X.A.units < cLine):OpR X (compareOp .Lt) (Bf X.K)/\Br2 T X.K Y M3.oLt (Bf X.K):=⟨FL.or (E0 hu),by
 intro μ H G x y v w Q S dx dy h
 cases x with
 |int i=>cases y with
  |int j=>exact .inl ⟨i,j,dx,dy,h _ H μ (Up.refl _ _) S rfl⟩
  |_=>exact False.elim h
 |tup ds=>cases y with
  |tup es=>
   unfold M3.oLt at h
   dsimp only at h
   cases q1:M3.intsOf ds with
   |none=>rw[q1]at h;exact False.elim h
   |some m=>
    cases q2:M3.intsOf es with
    |none=>rw[q1,q2]at h;exact False.elim h
    |some n=>
     rw[q1,q2]at h
     rw[gp q1]at dx
     rw[gp q2]at dy
     obtain⟨p,vs,rfl,sp,rp⟩:=dx
     obtain⟨q,ws,rfl,sq,rq⟩:=dy
     rw[aF.ints rp]at sp
     rw[aF.ints rq]at sq
     refine .inr ⟨p,q,m,n,rfl,rfl,sp,sq,?_⟩
     rw[<-tV]
     exact h _ H μ (Up.refl _ _) S rfl
  |_=>exact False.elim h
 |_=>exact False.elim h⟩
end
open PySem PySem.Spec PyProof.Rows L2 PySem.SeqAt
section
variable{X:Cx}{T:Tab}{Y:EX}{pins:List (Addr×Obj)}{σ:L2.St}{H:Hp}{s:Shared}{μ:List Addr}{G:M3.Hh}
theorem mZ{f:M3.D->M3.D->Option Bool}:∀{xs ys:List M3.D} {b:Bool},M3.eqZ f xs ys=some b->∃e:Nat->Bool,(∀(j:Nat) x y,xs[j]? =some x->ys[j]? =some y->f x y=some (e j))/\b=(List.range (min xs.length ys.length)).all e
 | [],ys,b,h=>⟨fun _=>true,(fun j x y h=>by simp at h),by cases ys <;> (cases h;simp)⟩
 |x :: xs,[],b,h=>⟨fun _=>true,(fun j x y _ h=>by simp at h),by cases h;simp⟩
 |x :: xs,y :: ys,b,h=>by
  unfold M3.eqZ at h
  cases q:f x y with
  |none=>rw[q]at h;cases h
  |some p=>
   cases q2:M3.eqZ f xs ys with
   |none=>rw[q,q2]at h;cases h
   |some r=>
    rw[q,q2]at h
    cases h
    obtain⟨e,h1,h2⟩:=mZ q2
    refine⟨fun j=>match j with
     |0=>p
     |j+1=>e j,fun j a b e1 e2=>?_,?_⟩
    · cases j with
      |zero=>
       simp at e1 e2
       subst e1 e2
       exact q
      |succ j=>exact h1 j a b (by simpa using e1) (by simpa using e2)
    · rw[h2]
      simp only[List.length_cons,Nat.succ_min_succ,List.range_succ_eq_map,List.all_cons,List.all_map]
      rfl
theorem xH(I:Inv X pins σ H s){a:Addr}{vs ws:List V}(h1:SqL X.K H a vs)(h2:SqT X.K H a ws):False:=by
 obtain⟨its,_,⟨o,n,e,c,_⟩,_⟩:=I.list h1
 obtain⟨its2,_,⟨o2,e2,c2,_⟩,_⟩:=I.tuple h2
 rw[e]at e2
 cases e2
 rw[c]at c2
 injection c2 with c3
 exact absurd c3 (by decide)
theorem eZ(S:Sim T X.K μ H G){n:Nat}{a:Addr}{xs:List M3.D}(e:μ[n]? =some a)(h:M3.listOf G n=some xs):∃vs,SqL X.K H a vs/\aF X.K H μ xs vs:=by
 unfold M3.listOf at h
 cases q:G[n]? with
 |none=>rw[q]at h;cases h
 |some o=>
  rw[q]at h
  have ob:=S.obj n a o e q
  cases o with
  |lst ys=>cases h;obtain⟨vs,e1,r⟩:=ob;exact⟨vs,SqL.of e1,r⟩
  |frz ys=>cases h;obtain⟨vs,e1,r⟩:=ob;exact⟨vs,e1.sq,r⟩
  |_=>cases h
def sc:V->Option M3.D
 | .non=>some .non
 | .bl b=>some (.bl b)
 | .int i=>some (.int i)
 | .str x=>some (.str x)
 |_=>none
theorem j7{K:PySem.W.Frag}{x d:M3.D}{v:V}(h:Den K H μ x v)(e:sc v=some d):x=d:=by
 cases x with
 |non=>cases (show v= .non from h);cases e;rfl
 |bl b=>cases (show v= .bl b from h);cases e;rfl
 |int i=>cases (show v= .int i from h);cases e;rfl
 |str z=>cases (show v= .str z from h);cases e;rfl
 |ref n=>obtain⟨a,_,rfl⟩:=h;cases e
 |tup ds=>obtain⟨a,vs,rfl,_⟩:=h;cases e
theorem gi{K:PySem.W.Frag}{x:M3.D}{v:V}(h:Den K H μ x v)(e:sc v=none):(∃n a,x= .ref n/\v= .ref a/\μ[n]? =some a)\/∃ds a vs,x= .tup ds/\v= .ref a/\SqT K H a vs/\aF K H μ ds vs:=by
 cases x with
 |non=>cases (show v= .non from h);cases e
 |bl b=>cases (show v= .bl b from h);cases e
 |int i=>cases (show v= .int i from h);cases e
 |str z=>cases (show v= .str z from h);cases e
 |ref n=>obtain⟨a,e1,rfl⟩:=h;exact .inl ⟨n,a,rfl,rfl,e1⟩
 |tup ds=>obtain⟨a,vs,rfl,h1,h2⟩:=h;exact .inr ⟨ds,a,vs,rfl,rfl,h1,h2⟩
theorem CP{k:Nat}{v w:V}{d y:M3.D}{b:Bool}(dy:Den X.K H μ y w)(hv:sc v=some d)(hw:sc w=none)(h:M3.eqG G k d y=some b):b=false:=by
 cases k with
 |zero=>cases h
 |succ k=>
  rcases gi dy hw with ⟨n,a,rfl,rfl,_⟩ |⟨ds,a,vs,rfl,rfl,_⟩ <;> cases v <;> (try cases hv) <;> (try cases h) <;> rfl
theorem C8{k:Nat}{v w:V}{d y:M3.D}{b:Bool}(dy:Den X.K H μ y w)(hv:sc v=some d)(hw:sc w=none)(h:M3.eqG G k y d=some b):b=false:=by
 cases k with
 |zero=>cases h
 |succ k=>
  rcases gi dy hw with ⟨n,a,rfl,rfl,_⟩ |⟨ds,a,vs,rfl,rfl,_⟩ <;> cases v <;> (try cases hv) <;> (try cases h) <;> rfl
theorem ko{k n m:Nat}{b:Bool}(h:M3.eqG G (k+1) (.ref n) (.ref m)=some b):∃xs ys,M3.listOf G n=some xs/\M3.listOf G m=some ys/\(if xs.length=ys.length then M3.eqZ (M3.eqG G k) xs ys else some false)=some b:=by
 have h:(match M3.listOf G n,M3.listOf G m with
  |some a,some b=>if a.length=b.length then M3.eqZ (M3.eqG G k) a b else some false
  |_,_=>none)=some b:=h
 cases q1:M3.listOf G n with
 |none=>rw[q1]at h;cases h
 |some xs=>
  cases q2:M3.listOf G m with
  |none=>rw[q1,q2]at h;cases h
  |some ys=>rw[q1,q2]at h;exact⟨xs,ys,rfl,rfl,h⟩
theorem mT{k:Nat}{ds es:List M3.D}{b:Bool}(h:M3.eqG G (k+1) (.tup ds) (.tup es)=some b):∃p,M3.eqZ (M3.eqG G k) ds es=some p/\b=(p&&decide (ds.length=es.length)):=by
 have h:(M3.eqZ (M3.eqG G k) ds es).map (·&&decide (ds.length=es.length))=some b:=h
 cases q:M3.eqZ (M3.eqG G k) ds es with
 |none=>rw[q]at h;cases h
 |some p=>rw[q]at h;cases h;exact⟨p,rfl,rfl⟩
theorem A0(I:Inv X pins σ H s)(S:Sim T X.K μ H G):∀(k:Nat) {x y x' y':M3.D} {v w:V} {b b':Bool},Den X.K H μ x v->Den X.K H μ x' v->Den X.K H μ y w->Den X.K H μ y' w->
 M3.eqG G k x y=some b->M3.eqG G k x' y'=some b'->b=b'
 |0,_,_,_,_,_,_,_,_,_,_,_,_,h,_=>by cases h
 |k+1,x,y,x',y',v,w,b,b',dx,dx',dy,dy',h,h'=>by
  have items:∀{xs xs' ys ys':List M3.D} {vs ws:List V} {p q:Bool},aF X.K H μ xs vs->aF X.K H μ xs' vs->aF X.K H μ ys ws->aF X.K H μ ys' ws->M3.eqZ (M3.eqG G k) xs ys=some p->M3.eqZ (M3.eqG G k) xs' ys'=some q->p=q:=by
   intro xs xs' ys ys' vs ws p q r1 r2 r3 r4 e1 e2
   obtain⟨f,hf,rfl⟩:=mZ e1
   obtain⟨g,hg,rfl⟩:=mZ e2
   have l1:=r1.length
   have l2:=r2.length
   have l3:=r3.length
   have l4:=r4.length
   rw[show min xs'.length ys'.length=min xs.length ys.length by omega]
   have key:∀j∈List.range (min xs.length ys.length),f j=g j:=by
    intro j hj
    have hj:=List.mem_range.mp hj
    have j1:j < xs.length:=by omega
    have j2:j < ys.length:=by omega
    have j3:j < xs'.length:=by omega
    have j4:j < ys'.length:=by omega
    obtain⟨v1,a1,d1⟩:=r1.get (qA_ j1)
    obtain⟨v2,a2,d2⟩:=r2.get (qA_ j3)
    obtain⟨v3,a3,d3⟩:=r3.get (qA_ j2)
    obtain⟨v4,a4,d4⟩:=r4.get (qA_ j4)
    rw[a1]at a2;cases a2
    rw[a3]at a4;cases a4
    exact A0 I S k d1 d2 d3 d4 (hf j _ _ (qA_ j1) (qA_ j2)) (hg j _ _ (qA_ j3) (qA_ j4))
   generalize List.range (min xs.length ys.length)=L at key
   induction L with
   |nil=>rfl
   |cons j r ih=>rw[List.all_cons,List.all_cons,key j qI_,ih fun i hi=>key i (qR_ _ hi)]
  cases hv:sc v with
  |some d1=>
   have e1:=j7 dx hv
   have e2:=j7 dx' hv
   cases hw:sc w with
   |some d2=>
    have e3:=j7 dy hw
    have e4:=j7 dy' hw
    subst e1 e2 e3 e4
    rw[h]at h'
    cases h'
    rfl
   |none=>
    subst e1 e2
    rw[CP dy hv hw h,CP dy' hv hw h']
  |none=>
   cases hw:sc w with
   |some d2=>
    have e3:=j7 dy hw
    have e4:=j7 dy' hw
    subst e3 e4
    rw[C8 dx hw hv h,C8 dx' hw hv h']
   |none=>
    rcases gi dx hv with ⟨n,a,rfl,rfl,en⟩ |⟨ds,a,vs,rfl,rfl,sq,r⟩
    · rcases gi dy hw with ⟨m,c,rfl,rfl,em⟩ |⟨es,c,ws,rfl,rfl,sq2,r2⟩
      · obtain⟨xs,ys,l1,l2,h⟩:=ko h
        obtain⟨vs1,q1,r1⟩:=eZ S en l1
        obtain⟨vs2,q2,r2⟩:=eZ S em l2
        rcases gi dx' hv with ⟨n',a',rfl,ea,en'⟩ |⟨ds',a',vs',rfl,ea,sq',r'⟩
        · cases ea
          rcases gi dy' hw with ⟨m',c',rfl,ec,em'⟩ |⟨es',c',ws',rfl,ec,sq2',r2'⟩
          · cases ec
            obtain⟨xs',ys',l1',l2',h'⟩:=ko h'
            obtain⟨vs1',q1',r1'⟩:=eZ S en' l1'
            obtain⟨vs2',q2',r2'⟩:=eZ S em' l2'
            cases I.kz q1 q1'
            cases I.kz q2 q2'
            have z1:=r1.length
            have z2:=r1'.length
            have z3:=r2.length
            have z4:=r2'.length
            by_cases c:xs.length=ys.length
            · rw[if_pos c]at h
              rw[if_pos (by omega)]at h'
              exact items r1 r1' r2 r2' h h'
            · rw[if_neg c]at h
              rw[if_neg (by omega)]at h'
              cases h;cases h';rfl
          · cases h'
        · cases ea
          exact(xH I q1 sq').elim
      · cases h
    · rcases gi dy hw with ⟨m,c,rfl,rfl,em⟩ |⟨es,c,ws,rfl,rfl,sq2,r2⟩
      · cases h
      · obtain⟨p,hz,rfl⟩:=mT h
        rcases gi dx' hv with ⟨n',a',rfl,ea,en'⟩ |⟨ds',a',vs',rfl,ea,sq',r'⟩
        · cases ea
          rcases gi dy' hw with ⟨m',c',rfl,ec,em'⟩ |⟨es',c',ws',rfl,ec,sq2',r2'⟩
          · obtain⟨xs',ys',l1',l2',h'⟩:=ko h'
            obtain⟨vs1',q1',r1'⟩:=eZ S en' l1'
            exact(xH I q1' sq).elim
          · cases h'
        · cases ea
          rcases gi dy' hw with ⟨m',c',rfl,ec,em'⟩ |⟨es',c',ws',rfl,ec,sq2',r2'⟩
          · cases h'
          · cases ec
            obtain⟨p',hz',rfl⟩:=mT h'
            cases I.kP sq sq'
            cases I.kP sq2 sq2'
            have z1:=r.length
            have z2:=r'.length
            have z3:=r2.length
            have z4:=r2'.length
            rw[items r r' r2 r2' hz hz',z1,z2,z3,z4]
theorem uf(I:Inv X pins σ H s)(S:Sim T X.K μ H G):∀(k:Nat) {x y:M3.D} {v:V} {b:Bool},Den X.K H μ x v->Den X.K H μ y v->M3.eqG G k x y=some b->b=true
 |0,_,_,_,_,_,_,h=>by cases h
 |k+1,x,y,v,b,dx,dy,h=>by
  have items:∀{xs ys:List M3.D} {vs:List V} {p:Bool},aF X.K H μ xs vs->aF X.K H μ ys vs->M3.eqZ (M3.eqG G k) xs ys=some p->p=true:=by
   intro xs ys vs p r1 r2 e1
   obtain⟨f,hf,rfl⟩:=mZ e1
   rw[List.all_eq_true]
   intro j hj
   have hj:=List.mem_range.mp hj
   have j1:j < xs.length:=by omega
   have j2:j < ys.length:=by omega
   obtain⟨v1,a1,d1⟩:=r1.get (qA_ j1)
   obtain⟨v2,a2,d2⟩:=r2.get (qA_ j2)
   rw[a1]at a2;cases a2
   exact uf I S k d1 d2 (hf j _ _ (qA_ j1) (qA_ j2))
  cases hv:sc v with
  |some d=>
   have e1:=j7 dx hv
   have e2:=j7 dy hv
   subst e1 e2
   cases v with
   |non=>cases hv;cases h;rfl
   |bl c=>cases hv;cases h;simp
   |int c=>cases hv;cases h;simp
   |str c=>cases hv;cases h;simp
   |_=>cases hv
  |none=>
   rcases gi dx hv with ⟨n,a,rfl,rfl,en⟩ |⟨ds,a,vs,rfl,rfl,sq,r⟩
   · rcases gi dy hv with ⟨m,c,rfl,ec,em⟩ |⟨es,c,ws,rfl,ec,sq2,r2⟩
     · cases ec
       obtain⟨xs,ys,l1,l2,h⟩:=ko h
       obtain⟨vs1,q1,r1⟩:=eZ S en l1
       obtain⟨vs2,q2,r2⟩:=eZ S em l2
       cases I.kz q1 q2
       rw[if_pos (r1.length.trans r2.length.symm)]at h
       exact items r1 r2 h
     · cases h
   · rcases gi dy hv with ⟨m,c,rfl,ec,em⟩ |⟨es,c,ws,rfl,ec,sq2,r2⟩
     · cases h
     · cases ec
       obtain⟨p,hz,rfl⟩:=mT h
       cases I.kP sq sq2
       rw[items r r2 hz,qZ_ (r.length.trans r2.length.symm)]
       rfl
theorem xo{K:PySem.W.Frag}{ds:List M3.D}{vs:List V}{its:List Value}(r:aF K H μ ds vs)(q:Vals vs its){j:Nat}(h:j < its.toArray.size):∃d v,ds[j]? =some d/\Den K H μ d v/\RelV v its.toArray[j]:=by
 have hl:j < its.length:=by simpa using h
 have h2:j < vs.length:=by rw[q.length];exact hl
 obtain⟨u,e,rv⟩:=q.get (qA_ h2)
 obtain⟨d,e1,r1⟩:=r.get' (qA_ h2)
 refine⟨d,_,e1,r1,?_⟩
 rw[qA_ hl]at e
 cases e
 simpa using rv
theorem w5(I:Inv X pins σ H s)(S:Sim T X.K μ H G):∀(k:Nat) {x y:M3.D} {v w:V} {u u':Value} {b:Bool} {A:Around},A.units+k < cLine->Den X.K H μ x v->Den X.K H μ y w->RelV v u->RelV w u'->M3.eqG G k x y=some b->
 EqAt A s u u' b/\RcAt A s u u' b/\RcNeAt A s u u' (!b)
 |0,_,_,_,_,_,_,_,_,_,_,_,_,_,h=>by cases h
 |k+1,x,y,v,w,u,u',b,A,hu,dx,dy,ru,ru',h=>by
  have hu0:A.units < cLine:=by omega
  have hu1:A.in1.units+k < cLine:=by show A.units+1+k < cLine;omega
  have items:∀{xs ys:List M3.D} {vs ws:List V} {is js:List Value} {p:Bool},aF X.K H μ xs vs->aF X.K H μ ys ws->Vals vs is->Vals ws js->M3.eqZ (M3.eqG G k) xs ys=some p->
   ∃e:Nat->Bool,(∀j (h1:j < is.toArray.size) (h2:j < js.toArray.size),EqAt A.in1 s is.toArray[j] js.toArray[j] (e j))/\p=(List.range (min is.toArray.size js.toArray.size)).all e:=by
   intro xs ys vs ws is js p r1 r2 q1 q2 hz
   obtain⟨e,he,rfl⟩:=mZ hz
   refine⟨e,fun j h1 h2=>?_,?_⟩
   · obtain⟨d1,v1,a1,b1,c1⟩:=xo r1 q1 h1
     obtain⟨d2,v2,a2,b2,c2⟩:=xo r2 q2 h2
     exact(w5 I S k hu1 b1 b2 c1 c2 (he j _ _ a1 a2)).1
   · have l1:=r1.length
     have l2:=r2.length
     have l3:=q1.length
     have l4:=q2.length
     rw[show min is.toArray.size js.toArray.size=min xs.length ys.length by simp;omega]
  cases x with
  |non=>
   cases (show v= .non from dx)
   cases (show u=Value.none from ru)
   cases y with
   |non=>cases (show w= .non from dy);cases (show u'=Value.none from ru');cases h;exact⟨.same _,.none_none,.none_none⟩
   |int j=>cases (show w= .int j from dy);obtain⟨t,rfl⟩:=(show ∃t,u'=Value.int j t from ru');cases h;exact⟨.none_int _ _,.none_int _ _,.none_int _ _⟩
   |str j=>cases (show w= .str j from dy);obtain⟨t,rfl⟩:=(show ∃t,u'=Value.str j t from ru');cases h;exact⟨.none_str _ _,.none_str _ _,.none_str _ _⟩
   |tup es=>obtain⟨a,vs,rfl,sq,r⟩:=dy;cases (show u'=Value.ref a from ru');cases h;obtain⟨its,_,p,_⟩:=I.tuple sq;exact⟨.none_tuple p hu0,.none_tuple p hu0,.none_tuple p hu0⟩
   |bl j=>cases h
   |ref j=>cases h
  |bl i=>
   cases (show v= .bl i from dx)
   cases (show u=Value.bool i from ru)
   cases y with
   |bl j=>cases (show w= .bl j from dy);cases (show u'=Value.bool j from ru');cases h;exact⟨.bool_bool _ _,.bool_bool _ _,.bool_bool _ _⟩
   |_=>cases h
  |int i=>
   cases (show v= .int i from dx)
   obtain⟨t,rfl⟩:=(show ∃t,u=Value.int i t from ru)
   cases y with
   |non=>cases (show w= .non from dy);cases (show u'=Value.none from ru');cases h;exact⟨.int_none _ _,.int_none _ _,.int_none _ _⟩
   |int j=>
    cases (show w= .int j from dy);obtain⟨t',rfl⟩:=(show ∃t,u'=Value.int j t from ru');cases h
    rw[<-Bool.beq_eq_decide_eq]
    exact⟨.int_int _ _ _ _,.int_int _ _ _ _,.int_int _ _ _ _⟩
   |str j=>cases (show w= .str j from dy);obtain⟨t',rfl⟩:=(show ∃t,u'=Value.str j t from ru');cases h;exact⟨.int_str _ _ _ _,.int_str _ _ _ _,.int_str _ _ _ _⟩
   |tup es=>obtain⟨a,vs,rfl,sq,r⟩:=dy;cases (show u'=Value.ref a from ru');cases h;obtain⟨its,_,p,_⟩:=I.tuple sq;exact⟨.int_tuple _ _ p hu0,.int_tuple _ _ p hu0,.int_tuple _ _ p hu0⟩
   |bl j=>cases h
   |ref j=>cases h
  |str i=>
   cases (show v= .str i from dx)
   obtain⟨t,rfl⟩:=(show ∃t,u=Value.str i t from ru)
   cases y with
   |non=>cases (show w= .non from dy);cases (show u'=Value.none from ru');cases h;exact⟨.str_none _ _,.str_none _ _,.str_none _ _⟩
   |str j=>
    cases (show w= .str j from dy);obtain⟨t',rfl⟩:=(show ∃t,u'=Value.str j t from ru');cases h
    rw[show decide (i=j)=(i==j)from rfl]
    exact⟨.str_str _ _ _ _,.str_str _ _ _ _,.str_str _ _ _ _⟩
   |int j=>cases (show w= .int j from dy);obtain⟨t',rfl⟩:=(show ∃t,u'=Value.int j t from ru');cases h;exact⟨.str_int _ _ _ _,.str_int _ _ _ _,.str_int _ _ _ _⟩
   |tup es=>cases h
   |bl j=>cases h
   |ref j=>cases h
  |tup ds=>
   obtain⟨a,vs,rfl,sq,r⟩:=dx
   cases (show u=Value.ref a from ru)
   obtain⟨is,q1,p1,_⟩:=I.tuple sq
   cases y with
   |non=>cases (show w= .non from dy);cases (show u'=Value.none from ru');cases h;exact⟨.tuple_none p1 hu0,.tuple_none p1 hu0,.tuple_none p1 hu0⟩
   |int j=>cases (show w= .int j from dy);obtain⟨t,rfl⟩:=(show ∃t,u'=Value.int j t from ru');cases h;exact⟨.tuple_int _ _ p1 hu0,.tuple_int _ _ p1 hu0,.tuple_int _ _ p1 hu0⟩
   |tup es=>
    obtain⟨c,ws,rfl,sq2,r2⟩:=dy
    cases (show u'=Value.ref c from ru')
    obtain⟨js,q2,p2,_⟩:=I.tuple sq2
    obtain⟨p,hz,hb⟩:=mT h
    obtain⟨e,he,hp⟩:=items r r2 q1 q2 hz
    have l1:=r.length
    have l2:=r2.length
    have l3:=q1.length
    have l4:=q2.length
    have hb':b=((List.range (min is.toArray.size js.toArray.size)).all e&&is.toArray.size==js.toArray.size):=by
     rw[hb,hp]
     congr 1
     rw[Bool.beq_eq_decide_eq]
     exact decide_eq_decide.mpr (by simp;omega)
    have rc:RcAt A s (.ref a) (.ref c) b:=by rw[hb'];exact .tuples p1 p2 hu0 he
    have rn:RcNeAt A s (.ref a) (.ref c) (!b):=by rw[hb'];exact .tuples p1 p2 hu0 he
    refine⟨?_,rc,rn⟩
    by_cases hac:a=c
    · subst hac
      have d2:Den X.K H μ (.tup ds) (.ref a):=⟨a,vs,rfl,sq,r⟩
      have d3:Den X.K H μ (.tup es) (.ref a):=⟨a,ws,rfl,sq2,r2⟩
      rw[uf I S (k+1) d2 d3 h]
      exact .same _
    · exact .of_refs hac rc
   |_=>cases h
  |ref n=>
   cases y with
   |ref m=>
    obtain⟨xs,ys,l1,l2,hz⟩:=ko h
    obtain⟨a,ea,rfl⟩:=id dx
    obtain⟨c,ec,rfl⟩:=id dy
    cases (show u=Value.ref a from ru)
    cases (show u'=Value.ref c from ru')
    obtain⟨vs,sq,r⟩:=eZ S ea l1
    obtain⟨ws,sq2,r2⟩:=eZ S ec l2
    obtain⟨is,q1,p1,_⟩:=I.list sq
    obtain⟨js,q2,p2,_⟩:=I.list sq2
    have z1:=r.length
    have z2:=r2.length
    have z3:=q1.length
    have z4:=q2.length
    have two:RcAt A s (.ref a) (.ref c) b/\RcNeAt A s (.ref a) (.ref c) (!b):=by
     by_cases hl:xs.length=ys.length
     · rw[if_pos hl]at hz
       obtain⟨e,he,hp⟩:=items r r2 q1 q2 hz
       have hsz:is.toArray.size=js.toArray.size:=by simp;omega
       rw[show min is.toArray.size js.toArray.size=is.toArray.size by omega]at hp
       rw[hp]
       exact⟨.lists p1.isList p2.isList hsz hu0 he,.lists p1.isList p2.isList hsz hu0 he⟩
     · rw[if_neg hl]at hz
       cases hz
       have hsz:(is.toArray.size !=js.toArray.size)=true:=by simp;omega
       exact⟨.lists_lengths p1.isList p2.isList hsz hu0,.lists_lengths p1.isList p2.isList hsz hu0⟩
    refine⟨?_,two.1,two.2⟩
    by_cases hac:a=c
    · subst hac
      rw[uf I S (k+1) dx dy h]
      exact .same _
    · exact .of_refs hac two.1
   |_=>cases h
end
section
variable{X:Cx}{T:Tab}{Y:EX}
def qN(T:Tab)(K:PySem.W.Frag)(neg:Bool):R2:=fun v w H Q=>∃μ G x y b,Sim T K μ H G/\Den K H μ x v/\Den K H μ y w/\M3.eqG G 8 x y=some b/\Q (.bl (if neg then !b else b)) H
theorem EJ(hu:X.A.units+8 < cLine):OpR X (compareOp .Eq) (qN T X.K false):=by
 intro pins s σ H v w u u' Q I r r' h
 obtain⟨μ,G,x,y,b,S,dx,dy,e,q⟩:=h
 exact(w5 I S 8 hu dx dy r r' e).2.1 _ _ _ _ ⟨.bl b,H,I,rfl,q⟩
theorem E4(hu:X.A.units+8 < cLine):OpR X (compareOp .NotEq) (qN T X.K true):=by
 intro pins s σ H v w u u' Q I r r' h
 obtain⟨μ,G,x,y,b,S,dx,dy,e,q⟩:=h
 exact(w5 I S 8 hu dx dy r r' e).2.2 _ _ _ _ ⟨.bl (!b),H,I,rfl,q⟩
theorem Ez(hu:X.A.units+8 < cLine):OpR X (compareOp .Eq) (qN T X.K false)/\Br2 T X.K Y M3.oEq (qN T X.K false):=⟨EJ hu,by
 intro μ H G x y v w Q S dx dy h
 unfold M3.run M3.oEq at h
 cases q:M3.eqG G 8 x y with
 |none=>rw[q]at h;exact False.elim h
 |some b=>
  rw[q]at h
  exact⟨μ,G,x,y,b,S,dx,dy,q,h _ H μ (Up.refl _ _) S rfl⟩⟩
theorem DM(hu:X.A.units+8 < cLine):OpR X (compareOp .NotEq) (qN T X.K true)/\Br2 T X.K Y M3.oNe (qN T X.K true):=⟨E4 hu,by
 intro μ H G x y v w Q S dx dy h
 unfold M3.run M3.oNe at h
 cases q:M3.eqG G 8 x y with
 |none=>rw[q]at h;exact False.elim h
 |some b=>
  rw[q]at h
  exact⟨μ,G,x,y,b,S,dx,dy,q,h _ H μ (Up.refl _ _) S rfl⟩⟩
end
section
variable{X:Cx}{T:Tab}{Y:EX}{pins:List (Addr×Obj)}{σ:L2.St}{H:Hp}{s:Shared}{μ:List Addr}{G:M3.Hh}
open Classical in
noncomputable def eU(K:PySem.W.Frag)(H:Hp)(μ:List Addr)(G:M3.Hh)(x:M3.D)(u:Value):Bool:=
 if h:∃b d v,Den K H μ d v/\RelV v u/\M3.eqG G 8 d x=some b then h.choose else false
theorem GU(I:Inv X pins σ H s)(S:Sim T X.K μ H G){x d:M3.D}{v w:V}{u:Value}{b:Bool}(dx:Den X.K H μ x w)(dd:Den X.K H μ d v)(r:RelV v u)(e:M3.eqG G 8 d x=some b):eU X.K H μ G x u=b:=by
 have h:∃b d v,Den X.K H μ d v/\RelV v u/\M3.eqG G 8 d x=some b:=⟨b,d,v,dd,r,e⟩
 unfold eU
 rw[dif_pos h]
 obtain⟨d',v',dd',r',e'⟩:=h.choose_spec
 have hv:v'=v:=r'.inj r
 subst hv
 exact A0 I S 8 dd' dd dx dx e' e
theorem zC(I:Inv X pins σ H s)(S:Sim T X.K μ H G){A:Around}(hu:A.units+8 < cLine){x:M3.D}{w:V}{u':Value}(dx:Den X.K H μ x w)(rx:RelV w u'):
 ∀{ys:List M3.D} {vs:List V} {its:List Value} {b:Bool},aF X.K H μ ys vs->Vals vs its->M3.qy G x ys=some b->(∀u∈its,EqAt A s u u' (eU X.K H μ G x u))/\its.any (eU X.K H μ G x)=b
 | [],_,_,_,r,q,h=>by
   cases (show _=[]from r)
   cases q
   cases h
   exact⟨fun u z=>(by cases z),rfl⟩
 |y :: ys,_,its,b,⟨v,vs,e,d,r⟩,q,h=>by
  subst e
  cases q with
  |@cons _ u _ us rv q=>
   unfold M3.qy at h
   cases e1:M3.eqG G 8 y x with
   |none=>rw[e1]at h;cases h
   |some p=>
    cases e2:M3.qy G x ys with
    |none=>rw[e1,e2]at h;cases h
    |some p2=>
     rw[e1,e2]at h
     cases h
     obtain⟨h1,h2⟩:=zC I S hu dx rx r q e2
     have eu:=GU I S dx d rv e1
     refine⟨fun u' hu'=>?_,?_⟩
     · rcases qS_.mp hu' with rfl |z
       · rw[eu];exact(w5 I S 8 hu d dx rv rx e1).1
       · exact h1 u' z
     · rw[List.any_cons,eu,h2]
theorem ud{κ:Type} [DecidableEq κ]{K:PySem.W.Frag}:∀{kvs:List (κ×M3.D)} {ws:List (κ×V)} (k:κ),Paired (fun(p:κ×M3.D) (q:κ×V)=>p.1=q.1/\Den K H μ p.2 q.2) kvs ws->
 (M3.look kvs k=none/\jS ws k=none)\/∃d v,M3.look kvs k=some d/\jS ws k=some v/\Den K H μ d v
 |_,_,k,.nil=>.inl ⟨rfl,rfl⟩
 |(k1,d) :: kvs,(k2,v) :: ws,k,.cons ⟨h1,h2⟩ t=>by
  cases (show k1=k2 from h1)
  by_cases h:k1=k
  · subst h
    exact .inr ⟨d,v,by simp [M3.look],by simp [jS],h2⟩
  · have e1:M3.look ((k1,d) :: kvs) k=M3.look kvs k:=by simp [M3.look,h]
    have e2:jS ((k1,v) :: ws) k=jS ws k:=by simp [jS,h]
    rw[e1,e2]
    exact ud k t
theorem uc{x:M3.D}{k:M3.Key}{K:PySem.W.Frag}{v:V}(h:M3.qg x=some k)(d:Den K H μ x v):v=kV k:=by
 cases x with
 |int i=>cases h;exact d
 |str z=>cases h;exact d
 |_=>cases h
end
section
variable{X:Cx}{T:Tab}{Y:EX}
def sy(T:Tab)(K:PySem.W.Frag)(neg:Bool):R2:=fun v w H Q=>∃μ G x y b,Sim T K μ H G/\Den K H μ x v/\Den K H μ y w/\M3.inG G x y=some b/\Q (.bl (if neg then !b else b)) H
theorem w9(hu:X.A.units+9 < cLine)(neg:Bool){pins:List (Addr×Obj)}{s:Shared}{σ:L2.St}{H:Hp}{v w:V}{u u':Value}{Q:VK}(I:Inv X pins σ H s)(r:RelV v u)(r':RelV w u')(h:sy T X.K neg v w H Q):
 wpAny (model X.prog X.w) X.A (compareOp (if neg then .NotIn else .In) u u') (EP X pins σ Q) X.xe s:=by
 obtain⟨μ,G,x,y,b,S,dx,dy,e,q⟩:=h
 have hu1:X.A.in1.units+8 < cLine:=by show X.A.units+1+8 < cLine;omega
 have lists:∀{a:Addr} {vs:List V} {ys:List M3.D},SqL X.K H a vs->aF X.K H μ ys vs->M3.qy G x ys=some b->u'= .ref a->wpAny (model X.prog X.w) X.A (compareOp (if neg then .NotIn else .In) u u') (EP X pins σ Q) X.xe s:=by
  intro a vs ys sq rs hm eu
  subst eu
  obtain⟨its,qv,p,_⟩:=I.list sq
  obtain⟨h1,h2⟩:=zC I S hu1 dx r rs qv hm
  have h3:its.toArray.any (eU X.K H μ G x)=b:=by simpa using h2
  cases neg with
  |false=>exact in_listAt _ p.isList (fun y hy=>h1 y (by simpa using hy)) ⟨.bl b,H,I,by rw[h3];rfl,q⟩
  |true=>exact notIn_listAt _ p.isList (fun y hy=>h1 y (by simpa using hy)) ⟨.bl (!b),H,I,by rw[h3];rfl,q⟩
 cases y with
 |tup ys=>
  obtain⟨a,vs,rfl,sq,rs⟩:=dy
  cases (show u'=Value.ref a from r')
  obtain⟨its,qv,p,_⟩:=I.tuple sq
  obtain⟨h1,h2⟩:=zC I S hu1 dx r rs qv e
  have h3:its.toArray.any (eU X.K H μ G x)=b:=by simpa using h2
  cases neg with
  |false=>exact in_tupleAt _ p (fun y hy=>h1 y (by simpa using hy)) ⟨.bl b,H,I,by rw[h3];rfl,q⟩
  |true=>exact notIn_tupleAt _ p (fun y hy=>h1 y (by simpa using hy)) ⟨.bl (!b),H,I,by rw[h3];rfl,q⟩
 |ref n=>
  obtain⟨a,ea,rfl⟩:=dy
  cases (show u'=Value.ref a from r')
  unfold M3.inG at e
  dsimp only at e
  cases qn:G[n]? with
  |none=>rw[qn]at e;cases e
  |some o=>
   rw[qn]at e
   have ob:=S.obj n a o ea qn
   cases o with
   |lst ys=>
    obtain⟨vs,e1,rs⟩:=ob
    exact lists (SqL.of e1) rs e rfl
   |frz ys=>
    obtain⟨vs,e1,rs⟩:=ob
    exact lists e1.sq rs e rfl
   |dK kvs=>
    obtain⟨ws,e1,rs⟩:=ob
    dsimp only at e
    cases qk:M3.qg x with
    |none=>rw[qk]at e;cases e
    |some k=>
     rw[qk]at e
     have e:some (M3.look kvs k).isSome=some b:=e
     have hb:(jS ws k).isSome=b:=by
      rcases ud k rs with ⟨h1,h2⟩ |⟨d,v',h1,h2,_⟩
      · rw[h2];rw[h1]at e;cases e;rfl
      · rw[h2];rw[h1]at e;cases e;rfl
     cases uc qk dx
     cases neg with
     |false=>exact HC (by omega) I (pZ.k e1) r fun s' I'=>⟨.bl b,H,I',by rw[hb];rfl,q⟩
     |true=>exact Bh (by omega) I (pZ.k e1) r fun s' I'=>⟨.bl (!b),H,I',by rw[hb];rfl,q⟩
   |dF kvs=>cases e
   |dT kvs=>cases e
   |ins C fs=>cases e
 |_=>cases e
theorem ET(hu:X.A.units+9 < cLine):OpR X (compareOp .In) (sy T X.K false)/\Br2 T X.K Y M3.oIn (sy T X.K false):=⟨fun pins s σ H v w u u' Q I r r' h=>w9 hu false I r r' h,by
 intro μ H G x y v w Q S dx dy h
 unfold M3.run M3.oIn at h
 cases q:M3.inG G x y with
 |none=>rw[q]at h;exact False.elim h
 |some b=>
  rw[q]at h
  exact⟨μ,G,x,y,b,S,dx,dy,q,h _ H μ (Up.refl _ _) S rfl⟩⟩
theorem yO(hu:X.A.units+9 < cLine):OpR X (compareOp .NotIn) (sy T X.K true)/\Br2 T X.K Y M3.nT (sy T X.K true):=⟨fun pins s σ H v w u u' Q I r r' h=>w9 hu true I r r' h,by
 intro μ H G x y v w Q S dx dy h
 unfold M3.run M3.nT at h
 cases q:M3.inG G x y with
 |none=>rw[q]at h;exact False.elim h
 |some b=>
  rw[q]at h
  exact⟨μ,G,x,y,b,S,dx,dy,q,h _ H μ (Up.refl _ _) S rfl⟩⟩
end
end L3
namespace HT
open PySem PyProof.Rows
theorem Az(A:Around)(s:Shared)(a:Int)(t:Tok)(c:Int)(u:Tok)(prog:Program)(w:World)(E:Value->Shared->Prop)(Q:Value->Shared->Prop)(h:Q (.bool (decide (c < a))) s):
 wpAny (model prog w) A (richCompare .Gt (.int a t) (.int c u)) Q E s:=
 (PyProof.Rows.gt_int h:wpAny (model prog w) A (compareOp .Gt (.int a t) (.int c u)) Q E s)
section
open PySem.SeqAt
open PySem.AutoSeq1 (wpAny_loadPart')
open PySem.MeetsSeq PySem.MeetsSeq2 PySem.MeetsSeq3
theorem qP(l b:Addr)(items items2:Array Value)(n n2:Nat)(dd dd2:Option Addr)(sl sl2:Array (Option Value))(ns ms:List Int)(hi:IntsAre items.toList ns)(hj:IntsAre items2.toList ms):
 Meets (Builtin.«tuple.__gt__» ⟨[.ref l,.ref b],[]⟩)
  (fun _ R s=>s.heap.get? l=some {cls:= .type "tuple",dict:=dd,data:= .seq items n,slots:=sl}/\s.heap.get? b=some {cls:= .type "tuple",dict:=dd2,data:= .seq items2 n2,slots:=sl2}/\
    R (.ok (.ret (.bool (lexLt ms ns)))) s):=
 .of_wp fun prog w A R s h=>by
  obtain⟨hp,g,d,tk,os⟩:=s;obtain⟨hl,hb,h⟩:=h
  have f2:=AutoSeq1.sub_tuple_tuple
  have z1:items.size=ns.length:=by rw[<-hi.length];simp
  have z2:items2.size=ms.length:=by rw[<-hj.length];simp
  wp_walk using wpAny_loadPart' hl,wpAny_loadPart' hb,wpAny_forIn_list _ (fun rest b s'=>b.1=none/\s'=⟨hp,g,d,tk,os⟩/\∃(vs ws:List Value) (ns' ms':List Int),rest=vs.zip ws/\
   IntsAre vs ns'/\IntsAre ws ms'/\ns'.length+items2.size=ms'.length+items.size/\R (.ok (.ret (.bool (lexLt ms' ns')))) ⟨hp,g,d,tk,os⟩) _
  case turn=>
   rintro⟨y,x⟩ rest b s' ⟨hb',rfl,vs,ws,ns',ms',hz,hvi,hwi,hlen,hR⟩
   cases hvi with
   |nil=>rw[List.zip_nil_left]at hz;cases hz
   |cons a t hvi'=>
    cases hwi with
    |nil=>rw[List.zip_nil_right]at hz;cases hz
    |cons c u hwi'=>
     rw[List.zip_cons_cons]at hz
     injection hz with hyx hrest
     injection hyx with hy hx
     subst hy hx
     rw[pG]at hR
     simp only[List.length_cons]at hlen
     obtain⟨e,he,hiff⟩:=vv A.in1 ⟨hp,g,d,tk,os⟩ a t c u
     refine wpAny_bind (he prog w _ _ ?_)
     cases e with
     |true=>
      rw[if_pos (hiff.mp rfl).symm]at hR
      wp_walk
      exact⟨rfl,rfl,_,_,_,_,hrest,hvi',hwi',by omega,hR⟩
     |false=>
      rw[if_neg (fun q=>absurd (hiff.mpr (Eq.symm q)) qC_)]at hR
      have hri:=Az A.in1 ⟨hp,g,d,tk,os⟩ a t c u prog w
      wp_walk using hri
      exact⟨_,rfl,by simpa using hR⟩
  case fin=>
   rintro⟨b1,b2⟩ s' ⟨hb',rfl,vs,ws,ns',ms',hz,hvi,hwi,hlen,hR⟩
   simp only at hb'
   subst hb'
   have hv:lexLt ms' ns'=decide (items2.size < items.size):=by
    cases hvi with
    |nil=>
     cases hwi with
     |nil=>
      simp only[List.length_nil]at hlen
      rw[lQ]
      exact(qa_ (by omega)).symm
     |cons c u hw=>
      simp only[List.length_nil,List.length_cons]at hlen
      rw[ku]
      exact(qa_ (by omega)).symm
    |cons a t hv=>
     cases hwi with
     |nil=>
      simp only[List.length_nil,List.length_cons]at hlen
      rw[kq]
      exact(qZ_ (by omega)).symm
     |cons c u hw=>
      rw[List.zip_cons_cons]at hz
      cases hz
   rw[hv]at hR
   wp_walk
   exact⟨_,rfl,by simpa [Builtin.Tuple.tupleCompareSizes] using hR⟩
  case h=>
   exact⟨rfl,rfl,items.toList,items2.toList,ns,ms,rfl,hi,hj,by omega,h⟩
end
theorem wO{prog:Program}{w:World}{A:Around}{E:Value->Shared->Prop}{s:Shared}{l b:Addr}{items items2:Array Value}{ns ms:List Int}{Q:Value->Shared->Prop}(hl:IsTup s.heap l items)(hb:IsTup s.heap b items2)(hi:IntsAre items.toList ns)(hj:IntsAre items2.toList ms)
 (hu:A.units < cLine) (h:Q (.bool (lexLt ms ns)) s):wpAny (model prog w) A (compareOp .Gt (.ref l) (.ref b)) Q E s:=by
 obtain⟨⟨cls,dd,data,sl⟩,ho,hc,n,hd⟩:=id hl
 obtain⟨⟨cls2,dd2,data2,sl2⟩,ho2,hc2,n2,hd2⟩:=id hb
 simp only at hc hd hc2 hd2
 subst hc hd hc2 hd2
 exact richCompare_meets_room (op:= .Gt) ⟨_,ho,rfl⟩ ⟨_,ho2,rfl⟩ PySem.F.slot_tuple_gt PySem.F.entry_tuple_gt (PySem.F.args_tuple_gt_2 _ _) (qP l b items items2 n n2 dd dd2 sl sl2 ns ms hi hj)
  ⟨ho,ho2,show Value.bool (lexLt ms ns)≠Value.notImplemented/\Q (.bool (lexLt ms ns)) s from⟨(fun x=>nomatch x),h⟩⟩ hu
end HT
namespace L3
open PySem PySem.Spec PyProof.Rows L2 PySem.SeqAt
section
variable{X:Cx}{T:Tab}{Y:EX}{a b e:Expr}{es:List Expr}{fa fb:M3.E3}{ta tb:M3.T3}{f3:M3.A3}{pos:Pos}{rest:List Expr}
def Gr(K:PySem.W.Frag):R2:=fun x y H Q=>∃a b ns ms,x= .ref a/\y= .ref b/\SqT K H a (ns.map V.int)/\SqT K H b (ms.map V.int)/\Q (.bl (HT.lexLt ms ns)) H
theorem Ee(hu:X.A.units < cLine):OpR X (compareOp .Gt) (Gr X.K):=by
 intro pins s σ H x y v u Q I rx ry h
 obtain⟨a,b,ns,ms,rfl,rfl,ha,hb,q⟩:=h
 cases rx
 cases ry
 obtain⟨its,r1,p1,_⟩:=I.tuple ha
 obtain⟨its2,r2,p2,_⟩:=I.tuple hb
 have i1:IntsAre its.toArray.toList ns:=intsAre_of r1
 have i2:IntsAre its2.toArray.toList ms:=intsAre_of r2
 exact HT.wO p1 p2 i1 i2 hu ⟨.bl (HT.lexLt ms ns),H,I,rfl,q⟩
def BD(K:PySem.W.Frag):R2:=fun x y H Q=>rI0 (fun i j=>.bl (decide (j < i))) x y H Q\/Gr K x y H Q
theorem EC(hu:X.A.units < cLine):OpR X (compareOp .Gt) (BD X.K)/\Br2 T X.K Y M3.oGt (BD X.K):=⟨FH.or (Ee hu),by
 intro μ H G x y v w Q S dx dy h
 cases x with
 |int i=>cases y with
  |int j=>exact .inl ⟨i,j,dx,dy,h _ H μ (Up.refl _ _) S rfl⟩
  |_=>exact False.elim h
 |tup ds=>cases y with
  |tup es=>
   unfold M3.oGt at h
   dsimp only at h
   cases q1:M3.intsOf ds with
   |none=>rw[q1]at h;exact False.elim h
   |some m=>
    cases q2:M3.intsOf es with
    |none=>rw[q1,q2]at h;exact False.elim h
    |some n=>
     rw[q1,q2]at h
     rw[gp q1]at dx
     rw[gp q2]at dy
     obtain⟨p,vs,rfl,sp,rp⟩:=dx
     obtain⟨q,ws,rfl,sq,rq⟩:=dy
     rw[aF.ints rp]at sp
     rw[aF.ints rq]at sq
     refine .inr ⟨p,q,m,n,rfl,rfl,sp,sq,?_⟩
     rw[<-tV]
     exact h _ H μ (Up.refl _ _) S rfl
  |_=>exact False.elim h
 |_=>exact False.elim h⟩
theorem wA{K:PySem.W.Frag}{H:Hp}{μ:List Addr}{xs:List M3.D}{vs:List V}{i:Int}{d:M3.D}(r:aF K H μ xs vs)(h:M3.atI xs i=some d):∃v,L2.atI vs i=some v/\Den K H μ d v:=by
 unfold M3.atI at h
 unfold L2.atI
 rw[r.length]at h
 have e:M3.ixN vs.length i=L2.ixN vs.length i:=rfl
 rw[e]at h
 cases q:L2.ixN vs.length i with
 |none=>rw[q]at h;cases h
 |some j=>rw[q]at h;exact r.get h
theorem ni{Z:Nat->M3.Hh->Prop}{o:Option M3.D}{G:M3.Hh}{P:M3.D->M3.Hh->Prop}(h:M3.run (M3.mE o) G P Z):∃d,o=some d/\P d G:=by
 cases o with
 |none=>exact False.elim h
 |some d=>exact⟨d,rfl,h⟩
theorem BG(hu:X.A.units+1 < cLine):IxR X (fun x y H Q=>∃a v,x= .ref a/\pZ H a y (some v)/\Q v H):=by
 intro value slice pins s σ H x y v u Q I rx ry h hs
 obtain⟨a,z,rfl,g,q⟩:=h
 cases (show v=Value.ref a from rx)
 exact tail_any (uC I g) PySem.F.slot_dict_getitem.lookup (xV hu I g ry fun w' s3 I3 rw'=>⟨z,H,I3,rw',q⟩) hs
def Hy(K:PySem.W.Frag):R2:=fun x y H Q=>GH K x y H Q\/(fun x y H Q=>Fy K x y H Q\/∃a v,x= .ref a/\pZ H a y (some v)/\Q v H) x y H Q
theorem DL{K:PySem.W.Frag}:Br2 T K Y M3.oIx (Hy K):=by
 intro μ H G x y v w Q S dx dy h
 cases x with
 |tup xs=>
  cases y with
  |int i=>
   obtain⟨d,e,q⟩:=ni h
   obtain⟨p,vs,rfl,sq,r⟩:=dx
   obtain⟨z,e2,r2⟩:=wA r e
   exact .inr (.inl ⟨p,vs,i,z,rfl,dy,sq,e2,q z H μ (Up.refl _ _) S r2⟩)
  |_=>exact False.elim h
 |ref n=>
  unfold M3.run M3.oIx at h
  dsimp only at h
  obtain⟨p,ep,rfl⟩:=dx
  cases qn:G[n]? with
  |none=>rw[qn]at h;exact False.elim h
  |some o=>
   have ob:=S.obj n p o ep qn
   cases o with
   |lst xs=>
    cases y with
    |int i=>
     rw[qn]at h
     obtain⟨d,e,q⟩:=ni (P:=fx T K μ H Q) h
     obtain⟨vs,e1,r⟩:=ob
     obtain⟨z,e2,r2⟩:=wA r e
     exact .inl ⟨p,vs,i,z,rfl,dy,SqL.of e1,e2,q z H μ (Up.refl _ _) S r2⟩
    |_=>rw[qn]at h;exact False.elim h
   |frz xs=>
    cases y with
    |int i=>
     rw[qn]at h
     obtain⟨d,e,q⟩:=ni (P:=fx T K μ H Q) h
     obtain⟨vs,e1,r⟩:=ob
     obtain⟨z,e2,r2⟩:=wA r e
     exact .inl ⟨p,vs,i,z,rfl,dy,e1.sq,e2,q z H μ (Up.refl _ _) S r2⟩
    |_=>rw[qn]at h;exact False.elim h
   |dK kvs=>
    have h2:M3.run (fun G=>match M3.qg y with
     |some k=>M3.mE (M3.look kvs k) G
     |none=>none) G (fx T K μ H Q) (Y.x μ H):=by
     rw[qn]at h
     cases y <;> exact h
    unfold M3.run at h2
    dsimp only at h2
    cases qk:M3.qg y with
    |none=>rw[qk]at h2;exact False.elim h2
    |some k=>
     rw[qk]at h2
     obtain⟨d,e,q⟩:=ni (P:=fx T K μ H Q) h2
     obtain⟨ws,e1,r⟩:=ob
     cases uc qk dy
     rcases ud k r with ⟨z,_⟩ |⟨d',z,l1,l2,r2⟩
     · rw[z]at e;cases e
     · rw[l1]at e;cases e
       exact .inr (.inr ⟨p,z,rfl,by rw[<-l2];exact pZ.k e1,q z H μ (Up.refl _ _) S r2⟩)
   |dF kvs=>rw[qn]at h;cases y <;> exact False.elim h
   |dT kvs=>rw[qn]at h;cases y <;> exact False.elim h
   |ins C fs=>rw[qn]at h;cases y <;> exact False.elim h
 |_=>exact False.elim h
theorem GY(hu:X.A.units+1 < cLine)(ha:PE X a (tE T X.K Y fa))(hb:PE X b (tE T X.K Y fb))(hs:sN b:=by intro _ _;rfl):PE X (.Subscript a b pos) (tE T X.K Y (M3.eOp M3.oIx fa fb)):=
 PE.of (GX (Cq.or (El.or (BG hu))) ha hb hs) fun _ _ _ h=>Cb DL h
end
section
variable{X:Cx}{T:Tab}{Y:EX}{a b e o:Expr}{es:List Expr}{fa fb:M3.E3}{ta tb:M3.T3}{f3:M3.A3}{pos p:Pos}{rest:List Expr}{g:List M3.D->M3.M M3.D}
def BrA(T:Tab)(K:PySem.W.Frag)(Y:EX)(g:List M3.D->M3.M M3.D)(r:List V->Hp->VK->Prop):Prop:=
 ∀μ H G ds vs Q,Sim T K μ H G->aF K H μ ds vs->M3.run (g ds) G (fx T K μ H Q) (Y.x μ H)->r vs H Q
theorem AH{K:PySem.W.Frag}{r:List V->Hp->VK->Prop}(br:BrA T K Y g r){σ:L2.St}{H:Hp}{Q:VK}(h:tE T K Y (M3.aL g f3) σ H Q):tCB r (tA T K Y f3) σ H Q:=by
 obtain⟨μ,σ3,G,S,sd,h⟩:=h
 exact⟨μ,σ3,G,S,sd,oG h fun ds G1 vs H1 μ1 u1 S1 d1 h1=>br μ1 H1 G1 ds vs Q S1 d1 (eP h1 fun _ _ q=>q.up u1)⟩
theorem sj{x:Str}{id:String}{r:List V->Hp->VK->Prop}(hc:gh X (.builtin id) r)(br:BrA T X.K Y g r)(hm:X.mg x=none)(hv:bootBuiltins x=some (.builtin id))(ha:PA X (e :: es) (tA T X.K Y f3))(hg:Gl X x:=by rfl)(hn:x≠"__name__":=by decide)(hdb:(x==("__debug__":Str))=false:=by decide)
 (he:starEach (e :: es) X.env=(false,eval e X.env) :: starEach es X.env:=by rfl) (hpl:(backTo pos (starEach es X.env)).any (·.1)=false:=by rfl):PE X (.Call (.Name x p) (e :: es) [] pos) (tE T X.K Y (M3.aL g f3)):=
 PE.of (qG hc hg hm hv ha hn hdb he hpl) fun _ _ _ h=>AH br h
theorem uN{x:Str}{id:String}{r:List V->Hp->VK->Prop}(hc:gh X (.type id) r)(br:BrA T X.K Y g r)(hm:X.mg x=none)(hv:bootBuiltins x=some (.type id))(ha:PA X (e :: es) (tA T X.K Y f3))(hg:Gl X x:=by rfl)(hn:x≠"__name__":=by decide)(hdb:(x==("__debug__":Str))=false:=by decide)
 (he:starEach (e :: es) X.env=(false,eval e X.env) :: starEach es X.env:=by rfl) (hpl:(backTo pos (starEach es X.env)).any (·.1)=false:=by rfl):PE X (.Call (.Name x p) (e :: es) [] pos) (tE T X.K Y (M3.aL g f3)):=
 PE.of (yQ hc hg hm hv ha hn hdb he hpl) fun _ _ _ h=>AH br h
theorem lG{K:PySem.W.Frag}{H:Hp}{μ:List Addr}{d:M3.D}{vs:List V}(h:aF K H μ [d] vs):∃v,vs=[v]/\Den K H μ d v:=by
 obtain⟨v,r,rfl,h,t⟩:=h
 cases (show r=[]from t)
 exact⟨v,rfl,h⟩
theorem CI{K:PySem.W.Frag}{H:Hp}{μ:List Addr}{d c:M3.D}{vs:List V}(h:aF K H μ [d,c] vs):∃v w,vs=[v,w]/\Den K H μ d v/\Den K H μ c w:=by
 obtain⟨v,r,rfl,h,t⟩:=h
 obtain⟨w,rfl,h2⟩:=lG t
 exact⟨v,w,rfl,h,h2⟩
def HG(K:PySem.W.Frag):List V->Hp->VK->Prop:=fun xs H Q=>(∃x n,xs=[x]/\Gs K x H n/\Q (.int n) H)\/∃a kvs,xs=[V.ref a]/\H a=some (.dK kvs)/\Q (.int kvs.length) H
theorem EB{K:PySem.W.Frag}:BrA T K Y M3.gI (HG K):=by
 intro μ H G ds vs Q S d h
 unfold M3.run M3.gI at h
 match ds,d,h with
 | [.tup xs],d,h=>
   obtain⟨v,rfl,a,ws,rfl,sq,r⟩:=lG d
   dsimp only at h
   by_cases c:xs.length<=M3.aH
   · rw[if_pos c]at h
     refine .inl ⟨_,xs.length,rfl,.inr ⟨ws,sq,r.length⟩,h _ H μ (Up.refl _ _) S rfl⟩
   · rw[if_neg c]at h;exact False.elim h
 | [.str x],d,h=>
   obtain⟨v,rfl,d'⟩:=lG d
   cases (show v= .str x from d')
   dsimp only at h
   by_cases c:x.length<=M3.aH
   · rw[if_pos c]at h
     exact .inl ⟨_,x.length,rfl,⟨by rw[<-dO];exact c,rfl⟩,h _ H μ (Up.refl _ _) S rfl⟩
   · rw[if_neg c]at h;exact False.elim h
 | [.ref n],d,h=>
   obtain⟨v,rfl,a,ea,rfl⟩:=lG d
   dsimp only at h
   cases q:G[n]? with
   |none=>rw[q]at h;exact False.elim h
   |some o=>
    rw[q]at h
    have ob:=S.obj n a o ea q
    cases o with
    |lst xs=>obtain⟨ws,e1,r⟩:=ob;exact .inl ⟨_,xs.length,rfl,.inl ⟨ws,SqL.of e1,r.length⟩,h _ H μ (Up.refl _ _) S rfl⟩
    |frz xs=>obtain⟨ws,e1,r⟩:=ob;exact .inl ⟨_,xs.length,rfl,.inl ⟨ws,e1.sq,r.length⟩,h _ H μ (Up.refl _ _) S rfl⟩
    |dK kvs=>obtain⟨ws,e1,r⟩:=ob;exact .inr ⟨a,ws,rfl,e1,by rw[<-Paired.length r];exact h _ H μ (Up.refl _ _) S rfl⟩
    |dF kvs=>exact False.elim h
    |dT kvs=>exact False.elim h
    |ins C fs=>exact False.elim h
 | [],_,h=>exact False.elim h
 | [.non],_,h=>exact False.elim h
 | [.bl _],_,h=>exact False.elim h
 | [.int _],_,h=>exact False.elim h
 |x :: _ :: _,_,h=>cases x <;> exact False.elim h
theorem fC(hm:X.mg "len"=none)(ha:PA X (e :: es) (tA T X.K Y f3))(hg:Gl X "len":=by rfl)(he:starEach (e :: es) X.env=(false,eval e X.env) :: starEach es X.env:=by rfl)(hpl:(backTo pos (starEach es X.env)).any (·.1)=false:=by rfl):
 PE X (.Call (.Name "len" p) (e :: es) [] pos) (tE T X.K Y (M3.aL M3.gI f3)):=sj (AM.or yi) EB hm boot_len ha hg (by decide) (by decide) he hpl
theorem Fn{K:PySem.W.Frag}:BrA T K Y M3.AJ (fun xs H Q=>∃i j,xs=[.int i,.int j]/\Q (.int (if j < i then j else i)) H):=by
 intro μ H G ds vs Q S d h
 unfold M3.run M3.AJ at h
 match ds,d,h with
 | [.int i,.int j],d,h=>
   obtain⟨v,w,rfl,d1,d2⟩:=CI d
   cases d1;cases d2
   exact⟨_,_,rfl,h _ H μ (Up.refl _ _) S rfl⟩
 | [],_,h=>exact False.elim h
 | [x],_,h=>cases x <;> exact False.elim h
 | .non :: _ :: _,_,h=>exact False.elim h
 | .bl _ :: _ :: _,_,h=>exact False.elim h
 | .str _ :: _ :: _,_,h=>exact False.elim h
 | .tup _ :: _ :: _,_,h=>exact False.elim h
 | .ref _ :: _ :: _,_,h=>exact False.elim h
 | .int _ :: .non :: _,_,h=>exact False.elim h
 | .int _ :: .bl _ :: _,_,h=>exact False.elim h
 | .int _ :: .str _ :: _,_,h=>exact False.elim h
 | .int _ :: .tup _ :: _,_,h=>exact False.elim h
 | .int _ :: .ref _ :: _,_,h=>exact False.elim h
 | .int _ :: .int _ :: _ :: _,_,h=>exact False.elim h
theorem Fe(hc:X.calm=true)(hm:X.mg "min"=none)(ha:PA X (e :: es) (tA T X.K Y f3))(hg:Gl X "min":=by rfl)(he:starEach (e :: es) X.env=(false,eval e X.env) :: starEach es X.env:=by rfl)(hpl:(backTo pos (starEach es X.env)).any (·.1)=false:=by rfl):
 PE X (.Call (.Name "min" p) (e :: es) [] pos) (tE T X.K Y (M3.aL M3.AJ f3)):=sj (yI hc) Fn hm boot_min ha hg (by decide) (by decide) he hpl
theorem vC:∀(r:List Int) (m:Int),M3.jR m r∈m :: r
 | [],m=>qI_
 |x :: r,m=>by
  have h:=vC r (if x > m then x else m)
  show M3.jR (if x > m then x else m) r∈m :: x :: r
  rcases qS_.mp h with h |h
  · rw[h];split
    · exact qR_ _ qI_
    · exact qI_
  · exact qR_ _ (qR_ _ h)
theorem ue:∀(r:List Int) (m a:Int),a∈m :: r->a<=M3.jR m r
 | [],m,a,h=>by simp at h;exact Int.le_of_eq h
 |x :: r,m,a,h=>by
  show a<=M3.jR (if x > m then x else m) r
  have h1:=ue r (if x > m then x else m) (if x > m then x else m) qI_
  rcases qS_.mp h with h |h
  · subst h;split at h1 <;> (try split) <;> omega
  · rcases qS_.mp h with h |h
    · subst h;split at h1 <;> (try split) <;> omega
    · exact ue r _ a (qR_ _ h)
theorem yJ(hc:X.calm=true):gh X (.builtin "max") (fun xs H Q=>∃a m r,xs=[.ref a]/\SqL X.K H a ((m :: r).map V.int)/\Q (.int (M3.jR m r)) H):=by
 intro pins s σ H xs us Q I rv h
 obtain⟨a,m,r,rfl,sq,q⟩:=h
 obtain⟨u,rfl,ru⟩:=vals1 rv
 cases ru
 obtain⟨its,qv,pl,_⟩:=I.list sq
 have hi:IntsAre its (m :: r):=intsAre_of qv
 obtain⟨xs,e⟩:=hi.allInts.items
 have hns:m :: r=xs.toList.map (·.1):=by rw[<-hi.numsOf,<-nums_intItems,<-e]
 have hsz:0 < xs.size:=by
  have h3:=congrArg List.length hns
  rw[qM_,Array.length_toList]at h3
  simp at h3;omega
 have hl:=pl.isList
 rw[e]at hl
 refine max_intList (I.ok.hd hc) hl hsz fun v h' tk hv hk=>?_
 obtain⟨t,rfl⟩:=intItems_at hv
 obtain⟨h1,h2⟩:=argBest_gt (numAt xs) (xs.size - 1)
 have hmem:numAt xs (argBest (fun i j=>decide (numAt xs i > numAt xs j)) (xs.size - 1))∈m :: r:=by
  rw[hns,numAt_eq];exact getD_mem (by rw[qM_,Array.length_toList];omega)
 have hle:M3.jR m r<=numAt xs (argBest (fun i j=>decide (numAt xs i > numAt xs j)) (xs.size - 1)):=by
  have hM:=vC r m
  rw[hns]at hM
  obtain⟨j,hj,ej⟩:=mem_getD hM
  rw[qM_,Array.length_toList]at hj
  rw[<-ej,<-numAt_eq];exact h2 j (by omega)
 have heq:numAt xs (argBest (fun i j=>decide (numAt xs i > numAt xs j)) (xs.size - 1))=M3.jR m r:=Int.le_antisymm (ue r m _ hmem) hle
 exact⟨.int _,H,I.kept hk,⟨t,by rw[heq]⟩,q⟩
def Hz(K:PySem.W.Frag):List V->Hp->VK->Prop:=fun xs H Q=>(∃i j,xs=[.int i,.int j]/\Q (.int (if j > i then j else i)) H)\/∃a m r,xs=[.ref a]/\SqL K H a ((m :: r).map V.int)/\Q (.int (M3.jR m r)) H
theorem Dw{K:PySem.W.Frag}:BrA T K Y M3.x4 (Hz K):=by
 intro μ H G ds vs Q S d h
 unfold M3.run M3.x4 at h
 match ds,d,h with
 | [.int i,.int j],d,h=>
   obtain⟨v,w,rfl,d1,d2⟩:=CI d
   cases d1;cases d2
   exact .inl ⟨_,_,rfl,h _ H μ (Up.refl _ _) S rfl⟩
 | [.ref n],d,h=>
   obtain⟨v,rfl,a,ea,rfl⟩:=lG d
   dsimp only at h
   cases q:G[n]? with
   |none=>rw[q]at h;exact False.elim h
   |some o=>
    rw[q]at h
    have ob:=S.obj n a o ea q
    cases o with
    |lst xs=>
     obtain⟨ws,e1,r⟩:=ob
     dsimp only at h
     cases qi:M3.intsOf xs with
     |none=>rw[qi]at h;exact False.elim h
     |some ns=>
      rw[qi]at h
      cases ns with
      |nil=>exact False.elim h
      |cons m t=>
       rw[gp qi]at r
       rw[aF.ints r]at e1
       exact .inr ⟨a,m,t,rfl,SqL.of e1,h _ H μ (Up.refl _ _) S rfl⟩
    |_=>exact False.elim h
 | [],_,h=>exact False.elim h
 | [.non],_,h=>exact False.elim h
 | [.bl _],_,h=>exact False.elim h
 | [.int _],_,h=>exact False.elim h
 | [.str _],_,h=>exact False.elim h
 | [.tup _],_,h=>exact False.elim h
 | .non :: _ :: _,_,h=>exact False.elim h
 | .bl _ :: _ :: _,_,h=>exact False.elim h
 | .str _ :: _ :: _,_,h=>exact False.elim h
 | .tup _ :: _ :: _,_,h=>exact False.elim h
 | .ref _ :: _ :: _,_,h=>exact False.elim h
 | .int _ :: .non :: _,_,h=>exact False.elim h
 | .int _ :: .bl _ :: _,_,h=>exact False.elim h
 | .int _ :: .str _ :: _,_,h=>exact False.elim h
 | .int _ :: .tup _ :: _,_,h=>exact False.elim h
 | .int _ :: .ref _ :: _,_,h=>exact False.elim h
 | .int _ :: .int _ :: _ :: _,_,h=>exact False.elim h
theorem EO(hc:X.calm=true)(hm:X.mg "max"=none)(ha:PA X (e :: es) (tA T X.K Y f3))(hg:Gl X "max":=by rfl)(he:starEach (e :: es) X.env=(false,eval e X.env) :: starEach es X.env:=by rfl)(hpl:(backTo pos (starEach es X.env)).any (·.1)=false:=by rfl):
 PE X (.Call (.Name "max" p) (e :: es) [] pos) (tE T X.K Y (M3.aL M3.x4 f3)):=sj ((yc hc).or (yJ hc)) Dw hm boot_max ha hg (by decide) (by decide) he hpl
theorem Cc{K:PySem.W.Frag}:BrA T K Y M3.qt (fun xs H Q=>∃p ys,xs=[.ref p]/\(SqL K H p ys\/SqT K H p ys)/\∀l,H l=none->Q (.ref l) (upd H l (.lst ys))):=by
 intro μ H G ds vs Q S d h
 have fin:∀{xs:List M3.D} {ws:List V},aF K H μ xs ws->fx T K μ H Q (.ref G.length) (G++[.lst xs])->∀l,H l=none->Q (.ref l) (upd H l (.lst ws)):=by
  intro xs ws r q l hl
  have u2:=Up.new (μ:=μ) (.lst ws) hl
  refine q _ _ (μ++[l]) u2 (S.new hl rfl ⟨ws,aW,aF.up u2 r⟩) ⟨l,?_,rfl⟩
  rw[<-S.len];simp
 unfold M3.run M3.qt at h
 match ds,d,h with
 | [.tup xs],d,h=>
   obtain⟨v,rfl,a,ws,rfl,sq,r⟩:=lG d
   dsimp only at h
   by_cases c:xs.length<=M3.aH
   · rw[if_pos c]at h
     exact⟨a,ws,rfl,.inr sq,fin r h⟩
   · rw[if_neg c]at h;exact False.elim h
 | [.ref n],d,h=>
   obtain⟨v,rfl,a,ea,rfl⟩:=lG d
   dsimp only at h
   cases q:G[n]? with
   |none=>rw[q]at h;exact False.elim h
   |some o=>
    rw[q]at h
    have ob:=S.obj n a o ea q
    cases o with
    |lst xs=>obtain⟨ws,e1,r⟩:=ob;exact⟨a,ws,rfl,.inl (SqL.of e1),fin r h⟩
    |frz xs=>obtain⟨ws,e1,r⟩:=ob;exact⟨a,ws,rfl,.inl e1.sq,fin r h⟩
    |_=>exact False.elim h
 | [],_,h=>exact False.elim h
 | [.non],_,h=>exact False.elim h
 | [.bl _],_,h=>exact False.elim h
 | [.int _],_,h=>exact False.elim h
 | [.str _],_,h=>exact False.elim h
 |x :: _ :: _,_,h=>cases x <;> exact False.elim h
theorem B4(hm:X.mg "list"=none)(ha:PA X (e :: es) (tA T X.K Y f3))(hg:Gl X "list":=by rfl)(he:starEach (e :: es) X.env=(false,eval e X.env) :: starEach es X.env:=by rfl)(hpl:(backTo pos (starEach es X.env)).any (·.1)=false:=by rfl):
 PE X (.Call (.Name "list" p) (e :: es) [] pos) (tE T X.K Y (M3.aL M3.qt f3)):=uN s9 Cc hm boot_list ha hg (by decide) (by decide) he hpl
theorem yK:gh X (.type "int") (fun xs H Q=>∃x n,xs=[.str x]/\PySem.intText? x=some n/\x.length<=640/\Q (.int n) H):=by
 intro pins s σ H xs us Q I r h
 obtain⟨x,n,rfl,hn,hl,q⟩:=h
 obtain⟨u,rfl,t,rfl⟩:=vals1 r
 exact PySem.W.KIN.call_text hn hl ⟨.int n,H,I.tok _,⟨_,rfl⟩,q⟩
def Hc:List V->Hp->VK->Prop:=fun xs H Q=>((∃i,xs=[.int i]/\Q (.int i) H)\/∃k,xs=[.bl k]/\Q (.int (if k then 1 else 0)) H)\/∃x n,xs=[.str x]/\PySem.intText? x=some n/\x.length<=640/\Q (.int n) H
theorem Eo{K:PySem.W.Frag}:BrA T K Y M3.AD Hc:=by
 intro μ H G ds vs Q S d h
 unfold M3.run M3.AD at h
 match ds,d,h with
 | [.int i],d,h=>obtain⟨v,rfl,d'⟩:=lG d;cases d';exact .inl (.inl ⟨_,rfl,h _ H μ (Up.refl _ _) S rfl⟩)
 | [.bl i],d,h=>obtain⟨v,rfl,d'⟩:=lG d;cases d';exact .inl (.inr ⟨_,rfl,h _ H μ (Up.refl _ _) S rfl⟩)
 | [.str x],d,h=>
   obtain⟨v,rfl,d'⟩:=lG d
   cases (show v= .str x from d')
   dsimp only at h
   cases q:PySem.intText? x with
   |none=>rw[q]at h;exact False.elim h
   |some n=>
    rw[q]at h
    dsimp only at h
    by_cases c:x.length<=640
    · rw[if_pos c]at h
      exact .inr ⟨x,n,rfl,q,c,h _ H μ (Up.refl _ _) S rfl⟩
    · rw[if_neg c]at h;exact False.elim h
 | [],_,h=>exact False.elim h
 | [.non],_,h=>exact False.elim h
 | [.ref _],_,h=>exact False.elim h
 | [.tup _],_,h=>exact False.elim h
 |x :: _ :: _,_,h=>cases x <;> exact False.elim h
theorem Fh(hm:X.mg "int"=none)(ha:PA X (e :: es) (tA T X.K Y f3))(hg:Gl X "int":=by rfl)(he:starEach (e :: es) X.env=(false,eval e X.env) :: starEach es X.env:=by rfl)(hpl:(backTo pos (starEach es X.env)).any (·.1)=false:=by rfl):
 PE X (.Call (.Name "int" p) (e :: es) [] pos) (tE T X.K Y (M3.aL M3.AD f3)):=uN (yS.or yK) Eo hm boot_int ha hg (by decide) (by decide) he hpl
def kn:M3.Kd->String
 | .non=>"NoneType" | .bl=>"bool" | .int=>"int" | .str=>"str" | .tup=>"tuple" | .lst=>"list" | .dic=>"dict"
def TyD(K:PySem.W.Frag)(H:Hp):V->M3.Kd->Prop
 | .non,k=>k= .non
 | .bl _,k=>k= .bl
 | .int _,k=>k= .int
 | .str _,k=>k= .str
 | .ref a,k=>(k= .lst/\∃xs,SqL K H a xs)\/(k= .tup/\∃xs,SqT K H a xs)\/(k= .dic/\((∃kvs,H a=some (.dK kvs))\/∃kvs,H a=some (.dT kvs)))
 |_,_=>False
theorem jK(K:PySem.W.Frag)(k c:M3.Kd):PySem.W.kitOne K (.type (kn k)) (.type (kn c))=some (M3.jV k c):=by
 cases k <;> cases c <;> rfl
theorem Cd:gh X (.builtin "isinstance") (fun xs H Q=>∃x k c,xs=[x,.ty (kn c)]/\TyD X.K H x k/\Q (.bl (M3.jV k c)) H):=by
 intro pins s σ H xs us Q I r h
 obtain⟨x,k,c,rfl,ty,q⟩:=h
 obtain⟨u,w',rfl,ru,rc⟩:=vals2 r
 cases (show w'=Value.type (kn c)from rc)
 have fin:∀tk,EP X pins σ Q (.bool (M3.jV k c)) {s with toks:=tk}:=fun tk=>⟨.bl _,H,I.tok tk,rfl,q⟩
 cases x with
 |non=>cases (show u=Value.none from ru);cases (show k= .non from ty);exact PySem.W.kia_one PySem.W.kitx_none I.kIn True.intro (jK X.K .non c) (fun z=>nomatch z) fin
 |bl y=>cases (show u=Value.bool y from ru);cases (show k= .bl from ty);exact PySem.W.kia_one PySem.W.kitx_bool I.kIn True.intro (jK X.K .bl c) (fun z=>nomatch z) fin
 |int y=>obtain⟨t,rfl⟩:=(show ∃t,u=Value.int y t from ru);cases (show k= .int from ty);exact PySem.W.kia_one PySem.W.kitx_int I.kIn True.intro (jK X.K .int c) (fun z=>nomatch z) fin
 |str y=>obtain⟨t,rfl⟩:=(show ∃t,u=Value.str y t from ru);cases (show k= .str from ty);exact PySem.W.kia_one PySem.W.kitx_str I.kIn True.intro (jK X.K .str c) (fun z=>nomatch z) fin
 |ref a=>
  cases (show u=Value.ref a from ru)
  rcases ty with ⟨rfl,xs,sq⟩ |⟨rfl,xs,sq⟩ |⟨rfl,⟨kvs,ea⟩ |⟨kvs,ea⟩⟩
  · obtain⟨its,_,⟨ob,n,h1,h2,_⟩,_⟩:=I.list sq
    exact PySem.W.kia_one PySem.W.kitx_list I.kIn ⟨ob,h1,h2⟩ (jK X.K .lst c) (fun z=>nomatch z) fin
  · obtain⟨its,_,⟨ob,h1,h2,_⟩,_⟩:=I.tuple sq
    exact PySem.W.kia_one PySem.W.kitx_tuple I.kIn ⟨ob,h1,h2⟩ (jK X.K .tup c) (fun z=>nomatch z) fin
  · obtain⟨_,_,vs,_,pd⟩:=(show cL X.prog X.w H s.heap a (.dK kvs)from I.hok a _ ea)
    obtain⟨ob,es,ep,h1,h2,_⟩:=pd
    exact PySem.W.kia_one PySem.W.kitx_dict I.kIn ⟨ob,h1,h2.1⟩ (jK X.K .dic c) (fun z=>nomatch z) fin
  · obtain⟨_,_,xs,_,ob,es,ep,h1,h2,_⟩:=(show cL X.prog X.w H s.heap a (.dT kvs)from I.hok a _ ea)
    exact PySem.W.kia_one PySem.W.kitx_dict I.kIn ⟨ob,h1,h2.1⟩ (jK X.K .dic c) (fun z=>nomatch z) fin
 |_=>exact False.elim ty
theorem C6{K:PySem.W.Frag}{μ:List Addr}{H:Hp}{G:M3.Hh}(S:Sim T K μ H G){d:M3.D}{v:V}{k:M3.Kd}(r:Den K H μ d v)(h:M3.kdOf G d=some k):TyD K H v k:=by
 cases d with
 |non=>cases (show v= .non from r);cases h;rfl
 |bl _=>cases r;cases h;rfl
 |int _=>cases r;cases h;rfl
 |str _=>cases r;cases h;rfl
 |tup ds=>obtain⟨a,vs,rfl,sq,_⟩:=r;cases h;exact .inr (.inl ⟨rfl,vs,sq⟩)
 |ref n=>
  obtain⟨a,ea,rfl⟩:=r
  unfold M3.kdOf at h
  dsimp only at h
  cases q:G[n]? with
  |none=>rw[q]at h;cases h
  |some ob=>
   rw[q]at h
   have od:=S.obj n a ob ea q
   cases ob with
   |lst xs=>cases h;obtain⟨vs,e1,_⟩:=od;exact .inl ⟨rfl,vs,SqL.of e1⟩
   |frz xs=>cases h;obtain⟨vs,e1,_⟩:=od;exact .inl ⟨rfl,vs,e1.sq⟩
   |dK kvs=>cases h;obtain⟨vs,e1,_⟩:=od;exact .inr (.inr ⟨rfl,.inl ⟨vs,e1⟩⟩)
   |dF kvs=>cases h
   |dT kvs=>cases h;obtain⟨vs,e1,_⟩:=od;exact .inr (.inr ⟨rfl,.inr ⟨vs,e1⟩⟩)
   |ins C fs=>cases h
theorem jP(c:M3.Kd){n:Str}{p2:Pos}(hi:X.mg "isinstance"=none)(hm:X.mg n=none)(ha:PE X e (tE T X.K Y fa))(hn:bootBuiltins n=some (.type (kn c)):=by first |exact boot_int |exact boot_bool |exact boot_str |exact boot_tuple |exact boot_list |exact boot_dict)
 (hg:Gl X "isinstance":=by rfl) (hg2:Gl X n:=by rfl) (hn2:n≠"__name__":=by decide) (hdb:(n==("__debug__":Str))=false:=by decide)
 (he:starEach [e,.Name n p2] X.env=(false,eval e X.env) :: starEach [.Name n p2] X.env:=by rfl) (he2:starEach [.Name n p2] X.env=(false,eval (.Name n p2) X.env) :: starEach [] X.env:=by rfl)
 (hpl:(backTo pos (starEach [.Name n p2] X.env)).any (·.1)=false:=by rfl):PE X (.Call (.Name "isinstance" p) [e,.Name n p2] [] pos) (tE T X.K Y (M3.aL (M3.bIs c) (M3.ah fa M3.au))):=by
 refine PE.of (qG Cd hg hi boot_isinstance (eO ha (eO (sI hg2 hm hn (v:= .ty (kn c)) rfl hn2 hdb) je he2) he) (by decide) (by decide) he hpl) fun σ H Q ⟨μ,σ3,G,S,sd,h⟩=>?_
 refine⟨μ,σ3,G,S,sd,bZ (M3.bc h) fun d G1 v H1 μ1 u1 S1 d1 h1=>?_⟩
 have h2:M3.run (M3.bIs c [d]) G1 (fx T X.K μ H Q) (Y.x μ H):=h1
 unfold M3.run M3.bIs at h2
 dsimp only at h2
 cases q:M3.kdOf G1 d with
 |none=>rw[q]at h2;exact False.elim h2
 |some k=>
  rw[q]at h2
  exact⟨v,k,c,rfl,C6 S1 d1 q,h2 _ H1 μ1 u1 S1 rfl⟩
theorem wg{Z:Nat->M3.Hh->Prop}{x:M3.D}{G:M3.Hh}{P:Unit->M3.Hh->Prop}(h:M3.run (M3.isL x) G P Z):∃n xs,x= .ref n/\G[n]? =some (.lst xs)/\P () G:=by
 unfold M3.run M3.isL at h
 cases x with
 |ref n=>
  dsimp only at h
  cases q:G[n]? with
  |none=>rw[q]at h;exact False.elim h
  |some o=>
   rw[q]at h
   cases o with
   |lst xs=>exact⟨n,xs,rfl,q,h⟩
   |_=>exact False.elim h
 |_=>exact False.elim h
theorem yE{Z:Nat->M3.Hh->Prop}{n:Nat}{y:M3.D}{G:M3.Hh}{P:M3.D->M3.Hh->Prop}(h:M3.run (M3.iH (.ref n) y) G P Z):∃xs,G[n]? =some (.lst xs)/\xs.length < M3.aH/\P .non (G.set n (.lst (xs++[y]))):=by
 unfold M3.run M3.iH at h
 dsimp only at h
 cases q:G[n]? with
 |none=>rw[q]at h;exact False.elim h
 |some o=>
  rw[q]at h
  cases o with
  |lst xs=>
   dsimp only at h
   by_cases c:xs.length < M3.aH
   · rw[if_pos c]at h;exact⟨xs,rfl,c,h⟩
   · rw[if_neg c]at h;exact False.elim h
  |_=>exact False.elim h
theorem jj{apos:Pos}(ho:PE X o (tE T X.K Y fa))(he:PE X e (tE T X.K Y fb))
 (hbase:attributeBase o "append" X.env (eval o X.env)=eval o X.env:=by rfl)
 (hfew:((backTo pos (starEach (e :: []) X.env)).all (fun x=>!x.1)&&(backToKw pos (keywordEach [] X.env)).all (fun x=>x.1.isSome)
   &&decide ((e :: ([]:List Expr)).length+([]:List Keyword).length+(if ([]:List Keyword).isEmpty then 0 else 1) < 30))=true:=by rfl)
 (hline:(apos.endLine==pos.line)=true:=by rfl) (hs:starEach (e :: []) X.env=(false,eval e X.env) :: starEach [] X.env:=by rfl) (hplain:(backTo pos (starEach [] X.env)).any (·.1)=false:=by rfl):
 PE X (.Call (.Attribute o "append" apos) [e] [] pos) (tE T X.K Y (M3.oK fa fb)):=by
 refine PE.of (Aa PySem.F.plainAttrs_list PySem.F.slot_list_append PySem.F.type_list_append rN ho (eO he je hs) hbase hfew hline hs hplain) fun σ H Q ⟨μ,σ3,G,S,sd,h⟩=>⟨μ,σ3,G,S,sd,bZ h fun d G1 v H1 μ1 u1 S1 d1 h1=>?_⟩
 obtain⟨n,xs,rfl,q,h1⟩:=wg (M3.bc h1)
 obtain⟨a,ea,rfl⟩:=id d1
 obtain⟨vs,e1,r1⟩:=S1.obj n a _ ea q
 refine⟨.inl ⟨rfl,vs,SqL.of e1⟩,μ1,σ3,G1,S1,sd.up u1,bZ h1 fun y G2 w H2 μ2 u2 S2 d2 h2=>?_⟩
 obtain⟨xs2,q2,hl,h3⟩:=yE h2
 have ea2:=u2.at ea
 obtain⟨vs2,e2,r2⟩:=S2.obj n a _ ea2 q2
 have up:=Up.set S2 (.lst (vs2++[w])) ea2 q2 rfl
 refine⟨a,vs2,w,rfl,rfl,e2,by rw[<-r2.length,<-dO];exact hl,?_⟩
 exact h3 _ _ μ2 ((u1.trans u2).trans up) (S2.set ea2 q2 rfl rfl ⟨_,aW,aF.up up (r2.append (aF.one d2))⟩) rfl
structure wx (T:Tab) (K:PySem.W.Frag) (μ:List Addr) (H:Hp) (src:M3.Src) (J:It):Prop where
 go:∀(i:Nat) d μ' H' G',Up μ μ' H H'->Sim T K μ' H' G'->src.ck G'=true->src.xs[i]? =some d->J.go i H'
 yld:∀(i:Nat) d v μ' H' H'' G',Up μ μ' H H'->Sim T K μ' H' G'->src.ck G'=true->src.xs[i]? =some d->J.yld i H' v H''->gK H' H''/\Den K H'' μ' d v
 stop:∀μ' H' G',Up μ μ' H H'->Sim T K μ' H' G'->src.ck G'=true->J.stop src.xs.length H'
def GD(T:Tab)(K:PySem.W.Frag)(μ:List Addr)(H:Hp)(R:It->Hp->Prop)(src:M3.Src)(G':M3.Hh):Prop:=∀J H' μ',Up μ μ' H H'->Sim T K μ' H' G'->wx T K μ' H' src J->R J H'
def tI(T:Tab)(K:PySem.W.Frag)(Y:EX)(f:M3.I3):TI:=fun σ H R=>∃μ σ3 G,Sim T K μ H G/\StD K H μ σ3 σ/\M3.run (f σ3) G (GD T K μ H R) (Y.x μ H)
theorem PI.of{tg it:Expr}{t u:TI}(h:PI X tg it t)(f:∀σ H R,u σ H R->t σ H R):PI X tg it u:=fun pins s σ H R I q=>h pins s σ H R I (f σ H R q)
def Hw(K:PySem.W.Frag)(tl:TE):TI:=fun σ H R=>tl σ H fun x H1=>∃a,x= .ref a/\(((∃xs,SqL K H1 a xs)/\R (Itl K a) H1)\/((∃xs,SqT K H1 a xs)/\R (Itt K a) H1))
theorem DX{tg l:Expr}{tl:TE}(hl:PE X l tl):PI X tg l (Hw X.K tl):=by
 intro pins s σ H R I h
 refine thn (hl pins s σ H _ I h) fun v s1 ⟨x,H1,I1,r1,q1⟩=>?_
 obtain⟨a,e,q⟩:=q1
 subst e
 cases r1
 rcases q with ⟨⟨xs,hq⟩,q⟩ |⟨⟨xs,hq⟩,q⟩
 · obtain⟨its,rv,pl,hz⟩:=I1.list hq
   refine wpAny_pyIter_list pl.isList ?_
   refine⟨s1.heap.objs.size,[s1.heap.objs.size],_,_,H1,rfl,I1.kept (t':=s1.toks) fun b o e=>Heap.get?_push_of_some _ e,yy a _,⟨_,Heap.get?_push_size _ rfl,rfl,rfl⟩,fun b hb=>?_,q⟩
   have e:b=s1.heap.objs.size:=by simpa using hb
   subst e
   exact I1.A1 (qO_ _) (I1.hok.fresh (qO_ _))
 · obtain⟨its,rv,pl,hz⟩:=I1.tuple hq
   refine wpAny_pyIter_tuple (show s1.heap.IsTuple a its.toArray from pl) ?_
   refine⟨s1.heap.objs.size,[s1.heap.objs.size],_,_,H1,rfl,I1.kept (t':=s1.toks) fun b o e=>Heap.get?_push_of_some _ e,wR a _,⟨_,Heap.get?_push_size _ rfl,rfl,rfl⟩,fun b hb=>?_,q⟩
   have e:b=s1.heap.objs.size:=by simpa using hb
   subst e
   exact I1.A1 (qO_ _) (I1.hok.fresh (qO_ _))
theorem src_list{K:PySem.W.Frag}{μ:List Addr}{H:Hp}{n:Nat}{a:Addr}{xs:List M3.D}{o:M3.O}{ck:M3.Hh->Bool}(ea:μ[n]? =some a)(hck:∀G',ck G'=true->G'[n]? =some o)(ho:o= .lst xs\/o= .frz xs):wx T K μ H ⟨xs,ck⟩ (Itl K a):=by
 have key:∀{μ' H' G'},Up μ μ' H H'->Sim T K μ' H' G'->ck G'=true->∃vs,SqL K H' a vs/\aF K H' μ' xs vs:=by
  intro μ' H' G' u S c
  have ob:=S.obj n a o (u.at ea) (hck G' c)
  rcases ho with rfl |rfl
  · obtain⟨vs,e1,r⟩:=ob;exact⟨vs,SqL.of e1,r⟩
  · obtain⟨vs,e1,r⟩:=ob;exact⟨vs,e1.sq,r⟩
 refine⟨fun i d μ' H' G' u S c e=>?_,fun i d v μ' H' H'' G' u S c e y=>?_,fun μ' H' G' u S c=>?_⟩
 · obtain⟨vs,sq,r⟩:=key u S c
   obtain⟨v,e1,_⟩:=r.get e
   exact⟨vs,v,sq,e1⟩
 · obtain⟨vs,sq,r⟩:=key u S c
   obtain⟨w,e1,dw⟩:=r.get e
   have:=y.2 vs sq
   rw[e1]at this
   cases this
   obtain⟨rfl,_⟩:=y;exact⟨fun _ _ z=>z,dw⟩
 · obtain⟨vs,sq,r⟩:=key u S c
   exact⟨vs,sq,Nat.le_of_eq r.length.symm⟩
theorem yn{tg:Expr}{f:M3.E3}(h:PE X e (tE T X.K Y f)):PI X tg e (tI T X.K Y (M3.iOf f)):=by
 refine PI.of (DX h) fun σ H R ⟨μ,σ3,G,S,sd,h⟩=>⟨μ,σ3,G,S,sd,bZ h fun d G1 v H1 μ1 u1 S1 d1 h1=>?_⟩
 cases d with
 |tup ds=>
  obtain⟨a,vs,rfl,sq,r⟩:=d1
  refine⟨a,rfl,.inr ⟨⟨vs,sq⟩,h1 _ H1 μ1 u1 S1 ⟨fun i d μ' H' G' u S c e=>?_,fun i d v μ' H' H'' G' u S c e y=>?_,fun μ' H' G' u S c=>?_⟩⟩⟩
  · obtain⟨v,e1,_⟩:=r.get e
    exact⟨vs,v,SqT.keeps u.keeps sq,e1⟩
  · obtain⟨w,e1,dw⟩:=r.get e
    have:=y.2 vs (SqT.keeps u.keeps sq)
    rw[e1]at this
    cases this
    obtain⟨rfl,_⟩:=y;exact⟨fun _ _ z=>z,Den.up u dw⟩
  · exact⟨vs,SqT.keeps u.keeps sq,Nat.le_of_eq r.length.symm⟩
 |ref n=>
  obtain⟨a,ea,rfl⟩:=d1
  unfold M3.run M3.srcOf at h1
  dsimp only at h1
  cases q:G1[n]? with
  |none=>rw[q]at h1;exact False.elim h1
  |some o=>
   have ob:=S1.obj n a o ea q
   cases o with
   |lst xs=>
    rw[q]at h1
    obtain⟨vs,e1,r⟩:=ob
    exact⟨a,rfl,.inl ⟨⟨vs,SqL.of e1⟩,h1 _ H1 μ1 u1 S1 (src_list ea (fun G' c=>of_decide_eq_true c) (.inl rfl))⟩⟩
   |frz xs=>
    rw[q]at h1
    obtain⟨vs,e1,r⟩:=ob
    exact⟨a,rfl,.inl ⟨⟨vs,e1.sq⟩,h1 _ H1 μ1 u1 S1 (src_list ea (fun G' c=>of_decide_eq_true c) (.inr rfl))⟩⟩
   |_=>rw[q]at h1;exact False.elim h1
 |_=>exact False.elim h1
theorem FP{K:PySem.W.Frag}{μ:List Addr}{H:Hp}(i:Int)(n:Nat):wx T K μ H ⟨M3.rng i n,fun _=>true⟩ (Itr i n):=by
 refine⟨fun j d μ' H' G' u S c e=>(M3.kJ e).2,fun j d v μ' H' H'' G' u S c e y=>?_,fun μ' H' G' u S c=>Nat.le_of_eq M3.mU.symm⟩
 obtain⟨rfl,_⟩:=M3.kJ e
 obtain⟨rfl,y⟩:=y;exact⟨fun _ _ z=>z,y⟩
theorem jt{i:Int}(h:M3.hZ i=true):-(2 ^ 62)<=i/\i < 2 ^ 62:=of_decide_eq_true h
theorem mD{tg:Expr}(hm:X.mg "range"=none)(ha:PE X a (tE T X.K Y fa))(hg:Gl X "range":=by rfl)(hs:starEach [a] X.env=[(false,eval a X.env)]:=by rfl):PI X tg (.Call (.Name "range" p) [a] [] pos) (tI T X.K Y (M3.kb fa)):=by
 refine PI.of (yF hg hm (eO ha je hs) hs) fun σ H R ⟨μ,σ3,G,S,sd,h⟩=>⟨μ,σ3,G,S,sd,bZ h fun d G1 v H1 μ1 u1 S1 d1 h1=>?_⟩
 cases d with
 |int j=>
  cases (show v= .int j from d1)
  obtain⟨c,h1⟩:=jn (c:=M3.hZ j=true) h1
  exact⟨j,rfl,(jt c).1,(jt c).2,h1 _ H1 μ1 u1 S1 (FP 0 j.toNat)⟩
 |_=>exact False.elim h1
theorem Eg{tg:Expr}(hm:X.mg "range"=none)(ha:PE X a (tE T X.K Y fa))(hb:PE X b (tE T X.K Y fb))(hg:Gl X "range":=by rfl)(hs:starEach [a,b] X.env=[(false,eval a X.env),(false,eval b X.env)]:=by rfl)(hs2:starEach [b] X.env=[(false,eval b X.env)]:=by rfl):
 PI X tg (.Call (.Name "range" p) [a,b] [] pos) (tI T X.K Y (M3.vD fa fb)):=by
 refine PI.of (yH hg hm (eO ha (eO hb je hs2) (by rw[hs,hs2])) hs hs2) fun σ H R ⟨μ,σ3,G,S,sd,h⟩=>⟨μ,σ3,G,S,sd,bZ h fun d G1 v H1 μ1 u1 S1 d1 h1=>⟨μ1,σ3,G1,S1,sd.up u1,bZ h1 fun c G2 w H2 μ2 u2 S2 d2 h2=>?_⟩⟩
 cases d with
 |int i=>cases c with
  |int j=>
   cases (show v= .int i from d1)
   cases (show w= .int j from d2)
   obtain⟨c,h2⟩:=jn (c:=(M3.hZ i&&M3.hZ j)=true) h2
   rw[Bool.and_eq_true]at c
   exact⟨i,j,rfl,⟨(jt c.1).1,(jt c.1).2,(jt c.2).1,(jt c.2).2⟩,h2 _ H2 μ2 (u1.trans u2) S2 (FP i (j - i).toNat)⟩
  |_=>exact False.elim h2
 |_=>exact False.elim h2
theorem vf{Z:Nat->M3.Hh->Prop}{ck:M3.Hh->Bool}{body:M3.D->M3.St->M3.M (M3.Fl×M3.St)}{σ:M3.St}{G:M3.Hh}{P:M3.Fl×M3.St->M3.Hh->Prop}(h:M3.run (M3.forL ck body [] σ) G P Z):ck G=true/\P (.next,σ) G:=by
 unfold M3.run M3.forL at h
 by_cases c:ck G=true
 · rw[if_pos c]at h;exact⟨c,h⟩
 · rw[if_neg c]at h;exact False.elim h
def Dl(ck:M3.Hh->Bool)(body:M3.D->M3.St->M3.M (M3.Fl×M3.St))(r:List M3.D)(p:M3.Fl×M3.St):M3.M (M3.Fl×M3.St):=match p.1 with
 | .next=>M3.forL ck body r p.2
 | .cont=>M3.forL ck body r p.2
 | .brk=>M3.ret (.next,p.2)
 | .ret d=>M3.ret (.ret d,p.2)
theorem rU{Z:Nat->M3.Hh->Prop}{ck:M3.Hh->Bool}{body:M3.D->M3.St->M3.M (M3.Fl×M3.St)}{x:M3.D}{r:List M3.D}{σ:M3.St}{G:M3.Hh}{P:M3.Fl×M3.St->M3.Hh->Prop}(h:M3.run (M3.forL ck body (x :: r) σ) G P Z):
 ck G=true/\M3.run (M3.bnd (body x σ) (Dl ck body r)) G P Z:=by
 have e:M3.forL ck body (x :: r) σ G=if ck G then M3.bnd (body x σ) (Dl ck body r) G else none:=by
  conv=>lhs;unfold M3.forL
  rfl
 unfold M3.run at h
 rw[e]at h
 by_cases c:ck G=true
 · rw[if_pos c]at h;exact⟨c,h⟩
 · rw[if_neg c]at h;exact False.elim h
theorem sg{tg iter:Expr}{body:List Stmt}{it:M3.I3}{g:M3.D->M3.St->M3.M M3.St}{f:M3.S3}(hp:PassesOwn (model X.prog X.w) X.A X.env X.xe)(hc:X.calm=true)(hi:PI X tg iter (tI T X.K Y it))(hg:PG X tg (tG T X.K Y g))(hb:PSs X body (tS T X.K Y f))
 (hs:∀x,foldedSetIterable iter X.env x=pure x:=by intro _;rfl):PS X (.For tg iter body [] pos) (tS T X.K Y (M3.vw it g f)):=by
 refine PS.of (Am hp hc hi hg hb hs) fun D σ H ⟨μ,σ3,G,S,sd,h⟩=>⟨μ,σ3,G,S,sd,eP (M3.bc h) fun src G1 q J H1 μ1 u1 S1 sr=>?_⟩
 have q:M3.run (M3.forL src.ck (fun x σ=>M3.bnd (g x σ) f) src.xs σ3) G1 (fH T X.K μ H D) (Y.x μ1 H1):=Y.upE u1 q
 refine⟨fun i m σ' H'=>m=src.xs.length - i/\i<=src.xs.length/\∃μ' σ3' G',Up μ1 μ' H1 H'/\Sim T X.K μ' H' G'/\StD X.K H' μ' σ3' σ'/\M3.run (M3.forL src.ck (fun x σ=>M3.bnd (g x σ) f) (src.xs.drop i) σ3') G' (fH T X.K μ H D) (Y.x μ' H'),
  ⟨_,rfl,qf_ _,μ1,σ3,G1,Up.refl _ _,S1,sd.up u1,q⟩,?_⟩
 rintro i m σ' H' ⟨rfl,hi,μ',σ3',G',u',S',sd',q'⟩
 by_cases hlt:i < src.xs.length
 · rw[List.drop_eq_getElem_cons hlt]at q'
   obtain⟨c,q2⟩:=rU q'
   have ex:src.xs[i]? =some src.xs[i]:=qA_ hlt
   refine .inr ⟨sr.go i _ μ' H' G' u' S' c ex,fun σ2 H2=>∃μ2 σ4 G2,Up μ1 μ2 H1 H2/\Sim T X.K μ2 H2 G2/\StD X.K H2 μ2 σ4 σ2/\M3.run (M3.forL src.ck (fun x σ=>M3.bnd (g x σ) f) (src.xs.drop (i+1)) σ4) G2 (fH T X.K μ H D) (Y.x μ2 H2),
    fun σ2 H2 hN=>⟨_,by omega,rfl,hlt,hN⟩,fun x H'' y=>?_⟩
   obtain⟨sm,dx⟩:=sr.yld i _ x μ' H' H'' G' u' S' c ex y
   have us:Up μ' μ' H' H'':=Up.same sm
   refine⟨μ',σ3',G',_,S'.same sm,sd'.up us,dx,eP (Y.upE us (M3.bc (M3.bc q2))) fun σ5 G5 q5 σ6 H6 μ6 u6 S6 sd6=>?_⟩
   have u6:=us.trans u6
   refine⟨μ6,σ5,G5,S6,sd6,eP (Y.upE u6 q5) fun p G7 q7 σ7 H7 μ7 u7 S7 sd7=>?_⟩
   obtain⟨fl,σ8⟩:=p
   have up:=(u1.trans u').trans (u6.trans u7)
   cases fl with
   |next=>exact⟨μ7,σ8,G7,u'.trans (u6.trans u7),S7,sd7,Y.upE (u6.trans u7) q7⟩
   |cont=>exact⟨μ7,σ8,G7,u'.trans (u6.trans u7),S7,sd7,Y.upE (u6.trans u7) q7⟩
   |brk=>exact q7 σ7 H7 μ7 up S7 sd7
   |ret d=>exact q7 σ7 H7 μ7 up S7 sd7
 · have e:i=src.xs.length:=by omega
   subst e
   rw[List.drop_length]at q'
   obtain⟨c,q2⟩:=vf q'
   exact .inl ⟨sr.stop μ' H' G' u' S' c,q2 σ' H' μ' (u1.trans u') S' sd'⟩
def EX.of(T:Tab)(K:PySem.W.Frag)(E:XK):EX:=⟨fun μ H c G=>∀Ca dx H' μ',T.cls c=some Ca->Up μ μ' H H'->Sim T K μ' H' G->E (.ref Ca) dx H',fun u h Ca dx H' μ' e u' S=>h Ca dx H' μ' e (u.trans u') S⟩
def sp3(T:Tab)(K:PySem.W.Frag)(n:Nat)(f:List M3.D->M3.M M3.D):Sp:=fun vs H Q E=>vs.length=n/\∃μ ds G,Sim T K μ H G/\aF K H μ ds vs/\M3.run (f ds) G (fx T K μ H Q) ((EX.of T K E).x μ H)
structure Fn3 (P:Program) (w:World) (K:PySem.W.Frag) (mg:Str->Option Value) (base:Heap) (CX:CXT) (T:Tab) (k:Nat) (x:Str) (n:Nat) (f:List M3.D->M3.M M3.D):Prop where
 ex:∃fa fd ps,bh P w K mg base CX k fa fd ps (sp3 T K n f)/\mg x=some (.ref fa)/\PySem.W.keepIn K (.ref fa)=true/\Binds K fd ps []
 len:∀ds G (Q:M3.D->M3.Hh->Prop) (Z:Nat->M3.Hh->Prop),M3.run (f ds) G Q Z->ds.length=n
theorem x_call{CX:CXT}{E:XK}{x:Str}{k n:Nat}{f:List M3.D->M3.M M3.D}(F:Fn3 X.prog X.w X.K X.mg X.base CX T k x n f)(hr:eY k X.A)(hx:fZ CX X E)(ha:PA X (e :: es) (tA T X.K (EX.of T X.K E) f3))(hg:Gl X x:=by rfl)(hdb:(x==("__debug__":Str))=false:=by decide)
 (he:starEach (e :: es) X.env=(false,eval e X.env) :: starEach es X.env:=by rfl) (hpl:(backTo pos (starEach es X.env)).any (·.1)=false:=by rfl):PE X (.Call (.Name x p) (e :: es) [] pos) (tE T X.K (EX.of T X.K E) (M3.aL f f3)):=by
 obtain⟨fa,fd,ps,G,hm,hk,hb⟩:=F.ex
 refine PE.of (Cj G hr hg hm hk hb .nil hx ha hdb he hpl) fun σ H Q ⟨μ,σ3,G,S,sd,h⟩=>⟨μ,σ3,G,S,sd,oG h fun ds G1 vs H1 μ1 u1 S1 d1 h1=>?_⟩
 show sp3 T X.K n f (vs++[]) H1 Q E
 rw[qY_]
 exact⟨by rw[<-d1.length];exact F.len _ _ _ _ h1,μ1,ds,G1,S1,d1,eP h1 fun _ _ z=>z.up u1⟩
theorem oZ{Z:Nat->M3.Hh->Prop}{n:Nat}{pad:M3.St}{body:M3.S3}{ds:List M3.D}{G:M3.Hh}{Q:M3.D->M3.Hh->Prop}(h:M3.run (M3.fnM n pad body ds) G Q Z):ds.length=n:=by
 unfold M3.fnM at h
 exact(jn h).1
theorem StD.start{K:PySem.W.Frag}{H:Hp}{μ:List Addr}:∀{ds:List M3.D} {vs:List V} (k:Nat),aF K H μ ds vs->StD K H μ (ds.map some++List.replicate k none) (vs.map some++List.replicate k none):=by
 intro ds vs k r
 refine⟨by simp [r.length],fun i d e=>?_⟩
 by_cases h:i < ds.length
 · rw[qK_ (by simpa using h),qQ_]at e
   cases q:ds[i]? with
   |none=>rw[q]at e;cases e
   |some d'=>
    rw[q]at e
    cases e
    obtain⟨v,e1,r1⟩:=r.get q
    refine⟨v,?_,r1⟩
    rw[qK_ (by simpa using (qB_.mp e1).1),qQ_,e1];rfl
 · rw[qL_ (by simpa using h),List.getElem?_replicate]at e
   split at e <;> cases e
theorem bt{X:Cx}{E:XK}:fZ CX0 X E:=fun _ _ _ _ _ _ _ h=>h.elim
theorem cA{P:Program}{w:World}{K:PySem.W.Frag}{mg:Str->Option Value}{base:Heap}{x qual:Str}{st:Stmt}{fa:Addr}{fd:FuncData}{N ps:List Str}{k n:Nat}{pad:M3.St}{body:M3.S3}(F:Fun K x qual st fa fd)(S:aB N ps (af st))
 (hn:ps.length=n) (hpad:pad=List.replicate (N.length - n) none)
 (h:∀(cdv:Value) (A:Around) (outer:List Env) (s:Shared) (H:Hp) (E:XK),eY k (A.deeper (envOfC qual (af st) s.heap.objs.size fa cdv))->PSs (li CX0 P w K mg base N qual (af st) fa cdv A outer s H E).nox (aA st) (tS T K (EX.of T K E) body)):
 bh P w K mg base CX0 (k+1) fa fd ps (sp3 T K n (M3.fnM n pad body)):=by
 refine F.ok S (fun vs H Q E q=>by rw[hn];exact q.1) (fun cdv A outer s H vs Q E hr q=>⟨_,h cdv A outer s H E hr,?_⟩)
 obtain⟨hl,μ,ds,G,Sm,d,q⟩:=q
 unfold M3.fnM at q
 obtain⟨c,q⟩:=jn q
 have e1:L2.start N vs=vs.map some++List.replicate (N.length - n) none:=by unfold L2.start;rw[hl]
 rw[e1]
 refine⟨μ,_,G,Sm,by rw[hpad];exact StD.start _ d,eP (M3.bc q) fun r G1 q1 σ' H' μ' u S' sd'=>?_⟩
 obtain⟨fl,σ2⟩:=r
 cases fl with
 |next=>exact q1 .non H' μ' u S' rfl
 |brk=>exact False.elim q1
 |cont=>exact False.elim q1
 |ret d=>exact fun v dv=>q1 v H' μ' u S' dv
theorem fn3{P:Program}{w:World}{K:PySem.W.Frag}{mg:Str->Option Value}{base:Heap}{x qual:Str}{st:Stmt}{fa:Addr}{fd:FuncData}{N ps:List Str}{k n:Nat}{pad:M3.St}{body:M3.S3}(F:Fun K x qual st fa fd)(S:aB N ps (af st))(hm:mg x=some (.ref fa))(hb:Binds K fd ps [])
 (hn:ps.length=n) (hpad:pad=List.replicate (N.length - n) none)
 (h:∀(cdv:Value) (A:Around) (outer:List Env) (s:Shared) (H:Hp) (E:XK),eY k (A.deeper (envOfC qual (af st) s.heap.objs.size fa cdv))->PSs (li CX0 P w K mg base N qual (af st) fa cdv A outer s H E).nox (aA st) (tS T K (EX.of T K E) body)):
 Fn3 P w K mg base CX0 T (k+1) x n (M3.fnM n pad body):=⟨⟨fa,fd,ps,cA F S hn hpad h,hm,F.kp,hb⟩,fun ds G Q Z q=>oZ q⟩
end
structure Blk (X:Cx) (x:Str) (caps:List (Str×Nat)) (scope:Scope) (cl:List (Str×Addr)):Prop where
 kind:scope.kind= .function
 ES:∀y∈scope.names,y.2≠.cell
 loc:∀y∈scope.names,y.2= .local->scope.names.lookup y.1=some .local
 own:scope.names.lookup x=some .local
 Bo:closureFor scope X.env=pure cl
 nd:(x :: caps.map (·.1)).Nodup
 sub:∀y c,cl.lookup y=some c->X.env.cells.lookup y=some c
 has:∀y,((relabel scope X.env).names.lookup y=some .cell\/(relabel scope X.env).names.lookup y=some .free)->∃c,cl.lookup y=some c
 nox:cl.lookup x=none
 cap:∀(j:Nat) y i,caps[j]? =some (y,i)->X.N[i]? =some y/\(X.env.kindOf y=some .cell\/X.env.kindOf y=some .free)/\((relabel scope X.env).names.lookup y=some .cell\/(relabel scope X.env).names.lookup y=some .free)
def blk(X:Cx)(x:Str)(caps:List (Str×Nat))(scope:Scope)(cl:List (Str×Addr))(s₃:Shared)(H₃:Hp)(C:Addr)(fp:List Addr)(E':Value->Shared->Prop):Cx:=
 {X with N:=x :: caps.map (·.1),s₀:=s₃,H₀:=H₃,env:=compEnvC scope cl C X.env,outer:=X.stack,stack:=X.stack,ex:=fp,fn:=fun y=>decide (y=x),xe:=E'}
def σ0(σ:L2.St)(caps:List (Str×Nat)):L2.St:=none :: caps.map fun p=>(σ[p.2]?).join
section
variable{X:Cx}{x:Str}{caps:List (Str×Nat)}{scope:Scope}{cl:List (Str×Addr)}{pins:List (Addr×Obj)}{σ:L2.St}{H:Hp}{s₃:Shared}{fp:List Addr}{E':Value->Shared->Prop}
theorem Fi(B:Blk X x caps scope cl)(I:L2.Inv X pins σ H s₃)(hf:∀b∈fp,oj X pins H b)(hfl:∀b∈fp,b < s₃.heap.objs.size):(blk X x caps scope cl s₃ H s₃.heap.objs.size fp E').Ok where
 mod:=I.mod
 kind:=B.kind
 glob:=I.ok.glob
 blt:=I.ok.blt
 above:=qO_ _
 inj:=fun y z c h1 h2=>I.ok.inj y z c (B.sub y c h1) (B.sub z c h2)
 has:=fun y hy=>B.has y hy
 cab:=fun y c hy h=>by
  have e:y=x:=of_decide_eq_true hy
  subst e
  rw[show (blk X y caps scope cl s₃ H s₃.heap.objs.size fp E').env.cells.lookup y=cl.lookup y from rfl,B.nox]at h
  cases h
 hd:=I.ok.hd
 frames:=I.ok.frames
 stk:= .inl rfl
 exf:=fun b hb=>⟨Nat.ne_of_lt (hfl b hb),fun y c e=>(hf b hb).2.2.2.2.1 y c (B.sub y c e)⟩
 bs:=I.bs
 bsz:=Nat.le_trans I.ok.bsz I.sz
 wL:=fun b o e hb=>by
  rcases (hf b hb).2.2.2.1 with z |z
  · exact I.ok.wL b o e z
  · exact absurd (qd_ (Heap.lt_size e) (Nat.le_trans I.ok.bsz z)) (qe_ _)
 xU:=fun b hb z=>by
  rcases qS_.mp (I.jZ b z)with e |e
  · exact(hf b hb).2.1 e
  · exact(hf b hb).2.2.1 e
 nI:=I.stack
 frf:=I.oW
theorem Bs(B:Blk X x caps scope cl)(I:L2.Inv X pins σ H s₃)(hf:∀b∈fp,oj X pins H b)(hfl:∀b∈fp,b < s₃.heap.objs.size){h₁:Heap}{tk:Nat}{m:Str->Option Value}(hns:h₁.Ns s₃.heap.objs.size m)(hk:∀b o,s₃.heap.get? b=some o->h₁.get? b=some o):
 L2.Inv (blk X x caps scope cl s₃ H s₃.heap.objs.size fp E') pins (σ0 σ caps) H {s₃ with heap:=h₁,toks:=tk}:=by
 refine⟨Fi B I hf hfl,rfl,I.bare,Un.kept hk,⟨m,hns,fun i y v e1 e2 e3=>?_⟩,fun y c e=>?_,I.hok.fresh (qO_ _),fun y c e=>I.gV y c (B.sub y c e),fun p hp=>?_,I.hok.kept hk,by simp [σ0,blk]⟩
 · cases i with
   |zero=>simp [σ0]at e2
   |succ j=>
    have e2:(caps.map fun p=>(σ[p.2]?).join)[j]? =some (some v):=by simpa [σ0] using e2
    have e1:(caps.map (·.1))[j]? =some y:=by simpa [blk] using e1
    rw[qQ_]at e1 e2
    cases q:caps[j]? with
    |none=>rw[q]at e1;cases e1
    |some p=>
     obtain⟨y',i⟩:=p
     rw[q]at e1 e2
     cases e1
     have e2:(σ[i]?).join=some v:=Option.some.inj e2
     have e3:σ[i]? =some (some v):=by
      cases z:σ[i]? with
      |none=>rw[z]at e2;cases e2
      |some w=>rw[z]at e2;exact congrArg some e2
     obtain⟨h1,h2,h3⟩:=B.cap j y' i q
     obtain⟨m',_,hl⟩:=I.loc
     obtain⟨u,ru,l⟩:=hl i y' v h1 e3 (h2.elim (fun z=>.inr (.inl z)) fun z=>.inr (.inr z))
     refine⟨u,ru,.inr ⟨h3,?_⟩⟩
     rcases l with ⟨k,_⟩ |⟨_,c,ec,⟨ob,ho,hd⟩⟩
     · rcases h2 with z |z
       · rw[z]at k;cases k
       · rw[z]at k;cases k
     · obtain⟨c',ec'⟩:=B.has y' h3
       have:=B.sub y' c' ec'
       rw[ec]at this
       cases this
       exact⟨c,ec',ob,hk _ _ ho,hd⟩
 · obtain⟨v,ob,ho,hd⟩:=I.cell y c (B.sub y c e)
   exact⟨v,ob,hk _ _ ho,hd⟩
 · obtain⟨e,n,ne,nf,d⟩:=I.pin p hp
   refine⟨hk _ _ e,n,Nat.ne_of_lt (Heap.lt_size e),fun z=>?_,d⟩
   rcases qS_.mp (I.jZ p.1 z)with q |q
   · exact ne q
   · exact nf q
end
theorem Sim.lt{X:Cx}{T:Tab}{pins:List (Addr×Obj)}{σ:L2.St}{H:Hp}{s:Shared}{μ:List Addr}{G:M3.Hh}(I:L2.Inv X pins σ H s)(S:Sim T X.K μ H G):∀a∈μ,a < s.heap.objs.size:=by
 intro a ha
 obtain⟨n,hn,e⟩:=List.getElem_of_mem ha
 have e1:μ[n]? =some a:=by rw[<-e];exact qA_ hn
 have hg:n < G.length:=by rw[<-S.len];exact hn
 have ob:=S.obj n a _ e1 (qA_ hg)
 generalize G[n]=o at ob
 cases q:isF o with
 |false=>
  obtain⟨u,hu⟩:=ob.live q
  exact I.hok.lt hu
 |true=>
  cases o with
  |frz xs=>
   obtain⟨vs,sq,_⟩:=ob
   obtain⟨its,_,⟨ob',n',e',_⟩,_⟩:=I.list sq.sq
   exact Heap.lt_size e'
  |_=>cases q
def PTs(X:Cx)(ifs:List Expr)(t:TT):Prop:=
 ∀(pins:List (Addr×Obj)) (s:Shared) (σ:L2.St) (H:Hp) (Q:Bool->Hp->Prop),L2.Inv X pins σ H s->t σ H Q->
  wpAny (model X.prog X.w) X.A (forIn ifs true fun c r=>if r=true then do let ok <-isTrue c X.env (eval c X.env);pure (ForInStep.yield ok)else pure (ForInStep.yield r)) (TP X pins σ Q) X.xe s
theorem iO{X:Cx}{T:Tab}{Y:EX}:PTs X [] (tT T X.K Y M3.nr):=fun pins s σ H Q I ⟨μ,σ3,G,S,sd,h⟩=>wpAny_tests_nil ⟨H,I,h H μ (Up.refl _ _) S⟩
theorem BK{X:Cx}{T:Tab}{Y:EX}{c:Expr}{f:M3.T3}(h:PT X c (tT T X.K Y f)):PTs X [c] (tT T X.K Y f):=fun pins s σ H Q I q=>wpAny_tests_one (h pins s σ H Q I q)
theorem yu{Z:Nat->M3.Hh->Prop}{ck:M3.Hh->Bool}{cond:M3.D->M3.M Bool}{elt:M3.D->M3.M M3.D}{acc:List M3.D}{G:M3.Hh}{P:List M3.D->M3.Hh->Prop}(h:M3.run (M3.df ck cond elt [] acc) G P Z):ck G=true/\P acc G:=by
 unfold M3.run M3.df at h
 by_cases c:ck G=true
 · rw[if_pos c]at h;exact⟨c,h⟩
 · rw[if_neg c]at h;exact False.elim h
def AO(ck:M3.Hh->Bool)(cond:M3.D->M3.M Bool)(elt:M3.D->M3.M M3.D)(x:M3.D)(r acc:List M3.D)(c:Bool):M3.M (List M3.D):=
 if c then M3.bnd (elt x) (fun y=>if acc.length < M3.aH then M3.df ck cond elt r (acc++[y])else M3.fail)else M3.df ck cond elt r acc
theorem wU{Z:Nat->M3.Hh->Prop}{ck:M3.Hh->Bool}{cond:M3.D->M3.M Bool}{elt:M3.D->M3.M M3.D}{x:M3.D}{r acc:List M3.D}{G:M3.Hh}{P:List M3.D->M3.Hh->Prop}(h:M3.run (M3.df ck cond elt (x :: r) acc) G P Z):
 ck G=true/\M3.run (M3.bnd (cond x) (AO ck cond elt x r acc)) G P Z:=by
 have e:M3.df ck cond elt (x :: r) acc G=if ck G then M3.bnd (cond x) (AO ck cond elt x r acc) G else none:=by
  conv=>lhs;unfold M3.df
  rfl
 unfold M3.run at h
 rw[e]at h
 by_cases c:ck G=true
 · rw[if_pos c]at h;exact⟨c,h⟩
 · rw[if_neg c]at h;exact False.elim h
theorem StD.fE{K:PySem.W.Frag}{H:Hp}{μ:List Addr}{σ3:M3.St}{σ:L2.St}(sd:StD K H μ σ3 σ)(caps:List (Str×Nat))(o:Option V):StD K H μ (none :: M3.fE σ3 (caps.map (·.2))) (o :: caps.map fun p=>(σ[p.2]?).join):=by
 refine⟨by simp [M3.fE],fun i d e=>?_⟩
 cases i with
 |zero=>simp at e
 |succ j=>
  have e:(M3.fE σ3 (caps.map (·.2)))[j]? =some (some d):=by simpa using e
  unfold M3.fE at e
  rw[qQ_,qQ_]at e
  cases q:caps[j]? with
  |none=>rw[q]at e;cases e
  |some p=>
   rw[q]at e
   have e:(σ3[p.2]?).join=some d:=Option.some.inj e
   have e3:σ3[p.2]? =some (some d):=by
    cases z:σ3[p.2]? with
    |none=>rw[z]at e;cases e
    |some w=>rw[z]at e;exact congrArg some e
   obtain⟨v,h1,h2⟩:=sd.at_ _ _ e3
   refine⟨v,?_,h2⟩
   show (caps.map fun p=>(σ[p.2]?).join)[j]? =some (some v)
   rw[qQ_,q]
   show some (σ[p.2]?).join=some (some v)
   rw[h1];rfl
section
variable{X:Cx}{T:Tab}{Y:EX}{elt iter:Expr}{x:Str}{px:Pos}{ifs:List Expr}{scope:Scope}{cl:List (Str×Addr)}{caps:List (Str×Nat)}{pos:Pos}{fe:M3.E3}{ft:M3.T3}
theorem Up.off{μ μ1:List Addr}{H H1:Hp}{p:Addr}{ws ws':List V}(u:Up μ μ1 H H1)(hp:H p=none)(hw:H1 p=some (.lst ws)):Up μ μ1 H (upd H1 p (.lst ws')):=by
 refine⟨u.pre,⟨fun b xs e=>?_,fun b o v e=>?_⟩,fun b o e n=>?_⟩
 · rw[aP (dq e hp)];exact u.keeps.tup b xs e
 · rw[aP (dq e hp)];exact u.keeps.frz b o v e
 · rw[aP (dq e hp)];exact u.rest b o e n
theorem Sim.off{T:Tab}{K:PySem.W.Frag}{μ:List Addr}{H:Hp}{G:M3.Hh}{p:Addr}{ws ws':List V}(S:Sim T K μ H G)(hp:p∉μ)(hw:H p=some (.lst ws)):Sim T K μ (upd H p (.lst ws')) G:=by
 have k:Keeps H (upd H p (.lst ws')):=Keeps.write hw (fun _ z=>nomatch z) (fun _ _ z=>nomatch z)
 refine⟨S.len,fun n a o e1 e2=>(S.obj n a o e1 e2).mono (List.prefix_refl _) k fun y e=>?_,S.inj⟩
 rw[aP (by rintro rfl;exact hp (qD_ e1))]
 exact e
theorem DA{α:Type}{K:PySem.W.Frag}{μ:List Addr}{H:Hp}{m:M3.M M3.D}{k:M3.D->M3.M α}{G:M3.Hh}{P:α->M3.Hh->Prop}{R:VK}{Z:Nat->M3.Hh->Prop}(h:M3.run (M3.bnd m k) G P Z)(hz:∀c G,Z c G->Y.x μ H c G)
 (f:∀d G1 v H1 μ1,Up μ μ1 H H1->Sim T K μ1 H1 G1->Den K H1 μ1 d v->M3.run (k d) G1 P Z->R v H1):M3.run m G (fx T K μ H R) (Y.x μ H):=
 M3.az (M3.bc h) (fun d G1 q v H1 μ1 u S r=>f d G1 v H1 μ1 u S r q) hz
theorem Ft{α:Type}{K:PySem.W.Frag}{μ:List Addr}{H:Hp}{m:M3.M Bool}{k:Bool->M3.M α}{G:M3.Hh}{P:α->M3.Hh->Prop}{R:Bool->Hp->Prop}{Z:Nat->M3.Hh->Prop}(h:M3.run (M3.bnd m k) G P Z)(hz:∀c G,Z c G->Y.x μ H c G)
 (f:∀b G1 H1 μ1,Up μ μ1 H H1->Sim T K μ1 H1 G1->M3.run (k b) G1 P Z->R b H1):M3.run m G (ox T K μ H R) (Y.x μ H):=
 M3.az (M3.bc h) (fun d G1 q H1 μ1 u S=>f d G1 H1 μ1 u S q) hz
structure Ho (X:Cx) (T:Tab) (pins:List (Addr×Obj)) (σ:L2.St) (μ:List Addr) (H:Hp) (P:List M3.D->M3.Hh->Prop) (sz:Nat) (p C:Addr) (s':Shared):Prop where
 ex:∃ys ws H' μ' G',L2.Inv X pins σ H' s'/\Up μ μ' H H'/\Sim T X.K μ' H' G'/\H' p=some (.lst ws)/\p∉μ'/\aF X.K H' μ' ys ws/\P ys G'/\H' C=none/\H p=none
 ns:∃m,s'.heap.Ns C m
 ge:sz<=C
theorem rE(B:Blk X x caps scope cl)(hc:X.calm=true)(he:∀s₃ H₃ C fp E',PE (blk X x caps scope cl s₃ H₃ C fp E') elt (tE T X.K Y fe))(ht:∀s₃ H₃ C fp E',PTs (blk X x caps scope cl s₃ H₃ C fp E') ifs (tT T X.K Y ft))
 {pins:List (Addr×Obj)} {σ:L2.St} {H:Hp} {s₂:Shared} {it:Addr} {fp:List Addr} {tn:Nat->Heap->Prop} {J:It} {μ:List Addr} {σ3:M3.St} {G:M3.Hh} {src:M3.Src} {E:Value->Shared->Prop}
 (I:L2.Inv X pins σ H s₂) (Tn:Turn X.prog X.w X.K (.Name x px) J fp it tn) (st:tn 0 s₂.heap) (hf:∀b∈fp,oj X pins H b) (S:Sim T X.K μ H G) (sd:StD X.K H μ σ3 σ) (sr:wx T X.K μ H src J)
 {P:List M3.D->M3.Hh->Prop} (h:M3.run (M3.df src.ck (fun z=>ft (some z :: M3.fE σ3 (caps.map (·.2)))) (fun z=>fe (some z :: M3.fE σ3 (caps.map (·.2)))) src.xs []) G P (Y.x μ H))
 {RR:Value->Addr->Result->Shared->Prop} (fin:∀p C s',Ho X T pins σ μ H P s₂.heap.objs.size p C s'->RR (.ref p) C (.ok .next) s'):
 wpAny (model X.prog X.w) X.A (newList []) (fun acc s₃=>wpAny (model X.prog X.w) X.A (newFunctionEnv scope X.env.globals cl [] X.env.qual none .none (some X.env)) (fun cenv s₄=>
  codeAny (model X.prog X.w) X.A (.compStart (.ListComp elt [⟨.Name x px,iter,ifs,0⟩] scope pos) 0 (.ref it) acc {cenv with scope:=relabel scope X.env}) (RR acc cenv.locals) s₄) E s₃) E s₂:=by
 refine wpAny_newObj_type (wpAny_newFunctionEnv B.ES (by intro y hy;simp at hy) (fun h₁ hns₁ hsb₁=>?_) B.kind)
 have hp0:H s₂.heap.objs.size=none:=I.hok.fresh (qO_ _)
 have I3:L2.Inv X pins σ (upd H s₂.heap.objs.size (.lst [])) {s₂ with heap:=s₂.heap.push {cls:= .type "list",data:= .seq ([]:List Value).toArray},toks:=s₂.toks}:=
  I.laid (t':=s₂.toks) (fun b u e=>Heap.get?_push_of_some _ e) (qO_ _) ⟨qf_ _,[],0,.nil,Heap.get?_push_size _ rfl⟩
 have hpμ:s₂.heap.objs.size∉μ:=fun z=>qe_ _ (S.lt I _ z)
 have S3:=S.same (gK.new (.lst []) hp0)
 have up0:Up μ μ H (upd H s₂.heap.objs.size (.lst [])):=Up.same (gK.new _ hp0)
 have hfl:∀b∈fp,b < s₂.heap.objs.size:=fun b hb=>by
  obtain⟨o,e,_⟩:=Tn.obj 0 _ st b hb
  exact Heap.lt_size e
 have hf3:∀b∈fp,oj X pins (upd H s₂.heap.objs.size (.lst [])) b:=fun b hb=>⟨by rw[aP (Nat.ne_of_lt (hfl b hb))];exact(hf b hb).1,(hf b hb).2⟩
 generalize hpp:s₂.heap.objs.size=p at*
 generalize hH3:upd H p (.lst [])=H₃ at*
 have hpH:H₃ p=some (.lst []):=by rw[<-hH3];exact aW
 generalize hs3:({s₂ with heap:=s₂.heap.push {cls:= .type "list",data:= .seq ([]:List Value).toArray},toks:=s₂.toks}:Shared)=s₃ at*
 have hsz3:s₃.heap.objs.size=p+1:=by rw[<-hs3];show (s₂.heap.push _).objs.size=p+1;rw[Heap.size_push,hpp]
 have hfl3:∀b∈fp,b < s₃.heap.objs.size:=fun b hb=>by rw[hsz3];exact Nat.lt_succ_of_lt (hfl b hb)
 have e3:s₂.heap.push {cls:= .type "list",data:= .seq ([]:List Value).toArray}=s₃.heap:=by rw[<-hs3]
 have keep1:∀b o,s₃.heap.get? b=some o->h₁.get? b=some o:=fun b o e=>(hsb₁.2 b (Nat.ne_of_lt (Heap.lt_size e))).trans (Heap.get?_push_of_some _ e)
 generalize hC:s₃.heap.objs.size=C at*
 have I4:∀E',L2.Inv (blk X x caps scope cl s₃ H₃ C fp E') pins (σ0 σ caps) H₃ {s₃ with heap:=h₁,toks:=s₃.toks+([]:List (Str×Value)).length}:=fun E'=>by
  subst hC
  exact Bs B I3 hf3 hfl3 hns₁ keep1
 have hch:∀b∈fp,(b∈X.ex\/X.s₀.heap.objs.size<=b)/\b≠X.env.locals/\(∀x c,X.env.cells.lookup x=some c->c≠b)/\∀q∈X.pn++pins,q.1≠b:=fun b hb=>⟨(hf b hb).2.2.2.1,(hf b hb).2.1,(hf b hb).2.2.2.2.1,(hf b hb).2.2.2.2.2⟩
 have tn1:tn 0 h₁:=Tn.keep 0 _ _ st fun b hb o e=>keep1 b o (by rw[<-e3];exact Heap.get?_push_of_some _ e)
 have loop:∀s₄:Shared,s₄={s₃ with heap:=h₁,toks:=s₃.toks+([]:List (Str×Value)).length}->
  codeAny (model X.prog X.w) X.A (.compLoop (.ListComp elt [⟨.Name x px,iter,ifs,0⟩] scope pos) 0 (.ref it) (.ref p) (compEnvC scope cl C X.env)) (RR (.ref p) C) s₄:=by
  rintro s₄ rfl
  generalize hE:notedBy (model X.prog X.w) X.A (compEnvC scope cl C X.env) (fun e s'=>RR (.ref p) C (.error e) s')=E'
  refine codeAny_compLoop_tests (fun k s'=>∃(i:Nat),∃ys ws o H' μ' G',L2.Inv (blk X x caps scope cl s₃ H₃ C fp E') pins (o :: caps.map fun q=>(σ[q.2]?).join) H' s'/\tn i s'.heap/\(∀b∈fp,H' b=none)/\i<=src.xs.length/\k=src.xs.length+1 - i/\
   Up μ μ' H H'/\Sim T X.K μ' H' G'/\H' p=some (.lst ws)/\p∉μ'/\aF X.K H' μ' ys ws/\M3.run (M3.df src.ck (fun z=>ft (some z :: M3.fE σ3 (caps.map (·.2)))) (fun z=>fe (some z :: M3.fE σ3 (caps.map (·.2)))) (src.xs.drop i) ys) G' P (Y.x μ H)) ?_ (src.xs.length+1)
   ⟨0,[],[],none,H₃,μ,G,I4 E',tn1,fun b hb=>(hf3 b hb).1,qf_ _,rfl,up0,S3,hpH,hpμ,rfl,h⟩
  rintro k s' ⟨i,ys,ws,o,H',μ',G',I',tn',fr',hi,rfl,up',S',hpw,hpm,dws,q'⟩
  rw[hE]
  have fpok:∀{H'':Hp},(∀b∈fp,H'' b=none)->∀b∈fp,oj (blk X x caps scope cl s₃ H₃ C fp E') pins H'' b:=fun {H''} hn b hb=>by
   refine⟨hn b hb,?_,fun z=>?_,.inl hb,fun y c e=>(hf b hb).2.2.2.2.1 y c (B.sub y c e),(hf b hb).2.2.2.2.2⟩
   · exact Nat.ne_of_lt (hfl3 b hb)
   · rcases qS_.mp (I3.jZ b z)with e |e
     · exact(hf b hb).2.1 e
     · exact(hf b hb).2.2.1 e
  by_cases hlt:i < src.xs.length
  · rw[List.drop_eq_getElem_cons hlt]at q'
    obtain⟨c,q2⟩:=wU q'
    have ex:src.xs[i]? =some src.xs[i]:=qA_ hlt
    generalize src.xs[i]=d at ex q2
    refine wpAny_mono (Tn.item (blk X x caps scope cl s₃ H₃ C fp E') rfl rfl rfl hc i pins s' _ H' E' I' (fpok fr') tn' (sr.go i d μ' H' G' up' S' c ex)) (fun r s1 ⟨u,hr,h1⟩=>?_) fun _ _ z=>z
    subst hr
    have go:wpAny (model X.prog X.w) X.A (letOwnedTupleGo (.Name x px) (.ref it) u >>= fun _=>assign (.Name x px) (compEnvC scope cl C X.env) u) (fun _ s₂=>
     wpAny (model X.prog X.w) X.A (forIn ifs true fun c r=>if r=true then do let ok <-isTrue c (compEnvC scope cl C X.env) (eval c (compEnvC scope cl C X.env));pure (ForInStep.yield ok)else pure (ForInStep.yield r)) (fun ok s₃'=>
      if ok=true then wpAny (model X.prog X.w) X.A (eval elt (compEnvC scope cl C X.env)) (fun y s₄=>
       wpAny (model X.prog X.w) X.A (call (.builtin "list.append") [.ref p,y]) (fun _ s₅=>∃m,m < src.xs.length+1 - i/\∃(i:Nat),∃ys ws o H' μ' G',L2.Inv (blk X x caps scope cl s₃ H₃ C fp E') pins (o :: caps.map fun q=>(σ[q.2]?).join) H' s₅/\tn i s₅.heap/\(∀b∈fp,H' b=none)/\i<=src.xs.length/\m=src.xs.length+1 - i/\
    Up μ μ' H H'/\Sim T X.K μ' H' G'/\H' p=some (.lst ws)/\p∉μ'/\aF X.K H' μ' ys ws/\M3.run (M3.df src.ck (fun z=>ft (some z :: M3.fE σ3 (caps.map (·.2)))) (fun z=>fe (some z :: M3.fE σ3 (caps.map (·.2)))) (src.xs.drop i) ys) G' P (Y.x μ H)) E' s₄) E' s₃'
     else ∃m,m < src.xs.length+1 - i/\∃(i:Nat),∃ys ws o H' μ' G',L2.Inv (blk X x caps scope cl s₃ H₃ C fp E') pins (o :: caps.map fun q=>(σ[q.2]?).join) H' s₃'/\tn i s₃'.heap/\(∀b∈fp,H' b=none)/\i<=src.xs.length/\m=src.xs.length+1 - i/\
    Up μ μ' H H'/\Sim T X.K μ' H' G'/\H' p=some (.lst ws)/\p∉μ'/\aF X.K H' μ' ys ws/\M3.run (M3.df src.ck (fun z=>ft (some z :: M3.fE σ3 (caps.map (·.2)))) (fun z=>fe (some z :: M3.fE σ3 (caps.map (·.2)))) (src.xs.drop i) ys) G' P (Y.x μ H)) E' s₂) E' s1:=by
     refine wpAny_bind (thn h1 fun _ s2 ⟨xv,H'',I5,r5,y5,tn5,fr5⟩=>?_)
     obtain⟨sm,dx⟩:=sr.yld i d xv μ' H' H'' G' up' S' c ex y5
     have us:Up μ' μ' H' H'':=Up.same sm
     have up':=up'.trans us
     have S':=S'.same sm
     have hpw:=sm _ _ hpw
     have dws:=aF.up us dws
     have I5':=I5.pinned (fpok fr5) (Tn.obj _ _ tn5)
     have back:∀{σ7:L2.St} {H7:Hp} {s7:Shared},L2.Inv (blk X x caps scope cl s₃ H₃ C fp E') (pins++pf fp s2.heap) σ7 H7 s7->tn (i+1) s7.heap/\∀b∈fp,H7 b=none:=fun {σ7 H7 s7} I7=>by
      refine⟨Tn.keep _ _ _ tn5 fun b hb ob eb=>(I7.pin (b,ob) (qE_ _ (qE_ _ (jF hb eb)))).1,fun b hb=>?_⟩
      obtain⟨ob,eb,_⟩:=Tn.obj _ _ tn5 b hb
      exact(I7.pin (b,ob) (qE_ _ (qE_ _ (jF hb eb)))).2.1
     refine thn (sh (X:=blk X x caps scope cl s₃ H₃ C fp E') (i:=0) (pos:=px) B.nd rfl (.inl (lookup_relabel_local B.own)) (.inl (qZ_ rfl)) _ s2 _ _ xv u (fun σ2 H2=>σ2=some xv :: caps.map (fun q=>(σ[q.2]?).join)/\H2=H'') I5' r5 ⟨rfl,rfl⟩) fun _ s3 ⟨σ6,H6,I6,e6,e7⟩=>?_
     subst e6 e7
     have sd6:StD X.K H6 μ' (some d :: M3.fE σ3 (caps.map (·.2))) (some xv :: caps.map fun q=>(σ[q.2]?).join):=((sd.up up').fE caps (some xv)).set 0 dx
     refine thn (ht s₃ H₃ C fp E' _ s3 _ H6 (fun b H8=>∃μ8 G8,Up μ' μ8 H6 H8/\Sim T X.K μ8 H8 G8/\M3.run (AO src.ck (fun z=>ft (some z :: M3.fE σ3 (caps.map (·.2)))) (fun z=>fe (some z :: M3.fE σ3 (caps.map (·.2)))) d (src.xs.drop (i+1)) ys b) G8 P (Y.x μ H)) I6
      ⟨μ',_,G',S',sd6,Ft (Y:=Y) q2 (fun _ _ z=>Y.up up' z) fun b G8 H8 μ8 u8 S8 h8=>⟨μ8,G8,u8,S8,h8⟩⟩) fun b s4 ⟨H8,I8,μ8,G8,u8,S8,h8⟩=>?_
     obtain⟨hpw8,hpm8⟩:=u8.rest p _ hpw hpm
     cases b with
     |false=>
      obtain⟨tn8,fr8⟩:=back I8
      exact⟨_,by omega,i+1,ys,ws,some xv,H8,μ8,G8,I8.kA,tn8,fr8,hlt,rfl,up'.trans u8,S8,hpw8,hpm8,aF.up u8 dws,h8⟩
     |true=>
      refine thn (he s₃ H₃ C fp E' _ s4 _ H8 (fun v H9=>∃y μ9 G9,Up μ8 μ9 H8 H9/\Sim T X.K μ9 H9 G9/\Den X.K H9 μ9 y v/\M3.run (if ys.length < M3.aH then M3.df src.ck (fun z=>ft (some z :: M3.fE σ3 (caps.map (·.2)))) (fun z=>fe (some z :: M3.fE σ3 (caps.map (·.2)))) (src.xs.drop (i+1)) (ys++[y])else M3.fail) G9 P (Y.x μ H)) I8
       ⟨μ8,_,G8,S8,sd6.up u8,DA (Y:=Y) h8 (fun _ _ z=>Y.up (up'.trans u8) z) fun y G9 v H9 μ9 u9 S9 d9 h9=>⟨y,μ9,G9,u9,S9,d9,h9⟩⟩) fun yv s5 ⟨v,H9,I9,rv,y,μ9,G9,u9,S9,d9,h9⟩=>?_
      obtain⟨hpw9,hpm9⟩:=u9.rest p _ hpw8 hpm8
      obtain⟨hl,h9⟩:=jn h9
      have dws9:=aF.up (u8.trans u9) dws
      refine thn (rN (X:=blk X x caps scope cl s₃ H₃ C fp E') _ s5 _ H9 (.ref p) [v] (.ref p) [yv] (fun _ H10=>H10=upd H9 p (.lst (ws++[v]))) I9 rfl (.cons rv .nil) ⟨p,ws,v,rfl,rfl,hpw9,by rw[<-dws9.length,<-dO];exact hl,rfl⟩) fun _ s6 ⟨_,H10,I10,_,e10⟩=>?_
      subst e10
      obtain⟨tn10,fr10⟩:=back I10
      have k10:Keeps H9 (upd H9 p (.lst (ws++[v]))):=Keeps.write hpw9 (fun _ z=>nomatch z) (fun _ _ z=>nomatch z)
      exact⟨_,by omega,i+1,ys++[y],ws++[v],some xv,_,μ9,G9,I10.kA,tn10,fr10,hlt,rfl,((up'.trans u8).trans u9).off hp0 hpw9,S9.off hpm9 hpw9,aW,hpm9,aF.mono (List.prefix_refl _) k10 (dws9.append (aF.one d9)),h9⟩
    exact go
  · have e:i=src.xs.length:=by omega
    subst e
    rw[List.drop_length]at q'
    obtain⟨c,q2⟩:=yu q'
    refine wpAny_mono (Tn.done (blk X x caps scope cl s₃ H₃ C fp E') rfl rfl rfl hc _ pins s' _ H' E' I' (fpok fr') tn' (sr.stop μ' H' G' up' S' c)) (fun r s1 ⟨hr,I5⟩=>?_) fun _ _ z=>z
    subst hr
    have I6:L2.Inv X pins σ H' s1:=I3.Bb (ch:=fp) I5.os I5.base I5.hok I5.bare hch
    obtain⟨m,hm,_⟩:=I5.loc
    exact fin p C s1 ⟨⟨ys,ws,H',μ',G',I6,up',S',hpw,hpm,dws,q2,I5.free,hp0⟩,⟨m,hm⟩,by rw[hsz3];exact Nat.le_succ _⟩
 exact codeAny_compStart_list (loop _ rfl) (Tn.self _ 0 _ _ _ tn1 (loop _ rfl))
end
theorem Sim.adopt{T:Tab}{K:PySem.W.Frag}{μ:List Addr}{H:Hp}{G:M3.Hh}{p:Addr}{ws:List V}{ys:List M3.D}(S:Sim T K μ H G)(hp:p∉μ)(hw:H p=some (.lst ws))(d:aF K H μ ys ws):Sim T K (μ++[p]) H (G++[.lst ys]):=by
 have pre:μ <+: μ++[p]:=⟨[p],rfl⟩
 have old:∀(n:Nat) a o',(μ++[p])[n]? =some a->(G++[.lst ys])[n]? =some o'->(μ[n]? =some a/\G[n]? =some o')\/(n=G.length/\a=p/\o'= .lst ys):=by
  intro n a o' e1 e2
  by_cases h:n < G.length
  · rw[qK_ (by rw[S.len];exact h)]at e1
    rw[qK_ h]at e2
    exact .inl ⟨e1,e2⟩
  · have hn:n=G.length:=by
     have:=(qB_.mp e2).1
     rw[qN_]at this
     simp at this
     omega
    subst hn
    rw[<-S.len]at e1
    simp at e1 e2
    exact .inr ⟨rfl,e1.symm,e2.symm⟩
 refine⟨by simp [S.len],fun n a o' e1 e2=>?_,fun n m a o1 o2 hnm e1 e2 e3 e4=>?_⟩
 · rcases old n a o' e1 e2 with ⟨h1,h2⟩ |⟨_,rfl,rfl⟩
   · exact(S.obj n a o' h1 h2).mono pre (Keeps.refl _) fun _ z=>z
   · exact⟨ws,hw,aF.mono pre (Keeps.refl _) d⟩
 · rcases old n a o1 e1 e3 with ⟨h1,h2⟩ |⟨rfl,rfl,rfl⟩
   · rcases old m a o2 e2 e4 with ⟨h3,h4⟩ |⟨rfl,rfl,rfl⟩
     · exact S.inj n m a o1 o2 hnm h1 h3 h2 h4
     · exact absurd (qD_ h1) hp
   · rcases old m a o2 e2 e4 with ⟨h3,h4⟩ |⟨h3,_,_⟩
     · exact absurd (qD_ h3) hp
     · exact absurd h3.symm hnm
theorem Up.adopt{μ μ':List Addr}{H H':Hp}{p:Addr}(u:Up μ μ' H H')(hp:H p=none):Up μ (μ'++[p]) H H':=
 ⟨u.pre.trans ⟨[p],rfl⟩,u.keeps,fun b o e n=>⟨(u.rest b o e n).1,fun z=>by
   rcases qG_.mp z with z |z
   · exact(u.rest b o e n).2 z
   · simp at z;subst z;rw[hp]at e;cases e⟩⟩
section
variable{X:Cx}{T:Tab}{Y:EX}{elt iter:Expr}{x:Str}{px:Pos}{ifs:List Expr}{scope:Scope}{cl:List (Str×Addr)}{caps:List (Str×Nat)}{pos:Pos}{fe:M3.E3}{ft:M3.T3}{it:M3.I3}
theorem xG{pins:List (Addr×Obj)}{σ σ':L2.St}{H H':Hp}{s₂ s':Shared}{C:Addr}(I:L2.Inv X pins σ H s₂)(hge:s₂.heap.objs.size<=C)(I':L2.Inv X pins σ' H' s')(hC:H' C=none){h':Heap}(hs:Heap.SameBut C s'.heap h'):L2.Inv X pins σ' H' {s' with heap:=h'}:=by
 refine I'.turned (t':=s'.toks) (it:=C) (fun b o hb e=>(hs.2 b hb).trans e) hC (Nat.ne_of_gt (qd_ I.lt hge)) (.inr (Nat.le_trans I.sz hge)) (fun y c e z=>?_) fun q hq z=>?_
 · obtain⟨v,w⟩:=I.cell y c e
   exact absurd (qd_ w.lt (by rw[z];exact hge)) (qe_ _)
 · exact absurd (qd_ (Heap.lt_size (I.pin q hq).1) (by rw[z];exact hge)) (qe_ _)
theorem ol(B:Blk X x caps scope cl)(hc:X.calm=true)(hi:PI X (.Name x px) iter (tI T X.K Y it))(ht:∀s₃ H₃ C fp E',PTs (blk X x caps scope cl s₃ H₃ C fp E') ifs (tT T X.K Y ft))(he:∀s₃ H₃ C fp E',PE (blk X x caps scope cl s₃ H₃ C fp E') elt (tE T X.K Y fe))
 (hs:∀x,foldedSetIterable iter X.env x=pure x:=by intro _;rfl):PE X (.ListComp elt [⟨.Name x px,iter,ifs,0⟩] scope pos) (tE T X.K Y (M3.jz it (caps.map (·.2)) ft fe)):=by
 intro pins s σ H Q I ⟨μ,σ3,G,S,sd,h⟩
 rw[eval_ListComp]
 refine wpAny_comprehension_free (use:=none) rfl hs B.Bo B.kind B.loc (thn (hi pins s σ H (fun J H1=>∃src μ1 G1,Up μ μ1 H H1/\Sim T X.K μ1 H1 G1/\wx T X.K μ1 H1 src J/\
  M3.run (M3.bnd (M3.df src.ck (fun x=>ft (some x :: M3.fE σ3 (caps.map (·.2)))) (fun x=>fe (some x :: M3.fE σ3 (caps.map (·.2)))) src.xs []) fun ys=>M3.new (.lst ys)) G1 (fx T X.K μ H Q) (Y.x μ1 H1)) I
  ⟨μ,σ3,G,S,sd,eP (M3.bc h) fun src G1 q J H1 μ1 u1 S1 sr=>⟨src,μ1,G1,u1,S1,sr,Y.upE u1 q⟩⟩) fun v s1 h1=>thn h1 fun itv s2 h2=>?_)
 obtain⟨ita,fp,tn,J,H1,e,I2,Tn,st2,f2,src,μ1,G1,u1,S1,sr,q⟩:=h2
 subst e
 refine rE (RR:=fun acc C=>compPost (model X.prog X.w) X.A X.xe none (EP X pins σ Q) acc C) B hc he ht I2 Tn st2 f2 S1 (sd.up u1) sr (M3.bc q) fun p C s' ce=>?_
 obtain⟨⟨ys,ws,H',μ',G',I',u',S',hpw,hpm,d,hP,hC,hp0⟩,⟨m,hm⟩,hge⟩:=ce
 refine⟨m,hm,fun h' hsb=>⟨.ref p,H',xG I2 hge I' hC hsb,rfl,?_⟩⟩
 refine hP _ H' (μ'++[p]) (u1.trans (u'.adopt hp0)) (S'.adopt hpm hpw d) ⟨p,?_,rfl⟩
 rw[<-S'.len];simp
theorem nV{i:Nat}{y:Str}{py spos:Pos}(B:Blk X x caps scope cl)(hc:X.calm=true)(hN:X.N.Nodup)(hiN:X.N[i]? =some y)(hy:X.env.scope.names.lookup y=some .local)
 (hi:PI X (.Name x px) iter (tI T X.K Y it)) (ht:∀s₃ H₃ C fp E',PTs (blk X x caps scope cl s₃ H₃ C fp E') ifs (tT T X.K Y ft)) (he:∀s₃ H₃ C fp E',PE (blk X x caps scope cl s₃ H₃ C fp E') elt (tE T X.K Y fe))
 (hsw:swapsWith (.ListComp elt [⟨.Name x px,iter,ifs,0⟩] scope pos) (some (.Name y py)) spos.line X.env=pure true:=by rfl)
 (hs:∀x,foldedSetIterable iter X.env x=pure x:=by intro _;rfl):PS X (.Assign [.Name y py] (.ListComp elt [⟨.Name x px,iter,ifs,0⟩] scope pos) spos) (tS T X.K Y (M3.cR i (M3.jz it (caps.map (·.2)) ft fe))):=by
 intro pins s σ H D I ⟨μ,σ3,G,S,sd,h⟩
 rw[exec_Assign_Name_used _ _ _ _ hsw]
 refine wpAny_bind (wpAny_standAt (wpAny_bind ?_))
 show wpAny _ X.A (do let _ <-comprehension (.ListComp elt [⟨.Name x px,iter,ifs,0⟩] scope pos) scope X.env _ (newList []) false (eval iter X.env) (some (assign (.Name y py) X.env))) _ _ s
 refine wpAny_bind (wpAny_mono (wpAny_comprehension_free (use:=some (assign (.Name y py) X.env)) (Q:=fun _ s'=>SP X pins D .next s') rfl hs B.Bo B.kind B.loc
  (thn (hi pins s σ H (fun J H1=>∃src μ1 G1,Up μ μ1 H H1/\Sim T X.K μ1 H1 G1/\wx T X.K μ1 H1 src J/\
  M3.run (M3.bnd (M3.df src.ck (fun x=>ft (some x :: M3.fE σ3 (caps.map (·.2)))) (fun x=>fe (some x :: M3.fE σ3 (caps.map (·.2)))) src.xs []) fun ys=>M3.bnd (M3.new (.lst ys)) fun d=>M3.ret (.next,σ3.set i (some d))) G1 (fH T X.K μ H D) (Y.x μ1 H1)) I
  ⟨μ,σ3,G,S,sd,eP (M3.bc (by
    have h:M3.run (M3.bnd (M3.bnd (it σ3) fun src=>M3.bnd (M3.df src.ck (fun x=>ft (some x :: M3.fE σ3 (caps.map (·.2)))) (fun x=>fe (some x :: M3.fE σ3 (caps.map (·.2)))) src.xs []) fun ys=>M3.new (.lst ys)) fun d=>M3.ret (.next,σ3.set i (some d))) G (fH T X.K μ H D) (Y.x μ H):=h
    rw[M3.kX]at h
    exact h)) fun src G1 q J H1 μ1 u1 S1 sr=>⟨src,μ1,G1,u1,S1,sr,Y.upE u1 (by rw[M3.kX]at q;exact q)⟩⟩) fun v s1 h1=>thn h1 fun itv s2 h2=>?_)) (fun _ s' hq=>wpAny_pure (wpAny_pure hq)) fun _ _ e=>e)
 obtain⟨ita,fp,tn,J,H1,e,I2,Tn,st2,f2,src,μ1,G1,u1,S1,sr,q⟩:=h2
 subst e
 refine rE (RR:=fun acc C=>compPost (model X.prog X.w) X.A X.xe (some (assign (.Name y py) X.env)) (fun _ s'=>SP X pins D .next s') acc C) B hc he ht I2 Tn st2 f2 S1 (sd.up u1) sr (M3.bc q) fun p C s' ce=>?_
 obtain⟨⟨ys,ws,H',μ',G',I',u',S',hpw,hpm,d,hP,hC,hp0⟩,⟨m,hm⟩,hge⟩:=ce
 show wpAny _ X.A (assign (.Name y py) X.env (.ref p)) _ _ _
 refine wpAny_assign_Name (rR I' hN hiN (.inl hy) (v:= .ref p) rfl (fun s3 I3 ⟨a,hsa,hal⟩=>?_) (.inr hy))
 have hCa:C≠a:=by
  rintro rfl
  rcases hal with z |z
  · exact absurd I2.lt (by rw[<-z];exact Nat.not_lt.mpr hge)
  · obtain⟨v,w⟩:=I2.cell _ _ z
    exact absurd (qd_ w.lt hge) (qe_ _)
 refine⟨m,hm.sameBut hsa hCa,fun h' hsb=>⟨_,H',xG I2 hge I3 hC hsb,?_⟩⟩
 have Sa:=S'.adopt hpm hpw d
 have ua:=(u1.trans (u'.adopt hp0))
 have dn:Den X.K H' (μ'++[p]) (.ref G'.length) (.ref p):=⟨p,by rw[<-S'.len];simp,rfl⟩
 exact hP _ H' (μ'++[p]) ua Sa ((sd.up ua).set i dn)
theorem Blk.nil(hkind:scope.kind= .function)(hno:scope.names.all (fun y=>decide (y.2= .local))=true)(hloc:∀y∈scope.names,scope.names.lookup y.1=some .local)(hown:scope.names.lookup x=some .local):Blk X x [] scope []:=by
 have hl:∀y∈scope.names,y.2= .local:=fun y hy=>of_decide_eq_true (List.all_eq_true.mp hno y hy)
 refine⟨hkind,fun y hy z=>?_,fun y hy _=>hloc y hy,hown,closureFor_none fun y hy z=>?_,(by simp),(fun y c e=>by cases e),(fun y hy=>?_),rfl,(fun j y i e=>by simp at e)⟩
 · rw[hl y hy]at z;cases z
 · rw[hl y hy]at z;cases z
 · exfalso
   have key:∀(l:List (Str×NameKind)),(∀z∈l,z.2= .local)->∀k,(l.map fun(n,k)=>if (k==NameKind.free&&X.env.scope.kind== .function&&X.env.kindOf n==some .cell)then (n,NameKind.cell)else (n,k)).lookup y=some k->k= .local:=by
    intro l
    induction l with
    |nil=>intro _ k e;cases e
    |cons z r ih=>
     intro hz k e
     obtain⟨n,kk⟩:=z
     have hk:kk= .local:=hz (n,kk) qI_
     subst hk
     rw[List.map_cons]at e
     simp only[show (NameKind.local==NameKind.free)=false from rfl,Bool.false_and,Bool.false_eq_true,if_false,List.lookup_cons]at e
     cases q:y==n with
     |true=>rw[q]at e;cases e;rfl
     |false=>rw[q]at e;exact ih (fun w hw=>hz w (qR_ _ hw)) k e
   rcases hy with z |z
   · exact absurd (key _ hl _ z) (by decide)
   · exact absurd (key _ hl _ z) (by decide)
end
def Dj(K:PySem.W.Frag)(mg:Str->Option Value)(x:Str)(d:M3.D):Prop:=∃v u,mg x=some u/\RelV v u/\∀H μ,Den K H μ d v
section
variable{X:Cx}{T:Tab}{Y:EX}{a b e:Expr}{fa fb:M3.E3}{pos:Pos}
theorem Ai{x:Str}{d:M3.D}(h:Dj X.K X.mg x d)(hg:Gl X x:=by rfl)(hd:(x==("__debug__":Str))=false:=by decide):PE X (.Name x pos) (tE T X.K Y (M3.eC d)):=by
 obtain⟨v,u,h1,h2,h3⟩:=h
 exact nu (Bk hg h1 h2 hd) h3
theorem iU(hu:X.A.units+64 < cLine):OpR X (compareOp .Eq) (qN T X.K false)/\Br2 T X.K Y M3.oEq (qN T X.K false):=Ez (by omega)
theorem qj(hu:X.A.units+64 < cLine):OpR X (compareOp .NotEq) (qN T X.K true)/\Br2 T X.K Y M3.oNe (qN T X.K true):=DM (by omega)
theorem GS(hu:X.A.units+64 < cLine):OpR X (compareOp .In) (sy T X.K false)/\Br2 T X.K Y M3.oIn (sy T X.K false):=ET (by omega)
theorem Aj(hu:X.A.units+64 < cLine):OpR X (compareOp .NotIn) (sy T X.K true)/\Br2 T X.K Y M3.nT (sy T X.K true):=yO (by omega)
theorem A7(hu:X.A.units+64 < cLine):OpR X (compareOp .Lt) (Bf X.K)/\Br2 T X.K Y M3.oLt (Bf X.K):=Fu (by omega)
theorem zb(hu:X.A.units+64 < cLine):OpR X (compareOp .Gt) (BD X.K)/\Br2 T X.K Y M3.oGt (BD X.K):=EC (by omega)
theorem CS(hu:X.A.units+64 < cLine):OpR X (compareOp .GtE) (rI0 fun i j=>.bl (decide (j<=i)))/\Br2 T X.K Y M3.oGe (rI0 fun i j=>.bl (decide (j<=i))):=D8
theorem bx(hu:X.A.units+64 < cLine)(ha:PE X a (tE T X.K Y fa))(hb:PE X b (tE T X.K Y fb))(hs:sN b:=by intro _ _;rfl):PE X (.Subscript a b pos) (tE T X.K Y (M3.eOp M3.oIx fa fb)):=GY (by omega) ha hb hs
theorem xI{K:PySem.W.Frag}{a:Addr}{od:Option Addr}{its:Array Value}{n:Nat}{sl:Array (Option Value)}{ds:List M3.D}{vs:List V}(l:K.lookup a=some ⟨.type "tuple",od,.seq its n,sl⟩)(hz:its.size<=sizeLine)(r:Vals vs its.toList)(d:∀H μ,aF K H μ ds vs):∀H μ,Den K H μ (.tup ds) (.ref a):=
 fun H μ=>⟨a,vs,rfl,.inr ⟨_,its,n,l,rfl,rfl,hz,r⟩,d H μ⟩
theorem Ea{T:Tab}{K:PySem.W.Frag}{f:List M3.D->M3.M M3.D}{n:Nat}(h:∀ns:List Int,ns.length<=n->M3.run (f [.ref 0]) [.frz (ns.map M3.D.int)] (fun d _=>d= .bl true) fun _ _=>False)
 {H:Hp} {a:Addr} {ns:List Int} (hl:ns.length<=n) (hO:Aq H) (sq:SqL K H a (ns.map V.int)):sp3 T K 1 f [.ref a] H (fun v _=>v= .bl true) fun _ _ _=>False:=by
 have sf:SqF K H a (ns.map V.int):=by
  rcases sq with (sq |⟨o,sq⟩) |sq
  · rcases hO a with z |⟨o,xs,z⟩
    · rw[z]at sq;cases sq
    · rw[z]at sq;cases sq
  · exact .inl ⟨o,sq⟩
  · exact .inr sq
 refine⟨rfl,[a],[.ref 0],[.frz (ns.map M3.D.int)],⟨rfl,fun k b o e1 e2=>?_,fun k m b o o' hkm e1 e2 e3 e4=>?_⟩,⟨.ref a,[],rfl,⟨a,rfl,rfl⟩,rfl⟩,M3.az (h ns hl) (fun d G' e v H' μ' u S r=>?_) fun _ _ z=>z.elim⟩
 · cases k with
   |zero=>cases e1;cases e2;exact⟨_,sf,aF.xm⟩
   |succ k=>simp at e1
 · cases k with
   |zero=>cases e3;exact .inl rfl
   |succ k=>simp at e1
 · subst e;exact r
end
structure eL (T:Tab) (K:PySem.W.Frag) (f:Nat):Prop where
 cl:∀C Ca,C < 1000->T.cls C=some Ca->Cls K Ca/\jJ K Ca (T.nm f)
 inj:∀g,T.nm g=T.nm f->g=f
abbrev m7(T:Tab)(K:PySem.W.Frag)(H:Hp)(μ:List Addr):List (Nat×M3.D)->List (Str×V)->Prop:=Paired (fun(p:Nat×M3.D) (q:Str×V)=>q.1=T.nm p.1/\Den K H μ p.2 q.2)
section
variable{X:Cx}{T:Tab}{Y:EX}{a b e o:Expr}{es:List Expr}{fa fb:M3.E3}{f3:M3.A3}{pos pos' p apos:Pos}
theorem m7.get{K:PySem.W.Frag}{H:Hp}{μ:List Addr}{f:Nat}(hf:∀g,T.nm g=T.nm f->g=f):∀{fs:List (Nat×M3.D)} {ws:List (Str×V)} {d:M3.D},m7 T K H μ fs ws->fs.lookup f=some d->∃v,ws.lookup (T.nm f)=some v/\Den K H μ d v
 |_,_,_,.nil,e=>by cases e
 |(g,x) :: fs,(s,w) :: ws,d,.cons ⟨h1,h2⟩ t,e=>by
  have h1:s=T.nm g:=h1
  subst h1
  by_cases h:g=f
  · subst h
    simp at e
    subst e
    exact⟨w,by simp,h2⟩
  · have hn:¬T.nm f=T.nm g:=fun z=>h (hf g z.symm)
    have h':(f==g)=false:=by simpa using fun z=>h (Eq.symm z)
    have hn':(T.nm f==T.nm g)=false:=by simpa using hn
    rw[List.lookup_cons,h']at e
    rw[List.lookup_cons,hn']
    exact m7.get hf t e
theorem m7.none{K:PySem.W.Frag}{H:Hp}{μ:List Addr}{m:Str}(hm:∀g,T.nm g≠m):∀{fs:List (Nat×M3.D)} {ws:List (Str×V)},m7 T K H μ fs ws->ws.lookup m=Option.none
 |_,_,.nil=>rfl
 |(g,x) :: fs,(s,w) :: ws,.cons ⟨h1,h2⟩ t=>by
  have h1:s=T.nm g:=h1
  subst h1
  have hn':(m==T.nm g)=false:=by simpa using fun z=>hm g (Eq.symm z)
  rw[List.lookup_cons,hn']
  exact m7.none hm t
theorem m7.put{K:PySem.W.Frag}{H:Hp}{μ:List Addr}{f:Nat}(hf:∀g,T.nm g=T.nm f->g=f){d:M3.D}{v:V}(dv:Den K H μ d v):∀{fs:List (Nat×M3.D)} {ws:List (Str×V)},m7 T K H μ fs ws->m7 T K H μ (M3.putN f d fs) (jq (T.nm f) v ws)
 |_,_,.nil=>.cons ⟨rfl,dv⟩ .nil
 |(g,x) :: fs,(s,w) :: ws,.cons ⟨h1,h2⟩ t=>by
  have h1:s=T.nm g:=h1
  subst h1
  unfold M3.putN jq
  by_cases h:g=f
  · subst h
    rw[if_pos rfl,if_pos rfl]
    exact .cons ⟨rfl,dv⟩ t
  · rw[if_neg h,if_neg fun z=>h (hf g z)]
    exact .cons ⟨rfl,h2⟩ (m7.put hf dv t)
theorem aQ{f:Nat}{n:Str}(F:eL T X.K f)(he:PE X e (tE T X.K Y fa))(hn:n=T.nm f:=by rfl)(hb:attributeBase e n X.env (eval e X.env)=eval e X.env:=by rfl):PE X (.Attribute e n pos) (tE T X.K Y (M3.bw fa f)):=by
 subst hn
 refine PE.of (Dv he hb) fun σ H Q ⟨μ,σ3,G,S,sd,h⟩=>⟨μ,σ3,G,S,sd,bZ h fun d G1 v H1 μ1 u1 S1 d1 h1=>?_⟩
 unfold M3.run M3.Ac at h1
 cases d with
 |ref k=>
  dsimp only at h1
  obtain⟨a,ea,rfl⟩:=d1
  cases q:G1[k]? with
  |none=>rw[q]at h1;exact False.elim h1
  |some ob=>
   have od:=S1.obj k a ob ea q
   rw[q]at h1
   cases ob with
   |ins C fs=>
    dsimp only at h1
    obtain⟨Ca,dx,ws,hc,e1,r⟩:=od
    by_cases hC:C < 1000
    rotate_left
    · rw[if_neg hC]at h1;exact False.elim h1
    rw[if_pos hC]at h1
    cases ql:fs.lookup f with
    |none=>rw[ql]at h1;exact False.elim h1
    |some d=>
     rw[ql]at h1
     obtain⟨w,e2,dw⟩:=m7.get F.inj r ql
     exact⟨a,Ca,dx,ws,w,rfl,e1,(F.cl C Ca hC hc).1,(F.cl C Ca hC hc).2,e2,h1 w H1 μ1 u1 S1 dw⟩
   |_=>exact False.elim h1
 |_=>exact False.elim h1
theorem bV{f:Nat}{n:Str}(F:eL T X.K f)(ho:PE X o (tE T X.K Y fa))(he:PE X e (tE T X.K Y fb))(hn:n=T.nm f:=by rfl)(hs:swapsWith e (some (.Attribute o n pos')) pos.line X.env=pure false:=by rfl):PS X (.Assign [.Attribute o n pos'] e pos) (tS T X.K Y (M3.bL fa f fb)):=by
 subst hn
 refine PS.of (EG ho he hs) fun D σ H ⟨μ,σ3,G,S,sd,h⟩=>⟨μ,σ3,G,S,sd,bZ h fun y G1 w H1 μ1 u1 S1 d1 h1=>⟨μ1,σ3,G1,S1,sd.up u1,bZ h1 fun x G2 v H2 μ2 u2 S2 d2 h2=>?_⟩⟩
 have h2:=M3.bc h2
 unfold M3.run M3.yD at h2
 cases x with
 |ref k=>
  dsimp only at h2
  obtain⟨a,ea,rfl⟩:=d2
  cases q:G2[k]? with
  |none=>rw[q]at h2;exact False.elim h2
  |some ob=>
   have od:=S2.obj k a ob ea q
   rw[q]at h2
   cases ob with
   |ins C fs=>
    dsimp only at h2
    obtain⟨Ca,dx,ws,hc,e1,r⟩:=od
    by_cases c:C < 1000/\fs.length < 1000
    · rw[if_pos c]at h2
      have up:=Up.set S2 (.ins Ca dx (jq (T.nm f) w ws)) ea q rfl
      refine⟨a,Ca,dx,ws,rfl,e1,(F.cl C Ca c.1 hc).1,(F.cl C Ca c.1 hc).2,by rw[<-Paired.length r];exact c.2,?_⟩
      have r2:m7 T X.K (upd H2 a (.ins Ca dx (jq (T.nm f) w ws))) μ2 fs ws:=Paired.imp' (fun _ _ z=>⟨z.1,Den.up up z.2⟩) r
      exact h2 _ _ μ2 ((u1.trans u2).trans up) (S2.set ea q rfl rfl ⟨Ca,dx,_,hc,aW,m7.put F.inj (Den.up (u2.trans up) d1) r2⟩) (sd.up ((u1.trans u2).trans up))
    · rw[if_neg c]at h2;exact False.elim h2
   |_=>exact False.elim h2
 |_=>exact False.elim h2
structure Mt3 (P:Program) (w:World) (K:PySem.W.Frag) (mg:Str->Option Value) (base:Heap) (CX:CXT) (T:Tab) (k:Nat) (C:Nat) (m:Str) (n:Nat) (f:List M3.D->M3.M M3.D):Prop where
 ex:∃Ca fa fd ps,T.cls C=some Ca/\Cls K Ca/\Meth K Ca m fa/\bh P w K mg base CX k fa fd ps (sp3 T K n f)/\Binds K fd ps []
 no:∀g,T.nm g≠m
 len:∀ds G (Q:M3.D->M3.Hh->Prop) (Z:Nat->M3.Hh->Prop),M3.run (f ds) G Q Z->ds.length=n
theorem EK{Z:Nat->M3.Hh->Prop}{C:Nat}{x:M3.D}{G:M3.Hh}{P:Unit->M3.Hh->Prop}(h:M3.run (M3.isC C x) G P Z):∃k fs,x= .ref k/\G[k]? =some (.ins C fs)/\P () G:=by
 unfold M3.run M3.isC at h
 cases x with
 |ref k=>
  dsimp only at h
  cases q:G[k]? with
  |none=>rw[q]at h;exact False.elim h
  |some ob=>
   rw[q]at h
   cases ob with
   |ins C' fs=>
    dsimp only at h
    by_cases c:C'=C
    · rw[if_pos c]at h;subst c;exact⟨k,fs,rfl,q,h⟩
    · rw[if_neg c]at h;exact False.elim h
   |_=>exact False.elim h
 |_=>exact False.elim h
theorem v5{CX:CXT}{E:XK}{P:Program}{w:World}{K:PySem.W.Frag}{mg:Str->Option Value}{base:Heap}{k n:Nat}{C:Nat}{Ca:Addr}{m:Str}{g:List M3.D->M3.M M3.D}(hc:T.cls C=some Ca)(no:∀g,T.nm g≠m)(len:∀ds G (Q:M3.D->M3.Hh->Prop) (Z:Nat->M3.Hh->Prop),M3.run (g ds) G Q Z->ds.length=n)
 {σ:L2.St} {H:Hp} {Q:VK} (h:tE T K (EX.of T K E) (M3.aV C g fa f3) σ H Q):zt Ca m (sp3 T K n g) [] E (tE T K (EX.of T K E) fa) (tA T K (EX.of T K E) f3) σ H Q:=by
 obtain⟨μ,σ3,G,S,sd,h⟩:=h
 refine⟨μ,σ3,G,S,sd,bZ h fun x G1 v H1 μ1 u1 S1 d1 h1=>?_⟩
 obtain⟨i,fs,rfl,q,h2⟩:=EK (M3.bc h1)
 obtain⟨a,ea,rfl⟩:=id d1
 obtain⟨Ca',dx,ws,hc',e1,r⟩:=S1.obj i a _ ea q
 rw[hc]at hc'
 cases hc'
 refine⟨a,dx,ws,rfl,e1,m7.none no r,μ1,σ3,G1,S1,sd.up u1,oG h2 fun ds G2 vs H2 μ2 u2 S2 d2 h3=>?_⟩
 rw[qY_]
 have dd:aF K H2 μ2 (.ref i :: ds) (.ref a :: vs):=⟨_,_,rfl,Den.up u2 d1,d2⟩
 exact⟨by rw[<-dd.length];exact len _ _ _ _ h3,μ2,_,G2,S2,dd,eP h3 fun _ _ z=>z.up (u1.trans u2)⟩
theorem aZ{CX:CXT}{E:XK}{k n:Nat}{C:Nat}{m:Str}{g:List M3.D->M3.M M3.D}{pl:Sem Bool}(F:Mt3 X.prog X.w X.K X.mg X.base CX T k C m n g)(hr:eY k X.A)(hx:fZ CX X E)(ho:PE X o (tE T X.K (EX.of T X.K E) fa))(ha:PA X (e :: es) (tA T X.K (EX.of T X.K E) f3))
 (hst:starEach (e :: es) X.env=(false,eval e X.env) :: starEach es X.env:=by rfl) (hpl:(backTo pos (starEach es X.env)).any (·.1)=false:=by rfl)
 (ht:eval (.Call (.Attribute o m apos) (e :: es) [] pos) X.env=(do
   let ov <-eval o X.env
   standAt apos.atName
   let (f,first) <-holding [ov] (getMethod ov m pl)
   callWith pos f first (backTo pos (starEach (e :: es) X.env)) (backToKw pos (keywordEach [] X.env))):=by rfl):
 PE X (.Call (.Attribute o m apos) (e :: es) [] pos) (tE T X.K (EX.of T X.K E) (M3.aV C g fa f3)):=by
 obtain⟨Ca,fa',fd,ps,hc,cl,hm,G,hb⟩:=F.ex
 exact PE.of (Bw (pl:=pl) ho cl hm G hr hb .nil hx ha hst hpl ht) fun _ _ _ h=>v5 (CX:=CX) (P:=X.prog) (w:=X.w) (mg:=X.mg) (base:=X.base) (k:=k) hc F.no F.len h
theorem fA{CX:CXT}{E:XK}{k n:Nat}{C:Nat}{m:Str}{g:List M3.D->M3.M M3.D}{pl:Sem Bool}(F:Mt3 X.prog X.w X.K X.mg X.base CX T k C m n g)(hr:eY k X.A)(hx:fZ CX X E)(ho:PE X o (tE T X.K (EX.of T X.K E) fa))
 (ht:eval (.Call (.Attribute o m apos) [] [] pos) X.env=(do
   let ov <-eval o X.env
   standAt apos.atName
   let (f,first) <-holding [ov] (getMethod ov m pl)
   callWith pos f first (backTo pos (starEach [] X.env)) (backToKw pos (keywordEach [] X.env))):=by rfl):
 PE X (.Call (.Attribute o m apos) [] [] pos) (tE T X.K (EX.of T X.K E) (M3.aV C g fa M3.au)):=by
 obtain⟨Ca,fa',fd,ps,hc,cl,hm,G,hb⟩:=F.ex
 refine PE.of (zT (pl:=pl) ho cl hm G hr hb .nil hx ht) fun σ H Q h=>?_
 obtain⟨μ,σ3,G,S,sd,h⟩:=v5 (f3:=M3.au) (CX:=CX) (P:=X.prog) (w:=X.w) (mg:=X.mg) (base:=X.base) (k:=k) hc F.no F.len h
 refine⟨μ,σ3,G,S,sd,eP h fun d G1 q v H1 μ1 u1 S1 d1=>?_⟩
 obtain⟨a,dx,fs,e1,e2,e3,μ2,σ4,G2,S2,sd2,h2⟩:=q v H1 μ1 u1 S1 d1
 exact⟨a,dx,fs,e1,e2,e3,h2 [] H1 μ2 (Up.refl _ _) S2 rfl⟩
structure Ct3 (P:Program) (w:World) (K:PySem.W.Frag) (mg:Str->Option Value) (base:Heap) (CX:CXT) (T:Tab) (k:Nat) (x:Str) (C:Nat) (n:Nat) (f:List M3.D->M3.M M3.D):Prop where
 ex:∃Ca fa fd ps,T.cls C=some Ca/\Mk K Ca fa/\mg x=some (.ref Ca)/\bh P w K mg base CX k fa fd ps (sp3 T K n f)/\Binds K fd ps []
 len:∀ds G (Q:M3.D->M3.Hh->Prop) (Z:Nat->M3.Hh->Prop),M3.run (f ds) G Q Z->ds.length=n
theorem y6{E:XK}{K:PySem.W.Frag}{n:Nat}{C:Nat}{Ca:Addr}{g:List M3.D->M3.M M3.D}(hc:T.cls C=some Ca)(len:∀ds G (Q:M3.D->M3.Hh->Prop) (Z:Nat->M3.Hh->Prop),M3.run (g ds) G Q Z->ds.length=n)
 {H1:Hp} {μ μ1:List Addr} {H:Hp} {G1:M3.Hh} {ds:List M3.D} {vs:List V} {Q:VK} (u1:Up μ μ1 H H1) (S1:Sim T K μ1 H1 G1) (d1:aF K H1 μ1 ds vs) (h:M3.run (M3.bnd (M3.new (.ins C [])) fun x=>M3.bnd (g (x :: ds)) fun r=>M3.bnd (M3.xw r) fun _=>M3.ret x) G1 (fx T K μ H Q) ((EX.of T K E).x μ1 H1)):
 ∀x dx,H1 x=none->H1 dx=none->dx≠x->sp3 T K n g (.ref x :: vs) (upd (upd H1 dx (.own x)) x (.ins Ca dx [])) (fun v H2=>v= .non/\Q (.ref x) H2) E:=by
 intro x dx hx hdx hne
 have hx2:upd H1 dx (.own x) x=none:=by rw[aP (Ne.symm hne)];exact hx
 have ua:Up μ1 μ1 H1 (upd H1 dx (.own x)):=Up.same (gK.new _ hdx)
 have Sa:=S1.same (gK.new (.own x) hdx)
 have ub:=Up.new (μ:=μ1) (.ins Ca dx []) hx2
 have Sb:=Sa.new (o:= .ins C []) hx2 rfl ⟨Ca,dx,[],hc,aW,.nil⟩
 have uab:=ua.trans ub
 have dx':Den K (upd (upd H1 dx (.own x)) x (.ins Ca dx [])) (μ1++[x]) (.ref G1.length) (.ref x):=⟨x,by rw[<-S1.len];simp,rfl⟩
 have dd:aF K (upd (upd H1 dx (.own x)) x (.ins Ca dx [])) (μ1++[x]) (.ref G1.length :: ds) (.ref x :: vs):=⟨_,_,rfl,dx',aF.up uab d1⟩
 have h2:M3.run (M3.bnd (g (.ref G1.length :: ds)) fun r=>M3.bnd (M3.xw r) fun _=>M3.ret (M3.D.ref G1.length)) (G1++[.ins C []]) (fx T K μ H Q) ((EX.of T K E).x μ1 H1):=h
 refine⟨by rw[<-dd.length];exact len _ _ _ _ (M3.bc h2),_,_,_,Sb,dd,M3.az (M3.bc h2) (fun r G2 q v H2 μ2 u2 S2 dr=>?_) fun c G2 z=>(EX.of T K E).up uab z⟩
 cases r with
 |non=>exact⟨dr,q _ H2 μ2 ((u1.trans uab).trans u2) S2 (Den.up u2 dx')⟩
 |_=>exact False.elim q
theorem sO{CX:CXT}{E:XK}{x:Str}{k n:Nat}{C:Nat}{g:List M3.D->M3.M M3.D}(F:Ct3 X.prog X.w X.K X.mg X.base CX T k x C n g)(hr:eY (k+1) X.A)(hx:fZ CX X E)(ha:PA X (e :: es) (tA T X.K (EX.of T X.K E) f3))(hg:Gl X x:=by rfl)(hdb:(x==("__debug__":Str))=false:=by decide)
 (he:starEach (e :: es) X.env=(false,eval e X.env) :: starEach es X.env:=by rfl) (hpl:(backTo pos (starEach es X.env)).any (·.1)=false:=by rfl):PE X (.Call (.Name x p) (e :: es) [] pos) (tE T X.K (EX.of T X.K E) (M3.nH C g f3)):=by
 obtain⟨Ca,fa',fd,ps,hc,M,hm,G,hb⟩:=F.ex
 refine PE.of (Bv M G hr hg hm hb .nil hx ha hdb he hpl) fun σ H Q ⟨μ,σ3,G,S,sd,h⟩=>⟨μ,σ3,G,S,sd,oG h fun ds G1 vs H1 μ1 u1 S1 d1 h1=>?_⟩
 rw[qY_]
 exact y6 hc F.len u1 S1 d1 h1
theorem Ck{CX:CXT}{E:XK}{x:Str}{k n:Nat}{C:Nat}{g:List M3.D->M3.M M3.D}(F:Ct3 X.prog X.w X.K X.mg X.base CX T k x C n g)(hr:eY (k+1) X.A)(hx:fZ CX X E)(hg:Gl X x:=by rfl)(hdb:(x==("__debug__":Str))=false:=by decide):
 PE X (.Call (.Name x p) [] [] pos) (tE T X.K (EX.of T X.K E) (M3.nH C g M3.au)):=by
 obtain⟨Ca,fa',fd,ps,hc,M,hm,G,hb⟩:=F.ex
 refine PE.of (A8 M G hr hg hm hb .nil hx hdb) fun σ H Q ⟨μ,σ3,G,S,sd,h⟩=>?_
 exact y6 (ds:=[]) (vs:=[]) hc F.len (Up.refl _ _) S rfl h
end
section
variable{X:Cx}{T:Tab}{Y:EX}{a b e o i:Expr}{es:List Expr}{fa fb fc:M3.E3}{ft:M3.T3}{f3:M3.A3}{pos pos' p p2 apos:Pos}
abbrev jf{κ:Type}(K:PySem.W.Frag)(H:Hp)(μ:List Addr):List (κ×M3.D)->List (κ×V)->Prop:=Paired (fun(p:κ×M3.D) (q:κ×V)=>p.1=q.1/\Den K H μ p.2 q.2)
theorem jf.any{κ:Type} [DecidableEq κ]{K:PySem.W.Frag}{H:Hp}{μ:List Addr}(k:κ):∀{kvs:List (κ×M3.D)} {ws:List (κ×V)},jf K H μ kvs ws->(kvs.any fun kv=>decide (kv.1=k))=ws.any fun kv=>decide (kv.1=k)
 |_,_,.nil=>rfl
 |(k1,d) :: kvs,(k2,v) :: ws,.cons ⟨h1,h2⟩ t=>by
  cases (show k1=k2 from h1)
  rw[List.any_cons,List.any_cons,jf.any k t]
theorem jf.map{κ:Type} [DecidableEq κ]{K:PySem.W.Frag}{H:Hp}{μ:List Addr}(k:κ){d:M3.D}{v:V}(dv:Den K H μ d v):∀{kvs:List (κ×M3.D)} {ws:List (κ×V)},jf K H μ kvs ws->jf K H μ (kvs.map fun kv=>if kv.1=k then (kv.1,d)else kv) (ws.map fun kv=>if kv.1=k then (kv.1,v)else kv)
 |_,_,.nil=>.nil
 |(k1,x) :: kvs,(k2,w) :: ws,.cons ⟨h1,h2⟩ t=>by
  cases (show k1=k2 from h1)
  rw[List.map_cons,List.map_cons]
  by_cases h:k1=k
  · rw[if_pos h,if_pos h];exact .cons ⟨rfl,dv⟩ (jf.map k dv t)
  · rw[if_neg h,if_neg h];exact .cons ⟨rfl,h2⟩ (jf.map k dv t)
theorem jf.snoc{κ:Type}{K:PySem.W.Frag}{H:Hp}{μ:List Addr}(k:κ){d:M3.D}{v:V}(dv:Den K H μ d v):∀{kvs:List (κ×M3.D)} {ws:List (κ×V)},jf K H μ kvs ws->jf K H μ (kvs++[(k,d)]) (ws++[(k,v)])
 |_,_,.nil=>.cons ⟨rfl,dv⟩ .nil
 |_,_,.cons h t=>.cons h (jf.snoc k dv t)
theorem jf.put{κ:Type} [DecidableEq κ]{K:PySem.W.Frag}{H:Hp}{μ:List Addr}(k:κ){d:M3.D}{v:V}(dv:Den K H μ d v){kvs:List (κ×M3.D)}{ws:List (κ×V)}(r:jf K H μ kvs ws):jf K H μ (M3.put kvs k d) (putK ws k v):=by
 unfold M3.put putK
 rw[jf.any k r]
 by_cases h:(ws.any fun kv=>decide (kv.1=k))=true
 · rw[if_pos h,if_pos h];exact jf.map k dv r
 · rw[if_neg h,if_neg h];exact jf.snoc k dv r
theorem sH:PE X (.Dict [] [] pos) (tE T X.K Y M3.pK):=by
 refine PE.of AQ fun σ H Q ⟨μ,σ3,G,S,sd,h⟩ q hq=>?_
 have u2:=Up.new (μ:=μ) (.dK []) hq
 refine h _ _ (μ++[q]) u2 (S.new hq rfl ⟨[],aW,.nil⟩) ⟨q,?_,rfl⟩
 rw[<-S.len];simp
theorem set_dict(hu:X.A.units+64 < cLine):uj X (fun o i v H Q=>∃a H',o= .ref a/\Ba H a i v H'/\Q H'):=by
 intro pins s σ H o i v ov iv u Q I ro ri rv h
 obtain⟨a,H',rfl,g,q⟩:=h
 cases (show ov=Value.ref a from ro)
 exact yA (by omega) I g ri rv fun s' I'=>⟨H',I',q⟩
theorem uj.or{t t':Bl}(h:uj X t)(h':uj X t'):uj X (fun o i v H Q=>t o i v H Q\/t' o i v H Q):=by
 intro pins s σ H o i v ov iv u Q I ro ri rv q
 rcases q with q |q
 · exact h pins s σ H o i v ov iv u Q I ro ri rv q
 · exact h' pins s σ H o i v ov iv u Q I ro ri rv q
theorem aF.set{K:PySem.W.Frag}{H:Hp}{μ:List Addr}{d:M3.D}{v:V}(dv:Den K H μ d v):∀{ds:List M3.D} {vs:List V} (j:Nat),aF K H μ ds vs->aF K H μ (ds.set j d) (vs.set j v)
 | [],_,_,h=>by cases (show _=[]from h);rfl
 |_ :: _,_,0,⟨w,r,e,h,t⟩=>by subst e;exact⟨v,r,rfl,dv,t⟩
 |_ :: _,_,j+1,⟨w,r,e,h,t⟩=>by subst e;exact⟨w,r.set j v,rfl,h,aF.set dv j t⟩
theorem C9(hu:X.A.units+64 < cLine)(ho:PE X o (tE T X.K Y fa))(hi:PE X i (tE T X.K Y fb))(he:PE X e (tE T X.K Y fc))
 (ha:∀v,assign (.Subscript o i pos') X.env v=(do
   let ov <-holding [v] (eval o X.env)
   let iv <-holding [v,ov] (eval i X.env)
   standAt pos'
   holding [v,ov,iv] (setItem ov iv v)
   release [v,ov,iv] []):=by intro _;rfl)
 (hs:swapsWithSole [.Subscript o i pos'] e pos.line X.env=pure false:=by rfl) (hw:swappedStores [.Subscript o i pos'] e X.env=pure none:=by rfl)
 (h1:(assignEach [.Subscript o i pos'] X.env).map (·.2)=[assign (.Subscript o i pos') X.env]:=by rfl):PS X (.Assign [.Subscript o i pos'] e pos) (tS T X.K Y (M3.w4 fa fb fc)):=by
 refine PS.of (Fg he (DQ ho hi (uj.or set_list (set_dict hu)) ha) hs hw h1) fun D σ H ⟨μ,σ3,G,S,sd,h⟩=>⟨μ,σ3,G,S,sd,bZ h fun w G1 wv H1 μ1 u1 S1 d1 h1=>?_⟩
 refine⟨μ1,σ3,G1,S1,sd.up u1,bZ h1 fun x G2 xv H2 μ2 u2 S2 d2 h2=>⟨μ2,σ3,G2,S2,sd.up (u1.trans u2),bZ h2 fun y G3 yv H3 μ3 u3 S3 d3 h3=>?_⟩⟩
 have h3:=M3.bc h3
 have dw:=Den.up (u2.trans u3) d1
 unfold M3.run M3.xW at h3
 cases x with
 |ref n=>
  dsimp only at h3
  obtain⟨c,ec,rfl⟩:=Den.up u3 d2
  cases q:G3[n]? with
  |none=>rw[q]at h3;exact False.elim h3
  |some ob=>
   have od:=S3.obj n c ob ec q
   rw[q]at h3
   cases ob with
   |lst xs=>
    obtain⟨vs,e1,r⟩:=od
    cases y with
    |int k=>
     dsimp only at h3
     cases qk:M3.ixN xs.length k with
     |none=>rw[qk]at h3;exact False.elim h3
     |some j=>
      rw[qk]at h3
      have up:=Up.set S3 (.lst (vs.set j wv)) ec q rfl
      refine .inl ⟨c,vs,k,j,rfl,d3,e1,by rw[<-r.length];exact qk,?_⟩
      exact h3 _ _ μ3 (((u1.trans u2).trans u3).trans up) (S3.set ec q rfl rfl ⟨_,aW,aF.up up (aF.set dw j r)⟩) (sd.up (((u1.trans u2).trans u3).trans up))
    |_=>exact False.elim h3
   |dK kvs=>
    obtain⟨ws,e1,r⟩:=od
    dsimp only at h3
    cases qk:M3.qg y with
    |none=>rw[qk]at h3;exact False.elim h3
    |some k=>
     rw[qk]at h3
     dsimp only at h3
     by_cases cl:kvs.length < M3.aH
     · rw[if_pos cl]at h3
       cases uc qk d3
       have up:=Up.set S3 (.dK (putK ws k wv)) ec q rfl
       refine .inr ⟨c,_,rfl,Ba.k e1 (by rw[<-Paired.length r,<-dO];exact cl),?_⟩
       have r2:jf X.K (upd H3 c (.dK (putK ws k wv))) μ3 kvs ws:=Paired.imp' (fun _ _ z=>⟨z.1,Den.up up z.2⟩) r
       exact h3 _ _ μ3 (((u1.trans u2).trans u3).trans up) (S3.set ec q rfl rfl ⟨_,aW,jf.put k (Den.up up dw) r2⟩) (sd.up (((u1.trans u2).trans u3).trans up))
     · rw[if_neg cl]at h3;exact False.elim h3
   |_=>exact False.elim h3
 |_=>exact False.elim h3
def GL(T:Tab)(K:PySem.W.Frag)(μ:List Addr)(H:Hp)(Q:Option Int->Hp->Prop)(d:Option Int)(G':M3.Hh):Prop:=∀H' μ',Up μ μ' H H'->Sim T K μ' H' G'->Q d H'
def tP(T:Tab)(K:PySem.W.Frag)(Y:EX)(f:M3.P3):TO:=fun σ H Q=>∃μ σ3 G,Sim T K μ H G/\StD K H μ σ3 σ/\M3.run (f σ3) G (GL T K μ H Q) (Y.x μ H)
theorem PO.of{e:Option Expr}{t u:TO}(h:PO X e t)(f:∀σ H Q,u σ H Q->t σ H Q):PO X e u:=fun pins s σ H Q I q=>h pins s σ H Q I (f σ H Q q)
theorem wb:PO X none (tP T X.K Y M3.ur):=PO.of Bz fun σ H Q ⟨μ,σ3,G,S,sd,h⟩=>h H μ (Up.refl _ _) S
theorem wW(h:PE X e (tE T X.K Y fa)):PO X (some e) (tP T X.K Y (M3.uQ fa)):=by
 refine PO.of (BC h) fun σ H Q ⟨μ,σ3,G,S,sd,h⟩=>⟨μ,σ3,G,S,sd,bZ h fun d G1 v H1 μ1 u1 S1 d1 h1=>?_⟩
 cases d with
 |int k=>exact⟨k,d1,h1 H1 μ1 u1 S1⟩
 |_=>exact False.elim h1
theorem aF.cut{K:PySem.W.Frag}{H:Hp}{μ:List Addr}{ds:List M3.D}{vs:List V}(r:aF K H μ ds vs)(lo hi:Option Int):aF K H μ (M3.cutD ds lo hi) (qU vs lo hi):=by
 have dr:∀(n:Nat) {ds:List M3.D} {vs:List V},aF K H μ ds vs->aF K H μ (ds.drop n) (vs.drop n):=by
  intro n
  induction n with
  |zero=>intro ds vs r;simpa using r
  |succ n ih=>
   intro ds vs r
   cases ds with
   |nil=>cases (show vs=[]from r);rfl
   |cons d ds=>obtain⟨w,t,rfl,_,r⟩:=r;simpa using ih r
 have tk:∀(n:Nat) {ds:List M3.D} {vs:List V},aF K H μ ds vs->aF K H μ (ds.take n) (vs.take n):=by
  intro n
  induction n with
  |zero=>intro ds vs r;simp;rfl
  |succ n ih=>
   intro ds vs r
   cases ds with
   |nil=>cases (show vs=[]from r);rfl
   |cons d ds=>obtain⟨w,t,rfl,h,r⟩:=r;exact⟨w,t.take n,rfl,h,ih r⟩
 have es:∀(n d:Nat) (o:Option Int),M3.sIx n d o=HT.sIx n d o:=by
  intro n d o
  cases o <;> rfl
 unfold M3.cutD qU
 rw[es,es,r.length]
 exact tk _ (dr _ r)
theorem sY{lo hi:Option Expr}{fl fh:M3.P3}(he:PE X e (tE T X.K Y fa))(hl:PO X lo (tP T X.K Y fl))(hh:PO X hi (tP T X.K Y fh)):PE X (.Subscript e (.Slice lo hi none p2) pos) (tE T X.K Y (M3.eSl fa fl fh)):=by
 refine PE.of (y7 (L2.SlR.or Eu B8) he hl hh) fun σ H Q ⟨μ,σ3,G,S,sd,h⟩=>⟨μ,σ3,G,S,sd,bZ h fun x G1 v H1 μ1 u1 S1 d1 h1=>?_⟩
 refine⟨μ1,σ3,G1,S1,sd.up u1,M3.az (M3.bc h1) (fun l G2 h2 H2 μ2 u2 S2=>⟨μ2,σ3,G2,S2,sd.up (u1.trans u2),M3.az (M3.bc h2) (fun k G3 h3 H3 μ3 u3 S3=>?_) fun _ _ z=>Y.up u2 z⟩) fun _ _ z=>z⟩
 have d3:=Den.up (u2.trans u3) d1
 have u:=(u1.trans u2).trans u3
 unfold M3.run M3.oSl at h3
 cases x with
 |tup xs=>
  dsimp only at h3
  obtain⟨c,vs,rfl,sq,r⟩:=d3
  by_cases cw:M3.sIx xs.length 0 l=0/\M3.sIx xs.length xs.length k=xs.length
  · rw[if_pos cw]at h3;exact False.elim h3
  · rw[if_neg cw]at h3
    refine .inl ⟨c,vs,rfl,sq,fun z=>cw ?_,fun q hq=>?_⟩
    · have es:∀(n d:Nat) (o:Option Int),M3.sIx n d o=HT.sIx n d o:=by
       intro n d o
       cases o <;> rfl
      rw[es,es,r.length];exact z
    · have u4:Up μ3 μ3 H3 (upd H3 q (.tup (qU vs l k))):=Up.same (gK.new _ hq)
      exact h3 _ _ μ3 (u.trans u4) (S3.same (gK.new _ hq)) ⟨q,_,rfl,SqT.of aW,aF.up u4 (r.cut l k)⟩
 |ref n=>
  dsimp only at h3
  obtain⟨c,ec,rfl⟩:=d3
  have fin:∀{xs:List M3.D} {vs:List V},SqL X.K H3 c vs->aF X.K H3 μ3 xs vs->fx T X.K μ H Q (.ref G3.length) (G3++[.lst (M3.cutD xs l k)])->Gv X.K (.ref c) l k H3 Q:=by
   intro xs vs sq r hq
   refine⟨c,vs,rfl,sq,fun q hn=>?_⟩
   have u4:=Up.new (μ:=μ3) (.lst (qU vs l k)) hn
   refine hq _ _ (μ3++[q]) (u.trans u4) (S3.new hn rfl ⟨_,aW,aF.up u4 (r.cut l k)⟩) ⟨q,?_,rfl⟩
   rw[<-S3.len];simp
  cases qn:G3[n]? with
  |none=>rw[qn]at h3;exact False.elim h3
  |some ob=>
   have od:=S3.obj n c ob ec qn
   rw[qn]at h3
   cases ob with
   |lst xs=>obtain⟨vs,e1,r⟩:=od;exact .inr (fin (SqL.of e1) r h3)
   |frz xs=>obtain⟨vs,e1,r⟩:=od;exact .inr (fin e1.sq r h3)
   |_=>exact False.elim h3
 |_=>exact False.elim h3
theorem xx{c:Expr}{body:List Stmt}{f:M3.S3}(hp:PassesOwn (model X.prog X.w) X.A X.env X.xe)(hc:PT X c (tT T X.K Y ft))(hb:PSs X body (tS T X.K Y f)):PS X (.While c body [] pos) (tS T X.K Y (M3.t5 ft f)):=by
 refine PS.of (AF hp hc hb) fun D σ H ⟨μ,σ3,G,S,sd,h⟩=>?_
 have h:M3.run (M3.jA ft f M3.sM σ3) G (fH T X.K μ H D) (Y.x μ H):=h
 generalize M3.sM=n at h
 refine⟨fun m σ' H'=>∃μ' σ3' G',Up μ μ' H H'/\Sim T X.K μ' H' G'/\StD X.K H' μ' σ3' σ'/\M3.run (M3.jA ft f m σ3') G' (fH T X.K μ H D) (Y.x μ' H'),⟨n,μ,σ3,G,Up.refl _ _,S,sd,h⟩,?_⟩
 rintro m σ' H' ⟨μ',σ3',G',u',S',sd',q⟩
 cases m with
 |zero=>exact False.elim q
 |succ m=>
  refine⟨μ',σ3',G',S',sd',vi q fun b G1 H1 μ1 u1 S1 h1=>?_⟩
  cases b with
  |false=>exact h1 σ' H1 μ1 (u'.trans u1) S1 (sd'.up u1)
  |true=>
   refine⟨fun σ2 H2=>∃μ2 σ4 G2,Up μ μ2 H H2/\Sim T X.K μ2 H2 G2/\StD X.K H2 μ2 σ4 σ2/\M3.run (M3.jA ft f m σ4) G2 (fH T X.K μ H D) (Y.x μ2 H2),fun σ2 H2 hN=>⟨m,Nat.lt_succ_self _,hN⟩,?_⟩
   refine⟨μ1,σ3',G1,S1,sd'.up u1,eP (M3.bc h1) fun p G7 q7 σ7 H7 μ7 u7 S7 sd7=>?_⟩
   obtain⟨fl,σ8⟩:=p
   have up:=(u'.trans u1).trans u7
   cases fl with
   |next=>exact⟨μ7,σ8,G7,up,S7,sd7,Y.upE u7 q7⟩
   |cont=>exact⟨μ7,σ8,G7,up,S7,sd7,Y.upE u7 q7⟩
   |brk=>exact q7 σ7 H7 μ7 up S7 sd7
   |ret d=>exact q7 σ7 H7 μ7 up S7 sd7
end
open PySem PySem.Spec PyProof.Rows L2
def Tr(h:Heap)(e:Addr)(c:Value)(t:Option (Addr×Value)):Prop:=
 ∃oe vs,h.get? e=some oe/\oe.cls=c/\oe.data= .fields vs/\match t with
  |none=>vs[1]? =some .none
  |some (g,z)=>vs[1]? =some (.ref g)/\g≠e/\∃og ts,h.get? g=some og/\og.data= .fields ts/\ts[3]? =some z
structure sU (fs:List Addr) (e:Addr) (t:Option (Addr×Value)) (g:Addr) (h h':Heap):Prop where
 same:∀b o,h.get? b=some o->b∉fs->b≠e->(∀q,t=some q->b≠q.1)->h'.get? b=some o
 plain:∀b o,h.get? b=some o->(∀ws,o.data≠.fields ws)->∃sl,h'.get? b=some {o with slots:=sl}
 head:(∃z,t=some (g,z))\/h.objs.size<=g
 size:h.objs.size<=h'.objs.size
section
variable{M:Model}{A:Around}{E:Value->Shared->Prop}{s:Shared}{base:Heap}{env:Env}{outer:List Env}{L e:Addr}{c:Value}
theorem rF{oe:Obj}{vs:Array Value}{hd0:Value}{hn:Bool}{Q:Unit->Shared->Prop}(hA:A.frames=some (env :: outer))(fr:s.heap.FunFrames base (env :: outer))(hL:env.frame=some L)
 (ge:s.heap.get? e=some oe) (de:oe.data= .fields vs) (z1:1 < vs.size)
 (k:∀h' g,s.heap.objs.size<=g->Tr h' e oe.cls (some (g,rawInt L))->(∀b o,s.heap.get? b=some o->b∉frs (env :: outer)->b≠e->h'.get? b=some o)->(∀b o,s.heap.get? b=some o->(∀ws,o.data≠.fields ws)->∃sl,h'.get? b=some {o with slots:=sl})->
   s.heap.objs.size<=h'.objs.size->Q () {s with heap:=h'}):
 wpAny M A (do let a <-frameOf env;let pl <-entryPlaceOf L hn;let b <-EntryCells.newEntry hd0 a .none (rawInt L) .none pl;setField (.ref e) 1 b) Q E s:=by
 have ne:e∉frs (env :: outer):=fun z=>by
  obtain⟨_,o,q,nf⟩:=fr.mem z
  rw[ge]at q
  cases q
  exact nf vs de
 refine wpAny_bind (wpAny_frameOf_fun hA fr hL fun h1 so=>?_)
 refine wpAny_bind (wpAny_entryPlaceOf fun pl ip=>?_)
 unfold EntryCells.newEntry newFields
 refine wpAny_bind (wpAny_newObj_type ?_ (ip.sizeOk5 _ _ _ _ _))
 have g1:h1.get? e=some oe:=(so.2.1 e ne).trans ge
 generalize hob:({cls:= .type "traceback",dict:=none,data:= .fields ([hd0,.ref L,.none,rawInt L,.none]++(if pl.isEmpty then List.replicate 6 Value.none else pl)).toArray}:Obj)=ob
 have dob:∃ts:Array Value,ob.data= .fields ts/\ts[3]? =some (rawInt L):=by
  rw[<-hob]
  exact⟨_,rfl,by simp⟩
 have fob:ob.isFreed=false:=by rw[<-hob];rfl
 have g2:(h1.push ob).get? e=some oe:=Heap.get?_push_of_some _ g1
 have net:h1.objs.size≠e:=Nat.ne_of_gt (Heap.lt_size g1)
 refine wpAny_setField g2 de z1 (k _ h1.objs.size (by rw[so.1];exact qO_ _) ?_ (fun b o q n1 n2=>?_) (fun b o q nf=>?_) ?_)
 · have d3:=Obj.data_mapFields de (·.setIfInBounds 1 (Value.ref h1.objs.size))
   obtain⟨ts,q1,q2⟩:=dob
   refine⟨_,_,Heap.get?_update_self _ g2 (Obj.isFreed_of_fields d3),Obj.cls_mapFields _ _,d3,by simp [z1],net,ob,ts,?_,q1,q2⟩
   rw[Heap.get?_update_other _ _ (Ne.symm net)]
   exact Heap.get?_push_size _ fob
 · rw[Heap.get?_update_other _ _ (Ne.symm n2)]
   exact Heap.get?_push_of_some _ ((so.2.1 b n1).trans q)
 · have nb:b≠e:=by
    rintro rfl
    rw[ge]at q
    cases q
    exact nf vs de
   obtain⟨sl,q1⟩:=so.2.2 b o q
   refine⟨sl,?_⟩
   rw[Heap.get?_update_other _ _ (Ne.symm nb)]
   exact Heap.get?_push_of_some _ q1
 · rw[Heap.size_after_update,Heap.size_push,so.1]
   exact Nat.le_succ _
theorem vk{t:Option (Addr×Value)}{Q:Unit->Shared->Prop}(hA:A.frames=some (env :: outer))(fr:s.heap.FunFrames base (env :: outer))(hL:env.frame=some L)(tr:Tr s.heap e c t)
 (k:∀h' g,sU (frs (env :: outer)) e t g s.heap h'->Tr h' e c (some (g,rawInt L))->Q () {s with heap:=h'}):wpAny M A (noteFrame (.ref e) env) Q E s:=by
 obtain⟨oe,vs,ge,ce,de,ht⟩:=tr
 subst ce
 unfold noteFrame
 simp only[hL]
 cases t with
 |none=>
  refine wpAny_bind (wpAny_field ge de ht ?_)
  rw[if_neg (by decide)]
  refine rF hA fr hL ge de (Array.getElem?_eq_some_iff.mp ht).1 fun h' g hg tr' sm pl sz=>k h' g ⟨fun b o q n1 n2 _=>sm b o q n1 n2,pl,.inr hg,sz⟩ tr'
 |some q=>
  obtain⟨g0,z⟩:=q
  obtain⟨h1,hne,og,ts,gg,dg,h3⟩:=ht
  refine wpAny_bind (wpAny_field ge de h1 ?_)
  rw[if_pos (by rfl)]
  refine wpAny_bind (wpAny_field gg dg h3 ?_)
  by_cases hz:(z==rawInt L)=true
  · rw[if_pos hz]
    have hz':z=rawInt L:=by simpa using hz
    subst hz'
    refine wpAny_pure (k s.heap g0 ⟨fun b o q _ _ _=>q,fun b o q _=>⟨o.slots,q⟩,.inl ⟨_,rfl⟩,qO_ _⟩ ⟨oe,vs,ge,rfl,de,h1,hne,og,ts,gg,dg,h3⟩)
  · rw[if_neg hz]
    refine wpAny_bind (wpAny_setField gg dg (Array.getElem?_eq_some_iff.mp h3).1 ?_)
    have oth:∀b,b≠g0->(s.heap.update g0 (Obj.mapFields (·.setIfInBounds 3 Value.none))).get? b=s.heap.get? b:=fun b n=>Heap.get?_update_other _ _ (Ne.symm n)
    have nog:∀b o,s.heap.get? b=some o->(∀ws,o.data≠.fields ws)->b≠g0:=fun b o q nf w=>by
     rw[w,gg]at q
     cases q
     exact nf ts dg
    refine rF (s:={s with heap:=s.heap.update g0 (Obj.mapFields (·.setIfInBounds 3 Value.none))}) hA (fr.of_keeps fun b o q nf=>⟨o,(oth b (nog b o q nf)).trans q,rfl⟩) hL ((oth e (Ne.symm hne)).trans ge) de (Array.getElem?_eq_some_iff.mp h1).1 fun h' g hg tr' sm pl sz=>?_
    have e0:(s.heap.update g0 (Obj.mapFields (·.setIfInBounds 3 Value.none))).objs.size=s.heap.objs.size:=Heap.size_after_update ..
    refine k h' g ⟨fun b o q n1 n2 n3=>sm b o ((oth b (n3 _ rfl)).trans q) n1 n2,fun b o q nf=>pl b o ((oth b (nog b o q nf)).trans q) nf,.inr (by rw[<-e0];exact hg),by rw[<-e0];exact sz⟩ tr'
theorem pQ{g:Addr}{z:Value}{f:Option Addr}{Q:Unit->Shared->Prop}(tr:Tr s.heap e c (some (g,z)))
 (k:∀h',(∀b o,b≠g->s.heap.get? b=some o->h'.get? b=some o)->Tr h' e c (some (g,f.elim .none fun f=>rawInt f))->s.heap.objs.size<=h'.objs.size->(∀b o,s.heap.get? b=some o->(∀ws,o.data≠.fields ws)->h'.get? b=some o)->Q () {s with heap:=h'}):wpAny M A (setFlight (.ref e) f) Q E s:=by
 obtain⟨oe,vs,ge,ce,de,h1,hne,og,ts,gg,dg,h3⟩:=tr
 unfold setFlight
 refine wpAny_bind (wpAny_field ge de h1 ?_)
 rw[if_pos (by rfl)]
 have z3:=(Array.getElem?_eq_some_iff.mp h3).1
 refine wpAny_setField gg dg z3 (k _ (fun b o n q=>?_) ?_ ?_ fun b o q nf=>?_)
 · rw[Heap.get?_update_other _ _ (Ne.symm n)];exact q
 · have d3:=Obj.data_mapFields dg (·.setIfInBounds 3 (f.elim Value.none fun f=>rawInt f))
   exact⟨oe,vs,by rw[Heap.get?_update_other _ _ hne];exact ge,ce,de,h1,hne,_,_,Heap.get?_update_self _ gg (Obj.isFreed_of_fields d3),d3,by simp [z3]⟩
 · rw[Heap.size_after_update];exact qO_ _
 · have n:b≠g:=by
    rintro rfl
    rw[gg]at q
    cases q
    exact nf ts dg
   rw[Heap.get?_update_other _ _ (Ne.symm n)];exact q
end
def Fly(k:Heap)(H:Hp)(h:Heap)(e:Addr)(c:Value)(t:Option (Addr×Value)):Prop:=Tr h e c t/\H e=none/\k.get? e=none/\∀q,t=some q->H q.1=none/\k.get? q.1=none
theorem Fly.old{n m:Heap}{H:Hp}{h:Heap}{e:Addr}{c:Value}{t:Option (Addr×Value)}(f:Fly n H h e c t)(hm:∀b o,m.get? b=some o->∃o',n.get? b=some o'):Fly m H h e c t:=by
 have go:∀b,n.get? b=none->m.get? b=none:=fun b z=>by
  cases q:m.get? b with
  |none=>rfl
  |some o=>
   obtain⟨o',w⟩:=hm b o q
   rw[z]at w;cases w
 exact⟨f.1,f.2.1,go _ f.2.2.1,fun q z=>⟨(f.2.2.2 q z).1,go _ (f.2.2.2 q z).2⟩⟩
def CX1(P:Program)(w:World):CXT:=fun outer H s E x s'=>∃e H' c dx t,x= .ref e/\s'.os=s.os/\AllBare s'.gens/\Un (frs outer) [] H H' s.heap s'.heap/\HOk P w H' s'.heap/\Fly s.heap H' s'.heap e c t/\E c dx H'
def XOk(X:Cx)(E:XK):Prop:=∀σ H s e c dx t,L2.Inv X [] σ H s->Fly X.s₀.heap H s.heap e c t->E c dx H->X.xe (.ref e) s
structure Own (X:Cx):Prop where
 stk:X.stack=X.env :: X.outer
 fr:X.env.frame=some X.env.locals
 pn:X.pn=[]
 ex:X.ex=[]
section
variable{X:Cx}{σ:L2.St}{H:Hp}{s:Shared}{e:Addr}{c:Value}{t:Option (Addr×Value)}
theorem Inv.turn(I:L2.Inv X [] σ H s)(O:Own X)(f:Fly X.s₀.heap H s.heap e c t){g:Addr}{h':Heap}(tn:sU (frs X.stack) e t g s.heap h'):L2.Inv X [] σ H {s with heap:=h'}:=by
 obtain⟨tr,he,ne,nt⟩:=f
 have nex:∀b,b∉X.ex:=fun b z=>by rw[O.ex]at z;simp at z
 have fro:∀b,b∈frs X.stack->∃o,s.heap.get? b=some o/\∀vs,o.data≠.fields vs:=fun b hb=>(I.stack.mem hb).2
 have sub:∀b,b∈X.fs->b∈frs X.stack:=fun b hb=>by
  rw[O.stk]
  unfold frs
  rw[List.filterMap_cons,O.fr]
  exact qR_ _ hb
 have older:∀b o,X.s₀.heap.get? b=some o->b≠e/\(∀q,t=some q->b≠q.1)/\b≠X.env.locals:=fun b o q=>
  ⟨fun z=>(by rw[z,ne]at q;cases q),fun p w z=>(by rw[z,(nt p w).2]at q;cases q),Nat.ne_of_lt (qd_ (Heap.lt_size q) I.ok.above)⟩
 have cel:∀{d:Addr} {v:Option Value},s.heap.IsCell d v->h'.IsCell d v:=fun {d v} ⟨o,q,dd⟩=>by
  obtain⟨sl,z⟩:=tn.plain d o q fun ws w=>by rw[dd]at w;cases w
  exact⟨_,z,dd⟩
 refine⟨I.ok,I.os,I.bare,⟨fun b o q n nf nx=>?_,fun b o q n hf nx=>?_,I.base.free,fun b o q nx=>?_,I.base.pA,I.base.oh,I.base.pz⟩,?_,fun x d q=>?_,I.free,I.gV,fun p hp=>?_,fun b u q=>?_,I.len⟩
 · obtain⟨n1,n2,n3⟩:=older b o q
   refine tn.same b o (I.base.keep b o q n nf nx) (fun z=>?_) n1 n2
   rcases qS_.mp (I.jZ b z)with w |w
   · exact n3 w
   · exact nf w
 · obtain⟨sl,q1⟩:=I.base.slot b o q n hf nx
   obtain⟨o',q2,nf⟩:=fro b (sub b hf)
   rw[q1]at q2;cases q2
   obtain⟨sl2,z⟩:=tn.plain b _ q1 nf
   exact⟨sl2,z⟩
 · obtain⟨n1,n2,n3⟩:=older b o q
   obtain⟨o1,q1⟩:=I.base.there b o q nx
   by_cases hf:b∈frs X.stack
   · obtain⟨o',q2,nf⟩:=fro b hf
     obtain⟨sl,z⟩:=tn.plain b o' q2 nf
     exact⟨_,z⟩
   · exact⟨o1,tn.same b o1 q1 hf n1 n2⟩
 · obtain⟨m,⟨o,es,ep,q,d,r⟩,hm⟩:=I.loc
   obtain⟨sl,z⟩:=tn.plain _ o q fun ws w=>by rw[d]at w;cases w
   refine⟨m,⟨_,es,ep,z,d,r⟩,fun i x v h1 h2 h3=>?_⟩
   obtain⟨u,ru,lk⟩:=hm i x v h1 h2 h3
   refine⟨u,ru,?_⟩
   rcases lk with lk |⟨k,d',hd,ic⟩
   · exact .inl lk
   · exact .inr ⟨k,d',hd,cel ic⟩
 · obtain⟨v,w⟩:=I.cell x d q
   exact⟨v,cel w⟩
 · rw[O.pn]at hp;simp at hp
 · refine(I.hok b u q).jC (fun d v hc w=>?_) (fun _ z=>z) fun _ _ z=>z
   have hd:∃u',H d=some u':=by
    rcases hc with z |z
    · rw[z];exact⟨u,q⟩
    · exact⟨_,z⟩
   obtain⟨u',hu'⟩:=hd
   refine tn.same d v w (fun z=>?_) (fun z=>?_) fun p y z=>?_
   · rw[I.oW d z]at hu';cases hu'
   · rw[z,he]at hu';cases hu'
   · rw[z,(nt p y).1]at hu';cases hu'
theorem Fly.turn(I:L2.Inv X [] σ H s)(f:Fly X.s₀.heap H s.heap e c t){g:Addr}{z:Value}{h':Heap}{fs:List Addr}(tn:sU fs e t g s.heap h')(tr:Tr h' e c (some (g,z))):Fly X.s₀.heap H h' e c (some (g,z)):=by
 refine⟨tr,f.2.1,f.2.2.1,fun q w=>?_⟩
 cases w
 rcases tn.head with ⟨y,w⟩ |w
 · exact f.2.2.2 (g,y) w
 · exact⟨I.hok.fresh w,Heap.get?_none_of_le (Nat.le_trans I.sz w)⟩
theorem zA{M:Model}{A:Around}{EE:Value->Shared->Prop}{Q:Unit->Shared->Prop}(O:Own X)(hA:A.frames=some X.stack)(I:L2.Inv X [] σ H s)(f:Fly X.s₀.heap H s.heap e c t)
 (k:∀h' g,L2.Inv X [] σ H {s with heap:=h'}->Fly X.s₀.heap H h' e c (some (g,rawInt X.env.locals))->Q () {s with heap:=h'}):wpAny M A (noteFrame (.ref e) X.env) Q EE s:=by
 have fr:=I.stack
 rw[O.stk]at fr hA
 refine vk hA fr O.fr f.1 fun h' g tn tr=>k h' g (Inv.turn I O f (by rw[O.stk];exact tn)) (Fly.turn I f tn tr)
theorem vP{M:Model}{A:Around}{EE:Value->Shared->Prop}{Q:Unit->Shared->Prop}{g:Addr}{z:Value}{fo:Option Addr}(O:Own X)(I:L2.Inv X [] σ H s)(f:Fly X.s₀.heap H s.heap e c (some (g,z)))
 (k:∀h',L2.Inv X [] σ H {s with heap:=h'}->Fly X.s₀.heap H h' e c (some (g,fo.elim .none fun f=>rawInt f))->Q () {s with heap:=h'}):wpAny M A (setFlight (.ref e) fo) Q EE s:=
 pQ f.1 fun h' sm tr sz pl=>k h' (Inv.turn (g:=g) I O f ⟨fun b o q _ _ n=>sm b o (n _ rfl) q,fun b o q nf=>⟨o.slots,pl b o q nf⟩,.inl ⟨_,rfl⟩,sz⟩) ⟨tr,f.2.1,f.2.2.1,fun q w=>by cases w;exact f.2.2.2 (g,z) rfl⟩
theorem eJ{E:XK}(O:Own X)(h:XOk X E):fZ (CX1 X.prog X.w) X E:=by
 rintro pins σ H s x s' I ⟨e,H',c,dx,t,rfl,os,bare,un,hok,f,q⟩
 have I':L2.Inv X pins σ H' s':=I.Bb (ch:=[]) os un hok bare (fun b z=>absurd z (by simp))
 have I0:L2.Inv X [] σ H' s':=I'.oY fun p hp=>absurd hp (by simp)
 exact h σ H' s' e c dx t I0 (f.old fun b o z=>I.base.there b o z (by rw[O.ex];simp)) q
end
theorem bP{P:Program}{w:World}{K:PySem.W.Frag}{mg:Str->Option Value}{base:Heap}{N:List Str}{qual:Str}{scope:Scope}{fa:Addr}{cd:Value}{A:Around}{outer:List Env}{s:Shared}{H:Hp}{E:XK}:
 XOk (li (CX1 P w) P w K mg base N qual scope fa cd A outer s H E) E:=by
 intro σ H' s' e c dx t I f q
 have O:Own (li (CX1 P w) P w K mg base N qual scope fa cd A outer s H E):=⟨rfl,rfl,rfl,rfl⟩
 show wpAny _ _ (leaving _ _) _ _ _
 unfold leaving
 refine wpAny_bind (zA O I.ok.frames I f fun h1 g I1 f1=>?_)
 refine vP O I1 f1 fun h2 I2 f2=>?_
 exact⟨e,H',c,dx,_,rfl,I2.os,I2.bare,I2.base,I2.hok,f2,q⟩
theorem bO{CX:CXT}{P:Program}{w:World}{K:PySem.W.Frag}{mg:Str->Option Value}{base:Heap}{N:List Str}{qual:Str}{scope:Scope}{fa:Addr}{cd:Value}{A:Around}{outer:List Env}{s:Shared}{H:Hp}{E:XK}:
 Own (li CX P w K mg base N qual scope fa cd A outer s H E):=⟨rfl,rfl,rfl,rfl⟩
theorem As{CX:CXT}{P:Program}{w:World}{K:PySem.W.Frag}{mg:Str->Option Value}{base:Heap}{N:List Str}{qual:Str}{scope:Scope}{fa:Addr}{cd:Value}{A:Around}{outer:List Env}{s:Shared}{H:Hp}{E:XK}:
 PassesOwn (model P w) (li CX P w K mg base N qual scope fa cd A outer s H E).A (li CX P w K mg base N qual scope fa cd A outer s H E).env (li CX P w K mg base N qual scope fa cd A outer s H E).xe:=by
 intro x s' h
 have h:wpAny (model P w) (A.deeper (envOfC qual scope s.heap.objs.size fa cd)) (leaving (envOfC qual scope s.heap.objs.size fa cd) x) (fun _ s''=>CX outer H s E x s'') (fun e' s''=>CX outer H s E e' s'') s':=h
 exact PassesOwn.leaving (Q₁:=fun x s''=>CX outer H s E x s'') x s' h
section
variable{T:Tab}
theorem gJ{P:Program}{w:World}{K:PySem.W.Frag}{mg:Str->Option Value}{base:Heap}{x qual:Str}{st:Stmt}{fa:Addr}{fd:FuncData}{N ps:List Str}{k n:Nat}{pad:M3.St}{body:M3.S3}(F:Fun K x qual st fa fd)(S:aB N ps (af st))
 (hn:ps.length=n) (hpad:pad=List.replicate (N.length - n) none)
 (h:∀(cdv:Value) (A:Around) (outer:List Env) (s:Shared) (H:Hp) (E:XK),eY k (A.deeper (envOfC qual (af st) s.heap.objs.size fa cdv))->PSs (li (CX1 P w) P w K mg base N qual (af st) fa cdv A outer s H E) (aA st) (tS T K (EX.of T K E) body)):
 bh P w K mg base (CX1 P w) (k+1) fa fd ps (sp3 T K n (M3.fnM n pad body)):=by
 obtain⟨oc,od,kV,doc,pm,an,cdv,ct,osl,rfl,lk,hcd⟩:=F.ex
 refine CO lk hcd S (fun vs H Q E q=>by rw[hn];exact q.1) fun A outer s H vs Q E hr q=>⟨_,h cdv A outer s H E hr,?_⟩
 obtain⟨hl,μ,ds,G,Sm,d,q⟩:=q
 unfold M3.fnM at q
 obtain⟨c,q⟩:=jn q
 have e1:L2.start N vs=vs.map some++List.replicate (N.length - n) none:=by unfold L2.start;rw[hl]
 rw[e1]
 refine⟨μ,_,G,Sm,by rw[hpad];exact StD.start _ d,eP (M3.bc q) fun r G1 q1 σ' H' μ' u S' sd'=>?_⟩
 obtain⟨fl,σ2⟩:=r
 cases fl with
 |next=>exact q1 .non H' μ' u S' rfl
 |brk=>exact False.elim q1
 |cont=>exact False.elim q1
 |ret d=>exact fun v dv=>q1 v H' μ' u S' dv
end
theorem cL.at{P:Program}{w:World}{H:Hp}{h:Heap}{a:Addr}{o:HO}(x:cL P w H h a o):∃u,h.get? a=some u:=by
 cases o with
 |lst xs=>obtain⟨_,_,_,_,z⟩:=x;exact⟨_,z⟩
 |tup xs=>
  obtain⟨_,_,_,z⟩:=x
  obtain⟨u,z,_⟩:=z
  exact⟨u,z⟩
 |dK kvs=>obtain⟨_,_,_,_,_,_,_,z,_⟩:=x;exact⟨_,z⟩
 |dT kvs=>obtain⟨_,_,_,_,_,_,_,z,_⟩:=x;exact⟨_,z⟩
 |set S n=>obtain⟨_,_,_,_,z,_⟩:=x;exact⟨_,z⟩
 |ins C dx fs=>obtain⟨_,_,_,z,_⟩:=x;exact⟨_,z⟩
 |own y=>exact x
 |xd fs=>obtain⟨_,⟨_,_,_,z,_⟩,_⟩:=x;exact⟨_,z⟩
 |rng lo hi=>obtain⟨_,_,_,z⟩:=x;exact⟨_,z⟩
 |frz ob u=>exact⟨_,x.1⟩
 |tbl ps=>exact⟨_,x⟩
 |met f y=>exact⟨_,x⟩
 |ext φ=>exact x.2.1
def veM:List Value:=[.type "ValueError",.type "Exception",.type "BaseException",.type "object"]
structure XCl (K:PySem.W.Frag) (mg:Str->Option Value) (x:Str) (C:Addr):Prop where
 bd:mg x=some (.ref C)
 ex:PySem.W.excIn K C veM "ValueError.__new__"=true
theorem XCl.obj{K:PySem.W.Frag}{mg:Str->Option Value}{x:Str}{C:Addr}(z:XCl K mg x C){h₁:Heap}(X₁:K.In h₁):
 ∃bm N nm q bs hdct sn sub ab col dd k0 k1 k2 k3 k5 mN,∀h:Heap,K.In h->h.get? C=some (excClassObj nm q C N bs bm hdct sn sub ab col dd k0 k1 k2 k3 k5 "ValueError.__new__")/\h.Ns N mN/\mN "__init__"=none/\OwnTail h veM bm:=by
 have q:=z.ex
 unfold PySem.W.excIn at q
 split at q
 case h_2=>cases q
 rename_i dd cd sl at_
 split at q
 case h_2=>cases q
 rename_i C' bm k0 k1 k2 k3 n k5 em es
 simp only[Bool.and_eq_true,beq_iff_eq,Bool.not_eq_true']at q
 obtain⟨⟨⟨⟨⟨e1,e2⟩,e3⟩,e4⟩,e5⟩,e6⟩:=q
 subst e1 e2
 obtain⟨nm,bs,mro,ns,qn,hd,sn,sub,ab,col,del⟩:=cd
 have em:mro= .ref C' :: bm:=em
 have e3:del=false:=e3
 subst em e3
 have e7:sl=#[k0,k1,k2,k3,some (.builtin "ValueError.__new__"),k5]:=by
  cases sl with
  |mk l=>exact congrArg Array.mk es
 subst e7
 have n1:h₁.Ns ns (h₁.nsMap ns):= .of_isNs (PySem.W.isNs_of_in X₁ e5)
 refine⟨bm,ns,nm,qn,bs,hd,sn,sub,ab,col,dd,k0,k1,k2,k3,k5,h₁.nsMap ns,fun h Xh=>⟨Xh _ _ at_,?_,PySem.W.nsMap_none_of_in X₁ e5 e6,PySem.W.tail_of_in Xh e4⟩⟩
 refine n1.at fun o eo=>?_
 have e5:=e5
 unfold PySem.W.nsOkIn at e5
 split at e5
 case h_2=>cases e5
 rename_i lk
 have:=X₁ _ _ lk
 rw[eo]at this
 cases this
 exact Xh _ _ lk
section
variable{X:Cx}{T:Tab}{E:XK}
theorem AE{σ:L2.St}{H:Hp}{s:Shared}{pins:List (Addr×Obj)}{h':Heap}{e C:Addr}{us:List Value}{dx:Option Addr}(O:Own X)(ok:XOk X E)(I:L2.Inv X pins σ H s)(m:Heap.MadeExcOf s.heap h' e (.ref C) us)(q:E (.ref C) dx H):X.xe (.ref e) {s with heap:=h'}:=by
 have I1:L2.Inv X pins σ H {s with heap:=h'}:=I.kept (t':=s.toks) m.keeps
 have I0:L2.Inv X [] σ H {s with heap:=h'}:=I1.oY fun p hp=>absurd hp (by simp)
 obtain⟨t,g,_,_⟩:=m.there
 refine ok σ H _ e (.ref C) dx none I0 ⟨⟨_,_,g,rfl,rfl,rfl⟩,?_,?_,fun q z=>nomatch z⟩ q
 · cases z:H e with
   |none=>rfl
   |some u=>
    obtain⟨u',w⟩:=cL.at (I.hok e u z)
    rw[m.new]at w;cases w
 · cases z:X.s₀.heap.get? e with
   |none=>rfl
   |some o=>
    obtain⟨o',w⟩:=I.base.there e o z (by rw[O.ex];simp)
    rw[m.new]at w;cases w
variable{x:Str}{np cpos pos:Pos}{e0:Expr}{es:List Expr}{fa:M3.A3}{c:Nat}{C:Addr}
theorem y_raise(O:Own X)(ok:XOk X E)(hh:X.A.handled=none)(k:XCl X.K X.mg x C)(hc:T.cls c=some C)(ha:PA X (e0 :: es) (tA T X.K (EX.of T X.K E) fa))(hg:Gl X x:=by rfl)(hdb:(x==("__debug__":Str))=false:=by decide)
 (he:starEach (e0 :: es) X.env=(false,eval e0 X.env) :: starEach es X.env:=by rfl) (hpl:(backTo cpos (starEach es X.env)).any (·.1)=false:=by rfl):PS X (.Raise (some (.Call (.Name x np) (e0 :: es) [] cpos)) none pos) (tS T X.K (EX.of T X.K E) (M3.ma c fa)):=by
 intro pins s σ H D I ⟨μ,σ3,G,S,sd,h⟩
 obtain⟨bm,N,nm,q,bs,hdct,sn,sub,ab,col,dd,k0,k1,k2,k3,k5,mN,hk⟩:=k.obj I.kIn
 obtain⟨hC,hN,hni,tl⟩:=hk s.heap I.kIn
 have hbase:bm.contains (.type "BaseException")=true:=tl.hasType (by decide)
 refine wpAny_Raise_call_subT (C:=C) (nm:=nm) (q:=q) (N:=N) (bs:=bs) (bm:=bm) (hdct:=hdct) (sn:=sn) (sub:=sub) (ab:=ab) (col:=col) (dd:=dd) (k0:=k0) (k1:=k1) (k2:=k2) (k3:=k3) (k5:=k5) (bmB:=veM) PySem.F.excBase_ValueError (mN:=mN) hbase hh
  (by rw[he];show (false||(backTo cpos (starEach es X.env)).any (·.1))=false;rw[hpl];rfl) hni (kQ I hg k.bd ⟨rfl,?_⟩ hdb)
 have key:=ha cpos pins s σ H (fun vs H1=>vs.length<=sizeLine/\∃dx,E (.ref C) dx H1) I ⟨μ,σ3,G,S,sd,oG h fun ds G1 vs H1 μ1 u1 S1 d1 h1=>?_⟩
 · rw[he]at key ⊢
   refine Calls.evalArgs_plain (thn key fun us s2 ⟨vs,H1,I1,r1,hl,dx,q1⟩=>?_)
   obtain⟨hC',hN',hni',tl'⟩:=hk s2.heap I1.kIn
   exact⟨rfl,by rw[<-r1.length];exact hl,hC',hN',tl',fun h' e m=>AE O ok I1 m q1⟩
 · obtain⟨hl,h1⟩:=jn h1
   exact⟨by rw[<-d1.length,<-dO];exact hl,none,h1 C none H1 μ1 hc (Up.refl _ _) S1⟩
end
theorem kx{α β:Type} [BEq α] [LawfulBEq α]:∀{l:List (α×β)} {a:α} {b:β},l.lookup a=some b->(a,b)∈l
 | [],_,_,h=>by cases h
 |(c,d) :: r,a,b,h=>by
  rw[List.lookup_cons]at h
  cases q:a==c with
  |true=>
   rw[q]at h
   cases h
   rw[eq_of_beq q]
   exact qI_
  |false=>
   rw[q]at h
   exact qR_ _ (kx h)
theorem Blk.of{X:Cx}{x:Str}{caps:List (Str×Nat)}{scope:Scope}{cl:List (Str×Addr)}(kind:scope.kind= .function)(h1:(scope.names.all fun y=>decide (y.2≠.cell))=true)
 (h2:(scope.names.all fun y=>decide (y.2= .local->scope.names.lookup y.1=some .local))=true) (own:scope.names.lookup x=some .local) (Bo:closureFor scope X.env=pure cl) (nd:(x :: caps.map (·.1)).Nodup)
 (sub:(cl.map fun p=>X.env.cells.lookup p.1)=cl.map fun p=>some p.2) (has:((relabel scope X.env).names.all fun p=>decide ((p.2= .cell\/p.2= .free)->(cl.lookup p.1).isSome=true))=true) (nox:cl.lookup x=none)
 (cap1:(caps.map fun p=>X.N[p.2]?)=caps.map fun p=>some p.1) (cap2:(caps.all fun p=>decide ((X.env.kindOf p.1=some .cell\/X.env.kindOf p.1=some .free)/\((relabel scope X.env).names.lookup p.1=some .cell\/(relabel scope X.env).names.lookup p.1=some .free)))=true):Blk X x caps scope cl:=by
 refine⟨kind,fun y hy=>of_decide_eq_true (List.all_eq_true.mp h1 y hy),fun y hy=>of_decide_eq_true (List.all_eq_true.mp h2 y hy),own,Bo,nd,fun y c e=>?_,fun y hy=>?_,nox,fun j y i e=>?_⟩
 · have m:=kx e
   obtain⟨j,hj,e1⟩:=List.getElem_of_mem m
   have e2:=congrArg (·[j]?) sub
   simp only[qQ_,qA_ hj,e1,Option.map_some]at e2
   exact Option.some.inj e2
 · have go:∀k,(relabel scope X.env).names.lookup y=some k->(k= .cell\/k= .free)->∃c,cl.lookup y=some c:=fun k hk hz=>
    Option.isSome_iff_exists.mp (of_decide_eq_true (List.all_eq_true.mp has _ (kx hk)) hz)
   rcases hy with z |z
   · exact go _ z (.inl rfl)
   · exact go _ z (.inr rfl)
 · have hm:(y,i)∈caps:=qD_ e
   obtain⟨q1,q2⟩:=of_decide_eq_true (List.all_eq_true.mp cap2 _ hm)
   refine⟨?_,q1,q2⟩
   have e2:=congrArg (·[j]?) cap1
   simp only[qQ_,e,Option.map_some]at e2
   exact Option.some.inj e2
theorem ya{Z:Nat->M3.Hh->Prop}{n:Nat}{y:M3.D}{G:M3.Hh}{P:M3.D->M3.Hh->Prop}(h:M3.run (M3.jE (.ref n) y) G P Z):∃m xs ys,y= .ref m/\G[n]? =some (.lst xs)/\G[m]? =some (.lst ys)/\xs.length+ys.length<=M3.aH/\P .non (G.set n (.lst (xs++ys))):=by
 unfold M3.run M3.jE at h
 cases y with
 |ref m=>
  dsimp only at h
  cases q:G[n]? with
  |none=>rw[q]at h;exact False.elim h
  |some o=>
   rw[q]at h
   cases q2:G[m]? with
   |none=>rw[q2]at h;cases o <;> exact False.elim h
   |some o2=>
    rw[q2]at h
    cases o with
    |lst xs=>
     cases o2 with
     |lst ys=>
      dsimp only at h
      by_cases c:xs.length+ys.length<=M3.aH
      · rw[if_pos c]at h;exact⟨m,xs,ys,rfl,rfl,q2,c,h⟩
      · rw[if_neg c]at h;exact False.elim h
     |_=>exact False.elim h
    |_=>exact False.elim h
 |_=>exact False.elim h
theorem zx{Z:Nat->M3.Hh->Prop}{n:Nat}{y:M3.D}{G:M3.Hh}{P:M3.D->M3.Hh->Prop}(h:M3.run (M3.md (.ref n) y) G P Z):∃i xs k z,y= .int i/\G[n]? =some (.lst xs)/\M3.ixN xs.length i=some k/\xs[k]? =some z/\-(2 ^ 62)<=i/\i < 2 ^ 62/\P z (G.set n (.lst (xs.eraseIdx k))):=by
 unfold M3.run M3.md at h
 cases y with
 |int i=>
  dsimp only at h
  cases q:G[n]? with
  |none=>rw[q]at h;exact False.elim h
  |some o=>
   rw[q]at h
   cases o with
   |lst xs=>
    dsimp only at h
    cases qk:M3.ixN xs.length i with
    |none=>rw[qk]at h;exact False.elim h
    |some k=>
     rw[qk]at h
     dsimp only at h
     cases qz:xs[k]? with
     |none=>rw[qz]at h;exact False.elim h
     |some z=>
      rw[qz]at h
      dsimp only at h
      by_cases c:-(2 ^ 62)<=i/\i < 2 ^ 62
      · rw[if_pos c]at h;exact⟨i,xs,k,z,rfl,rfl,qk,qz,c.1,c.2,h⟩
      · rw[if_neg c]at h;exact False.elim h
   |_=>exact False.elim h
 |_=>exact False.elim h
theorem aF.erase{K:PySem.W.Frag}{μ:List Addr}{H:Hp}:∀{ds:List M3.D} {vs:List V} (k:Nat),aF K H μ ds vs->aF K H μ (ds.eraseIdx k) (vs.eraseIdx k)
 | [],vs,k,h=>by cases (show vs=[]from h);simp [aF]
 |_ :: ds,_,0,⟨v,r,e,h,t⟩=>by subst e;exact t
 |_ :: ds,_,k+1,⟨v,r,e,h,t⟩=>by subst e;exact⟨v,r.eraseIdx k,rfl,h,aF.erase k t⟩
section
variable{X:Cx}{T:Tab}{Y:EX}{o e:Expr}{fa fb:M3.E3}{pos apos:Pos}
theorem uy(ho:PE X o (tE T X.K Y fa))(he:PE X e (tE T X.K Y fb))
 (hbase:attributeBase o "extend" X.env (eval o X.env)=eval o X.env:=by rfl)
 (hfew:((backTo pos (starEach (e :: []) X.env)).all (fun x=>!x.1)&&(backToKw pos (keywordEach [] X.env)).all (fun x=>x.1.isSome)&&decide ((e :: ([]:List Expr)).length+([]:List Keyword).length+(if ([]:List Keyword).isEmpty then 0 else 1) < 30))=true:=by rfl)
 (hline:(apos.endLine==pos.line)=true:=by rfl) (hs:starEach (e :: []) X.env=(false,eval e X.env) :: starEach [] X.env:=by rfl) (hplain:(backTo pos (starEach [] X.env)).any (·.1)=false:=by rfl):
 PE X (.Call (.Attribute o "extend" apos) [e] [] pos) (tE T X.K Y (M3.nR fa fb)):=by
 refine PE.of (Aa PySem.F.plainAttrs_list PySem.F.slot_list_extend PySem.F.type_list_extend ye ho (eO he je hs) hbase hfew hline hs hplain) fun σ H Q ⟨μ,σ3,G,S,sd,h⟩=>⟨μ,σ3,G,S,sd,bZ h fun d G1 v H1 μ1 u1 S1 d1 h1=>?_⟩
 obtain⟨n,xs,rfl,q,h1⟩:=wg (M3.bc h1)
 obtain⟨a,ea,rfl⟩:=id d1
 obtain⟨vs,e1,r1⟩:=S1.obj n a _ ea q
 refine⟨.inl ⟨rfl,vs,SqL.of e1⟩,μ1,σ3,G1,S1,sd.up u1,bZ h1 fun y G2 w H2 μ2 u2 S2 d2 h2=>?_⟩
 obtain⟨m,xs2,ys2,rfl,q2,q3,hl,h3⟩:=ya h2
 have ea2:=u2.at ea
 obtain⟨b,eb,rfl⟩:=id d2
 obtain⟨vs2,e2,r2⟩:=S2.obj n a _ ea2 q2
 obtain⟨ws2,e3,r3⟩:=S2.obj m b _ eb q3
 have up:=Up.set S2 (.lst (vs2++ws2)) ea2 q2 rfl
 refine⟨a,b,vs2,ws2,rfl,rfl,e2,e3,by rw[<-r2.length,<-r3.length,<-dO];exact hl,?_⟩
 exact h3 _ _ μ2 ((u1.trans u2).trans up) (S2.set ea2 q2 rfl rfl ⟨_,aW,aF.up up (r2.append r3)⟩) rfl
theorem BX(ho:PE X o (tE T X.K Y fa))(he:PE X e (tE T X.K Y fb))
 (hbase:attributeBase o "pop" X.env (eval o X.env)=eval o X.env:=by rfl)
 (hfew:((backTo pos (starEach (e :: []) X.env)).all (fun x=>!x.1)&&(backToKw pos (keywordEach [] X.env)).all (fun x=>x.1.isSome)&&decide ((e :: ([]:List Expr)).length+([]:List Keyword).length+(if ([]:List Keyword).isEmpty then 0 else 1) < 30))=true:=by rfl)
 (hline:(apos.endLine==pos.line)=true:=by rfl) (hs:starEach (e :: []) X.env=(false,eval e X.env) :: starEach [] X.env:=by rfl) (hplain:(backTo pos (starEach [] X.env)).any (·.1)=false:=by rfl):
 PE X (.Call (.Attribute o "pop" apos) [e] [] pos) (tE T X.K Y (M3.sL fa fb)):=by
 refine PE.of (Aa PySem.F.plainAttrs_list PySem.F.slot_list_pop PySem.F.type_list_pop yZ ho (eO he je hs) hbase hfew hline hs hplain) fun σ H Q ⟨μ,σ3,G,S,sd,h⟩=>⟨μ,σ3,G,S,sd,bZ h fun d G1 v H1 μ1 u1 S1 d1 h1=>?_⟩
 obtain⟨n,xs,rfl,q,h1⟩:=wg (M3.bc h1)
 obtain⟨a,ea,rfl⟩:=id d1
 obtain⟨vs,e1,r1⟩:=S1.obj n a _ ea q
 refine⟨.inl ⟨rfl,vs,SqL.of e1⟩,μ1,σ3,G1,S1,sd.up u1,bZ h1 fun y G2 w H2 μ2 u2 S2 d2 h2=>?_⟩
 obtain⟨i,xs2,k,z,rfl,q2,qk,qz,hi,hj,h3⟩:=zx h2
 have ea2:=u2.at ea
 obtain⟨vs2,e2,r2⟩:=S2.obj n a _ ea2 q2
 obtain⟨zv,ez,dz⟩:=r2.get qz
 rw[r2.length]at qk
 have sq:=tU (show L2.ixN vs2.length i=some k from qk)
 have up:=Up.set S2 (.lst (vs2.eraseIdx k)) ea2 q2 rfl
 have ei:w=V.int i:=d2
 subst ei
 refine⟨a,vs2,i,k,zv,rfl,rfl,e2,by omega,by omega,sq.1,ez,?_⟩
 exact h3 _ _ μ2 ((u1.trans u2).trans up) (S2.set ea2 q2 rfl rfl ⟨_,aW,aF.up up (aF.erase k r2)⟩) (Den.up up dz)
end
theorem pk:∀{kvs:List (L2.Key×V)} {vs:List (L2.Key×Value)},KV kvs vs->Vals (kvs.map (·.2)) (vs.map (·.2))
 |_,_,.nil=>.nil
 |_,_,.cons r t=>.cons r.2 (pk t)
section
variable{X:Cx}{T:Tab}{Y:EX}{o:Expr}{fa:M3.E3}{p pos apos ipos:Pos}
theorem vB{to:TE}(hc:X.A.handled=none)(ho:PE X o to)(hm:X.mg "list"=none)(hg:Gl X "list":=by rfl)
 (hbase:attributeBase o "values" X.env (eval o X.env)=eval o X.env:=by rfl) (hline:(apos.endLine==ipos.line)=true:=by rfl)
 (he:starEach [.Call (.Attribute o "values" apos) [] [] ipos] X.env=(false,eval (.Call (.Attribute o "values" apos) [] [] ipos) X.env) :: starEach [] X.env:=by rfl) (hpl:(backTo pos (starEach [] X.env)).any (·.1)=false:=by rfl):
 PE X (.Call (.Name "list" p) [.Call (.Attribute o "values" apos) [] [] ipos] [] pos) (fun σ H Q=>to σ H fun x H1=>∃a kvs,x= .ref a/\H1 a=some (.dK kvs)/\∀l,H1 l=none->Q (.ref l) (upd H1 l (.lst (kvs.map (·.2))))):=by
 intro pins s σ H Q I h
 refine wpAny_Call_Name_kw (mm I hg hm boot_list ?_ (by decide) (by decide))
 refine PyProof.Rows.callWith_type1 (Q:=EP X pins σ Q) ?_ he hpl
 rw[he]
 show wpAny _ _ (spliced ((false,eval (.Call (.Attribute o "values" apos) [] [] ipos) X.env) :: backTo pos (starEach [] X.env))) _ _ s
 refine Calls.spliced_cons ?_
 refine wpAny_Call_method0_late hbase hline (thn (ho pins s σ H _ I h) fun v s1 ⟨x,H1,I1,r1,a,kvs,e,ha,q⟩=>?_)
 subst e
 cases r1
 obtain⟨h1,h2⟩:=wu I1 (x:= .ref a) rfl (T:="dict") (.inr (.inr (.inl ⟨rfl,.inl ⟨kvs,ha⟩⟩)))
 refine⟨"dict","dict.values",PySem.F.plainAttrs_dict,PySem.F.slot_dict_values,PySem.F.type_dict_values,h1,h2,Calls.callWith_builtin rfl (PySem.evalArgs_none ?_)⟩
 obtain⟨hz,hS,vs,rv,dd⟩:=Ag I1.hok ha
 refine call_meetsIn PySem.F.slot_dict_values dd.typeIs PySem.F.entry_dict_values (PySem.F.args_dict_values_1 _) (meets_dict_values (cN X.prog X.w) a hS) ⟨⟨vs,dd⟩,?_⟩
 show wpAny _ _ (spliced []) _ _ _
 refine Calls.spliced_nil ?_
 have I2:L2.Inv X pins σ H1 {s1 with heap:=s1.heap.push {cls:= .type "dict_values",data:= .fields #[.ref a]}}:=I1.kept (t':=s1.toks) fun b u e=>Heap.get?_push_of_some _ e
 obtain⟨ep,hat⟩:=dd.dictAt
 refine PySem.W.kdl_call (PySem.W.kdl_values (knd:=cN X.prog X.w) (d:=a) (r:=s1.heap.objs.size) (kvs:=vs) (ep:=ep)) hc ⟨⟨_,Heap.get?_push_size _ rfl,rfl,rfl⟩,hat.push _⟩ (by rw[<-rv.length];exact hz) fun h' tk acc c' hk hS' items=>?_
 have ev:acc.toList=vs.map (·.2):=PySem.W.kdl_vals_eq acc.toList (by rw[Array.length_toList];exact items.1) fun j v e=>items.2 j v (by rw[<-Array.getElem?_toList];exact e)
 have rr:Vals (kvs.map (·.2)) acc.toList:=by rw[ev];exact pk rv
 refine⟨.ref (s1.heap.push {cls:= .type "dict_values",data:= .fields #[.ref a]}).objs.size,_,I2.laid (t':=tk) hk (qO_ _) (show cL X.prog X.w _ h' _ (.lst (kvs.map (·.2)))from⟨by rw[qM_];exact hz,acc.toList,c',rr,by rw[Array.toArray_toList];exact hS'⟩),rfl,q _ (I2.hok.fresh (qO_ _))⟩
theorem aF.Di{K:PySem.W.Frag}{H:Hp}{μ:List Addr}:∀{kvs:List (M3.Key×M3.D)} {ws:List (L2.Key×V)},Paired (fun(p:M3.Key×M3.D) (q:L2.Key×V)=>p.1=q.1/\Den K H μ p.2 q.2) kvs ws->aF K H μ (kvs.map (·.2)) (ws.map (·.2))
 |_,_,.nil=>rfl
 |_,_,.cons r t=>⟨_,_,rfl,r.2,aF.Di t⟩
theorem vK(hc:X.A.handled=none)(ho:PE X o (tE T X.K Y fa))(hm:X.mg "list"=none)(hg:Gl X "list":=by rfl)
 (hbase:attributeBase o "values" X.env (eval o X.env)=eval o X.env:=by rfl) (hline:(apos.endLine==ipos.line)=true:=by rfl)
 (he:starEach [.Call (.Attribute o "values" apos) [] [] ipos] X.env=(false,eval (.Call (.Attribute o "values" apos) [] [] ipos) X.env) :: starEach [] X.env:=by rfl) (hpl:(backTo pos (starEach [] X.env)).any (·.1)=false:=by rfl):
 PE X (.Call (.Name "list" p) [.Call (.Attribute o "values" apos) [] [] ipos] [] pos) (tE T X.K Y (M3.zm fa)):=by
 refine PE.of (vB hc ho hm hg hbase hline he hpl) fun σ H Q ⟨μ,σ3,G,S,sd,h⟩=>⟨μ,σ3,G,S,sd,bZ h fun d G1 v H1 μ1 u1 S1 d1 h1=>?_⟩
 unfold M3.run M3.uA at h1
 cases d with
 |ref n=>
  dsimp only at h1
  obtain⟨a,ea,rfl⟩:=id d1
  cases q:G1[n]? with
  |none=>rw[q]at h1;exact False.elim h1
  |some ob=>
   have od:=S1.obj n a ob ea q
   rw[q]at h1
   cases ob with
   |dK kvs=>
    obtain⟨ws,e1,r⟩:=od
    refine⟨a,ws,rfl,e1,fun l hl=>?_⟩
    have up:=Up.new (μ:=μ1) (.lst (ws.map (·.2))) hl
    exact h1 _ _ (μ1++[l]) (u1.trans up) (S1.new hl rfl ⟨_,aW,aF.up up (aF.Di r)⟩) ⟨l,by rw[<-S1.len];simp,rfl⟩
   |_=>exact False.elim h1
 |_=>exact False.elim h1
end
def ApP(pins:List (Addr×Obj))(e:Addr)(t:Option (Addr×Value)):Prop:=∀p∈pins,p.1≠e/\∀q,t=some q->p.1≠q.1
section
variable{X:Cx}{σ:L2.St}{H:Hp}{s:Shared}{e:Addr}{c:Value}{t:Option (Addr×Value)}{pins:List (Addr×Obj)}
theorem Inv.C5(I:L2.Inv X pins σ H s)(O:Own X)(f:Fly X.s₀.heap H s.heap e c t)(ap:ApP pins e t){g:Addr}{h':Heap}(tn:sU (frs X.stack) e t g s.heap h'):L2.Inv X pins σ H {s with heap:=h'}:=by
 obtain⟨tr,he,ne,nt⟩:=f
 have nex:∀b,b∉X.ex:=fun b z=>by rw[O.ex]at z;simp at z
 have fro:∀b,b∈frs X.stack->∃o,s.heap.get? b=some o/\∀vs,o.data≠.fields vs:=fun b hb=>(I.stack.mem hb).2
 have sub:∀b,b∈X.fs->b∈frs X.stack:=fun b hb=>by
  rw[O.stk]
  unfold frs
  rw[List.filterMap_cons,O.fr]
  exact qR_ _ hb
 have older:∀b o,X.s₀.heap.get? b=some o->b≠e/\(∀q,t=some q->b≠q.1)/\b≠X.env.locals:=fun b o q=>
  ⟨fun z=>(by rw[z,ne]at q;cases q),fun p w z=>(by rw[z,(nt p w).2]at q;cases q),Nat.ne_of_lt (qd_ (Heap.lt_size q) I.ok.above)⟩
 have cel:∀{d:Addr} {v:Option Value},s.heap.IsCell d v->h'.IsCell d v:=fun {d v} ⟨o,q,dd⟩=>by
  obtain⟨sl,z⟩:=tn.plain d o q fun ws w=>by rw[dd]at w;cases w
  exact⟨_,z,dd⟩
 refine⟨I.ok,I.os,I.bare,⟨fun b o q n nf nx=>?_,fun b o q n hf nx=>?_,I.base.free,fun b o q nx=>?_,I.base.pA,I.base.oh,I.base.pz⟩,?_,fun x d q=>?_,I.free,I.gV,fun p hp=>?_,fun b u q=>?_,I.len⟩
 · obtain⟨n1,n2,n3⟩:=older b o q
   refine tn.same b o (I.base.keep b o q n nf nx) (fun z=>?_) n1 n2
   rcases qS_.mp (I.jZ b z)with w |w
   · exact n3 w
   · exact nf w
 · obtain⟨sl,q1⟩:=I.base.slot b o q n hf nx
   obtain⟨o',q2,nf⟩:=fro b (sub b hf)
   rw[q1]at q2;cases q2
   obtain⟨sl2,z⟩:=tn.plain b _ q1 nf
   exact⟨sl2,z⟩
 · obtain⟨n1,n2,n3⟩:=older b o q
   obtain⟨o1,q1⟩:=I.base.there b o q nx
   by_cases hf:b∈frs X.stack
   · obtain⟨o',q2,nf⟩:=fro b hf
     obtain⟨sl,z⟩:=tn.plain b o' q2 nf
     exact⟨_,z⟩
   · exact⟨o1,tn.same b o1 q1 hf n1 n2⟩
 · obtain⟨m,⟨o,es,ep,q,d,r⟩,hm⟩:=I.loc
   obtain⟨sl,z⟩:=tn.plain _ o q fun ws w=>by rw[d]at w;cases w
   refine⟨m,⟨_,es,ep,z,d,r⟩,fun i x v h1 h2 h3=>?_⟩
   obtain⟨u,ru,lk⟩:=hm i x v h1 h2 h3
   refine⟨u,ru,?_⟩
   rcases lk with lk |⟨k,d',hd,ic⟩
   · exact .inl lk
   · exact .inr ⟨k,d',hd,cel ic⟩
 · obtain⟨v,w⟩:=I.cell x d q
   exact⟨v,cel w⟩
 · obtain⟨z1,z2,z3,z4,z5⟩:=I.pin p hp
   rw[O.pn]at hp
   obtain⟨y1,y2⟩:=ap p (by simpa using hp)
   refine⟨tn.same p.1 p.2 z1 (fun z=>?_) y1 y2,z2,z3,z4,z5⟩
   rcases qS_.mp (I.jZ p.1 z)with w |w
   · exact z3 w
   · exact z4 w
 · refine(I.hok b u q).jC (fun d v hc w=>?_) (fun _ z=>z) fun _ _ z=>z
   have hd:∃u',H d=some u':=by
    rcases hc with z |z
    · rw[z];exact⟨u,q⟩
    · exact⟨_,z⟩
   obtain⟨u',hu'⟩:=hd
   refine tn.same d v w (fun z=>?_) (fun z=>?_) fun p y z=>?_
   · rw[I.oW d z]at hu';cases hu'
   · rw[z,he]at hu';cases hu'
   · rw[z,(nt p y).1]at hu';cases hu'
theorem ym{M:Model}{A:Around}{EE:Value->Shared->Prop}{Q:Unit->Shared->Prop}(O:Own X)(hA:A.frames=some X.stack)(I:L2.Inv X pins σ H s)(f:Fly X.s₀.heap H s.heap e c t)(ap:ApP pins e t)
 (k:∀h' g,L2.Inv X pins σ H {s with heap:=h'}->Fly X.s₀.heap H h' e c (some (g,rawInt X.env.locals))->ApP pins e (some (g,rawInt X.env.locals))->Q () {s with heap:=h'}):wpAny M A (noteFrame (.ref e) X.env) Q EE s:=by
 have fr:=I.stack
 rw[O.stk]at fr hA
 have pl:∀p∈pins,p.1 < s.heap.objs.size:=fun p hp=>Heap.lt_size (I.pin p (qE_ _ hp)).1
 refine vk hA fr O.fr f.1 fun h' g tn tr=>k h' g (Inv.C5 I O f ap (by rw[O.stk];exact tn)) ?_ fun p hp=>⟨(ap p hp).1,fun q w=>?_⟩
 · refine⟨tr,f.2.1,f.2.2.1,fun q w=>?_⟩
   cases w
   rcases tn.head with ⟨y,w⟩ |w
   · exact f.2.2.2 (g,y) w
   · exact⟨I.hok.fresh w,Heap.get?_none_of_le (Nat.le_trans I.sz w)⟩
 · cases w
   rcases tn.head with ⟨y,w⟩ |w
   · exact(ap p hp).2 (g,y) w
   · exact Nat.ne_of_lt (qd_ (pl p hp) w)
theorem oC{M:Model}{A:Around}{EE:Value->Shared->Prop}{Q:Unit->Shared->Prop}{g:Addr}{z:Value}{fo:Option Addr}(O:Own X)(I:L2.Inv X pins σ H s)(f:Fly X.s₀.heap H s.heap e c (some (g,z)))(ap:ApP pins e (some (g,z)))
 (k:∀h',L2.Inv X pins σ H {s with heap:=h'}->Fly X.s₀.heap H h' e c (some (g,fo.elim .none fun f=>rawInt f))->ApP pins e (some (g,fo.elim .none fun f=>rawInt f))->Q () {s with heap:=h'}):wpAny M A (setFlight (.ref e) fo) Q EE s:=
 pQ f.1 fun h' sm tr sz pl=>k h' (Inv.C5 (g:=g) I O f ap ⟨fun b o q _ _ n=>sm b o (n _ rfl) q,fun b o q nf=>⟨o.slots,pl b o q nf⟩,.inl ⟨_,rfl⟩,sz⟩) ⟨tr,f.2.1,f.2.2.1,fun q w=>by cases w;exact f.2.2.2 (g,z) rfl⟩ fun p hp=>⟨(ap p hp).1,fun q w=>by cases w;exact(ap p hp).2 (g,z) rfl⟩
def XP(X:Cx)(pins:List (Addr×Obj))(σ:L2.St)(E:XK)(x:Value)(s':Shared):Prop:=∃e H' c dx t,x= .ref e/\L2.Inv X pins σ H' s'/\Fly X.s₀.heap H' s'.heap e c t/\ApP pins e t/\E c dx H'
def PEx(X:Cx)(e:Expr)(t:L2.St->Hp->VK->XK->Prop):Prop:=∀(pins:List (Addr×Obj)) (s:Shared) (σ:L2.St) (H:Hp) (Q:VK) (E:XK),L2.Inv X pins σ H s->t σ H Q E->wpAny (model X.prog X.w) X.A (eval e X.env) (EP X pins σ Q) (XP X pins σ E) s
theorem Bt{k:Nat}{f:Addr}{fd:FuncData}{ps:List Str}{sp:Sp}{Q:VK}{E:XK}{us:List Value}{vs:List V}(O:Own X)(F:bh X.prog X.w X.K X.mg X.base (CX1 X.prog X.w) k f fd ps sp)(hr:eY k X.A)(hb:Binds X.K fd ps [])
 (I:L2.Inv X pins σ H s) (r:Vals vs us) (h:sp vs H Q E):wpAny (model X.prog X.w) X.A (call (.ref f) us) (EP X pins σ Q) (XP X pins σ E) s:=by
 have hl:(us++[]).length=ps.length:=by rw[qY_,<-r.length];exact F.len _ _ _ _ h
 have hbd:=hb s us I.kIn hl
 rw[qY_]at hbd
 refine wpAny_call (codeAny_mono (F.run X.A X.stack s H ⟨us,[]⟩ us vs Q E hr I.Ff hbd r h) fun r s' hq=>?_)
 cases r with
 |error x=>
  obtain⟨e,H',c,dx,t,rfl,os,bare,un,hok,f,q⟩:=hq
  refine⟨e,H',c,dx,t,rfl,I.Bb (ch:=[]) os un hok bare (fun b z=>absurd z (by simp)),f.old fun b o z=>I.base.there b o z (by rw[O.ex];simp),fun p hp=>?_,q⟩
  have live:=(I.pin p (qE_ _ hp)).1
  exact⟨fun z=>(by rw[z,f.2.2.1]at live;cases live),fun y w z=>(by rw[z,(f.2.2.2 y w).2]at live;cases live)⟩
 |ok fl=>
  cases fl with
  |ret u=>exact I.after hq
  |next=>exact False.elim hq
  |brk=>exact False.elim hq
  |cont=>exact False.elim hq
end
def tEx(T:Tab)(K:PySem.W.Frag)(f:M3.E3):L2.St->Hp->VK->XK->Prop:=fun σ H Q E=>tE T K (EX.of T K E) f σ H Q
section
variable{X:Cx}{T:Tab}{o e:Expr}{es:List Expr}{p pos apos:Pos}{fa:M3.E3}{f3:M3.A3}{k n C:Nat}{x m:Str}{g:List M3.D->M3.M M3.D}
theorem GJ{α:Type}{M:Model}{A:Around}{t:Sem α}{Q Q':α->Shared->Prop}{E:Value->Shared->Prop}{s:Shared}(h:wpAny M A t Q (fun _ _=>False) s)(hq:∀a s,Q a s->Q' a s):wpAny M A t Q' E s:=wpAny_mono h hq fun _ _ z=>z.elim
theorem Bi{pl:Sem Bool}(O:Own X)(F:Mt3 X.prog X.w X.K X.mg X.base (CX1 X.prog X.w) T k C m n g)(hr:eY k X.A)(ho:∀E,PE X.nox o (tE T X.K (EX.of T X.K E) fa))(ha:∀E,PA X.nox (e :: es) (tA T X.K (EX.of T X.K E) f3))
 (hst:starEach (e :: es) X.env=(false,eval e X.env) :: starEach es X.env:=by rfl) (hpl:(backTo pos (starEach es X.env)).any (·.1)=false:=by rfl)
 (ht:eval (.Call (.Attribute o m apos) (e :: es) [] pos) X.env=(do
   let ov <-eval o X.env
   standAt apos.atName
   let (f,first) <-holding [ov] (getMethod ov m pl)
   callWith pos f first (backTo pos (starEach (e :: es) X.env)) (backToKw pos (keywordEach [] X.env))):=by rfl):
 PEx X (.Call (.Attribute o m apos) (e :: es) [] pos) (tEx T X.K (M3.aV C g fa f3)):=by
 obtain⟨Ca,f,fd,ps,hc,cl,hm,ok,hb⟩:=F.ex
 intro pins s σ H Q E I h
 have h':=v5 (CX:=CX1 X.prog X.w) (P:=X.prog) (w:=X.w) (mg:=X.mg) (base:=X.base) (k:=k) hc F.no F.len h
 refine PySem.W.methodCall_KW (pl:=pl) (GJ (ho E pins s σ H _ (I.pX _) h') fun u s1 ⟨y,H1,I1,rx,a,dx,fs,ex,ea,l,q⟩=>?_) ht
 subst ex
 obtain rfl:u=Value.ref a:=rx
 have J1:=I1.iq
 refine my J1 ea cl hm l ?_
 refine PySem.W.callWith_K (first:=[.ref a]) (h₀:=X.base) I.ok.mod.kin hm.kp (GJ (ha E pos pins s1 σ H1 _ I1 q) fun us s2 ⟨vs,H2,I2,r,q2⟩=>⟨I2.iq.kIn,?_⟩) hst hpl
 have q2:sp3 T X.K n g (V.ref a :: (vs++[])) H2 Q E:=q2
 rw[qY_]at q2
 exact Bt (us:= .ref a :: us) (vs:= .ref a :: vs) O ok hr hb I2.iq (.cons rfl r) q2
def mkX(X:Cx)(e:Addr):Cx:={X with A:=X.A.mark (some (.ref e)),calm:=false,xe:=fun _ _=>False}
theorem Inv.mk'{pins:List (Addr×Obj)}{σ:L2.St}{H:Hp}{s:Shared}{e:Addr}(I:L2.Inv X pins σ H s):L2.Inv (mkX X e) pins σ H s:=
 have ok:=I.ok
 ⟨⟨ok.mod,ok.kind,ok.glob,ok.blt,ok.above,ok.inj,ok.has,ok.cab,(fun z=>nomatch z),ok.frames,ok.stk,ok.exf,ok.bs,ok.bsz,ok.wL,ok.xU,ok.nI,ok.frf⟩,I.os,I.bare,I.base,I.loc,I.cell,I.free,I.gV,I.pin,I.hok,I.len⟩
theorem Inv.xR{pins:List (Addr×Obj)}{σ:L2.St}{H:Hp}{s:Shared}{e:Addr}(ok:X.Ok)(I:L2.Inv (mkX X e) pins σ H s):L2.Inv X pins σ H s:=
 ⟨ok,I.os,I.bare,I.base,I.loc,I.cell,I.free,I.gV,I.pin,I.hok,I.len⟩
theorem SP.xR{pins:List (Addr×Obj)}{D:Ends}{f:Flow}{s':Shared}{e:Addr}(ok:X.Ok)(h:SP (mkX X e) pins D f s'):SP X pins D f s':=by
 cases f with
 |next=>obtain⟨σ',H',I,q⟩:=h;exact⟨σ',H',Inv.xR ok I,q⟩
 |brk=>obtain⟨σ',H',I,q⟩:=h;exact⟨σ',H',Inv.xR ok I,q⟩
 |cont=>obtain⟨σ',H',I,q⟩:=h;exact⟨σ',H',Inv.xR ok I,q⟩
 |ret u=>obtain⟨v,σ',H',I,r,q⟩:=h;exact⟨v,σ',H',Inv.xR ok I,r,q⟩
end
inductive Hs (X:Cx) (T:Tab) (Y:EX):List ExceptHandler->List ((Nat->Bool)×M3.S3)->Prop
 |nil:Hs X T Y [] []
 |cons {x:Str} {px pos:Pos} {cv:Value} {m:Nat->Bool} {b:Stmt} {body:List Stmt} {f:M3.S3} {hs:List ExceptHandler} {ms:List ((Nat->Bool)×M3.S3)} (hx:X.mg x=some cv) (hg:Gl X x) (hdb:(x==("__debug__":Str))=false)
   (hm:∀c Ca,T.cls c=some Ca->PySem.W.exmOne X.K (.ref Ca) cv=some (m c)) (hb:∀e,PSs (mkX X e) (b :: body) (tS T X.K Y f)) (r:Hs X T Y hs ms):Hs X T Y (.ExceptHandler (some (.Name x px)) none (b :: body) pos :: hs) ((m,f) :: ms)
section
variable{X:Cx}{T:Tab}{Y:EX}{pins:List (Addr×Obj)}{σ:L2.St}{H:Hp}
theorem handle(O:Own X){D:Ends}{c:Nat}{Ca:Addr}{e:Addr}(hc:T.cls c=some Ca):∀{hs:List ExceptHandler} {ms:List ((Nat->Bool)×M3.S3)},Hs X T Y hs ms->∀{f:M3.S3},M3.pick c ms=some f->
 ∀{s:Shared} {g:Addr} {z:Value},L2.Inv X pins σ H s->Fly X.s₀.heap H s.heap e (.ref Ca) (some (g,z))->ApP pins e (some (g,z))->tS T X.K Y f D σ H->wpAny (model X.prog X.w) X.A (handleBy (.ref e) X.env hs) (SP X pins D) X.xe s:=by
 intro hs ms hh
 induction hh with
 |nil=>intro f hf;cases hf
 |@cons x px pos cv m b body f0 hs ms hx hg hdb hm hb r ih=>
  intro f hf s g z I fl ap ht
  refine wpAny_handleBy_cons (codeAny_handlers_test ?_) (by intro q;cases q)
  refine kQ (X:=mkX X e) (Inv.mk' I) hg hx ?_ hdb
  have lt:PySem.W.Looks (model X.prog X.w) s.heap (typeOf (.ref e)) (.ref Ca):=by
   obtain⟨oe,vs,ge,ce,de,_⟩:=fl.1
   rw[<-ce]
   exact(PySem.W.Looks.ld ge).andThen .now
  refine PySem.W.exm_one I.kIn lt (hm c Ca hc) _ _ _ s (fun _ _ q=>q) ?_
  cases q:m c with
  |false=>
   have hf':M3.pick c ms=some f:=by
    unfold M3.pick at hf
    rw[q,if_neg qC_]at hf
    exact hf
   exact ih hf' I fl ap ht
  |true=>
   have hf':f0=f:=by
    unfold M3.pick at hf
    rw[q,if_pos rfl]at hf
    cases hf;rfl
   subst hf'
   refine codeAny_handlers_suite (oC O I fl ap fun h' I' fl' ap'=>?_)
   exact wpAny_mono (hb e pins {s with heap:=h'} σ H D (Inv.mk' I') ht) (fun fl s' q=>SP.xR I.ok q) fun _ _ z=>z.elim
theorem DO(O:Own X){D:Ends}{hs:List ExceptHandler}{ms:List ((Nat->Bool)×M3.S3)}(hh:Hs X T Y hs ms)
 {x:Value} {s:Shared} (xp:XP X pins σ (fun cv dx H'=>∃c Ca,cv= .ref Ca/\T.cls c=some Ca/\∃f,M3.pick c ms=some f/\tS T X.K Y f D σ H') x s):
 wpAny (model X.prog X.w) X.A (noteFrame x X.env) (fun _ s₂=>wpAny (model X.prog X.w) X.A (setFlight x none) (fun _ s₃=>wpAny (model X.prog X.w) X.A (handleBy x X.env hs) (SP X pins D) X.xe s₃) X.xe s₂) X.xe s:=by
 obtain⟨e,H',cv,dx,t,rfl,I,fl,ap,c,Ca,rfl,hc,f,hf,ht⟩:=xp
 refine ym O I.ok.frames I fl ap fun h1 g I1 fl1 ap1=>?_
 refine oC O I1 fl1 ap1 fun h2 I2 fl2 ap2=>?_
 exact handle O hc hh hf I2 fl2 ap2 ht
def Gz(T:Tab)(K:PySem.W.Frag)(Y:EX)(ms:List ((Nat->Bool)×M3.S3))(D:Ends)(σ:L2.St):XK:=fun cv dx H'=>∃c Ca,cv= .ref Ca/\T.cls c=some Ca/\∃f,M3.pick c ms=some f/\tS T K Y f D σ H'
theorem yU{K:PySem.W.Frag}{ms:List ((Nat->Bool)×M3.S3)}{D:Ends}{fe:M3.E3}{k:M3.D->M3.St->M3.Fl×M3.St}{μ:List Addr}{σ3:M3.St}{G:M3.Hh}{R:VK}(sd:StD K H μ σ3 σ)(h:M3.run (M3.vX fe k ms σ3) G (fH T K μ H D) (Y.x μ H))
 (ok:∀d G' v H1 μ1,Up μ μ1 H H1->Sim T K μ1 H1 G'->Den K H1 μ1 d v->fH T K μ H D (k d σ3) G'->R v H1):M3.run (fe σ3) G (fx T K μ H R) ((EX.of T K (Gz T K Y ms D σ)).x μ H):=
 M3.az (M3.Ct h) (fun d G' q v H1 μ1 u S1 dv=>ok d G' v H1 μ1 u S1 dv q) fun c G' ⟨f,hf,hr⟩ Ca dx H' μ' hc u S'=>⟨c,Ca,rfl,hc,f,hf,μ',σ3,G',S',sd.up u,M3.az hr (fun _ _ q=>q.up u) fun _ _ q=>Y.up u q⟩
variable{e:Expr}{fe:M3.E3}{h0:ExceptHandler}{hs:List ExceptHandler}{ms:List ((Nat->Bool)×M3.S3)}{p1 pos:Pos}
theorem AS(O:Own X)(he:PEx X e (tEx T X.K fe))(hh:Hs X T Y (h0 :: hs) ms):PS X (.Try [.Return (some e) p1] (h0 :: hs) [] [] pos) (tS T X.K Y (M3.vX fe (fun d σ=>(.ret d,σ)) ms)):=by
 intro pins s σ H D I ⟨μ,σ3,G,S,sd,h⟩
 refine wpAny_Try_except (wpAny_execs_cons (wpAny_Return_some (wpAny_mono (he pins s σ H (fun v H1=>D.rt v H1) (Gz T X.K Y ms D σ) I ⟨μ,σ3,G,S,sd,yU sd h fun d G' v H1 μ1 u S1 dv q=>q σ H1 μ1 u S1 (sd.up u) v dv⟩) (fun v s1 ⟨x,H1,I1,r1,q1⟩=>?_) fun x s1 xp=>DO O hh xp)))
 exact⟨x,σ,H1,I1,r1,q1⟩
end
section
variable{P:Program}{w:World}{K:PySem.W.Frag}{mg:Str->Option Value}{base:Heap}{CX:CXT}{T:Tab}{x m qual:Str}{st:Stmt}{fa Ca:Addr}{fd:FuncData}{N ps:List Str}{k n C:Nat}{pad:M3.St}{body:M3.S3}
theorem qf(ok:bh P w K mg base CX k fa fd ps (sp3 T K n (M3.fnM n pad body)))(F:Fun K x qual st fa fd)(hm:mg x=some (.ref fa))(hb:Binds K fd ps []):Fn3 P w K mg base CX T k x n (M3.fnM n pad body):=
 ⟨⟨fa,fd,ps,ok,hm,F.kp,hb⟩,fun _ _ _ _ q=>oZ q⟩
theorem bU(ok:bh P w K mg base CX k fa fd ps (sp3 T K n (M3.fnM n pad body)))(hc:T.cls C=some Ca)(cl:Cls K Ca)(me:Meth K Ca m fa)(hb:Binds K fd ps [])(no:∀g,T.nm g≠m):Mt3 P w K mg base CX T k C m n (M3.fnM n pad body):=
 ⟨⟨Ca,fa,fd,ps,hc,cl,me,ok,hb⟩,no,fun _ _ _ _ q=>oZ q⟩
theorem uw(ok:bh P w K mg base CX k fa fd ps (sp3 T K n (M3.fnM n pad body)))(hc:T.cls C=some Ca)(mk:Mk K Ca fa)(hm:mg x=some (.ref Ca))(hb:Binds K fd ps []):Ct3 P w K mg base CX T k x C n (M3.fnM n pad body):=
 ⟨⟨Ca,fa,fd,ps,hc,mk,hm,ok,hb⟩,fun _ _ _ _ q=>oZ q⟩
end
end L3
namespace HT
open PySem PyProof.Rows
end HT
namespace L2
open PySem PySem.Spec PyProof.Rows
section
variable{X:Cx}{pins:List (Addr×Obj)}{σ:List (Option V)}{H:Hp}{s:Shared}{h':Heap}
theorem Inv.Be{t':Nat}{fp:List Addr}(I:Inv X pins σ H s)(k:∀b o,b∉fp->s.heap.get? b=some o->h'.get? b=some o)(hf:∀b∈fp,oj X pins H b):Inv X pins σ H {s with heap:=h',toks:=t'}:=by
 have nit:∀b u,H b=some u->b∉fp:=fun b u e z=>by rw[(hf b z).1]at e;cases e
 refine I.step (g':=s.gens) (d':=s.drawn) (ch:=fp) (fun b hb=>⟨(hf b hb).2.2.2.1,(hf b hb).2.1,(hf b hb).2.2.2.2.1,(hf b hb).2.2.2.2.2⟩) (fun b o _ _ hc e _=>k b o hc e) (fun b o _ _ hc e _=>⟨o.slots,k b o hc e⟩) (fun _ _ _ _ n=>n)
  (fun b o hc e=>⟨o,k b o hc e⟩) (fun _ _ e=>e) (fun _ _ _ e=>e) (fun b ps e=>⟨#[],by rw[e];simp⟩) (fun m hm=>?_) (fun b u e=>?_) I.bare
 · obtain⟨o,es,ep,ho,r⟩:=hm
   exact⟨o,es,ep,k _ o (fun z=>(hf _ z).2.1 rfl) ho,r⟩
 · refine(I.hok b u e).jC (fun c v hc q=>k c v ?_ q) (fun _ q=>q) fun _ _ q=>q
   rcases hc with z |z
   · rw[z];exact nit b u e
   · exact nit c _ z
end
def Ite(K:PySem.W.Frag)(a:Addr):It:=
 ⟨fun i H=>∃xs x,SqL K H a xs/\xs[i]? =some x,fun i H x H'=>∃y p,H p=none/\x= .ref p/\H'=upd H p (.tup [.int (i:Int),y])/\∀xs,SqL K H a xs->xs[i]? =some y,fun i H=>∃xs,SqL K H a xs/\xs.length<=i⟩
theorem yG{P:Program}{w:World}{K:PySem.W.Frag}{elts:List Expr}{k:Nat}{pos:Pos}(a e it:Addr)(hne:e≠it):Turn P w K (.Tuple elts k pos) (Ite K a) [e,it] e (fun i h=>(∃old,IsEnum h e it ((i:Nat):Int) old)/\h.IsListIter it a i) where
 mem:=by simp
 obj:=fun i h st b hb=>by
  obtain⟨⟨old,he⟩,o,eo,c,d⟩:=st
  rcases qS_.mp hb with rfl |hb
  · exact⟨_,he,fun v z=>by
     have z':Data.fields _=Data.cell v:=z
     cases z'⟩
  · have e:b=it:=by simpa using hb
    subst e
    exact⟨o,eo,fun v z=>by rw[d]at z;cases z⟩
 keep:=fun i h h' st k=>⟨let ⟨old,he⟩:=st.1;⟨old,k e (by simp) _ he⟩,st.2.at fun o eo=>k it (by simp) o eo⟩
 item:=by
  intro X hP hw hK hc i pins s σ H E I hf st hg
  subst hP hw hK
  obtain⟨⟨old,he⟩,hit⟩:=st
  obtain⟨xs,x,hq,hx⟩:=hg
  obtain⟨its,rv,p,hz⟩:=I.list hq
  obtain⟨u,hu,ru⟩:=rv.get hx
  refine wpAny_pyNext_enum_item he hit p.isList (x:=u) (by simpa using hu) hne fun h₁ heo hit₁ ht₁ hz₁ hk₁=>?_
  have hlt:∀b∈ [e,it],b < s.heap.objs.size:=fun b hb=>by
   rcases qS_.mp hb with rfl |hb
   · exact Heap.lt_size he
   · have eb:b=it:=by simpa using hb
     subst eb
     obtain⟨o,eo,_⟩:=id hit
     exact Heap.lt_size eo
  have I1:Inv X pins σ (upd H s.heap.objs.size (.tup [.int (i:Int),x])) {s with heap:=s.heap.push {cls:= .type "tuple",data:= .seq #[.int (i:Int) s.toks,u]},toks:=s.toks+1}:=
   I.laid (fun b o eb=>Heap.get?_push_of_some _ eb) (qO_ _) ⟨by rw[sizeLine_eq];exact qP_ rfl,[.int (i:Int) s.toks,u],.cons ⟨_,rfl⟩ (.cons ru .nil),⟨_,Heap.get?_push_size _ rfl,rfl,_,rfl⟩⟩
  have hf1:∀b∈ [e,it],oj X pins (upd H s.heap.objs.size (.tup [.int (i:Int),x])) b:=fun b hb=>⟨by rw[aP (Nat.ne_of_lt (hlt b hb))];exact(hf b hb).1,(hf b hb).2⟩
  have I2:Inv X pins σ (upd H s.heap.objs.size (.tup [.int (i:Int),x])) {s with heap:=h₁,toks:=s.toks+1}:=by
   refine Inv.Be (s:={s with heap:=s.heap.push {cls:= .type "tuple",data:= .seq #[.int (i:Int) s.toks,u]},toks:=s.toks+1}) (h':=h₁) (t':=s.toks+1) (fp:=[e,it]) I1 (fun b o hb eb=>?_) hf1
   rcases Heap.get?_push_cases eb with ⟨z1,z2⟩ |z
   · rw[z1,z2];exact ht₁
   · exact hk₁ b o (fun z=>hb (by simp [z])) (fun z=>hb (by simp [z])) z
  refine⟨_,rfl,wpAny_letOwnedTupleGo_enum heo fun h₂ he₂ hs₂=>?_⟩
  obtain⟨f0,f1,f2,f3,f4,f5⟩:=hf1 e (by simp)
  have hs₂:Heap.SameBut e h₁ h₂:=hs₂
  have I3:Inv X pins σ (upd H s.heap.objs.size (.tup [.int (i:Int),x])) {s with heap:=h₂,toks:=s.toks+1}:=I2.turned (t':=s.toks+1) (fun b o hb eb=>(hs₂.2 b hb).trans eb) f0 f1 f3 f4 f5
  refine⟨.ref s.heap.objs.size,_,I3,rfl,⟨x,s.heap.objs.size,I.hok.fresh (qO_ _),rfl,rfl,fun ys hy=>by rw[I.kz hy hq];exact hx⟩,⟨⟨u,?_⟩,hit₁.at fun o eo=>(hs₂.2 it (Ne.symm hne)).trans eo⟩,fun b hb=>(hf1 b hb).1⟩
  have:((i+1:Nat):Int)=(i:Int)+1:=by push_cast;rfl
  rw[this]
  exact he₂
 done:=by
  intro X hP hw hK hc i pins s σ H E I hf st hg
  subst hP hw hK
  obtain⟨⟨old,he⟩,hit⟩:=st
  obtain⟨xs,hq,hx⟩:=hg
  obtain⟨its,rv,p,hz⟩:=I.list hq
  obtain⟨f0,f1,f2,f3,f4,f5⟩:=hf it (by simp)
  have hl:=rv.length
  exact wpAny_pyNext_enum_end (I.ok.hd hc) he hit p.isList (by simp;omega) fun h' eb=>⟨rfl,I.turned (t':=s.toks) (fun b o hb e=>eb b o hb e) f0 f1 f3 f4 f5⟩
 self:=fun _ _ _ _ _ st h=>let ⟨_,he⟩:=st.1;wpAny_pyIter_enum he h
def DY(K:PySem.W.Frag)(ta:TA):TI:=fun σ H R=>ta σ H fun vs H1=>∃a,vs=[.ref a]/\(∃xs,SqL K H1 a xs)/\R (Ite K a) H1
theorem Ci{X:Cx}{l:Expr}{elts:List Expr}{k:Nat}{ptg:Pos}{ta:TA}{p pos:Pos}(hg:Gl X "enumerate")(hm:X.mg "enumerate"=none)(ha:PA X [l] ta)(hs:starEach [l] X.env=[(false,eval l X.env)]:=by rfl):PI X (.Tuple elts k ptg) (.Call (.Name "enumerate" p) [l] [] pos) (DY X.K ta):=by
 intro pins s σ H R I h
 refine Call_ (mm I hg hm boot_enumerate (PyProof.Rows.callWith_type1 (thn (ha pos pins s σ H _ I h) fun us s1 ⟨vs,H1,I1,r1,q1⟩=>?_) hs rfl))
 obtain⟨a,e,⟨xs,hq⟩,q⟩:=q1
 subst e
 cases r1 with
 |cons r rr=>
  cases rr
  cases r
  obtain⟨its,rv,pl,hz⟩:=I1.list hq
  refine call_enumerate_list pl.isList fun h' hE hIt hsz hk=>?_
  have I2:Inv X pins σ H1 {s1 with heap:=h'}:=I1.kept (t':=s1.toks) hk
  refine wpAny_pyIter_enum hE ?_
  refine⟨s1.heap.objs.size+1,[s1.heap.objs.size+1,s1.heap.objs.size],_,_,H1,rfl,I2,yG a _ _ (Nat.succ_ne_self _),⟨⟨.none,hE⟩,hIt⟩,fun b hb=>?_,q⟩
  have hb:s1.heap.objs.size<=b:=by
   rcases qS_.mp hb with rfl |hb
   · exact Nat.le_succ _
   · have:b=s1.heap.objs.size:=by simpa using hb
     exact Nat.le_of_eq this.symm
  exact I1.A1 hb (I1.hok.fresh hb)
end L2
namespace L3
open PySem PySem.Spec PyProof.Rows L2 PySem.SeqAt
section
variable{X:Cx}{T:Tab}{Y:EX}{a b e o i:Expr}{es:List Expr}{fa fb fc:M3.E3}{ft:M3.T3}{f3:M3.A3}{pos pos' p p2 apos:Pos}
theorem Ds{elts:List Expr}{k:Nat}{ptg:Pos}(hm:X.mg "enumerate"=none)(ha:PE X a (tE T X.K Y fa))(hg:Gl X "enumerate":=by rfl)(hs:starEach [a] X.env=[(false,eval a X.env)]:=by rfl):PI X (.Tuple elts k ptg) (.Call (.Name "enumerate" p) [a] [] pos) (tI T X.K Y (M3.yW fa)):=by
 refine PI.of (Ci hg hm (eO ha je hs) hs) fun σ H R ⟨μ,σ3,G,S,sd,h⟩=>⟨μ,σ3,G,S,sd,bZ h fun d G1 v H1 μ1 u1 S1 d1 h1=>?_⟩
 have main:∀{n:Nat} {xs:List M3.D} {o:M3.O} {ck:M3.Hh->Bool} {q:Addr},μ1[n]? =some q->(∀G',ck G'=true->G'[n]? =some o)->(o= .lst xs\/o= .frz xs)->wx T X.K μ1 H1 ⟨M3.jv xs,ck⟩ (Ite X.K q):=by
  intro n xs o ck q ea hck ho
  have key:∀{μ' H' G'},Up μ1 μ' H1 H'->Sim T X.K μ' H' G'->ck G'=true->∃vs,SqL X.K H' q vs/\aF X.K H' μ' xs vs:=by
   intro μ' H' G' u S c
   have ob:=S.obj n q o (u.at ea) (hck G' c)
   rcases ho with rfl |rfl
   · obtain⟨vs,e1,r⟩:=ob;exact⟨vs,SqL.of e1,r⟩
   · obtain⟨vs,e1,r⟩:=ob;exact⟨vs,e1.sq,r⟩
  have eget:∀{i:Nat} {d:M3.D},(M3.jv xs)[i]? =some d->∃y,xs[i]? =some y/\d= .tup [.int (i:Int),y]:=by
   intro i d h
   unfold M3.jv at h
   rw[List.getElem?_mapIdx]at h
   cases z:xs[i]? with
   |none=>rw[z]at h;cases h
   |some y=>rw[z]at h;exact⟨y,rfl,(Option.some.inj h).symm⟩
  refine⟨fun i d μ' H' G' u S c e=>?_,fun i d v μ' H' H'' G' u S c e y=>?_,fun μ' H' G' u S c=>?_⟩
  · obtain⟨vs,sq,r⟩:=key u S c
    obtain⟨y,ey,_⟩:=eget e
    obtain⟨v,e1,_⟩:=r.get ey
    exact⟨vs,v,sq,e1⟩
  · obtain⟨vs,sq,r⟩:=key u S c
    obtain⟨z,ez,rfl⟩:=eget e
    obtain⟨w,e1,dw⟩:=r.get ez
    obtain⟨yv,t,ht,rfl,rfl,hy⟩:=y
    have hy:=hy vs sq
    rw[e1]at hy
    cases hy
    have sm:gK H' (upd H' t (.tup [.int (i:Int),w])):=gK.new _ ht
    exact⟨sm,t,[.int (i:Int),w],rfl,SqT.of aW,⟨_,_,rfl,rfl,_,_,rfl,Den.up (Up.same (μ:=μ') sm) dw,rfl⟩⟩
  · obtain⟨vs,sq,r⟩:=key u S c
    refine⟨vs,sq,Nat.le_of_eq ?_⟩
    rw[<-r.length]
    simp [M3.jv]
 unfold M3.run M3.ph at h1
 cases d with
 |ref n=>
  dsimp only at h1
  obtain⟨q,eq,rfl⟩:=d1
  cases z:G1[n]? with
  |none=>rw[z]at h1;exact False.elim h1
  |some ob=>
   have od:=S1.obj n q ob eq z
   rw[z]at h1
   cases ob with
   |lst xs=>obtain⟨vs,e1,r⟩:=od;exact⟨q,rfl,⟨vs,SqL.of e1⟩,h1 _ H1 μ1 u1 S1 (main eq (fun G' c=>of_decide_eq_true c) (.inl rfl))⟩
   |frz xs=>obtain⟨vs,e1,r⟩:=od;exact⟨q,rfl,⟨vs,e1.sq⟩,h1 _ H1 μ1 u1 S1 (main eq (fun G' c=>of_decide_eq_true c) (.inr rfl))⟩
   |_=>exact False.elim h1
 |_=>exact False.elim h1
theorem xt{K:PySem.W.Frag}{H:Hp}{μ:List Addr}{x:M3.D}{v:V}(d:Den K H μ x v):(V.bl (decide (v= .non)))= .bl (decide (x= .non)):=by
 cases x with
 |non=>cases (show v= .non from d);rfl
 |bl b=>cases (show v= .bl b from d);rfl
 |int b=>cases (show v= .int b from d);rfl
 |str b=>cases (show v= .str b from d);rfl
 |ref n=>obtain⟨_,_,rfl⟩:=d;rfl
 |tup ds=>obtain⟨_,_,rfl,_⟩:=d;rfl
theorem uD{j}(ha:PE X a (tE T X.K Y fa)):PT X (.Compare a [.Is] [.Constant .none j pos'] pos) (tT T X.K Y (M3.tB (M3.eUn M3.rh fa))):=by
 refine PT.of (zH (AU ha)) fun σ H Q ⟨μ,σ3,G,S,sd,h⟩=>?_
 have h:M3.run (M3.bnd (M3.bnd (fa σ3) M3.rh) M3.asB) G (ox T X.K μ H Q) (Y.x μ H):=h
 rw[M3.kX]at h
 exact⟨μ,σ3,G,S,sd,bZ h fun x G1 v H1 μ1 u1 S1 d1 h1=>⟨decide (x= .non),xt d1,h1 H1 μ1 u1 S1⟩⟩
theorem tN{j}(ha:PE X a (tE T X.K Y fa)):PT X (.Compare a [.IsNot] [.Constant .none j pos'] pos) (tT T X.K Y (M3.tB (M3.eUn M3.lM fa))):=by
 refine PT.of (zH (Cy ha)) fun σ H Q ⟨μ,σ3,G,S,sd,h⟩=>?_
 have h:M3.run (M3.bnd (M3.bnd (fa σ3) M3.lM) M3.asB) G (ox T X.K μ H Q) (Y.x μ H):=h
 rw[M3.kX]at h
 exact⟨μ,σ3,G,S,sd,bZ h fun x G1 v H1 μ1 u1 S1 d1 h1=>⟨!decide (x= .non),by have:=xt d1;injection this with this;rw[this],h1 H1 μ1 u1 S1⟩⟩
end
end L3
namespace HT
open PySem
theorem lB:entryFor table "dict_itemiterator.__iter__"=some Builtin.«dict_keyiterator.__iter__»:=
 entryFor_alias (id':="dict_keyiterator.__iter__") (by kernel_rfl) (by first |rfl |decide +kernel |(unfold String.splitOn;simp +decide [String.splitOnAux])) (by decide +kernel) (by kernel_rfl)
end HT
namespace L2
open PySem PySem.Spec PyProof.Rows
theorem Aw{k:Key}{u:Value}(h:qd k u=true):RelV (kV k) u:=by
 rcases cP h with ⟨i,t,rfl,rfl⟩ |⟨x,t,rfl,rfl⟩
 · exact⟨t,rfl⟩
 · exact⟨t,rfl⟩
theorem KV.get:∀{kvs:List (Key×V)} {vs:List (Key×Value)} {i:Nat} {k:Key} {v:V},KV kvs vs->kvs[i]? =some (k,v)->∃u,vs[i]? =some (k,u)/\RelV v u
 |_,_,_,_,_,.nil,e=>by simp at e
 |(k1,v1) :: kvs,(k2,u1) :: vs,0,k,v,.cons ⟨h1,h2⟩ t,e=>by
  simp at e
  obtain⟨rfl,rfl⟩:=e
  exact⟨u1,by rw[<-show k1=k2 from h1];rfl,h2⟩
 |(k1,v1) :: kvs,(k2,u1) :: vs,i+1,k,v,.cons _ t,e=>by
  obtain⟨u,h1,h2⟩:=KV.get (i:=i) t (by simpa using e)
  exact⟨u,by simpa using h1,h2⟩
def Itd(d:Addr)(ob:Obj)(kvs:List (Key×V)):It:=
 ⟨fun i H=>H d=some (.frz ob (.dK kvs))/\i < kvs.length,fun i H x H'=>∃k v p,kvs[i]? =some (k,v)/\H p=none/\x= .ref p/\H'=upd H p (.tup [kV k,v]),fun i H=>H d=some (.frz ob (.dK kvs))/\kvs.length<=i⟩
theorem Ao{X:Cx}{pins:List (Addr×Obj)}{σ:St}{H:Hp}{s:Shared}{d:Addr}{ob:Obj}{kvs:List (Key×V)}{es:Array DictEntry}{ep:Nat}(I:Inv X pins σ H s)(hob:ob.data= .dict es ep)(hd:H d=some (.frz ob (.dK kvs))):
 ∃vs,KV kvs vs/\s.heap.DictAt (cN X.prog X.w) d vs ep/\vs.length=kvs.length:=by
 obtain⟨hg,hz,hS,vs,rv,dd⟩:=(show cL X.prog X.w H s.heap d (.frz ob (.dK kvs))from I.hok d _ hd)
 obtain⟨ep',hat⟩:=dd.dictAt
 obtain⟨o,es',ho,hc,hdat,r⟩:=id hat
 rw[hg]at ho
 cases ho
 rw[hob]at hdat
 injection hdat with h1 h2
 subst h2
 exact⟨vs,rv,hat,rv.length.symm⟩
theorem wN{P:Program}{w:World}{K:PySem.W.Frag}{elts:List Expr}{k:Nat}{pos:Pos}(d it:Addr)(ob:Obj)(kvs:List (Key×V))(es:Array DictEntry)(ep:Nat)(hob:ob.data= .dict es ep):
 Turn P w K (.Tuple elts k pos) (Itd d ob kvs) [it] it (fun i h=>∃ok ov,IsItemIter h it d i kvs.length ep ok ov) where
 mem:=by simp
 obj:=fun i h st b hb=>by
  obtain⟨ok,ov,he⟩:=st
  have e:b=it:=by simpa using hb
  subst e
  exact⟨_,he,fun v z=>by
   have z':Data.fields _=Data.cell v:=z
   cases z'⟩
 keep:=fun i h h' st k=>let ⟨ok,ov,he⟩:=st;⟨ok,ov,k it (by simp) _ he⟩
 item:=by
  intro X hP hw hK hc i pins s σ H E I hf st hg
  subst hP hw hK
  obtain⟨ok,ov,he⟩:=st
  obtain⟨hd,hi⟩:=hg
  obtain⟨vs,rv,hat,hl⟩:=Ao I hob hd
  have hkv:kvs[i]? =some (kvs[i].1,kvs[i].2):=qA_ hi
  generalize kvs[i].1=k0 at hkv
  generalize kvs[i].2=v0 at hkv
  obtain⟨u,hu,ru⟩:=KV.get rv hkv
  obtain⟨f0,f1,f2,f3,f4,f5⟩:=hf it (by simp)
  have he':IsItemIter s.heap it d i vs.length ep ok ov:=by rw[hl];exact he
  refine wpAny_pyNext_items_item he' hat hu fun key h₁ hkey heo ht₁ hz₁ hk₁=>?_
  have hlt:it < s.heap.objs.size:=Heap.lt_size he
  have I1:Inv X pins σ (upd H s.heap.objs.size (.tup [kV k0,v0])) {s with heap:=s.heap.push {cls:= .type "tuple",data:= .seq #[key,u]},toks:=s.toks}:=
   I.laid (t':=s.toks) (fun b o eb=>Heap.get?_push_of_some _ eb) (qO_ _) ⟨by rw[sizeLine_eq];exact qP_ rfl,[key,u],.cons (Aw hkey) (.cons ru .nil),⟨_,Heap.get?_push_size _ rfl,rfl,_,rfl⟩⟩
  have g0:upd H s.heap.objs.size (.tup [kV k0,v0]) it=none:=by rw[aP (Nat.ne_of_lt hlt)];exact f0
  have I2:Inv X pins σ (upd H s.heap.objs.size (.tup [kV k0,v0])) {s with heap:=h₁,toks:=s.toks}:=by
   refine Inv.turned (s:={s with heap:=s.heap.push {cls:= .type "tuple",data:= .seq #[key,u]},toks:=s.toks}) (h':=h₁) (t':=s.toks) (it:=it) I1 (fun b o hb eb=>?_) g0 f1 f3 f4 f5
   rcases Heap.get?_push_cases eb with ⟨z1,z2⟩ |z
   · rw[z1,z2];exact ht₁
   · exact hk₁ b o hb z
  refine⟨_,rfl,wpAny_letOwnedTupleGo_items heo fun h₂ he₂ hs₂=>?_⟩
  have hs₂:Heap.SameBut it h₁ h₂:=hs₂
  have I3:Inv X pins σ (upd H s.heap.objs.size (.tup [kV k0,v0])) {s with heap:=h₂,toks:=s.toks}:=I2.turned (t':=s.toks) (fun b o hb eb=>(hs₂.2 b hb).trans eb) g0 f1 f3 f4 f5
  refine⟨.ref s.heap.objs.size,_,I3,rfl,⟨k0,v0,s.heap.objs.size,hkv,I.hok.fresh (qO_ _),rfl,rfl⟩,⟨key,u,by rw[<-hl];exact he₂⟩,fun b hb=>?_⟩
  have e:b=it:=by simpa using hb
  subst e
  exact g0
 done:=by
  intro X hP hw hK hc i pins s σ H E I hf st hg
  subst hP hw hK
  obtain⟨ok,ov,he⟩:=st
  obtain⟨hd,hi⟩:=hg
  obtain⟨vs,rv,hat,hl⟩:=Ao I hob hd
  obtain⟨f0,f1,f2,f3,f4,f5⟩:=hf it (by simp)
  have he':IsItemIter s.heap it d i vs.length ep ok ov:=by rw[hl];exact he
  exact wpAny_pyNext_items_end (I.ok.hd hc) he' hat (List.getElem?_eq_none (by omega)) fun h' eb=>⟨rfl,I.turned (t':=s.toks) (fun b o hb e=>eb b o hb e) f0 f1 f3 f4 f5⟩
 self:=fun A i s Q E st h=>by
  obtain⟨ok,ov,he⟩:=st
  have hT:s.TypeIs (.ref it) "dict_itemiterator":=⟨_,he,rfl⟩
  refine wpAny_pyIter_slot hT PySem.F.slot_dict_itemiterator_iter (wpAny_call_entry PySem.F.slot_dict_itemiterator_iter hT HT.lB ?_ (PySem.F.args_dict_itemiterator_iter_1 _))
  show wpAny _ _ (ret (.ref it)) _ _ s
  exact wpAny_pure ⟨_,rfl,"dict_itemiterator",_,hT,PySem.F.slot_dict_itemiterator_next.lookup,h⟩
section
variable{X:Cx}{pins:List (Addr×Obj)}{σ:St}{H:Hp}{s:Shared}{d:Addr}{kvs:List (Key×V)}
theorem Inv.freeze{ob:Obj}(I:Inv X pins σ H s)(hd:H d=some (.dK kvs))(hg:s.heap.get? d=some ob):Inv X pins σ (upd H d (.frz ob (.dK kvs))) s:=by
 have old:=(show cL X.prog X.w H s.heap d (.dK kvs)from I.hok d _ hd)
 have:=I.write (x:=d) (e:=d) (o:= .frz ob (.dK kvs)) (h':=s.heap) (t':=s.toks) (by rw[hd];exact True.intro) (.inl rfl) (fun b u _ e=>e) ⟨ob,hg⟩ ⟨hg,old⟩
 exact this
theorem Inv.FY(I:Inv X pins σ H s)(hd:H d=some (.dK kvs)):∀o u,X.H₀ d≠some (.frz o u):=fun o u z=>by
 have:=I.base.oh d o u z
 rw[hd]at this;cases this
theorem Inv.ra{ob:Obj}(I:Inv X pins σ H s)(hd:H d=some (.frz ob (.dK kvs)))(nf:∀o u,X.H₀ d≠some (.frz o u)):Inv X pins σ (upd H d (.dK kvs)) s:=by
 have ne:∀b,H b=none->b≠d:=fun b n z=>by rw[z,hd]at n;cases n
 obtain⟨hg,old⟩:=(show cL X.prog X.w H s.heap d (.frz ob (.dK kvs))from I.hok d _ hd)
 refine⟨I.ok,I.os,I.bare,⟨I.base.keep,I.base.slot,fun b o q n nx=>?_,I.base.there,fun b xs q=>?_,fun b o u q=>?_,fun b ps q=>?_⟩,I.loc,I.cell,by rw[aP (ne _ I.free)];exact I.free,fun x c e=>by rw[aP (ne _ (I.gV x c e))];exact I.gV x c e,fun p hp=>?_,fun b u q=>?_,I.len⟩
 · have:=I.base.free b o q n nx
   rw[aP (ne _ this)];exact this
 · have:=I.base.pA b xs q
   rw[aP (by rintro rfl;rw[hd]at this;cases this)];exact this
 · have:=I.base.oh b o u q
   by_cases z:b=d
   · subst z;exact absurd q (nf o u)
   · rw[aP z];exact this
 · obtain⟨more,this⟩:=I.base.pz b ps q
   exact⟨more,by rw[aP (by rintro rfl;rw[hd]at this;cases this)];exact this⟩
 · obtain⟨a1,a2,a3⟩:=I.pin p hp
   exact⟨a1,by rw[aP (ne _ a2)];exact a2,a3⟩
 · by_cases z:b=d
   · subst z
     rw[aW]at q
     cases q
     exact old
   · rw[aP z]at q
     refine(I.hok b u q).jC (fun c v hc w=>w) (fun c w=>?_) fun c xs w=>?_
     · rw[aP (by rintro rfl;rw[hd]at w;cases w)];exact w
     · rw[aP (by rintro rfl;rw[hd]at w;cases w)];exact w
end
def D5(X:Cx)(to:TE):TI:=fun σ H R=>to σ H fun x H1=>∃d kvs,x= .ref d/\H1 d=some (.dK kvs)/\∀ob,(∀o u,X.H₀ d≠some (.frz o u))->R (Itd d ob kvs) (upd H1 d (.frz ob (.dK kvs)))
theorem ze{X:Cx}{o:Expr}{elts:List Expr}{k:Nat}{ptg apos ipos:Pos}{to:TE}(ho:PE X o to)(hbase:attributeBase o "items" X.env (eval o X.env)=eval o X.env:=by rfl)(hline:(apos.endLine==ipos.line)=true:=by rfl):
 PI X (.Tuple elts k ptg) (.Call (.Attribute o "items" apos) [] [] ipos) (D5 X to):=by
 intro pins s σ H R I h
 refine wpAny_Call_method0_late hbase hline (thn (ho pins s σ H _ I h) fun v s1 ⟨x,H1,I1,r1,d,kvs,e,hd,q⟩=>?_)
 subst e
 cases r1
 obtain⟨h1,h2⟩:=wu I1 (x:= .ref d) rfl (T:="dict") (.inr (.inr (.inl ⟨rfl,.inl ⟨kvs,hd⟩⟩)))
 refine⟨"dict","dict.items",PySem.F.plainAttrs_dict,PySem.F.slot_dict_items,PySem.F.type_dict_items,h1,h2,Calls.callWith_builtin rfl (PySem.evalArgs_none ?_)⟩
 obtain⟨hz,hS,vs,rv,dd⟩:=Ag I1.hok hd
 refine call_meetsIn PySem.F.slot_dict_items dd.typeIs PySem.F.entry_dict_items (PySem.F.args_dict_items_1 _) (meets_dict_items (cN X.prog X.w) d hS) ⟨⟨vs,dd⟩,?_⟩
 obtain⟨ep,hat⟩:=dd.dictAt
 obtain⟨ob,es,hg,hc,hob,r⟩:=id hat
 have I2:Inv X pins σ H1 {s1 with heap:=s1.heap.push {cls:= .type "dict_items",data:= .fields #[.ref d]}}:=I1.kept (t':=s1.toks) fun b u e=>Heap.get?_push_of_some _ e
 refine wpAny_pyIter_items (knd:=cN X.prog X.w) (d:=d) (kvs:=vs) (ep:=ep) ⟨_,Heap.get?_push_size _ rfl,rfl,rfl⟩ (hat.push _) ?_
 have I3:Inv X pins σ H1 {s1 with heap:=(s1.heap.push {cls:= .type "dict_items",data:= .fields #[.ref d]}).push {cls:= .type "dict_itemiterator",data:= .fields #[.none,.bool false,.ref d,.int 0 0,.int vs.length 0,.int ep 0,.none,.none]}}:=I2.kept (t':=s1.toks) fun b u e=>Heap.get?_push_of_some _ e
 have I4:=I3.freeze (ob:=ob) hd (Heap.get?_push_of_some _ (Heap.get?_push_of_some _ hg))
 refine⟨(s1.heap.push {cls:= .type "dict_items",data:= .fields #[.ref d]}).objs.size,[(s1.heap.push {cls:= .type "dict_items",data:= .fields #[.ref d]}).objs.size],_,_,_,rfl,I4,wN d _ ob kvs es ep hob,⟨.none,.none,?_⟩,fun b hb=>?_,q ob (I1.FY hd)⟩
 · rw[rv.length];exact Heap.get?_push_size _ rfl
 · have e:b=(s1.heap.push {cls:= .type "dict_items",data:= .fields #[.ref d]}).objs.size:=by simpa using hb
   subst e
   refine I2.A1 (qO_ _) ?_
   have hn:=I2.hok.fresh (qO_ (s1.heap.push {cls:= .type "dict_items",data:= .fields #[.ref d]}).objs.size)
   rw[aP (by intro z;rw[z]at hn;rw[hd]at hn;cases hn)]
   exact hn
end L2
namespace L3
open PySem PySem.Spec PyProof.Rows L2 PySem.SeqAt
section
variable{X:Cx}{T:Tab}{Y:EX}{a b e o i:Expr}{es:List Expr}{fa fb fc:M3.E3}{ft:M3.T3}{f3:M3.A3}{pos pos' p p2 apos ipos:Pos}
theorem z8:PE X e (tE T X.K Y M3.z0):=fun pins s σ H Q I ⟨μ,σ3,G,S,sd,h⟩=>False.elim h
theorem Up.ra{μ μ1:List Addr}{H H1:Hp}{a:Addr}{n:Nat}{ob:Obj}{ws:List (L2.Key×V)}(ea:μ[n]? =some a)(ha:H a=some (.dK ws))(u:Up μ μ1 (upd H a (.frz ob (.dK ws))) H1):Up μ μ1 H (upd H1 a (.dK ws)):=by
 refine⟨u.pre,⟨fun b xs e=>?_,fun b q w e=>?_⟩,fun b w e nb=>?_⟩
 · have hb:b≠a:=by rintro rfl;rw[ha]at e;cases e
   rw[aP hb];exact u.keeps.tup b xs (by rw[aP hb];exact e)
 · have hb:b≠a:=by rintro rfl;rw[ha]at e;cases e
   rw[aP hb];exact u.keeps.frz b q w (by rw[aP hb];exact e)
 · have hb:b≠a:=by rintro rfl;exact nb (qD_ ea)
   rw[aP hb];exact u.rest b w (by rw[aP hb];exact e) nb
theorem Sim.ra{K:PySem.W.Frag}{μ:List Addr}{H:Hp}{G:M3.Hh}{n:Nat}{a:Addr}{ob:Obj}{kvs:List (M3.Key×M3.D)}{ws:List (L2.Key×V)}(S:Sim T K μ H G)(ea:μ[n]? =some a)(hn:G[n]? =some (.dF kvs))(ha:H a=some (.frz ob (.dK ws)))
 (k:Keeps H (upd H a (.dK ws))\/True) (r:Paired (fun(p:M3.Key×M3.D) (q:L2.Key×V)=>p.1=q.1/\Den K (upd H a (.dK ws)) μ p.2 q.2) kvs ws)
 (kd:∀d v,Den K H μ d v->Den K (upd H a (.dK ws)) μ d v) (kds:∀ds vs,aF K H μ ds vs->aF K (upd H a (.dK ws)) μ ds vs):Sim T K μ (upd H a (.dK ws)) (G.set n (.dK kvs)):=by
 have hl:=(qB_.mp hn).1
 refine⟨by rw[qX_];exact S.len,fun m b o q1 q2=>?_,fun m j b o1 o2 hmj q1 q2 q3 q4=>?_⟩
 · by_cases h:m=n
   · subst h
     rw[ea]at q1
     cases q1
     rw[qU_ hl]at q2
     cases q2
     exact⟨ws,aW,r⟩
   · rw[qV_ (Ne.symm h)]at q2
     have od:=S.obj m b o q1 q2
     have jC:isF o=false->∀x,H b=some x->upd H a (.dK ws) b=some x:=fun hf x z=>by
      have hb:b≠a:=by
       rintro rfl
       rcases S.inj m n b o (.dF kvs) h q1 ea q2 hn with z |z
       · rw[hf]at z;cases z
       · cases z
      rw[aP hb];exact z
     cases o with
     |lst xs=>obtain⟨vs,e1,rr⟩:=od;exact⟨vs,jC rfl _ e1,kds _ _ rr⟩
     |frz xs=>
      obtain⟨vs,e1,rr⟩:=od
      refine⟨vs,?_,kds _ _ rr⟩
      rcases e1 with ⟨o',e1⟩ |e1
      · have hb:b≠a:=by rintro rfl;rw[ha]at e1;cases e1
        exact .inl ⟨o',by rw[aP hb];exact e1⟩
      · exact .inr e1
     |dK xs=>obtain⟨vs,e1,rr⟩:=od;exact⟨vs,jC rfl _ e1,Paired.imp' (fun _ _ z=>⟨z.1,kd _ _ z.2⟩) rr⟩
     |dF xs=>obtain⟨o',vs,e1,rr⟩:=od;exact⟨o',vs,jC rfl _ e1,Paired.imp' (fun _ _ z=>⟨z.1,kd _ _ z.2⟩) rr⟩
     |dT xs=>obtain⟨vs,e1,rr⟩:=od;exact⟨vs,jC rfl _ e1,Paired.imp' (fun _ _ z=>⟨z.1,kd _ _ z.2⟩) rr⟩
     |ins C fs=>obtain⟨Ca,dx,vs,hc,e1,rr⟩:=od;exact⟨Ca,dx,vs,hc,jC rfl _ e1,Paired.imp' (fun _ _ z=>⟨z.1,kd _ _ z.2⟩) rr⟩
 · have back:∀(m:Nat) o,(G.set n (.dK kvs))[m]? =some o->∃o',G[m]? =some o'/\isF o'=isF o:=fun m o q=>by
    by_cases h:m=n
    · subst h
      rw[qU_ hl]at q
      cases q
      exact⟨_,hn,rfl⟩
    · rw[qV_ (Ne.symm h)]at q
      exact⟨o,q,rfl⟩
   obtain⟨p1,r1,f1⟩:=back m o1 q3
   obtain⟨p2,r2,f2⟩:=back j o2 q4
   rw[<-f1,<-f2]
   exact S.inj m j b p1 p2 hmj q1 q2 r1 r2
mutual
theorem Den.off{K:PySem.W.Frag}{μ:List Addr}{H:Hp}{a:Addr}{ob:Obj}{ws:List (L2.Key×V)}(ha:H a=some (.frz ob (.dK ws))):∀{d:M3.D} {v:V},Den K H μ d v->Den K (upd H a (.dK ws)) μ d v
 | .non,_,h=>h
 | .bl _,_,h=>h
 | .int _,_,h=>h
 | .str _,_,h=>h
 | .ref _,_,h=>h
 | .tup ds,_,⟨b,vs,e,h,r⟩=>by
   refine⟨b,vs,e,?_,aF.off ha r⟩
   rcases h with (h |⟨o,h⟩) |h
   · exact .inl (.inl (by rw[aP (by rintro rfl;rw[ha]at h;cases h)];exact h))
   · exact .inl (.inr ⟨o,by rw[aP (by rintro rfl;rw[ha]at h;cases h)];exact h⟩)
   · exact .inr h
theorem aF.off{K:PySem.W.Frag}{μ:List Addr}{H:Hp}{a:Addr}{ob:Obj}{ws:List (L2.Key×V)}(ha:H a=some (.frz ob (.dK ws))):∀{ds:List M3.D} {vs:List V},aF K H μ ds vs->aF K (upd H a (.dK ws)) μ ds vs
 | [],_,h=>h
 |_ :: _,_,⟨v,r,e,h,t⟩=>⟨v,r,e,Den.off ha h,aF.off ha t⟩
end
theorem xA{α β:Type}{R:α->β->Prop}:∀{xs:List α} {ys:List β} {i:Nat} {x:α},Paired R xs ys->xs[i]? =some x->∃y,ys[i]? =some y/\R x y
 |_,_,_,_,.nil,e=>by simp at e
 |_,_,0,_,.cons h t,e=>by simp at e;subst e;exact⟨_,rfl,h⟩
 |_,_,i+1,_,.cons h t,e=>by
  obtain⟨y,h1,h2⟩:=xA (i:=i) t (by simpa using e)
  exact⟨y,by simpa using h1,h2⟩
theorem zZ{Z:Nat->M3.Hh->Prop}{n:Nat}{kvs:List (M3.Key×M3.D)}{m:M3.M (M3.Fl×M3.St)}{G:M3.Hh}{P:M3.Fl×M3.St->M3.Hh->Prop}(h:M3.run (M3.uz n kvs m) G P Z):
 M3.run m (G.set n (.dF kvs)) (fun p G'=>G'[n]? =some (.dF kvs)/\P p (G'.set n (.dK kvs))) (fun _ _=>False):=by
 unfold M3.run M3.uz at*
 cases q:m (G.set n (.dF kvs))with
 |none=>rw[q]at h;exact h
 |some z=>
  obtain⟨o,G1⟩:=z
  rw[q]at h
  cases o with
  |ok a=>
   dsimp only at h ⊢
   by_cases c:G1[n]? =some (.dF kvs)
   · rw[if_pos c]at h;exact⟨c,h⟩
   · rw[if_neg c]at h;exact False.elim h
  |exc c=>exact False.elim h
def Dg(X:Cx)(D:Ends):Ends where
 nx:=fun σ H=>∃d ob kvs,H d=some (.frz ob (.dK kvs))/\(∀o u,X.H₀ d≠some (.frz o u))/\D.nx σ (upd H d (.dK kvs))
 rt:=fun v H=>∃d ob kvs,H d=some (.frz ob (.dK kvs))/\(∀o u,X.H₀ d≠some (.frz o u))/\D.rt v (upd H d (.dK kvs))
 bk:=fun σ H=>∃d ob kvs,H d=some (.frz ob (.dK kvs))/\(∀o u,X.H₀ d≠some (.frz o u))/\D.bk σ (upd H d (.dK kvs))
 ct:=fun σ H=>∃d ob kvs,H d=some (.frz ob (.dK kvs))/\(∀o u,X.H₀ d≠some (.frz o u))/\D.ct σ (upd H d (.dK kvs))
theorem SP.ra{pins:List (Addr×Obj)}{D:Ends}{f:Flow}{s':Shared}(h:SP X pins (Dg X D) f s'):SP X pins D f s':=by
 cases f with
 |next=>obtain⟨σ',H',I,d,ob,kvs,hd,nf,q⟩:=h;exact⟨σ',_,I.ra hd nf,q⟩
 |brk=>obtain⟨σ',H',I,d,ob,kvs,hd,nf,q⟩:=h;exact⟨σ',_,I.ra hd nf,q⟩
 |cont=>obtain⟨σ',H',I,d,ob,kvs,hd,nf,q⟩:=h;exact⟨σ',_,I.ra hd nf,q⟩
 |ret u=>obtain⟨v,σ',H',I,r,d,ob,kvs,hd,nf,q⟩:=h;exact⟨v,σ',_,I.ra hd nf,r,q⟩
theorem Bx{elts:List Expr}{k:Nat}{ptg:Pos}{body:List Stmt}{g:M3.D->M3.St->M3.M M3.St}{f:M3.S3}(hp:PassesOwn (model X.prog X.w) X.A X.env X.xe)(hc:X.calm=true)(ho:PE X o (tE T X.K Y fa))(hg:PG X (.Tuple elts k ptg) (tG T X.K Y g))(hb:PSs X body (tS T X.K Y f))
 (hbase:attributeBase o "items" X.env (eval o X.env)=eval o X.env:=by rfl) (hline:(apos.endLine==ipos.line)=true:=by rfl)
 (hs:∀x,foldedSetIterable (.Call (.Attribute o "items" apos) [] [] ipos) X.env x=pure x:=by intro _;rfl):PS X (.For (.Tuple elts k ptg) (.Call (.Attribute o "items" apos) [] [] ipos) body [] pos) (tS T X.K Y (M3.we fa g f)):=by
 intro pins s σ H D I ⟨μ,σ3,G,S,sd,h⟩
 refine wpAny_mono (Am hp hc (ze (elts:=elts) (k:=k) (ptg:=ptg) (apos:=apos) (ipos:=ipos) ho hbase hline) hg hb hs pins s σ H (Dg X D) I ⟨μ,σ3,G,S,sd,bZ h fun x G1 v H1 μ1 u1 S1 d1 h1=>?_⟩) (fun _ _ z=>SP.ra z) fun _ _ z=>z
 unfold M3.vY at h1
 cases x with
 |ref n=>
  obtain⟨c,ec,rfl⟩:=d1
  have h1:M3.run (fun G=>match G[n]? with
   |some (.dK kvs)=>M3.uz n kvs (M3.forL (fun _=>true) (fun x σ=>M3.bnd (g x σ) f) (M3.fW kvs) σ3) G
   |_=>none) G1 (fH T X.K μ H D) (Y.x μ1 H1):=h1
  unfold M3.run at h1
  dsimp only at h1
  cases q:G1[n]? with
  |none=>rw[q]at h1;exact False.elim h1
  |some ob1=>
   have od:=S1.obj n c ob1 ec q
   rw[q]at h1
   cases ob1 with
   |dK kvs=>
    obtain⟨ws,e1,r⟩:=od
    refine⟨c,ws,rfl,e1,fun ob nf=>?_⟩
    have hw:=zZ (P:=fH T X.K μ H D) (Z:=Y.x μ1 H1) h1
    have u2:Up μ1 μ1 H1 (upd H1 c (.frz ob (.dK ws))):=Up.set S1 _ ec q rfl
    have S2:Sim T X.K μ1 (upd H1 c (.frz ob (.dK ws))) (G1.set n (.dF kvs)):=S1.set ec q rfl rfl ⟨ob,ws,aW,Paired.imp' (fun _ _ z=>⟨z.1,Den.up u2 z.2⟩) r⟩
    have len:(M3.fW kvs).length=ws.length:=by unfold M3.fW;rw[qM_];exact Paired.length r
    refine⟨fun i m σ' H'=>m=ws.length - i/\i<=ws.length/\∃μ' σ3' G',Up μ1 μ' (upd H1 c (.frz ob (.dK ws))) H'/\Sim T X.K μ' H' G'/\StD X.K H' μ' σ3' σ'/\M3.run (M3.forL (fun _=>true) (fun x σ=>M3.bnd (g x σ) f) ((M3.fW kvs).drop i) σ3') G' (fun p G'=>G'[n]? =some (.dF kvs)/\fH T X.K μ H D p (G'.set n (.dK kvs))) (Y.x μ' H'),
     ⟨_,rfl,qf_ _,μ1,σ3,_,Up.refl _ _,S2,(sd.up u1).up u2,M3.az hw (fun _ _ z=>z) fun _ _ z=>z.elim⟩,?_⟩
    have fin:∀{σ':L2.St} {H':Hp} {μ':List Addr} {p:M3.Fl×M3.St} {G':M3.Hh},Up μ1 μ' (upd H1 c (.frz ob (.dK ws))) H'->Sim T X.K μ' H' G'->G'[n]? =some (.dF kvs)->fH T X.K μ H D p (G'.set n (.dK kvs))->
     H' c=some (.frz ob (.dK ws))/\fH T X.K μ' (upd H' c (.dK ws)) D p (G'.set n (.dK kvs))/\Sim T X.K μ' (upd H' c (.dK ws)) (G'.set n (.dK kvs))/\(StD X.K H' μ' p.2 σ'->StD X.K (upd H' c (.dK ws)) μ' p.2 σ'):=by
     intro σ' H' μ' p G' u' S' hn hP
     have hf:H' c=some (.frz ob (.dK ws)):=u'.keeps.frz c ob _ aW
     have ut:Up μ1 μ' H1 (upd H' c (.dK ws)):=Up.ra ec e1 u'
     refine⟨hf,hP.up (u1.trans ut),Sim.ra S' (u'.at ec) hn hf (.inr True.intro) (Paired.imp' (fun _ _ z=>⟨z.1,Den.up ut z.2⟩) r) (fun _ _ z=>Den.off hf z) fun _ _ z=>aF.off hf z,fun sd'=>⟨sd'.len,fun i d e=>let ⟨v,e1,dv⟩:=sd'.at_ i d e;⟨v,e1,Den.off hf dv⟩⟩⟩
    rintro i m σ' H' ⟨rfl,hi,μ',σ3',G',u',S',sd',q'⟩
    have hf:H' c=some (.frz ob (.dK ws)):=u'.keeps.frz c ob _ aW
    by_cases hlt:i < ws.length
    · rw[List.drop_eq_getElem_cons (by rw[len];exact hlt)]at q'
      obtain⟨_,q2⟩:=rU q'
      have ex:(M3.fW kvs)[i]? =some ((M3.fW kvs)[i]'(by rw[len];exact hlt)):=qA_ _
      generalize (M3.fW kvs)[i]'(by rw[len];exact hlt)=it at ex q2
      refine .inr ⟨⟨hf,hlt⟩,fun σ2 H2=>∃μ2 σ4 G2,Up μ1 μ2 (upd H1 c (.frz ob (.dK ws))) H2/\Sim T X.K μ2 H2 G2/\StD X.K H2 μ2 σ4 σ2/\M3.run (M3.forL (fun _=>true) (fun x σ=>M3.bnd (g x σ) f) ((M3.fW kvs).drop (i+1)) σ4) G2 (fun p G'=>G'[n]? =some (.dF kvs)/\fH T X.K μ H D p (G'.set n (.dK kvs))) (Y.x μ2 H2),
       fun σ2 H2 hN=>⟨_,by omega,rfl,hlt,hN⟩,fun x H'' y=>?_⟩
      obtain⟨k0,v0,t,hkv,ht,rfl,rfl⟩:=y
      have sm:gK H' (upd H' t (.tup [kV k0,v0])):=gK.new _ ht
      have us:Up μ' μ' H' (upd H' t (.tup [kV k0,v0])):=Up.same sm
      have dit:Den X.K (upd H' t (.tup [kV k0,v0])) μ' it (.ref t):=by
       unfold M3.fW at ex
       rw[qQ_]at ex
       cases z:kvs[i]? with
       |none=>rw[z]at ex;cases ex
       |some kd=>
        rw[z]at ex
        cases ex
        obtain⟨q0,z2,h2,h3⟩:=xA r z
        rw[hkv]at z2
        cases z2
        obtain⟨kk,dd⟩:=kd
        have h2:kk=k0:=h2
        subst h2
        refine⟨t,[kV kk,v0],rfl,SqT.of aW,⟨_,_,rfl,?_,_,_,rfl,Den.up us (Den.up u' (Den.up u2 h3)),rfl⟩⟩
        cases kk <;> rfl
      refine⟨μ',σ3',G',_,S'.same sm,sd'.up us,dit,eP (Y.upE us (M3.bc (M3.bc q2))) fun σ5 G5 q5 σ6 H6 μ6 u6 S6 sd6=>?_⟩
      have u6:=us.trans u6
      refine⟨μ6,σ5,G5,S6,sd6,eP (Y.upE u6 q5) fun p G7 q7 σ7 H7 μ7 u7 S7 sd7=>?_⟩
      obtain⟨fl,σ8⟩:=p
      have up:=u'.trans (u6.trans u7)
      cases fl with
      |next=>exact⟨μ7,σ8,G7,up,S7,sd7,Y.upE (u6.trans u7) q7⟩
      |cont=>exact⟨μ7,σ8,G7,up,S7,sd7,Y.upE (u6.trans u7) q7⟩
      |brk=>
       obtain⟨hn,hP⟩:=q7
       obtain⟨z1,z2,z3,z4⟩:=fin (σ':=σ7) up S7 hn hP
       exact⟨c,ob,ws,z1,nf,z2 σ7 _ μ7 (Up.refl _ _) z3 (z4 sd7)⟩
      |ret d=>
       obtain⟨hn,hP⟩:=q7
       obtain⟨z1,z2,z3,z4⟩:=fin (σ':=σ7) up S7 hn hP
       exact fun v dv=>⟨c,ob,ws,z1,nf,z2 σ7 _ μ7 (Up.refl _ _) z3 (z4 sd7) v (Den.off z1 dv)⟩
    · have e:i=ws.length:=by omega
      subst e
      rw[<-len,List.drop_length]at q'
      obtain⟨_,hn,hP⟩:=vf q'
      obtain⟨z1,z2,z3,z4⟩:=fin (σ':=σ') u' S' hn hP
      exact .inl ⟨⟨hf,qO_ _⟩,c,ob,ws,z1,nf,z2 σ' _ μ' (Up.refl _ _) z3 (z4 sd')⟩
   |_=>exact False.elim h1
 |_=>exact False.elim h1
theorem g7(K:PySem.W.Frag)(k:M3.Kd):∀cs:List M3.Kd,PySem.W.kitAny K (.type (kn k)) (cs.map fun c=>Value.type (kn c))=some (cs.any (M3.jV k ·))
 | []=>rfl
 |c :: r=>by
  show (match PySem.W.kitOne K (.type (kn k)) (.type (kn c))with
   |some true=>some true
   |some false=>PySem.W.kitAny K (.type (kn k)) (r.map fun c=>Value.type (kn c))
   |none=>none)=_
  rw[jK,List.any_cons]
  cases M3.jV k c with
  |true=>rfl
  |false=>rw[Bool.false_or];exact g7 K k r
theorem xC:∀{cs:List M3.Kd} {us:List Value},Vals (cs.map fun c=>V.ty (kn c)) us->us=cs.map fun c=>Value.type (kn c)
 | [],_,h=>by cases h;rfl
 |c :: r,_,h=>by
  cases h with
  |cons h t=>
   rw[List.map_cons,<-xC t]
   congr 1
theorem zE:gh X (.builtin "isinstance") (fun xs H Q=>∃x k,∃cs:List M3.Kd,∃t,xs=[x,.ref t]/\H t=some (.tup (cs.map fun c=>V.ty (kn c)))/\TyD X.K H x k/\Q (.bl (cs.any (M3.jV k ·))) H):=by
 intro pins s σ H xs us Q I r h
 obtain⟨x,k,cs,t,rfl,htu,ty,q⟩:=h
 obtain⟨u,w',rfl,ru,rc⟩:=vals2 r
 cases (show w'=Value.ref t from rc)
 obtain⟨_,its,rv,⟨⟨oc,od,odt,osl⟩,ho,hcl,nn,hdt⟩⟩:=(show cL X.prog X.w H s.heap t (.tup _)from I.hok t _ htu)
 have hcl:oc= .type "tuple":=hcl
 have hdt:odt= .seq its.toArray nn:=hdt
 subst hcl hdt
 rw[xC rv]at ho
 have fin:∀tk,EP X pins σ Q (.bool (cs.any (M3.jV k ·))) {s with toks:=tk}:=fun tk=>⟨.bl _,H,I.tok tk,rfl,q⟩
 cases x with
 |non=>cases (show u=Value.none from ru);cases (show k= .non from ty);exact PySem.W.kia_tup PySem.W.kitx_none I.kIn True.intro ho (g7 X.K .non cs) (fun z=>nomatch z) fin
 |bl y=>cases (show u=Value.bool y from ru);cases (show k= .bl from ty);exact PySem.W.kia_tup PySem.W.kitx_bool I.kIn True.intro ho (g7 X.K .bl cs) (fun z=>nomatch z) fin
 |int y=>obtain⟨t,rfl⟩:=(show ∃t,u=Value.int y t from ru);cases (show k= .int from ty);exact PySem.W.kia_tup PySem.W.kitx_int I.kIn True.intro ho (g7 X.K .int cs) (fun z=>nomatch z) fin
 |str y=>obtain⟨t,rfl⟩:=(show ∃t,u=Value.str y t from ru);cases (show k= .str from ty);exact PySem.W.kia_tup PySem.W.kitx_str I.kIn True.intro ho (g7 X.K .str cs) (fun z=>nomatch z) fin
 |ref a=>
  cases (show u=Value.ref a from ru)
  rcases ty with ⟨rfl,xs,sq⟩ |⟨rfl,xs,sq⟩ |⟨rfl,⟨kvs,ea⟩ |⟨kvs,ea⟩⟩
  · obtain⟨its,_,⟨ob,n,h1,h2,_⟩,_⟩:=I.list sq
    exact PySem.W.kia_tup PySem.W.kitx_list I.kIn ⟨ob,h1,h2⟩ ho (g7 X.K .lst cs) (fun z=>nomatch z) fin
  · obtain⟨its,_,⟨ob,h1,h2,_⟩,_⟩:=I.tuple sq
    exact PySem.W.kia_tup PySem.W.kitx_tuple I.kIn ⟨ob,h1,h2⟩ ho (g7 X.K .tup cs) (fun z=>nomatch z) fin
  · obtain⟨_,_,vs,_,pd⟩:=(show cL X.prog X.w H s.heap a (.dK kvs)from I.hok a _ ea)
    obtain⟨ob,es,ep,h1,h2,_⟩:=pd
    exact PySem.W.kia_tup PySem.W.kitx_dict I.kIn ⟨ob,h1,h2.1⟩ ho (g7 X.K .dic cs) (fun z=>nomatch z) fin
  · obtain⟨_,_,xs,_,ob,es,ep,h1,h2,_⟩:=(show cL X.prog X.w H s.heap a (.dT kvs)from I.hok a _ ea)
    exact PySem.W.kia_tup PySem.W.kitx_dict I.kIn ⟨ob,h1,h2.1⟩ ho (g7 X.K .dic cs) (fun z=>nomatch z) fin
 |_=>exact False.elim ty
theorem EH(c1 c2:M3.Kd){n1 n2:Str}{q1 q2 pt:Pos}{x1:Nat}(hi:X.mg "isinstance"=none)(hm1:X.mg n1=none)(hm2:X.mg n2=none)(ha:PE X e (tE T X.K Y fa))
 (hn1:bootBuiltins n1=some (.type (kn c1)):=by first |exact boot_int |exact boot_bool |exact boot_str |exact boot_tuple |exact boot_list |exact boot_dict) (hn2:bootBuiltins n2=some (.type (kn c2)):=by first |exact boot_int |exact boot_bool |exact boot_str |exact boot_tuple |exact boot_list |exact boot_dict)
 (hg:Gl X "isinstance":=by rfl) (hg1:Gl X n1:=by rfl) (hg2:Gl X n2:=by rfl) (hN1:n1≠"__name__":=by decide) (hN2:n2≠"__name__":=by decide) (hdb1:(n1==("__debug__":Str))=false:=by decide) (hdb2:(n2==("__debug__":Str))=false:=by decide)
 (he:starEach [e,.Tuple [.Name n1 q1,.Name n2 q2] x1 pt] X.env=(false,eval e X.env) :: starEach [.Tuple [.Name n1 q1,.Name n2 q2] x1 pt] X.env:=by rfl) (he2:starEach [.Tuple [.Name n1 q1,.Name n2 q2] x1 pt] X.env=(false,eval (.Tuple [.Name n1 q1,.Name n2 q2] x1 pt) X.env) :: starEach [] X.env:=by rfl)
 (hs1:starEach [.Name n1 q1,.Name n2 q2] X.env=(false,eval (.Name n1 q1) X.env) :: starEach [.Name n2 q2] X.env:=by rfl) (hs2:starEach [.Name n2 q2] X.env=(false,eval (.Name n2 q2) X.env) :: starEach [] X.env:=by rfl)
 (hpl:(backTo pos (starEach [.Tuple [.Name n1 q1,.Name n2 q2] x1 pt] X.env)).any (·.1)=false:=by rfl):PE X (.Call (.Name "isinstance" p) [e,.Tuple [.Name n1 q1,.Name n2 q2] x1 pt] [] pos) (tE T X.K Y (M3.aL (M3.xP [c1,c2]) (M3.ah fa M3.au))):=by
 refine PE.of (qG zE hg hi boot_isinstance (eO ha (eO (AY (eO (sI hg1 hm1 hn1 (v:= .ty (kn c1)) rfl hN1 hdb1) (eO (sI hg2 hm2 hn2 (v:= .ty (kn c2)) rfl hN2 hdb2) je hs2) hs1)) je he2) he) (by decide) (by decide) he hpl) fun σ H Q ⟨μ,σ3,G,S,sd,h⟩=>?_
 refine⟨μ,σ3,G,S,sd,bZ (M3.bc h) fun d G1 v H1 μ1 u1 S1 d1 h1=>?_⟩
 have h2:M3.run (M3.xP [c1,c2] [d]) G1 (fx T X.K μ H Q) (Y.x μ H):=h1
 unfold M3.run M3.xP at h2
 dsimp only at h2
 cases q:M3.kdOf G1 d with
 |none=>rw[q]at h2;exact False.elim h2
 |some k=>
  rw[q]at h2
  refine⟨by rw[sizeLine_eq];exact qP_ rfl,fun t ht=>?_⟩
  have us:Up μ1 μ1 H1 (upd H1 t (.tup [.ty (kn c1),.ty (kn c2)])):=Up.same (gK.new _ ht)
  exact⟨v,k,[c1,c2],t,rfl,aW,C6 (S1.same (gK.new _ ht)) (Den.up us d1) q,h2 _ _ μ1 (u1.trans us) (S1.same (gK.new _ ht)) rfl⟩
end
open PySem PySem.Spec PyProof.Rows L2
theorem Cp{X:Cx}{T:Tab}{Y:EX}{sts:List Stmt}:PSs X sts (tS T X.K Y M3.CU):=fun pins s σ H D I ⟨μ,σ3,G,S,sd,h⟩=>False.elim h
theorem xO{CX:CXT}{P:Program}{w:World}{K:PySem.W.Frag}{mg:Str->Option Value}{base:Heap}{N:List Str}{qual:Str}{scope:Scope}{fa:Addr}{cd:Value}{A:Around}{outer:List Env}{s:Shared}{H:Hp}{E:XK}:
 Own (li CX P w K mg base N qual scope fa cd A outer s H E).nox:=⟨rfl,rfl,rfl,rfl⟩
def clF(cs xs:List Addr)(c:Nat):Option Addr:=if c < 1000 then cs[c]? else xs[c - 1000]?
theorem D6{cs xs:List Addr}{c:Nat}{Ca:Addr}(e:clF cs xs c=some Ca)(hc:c < 1000):Ca∈cs:=by
 unfold clF at e
 rw[if_pos hc]at e
 exact qD_ e
def clP(cs xs:List Addr):List (Addr×Nat):=cs.mapIdx (fun i a=>(a,i))++xs.mapIdx fun i a=>(a,1000+i)
theorem DS{cs xs:List Addr}{c:Nat}{Ca:Addr}(e:clF cs xs c=some Ca):(Ca,c)∈clP cs xs:=by
 unfold clF at e
 unfold clP
 by_cases hc:c < 1000
 · rw[if_pos hc]at e
   refine qF_ _ (qD_ (i:=c) ?_)
   rw[List.getElem?_mapIdx,e];rfl
 · rw[if_neg hc]at e
   refine qE_ _ (qD_ (i:=c - 1000) ?_)
   rw[List.getElem?_mapIdx,e]
   show some (Ca,1000+(c - 1000))=some (Ca,c)
   rw[show 1000+(c - 1000)=c by omega]
theorem nj{K:PySem.W.Frag}{cs xs:List Addr}{C:Addr}{k:Nat}(h:((clP cs xs).all fun p=>PySem.W.exmOne K (.ref p.1) (.ref C)==some (decide (p.2=k)))=true){c:Nat}{Ca:Addr}(e:clF cs xs c=some Ca):PySem.W.exmOne K (.ref Ca) (.ref C)=some (decide (c=k)):=
 eq_of_beq (List.all_eq_true.mp h _ (DS e))
theorem getD_inj{L:List Str}(nd:L.Nodup)(ne:Str.empty∉L){f g:Nat}(hf:f < L.length)(h:L.getD g Str.empty=L.getD f Str.empty):g=f:=by
 have e1:L.getD f Str.empty=L[f]:=by rw[List.getD_eq_getElem?_getD,qA_ hf];rfl
 by_cases hg:g < L.length
 · have e2:L.getD g Str.empty=L[g]:=by rw[List.getD_eq_getElem?_getD,qA_ hg];rfl
   rw[e1,e2]at h
   exact(List.getElem_inj nd).mp h
 · have e2:L.getD g Str.empty=Str.empty:=by rw[List.getD_eq_getElem?_getD,List.getElem?_eq_none (by omega)];rfl
   rw[e1,e2]at h
   exact absurd (h ▸ List.getElem_mem hf) ne
theorem dm{L:List Str}{K:PySem.W.Frag}{cl:Nat->Option Addr}{Cs:List Addr}{f:Nat}(hcl:∀c Ca,cl c=some Ca->c < 1000->Ca∈Cs)(hC:∀Ca,Ca∈Cs->Cls K Ca/\∀x∈L,jJ K Ca x)(nd:L.Nodup)(ne:Str.empty∉L)(hf:f < L.length):
 eL ⟨cl,fun g=>L.getD g Str.empty⟩ K f:=by
 refine⟨fun C Ca hlt e=>?_,fun g h=>getD_inj nd ne hf h⟩
 obtain⟨h1,h2⟩:=hC Ca (hcl C Ca e hlt)
 refine⟨h1,h2 _ ?_⟩
 show L.getD f Str.empty∈L
 rw[List.getD_eq_getElem?_getD,qA_ hf]
 exact List.getElem_mem hf
theorem GA{L:List Str}{m:Str}(h:m∉L)(h0:m≠Str.empty)(g:Nat):L.getD g Str.empty≠m:=by
 intro e
 by_cases hg:g < L.length
 · rw[List.getD_eq_getElem?_getD,qA_ hg]at e
   exact h (e ▸ List.getElem_mem hg)
 · rw[List.getD_eq_getElem?_getD,List.getElem?_eq_none (by omega)]at e
   exact h0 e.symm
def zJ(nm:Nat->Str)(K:PySem.W.Frag)(n:Nat)(f:List M3.D->M3.M M3.D):Sp:=fun vs H Q E=>∀cl,sp3 ⟨cl,nm⟩ K n f vs H Q E
theorem E2{P:Program}{w:World}{K:PySem.W.Frag}{mg:Str->Option Value}{base:Heap}{CX:CXT}{k n:Nat}{fa:Addr}{fd:FuncData}{ps:List Str}{nm:Nat->Str}{f:List M3.D->M3.M M3.D}{cl:Nat->Option Addr}(F:bh P w K mg base CX k fa fd ps (sp3 ⟨cl,nm⟩ K n f)):
 bh P w K mg base CX k fa fd ps (zJ nm K n f):=F.imp fun vs H Q E q=>q cl
theorem B2{nm:Nat->Str}{K:PySem.W.Frag}{f:List M3.D->M3.M M3.D}{n:Nat}(h:∀ns:List Int,ns.length<=n->M3.run (f [.ref 0]) [.frz (ns.map M3.D.int)] (fun d _=>d= .bl true) fun _ _=>False)
 {H:Hp} {a:Addr} {ns:List Int} (hl:ns.length<=n) (hO:Aq H) (sq:SqL K H a (ns.map V.int)):zJ nm K 1 f [.ref a] H (fun v _=>v= .bl true) fun _ _ _=>False:=fun cl=>Ea h hl hO sq
open PySem
theorem mH{xs:List Expr}{k:Nat}{p:Pos}{es:List Expr}{env:Env}:starEach (.Tuple xs k p :: es) env=(false,eval (.Tuple xs k p) env) :: starEach es env:=rfl
theorem ki{xs:List Expr}{p:Pos}{es:List Expr}{env:Env}:starEach (.List xs p :: es) env=(false,eval (.List xs p) env) :: starEach es env:=rfl
theorem aI{c:Const}{k:Nat}{p:Pos}{es:List Expr}{env:Env}:starEach (.Constant c k p :: es) env=(false,eval (.Constant c k p) env) :: starEach es env:=rfl
theorem ao{x:Str}{p:Pos}{es:List Expr}{env:Env}:starEach (.Name x p :: es) env=(false,eval (.Name x p) env) :: starEach es env:=rfl
theorem cQ{f:Expr}{as:List Expr}{ks:List Keyword}{p:Pos}{es:List Expr}{env:Env}:starEach (.Call f as ks p :: es) env=(false,eval (.Call f as ks p) env) :: starEach es env:=rfl
theorem gL{a b:Expr}{o:Operator}{p:Pos}{es:List Expr}{env:Env}:starEach (.BinOp a o b p :: es) env=(false,eval (.BinOp a o b p) env) :: starEach es env:=rfl
theorem bb{a b:Expr}{p:Pos}{es:List Expr}{env:Env}:starEach (.Subscript a b p :: es) env=(false,eval (.Subscript a b p) env) :: starEach es env:=rfl
theorem bp{a:Expr}{x:Str}{p:Pos}{es:List Expr}{env:Env}:starEach (.Attribute a x p :: es) env=(false,eval (.Attribute a x p) env) :: starEach es env:=rfl
theorem AW{a:Expr}{os:List CmpOp}{bs:List Expr}{p:Pos}{es:List Expr}{env:Env}:starEach (.Compare a os bs p :: es) env=(false,eval (.Compare a os bs p) env) :: starEach es env:=rfl
theorem pR{xs:List Expr}{p:Pos}{t:Option Expr}{l:Nat}{env:Env}:swapsWith (.List xs p) t l env=pure false:=rfl
theorem zD{c:Const}{k:Nat}{p:Pos}{t:Option Expr}{l:Nat}{env:Env}:swapsWith (.Constant c k p) t l env=pure false:=rfl
theorem xi{x:Str}{p:Pos}{t:Option Expr}{l:Nat}{env:Env}:swapsWith (.Name x p) t l env=pure false:=rfl
theorem aN{f:Expr}{as:List Expr}{ks:List Keyword}{p:Pos}{t:Option Expr}{l:Nat}{env:Env}:swapsWith (.Call f as ks p) t l env=pure false:=rfl
theorem nN{a b:Expr}{o:Operator}{p:Pos}{t:Option Expr}{l:Nat}{env:Env}:swapsWith (.BinOp a o b p) t l env=pure false:=rfl
theorem mv{a b:Expr}{p:Pos}{t:Option Expr}{l:Nat}{env:Env}:swapsWith (.Subscript a b p) t l env=pure false:=rfl
theorem xj{a:Expr}{x:Str}{p:Pos}{t:Option Expr}{l:Nat}{env:Env}:swapsWith (.Attribute a x p) t l env=pure false:=rfl
theorem FR{a:Expr}{o:UnaryOp}{p:Pos}{t:Option Expr}{l:Nat}{env:Env}:swapsWith (.UnaryOp o a p) t l env=pure false:=rfl
theorem pU{T:Tab}{X:Cx}{Y:EX}{o e:Expr}{fa fb:M3.E3}{apos pos:Pos}(ho:PE X o (tE T X.K Y fa))(he:PE X e (tE T X.K Y fb))
 (hs:starEach (e :: []) X.env=(false,eval e X.env) :: starEach [] X.env)
 (hbase:attributeBase o "extend" X.env (eval o X.env)=eval o X.env:=by rfl)
 (hline:(apos.endLine==pos.line)=true:=by rfl):
 PE X (.Call (.Attribute o "extend" apos) [e] [] pos) (tE T X.K Y (M3.nR fa fb)):=by
 refine uy ho he hbase ?_ hline hs rfl
 rw[hs]
 rfl
end L3
namespace M3
open PySem
section
variable{α β:Type}{G G':Hh}{E:Nat->Hh->Prop}{σ:St}
variable{Q:D->Hh->Prop}{QB:Bool->Hh->Prop}{QA:List D->Hh->Prop}{QS:Fl×St->Hh->Prop}{QU:Unit->Hh->Prop}{QI:Src->Hh->Prop}{QG:St->Hh->Prop}
theorem Ce{QP:Option Int->Hh->Prop}(h:QP none G):run (ur σ) G QP E:=h
theorem BV{e:E3}{QP:Option Int->Hh->Prop}(h:run (e σ) G (fun d G1=>run (asI d) G1 QP E) E):run (uQ e σ) G QP E:=aK h
theorem Gn{i:Int}{QP:Option Int->Hh->Prop}(h:QP (some i) G):run (asI (.int i)) G QP E:=h
theorem Bc{e:E3}(h:run (e σ) G (fun x G1=>run (ph x) G1 QI E) E):run (yW e σ) G QI E:=aK h
theorem B9{n:Nat}{xs:List D}(hl:G[n]? =some (.lst xs))(h:QI ⟨jv xs,fun G'=>decide (G'[n]? =some (.lst xs))⟩ G):run (ph (.ref n)) G QI E:=by
 refine aJ (G':=G) ?_ h
 unfold ph;dsimp only;rw[hl]
theorem yM{xs:List D}{i:Nat}{x:D}(h:(jv xs)[i]? =some x):∃y,xs[i]? =some y/\x= .tup [.int (i:Int),y]:=by
 unfold jv at h
 rw[List.getElem?_mapIdx]at h
 cases q:xs[i]? with
 |none=>rw[q]at h;cases h
 |some y=>rw[q]at h;exact⟨y,rfl,(Option.some.inj h).symm⟩
theorem yh{xs:List D}:(jv xs).length=xs.length:=by simp [jv]
theorem kC{j:Nat}(hj:j<=1000000)(h:QI ⟨rng 0 j,fun _=>true⟩ G):run (Cw (.int (j:Int))) G QI E:=by
 have c:hZ (j:Int)=true:=by unfold hZ;exact qZ_ (by omega)
 show run (if hZ (j:Int)=true then ret (⟨rng 0 (j:Int).toNat,fun _=>true⟩:Src)else fail) G QI E
 rw[if_pos c,Int.toNat_natCast];exact h
theorem su{n:Nat}{body:D->St->M (Fl×St)}(P:Nat->St->Hh->Prop)
 (hs:∀(i:Nat) σ G,i < n->P i σ G->run (body (.int (i:Int)) σ) G (fun p G1=>match p.1 with
   | .next=>P (i+1) p.2 G1
   | .cont=>P (i+1) p.2 G1
   | .brk=>QS (.next,p.2) G1
   | .ret d=>QS (.ret d,p.2) G1) E)
 (hd:∀σ G,P n σ G->QS (.next,σ) G) (h0:P 0 σ G):run (forL (fun _=>true) body (rng 0 n) σ) G QS E:=by
 refine nQ (xs:=rng 0 n) P (fun _ _ _ _=>rfl) (fun i x σ G hx p=>?_) (fun σ G p=>hd σ G (by rw[mU]at p;exact p)) _ 0 σ G List.drop_zero (qf_ _) h0
 obtain⟨rfl,hi⟩:=kJ hx
 rw[Int.zero_add]
 exact hs i σ G hi p
theorem zO{α:Type}{f:α->D}{xs:List α}{ck:Hh->Bool}{body:D->St->M (Fl×St)}(P:Nat->St->Hh->Prop)(hck:∀i σ G,P i σ G->ck G=true)
 (hs:∀(i:Nat) x σ G,xs[i]? =some x->P i σ G->run (body (f x) σ) G (fun p G1=>match p.1 with
   | .next=>P (i+1) p.2 G1
   | .cont=>P (i+1) p.2 G1
   | .brk=>QS (.next,p.2) G1
   | .ret d=>QS (.ret d,p.2) G1) E)
 (hd:∀σ G,P xs.length σ G->QS (.next,σ) G) (h0:P 0 σ G):run (forL ck body (xs.map f) σ) G QS E:=by
 refine nQ (xs:=xs.map f) P hck (fun i x σ G hx p=>?_) (fun σ G p=>hd σ G (by rw[qM_]at p;exact p)) _ 0 σ G List.drop_zero (qf_ _) h0
 rw[qQ_]at hx
 cases q:xs[i]? with
 |none=>rw[q]at hx;cases hx
 |some y=>
  rw[q]at hx
  cases hx
  exact hs i y σ G q p
theorem Av{b:Bool}(h:Q (.int (if b then 1 else 0)) G):run (AD [.bl b]) G Q E:=h
theorem DC{n:Nat}{kvs:List (Key×D)}(hl:G[n]? =some (.dK kvs))(h:Q (.int kvs.length) G):run (gI [.ref n]) G Q E:=by
 refine aJ (a:= .int kvs.length) (G':=G) ?_ h
 unfold gI;dsimp only;rw[hl]
end
end M3
local macro_rules |`(tactic|walk_at "f")=>`(tactic|(refine M3.Cf rfl ?_;simp only[List.map_cons,List.map_nil,List.cons_append,qc_]))
local macro_rules |`(tactic|walk_at "r")=>`(tactic|repeat walk_at "w")
local macro_rules |`(tactic|walk_at "s")=>`(tactic|simp only[List.set_cons_succ,List.set_cons_zero])
local macro_rules |`(tactic|walk_at "w")=>`(tactic|first
 |with_reducible refine M3.bo ?_ |((with_reducible refine' M3.w_var ?e1 ?_);case e1=>rfl) |with_reducible refine M3.w_c ?_ |with_reducible refine M3.aR ?_
 |((with_reducible refine M3.w_next ?_);try walk_at "s") |with_reducible refine M3.Fc ?_
 |with_reducible refine M3.cK ?_ |with_reducible refine M3.fO ?_ |with_reducible refine M3.cU ?_ |with_reducible refine M3.eI ?_ |with_reducible refine M3.lL ?_
 |with_reducible refine M3.eT ?_ |with_reducible refine M3.ax ?_ |with_reducible refine M3.aM ?_
 |with_reducible refine M3.xD ?_ |with_reducible refine M3.zw ?_ |with_reducible refine M3.x6 ?_
 |with_reducible refine M3.mV ?_ |with_reducible refine M3.iI ?_ |with_reducible refine M3.w_tAnd ?_ |with_reducible refine M3.rA ?_ |with_reducible refine M3.iz ?_
 |with_reducible refine M3.ky ?_ |with_reducible refine M3.iD ?_ |with_reducible refine M3.DR ?_ |with_reducible refine M3.w_eOr ?_ |with_reducible refine M3.DV ?_ |with_reducible refine M3.Gj ?_
 |with_reducible refine M3.mq ?_ |with_reducible refine M3.nW ?_ |with_reducible refine M3.pb ?_ |with_reducible refine M3.oX ?_ |with_reducible refine M3.lP ?_
 |with_reducible refine M3.vR ?_ |with_reducible refine M3.Dq ?_ |((with_reducible refine' M3.Ey ?e1 ?_);case e1=>decide) |((with_reducible refine' M3.Fx ?e1 ?_);case e1=>decide) |((with_reducible refine' M3.nO ?e1 ?_);case e1=>decide)
 |with_reducible refine M3.Gm ?_ |with_reducible refine M3.Gp ?_ |with_reducible refine M3.w_leI ?_ |with_reducible refine M3.GQ ?_
 |((with_reducible refine' M3.Gh ?e1 ?e2 ?_);(case e1=>rfl);(case e2=>rfl))
 |((with_reducible refine' M3.cM ?e1 ?_);case e1=>rfl)
 |(first |with_reducible refine M3.w_is_int_non ?_ |with_reducible refine M3.w_is_int_bl ?_ |with_reducible refine M3.sx ?_ |with_reducible refine M3.sZ ?_ |with_reducible refine M3.t9 ?_ |with_reducible refine M3.w_is_bl_non ?_ |with_reducible refine M3.wF ?_ |with_reducible refine M3.uV ?_ |with_reducible refine M3.uB ?_ |with_reducible refine M3.uH ?_ |with_reducible refine M3.w_is_str_non ?_ |with_reducible refine M3.w_is_str_bl ?_ |with_reducible refine M3.w_is_str_int ?_ |with_reducible refine M3.sT ?_ |with_reducible refine M3.sQ ?_ |with_reducible refine M3.w_is_tup_non ?_ |with_reducible refine M3.w_is_tup_bl ?_ |with_reducible refine M3.w_is_tup_int ?_ |with_reducible refine M3.w_is_tup_str ?_ |with_reducible refine M3.mX ?_ |with_reducible refine M3.w_is_lst_non ?_ |with_reducible refine M3.w_is_lst_bl ?_ |with_reducible refine M3.w_is_lst_int ?_ |with_reducible refine M3.w_is_lst_str ?_ |with_reducible refine M3.sG ?_ |with_reducible refine M3.w_is_dic_non ?_ |with_reducible refine M3.w_is_dic_bl ?_ |with_reducible refine M3.w_is_dic_int ?_ |with_reducible refine M3.w_is_dic_str ?_ |with_reducible refine M3.tH ?_)
 |with_reducible refine M3.GC ?_ |with_reducible refine M3.w_negI ?_ |with_reducible refine M3.ux ?_ |with_reducible refine M3.tR ?_ |with_reducible refine M3.GI ?_ |with_reducible refine M3.w_max ?_
 |with_reducible refine M3.wY ?_ |with_reducible refine M3.kM ?_ |with_reducible refine M3.Bg ?_ |with_reducible refine M3.zS ?_ |with_reducible refine M3.td ?_ |with_reducible refine M3.w_sun ?_ |with_reducible refine M3.rH ?_
 |with_reducible refine M3.mx ?_ |with_reducible refine M3.tJ ?_
 |with_reducible refine M3.w_dict0 ?_ |with_reducible refine M3.E7 ?_ |with_reducible refine M3.HF ?_ |with_reducible refine M3.Ce ?_ |with_reducible refine M3.BV ?_ |with_reducible refine M3.Gn ?_
 |with_reducible refine M3.Bc ?_ |with_reducible refine M3.w_revL ?_ |with_reducible refine M3.w_asg ?_ |((with_reducible refine' M3.w_gTup ?e1 ?_);case e1=>rfl) |with_reducible refine M3.w_gaNil ?_ |with_reducible refine M3.w_gaCons ?_ |with_reducible refine M3.w_gSub ?_ |with_reducible refine M3.w_intI ?_ |with_reducible refine M3.Av ?_
 |((with_reducible refine' M3.CW ?e1 ?_);(case e1=>rfl);try walk_at "s")
 |((with_reducible refine' M3.tW ?e1 ?_);case e1=>exact qP_ rfl)
 |with_reducible refine And.intro (show (_:Nat)<=M3.aH from qP_ (by with_unfolding_all rfl)) ?_
 |with_reducible refine M3.w_fld ?_ |with_reducible refine M3.gr ?_ |with_reducible refine M3.bK ?_ |with_reducible refine M3.rY ?_ |with_reducible refine M3.xJ ?_ |with_reducible refine M3.Eh ?_ |with_reducible refine M3.BS ?_ |with_reducible refine M3.w_isNon ?_
 |((with_reducible refine' M3.bN ?e1 ?e2 ?e3 ?_);(case e1=>assumption);(case e2=>decide);(case e3=>rfl))
 |((with_reducible refine' M3.cX ?e1 ?_);(case e1=>assumption))
 |with_reducible refine M3.aK ?_)
namespace KH
open PySem M3
def Ext(G G':Hh):Prop:=∃r,G'=G++r
theorem Ext.trans{A B C:Hh}(a:Ext A B)(b:Ext B C):Ext A C:=by
 obtain⟨r,rfl⟩:=a
 obtain⟨t,rfl⟩:=b
 exact⟨r++t,by simp⟩
theorem Ext.add(G:Hh)(o:O):Ext G (G++[o]):=⟨[o],rfl⟩
theorem Ext.get{A B:Hh}(a:Ext A B){n:Nat}{o:O}(h:A[n]? =some o):B[n]? =some o:=by
 obtain⟨r,rfl⟩:=a
 rw[qK_ (qB_.mp h).1]
 exact h
theorem cE(G:Hh)(o:O):(G++[o])[G.length]? =some o:=by simp
theorem take_succ{α:Type}{xs:List α}{i:Nat}{x:α}(h:xs[i]? =some x):xs.take (i+1)=xs.take i++[x]:=by
 rw[List.take_add_one,h];rfl
theorem o8{α:Type}{f:α->D}{ps:List α}{i:Nat}{x:D}(h:(ps.map f)[i]? =some x):∃p,ps[i]? =some p/\x=f p:=by
 rw[qQ_]at h
 cases e:ps[i]? with
 |none=>rw[e]at h;cases h
 |some p=>rw[e]at h;exact⟨p,rfl,(Option.some.inj h).symm⟩
theorem jI{α:Type}{f:α->D}{xs:List α}{i:Nat}{x:α}(h:xs[i]? =some x):atI (xs.map f) (i:Int)=some (f x):=by
 have hl:=(qB_.mp h).1
 unfold atI M3.ixN
 rw[if_pos (Int.natCast_nonneg _),qM_,if_pos (by exact_mod_cast hl)]
 simp [h]
theorem AR{α:Type}{f:α->D}{xs:List α}{i:Int}{x:α}(h0:0<=i)(h:xs[i.toNat]? =some x):atI (xs.map f) i=some (f x):=by
 have:=jI (f:=f) h
 rwa [Int.toNat_of_nonneg h0]at this
theorem eq_int{G:Hh}{k:Nat}{a b:Int}:eqG G (k+1) (.int a) (.int b)=some (decide (a=b)):=rfl
theorem vg{G:Hh}{p:Int}:∀{os:List Int},qy G (.int p) (os.map D.int)=some (decide (p∈os))
 | []=>by simp [qy]
 |a :: r=>by
  have ih:=vg (G:=G) (p:=p) (os:=r)
  show (match eqG G 8 (.int a) (.int p),qy G (.int p) (r.map D.int)with
   |some p,some q=>some (p||q)
   |_,_=>none)=_
  rw[ih]
  show some (decide (a=p)||decide (p∈r))=_
  congr 1
  simp only[qS_,Bool.decide_or]
  congr 1
  exact decide_eq_decide.mpr ⟨Eq.symm,Eq.symm⟩
theorem rS{κ:Type} [DecidableEq κ]{kvs:List (κ×D)}{k:κ}:look kvs k=none↔k∉kvs.map (·.1):=by
 unfold look
 rw[Option.map_eq_none_iff,List.find?_eq_none]
 constructor
 · intro h z
   obtain⟨kv,hm,e⟩:=qH_.mp z
   exact h kv hm (qZ_ e)
 · intro h kv hm e
   exact h (qH_.mpr ⟨kv,hm,of_decide_eq_true e⟩)
theorem uP{κ:Type} [DecidableEq κ]{kvs:List (κ×D)}{k:κ}:(look kvs k).isSome=decide (k∈kvs.map (·.1)):=by
 by_cases h:k∈kvs.map (·.1)
 · rw[qZ_ h]
   cases q:look kvs k with
   |none=>exact absurd h (rS.mp q)
   |some _=>rfl
 · rw[qa_ h,rS.mpr h];rfl
end KH
namespace KC
open PySem M3
def rL:S3:=
    (ba (eOp oGt (eOp iE (ae 1) (eC (.int 2))) (ae 0)))
def kL:List D->M D:=fnM 2 [] rL
def vt:S3:=
    (aC (cR 1 (eC (.tup [(.tup [(.int 0),(.int 0)]),(.int 0)])))
    (aC (vw (iOf (ae 0)) (gNm 2) (sIf (tB (eOp oGt (eOp oIx (ae 2) (eC (.int 0))) (eOp oIx (ae 1) (eC (.int 0))))) (cR 1 (ae 2)) bY))
    (ba (ae 1))))
def mL:List D->M D:=fnM 1 [none,none] vt
def lH:S3:=
    (aC (cR 3 (jz (iOf (ae 0)) [] nr (eOp oIx (eOp oIx (ae 0) (eC (.int 0))) (eC (.int 0)))))
    (ba (fy (ah (eOp jO (aL x4 (ah (eOp jO (ae 3) (gc (ah (ae 1) au))) au)) (eC (.int 1))) (ah (ae 2) au)))))
def gy:List D->M D:=fnM 3 [none] lH
def oz:S3:=
    (aC (bL (ae 0) 0 (ae 1))
    (aC (bL (ae 0) 1 (ae 2))
    (aC (bL (ae 0) 2 (eC (.bl false)))
    (aC (bL (ae 0) 3 (eC .non))
    (aC (bL (ae 0) 4 (eC .non))
    (aC (bL (ae 0) 5 (eC (.int 0)))
    (aC (bL (ae 0) 6 pK)
    (bL (ae 0) 7 (eC (.int 0))))))))))
def iS:List D->M D:=fnM 3 [] oz
def km:S3:=
    (aC (cR 1 (jz (kb (bw (ae 0) 1)) [0] (tB (eOp nT (ae 0) (bw (ae 1) 6))) (ae 0)))
    (ba (jz (iOf (ae 1)) [0] nr (fy (ah (bw (ae 1) 0) (ah (ae 0) (ah (bw (ae 1) 5) (ah (bw (ae 1) 4) au))))))))
def dR:List D->M D:=fnM 1 [none] km
def ik:S3:=
    (aC (bL (ae 0) 5 (eOp jO (bw (ae 0) 5) (eC (.int 1))))
    (aC (bL (ae 0) 4 (ae 1))
    (aC (bL (ae 0) 6 pK)
    (ba (aV 0 dR (ae 0) au)))))
def cp:List D->M D:=fnM 2 [] ik
def mP:S3:=
    (aC (sIf (tOf (bw (ae 0) 2)) (ma 1004 (ah (eC (.str "the hand is at work already")) au)) bY)
    (aC (bL (ae 0) 2 (eC (.bl true)))
    (aC (bL (ae 0) 3 (ae 1))
    (ba (aV 0 cp (ae 0) (ah (eC .non) au))))))
def e9:List D->M D:=fnM 2 [] mP
def ie:S3:=
    (ba (aV 0 e9 (ae 0) (ah (ae 1) au)))
def ed:List D->M D:=fnM 2 [] ie
def iZ:S3:=
    (ba (aV 0 e9 (ae 0) (ah (eC .non) au)))
def eM:List D->M D:=fnM 1 [] iZ
def iB:S3:=
    (sIf (gC (tOf (bw (ae 0) 2))) (ma 1005 (ah (eC (.str "the hand is not at work")) au)) bY)
def cu:List D->M D:=fnM 1 [] iB
def iL:S3:=
    (aC (bM (aV 0 cu (ae 0) au))
    (ba (aV 0 dR (ae 0) au)))
def eK:List D->M D:=fnM 1 [] iL
def kB:S3:=
    (aC (bM (aV 0 cu (ae 0) au))
    (bL (ae 0) 2 (eC (.bl false))))
def fS:List D->M D:=fnM 1 [] kB
def lJ:S3:=
    (aC (cR 1 (zm (bw (ae 0) 6)))
    (aC (sIf (tB (eUn rh (bw (ae 0) 3))) (ba (aL mL (ah (ae 1) au))) bY)
    (aC (cR 2 (aL gy (ah (ae 1) (ah (bw (ae 0) 7) (ah (bw (ae 0) 0) au)))))
    (aC (bL (ae 0) 7 (eOp oIx (ae 2) (eC (.int 0))))
    (ba (fy (ah (ae 2) (ah (bw (ae 0) 3) au))))))))
def gv:List D->M D:=fnM 1 [none,none] lJ
def om:S3:=
    (aC (sIf (tOr (gC (tOf (bw (ae 0) 2))) (tB (eOp oNe (eOp oIx (ae 1) (eC (.int 2))) (bw (ae 0) 5)))) (ba (fy (ah (gc au) (ah (eC .non) au)))) bY)
    (aC (w4 (bw (ae 0) 6) (eOp oIx (ae 1) (eC (.int 1))) (eOp oIx (ae 1) (eC (.int 3))))
    (aC (sIf (gC (tOf (aL kL (ah (bw (ae 0) 1) (ah (aL gI (ah (bw (ae 0) 6) au)) au))))) (ba (fy (ah (gc au) (ah (eC .non) au)))) bY)
    (aC (sIf (tB (eUn rh (bw (ae 0) 4))) (ba (fy (ah (aV 0 cp (ae 0) (ah (aV 0 gv (ae 0) au) au)) (ah (eC .non) au)))) bY)
    (aC (bL (ae 0) 2 (eC (.bl false)))
    (ba (fy (ah (gc au) (ah (bw (ae 0) 4) au)))))))))
def iN:List D->M D:=fnM 2 [] om
def lK:S3:=
    (aC (bL (ae 0) 4 (eC (.tup [(.tup [(.int 0),(.int 0)]),(.int 0)])))
    (bL (ae 0) 8 (eC (.bl true))))
def gu:List D->M D:=fnM 1 [] lK
def lR:S3:=
    (aC (cR 1 (bw (ae 0) 8))
    (aC (bL (ae 0) 8 (eC (.bl false)))
    (ba (ae 1))))
def gA:List D->M D:=fnM 1 [none] lR
def lW:S3:=
    (aC (cR 1 (zL (bw (ae 0) 8)))
    (aC (bL (ae 0) 8 (eC (.bl true)))
    (ba (ae 1))))
def gs:List D->M D:=fnM 1 [none] lW
def lI:S3:=
    (sIf (tB (eOp oGt (eOp oIx (ae 1) (eC (.int 0))) (eOp oIx (bw (ae 0) 4) (eC (.int 0))))) (bL (ae 0) 4 (ae 1)) bY)
def gw:List D->M D:=fnM 2 [] lI
def ia:S3:=
    (aC (sIf (gC (tOf (bw (ae 0) 8))) (ba (eC .non)) bY)
    (aC (cR 2 (eOp oIx (ae 1) (eC (.int 3))))
    (aC (sIf (tB (eUn rh (ae 2))) (ba (eOp jO (eSl (ae 1) ur (uQ (eC (.int 3)))) (fy (ah (bw (ae 0) 4) au)))) bY)
    (aC (bM (aV 1 gw (ae 0) (ah (ae 2) au)))
    (ba (eOp jO (eSl (ae 1) ur (uQ (eC (.int 3)))) (fy (ah (eC .non) au))))))))
def d0:List D->M D:=fnM 2 [none] ia
def oA:S3:=
    (aC (bL (ae 0) 9 (jz (kb (ae 1)) [] nr (nH 1 gu au)))
    (aC (bL (ae 0) 10 (jz (kb (ae 2)) [1] nr (nH 0 iS (ah (ae 0) (ah (ae 1) au)))))
    (bL (ae 0) 11 (gc au))))
def gD:List D->M D:=fnM 3 [] oA
def jX:S3:=
    (aC (sIf (tOr (tB (eOp oLt (ae 1) (eC (.int 0)))) (tB (eOp oGe (ae 1) (aL gI (ah (bw (ae 0) 10) au))))) (ma 1001 (ah (eC (.str "there is no such hand")) au)) bY)
    (ba (eOp oIx (bw (ae 0) 10) (ae 1))))
def bj:List D->M D:=fnM 2 [] jX
def jl:S3:=
    (aC (sIf (tOr (tB (eOp oLt (ae 1) (eC (.int 0)))) (tB (eOp oGe (ae 1) (aL gI (ah (bw (ae 0) 9) au))))) (ma 1002 (ah (eC (.str "there is no such keeper")) au)) bY)
    (ba (eOp oIx (bw (ae 0) 9) (ae 1))))
def bG:List D->M D:=fnM 2 [] jl
def ou:S3:=
    (bM (nR (bw (ae 0) 11) (jz (iOf (ae 1)) [] nr (fy (ah (eC (.bl false)) (ah (ae 0) au))))))
def cO:List D->M D:=fnM 2 [] ou
def mK:S3:=
    (bM (aV 2 cO (ae 0) (ah (aV 0 ed (aV 2 bj (ae 0) (ah (ae 1) au)) (ah (ae 2) au)) au)))
def g6:List D->M D:=fnM 3 [] mK
def ot:S3:=
    (bM (aV 2 cO (ae 0) (ah (aV 0 eM (aV 2 bj (ae 0) (ah (ae 1) au)) au) au)))
def iR:List D->M D:=fnM 2 [] ot
def mG:S3:=
    (aC (cR 2 (aV 0 eK (aV 2 bj (ae 0) (ah (ae 1) au)) au))
    (aC (bM (aV 2 cO (ae 0) (ah (ae 2) au)))
    (ba (aL gI (ah (ae 2) au)))))
def hI:List D->M D:=fnM 2 [none] mG
def mR:S3:=
    (bM (aV 0 fS (aV 2 bj (ae 0) (ah (ae 1) au)) au))
def hG:List D->M D:=fnM 2 [] mR
def hX:S3:=
    (ba (aV 1 gA (aV 2 bG (ae 0) (ah (ae 1) au)) au))
def dZ:List D->M D:=fnM 2 [] hX
def ir:S3:=
    (ba (aV 1 gs (aV 2 bG (ae 0) (ah (ae 1) au)) au))
def dY:List D->M D:=fnM 2 [] ir
def gf:S3:=
    (aC (cR 2 (aV 1 d0 (eOp oIx (bw (ae 0) 9) (eOp oIx (ae 1) (eC (.int 1)))) (ah (ae 1) au)))
    (sIf (tB (eUn lM (ae 2))) (bM (oK (bw (ae 0) 11) (fy (ah (eC (.bl true)) (ah (ae 2) au))))) bY))
def cW:List D->M D:=fnM 2 [none] gf
def gU:S3:=
    (aC (cR 2 (aV 0 iN (eOp oIx (bw (ae 0) 10) (eOp oIx (ae 1) (eC (.int 0)))) (ah (ae 1) au)))
    (aC (bM (aV 2 cO (ae 0) (ah (eOp oIx (ae 2) (eC (.int 0))) au)))
    (aC (sIf (tB (eUn rh (eOp oIx (ae 2) (eC (.int 1))))) (ba (gc au)) bY)
    (ba (gc (ah (fy (ah (eOp oIx (ae 1) (eC (.int 0))) (ah (eOp oIx (ae 2) (eC (.int 1))) au))) au))))))
def dG:List D->M D:=fnM 2 [none] gU
def oB:S3:=
    (aC (cR 3 (eOp oIx (bw (ae 0) 11) (ae 1)))
    (aC (sIf (gC (tOf (ae 2))) (bM (sL (bw (ae 0) 11) (ae 1))) bY)
    (aC (sIf (tOf (eOp oIx (ae 3) (eC (.int 0)))) (ba (aV 2 dG (ae 0) (ah (eOp oIx (ae 3) (eC (.int 1))) au))) bY)
    (aC (bM (aV 2 cW (ae 0) (ah (eOp oIx (ae 3) (eC (.int 1))) au)))
    (ba (gc au))))))
def dW:List D->M D:=fnM 3 [none] oB
def m8:S3:=
    (aC (sIf (gC (tOf (bw (ae 0) 11))) (ma 1003 (ah (eC (.str "no letter is under way")) au)) bY)
    (ba (aV 2 dW (ae 0) (ah (eOp oMod (ae 1) (aL gI (ah (bw (ae 0) 11) au))) (ah (ae 2) au)))))
def g9:List D->M D:=fnM 3 [] m8
def gM:S3:=
    (aC (vw (yW (bw (ae 0) 11)) (gUn [3,4]) (sIf (tB (eOp oEq (eSl (eOp oIx (ae 4) (eC (.int 1))) ur (uQ (eC (.int 2)))) (fy (ah (ae 1) (ah (ae 2) au))))) (ba (ae 3)) bY))
    (ba (eC .non)))
def cz:List D->M D:=fnM 3 [none,none] gM
def gB:S3:=
    (aC (bM (aV 2 bj (ae 0) (ah (ae 1) au)))
    (aC (bM (aV 2 bG (ae 0) (ah (ae 2) au)))
    (aC (cR 3 (gc au))
    (aC (cR 4 (aV 2 cz (ae 0) (ah (ae 1) (ah (ae 2) au))))
    (aC (t5 (tB (eUn lM (ae 4))) (aC (bM (nR (ae 3) (aV 2 dW (ae 0) (ah (ae 4) (ah (eC (.bl false)) au)))))
    (cR 4 (aV 2 cz (ae 0) (ah (ae 1) (ah (ae 2) au))))))
    (ba (ae 3)))))))
def dc:List D->M D:=fnM 3 [none,none] gB
def nM:S3:=
    (aC (cR 1 (gc au))
    (aC (t5 (tOf (bw (ae 0) 11)) (bM (nR (ae 1) (aV 2 dW (ae 0) (ah (eC (.int 0)) (ah (eC (.bl false)) au))))))
    (ba (ae 1))))
def g8:List D->M D:=fnM 1 [none] nM
def ow:S3:=
    (aC (bL (ae 0) 12 (ae 1))
    (aC (bL (ae 0) 13 (ae 2))
    (aC (bL (ae 0) 3 (ae 3))
    (aC (bL (ae 0) 14 (ae 4))
    (aC (bL (ae 0) 15 (eC .non))
    (bL (ae 0) 16 (eC .non)))))))
def iP:List D->M D:=fnM 5 [] ow
def vI:S3:=
    (ba (fy (ah (bw (ae 0) 12) (ah (bw (ae 0) 13) (ah (bw (ae 0) 3) (ah (bw (ae 0) 14) (ah (bw (ae 0) 15) au)))))))
def vp:List D->M D:=fnM 1 [] vI
def mY:S3:=
    (aC (bL (ae 0) 17 (nH 2 gD (ah (ae 1) (ah (ae 2) au))))
    (aC (bL (ae 0) 18 (gc au))
    (aC (bL (ae 0) 19 pK)
    (bL (ae 0) 20 (eC (.int 0))))))
def gZ:List D->M D:=fnM 3 [] mY
def iV:S3:=
    (aC (cR 4 (aL gI (ah (bw (ae 0) 18) au)))
    (aC (bM (oK (bw (ae 0) 18) (nH 3 iP (ah (ae 1) (ah (ae 2) (ah (ae 3) (ah (bw (ae 0) 20) au)))))))
    (aC (w4 (bw (ae 0) 19) (ae 1) (ae 4))
    (ba (ae 4)))))
def dh:List D->M D:=fnM 4 [none] iV
def ju:S3:=
    (aC (cR 3 (eOp oIx (bw (ae 0) 19) (ae 1)))
    (aC (cR 4 (eOp oIx (bw (ae 0) 18) (ae 3)))
    (aC (bL (ae 4) 3 (eOp oIx (ae 2) (eC (.int 1))))
    (aC (bL (ae 4) 15 (bw (ae 0) 20))
    (ba (fy (ah (ae 3) (ah (bw (ae 4) 3) au))))))))
def fq:List D->M D:=fnM 3 [none,none] ju
def iJ:S3:=
    (ba (jz (iOf (ae 1)) [0] nr (aV 4 fq (ae 1) (ah (eOp oIx (ae 0) (eC (.int 0))) (ah (eOp oIx (ae 0) (eC (.int 1))) au)))))
def bR:List D->M D:=fnM 2 [] iJ
def m5:S3:=
    (aC (cR 2 (eOp oIx (ae 1) (eC (.int 0))))
    (aC (sIf (tB (eOp oEq (ae 2) (eC (.str "write")))) (aC (bM (aV 2 g6 (bw (ae 0) 17) (ah (eOp oIx (ae 1) (eC (.int 1))) (ah (eOp oIx (ae 1) (eC (.int 2))) au))))
    (ba (aV 4 dh (ae 0) (ah (eOp oIx (ae 1) (eC (.int 1))) (ah (ae 2) (ah (eOp oIx (ae 1) (eC (.int 2))) au)))))) bY)
    (aC (sIf (tB (eOp oEq (ae 2) (eC (.str "read")))) (aC (bM (aV 2 iR (bw (ae 0) 17) (ah (eOp oIx (ae 1) (eC (.int 1))) au)))
    (ba (aV 4 dh (ae 0) (ah (eOp oIx (ae 1) (eC (.int 1))) (ah (ae 2) (ah (eC .non) au)))))) bY)
    (aC (sIf (tB (eOp oEq (ae 2) (eC (.str "carry")))) (aC (cR 3 (aV 4 bR (ae 0) (ah (aV 2 g9 (bw (ae 0) 17) (ah (eOp oIx (ae 1) (eC (.int 1))) (ah (eOp oIx (ae 1) (eC (.int 2))) au))) au)))
    (ba (eIf (tOf (ae 3)) (eOp oIx (ae 3) (eC (.int 0))) (eC .non)))) bY)
    (aC (sIf (tB (eOp oEq (ae 2) (eC (.str "pass")))) (ba (aV 4 bR (ae 0) (ah (aV 2 dc (bw (ae 0) 17) (ah (eOp oIx (ae 1) (eC (.int 1))) (ah (eOp oIx (ae 1) (eC (.int 2))) au))) au))) bY)
    (aC (sIf (tB (eOp oEq (ae 2) (eC (.str "sweep")))) (ba (aV 4 bR (ae 0) (ah (aV 2 g8 (bw (ae 0) 17) au) au))) bY)
    (aC (sIf (tB (eOp oEq (ae 2) (eC (.str "again")))) (ba (aV 2 hI (bw (ae 0) 17) (ah (eOp oIx (ae 1) (eC (.int 1))) au))) bY)
    (aC (sIf (tB (eOp oEq (ae 2) (eC (.str "quit")))) (aC (bM (aV 2 hG (bw (ae 0) 17) (ah (eOp oIx (ae 1) (eC (.int 1))) au)))
    (ba (eOp oIx (bw (ae 0) 19) (eOp oIx (ae 1) (eC (.int 1)))))) bY)
    (aC (sIf (tB (eOp oEq (ae 2) (eC (.str "stop")))) (ba (aV 2 dZ (bw (ae 0) 17) (ah (eOp oIx (ae 1) (eC (.int 1))) au))) bY)
    (ba (aV 2 dY (bw (ae 0) 17) (ah (eOp oIx (ae 1) (eC (.int 1))) au))))))))))))
def gX:List D->M D:=fnM 2 [none,none] m5
def fP:S3:=
    (vX (aV 4 gX (ae 0) (ah (ae 1) au)) (fun d σ=>(.ret d,σ)) [(fun c=>decide (c=1001),(ba (eC (.str "no hand")))),(fun c=>decide (c=1002),(ba (eC (.str "no keeper")))),(fun c=>decide (c=1003),(ba (eC (.str "no letter")))),(fun c=>decide (c=1004),(ba (eC (.str "busy")))),(fun c=>decide (c=1005),(ba (eC (.str "idle"))))])
def cI:List D->M D:=fnM 2 [] fP
def gT:S3:=
    (we (bw (ae 0) 19) (gUn [1,2]) (aC (cR 3 (bw (eOp oIx (bw (bw (ae 0) 17) 10) (ae 1)) 4))
    (sIf (tB (eUn lM (ae 3))) (aC (cR 4 (eOp oIx (bw (ae 0) 18) (ae 2)))
    (bL (ae 4) 16 (eOp oIx (ae 3) (eC (.int 0))))) bY)))
def dI:List D->M D:=fnM 1 [none,none,none,none] gT
def kg:S3:=
    (aC (cR 2 (aV 4 cI (ae 0) (ah (ae 1) au)))
    (aC (bM (aV 4 dI (ae 0) au))
    (aC (bL (ae 0) 20 (eOp jO (bw (ae 0) 20) (eC (.int 1))))
    (ba (ae 2)))))
def eX:List D->M D:=fnM 2 [none] kg
def rV:S3:=
    (aC (cR 3 (nH 4 gZ (ah (ae 0) (ah (ae 1) au))))
    (ba (jz (iOf (ae 2)) [3] nr (aV 4 eX (ae 1) (ah (ae 0) au)))))
def kF:List D->M D:=fnM 3 [none] rV
def Fd(rec:List D->M D):S3:=
    (aC (sIf (tB (eUn rh (ae 1))) (ba (eUn rh (ae 0))) bY)
    (aC (sIf (tOf (aL (bIs .bl) (ah (ae 1) au))) (ba (uZ (aL (bIs .bl) (ah (ae 0) au)) (eOp oEq (ae 0) (ae 1)))) bY)
    (aC (sIf (tOf (aL (bIs .int) (ah (ae 1) au))) (ba (uZ (aL (bIs .int) (ah (ae 0) au)) (uZ (zL (aL (bIs .bl) (ah (ae 0) au))) (eOp oEq (ae 0) (ae 1))))) bY)
    (aC (sIf (tOf (aL (bIs .str) (ah (ae 1) au))) (ba (uZ (aL (bIs .str) (ah (ae 0) au)) (eOp oEq (ae 0) (ae 1)))) bY)
    (aC (sIf (tOf (aL (bIs .dic) (ah (ae 1) au))) (ba (uZ (aL (bIs .dic) (ah (ae 0) au)) (aL rec (ah z0 (ah z0 au))))) bY)
    (aC (sIf (tB (eOp oNe (aL (bIs .tup) (ah (ae 1) au)) (aL (bIs .tup) (ah (ae 0) au)))) (ba (eC (.bl false))) bY)
    (aC (sIf (tOr (tB (eOp oNe (aL (bIs .lst) (ah (ae 1) au)) (aL (bIs .lst) (ah (ae 0) au)))) (gC (tOf (aL (xP [.lst,.tup]) (ah (ae 1) au))))) (ba (eC (.bl false))) bY)
    (aC (sIf (tB (eOp oNe (aL gI (ah (ae 0) au)) (aL gI (ah (ae 1) au)))) (ba (eC (.bl false))) bY)
    (aC (vw (kb (aL gI (ah (ae 1) au))) (gNm 2) (sIf (gC (tOf (aL rec (ah (eOp oIx (ae 0) (ae 2)) (ah (eOp oIx (ae 1) (ae 2)) au))))) (ba (eC (.bl false))) bY))
    (ba (eC (.bl true))))))))))))
def uu:Nat->List D->M D
 |0=>fnM 2 [none] CU
 |k+1=>fnM 2 [none] (Fd (uu k))
def w6:S3:=
    (ba (uZ (aL (bIs .int) (ah (ae 0) au)) (zL (aL (bIs .bl) (ah (ae 0) au)))))
def gW:List D->M D:=fnM 1 [] w6
def FE:S3:=
    (aC (sIf (tB (eOp oLt (ae 1) (aL gI (ah (ae 0) au)))) (ba (eOp oIx (ae 0) (ae 1))) bY)
    (ba (eC (.int 0))))
def x3:List D->M D:=fnM 2 [] FE
def pL:S3:=
    (aC (cR 2 (eOp oMod (eOp oMod (eOp iE (ae 0) (eC (.int 48271))) (eC (.int 1009))) (ae 1)))
    (aC (cR 3 (eOp oMod (eOp oMod (eOp iE (ae 0) (eC (.int 48271))) (eC (.int 1013))) (eOp oDiv (eOp jO (ae 1) (eC (.int 1))) (eC (.int 2)))))
    (aC (cR 4 (jz (kb (ae 3)) [1,2] nr (eOp oMod (eOp jO (ae 2) (ae 0)) (ae 1))))
    (aC (cR 5 (gc au))
    (aC (vw (kb (ae 1)) (gNm 6) (bM (oK (ae 5) (eOp oIx (gc (ah (fy (ah (eC (.str "wake")) (ah (ae 6) au))) (ah (fy (ah (eC (.str "stop")) (ah (ae 6) au))) au))) (aL AD (ah (eOp oIn (ae 6) (ae 4)) au))))))
    (ba (ae 5)))))))
def ig:List D->M D:=fnM 2 [none,none,none,none,none] pL
def CZ:S3:=
    (aC (cR 1 (eOp jO (eC (.int 1)) (eOp oMod (eOp oMod (eOp iE (aL x3 (ah (ae 0) (ah (eC (.int 0)) au))) (eC (.int 48271))) (eC (.int 1049))) (eC (.int 7)))))
    (aC (cR 2 (eOp jO (eC (.int 1)) (eOp oMod (eOp oMod (eOp iE (aL x3 (ah (ae 0) (ah (eC (.int 0)) au))) (eC (.int 48271))) (eC (.int 1051))) (eC (.int 4)))))
    (aC (cR 3 (gc au))
    (aC (cR 4 (gc au))
    (aC (cR 5 (eC (.int 0)))
    (aC (vw (vD (eC (.int 1)) (aL AJ (ah (eC (.int 13)) (ah (aL gI (ah (ae 0) au)) au)))) (gNm 6) (aC (cR 7 (eOp jO (eOp oIx (ae 0) (ae 6)) (eOp iE (eC (.int 7)) (ae 6))))
    (aC (cR 8 (aL ig (ah (ae 7) (ah (ae 1) au))))
    (aC (bM (nR (ae 3) (ae 8)))
    (aC (bM (nR (ae 4) (eOp iE (gc (ah (eC .non) au)) (aL gI (ah (ae 8) au)))))
    (aC (cR 9 (eOp oMod (eOp oMod (eOp iE (ae 7) (eC (.int 48271))) (eC (.int 1019))) (ae 2)))
    (aC (sIf (tB (eOp oEq (eOp oMod (eOp oMod (eOp iE (ae 7) (eC (.int 48271))) (eC (.int 1021))) (eC (.int 2))) (eC (.int 1)))) (aC (cR 5 (eOp oIx (gc (ah (ae 6) (ah (eOp qY (eC (.int 0)) (ae 6)) (ah (eC (.int 0)) (ah (eOp jO (eC (.int 100000000000000000000)) (ae 6)) au))))) (eOp oMod (eOp oMod (eOp iE (ae 7) (eC (.int 48271))) (eC (.int 1031))) (eC (.int 4)))))
    (bM (oK (ae 3) (fy (ah (eC (.str "write")) (ah (ae 9) (ah (ae 5) au))))))) (bM (oK (ae 3) (fy (ah (eC (.str "read")) (ah (ae 9) au))))))
    (aC (bM (oK (ae 3) (fy (ah (eC (.str "sweep")) au))))
    (bM (nR (ae 4) (gc (ah (eOp qY (ae 6) (eC (.int 1))) (ah (fy (ah (eOp qY (ae 6) (eC (.int 1))) (ah (ae 5) au))) au)))))))))))))
    (aC (cR 10 (aL qt (ah (ae 3) au)))
    (aC (cR 11 (aL kF (ah (ae 1) (ah (ae 2) (ah (ae 10) au)))))
    (aC (sIf (tOr (gC (tOf (aL (bIs .lst) (ah (ae 11) au)))) (tOr (tB (eOp oNe (aL gI (ah (ae 11) au)) (aL gI (ah (ae 3) au)))) (tB (eOp oNe (ae 10) (ae 3))))) (ba (eC (.bl false))) bY)
    (aC (vw (kb (aL gI (ah (ae 3) au))) (gNm 6) (sIf (tB (eOp oEq (eOp oIx (ae 3) (ae 6)) (fy (ah (eC (.str "sweep")) au)))) (aC (sIf (tOr (gC (tOf (aL (bIs .lst) (ah (eOp oIx (ae 11) (ae 6)) au)))) (gC (tOf (aL (uu 9) (ah (eOp oIx (ae 11) (ae 6)) (ah (gc (ah (eOp oIx (ae 4) (ae 6)) au)) au)))))) (ba (eC (.bl false))) bY)
    (aC (sIf (gC (tOf (aL (bIs .tup) (ah (eOp oIx (eOp oIx (ae 11) (ae 6)) (eC (.int 0))) au)))) (ba (eC (.bl false))) bY)
    (sIf (gC (tOf (aL gW (ah (eOp oIx (eOp oIx (eOp oIx (ae 11) (ae 6)) (eC (.int 0))) (eC (.int 1))) au)))) (ba (eC (.bl false))) bY))) (sIf (tB (eUn lM (eOp oIx (ae 4) (ae 6)))) (sIf (tOr (gC (tOf (aL gW (ah (eOp oIx (ae 11) (ae 6)) au)))) (tB (eOp oNe (eOp oIx (ae 11) (ae 6)) (eOp oIx (ae 4) (ae 6))))) (ba (eC (.bl false))) bY) bY)))
    (ba (eC (.bl true)))))))))))))
def pN:List D->M D:=fnM 1 [none,none,none,none,none,none,none,none,none,none,none] CZ
end KC
namespace KH
open PySem M3
def Chg(S:List Nat)(G G':Hh):Prop:=G.length<=G'.length/\∀n,n < G.length->n∉S->G'[n]? =G[n]?
theorem Chg.refl(S:List Nat)(G:Hh):Chg S G G:=⟨qO_ _,fun _ _ _=>rfl⟩
theorem Chg.trans{S:List Nat}{A B C:Hh}(a:Chg S A B)(b:Chg S B C):Chg S A C:=
 ⟨Nat.le_trans a.1 b.1,fun n hn hs=>(b.2 n (qd_ hn a.1) hs).trans (a.2 n hn hs)⟩
theorem Chg.trans'{S T:List Nat}{A B C:Hh}(a:Chg S A B)(b:Chg T B C)(h:∀n∈T,n∈S\/A.length<=n):Chg S A C:=
 ⟨Nat.le_trans a.1 b.1,fun n hn hs=>(b.2 n (qd_ hn a.1) (fun z=>(h n z).elim hs fun w=>qe_ _ (qd_ hn w))).trans (a.2 n hn hs)⟩
theorem Chg.mono{S T:List Nat}{A B:Hh}(a:Chg S A B)(h:∀n∈S,n∈T):Chg T A B:=⟨a.1,fun n hn hs=>a.2 n hn fun z=>hs (h n z)⟩
theorem Chg.add{S:List Nat}(G:Hh)(o:O):Chg S G (G++[o]):=⟨by simp,fun n hn _=>qK_ hn⟩
theorem Chg.set{S:List Nat}(G:Hh){n:Nat}(o:O)(h:n∈S):Chg S G (G.set n o):=⟨by simp,fun m hm hs=>by
 rw[qV_ (by rintro rfl;exact hs h)]⟩
theorem Chg.get{S:List Nat}{A B:Hh}(a:Chg S A B){n:Nat}{o:O}(h:A[n]? =some o)(hs:n∉S):B[n]? =some o:=by
 rw[a.2 n (qB_.mp h).1 hs];exact h
theorem Ext.chg{S:List Nat}{A B:Hh}(a:Ext A B):Chg S A B:=by
 obtain⟨r,rfl⟩:=a
 exact⟨by simp,fun n hn _=>qK_ hn⟩
theorem aG{G:Hh}{n:Nat}{o:O}(h:G[n]? =some o):n < G.length:=(qB_.mp h).1
theorem jy{G:Hh}{l:Nat}{o o':O}(h:G[l]? =some o):(G.set l o')[l]? =some o':=qU_ (qB_.mp h).1
section
variable{G G':Hh}{E:Nat->Hh->Prop}{σ:St}{Q:D->Hh->Prop}{QU:Unit->Hh->Prop}{QA:List D->Hh->Prop}{QS:Fl×St->Hh->Prop}
theorem aT{n C f:Nat}{fs:List (Nat×D)}{y:D}(hn:G[n]? =some (.ins C fs))(hl:C < 1000/\fs.length < 1000)(h:∀G',Chg [n] G G'->G'.length=G.length->G'[n]? =some (.ins C (putN f y fs))->QU () G'):run (yD (.ref n) f y) G QU E:=
 Ep hn hl (h _ (Chg.set _ _ qI_) (by simp) (jy hn))
theorem xK{n:Nat}{kvs:List (Key×D)}{i v:D}{k:Key}(hn:G[n]? =some (.dK kvs))(hk:qg i=some k)(hl:kvs.length < aH)(h:∀G',Chg [n] G G'->G'.length=G.length->G'[n]? =some (.dK (put kvs k v))->QU () G'):run (xW (.ref n) i v) G QU E:=
 DW hn hk hl (h _ (Chg.set _ _ qI_) (by simp) (jy hn))
theorem hV{n:Nat}{xs:List D}{y:D}(hl:G[n]? =some (.lst xs))(hz:xs.length < aH)(h:∀G',Chg [n] G G'->G'.length=G.length->G'[n]? =some (.lst (xs++[y]))->Q .non G'):run (iH (.ref n) y) G Q E:=
 AG hl hz (h _ (Chg.set _ _ qI_) (by simp) (jy hl))
theorem gj{n m:Nat}{xs ys:List D}(hn:G[n]? =some (.lst xs))(hm:G[m]? =some (.lst ys))(hl:xs.length+ys.length<=aH)(h:∀G',Chg [n] G G'->G'.length=G.length->G'[n]? =some (.lst (xs++ys))->Q .non G'):run (jE (.ref n) (.ref m)) G Q E:=
 xZ hn hm hl (h _ (Chg.set _ _ qI_) (by simp) (jy hn))
theorem pH(h:∀G',Chg [] G G'->G'.length=G.length+1->G'[G.length]? =some (.dK [])->Q (.ref G.length) G'):run (pK σ) G Q E:=h _ (Chg.add _ _) (by simp) (cE _ _)
theorem gY(h:∀G',Chg [] G G'->G'.length=G.length+1->G'[G.length]? =some (.lst [])->Q (.ref G.length) G'):run (gc au σ) G Q E:=zw (aM ⟨qf_ _,h _ (Chg.add _ _) (by simp) (cE _ _)⟩)
theorem ny{C:Nat}{g:List D->M D}{a:A3}(h:run (a σ) G (fun ds G1=>∀G2,Chg [] G1 G2->G2.length=G1.length+1->G2[G1.length]? =some (.ins C [])->run (g (.ref G1.length :: ds)) G2 (fun r G3=>r= .non/\Q (.ref G1.length) G3) E) E):run (nH C g a σ) G Q E:=
 Dn (az h (fun ds G1 q=>q _ (Chg.add _ _) (by simp) (cE _ _)) fun _ _ z=>z)
theorem mQ{α:Type}{f:α->D}{p:α->Bool}{g:α->D}{xs:List α}{ck:Hh->Bool}{cond:D->M Bool}{elt:D->M D}(hck:ck G=true)(hz:xs.length<=1000000)
 (hc:∀x∈xs,run (cond (f x)) G (fun c G1=>G1=G/\c=p x) E) (he:∀x∈xs,p x=true->run (elt (f x)) G (fun y G1=>G1=G/\y=g x) E)
 (h:QA ((xs.filter p).map g) G):run (df ck cond elt (xs.map f) []) G QA E:=by
 refine jB (fun i acc G'=>G'=G/\acc=((xs.take i).filter p).map g) ?_ ?_ ?_ (xs.map f) 0 [] G List.drop_zero (qf_ _) ⟨rfl,by simp⟩
 · rintro i acc G' ⟨rfl,_⟩
   exact hck
 · rintro i x acc G' hx ⟨rfl,rfl⟩
   obtain⟨y,hy,rfl⟩:=o8 hx
   have hm:=qD_ hy
   refine az (hc y hm) (fun c G1 ⟨e1,e2⟩=>?_) fun _ _ z=>z
   subst e1 e2
   have e3:((xs.take (i+1)).filter p).map g=((xs.take i).filter p).map g++(if p y=true then [g y]else []):=by
    rw[take_succ hy,List.filter_append,qT_]
    cases q:p y <;> simp [q]
   cases q:p y with
   |true=>
    rw[if_pos rfl]
    refine az (he y hm q) (fun v G2 ⟨e1,e2⟩=>?_) fun _ _ z=>z
    subst e1 e2
    refine⟨?_,rfl,?_⟩
    · have:=List.length_filter_le p (xs.take i)
      simp [aH]
      rw[List.length_take]at this
      omega
    · rw[e3,q];rfl
   |false=>
    rw[if_neg qC_]
    refine⟨rfl,?_⟩
    rw[e3,q];simp
 · rintro acc G' ⟨rfl,rfl⟩
   rw[qM_,List.take_length]
   exact h
theorem sk{t:T3}{body:S3}(P:St->Hh->Nat->Prop)(hs:∀σ G m,P σ G m->run (t σ) G (fun c G1=>if c=true then run (body σ) G1 (fun p G2=>match p.1 with
 | .next=>∃m',m' < m/\P p.2 G2 m'
 | .cont=>∃m',m' < m/\P p.2 G2 m'
 | .brk=>QS (.next,p.2) G2
 | .ret d=>QS (.ret d,p.2) G2) E else QS (.next,σ) G1) E):∀(k:Nat) (σ:St) (G:Hh) (m:Nat),m < k->P σ G m->run (jA t body k σ) G QS E
 |0,_,_,_,h,_=>absurd h (Nat.not_lt_zero _)
 |k+1,σ,G,m,hm,p=>by
  show run (bnd (t σ) fun c=>if c then bnd (body σ) (fun p=>match p.1 with
   | .next=>jA t body k p.2
   | .cont=>jA t body k p.2
   | .brk=>ret (.next,p.2)
   | .ret d=>ret (.ret d,p.2))else ret (.next,σ)) G QS E
  refine aK (az (hs σ G m p) (fun c G1 q=>?_) fun _ _ z=>z)
  cases c with
  |false=>exact q
  |true=>
   refine aK (az q (fun r G2 q2=>?_) fun _ _ z=>z)
   obtain⟨f,σ'⟩:=r
   cases f with
   |next=>obtain⟨m',h1,h2⟩:=q2;exact sk P hs k σ' G2 m' (by omega) h2
   |cont=>obtain⟨m',h1,h2⟩:=q2;exact sk P hs k σ' G2 m' (by omega) h2
   |brk=>exact q2
   |ret d=>exact q2
theorem uE{t:T3}{body:S3}{m:Nat}(P:St->Hh->Nat->Prop)(hs:∀σ G m,P σ G m->run (t σ) G (fun c G1=>if c=true then run (body σ) G1 (fun p G2=>match p.1 with
 | .next=>∃m',m' < m/\P p.2 G2 m'
 | .cont=>∃m',m' < m/\P p.2 G2 m'
 | .brk=>QS (.next,p.2) G2
 | .ret d=>QS (.ret d,p.2) G2) E else QS (.next,σ) G1) E) (hm:m < 1000000000) (h:P σ G m):run (t5 t body σ) G QS E:=sk P hs sM σ G m hm h
end
end KH
namespace KS
open PySem M3 KC KH
abbrev Pr:=(Int×Int)×Int
def pD(p:Pr):D:= .tup [.tup [.int p.1.1,.int p.1.2],.int p.2]
def opD:Option Pr->D
 |none=>.non
 |some p=>pD p
def oD:Option Int->D
 |none=>.non
 |some i=>.int i
theorem o5(o:Option Pr):decide (opD o= .non)=o.isNone:=by cases o <;> rfl
theorem Fm(o:Option Int):decide (oD o= .non)=o.isNone:=by cases o <;> rfl
structure Lt where
 hand:Nat
 kpr:Nat
 num:Int
 pair:Option Pr
def ltD(l:Lt):D:= .tup [.int (l.hand:Int),.int (l.kpr:Int),.int l.num,opD l.pair]
def enD(e:Bool×Lt):D:= .tup [.bl e.1,ltD e.2]
def gtS(a b:Int×Int):Bool:=tY [b.1,b.2] [a.1,a.2]
def better(b p:Pr):Pr:=if gtS p.1 b.1 then p else b
def start:Pr:=((0,0),0)
def xN(ps:List Pr):Pr:=ps.foldl better start
def turns(ps:List Pr):List Int:=ps.map fun p=>p.1.1
def rg(ps:List Pr)(own:Int):Int:=match turns ps++[own]with
 |m :: r=>jR m r
 | []=>0
structure Kr where
 pair:Pr
 up:Bool
def krF(k:Kr):List (Nat×D):=[(4,pD k.pair),(8,.bl k.up)]
structure Hd where
 num:Nat
 cnt:Nat
 atw:Bool
 val:Option Int
 pair:Option Pr
 rnd:Int
 ar:List (Nat×Option Pr)
 own:Int
def hdF(h:Hd)(d:Nat):List (Nat×D):=[(0,.int (h.num:Int)),(1,.int (h.cnt:Int)),(2,.bl h.atw),(3,oD h.val),(4,opD h.pair),(5,.int h.rnd),(6,.ref d),(7,.int h.own)]
def eV(l:List (Nat×Option Pr)):List (Key×D):=l.map fun e=>(.inl (e.1:Int),opD e.2)
def jo(G:Hh)(a:Nat)(k:Kr):Prop:=G[a]? =some (.ins 1 (krF k))
def gq(G:Hh)(a d:Nat)(h:Hd):Prop:=G[a]? =some (.ins 0 (hdF h d))/\G[d]? =some (.dK (eV h.ar))
section
variable{G:Hh}{Q:D->Hh->Prop}{E:Nat->Hh->Prop}
theorem xT{c m:Int}(h:Q (.bl (decide (c < m*2))) G):run (kL [.int c,.int m]) G Q E:=by
 walk_at "f"
 unfold rL
 walk_at "r"
 exact h
theorem zI{l:Nat}{ps:List Pr}(hl:G[l]? =some (.lst (ps.map pD)))(h:Q (pD (xN ps)) G):run (mL [.ref l]) G Q E:=by
 walk_at "f"
 unfold vt
 walk_at "r"
 refine oa hl ?_
 refine zO (fun i σ G'=>G'=G/\∃x,σ=[some (.ref l),some (pD ((ps.take i).foldl better start)),x]) ?_ ?_ ?_ ⟨rfl,none,rfl⟩
 · rintro i σ G' ⟨rfl,_⟩
   exact qZ_ hl
 · rintro i p σ G' hp ⟨rfl,y,rfl⟩
   unfold pD
   walk_at "r"
   have key:(ps.take (i+1)).foldl better start=better ((ps.take i).foldl better start) p:=by rw[take_succ hp,List.foldl_append];rfl
   refine w_ite (fun c=>?_) fun c=>?_
   · walk_at "r"
     refine⟨rfl,some (pD p),?_⟩
     have:(ps.take (i+1)).foldl better start=p:=by rw[key,better,if_pos (show gtS p.1 _=true from c)]
     rw[this];rfl
   · walk_at "r"
     refine⟨rfl,some (pD p),?_⟩
     have:(ps.take (i+1)).foldl better start=(ps.take i).foldl better start:=by rw[key,better,if_neg (by rw[show gtS p.1 _=false from c];exact qC_)]
     rw[this];rfl
 · rintro σ G' ⟨rfl,y,rfl⟩
   walk_at "r"
   rw[List.take_length]
   exact h
theorem qO{l:Nat}{ps:List Pr}{own hand:Int}(hl:G[l]? =some (.lst (ps.map pD)))(hz:ps.length<=1000)(h:∀G',Ext G G'->Q (.tup [.int (rg ps own+1),.int hand]) G'):run (gy [.ref l,.int own,.int hand]) G Q E:=by
 walk_at "f"
 unfold lH
 walk_at "r"
 refine oa hl ?_
 refine mQ (p:=fun _=>true) (g:=fun p:Pr=>D.int p.1.1) (qZ_ hl) (by omega) (fun x _=>lP ⟨rfl,rfl⟩) (fun x _ _=>?_) ?_
 · unfold pD
   walk_at "r"
   exact⟨rfl,rfl⟩
 have e1:(ps.filter fun _=>true).map (fun p:Pr=>D.int p.1.1)=(turns ps).map D.int:=by
  rw[List.filter_eq_self.mpr (fun _ _=>rfl)]
  unfold turns
  rw[qb_]
  rfl
 rw[e1]
 walk_at "r"
 have tl:(turns ps).length=ps.length:=by unfold turns;rw[qM_]
 refine D3 ((Ext.add _ _).get (cE G _)) (cE _ _) (by rw[qM_,tl];simp [aH];omega) ?_
 walk_at "r"
 have e2:intsOf ((turns ps).map D.int++[.int own])=some (turns ps++[own]):=by
  induction turns ps with
  |nil=>rfl
  |cons a r ih=>show Option.map _ (intsOf (r.map D.int++[.int own]))=_;rw[ih];rfl
 cases q:turns ps++[own]with
 |nil=>simp at q
 |cons m r=>
  rw[q]at e2
  refine Dx (cE _ _) e2 ?_
  walk_at "r"
  have e3:rg ps own=jR m r:=by unfold rg;rw[q]
  rw[<-e3]
  exact h _ (((Ext.add _ _).trans (Ext.add _ _)).trans (Ext.add _ _))
variable{a d:Nat}{k:Kr}{h:Hd}
theorem EV{Q:D->Hh->Prop}(hk:jo G a k)(hq:∀G',Chg [a] G G'->jo G' a {k with up:=false}->Q (.bl k.up) G'):run (gA [.ref a]) G Q E:=by
 unfold jo krF at hk
 walk_at "f"
 unfold lR
 walk_at "r"
 refine aT hk ⟨by decide,qP_ rfl⟩ fun G' hc hl hn=>?_
 walk_at "r"
 exact hq G' hc hn
theorem DK{Q:D->Hh->Prop}(hk:jo G a k)(hq:∀G',Chg [a] G G'->jo G' a {k with up:=true}->Q (.bl (!k.up)) G'):run (gs [.ref a]) G Q E:=by
 unfold jo krF at hk
 walk_at "f"
 unfold lW
 walk_at "r"
 refine aT hk ⟨by decide,qP_ rfl⟩ fun G' hc hl hn=>?_
 walk_at "r"
 exact hq G' hc hn
def ef(k:Kr)(p:Pr):Kr:=if gtS p.1 k.pair.1 then {k with pair:=p} else k
theorem Dp{Q:D->Hh->Prop}{p:Pr}(hk:jo G a k)(hq:∀G',Chg [a] G G'->jo G' a (ef k p)->Q .non G'):run (gw [.ref a,pD p]) G Q E:=by
 unfold jo krF at hk
 walk_at "f"
 unfold lI pD
 walk_at "r"
 unfold ef at hq
 refine w_ite (fun c=>?_) fun c=>?_
 · rw[if_pos (show gtS p.1 k.pair.1=true from c)]at hq
   walk_at "r"
   refine aT hk ⟨by decide,qP_ rfl⟩ fun G' hc hl hn=>?_
   walk_at "r"
   exact hq G' hc hn
 · rw[if_neg (by rw[show gtS p.1 k.pair.1=false from c];exact qC_)]at hq
   walk_at "r"
   exact hq G (Chg.refl _ _) hk
def aX(k:Kr)(l:Lt):Kr×Option Lt:=
 if k.up then (match l.pair with
  |none=>(k,some {l with pair:=some k.pair})
  |some p=>(ef k p,some {l with pair:=none}))else (k,none)
def Hn:Option Lt->D
 |none=>.non
 |some l=>ltD l
theorem uX{Q:D->Hh->Prop}{l:Lt}(hk:jo G a k)(hq:∀G',Chg [a] G G'->jo G' a (aX k l).1->Q (Hn (aX k l).2) G'):run (d0 [.ref a,ltD l]) G Q E:=by
 have hk0:=hk
 unfold jo krF at hk
 walk_at "f"
 unfold ia ltD
 unfold aX at hq
 walk_at "r"
 cases up:k.up with
 |false=>
  rw[up]at hq
  walk_at "r"
  exact hq G (Chg.refl _ _) hk0
 |true=>
  rw[up]at hq
  walk_at "r"
  rw[o5]
  cases lp:l.pair with
  |none=>
   rw[lp]at hq
   refine mq ?_
   walk_at "r"
   refine aJ (a:=D.tup [.int (l.hand:Int),.int (l.kpr:Int),.int l.num]) (G':=G) rfl ?_
   walk_at "r"
   refine aJ (a:=D.tup [.int (l.hand:Int),.int (l.kpr:Int),.int l.num,pD k.pair]) (G':=G) rfl ?_
   walk_at "r"
   exact hq G (Chg.refl _ _) hk0
  |some p=>
   rw[lp]at hq
   refine nW ?_
   walk_at "r"
   refine Dp hk0 fun G' hc hn=>?_
   walk_at "r"
   refine aJ (a:=D.tup [.int (l.hand:Int),.int (l.kpr:Int),.int l.num]) (G':=G') rfl ?_
   walk_at "r"
   refine aJ (a:=D.tup [.int (l.hand:Int),.int (l.kpr:Int),.int l.num,.non]) (G':=G') rfl ?_
   walk_at "r"
   exact hq G' hc hn
end
section
variable{G:Hh}{Q:D->Hh->Prop}{E:Nat->Hh->Prop}{a d:Nat}{h:Hd}
def kh(i c:Nat):Hd:=⟨i,c,false,none,none,0,[],0⟩
theorem uR{i c:Nat}(ha:G[a]? =some (.ins 0 []))(hq:∀G' d,Chg [a] G G'->G.length<=d->gq G' a d (kh i c)->Q .non G'):run (iS [.ref a,.int (i:Int),.int (c:Int)]) G Q E:=by
 walk_at "f"
 unfold oz
 walk_at "r"
 refine aT ha ⟨by decide,qP_ rfl⟩ fun G1 c1 l1 h1=>?_
 walk_at "r"
 refine aT h1 ⟨by decide,qP_ rfl⟩ fun G2 c2 l2 h2=>?_
 walk_at "r"
 refine aT h2 ⟨by decide,qP_ rfl⟩ fun G3 c3 l3 h3=>?_
 walk_at "r"
 refine aT h3 ⟨by decide,qP_ rfl⟩ fun G4 c4 l4 h4=>?_
 walk_at "r"
 refine aT h4 ⟨by decide,qP_ rfl⟩ fun G5 c5 l5 h5=>?_
 walk_at "r"
 refine aT h5 ⟨by decide,qP_ rfl⟩ fun G6 c6 l6 h6=>?_
 refine w_next ?_
 refine aR (gr (pH fun G7 c7 l7 h7=>w_var rfl ?_))
 have h6':=c7.get h6 (by simp)
 refine aT h6' ⟨by decide,qP_ rfl⟩ fun G8 c8 l8 h8=>?_
 have hd8:=c8.get h7 (by have:=aG h6;simp;omega)
 walk_at "r"
 refine aT h8 ⟨by decide,qP_ rfl⟩ fun G9 c9 l9 h9=>?_
 walk_at "r"
 have hd9:=c9.get hd8 (by have:=aG h6;simp;omega)
 have cc:Chg [a] G G9:=(((((c1.trans c2).trans c3).trans c4).trans c5).trans c6).trans (((c7.mono (by simp)).trans c8).trans c9)
 exact hq G9 G6.length cc (by omega) ⟨h9,hd9⟩
def nA(h:Hd):List Nat:=(List.range h.cnt).filter fun k=>!decide (k∈h.ar.map (·.1))
def bz(h:Hd):List Lt:=(nA h).map fun k=>⟨h.num,k,h.rnd,h.pair⟩
theorem wy(l:List (Nat×Option Pr))(k:Nat):((look (eV l) (.inl (k:Int))).isSome)=decide (k∈l.map (·.1)):=by
 rw[uP]
 refine decide_eq_decide.mpr ⟨fun z=>?_,fun z=>?_⟩
 · unfold eV at z
   rw[qb_]at z
   obtain⟨e,he,ee⟩:=qH_.mp z
   have:(e.1:Int)=(k:Int):=Sum.inl.inj ee
   exact qH_.mpr ⟨e,he,by omega⟩
 · unfold eV
   rw[qb_]
   obtain⟨e,he,ee⟩:=qH_.mp z
   exact qH_.mpr ⟨e,he,by show Sum.inl (e.1:Int)=Sum.inl (k:Int);rw[ee]⟩
theorem Gg(n:Nat):rng 0 n=(List.range n).map fun(k:Nat)=>D.int (k:Int):=by
 unfold rng
 congr 1
 funext k
 rw[Int.zero_add]
theorem kE(h:Hd):(nA h).length<=h.cnt:=by
 unfold nA
 have:=List.length_filter_le (fun k=>!decide (k∈h.ar.map (·.1))) (List.range h.cnt)
 rw[List.length_range]at this
 exact this
theorem se(ha:gq G a d h)(hz:h.cnt<=1000)(hq:∀l G',Ext G G'->G.length<=l->G'[l]? =some (.lst ((bz h).map ltD))->Q (.ref l) G'):run (dR [.ref a]) G Q E:=by
 obtain⟨ha,hd⟩:=ha
 unfold hdF at ha
 walk_at "f"
 unfold km
 walk_at "r"
 with_reducible refine M3.kC (by omega) ?_
 rw[Gg]
 refine mQ (p:=fun k:Nat=>!decide (k∈h.ar.map (·.1))) (g:=fun k:Nat=>D.int (k:Int)) rfl (by simp;omega) (fun x _=>?_) (fun x _ _=>w_var rfl ⟨rfl,rfl⟩) ?_
 · refine mV (bo (w_var rfl (w_fld (w_var rfl (bN ha (by decide) rfl ?_)))))
   refine Cz (b:=decide (x∈h.ar.map (·.1))) ?_ ?_
   · unfold inG
     dsimp only
     rw[hd]
     show some (look (eV h.ar) (.inl (x:Int))).isSome=_
     rw[wy]
   exact⟨rfl,rfl⟩
 have e0:((List.range h.cnt).filter fun k:Nat=>!decide (k∈h.ar.map (·.1)))=nA h:=rfl
 rw[e0]
 refine w_next ?_
 walk_at "s"
 have ha1:=(Ext.add G (.lst ((nA h).map fun k:Nat=>D.int (k:Int)))).get ha
 refine cU (td (wY (w_var rfl (oa (cE _ _) ?_))))
 have hw:=kE h
 refine mQ (p:=fun _:Nat=>true) (g:=fun k:Nat=>ltD ⟨h.num,k,h.rnd,h.pair⟩) (qZ_ (cE _ _)) (by omega) (fun x _=>lP ⟨rfl,rfl⟩) (fun x _ _=>?_) ?_
 · walk_at "r"
   exact⟨rfl,rfl⟩
 rw[List.filter_eq_self.mpr (fun _ _=>rfl)]
 walk_at "r"
 refine hq _ _ ((Ext.add _ _).trans (Ext.add _ _)) (by simp) ?_
 rw[cE]
 unfold bz
 rw[qb_]
 rfl
def roundF(h:Hd)(p:Option Pr):Hd:={h with rnd:=h.rnd+1,pair:=p,ar:=[]}
theorem lT{p:Option Pr}(ha:gq G a d h)(hz:h.cnt<=1000)(hq:∀l d' G',Chg [a] G G'->G.length<=d'->G.length<=l->gq G' a d' (roundF h p)->G'[l]? =some (.lst ((bz (roundF h p)).map ltD))->Q (.ref l) G'):run (cp [.ref a,opD p]) G Q E:=by
 obtain⟨ha,hd⟩:=ha
 unfold hdF at ha
 walk_at "f"
 unfold ik
 walk_at "r"
 refine aT ha ⟨by decide,qP_ rfl⟩ fun G1 c1 l1 h1=>?_
 walk_at "r"
 refine aT h1 ⟨by decide,qP_ rfl⟩ fun G2 c2 l2 h2=>?_
 refine w_next ?_
 refine aR (gr (pH fun G3 c3 l3 h3=>w_var rfl ?_))
 have h2':=c3.get h2 (by simp)
 refine aT h2' ⟨by decide,qP_ rfl⟩ fun G4 c4 l4 h4=>?_
 have hd4:=c4.get h3 (by have:=aG h2;simp;omega)
 refine w_next ?_
 refine cU (bK (w_var rfl (cX h4 (aM ?_))))
 refine se (h:=roundF h p) (d:=G2.length) ⟨h4,hd4⟩ hz fun l G5 x5 l5 h5=>?_
 walk_at "r"
 have cc:Chg [a] G G4:=(c1.trans c2).trans ((c3.mono (by simp)).trans c4)
 exact hq l G2.length G5 (cc.trans x5.chg) (by omega) (by omega) ⟨x5.get h4,x5.get hd4⟩ h5
def bD(h:Hd)(v:Option Int):Hd:=roundF {h with atw:=true,val:=v} none
theorem xy{v:Option Int}(ha:gq G a d h)(hz:h.cnt<=1000)(hb:h.atw=true->E 1004 G)(hq:h.atw=false->∀l d' G',Chg [a] G G'->G.length<=d'->G.length<=l->gq G' a d' (bD h v)->G'[l]? =some (.lst ((bz (bD h v)).map ltD))->Q (.ref l) G'):run (e9 [.ref a,oD v]) G Q E:=by
 have ha0:=ha
 obtain⟨ha,hd⟩:=ha
 unfold hdF at ha
 walk_at "f"
 unfold mP
 walk_at "r"
 cases q:h.atw with
 |true=>
  walk_at "r"
  exact hb q
 |false=>
  walk_at "r"
  rw[q]at ha
  refine aT ha ⟨by decide,qP_ rfl⟩ fun G1 c1 l1 h1=>?_
  walk_at "r"
  refine aT h1 ⟨by decide,qP_ rfl⟩ fun G2 c2 l2 h2=>?_
  refine w_next ?_
  refine cU (bK (w_var rfl (cX h2 (ax (w_c (aM ?_))))))
  have hne:d≠a:=by rintro rfl;rw[ha]at hd;cases hd
  refine lT (p:=none) (h:={h with atw:=true,val:=v}) (d:=d) ⟨h2,c2.get (c1.get hd (by simpa using hne)) (by simpa using hne)⟩ hz fun l d' G3 c3 l3 l4 h3 h4=>?_
  walk_at "r"
  exact hq q l d' G3 ((c1.trans c2).trans c3) (by omega) (by omega) h3 h4
theorem qZ{v:Int}(ha:gq G a d h)(hz:h.cnt<=1000)(hb:h.atw=true->E 1004 G)(hq:h.atw=false->∀l d' G',Chg [a] G G'->G.length<=d'->G.length<=l->gq G' a d' (bD h (some v))->G'[l]? =some (.lst ((bz (bD h (some v))).map ltD))->Q (.ref l) G'):run (ed [.ref a,.int v]) G Q E:=by
 have ha0:=ha.1
 unfold hdF at ha0
 walk_at "f"
 unfold ie
 walk_at "r"
 refine xy (v:=some v) ha hz hb fun q l d' G' c l1 l2 h1 h2=>?_
 walk_at "r"
 exact hq q l d' G' c l1 l2 h1 h2
theorem tD(ha:gq G a d h)(hz:h.cnt<=1000)(hb:h.atw=true->E 1004 G)(hq:h.atw=false->∀l d' G',Chg [a] G G'->G.length<=d'->G.length<=l->gq G' a d' (bD h none)->G'[l]? =some (.lst ((bz (bD h none)).map ltD))->Q (.ref l) G'):run (eM [.ref a]) G Q E:=by
 have ha0:=ha.1
 unfold hdF at ha0
 walk_at "f"
 unfold iZ
 walk_at "r"
 refine xy (v:=none) ha hz hb fun q l d' G' c l1 l2 h1 h2=>?_
 walk_at "r"
 exact hq q l d' G' c l1 l2 h1 h2
theorem lV(ha:gq G a d h)(hb:h.atw=false->E 1005 G)(hq:h.atw=true->Q .non G):run (cu [.ref a]) G Q E:=by
 obtain⟨ha,hd⟩:=ha
 unfold hdF at ha
 walk_at "f"
 unfold iB
 walk_at "r"
 cases q:h.atw with
 |true=>walk_at "r"
        exact hq q
 |false=>walk_at "r"
         exact hb q
theorem tZ(ha:gq G a d h)(hz:h.cnt<=1000)(hb:h.atw=false->E 1005 G)(hq:h.atw=true->∀l G',Ext G G'->G.length<=l->G'[l]? =some (.lst ((bz h).map ltD))->Q (.ref l) G'):run (eK [.ref a]) G Q E:=by
 have ha0:=ha.1
 unfold hdF at ha0
 walk_at "f"
 unfold iL
 walk_at "r"
 refine lV ha hb fun q=>?_
 walk_at "r"
 refine se ha hz fun l G' x l1 h1=>?_
 walk_at "r"
 exact hq q l G' x l1 h1
theorem yP(ha:gq G a d h)(hb:h.atw=false->E 1005 G)(hq:h.atw=true->∀G',Chg [a] G G'->gq G' a d {h with atw:=false}->Q .non G'):run (fS [.ref a]) G Q E:=by
 have ha0:=ha.1
 unfold hdF at ha0
 have hne:d≠a:=by rintro rfl;have:=ha.2;rw[ha0]at this;cases this
 walk_at "f"
 unfold kB
 walk_at "r"
 refine lV ha hb fun q=>?_
 walk_at "r"
 refine aT ha0 ⟨by decide,qP_ rfl⟩ fun G1 c1 l1 h1=>?_
 walk_at "r"
 exact hq q G1 c1 ⟨h1,c1.get ha.2 (by simpa using hne)⟩
def bJ(h:Hd)(ps:List Pr):Hd×Pr:=match h.val with
 |none=>(h,xN ps)
 |some v=>({h with own:=rg ps h.own+1},((rg ps h.own+1,(h.num:Int)),v))
theorem zN{ps:List Pr}(ha:gq G a d h)(hp:h.ar.map (·.2)=ps.map some)(hz:ps.length<=1000)(hq:∀G',Chg [a] G G'->gq G' a d (bJ h ps).1->Q (pD (bJ h ps).2) G'):run (gv [.ref a]) G Q E:=by
 obtain⟨ha,hd⟩:=ha
 unfold hdF at ha
 have hne:d≠a:=by rintro rfl;rw[ha]at hd;cases hd
 unfold bJ at hq
 walk_at "f"
 unfold lJ
 walk_at "r"
 refine BH hd ?_
 have e1:(eV h.ar).map (·.2)=ps.map pD:=by
  have:(h.ar.map (·.2)).map opD=(ps.map some).map opD:=by rw[hp]
  rw[qb_,qb_]at this
  unfold eV
  rw[qb_]
  exact this
 rw[e1]
 have x1:Ext G (G++[O.lst (ps.map pD)]):=Ext.add _ _
 have ha1:=x1.get ha
 have hd1:=x1.get hd
 have hl1:(G++[O.lst (ps.map pD)])[G.length]? =some (.lst (ps.map pD)):=cE _ _
 generalize G++[O.lst (ps.map pD)]=G1 at x1 ha1 hd1 hl1
 generalize G.length=ll at hl1
 walk_at "r"
 rw[Fm]
 cases hv:h.val with
 |none=>
  rw[hv]at hq
  refine mq ?_
  walk_at "r"
  refine zI hl1 ?_
  walk_at "r"
  exact hq G1 x1.chg ⟨ha1,hd1⟩
 |some v=>
  rw[hv]at hq
  refine nW ?_
  walk_at "r"
  refine qO hl1 hz fun G2 x2=>?_
  have ha2:=x2.get ha1
  walk_at "r"
  refine aT ha2 ⟨by decide,qP_ rfl⟩ fun G3 c3 l3 h3=>?_
  have hd3:=c3.get (x2.get hd1) (by simpa using hne)
  rw[hv]at h3
  walk_at "r"
  exact hq G3 ((x1.trans x2).chg.trans c3) ⟨h3,hd3⟩
def bi(l:List (Nat×Option Pr))(k:Nat)(p:Option Pr):List (Nat×Option Pr):=
 if (l.any fun e=>decide (e.1=k))then l.map fun e=>if e.1=k then (e.1,p)else e else l++[(k,p)]
theorem DF(l:List (Nat×Option Pr))(k:Nat)(p:Option Pr):put (eV l) (.inl (k:Int)) (opD p)=eV (bi l k p):=by
 have key:∀e:Nat×Option Pr,decide ((Sum.inl (e.1:Int):Key)= .inl (k:Int))=decide (e.1=k):=fun e=>decide_eq_decide.mpr ⟨fun z=>by have:=Sum.inl.inj z;omega,fun z=>by rw[z]⟩
 unfold put bi
 have e1:((eV l).any fun kv=>decide (kv.1=(.inl (k:Int):Key)))=l.any fun e=>decide (e.1=k):=by
  unfold eV
  rw[List.any_map]
  congr 1
  funext e
  exact key e
 rw[e1]
 by_cases c:(l.any fun e=>decide (e.1=k))=true
 · rw[if_pos c,if_pos c]
   unfold eV
   rw[qb_,qb_]
   apply List.map_congr_left
   intro e _
   by_cases z:e.1=k
   · have z':(Sum.inl (e.1:Int):Key)= .inl (k:Int):=by rw[z]
     show (if (Sum.inl (e.1:Int):Key)= .inl (k:Int)then ((Sum.inl (e.1:Int):Key),opD p)else (Sum.inl (e.1:Int),opD e.2))=(Sum.inl ((if e.1=k then (e.1,p)else e).1:Int),opD (if e.1=k then (e.1,p)else e).2)
     rw[if_pos z',if_pos z]
   · have z':¬(Sum.inl (e.1:Int):Key)= .inl (k:Int):=fun w=>z (by have:=Sum.inl.inj w;omega)
     show (if (Sum.inl (e.1:Int):Key)= .inl (k:Int)then ((Sum.inl (e.1:Int):Key),opD p)else (Sum.inl (e.1:Int),opD e.2))=(Sum.inl ((if e.1=k then (e.1,p)else e).1:Int),opD (if e.1=k then (e.1,p)else e).2)
     rw[if_neg z',if_neg z]
 · rw[if_neg c,if_neg c]
   unfold eV
   rw[qT_]
   rfl
def vals(l:List (Nat×Option Pr)):List Pr:=l.filterMap (·.2)
theorem BQ{l:List (Nat×Option Pr)}(hl:∀e∈l,e.2.isSome=true):l.map (·.2)=(vals l).map some:=by
 induction l with
 |nil=>rfl
 |cons e r ih=>
  have h1:=hl e qI_
  obtain⟨p,hp⟩:=Option.isSome_iff_exists.mp h1
  unfold vals at*
  rw[List.filterMap_cons,hp]
  simp only[List.map_cons,hp]
  rw[ih fun x hx=>hl x (qR_ _ hx)]
theorem yV(l:List (Nat×Option Pr)):(vals l).length<=l.length:=List.length_filterMap_le _ _
def bH(h:Hd)(l:Lt):Hd×List Lt×Option Pr:=
 if (!h.atw||!decide (l.num=h.rnd))=true then (h,[],none)
 else
  let h1:Hd:={h with ar:=bi h.ar l.kpr l.pair}
  if (!decide (h.cnt < h1.ar.length*2))=true then (h1,[],none)
  else match h.pair with
   |none=>let c:=bJ h1 (vals h1.ar);(roundF c.1 (some c.2),bz (roundF c.1 (some c.2)),none)
   |some p=>({h1 with atw:=false},[],some p)
theorem ib(h:Hd)(ps:List Pr):(bJ h ps).1.cnt=h.cnt:=by unfold bJ;cases h.val <;> rfl
theorem D1{l:Lt}(ha:gq G a d h)(hz:h.cnt<=1000)(hz2:(bi h.ar l.kpr l.pair).length<=1000)(hok:h.atw=true->l.num=h.rnd->h.pair=none->∀e∈bi h.ar l.kpr l.pair,e.2.isSome=true)
 (hq:∀ll d' G',Chg [a,d] G G'->(d'=d\/G.length<=d')->G.length<=ll->gq G' a d' (bH h l).1->G'[ll]? =some (.lst ((bH h l).2.1.map ltD))->Q (.tup [.ref ll,opD (bH h l).2.2]) G'):run (iN [.ref a,ltD l]) G Q E:=by
 have ha0:=ha
 obtain⟨ha,hd⟩:=ha
 unfold hdF at ha
 have hne:d≠a:=by rintro rfl;rw[ha]at hd;cases hd
 have nothing:run (ba (fy (ah (gc au) (ah (eC .non) au))) [some (.ref a),some (ltD l)]) G (fun p G1=>p.1= .ret (.tup [.ref G.length,.non])/\Chg [] G G1/\G1[G.length]? =some (.lst [])) E:=by
  refine cU (xD (ax (gY fun G1 c1 l1 h1=>ax (w_c (aM ⟨qP_ (by with_unfolding_all rfl),rfl,c1,h1⟩)))))
 unfold bH at hq
 walk_at "f"
 unfold om
 refine aR (fO (rA (iz (iI (w_fld (w_var rfl (bN ha (by decide) rfl (iD ?_))))))))
 have stop:(!h.atw||!decide (l.num=h.rnd))=true->∀p G1,(p:Fl×St).1= .ret (.tup [.ref G.length,.non])/\Chg [] G G1/\G1[G.length]? =some (.lst [])->Q (.tup [.ref G.length,.non]) G1:=fun c p G1 ⟨_,c1,h1⟩=>by
  rw[if_pos c]at hq
  exact hq G.length d G1 (c1.mono (by simp)) (.inl rfl) (qO_ _) ⟨c1.get ha (by simp),c1.get hd (by simp)⟩ h1
 cases qa:h.atw with
 |false=>
  refine oX ?_
  refine lP ?_
  refine mq ?_
  refine az nothing (fun p G1 q=>?_) fun _ _ z=>z
  have qq:=stop (by rw[qa];rfl) p G1 q
  obtain⟨f,σ⟩:=p
  cases (show f= .ret (.tup [.ref G.length,.non])from q.1)
  walk_at "r"
  exact qq
 |true=>
  refine pb ?_
  unfold ltD
  walk_at "r"
  refine rf eq_int ?_
  walk_at "r"
  refine w_ite (fun c=>?_) fun c=>?_
  · refine az nothing (fun p G1 q=>?_) fun _ _ z=>z
    have qq:=stop (by rw[qa];simpa using c) p G1 q
    obtain⟨f,σ⟩:=p
    cases (show f= .ret (.tup [.ref G.length,.non])from q.1)
    walk_at "r"
    exact qq
  have hnum:l.num=h.rnd:=by simpa using c
  have hc0:¬(!h.atw||!decide (l.num=h.rnd))=true:=by rw[qa,hnum];simp
  rw[if_neg hc0]at hq
  walk_at "r"
  have hzl:(eV h.ar).length < aH:=by
   have:h.ar.length<=(bi h.ar l.kpr l.pair).length:=by
    unfold bi
    split <;> simp
   unfold eV
   rw[qM_]
   unfold aH
   omega
  refine xK hd rfl hzl fun G1 c1 l1 h1=>?_
  rw[DF]at h1
  have ha1:=c1.get ha (by simpa using Ne.symm hne)
  have c1':Chg [a,d] G G1:=c1.mono (by simp)
  walk_at "r"
  refine DC h1 ?_
  have e2:(eV (bi h.ar l.kpr l.pair)).length=(bi h.ar l.kpr l.pair).length:=by unfold eV;rw[qM_]
  rw[e2]
  walk_at "r"
  with_reducible refine xT ?_
  have e3:decide ((h.cnt:Int) < ((bi h.ar l.kpr l.pair).length:Int)*2)=decide (h.cnt < (bi h.ar l.kpr l.pair).length*2):=decide_eq_decide.mpr (by omega)
  rw[e3]
  walk_at "r"
  dsimp only at hq
  cases qm:decide (h.cnt < (bi h.ar l.kpr l.pair).length*2)with
  |false=>
   rw[qm]at hq
   rw[if_pos (show (!false)=true from rfl)]at hq
   walk_at "r"
   have c2:Chg [] G1 (G1++[O.lst []]):=Chg.add _ _
   exact hq G1.length d (G1++[O.lst []]) (c1'.trans (c2.mono (by simp))) (.inl rfl) (Nat.le_of_eq l1.symm) ⟨c2.get ha1 (by simp),c2.get h1 (by simp)⟩ (cE _ _)
  |true=>
   rw[qm]at hq
   rw[if_neg (show ¬(!true)=true from qC_)]at hq
   walk_at "r"
   rw[o5]
   cases qp:h.pair with
   |none=>
    rw[qp]at hq
    refine mq ?_
    dsimp only at hq
    have hv:=BQ (hok qa hnum qp)
    have hvl:=yV (bi h.ar l.kpr l.pair)
    walk_at "r"
    have hat1:gq G1 a d {h with ar:=bi h.ar l.kpr l.pair,pair:=none}:=⟨by rw[qp]at ha1;exact ha1,h1⟩
    refine zN hat1 hv (by omega) fun G2 c2 h2=>?_
    have hcn:=ib {h with ar:=bi h.ar l.kpr l.pair,pair:=none} (vals (bi h.ar l.kpr l.pair))
    generalize bJ {h with ar:=bi h.ar l.kpr l.pair,pair:=none} (vals (bi h.ar l.kpr l.pair))=ch at hq h2 hcn
    walk_at "r"
    refine lT (p:=some ch.2) h2 (by rw[hcn];exact hz) fun ll d' G3 c3 l3 l4 h3 h4=>?_
    walk_at "r"
    have g2:=c2.1
    exact hq ll d' G3 ((c1'.trans (c2.mono (by simp))).trans (c3.mono (by simp))) (.inr (by omega)) (by omega) h3 h4
   |some p=>
    rw[qp]at hq
    refine nW ?_
    walk_at "r"
    refine aT ha1 ⟨by decide,qP_ rfl⟩ fun G2 c2 l2 h2=>?_
    have hd2:=c2.get h1 (by simpa using hne)
    refine w_next ?_
    refine cU (xD (ax (gY fun G3 c3 l3 h3=>?_)))
    have h23:=c3.get h2 (by simp)
    have hd3:=c3.get hd2 (by simp)
    refine ax (w_fld (w_var rfl (bN h23 (by decide) rfl (aM ⟨qP_ (by with_unfolding_all rfl),?_⟩))))
    walk_at "r"
    rw[qp]
    refine hq G2.length d G3 ((c1'.trans (c2.mono (by simp))).trans (c3.mono (by simp))) (.inl rfl) (by omega) ⟨?_,hd3⟩ h3
    rw[qp]at h23
    exact h23
end
structure Hl where
 ks:List Kr
 hs:List Hd
 row:List (Bool×Lt)
structure Ad where
 a:Nat
 lk:Nat
 lh:Nat
 lr:Nat
 ka:List Nat
 ha:List Nat
 da:List Nat
def Ad.foot(A:Ad):List Nat:=[A.a,A.lk,A.lh,A.lr]++(A.ka++(A.ha++A.da))
def refs(xs:List Nat):List D:=xs.map D.ref
structure bI (G:Hh) (A:Ad) (st:Hl):Prop where
 o:G[A.a]? =some (.ins 2 [(9,.ref A.lk),(10,.ref A.lh),(11,.ref A.lr)])
 k:G[A.lk]? =some (.lst (refs A.ka))
 h:G[A.lh]? =some (.lst (refs A.ha))
 r:G[A.lr]? =some (.lst (st.row.map enD))
 kl:A.ka.length=st.ks.length
 hl:A.ha.length=st.hs.length
 dl:A.da.length=st.hs.length
 kr:∀(i:Nat) a k,A.ka[i]? =some a->st.ks[i]? =some k->jo G a k
 hd:∀(i:Nat) a d h,A.ha[i]? =some a->A.da[i]? =some d->st.hs[i]? =some h->gq G a d h
 nd:A.foot.Nodup
section
variable{G G':Hh}{Q:D->Hh->Prop}{E:Nat->Hh->Prop}{A:Ad}{st:Hl}
theorem bI.lt(H:bI G A st):∀n∈A.foot,n < G.length:=by
 intro n hn
 unfold Ad.foot at hn
 rcases qG_.mp hn with z |z
 · simp only[qS_,List.not_mem_nil,or_false]at z
   rcases z with rfl |rfl |rfl |rfl
   · exact aG H.o
   · exact aG H.k
   · exact aG H.h
   · exact aG H.r
 · rcases qG_.mp z with z |z
   · obtain⟨i,hi,e⟩:=List.getElem_of_mem z
     have h1:A.ka[i]? =some n:=by rw[qA_ hi,e]
     have h2:i < st.ks.length:=by rw[<-H.kl];exact hi
     exact aG (H.kr i n _ h1 (qA_ h2))
   · have lens:=H.dl.trans H.hl.symm
     rcases qG_.mp z with z |z
     · obtain⟨i,hi,e⟩:=List.getElem_of_mem z
       have h1:A.ha[i]? =some n:=by rw[qA_ hi,e]
       have h2:i < st.hs.length:=by rw[<-H.hl];exact hi
       have h3:i < A.da.length:=by rw[H.dl];exact h2
       exact aG (H.hd i n _ _ h1 (qA_ h3) (qA_ h2)).1
     · obtain⟨i,hi,e⟩:=List.getElem_of_mem z
       have h1:A.da[i]? =some n:=by rw[qA_ hi,e]
       have h2:i < st.hs.length:=by rw[<-H.dl];exact hi
       have h3:i < A.ha.length:=by rw[H.hl];exact h2
       exact aG (H.hd i _ n _ (qA_ h3) h1 (qA_ h2)).2
theorem gq.chg{S:List Nat}{a d:Nat}{h:Hd}(x:gq G a d h)(c:Chg S G G')(h1:a∉S)(h2:d∉S):gq G' a d h:=⟨c.get x.1 h1,c.get x.2 h2⟩
theorem xa{i a:Nat}(h:A.ka[i]? =some a):a∈A.foot:=by unfold Ad.foot;simp [qD_ h]
theorem vc{i a:Nat}(h:A.ha[i]? =some a):a∈A.foot:=by unfold Ad.foot;simp [qD_ h]
theorem xf{i a:Nat}(h:A.da[i]? =some a):a∈A.foot:=by unfold Ad.foot;simp [qD_ h]
theorem bI.frame{S:List Nat}(H:bI G A st)(c:Chg S G G')(hs:∀n∈S,n∉A.foot):bI G' A st:=by
 have ns:∀n∈A.foot,n∉S:=fun n h z=>hs n z h
 exact⟨c.get H.o (ns _ (by simp [Ad.foot])),c.get H.k (ns _ (by simp [Ad.foot])),c.get H.h (ns _ (by simp [Ad.foot])),c.get H.r (ns _ (by simp [Ad.foot])),H.kl,H.hl,H.dl,
  fun i a k h1 h2=>c.get (H.kr i a k h1 h2) (ns _ (xa h1)),fun i a d h h1 h2 h3=>(H.hd i a d h h1 h2 h3).chg c (ns _ (vc h1)) (ns _ (xf h2)),H.nd⟩
theorem pe(nd:A.foot.Nodup):(A.a≠A.lk/\A.a≠A.lh/\A.a≠A.lr/\A.lk≠A.lh/\A.lk≠A.lr/\A.lh≠A.lr)/\(∀x∈A.ka++(A.ha++A.da),x≠A.a/\x≠A.lk/\x≠A.lh/\x≠A.lr)/\A.ka.Nodup/\(∀x∈A.ka,x∉A.ha/\x∉A.da)/\A.ha.Nodup/\A.da.Nodup/\∀x∈A.ha,x∉A.da:=by
 unfold Ad.foot at nd
 rw[List.nodup_append]at nd
 obtain⟨n1,n2,n3⟩:=nd
 rw[List.nodup_append]at n2
 obtain⟨n4,n5,n6⟩:=n2
 rw[List.nodup_append]at n5
 obtain⟨n7,n8,n9⟩:=n5
 refine⟨?_,fun x hx=>⟨fun z=>n3 A.a (by simp) x hx z.symm,fun z=>n3 A.lk (by simp) x hx z.symm,fun z=>n3 A.lh (by simp) x hx z.symm,fun z=>n3 A.lr (by simp) x hx z.symm⟩,n4,fun x hx=>⟨fun z=>n6 x hx x (qF_ _ z) rfl,fun z=>n6 x hx x (qE_ _ z) rfl⟩,n7,n8,fun x hx z=>n9 x hx x z rfl⟩
 simp only[List.nodup_cons,qS_,List.not_mem_nil,or_false,not_or]at n1
 obtain⟨⟨a1,a2,a3⟩,⟨a4,a5⟩,a6,_⟩:=n1
 exact⟨a1,a2,a3,a4,a5,a6⟩
theorem get_inj{xs:List Nat}(nd:xs.Nodup){i j x:Nat}(h1:xs[i]? =some x)(h2:xs[j]? =some x):i=j:=by
 obtain⟨l1,e1⟩:=qB_.mp h1
 obtain⟨l2,e2⟩:=qB_.mp h2
 exact(List.getElem_inj nd).mp (e1.trans e2.symm)
theorem FA{xs:List Nat}(h:∀(i j x:Nat),xs[i]? =some x->xs[j]? =some x->i=j):xs.Nodup:=by
 unfold List.Nodup
 rw[List.pairwise_iff_getElem]
 intro i j hi hj hij e
 have:=h i j xs[i] (qA_ hi) (by rw[qA_ hj,e])
 omega
theorem bI.D9{i a:Nat}{k:Kr}(H:bI G A st)(hi:A.ka[i]? =some a)(c:Chg [a] G G')(hk:jo G' a k):bI G' A {st with ks:=st.ks.set i k}:=by
 obtain⟨_,q,nk,nkh,_⟩:=pe H.nd
 have ha:=qD_ hi
 obtain⟨e1,e2,e3,e4⟩:=q a (qF_ _ ha)
 have ns:∀n,n≠a->n∉ [a]:=fun n h z=>h (by simpa using z)
 refine⟨c.get H.o (ns _ (Ne.symm e1)),c.get H.k (ns _ (Ne.symm e2)),c.get H.h (ns _ (Ne.symm e3)),c.get H.r (ns _ (Ne.symm e4)),by simp [H.kl],H.hl,H.dl,fun j b k' h1 h2=>?_,fun j b d h h1 h2 h3=>?_,H.nd⟩
 · by_cases z:j=i
   · subst z
     rw[hi]at h1
     cases h1
     have:j < st.ks.length:=by rw[<-H.kl];exact(qB_.mp hi).1
     rw[qU_ this]at h2
     cases h2
     exact hk
   · have h2:st.ks[j]? =some k':=by
      have h2:(st.ks.set i k)[j]? =some k':=h2
      rw[qV_ (Ne.symm z)]at h2
      exact h2
     refine c.get (H.kr j b k' h1 h2) (ns _ fun w=>z ?_)
     subst w
     exact get_inj nk h1 hi
 · refine(H.hd j b d h h1 h2 h3).chg c (ns _ fun w=>?_) (ns _ fun w=>?_)
   · subst w;exact(nkh _ ha).1 (qD_ h1)
   · subst w;exact(nkh _ ha).2 (qD_ h2)
theorem bI.Ew{i a d d':Nat}{h:Hd}(H:bI G A st)(hi:A.ha[i]? =some a)(hj:A.da[i]? =some d)(c:Chg [a,d] G G')(hd':d'=d\/G.length<=d')(hk:gq G' a d' h):bI G' {A with da:=A.da.set i d'} {st with hs:=st.hs.set i h}:=by
 obtain⟨p0,q,nk,nkh,nh,nD,nhd⟩:=pe H.nd
 have ha:=qD_ hi
 have hda:=qD_ hj
 obtain⟨e1,e2,e3,e4⟩:=q a (qE_ _ (qF_ _ ha))
 obtain⟨g1,g2,g3,g4⟩:=q d (qE_ _ (qE_ _ hda))
 have ns:∀n,n≠a->n≠d->n∉ [a,d]:=fun n h1 h2 z=>by
  simp only[qS_,List.not_mem_nil,or_false]at z
  exact z.elim h1 h2
 have fresh:∀n∈A.foot,n=d'->d'=d:=fun n hn z=>by
  rcases hd' with w |w
  · exact w
  · have:=H.lt n hn;omega
 have mem_set:∀x,x∈A.da.set i d'->x=d'\/x∈A.da/\x≠d:=fun x hx=>by
  obtain⟨j,hjl,e⟩:=List.getElem_of_mem hx
  have e':(A.da.set i d')[j]? =some x:=by rw[qA_ hjl,e]
  by_cases z:j=i
  · subst z
    rw[qU_ (qB_.mp hj).1]at e'
    cases e'
    exact .inl rfl
  · rw[qV_ (Ne.symm z)]at e'
    exact .inr ⟨qD_ e',fun w=>z (by subst w;exact get_inj nD e' hj)⟩
 refine⟨c.get H.o (ns _ (Ne.symm e1) (Ne.symm g1)),c.get H.k (ns _ (Ne.symm e2) (Ne.symm g2)),c.get H.h (ns _ (Ne.symm e3) (Ne.symm g3)),c.get H.r (ns _ (Ne.symm e4) (Ne.symm g4)),H.kl,by simp [H.hl],by simp [H.dl],fun j b k' h1 h2=>?_,fun j b dd hh h1 h2 h3=>?_,?_⟩
 · refine c.get (H.kr j b k' h1 h2) (ns _ (fun w=>?_) fun w=>?_)
   · subst w;exact(nkh _ (qD_ h1)).1 ha
   · subst w;exact(nkh _ (qD_ h1)).2 hda
 · have h2:(A.da.set i d')[j]? =some dd:=h2
   have h3:(st.hs.set i h)[j]? =some hh:=h3
   by_cases z:j=i
   · subst z
     rw[hi]at h1
     cases h1
     rw[qU_ (qB_.mp hj).1]at h2
     rw[qU_ (by rw[<-H.hl];exact(qB_.mp hi).1)]at h3
     cases h2
     cases h3
     exact hk
   · rw[qV_ (Ne.symm z)]at h2 h3
     refine(H.hd j b dd hh h1 h2 h3).chg c (ns _ (fun w=>z ?_) fun w=>?_) (ns _ (fun w=>?_) fun w=>z ?_)
     · subst w;exact get_inj nh h1 hi
     · subst w;exact nhd _ (qD_ h1) hda
     · subst w;exact nhd _ ha (qD_ h2)
     · subst w;exact get_inj nD h2 hj
 · by_cases hz:d'=d
   · subst hz
     have:A.da.set i d'=A.da:=by
      obtain⟨l,e⟩:=qB_.mp hj
      rw[<-e];exact List.set_getElem_self l
     unfold Ad.foot
     dsimp only
     rw[this]
     exact H.nd
   · have big:G.length<=d':=hd'.resolve_left hz
     have nd:=H.nd
     unfold Ad.foot at nd ⊢
     dsimp only
     rw[List.nodup_append]at nd ⊢
     obtain⟨n1,n2,n3⟩:=nd
     rw[List.nodup_append]at n2 ⊢
     obtain⟨n4,n5,n6⟩:=n2
     rw[List.nodup_append]at n5 ⊢
     obtain⟨n7,n8,n9⟩:=n5
     have old:∀x∈A.foot,x≠d':=fun x hx w=>by have:=H.lt x hx;omega
     have nset:(A.da.set i d').Nodup:=by
      refine FA fun u v x e1 e2=>?_
      by_cases zu:u=i
      · by_cases zv:v=i
        · rw[zu,zv]
        · rw[zu,qU_ (qB_.mp hj).1]at e1
          cases e1
          rw[qV_ (Ne.symm zv)]at e2
          exact absurd rfl (old d' (xf e2))
      · rw[qV_ (Ne.symm zu)]at e1
        by_cases zv:v=i
        · rw[zv,qU_ (qB_.mp hj).1]at e2
          cases e2
          exact absurd rfl (old d' (xf e1))
        · rw[qV_ (Ne.symm zv)]at e2
          exact get_inj n8 e1 e2
     refine⟨n1,⟨n4,⟨n7,nset,fun x hx y hy=>?_⟩,fun x hx y hy=>?_⟩,fun x hx y hy=>?_⟩
     · rcases mem_set y hy with w |w
       · rw[w];exact old x (by unfold Ad.foot;simp [hx])
       · exact n9 x hx y w.1
     · rcases qG_.mp hy with w |w
       · exact n6 x hx y (qF_ _ w)
       · rcases mem_set y w with w |w
         · rw[w];exact old x (by unfold Ad.foot;simp [hx])
         · exact n6 x hx y (qE_ _ w.1)
     · rcases qG_.mp hy with w |w
       · exact n3 x hx y (qF_ _ w)
       · rcases qG_.mp w with w |w
         · exact n3 x hx y (qE_ _ (qF_ _ w))
         · rcases mem_set y w with w |w
           · rw[w];exact old x (by unfold Ad.foot;exact qF_ _ hx)
           · exact n3 x hx y (qE_ _ (qE_ _ w.1))
theorem bI.ED{row:List (Bool×Lt)}(H:bI G A st)(c:Chg [A.lr] G G')(hr:G'[A.lr]? =some (.lst (row.map enD))):bI G' A {st with row:=row}:=by
 obtain⟨⟨_,_,p3,_,p5,p6⟩,q,_⟩:=pe H.nd
 have ns:∀n,n≠A.lr->n∉ [A.lr]:=fun n h z=>h (by simpa using z)
 have nq:∀x∈A.ka++(A.ha++A.da),x≠A.lr:=fun x hx=>(q x hx).2.2.2
 exact⟨c.get H.o (ns _ p3),c.get H.k (ns _ p5),c.get H.h (ns _ p6),hr,H.kl,H.hl,H.dl,
  fun i a k h1 h2=>c.get (H.kr i a k h1 h2) (ns _ (nq _ (qF_ _ (qD_ h1)))),
  fun i a d h h1 h2 h3=>(H.hd i a d h h1 h2 h3).chg c (ns _ (nq _ (qE_ _ (qF_ _ (qD_ h1))))) (ns _ (nq _ (qE_ _ (qE_ _ (qD_ h2))))),H.nd⟩
end
structure WF (st:Hl):Prop where
 hk:∀(i:Nat) h,st.hs[i]? =some h->h.num=i/\h.cnt=st.ks.length/\(∀e∈h.ar,e.1 < st.ks.length)/\(h.ar.map (·.1)).Nodup/\(h.pair=none->∀e∈h.ar,e.2.isSome=true)
 rw:∀e∈st.row,∃h,st.hs[e.2.hand]? =some h/\e.2.kpr < st.ks.length/\e.2.num<=h.rnd/\(e.2.num=h.rnd->(e.1=false->e.2.pair=h.pair)/\(e.1=true->e.2.pair.isSome=h.pair.isNone))
 ksz:st.ks.length<=9
 hsz:st.hs.length<=9
def pW(e:Nat×Pr):D:= .tup [.int (e.1:Int),pD e.2]
def eQ(st:Hl)(place:Nat)(stays:Bool):List (Bool×Lt):=if stays then st.row else st.row.eraseIdx place
def aU(st:Hl)(place:Nat)(stays:Bool):Hl×List (Nat×Pr):=
 match st.row[place]? with
 |none=>(st,[])
 |some (true,l)=>(match st.hs[l.hand]? with
  |none=>(st,[])
  |some h=>({st with hs:=st.hs.set l.hand (bH h l).1,row:=eQ st place stays++(bH h l).2.1.map fun x=>(false,x)},match (bH h l).2.2 with
   |none=>[]
   |some p=>[(l.hand,p)]))
 |some (false,l)=>(match st.ks[l.kpr]? with
  |none=>(st,[])
  |some k=>({st with ks:=st.ks.set l.kpr (aX k l).1,row:=eQ st place stays++(match (aX k l).2 with
   |none=>[]
   |some x=>[(true,x)])},[]))
structure Ad.To (A A':Ad) (n:Nat):Prop where
 a:A'.a=A.a
 lk:A'.lk=A.lk
 lh:A'.lh=A.lh
 lr:A'.lr=A.lr
 ka:A'.ka=A.ka
 ha:A'.ha=A.ha
 da:∀x∈A'.da,x∈A.da\/n<=x
theorem Ad.To.refl(A:Ad)(n:Nat):A.To A n:=⟨rfl,rfl,rfl,rfl,rfl,rfl,fun _ h=>.inl h⟩
theorem Ad.To.trans{A B C:Ad}{n m:Nat}(x:A.To B n)(y:B.To C m)(h:n<=m):A.To C n:=
 ⟨y.a.trans x.a,y.lk.trans x.lk,y.lh.trans x.lh,y.lr.trans x.lr,y.ka.trans x.ka,y.ha.trans x.ha,fun z hz=>(y.da z hz).elim (x.da z) fun w=>.inr (Nat.le_trans h w)⟩
theorem Ad.To.foot{A B:Ad}{n:Nat}(x:A.To B n):∀z∈B.foot,z∈A.foot\/n<=z:=by
 intro z hz
 unfold Ad.foot at*
 rw[x.a,x.lk,x.lh,x.lr,x.ka,x.ha]at hz
 rcases qG_.mp hz with w |w
 · exact .inl (qF_ _ w)
 · rcases qG_.mp w with w |w
   · exact .inl (qE_ _ (qF_ _ w))
   · rcases qG_.mp w with w |w
     · exact .inl (qE_ _ (qE_ _ (qF_ _ w)))
     · exact(x.da z w).elim (fun w=>.inl (qE_ _ (qE_ _ (qE_ _ w)))) .inr
section
variable{G:Hh}{Q:D->Hh->Prop}{E:Nat->Hh->Prop}{A:Ad}{st:Hl}
theorem jD{xs:List Nat}{i a:Nat}(h:xs[i]? =some a):atI (refs xs) (i:Int)=some (.ref a):=jI h
theorem bI.hand(H:bI G A st){i:Nat}{h:Hd}(e:st.hs[i]? =some h):∃a d,A.ha[i]? =some a/\A.da[i]? =some d/\gq G a d h:=by
 have hl:=(qB_.mp e).1
 have h1:i < A.ha.length:=by rw[H.hl];exact hl
 have h2:i < A.da.length:=by rw[H.dl];exact hl
 exact⟨_,_,qA_ h1,qA_ h2,H.hd i _ _ _ (qA_ h1) (qA_ h2) e⟩
theorem bI.Fp(H:bI G A st){i:Nat}{k:Kr}(e:st.ks[i]? =some k):∃a,A.ka[i]? =some a/\jo G a k:=by
 have hl:=(qB_.mp e).1
 have h1:i < A.ka.length:=by rw[H.kl];exact hl
 exact⟨_,qA_ h1,H.kr i _ _ (qA_ h1) e⟩
theorem yr{n k:Nat}{xs:List D}{y:D}(hn:G[n]? =some (.lst xs))(hy:xs[k]? =some y)(hz:xs.length<=1000000)(h:∀G',Chg [n] G G'->G'.length=G.length->G'[n]? =some (.lst (xs.eraseIdx k))->Q y G'):run (md (.ref n) (.int (k:Int))) G Q E:=by
 have hk:=(qB_.mp hy).1
 refine Ak hn (k:=k) ?_ hy (by omega) (h _ (Chg.set _ _ qI_) (by simp) (jy hn))
 unfold M3.ixN
 rw[if_pos (by omega),if_pos (by omega)]
 simp
theorem tX{ll:Nat}{ls:List Lt}(H:bI G A st)(hl:G[ll]? =some (.lst (ls.map ltD)))(hz:st.row.length+ls.length<=1000000)(hq:∀G',Chg [A.lr] G G'->bI G' A {st with row:=st.row++ls.map fun x=>(false,x)}->Q .non G'):run (cO [.ref A.a,.ref ll]) G Q E:=by
 have ho:=H.o
 walk_at "f"
 unfold ou
 walk_at "r"
 refine jk H.r ?_
 walk_at "r"
 refine oa hl ?_
 refine mQ (p:=fun _:Lt=>true) (g:=fun x=>enD (false,x)) (qZ_ hl) (by omega) (fun x _=>lP ⟨rfl,rfl⟩) (fun x _ _=>?_) ?_
 · walk_at "r"
   exact⟨rfl,rfl⟩
 rw[List.filter_eq_self.mpr (fun _ _=>rfl)]
 have c1:Chg [] G (G++[O.lst (ls.map fun x=>enD (false,x))]):=Chg.add _ _
 have H1:bI (G++[O.lst (ls.map fun x=>enD (false,x))]) A st:=H.frame c1 (by simp)
 refine gj H1.r (cE _ _) (by simp [aH];omega) fun G2 c2 l2 h2=>?_
 walk_at "r"
 refine hq G2 ((c1.mono (by simp)).trans c2) (H1.ED c2 ?_)
 rw[h2,qT_,qb_]
 rfl
theorem oi{l:Lt}{k:Kr}(H:bI G A st)(hk:st.ks[l.kpr]? =some k)(hz:st.row.length < 1000000)
 (hq:∀G',Chg A.foot G G'->bI G' A {st with ks:=st.ks.set l.kpr (aX k l).1,row:=st.row++(match (aX k l).2 with |none=>[] |some x=>[(true,x)])}->Q .non G'):run (cW [.ref A.a,ltD l]) G Q E:=by
 obtain⟨a,ha,hka⟩:=H.Fp hk
 have ho:=H.o
 have hka0:=hka
 unfold jo krF at hka0
 walk_at "f"
 unfold gf
 refine aR (cK (bK (bo (w_fld (w_var rfl (bN ho (by decide) rfl (bo (w_var rfl (w_c ?_)))))))))
 unfold ltD
 refine cM rfl ?_
 refine gP H.k (jD ha) (cX hka0 (ax (w_var rfl (aM ?_))))
 refine uX hka fun G1 c1 h1=>?_
 have H1:=H.D9 ha c1 h1
 have ho1:=H1.o
 have cf:Chg A.foot G G1:=c1.mono (by intro n hn;simp at hn;subst hn;exact xa ha)
 refine w_next ?_
 refine fO (mV (x6 (w_var rfl ?_)))
 walk_at "r"
 cases q:(aX k l).2 with
 |none=>
  rw[q]at hq
  refine pb ?_
  walk_at "r"
  rw[qY_]at hq
  exact hq G1 cf H1
 |some x=>
  rw[q]at hq
  refine oX ?_
  walk_at "r"
  refine jk H1.r ?_
  walk_at "r"
  refine hV H1.r (by rw[qM_];unfold aH;exact qd_ hz (by decide)) fun G2 c2 l2 h2=>?_
  walk_at "r"
  refine hq G2 (cf.trans (c2.mono (by intro n hn;simp at hn;subst hn;simp [Ad.foot]))) (H1.ED c2 ?_)
  rw[h2,qT_]
  rfl
theorem qr:∀(n:Nat) (m:List Nat),m.Nodup->(∀x∈m,x < n)->m.length<=n
 |0,m,_,h=>by
  cases m with
  |nil=>simp
  |cons a r=>exact absurd (h a qI_) (Nat.not_lt_zero _)
 |n+1,m,nd,h=>by
  by_cases hn:n∈m
  · have:=qr n (m.erase n) (nd.erase n) fun x hx=>by
     have h1:=nd.mem_erase_iff.mp hx
     have h2:=h x h1.2
     have h3:=h1.1
     omega
    rw[List.length_erase_of_mem hn]at this
    omega
  · have:=qr n m nd fun x hx=>by
     have h1:=h x hx
     have h2:x≠n:=fun z=>hn (z ▸ hx)
     omega
    omega
theorem zV{l:List (Nat×Option Pr)}{k:Nat}{p:Option Pr}{n:Nat}(hn:(l.map (·.1)).Nodup)(hl:∀e∈l,e.1 < n)(hk:k < n):(bi l k p).length<=n:=by
 have key:∀m:List Nat,m.Nodup->(∀x∈m,x < n)->m.length<=n:=fun m h1 h2=>qr n m h1 h2
 unfold bi
 split
 · rw[qM_,<-qM_ (f:=(·.1))]
   exact key _ hn fun x hx=>by obtain⟨e,he,rfl⟩:=qH_.mp hx;exact hl e he
 · rename_i hc
   have:((l++[(k,p)]).map (·.1)).length<=n:=by
    refine key _ ?_ fun x hx=>?_
    · rw[qT_,List.nodup_append]
      refine⟨hn,by simp,fun x hx y hy=>?_⟩
      simp at hy
      subst hy
      rintro rfl
      obtain⟨e,he,ee⟩:=qH_.mp hx
      exact hc (List.any_eq_true.mpr ⟨e,he,qZ_ ee⟩)
    · obtain⟨e,he,rfl⟩:=qH_.mp hx
      rcases qG_.mp he with z |z
      · exact hl e z
      · simp at z;rw[z];exact hk
   rw[qM_]at this
   exact this
theorem j6{l:List (Nat×Option Pr)}{k:Nat}{p:Option Pr}{e:Nat×Option Pr}(h:e∈bi l k p):(e.1=k/\e.2=p)\/e∈l:=by
 unfold bi at h
 split at h
 · obtain⟨x,hx,ex⟩:=qH_.mp h
   split at ex
   · rename_i z;subst ex;exact .inl ⟨z,rfl⟩
   · subst ex;exact .inr hx
 · rcases qG_.mp h with z |z
   · exact .inr z
   · simp at z;rw[z];exact .inl ⟨rfl,rfl⟩
theorem tK(h:Hd)(l:Lt):(bH h l).2.1.length<=h.cnt:=by
 unfold bH
 split
 · simp
 · dsimp only
   split
   · simp
   · split
     · dsimp only
       unfold bz
       rw[qM_]
       have:=kE (roundF (bJ {h with ar:=bi h.ar l.kpr l.pair} (vals (bi h.ar l.kpr l.pair))).1 (some (bJ {h with ar:=bi h.ar l.kpr l.pair} (vals (bi h.ar l.kpr l.pair))).2))
       rw[show (roundF (bJ {h with ar:=bi h.ar l.kpr l.pair} (vals (bi h.ar l.kpr l.pair))).1 (some (bJ {h with ar:=bi h.ar l.kpr l.pair} (vals (bi h.ar l.kpr l.pair))).2)).cnt=h.cnt from ib _ _]at this
       exact this
     · simp
theorem qh{l:Lt}{h:Hd}(H:bI G A st)(hh:st.hs[l.hand]? =some h)(hc:h.cnt<=9)(hz2:(bi h.ar l.kpr l.pair).length<=1000)(hok:h.atw=true->l.num=h.rnd->h.pair=none->∀e∈bi h.ar l.kpr l.pair,e.2.isSome=true)(hz:st.row.length < 900000)
 (hq:∀le A' G',Chg A.foot G G'->A.To A' G.length->G.length<=le->bI G' A' {st with hs:=st.hs.set l.hand (bH h l).1,row:=st.row++(bH h l).2.1.map fun x=>(false,x)}->G'[le]? =some (.lst ((match (bH h l).2.2 with |none=>[] |some p=>[(l.hand,p)]).map pW))->Q (.ref le) G'):run (dG [.ref A.a,ltD l]) G Q E:=by
 obtain⟨a,d,ha,hda,hat⟩:=H.hand hh
 have ho:=H.o
 have hat0:=hat.1
 unfold hdF at hat0
 walk_at "f"
 unfold gU
 refine aR (cK (bK (bo (w_fld (w_var rfl (bN ho (by decide) rfl (bo (w_var rfl (w_c ?_)))))))))
 unfold ltD
 refine cM rfl ?_
 refine gP H.h (jD ha) (cX hat0 (ax (w_var rfl (aM ?_))))
 refine D1 hat (by omega) hz2 hok fun ll d' G1 c1 l1 l2 h1 h2=>?_
 have H1:=H.Ew ha hda c1 l1 h1
 have ho1:G1[A.a]? =_:=H1.o
 have cf:Chg A.foot G G1:=c1.mono (by
  intro n hn
  simp only[qS_,List.not_mem_nil,or_false]at hn
  rcases hn with rfl |rfl
  · exact vc ha
  · exact xf hda)
 have to:A.To {A with da:=A.da.set l.hand d'} G.length:=⟨rfl,rfl,rfl,rfl,rfl,rfl,fun x hx=>by
  rcases List.mem_or_eq_of_mem_set hx with z |z
  · exact .inl z
  · rw[z]
    exact l1.elim (fun w=>.inl (by rw[w];exact qD_ hda)) .inr⟩
 have hl3:=tK h l
 generalize bH h l=r at*
 walk_at "r"
 refine tX (A:={A with da:=A.da.set l.hand d'}) H1 h2 (by show st.row.length+_<=_;omega) fun G2 c2 H2=>?_
 have c2f:Chg A.foot G1 G2:=c2.mono (by intro n hn;simp at hn;subst hn;simp [Ad.foot])
 have g1:=c1.1
 have g2:=c2.1
 walk_at "r"
 rw[o5]
 cases q:r.2.2 with
 |none=>
  rw[q]at hq
  refine mq ?_
  refine cU (gY fun G3 c3 l3 h3=>?_)
  walk_at "r"
  exact hq G2.length _ G3 ((cf.trans c2f).trans (c3.mono (by simp))) to (by omega) (H2.frame c3 (by simp)) h3
 |some p=>
  rw[q]at hq
  refine nW ?_
  walk_at "r"
  have c3:Chg [] G2 (G2++[O.lst [D.tup [D.int (l.hand:Int),opD (some p)]]]):=Chg.add _ _
  exact hq G2.length _ _ ((cf.trans c2f).trans (c3.mono (by simp))) to (by omega) (H2.frame c3 (by simp)) (cE _ _)
end
def HOK(n i:Nat)(h:Hd):Prop:=h.num=i/\h.cnt=n/\(∀e∈h.ar,e.1 < n)/\(h.ar.map (·.1)).Nodup/\(h.pair=none->∀e∈h.ar,e.2.isSome=true)
def EOK(n:Nat)(hs:List Hd)(e:Bool×Lt):Prop:=∃h,hs[e.2.hand]? =some h/\e.2.kpr < n/\e.2.num<=h.rnd/\(e.2.num=h.rnd->(e.1=false->e.2.pair=h.pair)/\(e.1=true->e.2.pair.isSome=h.pair.isNone))
theorem lX{l:List (Nat×Option Pr)}{k:Nat}{p:Option Pr}(hn:(l.map (·.1)).Nodup):((bi l k p).map (·.1)).Nodup:=by
 unfold bi
 split
 · rw[qb_]
   have:((fun x:Nat×Option Pr=>x.1) ∘ fun e:Nat×Option Pr=>if e.1=k then (e.1,p)else e)=fun e=>e.1:=by
    funext e
    show (if e.1=k then (e.1,p)else e).1=e.1
    split <;> rfl
   rw[this]
   exact hn
 · rename_i hc
   rw[qT_,List.nodup_append]
   refine⟨hn,by simp,fun x hx y hy=>?_⟩
   simp at hy
   subst hy
   rintro rfl
   obtain⟨e,he,ee⟩:=qH_.mp hx
   exact hc (List.any_eq_true.mpr ⟨e,he,qZ_ ee⟩)
theorem vF{n i:Nat}{h:Hd}(hc:h.cnt=n)(hi:h.num=i)(p:Option Pr):HOK n i (roundF h p):=⟨hi,hc,by simp [roundF],by simp [roundF],by simp [roundF]⟩
theorem mn(h:Hd)(ps:List Pr):(bJ h ps).1.num=h.num/\(bJ h ps).1.rnd=h.rnd/\(bJ h ps).1.atw=h.atw:=by unfold bJ;cases h.val <;> exact⟨rfl,rfl,rfl⟩
theorem pj{n i:Nat}{h:Hd}(H:HOK n i h){x:Lt}(hx:x∈bz h):x.hand=i/\x.kpr < n/\x.num=h.rnd/\x.pair=h.pair:=by
 unfold bz at hx
 obtain⟨k,hk,rfl⟩:=qH_.mp hx
 unfold nA at hk
 have:=List.mem_range.mp (List.mem_filter.mp hk).1
 exact⟨H.1,by rw[<-H.2.1];exact this,rfl,rfl⟩
theorem Dy{n i:Nat}{h:Hd}(H:HOK n i h){l:Lt}(hk:l.kpr < n)(hp:h.pair=none->l.pair.isSome=true):HOK n i {h with ar:=bi h.ar l.kpr l.pair}:=by
 refine⟨H.1,H.2.1,fun e he=>?_,lX H.2.2.2.1,fun z e he=>?_⟩
 · rcases j6 he with w |w
   · rw[w.1];exact hk
   · exact H.2.2.1 e w
 · rcases j6 he with w |w
   · rw[w.2];exact hp z
   · exact H.2.2.2.2 z e w
theorem CD{n i:Nat}{h:Hd}(H:HOK n i h){l:Lt}(hk:l.kpr < n)(hp:l.num=h.rnd->l.pair.isSome=h.pair.isNone):
 HOK n i (bH h l).1/\((bH h l).1.rnd=h.rnd/\(bH h l).1.pair=h.pair\/(bH h l).1.rnd=h.rnd+1)/\∀x∈(bH h l).2.1,x.hand=i/\x.kpr < n/\x.num=(bH h l).1.rnd/\x.pair=(bH h l).1.pair:=by
 unfold bH
 split
 · exact⟨H,.inl ⟨rfl,rfl⟩,by simp⟩
 · rename_i hc
   have hnum:l.num=h.rnd:=by
    simp only[Bool.or_eq_true,Bool.not_eq_true',decide_eq_false_iff_not,not_or,Bool.not_eq_false,Decidable.not_not]at hc
    exact hc.2
   have P:=Dy H hk (l:=l) fun z=>by rw[hp hnum,z];rfl
   dsimp only
   split
   · exact⟨P,.inl ⟨rfl,rfl⟩,by simp⟩
   · split
     · rename_i qp
       dsimp only
       have c1:=ib {h with ar:=bi h.ar l.kpr l.pair} (vals (bi h.ar l.kpr l.pair))
       have c2:=mn {h with ar:=bi h.ar l.kpr l.pair} (vals (bi h.ar l.kpr l.pair))
       generalize bJ {h with ar:=bi h.ar l.kpr l.pair} (vals (bi h.ar l.kpr l.pair))=c at*
       have R:=vF (n:=n) (i:=i) (h:=c.1) (c1.trans H.2.1) (c2.1.trans H.1) (some c.2)
       refine⟨R,.inr ?_,fun x hx=>pj R hx⟩
       show c.1.rnd+1=h.rnd+1
       rw[c2.2.1]
     · exact⟨⟨P.1,P.2.1,P.2.2.1,P.2.2.2.1,P.2.2.2.2⟩,.inl ⟨rfl,rfl⟩,by simp⟩
theorem WF.hok{st:Hl}(W:WF st){i:Nat}{h:Hd}(e:st.hs[i]? =some h):HOK st.ks.length i h:=W.hk i h e
theorem WF.eok{st:Hl}(W:WF st){e:Bool×Lt}(h:e∈st.row):EOK st.ks.length st.hs e:=W.rw e h
theorem xk{st:Hl}{p:Nat}{s:Bool}{e:Bool×Lt}(h:e∈eQ st p s):e∈st.row:=by
 unfold eQ at h
 cases s with
 |true=>exact h
 |false=>exact List.mem_of_mem_eraseIdx h
theorem iW{st:Hl}(W:WF st)(p:Nat)(s:Bool):WF (aU st p s).1:=by
 unfold aU
 split
 · exact W
 · rename_i l hr
   obtain⟨h,hh,hk,hn,hp⟩:=W.eok (qD_ hr)
   have hh:st.hs[l.hand]? =some h:=hh
   rw[hh]
   dsimp only
   obtain⟨o1,o2,o3⟩:=CD (W.hok hh) hk fun z=>(hp z).2 rfl
   have hlt:=(qB_.mp hh).1
   generalize bH h l=r at*
   refine⟨fun i g e=>?_,fun e he=>?_,W.ksz,by simpa using W.hsz⟩
   · have e:(st.hs.set l.hand r.1)[i]? =some g:=e
     by_cases z:i=l.hand
     · subst z
       rw[qU_ hlt]at e
       cases e
       exact o1
     · rw[qV_ (Ne.symm z)]at e
       exact W.hk i g e
   · show EOK st.ks.length (st.hs.set l.hand r.1) e
     have he:e∈eQ st p s++r.2.1.map fun x=>(false,x):=he
     rcases qG_.mp he with z |z
     · obtain⟨g,hg,q1,q2,q3⟩:=W.eok (xk z)
       by_cases w:e.2.hand=l.hand
       · rw[w]at hg
         rw[hh]at hg
         cases hg
         refine⟨r.1,by rw[w];exact qU_ hlt,q1,?_,fun c=>?_⟩
         · rcases o2 with ⟨o2,_⟩ |o2 <;> omega
         · rcases o2 with ⟨o2,o4⟩ |o2
           · rw[o4];exact q3 (by omega)
           · omega
       · exact⟨g,by rw[qV_ (Ne.symm w)];exact hg,q1,q2,q3⟩
     · obtain⟨x,hx,rfl⟩:=qH_.mp z
       obtain⟨y1,y2,y3,y4⟩:=o3 x hx
       exact⟨r.1,by rw[y1];exact qU_ hlt,y2,Int.le_of_eq y3,fun _=>⟨fun _=>y4,fun z=>by cases z⟩⟩
 · rename_i l hr
   obtain⟨h,hh,hk,hn,hp⟩:=W.eok (qD_ hr)
   have hk':st.ks[l.kpr]? =some st.ks[l.kpr]:=qA_ hk
   rw[hk']
   dsimp only
   generalize st.ks[l.kpr]=k
   have hp0:l.num=h.rnd->l.pair=h.pair:=fun z=>(hp z).1 rfl
   refine⟨fun i g e=>by
    show HOK (st.ks.set l.kpr (aX k l).1).length i g
    rw[qX_]
    exact W.hk i g e,fun e he=>?_,by simpa using W.ksz,W.hsz⟩
   show EOK (st.ks.set l.kpr (aX k l).1).length st.hs e
   rw[qX_]
   have he:e∈eQ st p s++(match (aX k l).2 with |none=>[] |some x=>[(true,x)]):=he
   rcases qG_.mp he with z |z
   · exact W.eok (xk z)
   · unfold aX at z
     split at z
     · rename_i e1
       cases up:k.up with
       |false=>simp at z
       |true=>simp at z
     · rename_i x e1
       have z:e=(true,x):=by simpa using z
       subst z
       cases up:k.up with
       |false=>
        rw[up]at e1
        cases e1
       |true=>
        rw[up]at e1
        cases lp:l.pair with
        |none=>
         rw[lp]at e1
         cases e1
         exact⟨h,hh,hk,hn,fun c=>⟨fun z=>(by cases z),fun _=>by rw[<-hp0 c,lp];rfl⟩⟩
        |some q=>
         rw[lp]at e1
         cases e1
         exact⟨h,hh,hk,hn,fun c=>⟨fun z=>(by cases z),fun _=>by rw[<-hp0 c,lp];rfl⟩⟩
def wt(e:Bool×Lt):Nat:=if e.1 then 1 else 2
def pot(h:Hd):Nat:=if h.atw&&h.pair.isNone then 2*h.cnt else 0
def mea(st:Hl):Nat:=(st.row.map wt).sum+(st.hs.map pot).sum
theorem yz{xs:List (Bool×Lt)}:∀{i:Nat} {e:Bool×Lt},xs[i]? =some e->(xs.map wt).sum=wt e+((xs.eraseIdx i).map wt).sum:=by
 induction xs with
 |nil=>intro i e h;simp at h
 |cons x r ih=>
  intro i e h
  cases i with
  |zero=>simp at h;subst h;simp
  |succ i=>
   have:=ih (i:=i) (e:=e) (by simpa using h)
   simp only[List.eraseIdx_cons_succ,List.map_cons,List.sum_cons]
   omega
theorem sum_set{hs:List Hd}:∀{i:Nat} {h g:Hd},hs[i]? =some h->((hs.set i g).map pot).sum+pot h=(hs.map pot).sum+pot g:=by
 induction hs with
 |nil=>intro i h g e;simp at e
 |cons x r ih=>
  intro i h g e
  cases i with
  |zero=>simp at e;subst e;simp;omega
  |succ i=>
   have:=ih (i:=i) (h:=h) (g:=g) (by simpa using e)
   simp only[List.set_cons_succ,List.map_cons,List.sum_cons]
   omega
theorem oy(ls:List Lt):((ls.map fun x=>(false,x)).map wt).sum=2*ls.length:=by
 induction ls with
 |nil=>rfl
 |cons x r ih=>
  simp only[List.map_cons,List.sum_cons,List.length_cons]
  rw[ih]
  show 2+2*r.length=2*(r.length+1)
  omega
theorem zQ{h:Hd}{l:Lt}:pot (bH h l).1+2*(bH h l).2.1.length<=pot h:=by
 unfold bH
 split
 · simp
 · rename_i hc
   have hat:h.atw=true:=by
    simp only[Bool.or_eq_true,Bool.not_eq_true',decide_eq_false_iff_not,not_or,Bool.not_eq_false,Decidable.not_not]at hc
    exact hc.1
   dsimp only
   split
   · simp [pot]
   · split
     · rename_i qp
       dsimp only
       have c1:=ib {h with ar:=bi h.ar l.kpr l.pair} (vals (bi h.ar l.kpr l.pair))
       generalize bJ {h with ar:=bi h.ar l.kpr l.pair} (vals (bi h.ar l.kpr l.pair))=c at*
       have h1:pot (roundF c.1 (some c.2))=0:=by unfold pot roundF;simp
       have h2:pot h=2*h.cnt:=by unfold pot;rw[hat,qp];rfl
       have h3:(bz (roundF c.1 (some c.2))).length<=h.cnt:=by
        unfold bz
        rw[qM_]
        have:=kE (roundF c.1 (some c.2))
        rw[show (roundF c.1 (some c.2)).cnt=h.cnt from c1]at this
        exact this
       rw[h1,h2]
       omega
     · simp [pot]
theorem vq{st:Hl}(W:WF st){p:Nat}{s:Bool}{e:Bool×Lt}(hr:st.row[p]? =some e):mea (aU st p s).1+(if s then 0 else 1)<=mea st+(if s then 1 else 0):=by
 have off:((eQ st p s).map wt).sum+(if s then 0 else wt e)=(st.row.map wt).sum:=by
  unfold eQ
  cases s with
  |true=>simp
  |false=>have:=yz hr;simp;omega
 obtain⟨h,hh,hk,_⟩:=W.eok (qD_ hr)
 unfold aU
 rw[hr]
 obtain⟨b,l⟩:=e
 cases b with
 |true=>
  have hh:st.hs[l.hand]? =some h:=hh
  dsimp only
  rw[hh]
  dsimp only
  have h1:=zQ (h:=h) (l:=l)
  have h2:=sum_set (g:=(bH h l).1) hh
  unfold mea
  dsimp only
  rw[qT_,List.sum_append,oy]
  have h3:wt (true,l)=1:=rfl
  cases s <;> simp only[reduceIte,Bool.false_eq_true]at off ⊢ <;> omega
 |false=>
  dsimp only
  have hk':st.ks[l.kpr]? =some st.ks[l.kpr]:=qA_ hk
  rw[hk']
  dsimp only
  unfold mea
  dsimp only
  rw[qT_,List.sum_append]
  have h3:wt (false,l)=2:=rfl
  generalize aX st.ks[l.kpr] l=r
  obtain⟨r1,r2⟩:=r
  cases r2 with
  |none=>
   dsimp only
   rw[List.map_nil,List.sum_nil]
   cases s <;> simp only[reduceIte,Bool.false_eq_true]at off ⊢ <;> omega
  |some x=>
   dsimp only
   have h5:([(true,x)].map wt).sum=1:=rfl
   rw[h5]
   cases s <;> simp only[reduceIte,Bool.false_eq_true]at off ⊢ <;> omega
theorem tF(st:Hl):st.row.length<=mea st:=by
 unfold mea
 have:∀xs:List (Bool×Lt),xs.length<=(xs.map wt).sum:=by
  intro xs
  induction xs with
  |nil=>simp
  |cons x r ih=>
   simp only[List.length_cons,List.map_cons,List.sum_cons]
   have:1<=wt x:=by unfold wt;split <;> omega
   omega
 have:=this st.row
 omega
section
variable{G:Hh}{Q:D->Hh->Prop}{E:Nat->Hh->Prop}{A:Ad}{st:Hl}
theorem rT{α β:Type}(f:α->β):∀(xs:List α) (i:Nat),(xs.map f).eraseIdx i=(xs.eraseIdx i).map f
 | [],_=>rfl
 |_ :: _,0=>rfl
 |x :: r,i+1=>by
  show f x :: (r.map f).eraseIdx i=f x :: (r.eraseIdx i).map f
  rw[rT f r i]
theorem wB{p:Nat}{s:Bool}{e:Bool×Lt}(H:bI G A st)(W:WF st)(hr:st.row[p]? =some e)(hz:mea st<=800000)
 (hq:∀le A' G',Chg A.foot G G'->A.To A' G.length->G.length<=le->bI G' A' (aU st p s).1->G'[le]? =some (.lst ((aU st p s).2.map pW))->Q (.ref le) G'):run (dW [.ref A.a,.int (p:Int),.bl s]) G Q E:=by
 obtain⟨h,hh,hk,hn,hp⟩:=W.eok (qD_ hr)
 have hrl:=tF st
 have ho:=H.o
 have hix:atI (st.row.map enD) (p:Int)=some (enD e):=jI hr
 have hre:(st.row.map enD)[p]? =some (enD e):=by rw[qQ_,hr];rfl
 walk_at "f"
 unfold oB
 refine aR (cK (bo (w_fld (w_var rfl (bN ho (by decide) rfl (w_var rfl (gP H.r hix ?_)))))))
 refine w_next ?_
 walk_at "s"
 have step:run (sIf (gC (tOf (ae 2))) (bM (sL (bw (ae 0) 11) (ae 1))) bY [some (.ref A.a),some (.int (p:Int)),some (.bl s),some (enD e)]) G (fun r G1=>r=(.next,[some (.ref A.a),some (.int (p:Int)),some (.bl s),some (enD e)])/\Chg [A.lr] G G1/\bI G1 A {st with row:=eQ st p s}) E:=by
  refine fO (iz (iI (w_var rfl (iD ?_))))
  cases s with
  |true=>
   refine pb (lL ⟨rfl,Chg.refl _ _,H⟩)
  |false=>
   refine oX (eI (xJ (w_fld (w_var rfl (bN ho (by decide) rfl (jk H.r (w_var rfl ?_)))))))
   refine yr H.r hre (by rw[qM_];omega) fun G1 c1 l1 h1=>⟨rfl,c1,H.ED c1 ?_⟩
   rw[h1]
   show some (O.lst ((st.row.map enD).eraseIdx p))=some (O.lst ((st.row.eraseIdx p).map enD))
   rw[rT]
 refine aR (az step (fun r G1 ⟨er,c1,H1⟩=>?_) fun _ _ z=>z)
 subst er
 refine w_next ?_
 have c1f:Chg A.foot G G1:=c1.mono (by intro n hn;simp at hn;subst hn;simp [Ad.foot])
 have g1:=c1.1
 have ho1:=H1.o
 have lo:(eQ st p s).length<=st.row.length:=by
  unfold eQ
  cases s with
  |true=>exact qO_ _
  |false=>exact List.length_eraseIdx_le _ _
 obtain⟨b,l⟩:=e
 unfold aU at hq
 rw[hr]at hq
 cases b with
 |true=>
  have hh:st.hs[l.hand]? =some h:=hh
  dsimp only at hq
  rw[hh]at hq
  dsimp only at hq
  obtain⟨k1,k2,k3,k4,k5⟩:=W.hk _ _ hh
  have hks:=W.ksz
  refine aR (fO (iI (bo (w_var rfl (w_c (cM rfl (iD (mq ?_))))))))
  refine cU (bK (w_var rfl (cX ho1 (ax (bo (w_var rfl (w_c (cM rfl (aM ?_)))))))))
  refine qh (st:={st with row:=eQ st p s}) H1 hh (by omega) (Nat.le_trans (zV k4 k3 hk) (by omega)) (fun q1 q2 q3 x hx=>?_) (by show (eQ st p s).length < 900000;omega) fun le A' G2 c2 to l2 H2 h2=>?_
  · rcases j6 hx with w |w
    · rw[w.2,(hp q2).2 rfl,q3];rfl
    · exact k5 q3 x w
  · walk_at "r"
    exact hq le A' G2 (c1f.trans c2) ⟨to.a,to.lk,to.lh,to.lr,to.ka,to.ha,fun x hx=>(to.da x hx).imp id fun z=>by omega⟩ (by omega) H2 h2
 |false=>
  have hk':st.ks[l.kpr]? =some st.ks[l.kpr]:=qA_ hk
  dsimp only at hq
  rw[hk']at hq
  dsimp only at hq
  generalize st.ks[l.kpr]=k at hq hk'
  refine aR (fO (iI (bo (w_var rfl (w_c (cM rfl (iD (nW ?_))))))))
  refine lL (w_next ?_)
  refine aR (eI (bK (w_var rfl (cX ho1 (ax (bo (w_var rfl (w_c (cM rfl (aM ?_))))))))))
  refine oi (st:={st with row:=eQ st p s}) H1 hk' (by show (eQ st p s).length < 1000000;omega) fun G2 c2 H2=>?_
  refine w_next ?_
  refine cU (gY fun G3 c3 l3 h3=>?_)
  walk_at "r"
  have g2:=c2.1
  exact hq G2.length A G3 ((c1f.trans c2).trans (c3.mono (by simp))) (Ad.To.refl _ _) (by omega) (H2.frame c3 (by simp)) h3
theorem jg{i:Int}(H:bI G A st)(hb:(i < 0\/(st.hs.length:Int)<=i)->E 1001 G)(hq:∀j a:Nat,i=(j:Int)->A.ha[j]? =some a->Q (.ref a) G):run (bj [.ref A.a,.int i]) G Q E:=by
 have ho:=H.o
 walk_at "f"
 unfold jX
 walk_at "r"
 refine w_ite (fun c=>?_) fun c=>?_
 · walk_at "r"
   exact hb (.inl (of_decide_eq_true c))
 · have c:=of_decide_eq_false c
   walk_at "r"
   refine gN H.h ?_
   rw[show (refs A.ha).length=A.ha.length from qM_ _]
   walk_at "r"
   refine w_ite (fun c2=>?_) fun c2=>?_
   · walk_at "r"
     refine hb (.inr ?_)
     have:=of_decide_eq_true c2
     rw[<-H.hl];exact this
   · have c2:=of_decide_eq_false c2
     have hlt:i.toNat < A.ha.length:=by omega
     have e1:A.ha[i.toNat]? =some A.ha[i.toNat]:=qA_ hlt
     have e2:atI (refs A.ha) i=some (.ref A.ha[i.toNat]):=by
      have:=jD e1
      rwa [Int.toNat_of_nonneg (by omega)]at this
     walk_at "r"
     refine gP H.h e2 ?_
     walk_at "r"
     exact hq i.toNat _ (by omega) e1
theorem j9{i:Int}(H:bI G A st)(hb:(i < 0\/(st.ks.length:Int)<=i)->E 1002 G)(hq:∀j a:Nat,i=(j:Int)->A.ka[j]? =some a->Q (.ref a) G):run (bG [.ref A.a,.int i]) G Q E:=by
 have ho:=H.o
 walk_at "f"
 unfold jl
 walk_at "r"
 refine w_ite (fun c=>?_) fun c=>?_
 · walk_at "r"
   exact hb (.inl (of_decide_eq_true c))
 · have c:=of_decide_eq_false c
   walk_at "r"
   refine gN H.k ?_
   rw[show (refs A.ka).length=A.ka.length from qM_ _]
   walk_at "r"
   refine w_ite (fun c2=>?_) fun c2=>?_
   · walk_at "r"
     refine hb (.inr ?_)
     have:=of_decide_eq_true c2
     rw[<-H.kl];exact this
   · have c2:=of_decide_eq_false c2
     have hlt:i.toNat < A.ka.length:=by omega
     have e1:A.ka[i.toNat]? =some A.ka[i.toNat]:=qA_ hlt
     have e2:atI (refs A.ka) i=some (.ref A.ka[i.toNat]):=by
      have:=jD e1
      rwa [Int.toNat_of_nonneg (by omega)]at this
     walk_at "r"
     refine gP H.k e2 ?_
     walk_at "r"
     exact hq i.toNat _ (by omega) e1
def newRow(st:Hl)(h:Hd):List (Bool×Lt):=st.row++(bz h).map fun x=>(false,x)
theorem iY(h:Hd):(bz h).length<=h.cnt:=by unfold bz;rw[qM_];exact kE h
def gk(st:Hl)(i:Nat)(h:Hd)(v:Option Int):Hl:={st with hs:=st.hs.set i (bD h v),row:=newRow st (bD h v)}
theorem oV(H:bI G A st){j a:Nat}(hj:A.ha[j]? =some a):∃h,st.hs[j]? =some h:=by
 have:j < st.hs.length:=by rw[<-H.hl];exact(qB_.mp hj).1
 exact⟨_,qA_ this⟩
theorem zd(H:bI G A st){j a:Nat}(hj:A.ka[j]? =some a):∃k,st.ks[j]? =some k:=by
 have:j < st.ks.length:=by rw[<-H.kl];exact(qB_.mp hj).1
 exact⟨_,qA_ this⟩
theorem begun{i a d d' ll:Nat}{h:Hd}{v:Option Int}{G1:Hh}(H:bI G A st)(ha:A.ha[i]? =some a)(hd:A.da[i]? =some d)(c1:Chg [a] G G1)(l1:G.length<=d')(h1:gq G1 a d' (bD h v)):
 bI G1 {A with da:=A.da.set i d'} {st with hs:=st.hs.set i (bD h v)}/\A.To {A with da:=A.da.set i d'} G.length/\Chg A.foot G G1:=by
 refine⟨H.Ew ha hd (c1.mono (by simp)) (.inr l1) h1,⟨rfl,rfl,rfl,rfl,rfl,rfl,fun x hx=>?_⟩,c1.mono (by intro n hn;simp at hn;subst hn;exact vc ha)⟩
 rcases List.mem_or_eq_of_mem_set hx with z |z
 · exact .inl z
 · rw[z];exact .inr l1
theorem CC{i v:Int}(H:bI G A st)(W:WF st)(hz:mea st<=800000)(hb:(i < 0\/(st.hs.length:Int)<=i)->E 1001 G)(hbusy:∀(j:Nat) h,i=(j:Int)->st.hs[j]? =some h->h.atw=true->E 1004 G)
 (hq:∀(j:Nat) h,i=(j:Int)->st.hs[j]? =some h->h.atw=false->∀A' G',Chg A.foot G G'->A.To A' G.length->bI G' A' (gk st j h (some v))->Q .non G'):run (g6 [.ref A.a,.int i,.int v]) G Q E:=by
 have ho:=H.o
 have hrl:=tF st
 walk_at "f"
 unfold mK
 walk_at "r"
 refine jg H hb fun j a hi ha=>?_
 obtain⟨h,hh⟩:=oV H ha
 obtain⟨a',d,ha',hd,hat⟩:=H.hand hh
 rw[ha]at ha'
 cases ha'
 obtain⟨k1,k2,_⟩:=W.hk _ _ hh
 have hks:=W.ksz
 have hat0:=hat.1
 unfold hdF at hat0
 walk_at "r"
 refine qZ hat (by omega) (fun q=>hbusy j h hi hh q) fun q ll d' G1 c1 l1 l2 h1 h2=>?_
 obtain⟨H1,to,cf⟩:=begun (ll:=ll) H ha hd c1 l1 h1
 have hll:=iY (bD h (some v))
 have hcn:(bD h (some v)).cnt=h.cnt:=rfl
 walk_at "r"
 refine tX (A:={A with da:=A.da.set j d'}) H1 h2 (by show st.row.length+_<=_;omega) fun G2 c2 H2=>?_
 walk_at "r"
 exact hq j h hi hh q _ G2 (cf.trans (c2.mono (by intro n hn;simp at hn;subst hn;simp [Ad.foot]))) to H2
theorem Dt{i:Int}(H:bI G A st)(W:WF st)(hz:mea st<=800000)(hb:(i < 0\/(st.hs.length:Int)<=i)->E 1001 G)(hbusy:∀(j:Nat) h,i=(j:Int)->st.hs[j]? =some h->h.atw=true->E 1004 G)
 (hq:∀(j:Nat) h,i=(j:Int)->st.hs[j]? =some h->h.atw=false->∀A' G',Chg A.foot G G'->A.To A' G.length->bI G' A' (gk st j h none)->Q .non G'):run (iR [.ref A.a,.int i]) G Q E:=by
 have ho:=H.o
 have hrl:=tF st
 walk_at "f"
 unfold ot
 walk_at "r"
 refine jg H hb fun j a hi ha=>?_
 obtain⟨h,hh⟩:=oV H ha
 obtain⟨a',d,ha',hd,hat⟩:=H.hand hh
 rw[ha]at ha'
 cases ha'
 obtain⟨k1,k2,_⟩:=W.hk _ _ hh
 have hks:=W.ksz
 have hat0:=hat.1
 unfold hdF at hat0
 walk_at "r"
 refine tD hat (by omega) (fun q=>hbusy j h hi hh q) fun q ll d' G1 c1 l1 l2 h1 h2=>?_
 obtain⟨H1,to,cf⟩:=begun (ll:=ll) H ha hd c1 l1 h1
 have hll:=iY (bD h none)
 have hcn:(bD h none).cnt=h.cnt:=rfl
 walk_at "r"
 refine tX (A:={A with da:=A.da.set j d'}) H1 h2 (by show st.row.length+_<=_;omega) fun G2 c2 H2=>?_
 walk_at "r"
 exact hq j h hi hh q _ G2 (cf.trans (c2.mono (by intro n hn;simp at hn;subst hn;simp [Ad.foot]))) to H2
theorem CG{i:Int}(H:bI G A st)(W:WF st)(hz:mea st<=800000)(hb:(i < 0\/(st.hs.length:Int)<=i)->E 1001 G)(hidle:∀(j:Nat) h,i=(j:Int)->st.hs[j]? =some h->h.atw=false->∀G',Chg [] G G'->E 1005 G')
 (hq:∀(j:Nat) h,i=(j:Int)->st.hs[j]? =some h->h.atw=true->∀G',Chg A.foot G G'->bI G' A {st with row:=newRow st h}->Q (.int ((bz h).length:Int)) G'):run (hI [.ref A.a,.int i]) G Q E:=by
 have ho:=H.o
 have hrl:=tF st
 walk_at "f"
 unfold mG
 walk_at "r"
 refine jg H hb fun j a hi ha=>?_
 obtain⟨h,hh⟩:=oV H ha
 obtain⟨a',d,ha',hd,hat⟩:=H.hand hh
 rw[ha]at ha'
 cases ha'
 obtain⟨k1,k2,_⟩:=W.hk _ _ hh
 have hks:=W.ksz
 have hat0:=hat.1
 unfold hdF at hat0
 walk_at "r"
 refine tZ hat (by omega) (fun q=>hidle j h hi hh q G (Chg.refl _ _)) fun q ll G1 x1 l1 h1=>?_
 have H1:=H.frame (S:=[]) x1.chg (by simp)
 have ho1:=H1.o
 have hll:=iY h
 walk_at "r"
 refine tX H1 h1 (by omega) fun G2 c2 H2=>?_
 have hne:ll∉ [A.lr]:=fun z=>by
  have:=aG H.r
  simp at z
  omega
 walk_at "r"
 refine gN (c2.get h1 hne) ?_
 rw[qM_]
 walk_at "r"
 exact hq j h hi hh q G2 (x1.chg.trans (c2.mono (by intro n hn;simp at hn;subst hn;simp [Ad.foot]))) H2
theorem B0{i:Int}(H:bI G A st)(hb:(i < 0\/(st.hs.length:Int)<=i)->E 1001 G)(hidle:∀(j:Nat) h,i=(j:Int)->st.hs[j]? =some h->h.atw=false->E 1005 G)
 (hq:∀(j:Nat) h,i=(j:Int)->st.hs[j]? =some h->h.atw=true->∀G',Chg A.foot G G'->bI G' A {st with hs:=st.hs.set j {h with atw:=false}}->Q .non G'):run (hG [.ref A.a,.int i]) G Q E:=by
 have ho:=H.o
 walk_at "f"
 unfold mR
 walk_at "r"
 refine jg H hb fun j a hi ha=>?_
 obtain⟨h,hh⟩:=oV H ha
 obtain⟨a',d,ha',hd,hat⟩:=H.hand hh
 rw[ha]at ha'
 cases ha'
 have hat0:=hat.1
 unfold hdF at hat0
 walk_at "r"
 refine yP hat (fun q=>hidle j h hi hh q) fun q G1 c1 h1=>?_
 have H1:=H.Ew ha hd (c1.mono (by simp)) (.inl rfl) h1
 have e1:A.da.set j d=A.da:=by
  obtain⟨l,e⟩:=qB_.mp hd
  rw[<-e];exact List.set_getElem_self l
 rw[e1]at H1
 walk_at "r"
 exact hq j h hi hh q G1 (c1.mono (by intro n hn;simp at hn;subst hn;exact vc ha)) H1
theorem qW{i:Int}(H:bI G A st)(hb:(i < 0\/(st.ks.length:Int)<=i)->E 1002 G)
 (hq:∀(j:Nat) k,i=(j:Int)->st.ks[j]? =some k->∀G',Chg A.foot G G'->bI G' A {st with ks:=st.ks.set j {k with up:=false}}->Q (.bl k.up) G'):run (dZ [.ref A.a,.int i]) G Q E:=by
 have ho:=H.o
 walk_at "f"
 unfold hX
 walk_at "r"
 refine j9 H hb fun j a hi ha=>?_
 obtain⟨k,hk⟩:=zd H ha
 have hka:=H.kr j a k ha hk
 have hka0:=hka
 unfold jo krF at hka0
 walk_at "r"
 refine EV hka fun G1 c1 h1=>?_
 walk_at "r"
 exact hq j k hi hk G1 (c1.mono (by intro n hn;simp at hn;subst hn;exact xa ha)) (H.D9 ha c1 h1)
theorem rk{i:Int}(H:bI G A st)(hb:(i < 0\/(st.ks.length:Int)<=i)->E 1002 G)
 (hq:∀(j:Nat) k,i=(j:Int)->st.ks[j]? =some k->∀G',Chg A.foot G G'->bI G' A {st with ks:=st.ks.set j {k with up:=true}}->Q (.bl (!k.up)) G'):run (dY [.ref A.a,.int i]) G Q E:=by
 have ho:=H.o
 walk_at "f"
 unfold ir
 walk_at "r"
 refine j9 H hb fun j a hi ha=>?_
 obtain⟨k,hk⟩:=zd H ha
 have hka:=H.kr j a k ha hk
 have hka0:=hka
 unfold jo krF at hka0
 walk_at "r"
 refine DK hka fun G1 c1 h1=>?_
 walk_at "r"
 exact hq j k hi hk G1 (c1.mono (by intro n hn;simp at hn;subst hn;exact xa ha)) (H.D9 ha c1 h1)
end
def runN(sel:Hl->Option Nat):Nat->Hl->Hl×List (Nat×Pr)
 |0,st=>(st,[])
 |k+1,st=>match sel st with
  |none=>(st,[])
  |some p=>((runN sel k (aU st p false).1).1,(aU st p false).2++(runN sel k (aU st p false).1).2)
def Sel(sel:Hl->Option Nat):Prop:=∀st p,sel st=some p->p < st.row.length
theorem cH{st:Hl}(W:WF st){p:Nat}(hp:p < st.row.length):mea (aU st p false).1+1<=mea st:=by
 have:=vq W (s:=false) (qA_ hp)
 simpa using this
theorem kc{sel:Hl->Option Nat}(hs:Sel sel):∀(k:Nat) (st:Hl),WF st->mea st<=k->runN sel k st=runN sel (mea st) st
 |0,st,W,h=>by rw[Nat.le_zero.mp h]
 |k+1,st,W,h=>by
  have key:∀m,mea st<=m+1->m<=k->runN sel (m+1) st=match sel st with
   |none=>(st,[])
   |some p=>((runN sel (mea (aU st p false).1) (aU st p false).1).1,(aU st p false).2++(runN sel (mea (aU st p false).1) (aU st p false).1).2):=by
   intro m hm hmk
   show (match sel st with
    |none=>(st,[])
    |some p=>((runN sel m (aU st p false).1).1,(aU st p false).2++(runN sel m (aU st p false).1).2))=_
   cases q:sel st with
   |none=>rfl
   |some p=>
    dsimp only
    have h1:=cH W (hs st p q)
    have ih:=kc hs k (aU st p false).1 (iW W p false) (by omega)
    rcases Nat.lt_or_ge m k with z |z
    · have ih2:runN sel m (aU st p false).1=runN sel (mea (aU st p false).1) (aU st p false).1:=by
       have a1:=kc hs m (aU st p false).1 (iW W p false) (by omega)
       exact a1
      rw[ih2]
    · have:m=k:=by omega
      rw[this,ih]
  rw[key k h (qO_ _)]
  cases q:mea st with
  |zero=>
   cases qs:sel st with
   |none=>rfl
   |some p=>
    have h1:=cH W (hs st p qs)
    omega
  |succ m=>
   rw[key m (by omega) (by omega)]
 termination_by k=>k
def dD(sel:Hl->Option Nat)(st:Hl):Hl×List (Nat×Pr):=runN sel (mea st) st
theorem et{sel:Hl->Option Nat}{st:Hl}(h:sel st=none):dD sel st=(st,[]):=by
 unfold dD
 cases mea st with
 |zero=>rfl
 |succ k=>show (match sel st with |none=>(st,[]) |some p=>_)=_;rw[h]
theorem jx{sel:Hl->Option Nat}(hs:Sel sel){st:Hl}(W:WF st){p:Nat}(h:sel st=some p):dD sel st=((dD sel (aU st p false).1).1,(aU st p false).2++(dD sel (aU st p false).1).2):=by
 unfold dD
 have h1:=cH W (hs st p h)
 cases q:mea st with
 |zero=>omega
 |succ k=>
  show (match sel st with |none=>(st,[]) |some p=>_)=_
  rw[h]
  dsimp only
  rw[kc hs k _ (iW W p false) (by omega)]
theorem kR(st:Hl)(p:Nat)(s:Bool):(aU st p s).2.length<=1:=by
 unfold aU
 split
 · simp
 · split
   · simp
   · dsimp only;split <;> simp
 · split <;> simp
theorem nF{sel:Hl->Option Nat}(hs:Sel sel):∀(n:Nat) (st:Hl),WF st->mea st<=n->(dD sel st).2.length<=mea st:=by
 intro n
 induction n with
 |zero=>
  intro st W h
  cases q:sel st with
  |none=>rw[et q];simp
  |some p=>have:=cH W (hs st p q);omega
 |succ n ih=>
  intro st W h
  cases q:sel st with
  |none=>rw[et q];simp
  |some p=>
   have h1:=cH W (hs st p q)
   have h2:=ih (aU st p false).1 (iW W p false) (by omega)
   have h3:=kR st p false
   rw[jx hs W q]
   dsimp only
   rw[qN_]
   omega
def bf(st:Hl):Option Nat:=if st.row=[]then none else some 0
theorem eS:Sel bf:=fun st p h=>by
 unfold bf at h
 split at h
 · cases h
 · rename_i hn
   cases h
   cases q:st.row with
   |nil=>exact absurd q hn
   |cons _ _=>simp
def r9(i j:Nat)(e:Bool×Lt):Bool:=decide (e.2.hand=i)&&decide (e.2.kpr=j)
def dE(i j:Nat)(st:Hl):Option Nat:=st.row.findIdx? (r9 i j)
theorem fD(i j:Nat):Sel (dE i j):=fun st p h=>by
 unfold dE at h
 exact(List.findIdx?_eq_some_iff_getElem.mp h).1
section
variable{G:Hh}{Q:D->Hh->Prop}{E:Nat->Hh->Prop}{A:Ad}{st:Hl}
def oN:Option Nat->D
 |none=>.non
 |some p=>.int (p:Int)
theorem jM{i j:Nat}(H:bI G A st)(hq:Q (oN (dE i j st)) G):run (cz [.ref A.a,.int (i:Int),.int (j:Int)]) G Q E:=by
 have ho:=H.o
 walk_at "f"
 unfold gM
 walk_at "r"
 refine B9 H.r ?_
 refine nQ (xs:=jv (st.row.map enD)) (fun k σ G'=>G'=G/\(∀x∈st.row.take k,r9 i j x=false)/\∃x y,σ=[some (.ref A.a),some (.int (i:Int)),some (.int (j:Int)),x,y]) ?_ ?_ ?_ _ 0 _ _ List.drop_zero (qf_ _) ⟨rfl,by simp,none,none,rfl⟩
 · rintro k σ G' ⟨rfl,_⟩
   exact qZ_ H.r
 · rintro k x σ G' hx ⟨rfl,hP,_,_,rfl⟩
   obtain⟨z,hz,rfl⟩:=yM hx
   obtain⟨e,he,rfl⟩:=o8 hz
   have hsplit:st.row.take (k+1)=st.row.take k++[e]:=take_succ he
   unfold enD ltD
   walk_at "r"
   refine aJ (a:=D.tup [D.int (e.2.hand:Int),D.int (e.2.kpr:Int)]) (G':=G') rfl ?_
   walk_at "r"
   refine w_eq (b:=r9 i j e) ?_ ?_
   · show some ((decide ((e.2.hand:Int)=(i:Int))&&(decide ((e.2.kpr:Int)=(j:Int))&&true))&&decide (2=2))=some (r9 i j e)
     unfold r9
     congr 1
     have a1:decide ((e.2.hand:Int)=(i:Int))=decide (e.2.hand=i):=decide_eq_decide.mpr (by omega)
     have a2:decide ((e.2.kpr:Int)=(j:Int))=decide (e.2.kpr=j):=decide_eq_decide.mpr (by omega)
     rw[a1,a2]
     simp
   walk_at "r"
   cases q:r9 i j e with
   |true=>
    walk_at "r"
    have:dE i j st=some k:=by
     unfold dE
     rw[List.findIdx?_eq_some_iff_getElem]
     obtain⟨hl,ee⟩:=qB_.mp he
     refine⟨hl,by rw[ee];exact q,fun m hm=>?_⟩
     have hml:m < st.row.length:=by omega
     have:=hP st.row[m] (qD_ (i:=m) (by rw[List.getElem?_take,if_pos hm,qA_ hml]))
     rw[this];exact qC_
    rw[this]at hq
    exact hq
   |false=>
    walk_at "r"
    refine⟨rfl,fun x hx=>?_,_,_,rfl⟩
    rw[hsplit]at hx
    rcases qG_.mp hx with z |z
    · exact hP x z
    · simp at z;rw[z];exact q
 · rintro σ G' ⟨rfl,hP,_,_,rfl⟩
   walk_at "r"
   have:dE i j st=none:=by
    unfold dE
    rw[List.findIdx?_eq_none_iff]
    intro x hx
    refine hP x ?_
    have:=yh (xs:=st.row.map enD)
    rw[qM_]at this
    show x∈st.row.take (jv (st.row.map enD)).length
    rw[this,List.take_length]
    exact hx
   rw[this]at hq
   exact hq
theorem Bm{n:Int}{s:Bool}(H:bI G A st)(W:WF st)(hz:mea st<=800000)(hb:st.row=[]->E 1003 G)
 (hq:∀p:Nat,p=(n % (st.row.length:Int)).toNat->p < st.row.length->∀le A' G',Chg A.foot G G'->A.To A' G.length->G.length<=le->bI G' A' (aU st p s).1->G'[le]? =some (.lst ((aU st p s).2.map pW))->Q (.ref le) G'):run (g9 [.ref A.a,.int n,.bl s]) G Q E:=by
 have ho:=H.o
 walk_at "f"
 unfold m8
 walk_at "r"
 refine aJ (a:=!(st.row.map enD).isEmpty) (G':=G) ?_ ?_
 · unfold truth
   dsimp only
   rw[H.r]
 cases q:st.row with
 |nil=>
  rw[q]at hb
  walk_at "r"
  exact hb rfl
 |cons e r=>
  refine w_ite (fun c=>by cases c) fun _=>?_
  walk_at "r"
  refine gN H.r ?_
  rw[qM_]
  have hpos:0 < (st.row.length:Int):=by rw[q,List.length_cons];omega
  walk_at "r"
  refine nO hpos ?_
  have h1:=Int.emod_nonneg n (show (st.row.length:Int)≠0 by omega)
  have h2:=Int.emod_lt_of_pos n hpos
  have hp:(n % (st.row.length:Int)).toNat < st.row.length:=by omega
  have e1:n % (st.row.length:Int)=(((n % (st.row.length:Int)).toNat:Nat):Int):=by omega
  walk_at "r"
  rw[e1]
  refine wB (p:=(n % (st.row.length:Int)).toNat) H W (qA_ hp) hz fun le A' G' c to l h3 h4=>?_
  walk_at "r"
  exact hq _ rfl hp le A' G' c to l h3 h4
structure Lp (sel:Hl->Option Nat) (G0:Hh) (A:Ad) (st:Hl) (le:Nat) (G:Hh) (A':Ad) (st':Hl) (acc:List (Nat×Pr)):Prop where
 H:bI G A' st'
 W:WF st'
 m:mea st'<=mea st
 l:G[le]? =some (.lst (acc.map pW))
 r1:(dD sel st').1=(dD sel st).1
 r2:acc++(dD sel st').2=(dD sel st).2
 c:Chg A.foot G0 G
 to:A.To A' G0.length
 nf:le∉A'.foot
 ge:G0.length<=le
theorem Lp.start{sel:Hl->Option Nat}{G1:Hh}(H:bI G A st)(W:WF st)(c1:Chg [] G G1)(h1:G1[G.length]? =some (.lst [])):Lp sel G A st G.length G1 A st []:=
 ⟨H.frame c1 (by simp),W,qO_ _,h1,rfl,rfl,c1.mono (by simp),Ad.To.refl _ _,fun z=>by have:=H.lt _ z;omega,qO_ _⟩
theorem Lp.step{sel:Hl->Option Nat}(hs:Sel sel){G0:Hh}{le ln p:Nat}{A' A2:Ad}{st':Hl}{acc:List (Nat×Pr)}{G1 G2:Hh}(L:Lp sel G0 A st le G A' st' acc)(hp:sel st'=some p)
 (c1:Chg A'.foot G G1) (to:A'.To A2 G.length) (H2:bI G1 A2 (aU st' p false).1) (c2:Chg [le] G1 G2) (h2:G2[le]? =some (.lst ((acc++(aU st' p false).2).map pW))):Lp sel G0 A st le G2 A2 (aU st' p false).1 (acc++(aU st' p false).2):=by
 have h1:=cH L.W (hs st' p hp)
 have hr:=jx hs L.W hp
 have g:=L.c.1
 have gl:=aG L.l
 have nf2:le∉A2.foot:=fun z=>(to.foot le z).elim L.nf fun w=>by omega
 refine⟨H2.frame c2 (by intro n hn;simp at hn;rw[hn];exact nf2),iW L.W p false,by have:=L.m;omega,h2,?_,?_,?_,L.to.trans to g,nf2,L.ge⟩
 · rw[<-L.r1,hr]
 · rw[<-L.r2,hr,List.append_assoc]
 · refine(L.c.trans' c1 fun n hn=>L.to.foot n hn).trans' c2 fun n hn=>?_
   simp at hn
   rw[hn]
   exact .inr L.ge
theorem B1(H:bI G A st)(W:WF st)(hz:mea st<=800000)(hq:∀le A' G',Chg A.foot G G'->A.To A' G.length->G.length<=le->le∉A'.foot->bI G' A' (dD bf st).1->G'[le]? =some (.lst ((dD bf st).2.map pW))->Q (.ref le) G'):run (g8 [.ref A.a]) G Q E:=by
 have hlen:=nF eS (mea st) st W (qO_ _)
 walk_at "f"
 unfold nM
 refine aR (cK (gY fun G1 c1 l1 h1=>w_next ?_))
 walk_at "s"
 refine aR (uE (m:=mea st) (fun σ G' m=>∃A' st' acc,m=mea st'/\σ=[some (.ref A.a),some (.ref G.length)]/\Lp bf G A st G.length G' A' st' acc) ?_ (by omega) ⟨A,st,[],rfl,rfl,Lp.start H W c1 h1⟩)
 rintro σ G' m ⟨A',st',acc,rfl,rfl,L⟩
 have ho:G'[A.a]? =some (.ins 2 [(9,.ref A'.lk),(10,.ref A'.lh),(11,.ref A'.lr)]):=by rw[<-L.to.a];exact L.H.o
 have hlr:=L.H.r
 refine iI (w_fld (w_var rfl (bN ho (by decide) rfl ?_)))
 refine aJ (a:=!(st'.row.map enD).isEmpty) (G':=G') ?_ ?_
 · unfold truth
   dsimp only
   rw[hlr]
 cases q:st'.row with
 |nil=>
  rw[List.map_nil]
  refine(if_neg (show ¬(!([]:List D).isEmpty)=true by decide)).mpr ?_
  refine w_next ?_
  have hs:bf st'=none:=by unfold bf;rw[if_pos q]
  have hr:=et hs
  have r1:=L.r1
  have r2:=L.r2
  rw[hr]at r1 r2
  dsimp only at r1 r2
  rw[qY_]at r2
  walk_at "r"
  have HH:=L.H
  rw[r1]at HH
  have ll:=L.l
  rw[r2]at ll
  exact hq _ A' G' L.c L.to L.ge L.nf HH ll
 |cons e r=>
  refine(if_pos (show (!(List.map enD (e :: r)).isEmpty)=true from rfl)).mpr ?_
  have hs:bf st'=some 0:=by unfold bf;rw[if_neg (by rw[q];simp)]
  have h0:st'.row[0]? =some e:=by rw[q];rfl
  have hm:=L.m
  have acl:acc.length<=800000:=by
   have:=congrArg List.length L.r2
   rw[qN_]at this
   omega
  have hend:=kR st' 0 false
  refine eI (rY (w_var rfl (jk L.l (bK (w_var rfl (cX ho (ax (w_c (ax (w_c (aM ?_)))))))))))
  rw[<-L.to.a]
  refine wB (p:=0) (s:=false) L.H L.W h0 (by omega) fun ln A2 G2 c2 to l2 H2 h2=>?_
  have hle2:=c2.get L.l L.nf
  refine gj hle2 h2 (by simp [aH];omega) fun G3 c3 l3 h3=>?_
  rw[<-qT_]at h3
  have L2:=L.step (ln:=ln) eS hs c2 to H2 c3 h3
  have:=cH L.W (eS st' 0 hs)
  exact⟨mea (aU st' 0 false).1,by omega,A2,_,_,rfl,by rw[L.to.a],L2⟩
theorem oM{i j:Int}(H:bI G A st)(W:WF st)(hz:mea st<=800000)(hb:(i < 0\/(st.hs.length:Int)<=i)->E 1001 G)(hb2:¬(i < 0\/(st.hs.length:Int)<=i)->(j < 0\/(st.ks.length:Int)<=j)->E 1002 G)
 (hq:∀p k:Nat,i=(p:Int)->j=(k:Int)->p < st.hs.length->k < st.ks.length->∀le A' G',Chg A.foot G G'->A.To A' G.length->G.length<=le->le∉A'.foot->bI G' A' (dD (dE p k) st).1->G'[le]? =some (.lst ((dD (dE p k) st).2.map pW))->Q (.ref le) G'):run (dc [.ref A.a,.int i,.int j]) G Q E:=by
 have ho0:=H.o
 walk_at "f"
 unfold gB
 refine aR (eI (bK (w_var rfl (cX ho0 (ax (w_var rfl (aM ?_)))))))
 refine jg H hb fun p a hi ha=>?_
 have hpl:p < st.hs.length:=by rw[<-H.hl];exact(qB_.mp ha).1
 refine w_next ?_
 refine aR (eI (bK (w_var rfl (cX ho0 (ax (w_var rfl (aM ?_)))))))
 refine j9 H (hb2 (by omega)) fun k a2 hj ha2=>?_
 have hkl:k < st.ks.length:=by rw[<-H.kl];exact(qB_.mp ha2).1
 subst hi hj
 have hq:=hq p k rfl rfl hpl hkl
 have hlen:=nF (fD p k) (mea st) st W (qO_ _)
 refine w_next ?_
 refine aR (cK (gY fun G1 c1 l1 h1=>w_next ?_))
 walk_at "s"
 have H1:=H.frame c1 (by simp)
 refine aR (cK (bK (w_var rfl (cX H1.o (ax (w_var rfl (ax (w_var rfl (aM ?_)))))))))
 refine jM H1 ?_
 refine w_next ?_
 walk_at "s"
 refine aR (uE (m:=mea st) (fun σ G' m=>∃A' st' acc,m=mea st'/\σ=[some (.ref A.a),some (.int (p:Int)),some (.int (k:Int)),some (.ref G.length),some (oN (dE p k st'))]/\Lp (dE p k) G A st G.length G' A' st' acc) ?_ (by omega) ⟨A,st,[],rfl,rfl,Lp.start H W c1 h1⟩)
 rintro σ G' m ⟨A',st',acc,rfl,rfl,L⟩
 have ho:G'[A.a]? =some (.ins 2 [(9,.ref A'.lk),(10,.ref A'.lh),(11,.ref A'.lr)]):=by rw[<-L.to.a];exact L.H.o
 refine mV (x6 (w_var rfl (tR (ky ?_))))
 cases hs:dE p k st' with
 |none=>
  refine(if_neg (show ¬(!decide (oN none=D.non))=true by decide)).mpr ?_
  refine w_next ?_
  have hr:=et hs
  have r1:=L.r1
  have r2:=L.r2
  rw[hr]at r1 r2
  dsimp only at r1 r2
  rw[qY_]at r2
  walk_at "r"
  have HH:=L.H
  rw[r1]at HH
  have ll:=L.l
  rw[r2]at ll
  exact hq _ A' G' L.c L.to L.ge L.nf HH ll
 |some q=>
  refine(if_pos (show (!decide (oN (some q)=D.non))=true from rfl)).mpr ?_
  have hql:=fD p k st' q hs
  have h0:st'.row[q]? =some st'.row[q]:=qA_ hql
  have hm:=L.m
  have acl:acc.length<=800000:=by
   have:=congrArg List.length L.r2
   rw[qN_]at this
   omega
  have hend:=kR st' q false
  refine aR (eI (rY (w_var rfl (jk L.l (bK (w_var rfl (cX ho (ax (w_var rfl (ax (w_c (aM ?_))))))))))))
  rw[<-L.to.a]
  refine wB (p:=q) (s:=false) L.H L.W h0 (by omega) fun ln A2 G2 c2 to l2 H2 h2=>?_
  have hle2:=c2.get L.l L.nf
  refine gj hle2 h2 (by simp [aH];omega) fun G3 c3 l3 h3=>?_
  rw[<-qT_]at h3
  have L2:=L.step (ln:=ln) (fD p k) hs c2 to H2 c3 h3
  have lm:=cH L.W (fD p k st' q hs)
  refine w_next ?_
  have ho2:G3[A'.a]? =some (.ins 2 [(9,.ref A2.lk),(10,.ref A2.lh),(11,.ref A2.lr)]):=by rw[L.to.a,<-L2.to.a];exact L2.H.o
  refine cK (bK (w_var rfl (cX ho2 (ax (w_var rfl (ax (w_var rfl (aM ?_))))))))
  rw[L.to.a,<-L2.to.a]
  refine jM L2.H ?_
  exact⟨mea (aU st' q false).1,by omega,A2,_,_,rfl,by walk_at "s",L2⟩
end
def word(b:Bool):Str:=if b then "read" else "write"
def stD:Option (Int×Int)->D
 |none=>.non
 |some s=>.tup [.int s.1,.int s.2]
structure Wk where
 hand:Nat
 rd:Bool
 val:Option Int
 beg:Nat
 en:Option Nat
 Dh:Option (Int×Int)
def nD:Option Nat->D
 |none=>.non
 |some n=>.int (n:Int)
def wkF(w:Wk):List (Nat×D):=[(12,.int (w.hand:Int)),(13,.str (word w.rd)),(3,oD w.val),(14,.int (w.beg:Int)),(15,nD w.en),(16,stD w.Dh)]
def zq(G:Hh)(a:Nat)(w:Wk):Prop:=G[a]? =some (.ins 3 (wkF w))
structure Sy where
 aq:Hl
 aY:List Wk
 last:List (Nat×Nat)
 cC:Nat
structure Sd where
 s:Nat
 lw:Nat
 ld:Nat
 wa:List Nat
 A:Ad
def gS(l:List (Nat×Nat)):List (Key×D):=l.map fun e=>(.inl (e.1:Int),.int (e.2:Int))
def Sd.own(S:Sd):List Nat:=[S.s,S.lw,S.ld]++S.wa
structure dC (G:Hh) (S:Sd) (y:Sy):Prop where
 o:G[S.s]? =some (.ins 4 [(17,.ref S.A.a),(18,.ref S.lw),(19,.ref S.ld),(20,.int (y.cC:Int))])
 w:G[S.lw]? =some (.lst (refs S.wa))
 d:G[S.ld]? =some (.dK (gS y.last))
 wl:S.wa.length=y.aY.length
 wk:∀(i:Nat) a w,S.wa[i]? =some a->y.aY[i]? =some w->zq G a w
 H:bI G S.A y.aq
 nd:S.own.Nodup
 dj:∀x∈S.own,x∉S.A.foot
structure SWF (y:Sy):Prop where
 W:WF y.aq
 la:∀e∈y.last,e.1 < y.aq.hs.length/\e.2 < y.aY.length
 nd:(y.last.map (·.1)).Nodup
 atw:∀(i:Nat) h,y.aq.hs[i]? =some h->h.atw=true->i∈y.last.map (·.1)
section
variable{G G':Hh}{Q:D->Hh->Prop}{E:Nat->Hh->Prop}{S:Sd}{y:Sy}
theorem dC.lt(Y:dC G S y):∀n∈S.own,n < G.length:=by
 intro n hn
 unfold Sd.own at hn
 rcases qG_.mp hn with z |z
 · simp only[qS_,List.not_mem_nil,or_false]at z
   rcases z with rfl |rfl |rfl
   · exact aG Y.o
   · exact aG Y.w
   · exact aG Y.d
 · obtain⟨i,hi,e⟩:=List.getElem_of_mem z
   have h1:S.wa[i]? =some n:=by rw[qA_ hi,e]
   have h2:i < y.aY.length:=by rw[<-Y.wl];exact hi
   exact aG (Y.wk i n _ h1 (qA_ h2))
theorem vd{i a:Nat}(h:S.wa[i]? =some a):a∈S.own:=by unfold Sd.own;simp [qD_ h]
theorem jr(nd:S.own.Nodup):S.s≠S.lw/\S.s≠S.ld/\S.lw≠S.ld/\S.wa.Nodup/\∀x∈S.wa,x≠S.s/\x≠S.lw/\x≠S.ld:=by
 unfold Sd.own at nd
 rw[List.nodup_append]at nd
 obtain⟨n1,n2,n3⟩:=nd
 simp only[List.nodup_cons,qS_,List.not_mem_nil,or_false,not_or]at n1
 obtain⟨⟨a1,a2⟩,a3,_⟩:=n1
 exact⟨a1,a2,a3,n2,fun x hx=>⟨fun z=>n3 S.s (by simp) x hx z.symm,fun z=>n3 S.lw (by simp) x hx z.symm,fun z=>n3 S.ld (by simp) x hx z.symm⟩⟩
theorem dC.aq{A':Ad}{st:Hl}(Y:dC G S y)(c:Chg S.A.foot G G')(to:S.A.To A' G.length)(H:bI G' A' st):dC G' {S with A:=A'} {y with aq:=st}:=by
 have ns:∀x∈S.own,x∉S.A.foot:=Y.dj
 refine⟨?_,c.get Y.w (ns _ (by simp [Sd.own])),c.get Y.d (ns _ (by simp [Sd.own])),Y.wl,fun i a w h1 h2=>c.get (Y.wk i a w h1 h2) (ns _ (vd h1)),H,Y.nd,fun x hx z=>?_⟩
 · show G'[S.s]? =some (.ins 4 [(17,.ref A'.a),(18,.ref S.lw),(19,.ref S.ld),(20,.int (y.cC:Int))])
   rw[to.a]
   exact c.get Y.o (ns _ (by simp [Sd.own]))
 · rcases to.foot x z with w |w
   · exact Y.dj x hx w
   · have:=Y.lt x hx;omega
theorem dC.Gd{i a:Nat}{w:Wk}(Y:dC G S y)(hi:S.wa[i]? =some a)(c:Chg [a] G G')(hw:zq G' a w):dC G' S {y with aY:=y.aY.set i w}:=by
 obtain⟨_,_,_,nw,q⟩:=jr Y.nd
 have ha:=qD_ hi
 obtain⟨e1,e2,e3⟩:=q a ha
 have ns:∀n,n≠a->n∉ [a]:=fun n h z=>h (by simpa using z)
 refine⟨c.get Y.o (ns _ (Ne.symm e1)),c.get Y.w (ns _ (Ne.symm e2)),c.get Y.d (ns _ (Ne.symm e3)),by simp [Y.wl],fun j b v h1 h2=>?_,Y.H.frame c (by intro n hn;simp at hn;rw[hn];exact Y.dj a (vd hi)),Y.nd,Y.dj⟩
 by_cases z:j=i
 · subst z
   rw[hi]at h1
   cases h1
   have:j < y.aY.length:=by rw[<-Y.wl];exact(qB_.mp hi).1
   have h2:(y.aY.set j w)[j]? =some v:=h2
   rw[qU_ this]at h2
   cases h2
   exact hw
 · have h2:(y.aY.set i w)[j]? =some v:=h2
   rw[qV_ (Ne.symm z)]at h2
   refine c.get (Y.wk j b v h1 h2) (ns _ fun w=>z ?_)
   subst w
   exact get_inj nw h1 hi
theorem dC.frame{T:List Nat}(Y:dC G S y)(c:Chg T G G')(hs:∀n∈T,n∉S.own/\n∉S.A.foot):dC G' S y:=by
 have ns:∀x∈S.own,x∉T:=fun x hx z=>(hs x z).1 hx
 exact⟨c.get Y.o (ns _ (by simp [Sd.own])),c.get Y.w (ns _ (by simp [Sd.own])),c.get Y.d (ns _ (by simp [Sd.own])),Y.wl,fun i a w h1 h2=>c.get (Y.wk i a w h1 h2) (ns _ (vd h1)),Y.H.frame c fun n hn=>(hs n hn).2,Y.nd,Y.dj⟩
theorem rX{l:List (Nat×Nat)}{i p:Nat}(nd:(l.map (·.1)).Nodup)(h:(i,p)∈l):look (gS l) (.inl (i:Int))=some (.int (p:Int)):=by
 induction l with
 |nil=>cases h
 |cons e r ih=>
  obtain⟨k,q⟩:=e
  rw[List.map_cons,List.nodup_cons]at nd
  unfold gS look
  rw[List.map_cons,List.find?_cons]
  by_cases z:k=i
  · subst z
    rcases qS_.mp h with w |w
    · cases w
      rw[qZ_ rfl]
      rfl
    · exact absurd (qH_.mpr ⟨_,w,rfl⟩) nd.1
  · have zz:¬((Sum.inl (k:Int):Key)= .inl (i:Int)):=fun w=>z (by have:=Sum.inl.inj w;omega)
    rw[qa_ zz]
    rcases qS_.mp h with w |w
    · cases w;exact absurd rfl z
    · exact ih nd.2 w
def putL(l:List (Nat×Nat))(k p:Nat):List (Nat×Nat):=if (l.any fun e=>decide (e.1=k))then l.map fun e=>if e.1=k then (e.1,p)else e else l++[(k,p)]
theorem Dr(l:List (Nat×Nat))(k p:Nat):put (gS l) (.inl (k:Int)) (.int (p:Int))=gS (putL l k p):=by
 have key:∀e:Nat×Nat,decide ((Sum.inl (e.1:Int):Key)= .inl (k:Int))=decide (e.1=k):=fun e=>decide_eq_decide.mpr ⟨fun z=>by have:=Sum.inl.inj z;omega,fun z=>by rw[z]⟩
 unfold put putL
 have e1:((gS l).any fun kv=>decide (kv.1=(.inl (k:Int):Key)))=l.any fun e=>decide (e.1=k):=by
  unfold gS
  rw[List.any_map]
  congr 1
  funext e
  exact key e
 rw[e1]
 by_cases c:(l.any fun e=>decide (e.1=k))=true
 · rw[if_pos c,if_pos c]
   unfold gS
   rw[qb_,qb_]
   apply List.map_congr_left
   intro e _
   by_cases z:e.1=k
   · have z':(Sum.inl (e.1:Int):Key)= .inl (k:Int):=by rw[z]
     show (if (Sum.inl (e.1:Int):Key)= .inl (k:Int)then ((Sum.inl (e.1:Int):Key),D.int (p:Int))else (Sum.inl (e.1:Int),D.int (e.2:Int)))=(Sum.inl ((if e.1=k then (e.1,p)else e).1:Int),D.int ((if e.1=k then (e.1,p)else e).2:Int))
     rw[if_pos z',if_pos z]
   · have z':¬(Sum.inl (e.1:Int):Key)= .inl (k:Int):=fun w=>z (by have:=Sum.inl.inj w;omega)
     show (if (Sum.inl (e.1:Int):Key)= .inl (k:Int)then ((Sum.inl (e.1:Int):Key),D.int (p:Int))else (Sum.inl (e.1:Int),D.int (e.2:Int)))=(Sum.inl ((if e.1=k then (e.1,p)else e).1:Int),D.int ((if e.1=k then (e.1,p)else e).2:Int))
     rw[if_neg z',if_neg z]
 · rw[if_neg c,if_neg c]
   unfold gS
   rw[qT_]
   rfl
theorem uh{i b:Nat}{rd:Bool}{v:Option Int}{a:Nat}(ha:G[a]? =some (.ins 3 []))(hq:∀G',Chg [a] G G'->zq G' a ⟨i,rd,v,b,none,none⟩->Q .non G'):run (iP [.ref a,.int (i:Int),.str (word rd),oD v,.int (b:Int)]) G Q E:=by
 walk_at "f"
 unfold ow
 walk_at "r"
 refine aT ha ⟨by decide,qP_ rfl⟩ fun G1 c1 l1 h1=>?_
 walk_at "r"
 refine aT h1 ⟨by decide,qP_ rfl⟩ fun G2 c2 l2 h2=>?_
 walk_at "r"
 refine aT h2 ⟨by decide,qP_ rfl⟩ fun G3 c3 l3 h3=>?_
 walk_at "r"
 refine aT h3 ⟨by decide,qP_ rfl⟩ fun G4 c4 l4 h4=>?_
 walk_at "r"
 refine aT h4 ⟨by decide,qP_ rfl⟩ fun G5 c5 l5 h5=>?_
 walk_at "r"
 refine aT h5 ⟨by decide,qP_ rfl⟩ fun G6 c6 l6 h6=>?_
 walk_at "r"
 exact hq G6 (((((c1.trans c2).trans c3).trans c4).trans c5).trans c6) h6
def pT(y:Sy)(i:Nat)(rd:Bool)(v:Option Int):Sy:={y with aY:=y.aY++[⟨i,rd,v,y.cC,none,none⟩],last:=putL y.last i y.aY.length}
theorem Ap{l:List (Nat×Nat)}{k p:Nat}{e:Nat×Nat}(h:e∈putL l k p):e=(k,p)\/e∈l:=by
 unfold putL at h
 split at h
 · obtain⟨x,hx,ex⟩:=qH_.mp h
   split at ex
   · rename_i z;subst ex;rw[z];exact .inl rfl
   · subst ex;exact .inr hx
 · rcases qG_.mp h with z |z
   · exact .inr z
   · simp at z;rw[z];exact .inl rfl
theorem oI{i:Nat}{rd:Bool}{v:Option Int}(Y:dC G S y)(hz:y.aY.length<=1000)(hz2:y.last.length<=1000)(hq:∀a G',Chg (S.own++S.A.foot) G G'->G.length<=a->dC G' {S with wa:=S.wa++[a]} (pT y i rd v)->Q (.int (y.aY.length:Int)) G'):run (dh [.ref S.s,.int (i:Int),.str (word rd),oD v]) G Q E:=by
 obtain⟨n1,n2,n3,n4,n5⟩:=jr Y.nd
 have ho:=Y.o
 walk_at "f"
 unfold iV
 walk_at "r"
 refine gN Y.w ?_
 rw[show (refs S.wa).length=S.wa.length from qM_ _,Y.wl]
 walk_at "r"
 refine jk Y.w ?_
 refine ny (ax (w_var rfl (ax (w_var rfl (ax (w_var rfl (ax (w_fld (w_var rfl (bN ho (by decide) rfl (aM ?_)))))))))))
 intro G1 c1 l1 h1
 refine uh h1 fun G2 c2 h2=>⟨rfl,?_⟩
 have nw:∀x∈S.own,x∉ [G.length]:=fun x hx z=>by have:=Y.lt x hx;simp at z;omega
 have w2:=c2.get (c1.get Y.w (by simp)) (nw _ (by simp [Sd.own]))
 refine hV w2 (by rw[show (refs S.wa).length=S.wa.length from qM_ _,Y.wl];unfold aH;omega) fun G3 c3 l3 h3=>?_
 have c12:Chg [] G G2:=(c1.trans' c2 (by intro n hn;simp at hn;rw[hn];exact .inr (qO_ _)))
 have Y2:=Y.frame c12 (by simp)
 have nlw:∀x,x≠S.lw->x∉ [S.lw]:=fun x h z=>h (by simpa using z)
 have o3:=c3.get Y2.o (nlw _ n1)
 have d3:=c3.get Y2.d (nlw _ (Ne.symm n3))
 walk_at "r"
 refine xK d3 rfl (by unfold gS;rw[qM_];unfold aH;omega) fun G4 c4 l4 h4=>?_
 rw[Dr]at h4
 walk_at "r"
 have g12:=c12.1
 have nld:∀x,x≠S.ld->x∉ [S.ld]:=fun x h z=>h (by simpa using z)
 have lwlt:=aG Y.w
 have ldlt:=aG Y.d
 refine hq G.length G4 ?_ (qO_ _) ⟨c4.get o3 (nld _ n2),?_,h4,by simp [pT,Y.wl],fun j b w e1 e2=>?_,?_,?_,fun x hx z=>?_⟩
 · refine((c12.mono (by simp)).trans (c3.mono ?_)).trans (c4.mono ?_)
   · intro n hn;simp at hn;rw[hn];simp [Sd.own]
   · intro n hn;simp at hn;rw[hn];simp [Sd.own]
 · have:=c4.get h3 (nld _ n3)
   show G4[S.lw]? =some (.lst (refs (S.wa++[G.length])))
   rw[this]
   unfold refs
   rw[qT_]
   rfl
 · have e1:(S.wa++[G.length])[j]? =some b:=e1
   have e2:(y.aY++[⟨i,rd,v,y.cC,none,none⟩])[j]? =some w:=e2
   by_cases hj:j < S.wa.length
   · rw[qK_ hj]at e1
     rw[qK_ (by rw[<-Y.wl];exact hj)]at e2
     have q:=n5 b (qD_ e1)
     exact c4.get (c3.get (Y2.wk j b w e1 e2) (nlw _ q.2.1)) (nld _ q.2.2)
   · have hj2:j=S.wa.length:=by
      have:=(qB_.mp e1).1
      simp at this
      omega
     subst hj2
     simp at e1
     rw[Y.wl]at e2
     simp at e2
     subst e1 e2
     exact c4.get (c3.get h2 (nlw _ (by omega))) (nld _ (by omega))
 · exact((Y2.H.frame c3 (by intro n hn;simp at hn;rw[hn];exact Y.dj _ (by simp [Sd.own]))).frame c4 (by intro n hn;simp at hn;rw[hn];exact Y.dj _ (by simp [Sd.own])))
 · have nd:=Y.nd
   unfold Sd.own at nd ⊢
   dsimp only
   rw[<-List.append_assoc,List.nodup_append]
   refine⟨nd,by simp,fun x hx z hz w=>?_⟩
   simp at hz
   have:=Y.lt x hx
   omega
 · unfold Sd.own at hx
   dsimp only at hx
   rw[<-List.append_assoc]at hx
   rcases qG_.mp hx with w |w
   · exact Y.dj x w z
   · simp at w
     have:=Y.H.lt x z
     omega
end
def lastOf(l:List (Nat×Nat))(i:Nat):Nat:=((l.find? fun e=>decide (e.1=i)).map (·.2)).getD 0
theorem pO{l:List (Nat×Nat)}{i:Nat}(h:i∈l.map (·.1)):(i,lastOf l i)∈l:=by
 unfold lastOf
 cases q:l.find? fun e=>decide (e.1=i)with
 |none=>
  obtain⟨e,he,ee⟩:=qH_.mp h
  exact absurd (qZ_ ee) (List.find?_eq_none.mp q e he)
 |some e=>
  have h1:=List.find?_some q
  have h2:=List.mem_of_find?_eq_some q
  have h3:e.1=i:=of_decide_eq_true h1
  show (i,e.2)∈l
  rw[<-h3]
  exact h2
def lU(y:Sy)(q:Nat)(f:Wk->Wk):Sy:=match y.aY[q]? with
 |none=>y
 |some w=>{y with aY:=y.aY.set q (f w)}
def Co(y:Sy)(p:Pr)(w:Wk):Wk:={w with val:=some p.2,en:=some y.cC}
def uT(y:Sy)(e:Nat×Pr):Sy:=lU y (lastOf y.last e.1) (Co y e.2)
def ij(y:Sy)(es:List (Nat×Pr)):Sy:=es.foldl uT y
theorem qA(y:Sy)(q:Nat)(f:Wk->Wk):(lU y q f).last=y.last/\(lU y q f).aq=y.aq/\(lU y q f).cC=y.cC/\(lU y q f).aY.length=y.aY.length:=by
 unfold lU
 split <;> simp
theorem iK:∀(es:List (Nat×Pr)) (y:Sy),(ij y es).last=y.last/\(ij y es).aq=y.aq/\(ij y es).cC=y.cC/\(ij y es).aY.length=y.aY.length
 | [],y=>⟨rfl,rfl,rfl,rfl⟩
 |e :: r,y=>by
  have h1:=iK r (uT y e)
  have h2:=qA y (lastOf y.last e.1) (Co y e.2)
  unfold ij at*
  rw[List.foldl_cons]
  exact⟨h1.1.trans h2.1,h1.2.1.trans h2.2.1,h1.2.2.1.trans h2.2.2.1,h1.2.2.2.trans h2.2.2.2⟩
def seD(y:Sy)(e:Nat×Pr):D:= .tup [.int (lastOf y.last e.1:Int),.int e.2.2]
section
variable{G G':Hh}{Q:D->Hh->Prop}{E:Nat->Hh->Prop}{S:Sd}{y:Sy}
theorem dC.FZ(Y:dC G S y){i:Nat}{w:Wk}(h:y.aY[i]? =some w):∃a,S.wa[i]? =some a/\zq G a w:=by
 have:i < S.wa.length:=by rw[Y.wl];exact(qB_.mp h).1
 exact⟨_,qA_ this,Y.wk i _ w (qA_ this) h⟩
theorem vN{e:Nat×Pr}(Y:dC G S y)(W:SWF y)(he:e.1∈y.last.map (·.1))(hq:∀G',Chg S.own G G'->dC G' S (uT y e)->Q (seD y e) G'):run (fq [.ref S.s,.int (e.1:Int),pD e.2]) G Q E:=by
 have hm:=pO he
 have hlt:=(W.la _ hm).2
 have hw:y.aY[lastOf y.last e.1]? =some y.aY[lastOf y.last e.1]:=qA_ hlt
 generalize y.aY[lastOf y.last e.1]=w at hw
 obtain⟨a,ha,hwa⟩:=Y.FZ hw
 have ho:=Y.o
 have hne:S.s∉ [a]:=fun z=>by simp at z;exact(jr Y.nd).2.2.2.2 a (qD_ ha) |>.1 z.symm
 unfold zq wkF at hwa
 walk_at "f"
 unfold ju
 refine aR (cK (bo (w_fld (w_var rfl (bN ho (by decide) rfl (w_var rfl (CL Y.d rfl (rX W.nd hm) (w_next ?_))))))))
 walk_at "s"
 refine aR (cK (bo (w_fld (w_var rfl (bN ho (by decide) rfl (w_var rfl (gP Y.w (jD ha) (w_next ?_))))))))
 walk_at "s"
 unfold pD
 refine aR (gr (bo (w_var rfl (w_c (cM rfl (w_var rfl ?_))))))
 refine aT hwa ⟨by decide,qP_ rfl⟩ fun G1 c1 l1 h1=>?_
 have ho1:=c1.get ho hne
 refine w_next ?_
 refine aR (gr (w_fld (w_var rfl (bN ho1 (by decide) rfl (w_var rfl ?_)))))
 refine aT h1 ⟨by decide,qP_ rfl⟩ fun G2 c2 l2 h2=>?_
 refine w_next ?_
 refine cU (xD (ax (w_var rfl (ax (w_fld (w_var rfl (bN h2 (by decide) rfl (aM ⟨qP_ (by with_unfolding_all rfl),?_⟩))))))))
 walk_at "r"
 have c:=c1.trans c2
 have Y2:=Y.Gd (w:=Co y e.2 w) ha c h2
 have e1:uT y e={y with aY:=y.aY.set (lastOf y.last e.1) (Co y e.2 w)}:=by
  unfold uT lU
  rw[hw]
 refine hq G2 (c.mono (by intro n hn;simp at hn;rw[hn];exact vd ha)) ?_
 rw[e1]
 exact Y2
theorem uo{le:Nat}{es:List (Nat×Pr)}(Y:dC G S y)(W:SWF y)(hl:G[le]? =some (.lst (es.map pW)))(hn:le∉S.own)(hz:es.length<=1000000)(he:∀e∈es,e.1∈y.last.map (·.1))
 (hq:∀l2 G',Chg S.own G G'->G.length<=l2->dC G' S (ij y es)->G'[l2]? =some (.lst (es.map (seD y)))->Q (.ref l2) G'):run (bR [.ref S.s,.ref le]) G Q E:=by
 walk_at "f"
 unfold iJ
 refine cU (td (wY (w_var rfl (oa hl ?_))))
 refine jB (xs:=es.map pW) (fun i acc G'=>Chg S.own G G'/\dC G' S (ij y (es.take i))/\acc=(es.take i).map (seD y)) ?_ ?_ ?_ _ 0 [] G List.drop_zero (qf_ _) ⟨Chg.refl _ _,Y,rfl⟩
 · rintro i acc G' ⟨c,_⟩
   exact qZ_ (c.get hl hn)
 · rintro i x acc G' hx ⟨c,Y',rfl⟩
   obtain⟨e,he1,rfl⟩:=o8 hx
   refine lP ?_
   rw[if_pos rfl]
   obtain⟨q1,q2,q3,q4⟩:=iK (es.take i) y
   have W':SWF (ij y (es.take i)):=⟨by rw[q2];exact W.W,by rw[q1,q2,q4];exact W.la,by rw[q1];exact W.nd,by rw[q1,q2];exact W.atw⟩
   have ho:=Y'.o
   unfold pW
   refine bK (w_var rfl (cX ho (ax (bo (w_var rfl (w_c (cM rfl (ax (bo (w_var rfl (w_c (cM rfl (aM ?_)))))))))))))
   refine vN (e:=e) Y' W' (by rw[q1];exact he e (qD_ he1)) fun G2 c2 Y2=>?_
   refine⟨by have:=List.length_take_le i es;simp [aH];omega,c.trans c2,?_,?_⟩
   · rw[take_succ he1]
     unfold ij at*
     rw[List.foldl_append]
     exact Y2
   · rw[take_succ he1,qT_]
     unfold seD
     rw[q1]
     rfl
 · rintro acc G' ⟨c,Y',rfl⟩
   rw[qM_,List.take_length]at*
   walk_at "r"
   have c3:Chg [] G' (G'++[O.lst (es.map (seD y))]):=Chg.add _ _
   exact hq G'.length _ (c.trans (c3.mono (by simp))) c.1 (Y'.frame c3 (by simp)) (cE _ _)
end
section
variable{G G':Hh}{Q:D->Hh->Prop}{E:Nat->Hh->Prop}{S:Sd}{y:Sy}{σ:St}{QS:Fl×St->Hh->Prop}
theorem CB{e:E3}{g:D->St->M St}{body:S3}(h:run (e σ) G (fun x G1=>∃n kvs,x= .ref n/\G1[n]? =some (.dK kvs)/\run (forL (fun _=>true) (fun x σ=>bnd (g x σ) body) (fW kvs) σ) (G1.set n (.dF kvs)) (fun p G2=>G2[n]? =some (.dF kvs)/\QS p (G2.set n (.dK kvs))) (fun _ _=>False)) E):run (we e g body σ) G QS E:=by
 refine aK (az h (fun x G1 q=>?_) fun _ _ z=>z)
 obtain⟨n,kvs,rfl,hn,hr⟩:=q
 unfold M3.run vY
 dsimp only
 rw[hn]
 dsimp only
 unfold uz
 unfold M3.run at hr
 cases q:forL (fun _=>true) (fun x σ=>bnd (g x σ) body) (fW kvs) σ (G1.set n (.dF kvs))with
 |none=>rw[q]at hr;exact hr
 |some r=>
  obtain⟨o,G2⟩:=r
  rw[q]at hr
  cases o with
  |exc c=>exact absurd hr (by intro z;exact z)
  |ok p=>
   dsimp only at hr ⊢
   rw[if_pos hr.1]
   exact hr.2
def tL(p:Pr)(w:Wk):Wk:={w with Dh:=some p.1}
def dP(y:Sy)(e:Nat×Nat):Sy:=match (y.aq.hs[e.1]?).bind (·.pair)with
 |none=>y
 |some p=>lU y e.2 (tL p)
def m9(y:Sy):Sy:=y.last.foldl dP y
theorem vy(y:Sy)(e:Nat×Nat):(dP y e).last=y.last/\(dP y e).aq=y.aq/\(dP y e).cC=y.cC/\(dP y e).aY.length=y.aY.length:=by
 unfold dP
 split
 · exact⟨rfl,rfl,rfl,rfl⟩
 · exact qA _ _ _
theorem iQ:∀(l:List (Nat×Nat)) (y:Sy),(l.foldl dP y).last=y.last/\(l.foldl dP y).aq=y.aq/\(l.foldl dP y).cC=y.cC/\(l.foldl dP y).aY.length=y.aY.length
 | [],y=>⟨rfl,rfl,rfl,rfl⟩
 |e :: l,y=>by
  obtain⟨a,b,c,d⟩:=iQ l (dP y e)
  obtain⟨a',b',c',d'⟩:=vy y e
  exact⟨a.trans a',b.trans b',c.trans c',d.trans d'⟩
theorem jw{n m:Nat}{o p:O}(h:(G.set n o)[m]? =some p)(hm:m≠n):G[m]? =some p:=by
 rw[qV_ (Ne.symm hm)]at h;exact h
theorem uG{T:List Nat}{n:Nat}{o:O}(c:Chg T G G'):Chg T (G.set n o) (G'.set n o):=by
 refine⟨by simpa using c.1,fun m hm ht=>?_⟩
 have hm':m < G.length:=by simpa using hm
 by_cases z:m=n
 · subst z
   rw[qU_ hm',qU_ (qd_ hm' c.1)]
 · rw[qV_ (Ne.symm z),qV_ (Ne.symm z)]
   exact c.2 m hm' ht
theorem vh{n:Nat}{o p:O}(h:G[n]? =some o):(G.set n p).set n o=G:=by
 rw[List.set_set]
 apply List.ext_getElem?
 intro m
 by_cases z:m=n
 · subst z
   rw[qU_ (aG h),h]
 · rw[qV_ (Ne.symm z)]
theorem qX(Y:dC G S y)(W:SWF y)(hq:∀G',Chg S.own G G'->dC G' S (m9 y)->Q .non G'):run (dI [.ref S.s]) G Q E:=by
 obtain⟨n1,n2,n3,n4,n5⟩:=jr Y.nd
 have ho:=Y.o
 walk_at "f"
 unfold gT
 refine CB (w_fld (w_var rfl (bN ho (by decide) rfl ⟨S.ld,gS y.last,rfl,Y.d,?_⟩)))
 have hit:fW (gS y.last)=y.last.map fun e=>D.tup [.int (e.1:Int),.int (e.2:Int)]:=by
  unfold fW gS
  rw[qb_]
  rfl
 rw[hit]
 refine zO (fun i σ G'=>(∃a b c d,σ=[some (.ref S.s),a,b,c,d])/\G'[S.ld]? =some (.dF (gS y.last))/\Chg S.own G (G'.set S.ld (.dK (gS y.last)))/\dC (G'.set S.ld (.dK (gS y.last))) S ((y.last.take i).foldl dP y)) (fun _ _ _ _=>rfl) ?_ ?_ ⟨⟨_,_,_,_,rfl⟩,jy Y.d,by rw[vh Y.d];exact Chg.refl _ _,by rw[vh Y.d];exact Y⟩
 · rintro i e σ G' he ⟨⟨v1,v2,v3,v4,rfl⟩,hf,c,Y'⟩
   obtain⟨q1,q2,q3,q4⟩:=iQ (y.last.take i) y
   have hem:=qD_ he
   obtain⟨l1,l2⟩:=W.la e hem
   rw[show (y.last.take (i+1)).foldl dP y=dP ((y.last.take i).foldl dP y) e by rw[take_succ he,List.foldl_append];rfl]
   generalize (y.last.take i).foldl dP y=y' at*
   have hh:y'.aq.hs[e.1]? =some y.aq.hs[e.1]:=by rw[q2];exact qA_ l1
   generalize y.aq.hs[e.1]=h at hh
   obtain⟨a,d,ha,hd,hat⟩:=Y'.H.hand hh
   have hso:∀x,x∈S.A.foot->x≠S.ld:=fun x hx z=>Y.dj S.ld (by simp [Sd.own]) (z ▸ hx)
   have o1:=jw Y'.o n2
   have w1:=jw Y'.w n3
   have ho1:=jw Y'.H.o (hso _ (by simp [Ad.foot]))
   have hh1:=jw Y'.H.h (hso _ (by simp [Ad.foot]))
   have ha1:=jw hat.1 (hso _ (vc ha))
   refine aK (CW rfl ?_)
   walk_at "s"
   refine aR (cK (w_fld (bo (w_fld (w_fld (w_var rfl (bN o1 (by decide) rfl (bN ho1 (by decide) rfl (w_var rfl (gP hh1 (jD ha) (bN ha1 (by decide) rfl (w_next ?_))))))))))))
   walk_at "s"
   refine fO (mV (x6 (w_var rfl ?_)))
   walk_at "r"
   rw[o5]
   cases hp:h.pair with
   |none=>
    have e1:dP y' e=y':=by unfold dP;rw[hh];dsimp only[Option.bind];rw[hp]
    rw[e1]
    dsimp only[Option.isNone]
    walk_at "r"
    exact⟨⟨_,_,_,_,rfl⟩,hf,c,Y'⟩
   |some p=>
    have e1:dP y' e=lU y' e.2 (tL p):=by unfold dP;rw[hh];dsimp only[Option.bind];rw[hp]
    rw[e1]
    dsimp only[Option.isNone]
    have hw:y'.aY[e.2]? =some (y'.aY[e.2]'(by rw[q4];exact l2)):=qA_ _
    generalize y'.aY[e.2]'(by rw[q4];exact l2)=w at hw
    obtain⟨b,hb,hwb⟩:=Y'.FZ hw
    have hbn:=n5 b (qD_ hb)
    have hwb1:=jw hwb hbn.2.2
    unfold wkF at hwb1
    walk_at "r"
    refine gP w1 (jD hb) ?_
    walk_at "r"
    unfold opD pD
    walk_at "r"
    refine aT hwb1 ⟨by decide,qP_ rfl⟩ fun G2 c2 g2 h2=>?_
    refine⟨⟨_,_,_,_,rfl⟩,c2.get hf (by intro z;simp at z;exact hbn.2.2 z.symm),?_,?_⟩
    · exact c.trans ((uG c2).mono (by intro n hn;simp at hn;rw[hn];exact vd hb))
    · unfold lU
      rw[hw]
      refine Y'.Gd (w:=tL p w) hb (uG c2) ?_
      show (G2.set S.ld _)[b]? =some (.ins 3 (wkF (tL p w)))
      rw[qV_ (Ne.symm hbn.2.2)]
      exact h2
 · rintro σ G' ⟨⟨v1,v2,v3,v4,rfl⟩,hf,c,Y'⟩
   refine⟨hf,?_⟩
   rw[List.take_length]at Y'
   walk_at "r"
   exact hq _ c Y'
end
inductive dt where
 |wr (i v:Int)
 |rd (i:Int)
 |ca (n:Int) (s:Bool)
 |pa (i j:Int)
 |sw
 |ag (i:Int)
 |qu (i:Int)
 |st (j:Int)
 |wa (j:Int)
def dk:dt->D
 | .wr i v=>.tup [.str "write",.int i,.int v]
 | .rd i=>.tup [.str "read",.int i]
 | .ca n s=>.tup [.str "carry",.int n,.bl s]
 | .pa i j=>.tup [.str "pass",.int i,.int j]
 | .sw=>.tup [.str "sweep"]
 | .ag i=>.tup [.str "again",.int i]
 | .qu i=>.tup [.str "quit",.int i]
 | .st j=>.tup [.str "stop",.int j]
 | .wa j=>.tup [.str "wake",.int j]
inductive An where
 |one (d:D)
 |lst (ds:List D)
inductive Rs where
 |no (c:Nat)
 |ok (y:Sy) (a:An)
def inB(i:Int)(n:Nat):Option Nat:=if i < 0\/(n:Int)<=i then none else some i.toNat
theorem gE{i:Int}{n:Nat}(h:i < 0\/(n:Int)<=i):inB i n=none:=if_pos h
theorem iu{i:Int}{n j:Nat}(h:i=(j:Int))(hj:j < n):inB i n=some j:=by
 unfold inB
 rw[if_neg (by omega),h]
 rfl
def cF(y:Sy)(h:Hl):Sy:={y with aq:=h}
def endsF(y:Sy)(r:Hl×List (Nat×Pr)):Sy:=ij (cF y r.1) r.2
def oq(y:Sy)(r:Hl×List (Nat×Pr)):List D:=r.2.map (seD y)
def dU(y:Sy)(i:Int)(rd:Bool)(v:Option Int):Rs:=match inB i y.aq.hs.length with
 |none=>.no 1001
 |some j=>match y.aq.hs[j]? with
  |none=>.no 1001
  |some h=>if h.atw then .no 1004 else .ok (pT (cF y (gk y.aq j h v)) j rd v) (.one (.int (y.aY.length:Int)))
def jU(y:Sy)(i:Int)(f:Nat->Hd->Rs):Rs:=match inB i y.aq.hs.length with
 |none=>.no 1001
 |some j=>match y.aq.hs[j]? with
  |none=>.no 1001
  |some h=>if h.atw then f j h else .no 1005
def nX(y:Sy)(i:Int)(f:Nat->Kr->Rs):Rs:=match inB i y.aq.ks.length with
 |none=>.no 1002
 |some j=>match y.aq.ks[j]? with
  |none=>.no 1002
  |some k=>f j k
def zg:List D->D
 | []=>.non
 |d :: _=>d
def Bn(y:Sy)(n:Int):Nat:=(n % (y.aq.row.length:Int)).toNat
def doneF(y:Sy):dt->Rs
 | .wr i v=>dU y i false (some v)
 | .rd i=>dU y i true none
 | .ca n s=>if y.aq.row=[]then .no 1003 else .ok (endsF y (aU y.aq (Bn y n) s)) (.one (zg (oq y (aU y.aq (Bn y n) s))))
 | .pa i j=>match inB i y.aq.hs.length with
   |none=>.no 1001
   |some p=>match inB j y.aq.ks.length with
    |none=>.no 1002
    |some k=>.ok (endsF y (dD (dE p k) y.aq)) (.lst (oq y (dD (dE p k) y.aq)))
 | .sw=>.ok (endsF y (dD bf y.aq)) (.lst (oq y (dD bf y.aq)))
 | .ag i=>jU y i fun j h=>.ok (cF y {y.aq with row:=newRow y.aq h}) (.one (.int ((bz h).length:Int)))
 | .qu i=>jU y i fun j h=>.ok (cF y {y.aq with hs:=y.aq.hs.set j {h with atw:=false}}) (.one (.int (lastOf y.last j:Int)))
 | .st i=>nX y i fun j k=>.ok (cF y {y.aq with ks:=y.aq.ks.set j {k with up:=false}}) (.one (.bl k.up))
 | .wa i=>nX y i fun j k=>.ok (cF y {y.aq with ks:=y.aq.ks.set j {k with up:=true}}) (.one (.bl (!k.up)))
structure Iv (y:Sy):Prop where
 W:SWF y
 m:mea y.aq<=40*y.cC
 w:y.aY.length<=y.cC
 l:y.last.length<=9
theorem BP{y:Sy}(nd:(y.last.map (·.1)).Nodup)(la:∀e∈y.last,e.1 < y.aq.hs.length)(hs:y.aq.hs.length<=9):y.last.length<=9:=by
 have:=qr y.aq.hs.length (y.last.map (·.1)) nd (fun x hx=>by
  obtain⟨e,he,rfl⟩:=qH_.mp hx
  exact la e he)
 rw[qM_]at this
 omega
structure Hon (a b:Hl):Prop where
 W:WF b
 hl:b.hs.length=a.hs.length
 at':∀(i:Nat) g,b.hs[i]? =some g->g.atw=true->∃h,a.hs[i]? =some h/\h.atw=true
theorem Hon.swf{y:Sy}{b:Hl}(W:SWF y)(h:Hon y.aq b):SWF (cF y b):=by
 refine⟨h.W,fun e he=>⟨by show e.1 < b.hs.length;rw[h.hl];exact(W.la e he).1,(W.la e he).2⟩,W.nd,fun i g hi hg=>?_⟩
 obtain⟨x,h1,h2⟩:=h.at' i g hi hg
 exact W.atw i x h1 h2
theorem qC{a:Hl}(W:WF a)(p:Nat)(s:Bool):Hon a (aU a p s).1:=by
 refine⟨iW W p s,?_,?_⟩
 · unfold aU
   split
   · rfl
   · split
     · rfl
     · simp
   · split
     · rfl
     · rfl
 · intro i g
   unfold aU
   split
   · exact fun h1 h2=>⟨g,h1,h2⟩
   · rename_i l hr
     split
     · exact fun h1 h2=>⟨g,h1,h2⟩
     · rename_i h hh
       intro h1 h2
       have h1:(a.hs.set l.hand (bH h l).1)[i]? =some g:=h1
       by_cases z:i=l.hand
       · subst z
         rw[qU_ (qB_.mp hh).1]at h1
         cases h1
         refine⟨h,hh,?_⟩
         revert h2
         unfold bH
         cases q:h.atw with
         |true=>exact fun _=>rfl
         |false=>intro h2;simp [q]at h2
       · rw[qV_ (Ne.symm z)]at h1
         exact⟨g,h1,h2⟩
   · split
     · exact fun h1 h2=>⟨g,h1,h2⟩
     · exact fun h1 h2=>⟨g,h1,h2⟩
theorem Hon.trans{a b c:Hl}(x:Hon a b)(y:Hon b c):Hon a c:=⟨y.W,y.hl.trans x.hl,fun i g h1 h2=>by
 obtain⟨g',h3,h4⟩:=y.at' i g h1 h2
 exact x.at' i g' h3 h4⟩
theorem Hon.refl{a:Hl}(W:WF a):Hon a a:=⟨W,rfl,fun _ g h1 h2=>⟨g,h1,h2⟩⟩
theorem wZ{a:Hl}(p:Nat)(s:Bool):∀e∈(aU a p s).2,∃h,a.hs[e.1]? =some h/\h.atw=true:=by
 intro e he
 unfold aU at he
 split at he
 · cases he
 · split at he
   · cases he
   · rename_i l hr h hh
     dsimp only at he
     split at he
     · cases he
     · rename_i p hp
       simp at he
       subst he
       refine⟨h,hh,?_⟩
       unfold bH at hp
       cases q:h.atw with
       |true=>rfl
       |false=>simp [q]at hp
 · split at he <;> cases he
theorem p9{sel:Hl->Option Nat}(hs:Sel sel):∀(n:Nat) (a:Hl),WF a->mea a<=n->Hon a (dD sel a).1/\mea (dD sel a).1<=mea a/\∀e∈(dD sel a).2,∃h,a.hs[e.1]? =some h/\h.atw=true:=by
 intro n
 induction n with
 |zero=>
  intro a W hm
  cases q:sel a with
  |none=>rw[et q];exact⟨Hon.refl W,qO_ _,by simp⟩
  |some p=>
   have:=cH W (hs a p q)
   omega
 |succ n ih=>
  intro a W hm
  cases q:sel a with
  |none=>rw[et q];exact⟨Hon.refl W,qO_ _,by simp⟩
  |some p=>
   rw[jx hs W q]
   have h1:=cH W (hs a p q)
   have c:=qC W p false
   obtain⟨i1,i2,i3⟩:=ih (aU a p false).1 c.W (by omega)
   refine⟨c.trans i1,by dsimp only;omega,fun e he=>?_⟩
   rcases qG_.mp he with z |z
   · exact wZ p false e z
   · obtain⟨h,h2,h3⟩:=i3 e z
     exact c.at' _ h h2 h3
theorem xn{st:Hl}(W:WF st){j:Nat}{h h':Hd}(hj:st.hs[j]? =some h)(ok:HOK st.ks.length j h')(hr:h.rnd<=h'.rnd)(hp:h'.rnd=h.rnd->h'.pair=h.pair):WF {st with hs:=st.hs.set j h'}:=by
 have hlt:=(qB_.mp hj).1
 refine⟨fun i g hg=>?_,fun e he=>?_,W.ksz,by show (st.hs.set j h').length<=9;simpa using W.hsz⟩
 · have hg:(st.hs.set j h')[i]? =some g:=hg
   by_cases z:i=j
   · subst z
     rw[qU_ hlt]at hg
     cases hg
     exact ok
   · rw[qV_ (Ne.symm z)]at hg
     exact W.hk i g hg
 · obtain⟨g,h1,h2,h3,h4⟩:=W.rw e he
   by_cases z:e.2.hand=j
   · rw[z]at h1
     rw[hj]at h1
     cases h1
     refine⟨h',by show (st.hs.set j h')[e.2.hand]? =some h';rw[z];exact qU_ hlt,h2,by omega,fun w=>?_⟩
     have e1:h'.rnd=h.rnd:=by omega
     rw[hp e1]
     exact h4 (by omega)
   · exact⟨g,by show (st.hs.set j h')[e.2.hand]? =some g;rw[qV_ (Ne.symm z)];exact h1,h2,h3,h4⟩
theorem xF{st:Hl}(W:WF st)(j:Nat)(k:Kr):WF {st with ks:=st.ks.set j k}:=by
 have hl:(st.ks.set j k).length=st.ks.length:=by simp
 refine⟨fun i g hg=>?_,fun e he=>?_,by show (st.ks.set j k).length<=9;rw[hl];exact W.ksz,W.hsz⟩
 · have:=W.hk i g hg
   show g.num=i/\g.cnt=(st.ks.set j k).length/\_
   rw[hl]
   exact this
 · have:=W.rw e he
   show ∃h,st.hs[e.2.hand]? =some h/\e.2.kpr < (st.ks.set j k).length/\_
   rw[hl]
   exact this
theorem zM{st:Hl}(W:WF st){j:Nat}{h:Hd}(hj:st.hs[j]? =some h):WF {st with row:=newRow st h}:=by
 refine⟨W.hk,fun e he=>?_,W.ksz,W.hsz⟩
 have he:e∈st.row++(bz h).map fun x=>(false,x):=he
 rcases qG_.mp he with z |z
 · exact W.rw e z
 · obtain⟨x,hx,rfl⟩:=qH_.mp z
   obtain⟨a,b,c,d⟩:=pj (W.hok hj) hx
   dsimp only
   refine⟨h,by rw[a];exact hj,b,by omega,fun _=>⟨fun _=>d,fun q=>by cases q⟩⟩
theorem AI{st:Hl}(W:WF st){j:Nat}{h:Hd}(hj:st.hs[j]? =some h)(v:Option Int):WF (gk st j h v):=by
 have hlt:=(qB_.mp hj).1
 have ok:=W.hok hj
 have W1:WF {st with hs:=st.hs.set j (bD h v)}:=xn W hj (vF (by exact ok.2.1) (by exact ok.1) none) (by show h.rnd<=h.rnd+1;omega) (fun z=>by have z:h.rnd+1=h.rnd:=z;omega)
 exact zM W1 (by show (st.hs.set j (bD h v))[j]? =_;exact qU_ hlt)
theorem xb(st:Hl)(h:Hd)(hc:h.cnt<=9):((newRow st h).map wt).sum<=(st.row.map wt).sum+18:=by
 unfold newRow
 rw[qT_,List.sum_append,oy]
 have:=iY h
 omega
theorem DU(h:Hd):pot h<=2*h.cnt:=by unfold pot;split <;> omega
theorem yN{st:Hl}(W:WF st){j:Nat}{h:Hd}(hj:st.hs[j]? =some h)(v:Option Int):mea (gk st j h v)<=mea st+36:=by
 have ok:=(W.hok hj).2.1
 have hk:=W.ksz
 have hc:(bD h v).cnt<=9:=by show h.cnt<=9;omega
 have a:=xb st (bD h v) hc
 have b:=sum_set (g:=bD h v) hj
 have c:=DU (bD h v)
 show ((newRow st (bD h v)).map wt).sum+((st.hs.set j (bD h v)).map pot).sum<=mea st+36
 unfold mea
 omega
theorem yf{st:Hl}(W:WF st){j:Nat}{h:Hd}(hj:st.hs[j]? =some h):mea {st with row:=newRow st h}<=mea st+18:=by
 have ok:=(W.hok hj).2.1
 have hk:=W.ksz
 have a:=xb st h (by omega)
 show ((newRow st h).map wt).sum+(st.hs.map pot).sum<=mea st+18
 unfold mea
 omega
theorem AA{st:Hl}{j:Nat}{h:Hd}(hj:st.hs[j]? =some h):mea {st with hs:=st.hs.set j {h with atw:=false}}<=mea st:=by
 have b:=sum_set (g:={h with atw:=false}) hj
 have c:pot {h with atw:=false}=0:=by unfold pot;rfl
 show (st.row.map wt).sum+((st.hs.set j {h with atw:=false}).map pot).sum<=mea st
 unfold mea
 omega
structure Iv1 (y z:Sy):Prop where
 W:SWF z
 d:z.cC=y.cC
 m:mea z.aq<=40*y.cC+40
 w:z.aY.length<=y.cC+1
 l:z.last.length<=9
 hl:z.aq.hs.length=y.aq.hs.length
 kl:z.aq.ks.length=y.aq.ks.length
theorem Iv.same{y:Sy}(I:Iv y):Iv1 y y:=⟨I.W,rfl,by have:=I.m;omega,by have:=I.w;omega,I.l,rfl,rfl⟩
theorem rC{y z:Sy}(I:Iv1 y z)(es:List (Nat×Pr)):Iv1 y (ij z es):=by
 obtain⟨q1,q2,q3,q4⟩:=iK es z
 exact⟨⟨by rw[q2];exact I.W.W,by rw[q1,q2,q4];exact I.W.la,by rw[q1];exact I.W.nd,by rw[q1,q2];exact I.W.atw⟩,q3.trans I.d,by rw[q2];exact I.m,by rw[q4];exact I.w,by rw[q1];exact I.l,by rw[q2];exact I.hl,by rw[q2];exact I.kl⟩
theorem kH{y:Sy}(I:Iv y){b:Hl}(h:Hon y.aq b)(hm:mea b<=mea y.aq+40)(hk:b.ks.length=y.aq.ks.length):Iv1 y (cF y b):=
 ⟨h.swf I.W,rfl,by have:=I.m;show mea b<=_;omega,by have:=I.w;show y.aY.length<=_;omega,I.l,h.hl,hk⟩
theorem uU(l:List (Nat×Nat))(k p:Nat):(putL l k p).map (·.1)=if (l.any fun e=>decide (e.1=k))then l.map (·.1)else l.map (·.1)++[k]:=by
 unfold putL
 split
 · rw[qb_]
   apply List.map_congr_left
   intro e _
   show (if e.1=k then (e.1,p)else e).1=e.1
   split <;> rfl
 · simp
theorem BE{l:List (Nat×Nat)}{k p:Nat}(h:(l.map (·.1)).Nodup):((putL l k p).map (·.1)).Nodup:=by
 rw[uU]
 split
 · exact h
 · rename_i q
   rw[List.nodup_append]
   refine⟨h,by simp,fun a ha b hb w=>q ?_⟩
   simp at hb
   obtain⟨e,he,e1⟩:=qH_.mp ha
   rw[List.any_eq_true]
   exact⟨e,he,qZ_ (by rw[e1,w,hb])⟩
theorem B7{l:List (Nat×Nat)}{k p i:Nat}(h:i=k\/i∈l.map (·.1)):i∈(putL l k p).map (·.1):=by
 rw[uU]
 split
 · rename_i q
   rcases h with rfl |h
   · rw[List.any_eq_true]at q
     obtain⟨e,he,e1⟩:=q
     exact qH_.mpr ⟨e,he,of_decide_eq_true e1⟩
   · exact h
 · rcases h with rfl |h
   · simp
   · exact qF_ _ h
theorem zB{y:Sy}(I:Iv y){j:Nat}{h:Hd}(hj:y.aq.hs[j]? =some h)(rd:Bool)(v:Option Int):Iv1 y (pT (cF y (gk y.aq j h v)) j rd v):=by
 have hlt:=(qB_.mp hj).1
 have W:=I.W
 have wf:=AI W.W hj v
 have hl:(gk y.aq j h v).hs.length=y.aq.hs.length:=by show (y.aq.hs.set j _).length=_;simp
 have la:∀e∈putL y.last j y.aY.length,e.1 < y.aq.hs.length/\e.2 < y.aY.length+1:=by
  intro e he
  rcases Ap he with z |z
  · rw[z];exact⟨hlt,by dsimp only;omega⟩
  · have:=W.la e z;exact⟨this.1,by omega⟩
 have nd:=BE (k:=j) (p:=y.aY.length) W.nd
 refine⟨⟨wf,fun e he=>?_,nd,fun i g hg ha=>?_⟩,rfl,?_,?_,?_,hl,rfl⟩
 · have:=la e he
   refine⟨by show e.1 < (gk y.aq j h v).hs.length;rw[hl];exact this.1,?_⟩
   show e.2 < (y.aY++[_]).length
   simpa using this.2
 · refine B7 ?_
   by_cases z:i=j
   · exact .inl z
   · have hg:(y.aq.hs.set j (bD h v))[i]? =some g:=hg
     rw[qV_ (Ne.symm z)]at hg
     exact .inr (W.atw i g hg ha)
 · have:=yN W.W hj v
   have:=I.m
   show mea (gk y.aq j h v)<=_
   omega
 · have:=I.w
   show (y.aY++[_]).length<=_
   simp
   omega
 · have:=BP (y:={y with last:=putL y.last j y.aY.length}) nd (fun e he=>(la e he).1) W.W.hsz
   exact this
theorem wX(a:Hl)(p:Nat)(s:Bool):(aU a p s).1.ks.length=a.ks.length:=by
 unfold aU
 split
 · rfl
 · split <;> rfl
 · split
   · rfl
   · simp
theorem BB{sel:Hl->Option Nat}(hs:Sel sel):∀(n:Nat) (a:Hl),WF a->mea a<=n->(dD sel a).1.ks.length=a.ks.length:=by
 intro n
 induction n with
 |zero=>
  intro a W hm
  cases q:sel a with
  |none=>rw[et q]
  |some p=>
   have:=cH W (hs a p q)
   omega
 |succ n ih=>
  intro a W hm
  cases q:sel a with
  |none=>rw[et q]
  |some p=>
   rw[jx hs W q]
   have h1:=cH W (hs a p q)
   exact(ih (aU a p false).1 (iW W p false) (by omega)).trans (wX a p false)
theorem BI{y:Sy}(I:Iv y)(d:dt){z:Sy}{a:An}(h:doneF y d= .ok z a):Iv1 y z:=by
 have W:=I.W
 have bg:∀{i rd v},dU y i rd v= .ok z a->Iv1 y z:=by
  intro i rd v h
  unfold dU at h
  split at h
  · cases h
  · split at h
    · cases h
    · rename_i j _ _ g hg
      split at h
      · cases h
      · cases h
        exact zB I hg rd v
 have rn:∀{sel:Hl->Option Nat},Sel sel->Iv1 y (endsF y (dD sel y.aq)):=by
  intro sel hs
  obtain⟨i1,i2,i3⟩:=p9 hs (mea y.aq) y.aq W.W (qO_ _)
  exact rC (kH I i1 (by omega) (BB hs _ _ W.W (qO_ _))) _
 cases d with
 |wr i v=>exact bg h
 |rd i=>exact bg h
 |ca n s=>
  unfold doneF at h
  dsimp only at h
  split at h
  · cases h
  · rename_i hne
    cases h
    refine rC (kH I (qC W.W _ _) ?_ (wX _ _ _)) _
    have hp:Bn y n < y.aq.row.length:=by
     unfold Bn
     have:0 < y.aq.row.length:=List.length_pos_iff.mpr hne
     have h1:=Int.emod_nonneg n (b:=(y.aq.row.length:Int)) (by omega)
     have h2:=Int.emod_lt_of_pos n (b:=(y.aq.row.length:Int)) (by omega)
     omega
    have:=vq W.W (s:=s) (qA_ hp)
    split at this <;> omega
 |pa i j=>
  unfold doneF at h
  dsimp only at h
  split at h
  · cases h
  · split at h
    · cases h
    · cases h
      exact rn (fD _ _)
 |sw=>
  unfold doneF at h
  dsimp only at h
  cases h
  exact rn eS
 |ag i=>
  unfold doneF jU at h
  dsimp only at h
  split at h
  · cases h
  · split at h
    · cases h
    · rename_i j _ _ g hg
      split at h
      · cases h
        exact kH I ⟨zM W.W hg,rfl,fun i g h1 h2=>⟨g,h1,h2⟩⟩ (by have:=yf W.W hg;omega) rfl
      · cases h
 |qu i=>
  unfold doneF jU at h
  dsimp only at h
  split at h
  · cases h
  · split at h
    · cases h
    · rename_i j _ _ g hg
      split at h
      · cases h
        have hlt:=(qB_.mp hg).1
        have ok:=W.W.hok hg
        refine kH I ⟨xn W.W hg (h':={g with atw:=false}) ok (Int.le_refl _) (fun _=>rfl),by show (y.aq.hs.set j _).length=_;simp,fun i g' h1 h2=>?_⟩ (by have:=AA hg;omega) rfl
        have h1:(y.aq.hs.set j {g with atw:=false})[i]? =some g':=h1
        by_cases q:i=j
        · subst q
          rw[qU_ hlt]at h1
          cases h1
          cases h2
        · rw[qV_ (Ne.symm q)]at h1
          exact⟨g',h1,h2⟩
      · cases h
 |st i=>
  unfold doneF nX at h
  dsimp only at h
  split at h
  · cases h
  · split at h
    · cases h
    · cases h
      exact kH I ⟨xF W.W _ _,rfl,fun i g h1 h2=>⟨g,h1,h2⟩⟩ (by show mea y.aq<=_;omega) (by show (y.aq.ks.set _ _).length=_;simp)
 |wa i=>
  unfold doneF nX at h
  dsimp only at h
  split at h
  · cases h
  · split at h
    · cases h
    · cases h
      exact kH I ⟨xF W.W _ _,rfl,fun i g h1 h2=>⟨g,h1,h2⟩⟩ (by show mea y.aq<=_;omega) (by show (y.aq.ks.set _ _).length=_;simp)
def Sd.all(S:Sd):List Nat:=S.own++S.A.foot
structure Sd.To (S S':Sd) (n:Nat):Prop where
 s:S'.s=S.s
 z:∀x∈S'.all,x∈S.all\/n<=x
theorem Sd.To.refl(S:Sd)(n:Nat):S.To S n:=⟨rfl,fun _ h=>.inl h⟩
theorem Sd.To.aq(S:Sd){A':Ad}{n:Nat}(t:S.A.To A' n):S.To {S with A:=A'} n:=by
 refine⟨rfl,fun x hx=>?_⟩
 rcases qG_.mp hx with w |w
 · exact .inl (qF_ _ w)
 · exact(t.foot x w).elim (fun q=>.inl (qE_ _ q)) .inr
def lc(S:Sd)(n:Nat)(G:Hh)(a:An)(v:D):Prop:=match a with
 | .one d=>v=d
 | .lst ds=>∃l,v= .ref l/\n<=l/\l∉S.all/\G[l]? =some (.lst ds)
section
variable{G G':Hh}{Q:D->Hh->Prop}{E:Nat->Hh->Prop}{S:Sd}{y:Sy}{σ:St}{QS:Fl×St->Hh->Prop}
theorem dC.ltA(Y:dC G S y):∀n∈S.all,n < G.length:=fun n hn=>(qG_.mp hn).elim (Y.lt n) (Y.H.lt n)
theorem bq{u w:Str}{A B:S3}(hv:σ[2]? =some (some (.str u)))(hn:decide (u=w)=false)(h:M3.run (B σ) G QS E):M3.run (aC (sIf (tB (eOp oEq (ae 2) (eC (.str w)))) A bY) B σ) G QS E:=by
 refine aR (fO (mV (bo (w_var hv (w_c (w_eq (b:=false) ?_ (ky ?_)))))))
 · show some (decide (u=w))=some false
   rw[hn]
 · rw[if_neg qC_]
   exact lL (w_next h)
theorem kj{u w:Str}{A B:S3}(hv:σ[2]? =some (some (.str u)))(hn:decide (u=w)=true)(h:M3.run (A σ) G (fun r G1=>M3.run (sK B r) G1 QS E) E):M3.run (aC (sIf (tB (eOp oEq (ae 2) (eC (.str w)))) A bY) B σ) G QS E:=by
 refine aR (fO (mV (bo (w_var hv (w_c (w_eq (b:=true) ?_ (ky ?_)))))))
 · show some (decide (u=w))=some true
   rw[hn]
 · rw[if_pos rfl]
   exact h
theorem Du{n:Nat}{xs:List D}{QB:Bool->Hh->Prop}(hn:G[n]? =some (.lst xs))(h:QB (!xs.isEmpty) G):M3.run (truth (.ref n)) G QB E:=by
 refine aJ (a:=!xs.isEmpty) (G':=G) ?_ h
 unfold truth
 dsimp only
 rw[hn]
theorem oo{i:Int}{j:Nat}{h:Hd}(e:i=(j:Int))(hj:y.aq.hs[j]? =some h):inB i y.aq.hs.length=some j:=iu e (qB_.mp hj).1
theorem Dm{i:Int}{j:Nat}{k:Kr}(e:i=(j:Int))(hj:y.aq.ks[j]? =some k):inB i y.aq.ks.length=some j:=iu e (qB_.mp hj).1
theorem zl(Y:dC G S y):G[S.A.a]? =some (.ins 2 [(9,.ref S.A.lk),(10,.ref S.A.lh),(11,.ref S.A.lr)]):=Y.H.o
theorem vJ{r:Hl×List (Nat×Pr)}{A':Ad}{G1:Hh}{le:Nat}(I:Iv y)(Y:dC G S y)(c:Chg S.A.foot G G1)(to:S.A.To A' G.length)(hl:G.length<=le)(H:bI G1 A' r.1)(h:G1[le]? =some (.lst (r.2.map pW)))
 (hon:Hon y.aq r.1) (hat:∀e∈r.2,∃h,y.aq.hs[e.1]? =some h/\h.atw=true) (hz:r.2.length<=1000000)
 (hq:∀l2 S' G',S'.s=S.s->Chg S.all G G'->S.To S' G.length->dC G' S' (endsF y r)->G.length<=l2->l2∉S'.all->G'[l2]? =some (.lst (oq y r))->Q (.ref l2) G'):M3.run (bR [.ref S.s,.ref le]) G1 Q E:=by
 have Y1:=Y.aq c to H
 have W1:SWF (cF y r.1):=hon.swf I.W
 refine uo (S:={S with A:=A'}) (y:=cF y r.1) Y1 W1 h (fun z=>?_) hz (fun e he=>?_) fun l2 G2 c2 hl2 Y2 h2=>?_
 · have:=Y.lt le z;omega
 · obtain⟨g,h1,h2⟩:=hat e he
   exact I.W.atw _ g h1 h2
 · have c1:=c.1
   refine hq l2 {S with A:=A'} G2 rfl ((c.mono fun n hn=>qE_ _ hn).trans (c2.mono fun n hn=>qF_ _ hn)) (Sd.To.aq S to) Y2 (by omega) (fun z=>?_) h2
   have:=Y1.ltA l2 z
   omega
theorem DG{d:dt}(I:Iv y)(hd:y.cC<=1000)(Y:dC G S y)
 (hE:∀c G',doneF y d= .no c->Chg [] G G'->E c G')
 (hq:∀v S' G' z a,doneF y d= .ok z a->Chg S.all G G'->S.To S' G.length->dC G' S' z->lc S' G.length G' a v->Q v G'):M3.run (gX [.ref S.s,dk d]) G Q E:=by
 have W:=I.W
 have hm:mea y.aq<=800000:=by have:=I.m;omega
 have ho:=Y.o
 have hH:=zl Y
 have r0:=Chg.refl [] G
 walk_at "f"
 unfold m5
 cases d with
 |wr i v=>
  unfold dk
  refine aR (cK (bo (w_var rfl (w_c (cM rfl (w_next ?_))))))
  walk_at "s"
  refine kj rfl (by decide) ?_
  refine aR (eI (bK (w_fld (w_var rfl (bN ho (by decide) rfl (cX hH (ax (bo (w_var rfl (w_c (cM rfl (ax (bo (w_var rfl (w_c (cM rfl (aM ?_)))))))))))))))))
  refine CC Y.H W.W hm (fun z=>hE _ _ ?_ r0) (fun j h e hj ha=>hE _ _ ?_ r0) fun j h e hj ha A' G1 c1 to H1=>?_
  · show dU y i false (some v)=_
    unfold dU
    rw[gE z]
  · show dU y i false (some v)=_
    unfold dU
    rw[oo e hj]
    dsimp only
    rw[hj]
    dsimp only
    rw[if_pos ha]
  · have eR:doneF y (.wr i v)= .ok (pT (cF y (gk y.aq j h (some v))) j false (some v)) (.one (.int (y.aY.length:Int))):=by
     show dU y i false (some v)=_
     unfold dU
     rw[oo e hj]
     dsimp only
     rw[hj]
     dsimp only
     rw[if_neg (by rw[ha];exact qC_)]
    have Y1:=Y.aq c1 to H1
    have ho1:=Y1.o
    subst e
    walk_at "r"
    refine oI (S:={S with A:=A'}) (rd:=false) (v:=some v) Y1 (by have:=I.w;show y.aY.length<=1000;omega) (by have:=I.l;show y.last.length<=1000;omega) fun a G2 c2 hl Y2=>?_
    have g1:=c1.1
    have Y1l:=Y1.ltA
    walk_at "r"
    refine hq _ {S with A:=A',wa:=S.wa++[a]} G2 _ _ eR ((c1.mono fun n hn=>qE_ _ hn).trans' c2 fun n hn=>(Sd.To.aq S to).z n hn) ⟨rfl,fun x hx=>?_⟩ Y2 rfl
    have hx:x∈([S.s,S.lw,S.ld]++(S.wa++[a]))++A'.foot:=hx
    rcases qG_.mp hx with w |w
    · rw[<-List.append_assoc]at w
      rcases qG_.mp w with w |w
      · exact .inl (qF_ _ w)
      · simp at w;exact .inr (by omega)
    · exact(to.foot x w).elim (fun q=>.inl (qE_ _ q)) .inr
 |rd i=>
  unfold dk
  refine aR (cK (bo (w_var rfl (w_c (cM rfl (w_next ?_))))))
  walk_at "s"
  refine bq rfl (by decide) ?_
  refine kj rfl (by decide) ?_
  refine aR (eI (bK (w_fld (w_var rfl (bN ho (by decide) rfl (cX hH (ax (bo (w_var rfl (w_c (cM rfl (aM ?_))))))))))))
  refine Dt Y.H W.W hm (fun z=>hE _ _ ?_ r0) (fun j h e hj ha=>hE _ _ ?_ r0) fun j h e hj ha A' G1 c1 to H1=>?_
  · show dU y i true none=_
    unfold dU
    rw[gE z]
  · show dU y i true none=_
    unfold dU
    rw[oo e hj]
    dsimp only
    rw[hj]
    dsimp only
    rw[if_pos ha]
  · have eR:doneF y (.rd i)= .ok (pT (cF y (gk y.aq j h none)) j true none) (.one (.int (y.aY.length:Int))):=by
     show dU y i true none=_
     unfold dU
     rw[oo e hj]
     dsimp only
     rw[hj]
     dsimp only
     rw[if_neg (by rw[ha];exact qC_)]
    have Y1:=Y.aq c1 to H1
    have ho1:=Y1.o
    subst e
    walk_at "r"
    refine oI (S:={S with A:=A'}) (rd:=true) (v:=none) Y1 (by have:=I.w;show y.aY.length<=1000;omega) (by have:=I.l;show y.last.length<=1000;omega) fun a G2 c2 hl Y2=>?_
    have g1:=c1.1
    have Y1l:=Y1.ltA
    walk_at "r"
    refine hq _ {S with A:=A',wa:=S.wa++[a]} G2 _ _ eR ((c1.mono fun n hn=>qE_ _ hn).trans' c2 fun n hn=>(Sd.To.aq S to).z n hn) ⟨rfl,fun x hx=>?_⟩ Y2 rfl
    have hx:x∈([S.s,S.lw,S.ld]++(S.wa++[a]))++A'.foot:=hx
    rcases qG_.mp hx with w |w
    · rw[<-List.append_assoc]at w
      rcases qG_.mp w with w |w
      · exact .inl (qF_ _ w)
      · simp at w;exact .inr (by omega)
    · exact(to.foot x w).elim (fun q=>.inl (qE_ _ q)) .inr
 |ca n s=>
  unfold dk
  refine aR (cK (bo (w_var rfl (w_c (cM rfl (w_next ?_))))))
  walk_at "s"
  refine bq rfl (by decide) ?_
  refine bq rfl (by decide) ?_
  refine kj rfl (by decide) ?_
  refine aR (cK (bK (w_var rfl (cX ho (ax (bK (w_fld (w_var rfl (bN ho (by decide) rfl (cX hH (ax (bo (w_var rfl (w_c (cM rfl (ax (bo (w_var rfl (w_c (cM rfl (aM ?_)))))))))))))))))))))
  refine Bm Y.H W.W hm (fun z=>hE _ _ (if_pos z) r0) fun p hp hlt le A' G1 c1 to hl H1 h1=>aM ?_
  have eR:doneF y (.ca n s)= .ok (endsF y (aU y.aq p s)) (.one (zg (oq y (aU y.aq p s)))):=by
   subst hp
   exact if_neg (by intro z;rw[z]at hlt;simp at hlt)
  have hln:=kR y.aq p s
  refine vJ I Y c1 to hl H1 h1 (qC W.W p s) (wZ p s) (by omega) fun l2 S' G2 hs c2 to2 Y2 hl2 hn2 h2=>?_
  walk_at "r"
  refine Du h2 ?_
  cases q:oq y (aU y.aq p s)with
  |nil=>
   dsimp only[List.isEmpty]
   walk_at "r"
   exact hq _ S' G2 _ _ eR c2 to2 Y2 (by rw[q];rfl)
  |cons x r=>
   rw[q]at h2
   dsimp only[List.isEmpty]
   walk_at "r"
   refine gP h2 (show atI (x :: r) 0=some x from ?_) ?_
   · unfold atI M3.ixN
     simp
   walk_at "r"
   exact hq _ S' G2 _ _ eR c2 to2 Y2 (by rw[q];rfl)
 |pa i j=>
  unfold dk
  refine aR (cK (bo (w_var rfl (w_c (cM rfl (w_next ?_))))))
  walk_at "s"
  refine bq rfl (by decide) ?_
  refine bq rfl (by decide) ?_
  refine bq rfl (by decide) ?_
  refine kj rfl (by decide) ?_
  refine cU (bK (w_var rfl (cX ho (ax (bK (w_fld (w_var rfl (bN ho (by decide) rfl (cX hH (ax (bo (w_var rfl (w_c (cM rfl (ax (bo (w_var rfl (w_c (cM rfl (aM ?_))))))))))))))))))))
  refine oM Y.H W.W hm (fun z=>hE _ _ ?_ r0) (fun z1 z2=>hE _ _ ?_ r0) fun p k e1 e2 h1 h2 le A' G1 c1 to hl hn H1 g1=>aM ?_
  · unfold doneF
    dsimp only
    rw[gE z]
  · unfold doneF
    dsimp only
    have:inB i y.aq.hs.length=some i.toNat:=by unfold inB;rw[if_neg z1]
    rw[this]
    dsimp only
    rw[gE z2]
  have eR:doneF y (.pa i j)= .ok (endsF y (dD (dE p k) y.aq)) (.lst (oq y (dD (dE p k) y.aq))):=by
   unfold doneF
   dsimp only
   rw[iu e1 h1]
   dsimp only
   rw[iu e2 h2]
  have hln:=nF (fD p k) (mea y.aq) y.aq W.W (qO_ _)
  obtain⟨i1,i2,i3⟩:=p9 (fD p k) (mea y.aq) y.aq W.W (qO_ _)
  refine vJ I Y c1 to hl H1 g1 i1 i3 (by omega) fun l2 S' G2 hs c2 to2 Y2 hl2 hn2 h2=>?_
  walk_at "r"
  exact hq _ S' G2 _ _ eR c2 to2 Y2 ⟨l2,rfl,hl2,hn2,h2⟩
 |sw=>
  unfold dk
  refine aR (cK (bo (w_var rfl (w_c (cM rfl (w_next ?_))))))
  walk_at "s"
  refine bq rfl (by decide) ?_
  refine bq rfl (by decide) ?_
  refine bq rfl (by decide) ?_
  refine bq rfl (by decide) ?_
  refine kj rfl (by decide) ?_
  refine cU (bK (w_var rfl (cX ho (ax (bK (w_fld (w_var rfl (bN ho (by decide) rfl (cX hH (aM ?_))))))))))
  refine B1 Y.H W.W hm fun le A' G1 c1 to hl hn H1 g1=>aM ?_
  have hln:=nF eS (mea y.aq) y.aq W.W (qO_ _)
  obtain⟨i1,i2,i3⟩:=p9 eS (mea y.aq) y.aq W.W (qO_ _)
  refine vJ I Y c1 to hl H1 g1 i1 i3 (by omega) fun l2 S' G2 hs c2 to2 Y2 hl2 hn2 h2=>?_
  walk_at "r"
  exact hq _ S' G2 _ _ rfl c2 to2 Y2 ⟨l2,rfl,hl2,hn2,h2⟩
 |ag i=>
  unfold dk
  refine aR (cK (bo (w_var rfl (w_c (cM rfl (w_next ?_))))))
  walk_at "s"
  refine bq rfl (by decide) ?_
  refine bq rfl (by decide) ?_
  refine bq rfl (by decide) ?_
  refine bq rfl (by decide) ?_
  refine bq rfl (by decide) ?_
  refine kj rfl (by decide) ?_
  refine cU (bK (w_fld (w_var rfl (bN ho (by decide) rfl (cX hH (ax (bo (w_var rfl (w_c (cM rfl (aM ?_)))))))))))
  refine CG Y.H W.W hm (fun z=>hE _ _ ?_ r0) (fun j h e hj ha G1 c1=>hE _ _ ?_ c1) fun j h e hj ha G1 c1 H1=>?_
  · unfold doneF jU
    dsimp only
    rw[gE z]
  · unfold doneF jU
    dsimp only
    rw[oo e hj]
    dsimp only
    rw[hj]
    dsimp only
    rw[if_neg (by rw[ha];exact qC_)]
  · have eR:doneF y (.ag i)= .ok (cF y {y.aq with row:=newRow y.aq h}) (.one (.int ((bz h).length:Int))):=by
     unfold doneF jU
     dsimp only
     rw[oo e hj]
     dsimp only
     rw[hj]
     dsimp only
     rw[if_pos ha]
    have to:=Ad.To.refl S.A G.length
    walk_at "r"
    exact hq _ S G1 _ _ eR (c1.mono fun n hn=>qE_ _ hn) (Sd.To.refl _ _) (Y.aq c1 to H1) rfl
 |qu i=>
  unfold dk
  refine aR (cK (bo (w_var rfl (w_c (cM rfl (w_next ?_))))))
  walk_at "s"
  refine bq rfl (by decide) ?_
  refine bq rfl (by decide) ?_
  refine bq rfl (by decide) ?_
  refine bq rfl (by decide) ?_
  refine bq rfl (by decide) ?_
  refine bq rfl (by decide) ?_
  refine kj rfl (by decide) ?_
  refine aR (eI (bK (w_fld (w_var rfl (bN ho (by decide) rfl (cX hH (ax (bo (w_var rfl (w_c (cM rfl (aM ?_))))))))))))
  refine B0 Y.H (fun z=>hE _ _ ?_ r0) (fun j h e hj ha=>hE _ _ ?_ r0) fun j h e hj ha G1 c1 H1=>?_
  · unfold doneF jU
    dsimp only
    rw[gE z]
  · unfold doneF jU
    dsimp only
    rw[oo e hj]
    dsimp only
    rw[hj]
    dsimp only
    rw[if_neg (by rw[ha];exact qC_)]
  · have eR:doneF y (.qu i)= .ok (cF y {y.aq with hs:=y.aq.hs.set j {h with atw:=false}}) (.one (.int (lastOf y.last j:Int))):=by
     unfold doneF jU
     dsimp only
     rw[oo e hj]
     dsimp only
     rw[hj]
     dsimp only
     rw[if_pos ha]
    have Y1:=Y.aq c1 (Ad.To.refl S.A G.length) H1
    have ho1:=Y1.o
    have hl:=rX W.nd (pO (W.atw j h hj ha))
    subst e
    refine w_next (cU (bo (w_fld (w_var rfl (bN ho1 (by decide) rfl (bo (w_var rfl (w_c (cM rfl (CL Y1.d rfl hl ?_))))))))))
    walk_at "r"
    exact hq _ S G1 _ _ eR (c1.mono fun n hn=>qE_ _ hn) (Sd.To.refl _ _) Y1 rfl
 |st i=>
  unfold dk
  refine aR (cK (bo (w_var rfl (w_c (cM rfl (w_next ?_))))))
  walk_at "s"
  refine bq rfl (by decide) ?_
  refine bq rfl (by decide) ?_
  refine bq rfl (by decide) ?_
  refine bq rfl (by decide) ?_
  refine bq rfl (by decide) ?_
  refine bq rfl (by decide) ?_
  refine bq rfl (by decide) ?_
  refine kj rfl (by decide) ?_
  refine cU (bK (w_fld (w_var rfl (bN ho (by decide) rfl (cX hH (ax (bo (w_var rfl (w_c (cM rfl (aM ?_)))))))))))
  refine qW Y.H (fun z=>hE _ _ ?_ r0) fun j k e hj G1 c1 H1=>?_
  · unfold doneF nX
    dsimp only
    rw[gE z]
  · have eR:doneF y (.st i)= .ok (cF y {y.aq with ks:=y.aq.ks.set j {k with up:=false}}) (.one (.bl k.up)):=by
     unfold doneF nX
     dsimp only
     rw[Dm e hj]
     dsimp only
     rw[hj]
    walk_at "r"
    exact hq _ S G1 _ _ eR (c1.mono fun n hn=>qE_ _ hn) (Sd.To.refl _ _) (Y.aq c1 (Ad.To.refl S.A G.length) H1) rfl
 |wa i=>
  unfold dk
  refine aR (cK (bo (w_var rfl (w_c (cM rfl (w_next ?_))))))
  walk_at "s"
  refine bq rfl (by decide) ?_
  refine bq rfl (by decide) ?_
  refine bq rfl (by decide) ?_
  refine bq rfl (by decide) ?_
  refine bq rfl (by decide) ?_
  refine bq rfl (by decide) ?_
  refine bq rfl (by decide) ?_
  refine bq rfl (by decide) ?_
  refine cU (bK (w_fld (w_var rfl (bN ho (by decide) rfl (cX hH (ax (bo (w_var rfl (w_c (cM rfl (aM ?_)))))))))))
  refine rk Y.H (fun z=>hE _ _ ?_ r0) fun j k e hj G1 c1 H1=>?_
  · unfold doneF nX
    dsimp only
    rw[gE z]
  · have eR:doneF y (.wa i)= .ok (cF y {y.aq with ks:=y.aq.ks.set j {k with up:=true}}) (.one (.bl (!k.up))):=by
     unfold doneF nX
     dsimp only
     rw[Dm e hj]
     dsimp only
     rw[hj]
    walk_at "r"
    exact hq _ S G1 _ _ eR (c1.mono fun n hn=>qE_ _ hn) (Sd.To.refl _ _) (Y.aq c1 (Ad.To.refl S.A G.length) H1) rfl
end
def wordOf(c:Nat):Str:=if c=1001 then "no hand" else if c=1002 then "no keeper" else if c=1003 then "no letter" else if c=1004 then "busy" else "idle"
def nU(y:Sy)(d:dt):Sy×An:=match doneF y d with
 | .no c=>(y,.one (.str (wordOf c)))
 | .ok z a=>(z,a)
def vS(y:Sy):Sy:={y with cC:=y.cC+1}
def bC(y:Sy)(d:dt):Sy×An:=(vS (m9 (nU y d).1),(nU y d).2)
def gG(y:Sy)(ds:List dt):Sy:=ds.foldl (fun y d=>(bC y d).1) y
def gR:Sy->List dt->List An
 |_,[]=>[]
 |y,d :: r=>(bC y d).2 :: gR (bC y d).1 r
theorem nY(y:Sy)(a b:List dt):gR y (a++b)=gR y a++gR (gG y a) b:=by
 induction a generalizing y with
 |nil=>rfl
 |cons d r ih=>
  show _ :: gR _ (r++b)=_
  rw[ih]
  rfl
theorem kO(y:Sy)(a:List dt):(gR y a).length=a.length:=by
 induction a generalizing y with
 |nil=>rfl
 |cons d r ih=>simp [gR,ih]
theorem jh(y:Sy)(a b:List dt):gG y (a++b)=gG (gG y a) b:=List.foldl_append
theorem Bd{y:Sy}{d:dt}{c:Nat}(h:doneF y d= .no c):c=1001\/c=1002\/c=1003\/c=1004\/c=1005:=by
 cases d <;> (unfold doneF at h;(try unfold dU at h);(try unfold jU at h);(try unfold nX at h);dsimp only at h;repeat' split at h) <;> cases h <;> simp
theorem kT{y z:Sy}(I:Iv1 y z):Iv1 y (m9 z):=by
 obtain⟨q1,q2,q3,q4⟩:=iQ z.last z
 unfold m9
 exact⟨⟨by rw[q2];exact I.W.W,by rw[q1,q2,q4];exact I.W.la,by rw[q1];exact I.W.nd,by rw[q1,q2];exact I.W.atw⟩,q3.trans I.d,by rw[q2];exact I.m,by rw[q4];exact I.w,by rw[q1];exact I.l,by rw[q2];exact I.hl,by rw[q2];exact I.kl⟩
theorem m4{y:Sy}(I:Iv y)(d:dt):Iv1 y (nU y d).1:=by
 unfold nU
 split
 · exact I.same
 · rename_i z a h
   exact BI I d h
theorem Al{y z:Sy}(I:Iv1 y z):Iv (vS z):=by
 have h1:=I.d
 have h2:=I.m
 have h3:=I.w
 refine⟨⟨I.W.W,I.W.la,I.W.nd,I.W.atw⟩,?_,?_,I.l⟩
 · show mea z.aq<=40*(z.cC+1);omega
 · show z.aY.length<=z.cC+1;omega
theorem o7{y:Sy}(I:Iv y)(d:dt):Iv (bC y d).1:=Al (kT (m4 I d))
theorem vU{y:Sy}(I:Iv y)(d:dt):(bC y d).1.cC=y.cC+1:=by
 show (m9 (nU y d).1).cC+1=_
 rw[(kT (m4 I d)).d]
theorem A9{y:Sy}(I:Iv y)(d:dt):(bC y d).1.aq.hs.length=y.aq.hs.length/\(bC y d).1.aq.ks.length=y.aq.ks.length:=⟨(kT (m4 I d)).hl,(kT (m4 I d)).kl⟩
theorem BO{y:Sy}(I:Iv y)(ds:List dt):Iv (gG y ds)/\(gG y ds).cC=y.cC+ds.length/\(gG y ds).aq.hs.length=y.aq.hs.length/\(gG y ds).aq.ks.length=y.aq.ks.length:=by
 induction ds generalizing y with
 |nil=>exact⟨I,rfl,rfl,rfl⟩
 |cons d r ih=>
  obtain⟨a,b,c,e⟩:=ih (o7 I d)
  obtain⟨p,q⟩:=A9 I d
  refine⟨a,b.trans ?_,c.trans p,e.trans q⟩
  rw[vU I d,List.length_cons]
  omega
section
variable{G G':Hh}{Q:D->Hh->Prop}{E:Nat->Hh->Prop}{S:Sd}{y:Sy}{σ:St}{QS:Fl×St->Hh->Prop}
theorem lc.chg{n:Nat}{a:An}{v:D}{T:List Nat}(h:lc S n G a v)(c:Chg T G G')(ht:∀x∈T,x∈S.all):lc S n G' a v:=by
 cases a with
 |one d=>exact h
 |lst ds=>
  obtain⟨l,e,h1,h2,h3⟩:=h
  exact⟨l,e,h1,h2,c.get h3 fun z=>h2 (ht l z)⟩
theorem lc.on{S':Sd}{n:Nat}{a:An}{v:D}(h:lc S n G a v)(c:Chg S.all G G')(t:S.To S' G.length):lc S' n G' a v:=by
 cases a with
 |one d=>exact h
 |lst ds=>
  obtain⟨l,e,h1,h2,h3⟩:=h
  have:=aG h3
  exact⟨l,e,h1,fun z=>(t.z l z).elim h2 fun w=>by omega,c.get h3 h2⟩
theorem dC.count(Y:dC G S y)(c:Chg [S.s] G G')(h:G'[S.s]? =some (.ins 4 [(17,.ref S.A.a),(18,.ref S.lw),(19,.ref S.ld),(20,.int ((y.cC+1:Nat):Int))])):dC G' S (vS y):=by
 obtain⟨n1,n2,n3,n4,n5⟩:=jr Y.nd
 have ns:∀n,n≠S.s->n∉ [S.s]:=fun n h z=>h (by simpa using z)
 exact⟨h,c.get Y.w (ns _ (Ne.symm n1)),c.get Y.d (ns _ (Ne.symm n2)),Y.wl,fun i a w h1 h2=>c.get (Y.wk i a w h1 h2) (ns _ (n5 a (qD_ h1)).1),Y.H.frame c (by intro n hn;simp at hn;rw[hn];exact Y.dj _ (by simp [Sd.own])),Y.nd,Y.dj⟩
theorem nL{d:dt}(I:Iv y)(hd:y.cC<=1000)(Y:dC G S y)
 (hq:∀v S' G',Chg S.all G G'->S.To S' G.length->dC G' S' (nU y d).1->lc S' G.length G' (nU y d).2 v->Q v G'):M3.run (cI [.ref S.s,dk d]) G Q E:=by
 have ho:=Y.o
 walk_at "f"
 unfold fP
 refine FN (bK (w_var rfl (cX ho (ax (w_var rfl (aM ?_))))))
 refine DG I hd Y (fun c G1 e c1=>?_) fun v S' G1 z a e c1 t Y1 h1=>?_
 · have e1:nU y d=(y,.one (.str (wordOf c))):=by unfold nU;rw[e]
   have Y1:dC G1 S (nU y d).1:=by rw[e1];exact Y.frame c1 (by simp)
   have q:=hq (.str (wordOf c)) S G1 (c1.mono (by simp)) (Sd.To.refl _ _) Y1 (by rw[e1];rfl)
   rcases Bd e with rfl |rfl |rfl |rfl |rfl
   · exact⟨_,rfl,cU (w_c (mx q))⟩
   · exact⟨_,rfl,cU (w_c (mx q))⟩
   · exact⟨_,rfl,cU (w_c (mx q))⟩
   · exact⟨_,rfl,cU (w_c (mx q))⟩
   · exact⟨_,rfl,cU (w_c (mx q))⟩
 · have e1:nU y d=(z,a):=by unfold nU;rw[e]
   refine mx (hq v S' G1 c1 t (by rw[e1];exact Y1) (by rw[e1];exact h1))
theorem zF{d:dt}(I:Iv y)(hd:y.cC<=1000)(Y:dC G S y)
 (hq:∀v S' G',Chg S.all G G'->S.To S' G.length->dC G' S' (bC y d).1->lc S' G.length G' (bC y d).2 v->Q v G'):M3.run (eX [.ref S.s,dk d]) G Q E:=by
 have ho:=Y.o
 walk_at "f"
 unfold kg
 refine aR (cK (bK (w_var rfl (cX ho (ax (w_var rfl (aM ?_)))))))
 refine nL I hd Y fun v S1 G1 c1 t1 Y1 h1=>w_next ?_
 walk_at "s"
 have I1:=m4 I d
 have ho1:=Y1.o
 rw[t1.s]at ho1
 refine aR (eI (bK (w_var rfl (cX ho1 (aM ?_)))))
 rw[<-t1.s]
 refine qX Y1 I1.W fun G2 c2 Y2=>w_next ?_
 have ho2:=Y2.o
 have h2:=h1.chg c2 fun x hx=>qF_ _ hx
 refine aR (gr (bo (w_fld (w_var rfl (bN ho2 (by decide) rfl (w_c (vR (w_var rfl ?_))))))))
 refine aT ho2 ⟨by decide,qP_ rfl⟩ fun G3 c3 l3 h3=>?_
 walk_at "r"
 have sm:S1.s∈S1.all:=qF_ _ (by simp [Sd.own])
 refine hq v S1 G3 ?_ t1 (Y2.count c3 ?_) (h2.chg c3 (by intro x hx;simp at hx;rw[hx];exact sm))
 · refine(c1.trans' c2 fun n hn=>t1.z n (qF_ _ hn)).trans' c3 fun n hn=>?_
   simp at hn
   rw[hn]
   exact t1.z _ sm
 · exact h3
end
def k0:Kr:=⟨start,true⟩
def fU(count many:Nat):Hl:=⟨List.replicate count k0,(List.range many).map fun i=>kh i count,[]⟩
def cY(count many:Nat):Sy:=⟨fU count many,[],[],0⟩
theorem rQ{c m:Nat}(hc:c<=9)(hm:m<=9):Iv (cY c m):=by
 have hg:∀(i:Nat) h,(fU c m).hs[i]? =some h->h=kh i c:=by
  intro i h hh
  unfold fU at hh
  dsimp only at hh
  rw[qQ_]at hh
  cases q:(List.range m)[i]? with
  |none=>rw[q]at hh;cases hh
  |some j=>
   rw[q]at hh
   obtain⟨h1,h2⟩:=qB_.mp q
   rw[List.getElem_range]at h2
   cases hh
   rw[h2]
 have hk:(fU c m).ks.length=c:=by unfold fU;simp
 have hl:(fU c m).hs.length=m:=by unfold fU;simp
 refine⟨⟨⟨fun i h hh=>?_,fun e he=>(by cases he),by rw[show (cY c m).aq=fU c m from rfl,hk];exact hc,by rw[show (cY c m).aq=fU c m from rfl,hl];exact hm⟩,fun e he=>(by cases he),List.nodup_nil,fun i h hh ha=>?_⟩,?_,qO_ _,qf_ _⟩
 · rw[hg i h hh]
   exact⟨rfl,hk.symm,by simp [kh],by simp [kh],by simp [kh]⟩
 · rw[hg i h hh]at ha
   cases ha
 · show mea (fU c m)<=0
   unfold mea fU
   dsimp only
   rw[qb_]
   have:∀l:List Nat,(l.map (pot ∘ fun i=>kh i c)).sum=0:=by
    intro l
    induction l with
    |nil=>rfl
    |cons x r ih=>rw[List.map_cons,List.sum_cons,ih];rfl
   rw[this]
   exact qO_ _
section
variable{G G':Hh}{Q:D->Hh->Prop}{E:Nat->Hh->Prop}{S:Sd}{y:Sy}{σ:St}{QS:Fl×St->Hh->Prop}
theorem o9{it:I3}{cap:List Nat}{cond:T3}{elt:E3}
 (h:M3.run (it σ) G (fun s G1=>M3.run (df s.ck (fun x=>cond (some x :: fE σ cap)) (fun x=>elt (some x :: fE σ cap)) s.xs []) G1 (fun ys G2=>∀G3,Chg [] G2 G3->G3.length=G2.length+1->G3[G2.length]? =some (.lst ys)->Q (.ref G2.length) G3) E) E):M3.run (jz it cap cond elt σ) G Q E:=
 td (az h (fun s G1 q=>az q (fun ys G2 q=>q _ (Chg.add _ _) (by simp) (cE _ _)) fun _ _ z=>z) fun _ _ z=>z)
theorem qI{a:Nat}(ha:G[a]? =some (.ins 1 []))(hq:∀G',Chg [a] G G'->jo G' a k0->Q .non G'):M3.run (gu [.ref a]) G Q E:=by
 walk_at "f"
 unfold lK
 walk_at "r"
 refine aT ha ⟨by decide,qP_ rfl⟩ fun G1 c1 l1 h1=>?_
 walk_at "r"
 refine aT h1 ⟨by decide,qP_ rfl⟩ fun G2 c2 l2 h2=>?_
 walk_at "r"
 exact hq G2 (c1.trans c2) h2
theorem t8{i:Int}{j:Nat}{QI:Src->Hh->Prop}(e:i=(j:Int))(hj:j<=1000000)(h:QI ⟨rng 0 j,fun _=>true⟩ G):M3.run (Cw (.int i)) G QI E:=by
 rw[e]
 with_reducible exact kC hj h
theorem uS{a c m:Nat}{ci mi:Int}(hci:ci=(c:Int))(hmi:mi=(m:Int))(ha:G[a]? =some (.ins 2 []))(hc:c<=9)(hm:m<=9)(hq:∀A G',A.a=a->Chg [a] G G'->(∀x∈A.foot,x=a\/G.length<=x)->bI G' A (fU c m)->Q .non G'):M3.run (gD [.ref a,.int ci,.int mi]) G Q E:=by
 have hal:=aG ha
 unfold gD
 with_reducible refine M3.Cf rfl ?_
 simp only[List.map_cons,List.map_nil,List.cons_append,qc_]
 unfold oA
 with_reducible refine aR ?_
 with_reducible refine gr ?_
 with_reducible refine o9 ?_
 with_reducible refine kM ?_
 walk_at "w"
 with_reducible refine t8 hci (by omega) ?_
 with_reducible refine jB (xs:=rng 0 c) (fun i acc G'=>∃ka:List Nat,acc=refs ka/\ka.length=i/\ka.Nodup/\(∀x∈ka,G.length<=x/\jo G' x k0)/\Chg [] G G') (fun _ _ _ _=>rfl) ?_ ?_ _ 0 [] G List.drop_zero (qf_ _) ⟨[],rfl,rfl,List.nodup_nil,by simp,Chg.refl _ _⟩
 · rintro i x acc G' hx ⟨ka,rfl,hl,hnd,hk,cc⟩
   obtain⟨_,hi⟩:=kJ hx
   refine lP ?_
   rw[if_pos rfl]
   refine ny (aM fun G1 c1 l1 h1=>?_)
   refine qI h1 fun G2 c2 h2=>⟨rfl,?_,ka++[G'.length],?_,?_,?_,?_,?_⟩
   · unfold refs;rw[qM_,hl];unfold aH;omega
   · unfold refs;rw[qT_];rfl
   · simp [hl]
   · rw[List.nodup_append]
     refine⟨hnd,by simp,fun x hx y hy w=>?_⟩
     simp at hy
     have:=aG (hk x hx).2
     omega
   · intro x hx
     have g:=cc.1
     rcases qG_.mp hx with w |w
     · obtain⟨q1,q2⟩:=hk x w
       have:=aG q2
       exact⟨q1,c2.get (c1.get q2 (by simp)) (by simp;omega)⟩
     · simp at w
       subst w
       exact⟨g,h2⟩
   · have g:=cc.1
     exact cc.trans (c1.trans' c2 (by intro n hn;simp at hn;rw[hn];exact .inr (qO_ _)))
 rintro acc G1 ⟨ka,rfl,hkl,hknd,hk,cc1⟩
 rw[mU]at hkl
 refine fun G2 c2 l2 h2=>w_var rfl ?_
 have cc2:=cc1.trans c2
 have ha2:=cc2.get ha (by simp)
 refine aT ha2 ⟨by decide,qP_ rfl⟩ fun G3 c3 l3 h3=>w_next ?_
 have g1:=cc1.1
 with_reducible refine aR ?_
 with_reducible refine gr ?_
 with_reducible refine o9 ?_
 with_reducible refine kM ?_
 walk_at "w"
 with_reducible refine t8 hmi (by omega) ?_
 with_reducible refine jB (xs:=rng 0 m) (fun i acc G'=>∃ha da:List Nat,acc=refs ha/\ha.length=i/\da.length=i/\(ha++da).Nodup/\(∀x∈ha++da,G3.length<=x/\x < G'.length)/\(∀(j:Nat) a d,ha[j]? =some a->da[j]? =some d->gq G' a d (kh j c))/\Chg [] G3 G') (fun _ _ _ _=>rfl) ?_ ?_ _ 0 [] G3 List.drop_zero (qf_ _) ⟨[],[],rfl,rfl,rfl,(by simp),(by simp),(by simp),Chg.refl _ _⟩
 · rintro i x acc G' hx ⟨ha,da,rfl,hl,hdl,hnd,hk,hh,cc⟩
   obtain⟨rfl,hi⟩:=kJ hx
   rw[Int.zero_add]
   refine lP ?_
   rw[if_pos rfl]
   refine ny (ax (w_var rfl (ax (w_var rfl (aM fun G4 c4 l4 h4=>?_)))))
   rw[hci]
   with_reducible refine uR h4 fun G5 d c5 hd h5=>⟨rfl,?_,ha++[G'.length],da++[d],?_,?_,?_,?_,?_,?_,?_⟩
   · unfold refs;rw[qM_,hl];unfold aH;omega
   · unfold refs;rw[qT_];rfl
   · simp [hl]
   · simp [hdl]
   · have hlt:∀x∈ha++da,x < G'.length:=fun x hx=>(hk x hx).2
     refine(List.Perm.nodup_iff (l₂:=(ha++da)++[G'.length,d]) ?_).mpr ?_
     · rw[List.append_assoc,List.append_assoc]
       exact List.Perm.append_left ha (show (G'.length :: (da++[d])).Perm (da++G'.length :: [d])from List.perm_middle.symm)
     · rw[List.nodup_append]
       refine⟨hnd,by simp;omega,fun x hx y hy w=>?_⟩
       have:=hlt x hx
       simp at hy
       rcases hy with q |q <;> omega
   · intro x hx
     have g:=cc.1
     have l5:=aG h5.1
     have l6:=aG h5.2
     have g5:=c5.1
     simp only[qG_,qS_,List.not_mem_nil,or_false]at hx
     rcases hx with (w |w) |(w |w)
     · have:=hk x (qF_ _ w);omega
     · omega
     · have:=hk x (qE_ _ w);omega
     · omega
   · intro j a' d' e1 e2
     by_cases z:j < i
     · rw[qK_ (by omega)]at e1
       rw[qK_ (by omega)]at e2
       have q:=hh j a' d' e1 e2
       have r1:=aG q.1
       have r2:=aG q.2
       exact(q.chg c4 (by simp) (by simp)).chg c5 (by simp;omega) (by simp;omega)
     · have z1:j=i:=by
        have:=(qB_.mp e1).1
        simp at this
        omega
       subst z1
       rw[qL_ (by omega)]at e1 e2
       simp [hl]at e1
       simp [hdl]at e2
       subst e1 e2
       exact h5
   · exact cc.trans (c4.trans' c5 (by intro n hn;simp at hn;rw[hn];exact .inr (qO_ _)))
 rintro acc G4 ⟨hA,dA,rfl,hhl,hdl,hnd,hk4,hh,cc4⟩
 rw[mU]at hhl hdl
 refine fun G5 c5 l5 h5=>w_var rfl ?_
 have ha5:=c5.get (cc4.get h3 (by simp)) (by simp)
 refine aT ha5 ⟨by decide,qP_ rfl⟩ fun G6 c6 l6 h6=>w_next ?_
 refine gr (gY fun G7 c7 l7 h7=>w_var rfl ?_)
 have ha7:=c7.get h6 (by simp)
 refine aT ha7 ⟨by decide,qP_ rfl⟩ fun G8 c8 l8 h8=>?_
 have g4:=cc4.1
 have na:∀x,x≠a->x∉ [a]:=fun x h z=>h (by simpa using z)
 have k8:G8[G1.length]? =some (.lst (refs ka)):=c8.get (c7.get (c6.get (c5.get (cc4.get (c3.get h2 (na _ (by omega))) (by simp)) (by simp)) (na _ (by omega))) (by simp)) (na _ (by omega))
 have r8:G8[G4.length]? =some (.lst (refs hA)):=c8.get (c7.get (c6.get h5 (na _ (by omega))) (by simp)) (na _ (by omega))
 have e8:G8[G6.length]? =some (.lst []):=c8.get h7 (na _ (by omega))
 refine tJ ?_
 refine hq ⟨a,G1.length,G4.length,G6.length,ka,hA,dA⟩ G8 rfl ?_ ?_ ⟨h8,k8,r8,e8,?_,?_,?_,?_,?_,?_⟩
 · exact((cc2.mono (by simp)).trans c3).trans ((((cc4.mono (by simp)).trans (c5.mono (by simp))).trans c6).trans ((c7.mono (by simp)).trans c8))
 · intro x hx
   unfold Ad.foot at hx
   simp only[qG_,qS_,List.not_mem_nil,or_false]at hx
   rcases hx with (w |w |w |w) |(w |w |w)
   · exact .inl w
   · exact .inr (by omega)
   · exact .inr (by omega)
   · exact .inr (by omega)
   · exact .inr (hk x w).1
   · have:=hk4 x (qF_ _ w);exact .inr (by omega)
   · have:=hk4 x (qE_ _ w);exact .inr (by omega)
 · unfold fU;simp [hkl]
 · unfold fU;simp [hhl]
 · unfold fU;simp [hdl]
 · intro i x k h1 h2
   have hk':=hk x (qD_ h1)
   have hlt:=aG hk'.2
   have:k=k0:=by
    have:=qD_ h2
    unfold fU at this
    exact(List.mem_replicate.mp this).2
   subst this
   exact c8.get (c7.get (c6.get (c5.get (cc4.get (c3.get (c2.get hk'.2 (by simp)) (na _ (by omega))) (by simp)) (by simp)) (na _ (by omega))) (by simp)) (na _ (by omega))
 · intro i x d h h1 h2 h3'
   have q:=hh i x d h1 h2
   have e:h=kh i c:=by
    unfold fU at h3'
    dsimp only at h3'
    rw[qQ_]at h3'
    cases w:(List.range m)[i]? with
    |none=>rw[w]at h3';cases h3'
    |some j=>
     rw[w]at h3'
     obtain⟨_,w2⟩:=qB_.mp w
     rw[List.getElem_range]at w2
     cases h3'
     rw[w2]
   subst e
   have u1:=hk4 x (qF_ _ (qD_ h1))
   have u2:=hk4 d (qE_ _ (qD_ h2))
   exact(((q.chg c5 (by simp) (by simp)).chg c6 (na _ (by omega)) (na _ (by omega))).chg c7 (by simp) (by simp)).chg c8 (na _ (by omega)) (na _ (by omega))
 · unfold Ad.foot
   dsimp only
   rw[List.nodup_append]
   refine⟨by simp;omega,?_,fun x hx z hz w=>?_⟩
   · rw[List.nodup_append]
     refine⟨hknd,hnd,fun x hx z hz w=>?_⟩
     have u1:=aG (hk x hx).2
     have u2:=hk4 z hz
     omega
   · subst w
     simp only[qS_,List.not_mem_nil,or_false]at hx
     rcases qG_.mp hz with q |q
     · have u1:=(hk x q).1
       have u2:=aG (hk x q).2
       omega
     · have:=hk4 x q
       omega
theorem tu{a c m:Nat}{ci mi:Int}(hci:ci=(c:Int))(hmi:mi=(m:Int))(ha:G[a]? =some (.ins 4 []))(hc:c<=9)(hm:m<=9)
 (hq:∀S G',S.s=a->Chg [a] G G'->(∀x∈S.all,x=a\/G.length<=x)->dC G' S (cY c m)->Q .non G'):M3.run (gZ [.ref a,.int ci,.int mi]) G Q E:=by
 have hal:=aG ha
 have na:∀x,x≠a->x∉ [a]:=fun x h z=>h (by simpa using z)
 walk_at "f"
 unfold mY
 refine aR (gr (ny (ax (w_var rfl (ax (w_var rfl (aM fun G1 c1 l1 h1=>?_)))))))
 refine uS hci hmi h1 hc hm fun A G2 hA c2 hf H2=>⟨rfl,w_var rfl ?_⟩
 have ns2:∀x,x < G.length->x∉ [G.length]:=fun x h z=>by simp at z;omega
 have ha2:=c2.get (c1.get ha (by simp)) (ns2 _ hal)
 refine aT ha2 ⟨by decide,qP_ rfl⟩ fun G3 c3 l3 h3=>w_next ?_
 refine aR (gr (gY fun G4 c4 l4 h4=>w_var rfl ?_))
 have ha4:=c4.get h3 (by simp)
 refine aT ha4 ⟨by decide,qP_ rfl⟩ fun G5 c5 l5 h5=>w_next ?_
 refine aR (gr (pH fun G6 c6 l6 h6=>w_var rfl ?_))
 have ha6:=c6.get h5 (by simp)
 refine aT ha6 ⟨by decide,qP_ rfl⟩ fun G7 c7 l7 h7=>w_next ?_
 refine gr (w_c (w_var rfl ?_))
 refine aT h7 ⟨by decide,qP_ rfl⟩ fun G8 c8 l8 h8=>tJ ?_
 have g2:=c2.1
 have hfa:∀x∈A.foot,x≠a/\G.length<=x/\x < G2.length:=fun x hx=>by
  have:=H2.lt x hx
  rcases hf x hx with w |w <;> omega
 have fr:∀{T:List Nat} {X Y:Hh},Chg T X Y->(∀n∈T,n=a)->bI X A (fU c m)->bI Y A (fU c m):=fun cc ht H=>H.frame cc fun n hn z=>(hfa n z).1 (ht n hn)
 have e1:∀n∈ [a],n=a:=by simp
 have e0:∀n∈([]:List Nat),n=a:=by simp
 have H8:=fr c8 e1 (fr c7 e1 (fr c6 e0 (fr c5 e1 (fr c4 e0 (fr c3 e1 H2)))))
 rw[<-hA]at h8
 have n1:G3.length∉ [a]:=na _ (by omega)
 have n2:G5.length∉ [a]:=na _ (by omega)
 have w8:G8[G3.length]? =some (.lst []):=c8.get (c7.get (c6.get (c5.get h4 n1) (by simp)) n1) n1
 have d8:G8[G5.length]? =some (.dK []):=c8.get (c7.get h6 n2) n2
 refine hq ⟨a,G3.length,G5.length,[],A⟩ G8 rfl ?_ ?_ ⟨h8,w8,d8,rfl,by simp,H8,?_,?_⟩
 · exact(((c1.mono (T:=[a]) (by simp)).trans' c2 (by intro n hn;simp at hn;exact .inr (by omega))).trans c3 |>.trans (c4.mono (by simp)) |>.trans c5 |>.trans (c6.mono (by simp)) |>.trans c7 |>.trans c8)
 · intro x hx
   rcases qG_.mp hx with w |w
   · unfold Sd.own at w
     simp only[qY_,qS_,List.not_mem_nil,or_false]at w
     rcases w with w |w |w
     · exact .inl w
     · exact .inr (by omega)
     · exact .inr (by omega)
   · exact .inr (hfa x w).2.1
 · unfold Sd.own
   simp
   omega
 · intro x hx z
   unfold Sd.own at hx
   simp only[qY_,qS_,List.not_mem_nil,or_false]at hx
   have:=hfa x z
   omega
theorem yo{d:dt}{s:Nat}(hs:S.s=s)(I:Iv y)(hd:y.cC<=1000)(Y:dC G S y)
 (hq:∀v S' G',Chg S.all G G'->S.To S' G.length->dC G' S' (bC y d).1->lc S' G.length G' (bC y d).2 v->Q v G'):M3.run (eX [.ref s,dk d]) G Q E:=by
 subst hs
 exact zF I hd Y hq
def rZ(S:Sd)(n:Nat)(G:Hh)(as:List An)(vs:List D):Prop:=as.length=vs.length/\∀(i:Nat) a v,as[i]? =some a->vs[i]? =some v->lc S n G a v
theorem lc.mono{n m:Nat}{a:An}{v:D}(h:lc S n G a v)(hm:m<=n):lc S m G a v:=by
 cases a with
 |one d=>exact h
 |lst ds=>
  obtain⟨l,e,h1,h2,h3⟩:=h
  exact⟨l,e,Nat.le_trans hm h1,h2,h3⟩
theorem rZ.snoc{n:Nat}{as:List An}{vs:List D}{a:An}{v:D}(h:rZ S n G as vs)(h1:lc S n G a v):rZ S n G (as++[a]) (vs++[v]):=by
 refine⟨by simp [h.1],fun i b w hb hw=>?_⟩
 by_cases z:i < as.length
 · rw[qK_ z]at hb
   rw[qK_ (by rw[<-h.1];exact z)]at hw
   exact h.2 i b w hb hw
 · rw[qL_ (by omega)]at hb
   rw[qL_ (by rw[<-h.1];omega)]at hw
   have:i - as.length=0:=by
    have:=(qB_.mp hb).1
    simp at this
    omega
   rw[this]at hb
   rw[<-h.1,this]at hw
   simp at hb hw
   subst hb hw
   exact h1
theorem Ay{ds:List dt}{i:Nat}{d:dt}(h:ds[i]? =some d)(y:Sy):gG y (ds.take (i+1))=(bC (gG y (ds.take i)) d).1/\gR y (ds.take (i+1))=gR y (ds.take i)++[(bC (gG y (ds.take i)) d).2]:=by
 rw[take_succ h,jh,nY]
 exact⟨rfl,rfl⟩
theorem yk{c m l:Nat}{ci mi:Int}{ds:List dt}(hci:ci=(c:Int))(hmi:mi=(m:Int))(hc:c<=9)(hm:m<=9)(hl:G[l]? =some (.lst (ds.map dk)))(hz:ds.length<=1000)
 (hq:∀S la vs G',Chg [] G G'->G.length<=la->G'[la]? =some (.lst vs)->rZ S G.length G' (gR (cY c m) ds) vs->Q (.ref la) G'):M3.run (kF [.int ci,.int mi,.ref l]) G Q E:=by
 have hll:=aG hl
 walk_at "f"
 unfold rV
 refine aR (cK (ny (ax (w_var rfl (ax (w_var rfl (aM fun G1 c1 l1 h1=>?_)))))))
 refine tu hci hmi h1 hc hm fun S0 G2 hS c2 hf Y2=>⟨rfl,w_next ?_⟩
 walk_at "s"
 have I0:=rQ hc hm
 have c12:Chg [] G G2:=c1.trans' c2 (by intro n hn;simp at hn;rw[hn];exact .inr (qO_ _))
 have hf0:∀x∈S0.all,G.length<=x:=fun x hx=>by rcases hf x hx with w |w <;> omega
 have hl2:=c12.get hl (by simp)
 refine cU (o9 (wY (w_var rfl (oa hl2 ?_))))
 refine jB (xs:=ds.map dk) (fun i acc G'=>∃S',Chg [] G G'/\S'.s=G.length/\(∀x∈S'.all,G.length<=x)/\dC G' S' (gG (cY c m) (ds.take i))/\rZ S' G.length G' (gR (cY c m) (ds.take i)) acc) ?_ ?_ ?_ _ 0 [] G2 List.drop_zero (qf_ _) ⟨S0,c12,hS,hf0,Y2,rfl,by intro i a v h;simp [gR]at h⟩
 · rintro i acc G' ⟨S',cc,_⟩
   exact qZ_ (cc.get hl (by simp))
 · rintro i x acc G' hx ⟨S',cc,hs,hf',Y',A'⟩
   obtain⟨d,hd,rfl⟩:=o8 hx
   obtain⟨I',hdd,_,_⟩:=BO I0 (ds.take i)
   obtain⟨e1,e2⟩:=Ay hd (cY c m)
   have hdd':(gG (cY c m) (ds.take i)).cC<=1000:=by
    rw[hdd,List.length_take]
    show 0+_<=_
    omega
   have ho:=Y'.o
   rw[hs]at ho
   refine lP ?_
   rw[if_pos rfl]
   refine bK (w_var rfl (cX ho (ax (w_var rfl (aM ?_)))))
   refine yo hs (d:=d) I' hdd' Y' fun v S2 G2 c2 t2 Y2 A2=>?_
   have g:=cc.1
   refine⟨?_,S2,?_,t2.s.trans hs,fun x hx=>?_,by rw[e1];exact Y2,?_⟩
   · rw[<-A'.1,kO,List.length_take];unfold aH;omega
   · exact cc.trans' c2 fun n hn=>.inr (hf' n hn)
   · rcases t2.z x hx with w |w
     · exact hf' x w
     · omega
   · rw[e2]
     exact rZ.snoc ⟨A'.1,fun j a w h1 h2=>(A'.2 j a w h1 h2).on c2 t2⟩ (A2.mono g)
 · rintro acc G' ⟨S',cc,hs,hf',Y',A'⟩
   rw[qM_,List.take_length]at*
   intro G3 c3 l3 h3
   walk_at "r"
   exact hq S' G'.length acc G3 (cc.trans c3) cc.1 h3 ⟨A'.1,fun j a w h1 h2=>(A'.2 j a w h1 h2).chg c3 (by simp)⟩
end
section
variable{G G':Hh}{Q:D->Hh->Prop}{E:Nat->Hh->Prop}{σ:St}
theorem xu{xs:List Int}{i:Int}(h0:0<=i)(h1:i < (xs.length:Int)):∃v∈xs,atI (xs.map D.int) i=some (.int v):=by
 have hl:i.toNat < xs.length:=by omega
 exact⟨xs[i.toNat],List.getElem_mem hl,AR h0 (qA_ hl)⟩
theorem xB{i:Int}(h:Q (.bl true) G):M3.run (gW [.int i]) G Q E:=by
 walk_at "f"
 unfold w6
 walk_at "r"
 exact h
theorem Gb{l:Nat}{ns:List Int}{k:Nat}(hl:G[l]? =some (.frz (ns.map D.int)))(h:∀v:Int,Q (.int v) G):M3.run (x3 [.ref l,.int (k:Int)]) G Q E:=by
 unfold x3
 with_reducible refine M3.Cf rfl ?_
 simp only[List.map_cons,List.map_nil,List.cons_append,qc_]
 unfold FE
 walk_at "r"
 with_reducible refine Ax hl ?_
 walk_at "r"
 refine w_ite (fun z=>?_) fun z=>?_
 · have z':=of_decide_eq_true z
   rw[qM_]at z'
   obtain⟨v,_,e⟩:=xu (xs:=ns) (i:=(k:Int)) (by omega) z'
   walk_at "r"
   with_reducible refine CJ hl e ?_
   walk_at "r"
   exact h v
 · walk_at "r"
   exact h 0
theorem pM{a:A3}(h:M3.run (a σ) G (fun xs G1=>xs.length<=aH/\∀G2,Chg [] G1 G2->G2.length=G1.length+1->G2[G1.length]? =some (.lst xs)->Q (.ref G1.length) G2) E):M3.run (gc a σ) G Q E:=
 zw (az h (fun xs G1 ⟨q1,q2⟩=>⟨q1,q2 _ (Chg.add _ _) (by simp) (cE _ _)⟩) fun _ _ z=>z)
end
section
variable{G G':Hh}{Q:D->Hh->Prop}{E:Nat->Hh->Prop}{σ:St}{y:Sy}
theorem qD{f:D->D->Option Bool}:∀{xs:List D},(∀x∈xs,f x x=some true)->eqZ f xs xs=some true
 | [],_=>rfl
 |a :: r,h=>by
  unfold eqZ
  rw[h a qI_,qD fun x hx=>h x (qR_ _ hx)]
  rfl
theorem jH{k:Nat}{xs:List D}(h:∀x∈xs,eqG G k x x=some true):eqG G (k+1) (.tup xs) (.tup xs)=some true:=by
 show (eqZ (eqG G k) xs xs).map (·&&decide (xs.length=xs.length))=some true
 rw[qD h]
 simp
theorem gd{k:Nat}(i:Int):eqG G (k+1) (.int i) (.int i)=some true:=by show some (decide (i=i))=_;simp
theorem gx{k:Nat}(i:Str):eqG G (k+1) (.str i) (.str i)=some true:=by show some (decide (i=i))=_;simp
theorem Ae{k:Nat}(i:Bool):eqG G (k+1) (.bl i) (.bl i)=some true:=by show some (i==i)=_;simp
theorem all1{P:D->Prop}{a:D}(h1:P a):∀x∈ [a],P x:=by simp [h1]
theorem all2{P:D->Prop}{a b:D}(h1:P a)(h2:P b):∀x∈ [a,b],P x:=by simp [h1,h2]
theorem Fj{P:D->Prop}{a b c:D}(h1:P a)(h2:P b)(h3:P c):∀x∈ [a,b,c],P x:=by simp [h1,h2,h3]
theorem BM(d:dt)(k:Nat):eqG G (k+2) (dk d) (dk d)=some true:=by
 cases d with
 |wr i v=>exact jH (Fj (gx _) (gd _) (gd _))
 |rd i=>exact jH (all2 (gx _) (gd _))
 |ca n s=>exact jH (Fj (gx _) (gd _) (Ae _))
 |pa i j=>exact jH (Fj (gx _) (gd _) (gd _))
 |sw=>exact jH (all1 (gx _))
 |ag i=>exact jH (all2 (gx _) (gd _))
 |qu i=>exact jH (all2 (gx _) (gd _))
 |st i=>exact jH (all2 (gx _) (gd _))
 |wa i=>exact jH (all2 (gx _) (gd _))
theorem eq_list{i j k:Nat}{xs:List D}(h1:G[i]? =some (.lst xs))(h2:G[j]? =some (.lst xs))(h:∀x∈xs,eqG G k x x=some true):eqG G (k+1) (.ref i) (.ref j)=some true:=by
 have e1:M3.listOf G i=some xs:=by unfold M3.listOf;rw[h1]
 have e2:M3.listOf G j=some xs:=by unfold M3.listOf;rw[h2]
 unfold eqG
 dsimp only
 rw[e1,e2]
 dsimp only
 rw[if_pos rfl]
 exact qD h
end
def Df:D->Bool
 | .non=>true
 | .bl _=>true
 | .int _=>true
 | .str _=>true
 |_=>false
inductive Eqv (G:Hh):Nat->D->D->Prop
 |atom {n:Nat} {d:D} (h:Df d=true):Eqv G (n+1) d d
 |tup {n:Nat} {a b:List D} (hl:a.length=b.length) (hz:a.length<=1000000) (h:∀(i:Nat) x y,a[i]? =some x->b[i]? =some y->Eqv G n x y):Eqv G (n+1) (.tup a) (.tup b)
 |lst {n i j:Nat} {a b:List D} (h1:G[i]? =some (.lst a)) (h2:G[j]? =some (.lst b)) (hl:a.length=b.length) (hz:a.length<=1000000) (h:∀(i:Nat) x y,a[i]? =some x->b[i]? =some y->Eqv G n x y):Eqv G (n+1) (.ref i) (.ref j)
section
variable{G G':Hh}{Q:D->Hh->Prop}{E:Nat->Hh->Prop}{σ:St}{y:Sy}
theorem w_isK{c k:Kd}{d:D}(hk:kdOf G d=some k)(h:Q (.bl (jV k c)) G):M3.run (bIs c [d]) G Q E:=by
 refine aJ (a:= .bl (jV k c)) (G':=G) ?_ h
 unfold bIs
 dsimp only
 rw[hk]
theorem z9{cs:List Kd}{k:Kd}{d:D}(hk:kdOf G d=some k)(h:Q (.bl (cs.any (jV k ·))) G):M3.run (xP cs [d]) G Q E:=by
 refine aJ (a:= .bl (cs.any (jV k ·))) (G':=G) ?_ h
 unfold xP
 dsimp only
 rw[hk]
theorem zc{xs:List D}{i:Nat}{d:D}(h:xs[i]? =some d)(hq:Q d G):M3.run (oIx (.tup xs) (.int (i:Int))) G Q E:=by
 have:=jI (f:=fun d:D=>d) h
 rw[List.map_id']at this
 with_reducible exact cM this hq
theorem gO{n:Nat}{xs:List D}{i:Nat}{d:D}(hn:G[n]? =some (.lst xs))(h:xs[i]? =some d)(hq:Q d G):M3.run (oIx (.ref n) (.int (i:Int))) G Q E:=by
 have:=jI (f:=fun d:D=>d) h
 rw[List.map_id']at this
 with_reducible exact gP hn this hq
theorem HD:∀(n:Nat) {a b:D} {Q:D->Hh->Prop},Eqv G n a b->Q (.bl true) G->M3.run (uu n [a,b]) G Q E:=by
 intro n
 induction n with
 |zero=>intro a b Q h;cases h
 |succ n ih=>
  intro a b Q h hq
  show M3.run (fnM 2 [none] (Fd (uu n)) [a,b]) G Q E
  refine Cf rfl ?_
  simp only[List.map_cons,List.map_nil,List.cons_append,qc_]
  unfold Fd
  cases h with
  |atom h=>
   cases a with
   |non=>
    walk_at "r"
    exact hq
   |bl b=>
    walk_at "r"
    rw[show decide (D.bl b=D.non)=false from rfl]
    walk_at "r"
    refine w_eq (Ae b) ?_
    walk_at "r"
    exact hq
   |int i=>
    walk_at "r"
    rw[show decide (D.int i=D.non)=false from rfl]
    walk_at "r"
    refine w_eq (gd i) ?_
    walk_at "r"
    exact hq
   |str i=>
    walk_at "r"
    rw[show decide (D.str i=D.non)=false from rfl]
    walk_at "r"
    refine w_eq (gx i) ?_
    walk_at "r"
    exact hq
   |tup xs=>cases h
   |ref i=>cases h
  |tup hl hz h=>
   rename_i xs ys
   walk_at "r"
   rw[show decide (D.tup ys=D.non)=false from rfl]
   walk_at "r"
   refine rf (b:=true) rfl ?_
   walk_at "r"
   refine rf (b:=true) rfl ?_
   walk_at "r"
   refine z9 (k:= .tup) rfl ?_
   walk_at "r"
   rw[show (![Kd.lst,Kd.tup].any fun x=>jV Kd.tup x)=false from rfl]
   walk_at "r"
   refine tW (by unfold aH;omega) ?_
   walk_at "r"
   refine tW (by unfold aH;omega) ?_
   refine rf (b:=true) (by rw[eq_int];simp [hl]) ?_
   walk_at "r"
   refine tW (by unfold aH;omega) ?_
   with_reducible refine kC (by omega) ?_
   refine su (fun i σ G'=>G'=G/\∃v,σ=[some (.tup xs),some (.tup ys),v]) ?_ ?_ ⟨rfl,none,rfl⟩
   · rintro i σ G' hi ⟨rfl,v,rfl⟩
     have e1:xs[i]? =some xs[i]:=qA_ (by omega)
     have e2:ys[i]? =some ys[i]:=qA_ hi
     have he:=h i _ _ e1 e2
     refine aK ?_
     with_reducible refine rH ?_
     walk_at "s"
     with_reducible refine fO ?_
     with_reducible refine iz ?_
     with_reducible refine iI ?_
     with_reducible refine eT ?_
     walk_at "r"
     with_reducible refine zc e1 ?_
     walk_at "r"
     with_reducible refine zc e2 ?_
     walk_at "r"
     refine ih he ?_
     walk_at "r"
     exact⟨rfl,_,rfl⟩
   · rintro σ G' ⟨rfl,v,rfl⟩
     walk_at "r"
     exact hq
  |lst h1 h2 hl hz h=>
   rename_i i0 j0 xs ys
   walk_at "r"
   rw[show decide (D.ref j0=D.non)=false from rfl]
   walk_at "r"
   refine vA h2 ?_
   walk_at "r"
   refine t6 h2 ?_
   walk_at "r"
   refine tq h2 ?_
   walk_at "r"
   refine sA h2 ?_
   walk_at "r"
   refine mJ h2 ?_
   walk_at "r"
   refine mJ h1 ?_
   refine rf (b:=true) rfl ?_
   walk_at "r"
   refine mF h2 ?_
   walk_at "r"
   refine mF h1 ?_
   refine rf (b:=true) rfl ?_
   walk_at "r"
   refine z9 (k:= .lst) (by unfold kdOf;dsimp only;rw[h2]) ?_
   walk_at "r"
   rw[show (![Kd.lst,Kd.tup].any fun x=>jV Kd.lst x)=false from rfl]
   walk_at "r"
   refine gN h1 ?_
   walk_at "r"
   refine gN h2 ?_
   refine rf (b:=true) (by rw[eq_int];simp [hl]) ?_
   walk_at "r"
   refine gN h2 ?_
   with_reducible refine kC (by omega) ?_
   refine su (fun i σ G'=>G'=G/\∃v,σ=[some (.ref i0),some (.ref j0),v]) ?_ ?_ ⟨rfl,none,rfl⟩
   · rintro i σ G' hi ⟨rfl,v,rfl⟩
     have e1:xs[i]? =some xs[i]:=qA_ (by omega)
     have e2:ys[i]? =some ys[i]:=qA_ hi
     have he:=h i _ _ e1 e2
     refine aK ?_
     with_reducible refine rH ?_
     walk_at "s"
     with_reducible refine fO ?_
     with_reducible refine iz ?_
     with_reducible refine iI ?_
     with_reducible refine eT ?_
     walk_at "r"
     with_reducible refine gO h1 e1 ?_
     walk_at "r"
     with_reducible refine gO h2 e2 ?_
     walk_at "r"
     refine ih he ?_
     walk_at "r"
     exact⟨rfl,_,rfl⟩
   · rintro σ G' ⟨rfl,v,rfl⟩
     walk_at "r"
     exact hq
end
theorem qB(k:Nat):lastOf [] k=0:=rfl
theorem gH(e:Nat×Nat)(l:List (Nat×Nat))(k:Nat):lastOf (e :: l) k=if e.1=k then e.2 else lastOf l k:=by
 unfold lastOf
 rw[List.find?_cons]
 by_cases z:e.1=k
 · rw[qZ_ z,if_pos z];rfl
 · rw[qa_ z,if_neg z]
theorem wo(l:List (Nat×Nat))(j p k:Nat):lastOf (l.map fun e=>if e.1=j then (e.1,p)else e) k=if k=j/\(l.any fun e=>decide (e.1=j))=true then p else lastOf l k:=by
 induction l with
 |nil=>simp [qB]
 |cons e r ih=>
  rw[List.map_cons,gH,gH,ih,List.any_cons]
  by_cases z:e.1=j
  · rw[if_pos z,qZ_ z]
    dsimp only
    by_cases w:e.1=k
    · rw[if_pos w,if_pos ⟨by omega,by simp⟩]
    · rw[if_neg w,if_neg w,if_neg (by omega),if_neg (by omega)]
  · rw[if_neg z,qa_ z,Bool.false_or]
    by_cases w:e.1=k
    · rw[if_pos w,if_pos w,if_neg (by omega)]
    · rw[if_neg w,if_neg w]
theorem v9(l:List (Nat×Nat))(j p k:Nat)(h:(l.any fun e=>decide (e.1=j))=false):lastOf (l++[(j,p)]) k=if k=j then p else lastOf l k:=by
 induction l with
 |nil=>
  rw[qc_,gH,qB]
  by_cases z:k=j
  · rw[if_pos z.symm,if_pos z]
  · rw[if_neg (Ne.symm z),if_neg z]
 |cons e r ih=>
  rw[List.any_cons,Bool.or_eq_false_iff]at h
  rw[List.cons_append,gH,gH,ih h.2]
  have hz:=of_decide_eq_false h.1
  by_cases w:e.1=k
  · rw[if_pos w,if_pos w,if_neg (by omega)]
  · rw[if_neg w,if_neg w]
theorem wD(l:List (Nat×Nat))(j p k:Nat):lastOf (putL l j p) k=if k=j then p else lastOf l k:=by
 unfold putL
 cases h:(l.any fun e=>decide (e.1=j))with
 |true=>
  rw[if_pos rfl,wo,h]
  by_cases z:k=j
  · rw[if_pos ⟨z,rfl⟩,if_pos z]
  · rw[if_neg (by omega),if_neg z]
 |false=>
  rw[if_neg qC_]
  exact v9 l j p k h
def Fo(p:Nat):D:= .int (p:Int)
section
variable{G G':Hh}{Q:D->Hh->Prop}{E:Nat->Hh->Prop}{σ:St}{y:Sy}{QA:List D->Hh->Prop}
theorem FO(n:Nat):rng 0 n=(List.range n).map Fo:=Gg n
end
def plain:Nat->D->Bool
 |0,_=>false
 |n+1,.tup xs=>decide (xs.length<=1000000)&&xs.all (plain n)
 |n+1,d=>Df d
theorem zf{G:Hh}:∀(k:Nat) (d:D),plain k d=true->∀n,Eqv G (n+k) d d
 |0,_,h,_=>by cases h
 |k+1,.tup xs,h,n=>by
  simp only[plain,Bool.and_eq_true,decide_eq_true_eq,List.all_eq_true]at h
  refine Eqv.tup rfl h.1 fun i x y hx hy=>?_
  rw[hx]at hy
  cases hy
  exact zf k x (h.2 x (qD_ hx)) n
 |k+1,.non,h,n=>Eqv.atom rfl
 |k+1,.bl _,h,n=>Eqv.atom rfl
 |k+1,.int _,h,n=>Eqv.atom rfl
 |k+1,.str _,h,n=>Eqv.atom rfl
 |k+1,.ref _,h,n=>by cases h
section
variable{G G':Hh}{Q:D->Hh->Prop}{E:Nat->Hh->Prop}{σ:St}{y:Sy}
theorem AB{n:Nat}{xs:List D}(hn:G[n]? =some (.lst xs))(h:∀G',Chg [] G G'->G'.length=G.length+1->G'[G.length]? =some (.lst xs)->Q (.ref G.length) G'):M3.run (qt [.ref n]) G Q E:=
 BZ hn (h _ (Chg.add _ _) (by simp) (cE _ _))
theorem Af{n:Nat}{xs:List D}(h:G[n]? =some (.lst xs)):kdOf G (.ref n)=some .lst:=by
 unfold kdOf
 dsimp only
 rw[h]
end
theorem mO{a b:Int×Int}:gtS a b=true↔b.1 < a.1\/(b.1=a.1/\b.2 < a.2):=by
 unfold gtS
 simp only[tY]
 by_cases h:b.1=a.1
 · rw[if_pos h]
   by_cases h2:b.2=a.2
   · rw[if_pos h2];simp;omega
   · rw[if_neg h2,decide_eq_true_eq];omega
 · rw[if_neg h,decide_eq_true_eq];omega
theorem nC(a:Int×Int):gtS a a=false:=by
 cases h:gtS a a with
 |false=>rfl
 |true=>have:=mO.mp h;omega
theorem kU{a b c:Int×Int}(h:gtS a b=true)(g:gtS b c=true):gtS a c=true:=by
 have h:=mO.mp h
 have g:=mO.mp g
 exact mO.mpr (by omega)
theorem wI(k:Kr)(p:Pr):ef (ef k p) p=ef k p:=by
 unfold ef
 by_cases h:gtS p.1 k.pair.1=true
 · rw[if_pos h,if_neg (by rw[nC];exact qC_)]
 · rw[if_neg h,if_neg h]
theorem CF(k:Kr)(p:Pr):(ef k p).up=k.up:=by
 unfold ef
 split <;> rfl
def Low(P p:Pr):Prop:=p=P\/gtS P.1 p.1=true
theorem p4{P:Pr}:∀(ps:List Pr) (b:Pr),Low P b->(∀p∈ps,Low P p)->(b=P\/P∈ps)->ps.foldl better b=P
 | [],b,_,_,h=>by
   rcases h with h |h
   · exact h
   · cases h
 |p :: r,b,hb,hp,h=>by
  show r.foldl better (better b p)=P
  have lp:=hp p qI_
  have key:Low P (better b p)/\((b=P\/p=P)->better b p=P):=by
   unfold better
   rcases hb with rfl |hb
   · rcases lp with rfl |lp
     · rw[nC,if_neg qC_];exact⟨.inl rfl,fun _=>rfl⟩
     · have:gtS p.1 b.1=false:=by
        cases q:gtS p.1 b.1 with
        |false=>rfl
        |true=>have:=kU lp q;rw[nC]at this;cases this
       rw[this,if_neg qC_];exact⟨.inl rfl,fun _=>rfl⟩
   · rcases lp with rfl |lp
     · rw[if_pos hb];exact⟨.inl rfl,fun _=>rfl⟩
     · have nb:b≠P:=by rintro rfl;rw[nC]at hb;cases hb
       have np:p≠P:=by rintro rfl;rw[nC]at lp;cases lp
       refine⟨?_,fun z=>absurd z (by rintro(z |z);exact nb z;exact np z)⟩
       split
       · exact .inr lp
       · exact .inr hb
  refine p4 r _ key.1 (fun q hq=>hp q (qR_ _ hq)) ?_
  rcases h with h |h
  · exact .inl (key.2 (.inl h))
  · rcases qS_.mp h with h |h
    · exact .inl (key.2 (.inr h.symm))
    · exact .inr h
theorem xh:∀(r:List Int) (m:Int),m<=jR m r/\∀x∈r,x<=jR m r
 | [],m=>⟨Int.le_refl _,by simp⟩
 |x :: r,m=>by
  obtain⟨h1,h2⟩:=xh r (if x > m then x else m)
  show m<=jR (if x > m then x else m) r/\∀z∈x :: r,z<=jR (if x > m then x else m) r
  have e:m<=(if x > m then x else m)/\x<=(if x > m then x else m):=by split <;> omega
  refine⟨by omega,fun z hz=>?_⟩
  rcases qS_.mp hz with rfl |hz
  · omega
  · exact h2 z hz
theorem BY{ps:List Pr}{own:Int}:(∀p∈ps,p.1.1<=rg ps own)/\own<=rg ps own:=by
 have key:∀x∈turns ps++[own],x<=rg ps own:=by
  intro x hx
  unfold rg
  split
  · rename_i m r e
    rw[e]at hx
    obtain⟨h1,h2⟩:=xh r m
    rcases qS_.mp hx with rfl |hx
    · exact h1
    · exact h2 x hx
  · rename_i e
    simp at e
 exact⟨fun p hp=>key _ (qF_ _ (qH_.mpr ⟨p,hp,rfl⟩)),key own (by simp)⟩
theorem meet{n:Nat}{a b:List Nat}(ha:a.Nodup)(hb:b.Nodup)(la:∀x∈a,x < n)(lb:∀x∈b,x < n)(na:n < 2*a.length)(nb:n < 2*b.length):∃x∈a,x∈b:=by
 apply Classical.byContradiction
 intro h
 have:(a++b).Nodup:=by
  rw[List.nodup_append]
  refine⟨ha,hb,fun x hx y hy e=>h ⟨x,hx,by rw[e];exact hy⟩⟩
 have:=qr n (a++b) this (fun x hx=>(qG_.mp hx).elim (la x) (lb x))
 rw[qN_]at this
 omega
theorem B3{sel:Hl->Option Nat}(hs:Sel sel)(P:Hl->List (Nat×Pr)->Prop)(step:∀st es p,WF st->sel st=some p->P st es->P (aU st p false).1 (es++(aU st p false).2)):
 ∀(n:Nat) (st:Hl) (es:List (Nat×Pr)),mea st<=n->WF st->P st es->WF (dD sel st).1/\P (dD sel st).1 (es++(dD sel st).2)/\sel (dD sel st).1=none:=by
 intro n
 induction n with
 |zero=>
  intro st es hm W h
  cases q:sel st with
  |none=>
   rw[et q,qY_]
   exact⟨W,h,q⟩
  |some p=>have:=cH W (hs st p q);omega
 |succ n ih=>
  intro st es hm W h
  cases q:sel st with
  |none=>
   rw[et q,qY_]
   exact⟨W,h,q⟩
  |some p=>
   have h1:=cH W (hs st p q)
   rw[jx hs W q,<-List.append_assoc]
   exact ih _ _ (by omega) (iW W p false) (step st es p W q h)
theorem wQ{st:Hl}(h:bf st=none):st.row=[]:=by
 unfold bf at h
 split at h
 · assumption
 · cases h
theorem nP:∀{a b:List Nat},a.Nodup->(∀x∈a,x∈b)->a.length<=b.length
 | [],b,_,_=>qf_ _
 |x :: r,b,hn,h=>by
  have hx:=h x qI_
  rw[List.nodup_cons]at hn
  have:=nP (a:=r) (b:=b.erase x) hn.2 fun y hy=>(List.mem_erase_of_ne (by rintro rfl;exact hn.1 hy)).mpr (h y (qR_ _ hy))
  rw[List.length_erase_of_mem hx]at this
  have:0 < b.length:=List.length_pos_of_mem hx
  simp only[List.length_cons]
  omega
theorem uI{st:Hl}{l:Lt}{rest:List (Bool×Lt)}{k:Kr}(h:st.row=(false,l) :: rest)(hk:st.ks[l.kpr]? =some k):
 aU st 0 false=({st with ks:=st.ks.set l.kpr (aX k l).1,row:=rest++(match (aX k l).2 with
  |none=>[]
  |some x=>[(true,x)])},[]):=by
 unfold aU
 rw[h]
 show (match st.ks[l.kpr]? with |none=>_ |some k=>_)=_
 rw[hk]
 dsimp only
 unfold eQ
 rw[h]
 rfl
theorem mS{st:Hl}{l:Lt}{rest:List (Bool×Lt)}{h:Hd}(hr:st.row=(true,l) :: rest)(hh:st.hs[l.hand]? =some h):
 aU st 0 false=({st with hs:=st.hs.set l.hand (bH h l).1,row:=rest++(bH h l).2.1.map fun x=>(false,x)},match (bH h l).2.2 with
  |none=>[]
  |some p=>[(l.hand,p)]):=by
 unfold aU
 rw[hr]
 show (match st.hs[l.hand]? with |none=>_ |some k=>_)=_
 rw[hh]
 dsimp only
 unfold eQ
 rw[hr]
 rfl
theorem set_same{α:Type}{xs:List α}{i:Nat}{x:α}(h:xs[i]? =some x):xs.set i x=xs:=by
 apply List.ext_getElem?
 intro j
 rw[qJ_]
 split
 · rename_i e
   subst e
   split
   · exact h.symm
   · rename_i z
     have:=(qB_.mp h).1
     exact absurd this z
 · rfl
theorem kS{l:List (Nat×Option Pr)}{k:Nat}{p:Option Pr}{x:Nat}:x∈(bi l k p).map (·.1)↔x=k\/x∈l.map (·.1):=by
 unfold bi
 split
 · rename_i h
   rw[qb_]
   have e:((fun x:Nat×Option Pr=>x.1) ∘ fun e:Nat×Option Pr=>if e.1=k then (e.1,p)else e)=fun e=>e.1:=by
    funext e
    show (if e.1=k then (e.1,p)else e).1=e.1
    split <;> rfl
   rw[e]
   obtain⟨x0,he,hk⟩:=List.any_eq_true.mp h
   have hk:x0.1=k:=of_decide_eq_true hk
   constructor
   · exact .inr
   · rintro(rfl |z)
     · exact qH_.mpr ⟨x0,he,hk⟩
     · exact z
 · rw[qT_,qG_]
   simp
   constructor
   · rintro(z |z)
     · exact .inr z
     · exact .inl z
   · rintro(z |z)
     · exact .inr z
     · exact .inl z
def pq(vo:Option Int)(P0 P:Pr):Prop:=match vo with
 |none=>P=P0
 |some v=>P.2=v/\gtS P.1 P0.1=true
def iC(ks0:List Kr)(ks:List Kr)(P:Pr):Prop:=ks.length=ks0.length/\∀(k:Nat) k0,ks0[k]? =some k0->ks[k]? =some k0\/ks[k]? =some (ef k0 P)
def Has(ks0:List Kr)(ks:List Kr)(P:Pr)(k:Nat):Prop:=∃k0,ks0[k]? =some k0/\ks[k]? =some (ef k0 P)
theorem iC.refl(ks0:List Kr)(P:Pr):iC ks0 ks0 P:=⟨rfl,fun _ _ h=>.inl h⟩
theorem iC.get{ks0 ks:List Kr}{P:Pr}(E:iC ks0 ks P){i:Nat}{k:Kr}(h:ks[i]? =some k):∃k0,ks0[i]? =some k0/\(k=k0\/k=ef k0 P):=by
 have hi:=(qB_.mp h).1
 have e:ks0[i]? =some (ks0[i]'(by rw[<-E.1];exact hi)):=qA_ _
 refine⟨_,e,?_⟩
 rcases E.2 i _ e with z |z
 · rw[h]at z;cases z;exact .inl rfl
 · rw[h]at z;cases z;exact .inr rfl
theorem iC.set{ks0 ks:List Kr}{P:Pr}(E:iC ks0 ks P){i:Nat}{k:Kr}(h:ks[i]? =some k):iC ks0 (ks.set i (ef k P)) P/\Has ks0 (ks.set i (ef k P)) P i/\∀j,Has ks0 ks P j->Has ks0 (ks.set i (ef k P)) P j:=by
 have hi:=(qB_.mp h).1
 obtain⟨k0,h0,e⟩:=E.get h
 have ek:ef k P=ef k0 P:=by
  rcases e with rfl |rfl
  · rfl
  · exact wI _ _
 rw[ek]
 have hs:(ks.set i (ef k0 P))[i]? =some (ef k0 P):=by rw[qJ_];simp [hi]
 refine⟨⟨by rw[qX_];exact E.1,fun j j0 hj=>?_⟩,⟨k0,h0,hs⟩,fun j ⟨j0,a,b⟩=>⟨j0,a,?_⟩⟩
 · by_cases z:i=j
   · subst z
     rw[h0]at hj
     cases hj
     exact .inr hs
   · rw[qJ_,if_neg z]
     exact E.2 j j0 hj
 · by_cases z:i=j
   · subst z
     rw[h0]at a
     cases a
     exact hs
   · rw[qJ_,if_neg z]
     exact b
structure Base (hs0:List Hd) (j:Nat) (st:Hl):Prop where
 oth:∀i,i≠j->st.hs[i]? =hs0[i]?
 len:st.hs.length=hs0.length
 row:∀e∈st.row,e.2.hand=j
inductive pC (ks0:List Kr) (j:Nat) (r:Int) (vo:Option Int) (P0:Pr) (st:Hl) (es:List (Nat×Pr)):Prop
 |a (h:Hd) (e:st.hs[j]? =some h) (aw:h.atw=true) (pn:h.pair=none) (rn:h.rnd=r) (vl:h.val=vo) (ks:st.ks=ks0) (ne:es=[])
  (rw:∀e∈st.row,e.2.num=r/\(e.1=false->e.2.pair=none)/\(e.1=true->∃k0,ks0[e.2.kpr]? =some k0/\e.2.pair=some k0.pair))
  (hd:∀e∈h.ar,∃k0,ks0[e.1]? =some k0/\e.2=some k0.pair)
  (cov:∀(k:Nat) k0,ks0[k]? =some k0->k0.up=true->k∈h.ar.map (·.1)\/∃e∈st.row,e.2.kpr=k)
  (sm:¬ks0.length < h.ar.length*2)
 |b (P:Pr) (h:Hd) (e:st.hs[j]? =some h) (aw:h.atw=true) (pn:h.pair=some P) (rn:h.rnd=r+1) (ch:pq vo P0 P) (ks:iC ks0 st.ks P) (ne:es=[])
  (rw:∀e∈st.row,(e.1=false->(e.2.pair=none/\e.2.num=r)\/(e.2.pair=some P/\e.2.num=r+1))/\(e.1=true->e.2.num=r+1->Has ks0 st.ks P e.2.kpr))
  (hd:∀e∈h.ar,Has ks0 st.ks P e.1)
  (cov:∀(k:Nat) k0,ks0[k]? =some k0->k0.up=true->k∈h.ar.map (·.1)\/∃e∈st.row,e.2.kpr=k/\e.2.num=r+1)
  (sm:¬ks0.length < h.ar.length*2)
 |c (P:Pr) (h:Hd) (e:st.hs[j]? =some h) (aw:h.atw=false) (ch:pq vo P0 P) (ks:iC ks0 st.ks P) (ne:es=[(j,P)])
  (rw:∀e∈st.row,e.1=false->e.2.pair=none\/e.2.pair=some P)
  (mj:∃ms:List Nat,ms.Nodup/\ks0.length < 2*ms.length/\∀k∈ms,Has ks0 st.ks P k)
section
variable{ks0:List Kr}{hs0:List Hd}{j:Nat}{r:Int}{vo:Option Int}{P0:Pr}
theorem Ar{st:Hl}{l:Lt}{rest:List (Bool×Lt)}{k:Kr}(B:Base hs0 j st)(h:st.row=(false,l) :: rest)(hk:st.ks[l.kpr]? =some k):Base hs0 j (aU st 0 false).1:=by
 rw[uI h hk]
 have hl:l.hand=j:=B.row (false,l) (by rw[h];exact qI_)
 refine⟨B.oth,B.len,fun e he=>?_⟩
 rcases qG_.mp he with z |z
 · exact B.row e (by rw[h];exact qR_ _ z)
 · unfold aX at z
   split at z
   · cases z
   · rename_i x hx
     simp at z
     subst z
     split at hx
     · split at hx
       · cases hx;exact hl
       · cases hx;exact hl
     · cases hx
theorem yY{st:Hl}{l:Lt}{rest:List (Bool×Lt)}{h:Hd}(W:WF st)(B:Base hs0 j st)(hr:st.row=(true,l) :: rest)(hh:st.hs[l.hand]? =some h):Base hs0 j (aU st 0 false).1:=by
 rw[mS hr hh]
 have hl:l.hand=j:=B.row (true,l) (by rw[hr];exact qI_)
 have hm:(true,l)∈st.row:=by rw[hr];exact qI_
 refine⟨fun i hi=>?_,by rw[qX_];exact B.len,fun e he=>?_⟩
 · show (st.hs.set l.hand _)[i]? =_
   rw[qJ_,if_neg (by rw[hl];exact fun z=>hi z.symm)]
   exact B.oth i hi
 · rcases qG_.mp he with z |z
   · exact B.row e (by rw[hr];exact qR_ _ z)
   · obtain⟨x,hx,rfl⟩:=qH_.mp z
     show x.hand=j
     unfold bH at hx
     split at hx
     · cases hx
     · dsimp only at hx
       split at hx
       · cases hx
       · split at hx
         · obtain⟨k,_,rfl⟩:=qH_.mp hx
           have n1:h.num=l.hand:=(W.hk _ h hh).1
           exact(mn _ _).1.trans (n1.trans hl)
         · cases hx
theorem yd{h:Hd}{ar:List (Nat×Option Pr)}(hP:∃ms:List Nat,ms.Nodup/\ks0.length < 2*ms.length/\∀k∈ms,∃k0,ks0[k]? =some k0/\k0.pair=P0)(lo:∀(k:Nat) k0,ks0[k]? =some k0->Low P0 k0.pair)(ls:Low P0 start)
 (hd:∀e∈ar,∃k0,ks0[e.1]? =some k0/\e.2=some k0.pair) (nd:(ar.map (·.1)).Nodup) (big:ks0.length < ar.length*2) (hv:h.val=vo):pq vo P0 (bJ h (vals ar)).2:=by
 obtain⟨ms,m1,m2,m3⟩:=hP
 have mlt:∀x∈ms,x < ks0.length:=fun x hx=>by
  obtain⟨k0,e,_⟩:=m3 x hx
  exact(qB_.mp e).1
 have hlt:∀x∈ar.map (·.1),x < ks0.length:=fun x hx=>by
  obtain⟨e,he,rfl⟩:=qH_.mp hx
  obtain⟨k0,e,_⟩:=hd e he
  exact(qB_.mp e).1
 obtain⟨x,x1,x2⟩:=meet nd m1 hlt mlt (by rw[qM_];omega) m2
 have hin:P0∈vals ar:=by
  obtain⟨e,he,rfl⟩:=qH_.mp x1
  obtain⟨k0,e0,ep⟩:=hd e he
  obtain⟨k1,e1,eq⟩:=m3 _ x2
  rw[e0]at e1
  cases e1
  unfold vals
  exact List.mem_filterMap.mpr ⟨e,he,by rw[ep,eq]⟩
 have hlow:∀p∈vals ar,Low P0 p:=fun p hp=>by
  unfold vals at hp
  obtain⟨e,he,ee⟩:=List.mem_filterMap.mp hp
  obtain⟨k0,e0,ep⟩:=hd e he
  rw[ep]at ee
  cases ee
  exact lo _ k0 e0
 unfold bJ
 rw[hv]
 cases vo with
 |none=>exact p4 _ _ ls hlow (.inr hin)
 |some v=>
  refine⟨rfl,mO.mpr (.inl ?_)⟩
  have:=(BY (ps:=vals ar) (own:=h.own)).1 P0 hin
  show P0.1.1 < rg (vals ar) h.own+1
  omega
theorem dS{st:Hl}{x e:Bool×Lt}{rest:List (Bool×Lt)}(h:st.row=x :: rest)(he:e∈rest):e∈st.row:=by rw[h];exact qR_ _ he
theorem yt(hP:∃ms:List Nat,ms.Nodup/\ks0.length < 2*ms.length/\∀k∈ms,∃k0,ks0[k]? =some k0/\k0.pair=P0){st:Hl}{es:List (Nat×Pr)}{l:Lt}{rest:List (Bool×Lt)}{k:Kr}(W:WF st)(B:Base hs0 j st)(F:pC ks0 j r vo P0 st es)(h:st.row=(false,l) :: rest)(hk:st.ks[l.kpr]? =some k):
 pC ks0 j r vo P0 (aU st 0 false).1 (es++(aU st 0 false).2):=by
 have hm:(false,l)∈st.row:=by rw[h];exact qI_
 rw[uI h hk]
 dsimp only
 rw[qY_]
 cases F with
 |a g e aw pn rn vl ks ne rw' hd cov sm=>
  obtain⟨l1,l2,_⟩:=rw' _ hm
  have l2:l.pair=none:=l2 rfl
  have ek:(aX k l).1=k:=by
   unfold aX
   rw[l2]
   split <;> rfl
  have es':st.ks.set l.kpr (aX k l).1=ks0:=by rw[ek,set_same hk,ks]
  rw[ks]at hk
  refine .a g e aw pn rn vl es' ne (fun x hx=>?_) hd (fun q k0 h0 hu=>?_) sm
  · rcases qG_.mp hx with z |z
    · exact rw' x (dS h z)
    · unfold aX at z
      rw[l2]at z
      cases hu:k.up with
      |false=>rw[hu]at z;cases z
      |true=>
       rw[hu]at z
       simp at z
       subst z
       exact⟨l1,fun z=>(by cases z),fun _=>⟨k,hk,rfl⟩⟩
  · rcases cov q k0 h0 hu with z |⟨x,hx,hq⟩
    · exact .inl z
    · rw[h]at hx
      rcases qS_.mp hx with rfl |hx
      · have hq:l.kpr=q:=hq
        subst hq
        rw[hk]at h0
        cases h0
        refine .inr ⟨(true,{l with pair:=some k.pair}),qE_ _ ?_,rfl⟩
        unfold aX
        rw[hu,l2]
        exact qI_
      · exact .inr ⟨x,qF_ _ hx,hq⟩
 |b P g e aw pn rn ch ks ne rw' hd cov sm=>
  have l2:=(rw' _ hm).1 rfl
  obtain⟨k0,hk0,ke⟩:=ks.get hk
  have kup:k.up=k0.up:=by
   rcases ke with rfl |rfl
   · rfl
   · exact CF _ _
  rcases l2 with ⟨l2,l3⟩ |⟨l2,l3⟩
  · have l2:l.pair=none:=l2
    have l3:l.num=r:=l3
    have ek:(aX k l).1=k:=by
     unfold aX
     rw[l2]
     split <;> rfl
    rw[ek,set_same hk]
    refine .b P g e aw pn rn ch ks ne (fun x hx=>?_) hd (fun q q0 h0 hu=>?_) sm
    · rcases qG_.mp hx with z |z
      · exact rw' x (dS h z)
      · unfold aX at z
        rw[l2]at z
        cases hu:k.up with
        |false=>rw[hu]at z;cases z
        |true=>
         rw[hu]at z
         simp at z
         subst z
         exact⟨fun z=>(by cases z),fun _ z=>(by have:l.num=r+1:=z;omega)⟩
    · rcases cov q q0 h0 hu with z |⟨x,hx,hq,hn⟩
      · exact .inl z
      · rw[h]at hx
        rcases qS_.mp hx with rfl |hx
        · have:l.num=r+1:=hn
          omega
        · exact .inr ⟨x,qF_ _ hx,hq,hn⟩
  · have l2:l.pair=some P:=l2
    have l3:l.num=r+1:=l3
    cases hu:k.up with
    |false=>
     have ea:aX k l=(k,none):=by unfold aX;rw[hu];rfl
     rw[ea]
     dsimp only
     rw[set_same hk,qY_]
     refine .b P g e aw pn rn ch ks ne (fun x hx=>rw' x (dS h hx)) hd (fun q q0 h0 hu'=>?_) sm
     rcases cov q q0 h0 hu' with z |⟨x,hx,hq,hn⟩
     · exact .inl z
     · rw[h]at hx
       rcases qS_.mp hx with rfl |hx
       · have hq:l.kpr=q:=hq
         subst hq
         rw[hk0]at h0
         cases h0
         rw[hu,hu']at kup
         cases kup
       · exact .inr ⟨x,hx,hq,hn⟩
    |true=>
     have ea:aX k l=(ef k P,some {l with pair:=none}):=by unfold aX;rw[hu,l2];rfl
     rw[ea]
     dsimp only
     obtain⟨E1,H1,H2⟩:=ks.set hk
     refine .b P g e aw pn rn ch E1 ne (fun x hx=>?_) (fun x hx=>H2 _ (hd x hx)) (fun q q0 h0 hu'=>?_) sm
     · rcases qG_.mp hx with z |z
       · obtain⟨w1,w2⟩:=rw' x (dS h z)
         exact⟨w1,fun a b=>H2 _ (w2 a b)⟩
       · simp at z
         subst z
         exact⟨fun z=>(by cases z),fun _ _=>H1⟩
     · rcases cov q q0 h0 hu' with z |⟨x,hx,hq,hn⟩
       · exact .inl z
       · rw[h]at hx
         rcases qS_.mp hx with rfl |hx
         · exact .inr ⟨(true,{l with pair:=none}),qE_ _ qI_,hq,hn⟩
         · exact .inr ⟨x,qF_ _ hx,hq,hn⟩
 |c P g e aw ch ks ne rw' mj=>
  have l2:=rw' _ hm rfl
  rcases l2 with l2 |l2
  · have l2:l.pair=none:=l2
    have ek:(aX k l).1=k:=by
     unfold aX
     rw[l2]
     split <;> rfl
    rw[ek,set_same hk]
    refine .c P g e aw ch ks ne (fun x hx hf=>?_) mj
    rcases qG_.mp hx with z |z
    · exact rw' x (dS h z) hf
    · unfold aX at z
      rw[l2]at z
      cases hu:k.up with
      |false=>rw[hu]at z;cases z
      |true=>rw[hu]at z;simp at z;subst z;cases hf
  · have l2:l.pair=some P:=l2
    cases hu:k.up with
    |false=>
     have ea:aX k l=(k,none):=by unfold aX;rw[hu];rfl
     rw[ea]
     dsimp only
     rw[set_same hk,qY_]
     exact .c P g e aw ch ks ne (fun x hx=>rw' x (dS h hx)) mj
    |true=>
     have ea:aX k l=(ef k P,some {l with pair:=none}):=by unfold aX;rw[hu,l2];rfl
     rw[ea]
     dsimp only
     obtain⟨E1,H1,H2⟩:=ks.set hk
     obtain⟨ms,m1,m2,m3⟩:=mj
     refine .c P g e aw ch E1 ne (fun x hx hf=>?_) ⟨ms,m1,m2,fun k hk=>H2 k (m3 k hk)⟩
     rcases qG_.mp hx with z |z
     · exact rw' x (dS h z) hf
     · simp at z;subst z;cases hf
theorem uY{h:Hd}{l:Lt}(z:h.atw=false\/l.num≠h.rnd):bH h l=(h,[],none):=by
 unfold bH
 rw[if_pos]
 rcases z with z |z
 · rw[z];rfl
 · rw[qa_ z];simp
theorem va{h:Hd}{l:Lt}(ha:h.atw=true)(hn:l.num=h.rnd)(hs:¬h.cnt < (bi h.ar l.kpr l.pair).length*2):bH h l=({h with ar:=bi h.ar l.kpr l.pair},[],none):=by
 unfold bH
 rw[if_neg (by rw[ha,qZ_ hn];decide)]
 dsimp only
 rw[if_pos (by rw[qa_ hs];rfl)]
theorem zR{h:Hd}{l:Lt}(ha:h.atw=true)(hn:l.num=h.rnd)(hs:h.cnt < (bi h.ar l.kpr l.pair).length*2)(hp:h.pair=none):
 bH h l=(roundF (bJ {h with ar:=bi h.ar l.kpr l.pair} (vals (bi h.ar l.kpr l.pair))).1 (some (bJ {h with ar:=bi h.ar l.kpr l.pair} (vals (bi h.ar l.kpr l.pair))).2),bz (roundF (bJ {h with ar:=bi h.ar l.kpr l.pair} (vals (bi h.ar l.kpr l.pair))).1 (some (bJ {h with ar:=bi h.ar l.kpr l.pair} (vals (bi h.ar l.kpr l.pair))).2)),none):=by
 unfold bH
 rw[if_neg (by rw[ha,qZ_ hn];decide)]
 dsimp only
 rw[if_neg (by rw[qZ_ hs];decide),hp]
theorem zX{h:Hd}{l:Lt}{P:Pr}(ha:h.atw=true)(hn:l.num=h.rnd)(hs:h.cnt < (bi h.ar l.kpr l.pair).length*2)(hp:h.pair=some P):
 bH h l=({h with ar:=bi h.ar l.kpr l.pair,atw:=false},[],some P):=by
 unfold bH
 rw[if_neg (by rw[ha,qZ_ hn];decide)]
 dsimp only
 rw[if_neg (by rw[qZ_ hs];decide),hp]
theorem rW{h:Hd}(e:h.ar=[]):nA h=List.range h.cnt:=by
 unfold nA
 rw[e]
 exact List.filter_eq_self.mpr (by simp)
theorem yB(hP:∃ms:List Nat,ms.Nodup/\ks0.length < 2*ms.length/\∀k∈ms,∃k0,ks0[k]? =some k0/\k0.pair=P0)(lo:∀(k:Nat) k0,ks0[k]? =some k0->Low P0 k0.pair)(ls:Low P0 start)
 {st:Hl} {es:List (Nat×Pr)} {l:Lt} {rest:List (Bool×Lt)} (W:WF st) (B:Base hs0 j st) (F:pC ks0 j r vo P0 st es) (hr:st.row=(true,l) :: rest):
 pC ks0 j r vo P0 (aU st 0 false).1 (es++(aU st 0 false).2):=by
 have hm:(true,l)∈st.row:=by rw[hr];exact qI_
 have hj:l.hand=j:=B.row _ hm
 have hkp:l.kpr < st.ks.length:=(W.rw _ hm).elim fun h z=>z.2.1
 have self:∀{g x:Hd},st.hs[j]? =some g->(st.hs.set j x)[j]? =some x:=fun {g x} e=>by
  rw[qJ_,if_pos rfl,if_pos (qB_.mp e).1]
 cases F with
 |a g e aw pn rn vl ks ne rw' hd cov sm=>
  obtain⟨l1,_,l3⟩:=rw' _ hm
  obtain⟨k0,hk0,lp⟩:=l3 rfl
  have l1:l.num=r:=l1
  have lp:l.pair=some k0.pair:=lp
  have hc:g.cnt=ks0.length:=by rw[<-ks];exact(W.hk j g e).2.1
  have nd:((bi g.ar l.kpr l.pair).map (·.1)).Nodup:=lX (W.hk j g e).2.2.2.1
  have hd':∀e∈bi g.ar l.kpr l.pair,∃k0,ks0[e.1]? =some k0/\e.2=some k0.pair:=fun x hx=>by
   rcases j6 hx with ⟨z1,z2⟩ |z
   · exact⟨k0,by rw[z1];exact hk0,by rw[z2];exact lp⟩
   · exact hd x z
  rw[mS hr (by rw[hj];exact e)]
  by_cases big:g.cnt < (bi g.ar l.kpr l.pair).length*2
  · rw[zR aw (l1.trans rn.symm) big pn]
    dsimp only
    rw[qY_]
    have ch:=yd (h:={g with ar:=bi g.ar l.kpr l.pair}) hP lo ls hd' nd (by rw[<-hc];exact big) vl
    obtain⟨n1,n2,n3⟩:=mn {g with ar:=bi g.ar l.kpr l.pair} (vals (bi g.ar l.kpr l.pair))
    have n4:=ib {g with ar:=bi g.ar l.kpr l.pair} (vals (bi g.ar l.kpr l.pair))
    generalize bJ {g with ar:=bi g.ar l.kpr l.pair} (vals (bi g.ar l.kpr l.pair))=c at ch n1 n2 n3 n4
    refine .b c.2 (roundF c.1 (some c.2)) (by rw[hj];exact self e) (n3.trans aw) rfl ?_ ch (by rw[ks];exact iC.refl _ _) ne (fun x hx=>?_) (fun x hx=>by cases hx) (fun q q0 h0 hu=>?_) (by show ¬_ < 0*2;omega)
    · show c.1.rnd+1=r+1
      rw[n2]
      show g.rnd+1=_
      rw[rn]
    · rcases qG_.mp hx with z |z
      · obtain⟨w1,w2,w3⟩:=rw' x (dS hr z)
        exact⟨fun a=>.inl ⟨w2 a,w1⟩,fun _ b=>by omega⟩
      · obtain⟨y,hy,rfl⟩:=qH_.mp z
        obtain⟨q,_,rfl⟩:=qH_.mp hy
        refine⟨fun _=>.inr ⟨rfl,?_⟩,fun a=>(by cases a)⟩
        show c.1.rnd+1=r+1
        rw[n2]
        show g.rnd+1=_
        rw[rn]
    · refine .inr ⟨(false,⟨(roundF c.1 (some c.2)).num,q,(roundF c.1 (some c.2)).rnd,some c.2⟩),qE_ _ (qH_.mpr ⟨_,qH_.mpr ⟨q,?_,rfl⟩,rfl⟩),rfl,?_⟩
      · rw[rW rfl]
        refine List.mem_range.mpr ?_
        show q < c.1.cnt
        rw[n4]
        show q < g.cnt
        rw[hc]
        exact(qB_.mp h0).1
      · show c.1.rnd+1=r+1
        rw[n2]
        show g.rnd+1=_
        rw[rn]
  · rw[va aw (l1.trans rn.symm) big]
    dsimp only
    rw[qY_,List.map_nil,qY_]
    refine .a {g with ar:=bi g.ar l.kpr l.pair} (by rw[hj];exact self e) aw pn rn vl ks ne (fun x hx=>rw' x (dS hr hx)) hd' (fun q q0 h0 hu=>?_) (by rw[<-hc];exact big)
    rcases cov q q0 h0 hu with z |⟨x,hx,hq⟩
    · exact .inl (kS.mpr (.inr z))
    · rw[hr]at hx
      rcases qS_.mp hx with rfl |hx
      · exact .inl (kS.mpr (.inl hq.symm))
      · exact .inr ⟨x,hx,hq⟩
 |b P g e aw pn rn ch ks ne rw' hd cov sm=>
  have hc:g.cnt=ks0.length:=by rw[<-ks.1];exact(W.hk j g e).2.1
  rw[mS hr (by rw[hj];exact e)]
  by_cases hn:l.num=r+1
  · have H:=(rw' _ hm).2 rfl hn
    have hd':∀e∈bi g.ar l.kpr l.pair,Has ks0 st.ks P e.1:=fun x hx=>by
     rcases j6 hx with ⟨z1,z2⟩ |z
     · rw[z1];exact H
     · exact hd x z
    have nd:((bi g.ar l.kpr l.pair).map (·.1)).Nodup:=lX (W.hk j g e).2.2.2.1
    by_cases big:g.cnt < (bi g.ar l.kpr l.pair).length*2
    · rw[zX aw (hn.trans rn.symm) big pn]
      dsimp only
      rw[List.map_nil,qY_]
      refine .c P {g with ar:=bi g.ar l.kpr l.pair,atw:=false} (by rw[hj];exact self e) rfl ch ks (by rw[ne,hj];rfl) (fun x hx hf=>?_) ⟨(bi g.ar l.kpr l.pair).map (·.1),nd,by rw[qM_,<-hc];omega,fun k hk=>?_⟩
      · rcases (rw' x (dS hr hx)).1 hf with z |z
        · exact .inl z.1
        · exact .inr z.1
      · obtain⟨x,hx,rfl⟩:=qH_.mp hk
        exact hd' x hx
    · rw[va aw (hn.trans rn.symm) big]
      dsimp only
      rw[qY_,List.map_nil,qY_]
      refine .b P {g with ar:=bi g.ar l.kpr l.pair} (by rw[hj];exact self e) aw pn rn ch ks ne (fun x hx=>rw' x (dS hr hx)) hd' (fun q q0 h0 hu=>?_) (by rw[<-hc];exact big)
      rcases cov q q0 h0 hu with z |⟨x,hx,hq,hn'⟩
      · exact .inl (kS.mpr (.inr z))
      · rw[hr]at hx
        rcases qS_.mp hx with rfl |hx
        · exact .inl (kS.mpr (.inl hq.symm))
        · exact .inr ⟨x,hx,hq,hn'⟩
  · rw[uY (.inr (by rw[rn];exact hn))]
    dsimp only
    rw[qY_,List.map_nil,qY_,hj,set_same e]
    refine .b P g e aw pn rn ch ks ne (fun x hx=>rw' x (dS hr hx)) hd (fun q q0 h0 hu=>?_) sm
    rcases cov q q0 h0 hu with z |⟨x,hx,hq,hn'⟩
    · exact .inl z
    · rw[hr]at hx
      rcases qS_.mp hx with rfl |hx
      · exact absurd hn' hn
      · exact .inr ⟨x,hx,hq,hn'⟩
 |c P g e aw ch ks ne rw' mj=>
  rw[mS hr (by rw[hj];exact e),uY (.inl aw)]
  dsimp only
  rw[qY_,List.map_nil,qY_,hj,set_same e]
  exact .c P g e aw ch ks ne (fun x hx=>rw' x (dS hr hx)) mj
theorem yw(hP:∃ms:List Nat,ms.Nodup/\ks0.length < 2*ms.length/\∀k∈ms,∃k0,ks0[k]? =some k0/\k0.pair=P0)(lo:∀(k:Nat) k0,ks0[k]? =some k0->Low P0 k0.pair)(ls:Low P0 start)
 (hU:∃us:List Nat,us.Nodup/\ks0.length < 2*us.length/\∀k∈us,∃k0,ks0[k]? =some k0/\k0.up=true)
 {st:Hl} (W:WF st) (B:Base hs0 j st) (F:pC ks0 j r vo P0 st []):
 Base hs0 j (dD bf st).1/\(dD bf st).1.row=[]/\∃P h,(dD bf st).1.hs[j]? =some h/\h.atw=false/\pq vo P0 P/\iC ks0 (dD bf st).1.ks P/\(dD bf st).2=[(j,P)]/\∃ms:List Nat,ms.Nodup/\ks0.length < 2*ms.length/\∀k∈ms,Has ks0 (dD bf st).1.ks P k:=by
 obtain⟨W',⟨B',F'⟩,h⟩:=B3 eS (fun st es=>Base hs0 j st/\pC ks0 j r vo P0 st es) (fun st es p W hs ⟨B,F⟩=>by
  unfold bf at hs
  split at hs
  · cases hs
  · rename_i hne
    cases hs
    cases q:st.row with
    |nil=>exact absurd q hne
    |cons e rest=>
     obtain⟨b,l⟩:=e
     have hm:(b,l)∈st.row:=by rw[q];exact qI_
     obtain⟨g,hg,hk,_⟩:=W.rw _ hm
     cases b with
     |false=>
      have hk':st.ks[l.kpr]? =some (st.ks[l.kpr]'hk):=qA_ hk
      exact⟨Ar B q hk',yt hP W B F q hk'⟩
     |true=>exact⟨yY W B q hg,yB hP lo ls W B F q⟩) (mea st) st [] (qO_ _) W ⟨B,F⟩
 rw[qc_]at F'
 have hrow:=wQ h
 refine⟨B',hrow,?_⟩
 obtain⟨us,u1,u2,u3⟩:=hU
 have fin:∀{hd:List (Nat×Option Pr)},(∀(k:Nat) k0,ks0[k]? =some k0->k0.up=true->k∈hd.map (·.1))->¬ks0.length < hd.length*2->False:=fun {hd} cov sm=>by
  have:=nP (b:=hd.map (·.1)) u1 fun k hk=>by
   obtain⟨k0,e,u⟩:=u3 k hk
   exact cov k k0 e u
  rw[qM_]at this
  omega
 cases F' with
 |a g e aw pn rn vl ks ne rw' hd cov sm=>
  refine(fin (fun k k0 a b=>?_) sm).elim
  rcases cov k k0 a b with z |⟨x,hx,_⟩
  · exact z
  · rw[hrow]at hx;cases hx
 |b P g e aw pn rn ch ks ne rw' hd cov sm=>
  refine(fin (fun k k0 a b=>?_) sm).elim
  rcases cov k k0 a b with z |⟨x,hx,_⟩
  · exact z
  · rw[hrow]at hx;cases hx
 |c P g e aw ch ks ne rw' mj=>exact⟨P,g,e,aw,ch,ks,ne,mj⟩
end
structure Calm (y:Sy) (P:Pr) (w:Nat):Prop where
 I:Iv y
 idle:∀(i:Nat) h,y.aq.hs[i]? =some h->h.atw=false
 row:y.aq.row=[]
 low:∀(k:Nat) k0,y.aq.ks[k]? =some k0->Low P k0.pair
 maj:∃ms:List Nat,ms.Nodup/\y.aq.ks.length < 2*ms.length/\∀k∈ms,∃k0,y.aq.ks[k]? =some k0/\k0.pair=P
 st:Low P start
 wl:y.aY.length=w
def uL(y:Sy)(k:Nat):Bool:=(y.aq.ks[k]?).any (·.up)
theorem nZ{y:Sy}{d:dt}{z:Sy}{a:An}(h:doneF y d= .ok z a):(bC y d).1.aq=z.aq/\(bC y d).1.aY.length=z.aY.length/\(bC y d).1.last=z.last/\(bC y d).2=a:=by
 unfold bC nU
 rw[h]
 obtain⟨q1,q2,q3,q4⟩:=iQ z.last z
 exact⟨q2,q4,q1,rfl⟩
theorem FW{c m:Nat}(hc:0 < c)(hc9:c<=9)(hm9:m<=9):Calm (cY c m) start 0:=by
 refine⟨rQ hc9 hm9,fun i h hi=>?_,rfl,fun k k0 hk=>?_,⟨List.range c,List.nodup_range,?_,fun k hk=>?_⟩,.inl rfl,rfl⟩
 · have hi:((List.range m).map fun i=>kh i c)[i]? =some h:=hi
   obtain⟨x,_,rfl⟩:=qH_.mp (qD_ hi)
   rfl
 · have hk:(List.replicate c KS.k0)[k]? =some k0:=hk
   have e:=List.eq_of_mem_replicate (qD_ hk)
   rw[e]
   exact .inl rfl
 · show (List.replicate c KS.k0).length < _
   simp
   omega
 · refine⟨KS.k0,?_,rfl⟩
   show (List.replicate c KS.k0)[k]? =_
   rw[List.getElem?_replicate,if_pos (List.mem_range.mp hk)]
theorem uW{y:Sy}{P:Pr}{w:Nat}(C:Calm y P w){k:Nat}(hk:k < y.aq.ks.length)(b:Bool):Calm (bC y (if b then .wa (k:Int)else .st (k:Int))).1 P w/\(∀i,uL (bC y (if b then .wa (k:Int)else .st (k:Int))).1 i=if i=k then b else uL y i)/\(bC y (if b then .wa (k:Int)else .st (k:Int))).1.aq.ks.length=y.aq.ks.length/\(bC y (if b then .wa (k:Int)else .st (k:Int))).1.aq.hs.length=y.aq.hs.length:=by
 have hk':y.aq.ks[k]? =some y.aq.ks[k]:=qA_ hk
 generalize y.aq.ks[k]=q at hk'
 have hd:∃a,doneF y (if b then .wa (k:Int)else .st (k:Int))= .ok (cF y {y.aq with ks:=y.aq.ks.set k {q with up:=b}}) a:=by
  cases b with
  |true=>
   refine⟨.one (.bl (!q.up)),?_⟩
   show nX y (k:Int) _=_
   unfold nX
   rw[iu rfl hk]
   dsimp only
   rw[hk']
  |false=>
   refine⟨.one (.bl q.up),?_⟩
   show nX y (k:Int) _=_
   unfold nX
   rw[iu rfl hk]
   dsimp only
   rw[hk']
 obtain⟨a,hd⟩:=hd
 obtain⟨e1,e2,e3,e4⟩:=nZ hd
 have I':=o7 C.I (if b then .wa (k:Int)else .st (k:Int))
 generalize bC y (if b then .wa (k:Int)else .st (k:Int))=r at*
 have ek:r.1.aq.ks=y.aq.ks.set k {q with up:=b}:=by rw[e1];rfl
 have eh:r.1.aq.hs=y.aq.hs:=by rw[e1];rfl
 have get:∀i,(y.aq.ks.set k {q with up:=b})[i]? =if i=k then some {q with up:=b} else y.aq.ks[i]?:=fun i=>by
  rw[qJ_]
  by_cases z:k=i
  · rw[if_pos z,if_pos z.symm,if_pos hk]
  · rw[if_neg z,if_neg (fun q=>z q.symm)]
 refine⟨⟨I',by rw[eh];exact C.idle,by rw[e1];exact C.row,fun i k0 hi=>?_,?_,C.st,by rw[e2];exact C.wl⟩,fun i=>?_,by rw[ek,qX_],by rw[eh]⟩
 · rw[ek,get]at hi
   split at hi
   · cases hi
     exact C.low k q hk'
   · exact C.low i k0 hi
 · obtain⟨ms,m1,m2,m3⟩:=C.maj
   refine⟨ms,m1,by rw[ek,qX_];exact m2,fun i hi=>?_⟩
   obtain⟨k0,a1,a2⟩:=m3 i hi
   rw[ek,get]
   by_cases z:i=k
   · rw[if_pos z]
     subst z
     rw[hk']at a1
     cases a1
     exact⟨_,rfl,a2⟩
   · rw[if_neg z]
     exact⟨k0,a1,a2⟩
 · unfold uL
   rw[ek,get]
   by_cases z:i=k
   · rw[if_pos z,if_pos z];rfl
   · rw[if_neg z,if_neg z]
theorem yR{y:Sy}{P:Pr}{w:Nat}(C:Calm y P w){j:Nat}(hj:j < y.aq.hs.length)(hU:∃us:List Nat,us.Nodup/\y.aq.ks.length < 2*us.length/\∀k∈us,k < y.aq.ks.length/\uL y k=true)(rd:Bool)(v:Option Int)(d:dt)
 (hd:doneF y d=dU y (j:Int) rd v):
 (bC y d).2= .one (.int (w:Int))/\∃P',pq v P P'/\(bC (bC y d).1 .sw).2= .lst [.tup [.int (w:Int),.int P'.2]]/\Calm (bC (bC y d).1 .sw).1 P' (w+1)/\
   (bC (bC y d).1 .sw).1.aq.ks.length=y.aq.ks.length/\(bC (bC y d).1 .sw).1.aq.hs.length=y.aq.hs.length:=by
 have hj':y.aq.hs[j]? =some y.aq.hs[j]:=qA_ hj
 generalize y.aq.hs[j]=h at hj'
 have ha:=C.idle j h hj'
 have hb:doneF y d= .ok (pT (cF y (gk y.aq j h v)) j rd v) (.one (.int (y.aY.length:Int))):=by
  rw[hd]
  unfold dU
  rw[iu rfl hj]
  dsimp only
  rw[hj']
  dsimp only
  rw[ha,if_neg qC_]
 obtain⟨e1,e2,e3,e4⟩:=nZ hb
 have I1:=o7 C.I d
 refine⟨by rw[e4,C.wl],?_⟩
 have e1:(bC y d).1.aq=gk y.aq j h v:=e1
 have e2:(bC y d).1.aY.length=w+1:=by
  rw[e2]
  show (y.aY++[_]).length=_
  rw[qN_,C.wl]
  rfl
 have e3:(bC y d).1.last=putL y.last j y.aY.length:=e3
 generalize (bC y d).1=z at e1 e2 e3 I1
 have hds:doneF z .sw= .ok (endsF z (dD bf z.aq)) (.lst (oq z (dD bf z.aq))):=rfl
 obtain⟨f1,f2,f3,f4⟩:=nZ hds
 obtain⟨t1,t2,t3,t4⟩:=iK (dD bf z.aq).2 (cF z (dD bf z.aq).1)
 have f1:(bC z .sw).1.aq=(dD bf z.aq).1:=f1.trans t2
 have f2:(bC z .sw).1.aY.length=w+1:=f2.trans (t4.trans e2)
 have I2:=o7 I1 .sw
 have nm:h.num=j:=(C.I.W.W.hk j h hj').1
 have cn:h.cnt=y.aq.ks.length:=(C.I.W.W.hk j h hj').2.1
 have zk:z.aq.ks=y.aq.ks:=by rw[e1];rfl
 have zh:z.aq.hs=y.aq.hs.set j (bD h v):=by rw[e1];rfl
 have zr:z.aq.row=(bz (bD h v)).map fun x=>(false,x):=by
  rw[e1]
  show y.aq.row++_=_
  rw[C.row]
  rfl
 have wt:nA (bD h v)=List.range y.aq.ks.length:=by
  rw[rW rfl]
  show List.range h.cnt=_
  rw[cn]
 have let_ok:∀e∈z.aq.row,e.1=false/\e.2.hand=j/\e.2.num=h.rnd+1/\e.2.pair=none:=fun e he=>by
  rw[zr]at he
  obtain⟨x,hx,rfl⟩:=qH_.mp he
  obtain⟨q,_,rfl⟩:=qH_.mp hx
  exact⟨rfl,nm,rfl,rfl⟩
 have zj:z.aq.hs[j]? =some (bD h v):=by rw[zh,qJ_,if_pos rfl,if_pos hj]
 have B:Base z.aq.hs j z.aq:=⟨fun _ _=>rfl,rfl,fun e he=>(let_ok e he).2.1⟩
 have F:pC y.aq.ks j (h.rnd+1) v P z.aq []:=by
  refine .a (bD h v) zj rfl rfl rfl rfl zk rfl (fun e he=>?_) (fun e he=>by cases he) (fun k k0 hk _=>.inr ?_) (by show ¬_ < 0*2;omega)
  · obtain⟨a,b,c,d⟩:=let_ok e he
    exact⟨c,fun _=>d,fun q=>by rw[a]at q;cases q⟩
  · refine⟨(false,⟨(bD h v).num,k,(bD h v).rnd,(bD h v).pair⟩),?_,rfl⟩
    rw[zr]
    refine qH_.mpr ⟨_,qH_.mpr ⟨k,?_,rfl⟩,rfl⟩
    rw[wt]
    exact List.mem_range.mpr (qB_.mp hk).1
 have hU':∃us:List Nat,us.Nodup/\y.aq.ks.length < 2*us.length/\∀k∈us,∃k0,y.aq.ks[k]? =some k0/\k0.up=true:=by
  obtain⟨us,u1,u2,u3⟩:=hU
  refine⟨us,u1,u2,fun k hk=>?_⟩
  obtain⟨a,b⟩:=u3 k hk
  refine⟨_,qA_ a,?_⟩
  unfold uL at b
  rw[qA_ a]at b
  exact b
 obtain⟨B',r',P',g,g1,g2,ch,ei,ee,mj⟩:=yw C.maj C.low C.st hU' I1.W.W B F
 have klen:(bC z .sw).1.aq.ks.length=y.aq.ks.length:=by rw[f1];exact ei.1
 refine⟨P',ch,?_,⟨I2,fun i x hi=>?_,by rw[f1];exact r',fun k k1 hk=>?_,?_,?_,f2⟩,klen,?_⟩
 · rw[f4]
   show An.lst ((dD bf z.aq).2.map (seD z))=_
   rw[ee]
   show An.lst [D.tup [.int (lastOf z.last j:Int),.int P'.2]]=_
   rw[e3,wD,if_pos rfl,C.wl]
 · rw[f1]at hi
   by_cases q:i=j
   · subst q
     rw[g1]at hi
     cases hi
     exact g2
   · rw[B'.oth i q,zh,qJ_,if_neg (fun z=>q z.symm)]at hi
     exact C.idle i x hi
 · rw[f1]at hk
   obtain⟨k0,h0,e⟩:=ei.get hk
   have l0:=C.low k k0 h0
   cases v with
   |none=>
    have ch:P'=P:=ch
    subst ch
    rcases e with rfl |rfl
    · exact l0
    · unfold ef
      split
      · exact .inl rfl
      · exact l0
   |some v=>
    have up:gtS P'.1 k0.pair.1=true:=by
     rcases l0 with l0 |l0
     · rw[l0];exact ch.2
     · exact kU ch.2 l0
    rcases e with rfl |rfl
    · exact .inr up
    · unfold ef
      rw[if_pos up]
      exact .inl rfl
 · obtain⟨ms,m1,m2,m3⟩:=mj
   refine⟨ms,m1,by rw[klen];exact m2,fun k hk=>?_⟩
   obtain⟨k0,h0,h1⟩:=m3 k hk
   rw[f1]
   refine⟨_,h1,?_⟩
   have l0:=C.low k k0 h0
   cases v with
   |none=>
    have ch:P'=P:=ch
    subst ch
    unfold ef
    split
    · rfl
    · rename_i nz
      rcases l0 with l0 |l0
      · exact l0
      · exact absurd l0 nz
   |some v=>
    have up:gtS P'.1 k0.pair.1=true:=by
     rcases l0 with l0 |l0
     · rw[l0];exact ch.2
     · exact kU ch.2 l0
    unfold ef
    rw[if_pos up]
 · cases v with
   |none=>
    have ch:P'=P:=ch
    rw[ch]
    exact C.st
   |some v=>
    rcases C.st with s |s
    · refine .inr ?_
      rw[s]
      exact ch.2
    · exact .inr (kU ch.2 s)
 · rw[f1,B'.len,zh,qX_]
def swD(gone:List Int)(k:Nat):dt:=if !decide ((k:Int)∈gone)then .wa (k:Int)else .st (k:Int)
theorem lN{y:Sy}{P:Pr}{w:Nat}(C:Calm y P w)(gone:List Int):∀n,n<=y.aq.ks.length->
 Calm (gG y ((List.range n).map (swD gone))) P w/\(∀i,uL (gG y ((List.range n).map (swD gone))) i=if i < n then !decide ((i:Int)∈gone)else uL y i)/\(gG y ((List.range n).map (swD gone))).aq.ks.length=y.aq.ks.length/\(gG y ((List.range n).map (swD gone))).aq.hs.length=y.aq.hs.length
 |0,_=>⟨C,fun i=>by rw[if_neg (by omega)];rfl,rfl,rfl⟩
 |n+1,hn=>by
  obtain⟨C1,u1,k1,h1⟩:=lN C gone n (by omega)
  rw[List.range_succ,qT_,jh]
  generalize gG y ((List.range n).map (swD gone))=z at C1 u1 k1 h1
  obtain⟨C2,u2,k2,h2⟩:=uW C1 (k:=n) (by omega) (!decide ((n:Int)∈gone))
  refine⟨C2,fun i=>?_,k2.trans k1,h2.trans h1⟩
  refine(u2 i).trans ?_
  by_cases z1:i=n
  · rw[if_pos z1,if_pos (by omega),z1]
  · rw[if_neg z1,u1]
    by_cases z2:i < n
    · rw[if_pos z2,if_pos (by omega)]
    · rw[if_neg z2,if_neg (by omega)]
theorem nG{α:Type}(p:α->Bool):∀xs:List α,(xs.filter p).length+(xs.filter fun x=>!p x).length=xs.length
 | []=>rfl
 |x :: r=>by
  have:=nG p r
  cases h:p x <;> simp [List.filter_cons,h] <;> omega
theorem Bp{c:Nat}{gone:List Int}(hg:2*gone.length < c)(hc:0 < c):∃us:List Nat,us.Nodup/\c < 2*us.length/\∀k∈us,k < c/\(!decide ((k:Int)∈gone))=true:=by
 refine⟨(List.range c).filter fun k=>!decide ((k:Int)∈gone),List.nodup_range.filter _,?_,fun k hk=>?_⟩
 · have h1:=nG (fun k:Nat=>decide ((k:Int)∈gone)) (List.range c)
   rw[List.length_range]at h1
   have h2:((List.range c).filter fun k:Nat=>decide ((k:Int)∈gone)).length<=gone.length:=by
    have:=nP (a:=(List.range c).filter fun k:Nat=>decide ((k:Int)∈gone)) (b:=gone.map Int.toNat) (List.nodup_range.filter _) fun x hx=>by
     have:=of_decide_eq_true (List.mem_filter.mp hx).2
     exact qH_.mpr ⟨_,this,by simp⟩
    rwa [qM_]at this
   omega
 · obtain⟨a,b⟩:=List.mem_filter.mp hk
   exact⟨List.mem_range.mp a,b⟩
def Due(d:dt)(u:D)(a:An):Prop:=match d with
 | .sw=>∃p v:Int,u= .tup [.int p,.int v]/\a= .lst [.tup [.int p,.int v]]
 | .wr _ _=>∃p:Int,u= .int p/\a= .one (.int p)
 | .rd _=>∃p:Int,u= .int p/\a= .one (.int p)
 | .st _=>u= .non
 | .wa _=>u= .non
 |_=>False
def lD(ds:List dt)(us:List D)(as:List An):Prop:=us.length=ds.length/\as.length=ds.length/\∀(i:Nat) d u a,ds[i]? =some d->us[i]? =some u->as[i]? =some a->Due d u a
theorem lD.nil:lD [] [] []:=⟨rfl,rfl,fun i d u a h=>by simp at h⟩
theorem lD.app{ds ds':List dt}{us us':List D}{as as':List An}(h:lD ds us as)(h':lD ds' us' as'):lD (ds++ds') (us++us') (as++as'):=by
 refine⟨by simp [h.1,h'.1],by simp [h.2.1,h'.2.1],fun i d u a hd hu ha=>?_⟩
 by_cases z:i < ds.length
 · rw[qK_ z]at hd
   rw[qK_ (by rw[h.1];exact z)]at hu
   rw[qK_ (by rw[h.2.1];exact z)]at ha
   exact h.2.2 i d u a hd hu ha
 · rw[qL_ (by omega)]at hd
   rw[qL_ (by rw[h.1];omega)]at hu
   rw[qL_ (by rw[h.2.1];omega)]at ha
   rw[h.1]at hu
   rw[h.2.1]at ha
   exact h'.2.2 _ d u a hd hu ha
theorem lD.two{d1 d2:dt}{u1 u2:D}{a1 a2:An}(h1:Due d1 u1 a1)(h2:Due d2 u2 a2):lD [d1,d2] [u1,u2] [a1,a2]:=by
 refine⟨rfl,rfl,fun i d u a hd hu ha=>?_⟩
 match i with
 |0=>simp at hd hu ha;subst hd;subst hu;subst ha;exact h1
 |1=>simp at hd hu ha;subst hd;subst hu;subst ha;exact h2
 |n+2=>simp at hd
theorem lD.none{gone:List Int}{n:Nat}{as:List An}(h:as.length=n):lD ((List.range n).map (swD gone)) (List.replicate n .non) as:=by
 refine⟨by simp,by simp [h],fun i d u a hd hu _=>?_⟩
 obtain⟨k,_,rfl⟩:=qH_.mp (qD_ hd)
 have:=List.eq_of_mem_replicate (qD_ hu)
 subst this
 unfold swD
 split <;> rfl
structure Far (c m:Nat) (ds:List dt) (us:List D) (v:Int) (w:Nat):Prop where
 calm:∃P:Pr,Calm (gG (cY c m) ds) P w/\P.2=v
 kl:(gG (cY c m) ds).aq.ks.length=c
 hl:(gG (cY c m) ds).aq.hs.length=m
 due:lD ds us (gR (cY c m) ds)
theorem Hu{c m:Nat}(hc:0 < c)(hc9:c<=9)(hm9:m<=9):Far c m [] [] 0 0:=by
 refine⟨⟨start,FW hc hc9 hm9,rfl⟩,?_,?_,lD.nil⟩
 · show (List.replicate c KS.k0).length=c
   simp
 · show ((List.range m).map fun i=>kh i c).length=m
   simp
theorem zy{c m:Nat}{ds:List dt}{us:List D}{v:Int}{w:Nat}(hc:0 < c)(F:Far c m ds us v w){gone:List Int}(hg:2*gone.length < c){j:Nat}(hj:j < m)(vo:Option Int):
 Far c m (ds++(List.range c).map (swD gone)++[(match vo with |some x=>.wr (j:Int) x |none=>.rd (j:Int)),.sw]) (us++List.replicate c .non++[.int (w:Int),.tup [.int (w:Int),.int (vo.getD v)]]) (vo.getD v) (w+1):=by
 obtain⟨⟨P,C,pv⟩,kl,hl,due⟩:=F
 obtain⟨C1,u1,k1,h1⟩:=lN C gone c (by omega)
 have due1:lD (ds++(List.range c).map (swD gone)) (us++List.replicate c .non) (gR (cY c m) (ds++(List.range c).map (swD gone))):=by
  rw[nY]
  exact due.app (lD.none (by rw[kO];simp))
 rw[<-jh]at C1 u1 k1 h1
 generalize ds++(List.range c).map (swD gone)=es at*
 generalize us++List.replicate c .non=vs at*
 have hU:∃us:List Nat,us.Nodup/\(gG (cY c m) es).aq.ks.length < 2*us.length/\∀k∈us,k < (gG (cY c m) es).aq.ks.length/\uL (gG (cY c m) es) k=true:=by
  obtain⟨us,a1,a2,a3⟩:=Bp hg hc
  refine⟨us,a1,by rw[k1,kl];exact a2,fun k hk=>?_⟩
  obtain⟨b1,b2⟩:=a3 k hk
  exact⟨by rw[k1,kl];exact b1,by rw[u1,if_pos b1];exact b2⟩
 have main:∀(d:dt) (rd:Bool),(∀y,doneF y d=dU y (j:Int) rd vo)->(∀p:Int,Due d (.int p) (.one (.int p)))->Far c m (es++[d,.sw]) (vs++[.int (w:Int),.tup [.int (w:Int),.int (vo.getD v)]]) (vo.getD v) (w+1):=by
  intro d rd hd hdue
  obtain⟨e1,P',ch,e2,C2,k2,h2⟩:=yR C1 (by rw[h1,hl];exact hj) hU rd vo d (hd _)
  have pv':P'.2=vo.getD v:=by
   cases vo with
   |none=>
    have ch:P'=P:=ch
    rw[ch]
    exact pv
   |some x=>exact ch.1
  refine⟨⟨P',by rw[jh];exact C2,pv'⟩,by rw[jh];exact k2.trans (k1.trans kl),by rw[jh];exact h2.trans (h1.trans hl),?_⟩
  rw[nY]
  refine due1.app ?_
  show lD [d,.sw] _ [(bC (gG (cY c m) es) d).2,(bC (bC (gG (cY c m) es) d).1 .sw).2]
  rw[e1,e2,pv']
  exact lD.two (hdue _) ⟨_,_,rfl,rfl⟩
 cases vo with
 |none=>exact main (.rd (j:Int)) true (fun _=>rfl) fun p=>⟨p,rfl,rfl⟩
 |some x=>exact main (.wr (j:Int) x) false (fun _=>rfl) fun p=>⟨p,rfl,rfl⟩
section
variable{G G':Hh}{Q:D->Hh->Prop}{E:Nat->Hh->Prop}{σ:St}{y:Sy}{QS:Fl×St->Hh->Prop}
theorem AL{n k:Nat}{xs:List D}(hn:G[n]? =some (.lst xs))(hk:k<=1000000)(hz:xs.length*k<=aH)(h:∀G',Chg [] G G'->G'.length=G.length+1->G'[G.length]? =some (.lst (List.replicate k xs).flatten)->Q (.ref G.length) G'):M3.run (iE (.ref n) (.int (k:Int))) G Q E:=by
 refine aJ (a:= .ref G.length) (G':=G++[.lst (List.replicate k xs).flatten]) ?_ (h _ (Chg.add _ _) (by simp) (cE _ _))
 unfold iE
 dsimp only
 rw[hn]
 dsimp only
 rw[Int.toNat_natCast,if_pos ⟨by omega,by omega,hz⟩]
 rfl
theorem By{n:Nat}{body:D->St->M (Fl×St)}(P:Nat->St->Hh->Prop)
 (hs:∀(i:Nat) σ G,i < n->P i σ G->M3.run (body (.int (1+(i:Int))) σ) G (fun p G1=>match p.1 with
   | .next=>P (i+1) p.2 G1
   | .cont=>P (i+1) p.2 G1
   | .brk=>QS (.next,p.2) G1
   | .ret d=>QS (.ret d,p.2) G1) E)
 (hd:∀σ G,P n σ G->QS (.next,σ) G) (h0:P 0 σ G):M3.run (forL (fun _=>true) body (rng 1 n) σ) G QS E:=by
 refine nQ (xs:=rng 1 n) P (fun _ _ _ _=>rfl) (fun i x σ G hx p=>?_) (fun σ G p=>hd σ G (by rw[mU]at p;exact p)) _ 0 σ G List.drop_zero (qf_ _) h0
 obtain⟨rfl,hi⟩:=kJ hx
 exact hs i σ G hi p
theorem vZ{c:Nat}{ci cell:Int}(hci:ci=(c:Int))(hc:0 < c)(hc9:c<=9)
 (h:∀(gone:List Int) l G',2*gone.length < c->Chg [] G G'->G.length<=l->G'[l]? =some (.lst (((List.range c).map (swD gone)).map dk))->Q (.ref l) G'):M3.run (ig [.int cell,.int ci]) G Q E:=by
 walk_at "f"
 unfold pL
 refine aR (cK (bo ?_))
 walk_at "r"
 refine nO (by omega) ?_
 generalize cell*48271 % 1009 % ci=first
 refine w_next ?_
 walk_at "s"
 refine aR (cK (bo ?_))
 walk_at "r"
 refine E8 (by omega) ?_
 have hd1:0 < (ci+1) / 2:=by omega
 refine nO hd1 ?_
 have s1:0<=cell*48271 % 1013 % ((ci+1) / 2):=Int.emod_nonneg _ (by omega)
 have s2:cell*48271 % 1013 % ((ci+1) / 2) < (ci+1) / 2:=Int.emod_lt_of_pos _ hd1
 generalize cell*48271 % 1013 % ((ci+1) / 2)=sm at*
 obtain⟨s,hs⟩:=Int.eq_ofNat_of_zero_le s1
 have hs2:2*s < c:=by omega
 refine w_next ?_
 walk_at "s"
 refine aR (cK (o9 (kM (w_var rfl ?_))))
 with_reducible refine t8 hs (by omega) ?_
 rw[FO]
 with_reducible refine mQ (f:=Fo) (p:=fun _=>true) (g:=fun k:Nat=>D.int ((first+(k:Int)) % ci)) rfl (by simp;omega) (fun x _=>?_) (fun x _ _=>?_) ?_
 · exact lP ⟨rfl,rfl⟩
 · unfold Fo
   refine bo (bo (w_var rfl (w_var rfl ?_)))
   with_reducible refine vR ?_
   refine w_var rfl ?_
   with_reducible exact nO (by omega) ⟨rfl,rfl⟩
 rw[List.filter_eq_self.mpr (by simp)]
 intro G1 c1 l1 h1
 have eg:(List.range s).map (fun k:Nat=>D.int ((first+(k:Int)) % ci))=((List.range s).map fun k:Nat=>(first+(k:Int)) % ci).map D.int:=by rw[qb_];rfl
 rw[eg]at h1
 have hg:2*((List.range s).map fun k:Nat=>(first+(k:Int)) % ci).length < c:=by simpa using hs2
 generalize (List.range s).map (fun k:Nat=>(first+(k:Int)) % ci)=gone at h1 hg
 refine w_next ?_
 walk_at "s"
 refine aR (cK (gY fun G2 c2 l2 h2=>w_next ?_))
 walk_at "s"
 have h12:=c2.get h1 (by simp)
 refine aR (zS (kM (w_var rfl ?_)))
 with_reducible refine t8 hci (by omega) ?_
 generalize hl1:G1.length=la at*
 refine su (fun i σ G'=>∃v,σ=[some (.int cell),some (.int ci),some (.int first),some (.int sm),some (.ref G.length),some (.ref la),v]/\Chg [] G G'/\G'[G.length]? =some (.lst (gone.map D.int))/\G'[la]? =some (.lst (((List.range i).map (swD gone)).map dk))) ?_ ?_ ⟨none,rfl,c1.trans c2,h12,h2⟩
 · rintro i σ G3 hi ⟨v,rfl,c3,h3,h4⟩
   refine aK ?_
   with_reducible refine rH ?_
   walk_at "s"
   refine eI (ux (w_var rfl (jk h4 ?_)))
   refine bo ?_
   refine pM ?_
   walk_at "r"
   intro G4 c4 l4 h5
   refine eT (ax (bo (w_var rfl (w_var rfl ?_))))
   refine HL (b:=decide ((i:Int)∈gone)) ?_ ?_
   · unfold inG
     dsimp only
     rw[c4.get h3 (by simp)]
     exact vg
   refine aM (Av ?_)
   have hcc:Chg [] G G4:=c3.trans c4
   have hgl:=c1.1
   have fin:∀d:D,d=dk (swD gone i)->M3.run (iH (.ref la) d) G4 (fun x G5=>∃v,[some (D.int cell),some (D.int ci),some (D.int first),some (D.int sm),some (D.ref G.length),some (D.ref la),some (D.int (i:Int))]=[some (.int cell),some (.int ci),some (.int first),some (.int sm),some (.ref G.length),some (.ref la),v]/\Chg [] G G5/\G5[G.length]? =some (.lst (gone.map D.int))/\G5[la]? =some (.lst (((List.range (i+1)).map (swD gone)).map dk))) E:=by
    rintro d rfl
    refine hV (c4.get h4 (by simp)) (by simp [aH];omega) fun G5 c5 l5 h6=>?_
    refine⟨_,rfl,hcc.trans' c5 (by intro n hn;simp at hn;exact .inr (by omega)),c5.get (c4.get h3 (by simp)) (by simp;omega),?_⟩
    rw[List.range_succ,qT_,qT_]
    exact h6
   cases q:decide ((i:Int)∈gone)with
   |true=>
    refine gP h5 rfl ?_
    exact fin _ (by unfold swD;rw[q];rfl)
   |false=>
    refine gP h5 rfl ?_
    exact fin _ (by unfold swD;rw[q];rfl)
 · rintro σ G3 ⟨v,rfl,c3,h3,h4⟩
   walk_at "r"
   exact h gone la G3 hg c3 (by have:=c1.1;omega) h4
theorem xM:∀(c:Nat) (d:D),(List.replicate c [d]).flatten=List.replicate c d
 |0,d=>rfl
 |c+1,d=>by rw[List.replicate_succ,List.flatten_cons,xM c,List.replicate_succ];rfl
def vO:dt->Bool
 | .sw=>true
 |_=>false
theorem A4(d:dt):eqG G 8 (dk d) (.tup [.str "sweep"])=some (vO d):=by
 cases d <;> (unfold dk vO eqG;with_unfolding_all rfl)
theorem Ef{c m ld lu i:Nat}{ci mi v x:Int}{ds:List dt}{us:List D}{ns:List Int}{q6 q7 q8 q9:Option D}(hci:ci=(c:Int))(hmi:mi=(m:Int))(hc:0 < c)(hc9:c<=9)(hm:0 < m)
 (hl:G[0]? =some (.frz (ns.map D.int))) (hx:ns[i+1]? =some x) (hi:i < 12) (hd:G[ld]? =some (.lst (ds.map dk))) (hu:G[lu]? =some (.lst us)) (hne:ld≠lu) (F:Far c m ds us v i) (hz:ds.length<=i*11)
 (h:∀ds' us' v' q6 q7 q8 q9 G',Chg [ld,lu] G G'->G'[ld]? =some (.lst (ds'.map dk))->G'[lu]? =some (.lst us')->Far c m ds' us' v' (i+1)->ds'.length<=(i+1)*11->QS (.next,[some (.ref 0),some (.int ci),some (.int mi),some (.ref ld),some (.ref lu),some (.int v'),q6,q7,q8,q9,none,none]) G'):
 M3.run ((aC (cR 7 (eOp jO (eOp oIx (ae 0) (ae 6)) (eOp iE (eC (.int 7)) (ae 6))))
 (aC (cR 8 (aL ig (ah (ae 7) (ah (ae 1) au))))
 (aC (bM (nR (ae 3) (ae 8)))
 (aC (bM (nR (ae 4) (eOp iE (gc (ah (eC .non) au)) (aL gI (ah (ae 8) au)))))
 (aC (cR 9 (eOp oMod (eOp oMod (eOp iE (ae 7) (eC (.int 48271))) (eC (.int 1019))) (ae 2)))
 (aC (sIf (tB (eOp oEq (eOp oMod (eOp oMod (eOp iE (ae 7) (eC (.int 48271))) (eC (.int 1021))) (eC (.int 2))) (eC (.int 1)))) (aC (cR 5 (eOp oIx (gc (ah (ae 6) (ah (eOp qY (eC (.int 0)) (ae 6)) (ah (eC (.int 0)) (ah (eOp jO (eC (.int 100000000000000000000)) (ae 6)) au))))) (eOp oMod (eOp oMod (eOp iE (ae 7) (eC (.int 48271))) (eC (.int 1031))) (eC (.int 4)))))
 (bM (oK (ae 3) (fy (ah (eC (.str "write")) (ah (ae 9) (ah (ae 5) au))))))) (bM (oK (ae 3) (fy (ah (eC (.str "read")) (ah (ae 9) au))))))
 (aC (bM (oK (ae 3) (fy (ah (eC (.str "sweep")) au))))
 (bM (nR (ae 4) (gc (ah (eOp qY (ae 6) (eC (.int 1))) (ah (fy (ah (eOp qY (ae 6) (eC (.int 1))) (ah (ae 5) au))) au))))))))))))
 [some (.ref 0),some (.int ci),some (.int mi),some (.ref ld),some (.ref lu),some (.int v),some (.int (1+(i:Int))),q7,q8,q9,none,none]) G QS E:=by
 have hix:atI (ns.map D.int) (1+(i:Int))=some (.int x):=by
  have:=jI (f:=D.int) hx
  rw[show ((i+1:Nat):Int)=1+(i:Int) by omega]at this
  exact this
 have hw:1+(i:Int) - 1=(i:Int):=by omega
 have hul:us.length=ds.length:=F.due.1
 generalize hk:1+(i:Int)=kI at*
 refine aR (cK (bo (bo (w_var rfl (w_var rfl (CJ hl hix ?_))))))
 walk_at "r"
 generalize x+7*kI=cell
 refine vZ hci hc hc9 fun gone ls G1 hg c1 g1 h1=>?_
 refine w_next ?_
 walk_at "s"
 have hld:=aG hd
 have hlu:=aG hu
 have sl:((List.range c).map (swD gone)).length=c:=by simp
 generalize hsw:(List.range c).map (swD gone)=sw at*
 have d1:=c1.get hd (by simp)
 have u1:=c1.get hu (by simp)
 refine aR (eI (rY (w_var rfl (jk d1 (w_var rfl ?_)))))
 refine gj d1 h1 (by rw[qM_,qM_,sl];unfold aH;omega) fun G2 c2 l2 d2=>w_next ?_
 have u2:=c2.get u1 (by simp;exact fun z=>hne z.symm)
 have h2:=c2.get h1 (by simp;omega)
 refine aR (eI (rY (w_var rfl (jk u2 ?_))))
 refine bo ?_
 refine pM ?_
 walk_at "r"
 intro G3 c3 l3 h3
 refine eT (ax (w_var rfl (aM (gN (c3.get h2 (by simp)) ?_))))
 rw[qM_,sl]
 with_reducible refine AL h3 (by omega) (by simp [aH];omega) ?_
 intro G4 c4 l4 h4
 rw[xM]at h4
 have c24:Chg [] G2 G4:=c3.trans c4
 refine gj (c24.get u2 (by simp)) h4 (by rw[hul,List.length_replicate];unfold aH;omega) fun G5 c5 l5 u5=>w_next ?_
 have d5:=c5.get (c24.get d2 (by simp)) (by simp;exact hne)
 have k5:Chg [ld,lu] G G5:=by
  have k2:Chg [ld,lu] G G2:=(c1.mono (by simp)).trans (c2.mono (by simp))
  exact(k2.trans (c24.mono (by simp))).trans (c5.mono (by simp))
 refine aR (cK (bo ?_))
 walk_at "r"
 refine nO (by omega) ?_
 have j1:0<=cell*48271 % 1019 % mi:=Int.emod_nonneg _ (by omega)
 have j2:cell*48271 % 1019 % mi < (m:Int):=by rw[<-hmi];exact Int.emod_lt_of_pos _ (by omega)
 generalize cell*48271 % 1019 % mi=hnd at*
 obtain⟨j,hj⟩:=Int.eq_ofNat_of_zero_le j1
 have hjm:j < m:=by omega
 refine w_next ?_
 walk_at "s"
 rw[<-qT_]at d5
 have tail:∀(vo:Option Int) (G6:Hh),Chg [ld,lu] G G6->G6[ld]? =some (.lst ((ds++sw++[(match vo with |some x=>dt.wr (j:Int) x |none=>dt.rd (j:Int))]).map dk))->G6[lu]? =some (.lst (us++List.replicate c .non))->
  M3.run ((aC (bM (oK (ae 3) (fy (ah (eC (.str "sweep")) au)))) (bM (nR (ae 4) (gc (ah (eOp qY (ae 6) (eC (.int 1))) (ah (fy (ah (eOp qY (ae 6) (eC (.int 1))) (ah (ae 5) au))) au))))))
  [some (.ref 0),some (.int ci),some (.int mi),some (.ref ld),some (.ref lu),some (.int (vo.getD v)),some (.int kI),some (.int cell),some (.ref ls),some (.int hnd),none,none]) G6 QS E:=by
  intro vo G6 k6 d6 u6
  refine aR (eI (ux (w_var rfl (jk d6 ?_))))
  walk_at "r"
  refine hV d6 (by rw[qM_,qN_,qN_,sl];simp [aH];omega) fun G7 c7 l7 d7=>?_
  refine w_next ?_
  have u7:=c7.get u6 (by simp;exact fun z=>hne z.symm)
  refine eI (rY (w_var rfl (jk u7 ?_)))
  refine pM ?_
  walk_at "r"
  rw[hw]
  intro G8 c8 l8 h8
  refine gj (c8.get u7 (by simp)) h8 (by rw[qN_,List.length_replicate,hul];simp [aH];omega) fun G9 c9 l9 u9=>?_
  have d9:=c9.get (c8.get d7 (by simp)) (by simp;exact hne)
  have FF:=zy hc F hg hjm vo
  rw[hsw]at FF
  refine h _ _ _ _ _ _ _ G9 (((k6.trans (c7.mono (by simp))).trans (c8.mono (by simp))).trans (c9.mono (by simp))) ?_ u9 FF (by rw[qN_,qN_,sl];simp;omega)
  rw[d9]
  congr 2
  cases vo <;> simp [dk]
 refine aR (fO (mV (bo ?_)))
 walk_at "r"
 refine w_eq eq_int (ky ?_)
 cases qq:decide (cell*48271 % 1021 % 2=1)with
 |true=>
  rw[if_pos rfl]
  refine aR (cK (bo ?_))
  refine pM ?_
  walk_at "r"
  intro G6 c6 l6 h6
  walk_at "r"
  have i1:0<=cell*48271 % 1031 % 4:=Int.emod_nonneg _ (by decide)
  have i2:cell*48271 % 1031 % 4 < 4:=Int.emod_lt_of_pos _ (by decide)
  obtain⟨nv,_,e⟩:=xu (xs:=[kI,0 - kI,0,100000000000000000000+kI]) i1 i2
  refine gP h6 e ?_
  refine w_next ?_
  walk_at "s"
  have d6:=c6.get d5 (by simp)
  refine eI (ux (w_var rfl (jk d6 ?_)))
  walk_at "r"
  refine hV d6 (by rw[qM_,qN_,sl];unfold aH;omega) fun G7 c7 l7 d7=>?_
  refine w_next ?_
  refine tail (some nv) G7 ((k5.trans (c6.mono (by simp))).trans (c7.mono (by simp))) ?_ (c7.get (c6.get u5 (by simp)) (by simp;exact fun z=>hne z.symm))
  rw[d7,qT_ (l₁:=ds++sw)]
  rw[hj]
  rfl
 |false=>
  rw[if_neg qC_]
  refine eI (ux (w_var rfl (jk d5 ?_)))
  walk_at "r"
  refine hV d5 (by rw[qM_,qN_,sl];unfold aH;omega) fun G7 c7 l7 d7=>?_
  refine w_next ?_
  refine tail none G7 (k5.trans (c7.mono (by simp))) ?_ (c7.get u5 (by simp;exact fun z=>hne z.symm))
  rw[d7,qT_ (l₁:=ds++sw)]
  rw[hj]
  rfl
theorem Cr{ld lu la i:Nat}{x1 x2 x5 x7 x8 x9 x10:Option D}{fso:List D->M D}{ds:List dt}{us vs:List D}{as:List An}{S:Sd}{n:Nat}{d:dt}{u w:D}{a:An}
 (hso:∀{G:Hh} {a b:D} {Q:D->Hh->Prop},Eqv G 9 a b->Q (.bl true) G->M3.run (fso [a,b]) G Q E)
 (hd:G[ld]? =some (.lst (ds.map dk))) (hu:G[lu]? =some (.lst us)) (ha:G[la]? =some (.lst vs)) (di:ds[i]? =some d) (ui:us[i]? =some u) (wi:vs[i]? =some w) (A:lc S n G a w) (du:Due d u a)
 (h:∀G',Chg [] G G'->QS (.next,[some (.ref 0),x1,x2,some (.ref ld),some (.ref lu),x5,some (.int (i:Int)),x7,x8,x9,x10,some (.ref la)]) G'):
 M3.run ((sIf (tB (eOp oEq (eOp oIx (ae 3) (ae 6)) (fy (ah (eC (.str "sweep")) au)))) (aC (sIf (tOr (gC (tOf (aL (bIs .lst) (ah (eOp oIx (ae 11) (ae 6)) au)))) (gC (tOf (aL fso (ah (eOp oIx (ae 11) (ae 6)) (ah (gc (ah (eOp oIx (ae 4) (ae 6)) au)) au)))))) (ba (eC (.bl false))) bY)
 (aC (sIf (gC (tOf (aL (bIs .tup) (ah (eOp oIx (eOp oIx (ae 11) (ae 6)) (eC (.int 0))) au)))) (ba (eC (.bl false))) bY)
 (sIf (gC (tOf (aL gW (ah (eOp oIx (eOp oIx (eOp oIx (ae 11) (ae 6)) (eC (.int 0))) (eC (.int 1))) au)))) (ba (eC (.bl false))) bY))) (sIf (tB (eUn lM (eOp oIx (ae 4) (ae 6)))) (sIf (tOr (gC (tOf (aL gW (ah (eOp oIx (ae 11) (ae 6)) au)))) (tB (eOp oNe (eOp oIx (ae 11) (ae 6)) (eOp oIx (ae 4) (ae 6))))) (ba (eC (.bl false))) bY) bY))
 [some (.ref 0),x1,x2,some (.ref ld),some (.ref lu),x5,some (.int (i:Int)),x7,x8,x9,x10,some (.ref la)]) G QS E:=by
 refine fO (mV (bo (bo (w_var rfl (w_var rfl ?_)))))
 with_reducible refine gP hd (jI di) ?_
 walk_at "r"
 refine w_eq (A4 d) (ky ?_)
 have one:∀(Z:M (Fl×St)) (p:Int),u= .int p->a= .one (.int p)->vO d=false->M3.run (if vO d=true then Z else (sIf (tB (eUn lM (eOp oIx (ae 4) (ae 6)))) (sIf (tOr (gC (tOf (aL gW (ah (eOp oIx (ae 11) (ae 6)) au)))) (tB (eOp oNe (eOp oIx (ae 11) (ae 6)) (eOp oIx (ae 4) (ae 6))))) (ba (eC (.bl false))) bY) bY) [some (.ref 0),x1,x2,some (.ref ld),some (.ref lu),x5,some (.int (i:Int)),x7,x8,x9,x10,some (.ref la)]) G QS E:=by
  rintro Z p rfl rfl hs
  have A:w= .int p:=A
  subst A
  rw[hs,if_neg qC_]
  refine fO (mV (x6 (bo (w_var rfl (w_var rfl ?_)))))
  with_reducible refine gO hu ui ?_
  refine tR ?_
  rw[show (!decide (D.int p=D.non))=true from rfl]
  refine ky ?_
  rw[if_pos rfl]
  refine fO (rA (iz (iI (eT (ax (bo (w_var rfl (w_var rfl ?_))))))))
  with_reducible refine gO ha wi ?_
  refine aM (xB (iD ?_))
  rw[show (!true)=false from rfl,if_neg qC_]
  refine mV (bo (bo (w_var rfl (w_var rfl ?_))))
  with_reducible refine gO ha wi ?_
  refine bo (w_var rfl (w_var rfl ?_))
  with_reducible refine gO hu ui ?_
  refine rf (b:=true) (by rw[eq_int];simp) (ky ?_)
  rw[show (!true)=false from rfl,if_neg qC_]
  exact lL (h G (Chg.refl _ _))
 have non:∀Z:M (Fl×St),u= .non->vO d=false->M3.run (if vO d=true then Z else (sIf (tB (eUn lM (eOp oIx (ae 4) (ae 6)))) (sIf (tOr (gC (tOf (aL gW (ah (eOp oIx (ae 11) (ae 6)) au)))) (tB (eOp oNe (eOp oIx (ae 11) (ae 6)) (eOp oIx (ae 4) (ae 6))))) (ba (eC (.bl false))) bY) bY) [some (.ref 0),x1,x2,some (.ref ld),some (.ref lu),x5,some (.int (i:Int)),x7,x8,x9,x10,some (.ref la)]) G QS E:=by
  rintro Z rfl hs
  rw[hs,if_neg qC_]
  refine fO (mV (x6 (bo (w_var rfl (w_var rfl ?_)))))
  with_reducible refine gO hu ui ?_
  refine tR ?_
  rw[show (!decide (D.non=D.non))=false from rfl]
  refine ky ?_
  rw[if_neg qC_]
  exact lL (h G (Chg.refl _ _))
 cases d with
 |wr i' v'=>obtain⟨p,e1,e2⟩:=du;exact one _ p e1 e2 rfl
 |rd i'=>obtain⟨p,e1,e2⟩:=du;exact one _ p e1 e2 rfl
 |st i'=>exact non _ du rfl
 |wa i'=>exact non _ du rfl
 |ca _ _=>exact du.elim
 |pa _ _=>exact du.elim
 |ag _=>exact du.elim
 |qu _=>exact du.elim
 |sw=>
  clear one non
  obtain⟨p,v,rfl,rfl⟩:=du
  obtain⟨l,rfl,_,_,hl⟩:=A
  rw[show vO dt.sw=true from rfl,if_pos rfl]
  refine aR (fO (rA (iz (iI (eT (ax (bo (w_var rfl (w_var rfl ?_)))))))))
  with_reducible refine gO ha wi ?_
  refine aM (w_isK (Af hl) (iD ?_))
  rw[show (!jV Kd.lst Kd.lst)=false from rfl,if_neg qC_]
  refine iz (iI (eT (ax (bo (w_var rfl (w_var rfl ?_))))))
  with_reducible refine gO ha wi ?_
  refine ax ?_
  refine pM ?_
  refine ax (bo (w_var rfl (w_var rfl ?_)))
  with_reducible refine gO hu ui ?_
  walk_at "r"
  intro G1 c1 l1 h1
  refine aM (hso (Eqv.lst (c1.get hl (by simp)) h1 rfl (by simp) fun q x z hx hz=>?_) (iD ?_))
  · rw[hx]at hz
    cases hz
    have:=qD_ hx
    simp at this
    subst this
    exact zf 3 _ rfl 5
  rw[show (!true)=false from rfl,if_neg qC_]
  refine lL (w_next ?_)
  have ha1:=c1.get ha (by simp)
  have hl1:=c1.get hl (by simp)
  refine aR (fO (iz (iI (eT (ax (bo (bo (w_var rfl (w_var rfl ?_)))))))))
  with_reducible refine gO ha1 wi ?_
  refine w_c (gP hl1 rfl (aM (mX (iD ?_))))
  rw[show (!true)=false from rfl,if_neg qC_]
  refine lL (w_next ?_)
  refine fO (iz (iI (eT (ax (bo (bo (bo (w_var rfl (w_var rfl ?_)))))))))
  with_reducible refine gO ha1 wi ?_
  refine w_c (gP hl1 rfl (w_c (cM rfl (aM (xB (iD ?_))))))
  rw[show (!true)=false from rfl,if_neg qC_]
  exact lL (h G1 c1)
theorem GV{ns:List Int}(hz:ns.length<=63)(hl:G[0]? =some (.frz (ns.map D.int)))(hQ:∀G',Q (.bl true) G'):M3.run (pN [.ref 0]) G Q E:=by
 walk_at "f"
 unfold CZ
 have hso:∀{G:Hh} {a b:D} {Q:D->Hh->Prop},Eqv G 9 a b->Q (.bl true) G->M3.run (uu 9 [a,b]) G Q E:=fun h1 h2=>HD 9 h1 h2
 generalize uu 9=fso at hso ⊢
 have hg0:=aG hl
 refine aR (cK (bo (w_c (bo (bo (bo (eT (ax (w_var rfl (ax (w_c (aM (Gb (k:=0) hl fun x=>?_)))))))))))))
 walk_at "r"
 have i1:0<=x*48271 % 1049 % 7:=Int.emod_nonneg _ (by decide)
 have i2:x*48271 % 1049 % 7 < 7:=Int.emod_lt_of_pos _ (by decide)
 obtain⟨c,hci⟩:=Int.eq_ofNat_of_zero_le (show 0<=1+x*48271 % 1049 % 7 by omega)
 have hc0:0 < c:=by omega
 have hc9:c<=9:=by omega
 generalize 1+x*48271 % 1049 % 7=ci at*
 refine Gb (k:=0) hl fun x'=>?_
 walk_at "r"
 have j1:0<=x'*48271 % 1051 % 4:=Int.emod_nonneg _ (by decide)
 have j2:x'*48271 % 1051 % 4 < 4:=Int.emod_lt_of_pos _ (by decide)
 obtain⟨m,hmi⟩:=Int.eq_ofNat_of_zero_le (show 0<=1+x'*48271 % 1051 % 4 by omega)
 have hm0:0 < m:=by omega
 have hm9:m<=9:=by omega
 generalize 1+x'*48271 % 1051 % 4=mi at*
 have c2:Chg [] G (G++[O.lst []]++[O.lst []]):=(Chg.add _ _).trans (Chg.add _ _)
 have d2:(G++[O.lst []]++[O.lst []])[G.length]? =some (.lst []):=(Chg.add (G++[O.lst []]) (O.lst [])).get (S:=[]) (cE _ _) (by simp)
 have u2:(G++[O.lst []]++[O.lst []])[(G++[O.lst []]).length]? =some (.lst []):=cE _ _
 have lu:(G++[O.lst []]).length=G.length+1:=by simp
 generalize (G++[O.lst []]).length=lu' at*
 generalize G++[O.lst []]++[O.lst []]=G2 at*
 refine Ax (c2.get hl (by simp)) ?_
 rw[qM_]
 generalize hnl:(ns.length:Int)=nl
 walk_at "r"
 refine Fq ?_ ?_
 · unfold hZ
   rw[qZ_ (by omega),qZ_ (by split <;> omega)]
   rfl
 have hn1:((if nl < 13 then nl else 13) - 1).toNat<=12:=by split <;> omega
 have hn2:∀i,i < ((if nl < 13 then nl else 13) - 1).toNat->i+1 < ns.length:=by intro i hi;split at hi <;> omega
 generalize ((if nl < 13 then nl else 13) - 1).toNat=n at hn1 hn2
 refine By (fun i σ G'=>∃ds us v q6 q7 q8 q9,σ=[some (.ref 0),some (.int ci),some (.int mi),some (.ref G.length),some (.ref lu'),some (.int v),q6,q7,q8,q9,none,none]/\Chg [] G G'/\G'[G.length]? =some (.lst (ds.map dk))/\G'[lu']? =some (.lst us)/\Far c m ds us v i/\ds.length<=i*11) ?_ ?_ ⟨[],[],0,none,none,none,none,rfl,c2,d2,u2,Hu hc0 hc9 hm9,by simp⟩
 · rintro i σ G3 hi ⟨ds,us,v,q6,q7,q8,q9,rfl,c3,d3,u3,F,hz3⟩
   refine aK ?_
   with_reducible refine rH ?_
   walk_at "s"
   have hx:ns[i+1]? =some (ns[i+1]'(hn2 i hi)):=qA_ _
   refine Ef (q6:=none) hci hmi hc0 hc9 hm0 (c3.get hl (by simp)) hx (by omega) d3 u3 (by omega) F hz3 ?_
   intro ds' us' v' q6' q7' q8' q9' G4 c4 d4 u4 F4 z4
   exact⟨ds',us',v',_,_,_,_,rfl,c3.trans' c4 (by intro n hn;simp at hn;exact .inr (by omega)),d4,u4,F4,z4⟩
 · rintro σ G3 ⟨ds,us,v,q6,q7,q8,q9,rfl,c3,d3,u3,F,hz3⟩
   have hz3':ds.length<=132:=by omega
   with_reducible refine w_next ?_
   refine aR (cK (eT (ax (w_var rfl (aM ?_)))))
   refine AB d3 fun G4 c4 l4 h4=>?_
   refine w_next ?_
   walk_at "s"
   refine aR (cK (eT (ax (w_var rfl (ax (w_var rfl (ax (w_var rfl (aM ?_)))))))))
   refine yk hci hmi hc9 hm9 h4 (by omega) fun S la vs G5 c5 g5 h5 A5=>?_
   refine w_next ?_
   walk_at "s"
   have c35:Chg [] G3 G5:=c4.trans c5
   have d5:=c35.get d3 (by simp)
   have u5:=c35.get u3 (by simp)
   have h45:=c5.get h4 (by simp)
   have vl:vs.length=ds.length:=by rw[<-A5.1,kO]
   refine aR (fO (rA (iz (iI (eT (ax (w_var rfl (aM (w_isK (Af h5) (iD ?_))))))))))
   rw[show (!jV Kd.lst Kd.lst)=false from rfl,if_neg qC_]
   refine rA (mV (bo (eT (ax (w_var rfl (aM (gN h5 (eT (ax (w_var rfl (aM (gN d5 ?_))))))))))))
   refine rf (b:=true) (by rw[eq_int,qM_,vl];simp) (ky ?_)
   rw[show (!true)=false from rfl,if_neg qC_]
   refine mV (bo (w_var rfl (w_var rfl ?_)))
   refine rf (b:=true) (eq_list h45 d5 fun x hx=>?_) (ky ?_)
   · obtain⟨d,_,rfl⟩:=qH_.mp hx
     exact BM d 5
   rw[show (!true)=false from rfl,if_neg qC_]
   refine lL (w_next ?_)
   refine aR (zS (kM (eT (ax (w_var rfl (aM (gN d5 ?_)))))))
   rw[qM_]
   with_reducible refine kC (by omega) ?_
   refine su (fun i σ G'=>∃q6,σ=[some (.ref 0),some (.int ci),some (.int mi),some (.ref G.length),some (.ref lu'),some (.int v),q6,q7,q8,q9,some (.ref G3.length),some (.ref la)]/\Chg [] G5 G') ?_ ?_ ⟨_,rfl,Chg.refl _ _⟩
   · rintro i σ G6 hi ⟨q6,rfl,c6⟩
     refine aK ?_
     with_reducible refine rH ?_
     walk_at "s"
     have di:ds[i]? =some ds[i]:=qA_ hi
     have ui:us[i]? =some (us[i]'(by rw[F.due.1];exact hi)):=qA_ _
     have wi:vs[i]? =some (vs[i]'(by rw[vl];exact hi)):=qA_ _
     have ai:(gR (cY c m) ds)[i]? =some ((gR (cY c m) ds)[i]'(by rw[kO];exact hi)):=qA_ _
     refine Cr (n:=G4.length) (as:=[]) hso (c6.get d5 (by simp)) (c6.get u5 (by simp)) (c6.get h5 (by simp)) di ui wi ((A5.2 i _ _ ai wi).chg c6 (by simp)) (F.due.2.2 i _ _ _ di ui ai) fun G7 c7=>⟨_,rfl,c6.trans c7⟩
   · rintro σ G6 ⟨q6,rfl,c6⟩
     walk_at "r"
     exact hQ _
end
theorem yX(ns:List Int)(h:ns.length<=63):M3.run (KC.pN [.ref 0]) [.frz (ns.map M3.D.int)] (fun d _=>d= .bl true) fun _ _=>False:=
 GV (ns:=ns) h rfl fun _=>rfl
end KS
namespace LK
open PySem PySem.Spec PyProof.Rows L2 L3 KC
local macro_rules |`(tactic|walk_at "sc")=>`(tactic|exact⟨rfl,rfl,rfl,by decide +kernel,rfl,by decide +kernel,by decide +kernel⟩)
local macro_rules |`(tactic|walk_at "nm")=>`(tactic|exact GA (by decide +kernel) (by decide))
local macro_rules |`(tactic|walk_at "b2")=>`(tactic|exact fun _ _ _ _ _ _ us hl=>match us,hl with | [_,_],_=>rfl)
local macro_rules |`(tactic|walk_at "b1")=>`(tactic|exact fun _ _ _ _ _ _ us hl=>match us,hl with | [_],_=>rfl)
local macro_rules |`(tactic|walk_at "b3")=>`(tactic|exact fun _ _ _ _ _ _ us hl=>match us,hl with | [_,_,_],_=>rfl)
local macro_rules |`(tactic|walk_at "b5")=>`(tactic|exact fun _ _ _ _ _ _ us hl=>match us,hl with | [_,_,_,_,_],_=>rfl)
local macro_rules |`(tactic|walk_at "b4")=>`(tactic|exact fun _ _ _ _ _ _ us hl=>match us,hl with | [_,_,_,_],_=>rfl)
local macro_rules |`(tactic|walk_at "sb")=>`(tactic|first |exact .inl rfl |exact .inr rfl |assumption)
def top(i:Nat):Stmt:=PySem.Challenge.pw_halfask_k02_one_after_the_other.main.body.getD i (.Pass ⟨0,0,0,0⟩)
def nmL:List Str:=["number","count","at_work","value","pair","round_number","heard","own_turn","is_up","keepers","hands","row","hand","word","begun","ended","stamp","hall","works","last_places","deeds_done"]
def nmF(g:Nat):Str:=nmL.getD g Str.empty
abbrev TT(cl:Nat->Option Addr):Tab:=⟨cl,nmF⟩
abbrev hW:Stmt:=top 9
theorem wH:aB ["count","many"] ["count","many"] (af hW):=by walk_at "sc"
abbrev jm:Stmt:=top 10
theorem kW:aB ["pairs","best","pair"] ["pairs"] (af jm):=by walk_at "sc"
abbrev el:Stmt:=top 11
theorem j8:aB ["pairs","own","hand","turns"] ["pairs","own","hand"] (af el):=by walk_at "sc"
abbrev fQ:Stmt:=inClass (top 13) 0
theorem tf:aB ["self","number","count"] ["self","number","count"] (af fQ):=by walk_at "sc"
abbrev dN:Stmt:=inClass (top 13) 5
theorem jN:aB ["self","waited_for"] ["self"] (af dN):=by walk_at "sc"
abbrev cx:Stmt:=inClass (top 13) 4
theorem lA:aB ["self","pair"] ["self","pair"] (af cx):=by walk_at "sc"
abbrev fm:Stmt:=inClass (top 13) 3
theorem qS:aB ["self","value"] ["self","value"] (af fm):=by walk_at "sc"
abbrev cb:Stmt:=inClass (top 13) 1
theorem lx:aB ["self","value"] ["self","value"] (af cb):=by walk_at "sc"
abbrev cG:Stmt:=inClass (top 13) 2
theorem mr:aB ["self"] ["self"] (af cG):=by walk_at "sc"
abbrev cg:Stmt:=inClass (top 13) 8
theorem lF:aB ["self"] ["self"] (af cg):=by walk_at "sc"
abbrev cJ:Stmt:=inClass (top 13) 6
theorem mz:aB ["self"] ["self"] (af cJ):=by walk_at "sc"
abbrev dM:Stmt:=inClass (top 13) 7
theorem oS:aB ["self"] ["self"] (af dM):=by walk_at "sc"
abbrev eE:Stmt:=inClass (top 13) 10
theorem il:aB ["self","pairs","stamp"] ["self"] (af eE):=by walk_at "sc"
abbrev fJ:Stmt:=inClass (top 13) 9
theorem sJ:aB ["self","answer"] ["self","answer"] (af fJ):=by walk_at "sc"
abbrev eF:Stmt:=inClass (top 15) 0
theorem qe:aB ["self"] ["self"] (af eF):=by walk_at "sc"
abbrev eB:Stmt:=inClass (top 15) 1
theorem kf:aB ["self","changed"] ["self"] (af eB):=by walk_at "sc"
abbrev eA:Stmt:=inClass (top 15) 2
theorem jW:aB ["self","changed"] ["self"] (af eA):=by walk_at "sc"
abbrev eD:Stmt:=inClass (top 15) 3
theorem pV:aB ["self","pair"] ["self","pair"] (af eD):=by walk_at "sc"
abbrev cj:Stmt:=inClass (top 15) 4
theorem gQ:aB ["self","letter","pair"] ["self","letter"] (af cj):=by walk_at "sc"
abbrev fM:Stmt:=inClass (top 17) 0
theorem sR:aB ["self","count","many"] ["self","count","many"] (af fM):=by walk_at "sc"
abbrev dJ:Stmt:=inClass (top 17) 1
theorem oQ:aB ["self","number"] ["self","number"] (af dJ):=by walk_at "sc"
abbrev cT:Stmt:=inClass (top 17) 2
theorem ng:aB ["self","number"] ["self","number"] (af cT):=by walk_at "sc"
abbrev fN:Stmt:=inClass (top 17) 9
theorem sP:aB ["self","letters"] ["self","letters"] (af fN):=by walk_at "sc"
abbrev fg:Stmt:=inClass (top 17) 3
theorem rb:aB ["self","hand","value"] ["self","hand","value"] (af fg):=by walk_at "sc"
abbrev fF:Stmt:=inClass (top 17) 4
theorem tO:aB ["self","hand"] ["self","hand"] (af fF):=by walk_at "sc"
abbrev fu:Stmt:=inClass (top 17) 5
theorem lS:aB ["self","hand","letters"] ["self","hand"] (af fu):=by walk_at "sc"
abbrev fi:Stmt:=inClass (top 17) 6
theorem qJ:aB ["self","hand"] ["self","hand"] (af fi):=by walk_at "sc"
abbrev cm:Stmt:=inClass (top 17) 7
theorem lz:aB ["self","keeper"] ["self","keeper"] (af cm):=by walk_at "sc"
abbrev cq:Stmt:=inClass (top 17) 8
theorem lq:aB ["self","keeper"] ["self","keeper"] (af cq):=by walk_at "sc"
abbrev bA:Stmt:=inClass (top 17) 15
theorem gb:aB ["self","letter","answer"] ["self","letter"] (af bA):=by walk_at "sc"
abbrev bT:Stmt:=inClass (top 17) 16
theorem gF:aB ["self","answer","brought"] ["self","answer"] (af bT):=by walk_at "sc"
abbrev fL:Stmt:=inClass (top 17) 14
theorem nJ:aB ["self","place","stays","entry"] ["self","place","stays"] (af fL):=by walk_at "sc"
abbrev fv:Stmt:=inClass (top 17) 10
theorem rz:aB ["self","number","stays"] ["self","number","stays"] (af fv):=by walk_at "sc"
abbrev bE:Stmt:=inClass (top 17) 12
theorem eG:aB ["self","hand","keeper","place","entry"] ["self","hand","keeper"] (af bE):=by walk_at "sc"
abbrev bF:Stmt:=inClass (top 17) 11
theorem cV:aB ["self","hand","keeper","ends","place"] ["self","hand","keeper"] (af bF):=by walk_at "sc"
abbrev fk:Stmt:=inClass (top 17) 13
theorem lO:aB ["self","ends"] ["self"] (af fk):=by walk_at "sc"
abbrev fR:Stmt:=inClass (top 19) 0
theorem sV:aB ["self","hand","word","value","begun"] ["self","hand","word","value","begun"] (af fR):=by walk_at "sc"
abbrev fI:Stmt:=inClass (top 19) 1
theorem tp:aB ["self"] ["self"] (af fI):=by walk_at "sc"
abbrev ff:Stmt:=inClass (top 20) 0
theorem qL:aB ["self","count","many"] ["self","count","many"] (af ff):=by walk_at "sc"
abbrev cB:Stmt:=inClass (top 20) 4
theorem iA:aB ["self","hand","word","value","place"] ["self","hand","word","value"] (af cB):=by walk_at "sc"
abbrev cS:Stmt:=inClass (top 20) 6
theorem fY:aB ["self","hand","pair","place","work"] ["self","hand","pair"] (af cS):=by walk_at "sc"
abbrev cD:Stmt:=inClass (top 20) 5
theorem ml:aB ["self","ends"] ["self","ends"] (af cD):=by walk_at "sc"
abbrev fj:Stmt:=inClass (top 20) 3
theorem jb:aB ["self","deed","word","ends"] ["self","deed"] (af fj):=by walk_at "sc"
abbrev bu:Stmt:=inClass (top 20) 2
theorem ja:aB ["self","deed"] ["self","deed"] (af bu):=by walk_at "sc"
abbrev bS:Stmt:=inClass (top 20) 7
theorem cy:aB ["self","hand","place","pair","work"] ["self"] (af bS):=by walk_at "sc"
abbrev dQ:Stmt:=inClass (top 20) 1
theorem jL:aB ["self","deed","told"] ["self","deed"] (af dQ):=by walk_at "sc"
abbrev hJ:Stmt:=top 21
theorem qc:aB ["count","many","deeds","story"] ["count","many","deeds"] (af hJ):=by walk_at "sc"
abbrev yl:Stmt:=top 23
theorem Ab:aB ["_law_found","_law_meant","_law_k"] ["_law_found","_law_meant"] (af yl):=by walk_at "sc"
abbrev kD:Stmt:=top 24
theorem AX:aB ["_law_found"] ["_law_found"] (af kD):=by walk_at "sc"
abbrev yC:Stmt:=top 25
theorem Gx:aB ["_law_script","_law_k"] ["_law_script","_law_k"] (af yC):=by walk_at "sc"
abbrev gm:Stmt:=top 26
theorem fG:aB ["_law_cell","_law_count","_law_first","_law_some","_law_gone","_law_deeds","_law_k"] ["_law_cell","_law_count"] (af gm):=by walk_at "sc"
abbrev m6:Stmt:=top 27
theorem fV:aB ["_law_script","_law_count","_law_many","_law_deeds","_law_dues","_law_value","_law_k","_law_cell","_law_switches","_law_hand","_law_handed","_law_told"] ["_law_script"] (af m6):=by walk_at "sc"
structure Txt (K:PySem.W.Frag) (mg:Str->Option Value) (cl:Nat->Option Addr):Prop where
 FV:mg "max"=none
 iM:mg "range"=none
 mB:mg "list"=none
 iy:mg "len"=none
 vz:mg "enumerate"=none
 tm:mg "bool"=none
 aS:mg "isinstance"=none
 xq:mg "int"=none
 De:mg "str"=none
 z6:mg "dict"=none
 o6:mg "tuple"=none
 Gu:mg "min"=none
 g_BEGINNING:Dj K mg "BEGINNING" (.tup [(.tup [(.int 0),(.int 0)]),(.int 0)])
 pS:eL (TT cl) K 0
 tQ:eL (TT cl) K 1
 gn:eL (TT cl) K 2
 iX:eL (TT cl) K 3
 jd:eL (TT cl) K 4
 eW:eL (TT cl) K 5
 kK:eL (TT cl) K 6
 mh:eL (TT cl) K 7
 kG:eL (TT cl) K 8
 kN:eL (TT cl) K 9
 nB:eL (TT cl) K 10
 mI:eL (TT cl) K 11
 z7:eL (TT cl) K 12
 zK:eL (TT cl) K 13
 xc:eL (TT cl) K 14
 sW:eL (TT cl) K 15
 xr:eL (TT cl) K 16
 ix:eL (TT cl) K 17
 nK:eL (TT cl) K 18
 fz:eL (TT cl) K 19
 fX:eL (TT cl) K 20
 CY:∃C,cl 1000=some C/\XCl K mg "HalfError" C
 CT:True
 vj:∃C,cl 1001=some C/\XCl K mg "NoHand" C
 zi:∃C,mg "NoHand"=some (.ref C)/\∀c Ca,cl c=some Ca->PySem.W.exmOne K (.ref Ca) (.ref C)=some (decide (c=1001))
 pB:∃C,cl 1002=some C/\XCl K mg "NoKeeper" C
 vM:∃C,mg "NoKeeper"=some (.ref C)/\∀c Ca,cl c=some Ca->PySem.W.exmOne K (.ref Ca) (.ref C)=some (decide (c=1002))
 qE:∃C,cl 1003=some C/\XCl K mg "NoLetter" C
 wJ:∃C,mg "NoLetter"=some (.ref C)/\∀c Ca,cl c=some Ca->PySem.W.exmOne K (.ref Ca) (.ref C)=some (decide (c=1003))
 AV:∃C,cl 1004=some C/\XCl K mg "Busy" C
 D4:∃C,mg "Busy"=some (.ref C)/\∀c Ca,cl c=some Ca->PySem.W.exmOne K (.ref Ca) (.ref C)=some (decide (c=1004))
 za:∃C,cl 1005=some C/\XCl K mg "Idle" C
 EM:∃C,mg "Idle"=some (.ref C)/\∀c Ca,cl c=some Ca->PySem.W.exmOne K (.ref Ca) (.ref C)=some (decide (c=1005))
section
variable(P:Program)(w:World){K:PySem.W.Frag}(mg:Str->Option Value)(base:Heap){cl:Nat->Option Addr}
theorem wV{fa:Addr}{fd:FuncData}(F:Fun K "is_more" "is_more" hW fa fd)(Z:Txt K mg cl):bh P w K mg base CX0 1 fa fd ["count","many"] (sp3 (TT cl) K 2 kL):=by
 exact cA (k:=0) F wH rfl rfl fun cdv A outer s H E hr=>have hu:=hr.units
  (by refine ay ?_;refine y_ret ?_;exact(vE (zb hu) (by refine dB gz ?_ ?_;exact(aa 1);exact aE) (aa 0) (bQ _)))
theorem xY{fa:Addr}{fd:FuncData}(F:Fun K "newest" "newest" jm fa fd)(Z:Txt K mg cl):bh P w K mg base CX0 1 fa fd ["pairs"] (sp3 (TT cl) K 1 mL):=by
 exact cA (k:=0) F kW rfl rfl fun cdv A outer s H E hr=>have hu:=hr.units
  (by refine ak ?_ ?_;refine bW (i:=1) ?_ ?_ ?_ ?_ ?_ ?_;exact kW.nd;exact rfl;exact Or.inl rfl;exact(Ai Z.g_BEGINNING);exact xi;walk_at "sb";refine ak ?_ ?_;exact(sg PassesOwn.never rfl (yn (aa 0)) (AN (i:=2) kW.nd rfl (Or.inl rfl)) (by refine ay ?_;refine cZ ?_ ?_ ?_;exact(dX (zb hu) (by refine bx hu ?_ ?_;exact(aa 2);exact aE) (by refine bx hu ?_ ?_;exact(aa 1);exact aE) (bQ _));refine ay ?_;refine bW (i:=1) ?_ ?_ ?_ ?_ ?_ ?_;exact kW.nd;exact rfl;exact Or.inl rfl;exact(aa 2);exact xi;walk_at "sb";exact bB));refine ay ?_;refine y_ret ?_;exact(aa 1))
theorem pJ{fa:Addr}{fd:FuncData}(F:Fun K "stamp_after" "stamp_after" el fa fd)(Z:Txt K mg cl):bh P w K mg base CX0 1 fa fd ["pairs","own","hand"] (sp3 (TT cl) K 3 gy):=by
 exact cA (k:=0) F j8 rfl rfl fun cdv A outer s H E hr=>have hu:=hr.units
  (by refine ak ?_ ?_;exact(nV (i:=3) (Blk.nil rfl rfl (by decide +kernel) rfl) rfl j8.nd rfl rfl (yn (aa 0)) (fun _ _ _ _ _=>iO) (fun _ _ _ _ _=>(by refine bx hu ?_ ?_;refine bx hu ?_ ?_;exact(aa 0);exact aE;exact aE)));refine ay ?_;refine y_ret ?_;refine fw ?_;refine aj ?_ ?_ ?_;refine dB fB ?_ ?_;exact(EO rfl Z.FV (aj (by refine dB fB ?_ ?_;exact(aa 3);refine fT ?_;refine aj ?_ ?_ ?_;exact(aa 1);exact av;exact ao) av gL));exact aE;refine aj ?_ ?_ ?_;exact(aa 2);exact av;exact ao;exact gL)
theorem sF{fa:Addr}{fd:FuncData}(F:Fun K "__init__" "Hand.__init__" fQ fa fd)(Z:Txt K mg cl):bh P w K mg base CX0 1 fa fd ["self","number","count"] (sp3 (TT cl) K 3 iS):=by
 exact cA (k:=0) F tf rfl rfl fun cdv A outer s H E hr=>have hu:=hr.units
  (by refine ak ?_ ?_;exact(bV Z.pS (aa 0) (aa 1));refine ak ?_ ?_;exact(bV Z.tQ (aa 0) (aa 2));refine ak ?_ ?_;exact(bV Z.gn (aa 0) iF);refine ak ?_ ?_;exact(bV Z.iX (aa 0) iw);refine ak ?_ ?_;exact(bV Z.jd (aa 0) iw);refine ak ?_ ?_;exact(bV Z.eW (aa 0) aE);refine ak ?_ ?_;exact(bV Z.kK (aa 0) sH);refine ay ?_;exact(bV Z.mh (aa 0) aE))
theorem oP{fa:Addr}{fd:FuncData}(F:Fun K "letters" "Hand.letters" dN fa fd)(Z:Txt K mg cl):bh P w K mg base CX0 1 fa fd ["self"] (sp3 (TT cl) K 1 dR):=by
 exact cA (k:=0) F jN rfl rfl fun cdv A outer s H E hr=>have hu:=hr.units
  (by refine ak ?_ ?_;exact(nV (i:=1) (Blk.of (caps:=[("self",0)]) (cl:=[("self",s.heap.objs.size+1)]) rfl rfl rfl rfl rfl (by decide) rfl rfl rfl rfl rfl) rfl jN.nd rfl rfl (mD Z.iM (aQ Z.tQ (aa 0))) (fun _ _ _ _ _=>BK (dX (Aj hu) (aa 0) (aQ Z.kK (aa 1)) rfl)) (fun _ _ _ _ _=>(aa 0)));refine ay ?_;refine y_ret ?_;exact(ol (Blk.of (caps:=[("self",0)]) (cl:=[("self",s.heap.objs.size+1)]) rfl rfl rfl rfl rfl (by decide) rfl rfl rfl rfl rfl) rfl (yn (aa 1)) (fun _ _ _ _ _=>iO) (fun _ _ _ _ _=>(by refine fw ?_;refine aj ?_ ?_ ?_;exact(aQ Z.pS (aa 1));refine aj ?_ ?_ ?_;exact(aa 0);refine aj ?_ ?_ ?_;exact(aQ Z.eW (aa 1));refine aj ?_ ?_ ?_;exact(aQ Z.jd (aa 1));exact av;exact bp;exact bp;exact ao;exact bp))))
theorem lj{fa:Addr}{fd:FuncData}(F:Fun K "begin_round" "Hand.begin_round" cx fa fd)(Z:Txt K mg cl)(Fx7:Mt3 P w K mg base CX0 (TT cl) 1 0 "letters" 1 dR):bh P w K mg base CX0 2 fa fd ["self","pair"] (sp3 (TT cl) K 2 cp):=by
 exact cA (k:=1) F lA rfl rfl fun cdv A outer s H E hr=>have hu:=hr.units
  (by refine ak ?_ ?_;exact(bV Z.eW (aa 0) (by refine dB fB ?_ ?_;exact(aQ Z.eW (aa 0));exact aE));refine ak ?_ ?_;exact(bV Z.jd (aa 0) (aa 1));refine ak ?_ ?_;exact(bV Z.kK (aa 0) sH);refine ay ?_;refine y_ret ?_;exact(fA Fx7 (hr.mono (by decide)) bt (aa 0)))
theorem qK{fa:Addr}{fd:FuncData}(F:Fun K "begin" "Hand.begin" fm fa fd)(Z:Txt K mg cl)(Fx8:Mt3 P w K mg base CX0 (TT cl) 2 0 "begin_round" 2 cp):bh P w K mg base (CX1 P w) 3 fa fd ["self","value"] (sp3 (TT cl) K 2 e9):=by
 obtain⟨AV,ec_Busy,ex_Busy⟩:=Z.AV
 exact gJ (k:=2) F qS rfl rfl fun cdv A outer s H E hr=>have hu:=hr.units
  (by refine ak ?_ ?_;refine cZ ?_ ?_ ?_;exact(iG (aQ Z.gn (aa 0)));refine ay ?_;exact(y_raise bO bP hr.hd ex_Busy ec_Busy (aj eN av aI));exact bB;refine ak ?_ ?_;exact(bV Z.gn (aa 0) iF);refine ak ?_ ?_;exact(bV Z.iX (aa 0) (aa 1));refine ay ?_;refine y_ret ?_;exact(aZ Fx8 (hr.mono (by decide)) bt (aa 0) (aj iw av aI)))
theorem lC{fa:Addr}{fd:FuncData}(F:Fun K "begin_write" "Hand.begin_write" cb fa fd)(Z:Txt K mg cl)(Fx9:Mt3 P w K mg base (CX1 P w) (TT cl) 3 0 "begin" 2 e9):bh P w K mg base (CX1 P w) 4 fa fd ["self","value"] (sp3 (TT cl) K 2 ed):=by
 exact gJ (k:=3) F lx rfl rfl fun cdv A outer s H E hr=>have hu:=hr.units
  (by refine ay ?_;refine y_ret ?_;exact(aZ Fx9 (hr.mono (by decide)) (eJ bO bP) (aa 0) (aj (aa 1) av ao)))
theorem mf{fa:Addr}{fd:FuncData}(F:Fun K "begin_read" "Hand.begin_read" cG fa fd)(Z:Txt K mg cl)(Fx9:Mt3 P w K mg base (CX1 P w) (TT cl) 3 0 "begin" 2 e9):bh P w K mg base (CX1 P w) 4 fa fd ["self"] (sp3 (TT cl) K 1 eM):=by
 exact gJ (k:=3) F mr rfl rfl fun cdv A outer s H E hr=>have hu:=hr.units
  (by refine ay ?_;refine y_ret ?_;exact(aZ Fx9 (hr.mono (by decide)) (eJ bO bP) (aa 0) (aj iw av aI)))
theorem lg{fa:Addr}{fd:FuncData}(F:Fun K "refuse_idle" "Hand.refuse_idle" cg fa fd)(Z:Txt K mg cl):bh P w K mg base (CX1 P w) 1 fa fd ["self"] (sp3 (TT cl) K 1 cu):=by
 obtain⟨za,ec_Idle,ex_Idle⟩:=Z.za
 exact gJ (k:=0) F lF rfl rfl fun cdv A outer s H E hr=>have hu:=hr.units
  (by refine ay ?_;refine cZ ?_ ?_ ?_;exact(iT (iG (aQ Z.gn (aa 0))));refine ay ?_;exact(y_raise bO bP hr.hd ex_Idle ec_Idle (aj eN av aI));exact bB)
theorem lZ{fa:Addr}{fd:FuncData}(F:Fun K "send_again" "Hand.send_again" cJ fa fd)(Z:Txt K mg cl)(Fx7:Mt3 P w K mg base CX0 (TT cl) 1 0 "letters" 1 dR)(Fx10:Mt3 P w K mg base (CX1 P w) (TT cl) 1 0 "refuse_idle" 1 cu):bh P w K mg base (CX1 P w) 2 fa fd ["self"] (sp3 (TT cl) K 1 eK):=by
 exact gJ (k:=1) F mz rfl rfl fun cdv A outer s H E hr=>have hu:=hr.units
  (by refine ak ?_ ?_;refine bX ?_ ?_;exact(fA Fx10 (hr.mono (by decide)) (eJ bO bP) (aa 0));exact aN;refine ay ?_;refine y_ret ?_;exact(fA Fx7 (hr.mono (by decide)) bt (aa 0)))
theorem oU{fa:Addr}{fd:FuncData}(F:Fun K "give_up" "Hand.give_up" dM fa fd)(Z:Txt K mg cl)(Fx10:Mt3 P w K mg base (CX1 P w) (TT cl) 1 0 "refuse_idle" 1 cu):bh P w K mg base (CX1 P w) 2 fa fd ["self"] (sp3 (TT cl) K 1 fS):=by
 exact gJ (k:=1) F oS rfl rfl fun cdv A outer s H E hr=>have hu:=hr.units
  (by refine ak ?_ ?_;refine bX ?_ ?_;exact(fA Fx10 (hr.mono (by decide)) (eJ bO bP) (aa 0));exact aN;refine ay ?_;exact(bV Z.gn (aa 0) iF))
theorem qo{fa:Addr}{fd:FuncData}(F:Fun K "chosen" "Hand.chosen" eE fa fd)(Z:Txt K mg cl)(Fx22:Fn3 P w K mg base CX0 (TT cl) 1 "newest" 1 mL)(Fx23:Fn3 P w K mg base CX0 (TT cl) 1 "stamp_after" 3 gy):bh P w K mg base CX0 2 fa fd ["self"] (sp3 (TT cl) K 1 gv):=by
 exact cA (k:=1) F il rfl rfl fun cdv A outer s H E hr=>have hu:=hr.units
  (by refine ak ?_ ?_;refine bW (i:=1) ?_ ?_ ?_ ?_ ?_ ?_;exact il.nd;exact rfl;exact Or.inl rfl;exact(vK hr.hd (aQ Z.kK (aa 0)) Z.mB);exact aN;walk_at "sb";refine ak ?_ ?_;refine cZ ?_ ?_ ?_;exact(uD (aQ Z.iX (aa 0)));refine ay ?_;refine y_ret ?_;exact(x_call Fx22 (hr.mono (by decide)) bt (aj (aa 1) av ao));exact bB;refine ak ?_ ?_;refine bW (i:=2) ?_ ?_ ?_ ?_ ?_ ?_;exact il.nd;exact rfl;exact Or.inl rfl;exact(x_call Fx23 (hr.mono (by decide)) bt (aj (aa 1) (aj (aQ Z.mh (aa 0)) (aj (aQ Z.pS (aa 0)) av bp) bp) ao));exact aN;walk_at "sb";refine ak ?_ ?_;exact(bV Z.mh (aa 0) (by refine bx hu ?_ ?_;exact(aa 2);exact aE));refine ay ?_;refine y_ret ?_;refine fw ?_;refine aj ?_ ?_ ?_;exact(aa 2);refine aj ?_ ?_ ?_;exact(aQ Z.iX (aa 0));exact av;exact bp;exact ao)
theorem tx{fa:Addr}{fd:FuncData}(F:Fun K "hear" "Hand.hear" fJ fa fd)(Z:Txt K mg cl)(Fx24:Fn3 P w K mg base CX0 (TT cl) 1 "is_more" 2 kL)(Fx8:Mt3 P w K mg base CX0 (TT cl) 2 0 "begin_round" 2 cp)(Fx25:Mt3 P w K mg base CX0 (TT cl) 2 0 "chosen" 1 gv):bh P w K mg base CX0 3 fa fd ["self","answer"] (sp3 (TT cl) K 2 iN):=by
 exact cA (k:=2) F sJ rfl rfl fun cdv A outer s H E hr=>have hu:=hr.units
  (by refine ak ?_ ?_;refine cZ ?_ ?_ ?_;exact(PW.pt (w_or (iT (iG (aQ Z.gn (aa 0)))) (qx (dX (qj hu) (by refine bx hu ?_ ?_;exact(aa 1);exact aE) (aQ Z.eW (aa 0)) (bQ _)))));refine ay ?_;refine y_ret ?_;refine fw ?_;refine aj ?_ ?_ ?_;refine fT ?_;exact av;refine aj ?_ ?_ ?_;exact iw;exact av;exact aI;exact ki;exact bB;refine ak ?_ ?_;exact(C9 hu (aQ Z.kK (aa 0)) (by refine bx hu ?_ ?_;exact(aa 1);exact aE) (by refine bx hu ?_ ?_;exact(aa 1);exact aE));refine ak ?_ ?_;refine cZ ?_ ?_ ?_;exact(iT (iG (x_call Fx24 (hr.mono (by decide)) bt (aj (aQ Z.tQ (aa 0)) (aj (fC Z.iy (aj (aQ Z.kK (aa 0)) av bp)) av cQ) bp))));refine ay ?_;refine y_ret ?_;refine fw ?_;refine aj ?_ ?_ ?_;refine fT ?_;exact av;refine aj ?_ ?_ ?_;exact iw;exact av;exact aI;exact ki;exact bB;refine ak ?_ ?_;refine cZ ?_ ?_ ?_;exact(uD (aQ Z.jd (aa 0)));refine ay ?_;refine y_ret ?_;refine fw ?_;refine aj ?_ ?_ ?_;exact(aZ Fx8 (hr.mono (by decide)) bt (aa 0) (aj (fA Fx25 (hr.mono (by decide)) bt (aa 0)) av cQ));refine aj ?_ ?_ ?_;exact iw;exact av;exact aI;exact cQ;exact bB;refine ak ?_ ?_;exact(bV Z.gn (aa 0) iF);refine ay ?_;refine y_ret ?_;refine fw ?_;refine aj ?_ ?_ ?_;refine fT ?_;exact av;refine aj ?_ ?_ ?_;exact(aQ Z.jd (aa 0));exact av;exact bp;exact ki)
theorem pE{fa:Addr}{fd:FuncData}(F:Fun K "__init__" "Keeper.__init__" eF fa fd)(Z:Txt K mg cl):bh P w K mg base CX0 1 fa fd ["self"] (sp3 (TT cl) K 1 gu):=by
 exact cA (k:=0) F qe rfl rfl fun cdv A outer s H E hr=>have hu:=hr.units
  (by refine ak ?_ ?_;exact(bV Z.jd (aa 0) (Ai Z.g_BEGINNING));refine ay ?_;exact(bV Z.kG (aa 0) iF))
theorem pI{fa:Addr}{fd:FuncData}(F:Fun K "stop" "Keeper.stop" eB fa fd)(Z:Txt K mg cl):bh P w K mg base CX0 1 fa fd ["self"] (sp3 (TT cl) K 1 gA):=by
 exact cA (k:=0) F kf rfl rfl fun cdv A outer s H E hr=>have hu:=hr.units
  (by refine ak ?_ ?_;refine bW (i:=1) ?_ ?_ ?_ ?_ ?_ ?_;exact kf.nd;exact rfl;exact Or.inl rfl;exact(aQ Z.kG (aa 0));exact xj;walk_at "sb";refine ak ?_ ?_;exact(bV Z.kG (aa 0) iF);refine ay ?_;refine y_ret ?_;exact(aa 1))
theorem qw{fa:Addr}{fd:FuncData}(F:Fun K "wake" "Keeper.wake" eA fa fd)(Z:Txt K mg cl):bh P w K mg base CX0 1 fa fd ["self"] (sp3 (TT cl) K 1 gs):=by
 exact cA (k:=0) F jW rfl rfl fun cdv A outer s H E hr=>have hu:=hr.units
  (by refine ak ?_ ?_;refine bW (i:=1) ?_ ?_ ?_ ?_ ?_ ?_;exact jW.nd;exact rfl;exact Or.inl rfl;exact(AZ (aQ Z.kG (aa 0)));exact FR;walk_at "sb";refine ak ?_ ?_;exact(bV Z.kG (aa 0) iF);refine ay ?_;refine y_ret ?_;exact(aa 1))
theorem pY{fa:Addr}{fd:FuncData}(F:Fun K "keep" "Keeper.keep" eD fa fd)(Z:Txt K mg cl):bh P w K mg base CX0 1 fa fd ["self","pair"] (sp3 (TT cl) K 2 gw):=by
 exact cA (k:=0) F pV rfl rfl fun cdv A outer s H E hr=>have hu:=hr.units
  (by refine ay ?_;refine cZ ?_ ?_ ?_;exact(dX (zb hu) (by refine bx hu ?_ ?_;exact(aa 1);exact aE) (by refine bx hu ?_ ?_;exact(aQ Z.jd (aa 0));exact aE) (bQ _));refine ay ?_;exact(bV Z.jd (aa 0) (aa 1));exact bB)
theorem kZ{fa:Addr}{fd:FuncData}(F:Fun K "answer_to" "Keeper.answer_to" cj fa fd)(Z:Txt K mg cl)(Fx26:Mt3 P w K mg base CX0 (TT cl) 1 1 "keep" 2 gw):bh P w K mg base CX0 2 fa fd ["self","letter"] (sp3 (TT cl) K 2 d0):=by
 exact cA (k:=1) F gQ rfl rfl fun cdv A outer s H E hr=>have hu:=hr.units
  (by refine ak ?_ ?_;refine cZ ?_ ?_ ?_;exact(iT (iG (aQ Z.kG (aa 0))));refine ay ?_;refine y_ret ?_;exact iw;exact bB;refine ak ?_ ?_;refine bW (i:=2) ?_ ?_ ?_ ?_ ?_ ?_;exact gQ.nd;exact rfl;exact Or.inl rfl;refine bx hu ?_ ?_;exact(aa 1);exact aE;exact mv;walk_at "sb";refine ak ?_ ?_;refine cZ ?_ ?_ ?_;exact(uD (aa 2));refine ay ?_;refine y_ret ?_;refine dB fB ?_ ?_;exact(sY (aa 1) wb (wW aE));refine fw ?_;refine aj ?_ ?_ ?_;exact(aQ Z.jd (aa 0));exact av;exact bp;exact bB;refine ak ?_ ?_;refine bX ?_ ?_;exact(aZ Fx26 (hr.mono (by decide)) bt (aa 0) (aj (aa 2) av ao));exact aN;refine ay ?_;refine y_ret ?_;refine dB fB ?_ ?_;exact(sY (aa 1) wb (wW aE));refine fw ?_;refine aj ?_ ?_ ?_;exact iw;exact av;exact aI)
theorem sX{fa:Addr}{fd:FuncData}(F:Fun K "__init__" "Hall.__init__" fM fa fd)(Z:Txt K mg cl)(Fx27:Ct3 P w K mg base CX0 (TT cl) 1 "Hand" 0 3 iS)(Fx28:Ct3 P w K mg base CX0 (TT cl) 1 "Keeper" 1 1 gu):bh P w K mg base CX0 3 fa fd ["self","count","many"] (sp3 (TT cl) K 3 gD):=by
 exact cA (k:=2) F sR rfl rfl fun cdv A outer s H E hr=>have hu:=hr.units
  (by refine ak ?_ ?_;exact(bV Z.kN (aa 0) (ol (Blk.of (caps:=[]) (cl:=[]) rfl rfl rfl rfl rfl (by decide) rfl rfl rfl rfl rfl) rfl (mD Z.iM (aa 1)) (fun _ _ _ _ _=>iO) (fun _ _ _ _ _=>(Ck Fx28 (hr.mono (by decide)) bt))));refine ak ?_ ?_;exact(bV Z.nB (aa 0) (ol (Blk.of (caps:=[("count",1)]) (cl:=[("count",s.heap.objs.size+1)]) rfl rfl rfl rfl rfl (by decide) rfl rfl rfl rfl rfl) rfl (mD Z.iM (aa 2)) (fun _ _ _ _ _=>iO) (fun _ _ _ _ _=>(sO Fx27 (hr.mono (by decide)) bt (aj (aa 0) (aj (aa 1) av ao) ao)))));refine ay ?_;exact(bV Z.mI (aa 0) (by refine fT ?_;exact av)))
theorem oO{fa:Addr}{fd:FuncData}(F:Fun K "hand_of" "Hall.hand_of" dJ fa fd)(Z:Txt K mg cl):bh P w K mg base (CX1 P w) 1 fa fd ["self","number"] (sp3 (TT cl) K 2 bj):=by
 obtain⟨vj,ec_NoHand,ex_NoHand⟩:=Z.vj
 exact gJ (k:=0) F oQ rfl rfl fun cdv A outer s H E hr=>have hu:=hr.units
  (by refine ak ?_ ?_;refine cZ ?_ ?_ ?_;exact(PW.pt (w_or (dX (A7 hu) (aa 1) aE (bQ _)) (qx (dX (CS hu) (aa 1) (fC Z.iy (aj (aQ Z.nB (aa 0)) av bp)) (bQ _)))));refine ay ?_;exact(y_raise bO bP hr.hd ex_NoHand ec_NoHand (aj eN av aI));exact bB;refine ay ?_;refine y_ret ?_;refine bx hu ?_ ?_;exact(aQ Z.nB (aa 0));exact(aa 1))
theorem nE{fa:Addr}{fd:FuncData}(F:Fun K "keeper_of" "Hall.keeper_of" cT fa fd)(Z:Txt K mg cl):bh P w K mg base (CX1 P w) 1 fa fd ["self","number"] (sp3 (TT cl) K 2 bG):=by
 obtain⟨pB,ec_NoKeeper,ex_NoKeeper⟩:=Z.pB
 exact gJ (k:=0) F ng rfl rfl fun cdv A outer s H E hr=>have hu:=hr.units
  (by refine ak ?_ ?_;refine cZ ?_ ?_ ?_;exact(PW.pt (w_or (dX (A7 hu) (aa 1) aE (bQ _)) (qx (dX (CS hu) (aa 1) (fC Z.iy (aj (aQ Z.kN (aa 0)) av bp)) (bQ _)))));refine ay ?_;exact(y_raise bO bP hr.hd ex_NoKeeper ec_NoKeeper (aj eN av aI));exact bB;refine ay ?_;refine y_ret ?_;refine bx hu ?_ ?_;exact(aQ Z.kN (aa 0));exact(aa 1))
theorem sS{fa:Addr}{fd:FuncData}(F:Fun K "send" "Hall.send" fN fa fd)(Z:Txt K mg cl):bh P w K mg base CX0 1 fa fd ["self","letters"] (sp3 (TT cl) K 2 cO):=by
 exact cA (k:=0) F sP rfl rfl fun cdv A outer s H E hr=>have hu:=hr.units
  (by refine ay ?_;refine bX ?_ ?_;refine uy ?_ ?_;exact(aQ Z.mI (aa 0));exact(ol (Blk.nil rfl rfl (by decide +kernel) rfl) rfl (yn (aa 1)) (fun _ _ _ _ _=>iO) (fun _ _ _ _ _=>(by refine fw ?_;refine aj ?_ ?_ ?_;exact iF;refine aj ?_ ?_ ?_;exact(aa 0);exact av;exact ao;exact aI)));exact aN)
theorem qR{fa:Addr}{fd:FuncData}(F:Fun K "write" "Hall.write" fg fa fd)(Z:Txt K mg cl)(Fx29:Mt3 P w K mg base (CX1 P w) (TT cl) 4 0 "begin_write" 2 ed)(Fx1:Mt3 P w K mg base (CX1 P w) (TT cl) 1 2 "hand_of" 2 bj)(Fx2:Mt3 P w K mg base CX0 (TT cl) 1 2 "send" 2 cO):bh P w K mg base (CX1 P w) 5 fa fd ["self","hand","value"] (sp3 (TT cl) K 3 g6):=by
 exact gJ (k:=4) F rb rfl rfl fun cdv A outer s H E hr=>have hu:=hr.units
  (by refine ay ?_;refine bX ?_ ?_;exact(aZ Fx2 (hr.mono (by decide)) bt (aa 0) (aj (aZ Fx29 (hr.mono (by decide)) (eJ bO bP) (aZ Fx1 (hr.mono (by decide)) (eJ bO bP) (aa 0) (aj (aa 1) av ao)) (aj (aa 2) av ao)) av cQ));exact aN)
theorem tw{fa:Addr}{fd:FuncData}(F:Fun K "read" "Hall.read" fF fa fd)(Z:Txt K mg cl)(Fx30:Mt3 P w K mg base (CX1 P w) (TT cl) 4 0 "begin_read" 1 eM)(Fx1:Mt3 P w K mg base (CX1 P w) (TT cl) 1 2 "hand_of" 2 bj)(Fx2:Mt3 P w K mg base CX0 (TT cl) 1 2 "send" 2 cO):bh P w K mg base (CX1 P w) 5 fa fd ["self","hand"] (sp3 (TT cl) K 2 iR):=by
 exact gJ (k:=4) F tO rfl rfl fun cdv A outer s H E hr=>have hu:=hr.units
  (by refine ay ?_;refine bX ?_ ?_;exact(aZ Fx2 (hr.mono (by decide)) bt (aa 0) (aj (fA Fx30 (hr.mono (by decide)) (eJ bO bP) (aZ Fx1 (hr.mono (by decide)) (eJ bO bP) (aa 0) (aj (aa 1) av ao))) av cQ));exact aN)
theorem qQ{fa:Addr}{fd:FuncData}(F:Fun K "again" "Hall.again" fu fa fd)(Z:Txt K mg cl)(Fx31:Mt3 P w K mg base (CX1 P w) (TT cl) 2 0 "send_again" 1 eK)(Fx1:Mt3 P w K mg base (CX1 P w) (TT cl) 1 2 "hand_of" 2 bj)(Fx2:Mt3 P w K mg base CX0 (TT cl) 1 2 "send" 2 cO):bh P w K mg base (CX1 P w) 3 fa fd ["self","hand"] (sp3 (TT cl) K 2 hI):=by
 exact gJ (k:=2) F lS rfl rfl fun cdv A outer s H E hr=>have hu:=hr.units
  (by refine ak ?_ ?_;refine bW (i:=2) ?_ ?_ ?_ ?_ ?_ ?_;exact lS.nd;exact rfl;exact Or.inl rfl;exact(fA Fx31 (hr.mono (by decide)) (eJ bO bP) (aZ Fx1 (hr.mono (by decide)) (eJ bO bP) (aa 0) (aj (aa 1) av ao)));exact aN;walk_at "sb";refine ak ?_ ?_;refine bX ?_ ?_;exact(aZ Fx2 (hr.mono (by decide)) bt (aa 0) (aj (aa 2) av ao));exact aN;refine ay ?_;refine y_ret ?_;exact(fC Z.iy (aj (aa 2) av ao)))
theorem qT{fa:Addr}{fd:FuncData}(F:Fun K "leave" "Hall.leave" fi fa fd)(Z:Txt K mg cl)(Fx32:Mt3 P w K mg base (CX1 P w) (TT cl) 2 0 "give_up" 1 fS)(Fx1:Mt3 P w K mg base (CX1 P w) (TT cl) 1 2 "hand_of" 2 bj):bh P w K mg base (CX1 P w) 3 fa fd ["self","hand"] (sp3 (TT cl) K 2 hG):=by
 exact gJ (k:=2) F qJ rfl rfl fun cdv A outer s H E hr=>have hu:=hr.units
  (by refine ay ?_;refine bX ?_ ?_;exact(fA Fx32 (hr.mono (by decide)) (eJ bO bP) (aZ Fx1 (hr.mono (by decide)) (eJ bO bP) (aa 0) (aj (aa 1) av ao)));exact aN)
theorem lE{fa:Addr}{fd:FuncData}(F:Fun K "stop_keeper" "Hall.stop_keeper" cm fa fd)(Z:Txt K mg cl)(Fx33:Mt3 P w K mg base CX0 (TT cl) 1 1 "stop" 1 gA)(Fx3:Mt3 P w K mg base (CX1 P w) (TT cl) 1 2 "keeper_of" 2 bG):bh P w K mg base (CX1 P w) 2 fa fd ["self","keeper"] (sp3 (TT cl) K 2 dZ):=by
 exact gJ (k:=1) F lz rfl rfl fun cdv A outer s H E hr=>have hu:=hr.units
  (by refine ay ?_;refine y_ret ?_;exact(fA Fx33 (hr.mono (by decide)) bt (aZ Fx3 (hr.mono (by decide)) (eJ bO bP) (aa 0) (aj (aa 1) av ao))))
theorem kY{fa:Addr}{fd:FuncData}(F:Fun K "wake_keeper" "Hall.wake_keeper" cq fa fd)(Z:Txt K mg cl)(Fx34:Mt3 P w K mg base CX0 (TT cl) 1 1 "wake" 1 gs)(Fx3:Mt3 P w K mg base (CX1 P w) (TT cl) 1 2 "keeper_of" 2 bG):bh P w K mg base (CX1 P w) 2 fa fd ["self","keeper"] (sp3 (TT cl) K 2 dY):=by
 exact gJ (k:=1) F lq rfl rfl fun cdv A outer s H E hr=>have hu:=hr.units
  (by refine ay ?_;refine y_ret ?_;exact(fA Fx34 (hr.mono (by decide)) bt (aZ Fx3 (hr.mono (by decide)) (eJ bO bP) (aa 0) (aj (aa 1) av ao))))
theorem jG{fa:Addr}{fd:FuncData}(F:Fun K "come_to_keeper" "Hall.come_to_keeper" bA fa fd)(Z:Txt K mg cl)(Fx35:Mt3 P w K mg base CX0 (TT cl) 2 1 "answer_to" 2 d0):bh P w K mg base CX0 3 fa fd ["self","letter"] (sp3 (TT cl) K 2 cW):=by
 exact cA (k:=2) F gb rfl rfl fun cdv A outer s H E hr=>have hu:=hr.units
  (by refine ak ?_ ?_;refine bW (i:=2) ?_ ?_ ?_ ?_ ?_ ?_;exact gb.nd;exact rfl;exact Or.inl rfl;exact(aZ Fx35 (hr.mono (by decide)) bt (by refine bx hu ?_ ?_;exact(aQ Z.kN (aa 0));refine bx hu ?_ ?_;exact(aa 1);exact aE) (aj (aa 1) av ao));exact aN;walk_at "sb";refine ay ?_;refine cZ ?_ ?_ ?_;exact(tN (aa 2));refine ay ?_;refine bX ?_ ?_;exact(jj (aQ Z.mI (aa 0)) (by refine fw ?_;refine aj ?_ ?_ ?_;exact iF;refine aj ?_ ?_ ?_;exact(aa 2);exact av;exact ao;exact aI));exact aN;exact bB)
theorem jY{fa:Addr}{fd:FuncData}(F:Fun K "come_to_hand" "Hall.come_to_hand" bT fa fd)(Z:Txt K mg cl)(Fx36:Mt3 P w K mg base CX0 (TT cl) 3 0 "hear" 2 iN)(Fx2:Mt3 P w K mg base CX0 (TT cl) 1 2 "send" 2 cO):bh P w K mg base CX0 4 fa fd ["self","answer"] (sp3 (TT cl) K 2 dG):=by
 exact cA (k:=3) F gF rfl rfl fun cdv A outer s H E hr=>have hu:=hr.units
  (by refine ak ?_ ?_;refine bW (i:=2) ?_ ?_ ?_ ?_ ?_ ?_;exact gF.nd;exact rfl;exact Or.inl rfl;exact(aZ Fx36 (hr.mono (by decide)) bt (by refine bx hu ?_ ?_;exact(aQ Z.nB (aa 0));refine bx hu ?_ ?_;exact(aa 1);exact aE) (aj (aa 1) av ao));exact aN;walk_at "sb";refine ak ?_ ?_;refine bX ?_ ?_;exact(aZ Fx2 (hr.mono (by decide)) bt (aa 0) (aj (by refine bx hu ?_ ?_;exact(aa 2);exact aE) av bb));exact aN;refine ak ?_ ?_;refine cZ ?_ ?_ ?_;exact(uD (by refine bx hu ?_ ?_;exact(aa 2);exact aE));refine ay ?_;refine y_ret ?_;refine fT ?_;exact av;exact bB;refine ay ?_;refine y_ret ?_;refine fT ?_;refine aj ?_ ?_ ?_;refine fw ?_;refine aj ?_ ?_ ?_;refine bx hu ?_ ?_;exact(aa 1);exact aE;refine aj ?_ ?_ ?_;refine bx hu ?_ ?_;exact(aa 2);exact aE;exact av;exact bb;exact bb;exact av;exact mH)
theorem s8{fa:Addr}{fd:FuncData}(F:Fun K "come" "Hall.come" fL fa fd)(Z:Txt K mg cl)(Fx37:Mt3 P w K mg base CX0 (TT cl) 3 2 "come_to_keeper" 2 cW)(Fx38:Mt3 P w K mg base CX0 (TT cl) 4 2 "come_to_hand" 2 dG):bh P w K mg base CX0 5 fa fd ["self","place","stays"] (sp3 (TT cl) K 3 dW):=by
 exact cA (k:=4) F nJ rfl rfl fun cdv A outer s H E hr=>have hu:=hr.units
  (by refine ak ?_ ?_;refine bW (i:=3) ?_ ?_ ?_ ?_ ?_ ?_;exact nJ.nd;exact rfl;exact Or.inl rfl;refine bx hu ?_ ?_;exact(aQ Z.mI (aa 0));exact(aa 1);exact mv;walk_at "sb";refine ak ?_ ?_;refine cZ ?_ ?_ ?_;exact(iT (iG (aa 2)));refine ay ?_;refine bX ?_ ?_;exact(BX (aQ Z.mI (aa 0)) (aa 1));exact aN;exact bB;refine ak ?_ ?_;refine cZ ?_ ?_ ?_;exact(iG (by refine bx hu ?_ ?_;exact(aa 3);exact aE));refine ay ?_;refine y_ret ?_;exact(aZ Fx38 (hr.mono (by decide)) bt (aa 0) (aj (by refine bx hu ?_ ?_;exact(aa 3);exact aE) av bb));exact bB;refine ak ?_ ?_;refine bX ?_ ?_;exact(aZ Fx37 (hr.mono (by decide)) bt (aa 0) (aj (by refine bx hu ?_ ?_;exact(aa 3);exact aE) av bb));exact aN;refine ay ?_;refine y_ret ?_;refine fT ?_;exact av)
theorem qH{fa:Addr}{fd:FuncData}(F:Fun K "carry" "Hall.carry" fv fa fd)(Z:Txt K mg cl)(Fx4:Mt3 P w K mg base CX0 (TT cl) 5 2 "come" 3 dW):bh P w K mg base (CX1 P w) 6 fa fd ["self","number","stays"] (sp3 (TT cl) K 3 g9):=by
 obtain⟨qE,ec_NoLetter,ex_NoLetter⟩:=Z.qE
 exact gJ (k:=5) F rz rfl rfl fun cdv A outer s H E hr=>have hu:=hr.units
  (by refine ak ?_ ?_;refine cZ ?_ ?_ ?_;exact(iT (iG (aQ Z.mI (aa 0))));refine ay ?_;exact(y_raise bO bP hr.hd ex_NoLetter ec_NoLetter (aj eN av aI));exact bB;refine ay ?_;refine y_ret ?_;exact(aZ Fx4 (hr.mono (by decide)) bt (aa 0) (aj (by refine dB dH ?_ ?_;exact(aa 1);exact(fC Z.iy (aj (aQ Z.mI (aa 0)) av bp))) (aj (aa 2) av ao) gL)))
theorem jQ{fa:Addr}{fd:FuncData}(F:Fun K "first_between" "Hall.first_between" bE fa fd)(Z:Txt K mg cl):bh P w K mg base CX0 1 fa fd ["self","hand","keeper"] (sp3 (TT cl) K 3 cz):=by
 exact cA (k:=0) F eG rfl rfl fun cdv A outer s H E hr=>have hu:=hr.units
  (by refine ak ?_ ?_;exact(sg PassesOwn.never rfl (Ds Z.vz (aQ Z.mI (aa 0))) (FI rfl (tj (i:=3) eG.nd rfl (Or.inl rfl) (tj (i:=4) eG.nd rfl (Or.inl rfl) CM))) (by refine ay ?_;refine cZ ?_ ?_ ?_;exact(dX (iU hu) (sY (by refine bx hu ?_ ?_;exact(aa 4);exact aE) wb (wW aE)) (by refine fw ?_;refine aj ?_ ?_ ?_;exact(aa 1);refine aj ?_ ?_ ?_;exact(aa 2);exact av;exact ao;exact ao) (bQ _));refine ay ?_;refine y_ret ?_;exact(aa 3);exact bB));refine ay ?_;refine y_ret ?_;exact iw)
theorem jT{fa:Addr}{fd:FuncData}(F:Fun K "carry_between" "Hall.carry_between" bF fa fd)(Z:Txt K mg cl)(Fx1:Mt3 P w K mg base (CX1 P w) (TT cl) 1 2 "hand_of" 2 bj)(Fx3:Mt3 P w K mg base (CX1 P w) (TT cl) 1 2 "keeper_of" 2 bG)(Fx4:Mt3 P w K mg base CX0 (TT cl) 5 2 "come" 3 dW)(Fx14:Mt3 P w K mg base CX0 (TT cl) 1 2 "first_between" 3 cz):bh P w K mg base (CX1 P w) 6 fa fd ["self","hand","keeper"] (sp3 (TT cl) K 3 dc):=by
 exact gJ (k:=5) F cV rfl rfl fun cdv A outer s H E hr=>have hu:=hr.units
  (by refine ak ?_ ?_;refine bX ?_ ?_;exact(aZ Fx1 (hr.mono (by decide)) (eJ bO bP) (aa 0) (aj (aa 1) av ao));exact aN;refine ak ?_ ?_;refine bX ?_ ?_;exact(aZ Fx3 (hr.mono (by decide)) (eJ bO bP) (aa 0) (aj (aa 2) av ao));exact aN;refine ak ?_ ?_;refine bW (i:=3) ?_ ?_ ?_ ?_ ?_ ?_;exact cV.nd;exact rfl;exact Or.inl rfl;refine fT ?_;exact av;exact pR;walk_at "sb";refine ak ?_ ?_;refine bW (i:=4) ?_ ?_ ?_ ?_ ?_ ?_;exact cV.nd;exact rfl;exact Or.inl rfl;exact(aZ Fx14 (hr.mono (by decide)) bt (aa 0) (aj (aa 1) (aj (aa 2) av ao) ao));exact aN;walk_at "sb";refine ak ?_ ?_;exact(xx As (tN (aa 4)) (by refine ak ?_ ?_;refine bX ?_ ?_;refine pU ?_ ?_ cQ;exact(aa 3);exact(aZ Fx4 (hr.mono (by decide)) bt (aa 0) (aj (aa 4) (aj iF av aI) ao));exact aN;refine ay ?_;refine bW (i:=4) ?_ ?_ ?_ ?_ ?_ ?_;exact cV.nd;exact rfl;exact Or.inl rfl;exact(aZ Fx14 (hr.mono (by decide)) bt (aa 0) (aj (aa 1) (aj (aa 2) av ao) ao));exact aN;walk_at "sb"));refine ay ?_;refine y_ret ?_;exact(aa 3))
theorem qV{fa:Addr}{fd:FuncData}(F:Fun K "sweep" "Hall.sweep" fk fa fd)(Z:Txt K mg cl)(Fx4:Mt3 P w K mg base CX0 (TT cl) 5 2 "come" 3 dW):bh P w K mg base CX0 6 fa fd ["self"] (sp3 (TT cl) K 1 g8):=by
 exact cA (k:=5) F lO rfl rfl fun cdv A outer s H E hr=>have hu:=hr.units
  (by refine ak ?_ ?_;refine bW (i:=1) ?_ ?_ ?_ ?_ ?_ ?_;exact lO.nd;exact rfl;exact Or.inl rfl;refine fT ?_;exact av;exact pR;walk_at "sb";refine ak ?_ ?_;exact(xx PassesOwn.never (iG (aQ Z.mI (aa 0))) (by refine ay ?_;refine bX ?_ ?_;refine pU ?_ ?_ cQ;exact(aa 1);exact(aZ Fx4 (hr.mono (by decide)) bt (aa 0) (aj aE (aj iF av aI) aI));exact aN));refine ay ?_;refine y_ret ?_;exact(aa 1))
theorem t7{fa:Addr}{fd:FuncData}(F:Fun K "__init__" "Work.__init__" fR fa fd)(Z:Txt K mg cl):bh P w K mg base CX0 1 fa fd ["self","hand","word","value","begun"] (sp3 (TT cl) K 5 iP):=by
 exact cA (k:=0) F sV rfl rfl fun cdv A outer s H E hr=>have hu:=hr.units
  (by refine ak ?_ ?_;exact(bV Z.z7 (aa 0) (aa 1));refine ak ?_ ?_;exact(bV Z.zK (aa 0) (aa 2));refine ak ?_ ?_;exact(bV Z.iX (aa 0) (aa 3));refine ak ?_ ?_;exact(bV Z.xc (aa 0) (aa 4));refine ak ?_ ?_;exact(bV Z.sW (aa 0) iw);refine ay ?_;exact(bV Z.xr (aa 0) iw))
theorem sC{fa:Addr}{fd:FuncData}(F:Fun K "told" "Work.told" fI fa fd)(Z:Txt K mg cl):bh P w K mg base CX0 1 fa fd ["self"] (sp3 (TT cl) K 1 vp):=by
 exact cA (k:=0) F tp rfl rfl fun cdv A outer s H E hr=>have hu:=hr.units
  (by refine ay ?_;refine y_ret ?_;refine fw ?_;refine aj ?_ ?_ ?_;exact(aQ Z.z7 (aa 0));refine aj ?_ ?_ ?_;exact(aQ Z.zK (aa 0));refine aj ?_ ?_ ?_;exact(aQ Z.iX (aa 0));refine aj ?_ ?_ ?_;exact(aQ Z.xc (aa 0));refine aj ?_ ?_ ?_;exact(aQ Z.sW (aa 0));exact av;exact bp;exact bp;exact bp;exact bp;exact bp)
theorem qM{fa:Addr}{fd:FuncData}(F:Fun K "__init__" "Story.__init__" ff fa fd)(Z:Txt K mg cl)(Fx39:Ct3 P w K mg base CX0 (TT cl) 3 "Hall" 2 3 gD):bh P w K mg base CX0 5 fa fd ["self","count","many"] (sp3 (TT cl) K 3 gZ):=by
 exact cA (k:=4) F qL rfl rfl fun cdv A outer s H E hr=>have hu:=hr.units
  (by refine ak ?_ ?_;exact(bV Z.ix (aa 0) (sO Fx39 (hr.mono (by decide)) bt (aj (aa 1) (aj (aa 2) av ao) ao)));refine ak ?_ ?_;exact(bV Z.nK (aa 0) (by refine fT ?_;exact av));refine ak ?_ ?_;exact(bV Z.fz (aa 0) sH);refine ay ?_;exact(bV Z.fX (aa 0) aE))
theorem mC{fa:Addr}{fd:FuncData}(F:Fun K "note_work" "Story.note_work" cB fa fd)(Z:Txt K mg cl)(Fx40:Ct3 P w K mg base CX0 (TT cl) 1 "Work" 3 5 iP):bh P w K mg base CX0 3 fa fd ["self","hand","word","value"] (sp3 (TT cl) K 4 dh):=by
 exact cA (k:=2) F iA rfl rfl fun cdv A outer s H E hr=>have hu:=hr.units
  (by refine ak ?_ ?_;refine bW (i:=4) ?_ ?_ ?_ ?_ ?_ ?_;exact iA.nd;exact rfl;exact Or.inl rfl;exact(fC Z.iy (aj (aQ Z.nK (aa 0)) av bp));exact aN;walk_at "sb";refine ak ?_ ?_;refine bX ?_ ?_;exact(jj (aQ Z.nK (aa 0)) (sO Fx40 (hr.mono (by decide)) bt (aj (aa 1) (aj (aa 2) (aj (aa 3) (aj (aQ Z.fX (aa 0)) av bp) ao) ao) ao)));exact aN;refine ak ?_ ?_;exact(C9 hu (aQ Z.fz (aa 0)) (aa 1) (aa 4));refine ay ?_;refine y_ret ?_;exact(aa 4))
theorem mM{fa:Addr}{fd:FuncData}(F:Fun K "note_end" "Story.note_end" cS fa fd)(Z:Txt K mg cl):bh P w K mg base CX0 1 fa fd ["self","hand","pair"] (sp3 (TT cl) K 3 fq):=by
 exact cA (k:=0) F fY rfl rfl fun cdv A outer s H E hr=>have hu:=hr.units
  (by refine ak ?_ ?_;refine bW (i:=3) ?_ ?_ ?_ ?_ ?_ ?_;exact fY.nd;exact rfl;exact Or.inl rfl;refine bx hu ?_ ?_;exact(aQ Z.fz (aa 0));exact(aa 1);exact mv;walk_at "sb";refine ak ?_ ?_;refine bW (i:=4) ?_ ?_ ?_ ?_ ?_ ?_;exact fY.nd;exact rfl;exact Or.inl rfl;refine bx hu ?_ ?_;exact(aQ Z.nK (aa 0));exact(aa 3);exact mv;walk_at "sb";refine ak ?_ ?_;exact(bV Z.iX (aa 4) (by refine bx hu ?_ ?_;exact(aa 2);exact aE));refine ak ?_ ?_;exact(bV Z.sW (aa 4) (aQ Z.fX (aa 0)));refine ay ?_;refine y_ret ?_;refine fw ?_;refine aj ?_ ?_ ?_;exact(aa 3);refine aj ?_ ?_ ?_;exact(aQ Z.iX (aa 4));exact av;exact bp;exact ao)
theorem mw{fa:Addr}{fd:FuncData}(F:Fun K "note_ends" "Story.note_ends" cD fa fd)(Z:Txt K mg cl)(Fx41:Mt3 P w K mg base CX0 (TT cl) 1 4 "note_end" 3 fq):bh P w K mg base CX0 2 fa fd ["self","ends"] (sp3 (TT cl) K 2 bR):=by
 exact cA (k:=1) F ml rfl rfl fun cdv A outer s H E hr=>have hu:=hr.units
  (by refine ay ?_;refine y_ret ?_;exact(ol (Blk.of (caps:=[("self",0)]) (cl:=[("self",s.heap.objs.size+1)]) rfl rfl rfl rfl rfl (by decide) rfl rfl rfl rfl rfl) rfl (yn (aa 1)) (fun _ _ _ _ _=>iO) (fun _ _ _ _ _=>(aZ Fx41 (hr.mono (by decide)) bt (aa 1) (aj (by refine bx hu ?_ ?_;exact(aa 0);exact aE) (aj (by refine bx hu ?_ ?_;exact(aa 0);exact aE) av bb) bb)))))
theorem rj{fa:Addr}{fd:FuncData}(F:Fun K "done" "Story.done" fj fa fd)(Z:Txt K mg cl)(Fx42:Mt3 P w K mg base (CX1 P w) (TT cl) 5 2 "write" 3 g6)(Fx43:Mt3 P w K mg base (CX1 P w) (TT cl) 5 2 "read" 2 iR)(Fx44:Mt3 P w K mg base (CX1 P w) (TT cl) 3 2 "again" 2 hI)(Fx45:Mt3 P w K mg base (CX1 P w) (TT cl) 3 2 "leave" 2 hG)(Fx46:Mt3 P w K mg base (CX1 P w) (TT cl) 2 2 "stop_keeper" 2 dZ)(Fx47:Mt3 P w K mg base (CX1 P w) (TT cl) 2 2 "wake_keeper" 2 dY)(Fx48:Mt3 P w K mg base (CX1 P w) (TT cl) 6 2 "carry" 3 g9)(Fx49:Mt3 P w K mg base (CX1 P w) (TT cl) 6 2 "carry_between" 3 dc)(Fx50:Mt3 P w K mg base CX0 (TT cl) 6 2 "sweep" 1 g8)(Fx15:Mt3 P w K mg base CX0 (TT cl) 3 4 "note_work" 4 dh)(Fx11:Mt3 P w K mg base CX0 (TT cl) 2 4 "note_ends" 2 bR):bh P w K mg base (CX1 P w) 7 fa fd ["self","deed"] (sp3 (TT cl) K 2 gX):=by
 exact gJ (k:=6) F jb rfl rfl fun cdv A outer s H E hr=>have hu:=hr.units
  (by refine ak ?_ ?_;refine bW (i:=2) ?_ ?_ ?_ ?_ ?_ ?_;exact jb.nd;exact rfl;exact Or.inl rfl;refine bx hu ?_ ?_;exact(aa 1);exact aE;exact mv;walk_at "sb";refine ak ?_ ?_;refine cZ ?_ ?_ ?_;exact(dX (iU hu) (aa 2) eN (bQ _));refine ak ?_ ?_;refine bX ?_ ?_;exact(aZ Fx42 (hr.mono (by decide)) (eJ bO bP) (aQ Z.ix (aa 0)) (aj (by refine bx hu ?_ ?_;exact(aa 1);exact aE) (aj (by refine bx hu ?_ ?_;exact(aa 1);exact aE) av bb) bb));exact aN;refine ay ?_;refine y_ret ?_;exact(aZ Fx15 (hr.mono (by decide)) bt (aa 0) (aj (by refine bx hu ?_ ?_;exact(aa 1);exact aE) (aj (aa 2) (aj (by refine bx hu ?_ ?_;exact(aa 1);exact aE) av bb) ao) bb));exact bB;refine ak ?_ ?_;refine cZ ?_ ?_ ?_;exact(dX (iU hu) (aa 2) eN (bQ _));refine ak ?_ ?_;refine bX ?_ ?_;exact(aZ Fx43 (hr.mono (by decide)) (eJ bO bP) (aQ Z.ix (aa 0)) (aj (by refine bx hu ?_ ?_;exact(aa 1);exact aE) av bb));exact aN;refine ay ?_;refine y_ret ?_;exact(aZ Fx15 (hr.mono (by decide)) bt (aa 0) (aj (by refine bx hu ?_ ?_;exact(aa 1);exact aE) (aj (aa 2) (aj iw av aI) ao) bb));exact bB;refine ak ?_ ?_;refine cZ ?_ ?_ ?_;exact(dX (iU hu) (aa 2) eN (bQ _));refine ak ?_ ?_;refine bW (i:=3) ?_ ?_ ?_ ?_ ?_ ?_;exact jb.nd;exact rfl;exact Or.inl rfl;exact(aZ Fx11 (hr.mono (by decide)) bt (aa 0) (aj (aZ Fx48 (hr.mono (by decide)) (eJ bO bP) (aQ Z.ix (aa 0)) (aj (by refine bx hu ?_ ?_;exact(aa 1);exact aE) (aj (by refine bx hu ?_ ?_;exact(aa 1);exact aE) av bb) bb)) av cQ));exact aN;walk_at "sb";refine ay ?_;refine y_ret ?_;exact(HE (iG (aa 3)) (by refine bx hu ?_ ?_;exact(aa 3);exact aE) iw);exact bB;refine ak ?_ ?_;refine cZ ?_ ?_ ?_;exact(dX (iU hu) (aa 2) eN (bQ _));refine ay ?_;refine y_ret ?_;exact(aZ Fx11 (hr.mono (by decide)) bt (aa 0) (aj (aZ Fx49 (hr.mono (by decide)) (eJ bO bP) (aQ Z.ix (aa 0)) (aj (by refine bx hu ?_ ?_;exact(aa 1);exact aE) (aj (by refine bx hu ?_ ?_;exact(aa 1);exact aE) av bb) bb)) av cQ));exact bB;refine ak ?_ ?_;refine cZ ?_ ?_ ?_;exact(dX (iU hu) (aa 2) eN (bQ _));refine ay ?_;refine y_ret ?_;exact(aZ Fx11 (hr.mono (by decide)) bt (aa 0) (aj (fA Fx50 (hr.mono (by decide)) bt (aQ Z.ix (aa 0))) av cQ));exact bB;refine ak ?_ ?_;refine cZ ?_ ?_ ?_;exact(dX (iU hu) (aa 2) eN (bQ _));refine ay ?_;refine y_ret ?_;exact(aZ Fx44 (hr.mono (by decide)) (eJ bO bP) (aQ Z.ix (aa 0)) (aj (by refine bx hu ?_ ?_;exact(aa 1);exact aE) av bb));exact bB;refine ak ?_ ?_;refine cZ ?_ ?_ ?_;exact(dX (iU hu) (aa 2) eN (bQ _));refine ak ?_ ?_;refine bX ?_ ?_;exact(aZ Fx45 (hr.mono (by decide)) (eJ bO bP) (aQ Z.ix (aa 0)) (aj (by refine bx hu ?_ ?_;exact(aa 1);exact aE) av bb));exact aN;refine ay ?_;refine y_ret ?_;refine bx hu ?_ ?_;exact(aQ Z.fz (aa 0));refine bx hu ?_ ?_;exact(aa 1);exact aE;exact bB;refine ak ?_ ?_;refine cZ ?_ ?_ ?_;exact(dX (iU hu) (aa 2) eN (bQ _));refine ay ?_;refine y_ret ?_;exact(aZ Fx46 (hr.mono (by decide)) (eJ bO bP) (aQ Z.ix (aa 0)) (aj (by refine bx hu ?_ ?_;exact(aa 1);exact aE) av bb));exact bB;refine ay ?_;refine y_ret ?_;exact(aZ Fx47 (hr.mono (by decide)) (eJ bO bP) (aQ Z.ix (aa 0)) (aj (by refine bx hu ?_ ?_;exact(aa 1);exact aE) av bb)))
theorem jc{fa:Addr}{fd:FuncData}(F:Fun K "done_or_refused" "Story.done_or_refused" bu fa fd)(Z:Txt K mg cl)(Fx51:Mt3 P w K mg base (CX1 P w) (TT cl) 7 4 "done" 2 gX):bh P w K mg base CX0 8 fa fd ["self","deed"] (sp3 (TT cl) K 2 cI):=by
 obtain⟨a_NoHand,em_NoHand,eh_NoHand⟩:=Z.zi
 obtain⟨a_NoKeeper,em_NoKeeper,eh_NoKeeper⟩:=Z.vM
 obtain⟨a_NoLetter,em_NoLetter,eh_NoLetter⟩:=Z.wJ
 obtain⟨a_Busy,em_Busy,eh_Busy⟩:=Z.D4
 obtain⟨a_Idle,em_Idle,eh_Idle⟩:=Z.EM
 exact cA (k:=7) F ja rfl rfl fun cdv A outer s H E hr=>have hu:=hr.units
  (by refine ay ?_;exact(AS xO (Bi xO Fx51 (hr.mono (by decide)) (fun _=>(aa 0)) (fun _=>(aj (aa 1) av ao))) (Hs.cons em_NoHand rfl (by decide) eh_NoHand (fun _=>(by refine ay ?_;refine y_ret ?_;exact eN)) (Hs.cons em_NoKeeper rfl (by decide) eh_NoKeeper (fun _=>(by refine ay ?_;refine y_ret ?_;exact eN)) (Hs.cons em_NoLetter rfl (by decide) eh_NoLetter (fun _=>(by refine ay ?_;refine y_ret ?_;exact eN)) (Hs.cons em_Busy rfl (by decide) eh_Busy (fun _=>(by refine ay ?_;refine y_ret ?_;exact eN)) (Hs.cons em_Idle rfl (by decide) eh_Idle (fun _=>(by refine ay ?_;refine y_ret ?_;exact eN)) Hs.nil)))))))
theorem j5{fa:Addr}{fd:FuncData}(F:Fun K "note_stamps" "Story.note_stamps" bS fa fd)(Z:Txt K mg cl):bh P w K mg base CX0 1 fa fd ["self"] (sp3 (TT cl) K 1 dI):=by
 exact cA (k:=0) F cy rfl rfl fun cdv A outer s H E hr=>have hu:=hr.units
  (by refine ay ?_;exact(Bx PassesOwn.never rfl (aQ Z.fz (aa 0)) (FI rfl (tj (i:=1) cy.nd rfl (Or.inl rfl) (tj (i:=2) cy.nd rfl (Or.inl rfl) CM))) (by refine ak ?_ ?_;refine bW (i:=3) ?_ ?_ ?_ ?_ ?_ ?_;exact cy.nd;exact rfl;exact Or.inl rfl;exact(aQ Z.jd (by refine bx hu ?_ ?_;exact(aQ Z.nB (aQ Z.ix (aa 0)));exact(aa 1)));exact xj;walk_at "sb";refine ay ?_;refine cZ ?_ ?_ ?_;exact(tN (aa 3));refine ak ?_ ?_;refine bW (i:=4) ?_ ?_ ?_ ?_ ?_ ?_;exact cy.nd;exact rfl;exact Or.inl rfl;refine bx hu ?_ ?_;exact(aQ Z.nK (aa 0));exact(aa 2);exact mv;walk_at "sb";refine ay ?_;exact(bV Z.xr (aa 4) (by refine bx hu ?_ ?_;exact(aa 3);exact aE));exact bB)))
theorem oT{fa:Addr}{fd:FuncData}(F:Fun K "answer" "Story.answer" dQ fa fd)(Z:Txt K mg cl)(Fx52:Mt3 P w K mg base CX0 (TT cl) 8 4 "done_or_refused" 2 cI)(Fx53:Mt3 P w K mg base CX0 (TT cl) 1 4 "note_stamps" 1 dI):bh P w K mg base CX0 9 fa fd ["self","deed"] (sp3 (TT cl) K 2 eX):=by
 exact cA (k:=8) F jL rfl rfl fun cdv A outer s H E hr=>have hu:=hr.units
  (by refine ak ?_ ?_;refine bW (i:=2) ?_ ?_ ?_ ?_ ?_ ?_;exact jL.nd;exact rfl;exact Or.inl rfl;exact(aZ Fx52 (hr.mono (by decide)) bt (aa 0) (aj (aa 1) av ao));exact aN;walk_at "sb";refine ak ?_ ?_;refine bX ?_ ?_;exact(fA Fx53 (hr.mono (by decide)) bt (aa 0));exact aN;refine ak ?_ ?_;exact(bV Z.fX (aa 0) (by refine dB fB ?_ ?_;exact(aQ Z.fX (aa 0));exact aE));refine ay ?_;refine y_ret ?_;exact(aa 2))
theorem vV{fa:Addr}{fd:FuncData}(F:Fun K "answers" "answers" hJ fa fd)(Z:Txt K mg cl)(Fx54:Ct3 P w K mg base CX0 (TT cl) 5 "Story" 4 3 gZ)(Fx55:Mt3 P w K mg base CX0 (TT cl) 9 4 "answer" 2 eX):bh P w K mg base CX0 10 fa fd ["count","many","deeds"] (sp3 (TT cl) K 3 kF):=by
 exact cA (k:=9) F qc rfl rfl fun cdv A outer s H E hr=>have hu:=hr.units
  (by refine ak ?_ ?_;refine bW (i:=3) ?_ ?_ ?_ ?_ ?_ ?_;exact qc.nd;exact rfl;exact Or.inr rfl;exact(sO Fx54 (hr.mono (by decide)) bt (aj (aa 0) (aj (aa 1) av ao) ao));exact aN;walk_at "sb";refine ay ?_;refine y_ret ?_;exact(ol (Blk.of (caps:=[("story",3)]) (cl:=[("story",s.heap.objs.size+1)]) rfl rfl rfl rfl rfl (by decide) rfl rfl rfl rfl rfl) rfl (yn (aa 2)) (fun _ _ _ _ _=>iO) (fun _ _ _ _ _=>(aZ Fx55 (hr.mono (by decide)) bt (aa 1) (aj (aa 0) av ao)))))
theorem CV{fa:Addr}{fd:FuncData}(F:Fun K "_law_so" "_law_so" yl fa fd)(hm:mg "_law_so"=some (.ref fa))(hb:Binds K fd ["_law_found","_law_meant"] [])(Z:Txt K mg cl):∀n,Fn3 P w K mg base CX0 (TT cl) (1+n) "_law_so" 2 (uu n)
 |0=>fn3 (k:=0) F Ab hm hb rfl rfl fun cdv A outer s H E hr=>Cp
 |n+1=>by
  have ih:=CV F hm hb Z n
  exact fn3 (k:=1+n) F Ab hm hb rfl rfl fun cdv A outer s H E hr=>have hu:=hr.units
  (by refine ak ?_ ?_;refine cZ ?_ ?_ ?_;exact(uD (aa 1));refine ay ?_;refine y_ret ?_;exact(Gw (aa 0));exact bB;refine ak ?_ ?_;refine cZ ?_ ?_ ?_;exact(iG (jP .bl Z.aS Z.tm (aa 1)));refine ay ?_;refine y_ret ?_;exact(rG (jP .bl Z.aS Z.tm (aa 0)) (vx (vE (iU hu) (aa 0) (aa 1) (bQ _))));exact bB;refine ak ?_ ?_;refine cZ ?_ ?_ ?_;exact(iG (jP .int Z.aS Z.xq (aa 1)));refine ay ?_;refine y_ret ?_;exact(rG (jP .int Z.aS Z.xq (aa 0)) (rG (AZ (jP .bl Z.aS Z.tm (aa 0))) (vx (vE (iU hu) (aa 0) (aa 1) (bQ _)))));exact bB;refine ak ?_ ?_;refine cZ ?_ ?_ ?_;exact(iG (jP .str Z.aS Z.De (aa 1)));refine ay ?_;refine y_ret ?_;exact(rG (jP .str Z.aS Z.De (aa 0)) (vx (vE (iU hu) (aa 0) (aa 1) (bQ _))));exact bB;refine ak ?_ ?_;refine cZ ?_ ?_ ?_;exact(iG (jP .dic Z.aS Z.z6 (aa 1)));refine ay ?_;refine y_ret ?_;exact(rG (jP .dic Z.aS Z.z6 (aa 0)) (vx (x_call ih (hr.mono (by omega)) bt (aj z8 (aj z8 av cQ) cQ))));exact bB;refine ak ?_ ?_;refine cZ ?_ ?_ ?_;exact(dX (qj hu) (jP .tup Z.aS Z.o6 (aa 1)) (jP .tup Z.aS Z.o6 (aa 0)) (bQ _));refine ay ?_;refine y_ret ?_;exact iF;exact bB;refine ak ?_ ?_;refine cZ ?_ ?_ ?_;exact(PW.pt (w_or (dX (qj hu) (jP .lst Z.aS Z.mB (aa 1)) (jP .lst Z.aS Z.mB (aa 0)) (bQ _)) (qx (iT (iG (EH .lst .tup Z.aS Z.mB Z.o6 (aa 1)))))));refine ay ?_;refine y_ret ?_;exact iF;exact bB;refine ak ?_ ?_;refine cZ ?_ ?_ ?_;exact(dX (qj hu) (fC Z.iy (aj (aa 0) av ao)) (fC Z.iy (aj (aa 1) av ao)) (bQ _));refine ay ?_;refine y_ret ?_;exact iF;exact bB;refine ak ?_ ?_;exact(sg PassesOwn.never rfl (mD Z.iM (fC Z.iy (aj (aa 1) av ao))) (AN (i:=2) Ab.nd rfl (Or.inl rfl)) (by refine ay ?_;refine cZ ?_ ?_ ?_;exact(iT (iG (x_call ih (hr.mono (by omega)) bt (aj (by refine bx hu ?_ ?_;exact(aa 0);exact(aa 2)) (aj (by refine bx hu ?_ ?_;exact(aa 1);exact(aa 2)) av bb) bb))));refine ay ?_;refine y_ret ?_;exact iF;exact bB));refine ay ?_;refine y_ret ?_;exact iF)
theorem zU{fa:Addr}{fd:FuncData}(F:Fun K "_law_whole" "_law_whole" kD fa fd)(Z:Txt K mg cl):bh P w K mg base CX0 1 fa fd ["_law_found"] (sp3 (TT cl) K 1 gW):=by
 exact cA (k:=0) F AX rfl rfl fun cdv A outer s H E hr=>have hu:=hr.units
  (by refine ay ?_;refine y_ret ?_;exact(rG (jP .int Z.aS Z.xq (aa 0)) (vx (AZ (jP .bl Z.aS Z.tm (aa 0))))))
theorem GF{fa:Addr}{fd:FuncData}(F:Fun K "_law_at" "_law_at" yC fa fd)(Z:Txt K mg cl):bh P w K mg base CX0 1 fa fd ["_law_script","_law_k"] (sp3 (TT cl) K 2 x3):=by
 exact cA (k:=0) F Gx rfl rfl fun cdv A outer s H E hr=>have hu:=hr.units
  (by refine ak ?_ ?_;refine cZ ?_ ?_ ?_;exact(dX (A7 hu) (aa 1) (fC Z.iy (aj (aa 0) av ao)) (bQ _));refine ay ?_;refine y_ret ?_;refine bx hu ?_ ?_;exact(aa 0);exact(aa 1);exact bB;refine ay ?_;refine y_ret ?_;exact aE)
theorem uK{fa:Addr}{fd:FuncData}(F:Fun K "_law_switched" "_law_switched" gm fa fd)(Z:Txt K mg cl):bh P w K mg base CX0 1 fa fd ["_law_cell","_law_count"] (sp3 (TT cl) K 2 ig):=by
 exact cA (k:=0) F fG rfl rfl fun cdv A outer s H E hr=>have hu:=hr.units
  (by refine ak ?_ ?_;refine bW (i:=2) ?_ ?_ ?_ ?_ ?_ ?_;exact fG.nd;exact rfl;exact Or.inr rfl;refine dB dH ?_ ?_;refine dB dH ?_ ?_;refine dB gz ?_ ?_;exact(aa 0);exact aE;exact aE;exact(aa 1);exact nN;walk_at "sb";refine ak ?_ ?_;refine bW (i:=3) ?_ ?_ ?_ ?_ ?_ ?_;exact fG.nd;exact rfl;exact Or.inl rfl;refine dB dH ?_ ?_;refine dB dH ?_ ?_;refine dB gz ?_ ?_;exact(aa 0);exact aE;exact aE;refine dB Bu ?_ ?_;refine dB fB ?_ ?_;exact(aa 1);exact aE;exact aE;exact nN;walk_at "sb";refine ak ?_ ?_;exact(nV (i:=4) (Blk.of (caps:=[("_law_count",1),("_law_first",2)]) (cl:=[("_law_first",s.heap.objs.size+2),("_law_count",s.heap.objs.size+1)]) rfl rfl rfl rfl rfl (by decide) rfl rfl rfl rfl rfl) rfl fG.nd rfl rfl (mD Z.iM (aa 3)) (fun _ _ _ _ _=>iO) (fun _ _ _ _ _=>(by refine dB dH ?_ ?_;refine dB fB ?_ ?_;exact(aa 2);exact(aa 0);exact(aa 1))));refine ak ?_ ?_;refine bW (i:=5) ?_ ?_ ?_ ?_ ?_ ?_;exact fG.nd;exact rfl;exact Or.inl rfl;refine fT ?_;exact av;exact pR;walk_at "sb";refine ak ?_ ?_;exact(sg PassesOwn.never rfl (mD Z.iM (aa 1)) (AN (i:=6) fG.nd rfl (Or.inl rfl)) (by refine ay ?_;refine bX ?_ ?_;exact(jj (aa 5) (by refine bx hu ?_ ?_;refine fT ?_;refine aj ?_ ?_ ?_;refine fw ?_;refine aj ?_ ?_ ?_;exact eN;refine aj ?_ ?_ ?_;exact(aa 6);exact av;exact ao;exact aI;refine aj ?_ ?_ ?_;refine fw ?_;refine aj ?_ ?_ ?_;exact eN;refine aj ?_ ?_ ?_;exact(aa 6);exact av;exact ao;exact aI;exact av;exact mH;exact mH;exact(Fh Z.xq (aj (vE (GS hu) (aa 6) (aa 4) rfl) av AW))));exact aN));refine ay ?_;refine y_ret ?_;exact(aa 5))
theorem DH{fa:Addr}{fd:FuncData}(F:Fun K "law" "law" m6 fa fd)(Z:Txt K mg cl)(Fx56:Fn3 P w K mg base CX0 (TT cl) 10 "answers" 3 kF)(Fx57:∀n,Fn3 P w K mg base CX0 (TT cl) (1+n) "_law_so" 2 (uu n))(Fx16:Fn3 P w K mg base CX0 (TT cl) 1 "_law_whole" 1 gW)(Fx17:Fn3 P w K mg base CX0 (TT cl) 1 "_law_at" 2 x3)(Fx58:Fn3 P w K mg base CX0 (TT cl) 1 "_law_switched" 2 ig):bh P w K mg base CX0 11 fa fd ["_law_script"] (sp3 (TT cl) K 1 pN):=by
 exact cA (k:=10) F fV rfl rfl fun cdv A outer s H E hr=>have hu:=hr.units
  (by refine ak ?_ ?_;refine bW (i:=1) ?_ ?_ ?_ ?_ ?_ ?_;exact fV.nd;exact rfl;exact Or.inl rfl;refine dB fB ?_ ?_;exact aE;refine dB dH ?_ ?_;refine dB dH ?_ ?_;refine dB gz ?_ ?_;exact(x_call Fx17 (hr.mono (by decide)) bt (aj (aa 0) (aj aE av aI) ao));exact aE;exact aE;exact aE;exact nN;walk_at "sb";refine ak ?_ ?_;refine bW (i:=2) ?_ ?_ ?_ ?_ ?_ ?_;exact fV.nd;exact rfl;exact Or.inl rfl;refine dB fB ?_ ?_;exact aE;refine dB dH ?_ ?_;refine dB dH ?_ ?_;refine dB gz ?_ ?_;exact(x_call Fx17 (hr.mono (by decide)) bt (aj (aa 0) (aj aE av aI) ao));exact aE;exact aE;exact aE;exact nN;walk_at "sb";refine ak ?_ ?_;refine bW (i:=3) ?_ ?_ ?_ ?_ ?_ ?_;exact fV.nd;exact rfl;exact Or.inl rfl;refine fT ?_;exact av;exact pR;walk_at "sb";refine ak ?_ ?_;refine bW (i:=4) ?_ ?_ ?_ ?_ ?_ ?_;exact fV.nd;exact rfl;exact Or.inl rfl;refine fT ?_;exact av;exact pR;walk_at "sb";refine ak ?_ ?_;refine bW (i:=5) ?_ ?_ ?_ ?_ ?_ ?_;exact fV.nd;exact rfl;exact Or.inl rfl;exact aE;exact zD;walk_at "sb";refine ak ?_ ?_;exact(sg PassesOwn.never rfl (Eg Z.iM aE (Fe rfl Z.Gu (aj aE (aj (fC Z.iy (aj (aa 0) av ao)) av cQ) aI))) (AN (i:=6) fV.nd rfl (Or.inl rfl)) (by refine ak ?_ ?_;refine bW (i:=7) ?_ ?_ ?_ ?_ ?_ ?_;exact fV.nd;exact rfl;exact Or.inl rfl;refine dB fB ?_ ?_;refine bx hu ?_ ?_;exact(aa 0);exact(aa 6);refine dB gz ?_ ?_;exact aE;exact(aa 6);exact nN;walk_at "sb";refine ak ?_ ?_;refine bW (i:=8) ?_ ?_ ?_ ?_ ?_ ?_;exact fV.nd;exact rfl;exact Or.inl rfl;exact(x_call Fx58 (hr.mono (by decide)) bt (aj (aa 7) (aj (aa 1) av ao) ao));exact aN;walk_at "sb";refine ak ?_ ?_;refine bX ?_ ?_;refine pU ?_ ?_ ao;exact(aa 3);exact(aa 8);exact aN;refine ak ?_ ?_;refine bX ?_ ?_;refine pU ?_ ?_ gL;exact(aa 4);refine dB gz ?_ ?_;refine fT ?_;refine aj ?_ ?_ ?_;exact iw;exact av;exact aI;exact(fC Z.iy (aj (aa 8) av ao));exact aN;refine ak ?_ ?_;refine bW (i:=9) ?_ ?_ ?_ ?_ ?_ ?_;exact fV.nd;exact rfl;exact Or.inl rfl;refine dB dH ?_ ?_;refine dB dH ?_ ?_;refine dB gz ?_ ?_;exact(aa 7);exact aE;exact aE;exact(aa 2);exact nN;walk_at "sb";refine ak ?_ ?_;refine cZ ?_ ?_ ?_;exact(dX (iU hu) (by refine dB dH ?_ ?_;refine dB dH ?_ ?_;refine dB gz ?_ ?_;exact(aa 7);exact aE;exact aE;exact aE) aE (bQ _));refine ak ?_ ?_;refine bW (i:=5) ?_ ?_ ?_ ?_ ?_ ?_;exact fV.nd;exact rfl;exact Or.inl rfl;refine bx hu ?_ ?_;refine fT ?_;refine aj ?_ ?_ ?_;exact(aa 6);refine aj ?_ ?_ ?_;refine dB sv ?_ ?_;exact aE;exact(aa 6);refine aj ?_ ?_ ?_;exact aE;refine aj ?_ ?_ ?_;refine dB fB ?_ ?_;exact aE;exact(aa 6);exact av;exact gL;exact aI;exact gL;exact ao;refine dB dH ?_ ?_;refine dB dH ?_ ?_;refine dB gz ?_ ?_;exact(aa 7);exact aE;exact aE;exact aE;exact mv;walk_at "sb";refine ay ?_;refine bX ?_ ?_;exact(jj (aa 3) (by refine fw ?_;refine aj ?_ ?_ ?_;exact eN;refine aj ?_ ?_ ?_;exact(aa 9);refine aj ?_ ?_ ?_;exact(aa 5);exact av;exact ao;exact ao;exact aI));exact aN;refine ay ?_;refine bX ?_ ?_;exact(jj (aa 3) (by refine fw ?_;refine aj ?_ ?_ ?_;exact eN;refine aj ?_ ?_ ?_;exact(aa 9);exact av;exact ao;exact aI));exact aN;refine ak ?_ ?_;refine bX ?_ ?_;exact(jj (aa 3) (by refine fw ?_;refine aj ?_ ?_ ?_;exact eN;exact av;exact aI));exact aN;refine ay ?_;refine bX ?_ ?_;refine pU ?_ ?_ ki;exact(aa 4);refine fT ?_;refine aj ?_ ?_ ?_;refine dB sv ?_ ?_;exact(aa 6);exact aE;refine aj ?_ ?_ ?_;refine fw ?_;refine aj ?_ ?_ ?_;refine dB sv ?_ ?_;exact(aa 6);exact aE;refine aj ?_ ?_ ?_;exact(aa 5);exact av;exact ao;exact gL;exact av;exact mH;exact gL;exact aN));refine ak ?_ ?_;refine bW (i:=10) ?_ ?_ ?_ ?_ ?_ ?_;exact fV.nd;exact rfl;exact Or.inl rfl;exact(B4 Z.mB (aj (aa 3) av ao));exact aN;walk_at "sb";refine ak ?_ ?_;refine bW (i:=11) ?_ ?_ ?_ ?_ ?_ ?_;exact fV.nd;exact rfl;exact Or.inl rfl;exact(x_call Fx56 (hr.mono (by decide)) bt (aj (aa 1) (aj (aa 2) (aj (aa 10) av ao) ao) ao));exact aN;walk_at "sb";refine ak ?_ ?_;refine cZ ?_ ?_ ?_;exact(PW.pt (w_or (iT (iG (jP .lst Z.aS Z.mB (aa 11)))) (w_or (dX (qj hu) (fC Z.iy (aj (aa 11) av ao)) (fC Z.iy (aj (aa 3) av ao)) (bQ _)) (qx (dX (qj hu) (aa 10) (aa 3) (bQ _))))));refine ay ?_;refine y_ret ?_;exact iF;exact bB;refine ak ?_ ?_;exact(sg PassesOwn.never rfl (mD Z.iM (fC Z.iy (aj (aa 3) av ao))) (AN (i:=6) fV.nd rfl (Or.inl rfl)) (by refine ay ?_;refine cZ ?_ ?_ ?_;exact(dX (iU hu) (by refine bx hu ?_ ?_;exact(aa 3);exact(aa 6)) (by refine fw ?_;refine aj ?_ ?_ ?_;exact eN;exact av;exact aI) (bQ _));refine ak ?_ ?_;refine cZ ?_ ?_ ?_;exact(PW.pt (w_or (iT (iG (jP .lst Z.aS Z.mB (by refine bx hu ?_ ?_;exact(aa 11);exact(aa 6))))) (qx (iT (iG (x_call (Fx57 9) (hr.mono (by decide)) bt (aj (by refine bx hu ?_ ?_;exact(aa 11);exact(aa 6)) (aj (by refine fT ?_;refine aj ?_ ?_ ?_;refine bx hu ?_ ?_;exact(aa 4);exact(aa 6);exact av;exact bb) av ki) bb)))))));refine ay ?_;refine y_ret ?_;exact iF;exact bB;refine ak ?_ ?_;refine cZ ?_ ?_ ?_;exact(iT (iG (jP .tup Z.aS Z.o6 (by refine bx hu ?_ ?_;refine bx hu ?_ ?_;exact(aa 11);exact(aa 6);exact aE))));refine ay ?_;refine y_ret ?_;exact iF;exact bB;refine ay ?_;refine cZ ?_ ?_ ?_;exact(iT (iG (x_call Fx16 (hr.mono (by decide)) bt (aj (by refine bx hu ?_ ?_;refine bx hu ?_ ?_;refine bx hu ?_ ?_;exact(aa 11);exact(aa 6);exact aE;exact aE) av bb))));refine ay ?_;refine y_ret ?_;exact iF;exact bB;refine ay ?_;refine cZ ?_ ?_ ?_;exact(tN (by refine bx hu ?_ ?_;exact(aa 4);exact(aa 6)));refine ay ?_;refine cZ ?_ ?_ ?_;exact(PW.pt (w_or (iT (iG (x_call Fx16 (hr.mono (by decide)) bt (aj (by refine bx hu ?_ ?_;exact(aa 11);exact(aa 6)) av bb)))) (qx (dX (qj hu) (by refine bx hu ?_ ?_;exact(aa 11);exact(aa 6)) (by refine bx hu ?_ ?_;exact(aa 4);exact(aa 6)) (bQ _)))));refine ay ?_;refine y_ret ?_;exact iF;exact bB;exact bB));refine ay ?_;refine y_ret ?_;exact iF)
end
theorem all_mk{l:PySem.W.OpenLaw}{w:World}{K:PySem.W.Frag}{h:Heap}{mg:Str->Option Value}{fa C0 C1 C2 C3 C4 X0 X1 X2 X3 X4 X5 f0 f1 f2 f3 f4 f5 f6 f7 f8 f9 f10 f11 f12 f13 f14 f15 f16 f17 f18 f19 f20 f21 f22 f23 f24 f25 f26 f27 f28 f29 f30 f31 f32 f33 f34 f35 f36 f37 f38 f39 f40 f41 f42 f43 f44 f45 f46 f47 f48 f49 f50 f51 x_BEGINNING_1 x_BEGINNING:Addr}{od0 an0 od1 an1 od2 an2 od3 an3 od4 an4 od5 an5 od6 an6 od7 an7 od8 an8 od9 an9 od10 an10 od11 an11 od12 an12 od13 an13 od14 an14 od15 an15 od16 an16 od17 an17 od18 an18 od19 an19 od20 an20 od21 an21 od22 an22 od23 an23 od24 an24 od25 an25 od26 an26 od27 an27 od28 an28 od29 an29 od30 an30 od31 an31 od32 an32 od33 an33 od34 an34 od35 an35 od36 an36 od37 an37 od38 an38 od39 an39 od40 an40 od41 an41 od42 an42 od43 an43 od44 an44 od45 an45 od46 an46 od47 an47 od48 an48 od49 an49 od50 an50 od51 an51 od_BEGINNING_1 od_BEGINNING:Option Addr}{sl0 sl1 sl2 sl3 sl4 sl5 sl6 sl7 sl8 sl9 sl10 sl11 sl12 sl13 sl14 sl15 sl16 sl17 sl18 sl19 sl20 sl21 sl22 sl23 sl24 sl25 sl26 sl27 sl28 sl29 sl30 sl31 sl32 sl33 sl34 sl35 sl36 sl37 sl38 sl39 sl40 sl41 sl42 sl43 sl44 sl45 sl46 sl47 sl48 sl49 sl50 sl51 sl_BEGINNING_1 sl_BEGINNING:Array (Option Value)}{oc0 kV0 dc0 pm0 cd0 ct0 oc1 kV1 dc1 pm1 cd1 ct1 oc2 kV2 dc2 pm2 cd2 ct2 oc3 kV3 dc3 pm3 cd3 ct3 oc4 kV4 dc4 pm4 cd4 ct4 oc5 kV5 dc5 pm5 cd5 ct5 oc6 kV6 dc6 pm6 cd6 ct6 oc7 kV7 dc7 pm7 cd7 ct7 oc8 kV8 dc8 pm8 cd8 ct8 oc9 kV9 dc9 pm9 cd9 ct9 oc10 kV10 dc10 pm10 cd10 ct10 oc11 kV11 dc11 pm11 cd11 ct11 oc12 kV12 dc12 pm12 cd12 ct12 oc13 kV13 dc13 pm13 cd13 ct13 oc14 kV14 dc14 pm14 cd14 ct14 oc15 kV15 dc15 pm15 cd15 ct15 oc16 kV16 dc16 pm16 cd16 ct16 oc17 kV17 dc17 pm17 cd17 ct17 oc18 kV18 dc18 pm18 cd18 ct18 oc19 kV19 dc19 pm19 cd19 ct19 oc20 kV20 dc20 pm20 cd20 ct20 oc21 kV21 dc21 pm21 cd21 ct21 oc22 kV22 dc22 pm22 cd22 ct22 oc23 kV23 dc23 pm23 cd23 ct23 oc24 kV24 dc24 pm24 cd24 ct24 oc25 kV25 dc25 pm25 cd25 ct25 oc26 kV26 dc26 pm26 cd26 ct26 oc27 kV27 dc27 pm27 cd27 ct27 oc28 kV28 dc28 pm28 cd28 ct28 oc29 kV29 dc29 pm29 cd29 ct29 oc30 kV30 dc30 pm30 cd30 ct30 oc31 kV31 dc31 pm31 cd31 ct31 oc32 kV32 dc32 pm32 cd32 ct32 oc33 kV33 dc33 pm33 cd33 ct33 oc34 kV34 dc34 pm34 cd34 ct34 oc35 kV35 dc35 pm35 cd35 ct35 oc36 kV36 dc36 pm36 cd36 ct36 oc37 kV37 dc37 pm37 cd37 ct37 oc38 kV38 dc38 pm38 cd38 ct38 oc39 kV39 dc39 pm39 cd39 ct39 oc40 kV40 dc40 pm40 cd40 ct40 oc41 kV41 dc41 pm41 cd41 ct41 oc42 kV42 dc42 pm42 cd42 ct42 oc43 kV43 dc43 pm43 cd43 ct43 oc44 kV44 dc44 pm44 cd44 ct44 oc45 kV45 dc45 pm45 cd45 ct45 oc46 kV46 dc46 pm46 cd46 ct46 oc47 kV47 dc47 pm47 cd47 ct47 oc48 kV48 dc48 pm48 cd48 ct48 oc49 kV49 dc49 pm49 cd49 ct49 oc50 kV50 dc50 pm50 cd50 ct50 oc51 kV51 dc51 pm51 cd51 ct51:Value}{t_BEGINNING_2 t_BEGINNING_3 t_BEGINNING_4:Tok}{n_BEGINNING_1 n_BEGINNING:Nat}(X:K.In h)(G:h.Ns mainGlobals mg)(hfa:mg "law"=some (.ref fa))
 (g_BEGINNING:PySem.W.nsIn K mainGlobals "BEGINNING"=some (some (.ref x_BEGINNING)))
 (aC0:PySem.W.nsIn K mainGlobals "Hand"=some (some (.ref C0))) (pg0:PySem.W.plainGet K C0 Str.empty=true) (hd0:PySem.W.hasDictIn K C0=true) (po0:PySem.W.plainOver K C0=true) (sa0:PySem.W.findIn K (.ref C0) "__setattr__"=some (some (.builtin "object.__setattr__"))) (mk0:PySem.W.makesIn K C0=true) (kc0:PySem.W.keepIn K (.ref C0)=true)
 (na0:(nmL.all fun x=>PySem.W.findIn K (.ref C0) x==some none)=true)
 (aC1:PySem.W.nsIn K mainGlobals "Keeper"=some (some (.ref C1))) (pg1:PySem.W.plainGet K C1 Str.empty=true) (hd1:PySem.W.hasDictIn K C1=true) (po1:PySem.W.plainOver K C1=true) (sa1:PySem.W.findIn K (.ref C1) "__setattr__"=some (some (.builtin "object.__setattr__"))) (mk1:PySem.W.makesIn K C1=true) (kc1:PySem.W.keepIn K (.ref C1)=true)
 (na1:(nmL.all fun x=>PySem.W.findIn K (.ref C1) x==some none)=true)
 (aC2:PySem.W.nsIn K mainGlobals "Hall"=some (some (.ref C2))) (pg2:PySem.W.plainGet K C2 Str.empty=true) (hd2:PySem.W.hasDictIn K C2=true) (po2:PySem.W.plainOver K C2=true) (sa2:PySem.W.findIn K (.ref C2) "__setattr__"=some (some (.builtin "object.__setattr__"))) (mk2:PySem.W.makesIn K C2=true) (kc2:PySem.W.keepIn K (.ref C2)=true)
 (na2:(nmL.all fun x=>PySem.W.findIn K (.ref C2) x==some none)=true)
 (aC3:PySem.W.nsIn K mainGlobals "Work"=some (some (.ref C3))) (pg3:PySem.W.plainGet K C3 Str.empty=true) (hd3:PySem.W.hasDictIn K C3=true) (po3:PySem.W.plainOver K C3=true) (sa3:PySem.W.findIn K (.ref C3) "__setattr__"=some (some (.builtin "object.__setattr__"))) (mk3:PySem.W.makesIn K C3=true) (kc3:PySem.W.keepIn K (.ref C3)=true)
 (na3:(nmL.all fun x=>PySem.W.findIn K (.ref C3) x==some none)=true)
 (aC4:PySem.W.nsIn K mainGlobals "Story"=some (some (.ref C4))) (pg4:PySem.W.plainGet K C4 Str.empty=true) (hd4:PySem.W.hasDictIn K C4=true) (po4:PySem.W.plainOver K C4=true) (sa4:PySem.W.findIn K (.ref C4) "__setattr__"=some (some (.builtin "object.__setattr__"))) (mk4:PySem.W.makesIn K C4=true) (kc4:PySem.W.keepIn K (.ref C4)=true)
 (na4:(nmL.all fun x=>PySem.W.findIn K (.ref C4) x==some none)=true)
 (aX0:PySem.W.nsIn K mainGlobals "HalfError"=some (some (.ref X0))) (ei0:PySem.W.excIn K X0 veM "ValueError.__new__"=true)
 (aX1:PySem.W.nsIn K mainGlobals "NoHand"=some (some (.ref X1))) (ei1:PySem.W.excIn K X1 veM "ValueError.__new__"=true)
 (aX2:PySem.W.nsIn K mainGlobals "NoKeeper"=some (some (.ref X2))) (ei2:PySem.W.excIn K X2 veM "ValueError.__new__"=true)
 (aX3:PySem.W.nsIn K mainGlobals "NoLetter"=some (some (.ref X3))) (ei3:PySem.W.excIn K X3 veM "ValueError.__new__"=true)
 (aX4:PySem.W.nsIn K mainGlobals "Busy"=some (some (.ref X4))) (ei4:PySem.W.excIn K X4 veM "ValueError.__new__"=true)
 (aX5:PySem.W.nsIn K mainGlobals "Idle"=some (some (.ref X5))) (ei5:PySem.W.excIn K X5 veM "ValueError.__new__"=true)
 (em1:((clP [C0,C1,C2,C3,C4] [X0,X1,X2,X3,X4,X5]).all fun p=>PySem.W.exmOne K (.ref p.1) (.ref X1)==some (decide (p.2=1001)))=true)
 (em2:((clP [C0,C1,C2,C3,C4] [X0,X1,X2,X3,X4,X5]).all fun p=>PySem.W.exmOne K (.ref p.1) (.ref X2)==some (decide (p.2=1002)))=true)
 (em3:((clP [C0,C1,C2,C3,C4] [X0,X1,X2,X3,X4,X5]).all fun p=>PySem.W.exmOne K (.ref p.1) (.ref X3)==some (decide (p.2=1003)))=true)
 (em4:((clP [C0,C1,C2,C3,C4] [X0,X1,X2,X3,X4,X5]).all fun p=>PySem.W.exmOne K (.ref p.1) (.ref X4)==some (decide (p.2=1004)))=true)
 (em5:((clP [C0,C1,C2,C3,C4] [X0,X1,X2,X3,X4,X5]).all fun p=>PySem.W.exmOne K (.ref p.1) (.ref X5)==some (decide (p.2=1005)))=true)
 (a0:PySem.W.nsIn K mainGlobals "is_more"=some (some (.ref f0))) (l0:K.lookup f0=some ⟨oc0,od0,.func (PySem.W.fnOf "is_more" "is_more" (aD hW) (aA hW) (af hW) .none kV0 dc0 pm0 an0 cd0 ct0),sl0⟩) (c0:PySem.W.codeIn K cd0 "is_more"=true) (k0:PySem.W.keepIn K (.ref f0)=true)
 (a1:PySem.W.nsIn K mainGlobals "newest"=some (some (.ref f1))) (l1:K.lookup f1=some ⟨oc1,od1,.func (PySem.W.fnOf "newest" "newest" (aD jm) (aA jm) (af jm) .none kV1 dc1 pm1 an1 cd1 ct1),sl1⟩) (c1:PySem.W.codeIn K cd1 "newest"=true) (k1:PySem.W.keepIn K (.ref f1)=true)
 (a2:PySem.W.nsIn K mainGlobals "stamp_after"=some (some (.ref f2))) (l2:K.lookup f2=some ⟨oc2,od2,.func (PySem.W.fnOf "stamp_after" "stamp_after" (aD el) (aA el) (af el) .none kV2 dc2 pm2 an2 cd2 ct2),sl2⟩) (c2:PySem.W.codeIn K cd2 "stamp_after"=true) (k2:PySem.W.keepIn K (.ref f2)=true)
 (a3:PySem.W.findIn K (.ref C0) "__init__"=some (some (.ref f3))) (l3:K.lookup f3=some ⟨oc3,od3,.func (PySem.W.fnOf "__init__" "Hand.__init__" (aD fQ) (aA fQ) (af fQ) .none kV3 dc3 pm3 an3 cd3 ct3),sl3⟩) (c3:PySem.W.codeIn K cd3 "Hand.__init__"=true) (k3:PySem.W.keepIn K (.ref f3)=true)
 (i3:PySem.W.isFn K (.ref f3)=true)
 (a4:PySem.W.findIn K (.ref C0) "letters"=some (some (.ref f4))) (l4:K.lookup f4=some ⟨oc4,od4,.func (PySem.W.fnOf "letters" "Hand.letters" (aD dN) (aA dN) (af dN) .none kV4 dc4 pm4 an4 cd4 ct4),sl4⟩) (c4:PySem.W.codeIn K cd4 "Hand.letters"=true) (k4:PySem.W.keepIn K (.ref f4)=true)
 (i4:PySem.W.isFn K (.ref f4)=true)
 (a5:PySem.W.findIn K (.ref C0) "begin_round"=some (some (.ref f5))) (l5:K.lookup f5=some ⟨oc5,od5,.func (PySem.W.fnOf "begin_round" "Hand.begin_round" (aD cx) (aA cx) (af cx) .none kV5 dc5 pm5 an5 cd5 ct5),sl5⟩) (c5:PySem.W.codeIn K cd5 "Hand.begin_round"=true) (k5:PySem.W.keepIn K (.ref f5)=true)
 (i5:PySem.W.isFn K (.ref f5)=true)
 (a6:PySem.W.findIn K (.ref C0) "begin"=some (some (.ref f6))) (l6:K.lookup f6=some ⟨oc6,od6,.func (PySem.W.fnOf "begin" "Hand.begin" (aD fm) (aA fm) (af fm) .none kV6 dc6 pm6 an6 cd6 ct6),sl6⟩) (c6:PySem.W.codeIn K cd6 "Hand.begin"=true) (k6:PySem.W.keepIn K (.ref f6)=true)
 (i6:PySem.W.isFn K (.ref f6)=true)
 (a7:PySem.W.findIn K (.ref C0) "begin_write"=some (some (.ref f7))) (l7:K.lookup f7=some ⟨oc7,od7,.func (PySem.W.fnOf "begin_write" "Hand.begin_write" (aD cb) (aA cb) (af cb) .none kV7 dc7 pm7 an7 cd7 ct7),sl7⟩) (c7:PySem.W.codeIn K cd7 "Hand.begin_write"=true) (k7:PySem.W.keepIn K (.ref f7)=true)
 (i7:PySem.W.isFn K (.ref f7)=true)
 (a8:PySem.W.findIn K (.ref C0) "begin_read"=some (some (.ref f8))) (l8:K.lookup f8=some ⟨oc8,od8,.func (PySem.W.fnOf "begin_read" "Hand.begin_read" (aD cG) (aA cG) (af cG) .none kV8 dc8 pm8 an8 cd8 ct8),sl8⟩) (c8:PySem.W.codeIn K cd8 "Hand.begin_read"=true) (k8:PySem.W.keepIn K (.ref f8)=true)
 (i8:PySem.W.isFn K (.ref f8)=true)
 (a9:PySem.W.findIn K (.ref C0) "refuse_idle"=some (some (.ref f9))) (l9:K.lookup f9=some ⟨oc9,od9,.func (PySem.W.fnOf "refuse_idle" "Hand.refuse_idle" (aD cg) (aA cg) (af cg) .none kV9 dc9 pm9 an9 cd9 ct9),sl9⟩) (c9:PySem.W.codeIn K cd9 "Hand.refuse_idle"=true) (k9:PySem.W.keepIn K (.ref f9)=true)
 (i9:PySem.W.isFn K (.ref f9)=true)
 (a10:PySem.W.findIn K (.ref C0) "send_again"=some (some (.ref f10))) (l10:K.lookup f10=some ⟨oc10,od10,.func (PySem.W.fnOf "send_again" "Hand.send_again" (aD cJ) (aA cJ) (af cJ) .none kV10 dc10 pm10 an10 cd10 ct10),sl10⟩) (c10:PySem.W.codeIn K cd10 "Hand.send_again"=true) (k10:PySem.W.keepIn K (.ref f10)=true)
 (i10:PySem.W.isFn K (.ref f10)=true)
 (a11:PySem.W.findIn K (.ref C0) "give_up"=some (some (.ref f11))) (l11:K.lookup f11=some ⟨oc11,od11,.func (PySem.W.fnOf "give_up" "Hand.give_up" (aD dM) (aA dM) (af dM) .none kV11 dc11 pm11 an11 cd11 ct11),sl11⟩) (c11:PySem.W.codeIn K cd11 "Hand.give_up"=true) (k11:PySem.W.keepIn K (.ref f11)=true)
 (i11:PySem.W.isFn K (.ref f11)=true)
 (a12:PySem.W.findIn K (.ref C0) "chosen"=some (some (.ref f12))) (l12:K.lookup f12=some ⟨oc12,od12,.func (PySem.W.fnOf "chosen" "Hand.chosen" (aD eE) (aA eE) (af eE) .none kV12 dc12 pm12 an12 cd12 ct12),sl12⟩) (c12:PySem.W.codeIn K cd12 "Hand.chosen"=true) (k12:PySem.W.keepIn K (.ref f12)=true)
 (i12:PySem.W.isFn K (.ref f12)=true)
 (a13:PySem.W.findIn K (.ref C0) "hear"=some (some (.ref f13))) (l13:K.lookup f13=some ⟨oc13,od13,.func (PySem.W.fnOf "hear" "Hand.hear" (aD fJ) (aA fJ) (af fJ) .none kV13 dc13 pm13 an13 cd13 ct13),sl13⟩) (c13:PySem.W.codeIn K cd13 "Hand.hear"=true) (k13:PySem.W.keepIn K (.ref f13)=true)
 (i13:PySem.W.isFn K (.ref f13)=true)
 (a14:PySem.W.findIn K (.ref C1) "__init__"=some (some (.ref f14))) (l14:K.lookup f14=some ⟨oc14,od14,.func (PySem.W.fnOf "__init__" "Keeper.__init__" (aD eF) (aA eF) (af eF) .none kV14 dc14 pm14 an14 cd14 ct14),sl14⟩) (c14:PySem.W.codeIn K cd14 "Keeper.__init__"=true) (k14:PySem.W.keepIn K (.ref f14)=true)
 (i14:PySem.W.isFn K (.ref f14)=true)
 (a15:PySem.W.findIn K (.ref C1) "stop"=some (some (.ref f15))) (l15:K.lookup f15=some ⟨oc15,od15,.func (PySem.W.fnOf "stop" "Keeper.stop" (aD eB) (aA eB) (af eB) .none kV15 dc15 pm15 an15 cd15 ct15),sl15⟩) (c15:PySem.W.codeIn K cd15 "Keeper.stop"=true) (k15:PySem.W.keepIn K (.ref f15)=true)
 (i15:PySem.W.isFn K (.ref f15)=true)
 (a16:PySem.W.findIn K (.ref C1) "wake"=some (some (.ref f16))) (l16:K.lookup f16=some ⟨oc16,od16,.func (PySem.W.fnOf "wake" "Keeper.wake" (aD eA) (aA eA) (af eA) .none kV16 dc16 pm16 an16 cd16 ct16),sl16⟩) (c16:PySem.W.codeIn K cd16 "Keeper.wake"=true) (k16:PySem.W.keepIn K (.ref f16)=true)
 (i16:PySem.W.isFn K (.ref f16)=true)
 (a17:PySem.W.findIn K (.ref C1) "keep"=some (some (.ref f17))) (l17:K.lookup f17=some ⟨oc17,od17,.func (PySem.W.fnOf "keep" "Keeper.keep" (aD eD) (aA eD) (af eD) .none kV17 dc17 pm17 an17 cd17 ct17),sl17⟩) (c17:PySem.W.codeIn K cd17 "Keeper.keep"=true) (k17:PySem.W.keepIn K (.ref f17)=true)
 (i17:PySem.W.isFn K (.ref f17)=true)
 (a18:PySem.W.findIn K (.ref C1) "answer_to"=some (some (.ref f18))) (l18:K.lookup f18=some ⟨oc18,od18,.func (PySem.W.fnOf "answer_to" "Keeper.answer_to" (aD cj) (aA cj) (af cj) .none kV18 dc18 pm18 an18 cd18 ct18),sl18⟩) (c18:PySem.W.codeIn K cd18 "Keeper.answer_to"=true) (k18:PySem.W.keepIn K (.ref f18)=true)
 (i18:PySem.W.isFn K (.ref f18)=true)
 (a19:PySem.W.findIn K (.ref C2) "__init__"=some (some (.ref f19))) (l19:K.lookup f19=some ⟨oc19,od19,.func (PySem.W.fnOf "__init__" "Hall.__init__" (aD fM) (aA fM) (af fM) .none kV19 dc19 pm19 an19 cd19 ct19),sl19⟩) (c19:PySem.W.codeIn K cd19 "Hall.__init__"=true) (k19:PySem.W.keepIn K (.ref f19)=true)
 (i19:PySem.W.isFn K (.ref f19)=true)
 (a20:PySem.W.findIn K (.ref C2) "hand_of"=some (some (.ref f20))) (l20:K.lookup f20=some ⟨oc20,od20,.func (PySem.W.fnOf "hand_of" "Hall.hand_of" (aD dJ) (aA dJ) (af dJ) .none kV20 dc20 pm20 an20 cd20 ct20),sl20⟩) (c20:PySem.W.codeIn K cd20 "Hall.hand_of"=true) (k20:PySem.W.keepIn K (.ref f20)=true)
 (i20:PySem.W.isFn K (.ref f20)=true)
 (a21:PySem.W.findIn K (.ref C2) "keeper_of"=some (some (.ref f21))) (l21:K.lookup f21=some ⟨oc21,od21,.func (PySem.W.fnOf "keeper_of" "Hall.keeper_of" (aD cT) (aA cT) (af cT) .none kV21 dc21 pm21 an21 cd21 ct21),sl21⟩) (c21:PySem.W.codeIn K cd21 "Hall.keeper_of"=true) (k21:PySem.W.keepIn K (.ref f21)=true)
 (i21:PySem.W.isFn K (.ref f21)=true)
 (a22:PySem.W.findIn K (.ref C2) "send"=some (some (.ref f22))) (l22:K.lookup f22=some ⟨oc22,od22,.func (PySem.W.fnOf "send" "Hall.send" (aD fN) (aA fN) (af fN) .none kV22 dc22 pm22 an22 cd22 ct22),sl22⟩) (c22:PySem.W.codeIn K cd22 "Hall.send"=true) (k22:PySem.W.keepIn K (.ref f22)=true)
 (i22:PySem.W.isFn K (.ref f22)=true)
 (a23:PySem.W.findIn K (.ref C2) "write"=some (some (.ref f23))) (l23:K.lookup f23=some ⟨oc23,od23,.func (PySem.W.fnOf "write" "Hall.write" (aD fg) (aA fg) (af fg) .none kV23 dc23 pm23 an23 cd23 ct23),sl23⟩) (c23:PySem.W.codeIn K cd23 "Hall.write"=true) (k23:PySem.W.keepIn K (.ref f23)=true)
 (i23:PySem.W.isFn K (.ref f23)=true)
 (a24:PySem.W.findIn K (.ref C2) "read"=some (some (.ref f24))) (l24:K.lookup f24=some ⟨oc24,od24,.func (PySem.W.fnOf "read" "Hall.read" (aD fF) (aA fF) (af fF) .none kV24 dc24 pm24 an24 cd24 ct24),sl24⟩) (c24:PySem.W.codeIn K cd24 "Hall.read"=true) (k24:PySem.W.keepIn K (.ref f24)=true)
 (i24:PySem.W.isFn K (.ref f24)=true)
 (a25:PySem.W.findIn K (.ref C2) "again"=some (some (.ref f25))) (l25:K.lookup f25=some ⟨oc25,od25,.func (PySem.W.fnOf "again" "Hall.again" (aD fu) (aA fu) (af fu) .none kV25 dc25 pm25 an25 cd25 ct25),sl25⟩) (c25:PySem.W.codeIn K cd25 "Hall.again"=true) (k25:PySem.W.keepIn K (.ref f25)=true)
 (i25:PySem.W.isFn K (.ref f25)=true)
 (a26:PySem.W.findIn K (.ref C2) "leave"=some (some (.ref f26))) (l26:K.lookup f26=some ⟨oc26,od26,.func (PySem.W.fnOf "leave" "Hall.leave" (aD fi) (aA fi) (af fi) .none kV26 dc26 pm26 an26 cd26 ct26),sl26⟩) (c26:PySem.W.codeIn K cd26 "Hall.leave"=true) (k26:PySem.W.keepIn K (.ref f26)=true)
 (i26:PySem.W.isFn K (.ref f26)=true)
 (a27:PySem.W.findIn K (.ref C2) "stop_keeper"=some (some (.ref f27))) (l27:K.lookup f27=some ⟨oc27,od27,.func (PySem.W.fnOf "stop_keeper" "Hall.stop_keeper" (aD cm) (aA cm) (af cm) .none kV27 dc27 pm27 an27 cd27 ct27),sl27⟩) (c27:PySem.W.codeIn K cd27 "Hall.stop_keeper"=true) (k27:PySem.W.keepIn K (.ref f27)=true)
 (i27:PySem.W.isFn K (.ref f27)=true)
 (a28:PySem.W.findIn K (.ref C2) "wake_keeper"=some (some (.ref f28))) (l28:K.lookup f28=some ⟨oc28,od28,.func (PySem.W.fnOf "wake_keeper" "Hall.wake_keeper" (aD cq) (aA cq) (af cq) .none kV28 dc28 pm28 an28 cd28 ct28),sl28⟩) (c28:PySem.W.codeIn K cd28 "Hall.wake_keeper"=true) (k28:PySem.W.keepIn K (.ref f28)=true)
 (i28:PySem.W.isFn K (.ref f28)=true)
 (a29:PySem.W.findIn K (.ref C2) "come_to_keeper"=some (some (.ref f29))) (l29:K.lookup f29=some ⟨oc29,od29,.func (PySem.W.fnOf "come_to_keeper" "Hall.come_to_keeper" (aD bA) (aA bA) (af bA) .none kV29 dc29 pm29 an29 cd29 ct29),sl29⟩) (c29:PySem.W.codeIn K cd29 "Hall.come_to_keeper"=true) (k29:PySem.W.keepIn K (.ref f29)=true)
 (i29:PySem.W.isFn K (.ref f29)=true)
 (a30:PySem.W.findIn K (.ref C2) "come_to_hand"=some (some (.ref f30))) (l30:K.lookup f30=some ⟨oc30,od30,.func (PySem.W.fnOf "come_to_hand" "Hall.come_to_hand" (aD bT) (aA bT) (af bT) .none kV30 dc30 pm30 an30 cd30 ct30),sl30⟩) (c30:PySem.W.codeIn K cd30 "Hall.come_to_hand"=true) (k30:PySem.W.keepIn K (.ref f30)=true)
 (i30:PySem.W.isFn K (.ref f30)=true)
 (a31:PySem.W.findIn K (.ref C2) "come"=some (some (.ref f31))) (l31:K.lookup f31=some ⟨oc31,od31,.func (PySem.W.fnOf "come" "Hall.come" (aD fL) (aA fL) (af fL) .none kV31 dc31 pm31 an31 cd31 ct31),sl31⟩) (c31:PySem.W.codeIn K cd31 "Hall.come"=true) (k31:PySem.W.keepIn K (.ref f31)=true)
 (i31:PySem.W.isFn K (.ref f31)=true)
 (a32:PySem.W.findIn K (.ref C2) "carry"=some (some (.ref f32))) (l32:K.lookup f32=some ⟨oc32,od32,.func (PySem.W.fnOf "carry" "Hall.carry" (aD fv) (aA fv) (af fv) .none kV32 dc32 pm32 an32 cd32 ct32),sl32⟩) (c32:PySem.W.codeIn K cd32 "Hall.carry"=true) (k32:PySem.W.keepIn K (.ref f32)=true)
 (i32:PySem.W.isFn K (.ref f32)=true)
 (a33:PySem.W.findIn K (.ref C2) "first_between"=some (some (.ref f33))) (l33:K.lookup f33=some ⟨oc33,od33,.func (PySem.W.fnOf "first_between" "Hall.first_between" (aD bE) (aA bE) (af bE) .none kV33 dc33 pm33 an33 cd33 ct33),sl33⟩) (c33:PySem.W.codeIn K cd33 "Hall.first_between"=true) (k33:PySem.W.keepIn K (.ref f33)=true)
 (i33:PySem.W.isFn K (.ref f33)=true)
 (a34:PySem.W.findIn K (.ref C2) "carry_between"=some (some (.ref f34))) (l34:K.lookup f34=some ⟨oc34,od34,.func (PySem.W.fnOf "carry_between" "Hall.carry_between" (aD bF) (aA bF) (af bF) .none kV34 dc34 pm34 an34 cd34 ct34),sl34⟩) (c34:PySem.W.codeIn K cd34 "Hall.carry_between"=true) (k34:PySem.W.keepIn K (.ref f34)=true)
 (i34:PySem.W.isFn K (.ref f34)=true)
 (a35:PySem.W.findIn K (.ref C2) "sweep"=some (some (.ref f35))) (l35:K.lookup f35=some ⟨oc35,od35,.func (PySem.W.fnOf "sweep" "Hall.sweep" (aD fk) (aA fk) (af fk) .none kV35 dc35 pm35 an35 cd35 ct35),sl35⟩) (c35:PySem.W.codeIn K cd35 "Hall.sweep"=true) (k35:PySem.W.keepIn K (.ref f35)=true)
 (i35:PySem.W.isFn K (.ref f35)=true)
 (a36:PySem.W.findIn K (.ref C3) "__init__"=some (some (.ref f36))) (l36:K.lookup f36=some ⟨oc36,od36,.func (PySem.W.fnOf "__init__" "Work.__init__" (aD fR) (aA fR) (af fR) .none kV36 dc36 pm36 an36 cd36 ct36),sl36⟩) (c36:PySem.W.codeIn K cd36 "Work.__init__"=true) (k36:PySem.W.keepIn K (.ref f36)=true)
 (i36:PySem.W.isFn K (.ref f36)=true)
 (a37:PySem.W.findIn K (.ref C3) "told"=some (some (.ref f37))) (l37:K.lookup f37=some ⟨oc37,od37,.func (PySem.W.fnOf "told" "Work.told" (aD fI) (aA fI) (af fI) .none kV37 dc37 pm37 an37 cd37 ct37),sl37⟩) (c37:PySem.W.codeIn K cd37 "Work.told"=true) (k37:PySem.W.keepIn K (.ref f37)=true)
 (i37:PySem.W.isFn K (.ref f37)=true)
 (a38:PySem.W.findIn K (.ref C4) "__init__"=some (some (.ref f38))) (l38:K.lookup f38=some ⟨oc38,od38,.func (PySem.W.fnOf "__init__" "Story.__init__" (aD ff) (aA ff) (af ff) .none kV38 dc38 pm38 an38 cd38 ct38),sl38⟩) (c38:PySem.W.codeIn K cd38 "Story.__init__"=true) (k38:PySem.W.keepIn K (.ref f38)=true)
 (i38:PySem.W.isFn K (.ref f38)=true)
 (a39:PySem.W.findIn K (.ref C4) "note_work"=some (some (.ref f39))) (l39:K.lookup f39=some ⟨oc39,od39,.func (PySem.W.fnOf "note_work" "Story.note_work" (aD cB) (aA cB) (af cB) .none kV39 dc39 pm39 an39 cd39 ct39),sl39⟩) (c39:PySem.W.codeIn K cd39 "Story.note_work"=true) (k39:PySem.W.keepIn K (.ref f39)=true)
 (i39:PySem.W.isFn K (.ref f39)=true)
 (a40:PySem.W.findIn K (.ref C4) "note_end"=some (some (.ref f40))) (l40:K.lookup f40=some ⟨oc40,od40,.func (PySem.W.fnOf "note_end" "Story.note_end" (aD cS) (aA cS) (af cS) .none kV40 dc40 pm40 an40 cd40 ct40),sl40⟩) (c40:PySem.W.codeIn K cd40 "Story.note_end"=true) (k40:PySem.W.keepIn K (.ref f40)=true)
 (i40:PySem.W.isFn K (.ref f40)=true)
 (a41:PySem.W.findIn K (.ref C4) "note_ends"=some (some (.ref f41))) (l41:K.lookup f41=some ⟨oc41,od41,.func (PySem.W.fnOf "note_ends" "Story.note_ends" (aD cD) (aA cD) (af cD) .none kV41 dc41 pm41 an41 cd41 ct41),sl41⟩) (c41:PySem.W.codeIn K cd41 "Story.note_ends"=true) (k41:PySem.W.keepIn K (.ref f41)=true)
 (i41:PySem.W.isFn K (.ref f41)=true)
 (a42:PySem.W.findIn K (.ref C4) "done"=some (some (.ref f42))) (l42:K.lookup f42=some ⟨oc42,od42,.func (PySem.W.fnOf "done" "Story.done" (aD fj) (aA fj) (af fj) .none kV42 dc42 pm42 an42 cd42 ct42),sl42⟩) (c42:PySem.W.codeIn K cd42 "Story.done"=true) (k42:PySem.W.keepIn K (.ref f42)=true)
 (i42:PySem.W.isFn K (.ref f42)=true)
 (a43:PySem.W.findIn K (.ref C4) "done_or_refused"=some (some (.ref f43))) (l43:K.lookup f43=some ⟨oc43,od43,.func (PySem.W.fnOf "done_or_refused" "Story.done_or_refused" (aD bu) (aA bu) (af bu) .none kV43 dc43 pm43 an43 cd43 ct43),sl43⟩) (c43:PySem.W.codeIn K cd43 "Story.done_or_refused"=true) (k43:PySem.W.keepIn K (.ref f43)=true)
 (i43:PySem.W.isFn K (.ref f43)=true)
 (a44:PySem.W.findIn K (.ref C4) "note_stamps"=some (some (.ref f44))) (l44:K.lookup f44=some ⟨oc44,od44,.func (PySem.W.fnOf "note_stamps" "Story.note_stamps" (aD bS) (aA bS) (af bS) .none kV44 dc44 pm44 an44 cd44 ct44),sl44⟩) (c44:PySem.W.codeIn K cd44 "Story.note_stamps"=true) (k44:PySem.W.keepIn K (.ref f44)=true)
 (i44:PySem.W.isFn K (.ref f44)=true)
 (a45:PySem.W.findIn K (.ref C4) "answer"=some (some (.ref f45))) (l45:K.lookup f45=some ⟨oc45,od45,.func (PySem.W.fnOf "answer" "Story.answer" (aD dQ) (aA dQ) (af dQ) .none kV45 dc45 pm45 an45 cd45 ct45),sl45⟩) (c45:PySem.W.codeIn K cd45 "Story.answer"=true) (k45:PySem.W.keepIn K (.ref f45)=true)
 (i45:PySem.W.isFn K (.ref f45)=true)
 (a46:PySem.W.nsIn K mainGlobals "answers"=some (some (.ref f46))) (l46:K.lookup f46=some ⟨oc46,od46,.func (PySem.W.fnOf "answers" "answers" (aD hJ) (aA hJ) (af hJ) .none kV46 dc46 pm46 an46 cd46 ct46),sl46⟩) (c46:PySem.W.codeIn K cd46 "answers"=true) (k46:PySem.W.keepIn K (.ref f46)=true)
 (a47:PySem.W.nsIn K mainGlobals "_law_so"=some (some (.ref f47))) (l47:K.lookup f47=some ⟨oc47,od47,.func (PySem.W.fnOf "_law_so" "_law_so" (aD yl) (aA yl) (af yl) .none kV47 dc47 pm47 an47 cd47 ct47),sl47⟩) (c47:PySem.W.codeIn K cd47 "_law_so"=true) (k47:PySem.W.keepIn K (.ref f47)=true)
 (a48:PySem.W.nsIn K mainGlobals "_law_whole"=some (some (.ref f48))) (l48:K.lookup f48=some ⟨oc48,od48,.func (PySem.W.fnOf "_law_whole" "_law_whole" (aD kD) (aA kD) (af kD) .none kV48 dc48 pm48 an48 cd48 ct48),sl48⟩) (c48:PySem.W.codeIn K cd48 "_law_whole"=true) (k48:PySem.W.keepIn K (.ref f48)=true)
 (a49:PySem.W.nsIn K mainGlobals "_law_at"=some (some (.ref f49))) (l49:K.lookup f49=some ⟨oc49,od49,.func (PySem.W.fnOf "_law_at" "_law_at" (aD yC) (aA yC) (af yC) .none kV49 dc49 pm49 an49 cd49 ct49),sl49⟩) (c49:PySem.W.codeIn K cd49 "_law_at"=true) (k49:PySem.W.keepIn K (.ref f49)=true)
 (a50:PySem.W.nsIn K mainGlobals "_law_switched"=some (some (.ref f50))) (l50:K.lookup f50=some ⟨oc50,od50,.func (PySem.W.fnOf "_law_switched" "_law_switched" (aD gm) (aA gm) (af gm) .none kV50 dc50 pm50 an50 cd50 ct50),sl50⟩) (c50:PySem.W.codeIn K cd50 "_law_switched"=true) (k50:PySem.W.keepIn K (.ref f50)=true)
 (a51:PySem.W.nsIn K mainGlobals "law"=some (some (.ref f51))) (l51:K.lookup f51=some ⟨oc51,od51,.func (PySem.W.fnOf "law" "law" (aD m6) (aA m6) (af m6) .none kV51 dc51 pm51 an51 cd51 ct51),sl51⟩) (c51:PySem.W.codeIn K cd51 "law"=true) (k51:PySem.W.keepIn K (.ref f51)=true)
 (z_max:PySem.W.nsIn K mainGlobals "max"=some none)
 (z_range:PySem.W.nsIn K mainGlobals "range"=some none)
 (z_list:PySem.W.nsIn K mainGlobals "list"=some none)
 (z_len:PySem.W.nsIn K mainGlobals "len"=some none)
 (z_enumerate:PySem.W.nsIn K mainGlobals "enumerate"=some none)
 (z_bool:PySem.W.nsIn K mainGlobals "bool"=some none)
 (z_isinstance:PySem.W.nsIn K mainGlobals "isinstance"=some none)
 (z_int:PySem.W.nsIn K mainGlobals "int"=some none)
 (z_str:PySem.W.nsIn K mainGlobals "str"=some none)
 (z_dict:PySem.W.nsIn K mainGlobals "dict"=some none)
 (z_tuple:PySem.W.nsIn K mainGlobals "tuple"=some none)
 (z_min:PySem.W.nsIn K mainGlobals "min"=some none)
 (l_BEGINNING_1:K.lookup x_BEGINNING_1=some ⟨.type "tuple",od_BEGINNING_1,.seq #[.int 0 t_BEGINNING_2,.int 0 t_BEGINNING_3] n_BEGINNING_1,sl_BEGINNING_1⟩)
 (l_BEGINNING:K.lookup x_BEGINNING=some ⟨.type "tuple",od_BEGINNING,.seq #[.ref x_BEGINNING_1,.int 0 t_BEGINNING_4] n_BEGINNING,sl_BEGINNING⟩):
 ∃fd:FuncData,(∀(s:Shared) (v:Value),BindsTo s fd ⟨[v],[]⟩ [("_law_script",v)])/\∃cl,∀base:Heap,K.In base->base.Ns mainGlobals mg->bh l.prog w K mg base CX0 11 fa fd ["_law_script"] (sp3 (TT cl) K 1 pN):=by
 have e:=hfa.symm.trans (PySem.W.mg_of X G a51)
 cases e
 have hcl:∀c Ca,clF [C0,C1,C2,C3,C4] [X0,X1,X2,X3,X4,X5] c=some Ca->c < 1000->Ca∈ [C0,C1,C2,C3,C4]:=fun c Ca e hc=>D6 e hc
 have hC:∀Ca,Ca∈ [C0,C1,C2,C3,C4]->Cls K Ca/\∀x∈nmL,jJ K Ca x:=by
  intro Ca hm
  simp only[qS_,List.not_mem_nil,or_false]at hm
  rcases hm with rfl |rfl |rfl |rfl |rfl
  · exact⟨⟨pg0,hd0,po0,sa0⟩,fun x hx=>eq_of_beq (List.all_eq_true.mp na0 x hx)⟩
  · exact⟨⟨pg1,hd1,po1,sa1⟩,fun x hx=>eq_of_beq (List.all_eq_true.mp na1 x hx)⟩
  · exact⟨⟨pg2,hd2,po2,sa2⟩,fun x hx=>eq_of_beq (List.all_eq_true.mp na2 x hx)⟩
  · exact⟨⟨pg3,hd3,po3,sa3⟩,fun x hx=>eq_of_beq (List.all_eq_true.mp na3 x hx)⟩
  · exact⟨⟨pg4,hd4,po4,sa4⟩,fun x hx=>eq_of_beq (List.all_eq_true.mp na4 x hx)⟩
 have Z:Txt K mg (clF [C0,C1,C2,C3,C4] [X0,X1,X2,X3,X4,X5]):=⟨PySem.W.mg_none_of X G z_max,
  PySem.W.mg_none_of X G z_range,
  PySem.W.mg_none_of X G z_list,
  PySem.W.mg_none_of X G z_len,
  PySem.W.mg_none_of X G z_enumerate,
  PySem.W.mg_none_of X G z_bool,
  PySem.W.mg_none_of X G z_isinstance,
  PySem.W.mg_none_of X G z_int,
  PySem.W.mg_none_of X G z_str,
  PySem.W.mg_none_of X G z_dict,
  PySem.W.mg_none_of X G z_tuple,
  PySem.W.mg_none_of X G z_min,
  ⟨.ref x_BEGINNING,.ref x_BEGINNING,PySem.W.mg_of X G g_BEGINNING,rfl,(xI (ds:=[(.tup [(.int 0),(.int 0)]),(.int 0)]) l_BEGINNING (show 2<=sizeLine by decide) (vs:=[(.ref x_BEGINNING_1),(.int 0)]) (.cons rfl (.cons ⟨_,rfl⟩ .nil)) fun H μ=>⟨_,_,rfl,((xI (ds:=[(.int 0),(.int 0)]) l_BEGINNING_1 (show 2<=sizeLine by decide) (vs:=[(.int 0),(.int 0)]) (.cons ⟨_,rfl⟩ (.cons ⟨_,rfl⟩ .nil)) fun H μ=>⟨_,_,rfl,rfl,⟨_,_,rfl,rfl,rfl⟩⟩) H μ),⟨_,_,rfl,rfl,rfl⟩⟩)⟩,
  dm (L:=nmL) hcl hC (by decide +kernel) (by decide +kernel) (by decide),
  dm (L:=nmL) hcl hC (by decide +kernel) (by decide +kernel) (by decide),
  dm (L:=nmL) hcl hC (by decide +kernel) (by decide +kernel) (by decide),
  dm (L:=nmL) hcl hC (by decide +kernel) (by decide +kernel) (by decide),
  dm (L:=nmL) hcl hC (by decide +kernel) (by decide +kernel) (by decide),
  dm (L:=nmL) hcl hC (by decide +kernel) (by decide +kernel) (by decide),
  dm (L:=nmL) hcl hC (by decide +kernel) (by decide +kernel) (by decide),
  dm (L:=nmL) hcl hC (by decide +kernel) (by decide +kernel) (by decide),
  dm (L:=nmL) hcl hC (by decide +kernel) (by decide +kernel) (by decide),
  dm (L:=nmL) hcl hC (by decide +kernel) (by decide +kernel) (by decide),
  dm (L:=nmL) hcl hC (by decide +kernel) (by decide +kernel) (by decide),
  dm (L:=nmL) hcl hC (by decide +kernel) (by decide +kernel) (by decide),
  dm (L:=nmL) hcl hC (by decide +kernel) (by decide +kernel) (by decide),
  dm (L:=nmL) hcl hC (by decide +kernel) (by decide +kernel) (by decide),
  dm (L:=nmL) hcl hC (by decide +kernel) (by decide +kernel) (by decide),
  dm (L:=nmL) hcl hC (by decide +kernel) (by decide +kernel) (by decide),
  dm (L:=nmL) hcl hC (by decide +kernel) (by decide +kernel) (by decide),
  dm (L:=nmL) hcl hC (by decide +kernel) (by decide +kernel) (by decide),
  dm (L:=nmL) hcl hC (by decide +kernel) (by decide +kernel) (by decide),
  dm (L:=nmL) hcl hC (by decide +kernel) (by decide +kernel) (by decide),
  dm (L:=nmL) hcl hC (by decide +kernel) (by decide +kernel) (by decide),
  ⟨X0,rfl,PySem.W.mg_of X G aX0,ei0⟩,
  True.intro,
  ⟨X1,rfl,PySem.W.mg_of X G aX1,ei1⟩,
  ⟨X1,PySem.W.mg_of X G aX1,fun c Ca e=>nj em1 e⟩,
  ⟨X2,rfl,PySem.W.mg_of X G aX2,ei2⟩,
  ⟨X2,PySem.W.mg_of X G aX2,fun c Ca e=>nj em2 e⟩,
  ⟨X3,rfl,PySem.W.mg_of X G aX3,ei3⟩,
  ⟨X3,PySem.W.mg_of X G aX3,fun c Ca e=>nj em3 e⟩,
  ⟨X4,rfl,PySem.W.mg_of X G aX4,ei4⟩,
  ⟨X4,PySem.W.mg_of X G aX4,fun c Ca e=>nj em4 e⟩,
  ⟨X5,rfl,PySem.W.mg_of X G aX5,ei5⟩,
  ⟨X5,PySem.W.mg_of X G aX5,fun c Ca e=>nj em5 e⟩⟩
 have F0:=aO (st:=hW) l0 c0 k0
 have b0:=F0.binds (ps:=["count","many"]) (by walk_at "b2")
 have F1:=aO (st:=jm) l1 c1 k1
 have b1:=F1.binds (ps:=["pairs"]) (by walk_at "b1")
 have F2:=aO (st:=el) l2 c2 k2
 have b2:=F2.binds (ps:=["pairs","own","hand"]) (by walk_at "b3")
 have F3:=aO (st:=fQ) l3 c3 k3
 have b3:=F3.binds (ps:=["self","number","count"]) (by walk_at "b3")
 have F4:=aO (st:=dN) l4 c4 k4
 have b4:=F4.binds (ps:=["self"]) (by walk_at "b1")
 have F5:=aO (st:=cx) l5 c5 k5
 have b5:=F5.binds (ps:=["self","pair"]) (by walk_at "b2")
 have F6:=aO (st:=fm) l6 c6 k6
 have b6:=F6.binds (ps:=["self","value"]) (by walk_at "b2")
 have F7:=aO (st:=cb) l7 c7 k7
 have b7:=F7.binds (ps:=["self","value"]) (by walk_at "b2")
 have F8:=aO (st:=cG) l8 c8 k8
 have b8:=F8.binds (ps:=["self"]) (by walk_at "b1")
 have F9:=aO (st:=cg) l9 c9 k9
 have b9:=F9.binds (ps:=["self"]) (by walk_at "b1")
 have F10:=aO (st:=cJ) l10 c10 k10
 have b10:=F10.binds (ps:=["self"]) (by walk_at "b1")
 have F11:=aO (st:=dM) l11 c11 k11
 have b11:=F11.binds (ps:=["self"]) (by walk_at "b1")
 have F12:=aO (st:=eE) l12 c12 k12
 have b12:=F12.binds (ps:=["self"]) (by walk_at "b1")
 have F13:=aO (st:=fJ) l13 c13 k13
 have b13:=F13.binds (ps:=["self","answer"]) (by walk_at "b2")
 have F14:=aO (st:=eF) l14 c14 k14
 have b14:=F14.binds (ps:=["self"]) (by walk_at "b1")
 have F15:=aO (st:=eB) l15 c15 k15
 have b15:=F15.binds (ps:=["self"]) (by walk_at "b1")
 have F16:=aO (st:=eA) l16 c16 k16
 have b16:=F16.binds (ps:=["self"]) (by walk_at "b1")
 have F17:=aO (st:=eD) l17 c17 k17
 have b17:=F17.binds (ps:=["self","pair"]) (by walk_at "b2")
 have F18:=aO (st:=cj) l18 c18 k18
 have b18:=F18.binds (ps:=["self","letter"]) (by walk_at "b2")
 have F19:=aO (st:=fM) l19 c19 k19
 have b19:=F19.binds (ps:=["self","count","many"]) (by walk_at "b3")
 have F20:=aO (st:=dJ) l20 c20 k20
 have b20:=F20.binds (ps:=["self","number"]) (by walk_at "b2")
 have F21:=aO (st:=cT) l21 c21 k21
 have b21:=F21.binds (ps:=["self","number"]) (by walk_at "b2")
 have F22:=aO (st:=fN) l22 c22 k22
 have b22:=F22.binds (ps:=["self","letters"]) (by walk_at "b2")
 have F23:=aO (st:=fg) l23 c23 k23
 have b23:=F23.binds (ps:=["self","hand","value"]) (by walk_at "b3")
 have F24:=aO (st:=fF) l24 c24 k24
 have b24:=F24.binds (ps:=["self","hand"]) (by walk_at "b2")
 have F25:=aO (st:=fu) l25 c25 k25
 have b25:=F25.binds (ps:=["self","hand"]) (by walk_at "b2")
 have F26:=aO (st:=fi) l26 c26 k26
 have b26:=F26.binds (ps:=["self","hand"]) (by walk_at "b2")
 have F27:=aO (st:=cm) l27 c27 k27
 have b27:=F27.binds (ps:=["self","keeper"]) (by walk_at "b2")
 have F28:=aO (st:=cq) l28 c28 k28
 have b28:=F28.binds (ps:=["self","keeper"]) (by walk_at "b2")
 have F29:=aO (st:=bA) l29 c29 k29
 have b29:=F29.binds (ps:=["self","letter"]) (by walk_at "b2")
 have F30:=aO (st:=bT) l30 c30 k30
 have b30:=F30.binds (ps:=["self","answer"]) (by walk_at "b2")
 have F31:=aO (st:=fL) l31 c31 k31
 have b31:=F31.binds (ps:=["self","place","stays"]) (by walk_at "b3")
 have F32:=aO (st:=fv) l32 c32 k32
 have b32:=F32.binds (ps:=["self","number","stays"]) (by walk_at "b3")
 have F33:=aO (st:=bE) l33 c33 k33
 have b33:=F33.binds (ps:=["self","hand","keeper"]) (by walk_at "b3")
 have F34:=aO (st:=bF) l34 c34 k34
 have b34:=F34.binds (ps:=["self","hand","keeper"]) (by walk_at "b3")
 have F35:=aO (st:=fk) l35 c35 k35
 have b35:=F35.binds (ps:=["self"]) (by walk_at "b1")
 have F36:=aO (st:=fR) l36 c36 k36
 have b36:=F36.binds (ps:=["self","hand","word","value","begun"]) (by walk_at "b5")
 have F37:=aO (st:=fI) l37 c37 k37
 have b37:=F37.binds (ps:=["self"]) (by walk_at "b1")
 have F38:=aO (st:=ff) l38 c38 k38
 have b38:=F38.binds (ps:=["self","count","many"]) (by walk_at "b3")
 have F39:=aO (st:=cB) l39 c39 k39
 have b39:=F39.binds (ps:=["self","hand","word","value"]) (by walk_at "b4")
 have F40:=aO (st:=cS) l40 c40 k40
 have b40:=F40.binds (ps:=["self","hand","pair"]) (by walk_at "b3")
 have F41:=aO (st:=cD) l41 c41 k41
 have b41:=F41.binds (ps:=["self","ends"]) (by walk_at "b2")
 have F42:=aO (st:=fj) l42 c42 k42
 have b42:=F42.binds (ps:=["self","deed"]) (by walk_at "b2")
 have F43:=aO (st:=bu) l43 c43 k43
 have b43:=F43.binds (ps:=["self","deed"]) (by walk_at "b2")
 have F44:=aO (st:=bS) l44 c44 k44
 have b44:=F44.binds (ps:=["self"]) (by walk_at "b1")
 have F45:=aO (st:=dQ) l45 c45 k45
 have b45:=F45.binds (ps:=["self","deed"]) (by walk_at "b2")
 have F46:=aO (st:=hJ) l46 c46 k46
 have b46:=F46.binds (ps:=["count","many","deeds"]) (by walk_at "b3")
 have F47:=aO (st:=yl) l47 c47 k47
 have b47:=F47.binds (ps:=["_law_found","_law_meant"]) (by walk_at "b2")
 have F48:=aO (st:=kD) l48 c48 k48
 have b48:=F48.binds (ps:=["_law_found"]) (by walk_at "b1")
 have F49:=aO (st:=yC) l49 c49 k49
 have b49:=F49.binds (ps:=["_law_script","_law_k"]) (by walk_at "b2")
 have F50:=aO (st:=gm) l50 c50 k50
 have b50:=F50.binds (ps:=["_law_cell","_law_count"]) (by walk_at "b2")
 have F51:=aO (st:=m6) l51 c51 k51
 refine⟨PySem.W.fnOf "law" "law" (aD m6) (aA m6) (af m6) .none kV51 dc51 pm51 an51 cd51 ct51,fun s v=>.of_eq rfl,(clF [C0,C1,C2,C3,C4] [X0,X1,X2,X3,X4,X5]),fun base _ _=>?_⟩
 have Gx59:=qf (wV l.prog w mg base F0 Z) F0 (PySem.W.mg_of X G a0) b0
 have Gx60:=qf (xY l.prog w mg base F1 Z) F1 (PySem.W.mg_of X G a1) b1
 have Gx61:=qf (pJ l.prog w mg base F2 Z) F2 (PySem.W.mg_of X G a2) b2
 have Gx62:=uw (C:=0) (sF l.prog w mg base F3 Z) rfl ⟨mk0,a3,i3,kc0⟩ (PySem.W.mg_of X G aC0) b3
 have Gx18:=bU (C:=0) (oP l.prog w mg base F4 Z) rfl ⟨pg0,hd0,po0,sa0⟩ ⟨a4,i4,k4⟩ b4 (by walk_at "nm")
 have Gx19:=bU (C:=0) (lj l.prog w mg base F5 Z Gx18) rfl ⟨pg0,hd0,po0,sa0⟩ ⟨a5,i5,k5⟩ b5 (by walk_at "nm")
 have Gx20:=bU (C:=0) (qK l.prog w mg base F6 Z Gx19) rfl ⟨pg0,hd0,po0,sa0⟩ ⟨a6,i6,k6⟩ b6 (by walk_at "nm")
 have Gx63:=bU (C:=0) (lC l.prog w mg base F7 Z Gx20) rfl ⟨pg0,hd0,po0,sa0⟩ ⟨a7,i7,k7⟩ b7 (by walk_at "nm")
 have Gx64:=bU (C:=0) (mf l.prog w mg base F8 Z Gx20) rfl ⟨pg0,hd0,po0,sa0⟩ ⟨a8,i8,k8⟩ b8 (by walk_at "nm")
 have Gx21:=bU (C:=0) (lg l.prog w mg base F9 Z) rfl ⟨pg0,hd0,po0,sa0⟩ ⟨a9,i9,k9⟩ b9 (by walk_at "nm")
 have Gx65:=bU (C:=0) (lZ l.prog w mg base F10 Z Gx18 Gx21) rfl ⟨pg0,hd0,po0,sa0⟩ ⟨a10,i10,k10⟩ b10 (by walk_at "nm")
 have Gx66:=bU (C:=0) (oU l.prog w mg base F11 Z Gx21) rfl ⟨pg0,hd0,po0,sa0⟩ ⟨a11,i11,k11⟩ b11 (by walk_at "nm")
 have Gx67:=bU (C:=0) (qo l.prog w mg base F12 Z Gx60 Gx61) rfl ⟨pg0,hd0,po0,sa0⟩ ⟨a12,i12,k12⟩ b12 (by walk_at "nm")
 have Gx68:=bU (C:=0) (tx l.prog w mg base F13 Z Gx59 Gx19 Gx67) rfl ⟨pg0,hd0,po0,sa0⟩ ⟨a13,i13,k13⟩ b13 (by walk_at "nm")
 have Gx69:=uw (C:=1) (pE l.prog w mg base F14 Z) rfl ⟨mk1,a14,i14,kc1⟩ (PySem.W.mg_of X G aC1) b14
 have Gx70:=bU (C:=1) (pI l.prog w mg base F15 Z) rfl ⟨pg1,hd1,po1,sa1⟩ ⟨a15,i15,k15⟩ b15 (by walk_at "nm")
 have Gx71:=bU (C:=1) (qw l.prog w mg base F16 Z) rfl ⟨pg1,hd1,po1,sa1⟩ ⟨a16,i16,k16⟩ b16 (by walk_at "nm")
 have Gx72:=bU (C:=1) (pY l.prog w mg base F17 Z) rfl ⟨pg1,hd1,po1,sa1⟩ ⟨a17,i17,k17⟩ b17 (by walk_at "nm")
 have Gx73:=bU (C:=1) (kZ l.prog w mg base F18 Z Gx72) rfl ⟨pg1,hd1,po1,sa1⟩ ⟨a18,i18,k18⟩ b18 (by walk_at "nm")
 have Gx74:=uw (C:=2) (sX l.prog w mg base F19 Z Gx62 Gx69) rfl ⟨mk2,a19,i19,kc2⟩ (PySem.W.mg_of X G aC2) b19
 have Gx5:=bU (C:=2) (oO l.prog w mg base F20 Z) rfl ⟨pg2,hd2,po2,sa2⟩ ⟨a20,i20,k20⟩ b20 (by walk_at "nm")
 have Gx12:=bU (C:=2) (nE l.prog w mg base F21 Z) rfl ⟨pg2,hd2,po2,sa2⟩ ⟨a21,i21,k21⟩ b21 (by walk_at "nm")
 have Gx6:=bU (C:=2) (sS l.prog w mg base F22 Z) rfl ⟨pg2,hd2,po2,sa2⟩ ⟨a22,i22,k22⟩ b22 (by walk_at "nm")
 have Gx75:=bU (C:=2) (qR l.prog w mg base F23 Z Gx63 Gx5 Gx6) rfl ⟨pg2,hd2,po2,sa2⟩ ⟨a23,i23,k23⟩ b23 (by walk_at "nm")
 have Gx76:=bU (C:=2) (tw l.prog w mg base F24 Z Gx64 Gx5 Gx6) rfl ⟨pg2,hd2,po2,sa2⟩ ⟨a24,i24,k24⟩ b24 (by walk_at "nm")
 have Gx77:=bU (C:=2) (qQ l.prog w mg base F25 Z Gx65 Gx5 Gx6) rfl ⟨pg2,hd2,po2,sa2⟩ ⟨a25,i25,k25⟩ b25 (by walk_at "nm")
 have Gx78:=bU (C:=2) (qT l.prog w mg base F26 Z Gx66 Gx5) rfl ⟨pg2,hd2,po2,sa2⟩ ⟨a26,i26,k26⟩ b26 (by walk_at "nm")
 have Gx79:=bU (C:=2) (lE l.prog w mg base F27 Z Gx70 Gx12) rfl ⟨pg2,hd2,po2,sa2⟩ ⟨a27,i27,k27⟩ b27 (by walk_at "nm")
 have Gx80:=bU (C:=2) (kY l.prog w mg base F28 Z Gx71 Gx12) rfl ⟨pg2,hd2,po2,sa2⟩ ⟨a28,i28,k28⟩ b28 (by walk_at "nm")
 have Gx81:=bU (C:=2) (jG l.prog w mg base F29 Z Gx73) rfl ⟨pg2,hd2,po2,sa2⟩ ⟨a29,i29,k29⟩ b29 (by walk_at "nm")
 have Gx82:=bU (C:=2) (jY l.prog w mg base F30 Z Gx68 Gx6) rfl ⟨pg2,hd2,po2,sa2⟩ ⟨a30,i30,k30⟩ b30 (by walk_at "nm")
 have Gx13:=bU (C:=2) (s8 l.prog w mg base F31 Z Gx81 Gx82) rfl ⟨pg2,hd2,po2,sa2⟩ ⟨a31,i31,k31⟩ b31 (by walk_at "nm")
 have Gx83:=bU (C:=2) (qH l.prog w mg base F32 Z Gx13) rfl ⟨pg2,hd2,po2,sa2⟩ ⟨a32,i32,k32⟩ b32 (by walk_at "nm")
 have Gx84:=bU (C:=2) (jQ l.prog w mg base F33 Z) rfl ⟨pg2,hd2,po2,sa2⟩ ⟨a33,i33,k33⟩ b33 (by walk_at "nm")
 have Gx85:=bU (C:=2) (jT l.prog w mg base F34 Z Gx5 Gx12 Gx13 Gx84) rfl ⟨pg2,hd2,po2,sa2⟩ ⟨a34,i34,k34⟩ b34 (by walk_at "nm")
 have Gx86:=bU (C:=2) (qV l.prog w mg base F35 Z Gx13) rfl ⟨pg2,hd2,po2,sa2⟩ ⟨a35,i35,k35⟩ b35 (by walk_at "nm")
 have Gx87:=uw (C:=3) (t7 l.prog w mg base F36 Z) rfl ⟨mk3,a36,i36,kc3⟩ (PySem.W.mg_of X G aC3) b36
 have Gx101:=bU (C:=3) (sC l.prog w mg base F37 Z) rfl ⟨pg3,hd3,po3,sa3⟩ ⟨a37,i37,k37⟩ b37 (by walk_at "nm")
 have Gx88:=uw (C:=4) (qM l.prog w mg base F38 Z Gx74) rfl ⟨mk4,a38,i38,kc4⟩ (PySem.W.mg_of X G aC4) b38
 have Gx89:=bU (C:=4) (mC l.prog w mg base F39 Z Gx87) rfl ⟨pg4,hd4,po4,sa4⟩ ⟨a39,i39,k39⟩ b39 (by walk_at "nm")
 have Gx90:=bU (C:=4) (mM l.prog w mg base F40 Z) rfl ⟨pg4,hd4,po4,sa4⟩ ⟨a40,i40,k40⟩ b40 (by walk_at "nm")
 have Gx91:=bU (C:=4) (mw l.prog w mg base F41 Z Gx90) rfl ⟨pg4,hd4,po4,sa4⟩ ⟨a41,i41,k41⟩ b41 (by walk_at "nm")
 have Gx92:=bU (C:=4) (rj l.prog w mg base F42 Z Gx75 Gx76 Gx77 Gx78 Gx79 Gx80 Gx83 Gx85 Gx86 Gx89 Gx91) rfl ⟨pg4,hd4,po4,sa4⟩ ⟨a42,i42,k42⟩ b42 (by walk_at "nm")
 have Gx93:=bU (C:=4) (jc l.prog w mg base F43 Z Gx92) rfl ⟨pg4,hd4,po4,sa4⟩ ⟨a43,i43,k43⟩ b43 (by walk_at "nm")
 have Gx94:=bU (C:=4) (j5 l.prog w mg base F44 Z) rfl ⟨pg4,hd4,po4,sa4⟩ ⟨a44,i44,k44⟩ b44 (by walk_at "nm")
 have Gx95:=bU (C:=4) (oT l.prog w mg base F45 Z Gx93 Gx94) rfl ⟨pg4,hd4,po4,sa4⟩ ⟨a45,i45,k45⟩ b45 (by walk_at "nm")
 have Gx96:=qf (vV l.prog w mg base F46 Z Gx88 Gx95) F46 (PySem.W.mg_of X G a46) b46
 have Gx97:=CV l.prog w mg base F47 (PySem.W.mg_of X G a47) b47 Z
 have Gx98:=qf (zU l.prog w mg base F48 Z) F48 (PySem.W.mg_of X G a48) b48
 have Gx99:=qf (GF l.prog w mg base F49 Z) F49 (PySem.W.mg_of X G a49) b49
 have Gx100:=qf (uK l.prog w mg base F50 Z) F50 (PySem.W.mg_of X G a50) b50
 exact DH _ _ _ _ F51 Z Gx96 Gx97 Gx98 Gx99 Gx100
theorem walk{l:PySem.W.OpenLaw}{q:Program}{loose:List Str}{XP:(Str->Option Value)->Heap->Prop}{YP:World->Heap->Prop}{d:DefRec}{K:Params->PySem.W.Frag}(hn:l.most=some 63)(hdf:d.params.defaults=[])
 (hY:∀(w:World) (h:Heap),YP w h->(K w.params).In h) (hl:∀ns:List Int,ns.length<=63->M3.run (pN [.ref 0]) [.frz (ns.map M3.D.int)] (fun d _=>d= .bl true) fun _ _=>False)
 (F:∀(w:World) (mg:Str->Option Value) (fa:Addr) (h:Heap),(K w.params).In h->h.Ns mainGlobals mg->mg d.name=some (.ref fa)->
   ∃fd:FuncData,(∀(s:Shared) (u:Value),BindsTo s fd ⟨[u],[]⟩ [("_law_script",u)])/\∃cl,∀base:Heap,(K w.params).In base->base.Ns mainGlobals mg->bh l.prog w (K w.params) mg base CX0 11 fa fd ["_law_script"] (sp3 (TT cl) (K w.params) 1 pN)):
 PySem.W.WalkO q loose XP YP l.row.toRowW d [] (fun f vs=>PySem.call f vs):=
 L2.Cm (n:=63) (k:=11) (x:="_law_script") (CX:=fun _=>CX0) (sp:=fun w=>zJ nmF (K w.params) 1 pN) hn (by decide) hdf ⟨rfl,by decide,by decide⟩ hY (fun w mg fa h a b c=>let ⟨fd,h1,cl,h2⟩:=F w mg fa h a b c;⟨fd,h1,fun base h3 h4=>E2 (h2 base h3 h4)⟩) (fun _ _ a ns h1 h2 h3=>B2 hl h1 h2 h3) fun _ _ _ _ _ z=>z
end LK
open PySem PySem.W PyProof.Rows
def PySem.W.Fast.tw1468380728364906556 := 0
def PySem.W.Fast.tw7364160352832176871 := 0
def PySem.W.Fast.tw6488075688556780966 := 0
def PySem.W.Fast.tw5913799503263582411 := 0
def PySem.W.Fast.tw6934506975931355184 := 0
def PySem.W.Fast.tw7371029775436078092 := 0
def PySem.W.Fast.tw7599482113602825994 := 0
def PySem.W.Fast.tw3919262458081123371 := 0
def PySem.W.Fast.tw15548211100504255879 := 0
def PySem.W.Fast.tw1476795355149478051 := 0
def PySem.W.Fast.tw9339296943386014213 := 0
def PySem.W.Fast.tw1320452020456002089 := 0
def PySem.W.Fast.tw3226828168610897430 := 0
def PySem.W.Fast.tw12727947349632014728 := 0
def PySem.W.Fast.tw18289420405367609854 := 0
def PySem.W.Fast.tw370299521738377057 := 0
set_option maxRecDepth 100000 in
set_option maxHeartbeats 0 in
theorem PySem.Challenge.cw_halfask_k02_one_after_the_other_holds : PySem.Challenge.rw_halfask_k02_one_after_the_other.Holds := by
 w_on;o_law;k_head;(case hw=>w_witness2)
 k_fill
 refine LK.walk (l:=PySem.Challenge.rw_halfask_k02_one_after_the_other) rfl rfl (fun w h Y=>PySem.W.kIn_of Y) KS.yX ?F
 case F=>
  intro w mg fa h KX G hmg
  refine' LK.all_mk KX G hmg ?g_BEGINNING ?aC0 ?pg0 ?hd0 ?po0 ?sa0 ?mk0 ?kc0 ?na0 ?aC1 ?pg1 ?hd1 ?po1 ?sa1 ?mk1 ?kc1 ?na1 ?aC2 ?pg2 ?hd2 ?po2 ?sa2 ?mk2 ?kc2 ?na2 ?aC3 ?pg3 ?hd3 ?po3 ?sa3 ?mk3 ?kc3 ?na3 ?aC4 ?pg4 ?hd4 ?po4 ?sa4 ?mk4 ?kc4 ?na4 ?aX0 ?ei0 ?aX1 ?ei1 ?aX2 ?ei2 ?aX3 ?ei3 ?aX4 ?ei4 ?aX5 ?ei5 ?em1 ?em2 ?em3 ?em4 ?em5 ?a0 ?l0 ?c0 ?k0 ?a1 ?l1 ?c1 ?k1 ?a2 ?l2 ?c2 ?k2 ?a3 ?l3 ?c3 ?k3 ?i3 ?a4 ?l4 ?c4 ?k4 ?i4 ?a5 ?l5 ?c5 ?k5 ?i5 ?a6 ?l6 ?c6 ?k6 ?i6 ?a7 ?l7 ?c7 ?k7 ?i7 ?a8 ?l8 ?c8 ?k8 ?i8 ?a9 ?l9 ?c9 ?k9 ?i9 ?a10 ?l10 ?c10 ?k10 ?i10 ?a11 ?l11 ?c11 ?k11 ?i11 ?a12 ?l12 ?c12 ?k12 ?i12 ?a13 ?l13 ?c13 ?k13 ?i13 ?a14 ?l14 ?c14 ?k14 ?i14 ?a15 ?l15 ?c15 ?k15 ?i15 ?a16 ?l16 ?c16 ?k16 ?i16 ?a17 ?l17 ?c17 ?k17 ?i17 ?a18 ?l18 ?c18 ?k18 ?i18 ?a19 ?l19 ?c19 ?k19 ?i19 ?a20 ?l20 ?c20 ?k20 ?i20 ?a21 ?l21 ?c21 ?k21 ?i21 ?a22 ?l22 ?c22 ?k22 ?i22 ?a23 ?l23 ?c23 ?k23 ?i23 ?a24 ?l24 ?c24 ?k24 ?i24 ?a25 ?l25 ?c25 ?k25 ?i25 ?a26 ?l26 ?c26 ?k26 ?i26 ?a27 ?l27 ?c27 ?k27 ?i27 ?a28 ?l28 ?c28 ?k28 ?i28 ?a29 ?l29 ?c29 ?k29 ?i29 ?a30 ?l30 ?c30 ?k30 ?i30 ?a31 ?l31 ?c31 ?k31 ?i31 ?a32 ?l32 ?c32 ?k32 ?i32 ?a33 ?l33 ?c33 ?k33 ?i33 ?a34 ?l34 ?c34 ?k34 ?i34 ?a35 ?l35 ?c35 ?k35 ?i35 ?a36 ?l36 ?c36 ?k36 ?i36 ?a37 ?l37 ?c37 ?k37 ?i37 ?a38 ?l38 ?c38 ?k38 ?i38 ?a39 ?l39 ?c39 ?k39 ?i39 ?a40 ?l40 ?c40 ?k40 ?i40 ?a41 ?l41 ?c41 ?k41 ?i41 ?a42 ?l42 ?c42 ?k42 ?i42 ?a43 ?l43 ?c43 ?k43 ?i43 ?a44 ?l44 ?c44 ?k44 ?i44 ?a45 ?l45 ?c45 ?k45 ?i45 ?a46 ?l46 ?c46 ?k46 ?a47 ?l47 ?c47 ?k47 ?a48 ?l48 ?c48 ?k48 ?a49 ?l49 ?c49 ?k49 ?a50 ?l50 ?c50 ?k50 ?a51 ?l51 ?c51 ?k51 ?z_max ?z_range ?z_list ?z_len ?z_enumerate ?z_bool ?z_isinstance ?z_int ?z_str ?z_dict ?z_tuple ?z_min ?l_BEGINNING_1 ?l_BEGINNING
  (case g_BEGINNING |l_BEGINNING |l_BEGINNING_1 |aC0 |pg0 |hd0 |po0 |sa0 |mk0 |kc0=>k_is)
  (case na0=>kernel_rfl)
  (case aC1 |pg1 |hd1 |po1 |sa1 |mk1 |kc1=>k_is)
  (case na1=>kernel_rfl)
  (case aC2 |pg2 |hd2 |po2 |sa2 |mk2 |kc2=>k_is)
  (case na2=>kernel_rfl)
  (case aC3 |pg3 |hd3 |po3 |sa3 |mk3 |kc3=>k_is)
  (case na3=>kernel_rfl)
  (case aC4 |pg4 |hd4 |po4 |sa4 |mk4 |kc4=>k_is)
  (case na4=>kernel_rfl)
  (case aX0=>k_is)
  (case ei0=>kernel_rfl)
  (case aX1=>k_is)
  (case ei1=>kernel_rfl)
  (case aX2=>k_is)
  (case ei2=>kernel_rfl)
  (case aX3=>k_is)
  (case ei3=>kernel_rfl)
  (case aX4=>k_is)
  (case ei4=>kernel_rfl)
  (case aX5=>k_is)
  (case ei5=>kernel_rfl)
  (case em1=>kernel_rfl)
  (case em2=>kernel_rfl)
  (case em3=>kernel_rfl)
  (case em4=>kernel_rfl)
  (case em5=>kernel_rfl)
  (case a0 |l0 |c0 |k0 |a1 |l1 |c1 |k1 |a2 |l2 |c2 |k2 |a3 |l3 |c3 |k3 |i3 |a4 |l4 |c4 |k4 |i4 |a5 |l5 |c5 |k5 |i5 |a6 |l6 |c6 |k6 |i6 |a7 |l7 |c7 |k7 |i7 |a8 |l8 |c8 |k8 |i8 |a9 |l9 |c9 |k9 |i9 |a10 |l10 |c10 |k10 |i10 |a11 |l11 |c11 |k11 |i11 |a12 |l12 |c12 |k12 |i12 |a13 |l13 |c13 |k13 |i13 |a14 |l14 |c14 |k14 |i14 |a15 |l15 |c15 |k15 |i15 |a16 |l16 |c16 |k16 |i16 |a17 |l17 |c17 |k17 |i17 |a18 |l18 |c18 |k18 |i18 |a19 |l19 |c19 |k19 |i19 |a20 |l20 |c20 |k20 |i20 |a21 |l21 |c21 |k21 |i21 |a22 |l22 |c22 |k22 |i22 |a23 |l23 |c23 |k23 |i23 |a24 |l24 |c24 |k24 |i24 |a25 |l25 |c25 |k25 |i25 |a26 |l26 |c26 |k26 |i26 |a27 |l27 |c27 |k27 |i27 |a28 |l28 |c28 |k28 |i28 |a29 |l29 |c29 |k29 |i29 |a30 |l30 |c30 |k30 |i30 |a31 |l31 |c31 |k31 |i31 |a32 |l32 |c32 |k32 |i32 |a33 |l33 |c33 |k33 |i33 |a34 |l34 |c34 |k34 |i34 |a35 |l35 |c35 |k35 |i35 |a36 |l36 |c36 |k36 |i36 |a37 |l37 |c37 |k37 |i37 |a38 |l38 |c38 |k38 |i38 |a39 |l39 |c39 |k39 |i39 |a40 |l40 |c40 |k40 |i40 |a41 |l41 |c41 |k41 |i41 |a42 |l42 |c42 |k42 |i42 |a43 |l43 |c43 |k43 |i43 |a44 |l44 |c44 |k44 |i44 |a45 |l45 |c45 |k45 |i45 |a46 |l46 |c46 |k46 |a47 |l47 |c47 |k47 |a48 |l48 |c48 |k48 |a49 |l49 |c49 |k49 |a50 |l50 |c50 |k50 |a51 |l51 |c51 |k51 |z_max |z_range |z_list |z_len |z_enumerate |z_bool |z_isinstance |z_int |z_str |z_dict |z_tuple |z_min=>k_is)
